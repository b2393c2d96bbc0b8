/- Contracts of package disk: Read, free, Room, Stop, Down, Steps. -/
import Derived.Test.YtndfmgdhiallpaaDf
namespace Go.Proofs.Ytndfmgdhiallpaa
open Go.RowKit

def isFile (ts : List Th) (q : ByteArray) : Bool := isAt ts q && !(nth ts (low ts q)).f
def readOf (ts : List Th) (q : ByteArray) : ByteArray := if isFile ts q then (nth ts (low ts q)).d else ⟨#[]⟩

set_option maxHeartbeats 400000 in
theorem read_disk {w : World} {b : Nat} {v : Value} {D : Dsk} (h : DiskAt w b v D) (q : ByteArray) (hm : D.ts.length ≤ 1000000000000) :
    Calls Try.prog 8 #[.pointer (some ⟨b, 0, none⟩), .string q] w fun e w' => e = .returned (.tuple #[.string (readOf D.ts q), .bool (isFile D.ts q)]) ∧ ∃ n, w' = w.drewN n := by
  have hc := h.cells.1
  have HA := hide (at_disk h q hm)
  unfold readOf isFile
  by_cases hi : isAt D.ts q = true
  · obtain ⟨g, cap, cur, rfl, hg, h1, h2, h3, h4⟩ := thg_some h.2.1 (by have := isAt_lt hi; omega)
    have hlt := isAt_lt hi
    have hcc := (row_cells hg h4 _ hlt).2.1
    have hcd := (row_cells hg h4 _ hlt).2.2
    rw [hi] at HA ⊢
    clear h hg h4
    generalize low D.ts q = k at *
    cases hf : (nth D.ts k).f <;> rw [hf] at hcc
    all_goals
      go_enter Try.func8, Try.ntmps8
      go_wp2_with (go_at_call 21; refine (unhide HA).mono ?_; rintro e w' ⟨rfl, n, rfl⟩)
      go_ret2
      exact ⟨ret2_eq (by simp) (by simp), _, rfl⟩
  · have hi : isAt D.ts q = false := by simpa using hi
    rw [hi] at HA ⊢
    clear h
    go_enter Try.func8, Try.ntmps8
    go_wp2_with (go_at_call 21; refine (unhide HA).mono ?_; rintro e w' ⟨rfl, n, rfl⟩)
    go_ret2
    exact ⟨ret2_eq (by simp) (by simp), _, rfl⟩

set_option maxHeartbeats 400000 in
theorem room_disk {w : World} {b : Nat} {v : Value} {D : Dsk} (h : DiskAt w b v D) (n : Int) :
    Calls Try.prog 14 #[.pointer (some ⟨b, 0, none⟩), .int .i64 n] w fun e w' => e = .returned (.tuple #[]) ∧ DiskAt w' b v { D with room := max n 0 } ∧ Only (fun k => k = b) w w' := by
  obtain ⟨h0, h1, h2, h3, h4⟩ := h.cells
  have hf := h.thaw
  have H := hide h
  clear h
  by_cases hn : n < 0
  · rw [show max n 0 = 0 by omega]
    go_enter Try.func14, Try.ntmps14
    go_wp2
    go_end0
    exact ⟨rfl, (unhide H).setRoom _, only_set _ _ _ _⟩
  · rw [show max n 0 = n by omega]
    go_enter Try.func14, Try.ntmps14
    go_wp2
    go_end0
    exact ⟨rfl, (unhide H).setRoom _, only_set _ _ _ _⟩

set_option maxHeartbeats 400000 in
theorem stop_disk {w : World} {b : Nat} {v : Value} {D : Dsk} (h : DiskAt w b v D) (n : Int) :
    Calls Try.prog 15 #[.pointer (some ⟨b, 0, none⟩), .int .i64 n] w fun e w' => e = .returned (.tuple #[]) ∧ DiskAt w' b v { D with left := max n 0 } ∧ Only (fun k => k = b) w w' := by
  obtain ⟨h0, h1, h2, h3, h4⟩ := h.cells
  have hf := h.thaw
  have H := hide h
  clear h
  by_cases hn : n < 0
  · rw [show max n 0 = 0 by omega]
    go_enter Try.func15, Try.ntmps15
    go_wp2
    go_end0
    exact ⟨rfl, (unhide H).setLeft _, only_set _ _ _ _⟩
  · rw [show max n 0 = n by omega]
    go_enter Try.func15, Try.ntmps15
    go_wp2
    go_end0
    exact ⟨rfl, (unhide H).setLeft _, only_set _ _ _ _⟩

set_option maxHeartbeats 400000 in
theorem down_disk {w : World} {b : Nat} {v : Value} {D : Dsk} (h : DiskAt w b v D) :
    Calls Try.prog 16 #[.pointer (some ⟨b, 0, none⟩)] w fun e w' => e = .returned (.bool D.down) ∧ w' = w := by
  obtain ⟨h0, h1, h2, h3, h4⟩ := h.cells
  clear h
  go_enter Try.func16, Try.ntmps16
  go_wp2
  go_ret
  exact ⟨rfl, rfl⟩

set_option maxHeartbeats 400000 in
theorem steps_disk {w : World} {b : Nat} {v : Value} {D : Dsk} (h : DiskAt w b v D) :
    Calls Try.prog 11 #[.pointer (some ⟨b, 0, none⟩)] w fun e w' => e = .returned (.int .i64 D.steps) ∧ w' = w := by
  obtain ⟨h0, h1, h2, h3, h4⟩ := h.cells
  clear h
  go_enter Try.func11, Try.ntmps11
  go_wp2
  go_ret
  exact ⟨rfl, rfl⟩

def freeOf (ts : List Th) (p : ByteArray) : Int :=
  if !(parentOf p).isSome || (!((upOf p).toList == []) && !(isOf ts (upOf p) == 2)) then 1 else if isOf ts p == 0 then 0 else 2

set_option maxHeartbeats 400000 in
theorem free_disk {w : World} {b : Nat} {v : Value} {D : Dsk} (h : DiskAt w b v D) (q : ByteArray) (hq : q.size ≤ 1000000000000) (hm : D.ts.length ≤ 1000000000000) :
    Calls Try.prog 18 #[.pointer (some ⟨b, 0, none⟩), .string q] w fun e w' => e = .returned (.int .i64 (freeOf D.ts q)) ∧ ∃ n, w' = w.drewN n := by
  have HI := hide (fun (w1 : World) (u : ByteArray) (h1 : DiskAt w1 b v D) => is_disk h1 u hm)
  have H := hide h
  have HP := hide (fun w => parent_any q w hq)
  unfold freeOf
  clear h
  generalize upOf q = u at *
  generalize isOf D.ts = f at *
  cases hs : (parentOf q).isSome
  · rw [hs] at HP
    go_enter Try.func18, Try.ntmps18
    go_wp2_with (go_at_call 22; refine (unhide HP _).mono ?_; rintro e w' ⟨rfl, rfl⟩)
    go_ret
    exact ⟨ret1_eq (by simp), 0, rfl⟩
  · rw [hs] at HP
    cases he : (u.toList == []) <;> cases h1 : (f u == 2) <;> cases h2 : (f q == 0)
    all_goals
      go_enter Try.func18, Try.ntmps18
      go_wp2_with (first
        | (go_at_call 22; refine (unhide HP _).mono ?_; rintro e w' ⟨rfl, rfl⟩)
        | (go_at_call 12; refine (unhide HI _ _ (by exact unhide H)).mono ?_; rintro e w' ⟨rfl, n, rfl⟩))
      go_ret
      refine ⟨ret1_eq (by simp), ?_⟩
      first | exact ⟨_, rfl⟩ | exact ⟨_, World.drewN_drewN ..⟩
end Go.Proofs.Ytndfmgdhiallpaa
