/- Contracts of package disk: Is, Read, step, free, and the small ones. -/
import Derived.Test.YtndfmgdhiallpaaDe
namespace Go.Proofs.Ytndfmgdhiallpaa
open Go.RowKit

def isOf (ts : List Th) (q : ByteArray) : Int := if isAt ts q then (if (nth ts (low ts q)).f then 2 else 1) else 0

theorem isAt_lt {ts : List Th} {q : ByteArray} (h : isAt ts q = true) : low ts q < ts.length := by
  unfold isAt at h; simp at h; exact h.1

/-- Where something is there, the slice is not nil. -/
theorem thg_some {w : World} {v : Value} {ts : List Th} (h : Thg w v ts) (h0 : 0 < ts.length) :
    ∃ g cap cur, v = .slice (some ⟨g, 0, none⟩) ts.length cap ∧ w.heap[g]? = some (.cells cur 41 (0, 0)) ∧ ts.length ≤ cap ∧ cap ≤ maxLen ∧ cap * 3 ≤ cur.size ∧ cur.toList.take (ts.length * 3) = flat ts := by
  rcases h with ⟨_, rfl⟩ | h
  · simp at h0
  · exact h

set_option maxHeartbeats 400000 in
theorem is_disk {w : World} {b : Nat} {v : Value} {D : Dsk} (h : DiskAt w b v D) (q : ByteArray) (hm : D.ts.length ≤ 1000000000000) :
    Calls Try.prog 12 #[.pointer (some ⟨b, 0, none⟩), .string q] w fun e w' => e = .returned (.int .i64 (isOf D.ts q)) ∧ ∃ n, w' = w.drewN n := by
  have hc := h.cells.1
  have HA := hide (at_disk h q hm)
  unfold isOf
  by_cases hi : isAt D.ts q = true
  · obtain ⟨g, cap, cur, rfl, hg, h1, h2, h3, h4⟩ := thg_some h.2.1 (by have := isAt_lt hi; omega)
    have hlt := isAt_lt hi
    have hcc := (row_cells hg h4 _ hlt).2.1
    rw [if_pos hi]
    rw [hi] at HA
    clear h hg h4
    generalize low D.ts q = k at *
    cases hf : (nth D.ts k).f <;> rw [hf] at hcc
    all_goals
      go_enter Try.func12, Try.ntmps12
      go_wp2_with (go_at_call 21; refine (unhide HA).mono ?_; rintro e w' ⟨rfl, n, rfl⟩)
      go_ret
      exact ⟨ret1_eq (by simp), _, rfl⟩
  · have hi : isAt D.ts q = false := by simpa using hi
    rw [hi] at HA
    rw [if_neg (by simp [hi])]
    clear h
    go_enter Try.func12, Try.ntmps12
    go_wp2_with (go_at_call 21; refine (unhide HA).mono ?_; rintro e w' ⟨rfl, n, rfl⟩)
    go_ret
    exact ⟨ret1_eq (by simp), _, rfl⟩

theorem only_set (w : World) (b i : Nat) (u : Value) : Only (fun k => k = b) w (w.setCell ⟨b, i, none⟩ u) := (Only.refl (fun k => k = b) w).setCell (p := ⟨b, i, none⟩) (fun _ => rfl) u
theorem only_set2 (w : World) (b i j : Nat) (u x : Value) : Only (fun k => k = b) w ((w.setCell ⟨b, i, none⟩ u).setCell ⟨b, j, none⟩ x) := (only_set w b i u).setCell (p := ⟨b, j, none⟩) (fun _ => rfl) x

theorem DiskAt.set {w : World} {b : Nat} {v : Value} {D : Dsk} (h : DiskAt w b v D) (i : Nat) (u : Value) (D' : Dsk) (ht : D'.ts = D.ts)
    (hc : (#[v, .int .i64 D.room, .int .i64 D.left, .int .i64 D.steps, .bool D.down] : Array Value).setIfInBounds i u = #[v, .int .i64 D'.room, .int .i64 D'.left, .int .i64 D'.steps, .bool D'.down]) :
    DiskAt (w.setCell ⟨b, i, none⟩ u) b v D' :=
  ⟨by rw [heap_setCell_same w b i _ _ u h.1, hc], by rw [ht]; exact h.2.1.kept (only_set w b i u) (fun k hk e => h.2.2 (e ▸ hk)), h.2.2⟩
theorem DiskAt.setRoom {w : World} {b : Nat} {v : Value} {D : Dsk} (h : DiskAt w b v D) (n : Int) : DiskAt (w.setCell ⟨b, 1, none⟩ (.int .i64 n)) b v { D with room := n } := h.set 1 _ _ rfl rfl
theorem DiskAt.setLeft {w : World} {b : Nat} {v : Value} {D : Dsk} (h : DiskAt w b v D) (n : Int) : DiskAt (w.setCell ⟨b, 2, none⟩ (.int .i64 n)) b v { D with left := n } := h.set 2 _ _ rfl rfl
theorem DiskAt.setSteps {w : World} {b : Nat} {v : Value} {D : Dsk} (h : DiskAt w b v D) (n : Int) : DiskAt (w.setCell ⟨b, 3, none⟩ (.int .i64 n)) b v { D with steps := n } := h.set 3 _ _ rfl rfl
theorem DiskAt.setDown {w : World} {b : Nat} {v : Value} {D : Dsk} (h : DiskAt w b v D) (n : Bool) : DiskAt (w.setCell ⟨b, 4, none⟩ (.bool n)) b v { D with down := n } := h.set 4 _ _ rfl rfl

/-- The slice value is stored anew. -/
theorem DiskAt.setThings {w : World} {b : Nat} {v v' : Value} {D : Dsk} {ts : List Th} (h : DiskAt w b v D) (ht : Thg w v' ts) (hb : v'.ownBlock ≠ some b) : DiskAt (w.setCell ⟨b, 0, none⟩ v') b v' { D with ts := ts } :=
  ⟨by rw [heap_setCell_same w b 0 _ _ v' h.1]; rfl, ht.kept (only_set w b 0 v') (fun k hk e => hb (e ▸ hk)), hb⟩

theorem Turn.of {w w' : World} {b : Nat} {v : Value} {D' : Dsk} (h : DiskAt w' b v D') (ho : Only (fun k => k = b) w w') : Turn w w' b v D' := ⟨v, h, ho.mono (fun _ _ e => .inl e), .inl rfl⟩

/-- One step more. -/
def stepped (D : Dsk) : Dsk :=
  { D with steps := wrap64 (D.steps + 1), down := (D.left == 0) || D.down, left := if (D.left == 0) || D.down then D.left else if 0 < D.left then wrap64 (D.left - 1) else D.left }
def goes (D : Dsk) : Bool := !((D.left == 0) || D.down)

set_option maxHeartbeats 400000 in
theorem step_disk {w : World} {b : Nat} {v : Value} {D : Dsk} (h : DiskAt w b v D) :
    Calls Try.prog 17 #[.pointer (some ⟨b, 0, none⟩)] w fun e w' => e = .returned (.bool (goes D)) ∧ DiskAt w' b v (stepped D) ∧ Only (fun k => k = b) w w' := by
  obtain ⟨h0, h1, h2, h3, h4⟩ := h.cells
  have hf := h.thaw
  have H := hide h
  unfold goes
  cases hl : (D.left == 0) <;> cases hd : D.down
  · by_cases hp : 0 < D.left
    · clear h
      rw [hd] at h4
      go_enter Try.func17, Try.ntmps17
      go_wp2
      go_ret
      refine ⟨rfl, ?_, only_set2 _ _ _ _ _ _⟩
      have := (((unhide H).setSteps (wrap64 (D.steps + 1))).setLeft (wrap64 (D.left - 1)))
      have e : stepped D = { D with steps := wrap64 (D.steps + 1), left := wrap64 (D.left - 1) } := by simp [stepped, hl, hd, hp]
      rw [e]; exact this
    · clear h
      rw [hd] at h4
      go_enter Try.func17, Try.ntmps17
      go_wp2
      go_ret
      refine ⟨rfl, ?_, only_set _ _ _ _⟩
      have := ((unhide H).setSteps (wrap64 (D.steps + 1)))
      have e : stepped D = { D with steps := wrap64 (D.steps + 1) } := by simp [stepped, hl, hd]; omega
      rw [e]; exact this
  · clear h
    rw [hd] at h4
    go_enter Try.func17, Try.ntmps17
    go_wp2
    go_ret
    refine ⟨rfl, ?_, only_set _ _ _ _⟩
    have := ((unhide H).setSteps (wrap64 (D.steps + 1)))
    have e : stepped D = { D with steps := wrap64 (D.steps + 1) } := by simp [stepped, hl, hd]
    rw [e]; exact this
  all_goals
    clear h
    rw [hd] at h4
    go_enter Try.func17, Try.ntmps17
    go_wp2
    go_ret
    refine ⟨rfl, ?_, only_set2 _ _ _ _ _ _⟩
    have := (((unhide H).setSteps (wrap64 (D.steps + 1))).setDown true)
    have e : stepped D = { D with steps := wrap64 (D.steps + 1), down := true } := by simp [stepped, hl, hd]
    rw [e]; exact this
end Go.Proofs.Ytndfmgdhiallpaa
