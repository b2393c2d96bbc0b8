/- The law's world, and its steps. -/
import Derived.Test.YtndfmgdhiallpaaGreatDoorMd
namespace Go.Proofs.YtndfmgdhiallpaaGreatDoor
open Go.RowKit

abbrev nilS : Value := .slice none 0 0
/-- The law's world: its lists are empty. -/
def WCells (m v ar : ByteArray) (pd pr : Value) (c : Int) : Array Value := #[.string m, .string v, .string ar, pd, pr, nilS, nilS, nilS, nilS, nilS, nilS, .int .i64 c]
def WAt (w : World) (b : Nat) : Prop := ∃ m v ar pd pr c, w.heap[b]? = some (.cells (WCells m v ar pd pr c) 77 (0, 0))
theorem WAt.lt {w : World} {b : Nat} (h : WAt w b) : b < w.heap.size := by
  obtain ⟨_, _, _, _, _, _, h⟩ := h
  exact (Array.getElem?_eq_some_iff.1 h).1
theorem WAt.old {w w' : World} {b : Nat} (h : WAt w b) (ho : Old w w') : WAt w' b := by
  obtain ⟨m, v, ar, pd, pr, c, h⟩ := h
  exact ⟨m, v, ar, pd, pr, c, old_heap ho h⟩
theorem Only.oldW {S : Nat → Prop} {w w' : World} (h : Old w w') : Only S w w' := h.mono (fun _ _ x => x.elim)
/-- A step's record. -/
def opV (k a c : Int) (s t : ByteArray) (tr fi : Value) : Array Value := #[.int .i64 k, .int .i64 a, .int .i64 c, .string s, .string t, tr, fi]

set_option maxRecDepth 100000 in
set_option maxHeartbeats 1000000 in
/-- Kind 1. -/
theorem step_one (a c : Int) (s t : ByteArray) (tr fi : Value) (b : Nat) (w : World) (hw : WAt w b) :
    Calls Tryz.prog 38 #[.pointer (some ⟨b, 0, none⟩), .agg (opV 1 a c s t tr fi)] w fun e w' => e = .returned (.bool true) ∧ WAt w' b ∧ Only (fun i => i = b) w w' := by
  have hb := hw.lt
  obtain ⟨m, v, ar, pd, pr, cn, hg⟩ := hw
  have hc0 : w.cell? ⟨b, 0, none⟩ = some (.string m) := by rw [cell_of_row w b 0 _ _ (0, 0) hg]; rfl
  have hc1 : w.cell? ⟨b, 1, none⟩ = some (.string v) := by rw [cell_of_row w b 1 _ _ (0, 0) hg]; rfl
  have hf0 := frozen_of_row w b 0 _ _ hg
  have hf1 := frozen_of_row w b 1 _ _ hg
  have HG := hide hg
  clear hg
  unfold opV
  go_enter Tryz.func38, Tryz.ntmps38
  go_wp2_with fail
  go_ret
  refine ⟨rfl, ⟨s, t, ar, pd, pr, cn, ?_⟩, ?_⟩
  · have h1 := heap_setCell_same w b 0 _ _ (.string s) (unhide HG)
    have h2 := heap_setCell_same _ b 1 _ _ (.string t) h1
    exact (Below.heap_alloc _ _ _ (by simpa [World.setCell] using hb)).trans h2
  · exact (((Only.refl (fun i => i = b) w).setCell (p := ⟨b, 0, none⟩) (fun _ => rfl) _).setCell (p := ⟨b, 1, none⟩) (fun _ => rfl) _).alloc _

set_option maxRecDepth 100000 in
set_option maxHeartbeats 1000000 in
/-- Kind 2. -/
theorem step_two (a c : Int) (s t : ByteArray) (hs : s.size ≤ 140737488355328) (tr fi : Value) (b : Nat) (w : World) (hw : WAt w b) (hgl : Glob w) :
    Calls Tryz.prog 38 #[.pointer (some ⟨b, 0, none⟩), .agg (opV 2 a c s t tr fi)] w fun e w' => e = .returned (.bool true) ∧ WAt w' b ∧ Only (fun i => i = b) w w' := by
  have hsm : s.size ≤ maxLen := by unfold maxLen; omega
  have H9 := hide (fun w1 h => valiseDigest_any s hs w1 h)
  have H10 := hide (fun w1 => refDigest_any s w1 hs)
  have H11 := hide (fun w1 => valiseCheck_any s w1 hsm)
  have H12 := hide (fun w1 => refCheck_any s w1 hsm)
  generalize digestOf s = d at H9 H10
  have HOp : Hid (Row (w.alloc (.cells (opV 2 a c s t tr fi) 79)) w.heap.size 79 7 (fun j => (opV 2 a c s t tr fi).getD j undef)) := Row.new w _ _ 7 _ (by rw [opV]; exact Nat.le_refl _) (fun j hj => by
    have : j = 0 ∨ j = 1 ∨ j = 2 ∨ j = 3 ∨ j = 4 ∨ j = 5 ∨ j = 6 := by omega
    rcases this with rfl | rfl | rfl | rfl | rfl | rfl | rfl <;> rfl)
  have HWA := hide (hw.old ((Only.refl _ w).alloc (.cells (opV 2 a c s t tr fi) 79)))
  have HGL := hide (hgl.old ((Only.refl _ w).alloc (.cells (opV 2 a c s t tr fi) 79)))
  have HOL : Hid (Old w (w.alloc (.cells (opV 2 a c s t tr fi) 79))) := (Only.refl _ w).alloc _
  clear hw hgl hs hsm
  unfold opV at *
  go_enter Tryz.func38, Tryz.ntmps38
  go_wp2_with fail
  generalize w.alloc (.cells #[.int .i64 2, .int .i64 a, .int .i64 c, .string s, .string t, tr, fi] 79) = W at *
  refine (unhide H9 _ (unhide HGL)).mono ?_
  rintro e w1 ⟨rfl, ho1⟩
  have HO1 := hide (Only.trans (unhide HOL) ho1)
  have HW1 := hide ((unhide HWA).old ho1)
  have HR1 := hide ((unhide HOp).old ho1)
  have hc1 : w1.cell? ⟨w.heap.size, 3, none⟩ = some (.string s) := (unhide HR1).cell 3 (by omega)
  clear ho1 HOL HWA HOp
  go_wp2_with fail
  refine (unhide H10 _).mono ?_
  rintro e w2 ⟨rfl, ho2⟩
  have HO2 := hide (Only.trans (unhide HO1) ho2)
  have HW2 := hide ((unhide HW1).old ho2)
  have hc2 : w2.cell? ⟨w.heap.size, 3, none⟩ = some (.string s) := ((unhide HR1).old ho2).cell 3 (by omega)
  clear ho2 hc1
  go_wp2_with (first
    | (go_at_call 40; refine (unhide H11 _).mono ?_; rintro e w3 ⟨rfl, rfl⟩)
    | (go_at_call 58; refine (unhide H12 _).mono ?_; rintro e w3 ⟨rfl, rfl⟩))
  go_ret
  exact ⟨rfl, HW2, Only.oldW (unhide HO2)⟩

set_option maxRecDepth 100000 in
set_option maxHeartbeats 1000000 in
/-- Kinds below 1. -/
theorem step_low (k a c : Int) (hk : k ≤ 0) (s t : ByteArray) (tr fi : Value) (b : Nat) (w : World) (hw : WAt w b) :
    Calls Tryz.prog 38 #[.pointer (some ⟨b, 0, none⟩), .agg (opV k a c s t tr fi)] w fun e w' => e = .returned (.bool true) ∧ WAt w' b ∧ Only (fun i => i = b) w w' := by
  have h1 : (k == 1) = false := by rw [beq_eq_false_iff_ne]; omega
  have h2 : (k == 2) = false := by rw [beq_eq_false_iff_ne]; omega
  have h3 : (k == 3) = false := by rw [beq_eq_false_iff_ne]; omega
  have h4 : (k == 4) = false := by rw [beq_eq_false_iff_ne]; omega
  have h5 : (k == 5) = false := by rw [beq_eq_false_iff_ne]; omega
  have h6 : (k == 6) = false := by rw [beq_eq_false_iff_ne]; omega
  have h7 : (k == 7) = false := by rw [beq_eq_false_iff_ne]; omega
  have h8 : (k == 8) = false := by rw [beq_eq_false_iff_ne]; omega
  have h9 : (k == 9) = false := by rw [beq_eq_false_iff_ne]; omega
  have h10 : (k == 10) = false := by rw [beq_eq_false_iff_ne]; omega
  have h11 : (k == 11) = false := by rw [beq_eq_false_iff_ne]; omega
  have h12 : (k == 12) = false := by rw [beq_eq_false_iff_ne]; omega
  have h13 : (k == 13) = false := by rw [beq_eq_false_iff_ne]; omega
  have h14 : (k == 14) = false := by rw [beq_eq_false_iff_ne]; omega
  have HW := hide hw
  clear hw hk
  unfold opV
  go_enter Tryz.func38, Tryz.ntmps38
  go_wp2_with fail
  go_ret
  exact ⟨rfl, (unhide HW).old ((Only.refl _ w).alloc _), (Only.refl _ w).alloc _⟩

set_option maxRecDepth 100000 in
set_option maxHeartbeats 1000000 in
/-- All lists are empty: they read as they did. -/
theorem still_any (b : Nat) (w : World) (hw : WAt w b) :
    Calls Tryz.prog 39 #[.pointer (some ⟨b, 0, none⟩)] w fun e w' => e = .returned (.bool true) ∧ w' = w := by
  obtain ⟨m, v, ar, pd, pr, cn, hg⟩ := hw
  have hc5 : w.cell? ⟨b, 5, none⟩ = some nilS := by rw [cell_of_row w b 5 _ _ (0, 0) hg]; rfl
  have hc7 : w.cell? ⟨b, 7, none⟩ = some nilS := by rw [cell_of_row w b 7 _ _ (0, 0) hg]; rfl
  have hc9 : w.cell? ⟨b, 9, none⟩ = some nilS := by rw [cell_of_row w b 9 _ _ (0, 0) hg]; rfl
  clear hg
  go_enter Tryz.func39, Tryz.ntmps39
  go_wp2_with fail
  go_loop [3] (fun i => i = .int .i64 0) (fun _ => 0)
  case atStart => rfl
  case round =>
    subst hrel
    go_wp2_with fail
    go_loop [5] (fun i => i = .int .i64 0) (fun _ => 0)
    case atStart => rfl
    case round =>
      subst hrel
      go_wp2_with fail
      go_loop [7] (fun i => i = .int .i64 0) (fun _ => 0)
      case atStart => rfl
      case round =>
        subst hrel
        go_wp2_with fail
        go_ret
        exact ⟨rfl, rfl⟩
end Go.Proofs.YtndfmgdhiallpaaGreatDoor
