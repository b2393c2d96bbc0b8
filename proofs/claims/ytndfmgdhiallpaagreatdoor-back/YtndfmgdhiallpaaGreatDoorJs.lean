/- The law of folders that are modules: plain. The law of folders that are modules: its walk. -/
import Derived.Test.YtndfmgdhiallpaaGreatDoorJr
import Derived.Test.YtndfmgdhiallpaaGreatDoorJm
namespace Go.Proofs.YtndfmgdhiallpaaGreatDoor
open Go.RowKit Go.Maps

def takenL (L : List ByteArray) (T : List Ent) : List Ent := T.filter (fun e => whyP L e == 0)
def leftL (L : List ByteArray) (T : List Ent) : List Ent := T.filter (fun e => whyP L e != 0)
theorem cgo_parts (L : List ByteArray) (T : List Ent) : ∀ s : CSt, (T.foldl (cstep L) s).fs = s.fs ++ (takenL L T).map (fun e => (e.nm, e.dt)) ∧ (T.foldl (cstep L) s).lf = s.lf ++ (leftL L T).map (fun e => (e.nm, whyP L e)) ∧ (T.foldl (cstep L) s).tb = (takenL L T).foldl (fun f e => addP f e.nm) s.tb ∧ (T.foldl (cstep L) s).all = s.all + ((takenL L T).map (fun e => e.dt.size)).sum := by
  induction T with
  | nil => intro s; simp [takenL, leftL]
  | cons e r ih =>
    intro s
    rw [List.foldl_cons]
    obtain ⟨h1, h2, h3, h4⟩ := ih (cstep L s e)
    rw [h1, h2, h3, h4]
    unfold cstep takenL leftL
    by_cases h : whyP L e = 0
    · rw [if_pos h, List.filter_cons_of_pos (by simpa using h), List.filter_cons_of_neg (by simpa using h)]
      simp [Nat.add_assoc]
    · rw [if_neg h, List.filter_cons_of_neg (by simpa using h), List.filter_cons_of_pos (by simpa using h)]
      simp
theorem cgo_fs (L : List ByteArray) (T : List Ent) : (cgo L T).fs = (takenL L T).map (fun e => (e.nm, e.dt)) := by rw [cgo, (cgo_parts L T cst0).1]; rfl
theorem cgo_lf (L : List ByteArray) (T : List Ent) : (cgo L T).lf = (leftL L T).map (fun e => (e.nm, whyP L e)) := by rw [cgo, (cgo_parts L T cst0).2.1]; rfl
theorem cgo_tb (L : List ByteArray) (T : List Ent) : (cgo L T).tb = (takenL L T).foldl (fun f e => addP f e.nm) (fun _ => none) := (cgo_parts L T cst0).2.2.1
theorem cgo_all (L : List ByteArray) (T : List Ent) : (cgo L T).all = ((takenL L T).map (fun e => e.dt.size)).sum := by rw [cgo, (cgo_parts L T cst0).2.2.2]; exact Nat.zero_add _
theorem sumD_le (l : List Ent) (m : Nat) (h : ∀ e ∈ l, e.dt.size ≤ m) : (l.map (fun e => e.dt.size)).sum ≤ l.length * m := by
  induction l with
  | nil => simp
  | cons a r ih =>
    have h1 := h a (List.mem_cons_self ..)
    have h2 := ih (fun e he => h e (List.mem_cons_of_mem _ he))
    rw [List.map_cons, List.sum_cons, List.length_cons, Nat.succ_mul]; omega
/-- Sorted, and the same but for the order: the same. -/
theorem sorted_eq {a b : List Fl} (hp : a.Perm b) (ha : a.Pairwise (fun x y => x.1.data.toList < y.1.data.toList)) (hb : b.Pairwise (fun x y => x.1.data.toList < y.1.data.toList)) : a = b :=
  hp.eq_of_pairwise (fun _ _ _ _ h1 h2 => absurd (List.lt_trans h1 h2) (List.lt_irrefl _)) ha hb

end Go.Proofs.YtndfmgdhiallpaaGreatDoor
namespace Go.Proofs.YtndfmgdhiallpaaGreatDoor
open Go.RowKit Go.Maps

end Go.Proofs.YtndfmgdhiallpaaGreatDoor
