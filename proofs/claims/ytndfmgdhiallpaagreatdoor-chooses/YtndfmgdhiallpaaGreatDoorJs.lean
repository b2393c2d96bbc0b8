import Derived.Test.YtndfmgdhiallpaaGreatDoorJr
import Derived.Test.YtndfmgdhiallpaaGreatDoorJi
namespace Go.Proofs.YtndfmgdhiallpaaGreatDoor
open Go.RowKit Go.Maps
def takenL (L : List ByteArray) (T : List Ent) : List Ent := T.filter (fun e => whyP L e == 0)
def leftL (L : List ByteArray) (T : List Ent) : List Ent := T.filter (fun e => whyP L e != 0)
theorem cgo_parts (L : List ByteArray) (T : List Ent) : ∀ s : CSt, (T.foldl (cstep L) s).fs = s.fs ++ (takenL L T).map (fun e => (e.nm, e.dt)) ∧ (T.foldl (cstep L) s).lf = s.lf ++ (leftL L T).map (fun e => (e.nm, whyP L e)) ∧ (T.foldl (cstep L) s).tb = (takenL L T).foldl (fun f e => addP f e.nm) s.tb ∧ (T.foldl (cstep L) s).all = s.all + ((takenL L T).map (fun e => e.dt.size)).sum := by
 induction T with
 | nil => intro s; simp [takenL, leftL]
 | cons e r ih =>
  intro s
  rw [List.foldl_cons]
  obtain ⟨h1, h2, h3, h4⟩ := ih (cstep L s e)
  rw [h1, h2, h3, h4]
  unfold cstep takenL leftL
  by_cases h : whyP L e = 0
  ·rw [if_pos h, List.filter_cons_of_pos (by simpa using h), List.filter_cons_of_neg (by simpa using h)]
   simp [Nat.add_assoc]
  ·rw [if_neg h, List.filter_cons_of_neg (by simpa using h), List.filter_cons_of_pos (by simpa using h)]
   simp
theorem cgo_fs (L : List ByteArray) (T : List Ent) : (cgo L T).fs = (takenL L T).map (fun e => (e.nm, e.dt)) := by rw [cgo, (cgo_parts L T cst0).1]; rfl
theorem cgo_lf (L : List ByteArray) (T : List Ent) : (cgo L T).lf = (leftL L T).map (fun e => (e.nm, whyP L e)) := by rw [cgo, (cgo_parts L T cst0).2.1]; rfl
theorem sorted_eq {a b : List Fl} (hp : a.Perm b) (ha : a.Pairwise (fun x y => x.1.data.toList < y.1.data.toList)) (hb : b.Pairwise (fun x y => x.1.data.toList < y.1.data.toList)) : a = b :=
 hp.eq_of_pairwise (fun _ _ _ _ h1 h2 => absurd (List.lt_trans h1 h2) (List.lt_irrefl _)) ha hb
end Go.Proofs.YtndfmgdhiallpaaGreatDoor
namespace Go.Proofs.YtndfmgdhiallpaaGreatDoor
open Go.RowKit Go.Maps
set_option maxRecDepth 100000 in
set_option maxHeartbeats 400000 in
theorem chooseA (gt cap : Nat) (T : List Ent) (hT : T.length ≤ 200) (hs : ∀ e ∈ T, e.nm.size ≤ 2000000) (hok : COk T) (hds : (cgo (nestL T) T).fs.Pairwise (fun a b => a.1 ≠ b.1)) (w : World) (hm : MaxAt w) (ht : EntsAt w gt T) (hgt : gt < w.heap.size) :
 Calls Tryz.prog 25 #[.slice (some ⟨gt, 0, none⟩) T.length cap] w fun r w' => ∃ v u fs', r = .returned (.tuple #[v, u, .int .i64 0]) ∧ Old w w' ∧ fs'.Perm (cgo (nestL T) T).fs ∧ fs'.Pairwise (fun a b => a.1.data.toList < b.1.data.toList) ∧ FilesAt w' v fs' ∧ LeftsAt w' u (cgo (nestL T) T).lf ∧ (∀ b, v.ownBlock = some b → w.heap.size ≤ b) ∧ (∀ b, u.ownBlock = some b → w.heap.size ≤ b) := by
 have H1 := hide (filesA gt cap T hT hs hok hds w hm ht hgt)
 clear hs hok hds hm ht hgt
 go_enter Tryz.func25, Tryz.ntmps25
 go_wp2_with fail
 refine (uh H1).mono ?_
 rintro e w1 ⟨v, u, fs', rfl, h⟩
 have HH := hide h
 clear h H1
 go_wp2_with fail
 go_ret3
 exact ⟨v, u, fs', rfl, HH⟩
end Go.Proofs.YtndfmgdhiallpaaGreatDoor
