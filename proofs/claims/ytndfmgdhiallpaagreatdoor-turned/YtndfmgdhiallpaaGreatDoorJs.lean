/- The law of folders that are modules: plain. The law of folders that are modules: its walk. -/
import Derived.Test.YtndfmgdhiallpaaGreatDoorJr
import Derived.Test.YtndfmgdhiallpaaGreatDoorJm
namespace Go.Proofs.YtndfmgdhiallpaaGreatDoor
open Go.RowKit Go.Maps

end Go.Proofs.YtndfmgdhiallpaaGreatDoor
namespace Go.Proofs.YtndfmgdhiallpaaGreatDoor
open Go.RowKit Go.Maps

/-- The tree's cells. -/
theorem entsAt_new (w : World) (T : List Ent) (cs : Array Value) (hc : cs.toList = T.flatMap (fun e => e.v.toList)) : EntsAt (w.alloc (.cells cs 39)) w.heap.size T := by
  have key : ∀ (T : List Ent) (i : Nat), i < T.length → (T.flatMap (fun e => e.v.toList))[i * 3]? = some (.string (T.getD i ent0).nm) ∧ (T.flatMap (fun e => e.v.toList))[i * 3 + 1]? = some (.bool (T.getD i ent0).ln) ∧ (T.flatMap (fun e => e.v.toList))[i * 3 + 2]? = some (.string (T.getD i ent0).dt) := by
    intro T
    induction T with
    | nil => intro i hi; simp at hi
    | cons a r ih =>
      intro i hi
      rw [List.flatMap_cons]
      cases i with
      | zero => simp
      | succ i =>
        have h := ih i (by simpa using hi)
        rw [show (i + 1) * 3 = i * 3 + 3 by omega]
        simpa using h
  intro i hi
  obtain ⟨h1, h2, h3⟩ := key T i hi
  have hx := Go.heap_alloc_new w (.cells cs 39)
  rw [← hc] at h1 h2 h3
  rw [cell_of_row _ _ _ _ _ (0, 0) hx, cell_of_row _ _ _ _ _ (0, 0) hx, cell_of_row _ _ _ _ _ (0, 0) hx, ← Array.getElem?_toList, ← Array.getElem?_toList, ← Array.getElem?_toList]
  exact ⟨by rw [World.size_alloc]; omega, h1, h2, h3⟩
end Go.Proofs.YtndfmgdhiallpaaGreatDoor
