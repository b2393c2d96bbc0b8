/- Which files are chosen, by the code: an entry is taken in. -/
import Derived.Test.YtndfmgdhiallpaaGreatDoorJq
import Derived.Test.YtndfmgdhiallpaaGreatDoorJd
import Derived.Test.YtndfmgdhiallpaaGreatDoorJh
namespace Go.Proofs.YtndfmgdhiallpaaGreatDoor
open Go.RowKit Go.Maps

theorem ownk_kept {S : Nat → Prop} {w w' : World} {e : TypeId} {k : Nat} {v : Value} {n : Nat} {xs : List Value} (h : w.ownsRow 0 e k v n xs) (ho : Only S w w') (hs : ∀ b, v.ownBlock = some b → ¬ S b) : w'.ownsRow 0 e k v n xs := by
  obtain ⟨hl, h | ⟨b, cap, cur, hv, h1, hg, r⟩⟩ := h
  · exact ⟨hl, .inl h⟩
  · exact ⟨hl, .inr ⟨b, cap, cur, hv, h1, (ho.block b (Array.getElem?_eq_some_iff.1 hg).1 (hs b (by rw [hv]; rfl))).trans hg, r⟩⟩
theorem FilesAt.kept {S : Nat → Prop} {w w' : World} {v : Value} {fs : List Fl} (h : FilesAt w v fs) (ho : Only S w w') (hs : ∀ b, v.ownBlock = some b → ¬ S b) : FilesAt w' v fs := ownk_kept h ho hs
theorem FilesAt.old {w w' : World} {v : Value} {fs : List Fl} (h : FilesAt w v fs) (ho : Old w w') : FilesAt w' v fs := h.kept ho (fun _ _ x => x)
theorem flCells_app (a b : List Fl) : flCells (a ++ b) = flCells a ++ flCells b := by simp [flCells]
end Go.Proofs.YtndfmgdhiallpaaGreatDoor
