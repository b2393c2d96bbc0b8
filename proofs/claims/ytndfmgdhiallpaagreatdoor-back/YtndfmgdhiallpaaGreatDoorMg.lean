/- Packed bytes: the document's blocks of bytes as they are. Packed bytes: the document's row of lengths. -/
import Derived.Test.YtndfmgdhiallpaaGreatDoorMf
namespace Go.Proofs.YtndfmgdhiallpaaGreatDoor
open Go.RowKit

theorem upTo_ge (a : Nat) : a ≤ upTo a ∧ upTo a < a + 8 ∧ upTo a % 8 = 0 := by unfold upTo; omega
theorem upTo_le {a n : Nat} (h : a ≤ 8 * n) : upTo a ≤ 8 * n := by unfold upTo; omega
end Go.Proofs.YtndfmgdhiallpaaGreatDoor
namespace Go.Proofs.YtndfmgdhiallpaaGreatDoor
open Go.RowKit

theorem own_keptB {S : Nat → Prop} {w w' : World} {base : Nat} {e : TypeId} {v : Value} {n : Nat} {xs : List Value} (h : w.ownsRow base e 1 v n xs) (ho : Only S w w') (hs : ∀ b, v.ownBlock = some b → ¬ S b) : w'.ownsRow base e 1 v n xs := by
  obtain ⟨hl, h | ⟨b, cap, cur, hv, h1, hg, r⟩⟩ := h
  · exact ⟨hl, .inl h⟩
  · exact ⟨hl, .inr ⟨b, cap, cur, hv, h1, (ho.block b (Array.getElem?_eq_some_iff.1 hg).1 (hs b (by rw [hv]; rfl))).trans hg, r⟩⟩
end Go.Proofs.YtndfmgdhiallpaaGreatDoor
