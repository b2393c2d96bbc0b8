/- Which files are chosen, by the code, any names: hidden, vendored. Which files are chosen, by the code, any tree: folders that are modules of their own; why an entry is left. Which files are chosen, by the code, any tree: why an entry is left. Why an entry is left, by the code. -/
import Derived.Test.YtndfmgdhiallpaaGreatDoorJp
import Derived.Test.YtndfmgdhiallpaaGreatDoorJd
namespace Go.Proofs.YtndfmgdhiallpaaGreatDoor
open Go.RowKit Go.Maps

end Go.Proofs.YtndfmgdhiallpaaGreatDoor
namespace Go.Proofs.YtndfmgdhiallpaaGreatDoor
open Go.RowKit Go.Maps

/-- An entry of a tree. -/
structure Ent where
  nm : ByteArray
  ln : Bool
  dt : ByteArray
abbrev Ent.v (e : Ent) : Array Value := #[.string e.nm, .bool e.ln, .string e.dt]
abbrev ent0 : Ent := ⟨⟨#[]⟩, false, ⟨#[]⟩⟩
/-- A tree's entries, in the block gt. -/
def EntsAt (w : World) (gt : Nat) (T : List Ent) : Prop := ∀ i, i < T.length → gt < w.heap.size ∧ w.cell? ⟨gt, i * 3, none⟩ = some (.string (T.getD i ent0).nm) ∧ w.cell? ⟨gt, i * 3 + 1, none⟩ = some (.bool (T.getD i ent0).ln) ∧ w.cell? ⟨gt, i * 3 + 2, none⟩ = some (.string (T.getD i ent0).dt)
theorem EntsAt.kept {S : Nat → Prop} {w w' : World} {gt : Nat} {T : List Ent} (h : EntsAt w gt T) (ho : Only S w w') (hs : ¬ S gt) : EntsAt w' gt T := fun i hi => by
  obtain ⟨h0, h1, h2, h3⟩ := h i hi
  exact ⟨Nat.lt_of_lt_of_le h0 ho.size, (ho.cell (p := ⟨gt, i * 3, none⟩) h0 hs).trans h1, (ho.cell (p := ⟨gt, i * 3 + 1, none⟩) h0 hs).trans h2, (ho.cell (p := ⟨gt, i * 3 + 2, none⟩) h0 hs).trans h3⟩
theorem EntsAt.old {w w' : World} {gt : Nat} {T : List Ent} (h : EntsAt w gt T) (ho : Old w w') : EntsAt w' gt T := h.kept ho (fun x => x)
end Go.Proofs.YtndfmgdhiallpaaGreatDoor
namespace Go.Proofs.YtndfmgdhiallpaaGreatDoor
open Go.RowKit Go.Maps

end Go.Proofs.YtndfmgdhiallpaaGreatDoor
namespace Go.Proofs.YtndfmgdhiallpaaGreatDoor
open Go.RowKit Go.Maps

end Go.Proofs.YtndfmgdhiallpaaGreatDoor
