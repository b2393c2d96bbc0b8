import Derived.Test.YtndfmgdhiallpaaGreatDoorJf
import Derived.Test.YtndfmgdhiallpaaGreatDoorMa
import Derived.Test.YtndfmgdhiallpaaGreatDoorMq
namespace Go.Proofs.YtndfmgdhiallpaaGreatDoor
open Go.RowKit
section
variable {P : Program} {ops : Array Oper} {Q : Exit → Act → World → Prop} {md : Region.Mode} {S : World → Prop} {L : Nat}
theorem wpAnyL_two {i j : Nat} {n : Nat} {ls : Array Bool} {a : Act} {w : World} (hr : Region.ready md ops ls = [i, j])
 (h : wpOp P ops Q i (fun a' w' => (i ≠ L → S w') ∧ wpAnyL P md ops Q S L n (ls.setIfInBounds i true) a' w') a w)
 (k : wpOp P ops Q j (fun a' w' => (j ≠ L → S w') ∧ wpAnyL P md ops Q S L n (ls.setIfInBounds j true) a' w') a w) : wpAnyL P md ops Q S L (n + 1) ls a w := by
 refine ⟨fun h0 => ?_, fun m hm => ?_⟩
 ·rw [hr] at h0; cases h0
 ·rw [hr] at hm
  rcases List.mem_cons.1 hm with rfl | hm
  ·exact h
  ·cases List.mem_singleton.1 hm; exact k
end
end Go.Proofs.YtndfmgdhiallpaaGreatDoor
namespace Go.Proofs.YtndfmgdhiallpaaGreatDoor
open Go.RowKit
abbrev Fl := ByteArray × ByteArray
def flCells (fs : List Fl) : List Value := fs.flatMap fun f => [.string f.1, .string f.2]
theorem flCells_len (fs : List Fl) : (flCells fs).length = fs.length * 2 := by
 induction fs with
 | nil => rfl
 | cons a r ih => rw [flCells, List.flatMap_cons, List.length_append, ← flCells, ih, List.length_cons]; simp; omega
theorem flCells_get (fs : List Fl) (j : Nat) (hj : j < fs.length) : (flCells fs)[j * 2]? = some (.string (fs.getD j default).1) ∧ (flCells fs)[j * 2 + 1]? = some (.string (fs.getD j default).2) := by
 induction fs generalizing j with
 | nil => simp at hj
 | cons a r ih =>
  rw [flCells, List.flatMap_cons, ← flCells]
  cases j with
  | zero => simp
  | succ j =>
   have h := ih j (by simpa using hj)
   rw [show (j + 1) * 2 = j * 2 + 2 by omega]
   simpa using h
def FilesAt (w : World) (v : Value) (fs : List Fl) : Prop := w.ownsRow 0 50 2 v fs.length (flCells fs)
theorem FilesAt.slice {w : World} {v : Value} {fs : List Fl} (h : FilesAt w v fs) (hn : 0 < fs.length) : ∃ g cap, v = .slice (some ⟨g, 0, none⟩) fs.length cap ∧ g < w.heap.size ∧ ∀ j, j < fs.length → w.cell? ⟨g, j * 2, none⟩ = some (.string (fs.getD j default).1) ∧ w.cell? ⟨g, j * 2 + 1, none⟩ = some (.string (fs.getD j default).2) := by
 obtain ⟨hl, ⟨rfl, hz⟩ | ⟨g, cap, cur, rfl, h1, hg, hr⟩⟩ := h
 ·omega
 ·refine ⟨g, cap, rfl, (Array.getElem?_eq_some_iff.1 hg).1, fun j hj => ?_⟩
  have hcl := World.ownsRow.cells (w := w) ⟨hl, .inr ⟨g, cap, cur, rfl, h1, hg, hr⟩⟩ (g := g) rfl
  obtain ⟨ha, hb⟩ := flCells_get fs j hj
  have h1 := hcl (j * 2) _ ha
  have h2 := hcl (j * 2 + 1) _ hb
  rw [Addr.add_lit, Nat.zero_add] at h1 h2
  exact ⟨h1, h2⟩
end Go.Proofs.YtndfmgdhiallpaaGreatDoor
