/- How files are held against each other, by the code. Files by rising names, by the code. Which files are chosen, by the code: all of a tree, where nothing is wrong. -/
import Derived.Test.YtndfmgdhiallpaaGreatDoorXe
import Derived.Test.YtndfmgdhiallpaaGreatDoorJe
import Derived.Sort.Walk0
import Derived.Laws.Cover1
import Derived.Test.YtndfmgdhiallpaaGreatDoorSo
namespace Go.Proofs.YtndfmgdhiallpaaGreatDoor
open Go.RowKit Go.Maps

theorem lessL (a b : ByteArray) : Op.bytesLess a.toList b.toList = decide (a.data.toList < b.data.toList) := by rw [Lib.toList_data, Lib.toList_data, bytesLess_eq]
theorem less_total {a b : ByteArray} (h1 : ¬ a.data.toList < b.data.toList) (h2 : ¬ b.data.toList < a.data.toList) : a = b :=
  ByteArray.ext (Array.toList_inj.1 (List.le_antisymm (List.not_lt.1 h2) (List.not_lt.1 h1)))
end Go.Proofs.YtndfmgdhiallpaaGreatDoor
namespace Go.Proofs.YtndfmgdhiallpaaGreatDoor
open Go.RowKit Go.Maps Go.Sort Go.Lib

end Go.Proofs.YtndfmgdhiallpaaGreatDoor
namespace Go.Proofs.YtndfmgdhiallpaaGreatDoor
open Go.RowKit Go.Maps

theorem fileP_size {s : ByteArray} (h : fileP s = true) : s.size ≤ 80 := by
  unfold fileP at h
  rw [Bool.and_eq_true] at h
  exact of_decide_eq_true h.1
end Go.Proofs.YtndfmgdhiallpaaGreatDoor
