import Derived.Test.YtndfmgdhiallpaaGreatDoorMy
import Derived.Test.YtndfmgdhiallpaaGreatDoorCards
import Derived.SevenTiedAt
namespace Go.Proofs.YtndfmgdhiallpaaGreatDoor.chooses
open Go.ChangeShapes Go.WideShapes Go.ChangeAt Go.WideMaps Go.WideElems Go.RowKit
theorem gNamed:Tryz.pinned.checked.prog.funcNamed Rows.choosesUptoRow.func=some 5:=by kernel_rfl
theorem gMain:Tryz.pinned.checked.prog.mainIs=some (Rows.choosesUptoCard.stood.harness.fst,Rows.choosesUptoCard.stood.harness.snd.toList):=by kernel_rfl
theorem gLooks:false=Tryz.pinned.checked.prog.looks []:=by kernel_rfl
theorem gGoes:false=Rows.choosesUptoRow.goesBy Tryz.pinned.checked.prog:=by kernel_rfl
end Go.Proofs.YtndfmgdhiallpaaGreatDoor.chooses
