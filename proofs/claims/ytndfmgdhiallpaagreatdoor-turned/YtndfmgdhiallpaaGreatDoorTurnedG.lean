import Derived.Test.YtndfmgdhiallpaaGreatDoorMy
import Derived.Test.YtndfmgdhiallpaaGreatDoorCards
import Derived.SevenTiedAt
namespace Go.Proofs.YtndfmgdhiallpaaGreatDoor.turned
open Go.ChangeShapes Go.WideShapes Go.ChangeAt Go.WideMaps Go.WideElems Go.RowKit
theorem gNamed:Tryz.pinned.checked.prog.funcNamed Rows.turnedRow.func=some 12:=by kernel_rfl
theorem gMain:Tryz.pinned.checked.prog.mainIs=some (Rows.turnedCard.stood.harness.fst,Rows.turnedCard.stood.harness.snd.toList):=by kernel_rfl
theorem gLooks:false=Tryz.pinned.checked.prog.looks []:=by kernel_rfl
theorem gGoes:false=Rows.turnedRow.goesBy Tryz.pinned.checked.prog:=by kernel_rfl
end Go.Proofs.YtndfmgdhiallpaaGreatDoor.turned
