import Derived.Test.YtndfmgdhiallpaaGreatDoorMy
import Derived.Test.YtndfmgdhiallpaaGreatDoorCards
import Derived.SevenTiedAt
namespace Go.Proofs.YtndfmgdhiallpaaGreatDoor.back
open Go.ChangeShapes Go.WideShapes Go.ChangeAt Go.WideMaps Go.WideElems Go.RowKit
theorem gNamed:Tryz.pinned.checked.prog.funcNamed Rows.backRow.func=some 11:=by kernel_rfl
theorem gMain:Tryz.pinned.checked.prog.mainIs=some (Rows.backCard.stood.harness.fst,Rows.backCard.stood.harness.snd.toList):=by kernel_rfl
theorem gLooks:false=Tryz.pinned.checked.prog.looks []:=by kernel_rfl
theorem gGoes:false=Rows.backRow.goesBy Tryz.pinned.checked.prog:=by kernel_rfl
end Go.Proofs.YtndfmgdhiallpaaGreatDoor.back
