import Derived.Test.YtndfmgdhiallpaaGreatDoorMy
import Derived.Test.YtndfmgdhiallpaaGreatDoorCards
import Derived.SevenTiedAt
namespace Go.Proofs.YtndfmgdhiallpaaGreatDoor.hostile
open Go.ChangeShapes Go.WideShapes Go.ChangeAt Go.WideMaps Go.WideElems Go.RowKit
theorem gNamed:Tryz.pinned.checked.prog.funcNamed Rows.hostileRow.func=some 13:=by kernel_rfl
theorem gMain:Tryz.pinned.checked.prog.mainIs=some (Rows.hostileCard.stood.harness.fst,Rows.hostileCard.stood.harness.snd.toList):=by kernel_rfl
theorem gLooks:false=Tryz.pinned.checked.prog.looks []:=by kernel_rfl
theorem gGoes:false=Rows.hostileRow.goesBy Tryz.pinned.checked.prog:=by kernel_rfl
end Go.Proofs.YtndfmgdhiallpaaGreatDoor.hostile
