import Derived.Test.YtfbgamknfommpaaGreatDoorJo
import Derived.Test.YtfbgamknfommpaaGreatDoorCards
import Derived.SevenTiedAt
namespace Go.Proofs.YtfbgamknfommpaaGreatDoor.safe
open Go.ChangeShapes Go.WideShapes Go.ChangeAt Go.WideMaps Go.WideElems Go.RowKit
theorem gNamed:Tryz.pinned.checked.prog.funcNamed Rows.safeRow.func=some 3:=by kernel_rfl
theorem gMain:Tryz.pinned.checked.prog.mainIs=some (Rows.safeCard.stood.harness.fst,Rows.safeCard.stood.harness.snd.toList):=by kernel_rfl
theorem gLooks:false=Tryz.pinned.checked.prog.looks []:=by kernel_rfl
theorem gGoes:false=Rows.safeRow.goesBy Tryz.pinned.checked.prog:=by kernel_rfl
end Go.Proofs.YtfbgamknfommpaaGreatDoor.safe
