import Derived.Test.YtfpphfkcaplafaaGreatDoorZao
import Derived.Test.YtfpphfkcaplafaaGreatDoorCards
import Derived.SevenTiedAt
set_option linter.all false
set_option maxHeartbeats 64000000
open _root_ renaming Option.some->J,Option.none->O,Int->Z,Nat->N,Go.Value.int->I,Go.Value.string->G,Go.IntKind.i64->Q,ByteArray->Y,List->E,Go.World->U,Go.Value.slice->K,Go.Value->M,Go.Obj.cells->W,Go.Value.pointer->V,Go.RowKit.Hid->C,Go.Proofs.Tryz.prog->F
namespace Go.Proofs.YtfpphfkcaplafaaGreatDoor.all
open Go.ChangeShapes Go.WideShapes Go.ChangeAt Go.WideMaps Go.WideElems Go.RowKit Go.Proofs.Tryz
def lA:Tryz.pinned.checked.prog.funcNamed Rows.allUptoRow.func=J 3:=B
def yo:Tryz.pinned.checked.prog.mainIs=J (Rows.allUptoCard.stood.harness.fst,Rows.allUptoCard.stood.harness.snd.toList):=B
def uA:false=Tryz.pinned.checked.prog.looks []:=B
def yq:false=Rows.allUptoRow.goesBy Tryz.pinned.checked.prog:=B
end Go.Proofs.YtfpphfkcaplafaaGreatDoor.all
