import Derived.Test.YtfpphfkcaplafaaGreatDoorZao
import Derived.SevenTiedAt
set_option linter.all false
set_option maxHeartbeats 64000000
open _root_ renaming Option.some->J,Option.none->O,Int->Z,Nat->N,Go.Value.int->I,Go.Value.string->G,Go.IntKind.i64->Q,ByteArray->Y,List->E,Go.World->U,Go.Value.slice->K,Go.Value->M,Go.Obj.cells->W,Go.Value.pointer->V,Go.RowKit.Hid->C,Go.Proofs.Tryz.prog->F
namespace Go.Proofs.YtfpphfkcaplafaaGreatDoor.all
open Go.ChangeShapes Go.WideShapes Go.ChangeAt Go.WideMaps Go.WideElems Go.RowKit Go.Proofs.Tryz
def lB:(Rows.allUptoRow.inPlace==Tryz.pinned.checked.prog.inPlace 3)=true:=B
def Yg:(Rows.allUptoRow.unfollowed==Tryz.pinned.checked.prog.unfollowed 3)=true:=B
def ip:(Rows.allUptoRow.recurses==Tryz.pinned.checked.prog.recurses 3)=true:=B
def uB:(Rows.allUptoRow.named==Tryz.pinned.checked.prog.varsNamed 3)=true:=B
def uz:joinedFacts Tryz.pinned.checked.prog 3 Tryz.f3 Rows.allSpec Rows.allUptoRow=true:=by
 unfold joinedFacts;rw[lB,Yg,ip,uB]
 kernel_rfl
end Go.Proofs.YtfpphfkcaplafaaGreatDoor.all
