import Derived.Test.YtndfmgdhiallpaaGreatDoorVar
import Derived.SevenTiedAt
set_option linter.all false
open _root_ renaming Option.some->J,Option.none->O,Int->Z,Nat->N,Go.Value.int->I,Go.Value.string->G,Go.IntKind.i64->Q,ByteArray->Y,List->E,Go.World->U,Go.Value.slice->K,Go.Value->β,Go.Obj.cells->γ,Go.Value.pointer->δ
namespace Go.Proofs.YtndfmgdhiallpaaGreatDoor.archives
open Go.ChangeShapes Go.WideShapes Go.ChangeAt Go.WideMaps Go.WideElems Go.RowKit Go.Proofs.Tryz
def cG:(Rows.archivesUptoRow.inPlace==Tryz.pinned.checked.prog.inPlace 6)=true:=Ab
def Tg:(Rows.archivesUptoRow.unfollowed==Tryz.pinned.checked.prog.unfollowed 6)=true:=Ab
def ZG:(Rows.archivesUptoRow.recurses==Tryz.pinned.checked.prog.recurses 6)=true:=Ab
def lZ:(Rows.archivesUptoRow.named==Tryz.pinned.checked.prog.varsNamed 6)=true:=Ab
def lX:joinedFacts Tryz.pinned.checked.prog 6 f6 Rows.archivesSpec Rows.archivesUptoRow=true:=by
 unfold joinedFacts;rw[cG,Tg,ZG,lZ]
 kernel_rfl
end Go.Proofs.YtndfmgdhiallpaaGreatDoor.archives
