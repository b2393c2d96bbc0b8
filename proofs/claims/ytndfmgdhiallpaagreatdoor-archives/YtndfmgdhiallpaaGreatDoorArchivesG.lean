import Derived.Test.YtndfmgdhiallpaaGreatDoorVar
import Derived.Test.YtndfmgdhiallpaaGreatDoorCards
import Derived.SevenTiedAt
set_option linter.all false
open _root_ renaming Option.some->J,Option.none->O,Int->Z,Nat->N,Go.Value.int->I,Go.Value.string->G,Go.IntKind.i64->Q,ByteArray->Y,List->E,Go.World->U,Go.Value.slice->K,Go.Value->β,Go.Obj.cells->γ,Go.Value.pointer->δ
namespace Go.Proofs.YtndfmgdhiallpaaGreatDoor.archives
open Go.ChangeShapes Go.WideShapes Go.ChangeAt Go.WideMaps Go.WideElems Go.RowKit Go.Proofs.Tryz
def cF:Tryz.pinned.checked.prog.funcNamed Rows.archivesUptoRow.func=J 6:=Ab
def oB:Tryz.pinned.checked.prog.mainIs=J (Rows.archivesUptoCard.stood.harness.fst,Rows.archivesUptoCard.stood.harness.snd.toList):=Ab
def lY:false=Tryz.pinned.checked.prog.looks []:=Ab
def oC:false=Rows.archivesUptoRow.goesBy Tryz.pinned.checked.prog:=Ab
end Go.Proofs.YtndfmgdhiallpaaGreatDoor.archives
