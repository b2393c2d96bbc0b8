import Derived.Test.YtndfmgdhiallpaaGreatDoorMy
import Derived.SevenTiedAt
namespace Go.Proofs.YtndfmgdhiallpaaGreatDoor.chooses
open Go.ChangeShapes Go.WideShapes Go.ChangeAt Go.WideMaps Go.WideElems Go.RowKit
theorem jInPlace:(Rows.choosesUptoRow.inPlace==Tryz.pinned.checked.prog.inPlace 5)=true:=by kernel_rfl
theorem jUnfollowed:(Rows.choosesUptoRow.unfollowed==Tryz.pinned.checked.prog.unfollowed 5)=true:=by kernel_rfl
theorem jRecurses:(Rows.choosesUptoRow.recurses==Tryz.pinned.checked.prog.recurses 5)=true:=by kernel_rfl
theorem jNamed:(Rows.choosesUptoRow.named==Tryz.pinned.checked.prog.varsNamed 5)=true:=by kernel_rfl
theorem joined:joinedFacts Tryz.pinned.checked.prog 5 Tryz.f5 Rows.choosesSpec Rows.choosesUptoRow=true:=by
 unfold joinedFacts
 rw[jInPlace,jUnfollowed,jRecurses,jNamed]
 kernel_rfl
end Go.Proofs.YtndfmgdhiallpaaGreatDoor.chooses
