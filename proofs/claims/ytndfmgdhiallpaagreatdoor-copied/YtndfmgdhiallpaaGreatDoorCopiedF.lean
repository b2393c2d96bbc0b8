import Derived.Test.YtndfmgdhiallpaaGreatDoorMy
import Derived.SevenTiedAt
namespace Go.Proofs.YtndfmgdhiallpaaGreatDoor.copied
open Go.ChangeShapes Go.WideShapes Go.ChangeAt Go.WideMaps Go.WideElems Go.RowKit
theorem jInPlace:(Rows.copiedRow.inPlace==Tryz.pinned.checked.prog.inPlace 9)=true:=by kernel_rfl
theorem jUnfollowed:(Rows.copiedRow.unfollowed==Tryz.pinned.checked.prog.unfollowed 9)=true:=by kernel_rfl
theorem jRecurses:(Rows.copiedRow.recurses==Tryz.pinned.checked.prog.recurses 9)=true:=by kernel_rfl
theorem jNamed:(Rows.copiedRow.named==Tryz.pinned.checked.prog.varsNamed 9)=true:=by kernel_rfl
theorem joined:joinedFacts Tryz.pinned.checked.prog 9 Tryz.f9 Rows.copiedSpec Rows.copiedRow=true:=by
 unfold joinedFacts
 rw[jInPlace,jUnfollowed,jRecurses,jNamed]
 kernel_rfl
end Go.Proofs.YtndfmgdhiallpaaGreatDoor.copied
