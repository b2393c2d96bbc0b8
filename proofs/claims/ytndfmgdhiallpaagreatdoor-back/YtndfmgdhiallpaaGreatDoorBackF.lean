import Derived.Test.YtndfmgdhiallpaaGreatDoorMy
import Derived.SevenTiedAt
namespace Go.Proofs.YtndfmgdhiallpaaGreatDoor.back
open Go.ChangeShapes Go.WideShapes Go.ChangeAt Go.WideMaps Go.WideElems Go.RowKit
theorem jInPlace:(Rows.backRow.inPlace==Tryz.pinned.checked.prog.inPlace 11)=true:=by kernel_rfl
theorem jUnfollowed:(Rows.backRow.unfollowed==Tryz.pinned.checked.prog.unfollowed 11)=true:=by kernel_rfl
theorem jRecurses:(Rows.backRow.recurses==Tryz.pinned.checked.prog.recurses 11)=true:=by kernel_rfl
theorem jNamed:(Rows.backRow.named==Tryz.pinned.checked.prog.varsNamed 11)=true:=by kernel_rfl
theorem joined:joinedFacts Tryz.pinned.checked.prog 11 Tryz.f11 Rows.backSpec Rows.backRow=true:=by
 unfold joinedFacts
 rw[jInPlace,jUnfollowed,jRecurses,jNamed]
 kernel_rfl
end Go.Proofs.YtndfmgdhiallpaaGreatDoor.back
