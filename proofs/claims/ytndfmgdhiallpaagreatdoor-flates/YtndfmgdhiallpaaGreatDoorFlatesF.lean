import Derived.Test.YtndfmgdhiallpaaGreatDoorMy
import Derived.SevenTiedAt
namespace Go.Proofs.YtndfmgdhiallpaaGreatDoor.flates
open Go.ChangeShapes Go.WideShapes Go.ChangeAt Go.WideMaps Go.WideElems Go.RowKit
theorem jInPlace:(Rows.flatesRow.inPlace==Tryz.pinned.checked.prog.inPlace 4)=true:=by kernel_rfl
theorem jUnfollowed:(Rows.flatesRow.unfollowed==Tryz.pinned.checked.prog.unfollowed 4)=true:=by kernel_rfl
theorem jRecurses:(Rows.flatesRow.recurses==Tryz.pinned.checked.prog.recurses 4)=true:=by kernel_rfl
theorem jNamed:(Rows.flatesRow.named==Tryz.pinned.checked.prog.varsNamed 4)=true:=by kernel_rfl
theorem joined:joinedFacts Tryz.pinned.checked.prog 4 Tryz.f4 Rows.flatesSpec Rows.flatesRow=true:=by
 unfold joinedFacts
 rw[jInPlace,jUnfollowed,jRecurses,jNamed]
 kernel_rfl
end Go.Proofs.YtndfmgdhiallpaaGreatDoor.flates
