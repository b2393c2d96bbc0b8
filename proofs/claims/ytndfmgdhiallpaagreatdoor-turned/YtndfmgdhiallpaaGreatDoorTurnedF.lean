import Derived.Test.YtndfmgdhiallpaaGreatDoorMy
import Derived.SevenTiedAt
namespace Go.Proofs.YtndfmgdhiallpaaGreatDoor.turned
open Go.ChangeShapes Go.WideShapes Go.ChangeAt Go.WideMaps Go.WideElems Go.RowKit
theorem jInPlace:(Rows.turnedRow.inPlace==Tryz.pinned.checked.prog.inPlace 12)=true:=by kernel_rfl
theorem jUnfollowed:(Rows.turnedRow.unfollowed==Tryz.pinned.checked.prog.unfollowed 12)=true:=by kernel_rfl
theorem jRecurses:(Rows.turnedRow.recurses==Tryz.pinned.checked.prog.recurses 12)=true:=by kernel_rfl
theorem jNamed:(Rows.turnedRow.named==Tryz.pinned.checked.prog.varsNamed 12)=true:=by kernel_rfl
theorem joined:joinedFacts Tryz.pinned.checked.prog 12 Tryz.f12 Rows.turnedSpec Rows.turnedRow=true:=by
 unfold joinedFacts
 rw[jInPlace,jUnfollowed,jRecurses,jNamed]
 kernel_rfl
end Go.Proofs.YtndfmgdhiallpaaGreatDoor.turned
