/- Closed facts on the card of Digests. -/
import Derived.Test.YtndfmgdhiallpaaGreatDoorPd
import Derived.Test.YtndfmgdhiallpaaGreatDoorCards
import Derived.SevenTiedAt
namespace Go.Proofs.YtndfmgdhiallpaaGreatDoor.digests
open Go.ChangeShapes Go.WideShapes Go.ChangeAt Go.WideMaps Go.WideElems Go.RowKit

theorem gNamed : Tryz.pinned.checked.prog.funcNamed Rows.digestsRow.func = some 3 := by kernel_rfl
theorem gMain : Tryz.pinned.checked.prog.mainIs = some (Rows.digestsCard.stood.harness.fst, Rows.digestsCard.stood.harness.snd.toList) := by kernel_rfl
theorem gLooks : false = Tryz.pinned.checked.prog.looks [] := by kernel_rfl
theorem gGoes : false = Rows.digestsRow.goesBy Tryz.pinned.checked.prog := by kernel_rfl
end Go.Proofs.YtndfmgdhiallpaaGreatDoor.digests
