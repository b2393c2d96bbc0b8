/- The law's world, and its steps. The law's scripts. -/
import Derived.Test.YtndfmgdhiallpaaGreatDoorMd
namespace Go.Proofs.YtndfmgdhiallpaaGreatDoor
open Go.RowKit

end Go.Proofs.YtndfmgdhiallpaaGreatDoor
namespace Go.Proofs.YtndfmgdhiallpaaGreatDoor
open Go.RowKit

end Go.Proofs.YtndfmgdhiallpaaGreatDoor
