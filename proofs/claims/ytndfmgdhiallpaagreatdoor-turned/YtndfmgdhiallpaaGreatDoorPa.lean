/- The law's world, and its steps. -/
import Derived.Test.YtndfmgdhiallpaaGreatDoorMd
namespace Go.Proofs.YtndfmgdhiallpaaGreatDoor
open Go.RowKit

end Go.Proofs.YtndfmgdhiallpaaGreatDoor
