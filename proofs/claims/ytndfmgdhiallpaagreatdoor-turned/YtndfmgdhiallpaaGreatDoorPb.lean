/- The law's scripts. -/
import Derived.Test.YtndfmgdhiallpaaGreatDoorPa
namespace Go.Proofs.YtndfmgdhiallpaaGreatDoor
open Go.RowKit

end Go.Proofs.YtndfmgdhiallpaaGreatDoor
