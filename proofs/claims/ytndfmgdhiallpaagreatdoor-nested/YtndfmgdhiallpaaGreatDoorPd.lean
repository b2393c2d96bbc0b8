/- What the row hands over: the script's steps. -/
import Derived.Test.YtndfmgdhiallpaaGreatDoorPc
namespace Go.Proofs.YtndfmgdhiallpaaGreatDoor
open Go.ChangeShapes Go.WideShapes Go.ChangeAt Go.RowKit

end Go.Proofs.YtndfmgdhiallpaaGreatDoor
