import Derived.Test.YtndfmgdhiallpaaGreatDoorJh
import Derived.Test.YtndfmgdhiallpaaGreatDoorSh
import Derived.BigQuiet
import Derived.Test.YtndfmgdhiallpaaGreatDoorJe
import Derived.Deep.QuietTactic
import Derived.Test.YtndfmgdhiallpaaGreatDoorMd
import Derived.Test.YtndfmgdhiallpaaGreatDoorMr
namespace Go.Proofs.YtndfmgdhiallpaaGreatDoor
open Go.RowKit
end Go.Proofs.YtndfmgdhiallpaaGreatDoor
namespace Go.Proofs.YtndfmgdhiallpaaGreatDoor
open Go.RowKit
end Go.Proofs.YtndfmgdhiallpaaGreatDoor
namespace Go.Proofs.YtndfmgdhiallpaaGreatDoor
open Go.RowKit
end Go.Proofs.YtndfmgdhiallpaaGreatDoor
namespace Go.Proofs.YtndfmgdhiallpaaGreatDoor
open Go.RowKit Go.Maps
end Go.Proofs.YtndfmgdhiallpaaGreatDoor
namespace Go.Proofs.YtndfmgdhiallpaaGreatDoor
open Go.RowKit Go.Maps
end Go.Proofs.YtndfmgdhiallpaaGreatDoor
namespace Go.Proofs.YtndfmgdhiallpaaGreatDoor
open Go.RowKit Go.Maps
end Go.Proofs.YtndfmgdhiallpaaGreatDoor
namespace Go.Proofs.YtndfmgdhiallpaaGreatDoor
open Go.RowKit Go.Maps
end Go.Proofs.YtndfmgdhiallpaaGreatDoor
namespace Go.Proofs.YtndfmgdhiallpaaGreatDoor
open Go.RowKit Go.Maps
end Go.Proofs.YtndfmgdhiallpaaGreatDoor
