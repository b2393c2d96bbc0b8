/- The sort of the library, laid at this program. -/
import Derived.Shelf.SlSortCmp.NoneTotal
import Derived.Shelf.SlGeneric
import Derived.Ground.SlsfProg
import Derived.Test.YtndfmgdhiallpaaGreatDoorProg
namespace Go.Proofs
open Go.Shelf
end Go.Proofs
