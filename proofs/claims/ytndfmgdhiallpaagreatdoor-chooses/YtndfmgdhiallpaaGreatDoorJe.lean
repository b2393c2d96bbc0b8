import Derived.Test.YtndfmgdhiallpaaGreatDoorJd
namespace Go.Proofs.YtndfmgdhiallpaaGreatDoor
open Go.RowKit Go.Maps
abbrev cmpF : Value := .func (.func 83) #[] #[]
end Go.Proofs.YtndfmgdhiallpaaGreatDoor
namespace Go.Proofs.YtndfmgdhiallpaaGreatDoor
open Go.RowKit Go.Maps
end Go.Proofs.YtndfmgdhiallpaaGreatDoor
