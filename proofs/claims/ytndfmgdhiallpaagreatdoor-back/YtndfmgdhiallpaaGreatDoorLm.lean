/- Bits that are turned: the check tells. Bits that are turned in an archive: plain facts on what is laid. Bits that are turned in an archive, cuts and additions: what is told. Bits that are turned in an archive, cuts and additions: the theorems. -/
import Derived.Test.YtndfmgdhiallpaaGreatDoorJv
namespace Go.Proofs.YtndfmgdhiallpaaGreatDoor
open Go.RowKit Go.Maps

end Go.Proofs.YtndfmgdhiallpaaGreatDoor
namespace Go.Proofs.YtndfmgdhiallpaaGreatDoor
open Go.RowKit Go.Maps

theorem endL_len (c z a : Nat) : (endL c z a).length = 22 := by simp [endL, leAll, leB, sL]
end Go.Proofs.YtndfmgdhiallpaaGreatDoor
namespace Go.Proofs.YtndfmgdhiallpaaGreatDoor
open Go.RowKit Go.Maps

end Go.Proofs.YtndfmgdhiallpaaGreatDoor
namespace Go.Proofs.YtndfmgdhiallpaaGreatDoor
open Go.RowKit Go.Maps

theorem laidL_len (p : ByteArray) (its : List It) : (laidL p its).length = (locsL p its).length + (centsN p its its.length).length + 22 := by
  rw [laidL, List.length_append, List.length_append, endL_len]
end Go.Proofs.YtndfmgdhiallpaaGreatDoor
