import Derived.Test.YtndfmgdhiallpaaGreatDoorJc
import Derived.Test.YtndfmgdhiallpaaGreatDoorMf
namespace Go.Proofs.YtndfmgdhiallpaaGreatDoor
open Go.RowKit Go.Maps
abbrev foT : TypeId := 117
end Go.Proofs.YtndfmgdhiallpaaGreatDoor
namespace Go.Proofs.YtndfmgdhiallpaaGreatDoor
open Go.RowKit Go.Maps
theorem cloneX (s : ByteArray) (hs : s.size ≤ 281474976710656) (w : World) : Calls Tryz.prog 80 #[.string s] w fun r w' => r = .returned (.string s) ∧ Old w w' := by
 have H1 := hide (Tryz.stringslite_Clone s w hs)
 go_enter Tryz.func80, Tryz.ntmps80
 go_wp2_with fail
 refine (uh H1).mono ?_
 rintro e w1 ⟨rfl, hb⟩
 have HO : Hid (Old w w1) := ⟨hb.os, hb.tape, hb.output, hb.size, fun k hk _ => hb.block k hk⟩
 clear hb H1
 go_wp2_with fail
 go_ret
 exact ⟨rfl, HO⟩
end Go.Proofs.YtndfmgdhiallpaaGreatDoor
namespace Go.Proofs.YtndfmgdhiallpaaGreatDoor
open Go.RowKit Go.Maps
abbrev chT : TypeId := 122
theorem infoF2 : (Tryz.prog.info? 50).map (fun i => (i.zero, i.size, i.bytes)) = some (some (.agg #[.string ⟨#[]⟩, .string ⟨#[]⟩]), 2, 32) := by kernel_rfl
end Go.Proofs.YtndfmgdhiallpaaGreatDoor
