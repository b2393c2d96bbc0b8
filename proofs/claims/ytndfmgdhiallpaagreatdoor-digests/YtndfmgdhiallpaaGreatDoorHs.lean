/- The digest: valise.Digest answers as the document. -/
import Derived.Test.YtndfmgdhiallpaaGreatDoorHr
import Derived.Test.YtndfmgdhiallpaaGreatDoorCb
namespace Go.Proofs.YtndfmgdhiallpaaGreatDoor
open Go.RowKit

set_option maxRecDepth 100000 in
set_option maxHeartbeats 1000000 in
theorem of_any (s : ByteArray) (hl : s.size ≤ 140737488355328) (w : World) (hg : Glob w) :
    Calls Tryz.prog 72 #[.string s] w fun e w' => e = .returned (.string (digestOf s)) ∧ Old w w' := by
  have HW := hide (fun w1 h => words_any s hl w1 h)
  have HX : Hid (∀ w1, Calls Tryz.prog 131 #[.agg (u8A (foldX kNum h0 (s ++ ⟨(padZ (zeroN s.size) s.size 8).toArray⟩) ((s.size + 9 + zeroN s.size) / 64)))] w1 fun e w' => e = .returned (.string (digestOf s)) ∧ Old w1 w') := fun w1 => by
    rw [digest_digL]
    exact inHex_any _ (foldX_ok h0_ok _ _) w1
  generalize foldX kNum h0 (s ++ ⟨(padZ (zeroN s.size) s.size 8).toArray⟩) ((s.size + 9 + zeroN s.size) / 64) = z at HW HX
  have HG := hide hg
  clear hg hl
  generalize digestOf s = d at *
  go_enter Tryz.func72, Tryz.ntmps72
  go_wp2_with fail
  refine (unhide HW w (unhide HG)).mono ?_
  rintro e w2 ⟨rfl, ho2⟩
  have HO2 := hide ho2
  clear ho2
  go_wp2_with fail
  refine (unhide HX w2).mono ?_
  rintro e w3 ⟨rfl, ho3⟩
  have HO3 := hide (Only.trans (unhide HO2) ho3)
  clear ho3
  go_wp2
  go_ret
  exact ⟨rfl, HO3⟩

set_option maxRecDepth 100000 in
theorem valiseDigest_any (s : ByteArray) (hl : s.size ≤ 140737488355328) (w : World) (hg : Glob w) :
    Calls Tryz.prog 41 #[.string s] w fun e w' => e = .returned (.string (digestOf s)) ∧ Old w w' := by
  have HW := hide (of_any s hl w hg)
  clear hg hl
  generalize digestOf s = d at *
  go_enter Tryz.func41, Tryz.ntmps41
  go_wp2_with fail
  refine (unhide HW).mono ?_
  rintro e w1 ⟨rfl, ho1⟩
  go_wp2
  go_ret
  exact ⟨rfl, ho1⟩
end Go.Proofs.YtndfmgdhiallpaaGreatDoor
