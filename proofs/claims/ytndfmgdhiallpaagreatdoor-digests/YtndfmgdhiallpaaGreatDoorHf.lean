/- The digest: the document's Digest. -/
import Derived.Test.YtndfmgdhiallpaaGreatDoorHe
namespace Go.Proofs.YtndfmgdhiallpaaGreatDoor
open Go.RowKit

def digits16 : ByteArray := ⟨#[48, 49, 50, 51, 52, 53, 54, 55, 56, 57, 97, 98, 99, 100, 101, 102]⟩
def hexB (raw : ByteArray) : Nat → ByteArray
  | 0 => ⟨#[]⟩
  | k + 1 => hexB raw k ++ digits16.extract (btN raw k / 16) (btN raw k / 16 + 1) ++ digits16.extract (btN raw k % 16) (btN raw k % 16 + 1)
theorem hexB_size (raw : ByteArray) (k : Nat) : (hexB raw k).size = 2 * k := by
  induction k with
  | zero => rfl
  | succ k ih =>
    have := btN_lt raw k
    have h16 : digits16.size = 16 := rfl
    rw [hexB, ByteArray.size_append, ByteArray.size_append, ih, ByteArray.size_extract, ByteArray.size_extract, h16]
    omega
def digestOf (s : ByteArray) : ByteArray := hexB (outB (foldB (padRef s) ((padRef s).size / 64)) 8) 32

set_option maxRecDepth 100000 in
set_option maxHeartbeats 1000000 in
theorem refDigest_any (s : ByteArray) (w : World) (hs : s.size ≤ 140737488355328) :
    Calls Tryz.prog 57 #[.string s] w fun e w' => e = .returned (.string (digestOf s)) ∧ Old w w' := by
  have HR := hide (fun (w1 : World) => raw_any s w1 hs)
  unfold digestOf
  have hrs : (outB (foldB (padRef s) ((padRef s).size / 64)) 8).size = 32 := outB_size _ 8
  generalize outB (foldB (padRef s) ((padRef s).size / 64)) 8 = raw at *
  go_enter Tryz.func57, Tryz.ntmps57
  go_wp2_with (go_at_call 108; refine (unhide HR _).mono ?_; rintro e w1 ⟨rfl, ho⟩; have HO := hide ho; clear ho)
  go_loopw [5, 6] (fun o i wr => ∃ k : Nat, k ≤ 32 ∧ i = .int .i64 k ∧ o = .string (hexB raw k) ∧ Hid (Old w wr)) (fun _ i _ => 32 - (intOf i).toNat)
  case atStart => exact ⟨0, by omega, rfl, rfl, HO⟩
  case round =>
    obtain ⟨k, hk, rfl, rfl, HQ⟩ := hrel
    by_cases hlt : k < 32
    · have hb := btN_lt raw k
      have hkr : k < raw.size := by omega
      have hg := btN_get hkr
      have hsz := hexB_size raw k
      have HS : Hid (hexB raw (k + 1) = hexB raw k ++ digits16.extract (btN raw k / 16) (btN raw k / 16 + 1) ++ digits16.extract (btN raw k % 16) (btN raw k % 16 + 1)) := rfl
      unfold digits16 at HS
      generalize btN raw k = c at hb hg HS
      have h1 : (0 : Int) ≤ (c : Int) / 16 := by omega
      have h2 : (c : Int) / 16 + 1 ≤ 16 := by omega
      have h3 : (c : Int) / 16 ≤ (c : Int) / 16 + 1 := by omega
      have h4 : (0 : Int) ≤ (c : Int) % 16 := by omega
      have h5 : (c : Int) % 16 + 1 ≤ 16 := by omega
      have h6 : (c : Int) % 16 ≤ (c : Int) % 16 + 1 := by omega
      have t1 : ((c : Int) / 16).toNat = c / 16 := by omega
      have t2 : ((c : Int) / 16 + 1).toNat = c / 16 + 1 := by omega
      have t3 : ((c : Int) % 16).toNat = c % 16 := by omega
      have t4 : ((c : Int) % 16 + 1).toNat = c % 16 + 1 := by omega
      go_wp2_with fail
      go_quiet (fail)
      go_wp2
      go_roundw
      case rel => exact ⟨k + 1, by omega, by go_num, by rw [unhide HS], (unhide HQ).drewN _⟩
      case measure => simp [intOf]; omega
    · have hkk : k = 32 := by omega
      go_wp2
      go_ret
      exact ⟨ret1_eq (show Value.string (hexB raw k) = _ by rw [hkk]), unhide HQ⟩
end Go.Proofs.YtndfmgdhiallpaaGreatDoor
