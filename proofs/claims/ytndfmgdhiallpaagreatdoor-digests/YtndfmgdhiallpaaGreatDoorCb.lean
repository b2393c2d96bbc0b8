/- The check: the code's walks. -/
import Derived.Test.YtndfmgdhiallpaaGreatDoorChecked
import Derived.Test.YtndfmgdhiallpaaGreatDoorCa
namespace Go.Proofs.YtndfmgdhiallpaaGreatDoor
open Go.RowKit

set_option maxHeartbeats 400000 in
theorem shiftByte_any (v : Nat) (hv : v < 4294967296) (w : World) :
    Calls Tryz.prog 130 #[.int .u32 v] w fun e w' => e = .returned (.int .u32 (crcBits 8 v)) ∧ w' = w := by
  go_enter Tryz.func130, Tryz.ntmps130
  go_wp2
  go_loop [0, 3] (fun x i => ∃ (u n j : Nat), u < 4294967296 ∧ n + j = 8 ∧ x = .int .u32 u ∧ i = .int .i64 j ∧ Hid (crcBits n u = crcBits 8 v)) (fun _ i => 8 - (intOf i).toNat)
  case atStart => exact ⟨v, 8, 0, hv, rfl, rfl, rfl, rfl⟩
  case round =>
    obtain ⟨u, n, j, hu, hn, rfl, rfl, hc⟩ := hrel
    by_cases hj : j < 8
    · obtain ⟨n, rfl⟩ : ∃ m, n = m + 1 := ⟨n - 1, by omega⟩
      go_wp2
      · have hb : (bits .and .u32 (u : Int) 1 == 1) = true := by assumption
        go_round
        case rel => exact ⟨crcStep u, n, j + 1, crcStep_lt hu, by omega, by rw [crcStep_odd (u32_odd hu hb), u32_poly hu], by go_num, hc⟩
        case measure => simp [intOf]; omega
      · have hb : (bits .and .u32 (u : Int) 1 == 1) = false := by assumption
        go_round
        case rel => exact ⟨crcStep u, n, j + 1, crcStep_lt hu, by omega, by rw [crcStep_even (u32_even hu hb)]; rfl, by go_num, hc⟩
        case measure => simp [intOf]; omega
    · have h0 : n = 0 := by omega
      have hq : Hid (crcBits 8 v = u) := by rw [← hc.out, h0]; rfl
      clear hc h0
      go_wp2
      go_ret
      exact ⟨ret1_eq (show Value.int .u32 (u : Int) = _ by rw [hq.out]), rfl⟩

set_option maxHeartbeats 400000 in
theorem checkCode_any (s : ByteArray) (w : World) (hs : s.size ≤ maxLen) :
    Calls Tryz.prog 71 #[.string s] w fun e w' => e = .returned (.int .u32 (checkOf s)) ∧ w' = w := by
  unfold maxLen at hs
  go_enter Tryz.func71, Tryz.ntmps71
  go_wp2
  go_loop [3, 7] (fun x i => ∃ (u j : Nat), u < 4294967296 ∧ j ≤ s.size ∧ x = .int .u32 u ∧ i = .int .i64 j ∧ Hid (crcOf (s.data.toList.take j) = u)) (fun _ i => s.size - (intOf i).toNat)
  case atStart => exact ⟨4294967295, 0, by omega, by omega, rfl, rfl, rfl⟩
  case round =>
    obtain ⟨u, j, hu, hj, rfl, rfl, hc⟩ := hrel
    by_cases hlt : j < s.size
    · have hb : s[j].toNat < 256 := byte_lt _
      have hx := u32_xor_nat u s[j].toNat hu (by omega)
      have HX := hide hx
      clear hx
      have HC := hide (fun (w1 : World) => shiftByte_any (u ^^^ s[j].toNat) (xor32 hu (by omega)) w1)
      have HN : Hid (crcOf (s.data.toList.take (j + 1)) = crcBits 8 (u ^^^ s[j].toNat)) := by rw [take_snoc s j hlt, crcOf_snoc, hc.out]; rfl
      have HL := hide (crcBits_lt 8 (xor32 hu (show s[j].toNat < 4294967296 by omega)))
      go_wp2_with (go_at_call 130; rw [unhide HX]; refine (unhide HC _).mono ?_; rintro e w1 ⟨rfl, rfl⟩)
      go_round
      case rel => exact ⟨_, j + 1, unhide HL, by omega, rfl, by go_num, HN⟩
      case measure => simp [intOf]; omega
    · have hq : Hid (crcOf s.data.toList = u) := by have := hc.out; rw [take_all s j hlt] at this; exact this
      go_wp2
      go_ret
      exact ⟨ret1_eq (show Value.int .u32 (bits BinOp.xor IntKind.u32 IntKind.u32.max (u : Int)) = _ by rw [u32_not hu, checkOf, hq.out]), rfl⟩

set_option maxHeartbeats 400000 in
theorem valiseCheck_any (s : ByteArray) (w : World) (hs : s.size ≤ maxLen) :
    Calls Tryz.prog 40 #[.string s] w fun e w' => e = .returned (.int .i64 (checkOf s)) ∧ w' = w := by
  have HC := hide (fun (w1 : World) => checkCode_any s w1 hs)
  have hl := checkOf_lt s
  generalize checkOf s = c at *
  go_enter Tryz.func40, Tryz.ntmps40
  go_wp2_with (go_at_call 71; refine (unhide HC _).mono ?_; rintro e w1 ⟨rfl, rfl⟩)
  go_ret
  exact ⟨rfl, rfl⟩

set_option maxHeartbeats 400000 in
theorem refCheck_any (s : ByteArray) (w : World) (hs : s.size ≤ maxLen) :
    Calls Tryz.prog 58 #[.string s] w fun e w' => e = .returned (.int .i64 (checkOf s)) ∧ w' = w := by
  unfold maxLen at hs
  go_enter Tryz.func58, Tryz.ntmps58
  go_wp2
  go_loop [3, 4] (fun x i => ∃ (u j : Nat), u < 4294967296 ∧ j ≤ s.size ∧ x = .int .i64 u ∧ i = .int .i64 j ∧ Hid (crcOf (s.data.toList.take j) = u)) (fun _ i => s.size - (intOf i).toNat)
  case atStart => exact ⟨4294967295, 0, by omega, by omega, rfl, rfl, rfl⟩
  case round =>
    obtain ⟨u, j, hu, hj, rfl, rfl, hc⟩ := hrel
    by_cases hlt : j < s.size
    · have hb : s[j].toNat < 256 := byte_lt _
      have HX := hide (i64_xor_nat u s[j].toNat (by omega) (by omega))
      have HN : Hid (crcOf (s.data.toList.take (j + 1)) = crcBits 8 (u ^^^ s[j].toNat)) := by rw [take_snoc s j hlt, crcOf_snoc, hc.out]; rfl
      have hL := xor32 hu (show s[j].toNat < 4294967296 by omega)
      have HI : Hid (∀ x : Value, x = .int .i64 (bits BinOp.xor IntKind.i64 (u : Int) (s[j].toNat : Int)) → x = .int .i64 ((u ^^^ s[j].toNat : Nat) : Int)) := by intro x hx; rw [hx, unhide HX]
      go_wp2
      go_loop [3, 5] (fun x i => ∃ (t n k : Nat), t < 4294967296 ∧ n + k = 8 ∧ x = .int .i64 t ∧ i = .int .i64 k ∧ Hid (crcBits n t = crcBits 8 (u ^^^ s[j].toNat))) (fun _ i => 8 - (intOf i).toNat)
      case atStart => exact ⟨_, 8, 0, hL, rfl, unhide HI _ rfl, rfl, rfl⟩
      case round =>
        obtain ⟨t, n, k, ht, hn, rfl, rfl, hd⟩ := hrel
        by_cases hk : k < 8
        · obtain ⟨n, rfl⟩ : ∃ m, n = m + 1 := ⟨n - 1, by omega⟩
          by_cases ho : t % 2 = 1
          · have hob : (((t : Int) % 2) == 1) = true := by simp; omega
            go_wp2
            go_round
            case rel => exact ⟨crcStep t, n, k + 1, crcStep_lt ht, by omega, by rw [crcStep_odd ho, ← i64_poly (by omega)]; rfl, by go_num, hd⟩
            case measure => simp [intOf]; omega
          · have hob : (((t : Int) % 2) == 1) = false := by simp; omega
            go_wp2
            go_round
            case rel => exact ⟨crcStep t, n, k + 1, crcStep_lt ht, by omega, by rw [crcStep_even ho]; rfl, by go_num, hd⟩
            case measure => simp [intOf]; omega
        · have h0 : n = 0 := by omega
          have hq : Hid (crcBits 8 (u ^^^ s[j].toNat) = t) := by rw [← hd.out, h0]; rfl
          clear h0 hd
          go_wp2
          go_round
          case rel => exact ⟨t, j + 1, ht, by omega, rfl, by go_num, HN.out.trans hq.out⟩
          case measure => simp [intOf]; omega
    · have hq : Hid (crcOf s.data.toList = u) := by have := hc.out; rw [take_all s j hlt] at this; exact this
      go_wp2
      go_ret
      exact ⟨ret1_eq (show Value.int .i64 (4294967295 - (u : Int)) = _ by rw [checkOf, hq.out]; congr 1; omega), rfl⟩
end Go.Proofs.YtndfmgdhiallpaaGreatDoor
