/- The digest: the code's functions of words. -/
import Derived.Test.YtndfmgdhiallpaaGreatDoorChecked
import Derived.Test.YtndfmgdhiallpaaGreatDoorHc
import Derived.Test.YtndfmgdhiallpaaGreatDoorWa
import Derived.Deep.QuietTactic
import Derived.BigQuiet
namespace Go.Proofs.YtndfmgdhiallpaaGreatDoor
open Go.RowKit

theorem mask31 {n : Nat} (h1 : 1 ≤ n) (h2 : n ≤ 31) : bits BinOp.and IntKind.u64 (IntKind.u64.wrap (-(n : Int))) 31 = ((32 - n : Nat) : Int) := by
  have e1 : IntKind.u64.wrap (-(n : Int)) = ((18446744073709551616 - n : Nat) : Int) := by rw [IntKind.wrap_u64]; omega
  have := u64_and_nat (18446744073709551616 - n) 31 (by omega) (by omega)
  rw [nat_mask5] at this
  rw [e1]
  refine this.trans ?_
  omega
theorem rotl_eq {v m n : Nat} (hv : v < 4294967296) (hm : m + n = 32) : bits BinOp.or IntKind.u32 ((v * 2 ^ m % 4294967296 : Nat) : Int) ((v / 2 ^ n : Nat) : Int) = (rotr v n : Int) := by
  have h1 : v * 2 ^ m % 4294967296 < 4294967296 := Nat.mod_lt _ (by omega)
  have h2 : v / 2 ^ n < 4294967296 := Nat.lt_of_le_of_lt (Nat.div_le_self _ _) hv
  rw [u32_or_nat _ _ h1 h2, Nat.or_comm, show m = 32 - n by omega]
  rfl

set_option maxRecDepth 100000 in
set_option maxHeartbeats 400000 in
theorem rotl_any (v n : Nat) (hv : v < 4294967296) (h1 : 1 ≤ n) (h2 : n ≤ 31) (w : World) :
    Calls Tryz.prog 362 #[.int .u32 v, .int .i64 (-(n : Int))] w fun e w' => e = .returned (.int .u32 (rotr v n)) ∧ w' = w := by
  have hmk := mask31 h1 h2
  obtain ⟨m, hm⟩ : ∃ m, m + n = 32 := ⟨32 - n, by omega⟩
  rw [show 32 - n = m by omega] at hmk
  have hm1 : 1 ≤ m := by omega
  have hm2 : m ≤ 31 := by omega
  have HM := hide hm
  clear hm
  go_enter Tryz.func362, Tryz.ntmps362
  go_wp2
  go_ret
  refine ⟨ret1_eq (show Value.int .u32 (bits BinOp.or IntKind.u32 ((v : Int) * 2 ^ m % 4294967296) ((v : Int) / 2 ^ (32 - m))) = _ from ?_), rfl⟩
  have hmm := unhide HM
  have e1 : (v : Int) * 2 ^ m % 4294967296 = ((v * 2 ^ m % 4294967296 : Nat) : Int) := by rw [Int.natCast_emod, Int.natCast_mul, Int.natCast_pow]; rfl
  have e2 : (v : Int) / 2 ^ n = ((v / 2 ^ n : Nat) : Int) := by rw [Int.natCast_ediv, Int.natCast_pow]; rfl
  rw [show 32 - m = n by omega, e1, e2, rotl_eq hv hmm]

theorem rotl_c (v n : Nat) (c : Int) (hc : c = -(n : Int)) (hv : v < 4294967296) (h1 : 1 ≤ n) (h2 : n ≤ 31) (w : World) :
    Calls Tryz.prog 362 #[.int .u32 v, .int .i64 c] w fun e w' => e = .returned (.int .u32 (rotr v n)) ∧ w' = w := by
  subst hc; exact rotl_any v n hv h1 h2 w

set_option maxHeartbeats 400000 in
theorem turnRight_c (v n : Nat) (c : Int) (hc : c = (n : Int)) (hv : v < 4294967296) (h1 : 1 ≤ n) (h2 : n ≤ 31) (w : World) :
    Calls Tryz.prog 358 #[.int .u32 v, .int .i64 c] w fun e w' => e = .returned (.int .u32 (rotr v n)) ∧ w' = w := by
  subst hc
  go_enter Tryz.func358, Tryz.ntmps358
  go_wp2_with fail
  refine (rotl_c v n _ (by omega) hv h1 h2 _).mono ?_
  rintro e w1 ⟨rfl, rfl⟩
  go_wp2
  go_ret
  exact ⟨rfl, rfl⟩

theorem sm0_u {a : Nat} (h : a < 4294967296) : bits BinOp.xor IntKind.u32 (bits BinOp.xor IntKind.u32 (rotr a 7) (rotr a 18)) ((a : Int) / 8) = (sm0 a : Int) := by
  have h1 := rotr_lt 7 h; have h2 := rotr_lt 18 h
  rw [u32_xor_nat _ _ h1 h2]
  exact u32_xor_nat _ (a / 8) (xor32 h1 h2) (by omega)
theorem sm1_u {a : Nat} (h : a < 4294967296) : bits BinOp.xor IntKind.u32 (bits BinOp.xor IntKind.u32 (rotr a 17) (rotr a 19)) ((a : Int) / 1024) = (sm1 a : Int) := by
  have h1 := rotr_lt 17 h; have h2 := rotr_lt 19 h
  rw [u32_xor_nat _ _ h1 h2]
  exact u32_xor_nat _ (a / 1024) (xor32 h1 h2) (by omega)
theorem bg0_u {a : Nat} (h : a < 4294967296) : bits BinOp.xor IntKind.u32 (bits BinOp.xor IntKind.u32 (rotr a 2) (rotr a 13)) (rotr a 22) = (bg0 a : Int) := by
  rw [u32_xor_nat _ _ (rotr_lt _ h) (rotr_lt _ h), u32_xor_nat _ _ (xor32 (rotr_lt _ h) (rotr_lt _ h)) (rotr_lt _ h)]
  rfl
theorem bg1_u {a : Nat} (h : a < 4294967296) : bits BinOp.xor IntKind.u32 (bits BinOp.xor IntKind.u32 (rotr a 6) (rotr a 11)) (rotr a 25) = (bg1 a : Int) := by
  rw [u32_xor_nat _ _ (rotr_lt _ h) (rotr_lt _ h), u32_xor_nat _ _ (xor32 (rotr_lt _ h) (rotr_lt _ h)) (rotr_lt _ h)]
  rfl
theorem chs_or {e : Nat} (f g : Nat) (h : e < 4294967296) : (e &&& f) ||| ((4294967295 - e) &&& g) = chs e f g := by
  unfold chs
  apply Nat.eq_of_testBit_eq
  intro i
  have hn : (4294967295 - e).testBit i = (decide (i < 32) && !e.testBit i) := by
    rw [show 4294967295 - e = 2 ^ 32 - (e + 1) by omega]; exact Nat.testBit_two_pow_sub_succ (by omega) i
  simp only [Nat.testBit_or, Nat.testBit_xor, Nat.testBit_and, hn]
  cases e.testBit i <;> cases f.testBit i <;> cases g.testBit i <;> cases decide (i < 32) <;> rfl
theorem mjr_or (a b c : Nat) : ((a &&& b) ||| (a &&& c)) ||| (b &&& c) = mjr a b c := by
  unfold mjr
  apply Nat.eq_of_testBit_eq
  intro i
  simp only [Nat.testBit_or, Nat.testBit_xor, Nat.testBit_and]
  cases a.testBit i <;> cases b.testBit i <;> cases c.testBit i <;> rfl
theorem chs_u {e f g : Nat} (he : e < 4294967296) (hf : f < 4294967296) (hg : g < 4294967296) :
    bits BinOp.or IntKind.u32 (bits BinOp.and IntKind.u32 e f) (bits BinOp.and IntKind.u32 (bits BinOp.xor IntKind.u32 IntKind.u32.max e) g) = (chs e f g : Int) := by
  rw [u32_not he, u32_and_nat _ _ he hf, u32_and_nat _ _ (by omega) hg, u32_or_nat _ _ (and32 _ he) (and32 _ (by omega)), chs_or _ _ he]
theorem mjr_u {a b c : Nat} (ha : a < 4294967296) (hb : b < 4294967296) (hc : c < 4294967296) :
    bits BinOp.or IntKind.u32 (bits BinOp.or IntKind.u32 (bits BinOp.and IntKind.u32 a b) (bits BinOp.and IntKind.u32 a c)) (bits BinOp.and IntKind.u32 b c) = (mjr a b c : Int) := by
  rw [u32_and_nat _ _ ha hb, u32_and_nat _ _ ha hc, u32_and_nat _ _ hb hc, u32_or_nat _ _ (and32 _ ha) (and32 _ ha), u32_or_nat _ _ (or32 (and32 _ ha) (and32 _ ha)) (and32 _ hb), mjr_or]

set_option maxHeartbeats 400000 in
theorem smallS0_any (v : Nat) (hv : v < 4294967296) (w : World) : Calls Tryz.prog 346 #[.int .u32 v] w fun e w' => e = .returned (.int .u32 (sm0 v)) ∧ w' = w := by
  have hx := sm0_u hv
  go_enter Tryz.func346, Tryz.ntmps346
  go_wp2_with fail
  refine (turnRight_c v 7 7 rfl hv (by omega) (by omega) _).mono ?_
  rintro e w1 ⟨rfl, rfl⟩
  go_wp2_with fail
  refine (turnRight_c v 18 18 rfl hv (by omega) (by omega) _).mono ?_
  rintro e w1 ⟨rfl, rfl⟩
  go_wp2
  go_ret
  exact ⟨rfl, rfl⟩
set_option maxHeartbeats 400000 in
theorem smallS1_any (v : Nat) (hv : v < 4294967296) (w : World) : Calls Tryz.prog 345 #[.int .u32 v] w fun e w' => e = .returned (.int .u32 (sm1 v)) ∧ w' = w := by
  have hx := sm1_u hv
  go_enter Tryz.func345, Tryz.ntmps345
  go_wp2_with fail
  refine (turnRight_c v 17 17 rfl hv (by omega) (by omega) _).mono ?_
  rintro e w1 ⟨rfl, rfl⟩
  go_wp2_with fail
  refine (turnRight_c v 19 19 rfl hv (by omega) (by omega) _).mono ?_
  rintro e w1 ⟨rfl, rfl⟩
  go_wp2
  go_ret
  exact ⟨rfl, rfl⟩
set_option maxHeartbeats 400000 in
theorem bigS0_any (v : Nat) (hv : v < 4294967296) (w : World) : Calls Tryz.prog 342 #[.int .u32 v] w fun e w' => e = .returned (.int .u32 (bg0 v)) ∧ w' = w := by
  have hx := bg0_u hv
  go_enter Tryz.func342, Tryz.ntmps342
  go_wp2_with fail
  refine (turnRight_c v 2 2 rfl hv (by omega) (by omega) _).mono ?_
  rintro e w1 ⟨rfl, rfl⟩
  go_wp2_with fail
  refine (turnRight_c v 13 13 rfl hv (by omega) (by omega) _).mono ?_
  rintro e w1 ⟨rfl, rfl⟩
  go_wp2_with fail
  refine (turnRight_c v 22 22 rfl hv (by omega) (by omega) _).mono ?_
  rintro e w1 ⟨rfl, rfl⟩
  go_wp2
  go_ret
  exact ⟨rfl, rfl⟩
set_option maxHeartbeats 400000 in
theorem bigS1_any (v : Nat) (hv : v < 4294967296) (w : World) : Calls Tryz.prog 340 #[.int .u32 v] w fun e w' => e = .returned (.int .u32 (bg1 v)) ∧ w' = w := by
  have hx := bg1_u hv
  go_enter Tryz.func340, Tryz.ntmps340
  go_wp2_with fail
  refine (turnRight_c v 6 6 rfl hv (by omega) (by omega) _).mono ?_
  rintro e w1 ⟨rfl, rfl⟩
  go_wp2_with fail
  refine (turnRight_c v 11 11 rfl hv (by omega) (by omega) _).mono ?_
  rintro e w1 ⟨rfl, rfl⟩
  go_wp2_with fail
  refine (turnRight_c v 25 25 rfl hv (by omega) (by omega) _).mono ?_
  rintro e w1 ⟨rfl, rfl⟩
  go_wp2
  go_ret
  exact ⟨rfl, rfl⟩
set_option maxHeartbeats 400000 in
theorem choice_any (e f g : Nat) (he : e < 4294967296) (hf : f < 4294967296) (hg : g < 4294967296) (w : World) : Calls Tryz.prog 341 #[.int .u32 e, .int .u32 f, .int .u32 g] w fun r w' => r = .returned (.int .u32 (chs e f g)) ∧ w' = w := by
  have hx := chs_u he hf hg
  go_enter Tryz.func341, Tryz.ntmps341
  go_wp2
  go_ret
  exact ⟨rfl, rfl⟩
set_option maxHeartbeats 400000 in
theorem majority_any (a b c : Nat) (ha : a < 4294967296) (hb : b < 4294967296) (hc : c < 4294967296) (w : World) : Calls Tryz.prog 343 #[.int .u32 a, .int .u32 b, .int .u32 c] w fun r w' => r = .returned (.int .u32 (mjr a b c)) ∧ w' = w := by
  have hx := mjr_u ha hb hc
  go_enter Tryz.func343, Tryz.ntmps343
  go_wp2
  go_ret
  exact ⟨rfl, rfl⟩
end Go.Proofs.YtndfmgdhiallpaaGreatDoor
