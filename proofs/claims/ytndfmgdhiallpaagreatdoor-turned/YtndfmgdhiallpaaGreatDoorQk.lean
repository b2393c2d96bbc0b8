/- Whole numbers as floating point, and as a complex number's parts: below 2^20 nothing is lost. -/
import Derived.Laws.ComplexArith
namespace Go.Proofs.YtndfmgdhiallpaaGreatDoor
open Ieee
abbrev fN (n : Nat) : Nat := floatOfInt .f64 (n : Int)
theorem fN_zero : fN 0 = 0 := by decide
/-- The significand of a number below 2^20. -/
def sigN (n : Nat) : Nat := n * 2 ^ (52 - n.log2)
theorem sigN_b {n : Nat} (h0 : n ≠ 0) (h : n < 1048576) : n.log2 ≤ 19 ∧ 2 ^ 52 ≤ sigN n ∧ sigN n < 2 ^ 53 := by
  have hl : n.log2 < 20 := (Nat.log2_lt h0).2 h
  have h1 := Nat.log2_self_le h0
  have h2 : n < 2 ^ (n.log2 + 1) := Nat.lt_log2_self
  have e1 : 2 ^ n.log2 * 2 ^ (52 - n.log2) = 2 ^ 52 := by rw [← Nat.pow_add]; congr 1; omega
  have e2 : 2 ^ (n.log2 + 1) * 2 ^ (52 - n.log2) = 2 ^ 53 := by rw [← Nat.pow_add]; congr 1; omega
  have hp : 0 < 2 ^ (52 - n.log2) := Nat.pow_pos (by decide)
  refine ⟨by omega, ?_, ?_⟩
  · rw [← e1]; exact Nat.mul_le_mul_right _ h1
  · rw [← e2]; exact Nat.mul_lt_mul_of_pos_right h2 hp
theorem cut_none (way : Toward) (neg : Bool) (n : Nat) : way.cut neg n 0 = n := by
  unfold Toward.cut
  simp [Nat.mod_one]
  cases way <;> simp
theorem fN_eq {n : Nat} (h0 : n ≠ 0) (h : n < 1048576) : fN n = (n.log2 + 1022) * 2 ^ 52 + sigN n := by
  obtain ⟨hl, hb1, hb2⟩ := sigN_b h0 h
  have hd : decide ((n : Int) < 0) = false := by simp
  show double.nearest (decide ((n : Int) < 0)) n 0 = _
  rw [hd]
  unfold Format.nearest
  rw [if_neg h0]
  have hlast : max ((0 : Int) + (n.log2 : Int) - ((double.fractionBits : Nat) : Int)) double.leastPlace = (n.log2 : Int) - 52 := by
    rw [show double.fractionBits = 52 from rfl, show double.leastPlace = -1074 from rfl]; omega
  simp only [hlast]
  have e1 : ((0 : Int) - ((n.log2 : Int) - 52)).toNat = 52 - n.log2 := by omega
  have e2 : (((n.log2 : Int) - 52) - 0).toNat = 0 := by omega
  have e3 : (((n.log2 : Int) - 52) - double.leastPlace).toNat = n.log2 + 1022 := by
    rw [show double.leastPlace = -1074 from rfl]; omega
  rw [e1, e2, e3, cut_none, Nat.shiftLeft_eq, show double.binade = 2 ^ 52 from rfl, show double.infRung = 2047 * 2 ^ 52 from rfl]
  unfold Format.word
  rw [if_neg (by simp)]
  show min ((n.log2 + 1022) * 2 ^ 52 + sigN n) _ = _
  omega
theorem read_fN {n : Nat} (h0 : n ≠ 0) (h : n < 1048576) : double.read (fN n) = .number false (sigN n) ((n.log2 : Int) - 52) := by
  obtain ⟨hl, hb1, hb2⟩ := sigN_b h0 h
  rw [fN_eq h0 h]
  unfold Format.read
  rw [show double.signWeight = 2 ^ 63 from rfl, show double.binade = 2 ^ 52 from rfl, show double.infRung = 2047 * 2 ^ 52 from rfl, show double.leastPlace = -1074 from rfl]
  generalize hL : n.log2 = L at *
  generalize sigN n = s at *
  have hq : (L + 1022) * 2 ^ 52 + s < 2 ^ 63 := by omega
  have e0 : ((L + 1022) * 2 ^ 52 + s) % 2 ^ 63 = (L + 1022) * 2 ^ 52 + s := Nat.mod_eq_of_lt hq
  have e1 : ((L + 1022) * 2 ^ 52 + s) / 2 ^ 63 = 0 := Nat.div_eq_of_lt hq
  simp only [e0, e1]
  rw [if_neg (by omega), if_pos (by omega)]
  have e2 : ((L + 1022) * 2 ^ 52 + s) % 2 ^ 52 = s - 2 ^ 52 := by omega
  have e3 : ((L + 1022) * 2 ^ 52 + s) / 2 ^ 52 - 1 = L + 1022 := by omega
  rw [e2, e3]
  rw [show 2 ^ 52 + (s - 2 ^ 52) = s by omega, show ((-1074 : Int) + ((L + 1022 : Nat) : Int)) = (L : Int) - 52 by omega]
  rfl
theorem back_fN {n : Nat} (h : n < 1048576) : (FloatKind.f64.decode (fN n)).toInt .zero = some (n : Int) := by
  by_cases h0 : n = 0
  · subst h0; decide
  obtain ⟨hl, hb1, hb2⟩ := sigN_b h0 h
  unfold FloatKind.decode
  rw [show FloatKind.f64.format = double from rfl, read_fN h0 h]
  unfold Datum.toInt Datum.integral
  simp only
  have e1 : ((n.log2 : Int) - 52).toNat = 0 := by omega
  have e2 : (-((n.log2 : Int) - 52)).toNat = 52 - n.log2 := by omega
  rw [e1, e2, Nat.shiftLeft_zero]
  have e3 : Toward.zero.cut false (sigN n) (52 - n.log2) = n := by
    unfold Toward.cut
    simp only [Bool.toNat_false, Nat.add_zero]
    have hlg : (sigN n).log2 = 52 := by
      rw [Nat.log2_eq_iff (by omega)]; omega
    rw [hlg, show min (52 - n.log2) (52 + 2) = 52 - n.log2 by omega, Nat.shiftLeft_eq, Nat.one_mul]
    exact Nat.mul_div_cancel _ (Nat.pow_pos (by decide))
  rw [e3]
  simp [signed]
theorem cmp_lt {a b : Int} (h : a < b) : compare a b = .lt := by
  show compareOfLessAndEq a b = .lt
  unfold compareOfLessAndEq; rw [if_pos h]
theorem cmp_gt {a b : Int} (h : b < a) : compare a b = .gt := by
  show compareOfLessAndEq a b = .gt
  unfold compareOfLessAndEq; rw [if_neg (by omega), if_neg (by omega)]
theorem order_fN {n m : Nat} (hn : n < 1048576) (hm : m < 1048576) : FloatKind.f64.format.order (fN n) (fN m) = some (compare n m) := by
  have key : ∀ {n m : Nat}, n ≠ 0 → m ≠ 0 → n < 1048576 → m < 1048576 → double.order (fN n) (fN m) = some (compare n m) := by
    intro n m n0 m0 hn hm
    obtain ⟨hl, _, _⟩ := sigN_b n0 hn
    obtain ⟨hl', _, _⟩ := sigN_b m0 hm
    unfold Format.order
    rw [read_fN n0 hn, read_fN m0 hm]
    unfold Datum.order
    simp only [signed, Bool.false_eq_true, if_false, Nat.shiftLeft_eq]
    have e1 : sigN n * 2 ^ ((n.log2 : Int) - 52 - min ((n.log2 : Int) - 52) ((m.log2 : Int) - 52)).toNat = n * 2 ^ (52 - min n.log2 m.log2) := by
      unfold sigN
      rw [Nat.mul_assoc, ← Nat.pow_add]
      congr 2
      omega
    have e2 : sigN m * 2 ^ ((m.log2 : Int) - 52 - min ((n.log2 : Int) - 52) ((m.log2 : Int) - 52)).toNat = m * 2 ^ (52 - min n.log2 m.log2) := by
      unfold sigN
      rw [Nat.mul_assoc, ← Nat.pow_add]
      congr 2
      omega
    rw [e1, e2]
    have hp : 0 < 2 ^ (52 - min n.log2 m.log2) := Nat.pow_pos (by decide)
    generalize 2 ^ (52 - min n.log2 m.log2) = q at *
    congr 1
    rcases Nat.lt_trichotomy n m with h | h | h
    · have h3 : n * q < m * q := Nat.mul_lt_mul_of_pos_right h hp
      rw [Nat.compare_eq_lt.2 h]
      exact cmp_lt (by exact_mod_cast h3)
    · subst h
      rw [Nat.compare_eq_eq.2 rfl]
      simp
    · have h3 : m * q < n * q := Nat.mul_lt_mul_of_pos_right h hp
      rw [Nat.compare_eq_gt.2 h]
      exact cmp_gt (by exact_mod_cast h3)
  rw [show FloatKind.f64.format = double from rfl]
  by_cases n0 : n = 0
  · subst n0
    by_cases m0 : m = 0
    · subst m0; decide
    · obtain ⟨hl, hb1, _⟩ := sigN_b m0 hm
      unfold Format.order
      rw [read_fN m0 hm, fN_zero, show double.read 0 = .number false 0 (-1074) from rfl]
      unfold Datum.order
      simp only [signed, Bool.false_eq_true, if_false, Nat.shiftLeft_eq, Nat.zero_mul]
      have hp : 0 < sigN m * 2 ^ ((m.log2 : Int) - 52 - min (-1074) ((m.log2 : Int) - 52)).toNat := Nat.mul_pos (by omega) (Nat.pow_pos (by decide))
      rw [Nat.compare_eq_lt.2 (by omega)]
      congr 1
      exact cmp_lt (Int.ofNat_lt.2 hp)
  · by_cases m0 : m = 0
    · subst m0
      obtain ⟨hl, hb1, _⟩ := sigN_b n0 hn
      unfold Format.order
      rw [read_fN n0 hn, fN_zero, show double.read 0 = .number false 0 (-1074) from rfl]
      unfold Datum.order
      simp only [signed, Bool.false_eq_true, if_false, Nat.shiftLeft_eq, Nat.zero_mul]
      have hp : 0 < sigN n * 2 ^ ((n.log2 : Int) - 52 - min ((n.log2 : Int) - 52) (-1074)).toNat := Nat.mul_pos (by omega) (Nat.pow_pos (by decide))
      rw [Nat.compare_eq_gt.2 (by omega)]
      congr 1
      exact cmp_gt (Int.ofNat_lt.2 hp)
    · exact key n0 m0 hn hm

theorem order_gt {n m : Nat} (hn : n < 1048576) (hm : m < 1048576) : (FloatKind.f64.format.order (fN n) (fN m) == some Ordering.gt) = decide (m < n) := by
  rw [order_fN hn hm]
  rcases Nat.lt_trichotomy n m with h | h | h
  · rw [Nat.compare_eq_lt.2 h, decide_eq_false (by omega)]; rfl
  · subst h; rw [Nat.compare_eq_eq.2 rfl, decide_eq_false (by omega)]; rfl
  · rw [Nat.compare_eq_gt.2 h, decide_eq_true h]; rfl
section
variable {P : Program}
theorem run_int_float {n : Nat} (hn : n < 1048576) (src dst : TypeId) (hs : (P.underlying src).isSome = true) (hd : P.underlying dst = some (.int .i64)) (W : World) : (convert src dst (.float .f64 (fN n))).run P W = .ok (.int .i64 (n : Int)) W := by
  refine run_convert_float_int W src dst .f64 .i64 _ _ hs hd ?_
  unfold floatToIntVal
  rw [back_fN hn]
  have h1 : IntKind.i64.min ≤ (n : Int) := by rw [show IntKind.i64.min = -9223372036854775808 from rfl]; omega
  have h2 : (n : Int) ≤ IntKind.i64.max := by rw [show IntKind.i64.max = 9223372036854775807 from rfl]; omega
  simp only [h1, h2, and_self, if_true]
end
end Go.Proofs.YtndfmgdhiallpaaGreatDoor
