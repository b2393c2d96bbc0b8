/- Bits of whole numbers; the check: plain functions. -/
import Derived.WalkKit
namespace Go.Proofs.YtndfmgdhiallpaaGreatDoor
open Go.RowKit

theorem ret1_eq {a c : Value} (h : a = c) : Ending.returned a = .returned c := by rw [h]
theorem ret2_eq {a b c d : Value} (h : a = c) (k : b = d) : Ending.returned (.tuple #[a, b]) = .returned (.tuple #[c, d]) := by rw [h, k]
theorem hide {p : Prop} (h : p) : Hid p := h
theorem unhide {p : Prop} (h : Hid p) : p := h

theorem ofInt_i64 (a : Nat) (ha : a < 9223372036854775808) : (BitVec.ofInt 64 (a : Int)).toNat = a := ofInt_u64 a (by omega)
theorem i64_wrap_nat (a : Nat) (ha : a < 9223372036854775808) : IntKind.i64.wrap (a : Int) = (a : Int) := by rw [IntKind.wrap_i64]; omega
theorem i64_xor_nat (a b : Nat) (ha : a < 9223372036854775808) (hb : b < 9223372036854775808) : bits .xor .i64 (a : Int) (b : Int) = ((a ^^^ b : Nat) : Int) := by
  have hx : a ^^^ b < 2 ^ 63 := Nat.xor_lt_two_pow (by omega) (by omega)
  show IntKind.i64.wrap ((BitVec.ofInt 64 (a : Int) ^^^ BitVec.ofInt 64 (b : Int)).toNat : Int) = _
  rw [BitVec.toNat_xor, ofInt_i64 a ha, ofInt_i64 b hb, i64_wrap_nat _ (by omega)]
theorem i64_or_nat (a b : Nat) (ha : a < 9223372036854775808) (hb : b < 9223372036854775808) : bits .or .i64 (a : Int) (b : Int) = ((a ||| b : Nat) : Int) := by
  have hx : a ||| b < 2 ^ 63 := Nat.or_lt_two_pow (by omega) (by omega)
  show IntKind.i64.wrap ((BitVec.ofInt 64 (a : Int) ||| BitVec.ofInt 64 (b : Int)).toNat : Int) = _
  rw [BitVec.toNat_or, ofInt_i64 a ha, ofInt_i64 b hb, i64_wrap_nat _ (by omega)]
theorem i64_and_nat (a b : Nat) (ha : a < 9223372036854775808) (hb : b < 9223372036854775808) : bits .and .i64 (a : Int) (b : Int) = ((a &&& b : Nat) : Int) := by
  have hx : a &&& b ≤ a := Nat.and_le_left
  show IntKind.i64.wrap ((BitVec.ofInt 64 (a : Int) &&& BitVec.ofInt 64 (b : Int)).toNat : Int) = _
  rw [BitVec.toNat_and, ofInt_i64 a ha, ofInt_i64 b hb, i64_wrap_nat _ (by omega)]
theorem xor32 {a b : Nat} (ha : a < 4294967296) (hb : b < 4294967296) : a ^^^ b < 4294967296 := Nat.xor_lt_two_pow (n := 32) ha hb
theorem or32 {a b : Nat} (ha : a < 4294967296) (hb : b < 4294967296) : a ||| b < 4294967296 := Nat.or_lt_two_pow (n := 32) ha hb
theorem and32 {a : Nat} (b : Nat) (ha : a < 4294967296) : a &&& b < 4294967296 := Nat.lt_of_le_of_lt Nat.and_le_left ha

def crcStep (v : Nat) : Nat := if v % 2 = 1 then (v / 2) ^^^ 3988292384 else v / 2
def crcBits : Nat → Nat → Nat
  | 0, v => v
  | n + 1, v => crcBits n (crcStep v)
theorem crcStep_lt {v : Nat} (h : v < 4294967296) : crcStep v < 4294967296 := by
  unfold crcStep; split
  · exact xor32 (by omega) (by omega)
  · omega
theorem crcBits_lt (n : Nat) : ∀ {v : Nat}, v < 4294967296 → crcBits n v < 4294967296 := by
  induction n with
  | zero => intro v h; exact h
  | succ n ih => intro v h; exact ih (crcStep_lt h)
theorem crcStep_odd {v : Nat} (h : v % 2 = 1) : crcStep v = (v / 2) ^^^ 3988292384 := if_pos h
theorem crcStep_even {v : Nat} (h : ¬ v % 2 = 1) : crcStep v = v / 2 := if_neg h
def crcByte (v : Nat) (b : UInt8) : Nat := crcBits 8 (v ^^^ b.toNat)
theorem crcByte_lt {v : Nat} (b : UInt8) (h : v < 4294967296) : crcByte v b < 4294967296 := crcBits_lt 8 (xor32 h (by have := b.toNat_lt; omega))
def crcOf (l : List UInt8) : Nat := l.foldl crcByte 4294967295
theorem crcOf_snoc (l : List UInt8) (b : UInt8) : crcOf (l ++ [b]) = crcByte (crcOf l) b := by simp [crcOf]
theorem foldl_lt (l : List UInt8) : ∀ {v : Nat}, v < 4294967296 → l.foldl crcByte v < 4294967296 := by
  induction l with
  | nil => intro v h; exact h
  | cons b r ih => intro v h; exact ih (crcByte_lt b h)
theorem crcOf_lt (l : List UInt8) : crcOf l < 4294967296 := foldl_lt l (by omega)
def checkOf (s : ByteArray) : Nat := 4294967295 - crcOf s.data.toList
theorem checkOf_lt (s : ByteArray) : checkOf s < 4294967296 := by unfold checkOf; omega

theorem take_snoc (s : ByteArray) (k : Nat) (h : k < s.size) : s.data.toList.take (k + 1) = s.data.toList.take k ++ [s[k]] := by
  rw [List.take_succ_eq_append_getElem (by simpa using h)]; rfl
theorem take_all (s : ByteArray) (k : Nat) (h : ¬ k < s.size) : s.data.toList.take k = s.data.toList := List.take_of_length_le (by simp; omega)
theorem byte_lt (b : UInt8) : b.toNat < 256 := b.toNat_lt

/-- What the walk leaves of a step of the code's. -/
theorem u32_low {u : Nat} (hu : u < 4294967296) : bits .and .u32 (u : Int) 1 = ((u % 2 : Nat) : Int) := by
  have := u32_and_nat u 1 hu (by omega); rw [nat_mask1] at this; exact this
theorem u32_odd {u : Nat} (hu : u < 4294967296) (h : (bits .and .u32 (u : Int) 1 == 1) = true) : u % 2 = 1 := by
  rw [u32_low hu] at h; simp at h; omega
theorem u32_even {u : Nat} (hu : u < 4294967296) (h : (bits .and .u32 (u : Int) 1 == 1) = false) : ¬ u % 2 = 1 := by
  rw [u32_low hu] at h; simp at h; omega
theorem u32_poly {u : Nat} (hu : u < 4294967296) : bits .xor .u32 ((u : Int) / 2) 3988292384 = ((u / 2 ^^^ 3988292384 : Nat) : Int) := by
  have := u32_xor_nat (u / 2) 3988292384 (by omega) (by omega); rw [Int.natCast_ediv] at this; exact this
theorem xor_ones {u : Nat} (hu : u < 4294967296) : 4294967295 ^^^ u = 4294967295 - u := by
  have h := congrArg BitVec.toNat (BitVec.allOnes_xor (w := 32) (x := BitVec.ofNat 32 u))
  rw [BitVec.toNat_xor, BitVec.toNat_allOnes, BitVec.toNat_not, BitVec.toNat_ofNat, Nat.mod_eq_of_lt (by omega)] at h
  exact h
theorem u32_not {u : Nat} (hu : u < 4294967296) : bits .xor .u32 IntKind.u32.max (u : Int) = ((4294967295 - u : Nat) : Int) := by
  have := u32_xor_nat 4294967295 u (by omega) hu
  rw [xor_ones hu] at this
  exact this
theorem i64_poly {u : Nat} (hu : u < 4294967296) : bits .xor .i64 (u : Int) 3988292384 = ((u ^^^ 3988292384 : Nat) : Int) := i64_xor_nat u 3988292384 (by omega) (by omega)
end Go.Proofs.YtndfmgdhiallpaaGreatDoor
