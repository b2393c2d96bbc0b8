/- The digest: plain functions. -/
import Derived.Test.YtndfmgdhiallpaaGreatDoorCa
namespace Go.Proofs.YtndfmgdhiallpaaGreatDoor
open Go.RowKit

/-- A word of 32 bits, turned to the right. -/
def rotr (w n : Nat) : Nat := w / 2 ^ n ||| w * 2 ^ (32 - n) % 4294967296
theorem rotr_lt {w : Nat} (n : Nat) (h : w < 4294967296) : rotr w n < 4294967296 := or32 (Nat.lt_of_le_of_lt (Nat.div_le_self _ _) h) (Nat.mod_lt _ (by omega))

theorem wrap64_nat (a : Nat) (h : a < 9223372036854775808) : wrap64 (a : Int) = (a : Int) := by rw [← IntWalk.i64_left]; exact i64_wrap_nat a h
theorem shl_lt {v n : Nat} (hv : v < 4294967296) (h1 : 1 ≤ n) : v * 2 ^ (32 - n) < 9223372036854775808 := by
  have h : 2 ^ (32 - n) ≤ 2 ^ 31 := Nat.pow_le_pow_right (by omega) (by omega)
  calc v * 2 ^ (32 - n) ≤ v * 2 ^ 31 := Nat.mul_le_mul_left _ h
    _ < 9223372036854775808 := by omega
theorem turned_eq {v n : Nat} (hv : v < 4294967296) (h1 : 1 ≤ n) : bits BinOp.or IntKind.i64 ((v : Int) / 2 ^ n) ((wrap64 ((v : Int) * 2 ^ (32 - n))).tmod 4294967296) = (rotr v n : Int) := by
  have hl := shl_lt hv h1
  have e1 : (v : Int) * 2 ^ (32 - n) = ((v * 2 ^ (32 - n) : Nat) : Int) := by push_cast; rfl
  have e2 : (v : Int) / 2 ^ n = ((v / 2 ^ n : Nat) : Int) := by push_cast; rfl
  have e3 : ((v * 2 ^ (32 - n) : Nat) : Int).tmod 4294967296 = ((v * 2 ^ (32 - n) % 4294967296 : Nat) : Int) := by rw [Int.tmod_eq_emod_of_nonneg (by omega)]; omega
  have hd : v / 2 ^ n < 4294967296 := Nat.lt_of_le_of_lt (Nat.div_le_self _ _) hv
  have hm : v * 2 ^ (32 - n) % 4294967296 < 4294967296 := Nat.mod_lt _ (by omega)
  rw [e1, wrap64_nat _ hl, e2, e3, i64_or_nat _ _ (by omega) (by omega)]
  rfl

/-- Bytes as cells. -/
def byteCells8 (bs : List UInt8) : List Value := bs.map fun b => .int .u8 b.toNat
theorem foldl_push (ns : List UInt8) : ∀ s : ByteArray, (ns.map fun b => ((b.toNat : Nat) : Int)).foldl (fun r n => r.push (UInt8.ofNat n.toNat)) s = ⟨(s.data.toList ++ ns).toArray⟩ := by
  induction ns with
  | nil => intro s; simp
  | cons b r ih =>
    intro s
    simp only [List.map_cons, List.foldl_cons]
    rw [ih]
    simp [ByteArray.push]
theorem run_bytes_string {P : Program} (w : World) (src dst e : TypeId) (a : Addr) (c : Nat) (bs : List UInt8) (hs : P.underlying src = some (.slice e)) (he : P.underlying e = some (.int .u8)) (hd : P.underlying dst = some .string)
    (h : ∀ j v, (byteCells8 bs)[j]? = some v → w.cell? (a.add j) = some v) :
    (convert src dst (.slice (some a) bs.length c)).run P w = .ok (.string ⟨bs.toArray⟩) w := by
  have hl := run_loadCells_list (P := P) w a (byteCells8 bs) h
  have e1 : byteCells8 bs = (bs.map fun b => ((b.toNat : Nat) : Int)).map (Value.int .u8) := by simp [byteCells8]
  have e2 : (byteCells8 bs).length = bs.length := by simp [byteCells8]
  rw [e2, e1] at hl
  rw [run_convert_bytes_string w src dst e (some a) bs.length c hs he hd, run_bytesToString w a bs.length c _ hl, foldl_push]
  rfl

def b8 (n : Nat) : UInt8 := UInt8.ofNat n
theorem b8_toNat {n : Nat} (h : n < 256) : (b8 n).toNat = n := by simp [b8, UInt8.toNat_ofNat']; omega
/-- A number as four bytes, the highest first. -/
def be4 (n : Nat) : List UInt8 := [b8 (n / 16777216 % 256), b8 (n / 65536 % 256), b8 (n / 256 % 256), b8 (n % 256)]
end Go.Proofs.YtndfmgdhiallpaaGreatDoor
