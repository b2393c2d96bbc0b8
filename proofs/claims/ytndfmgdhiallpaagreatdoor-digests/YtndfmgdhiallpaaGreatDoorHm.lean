/- The digest: blocks of the code, blocks of the document. -/
import Derived.Test.YtndfmgdhiallpaaGreatDoorHl
namespace Go.Proofs.YtndfmgdhiallpaaGreatDoor
open Go.RowKit

theorem foldB_foldX (p : ByteArray) (m : Nat) : foldB p m = foldX kNum h0 p m := by
  induction m with
  | zero => rfl
  | succ m ih => rw [foldB, foldX, ih]
theorem foldX_congr (kf : Nat → Nat) (x : E8) (p p' : ByteArray) (m : Nat) (h : ∀ i, i < m → p.extract (64 * i) (64 * i + 64) = p'.extract (64 * i) (64 * i + 64)) : foldX kf x p m = foldX kf x p' m := by
  induction m with
  | zero => rfl
  | succ m ih => rw [foldX, foldX, ih (fun i hi => h i (by omega)), h m (by omega)]
theorem foldX_add (kf : Nat → Nat) (x : E8) (p p' : ByteArray) (q r : Nat) (h : ∀ i, i < r → p.extract (64 * (q + i)) (64 * (q + i) + 64) = p'.extract (64 * i) (64 * i + 64)) : foldX kf x p (q + r) = foldX kf (foldX kf x p q) p' r := by
  induction r with
  | zero => rfl
  | succ r ih => rw [← Nat.add_assoc, foldX, foldX, ih (fun i hi => h i (by omega)), h r (by omega)]
/-- The blocks of a ++ b, a of whole blocks: first those of a, then those of b. -/
theorem foldX_append (kf : Nat → Nat) (x : E8) (a b : ByteArray) (q r : Nat) (ha : a.size = 64 * q) (_hb : b.size = 64 * r) : foldX kf x (a ++ b) (q + r) = foldX kf (foldX kf x a q) b r := by
  rw [foldX_add kf x (a ++ b) b q r, foldX_congr kf x (a ++ b) a q]
  · intro i hi
    rw [ByteArray.extract_append, show b.extract (64 * i - a.size) (64 * i + 64 - a.size) = ByteArray.empty by rw [show 64 * i + 64 - a.size = 0 by omega, ByteArray.extract_eq_empty_iff]; omega]
    simp
  · intro i hi
    rw [ByteArray.extract_append, show a.extract (64 * (q + i)) (64 * (q + i) + 64) = ByteArray.empty by rw [ByteArray.extract_eq_empty_iff]; omega, show 64 * (q + i) - a.size = 64 * i by omega, show 64 * (q + i) + 64 - a.size = 64 * i + 64 by omega]
    simp
end Go.Proofs.YtndfmgdhiallpaaGreatDoor
