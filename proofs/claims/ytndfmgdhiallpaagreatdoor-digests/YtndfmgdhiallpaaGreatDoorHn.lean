/- The digest: what follows the bytes, of the code and of the document. -/
import Derived.Test.YtndfmgdhiallpaaGreatDoorHm
namespace Go.Proofs.YtndfmgdhiallpaaGreatDoor
open Go.RowKit

theorem padZ_be4 (z n : Nat) : padZ z n 8 = 128 :: (List.replicate z 0 ++ (be4 (n / 536870912) ++ be4 (8 * n % 4294967296))) := by
  have e : (List.range 8).map (fun q => b8 (bitB n q)) = be4 (n / 536870912) ++ be4 (8 * n % 4294967296) := by
    show [b8 (bitB n 0), b8 (bitB n 1), b8 (bitB n 2), b8 (bitB n 3), b8 (bitB n 4), b8 (bitB n 5), b8 (bitB n 6), b8 (bitB n 7)] = _
    have h0 : bitB n 0 = n / 536870912 / 16777216 % 256 := by simp only [bitB]; omega
    have h1 : bitB n 1 = n / 536870912 / 65536 % 256 := by simp only [bitB]; omega
    have h2 : bitB n 2 = n / 536870912 / 256 % 256 := by simp only [bitB]; omega
    have h3 : bitB n 3 = n / 536870912 % 256 := by simp only [bitB]; omega
    have h4 : bitB n 4 = 8 * n % 4294967296 / 16777216 % 256 := by simp only [bitB]; omega
    have h5 : bitB n 5 = 8 * n % 4294967296 / 65536 % 256 := by simp only [bitB]; omega
    have h6 : bitB n 6 = 8 * n % 4294967296 / 256 % 256 := by simp only [bitB]; omega
    have h7 : bitB n 7 = 8 * n % 4294967296 % 256 := by simp only [bitB]; omega
    rw [h0, h1, h2, h3, h4, h5, h6, h7]; rfl
  rw [padZ, e]
theorem pz_data (s : ByteArray) (z : Nat) : (pz s z).data = s.data ++ (List.replicate z 0).toArray := by
  induction z with
  | zero => simp [pz]
  | succ z ih => rw [pz, ByteArray.data_append, ih, List.replicate_succ']; exact Array.ext' (by simp)
theorem padRef_eq (s : ByteArray) : padRef s = s ++ ⟨(padZ (zeroN s.size) s.size 8).toArray⟩ := by
  apply ByteArray.ext
  rw [padZ_be4]
  unfold padRef
  rw [ByteArray.data_append, ByteArray.data_append, pz_data, ByteArray.data_append, ByteArray.data_append]
  apply Array.ext'
  simp

/-! The digits. -/
theorem btN_append_left {a b : ByteArray} {k : Nat} (h : k < a.size) : btN (a ++ b) k = btN a k := by
  unfold btN
  rw [dif_pos h, dif_pos (by rw [ByteArray.size_append]; omega), ByteArray.getElem_append_left h]
theorem btN_append_right {a b : ByteArray} {k : Nat} (h : a.size ≤ k) : btN (a ++ b) k = btN b (k - a.size) := by
  unfold btN
  by_cases hb : k - a.size < b.size
  · rw [dif_pos hb, dif_pos (by rw [ByteArray.size_append]; omega), ByteArray.getElem_append_right h]
  · rw [dif_neg hb, dif_neg (by rw [ByteArray.size_append]; omega)]
theorem btN_be4 (n k : Nat) (hk : k < 4) : btN ⟨(be4 n).toArray⟩ k = n / 2 ^ (24 - 8 * k) % 256 := by
  have hs : (⟨(be4 n).toArray⟩ : ByteArray).size = 4 := rfl
  rw [← btN_get (by omega)]
  match k, hk with
  | 0, _ => exact b8_toNat (Nat.mod_lt _ (by omega))
  | 1, _ => exact b8_toNat (Nat.mod_lt _ (by omega))
  | 2, _ => exact b8_toNat (Nat.mod_lt _ (by omega))
  | 3, _ => exact (b8_toNat (Nat.mod_lt _ (by omega))).trans (by simp)
theorem btN_outB (x : E8) (m k : Nat) (hk : k < 4 * m) : btN (outB x m) k = x.nth (k / 4) / 2 ^ (24 - 8 * (k % 4)) % 256 := by
  induction m with
  | zero => omega
  | succ m ih =>
    rw [outB]
    have hs := outB_size x m
    by_cases h : k < 4 * m
    · rw [btN_append_left (by omega), ih h]
    · rw [btN_append_right (by omega), hs, btN_be4 _ _ (by omega), show k / 4 = m by omega, show k % 4 = k - 4 * m by omega]
theorem two_digits (n k : Nat) (hk : k < 4) : dgt n (2 * k) = n / 2 ^ (24 - 8 * k) % 256 / 16 ∧ dgt n (2 * k + 1) = n / 2 ^ (24 - 8 * k) % 256 % 16 := by
  unfold dgt
  match k, hk with
  | 0, _ => constructor <;> simp <;> omega
  | 1, _ => constructor <;> simp <;> omega
  | 2, _ => constructor <;> simp <;> omega
  | 3, _ => constructor <;> simp <;> omega
theorem digit_at (d : Nat) (hd : d < 16) : digits16.extract d (d + 1) = ⟨#[b8 (digB d)]⟩ := by
  have : ∀ d : Fin 16, (digits16.extract d.val (d.val + 1)).data = #[b8 (digB d.val)] := by decide
  exact ByteArray.ext (this ⟨d, hd⟩)
theorem hexB_digL (x : E8) (k : Nat) (hk : k ≤ 32) : hexB (outB x 8) k = ⟨(digL x (2 * k)).toArray⟩ := by
  induction k with
  | zero => rfl
  | succ k ih =>
    have hb := btN_outB x 8 k (by omega)
    have h2 := two_digits (x.nth (k / 4)) (k % 4) (by omega)
    have hl := btN_lt (outB x 8) k
    rw [hexB, ih (by omega), digit_at _ (by omega), digit_at _ (by omega), show 2 * (k + 1) = 2 * k + 1 + 1 by omega, digL_succ, digL_succ, hb,
      show 2 * k / 8 = k / 4 by omega, show (2 * k + 1) / 8 = k / 4 by omega, show 2 * k % 8 = 2 * (k % 4) by omega, show (2 * k + 1) % 8 = 2 * (k % 4) + 1 by omega, h2.1, h2.2]
    apply ByteArray.ext
    rw [ByteArray.data_append, ByteArray.data_append]
    exact Array.ext' (by simp)
theorem digest_digL (s : ByteArray) : digestOf s = ⟨(digL (foldX kNum h0 (s ++ ⟨(padZ (zeroN s.size) s.size 8).toArray⟩) ((s.size + 9 + zeroN s.size) / 64)) 64).toArray⟩ := by
  rw [digestOf, padRef_size, padRef_eq, foldB_foldX, hexB_digL _ 32 (by omega)]
end Go.Proofs.YtndfmgdhiallpaaGreatDoor
