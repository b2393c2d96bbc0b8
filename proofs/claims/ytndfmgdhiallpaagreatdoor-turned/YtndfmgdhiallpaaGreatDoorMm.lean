/- Packed bytes, plainly: bits laid into bytes, and that codes and numbers are read as they were laid. Packed bytes, plainly: the codes of kind 1; copies as symbols; a block of kind 1 is read as it was laid. Packed bytes, plainly: which copies are found, and what they make. Packed bytes, plainly: bytes as they are; which is shorter; how short what comes again is. -/
import Derived.Test.YtndfmgdhiallpaaGreatDoorMh
namespace Go.Proofs.YtndfmgdhiallpaaGreatDoor
open Go.RowKit

/-! Bits in bytes. -/
/-- Some bits as a number, the lowest first. -/
def oct (B : List Nat) (k : Nat) : Nat → Nat
  | 0 => 0
  | n + 1 => oct B k n + B.getD (8 * k + n) 0 * 2 ^ n
def Bin (B : List Nat) : Prop := ∀ x ∈ B, x < 2
theorem Bin.get {B : List Nat} (hB : Bin B) (i : Nat) : B.getD i 0 < 2 := by
  rw [List.getD_eq_getElem?_getD]
  rcases Nat.lt_or_ge i B.length with hl | hl
  · rw [List.getElem?_eq_getElem hl]; exact hB _ (List.getElem_mem _)
  · rw [List.getElem?_eq_none hl]; decide
theorem Bin.append {A B : List Nat} (hA : Bin A) (hB : Bin B) : Bin (A ++ B) := fun x hx => (List.mem_append.1 hx).elim (hA x) (hB x)
theorem oct_lt {B : List Nat} (hB : Bin B) (k n : Nat) : oct B k n < 2 ^ n := by
  induction n with
  | zero => exact Nat.one_pos
  | succ n ih =>
    have h := hB.get (8 * k + n)
    have h2 : B.getD (8 * k + n) 0 * 2 ^ n ≤ 1 * 2 ^ n := Nat.mul_le_mul_right _ (by omega)
    rw [oct, Nat.pow_succ]; omega
/-- The bytes of bits. -/
def packB (B : List Nat) : List UInt8 := (List.range ((B.length + 7) / 8)).map fun k => b8 (oct B k 8)
theorem packB_len (B : List Nat) : (packB B).length = (B.length + 7) / 8 := by simp [packB]
theorem oct_congr {A B : List Nat} {k n : Nat} (h : ∀ i, i < n → A.getD (8 * k + i) 0 = B.getD (8 * k + i) 0) : oct A k n = oct B k n := by
  induction n with
  | zero => rfl
  | succ n ih => rw [oct, oct, ih (fun i hi => h i (by omega)), h n (by omega)]
theorem packB_get (B : List Nat) (k : Nat) (h : k < (B.length + 7) / 8) : (packB B)[k]? = some (b8 (oct B k 8)) := by simp [packB, h]
theorem getD_snoc (B : List Nat) (b i : Nat) : (B ++ [b]).getD i 0 = if i < B.length then B.getD i 0 else if i = B.length then b else 0 := by
  rw [List.getD_eq_getElem?_getD, List.getD_eq_getElem?_getD]
  by_cases h : i < B.length
  · rw [if_pos h, List.getElem?_append_left h]
  · rw [if_neg h, List.getElem?_append_right (by omega)]
    by_cases h2 : i = B.length
    · subst h2; simp
    · rw [if_neg h2]
      obtain ⟨j, hj⟩ : ∃ j, i - B.length = j + 1 := ⟨i - B.length - 1, by omega⟩
      rw [hj]; rfl
theorem getD_none (B : List Nat) (i : Nat) (h : B.length ≤ i) : B.getD i 0 = 0 := by
  rw [List.getD_eq_getElem?_getD, List.getElem?_eq_none h]; rfl
/-- A bit that begins a byte. -/
theorem packB_new {B : List Nat} (b : Nat) (h : B.length % 8 = 0) : packB (B ++ [b]) = packB B ++ [b8 b] := by
  apply List.ext_getElem?
  intro k
  rw [List.getElem?_append]
  rcases Nat.lt_or_ge k ((B.length + 7) / 8) with hk | hk
  · rw [if_pos (by rw [packB_len]; exact hk), packB_get B k hk, packB_get _ k (by rw [List.length_append]; simp; omega)]
    congr 2
    exact oct_congr (fun i hi => by rw [getD_snoc, if_pos (by omega)])
  · rw [if_neg (by rw [packB_len]; omega), packB_len]
    by_cases e : k = B.length / 8
    · rw [packB_get _ k (by rw [List.length_append]; simp; omega), show k - (B.length + 7) / 8 = 0 by omega]
      show some _ = some _
      congr 2
      have z : ∀ n, n ≤ 7 → oct (B ++ [b]) k (n + 1) = b := by
        intro n
        induction n with
        | zero => intro _; rw [oct, oct, getD_snoc, if_neg (by omega), if_pos (by omega)]; omega
        | succ n ih => intro hn; rw [oct, ih (by omega), getD_snoc, if_neg (by omega), if_neg (by omega)]; omega
      exact z 7 (by omega)
    · rw [List.getElem?_eq_none (by rw [packB_len, List.length_append]; simp; omega), List.getElem?_eq_none (by simp; omega)]
/-- A bit within a byte. -/
theorem packB_in {B : List Nat} (b : Nat) (h : B.length % 8 ≠ 0) : packB (B ++ [b]) = (packB B).set ((packB B).length - 1) (b8 (oct B (B.length / 8) 8 + b * 2 ^ (B.length % 8))) := by
  apply List.ext_getElem?
  intro k
  rw [List.getElem?_set, packB_len]
  by_cases e : (B.length + 7) / 8 - 1 = k
  · rw [if_pos e, if_pos (by omega), packB_get _ k (by rw [List.length_append]; simp; omega)]
    have hk : k = B.length / 8 := by omega
    congr 2
    subst hk
    have z : ∀ n, oct (B ++ [b]) (B.length / 8) n = oct B (B.length / 8) n + if B.length % 8 < n then b * 2 ^ (B.length % 8) else 0 := by
      intro n
      induction n with
      | zero => rw [oct, oct, if_neg (by omega)]
      | succ n ih =>
        rw [oct, oct, ih, getD_snoc]
        rcases Nat.lt_trichotomy n (B.length % 8) with h1 | h1 | h1
        · rw [if_pos (show 8 * (B.length / 8) + n < B.length by omega), if_neg (show ¬ B.length % 8 < n by omega), if_neg (show ¬ B.length % 8 < n + 1 by omega)]; omega
        · rw [if_neg (show ¬ 8 * (B.length / 8) + n < B.length by omega), if_pos (show 8 * (B.length / 8) + n = B.length by omega), if_neg (show ¬ B.length % 8 < n by omega), if_pos (show B.length % 8 < n + 1 by omega), getD_none B _ (by omega), h1]; omega
        · rw [if_neg (show ¬ 8 * (B.length / 8) + n < B.length by omega), if_neg (show ¬ 8 * (B.length / 8) + n = B.length by omega), if_pos (show B.length % 8 < n by omega), if_pos (show B.length % 8 < n + 1 by omega), getD_none B _ (by omega)]; omega
    rw [z 8, if_pos (by omega)]
  · rw [if_neg e]
    rcases Nat.lt_or_ge k ((B.length + 7) / 8) with hk | hk
    · rw [packB_get B k hk, packB_get _ k (by rw [List.length_append]; simp; omega)]
      congr 2
      exact oct_congr (fun i hi => by rw [getD_snoc, if_pos (by omega)])
    · rw [List.getElem?_eq_none (by rw [packB_len, List.length_append]; simp; omega), List.getElem?_eq_none (by rw [packB_len]; omega)]
/-- Zeros up to a byte's end change no byte. -/
theorem packB_pad (B : List Nat) (n : Nat) (h : (B.length + 7) / 8 = (B.length + n + 7) / 8) : packB (B ++ List.replicate n 0) = packB B := by
  apply List.ext_getElem?
  intro k
  rcases Nat.lt_or_ge k ((B.length + 7) / 8) with hk | hk
  · rw [packB_get B k hk, packB_get _ k (by rw [List.length_append, List.length_replicate]; omega)]
    congr 2
    refine oct_congr (fun i hi => ?_)
    rw [List.getD_eq_getElem?_getD, List.getD_eq_getElem?_getD]
    rcases Nat.lt_or_ge (8 * k + i) B.length with hl | hl
    · rw [List.getElem?_append_left hl]
    · rw [List.getElem?_append_right hl, List.getElem?_eq_none (l := B) hl, List.getElem?_replicate]; split <;> rfl
  · rw [List.getElem?_eq_none (by rw [packB_len, List.length_append, List.length_replicate]; omega), List.getElem?_eq_none (by rw [packB_len]; omega)]

/-! Numbers and codes as bits. -/
/-- A number, the lowest bit first. -/
def numB (v n : Nat) : List Nat := (List.range n).map fun i => v / 2 ^ i % 2
/-- A code, the highest bit first. -/
def codeB (v n : Nat) : List Nat := (List.range n).map fun i => v / 2 ^ (n - 1 - i) % 2
theorem numB_len (v n : Nat) : (numB v n).length = n := by simp [numB]
theorem codeB_len (v n : Nat) : (codeB v n).length = n := by simp [codeB]
theorem numB_bin (v n : Nat) : Bin (numB v n) := by
  intro x hx; obtain ⟨i, _, rfl⟩ := List.mem_map.1 hx; exact Nat.mod_lt _ (by omega)
theorem codeB_bin (v n : Nat) : Bin (codeB v n) := by
  intro x hx; obtain ⟨i, _, rfl⟩ := List.mem_map.1 hx; exact Nat.mod_lt _ (by omega)
theorem codeB_get (v n i : Nat) (h : i < n) : (codeB v n).getD i 0 = v / 2 ^ (n - 1 - i) % 2 := by
  rw [List.getD_eq_getElem?_getD]; simp [codeB, h]
theorem numB_succ (v n : Nat) : numB v (n + 1) = numB v n ++ [v / 2 ^ n % 2] := by simp [numB, List.range_succ]
end Go.Proofs.YtndfmgdhiallpaaGreatDoor
namespace Go.Proofs.YtndfmgdhiallpaaGreatDoor
open Go.RowKit

/-! The codes of kind 1. -/
theorem run7 : runL fixL 7 = (List.range 24).map (fun i => 256 + i) := by decide +kernel
theorem run8 : runL fixL 8 = List.range 144 ++ (List.range 8).map (fun i => 280 + i) := by decide +kernel
theorem run9 : runL fixL 9 = (List.range 112).map (fun i => 144 + i) := by decide +kernel
theorem run06 : (List.range 7).all (fun m => (runL fixL m).isEmpty) = true := by decide +kernel
theorem run_low (m : Nat) (h : m < 7) : runL fixL m = [] := by
  have := List.all_eq_true.1 run06 m (List.mem_range.2 h)
  exact List.isEmpty_iff.1 this
theorem first_low (m : Nat) (h : m ≤ 7) : firstL fixL m = 0 := by
  induction m with
  | zero => rfl
  | succ m ih => rw [firstL, ih (by omega), run_low m (by omega)]; split <;> rfl
theorem first8 : firstL fixL 8 = 48 := by rw [firstL, first_low 7 (by omega), run7]; rfl
theorem first9 : firstL fixL 9 = 400 := by rw [firstL, first8, run8, List.length_append, List.length_range, List.length_map, List.length_range, if_neg (by decide)]
theorem runD5 : runL fixD 5 = List.range 32 := by decide +kernel
theorem runD04 : (List.range 5).all (fun m => (runL fixD m).isEmpty) = true := by decide +kernel
theorem runD_low (m : Nat) (h : m < 5) : runL fixD m = [] := List.isEmpty_iff.1 (List.all_eq_true.1 runD04 m (List.mem_range.2 h))
theorem firstD_low (m : Nat) (h : m ≤ 5) : firstL fixD m = 0 := by
  induction m with
  | zero => rfl
  | succ m ih => rw [firstL, ih (by omega), runD_low m (by omega)]; split <;> rfl
/-- A symbol's code of kind 1. -/
def fixV (y : Nat) : Nat := if y < 144 then 48 + y else if y < 256 then 400 + (y - 144) else if y < 280 then y - 256 else 192 + (y - 280)
def fixN (y : Nat) : Nat := if y < 144 then 8 else if y < 256 then 9 else if y < 280 then 7 else 8
def symB (y : Nat) : List Nat := codeB (fixV y) (fixN y)
def dstB (d : Nat) : List Nat := codeB d 5
theorem symB_len (y : Nat) : (symB y).length = fixN y := codeB_len _ _
theorem fixN_le (y : Nat) : fixN y ≤ 9 := by unfold fixN; repeat (first | split | omega)
theorem getD_map_range (n c j : Nat) (h : j < n) : ((List.range n).map (fun i => c + i)).getD j 0 = c + j := by
  rw [List.getD_eq_getElem?_getD]; simp [h]
/-! Copies as symbols. -/
/-- The symbol for a length, looked for from y on downwards. -/
def symGoN (len : Nat) : Nat → Nat
  | 0 => 257
  | k + 1 => if len < lenBase (257 + (k + 1)) then symGoN len k else 257 + (k + 1)
def symOf (len : Nat) : Nat := symGoN len 28
def dsymGo (far : Nat) : Nat → Nat
  | 0 => 0
  | k + 1 => if far < dstBase (k + 1) then dsymGo far k else k + 1
def dsymOf (far : Nat) : Nat := dsymGo far 29
theorem symOf_all : (List.range 259).all (fun n => decide (3 ≤ n → 257 ≤ symOf n ∧ symOf n ≤ 285 ∧ lenBase (symOf n) ≤ n ∧ n < lenBase (symOf n) + 2 ^ lenBits (symOf n) ∧ fixN (symOf n) + lenBits (symOf n) ≤ 13)) = true := by decide +kernel
theorem symOf_ok (n : Nat) (h : 3 ≤ n) (h2 : n ≤ 258) : 257 ≤ symOf n ∧ symOf n ≤ 285 ∧ lenBase (symOf n) ≤ n ∧ n < lenBase (symOf n) + 2 ^ lenBits (symOf n) ∧ fixN (symOf n) + lenBits (symOf n) ≤ 13 :=
  of_decide_eq_true (List.all_eq_true.1 symOf_all n (List.mem_range.2 (by omega))) h
theorem dstBase_next : (List.range 30).all (fun y => decide (dstBase (y + 1) = dstBase y + 2 ^ dstBits y)) = true := by decide +kernel
theorem dsymGo_ok (far : Nat) (h : 1 ≤ far) : ∀ k, k ≤ 29 → far < dstBase (k + 1) → dsymGo far k ≤ k ∧ dstBase (dsymGo far k) ≤ far ∧ far < dstBase (dsymGo far k) + 2 ^ dstBits (dsymGo far k)
  | 0, _, h2 => by
    rw [dsymGo]
    have : dstBase (0 + 1) = 2 := rfl
    have e0 : dstBase 0 = 1 := rfl
    exact ⟨Nat.le_refl _, by omega, by rw [e0]; have : dstBits 0 = 0 := rfl; rw [this]; omega⟩
  | k + 1, hk, h2 => by
    rw [dsymGo]
    split
    · rename_i hlt
      have := dsymGo_ok far h k (by omega) hlt
      exact ⟨by omega, this.2⟩
    · rename_i hge
      have e := of_decide_eq_true (List.all_eq_true.1 dstBase_next (k + 1) (List.mem_range.2 (by omega)))
      exact ⟨Nat.le_refl _, by omega, by omega⟩
theorem dsymOf_ok (far : Nat) (h : 1 ≤ far) (h2 : far ≤ 32768) : dsymOf far ≤ 29 ∧ dstBase (dsymOf far) ≤ far ∧ far < dstBase (dsymOf far) + 2 ^ dstBits (dsymOf far) :=
  dsymGo_ok far h 29 (by omega) (by have : dstBase (29 + 1) = 32769 := rfl; omega)
/-! Symbols and copies as bits. -/
inductive Tok
  | lit (c : Nat)
  | cpy (len far : Nat)
def tokB : Tok → List Nat
  | .lit c => symB c
  | .cpy len far => symB (symOf len) ++ (numB (len - lenBase (symOf len)) (lenBits (symOf len)) ++ (dstB (dsymOf far) ++ numB (far - dstBase (dsymOf far)) (dstBits (dsymOf far))))
def toksB (T : List Tok) : List Nat := (T.map tokB).flatten
theorem toksB_cons (t : Tok) (T : List Tok) : toksB (t :: T) = tokB t ++ toksB T := by simp [toksB]
theorem tokB_bin (t : Tok) : Bin (tokB t) := by
  cases t with
  | lit c => exact codeB_bin _ _
  | cpy len far => exact (codeB_bin _ _).append ((numB_bin _ _).append ((codeB_bin _ _).append (numB_bin _ _)))
/-- A whole block of kind 1 that is the last. -/
def fixB (T : List Tok) : List Nat := 1 :: 1 :: 0 :: (toksB T ++ symB 256)
end Go.Proofs.YtndfmgdhiallpaaGreatDoor
namespace Go.Proofs.YtndfmgdhiallpaaGreatDoor
open Go.RowKit

/-- Three bytes from a place on (fewer at the end). -/
def row3 (d : ByteArray) (p : Nat) : ByteArray := d.extract p (p + 3)
theorem row3_size (d : ByteArray) (p : Nat) : (row3 d p).size = min (p + 3) d.size - p := by rw [row3, ByteArray.size_extract]
/-- The last place below n where a row stands, and 1; 0: none. -/
def lastN (d r : ByteArray) : Nat → Nat
  | 0 => 0
  | n + 1 => if row3 d n = r then n + 1 else lastN d r n
theorem lastN_le (d r : ByteArray) (n : Nat) : lastN d r n ≤ n := by
  induction n with
  | zero => exact Nat.le_refl _
  | succ n ih => rw [lastN]; split <;> omega
theorem lastN_row {d r : ByteArray} {n q : Nat} (h : lastN d r n = q + 1) : row3 d q = r ∧ q < n := by
  induction n with
  | zero => cases h
  | succ n ih =>
    rw [lastN] at h
    split at h
    · rename_i hr
      have e : q = n := by omega
      subst e
      exact ⟨hr, by omega⟩
    · have := ih h; exact ⟨this.1, by omega⟩
/-- How many bytes are the same from two places on, at most k. -/
def sameGo (d : ByteArray) (p q : Nat) : Nat → Nat
  | 0 => 0
  | k + 1 => if sameGo d p q k = k ∧ btN d (p + k) = btN d (q + k) then k + 1 else sameGo d p q k
theorem sameGo_le (d : ByteArray) (p q k : Nat) : sameGo d p q k ≤ k := by
  induction k with
  | zero => exact Nat.le_refl _
  | succ k ih => rw [sameGo]; split <;> omega
theorem sameGo_eq {d : ByteArray} {p q : Nat} : ∀ {k i : Nat}, i < sameGo d p q k → btN d (p + i) = btN d (q + i)
  | k + 1, i, h => by
    rw [sameGo] at h
    split at h
    · rename_i hk
      rcases Nat.lt_or_ge i k with hi | hi
      · exact sameGo_eq (k := k) (by omega)
      · have e : i = k := by omega
        subst e; exact hk.2
    · exact sameGo_eq h
theorem sameGo_all {d : ByteArray} {p q : Nat} {k : Nat} (h : ∀ i, i < k → btN d (p + i) = btN d (q + i)) : sameGo d p q k = k := by
  induction k with
  | zero => rfl
  | succ k ih => rw [sameGo, if_pos ⟨ih (fun i hi => h i (by omega)), h k (by omega)⟩]
/-- Where a count has stopped, it stays. -/
theorem sameGo_stop {d : ByteArray} {p q c : Nat} (hc : sameGo d p q c = c) (hne : btN d (p + c) ≠ btN d (q + c)) : ∀ k, c ≤ k → sameGo d p q k = c
  | 0, h => by rw [show c = 0 by omega]; rfl
  | k + 1, h => by
    rcases Nat.lt_or_ge c (k + 1) with hl | hl
    · have := sameGo_stop hc hne k (by omega)
      rw [sameGo, this]
      split
      · rename_i hh; obtain ⟨h1, h2⟩ := hh; subst h1; exact absurd h2 hne
      · rfl
    · have e : c = k + 1 := by omega
      rw [← e]; exact hc
def mostN (d : ByteArray) (at_ : Nat) : Nat := min 258 (d.size - at_)
def sameN (d : ByteArray) (p q : Nat) : Nat := sameGo d p q (mostN d q)
/-- Of the places from f on (1 more than it is), at most k of them, the longest that is nearest. -/
def bestGo (d : ByteArray) (q : Nat) : Nat → Nat → Nat × Nat → Nat × Nat
  | 0, _, b => b
  | k + 1, f, b => if f = 0 then b else bestGo d q k (lastN d (row3 d (f - 1)) (f - 1)) (if b.1 < sameN d (f - 1) q then (sameN d (f - 1) q, q - (f - 1)) else b)
def lastAt (d : ByteArray) (q : Nat) : Nat := if d.size < q + 3 then 0 else lastN d (row3 d q) q
def longN (d : ByteArray) (q : Nat) : Nat × Nat := bestGo d q 128 (lastAt d q) (0, 0)
theorem lastAt_row {d : ByteArray} {q f : Nat} (h : lastAt d q = f + 1) : row3 d f = row3 d q ∧ f < q ∧ q + 3 ≤ d.size := by
  unfold lastAt at h
  split at h
  · cases h
  · have := lastN_row h; exact ⟨this.1, this.2, by omega⟩
theorem row3_same {d : ByteArray} {p q : Nat} (h : row3 d p = row3 d q) (hp : p + 3 ≤ d.size) (hq : q + 3 ≤ d.size) : ∀ i, i < 3 → btN d (p + i) = btN d (q + i) := by
  intro i hi
  rw [← btN_extract (s := d) (a := p) (b := p + 3) (k := i) (by omega) hp, ← btN_extract (s := d) (a := q) (b := q + 3) (k := i) (by omega) hq]
  exact congrArg (fun r => btN r i) h
theorem sameN_three {d : ByteArray} {p q : Nat} (h : row3 d p = row3 d q) (hpq : p ≤ q) (hq : q + 3 ≤ d.size) : 3 ≤ sameN d p q := by
  have h3 := sameGo_all (k := 3) (row3_same h (by omega) hq)
  unfold sameN mostN
  have hm : 3 ≤ min 258 (d.size - q) := by omega
  have mono : ∀ k, 3 ≤ k → 3 ≤ sameGo d p q k := by
    intro k hk
    induction k with
    | zero => omega
    | succ k ih =>
      rcases Nat.lt_or_ge 2 k with h5 | h5
      · rw [sameGo]; split
        · omega
        · exact ih (by omega)
      · rw [show k + 1 = 3 by omega, h3]; exact Nat.le_refl _
  exact mono _ hm
/-- A copy that may be laid at q. -/
def Copy (d : ByteArray) (q : Nat) (b : Nat × Nat) : Prop := 3 ≤ b.1 ∧ b.1 ≤ 258 ∧ q + b.1 ≤ d.size ∧ 1 ≤ b.2 ∧ b.2 ≤ q ∧ ∀ i, i < b.1 → btN d (q - b.2 + i) = btN d (q + i)
theorem copy_same {d : ByteArray} {p q : Nat} (h : row3 d p = row3 d q) (hpq : p < q) (hq : q + 3 ≤ d.size) : Copy d q (sameN d p q, q - p) := by
  have h3 := sameN_three h (by omega) hq
  have hl : sameN d p q ≤ mostN d q := sameGo_le _ _ _ _
  unfold mostN at hl
  refine ⟨h3, by omega, by show q + sameN d p q ≤ d.size; omega, by show 1 ≤ q - p; omega, by show q - p ≤ q; omega, fun i hi => ?_⟩
  show btN d (q - (q - p) + i) = _
  rw [show q - (q - p) = p by omega]
  exact sameGo_eq (k := mostN d q) hi
theorem bestGo_ok {d : ByteArray} {q : Nat} (hq : q + 3 ≤ d.size) : ∀ {k f : Nat} {b : Nat × Nat}, (f = 0 ∨ (row3 d (f - 1) = row3 d q ∧ f - 1 < q)) → (b = (0, 0) ∨ Copy d q b) → (bestGo d q k f b = (0, 0) ∧ b = (0, 0) ∧ (k = 0 ∨ f = 0)) ∨ Copy d q (bestGo d q k f b)
  | 0, f, b, _, hb => by
    rw [bestGo]
    rcases hb with rfl | hb
    · exact .inl ⟨rfl, rfl, .inl rfl⟩
    · exact .inr hb
  | k + 1, f, b, hf, hb => by
    rw [bestGo]
    by_cases h0 : f = 0
    · rw [if_pos h0]
      rcases hb with rfl | hb
      · exact .inl ⟨rfl, rfl, .inr h0⟩
      · exact .inr hb
    · rw [if_neg h0]
      obtain ⟨hr, hlt⟩ : row3 d (f - 1) = row3 d q ∧ f - 1 < q := hf.resolve_left h0
      have hc := copy_same hr hlt hq
      have hnew : Copy d q (if b.1 < sameN d (f - 1) q then (sameN d (f - 1) q, q - (f - 1)) else b) := by
        split
        · exact hc
        · rename_i hge
          rcases hb with rfl | hb
          · exact absurd (show (0 : Nat) < sameN d (f - 1) q from Nat.lt_of_lt_of_le (by omega) hc.1) hge
          · exact hb
      have hf2 : lastN d (row3 d (f - 1)) (f - 1) = 0 ∨ (row3 d (lastN d (row3 d (f - 1)) (f - 1) - 1) = row3 d q ∧ lastN d (row3 d (f - 1)) (f - 1) - 1 < q) := by
        rcases Nat.eq_zero_or_pos (lastN d (row3 d (f - 1)) (f - 1)) with h | h
        · exact .inl h
        · obtain ⟨g, hg⟩ : ∃ g, lastN d (row3 d (f - 1)) (f - 1) = g + 1 := ⟨_, (Nat.succ_pred_eq_of_pos h).symm⟩
          have := lastN_row hg
          rw [hg]
          exact .inr ⟨by rw [Nat.add_sub_cancel, this.1, hr], by omega⟩
      rcases bestGo_ok hq (k := k) hf2 (.inr hnew) with ⟨h1, h2, _⟩ | h1
      · rw [h2] at hnew; exact absurd hnew.1 (by decide)
      · exact .inr h1
theorem longN_ok (d : ByteArray) (q : Nat) : longN d q = (0, 0) ∨ Copy d q (longN d q) := by
  unfold longN
  by_cases h : d.size < q + 3
  · left; rw [lastAt, if_pos h]; rfl
  · have hf : lastAt d q = 0 ∨ (row3 d (lastAt d q - 1) = row3 d q ∧ lastAt d q - 1 < q) := by
      rcases Nat.eq_zero_or_pos (lastAt d q) with h0 | h0
      · exact .inl h0
      · obtain ⟨g, hg⟩ : ∃ g, lastAt d q = g + 1 := ⟨_, (Nat.succ_pred_eq_of_pos h0).symm⟩
        have := lastAt_row hg
        rw [hg]; exact .inr ⟨this.1, by omega⟩
    rcases bestGo_ok (by omega) (k := 128) hf (.inl rfl) with h1 | h1
    · exact .inl h1.1
    · exact .inr h1
/-! The symbols of data. -/
def tokAt (d : ByteArray) (q : Nat) : Tok := if (longN d q).1 = 0 then .lit (btN d q) else .cpy (longN d q).1 (longN d q).2
def cntAt (d : ByteArray) (q : Nat) : Nat := if (longN d q).1 = 0 then 1 else (longN d q).1
theorem cntAt_pos (d : ByteArray) (q : Nat) : 1 ≤ cntAt d q := by unfold cntAt; split <;> omega
def toksGo (d : ByteArray) : Nat → Nat → List Tok
  | 0, _ => []
  | k + 1, q => if q < d.size then tokAt d q :: toksGo d k (q + cntAt d q) else []
theorem toksGo_enough (d : ByteArray) : ∀ {k k' q : Nat}, d.size ≤ q + k → d.size ≤ q + k' → toksGo d k q = toksGo d k' q
  | 0, 0, _, _, _ => rfl
  | 0, k' + 1, q, h, _ => by rw [toksGo, toksGo, if_neg (by omega)]
  | k + 1, 0, q, _, h => by rw [toksGo, toksGo, if_neg (by omega)]
  | k + 1, k' + 1, q, h, h' => by
    rw [toksGo, toksGo]
    have := cntAt_pos d q
    split
    · rw [toksGo_enough d (k := k) (k' := k') (by omega) (by omega)]
    · rfl
def toksFrom (d : ByteArray) (q : Nat) : List Tok := toksGo d d.size q
theorem toksFrom_step {d : ByteArray} {q : Nat} (h : q < d.size) : toksFrom d q = tokAt d q :: toksFrom d (q + cntAt d q) := by
  have := cntAt_pos d q
  unfold toksFrom
  obtain ⟨k, hk⟩ : ∃ k, d.size = k + 1 := ⟨d.size - 1, by omega⟩
  rw [hk, toksGo, hk, if_pos (by omega), toksGo_enough d (k := k) (k' := k + 1) (by omega) (by omega)]
theorem toksFrom_done {d : ByteArray} {q : Nat} (h : ¬ q < d.size) : toksFrom d q = [] := by
  unfold toksFrom
  rw [toksGo_enough d (k := d.size) (k' := 0) (by omega) (by omega)]; rfl
/-- The first q bytes. -/
def headL (d : ByteArray) (q : Nat) : List UInt8 := (List.range q).map fun i => b8 (btN d i)
theorem headL_len (d : ByteArray) (q : Nat) : (headL d q).length = q := by simp [headL]
theorem headL_all (d : ByteArray) : (⟨(headL d d.size).toArray⟩ : ByteArray) = d := by
  apply ByteArray.ext
  apply Array.ext_getElem?
  intro i
  show (headL d d.size).toArray[i]? = _
  rw [List.getElem?_toArray]
  rcases Nat.lt_or_ge i d.size with h | h
  · have e : d.data[i]? = some d.data[i] := Array.getElem?_eq_getElem h
    rw [e]
    simp only [headL, List.getElem?_map, List.getElem?_range h, Option.map_some]
    congr 1
    unfold btN
    rw [dif_pos h]
    show b8 (d.data[i]).toNat = _
    simp [b8]
  · rw [List.getElem?_eq_none (by rw [headL_len]; exact h), Array.getElem?_eq_none h]
/-- The packed bytes of kind 1. -/
def fixedP (d : ByteArray) : ByteArray := ⟨(packB (fixB (toksFrom d 0))).toArray⟩
end Go.Proofs.YtndfmgdhiallpaaGreatDoor
namespace Go.Proofs.YtndfmgdhiallpaaGreatDoor
open Go.RowKit

/-! As they are. -/
def plainH (n : Nat) : List Nat := [1, 0, 0, 0, 0, 0, 0, 0] ++ (numB n 16 ++ numB (65535 - n) 16)
theorem plainH_len (n : Nat) : (plainH n).length = 40 := by simp [plainH, numB_len]
def plainL (d : ByteArray) : List UInt8 := packB (plainH d.size) ++ headL d d.size
def plainP (d : ByteArray) : ByteArray := ⟨(plainL d).toArray⟩
theorem plainL_len (d : ByteArray) : (plainL d).length = d.size + 5 := by rw [plainL, List.length_append, packB_len, plainH_len, headL_len]; omega
theorem plainP_size (d : ByteArray) : (plainP d).size = d.size + 5 := by show (plainL d).toArray.size = _; rw [List.size_toArray, plainL_len]
/-! The shorter one. -/
def deflP (d : ByteArray) : ByteArray := if (plainP d).size < (fixedP d).size then plainP d else fixedP d
theorem deflP_size (d : ByteArray) : (deflP d).size ≤ d.size + 5 ∧ (deflP d).size ≤ (fixedP d).size := by
  have := plainP_size d
  unfold deflP
  split <;> omega
theorem bytes_append (a : List UInt8) (b : ByteArray) : (⟨a.toArray⟩ : ByteArray) ++ b = ⟨(a ++ b.data.toList).toArray⟩ := by
  apply ByteArray.ext; simp
/-! What comes again and again. -/
theorem dst5_all : (List.range 129).all (fun far => decide (1 ≤ far → dstBits (dsymOf far) ≤ 5)) = true := by decide +kernel
theorem dst13_all : (List.range 30).all (fun y => decide (dstBits y ≤ 13)) = true := by decide +kernel
theorem tok_lit_len (c : Nat) : (tokB (.lit c)).length ≤ 9 := by rw [tokB, symB_len]; exact fixN_le c
theorem tok_cpy_len (len far : Nat) : (tokB (.cpy len far)).length = fixN (symOf len) + lenBits (symOf len) + 5 + dstBits (dsymOf far) := by
  simp only [tokB, List.length_append, symB_len, numB_len, dstB, codeB_len]; omega
theorem tok_len {d : ByteArray} {q : Nat} (hd : d.size ≤ 20000) : (tokB (tokAt d q)).length ≤ 31 ∧ (q ≤ 128 → (tokB (tokAt d q)).length ≤ 23 ∧ (tokB (tokAt d q)).length ≤ 9 * cntAt d q) := by
  unfold tokAt cntAt
  rcases longN_ok d q with h | h
  · rw [h]
    have := tok_lit_len (btN d q)
    exact ⟨by show (tokB (.lit _)).length ≤ 31; omega, fun _ => ⟨by show (tokB (.lit _)).length ≤ 23; omega, by show (tokB (.lit _)).length ≤ 9; omega⟩⟩
  · obtain ⟨h3, h258, hsz, hf1, hfq, _⟩ := h
    rw [if_neg (by omega), if_neg (by omega), tok_cpy_len]
    have h5 := (symOf_ok _ h3 h258).2.2.2.2
    have hd2 := (dsymOf_ok _ hf1 (by omega)).1
    have h13 := of_decide_eq_true (List.all_eq_true.1 dst13_all _ (List.mem_range.2 (show dsymOf (longN d q).2 < 30 by omega)))
    refine ⟨by omega, fun hq => ?_⟩
    have h6 := of_decide_eq_true (List.all_eq_true.1 dst5_all _ (List.mem_range.2 (show (longN d q).2 < 129 by omega))) hf1
    omega
end Go.Proofs.YtndfmgdhiallpaaGreatDoor
