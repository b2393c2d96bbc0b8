/- The digest: its plain functions, after the document. -/
import Derived.Test.YtndfmgdhiallpaaGreatDoorHa
namespace Go.Proofs.YtndfmgdhiallpaaGreatDoor
open Go.RowKit

def sm0 (a : Nat) : Nat := (rotr a 7 ^^^ rotr a 18) ^^^ a / 8
def sm1 (a : Nat) : Nat := (rotr a 17 ^^^ rotr a 19) ^^^ a / 1024
def bg0 (a : Nat) : Nat := (rotr a 2 ^^^ rotr a 13) ^^^ rotr a 22
def bg1 (a : Nat) : Nat := (rotr a 6 ^^^ rotr a 11) ^^^ rotr a 25
def chs (e f g : Nat) : Nat := (e &&& f) ^^^ ((4294967295 - e) &&& g)
def mjr (a b c : Nat) : Nat := ((a &&& b) ^^^ (a &&& c)) ^^^ (b &&& c)
theorem sm0_lt {a : Nat} (h : a < 4294967296) : sm0 a < 4294967296 := xor32 (xor32 (rotr_lt _ h) (rotr_lt _ h)) (by omega)
theorem sm1_lt {a : Nat} (h : a < 4294967296) : sm1 a < 4294967296 := xor32 (xor32 (rotr_lt _ h) (rotr_lt _ h)) (by omega)
theorem bg0_lt {a : Nat} (h : a < 4294967296) : bg0 a < 4294967296 := xor32 (xor32 (rotr_lt _ h) (rotr_lt _ h)) (rotr_lt _ h)
theorem bg1_lt {a : Nat} (h : a < 4294967296) : bg1 a < 4294967296 := xor32 (xor32 (rotr_lt _ h) (rotr_lt _ h)) (rotr_lt _ h)
theorem chs_lt {e f g : Nat} (h : e < 4294967296) : chs e f g < 4294967296 := xor32 (and32 _ h) (and32 _ (by omega))
theorem mjr_lt {a b c : Nat} (h : a < 4294967296) (h2 : b < 4294967296) : mjr a b c < 4294967296 := xor32 (xor32 (and32 _ h) (and32 _ h)) (and32 _ h2)

/-- The byte at k; 0 behind the end. -/
def btN (s : ByteArray) (k : Nat) : Nat := if h : k < s.size then s[k].toNat else 0
theorem btN_lt (s : ByteArray) (k : Nat) : btN s k < 256 := by unfold btN; split; exact byte_lt _; omega
theorem btN_get {s : ByteArray} {k : Nat} (h : k < s.size) : s[k].toNat = btN s k := by unfold btN; rw [dif_pos h]
theorem btN_extract {s : ByteArray} {a b k : Nat} (h : a + k < b) (hb : b ≤ s.size) : btN (s.extract a b) k = btN s (a + k) := by
  have h1 : k < (s.extract a b).size := by rw [ByteArray.size_extract]; omega
  unfold btN
  rw [dif_pos h1, dif_pos (show a + k < s.size by omega), ByteArray.getElem_extract]
/-- The word of the four bytes from 4 t on. -/
def wrd (s : ByteArray) (k : Nat) : Nat := btN s k * 16777216 + btN s (k + 1) * 65536 + btN s (k + 2) * 256 + btN s (k + 3)
theorem wrd_lt (s : ByteArray) (k : Nat) : wrd s k < 4294967296 := by
  have := btN_lt s k; have := btN_lt s (k + 1); have := btN_lt s (k + 2); have := btN_lt s (k + 3)
  unfold wrd; omega

/-- The words W, as a row that grows. -/
def sched (s : ByteArray) : Nat → List Nat
  | 0 => []
  | t + 1 => sched s t ++ [if t < 16 then wrd s (4 * t) else (sm1 ((sched s t).getD (t - 2) 0) + (sched s t).getD (t - 7) 0 + sm0 ((sched s t).getD (t - 15) 0) + (sched s t).getD (t - 16) 0) % 4294967296]
theorem sched_len (s : ByteArray) (t : Nat) : (sched s t).length = t := by
  induction t with
  | zero => rfl
  | succ t ih => simp [sched, ih]
/-- The word W(t). -/
def wt (s : ByteArray) (t : Nat) : Nat := (sched s (t + 1)).getD t 0
theorem sched_get (s : ByteArray) (n j : Nat) (h : j < n) : (sched s n).getD j 0 = wt s j := by
  induction n with
  | zero => omega
  | succ n ih =>
    by_cases e : j = n
    · subst e; rfl
    · rw [sched, List.getD_eq_getElem?_getD, List.getElem?_append_left (by rw [sched_len]; omega), ← List.getD_eq_getElem?_getD]
      exact ih (by omega)
theorem wt_low (s : ByteArray) (t : Nat) (h : t < 16) : wt s t = wrd s (4 * t) := by
  unfold wt
  rw [sched, List.getD_eq_getElem?_getD, List.getElem?_append_right (by rw [sched_len]; omega), sched_len]
  simp [h]
theorem wt_high (s : ByteArray) (t : Nat) (h : 16 ≤ t) : wt s t = (sm1 (wt s (t - 2)) + wt s (t - 7) + sm0 (wt s (t - 15)) + wt s (t - 16)) % 4294967296 := by
  conv => lhs; unfold wt
  rw [sched, List.getD_eq_getElem?_getD, List.getElem?_append_right (by rw [sched_len]; omega), sched_len]
  simp only [Nat.sub_self, List.getElem?_cons_zero, Option.getD_some]
  rw [if_neg (by omega), sched_get _ _ _ (by omega), sched_get _ _ _ (by omega), sched_get _ _ _ (by omega), sched_get _ _ _ (by omega)]
theorem wt_lt (s : ByteArray) (t : Nat) : wt s t < 4294967296 := by
  by_cases h : t < 16
  · rw [wt_low s t h]; exact wrd_lt _ _
  · rw [wt_high s t (by omega)]; exact Nat.mod_lt _ (by omega)

/-- The eight words. -/
structure E8 where
  a : Nat
  b : Nat
  c : Nat
  d : Nat
  e : Nat
  f : Nat
  g : Nat
  h : Nat
def E8.ok (x : E8) : Prop := x.a < 4294967296 ∧ x.b < 4294967296 ∧ x.c < 4294967296 ∧ x.d < 4294967296 ∧ x.e < 4294967296 ∧ x.f < 4294967296 ∧ x.g < 4294967296 ∧ x.h < 4294967296
def E8.xx (x : E8) (k w : Nat) : Nat := x.h + bg1 x.e + chs x.e x.f x.g + k + w
def E8.yy (x : E8) : Nat := bg0 x.a + mjr x.a x.b x.c
def E8.round (x : E8) (k w : Nat) : E8 := ⟨(x.xx k w + x.yy) % 4294967296, x.a, x.b, x.c, (x.d + x.xx k w) % 4294967296, x.e, x.f, x.g⟩
def rounds (kf wf : Nat → Nat) : Nat → E8 → E8
  | 0, x => x
  | t + 1, x => (rounds kf wf t x).round (kf t) (wf t)
theorem E8.round_ok {x : E8} (h : x.ok) (k w : Nat) : (x.round k w).ok := ⟨Nat.mod_lt _ (by omega), h.1, h.2.1, h.2.2.1, Nat.mod_lt _ (by omega), h.2.2.2.2.1, h.2.2.2.2.2.1, h.2.2.2.2.2.2.1⟩
theorem rounds_ok (kf wf : Nat → Nat) (t : Nat) {x : E8} (h : x.ok) : (rounds kf wf t x).ok := by
  induction t with
  | zero => exact h
  | succ t ih => exact E8.round_ok ih _ _
def E8.plus (x y : E8) : E8 := ⟨(x.a + y.a) % 4294967296, (x.b + y.b) % 4294967296, (x.c + y.c) % 4294967296, (x.d + y.d) % 4294967296, (x.e + y.e) % 4294967296, (x.f + y.f) % 4294967296, (x.g + y.g) % 4294967296, (x.h + y.h) % 4294967296⟩
theorem E8.plus_ok (x y : E8) : (x.plus y).ok := ⟨Nat.mod_lt _ (by omega), Nat.mod_lt _ (by omega), Nat.mod_lt _ (by omega), Nat.mod_lt _ (by omega), Nat.mod_lt _ (by omega), Nat.mod_lt _ (by omega), Nat.mod_lt _ (by omega), Nat.mod_lt _ (by omega)⟩
/-- The eight words behind 64 bytes more. -/
def mixOf (kf : Nat → Nat) (x : E8) (s : ByteArray) : E8 := (rounds kf (wt s) 64 x).plus x
theorem mixOf_ok (kf : Nat → Nat) (x : E8) (s : ByteArray) : (mixOf kf x s).ok := E8.plus_ok _ _
/-- As a row. -/
def E8.nth (x : E8) : Nat → Nat
  | 0 => x.a
  | 1 => x.b
  | 2 => x.c
  | 3 => x.d
  | 4 => x.e
  | 5 => x.f
  | 6 => x.g
  | _ => x.h

theorem E8.nth_lt {x : E8} (h : x.ok) (j : Nat) : x.nth j < 4294967296 := by
  obtain ⟨h0, h1, h2, h3, h4, h5, h6, h7⟩ := h
  match j with
  | 0 => exact h0
  | 1 => exact h1
  | 2 => exact h2
  | 3 => exact h3
  | 4 => exact h4
  | 5 => exact h5
  | 6 => exact h6
  | _ + 7 => exact h7
theorem E8.plus_nth (x y : E8) (j : Nat) : (x.plus y).nth j = (x.nth j + y.nth j) % 4294967296 := by
  match j with
  | 0 => rfl
  | 1 => rfl
  | 2 => rfl
  | 3 => rfl
  | 4 => rfl
  | 5 => rfl
  | 6 => rfl
  | _ + 7 => rfl
theorem E8.cells_get (x : E8) (g : Nat → Value) (j : Nat) (h : j < 8) : (#[g x.a, g x.b, g x.c, g x.d, g x.e, g x.f, g x.g, g x.h] : Array Value)[j]? = some (g (x.nth j)) := by
  match j with
  | 0 => rfl
  | 1 => rfl
  | 2 => rfl
  | 3 => rfl
  | 4 => rfl
  | 5 => rfl
  | 6 => rfl
  | 7 => rfl
  | _ + 8 => omega

/-- What the walks leave of the functions of words. -/
theorem sm0_i {a : Nat} (h : a < 4294967296) : bits BinOp.xor IntKind.i64 (bits BinOp.xor IntKind.i64 (rotr a 7) (rotr a 18)) ((a : Int) / 8) = (sm0 a : Int) := by
  have h1 := rotr_lt 7 h; have h2 := rotr_lt 18 h
  rw [i64_xor_nat _ _ (by omega) (by omega)]
  exact i64_xor_nat _ (a / 8) (by have := xor32 h1 h2; omega) (by omega)
theorem sm1_i {a : Nat} (h : a < 4294967296) : bits BinOp.xor IntKind.i64 (bits BinOp.xor IntKind.i64 (rotr a 17) (rotr a 19)) ((a : Int) / 1024) = (sm1 a : Int) := by
  have h1 := rotr_lt 17 h; have h2 := rotr_lt 19 h
  rw [i64_xor_nat _ _ (by omega) (by omega)]
  exact i64_xor_nat _ (a / 1024) (by have := xor32 h1 h2; omega) (by omega)
theorem bg0_i {a : Nat} (h : a < 4294967296) : bits BinOp.xor IntKind.i64 (bits BinOp.xor IntKind.i64 (rotr a 2) (rotr a 13)) (rotr a 22) = (bg0 a : Int) := by
  have h1 := rotr_lt 2 h; have h2 := rotr_lt 13 h; have h3 := rotr_lt 22 h
  rw [i64_xor_nat _ _ (by omega) (by omega), i64_xor_nat _ _ (by have := xor32 h1 h2; omega) (by omega)]
  rfl
theorem bg1_i {a : Nat} (h : a < 4294967296) : bits BinOp.xor IntKind.i64 (bits BinOp.xor IntKind.i64 (rotr a 6) (rotr a 11)) (rotr a 25) = (bg1 a : Int) := by
  have h1 := rotr_lt 6 h; have h2 := rotr_lt 11 h; have h3 := rotr_lt 25 h
  rw [i64_xor_nat _ _ (by omega) (by omega), i64_xor_nat _ _ (by have := xor32 h1 h2; omega) (by omega)]
  rfl
theorem chs_i {e f g : Nat} (he : e < 4294967296) (hf : f < 4294967296) (hg : g < 4294967296) :
    bits BinOp.xor IntKind.i64 (bits BinOp.and IntKind.i64 e f) (bits BinOp.and IntKind.i64 (4294967295 - (e : Int)) g) = (chs e f g : Int) := by
  have e1 : (4294967295 - (e : Int)) = ((4294967295 - e : Nat) : Int) := by omega
  have h1 := and32 f he; have h2 := and32 g (show 4294967295 - e < 4294967296 by omega)
  rw [e1, i64_and_nat _ _ (by omega) (by omega), i64_and_nat _ _ (by omega) (by omega), i64_xor_nat _ _ (by omega) (by omega)]
  rfl
theorem mjr_i {a b c : Nat} (ha : a < 4294967296) (hb : b < 4294967296) (hc : c < 4294967296) :
    bits BinOp.xor IntKind.i64 (bits BinOp.xor IntKind.i64 (bits BinOp.and IntKind.i64 a b) (bits BinOp.and IntKind.i64 a c)) (bits BinOp.and IntKind.i64 b c) = (mjr a b c : Int) := by
  have h1 := and32 b ha; have h2 := and32 c ha; have h3 := and32 c hb
  have h4 := xor32 h1 h2
  rw [i64_and_nat _ _ (by omega) (by omega), i64_and_nat _ _ (by omega) (by omega), i64_and_nat _ _ (by omega) (by omega), i64_xor_nat _ _ (by omega) (by omega), i64_xor_nat _ _ (by omega) (by omega)]
  rfl
end Go.Proofs.YtndfmgdhiallpaaGreatDoor
