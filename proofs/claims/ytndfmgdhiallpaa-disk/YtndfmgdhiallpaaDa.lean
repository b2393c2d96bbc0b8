/- Contracts of package disk, the plain part: what a disk's things are, and the functions that mirror the calls. -/
import Derived.Test.YtndfmgdhiallpaaChecked
import Derived.WalkKit
namespace Go.Proofs.Ytndfmgdhiallpaa
open Go.RowKit

theorem ret2_eq {a b c d : Value} (h : a = c) (k : b = d) : Ending.returned (.tuple #[a, b]) = .returned (.tuple #[c, d]) := by rw [h, k]
theorem ret1_eq {a c : Value} (h : a = c) : Ending.returned a = .returned c := by rw [h]

theorem hide {p : Prop} (h : p) : Hid p := h
theorem unhide {p : Prop} (h : Hid p) : p := h

structure Th where
  p : ByteArray
  f : Bool
  d : ByteArray

def Th.vals (t : Th) : List Value := [.string t.p, .bool t.f, .string t.d]
def noTh : Th := ⟨⟨#[]⟩, false, ⟨#[]⟩⟩
def nth (ts : List Th) (k : Nat) : Th := ts.getD k noTh
def flat : List Th → List Value
  | [] => []
  | t :: r => .string t.p :: .bool t.f :: .string t.d :: flat r

theorem flat_length (ts : List Th) : (flat ts).length = ts.length * 3 := by
  induction ts with
  | nil => rfl
  | cons t r ih => simp [flat, ih]; omega

theorem flat_append (a b : List Th) : flat (a ++ b) = flat a ++ flat b := by
  induction a with
  | nil => rfl
  | cons t r ih => simp [flat, ih]

theorem flat_get (ts : List Th) (k : Nat) (h : k < ts.length) : (flat ts)[k * 3]? = some (.string (nth ts k).p) ∧ (flat ts)[k * 3 + 1]? = some (.bool (nth ts k).f) ∧ (flat ts)[k * 3 + 2]? = some (.string (nth ts k).d) := by
  induction ts generalizing k with
  | nil => simp at h
  | cons t r ih =>
    match k with
    | 0 => simp [flat, nth]
    | k + 1 =>
      have := ih k (by simpa using h)
      rw [show (k + 1) * 3 = k * 3 + 1 + 1 + 1 by omega]
      simpa [flat, nth] using this

/-- The search: the place of a path, or where it would be. -/
def bs (ts : List Th) (q : ByteArray) : Nat → Nat → Nat → Nat
  | 0, lo, _ => lo
  | n + 1, lo, hi => if lo < hi then (if Op.bytesLess (nth ts ((lo + hi) / 2)).p.toList q.toList then bs ts q n ((lo + hi) / 2 + 1) hi else bs ts q n lo ((lo + hi) / 2)) else lo

theorem bs_end (ts : List Th) (q : ByteArray) (n lo hi : Nat) (h : hi ≤ lo) : bs ts q n lo hi = lo := by
  cases n with
  | zero => rfl
  | succ n => unfold bs; rw [if_neg (by omega)]

theorem bs_more (ts : List Th) (q : ByteArray) (n : Nat) : ∀ lo hi, hi - lo ≤ n → bs ts q (n + 1) lo hi = bs ts q n lo hi := by
  induction n with
  | zero => intro lo hi h; rw [bs_end _ _ _ _ _ (by omega), bs_end _ _ _ _ _ (by omega)]
  | succ n ih =>
    intro lo hi h
    rw [bs]
    conv => rhs; rw [bs]
    split
    · split
      · exact ih _ _ (by omega)
      · exact ih _ _ (by omega)
    · rfl

theorem bs_le (ts : List Th) (q : ByteArray) (n : Nat) : ∀ lo hi, lo ≤ hi → lo ≤ bs ts q n lo hi ∧ bs ts q n lo hi ≤ hi := by
  induction n with
  | zero => intro lo hi h; exact ⟨Nat.le_refl _, h⟩
  | succ n ih =>
    intro lo hi h
    unfold bs
    split
    · split
      · have := ih ((lo + hi) / 2 + 1) hi (by omega); omega
      · have := ih lo ((lo + hi) / 2) (by omega); omega
    · omega

def low (ts : List Th) (q : ByteArray) : Nat := bs ts q ts.length 0 ts.length
theorem low_le (ts : List Th) (q : ByteArray) : low ts q ≤ ts.length := (bs_le ts q _ 0 _ (Nat.zero_le _)).2
def isAt (ts : List Th) (q : ByteArray) : Bool := decide (low ts q < ts.length) && ((nth ts (low ts q)).p.toList == q.toList)
theorem bs_hit {ts : List Th} {q : ByteArray} {n lo hi : Nat} (h : lo < hi) (hl : Op.bytesLess (nth ts ((lo + hi) / 2)).p.toList q.toList = true) : bs ts q (n + 1) lo hi = bs ts q n ((lo + hi) / 2 + 1) hi := by
  rw [bs, if_pos h, if_pos hl]
theorem bs_miss {ts : List Th} {q : ByteArray} {n lo hi : Nat} (h : lo < hi) (hl : Op.bytesLess (nth ts ((lo + hi) / 2)).p.toList q.toList = false) : bs ts q (n + 1) lo hi = bs ts q n lo ((lo + hi) / 2) := by
  rw [bs, if_pos h, if_neg (by simp [hl])]
end Go.Proofs.Ytndfmgdhiallpaa
