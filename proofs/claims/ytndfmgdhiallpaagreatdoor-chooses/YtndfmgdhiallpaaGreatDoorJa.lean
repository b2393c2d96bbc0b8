import Derived.Test.YtndfmgdhiallpaaGreatDoorMe
import Derived.Test.YtndfmgdhiallpaaGreatDoorMa
import Derived.Test.YtndfmgdhiallpaaGreatDoorSh
import Derived.Test.YtndfmgdhiallpaaGreatDoorChecked
import Derived.Deep.QuietTactic
import Derived.BigQuiet
namespace Go.Proofs.YtndfmgdhiallpaaGreatDoor
open Go.RowKit
def smallB (c : Nat) : Bool := decide (97 ≤ c) && decide (c ≤ 122)
def capB (c : Nat) : Bool := decide (65 ≤ c) && decide (c ≤ 90)
def dgtB (c : Nat) : Bool := decide (48 ≤ c) && decide (c ≤ 57)
def letB (c : Nat) : Bool := smallB c || capB c
def inB (m : ByteArray) (c : Nat) : Bool := decide (0 ≤ Lib.indexByte m.data.toList c.toUInt8)
def fileB (c : Nat) : Bool := (letB c || dgtB c) || inB ⟨#[33, 35, 36, 37, 38, 40, 41, 43, 44, 45, 46, 61, 64, 91, 93, 94, 95, 123, 125, 126, 32]⟩ c
def ByteFn (f : Nat) (p : Nat → Bool) : Prop := ∀ (c : Nat) (w : World), c < 256 → Calls Tryz.prog f #[.int .u8 (c : Int)] w fun r w' => r = .returned (.bool (p c)) ∧ w' = w
theorem smallC : ByteFn 321 smallB := by
 intro c w hc
 unfold smallB
 by_cases h1 : 97 ≤ c
 ·have h1I : (97 : Int) ≤ (c : Int) := by omega
  by_cases h2 : c ≤ 122
  ·have h2I : (c : Int) ≤ 122 := by omega
   rw [decide_eq_true h1, decide_eq_true h2]
   go_enter Tryz.func321, Tryz.ntmps321
   go_wp2_with fail
   go_ret
   exact ⟨rfl, rfl⟩
  ·have h2I : ¬ (c : Int) ≤ 122 := by omega
   rw [decide_eq_true h1, decide_eq_false h2]
   go_enter Tryz.func321, Tryz.ntmps321
   go_wp2_with fail
   go_ret
   exact ⟨rfl, rfl⟩
 ·have h1I : ¬ (97 : Int) ≤ (c : Int) := by omega
  rw [decide_eq_false h1]
  go_enter Tryz.func321, Tryz.ntmps321
  go_wp2_with fail
  go_ret
  exact ⟨rfl, rfl⟩
theorem capC : ByteFn 313 capB := by
 intro c w hc
 unfold capB
 by_cases h1 : 65 ≤ c
 ·have h1I : (65 : Int) ≤ (c : Int) := by omega
  by_cases h2 : c ≤ 90
  ·have h2I : (c : Int) ≤ 90 := by omega
   rw [decide_eq_true h1, decide_eq_true h2]
   go_enter Tryz.func313, Tryz.ntmps313
   go_wp2_with fail
   go_ret
   exact ⟨rfl, rfl⟩
  ·have h2I : ¬ (c : Int) ≤ 90 := by omega
   rw [decide_eq_true h1, decide_eq_false h2]
   go_enter Tryz.func313, Tryz.ntmps313
   go_wp2_with fail
   go_ret
   exact ⟨rfl, rfl⟩
 ·have h1I : ¬ (65 : Int) ≤ (c : Int) := by omega
  rw [decide_eq_false h1]
  go_enter Tryz.func313, Tryz.ntmps313
  go_wp2_with fail
  go_ret
  exact ⟨rfl, rfl⟩
theorem digC : ByteFn 265 dgtB := by
 intro c w hc
 unfold dgtB
 by_cases h1 : 48 ≤ c
 ·have h1I : (48 : Int) ≤ (c : Int) := by omega
  by_cases h2 : c ≤ 57
  ·have h2I : (c : Int) ≤ 57 := by omega
   rw [decide_eq_true h1, decide_eq_true h2]
   go_enter Tryz.func265, Tryz.ntmps265
   go_wp2_with fail
   go_ret
   exact ⟨rfl, rfl⟩
  ·have h2I : ¬ (c : Int) ≤ 57 := by omega
   rw [decide_eq_true h1, decide_eq_false h2]
   go_enter Tryz.func265, Tryz.ntmps265
   go_wp2_with fail
   go_ret
   exact ⟨rfl, rfl⟩
 ·have h1I : ¬ (48 : Int) ≤ (c : Int) := by omega
  rw [decide_eq_false h1]
  go_enter Tryz.func265, Tryz.ntmps265
  go_wp2_with fail
  go_ret
  exact ⟨rfl, rfl⟩
theorem letC : ByteFn 320 letB := by
 intro c w hc
 have H1 := hide (smallC c w hc)
 have H2 := hide (capC c w hc)
 unfold letB
 cases h1 : smallB c with
 | true =>
  rw [h1] at H1
  go_enter Tryz.func320, Tryz.ntmps320
  go_wp2_with (go_at_call 321; refine (uh H1).mono ?_; rintro e w' ⟨rfl, rfl⟩)
  go_ret
  exact ⟨rfl, rfl⟩
 | false =>
  rw [h1] at H1
  generalize capB c = b at *
  go_enter Tryz.func320, Tryz.ntmps320
  go_wp2_with fail
  refine (uh H1).mono ?_
  rintro e w' ⟨rfl, rfl⟩
  go_wp2_with fail
  refine (uh H2).mono ?_
  rintro e w'' ⟨rfl, rfl⟩
  go_wp2_with fail
  go_ret
  exact ⟨rfl, rfl⟩
end Go.Proofs.YtndfmgdhiallpaaGreatDoor
namespace Go.Proofs.YtndfmgdhiallpaaGreatDoor
open Go.RowKit
theorem toU8 (c : Nat) : (c : Int).toNat.toUInt8 = c.toUInt8 := by rw [Int.toNat_natCast]
theorem fileC : ByteFn 274 fileB := by
 intro c w hc
 have H1 := hide (letC c w hc)
 have H2 := hide (digC c w hc)
 have H3 := hide (Tryz.strings_IndexByte ⟨#[33, 35, 36, 37, 38, 40, 41, 43, 44, 45, 46, 61, 64, 91, 93, 94, 95, 123, 125, 126, 32]⟩ (c : Int) w)
 rw [toU8] at H3
 have HI : Hid (inB ⟨#[33, 35, 36, 37, 38, 40, 41, 43, 44, 45, 46, 61, 64, 91, 93, 94, 95, 123, 125, 126, 32]⟩ c = decide (0 ≤ Lib.indexByte (⟨#[33, 35, 36, 37, 38, 40, 41, 43, 44, 45, 46, 61, 64, 91, 93, 94, 95, 123, 125, 126, 32]⟩ : ByteArray).data.toList c.toUInt8)) := rfl
 unfold fileB
 generalize Lib.indexByte (⟨#[33, 35, 36, 37, 38, 40, 41, 43, 44, 45, 46, 61, 64, 91, 93, 94, 95, 123, 125, 126, 32]⟩ : ByteArray).data.toList c.toUInt8 = ix at *
 generalize inB ⟨#[33, 35, 36, 37, 38, 40, 41, 43, 44, 45, 46, 61, 64, 91, 93, 94, 95, 123, 125, 126, 32]⟩ c = bi at *
 have hbi := uh HI
 subst hbi
 clear HI
 generalize letB c = b1 at *
 generalize dgtB c = b2 at *
 cases b1 with
 | true =>
  go_enter Tryz.func274, Tryz.ntmps274
  go_wp2_with fail
  refine (uh H1).mono ?_
  rintro e w' ⟨rfl, rfl⟩
  go_wp2_with fail
  go_ret
  exact ⟨rfl, rfl⟩
 | false =>
  cases b2 with
  | true =>
   go_enter Tryz.func274, Tryz.ntmps274
   go_wp2_with fail
   refine (uh H1).mono ?_
   rintro e w' ⟨rfl, rfl⟩
   go_wp2_with fail
   refine (uh H2).mono ?_
   rintro e w'' ⟨rfl, rfl⟩
   go_wp2_with fail
   go_ret
   exact ⟨rfl, rfl⟩
  | false =>
   go_enter Tryz.func274, Tryz.ntmps274
   go_wp2_with fail
   refine (uh H1).mono ?_
   rintro e w' ⟨rfl, rfl⟩
   go_wp2_with fail
   refine (uh H2).mono ?_
   rintro e w'' ⟨rfl, rfl⟩
   go_wp2_with fail
   refine (uh H3).mono ?_
   rintro e w''' ⟨rfl, rfl⟩
   go_wp2_with fail
   go_ret
   exact ⟨rfl, rfl⟩
def onlyB (p : Nat → Bool) (s : ByteArray) : Bool := (List.range s.size).all (fun i => p (btN s i)) && decide (0 < s.size)
theorem only_bad {p : Nat → Bool} {s : ByteArray} {i : Nat} (hi : i < s.size) (h : p (btN s i) = false) : onlyB p s = false := by
 unfold onlyB
 rw [Bool.and_eq_false_iff]
 left
 rw [List.all_eq_false]
 exact ⟨i, List.mem_range.2 hi, by simp [h]⟩
theorem only_good {p : Nat → Bool} {s : ByteArray} (h : ∀ i, i < s.size → p (btN s i) = true) : onlyB p s = decide (0 < s.size) := by
 unfold onlyB
 have e : (List.range s.size).all (fun i => p (btN s i)) = true := List.all_eq_true.2 (fun i hi => h i (List.mem_range.1 hi))
 rw [e]; rfl
theorem toList_empty (s : ByteArray) : s.toList.isEmpty = !decide (0 < s.size) := by
 rcases Nat.eq_zero_or_pos s.size with h | h
 ·rw [h]
  unfold ByteArray.toList ByteArray.toList.loop
  rw [if_neg (by omega)]; rfl
 ·rw [decide_eq_true h]
  unfold ByteArray.toList ByteArray.toList.loop
  rw [if_pos h]
  have key : ∀ (n i : Nat) (r : List UInt8), s.size - i = n → r ≠ [] → (ByteArray.toList.loop s i r).isEmpty = false := by
   intro n
   induction n with
   | zero =>
    intro i r hn hr
    unfold ByteArray.toList.loop
    rw [if_neg (by omega)]
    cases r with
    | nil => exact absurd rfl hr
    | cons a l => simp
   | succ n ih =>
    intro i r hn hr
    unfold ByteArray.toList.loop
    rw [if_pos (by omega)]
    exact ih (i + 1) _ (by omega) (by simp)
  exact key _ 1 _ rfl (by simp)
set_option maxRecDepth 100000 in
set_option maxHeartbeats 400000 in
theorem onlyDig (s : ByteArray) (hs : s.size ≤ 140737488355328) (w : World) :
 Calls Tryz.prog 263 #[.string s, .func (.func 265) #[] #[]] w fun r w' => r = .returned (.bool (onlyB dgtB s)) ∧ w' = w := by
 have HF := hide digC
 have HB := hide (fun i (hi : i < s.size) h => only_bad (p := dgtB) (s := s) hi h)
 have HG := hide (only_good (p := dgtB) (s := s))
 go_enter Tryz.func263, Tryz.ntmps263
 go_wp2_with fail
 go_loop [5, 8] (fun _ x => ∃ i : Nat, i ≤ s.size ∧ x = .int .i64 i ∧ Hid (∀ j, j < i → dgtB (btN s j) = true)) (fun _ x => s.size - (intOf x).toNat)
 case atStart => exact ⟨0, by omega, rfl, fun j hj => by omega⟩
 case round =>
  obtain ⟨i, hi, rfl, HI⟩ := hrel
  by_cases hlt : i < s.size
  ·have hltI : (i : Int) < (s.size : Int) := by omega
   have hbt := btN_get (s := s) (k := i) hlt
   have hbl := btN_lt s i
   have HC := hide (uh HF (btN s i) w hbl)
   cases hp : dgtB (btN s i) with
   | true =>
    rw [hp] at HC
    have HN : Hid (∀ j, j < i + 1 → dgtB (btN s j) = true) := fun j hj => by
     by_cases e : j < i
     ·exact uh HI j e
     ·have : j = i := by omega
      subst this; exact hp
    clear hp HB HG HF
    generalize btN s i = b at *
    go_wp2_with fail
    refine (uh HC).mono ?_
    rintro e w' ⟨rfl, rfl⟩
    go_wp2_with fail
    go_round
    case rel => exact ⟨i + 1, by omega, by go_num, HN⟩
    case measure => simp [intOf]; omega
   | false =>
    rw [hp] at HC
    have HR := hide (uh HB i hlt hp)
    clear hp HB HG HF
    generalize btN s i = b at *
    go_wp2_with fail
    refine (uh HC).mono ?_
    rintro e w' ⟨rfl, rfl⟩
    go_wp2_with fail
    go_ret
    exact ⟨by rw [uh HR]; rfl, rfl⟩
  ·have hltI : ¬ (i : Int) < (s.size : Int) := by omega
   have HR := hide (uh HG (fun j hj => uh HI j (by omega)))
   have hte := toList_empty s
   clear HB HG HF HI
   go_wp2_with fail
   go_ret
   exact ⟨by rw [uh HR]; simp, rfl⟩
set_option maxRecDepth 100000 in
set_option maxHeartbeats 400000 in
theorem onlyFile (s : ByteArray) (hs : s.size ≤ 140737488355328) (w : World) :
 Calls Tryz.prog 263 #[.string s, .func (.func 274) #[] #[]] w fun r w' => r = .returned (.bool (onlyB fileB s)) ∧ w' = w := by
 have HF := hide fileC
 have HB := hide (fun i (hi : i < s.size) h => only_bad (p := fileB) (s := s) hi h)
 have HG := hide (only_good (p := fileB) (s := s))
 go_enter Tryz.func263, Tryz.ntmps263
 go_wp2_with fail
 go_loop [5, 8] (fun _ x => ∃ i : Nat, i ≤ s.size ∧ x = .int .i64 i ∧ Hid (∀ j, j < i → fileB (btN s j) = true)) (fun _ x => s.size - (intOf x).toNat)
 case atStart => exact ⟨0, by omega, rfl, fun j hj => by omega⟩
 case round =>
  obtain ⟨i, hi, rfl, HI⟩ := hrel
  by_cases hlt : i < s.size
  ·have hltI : (i : Int) < (s.size : Int) := by omega
   have hbt := btN_get (s := s) (k := i) hlt
   have hbl := btN_lt s i
   have HC := hide (uh HF (btN s i) w hbl)
   cases hp : fileB (btN s i) with
   | true =>
    rw [hp] at HC
    have HN : Hid (∀ j, j < i + 1 → fileB (btN s j) = true) := fun j hj => by
     by_cases e : j < i
     ·exact uh HI j e
     ·have : j = i := by omega
      subst this; exact hp
    clear hp HB HG HF
    generalize btN s i = b at *
    go_wp2_with fail
    refine (uh HC).mono ?_
    rintro e w' ⟨rfl, rfl⟩
    go_wp2_with fail
    go_round
    case rel => exact ⟨i + 1, by omega, by go_num, HN⟩
    case measure => simp [intOf]; omega
   | false =>
    rw [hp] at HC
    have HR := hide (uh HB i hlt hp)
    clear hp HB HG HF
    generalize btN s i = b at *
    go_wp2_with fail
    refine (uh HC).mono ?_
    rintro e w' ⟨rfl, rfl⟩
    go_wp2_with fail
    go_ret
    exact ⟨by rw [uh HR]; rfl, rfl⟩
  ·have hltI : ¬ (i : Int) < (s.size : Int) := by omega
   have HR := hide (uh HG (fun j hj => uh HI j (by omega)))
   have hte := toList_empty s
   clear HB HG HF HI
   go_wp2_with fail
   go_ret
   exact ⟨by rw [uh HR]; simp, rfl⟩
end Go.Proofs.YtndfmgdhiallpaaGreatDoor
namespace Go.Proofs.YtndfmgdhiallpaaGreatDoor
open Go.RowKit
def MaxAt (w : World) : Prop := ∃ m : Int, w.cell? ⟨2, 0, none⟩ = some (.int .i64 m)
theorem MaxAt.old {w w' : World} (h : MaxAt w) (ho : Old w w') : MaxAt w' := by
 obtain ⟨m, h⟩ := h
 have hl : 2 < w.heap.size := by
  rcases Nat.lt_or_ge 2 w.heap.size with h1 | h1
  ·exact h1
  ·simp [World.cell?, Array.getElem?_eq_none h1] at h
 exact ⟨m, by rw [ho.cell (p := ⟨2, 0, none⟩) hl (fun x => x)]; exact h⟩
end Go.Proofs.YtndfmgdhiallpaaGreatDoor
namespace Go.Proofs.YtndfmgdhiallpaaGreatDoor
open Go.RowKit
end Go.Proofs.YtndfmgdhiallpaaGreatDoor
