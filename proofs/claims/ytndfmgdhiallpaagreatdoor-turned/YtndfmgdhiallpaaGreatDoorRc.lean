/- Regions that draw their order, in which some late operations wait for all that is taken first: what is held need not outlive these. -/
import Derived.Test.YtndfmgdhiallpaaGreatDoorRb
namespace Go.Proofs.YtndfmgdhiallpaaGreatDoor
open Go.RowKit

section
variable {P : Program} {ops : Array Oper} {Q : Exit → Act → World → Prop} {md : Region.Mode} {S : World → Prop} {late : Nat → Bool}

/-- Whatever order comes; S holds behind each operation that is not late. -/
def wpAnyG (P : Program) (md : Region.Mode) (ops : Array Oper) (Q : Exit → Act → World → Prop) (S : World → Prop) (late : Nat → Bool) : Nat → Array Bool → Act → World → Prop
  | 0, ls, a, w => Region.ready md ops ls = [] ∧ Q .normal a w
  | n + 1, ls, a, w => (Region.ready md ops ls = [] → Q .normal a w) ∧ ∀ i ∈ Region.ready md ops ls, wpOp P ops Q i (fun a' w' => (late i = false → S w') ∧ wpAnyG P md ops Q S late n (ls.setIfInBounds i true) a' w') a w

theorem any_of_late (n : Nat) : ∀ (ls : Array Bool) (a : Act) (w : World), wpAnyG P md ops Q S late n ls a w → wpAny P md ops Q n ls a w := by
  induction n with
  | zero => intro ls a w h; exact h
  | succ n ih => intro ls a w h; exact ⟨h.1, fun i hi => wpOp_mono (fun a' w' k => ih _ a' w' k.2) (h.2 i hi)⟩
/-- All late operations that are still to come wait for i. -/
def lateWait (md : Region.Mode) (ops : Array Oper) (late : Nat → Bool) (ls : Array Bool) (f i : Nat) : Bool := (List.range ops.size).all fun j => !late j || ls.getD j true || waitsT md ops (f + 1) j i

theorem last_takeG {i f : Nat} {oi : Oper} {v : Value} (hi : ops[i]? = some oi) (hs : Region.noSelect ops = true)
    (hQ : ∀ c a w, Q (.panic c) (a.put oi.dst v) w → Q (.panic c) a w) (n : Nat) : ∀ (ls : Array Bool) (a : Act) (w : World), (∀ j, late j = true → ls.getD j true = false → j ≠ i → waitsT md ops (f + 1) j i = true) → Closed md ops ls →
      (∀ j oj, ops[j]? = some oj → j ≠ i → ls.getD j true = false → (∀ e ∈ oj.after, Region.binds md e = true → e.on ≠ i) → oi.apart ops oj = true) →
      i ∈ Region.ready md ops ls → YieldsIf P ops S oi v a → S w →
      wpAnyG P md ops Q S late n (ls.setIfInBounds i true) (a.put oi.dst v) w → wpAnyG P md ops Q S late (n + 1) ls a w := by
  induction n with
  | zero =>
    intro ls a w _ _ _ hr hy hS H
    refine ⟨fun h => absurd (h ▸ hr) List.not_mem_nil, fun j hj => ?_⟩
    rcases Nat.decEq j i with hji | rfl
    · exact absurd (H.1 ▸ ready_mono hj hji) List.not_mem_nil
    · exact hy.wpOp hi hS ⟨fun _ => hS, H⟩
  | succ n ih =>
    intro ls a w hL hcl hfree hr hy hS H
    refine ⟨fun h => absurd (h ▸ hr) List.not_mem_nil, fun j hj => ?_⟩
    rcases Nat.decEq j i with hji | rfl
    · obtain ⟨hun, oj, hoj, hall⟩ := mem_ready.1 hj
      have hi0 := (mem_ready.1 hr).1
      have hin : ¬ ls.getD i false = true := by
        intro h1
        by_cases h' : i < ls.size
        · simp [h'] at hi0 h1; rw [hi0] at h1; cases h1
        · simp [Array.getElem?_eq_none (Nat.le_of_not_lt h')] at h1
      have hnot : ∀ e ∈ oj.after, Region.binds md e = true → e.on ≠ i := fun e he hb heq => hin (by rw [← heq]; exact hall e he hb)
      have hjL : late j = false := by
        rcases hlj : late j with _ | _
        · rfl
        · exfalso
          have hw2 := hL j hlj hun hji
          rw [waitsT, hoj] at hw2
          obtain ⟨e, he, h1⟩ := any_mem hw2
          simp only [Bool.and_eq_true, Bool.or_eq_true, beq_iff_eq] at h1
          have hd := hall e he h1.1
          rcases h1.2 with h2 | h2
          · exact hnot e he h1.1 h2
          · exact hin (waits_done hcl f e.on i hd h2)
      have h2 := wpOp_putIf hoj (hfree j oj hoj hji hun hnot) (fun cs b => Region.noSelect_spec hs i oi cs b hi) (fun cs b => Region.noSelect_spec hs j oj cs b hoj) hQ hy (H.2 j (ready_mono hj hji))
      refine wpOp_mono (fun a' w' h3 => ⟨h3.2.1, ih (ls.setIfInBounds j true) a' w' ?_ (closed_set hcl hj) ?_ (ready_mono hr (Ne.symm hji)) h3.1 (h3.2.1 hjL) ?_⟩) h2
      · intro k hk hu hki
        refine hL k hk ?_ hki
        by_cases hjk : j = k
        · subst hjk; exact hun
        · rw [getD_set_ne true hjk] at hu; exact hu
      · intro k ok hk hki hu hno
        refine hfree k ok hk hki ?_ hno
        by_cases hjk : j = k
        · subst hjk; exact hun
        · rw [getD_set_ne true hjk] at hu; exact hu
      · rw [Array.setIfInBounds_comm _ _ hji]; exact h3.2.2
    · exact hy.wpOp hi hS ⟨fun _ => hS, H⟩

/-- One that is late itself, and yields whatever the world is. -/
theorem last_free {i : Nat} {oi : Oper} {v : Value} (hi : ops[i]? = some oi) (hs : Region.noSelect ops = true) (hli : late i = true)
    (hQ : ∀ c a w, Q (.panic c) (a.put oi.dst v) w → Q (.panic c) a w) (n : Nat) : ∀ (ls : Array Bool) (a : Act) (w : World),
      (∀ j oj, ops[j]? = some oj → j ≠ i → ls.getD j true = false → (∀ e ∈ oj.after, Region.binds md e = true → e.on ≠ i) → oi.apart ops oj = true) →
      i ∈ Region.ready md ops ls → YieldsIf P ops (fun _ => True) oi v a →
      wpAnyG P md ops Q S late n (ls.setIfInBounds i true) (a.put oi.dst v) w → wpAnyG P md ops Q S late (n + 1) ls a w := by
  have hno : ∀ {w : World}, late i = false → S w := fun h => by rw [hli] at h; cases h
  induction n with
  | zero =>
    intro ls a w _ hr hy H
    refine ⟨fun h => absurd (h ▸ hr) List.not_mem_nil, fun j hj => ?_⟩
    rcases Nat.decEq j i with hji | rfl
    · exact absurd (H.1 ▸ ready_mono hj hji) List.not_mem_nil
    · exact hy.wpOp hi trivial ⟨hno, H⟩
  | succ n ih =>
    intro ls a w hfree hr hy H
    refine ⟨fun h => absurd (h ▸ hr) List.not_mem_nil, fun j hj => ?_⟩
    rcases Nat.decEq j i with hji | rfl
    · obtain ⟨hun, oj, hoj, hall⟩ := mem_ready.1 hj
      have hi0 := (mem_ready.1 hr).1
      have hin : ¬ ls.getD i false = true := by
        intro h1
        by_cases h' : i < ls.size
        · simp [h'] at hi0 h1; rw [hi0] at h1; cases h1
        · simp [Array.getElem?_eq_none (Nat.le_of_not_lt h')] at h1
      have hnot : ∀ e ∈ oj.after, Region.binds md e = true → e.on ≠ i := fun e he hb heq => hin (by rw [← heq]; exact hall e he hb)
      have h2 := wpOp_putIf hoj (hfree j oj hoj hji hun hnot) (fun cs b => Region.noSelect_spec hs i oi cs b hi) (fun cs b => Region.noSelect_spec hs j oj cs b hoj) hQ hy (H.2 j (ready_mono hj hji))
      refine wpOp_mono (fun a' w' h3 => ⟨h3.2.1, ih (ls.setIfInBounds j true) a' w' ?_ (ready_mono hr (Ne.symm hji)) h3.1 ?_⟩) h2
      · intro k ok hk hki hu hno
        refine hfree k ok hk hki ?_ hno
        by_cases hjk : j = k
        · subst hjk; exact hun
        · rw [getD_set_ne true hjk] at hu; exact hu
      · rw [Array.setIfInBounds_comm _ _ hji]; exact h3.2.2
    · exact hy.wpOp hi trivial ⟨hno, H⟩

theorem late_of {ls : Array Bool} {f i : Nat} (h : lateWait md ops late ls f i = true) (hsz : ls.size = ops.size) : ∀ j, late j = true → ls.getD j true = false → j ≠ i → waitsT md ops (f + 1) j i = true := by
  intro j hj hl _
  have hjs : j < ops.size := by
    rcases Nat.lt_or_ge j ops.size with h | h
    · exact h
    · rw [Array.getD_eq_getD_getElem?, Array.getElem?_eq_none (by omega)] at hl; cases hl
  have hw := List.all_eq_true.1 h j (List.mem_range.2 hjs)
  rw [hj, hl] at hw
  simpa using hw

/-- Take number i first. -/
theorem wpAnyG_take {i f : Nat} {oi : Oper} {v : Value} {n : Nat} {ls : Array Bool} {a : Act} {w : World} (d : Option Tmp) (hi : ops[i]? = some oi) (hd : oi.dst = d)
    (hs : Region.noSelect ops = true) (hL : (lateWait md ops late ls f i && decide (ls.size = ops.size)) = true) (hcl : closedB md ops ls = true) (hf : Region.free md ops ls i = true) (hr : (Region.ready md ops ls).contains i = true)
    (hQ : ∀ c a w, Q (.panic c) (a.put d v) w → Q (.panic c) a w) (hy : YieldsIf P ops S oi v a) (hS : S w)
    (h : wpAnyG P md ops Q S late n (ls.setIfInBounds i true) (a.put d v) w) : wpAnyG P md ops Q S late (n + 1) ls a w := by
  subst hd
  simp only [Bool.and_eq_true, decide_eq_true_eq] at hL
  exact last_takeG hi hs hQ n ls a w (late_of hL.1 hL.2) (closed_of hcl) (Region.free_spec hi hf) (by simpa using hr) hy hS h
theorem wpAnyG_free {i : Nat} {oi : Oper} {v : Value} {n : Nat} {ls : Array Bool} {a : Act} {w : World} (d : Option Tmp) (hi : ops[i]? = some oi) (hd : oi.dst = d)
    (hs : Region.noSelect ops = true) (hli : late i = true) (hf : Region.free md ops ls i = true) (hr : (Region.ready md ops ls).contains i = true)
    (hQ : ∀ c a w, Q (.panic c) (a.put d v) w → Q (.panic c) a w) (hy : YieldsIf P ops (fun _ => True) oi v a)
    (h : wpAnyG P md ops Q S late n (ls.setIfInBounds i true) (a.put d v) w) : wpAnyG P md ops Q S late (n + 1) ls a w := by
  subst hd
  exact last_free hi hs hli hQ n ls a w (Region.free_spec hi hf) (by simpa using hr) hy h
theorem wpAnyG_one {i : Nat} {n : Nat} {ls : Array Bool} {a : Act} {w : World} (hr : Region.ready md ops ls = [i])
    (h : wpOp P ops Q i (fun a' w' => (late i = false → S w') ∧ wpAnyG P md ops Q S late n (ls.setIfInBounds i true) a' w') a w) : wpAnyG P md ops Q S late (n + 1) ls a w := by
  refine ⟨fun h0 => ?_, fun j hj => ?_⟩
  · rw [hr] at h0; cases h0
  · rw [hr] at hj; cases List.mem_singleton.1 hj; exact h
theorem wpAnyG_done {ls : Array Bool} {a : Act} {w : World} (hr : Region.ready md ops ls = []) (h : Q .normal a w) : wpAnyG P md ops Q S late 0 ls a w := ⟨hr, h⟩
theorem wp_region_late {id : Nat} {a : Act} {w : World} (hm : P.follows .mixedOrders = true)
    (h : wpAnyG P .any ops Q S late ops.size (Array.replicate ops.size false) a w.drew) : (Code.region id ops true).wp P Q a w :=
  wp_region_any hm (any_of_late _ _ _ _ h)
end
end Go.Proofs.YtndfmgdhiallpaaGreatDoor
