/- Regions that draw their order and end in an operation for which, step by step, all wait. -/
import Derived.Test.YtndfmgdhiallpaaGreatDoorMc
namespace Go.Proofs.YtndfmgdhiallpaaGreatDoor
open Go.RowKit

section
variable {P : Program} {ops : Array Oper} {Q : Exit → Act → World → Prop} {md : Region.Mode} {S : World → Prop} {L : Nat}

theorem any_mem {α : Type} {ar : Array α} {p : α → Bool} (h : ar.any p = true) : ∃ x ∈ ar, p x = true := by
  obtain ⟨i, hi, h⟩ := Array.any_eq_true.1 h
  exact ⟨ar[i], Array.getElem_mem hi, h⟩
/-- k waits for i, by way of others. -/
def waitsT (md : Region.Mode) (ops : Array Oper) : Nat → Nat → Nat → Bool
  | 0, _, _ => false
  | f + 1, k, i => match ops[k]? with
    | some o => o.after.any fun e => Region.binds md e && (e.on == i || waitsT md ops f e.on i)
    | none => false
/-- What is done has all done for which it waits. -/
def Closed (md : Region.Mode) (ops : Array Oper) (ls : Array Bool) : Prop := ∀ k o, ops[k]? = some o → ls.getD k false = true → ∀ e ∈ o.after, Region.binds md e = true → ls.getD e.on false = true
def closedB (md : Region.Mode) (ops : Array Oper) (ls : Array Bool) : Bool := (List.range ops.size).all fun k => !ls.getD k false || ((ops[k]?).map (·.after.all fun e => !Region.binds md e || ls.getD e.on false)).getD true
theorem closed_of {ls : Array Bool} (h : closedB md ops ls = true) : Closed md ops ls := by
  intro k o ho hk e he hb
  have hks : k < ops.size := by
    rcases Nat.lt_or_ge k ops.size with h | h
    · exact h
    · rw [Array.getElem?_eq_none h] at ho; cases ho
  have h1 := List.all_eq_true.1 h k (List.mem_range.2 hks)
  rw [hk, ho] at h1
  have h2 : o.after.all (fun e => !Region.binds md e || ls.getD e.on false) = true := by simpa using h1
  have h3 := Array.all_eq_true_iff_forall_mem.1 h2 e he
  rw [hb] at h3
  simpa using h3
theorem waits_done {ls : Array Bool} (hc : Closed md ops ls) : ∀ (f k i : Nat), ls.getD k false = true → waitsT md ops f k i = true → ls.getD i false = true
  | 0, k, i, _, h => by cases h
  | f + 1, k, i, hk, h => by
    rw [waitsT] at h
    split at h
    · rename_i o ho
      obtain ⟨e, he, h1⟩ := any_mem h
      simp only [Bool.and_eq_true, Bool.or_eq_true, beq_iff_eq] at h1
      have hd := hc k o ho hk e he h1.1
      rcases h1.2 with h2 | h2
      · rw [← h2]; exact hd
      · exact waits_done hc f e.on i hd h2
    · cases h
theorem set_done {ls : Array Bool} {i j : Nat} (h : ls.getD j false = true) : (ls.setIfInBounds i true).getD j false = true := by
  have hj : j < ls.size := by
    rcases Nat.lt_or_ge j ls.size with h1 | h1
    · exact h1
    · rw [Array.getD_eq_getD_getElem?, Array.getElem?_eq_none h1] at h; cases h
  rw [Array.getD_eq_getD_getElem?] at h ⊢
  rw [Array.getElem?_setIfInBounds]
  by_cases e : i = j
  · subst e; rw [if_pos rfl, if_pos hj]; rfl
  · rw [if_neg e]; exact h
theorem closed_set {ls : Array Bool} {j : Nat} (hc : Closed md ops ls) (hj : j ∈ Region.ready md ops ls) : Closed md ops (ls.setIfInBounds j true) := by
  obtain ⟨_, oj, hoj, hall⟩ := mem_ready.1 hj
  intro k o ho hk e he hb
  by_cases e1 : j = k
  · subst e1
    rw [hoj] at ho; injection ho with ho; subst ho
    exact set_done (hall e he hb)
  · refine set_done (hc k o ho ?_ e he hb)
    rw [Array.getD_eq_getD_getElem?, Array.getElem?_setIfInBounds, if_neg e1] at hk
    rw [Array.getD_eq_getD_getElem?]; exact hk

theorem last_takeT {i f : Nat} {oi : Oper} {v : Value} (hi : ops[i]? = some oi) (hs : Region.noSelect ops = true) (hne : i ≠ L) (hL : waitsT md ops (f + 1) L i = true)
    (hQ : ∀ c a w, Q (.panic c) (a.put oi.dst v) w → Q (.panic c) a w) (n : Nat) : ∀ (ls : Array Bool) (a : Act) (w : World), Closed md ops ls →
      (∀ j oj, ops[j]? = some oj → j ≠ i → ls.getD j true = false → (∀ e ∈ oj.after, Region.binds md e = true → e.on ≠ i) → oi.apart ops oj = true) →
      i ∈ Region.ready md ops ls → YieldsIf P ops S oi v a → S w →
      wpAnyL P md ops Q S L n (ls.setIfInBounds i true) (a.put oi.dst v) w → wpAnyL P md ops Q S L (n + 1) ls a w := by
  induction n with
  | zero =>
    intro ls a w _ _ hr hy hS H
    refine ⟨fun h => absurd (h ▸ hr) List.not_mem_nil, fun j hj => ?_⟩
    rcases Nat.decEq j i with hji | rfl
    · exact absurd (H.1 ▸ ready_mono hj hji) List.not_mem_nil
    · exact hy.wpOp hi hS ⟨fun _ => hS, H⟩
  | succ n ih =>
    intro ls a w hcl hfree hr hy hS H
    refine ⟨fun h => absurd (h ▸ hr) List.not_mem_nil, fun j hj => ?_⟩
    rcases Nat.decEq j i with hji | rfl
    · obtain ⟨hun, oj, hoj, hall⟩ := mem_ready.1 hj
      have hi0 := (mem_ready.1 hr).1
      have hin : ¬ ls.getD i false = true := by
        intro h1
        by_cases h' : i < ls.size
        · simp [h'] at hi0 h1; rw [hi0] at h1; cases h1
        · simp [Array.getElem?_eq_none (Nat.le_of_not_lt h')] at h1
      have hnot : ∀ e ∈ oj.after, Region.binds md e = true → e.on ≠ i := fun e he hb heq => hin (by rw [← heq]; exact hall e he hb)
      have hjL : j ≠ L := by
        rintro rfl
        rw [waitsT, hoj] at hL
        obtain ⟨e, he, h1⟩ := any_mem hL
        simp only [Bool.and_eq_true, Bool.or_eq_true, beq_iff_eq] at h1
        have hd := hall e he h1.1
        rcases h1.2 with h2 | h2
        · exact hnot e he h1.1 h2
        · exact hin (waits_done hcl f e.on i hd h2)
      have h2 := wpOp_putIf hoj (hfree j oj hoj hji hun hnot) (fun cs b => Region.noSelect_spec hs i oi cs b hi) (fun cs b => Region.noSelect_spec hs j oj cs b hoj) hQ hy (H.2 j (ready_mono hj hji))
      refine wpOp_mono (fun a' w' h3 => ⟨h3.2.1, ih (ls.setIfInBounds j true) a' w' (closed_set hcl hj) ?_ (ready_mono hr (Ne.symm hji)) h3.1 (h3.2.1 hjL) ?_⟩) h2
      · intro k ok hk hki hu hno
        refine hfree k ok hk hki ?_ hno
        by_cases hjk : j = k
        · subst hjk; exact hun
        · rw [getD_set_ne true hjk] at hu; exact hu
      · rw [Array.setIfInBounds_comm _ _ hji]; exact h3.2.2
    · exact hy.wpOp hi hS ⟨fun _ => hS, H⟩

/-- Take number i first. -/
theorem wpAnyL_takeT {i f : Nat} {oi : Oper} {v : Value} {n : Nat} {ls : Array Bool} {a : Act} {w : World} (d : Option Tmp) (hi : ops[i]? = some oi) (hd : oi.dst = d)
    (hs : Region.noSelect ops = true) (hne : i ≠ L) (hL : waitsT md ops (f + 1) L i = true) (hcl : closedB md ops ls = true) (hf : Region.free md ops ls i = true) (hr : (Region.ready md ops ls).contains i = true)
    (hQ : ∀ c a w, Q (.panic c) (a.put d v) w → Q (.panic c) a w) (hy : YieldsIf P ops S oi v a) (hS : S w)
    (h : wpAnyL P md ops Q S L n (ls.setIfInBounds i true) (a.put d v) w) : wpAnyL P md ops Q S L (n + 1) ls a w := by
  subst hd
  exact last_takeT hi hs hne hL hQ n ls a w (closed_of hcl) (Region.free_spec hi hf) (by simpa using hr) hy hS h
end
end Go.Proofs.YtndfmgdhiallpaaGreatDoor
