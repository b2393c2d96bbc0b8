/- Laws for a slice of things that the call itself makes, or that is empty without room. -/
import Derived.Test.YtndfmgdhiallpaaDn
namespace Go.Proofs.Ytndfmgdhiallpaa
open Go.RowKit

/-- Things that this call has gathered: in a block from 'base' on; or none yet. -/
def Kpt (base : Nat) (w : World) (v : Value) (ts : List Th) : Prop := Thg w v ts ∧ ((ts = [] ∧ ∃ ao, v = .slice ao 0 0) ∨ ∀ k, v.ownBlock = some k → base ≤ k)

theorem run_append_empty {w : World} {ao : Option Addr} (h : Thg w (.slice ao 0 0) []) {x : Value} {t : Th} (hx : Shows w x [t]) (ty : TypeId) :
    ∃ v' w', (Builtin.append_ #[36, 36] ty #[.slice ao 0 0, x]).run Try.prog w = .ok v' w' ∧ Thg w' v' [t] ∧ w.grownBy w' none ∧ ∀ k, v'.ownBlock = some k → w.heap.size ≤ k := by
  cases ao with
  | none =>
    obtain ⟨v', w', h1, h2, h3, h4⟩ := run_append_thg h hx ty (by simp)
    refine ⟨v', w', h1, h2, h3, ?_⟩
    rcases h4 with h4 | h4
    · intro k hk; rw [h4] at hk; cases hk
    · exact h4
  | some b =>
    obtain ⟨i, hi, hz0, hz1, hz2⟩ := info_parts info41
    obtain ⟨ao, c, rfl, hn, hc⟩ := hx
    cases ao with
    | none => have := hn rfl; cases this
    | some a =>
      have hr := run_append_grow (P := Try.prog) w 36 ty 41 i _ Try.underlying36 hi hz0 b 0 0 [] (by simp) (by simp) a 1 c (flat [t]) (by rw [hz1]; rfl) (hc a rfl) (by omega) (by omega) (growslice_fits (by omega) (by rw [hz2]; omega))
      have hge := grownCap_ge w (0 + 1) 0 41
      have hcm : grownCap w (0 + 1) 0 41 ≤ maxLen := grownCap_le_maxLen w (0 + 1) 0 41 (by unfold maxLen; omega)
      refine ⟨_, _, hr, .inr ⟨w.heap.size, _, _, rfl, Go.heap_alloc_new w.drew _, hge, hcm, ?_, ?_⟩, ⟨rfl, rfl, rfl, by simp, fun k hk _ => Below.heap_alloc w.drew _ k hk⟩, fun k hk => by simp [Value.ownBlock] at hk; omega⟩
      · simp only [Array.size_append, List.size_toArray, size_zeroCells, flat_length]
        simp only [Value.cells, List.size_toArray, List.length_cons, List.length_nil]
        omega
      · simp [flat]

theorem run_append_kpt {base : Nat} {w : World} {v : Value} {ts : List Th} (h : Kpt base w v ts) {x : Value} {t : Th} (hx : Shows w x [t]) (ty : TypeId) (hB : base ≤ w.heap.size) (hb : (ts.length + 1) * 40 ≤ 140737488355328) :
    ∃ v' w', (Builtin.append_ #[36, 36] ty #[v, x]).run Try.prog w = .ok v' w' ∧ Kpt base w' v' (ts ++ [t]) ∧ Only (fun k => base ≤ k ∧ v.ownBlock = some k) w w' ∧
      (v'.ownBlock = v.ownBlock ∨ ∀ k, v'.ownBlock = some k → w.heap.size ≤ k) := by
  obtain ⟨ht, h⟩ := h
  rcases h with ⟨rfl, ao, rfl⟩ | h
  · obtain ⟨v', w', h1, h2, h3, h4⟩ := run_append_empty ht hx ty
    exact ⟨v', w', h1, ⟨h2, .inr fun k hk => Nat.le_trans hB (h4 k hk)⟩, (Only.refl _ w).grown h3 (fun k _ e => by cases e), .inr h4⟩
  · obtain ⟨v', w', h1, h2, h3, h4⟩ := run_append_thg ht hx ty (by simpa using hb)
    refine ⟨v', w', h1, ⟨h2, .inr ?_⟩, (Only.refl _ w).grown h3 (fun k _ e => ⟨h k e, e⟩), h4⟩
    intro k hk
    rcases h4 with h4 | h4
    · exact h k (h4 ▸ hk)
    · exact Nat.le_trans hB (h4 k hk)

theorem wpList_append_kpt {w : World} {ops : Array Oper} {rest : List Oper} {o : Oper} {a : Act} {Q : Exit → Act → World → Prop} (hgd : o.guard = none) (s x : Operand)
    (ho : o.op = .call { callee := .builtin .append, args := #[s, x], argTypes := #[36, 36] })
    (base : Nat) (v xv : Value) (ts : List Th) (t : Th) (hs : a.eval s = v) (hx : a.eval x = xv) (h : Kpt base w v ts) (hsh : Shows w xv [t]) (hB : base ≤ w.heap.size) (hb : (ts.length + 1) * 40 ≤ 140737488355328)
    (hK : ∀ v' w', Kpt base w' v' (ts ++ [t]) → Only (fun k => base ≤ k ∧ v.ownBlock = some k) w w' → (v'.ownBlock = v.ownBlock ∨ ∀ k, v'.ownBlock = some k → w.heap.size ≤ k) → wpList Try.prog ops Q rest (a.put o.dst v') w') :
    wpList Try.prog ops Q (o :: rest) a w := by
  refine wpList_plain hgd fun K hK' => ?_
  obtain ⟨v', w', hrun, h1, h2, h3⟩ := run_append_kpt h hsh o.type hB hb
  unfold Oper.wp
  simp [execOp, ho, resolve, invoke, builtin, hs, hx, hrun, Result.andThen]
  exact hK' _ _ (hK v' w' h1 h2 h3)

theorem Kpt.kept {base : Nat} {w w' : World} {v : Value} {ts : List Th} {S : Nat → Prop} (h : Kpt base w v ts) (ho : Only S w w') (hs : ∀ k, v.ownBlock = some k → ¬ S k) : Kpt base w' v ts := ⟨h.1.kept ho hs, h.2⟩

theorem within_size {p u : ByteArray} (h : withinB p u = true) : u.size ≤ p.size := by
  unfold withinB at h
  rw [Bool.or_eq_true] at h
  rcases h with h | h
  · have e : p.toList = u.toList := by simpa using h
    have := congrArg List.length e
    rw [size_toList, size_toList] at this
    omega
  · split at h
    · omega
    · cases h

def movedTo (fr to : ByteArray) (t : Th) : Th := { t with p := to ++ t.p.extract fr.size t.p.size }
def keptOf (ts : List Th) (fr : ByteArray) : List Th := ts.filter fun t => !withinB t.p fr
def movedOf (ts : List Th) (fr to : ByteArray) : List Th := (ts.filter fun t => withinB t.p fr).map (movedTo fr to)
def putAll (ts : List Th) (us : List Th) : List Th := us.foldl ins ts
def renameOf (D : Dsk) (fr to : ByteArray) : Int × Dsk :=
  if goes D then
    (if isOf D.ts fr == 0 then (1, stepped D)
     else if freeOf D.ts to == 0 then
       (if withinB to fr then (1, stepped D) else (0, { stepped D with ts := putAll (keptOf D.ts fr) (movedOf D.ts fr to) }))
     else (freeOf D.ts to, stepped D))
  else (4, stepped D)

theorem kept_yes {ts : List Th} {fr : ByteArray} {k : Nat} (h : k < ts.length) (hs : withinB (nth ts k).p fr = false) : keptOf (ts.take (k + 1)) fr = keptOf (ts.take k) fr ++ [nth ts k] := by
  rw [take_snoc_nth ts k h]; simp [keptOf, hs]
theorem kept_no {ts : List Th} {fr : ByteArray} {k : Nat} (h : k < ts.length) (hs : withinB (nth ts k).p fr = true) : keptOf (ts.take (k + 1)) fr = keptOf (ts.take k) fr := by
  rw [take_snoc_nth ts k h]; simp [keptOf, hs]
theorem moved_yes {ts : List Th} {fr to : ByteArray} {k : Nat} (h : k < ts.length) (hs : withinB (nth ts k).p fr = true) : movedOf (ts.take (k + 1)) fr to = movedOf (ts.take k) fr to ++ [movedTo fr to (nth ts k)] := by
  rw [take_snoc_nth ts k h]; simp [movedOf, hs]
theorem moved_no {ts : List Th} {fr to : ByteArray} {k : Nat} (h : k < ts.length) (hs : withinB (nth ts k).p fr = false) : movedOf (ts.take (k + 1)) fr to = movedOf (ts.take k) fr to := by
  rw [take_snoc_nth ts k h]; simp [movedOf, hs]
theorem kept_moved_len (ts : List Th) (fr to : ByteArray) : (keptOf ts fr).length + (movedOf ts fr to).length = ts.length := by
  induction ts with
  | nil => rfl
  | cons t r ih =>
    simp only [keptOf, movedOf, List.length_map] at ih ⊢
    cases h : withinB t.p fr <;> simp [h] <;> omega
theorem ins_len (ts : List Th) (t : Th) : (ins ts t).length = ts.length + 1 := by
  have := low_le ts t.p
  simp [ins]; omega
theorem putAll_len (us : List Th) : ∀ ts, (putAll ts us).length = ts.length + us.length := by
  induction us with
  | nil => intro ts; rfl
  | cons u r ih => intro ts; show (putAll (ins ts u) r).length = _; rw [ih, ins_len]; simp; omega
theorem putAll_snoc (ts us : List Th) (k : Nat) (h : k < us.length) : putAll ts (us.take (k + 1)) = ins (putAll ts (us.take k)) (nth us k) := by
  rw [take_snoc_nth us k h]; simp [putAll]
end Go.Proofs.Ytndfmgdhiallpaa
