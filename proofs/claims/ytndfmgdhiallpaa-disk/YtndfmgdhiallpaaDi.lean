/- Laws for a slice of things, as steps of a walk: append; copy one further. -/
import Derived.Test.YtndfmgdhiallpaaDh
namespace Go.Proofs.Ytndfmgdhiallpaa
open Go.RowKit

theorem wpList_append_thg {w : World} {ops : Array Oper} {rest : List Oper} {o : Oper} {a : Act} {Q : Exit → Act → World → Prop} (hgd : o.guard = none) (s x : Operand)
    (ho : o.op = .call { callee := .builtin .append, args := #[s, x], argTypes := #[36, 36] })
    (v xv : Value) (ts us : List Th) (hs : a.eval s = v) (hx : a.eval x = xv) (h : Thg w v ts) (hsh : Shows w xv us) (hb : (ts.length + us.length) * 40 ≤ 140737488355328)
    (hK : ∀ v' w', Thg w' v' (ts ++ us) → w.grownBy w' v.ownBlock → (v'.ownBlock = v.ownBlock ∨ ∀ k, v'.ownBlock = some k → w.heap.size ≤ k) → wpList Try.prog ops Q rest (a.put o.dst v') w') :
    wpList Try.prog ops Q (o :: rest) a w := by
  refine wpList_plain hgd fun K hK' => ?_
  obtain ⟨v', w', hrun, h1, h2, h3⟩ := run_append_thg h hsh o.type hb
  unfold Oper.wp
  simp [execOp, ho, resolve, invoke, builtin, hs, hx, hrun, Result.andThen]
  exact hK' _ _ (hK v' w' h1 h2 h3)

theorem step_append_thg {w : World} {ops : Array Oper} {o : Oper} {a : Act} {K : Act → World → Prop} {Q : Exit → Act → World → Prop} {E : Prop} (hgd : o.guard = none) (s x : Operand)
    (ho : o.op = .call { callee := .builtin .append, args := #[s, x], argTypes := #[36, 36] })
    (v xv : Value) (ts us : List Th) (hs : a.eval s = v) (hx : a.eval x = xv) (h : Thg w v ts) (hsh : Shows w xv us) (hb : (ts.length + us.length) * 40 ≤ 140737488355328)
    (hK : ∀ v' w', Thg w' v' (ts ++ us) → w.grownBy w' v.ownBlock → (v'.ownBlock = v.ownBlock ∨ ∀ k, v'.ownBlock = some k → w.heap.size ≤ k) → K (a.put o.dst v') w') :
    if Region.wanted o (yielded ops a.tmps) = true then Oper.wp Try.prog o a w K Q else E := by
  have hw : Region.wanted o (yielded ops a.tmps) = true := by simp [Region.wanted, hgd]
  rw [if_pos hw]
  obtain ⟨v', w', hrun, h1, h2, h3⟩ := run_append_thg h hsh o.type hb
  unfold Oper.wp
  simp [execOp, ho, resolve, invoke, builtin, hs, hx, hrun, Result.andThen]
  exact hK v' w' h1 h2 h3

theorem flat_drop (ts : List Th) (k : Nat) : flat (ts.drop k) = (flat ts).drop (k * 3) := by
  induction k generalizing ts with
  | zero => simp
  | succ k ih =>
    cases ts with
    | nil => simp [flat]
    | cons t r => rw [show (k + 1) * 3 = k * 3 + 1 + 1 + 1 by omega]; simp [flat, ih]

theorem flat_take (ts : List Th) (k : Nat) : flat (ts.take k) = (flat ts).take (k * 3) := by
  induction k generalizing ts with
  | zero => simp [flat]
  | succ k ih =>
    cases ts with
    | nil => simp [flat]
    | cons t r => rw [show (k + 1) * 3 = k * 3 + 1 + 1 + 1 by omega]; simp [flat, ih]

theorem flat_set (us : List Th) (k : Nat) (t : Th) : (((flat us).set (k * 3) (.string t.p)).set (k * 3 + 1) (.bool t.f)).set (k * 3 + 2) (.string t.d) = flat (us.set k t) := by
  induction k generalizing us with
  | zero => cases us <;> simp [flat]
  | succ k ih =>
    cases us with
    | nil => simp [flat]
    | cons x r => rw [show (k + 1) * 3 = k * 3 + 1 + 1 + 1 by omega]; simpa [flat] using ih r

theorem take_snoc_nth (us : List Th) (k : Nat) (h : k < us.length) : us.take (k + 1) = us.take k ++ [nth us k] := by
  rw [List.take_succ_eq_append_getElem h]
  simp [nth, h]

/-- copy(s[k+1:], s[k:]) of a row whose last thing is room made. -/
theorem run_copy_shift {w : World} {g cap : Nat} {cur : Array Value} {ts : List Th} {k : Nat} (hk : k ≤ ts.length) (hg : w.heap[g]? = some (.cells cur 41 (0, 0))) (hc : ts.length + 1 ≤ cap) (hsz : cap * 3 ≤ cur.size)
    (hrow : cur.toList.take ((ts.length + 1) * 3) = flat (ts ++ [noTh])) (dp : Option Addr) (dc sc : Nat) (ty : TypeId) (hdp : k < ts.length → dp = some ⟨g, (k + 1) * 3, none⟩) :
    ∃ w' cur', (Builtin.copy_ #[36, 36] ty #[.slice dp (ts.length - k) dc, .slice (some ⟨g, k * 3, none⟩) (ts.length + 1 - k) sc]).run Try.prog w = .ok (goInt ((ts.length - k : Nat) : Int)) w' ∧
      w'.heap[g]? = some (.cells cur' 41 (0, 0)) ∧ cap * 3 ≤ cur'.size ∧ cur'.toList.take ((ts.length + 1) * 3) = flat (ts.take k ++ nth (ts ++ [noTh]) k :: ts.drop k) ∧ Only (fun i => i = g) w w' := by
  obtain ⟨i, hi, hz0, hz1, hz2⟩ := info_parts info41
  have hmin : Nat.min (ts.length + 1 - k) (ts.length - k) = ts.length - k := Nat.min_eq_right (by omega)
  have hfl := flat_length ts
  by_cases hkn : k = ts.length
  · subst hkn
    refine ⟨w, cur, ?_, hg, hsz, ?_, Only.refl _ _⟩
    · have : ts.length - ts.length = 0 := by omega
      have h2 : ts.length + 1 - ts.length = 1 := by omega
      simp only [this, h2]
      cases dp with
      | none => simp [Builtin.copy_, run_underlying Try.underlying36, Builtin.lenOf, Builtin.firstCells, sizeOf, typeInfo, hi, loadCells, loadCellsFrom]
      | some a => simp [Builtin.copy_, run_underlying Try.underlying36, Builtin.lenOf, Builtin.firstCells, sizeOf, typeInfo, hi, loadCells, loadCellsFrom, storeCells]
    · rw [hrow]; simp [nth]
  · obtain rfl := hdp (by omega)
    have hcs : (flat (ts.drop k)).length = (ts.length - k) * 3 := by rw [flat_length]; simp
    have hsrc : ∀ j u, (flat (ts.drop k))[j]? = some u → w.cell? ((⟨g, k * 3, none⟩ : Addr).add j) = some u := by
      intro j u hu
      have hj : j < (flat (ts.drop k)).length := (List.getElem?_eq_some_iff.1 hu).1
      rw [Addr.add_lit, cell_of_row w g _ cur 41 (0, 0) hg]
      rw [flat_drop, List.getElem?_drop] at hu
      have h2 : (cur.toList.take ((ts.length + 1) * 3))[k * 3 + j]? = some u := by
        rw [hrow, flat_append, List.getElem?_append_left (by omega)]; exact hu
      rw [List.getElem?_take, if_pos (by omega)] at h2
      simpa using h2
    have hl := run_loadCells_list (P := Try.prog) w ⟨g, k * 3, none⟩ (flat (ts.drop k)) hsrc
    have hst := run_storeCells_at Try.prog g ((k + 1) * 3) 41 (flat (ts.drop k)) 0 cur w hg (by omega) (flat_one _)
    rw [hcs] at hl
    refine ⟨_, (cur.toList.take ((k + 1) * 3 + 0) ++ flat (ts.drop k) ++ cur.toList.drop ((k + 1) * 3 + 0 + (flat (ts.drop k)).length)).toArray, ?_, setRow_heap w g cur _ 41 _ hg, ?_, ?_, ?_⟩
    rotate_left
    · simp only [List.size_toArray, List.length_append, List.length_take, List.length_drop, Array.length_toList]; omega
    · simp only [Nat.add_zero]
      have e1 : (cur.toList.take ((k + 1) * 3) ++ flat (ts.drop k)).length = (ts.length + 1) * 3 := by
        simp only [List.length_append, List.length_take, Array.length_toList, hcs]; omega
      rw [← e1, List.take_left]
      have e2 : cur.toList.take ((k + 1) * 3) = flat (ts.take k ++ [nth (ts ++ [noTh]) k]) := by
        have e3 : (ts ++ [noTh]).take k = ts.take k := by rw [List.take_append_of_le_length (by omega)]
        rw [← e3, ← take_snoc_nth (ts ++ [noTh]) k (by simp; omega), flat_take, ← hrow, List.take_take]
        congr 1; omega
      rw [e2, ← flat_append]; simp
    · exact ⟨rfl, rfl, rfl, by simp [World.setRow], fun j _ hj => setRow_other w g j _ hj⟩
    · simp [Builtin.copy_, run_underlying Try.underlying36, Builtin.lenOf, Builtin.firstCells, sizeOf, typeInfo, hi, hz1, hl, hmin]
      simp at hst
      simp [hst]

theorem step_copy_shift {w : World} {ops : Array Oper} {o : Oper} {a : Act} {K : Act → World → Prop} {Q : Exit → Act → World → Prop} {E : Prop} (hgd : o.guard = none) (d s : Operand)
    (ho : o.op = .call { callee := .builtin .copy, args := #[d, s], argTypes := #[36, 36] })
    {g cap : Nat} {cur : Array Value} {ts : List Th} {k : Nat} (hk : k ≤ ts.length) (hg : w.heap[g]? = some (.cells cur 41 (0, 0))) (hc : ts.length + 1 ≤ cap) (hsz : cap * 3 ≤ cur.size)
    (hrow : cur.toList.take ((ts.length + 1) * 3) = flat (ts ++ [noTh])) (dp : Option Addr) (dc sc dn sn : Nat) (hdn : dn = ts.length - k) (hsn : sn = ts.length + 1 - k) (hdp : k < ts.length → dp = some ⟨g, (k + 1) * 3, none⟩)
    (hd : a.eval d = .slice dp dn dc) (hs : a.eval s = .slice (some ⟨g, k * 3, none⟩) sn sc)
    (hK : ∀ w' cur', w'.heap[g]? = some (.cells cur' 41 (0, 0)) → cap * 3 ≤ cur'.size → cur'.toList.take ((ts.length + 1) * 3) = flat (ts.take k ++ nth (ts ++ [noTh]) k :: ts.drop k) → Only (fun i => i = g) w w' → K (a.put o.dst (goInt ((ts.length - k : Nat) : Int))) w') :
    if Region.wanted o (yielded ops a.tmps) = true then Oper.wp Try.prog o a w K Q else E := by
  have hw : Region.wanted o (yielded ops a.tmps) = true := by simp [Region.wanted, hgd]
  rw [if_pos hw]
  subst hdn hsn
  obtain ⟨w', cur', hrun, h1, h2, h3, h4⟩ := run_copy_shift hk hg hc hsz hrow dp dc sc o.type hdp
  unfold Oper.wp
  simp only [execOp, ho, resolve, invoke, builtin, Sem.run_bind, Sem.run_pure, Result.andThen_ok, List.map_toArray, List.map_cons, List.map_nil, hd, hs, hrun]
  exact hK w' cur' h1 h2 h3 h4
end Go.Proofs.Ytndfmgdhiallpaa
