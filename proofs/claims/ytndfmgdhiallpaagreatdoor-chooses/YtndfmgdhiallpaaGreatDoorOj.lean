import Derived.Test.YtndfmgdhiallpaaGreatDoorJf
import Derived.Test.YtndfmgdhiallpaaGreatDoorOi
namespace Go.Proofs.YtndfmgdhiallpaaGreatDoor
open Go.RowKit
end Go.Proofs.YtndfmgdhiallpaaGreatDoor
namespace Go.Proofs.YtndfmgdhiallpaaGreatDoor
open Go.RowKit Go.Maps
def Stays (w w' : World) (v : Value) (q : Nat) : Prop := ∀ b cur e, w.heap[b]? = some (.cells cur e (0, 0)) → ∃ cur', w'.heap[b]? = some (.cells cur' e (0, 0)) ∧ ∀ j, (v.ownBlock = some b → j < q) → cur'[j]? = cur[j]?
theorem run_append_stay {P : Program} (w : World) (t ty : TypeId) (e : TypeId) (i : TypeInfo) (z : Value) (size bytes : Nat) (ht : P.underlying t = some (.slice e)) (hi : P.info? e = some i) (hz : i.zero = some z)
 (hsize : i.size = size) (hby : i.bytes = bytes) (hzs : z.cells.size = size) (hsz : 0 < size) (v : Value) (n : Nat) (xs : List Value) (hown : w.ownsRow 0 e size v n xs)
 (ad : Addr) (m c : Nat) (news : List Value) (hl : news.length = m * size) (hnews : ∀ j u, news[j]? = some u → w.cell? (ad.add j) = some u) (h1 : ∀ u ∈ news, u.oneCell' = true)
 (hm : 0 < m) (h63 : n + m ≤ maxLen) (hbytes : (n + m) * bytes ≤ 140737488355328) :
 ∃ g cap w', (Builtin.append_ #[t, t] ty #[v, .slice (some ad) m c]).run P w = .ok (.slice (some ⟨g, 0, none⟩) (n + m) cap) w' ∧
  w'.ownsRow 0 e size (.slice (some ⟨g, 0, none⟩) (n + m) cap) (n + m) (xs ++ news) ∧ w.grownBy w' v.ownBlock ∧ (v.ownBlock = some g ∨ g = w.heap.size) ∧ Stays w w' v (n * size) := by
 obtain ⟨g, cap, w', hr, h2, h3, h4, _⟩ := run_append_lies (P := P) w t ty 0 e i z size bytes ht hi hz hsize hby hzs hsz v n xs hown ad m c news hl hnews h1 hm h63 hbytes (Nat.zero_le _) w.heap.size rfl
 refine ⟨g, cap, w', hr, h2, h3, h4, fun b cur2 e2 hb => ?_⟩
 have hbl := (Array.getElem?_eq_some_iff.1 hb).1
 have same : w'.heap[b]? = w.heap[b]? → ∃ cur', w'.heap[b]? = some (.cells cur' e2 (0, 0)) ∧ ∀ j, (v.ownBlock = some b → j < n * size) → cur'[j]? = cur2[j]? := fun h => ⟨cur2, h.trans hb, fun _ _ => rfl⟩
 rcases hown.2 with ⟨rfl, _⟩ | ⟨g0, cap0, cur, rfl, hbg, hg, hnc, hcm, hcs, htake⟩
 ·exact same (h3.block b hbl (fun h => by cases h))
 ·by_cases e1 : b = g0
  ·subst e1
   rw [hg] at hb
   injection hb with hb
   injection hb with hb1 hb2
   subst hb1 hb2
   by_cases hroom : n + m ≤ cap0
   ·have hr2 := run_append_room (P := P) w t ty e i ht hi b n cap0 cur hg ad m c news (by rw [hsize]; exact hl) hnews h1 hroom (by rw [hsize, hcs, hl, ← Nat.add_mul]; exact Nat.mul_le_mul_right _ hroom)
    rw [hr] at hr2
    injection hr2 with _ hw
    rw [hw, hsize]
    refine ⟨_, setRow_heap w b cur _ e (0, 0) hg, fun j hj => ?_⟩
    have hj' := hj rfl
    have hmul : n * size ≤ cap0 * size := Nat.mul_le_mul_right _ hnc
    have hlen : j < (cur.toList.take (n * size)).length := by rw [List.length_take, Array.length_toList]; omega
    rw [List.getElem?_toArray, List.append_assoc, List.getElem?_append_left hlen, List.getElem?_take, if_pos hj', Array.getElem?_toList]
   ·have hxl : xs.length = n * i.size := by rw [hsize]; exact hown.1
    have hr2 := run_append_grow (P := P) w t ty e i z ht hi hz ⟨b, 0, none⟩ n cap0 xs hxl (hown.cells (g := b) rfl) ad m c news (by rw [hsize]; exact hl) hnews (by omega) (by unfold maxLen at h63; omega) (growslice_fits (by omega) (by rw [hby]; exact hbytes))
    rw [hr] at hr2
    injection hr2 with _ hw
    exact ⟨cur, by rw [hw]; exact (Go.heap_alloc_old w.drew _ hbl).trans hg, fun _ _ => rfl⟩
  ·exact same (h3.block b hbl (fun h => e1 (by injection h)))
theorem wpList_append_stay {P : Program} {ops : Array Oper} {rest : List Oper} {o : Oper} {a : Act} {Q : Exit → Act → World → Prop} {w : World} (hgd : o.guard = none) (s x : Operand) (t : TypeId)
 (ho : o.op = .call { callee := .builtin .append, args := #[s, x], argTypes := #[t, t] }) (e : TypeId) (i : TypeInfo) (z : Value) (size bytes : Nat) (ht : P.underlying t = some (.slice e)) (hi : P.info? e = some i) (hz : i.zero = some z)
 (hsize : i.size = size) (hby : i.bytes = bytes) (hzs : z.cells.size = size) (hsz : 0 < size) (v : Value) (n : Nat) (xs : List Value) (hs : a.eval s = v) (hown : w.ownsRow 0 e size v n xs)
 (ad : Addr) (m c : Nat) (news : List Value) (hx : a.eval x = .slice (some ad) m c) (hl : news.length = m * size) (hnews : ∀ j u, news[j]? = some u → w.cell? (ad.add j) = some u) (h1 : ∀ u ∈ news, u.oneCell' = true)
 (hm : 0 < m) (h63 : n + m ≤ maxLen) (hbytes : (n + m) * bytes ≤ 140737488355328)
 (k : ∀ g cap w', w'.ownsRow 0 e size (.slice (some ⟨g, 0, none⟩) (n + m) cap) (n + m) (xs ++ news) → w.grownBy w' v.ownBlock → (v.ownBlock = some g ∨ g = w.heap.size) → Stays w w' v (n * size) → wpList P ops Q rest (a.put o.dst (.slice (some ⟨g, 0, none⟩) (n + m) cap)) w') : wpList P ops Q (o :: rest) a w := by
 obtain ⟨g, cap, w', hr, h2, h3, h4, h5⟩ := run_append_stay (P := P) w t o.type e i z size bytes ht hi hz hsize hby hzs hsz v n xs hown ad m c news hl hnews h1 hm h63 hbytes
 exact Lib.wpList_append_run w hgd s x t t ho v _ hs hx _ w' hr (k g cap w' h2 h3 h4 h5)
def Fit (x v : Value) (n : Nat) : Prop := ∀ ao q cap, x = .slice ao q cap → q ≠ 0 → ∀ g, ao = some ⟨g, 0, none⟩ → v.ownBlock = some g → q ≤ n
theorem Full.stays {w w' : World} {e : TypeId} {k n : Nat} {el : ByteArray → List Value} {x v : Value} {m : ByteArray} (h : Full w e k el x m) (hs : Stays w w' v (n * k)) (hf : Fit x v n) (hk : (el m).length = k) : Full w' e k el x m := by
 obtain ⟨ao, q, cap, rfl, hn, hz⟩ := h
 by_cases h0 : q = 0
 ·exact ⟨ao, q, cap, rfl, hn, .inl h0⟩
 ·rcases hz with hz | ⟨g, cur, rfl, hg, hc⟩
  ·exact absurd hz h0
  ·obtain ⟨cur', hg', hc'⟩ := hs g cur e hg
   refine ⟨_, q, cap, rfl, hn, .inr ⟨g, cur', rfl, hg', fun i hi j u hj => ?_⟩⟩
   rw [hc' _ (fun hb => ?_)]
   ·exact hc i hi j u hj
   ·have hqn := hf _ q cap rfl h0 g rfl hb
    have hjk : j < k := by rw [← hk]; exact (List.getElem?_eq_some_iff.1 hj).1
    have : (i + 1) * k ≤ n * k := Nat.mul_le_mul_right _ (by omega)
    rw [Nat.add_mul, Nat.one_mul] at this
    omega
theorem WLs.apF {w1 w w' : World} {b c n : Nat} {s : WS} {RF RL RT : List (Value × ByteArray)} {v : Value} {xs : List Value} (h : WLs w1 w b c s RF RL RT) (hv : w.ownsRow 0 tF 2 v n xs) (h2 : ∀ k, v.ownBlock = some k → w1.heap.size ≤ k) (hg : w.grownBy w' v.ownBlock) (hst : Stays w w' v (n * 2)) (hfit : ∀ x, x ∈ RF → Fit x.1 v n) : WLs w1 w' b c s RF RL RT := by
 have ho : Only (fun k => v.ownBlock = some k) w w' := (Only.refl _ w).grown hg (fun k _ e => e)
 have nl : ∀ {e : TypeId} {q : Nat} {cur : Array Value}, tF ≠ e → w.heap[q]? = some (.cells cur e (0, 0)) → v.ownBlock = some q → False := fun hne hg2 hk => by
  obtain ⟨cur3, hg3⟩ := ownk_heap hv hk
  exact kinds hg3 hg2 hne
 have nr : ∀ {e : TypeId} {k : Nat} {r : Value} {n : Nat} {xs : List Value}, tF ≠ e → w.ownsRow 0 e k r n xs → ∀ {q : Nat}, r.ownBlock = some q → v.ownBlock = some q → False := fun hne hr q hk e => by
  obtain ⟨cur2, hg2⟩ := ownk_heap hr hk
  exact nl hne hg2 e
 refine ⟨h.only.transNew ho (fun k hk e => by have := h2 k e; omega), h.lt, (ho.block b h.inb (fun e => nl (by decide) h.hp e)).trans h.hp, ⟨ownk_kept h.rf.1 ho (fun k hk e => nr (by decide) h.rf.1 hk e), ownk_kept h.rf.2.1 ho (fun k hk e => nr (by decide) h.rf.2.1 hk e), fun x hx => (h.rf.2.2 x hx).stays hst (hfit x hx) rfl⟩, h.rl.kept ho (fun k hk e => nr (by decide) h.rl.1 hk e) (fun k hk e => nr (by decide) h.rl.2.1 hk e) (fun x hx g2 cur2 hg2 _ e => nl (by decide) hg2 e), h.rt.kept ho (fun k hk e => nr (by decide) h.rt.1 hk e) (fun k hk e => nr (by decide) h.rt.2.1 hk e) (fun x hx g2 cur2 hg2 _ e => nl (by decide) hg2 e), h.new, h.ap1, h.ap2, h.ap3, h.few⟩
theorem WLs.apL {w1 w w' : World} {b c n : Nat} {s : WS} {RF RL RT : List (Value × ByteArray)} {v : Value} {xs : List Value} (h : WLs w1 w b c s RF RL RT) (hv : w.ownsRow 0 tL 2 v n xs) (h2 : ∀ k, v.ownBlock = some k → w1.heap.size ≤ k) (hg : w.grownBy w' v.ownBlock) (hst : Stays w w' v (n * 2)) (hfit : ∀ x, x ∈ RL → Fit x.1 v n) : WLs w1 w' b c s RF RL RT := by
 have ho : Only (fun k => v.ownBlock = some k) w w' := (Only.refl _ w).grown hg (fun k _ e => e)
 have nl : ∀ {e : TypeId} {q : Nat} {cur : Array Value}, tL ≠ e → w.heap[q]? = some (.cells cur e (0, 0)) → v.ownBlock = some q → False := fun hne hg2 hk => by
  obtain ⟨cur3, hg3⟩ := ownk_heap hv hk
  exact kinds hg3 hg2 hne
 have nr : ∀ {e : TypeId} {k : Nat} {r : Value} {n : Nat} {xs : List Value}, tL ≠ e → w.ownsRow 0 e k r n xs → ∀ {q : Nat}, r.ownBlock = some q → v.ownBlock = some q → False := fun hne hr q hk e => by
  obtain ⟨cur2, hg2⟩ := ownk_heap hr hk
  exact nl hne hg2 e
 refine ⟨h.only.transNew ho (fun k hk e => by have := h2 k e; omega), h.lt, (ho.block b h.inb (fun e => nl (by decide) h.hp e)).trans h.hp, h.rf.kept ho (fun k hk e => nr (by decide) h.rf.1 hk e) (fun k hk e => nr (by decide) h.rf.2.1 hk e) (fun x hx g2 cur2 hg2 _ e => nl (by decide) hg2 e), ⟨ownk_kept h.rl.1 ho (fun k hk e => nr (by decide) h.rl.1 hk e), ownk_kept h.rl.2.1 ho (fun k hk e => nr (by decide) h.rl.2.1 hk e), fun x hx => (h.rl.2.2 x hx).stays hst (hfit x hx) rfl⟩, h.rt.kept ho (fun k hk e => nr (by decide) h.rt.1 hk e) (fun k hk e => nr (by decide) h.rt.2.1 hk e) (fun x hx g2 cur2 hg2 _ e => nl (by decide) hg2 e), h.new, h.ap1, h.ap2, h.ap3, h.few⟩
theorem flat_get {l : List Value} {k : Nat} (hk : l.length = k) (h0 : 0 < k) : ∀ (n q : Nat), q < n * k → ((List.replicate n l).flatten)[q]? = l[q % k]?
 | 0, q, h => by omega
 | n + 1, q, h => by
  rw [List.replicate_succ, List.flatten_cons]
  by_cases hq : q < k
  ·rw [List.getElem?_append_left (by omega), Nat.mod_eq_of_lt hq]
  ·rw [List.getElem?_append_right (by omega), hk, flat_get hk h0 n (q - k) (by rw [Nat.add_mul, Nat.one_mul] at h; omega), Nat.mod_eq_sub_mod (show q ≥ k by omega)]
theorem flat_len {l : List Value} {k : Nat} (hk : l.length = k) : ∀ n, ((List.replicate n l).flatten).length = n * k
 | 0 => by simp
 | n + 1 => by rw [List.replicate_succ, List.flatten_cons, List.length_append, flat_len hk n, hk, Nat.add_mul]; omega
theorem flat_succ {l : List Value} (n : Nat) : (List.replicate n l).flatten ++ l = (List.replicate (n + 1) l).flatten := by
 rw [List.replicate_succ', List.flatten_append]; simp
theorem own_full {w : World} {e : TypeId} {k n : Nat} {el : ByteArray → List Value} {v : Value} {m : ByteArray} (hk : (el m).length = k) (h0 : 0 < k) (hn : n ≤ 2000000) (h : w.ownsRow 0 e k v n ((List.replicate n (el m)).flatten)) : Full w e k el v m := by
 obtain ⟨_, ⟨rfl, hz⟩ | ⟨g, cap, cur, rfl, _, hg, hnc, _, hcs, htk⟩⟩ := h
 ·exact ⟨none, 0, 0, rfl, by omega, .inl rfl⟩
 ·refine ⟨_, n, cap, rfl, hn, .inr ⟨g, cur, rfl, hg, fun i hi j u hj => ?_⟩⟩
  have hjk : j < k := by rw [← hk]; exact (List.getElem?_eq_some_iff.1 hj).1
  have hlt : i * k + j < n * k := by
   have : (i + 1) * k ≤ n * k := Nat.mul_le_mul_right _ (by omega)
   rw [Nat.add_mul, Nat.one_mul] at this
   omega
  have h2 : (List.take (n * k) cur.toList)[i * k + j]? = ((List.replicate n (el m)).flatten)[i * k + j]? := by rw [htk]
  rw [List.getElem?_take, if_pos hlt, flat_get hk h0 n _ hlt, Array.getElem?_toList, Nat.mul_comm i k, Nat.mul_add_mod, Nat.mod_eq_of_lt hjk, hj] at h2
  rw [Nat.mul_comm i k]; exact h2
def ParC (wq w1 w : World) (e : TypeId) (k : Nat) (el : ByteArray → List Value) (ao : Option Addr) (n cap : Nat) (m : ByteArray) (i : Nat) : Prop := (n = 0 ∧ w.ownsRow 0 e k (.slice ao 0 cap) 0 []) ∨ ∃ g cur, ao = some ⟨g, 0, none⟩ ∧ w.heap[g]? = some (.cells cur e (0, 0)) ∧ n ≤ cap ∧ cap ≤ maxLen ∧ cur.size = cap * k ∧ wq.heap.size ≤ g ∧ w1.heap.size ≤ g ∧ ∀ p, p < i → ∀ j u, (el m)[j]? = some u → cur[p * k + j]? = some u
theorem ParC.own {wq w1 w : World} {e : TypeId} {k : Nat} {el : ByteArray → List Value} {ao : Option Addr} {n cap : Nat} {m : ByteArray} (h : ParC wq w1 w e k el ao n cap m n) (hk : (el m).length = k) (h0 : 0 < k) : w.ownsRow 0 e k (.slice ao n cap) n ((List.replicate n (el m)).flatten) := by
 rcases h with ⟨rfl, h⟩ | ⟨g, cur, rfl, hg, hnc, hcm, hcs, _, _, hf⟩
 ·exact h
 ·refine ⟨flat_len hk n, .inr ⟨g, cap, cur, rfl, Nat.zero_le _, hg, hnc, hcm, hcs, ?_⟩⟩
  apply List.ext_getElem?
  intro q
  have hmul : n * k ≤ cap * k := Nat.mul_le_mul_right _ hnc
  by_cases hq : q < n * k
  ·rw [List.getElem?_take, if_pos hq, flat_get hk h0 n q hq, Array.getElem?_toList]
   have hqk : q % k < (el m).length := by rw [hk]; exact Nat.mod_lt _ h0
   have hdm := Nat.div_add_mod q k
   have hp : q / k < n := Nat.div_lt_of_lt_mul (by rw [Nat.mul_comm]; exact hq)
   have := hf (q / k) hp (q % k) _ (List.getElem?_eq_getElem hqk)
   rw [Nat.mul_comm, hdm] at this
   rw [this, List.getElem?_eq_getElem hqk]
  ·rw [List.getElem?_eq_none (by rw [List.length_take, Array.length_toList]; omega), List.getElem?_eq_none (by rw [flat_len hk]; omega)]
theorem ParC.start {wq w1 w : World} {e : TypeId} {k : Nat} {el : ByteArray → List Value} {ao : Option Addr} {n cap : Nat} {xs : List Value} (h : w.ownsRow 0 e k (.slice ao n cap) n xs) (hb : ∀ g, (Value.slice ao n cap).ownBlock = some g → wq.heap.size ≤ g ∧ w1.heap.size ≤ g) (m : ByteArray) : ParC wq w1 w e k el ao n cap m 0 := by
 obtain ⟨hl, ⟨e1, hz⟩ | ⟨g, cap', cur, e1, h1, hg, hnc, hcm, hcs, htk⟩⟩ := h
 ·injection e1 with e1 e2 e3
  subst e1 e3 hz
  exact .inl ⟨rfl, World.ownsRow_nil _ _ _ _⟩
 ·injection e1 with e1 e2 e3
  subst e1 e3
  exact .inr ⟨g, cur, rfl, hg, hnc, hcm, hcs, (hb g rfl).1, (hb g rfl).2, fun p hp => by omega⟩
theorem ParC.kept {S : Nat → Prop} {wq w1 w w' : World} {e : TypeId} {k : Nat} {el : ByteArray → List Value} {ao : Option Addr} {n cap : Nat} {m : ByteArray} {i : Nat} (h : ParC wq w1 w e k el ao n cap m i) (ho : Only S w w') (hs : ∀ g cur, w.heap[g]? = some (.cells cur e (0, 0)) → ¬ S g) : ParC wq w1 w' e k el ao n cap m i := by
 rcases h with ⟨h0, h⟩ | ⟨g, cur, h1, h2, h3⟩
 ·refine .inl ⟨h0, ownk_kept h ho (fun b hb => ?_)⟩
  obtain ⟨cur, hg⟩ := ownk_heap h hb
  exact hs b cur hg
 ·exact .inr ⟨g, cur, h1, (ho.block g (Array.getElem?_eq_some_iff.1 h2).1 (hs g cur h2)).trans h2, h3⟩
theorem ParC.next {wq w1 w : World} {e : TypeId} {el : ByteArray → List Value} {ao : Option Addr} {n cap i g : Nat} {m : ByteArray} {u0 u1 : Value} (hel : el m = [u0, u1]) {cur cur' : Array Value} (ha : ao = some ⟨g, 0, none⟩) (hg : w.heap[g]? = some (.cells cur' e (0, 0))) (hnc : n ≤ cap) (hcm : cap ≤ maxLen) (hcs : cur.size = cap * 2) (hs : cur'.size = cur.size) (h1 : wq.heap.size ≤ g) (h2 : w1.heap.size ≤ g) (hf : ∀ p, p < i → ∀ j u, (el m)[j]? = some u → cur[p * 2 + j]? = some u) (hl : ∀ p, p < i * 2 → cur'[p]? = cur[p]?) (e0 : cur'[i * 2]? = some u0) (e1 : cur'[i * 2 + 1]? = some u1) : ParC wq w1 w e 2 el ao n cap m (i + 1) := by
 refine .inr ⟨g, cur', ha, hg, hnc, hcm, by omega, h1, h2, fun p hp j u hj => ?_⟩
 rw [hel] at hj
 have hj2 : j < 2 := (List.getElem?_eq_some_iff.1 hj).1
 by_cases e : p = i
 ·subst e
  match j, hj2, hj with
  | 0, _, hj => rw [← hj]; exact e0
  | 1, _, hj => rw [← hj]; exact e1
 ·rw [hl _ (by omega)]; exact hf p (by omega) j u (by rw [hel]; exact hj)
end Go.Proofs.YtndfmgdhiallpaaGreatDoor
