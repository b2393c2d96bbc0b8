/- What the row hands over: the script's steps. -/
import Derived.Test.YtndfmgdhiallpaaGreatDoorPc
namespace Go.Proofs.YtndfmgdhiallpaaGreatDoor
open Go.ChangeShapes Go.WideShapes Go.ChangeAt Go.RowKit

theorem weights_mem_all {H : Type} {P : Program} {e : TypeId} {d : DataW H} : ∀ {l : List (DataW H)}, d ∈ l → ∀ n ∈ d.weights P e, n ∈ DataW.weightsAll P e l
  | x :: r, h, n, hn => by
    rw [DataW.weightsAll, List.mem_append]
    rcases List.mem_cons.1 h with rfl | h
    · exact .inl hn
    · exact .inr (weights_mem_all h n hn)
theorem cOp : Tryz.prog.cellsOf 79 = 7 := by kernel_rfl
theorem cInt : Tryz.prog.cellsOf 3 = 1 := by kernel_rfl
theorem cStr : Tryz.prog.cellsOf 9 = 1 := by kernel_rfl
theorem cTree : Tryz.prog.cellsOf 40 = 1 := by kernel_rfl
theorem cFiles : Tryz.prog.cellsOf 41 = 1 := by kernel_rfl

set_option maxRecDepth 100000 in
/-- One step's cells. -/
theorem op_of {H : Type} {enc : TypeId × Value → H} {W : World} {fuel : Nat} {cs : List Value} {d : DataW H} {p : List MemPlace} {sp : Nat → Bool} {hd : Bool} (hl : cs.length = 7)
    (h : DataW.trod enc Tryz.prog W 0 sp hd fuel 79 cs = some (d, p)) :
    ∃ k a c s t x y, cs = (opV k a c s t x y).toList ∧ x.oneCell' = true ∧ y.oneCell' = true ∧ s.data.toList.length ∈ d.weights Tryz.prog 79 := by
  obtain ⟨xs, n, rfl, hx, hlen, hn, hf⟩ := DataW.trod_struct Tryz.underlying79 h
  match cs, hl, xs, hn with
  | [v0, v1, v2, v3, v4, v5, v6], _, [y0, y1, y2, y3, y4, y5, y6], _ =>
    have g0 := hf 0 _ rfl
    have g1 := hf 1 _ rfl
    have g2 := hf 2 _ rfl
    have g3 := hf 3 _ rfl
    have g4 := hf 4 _ rfl
    have g5 := hf 5 _ rfl
    have g6 := hf 6 _ rfl
    simp [cInt, cStr, cTree, cFiles] at g0 g1 g2 g3 g4 g5 g6
    obtain ⟨k, e0, _⟩ := DataW.trod_int Tryz.underlying3 g0
    obtain ⟨a, e1, _⟩ := DataW.trod_int Tryz.underlying3 g1
    obtain ⟨c, e2, _⟩ := DataW.trod_int Tryz.underlying3 g2
    obtain ⟨s, e3, x3, _⟩ := DataW.trod_string Tryz.underlying9 g3
    obtain ⟨t, e4, _⟩ := DataW.trod_string Tryz.underlying9 g4
    have h5 : v5.oneCell' = true := by
      rcases DataW.trod_slice Tryz.underlying40 g5 with ⟨e5, _⟩ | ⟨_, _, _, _, _, _, _, e5, _⟩ <;> (simp at e5; subst e5; rfl)
    have h6 : v6.oneCell' = true := by
      rcases DataW.trod_slice Tryz.underlying41 g6 with ⟨e6, _⟩ | ⟨_, _, _, _, _, _, _, e6, _⟩ <;> (simp at e6; subst e6; rfl)
    simp at e0 e1 e2 e3 e4
    subst e0 e1 e2 e3 e4
    refine ⟨k, a, c, s, t, v5, v6, rfl, h5, h6, ?_⟩
    simp only [Prod.mk.injEq] at hx
    rw [hx.1]
    unfold DataW.weights
    rw [Tryz.underlying79]
    refine DataW.weights_mem_each (j := 3) (t := 9) (d := y3.1) rfl rfl _ ?_
    rw [x3]
    simp [DataW.weights]

theorem ops_of {H : Type} {enc : TypeId × Value → H} {W : World} {v : Value} {d : DataW H} {ps : List MemPlace} {sp : Nat → Bool} {hd : Bool} {ts : List TypeId} {ds : List (DataW H)}
    (h : DataW.Trod enc Tryz.prog W 0 sp hd 22 v d ps) (hv : v.oneCell' = true) (hw : (DataW.weightsEach Tryz.prog ts ds).all (· ≤ reachBytes) = true) (ht : ts[0]? = some 22) (hd0 : ds[0]? = some d) :
    v = .slice none 0 0 ∨ ∃ a n cap, v = .slice (some a) n cap ∧ n ≤ maxLen ∧ OpsAt W a n := by
  obtain ⟨fuel, h⟩ := h
  rcases Go.Deep.open_slice Tryz.underlying22 h with ⟨hc, _⟩ | ⟨a, len, cap, m, n, D, Pl, hc, hb, hl, hm, hmm, hx, hall⟩
  · left
    cases v <;> simp_all [Value.cells, Value.oneCell']
  · right
    refine ⟨a, len, cap, ?_, by omega, fun i hi => ?_⟩
    · cases v <;> simp_all [Value.cells, Value.oneCell']
    · have him : i < m := by rw [hmm]; split <;> omega
      obtain ⟨cs', h1, h2⟩ := hall i him
      rw [cOp] at h1
      obtain ⟨_, hlen, hcell⟩ := World.cells?_some h1
      obtain ⟨k, p, q, s, t, x, y, rfl, h5, h6, hmem⟩ := op_of hlen h2
      refine ⟨k, p, q, s, t, x, y, ?_, op_one h5 h6, fun j hj => ?_⟩
      · simp only [Prod.mk.injEq] at hx
        have hsz : s.data.toList.length ≤ reachBytes := by
          have h3 := DataW.weights_mem_each (P := Tryz.prog) ht hd0 (s.data.toList.length) (by
            rw [hx.1]
            unfold DataW.weights
            rw [Tryz.underlying22]
            refine List.mem_cons_of_mem _ (List.mem_append.2 (.inl (weights_mem_all (d := D i) ?_ _ hmem)))
            exact List.mem_map.2 ⟨i, List.mem_range.2 hi, rfl⟩)
          have := List.all_eq_true.1 hw _ h3
          simpa using this
        have e : s.size = s.data.toList.length := rfl
        rw [e]; exact Nat.le_trans hsz (by decide)
      · have := hcell j hj
        rw [Addr.add_add] at this
        simpa using this
end Go.Proofs.YtndfmgdhiallpaaGreatDoor
