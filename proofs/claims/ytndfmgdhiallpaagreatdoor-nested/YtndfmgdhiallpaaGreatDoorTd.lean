/- The law of packed bytes: its steps. -/
import Derived.Test.YtndfmgdhiallpaaGreatDoorMr
import Derived.Test.YtndfmgdhiallpaaGreatDoorPc
namespace Go.Proofs.YtndfmgdhiallpaaGreatDoor
open Go.RowKit

theorem OrdAt.old {w w' : World} (h : OrdAt w) (ho : Old w w') : OrdAt w' := h.kept ho (fun x => x)
set_option maxRecDepth 100000 in
set_option maxHeartbeats 1000000 in
/-- Kind 3. -/
theorem step_three (a c : Int) (s t : ByteArray) (hs : s.size ≤ 140737488355328) (tr fi : Value) (b : Nat) (w : World) (hw : WAt w b) (ho : OrdAt w) :
    Calls Tryz.prog 38 #[.pointer (some ⟨b, 0, none⟩), .agg (opV 3 a c s t tr fi)] w fun e w' => e = .returned (.bool true) ∧ WAt w' b ∧ Only (fun i => i = b) w w' := by
  have HOp : Hid (Row (w.alloc (.cells (opV 3 a c s t tr fi) 79)) w.heap.size 79 7 (fun j => (opV 3 a c s t tr fi).getD j undef)) := Row.new w _ _ 7 _ (by rw [opV]; exact Nat.le_refl _) (fun j hj => by
    have : j = 0 ∨ j = 1 ∨ j = 2 ∨ j = 3 ∨ j = 4 ∨ j = 5 ∨ j = 6 := by omega
    rcases this with rfl | rfl | rfl | rfl | rfl | rfl | rfl <;> rfl)
  have HWA := hide (hw.old ((Only.refl _ w).alloc (.cells (opV 3 a c s t tr fi) 79)))
  have HOR := hide (ho.old ((Only.refl _ w).alloc (.cells (opV 3 a c s t tr fi) 79)))
  have HOL : Hid (Old w (w.alloc (.cells (opV 3 a c s t tr fi) 79))) := (Only.refl _ w).alloc _
  have HI := hide (fun w1 h => inflates_any s hs w1 h)
  have HD := hide (fun w1 => valiseDeflate_any s hs w1)
  clear hw ho
  unfold opV at *
  by_cases ha : a = 7
  · subst ha
    go_enter Tryz.func38, Tryz.ntmps38
    go_wp2_with fail
    generalize w.alloc (.cells #[.int .i64 3, .int .i64 7, .int .i64 c, .string s, .string t, tr, fi] 79) = W at *
    refine (unhide HD W).mono ?_
    rintro e w1 ⟨hr, ho1⟩
    have HO1 := hide (Only.trans (unhide HOL) ho1)
    have HW1 := hide ((unhide HWA).old ho1)
    have HR1 := hide ((unhide HOp).old ho1)
    have HOR1 := hide ((unhide HOR).old ho1)
    have hc1 : w1.cell? ⟨w.heap.size, 2, none⟩ = some (.int .i64 c) := (unhide HR1).cell 2 (by omega)
    obtain ⟨p, n, rfl, hp⟩ : ∃ (p : ByteArray) (n : Int), e = .returned (.tuple #[.string p, .int .i64 n]) ∧ p.size ≤ 1000000 := by
      rcases hr with ⟨hd, rfl⟩ | ⟨_, rfl⟩
      · exact ⟨_, 0, rfl, by have := (deflP_size s).1; omega⟩
      · exact ⟨_, 1, rfl, by decide⟩
    have HT := hide (fun W => lawTurned_any p hp c W)
    clear ho1 hr HOL HWA HOp HOR HD HI HR1
    go_wp2_with fail
    refine (unhide HT w1).mono ?_
    rintro e w2 ⟨q, rfl, hq, ho2⟩
    have HO2 := hide (Only.trans (unhide HO1) ho2)
    have HW2 := hide ((unhide HW1).old ho2)
    have HI2 := hide (inflates_any q (by omega) w2 ((unhide HOR1).old ho2))
    clear ho2 HT HO1 HW1 HOR1 hc1
    go_wp2_with fail
    refine (unhide HI2).mono ?_
    rintro e w3 ⟨rfl, ho3⟩
    have HO3 := hide (Only.trans (unhide HO2) ho3)
    have HW3 := hide ((unhide HW2).old ho3)
    clear ho3 HI2 HO2 HW2
    go_wp2_with fail
    go_ret
    exact ⟨rfl, HW3, Only.oldW (unhide HO3)⟩
  · have hab : (a == 7) = false := by rw [beq_eq_false_iff_ne]; exact ha
    go_enter Tryz.func38, Tryz.ntmps38
    go_wp2_with fail
    generalize w.alloc (.cells #[.int .i64 3, .int .i64 a, .int .i64 c, .string s, .string t, tr, fi] 79) = W at *
    refine (unhide HI _ (unhide HOR)).mono ?_
    rintro e w1 ⟨rfl, ho1⟩
    have HO1 := hide (Only.trans (unhide HOL) ho1)
    have HW1 := hide ((unhide HWA).old ho1)
    clear ho1 HOL HWA HOp HOR HD HI
    go_wp2_with fail
    go_ret
    exact ⟨rfl, HW1, Only.oldW (unhide HO1)⟩
set_option maxRecDepth 100000 in
set_option maxHeartbeats 1000000 in
/-- Kind 4. -/
theorem step_four (a c : Int) (s t : ByteArray) (hs : s.size ≤ 140737488355328) (tr fi : Value) (b : Nat) (w : World) (hw : WAt w b) :
    Calls Tryz.prog 38 #[.pointer (some ⟨b, 0, none⟩), .agg (opV 4 a c s t tr fi)] w fun e w' => e = .returned (.bool true) ∧ WAt w' b ∧ Only (fun i => i = b) w w' := by
  have HWA := hide (hw.old ((Only.refl _ w).alloc (.cells (opV 4 a c s t tr fi) 79)))
  have HOL : Hid (Old w (w.alloc (.cells (opV 4 a c s t tr fi) 79))) := (Only.refl _ w).alloc _
  have HD := hide (fun w1 => deflates_any s hs w1)
  clear hw
  unfold opV at *
  go_enter Tryz.func38, Tryz.ntmps38
  go_wp2_with fail
  generalize w.alloc (.cells #[.int .i64 4, .int .i64 a, .int .i64 c, .string s, .string t, tr, fi] 79) = W at *
  refine (unhide HD W).mono ?_
  rintro e w1 ⟨rfl, ho1⟩
  have HO1 := hide (Only.trans (unhide HOL) ho1)
  have HW1 := hide ((unhide HWA).old ho1)
  clear ho1 HOL HWA HD
  go_wp2_with fail
  go_ret
  exact ⟨rfl, HW1, Only.oldW (unhide HO1)⟩
/-- The two tables lie where they must. -/
def Glob2 (w : World) : Prop := Glob w ∧ OrdAt w
theorem Glob2.old {w w' : World} (h : Glob2 w) (ho : Old w w') : Glob2 w' := ⟨h.1.old ho, h.2.old ho⟩
theorem stepOk4 : StepOk Glob2 4 := by
  intro k p q s t x y b w hk hs hw hg
  by_cases h2 : k ≤ 2
  · exact stepOk2 k p q s t x y b w h2 hs hw hg.1
  · by_cases h3 : k = 3
    · subst h3; exact step_three p q s t hs x y b w hw hg.2
    · obtain rfl : k = 4 := by omega
      exact step_four p q s t hs x y b w hw
theorem gOrder : Tryz.prog.globalNamed "valise/inflate.order" = some 1 := by kernel_rfl
theorem tOrder : (Tryz.prog.globals[1]?).map (·.type) = some 313 := by kernel_rfl
theorem cI3 : Tryz.prog.cellsOf 3 = 1 := by kernel_rfl
theorem cA19 : Tryz.prog.cellsOf 313 = 19 := by kernel_rfl
theorem ord_of {W : World} (h : laidMetH Tryz.prog laid4 W) : OrdAt W := by
  rw [MakeChecks.laidMetH_plain _ _ _ (by kernel_rfl)] at h
  obtain ⟨ps, ⟨g, t, cs, f, p, q, _, _, _, _, ⟨g0, t0, cs0, f0, p0, q0, hg0, ht0, hv0, hd0, _, _⟩, _⟩, _, _⟩ := h
  obtain rfl := Option.some.inj (gOrder.symm.trans hg0)
  obtain rfl := Option.some.inj (tOrder.symm.trans ht0)
  obtain ⟨xs, m, _, ex, _, hl, hel⟩ := DataW.trod_array Tryz.underlying313 hd0
  have e3 : (xs.map (·.1)) = orderL.map fun n : Nat => (DataW.lit (.int .i64 (n : Int)) : DataW Unit) := (DataW.agg.inj (Prod.mk.inj ex).1).symm
  have hlen : orderL.length = 19 := rfl
  have key : ∀ j, j < 19 → W.cell? ⟨1, j, none⟩ = some (.int .i64 (orderL.getD j 0 : Nat)) := by
    intro r hr
    have hE := hel r hr
    rw [cI3, Nat.mul_one, List.getElem?_eq_getElem (by omega)] at hE
    obtain ⟨z, e1, e2, _⟩ := DataW.trod_int Tryz.underlying3 hE
    have e4 : (xs.map (·.1))[r]? = (orderL.map fun n : Nat => (DataW.lit (.int .i64 (n : Int)) : DataW Unit))[r]? := by rw [e3]
    rw [List.getElem?_map, List.getElem?_map, List.getElem?_eq_getElem (by omega : r < xs.length), List.getElem?_eq_getElem (by omega : r < orderL.length), e2] at e4
    have hz : z = (orderL.getD r 0 : Nat) := by
      simp only [Option.map_some, Option.some.injEq, DataW.lit.injEq, Lit.int.injEq, true_and] at e4
      rw [e4, List.getD, List.getElem?_eq_getElem (by omega : r < orderL.length)]; rfl
    rw [World.var?_cell hg0 hv0 r, ← hz]
    have : cs0.toList[r]? = some (.int .i64 z) := by
      have h0 : ((cs0.toList.drop r).take 1)[0]? = some (.int .i64 z) := by rw [e1]; rfl
      simpa using h0
    simpa using this
  refine ⟨?_, key⟩
  have := key 0 (by omega)
  rcases Nat.lt_or_ge 1 W.heap.size with h | h
  · exact h
  · simp [World.cell?, Array.getElem?_eq_none h] at this
end Go.Proofs.YtndfmgdhiallpaaGreatDoor
