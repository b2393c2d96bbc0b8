/- The law of packed bytes: its steps. -/
import Derived.Test.YtndfmgdhiallpaaGreatDoorMr
import Derived.Test.YtndfmgdhiallpaaGreatDoorPc
namespace Go.Proofs.YtndfmgdhiallpaaGreatDoor
open Go.RowKit

theorem gOrder : Tryz.prog.globalNamed "valise/inflate.order" = some 1 := by kernel_rfl
theorem tOrder : (Tryz.prog.globals[1]?).map (·.type) = some 313 := by kernel_rfl
theorem cI3 : Tryz.prog.cellsOf 3 = 1 := by kernel_rfl
theorem ord_of {W : World} (h : laidMetH Tryz.prog laid4 W) : OrdAt W := by
  rw [MakeChecks.laidMetH_plain _ _ _ (by kernel_rfl)] at h
  obtain ⟨ps, ⟨g, t, cs, f, p, q, _, _, _, _, ⟨g0, t0, cs0, f0, p0, q0, hg0, ht0, hv0, hd0, _, _⟩, _⟩, _, _⟩ := h
  obtain rfl := Option.some.inj (gOrder.symm.trans hg0)
  obtain rfl := Option.some.inj (tOrder.symm.trans ht0)
  obtain ⟨xs, m, _, ex, _, hl, hel⟩ := DataW.trod_array Tryz.underlying313 hd0
  have e3 : (xs.map (·.1)) = orderL.map fun n : Nat => (DataW.lit (.int .i64 (n : Int)) : DataW Unit) := (DataW.agg.inj (Prod.mk.inj ex).1).symm
  have hlen : orderL.length = 19 := rfl
  have key : ∀ j, j < 19 → W.cell? ⟨1, j, none⟩ = some (.int .i64 (orderL.getD j 0 : Nat)) := by
    intro r hr
    have hE := hel r hr
    rw [cI3, Nat.mul_one, List.getElem?_eq_getElem (by omega)] at hE
    obtain ⟨z, e1, e2, _⟩ := DataW.trod_int Tryz.underlying3 hE
    have e4 : (xs.map (·.1))[r]? = (orderL.map fun n : Nat => (DataW.lit (.int .i64 (n : Int)) : DataW Unit))[r]? := by rw [e3]
    rw [List.getElem?_map, List.getElem?_map, List.getElem?_eq_getElem (by omega : r < xs.length), List.getElem?_eq_getElem (by omega : r < orderL.length), e2] at e4
    have hz : z = (orderL.getD r 0 : Nat) := by
      simp only [Option.map_some, Option.some.injEq, DataW.lit.injEq, Lit.int.injEq, true_and] at e4
      rw [e4, List.getD, List.getElem?_eq_getElem (by omega : r < orderL.length)]; rfl
    rw [World.var?_cell hg0 hv0 r, ← hz]
    have : cs0.toList[r]? = some (.int .i64 z) := by
      have h0 : ((cs0.toList.drop r).take 1)[0]? = some (.int .i64 z) := by rw [e1]; rfl
      simpa using h0
    simpa using this
  refine ⟨?_, key⟩
  have := key 0 (by omega)
  rcases Nat.lt_or_ge 1 W.heap.size with h | h
  · exact h
  · simp [World.cell?, Array.getElem?_eq_none h] at this
end Go.Proofs.YtndfmgdhiallpaaGreatDoor
