import Derived.Test.YtndfmgdhiallpaaGreatDoorMz
import Derived.Test.YtndfmgdhiallpaaGreatDoorRows
import Derived.WalkKit
import Derived.ProofKit
import Derived.OpenShut
import Derived.LaidMore
import Derived.Stop.Joined
import Derived.Deep.Slices
import Derived.SizedLaws
import Derived.Test.YtndfmgdhiallpaaGreatDoorMr
import Derived.Test.YtndfmgdhiallpaaGreatDoorJi
import Derived.Shelf.Vars
import Derived.ChangeMaps5
namespace Go.Proofs.YtndfmgdhiallpaaGreatDoor
open Go.ChangeShapes Go.WideShapes Go.ChangeAt Go.RowKit
theorem own : ownKnob Tryz.prog.godebug = none := by kernel_rfl
theorem laidOut : laidOutB Tryz.prog = true := by kernel_rfl
theorem gStart : Tryz.prog.globalNamed "valise/digest.startWords" = some 0 := by kernel_rfl
theorem tStart : (Tryz.prog.globals[0]?).map (·.type) = some 181 := by kernel_rfl
theorem cU32 : Tryz.prog.cellsOf 103 = 1 := by kernel_rfl
theorem cA8 : Tryz.prog.cellsOf 181 = 8 := by kernel_rfl
theorem words_of {H : Type} {enc : TypeId × Value → H} {W : World} {fuel : Nat} {cs : List Value} {p : List MemPlace} {sp : Nat → Bool} {hd : Bool} {l : List Int}
 (h : DataW.trod enc Tryz.prog W 0 sp hd fuel 181 cs = some (.agg (l.map fun n => .lit (.int .u32 n)), p)) : cs = l.map fun n => Value.int .u32 n := by
 obtain ⟨xs, m, rfl, hx, hlen, hn, hel⟩ := DataW.trod_array Tryz.underlying181 h
 rw [cA8] at hlen
 rw [cU32] at hel
 simp only [Prod.mk.injEq, DataW.agg.injEq] at hx
 obtain ⟨hx, _⟩ := hx
 have hll : l.length = 8 := by have := congrArg List.length hx; simpa [hn] using this
 apply List.ext_getElem?
 intro i
 by_cases hi : i < 8
 ·have h1 := hel i hi
  have hxi : i < xs.length := by omega
  rw [List.getElem?_eq_getElem hxi] at h1
  obtain ⟨k, e1, e2, _⟩ := DataW.trod_int Tryz.underlying103 h1
  have h2 : (l.map fun n => (DataW.lit (.int .u32 n) : DataW H))[i]? = some (xs[i].1) := by rw [hx]; simp [hxi]
  rw [e2] at h2
  rw [List.getElem?_map, List.getElem?_eq_getElem (by omega : i < l.length)] at h2 ⊢
  simp only [Option.map_some, Option.some.injEq, DataW.lit.injEq, Lit.int.injEq, true_and] at h2
  have h3 : cs[i]? = some (.int .u32 k) := by
   have hi8 : i < cs.length := by omega
   have h4 : (cs.drop (i * 1)).take 1 = [cs[i]] := by rw [Nat.mul_one, List.drop_eq_getElem_cons hi8]; rfl
   rw [h4] at e1
   rw [List.getElem?_eq_getElem hi8]
   simpa using e1
  rw [h3, Option.map_some, h2]
 ·rw [List.getElem?_eq_none (by omega), List.getElem?_eq_none (by simp; omega)]
abbrev laid4 : List (String × DataW Unit) := [("unicode/utf8.acceptRanges", Rows.laid_unicode_utf8_acceptRanges), ("valise/inflate.order", Rows.laid_valise_inflate_order), ("valise/digest.startWords", Rows.laid_valise_digest_startWords), ("unicode/utf8.first", Rows.laid_unicode_utf8_first)]
theorem glob_of {W : World} (h : laidMetH Tryz.prog laid4 W) : Glob W := by
 rw [MakeChecks.laidMetH_plain _ _ _ (by kernel_rfl)] at h
 obtain ⟨ps, ⟨g, t, cs, f, p, q, _, _, _, _, ⟨g0, t0, cs0, f0, p0, q0, hg0, ht0, hv0, hd0, ⟨g1, t1, cs1, f1, p1, q1, hg1, ht1, hv1, hd1, _, _⟩, _⟩, _⟩, _, _⟩ := h
 obtain rfl := Option.some.inj (gStart.symm.trans hg1)
 obtain rfl := Option.some.inj (tStart.symm.trans ht1)
 have hw := words_of (l := [1779033703, 3144134277, 1013904242, 2773480762, 1359893119, 2600822924, 528734635, 1541459225]) hd1
 have hc : cs1 = u8A h0 := by apply Array.ext'; rw [hw]; rfl
 subst hc
 simp only [World.var?, hg1, Option.bind_some] at hv1
 split at hv1
 ·rename_i c t fr hh
  injection hv1 with hv1
  subst hv1
  exact ⟨t, fr, hh⟩
 ·cases hv1
end Go.Proofs.YtndfmgdhiallpaaGreatDoor
namespace Go.Proofs.YtndfmgdhiallpaaGreatDoor
open Go.RowKit
theorem OrdAt.old {w w' : World} (h : OrdAt w) (ho : Old w w') : OrdAt w' := h.kept ho (fun x => x)
def Glob2 (w : World) : Prop := Glob w ∧ OrdAt w
theorem Glob2.old {w w' : World} (h : Glob2 w) (ho : Old w w') : Glob2 w' := ⟨h.1.old ho, h.2.old ho⟩
theorem gOrder : Tryz.prog.globalNamed "valise/inflate.order" = some 1 := by kernel_rfl
theorem tOrder : (Tryz.prog.globals[1]?).map (·.type) = some 313 := by kernel_rfl
theorem cI3 : Tryz.prog.cellsOf 3 = 1 := by kernel_rfl
theorem ord_of {W : World} (h : laidMetH Tryz.prog laid4 W) : OrdAt W := by
 rw [MakeChecks.laidMetH_plain _ _ _ (by kernel_rfl)] at h
 obtain ⟨ps, ⟨g, t, cs, f, p, q, _, _, _, _, ⟨g0, t0, cs0, f0, p0, q0, hg0, ht0, hv0, hd0, _, _⟩, _⟩, _, _⟩ := h
 obtain rfl := Option.some.inj (gOrder.symm.trans hg0)
 obtain rfl := Option.some.inj (tOrder.symm.trans ht0)
 obtain ⟨xs, m, _, ex, _, hl, hel⟩ := DataW.trod_array Tryz.underlying313 hd0
 have e3 : (xs.map (·.1)) = orderL.map fun n : Nat => (DataW.lit (.int .i64 (n : Int)) : DataW Unit) := (DataW.agg.inj (Prod.mk.inj ex).1).symm
 have hlen : orderL.length = 19 := rfl
 have key : ∀ j, j < 19 → W.cell? ⟨1, j, none⟩ = some (.int .i64 (orderL.getD j 0 : Nat)) := by
  intro r hr
  have hE := hel r hr
  rw [cI3, Nat.mul_one, List.getElem?_eq_getElem (by omega)] at hE
  obtain ⟨z, e1, e2, _⟩ := DataW.trod_int Tryz.underlying3 hE
  have e4 : (xs.map (·.1))[r]? = (orderL.map fun n : Nat => (DataW.lit (.int .i64 (n : Int)) : DataW Unit))[r]? := by rw [e3]
  rw [List.getElem?_map, List.getElem?_map, List.getElem?_eq_getElem (by omega : r < xs.length), List.getElem?_eq_getElem (by omega : r < orderL.length), e2] at e4
  have hz : z = (orderL.getD r 0 : Nat) := by
   simp only [Option.map_some, Option.some.injEq, DataW.lit.injEq, Lit.int.injEq, true_and] at e4
   rw [e4, List.getD, List.getElem?_eq_getElem (by omega : r < orderL.length)]; rfl
  rw [World.var?_cell hg0 hv0 r, ← hz]
  have : cs0.toList[r]? = some (.int .i64 z) := by
   have h0 : ((cs0.toList.drop r).take 1)[0]? = some (.int .i64 z) := by rw [e1]; rfl
   simpa using h0
  simpa using this
 refine ⟨?_, key⟩
 have := key 0 (by omega)
 rcases Nat.lt_or_ge 1 W.heap.size with h | h
 ·exact h
 ·simp [World.cell?, Array.getElem?_eq_none h] at this
end Go.Proofs.YtndfmgdhiallpaaGreatDoor
namespace Go.Proofs.YtndfmgdhiallpaaGreatDoor
open Go.ChangeShapes Go.WideShapes Go.ChangeAt Go.RowKit
theorem cOp : Tryz.prog.cellsOf 79 = 7 := by kernel_rfl
theorem cInt : Tryz.prog.cellsOf 3 = 1 := by kernel_rfl
theorem cStr : Tryz.prog.cellsOf 9 = 1 := by kernel_rfl
theorem cTree : Tryz.prog.cellsOf 40 = 1 := by kernel_rfl
end Go.Proofs.YtndfmgdhiallpaaGreatDoor
namespace Go.Proofs.YtndfmgdhiallpaaGreatDoor
open Go.ChangeShapes Go.WideShapes Go.ChangeAt Go.RowKit
theorem max_of {W : World} (h : W.ShapedOpen Tryz.prog) : MaxAt W :=
 cell_of_shapedOpen_int (zero := #[.int .i64 0]) (t := 3) h (of_decide_eq_true (by kernel_rfl)) (by kernel_rfl) rfl (by kernel_rfl) (by kernel_rfl) Tryz.underlying3
end Go.Proofs.YtndfmgdhiallpaaGreatDoor
