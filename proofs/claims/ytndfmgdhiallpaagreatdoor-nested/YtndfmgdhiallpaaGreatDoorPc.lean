/- What the row hands over: the script, the start words. -/
import Derived.Test.YtndfmgdhiallpaaGreatDoorPb
import Derived.Test.YtndfmgdhiallpaaGreatDoorRows
import Derived.WalkKit
import Derived.ProofKit
import Derived.OpenShut
import Derived.LaidMore
import Derived.Stop.Joined
import Derived.Deep.Slices
import Derived.SizedLaws
namespace Go.Proofs.YtndfmgdhiallpaaGreatDoor
open Go.ChangeShapes Go.WideShapes Go.ChangeAt Go.RowKit

theorem own : ownKnob Tryz.prog.godebug = none := by kernel_rfl
theorem gStart : Tryz.prog.globalNamed "valise/digest.startWords" = some 0 := by kernel_rfl
theorem tStart : (Tryz.prog.globals[0]?).map (·.type) = some 181 := by kernel_rfl
theorem cU32 : Tryz.prog.cellsOf 103 = 1 := by kernel_rfl
theorem cA8 : Tryz.prog.cellsOf 181 = 8 := by kernel_rfl

/-- A listed array of words reads as what it holds. -/
theorem words_of {H : Type} {enc : TypeId × Value → H} {W : World} {fuel : Nat} {cs : List Value} {p : List MemPlace} {sp : Nat → Bool} {hd : Bool} {l : List Int}
    (h : DataW.trod enc Tryz.prog W 0 sp hd fuel 181 cs = some (.agg (l.map fun n => .lit (.int .u32 n)), p)) : cs = l.map fun n => Value.int .u32 n := by
  obtain ⟨xs, m, rfl, hx, hlen, hn, hel⟩ := DataW.trod_array Tryz.underlying181 h
  rw [cA8] at hlen
  rw [cU32] at hel
  simp only [Prod.mk.injEq, DataW.agg.injEq] at hx
  obtain ⟨hx, _⟩ := hx
  have hll : l.length = 8 := by have := congrArg List.length hx; simpa [hn] using this
  apply List.ext_getElem?
  intro i
  by_cases hi : i < 8
  · have h1 := hel i hi
    have hxi : i < xs.length := by omega
    rw [List.getElem?_eq_getElem hxi] at h1
    obtain ⟨k, e1, e2, _⟩ := DataW.trod_int Tryz.underlying103 h1
    have h2 : (l.map fun n => (DataW.lit (.int .u32 n) : DataW H))[i]? = some (xs[i].1) := by rw [hx]; simp [hxi]
    rw [e2] at h2
    rw [List.getElem?_map, List.getElem?_eq_getElem (by omega : i < l.length)] at h2 ⊢
    simp only [Option.map_some, Option.some.injEq, DataW.lit.injEq, Lit.int.injEq, true_and] at h2
    have h3 : cs[i]? = some (.int .u32 k) := by
      have hi8 : i < cs.length := by omega
      have h4 : (cs.drop (i * 1)).take 1 = [cs[i]] := by rw [Nat.mul_one, List.drop_eq_getElem_cons hi8]; rfl
      rw [h4] at e1
      rw [List.getElem?_eq_getElem hi8]
      simpa using e1
    rw [h3, Option.map_some, h2]
  · rw [List.getElem?_eq_none (by omega), List.getElem?_eq_none (by simp; omega)]

abbrev laid4 : List (String × DataW Unit) := [("unicode/utf8.acceptRanges", Rows.laid_unicode_utf8_acceptRanges), ("valise/inflate.order", Rows.laid_valise_inflate_order), ("valise/digest.startWords", Rows.laid_valise_digest_startWords), ("unicode/utf8.first", Rows.laid_unicode_utf8_first)]
theorem glob_of {W : World} (h : laidMetH Tryz.prog laid4 W) : Glob W := by
  rw [MakeChecks.laidMetH_plain _ _ _ (by kernel_rfl)] at h
  obtain ⟨ps, ⟨g, t, cs, f, p, q, _, _, _, _, ⟨g0, t0, cs0, f0, p0, q0, hg0, ht0, hv0, hd0, ⟨g1, t1, cs1, f1, p1, q1, hg1, ht1, hv1, hd1, _, _⟩, _⟩, _⟩, _, _⟩ := h
  obtain rfl := Option.some.inj (gStart.symm.trans hg1)
  obtain rfl := Option.some.inj (tStart.symm.trans ht1)
  have hw := words_of (l := [1779033703, 3144134277, 1013904242, 2773480762, 1359893119, 2600822924, 528734635, 1541459225]) hd1
  have hc : cs1 = u8A h0 := by apply Array.ext'; rw [hw]; rfl
  subst hc
  simp only [World.var?, hg1, Option.bind_some] at hv1
  split at hv1
  · rename_i c t fr hh
    injection hv1 with hv1
    subst hv1
    exact ⟨t, fr, hh⟩
  · cases hv1
end Go.Proofs.YtndfmgdhiallpaaGreatDoor
