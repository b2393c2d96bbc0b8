/- Names: the module and the version of the statements, by the code. Names: the prefix of the statements' module, by the code. -/
import Derived.Test.YtndfmgdhiallpaaGreatDoorJa
namespace Go.Proofs.YtndfmgdhiallpaaGreatDoor
open Go.RowKit

abbrev sMod : ByteArray := ⟨#[109, 46, 120, 47, 121]⟩
abbrev sVer : ByteArray := ⟨#[118, 49, 46, 50, 46, 51]⟩
abbrev sPre : ByteArray := ⟨#[109, 46, 120, 47, 121, 64, 118, 49, 46, 50, 46, 51, 47]⟩
/-- The library's bound is some number. -/
def MaxAt (w : World) : Prop := ∃ m : Int, w.cell? ⟨2, 0, none⟩ = some (.int .i64 m)
theorem MaxAt.old {w w' : World} (h : MaxAt w) (ho : Old w w') : MaxAt w' := by
  obtain ⟨m, h⟩ := h
  have hl : 2 < w.heap.size := by
    rcases Nat.lt_or_ge 2 w.heap.size with h1 | h1
    · exact h1
    · simp [World.cell?, Array.getElem?_eq_none h1] at h
  exact ⟨m, by rw [ho.cell (p := ⟨2, 0, none⟩) hl (fun x => x)]; exact h⟩
theorem isNum49 (w : World) : Calls Tryz.prog 164 #[.string ⟨#[49]⟩] w fun r w' => r = .returned (.bool true) ∧ w' = w := by
  have H1 := hide (onlyDig ⟨#[49]⟩ (by decide) w)
  have e : onlyB dgtB ⟨#[49]⟩ = true := by decide
  rw [e] at H1
  go_enter Tryz.func164, Tryz.ntmps164
  go_wp2_with fail
  refine (unhide H1).mono ?_
  rintro e w' ⟨rfl, rfl⟩
  go_wp2_with fail
  go_ret
  exact ⟨rfl, rfl⟩
theorem isNum50 (w : World) : Calls Tryz.prog 164 #[.string ⟨#[50]⟩] w fun r w' => r = .returned (.bool true) ∧ w' = w := by
  have H1 := hide (onlyDig ⟨#[50]⟩ (by decide) w)
  have e : onlyB dgtB ⟨#[50]⟩ = true := by decide
  rw [e] at H1
  go_enter Tryz.func164, Tryz.ntmps164
  go_wp2_with fail
  refine (unhide H1).mono ?_
  rintro e w' ⟨rfl, rfl⟩
  go_wp2_with fail
  go_ret
  exact ⟨rfl, rfl⟩
theorem isNum51 (w : World) : Calls Tryz.prog 164 #[.string ⟨#[51]⟩] w fun r w' => r = .returned (.bool true) ∧ w' = w := by
  have H1 := hide (onlyDig ⟨#[51]⟩ (by decide) w)
  have e : onlyB dgtB ⟨#[51]⟩ = true := by decide
  rw [e] at H1
  go_enter Tryz.func164, Tryz.ntmps164
  go_wp2_with fail
  refine (unhide H1).mono ?_
  rintro e w' ⟨rfl, rfl⟩
  go_wp2_with fail
  go_ret
  exact ⟨rfl, rfl⟩
set_option maxRecDepth 100000 in
set_option maxHeartbeats 1000000 in
theorem majorC (w : World) (hm : MaxAt w) : Calls Tryz.prog 85 #[.string sVer] w fun r w' => r = .returned (.tuple #[.string ⟨#[49]⟩, .bool true]) ∧ Old w w' := by
  have H1 := hide (Tryz.strings_CutPrefix sVer ⟨#[118]⟩ w)
  have e1 : (⟨(Lib.trimPrefix sVer.data.toList (⟨#[118]⟩ : ByteArray).data.toList).toArray⟩ : ByteArray) = ⟨#[49, 46, 50, 46, 51]⟩ := by decide
  have e2 : Lib.hasPrefix sVer.data.toList (⟨#[118]⟩ : ByteArray).data.toList = true := by decide
  rw [e1, e2] at H1
  obtain ⟨m, hm⟩ := hm
  have H2 := hide (Tryz.strings_Cut ⟨#[49, 46, 50, 46, 51]⟩ ⟨#[45]⟩ m w (by decide) hm)
  have e3 : Lib.cut (⟨#[49, 46, 50, 46, 51]⟩ : ByteArray).data.toList (⟨#[45]⟩ : ByteArray).data.toList = ([49, 46, 50, 46, 51], [], false) := by decide
  rw [e3] at H2
  have H3 := hide (fun n => Tryz.strings_Split ⟨#[49, 46, 50, 46, 51]⟩ ⟨#[46]⟩ m (w.drewN n) (by decide) hm (by decide))
  have e4 : Lib.countB ⟨#[49, 46, 50, 46, 51]⟩ ⟨#[46]⟩ = 2 := by decide
  have e5 : ((Lib.splitB ⟨#[46]⟩ 0 2 ⟨#[49, 46, 50, 46, 51]⟩).map Value.string).toArray = #[.string ⟨#[49]⟩, .string ⟨#[50]⟩, .string ⟨#[51]⟩] := by rfl
  simp only [e4, e5] at H3
  go_enter Tryz.func85, Tryz.ntmps85
  go_wp2_with fail
  refine (unhide H1).mono ?_
  rintro e w1 ⟨rfl, rfl⟩
  go_wp2_with fail
  refine (unhide H2).mono ?_
  rintro e w2 ⟨rfl, n, rfl⟩
  go_wp2_with fail
  refine (unhide H3 n).mono ?_
  rintro e w3 ⟨rfl, rfl⟩
  clear H1 H2 H3
  have HO : Hid (Old w1 ((w1.drewN n).alloc (.cells #[.string ⟨#[49]⟩, .string ⟨#[50]⟩, .string ⟨#[51]⟩] 9))) := ((Only.refl _ w1).drewN n).alloc _
  have hc0 : ((w1.drewN n).alloc (.cells #[.string ⟨#[49]⟩, .string ⟨#[50]⟩, .string ⟨#[51]⟩] 9)).cell? ⟨(w1.drewN n).heap.size, 0, none⟩ = some (.string ⟨#[49]⟩) := by rw [cell_of_row _ _ 0 _ _ (0, 0) (Go.heap_alloc_new _ _)]; rfl
  have hc1 : ((w1.drewN n).alloc (.cells #[.string ⟨#[49]⟩, .string ⟨#[50]⟩, .string ⟨#[51]⟩] 9)).cell? ⟨(w1.drewN n).heap.size, 1, none⟩ = some (.string ⟨#[50]⟩) := by rw [cell_of_row _ _ 1 _ _ (0, 0) (Go.heap_alloc_new _ _)]; rfl
  have hc2 : ((w1.drewN n).alloc (.cells #[.string ⟨#[49]⟩, .string ⟨#[50]⟩, .string ⟨#[51]⟩] 9)).cell? ⟨(w1.drewN n).heap.size, 2, none⟩ = some (.string ⟨#[51]⟩) := by rw [cell_of_row _ _ 2 _ _ (0, 0) (Go.heap_alloc_new _ _)]; rfl
  generalize (w1.drewN n).alloc (.cells #[.string ⟨#[49]⟩, .string ⟨#[50]⟩, .string ⟨#[51]⟩] 9) = W at *
  generalize (w1.drewN n).heap.size = gW at *
  go_wp2_with fail
  go_loop [10, 37] (fun _ x => ∃ i : Nat, i ≤ 3 ∧ x = .int .i64 i) (fun _ x => 3 - (intOf x).toNat)
  case atStart => exact ⟨0, by omega, rfl⟩
  case round =>
    obtain ⟨i, hi, rfl⟩ := hrel
    have hcs : i = 0 ∨ i = 1 ∨ i = 2 ∨ i = 3 := by omega
    rcases hcs with rfl | rfl | rfl | rfl
    · go_wp2_with fail
      refine (isNum49 _).mono ?_
      rintro e w' ⟨rfl, rfl⟩
      go_wp2_with fail
      go_round
      case rel => exact ⟨1, by omega, by go_num⟩
      case measure => simp [intOf]
    · go_wp2_with fail
      refine (isNum50 _).mono ?_
      rintro e w' ⟨rfl, rfl⟩
      go_wp2_with fail
      go_round
      case rel => exact ⟨2, by omega, by go_num⟩
      case measure => simp [intOf]
    · go_wp2_with fail
      refine (isNum51 _).mono ?_
      rintro e w' ⟨rfl, rfl⟩
      go_wp2_with fail
      go_round
      case rel => exact ⟨3, by omega, by go_num⟩
      case measure => simp [intOf]
    · go_wp2_with fail
      go_ret2
      exact ⟨rfl, HO⟩
end Go.Proofs.YtndfmgdhiallpaaGreatDoor
namespace Go.Proofs.YtndfmgdhiallpaaGreatDoor
open Go.RowKit

set_option maxRecDepth 100000 in
set_option maxHeartbeats 400000 in
theorem modElem1 (w : World) : Calls Tryz.prog 165 #[.string ⟨#[109, 46, 120]⟩] w fun r w' => r = .returned (.bool true) ∧ w' = w := by
  have H1 := hide (onlyMod ⟨#[109, 46, 120]⟩ (by decide) w)
  have e : onlyB modB ⟨#[109, 46, 120]⟩ = true := by decide
  rw [e] at H1
  have H2 := hide (Tryz.strings_HasPrefix ⟨#[109, 46, 120]⟩ ⟨#[46]⟩ w)
  have e2 : Lib.hasPrefix (⟨#[109, 46, 120]⟩ : ByteArray).data.toList (⟨#[46]⟩ : ByteArray).data.toList = false := by decide
  rw [e2] at H2
  have H3 := hide (Tryz.strings_HasSuffix ⟨#[109, 46, 120]⟩ ⟨#[46]⟩ w (by decide))
  have e3 : Lib.hasSuffix (⟨#[109, 46, 120]⟩ : ByteArray).data.toList (⟨#[46]⟩ : ByteArray).data.toList = false := by decide
  rw [e3] at H3
  go_enter Tryz.func165, Tryz.ntmps165
  go_wp2_with fail
  refine (unhide H1).mono ?_
  rintro e w1 ⟨rfl, rfl⟩
  go_wp2_with fail
  refine (unhide H2).mono ?_
  rintro e w2 ⟨rfl, rfl⟩
  go_wp2_with fail
  refine (unhide H3).mono ?_
  rintro e w3 ⟨rfl, rfl⟩
  go_wp2_with fail
  go_ret
  exact ⟨rfl, rfl⟩
set_option maxRecDepth 100000 in
set_option maxHeartbeats 400000 in
theorem modElem2 (w : World) : Calls Tryz.prog 165 #[.string ⟨#[121]⟩] w fun r w' => r = .returned (.bool true) ∧ w' = w := by
  have H1 := hide (onlyMod ⟨#[121]⟩ (by decide) w)
  have e : onlyB modB ⟨#[121]⟩ = true := by decide
  rw [e] at H1
  have H2 := hide (Tryz.strings_HasPrefix ⟨#[121]⟩ ⟨#[46]⟩ w)
  have e2 : Lib.hasPrefix (⟨#[121]⟩ : ByteArray).data.toList (⟨#[46]⟩ : ByteArray).data.toList = false := by decide
  rw [e2] at H2
  have H3 := hide (Tryz.strings_HasSuffix ⟨#[121]⟩ ⟨#[46]⟩ w (by decide))
  have e3 : Lib.hasSuffix (⟨#[121]⟩ : ByteArray).data.toList (⟨#[46]⟩ : ByteArray).data.toList = false := by decide
  rw [e3] at H3
  go_enter Tryz.func165, Tryz.ntmps165
  go_wp2_with fail
  refine (unhide H1).mono ?_
  rintro e w1 ⟨rfl, rfl⟩
  go_wp2_with fail
  refine (unhide H2).mono ?_
  rintro e w2 ⟨rfl, rfl⟩
  go_wp2_with fail
  refine (unhide H3).mono ?_
  rintro e w3 ⟨rfl, rfl⟩
  go_wp2_with fail
  go_ret
  exact ⟨rfl, rfl⟩
set_option maxRecDepth 100000 in
set_option maxHeartbeats 1000000 in
theorem moduleC (w : World) (hm : MaxAt w) : Calls Tryz.prog 86 #[.string sMod] w fun r w' => r = .returned (.bool true) ∧ Old w w' := by
  obtain ⟨m, hm⟩ := hm
  have H3 := hide (Tryz.strings_Split sMod ⟨#[47]⟩ m w (by decide) hm (by decide))
  have e4 : Lib.countB sMod ⟨#[47]⟩ = 1 := by decide
  have e5 : ((Lib.splitB ⟨#[47]⟩ 0 1 sMod).map Value.string).toArray = #[.string ⟨#[109, 46, 120]⟩, .string ⟨#[121]⟩] := by rfl
  simp only [e4, e5] at H3
  have H4 := hide (fun W => Tryz.strings_Contains_one ⟨#[109, 46, 120]⟩ 46 W)
  have e6 : decide (0 ≤ Lib.indexByte (⟨#[109, 46, 120]⟩ : ByteArray).data.toList 46) = true := by decide
  rw [e6] at H4
  clear e6 e5 e4 hm
  go_enter Tryz.func86, Tryz.ntmps86
  go_wp2_with fail
  refine (unhide H3).mono ?_
  rintro e w3 ⟨rfl, rfl⟩
  have HO : Hid (Old w (w.alloc (.cells #[.string ⟨#[109, 46, 120]⟩, .string ⟨#[121]⟩] 9))) := (Only.refl _ w).alloc _
  have hc0 : (w.alloc (.cells #[.string ⟨#[109, 46, 120]⟩, .string ⟨#[121]⟩] 9)).cell? ⟨w.heap.size, 0, none⟩ = some (.string ⟨#[109, 46, 120]⟩) := by rw [cell_of_row _ _ 0 _ _ (0, 0) (Go.heap_alloc_new _ _)]; rfl
  have hc1 : (w.alloc (.cells #[.string ⟨#[109, 46, 120]⟩, .string ⟨#[121]⟩] 9)).cell? ⟨w.heap.size, 1, none⟩ = some (.string ⟨#[121]⟩) := by rw [cell_of_row _ _ 1 _ _ (0, 0) (Go.heap_alloc_new _ _)]; rfl
  clear H3
  generalize w.alloc (.cells #[.string ⟨#[109, 46, 120]⟩, .string ⟨#[121]⟩] 9) = W at *
  generalize w.heap.size = gW at *
  go_wp2_with fail
  go_loop [5, 13] (fun _ x => ∃ i : Nat, i ≤ 2 ∧ x = .int .i64 i) (fun _ x => 2 - (intOf x).toNat)
  case atStart => exact ⟨0, by omega, rfl⟩
  case round =>
    obtain ⟨i, hi, rfl⟩ := hrel
    have hcs : i = 0 ∨ i = 1 ∨ i = 2 := by omega
    rcases hcs with rfl | rfl | rfl
    · go_wp2_with fail
      refine (modElem1 _).mono ?_
      rintro e w' ⟨rfl, rfl⟩
      go_wp2_with fail
      go_round
      case rel => exact ⟨1, by omega, by go_num⟩
      case measure => simp [intOf]
    · go_wp2_with fail
      refine (modElem2 _).mono ?_
      rintro e w' ⟨rfl, rfl⟩
      go_wp2_with fail
      go_round
      case rel => exact ⟨2, by omega, by go_num⟩
      case measure => simp [intOf]
    · go_wp2_with fail
      refine (unhide H4 _).mono ?_
      rintro e w' ⟨rfl, rfl⟩
      go_wp2_with fail
      go_ret
      exact ⟨rfl, HO⟩
set_option maxRecDepth 100000 in
set_option maxHeartbeats 400000 in
theorem endsC (w : World) : Calls Tryz.prog 87 #[.string sMod, .string ⟨#[49]⟩] w fun r w' => r = .returned (.bool true) ∧ w' = w := by
  have H1 := hide (Tryz.strings_LastIndexByte sMod 47 (by decide) w)
  have e1 : Lib.lastIndexByte sMod 47 = 3 := by decide
  rw [e1] at H1
  have H2 : Hid (Calls Tryz.prog 168 #[.string ⟨#[121]⟩] w fun r w' => r = .returned (.bool false) ∧ w' = w) := by
    unfold Hid
    have H2 := hide (Tryz.strings_CutPrefix ⟨#[121]⟩ ⟨#[118]⟩ w)
    have e2 : Lib.hasPrefix (⟨#[121]⟩ : ByteArray).data.toList (⟨#[118]⟩ : ByteArray).data.toList = false := by decide
    rw [e2] at H2
    go_enter Tryz.func168, Tryz.ntmps168
    go_wp2_with fail
    refine (unhide H2).mono ?_
    rintro e w1 ⟨rfl, rfl⟩
    go_wp2_with fail
    go_ret
    exact ⟨rfl, rfl⟩
  have hsl : ∀ W, (Instr.slice 9 (.string sMod) (some (.int .i64 4)) none none).run Tryz.prog W = .ok (.string ⟨#[121]⟩) W := fun W => by
    simp only [Instr.slice, Sem.run_bind, run_underlying Tryz.underlying9, Result.andThen_ok, Instr.sliceBounds, Instr.sliceBound, asIntOf, Sem.run_pure, Option.isSome_none, Bool.false_eq_true, if_false]
    rfl
  go_enter Tryz.func87, Tryz.ntmps87
  go_wp2_with fail
  refine (unhide H1).mono ?_
  rintro e w1 ⟨rfl, rfl⟩
  go_wp2_with fail
  refine (unhide H2).mono ?_
  rintro e w2 ⟨rfl, rfl⟩
  go_wp2_with fail
  go_ret
  exact ⟨rfl, rfl⟩
set_option maxRecDepth 100000 in
set_option maxHeartbeats 400000 in
theorem prefixC (w : World) (hm : MaxAt w) : Calls Tryz.prog 45 #[.string sMod, .string sVer] w fun r w' => r = .returned (.tuple #[.string sPre, .bool true]) ∧ Old w w' := by
  have H1 := hide (majorC w hm)
  have HM := hide hm
  clear hm
  go_enter Tryz.func45, Tryz.ntmps45
  go_wp2_with fail
  refine (unhide H1).mono ?_
  rintro e w1 ⟨rfl, ho1⟩
  have H2 := hide (moduleC w1 ((unhide HM).old ho1))
  have HO1 := hide ho1
  clear H1 ho1
  go_wp2_with fail
  refine (unhide H2).mono ?_
  rintro e w2 ⟨rfl, ho2⟩
  have HO2 := hide (Only.trans (unhide HO1) ho2)
  clear H2 ho2 HO1
  go_wp2_with fail
  refine (endsC w2).mono ?_
  rintro e w3 ⟨rfl, rfl⟩
  go_wp2_with fail
  go_ret2
  exact ⟨rfl, HO2⟩
end Go.Proofs.YtndfmgdhiallpaaGreatDoor
