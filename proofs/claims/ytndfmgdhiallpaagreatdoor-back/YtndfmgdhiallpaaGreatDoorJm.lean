/- The statements' example is answered, by the code. The law of whole data: its walk. -/
import Derived.Test.YtndfmgdhiallpaaGreatDoorJk
import Derived.Test.YtndfmgdhiallpaaGreatDoorMd
import Derived.Test.YtndfmgdhiallpaaGreatDoorMr
namespace Go.Proofs.YtndfmgdhiallpaaGreatDoor
open Go.RowKit Go.Maps

abbrev sNine : ByteArray := ⟨#[49, 50, 51, 52, 53, 54, 55, 56, 57]⟩
abbrev sAbc : ByteArray := ⟨#[97, 98, 99]⟩
abbrev sRaw : ByteArray := ⟨#[1, 2, 0, 253, 255, 72, 105]⟩
abbrev sDig : ByteArray := ⟨#[98, 97, 55, 56, 49, 54, 98, 102, 56, 102, 48, 49, 99, 102, 101, 97, 52, 49, 52, 49, 52, 48, 100, 101, 53, 100, 97, 101, 50, 50, 50, 51, 98, 48, 48, 51, 54, 49, 97, 51, 57, 54, 49, 55, 55, 97, 57, 99, 98, 52, 49, 48, 102, 102, 54, 49, 102, 50, 48, 48, 49, 53, 97, 100]⟩
theorem nineX : checkOf sNine = 3421780262 := by kernel_rfl
theorem rawX : inflate sRaw = (⟨#[72, 105]⟩, 7, 0) := by kernel_rfl
theorem abcX : digestOf sAbc = sDig := by kernel_rfl
/-- What the code's globals hold, for the example. -/
def Awk (w : World) : Prop := MaxAt w ∧ OrdAt w ∧ Glob w
theorem Awk.old {w w' : World} (h : Awk w) (ho : Old w w') : Awk w' := ⟨h.1.old ho, h.2.1.kept ho (fun x => x), h.2.2.old ho⟩
set_option maxRecDepth 100000 in
set_option maxHeartbeats 4000000 in
theorem awakeX (w : World) (hw : Awk w) : Calls Tryz.prog 15 #[] w fun r w' => r = .returned (.bool true) ∧ Old w w' := by
  have H1 := hide (valiseCheck_any sNine w (by decide))
  have H2 := hide (valiseDigest_any sAbc (by decide) w hw.2.2)
  have H3 := hide (fun W (h : Awk W) => valiseInflate_any sRaw (by decide) W h.2.1)
  have H4 := hide (fun gt W (h : Awk W) => vPackX gt W h.1)
  have H5 := hide (fun W (h : Awk W) => vUnpackX W h.1)
  rw [nineX] at H1
  rw [abcX] at H2
  rw [rawX] at H3
  generalize arcX = z at *
  have HW := hide hw
  clear hw
  go_enter Tryz.func15, Tryz.ntmps15
  go_wp2_with fail
  refine (unhide H1).mono ?_
  rintro r w1 ⟨rfl, rfl⟩
  go_wp2_with fail
  refine (unhide H2).mono ?_
  rintro r w2 ⟨rfl, ho2⟩
  have HW2 := hide ((unhide HW).old ho2)
  have HO2 := hide ho2
  clear ho2 H1 H2 HW
  go_wp2_with fail
  refine (unhide H3 w2 (unhide HW2)).mono ?_
  rintro r w3 ⟨rfl, ho3⟩
  have HW3 := hide ((unhide HW2).old ho3)
  have HO3 := hide (Only.trans (unhide HO2) ho3)
  clear ho3 H3 HW2 HO2
  have hA : Old w3 (w3.alloc (.cells #[.string sX, .bool false, .string sY] 39)) := (Only.refl _ w3).alloc _
  have HE : Hid (EnAt (w3.alloc (.cells #[.string sX, .bool false, .string sY] 39)) w3.heap.size) := ⟨by rw [World.size_alloc]; omega, by rw [cell_of_row _ _ 0 _ _ (0, 0) (Go.heap_alloc_new _ _)]; rfl, by rw [cell_of_row _ _ 1 _ _ (0, 0) (Go.heap_alloc_new _ _)]; rfl, by rw [cell_of_row _ _ 2 _ _ (0, 0) (Go.heap_alloc_new _ _)]; rfl⟩
  have HW4 := hide ((unhide HW3).old hA)
  have HO4 := hide (Only.trans (unhide HO3) hA)
  have H6 := hide (unhide H4 _ _ (unhide HW4) (unhide HE))
  clear hA H4
  go_wp2_with fail
  refine (unhide H6).mono ?_
  rintro r w5 ⟨ho5, rfl⟩
  have HW5 := hide ((unhide HW4).old ho5)
  have HO5 := hide (Only.trans (unhide HO4) ho5)
  clear ho5 H6 HW4 HO4 HW3 HO3 HE
  go_wp2_with fail
  refine (unhide H5 w5 (unhide HW5)).mono ?_
  rintro r w6 ⟨ho6, u, rfl, cap, hown, g, rfl⟩
  have HO6 := hide (Only.trans (unhide HO5) ho6)
  have hcl := hown.cells (g := g) rfl
  have c0 : w6.cell? ⟨g, 0, none⟩ = some (.string sX) := hcl 0 _ rfl
  have c1 : w6.cell? ⟨g, 1, none⟩ = some (.string sY) := hcl 1 _ rfl
  clear ho6 H5 HW5 HO5 hcl hown
  go_wp2_with fail
  go_ret
  exact ⟨rfl, HO6⟩
end Go.Proofs.YtndfmgdhiallpaaGreatDoor
namespace Go.Proofs.YtndfmgdhiallpaaGreatDoor
open Go.RowKit Go.Maps

set_option maxRecDepth 100000 in
set_option maxHeartbeats 400000 in
theorem kpick_any (c : Int) (hc1 : -9223372036854775808 ≤ c) (hc2 : c ≤ 9223372036854775807) (n : Nat) (hn : 0 < n) (hn2 : n ≤ 9223372036854775807) (w : World) :
    Calls Tryz.prog 18 #[.int .i64 c, .int .i64 n] w fun r w' => r = .returned (.int .i64 (pickN c n)) ∧ w' = w := by
  have hn0 : ¬ (n : Int) = 0 := by omega
  have hn1 : ((n : Int) == 0) = false := by rw [beq_eq_false_iff_ne]; omega
  by_cases h : c < 0
  · have hw : IntKind.i64.wrap (c + 1) = c + 1 := by rw [IntKind.wrap_i64]; omega
    have hw2 : IntKind.i64.wrap (-(c + 1)) = -(c + 1) := by rw [IntKind.wrap_i64]; omega
    have hm0 : 0 ≤ -(c + 1) := by omega
    have e1 : (-(c + 1)).tmod (n : Int) = ((pickN c n : Nat) : Int) := by
      rw [Int.tmod_eq_emod_of_nonneg hm0]; unfold pickN; rw [if_pos h]
      have := Int.emod_nonneg (-(c + 1)) (show (n : Int) ≠ 0 by omega); omega
    have hlt := pickN_lt c hn
    have hw3 : IntKind.i64.wrap ((pickN c n : Nat) : Int) = ((pickN c n : Nat) : Int) := i64_wrap_nat _ (by omega)
    have HP := hide e1
    generalize pickN c n = p at *
    go_enter Tryz.func18, Tryz.ntmps18
    go_wp2_with fail
    go_ret
    refine ⟨?_, rfl⟩
    congr 2
  · have e1 : c.tmod (n : Int) = ((pickN c n : Nat) : Int) := by
      rw [Int.tmod_eq_emod_of_nonneg (by omega)]; unfold pickN; rw [if_neg h]
      have := Int.emod_nonneg c (show (n : Int) ≠ 0 by omega); omega
    have hlt := pickN_lt c hn
    have hw3 : IntKind.i64.wrap ((pickN c n : Nat) : Int) = ((pickN c n : Nat) : Int) := i64_wrap_nat _ (by omega)
    have HP := hide e1
    generalize pickN c n = p at *
    go_enter Tryz.func18, Tryz.ntmps18
    go_wp2_with fail
    go_ret
    refine ⟨?_, rfl⟩
    congr 2

end Go.Proofs.YtndfmgdhiallpaaGreatDoor
