import Derived.Test.YtndfmgdhiallpaaDa
import Derived.Deep.QuietTactic
import Derived.BigQuiet
namespace Go.Proofs.Ytndfmgdhiallpaa
open Go.RowKit

set_option maxHeartbeats 400000 in
theorem at_any (b g cap : Nat) (ts : List Th) (q : ByteArray) (w : World) (hm : ts.length ≤ 1000000000000)
    (h0 : w.cell? ⟨b, 0, none⟩ = some (.slice (some ⟨g, 0, none⟩) ts.length cap))
    (hp : ∀ k, k < ts.length → w.cell? ⟨g, k * 3, none⟩ = some (.string (nth ts k).p)) :
    Calls Try.prog 21 #[.pointer (some ⟨b, 0, none⟩), .string q] w fun e w' => e = .returned (.tuple #[.int .i64 (low ts q), .bool (isAt ts q)]) ∧ ∃ n, w' = w.drewN n := by
  go_enter Try.func21, Try.ntmps21
  go_wp2_with fail
  go_quiet (fail)
  go_wp2_with fail
  go_loop [6, 7] (fun x y => ∃ lo hi n : Nat, lo ≤ hi ∧ hi ≤ ts.length ∧ hi - lo ≤ n ∧ x = .int .i64 lo ∧ y = .int .i64 hi ∧ Hid (bs ts q n lo hi = low ts q)) (fun x y => (intOf y).toNat - (intOf x).toNat)
  case atStart => exact ⟨0, ts.length, ts.length, Nat.zero_le _, Nat.le_refl _, Nat.le_refl _, rfl, rfl, rfl⟩
  case round =>
    obtain ⟨lo, hi, n, h1, h2, h3, rfl, rfl, hb⟩ := hrel
    by_cases hlt : lo < hi
    · obtain ⟨n, rfl⟩ : ∃ m, n = m + 1 := ⟨n - 1, by omega⟩
      have hc := hp ((lo + hi) / 2) (by omega)
      go_wp2
      · have hl : Op.bytesLess (nth ts ((lo + hi) / 2)).p.toList q.toList = true := by assumption
        go_round
        case rel => exact ⟨(lo + hi) / 2 + 1, hi, n, by omega, by omega, by omega, by go_num, rfl, (bs_hit hlt hl).symm.trans hb.out⟩
        case measure => simp [intOf]; omega
      · have hl : Op.bytesLess (nth ts ((lo + hi) / 2)).p.toList q.toList = false := by assumption
        go_round
        case rel => exact ⟨lo, (lo + hi) / 2, n, by omega, by omega, by omega, rfl, by go_num, (bs_miss hlt hl).symm.trans hb.out⟩
        case measure => simp [intOf]; omega
    · have hlow : Hid (low ts q = lo) := hb.out.symm.trans (bs_end _ _ _ _ _ (by omega))
      clear hb
      go_wp2_with fail
      by_cases hz : lo < ts.length
      · have hc := hp lo hz
        go_quiet (fail)
        go_wp2
        go_ret2
        exact ⟨ret2_eq (show Value.int .i64 (lo : Int) = _ by rw [hlow.out]) (show Value.bool ((nth ts lo).p.toList == q.toList) = _ by simp [isAt, hlow.out, hz]), _, World.drewN_drewN ..⟩
      · have hd : decide (((lo : Nat) : Int) < (ts.length : Int)) = false := by simp; omega
        go_quiet (fail)
        go_wp2
        go_ret2
        exact ⟨ret2_eq (show Value.int .i64 (lo : Int) = _ by rw [hlow.out]) (show Value.bool false = _ by simp [isAt, hlow.out, hz]), _, World.drewN_drewN ..⟩

set_option maxHeartbeats 400000 in
theorem at_nil (b : Nat) (q : ByteArray) (w : World)
    (h0 : w.cell? ⟨b, 0, none⟩ = some (.slice none 0 0)) :
    Calls Try.prog 21 #[.pointer (some ⟨b, 0, none⟩), .string q] w fun e w' => e = .returned (.tuple #[.int .i64 0, .bool false]) ∧ ∃ n, w' = w.drewN n := by
  go_enter Try.func21, Try.ntmps21
  go_wp2_with fail
  go_quiet (fail)
  go_wp2_with fail
  go_loop [6, 7] (fun x y => x = .int .i64 0 ∧ y = .int .i64 0) (fun x y => 0)
  case atStart => exact ⟨rfl, rfl⟩
  case round =>
    obtain ⟨rfl, rfl⟩ := hrel
    go_wp2_with fail
    go_quiet (fail)
    go_wp2
    go_ret2
    exact ⟨rfl, _, World.drewN_drewN ..⟩
end Go.Proofs.Ytndfmgdhiallpaa
