/- Contracts of package disk: parent, within. -/
import Derived.Test.YtndfmgdhiallpaaDa
import Derived.Deep.QuietTactic
import Derived.BigQuiet
namespace Go.Proofs.Ytndfmgdhiallpaa
open Go.RowKit

def par (s : ByteArray) : Nat → Nat → Nat → ByteArray → Option ByteArray
  | 0, _, _, up => some up
  | n + 1, i, fr, up =>
    if h : i < s.size then
      (if s[i].toNat = 47 then (if i = fr then none else par s n (i + 1) (i + 1) (s.extract 0 i)) else par s n (i + 1) fr up)
    else if i = fr then none else some up

theorem par_sl_no {s : ByteArray} {n i fr : Nat} {up : ByteArray} (h : i < s.size) (h1 : s[i].toNat = 47) (h2 : i = fr) : par s (n + 1) i fr up = none := by
  rw [par, dif_pos h, if_pos h1, if_pos h2]
theorem par_sl {s : ByteArray} {n i fr : Nat} {up : ByteArray} (h : i < s.size) (h1 : s[i].toNat = 47) (h2 : ¬ i = fr) : par s (n + 1) i fr up = par s n (i + 1) (i + 1) (s.extract 0 i) := by
  rw [par, dif_pos h, if_pos h1, if_neg h2]
theorem par_no {s : ByteArray} {n i fr : Nat} {up : ByteArray} (h : i < s.size) (h1 : ¬ s[i].toNat = 47) : par s (n + 1) i fr up = par s n (i + 1) fr up := by
  rw [par, dif_pos h, if_neg h1]
theorem par_end_no {s : ByteArray} {n i fr : Nat} {up : ByteArray} (h : ¬ i < s.size) (h2 : i = fr) : par s (n + 1) i fr up = none := by
  rw [par, dif_neg h, if_pos h2]
theorem par_end {s : ByteArray} {n i fr : Nat} {up : ByteArray} (h : ¬ i < s.size) (h2 : ¬ i = fr) : par s (n + 1) i fr up = some up := by
  rw [par, dif_neg h, if_neg h2]

def parentOf (s : ByteArray) : Option ByteArray := par s (s.size + 1) 0 0 ⟨#[]⟩
def upOf (s : ByteArray) : ByteArray := (parentOf s).getD ⟨#[]⟩
theorem upOf_none {s : ByteArray} (h : parentOf s = none) : upOf s = ⟨#[]⟩ := by simp [upOf, h]
theorem upOf_some {s u : ByteArray} (h : parentOf s = some u) : upOf s = u := by simp [upOf, h]

set_option maxHeartbeats 400000 in
theorem parent_any (s : ByteArray) (w : World) (hs : s.size ≤ 1000000000000) :
    Calls Try.prog 22 #[.string s] w fun e w' => e = .returned (.tuple #[.string (upOf s), .bool (parentOf s).isSome]) ∧ w' = w := by
  go_enter Try.func22, Try.ntmps22
  go_wp2
  go_loop [4, 5, 6] (fun x y z => ∃ (up : ByteArray) (fr i n : Nat), i ≤ s.size + 1 ∧ fr ≤ i ∧ n + i = s.size + 1 ∧ x = .string up ∧ y = .int .i64 fr ∧ z = .int .i64 i ∧ Hid (par s n i fr up = parentOf s)) (fun _ _ i => s.size + 1 - (intOf i).toNat)
  case atStart => exact ⟨_, 0, 0, s.size + 1, by omega, by omega, by omega, rfl, rfl, rfl, rfl⟩
  case round =>
    obtain ⟨up, fr, i, n, h1, h2, h3, rfl, rfl, rfl, hp⟩ := hrel
    by_cases hlt : i < s.size
    · obtain ⟨n, rfl⟩ : ∃ m, n = m + 1 := ⟨n - 1, by omega⟩
      by_cases hsl : s[i].toNat = 47
      · have hb : (((s[i].toNat : Nat) : Int) == 47) = true := by rw [hsl]; rfl
        by_cases hf : i = fr
        · have hf' : ((i : Int) == (fr : Int)) = true := by simp [hf]
          have hq : Hid (parentOf s = none) := hp.out.symm.trans (par_sl_no hlt hsl hf)
          clear hp hsl hf
          go_wp2
          go_ret2
          exact ⟨ret2_eq (show Value.string ⟨#[]⟩ = _ by rw [upOf_none hq.out]) (show Value.bool false = _ by rw [hq.out]; rfl), rfl⟩
        · have hf' : ((i : Int) == (fr : Int)) = false := by simp; omega
          have hq : Hid (par s n (i + 1) (i + 1) (s.extract 0 i) = parentOf s) := (par_sl hlt hsl hf).symm.trans hp.out
          clear hp hsl hf
          go_wp2
          go_round
          case rel => exact ⟨_, i + 1, i + 1, n, by omega, by omega, by omega, rfl, by go_num, by go_num, hq⟩
          case measure => simp [intOf]; omega
      · have hb : (((s[i].toNat : Nat) : Int) == 47) = false := by simp; omega
        have hq : Hid (par s n (i + 1) fr up = parentOf s) := (par_no hlt hsl).symm.trans hp.out
        clear hp hsl
        go_wp2
        go_round
        case rel => exact ⟨_, fr, i + 1, n, by omega, by omega, by omega, rfl, by go_num, by go_num, hq⟩
        case measure => simp [intOf]; omega
    · by_cases he : i = s.size
      · obtain ⟨n, rfl⟩ : ∃ m, n = m + 1 := ⟨n - 1, by omega⟩
        by_cases hf : i = fr
        · have hf' : ((s.size : Int) == (fr : Int)) = true := by simp; omega
          have hq : Hid (parentOf s = none) := hp.out.symm.trans (par_end_no hlt hf)
          clear hp hf
          go_wp2
          go_ret2
          exact ⟨ret2_eq (show Value.string ⟨#[]⟩ = _ by rw [upOf_none hq.out]) (show Value.bool false = _ by rw [hq.out]; rfl), rfl⟩
        · have hf' : ((s.size : Int) == (fr : Int)) = false := by simp; omega
          have hq : Hid (parentOf s = some up) := hp.out.symm.trans (par_end hlt hf)
          have HE : Hid (i = s.size) := he
          clear hp hf
          go_wp2
          go_round
          case rel => exact ⟨up, s.size + 1, s.size + 1, 0, by omega, by omega, by omega, rfl, by go_num, by go_num, hq.out.symm⟩
          case measure => have := HE.out; simp [intOf]; omega
      · have hn : n = 0 := by omega
        have hq : Hid (parentOf s = some up) := by rw [← hp.out, hn]; rfl
        clear hp hn
        go_wp2
        go_ret2
        exact ⟨ret2_eq (show Value.string up = _ by rw [upOf_some hq.out]) (show Value.bool true = _ by rw [hq.out]; rfl), rfl⟩
end Go.Proofs.Ytndfmgdhiallpaa
