/- The digest: the numbers K that the code works out are the document's. -/
import Derived.Test.YtndfmgdhiallpaaGreatDoorHp
import Derived.Test.YtndfmgdhiallpaaGreatDoorHn
namespace Go.Proofs.YtndfmgdhiallpaaGreatDoor
open Go.RowKit

theorem roots_k : (prS 310).map (fun p => rootN p 35 % 4294967296) = kList := by decide +kernel
theorem map_getD (f : Nat → Nat) (l : List Nat) (j : Nat) (h : j < l.length) : (l.map f).getD j 0 = f (l.getD j 0) := by
  simp [List.getD_eq_getElem?_getD, h]
theorem root_k (j : Nat) (h : j < 64) : rootN ((prS 310).getD j 0) 35 % 4294967296 = kNum j := by
  have hj : j < (prS 310).length := by rw [prS_310]; exact h
  rw [kNum, ← roots_k, map_getD (fun p => rootN p 35 % 4294967296) _ _ hj]
def kwU (t j : Nat) : Value := if j < t then .int .u32 (kNum j) else .int .u32 0
theorem kwU_one (t j : Nat) : (kwU t j).oneCell' = true := by unfold kwU; split <;> rfl
theorem kwU_lt {t j : Nat} (h : j < t) : kwU t j = .int .u32 (kNum j) := if_pos h
theorem kwU_step (t : Nat) : ∀ j, j < 64 → (if j = t then Value.int .u32 (kNum t) else kwU t j) = kwU (t + 1) j := by
  intro j _
  unfold kwU
  by_cases h : j = t
  · subst h; rw [if_pos rfl, if_pos (by omega)]
  · rw [if_neg h]
    by_cases h2 : j < t
    · rw [if_pos h2, if_pos (by omega)]
    · rw [if_neg h2, if_neg (by omega)]

theorem primes_c : ∃ pf : Nat → Nat, (∀ j, j < 64 → pf j < 512 ∧ rootN (pf j) 35 % 4294967296 = kNum j) ∧ ∀ w : World,
    Calls Tryz.prog 300 #[.int .i64 64] w fun e w' => e = .returned (.slice (some ⟨w.heap.size, 0, none⟩) 64 64) ∧ Row w' w.heap.size 251 64 (fun j => .int .u64 (pf j)) ∧ Old w w' := by
  refine ⟨fun j => (prS 310).getD j 0, fun j hj => ⟨?_, root_k j hj⟩, primes_any⟩
  have hj' : j < (prS 310).length := by rw [prS_310]; exact hj
  have := prS_lt 310 ((prS 310)[j]) (List.getElem_mem hj')
  show (prS 310).getD j 0 < 512
  rw [List.getD_eq_getElem?_getD, List.getElem?_eq_getElem hj', Option.getD_some]
  omega

set_option maxRecDepth 100000 in
set_option maxHeartbeats 1000000 in
theorem workedOut_any (w : World) :
    Calls Tryz.prog 222 #[] w fun e w' => e = .returned (.agg (u64A kNum)) ∧ Old w w' := by
  obtain ⟨pf, hpf, hpr⟩ := primes_c
  have HPF := hide hpf
  have HPR := hide hpr
  clear hpf hpr
  go_enter Tryz.func222, Tryz.ntmps222
  go_wp2_with (go_at_call 300; refine (unhide HPR _).mono ?_; rintro e w1 ⟨rfl, hr1, ho1⟩; have HR1 := hide hr1; have HO1 := hide ho1; clear hr1 ho1)
  go_loopw [6] (fun i wr => ∃ t : Nat, t ≤ 64 ∧ i = .int .i64 t ∧ Hid (Arr wr (w.heap.size + 1) 247 64 (kwU t)) ∧ Hid (Arr wr w.heap.size 247 64 (kwU 0)) ∧ Hid (Row wr (w.heap.size + 2) 251 64 (fun j => .int .u64 (pf j))) ∧ Hid (Old w wr)) (fun i _ => 64 - (intOf i).toNat)
  case atStart =>
    refine ⟨0, by omega, rfl, ?_, ?_, ?_, ?_⟩
    · refine hide (Arr.old ?_ (unhide HO1))
      exact Arr.mk' (by simp) (by kernel_rfl)
    · refine hide (Arr.old (Arr.alloc ?_ _) (unhide HO1))
      exact Arr.mk' rfl (by kernel_rfl)
    · have hr := unhide HR1
      simp only [World.size_alloc] at hr
      exact hr
    · exact Only.trans (((Only.refl _ w).alloc _).alloc _) (unhide HO1)
  case round =>
    obtain ⟨t, ht, rfl, HW, HZ, HR, HO⟩ := hrel
    by_cases h64 : t < 64
    · have hfr := (unhide HW).row.thaw
      have hce := (unhide HW).row.cell t h64
      have hcp := (unhide HR).cell t h64
      obtain ⟨hp1, hp2⟩ := unhide HPF t h64
      have HC := hide (fun w1 => cubeRoot_any (pf t) hp1 w1)
      rw [hp2] at HC
      generalize pf t = p at hcp hp1 hp2 HC
      have HK := hide (kwU_step t)
      clear hp2
      generalize kNum t = kt at HC HK
      have ht64 : (t : Int) < 64 := by omega
      go_wp2_with (go_at_call 301; refine (unhide HC _).mono ?_; rintro e w1 ⟨rfl, rfl⟩)
      go_roundw
      case rel =>
        refine ⟨t + 1, by omega, by go_num, ?_, ?_, ?_, ?_⟩
        · exact ((unhide HW).set t _).congr (unhide HK)
        · exact (unhide HZ).setOther _ _ (by omega) _
        · exact (unhide HR).setOther _ _ (by omega) _
        · exact (unhide HO).setCell (p := ⟨w.heap.size + 1, t, none⟩) (fun h => absurd (show w.heap.size + 1 < w.heap.size from h) (by omega)) _
      case measure => simp [intOf]; omega
    · have ht64 : t = 64 := by omega
      rw [ht64] at HW
      clear ht64
      have hW : wr.heap[w.heap.size + 1]? = some (.cells (arrF 64 (kwU 64)) 247 (0, 0)) := unhide HW
      have hZ : wr.heap[w.heap.size]? = some (.cells (arrF 64 (kwU 0)) 247 (0, 0)) := unhide HZ
      have hi : (Tryz.prog.info? 247).map (·.size) = some (arrF 64 (kwU 64)).size := by rw [arrF_size]; exact infoA64
      have h1 : (arrF 64 (kwU 64)).all (·.oneCell') = true := arr_one _ _ (kwU_one 64)
      have HFin : Hid (arrF 64 (kwU 64) = u64A kNum) := arrF_congr (fun j hj => kwU_lt hj)
      have hsz : (arrF 64 (kwU 0)).size = (arrF 64 (kwU 64)).size := by rw [arrF_size, arrF_size]
      generalize hA : arrF 64 (kwU 64) = A at *
      have HH := hide hA
      clear hA
      go_wp2_with (first
        | (refine wpList_load_row rfl 247 (.tmp 1) rfl (w.heap.size + 1) rfl 247 A (0, 0) _ hW Tryz.underlying247 rfl hi ?_)
        | (refine wpList_store_row rfl 247 (.tmp 0) (.tmp 16) rfl w.heap.size A rfl rfl 247 _ hZ hi hsz h1 ?_))
      refine bodyPost_ret (v := .agg A) (results_cell_row Tryz.results222 _ _ w.heap.size 247 A (0, 0) _ rfl (setRow_heap wr w.heap.size _ A _ _ hZ) Tryz.underlying247 rfl hi) rfl ⟨?_, ?_⟩
      · rw [unhide HFin]
      · exact (unhide HO).setRow _ (fun h => absurd h (Nat.lt_irrefl _)) _
end Go.Proofs.YtndfmgdhiallpaaGreatDoor
