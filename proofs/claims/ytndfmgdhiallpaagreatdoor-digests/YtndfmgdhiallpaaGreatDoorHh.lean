/- The digest: the code's words of a block. -/
import Derived.Test.YtndfmgdhiallpaaGreatDoorHg
import Derived.BigRegion
import Derived.Deep.OwnRows
import Derived.Deep.RegionWith
import Derived.Deep.RegionHeld3
namespace Go.Proofs.YtndfmgdhiallpaaGreatDoor
open Go.RowKit

theorem or4 {a b c d : Nat} (ha : a < 256) (hb : b < 256) (hc : c < 256) (hd : d < 256) :
    bits BinOp.or IntKind.u32 (bits BinOp.or IntKind.u32 (bits BinOp.or IntKind.u32 ((a : Int) * 16777216) ((b : Int) * 65536)) ((c : Int) * 256)) (d : Int) = ((a * 16777216 + b * 65536 + c * 256 + d : Nat) : Int) := by
  have e1 : (a : Int) * 16777216 = ((a * 16777216 : Nat) : Int) := by omega
  have e2 : (b : Int) * 65536 = ((b * 65536 : Nat) : Int) := by omega
  have e3 : (c : Int) * 256 = ((c * 256 : Nat) : Int) := by omega
  rw [e1, e2, e3, u32_or_nat _ _ (by omega) (by omega), nat_join 24 (a * 16777216) (b * 65536) (by omega) (by omega), u32_or_nat _ _ (by omega) (by omega),
    nat_join 16 (a * 16777216 + b * 65536) (c * 256) (by omega) (by omega), u32_or_nat _ _ (by omega) (by omega), nat_join 8 (a * 16777216 + b * 65536 + c * 256) d (by omega) (by omega)]

set_option maxRecDepth 100000 in
set_option maxHeartbeats 1000000 in
theorem wordAt_any (s : ByteArray) (k : Nat) (h : k + 4 ≤ s.size) (hs : s.size ≤ 64) (w : World) :
    Calls Tryz.prog 344 #[.string s, .int .i64 k] w fun e w' => e = .returned (.int .u32 (wrd s k)) ∧ ∃ m, w' = w.drewN m := by
  have g0 : (k : Int) < (s.size : Int) := by omega
  have g1 : (k : Int) + 1 < (s.size : Int) := by omega
  have g2 : (k : Int) + 2 < (s.size : Int) := by omega
  have g3 : (k : Int) + 3 < (s.size : Int) := by omega
  have n0 : (0 : Int) ≤ (k : Int) := by omega
  have n1 : (0 : Int) ≤ (k : Int) + 1 := by omega
  have n2 : (0 : Int) ≤ (k : Int) + 2 := by omega
  have n3 : (0 : Int) ≤ (k : Int) + 3 := by omega
  have t1 : ((k : Int) + 1).toNat = k + 1 := by omega
  have t2 : ((k : Int) + 2).toNat = k + 2 := by omega
  have t3 : ((k : Int) + 3).toNat = k + 3 := by omega
  have b0 := btN_get (s := s) (k := k) (by omega)
  have b1 := btN_get (s := s) (k := k + 1) (by omega)
  have b2 := btN_get (s := s) (k := k + 2) (by omega)
  have b3 := btN_get (s := s) (k := k + 3) (by omega)
  have l0 := btN_lt s k
  have l1 := btN_lt s (k + 1)
  have l2 := btN_lt s (k + 2)
  have l3 := btN_lt s (k + 3)
  go_enter Tryz.func344, Tryz.ntmps344
  go_wp2_with fail
  go_quiet (fail)
  go_wp2
  go_ret
  have hx := or4 l0 l1 l2 l3
  exact ⟨ret1_eq (show Value.int .u32 (bits BinOp.or IntKind.u32 (bits BinOp.or IntKind.u32 (bits BinOp.or IntKind.u32 ((btN s k : Int) * 16777216) ((btN s (k + 1) : Int) * 65536)) ((btN s (k + 2) : Int) * 256)) (btN s (k + 3) : Int)) = _ by rw [hx]; rfl), _, rfl⟩

theorem keepOne {W : World} {g t i : Nat} {u v : Value} (h : W.cell? ⟨g, i, none⟩ = some v) (hn : ¬ t = i) : (W.setCell ⟨g, t, none⟩ u).drew.cell? ⟨g, i, none⟩ = some v :=
  (World.cell?_setCell_other W ⟨g, t, none⟩ ⟨g, i, none⟩ u (by intro e; injection e; exact hn ‹_›)).trans h

theorem infoA64 : (Tryz.prog.info? 247).map (·.size) = some 64 := by kernel_rfl
theorem arr_one (n : Nat) (f : Nat → Value) (h : ∀ j, (f j).oneCell' = true) : (arrF n f).all (·.oneCell') = true := by
  rw [Array.all_eq_true_iff_forall_mem]
  intro v hv
  simp [arrF] at hv
  obtain ⟨j, _, rfl⟩ := hv
  exact h j
theorem u32sum4 {a b c d n : Nat} (h : n = (a + b + c + d) % 4294967296) : Value.int .u32 (((((a : Int) + b) % 4294967296 + c) % 4294967296 + d) % 4294967296) = .int .u32 (n : Int) := by
  rw [h]; congr 1; omega
theorem u32sum {a b c d n : Nat} (h : n = (a + b + c + d) % 4294967296) : IntKind.u32.wrap (IntKind.u32.wrap (IntKind.u32.wrap ((a : Int) + b) + c) + d) = (n : Int) := by
  rw [IntKind.wrap_u32', IntKind.wrap_u32', IntKind.wrap_u32', h]; omega

/-- The words that stand already. -/
def wsU (s : ByteArray) (t j : Nat) : Value := if j < t then .int .u32 (wt s j) else .int .u32 0
theorem wsU_one (s : ByteArray) (t j : Nat) : (wsU s t j).oneCell' = true := by unfold wsU; split <;> rfl
theorem wsU_lt {s : ByteArray} {t j : Nat} (h : j < t) : wsU s t j = .int .u32 (wt s j) := if_pos h
theorem wsU_step (s : ByteArray) (t : Nat) : ∀ j, j < 64 → (if j = t then Value.int .u32 (wt s t) else wsU s t j) = wsU s (t + 1) j := by
  intro j _
  unfold wsU
  by_cases h : j = t
  · subst h; rw [if_pos rfl, if_pos (by omega)]
  · rw [if_neg h]
    by_cases h2 : j < t
    · rw [if_pos h2, if_pos (by omega)]
    · rw [if_neg h2, if_neg (by omega)]

set_option maxRecDepth 100000 in
set_option maxHeartbeats 1000000 in
theorem spread_any (s : ByteArray) (hs : s.size = 64) (w : World) :
    Calls Tryz.prog 303 #[.string s] w fun e w' => e = .returned (.agg (arrF 64 (fun j => .int .u32 (wt s j)))) ∧ Old w w' := by
  go_enter Tryz.func303, Tryz.ntmps303
  go_wp2_with fail
  go_loopw [6] (fun i wr => ∃ t : Nat, t ≤ 16 ∧ i = .int .i64 t ∧ Hid (Arr wr (w.heap.size + 1) 247 64 (wsU s t)) ∧ Hid (Arr wr w.heap.size 247 64 (wsU s 0)) ∧ Hid (Old w wr)) (fun i _ => 16 - (intOf i).toNat)
  case atStart =>
    refine ⟨0, by omega, rfl, ?_, ?_, ((Only.refl _ w).alloc _).alloc _⟩
    · refine hide (Arr.mk' (by simp) ?_)
      kernel_rfl
    · refine hide ((Arr.mk' rfl ?_).alloc _)
      kernel_rfl
  case round =>
    obtain ⟨t, ht, rfl, HW, HZ, HO⟩ := hrel
    by_cases h16 : t < 16
    · have HB := hide (fun (w1 : World) => wordAt_any s (4 * t) (by omega) (by omega) w1)
      rw [show ((4 * t : Nat) : Int) = 4 * (t : Int) by omega] at HB
      have hfr := (unhide HW).row.thaw
      have hce := (unhide HW).row.cell t (by omega)
      have HE : Hid (wrd s (4 * t) = wt s t) := hide (wt_low s t h16).symm
      have ht64 : (t : Int) < 64 := by omega
      go_wp2_with (go_at_call 344; refine (unhide HB _).mono ?_; rintro e w1 ⟨rfl, m, rfl⟩; rw [unhide HE])
      go_roundw
      case rel =>
        refine ⟨t + 1, by omega, by go_num, ?_, ?_, ?_⟩
        · exact (((unhide HW).drewN m).set t _).congr (wsU_step s t)
        · exact ((unhide HZ).drewN m).setOther _ _ (by omega) _
        · exact (((unhide HO).drewN m).setCell (p := ⟨w.heap.size + 1, t, none⟩) (fun h => absurd (show w.heap.size + 1 < w.heap.size from h) (by omega)) _)
      case measure => simp [intOf]; omega
    · have ht16 : t = 16 := by omega
      rw [ht16] at HW
      clear ht16
      go_wp2_with fail
      go_loopw [5] (fun i wr => ∃ t : Nat, 16 ≤ t ∧ t ≤ 64 ∧ i = .int .i64 t ∧ Hid (Arr wr (w.heap.size + 1) 247 64 (wsU s t)) ∧ Hid (Arr wr w.heap.size 247 64 (wsU s 0)) ∧ Hid (Old w wr)) (fun i _ => 64 - (intOf i).toNat)
      case atStart => exact ⟨16, by omega, by omega, rfl, HW, HZ, HO⟩
      case round =>
        obtain ⟨t, hl16, ht, rfl, HW, HZ, HO⟩ := hrel
        by_cases h64 : t < 64
        · have hfr := (unhide HW).row.thaw
          have hce := (unhide HW).row.cell t h64
          have c1 := (unhide HW).row.cell (t - 15) (by omega)
          have c14 := (unhide HW).row.cell (t - 2) (by omega)
          have c9 := (unhide HW).row.cell (t - 7) (by omega)
          have c0 := (unhide HW).row.cell (t - 16) (by omega)
          rw [wsU_lt (by omega)] at c1 c14 c9 c0
          have i1 : ((t : Int) - 15).toNat = t - 15 := by omega
          have i2 : ((t : Int) - 2).toNat = t - 2 := by omega
          have i3 : ((t : Int) - 7).toNat = t - 7 := by omega
          have i4 : ((t : Int) - 16).toNat = t - 16 := by omega
          have n1 : (0 : Int) ≤ (t : Int) - 15 := by omega
          have n2 : (0 : Int) ≤ (t : Int) - 2 := by omega
          have n3 : (0 : Int) ≤ (t : Int) - 7 := by omega
          have n4 : (0 : Int) ≤ (t : Int) - 16 := by omega
          have w1 : IntKind.i64.wrap ((t : Int) - 15) = (t : Int) - 15 := by rw [IntKind.wrap_i64]; omega
          have w2 : IntKind.i64.wrap ((t : Int) - 2) = (t : Int) - 2 := by rw [IntKind.wrap_i64]; omega
          have w3 : IntKind.i64.wrap ((t : Int) - 7) = (t : Int) - 7 := by rw [IntKind.wrap_i64]; omega
          have w4 : IntKind.i64.wrap ((t : Int) - 16) = (t : Int) - 16 := by rw [IntKind.wrap_i64]; omega
          have p1 : (15 : Int) ≤ (t : Int) := by omega
          have p2 : (2 : Int) ≤ (t : Int) := by omega
          have p3 : (7 : Int) ≤ (t : Int) := by omega
          have p4 : (16 : Int) ≤ (t : Int) := by omega
          have m0 : (t : Int) < 64 := by omega
          have m1 : (t : Int) - 15 < 64 := by omega
          have m2 : (t : Int) - 2 < 64 := by omega
          have m3 : (t : Int) - 7 < 64 := by omega
          have m4 : (t : Int) - 16 < 64 := by omega
          have d1 : ¬ t = t - 15 := by omega
          have d2 : ¬ t = t - 2 := by omega
          have d3 : ¬ t = t - 7 := by omega
          have d4 : ¬ t = t - 16 := by omega
          have HF := hide (wt_high s t (by omega))
          have b1 := wt_lt s (t - 15)
          have b14 := wt_lt s (t - 2)
          have b9 := wt_lt s (t - 7)
          have b0 := wt_lt s (t - 16)
          generalize wt s (t - 15) = a at c1 b1 HF
          generalize wt s (t - 2) = b at c14 b14 HF
          generalize wt s (t - 7) = c at c9 b9 HF
          generalize wt s (t - 16) = d at c0 b0 HF
          have l0 := sm0_lt b1
          have l1 := sm1_lt b14
          have HS0 := hide (fun (w1 : World) => smallS0_any a b1 w1)
          have HS1 := hide (fun (w1 : World) => smallS1_any b b14 w1)
          generalize sm0 a = A at HS0 l0 HF
          generalize sm1 b = B at HS1 l1 HF
          go_wp2_with fail
          go_region_held3 (fun w' => w'.cell? ⟨w.heap.size + 1, t - 2, none⟩ = some (.int .u32 b) ∧ w'.cell? ⟨w.heap.size + 1, t - 7, none⟩ = some (.int .u32 c) ∧ w'.cell? ⟨w.heap.size + 1, t - 15, none⟩ = some (.int .u32 a) ∧ w'.cell? ⟨w.heap.size + 1, t - 16, none⟩ = some (.int .u32 d)) (first | exact ⟨keepOne c14 d2, keepOne c9 d3, keepOne c1 d1, keepOne c0 d4⟩ | go_keep)
            (first
              | (go_at_call 345; refine (unhide HS1 _).mono ?_; rintro e w1 ⟨rfl, rfl⟩)
              | (go_at_call 346; refine (unhide HS0 _).mono ?_; rintro e w1 ⟨rfl, rfl⟩))
          go_wp2
          go_roundw
          case rel =>
            refine ⟨t + 1, by omega, by omega, by go_num, ?_, ?_, ?_⟩
            · rw [u32sum4 (unhide HF)]; exact (((unhide HW).set t _).drewN 1).congr (wsU_step s t)
            · exact ((unhide HZ).setOther _ _ (by omega) _).drewN 1
            · exact (((unhide HO).setCell (p := ⟨w.heap.size + 1, t, none⟩) (fun h => absurd (show w.heap.size + 1 < w.heap.size from h) (by omega)) _).drew)
          case measure => simp [intOf]; omega
        · have ht64 : t = 64 := by omega
          rw [ht64] at HW
          clear ht64
          have hW : wr.heap[w.heap.size + 1]? = some (.cells (arrF 64 (wsU s 64)) 247 (0, 0)) := unhide HW
          have hZ : wr.heap[w.heap.size]? = some (.cells (arrF 64 (wsU s 0)) 247 (0, 0)) := unhide HZ
          have hi : (Tryz.prog.info? 247).map (·.size) = some (arrF 64 (wsU s 64)).size := by rw [arrF_size]; exact infoA64
          have h1 : (arrF 64 (wsU s 64)).all (·.oneCell') = true := arr_one _ _ (wsU_one s 64)
          have HFin : Hid (arrF 64 (wsU s 64) = arrF 64 (fun j => .int .u32 (wt s j))) := arrF_congr (fun j hj => wsU_lt hj)
          have hsz : (arrF 64 (wsU s 0)).size = (arrF 64 (wsU s 64)).size := by rw [arrF_size, arrF_size]
          generalize hA : arrF 64 (wsU s 64) = A at *
          have HH := hide hA
          clear hA
          go_wp2_with (first
            | (refine wpList_load_row rfl 247 (.tmp 3) rfl (w.heap.size + 1) rfl 247 A (0, 0) _ hW Tryz.underlying247 rfl hi ?_)
            | (refine wpList_store_row rfl 247 (.tmp 2) (.tmp 43) rfl w.heap.size A rfl rfl 247 _ hZ hi hsz h1 ?_))
          refine bodyPost_ret (v := .agg A) (results_cell_row Tryz.results303 _ _ w.heap.size 247 A (0, 0) _ rfl (setRow_heap wr w.heap.size _ A _ _ hZ) Tryz.underlying247 rfl hi) rfl ⟨?_, ?_⟩
          · rw [unhide HFin]
          · exact (unhide HO).setRow _ (fun h => absurd h (Nat.lt_irrefl _)) _
end Go.Proofs.YtndfmgdhiallpaaGreatDoor
