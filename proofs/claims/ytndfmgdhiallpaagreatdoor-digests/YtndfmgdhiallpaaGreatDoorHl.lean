/- The digest: the code's absorb. -/
import Derived.Test.YtndfmgdhiallpaaGreatDoorHk
import Derived.Test.YtndfmgdhiallpaaGreatDoorRa
import Derived.Deep.CutRange
namespace Go.Proofs.YtndfmgdhiallpaaGreatDoor
open Go.RowKit

/-- The eight words behind m blocks of p, from x on. -/
def foldX (kf : Nat → Nat) (x : E8) (p : ByteArray) : Nat → E8
  | 0 => x
  | m + 1 => mixOf kf (foldX kf x p m) (p.extract (64 * m) (64 * m + 64))
theorem foldX_ok {kf : Nat → Nat} {x : E8} (hx : x.ok) (p : ByteArray) (m : Nat) : (foldX kf x p m).ok := by
  cases m with
  | zero => exact hx
  | succ m => exact E8.plus_ok _ _
theorem old_heap {w w' : World} (h : Old w w') {g : Nat} {o : Obj} (hg : w.heap[g]? = some o) : w'.heap[g]? = some o :=
  (h.block g (Array.getElem?_eq_some_iff.1 hg).1 (fun x => x)).trans hg
theorem only_row (w : World) (g : Nat) (cs : Array Value) : Only (fun k => k = g) w (w.setRow g cs) := (Only.refl (fun k => k = g) w).setRow g (fun _ => rfl) cs
theorem u8A_ok (x : E8) : (u8A x).all (·.oneCell') = true := ints8 _ _ _ _ _ _ _ _
theorem load8 {w : World} {g : Nat} {x : E8} (h : w.heap[g]? = some (.cells (u8A x) 181 (0, 0))) : (loadVar 181 ⟨g, 0, none⟩).run Tryz.prog w = .ok (.agg (u8A x)) w :=
  run_loadVar_row w g _ _ _ _ _ h Tryz.underlying181 rfl infoA8
theorem load64 {w : World} {g : Nat} {f : Nat → Nat} (h : w.heap[g]? = some (.cells (u64A f) 247 (0, 0))) : (loadVar 247 ⟨g, 0, none⟩).run Tryz.prog w = .ok (.agg (u64A f)) w :=
  run_loadVar_row w g _ _ _ _ _ h Tryz.underlying247 rfl (by rw [u64A, arrF_size]; exact infoA64)
theorem wp_store8 {o : Oper} {a : Act} {w : World} {K : Act → World → Prop} {Q : Exit → Act → World → Prop} (x y : Operand) (ho : o.op = .store 181 x y) (hd : o.dst = none) (g : Nat) (z : E8)
    (hx : a.eval x = .pointer (some ⟨g, 0, none⟩)) (hy : a.eval y = .agg (u8A z)) {y0 : E8} (hg : w.heap[g]? = some (.cells (u8A y0) 181 (0, 0)))
    (h : K a (w.setRow g (u8A z))) : o.wp Tryz.prog a w K Q :=
  wp_store_row _ x y ho g (u8A z) hx hy _ _ hg (by rw [u8A, arrF_size]; exact infoA8) (by rw [u8A, u8A, arrF_size, arrF_size]) (u8A_ok z) (by rw [hd]; exact h)

set_option maxRecDepth 100000 in
set_option maxHeartbeats 1000000 in
theorem absorb_any (x : E8) (hx : x.ok) (kf : Nat → Nat) (hk : ∀ t, kf t < 4294967296) (s : ByteArray) (hs : s.size % 64 = 0) (hl : s.size ≤ 140737488355328) (w : World) :
    Calls Tryz.prog 223 #[.agg (u8A x), .agg (u64A kf), .string s] w fun e w' => e = .returned (.agg (u8A (foldX kf x s (s.size / 64)))) ∧ Old w w' := by
  have HS := hide hs
  clear hs
  go_enter Tryz.func223, Tryz.ntmps223
  go_wp2_with fail
  go_loopw [7] (fun i wr => ∃ m k : Nat, k ≤ s.size ∧ i = .int .i64 k ∧ Hid (k = 64 * m) ∧ Hid (wr.heap[w.heap.size]? = some (.cells (u8A (foldX kf x s m)) 181 (0, 0))) ∧ Hid (wr.heap[w.heap.size + 1]? = some (.cells (u64A kf) 247 (0, 0))) ∧ Hid (wr.heap[w.heap.size + 2]? = some (.cells (u8A ⟨0, 0, 0, 0, 0, 0, 0, 0⟩) 181 (0, 0))) ∧ Hid (Old w wr)) (fun i _ => s.size - (intOf i).toNat)
  case atStart => exact ⟨0, 0, by omega, rfl, rfl, ((Arr.mk' (n := 8) (f := fun j => .int .u32 (x.nth j)) rfl rfl).alloc _).alloc _, (Arr.mk' (n := 64) (f := fun j => .int .u32 (kf j)) (by simp) rfl).alloc _, Arr.mk' (n := 8) (f := fun j => .int .u32 (E8.nth ⟨0, 0, 0, 0, 0, 0, 0, 0⟩ j)) (by simp) rfl, (((Only.refl _ w).alloc _).alloc _).alloc _⟩
  case round =>
    obtain ⟨m, k, hks, rfl, HKM, HA, HB, HC, HO⟩ := hrel
    by_cases hlt : k < s.size
    · have hk64 : k + 64 ≤ s.size := by have := unhide HKM; have := unhide HS; omega
      have hex : (s.extract k (k + 64)).size = 64 := by rw [ByteArray.size_extract]; omega
      have HSP := hide (fun w1 => spread_any (s.extract k (k + 64)) hex w1)
      have HCP := hide (fun w1 => compress_any (foldX kf x s m) (foldX_ok hx s m) kf (wt (s.extract k (k + 64))) hk (wt_lt _) w1)
      generalize hy : foldX kf x s m = y at HA HCP
      have HY := hide hy
      clear hy
      have HWF : Hid (mixOf kf y (s.extract k (k + 64)) = (rounds kf (wt (s.extract k (k + 64))) 64 y).plus y) := by unfold Hid; rw [mixOf]
      generalize wt (s.extract k (k + 64)) = wf at HSP HCP HWF
      generalize (rounds kf wf 64 y).plus y = z at HCP HWF
      have h1 : (k : Int) + 64 ≤ (s.size : Int) := by omega
      have h2 : (0 : Int) ≤ (k : Int) := by omega
      have h3 : (k : Int) ≤ (k : Int) + 64 := by omega
      have h4 : ((k : Int) + 64).toNat = k + 64 := by omega
      have hwr : IntKind.i64.wrap ((k : Int) + 64) = (k : Int) + 64 := by rw [IntKind.wrap_i64]; omega
      clear hex
      go_upto_region 4 with fail
      refine wp_region_last (S := fun W => W.heap[w.heap.size]? = some (.cells (u8A y) 181 (0, 0)) ∧ W.heap[w.heap.size + 1]? = some (.cells (u64A kf) 247 (0, 0))) (L := 9) (by kernel_rfl) ?_
      refine wpAnyL_take (i := 0) (v := .agg (u8A y)) (some 14) rfl rfl (by kernel_rfl) (by kernel_rfl) (by kernel_rfl) (by kernel_rfl) (fun _ _ _ h => h) (held_load rfl _ _ rfl ⟨w.heap.size, 0, none⟩ rfl _ (fun W hW => load8 hW.1)) ⟨unhide HA, unhide HB⟩ ?_
      simp only [Act.put, List.setIfInBounds_toArray, List.set_cons_zero, List.set_cons_succ]
      refine wpAnyL_take (i := 1) (v := .agg (u64A kf)) (some 15) rfl rfl (by kernel_rfl) (by kernel_rfl) (by kernel_rfl) (by kernel_rfl) (fun _ _ _ h => h) (held_load rfl _ _ rfl ⟨w.heap.size + 1, 0, none⟩ rfl _ (fun W hW => load64 hW.2)) ⟨unhide HA, unhide HB⟩ ?_
      simp only [Act.put, List.setIfInBounds_toArray, List.set_cons_zero, List.set_cons_succ]
      refine wpAnyL_take (i := 2) (v := .string s) (some 16) rfl rfl (by kernel_rfl) (by kernel_rfl) (by kernel_rfl) (by kernel_rfl) (fun _ _ _ h => h) (.inl ⟨rfl, fun W _ => by go_simp⟩) ⟨unhide HA, unhide HB⟩ ?_
      simp only [Act.put, List.setIfInBounds_toArray, List.set_cons_zero, List.set_cons_succ]
      refine wpAnyL_take (i := 3) (v := .int .i64 k) (some 17) rfl rfl (by kernel_rfl) (by kernel_rfl) (by kernel_rfl) (by kernel_rfl) (fun _ _ _ h => h) (.inl ⟨rfl, fun W _ => by go_simp⟩) ⟨unhide HA, unhide HB⟩ ?_
      simp only [Act.put, List.setIfInBounds_toArray, List.set_cons_zero, List.set_cons_succ]
      refine wpAnyL_take (i := 4) (v := .int .i64 k) (some 18) rfl rfl (by kernel_rfl) (by kernel_rfl) (by kernel_rfl) (by kernel_rfl) (fun _ _ _ h => h) (.inl ⟨rfl, fun W _ => by go_simp⟩) ⟨unhide HA, unhide HB⟩ ?_
      simp only [Act.put, List.setIfInBounds_toArray, List.set_cons_zero, List.set_cons_succ]
      refine wpAnyL_take (i := 5) (v := .int .i64 (k + 64)) (some 19) rfl rfl (by kernel_rfl) (by kernel_rfl) (by kernel_rfl) (by kernel_rfl) (fun _ _ _ h => h) (.inl ⟨rfl, fun W _ => by go_simp⟩) ⟨unhide HA, unhide HB⟩ ?_
      simp only [Act.put, List.setIfInBounds_toArray, List.set_cons_zero, List.set_cons_succ]
      refine wpAnyL_take (i := 6) (v := .string (s.extract k (k + 64))) (some 20) rfl rfl (by kernel_rfl) (by kernel_rfl) (by kernel_rfl) (by kernel_rfl) (fun _ _ _ h => h) (.inl ⟨rfl, fun W _ => by go_simp⟩) ⟨unhide HA, unhide HB⟩ ?_
      simp only [Act.put, List.setIfInBounds_toArray, List.set_cons_zero, List.set_cons_succ]
      refine wpAnyL_one (i := 7) (by kernel_rfl) ?_
      refine wpOp_step rfl (fun K' hK => ?_)
      go_simp
      refine (unhide HSP _).mono ?_
      rintro e w5 ⟨rfl, ho5⟩
      have ha5 := old_heap ho5 (unhide HA)
      have hb5 := old_heap ho5 (unhide HB)
      have hc5 := old_heap ho5 (unhide HC)
      have HO5 : Hid (Old w w5) := Only.trans (unhide HO).drew ho5
      refine hK _ _ ⟨fun _ => ⟨ha5, hb5⟩, ?_⟩
      clear hK
      refine wpAnyL_one (i := 8) (by kernel_rfl) ?_
      refine wpOp_step rfl (fun K' hK => ?_)
      go_simp
      refine (unhide HCP _).mono ?_
      rintro e w6 ⟨rfl, ho6⟩
      have ha6 := old_heap ho6 ha5
      have hb6 := old_heap ho6 hb5
      have hc6 := old_heap ho6 hc5
      have HO6 : Hid (Old w w6) := Only.trans (unhide HO5) ho6
      refine hK _ _ ⟨fun _ => ⟨ha6, hb6⟩, ?_⟩
      clear hK
      refine wpAnyL_one (i := 9) (by kernel_rfl) ?_
      refine op_plain rfl rfl (wp_store8 (.tmp 3) (.tmp 22) rfl rfl w.heap.size z rfl rfl ha6 ?_)
      refine ⟨fun h => absurd rfl h, wpAnyL_done (by kernel_rfl) ?_⟩
      go_wp2_with fail
      go_roundw
      case rel =>
        refine ⟨m + 1, k + 64, hk64, by go_num, (show k + 64 = 64 * (m + 1) by have := unhide HKM; omega), ?_, ?_, ?_, (unhide HO6).setRow _ (fun h => absurd h (Nat.lt_irrefl _)) _⟩
        · have e : foldX kf x s (m + 1) = z := by rw [foldX, unhide HY, ← unhide HKM]; exact unhide HWF
          rw [e]
          exact setRow_heap w6 w.heap.size _ _ _ _ ha6
        · exact ((only_row w6 w.heap.size _).block _ (Array.getElem?_eq_some_iff.1 hb6).1 (by omega)).trans hb6
        · exact ((only_row w6 w.heap.size _).block _ (Array.getElem?_eq_some_iff.1 hc6).1 (by omega)).trans hc6
      case measure => simp [intOf]; omega
    · have hm : s.size / 64 = m := by have := unhide HKM; omega
      have HX : Hid (foldX kf x s (s.size / 64) = foldX kf x s m) := hide (by rw [hm])
      have ha := unhide HA
      have hc := unhide HC
      clear hm HKM HB
      generalize foldX kf x s m = y at ha HA HX
      go_wp2_with (first
        | (refine wpList_load_row rfl 181 (.tmp 3) rfl w.heap.size rfl 181 (u8A y) (0, 0) _ ha Tryz.underlying181 rfl infoA8 ?_)
        | (refine wpList_store_row rfl 181 (.tmp 6) (.tmp 23) rfl (w.heap.size + 2) (u8A y) rfl rfl 181 _ hc infoA8 (by rw [u8A, u8A, arrF_size, arrF_size]) (u8A_ok y) ?_))
      refine bodyPost_ret (v := .agg (u8A y)) (results_cell_row Tryz.results223 _ _ (w.heap.size + 2) 181 (u8A y) (0, 0) _ rfl (setRow_heap wr (w.heap.size + 2) _ (u8A y) _ _ hc) Tryz.underlying181 rfl infoA8) rfl ⟨?_, ?_⟩
      · rw [unhide HX]
      · exact (unhide HO).setRow _ (fun h => absurd h (by omega)) _
end Go.Proofs.YtndfmgdhiallpaaGreatDoor
