/- The digest: the code's rounds of one block. -/
import Derived.Test.YtndfmgdhiallpaaGreatDoorHh
namespace Go.Proofs.YtndfmgdhiallpaaGreatDoor
open Go.RowKit

def u8A (x : E8) : Array Value := arrF 8 (fun j => .int .u32 (x.nth j))
def u64A (f : Nat → Nat) : Array Value := arrF 64 (fun j => .int .u32 (f j))

theorem quiet_same {P : Program} {f : FuncId} {args : Array Value} {w : World} {k n : Nat} {v : Value}
    (h : Calls P f args (w.drewN (k + n)) fun e w' => e = .returned v ∧ w' = w.drewN (k + n)) : Calls P f args (w.drewN (k + n)) fun e w'' => e = .returned v ∧ ∃ m, w'' = w.drewN (k + m) :=
  h.mono fun _ _ ⟨he, hm⟩ => ⟨he, n, hm⟩

theorem infoA8 : (Tryz.prog.info? 181).map (·.size) = some 8 := by kernel_rfl
theorem u8A_eq (x : E8) : u8A x = #[.int .u32 x.a, .int .u32 x.b, .int .u32 x.c, .int .u32 x.d, .int .u32 x.e, .int .u32 x.f, .int .u32 x.g, .int .u32 x.h] := rfl

theorem ints8 (a b c d e f g h : Int) : (#[.int .u32 a, .int .u32 b, .int .u32 c, .int .u32 d, .int .u32 e, .int .u32 f, .int .u32 g, .int .u32 h] : Array Value).all (·.oneCell') = true := by
  rw [Array.all_eq_true_iff_forall_mem]
  intro v hv
  simp at hv
  rcases hv with rfl | rfl | rfl | rfl | rfl | rfl | rfl | rfl <;> rfl

def plus8 (x y : E8) : Array Value := #[.int .u32 (((x.a : Int) + y.a) % 4294967296), .int .u32 (((x.b : Int) + y.b) % 4294967296), .int .u32 (((x.c : Int) + y.c) % 4294967296), .int .u32 (((x.d : Int) + y.d) % 4294967296), .int .u32 (((x.e : Int) + y.e) % 4294967296), .int .u32 (((x.f : Int) + y.f) % 4294967296), .int .u32 (((x.g : Int) + y.g) % 4294967296), .int .u32 (((x.h : Int) + y.h) % 4294967296)]
theorem plus1 (a b : Nat) : ((a : Int) + b) % 4294967296 = (((b + a) % 4294967296 : Nat) : Int) := by omega
theorem plus8_eq (x y : E8) : plus8 x y = u8A (y.plus x) := by
  unfold plus8
  rw [plus1, plus1, plus1, plus1, plus1, plus1, plus1, plus1]
  rfl

/-- What is known when compress begins. -/
theorem compress_start (x : E8) (kf wf : Nat → Nat) (w : World) (z : Array Value) (t8 t64 : TypeId) :
    Arr ((((w.alloc (.cells (u8A x) t8)).alloc (.cells (u64A kf) t64)).alloc (.cells (u64A wf) t64)).alloc (.cells z t8)) w.heap.size t8 8 (fun j => .int .u32 (x.nth j)) ∧
    Arr ((((w.alloc (.cells (u8A x) t8)).alloc (.cells (u64A kf) t64)).alloc (.cells (u64A wf) t64)).alloc (.cells z t8)) (w.heap.size + 1) t64 64 (fun j => .int .u32 (kf j)) ∧
    Arr ((((w.alloc (.cells (u8A x) t8)).alloc (.cells (u64A kf) t64)).alloc (.cells (u64A wf) t64)).alloc (.cells z t8)) (w.heap.size + 2) t64 64 (fun j => .int .u32 (wf j)) ∧
    ((((w.alloc (.cells (u8A x) t8)).alloc (.cells (u64A kf) t64)).alloc (.cells (u64A wf) t64)).alloc (.cells z t8)).heap[w.heap.size + 3]? = some (.cells z t8 (0, 0)) ∧
    Old w ((((w.alloc (.cells (u8A x) t8)).alloc (.cells (u64A kf) t64)).alloc (.cells (u64A wf) t64)).alloc (.cells z t8)) := by
  refine ⟨(((Arr.mk' rfl rfl).alloc _).alloc _).alloc _, ((Arr.mk' (by simp) rfl).alloc _).alloc _, (Arr.mk' (by simp) rfl).alloc _, ?_, ((((Only.refl _ w).alloc _).alloc _).alloc _).alloc _⟩
  have := Go.heap_alloc_new (((w.alloc (.cells (u8A x) t8)).alloc (.cells (u64A kf) t64)).alloc (.cells (u64A wf) t64)) (.cells z t8)
  simpa using this

set_option maxRecDepth 100000 in
set_option maxHeartbeats 1000000 in
theorem compress_any (x : E8) (hx : x.ok) (kf wf : Nat → Nat) (hk : ∀ j, kf j < 4294967296) (hw : ∀ j, wf j < 4294967296) (w : World) :
    Calls Tryz.prog 302 #[.agg (u8A x), .agg (u64A kf), .agg (u64A wf)] w fun e w' => e = .returned (.agg (u8A ((rounds kf wf 64 x).plus x))) ∧ Old w w' := by
  go_enter Tryz.func302, Tryz.ntmps302
  go_wp2_with fail
  obtain ⟨hA, hK, hW, hZ, hO⟩ := compress_start x kf wf w #[.int .u32 0, .int .u32 0, .int .u32 0, .int .u32 0, .int .u32 0, .int .u32 0, .int .u32 0, .int .u32 0] 181 247
  generalize (((w.alloc (.cells (u8A x) 181)).alloc (.cells (u64A kf) 247)).alloc (.cells (u64A wf) 247)).alloc (.cells #[.int .u32 0, .int .u32 0, .int .u32 0, .int .u32 0, .int .u32 0, .int .u32 0, .int .u32 0, .int .u32 0] 181) = W at *
  have s0 : W.cell? ⟨w.heap.size, 0, none⟩ = some (.int .u32 x.a) := hA.row.cell 0 (by omega)
  have s1 : W.cell? ⟨w.heap.size, 1, none⟩ = some (.int .u32 x.b) := hA.row.cell 1 (by omega)
  have s2 : W.cell? ⟨w.heap.size, 2, none⟩ = some (.int .u32 x.c) := hA.row.cell 2 (by omega)
  have s3 : W.cell? ⟨w.heap.size, 3, none⟩ = some (.int .u32 x.d) := hA.row.cell 3 (by omega)
  have s4 : W.cell? ⟨w.heap.size, 4, none⟩ = some (.int .u32 x.e) := hA.row.cell 4 (by omega)
  have s5 : W.cell? ⟨w.heap.size, 5, none⟩ = some (.int .u32 x.f) := hA.row.cell 5 (by omega)
  have s6 : W.cell? ⟨w.heap.size, 6, none⟩ = some (.int .u32 x.g) := hA.row.cell 6 (by omega)
  have s7 : W.cell? ⟨w.heap.size, 7, none⟩ = some (.int .u32 x.h) := hA.row.cell 7 (by omega)
  have HK := hide hK
  have HW := hide hW
  have HZ := hide hZ
  have HO := hide hO
  clear hA hK hW hZ hO
  go_quiet (fail)
  go_wp2_with fail
  go_quiet (fail)
  go_wp2_with fail
  go_loopw [7, 8, 9, 10, 11, 12, 13, 14, 34] (fun a b c d e f g h i wr => ∃ t n : Nat, t ≤ 64 ∧ i = .int .i64 t ∧ wr = W.drewN n ∧ a = .int .u32 (rounds kf wf t x).a ∧ b = .int .u32 (rounds kf wf t x).b ∧ c = .int .u32 (rounds kf wf t x).c ∧ d = .int .u32 (rounds kf wf t x).d ∧ e = .int .u32 (rounds kf wf t x).e ∧ f = .int .u32 (rounds kf wf t x).f ∧ g = .int .u32 (rounds kf wf t x).g ∧ h = .int .u32 (rounds kf wf t x).h) (fun _ _ _ _ _ _ _ _ i _ => 64 - (intOf i).toNat)
  case atStart => exact ⟨0, _, by omega, rfl, (by first | rfl | exact World.drewN_drewN ..), rfl, rfl, rfl, rfl, rfl, rfl, rfl, rfl⟩
  case round =>
    obtain ⟨t, n, ht, rfl, rfl, rfl, rfl, rfl, rfl, rfl, rfl, rfl, rfl⟩ := hrel
    by_cases h64 : t < 64
    · have HRD : Hid (rounds kf wf (t + 1) x = (rounds kf wf t x).round (kf t) (wf t)) := rfl
      have hok := rounds_ok kf wf t hx
      have bk := hk t
      have bw := hw t
      have ck := (unhide HK).row.cell t h64
      have cw := (unhide HW).row.cell t h64
      have ht0 : (0 : Int) ≤ (t : Int) := by omega
      have ht1 : (t : Int) < 64 := by omega
      generalize rounds kf wf t x = y at HRD hok ⊢
      obtain ⟨a, b, c, d, e, f, g, h⟩ := y
      obtain ⟨ba, bb, bc, bd, be, bf, bg, bh⟩ := hok
      simp only at ba bb bc bd be bf bg bh
      have l0 := bg0_lt ba
      have l1 := bg1_lt be
      have lc := chs_lt (f := f) (g := g) be
      have lm := mjr_lt (c := c) ba bb
      have HS1 := hide (fun (w1 : World) => bigS1_any e be w1)
      have HS0 := hide (fun (w1 : World) => bigS0_any a ba w1)
      have HCH := hide (fun (w1 : World) => choice_any e f g be bf bg w1)
      have HMJ := hide (fun (w1 : World) => majority_any a b c ba bb bc w1)
      have HR2 : Hid (rounds kf wf (t + 1) x = ⟨(h + bg1 e + chs e f g + kf t + wf t + (bg0 a + mjr a b c)) % 4294967296, a, b, c, (d + (h + bg1 e + chs e f g + kf t + wf t)) % 4294967296, e, f, g⟩) := unhide HRD
      clear HRD
      generalize chs e f g = CH at HCH lc HR2
      generalize mjr a b c = MJ at HMJ lm HR2
      generalize bg0 a = B0 at HS0 l0 HR2
      generalize bg1 e = B1 at HS1 l1 HR2
      generalize kf t = kt at ck bk HR2
      generalize wf t = wtt at cw bw HR2
      go_wp2_with fail
      go_quiet (first
        | (go_at_call 340; exact quiet_same (unhide HS1 _))
        | (go_at_call 341; exact quiet_same (unhide HCH _)))
      go_wp2_with (first
        | (go_at_call 342; refine (unhide HS0 _).mono ?_; rintro e w1 ⟨rfl, rfl⟩)
        | (go_at_call 343; refine (unhide HMJ _).mono ?_; rintro e w1 ⟨rfl, rfl⟩))
      go_roundw
      case rel =>
        refine ⟨t + 1, n + nq, by omega, by go_num, rfl, ?_, ?_, ?_, ?_, ?_, ?_, ?_, ?_⟩ <;> rw [unhide HR2]
        · exact congrArg (Value.int .u32) (by show _ = (((h + B1 + CH + kt + wtt + (B0 + MJ)) % 4294967296 : Nat) : Int); omega)
        · exact congrArg (Value.int .u32) (by show _ = (((d + (h + B1 + CH + kt + wtt)) % 4294967296 : Nat) : Int); omega)
      case measure => simp [intOf]; omega
    · have ht64 : t = 64 := by omega
      have hZ : (W.drewN n).heap[w.heap.size + 3]? = some (.cells #[.int .u32 0, .int .u32 0, .int .u32 0, .int .u32 0, .int .u32 0, .int .u32 0, .int .u32 0, .int .u32 0] 181 (0, 0)) := unhide HZ
      have HY : Hid ((rounds kf wf 64 x) = rounds kf wf t x) := by rw [ht64]; rfl
      clear HZ HK HW ht64
      generalize rounds kf wf t x = y at HY ⊢
      go_wp2_with (refine wpList_store_row rfl 181 (.tmp 6) (.tmp 106) rfl (w.heap.size + 3) _ rfl rfl 181 _ hZ infoA8 rfl (ints8 _ _ _ _ _ _ _ _) ?_)
      refine bodyPost_ret (v := .agg (plus8 x y)) (results_cell_row Tryz.results302 _ _ (w.heap.size + 3) 181 (plus8 x y) (0, 0) _ rfl (setRow_heap (W.drewN n) (w.heap.size + 3) _ (plus8 x y) _ _ hZ) Tryz.underlying181 rfl infoA8) rfl ⟨?_, ?_⟩
      · rw [plus8_eq, unhide HY]
      · exact ((unhide HO).drewN n).setRow _ (fun h => absurd h (by omega)) _
end Go.Proofs.YtndfmgdhiallpaaGreatDoor
