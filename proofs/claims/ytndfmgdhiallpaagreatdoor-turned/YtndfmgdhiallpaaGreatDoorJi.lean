/- Archives: numbers are read, by the code. Archives: an item is read, by the code. -/
import Derived.Test.YtndfmgdhiallpaaGreatDoorJh
import Derived.Test.YtndfmgdhiallpaaGreatDoorSh
namespace Go.Proofs.YtndfmgdhiallpaaGreatDoor
open Go.RowKit

/-- A number of n bytes at a, the lowest first. -/
def numL (s : ByteArray) (a : Nat) : Nat → Nat
  | 0 => 0
  | n + 1 => numL s a n + btN s (a + n) * 2 ^ (8 * n)
theorem numL_lt (s : ByteArray) (a n : Nat) : numL s a n < 2 ^ (8 * n) := by
  induction n with
  | zero => simp [numL]
  | succ n ih =>
    have hb := btN_lt s (a + n)
    rw [numL, show 8 * (n + 1) = 8 * n + 8 by omega, Nat.pow_add]
    have : btN s (a + n) * 2 ^ (8 * n) ≤ 255 * 2 ^ (8 * n) := Nat.mul_le_mul_right _ (by omega)
    omega
theorem numL_or (s : ByteArray) (a n : Nat) : numL s a n ||| btN s (a + n) * 2 ^ (8 * n) = numL s a (n + 1) := by
  have h := Nat.two_pow_add_eq_or_of_lt (numL_lt s a n) (btN s (a + n))
  rw [numL, Nat.or_comm, Nat.mul_comm, ← h, Nat.add_comm, Nat.mul_comm]
set_option maxRecDepth 100000 in
set_option maxHeartbeats 1000000 in
theorem numberR (s : ByteArray) (a n : Nat) (hn : n ≤ 4) (ha : a + n ≤ s.size) (hs : s.size ≤ 1000000) (w : World) :
    Calls Tryz.prog 272 #[.string s, .int .i64 a, .int .i64 n] w fun r w' => r = .returned (.int .u32 (numL s a n)) ∧ w' = w := by
  go_enter Tryz.func272, Tryz.ntmps272
  go_wp2_with fail
  go_loop [7, 8, 10] (fun u _ x => ∃ j : Nat, j ≤ n ∧ x = .int .i64 j ∧ u = .int .u32 (numL s a j)) (fun _ _ x => n - (intOf x).toNat)
  case atStart => exact ⟨0, by omega, rfl, rfl⟩
  case round =>
    obtain ⟨j, hj, rfl, rfl⟩ := hrel
    by_cases hlt : j < n
    · have hltI : (j : Int) < (n : Int) := by omega
      have hk : a + j < s.size := by omega
      have hb := btN_get (s := s) (k := a + j) hk
      have hbl := btN_lt s (a + j)
      have hll := numL_lt s a j
      have hp : 2 ^ (8 * j) ≤ 2 ^ 24 := Nat.pow_le_pow_right (by omega) (by omega)
      have hp2 : 2 ^ (8 * (j + 1)) ≤ 2 ^ 32 := Nat.pow_le_pow_right (by omega) (by omega)
      have hq : btN s (a + j) * 2 ^ (8 * j) < 4294967296 := by
        have : btN s (a + j) * 2 ^ (8 * j) ≤ 255 * 2 ^ 24 := Nat.mul_le_mul (by omega) hp
        omega
      have hor := numL_or s a j
      have hll2 : numL s a j < 4294967296 := by omega
      have hx := u32_or_nat (numL s a j) (btN s (a + j) * 2 ^ (8 * j)) hll2 hq
      have hmu : (btN s (a + j) : Int) * 2 ^ (8 * j) = ((btN s (a + j) * 2 ^ (8 * j) : Nat) : Int) := by rw [Int.natCast_mul, Int.natCast_pow]; rfl
      rw [hor] at hx
      clear hp hp2 hll hor
      generalize btN s (a + j) * 2 ^ (8 * j) = q at *
      generalize btN s (a + j) = b at *
      generalize numL s a j = m at *
      have hnx : numL s a (j + 1) < 4294967296 := by
        have := numL_lt s a (j + 1)
        have hp2 : 2 ^ (8 * (j + 1)) ≤ 2 ^ 32 := Nat.pow_le_pow_right (by omega) (by omega)
        omega
      have HE : Hid (∃ M, numL s a (j + 1) = M) := ⟨_, rfl⟩
      obtain ⟨M, hM⟩ := unhide HE
      rw [hM] at hx hnx
      have HM := hide hM
      clear hM HE
      go_wp2_with fail
      go_round
      case rel => exact ⟨j + 1, by omega, by go_num, by rw [unhide HM]⟩
      case measure => simp [intOf]; omega
    · have hltI : ¬ (j : Int) < (n : Int) := by omega
      have hje : j = n := by omega
      subst hje
      go_wp2_with fail
      go_ret
      exact ⟨rfl, rfl⟩
end Go.Proofs.YtndfmgdhiallpaaGreatDoor
namespace Go.Proofs.YtndfmgdhiallpaaGreatDoor
open Go.RowKit

theorem results_cell_tmp2 {P : Program} {fn : Func} {p t u : Tmp} {ty : TypeId} (h : fn.results = #[.cell p ty, .tmp t, .tmp u]) (tmps : Array Value) (w : World) (g : Nat) (t0 : TypeId) (cs : Array Value) (fr : Nat × Nat) (d : TypeDesc)
    (hp : tmps.getD p undef = .pointer (some ⟨g, 0, none⟩)) (hg : w.heap[g]? = some (.cells cs t0 fr))
    (hu : P.underlying ty = some d) (hd : (match d with | .struct _ | .array _ _ => true | _ => false) = true) (hi : (P.info? ty).map (·.size) = some cs.size) :
    (results fn tmps).run P w = .ok (.tuple #[.agg cs, tmps.getD t undef, tmps.getD u undef]) w := by
  have hp' : tmps[p]?.getD undef = .pointer (some ⟨g, 0, none⟩) := by simpa using hp
  simp [results, h, hp', asAddr, run_loadVar_row w g t0 ty cs fr d hg hu hd hi]
set_option maxRecDepth 100000 in
set_option maxHeartbeats 4000000 in
theorem readItemR (p s nm : ByteArray) (e1 e2 wy ck sz : Nat) (hs : s.size ≤ 40000) (h30 : 30 ≤ s.size) (hE1 : 30 + numL s 26 2 = e1) (hE2 : e1 + numL s 18 4 = e2) (he : e2 ≤ s.size)
    (hpr : Lib.hasPrefix (s.extract 30 e1).data.toList p.data.toList = true) (hnm : ByteArray.mk (Lib.trimPrefix (s.extract 30 e1).data.toList p.data.toList).toArray = nm) (hwy : numL s 8 2 = wy) (hw8 : wy = 0 ∨ wy = 8) (hck : numL s 14 4 = ck) (hsz : numL s 22 4 = sz) (w : World) :
    Calls Tryz.prog 173 #[.string p, .string s] w fun r w' => r = .returned (.tuple #[.agg #[.string nm, .int .u32 wy, .int .u32 ck, .int .u32 sz, .string (s.extract e1 e2)], .string (s.extract e2 s.size), .bool true]) ∧ Old w w' := by
  have b1 := numL_lt s 26 2
  have b2 := numL_lt s 18 4
  have N1 := hide (fun W => numberR s 26 2 (by omega) (by omega) (by omega) W)
  have N2 := hide (fun W => numberR s 18 4 (by omega) (by omega) (by omega) W)
  have N3 := hide (fun W => numberR s 8 2 (by omega) (by omega) (by omega) W)
  have N4 := hide (fun W => numberR s 14 4 (by omega) (by omega) (by omega) W)
  have N5 := hide (fun W => numberR s 22 4 (by omega) (by omega) (by omega) W)
  have HCP := hide (fun W => Tryz.strings_CutPrefix (s.extract 30 e1) p W)
  rw [hpr, hnm] at HCP
  rw [hwy] at N3
  rw [hck] at N4
  rw [hsz] at N5
  clear hpr hnm hwy hck hsz
  generalize numL s 26 2 = k1 at *
  generalize numL s 18 4 = k2 at *
  have hA : Old w (w.alloc (.cells #[.string ⟨#[]⟩, .int .u32 0, .int .u32 0, .int .u32 0, .string ⟨#[]⟩] 131)) := (Only.refl _ w).alloc _
  have HZ : Hid ((w.alloc (.cells #[.string ⟨#[]⟩, .int .u32 0, .int .u32 0, .int .u32 0, .string ⟨#[]⟩] 131)).heap[w.heap.size]? = some (.cells #[.string ⟨#[]⟩, .int .u32 0, .int .u32 0, .int .u32 0, .string ⟨#[]⟩] 131 (0, 0))) := Go.heap_alloc_new w _
  have HO := hide hA
  clear hA
  have hk1 : k1 < 65536 := b1
  have hk2 : k2 ≤ 40000 := by omega
  clear b1 b2
  have q1 : (30 : Int) + (k1 : Int) = (e1 : Int) := by omega
  have q2 : (e1 : Int) + (k2 : Int) = (e2 : Int) := by omega
  have hsI : ¬ (s.size : Int) < 30 := by omega
  have heI : ¬ (s.size : Int) < (e2 : Int) := by omega
  have he1 : 30 ≤ e1 := by omega
  have he12 : e1 ≤ e2 := by omega
  have he1s : e1 ≤ s.size := by omega
  have hu1 : IntKind.u64.wrap (e1 : Int) = (e1 : Int) := by rw [IntKind.wrap_u64]; omega
  have hu2 : IntKind.u64.wrap (e2 : Int) = (e2 : Int) := by rw [IntKind.wrap_u64]; omega
  have hsl1 : ∀ W, (Instr.slice 9 (.string s) (some (.int .i64 30)) (some (.int .u64 (e1 : Int))) none).run Tryz.prog W = .ok (.string (s.extract 30 e1)) W := fun W => run_slice_string W 9 s .i64 .u64 30 e1 Tryz.underlying9 (by omega) (by omega) (by omega)
  have hsl2 : ∀ W, (Instr.slice 9 (.string s) (some (.int .u64 (e1 : Int))) (some (.int .u64 (e2 : Int))) none).run Tryz.prog W = .ok (.string (s.extract e1 e2)) W := fun W => run_slice_string W 9 s .u64 .u64 e1 e2 Tryz.underlying9 (by omega) (by omega) (by omega)
  have hsl3 : ∀ W, (Instr.slice 9 (.string s) (some (.int .u64 (e2 : Int))) none none).run Tryz.prog W = .ok (.string (s.extract e2 s.size)) W := fun W => run_slice_string_l W 9 s Tryz.underlying9 .u64 e2 (by omega) (by omega)
  clear hE1 hE2
  go_enter Tryz.func173, Tryz.ntmps173
  go_wp2_with fail
  generalize w.alloc (.cells #[.string ⟨#[]⟩, .int .u32 0, .int .u32 0, .int .u32 0, .string ⟨#[]⟩] 131) = W at *
  refine (unhide N1 _).mono ?_
  rintro r w1 ⟨rfl, rfl⟩
  go_wp2_with fail
  refine (unhide N2 _).mono ?_
  rintro r w2 ⟨rfl, rfl⟩
  go_wp2_with fail
  refine (unhide HCP _).mono ?_
  rintro r w3 ⟨rfl, rfl⟩
  go_wp2_with fail
  refine (unhide N3 _).mono ?_
  rintro r w4 ⟨rfl, rfl⟩
  rcases hw8 with rfl | rfl
  · have hwz : ((0 : Nat) : Int) = 0 := rfl
    simp only [hwz] at *
    go_upto_region 11 with fail
    refine wp_region_last (S := fun _ => True) (L := 16) (by kernel_rfl) ?_
    refine wpAnyL_takeT (i := 0) (f := 17) (v := .string nm) (some 52) rfl rfl (by kernel_rfl) (by decide) (by kernel_rfl) (by kernel_rfl) (by kernel_rfl) (by kernel_rfl) (fun _ _ _ h => h) (.inl ⟨rfl, fun W _ => by go_simp⟩) trivial ?_
    simp only [Act.put, List.setIfInBounds_toArray, List.set_cons_zero, List.set_cons_succ]
    refine wpAnyL_takeT (i := 1) (f := 17) (v := .int .u32 0) (some 53) rfl rfl (by kernel_rfl) (by decide) (by kernel_rfl) (by kernel_rfl) (by kernel_rfl) (by kernel_rfl) (fun _ _ _ h => h) (.inl ⟨rfl, fun W _ => by go_simp⟩) trivial ?_
    simp only [Act.put, List.setIfInBounds_toArray, List.set_cons_zero, List.set_cons_succ]
    refine wpAnyL_takeT (i := 2) (f := 17) (v := .string s) (some 54) rfl rfl (by kernel_rfl) (by decide) (by kernel_rfl) (by kernel_rfl) (by kernel_rfl) (by kernel_rfl) (fun _ _ _ h => h) (.inl ⟨rfl, fun W _ => by go_simp⟩) trivial ?_
    simp only [Act.put, List.setIfInBounds_toArray, List.set_cons_zero, List.set_cons_succ]
    refine wpAnyL_takeT (i := 4) (f := 17) (v := .string s) (some 56) rfl rfl (by kernel_rfl) (by decide) (by kernel_rfl) (by kernel_rfl) (by kernel_rfl) (by kernel_rfl) (fun _ _ _ h => h) (.inl ⟨rfl, fun W _ => by go_simp⟩) trivial ?_
    simp only [Act.put, List.setIfInBounds_toArray, List.set_cons_zero, List.set_cons_succ]
    refine wpAnyL_takeT (i := 6) (f := 17) (v := .string s) (some 58) rfl rfl (by kernel_rfl) (by decide) (by kernel_rfl) (by kernel_rfl) (by kernel_rfl) (by kernel_rfl) (fun _ _ _ h => h) (.inl ⟨rfl, fun W _ => by go_simp⟩) trivial ?_
    simp only [Act.put, List.setIfInBounds_toArray, List.set_cons_zero, List.set_cons_succ]
    refine wpAnyL_takeT (i := 7) (f := 17) (v := .int .u64 (e1 : Int)) (some 59) rfl rfl (by kernel_rfl) (by decide) (by kernel_rfl) (by kernel_rfl) (by kernel_rfl) (by kernel_rfl) (fun _ _ _ h => h) (.inl ⟨rfl, fun W _ => by go_simp⟩) trivial ?_
    simp only [Act.put, List.setIfInBounds_toArray, List.set_cons_zero, List.set_cons_succ]
    refine wpAnyL_takeT (i := 8) (f := 17) (v := .int .u64 (e2 : Int)) (some 60) rfl rfl (by kernel_rfl) (by decide) (by kernel_rfl) (by kernel_rfl) (by kernel_rfl) (by kernel_rfl) (fun _ _ _ h => h) (.inl ⟨rfl, fun W _ => by go_simp⟩) trivial ?_
    simp only [Act.put, List.setIfInBounds_toArray, List.set_cons_zero, List.set_cons_succ]
    refine wpAnyL_takeT (i := 9) (f := 17) (v := .string (s.extract e1 e2)) (some 61) rfl rfl (by kernel_rfl) (by decide) (by kernel_rfl) (by kernel_rfl) (by kernel_rfl) (by kernel_rfl) (fun _ _ _ h => h) (.inl ⟨rfl, fun W _ => by go_simp⟩) trivial ?_
    simp only [Act.put, List.setIfInBounds_toArray, List.set_cons_zero, List.set_cons_succ]
    refine wpAnyL_takeT (i := 11) (f := 17) (v := .string s) (some 63) rfl rfl (by kernel_rfl) (by decide) (by kernel_rfl) (by kernel_rfl) (by kernel_rfl) (by kernel_rfl) (fun _ _ _ h => h) (.inl ⟨rfl, fun W _ => by go_simp⟩) trivial ?_
    simp only [Act.put, List.setIfInBounds_toArray, List.set_cons_zero, List.set_cons_succ]
    refine wpAnyL_takeT (i := 12) (f := 17) (v := .int .u64 (e2 : Int)) (some 64) rfl rfl (by kernel_rfl) (by decide) (by kernel_rfl) (by kernel_rfl) (by kernel_rfl) (by kernel_rfl) (fun _ _ _ h => h) (.inl ⟨rfl, fun W _ => by go_simp⟩) trivial ?_
    simp only [Act.put, List.setIfInBounds_toArray, List.set_cons_zero, List.set_cons_succ]
    refine wpAnyL_takeT (i := 13) (f := 17) (v := .string (s.extract e2 s.size)) (some 65) rfl rfl (by kernel_rfl) (by decide) (by kernel_rfl) (by kernel_rfl) (by kernel_rfl) (by kernel_rfl) (fun _ _ _ h => h) (.inl ⟨rfl, fun W _ => by go_simp⟩) trivial ?_
    simp only [Act.put, List.setIfInBounds_toArray, List.set_cons_zero, List.set_cons_succ]
    refine wpAnyL_one (i := 3) (by kernel_rfl) ?_
    refine wpOp_step rfl (fun K' hK => ?_)
    go_simp
    refine (unhide N4 _).mono ?_
    rintro r w5 ⟨rfl, rfl⟩
    refine hK _ _ ⟨fun _ => trivial, ?_⟩
    clear hK
    refine wpAnyL_one (i := 5) (by kernel_rfl) ?_
    refine wpOp_step rfl (fun K' hK => ?_)
    go_simp
    refine (unhide N5 _).mono ?_
    rintro r w6 ⟨rfl, rfl⟩
    refine hK _ _ ⟨fun _ => trivial, ?_⟩
    clear hK
    refine wpAnyL_takeT (i := 10) (f := 17) (v := .agg #[.string nm, .int .u32 0, .int .u32 (ck : Int), .int .u32 (sz : Int), .string (s.extract e1 e2)]) (some 62) rfl rfl (by kernel_rfl) (by decide) (by kernel_rfl) (by kernel_rfl) (by kernel_rfl) (by kernel_rfl) (fun _ _ _ h => h) (.inl ⟨rfl, fun W _ => by go_simp⟩) trivial ?_
    simp only [Act.put, List.setIfInBounds_toArray, List.set_cons_zero, List.set_cons_succ]
    refine wpAnyL_one (i := 14) (by kernel_rfl) ?_
    refine op_plain rfl rfl (wp_store_row 131 (.tmp 4) (.tmp 62) rfl w.heap.size #[.string nm, .int .u32 0, .int .u32 (ck : Int), .int .u32 (sz : Int), .string (s.extract e1 e2)] rfl rfl 131 _ (show w4.drew.heap[w.heap.size]? = _ from unhide HZ) infoItem rfl (it_one _ _ _ _ _) ?_)
    refine ⟨fun _ => trivial, ?_⟩
    simp only [Act.put]
    refine wpAnyL_one (i := 15) (by kernel_rfl) ?_
    refine wpOp_step rfl (fun K' hK => ?_)
    go_simp
    refine hK _ _ ⟨fun _ => trivial, ?_⟩
    clear hK
    refine wpAnyL_one (i := 16) (by kernel_rfl) ?_
    refine wpOp_step rfl (fun K' hK => ?_)
    go_simp
    refine hK _ _ ⟨fun _ => trivial, ?_⟩
    clear hK
    refine wpAnyL_done (by kernel_rfl) ?_
    go_wp2_with fail
    refine bodyPost_ret (results_cell_tmp2 Tryz.results173 _ _ w.heap.size 131 _ (0, 0) _ rfl (setRow_heap w4.drew w.heap.size _ #[.string nm, .int .u32 0, .int .u32 (ck : Int), .int .u32 (sz : Int), .string (s.extract e1 e2)] _ _ (unhide HZ)) Tryz.underlying131 rfl infoItem) rfl ⟨?_, ((unhide HO).drew).setRow _ (fun h => absurd h (Nat.lt_irrefl _)) _⟩
    rfl
  · have hwz : ((8 : Nat) : Int) = 8 := rfl
    simp only [hwz] at *
    go_upto_region 11 with fail
    refine wp_region_last (S := fun _ => True) (L := 16) (by kernel_rfl) ?_
    refine wpAnyL_takeT (i := 0) (f := 17) (v := .string nm) (some 52) rfl rfl (by kernel_rfl) (by decide) (by kernel_rfl) (by kernel_rfl) (by kernel_rfl) (by kernel_rfl) (fun _ _ _ h => h) (.inl ⟨rfl, fun W _ => by go_simp⟩) trivial ?_
    simp only [Act.put, List.setIfInBounds_toArray, List.set_cons_zero, List.set_cons_succ]
    refine wpAnyL_takeT (i := 1) (f := 17) (v := .int .u32 8) (some 53) rfl rfl (by kernel_rfl) (by decide) (by kernel_rfl) (by kernel_rfl) (by kernel_rfl) (by kernel_rfl) (fun _ _ _ h => h) (.inl ⟨rfl, fun W _ => by go_simp⟩) trivial ?_
    simp only [Act.put, List.setIfInBounds_toArray, List.set_cons_zero, List.set_cons_succ]
    refine wpAnyL_takeT (i := 2) (f := 17) (v := .string s) (some 54) rfl rfl (by kernel_rfl) (by decide) (by kernel_rfl) (by kernel_rfl) (by kernel_rfl) (by kernel_rfl) (fun _ _ _ h => h) (.inl ⟨rfl, fun W _ => by go_simp⟩) trivial ?_
    simp only [Act.put, List.setIfInBounds_toArray, List.set_cons_zero, List.set_cons_succ]
    refine wpAnyL_takeT (i := 4) (f := 17) (v := .string s) (some 56) rfl rfl (by kernel_rfl) (by decide) (by kernel_rfl) (by kernel_rfl) (by kernel_rfl) (by kernel_rfl) (fun _ _ _ h => h) (.inl ⟨rfl, fun W _ => by go_simp⟩) trivial ?_
    simp only [Act.put, List.setIfInBounds_toArray, List.set_cons_zero, List.set_cons_succ]
    refine wpAnyL_takeT (i := 6) (f := 17) (v := .string s) (some 58) rfl rfl (by kernel_rfl) (by decide) (by kernel_rfl) (by kernel_rfl) (by kernel_rfl) (by kernel_rfl) (fun _ _ _ h => h) (.inl ⟨rfl, fun W _ => by go_simp⟩) trivial ?_
    simp only [Act.put, List.setIfInBounds_toArray, List.set_cons_zero, List.set_cons_succ]
    refine wpAnyL_takeT (i := 7) (f := 17) (v := .int .u64 (e1 : Int)) (some 59) rfl rfl (by kernel_rfl) (by decide) (by kernel_rfl) (by kernel_rfl) (by kernel_rfl) (by kernel_rfl) (fun _ _ _ h => h) (.inl ⟨rfl, fun W _ => by go_simp⟩) trivial ?_
    simp only [Act.put, List.setIfInBounds_toArray, List.set_cons_zero, List.set_cons_succ]
    refine wpAnyL_takeT (i := 8) (f := 17) (v := .int .u64 (e2 : Int)) (some 60) rfl rfl (by kernel_rfl) (by decide) (by kernel_rfl) (by kernel_rfl) (by kernel_rfl) (by kernel_rfl) (fun _ _ _ h => h) (.inl ⟨rfl, fun W _ => by go_simp⟩) trivial ?_
    simp only [Act.put, List.setIfInBounds_toArray, List.set_cons_zero, List.set_cons_succ]
    refine wpAnyL_takeT (i := 9) (f := 17) (v := .string (s.extract e1 e2)) (some 61) rfl rfl (by kernel_rfl) (by decide) (by kernel_rfl) (by kernel_rfl) (by kernel_rfl) (by kernel_rfl) (fun _ _ _ h => h) (.inl ⟨rfl, fun W _ => by go_simp⟩) trivial ?_
    simp only [Act.put, List.setIfInBounds_toArray, List.set_cons_zero, List.set_cons_succ]
    refine wpAnyL_takeT (i := 11) (f := 17) (v := .string s) (some 63) rfl rfl (by kernel_rfl) (by decide) (by kernel_rfl) (by kernel_rfl) (by kernel_rfl) (by kernel_rfl) (fun _ _ _ h => h) (.inl ⟨rfl, fun W _ => by go_simp⟩) trivial ?_
    simp only [Act.put, List.setIfInBounds_toArray, List.set_cons_zero, List.set_cons_succ]
    refine wpAnyL_takeT (i := 12) (f := 17) (v := .int .u64 (e2 : Int)) (some 64) rfl rfl (by kernel_rfl) (by decide) (by kernel_rfl) (by kernel_rfl) (by kernel_rfl) (by kernel_rfl) (fun _ _ _ h => h) (.inl ⟨rfl, fun W _ => by go_simp⟩) trivial ?_
    simp only [Act.put, List.setIfInBounds_toArray, List.set_cons_zero, List.set_cons_succ]
    refine wpAnyL_takeT (i := 13) (f := 17) (v := .string (s.extract e2 s.size)) (some 65) rfl rfl (by kernel_rfl) (by decide) (by kernel_rfl) (by kernel_rfl) (by kernel_rfl) (by kernel_rfl) (fun _ _ _ h => h) (.inl ⟨rfl, fun W _ => by go_simp⟩) trivial ?_
    simp only [Act.put, List.setIfInBounds_toArray, List.set_cons_zero, List.set_cons_succ]
    refine wpAnyL_one (i := 3) (by kernel_rfl) ?_
    refine wpOp_step rfl (fun K' hK => ?_)
    go_simp
    refine (unhide N4 _).mono ?_
    rintro r w5 ⟨rfl, rfl⟩
    refine hK _ _ ⟨fun _ => trivial, ?_⟩
    clear hK
    refine wpAnyL_one (i := 5) (by kernel_rfl) ?_
    refine wpOp_step rfl (fun K' hK => ?_)
    go_simp
    refine (unhide N5 _).mono ?_
    rintro r w6 ⟨rfl, rfl⟩
    refine hK _ _ ⟨fun _ => trivial, ?_⟩
    clear hK
    refine wpAnyL_takeT (i := 10) (f := 17) (v := .agg #[.string nm, .int .u32 8, .int .u32 (ck : Int), .int .u32 (sz : Int), .string (s.extract e1 e2)]) (some 62) rfl rfl (by kernel_rfl) (by decide) (by kernel_rfl) (by kernel_rfl) (by kernel_rfl) (by kernel_rfl) (fun _ _ _ h => h) (.inl ⟨rfl, fun W _ => by go_simp⟩) trivial ?_
    simp only [Act.put, List.setIfInBounds_toArray, List.set_cons_zero, List.set_cons_succ]
    refine wpAnyL_one (i := 14) (by kernel_rfl) ?_
    refine op_plain rfl rfl (wp_store_row 131 (.tmp 4) (.tmp 62) rfl w.heap.size #[.string nm, .int .u32 8, .int .u32 (ck : Int), .int .u32 (sz : Int), .string (s.extract e1 e2)] rfl rfl 131 _ (show w4.drew.heap[w.heap.size]? = _ from unhide HZ) infoItem rfl (it_one _ _ _ _ _) ?_)
    refine ⟨fun _ => trivial, ?_⟩
    simp only [Act.put]
    refine wpAnyL_one (i := 15) (by kernel_rfl) ?_
    refine wpOp_step rfl (fun K' hK => ?_)
    go_simp
    refine hK _ _ ⟨fun _ => trivial, ?_⟩
    clear hK
    refine wpAnyL_one (i := 16) (by kernel_rfl) ?_
    refine wpOp_step rfl (fun K' hK => ?_)
    go_simp
    refine hK _ _ ⟨fun _ => trivial, ?_⟩
    clear hK
    refine wpAnyL_done (by kernel_rfl) ?_
    go_wp2_with fail
    refine bodyPost_ret (results_cell_tmp2 Tryz.results173 _ _ w.heap.size 131 _ (0, 0) _ rfl (setRow_heap w4.drew w.heap.size _ #[.string nm, .int .u32 8, .int .u32 (ck : Int), .int .u32 (sz : Int), .string (s.extract e1 e2)] _ _ (unhide HZ)) Tryz.underlying131 rfl infoItem) rfl ⟨?_, ((unhide HO).drew).setRow _ (fun h => absurd h (Nat.lt_irrefl _)) _⟩
    rfl
end Go.Proofs.YtndfmgdhiallpaaGreatDoor
