/- Packed bytes: the code's reader. Packed bytes: the code's sets of codes: Symbol, symbol. Packed bytes: the code's lengths and distances. Regions that draw their order, in which some late operations wait for all that is taken first: what is held need not outlive these. Packed bytes: the code's copies. -/
import Derived.Test.YtndfmgdhiallpaaGreatDoorMh
import Derived.Test.YtndfmgdhiallpaaGreatDoorMe
namespace Go.Proofs.YtndfmgdhiallpaaGreatDoor
open Go.RowKit

abbrev upT : TypeId := 109
/-- The code's unpacker lies at g. -/
def Up (w : World) (g : Nat) (s : ByteArray) (a : Nat) (o : Value) : Prop := w.heap[g]? = some (.cells #[.string s, .int .i64 a, o] upT (0, 0))
section
variable {w : World} {g : Nat} {s : ByteArray} {a : Nat} {o : Value}
theorem Up.lt (h : Up w g s a o) : g < w.heap.size := (Array.getElem?_eq_some_iff.1 h).1
theorem Up.c0 (h : Up w g s a o) : w.cell? ⟨g, 0, none⟩ = some (.string s) := by rw [cell_of_row w g 0 _ _ (0, 0) h]; rfl
theorem Up.c1 (h : Up w g s a o) : w.cell? ⟨g, 1, none⟩ = some (.int .i64 a) := by rw [cell_of_row w g 1 _ _ (0, 0) h]; rfl
theorem Up.c2 (h : Up w g s a o) : w.cell? ⟨g, 2, none⟩ = some o := by rw [cell_of_row w g 2 _ _ (0, 0) h]; rfl
theorem Up.thaw (h : Up w g s a o) (i : Nat) : w.frozen? ⟨g, i, none⟩ = false := frozen_of_row w g i _ _ h
theorem Up.set1 (h : Up w g s a o) {v : Value} {a' : Nat} (hv : v = .int .i64 a') : Up (w.setCell ⟨g, 1, none⟩ v) g s a' o := by subst hv; exact heap_setCell_same w g 1 _ _ _ h
theorem Up.set2 (h : Up w g s a o) (o' : Value) : Up (w.setCell ⟨g, 2, none⟩ o') g s a o' := heap_setCell_same w g 2 _ _ _ h
theorem Up.kept {S : Nat → Prop} {w' : World} (h : Up w g s a o) (ho : Only S w w') (hs : ¬ S g) : Up w' g s a o := (ho.block g h.lt hs).trans h
theorem Up.drewN (h : Up w g s a o) (n : Nat) : Up (w.drewN n) g s a o := h
end

set_option maxRecDepth 100000 in
set_option maxHeartbeats 400000 in
theorem bitC_ok (g : Nat) (s : ByteArray) (hs : s.size ≤ 140737488355328) (a : Nat) (o : Value) (ha : a < 8 * s.size) (w : World) (h : Up w g s a o) :
    Calls Tryz.prog 235 #[.pointer (some ⟨g, 0, none⟩)] w fun r w' => r = .returned (.tuple #[.int .i64 (bitAt s a), .bool true]) ∧ Up w' g s (a + 1) o ∧ Only (fun k => k = g) w w' := by
  have h0 := h.c0
  have h1 := h.c1
  have hf := h.thaw 1
  have HR := hide h
  clear h
  have hk : a / 8 < s.size := by omega
  have hkI : (a : Int) / 8 < (s.size : Int) := by omega
  have hk0 : (0 : Int) ≤ (a : Int) / 8 := by omega
  have htn : ((a : Int) / 8).toNat = a / 8 := by omega
  have hm0 : (0 : Int) ≤ (a : Int) % 8 := by omega
  have htm : ((a : Int) % 8).toNat = a % 8 := by omega
  have hb := btN_get (s := s) (k := a / 8) hk
  have hbl := btN_lt s (a / 8)
  have HB : Hid (bitAt s a = btN s (a / 8) / 2 ^ (a % 8) % 2) := rfl
  have hbe := bit_eq (i := a % 8) hbl
  generalize btN s (a / 8) = b at *
  go_enter Tryz.func235, Tryz.ntmps235
  go_wp2_with fail
  go_quiet (fail)
  go_wp2_with fail
  go_quiet (fail)
  go_wp2_with fail
  go_ret2
  refine ⟨ret2_eq (congrArg (Value.int .i64) ?_) rfl, ?_, ?_⟩
  · rw [unhide HB, Int.natCast_emod, Int.natCast_ediv, Int.natCast_pow]; rfl
  · exact ((unhide HR).drewN _).set1 (by congr 1)
  · exact ((Only.refl (fun k => k = g) w).drewN _).setCell (p := ⟨g, 1, none⟩) (fun _ => rfl) _

set_option maxRecDepth 100000 in
set_option maxHeartbeats 400000 in
theorem bitC_end (g : Nat) (s : ByteArray) (hs : s.size ≤ 140737488355328) (a : Nat) (o : Value) (ha : ¬ a < 8 * s.size) (ha2 : a ≤ 8 * s.size) (w : World) (h : Up w g s a o) :
    Calls Tryz.prog 235 #[.pointer (some ⟨g, 0, none⟩)] w fun r w' => r = .returned (.tuple #[.int .i64 0, .bool false]) ∧ Up w' g s a o ∧ Only (fun k => k = g) w w' := by
  have h0 := h.c0
  have h1 := h.c1
  have HR := hide h
  clear h
  have hkI : ¬ (a : Int) / 8 < (s.size : Int) := by omega
  go_enter Tryz.func235, Tryz.ntmps235
  go_wp2_with fail
  go_quiet (fail)
  go_wp2_with fail
  go_ret2
  exact ⟨rfl, (unhide HR).drewN _, (Only.refl (fun k => k = g) w).drewN _⟩

theorem or_shift {v b i : Nat} (hv : v < 2 ^ i) (hb : b < 2) (hi : i ≤ 16) : bits .or .i64 (v : Int) ((b : Int) * 2 ^ i) = ((v + b * 2 ^ i : Nat) : Int) := by
  have hp : 2 ^ i ≤ 2 ^ 16 := Nat.pow_le_pow_right (by omega) hi
  have hbp : b * 2 ^ i ≤ 1 * 2 ^ i := Nat.mul_le_mul_right _ (by omega)
  have e : (b : Int) * 2 ^ i = ((b * 2 ^ i : Nat) : Int) := by rw [Int.natCast_mul, Int.natCast_pow]; rfl
  rw [e, i64_or_nat _ _ (by omega) (by omega), Nat.or_comm, nat_join i (b * 2 ^ i) v (by simp) hv, Nat.add_comm]

set_option maxRecDepth 100000 in
set_option maxHeartbeats 1000000 in
theorem numberC (g : Nat) (s : ByteArray) (hs : s.size ≤ 140737488355328) (a : Nat) (o : Value) (n : Nat) (hn : n ≤ 16) (ha : a ≤ 8 * s.size) (w : World) (h : Up w g s a o) :
    Calls Tryz.prog 145 #[.pointer (some ⟨g, 0, none⟩), .int .i64 n] w fun r w' => Only (fun k => k = g) w w' ∧
      ((a + n ≤ 8 * s.size ∧ r = .returned (.tuple #[.int .i64 (numAt s a n), .bool true]) ∧ Up w' g s (a + n) o) ∨ (8 * s.size < a + n ∧ r = .returned (.tuple #[.int .i64 0, .bool false]) ∧ Up w' g s (8 * s.size) o)) := by
  have HR := hide h
  clear h
  go_enter Tryz.func145, Tryz.ntmps145
  go_wp2_with fail
  go_loopw [6, 7, 8, 9, 11] (fun x _ _ _ z wr => ∃ v i : Nat, i ≤ n ∧ x = .int .i64 v ∧ z = .int .i64 i ∧ Hid (v = numAt s a i ∧ a + i ≤ 8 * s.size ∧ Up wr g s (a + i) o) ∧ Hid (Only (fun k => k = g) w wr)) (fun _ _ _ _ z _ => n - (intOf z).toNat)
  case atStart => exact ⟨0, 0, by omega, rfl, rfl, ⟨rfl, by omega, HR⟩, Only.refl _ w⟩
  case round =>
    obtain ⟨v, i, hi, rfl, rfl, HI, HO⟩ := hrel
    by_cases hlt : i < n
    · obtain ⟨hv, hai, hup⟩ := unhide HI
      have hltI : (i : Int) < (n : Int) := by omega
      by_cases hat : a + i < 8 * s.size
      · have HB := hide (bitC_ok g s hs (a + i) o hat wr hup)
        have hbl := bitAt_lt s (a + i)
        have hvl : v < 2 ^ i := by rw [hv]; exact numAt_lt s a i
        have HN : Hid (numAt s a (i + 1) = v + bitAt s (a + i) * 2 ^ i) := by unfold Hid; rw [numAt, hv]
        have hos := or_shift hvl hbl (show i ≤ 16 by omega)
        have hpw : 2 ^ i ≤ 2 ^ 15 := Nat.pow_le_pow_right (by omega) (by omega)
        generalize bitAt s (a + i) = b at HB hbl HN hos
        have hbp : b * 2 ^ i ≤ 1 * 2 ^ i := Nat.mul_le_mul_right _ (by omega)
        have hi0 : (0 : Int) ≤ (i : Int) := by omega
        have hi64 : (i : Int) < 64 := by omega
        have htn : ((i : Nat) : Int).toNat = i := Int.toNat_natCast i
        have hwrap : IntKind.i64.wrap ((b : Int) * 2 ^ i) = (b : Int) * 2 ^ i := by
          have e : (b : Int) * 2 ^ i = ((b * 2 ^ i : Nat) : Int) := by rw [Int.natCast_mul, Int.natCast_pow]; rfl
          rw [e]; exact i64_wrap_nat _ (by omega)
        generalize hq : v + b * 2 ^ i = q at hos HN
        clear hv hup hq
        go_wp2_with (go_at_call 235; refine (unhide HB).mono ?_; rintro r w1 ⟨rfl, hr1, ho1⟩; have HR1 := hide hr1; have HO1 := hide ho1; clear hr1 ho1)
        go_roundw
        case rel => exact ⟨q, i + 1, by omega, rfl, by go_num, ⟨(unhide HN).symm, by omega, unhide HR1⟩, (unhide HO).trans (unhide HO1)⟩
        case measure => simp [intOf]; omega
      · have HB := hide (bitC_end g s hs (a + i) o hat hai wr hup)
        have hae : a + i = 8 * s.size := by omega
        clear hv hup
        go_wp2_with (go_at_call 235; refine (unhide HB).mono ?_; rintro r w1 ⟨rfl, hr1, ho1⟩; have HR1 := hide hr1; have HO1 := hide ho1; clear hr1 ho1)
        go_ret2
        refine ⟨(unhide HO).trans (unhide HO1), .inr ⟨by omega, rfl, ?_⟩⟩
        have := unhide HR1
        rw [hae] at this
        exact this
    · have hin : i = n := by omega
      subst hin
      go_wp2_with fail
      go_ret2
      obtain ⟨hv, hai, hup⟩ := unhide HI
      exact ⟨HO, .inl ⟨hai, by rw [hv]; rfl, hup⟩⟩

set_option maxRecDepth 100000 in
theorem usedC (g : Nat) (s : ByteArray) (hs : s.size ≤ 140737488355328) (a : Nat) (o : Value) (ha : a ≤ 8 * s.size) (w : World) (h : Up w g s a o) :
    Calls Tryz.prog 77 #[.pointer (some ⟨g, 0, none⟩)] w fun r w' => r = .returned (.int .i64 ((a + 7) / 8 : Nat)) ∧ w' = w := by
  have h1 := h.c1
  clear h
  go_enter Tryz.func77, Tryz.ntmps77
  go_wp2_with fail
  go_ret
  exact ⟨ret1_eq (congrArg (Value.int .i64) (by omega)), rfl⟩

set_option maxRecDepth 100000 in
theorem skipC (g : Nat) (s : ByteArray) (hs : s.size ≤ 140737488355328) (a : Nat) (o : Value) (ha : a ≤ 8 * s.size) (w : World) (h : Up w g s a o) :
    Calls Tryz.prog 236 #[.pointer (some ⟨g, 0, none⟩)] w fun r w' => r = .returned (.tuple #[]) ∧ Up w' g s (upTo a) o ∧ Only (fun k => k = g) w w' := by
  have h1 := h.c1
  have hf := h.thaw 1
  have HU := hide (usedC g s hs a o ha w h)
  have HR := hide h
  have hb : (a + 7) / 8 ≤ 140737488355329 := by omega
  have HE : Hid (8 * ((a + 7) / 8) = upTo a) := by unfold Hid upTo; omega
  clear h
  generalize (a + 7) / 8 = u at *
  go_enter Tryz.func236, Tryz.ntmps236
  go_wp2_with (go_at_call 77; refine (unhide HU).mono ?_; rintro r w1 ⟨rfl, rfl⟩)
  go_end0
  exact ⟨rfl, (unhide HR).set1 (by rw [← unhide HE, Int.natCast_mul]; rfl), (Only.refl (fun k => k = g) _).setCell (p := ⟨g, 1, none⟩) (fun _ => rfl) _⟩

set_option maxRecDepth 100000 in
theorem bytesC_ok (g : Nat) (s : ByteArray) (hs : s.size ≤ 140737488355328) (q : Nat) (o : Value) (c : Nat) (hq : q + c ≤ s.size) (w : World) (h : Up w g s (8 * q) o) :
    Calls Tryz.prog 238 #[.pointer (some ⟨g, 0, none⟩), .int .i64 c] w fun r w' => r = .returned (.tuple #[.string (s.extract q (q + c)), .bool true]) ∧ Up w' g s (8 * q + 8 * c) o ∧ Only (fun k => k = g) w w' := by
  have h0 := h.c0
  have h1 := h.c1
  have hf := h.thaw 1
  have HR := hide h
  rw [show ((8 * q : Nat) : Int) = 8 * (q : Int) by omega] at h1
  clear h
  have e1 : (8 * (q : Int)) / 8 = (q : Int) := by omega
  have e2 : ¬ (s.size : Int) - (q : Int) < (c : Int) := by omega
  have e3 : (q : Int) + (c : Int) ≤ (s.size : Int) := by omega
  have e4 : ((q : Int) + (c : Int)).toNat = q + c := by omega
  have e5 : (q : Int) ≤ (q : Int) + (c : Int) := by omega
  have e6 : (0 : Int) ≤ (q : Int) := by omega
  go_enter Tryz.func238, Tryz.ntmps238
  go_wp2_with fail
  go_ret2
  exact ⟨rfl, (unhide HR).set1 (by congr 1), (Only.refl (fun k => k = g) _).setCell (p := ⟨g, 1, none⟩) (fun _ => rfl) _⟩

set_option maxRecDepth 100000 in
theorem bytesC_end (g : Nat) (s : ByteArray) (hs : s.size ≤ 140737488355328) (q : Nat) (o : Value) (c : Nat) (hq0 : q ≤ s.size) (hc : c ≤ 65535) (hq : ¬ q + c ≤ s.size) (w : World) (h : Up w g s (8 * q) o) :
    Calls Tryz.prog 238 #[.pointer (some ⟨g, 0, none⟩), .int .i64 c] w fun r w' => r = .returned (.tuple #[.string ⟨#[]⟩, .bool false]) ∧ w' = w := by
  have h0 := h.c0
  have h1 := h.c1
  rw [show ((8 * q : Nat) : Int) = 8 * (q : Int) by omega] at h1
  clear h
  have e1 : (8 * (q : Int)) / 8 = (q : Int) := by omega
  have e2 : (s.size : Int) - (q : Int) < (c : Int) := by omega
  go_enter Tryz.func238, Tryz.ntmps238
  go_wp2_with fail
  go_ret2
  exact ⟨rfl, rfl⟩

set_option maxRecDepth 100000 in
theorem roomC (g : Nat) (s : ByteArray) (a : Nat) (ao : Option Addr) (n cp m : Nat) (hn : n ≤ 20000) (w : World) (h : Up w g s a (.slice ao n cp)) :
    Calls Tryz.prog 237 #[.pointer (some ⟨g, 0, none⟩), .int .i64 m] w fun r w' => r = .returned (.bool (decide (n + m ≤ 20000))) ∧ w' = w := by
  have h2 := h.c2
  clear h
  go_enter Tryz.func237, Tryz.ntmps237
  go_wp2_with fail
  go_ret
  exact ⟨ret1_eq (congrArg Value.bool (by rw [decide_eq_decide]; omega)), rfl⟩

set_option maxRecDepth 100000 in
set_option maxHeartbeats 1000000 in
theorem lengthC_no (y : Nat) (hy : ¬ (257 ≤ y ∧ y ≤ 285)) (w : World) :
    Calls Tryz.prog 230 #[.int .i64 y] w fun r w' => r = .returned (.tuple #[.int .i64 0, .int .i64 0, .bool false]) ∧ w' = w := by
  by_cases h1 : y < 257
  · have i1 : (y : Int) < 257 := by omega
    clear hy
    go_enter Tryz.func230, Tryz.ntmps230
    go_wp2_with fail
    go_ret3
    exact ⟨rfl, rfl⟩
  · have i1 : ¬ (y : Int) < 257 := by omega
    have i2 : (285 : Int) < (y : Int) := by omega
    clear hy
    go_enter Tryz.func230, Tryz.ntmps230
    go_wp2_with fail
    go_ret3
    exact ⟨rfl, rfl⟩
theorem ret3_eq {a b c d e f : Value} (h : a = d) (k : b = e) (m : c = f) : Ending.returned (.tuple #[a, b, c]) = .returned (.tuple #[d, e, f]) := by rw [h, k, m]

set_option maxRecDepth 100000 in
set_option maxHeartbeats 1000000 in
theorem lengthC_ok (y : Nat) (h1 : 257 ≤ y) (h2 : y ≤ 285) (w : World) :
    Calls Tryz.prog 230 #[.int .i64 y] w fun r w' => r = .returned (.tuple #[.int .i64 (lenBase y), .int .i64 (lenBits y), .bool true]) ∧ w' = w := by
  have i1 : ¬ (y : Int) < 257 := by omega
  have i2 : ¬ (285 : Int) < (y : Int) := by omega
  by_cases h260 : y ≤ 260
  · have e1 : lenBits y = 0 := if_pos (by omega)
    have e2 : lenBase y = y - 254 := if_pos (by omega)
    have i3 : (y : Int) < 261 := by omega
    have HE : Hid (((y - 254 : Nat) : Int) = (y : Int) - 257 + 3) := by unfold Hid; omega
    rw [e1, e2]
    clear e1 e2
    go_enter Tryz.func230, Tryz.ntmps230
    go_wp2_with fail
    go_ret3
    exact ⟨ret3_eq (congrArg (Value.int .i64) (unhide HE).symm) rfl rfl, rfl⟩
  · have i3 : ¬ (y : Int) < 261 := by omega
    by_cases h285 : y = 285
    · subst h285
      go_enter Tryz.func230, Tryz.ntmps230
      go_wp2_with fail
      go_ret3
      exact ⟨rfl, rfl⟩
    · have hb : ((y : Int) == 285) = false := by rw [beq_eq_false_iff_ne]; omega
      have e1 : lenBits y = (y - 261) / 4 := by
        unfold lenBits
        by_cases h : y ≤ 264
        · rw [if_pos h]; omega
        · rw [if_neg h, if_neg h285]
      have e2 : lenBase y = 3 + 2 ^ ((y - 261) / 4) * (4 + (y - 261) % 4) := by
        unfold lenBase
        by_cases h : y ≤ 264
        · rw [if_pos h, show (y - 261) / 4 = 0 by omega, show (y - 261) % 4 = y - 261 by omega]; omega
        · rw [if_neg h, if_neg h285]
      rw [e1, e2]
      clear e1 e2
      have hq : ((y : Int) - 261) / 4 = (((y - 261) / 4 : Nat) : Int) := by omega
      have hm : ((y : Int) - 261) % 4 = (((y - 261) % 4 : Nat) : Int) := by omega
      have hn5 : (y - 261) / 4 ≤ 5 := by omega
      have hr4 : (y - 261) % 4 < 4 := Nat.mod_lt _ (by omega)
      have h0 : (0 : Int) ≤ (y : Int) - 261 := by omega
      generalize (y - 261) / 4 = n at *
      generalize (y - 261) % 4 = m at *
      have hpw : 2 ^ n ≤ 2 ^ 5 := Nat.pow_le_pow_right (by omega) hn5
      obtain ⟨q, hqq⟩ : ∃ q, q = 2 ^ n * (4 + m) := ⟨_, rfl⟩
      have hqI : (4 + (m : Int)) * 2 ^ n = (q : Int) := by rw [hqq, Int.natCast_mul, Int.natCast_pow, Int.mul_comm]; rfl
      have hql : q ≤ 224 := by have : 2 ^ n * (4 + m) ≤ 32 * 7 := Nat.mul_le_mul (by omega) (by omega); omega
      have hn64 : (n : Int) < 64 := by omega
      have htn : ((n : Nat) : Int).toNat = n := Int.toNat_natCast n
      rw [← hqq]
      clear hqq hpw
      go_enter Tryz.func230, Tryz.ntmps230
      go_wp2_with fail
      go_ret3
      exact ⟨ret3_eq (congrArg (Value.int .i64) (by omega)) rfl rfl, rfl⟩

set_option maxRecDepth 100000 in
set_option maxHeartbeats 1000000 in
theorem distC_no (d : Nat) (hd : 29 < d) (w : World) :
    Calls Tryz.prog 232 #[.int .i64 d] w fun r w' => r = .returned (.tuple #[.int .i64 0, .int .i64 0, .bool false]) ∧ w' = w := by
  have i1 : ¬ (d : Int) < 0 := by omega
  have i2 : (30 : Int) ≤ (d : Int) := by omega
  go_enter Tryz.func232, Tryz.ntmps232
  go_wp2_with fail
  go_ret3
  exact ⟨rfl, rfl⟩

set_option maxRecDepth 100000 in
set_option maxHeartbeats 1000000 in
theorem distC_ok (d : Nat) (hd : d ≤ 29) (w : World) :
    Calls Tryz.prog 232 #[.int .i64 d] w fun r w' => r = .returned (.tuple #[.int .i64 (dstBase d), .int .i64 (dstBits d), .bool true]) ∧ w' = w := by
  have i1 : ¬ (d : Int) < 0 := by omega
  have i2 : ¬ (30 : Int) ≤ (d : Int) := by omega
  by_cases h4 : d < 4
  · have e1 : dstBits d = 0 := if_pos h4
    have e2 : dstBase d = d + 1 := if_pos h4
    have i3 : (d : Int) < 4 := by omega
    rw [e1, e2]
    clear e1 e2
    go_enter Tryz.func232, Tryz.ntmps232
    go_wp2_with fail
    go_ret3
    exact ⟨rfl, rfl⟩
  · have i3 : ¬ (d : Int) < 4 := by omega
    have e1 : dstBits d = d / 2 - 1 := if_neg h4
    have e2 : dstBase d = 1 + 2 ^ (d / 2 - 1) * (2 + d % 2) := if_neg h4
    rw [e1, e2]
    clear e1 e2
    have hq : (d : Int) / 2 - 1 = ((d / 2 - 1 : Nat) : Int) := by omega
    have hm : (d : Int) % 2 = ((d % 2 : Nat) : Int) := by omega
    have hn13 : d / 2 - 1 ≤ 13 := by omega
    have hr2 : d % 2 < 2 := Nat.mod_lt _ (by omega)
    generalize d / 2 - 1 = n at *
    generalize d % 2 = m at *
    have hpw : 2 ^ n ≤ 2 ^ 13 := Nat.pow_le_pow_right (by omega) hn13
    obtain ⟨q, hqq⟩ : ∃ q, q = 2 ^ n * (2 + m) := ⟨_, rfl⟩
    have hqI : (2 + (m : Int)) * 2 ^ n = (q : Int) := by rw [hqq, Int.natCast_mul, Int.natCast_pow, Int.mul_comm]; rfl
    have hql : q ≤ 24576 := by have : 2 ^ n * (2 + m) ≤ 8192 * 3 := Nat.mul_le_mul (by omega) (by omega); omega
    have hn64 : (n : Int) < 64 := by omega
    have htn : ((n : Nat) : Int).toNat = n := Int.toNat_natCast n
    rw [← hqq]
    clear hqq hpw
    go_enter Tryz.func232, Tryz.ntmps232
    go_wp2_with fail
    go_ret3
    exact ⟨ret3_eq (congrArg (Value.int .i64) (by omega)) rfl rfl, rfl⟩
end Go.Proofs.YtndfmgdhiallpaaGreatDoor
namespace Go.Proofs.YtndfmgdhiallpaaGreatDoor
open Go.RowKit

abbrev setT : TypeId := 264
def runC (L : List Nat) (n : Nat) : List Nat := if n = 0 then [] else runL L n
/-- A set of codes at gs; its blocks are K's. -/
def SetAt (w : World) (gs : Nat) (K : Nat → Prop) (L : List Nat) : Prop :=
  ∃ cur : Array Value, w.heap[gs]? = some (.cells cur setT (0, 0)) ∧ K gs ∧ (∀ n, n ≤ 15 → cur[n]? = some (.int .i64 (firstL L n : Nat))) ∧
    ∀ n, n ≤ 15 → ∃ ao cap, cur[16 + n]? = some (.slice ao (runC L n).length cap) ∧ ∀ j, j < (runC L n).length → ∃ b, ao = some ⟨b, 0, none⟩ ∧ K b ∧ w.cell? ⟨b, j, none⟩ = some (.int .i64 ((runC L n).getD j 0 : Nat))
theorem Only.oldS {S : Nat → Prop} {w w' : World} (h : Old w w') : Only S w w' := h.mono (fun _ _ x => x.elim)
theorem cell_lt {w : World} {b j : Nat} {v : Value} (h : w.cell? ⟨b, j, none⟩ = some v) : b < w.heap.size := by
  rcases Nat.lt_or_ge b w.heap.size with hl | hl
  · exact hl
  · have : w.cell? ⟨b, j, none⟩ = none := by simp [World.cell?, Array.getElem?_eq_none hl]
    rw [this] at h; cases h
theorem SetAt.kept {S : Nat → Prop} {w w' : World} {gs : Nat} {K : Nat → Prop} {L : List Nat} (h : SetAt w gs K L) (ho : Only S w w') (hs : ∀ k, K k → ¬ S k) : SetAt w' gs K L := by
  obtain ⟨cur, hg, hk, hf, hr⟩ := h
  refine ⟨cur, (ho.block gs (Array.getElem?_eq_some_iff.1 hg).1 (hs gs hk)).trans hg, hk, hf, fun n hn => ?_⟩
  obtain ⟨ao, cap, h1, h2⟩ := hr n hn
  refine ⟨ao, cap, h1, fun j hj => ?_⟩
  obtain ⟨b, hb, hkb, hc⟩ := h2 j hj
  exact ⟨b, hb, hkb, (ho.cell (p := ⟨b, j, none⟩) (cell_lt hc) (hs b hkb)).trans hc⟩
theorem SetAt.old {w w' : World} {gs : Nat} {K : Nat → Prop} {L : List Nat} (h : SetAt w gs K L) (ho : Old w w') : SetAt w' gs K L := h.kept ho (fun _ _ x => x)
theorem SetAt.lt {w : World} {gs : Nat} {K : Nat → Prop} {L : List Nat} (h : SetAt w gs K L) : gs < w.heap.size := by
  obtain ⟨cur, hg, _⟩ := h; exact (Array.getElem?_eq_some_iff.1 hg).1

set_option maxRecDepth 100000 in
set_option maxHeartbeats 2000000 in
theorem symbolOf (gs : Nat) (K : Nat → Prop) (L : List Nat) (hL : L.length ≤ 400) (n v : Nat) (hn : 1 ≤ n) (hn15 : n ≤ 15) (hv : v < 65536) (w : World) (h : SetAt w gs K L) :
    Calls Tryz.prog 307 #[.pointer (some ⟨gs, 0, none⟩), .agg #[.int .i64 v, .int .i64 n]] w fun r w' => Old w w' ∧
      ((firstL L n ≤ v ∧ v < firstL L n + (runL L n).length ∧ r = .returned (.tuple #[.int .i64 ((runL L n).getD (v - firstL L n) 0 : Nat), .bool true])) ∨ (¬ (firstL L n ≤ v ∧ v < firstL L n + (runL L n).length) ∧ r = .returned (.tuple #[.int .i64 0, .bool false]))) := by
  have hlt := h.lt
  obtain ⟨cur, hg, hk, hf, hr⟩ := h
  have hc1 : w.cell? ⟨gs, n, none⟩ = some (.int .i64 (firstL L n : Nat)) := by rw [cell_of_row w gs n cur _ (0, 0) hg]; exact hf n hn15
  obtain ⟨ao, cap, h1, h2⟩ := hr n hn15
  have hrc : runC L n = runL L n := if_neg (by omega)
  rw [hrc] at h1 h2
  have hc2 : w.cell? ⟨gs, 16 + n, none⟩ = some (.slice ao (runL L n).length cap) := by rw [cell_of_row w gs (16 + n) cur _ (0, 0) hg]; exact h1
  have hfl : firstL L n ≤ 52428800 := by
    have h3 := firstL_le L n
    have hp : 2 ^ (n + 1) ≤ 2 ^ 16 := Nat.pow_le_pow_right (by omega) (by omega)
    have : 2 ^ (n + 1) * L.length ≤ 65536 * 400 := Nat.mul_le_mul (by omega) hL
    omega
  have hrl : (runL L n).length ≤ 400 := Nat.le_trans (runL_len L n) hL
  have H2 := hide h2
  have hnI : (n : Int) < 16 := by omega
  have hn0 : (0 : Int) ≤ (n : Int) := by omega
  clear hg hf hr h1 h2 hrc
  generalize hF : firstL L n = f at *
  generalize hR : runL L n = R at *
  have HOld : Hid (Old w (w.alloc (.cells #[.int .i64 (v : Int), .int .i64 (n : Int)] 260))) := (Only.refl _ w).alloc _
  clear hF hR
  by_cases hlo : f ≤ v
  · by_cases hhi : v < f + R.length
    · obtain ⟨b, hb, hkb, hcb⟩ := unhide H2 (v - f) (by omega)
      subst hb
      have hbl := cell_lt hcb
      obtain ⟨d, hd⟩ : ∃ d, d = v - f := ⟨_, rfl⟩
      rw [← hd] at hcb
      have hdI : (v : Int) - (f : Int) = (d : Int) := by omega
      have hdl : (d : Int) < (R.length : Int) := by omega
      have hd0 : ¬ (d : Int) < 0 := by omega
      have hd00 : (0 : Int) ≤ (d : Int) := by omega
      have HD := hide hd
      clear hd
      go_enter Tryz.func307, Tryz.ntmps307
      go_wp2_with fail
      go_quiet (fail)
      go_wp2_with fail
      go_quiet (fail)
      go_wp2_with fail
      go_quiet (fail)
      go_wp2_with fail
      go_ret2
      exact ⟨(((unhide HOld).drewN _).drewN _).drewN _, .inl ⟨hlo, hhi, by rw [← unhide HD]; rfl⟩⟩
    · have hdl : ¬ (v : Int) - (f : Int) < (R.length : Int) := by omega
      have hd0 : ¬ (v : Int) - (f : Int) < 0 := by omega
      have hd1 : ¬ (v : Int) < (f : Int) := by omega
      go_enter Tryz.func307, Tryz.ntmps307
      go_wp2_with fail
      go_quiet (fail)
      go_wp2_with fail
      go_quiet (fail)
      go_wp2_with fail
      go_ret2
      exact ⟨((unhide HOld).drewN _).drewN _, .inr ⟨by omega, rfl⟩⟩
  · have hd0 : (v : Int) - (f : Int) < 0 := by omega
    have hd1 : (v : Int) < (f : Int) := by omega
    go_enter Tryz.func307, Tryz.ntmps307
    go_wp2_with fail
    go_quiet (fail)
    go_wp2_with fail
    go_quiet (fail)
    go_wp2_with fail
    go_ret2
    exact ⟨((unhide HOld).drewN _).drewN _, .inr ⟨by omega, rfl⟩⟩

theorem decGo_found {s : ByteArray} {L : List Nat} {n v a' : Nat} (hn15 : n + 1 ≤ 15) (ha : a' < 8 * s.size) (h1 : firstL L (n + 1) ≤ 2 * v + bitAt s a') (h2 : 2 * v + bitAt s a' < firstL L (n + 1) + (runL L (n + 1)).length) :
    decGo s L (15 - n) v a' = some ((runL L (n + 1)).getD (2 * v + bitAt s a' - firstL L (n + 1)) 0, a' + 1) := by
  rw [show 15 - n = (14 - n) + 1 by omega, decGo, if_pos ha, show 15 - (14 - n) = n + 1 by omega, if_pos ⟨h1, h2⟩]
theorem decGo_next {s : ByteArray} {L : List Nat} {n v a' : Nat} (hn15 : n + 1 ≤ 15) (ha : a' < 8 * s.size) (h : ¬ (firstL L (n + 1) ≤ 2 * v + bitAt s a' ∧ 2 * v + bitAt s a' < firstL L (n + 1) + (runL L (n + 1)).length)) :
    decGo s L (15 - n) v a' = decGo s L (15 - (n + 1)) (2 * v + bitAt s a') (a' + 1) := by
  rw [show 15 - n = (14 - n) + 1 by omega, decGo, if_pos ha, show 15 - (14 - n) = n + 1 by omega, if_neg h, show 15 - (n + 1) = 14 - n by omega]
theorem decGo_out {s : ByteArray} {L : List Nat} {n v a' : Nat} (hn15 : n + 1 ≤ 15) (ha : ¬ a' < 8 * s.size) : decGo s L (15 - n) v a' = none := by
  rw [show 15 - n = (14 - n) + 1 by omega, decGo, if_neg ha]
/-- The code that is being read. -/
def CodeAt (w : World) (cb v n : Nat) : Prop := w.heap[cb]? = some (.cells #[.int .i64 (v : Nat), .int .i64 (n : Nat)] 260 (0, 0))

set_option maxRecDepth 100000 in
set_option maxHeartbeats 2000000 in
theorem symbolC (g : Nat) (s : ByteArray) (hs : s.size ≤ 140737488355328) (a : Nat) (o : Value) (ha : a ≤ 8 * s.size) (gs : Nat) (K : Nat → Prop) (hKg : ¬ K g) (L : List Nat) (hL : L.length ≤ 400) (w : World) (hKw : ∀ k, K k → k < w.heap.size) (h : Up w g s a o) (hS : SetAt w gs K L) :
    Calls Tryz.prog 239 #[.pointer (some ⟨g, 0, none⟩), .pointer (some ⟨gs, 0, none⟩)] w fun r w' => Only (fun k => k = g) w w' ∧ ∃ a', a' ≤ 8 * s.size ∧ Up w' g s a' o ∧
      ((∃ y, dec s L a = some (y, a') ∧ r = .returned (.tuple #[.int .i64 (y : Nat), .bool true])) ∨ (dec s L a = none ∧ r = .returned (.tuple #[.int .i64 0, .bool false]))) := by
  have hgl := h.lt
  have HUP0 : Hid (Up (w.alloc (.cells #[.int .i64 0, .int .i64 0] 260)) g s a o) := h.kept ((Only.refl (fun _ => False) w).alloc _) (fun x => x)
  have HSA0 := hide (hS.old ((Only.refl _ w).alloc (.cells #[.int .i64 0, .int .i64 0] 260)))
  have HCA0 : Hid (CodeAt (w.alloc (.cells #[.int .i64 0, .int .i64 0] 260)) w.heap.size 0 0) := Go.heap_alloc_new w _
  clear h hS
  go_enter Tryz.func239, Tryz.ntmps239
  go_wp2_with fail
  go_loopw [7, 8, 9, 10] (fun _ _ _ _ wr => ∃ v n : Nat, n ≤ 15 ∧ v < 32768 ∧ wr.cell? ⟨w.heap.size, 0, none⟩ = some (.int .i64 (v : Nat)) ∧ wr.cell? ⟨w.heap.size, 1, none⟩ = some (.int .i64 (n : Nat)) ∧ Hid (CodeAt wr w.heap.size v n) ∧ Hid (v < 2 ^ n) ∧
      Hid (SetAt wr gs K L) ∧ Hid (∃ a', a' ≤ 8 * s.size ∧ Up wr g s a' o ∧ dec s L a = decGo s L (15 - n) v a') ∧ Hid (Only (fun k => k = g) w wr)) (fun _ _ _ _ wr => 15 - cellN wr w.heap.size 1)
  case atStart => exact ⟨0, 0, by omega, by omega, by rw [cell_of_row _ _ 0 _ _ (0, 0) (unhide HCA0)]; rfl, by rw [cell_of_row _ _ 1 _ _ (0, 0) (unhide HCA0)]; rfl, HCA0, Nat.one_pos, HSA0, ⟨a, ha, HUP0, rfl⟩, (Only.refl _ w).alloc _⟩
  case round =>
    obtain ⟨v, n, hn, hv, hc0, hc1, HCA, HVN, HSA, HST, HO⟩ := hrel
    obtain ⟨a', ha', hup, hde⟩ := unhide HST
    have hf0 := frozen_of_row wr w.heap.size 0 _ _ (unhide HCA)
    have hf1 := frozen_of_row wr w.heap.size 1 _ _ (unhide HCA)
    have HM := hide (cellN_of hc1)
    by_cases hlt : n < 15
    · have hltI : (n : Int) < 15 := by omega
      have hgne : g ≠ w.heap.size := by omega
      by_cases hat : a' < 8 * s.size
      · have HB := hide (bitC_ok g s hs a' o hat wr hup)
        have hbl := bitAt_lt s a'
        have hp : 2 ^ n ≤ 2 ^ 14 := Nat.pow_le_pow_right (by omega) (by omega)
        have hv2 : v < 16384 := by have := unhide HVN; omega
        have HV2 : Hid (2 * v + bitAt s a' < 2 ^ (n + 1)) := by have := unhide HVN; unfold Hid; rw [Nat.pow_succ]; omega
        have HDE := hide hde
        have HF := hide (decGo_found (s := s) (L := L) (v := v) (show n + 1 ≤ 15 by omega) hat)
        have HN := hide (decGo_next (s := s) (L := L) (v := v) (show n + 1 ≤ 15 by omega) hat)
        have HSY := hide (fun w1 h1 => symbolOf gs K L hL (n + 1) (2 * v + bitAt s a') (by omega) (by omega) (by omega) w1 h1)
        rw [show ((2 * v + bitAt s a' : Nat) : Int) = 2 * (v : Int) + (bitAt s a' : Int) by omega, show ((n + 1 : Nat) : Int) = (n : Int) + 1 by omega] at HSY
        generalize bitAt s a' = b at *
        clear hup hde HST
        go_wp2_with fail
        refine (unhide HB).mono ?_
        rintro r w1 ⟨rfl, hup1, ho1⟩
        have hca1 : CodeAt w1 w.heap.size v n := (ho1.block w.heap.size (Array.getElem?_eq_some_iff.1 (unhide HCA)).1 (by omega)).trans (unhide HCA)
        have hd0 : w1.cell? ⟨w.heap.size, 0, none⟩ = some (.int .i64 (v : Nat)) := by rw [cell_of_row _ _ 0 _ _ (0, 0) hca1]; rfl
        have hd1 : w1.cell? ⟨w.heap.size, 1, none⟩ = some (.int .i64 (n : Nat)) := by rw [cell_of_row _ _ 1 _ _ (0, 0) hca1]; rfl
        have hg0 := frozen_of_row w1 w.heap.size 0 _ _ hca1
        have hg1 := frozen_of_row w1 w.heap.size 1 _ _ hca1
        have hca2 : CodeAt ((w1.setCell ⟨w.heap.size, 0, none⟩ (.int .i64 (2 * (v : Int) + (b : Int)))).setCell ⟨w.heap.size, 1, none⟩ (.int .i64 ((n : Int) + 1))) w.heap.size (2 * v + b) (n + 1) := by
          have e1 := heap_setCell_same w1 w.heap.size 0 _ _ (.int .i64 (2 * (v : Int) + (b : Int))) hca1
          have e2 := heap_setCell_same _ w.heap.size 1 _ _ (.int .i64 ((n : Int) + 1)) e1
          exact e2
        have hO2 : Only (fun k => k = w.heap.size) w1 ((w1.setCell ⟨w.heap.size, 0, none⟩ (.int .i64 (2 * (v : Int) + (b : Int)))).setCell ⟨w.heap.size, 1, none⟩ (.int .i64 ((n : Int) + 1))) := ((Only.refl (fun k => k = w.heap.size) w1).setCell (p := ⟨w.heap.size, 0, none⟩) (fun _ => rfl) _).setCell (p := ⟨w.heap.size, 1, none⟩) (fun _ => rfl) _
        have HSA2 := hide (((unhide HSA).kept ho1 (fun k hk e => hKg (e ▸ hk))).kept hO2 (fun k hk e => by have := hKw k hk; omega))
        have HUP2 := hide (hup1.kept hO2 hgne)
        have HO2 := hide (((unhide HO).trans ho1).transNew hO2 (fun i hi e => absurd hi (by omega)))
        have HCA2 := hide hca2
        clear hup1 ho1 hca1 hca2 hO2 HB hc0 hc1 hf0 hf1
        go_wp2_with fail
        generalize (w1.setCell ⟨w.heap.size, 0, none⟩ (.int .i64 (2 * (v : Int) + (b : Int)))).setCell ⟨w.heap.size, 1, none⟩ (.int .i64 ((n : Int) + 1)) = w2 at *
        refine (unhide HSY _ (unhide HSA2)).mono ?_
        rintro r w3 ⟨ho3, hcs⟩
        have HUP3 := hide ((unhide HUP2).kept ho3 (fun x => x))
        have HO3 := hide ((unhide HO2).trans (Only.oldS ho3))
        have HCA3 : Hid (CodeAt w3 w.heap.size (2 * v + b) (n + 1)) := (ho3.block w.heap.size (Array.getElem?_eq_some_iff.1 (unhide HCA2)).1 (fun x => x)).trans (unhide HCA2)
        have HSA3 := hide ((unhide HSA2).old ho3)
        clear ho3
        rcases hcs with ⟨k1, k2, rfl⟩ | ⟨k1, rfl⟩
        · go_wp2_with fail
          go_ret2
          exact ⟨HO3, a' + 1, by omega, HUP3, .inl ⟨_, by rw [unhide HDE]; exact unhide HF k1 k2, rfl⟩⟩
        · go_wp2_with fail
          go_roundw
          case rel => exact ⟨2 * v + b, n + 1, by omega, by omega, by rw [cell_of_row _ _ 0 _ _ (0, 0) (unhide HCA3)]; rfl, by rw [cell_of_row _ _ 1 _ _ (0, 0) (unhide HCA3)]; rfl, HCA3, HV2, HSA3, ⟨a' + 1, by omega, HUP3, by rw [unhide HDE]; exact unhide HN k1⟩, HO3⟩
          case measure => rw [unhide HM, cellN_of (show w3.cell? ⟨w.heap.size, 1, none⟩ = some (.int .i64 ((n + 1 : Nat) : Int)) by rw [cell_of_row _ _ 1 _ _ (0, 0) (unhide HCA3)]; rfl)]; omega
      · have HB := hide (bitC_end g s hs a' o hat ha' wr hup)
        have HDE := hide hde
        clear hup hde HST
        go_wp2_with (go_at_call 235; refine (unhide HB).mono ?_; rintro r w1 ⟨rfl, hr1, ho1⟩; have HR1 := hide hr1; have HO1 := hide ho1; clear hr1 ho1)
        go_ret2
        exact ⟨(unhide HO).trans (unhide HO1), a', ha', HR1, .inr ⟨by rw [unhide HDE]; exact decGo_out (by omega) hat, rfl⟩⟩
    · have hltI : ¬ (n : Int) < 15 := by omega
      have hne : n = 15 := by omega
      have HUP := hide hup
      have HDE := hide hde
      clear hup hde HST
      go_wp2_with fail
      go_ret2
      exact ⟨HO, a', ha', HUP, .inr ⟨by rw [unhide HDE, hne]; rfl, rfl⟩⟩
end Go.Proofs.YtndfmgdhiallpaaGreatDoor
namespace Go.Proofs.YtndfmgdhiallpaaGreatDoor
open Go.RowKit

set_option maxRecDepth 100000 in
set_option maxHeartbeats 1000000 in
theorem lengthU (g : Nat) (s : ByteArray) (hs : s.size ≤ 140737488355328) (a : Nat) (o : Value) (y : Nat) (ha : a ≤ 8 * s.size) (w : World) (h : Up w g s a o) :
    Calls Tryz.prog 240 #[.pointer (some ⟨g, 0, none⟩), .int .i64 y] w fun r w' => Only (fun k => k = g) w w' ∧ ∃ a', a' ≤ 8 * s.size ∧ Up w' g s a' o ∧
      ((257 ≤ y ∧ y ≤ 285 ∧ a + lenBits y ≤ 8 * s.size ∧ a' = a + lenBits y ∧ r = .returned (.tuple #[.int .i64 ((lenBase y + numAt s a (lenBits y) : Nat) : Int), .bool true])) ∨
       (¬ (257 ≤ y ∧ y ≤ 285 ∧ a + lenBits y ≤ 8 * s.size) ∧ ∃ n : Int, r = .returned (.tuple #[.int .i64 n, .bool false]))) := by
  by_cases hy : 257 ≤ y ∧ y ≤ 285
  · have HLC := hide (fun w1 => lengthC_ok y hy.1 hy.2 w1)
    have hb5 : lenBits y ≤ 5 := by unfold lenBits; repeat (first | split | omega)
    have hlb := lenBase_le hy.2
    have HNC := hide (numberC g s hs a o (lenBits y) (by omega) ha w h)
    have hnl := numAt_lt s a (lenBits y)
    have hp : 2 ^ lenBits y ≤ 2 ^ 5 := Nat.pow_le_pow_right (by omega) hb5
    have HY := hide hy
    clear h hy
    generalize hbb : lenBits y = bb at *
    generalize lenBase y = lb at *
    clear hbb
    go_enter Tryz.func240, Tryz.ntmps240
    go_wp2_with fail
    refine (unhide HLC _).mono ?_
    rintro r w1 ⟨rfl, rfl⟩
    go_wp2_with fail
    refine (unhide HNC).mono ?_
    rintro r w2 ⟨ho2, hcs⟩
    rcases hcs with ⟨k1, rfl, hup⟩ | ⟨k1, rfl, hup⟩
    · have HUP := hide hup
      have HO2 := hide ho2
      clear hup ho2
      generalize hvv : numAt s a bb = v at *
      have HVV := hide hvv
      clear hvv
      go_wp2_with fail
      go_ret2
      exact ⟨HO2, a + bb, k1, HUP, .inl ⟨(unhide HY).1, (unhide HY).2, k1, rfl, by rw [Int.natCast_add, unhide HVV]; rfl⟩⟩
    · have HUP := hide hup
      have HO2 := hide ho2
      clear hup ho2
      go_wp2_with fail
      go_ret2
      exact ⟨HO2, 8 * s.size, Nat.le_refl _, HUP, .inr ⟨by omega, _, rfl⟩⟩
  · have HLC := hide (fun w1 => lengthC_no y hy w1)
    have HUP := hide h
    clear h
    go_enter Tryz.func240, Tryz.ntmps240
    go_wp2_with fail
    refine (unhide HLC _).mono ?_
    rintro r w1 ⟨rfl, rfl⟩
    go_wp2_with fail
    go_ret2
    exact ⟨Only.refl _ _, a, ha, HUP, .inr ⟨by omega, _, rfl⟩⟩

/-- A distance that is told. -/
def distS (s : ByteArray) (D : List Nat) (a : Nat) : Option (Nat × Nat) := match dec s D a with
  | none => none
  | some (d, a3) => if 29 < d then none else if 8 * s.size < a3 + dstBits d then none else some (dstBase d + numAt s a3 (dstBits d), a3 + dstBits d)

set_option maxRecDepth 100000 in
set_option maxHeartbeats 1000000 in
theorem distanceU (g : Nat) (s : ByteArray) (hs : s.size ≤ 140737488355328) (a : Nat) (o : Value) (ha : a ≤ 8 * s.size) (gs : Nat) (K : Nat → Prop) (hKg : ¬ K g) (D : List Nat) (hD : D.length ≤ 400) (w : World) (hKw : ∀ k, K k → k < w.heap.size) (h : Up w g s a o) (hS : SetAt w gs K D) :
    Calls Tryz.prog 241 #[.pointer (some ⟨g, 0, none⟩), .pointer (some ⟨gs, 0, none⟩)] w fun r w' => Only (fun k => k = g) w w' ∧ ∃ a', a' ≤ 8 * s.size ∧ Up w' g s a' o ∧
      ((∃ f, f ≤ 32769 ∧ distS s D a = some (f, a') ∧ r = .returned (.tuple #[.int .i64 (f : Nat), .bool true])) ∨ (distS s D a = none ∧ ∃ n : Int, r = .returned (.tuple #[.int .i64 n, .bool false]))) := by
  have HSC := hide (symbolC g s hs a o ha gs K hKg D hD w hKw h hS)
  clear h hS
  go_enter Tryz.func241, Tryz.ntmps241
  go_wp2_with fail
  refine (unhide HSC).mono ?_
  rintro r w1 ⟨ho1, a1, ha1, hup1, hcs⟩
  rcases hcs with ⟨d, hd, rfl⟩ | ⟨hd, rfl⟩
  · have HD1 := hide hd
    have hd400 : d < 400 := by have := (dec_lt hd).2.2; omega
    clear hd
    by_cases h29 : 29 < d
    · have HDC := hide (fun w2 => distC_no d h29 w2)
      have HUP1 := hide hup1
      have HO1 := hide ho1
      clear hup1 ho1
      go_wp2_with fail
      refine (unhide HDC _).mono ?_
      rintro r w2 ⟨rfl, rfl⟩
      go_wp2_with fail
      go_ret2
      exact ⟨HO1, a1, ha1, HUP1, .inr ⟨by unfold distS; rw [unhide HD1]; exact if_pos h29, _, rfl⟩⟩
    · have HDC := hide (fun w2 => distC_ok d (by omega) w2)
      have hdl := dst_le (d := d) (by omega)
      have hb13 : dstBits d ≤ 16 := by unfold dstBits; split <;> omega
      have HNC := hide (numberC g s hs a1 o (dstBits d) hb13 ha1 w1 hup1)
      have hnl := numAt_lt s a1 (dstBits d)
      have HDS : Hid (distS s D a = if 8 * s.size < a1 + dstBits d then none else some (dstBase d + numAt s a1 (dstBits d), a1 + dstBits d)) := by unfold Hid distS; rw [unhide HD1]; exact if_neg h29
      have HO1 := hide ho1
      clear hup1 ho1 HD1
      generalize dstBits d = bb at *
      generalize dstBase d = db at *
      go_wp2_with fail
      refine (unhide HDC _).mono ?_
      rintro r w2 ⟨rfl, rfl⟩
      go_wp2_with fail
      refine (unhide HNC).mono ?_
      rintro r w3 ⟨ho3, hcs⟩
      have HO3 := hide ((unhide HO1).trans ho3)
      clear ho3
      rcases hcs with ⟨k1, rfl, hup⟩ | ⟨k1, rfl, hup⟩
      · have HUP := hide hup
        clear hup
        generalize numAt s a1 bb = v at *
        go_wp2_with fail
        go_ret2
        exact ⟨HO3, a1 + bb, k1, HUP, .inl ⟨db + v, by omega, by rw [unhide HDS, if_neg (by omega)], by rw [Int.natCast_add]; rfl⟩⟩
      · have HUP := hide hup
        clear hup
        go_wp2_with fail
        go_ret2
        exact ⟨HO3, 8 * s.size, Nat.le_refl _, HUP, .inr ⟨by rw [unhide HDS, if_pos k1], _, rfl⟩⟩
  · have HUP1 := hide hup1
    have HO1 := hide ho1
    have HD1 := hide hd
    clear hup1 ho1 hd
    go_wp2_with fail
    go_ret2
    exact ⟨HO1, a1, ha1, HUP1, .inr ⟨by unfold distS; rw [unhide HD1], _, rfl⟩⟩
end Go.Proofs.YtndfmgdhiallpaaGreatDoor
namespace Go.Proofs.YtndfmgdhiallpaaGreatDoor
open Go.RowKit

section
variable {P : Program} {ops : Array Oper} {Q : Exit → Act → World → Prop} {md : Region.Mode} {S : World → Prop} {late : Nat → Bool}

/-- Whatever order comes; S holds behind each operation that is not late. -/
def wpAnyG (P : Program) (md : Region.Mode) (ops : Array Oper) (Q : Exit → Act → World → Prop) (S : World → Prop) (late : Nat → Bool) : Nat → Array Bool → Act → World → Prop
  | 0, ls, a, w => Region.ready md ops ls = [] ∧ Q .normal a w
  | n + 1, ls, a, w => (Region.ready md ops ls = [] → Q .normal a w) ∧ ∀ i ∈ Region.ready md ops ls, wpOp P ops Q i (fun a' w' => (late i = false → S w') ∧ wpAnyG P md ops Q S late n (ls.setIfInBounds i true) a' w') a w

theorem any_of_late (n : Nat) : ∀ (ls : Array Bool) (a : Act) (w : World), wpAnyG P md ops Q S late n ls a w → wpAny P md ops Q n ls a w := by
  induction n with
  | zero => intro ls a w h; exact h
  | succ n ih => intro ls a w h; exact ⟨h.1, fun i hi => wpOp_mono (fun a' w' k => ih _ a' w' k.2) (h.2 i hi)⟩
/-- All late operations that are still to come wait for i. -/
def lateWait (md : Region.Mode) (ops : Array Oper) (late : Nat → Bool) (ls : Array Bool) (f i : Nat) : Bool := (List.range ops.size).all fun j => !late j || ls.getD j true || waitsT md ops (f + 1) j i

theorem last_takeG {i f : Nat} {oi : Oper} {v : Value} (hi : ops[i]? = some oi) (hs : Region.noSelect ops = true)
    (hQ : ∀ c a w, Q (.panic c) (a.put oi.dst v) w → Q (.panic c) a w) (n : Nat) : ∀ (ls : Array Bool) (a : Act) (w : World), (∀ j, late j = true → ls.getD j true = false → j ≠ i → waitsT md ops (f + 1) j i = true) → Closed md ops ls →
      (∀ j oj, ops[j]? = some oj → j ≠ i → ls.getD j true = false → (∀ e ∈ oj.after, Region.binds md e = true → e.on ≠ i) → oi.apart ops oj = true) →
      i ∈ Region.ready md ops ls → YieldsIf P ops S oi v a → S w →
      wpAnyG P md ops Q S late n (ls.setIfInBounds i true) (a.put oi.dst v) w → wpAnyG P md ops Q S late (n + 1) ls a w := by
  induction n with
  | zero =>
    intro ls a w _ _ _ hr hy hS H
    refine ⟨fun h => absurd (h ▸ hr) List.not_mem_nil, fun j hj => ?_⟩
    rcases Nat.decEq j i with hji | rfl
    · exact absurd (H.1 ▸ ready_mono hj hji) List.not_mem_nil
    · exact hy.wpOp hi hS ⟨fun _ => hS, H⟩
  | succ n ih =>
    intro ls a w hL hcl hfree hr hy hS H
    refine ⟨fun h => absurd (h ▸ hr) List.not_mem_nil, fun j hj => ?_⟩
    rcases Nat.decEq j i with hji | rfl
    · obtain ⟨hun, oj, hoj, hall⟩ := mem_ready.1 hj
      have hi0 := (mem_ready.1 hr).1
      have hin : ¬ ls.getD i false = true := by
        intro h1
        by_cases h' : i < ls.size
        · simp [h'] at hi0 h1; rw [hi0] at h1; cases h1
        · simp [Array.getElem?_eq_none (Nat.le_of_not_lt h')] at h1
      have hnot : ∀ e ∈ oj.after, Region.binds md e = true → e.on ≠ i := fun e he hb heq => hin (by rw [← heq]; exact hall e he hb)
      have hjL : late j = false := by
        rcases hlj : late j with _ | _
        · rfl
        · exfalso
          have hw2 := hL j hlj hun hji
          rw [waitsT, hoj] at hw2
          obtain ⟨e, he, h1⟩ := any_mem hw2
          simp only [Bool.and_eq_true, Bool.or_eq_true, beq_iff_eq] at h1
          have hd := hall e he h1.1
          rcases h1.2 with h2 | h2
          · exact hnot e he h1.1 h2
          · exact hin (waits_done hcl f e.on i hd h2)
      have h2 := wpOp_putIf hoj (hfree j oj hoj hji hun hnot) (fun cs b => Region.noSelect_spec hs i oi cs b hi) (fun cs b => Region.noSelect_spec hs j oj cs b hoj) hQ hy (H.2 j (ready_mono hj hji))
      refine wpOp_mono (fun a' w' h3 => ⟨h3.2.1, ih (ls.setIfInBounds j true) a' w' ?_ (closed_set hcl hj) ?_ (ready_mono hr (Ne.symm hji)) h3.1 (h3.2.1 hjL) ?_⟩) h2
      · intro k hk hu hki
        refine hL k hk ?_ hki
        by_cases hjk : j = k
        · subst hjk; exact hun
        · rw [getD_set_ne true hjk] at hu; exact hu
      · intro k ok hk hki hu hno
        refine hfree k ok hk hki ?_ hno
        by_cases hjk : j = k
        · subst hjk; exact hun
        · rw [getD_set_ne true hjk] at hu; exact hu
      · rw [Array.setIfInBounds_comm _ _ hji]; exact h3.2.2
    · exact hy.wpOp hi hS ⟨fun _ => hS, H⟩

/-- One that is late itself, and yields whatever the world is. -/
theorem last_free {i : Nat} {oi : Oper} {v : Value} (hi : ops[i]? = some oi) (hs : Region.noSelect ops = true) (hli : late i = true)
    (hQ : ∀ c a w, Q (.panic c) (a.put oi.dst v) w → Q (.panic c) a w) (n : Nat) : ∀ (ls : Array Bool) (a : Act) (w : World),
      (∀ j oj, ops[j]? = some oj → j ≠ i → ls.getD j true = false → (∀ e ∈ oj.after, Region.binds md e = true → e.on ≠ i) → oi.apart ops oj = true) →
      i ∈ Region.ready md ops ls → YieldsIf P ops (fun _ => True) oi v a →
      wpAnyG P md ops Q S late n (ls.setIfInBounds i true) (a.put oi.dst v) w → wpAnyG P md ops Q S late (n + 1) ls a w := by
  have hno : ∀ {w : World}, late i = false → S w := fun h => by rw [hli] at h; cases h
  induction n with
  | zero =>
    intro ls a w _ hr hy H
    refine ⟨fun h => absurd (h ▸ hr) List.not_mem_nil, fun j hj => ?_⟩
    rcases Nat.decEq j i with hji | rfl
    · exact absurd (H.1 ▸ ready_mono hj hji) List.not_mem_nil
    · exact hy.wpOp hi trivial ⟨hno, H⟩
  | succ n ih =>
    intro ls a w hfree hr hy H
    refine ⟨fun h => absurd (h ▸ hr) List.not_mem_nil, fun j hj => ?_⟩
    rcases Nat.decEq j i with hji | rfl
    · obtain ⟨hun, oj, hoj, hall⟩ := mem_ready.1 hj
      have hi0 := (mem_ready.1 hr).1
      have hin : ¬ ls.getD i false = true := by
        intro h1
        by_cases h' : i < ls.size
        · simp [h'] at hi0 h1; rw [hi0] at h1; cases h1
        · simp [Array.getElem?_eq_none (Nat.le_of_not_lt h')] at h1
      have hnot : ∀ e ∈ oj.after, Region.binds md e = true → e.on ≠ i := fun e he hb heq => hin (by rw [← heq]; exact hall e he hb)
      have h2 := wpOp_putIf hoj (hfree j oj hoj hji hun hnot) (fun cs b => Region.noSelect_spec hs i oi cs b hi) (fun cs b => Region.noSelect_spec hs j oj cs b hoj) hQ hy (H.2 j (ready_mono hj hji))
      refine wpOp_mono (fun a' w' h3 => ⟨h3.2.1, ih (ls.setIfInBounds j true) a' w' ?_ (ready_mono hr (Ne.symm hji)) h3.1 ?_⟩) h2
      · intro k ok hk hki hu hno
        refine hfree k ok hk hki ?_ hno
        by_cases hjk : j = k
        · subst hjk; exact hun
        · rw [getD_set_ne true hjk] at hu; exact hu
      · rw [Array.setIfInBounds_comm _ _ hji]; exact h3.2.2
    · exact hy.wpOp hi trivial ⟨hno, H⟩

theorem late_of {ls : Array Bool} {f i : Nat} (h : lateWait md ops late ls f i = true) (hsz : ls.size = ops.size) : ∀ j, late j = true → ls.getD j true = false → j ≠ i → waitsT md ops (f + 1) j i = true := by
  intro j hj hl _
  have hjs : j < ops.size := by
    rcases Nat.lt_or_ge j ops.size with h | h
    · exact h
    · rw [Array.getD_eq_getD_getElem?, Array.getElem?_eq_none (by omega)] at hl; cases hl
  have hw := List.all_eq_true.1 h j (List.mem_range.2 hjs)
  rw [hj, hl] at hw
  simpa using hw

/-- Take number i first. -/
theorem wpAnyG_take {i f : Nat} {oi : Oper} {v : Value} {n : Nat} {ls : Array Bool} {a : Act} {w : World} (d : Option Tmp) (hi : ops[i]? = some oi) (hd : oi.dst = d)
    (hs : Region.noSelect ops = true) (hL : (lateWait md ops late ls f i && decide (ls.size = ops.size)) = true) (hcl : closedB md ops ls = true) (hf : Region.free md ops ls i = true) (hr : (Region.ready md ops ls).contains i = true)
    (hQ : ∀ c a w, Q (.panic c) (a.put d v) w → Q (.panic c) a w) (hy : YieldsIf P ops S oi v a) (hS : S w)
    (h : wpAnyG P md ops Q S late n (ls.setIfInBounds i true) (a.put d v) w) : wpAnyG P md ops Q S late (n + 1) ls a w := by
  subst hd
  simp only [Bool.and_eq_true, decide_eq_true_eq] at hL
  exact last_takeG hi hs hQ n ls a w (late_of hL.1 hL.2) (closed_of hcl) (Region.free_spec hi hf) (by simpa using hr) hy hS h
theorem wpAnyG_free {i : Nat} {oi : Oper} {v : Value} {n : Nat} {ls : Array Bool} {a : Act} {w : World} (d : Option Tmp) (hi : ops[i]? = some oi) (hd : oi.dst = d)
    (hs : Region.noSelect ops = true) (hli : late i = true) (hf : Region.free md ops ls i = true) (hr : (Region.ready md ops ls).contains i = true)
    (hQ : ∀ c a w, Q (.panic c) (a.put d v) w → Q (.panic c) a w) (hy : YieldsIf P ops (fun _ => True) oi v a)
    (h : wpAnyG P md ops Q S late n (ls.setIfInBounds i true) (a.put d v) w) : wpAnyG P md ops Q S late (n + 1) ls a w := by
  subst hd
  exact last_free hi hs hli hQ n ls a w (Region.free_spec hi hf) (by simpa using hr) hy h
theorem wpAnyG_one {i : Nat} {n : Nat} {ls : Array Bool} {a : Act} {w : World} (hr : Region.ready md ops ls = [i])
    (h : wpOp P ops Q i (fun a' w' => (late i = false → S w') ∧ wpAnyG P md ops Q S late n (ls.setIfInBounds i true) a' w') a w) : wpAnyG P md ops Q S late (n + 1) ls a w := by
  refine ⟨fun h0 => ?_, fun j hj => ?_⟩
  · rw [hr] at h0; cases h0
  · rw [hr] at hj; cases List.mem_singleton.1 hj; exact h
theorem wpAnyG_two {i j : Nat} {n : Nat} {ls : Array Bool} {a : Act} {w : World} (hr : Region.ready md ops ls = [i, j])
    (h : wpOp P ops Q i (fun a' w' => (late i = false → S w') ∧ wpAnyG P md ops Q S late n (ls.setIfInBounds i true) a' w') a w)
    (k : wpOp P ops Q j (fun a' w' => (late j = false → S w') ∧ wpAnyG P md ops Q S late n (ls.setIfInBounds j true) a' w') a w) : wpAnyG P md ops Q S late (n + 1) ls a w := by
  refine ⟨fun h0 => ?_, fun m hm => ?_⟩
  · rw [hr] at h0; cases h0
  · rw [hr] at hm
    rcases List.mem_cons.1 hm with rfl | hm
    · exact h
    · cases List.mem_singleton.1 hm; exact k
theorem wpAnyG_done {ls : Array Bool} {a : Act} {w : World} (hr : Region.ready md ops ls = []) (h : Q .normal a w) : wpAnyG P md ops Q S late 0 ls a w := ⟨hr, h⟩
theorem wp_region_late {id : Nat} {a : Act} {w : World} (hm : P.follows .mixedOrders = true)
    (h : wpAnyG P .any ops Q S late ops.size (Array.replicate ops.size false) a w.drew) : (Code.region id ops true).wp P Q a w :=
  wp_region_any hm (any_of_late _ _ _ _ h)
end
end Go.Proofs.YtndfmgdhiallpaaGreatDoor
namespace Go.Proofs.YtndfmgdhiallpaaGreatDoor
open Go.RowKit

theorem own_neU {w : World} {v : Value} {n : Nat} {xs : List Value} (h : w.ownsRow 0 5 1 v n xs) {b : Nat} (hb : v.ownBlock = some b) {g : Nat} {s : ByteArray} {a : Nat} {o : Value} (hr : Up w g s a o) : b ≠ g := by
  rintro rfl
  obtain ⟨cur, hg⟩ := own_heap h hb
  rw [hr] at hg
  injection hg with hg; injection hg with _ h2; exact absurd h2 (by decide)
/-- The code's unpacker at g, with what it has unpacked; what may turn is S's. -/
def StU (w : World) (g : Nat) (S : Nat → Prop) (s : ByteArray) (a : Nat) (l : List UInt8) : Prop :=
  ∃ ao cap, Up w g s a (.slice ao l.length cap) ∧ w.ownsRow 0 5 1 (.slice ao l.length cap) l.length (byteCells8 l) ∧ ∀ b : Addr, ao = some b → S b.block
theorem StU.next {w w' : World} {g : Nat} {S : Nat → Prop} {s : ByteArray} {a a' : Nat} {l : List UInt8} {ao : Option Addr} {cap : Nat} (hr : Up w g s a (.slice ao l.length cap))
    (ho : w.ownsRow 0 5 1 (.slice ao l.length cap) l.length (byteCells8 l)) (hs : ∀ b : Addr, ao = some b → S b.block) (hO : Only (fun k => k = g) w w') (hr' : Up w' g s a' (.slice ao l.length cap)) : StU w' g S s a' l :=
  ⟨ao, cap, hr', own_kept ho hO (fun _ hb => own_neU ho hb hr), hs⟩
/-- Behind an append of one byte and its store. -/
theorem StU.push {w w1 w3 : World} {g : Nat} {S : Nat → Prop} (hSg : S g) {s : ByteArray} {a : Nat} {l : List UInt8} {ao : Option Addr} {cap g2 cap2 c H : Nat} (hc : c < 256) (hF : S H)
    (hs : ∀ b : Addr, ao = some b → S b.block) (h01 : Only S w w1) (hup : Up w1 g s a (.slice ao l.length cap)) (how : w1.ownsRow 0 5 1 (.slice ao l.length cap) l.length (byteCells8 l))
    (ho3 : w3.ownsRow 0 5 1 (.slice (some ⟨g2, 0, none⟩) (l.length + 1) cap2) (l.length + 1) (byteCells8 l ++ [.int .u8 (c : Int)])) (hg3 : w1.grownBy w3 (Value.slice ao l.length cap).ownBlock) (hl3 : (Value.slice ao l.length cap).ownBlock = some g2 ∨ g2 = H) :
    Up w3 g s a (.slice ao l.length cap) ∧ Only S w (w3.setCell ⟨g, 2, none⟩ (.slice (some ⟨g2, 0, none⟩) (l.length + 1) cap2)) ∧ StU (w3.setCell ⟨g, 2, none⟩ (.slice (some ⟨g2, 0, none⟩) (l.length + 1) cap2)) g S s a (l ++ [b8 c]) := by
  have hup3 : Up w3 g s a (.slice ao l.length cap) := (hg3.block g hup.lt (fun hh => own_neU how hh.symm hup rfl)).trans hup
  have hw4 : Only S w w3 := h01.grown hg3 (fun k _ hk => by
    cases ao with
    | none => cases hk
    | some b => injection hk with hk; subst hk; exact hs b rfl)
  have hl4 : (l ++ [b8 c]).length = l.length + 1 := by simp
  refine ⟨hup3, hw4.setCell (p := ⟨g, 2, none⟩) (fun _ => hSg) _, some ⟨g2, 0, none⟩, cap2, ?_, ?_, ?_⟩
  · rw [hl4]; exact hup3.set2 _
  · have e2 : byteCells8 (l ++ [b8 c]) = byteCells8 l ++ [.int .u8 (c : Int)] := by simp only [byteCells8, List.map_append, List.map_cons, List.map_nil]; rw [b8_toNat hc]
    rw [hl4, e2]
    exact own_kept ho3 (only_set w3 g 2 _) (fun b hb => own_neU ho3 hb hup3)
  · intro b hb
    injection hb with hb
    subst hb
    rcases hl3 with h5 | h5
    · cases ao with
      | none => cases h5
      | some b => injection h5 with h5; rw [← h5]; exact hs b rfl
    · show S g2
      rw [h5]; exact hF

set_option maxRecDepth 100000 in
set_option maxHeartbeats 2000000 in
theorem copyU (g : Nat) (S : Nat → Prop) (hSg : S g) (s : ByteArray) (a : Nat) (l : List UInt8) (n far : Nat) (hf1 : 1 ≤ far) (hfl : far ≤ l.length) (hnl : l.length + n ≤ 20000) (w : World) (hF : Fresh S w) (h : StU w g S s a l) :
    Calls Tryz.prog 242 #[.pointer (some ⟨g, 0, none⟩), .int .i64 n, .int .i64 far] w fun r w' => r = .returned (.tuple #[]) ∧ Only S w w' ∧ StU w' g S s a (copyL l far n) := by
  obtain ⟨i0, hi0, hz0, hz1, hz2⟩ := info_parts infoB5
  have HST := hide h
  clear h
  go_enter Tryz.func242, Tryz.ntmps242
  go_wp2_with fail
  go_loopw [7] (fun i wr => ∃ j : Nat, j ≤ n ∧ i = .int .i64 j ∧ Hid (StU wr g S s a (copyL l far j)) ∧ Hid (Only S w wr)) (fun i _ => n - (intOf i).toNat)
  case atStart => exact ⟨0, by omega, rfl, HST, Only.refl _ w⟩
  case round =>
    obtain ⟨j, hj, rfl, HST, HO⟩ := hrel
    by_cases hjn : j < n
    · have hjI : (j : Int) < (n : Int) := by omega
      obtain ⟨ao, cp, hr, how, hsa⟩ := unhide HST
      have hc2 := hr.c2
      have hlj := copyL_len l far j
      obtain ⟨b, cp', hvv, _, _⟩ := how.form (by omega)
      injection hvv with hv1 hv2 hv3
      subst hv1 hv3
      have HNX : Hid (copyL l far (j + 1) = copyL l far j ++ [(copyL l far j).getD ((copyL l far j).length - far) 0]) := hide rfl
      have hce := own_cell how (k := (copyL l far j).length - far) (by omega)
      have hcb := byte_lt ((copyL l far j).getD ((copyL l far j).length - far) 0)
      have HBE := hide (b8_toNat' ((copyL l far j).getD ((copyL l far j).length - far) 0))
      have hlf : far ≤ (copyL l far j).length := by omega
      have hl2 : (copyL l far j).length ≤ 20300 := by omega
      have HR := hide hr
      have HOWN := hide how
      have HSA := hide hsa
      clear hlj hr how hsa HST hv2
      generalize copyL l far j = lj at *
      generalize lj.getD (lj.length - far) 0 = cb at *
      generalize hcc : cb.toNat = c at *
      generalize hnl' : lj.length = nl at hc2 hce hlf hl2
      have HNL := hide hnl'
      have HCC := hide hcc
      clear hcc
      obtain ⟨kk, hkk⟩ : ∃ kk, kk = nl - far := ⟨_, rfl⟩
      rw [← hkk] at hce
      have hkI : (nl : Int) - (far : Int) = (kk : Int) := by omega
      have hk0 : (0 : Int) ≤ (kk : Int) := by omega
      have hk1 : (kk : Int) < (nl : Int) := by omega
      have hkw : IntKind.i64.wrap (kk : Int) = (kk : Int) := i64_wrap_nat kk (by omega)
      clear hkk
      have HSW : wr.drew.cell? ⟨g, 2, none⟩ = some (.slice (some ⟨b, 0, none⟩) nl cp) ∧ wr.drew.cell? ⟨b, kk, none⟩ = some (.int .u8 c) := ⟨hc2, hce⟩
      go_upto_region 2 with fail
      refine wp_region_late (S := fun W => W.cell? ⟨g, 2, none⟩ = some (.slice (some ⟨b, 0, none⟩) nl cp) ∧ W.cell? ⟨b, kk, none⟩ = some (.int .u8 c)) (late := fun i => i == 0 || decide (19 ≤ i)) (by kernel_rfl) ?_
      refine wpAnyG_free (i := 0) (v := .pointer (some ⟨g, 0, none⟩)) (some 9) rfl rfl (by kernel_rfl) rfl (by kernel_rfl) (by kernel_rfl) (fun _ _ _ h => h) (.inl ⟨rfl, fun W _ => by go_simp⟩) ?_
      simp only [Act.put, List.setIfInBounds_toArray, List.set_cons_zero, List.set_cons_succ]
      refine wpAnyG_take (i := 1) (f := 22) (v := .pointer (some ⟨g, 0, none⟩)) (some 10) rfl rfl (by kernel_rfl) (by kernel_rfl) (by kernel_rfl) (by kernel_rfl) (by kernel_rfl) (fun _ _ _ h => h) (.inl ⟨rfl, fun W hW => by obtain ⟨hw1, hw2⟩ := hW; go_simp⟩) HSW ?_
      simp only [Act.put, List.setIfInBounds_toArray, List.set_cons_zero, List.set_cons_succ]
      refine wpAnyG_take (i := 2) (f := 22) (v := .pointer (some ⟨g, 0, none⟩)) (some 11) rfl rfl (by kernel_rfl) (by kernel_rfl) (by kernel_rfl) (by kernel_rfl) (by kernel_rfl) (fun _ _ _ h => h) (.inl ⟨rfl, fun W hW => by obtain ⟨hw1, hw2⟩ := hW; go_simp⟩) HSW ?_
      simp only [Act.put, List.setIfInBounds_toArray, List.set_cons_zero, List.set_cons_succ]
      refine wpAnyG_take (i := 3) (f := 22) (v := .pointer (some ⟨g, 2, none⟩)) (some 12) rfl rfl (by kernel_rfl) (by kernel_rfl) (by kernel_rfl) (by kernel_rfl) (by kernel_rfl) (fun _ _ _ h => h) (.inl ⟨rfl, fun W hW => by obtain ⟨hw1, hw2⟩ := hW; go_simp⟩) HSW ?_
      simp only [Act.put, List.setIfInBounds_toArray, List.set_cons_zero, List.set_cons_succ]
      refine wpAnyG_take (i := 4) (f := 22) (v := .slice (some ⟨b, 0, none⟩) nl cp) (some 13) rfl rfl (by kernel_rfl) (by kernel_rfl) (by kernel_rfl) (by kernel_rfl) (by kernel_rfl) (fun _ _ _ h => h) (.inl ⟨rfl, fun W hW => by obtain ⟨hw1, hw2⟩ := hW; go_simp⟩) HSW ?_
      simp only [Act.put, List.setIfInBounds_toArray, List.set_cons_zero, List.set_cons_succ]
      refine wpAnyG_take (i := 5) (f := 22) (v := .pointer (some ⟨g, 0, none⟩)) (some 14) rfl rfl (by kernel_rfl) (by kernel_rfl) (by kernel_rfl) (by kernel_rfl) (by kernel_rfl) (fun _ _ _ h => h) (.inl ⟨rfl, fun W hW => by obtain ⟨hw1, hw2⟩ := hW; go_simp⟩) HSW ?_
      simp only [Act.put, List.setIfInBounds_toArray, List.set_cons_zero, List.set_cons_succ]
      refine wpAnyG_take (i := 6) (f := 22) (v := .pointer (some ⟨g, 0, none⟩)) (some 15) rfl rfl (by kernel_rfl) (by kernel_rfl) (by kernel_rfl) (by kernel_rfl) (by kernel_rfl) (fun _ _ _ h => h) (.inl ⟨rfl, fun W hW => by obtain ⟨hw1, hw2⟩ := hW; go_simp⟩) HSW ?_
      simp only [Act.put, List.setIfInBounds_toArray, List.set_cons_zero, List.set_cons_succ]
      refine wpAnyG_take (i := 7) (f := 22) (v := .pointer (some ⟨g, 2, none⟩)) (some 16) rfl rfl (by kernel_rfl) (by kernel_rfl) (by kernel_rfl) (by kernel_rfl) (by kernel_rfl) (fun _ _ _ h => h) (.inl ⟨rfl, fun W hW => by obtain ⟨hw1, hw2⟩ := hW; go_simp⟩) HSW ?_
      simp only [Act.put, List.setIfInBounds_toArray, List.set_cons_zero, List.set_cons_succ]
      refine wpAnyG_take (i := 8) (f := 22) (v := .slice (some ⟨b, 0, none⟩) nl cp) (some 17) rfl rfl (by kernel_rfl) (by kernel_rfl) (by kernel_rfl) (by kernel_rfl) (by kernel_rfl) (fun _ _ _ h => h) (.inl ⟨rfl, fun W hW => by obtain ⟨hw1, hw2⟩ := hW; go_simp⟩) HSW ?_
      simp only [Act.put, List.setIfInBounds_toArray, List.set_cons_zero, List.set_cons_succ]
      refine wpAnyG_take (i := 9) (f := 22) (v := .pointer (some ⟨g, 0, none⟩)) (some 18) rfl rfl (by kernel_rfl) (by kernel_rfl) (by kernel_rfl) (by kernel_rfl) (by kernel_rfl) (fun _ _ _ h => h) (.inl ⟨rfl, fun W hW => by obtain ⟨hw1, hw2⟩ := hW; go_simp⟩) HSW ?_
      simp only [Act.put, List.setIfInBounds_toArray, List.set_cons_zero, List.set_cons_succ]
      refine wpAnyG_take (i := 10) (f := 22) (v := .pointer (some ⟨g, 0, none⟩)) (some 19) rfl rfl (by kernel_rfl) (by kernel_rfl) (by kernel_rfl) (by kernel_rfl) (by kernel_rfl) (fun _ _ _ h => h) (.inl ⟨rfl, fun W hW => by obtain ⟨hw1, hw2⟩ := hW; go_simp⟩) HSW ?_
      simp only [Act.put, List.setIfInBounds_toArray, List.set_cons_zero, List.set_cons_succ]
      refine wpAnyG_take (i := 11) (f := 22) (v := .pointer (some ⟨g, 2, none⟩)) (some 20) rfl rfl (by kernel_rfl) (by kernel_rfl) (by kernel_rfl) (by kernel_rfl) (by kernel_rfl) (fun _ _ _ h => h) (.inl ⟨rfl, fun W hW => by obtain ⟨hw1, hw2⟩ := hW; go_simp⟩) HSW ?_
      simp only [Act.put, List.setIfInBounds_toArray, List.set_cons_zero, List.set_cons_succ]
      refine wpAnyG_take (i := 12) (f := 22) (v := .slice (some ⟨b, 0, none⟩) nl cp) (some 21) rfl rfl (by kernel_rfl) (by kernel_rfl) (by kernel_rfl) (by kernel_rfl) (by kernel_rfl) (fun _ _ _ h => h) (.inl ⟨rfl, fun W hW => by obtain ⟨hw1, hw2⟩ := hW; go_simp⟩) HSW ?_
      simp only [Act.put, List.setIfInBounds_toArray, List.set_cons_zero, List.set_cons_succ]
      refine wpAnyG_take (i := 13) (f := 22) (v := .int .i64 nl) (some 22) rfl rfl (by kernel_rfl) (by kernel_rfl) (by kernel_rfl) (by kernel_rfl) (by kernel_rfl) (fun _ _ _ h => h) (.inl ⟨rfl, fun W hW => by obtain ⟨hw1, hw2⟩ := hW; go_simp⟩) HSW ?_
      simp only [Act.put, List.setIfInBounds_toArray, List.set_cons_zero, List.set_cons_succ]
      refine wpAnyG_take (i := 14) (f := 22) (v := .int .i64 far) (some 23) rfl rfl (by kernel_rfl) (by kernel_rfl) (by kernel_rfl) (by kernel_rfl) (by kernel_rfl) (fun _ _ _ h => h) (.inl ⟨rfl, fun W hW => by obtain ⟨hw1, hw2⟩ := hW; go_simp⟩) HSW ?_
      simp only [Act.put, List.setIfInBounds_toArray, List.set_cons_zero, List.set_cons_succ]
      refine wpAnyG_take (i := 15) (f := 22) (v := .int .i64 kk) (some 24) rfl rfl (by kernel_rfl) (by kernel_rfl) (by kernel_rfl) (by kernel_rfl) (by kernel_rfl) (fun _ _ _ h => h) (.inl ⟨rfl, fun W hW => by obtain ⟨hw1, hw2⟩ := hW; go_simp⟩) HSW ?_
      simp only [Act.put, List.setIfInBounds_toArray, List.set_cons_zero, List.set_cons_succ]
      refine wpAnyG_take (i := 16) (f := 22) (v := .pointer (some ⟨b, kk, none⟩)) (some 25) rfl rfl (by kernel_rfl) (by kernel_rfl) (by kernel_rfl) (by kernel_rfl) (by kernel_rfl) (fun _ _ _ h => h) (.inl ⟨rfl, fun W hW => by obtain ⟨hw1, hw2⟩ := hW; go_simp⟩) HSW ?_
      simp only [Act.put, List.setIfInBounds_toArray, List.set_cons_zero, List.set_cons_succ]
      refine wpAnyG_take (i := 17) (f := 22) (v := .int .u8 c) (some 26) rfl rfl (by kernel_rfl) (by kernel_rfl) (by kernel_rfl) (by kernel_rfl) (by kernel_rfl) (fun _ _ _ h => h) (.inl ⟨rfl, fun W hW => by obtain ⟨hw1, hw2⟩ := hW; go_simp⟩) HSW ?_
      simp only [Act.put, List.setIfInBounds_toArray, List.set_cons_zero, List.set_cons_succ]
      have hA : Only (fun _ => False) wr (wr.drew.alloc (.cells #[.int .u8 (c : Int)] 5)) := (Only.refl (fun _ => False) wr).drew.alloc _
      have HUP1 := hide ((unhide HR).kept hA (fun x => x))
      have HOW1 := hide (own_old (unhide HOWN) hA)
      have HNW := hide (byte_new5 (wr := wr.drew) (n := c))
      have hS1 : (wr.drew.alloc (.cells #[.int .u8 (c : Int)] 5)).cell? ⟨g, 2, none⟩ = some (.slice (some ⟨b, 0, none⟩) nl cp) ∧ (wr.drew.alloc (.cells #[.int .u8 (c : Int)] 5)).cell? ⟨b, kk, none⟩ = some (.int .u8 c) := ⟨(hA.cell (p := ⟨g, 2, none⟩) (unhide HR).lt (fun x => x)).trans hc2, (hA.cell (p := ⟨b, kk, none⟩) (cell_lt hce) (fun x => x)).trans hce⟩
      have HO1 := hide ((unhide HO).trans (Only.oldS (S := S) hA))
      refine wpAnyG_one (i := 18) (by kernel_rfl) ?_
      refine wpOp_step rfl (fun K' hK => ?_)
      go_simp
      refine hK _ _ ⟨fun _ => hS1, ?_⟩
      clear hK
      refine wpAnyG_one (i := 19) (by kernel_rfl) ?_
      have hnlv := unhide HNL
      have how1 := unhide HOW1
      rw [hnlv] at how1
      refine op_plain rfl rfl (wp_append_lies _ (.tmp 13) (.tmp 27) 62 rfl 0 5 i0 (.int .u8 0) 1 1 Tryz.underlying62 hi0 hz0 hz1 hz2 rfl (by omega) (.slice (some ⟨b, 0, none⟩) nl cp) nl _ rfl how1 ⟨wr.heap.size, 0, none⟩ 1 1 [.int .u8 (c : Int)] rfl rfl (unhide HNW) (by intro u hu; simp at hu; subst hu; rfl) (by omega) (by unfold maxLen; omega) (by omega) (by omega) _ rfl ?_)
      intro g2 cap2 w3 ho3 hg3 hl3 hlt3
      have hup1 := unhide HUP1
      obtain ⟨hup3, hO5, hst5⟩ := StU.push (w := w) (w1 := wr.drew.alloc (.cells #[.int .u8 (c : Int)] 5)) (w3 := w3) (S := S) hSg (l := lj) (ao := some ⟨b, 0, none⟩) (cap := cp) (g2 := g2) (cap2 := cap2) (c := c) hcb (hF _ (by have := (unhide HO1).size; exact this)) (unhide HSA) (unhide HO1) hup1 (unhide HOW1) (by rw [hnlv]; exact ho3) (by rw [hnlv]; exact hg3) (by rw [hnlv]; exact hl3)
      have hc23 := hup3.c2
      have hf23 := hup3.thaw 2
      rw [hnlv] at hc23 hO5 hst5
      refine ⟨(fun h => by cases h), ?_⟩
      clear ho3 hg3 hl3 hup1 how1
      simp only [Act.put, List.setIfInBounds_toArray]
      refine wpAnyG_one (i := 20) (by kernel_rfl) ?_
      refine wpOp_step rfl (fun K' hK => ?_)
      go_simp
      refine hK _ _ ⟨(fun h => by cases h), ?_⟩
      clear hK
      refine wpAnyG_one (i := 21) (by kernel_rfl) ?_
      refine wpOp_step rfl (fun K' hK => ?_)
      go_simp
      refine hK _ _ ⟨(fun h => by cases h), ?_⟩
      clear hK
      refine wpAnyG_one (i := 22) (by kernel_rfl) ?_
      refine wpOp_step rfl (fun K' hK => ?_)
      go_simp
      refine hK _ _ ⟨(fun h => by cases h), ?_⟩
      clear hK
      refine wpAnyG_done (by kernel_rfl) ?_
      have HO5 := hide hO5
      have HST5 : Hid (StU (w3.setCell ⟨g, 2, none⟩ (.slice (some ⟨g2, 0, none⟩) (nl + 1) cap2)) g S s a (copyL l far (j + 1))) := by
        have := hst5
        rw [unhide HBE, ← unhide HNX] at this
        exact this
      clear hO5 hst5 hup3 hc23 hf23
      go_wp2_with fail
      go_roundw
      case rel => exact ⟨j + 1, by omega, by go_num, HST5, HO5⟩
      case measure => simp [intOf]; omega
    · have hjI : ¬ (j : Int) < (n : Int) := by omega
      have hje : j = n := by omega
      subst hje
      go_wp2_with fail
      go_end0
      exact ⟨rfl, HO, HST⟩
end Go.Proofs.YtndfmgdhiallpaaGreatDoor
