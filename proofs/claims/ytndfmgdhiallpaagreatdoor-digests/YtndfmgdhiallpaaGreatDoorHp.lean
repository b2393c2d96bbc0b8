/- The digest: the code's numbers K, worked out of primes. -/
import Derived.Test.YtndfmgdhiallpaaGreatDoorChecked
import Derived.Test.YtndfmgdhiallpaaGreatDoorHa
import Derived.Test.YtndfmgdhiallpaaGreatDoorWa
import Derived.Deep.QuietTactic
import Derived.Lib.Mul64
import Derived.Laws.Bits64b
namespace Go.Proofs.YtndfmgdhiallpaaGreatDoor
open Go.RowKit

theorem u64_mask32 (a : Nat) (ha : a < 18446744073709551616) : bits .and .u64 (a : Int) 4294967295 = ((a % 4294967296 : Nat) : Int) := by
  have h := bits_and_u64_nat a 4294967295 ha (by omega)
  have e : a &&& 4294967295 = a % 4294967296 := Nat.and_two_pow_sub_one_eq_mod a 32
  rw [e] at h
  exact h
theorem u64_div32 (a : Nat) : (a : Int) / 4294967296 = ((a / 4294967296 : Nat) : Int) := by omega
theorem u64_wrap (a : Nat) (ha : a < 18446744073709551616) : IntKind.u64.wrap (a : Int) = (a : Int) := by rw [IntKind.wrap_u64]; omega
theorem u64_wrapm (a : Nat) : IntKind.u64.wrap (a : Int) = ((a % 18446744073709551616 : Nat) : Int) := by rw [IntKind.wrap_u64]; omega

set_option maxHeartbeats 1000000 in
theorem mul64_any (x y : Nat) (hx : x < 18446744073709551616) (hy : y < 18446744073709551616) (w : World) :
    Calls Tryz.prog 357 #[.int .u64 x, .int .u64 y] w fun e w' => e = .returned (.tuple #[.int .u64 ((x * y / 18446744073709551616 : Nat) : Int), .int .u64 ((x * y % 18446744073709551616 : Nat) : Int)]) ∧ w' = w := by
  obtain ⟨bd, bt, bw, hhi⟩ := Lib.mul64_hi x y hx hy
  have ba := Lib.half_mul_le (a := x / 4294967296) (b := y / 4294967296) (by omega) (by omega)
  have bb := Lib.half_mul_le (a := x / 4294967296) (b := y % 4294967296) (by omega) (by omega)
  have bc := Lib.half_mul_le (a := x % 4294967296) (b := y / 4294967296) (by omega) (by omega)
  have ba' : x / 4294967296 * (y / 4294967296) < 18446744073709551616 := by omega
  have bb' : x / 4294967296 * (y % 4294967296) < 18446744073709551616 := by omega
  have bc' : x % 4294967296 * (y / 4294967296) < 18446744073709551616 := by omega
  have bh1 : x / 4294967296 * (y / 4294967296) + (x / 4294967296 * (y % 4294967296) + x % 4294967296 * (y % 4294967296) / 4294967296) / 4294967296 < 18446744073709551616 := by omega
  have bh : x / 4294967296 * (y / 4294967296) + (x / 4294967296 * (y % 4294967296) + x % 4294967296 * (y % 4294967296) / 4294967296) / 4294967296 + ((x / 4294967296 * (y % 4294967296) + x % 4294967296 * (y % 4294967296) / 4294967296) % 4294967296 + x % 4294967296 * (y / 4294967296)) / 4294967296 < 18446744073709551616 := by omega
  go_enter Tryz.func357, Tryz.ntmps357
  go_wp2
  simp only [u64_mask32 x hx, u64_mask32 y hy, u64_div32, (Int.natCast_mul _ _).symm, (Int.natCast_add _ _).symm, u64_wrap _ bd, u64_wrap _ bb', u64_wrap _ bt, u64_mask32 _ bt, u64_wrap _ bc', u64_wrap _ bw, u64_wrap _ ba', u64_wrap _ bh1, u64_wrap _ bh, u64_wrapm]
  rw [hhi]
  go_ret2
  exact ⟨rfl, rfl⟩

/-- The cube without its lowest 64 bits. -/
def cubT (n : Nat) : Nat := n * n * n / 18446744073709551616
theorem cubT_eq {n : Nat} (_h : n < 34359738368) : n * n / 18446744073709551616 * n + n * n % 18446744073709551616 * n / 18446744073709551616 = cubT n := by
  unfold cubT
  have e : n * n * n = n * n % 18446744073709551616 * n + 18446744073709551616 * (n * n / 18446744073709551616 * n) := by
    have := Nat.mod_add_div (n * n) 18446744073709551616
    rw [← Nat.mul_assoc, ← Nat.add_mul, this]
  rw [e, Nat.add_mul_div_left _ _ (by omega), Nat.add_comm]
theorem cubT_le {n : Nat} (h : n < 34359738368) : cubT n < 2199023255552 := by
  unfold cubT
  have h1 : n * n ≤ 34359738368 * 34359738368 := Nat.mul_le_mul (by omega) (by omega)
  have h2 : n * n * n < 34359738368 * 34359738368 * 34359738368 := Nat.mul_lt_mul_of_le_of_lt h1 h (by omega)
  omega

set_option maxRecDepth 100000 in
set_option maxHeartbeats 1000000 in
theorem cubeTop_any (n : Nat) (h : n < 34359738368) (w : World) :
    Calls Tryz.prog 339 #[.int .u64 n] w fun e w' => e = .returned (.int .u64 (cubT n)) ∧ w' = w := by
  have h1 := fun w1 => mul64_any n n (by omega) (by omega) w1
  have hl : n * n % 18446744073709551616 < 18446744073709551616 := Nat.mod_lt _ (by omega)
  have h2 := fun w1 => mul64_any (n * n % 18446744073709551616) n hl (by omega) w1
  have he := cubT_eq h
  have hc := cubT_le h
  have HE := hide he
  have HH1 := hide h1
  have HH2 := hide h2
  clear h1 h2 he
  generalize n * n % 18446744073709551616 = lo at *
  generalize n * n / 18446744073709551616 = hi at *
  generalize lo * n / 18446744073709551616 = ca at *
  generalize lo * n % 18446744073709551616 = cb at *
  go_enter Tryz.func339, Tryz.ntmps339
  go_wp2_with fail
  refine (unhide HH1 _).mono ?_
  rintro e w' ⟨rfl, rfl⟩
  go_wp2_with fail
  refine (unhide HH2 _).mono ?_
  rintro e w' ⟨rfl, rfl⟩
  go_wp2
  go_ret
  refine ⟨ret1_eq (congrArg (Value.int .u64) ?_), rfl⟩
  have := unhide HE
  have e4 : hi * n < 18446744073709551616 := by omega
  rw [← Int.natCast_mul, u64_wrap _ e4, ← Int.natCast_add, this, u64_wrap _ (by omega)]

/-! The root, bit by bit. -/
def rootStep (n r b : Nat) : Nat := if cubT (r ||| b) < n * 4294967296 then r ||| b else r
/-- Behind k bits, the highest first. -/
def rootN (n : Nat) : Nat → Nat
  | 0 => 0
  | k + 1 => rootStep n (rootN n k) (2 ^ (34 - k))
theorem rootN_lt (n k : Nat) : rootN n k < 34359738368 := by
  induction k with
  | zero => exact Nat.succ_pos _
  | succ k ih =>
    rw [rootN, rootStep]
    split
    · exact Nat.or_lt_two_pow (n := 35) ih (Nat.pow_lt_pow_right (by omega) (by omega))
    · exact ih
theorem u64_or_lt {a b : Nat} (ha : a < 34359738368) (hb : b < 34359738368) : bits .or .u64 (a : Int) (b : Int) = ((a ||| b : Nat) : Int) := bits_or_u64_nat a b (by omega) (by omega)

set_option maxRecDepth 100000 in
set_option maxHeartbeats 1000000 in
theorem cubeRoot_any (n : Nat) (h : n < 512) (w : World) :
    Calls Tryz.prog 301 #[.int .u64 n] w fun e w' => e = .returned (.int .u32 ((rootN n 35 % 4294967296 : Nat) : Int)) ∧ w' = w := by
  go_enter Tryz.func301, Tryz.ntmps301
  go_wp2_with fail
  go_loop [3, 4] (fun r b => ∃ k bn : Nat, k ≤ 35 ∧ r = .int .u64 (rootN n k) ∧ b = .int .u64 bn ∧ Hid (bn = if k = 35 then 0 else 2 ^ (34 - k))) (fun _ b => (intOf b).toNat)
  case atStart => exact ⟨0, 17179869184, by omega, rfl, rfl, rfl⟩
  case round =>
    obtain ⟨k, bn, hk, rfl, rfl, HB⟩ := hrel
    by_cases h35 : k = 35
    · have hb0 : bn = 0 := by have := unhide HB; rwa [if_pos h35] at this
      subst hb0
      rw [h35]
      have hr := rootN_lt n 35
      generalize hR : rootN n 35 = r at hr ⊢
      have HR := hide hR
      clear hR
      go_wp2_with fail
      go_ret
      exact ⟨ret1_eq (congrArg (Value.int .u32) (by have := unhide HR; omega)), rfl⟩
    · have hb : bn = 2 ^ (34 - k) := by have := unhide HB; rwa [if_neg h35] at this
      have hb1 : bn < 34359738368 := by rw [hb]; exact Nat.lt_of_le_of_lt (Nat.pow_le_pow_right (by omega) (show 34 - k ≤ 34 by omega)) (by omega)
      have hb2 : 0 < bn := by rw [hb]; exact Nat.pow_pos (by omega)
      have HN : Hid (bn / 2 = if k + 1 = 35 then 0 else 2 ^ (34 - (k + 1))) := by
        unfold Hid
        by_cases h34 : k = 34
        · subst h34; rw [if_pos rfl, hb]
        · rw [if_neg (by omega), hb, show 34 - k = 34 - (k + 1) + 1 by omega, Nat.pow_succ]; omega
      have HS : Hid (rootN n (k + 1) = rootStep n (rootN n k) bn) := by rw [hb]; rfl
      have hr := rootN_lt n k
      generalize rootN n k = r at *
      have ho := u64_or_lt hr hb1
      have hrb : r ||| bn < 34359738368 := Nat.or_lt_two_pow (n := 35) hr hb1
      have HC := hide (fun w1 => cubeTop_any (r ||| bn) hrb w1)
      have hcl := cubT_le hrb
      unfold rootStep at HS
      generalize r ||| bn = q at *
      generalize cubT q = c at *
      clear hb HB
      go_wp2_with (go_at_call 339; refine (unhide HC _).mono ?_; rintro e w' ⟨rfl, rfl⟩)
      all_goals go_round
      case rel => exact ⟨k + 1, bn / 2, by omega, by rw [unhide HS, if_pos (by omega)], rfl, HN⟩
      case measure => simp [intOf]; omega
      case rel => exact ⟨k + 1, bn / 2, by omega, by rw [unhide HS, if_neg (by omega)], rfl, HN⟩
      case measure => simp [intOf]; omega

/-! Primes. -/
def anyD (n : Nat) (d : Nat → Nat) (m : Nat) : Bool := (List.range m).any fun j => n % d j == 0
theorem anyD_succ (n : Nat) (d : Nat → Nat) (m : Nat) : anyD n d (m + 1) = (anyD n d m || n % d m == 0) := by simp [anyD, List.range_succ]
theorem anyD_true {n : Nat} {d : Nat → Nat} {m k : Nat} (hk : k < m) (h : n % d k = 0) : anyD n d m = true := List.any_eq_true.2 ⟨k, List.mem_range.2 hk, by simp [h]⟩

set_option maxRecDepth 100000 in
set_option maxHeartbeats 1000000 in
theorem divided_any (n : Nat) (hn : n < 1000) (d : Nat → Nat) (m c g : Nat) (hm : m ≤ 64) (w : World) (hd : ∀ j, j < m → 1 ≤ d j ∧ d j < 1000) (hr : Row w g 251 m (fun j => .int .u64 (d j))) :
    Calls Tryz.prog 338 #[.int .u64 n, .slice (some ⟨g, 0, none⟩) m c] w fun e w' => e = .returned (.bool (anyD n d m)) ∧ w' = w := by
  have HD := hide hd
  have HR := hide hr
  clear hd hr
  go_enter Tryz.func338, Tryz.ntmps338
  go_wp2_with fail
  go_loop [9] (fun i => ∃ k : Nat, k ≤ m ∧ i = .int .i64 k ∧ Hid (anyD n d k = false)) (fun i => m - (intOf i).toNat)
  case atStart => exact ⟨0, by omega, rfl, rfl⟩
  case round =>
    obtain ⟨k, hk, rfl, HF⟩ := hrel
    by_cases hlt : k < m
    · have hce := (unhide HR).cell k hlt
      obtain ⟨h1, h2⟩ := unhide HD k hlt
      have HT := hide (fun h => anyD_true (n := n) (d := d) hlt h)
      have HNX := hide (anyD_succ n d k)
      generalize d k = dk at hce h1 h2 HT HNX
      have hnz : (dk : Int) ≠ 0 := by omega
      by_cases hz : n % dk = 0
      · have hb : ((n : Int) % (dk : Int) == 0) = true := by rw [beq_iff_eq]; omega
        go_wp2_with fail
        go_ret
        exact ⟨ret1_eq (congrArg Value.bool (unhide HT hz).symm), rfl⟩
      · have hb : ((n : Int) % (dk : Int) == 0) = false := by rw [beq_eq_false_iff_ne]; omega
        go_wp2_with fail
        go_round
        case rel => exact ⟨k + 1, by omega, by go_num, (show _ = _ by rw [unhide HNX, unhide HF]; simp [hz])⟩
        case measure => simp [intOf]; omega
    · have hkm : k = m := by omega
      subst hkm
      go_wp2_with fail
      go_ret
      exact ⟨ret1_eq (congrArg Value.bool (unhide HF).symm), rfl⟩

def prS : Nat → List Nat
  | 0 => []
  | k + 1 => if (prS k).any (fun d => (k + 2) % d == 0) then prS k else prS k ++ [k + 2]
theorem prS_lt (k : Nat) : ∀ d ∈ prS k, 2 ≤ d ∧ d < k + 2 := by
  induction k with
  | zero => intro d hd; cases hd
  | succ k ih =>
    intro d hd
    rw [prS] at hd
    split at hd
    · have := ih d hd; omega
    · rcases List.mem_append.1 hd with h | h
      · have := ih d h; omega
      · have := List.mem_singleton.1 h; omega
theorem prS_mono {a b : Nat} (h : a ≤ b) : (prS a).length ≤ (prS b).length := by
  induction b with
  | zero => rw [Nat.le_zero.1 h]; exact Nat.le_refl _
  | succ b ih =>
    rcases Nat.lt_or_ge a (b + 1) with h1 | h1
    · refine Nat.le_trans (ih (by omega)) ?_
      rw [prS]; split
      · exact Nat.le_refl _
      · simp
    · rw [show a = b + 1 by omega]; exact Nat.le_refl _
theorem prS_309 : (prS 309).length = 63 := by decide +kernel
theorem prS_310 : (prS 310).length = 64 := by decide +kernel
theorem anyD_list (n : Nat) (l : List Nat) : anyD n (fun j => l.getD j 0) l.length = l.any (fun d => n % d == 0) := by
  rw [Bool.eq_iff_iff, anyD, List.any_eq_true, List.any_eq_true]
  constructor
  · rintro ⟨j, hj, h⟩
    have hj := List.mem_range.1 hj
    exact ⟨l[j], List.getElem_mem hj, by simpa [List.getD_eq_getElem?_getD, hj] using h⟩
  · rintro ⟨d, hd, h⟩
    obtain ⟨j, hj, rfl⟩ := List.mem_iff_getElem.1 hd
    exact ⟨j, List.mem_range.2 hj, by simpa [List.getD_eq_getElem?_getD, hj] using h⟩
def u64s (l : List Nat) : List Value := l.map fun (n : Nat) => Value.int .u64 (n : Int)
theorem infoW64 : (Tryz.prog.info? 251).map (fun i => (i.zero, i.size, i.bytes)) = some (some (.int .u64 0), 1, 8) := by kernel_rfl
theorem Row.ofOwns {w : World} {base : Nat} {e : TypeId} {g c n : Nat} {xs : List Value} {f : Nat → Value} (h : w.ownsRow base e 1 (.slice (some ⟨g, 0, none⟩) n c) n xs) (hf : ∀ j, j < n → xs[j]? = some (f j)) : Row w g e n f := by
  obtain ⟨hl, h | ⟨g', c', cur, hv, _, hg, hn, _, hs, ht⟩⟩ := h
  · cases h.1
  · injection hv with hv1 hv2 hv3
    injection hv1 with hv1
    injection hv1 with hv1
    subst hv1
    refine ⟨cur, hg, by omega, fun j hj => ?_⟩
    rw [← hf j hj, ← ht, List.getElem?_take, if_pos (by omega), Array.getElem?_toList]
theorem u64s_get (l : List Nat) (j : Nat) (h : j < l.length) : (u64s l)[j]? = some (.int .u64 (l.getD j 0 : Nat)) := by
  simp [u64s, List.getD_eq_getElem?_getD, h]
theorem word_new {wr : World} {n : Nat} {e : TypeId} : ∀ j u, [Value.int .u64 (n : Int)][j]? = some u → (wr.alloc (.cells #[.int .u64 (n : Int)] e)).cell? ((⟨wr.heap.size, 0, none⟩ : Addr).add j) = some u := by
  intro j u hu
  rw [Addr.add_lit, Nat.zero_add, cell_of_row _ _ j _ e (0, 0) (Go.heap_alloc_new wr _)]
  simpa using hu

set_option maxRecDepth 100000 in
set_option maxHeartbeats 1000000 in
theorem primes_any (w : World) :
    Calls Tryz.prog 300 #[.int .i64 64] w fun e w' => e = .returned (.slice (some ⟨w.heap.size, 0, none⟩) 64 64) ∧ Row w' w.heap.size 251 64 (fun j => .int .u64 ((prS 310).getD j 0)) ∧ Old w w' := by
  obtain ⟨i0, hi0, hz0, hz1, hz2⟩ := info_parts infoW64
  go_enter Tryz.func300, Tryz.ntmps300
  go_wp2_with (at_make; refine wpList_make_own _ rfl (.const (.int .i64 0)) (.tmp 5) 306 rfl w.heap.size 251 i0 (.int .u64 0) 1 Tryz.underlying306 hi0 hz0 hz1 .i64 .i64 64 64 rfl rfl rfl (by rw [hz2]; omega) (by unfold maxLen; omega) (by simp) ?_; intro w1 ho1 hg1; have HO1 := hide ho1; have HOld := hide ((Only.refl (fun _ => False) w).grown hg1 (fun k _ e => by cases e)); clear ho1 hg1)
  go_loopw [3, 4] (fun v i wr => ∃ k m n : Nat, k ≤ 310 ∧ m ≤ 64 ∧ i = .int .u64 n ∧ v = .slice (some ⟨w.heap.size, 0, none⟩) m 64 ∧ Hid (m = (prS k).length ∧ n = k + 2) ∧ Hid (wr.ownsRow w.heap.size 251 1 (.slice (some ⟨w.heap.size, 0, none⟩) m 64) m (u64s (prS k))) ∧ Hid (Old w wr)) (fun _ i _ => 312 - (intOf i).toNat)
  case atStart => exact ⟨0, 0, 2, by omega, by omega, rfl, rfl, ⟨rfl, rfl⟩, HO1, HOld⟩
  case round =>
    obtain ⟨k, m, n, hk, hm, rfl, rfl, HE, HR, HQ⟩ := hrel
    obtain ⟨he1, he2⟩ := unhide HE
    by_cases hlt : m < 64
    · have hk9 : k < 310 := by
        rcases Nat.lt_or_ge k 310 with h | h
        · exact h
        · rw [show k = 310 by omega, prS_310] at he1; omega
      have hn1000 : n < 1000 := by omega
      have HD := hide (divided_any n hn1000 (fun j => (prS k).getD j 0) m 64 w.heap.size hm wr (fun j hj => by
        have hj' : j < (prS k).length := by omega
        have := prS_lt k ((prS k)[j]) (List.getElem_mem hj')
        simp only [List.getD_eq_getElem?_getD, List.getElem?_eq_getElem hj', Option.getD_some]
        omega) (Row.ofOwns (unhide HR) (fun j hj => u64s_get _ j (by omega))))
      have HA : Hid (anyD n (fun j => (prS k).getD j 0) m = (prS k).any (fun d => (k + 2) % d == 0)) := hide (by rw [he1, he2, anyD_list])
      have HP : Hid (prS (k + 1) = if (prS k).any (fun d => (k + 2) % d == 0) then prS k else prS k ++ [k + 2]) := hide rfl
      generalize anyD n (fun j => (prS k).getD j 0) m = b at HD HA
      rw [← unhide HA] at HP
      clear HA he1 he2
      cases b with
      | true =>
        go_wp2_with (go_at_call 338; refine (unhide HD).mono ?_; rintro e w' ⟨rfl, rfl⟩)
        go_roundw
        case rel =>
          have e : prS (k + 1) = prS k := by rw [unhide HP]; exact if_pos trivial
          obtain ⟨he1, he2⟩ := unhide HE
          exact ⟨k + 1, m, n + 1, by omega, hm, by go_num, rfl, ⟨by rw [e]; exact he1, by omega⟩, by rw [e]; exact HR, HQ⟩
        case measure => simp [intOf]; obtain ⟨he1, he2⟩ := unhide HE; omega
      | false =>
        have HNW := hide (word_new (wr := wr) (n := n) (e := 251))
        have HOW : Hid ((wr.alloc (.cells #[.int .u64 (n : Int)] 251)).ownsRow w.heap.size 251 1 (.slice (some ⟨w.heap.size, 0, none⟩) m 64) m (u64s (prS k))) := (unhide HR).alloc _
        go_wp2_with (first
          | (go_at_call 338; refine (unhide HD).mono ?_; rintro e w' ⟨rfl, rfl⟩)
          | (at_builtin; refine wpList_append_fits _ rfl (.tmp 17) (.tmp 19) 306 rfl w.heap.size 251 i0 1 Tryz.underlying306 hi0 hz1 w.heap.size m 64 _ rfl (unhide HOW) ⟨_, 0, none⟩ 1 1 [.int .u64 (n : Int)] rfl rfl (unhide HNW) (by intro u hu; simp at hu; subst hu; rfl) (by omega) ?_; intro w3 ho3 hg3; have HO3 := hide ho3; have HG3 := hide hg3; clear ho3 hg3))
        go_roundw
        case rel =>
          have e : prS (k + 1) = prS k ++ [k + 2] := by rw [unhide HP]; rfl
          obtain ⟨he1, he2⟩ := unhide HE
          refine ⟨k + 1, m + 1, n + 1, by omega, by omega, by go_num, rfl, ⟨by rw [e, List.length_append]; simp; exact he1, by omega⟩, ?_, ?_⟩
          · have e2 : u64s (prS (k + 1)) = u64s (prS k) ++ [.int .u64 (n : Int)] := by rw [e]; simp [u64s, he2]
            rw [e2]; exact unhide HO3
          · exact ((unhide HQ).alloc _).grown (unhide HG3) (fun q hq e => by cases e; omega)
        case measure => simp [intOf]; obtain ⟨he1, he2⟩ := unhide HE; omega
    · have hm64 : m = 64 := by omega
      have hk310 : prS k = prS 310 := by
        rcases Nat.lt_or_ge k 310 with h | h
        · have := prS_mono (show k ≤ 309 by omega); rw [prS_309] at this; omega
        · rw [show k = 310 by omega]
      subst hm64
      have HRow : Hid (Row wr w.heap.size 251 64 (fun j => .int .u64 ((prS 310).getD j 0 : Nat))) := Row.ofOwns (unhide HR) (fun j hj => by rw [hk310]; exact u64s_get _ j (by rw [prS_310]; exact hj))
      clear hk310 he1 he2
      go_wp2_with fail
      go_ret
      exact ⟨rfl, HRow, HQ⟩
end Go.Proofs.YtndfmgdhiallpaaGreatDoor
