/- The digest: the document's Raw. -/
import Derived.Test.YtndfmgdhiallpaaGreatDoorHd
namespace Go.Proofs.YtndfmgdhiallpaaGreatDoor
open Go.RowKit

def kList : List Nat := [
  0x428a2f98, 0x71374491, 0xb5c0fbcf, 0xe9b5dba5, 0x3956c25b, 0x59f111f1, 0x923f82a4, 0xab1c5ed5,
  0xd807aa98, 0x12835b01, 0x243185be, 0x550c7dc3, 0x72be5d74, 0x80deb1fe, 0x9bdc06a7, 0xc19bf174,
  0xe49b69c1, 0xefbe4786, 0x0fc19dc6, 0x240ca1cc, 0x2de92c6f, 0x4a7484aa, 0x5cb0a9dc, 0x76f988da,
  0x983e5152, 0xa831c66d, 0xb00327c8, 0xbf597fc7, 0xc6e00bf3, 0xd5a79147, 0x06ca6351, 0x14292967,
  0x27b70a85, 0x2e1b2138, 0x4d2c6dfc, 0x53380d13, 0x650a7354, 0x766a0abb, 0x81c2c92e, 0x92722c85,
  0xa2bfe8a1, 0xa81a664b, 0xc24b8b70, 0xc76c51a3, 0xd192e819, 0xd6990624, 0xf40e3585, 0x106aa070,
  0x19a4c116, 0x1e376c08, 0x2748774c, 0x34b0bcb5, 0x391c0cb3, 0x4ed8aa4a, 0x5b9cca4f, 0x682e6ff3,
  0x748f82ee, 0x78a5636f, 0x84c87814, 0x8cc70208, 0x90befffa, 0xa4506ceb, 0xbef9a3f7, 0xc67178f2]
def kNum (j : Nat) : Nat := kList.getD j 0
theorem kNum_all : (List.range 64).all (fun j => decide (kNum j < 4294967296)) = true := by decide +kernel
theorem kNum_lt (j : Nat) : kNum j < 4294967296 := by
  by_cases h : j < 64
  · have := List.all_eq_true.1 kNum_all j (List.mem_range.2 h); simpa using this
  · unfold kNum; rw [List.getD_eq_getElem?_getD, List.getElem?_eq_none (by simp [kList]; omega)]; simp

theorem klist_get {arr : Array Value} (h : arr = (kList.map (fun n : Nat => Value.int .i64 (n : Int))).toArray) (j : Nat) (hj : j < 64) : arr[j]? = some (.int .i64 (kNum j)) := by
  have hl : j < kList.length := hj
  rw [h, List.getElem?_toArray, List.getElem?_map, kNum, List.getD_eq_getElem?_getD, List.getElem?_eq_getElem hl]
  rfl

set_option maxRecDepth 100000 in
set_option maxHeartbeats 1000000 in
theorem roots_any (w : World) :
    Calls Tryz.prog 188 #[] w fun e w' => e = .returned (.slice (some ⟨w.heap.size, 0, none⟩) 64 64) ∧ Row w' w.heap.size 3 64 (fun j => .int .i64 (kNum j)) ∧ Old w w' := by
  go_enter Tryz.func188, Tryz.ntmps188
  go_wp2
  go_ret
  refine ⟨rfl, Row.new w _ 3 64 _ (by simp) (fun j hj => ?_), (Only.refl _ w).alloc _⟩
  exact klist_get (by kernel_rfl) j hj

/-- Zeros behind a text, one by one. -/
def pz (s : ByteArray) : Nat → ByteArray
  | 0 => s
  | z + 1 => pz s z ++ ⟨#[0]⟩
theorem pz_size (s : ByteArray) (z : Nat) : (pz s z).size = s.size + z := by
  induction z with
  | zero => rfl
  | succ z ih => rw [pz, ByteArray.size_append, ih]; rfl
def zeroN (n : Nat) : Nat := (119 - n % 64) % 64
/-- The document's bytes with what follows them. -/
def padRef (s : ByteArray) : ByteArray := (pz (s ++ ⟨#[128]⟩) (zeroN s.size) ++ ⟨(be4 (s.size / 536870912)).toArray⟩) ++ ⟨(be4 (8 * s.size % 4294967296)).toArray⟩
theorem padRef_size (s : ByteArray) : (padRef s).size = s.size + 9 + zeroN s.size := by
  unfold padRef
  rw [ByteArray.size_append, ByteArray.size_append, pz_size, ByteArray.size_append]
  show s.size + 1 + zeroN s.size + 4 + 4 = _
  omega
theorem padRef_whole (s : ByteArray) : (padRef s).size % 64 = 0 := by rw [padRef_size]; unfold zeroN; omega
def h0 : E8 := ⟨0x6a09e667, 0xbb67ae85, 0x3c6ef372, 0xa54ff53a, 0x510e527f, 0x9b05688c, 0x1f83d9ab, 0x5be0cd19⟩
theorem h0_ok : h0.ok := by refine ⟨?_, ?_, ?_, ?_, ?_, ?_, ?_, ?_⟩ <;> decide
/-- The eight words behind m blocks of p. -/
def foldB (p : ByteArray) : Nat → E8
  | 0 => h0
  | m + 1 => mixOf kNum (foldB p m) (p.extract (64 * m) (64 * m + 64))
theorem foldB_ok (p : ByteArray) (m : Nat) : (foldB p m).ok := by
  cases m with
  | zero => exact h0_ok
  | succ m => exact mixOf_ok _ _ _
/-- The first k of the eight words, as bytes. -/
def outB (x : E8) : Nat → ByteArray
  | 0 => ⟨#[]⟩
  | k + 1 => outB x k ++ ⟨(be4 (x.nth k)).toArray⟩

theorem outB_size (x : E8) (k : Nat) : (outB x k).size = 4 * k := by
  induction k with
  | zero => rfl
  | succ k ih => rw [outB, ByteArray.size_append, ih]; show 4 * k + 4 = _; omega

theorem highest_c (n : Nat) (c : Int) (hc : c = (n : Int)) (w : World) (h : n < 9223372036854775808) :
    Calls Tryz.prog 187 #[.int .i64 c] w fun e w' => e = .returned (.string ⟨(be4 n).toArray⟩) ∧ Old w w' := by
  subst hc
  refine (highest_any n w h).mono ?_
  rintro e w' ⟨rfl, o, rfl⟩
  exact ⟨rfl, (Only.refl _ w).alloc o⟩

set_option maxRecDepth 100000 in
set_option maxHeartbeats 1000000 in
theorem raw_any (s : ByteArray) (w : World) (hs : s.size ≤ 140737488355328) :
    Calls Tryz.prog 108 #[.string s] w fun e w' => e = .returned (.string (outB (foldB (padRef s) ((padRef s).size / 64)) 8)) ∧ Old w w' := by
  go_enter Tryz.func108, Tryz.ntmps108
  go_wp2
  go_loop [0] (fun x => ∃ z : Nat, z ≤ zeroN s.size ∧ x = .string (pz (s ++ ⟨#[128]⟩) z)) (fun x => match x with | .string p => s.size + 1000 - p.size | _ => 0)
  case atStart => exact ⟨0, by omega, rfl⟩
  case round =>
    obtain ⟨z, hz, rfl⟩ := hrel
    have hsz : (pz (s ++ ⟨#[128]⟩) z).size = s.size + 1 + z := by rw [pz_size, ByteArray.size_append]; rfl
    have hz64 : zeroN s.size < 64 := Nat.mod_lt _ (by omega)
    have hzz : z < 64 := by omega
    by_cases hlt : z < zeroN s.size
    · have hb : ((((s.size : Int) + 1 + (z : Int)) % 64) != 56) = true := by rw [bne_iff_ne]; unfold zeroN at hlt hz; omega
      have hlt2 : z + 1 ≤ zeroN s.size := hlt
      clear hlt hz hz64
      go_wp2
      go_round
      case rel => exact ⟨z + 1, hlt2, rfl⟩
      case measure =>
        show s.size + 1000 - (pz (s ++ ⟨#[128]⟩) z ++ ⟨#[0]⟩).size < s.size + 1000 - (pz (s ++ ⟨#[128]⟩) z).size
        rw [ByteArray.size_append, hsz]
        show s.size + 1000 - (s.size + 1 + z + 1) < _
        omega
    · have hze : z = zeroN s.size := by omega
      have hb : ((((s.size : Int) + 1 + (z : Int)) % 64) != 56) = false := by rw [bne_eq_false_iff_eq]; rw [hze]; unfold zeroN; omega
      have HP : Hid (padRef s = (pz (s ++ ⟨#[128]⟩) z ++ ⟨(be4 (s.size / 536870912)).toArray⟩) ++ ⟨(be4 (8 * s.size % 4294967296)).toArray⟩) := by rw [hze]; rfl
      clear hze hlt hz hz64
      generalize hq : pz (s ++ ⟨#[128]⟩) z = q at *
      clear hq
      go_wp2_with fail
      refine (highest_c (s.size / 536870912) _ (by omega) _ (by omega)).mono ?_
      rintro e w1 ⟨rfl, ho1⟩
      have HO1 := hide ho1
      clear ho1
      generalize hb1 : (⟨(be4 (s.size / 536870912)).toArray⟩ : ByteArray) = q1 at *
      have s1 : q1.size = 4 := by rw [← hb1]; rfl
      clear hb1
      go_wp2_with fail
      refine (highest_c (8 * s.size % 4294967296) _ (by omega) _ (by omega)).mono ?_
      rintro e w2 ⟨rfl, ho2⟩
      have HO2 := hide ((unhide HO1).trans ho2)
      clear ho2 HO1
      generalize hb2 : (⟨(be4 (8 * s.size % 4294967296)).toArray⟩ : ByteArray) = q2 at *
      have s2 : q2.size = 4 := by rw [← hb2]; rfl
      clear hb2
      go_wp2_with fail
      refine (roots_any _).mono ?_
      rintro e w3 ⟨rfl, hk3, ho3⟩
      have HO3 := hide ((unhide HO2).trans ho3)
      have HK3 := hide hk3
      have hkl := hk3.lt
      generalize w2.heap.size = gk at *
      clear hk3 ho3 HO2
      have hps : (q ++ q1 ++ q2).size = s.size + 9 + z := by rw [ByteArray.size_append, ByteArray.size_append, hsz, s1, s2]; omega
      have hpw : (q ++ q1 ++ q2).size % 64 = 0 := by rw [← unhide HP]; exact padRef_whole s
      generalize q ++ q1 ++ q2 = p at *
      have HR : Hid (Row (w3.alloc (.cells #[.int .i64 1779033703, .int .i64 3144134277, .int .i64 1013904242, .int .i64 2773480762, .int .i64 1359893119, .int .i64 2600822924, .int .i64 528734635, .int .i64 1541459225] 3)) w3.heap.size 3 8 (fun j => .int .i64 ((foldB p 0).nth j))) :=
        Row.new w3 _ 3 8 _ (by simp) (fun j hj => E8.cells_get h0 (fun n => .int .i64 (n : Int)) j hj)
      have HPS := hide hps
      have HPW := hide hpw
      have hpb : p.size ≤ 140737488356000 := by omega
      clear hps hpw s1 s2 hsz
      go_wp2_with fail
      go_loopw [5, 6] (fun h i wr => ∃ m k g c : Nat, k ≤ p.size ∧ i = .int .i64 k ∧ h = .slice (some ⟨g, 0, none⟩) 8 c ∧ Hid (k = 64 * m) ∧ Hid (Row wr g 3 8 (fun j => .int .i64 ((foldB p m).nth j))) ∧ Hid (Row wr gk 3 64 (fun j => .int .i64 (kNum j))) ∧ Hid (Old w wr)) (fun _ i _ => p.size - (intOf i).toNat)
      case atStart => exact ⟨0, 0, _, _, by omega, rfl, rfl, rfl, HR, (unhide HK3).alloc _, (unhide HO3).alloc _⟩
      case round =>
        obtain ⟨m, k, g, c, hkp, rfl, rfl, HKM, HV, HK, HO⟩ := hrel
        by_cases hlt : k < p.size
        · have hk64 : k + 64 ≤ p.size := by have := unhide HKM; have := unhide HPW; omega
          have hex : (p.extract k (k + 64)).size = 64 := by rw [ByteArray.size_extract]; omega
          have HM := hide (mixed_any (foldB p m) (foldB_ok p m) kNum kNum_lt (p.extract k (k + 64)) hex g c gk 64 wr (unhide HV) (unhide HK))
          have HN : Hid (foldB p (m + 1) = mixOf kNum (foldB p m) (p.extract k (k + 64))) := by rw [unhide HKM]; rfl
          have h1 : (k : Int) + 64 ≤ (p.size : Int) := by omega
          have h2 : (0 : Int) ≤ (k : Int) := by omega
          have h3 : (k : Int) ≤ (k : Int) + 64 := by omega
          have h4 : ((k : Int) + 64).toNat = k + 64 := by omega
          clear hex
          go_wp2_with (go_at_call 189; refine (unhide HM).mono ?_; rintro e w5 ⟨g5, rfl, hr5, ho5, hg5⟩; have HR5 := hide hr5; have HO5 := hide ho5; clear hr5 ho5)
          go_roundw
          case rel => exact ⟨m + 1, k + 64, g5, 8, hk64, by go_num, rfl, (show k + 64 = 64 * (m + 1) by have := unhide HKM; omega), by rw [unhide HN]; exact HR5, (unhide HK).old (unhide HO5), (unhide HO).trans (unhide HO5)⟩
          case measure => simp [intOf]; omega
        · have hm : p.size / 64 = m := by have := unhide HKM; omega
          have HX : Hid (foldB (padRef s) ((padRef s).size / 64) = foldB p m) := hide (by rw [unhide HP, hm])
          have hok := foldB_ok p m
          clear hm HPS HPW HKM HK HR HK3 HO3
          generalize foldB p m = x at HV HX hok
          go_wp2_with fail
          go_loopw [7, 8] (fun o i wr => ∃ k : Nat, k ≤ 8 ∧ i = .int .i64 k ∧ o = .string (outB x k) ∧ Hid (Row wr g 3 8 (fun j => .int .i64 (x.nth j))) ∧ Hid (Old w wr)) (fun _ i _ => 8 - (intOf i).toNat)
          case atStart => exact ⟨0, by omega, rfl, rfl, HV, HO⟩
          case round =>
            obtain ⟨k, hk8, rfl, rfl, HV, HO⟩ := hrel
            by_cases h8 : k < 8
            · have cv := (unhide HV).cell k h8
              have hxl := E8.nth_lt hok k
              have HG := hide (fun (w1 : World) => highest_c (x.nth k) _ rfl w1 (by omega))
              have hol : (outB x k).size ≤ 32 := by rw [outB_size]; omega
              have HS : Hid (outB x (k + 1) = outB x k ++ ⟨(be4 (x.nth k)).toArray⟩) := rfl
              have hk1 : (k : Int) < 8 := by omega
              generalize hb4 : (⟨(be4 (x.nth k)).toArray⟩ : ByteArray) = q4 at HG HS
              have hq4 : q4.size = 4 := by rw [← hb4]; rfl
              clear hb4
              go_wp2_with (go_at_call 187; refine (unhide HG _).mono ?_; rintro e w6 ⟨rfl, ho6⟩; have HO6 := hide ho6; clear ho6)
              go_roundw
              case rel => exact ⟨k + 1, by omega, by go_num, by rw [unhide HS], (unhide HV).old (unhide HO6), (unhide HO).trans (unhide HO6)⟩
              case measure => simp [intOf]; omega
            · have hkk : k = 8 := by omega
              go_wp2
              go_ret
              exact ⟨ret1_eq (show Value.string (outB x k) = _ by rw [unhide HX, hkk]), unhide HO⟩
end Go.Proofs.YtndfmgdhiallpaaGreatDoor
