/- The digest: the code's padding. -/
import Derived.Test.YtndfmgdhiallpaaGreatDoorHj
namespace Go.Proofs.YtndfmgdhiallpaaGreatDoor
open Go.RowKit

/-- The byte at place j of the number of bits. -/
def bitB (n j : Nat) : Nat := 8 * n / 2 ^ (56 - 8 * j) % 256
theorem bitB_lt (n j : Nat) : bitB n j < 256 := Nat.mod_lt _ (by omega)
theorem bitB_i {n s j : Nat} (h : s + 8 * j = 56) : ((n : Int) * 8) / 2 ^ s % 256 = (bitB n j : Int) := by
  rw [bitB, show 56 - 8 * j = s by omega, Int.natCast_emod, Int.natCast_ediv, Int.natCast_pow, Int.natCast_mul, Int.mul_comm]; rfl
/-- What follows n bytes, z zeros among it: the first j bytes of the number of bits with it. -/
def padZ (z n j : Nat) : List UInt8 := 128 :: (List.replicate z 0 ++ (List.range j).map fun q => b8 (bitB n q))
theorem padZ_len (z n j : Nat) : (padZ z n j).length = 1 + z + j := by simp [padZ]; omega
theorem padZ_succ (z n j : Nat) : padZ z n (j + 1) = padZ z n j ++ [b8 (bitB n j)] := by simp [padZ, List.range_succ]
theorem padZ_zero (z n : Nat) : byteCells8 (padZ z n 0) = .int .u8 128 :: List.replicate z (.int .u8 0) := by simp [padZ, byteCells8]
/-- As made, with the first byte laid. -/
theorem made_owns (w : World) (z C : Nat) (hC : 1 + z + 8 = C) (hz : z < 64) : (w.alloc (.cells ((madeCells #[.int .u8 0] C).setIfInBounds 0 (.int .u8 128)) 5)).ownsRow w.heap.size 5 1 (.slice (some ⟨w.heap.size, 0, none⟩) (1 + z) C) (1 + z) (.int .u8 128 :: List.replicate z (.int .u8 0)) := by
  have hm : madeCells #[.int .u8 0] C = (List.replicate C (Value.int .u8 0)).toArray := by
    apply Array.ext_getElem?
    intro i
    by_cases h : i < C
    · simp [madeCells, h, Nat.mod_one]
    · simp [madeCells, h]
  rw [hm]
  refine ⟨by simp; omega, .inr ⟨w.heap.size, C, _, rfl, Nat.le_refl _, Go.heap_alloc_new w _, by omega, ?_, by simp, ?_⟩⟩
  · unfold maxLen; omega
  · obtain ⟨m, rfl⟩ : ∃ m, C = m + 1 := ⟨C - 1, by omega⟩
    simp [List.replicate_succ, Nat.add_comm 1 z]
    omega

set_option maxRecDepth 100000 in
set_option maxHeartbeats 1000000 in
theorem padding_any (n : Nat) (hn : n ≤ 140737488355328) (w : World) :
    Calls Tryz.prog 224 #[.int .u64 n] w fun e w' => e = .returned (.string ⟨(padZ (zeroN n) n 8).toArray⟩) ∧ Old w w' := by
  obtain ⟨i0, hi0, hz0, hz1, hz2⟩ := info_parts infoByte
  have hz : zeroN n < 64 := Nat.mod_lt _ (by omega)
  have hmk : ∀ W : World, (Instr.makeSlice 62 (.int .u64 (1 + (119 - (n : Int)) % 64)) (.int .u64 (1 + (119 - (n : Int)) % 64 + 8))).run Tryz.prog W = .ok (.slice (some ⟨W.heap.size, 0, none⟩) (1 + zeroN n) (1 + zeroN n + 8)) (W.alloc (.cells (madeCells #[.int .u8 0] (1 + zeroN n + 8)) 5)) := by
    intro W
    have e : (1 + (119 - (n : Int)) % 64) = ((1 + zeroN n : Nat) : Int) := by unfold zeroN; omega
    have h := run_make (P := Tryz.prog) W 62 5 i0 (.int .u8 0) Tryz.underlying62 hi0 hz0 .u64 .u64 ((1 + zeroN n : Nat) : Int) ((1 + zeroN n + 8 : Nat) : Int) (by omega) (by omega) (by rw [hz2]; omega) (by omega)
    rw [hz1, Nat.mul_one, Int.toNat_natCast, Int.toNat_natCast] at h
    rw [e]
    exact h
  have HOW := hide (made_owns w (zeroN n) _ rfl hz)
  generalize zeroN n = z at hz hmk HOW
  have h0 : (madeCells #[Value.int .u8 0] (1 + z + 8))[0]? = some (.int .u8 0) := by simp [madeCells]
  have HOld := hide ((Only.refl (fun _ => False) w).alloc (.cells ((madeCells #[.int .u8 0] (1 + z + 8)).setIfInBounds 0 (.int .u8 128)) 5))
  go_enter Tryz.func224, Tryz.ntmps224
  go_wp2_with fail
  clear hmk h0
  simp only [show (119 - (n : Int) % 64) % 64 = (119 - n) % 64 by omega]
  go_loopw [4, 6] (fun v sf wr => ∃ (j : Nat) (sh : Int), j ≤ 8 ∧ v = .slice (some ⟨w.heap.size, 0, none⟩) (1 + z + j) (1 + z + 8) ∧ sf = .int .i64 sh ∧ Hid (sh + 8 * (j : Int) = 56) ∧ Hid (wr.ownsRow w.heap.size 5 1 (.slice (some ⟨w.heap.size, 0, none⟩) (1 + z + j) (1 + z + 8)) (1 + z + j) (byteCells8 (padZ z n j))) ∧ Hid (Old w wr)) (fun _ sf _ => (intOf sf + 8).toNat)
  case atStart => exact ⟨0, 56, by omega, rfl, rfl, rfl, (show World.ownsRow _ _ _ _ _ _ _ by rw [padZ_zero]; exact unhide HOW), HOld⟩
  case round =>
    obtain ⟨j, sh, hj, rfl, rfl, HS, HR, HQ⟩ := hrel
    by_cases hj8 : j < 8
    · obtain ⟨s, rfl⟩ : ∃ s : Nat, sh = (s : Int) := ⟨sh.toNat, by have := unhide HS; omega⟩
      have hs4 : s + 8 * j = 56 := by have := unhide HS; omega
      have hs56 : s ≤ 56 := by omega
      have hd := bitB_i (n := n) hs4
      have hdb := bitB_lt n j
      have HSS := hide hs4
      have HNX := hide (padZ_succ z n j)
      clear hs4
      generalize bitB n j = d at hd hdb HNX
      have HNW := hide (byte_new (wr := wr) (n := d))
      have HOW2 : Hid ((wr.alloc (.cells #[.int .u8 (d : Int)] 5)).ownsRow w.heap.size 5 1 (.slice (some ⟨w.heap.size, 0, none⟩) (1 + z + j) (1 + z + 8)) (1 + z + j) (byteCells8 (padZ z n j))) := (unhide HR).alloc _
      go_wp2_with (at_builtin; refine wpList_append_fits _ rfl (.tmp 25) (.tmp 30) 62 rfl w.heap.size 5 i0 1 Tryz.underlying62 hi0 hz1 w.heap.size (1 + z + j) (1 + z + 8) _ rfl (unhide HOW2) ⟨wr.heap.size, 0, none⟩ 1 1 [.int .u8 (d : Int)] rfl rfl (unhide HNW) (by intro u hu; simp at hu; subst hu; rfl) (by omega) ?_; intro w3 ho3 hg3; have HO3 := hide ho3; have HG3 := hide hg3; clear ho3 hg3)
      go_roundw
      case rel =>
        refine ⟨j + 1, (s : Int) - 8, by omega, by rw [Nat.add_assoc], rfl, ?_, ?_, ?_⟩
        · have := unhide HSS; show (s : Int) - 8 + 8 * ((j + 1 : Nat) : Int) = 56; omega
        · have e : byteCells8 (padZ z n (j + 1)) = byteCells8 (padZ z n j) ++ [.int .u8 (d : Int)] := by
            rw [unhide HNX]; simp only [byteCells8, List.map_append, List.map_cons, List.map_nil]; rw [b8_toNat hdb]
          rw [e]; exact unhide HO3
        · exact ((unhide HQ).alloc _).grown (unhide HG3) (fun q hq e => by cases e; omega)
      case measure => simp [intOf]; omega
    · have hj8' : j = 8 := by omega
      have hsn : sh = -8 := by have := unhide HS; omega
      subst hj8' hsn
      have hcv : (convert 62 9 (.slice (some ⟨w.heap.size, 0, none⟩) (1 + z + 8) (1 + z + 8))).run Tryz.prog wr = .ok (.string ⟨(padZ z n 8).toArray⟩) wr := by
        have := run_bytes_string (P := Tryz.prog) wr 62 9 5 ⟨w.heap.size, 0, none⟩ (1 + z + 8) (padZ z n 8) Tryz.underlying62 Tryz.underlying5 Tryz.underlying9 ((unhide HR).cells rfl)
        rw [padZ_len] at this; exact this
      go_wp2
      go_ret
      exact ⟨rfl, unhide HQ⟩
end Go.Proofs.YtndfmgdhiallpaaGreatDoor
