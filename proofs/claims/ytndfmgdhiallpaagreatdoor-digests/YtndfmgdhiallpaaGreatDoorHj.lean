/- The digest: the code's inHex. -/
import Derived.Test.YtndfmgdhiallpaaGreatDoorHi
import Derived.Test.YtndfmgdhiallpaaGreatDoorHf
namespace Go.Proofs.YtndfmgdhiallpaaGreatDoor
open Go.RowKit

/-- The digit at place j (from 0 on, the highest first) of a word. -/
def dgt (n j : Nat) : Nat := n / 2 ^ (28 - 4 * j) % 16
theorem dgt_lt (n j : Nat) : dgt n j < 16 := Nat.mod_lt _ (by omega)
theorem dgt_u {n sh j : Nat} (hn : n < 4294967296) (h : sh + 4 * j = 28) : bits BinOp.and IntKind.u32 ((n : Int) / 2 ^ sh) 15 = (dgt n j : Int) := by
  have e : (n : Int) / 2 ^ sh = ((n / 2 ^ sh : Nat) : Int) := by rw [Int.natCast_ediv, Int.natCast_pow]; rfl
  have hl : n / 2 ^ sh < 4294967296 := Nat.lt_of_le_of_lt (Nat.div_le_self _ _) hn
  have := u32_and_nat (n / 2 ^ sh) 15 hl (by omega)
  rw [nat_mask4] at this
  rw [e]
  refine this.trans ?_
  rw [dgt, show 28 - 4 * j = sh by omega]
def digB (d : Nat) : Nat := btN digits16 d
/-- The digits of the first k places. -/
def digL (x : E8) (k : Nat) : List UInt8 := (List.range k).map fun q => b8 (digB (dgt (x.nth (q / 8)) (q % 8)))
theorem digL_len (x : E8) (k : Nat) : (digL x k).length = k := by simp [digL]
theorem digL_succ (x : E8) (k : Nat) : digL x (k + 1) = digL x k ++ [b8 (digB (dgt (x.nth (k / 8)) (k % 8)))] := by simp [digL, List.range_succ]
theorem infoByte : (Tryz.prog.info? 5).map (fun i => (i.zero, i.size, i.bytes)) = some (some (.int .u8 0), 1, 1) := by kernel_rfl

theorem infoU32 : (Tryz.prog.info? 103).map (fun i => (i.zero, i.size, i.bytes)) = some (some (.int .u32 0), 1, 4) := by kernel_rfl
theorem run_idx8 (x : E8) (k : Nat) (hk : k < 8) (W : World) : (Instr.index 181 (.agg (u8A x)) (.int .i64 (k : Int))).run Tryz.prog W = .ok (.int .u32 (x.nth k)) W := by
  obtain ⟨i0, hi0, hz0, hz1, hz2⟩ := info_parts infoU32
  have hA : (u8A x)[k]? = some (.int .u32 (x.nth k)) := arrF_get 8 _ k hk
  simp [Instr.index, run_underlying Tryz.underlying181, run_underlying Tryz.underlying103, isAgg, asIntOf, part, sizeOf, typeInfo, hi0, hz1, hA, hk, go_sem]

theorem byte_new {wr : World} {n : Nat} : ∀ j u, [Value.int .u8 (n : Int)][j]? = some u → (wr.alloc (.cells #[.int .u8 (n : Int)] 5)).cell? ((⟨wr.heap.size, 0, none⟩ : Addr).add j) = some u := by
  intro j u hu
  rw [Addr.add_lit, Nat.zero_add, cell_of_row _ _ j _ 5 (0, 0) (Go.heap_alloc_new wr _)]
  simpa using hu

set_option maxRecDepth 100000 in
set_option maxHeartbeats 1000000 in
theorem inHex_any (x : E8) (hx : x.ok) (w : World) :
    Calls Tryz.prog 131 #[.agg (u8A x)] w fun e w' => e = .returned (.string ⟨(digL x 64).toArray⟩) ∧ Old w w' := by
  obtain ⟨i0, hi0, hz0, hz1, hz2⟩ := info_parts infoByte
  have hA : ∀ i, i < 8 → (u8A x)[i]? = some (.int .u32 (x.nth i)) := fun i hi => arrF_get 8 _ i hi
  have HA := hide hA
  have hld : (w.alloc (.cells (u8A x) 181)).heap[w.heap.size]? = some (.cells (u8A x) 181 (0, 0)) := Go.heap_alloc_new w _
  clear hA
  go_enter Tryz.func131, Tryz.ntmps131
  go_wp2_with (first
    | (at_make; refine wpList_make_own _ rfl (.const (.int .i64 0)) (.const (.int .i64 64)) 62 rfl (w.heap.size + 1) 5 i0 (.int .u8 0) 1 Tryz.underlying62 hi0 hz0 hz1 .i64 .i64 64 64 rfl rfl rfl (by rw [hz2]; omega) (by unfold maxLen; omega) (by simp) ?_; intro w1 ho1 hg1; have hl1 : w1.heap[w.heap.size]? = some (.cells (u8A x) 181 (0, 0)) := (hg1.block w.heap.size (by simp) (by intro e; cases e)).trans hld; have HO1 := hide ho1; have HOld := hide (((Only.refl (fun _ => False) w).alloc (.cells (u8A x) 181)).grown hg1 (fun k _ e => by cases e)); clear ho1 hg1)
    | (refine wpList_load_row rfl 181 (.tmp 1) rfl w.heap.size rfl 181 (u8A x) (0, 0) _ hl1 Tryz.underlying181 rfl infoA8 ?_))
  go_loopw [3, 9] (fun v i wr => ∃ k : Nat, k ≤ 8 ∧ i = .int .i64 k ∧ v = .slice (some ⟨w.heap.size + 1, 0, none⟩) (8 * k) 64 ∧ Hid (wr.ownsRow (w.heap.size + 1) 5 1 (.slice (some ⟨w.heap.size + 1, 0, none⟩) (8 * k) 64) (8 * k) (byteCells8 (digL x (8 * k)))) ∧ Hid (Old w wr)) (fun _ i _ => 8 - (intOf i).toNat)
  case atStart => exact ⟨0, by omega, rfl, by simp, (show w1.ownsRow _ _ _ _ _ _ by simpa [digL, byteCells8] using unhide HO1), HOld⟩
  case round =>
    obtain ⟨k, hk, rfl, rfl, HR, HQ⟩ := hrel
    by_cases h8 : k < 8
    · have hix := run_idx8 x k h8
      have hn := E8.nth_lt hx k
      have hk1 : (k : Int) < 8 := by omega
      have HD := hide (digL_succ x)
      have HXK : Hid (∀ j, j < 8 → x.nth ((8 * k + j) / 8) = x.nth k ∧ (8 * k + j) % 8 = j) := fun j hj => ⟨congrArg x.nth (by omega), by omega⟩
      generalize hnn : x.nth k = n at hix hn HXK
      clear hnn
      go_wp2_with fail
      go_loopw [3, 6] (fun v sf wr => ∃ (j : Nat) (sh : Int), j ≤ 8 ∧ v = .slice (some ⟨w.heap.size + 1, 0, none⟩) (8 * k + j) 64 ∧ sf = .int .i64 sh ∧ Hid (sh + 4 * (j : Int) = 28) ∧ Hid (wr.ownsRow (w.heap.size + 1) 5 1 (.slice (some ⟨w.heap.size + 1, 0, none⟩) (8 * k + j) 64) (8 * k + j) (byteCells8 (digL x (8 * k + j)))) ∧ Hid (Old w wr)) (fun _ sf _ => (intOf sf + 4).toNat)
      case atStart => exact ⟨0, 28, by omega, rfl, rfl, rfl, HR, HQ⟩
      case round =>
        obtain ⟨j, sh, hj, rfl, rfl, HS, HR, HQ⟩ := hrel
        by_cases hj8 : j < 8
        · obtain ⟨s, rfl⟩ : ∃ s : Nat, sh = (s : Int) := ⟨sh.toNat, by have := unhide HS; omega⟩
          have hs4 : s + 4 * j = 28 := by have := unhide HS; omega
          have hs28 : s ≤ 28 := by omega
          have hd := dgt_u hn hs4
          have hdl := dgt_lt n j
          have HSS := hide hs4
          have HNX : Hid (digL x (8 * k + j + 1) = digL x (8 * k + j) ++ [b8 (digB (dgt n j))]) := by
            obtain ⟨e1, e2⟩ := unhide HXK j hj8
            have := unhide HD (8 * k + j)
            rw [e1, e2] at this; exact this
          clear hs4
          generalize dgt n j = d at hd hdl HNX
          have hdd : ((⟨#[48, 49, 50, 51, 52, 53, 54, 55, 56, 57, 97, 98, 99, 100, 101, 102]⟩ : ByteArray)[d]'(show d < 16 from hdl)).toNat = digB d := btN_get (s := digits16) (show d < 16 from hdl)
          have hdb : digB d < 256 := btN_lt _ _
          have HNW := hide (byte_new (wr := wr) (n := digB d))
          have HOW : Hid ((wr.alloc (.cells #[.int .u8 (digB d : Int)] 5)).ownsRow (w.heap.size + 1) 5 1 (.slice (some ⟨w.heap.size + 1, 0, none⟩) (8 * k + j) 64) (8 * k + j) (byteCells8 (digL x (8 * k + j)))) := (unhide HR).alloc _
          go_wp2_with (at_builtin; refine wpList_append_fits _ rfl (.tmp 16) (.tmp 22) 62 rfl (w.heap.size + 1) 5 i0 1 Tryz.underlying62 hi0 hz1 (w.heap.size + 1) (8 * k + j) 64 _ rfl (unhide HOW) ⟨wr.heap.size, 0, none⟩ 1 1 [.int .u8 (digB d : Int)] rfl rfl (unhide HNW) (by intro u hu; simp at hu; subst hu; rfl) (by omega) ?_; intro w3 ho3 hg3; have HO3 := hide ho3; have HG3 := hide hg3; clear ho3 hg3)
          go_roundw
          case rel =>
            refine ⟨j + 1, (s : Int) - 4, by omega, by rw [Nat.add_assoc], rfl, ?_, ?_, ?_⟩
            · have := unhide HSS; show (s : Int) - 4 + 4 * ((j + 1 : Nat) : Int) = 28; omega
            · have e : byteCells8 (digL x (8 * k + (j + 1))) = byteCells8 (digL x (8 * k + j)) ++ [.int .u8 (digB d : Int)] := by
                rw [← Nat.add_assoc, unhide HNX]; simp only [byteCells8, List.map_append, List.map_cons, List.map_nil]; rw [b8_toNat hdb]
              rw [e]; exact unhide HO3
            · exact ((unhide HQ).alloc _).grown (unhide HG3) (fun q hq e => by cases e; omega)
          case measure => simp [intOf]; omega
        · have hj8' : j = 8 := by omega
          have hsn : sh = -4 := by have := unhide HS; omega
          subst hj8' hsn
          go_wp2
          go_roundw
          case rel => exact ⟨k + 1, by omega, by go_num, by rw [Nat.mul_add], by rw [Nat.mul_add]; exact HR, HQ⟩
          case measure => simp [intOf]; omega
    · have hk8 : k = 8 := by omega
      subst hk8
      have hcv : (convert 62 9 (.slice (some ⟨w.heap.size + 1, 0, none⟩) 64 64)).run Tryz.prog wr = .ok (.string ⟨(digL x 64).toArray⟩) wr := by
        have := run_bytes_string (P := Tryz.prog) wr 62 9 5 ⟨w.heap.size + 1, 0, none⟩ 64 (digL x 64) Tryz.underlying62 Tryz.underlying5 Tryz.underlying9 ((unhide HR).cells rfl)
        rw [digL_len] at this; exact this
      go_wp2
      go_ret
      exact ⟨rfl, unhide HQ⟩
end Go.Proofs.YtndfmgdhiallpaaGreatDoor
