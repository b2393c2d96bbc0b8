/- Packed bytes: the document's copies. Packed bytes: the document's blocks of symbols. Packed bytes: which lengths fit, by the document; the lengths of kind 1. Packed bytes: the document's lengths of kind 1. -/
import Derived.Test.YtndfmgdhiallpaaGreatDoorMe
import Derived.Test.YtndfmgdhiallpaaGreatDoorRb
namespace Go.Proofs.YtndfmgdhiallpaaGreatDoor
open Go.RowKit

theorem dstBase_pos (d : Nat) : 1 ≤ dstBase d := by unfold dstBase; split <;> omega
theorem lenBase_all : (List.range 286).all (fun y => decide (lenBase y ≤ 258)) = true := by decide +kernel
theorem lenBase_le {y : Nat} (h : y ≤ 285) : lenBase y ≤ 258 := by have := List.all_eq_true.1 lenBase_all y (List.mem_range.2 (by omega)); simpa using this
theorem dst_all : (List.range 30).all (fun d => decide (dstBase d + 2 ^ dstBits d ≤ 32769)) = true := by decide +kernel
theorem dst_le {d : Nat} (h : d ≤ 29) : dstBase d + 2 ^ dstBits d ≤ 32769 := by have := List.all_eq_true.1 dst_all d (List.mem_range.2 (by omega)); simpa using this
theorem own_cell {w : World} {b n cp : Nat} {l : List UInt8} (h : w.ownsRow 0 5 1 (.slice (some ⟨b, 0, none⟩) n cp) n (byteCells8 l)) {k : Nat} (hk : k < l.length) : w.cell? ⟨b, k, none⟩ = some (.int .u8 ((l.getD k 0).toNat : Nat)) := by
  have h1 := h.cells rfl k (.int .u8 ((l.getD k 0).toNat : Nat)) (by simp [byteCells8, List.getD_eq_getElem?_getD, hk])
  rw [Addr.add_lit, Nat.zero_add] at h1
  exact h1
theorem b8_toNat' (b : UInt8) : b8 b.toNat = b := by simp [b8]

end Go.Proofs.YtndfmgdhiallpaaGreatDoor
namespace Go.Proofs.YtndfmgdhiallpaaGreatDoor
open Go.RowKit

/-- The number in a cell. -/
def cellN (w : World) (g i : Nat) : Nat := match w.cell? ⟨g, i, none⟩ with | some (.int _ n) => n.toNat | _ => 0
theorem cellN_of {w : World} {g i n : Nat} (h : w.cell? ⟨g, i, none⟩ = some (.int .i64 n)) : cellN w g i = n := by unfold cellN; rw [h]; exact Int.toNat_natCast _
theorem step_none {s : ByteArray} {L D : List Nat} {a : Nat} {l : List UInt8} (h : dec s L a = none) : stepS s L D a l = .fin (.bad 2) := by unfold stepS; rw [h]
theorem step_end {s : ByteArray} {L D : List Nat} {a a1 : Nat} {l : List UInt8} (h : dec s L a = some (256, a1)) : stepS s L D a l = .fin (.ok a1 l) := by unfold stepS; rw [h]; exact if_pos rfl
theorem step_byte {s : ByteArray} {L D : List Nat} {a a1 y : Nat} {l : List UInt8} (h : dec s L a = some (y, a1)) (hy : y < 256) : stepS s L D a l = if 20000 ≤ l.length then .fin (.bad 1) else .go a1 (l ++ [b8 y]) := by
  unfold stepS; rw [h]
  show (if y = 256 then _ else _) = _
  rw [if_neg (by omega), if_pos hy]
theorem step_high {s : ByteArray} {L D : List Nat} {a a1 y : Nat} {l : List UInt8} (h : dec s L a = some (y, a1)) (hy : 285 < y) : stepS s L D a l = .fin (.bad 2) := by
  unfold stepS; rw [h]
  show (if y = 256 then _ else _) = _
  rw [if_neg (by omega), if_neg (by omega), if_pos hy]
theorem step_copy {s : ByteArray} {L D : List Nat} {a a1 y : Nat} {l : List UInt8} (h : dec s L a = some (y, a1)) (h1 : 256 < y) (h2 : y ≤ 285) : stepS s L D a l = copyS s D y a1 l := by
  unfold stepS; rw [h]
  show (if y = 256 then _ else _) = _
  rw [if_neg (by omega), if_neg (by omega), if_neg (by omega)]
theorem sym_fin {s : ByteArray} {L D : List Nat} {a : Nat} {l : List UInt8} {r : Res} (h : stepS s L D a l = .fin r) : symS s L D a l = r := by rw [symS_step, h]
theorem sym_go {s : ByteArray} {L D : List Nat} {a a' : Nat} {l l' : List UInt8} (h : stepS s L D a l = .go a' l') : symS s L D a l = symS s L D a' l' := by rw [symS_step, h]
end Go.Proofs.YtndfmgdhiallpaaGreatDoor
namespace Go.Proofs.YtndfmgdhiallpaaGreatDoor
open Go.RowKit

theorem fitN_snoc (L : List Nat) (x : Nat) : fitN (L ++ [x]) = fitN L + if x = 0 then 0 else 2 ^ (15 - x) := by simp [fitN]
theorem manyN_snoc (L : List Nat) (x : Nat) : manyN (L ++ [x]) = manyN L + if x = 0 then 0 else 1 := by
  unfold manyN
  rw [List.filter_append, List.length_append]
  by_cases h : x = 0
  · subst h; simp
  · simp [h]
theorem take_getD (L : List Nat) (i : Nat) (h : i < L.length) : L.take (i + 1) = L.take i ++ [L.getD i 0] := by
  rw [List.take_succ_eq_append_getElem h, List.getD_eq_getElem?_getD, List.getElem?_eq_getElem h]; rfl
theorem fitN_le (L : List Nat) (i : Nat) : fitN (L.take i) ≤ 16384 * i ∧ manyN (L.take i) ≤ i := by
  induction i with
  | zero => simp [fitN, manyN]
  | succ i ih =>
    by_cases h : i < L.length
    · rw [take_getD L i h, fitN_snoc, manyN_snoc]
      have hp : 1 ≤ L.getD i 0 → 2 ^ (15 - L.getD i 0) ≤ 16384 := fun h1 => Nat.pow_le_pow_right (n := 2) (by omega) (show 15 - L.getD i 0 ≤ 14 by omega)
      constructor
      · split
        · omega
        · have := hp (by omega); omega
      · split <;> omega
    · rw [List.take_of_length_le (by omega)] at ih ⊢
      omega
end Go.Proofs.YtndfmgdhiallpaaGreatDoor
namespace Go.Proofs.YtndfmgdhiallpaaGreatDoor
open Go.RowKit

def intCells (l : List Nat) : List Value := l.map fun (n : Nat) => Value.int .i64 (n : Int)
theorem intCells_get (l : List Nat) (j : Nat) (h : j < l.length) : (intCells l)[j]? = some (.int .i64 (l.getD j 0 : Nat)) := by
  simp [intCells, List.getD_eq_getElem?_getD, h]
theorem infoI3 : (Tryz.prog.info? 3).map (fun i => (i.zero, i.size, i.bytes)) = some (some (.int .i64 0), 1, 8) := by kernel_rfl
theorem int_new {wr : World} {n : Int} : ∀ j u, [Value.int .i64 n][j]? = some u → (wr.alloc (.cells #[.int .i64 n] 3)).cell? ((⟨wr.heap.size, 0, none⟩ : Addr).add j) = some u := by
  intro j u hu
  rw [Addr.add_lit, Nat.zero_add, cell_of_row _ _ j _ 3 (0, 0) (Go.heap_alloc_new wr _)]
  simpa using hu
theorem own_base {w : World} {base : Nat} {e : TypeId} {v : Value} {n : Nat} {xs : List Value} (h : w.ownsRow base e 1 v n xs) : ∀ b, v.ownBlock = some b → base ≤ b := by
  intro b hb
  obtain ⟨_, h | ⟨b', cap, cur, hv, h1, _⟩⟩ := h
  · rw [h.1] at hb; cases hb
  · rw [hv] at hb; injection hb with hb; subst hb; exact h1
theorem Ints.ofOwns {w : World} {base gl cap n : Nat} {l : List Nat} (hn : l.length = n) (h : w.ownsRow base 3 1 (.slice (some ⟨gl, 0, none⟩) n cap) n (intCells l)) : Ints w gl 0 l := by
  obtain ⟨hl, h | ⟨g', c', cur, hv, _, hg, hle, _, hs, ht⟩⟩ := h
  · cases h.1
  · injection hv with hv1 hv2 hv3
    injection hv1 with hv1
    injection hv1 with hv1
    subst hv1
    refine ⟨cur, hg, fun j hj => ?_⟩
    rw [← intCells_get l j hj, ← ht, List.getElem?_take, if_pos (by omega), Array.getElem?_toList, Nat.zero_add]
theorem fixL_len : fixL.length = 288 := by rw [fixL, List.length_append, List.length_append, List.length_append, List.length_replicate, List.length_replicate, List.length_replicate, List.length_replicate]
theorem fixL_all : (List.range 288).all (fun i => decide (fixL.getD i 0 = if i < 144 then 8 else if i < 256 then 9 else if i < 280 then 7 else 8)) = true := by decide +kernel
theorem fixL_get (i : Nat) (h : i < 288) : fixL.getD i 0 = if i < 144 then 8 else if i < 256 then 9 else if i < 280 then 7 else 8 := by
  have := List.all_eq_true.1 fixL_all i (List.mem_range.2 h); simpa using this
theorem fixL_val (i : Nat) (h : i < 288) {n : Nat} (hn : (if i < 144 then 8 else if i < 256 then 9 else if i < 280 then 7 else 8) = n) : fixL.getD i 0 = n := (fixL_get i h).trans hn
end Go.Proofs.YtndfmgdhiallpaaGreatDoor
