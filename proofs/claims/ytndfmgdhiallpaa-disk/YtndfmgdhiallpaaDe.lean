/- Worlds in which a disk lies: which blocks may have turned, and what the disk's own blocks hold. -/
import Derived.Test.YtndfmgdhiallpaaDb
import Derived.Test.YtndfmgdhiallpaaDd
import Derived.WalkSmall
namespace Go.Proofs.Ytndfmgdhiallpaa
open Go.RowKit

/-- From w to w' no block that was there has turned, but those of S. -/
structure Only (S : Nat → Prop) (w w' : World) : Prop where
  os : w'.os = w.os
  tape : w'.tape = w.tape
  output : w'.output = w.output
  size : w.heap.size ≤ w'.heap.size
  block : ∀ k, k < w.heap.size → ¬ S k → w'.heap[k]? = w.heap[k]?

theorem Only.refl (S : Nat → Prop) (w : World) : Only S w w := ⟨rfl, rfl, rfl, Nat.le_refl _, fun _ _ _ => rfl⟩
theorem Only.trans {S : Nat → Prop} {a b c : World} (h : Only S a b) (k : Only S b c) : Only S a c :=
  ⟨k.os.trans h.os, k.tape.trans h.tape, k.output.trans h.output, Nat.le_trans h.size k.size, fun i hi hs => (k.block i (Nat.lt_of_lt_of_le hi h.size) hs).trans (h.block i hi hs)⟩
theorem Only.transNew {S T : Nat → Prop} {a b c : World} (h : Only S a b) (k : Only T b c) (hT : ∀ i, i < a.heap.size → T i → S i) : Only S a c :=
  ⟨k.os.trans h.os, k.tape.trans h.tape, k.output.trans h.output, Nat.le_trans h.size k.size, fun i hi hs => (k.block i (Nat.lt_of_lt_of_le hi h.size) (fun ht => hs (hT i hi ht))).trans (h.block i hi hs)⟩
theorem Only.mono {S T : Nat → Prop} {a b : World} (h : Only S a b) (hT : ∀ i, i < a.heap.size → S i → T i) : Only T a b :=
  ⟨h.os, h.tape, h.output, h.size, fun i hi hs => h.block i hi (fun x => hs (hT i hi x))⟩
theorem Only.drewN {S : Nat → Prop} {a b : World} (h : Only S a b) (n : Nat) : Only S a (b.drewN n) := ⟨h.os, h.tape, h.output, h.size, h.block⟩
theorem Only.drew {S : Nat → Prop} {a b : World} (h : Only S a b) : Only S a b.drew := ⟨h.os, h.tape, h.output, h.size, h.block⟩
theorem Only.alloc {S : Nat → Prop} {a w : World} (h : Only S a w) (o : Obj) : Only S a (w.alloc o) :=
  h.trans ⟨rfl, rfl, rfl, by simp, fun k hk _ => Below.heap_alloc _ _ _ hk⟩
theorem Only.setCell {S : Nat → Prop} {a w : World} (h : Only S a w) {p : Addr} (hp : p.block < a.heap.size → S p.block) (u : Value) : Only S a (w.setCell p u) :=
  h.transNew (T := fun k => k = p.block) ⟨rfl, rfl, rfl, by simp [World.setCell], fun k _ hk => Below.heap_setCell _ _ _ _ hk⟩ (fun i hi e => by subst e; exact hp hi)
theorem Only.grown {S : Nat → Prop} {a w w' : World} {row : Option Nat} (h : Only S a w) (hg : w.grownBy w' row) (hr : ∀ k, k < a.heap.size → row = some k → S k) : Only S a w' :=
  h.transNew (T := fun k => row = some k) ⟨hg.os, hg.tape, hg.output, hg.size, fun k hk hs => hg.block k hk (fun e => hs e.symm)⟩ (fun i hi e => hr i hi e)
theorem Only.cell {S : Nat → Prop} {w w' : World} (h : Only S w w') {p : Addr} (hp : p.block < w.heap.size) (hs : ¬ S p.block) : w'.cell? p = w.cell? p := World.cell?_of_block (w := w) (h.block p.block hp hs)
theorem Only.frozen {S : Nat → Prop} {w w' : World} (h : Only S w w') {p : Addr} (hp : p.block < w.heap.size) (hs : ¬ S p.block) : w'.frozen? p = w.frozen? p := World.frozen?_of_block (w := w) (h.block p.block hp hs)
theorem Only.below {S : Nat → Prop} {w w' : World} (h : Only S w w') (B : Nat) (hB : B ≤ w.heap.size) (hs : ∀ k, k < B → ¬ S k) : Below B w w' := ⟨h.os, h.tape, h.output, h.size, fun k hk => h.block k (by omega) (hs k hk)⟩

/-- A slice value that holds these things. -/
def Thg (w : World) (v : Value) (ts : List Th) : Prop :=
  (v = .slice none 0 0 ∧ ts = []) ∨
  ∃ g cap cur, v = .slice (some ⟨g, 0, none⟩) ts.length cap ∧ w.heap[g]? = some (.cells cur 41 (0, 0)) ∧ ts.length ≤ cap ∧ cap ≤ maxLen ∧ cap * 3 ≤ cur.size ∧ cur.toList.take (ts.length * 3) = flat ts

theorem Thg.nil (w : World) : Thg w (.slice none 0 0) [] := .inl ⟨rfl, rfl⟩

theorem Thg.lt {w : World} {v : Value} {ts : List Th} (h : Thg w v ts) : ∀ k, v.ownBlock = some k → k < w.heap.size := by
  intro k hk
  rcases h with ⟨rfl, _⟩ | ⟨g, cap, cur, rfl, hg, _⟩
  · simp [Value.ownBlock] at hk
  · simp [Value.ownBlock] at hk; subst hk; exact (Array.getElem?_eq_some_iff.1 hg).1

theorem Thg.kept {w w' : World} {v : Value} {ts : List Th} {S : Nat → Prop} (h : Thg w v ts) (ho : Only S w w') (hs : ∀ k, v.ownBlock = some k → ¬ S k) : Thg w' v ts := by
  rcases h with h | ⟨g, cap, cur, rfl, hg, r⟩
  · exact .inl h
  · exact .inr ⟨g, cap, cur, rfl, by rw [ho.block g (Array.getElem?_eq_some_iff.1 hg).1 (hs g rfl)]; exact hg, r⟩

theorem row_cells {w : World} {g : Nat} {cur : Array Value} {ts : List Th} (hg : w.heap[g]? = some (.cells cur 41 (0, 0))) (hc : cur.toList.take (ts.length * 3) = flat ts) (k : Nat) (hk : k < ts.length) :
    w.cell? ⟨g, k * 3, none⟩ = some (.string (nth ts k).p) ∧ w.cell? ⟨g, k * 3 + 1, none⟩ = some (.bool (nth ts k).f) ∧ w.cell? ⟨g, k * 3 + 2, none⟩ = some (.string (nth ts k).d) := by
  have h := flat_get ts k hk
  rw [← hc, List.getElem?_take, List.getElem?_take, List.getElem?_take, if_pos (by omega), if_pos (by omega), if_pos (by omega)] at h
  rw [cell_of_row w g _ cur 41 (0, 0) hg, cell_of_row w g _ cur 41 (0, 0) hg, cell_of_row w g _ cur 41 (0, 0) hg]
  simpa using h

structure Dsk where
  ts : List Th
  room : Int
  left : Int
  steps : Int
  down : Bool

def DiskAt (w : World) (b : Nat) (v : Value) (D : Dsk) : Prop :=
  w.heap[b]? = some (.cells #[v, .int .i64 D.room, .int .i64 D.left, .int .i64 D.steps, .bool D.down] 38 (0, 0)) ∧ Thg w v D.ts ∧ v.ownBlock ≠ some b

theorem DiskAt.lt {w : World} {b : Nat} {v : Value} {D : Dsk} (h : DiskAt w b v D) : b < w.heap.size := (Array.getElem?_eq_some_iff.1 h.1).1
theorem DiskAt.cells {w : World} {b : Nat} {v : Value} {D : Dsk} (h : DiskAt w b v D) : w.cell? ⟨b, 0, none⟩ = some v ∧ w.cell? ⟨b, 1, none⟩ = some (.int .i64 D.room) ∧ w.cell? ⟨b, 2, none⟩ = some (.int .i64 D.left) ∧
    w.cell? ⟨b, 3, none⟩ = some (.int .i64 D.steps) ∧ w.cell? ⟨b, 4, none⟩ = some (.bool D.down) := by
  refine ⟨?_, ?_, ?_, ?_, ?_⟩ <;> (rw [cell_of_row w b _ _ _ _ h.1]; rfl)
theorem DiskAt.thaw {w : World} {b : Nat} {v : Value} {D : Dsk} (h : DiskAt w b v D) : ∀ o, w.frozen? ⟨b, o, none⟩ = false := fun o => frozen_of_row w b o _ _ h.1
theorem DiskAt.kept {w w' : World} {b : Nat} {v : Value} {D : Dsk} {S : Nat → Prop} (h : DiskAt w b v D) (ho : Only S w w') (hb : ¬ S b) (hs : ∀ k, v.ownBlock = some k → ¬ S k) : DiskAt w' b v D :=
  ⟨by rw [ho.block b h.lt hb]; exact h.1, h.2.1.kept ho hs, h.2.2⟩
theorem DiskAt.drewN {w : World} {b : Nat} {v : Value} {D : Dsk} (h : DiskAt w b v D) (n : Nat) : DiskAt (w.drewN n) b v D := h

/-- What a call on the disk at b leaves: the disk is D' now; nothing else that was there has turned. -/
def Turn (w w' : World) (b : Nat) (v : Value) (D' : Dsk) : Prop :=
  ∃ v', DiskAt w' b v' D' ∧ Only (fun k => k = b ∨ v.ownBlock = some k) w w' ∧ (v'.ownBlock = v.ownBlock ∨ ∀ k, v'.ownBlock = some k → w.heap.size ≤ k)

theorem Turn.next {w w' w'' : World} {b : Nat} {v : Value} {D' D'' : Dsk} (h : Turn w w' b v D') (hn : ∀ v', DiskAt w' b v' D' → Turn w' w'' b v' D'') : Turn w w'' b v D'' := by
  obtain ⟨v', hd, ho, hv⟩ := h
  obtain ⟨v'', hd', ho', hv'⟩ := hn v' hd
  refine ⟨v'', hd', ho.transNew ho' ?_, ?_⟩
  · rintro i hi (e | e)
    · exact .inl e
    · rcases hv with hv | hv
      · exact .inr (hv ▸ e)
      · have := hv i e; omega
  · rcases hv' with hv' | hv'
    · rcases hv with hv | hv
      · exact .inl (hv'.trans hv)
      · exact .inr (hv' ▸ hv)
    · exact .inr fun k hk => Nat.le_trans ho.size (hv' k hk)

theorem at_disk {w : World} {b : Nat} {v : Value} {D : Dsk} (h : DiskAt w b v D) (q : ByteArray) (hm : D.ts.length ≤ 1000000000000) :
    Calls Try.prog 21 #[.pointer (some ⟨b, 0, none⟩), .string q] w fun e w' => e = .returned (.tuple #[.int .i64 (low D.ts q), .bool (isAt D.ts q)]) ∧ ∃ n, w' = w.drewN n := by
  have hc := h.cells
  rcases h.2.1 with ⟨rfl, h1⟩ | ⟨g, cap, cur, rfl, hg, h1, h2, h3, h4⟩
  · rw [h1]; exact at_nil b q w hc.1
  · exact at_any b g cap D.ts q w hm hc.1 (fun k hk => (row_cells hg h4 k hk).1)
end Go.Proofs.Ytndfmgdhiallpaa
