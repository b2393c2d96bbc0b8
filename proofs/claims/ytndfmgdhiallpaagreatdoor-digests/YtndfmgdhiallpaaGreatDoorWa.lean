/- Worlds: which blocks may have turned; rows of cells. -/
import Derived.Test.YtndfmgdhiallpaaGreatDoorCa
import Derived.WalkSmall
namespace Go.Proofs.YtndfmgdhiallpaaGreatDoor
open Go.RowKit

/-- From w to w' no block that was there has turned, but those of S. -/
structure Only (S : Nat → Prop) (w w' : World) : Prop where
  os : w'.os = w.os
  tape : w'.tape = w.tape
  output : w'.output = w.output
  size : w.heap.size ≤ w'.heap.size
  block : ∀ k, k < w.heap.size → ¬ S k → w'.heap[k]? = w.heap[k]?

/-- Nothing that was there has turned. -/
def Old (w w' : World) : Prop := Only (fun _ => False) w w'

theorem Only.refl (S : Nat → Prop) (w : World) : Only S w w := ⟨rfl, rfl, rfl, Nat.le_refl _, fun _ _ _ => rfl⟩
theorem Only.trans {S : Nat → Prop} {a b c : World} (h : Only S a b) (k : Only S b c) : Only S a c :=
  ⟨k.os.trans h.os, k.tape.trans h.tape, k.output.trans h.output, Nat.le_trans h.size k.size, fun i hi hs => (k.block i (Nat.lt_of_lt_of_le hi h.size) hs).trans (h.block i hi hs)⟩
theorem Only.transNew {S T : Nat → Prop} {a b c : World} (h : Only S a b) (k : Only T b c) (hT : ∀ i, i < a.heap.size → T i → S i) : Only S a c :=
  ⟨k.os.trans h.os, k.tape.trans h.tape, k.output.trans h.output, Nat.le_trans h.size k.size, fun i hi hs => (k.block i (Nat.lt_of_lt_of_le hi h.size) (fun ht => hs (hT i hi ht))).trans (h.block i hi hs)⟩
theorem Only.mono {S T : Nat → Prop} {a b : World} (h : Only S a b) (hT : ∀ i, i < a.heap.size → S i → T i) : Only T a b :=
  ⟨h.os, h.tape, h.output, h.size, fun i hi hs => h.block i hi (fun x => hs (hT i hi x))⟩
theorem Only.drewN {S : Nat → Prop} {a b : World} (h : Only S a b) (n : Nat) : Only S a (b.drewN n) := ⟨h.os, h.tape, h.output, h.size, h.block⟩
theorem Only.drew {S : Nat → Prop} {a b : World} (h : Only S a b) : Only S a b.drew := ⟨h.os, h.tape, h.output, h.size, h.block⟩
theorem Only.alloc {S : Nat → Prop} {a w : World} (h : Only S a w) (o : Obj) : Only S a (w.alloc o) :=
  h.trans ⟨rfl, rfl, rfl, by simp, fun k hk _ => Below.heap_alloc _ _ _ hk⟩
theorem Only.setCell {S : Nat → Prop} {a w : World} (h : Only S a w) {p : Addr} (hp : p.block < a.heap.size → S p.block) (u : Value) : Only S a (w.setCell p u) :=
  h.transNew (T := fun k => k = p.block) ⟨rfl, rfl, rfl, by simp [World.setCell], fun k _ hk => Below.heap_setCell _ _ _ _ hk⟩ (fun i hi e => by subst e; exact hp hi)
theorem Only.grown {S : Nat → Prop} {a w w' : World} {row : Option Nat} (h : Only S a w) (hg : w.grownBy w' row) (hr : ∀ k, k < a.heap.size → row = some k → S k) : Only S a w' :=
  h.transNew (T := fun k => row = some k) ⟨hg.os, hg.tape, hg.output, hg.size, fun k hk hs => hg.block k hk (fun e => hs e.symm)⟩ (fun i hi e => hr i hi e)
theorem Only.cell {S : Nat → Prop} {w w' : World} (h : Only S w w') {p : Addr} (hp : p.block < w.heap.size) (hs : ¬ S p.block) : w'.cell? p = w.cell? p := World.cell?_of_block (w := w) (h.block p.block hp hs)
theorem Only.frozen {S : Nat → Prop} {w w' : World} (h : Only S w w') {p : Addr} (hp : p.block < w.heap.size) (hs : ¬ S p.block) : w'.frozen? p = w.frozen? p := World.frozen?_of_block (w := w) (h.block p.block hp hs)
theorem Only.below {S : Nat → Prop} {w w' : World} (h : Only S w w') (B : Nat) (hB : B ≤ w.heap.size) (hs : ∀ k, k < B → ¬ S k) : Below B w w' := ⟨h.os, h.tape, h.output, h.size, fun k hk => h.block k (by omega) (hs k hk)⟩
theorem only_set (w : World) (b i : Nat) (u : Value) : Only (fun k => k = b) w (w.setCell ⟨b, i, none⟩ u) := (Only.refl (fun k => k = b) w).setCell (p := ⟨b, i, none⟩) (fun _ => rfl) u

/-- Block g is a row whose first n cells hold f. -/
def Row (w : World) (g : Nat) (e : TypeId) (n : Nat) (f : Nat → Value) : Prop :=
  ∃ cur : Array Value, w.heap[g]? = some (.cells cur e (0, 0)) ∧ n ≤ cur.size ∧ ∀ j, j < n → cur[j]? = some (f j)

theorem Row.lt {w : World} {g n : Nat} {e : TypeId} {f : Nat → Value} (h : Row w g e n f) : g < w.heap.size := by
  obtain ⟨cur, hg, _⟩ := h; exact (Array.getElem?_eq_some_iff.1 hg).1
theorem Row.cell {w : World} {g n : Nat} {e : TypeId} {f : Nat → Value} (h : Row w g e n f) (j : Nat) (hj : j < n) : w.cell? ⟨g, j, none⟩ = some (f j) := by
  obtain ⟨cur, hg, _, hc⟩ := h; rw [cell_of_row w g j cur e (0, 0) hg]; exact hc j hj
theorem Row.thaw {w : World} {g n : Nat} {e : TypeId} {f : Nat → Value} (h : Row w g e n f) (o : Nat) : w.frozen? ⟨g, o, none⟩ = false := by
  obtain ⟨cur, hg, _⟩ := h; exact frozen_of_row w g o cur e hg
theorem Row.kept {w w' : World} {g n : Nat} {e : TypeId} {f : Nat → Value} {S : Nat → Prop} (h : Row w g e n f) (ho : Only S w w') (hs : ¬ S g) : Row w' g e n f := by
  have hl := h.lt
  obtain ⟨cur, hg, r⟩ := h; exact ⟨cur, (ho.block g hl hs).trans hg, r⟩
theorem Row.old {w w' : World} {g n : Nat} {e : TypeId} {f : Nat → Value} (h : Row w g e n f) (ho : Old w w') : Row w' g e n f := h.kept ho (fun x => x)
theorem Row.drewN {w : World} {g n : Nat} {e : TypeId} {f : Nat → Value} (h : Row w g e n f) (m : Nat) : Row (w.drewN m) g e n f := h
theorem Row.drew {w : World} {g n : Nat} {e : TypeId} {f : Nat → Value} (h : Row w g e n f) : Row w.drew g e n f := h
theorem Row.alloc {w : World} {g n : Nat} {e : TypeId} {f : Nat → Value} (h : Row w g e n f) (o : Obj) : Row (w.alloc o) g e n f := h.kept ((Only.refl (fun _ => False) w).alloc o) (fun x => x)
theorem Row.congr {w : World} {g n : Nat} {e : TypeId} {f f' : Nat → Value} (h : Row w g e n f) (hf : ∀ j, j < n → f j = f' j) : Row w g e n f' := by
  obtain ⟨cur, hg, hn, hc⟩ := h; exact ⟨cur, hg, hn, fun j hj => (hc j hj).trans (by rw [hf j hj])⟩
theorem Row.set {w : World} {g n : Nat} {e : TypeId} {f : Nat → Value} (h : Row w g e n f) (i : Nat) (hi : i < n) (v : Value) : Row (w.setCell ⟨g, i, none⟩ v) g e n (fun j => if j = i then v else f j) := by
  obtain ⟨cur, hg, hn, hc⟩ := h
  refine ⟨_, heap_setCell_same w g i cur e v hg, by simpa using hn, fun j hj => ?_⟩
  rw [Array.getElem?_setIfInBounds]
  by_cases e1 : i = j
  · subst e1; rw [if_pos rfl, if_pos (by omega)]; exact congrArg some (if_pos rfl).symm
  · rw [if_neg e1, hc j hj]; exact congrArg some (if_neg (fun h : j = i => e1 h.symm)).symm
theorem Row.setOther {w : World} {g n : Nat} {e : TypeId} {f : Nat → Value} (h : Row w g e n f) (b i : Nat) (hb : g ≠ b) (v : Value) : Row (w.setCell ⟨b, i, none⟩ v) g e n f := h.kept (only_set w b i v) hb
theorem Row.new (w : World) (cur : Array Value) (e : TypeId) (n : Nat) (f : Nat → Value) (hn : n ≤ cur.size) (hc : ∀ j, j < n → cur[j]? = some (f j)) : Row (w.alloc (.cells cur e)) w.heap.size e n f :=
  ⟨cur, Go.heap_alloc_new w _, hn, hc⟩

theorem Only.setRow {S : Nat → Prop} {a w : World} (h : Only S a w) (g : Nat) (hp : g < a.heap.size → S g) (cs : Array Value) : Only S a (w.setRow g cs) :=
  h.transNew (T := fun k => k = g) ⟨rfl, rfl, rfl, by simp [World.setRow], fun k _ hk => setRow_other w g k cs hk⟩ (fun i hi e => by subst e; exact hp hi)

/-- An array as a block of its own. -/
def arrF (n : Nat) (f : Nat → Value) : Array Value := ((List.range n).map f).toArray
theorem arrF_size (n : Nat) (f : Nat → Value) : (arrF n f).size = n := by simp [arrF]
theorem arrF_get (n : Nat) (f : Nat → Value) (j : Nat) (h : j < n) : (arrF n f)[j]? = some (f j) := by simp [arrF, h]
theorem arrF_congr {n : Nat} {f f' : Nat → Value} (h : ∀ j, j < n → f j = f' j) : arrF n f = arrF n f' := by
  unfold arrF; rw [List.map_congr_left (fun j hj => h j (List.mem_range.1 hj))]
theorem arrF_set (n : Nat) (f : Nat → Value) (i : Nat) (v : Value) : (arrF n f).setIfInBounds i v = arrF n (fun j => if j = i then v else f j) := by
  apply Array.ext_getElem?
  intro j
  rw [Array.getElem?_setIfInBounds]
  by_cases hj : j < n
  · rw [arrF_get n (fun j => if j = i then v else f j) j hj, arrF_get n f j hj, arrF_size]
    by_cases e : i = j
    · subst e; rw [if_pos rfl, if_pos hj, if_pos rfl]
    · rw [if_neg e, if_neg (fun h : j = i => e h.symm)]
  · rw [Array.getElem?_eq_none (by rw [arrF_size]; omega), arrF_size]
    by_cases e : i = j
    · subst e; rw [if_pos rfl, if_neg hj]; exact (Array.getElem?_eq_none (by rw [arrF_size]; omega)).symm
    · rw [if_neg e]; exact (Array.getElem?_eq_none (by rw [arrF_size]; omega)).symm
def Arr (w : World) (g : Nat) (t : TypeId) (n : Nat) (f : Nat → Value) : Prop := w.heap[g]? = some (.cells (arrF n f) t (0, 0))
theorem Arr.row {w : World} {g n : Nat} {t : TypeId} {f : Nat → Value} (h : Arr w g t n f) : Row w g t n f := ⟨_, h, by rw [arrF_size]; exact Nat.le_refl _, fun j hj => arrF_get n f j hj⟩
theorem Arr.lt {w : World} {g n : Nat} {t : TypeId} {f : Nat → Value} (h : Arr w g t n f) : g < w.heap.size := h.row.lt
theorem Arr.kept {w w' : World} {g n : Nat} {t : TypeId} {f : Nat → Value} {S : Nat → Prop} (h : Arr w g t n f) (ho : Only S w w') (hs : ¬ S g) : Arr w' g t n f := (ho.block g h.lt hs).trans h
theorem Arr.old {w w' : World} {g n : Nat} {t : TypeId} {f : Nat → Value} (h : Arr w g t n f) (ho : Old w w') : Arr w' g t n f := h.kept ho (fun x => x)
theorem Arr.set {w : World} {g n : Nat} {t : TypeId} {f : Nat → Value} (h : Arr w g t n f) (i : Nat) (v : Value) : Arr (w.setCell ⟨g, i, none⟩ v) g t n (fun j => if j = i then v else f j) := by
  unfold Arr; rw [heap_setCell_same w g i _ _ v h, arrF_set]
theorem Arr.setOther {w : World} {g n : Nat} {t : TypeId} {f : Nat → Value} (h : Arr w g t n f) (b i : Nat) (hb : g ≠ b) (v : Value) : Arr (w.setCell ⟨b, i, none⟩ v) g t n f := h.kept (only_set w b i v) hb
theorem Arr.congr {w : World} {g n : Nat} {t : TypeId} {f f' : Nat → Value} (h : Arr w g t n f) (hf : ∀ j, j < n → f j = f' j) : Arr w g t n f' := by unfold Arr; rw [← arrF_congr hf]; exact h
theorem Arr.drewN {w : World} {g n : Nat} {t : TypeId} {f : Nat → Value} (h : Arr w g t n f) (m : Nat) : Arr (w.drewN m) g t n f := h
theorem Arr.alloc {w : World} {g n : Nat} {t : TypeId} {f : Nat → Value} (h : Arr w g t n f) (o : Obj) : Arr (w.alloc o) g t n f := h.kept ((Only.refl (fun _ => False) w).alloc o) (fun x => x)
theorem Arr.mk' {w : World} {g : Nat} {cur : Array Value} {t : TypeId} {n : Nat} {f : Nat → Value} (hg : g = w.heap.size) (h : cur = arrF n f) : Arr (w.alloc (.cells cur t)) g t n f := by subst h hg; exact Go.heap_alloc_new w _
theorem Arr.new (w : World) (cur : Array Value) (t : TypeId) (n : Nat) (f : Nat → Value) (h : cur = arrF n f) : Arr (w.alloc (.cells cur t)) w.heap.size t n f := by subst h; exact Go.heap_alloc_new w _
end Go.Proofs.YtndfmgdhiallpaaGreatDoor
