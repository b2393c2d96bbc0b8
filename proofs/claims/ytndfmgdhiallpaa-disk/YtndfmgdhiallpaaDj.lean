/- Contracts of package disk: put. -/
import Derived.Test.YtndfmgdhiallpaaDi
namespace Go.Proofs.Ytndfmgdhiallpaa
open Go.RowKit

theorem DiskAt.alloc {w : World} {b : Nat} {v : Value} {D : Dsk} (h : DiskAt w b v D) (o : Obj) : DiskAt (w.alloc o) b v D :=
  h.kept ((Only.refl (fun _ => False) w).alloc o) (fun x => x) (fun _ _ x => x)

theorem shows_new {w : World} {g : Nat} (hg : g = w.heap.size) (t : Th) : Shows (w.alloc (.cells #[.string t.p, .bool t.f, .string t.d] 41)) (.slice (some ⟨g, 0, none⟩) 1 1) [t] := by
  subst hg
  refine ⟨_, _, rfl, (by intro h; cases h), ?_⟩
  intro a ha j u hu
  cases ha
  rw [Addr.add_lit, Nat.zero_add, cell_of_row _ _ j _ 41 (0, 0) (Go.heap_alloc_new w _)]
  simpa [flat] using hu

theorem only_drewN (w : World) (n : Nat) : Only (fun _ => False) w (w.drewN n) := (Only.refl _ w).drewN n

/-- What is known behind the append in put. -/
theorem put_app {w w1 : World} {b n : Nat} {v v' : Value} {D : Dsk} {t : Th} (h : DiskAt w b v D) (hth : Thg w1 v' (D.ts ++ [noTh]))
    (hgr : (((w.alloc (.cells #[.string t.p, .bool t.f, .string t.d] 41)).drewN n).alloc (.cells #[.string ⟨#[]⟩, .bool false, .string ⟨#[]⟩] 41)).grownBy w1 v.ownBlock)
    (hown : v'.ownBlock = v.ownBlock ∨ ∀ k, v'.ownBlock = some k → (((w.alloc (.cells #[.string t.p, .bool t.f, .string t.d] 41)).drewN n).alloc (.cells #[.string ⟨#[]⟩, .bool false, .string ⟨#[]⟩] 41)).heap.size ≤ k) :
    ∃ g cap cur, v' = .slice (some ⟨g, 0, none⟩) (D.ts.length + 1) cap ∧ w1.heap[g]? = some (.cells cur 41 (0, 0)) ∧ D.ts.length + 1 ≤ cap ∧ cap ≤ maxLen ∧ cap * 3 ≤ cur.size ∧ cur.toList.take ((D.ts.length + 1) * 3) = flat (D.ts ++ [noTh]) ∧
      g ≠ b ∧ (v.ownBlock = some g ∨ w.heap.size + 2 ≤ g) ∧
      w1.heap[b]? = w.heap[b]? ∧ w1.heap[w.heap.size]? = some (.cells #[.string t.p, .bool t.f, .string t.d] 41 (0, 0)) ∧ Only (fun j => v.ownBlock = some j) w w1 := by
  have hbl := h.lt
  have hvb := h.2.2
  have hvl := h.2.1.lt
  have hO : Only (fun j => v.ownBlock = some j) w w1 := ((((Only.refl _ w).alloc _).drewN n).alloc _).grown hgr (fun k _ e => e)
  obtain ⟨g, cap, cur, rfl, hg, h1, h2, h3, h4⟩ := thg_some hth (by simp)
  simp only [List.length_append, List.length_cons, List.length_nil, Nat.zero_add] at h1 h2 h3 h4 ⊢
  have hgo : v.ownBlock = some g ∨ w.heap.size + 2 ≤ g := by
    rcases hown with e | e
    · exact .inl e.symm
    · have := e g rfl; simp at this; exact .inr (by omega)
  refine ⟨g, cap, cur, rfl, hg, h1, h2, h3, h4, ?_, hgo, hO.block b hbl hvb, ?_, hO⟩
  · rintro rfl
    rcases hgo with e | e
    · exact hvb e
    · omega
  · have := hgr.block w.heap.size (by simp; omega) (by intro e; have := hvl _ e.symm; omega)
    rw [this]
    rw [Below.heap_alloc _ _ _ (by simp)]
    exact Go.heap_alloc_new w _

/-- What is known behind the copy in put, for the store. -/
theorem put_cop {w w2 w3 : World} {b g cap k : Nat} {v : Value} {D : Dsk} {t : Th} {cur3 : Array Value} (hbl : b < w.heap.size) (h5 : g ≠ b) (h6 : v.ownBlock = some g ∨ w.heap.size + 2 ≤ g) (hvl : ∀ k, v.ownBlock = some k → k < w.heap.size)
    (hO2 : Only (fun j => j = b ∨ v.ownBlock = some j) w w2) (hB2 : w2.heap[w.heap.size]? = some (.cells #[.string t.p, .bool t.f, .string t.d] 41 (0, 0)))
    (hD2 : w2.heap[b]? = some (.cells #[.slice (some ⟨g, 0, none⟩) (D.ts.length + 1) cap, .int .i64 D.room, .int .i64 D.left, .int .i64 D.steps, .bool D.down] 38 (0, 0)))
    (hg3 : w3.heap[g]? = some (.cells cur3 41 (0, 0))) (hs3 : cap * 3 ≤ cur3.size) (hkc : k < cap) (ho3 : Only (fun i => i = g) w2.drew w3) :
    w3.cell? ⟨b, 0, none⟩ = some (.slice (some ⟨g, 0, none⟩) (D.ts.length + 1) cap) ∧
    (w3.cell? ⟨w.heap.size, 0, none⟩ = some (.string t.p) ∧ w3.cell? ⟨w.heap.size, 1, none⟩ = some (.bool t.f) ∧ w3.cell? ⟨w.heap.size, 2, none⟩ = some (.string t.d)) ∧
    (∃ a0 a1 a2, w3.cell? ⟨g, k * 3, none⟩ = some a0 ∧ w3.cell? ⟨g, k * 3 + 1, none⟩ = some a1 ∧ w3.cell? ⟨g, k * 3 + 2, none⟩ = some a2) ∧ (∀ o, w3.frozen? ⟨g, o, none⟩ = false) ∧
    w3.heap[b]? = some (.cells #[.slice (some ⟨g, 0, none⟩) (D.ts.length + 1) cap, .int .i64 D.room, .int .i64 D.left, .int .i64 D.steps, .bool D.down] 38 (0, 0)) ∧
    (∃ q, Only (fun j => j = b ∨ v.ownBlock = some j) w q ∧ q = w3) := by
  have hsz := hO2.size
  have hbs : w.heap.size < w2.heap.size := (Array.getElem?_eq_some_iff.1 hB2).1
  have hgs : g ≠ w.heap.size := by
    rintro rfl
    rcases h6 with e | e
    · have := hvl _ e; omega
    · omega
  have hB3 : w3.heap[w.heap.size]? = some (.cells #[.string t.p, .bool t.f, .string t.d] 41 (0, 0)) := (ho3.block w.heap.size hbs (fun e => hgs e.symm)).trans hB2
  have hD3 := (ho3.block b (by show b < w2.heap.size; omega) (fun e => h5 e.symm)).trans hD2
  refine ⟨?_, ⟨?_, ?_, ?_⟩, ⟨cur3[k * 3]'(by omega), cur3[k * 3 + 1]'(by omega), cur3[k * 3 + 2]'(by omega), ?_, ?_, ?_⟩, fun o => frozen_of_row _ _ _ _ _ hg3, hD3, _, ?_, rfl⟩
  · rw [cell_of_row _ _ _ _ _ _ hD3]; rfl
  · rw [cell_of_row _ _ _ _ _ _ hB3]; rfl
  · rw [cell_of_row _ _ _ _ _ _ hB3]; rfl
  · rw [cell_of_row _ _ _ _ _ _ hB3]; rfl
  · rw [cell_of_row _ _ _ _ _ _ hg3]; exact Array.getElem?_eq_getElem (by omega)
  · rw [cell_of_row _ _ _ _ _ _ hg3]; exact Array.getElem?_eq_getElem (by omega)
  · rw [cell_of_row _ _ _ _ _ _ hg3]; exact Array.getElem?_eq_getElem (by omega)
  · refine (hO2.drew).transNew ho3 ?_
    intro i hi e
    subst e
    rcases h6 with e | e
    · exact .inr e
    · omega

theorem toList_set3 (cur : Array Value) (i : Nat) (a c d : Value) : (((cur.setIfInBounds i a).setIfInBounds (i + 1) c).setIfInBounds (i + 2) d).toList = ((cur.toList.set i a).set (i + 1) c).set (i + 2) d := by
  simp [Array.toList_setIfInBounds]

theorem take_set3 (l : List Value) (N i : Nat) (a c d : Value) : (((l.set i a).set (i + 1) c).set (i + 2) d).take N = (((l.take N).set i a).set (i + 1) c).set (i + 2) d := by
  simp [List.take_set]

theorem set_mid (ts r : List Th) (k : Nat) (y t : Th) (h : k ≤ ts.length) : (ts.take k ++ y :: r).set k t = ts.take k ++ t :: r := by
  induction k generalizing ts with
  | zero => simp
  | succ k ih =>
    cases ts with
    | nil => simp at h
    | cons a l => simpa using ih l (by simpa using h)

/-- What put leaves. -/
theorem put_end {w q : World} {b g cap k : Nat} {v : Value} {D : Dsk} {t : Th} {cur3 : Array Value} (h5 : g ≠ b) (h6 : v.ownBlock = some g ∨ w.heap.size + 2 ≤ g) (hkl : k ≤ D.ts.length)
    (hO : Only (fun j => j = b ∨ v.ownBlock = some j) w q)
    (hD : q.heap[b]? = some (.cells #[.slice (some ⟨g, 0, none⟩) (D.ts.length + 1) cap, .int .i64 D.room, .int .i64 D.left, .int .i64 D.steps, .bool D.down] 38 (0, 0)))
    (hg : q.heap[g]? = some (.cells cur3 41 (0, 0))) (h1 : D.ts.length + 1 ≤ cap) (h2 : cap ≤ maxLen) (hs3 : cap * 3 ≤ cur3.size)
    (hr : cur3.toList.take ((D.ts.length + 1) * 3) = flat (D.ts.take k ++ nth (D.ts ++ [noTh]) k :: D.ts.drop k)) :
    Turn w (((q.setCell ⟨g, k * 3, none⟩ (.string t.p)).setCell ⟨g, k * 3 + 1, none⟩ (.bool t.f)).setCell ⟨g, k * 3 + 2, none⟩ (.string t.d)).drew b v { D with ts := D.ts.take k ++ t :: D.ts.drop k } := by
  have hgS : g < w.heap.size → (g = b ∨ v.ownBlock = some g) := fun hlt => by
    rcases h6 with e | e
    · exact .inr e
    · omega
  have e1 := heap_setCell_same q g (k * 3) _ _ (.string t.p) hg
  have e2 := heap_setCell_same _ g (k * 3 + 1) _ _ (.bool t.f) e1
  have e3 := heap_setCell_same _ g (k * 3 + 2) _ _ (.string t.d) e2
  have hlen : (D.ts.take k ++ t :: D.ts.drop k).length = D.ts.length + 1 := by simp; omega
  refine ⟨.slice (some ⟨g, 0, none⟩) (D.ts.length + 1) cap, ⟨?_, .inr ⟨g, cap, _, by rw [hlen], e3, by rw [hlen]; exact h1, h2, by simpa using hs3, ?_⟩, by intro e; exact h5 (by simpa [Value.ownBlock] using e)⟩, ?_, ?_⟩
  · show (((q.setCell _ _).setCell _ _).setCell _ _).heap[b]? = _
    rw [Below.heap_setCell _ _ _ _ (Ne.symm h5), Below.heap_setCell _ _ _ _ (Ne.symm h5), Below.heap_setCell _ _ _ _ (Ne.symm h5)]
    exact hD
  · rw [hlen, toList_set3, take_set3, hr, flat_set]
    exact congrArg flat (set_mid _ _ _ _ _ hkl)
  · exact (((hO.setCell (p := ⟨g, k * 3, none⟩) hgS _).setCell (p := ⟨g, k * 3 + 1, none⟩) hgS _).setCell (p := ⟨g, k * 3 + 2, none⟩) hgS _).drew
  · rcases h6 with e | e
    · exact .inl e.symm
    · exact .inr (fun j hj => by simp [Value.ownBlock] at hj; omega)

set_option maxHeartbeats 400000 in
theorem put_disk {w : World} {b : Nat} {v : Value} {D : Dsk} (h : DiskAt w b v D) (t : Th) (hm : D.ts.length ≤ 1000000000000) :
    Calls Try.prog 19 #[.pointer (some ⟨b, 0, none⟩), .agg #[.string t.p, .bool t.f, .string t.d]] w fun e w' => e = .returned (.tuple #[]) ∧ Turn w w' b v { D with ts := D.ts.take (low D.ts t.p) ++ t :: D.ts.drop (low D.ts t.p) } := by
  have hc := h.cells.1
  have hbl := h.lt
  have hf := h.thaw
  have H := hide h
  have HA := hide (fun (w1 : World) (h1 : DiskAt w1 b v D) => at_disk h1 t.p hm)
  have hkl := low_le D.ts t.p
  clear h
  generalize low D.ts t.p = k at *
  generalize isAt D.ts t.p = ia at *
  go_enter Try.func19, Try.ntmps19
  go_wp2_with fail
  refine (unhide HA _ (by exact (unhide H).alloc _)).mono ?_
  rintro e w' ⟨rfl, n, rfl⟩
  have HT := hide ((((unhide H).alloc (.cells #[.string t.p, .bool t.f, .string t.d] 41)).drewN n).alloc (.cells #[.string ⟨#[]⟩, .bool false, .string ⟨#[]⟩] 41)).2.1
  have HS := hide (shows_new (w := (w.alloc (.cells #[.string t.p, .bool t.f, .string t.d] 41)).drewN n) (g := w.heap.size + 1) (by simp) noTh)
  go_wp2_with (at_builtin; refine wpList_append_thg rfl (.tmp 17) (.tmp 19) rfl v _ D.ts [noTh] rfl rfl (unhide HT) (unhide HS) (by simp; omega) ?_; intro v' w1 hth hgr hown; obtain ⟨g, cap, cur, rfl, hg, h1, h2, h3, h4, h5, h6, h7, h8, h9⟩ := put_app (unhide H) hth hgr hown; clear hth hgr hown; have HG := hide hg; have H4 := hide h4; have H7 := hide h7; have H8 := hide h8; have H9 := hide h9; clear hg h4 h7 h8 h9; have hc1 : w1.cell? ⟨b, 0, none⟩ = some v := (World.cell?_of_block (w := w) (unhide H7)).trans hc; have hf1 : ∀ o, w1.frozen? ⟨b, o, none⟩ = false := fun o => (World.frozen?_of_block (w := w) (unhide H7)).trans (hf o))
  have HO := hide ((unhide H9).mono (T := fun j => j = b ∨ v.ownBlock = some j) (fun _ _ e => .inr e))
  obtain ⟨w2, hw2⟩ : ∃ w2, w2 = w1.setCell ⟨b, 0, none⟩ (.slice (some ⟨g, 0, none⟩) (D.ts.length + 1) cap) := ⟨_, rfl⟩
  rw [← hw2]
  have HO2 : Hid (Only (fun j => j = b ∨ v.ownBlock = some j) w w2) := by rw [hw2]; exact (unhide HO).setCell (p := ⟨b, 0, none⟩) (fun _ => .inl rfl) _
  have HG2 : Hid (w2.heap[g]? = some (.cells cur 41 (0, 0))) := by rw [hw2]; exact (Below.heap_setCell _ _ _ _ h5).trans (unhide HG)
  have HB2 : Hid (w2.heap[w.heap.size]? = some (.cells #[.string t.p, .bool t.f, .string t.d] 41 (0, 0))) := by rw [hw2]; exact (Below.heap_setCell _ _ _ _ (by simp; omega)).trans (unhide H8)
  have HD2 : Hid (w2.heap[b]? = some (.cells #[.slice (some ⟨g, 0, none⟩) (D.ts.length + 1) cap, .int .i64 D.room, .int .i64 D.left, .int .i64 D.steps, .bool D.down] 38 (0, 0))) := by
    rw [hw2]; exact (heap_setCell_same w1 b 0 _ _ _ ((unhide H7).trans (unhide H).1))
  have hc2 : w2.cell? ⟨b, 0, none⟩ = some (.slice (some ⟨g, 0, none⟩) (D.ts.length + 1) cap) := by rw [cell_of_row _ _ _ _ _ _ (unhide HD2)]; rfl
  clear hw2 HO HG H7 H8 H9 hc1 hf1 HT HS hc hf
  have hck : ¬ cap = k := by omega
  have hwr : IntKind.i64.wrap ((k : Int) + 1) = (k : Int) + 1 := by rw [IntKind.wrap_i64]; omega
  have hp0 : (0 : Int) ≤ (k : Int) + 1 := by omega
  have hp1 : (k : Int) + 1 ≤ ((D.ts.length : Nat) : Int) + 1 := by omega
  have hp2 : ((k : Int) + 1).toNat = k + 1 := by omega
  have hp3 : (k : Int) ≤ ((D.ts.length : Nat) : Int) + 1 := by omega
  obtain ⟨dp, hdp, HDP⟩ : ∃ dp : Option Addr, (if cap = k + 1 then some (⟨g, 0, none⟩ : Addr) else some ⟨g, (k + 1) * 3, none⟩) = dp ∧ Hid (k < D.ts.length → dp = some ⟨g, (k + 1) * 3, none⟩) :=
    ⟨_, rfl, fun h => by rw [if_neg (by omega)]⟩
  go_region_law (refine step_copy_shift rfl (.tmp 29) (.tmp 35) rfl hkl (unhide HG2) h1 h3 (unhide H4) dp (cap - (k + 1)) (cap - k) (D.ts.length - k) (D.ts.length + 1 - k) rfl rfl (unhide HDP) (by simp [Act.eval, Act.put]) (by simp [Act.eval, Act.put]) ?_; intro w3 cur3 hg3 hs3 hr3 ho3)
  all_goals
    obtain ⟨hc3, ⟨hb0, hb1, hb2⟩, ⟨a0, a1, a2, hr0, hr1, hr2⟩, hfr, HD3, q, HOq, hq⟩ := put_cop (k := k) hbl h5 h6 (unhide H).2.1.lt (unhide HO2) (unhide HB2) (unhide HD2) hg3 hs3 (by omega) ho3
    subst hq
    have HO3 := hide HOq
    have HD := hide HD3
    have HG3 := hide hg3
    have HR3 := hide hr3
    clear HOq HD3 hg3 hr3 ho3 HO2 HB2 HD2 HG2 hc2 H4 hwr hp0 hp1 hp2 hdp HDP
    have hkk : (k : Int) < ((D.ts.length : Nat) : Int) + 1 := by omega
    go_wp2_with fail
    go_region
    go_wp2
    go_end0
    refine ⟨rfl, ?_⟩
    exact put_end h5 h6 hkl (unhide HO3) (unhide HD) (unhide HG3) h1 h2 hs3 (unhide HR3)
end Go.Proofs.Ytndfmgdhiallpaa
