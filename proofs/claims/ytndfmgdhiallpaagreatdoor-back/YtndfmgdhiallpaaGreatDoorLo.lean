/- What the laws make of raw files: entries. What the laws make of raw files: the walk of entries. Rows of entries: append and cuts. By rising names: the walk of rising. What is made of entries is unpacked: plain facts. Archives that the law puts together: of any row of entries. -/
import Derived.Test.YtndfmgdhiallpaaGreatDoorLm
import Derived.Test.YtndfmgdhiallpaaGreatDoorJm
import Derived.Test.YtndfmgdhiallpaaGreatDoorJr
import Derived.BigQuiet
namespace Go.Proofs.YtndfmgdhiallpaaGreatDoor
open Go.RowKit Go.Maps

theorem cellp_lt {w : World} {p : Addr} {v : Value} (h : w.cell? p = some v) : p.block < w.heap.size := by
  rcases Nat.lt_or_ge p.block w.heap.size with hlt | hge
  · exact hlt
  · have : w.cell? p = none := by simp [World.cell?, Array.getElem?_eq_none hge]
    rw [this] at h; cases h
theorem cell_old {w w' : World} {p : Addr} {v : Value} (ho : Old w w') (h : w.cell? p = some v) : w'.cell? p = some v := (ho.cell (cellp_lt h) (fun x => x)).trans h
/-- Raw files, as they came in. -/
def RawAt (w : World) (v : Value) (n : Nat) : Prop :=
  (v = .slice none 0 0 ∧ n = 0) ∨ ∃ a cap, v = .slice (some a) n cap ∧ ∀ i, i < n → ∃ (f m : Int) (s : ByteArray), (-9223372036854775808 ≤ f ∧ f ≤ 9223372036854775807) ∧ (-9223372036854775808 ≤ m ∧ m ≤ 9223372036854775807) ∧ s.size ≤ 140737488355328 ∧ w.cell? (a.add (i * 3)) = some (.int .i64 f) ∧ w.cell? ⟨(a.add (i * 3)).block, (a.add (i * 3)).off + 1, none⟩ = some (.int .i64 m) ∧ w.cell? ⟨(a.add (i * 3)).block, (a.add (i * 3)).off + 2, none⟩ = some (.string s)
theorem RawAt.len {w : World} {v : Value} {m : Nat} (h : RawAt w v m) : ∃ ao cap, v = .slice ao m cap := by
  rcases h with ⟨rfl, rfl⟩ | ⟨a, cap, rfl, _⟩
  · exact ⟨none, 0, rfl⟩
  · exact ⟨some a, cap, rfl⟩
theorem RawAt.old {w w' : World} {v : Value} {m : Nat} (h : RawAt w v m) (ho : Old w w') : RawAt w' v m := by
  rcases h with h | ⟨a, cap, rfl, h⟩
  · exact .inl h
  · refine .inr ⟨a, cap, rfl, fun i hi => ?_⟩
    obtain ⟨f, m, s, h1, h2, h3, h4, h5, h6⟩ := h i hi
    exact ⟨f, m, s, h1, h2, h3, cell_old ho h4, cell_old ho h5, cell_old ho h6⟩
/-- A folder's beginning of a name. -/
def foP (f : Nat) : ByteArray := [⟨#[]⟩, ⟨#[112, 47]⟩, ⟨#[113, 47, 114, 47]⟩, ⟨#[118, 101, 110, 100, 111, 114, 47]⟩].getD f ⟨#[]⟩
def baP (n : Nat) : ByteArray := ⟨#[102]⟩ ++ ⟨#[b8 (97 + n)]⟩ ++ ⟨#[46, 103, 111]⟩
def nmP (n f : Nat) : ByteArray := foP f ++ baP n
theorem baP_size (n : Nat) : (baP n).size = 5 := by
  unfold baP; rw [ByteArray.size_append, ByteArray.size_append]; rfl
theorem foP_size (f : Nat) : (foP f).size ≤ 7 := by
  match f with
  | 0 => decide
  | 1 => decide
  | 2 => decide
  | 3 => decide
  | f + 4 => exact Nat.zero_le _
theorem foP_zero (z : ByteArray) : foP 0 ++ z = z := by
  show (⟨#[]⟩ : ByteArray) ++ z = z
  apply ByteArray.ext; simp [ByteArray.data_append]
/-- Entries, in a row of their own. -/
def enCells (T : List Ent) : List Value := T.flatMap fun e => e.v.toList
theorem enCells_len (T : List Ent) : (enCells T).length = T.length * 3 := by
  induction T with
  | nil => rfl
  | cons a r ih => rw [enCells, List.flatMap_cons, List.length_append, ← enCells, ih, List.length_cons]; simp; omega
theorem enCells_app (a b : List Ent) : enCells (a ++ b) = enCells a ++ enCells b := by simp [enCells]
theorem enCells_get (T : List Ent) (j : Nat) (hj : j < T.length) : (enCells T)[j * 3]? = some (.string (T.getD j ent0).nm) ∧ (enCells T)[j * 3 + 1]? = some (.bool (T.getD j ent0).ln) ∧ (enCells T)[j * 3 + 2]? = some (.string (T.getD j ent0).dt) := by
  induction T generalizing j with
  | nil => simp at hj
  | cons a r ih =>
    rw [enCells, List.flatMap_cons, ← enCells]
    cases j with
    | zero => simp
    | succ j =>
      obtain ⟨h1, h2, h3⟩ := ih j (by simpa using hj)
      rw [show (j + 1) * 3 = j * 3 + 3 by omega]
      refine ⟨?_, ?_, ?_⟩
      · simpa using h1
      · simpa using h2
      · simpa using h3
def EntRow (w : World) (v : Value) (T : List Ent) : Prop := w.ownsRow 0 39 3 v T.length (enCells T)
theorem EntRow.kept {S : Nat → Prop} {w w' : World} {v : Value} {T : List Ent} (h : EntRow w v T) (ho : Only S w w') (hs : ∀ b, v.ownBlock = some b → ¬ S b) : EntRow w' v T := ownk_kept h ho hs
theorem EntRow.old {w w' : World} {v : Value} {T : List Ent} (h : EntRow w v T) (ho : Old w w') : EntRow w' v T := h.kept ho (fun _ _ x => x)
theorem EntRow.shape {w : World} {v : Value} {T : List Ent} (h : EntRow w v T) : ∃ ao cap, v = .slice ao T.length cap := by
  obtain ⟨_, ⟨rfl, hz⟩ | ⟨b', c', cur', rfl, _⟩⟩ := h
  · rw [hz]; exact ⟨none, 0, rfl⟩
  · exact ⟨_, _, rfl⟩
theorem EntRow.slice {w : World} {v : Value} {T : List Ent} (h : EntRow w v T) (hn : 0 < T.length) : ∃ g cap, v = .slice (some ⟨g, 0, none⟩) T.length cap ∧ EntsAt w g T := by
  obtain ⟨hl, ⟨rfl, hz⟩ | ⟨g, cap, cur, rfl, h1, hg, hr⟩⟩ := h
  · omega
  · refine ⟨g, cap, rfl, fun j hj => ?_⟩
    have hcl := World.ownsRow.cells (w := w) ⟨hl, .inr ⟨g, cap, cur, rfl, h1, hg, hr⟩⟩ (g := g) rfl
    obtain ⟨ha, hb, hc⟩ := enCells_get T j hj
    refine ⟨(Array.getElem?_eq_some_iff.1 hg).1, ?_, ?_, ?_⟩
    · have := hcl (j * 3) _ ha; rw [Addr.add_lit, Nat.zero_add] at this; exact this
    · have := hcl (j * 3 + 1) _ hb; rw [Addr.add_lit, Nat.zero_add] at this; exact this
    · have := hcl (j * 3 + 2) _ hc; rw [Addr.add_lit, Nat.zero_add] at this; exact this
/-- What entries makes. -/
structure Made (T : List Ent) : Prop where
  form : ∀ e ∈ T, ∃ n f, n < 26 ∧ f < 4 ∧ e.nm = nmP n f ∧ e.ln = false ∧ e.dt.size ≤ 600
  apart : T.Pairwise (fun a b => a.nm ≠ b.nm)
theorem Made.nil : Made [] := ⟨(fun e h => by cases h), List.Pairwise.nil⟩
theorem Made.snoc {T : List Ent} (h : Made T) (n f : Nat) (d : ByteArray) (hn : n < 26) (hf : f < 4) (hd : d.size ≤ 600) (ha : ∀ k, k < T.length → (T.getD k ent0).nm ≠ nmP n f) : Made (T ++ [⟨nmP n f, false, d⟩]) := by
  refine ⟨fun e he => ?_, List.pairwise_append.2 ⟨h.apart, List.pairwise_singleton _ _, fun x hx y hy => ?_⟩⟩
  · rcases List.mem_append.1 he with he | he
    · exact h.form e he
    · rw [List.mem_singleton] at he; subst he; exact ⟨n, f, hn, hf, rfl, rfl, hd⟩
  · rw [List.mem_singleton] at hy; subst hy
    obtain ⟨k, hk, rfl⟩ := List.mem_iff_getElem.1 hx
    have := ha k hk
    rw [List.getD_eq_getElem?_getD, List.getElem?_eq_getElem hk] at this
    exact this
theorem infoE3 : (Tryz.prog.info? 39).map (fun i => (i.zero, i.size, i.bytes)) = some (some (.agg #[.string ⟨#[]⟩, .bool false, .string ⟨#[]⟩]), 3, 40) := by kernel_rfl
end Go.Proofs.YtndfmgdhiallpaaGreatDoor
namespace Go.Proofs.YtndfmgdhiallpaaGreatDoor
open Go.RowKit Go.Maps

set_option maxRecDepth 100000 in
set_option maxHeartbeats 4000000 in
theorem entriesA (v : Value) (n : Nat) (hn : n ≤ maxLen) (w : World) (hv : RawAt w v n) :
    Calls Tryz.prog 26 #[v] w fun r w' => ∃ u T, r = .returned u ∧ Old w w' ∧ EntRow w' u T ∧ Made T ∧ T.length ≤ 20 ∧ ∀ b, u.ownBlock = some b → w.heap.size ≤ b := by
  obtain ⟨i0, hi0, hz0, hz1, hz2⟩ := info_parts infoE3
  obtain ⟨ao, cp, rfl⟩ := hv.len
  have HV := hide hv
  have HO := hide (Only.refl (fun _ => False) w)
  have HF0 : Hid (EntRow w (.slice none 0 0) []) := World.ownsRow_nil w 0 _ 3
  have hnI : n ≤ 9223372036854775807 := by unfold maxLen at hn; omega
  clear hv
  go_enter Tryz.func26, Tryz.ntmps26
  go_wp2_with fail
  go_loopw [3, 4, 5, 6, 7, 8, 9] (fun u x _ _ _ _ _ wr => ∃ (i : Nat) (T : List Ent), i ≤ n ∧ i ≤ 20 ∧ T.length ≤ i ∧ x = .int .i64 i ∧ Hid (Old w wr) ∧ Hid (Made T) ∧ Hid (EntRow wr u T) ∧ Hid (∀ b, u.ownBlock = some b → w.heap.size ≤ b)) (fun _ x _ _ _ _ _ _ => 20 - (intOf x).toNat)
  case atStart => exact ⟨0, [], by omega, by omega, by simp, rfl, HO, Made.nil, HF0, fun b h => by cases h⟩
  case round =>
    obtain ⟨i, T, hi, hi20, hTi, rfl, HO1, HMT, HEN, HUB⟩ := hrel
    clear HO HF0
    by_cases hil : i < n ∧ i < 20
    · obtain ⟨hil, hil2⟩ := hil
      have hilI : (i : Int) < (n : Int) := by omega
      have hil2I : (i : Int) < 20 := by omega
      obtain ⟨a, cap, hve, hraw⟩ : ∃ a cap, Value.slice ao n cp = .slice (some a) n cap ∧ ∃ (f m : Int) (s : ByteArray), (-9223372036854775808 ≤ f ∧ f ≤ 9223372036854775807) ∧ (-9223372036854775808 ≤ m ∧ m ≤ 9223372036854775807) ∧ s.size ≤ 140737488355328 ∧ wr.cell? (a.add (i * 3)) = some (.int .i64 f) ∧ wr.cell? ⟨(a.add (i * 3)).block, (a.add (i * 3)).off + 1, none⟩ = some (.int .i64 m) ∧ wr.cell? ⟨(a.add (i * 3)).block, (a.add (i * 3)).off + 2, none⟩ = some (.string s) := by
        rcases (unhide HV).old (unhide HO1) with ⟨_, h0⟩ | ⟨a, cap, e, h⟩
        · omega
        · exact ⟨a, cap, e, h i hil⟩
      injection hve with hv1 hv2 hv3
      subst hv1 hv3
      obtain ⟨f, m, s, hf, hm, hs, c0, c1, c2⟩ := hraw
      have hp1 := pickN_lt m (show 0 < 26 by omega)
      have hp2 := pickN_lt f (show 0 < 4 by omega)
      have HP1 := hide (fun W => kpick_any m hm.1 hm.2 26 (by omega) (by omega) W)
      have HP2 := hide (fun W => kpick_any f hf.1 hf.2 4 (by omega) (by omega) W)
      generalize pickN m 26 = k1 at *
      generalize pickN f 4 = k2 at *
      obtain ⟨ao3, cp3, rfl⟩ := (unhide HEN).shape
      obtain ⟨B, hBB⟩ : ∃ B, 97 + k1 = B := ⟨_, rfl⟩
      have hB : B < 256 := by omega
      have hBI : (97 : Int) + (k1 : Int) = (B : Int) := by omega
      have HBA : Hid (baP k1 = ⟨#[102]⟩ ++ ⟨#[b8 B]⟩ ++ ⟨#[46, 103, 111]⟩) := by unfold Hid; rw [baP, hBB]
      clear hBB
      go_wp2_with fail
      refine (unhide HP1 _).mono ?_
      rintro r w1 ⟨rfl, rfl⟩
      have hback := one_back w1 B hB
      have hA1 : Old w1 (w1.alloc (.cells #[.int .u8 (B : Int)] 5)) := (Only.refl _ w1).alloc _
      have HOW := hide (Only.trans (unhide HO1) hA1)
      have HEW := hide ((unhide HEN).old hA1)
      have d0 := cell_old hA1 c0
      have d2 := cell_old hA1 c2
      clear hA1 c0 c1 c2 HO1 HEN HP1
      go_wp2_with fail
      generalize w1.alloc (.cells #[.int .u8 (B : Int)] 5) = W1 at *
      have hbz : ((⟨#[102]⟩ : ByteArray) ++ ⟨#[b8 B]⟩ ++ ⟨#[46, 103, 111]⟩).size = 5 := by rw [← unhide HBA, baP_size]
      generalize (⟨#[102]⟩ : ByteArray) ++ ⟨#[b8 B]⟩ ++ ⟨#[46, 103, 111]⟩ = ba at *
      refine (unhide HP2 _).mono ?_
      rintro r W ⟨rfl, rfl⟩
      clear HP2 hback d0
      by_cases hk0 : k2 = 0
      · subst hk0
        obtain ⟨nm, HNB⟩ : ∃ nm, Hid (nm = ba) := ⟨ba, rfl⟩
        have HNM : Hid (nm = nmP k1 0) := by unfold Hid; rw [nmP, foP_zero, unhide HBA]; exact unhide HNB
        have eb : nm = ba := unhide HNB
        subst eb
        clear HNB HBA hbz hB hBI
        obtain ⟨k2, hk2⟩ : ∃ k2 : Nat, k2 = 0 := ⟨0, rfl⟩
        rw [← hk2] at HNM hp2
        by_cases h6 : s.size ≤ 600
        · have h6I : ¬ (600 : Int) < (s.size : Int) := by omega
          obtain ⟨d, HDD⟩ : ∃ d, Hid (d = s) := ⟨s, rfl⟩
          rw [← unhide HDD] at h6 h6I d2
          have hd : d.size ≤ 600 := h6
          clear HDD hs
          go_wp2_with fail
          clear d2
          go_loop [8, 9] (fun y x => ∃ (k : Nat) (bb : Bool), k ≤ T.length ∧ x = .int .i64 k ∧ y = .bool bb ∧ Hid (bb = false → ∀ j, j < k → (T.getD j ent0).nm ≠ nm)) (fun _ x => T.length - (intOf x).toNat)
          case atStart => exact ⟨0, false, by omega, rfl, rfl, fun _ j hj => by omega⟩
          case round =>
            obtain ⟨k, bb, hk, rfl, rfl, HNE⟩ := hrel
            by_cases hkl : k < T.length
            · have hklI : (k : Int) < (T.length : Int) := by omega
              obtain ⟨g, cq, hve, hent⟩ := (unhide HEW).slice (by omega)
              obtain ⟨_, e1, _, _⟩ := hent k hkl
              injection hve with hv1 hv2 hv3
              subst hv1 hv3
              clear hent hv2
              cases bb with
              | true =>
                clear e1
                go_wp2_with fail
                go_round
                case rel => exact ⟨k + 1, true, by omega, by go_num, rfl, fun h => by cases h⟩
                case measure => simp [intOf]; omega
              | false =>
                have HEQ := hide (eqS (T.getD k ent0).nm nm)
                have HN2 : Hid (decide ((T.getD k ent0).nm = nm) = false → ∀ j, j < k + 1 → (T.getD j ent0).nm ≠ nm) := fun h j hj => by
                  by_cases e : j = k
                  · rw [e]; exact of_decide_eq_false h
                  · exact unhide HNE rfl j (by omega)
                generalize (T.getD k ent0).nm = z at *
                have heq := unhide HEQ
                cases hdz : decide (z = nm) with
                | true =>
                  rw [hdz] at heq
                  go_wp2_with fail
                  go_round
                  case rel => exact ⟨k + 1, true, by omega, by go_num, rfl, fun h => by cases h⟩
                  case measure => simp [intOf]; omega
                | false =>
                  rw [hdz] at heq
                  have HN3 := hide (unhide HN2 hdz)
                  go_wp2_with fail
                  go_round
                  case rel => exact ⟨k + 1, false, by omega, by go_num, rfl, fun _ => unhide HN3⟩
                  case measure => simp [intOf]; omega
            · have hklI : ¬ (k : Int) < (T.length : Int) := by omega
              have hke : k = T.length := by omega
              subst hke
              cases bb with
              | true =>
                go_wp2_with fail
                go_roundw
                case rel => exact ⟨i + 1, T, by omega, by omega, by omega, by go_num, HOW, HMT, HEW, HUB⟩
                case measure => simp [intOf]; omega
              | false =>
                have HM2 : Hid (Made (T ++ [⟨nm, false, d⟩])) := by
                  have h := unhide HNE rfl
                  rw [unhide HNM] at h ⊢
                  exact (unhide HMT).snoc k1 k2 d hp1 hp2 hd h
                have hA4 : Old W (W.alloc (.cells #[.string nm, .bool false, .string d] 39)) := (Only.refl _ W).alloc _
                have HO5 := hide (Only.trans (unhide HOW) hA4)
                have HOWN : Hid ((W.alloc (.cells #[.string nm, .bool false, .string d] 39)).ownsRow 0 39 3 (.slice ao3 T.length cp3) T.length (enCells T)) := (unhide HEW).old hA4
                have HNW := hide (new_cells W [.string nm, .bool false, .string d] 39)
                have HSZ : Hid ((W.alloc (.cells #[.string nm, .bool false, .string d] 39)).heap.size = W.heap.size + 1) := by unfold Hid; rw [World.size_alloc]
                have HFN : Hid (∀ g2 cap2 w6, w6.ownsRow 0 39 3 (.slice (some ⟨g2, 0, none⟩) (T.length + 1) cap2) (T.length + 1) (enCells T ++ [.string nm, .bool false, .string d]) → (W.alloc (.cells #[.string nm, .bool false, .string d] 39)).grownBy w6 (Value.slice ao3 T.length cp3).ownBlock → ((Value.slice ao3 T.length cp3).ownBlock = some g2 ∨ g2 = W.heap.size + 1) → Old w w6 ∧ EntRow w6 (.slice (some ⟨g2, 0, none⟩) (T.length + 1) cap2) (T ++ [⟨nm, false, d⟩]) ∧ w.heap.size ≤ g2) := fun g2 cap2 w6 h1 h2 h3 => by
                  refine ⟨(unhide HO5).grown h2 (fun k hk e => absurd (unhide HUB k e) (by omega)), ?_, ?_⟩
                  · show w6.ownsRow 0 39 3 _ (T ++ [(⟨nm, false, d⟩ : Ent)]).length (enCells (T ++ [⟨nm, false, d⟩]))
                    rw [enCells_app, List.length_append]; exact h1
                  · rcases h3 with h | h
                    · exact unhide HUB g2 h
                    · have h4 := (unhide HO5).size
                      have h5 := unhide HSZ
                      omega
                have hT20 : T.length ≤ 20 := by omega
                clear hA4 HEW HO5
                go_wp2_with (at_builtin; refine wpList_append_lies _ rfl (.tmp 74) (.tmp 78) 40 rfl 0 39 i0 (.agg #[.string ⟨#[]⟩, .bool false, .string ⟨#[]⟩]) 3 40 Tryz.underlying40 hi0 hz0 hz1 hz2 rfl (by omega) (.slice ao3 T.length cp3) T.length (enCells T) rfl (unhide HOWN) ⟨W.heap.size, 0, none⟩ 1 1 [.string nm, .bool false, .string d] rfl rfl (unhide HNW) (by intro u hu; simp at hu; rcases hu with rfl | rfl | rfl <;> rfl) (by omega) (by unfold maxLen; omega) (by omega) (by omega) (W.heap.size + 1) (unhide HSZ) ?_; intro gb cap2 w6 ho6 hg6 hl6 hlt6; have HX := hide (unhide HFN gb cap2 w6 ho6 hg6 hl6); clear ho6 hg6 hl6 hlt6)
                go_roundw
                case rel => exact ⟨i + 1, T ++ [⟨nm, false, d⟩], by omega, by omega, by rw [List.length_append]; show T.length + 1 ≤ i + 1; omega, by go_num, hide (unhide HX).1, HM2, hide (unhide HX).2.1, fun b hb => by have e : gb = b := Option.some.inj (show some gb = some b from hb); subst e; exact (unhide HX).2.2⟩
                case measure => simp [intOf]; omega
        · have h6I : (600 : Int) < (s.size : Int) := by omega
          have hsl0 : ∀ W, (Instr.slice 9 (.string s) none (some (.int .i64 600)) none).run Tryz.prog W = .ok (.string (s.extract 0 600)) W := fun W => run_slice_string_h W 9 s Tryz.underlying9 .i64 600 (by omega) (by omega)
          have hd : (s.extract 0 600).size ≤ 600 := by rw [ByteArray.size_extract]; omega
          generalize s.extract 0 600 = d at *
          go_wp2_with fail
          clear d2 hsl0
          go_loop [8, 9] (fun y x => ∃ (k : Nat) (bb : Bool), k ≤ T.length ∧ x = .int .i64 k ∧ y = .bool bb ∧ Hid (bb = false → ∀ j, j < k → (T.getD j ent0).nm ≠ nm)) (fun _ x => T.length - (intOf x).toNat)
          case atStart => exact ⟨0, false, by omega, rfl, rfl, fun _ j hj => by omega⟩
          case round =>
            obtain ⟨k, bb, hk, rfl, rfl, HNE⟩ := hrel
            by_cases hkl : k < T.length
            · have hklI : (k : Int) < (T.length : Int) := by omega
              obtain ⟨g, cq, hve, hent⟩ := (unhide HEW).slice (by omega)
              obtain ⟨_, e1, _, _⟩ := hent k hkl
              injection hve with hv1 hv2 hv3
              subst hv1 hv3
              clear hent hv2
              cases bb with
              | true =>
                clear e1
                go_wp2_with fail
                go_round
                case rel => exact ⟨k + 1, true, by omega, by go_num, rfl, fun h => by cases h⟩
                case measure => simp [intOf]; omega
              | false =>
                have HEQ := hide (eqS (T.getD k ent0).nm nm)
                have HN2 : Hid (decide ((T.getD k ent0).nm = nm) = false → ∀ j, j < k + 1 → (T.getD j ent0).nm ≠ nm) := fun h j hj => by
                  by_cases e : j = k
                  · rw [e]; exact of_decide_eq_false h
                  · exact unhide HNE rfl j (by omega)
                generalize (T.getD k ent0).nm = z at *
                have heq := unhide HEQ
                cases hdz : decide (z = nm) with
                | true =>
                  rw [hdz] at heq
                  go_wp2_with fail
                  go_round
                  case rel => exact ⟨k + 1, true, by omega, by go_num, rfl, fun h => by cases h⟩
                  case measure => simp [intOf]; omega
                | false =>
                  rw [hdz] at heq
                  have HN3 := hide (unhide HN2 hdz)
                  go_wp2_with fail
                  go_round
                  case rel => exact ⟨k + 1, false, by omega, by go_num, rfl, fun _ => unhide HN3⟩
                  case measure => simp [intOf]; omega
            · have hklI : ¬ (k : Int) < (T.length : Int) := by omega
              have hke : k = T.length := by omega
              subst hke
              cases bb with
              | true =>
                go_wp2_with fail
                go_roundw
                case rel => exact ⟨i + 1, T, by omega, by omega, by omega, by go_num, HOW, HMT, HEW, HUB⟩
                case measure => simp [intOf]; omega
              | false =>
                have HM2 : Hid (Made (T ++ [⟨nm, false, d⟩])) := by
                  have h := unhide HNE rfl
                  rw [unhide HNM] at h ⊢
                  exact (unhide HMT).snoc k1 k2 d hp1 hp2 hd h
                have hA4 : Old W (W.alloc (.cells #[.string nm, .bool false, .string d] 39)) := (Only.refl _ W).alloc _
                have HO5 := hide (Only.trans (unhide HOW) hA4)
                have HOWN : Hid ((W.alloc (.cells #[.string nm, .bool false, .string d] 39)).ownsRow 0 39 3 (.slice ao3 T.length cp3) T.length (enCells T)) := (unhide HEW).old hA4
                have HNW := hide (new_cells W [.string nm, .bool false, .string d] 39)
                have HSZ : Hid ((W.alloc (.cells #[.string nm, .bool false, .string d] 39)).heap.size = W.heap.size + 1) := by unfold Hid; rw [World.size_alloc]
                have HFN : Hid (∀ g2 cap2 w6, w6.ownsRow 0 39 3 (.slice (some ⟨g2, 0, none⟩) (T.length + 1) cap2) (T.length + 1) (enCells T ++ [.string nm, .bool false, .string d]) → (W.alloc (.cells #[.string nm, .bool false, .string d] 39)).grownBy w6 (Value.slice ao3 T.length cp3).ownBlock → ((Value.slice ao3 T.length cp3).ownBlock = some g2 ∨ g2 = W.heap.size + 1) → Old w w6 ∧ EntRow w6 (.slice (some ⟨g2, 0, none⟩) (T.length + 1) cap2) (T ++ [⟨nm, false, d⟩]) ∧ w.heap.size ≤ g2) := fun g2 cap2 w6 h1 h2 h3 => by
                  refine ⟨(unhide HO5).grown h2 (fun k hk e => absurd (unhide HUB k e) (by omega)), ?_, ?_⟩
                  · show w6.ownsRow 0 39 3 _ (T ++ [(⟨nm, false, d⟩ : Ent)]).length (enCells (T ++ [⟨nm, false, d⟩]))
                    rw [enCells_app, List.length_append]; exact h1
                  · rcases h3 with h | h
                    · exact unhide HUB g2 h
                    · have h4 := (unhide HO5).size
                      have h5 := unhide HSZ
                      omega
                have hT20 : T.length ≤ 20 := by omega
                clear hA4 HEW HO5
                go_wp2_with (at_builtin; refine wpList_append_lies _ rfl (.tmp 74) (.tmp 78) 40 rfl 0 39 i0 (.agg #[.string ⟨#[]⟩, .bool false, .string ⟨#[]⟩]) 3 40 Tryz.underlying40 hi0 hz0 hz1 hz2 rfl (by omega) (.slice ao3 T.length cp3) T.length (enCells T) rfl (unhide HOWN) ⟨W.heap.size, 0, none⟩ 1 1 [.string nm, .bool false, .string d] rfl rfl (unhide HNW) (by intro u hu; simp at hu; rcases hu with rfl | rfl | rfl <;> rfl) (by omega) (by unfold maxLen; omega) (by omega) (by omega) (W.heap.size + 1) (unhide HSZ) ?_; intro gb cap2 w6 ho6 hg6 hl6 hlt6; have HX := hide (unhide HFN gb cap2 w6 ho6 hg6 hl6); clear ho6 hg6 hl6 hlt6)
                go_roundw
                case rel => exact ⟨i + 1, T ++ [⟨nm, false, d⟩], by omega, by omega, by rw [List.length_append]; show T.length + 1 ≤ i + 1; omega, by go_num, hide (unhide HX).1, HM2, hide (unhide HX).2.1, fun b hb => by have e : gb = b := Option.some.inj (show some gb = some b from hb); subst e; exact (unhide HX).2.2⟩
                case measure => simp [intOf]; omega
      · have hk0I : (0 : Int) < (k2 : Int) := by omega
        have hk4I : (k2 : Int) < 4 := by omega
        have hfo : (W.alloc (.cells #[.string ⟨#[]⟩, .string ⟨#[112, 47]⟩, .string ⟨#[113, 47, 114, 47]⟩, .string ⟨#[118, 101, 110, 100, 111, 114, 47]⟩] 9)).cell? ⟨W.heap.size, k2, none⟩ = some (.string (foP k2)) := by
          rw [cell_of_row _ _ k2 _ _ (0, 0) (Go.heap_alloc_new _ _)]
          have h : k2 = 0 ∨ k2 = 1 ∨ k2 = 2 ∨ k2 = 3 := by omega
          rcases h with rfl | rfl | rfl | rfl <;> rfl
        have hA2 : Old W (W.alloc (.cells #[.string ⟨#[]⟩, .string ⟨#[112, 47]⟩, .string ⟨#[113, 47, 114, 47]⟩, .string ⟨#[118, 101, 110, 100, 111, 114, 47]⟩] 9)) := (Only.refl _ W).alloc _
        have HOW := hide (Only.trans (unhide HOW) hA2)
        have HEW := hide ((unhide HEW).old hA2)
        have d2 := cell_old hA2 d2
        have hfz := foP_size k2
        have hcat : ¬ 9223372036854775807 < (foP k2).size + ba.size := by omega
        obtain ⟨nm, HNB⟩ : ∃ nm, Hid (nm = foP k2 ++ ba) := ⟨_, rfl⟩
        have HNM : Hid (nm = nmP k1 k2) := by unfold Hid; rw [nmP, unhide HBA]; exact unhide HNB
        have enb : foP k2 ++ ba = nm := (unhide HNB).symm
        clear hA2 HNB HBA hB hBI
        generalize foP k2 = fo at *
        go_upto_region 9 with fail
        clear hfo hcat enb hfz hbz
        generalize W.alloc (.cells #[.string ⟨#[]⟩, .string ⟨#[112, 47]⟩, .string ⟨#[113, 47, 114, 47]⟩, .string ⟨#[118, 101, 110, 100, 111, 114, 47]⟩] 9) = W at *
        by_cases h6 : s.size ≤ 600
        · have h6I : ¬ (600 : Int) < (s.size : Int) := by omega
          obtain ⟨d, HDD⟩ : ∃ d, Hid (d = s) := ⟨s, rfl⟩
          rw [← unhide HDD] at h6 h6I d2
          have hd : d.size ≤ 600 := h6
          clear HDD hs
          go_wp2_with fail
          clear d2
          go_loop [8, 9] (fun y x => ∃ (k : Nat) (bb : Bool), k ≤ T.length ∧ x = .int .i64 k ∧ y = .bool bb ∧ Hid (bb = false → ∀ j, j < k → (T.getD j ent0).nm ≠ nm)) (fun _ x => T.length - (intOf x).toNat)
          case atStart => exact ⟨0, false, by omega, rfl, rfl, fun _ j hj => by omega⟩
          case round =>
            obtain ⟨k, bb, hk, rfl, rfl, HNE⟩ := hrel
            by_cases hkl : k < T.length
            · have hklI : (k : Int) < (T.length : Int) := by omega
              obtain ⟨g, cq, hve, hent⟩ := (unhide HEW).slice (by omega)
              obtain ⟨_, e1, _, _⟩ := hent k hkl
              injection hve with hv1 hv2 hv3
              subst hv1 hv3
              clear hent hv2
              cases bb with
              | true =>
                clear e1
                go_wp2_with fail
                go_round
                case rel => exact ⟨k + 1, true, by omega, by go_num, rfl, fun h => by cases h⟩
                case measure => simp [intOf]; omega
              | false =>
                have HEQ := hide (eqS (T.getD k ent0).nm nm)
                have HN2 : Hid (decide ((T.getD k ent0).nm = nm) = false → ∀ j, j < k + 1 → (T.getD j ent0).nm ≠ nm) := fun h j hj => by
                  by_cases e : j = k
                  · rw [e]; exact of_decide_eq_false h
                  · exact unhide HNE rfl j (by omega)
                generalize (T.getD k ent0).nm = z at *
                have heq := unhide HEQ
                cases hdz : decide (z = nm) with
                | true =>
                  rw [hdz] at heq
                  go_wp2_with fail
                  go_round
                  case rel => exact ⟨k + 1, true, by omega, by go_num, rfl, fun h => by cases h⟩
                  case measure => simp [intOf]; omega
                | false =>
                  rw [hdz] at heq
                  have HN3 := hide (unhide HN2 hdz)
                  go_wp2_with fail
                  go_round
                  case rel => exact ⟨k + 1, false, by omega, by go_num, rfl, fun _ => unhide HN3⟩
                  case measure => simp [intOf]; omega
            · have hklI : ¬ (k : Int) < (T.length : Int) := by omega
              have hke : k = T.length := by omega
              subst hke
              cases bb with
              | true =>
                go_wp2_with fail
                go_roundw
                case rel => exact ⟨i + 1, T, by omega, by omega, by omega, by go_num, HOW, HMT, HEW, HUB⟩
                case measure => simp [intOf]; omega
              | false =>
                have HM2 : Hid (Made (T ++ [⟨nm, false, d⟩])) := by
                  have h := unhide HNE rfl
                  rw [unhide HNM] at h ⊢
                  exact (unhide HMT).snoc k1 k2 d hp1 hp2 hd h
                have hA4 : Old W (W.alloc (.cells #[.string nm, .bool false, .string d] 39)) := (Only.refl _ W).alloc _
                have HO5 := hide (Only.trans (unhide HOW) hA4)
                have HOWN : Hid ((W.alloc (.cells #[.string nm, .bool false, .string d] 39)).ownsRow 0 39 3 (.slice ao3 T.length cp3) T.length (enCells T)) := (unhide HEW).old hA4
                have HNW := hide (new_cells W [.string nm, .bool false, .string d] 39)
                have HSZ : Hid ((W.alloc (.cells #[.string nm, .bool false, .string d] 39)).heap.size = W.heap.size + 1) := by unfold Hid; rw [World.size_alloc]
                have HFN : Hid (∀ g2 cap2 w6, w6.ownsRow 0 39 3 (.slice (some ⟨g2, 0, none⟩) (T.length + 1) cap2) (T.length + 1) (enCells T ++ [.string nm, .bool false, .string d]) → (W.alloc (.cells #[.string nm, .bool false, .string d] 39)).grownBy w6 (Value.slice ao3 T.length cp3).ownBlock → ((Value.slice ao3 T.length cp3).ownBlock = some g2 ∨ g2 = W.heap.size + 1) → Old w w6 ∧ EntRow w6 (.slice (some ⟨g2, 0, none⟩) (T.length + 1) cap2) (T ++ [⟨nm, false, d⟩]) ∧ w.heap.size ≤ g2) := fun g2 cap2 w6 h1 h2 h3 => by
                  refine ⟨(unhide HO5).grown h2 (fun k hk e => absurd (unhide HUB k e) (by omega)), ?_, ?_⟩
                  · show w6.ownsRow 0 39 3 _ (T ++ [(⟨nm, false, d⟩ : Ent)]).length (enCells (T ++ [⟨nm, false, d⟩]))
                    rw [enCells_app, List.length_append]; exact h1
                  · rcases h3 with h | h
                    · exact unhide HUB g2 h
                    · have h4 := (unhide HO5).size
                      have h5 := unhide HSZ
                      omega
                have hT20 : T.length ≤ 20 := by omega
                clear hA4 HEW HO5
                go_wp2_with (at_builtin; refine wpList_append_lies _ rfl (.tmp 74) (.tmp 78) 40 rfl 0 39 i0 (.agg #[.string ⟨#[]⟩, .bool false, .string ⟨#[]⟩]) 3 40 Tryz.underlying40 hi0 hz0 hz1 hz2 rfl (by omega) (.slice ao3 T.length cp3) T.length (enCells T) rfl (unhide HOWN) ⟨W.heap.size, 0, none⟩ 1 1 [.string nm, .bool false, .string d] rfl rfl (unhide HNW) (by intro u hu; simp at hu; rcases hu with rfl | rfl | rfl <;> rfl) (by omega) (by unfold maxLen; omega) (by omega) (by omega) (W.heap.size + 1) (unhide HSZ) ?_; intro gb cap2 w6 ho6 hg6 hl6 hlt6; have HX := hide (unhide HFN gb cap2 w6 ho6 hg6 hl6); clear ho6 hg6 hl6 hlt6)
                go_roundw
                case rel => exact ⟨i + 1, T ++ [⟨nm, false, d⟩], by omega, by omega, by rw [List.length_append]; show T.length + 1 ≤ i + 1; omega, by go_num, hide (unhide HX).1, HM2, hide (unhide HX).2.1, fun b hb => by have e : gb = b := Option.some.inj (show some gb = some b from hb); subst e; exact (unhide HX).2.2⟩
                case measure => simp [intOf]; omega
        · have h6I : (600 : Int) < (s.size : Int) := by omega
          have hsl0 : ∀ W, (Instr.slice 9 (.string s) none (some (.int .i64 600)) none).run Tryz.prog W = .ok (.string (s.extract 0 600)) W := fun W => run_slice_string_h W 9 s Tryz.underlying9 .i64 600 (by omega) (by omega)
          have hd : (s.extract 0 600).size ≤ 600 := by rw [ByteArray.size_extract]; omega
          generalize s.extract 0 600 = d at *
          go_wp2_with fail
          clear d2 hsl0
          go_loop [8, 9] (fun y x => ∃ (k : Nat) (bb : Bool), k ≤ T.length ∧ x = .int .i64 k ∧ y = .bool bb ∧ Hid (bb = false → ∀ j, j < k → (T.getD j ent0).nm ≠ nm)) (fun _ x => T.length - (intOf x).toNat)
          case atStart => exact ⟨0, false, by omega, rfl, rfl, fun _ j hj => by omega⟩
          case round =>
            obtain ⟨k, bb, hk, rfl, rfl, HNE⟩ := hrel
            by_cases hkl : k < T.length
            · have hklI : (k : Int) < (T.length : Int) := by omega
              obtain ⟨g, cq, hve, hent⟩ := (unhide HEW).slice (by omega)
              obtain ⟨_, e1, _, _⟩ := hent k hkl
              injection hve with hv1 hv2 hv3
              subst hv1 hv3
              clear hent hv2
              cases bb with
              | true =>
                clear e1
                go_wp2_with fail
                go_round
                case rel => exact ⟨k + 1, true, by omega, by go_num, rfl, fun h => by cases h⟩
                case measure => simp [intOf]; omega
              | false =>
                have HEQ := hide (eqS (T.getD k ent0).nm nm)
                have HN2 : Hid (decide ((T.getD k ent0).nm = nm) = false → ∀ j, j < k + 1 → (T.getD j ent0).nm ≠ nm) := fun h j hj => by
                  by_cases e : j = k
                  · rw [e]; exact of_decide_eq_false h
                  · exact unhide HNE rfl j (by omega)
                generalize (T.getD k ent0).nm = z at *
                have heq := unhide HEQ
                cases hdz : decide (z = nm) with
                | true =>
                  rw [hdz] at heq
                  go_wp2_with fail
                  go_round
                  case rel => exact ⟨k + 1, true, by omega, by go_num, rfl, fun h => by cases h⟩
                  case measure => simp [intOf]; omega
                | false =>
                  rw [hdz] at heq
                  have HN3 := hide (unhide HN2 hdz)
                  go_wp2_with fail
                  go_round
                  case rel => exact ⟨k + 1, false, by omega, by go_num, rfl, fun _ => unhide HN3⟩
                  case measure => simp [intOf]; omega
            · have hklI : ¬ (k : Int) < (T.length : Int) := by omega
              have hke : k = T.length := by omega
              subst hke
              cases bb with
              | true =>
                go_wp2_with fail
                go_roundw
                case rel => exact ⟨i + 1, T, by omega, by omega, by omega, by go_num, HOW, HMT, HEW, HUB⟩
                case measure => simp [intOf]; omega
              | false =>
                have HM2 : Hid (Made (T ++ [⟨nm, false, d⟩])) := by
                  have h := unhide HNE rfl
                  rw [unhide HNM] at h ⊢
                  exact (unhide HMT).snoc k1 k2 d hp1 hp2 hd h
                have hA4 : Old W (W.alloc (.cells #[.string nm, .bool false, .string d] 39)) := (Only.refl _ W).alloc _
                have HO5 := hide (Only.trans (unhide HOW) hA4)
                have HOWN : Hid ((W.alloc (.cells #[.string nm, .bool false, .string d] 39)).ownsRow 0 39 3 (.slice ao3 T.length cp3) T.length (enCells T)) := (unhide HEW).old hA4
                have HNW := hide (new_cells W [.string nm, .bool false, .string d] 39)
                have HSZ : Hid ((W.alloc (.cells #[.string nm, .bool false, .string d] 39)).heap.size = W.heap.size + 1) := by unfold Hid; rw [World.size_alloc]
                have HFN : Hid (∀ g2 cap2 w6, w6.ownsRow 0 39 3 (.slice (some ⟨g2, 0, none⟩) (T.length + 1) cap2) (T.length + 1) (enCells T ++ [.string nm, .bool false, .string d]) → (W.alloc (.cells #[.string nm, .bool false, .string d] 39)).grownBy w6 (Value.slice ao3 T.length cp3).ownBlock → ((Value.slice ao3 T.length cp3).ownBlock = some g2 ∨ g2 = W.heap.size + 1) → Old w w6 ∧ EntRow w6 (.slice (some ⟨g2, 0, none⟩) (T.length + 1) cap2) (T ++ [⟨nm, false, d⟩]) ∧ w.heap.size ≤ g2) := fun g2 cap2 w6 h1 h2 h3 => by
                  refine ⟨(unhide HO5).grown h2 (fun k hk e => absurd (unhide HUB k e) (by omega)), ?_, ?_⟩
                  · show w6.ownsRow 0 39 3 _ (T ++ [(⟨nm, false, d⟩ : Ent)]).length (enCells (T ++ [⟨nm, false, d⟩]))
                    rw [enCells_app, List.length_append]; exact h1
                  · rcases h3 with h | h
                    · exact unhide HUB g2 h
                    · have h4 := (unhide HO5).size
                      have h5 := unhide HSZ
                      omega
                have hT20 : T.length ≤ 20 := by omega
                clear hA4 HEW HO5
                go_wp2_with (at_builtin; refine wpList_append_lies _ rfl (.tmp 74) (.tmp 78) 40 rfl 0 39 i0 (.agg #[.string ⟨#[]⟩, .bool false, .string ⟨#[]⟩]) 3 40 Tryz.underlying40 hi0 hz0 hz1 hz2 rfl (by omega) (.slice ao3 T.length cp3) T.length (enCells T) rfl (unhide HOWN) ⟨W.heap.size, 0, none⟩ 1 1 [.string nm, .bool false, .string d] rfl rfl (unhide HNW) (by intro u hu; simp at hu; rcases hu with rfl | rfl | rfl <;> rfl) (by omega) (by unfold maxLen; omega) (by omega) (by omega) (W.heap.size + 1) (unhide HSZ) ?_; intro gb cap2 w6 ho6 hg6 hl6 hlt6; have HX := hide (unhide HFN gb cap2 w6 ho6 hg6 hl6); clear ho6 hg6 hl6 hlt6)
                go_roundw
                case rel => exact ⟨i + 1, T ++ [⟨nm, false, d⟩], by omega, by omega, by rw [List.length_append]; show T.length + 1 ≤ i + 1; omega, by go_num, hide (unhide HX).1, HM2, hide (unhide HX).2.1, fun b hb => by have e : gb = b := Option.some.inj (show some gb = some b from hb); subst e; exact (unhide HX).2.2⟩
                case measure => simp [intOf]; omega
    · have HTL : Hid (T.length ≤ 20) := by unfold Hid; omega
      by_cases h1 : i < n
      · have h1I : (i : Int) < (n : Int) := by omega
        have h2I : ¬ (i : Int) < 20 := by omega
        go_wp2_with fail
        go_ret
        exact ⟨_, rfl, HO1, T, HEN, HMT, HTL, HUB⟩
      · have h1I : ¬ (i : Int) < (n : Int) := by omega
        go_wp2_with fail
        go_ret
        exact ⟨_, rfl, HO1, T, HEN, HMT, HTL, HUB⟩
end Go.Proofs.YtndfmgdhiallpaaGreatDoor
namespace Go.Proofs.YtndfmgdhiallpaaGreatDoor
open Go.RowKit Go.Maps

theorem addb (a : Addr) (j : Nat) : (a.add j).block = a.block := by unfold Addr.add; split <;> rfl
/-- A slice value that shows these entries. -/
def ShowsE (w : World) (x : Value) (U : List Ent) : Prop :=
  ∃ (ao : Option Addr) (c : Nat), x = .slice ao U.length c ∧ (ao = none → U = []) ∧ ∀ a, ao = some a → ∀ j u, (enCells U)[j]? = some u → w.cell? (a.add j) = some u
theorem ShowsE.old {w w' : World} {x : Value} {U : List Ent} (h : ShowsE w x U) (ho : Old w w') : ShowsE w' x U := by
  obtain ⟨ao, c, h1, h2, h3⟩ := h
  exact ⟨ao, c, h1, h2, fun a e j u hu => cell_old ho (h3 a e j u hu)⟩
theorem EntRow.shows {w : World} {v : Value} {T : List Ent} (h : EntRow w v T) : ShowsE w v T := by
  have h' := h
  obtain ⟨hl, ⟨rfl, hz⟩ | ⟨g, cap, cur, rfl, h1, hg, hr⟩⟩ := h
  · have : T = [] := List.length_eq_zero_iff.1 hz
    subst this
    exact ⟨none, 0, rfl, fun _ => rfl, fun a e => by cases e⟩
  · refine ⟨some ⟨g, 0, none⟩, cap, rfl, (fun e => by cases e), fun a e j u hu => ?_⟩
    injection e with e
    subst e
    exact World.ownsRow.cells h' rfl j u hu
theorem enCells_one (T : List Ent) : ∀ u ∈ enCells T, u.oneCell' = true := by
  intro u hu
  obtain ⟨e, _, he⟩ := List.mem_flatMap.1 hu
  simp at he
  rcases he with rfl | rfl | rfl <;> rfl
theorem run_append_ent {w : World} {v : Value} {T : List Ent} (h : EntRow w v T) {x : Value} {U : List Ent} (hx : ShowsE w x U) (ty : TypeId) (hb : (T.length + U.length) * 40 ≤ 140737488355328) :
    ∃ v' w', (Builtin.append_ #[40, 40] ty #[v, x]).run Tryz.prog w = .ok v' w' ∧ EntRow w' v' (T ++ U) ∧ w.grownBy w' v.ownBlock ∧ (v'.ownBlock = v.ownBlock ∨ ∀ k, v'.ownBlock = some k → w.heap.size ≤ k) := by
  obtain ⟨i, hi, hz0, hz1, hz2⟩ := info_parts infoE3
  obtain ⟨ao, c, rfl, hn, hc⟩ := hx
  by_cases hU : U = []
  · subst hU
    refine ⟨v, w, ?_, by rw [List.append_nil]; exact h, ⟨rfl, rfl, rfl, Nat.le_refl _, fun _ _ _ => rfl⟩, .inl rfl⟩
    obtain ⟨hl, ⟨rfl, hz⟩ | ⟨g, cap, cur, rfl, h1, hg, h2, hr⟩⟩ := h
    · cases ao <;> simp [Builtin.append_, run_underlying Tryz.underlying40, sizeOf, typeInfo, hi, Builtin.lenOf, Builtin.firstCells, loadCells, loadCellsFrom]
    · cases ao <;> simp [Builtin.append_, run_underlying Tryz.underlying40, sizeOf, typeInfo, hi, Builtin.lenOf, Builtin.firstCells, h2, storeCells, loadCells, loadCellsFrom]
  · cases ao with
    | none => exact absurd (hn rfl) hU
    | some a =>
      obtain ⟨g, cap, w', h1, h2, h3, h4, h5⟩ := run_append_lies (P := Tryz.prog) (w := w) 40 ty 0 39 i (.agg #[.string ⟨#[]⟩, .bool false, .string ⟨#[]⟩]) 3 40 Tryz.underlying40 hi hz0 hz1 hz2 rfl (by omega) v T.length (enCells T) h a U.length c (enCells U) (enCells_len U) (hc a rfl) (enCells_one U) (List.length_pos_iff.2 hU) (by unfold maxLen; omega) hb (Nat.zero_le _) w.heap.size rfl
      refine ⟨_, w', h1, ?_, h3, ?_⟩
      · show w'.ownsRow 0 39 3 _ (T ++ U).length (enCells (T ++ U))
        rw [enCells_app, List.length_append]; exact h2
      · rcases h4 with h4 | h4
        · exact .inl h4.symm
        · refine .inr fun k hk => ?_
          have e : g = k := Option.some.inj (show some g = some k from hk)
          omega
theorem wpList_append_ent {w : World} {ops : Array Oper} {rest : List Oper} {o : Oper} {a : Act} {Q : Exit → Act → World → Prop} (hgd : o.guard = none) (s x : Operand)
    (ho : o.op = .call { callee := .builtin .append, args := #[s, x], argTypes := #[40, 40] })
    (v xv : Value) (ts us : List Ent) (hs : a.eval s = v) (hx : a.eval x = xv) (h : EntRow w v ts) (hsh : ShowsE w xv us) (hb : (ts.length + us.length) * 40 ≤ 140737488355328)
    (hK : ∀ v' w', EntRow w' v' (ts ++ us) → w.grownBy w' v.ownBlock → (v'.ownBlock = v.ownBlock ∨ ∀ k, v'.ownBlock = some k → w.heap.size ≤ k) → wpList Tryz.prog ops Q rest (a.put o.dst v') w') :
    wpList Tryz.prog ops Q (o :: rest) a w := by
  refine wpList_plain hgd fun K hK' => ?_
  obtain ⟨v', w', hrun, h1, h2, h3⟩ := run_append_ent h hsh o.type hb
  unfold Oper.wp
  simp [execOp, ho, resolve, invoke, builtin, hs, hx, hrun, Result.andThen]
  exact hK' _ _ (hK v' w' h1 h2 h3)
theorem enCells_take (T : List Ent) (k : Nat) (hk : k ≤ T.length) : enCells (T.take k) = (enCells T).take (k * 3) := by
  have h : enCells T = enCells (T.take k) ++ enCells (T.drop k) := by rw [← enCells_app, List.take_append_drop]
  have h2 : (enCells (T.take k)).length = k * 3 := by rw [enCells_len, List.length_take, Nat.min_eq_left hk]
  rw [h, ← h2, List.take_left]
theorem enCells_drop (T : List Ent) (k : Nat) (hk : k ≤ T.length) : enCells (T.drop k) = (enCells T).drop (k * 3) := by
  have h : enCells T = enCells (T.take k) ++ enCells (T.drop k) := by rw [← enCells_app, List.take_append_drop]
  have h2 : (enCells (T.take k)).length = k * 3 := by rw [enCells_len, List.length_take, Nat.min_eq_left hk]
  rw [h, ← h2, List.drop_left]
theorem size_entry (w : World) : (sizeOf (Tryz.prog.elem 40)).run Tryz.prog w = .ok 3 w := by
  obtain ⟨i, hi, hz0, hz1, hz2⟩ := info_parts infoE3
  have he : Tryz.prog.elem 40 = 39 := by kernel_rfl
  rw [he]
  simp [sizeOf, typeInfo, hi, hz1]
theorem under_entries : Tryz.prog.underlying 40 = some (.slice (Tryz.prog.elem 40)) := by
  have he : Tryz.prog.elem 40 = 39 := by kernel_rfl
  rw [he]; exact Tryz.underlying40
/-- The cuts of such a row. -/
theorem EntRow.low {w : World} {v : Value} {T : List Ent} (h : EntRow w v T) (k : Nat) (hk : k ≤ T.length) : ∃ x, (∀ W, (Instr.slice 40 v none (some (.int .i64 (k : Int))) none).run Tryz.prog W = .ok x W) ∧ ShowsE w x (T.take k) ∧ (∀ b, x.ownBlock = some b → v.ownBlock = some b) := by
  obtain ⟨ao, cap, rfl, hn, hc⟩ := h.shows
  have hcap : T.length ≤ cap := by
    obtain ⟨_, ⟨e, hz⟩ | ⟨g, cap', cur, e, _, _, hle, _⟩⟩ := h
    · omega
    · injection e with _ _ e3; omega
  refine ⟨.slice (if cap = 0 then ao else ao.map (·.add (0 * 3))) (k - 0) (cap - 0), fun W => ?_, ?_, ?_⟩
  · rw [run_slice_h W 40 ao T.length cap under_entries .i64 (k : Int) (by omega) (by omega), size_entry]
    simp [Result.andThen, sliced]
  · have e : (if cap = 0 then ao else ao.map (·.add (0 * 3))) = ao := by
      cases ao <;> simp [Addr.add]
    rw [e]
    refine ⟨ao, cap - 0, by rw [List.length_take, Nat.min_eq_left hk]; rfl, fun e => by rw [hn e]; simp, fun a ea j u hu => ?_⟩
    rw [enCells_take T k hk] at hu
    refine hc a ea j u ?_
    rw [List.getElem?_take] at hu
    split at hu
    · exact hu
    · cases hu
  · intro b hb
    cases ao with
    | none => simp [Value.ownBlock] at hb
    | some a => simpa [Value.ownBlock, Addr.add] using hb
theorem EntRow.high {w : World} {v : Value} {T : List Ent} (h : EntRow w v T) (k : Nat) (hk : k ≤ T.length) : ∃ x, (∀ W, (Instr.slice 40 v (some (.int .i64 (k : Int))) none none).run Tryz.prog W = .ok x W) ∧ ShowsE w x (T.drop k) ∧ (∀ b, x.ownBlock = some b → v.ownBlock = some b) := by
  obtain ⟨ao, cap, rfl, hn, hc⟩ := h.shows
  have hcap : T.length ≤ cap := by
    obtain ⟨_, ⟨e, hz⟩ | ⟨g, cap', cur, e, _, _, hle, _⟩⟩ := h
    · omega
    · injection e with _ _ e3; omega
  refine ⟨.slice (if cap = k then ao else ao.map (·.add (k * 3))) (T.length - k) (cap - k), fun W => ?_, ?_, ?_⟩
  · rw [run_slice_l W 40 ao T.length cap under_entries .i64 (k : Int) (by omega) (by omega), size_entry]
    simp [Result.andThen, sliced]
  · refine ⟨if cap = k then ao else ao.map (·.add (k * 3)), cap - k, by rw [List.length_drop], fun e => ?_, fun a ea j u hu => ?_⟩
    · split at e
      · rw [hn e]; simp
      · cases ao with
        | none => rw [hn rfl]; simp
        | some a => cases e
    · rw [enCells_drop T k hk, List.getElem?_drop] at hu
      split at ea
      · have h1 : k = T.length := by omega
        rw [List.getElem?_eq_none (by rw [enCells_len]; omega)] at hu
        cases hu
      · cases ao with
        | none => cases ea
        | some a0 =>
          injection ea with ea
          rw [← ea, Addr.add_add]
          exact hc a0 rfl _ _ hu
  · intro b hb
    cases ao with
    | none => simp [Value.ownBlock] at hb
    | some a =>
      by_cases e : cap = k
      · simpa [Value.ownBlock, e] using hb
      · have hb2 : some (a.add (k * 3)).block = some b := by simpa [Value.ownBlock, e] using hb
        rw [addb] at hb2; exact hb2
end Go.Proofs.YtndfmgdhiallpaaGreatDoor
namespace Go.Proofs.YtndfmgdhiallpaaGreatDoor
open Go.RowKit Go.Maps

theorem step_ent {w0 w w' : World} {v v' : Value} (ho : Old w0 w) (hv : ∀ b, v.ownBlock = some b → w0.heap.size ≤ b) (hg : w.grownBy w' v.ownBlock) (hb : v'.ownBlock = v.ownBlock ∨ ∀ k, v'.ownBlock = some k → w.heap.size ≤ k) : Old w0 w' ∧ ∀ b, v'.ownBlock = some b → w0.heap.size ≤ b := by
  refine ⟨ho.grown hg (fun k hk e => absurd (hv k e) (by omega)), fun b h => ?_⟩
  rcases hb with hb | hb
  · exact hv b (by rw [← hb]; exact h)
  · exact Nat.le_trans ho.size (hb b h)
theorem getD_lt {R : List Ent} {j : Nat} (h : j < R.length) : R.getD j ent0 = R[j] := by rw [List.getD_eq_getElem?_getD, List.getElem?_eq_getElem h]; rfl
end Go.Proofs.YtndfmgdhiallpaaGreatDoor
namespace Go.Proofs.YtndfmgdhiallpaaGreatDoor
open Go.RowKit Go.Maps

def foL : List ByteArray := [⟨#[112]⟩, ⟨#[113]⟩, ⟨#[113, 47, 114]⟩, ⟨#[118, 101, 110, 100, 111, 114]⟩]
def nmOk (s : ByteArray) : Bool := fileP s && !(othB s) && decide (600 ≤ mostP s) && !(memL foL s) && decide (s.size ≤ 12) && (begP s).all (fun b => (decide (b = s) || memL foL b) && decide (lowP b = b))
/-- What was met. -/
def Inv (f : Tab) (N : List ByteArray) : Prop := ∀ r, f r = none ∨ (f r = some (r, true) ∧ r ∈ N) ∨ (f r = some (r, false) ∧ memL foL r = true)
theorem Inv.nil : Inv (fun _ => none) [] := fun _ => .inl rfl
theorem nmOk_facts {s : ByteArray} (h : nmOk s = true) : fileP s = true ∧ othB s = false ∧ 600 ≤ mostP s ∧ memL foL s = false ∧ s.size ≤ 12 ∧ ∀ b ∈ begP s, (b = s ∨ memL foL b = true) ∧ lowP b = b := by
  unfold nmOk at h
  simp only [Bool.and_eq_true, Bool.not_eq_true', decide_eq_true_eq] at h
  obtain ⟨⟨⟨⟨⟨h1, h2⟩, h3⟩, h4⟩, h5⟩, h6⟩ := h
  refine ⟨h1, h2, h3, h4, h5, fun b hb => ?_⟩
  have h7 := List.all_eq_true.1 h6 b hb
  simp only [Bool.and_eq_true, Bool.or_eq_true, decide_eq_true_eq] at h7
  exact h7
theorem Inv.clash {f : Tab} {N : List ByteArray} (h : Inv f N) {s : ByteArray} (hs : nmOk s = true) (hN : ∀ r ∈ N, nmOk r = true) (hsn : s ∉ N) : clashP f s = false := by
  obtain ⟨_, _, _, h4, _, h6⟩ := nmOk_facts hs
  unfold clashP
  rw [List.any_eq_false]
  intro b hb
  obtain ⟨h7, h8⟩ := h6 b hb
  unfold clashB
  rw [h8]
  rcases h b with e | ⟨e, hm⟩ | ⟨e, hm⟩
  · rw [e]; simp
  · exfalso
    rcases h7 with h7 | h7
    · rw [h7] at hm; exact hsn hm
    · have := (nmOk_facts (hN b hm)).2.2.2.1
      rw [this] at h7; cases h7
  · rw [e]
    have hne : b ≠ s := by
      intro e2
      rw [e2, h4] at hm; cases hm
    simp [hne]
theorem Inv.add {f : Tab} {N : List ByteArray} (h : Inv f N) {s : ByteArray} (hs : nmOk s = true) : Inv (addP f s) (N ++ [s]) := by
  obtain ⟨_, _, _, _, _, h6⟩ := nmOk_facts hs
  unfold addP
  have key : ∀ (l : List ByteArray) (g : Tab), (∀ b ∈ l, (b = s ∨ memL foL b = true) ∧ lowP b = b) → (∀ r, g r = none ∨ (g r = some (r, true) ∧ r ∈ N ++ [s]) ∨ (g r = some (r, false) ∧ memL foL r = true)) → Inv (l.foldl (fun f b => putT f (lowP b) (b, decide (b = s))) g) (N ++ [s]) := by
    intro l
    induction l with
    | nil => intro g _ hg; exact hg
    | cons b l ih =>
      intro g hl hg
      rw [List.foldl_cons]
      obtain ⟨hb, hlb⟩ := hl b (List.mem_cons_self ..)
      refine ih _ (fun c hc => hl c (List.mem_cons_of_mem _ hc)) ?_
      rw [hlb]
      intro r
      unfold putT
      by_cases e : r = b
      · rw [if_pos e]
        right
        by_cases e2 : b = s
        · left
          rw [e, decide_eq_true e2, e2]
          exact ⟨rfl, List.mem_append.2 (.inr (List.mem_singleton.2 rfl))⟩
        · right
          rw [e, decide_eq_false e2]
          rcases hb with hb | hb
          · exact absurd hb e2
          · exact ⟨rfl, hb⟩
      · rw [if_neg e]; exact hg r
  refine key (begP s) f h6 (fun r => ?_)
  rcases h r with h | ⟨h, hm⟩ | h
  · exact .inl h
  · exact .inr (.inl ⟨h, List.mem_append.2 (.inl hm)⟩)
  · exact .inr (.inr h)
end Go.Proofs.YtndfmgdhiallpaaGreatDoor
namespace Go.Proofs.YtndfmgdhiallpaaGreatDoor
open Go.RowKit Go.Maps

end Go.Proofs.YtndfmgdhiallpaaGreatDoor
