/- Laws for a slice of things: append and copy. -/
import Derived.Test.YtndfmgdhiallpaaDg
import Derived.Deep.RegionLaw
namespace Go.Proofs.Ytndfmgdhiallpaa
open Go.RowKit

theorem info41 : (Try.prog.info? 41).map (fun i => (i.zero, i.size, i.bytes)) = some (some (.agg #[.string ⟨#[]⟩, .bool false, .string ⟨#[]⟩]), 3, 40) := by kernel_rfl

theorem flat_one (ts : List Th) : ∀ u ∈ flat ts, u.oneCell' = true := by
  induction ts with
  | nil => intro u h; simp [flat] at h
  | cons t r ih =>
    intro u h
    simp only [flat, List.mem_cons] at h
    rcases h with rfl | rfl | rfl | h
    · rfl
    · rfl
    · rfl
    · exact ih u h

/-- The source of an append or a copy: a slice value that shows these things. -/
def Shows (w : World) (x : Value) (us : List Th) : Prop :=
  ∃ (ao : Option Addr) (c : Nat), x = .slice ao us.length c ∧ (ao = none → us = []) ∧ ∀ a, ao = some a → ∀ j u, (flat us)[j]? = some u → w.cell? (a.add j) = some u

theorem run_append_thg {w : World} {v : Value} {ts : List Th} (h : Thg w v ts) {x : Value} {us : List Th} (hx : Shows w x us) (ty : TypeId) (hb : (ts.length + us.length) * 40 ≤ 140737488355328) :
    ∃ v' w', (Builtin.append_ #[36, 36] ty #[v, x]).run Try.prog w = .ok v' w' ∧ Thg w' v' (ts ++ us) ∧ w.grownBy w' v.ownBlock ∧ (v'.ownBlock = v.ownBlock ∨ ∀ k, v'.ownBlock = some k → w.heap.size ≤ k) := by
  obtain ⟨i, hi, hz0, hz1, hz2⟩ := info_parts info41
  obtain ⟨ao, c, rfl, hn, hc⟩ := hx
  have hfl := flat_length us
  have hft := flat_length ts
  have h63 : ts.length + us.length ≤ maxLen := by unfold maxLen; omega
  cases ao with
  | none =>
    obtain rfl := hn rfl
    refine ⟨v, w, ?_, by simpa using h, World.grownBy.refl _ _, .inl rfl⟩
    rcases h with ⟨rfl, rfl⟩ | ⟨g, cap, cur, rfl, hg, h1, h2, h3, h4⟩
    · simp [Builtin.append_, run_underlying Try.underlying36, sizeOf, typeInfo, hi, Builtin.lenOf, Builtin.firstCells]
    · simp [Builtin.append_, run_underlying Try.underlying36, sizeOf, typeInfo, hi, Builtin.lenOf, Builtin.firstCells, h1, storeCells]
  | some a =>
    have hnews := hc a rfl
    have grown : ∀ (old : Nat), old < ts.length + us.length → ∀ (row : Option Nat),
        Thg (w.drew.alloc (.cells ((flat ts).toArray ++ (flat us).toArray ++ Builtin.zeroCells (Value.agg #[.string ⟨#[]⟩, .bool false, .string ⟨#[]⟩]).cells (grownCap w (ts.length + us.length) old 41 - (ts.length + us.length))) 41))
          (.slice (some ⟨w.heap.size, 0, none⟩) (ts.length + us.length) (grownCap w (ts.length + us.length) old 41)) (ts ++ us) ∧
        w.grownBy (w.drew.alloc (.cells ((flat ts).toArray ++ (flat us).toArray ++ Builtin.zeroCells (Value.agg #[.string ⟨#[]⟩, .bool false, .string ⟨#[]⟩]).cells (grownCap w (ts.length + us.length) old 41 - (ts.length + us.length))) 41)) row := by
      intro old ho row
      have hge := grownCap_ge w (ts.length + us.length) old 41
      have hcm : grownCap w (ts.length + us.length) old 41 ≤ maxLen := grownCap_le_maxLen w (ts.length + us.length) old 41 h63
      refine ⟨.inr ⟨w.heap.size, _, _, by simp, Go.heap_alloc_new w.drew _, by simpa using hge, hcm, ?_, ?_⟩, ⟨rfl, rfl, rfl, by simp, fun k hk _ => Below.heap_alloc w.drew _ k hk⟩⟩
      · simp only [Array.size_append, List.size_toArray, size_zeroCells, hfl, hft]
        simp only [Value.cells, List.size_toArray, List.length_cons, List.length_nil]
        omega
      · simp only [Array.toList_append, List.append_assoc, flat_append]
        rw [← List.append_assoc]
        have : (ts ++ us).length * 3 = (flat ts ++ flat us).length := by simp [hfl, hft]; omega
        rw [this]
        exact List.take_left
    rcases h with ⟨rfl, rfl⟩ | ⟨g, cap, cur, rfl, hg, h1, h2, h3, h4⟩
    · by_cases hm : us = []
      · subst hm
        refine ⟨.slice none 0 0, w, ?_, Thg.nil w, ⟨rfl, rfl, rfl, Nat.le_refl _, fun _ _ _ => rfl⟩, .inl rfl⟩
        simp [Builtin.append_, run_underlying Try.underlying36, sizeOf, typeInfo, hi, Builtin.lenOf, Builtin.firstCells, loadCells, loadCellsFrom]
      · have hpos : 0 < us.length := List.length_pos_iff.2 hm
        have hr := run_append_nil (P := Try.prog) w 36 ty 41 i _ Try.underlying36 hi hz0 a us.length c (flat us) (by rw [hfl, hz1]) hnews hpos (by simp at hb; omega) (by rw [hz2]; simp at hb; omega)
        have hgr := grown 0 (by simp; omega) (Value.ownBlock (.slice none 0 0))
        simp only [flat, List.length_nil, Nat.zero_add, List.nil_append, Array.empty_append] at hgr ⊢
        exact ⟨_, _, hr, hgr.1, hgr.2, .inr (fun k hk => by simp [Value.ownBlock] at hk; omega)⟩
    · by_cases hroom : ts.length + us.length ≤ cap
      · have hfit : ts.length * i.size + (flat us).length ≤ cur.size := by rw [hfl, hz1]; omega
        have hr := run_append_room (P := Try.prog) w 36 ty 41 i Try.underlying36 hi g ts.length cap cur hg a us.length c (flat us) (by rw [hfl, hz1]) hnews (flat_one us) hroom hfit
        refine ⟨_, _, hr, .inr ⟨g, cap, _, by simp, setRow_heap w g cur _ 41 _ hg, by simpa using hroom, h2, ?_, ?_⟩, ⟨rfl, rfl, rfl, by simp, fun k _ hk => setRow_other w g k _ (fun e => hk (by simp [Value.ownBlock, e]))⟩, .inl rfl⟩
        · simp only [List.size_toArray, List.length_append, List.length_take, List.length_drop, Array.length_toList]
          omega
        · rw [hz1, h4, flat_append]
          have : (ts ++ us).length * 3 = (flat ts ++ flat us).length := by simp [hfl, hft]; omega
          rw [this]
          exact List.take_left
      · have holds : ∀ j u, (flat ts)[j]? = some u → w.cell? ((⟨g, 0, none⟩ : Addr).add j) = some u := by
          intro j u hu
          have hj : j < (flat ts).length := (List.getElem?_eq_some_iff.1 hu).1
          rw [Addr.add_lit, Nat.zero_add, cell_of_row w g j cur 41 (0, 0) hg]
          rw [← h4, List.getElem?_take, if_pos (by omega)] at hu
          simpa using hu
        have hr := run_append_grow (P := Try.prog) w 36 ty 41 i _ Try.underlying36 hi hz0 ⟨g, 0, none⟩ ts.length cap (flat ts) (by rw [hft, hz1]) holds a us.length c (flat us) (by rw [hfl, hz1]) hnews (by omega) (by omega) (growslice_fits (by omega) (by rw [hz2]; exact hb))
        have hgr := grown cap (by omega) (Value.ownBlock (.slice (some ⟨g, 0, none⟩) ts.length cap))
        exact ⟨_, _, hr, hgr.1, hgr.2, .inr (fun k hk => by simp [Value.ownBlock] at hk; omega)⟩
end Go.Proofs.Ytndfmgdhiallpaa
