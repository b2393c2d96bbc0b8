/- Contracts of package disk: Copy. -/
import Derived.Test.YtndfmgdhiallpaaDk
namespace Go.Proofs.Ytndfmgdhiallpaa
open Go.RowKit

theorem Thg.shows {w : World} {v : Value} {ts : List Th} (h : Thg w v ts) : Shows w v ts := by
  rcases h with ⟨rfl, rfl⟩ | ⟨g, cap, cur, rfl, hg, h1, h2, h3, h4⟩
  · exact ⟨none, 0, rfl, fun _ => rfl, fun a ha => by cases ha⟩
  · refine ⟨_, cap, rfl, fun h => (by cases h), ?_⟩
    intro a ha j u hu
    cases ha
    have hj : j < (flat ts).length := (List.getElem?_eq_some_iff.1 hu).1
    rw [flat_length] at hj
    rw [Addr.add_lit, Nat.zero_add, cell_of_row w g j cur 41 (0, 0) hg]
    rw [← h4, List.getElem?_take, if_pos hj] at hu
    simpa using hu

theorem Thg.drewN {w : World} {v : Value} {ts : List Th} (h : Thg w v ts) (n : Nat) : Thg (w.drewN n) v ts := h
theorem Thg.form {w : World} {v : Value} {ts : List Th} (h : Thg w v ts) : ∃ ao cap, v = .slice ao ts.length cap := by
  rcases h with ⟨rfl, rfl⟩ | ⟨g, cap, cur, rfl, _⟩
  · exact ⟨none, 0, rfl⟩
  · exact ⟨_, cap, rfl⟩

set_option maxHeartbeats 400000 in
theorem copy_disk {w : World} {b : Nat} {v : Value} {D : Dsk} (h : DiskAt w b v D) (hm : D.ts.length ≤ 1000000000000) :
    Calls Try.prog 13 #[.pointer (some ⟨b, 0, none⟩)] w fun e w' => ∃ b' v', e = .returned (.pointer (some ⟨b', 0, none⟩)) ∧ w.heap.size ≤ b' ∧ DiskAt w' b' v' ⟨D.ts, -1, -1, 0, false⟩ ∧ (∀ k, v'.ownBlock = some k → w.heap.size ≤ k) ∧ Only (fun _ => False) w w' := by
  have hc := h.cells.1
  have HS := hide h.2.1.shows
  clear h
  go_enter Try.func13, Try.ntmps13
  go_wp2_with (at_builtin; refine wpList_append_thg rfl (.const (.slice none 0 0)) (.tmp 6) rfl (.slice none 0 0) _ [] D.ts rfl rfl (Thg.nil _) (unhide HS) (by simp; omega) ?_; intro v' w1 hth hgr hown; obtain ⟨ao, cap, hf⟩ := hth.form; subst hf; have HT := hide hth; have HG := hide hgr; have HW := hide hown; clear hth hgr hown)
  go_ret
  have hO : Only (fun _ => False) w w1 := (Only.refl _ w).grown (unhide HG) (fun k _ e => by cases e)
  have hth := unhide HT
  have hlt := hth.lt
  have hown : ∀ k, (Value.slice ao ([] ++ D.ts).length cap).ownBlock = some k → w.heap.size ≤ k := by
    rcases unhide HW with e | e
    · intro k hk; rw [e] at hk; cases hk
    · exact e
  refine ⟨w1.heap.size, .slice ao D.ts.length cap, rfl, hO.size, ⟨Go.heap_alloc_new w1 _, hth.kept ((Only.refl (fun _ => False) w1).alloc _) (fun _ _ x => x), fun e => ?_⟩, hown, hO.alloc _⟩
  exact absurd (hlt _ e) (Nat.lt_irrefl _)
end Go.Proofs.Ytndfmgdhiallpaa
