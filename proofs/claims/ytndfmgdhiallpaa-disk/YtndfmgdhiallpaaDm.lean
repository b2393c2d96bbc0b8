/- Contracts of package disk: Remove. -/
import Derived.Test.YtndfmgdhiallpaaDl
import Derived.BigRegion
namespace Go.Proofs.Ytndfmgdhiallpaa
open Go.RowKit

def inB (p : ByteArray) (t : Th) : Bool := !(t.p.toList == p.toList) && withinB t.p p
def hasIn (ts : List Th) (p : ByteArray) : Bool := ts.any (inB p)
def removeOf (D : Dsk) (p : ByteArray) : Int × Dsk :=
  if goes D then
    (if isAt D.ts p then
      (if hasIn D.ts p then (2, stepped D)
       else (0, { stepped D with ts := D.ts.take (low D.ts p) ++ D.ts.drop (low D.ts p + 1), room := if 0 ≤ D.room then wrap64 (D.room + (nth D.ts (low D.ts p)).d.size) else D.room }))
     else (1, stepped D))
  else (4, stepped D)

theorem any_take_succ {ts : List Th} {f : Th → Bool} {k : Nat} (h : k < ts.length) (h0 : (ts.take k).any f = false) : (ts.take (k + 1)).any f = f (nth ts k) := by
  rw [take_snoc_nth ts k h, List.any_append, h0]; simp

theorem any_of_take {ts : List Th} {f : Th → Bool} {k : Nat} (h : k < ts.length) (h1 : f (nth ts k) = true) : ts.any f = true := by
  refine List.any_eq_true.2 ⟨nth ts k, ?_, h1⟩
  simp [nth, h]

theorem DiskAt.row {w : World} {b g n cap : Nat} {D : Dsk} (h : DiskAt w b (.slice (some ⟨g, 0, none⟩) n cap) D) : ∃ cur, w.heap[g]? = some (.cells cur 41 (0, 0)) ∧ D.ts.length ≤ cap ∧ cap ≤ maxLen ∧ cap * 3 ≤ cur.size ∧ cur.toList.take (D.ts.length * 3) = flat D.ts := by
  rcases h.2.1 with ⟨h, _⟩ | ⟨g', cap', cur, h, r⟩
  · cases h
  · simp only [Value.slice.injEq, Option.some.injEq, Addr.mk.injEq, and_true] at h
    obtain ⟨rfl, _, rfl⟩ := h
    exact ⟨cur, r⟩

theorem thg_cut {w : World} {g cap k : Nat} {cur : Array Value} {ts : List Th} (hg : w.heap[g]? = some (.cells cur 41 (0, 0))) (hc : ts.length ≤ cap) (hm : cap ≤ maxLen) (hs : cap * 3 ≤ cur.size) (hrow : cur.toList.take (ts.length * 3) = flat ts) (hk : k ≤ ts.length) :
    Thg w (.slice (some ⟨g, 0, none⟩) k k) (ts.take k) := by
  have hl : (ts.take k).length = k := by simp; omega
  refine .inr ⟨g, k, cur, by rw [hl], hg, by rw [hl]; exact Nat.le_refl _, by omega, by omega, ?_⟩
  rw [hl, flat_take, ← hrow, List.take_take]
  congr 1; omega

theorem shows_tail {w : World} {g k c n : Nat} {cur : Array Value} {ts : List Th} {dp : Option Addr} (hg : w.heap[g]? = some (.cells cur 41 (0, 0))) (hrow : cur.toList.take (ts.length * 3) = flat ts) (hn : n = ts.length - k)
    (hdp : k < ts.length → dp = some ⟨g, k * 3, none⟩) : Shows w (.slice dp n c) (ts.drop k) := by
  refine ⟨dp, c, by simp [hn], ?_, ?_⟩
  · intro h
    by_cases hk : k < ts.length
    · rw [hdp hk] at h; cases h
    · exact List.drop_eq_nil_of_le (by omega)
  · intro a ha j u hu
    have hj : j < (flat (ts.drop k)).length := (List.getElem?_eq_some_iff.1 hu).1
    rw [flat_length, List.length_drop] at hj
    have hk : k < ts.length := by omega
    rw [hdp hk] at ha
    cases ha
    rw [Addr.add_lit, cell_of_row w g _ cur 41 (0, 0) hg]
    rw [flat_drop, List.getElem?_drop, ← hrow, List.getElem?_take, if_pos (by omega)] at hu
    simpa using hu

/-- Behind the append in Remove, and the store. -/
theorem rem_end {w W w4 : World} {b g n cap : Nat} {D D3 : Dsk} {v' x : Value} {ts : List Th} (hO : Only (fun j => j = b) w W) (hD : DiskAt W b (.slice (some ⟨g, 0, none⟩) n cap) D3) (hx : x.ownBlock = some g) (hth : Thg w4 v' ts) (hgr : W.drew.grownBy w4 x.ownBlock)
    (hown : v'.ownBlock = x.ownBlock ∨ ∀ k, v'.ownBlock = some k → W.drew.heap.size ≤ k) (hDD : D = { D3 with ts := ts }) :
    Turn w (w4.setCell ⟨b, 0, none⟩ v') b (.slice (some ⟨g, 0, none⟩) n cap) D := by
  have hgb : g ≠ b := fun e => hD.2.2 (by rw [← e]; rfl)
  have hO4 : Only (fun j => j = g) W w4 := ((Only.refl (fun j => j = g) W).drew).grown hgr (fun k _ e => by rw [hx] at e; cases e; rfl)
  have hne : v'.ownBlock ≠ some b := by
    intro e
    rcases hown with h | h
    · rw [h, hx] at e; cases e; exact hgb rfl
    · have h1 : W.heap.size ≤ b := h b e
      have h2 := hD.lt
      omega
  refine ⟨v', ⟨?_, ?_, hne⟩, ?_, ?_⟩
  · rw [heap_setCell_same w4 b 0 _ _ v' ((hO4.block b hD.lt (fun e => hgb e.symm)).trans hD.1), hDD]
    rfl
  · rw [hDD]; exact hth.kept (only_set w4 b 0 v') (fun k hk e => hne (e ▸ hk))
  · refine (((hO.mono (T := fun k => k = b ∨ (Value.slice (some ⟨g, 0, none⟩) n cap).ownBlock = some k) (fun _ _ e => .inl e)).transNew hO4 ?_).setCell (p := ⟨b, 0, none⟩) (fun _ => .inl rfl) _)
    intro i _ e; subst e; exact .inr rfl
  · rcases hown with h | h
    · exact .inl (h.trans hx)
    · exact .inr fun k hk => Nat.le_trans hO.size (h k hk)

theorem rem_facts {W w4 : World} {b g n cap : Nat} {D3 : Dsk} {v' x : Value} {ts : List Th} (hD : DiskAt W b (.slice (some ⟨g, 0, none⟩) n cap) D3) (hx : x.ownBlock = some g) (hth : Thg w4 v' ts) (hgr : W.drew.grownBy w4 x.ownBlock) :
    (∃ ao m c, v' = .slice ao m c) ∧ w4.cell? ⟨b, 0, none⟩ = some (.slice (some ⟨g, 0, none⟩) n cap) ∧ (∀ o, w4.frozen? ⟨b, o, none⟩ = false) := by
  have hgb : g ≠ b := fun e => hD.2.2 (by rw [← e]; rfl)
  have hO4 : Only (fun j => j = g) W w4 := ((Only.refl (fun j => j = g) W).drew).grown hgr (fun k _ e => by rw [hx] at e; cases e; rfl)
  obtain ⟨ao, c, h⟩ := hth.form
  refine ⟨⟨ao, _, c, h⟩, (hO4.cell hD.lt (fun e => hgb e.symm)).trans hD.cells.1, fun o => (hO4.frozen (p := ⟨b, o, none⟩) hD.lt (fun e => hgb e.symm)).trans (hD.thaw o)⟩

set_option maxHeartbeats 800000 in
theorem remove_disk {w : World} {b : Nat} {v : Value} {D : Dsk} (h : DiskAt w b v D) (p : ByteArray) (hp : p.size ≤ 1000000000000) (hm : D.ts.length ≤ 1000000000000) :
    Calls Try.prog 10 #[.pointer (some ⟨b, 0, none⟩), .string p] w fun e w' => e = .returned (.int .i64 (removeOf D p).1) ∧ Turn w w' b v (removeOf D p).2 := by
  have H17 := hide (step_disk h)
  have H21 := hide (fun (w1 : World) (h1 : DiskAt w1 b v (stepped D)) => at_disk h1 p hm)
  have H20 := hide (fun (w1 : World) (q : ByteArray) => within_any q p w1 hp)
  simp only [stepped_ts] at H21
  unfold removeOf
  have HV := hide h.2.1
  have HB := hide h.2.2
  clear h
  cases hgo : goes D
  · rw [hgo] at H17
    go_enter Try.func10, Try.ntmps10
    go_wp2_with (go_at_call 17; refine (unhide H17).mono ?_; rintro e w1 ⟨rfl, hd, ho⟩)
    go_ret
    exact ⟨rfl, Turn.of hd ho⟩
  · rw [hgo] at H17
    cases hia : isAt D.ts p
    · rw [hia] at H21
      go_enter Try.func10, Try.ntmps10
      go_wp2_with (first
        | (go_at_call 17; refine (unhide H17).mono ?_; rintro e w1 ⟨rfl, hd, ho⟩; have HD := hide hd; have HO := hide ho; clear hd ho)
        | (go_at_call 21; refine (unhide H21 _ (unhide HD)).mono ?_; rintro e w2 ⟨rfl, n, rfl⟩))
      go_ret
      exact ⟨rfl, (Turn.of (unhide HD) (unhide HO)).drewN n⟩
    · rw [hia] at H21
      have hlt := isAt_lt hia
      obtain ⟨g, cap, cur0, rfl, _⟩ := thg_some (unhide HV) (by omega)
      generalize hk : low D.ts p = k at *
      have HK := hide hk
      clear hk
      go_enter Try.func10, Try.ntmps10
      go_wp2_with (first
        | (go_at_call 17; refine (unhide H17).mono ?_; rintro e w1 ⟨rfl, hd, ho⟩; have hc := hd.cells.1; have HD := hide hd; have HO := hide ho; clear hd ho)
        | (go_at_call 21; refine (unhide H21 _ (unhide HD)).mono ?_; rintro e w2 ⟨rfl, n, rfl⟩))
      go_loopw [25] (fun i wr => ∃ j : Nat, j ≤ D.ts.length ∧ i = .int .i64 j ∧ Hid ((D.ts.take j).any (inB p) = false) ∧ Hid (Only (fun _ => False) w1 wr)) (fun i _ => D.ts.length - (intOf i).toNat)
      case atStart => exact ⟨0, Nat.zero_le _, rfl, (show ((D.ts.take 0).any (inB p) = false) by simp), (Only.refl _ _).drewN n⟩
      case round =>
        obtain ⟨j, hj, rfl, HN, HR⟩ := hrel
        have HDr := hide ((unhide HD).kept (unhide HR) (fun x => x) (fun _ _ x => x))
        obtain ⟨cur, hg, hcap, hcm, hcs, hrow⟩ := (unhide HDr).row
        simp only [stepped_ts] at hcap hrow
        by_cases hjl : j < D.ts.length
        · obtain ⟨r0, r1, r2⟩ := row_cells hg hrow j hjl
          have HA := hide (any_take_succ (f := inB p) hjl (unhide HN))
          have HI := hide (any_of_take (f := inB p) hjl)
          unfold inB at HA HI
          clear hg hrow hcap hcs
          generalize hth : nth D.ts j = t at *
          clear hth
          cases h1 : (t.p.toList == p.toList) <;> cases h2 : withinB t.p p
          case false.true =>
            have hh : hasIn D.ts p = true := unhide HI (by simp [h1, h2])
            go_wp2_with (go_at_call 20; refine (unhide H20 _ _).mono ?_; rintro e w2 ⟨rfl, rfl⟩)
            go_ret
            refine ⟨rfl, Turn.of ((unhide HDr).alloc _) ?_⟩
            exact ((unhide HO).transNew (unhide HR) (fun _ _ x => x.elim)).alloc _
          all_goals
            go_wp2_with (go_at_call 20; refine (unhide H20 _ _).mono ?_; rintro e w2 ⟨rfl, rfl⟩)
            go_roundw
            case rel => exact ⟨j + 1, by omega, by go_num, (unhide HA).trans (by simp [h1, h2]), (unhide HR).alloc _⟩
            case measure => simp [intOf]; omega
        · have hh : hasIn D.ts p = false := by have := unhide HN; rwa [List.take_of_length_le (by omega)] at this
          have c0 := (unhide HDr).cells.1
          have c1 : wr.cell? ⟨b, 1, none⟩ = some (.int .i64 D.room) := (unhide HDr).cells.2.1
          have hfr := (unhide HDr).thaw
          obtain ⟨r0, r1, r2⟩ := row_cells hg hrow k hlt
          have hkk : (k : Int) < (D.ts.length : Int) := by omega
          have HRow := hide hrow
          have HG := hide hg
          clear hrow hg
          have hgb : g ≠ b := fun e => unhide HB (by rw [← e]; rfl)
          have hck : (k : Int) ≤ (D.ts.length : Int) := by omega
          have hwr : IntKind.i64.wrap ((k : Int) + 1) = (k : Int) + 1 := by rw [IntKind.wrap_i64]; omega
          have hp0 : (0 : Int) ≤ (k : Int) + 1 := by omega
          have hp1 : (k : Int) + 1 ≤ (D.ts.length : Int) := by omega
          have hp2 : ((k : Int) + 1).toNat = k + 1 := by omega
          have hp3 : (k : Int) ≤ (cap : Int) := by omega
          obtain ⟨dp, hdp, HDP⟩ : ∃ dp : Option Addr, (if cap = k + 1 then some (⟨g, 0, none⟩ : Addr) else some ⟨g, (k + 1) * 3, none⟩) = dp ∧ Hid (k + 1 < D.ts.length → dp = some ⟨g, (k + 1) * 3, none⟩) :=
            ⟨_, rfl, fun h => by rw [if_neg (by omega)]⟩
          by_cases h0 : 0 ≤ D.room
          · go_wp2_with fail
            go_big_region
            go_wp2_with fail
            obtain ⟨W, hW⟩ : ∃ W, W = (wr.setCell ⟨b, 1, none⟩ (.int .i64 (wrap64 (D.room + ↑(nth D.ts k).d.size)))).drew := ⟨_, rfl⟩
            rw [← hW]
            have HW : Hid (DiskAt W b (.slice (some ⟨g, 0, none⟩) D.ts.length cap) { stepped D with room := wrap64 (D.room + ↑(nth D.ts k).d.size) }) := by rw [hW]; exact ((unhide HDr).setRoom _)
            have HOW : Hid (Only (fun j => j = b) w W) := by rw [hW]; exact ((((unhide HO).transNew (unhide HR) (fun _ _ x => x.elim)).setCell (p := ⟨b, 1, none⟩) (fun _ => rfl) _).drew)
            have HG3 : Hid (W.heap[g]? = some (.cells cur 41 (0, 0))) := by rw [hW]; exact (Below.heap_setCell _ _ _ _ hgb).trans (unhide HG)
            have cW : W.cell? ⟨b, 0, none⟩ = some (.slice (some ⟨g, 0, none⟩) D.ts.length cap) := (unhide HW).cells.1
            clear hW c0 c1 r0 r1 r2 hfr
            have HT := hide (thg_cut (unhide HG3) hcap hcm hcs (unhide HRow) (Nat.le_of_lt hlt))
            have HS := hide (shows_tail (n := D.ts.length - (k + 1)) (c := cap - (k + 1)) (unhide HG3) (unhide HRow) rfl (unhide HDP))
            clear HDr
            go_region_law (refine step_append_thg rfl (.tmp 68) (.tmp 75) rfl (.slice (some ⟨g, 0, none⟩) k k) (.slice dp (D.ts.length - (k + 1)) (cap - (k + 1))) (D.ts.take k) (D.ts.drop (k + 1)) (by simp [Act.eval, Act.put]) (by simp [Act.eval, Act.put]) (by exact unhide HT) (by exact unhide HS) (by simp; omega) ?_; intro v' w4 hth hgr hown; obtain ⟨⟨ao, m, c, hf⟩, hc4, hf4⟩ := rem_facts (unhide HW) rfl hth hgr; subst hf; have HTH := hide hth; have HGR := hide hgr; have HOWN := hide hown; clear hth hgr hown)
            all_goals
              go_wp2
              go_ret
              refine ⟨rfl, ?_⟩
              exact rem_end (unhide HOW) (unhide HW) rfl (unhide HTH) (unhide HGR) (unhide HOWN) rfl
          · go_wp2_with fail
            have HW : Hid (DiskAt wr b (.slice (some ⟨g, 0, none⟩) D.ts.length cap) (stepped D)) := HDr
            have HOW : Hid (Only (fun j => j = b) w wr) := (unhide HO).transNew (unhide HR) (fun _ _ x => x.elim)
            have HG3 := HG
            clear c1 r0 r1 r2 hfr
            have HT := hide (thg_cut (unhide HG3) hcap hcm hcs (unhide HRow) (Nat.le_of_lt hlt))
            have HS := hide (shows_tail (n := D.ts.length - (k + 1)) (c := cap - (k + 1)) (unhide HG3) (unhide HRow) rfl (unhide HDP))
            clear HDr
            go_region_law (refine step_append_thg rfl (.tmp 68) (.tmp 75) rfl (.slice (some ⟨g, 0, none⟩) k k) (.slice dp (D.ts.length - (k + 1)) (cap - (k + 1))) (D.ts.take k) (D.ts.drop (k + 1)) (by simp [Act.eval, Act.put]) (by simp [Act.eval, Act.put]) (by exact unhide HT) (by exact unhide HS) (by simp; omega) ?_; intro v' w4 hth hgr hown; obtain ⟨⟨ao, m, c, hf⟩, hc4, hf4⟩ := rem_facts (unhide HW) rfl hth hgr; subst hf; have HTH := hide hth; have HGR := hide hgr; have HOWN := hide hown; clear hth hgr hown)
            all_goals
              go_wp2
              go_ret
              refine ⟨rfl, ?_⟩
              exact rem_end (unhide HOW) (unhide HW) rfl (unhide HTH) (unhide HGR) (unhide HOWN) rfl
end Go.Proofs.Ytndfmgdhiallpaa
