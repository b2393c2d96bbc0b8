/- Contracts of package disk: Rename. -/
import Derived.Test.YtndfmgdhiallpaaDo
namespace Go.Proofs.Ytndfmgdhiallpaa
open Go.RowKit

theorem kp_step {w1 wr w2 w3 : World} {u v v' : Value} {us ts' : List Th} (hR : Only (fun _ => False) w1 wr) (h12 : Only (fun _ => False) wr w2) (hu : Kpt w1.heap.size wr u us) (hs : ∀ k, u.ownBlock = some k → v.ownBlock ≠ some k)
    (h1 : Kpt w1.heap.size w3 v' ts') (h2 : Only (fun k => w1.heap.size ≤ k ∧ v.ownBlock = some k) w2 w3) (h3 : v'.ownBlock = v.ownBlock ∨ ∀ k, v'.ownBlock = some k → w2.heap.size ≤ k) :
    Kpt w1.heap.size w3 v' ts' ∧ Kpt w1.heap.size w3 u us ∧ Only (fun _ => False) w1 w3 ∧ (∀ k, u.ownBlock = some k → v'.ownBlock ≠ some k) := by
  refine ⟨h1, (hu.kept h12 (fun _ _ x => x)).kept h2 (fun k hk e => hs k hk e.2), (hR.trans h12).transNew h2 (fun i hi e => by omega), ?_⟩
  intro k hk e
  rcases h3 with h3 | h3
  · exact hs k hk (h3 ▸ e)
  · have := h3 k e
    have := hu.1.lt k hk
    have := h12.size
    omega

theorem alloc2_only (wr : World) (a c : Obj) : Only (fun _ => False) wr ((wr.alloc a).alloc c) := ((Only.refl _ wr).alloc a).alloc c

theorem ren_put {w wr w3 : World} {b g mg n cap : Nat} {vj v3 mv : Value} {ms : List Th} (hO : Only (fun k => k = b ∨ (Value.slice (some ⟨g, 0, none⟩) n cap).ownBlock = some k) w wr)
    (hV : vj.ownBlock = some g ∨ ∀ k, vj.ownBlock = some k → w.heap.size ≤ k) (hS : vj.ownBlock ≠ some mg) (hT : Thg wr mv ms) (hmv : mv.ownBlock = some mg) (hmb : mg ≠ b) (o : Obj)
    (ho3 : Only (fun k => k = b ∨ vj.ownBlock = some k) (wr.alloc o) w3) (hv3 : v3.ownBlock = vj.ownBlock ∨ ∀ k, v3.ownBlock = some k → (wr.alloc o).heap.size ≤ k) :
    Only (fun k => k = b ∨ (Value.slice (some ⟨g, 0, none⟩) n cap).ownBlock = some k) w w3 ∧ (v3.ownBlock = some g ∨ ∀ k, v3.ownBlock = some k → w.heap.size ≤ k) ∧ v3.ownBlock ≠ some mg ∧ Thg w3 mv ms := by
  have hmgl := hT.lt mg hmv
  refine ⟨(hO.alloc o).transNew ho3 ?_, ?_, ?_, ?_⟩
  · rintro i hi (e | e)
    · exact .inl e
    · rcases hV with h | h
      · rw [h] at e; cases e; exact .inr rfl
      · have := h i e; omega
  · rcases hv3 with e | e
    · rcases hV with h | h
      · exact .inl (e.trans h)
      · exact .inr fun k hk => h k (e ▸ hk)
    · exact .inr fun k hk => by have := e k hk; have := hO.size; simp at *; omega
  · intro e
    rcases hv3 with h | h
    · exact hS (h ▸ e)
    · have := h mg e; simp at this; omega
  · refine (hT.kept ((Only.refl (fun _ => False) wr).alloc o) (fun _ _ x => x)).kept ho3 ?_
    rintro k hk (e | e)
    · rw [hmv] at hk; cases hk; exact hmb e
    · rw [hmv] at hk; cases hk; exact hS e

set_option maxHeartbeats 800000 in
theorem rename_some {w : World} {b g cap : Nat} {D : Dsk} (h : DiskAt w b (.slice (some ⟨g, 0, none⟩) D.ts.length cap) D) (fr to : ByteArray) (hfr : fr.size ≤ 1000000000000) (hto : to.size ≤ 1000000000000) (hm : D.ts.length ≤ 1000000000000)
    (hsz : ∀ k, k < D.ts.length → (nth D.ts k).p.size ≤ 1000000000000) :
    Calls Try.prog 7 #[.pointer (some ⟨b, 0, none⟩), .string fr, .string to] w fun e w' => e = .returned (.int .i64 (renameOf D fr to).1) ∧ Turn w w' b (.slice (some ⟨g, 0, none⟩) D.ts.length cap) (renameOf D fr to).2 := by
  have H17 := hide (step_disk h)
  have H12 := hide (fun (w1 : World) (h1 : DiskAt w1 b (.slice (some ⟨g, 0, none⟩) D.ts.length cap) (stepped D)) => is_disk h1 fr hm)
  have H18 := hide (fun (w1 : World) (h1 : DiskAt w1 b (.slice (some ⟨g, 0, none⟩) D.ts.length cap) (stepped D)) => free_disk h1 to hto hm)
  have H20 := hide (fun (w1 : World) (q : ByteArray) => within_any q fr w1 hfr)
  simp only [stepped_ts] at H12 H18
  unfold renameOf
  clear h
  cases hgo : goes D
  · rw [hgo] at H17
    go_enter Try.func7, Try.ntmps7
    go_wp2_with (go_at_call 17; refine (unhide H17).mono ?_; rintro e w1 ⟨rfl, hd, ho⟩)
    go_ret
    exact ⟨rfl, Turn.of hd ho⟩
  · rw [hgo] at H17
    generalize isOf D.ts fr = fi at *
    generalize freeOf D.ts to = fe at *
    cases hfi : (fi == 0)
    rotate_left
    · go_enter Try.func7, Try.ntmps7
      go_wp2_with (first
        | (go_at_call 17; refine (unhide H17).mono ?_; rintro e w1 ⟨rfl, hd, ho⟩; have HD := hide hd; have HO := hide ho; clear hd ho)
        | (go_at_call 12; refine (unhide H12 _ (unhide HD)).mono ?_; rintro e w2 ⟨rfl, n, rfl⟩))
      go_ret
      exact ⟨rfl, (Turn.of (unhide HD) (unhide HO)).drewN n⟩
    · cases hfe : (fe != 0)
      rotate_left
      · have hfe' : (fe == 0) = false := by simpa [bne] using hfe
        go_enter Try.func7, Try.ntmps7
        go_wp2_with (first
          | (go_at_call 17; refine (unhide H17).mono ?_; rintro e w1 ⟨rfl, hd, ho⟩; have HD := hide hd; have HO := hide ho; clear hd ho)
          | (go_at_call 12; refine (unhide H12 _ (unhide HD)).mono ?_; rintro e w2 ⟨rfl, n, rfl⟩)
          | (go_at_call 18; refine (unhide H18 _ (by exact unhide HD)).mono ?_; rintro e w2 ⟨rfl, n2, rfl⟩))
        go_ret
        exact ⟨rfl, (Turn.of (unhide HD) (unhide HO)).drewN _⟩
      · have hfe' : (fe == 0) = true := by simpa [bne] using hfe
        cases hwi : withinB to fr
        rotate_left
        · go_enter Try.func7, Try.ntmps7
          go_wp2_with (first
            | (go_at_call 17; refine (unhide H17).mono ?_; rintro e w1 ⟨rfl, hd, ho⟩; have HD := hide hd; have HO := hide ho; clear hd ho)
            | (go_at_call 12; refine (unhide H12 _ (unhide HD)).mono ?_; rintro e w2 ⟨rfl, n, rfl⟩)
            | (go_at_call 18; refine (unhide H18 _ (by exact unhide HD)).mono ?_; rintro e w2 ⟨rfl, n2, rfl⟩)
            | (go_at_call 20; refine (unhide H20 _ _).mono ?_; rintro e w2 ⟨rfl, rfl⟩))
          go_ret
          exact ⟨rfl, (Turn.of (unhide HD) (unhide HO)).drewN _⟩
        · go_enter Try.func7, Try.ntmps7
          go_wp2_with (first
            | (go_at_call 17; refine (unhide H17).mono ?_; rintro e w1 ⟨rfl, hd, ho⟩; have hc := hd.cells.1; have hfz := hd.thaw; have HD := hide hd; have HO := hide ho; clear hd ho)
            | (go_at_call 12; refine (unhide H12 _ (unhide HD)).mono ?_; rintro e w2 ⟨rfl, n, rfl⟩)
            | (go_at_call 18; refine (unhide H18 _ (by exact unhide HD)).mono ?_; rintro e w2 ⟨rfl, n2, rfl⟩)
            | (go_at_call 20; refine (unhide H20 _ _).mono ?_; rintro e w2 ⟨rfl, rfl⟩))
          go_loopw [8, 9, 40] (fun mv kv i wr => ∃ j : Nat, j ≤ D.ts.length ∧ i = .int .i64 j ∧ Hid (Kpt w1.heap.size wr mv (movedOf (D.ts.take j) fr to)) ∧ Hid (Kpt w1.heap.size wr kv (keptOf (D.ts.take j) fr)) ∧ Hid (Only (fun _ => False) w1 wr) ∧
              Hid (∀ k, mv.ownBlock = some k → kv.ownBlock ≠ some k) ∧ Hid (∀ k, mv.ownBlock = some k → w1.heap.size ≤ k) ∧ Hid (kv.ownBlock = some g ∨ ∀ k, kv.ownBlock = some k → w1.heap.size ≤ k)) (fun _ _ i _ => D.ts.length - (intOf i).toNat)
          case atStart =>
            have hk0 : Kpt w1.heap.size w1 (.slice (some ⟨g, 0, none⟩) 0 0) [] := by
              obtain ⟨cur, hg, _⟩ := (unhide HD).row
              exact ⟨.inr ⟨g, 0, cur, rfl, hg, by simp, by simp, by simp, by simp [flat]⟩, .inl ⟨rfl, _, rfl⟩⟩
            exact ⟨0, Nat.zero_le _, rfl, ⟨Thg.nil _, .inl ⟨rfl, _, rfl⟩⟩, hk0, (Only.refl _ _).drewN _, (fun k hk => by cases hk), (fun k hk => by cases hk), .inl rfl⟩
          case round =>
            obtain ⟨j, hj, rfl, HM, HK, HR, HS, HB, HG⟩ := hrel
            have HDr := hide ((unhide HD).kept (unhide HR) (fun x => x) (fun _ _ x => x))
            by_cases hjl : j < D.ts.length
            · obtain ⟨cur, hg, hcap, hcm, hcs, hrow⟩ := (unhide HDr).row
              obtain ⟨r0, r1, r2⟩ := row_cells hg hrow j hjl
              have hts := hsz j hjl
              clear hg hcap hcm hcs hrow hc
              simp only [stepped_ts] at r0 r1 r2
              have HKY := hide (kept_yes (fr := fr) hjl)
              have HKN := hide (kept_no (fr := fr) hjl)
              have HMY := hide (moved_yes (fr := fr) (to := to) hjl)
              have HMN := hide (moved_no (fr := fr) (to := to) hjl)
              have hlen := kept_moved_len (D.ts.take j) fr to
              rw [List.length_take] at hlen
              have hwsz := hide (fun h => within_size (p := (nth D.ts j).p) (u := fr) h)
              generalize nth D.ts j = t at *
              cases hw : withinB t.p fr
              · have hbs := (unhide HR).size
                have HKa : Hid (Kpt w1.heap.size ((wr.alloc (.cells #[.string t.p, .bool t.f, .string t.d] 41)).alloc (.cells #[.string t.p, .bool t.f, .string t.d] 41)) u9 (keptOf (D.ts.take j) fr)) := (unhide HK).kept (alloc2_only wr _ _) (fun _ _ x => x)
                have HSa := hide (shows_new (w := wr.alloc (.cells #[.string t.p, .bool t.f, .string t.d] 41)) (g := wr.heap.size + 1) (by simp) t)
                go_wp2_with (first
                  | (go_at_call 20; refine (unhide H20 _ _).mono ?_; rintro e w2 ⟨rfl, rfl⟩)
                  | (at_builtin; refine wpList_append_kpt rfl (.tmp 60) (.tmp 62) rfl w1.heap.size u9 _ (keptOf (D.ts.take j) fr) t rfl rfl (unhide HKa) (unhide HSa) (by simp; omega) (by omega) ?_; intro v' w3 h1 h2 h3; have H1 := hide h1; have H2 := hide h2; have H3 := hide h3; clear h1 h2 h3))
                go_roundw
                case rel =>
                  have R := kp_step (unhide HR) (alloc2_only wr _ _) (unhide HM) (unhide HS) (unhide H1) (unhide H2) (unhide H3)
                  refine ⟨j + 1, by omega, by go_num, ?_, ?_, R.2.2.1, R.2.2.2, HB, ?_⟩
                  · rw [unhide HMN hw]; exact R.2.1
                  · rw [unhide HKY hw]; exact R.1
                  · rcases unhide H3 with e | e
                    · rcases unhide HG with e2 | e2
                      · exact .inl (e.trans e2)
                      · exact .inr fun k hk => e2 k (e ▸ hk)
                    · exact .inr fun k hk => by have := e k hk; simp at this; omega
                case measure => simp [intOf]; omega
              · have hws := unhide hwsz hw
                have hbs := (unhide HR).size
                have HKa : Hid (Kpt w1.heap.size ((wr.alloc (.cells #[.string (to ++ t.p.extract fr.size t.p.size), .bool t.f, .string t.d] 41)).alloc (.cells #[.string (to ++ t.p.extract fr.size t.p.size), .bool t.f, .string t.d] 41)) u8 (movedOf (D.ts.take j) fr to)) := (unhide HM).kept (alloc2_only wr _ _) (fun _ _ x => x)
                have HSa := hide (shows_new (w := wr.alloc (.cells #[.string (to ++ t.p.extract fr.size t.p.size), .bool t.f, .string t.d] 41)) (g := wr.heap.size + 1) (by simp) (movedTo fr to t))
                go_wp2_with (first
                  | (go_at_call 20; refine (unhide H20 _ _).mono ?_; rintro e w2 ⟨rfl, rfl⟩)
                  | (at_builtin; refine wpList_append_kpt rfl (.tmp 56) (.tmp 58) rfl w1.heap.size u8 _ (movedOf (D.ts.take j) fr to) (movedTo fr to t) rfl rfl (unhide HKa) (unhide HSa) (by simp; omega) (by omega) ?_; intro v' w3 h1 h2 h3; have H1 := hide h1; have H2 := hide h2; have H3 := hide h3; clear h1 h2 h3))
                go_roundw
                case rel =>
                  have R := kp_step (unhide HR) (alloc2_only wr _ _) (unhide HK) (fun k hk e => unhide HS k e hk) (unhide H1) (unhide H2) (unhide H3)
                  refine ⟨j + 1, by omega, by go_num, ?_, ?_, R.2.2.1, fun k hk e => R.2.2.2 k e hk, ?_, HG⟩
                  · rw [unhide HMY hw]; exact R.1
                  · rw [unhide HKN hw]; exact R.2.1
                  · intro k hk
                    rcases unhide H3 with e | e
                    · exact unhide HB k (e ▸ hk)
                    · have := e k hk
                      simp at this; omega
                case measure => simp [intOf]; omega
            · have hE : D.ts.take j = D.ts := List.take_of_length_le (by omega)
              rw [hE] at HM HK
              clear hE
              have hlen := kept_moved_len D.ts fr to
              obtain ⟨ks, hks⟩ : ∃ ks, keptOf D.ts fr = ks := ⟨_, rfl⟩
              obtain ⟨ms, hms0⟩ : ∃ ms, movedOf D.ts fr to = ms := ⟨_, rfl⟩
              rw [hks] at HK hlen
              rw [hms0] at HM hlen
              have HKS := hide hks
              have HMS := hide hms0
              clear hks hms0
              have hgb : g ≠ b := fun e => (unhide HD).2.2 (by rw [← e]; rfl)
              have hkb : u9.ownBlock ≠ some b := by
                intro e
                rcases unhide HG with h | h
                · rw [h] at e; cases e; exact hgb rfl
                · have := h b e; have := (unhide HD).lt; omega
              have HTk := hide ((unhide HK).1)
              have c0 := (unhide HDr).cells.1
              have hfr0 := (unhide HDr).thaw
              have HO0 : Hid (Only (fun k => k = b) w wr) := (unhide HO).transNew (unhide HR) (fun _ _ x => x.elim)
              obtain ⟨ako, kc, hkf⟩ := (unhide HTk).form
              subst hkf
              have HD0 := hide ((unhide HDr).setThings (unhide HTk) hkb)
              have HO1 : Hid (Only (fun k => k = b ∨ (Value.slice (some ⟨g, 0, none⟩) D.ts.length cap).ownBlock = some k) w (wr.setCell ⟨b, 0, none⟩ (.slice ako ks.length kc))) := ((unhide HO0).setCell (p := ⟨b, 0, none⟩) (fun _ => rfl) _).mono (fun _ _ e => .inl e)
              have HV1 : Hid ((Value.slice ako ks.length kc).ownBlock = some g ∨ ∀ k, (Value.slice ako ks.length kc).ownBlock = some k → w.heap.size ≤ k) := by
                rcases unhide HG with e | e
                · exact .inl e
                · exact .inr fun k hk => Nat.le_trans (unhide HO).size (e k hk)
              have HT1 : Hid (Thg (wr.setCell ⟨b, 0, none⟩ (.slice ako ks.length kc)) u8 ms) := (unhide HM).1.kept (only_set _ _ _ _) (fun k hk e => by have := unhide HB k hk; have := (unhide HD).lt; omega)
              have HMB : Hid (∀ k, u8.ownBlock = some k → k ≠ b) := fun k hk e => by have := unhide HB k hk; have := (unhide HD).lt; omega
              clear HDr HM HK HTk HR HB HO HD HG HO0 H17 H12 H18 H20
              have H19 := hide (fun (ws : World) (vj : Value) (Dj : Dsk) (t : Th) (h1 : DiskAt ws b vj Dj) (h2 : Dj.ts.length ≤ 1000000000000) => put_disk h1 t h2)
              rcases unhide HT1 with ⟨rfl, hms⟩ | ⟨mg, mcap, mcur, hu8, _⟩
              · subst hms
                go_wp2_with fail
                go_loop [71] (fun i => i = .int .i64 0) (fun _ => 0)
                case atStart => rfl
                case round =>
                  subst hrel
                  go_wp2
                  go_ret
                  rw [unhide HKS, unhide HMS]
                  exact ⟨rfl, _, unhide HD0, unhide HO1, unhide HV1⟩
              · subst hu8
                go_wp2_with fail
                generalize hW : wr.setCell ⟨b, 0, none⟩ (.slice ako ks.length kc) = W at *
                have HP0 : Hid (putAll ks (ms.take 0) = ks) := rfl
                clear hW c0 hfr0 hc hfz
                go_loopw [71] (fun i ws => ∃ (j : Nat) (vj : Value), j ≤ ms.length ∧ i = .int .i64 j ∧ Hid (DiskAt ws b vj { stepped D with ts := putAll ks (ms.take j) }) ∧
                    Hid (Only (fun k => k = b ∨ (Value.slice (some ⟨g, 0, none⟩) D.ts.length cap).ownBlock = some k) w ws) ∧ Hid (vj.ownBlock = some g ∨ ∀ k, vj.ownBlock = some k → w.heap.size ≤ k) ∧
                    Hid (vj.ownBlock ≠ some mg) ∧ Hid (Thg ws (.slice (some ⟨mg, 0, none⟩) ms.length mcap) ms)) (fun i _ => ms.length - (intOf i).toNat)
                case atStart => exact ⟨0, _, Nat.zero_le _, rfl, HD0, HO1, HV1, unhide HS mg rfl, HT1⟩
                case round =>
                  obtain ⟨j, vj, hj2, rfl, HDj, HOj, HVj, HSj, HTj⟩ := hrel
                  by_cases hjl : j < ms.length
                  · rcases unhide HTj with ⟨hx, _⟩ | ⟨g', cap', cur, hx, hg, hcap, hcm, hcs, hrow⟩
                    · cases hx
                    simp only [Value.slice.injEq, Option.some.injEq, Addr.mk.injEq, and_true, true_and] at hx
                    obtain ⟨rfl, rfl⟩ := hx
                    obtain ⟨r0, r1, r2⟩ := row_cells hg hrow j hjl
                    have HPS := hide (putAll_snoc ks ms j hjl)
                    have hpl : (putAll ks (ms.take j)).length ≤ 1000000000000 := by rw [putAll_len, List.length_take]; omega
                    have hmgl := (Array.getElem?_eq_some_iff.1 hg).1
                    clear hg hcap hcm hcs hrow
                    generalize nth ms j = t at *
                    go_wp2_with (go_at_call 19; refine (unhide H19 _ _ _ t (by exact (unhide HDj).alloc _) hpl).mono ?_; rintro e w3 ⟨rfl, v3, hd3, ho3, hv3⟩; have HD3 := hide hd3; have HO3 := hide ho3; have HV3 := hide hv3; clear hd3 ho3 hv3)
                    go_roundw
                    case rel =>
                      have R := ren_put (unhide HOj) (unhide HVj) (unhide HSj) (unhide HTj) rfl (unhide HMB mg rfl) _ (unhide HO3) (unhide HV3)
                      refine ⟨j + 1, v3, by omega, by go_num, ?_, R.1, R.2.1, R.2.2.1, R.2.2.2⟩
                      rw [unhide HPS]
                      exact HD3
                    case measure => simp [intOf]; omega
                  · have hE : Hid (ms.take j = ms) := List.take_of_length_le (by omega)
                    go_wp2
                    go_ret
                    rw [unhide HKS, unhide HMS]
                    refine ⟨rfl, vj, ?_, unhide HOj, unhide HVj⟩
                    have := unhide HDj
                    rw [unhide hE] at this
                    exact this

set_option maxHeartbeats 800000 in
theorem rename_nil {w : World} {b : Nat} {D : Dsk} (h : DiskAt w b (.slice none 0 0) D) (ht : D.ts = []) (fr to : ByteArray) :
    Calls Try.prog 7 #[.pointer (some ⟨b, 0, none⟩), .string fr, .string to] w fun e w' => e = .returned (.int .i64 (renameOf D fr to).1) ∧ Turn w w' b (.slice none 0 0) (renameOf D fr to).2 := by
  have H17 := hide (step_disk h)
  have H12 := hide (fun (w1 : World) (h1 : DiskAt w1 b (.slice none 0 0) (stepped D)) => is_disk h1 fr (by rw [stepped_ts, ht]; simp))
  have h0 : isOf D.ts fr = 0 := by rw [ht]; rfl
  simp only [stepped_ts, h0] at H12
  unfold renameOf
  rw [h0]
  clear h h0
  cases hgo : goes D
  · rw [hgo] at H17
    go_enter Try.func7, Try.ntmps7
    go_wp2_with (go_at_call 17; refine (unhide H17).mono ?_; rintro e w1 ⟨rfl, hd, ho⟩)
    go_ret
    exact ⟨rfl, Turn.of hd ho⟩
  · rw [hgo] at H17
    go_enter Try.func7, Try.ntmps7
    go_wp2_with (first
      | (go_at_call 17; refine (unhide H17).mono ?_; rintro e w1 ⟨rfl, hd, ho⟩; have HD := hide hd; have HO := hide ho; clear hd ho)
      | (go_at_call 12; refine (unhide H12 _ (unhide HD)).mono ?_; rintro e w2 ⟨rfl, n, rfl⟩))
    go_ret
    exact ⟨rfl, (Turn.of (unhide HD) (unhide HO)).drewN n⟩

theorem rename_disk {w : World} {b : Nat} {v : Value} {D : Dsk} (h : DiskAt w b v D) (fr to : ByteArray) (hfr : fr.size ≤ 1000000000000) (hto : to.size ≤ 1000000000000) (hm : D.ts.length ≤ 1000000000000)
    (hsz : ∀ k, k < D.ts.length → (nth D.ts k).p.size ≤ 1000000000000) :
    Calls Try.prog 7 #[.pointer (some ⟨b, 0, none⟩), .string fr, .string to] w fun e w' => e = .returned (.int .i64 (renameOf D fr to).1) ∧ Turn w w' b v (renameOf D fr to).2 := by
  rcases h.2.1 with ⟨rfl, ht⟩ | ⟨g, cap, cur, rfl, _⟩
  · exact rename_nil h ht fr to
  · exact rename_some h fr to hfr hto hm hsz
end Go.Proofs.Ytndfmgdhiallpaa
