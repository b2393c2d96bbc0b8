/- The digest: the code's words, Of, and valise.Digest. -/
import Derived.Test.YtndfmgdhiallpaaGreatDoorHq
import Derived.Test.YtndfmgdhiallpaaGreatDoorHo
namespace Go.Proofs.YtndfmgdhiallpaaGreatDoor
open Go.RowKit

section
variable {P : Program} {ops : Array Oper} {Q : Exit → Act → World → Prop} {md : Region.Mode} {S : World → Prop} {L : Nat}
/-- Two may come up. -/
theorem wpAnyL_two {i j : Nat} {n : Nat} {ls : Array Bool} {a : Act} {w : World} (hr : Region.ready md ops ls = [i, j])
    (h : wpOp P ops Q i (fun a' w' => (i ≠ L → S w') ∧ wpAnyL P md ops Q S L n (ls.setIfInBounds i true) a' w') a w)
    (k : wpOp P ops Q j (fun a' w' => (j ≠ L → S w') ∧ wpAnyL P md ops Q S L n (ls.setIfInBounds j true) a' w') a w) : wpAnyL P md ops Q S L (n + 1) ls a w := by
  refine ⟨fun h0 => ?_, fun m hm => ?_⟩
  · rw [hr] at h0; cases h0
  · rw [hr] at hm
    rcases List.mem_cons.1 hm with rfl | hm
    · exact h
    · cases List.mem_singleton.1 hm; exact k
end

/-- The start words lie where they must. -/
def Glob (w : World) : Prop := ∃ t fr, w.heap[0]? = some (.cells (u8A h0) t fr)
theorem Glob.old {w w' : World} (h : Glob w) (ho : Old w w') : Glob w' := by
  obtain ⟨t, fr, hg⟩ := h
  exact ⟨t, fr, old_heap ho hg⟩
theorem load8g {w : World} (h : Glob w) : (loadVar 181 ⟨0, 0, none⟩).run Tryz.prog w = .ok (.agg (u8A h0)) w := by
  obtain ⟨t, fr, hg⟩ := h
  exact run_loadVar_row w _ _ _ _ _ _ hg Tryz.underlying181 rfl infoA8

/-- What the code folds is what the document folds. -/
theorem fold_words (s : ByteArray) (p : ByteArray) (q r : Nat) (hq : 64 * q ≤ s.size) (hr : s.size - 64 * q + p.size = 64 * r) :
    foldX kNum (foldX kNum h0 (s.extract 0 (64 * q)) q) (s.extract (64 * q) s.size ++ p) r = foldX kNum h0 (s ++ p) (q + r) := by
  have ha : (s.extract 0 (64 * q)).size = 64 * q := by rw [ByteArray.size_extract]; omega
  have hb : (s.extract (64 * q) s.size ++ p).size = 64 * r := by rw [ByteArray.size_append, ByteArray.size_extract]; omega
  rw [← foldX_append kNum h0 _ _ q r ha hb, ← ByteArray.append_assoc]
  congr 2
  have := ByteArray.extract_append_extract (a := s) (i := 0) (j := 64 * q) (k := s.size)
  rw [this, Nat.min_eq_left (by omega), Nat.max_eq_right hq, ByteArray.extract_zero_size]

theorem wp_store64 {o : Oper} {a : Act} {w : World} {K : Act → World → Prop} {Q : Exit → Act → World → Prop} (x y : Operand) (ho : o.op = .store 247 x y) (hd : o.dst = none) (g : Nat) (f : Nat → Nat)
    (hx : a.eval x = .pointer (some ⟨g, 0, none⟩)) (hy : a.eval y = .agg (u64A f)) {f0 : Nat → Nat} (hg : w.heap[g]? = some (.cells (u64A f0) 247 (0, 0)))
    (h : K a (w.setRow g (u64A f))) : o.wp Tryz.prog a w K Q :=
  wp_store_row _ x y ho g (u64A f) hx hy _ _ hg (by rw [u64A, arrF_size]; exact infoA64) (by rw [u64A, u64A, arrF_size, arrF_size]) (arr_one _ _ (fun _ => rfl)) (by rw [hd]; exact h)

set_option maxRecDepth 100000 in
set_option maxHeartbeats 1000000 in
theorem words_any (s : ByteArray) (hl : s.size ≤ 140737488355328) (w : World) (hg : Glob w) :
    Calls Tryz.prog 132 #[.string s] w fun e w' => e = .returned (.agg (u8A (foldX kNum h0 (s ++ ⟨(padZ (zeroN s.size) s.size 8).toArray⟩) ((s.size + 9 + zeroN s.size) / 64)))) ∧ Old w w' := by
  obtain ⟨q, hq⟩ : ∃ q, q = s.size / 64 := ⟨_, rfl⟩
  have hwh : (s.size : Int) - (s.size : Int) % 64 = ((64 * q : Nat) : Int) := by omega
  have hq1 : ((64 * q : Nat) : Int) ≤ (s.size : Int) := by omega
  have hq0 : (0 : Int) ≤ ((64 * q : Nat) : Int) := by omega
  have hqN : 64 * q ≤ s.size := by omega
  have HQ := hide hq
  have hxs : (s.extract 0 (64 * q)).size = 64 * q := by rw [ByteArray.size_extract]; omega
  have HA1 := hide (fun w1 => absorb_any h0 h0_ok kNum kNum_lt (s.extract 0 (64 * q)) (by rw [hxs]; omega) (by rw [hxs]; omega) w1)
  rw [hxs, Nat.mul_div_cancel_left q (by omega : 0 < 64)] at HA1
  have hyo : (foldX kNum h0 (s.extract 0 (64 * q)) q).ok := foldX_ok h0_ok _ _
  have HFW := hide (fold_words s ⟨(padZ (zeroN s.size) s.size 8).toArray⟩ q)
  generalize foldX kNum h0 (s.extract 0 (64 * q)) q = y at HA1 hyo HFW
  have HG0 := hide hg
  have HWH := hide hwh
  have HQ1 := hide hq1
  have HQ0 := hide hq0
  have HQN := hide hqN
  clear hq hwh hq1 hq0 hqN hxs hg
  have ho0 : Old w (w.alloc (.cells (u8A ⟨0, 0, 0, 0, 0, 0, 0, 0⟩) 181)) := (Only.refl _ w).alloc _
  have hz0 : (w.alloc (.cells (u8A ⟨0, 0, 0, 0, 0, 0, 0, 0⟩) 181)).heap[w.heap.size]? = some (.cells (u8A ⟨0, 0, 0, 0, 0, 0, 0, 0⟩) 181 (0, 0)) := Go.heap_alloc_new w _
  have HO0 := hide ho0
  have HZ0 := hide hz0
  clear ho0 hz0
  go_enter Tryz.func132, Tryz.ntmps132
  go_wp2_with fail
  refine (workedOut_any (w.alloc (.cells (u8A ⟨0, 0, 0, 0, 0, 0, 0, 0⟩) 181))).mono ?_
  rintro e w1 ⟨rfl, ho1⟩
  have HO1 : Hid (Old w w1) := (unhide HO0).trans ho1
  have HZ1 := hide (old_heap ho1 (unhide HZ0))
  have HNK : Hid ((w1.alloc (.cells (u64A fun _ => 0) 247)).heap[w1.heap.size]? = some (.cells (u64A fun _ => 0) 247 (0, 0))) := Go.heap_alloc_new w1 _
  clear HO0 HZ0 ho1
  go_wp2_with (refine wpList_plain rfl (fun K hK => wp_store64 (.tmp 3) (.tmp 6) rfl rfl w1.heap.size kNum rfl rfl (unhide HNK) (hK _ _ ?_)))
  rw [unhide HWH]
  change Code.wp _ _ _ _ ((w1.alloc (.cells (u64A fun _ => 0) 247)).setRow w1.heap.size (u64A kNum))
  have HK : Hid (((w1.alloc (.cells (u64A fun _ => 0) 247)).setRow w1.heap.size (u64A kNum)).heap[w1.heap.size]? = some (.cells (u64A kNum) 247 (0, 0))) := setRow_heap _ _ _ _ _ _ (unhide HNK)
  have hoW : Old w1 ((w1.alloc (.cells (u64A fun _ => 0) 247)).setRow w1.heap.size (u64A kNum)) := ((Only.refl _ w1).alloc _).setRow _ (fun h => absurd h (Nat.lt_irrefl _)) _
  have HZ := hide (old_heap hoW (unhide HZ1))
  have HO : Hid (Old w ((w1.alloc (.cells (u64A fun _ => 0) 247)).setRow w1.heap.size (u64A kNum))) := (unhide HO1).trans hoW
  have HG := hide ((unhide HG0).old (unhide HO))
  have hwsz : w.heap.size < w1.heap.size := (Array.getElem?_eq_some_iff.1 (unhide HZ1)).1
  have HWS : Hid (w1.heap.size < ((w1.alloc (.cells (u64A fun _ => 0) 247)).setRow w1.heap.size (u64A kNum)).heap.size) := (Array.getElem?_eq_some_iff.1 (unhide HK)).1
  have HWR := hide hwsz
  clear HG0 HO1 HZ1 HNK hoW hwsz
  generalize (w1.alloc (.cells (u64A fun _ => 0) 247)).setRow w1.heap.size (u64A kNum) = W at *
  generalize w1.heap.size = gk at *
  generalize hqq : 64 * q = qq at *
  have HQQ := hide hqq
  clear hqq
  go_cut [5] from 13 to 18 (fun h wx => ∃ g, h = .pointer (some ⟨g, 0, none⟩) ∧ Hid (gk < g) ∧ Hid (wx.heap[g]? = some (.cells (u8A y) 181 (0, 0))) ∧ Hid (wx.heap[gk]? = some (.cells (u64A kNum) 247 (0, 0))) ∧ Hid (wx.heap[w.heap.size]? = some (.cells (u8A ⟨0, 0, 0, 0, 0, 0, 0, 0⟩) 181 (0, 0))) ∧ Hid (Old w wx))
  case first =>
    have hq1 := unhide HQ1
    have hq0 := unhide HQ0
    have htn : ((qq : Nat) : Int).toNat = qq := Int.toNat_natCast _
    have HSW : Hid (Glob W.drew ∧ W.drew.heap[gk]? = some (.cells (u64A kNum) 247 (0, 0))) := ⟨(unhide HG), unhide HK⟩
    · refine wp_region_last (S := fun W => Glob W ∧ W.heap[gk]? = some (.cells (u64A kNum) 247 (0, 0))) (L := 7) (by kernel_rfl) ?_
      refine wpAnyL_take (i := 0) (v := .agg (u8A h0)) (some 13) rfl rfl (by kernel_rfl) (by kernel_rfl) (by kernel_rfl) (by kernel_rfl) (fun _ _ _ h => h) (held_load rfl _ _ rfl ⟨0, 0, none⟩ rfl _ (fun W hW => load8g hW.1)) (unhide HSW) ?_
      simp only [Act.put, List.setIfInBounds_toArray, List.set_cons_zero, List.set_cons_succ]
      refine wpAnyL_take (i := 1) (v := .agg (u64A kNum)) (some 14) rfl rfl (by kernel_rfl) (by kernel_rfl) (by kernel_rfl) (by kernel_rfl) (fun _ _ _ h => h) (held_load rfl _ _ rfl ⟨gk, 0, none⟩ rfl _ (fun W hW => load64 hW.2)) (unhide HSW) ?_
      simp only [Act.put, List.setIfInBounds_toArray, List.set_cons_zero, List.set_cons_succ]
      refine wpAnyL_take (i := 2) (v := .string s) (some 15) rfl rfl (by kernel_rfl) (by kernel_rfl) (by kernel_rfl) (by kernel_rfl) (fun _ _ _ h => h) (.inl ⟨rfl, fun W _ => by go_simp⟩) (unhide HSW) ?_
      simp only [Act.put, List.setIfInBounds_toArray, List.set_cons_zero, List.set_cons_succ]
      refine wpAnyL_take (i := 3) (v := .int .i64 (qq : Nat)) (some 16) rfl rfl (by kernel_rfl) (by kernel_rfl) (by kernel_rfl) (by kernel_rfl) (fun _ _ _ h => h) (.inl ⟨rfl, fun W _ => by go_simp⟩) (unhide HSW) ?_
      simp only [Act.put, List.setIfInBounds_toArray, List.set_cons_zero, List.set_cons_succ]
      refine wpAnyL_take (i := 4) (v := .string (s.extract 0 qq)) (some 17) rfl rfl (by kernel_rfl) (by kernel_rfl) (by kernel_rfl) (by kernel_rfl) (fun _ _ _ h => h) (.inl ⟨rfl, fun W _ => by go_simp⟩) (unhide HSW) ?_
      simp only [Act.put, List.setIfInBounds_toArray, List.set_cons_zero, List.set_cons_succ]
      refine wpAnyL_two (i := 5) (j := 6) (by kernel_rfl) ?_ ?_
      · refine wpOp_step rfl (fun K' hK => ?_)
        go_simp
        refine (unhide HA1 _).mono ?_
        rintro e w5 ⟨rfl, ho5⟩
        have hsw := unhide HSW
        have ha5 := hsw.1.old ho5
        have hb5 := old_heap ho5 hsw.2
        refine hK _ _ ⟨fun _ => ⟨ha5, hb5⟩, ?_⟩
        clear hK
        refine wpAnyL_one (i := 6) (by kernel_rfl) ?_
        refine wpOp_step rfl (fun K' hK => ?_)
        go_simp
        have ho6 : Old w5 (w5.alloc (.cells (u8A ⟨0, 0, 0, 0, 0, 0, 0, 0⟩) 181)) := (Only.refl _ w5).alloc _
        have hz6 := Go.heap_alloc_new w5 (.cells (u8A ⟨0, 0, 0, 0, 0, 0, 0, 0⟩) 181)
        refine hK _ _ ⟨fun _ => ⟨ha5.old ho6, old_heap ho6 hb5⟩, ?_⟩
        clear hK
        refine wpAnyL_one (i := 7) (by kernel_rfl) ?_
        refine op_plain rfl rfl (wp_store8 (.tmp 5) (.tmp 18) rfl rfl w5.heap.size y rfl rfl hz6 ?_)
        refine ⟨fun h => absurd rfl h, wpAnyL_done (by kernel_rfl) ?_⟩
        go_wp2_with fail
        go_meet
        case rel =>
          have hW5 : Old W w5 := Only.trans ((Only.refl _ W).drew) ho5
          have h5s : gk < w5.heap.size := Nat.lt_of_lt_of_le (unhide HWS) hW5.size
          have h5r := unhide HWR
          have hWK := old_heap ho6 (old_heap hW5 (unhide HK))
          have hWZ := old_heap ho6 (old_heap hW5 (unhide HZ))
          refine ⟨_, rfl, h5s, setRow_heap _ _ _ _ _ _ hz6, ?_, ?_, ?_⟩
          · exact ((only_row _ w5.heap.size _).block _ (Array.getElem?_eq_some_iff.1 hWK).1 (by omega)).trans hWK
          · exact ((only_row _ w5.heap.size _).block _ (Array.getElem?_eq_some_iff.1 hWZ).1 (by omega)).trans hWZ
          · exact (Only.trans (Only.trans (unhide HO) hW5) ho6).setRow _ (fun h => absurd h (by omega)) _
      · refine wpOp_step rfl (fun K' hK => ?_)
        go_simp
        have ho5 : Old W.drew (W.drew.alloc (.cells (u8A ⟨0, 0, 0, 0, 0, 0, 0, 0⟩) 181)) := (Only.refl _ _).alloc _
        have hz5 := Go.heap_alloc_new W.drew (.cells (u8A ⟨0, 0, 0, 0, 0, 0, 0, 0⟩) 181)
        have hsw := unhide HSW
        have ha5 := hsw.1.old ho5
        have hb5 := old_heap ho5 hsw.2
        refine hK _ _ ⟨fun _ => ⟨ha5, hb5⟩, ?_⟩
        clear hK
        refine wpAnyL_one (i := 5) (by kernel_rfl) ?_
        refine wpOp_step rfl (fun K' hK => ?_)
        go_simp
        refine (unhide HA1 _).mono ?_
        rintro e w6 ⟨rfl, ho6⟩
        have hz6 := old_heap ho6 hz5
        refine hK _ _ ⟨fun _ => ⟨ha5.old ho6, old_heap ho6 hb5⟩, ?_⟩
        clear hK
        refine wpAnyL_one (i := 7) (by kernel_rfl) ?_
        refine op_plain rfl rfl (wp_store8 (.tmp 5) (.tmp 18) rfl rfl W.heap.size y rfl rfl hz6 ?_)
        refine ⟨fun h => absurd rfl h, wpAnyL_done (by kernel_rfl) ?_⟩
        go_wp2_with fail
        go_meet
        case rel =>
          have hW6 : Old W w6 := Only.trans (Only.trans ((Only.refl _ W).drew) ho5) ho6
          have h5s : gk < W.heap.size := unhide HWS
          have h5r := unhide HWR
          have hWK := old_heap hW6 (unhide HK)
          have hWZ := old_heap hW6 (unhide HZ)
          refine ⟨_, rfl, h5s, setRow_heap _ _ _ _ _ _ hz6, ?_, ?_, ?_⟩
          · exact ((only_row _ W.heap.size _).block _ (Array.getElem?_eq_some_iff.1 hWK).1 (by omega)).trans hWK
          · exact ((only_row _ W.heap.size _).block _ (Array.getElem?_eq_some_iff.1 hWZ).1 (by omega)).trans hWZ
          · exact (Only.trans (unhide HO) hW6).setRow _ (fun h => absurd h (by omega)) _
  case rest =>
    obtain ⟨g, rfl, HGE, HH, HK2, HZ2, HO2⟩ := hcut
    clear HG HK HZ HO HWS
    have hq1 := unhide HQ1
    have hq0 := unhide HQ0
    have htn : ((qq : Nat) : Int).toNat = qq := Int.toNat_natCast _
    have hqN := unhide HQN
    have HPA := hide (fun w1 => padding_any s.size hl w1)
    have hps : (⟨(padZ (zeroN s.size) s.size 8).toArray⟩ : ByteArray).size = 9 + zeroN s.size := by show (padZ (zeroN s.size) s.size 8).toArray.size = _; rw [List.size_toArray, padZ_len]; omega
    have hz64 : zeroN s.size < 64 := Nat.mod_lt _ (by omega)
    obtain ⟨r, hr⟩ : ∃ r, s.size - qq + (9 + zeroN s.size) = 64 * r := ⟨(s.size - qq + (9 + zeroN s.size)) / 64, by have := unhide HQ; have := unhide HQQ; unfold zeroN; omega⟩
    have HE : Hid (foldX kNum y (s.extract qq s.size ++ ⟨(padZ (zeroN s.size) s.size 8).toArray⟩) r = foldX kNum h0 (s ++ ⟨(padZ (zeroN s.size) s.size 8).toArray⟩) ((s.size + 9 + zeroN s.size) / 64)) := by
      have h1 := unhide HFW r hqN (by rw [hps]; exact hr)
      have h2 : (s.size + 9 + zeroN s.size) / 64 = q + r := by have := unhide HQQ; omega
      rw [h2]; exact h1
    clear HFW
    have hts : (s.extract qq s.size ++ ⟨(padZ (zeroN s.size) s.size 8).toArray⟩).size = 64 * r := by rw [ByteArray.size_append, ByteArray.size_extract, hps]; omega
    have hr64 : 64 * r ≤ 140737488355328 := by have := unhide HQ; have := unhide HQQ; omega
    have HA2 := hide (fun w1 => absorb_any y hyo kNum kNum_lt (s.extract qq s.size ++ ⟨(padZ (zeroN s.size) s.size 8).toArray⟩) (by rw [hts]; omega) (by rw [hts]; omega) w1)
    rw [hts, Nat.mul_div_cancel_left r (by omega : 0 < 64)] at HA2
    rw [unhide HE] at HA2
    clear HE
    have hwu : IntKind.u64.wrap (s.size : Int) = (s.size : Int) := by rw [IntKind.wrap_u64]; omega
    generalize hzz : foldX kNum h0 (s ++ ⟨(padZ (zeroN s.size) s.size 8).toArray⟩) ((s.size + 9 + zeroN s.size) / 64) = z at *
    have HZZ := hide hzz
    clear hzz
    clear hps hr hts hr64
    have hpz : (⟨(padZ (zeroN s.size) s.size 8).toArray⟩ : ByteArray).size ≤ 100 := by show (padZ (zeroN s.size) s.size 8).toArray.size ≤ _; rw [List.size_toArray, padZ_len]; omega
    generalize (⟨(padZ (zeroN s.size) s.size 8).toArray⟩ : ByteArray) = pd at HPA HA2 hpz
    have HSW : Hid (wc.drew.heap[g]? = some (.cells (u8A y) 181 (0, 0)) ∧ wc.drew.heap[gk]? = some (.cells (u64A kNum) 247 (0, 0))) := ⟨unhide HH, unhide HK2⟩
    go_upto_region 4 with fail
    refine wp_region_last (S := fun W => W.heap[g]? = some (.cells (u8A y) 181 (0, 0)) ∧ W.heap[gk]? = some (.cells (u64A kNum) 247 (0, 0))) (L := 11) (by kernel_rfl) ?_
    refine wpAnyL_take (i := 0) (v := .agg (u8A y)) (some 19) rfl rfl (by kernel_rfl) (by kernel_rfl) (by kernel_rfl) (by kernel_rfl) (fun _ _ _ h => h) (held_load rfl _ _ rfl ⟨g, 0, none⟩ rfl _ (fun W hW => load8 hW.1)) (unhide HSW) ?_
    simp only [Act.put, List.setIfInBounds_toArray, List.set_cons_zero, List.set_cons_succ]
    refine wpAnyL_take (i := 1) (v := .agg (u64A kNum)) (some 20) rfl rfl (by kernel_rfl) (by kernel_rfl) (by kernel_rfl) (by kernel_rfl) (fun _ _ _ h => h) (held_load rfl _ _ rfl ⟨gk, 0, none⟩ rfl _ (fun W hW => load64 hW.2)) (unhide HSW) ?_
    simp only [Act.put, List.setIfInBounds_toArray, List.set_cons_zero, List.set_cons_succ]
    refine wpAnyL_take (i := 2) (v := .string s) (some 21) rfl rfl (by kernel_rfl) (by kernel_rfl) (by kernel_rfl) (by kernel_rfl) (fun _ _ _ h => h) (.inl ⟨rfl, fun W _ => by go_simp⟩) (unhide HSW) ?_
    simp only [Act.put, List.setIfInBounds_toArray, List.set_cons_zero, List.set_cons_succ]
    refine wpAnyL_take (i := 3) (v := .int .i64 (qq : Nat)) (some 22) rfl rfl (by kernel_rfl) (by kernel_rfl) (by kernel_rfl) (by kernel_rfl) (fun _ _ _ h => h) (.inl ⟨rfl, fun W _ => by go_simp⟩) (unhide HSW) ?_
    simp only [Act.put, List.setIfInBounds_toArray, List.set_cons_zero, List.set_cons_succ]
    refine wpAnyL_take (i := 4) (v := .string (s.extract qq s.size)) (some 23) rfl rfl (by kernel_rfl) (by kernel_rfl) (by kernel_rfl) (by kernel_rfl) (fun _ _ _ h => h) (.inl ⟨rfl, fun W _ => by go_simp⟩) (unhide HSW) ?_
    simp only [Act.put, List.setIfInBounds_toArray, List.set_cons_zero, List.set_cons_succ]
    refine wpAnyL_take (i := 5) (v := .string s) (some 24) rfl rfl (by kernel_rfl) (by kernel_rfl) (by kernel_rfl) (by kernel_rfl) (fun _ _ _ h => h) (.inl ⟨rfl, fun W _ => by go_simp⟩) (unhide HSW) ?_
    simp only [Act.put, List.setIfInBounds_toArray, List.set_cons_zero, List.set_cons_succ]
    refine wpAnyL_take (i := 6) (v := .int .i64 (s.size : Nat)) (some 25) rfl rfl (by kernel_rfl) (by kernel_rfl) (by kernel_rfl) (by kernel_rfl) (fun _ _ _ h => h) (.inl ⟨rfl, fun W _ => by go_simp⟩) (unhide HSW) ?_
    simp only [Act.put, List.setIfInBounds_toArray, List.set_cons_zero, List.set_cons_succ]
    refine wpAnyL_take (i := 7) (v := .int .u64 (s.size : Nat)) (some 26) rfl rfl (by kernel_rfl) (by kernel_rfl) (by kernel_rfl) (by kernel_rfl) (fun _ _ _ h => h) (.inl ⟨rfl, fun W _ => by go_simp⟩) (unhide HSW) ?_
    simp only [Act.put, List.setIfInBounds_toArray, List.set_cons_zero, List.set_cons_succ]
    refine wpAnyL_one (i := 8) (by kernel_rfl) ?_
    refine wpOp_step rfl (fun K' hK => ?_)
    go_simp
    refine (unhide HPA _).mono ?_
    rintro e w5 ⟨rfl, ho5⟩
    have hsw := unhide HSW
    have ha5 := old_heap ho5 hsw.1
    have hb5 := old_heap ho5 hsw.2
    refine hK _ _ ⟨fun _ => ⟨ha5, hb5⟩, ?_⟩
    clear hK
    refine wpAnyL_one (i := 9) (by kernel_rfl) ?_
    refine wpOp_step rfl (fun K' hK => ?_)
    go_simp
    rw [if_neg (by omega)]
    go_simp
    refine hK _ _ ⟨fun _ => ⟨ha5, hb5⟩, ?_⟩
    clear hK
    refine wpAnyL_one (i := 10) (by kernel_rfl) ?_
    refine wpOp_step rfl (fun K' hK => ?_)
    go_simp
    refine (unhide HA2 _).mono ?_
    rintro e w6 ⟨rfl, ho6⟩
    have hz6 := old_heap ho6 (old_heap ho5 (show wc.drew.heap[w.heap.size]? = _ from unhide HZ2))
    refine hK _ _ ⟨fun _ => ⟨old_heap ho6 ha5, old_heap ho6 hb5⟩, ?_⟩
    clear hK
    refine wpAnyL_one (i := 11) (by kernel_rfl) ?_
    refine op_plain rfl rfl (wp_store8 (.tmp 2) (.tmp 29) rfl rfl w.heap.size z rfl rfl hz6 ?_)
    refine ⟨fun h => absurd rfl h, wpAnyL_done (by kernel_rfl) ?_⟩
    go_wp2_with fail
    refine bodyPost_ret (v := .agg (u8A z)) (results_cell_row Tryz.results132 _ _ w.heap.size 181 (u8A z) (0, 0) _ rfl (setRow_heap w6 w.heap.size _ (u8A z) _ _ hz6) Tryz.underlying181 rfl infoA8) rfl ⟨by rw [unhide HZZ], ?_⟩
    exact (Only.trans (Only.trans (unhide HO2).drew ho5) ho6).setRow _ (fun h => absurd h (by omega)) _
end Go.Proofs.YtndfmgdhiallpaaGreatDoor
