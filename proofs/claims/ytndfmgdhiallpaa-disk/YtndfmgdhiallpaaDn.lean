/- Contracts of package disk: Names. -/
import Derived.Test.YtndfmgdhiallpaaDm
namespace Go.Proofs.Ytndfmgdhiallpaa
open Go.RowKit

def nameIn (p : ByteArray) (t : Th) : ByteArray := if p.toList == [] then t.p else t.p.extract (p.size + 1) t.p.size
def standsIn (p : ByteArray) (t : Th) : Bool := (upOf t.p).toList == p.toList
def namesOf (ts : List Th) (p : ByteArray) : List ByteArray := (ts.filter (standsIn p)).map (nameIn p)
def okN (ts : List Th) (p : ByteArray) : Bool := (p.toList == []) || !(isOf ts p != 2)
def namesL (ts : List Th) (p : ByteArray) : List ByteArray := if okN ts p then namesOf ts p else []

theorem par_small (s : ByteArray) (n : Nat) : ∀ i fr up u, par s n i fr up = some u → u = up ∨ u.size < s.size := by
  induction n with
  | zero => intro i fr up u h; simp [par] at h; exact .inl h.symm
  | succ n ih =>
    intro i fr up u h
    rw [par] at h
    split at h
    · rename_i hi
      split at h
      · split at h
        · cases h
        · rcases ih _ _ _ _ h with e | e
          · right; rw [e, ByteArray.size_extract]; omega
          · exact .inr e
      · exact ih _ _ _ _ h
    · split at h
      · cases h
      · simp at h; exact .inl h.symm

theorem upOf_small (s : ByteArray) : (upOf s).size = 0 ∨ (upOf s).size < s.size := by
  cases h : parentOf s with
  | none => left; rw [upOf_none h]; rfl
  | some u =>
    rw [upOf_some h]
    rcases par_small s _ _ _ _ _ h with e | e
    · left; rw [e]; rfl
    · exact .inr e

theorem size_toList (s : ByteArray) : s.toList.length = s.size := by rw [ByteArray.toList_eq]; rfl

theorem stands_small {p : ByteArray} {t : Th} (h : ((upOf t.p).toList == p.toList) = true) (hp : (p.toList == []) = false) : p.size + 1 ≤ t.p.size := by
  have e : (upOf t.p).toList = p.toList := by simpa using h
  have e2 : (upOf t.p).size = p.size := by rw [← size_toList, e, size_toList]
  have h0 : p.size ≠ 0 := by
    intro h; rw [← size_toList] at h; rw [List.eq_nil_of_length_eq_zero h] at hp; simp at hp
  rcases upOf_small t.p with e | e <;> omega

theorem namesOf_no {ts : List Th} {p : ByteArray} {k : Nat} (h : k < ts.length) (hs : standsIn p (nth ts k) = false) : namesOf (ts.take (k + 1)) p = namesOf (ts.take k) p := by
  rw [take_snoc_nth ts k h]; simp [namesOf, hs]
theorem namesOf_yes {ts : List Th} {p : ByteArray} {k : Nat} (h : k < ts.length) (hs : standsIn p (nth ts k) = true) : namesOf (ts.take (k + 1)) p = namesOf (ts.take k) p ++ [nameIn p (nth ts k)] := by
  rw [take_snoc_nth ts k h]; simp [namesOf, hs]
theorem namesOf_len (ts : List Th) (p : ByteArray) : (namesOf ts p).length ≤ ts.length := by
  simp [namesOf, List.length_filter_le]

theorem info9 : (Try.prog.info? 9).map (fun i => (i.zero, i.size, i.bytes)) = some (some (.string ⟨#[]⟩), 1, 16) := by kernel_rfl

theorem str_new {w : World} {g : Nat} (hg : g = w.heap.size) (s : ByteArray) : ∀ j u, [Value.string s][j]? = some u → (w.alloc (.cells #[.string s] 9)).cell? ((⟨g, 0, none⟩ : Addr).add j) = some u := by
  subst hg
  intro j u hu
  rw [Addr.add_lit, Nat.zero_add, cell_of_row _ _ j _ 9 (0, 0) (Go.heap_alloc_new w _)]
  simpa using hu

theorem str_one (s : ByteArray) : ∀ u ∈ [Value.string s], u.oneCell' = true := by
  intro u hu; simp at hu; subst hu; rfl

theorem own_only {w w1 w2 : World} {l : Value} {n : Nat} {xs : List Value} (hO : Only (fun _ => False) w w1) (hl : w1.ownsRow w.heap.size 9 1 l n xs) (hg : w1.grownBy w2 l.ownBlock) : Only (fun _ => False) w w2 :=
  hO.transNew (T := fun k => l.ownBlock = some k) ⟨hg.os, hg.tape, hg.output, hg.size, fun k hk hs => hg.block k hk (fun e => hs e.symm)⟩ (fun i hi e => by have := (hl.lt i e).1; omega)

set_option maxHeartbeats 800000 in
theorem names_nil {w : World} {b : Nat} {D : Dsk} (h : DiskAt w b (.slice none 0 0) D) (ht : D.ts = []) (p : ByteArray) :
    Calls Try.prog 9 #[.pointer (some ⟨b, 0, none⟩), .string p] w fun e w' => ∃ l, e = .returned (.tuple #[l, .bool (okN D.ts p)]) ∧ w'.ownsRow w.heap.size 9 1 l (namesL D.ts p).length ((namesL D.ts p).map Value.string) ∧ Only (fun _ => False) w w' := by
  have H12 := hide (fun (w1 : World) (h1 : DiskAt w1 b (.slice none 0 0) D) => is_disk h1 p (by rw [ht]; simp))
  have H := hide h
  have hc := h.cells.1
  have hne : ∀ q, namesOf ([] : List Th) q = [] := fun q => rfl
  unfold namesL okN
  rw [ht] at H12 ⊢
  simp only [hne]
  generalize hf : isOf [] p = f at *
  clear hf h
  cases hpe : (p.toList == []) <;> cases h2 : (f != 2)
  case false.true =>
    go_enter Try.func9, Try.ntmps9
    go_wp2_with (go_at_call 12; refine (unhide H12 _ (unhide H)).mono ?_; rintro e w1 ⟨rfl, n, rfl⟩)
    go_ret2
    exact ⟨_, rfl, World.ownsRow_nil _ _ _ _, (Only.refl _ _).drewN n⟩
  all_goals
    go_enter Try.func9, Try.ntmps9
    go_wp2_with (go_at_call 12; refine (unhide H12 _ (unhide H)).mono ?_; rintro e w1 ⟨rfl, n, rfl⟩)
    go_loop [6, 25] (fun l i => l = .slice none 0 0 ∧ i = .int .i64 0) (fun _ _ => 0)
    case atStart => exact ⟨rfl, rfl⟩
    case round =>
      obtain ⟨rfl, rfl⟩ := hrel
      go_wp2
      go_ret2
      exact ⟨_, rfl, World.ownsRow_nil _ _ _ _, by first | exact (Only.refl _ _).drewN n | exact Only.refl _ _⟩

set_option maxHeartbeats 800000 in
theorem names_some {w : World} {b g cap : Nat} {D : Dsk} (h : DiskAt w b (.slice (some ⟨g, 0, none⟩) D.ts.length cap) D) (p : ByteArray) (hp : p.size ≤ 1000000000000) (hm : D.ts.length ≤ 1000000000000) (hsz : ∀ k, k < D.ts.length → (nth D.ts k).p.size ≤ 1000000000000) :
    Calls Try.prog 9 #[.pointer (some ⟨b, 0, none⟩), .string p] w fun e w' => ∃ l, e = .returned (.tuple #[l, .bool (okN D.ts p)]) ∧ w'.ownsRow w.heap.size 9 1 l (namesL D.ts p).length ((namesL D.ts p).map Value.string) ∧ Only (fun _ => False) w w' := by
  have H12 := hide (fun (w1 : World) (h1 : DiskAt w1 b (.slice (some ⟨g, 0, none⟩) D.ts.length cap) D) => is_disk h1 p hm)
  have H22 := hide (fun (w1 : World) (q : ByteArray) (hq : q.size ≤ 1000000000000) => parent_any q w1 hq)
  have H := hide h
  have hc := h.cells.1
  obtain ⟨i0, hi0, hz0, hz1, hz2⟩ := info_parts info9
  unfold namesL okN
  generalize hf : isOf D.ts p = f at *
  clear hf h
  cases hpe : (p.toList == []) <;> cases h2 : (f != 2)
  case false.true =>
    go_enter Try.func9, Try.ntmps9
    go_wp2_with (go_at_call 12; refine (unhide H12 _ (unhide H)).mono ?_; rintro e w1 ⟨rfl, n, rfl⟩)
    go_ret2
    exact ⟨_, rfl, World.ownsRow_nil _ _ _ _, (Only.refl _ _).drewN n⟩
  case false.false =>
    go_enter Try.func9, Try.ntmps9
    go_wp2_with (go_at_call 12; refine (unhide H12 _ (unhide H)).mono ?_; rintro e w1 ⟨rfl, n, rfl⟩)
    go_loopw [6, 25] (fun l i wr => ∃ j : Nat, j ≤ D.ts.length ∧ i = .int .i64 j ∧ Hid (wr.ownsRow w.heap.size 9 1 l (namesOf (D.ts.take j) p).length ((namesOf (D.ts.take j) p).map Value.string)) ∧ Hid (Only (fun _ => False) w wr)) (fun _ i _ => D.ts.length - (intOf i).toNat)
    case atStart => exact ⟨0, Nat.zero_le _, rfl, World.ownsRow_nil _ _ _ _, by first | exact (Only.refl _ _).drewN n | exact Only.refl _ _⟩
    case round =>
      rename_i l _
      obtain ⟨j, hj, rfl, HL, HR⟩ := hrel
      by_cases hjl : j < D.ts.length
      · obtain ⟨cur, hg, hcap, hcm, hcs, hrow⟩ := ((unhide H).kept (unhide HR) (fun x => x) (fun _ _ x => x)).row
        obtain ⟨r0, r1, r2⟩ := row_cells hg hrow j hjl
        have hts := hsz j hjl
        clear hg hcap hcm hcs hrow
        have HY := hide (namesOf_yes (p := p) hjl)
        have HN := hide (namesOf_no (p := p) hjl)
        unfold standsIn at HY HN
        unfold nameIn at HY
        have HSm := hide (fun (hq : ((upOf (nth D.ts j).p).toList == p.toList) = true) => stands_small hq)
        have hle := Nat.le_trans (namesOf_len (D.ts.take j) p) (List.length_take_le _ _)
        have hbs := (unhide HR).size
        generalize nth D.ts j = t at *
        cases hst : ((upOf t.p).toList == p.toList)
        · go_wp2_with (go_at_call 22; refine (unhide H22 _ _ hts).mono ?_; rintro e w2 ⟨rfl, rfl⟩)
          go_roundw
          case rel =>
            exact ⟨j + 1, by omega, by go_num, by rw [unhide HN hst]; exact (unhide HL).alloc _, (unhide HR).alloc _⟩
          case measure => simp [intOf]; omega
        · have hsm : (p.toList == []) = false → p.size + 1 ≤ t.p.size := unhide HSm hst
          rw [hpe] at hsm HY
          replace hsm := hsm rfl
          have HY' : Hid (namesOf (D.ts.take (j + 1)) p = namesOf (D.ts.take j) p ++ [t.p.extract (p.size + 1) t.p.size]) := (unhide HY hst)
          have HOW : Hid (((wr.alloc (.cells #[.string t.p, .bool t.f, .string t.d] 41)).alloc (.cells #[.string (t.p.extract (p.size + 1) t.p.size)] 9)).ownsRow w.heap.size 9 1 u6 (namesOf (D.ts.take j) p).length ((namesOf (D.ts.take j) p).map Value.string)) := ((unhide HL).alloc _).alloc _
          have HNW := hide (str_new (w := wr.alloc (.cells #[.string t.p, .bool t.f, .string t.d] 41)) (g := wr.heap.size + 1) (by simp) (t.p.extract (p.size + 1) t.p.size))
          clear HY HN HSm
          generalize namesOf (D.ts.take j) p = ns at *
          go_wp2_with (first
            | (go_at_call 22; refine (unhide H22 _ _ hts).mono ?_; rintro e w2 ⟨rfl, rfl⟩)
            | (at_builtin; refine wpList_append_own _ rfl (.tmp 48) (.tmp 50) 29 rfl w.heap.size 9 i0 (.string ⟨#[]⟩) 1 16 Try.underlying29 hi0 hz0 hz1 hz2 rfl (by decide) u6 _ _ rfl (unhide HOW) ⟨wr.heap.size + 1, 0, none⟩ 1 1 [.string (t.p.extract (p.size + 1) t.p.size)] rfl rfl (unhide HNW) (str_one _) (by unfold maxLen; omega) (by omega) (by simp; omega) ?_; intro l' w3 ho3 hg3 _; have HO3 := hide ho3; have HG3 := hide hg3; clear ho3 hg3))
          go_roundw
          case rel =>
            refine ⟨j + 1, by omega, by go_num, ?_, ?_⟩
            · rw [unhide HY']; refine hide ?_; simpa using unhide HO3
            · exact own_only (((unhide HR).alloc _).alloc _) (unhide HOW) (unhide HG3)
          case measure => simp [intOf]; omega
      · have HE : Hid (D.ts.take j = D.ts) := List.take_of_length_le (by omega)
        go_wp2
        go_ret2
        refine ⟨_, rfl, ?_, unhide HR⟩
        have := unhide HL
        rw [unhide HE] at this
        simpa using this
  all_goals
    go_enter Try.func9, Try.ntmps9
    go_wp2_with (go_at_call 12; refine (unhide H12 _ (unhide H)).mono ?_; rintro e w1 ⟨rfl, n, rfl⟩)
    go_loopw [6, 25] (fun l i wr => ∃ j : Nat, j ≤ D.ts.length ∧ i = .int .i64 j ∧ Hid (wr.ownsRow w.heap.size 9 1 l (namesOf (D.ts.take j) p).length ((namesOf (D.ts.take j) p).map Value.string)) ∧ Hid (Only (fun _ => False) w wr)) (fun _ i _ => D.ts.length - (intOf i).toNat)
    case atStart => exact ⟨0, Nat.zero_le _, rfl, World.ownsRow_nil _ _ _ _, by first | exact (Only.refl _ _).drewN n | exact Only.refl _ _⟩
    case round =>
      rename_i l _
      obtain ⟨j, hj, rfl, HL, HR⟩ := hrel
      by_cases hjl : j < D.ts.length
      · obtain ⟨cur, hg, hcap, hcm, hcs, hrow⟩ := ((unhide H).kept (unhide HR) (fun x => x) (fun _ _ x => x)).row
        obtain ⟨r0, r1, r2⟩ := row_cells hg hrow j hjl
        have hts := hsz j hjl
        clear hg hcap hcm hcs hrow
        have HY := hide (namesOf_yes (p := p) hjl)
        have HN := hide (namesOf_no (p := p) hjl)
        unfold standsIn at HY HN
        unfold nameIn at HY
        have HSm := hide (fun (hq : ((upOf (nth D.ts j).p).toList == p.toList) = true) => stands_small hq)
        have hle := Nat.le_trans (namesOf_len (D.ts.take j) p) (List.length_take_le _ _)
        have hbs := (unhide HR).size
        generalize nth D.ts j = t at *
        cases hst : ((upOf t.p).toList == p.toList)
        · go_wp2_with (go_at_call 22; refine (unhide H22 _ _ hts).mono ?_; rintro e w2 ⟨rfl, rfl⟩)
          go_roundw
          case rel =>
            exact ⟨j + 1, by omega, by go_num, by rw [unhide HN hst]; exact (unhide HL).alloc _, (unhide HR).alloc _⟩
          case measure => simp [intOf]; omega
        · have hsm : (p.toList == []) = false → p.size + 1 ≤ t.p.size := unhide HSm hst
          rw [hpe] at hsm HY
          clear hsm
          have HY' : Hid (namesOf (D.ts.take (j + 1)) p = namesOf (D.ts.take j) p ++ [t.p]) := (unhide HY hst)
          have HOW : Hid (((wr.alloc (.cells #[.string t.p, .bool t.f, .string t.d] 41)).alloc (.cells #[.string (t.p)] 9)).ownsRow w.heap.size 9 1 u6 (namesOf (D.ts.take j) p).length ((namesOf (D.ts.take j) p).map Value.string)) := ((unhide HL).alloc _).alloc _
          have HNW := hide (str_new (w := wr.alloc (.cells #[.string t.p, .bool t.f, .string t.d] 41)) (g := wr.heap.size + 1) (by simp) (t.p))
          clear HY HN HSm
          generalize namesOf (D.ts.take j) p = ns at *
          go_wp2_with (first
            | (go_at_call 22; refine (unhide H22 _ _ hts).mono ?_; rintro e w2 ⟨rfl, rfl⟩)
            | (at_builtin; refine wpList_append_own _ rfl (.tmp 48) (.tmp 50) 29 rfl w.heap.size 9 i0 (.string ⟨#[]⟩) 1 16 Try.underlying29 hi0 hz0 hz1 hz2 rfl (by decide) u6 _ _ rfl (unhide HOW) ⟨wr.heap.size + 1, 0, none⟩ 1 1 [.string (t.p)] rfl rfl (unhide HNW) (str_one _) (by unfold maxLen; omega) (by omega) (by simp; omega) ?_; intro l' w3 ho3 hg3 _; have HO3 := hide ho3; have HG3 := hide hg3; clear ho3 hg3))
          go_roundw
          case rel =>
            refine ⟨j + 1, by omega, by go_num, ?_, ?_⟩
            · rw [unhide HY']; refine hide ?_; simpa using unhide HO3
            · exact own_only (((unhide HR).alloc _).alloc _) (unhide HOW) (unhide HG3)
          case measure => simp [intOf]; omega
      · have HE : Hid (D.ts.take j = D.ts) := List.take_of_length_le (by omega)
        go_wp2
        go_ret2
        refine ⟨_, rfl, ?_, unhide HR⟩
        have := unhide HL
        rw [unhide HE] at this
        simpa using this

theorem names_disk {w : World} {b : Nat} {v : Value} {D : Dsk} (h : DiskAt w b v D) (p : ByteArray) (hp : p.size ≤ 1000000000000) (hm : D.ts.length ≤ 1000000000000) (hsz : ∀ k, k < D.ts.length → (nth D.ts k).p.size ≤ 1000000000000) :
    Calls Try.prog 9 #[.pointer (some ⟨b, 0, none⟩), .string p] w fun e w' => ∃ l, e = .returned (.tuple #[l, .bool (okN D.ts p)]) ∧ w'.ownsRow w.heap.size 9 1 l (namesL D.ts p).length ((namesL D.ts p).map Value.string) ∧ Only (fun _ => False) w w' := by
  rcases h.2.1 with ⟨rfl, ht⟩ | ⟨g, cap, cur, rfl, _⟩
  · exact names_nil h ht p
  · exact names_some h p hp hm hsz
end Go.Proofs.Ytndfmgdhiallpaa
