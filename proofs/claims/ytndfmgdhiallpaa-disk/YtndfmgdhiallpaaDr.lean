/- The law Disk: the closed example, call by call. -/
import Derived.Test.YtndfmgdhiallpaaDq
namespace Go.Proofs.Ytndfmgdhiallpaa
open Go.RowKit

/-- The disk at b, made since w0. -/
structure St (w0 w : World) (b : Nat) (v : Value) (D : Dsk) : Prop where
  disk : DiskAt w b v D
  below : Below w0.heap.size w0 w
  own : ∀ k, v.ownBlock = some k → w0.heap.size ≤ k
  hb : w0.heap.size ≤ b

theorem St.turn {w0 w w' : World} {b : Nat} {v : Value} {D D' : Dsk} (h : St w0 w b v D) (ht : Turn w w' b v D') : ∃ v', St w0 w' b v' D' ∧ Only (fun k => k = b ∨ v.ownBlock = some k) w w' ∧ (v'.ownBlock = v.ownBlock ∨ ∀ k, v'.ownBlock = some k → w.heap.size ≤ k) := by
  obtain ⟨v', hd, ho, hv⟩ := ht
  refine ⟨v', ⟨hd, h.below.trans (ho.below _ h.below.size ?_), ?_, h.hb⟩, ho, hv⟩
  · rintro k hk (e | e)
    · have := h.hb; omega
    · have := h.own k e; omega
  · intro k hk
    rcases hv with e | e
    · exact h.own k (e ▸ hk)
    · exact Nat.le_trans h.below.size (e k hk)

theorem St.drewN {w0 w : World} {b : Nat} {v : Value} {D : Dsk} (h : St w0 w b v D) (n : Nat) : St w0 (w.drewN n) b v D := ⟨h.disk.drewN n, ⟨h.below.os, h.below.tape, h.below.output, h.below.size, h.below.block⟩, h.own, h.hb⟩
theorem St.only {w0 w w' : World} {b : Nat} {v : Value} {D : Dsk} (h : St w0 w b v D) (ho : Only (fun _ => False) w w') : St w0 w' b v D :=
  ⟨h.disk.kept ho (fun x => x) (fun _ _ x => x), h.below.trans (ho.below _ h.below.size (fun _ _ x => x)), h.own, h.hb⟩

theorem new_st (w : World) : St w (w.alloc (.cells #[.slice none 0 0, .int .i64 (-1), .int .i64 (-1), .int .i64 0, .bool false] 38)) w.heap.size (.slice none 0 0) D0 :=
  ⟨⟨Go.heap_alloc_new w _, Thg.nil _, by intro e; cases e⟩, (Below.refl _ _).alloc (Nat.le_refl _) _, (by intro k e; cases e), Nat.le_refl _⟩

theorem sz4 : ∀ k, k < D4.ts.length → (nth D4.ts k).p.size ≤ 1000000000000 := by
  intro k hk
  match k, hk with
  | 0, _ => decide
  | 1, _ => decide
  | k + 2, hk => exact absurd hk (by simp [D4])
theorem sz5 : ∀ k, k < D5.ts.length → (nth D5.ts k).p.size ≤ 1000000000000 := by
  intro k hk
  match k, hk with
  | 0, _ => decide
  | 1, _ => decide
  | k + 2, hk => exact absurd hk (by simp [D5])
theorem c1 {w : World} {b : Nat} {v : Value} (h : DiskAt w b v D0) : Calls Try.prog 5 #[.pointer (some ⟨b, 0, none⟩), .string ⟨#[97]⟩] w fun e w' => e = .returned (.int .i64 0) ∧ Turn w w' b v D1 := by
  have := mkdir_disk (D := D0) h sA (by decide) (by decide); rwa [e1] at this
theorem c2 {w : World} {b : Nat} {v : Value} (h : DiskAt w b v D1) : Calls Try.prog 6 #[.pointer (some ⟨b, 0, none⟩), .string ⟨#[97, 47, 98]⟩, .string ⟨#[120, 121, 122]⟩] w fun e w' => e = .returned (.int .i64 0) ∧ Turn w w' b v D2 := by
  have := write_disk (D := D1) h sAB sXYZ (by decide) (by decide) (by decide) (by decide); rwa [e2] at this
theorem c3 {w : World} {b : Nat} {v : Value} (h : DiskAt w b v D2) : Calls Try.prog 6 #[.pointer (some ⟨b, 0, none⟩), .string ⟨#[97, 47, 98]⟩, .string ⟨#[]⟩] w fun e w' => e = .returned (.int .i64 2) ∧ Turn w w' b v D3 := by
  have := write_disk (D := D2) h sAB s0 (by decide) (by decide) (by decide) (by decide); rwa [e3] at this
theorem c4 {w : World} {b : Nat} {v : Value} (h : DiskAt w b v D3) : Calls Try.prog 5 #[.pointer (some ⟨b, 0, none⟩), .string ⟨#[113, 47, 114]⟩] w fun e w' => e = .returned (.int .i64 1) ∧ Turn w w' b v D4 := by
  have := mkdir_disk (D := D3) h sQR (by decide) (by decide); rwa [e4] at this
theorem c5 {w : World} {b : Nat} {v : Value} (h : DiskAt w b v D4) : Calls Try.prog 7 #[.pointer (some ⟨b, 0, none⟩), .string ⟨#[97]⟩, .string ⟨#[99]⟩] w fun e w' => e = .returned (.int .i64 0) ∧ Turn w w' b v D5 := by
  have := rename_disk (D := D4) h sA sC (by decide) (by decide) (by decide) sz4; rwa [e5] at this
theorem c6 {w : World} {b : Nat} {v : Value} (h : DiskAt w b v D5) : Calls Try.prog 10 #[.pointer (some ⟨b, 0, none⟩), .string ⟨#[99]⟩] w fun e w' => e = .returned (.int .i64 2) ∧ Turn w w' b v D6 := by
  have := remove_disk (D := D5) h sC (by decide) (by decide); rwa [e6] at this
theorem c8 {w : World} {b : Nat} {v : Value} (h : DiskAt w b v D7) : Calls Try.prog 6 #[.pointer (some ⟨b, 0, none⟩), .string ⟨#[120]⟩, .string ⟨#[102, 111, 117, 114]⟩] w fun e w' => e = .returned (.int .i64 3) ∧ Turn w w' b v D8 := by
  have := write_disk (D := D7) h sX sFour (by decide) (by decide) (by decide) (by decide); rwa [e8] at this
theorem c9 {w : World} {b : Nat} {v : Value} (h : DiskAt w b v D8) : Calls Try.prog 6 #[.pointer (some ⟨b, 0, none⟩), .string ⟨#[120]⟩, .string ⟨#[97, 98, 99]⟩] w fun e w' => e = .returned (.int .i64 0) ∧ Turn w w' b v D9 := by
  have := write_disk (D := D8) h sX sABC (by decide) (by decide) (by decide) (by decide); rwa [e9] at this
theorem c11 {w : World} {b : Nat} {v : Value} (h : DiskAt w b v D10) : Calls Try.prog 10 #[.pointer (some ⟨b, 0, none⟩), .string ⟨#[120]⟩] w fun e w' => e = .returned (.int .i64 0) ∧ Turn w w' b v D11 := by
  have := remove_disk (D := D10) h sX (by decide) (by decide); rwa [e11] at this
theorem c12 {w : World} {b : Nat} {v : Value} (h : DiskAt w b v D11) : Calls Try.prog 10 #[.pointer (some ⟨b, 0, none⟩), .string ⟨#[99, 47, 98]⟩] w fun e w' => e = .returned (.int .i64 4) ∧ Turn w w' b v D12 := by
  have := remove_disk (D := D11) h sCB (by decide) (by decide); rwa [e12] at this
theorem ch {w : World} {b : Nat} {v : Value} (h : DiskAt w b v H0) : Calls Try.prog 10 #[.pointer (some ⟨b, 0, none⟩), .string ⟨#[99, 47, 98]⟩] w fun e w' => e = .returned (.int .i64 0) ∧ Turn w w' b v H1 := by
  have := remove_disk (D := H0) h sCB (by decide) (by decide); rwa [eh] at this
theorem cr {w : World} {b : Nat} {v : Value} (h : DiskAt w b v D5) : Calls Try.prog 8 #[.pointer (some ⟨b, 0, none⟩), .string ⟨#[99, 47, 98]⟩] w fun e w' => e = .returned (.tuple #[.string ⟨#[120, 121, 122]⟩, .bool true]) ∧ ∃ n, w' = w.drewN n := by
  have := read_disk (D := D5) h sCB (by decide); rwa [er, ef] at this
theorem cn {w : World} {b : Nat} {v : Value} (h : DiskAt w b v D5) : Calls Try.prog 9 #[.pointer (some ⟨b, 0, none⟩), .string ⟨#[99]⟩] w fun e w' => ∃ l, e = .returned (.tuple #[l, .bool true]) ∧ w'.ownsRow w.heap.size 9 1 l 1 [.string ⟨#[98]⟩] ∧ Only (fun _ => False) w w' := by
  have := names_disk (D := D5) h sC (by decide) (by decide) sz5; rwa [en, eo] at this
theorem ci1 {w : World} {b : Nat} {v : Value} (h : DiskAt w b v D6) : Calls Try.prog 12 #[.pointer (some ⟨b, 0, none⟩), .string ⟨#[97]⟩] w fun e w' => e = .returned (.int .i64 0) ∧ ∃ n, w' = w.drewN n := by
  have := is_disk (D := D6) h sA (by decide); rwa [i1] at this
theorem ci2 {w : World} {b : Nat} {v : Value} (h : DiskAt w b v D6) : Calls Try.prog 12 #[.pointer (some ⟨b, 0, none⟩), .string ⟨#[99]⟩] w fun e w' => e = .returned (.int .i64 2) ∧ ∃ n, w' = w.drewN n := by
  have := is_disk (D := D6) h sC (by decide); rwa [i2] at this
theorem ci3 {w : World} {b : Nat} {v : Value} (h : DiskAt w b v D6) : Calls Try.prog 12 #[.pointer (some ⟨b, 0, none⟩), .string ⟨#[99, 47, 98]⟩] w fun e w' => e = .returned (.int .i64 1) ∧ ∃ n, w' = w.drewN n := by
  have := is_disk (D := D6) h sCB (by decide); rwa [i3] at this
theorem ci4 {w : World} {b : Nat} {v : Value} (h : DiskAt w b v D12) : Calls Try.prog 12 #[.pointer (some ⟨b, 0, none⟩), .string ⟨#[99, 47, 98]⟩] w fun e w' => e = .returned (.int .i64 1) ∧ ∃ n, w' = w.drewN n := by
  have := is_disk (D := D12) h sCB (by decide); rwa [i4] at this

/-- Two disks, apart from one another. -/
structure Two (w0 w : World) (b : Nat) (v : Value) (D : Dsk) (b2 : Nat) (v2 : Value) (H : Dsk) : Prop where
  a : St w0 w b v D
  c : St w0 w b2 v2 H
  ne : b2 ≠ b
  n1 : v2.ownBlock ≠ some b
  n2 : v.ownBlock ≠ some b2
  n3 : ∀ k, v.ownBlock = some k → v2.ownBlock ≠ some k

theorem Two.swap {w0 w : World} {b b2 : Nat} {v v2 : Value} {D H : Dsk} (h : Two w0 w b v D b2 v2 H) : Two w0 w b2 v2 H b v D := ⟨h.c, h.a, h.ne.symm, h.n2, h.n1, fun k hk e => h.n3 k e hk⟩
theorem Two.turn {w0 w w' : World} {b b2 : Nat} {v v2 : Value} {D H D' : Dsk} (h : Two w0 w b v D b2 v2 H) (ht : Turn w w' b v D') : ∃ v', Two w0 w' b v' D' b2 v2 H := by
  obtain ⟨v', hs, ho, hv⟩ := h.a.turn ht
  have hlt := h.c.disk.lt
  have hvl := h.c.disk.2.1.lt
  refine ⟨v', hs, ⟨h.c.disk.kept ho ?_ ?_, hs.below, h.c.own, h.c.hb⟩, h.ne, h.n1, ?_, ?_⟩
  · rintro (e | e)
    · exact h.ne e
    · exact h.n2 e
  · rintro k hk (e | e)
    · subst e; exact h.n1 hk
    · exact h.n3 k e hk
  · intro e
    rcases hv with x | x
    · exact h.n2 (x ▸ e)
    · have := x b2 e; omega
  · intro k hk e
    rcases hv with x | x
    · exact h.n3 k (x ▸ hk) e
    · have := x k hk; have := hvl k e; omega
theorem Two.turn2 {w0 w w' : World} {b b2 : Nat} {v v2 : Value} {D H H' : Dsk} (h : Two w0 w b v D b2 v2 H) (ht : Turn w w' b2 v2 H') : ∃ v', Two w0 w' b v D b2 v' H' := by
  obtain ⟨v', h'⟩ := h.swap.turn ht
  exact ⟨v', h'.swap⟩
theorem Two.drewN {w0 w : World} {b b2 : Nat} {v v2 : Value} {D H : Dsk} (h : Two w0 w b v D b2 v2 H) (n : Nat) : Two w0 (w.drewN n) b v D b2 v2 H := ⟨h.a.drewN n, h.c.drewN n, h.ne, h.n1, h.n2, h.n3⟩

theorem copy_two {w0 w w' : World} {b b2 : Nat} {v v2 : Value} {D H : Dsk} (h : St w0 w b v D) (hb : w.heap.size ≤ b2) (hd : DiskAt w' b2 v2 H) (hv : ∀ k, v2.ownBlock = some k → w.heap.size ≤ k) (ho : Only (fun _ => False) w w') : Two w0 w' b v D b2 v2 H := by
  have hlt := h.disk.lt
  have hvl := h.disk.2.1.lt
  have hsz := h.below.size
  refine ⟨h.only ho, ⟨hd, (h.only ho).below, fun k hk => Nat.le_trans hsz (hv k hk), Nat.le_trans hsz hb⟩, by omega, ?_, ?_, ?_⟩
  · intro e; have := hv b e; omega
  · intro e; have := hvl b2 e; omega
  · intro k hk e; have := hvl k hk; have := hv k e; omega

/-- The names that came out, behind a later call on the disk. -/
theorem names_kept {w0 w7 w8 w9 : World} {b : Nat} {v v' l : Value} {D D' : Dsk} (h : St w0 w7 b v D) (hl : w8.ownsRow w7.heap.size 9 1 l 1 [.string ⟨#[98]⟩]) (ho : Only (fun k => k = b ∨ v.ownBlock = some k) w8 w9) (_h9 : St w0 w9 b v' D') :
    ∃ gl cap, l = .slice (some ⟨gl, 0, none⟩) 1 cap ∧ w9.cell? ⟨gl, 0, none⟩ = some (.string ⟨#[98]⟩) := by
  have hlt := h.disk.lt
  have hvl := h.disk.2.1.lt
  rcases hl.2 with ⟨_, h0⟩ | ⟨gl, cap, cur, rfl, hb, hg, h1, h2, h3, h4⟩
  · omega
  · refine ⟨gl, cap, rfl, ?_⟩
    rw [ho.cell (p := ⟨gl, 0, none⟩) (Array.getElem?_eq_some_iff.1 hg).1 ?_, cell_of_row _ _ _ _ _ _ hg]
    · have e : (cur.toList.take (1 * 1))[0]? = some (.string ⟨#[98]⟩) := by rw [h4]; rfl
      rw [List.getElem?_take, if_pos (by omega)] at e
      simpa using e
    · rintro (e | e)
      · simp at e; omega
      · have := hvl gl e; omega

set_option maxHeartbeats 1600000 in
set_option maxRecDepth 100000 in
theorem disk_walk (w : World) : Calls Try.prog 3 #[] w fun e w' => e = .returned (.bool true) ∧ Below w.heap.size w w' := by
  go_enter Try.func3, Try.ntmps3
  go_wp2_with fail
  refine (new_any _).mono ?_
  rintro e w1 ⟨rfl, rfl⟩
  go_wp2_with fail
  have S0 := hide (new_st w)
  generalize w.alloc (.cells #[.slice none 0 0, .int .i64 (-1), .int .i64 (-1), .int .i64 0, .bool false] 38) = w1 at *
  generalize w.heap.size = b at *
  refine (c1 (unhide S0).disk).mono ?_
  rintro e w2 ⟨rfl, ht⟩
  obtain ⟨v1, s1, _⟩ := (unhide S0).turn ht
  have S1 := hide s1
  clear s1 ht S0
  go_wp2_with fail
  refine (c2 (unhide S1).disk).mono ?_
  rintro e w3 ⟨rfl, ht⟩
  obtain ⟨v2, s2, _⟩ := (unhide S1).turn ht
  have S2 := hide s2
  clear s2 ht S1
  go_wp2_with fail
  refine (c3 (unhide S2).disk).mono ?_
  rintro e w4 ⟨rfl, ht⟩
  obtain ⟨v3, s3, _⟩ := (unhide S2).turn ht
  have S3 := hide s3
  clear s3 ht S2
  go_wp2_with fail
  refine (c4 (unhide S3).disk).mono ?_
  rintro e w5 ⟨rfl, ht⟩
  obtain ⟨v4, s4, _⟩ := (unhide S3).turn ht
  have S4 := hide s4
  clear s4 ht S3
  go_wp2_with fail
  refine (c5 (unhide S4).disk).mono ?_
  rintro e w6 ⟨rfl, ht⟩
  obtain ⟨v5, s5, _⟩ := (unhide S4).turn ht
  have S5 := hide s5
  clear s5 ht S4
  go_wp2_with fail
  refine (cr (unhide S5).disk).mono ?_
  rintro e w7 ⟨rfl, n, rfl⟩
  have S5' := hide ((unhide S5).drewN n)
  generalize w6.drewN n = w7 at *
  clear S5
  go_wp2_with fail
  refine (cn (unhide S5').disk).mono ?_
  rintro e w8 ⟨l, rfl, hl, ho⟩
  have HL := hide hl
  have S6 := hide ((unhide S5').only ho)
  clear hl ho
  go_wp2_with fail
  refine (c6 (unhide S6).disk).mono ?_
  rintro e w9 ⟨rfl, ht⟩
  obtain ⟨v6, s7, ho, _⟩ := (unhide S6).turn ht
  obtain ⟨gl, cap, rfl, hcl⟩ := names_kept (unhide S5') (unhide HL) ho s7
  have S7 := hide s7
  clear s7 ht S6 S5' HL ho
  go_wp2_with fail
  refine (steps_disk (unhide S7).disk).mono ?_
  rintro e w10 ⟨rfl, rfl⟩
  go_wp2_with fail
  clear hcl
  refine (ci1 (unhide S7).disk).mono ?_
  rintro e w11 ⟨rfl, n1, rfl⟩
  have S8 := hide ((unhide S7).drewN n1)
  generalize w10.drewN n1 = w11 at *
  clear S7
  go_wp2_with fail
  refine (ci2 (unhide S8).disk).mono ?_
  rintro e w12 ⟨rfl, n2, rfl⟩
  have S9 := hide ((unhide S8).drewN n2)
  generalize w11.drewN n2 = w12 at *
  clear S8
  go_wp2_with fail
  refine (ci3 (unhide S9).disk).mono ?_
  rintro e w13 ⟨rfl, n3, rfl⟩
  have S10 := hide ((unhide S9).drewN n3)
  generalize w12.drewN n3 = w13 at *
  clear S9
  go_wp2_with fail
  refine (copy_disk (unhide S10).disk (by decide)).mono ?_
  rintro e w14 ⟨b2, u0, rfl, hb2, hd2, hv2, ho2⟩
  have T0 : Hid (Two w w14 b v6 D6 b2 u0 H0) := copy_two (unhide S10) hb2 hd2 hv2 ho2
  clear hb2 hd2 hv2 ho2 S10
  go_wp2_with fail
  refine (room_disk (unhide T0).a.disk 3).mono ?_
  rintro e w15 ⟨rfl, hd, ho⟩
  obtain ⟨v7, t1⟩ := (unhide T0).turn (Turn.of hd ho)
  have T1 : Hid (Two w w15 b v7 D7 b2 u0 H0) := t1
  clear t1 hd ho T0
  go_wp2_with fail
  refine (c8 (unhide T1).a.disk).mono ?_
  rintro e w16 ⟨rfl, ht⟩
  obtain ⟨v8, t2⟩ := (unhide T1).turn ht
  have T2 := hide t2
  clear t2 ht T1
  go_wp2_with fail
  refine (c9 (unhide T2).a.disk).mono ?_
  rintro e w17 ⟨rfl, ht⟩
  obtain ⟨v9, t3⟩ := (unhide T2).turn ht
  have T3 := hide t3
  clear t3 ht T2
  go_wp2_with fail
  refine (stop_disk (unhide T3).a.disk 1).mono ?_
  rintro e w18 ⟨rfl, hd, ho⟩
  obtain ⟨v10, t4⟩ := (unhide T3).turn (Turn.of hd ho)
  have T4 : Hid (Two w w18 b v10 D10 b2 u0 H0) := t4
  clear t4 hd ho T3
  go_wp2_with fail
  refine (c11 (unhide T4).a.disk).mono ?_
  rintro e w19 ⟨rfl, ht⟩
  obtain ⟨v11, t5⟩ := (unhide T4).turn ht
  have T5 := hide t5
  clear t5 ht T4
  go_wp2_with fail
  refine (c12 (unhide T5).a.disk).mono ?_
  rintro e w20 ⟨rfl, ht⟩
  obtain ⟨v12, t6⟩ := (unhide T5).turn ht
  have T6 := hide t6
  clear t6 ht T5
  go_wp2_with fail
  refine (ch (unhide T6).c.disk).mono ?_
  rintro e w21 ⟨rfl, ht⟩
  obtain ⟨u1, t7⟩ := (unhide T6).turn2 ht
  have T7 := hide t7
  clear t7 ht T6
  go_wp2_with fail
  refine (down_disk (unhide T7).a.disk).mono ?_
  rintro e w22 ⟨rfl, rfl⟩
  go_wp2_with fail
  refine (ci4 (unhide T7).a.disk).mono ?_
  rintro e w23 ⟨rfl, n4, rfl⟩
  have T8 := hide ((unhide T7).drewN n4)
  generalize w22.drewN n4 = w23 at *
  clear T7
  go_wp2_with fail
  refine (down_disk (unhide T8).c.disk).mono ?_
  rintro e w24 ⟨rfl, rfl⟩
  go_wp2
  go_ret
  exact ⟨rfl, (unhide T8).a.below⟩
end Go.Proofs.Ytndfmgdhiallpaa
