import Derived.Test.YtndfmgdhiallpaaGreatDoorOj
namespace Go.Proofs.YtndfmgdhiallpaaGreatDoor
open Go.RowKit Go.Maps
def LK (e : TypeId) (k : Nat) (w w' : World) : Prop := ∀ v n xs, w.ownsRow 0 e k v n xs → w'.ownsRow 0 e k v n xs
theorem LK.trans {e : TypeId} {k : Nat} {a b c : World} (h : LK e k a b) (h2 : LK e k b c) : LK e k a c := fun v n xs hv => h2 v n xs (h v n xs hv)
theorem LK.of {e : TypeId} {k : Nat} {S : Nat → Prop} {w w' : World} (ho : Only S w w') (hs : ∀ g cur, w.heap[g]? = some (.cells cur e (0, 0)) → ¬ S g) : LK e k w w' := fun v n xs hv => ownk_kept hv ho (fun b hb => by
 obtain ⟨cur, hg⟩ := ownk_heap hv hb
 exact hs b cur hg)
theorem fit_start {wq : World} {e : TypeId} {k : Nat} {el : ByteArray → List Value} {R : List (Value × ByteArray)} {v : Value} (hq : ∀ x, x ∈ R → Full wq e k el x.1 x.2) (hb : ∀ g, v.ownBlock = some g → wq.heap.size ≤ g) (n : Nat) : ∀ x, x ∈ R → Fit x.1 v n := by
 intro x hx ao q cap hx1 h0 g ha hv
 obtain ⟨ao2, q2, cap2, e2, _, hz⟩ := hq x hx
 rw [hx1] at e2
 injection e2 with e3 e4 e5
 subst e3 e4
 rcases hz with hz | ⟨g2, cur, h2, hg2, _⟩
 ·exact absurd hz h0
 ·rw [ha] at h2
  injection h2 with h2
  injection h2 with h2
  subst h2
  have h3 := (Array.getElem?_eq_some_iff.1 hg2).1
  have h4 := hb g hv
  omega
theorem fit_push {R : List (Value × ByteArray)} {v : Value} {ao : Option Addr} {n cap : Nat} {m : ByteArray} (h : ∀ x, x ∈ R → Fit x.1 v n) (hv : v = .slice ao n cap) : ∀ x, x ∈ R ++ [(v, m)] → Fit x.1 v n := by
 intro x hx
 rcases List.mem_append.1 hx with hx | hx
 ·exact h x hx
 ·rw [List.mem_singleton] at hx
  subst hx
  intro ao2 q cap2 e _ g _ _
  simp only at e
  rw [hv] at e
  injection e with _ e _
  omega
theorem fit_next {V : World} {e : TypeId} {k : Nat} {el : ByteArray → List Value} {R : List (Value × ByteArray)} {v : Value} {n g cap : Nat} (h : ∀ x, x ∈ R → Fit x.1 v n) (hf : ∀ x, x ∈ R → Full V e k el x.1 x.2) (hl : v.ownBlock = some g ∨ g = V.heap.size) : ∀ x, x ∈ R → Fit x.1 (.slice (some ⟨g, 0, none⟩) (n + 1) cap) (n + 1) := by
 intro x hx ao q cap2 hx1 h0 g2 ha hv
 have e : g = g2 := Option.some.inj hv
 subst e
 rcases hl with hl | hl
 ·have := h x hx ao q cap2 hx1 h0 g ha hl
  omega
 ·obtain ⟨ao2, q2, cap3, e2, _, hz⟩ := hf x hx
  rw [hx1] at e2
  injection e2 with e3 e4 e5
  subst e3 e4
  rcases hz with hz | ⟨g3, cur, h2, hg2, _⟩
  ·exact absurd hz h0
  ·rw [ha] at h2
   injection h2 with h2
   injection h2 with h2
   subst h2
   have h3 := (Array.getElem?_eq_some_iff.1 hg2).1
   omega
def Inv2F (w1 w wr : World) (b c n j : Nat) (m : ByteArray) (_RF RL RT : List (Value × ByteArray)) (l : Value) : Prop := ∃ s2 R2, WLs w1 wr b (c + 1) s2 R2 RL RT ∧ R2.length ≤ 4 * c + j ∧ wr.ownsRow 0 tF 2 l (n + j) ((List.replicate (n + j) (elF m)).flatten) ∧ (∀ g, l.ownBlock = some g → w1.heap.size ≤ g) ∧ (∀ x, x ∈ R2 → Fit x.1 l (n + j)) ∧ LK tL 2 w wr
def Inv2L (w1 w wr : World) (b c n j : Nat) (m : ByteArray) (RF _RL RT : List (Value × ByteArray)) (l : Value) : Prop := ∃ s2 R2, WLs w1 wr b (c + 1) s2 RF R2 RT ∧ R2.length ≤ 4 * c + j ∧ wr.ownsRow 0 tL 2 l (n + j) ((List.replicate (n + j) (elL m)).flatten) ∧ (∀ g, l.ownBlock = some g → w1.heap.size ≤ g) ∧ (∀ x, x ∈ R2 → Fit x.1 l (n + j)) ∧ LK tF 2 w wr
set_option maxRecDepth 100000 in
set_option maxHeartbeats 16000000 in
theorem filesOfC {w1 wq : World} {b c : Nat} {s : WS} {RF RL RT : List (Value × ByteArray)} (hc : c ≤ 100000000) (w : World) (h : WLs w1 w b c s RF RL RT) (ao : Option Addr) (n cap : Nat) (hn : n ≤ 1000000) (xs : List Value) (hv : w.ownsRow 0 tF 2 (.slice ao n cap) n xs) (hb : ∀ g, (Value.slice ao n cap).ownBlock = some g → wq.heap.size ≤ g ∧ w1.heap.size ≤ g) (hq : ∀ x, x ∈ RF → Full wq tF 2 elF x.1 x.2) :
 Calls Tryz.prog 116 #[.pointer (some ⟨b, 0, none⟩), .slice ao n cap] w fun r w' => r = .returned (.tuple #[]) ∧ LK tL 2 w w' ∧ ∃ s' R', WLs w1 w' b (c + 1) s' R' RL RT := by
 have H1 := hide (markC s c (by omega) b w h.hp)
 have HL := hide h
 have hfT := h.few.1
 have HQ := hide hq
 have HV := hide (fun m => ParC.start (el := elF) hv hb m)
 have HB := hide hb
 clear h hq hv hb
 go_enter Tryz.func116, Tryz.ntmps116
 go_wp2_with fail
 refine (uh H1).mono ?_
 rintro r w2 ⟨m, rfl, ho2, hp2⟩
 have HL2 := hide ((uh HL).rec_ ho2 hp2 (by omega) rfl rfl rfl rfl rfl rfl)
 have HP2 := hide ((uh HV m).kept ho2 (fun g cur hg e => kinds (e ▸ hg) (uh HL).hp (by decide)))
 have HO2 : Hid (LK tL 2 w w2) := LK.of ho2 (fun g cur hg e => kinds (e ▸ hg) (uh HL).hp (by decide))
 clear ho2 hp2 H1 HL HV
 go_wp2_with fail
 go_loopw [5] (fun x wr => ∃ i : Nat, i ≤ n ∧ x = .int .i64 i ∧ Hid (WLs w1 wr b (c + 1) s RF RL RT) ∧ Hid (ParC wq w1 wr tF 2 elF ao n cap m i) ∧ Hid (LK tL 2 w wr)) (fun x _ => n - (intOf x).toNat)
 case atStart => exact ⟨0, by omega, rfl, HL2, HP2, HO2⟩
 case round =>
  clear HL2 HP2 HO2
  obtain ⟨i, hi, rfl, HL, HP, HO⟩ := hrel
  by_cases hil : i < n
  ·have hilI : (i : Int) < (n : Int) := by omega
   obtain ⟨g, cur, ha, hg, hnc, hcm, hcs, hgq, hg1, hfil⟩ : ∃ g cur, ao = some ⟨g, 0, none⟩ ∧ wr.heap[g]? = some (.cells cur tF (0, 0)) ∧ n ≤ cap ∧ cap ≤ maxLen ∧ cur.size = cap * 2 ∧ wq.heap.size ≤ g ∧ w1.heap.size ≤ g ∧ ∀ p, p < i → ∀ j u, (elF m)[j]? = some u → cur[p * 2 + j]? = some u := by
    rcases uh HP with h | h
    ·omega
    ·exact h
   have hlt3 : i * 2 + 2 ≤ cur.size := by omega
   obtain ⟨y0, k0⟩ : ∃ y0, wr.cell? ⟨g, i * 2, none⟩ = some y0 := ⟨cur[i * 2]'(by omega), by rw [cell_of_row wr g _ _ _ (0, 0) hg]; exact Array.getElem?_eq_getElem _⟩
   obtain ⟨y1, k1⟩ : ∃ y1, wr.cell? ⟨g, i * 2 + 1, none⟩ = some y1 := ⟨cur[i * 2 + 1]'(by omega), by rw [cell_of_row wr g _ _ _ (0, 0) hg]; exact Array.getElem?_eq_getElem _⟩
   have f0 := frozen_of_row wr g (i * 2) _ _ hg
   have f1 := frozen_of_row wr g (i * 2 + 1) _ _ hg
   obtain ⟨cur', hg', hs', hlow, e0, e1, hon⟩ := write2 hg (i * 2) (.string m) (.string ⟨#[]⟩) hlt3
   have HL2 := hide ((uh HL).wrF hg hon (uh HQ) hgq hg1)
   have HP2 := hide (ParC.next (wq := wq) (w1 := w1) (el := elF) (m := m) rfl ha hg' hnc hcm hcs hs' hgq hg1 hfil hlow e0 e1)
   have HO2 : Hid (LK tL 2 w _) := (uh HO).trans (LK.of hon (fun g2 cur2 hg2 e => kinds hg (e ▸ hg2) (by decide)))
   subst ha
   clear hfil hg hg' hs' hlow e0 e1 hon hnc hcm hcs HL HP HO
   go_wp2_with fail
   go_roundw
   case rel => exact ⟨i + 1, by omega, by go_num, HL2, HP2, HO2⟩
   case measure => simp [intOf]; omega
  ·have hilI : ¬ (i : Int) < (n : Int) := by omega
   have hie : i = n := by omega
   have HW : Hid (wr.ownsRow 0 tF 2 (.slice ao n cap) n ((List.replicate n (elF m)).flatten)) := by rw [hie] at HP; exact (uh HP).own rfl (by omega)
   have HI0 : Hid (Inv2F w1 w wr b c n 0 m RF RL RT (.slice ao n cap)) := ⟨s, RF, uh HL, by omega, uh HW, fun g e => (uh HB g e).2, fit_start (uh HQ) (fun g e => (uh HB g e).1) n, uh HO⟩
   clear hie HP HQ HL HW HO HB
   go_wp2_with fail
   go_loopw [1, 6] (fun l x wr => ∃ (j : Nat) (ao2 : Option Addr) (cap2 : Nat), j ≤ 4 ∧ x = .int .i64 j ∧ l = .slice ao2 (n + j) cap2 ∧ Hid (Inv2F w1 w wr b c n j m RF RL RT (.slice ao2 (n + j) cap2))) (fun _ x _ => 4 - (intOf x).toNat)
   case atStart => exact ⟨0, ao, cap, by omega, rfl, rfl, HI0⟩
   case round =>
    clear HI0
    obtain ⟨j, ao2, cap2, hj, rfl, rfl, HI⟩ := hrel
    obtain ⟨s2, R2, hl2, hR2, how2, hb2, hft2, hlk2⟩ := uh HI
    have HL := hide hl2
    have HOL := hide how2
    have HB2 := hide hb2
    have HFT := hide hft2
    have HLK := hide hlk2
    clear hl2 how2 hb2 hft2 hlk2 HI
    by_cases hj4 : j < 4
    ·have hj4I : (j : Int) < 4 := by omega
     have HF : Hid (Full wr tF 2 elF (.slice ao2 (n + j) cap2) m) := own_full rfl (by omega) (by omega) (uh HOL)
     have c9 : wr.cell? ⟨b, 5, none⟩ = some s2.r5 := by rw [cell_of_row wr b 5 _ _ (0, 0) (uh HL).hp]; rfl
     have f9 := frozen_of_row wr b 5 _ _ (uh HL).hp
     obtain ⟨a9, z9, e9⟩ := row_form (uh HL).rf.1
     obtain ⟨a10, z10, e10⟩ := row_form (uh HL).rf.2.1
     have HE9 := hide e9
     have HE10 := hide e10
     rw [e9] at c9
     obtain ⟨i0, hi0, hz0, hz1, hz2⟩ := info_parts infoFs
     obtain ⟨j0, hj0, hy0, hy1, hy2⟩ := info_parts infoS9
     obtain ⟨t0, ht0, hx0, hx1, hx2⟩ := info_parts infoF2
     have HOW : Hid ((wr.alloc (.cells #[.slice ao2 (n + j) cap2] tFs)).ownsRow 0 tFs 1 (.slice a9 R2.length z9) R2.length (R2.map (·.1))) := by rw [← uh HE9]; exact ownk_kept (uh HL).rf.1 ((Only.refl (fun _ => False) wr).alloc _) (fun _ _ x => x)
     have HNW := hide (new_cells wr [.slice ao2 (n + j) cap2] tFs)
     have HSZ : Hid ((wr.alloc (.cells #[.slice ao2 (n + j) cap2] tFs)).heap.size = wr.heap.size + 1) := by unfold Hid; rw [World.size_alloc]
     have HRT : Hid (R2.length + 1 ≤ 4 * (c + 1)) := by unfold Hid; omega
     have HMID : Hid (∀ ga ca w3, (wr.alloc (.cells #[.slice ao2 (n + j) cap2] tFs)).grownBy w3 (Value.slice a9 R2.length z9).ownBlock → w3.cell? ⟨b, 5, none⟩ = some (.slice a9 R2.length z9) ∧ w3.cell? ⟨b, 6, none⟩ = some (.slice a10 R2.length z10) ∧ w3.frozen? ⟨b, 5, none⟩ = false ∧ w3.frozen? ⟨b, 6, none⟩ = false ∧ ((w3.setCell ⟨b, 5, none⟩ (.slice (some ⟨ga, 0, none⟩) (R2.length + 1) ca)).alloc (.cells #[.string m] 9)).ownsRow 0 9 1 (.slice a10 R2.length z10) R2.length (R2.map fun x => Value.string x.2) ∧ ∀ j u, ([.string m] : List Value)[j]? = some u → ((w3.setCell ⟨b, 5, none⟩ (.slice (some ⟨ga, 0, none⟩) (R2.length + 1) ca)).alloc (.cells #[.string m] 9)).cell? ((⟨w3.heap.size, 0, none⟩ : Addr).add j) = some u) := fun ga ca w3 hg3 => by
      rw [← uh HE9] at hg3
      obtain ⟨ho3, hp3⟩ := (uh HL).oneF hg3
      refine ⟨?_, ?_, frozen_of_row w3 b 5 _ _ hp3, frozen_of_row w3 b 6 _ _ hp3, ?_, ?_⟩
      ·rw [cell_of_row w3 b 5 _ _ (0, 0) hp3, ← uh HE9]; rfl
      ·rw [cell_of_row w3 b 6 _ _ (0, 0) hp3, ← uh HE10]; rfl
      ·rw [← uh HE10]; exact (uh HL).twoF ho3 _ _
      ·have := new_cells (w3.setCell ⟨b, 5, none⟩ (.slice (some ⟨ga, 0, none⟩) (R2.length + 1) ca)) [.string m] 9
       rw [set_size] at this
       exact this
     have HEND : Hid (∀ ga ca gb cb w3 w6, w3.ownsRow 0 tFs 1 (.slice (some ⟨ga, 0, none⟩) (R2.length + 1) ca) (R2.length + 1) (R2.map (·.1) ++ [.slice ao2 (n + j) cap2]) → (wr.alloc (.cells #[.slice ao2 (n + j) cap2] tFs)).grownBy w3 (Value.slice a9 R2.length z9).ownBlock → ((Value.slice a9 R2.length z9).ownBlock = some ga ∨ ga = wr.heap.size + 1) → w6.ownsRow 0 9 1 (.slice (some ⟨gb, 0, none⟩) (R2.length + 1) cb) (R2.length + 1) (R2.map (fun x => Value.string x.2) ++ [.string m]) → ((w3.setCell ⟨b, 5, none⟩ (.slice (some ⟨ga, 0, none⟩) (R2.length + 1) ca)).alloc (.cells #[.string m] 9)).grownBy w6 (Value.slice a10 R2.length z10).ownBlock → ((Value.slice a10 R2.length z10).ownBlock = some gb ∨ gb = w3.heap.size + 1) → w6.cell? ⟨b, 6, none⟩ = some (.slice a10 R2.length z10) ∧ w6.frozen? ⟨b, 6, none⟩ = false ∧ ((w6.setCell ⟨b, 6, none⟩ (.slice (some ⟨gb, 0, none⟩) (R2.length + 1) cb)).alloc (.cells #[.string m, (.string ⟨#[]⟩)] tF)).ownsRow 0 tF 2 (.slice ao2 (n + j) cap2) (n + j) ((List.replicate (n + j) (elF m)).flatten) ∧ (∀ j u, (elF m)[j]? = some u → ((w6.setCell ⟨b, 6, none⟩ (.slice (some ⟨gb, 0, none⟩) (R2.length + 1) cb)).alloc (.cells #[.string m, (.string ⟨#[]⟩)] tF)).cell? ((⟨w6.heap.size, 0, none⟩ : Addr).add j) = some u) ∧ ∀ g8 c8 w8, w8.ownsRow 0 tF 2 (.slice (some ⟨g8, 0, none⟩) (n + j + 1) c8) (n + j + 1) ((List.replicate (n + j) (elF m)).flatten ++ elF m) → ((w6.setCell ⟨b, 6, none⟩ (.slice (some ⟨gb, 0, none⟩) (R2.length + 1) cb)).alloc (.cells #[.string m, (.string ⟨#[]⟩)] tF)).grownBy w8 (Value.slice ao2 (n + j) cap2).ownBlock → ((Value.slice ao2 (n + j) cap2).ownBlock = some g8 ∨ g8 = ((w6.setCell ⟨b, 6, none⟩ (.slice (some ⟨gb, 0, none⟩) (R2.length + 1) cb)).alloc (.cells #[.string m, (.string ⟨#[]⟩)] tF)).heap.size) → Stays ((w6.setCell ⟨b, 6, none⟩ (.slice (some ⟨gb, 0, none⟩) (R2.length + 1) cb)).alloc (.cells #[.string m, (.string ⟨#[]⟩)] tF)) w8 (.slice ao2 (n + j) cap2) ((n + j) * 2) → Inv2F w1 w w8 b c n (j + 1) m RF RL RT (.slice (some ⟨g8, 0, none⟩) (n + (j + 1)) c8)) := fun ga ca gb cb w3 w6 h3 hg3 hl3 h6 hg6 hl6 => by
      rw [← uh HE9] at hg3 hl3
      rw [← uh HE10] at hg6 hl6
      obtain ⟨hp6, hfin, hfo⟩ := (uh HL).endF (uh HF) (uh HRT) h3 hg3 hl3 h6 hg6 hl6
      have hno : ∀ {e : TypeId}, e ≠ wT → e ≠ tFs → e ≠ 9 → ∀ g cur, wr.heap[g]? = some (.cells cur e (0, 0)) → ¬ (g = b ∨ s2.r5.ownBlock = some g ∨ s2.r6.ownBlock = some g) := fun h1 h2 h3 g cur hg hS => by
       rcases hS with hS | hS | hS
       ·subst hS; exact kinds hg (uh HL).hp h1
       ·obtain ⟨cur2, hg2⟩ := ownk_heap (uh HL).rf.1 hS
        exact kinds hg hg2 h2
       ·obtain ⟨cur2, hg2⟩ := ownk_heap (uh HL).rf.2.1 hS
        exact kinds hg hg2 h3
      have howV := ownk_kept (uh HOL) (hfo.alloc (.cells #[.string m, (.string ⟨#[]⟩)] tF)) (fun g hg hS => by
       obtain ⟨cur, hg2⟩ := ownk_heap (uh HOL) hg
       exact hno (by decide) (by decide) (by decide) g cur hg2 hS)
      have hlkV : LK tL 2 wr ((w6.setCell ⟨b, 6, none⟩ (.slice (some ⟨gb, 0, none⟩) (R2.length + 1) cb)).alloc (.cells #[.string m, (.string ⟨#[]⟩)] tF)) := LK.of (hfo.alloc _) (hno (by decide) (by decide) (by decide))
      have hfinA := hfin.old ((Only.refl (fun _ => False) (w6.setCell ⟨b, 6, none⟩ (.slice (some ⟨gb, 0, none⟩) (R2.length + 1) cb))).alloc (.cells #[.string m, (.string ⟨#[]⟩)] tF))
      refine ⟨?_, frozen_of_row w6 b 6 _ _ hp6, howV, ?_, fun g8 c8 w8 h8 hg8 hl8 hst8 => ?_⟩
      ·rw [cell_of_row w6 b 6 _ _ (0, 0) hp6, ← uh HE10]; rfl
      ·have := new_cells (w6.setCell ⟨b, 6, none⟩ (.slice (some ⟨gb, 0, none⟩) (R2.length + 1) cb)) (elF m) tF
       rw [set_size] at this
       exact this
      ·have hfitP := fit_push (m := m) (uh HFT) rfl
       have hap := hfinA.apF howV (uh HB2) hg8 hst8 hfitP
       refine ⟨_, _, hap, by rw [List.length_append, List.length_singleton]; omega, ?_, fun g e => ?_, fit_next hfitP (fun x hx => hfinA.rf.2.2 x hx) hl8, (uh HLK).trans (hlkV.trans ?_)⟩
       ·rw [flat_succ] at h8
        exact h8
       ·have e2 : g8 = g := Option.some.inj e
        subst e2
        rcases hl8 with e3 | e3
        ·exact uh HB2 _ e3
        ·have := hfinA.only.size; omega
       ·refine LK.of ((Only.refl _ _).grown hg8 (fun k _ e => e)) (fun g cur hg hS => ?_)
        obtain ⟨cur2, hg2⟩ := ownk_heap howV hS
        exact kinds hg hg2 (by decide)
     clear HL HF HRT HE9 HE10 e9 e10 HOL HB2 HFT HLK
     go_wp2_with (at_builtin; first
      | (refine wpList_append_lies _ rfl (.tmp 28) (.tmp 30) 73 rfl 0 tFs i0 (.slice none 0 0) 1 24 Tryz.underlying73 hi0 hz0 hz1 hz2 rfl (by omega) (.slice a9 R2.length z9) R2.length (R2.map (·.1)) rfl (uh HOW) ⟨wr.heap.size, 0, none⟩ 1 1 [.slice ao2 (n + j) cap2] rfl rfl (uh HNW) (by intro u hu; simp at hu; subst hu; rfl) (by omega) (by unfold maxLen; omega) (by omega) (by omega) (wr.heap.size + 1) (uh HSZ) ?_; intro ga ca w3 h3 hg3 hl3 hlt3; obtain ⟨q9, q10, x9, x10, hox, hnx⟩ := uh HMID ga ca w3 hg3; have HOX := hide hox; have HNX := hide hnx; have HEND2 := hide (fun gb cb w6 => uh HEND ga ca gb cb w3 w6 h3 hg3 hl3); clear h3 hg3 hl3 hlt3 c9 f9 hox hnx)
      | (refine wpList_append_lies _ rfl (.tmp 38) (.tmp 40) 45 rfl 0 9 j0 (.string ⟨#[]⟩) 1 16 Tryz.underlying45 hj0 hy0 hy1 hy2 rfl (by omega) (.slice a10 R2.length z10) R2.length _ rfl (uh HOX) ⟨w3.heap.size, 0, none⟩ 1 1 [.string m] rfl rfl (uh HNX) (by intro u hu; simp at hu; subst hu; rfl) (by omega) (by unfold maxLen; omega) (by omega) (by omega) (w3.heap.size + 1) (by rw [World.size_alloc, set_size]) ?_; intro gb cb w6 h6 hg6 hl6 hlt6; obtain ⟨q10b, x10b, hoz, hnz, hnext⟩ := uh HEND2 gb cb w6 h6 hg6 hl6; have HOZ := hide hoz; have HNZ := hide hnz; have HNEXT := hide hnext; clear h6 hg6 hl6 hlt6 hoz hnz hnext q9 q10 x9 x10)
      | (refine wpList_append_stay rfl (.tmp 44) (.tmp 47) 41 rfl tF t0 (.agg #[.string ⟨#[]⟩, .string ⟨#[]⟩]) 2 32 Tryz.underlying41 ht0 hx0 hx1 hx2 rfl (by omega) (.slice ao2 (n + j) cap2) (n + j) _ rfl (uh HOZ) ⟨w6.heap.size, 0, none⟩ 1 1 (elF m) rfl rfl (uh HNZ) (by intro u hu; simp [elF] at hu; rcases hu with rfl | rfl <;> rfl) (by omega) (by unfold maxLen; omega) (by omega) ?_; intro g8 c8 w8 h8 hg8 hl8 hst8; have HX := hide (uh HNEXT g8 c8 w8 h8 hg8 hl8 hst8); clear h8 hg8 hl8 hst8 q10b x10b))
     go_roundw
     case rel => exact ⟨j + 1, some ⟨g8, 0, none⟩, c8, by omega, by go_num, by congr 1, HX⟩
     case measure => simp [intOf]; omega
    ·have hj4I : ¬ (j : Int) < 4 := by omega
     go_wp2_with fail
     go_end0
     exact ⟨rfl, uh HLK, _, _, uh HL⟩
set_option maxRecDepth 100000 in
set_option maxHeartbeats 16000000 in
theorem leftOfC {w1 wq : World} {b c : Nat} {s : WS} {RF RL RT : List (Value × ByteArray)} (hc : c ≤ 100000000) (w : World) (h : WLs w1 w b c s RF RL RT) (ao : Option Addr) (n cap : Nat) (hn : n ≤ 1000000) (xs : List Value) (hv : w.ownsRow 0 tL 2 (.slice ao n cap) n xs) (hb : ∀ g, (Value.slice ao n cap).ownBlock = some g → wq.heap.size ≤ g ∧ w1.heap.size ≤ g) (hq : ∀ x, x ∈ RL → Full wq tL 2 elL x.1 x.2) :
 Calls Tryz.prog 117 #[.pointer (some ⟨b, 0, none⟩), .slice ao n cap] w fun r w' => r = .returned (.tuple #[]) ∧ LK tF 2 w w' ∧ ∃ s' R', WLs w1 w' b (c + 1) s' RF R' RT := by
 have H1 := hide (markC s c (by omega) b w h.hp)
 have HL := hide h
 have hfT := h.few.2.1
 have HQ := hide hq
 have HV := hide (fun m => ParC.start (el := elL) hv hb m)
 have HB := hide hb
 clear h hq hv hb
 go_enter Tryz.func117, Tryz.ntmps117
 go_wp2_with fail
 refine (uh H1).mono ?_
 rintro r w2 ⟨m, rfl, ho2, hp2⟩
 have HL2 := hide ((uh HL).rec_ ho2 hp2 (by omega) rfl rfl rfl rfl rfl rfl)
 have HP2 := hide ((uh HV m).kept ho2 (fun g cur hg e => kinds (e ▸ hg) (uh HL).hp (by decide)))
 have HO2 : Hid (LK tF 2 w w2) := LK.of ho2 (fun g cur hg e => kinds (e ▸ hg) (uh HL).hp (by decide))
 clear ho2 hp2 H1 HL HV
 go_wp2_with fail
 go_loopw [5] (fun x wr => ∃ i : Nat, i ≤ n ∧ x = .int .i64 i ∧ Hid (WLs w1 wr b (c + 1) s RF RL RT) ∧ Hid (ParC wq w1 wr tL 2 elL ao n cap m i) ∧ Hid (LK tF 2 w wr)) (fun x _ => n - (intOf x).toNat)
 case atStart => exact ⟨0, by omega, rfl, HL2, HP2, HO2⟩
 case round =>
  clear HL2 HP2 HO2
  obtain ⟨i, hi, rfl, HL, HP, HO⟩ := hrel
  by_cases hil : i < n
  ·have hilI : (i : Int) < (n : Int) := by omega
   obtain ⟨g, cur, ha, hg, hnc, hcm, hcs, hgq, hg1, hfil⟩ : ∃ g cur, ao = some ⟨g, 0, none⟩ ∧ wr.heap[g]? = some (.cells cur tL (0, 0)) ∧ n ≤ cap ∧ cap ≤ maxLen ∧ cur.size = cap * 2 ∧ wq.heap.size ≤ g ∧ w1.heap.size ≤ g ∧ ∀ p, p < i → ∀ j u, (elL m)[j]? = some u → cur[p * 2 + j]? = some u := by
    rcases uh HP with h | h
    ·omega
    ·exact h
   have hlt3 : i * 2 + 2 ≤ cur.size := by omega
   obtain ⟨y0, k0⟩ : ∃ y0, wr.cell? ⟨g, i * 2, none⟩ = some y0 := ⟨cur[i * 2]'(by omega), by rw [cell_of_row wr g _ _ _ (0, 0) hg]; exact Array.getElem?_eq_getElem _⟩
   obtain ⟨y1, k1⟩ : ∃ y1, wr.cell? ⟨g, i * 2 + 1, none⟩ = some y1 := ⟨cur[i * 2 + 1]'(by omega), by rw [cell_of_row wr g _ _ _ (0, 0) hg]; exact Array.getElem?_eq_getElem _⟩
   have f0 := frozen_of_row wr g (i * 2) _ _ hg
   have f1 := frozen_of_row wr g (i * 2 + 1) _ _ hg
   obtain ⟨cur', hg', hs', hlow, e0, e1, hon⟩ := write2 hg (i * 2) (.string m) (.int .i64 0) hlt3
   have HL2 := hide ((uh HL).wrL hg hon (uh HQ) hgq hg1)
   have HP2 := hide (ParC.next (wq := wq) (w1 := w1) (el := elL) (m := m) rfl ha hg' hnc hcm hcs hs' hgq hg1 hfil hlow e0 e1)
   have HO2 : Hid (LK tF 2 w _) := (uh HO).trans (LK.of hon (fun g2 cur2 hg2 e => kinds hg (e ▸ hg2) (by decide)))
   subst ha
   clear hfil hg hg' hs' hlow e0 e1 hon hnc hcm hcs HL HP HO
   go_wp2_with fail
   go_roundw
   case rel => exact ⟨i + 1, by omega, by go_num, HL2, HP2, HO2⟩
   case measure => simp [intOf]; omega
  ·have hilI : ¬ (i : Int) < (n : Int) := by omega
   have hie : i = n := by omega
   have HW : Hid (wr.ownsRow 0 tL 2 (.slice ao n cap) n ((List.replicate n (elL m)).flatten)) := by rw [hie] at HP; exact (uh HP).own rfl (by omega)
   have HI0 : Hid (Inv2L w1 w wr b c n 0 m RF RL RT (.slice ao n cap)) := ⟨s, RL, uh HL, by omega, uh HW, fun g e => (uh HB g e).2, fit_start (uh HQ) (fun g e => (uh HB g e).1) n, uh HO⟩
   clear hie HP HQ HL HW HO HB
   go_wp2_with fail
   go_loopw [1, 6] (fun l x wr => ∃ (j : Nat) (ao2 : Option Addr) (cap2 : Nat), j ≤ 4 ∧ x = .int .i64 j ∧ l = .slice ao2 (n + j) cap2 ∧ Hid (Inv2L w1 w wr b c n j m RF RL RT (.slice ao2 (n + j) cap2))) (fun _ x _ => 4 - (intOf x).toNat)
   case atStart => exact ⟨0, ao, cap, by omega, rfl, rfl, HI0⟩
   case round =>
    clear HI0
    obtain ⟨j, ao2, cap2, hj, rfl, rfl, HI⟩ := hrel
    obtain ⟨s2, R2, hl2, hR2, how2, hb2, hft2, hlk2⟩ := uh HI
    have HL := hide hl2
    have HOL := hide how2
    have HB2 := hide hb2
    have HFT := hide hft2
    have HLK := hide hlk2
    clear hl2 how2 hb2 hft2 hlk2 HI
    by_cases hj4 : j < 4
    ·have hj4I : (j : Int) < 4 := by omega
     have HF : Hid (Full wr tL 2 elL (.slice ao2 (n + j) cap2) m) := own_full rfl (by omega) (by omega) (uh HOL)
     have c9 : wr.cell? ⟨b, 7, none⟩ = some s2.r7 := by rw [cell_of_row wr b 7 _ _ (0, 0) (uh HL).hp]; rfl
     have f9 := frozen_of_row wr b 7 _ _ (uh HL).hp
     obtain ⟨a9, z9, e9⟩ := row_form (uh HL).rl.1
     obtain ⟨a10, z10, e10⟩ := row_form (uh HL).rl.2.1
     have HE9 := hide e9
     have HE10 := hide e10
     rw [e9] at c9
     obtain ⟨i0, hi0, hz0, hz1, hz2⟩ := info_parts infoLs
     obtain ⟨j0, hj0, hy0, hy1, hy2⟩ := info_parts infoS9
     obtain ⟨t0, ht0, hx0, hx1, hx2⟩ := info_parts infoL2
     have HOW : Hid ((wr.alloc (.cells #[.slice ao2 (n + j) cap2] tLs)).ownsRow 0 tLs 1 (.slice a9 R2.length z9) R2.length (R2.map (·.1))) := by rw [← uh HE9]; exact ownk_kept (uh HL).rl.1 ((Only.refl (fun _ => False) wr).alloc _) (fun _ _ x => x)
     have HNW := hide (new_cells wr [.slice ao2 (n + j) cap2] tLs)
     have HSZ : Hid ((wr.alloc (.cells #[.slice ao2 (n + j) cap2] tLs)).heap.size = wr.heap.size + 1) := by unfold Hid; rw [World.size_alloc]
     have HRT : Hid (R2.length + 1 ≤ 4 * (c + 1)) := by unfold Hid; omega
     have HMID : Hid (∀ ga ca w3, (wr.alloc (.cells #[.slice ao2 (n + j) cap2] tLs)).grownBy w3 (Value.slice a9 R2.length z9).ownBlock → w3.cell? ⟨b, 7, none⟩ = some (.slice a9 R2.length z9) ∧ w3.cell? ⟨b, 8, none⟩ = some (.slice a10 R2.length z10) ∧ w3.frozen? ⟨b, 7, none⟩ = false ∧ w3.frozen? ⟨b, 8, none⟩ = false ∧ ((w3.setCell ⟨b, 7, none⟩ (.slice (some ⟨ga, 0, none⟩) (R2.length + 1) ca)).alloc (.cells #[.string m] 9)).ownsRow 0 9 1 (.slice a10 R2.length z10) R2.length (R2.map fun x => Value.string x.2) ∧ ∀ j u, ([.string m] : List Value)[j]? = some u → ((w3.setCell ⟨b, 7, none⟩ (.slice (some ⟨ga, 0, none⟩) (R2.length + 1) ca)).alloc (.cells #[.string m] 9)).cell? ((⟨w3.heap.size, 0, none⟩ : Addr).add j) = some u) := fun ga ca w3 hg3 => by
      rw [← uh HE9] at hg3
      obtain ⟨ho3, hp3⟩ := (uh HL).oneL hg3
      refine ⟨?_, ?_, frozen_of_row w3 b 7 _ _ hp3, frozen_of_row w3 b 8 _ _ hp3, ?_, ?_⟩
      ·rw [cell_of_row w3 b 7 _ _ (0, 0) hp3, ← uh HE9]; rfl
      ·rw [cell_of_row w3 b 8 _ _ (0, 0) hp3, ← uh HE10]; rfl
      ·rw [← uh HE10]; exact (uh HL).twoL ho3 _ _
      ·have := new_cells (w3.setCell ⟨b, 7, none⟩ (.slice (some ⟨ga, 0, none⟩) (R2.length + 1) ca)) [.string m] 9
       rw [set_size] at this
       exact this
     have HEND : Hid (∀ ga ca gb cb w3 w6, w3.ownsRow 0 tLs 1 (.slice (some ⟨ga, 0, none⟩) (R2.length + 1) ca) (R2.length + 1) (R2.map (·.1) ++ [.slice ao2 (n + j) cap2]) → (wr.alloc (.cells #[.slice ao2 (n + j) cap2] tLs)).grownBy w3 (Value.slice a9 R2.length z9).ownBlock → ((Value.slice a9 R2.length z9).ownBlock = some ga ∨ ga = wr.heap.size + 1) → w6.ownsRow 0 9 1 (.slice (some ⟨gb, 0, none⟩) (R2.length + 1) cb) (R2.length + 1) (R2.map (fun x => Value.string x.2) ++ [.string m]) → ((w3.setCell ⟨b, 7, none⟩ (.slice (some ⟨ga, 0, none⟩) (R2.length + 1) ca)).alloc (.cells #[.string m] 9)).grownBy w6 (Value.slice a10 R2.length z10).ownBlock → ((Value.slice a10 R2.length z10).ownBlock = some gb ∨ gb = w3.heap.size + 1) → w6.cell? ⟨b, 8, none⟩ = some (.slice a10 R2.length z10) ∧ w6.frozen? ⟨b, 8, none⟩ = false ∧ ((w6.setCell ⟨b, 8, none⟩ (.slice (some ⟨gb, 0, none⟩) (R2.length + 1) cb)).alloc (.cells #[.string m, (.int .i64 0)] tL)).ownsRow 0 tL 2 (.slice ao2 (n + j) cap2) (n + j) ((List.replicate (n + j) (elL m)).flatten) ∧ (∀ j u, (elL m)[j]? = some u → ((w6.setCell ⟨b, 8, none⟩ (.slice (some ⟨gb, 0, none⟩) (R2.length + 1) cb)).alloc (.cells #[.string m, (.int .i64 0)] tL)).cell? ((⟨w6.heap.size, 0, none⟩ : Addr).add j) = some u) ∧ ∀ g8 c8 w8, w8.ownsRow 0 tL 2 (.slice (some ⟨g8, 0, none⟩) (n + j + 1) c8) (n + j + 1) ((List.replicate (n + j) (elL m)).flatten ++ elL m) → ((w6.setCell ⟨b, 8, none⟩ (.slice (some ⟨gb, 0, none⟩) (R2.length + 1) cb)).alloc (.cells #[.string m, (.int .i64 0)] tL)).grownBy w8 (Value.slice ao2 (n + j) cap2).ownBlock → ((Value.slice ao2 (n + j) cap2).ownBlock = some g8 ∨ g8 = ((w6.setCell ⟨b, 8, none⟩ (.slice (some ⟨gb, 0, none⟩) (R2.length + 1) cb)).alloc (.cells #[.string m, (.int .i64 0)] tL)).heap.size) → Stays ((w6.setCell ⟨b, 8, none⟩ (.slice (some ⟨gb, 0, none⟩) (R2.length + 1) cb)).alloc (.cells #[.string m, (.int .i64 0)] tL)) w8 (.slice ao2 (n + j) cap2) ((n + j) * 2) → Inv2L w1 w w8 b c n (j + 1) m RF RL RT (.slice (some ⟨g8, 0, none⟩) (n + (j + 1)) c8)) := fun ga ca gb cb w3 w6 h3 hg3 hl3 h6 hg6 hl6 => by
      rw [← uh HE9] at hg3 hl3
      rw [← uh HE10] at hg6 hl6
      obtain ⟨hp6, hfin, hfo⟩ := (uh HL).endL (uh HF) (uh HRT) h3 hg3 hl3 h6 hg6 hl6
      have hno : ∀ {e : TypeId}, e ≠ wT → e ≠ tLs → e ≠ 9 → ∀ g cur, wr.heap[g]? = some (.cells cur e (0, 0)) → ¬ (g = b ∨ s2.r7.ownBlock = some g ∨ s2.r8.ownBlock = some g) := fun h1 h2 h3 g cur hg hS => by
       rcases hS with hS | hS | hS
       ·subst hS; exact kinds hg (uh HL).hp h1
       ·obtain ⟨cur2, hg2⟩ := ownk_heap (uh HL).rl.1 hS
        exact kinds hg hg2 h2
       ·obtain ⟨cur2, hg2⟩ := ownk_heap (uh HL).rl.2.1 hS
        exact kinds hg hg2 h3
      have howV := ownk_kept (uh HOL) (hfo.alloc (.cells #[.string m, (.int .i64 0)] tL)) (fun g hg hS => by
       obtain ⟨cur, hg2⟩ := ownk_heap (uh HOL) hg
       exact hno (by decide) (by decide) (by decide) g cur hg2 hS)
      have hlkV : LK tF 2 wr ((w6.setCell ⟨b, 8, none⟩ (.slice (some ⟨gb, 0, none⟩) (R2.length + 1) cb)).alloc (.cells #[.string m, (.int .i64 0)] tL)) := LK.of (hfo.alloc _) (hno (by decide) (by decide) (by decide))
      have hfinA := hfin.old ((Only.refl (fun _ => False) (w6.setCell ⟨b, 8, none⟩ (.slice (some ⟨gb, 0, none⟩) (R2.length + 1) cb))).alloc (.cells #[.string m, (.int .i64 0)] tL))
      refine ⟨?_, frozen_of_row w6 b 8 _ _ hp6, howV, ?_, fun g8 c8 w8 h8 hg8 hl8 hst8 => ?_⟩
      ·rw [cell_of_row w6 b 8 _ _ (0, 0) hp6, ← uh HE10]; rfl
      ·have := new_cells (w6.setCell ⟨b, 8, none⟩ (.slice (some ⟨gb, 0, none⟩) (R2.length + 1) cb)) (elL m) tL
       rw [set_size] at this
       exact this
      ·have hfitP := fit_push (m := m) (uh HFT) rfl
       have hap := hfinA.apL howV (uh HB2) hg8 hst8 hfitP
       refine ⟨_, _, hap, by rw [List.length_append, List.length_singleton]; omega, ?_, fun g e => ?_, fit_next hfitP (fun x hx => hfinA.rl.2.2 x hx) hl8, (uh HLK).trans (hlkV.trans ?_)⟩
       ·rw [flat_succ] at h8
        exact h8
       ·have e2 : g8 = g := Option.some.inj e
        subst e2
        rcases hl8 with e3 | e3
        ·exact uh HB2 _ e3
        ·have := hfinA.only.size; omega
       ·refine LK.of ((Only.refl _ _).grown hg8 (fun k _ e => e)) (fun g cur hg hS => ?_)
        obtain ⟨cur2, hg2⟩ := ownk_heap howV hS
        exact kinds hg hg2 (by decide)
     clear HL HF HRT HE9 HE10 e9 e10 HOL HB2 HFT HLK
     go_wp2_with (at_builtin; first
      | (refine wpList_append_lies _ rfl (.tmp 28) (.tmp 30) 74 rfl 0 tLs i0 (.slice none 0 0) 1 24 Tryz.underlying74 hi0 hz0 hz1 hz2 rfl (by omega) (.slice a9 R2.length z9) R2.length (R2.map (·.1)) rfl (uh HOW) ⟨wr.heap.size, 0, none⟩ 1 1 [.slice ao2 (n + j) cap2] rfl rfl (uh HNW) (by intro u hu; simp at hu; subst hu; rfl) (by omega) (by unfold maxLen; omega) (by omega) (by omega) (wr.heap.size + 1) (uh HSZ) ?_; intro ga ca w3 h3 hg3 hl3 hlt3; obtain ⟨q9, q10, x9, x10, hox, hnx⟩ := uh HMID ga ca w3 hg3; have HOX := hide hox; have HNX := hide hnx; have HEND2 := hide (fun gb cb w6 => uh HEND ga ca gb cb w3 w6 h3 hg3 hl3); clear h3 hg3 hl3 hlt3 c9 f9 hox hnx)
      | (refine wpList_append_lies _ rfl (.tmp 38) (.tmp 40) 45 rfl 0 9 j0 (.string ⟨#[]⟩) 1 16 Tryz.underlying45 hj0 hy0 hy1 hy2 rfl (by omega) (.slice a10 R2.length z10) R2.length _ rfl (uh HOX) ⟨w3.heap.size, 0, none⟩ 1 1 [.string m] rfl rfl (uh HNX) (by intro u hu; simp at hu; subst hu; rfl) (by omega) (by unfold maxLen; omega) (by omega) (by omega) (w3.heap.size + 1) (by rw [World.size_alloc, set_size]) ?_; intro gb cb w6 h6 hg6 hl6 hlt6; obtain ⟨q10b, x10b, hoz, hnz, hnext⟩ := uh HEND2 gb cb w6 h6 hg6 hl6; have HOZ := hide hoz; have HNZ := hide hnz; have HNEXT := hide hnext; clear h6 hg6 hl6 hlt6 hoz hnz hnext q9 q10 x9 x10)
      | (refine wpList_append_stay rfl (.tmp 44) (.tmp 47) 42 rfl tL t0 (.agg #[.string ⟨#[]⟩, .int .i64 0]) 2 24 Tryz.underlying42 ht0 hx0 hx1 hx2 rfl (by omega) (.slice ao2 (n + j) cap2) (n + j) _ rfl (uh HOZ) ⟨w6.heap.size, 0, none⟩ 1 1 (elL m) rfl rfl (uh HNZ) (by intro u hu; simp [elL] at hu; rcases hu with rfl | rfl <;> rfl) (by omega) (by unfold maxLen; omega) (by omega) ?_; intro g8 c8 w8 h8 hg8 hl8 hst8; have HX := hide (uh HNEXT g8 c8 w8 h8 hg8 hl8 hst8); clear h8 hg8 hl8 hst8 q10b x10b))
     go_roundw
     case rel => exact ⟨j + 1, some ⟨g8, 0, none⟩, c8, by omega, by go_num, by congr 1, HX⟩
     case measure => simp [intOf]; omega
    ·have hj4I : ¬ (j : Int) < 4 := by omega
     go_wp2_with fail
     go_end0
     exact ⟨rfl, uh HLK, _, _, uh HL⟩
end Go.Proofs.YtndfmgdhiallpaaGreatDoor
