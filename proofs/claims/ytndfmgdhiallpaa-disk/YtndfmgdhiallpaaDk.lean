/- Contracts of package disk: Mkdir, Write. -/
import Derived.Test.YtndfmgdhiallpaaDj
namespace Go.Proofs.Ytndfmgdhiallpaa
open Go.RowKit

def ins (ts : List Th) (t : Th) : List Th := ts.take (low ts t.p) ++ t :: ts.drop (low ts t.p)
def stepErr (D : Dsk) : Int × Dsk := (4, stepped D)
def mkdirOf (D : Dsk) (p : ByteArray) : Int × Dsk :=
  if goes D then (if freeOf D.ts p == 0 then (0, { stepped D with ts := ins D.ts ⟨p, true, ⟨#[]⟩⟩ }) else (freeOf D.ts p, stepped D)) else (4, stepped D)

theorem stepped_ts (D : Dsk) : (stepped D).ts = D.ts := rfl
theorem Turn.drewN {w w' : World} {b : Nat} {v : Value} {D : Dsk} (h : Turn w w' b v D) (n : Nat) : Turn w (w'.drewN n) b v D := by
  obtain ⟨v', h1, h2, h3⟩ := h
  exact ⟨v', h1.drewN n, h2.drewN n, h3⟩

theorem Turn.pre {w w' w'' : World} {b : Nat} {v : Value} {D : Dsk} (ho : Only (fun k => k = b) w w') (h : Turn w' w'' b v D) : Turn w w'' b v D := by
  obtain ⟨v', h1, h2, h3⟩ := h
  refine ⟨v', h1, (ho.mono (fun _ _ e => .inl e)).trans h2, ?_⟩
  rcases h3 with h3 | h3
  · exact .inl h3
  · exact .inr fun k hk => Nat.le_trans ho.size (h3 k hk)

set_option maxHeartbeats 400000 in
theorem mkdir_disk {w : World} {b : Nat} {v : Value} {D : Dsk} (h : DiskAt w b v D) (p : ByteArray) (hp : p.size ≤ 1000000000000) (hm : D.ts.length ≤ 1000000000000) :
    Calls Try.prog 5 #[.pointer (some ⟨b, 0, none⟩), .string p] w fun e w' => e = .returned (.int .i64 (mkdirOf D p).1) ∧ Turn w w' b v (mkdirOf D p).2 := by
  have H17 := hide (step_disk h)
  have H18 := hide (fun (w1 : World) (h1 : DiskAt w1 b v (stepped D)) => free_disk h1 p hp hm)
  have H19 := hide (fun (w1 : World) (h1 : DiskAt w1 b v (stepped D)) => put_disk h1 ⟨p, true, ⟨#[]⟩⟩ hm)
  simp only [stepped_ts] at H18 H19
  unfold mkdirOf ins
  clear h
  cases hgo : goes D
  · rw [hgo] at H17
    go_enter Try.func5, Try.ntmps5
    go_wp2_with (go_at_call 17; refine (unhide H17).mono ?_; rintro e w1 ⟨rfl, hd, ho⟩)
    go_ret
    exact ⟨rfl, Turn.of hd ho⟩
  · rw [hgo] at H17
    generalize freeOf D.ts p = fe at *
    cases hfe : (fe == 0)
    · go_enter Try.func5, Try.ntmps5
      go_wp2_with (first
        | (go_at_call 17; refine (unhide H17).mono ?_; rintro e w1 ⟨rfl, hd, ho⟩; have HD := hide hd; have HO := hide ho; clear hd ho)
        | (go_at_call 18; refine (unhide H18 _ (unhide HD)).mono ?_; rintro e w2 ⟨rfl, n, rfl⟩))
      go_ret
      exact ⟨rfl, (Turn.of (unhide HD) (unhide HO)).drewN n⟩
    · go_enter Try.func5, Try.ntmps5
      go_wp2_with (first
        | (go_at_call 17; refine (unhide H17).mono ?_; rintro e w1 ⟨rfl, hd, ho⟩; have HD := hide hd; have HO := hide ho; clear hd ho)
        | (go_at_call 18; refine (unhide H18 _ (unhide HD)).mono ?_; rintro e w2 ⟨rfl, n, rfl⟩)
        | (go_at_call 19; refine (unhide H19 _ (by exact unhide HD)).mono ?_; rintro e w2 ⟨rfl, ht⟩; have HT := hide ht; clear ht))
      go_ret
      exact ⟨rfl, Turn.pre ((unhide HO).drewN n) (unhide HT)⟩

def writeOf (D : Dsk) (p d : ByteArray) : Int × Dsk :=
  if goes D then
    (if freeOf D.ts p == 0 then
      (if D.room < 0 then (0, { stepped D with ts := ins D.ts ⟨p, false, d⟩ })
       else if D.room < d.size then (3, stepped D) else (0, { stepped D with room := D.room - d.size, ts := ins D.ts ⟨p, false, d⟩ }))
     else (freeOf D.ts p, stepped D))
  else (4, stepped D)

set_option maxHeartbeats 400000 in
theorem write_disk {w : World} {b : Nat} {v : Value} {D : Dsk} (h : DiskAt w b v D) (p d : ByteArray) (hp : p.size ≤ 1000000000000) (hs : d.size ≤ 1000000000000) (hr : D.room ≤ 9223372036854775807) (hm : D.ts.length ≤ 1000000000000) :
    Calls Try.prog 6 #[.pointer (some ⟨b, 0, none⟩), .string p, .string d] w fun e w' => e = .returned (.int .i64 (writeOf D p d).1) ∧ Turn w w' b v (writeOf D p d).2 := by
  have H17 := hide (step_disk h)
  have H18 := hide (fun (w1 : World) (h1 : DiskAt w1 b v (stepped D)) => free_disk h1 p hp hm)
  have H19 := hide (fun (w1 : World) (h1 : DiskAt w1 b v (stepped D)) => put_disk h1 ⟨p, false, d⟩ hm)
  have H19' := hide (fun (w1 : World) (h1 : DiskAt w1 b v { stepped D with room := D.room - d.size }) => put_disk h1 ⟨p, false, d⟩ hm)
  simp only [stepped_ts] at H18 H19
  unfold writeOf ins
  clear h
  cases hgo : goes D
  · rw [hgo] at H17
    go_enter Try.func6, Try.ntmps6
    go_wp2_with (go_at_call 17; refine (unhide H17).mono ?_; rintro e w1 ⟨rfl, hd, ho⟩)
    go_ret
    exact ⟨rfl, Turn.of hd ho⟩
  · rw [hgo] at H17
    generalize freeOf D.ts p = fe at *
    cases hfe : (fe == 0)
    · go_enter Try.func6, Try.ntmps6
      go_wp2_with (first
        | (go_at_call 17; refine (unhide H17).mono ?_; rintro e w1 ⟨rfl, hd, ho⟩; have HD := hide hd; have HO := hide ho; clear hd ho)
        | (go_at_call 18; refine (unhide H18 _ (unhide HD)).mono ?_; rintro e w2 ⟨rfl, n, rfl⟩))
      go_ret
      exact ⟨rfl, (Turn.of (unhide HD) (unhide HO)).drewN n⟩
    · by_cases h0 : D.room < 0
      · go_enter Try.func6, Try.ntmps6
        go_wp2_with (first
          | (go_at_call 17; refine (unhide H17).mono ?_; rintro e w1 ⟨rfl, hd, ho⟩; have hcr : w1.cell? ⟨b, 1, none⟩ = some (.int .i64 D.room) := hd.cells.2.1; have HD := hide hd; have HO := hide ho; clear hd ho)
          | (go_at_call 18; refine (unhide H18 _ (unhide HD)).mono ?_; rintro e w2 ⟨rfl, n, rfl⟩)
          | (go_at_call 19; refine (unhide H19 _ (by exact unhide HD)).mono ?_; rintro e w2 ⟨rfl, ht⟩; have HT := hide ht; clear ht))
        go_ret
        exact ⟨rfl, Turn.pre ((unhide HO).drewN n) (unhide HT)⟩
      · by_cases h1 : D.room < d.size
        · go_enter Try.func6, Try.ntmps6
          go_wp2_with (first
            | (go_at_call 17; refine (unhide H17).mono ?_; rintro e w1 ⟨rfl, hd, ho⟩; have hcr : w1.cell? ⟨b, 1, none⟩ = some (.int .i64 D.room) := hd.cells.2.1; have HD := hide hd; have HO := hide ho; clear hd ho)
            | (go_at_call 18; refine (unhide H18 _ (unhide HD)).mono ?_; rintro e w2 ⟨rfl, n, rfl⟩))
          go_ret
          exact ⟨rfl, (Turn.of (unhide HD) (unhide HO)).drewN n⟩
        · go_enter Try.func6, Try.ntmps6
          go_wp2_with (first
            | (go_at_call 17; refine (unhide H17).mono ?_; rintro e w1 ⟨rfl, hd, ho⟩; have hcr : w1.cell? ⟨b, 1, none⟩ = some (.int .i64 D.room) := hd.cells.2.1; have hfr := hd.thaw; have HD := hide hd; have HO := hide ho; clear hd ho)
            | (go_at_call 18; refine (unhide H18 _ (unhide HD)).mono ?_; rintro e w2 ⟨rfl, n, rfl⟩)
            | (go_at_call 19; refine (unhide H19' _ (by exact (unhide HD).setRoom _)).mono ?_; rintro e w2 ⟨rfl, ht⟩; have HT := hide ht; clear ht))
          go_ret
          exact ⟨rfl, Turn.pre (((unhide HO).setCell (p := ⟨b, 1, none⟩) (fun _ => rfl) _).drewN n) (unhide HT)⟩
end Go.Proofs.Ytndfmgdhiallpaa
