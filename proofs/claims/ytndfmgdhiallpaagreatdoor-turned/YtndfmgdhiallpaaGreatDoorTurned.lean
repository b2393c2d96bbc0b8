/- Proved: valisekeep.Turned, called with any raw files, any numbers and any text, in any world and on any tape, returns true (an archive that is put together by the document is unpacked to what was put in; with bits turned within 32 neighbours, or cut, or with more behind it, it is refused, as the document says; and the example of awake is answered as the document says); its input reads as it did. -/
import Derived.Test.YtndfmgdhiallpaaGreatDoorLq
import Derived.Test.YtndfmgdhiallpaaGreatDoorZc
import Derived.Test.YtndfmgdhiallpaaGreatDoorTurnedF
import Derived.Test.YtndfmgdhiallpaaGreatDoorTurnedG
import Derived.Test.YtndfmgdhiallpaaGreatDoorCards
import Derived.Test.YtndfmgdhiallpaaGreatDoorTie
import Derived.SevenTiedAt
import Derived.Lay
import Derived.Carry
set_option maxRecDepth 100000
set_option maxHeartbeats 400000
namespace Go.Proofs.YtndfmgdhiallpaaGreatDoor.turned
open Go.ChangeShapes Go.WideShapes Go.ChangeAt Go.WideMaps Go.WideElems Go.RowKit
theorem ints_one{W:World}{r:Reach}{b:Nat}{v:Value}(h:Value.okWide Tryz.prog W r b 52 v):v.oneCell' =true:=by
 obtain ⟨a,n,c,rfl⟩:=okWide_slice Tryz.underlying52 h
 rfl
theorem lifted(os:Os)(started:os.Started)(H:Type)(enc:TypeId×Value→H):
 ReturnsInHanded {} Tryz.checked os 12 .any (fun w args=>(Rows.turnedSpec.pre enc Tryz.prog Tryz.f12 [] false w args∧laidMetH Tryz.prog laid4 w)∧sizedMet enc Tryz.prog Tryz.f12 (OpenSpec.ofChange Rows.turnedSpec) false w args)
  (Rows.turnedSpec.post enc Tryz.prog Tryz.f12 false true false false):=by
 refine handed_both (C:=Tryz.checked) (X:=fun w _=>laidMetH Tryz.prog laid4 w) (fun _ _ _ hh h=>h.of_heap hh) own started (by kernel_rfl) Tryz.func12
  (ChangeSpec.witness_shaped (enc:=enc) (C:=Tryz.checked) (os:=os) (X:=fun w _=>laidMetH Tryz.prog laid4 w) false (World.laidAll Tryz.prog os laid4) #[.slice none 0 0,.int .i64 0,.int .i64 0,.int .i64 0,.string ⟨#[]⟩] 8 (World.laidAll_os _ _ _) (World.shaped_of_ZipB (by kernel_rfl) (by kernel_rfl)) (by kernel_rfl) (by kernel_rfl) (by kernel_rfl)
   (by rw[MakeChecks.laidMetH_plain _ _ _ (by kernel_rfl)];exact laidMet_laidAll _ (by kernel_rfl) (by kernel_rfl))) ?_
 intro W base args ds gs before hval0 hW hwt hL hsh
 have hval: ∀(j:Nat) t v,Tryz.f12.params[j]? =some t→args[j]? =some v→Value.okWide Tryz.prog W .any base t v:=hval0
 have hW' :=hW
 obtain ⟨p,q,hA0,hV,rfl,hfz,hnd⟩:=hW
 have hA:DataW.TrodAll enc Tryz.prog W 0 (fun _=>true) true Tryz.f12.params.toList args.toList ds p:=hA0
 rw[Tryz.params12] at hA hval
 obtain ⟨v0,vs0,d0,ds0,p0,q0,hargs,rfl,rfl,h0,hr0⟩:=trodAll_cons hA
 obtain ⟨v1,vs1,d1,ds1,p1,q1,rfl,rfl,rfl,h1,hr1⟩:=trodAll_cons hr0
 obtain ⟨v2,vs2,d2,ds2,p2,q2,rfl,rfl,rfl,h2,hr2⟩:=trodAll_cons hr1
 obtain ⟨v3,vs3,d3,ds3,p3,q3,rfl,rfl,rfl,h3,hr3⟩:=trodAll_cons hr2
 obtain ⟨v4,vs4,d4,ds4,p4,q4,rfl,rfl,rfl,h4,hr4⟩:=trodAll_cons hr3
 obtain ⟨rfl,rfl,rfl⟩:=trodAll_nil hr4
 obtain rfl:args= #[v0,v1,v2,v3,v4]:=by cases args;simp_all
 obtain ⟨rfl,rfl⟩:=trodVars_none hV
 clear hA0 hval0 hargs
 obtain ⟨c1,rfl,rfl,rfl,hc1⟩:=open_int Tryz.underlying3 (hval 1 3 v1 rfl rfl) h1
 obtain ⟨c2,rfl,rfl,rfl,hc2⟩:=open_int Tryz.underlying3 (hval 2 3 v2 rfl rfl) h2
 obtain ⟨c3,rfl,rfl,rfl,hc3⟩:=open_int Tryz.underlying3 (hval 3 3 v3 rfl rfl) h3
 obtain ⟨s,rfl,rfl,rfl,hsl⟩:=ChangeMaps.open_string Tryz.underlying9 (hval 4 9 v4 rfl rfl) h4
 have hs0:s.data.toList.length≤reachBytes:=sized_string hwt (j:=4) rfl rfl
 have hs1:s.size≤140737488351232:=by rw[Array.length_toList] at hs0;exact hs0
 have hb1: -9223372036854775808≤c1∧c1≤9223372036854775807:=by
  simp only[Lit.wf,Bool.and_eq_true,decide_eq_true_eq] at hc1
  exact hc1
 have hb2: -9223372036854775808≤c2∧c2≤9223372036854775807:=by
  simp only[Lit.wf,Bool.and_eq_true,decide_eq_true_eq] at hc2
  exact hc2
 have hb3: -9223372036854775808≤c3∧c3≤9223372036854775807:=by
  simp only[Lit.wf,Bool.and_eq_true,decide_eq_true_eq] at hc3
  exact hc3
 have hlt: ∀x∈p0,x.block<W.heap.size:=fun x hx=>by simpa using hW'.lt x (by simpa using hx)
 obtain ⟨n,hn,hraw⟩:=raw_of h0 (ints_one (hval 0 52 v0 rfl rfl)) hwt rfl rfl
 simp only[List.append_nil] at hW'
 refine (turnedW v0 n hn c1 c2 c3 hb1 hb2 hb3 s hs1 W hraw (awk_of hsh hL)).mono fun e W' ⟨he,ho⟩=> ?_
 subst he
 have hb:Below W.heap.size W W' :=ho.below W.heap.size (Nat.le_refl _) (fun _ _ h=>h)
 refine ⟨_,rfl,_,_,_,[],p0,[],hW',trodAll_cons_mk (shut_bool Tryz.underlying4 _) trodAll_mk0, ?_, ?_,hb.frame _,fun h=>by cases h⟩
 ·have ht:=trodAll_cons_mk (Below.trod laidOut (by kernel_rfl) (of_decide_eq_true (by kernel_rfl)) h0 hb hlt) (trodAll_mk4 (shut_int Tryz.underlying3 hc1) (shut_int Tryz.underlying3 hc2) (shut_int Tryz.underlying3 hc3) (ChangeMaps.shut_string Tryz.underlying9 hsl))
  simp only[List.append_nil] at ht
  exact ht
 rfl
theorem over:Rows.turnedRow.holds Tryz.pinned (OpenSpec.ofChange Rows.turnedSpec):=
 OpenClaim.holds_of_wide 12 Tryz.f12 rfl rfl rfl rfl rfl rfl rfl ⟨rfl,rfl,rfl,rfl,rfl⟩ rfl rfl rfl rfl rfl gNamed Tryz.func12 joined
  (of_decide_eq_true (by kernel_rfl)) (by unfold Func.isWrapper;first|(rw[if_pos (by decide+kernel)];kernel_rfl)|(rw[if_neg (by decide+kernel)];exact ⟨rfl,rfl⟩))
  (fun os started H enc _=>lifted os started H enc)
theorem card:Rows.TurnedCardSaid:=
 Claim7.holds_tied_plain_at .later [] [.data,.data,.data,.pinned] true Rows.turnedCard.stood.harness false
  over (fun _ h=>by cases h) (by kernel_rfl) (fun _ h=>by cases h) turned_row_tie rfl ⟨rfl,rfl⟩ gMain rfl
  (fun f fn hf hfn=>by
   obtain rfl:f=12:=(Option.some.inj (gNamed.symm.trans hf)).symm
   obtain rfl:fn=Tryz.f12:=(Option.some.inj (Tryz.func12.symm.trans hfn)).symm
   exact ⟨gLooks,fun j t ht=>by
    rw[Tryz.params12] at ht
    have hm:t∈[52,3,3,3,9]:=by simpa using Array.mem_of_getElem? ht
    have hall:([52,3,3,3,9].all fun u=> !Tryz.prog.wantsStandIn u)=true:=by kernel_rfl
    exact (show Tryz.prog.wantsStandIn t=false by simpa using List.all_eq_true.1 hall t hm)⟩)
  gGoes
end Go.Proofs.YtndfmgdhiallpaaGreatDoor.turned
namespace Go.Proofs.YtndfmgdhiallpaaGreatDoor
theorem turned_holds:Rows.TurnedCardSaid:=turned.card
#print axioms turned_holds
end Go.Proofs.YtndfmgdhiallpaaGreatDoor
