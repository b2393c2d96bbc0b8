/- Proved: valisekeep.Copied, called with any data, any two numbers and any row of numbers, in any world and on any tape, returns true (a block of kind 1 put together of bytes and copies of any length from any distance that may be is unpacked by the program to what it should be; with a distance beyond the data it is told not right; and the example of awake is answered as the document says); its input reads as it did. -/
import Derived.Test.YtndfmgdhiallpaaGreatDoorKj
import Derived.Test.YtndfmgdhiallpaaGreatDoorZc
import Derived.Test.YtndfmgdhiallpaaGreatDoorCopiedF
import Derived.Test.YtndfmgdhiallpaaGreatDoorCopiedG
import Derived.Test.YtndfmgdhiallpaaGreatDoorCards
import Derived.Test.YtndfmgdhiallpaaGreatDoorTie
import Derived.SevenTiedAt
import Derived.Lay
import Derived.Carry
set_option maxRecDepth 100000
set_option maxHeartbeats 400000
namespace Go.Proofs.YtndfmgdhiallpaaGreatDoor.copied
open Go.ChangeShapes Go.WideShapes Go.ChangeAt Go.WideMaps Go.WideElems Go.RowKit
theorem ints_one{W:World}{r:Reach}{b:Nat}{v:Value}(h:Value.okWide Tryz.prog W r b 33 v):v.oneCell' =true:=by
 obtain ⟨a,n,c,rfl⟩:=okWide_slice Tryz.underlying33 h
 rfl
theorem lifted(os:Os)(started:os.Started)(H:Type)(enc:TypeId×Value→H):
 ReturnsInHanded {} Tryz.checked os 9 .any (fun w args=>(Rows.copiedSpec.pre enc Tryz.prog Tryz.f9 [] false w args∧laidMetH Tryz.prog laid4 w)∧sizedMet enc Tryz.prog Tryz.f9 (OpenSpec.ofChange Rows.copiedSpec) false w args)
  (Rows.copiedSpec.post enc Tryz.prog Tryz.f9 false true false false):=by
 refine handed_both (C:=Tryz.checked) (X:=fun w _=>laidMetH Tryz.prog laid4 w) (fun _ _ _ hh h=>h.of_heap hh) own started (by kernel_rfl) Tryz.func9
  (ChangeSpec.witness_shaped (enc:=enc) (C:=Tryz.checked) (os:=os) (X:=fun w _=>laidMetH Tryz.prog laid4 w) false (World.laidAll Tryz.prog os laid4) #[.string ⟨#[]⟩,.int .i64 0,.int .i64 0,.slice none 0 0] 8 (World.laidAll_os _ _ _) (World.shaped_of_ZipB (by kernel_rfl) (by kernel_rfl)) (by kernel_rfl) (by kernel_rfl) (by kernel_rfl)
   (by rw[MakeChecks.laidMetH_plain _ _ _ (by kernel_rfl)];exact laidMet_laidAll _ (by kernel_rfl) (by kernel_rfl))) ?_
 intro W base args ds gs before hval0 hW hwt hL hsh
 have hval: ∀(j:Nat) t v,Tryz.f9.params[j]? =some t→args[j]? =some v→Value.okWide Tryz.prog W .any base t v:=hval0
 have hW' :=hW
 obtain ⟨p,q,hA0,hV,rfl,hfz,hnd⟩:=hW
 have hA:DataW.TrodAll enc Tryz.prog W 0 (fun _=>true) true Tryz.f9.params.toList args.toList ds p:=hA0
 rw[Tryz.params9] at hA hval
 obtain ⟨v0,v1,v2,v3,d0,d1,d2,d3,p0,p1,p2,p3,rfl,rfl,rfl,h0,h1,h2,h3⟩:=trodAll_four hA
 obtain ⟨rfl,rfl⟩:=trodVars_none hV
 clear hA0 hval0
 obtain ⟨s,rfl,rfl,rfl,hsl⟩:=ChangeMaps.open_string Tryz.underlying9 (hval 0 9 v0 rfl rfl) h0
 obtain ⟨c,rfl,rfl,rfl,hcw⟩:=open_int Tryz.underlying3 (hval 1 3 v1 rfl rfl) h1
 obtain ⟨f,rfl,rfl,rfl,hfw⟩:=open_int Tryz.underlying3 (hval 2 3 v2 rfl rfl) h2
 have hs0:s.data.toList.length≤reachBytes:=sized_string hwt (j:=0) rfl rfl
 have hs1:s.size≤140737488351232:=by rw[Array.length_toList] at hs0;exact hs0
 have hcc: -9223372036854775808≤c∧c≤9223372036854775807:=by
  simp only[Lit.wf,Bool.and_eq_true,decide_eq_true_eq] at hcw
  exact hcw
 have hff: -9223372036854775808≤f∧f≤9223372036854775807:=by
  simp only[Lit.wf,Bool.and_eq_true,decide_eq_true_eq] at hfw
  exact hfw
 have hlt: ∀x∈p3,x.block<W.heap.size:=fun x hx=>by simpa using hW'.lt x (by simpa using hx)
 obtain ⟨m,hm,hmore⟩:=more_of h3 (ints_one (hval 3 33 v3 rfl rfl))
 simp only[List.append_nil,List.nil_append] at hW'
 refine (copiedW s hs1 c f hcc.1 hcc.2 hff.1 hff.2 v3 m (by unfold maxLen at hm;omega) W (awk_of hsh hL) hmore).mono fun e W' ⟨he,ho⟩=> ?_
 subst he
 have hb:Below W.heap.size W W' :=ho.below W.heap.size (Nat.le_refl _) (fun _ _ h=>h)
 refine ⟨_,rfl,_,_,_,[],p3,[],hW',trodAll_cons_mk (shut_bool Tryz.underlying4 _) trodAll_mk0, ?_, ?_,hb.frame _,fun h=>by cases h⟩
 ·exact trodAll_mk4 (ChangeMaps.shut_string Tryz.underlying9 hsl) (shut_int Tryz.underlying3 hcw) (shut_int Tryz.underlying3 hfw) (Below.trod laidOut (by kernel_rfl) (of_decide_eq_true (by kernel_rfl)) h3 hb hlt)
 rfl
theorem over:Rows.copiedRow.holds Tryz.pinned (OpenSpec.ofChange Rows.copiedSpec):=
 OpenClaim.holds_of_wide 9 Tryz.f9 rfl rfl rfl rfl rfl rfl rfl ⟨rfl,rfl,rfl,rfl,rfl⟩ rfl rfl rfl rfl rfl gNamed Tryz.func9 joined
  (of_decide_eq_true (by kernel_rfl)) (by unfold Func.isWrapper;first|(rw[if_pos (by decide+kernel)];kernel_rfl)|(rw[if_neg (by decide+kernel)];exact ⟨rfl,rfl⟩))
  (fun os started H enc _=>lifted os started H enc)
theorem card:Rows.CopiedCardSaid:=
 Claim7.holds_tied_plain_at .later [] [.data,.data,.data,.pinned] true Rows.copiedCard.stood.harness false
  over (fun _ h=>by cases h) (by kernel_rfl) (fun _ h=>by cases h) copied_row_tie rfl ⟨rfl,rfl⟩ gMain rfl
  (fun f fn hf hfn=>by
   obtain rfl:f=9:=(Option.some.inj (gNamed.symm.trans hf)).symm
   obtain rfl:fn=Tryz.f9:=(Option.some.inj (Tryz.func9.symm.trans hfn)).symm
   exact ⟨gLooks,fun j t ht=>by
    rw[Tryz.params9] at ht
    have hm:t∈[9,3,3,33]:=by simpa using Array.mem_of_getElem? ht
    have hall:([9,3,3,33].all fun u=> !Tryz.prog.wantsStandIn u)=true:=by kernel_rfl
    exact (show Tryz.prog.wantsStandIn t=false by simpa using List.all_eq_true.1 hall t hm)⟩)
  gGoes
end Go.Proofs.YtndfmgdhiallpaaGreatDoor.copied
namespace Go.Proofs.YtndfmgdhiallpaaGreatDoor
theorem copied_holds:Rows.CopiedCardSaid:=copied.card
#print axioms copied_holds
end Go.Proofs.YtndfmgdhiallpaaGreatDoor
