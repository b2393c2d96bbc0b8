/- Proved: valisekeep.Nested, called with any number and any data, in any world and on any tape, returns true (a folder that is a module of its own, links, hidden folders, vendored files and a name that may not be are left out, each with its reason, in the order of the tree; what stands beside them is chosen, by rising names; and the example of awake is answered as the document says); its input reads as it did. -/
import Derived.Test.YtndfmgdhiallpaaGreatDoorVd
import Derived.Test.YtndfmgdhiallpaaGreatDoorZc
import Derived.Test.YtndfmgdhiallpaaGreatDoorNestedF
import Derived.Test.YtndfmgdhiallpaaGreatDoorNestedG
import Derived.Test.YtndfmgdhiallpaaGreatDoorCards
import Derived.Test.YtndfmgdhiallpaaGreatDoorTie
import Derived.SevenTiedAt
import Derived.Lay
set_option maxRecDepth 100000
set_option maxHeartbeats 400000
namespace Go.Proofs.YtndfmgdhiallpaaGreatDoor.nested
open Go.ChangeShapes Go.WideShapes Go.ChangeAt Go.WideMaps Go.WideElems Go.RowKit
theorem lifted(os:Os)(started:os.Started)(H:Type)(enc:TypeId×Value→H):
 ReturnsInHanded {} Tryz.checked os 10 .any (fun w args=>(Rows.nestedSpec.pre enc Tryz.prog Tryz.f10 [] false w args∧laidMetH Tryz.prog laid4 w)∧sizedMet enc Tryz.prog Tryz.f10 (OpenSpec.ofChange Rows.nestedSpec) false w args)
  (Rows.nestedSpec.post enc Tryz.prog Tryz.f10 false true false false):=by
 refine handed_both (C:=Tryz.checked) (X:=fun w _=>laidMetH Tryz.prog laid4 w) (fun _ _ _ hh h=>h.of_heap hh) own started (by kernel_rfl) Tryz.func10
  (ChangeSpec.witness_shaped (enc:=enc) (C:=Tryz.checked) (os:=os) (X:=fun w _=>laidMetH Tryz.prog laid4 w) false (World.laidAll Tryz.prog os laid4) #[.int .i64 0,.string ⟨#[]⟩] 8 (World.laidAll_os _ _ _) (World.shaped_of_ZipB (by kernel_rfl) (by kernel_rfl)) (by kernel_rfl) (by kernel_rfl) (by kernel_rfl)
   (by rw[MakeChecks.laidMetH_plain _ _ _ (by kernel_rfl)];exact laidMet_laidAll _ (by kernel_rfl) (by kernel_rfl))) ?_
 intro W base args ds gs before hval0 hW hwt hL hsh
 have hval: ∀(j:Nat) t v,Tryz.f10.params[j]? =some t→args[j]? =some v→Value.okWide Tryz.prog W .any base t v:=hval0
 have hW' :=hW
 obtain ⟨p,q,hA0,hV,rfl,hfz,hnd⟩:=hW
 have hA:DataW.TrodAll enc Tryz.prog W 0 (fun _=>true) true Tryz.f10.params.toList args.toList ds p:=hA0
 rw[Tryz.params10] at hA hval
 obtain ⟨v0,v1,d0,d1,p0,p1,rfl,rfl,rfl,h0,h1⟩:=trodAll_two hA
 obtain ⟨rfl,rfl⟩:=trodVars_none hV
 clear hA0 hval0
 obtain ⟨c,rfl,rfl,rfl,hcw⟩:=open_int Tryz.underlying3 (hval 0 3 v0 rfl rfl) h0
 obtain ⟨s,rfl,rfl,rfl,hsl⟩:=ChangeMaps.open_string Tryz.underlying9 (hval 1 9 v1 rfl rfl) h1
 have hs0:s.data.toList.length≤reachBytes:=sized_string hwt (j:=1) rfl rfl
 have hs1:s.size≤140737488351232:=by rw[Array.length_toList] at hs0;exact hs0
 have hcc: -9223372036854775808≤c∧c≤9223372036854775807:=by
  simp only[Lit.wf,Bool.and_eq_true,decide_eq_true_eq] at hcw
  exact hcw
 simp only[List.append_nil] at hW'
 refine (nestedW s hs1 c hcc.1 hcc.2 W (awk_of hsh hL)).mono fun e W' ⟨he,ho⟩=> ?_
 subst he
 have hb:Below W.heap.size W W' :=ho.below W.heap.size (Nat.le_refl _) (fun _ _ h=>h)
 refine ⟨_,rfl,_,_,_,[],[],[],hW',trodAll_cons_mk (shut_bool Tryz.underlying4 _) trodAll_mk0, ?_, ?_,hb.frame _,fun h=>by cases h⟩
 ·exact trodAll_mk2 (shut_int Tryz.underlying3 hcw) (ChangeMaps.shut_string Tryz.underlying9 hsl)
 rfl
theorem over:Rows.nestedRow.holds Tryz.pinned (OpenSpec.ofChange Rows.nestedSpec):=
 OpenClaim.holds_of_wide 10 Tryz.f10 rfl rfl rfl rfl rfl rfl rfl ⟨rfl,rfl,rfl,rfl,rfl⟩ rfl rfl rfl rfl rfl gNamed Tryz.func10 joined
  (of_decide_eq_true (by kernel_rfl)) (by unfold Func.isWrapper;first|(rw[if_pos (by decide+kernel)];kernel_rfl)|(rw[if_neg (by decide+kernel)];exact ⟨rfl,rfl⟩))
  (fun os started H enc _=>lifted os started H enc)
theorem card:Rows.NestedCardSaid:=
 Claim7.holds_tied_plain_at .later [] [.data,.data,.data,.pinned] true Rows.nestedCard.stood.harness false
  over (fun _ h=>by cases h) (by kernel_rfl) (fun _ h=>by cases h) nested_row_tie rfl ⟨rfl,rfl⟩ gMain rfl
  (fun f fn hf hfn=>by
   obtain rfl:f=10:=(Option.some.inj (gNamed.symm.trans hf)).symm
   obtain rfl:fn=Tryz.f10:=(Option.some.inj (Tryz.func10.symm.trans hfn)).symm
   exact ⟨gLooks,fun j t ht=>by
    rw[Tryz.params10] at ht
    have hm:t∈[3,9]:=by simpa using Array.mem_of_getElem? ht
    have hall:([3,9].all fun u=> !Tryz.prog.wantsStandIn u)=true:=by kernel_rfl
    exact (show Tryz.prog.wantsStandIn t=false by simpa using List.all_eq_true.1 hall t hm)⟩)
  gGoes
end Go.Proofs.YtndfmgdhiallpaaGreatDoor.nested
namespace Go.Proofs.YtndfmgdhiallpaaGreatDoor
theorem nested_holds:Rows.NestedCardSaid:=nested.card
#print axioms nested_holds
end Go.Proofs.YtndfmgdhiallpaaGreatDoor
