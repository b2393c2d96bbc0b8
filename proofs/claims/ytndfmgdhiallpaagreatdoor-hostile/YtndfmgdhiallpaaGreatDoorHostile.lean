/- Proved: valisekeep.Hostile, called with any number and any data, in any world and on any tape, returns true (an archive with one of the hostile names is refused by Unpack and by Extract with the same answer, that of a wrong name, or of too large an archive; the disk is asked for no step and stays as it was; and the example of awake is answered as the document says); its input reads as it did. -/
import Derived.Test.YtndfmgdhiallpaaGreatDoorJz
import Derived.Test.YtndfmgdhiallpaaGreatDoorZc
import Derived.Test.YtndfmgdhiallpaaGreatDoorHostileF
import Derived.Test.YtndfmgdhiallpaaGreatDoorHostileG
import Derived.Test.YtndfmgdhiallpaaGreatDoorCards
import Derived.Test.YtndfmgdhiallpaaGreatDoorTie
import Derived.SevenTiedAt
import Derived.Lay
set_option maxRecDepth 100000
set_option maxHeartbeats 400000
namespace Go.Proofs.YtndfmgdhiallpaaGreatDoor.hostile
open Go.ChangeShapes Go.WideShapes Go.ChangeAt Go.WideMaps Go.WideElems Go.RowKit
theorem lifted(os:Os)(started:os.Started)(H:Type)(enc:TypeId×Value→H):
 ReturnsInHanded {} Tryz.checked os 13 .any (fun w args=>(Rows.hostileSpec.pre enc Tryz.prog Tryz.f13 [] false w args∧laidMetH Tryz.prog laid4 w)∧sizedMet enc Tryz.prog Tryz.f13 (OpenSpec.ofChange Rows.hostileSpec) false w args)
  (Rows.hostileSpec.post enc Tryz.prog Tryz.f13 false true false false):=by
 refine handed_both (C:=Tryz.checked) (X:=fun w _=>laidMetH Tryz.prog laid4 w) (fun _ _ _ hh h=>h.of_heap hh) own started (by kernel_rfl) Tryz.func13
  (ChangeSpec.witness_shaped (enc:=enc) (C:=Tryz.checked) (os:=os) (X:=fun w _=>laidMetH Tryz.prog laid4 w) false (World.laidAll Tryz.prog os laid4) #[.int .i64 0,.string ⟨#[]⟩] 8 (World.laidAll_os _ _ _) (World.shaped_of_ZipB (by kernel_rfl) (by kernel_rfl)) (by kernel_rfl) (by kernel_rfl) (by kernel_rfl)
   (by rw[MakeChecks.laidMetH_plain _ _ _ (by kernel_rfl)];exact laidMet_laidAll _ (by kernel_rfl) (by kernel_rfl))) ?_
 intro W base args ds gs before hval0 hW hwt hL hsh
 have hval: ∀(j:Nat) t v,Tryz.f13.params[j]? =some t→args[j]? =some v→Value.okWide Tryz.prog W .any base t v:=hval0
 have hW' :=hW
 obtain ⟨p,q,hA0,hV,rfl,hfz,hnd⟩:=hW
 have hA:DataW.TrodAll enc Tryz.prog W 0 (fun _=>true) true Tryz.f13.params.toList args.toList ds p:=hA0
 rw[Tryz.params13] at hA hval
 obtain ⟨v0,v1,d0,d1,p0,p1,rfl,rfl,rfl,h0,h1⟩:=trodAll_two hA
 obtain ⟨rfl,rfl⟩:=trodVars_none hV
 clear hA0 hval0
 obtain ⟨c,rfl,rfl,rfl,hcw⟩:=open_int Tryz.underlying3 (hval 0 3 v0 rfl rfl) h0
 obtain ⟨s,rfl,rfl,rfl,hsl⟩:=ChangeMaps.open_string Tryz.underlying9 (hval 1 9 v1 rfl rfl) h1
 have hs0:s.data.toList.length≤reachBytes:=sized_string hwt (j:=1) rfl rfl
 have hs1:s.size≤140737488351232:=by rw[Array.length_toList] at hs0;exact hs0
 have hcc: -9223372036854775808≤c∧c≤9223372036854775807:=by
  simp only[Lit.wf,Bool.and_eq_true,decide_eq_true_eq] at hcw
  exact hcw
 simp only[List.append_nil] at hW'
 refine (hostileW s hs1 c hcc.1 hcc.2 W (awk_of hsh hL)).mono fun e W' ⟨he,ho⟩=> ?_
 subst he
 have hb:Below W.heap.size W W' :=ho.below W.heap.size (Nat.le_refl _) (fun _ _ h=>h)
 refine ⟨_,rfl,_,_,_,[],[],[],hW',trodAll_cons_mk (shut_bool Tryz.underlying4 _) trodAll_mk0, ?_, ?_,hb.frame _,fun h=>by cases h⟩
 ·exact trodAll_mk2 (shut_int Tryz.underlying3 hcw) (ChangeMaps.shut_string Tryz.underlying9 hsl)
 rfl
theorem over:Rows.hostileRow.holds Tryz.pinned (OpenSpec.ofChange Rows.hostileSpec):=
 OpenClaim.holds_of_wide 13 Tryz.f13 rfl rfl rfl rfl rfl rfl rfl ⟨rfl,rfl,rfl,rfl,rfl⟩ rfl rfl rfl rfl rfl gNamed Tryz.func13 joined
  (of_decide_eq_true (by kernel_rfl)) (by unfold Func.isWrapper;first|(rw[if_pos (by decide+kernel)];kernel_rfl)|(rw[if_neg (by decide+kernel)];exact ⟨rfl,rfl⟩))
  (fun os started H enc _=>lifted os started H enc)
theorem card:Rows.HostileCardSaid:=
 Claim7.holds_tied_plain_at .later [] [.data,.data,.data,.pinned] true Rows.hostileCard.stood.harness false
  over (fun _ h=>by cases h) (by kernel_rfl) (fun _ h=>by cases h) hostile_row_tie rfl ⟨rfl,rfl⟩ gMain rfl
  (fun f fn hf hfn=>by
   obtain rfl:f=13:=(Option.some.inj (gNamed.symm.trans hf)).symm
   obtain rfl:fn=Tryz.f13:=(Option.some.inj (Tryz.func13.symm.trans hfn)).symm
   exact ⟨gLooks,fun j t ht=>by
    rw[Tryz.params13] at ht
    have hm:t∈[3,9]:=by simpa using Array.mem_of_getElem? ht
    have hall:([3,9].all fun u=> !Tryz.prog.wantsStandIn u)=true:=by kernel_rfl
    exact (show Tryz.prog.wantsStandIn t=false by simpa using List.all_eq_true.1 hall t hm)⟩)
  gGoes
end Go.Proofs.YtndfmgdhiallpaaGreatDoor.hostile
namespace Go.Proofs.YtndfmgdhiallpaaGreatDoor
theorem hostile_holds:Rows.HostileCardSaid:=hostile.card
#print axioms hostile_holds
end Go.Proofs.YtndfmgdhiallpaaGreatDoor
