/- Proved: valiselaw.Chooses, called with any script of bulk at most 1048576, in any world and on any tape, returns true (every Digest, Check, Inflate and Deflate is as the document says; every Choose tells the document's files, left entries and error, leaves the tree that it was lent as it was, and every list that came out of it, or was handed in, reads behind every later step as its owner wrote it), and the script reads afterwards as it did; the tables digest.startWords, inflate.order, utf8.first and utf8.acceptRanges start as the program's text lays them (the card ties that). -/
import Derived.Test.YtndfmgdhiallpaaGreatDoorRo
import Derived.Test.YtndfmgdhiallpaaGreatDoorChoosesF
import Derived.Test.YtndfmgdhiallpaaGreatDoorChoosesG
import Derived.Test.YtndfmgdhiallpaaGreatDoorCards
import Derived.Test.YtndfmgdhiallpaaGreatDoorTie
import Derived.SevenTiedAt
import Derived.Lay
set_option maxRecDepth 100000
set_option maxHeartbeats 400000
namespace Go.Proofs.YtndfmgdhiallpaaGreatDoor.chooses
open Go.ChangeShapes Go.WideShapes Go.ChangeAt Go.WideMaps Go.WideElems Go.RowKit
theorem walk{v:Value}{W:World}(hg:Glob3 W)(h: ∃ao n cap,v=.slice ao n cap∧n≤1100000∧(n=0∨ ∃a,ao=some a∧OpsT (fun V=>Old W V) a n)):
 Calls Tryz.prog 5 #[v] W fun e W' =>e=.returned (.bool true)∧Old W W' :=by
 obtain ⟨ao,n,cap,rfl,hn,ho⟩:=h
 have HP:=hide (playedL ao n cap W hg ho hn)
 clear ho hg
 go_in
 go_wp2_with fail
 refine (uh HP).mono ?_
 rintro e w1 ⟨rfl,ho1⟩
 go_wp2
 go_ret
 exact ⟨rfl,ho1⟩
theorem slice_one{W:World}{r:Reach}{b:Nat}{v:Value}(h:Value.okWide Tryz.prog W r b 22 v):v.oneCell' =true:=by
 obtain ⟨a,n,c,rfl⟩:=okWide_slice Tryz.underlying22 h
 rfl
theorem lifted(os:Os)(started:os.Started)(H:Type)(enc:TypeId×Value→H)(F:Stop.Interp):
 ReturnsInHanded {} Tryz.checked os 5 .any (fun w args=>((Rows.OpenSpec.upto Rows.choosesSpec).pre enc Tryz.prog Tryz.f5 [] false w args∧laidMetH Tryz.prog laid4 w)∧sizedMet enc Tryz.prog Tryz.f5 (Rows.OpenSpec.upto Rows.choosesSpec) false w args)
  (((Rows.OpenSpec.upto Rows.choosesSpec).at F).post enc Tryz.prog Tryz.f5 false true false false):=by
 refine handed_cond (C:=Tryz.checked) (s:=Rows.OpenSpec.upto Rows.choosesSpec) (k:=Rows.uptoSmall) rfl (X:=fun w _=>laidMetH Tryz.prog laid4 w) (fun _ _ _ hh h=>h.of_heap hh) own started (by kernel_rfl) Tryz.func5
  (witness_cond (enc:=enc) (C:=Tryz.checked) (os:=os) (s:=Rows.OpenSpec.upto Rows.choosesSpec) (k:=Rows.uptoSmall) rfl (X:=fun w _=>laidMetH Tryz.prog laid4 w) false (World.laidAll Tryz.prog os laid4) #[.slice none 0 0] 8 (World.laidAll_os _ _ _) (World.shaped_of_ZipB (by kernel_rfl) (by kernel_rfl)) (by kernel_rfl) (by kernel_rfl) (by kernel_rfl)
   (by rw[MakeChecks.laidMetH_plain _ _ _ (by kernel_rfl)];exact laidMet_laidAll _ (by kernel_rfl) (by kernel_rfl))) ?_
 intro W base args ds gs before hval0 hW hkk hL hsh
 have hval: ∀(j:Nat) t v,Tryz.f5.params[j]? =some t→args[j]? =some v→Value.okWide Tryz.prog W .any base t v:=hval0
 have hW' :=hW
 obtain ⟨p,q,hA0,hV,rfl,hfz,hnd⟩:=hW
 have hA:DataW.TrodAll enc Tryz.prog W 0 (fun _=>true) true Tryz.f5.params.toList args.toList ds p:=hA0
 rw[Tryz.params5] at hA hval
 obtain ⟨v0,d0,rfl,rfl,h0⟩:=trodAll_one hA
 obtain ⟨rfl,rfl⟩:=trodVars_none hV
 clear hA0 hval0
 have hlt: ∀x∈p,x.block<W.heap.size:=fun x hx=>by simpa using hW'.lt x (by simpa using hx)
 have hb0:Rows.uptoBulkAll [d0]≤1048576:=of_decide_eq_true hkk
 have hb1:Rows.uptoBulk d0≤1048576:=by
  have:=bulk_mem (d:=d0) (l:=[d0]) (by simp)
  omega
 have hops:=ops_ofT h0 (slice_one (hval 0 22 v0 rfl rfl)) hb1
 simp only[List.append_nil] at hW'
 refine (walk ⟨⟨glob_of hL,ord_of hL⟩,max_of hsh⟩ hops).mono fun e W' ⟨he,ho⟩=> ?_
 subst he
 have hb:Below W.heap.size W W' :=ho.below W.heap.size (Nat.le_refl _) (fun _ _ h=>h)
 refine ⟨_,rfl,_,_,_,[],p,[],hW',trodAll_cons_mk (shut_bool Tryz.underlying4 _) trodAll_mk0, ?_, ?_,hb.frame _,fun h=>by cases h⟩
 ·exact trodAll_mk1 (Below.trod laidOut (by kernel_rfl) (of_decide_eq_true (by kernel_rfl)) h0 hb hlt)
 rfl
theorem over:Rows.choosesUptoRow.holds Tryz.pinned (Rows.OpenSpec.upto Rows.choosesSpec):=
 OpenClaim.holds_of_cond 5 Tryz.f5 rfl rfl rfl rfl rfl rfl rfl ⟨rfl,rfl,rfl,rfl,rfl⟩ rfl rfl rfl rfl rfl gNamed Tryz.func5 joined
  (of_decide_eq_true (by kernel_rfl)) (by unfold Func.isWrapper;first|(rw[if_pos (by decide+kernel)];kernel_rfl)|(rw[if_neg (by decide+kernel)];exact ⟨rfl,rfl⟩))
  (fun os started H enc _ F=>lifted os started H enc F)
theorem card:Rows.ChoosesUptoCardSaid:=
 Claim7.holds_tied_plain_at .later [] [.data,.data,.data,.pinned] true Rows.choosesUptoCard.stood.harness false
  over (fun _ h=>by cases h) (by kernel_rfl) (fun _ h=>by cases h) choosesUpto_row_tie rfl ⟨rfl,rfl⟩ gMain rfl
  (fun f fn hf hfn=>by
   obtain rfl:f=5:=(Option.some.inj (gNamed.symm.trans hf)).symm
   obtain rfl:fn=Tryz.f5:=(Option.some.inj (Tryz.func5.symm.trans hfn)).symm
   exact ⟨gLooks,fun j t ht=>by
    rw[Tryz.params5] at ht
    have hm:t∈[22]:=by simpa using Array.mem_of_getElem? ht
    have hall:([22].all fun u=> !Tryz.prog.wantsStandIn u)=true:=by kernel_rfl
    exact (show Tryz.prog.wantsStandIn t=false by simpa using List.all_eq_true.1 hall t hm)⟩)
  gGoes
end Go.Proofs.YtndfmgdhiallpaaGreatDoor.chooses
namespace Go.Proofs.YtndfmgdhiallpaaGreatDoor
theorem chooses_holds:Rows.ChoosesUptoCardSaid:=chooses.card
#print axioms chooses_holds
end Go.Proofs.YtndfmgdhiallpaaGreatDoor
