/- Proved: valiselaw.Flates, called with any script in any world and on any tape, returns true (every Digest, Check and Inflate of the program is the document's, of what Deflate told with a bit turned, too; what every Deflate tells is unpacked by the document to the data, wholly, and is as short as it must be), and the script reads afterwards as it did; the tables digest.startWords and inflate.order start as the program's text lays them (the card ties that). -/
import Derived.Test.YtndfmgdhiallpaaGreatDoorMy
import Derived.Test.YtndfmgdhiallpaaGreatDoorFlatesF
import Derived.Test.YtndfmgdhiallpaaGreatDoorFlatesG
import Derived.Test.YtndfmgdhiallpaaGreatDoorCards
import Derived.Test.YtndfmgdhiallpaaGreatDoorTie
import Derived.SevenTiedAt
import Derived.Lay
set_option maxRecDepth 100000
set_option maxHeartbeats 400000
namespace Go.Proofs.YtndfmgdhiallpaaGreatDoor.flates
open Go.ChangeShapes Go.WideShapes Go.ChangeAt Go.WideMaps Go.WideElems Go.RowKit
theorem walk{v:Value}{W:World}(hg:Glob2 W)(h:v=.slice none 0 0∨ ∃a n cap,v=.slice (some a) n cap∧n≤maxLen∧OpsAt W a n):
 Calls Tryz.prog 4 #[v] W fun e W' =>e=.returned (.bool true)∧Old W W' :=by
 have HP:Hid (Calls Tryz.prog 14 #[v,.int .i64 4] W fun e W' =>e=.returned (.bool true)∧Old W W'):=by
  rcases h with rfl|⟨a,n,cap,rfl,hn,ho⟩
  ·exact played_nil (fun h ho=>h.old ho) 4 stepOk4 W hg
  exact played_any (fun h ho=>h.old ho) 4 stepOk4 a n cap W hg ho hn
 clear h hg
 go_in
 go_wp2_with fail
 refine (uh HP).mono ?_
 rintro e w1 ⟨rfl,ho1⟩
 go_wp2
 go_ret
 exact ⟨rfl,ho1⟩
theorem slice_one{W:World}{r:Reach}{b:Nat}{v:Value}(h:Value.okWide Tryz.prog W r b 22 v):v.oneCell' =true:=by
 obtain ⟨a,n,c,rfl⟩:=okWide_slice Tryz.underlying22 h
 rfl
theorem lifted(os:Os)(started:os.Started)(H:Type)(enc:TypeId×Value→H):
 ReturnsInHanded {} Tryz.checked os 4 .any (fun w args=>(Rows.flatesSpec.pre enc Tryz.prog Tryz.f4 [] false w args∧laidMetH Tryz.prog laid4 w)∧sizedMet enc Tryz.prog Tryz.f4 (OpenSpec.ofChange Rows.flatesSpec) false w args)
  (Rows.flatesSpec.post enc Tryz.prog Tryz.f4 false true false false):=by
 refine returnsInHanded_of_change_and (C:=Tryz.checked) (X:=fun w _=>laidMetH Tryz.prog laid4 w) (fun _ _ _ hh h=>h.of_heap hh) own started (by kernel_rfl) Tryz.func4
  (ChangeSpec.witness_shaped (enc:=enc) (C:=Tryz.checked) (os:=os) (X:=fun w _=>laidMetH Tryz.prog laid4 w) false (World.laidAll Tryz.prog os laid4) #[.slice none 0 0] 8 (World.laidAll_os _ _ _) (World.shaped_of_ZipB (by kernel_rfl) (by kernel_rfl)) (by kernel_rfl) (by kernel_rfl) (by kernel_rfl)
   (by rw[MakeChecks.laidMetH_plain _ _ _ (by kernel_rfl)];exact laidMet_laidAll _ (by kernel_rfl) (by kernel_rfl))) ?_
 intro W base args ds gs before hval0 hW _ hwt hL _
 have hval: ∀(j:Nat) t v,Tryz.f4.params[j]? =some t→args[j]? =some v→Value.okWide Tryz.prog W .any base t v:=hval0
 have hW' :=hW
 obtain ⟨p,q,hA0,hV,rfl,hfz,hnd⟩:=hW
 have hA:DataW.TrodAll enc Tryz.prog W 0 (fun _=>true) true Tryz.f4.params.toList args.toList ds p:=hA0
 rw[Tryz.params4] at hA hval
 obtain ⟨v0,d0,rfl,rfl,h0⟩:=trodAll_one hA
 obtain ⟨rfl,rfl⟩:=trodVars_none hV
 clear hA0 hval0
 have hlt: ∀x∈p,x.block<W.heap.size:=fun x hx=>by simpa using hW'.lt x (by simpa using hx)
 have hops:=ops_of h0 (slice_one (hval 0 22 v0 rfl rfl)) hwt rfl rfl
 simp only[List.append_nil] at hW'
 refine (walk ⟨glob_of hL,ord_of hL⟩ hops).mono fun e W' ⟨he,ho⟩=> ?_
 subst he
 have hb:Below W.heap.size W W' :=ho.below W.heap.size (Nat.le_refl _) (fun _ _ h=>h)
 refine ⟨_,rfl,_,_,_,[],p,[],hW',trodAll_cons_mk (shut_bool Tryz.underlying4 _) trodAll_mk0, ?_, ?_,hb.frame _,fun h=>by cases h⟩
 ·exact trodAll_mk1 (Below.trod laidOut (by kernel_rfl) (of_decide_eq_true (by kernel_rfl)) h0 hb hlt)
 rfl
theorem over:Rows.flatesRow.holds Tryz.pinned (OpenSpec.ofChange Rows.flatesSpec):=
 OpenClaim.holds_of_wide 4 Tryz.f4 rfl rfl rfl rfl rfl rfl rfl ⟨rfl,rfl,rfl,rfl,rfl⟩ rfl rfl rfl rfl rfl gNamed Tryz.func4 joined
  (of_decide_eq_true (by kernel_rfl)) (by unfold Func.isWrapper;first|(rw[if_pos (by decide+kernel)];kernel_rfl)|(rw[if_neg (by decide+kernel)];exact ⟨rfl,rfl⟩))
  (fun os started H enc _=>lifted os started H enc)
theorem card:Rows.FlatesCardSaid:=
 Claim7.holds_tied_plain_at .later [] [.data,.data,.data,.pinned] true Rows.flatesCard.stood.harness false
  over (fun _ h=>by cases h) (by kernel_rfl) (fun _ h=>by cases h) flates_row_tie rfl ⟨rfl,rfl⟩ gMain rfl
  (fun f fn hf hfn=>by
   obtain rfl:f=4:=(Option.some.inj (gNamed.symm.trans hf)).symm
   obtain rfl:fn=Tryz.f4:=(Option.some.inj (Tryz.func4.symm.trans hfn)).symm
   exact ⟨gLooks,fun j t ht=>by
    rw[Tryz.params4] at ht
    have hm:t∈[22]:=by simpa using Array.mem_of_getElem? ht
    have hall:([22].all fun u=> !Tryz.prog.wantsStandIn u)=true:=by kernel_rfl
    exact (show Tryz.prog.wantsStandIn t=false by simpa using List.all_eq_true.1 hall t hm)⟩)
  gGoes
end Go.Proofs.YtndfmgdhiallpaaGreatDoor.flates
namespace Go.Proofs.YtndfmgdhiallpaaGreatDoor
theorem flates_holds:Rows.FlatesCardSaid:=flates.card
#print axioms flates_holds
end Go.Proofs.YtndfmgdhiallpaaGreatDoor
