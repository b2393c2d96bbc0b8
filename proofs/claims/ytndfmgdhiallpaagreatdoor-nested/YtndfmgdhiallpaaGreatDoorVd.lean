import Derived.Test.YtndfmgdhiallpaaGreatDoorVc
set_option maxRecDepth 100000
set_option maxHeartbeats 4000000
namespace Go.Proofs.YtndfmgdhiallpaaGreatDoor
open Go.RowKit Go.Maps
theorem nestedL(s:ByteArray)(hs:100<s.size)(hsz:s.size≤140737488351232)(c:Int)(hc1: -9223372036854775808≤c)(hc2:c≤9223372036854775807)(w:World)(hw:Awk w):
 Calls Tryz.prog 10 #[.int .i64 c,.string s] w fun r w' =>r=.returned (.bool true)∧Old w w' :=by
 have H1:=hide (awakeX w hw)
 have HW:=hide hw
 clear hw
 have hsI:(100:Int)<(s.size:Int):=by omega
 have hsl0: ∀W,(Instr.slice 9 (.string s) none (some (.int .i64 100)) none).run Tryz.prog W=.ok (.string (s.extract 0 100)) W:=fun W=>run_slice_string_h W 9 s Tryz.underlying9 .i64 100 (by omega) (by omega)
 have hdz:(s.extract 0 100).size≤100:=by rw[ByteArray.size_extract];omega
 generalize s.extract 0 100=d at*
 obtain ⟨k,hk⟩: ∃k,pickN c 6=k:=⟨_,rfl⟩
 have hk6:k<6:=by rw[←hk];exact pickN_lt _ (by omega)
 have HP:=hide (fun W=>kpick_any c hc1 hc2 6 (by omega) (by omega) W)
 rw[hk] at HP
 clear hk
 go_in
 go_wp2_with fail
 refine (uh H1).mono ?_
 rintro r w1 ⟨rfl,ho1⟩
 have HW1:=hide ((uh HW).old ho1)
 have HO1:=hide ho1
 clear ho1 H1 HW
 go_wp2_with fail
 clear hsI hsl0
 go_loop [6,7] (fun y x=> ∃i:Nat,i≤k∧x=.int .i64 i∧y=.string (fldP i)) (fun _ x=>k- (intOf x).toNat)
 ·exact ⟨0,by omega,rfl,rfl⟩
 obtain ⟨i,hi,rfl,rfl⟩:=hrel
 by_cases hik:i<k
 ·have hikI:(i:Int)<(k:Int):=by omega
  have hcat:¬9223372036854775807<(fldP i).size+2:=by rw[fldP_size];omega
  have HN:Hid (fldP (i+1)=fldP i++(⟨#[47,113]⟩:ByteArray)):=rfl
  generalize fldP i=y at*
  go_wp2_with fail
  refine (uh HP _).mono ?_
  rintro r w2 ⟨rfl,rfl⟩
  go_wp2_with fail
  go_round
  ·exact ⟨i+1,by omega,by go_num,by rw[uh HN]⟩
  case measure=>simp[intOf];omega
 have hie:i=k:=by omega
 subst hie
 have hikI:¬(i:Int)<(i:Int):=by omega
 have hFz:=fldP_size i
 have hnB:nesB (fldP i)=true:=List.all_eq_true.1 nesB_all i (List.mem_range.2 hk6)
 obtain ⟨f1,f2,f3,f4⟩:=nes_facts (fldP i) d hdz hnB
 have hds:(cgo (nestL (nesT (fldP i) d)) (nesT (fldP i) d)).fs.Pairwise (fun a b=>a.1≠b.1):=(f3.pairwise_iff (fun {a b} h=>h.symm)).1 (f4.imp (fun {a b} h e=>by rw[e] at h;exact absurd h (List.lt_irrefl _)))
 have hnm: ∀e∈nesT (fldP i) d,e.nm.size≤2000000:=by
  have g1:nSg.size≤2000000:=by decide
  have g2:sGit.size≤2000000:=by decide
  have g3:nSv.size≤2000000:=by decide
  have g4:nSw.size≤2000000:=by decide
  have g5:sGo.size≤2000000:=by decide
  have g6:nTg.size≤2000000:=by decide
  have g7:nTa.size≤2000000:=by decide
  have g8:nQu.size≤2000000:=by decide
  intro e he
  unfold nesT at he
  simp only[List.mem_cons,List.not_mem_nil,or_false] at he
  rcases he with rfl|rfl|rfl|rfl|rfl|rfl|rfl|rfl|rfl|rfl|rfl|rfl<;>first|(show (fldP i++_).size≤_;rw[ByteArray.size_append,hFz];show _+7≤_;omega)|(show (fldP i++_).size≤_;rw[ByteArray.size_append,hFz];show _+6≤_;omega)|(show (fldP i).size≤_;rw[hFz];omega)|exact g1|exact g2|exact g3|exact g4|exact g5|exact g6|exact g7|exact g8
 have HCH:Hid (∀(W:World) (gt:Nat),MaxAt W→EntsAt W gt (nesT (fldP i) d)→gt<W.heap.size→Calls Tryz.prog 25 #[.slice (some ⟨gt,0,none⟩) 12 12] W fun r w' => ∃v u,r=.returned (.tuple #[v,u,.int .i64 0])∧Old W w' ∧FilesAt w' v (nesW (fldP i) d)∧LeftsAt w' u (nesY (fldP i))):=by
  intro W gt hm ht hgt
  refine (chooseA gt 12 (nesT (fldP i) d) (by show 12≤200;omega) hnm f1 hds W hm ht hgt).mono ?_
  rintro r w' ⟨v,u,fs',rfl,h1,h2,h3,h4,h5,_⟩
  rw[f2] at h5
  rw[sorted_eq (h2.trans f3.symm) h3 f4] at h4
  exact ⟨v,u,rfl,h1,h4,h5⟩
 have HT:Hid (nesT (fldP i) d=[⟨fldP i++bRa,false,d⟩,⟨fldP i++sGoS,false,d⟩,⟨fldP i++bXa,false,d⟩,⟨fldP i,true,d⟩,⟨nSg,false,d⟩,⟨sGit,false,d⟩,⟨nSv,false,d⟩,⟨nSw,false,d⟩,⟨sGo,false,d⟩,⟨nTg,true,⟨#[]⟩⟩,⟨nTa,false,d⟩,⟨nQu,false,d⟩]):=rfl
 have HWW:Hid (nesW (fldP i) d=[(sGit,d),(sGo,d),(fldP i++bXa,d),(nSw,d),(nTa,d)]):=rfl
 have HYY:Hid (nesY (fldP i)=[(fldP i++bRa,3),(fldP i++sGoS,3),(fldP i,1),(nSg,4),(nSv,2),(nTg,1),(nQu,5)]):=rfl
 have hcat1:¬9223372036854775807<(fldP i).size+7:=by rw[hFz];omega
 have hcat2:¬9223372036854775807<(fldP i).size+6:=by rw[hFz];omega
 clear f1 f2 f3 f4 hds hnm hnB hFz
 generalize nesT (fldP i) d=TT at*
 generalize nesW (fldP i) d=WW at*
 generalize nesY (fldP i)=YY at*
 generalize fldP i=F at*
 have HEV:Hid (∀W:World,EntsAt (W.alloc (.cells #[.string (F++bRa),.bool false,.string d,.string (F++sGoS),.bool false,.string d,.string (F++bXa),.bool false,.string d,.string F,.bool true,.string d,.string nSg,.bool false,.string d,.string sGit,.bool false,.string d,.string nSv,.bool false,.string d,.string nSw,.bool false,.string d,.string sGo,.bool false,.string d,.string nTg,.bool true,.string ⟨#[]⟩,.string nTa,.bool false,.string d,.string nQu,.bool false,.string d] 39)) W.heap.size TT):=fun W=>entsAt_new W TT _ (by rw[uh HT];rfl)
 go_wp2_with fail
 refine (uh HP _).mono ?_
 rintro r w2 ⟨rfl,rfl⟩
 have HA:Hid (∀o,Old w2 (w2.alloc o)):=fun o=>(Only.refl _ w2).alloc o
 have HC2:=hide (uh HCH _ _ ((uh HW1).1.old (uh HA _)) (uh HEV w2) (by rw[World.size_alloc];exact Nat.lt_succ_self _))
 clear HEV HCH HP
 go_wp2_with fail
 refine (uh HC2).mono ?_
 rintro r w3 ⟨v,u,rfl,ho3,hfa,hla⟩
 have HO3:Hid (Old w w3):=Only.trans (Only.trans (uh HO1) (uh HA _)) ho3
 have hWl:WW.length=5:=by rw[uh HWW];rfl
 have hYl:YY.length=7:=by rw[uh HYY];rfl
 obtain ⟨g,cap,hv,hgl,hgc⟩:=hfa.slice (by omega)
 obtain ⟨h,cap2,hu,hhl,hhc⟩:=hla.slice (by omega)
 rw[hWl] at hv hgc
 rw[hYl] at hu hhc
 subst hv hu
 have HFW:Hid (∀W4,W4=w3.alloc (.cells #[.string sGit,.string sGo,.string (F++bXa),.string nSw,.string nTa] 9)→ ∀W5,W5=W4.alloc (.cells #[.string (F++bRa),.int .i64 3,.string (F++sGoS),.int .i64 3,.string F,.int .i64 1,.string nSg,.int .i64 4,.string nSv,.int .i64 2,.string nTg,.int .i64 1,.string nQu,.int .i64 5] 48)→
  Old w W5∧g<W5.heap.size∧h<W5.heap.size∧w3.heap.size<W5.heap.size∧w3.heap.size+1<W5.heap.size∧(∀j,j<5→ ∃a,W5.cell? ⟨g,j*2,none⟩=some (.string a)∧W5.cell? ⟨g,j*2+1,none⟩=some (.string d)∧W5.cell? ⟨w3.heap.size,j,none⟩=some (.string a))∧
  (∀j,j<7→ ∃a b,W5.cell? ⟨h,j*2,none⟩=some (.string a)∧W5.cell? ⟨h,j*2+1,none⟩=some (.int .i64 b)∧W5.cell? ⟨w3.heap.size+1,j*2,none⟩=some (.string a)∧W5.cell? ⟨w3.heap.size+1,j*2+1,none⟩=some (.int .i64 b))):=by
  intro W4 e4 W5 e5
  have o4:Old w3 W4:=by rw[e4];exact (Only.refl _ w3).alloc _
  have o5:Old W4 W5:=by rw[e5];exact (Only.refl _ W4).alloc _
  have o35:=Only.trans o4 o5
  have hn4:=Go.heap_alloc_new w3 (.cells #[.string sGit,.string sGo,.string (F++bXa),.string nSw,.string nTa] 9)
  rw[←e4] at hn4
  have hn5:=Go.heap_alloc_new W4 (.cells #[.string (F++bRa),.int .i64 3,.string (F++sGoS),.int .i64 3,.string F,.int .i64 1,.string nSg,.int .i64 4,.string nSv,.int .i64 2,.string nTg,.int .i64 1,.string nQu,.int .i64 5] 48)
  rw[←e5] at hn5
  have hs4:W4.heap.size=w3.heap.size+1:=by rw[e4,World.size_alloc]
  have hs5:W5.heap.size=w3.heap.size+2:=by rw[e5,World.size_alloc,hs4]
  rw[hs4] at hn5
  have hn45:=old_heap o5 hn4
  refine ⟨Only.trans (uh HO3) o35,by omega,by omega,by omega,by omega,fun j hj=> ?_,fun j hj=> ?_⟩
  ·obtain ⟨c1,c2⟩:=hgc j hj
   rw[←o35.cell (p:=⟨g,j*2,none⟩) hgl (fun x=>x)] at c1
   rw[←o35.cell (p:=⟨g,j*2+1,none⟩) hgl (fun x=>x)] at c2
   rw[uh HWW] at c1 c2
   rw[cell_of_row W5 _ _ _ _ (0,0) hn45]
   have hcs:j=0∨j=1∨j=2∨j=3∨j=4:=by omega
   rcases hcs with rfl|rfl|rfl|rfl|rfl<;>exact ⟨_,c1,c2,rfl⟩
  obtain ⟨c1,c2⟩:=hhc j hj
  rw[←o35.cell (p:=⟨h,j*2,none⟩) hhl (fun x=>x)] at c1
  rw[←o35.cell (p:=⟨h,j*2+1,none⟩) hhl (fun x=>x)] at c2
  rw[uh HYY] at c1 c2
  rw[cell_of_row W5 _ _ _ _ (0,0) hn5,cell_of_row W5 _ _ _ _ (0,0) hn5]
  have hcs:j=0∨j=1∨j=2∨j=3∨j=4∨j=5∨j=6:=by omega
  rcases hcs with rfl|rfl|rfl|rfl|rfl|rfl|rfl<;>exact ⟨_,_,c1,c2,rfl,rfl⟩
 have HFW:=hide (uh HFW _ rfl _ rfl)
 clear HC2 ho3 hfa hla hWl hYl hgc hhc hgl hhl HO1 HO3 HW1 HA
 go_wp2_with fail
 generalize (w3.alloc (.cells #[.string sGit,.string sGo,.string (F++bXa),.string nSw,.string nTa] 9)).alloc (.cells #[.string (F++bRa),.int .i64 3,.string (F++sGoS),.int .i64 3,.string F,.int .i64 1,.string nSg,.int .i64 4,.string nSv,.int .i64 2,.string nTg,.int .i64 1,.string nQu,.int .i64 5] 48)=W5 at*
 generalize w3.heap.size=gw at*
 have HR5:=hide (Only.refl (fun _=>False) W5)
 go_loopw [14] (fun x wr=> ∃j:Nat,j≤5∧x=.int .i64 j∧Hid (Old W5 wr)) (fun x _=>5- (intOf x).toNat)
 ·exact ⟨0,by omega,rfl,HR5⟩
 obtain ⟨j,hj,rfl,HWR⟩:=hrel
 by_cases hj5:j<5
 ·have hj5I:(j:Int)<5:=by omega
  obtain ⟨_,hl1,_,hl2,_,hfc,_⟩:=uh HFW
  obtain ⟨a,e1,e2,e3⟩:=hfc j hj5
  have e1' :=((uh HWR).cell (p:=⟨g,j*2,none⟩) hl1 (fun x=>x)).trans e1
  have e2' :=((uh HWR).cell (p:=⟨g,j*2+1,none⟩) hl1 (fun x=>x)).trans e2
  have e3' :=((uh HWR).cell (p:=⟨gw,j,none⟩) hl2 (fun x=>x)).trans e3
  clear e1 e2 e3 hfc hl1 hl2
  go_wp2_with fail
  go_quiet (fail)
  go_wp2_with fail
  go_roundw
  ·exact ⟨j+1,by omega,by go_num,(uh HWR).drewN _⟩
  case measure=>simp[intOf];omega
 have hj5I:¬(j:Int)<5:=by omega
 go_wp2_with fail
 clear HR5 hj5 hj5I
 obtain ⟨wb,rfl⟩: ∃v,v=wr:=⟨_,rfl⟩
 have HR6:=hide (Only.refl (fun _=>False) wb)
 go_loopw [15] (fun x w6=> ∃q:Nat,q≤7∧x=.int .i64 q∧Hid (Old W5 w6)) (fun x _=>7- (intOf x).toNat)
 ·exact ⟨0,by omega,rfl,HWR⟩
 obtain ⟨q,hq,rfl,HW6⟩:=hrel
 by_cases hq7:q<7
 ·have hq7I:(q:Int)<7:=by omega
  obtain ⟨_,_,hl1,_,hl2,_,hfc⟩:=uh HFW
  obtain ⟨a,b,e1,e2,e3,e4⟩:=hfc q hq7
  have e1' :=((uh HW6).cell (p:=⟨h,q*2,none⟩) hl1 (fun x=>x)).trans e1
  have e2' :=((uh HW6).cell (p:=⟨h,q*2+1,none⟩) hl1 (fun x=>x)).trans e2
  have e3' :=((uh HW6).cell (p:=⟨gw+1,q*2,none⟩) hl2 (fun x=>x)).trans e3
  have e4' :=((uh HW6).cell (p:=⟨gw+1,q*2+1,none⟩) hl2 (fun x=>x)).trans e4
  clear e1 e2 e3 e4 hfc hl1 hl2
  go_wp2_with fail
  go_quiet (fail)
  go_wp2_with fail
  go_roundw
  ·exact ⟨q+1,by omega,by go_num,(uh HW6).drewN _⟩
  case measure=>simp[intOf];omega
 have hq7I:¬(q:Int)<7:=by omega
 have HOF:=hide (Only.trans (uh HFW).1 (uh HW6))
 go_wp2_with fail
 go_ret
 exact ⟨rfl,HOF⟩
theorem nestedW(s:ByteArray)(hsz:s.size≤140737488351232)(c:Int)(hc1: -9223372036854775808≤c)(hc2:c≤9223372036854775807)(w:World)(hw:Awk w):
 Calls Tryz.prog 10 #[.int .i64 c,.string s] w fun r w' =>r=.returned (.bool true)∧Old w w' :=by
 by_cases h:s.size≤100
 ·exact nestedS s h c hc1 hc2 w hw
 exact nestedL s (by omega) hsz c hc1 hc2 w hw
end Go.Proofs.YtndfmgdhiallpaaGreatDoor
