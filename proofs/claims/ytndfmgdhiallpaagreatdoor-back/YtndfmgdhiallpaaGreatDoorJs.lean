import Derived.Test.YtndfmgdhiallpaaGreatDoorJr
import Derived.Test.YtndfmgdhiallpaaGreatDoorJi
set_option maxRecDepth 100000
set_option maxHeartbeats 400000
namespace Go.Proofs.YtndfmgdhiallpaaGreatDoor
open Go.RowKit Go.Maps
def takenL(L:List ByteArray)(T:List Ent):List Ent:=T.filter (fun e=>whyP L e==0)
def leftL(L:List ByteArray)(T:List Ent):List Ent:=T.filter (fun e=>whyP L e !=0)
theorem cgo_parts(L:List ByteArray)(T:List Ent): ∀s:CSt,(T.foldl (cstep L) s).fs=s.fs++(takenL L T).map (fun e=>(e.nm,e.dt))∧(T.foldl (cstep L) s).lf=s.lf++(leftL L T).map (fun e=>(e.nm,whyP L e))∧(T.foldl (cstep L) s).tb=(takenL L T).foldl (fun f e=>addP f e.nm) s.tb∧(T.foldl (cstep L) s).all=s.all+((takenL L T).map (fun e=>e.dt.size)).sum:=by
 induction T with
 |nil=>intro s;simp[takenL,leftL]
 |cons e r ih=>
  intro s
  rw[List.foldl_cons]
  obtain ⟨h1,h2,h3,h4⟩:=ih (cstep L s e)
  rw[h1,h2,h3,h4]
  unfold cstep takenL leftL
  by_cases h:whyP L e=0
  ·rw[if_pos h,List.filter_cons_of_pos (by simpa using h),List.filter_cons_of_neg (by simpa using h)]
   simp[Nat.add_assoc]
  rw[if_neg h,List.filter_cons_of_neg (by simpa using h),List.filter_cons_of_pos (by simpa using h)]
  simp
theorem cgo_fs(L:List ByteArray)(T:List Ent):(cgo L T).fs=(takenL L T).map (fun e=>(e.nm,e.dt)):=by rw[cgo,(cgo_parts L T cst0).1];rfl
theorem cgo_lf(L:List ByteArray)(T:List Ent):(cgo L T).lf=(leftL L T).map (fun e=>(e.nm,whyP L e)):=by rw[cgo,(cgo_parts L T cst0).2.1];rfl
theorem cgo_tb(L:List ByteArray)(T:List Ent):(cgo L T).tb=(takenL L T).foldl (fun f e=>addP f e.nm) (fun _=>none):=(cgo_parts L T cst0).2.2.1
theorem cgo_all(L:List ByteArray)(T:List Ent):(cgo L T).all=((takenL L T).map (fun e=>e.dt.size)).sum:=by rw[cgo,(cgo_parts L T cst0).2.2.2];exact Nat.zero_add _
theorem sumD_le(l:List Ent)(m:Nat)(h: ∀e∈l,e.dt.size≤m):(l.map (fun e=>e.dt.size)).sum≤l.length*m:=by
 induction l with
 |nil=>simp
 |cons a r ih=>
  have h1:=h a (List.mem_cons_self ..)
  have h2:=ih (fun e he=>h e (List.mem_cons_of_mem _ he))
  rw[List.map_cons,List.sum_cons,List.length_cons,Nat.succ_mul];omega
theorem takenL_len(L:List ByteArray)(T:List Ent):(takenL L T).length≤T.length:=List.length_filter_le _ _
theorem mostP_ge(s:ByteArray):500≤mostP s:=by unfold mostP;split<;>omega
theorem cok_small(T:List Ent)(m:Nat)(hm:m≤500)(hn:T.length*m≤16000- 500)(hl:T.length≤50)(hs: ∀e∈T,e.dt.size≤m)
 (h: ∀i,i<T.length→whyP (nestL T) (T.getD i ent0)=0→clashP ((takenL (nestL T) (T.take i)).foldl (fun f e=>addP f e.nm) (fun _=>none)) (T.getD i ent0).nm=false∧(decide ((T.getD i ent0).nm≠sGo)&&decide (lowP (T.getD i ent0).nm=sGo))=false):COk T:=by
 intro i hi hw
 obtain ⟨h1,h2⟩:=h i hi hw
 have hsz:(T.getD i ent0).dt.size≤m:=by rw[List.getD_eq_getElem?_getD,List.getElem?_eq_getElem hi];exact hs _ (List.getElem_mem hi)
 have hmo:=mostP_ge (T.getD i ent0).nm
 have hlen:(takenL (nestL T) (T.take i)).length≤i:=Nat.le_trans (takenL_len _ _) (by rw[List.length_take];omega)
 have hall:=sumD_le (takenL (nestL T) (T.take i)) m (fun e he=>hs e (List.mem_of_mem_take (List.mem_filter.1 he).1))
 have hmul:(takenL (nestL T) (T.take i)).length*m≤T.length*m:=Nat.mul_le_mul_right m (by omega)
 unfold cfault
 rw[cgo_tb,h1,h2,cgo_fs,cgo_all,List.length_map]
 rw[if_neg (by decide),if_neg (by decide),if_neg (by omega),if_neg (by omega),if_neg (by omega)]
theorem sorted_eq{a b:List Fl}(hp:a.Perm b)(ha:a.Pairwise (fun x y=>x.1.data.toList<y.1.data.toList))(hb:b.Pairwise (fun x y=>x.1.data.toList<y.1.data.toList)):a=b:=
 hp.eq_of_pairwise (fun _ _ _ _ h1 h2=>absurd (List.lt_trans h1 h2) (List.lt_irrefl _)) ha hb
abbrev bRa:ByteArray:=⟨#[47,114,47,97,46,103,111]⟩
abbrev bXa:ByteArray:=⟨#[120,47,97,46,103,111]⟩
abbrev nSg:ByteArray:=⟨#[115,47,46,103,105,116,47,97]⟩
abbrev nSv:ByteArray:=⟨#[115,47,118,101,110,100,111,114,47,116,47,97,46,103,111]⟩
abbrev nSw:ByteArray:=⟨#[115,47,118,101,110,100,111,114,47,97,46,103,111]⟩
abbrev nTg:ByteArray:=⟨#[116,47,103,111,46,109,111,100]⟩
abbrev nTa:ByteArray:=⟨#[116,47,97,46,103,111]⟩
abbrev nQu:ByteArray:=⟨#[97,63,98]⟩
def fldP:Nat→ByteArray
 |0=>⟨#[112]⟩
 |k+1=>fldP k++(⟨#[47,113]⟩:ByteArray)
def nesT(F d:ByteArray):List Ent:=[⟨F++bRa,false,d⟩,⟨F++sGoS,false,d⟩,⟨F++bXa,false,d⟩,⟨F,true,d⟩,⟨nSg,false,d⟩,⟨sGit,false,d⟩,⟨nSv,false,d⟩,⟨nSw,false,d⟩,⟨sGo,false,d⟩,⟨nTg,true,⟨#[]⟩⟩,⟨nTa,false,d⟩,⟨nQu,false,d⟩]
def nesW(F d:ByteArray):List Fl:=[(sGit,d),(sGo,d),(F++bXa,d),(nSw,d),(nTa,d)]
def nesY(F:ByteArray):List Lf:=[(F++bRa,3),(F++sGoS,3),(F,1),(nSg,4),(nSv,2),(nTg,1),(nQu,5)]
def nesL(F:ByteArray):List ByteArray:=[⟨(Lib.trimSuffix (F++sGoS).data.toList sGo.data.toList).toArray⟩]
abbrev ltB(a b:ByteArray):Bool:=decide (a.data.toList<b.data.toList)
abbrev okB(f:Tab)(s:ByteArray):Bool:= !clashP f s&& !(decide (s≠sGo)&&decide (lowP s=sGo))
abbrev tb0:Tab:=fun _=>none
def nesB(F:ByteArray):Bool:=
 ((nesT F ⟨#[]⟩).map ownP==[false,true,false,false,false,false,false,false,false,false,false,false])&&
 ((nesT F ⟨#[]⟩).map (whyP (nesL F))==[3,3,0,1,4,0,2,0,0,1,0,5])&&
 (okB tb0 (F++bXa)&&okB (addP tb0 (F++bXa)) sGit&&okB (addP (addP tb0 (F++bXa)) sGit) nSw&&okB (addP (addP (addP tb0 (F++bXa)) sGit) nSw) sGo&&okB (addP (addP (addP (addP tb0 (F++bXa)) sGit) nSw) sGo) nTa)&&
 (ltB sGit sGo&&ltB sGo (F++bXa)&&ltB (F++bXa) nSw&&ltB nSw nTa)
theorem nesB_all:((List.range 6).all fun k=>nesB (fldP k))=true:=by kernel_rfl
theorem nes_facts(F d:ByteArray)(hd:d.size≤100)(hB:nesB F=true):COk (nesT F d)∧(cgo (nestL (nesT F d)) (nesT F d)).lf=nesY F∧(nesW F d).Perm (cgo (nestL (nesT F d)) (nesT F d)).fs∧(nesW F d).Pairwise (fun a b=>a.1.data.toList<b.1.data.toList):=by
 unfold nesB at hB
 simp only[Bool.and_eq_true,beq_iff_eq] at hB
 obtain ⟨⟨⟨h1,h2⟩,⟨⟨⟨⟨k0,k1⟩,k2⟩,k3⟩,k4⟩⟩,⟨⟨l1,l2⟩,l3⟩,l4⟩:=hB
 simp only[nesT,List.map_cons,List.map_nil,List.cons.injEq,and_true] at h1 h2
 obtain ⟨p0,p1,p2,p3,p4,p5,p6,p7,p8,p9,p10,p11⟩:=h1
 obtain ⟨q0,q1,q2,q3,q4,q5,q6,q7,q8,q9,q10,q11⟩:=h2
 have hN:nestL (nesT F d)=nesL F:=by
  have e: ∀(nm:ByteArray) (ln:Bool),ownP ⟨nm,ln,d⟩=ownP ⟨nm,ln,⟨#[]⟩⟩:=fun _ _=>rfl
  unfold nestL nesT
  simp only[List.filter_cons,e,p0,p1,p2,p3,p4,p5,p6,p7,p8,p9,p10,p11,if_true,Bool.false_eq_true,if_false,List.filter_nil]
  rfl
 have w: ∀(nm:ByteArray) (ln:Bool),whyP (nesL F) ⟨nm,ln,d⟩=whyP (nesL F) ⟨nm,ln,⟨#[]⟩⟩:=fun _ _=>rfl
 have hT:takenL (nesL F) (nesT F d)=[⟨F++bXa,false,d⟩,⟨sGit,false,d⟩,⟨nSw,false,d⟩,⟨sGo,false,d⟩,⟨nTa,false,d⟩]:=by
  unfold takenL nesT
  simp only[List.filter_cons,w,q0,q1,q2,q3,q4,q5,q6,q7,q8,q9,q10,q11,List.filter_nil]
  rfl
 have hL:leftL (nesL F) (nesT F d)=[⟨F++bRa,false,d⟩,⟨F++sGoS,false,d⟩,⟨F,true,d⟩,⟨nSg,false,d⟩,⟨nSv,false,d⟩,⟨nTg,true,⟨#[]⟩⟩,⟨nQu,false,d⟩]:=by
  unfold leftL nesT
  simp only[List.filter_cons,w,q0,q1,q2,q3,q4,q5,q6,q7,q8,q9,q10,q11,List.filter_nil]
  rfl
 have hW:(nesW F d).Pairwise (fun a b=>a.1.data.toList<b.1.data.toList):=by
  have t1:=of_decide_eq_true l1
  have t2:=of_decide_eq_true l2
  have t3:=of_decide_eq_true l3
  have t4:=of_decide_eq_true l4
  unfold nesW
  simp only[List.pairwise_cons,List.mem_cons,List.not_mem_nil,or_false,forall_eq_or_imp,forall_eq,List.Pairwise.nil,and_true,false_imp_iff,implies_true]
  exact ⟨⟨t1,List.lt_trans t1 t2,List.lt_trans (List.lt_trans t1 t2) t3,List.lt_trans (List.lt_trans (List.lt_trans t1 t2) t3) t4⟩,⟨t2,List.lt_trans t2 t3,List.lt_trans (List.lt_trans t2 t3) t4⟩,⟨t3,List.lt_trans t3 t4⟩,t4⟩
 refine ⟨?_, ?_, ?_,hW⟩
 ·apply cok_small (nesT F d) 100 (by omega) (by show 12*100≤_;omega) (by show 12≤50;omega)
  ·intro e he
   unfold nesT at he
   simp only[List.mem_cons,List.not_mem_nil,or_false] at he
   rcases he with rfl|rfl|rfl|rfl|rfl|rfl|rfl|rfl|rfl|rfl|rfl|rfl<;>first|exact hd|exact Nat.zero_le _
  rw[hN]
  intro i hi hw
  have hi2:i<12:=hi
  have hcs:i=0∨i=1∨i=2∨i=3∨i=4∨i=5∨i=6∨i=7∨i=8∨i=9∨i=10∨i=11:=by omega
  rcases hcs with rfl|rfl|rfl|rfl|rfl|rfl|rfl|rfl|rfl|rfl|rfl|rfl
  ·have hw' :whyP (nesL F) ⟨F++bRa,false,⟨#[]⟩⟩=0:=(w _ _).symm.trans hw
   rw[q0] at hw';cases hw'
  ·have hw' :whyP (nesL F) ⟨F++sGoS,false,⟨#[]⟩⟩=0:=(w _ _).symm.trans hw
   rw[q1] at hw';cases hw'
  ·have hk:takenL (nesL F) ((nesT F d).take 2)=[]:=by
    unfold takenL nesT
    simp only[List.take_succ_cons,List.take_zero,List.filter_cons,w,q0,q1,List.filter_nil]
    rfl
   rw[hk]
   have k' :=k0
   simp only[Bool.not_eq_true'] at k'
   exact k'
  ·have hw' :whyP (nesL F) ⟨F,true,⟨#[]⟩⟩=0:=(w _ _).symm.trans hw
   rw[q3] at hw';cases hw'
  ·have hw' :whyP (nesL F) ⟨nSg,false,⟨#[]⟩⟩=0:=(w _ _).symm.trans hw
   rw[q4] at hw';cases hw'
  ·have hk:takenL (nesL F) ((nesT F d).take 5)=[⟨F++bXa,false,d⟩]:=by
    unfold takenL nesT
    simp only[List.take_succ_cons,List.take_zero,List.filter_cons,w,q0,q1,q2,q3,q4,List.filter_nil]
    rfl
   rw[hk]
   have k' :=k1
   simp only[Bool.not_eq_true'] at k'
   exact k'
  ·have hw' :whyP (nesL F) ⟨nSv,false,⟨#[]⟩⟩=0:=(w _ _).symm.trans hw
   rw[q6] at hw';cases hw'
  ·have hk:takenL (nesL F) ((nesT F d).take 7)=[⟨F++bXa,false,d⟩,⟨sGit,false,d⟩]:=by
    unfold takenL nesT
    simp only[List.take_succ_cons,List.take_zero,List.filter_cons,w,q0,q1,q2,q3,q4,q5,q6,List.filter_nil]
    rfl
   rw[hk]
   have k' :=k2
   simp only[Bool.not_eq_true'] at k'
   exact k'
  ·have hk:takenL (nesL F) ((nesT F d).take 8)=[⟨F++bXa,false,d⟩,⟨sGit,false,d⟩,⟨nSw,false,d⟩]:=by
    unfold takenL nesT
    simp only[List.take_succ_cons,List.take_zero,List.filter_cons,w,q0,q1,q2,q3,q4,q5,q6,q7,List.filter_nil]
    rfl
   rw[hk]
   have k' :=k3
   simp only[Bool.not_eq_true'] at k'
   exact k'
  ·have hw' :whyP (nesL F) ⟨nTg,true,⟨#[]⟩⟩=0:=hw
   rw[q9] at hw';cases hw'
  ·have hk:takenL (nesL F) ((nesT F d).take 10)=[⟨F++bXa,false,d⟩,⟨sGit,false,d⟩,⟨nSw,false,d⟩,⟨sGo,false,d⟩]:=by
    unfold takenL nesT
    simp only[List.take_succ_cons,List.take_zero,List.filter_cons,w,q0,q1,q2,q3,q4,q5,q6,q7,q8,q9,List.filter_nil]
    rfl
   rw[hk]
   have k' :=k4
   simp only[Bool.not_eq_true'] at k'
   exact k'
  have hw' :whyP (nesL F) ⟨nQu,false,⟨#[]⟩⟩=0:=(w _ _).symm.trans hw
  rw[q11] at hw';cases hw'
 ·rw[hN,cgo_lf,hL]
  simp only[List.map_cons,List.map_nil,w,q0,q1,q3,q4,q6,q9,q11]
  rfl
 rw[hN,cgo_fs,hT]
 refine (List.perm_middle (a:=(F++bXa,d)) (l₁:=[(sGit,d),(sGo,d)]) (l₂:=[(nSw,d),(nTa,d)])).trans ?_
 exact List.Perm.cons _ (List.Perm.cons _ (List.Perm.swap _ _ _))
theorem fldP_size(k:Nat):(fldP k).size=2*k+1:=by
 induction k with
 |zero=>rfl
 |succ k ih=>rw[fldP,ByteArray.size_append,ih];show 2*k+1+2=_;omega
theorem entsAt_new(w:World)(T:List Ent)(cs:Array Value)(hc:cs.toList=T.flatMap (fun e=>e.v.toList)):EntsAt (w.alloc (.cells cs 39)) w.heap.size T:=by
 have key: ∀(T:List Ent) (i:Nat),i<T.length→(T.flatMap (fun e=>e.v.toList))[i*3]? =some (.string (T.getD i ent0).nm)∧(T.flatMap (fun e=>e.v.toList))[i*3+1]? =some (.bool (T.getD i ent0).ln)∧(T.flatMap (fun e=>e.v.toList))[i*3+2]? =some (.string (T.getD i ent0).dt):=by
  intro T
  induction T with
  |nil=>intro i hi;simp at hi
  |cons a r ih=>
   intro i hi
   rw[List.flatMap_cons]
   cases i with
   |zero=>simp
   |succ i=>
    have h:=ih i (by simpa using hi)
    rw[show (i+1)*3=i*3+3 by omega]
    simpa using h
 intro i hi
 obtain ⟨h1,h2,h3⟩:=key T i hi
 have hx:=Go.heap_alloc_new w (.cells cs 39)
 rw[←hc] at h1 h2 h3
 rw[cell_of_row _ _ _ _ _ (0,0) hx,cell_of_row _ _ _ _ _ (0,0) hx,cell_of_row _ _ _ _ _ (0,0) hx,←Array.getElem?_toList,←Array.getElem?_toList,←Array.getElem?_toList]
 exact ⟨by rw[World.size_alloc];omega,h1,h2,h3⟩
theorem chooseA(gt cap:Nat)(T:List Ent)(hT:T.length≤200)(hs: ∀e∈T,e.nm.size≤2000000)(hok:COk T)(hds:(cgo (nestL T) T).fs.Pairwise (fun a b=>a.1≠b.1))(w:World)(hm:MaxAt w)(ht:EntsAt w gt T)(hgt:gt<w.heap.size):
 Calls Tryz.prog 25 #[.slice (some ⟨gt,0,none⟩) T.length cap] w fun r w' => ∃v u fs',r=.returned (.tuple #[v,u,.int .i64 0])∧Old w w' ∧fs'.Perm (cgo (nestL T) T).fs∧fs'.Pairwise (fun a b=>a.1.data.toList<b.1.data.toList)∧FilesAt w' v fs' ∧LeftsAt w' u (cgo (nestL T) T).lf∧(∀b,v.ownBlock=some b→w.heap.size≤b)∧(∀b,u.ownBlock=some b→w.heap.size≤b):=by
 have H1:=hide (filesA gt cap T hT hs hok hds w hm ht hgt)
 clear hs hok hds hm ht hgt
 go_in
 go_wp2_with fail
 refine (uh H1).mono ?_
 rintro e w1 ⟨v,u,fs',rfl,h⟩
 have HH:=hide h
 clear h H1
 go_wp2_with fail
 go_ret3
 exact ⟨v,u,fs',rfl,HH⟩
end Go.Proofs.YtndfmgdhiallpaaGreatDoor
