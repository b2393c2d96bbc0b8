import Derived.Test.YtfbgamknfommpaaGreatDoorKb
import Derived.BigRegion
set_option maxRecDepth 100000
set_option maxHeartbeats 800000
namespace Go.Proofs.YtfbgamknfommpaaGreatDoor.dk
open Go.RowKit
theorem DiskAt.alloc{w:World}{b:Nat}{v:Value}{D:Dsk}(h:DiskAt w b v D)(o:Obj):DiskAt (w.alloc o) b v D:=
 h.kept ((Only.refl (fun _=>False) w).alloc o) (fun x=>x) (fun _ _ x=>x)
theorem shows_new{w:World}{g:Nat}(hg:g=w.heap.size)(t:Th):Shows (w.alloc (.cells #[.string t.p,.bool t.f,.string t.d] 71)) (.slice (some ⟨g,0,none⟩) 1 1) [t]:=by
 subst hg
 refine ⟨_,_,rfl,(by intro h;cases h), ?_⟩
 intro a ha j u hu
 cases ha
 rw[Addr.add_lit,Nat.zero_add,cell_of_row _ _ j _ 71 (0,0) (Go.heap_alloc_new w _)]
 simpa [flat] using hu
theorem put_app{w w1:World}{b n:Nat}{v v' :Value}{D:Dsk}{t:Th}(h:DiskAt w b v D)(hth:Thg w1 v' (D.ts++[noTh]))
 (hgr:(((w.alloc (.cells #[.string t.p,.bool t.f,.string t.d] 71)).drewN n).alloc (.cells #[.string ⟨#[]⟩,.bool false,.string ⟨#[]⟩] 71)).grownBy w1 v.ownBlock)
 (hown:v'.ownBlock=v.ownBlock∨ ∀k,v'.ownBlock=some k→(((w.alloc (.cells #[.string t.p,.bool t.f,.string t.d] 71)).drewN n).alloc (.cells #[.string ⟨#[]⟩,.bool false,.string ⟨#[]⟩] 71)).heap.size≤k):
 ∃g cap cur,v' =.slice (some ⟨g,0,none⟩) (D.ts.length+1) cap∧w1.heap[g]? =some (.cells cur 71 (0,0))∧D.ts.length+1≤cap∧cap≤maxLen∧cap*3≤cur.size∧cur.toList.take ((D.ts.length+1)*3)=flat (D.ts++[noTh])∧
  g≠b∧(v.ownBlock=some g∨w.heap.size+2≤g)∧
  w1.heap[b]? =w.heap[b]? ∧w1.heap[w.heap.size]? =some (.cells #[.string t.p,.bool t.f,.string t.d] 71 (0,0))∧Only (fun j=>v.ownBlock=some j) w w1:=by
 have hbl:=h.lt
 have hvb:=h.2.2
 have hvl:=h.2.1.lt
 have hO:Only (fun j=>v.ownBlock=some j) w w1:=((((Only.refl _ w).alloc _).drewN n).alloc _).grown hgr (fun k _ e=>e)
 obtain ⟨g,cap,cur,rfl,hg,h1,h2,h3,h4⟩:=thg_some hth (by simp)
 simp only[List.length_append,List.length_cons,List.length_nil,Nat.zero_add] at h1 h2 h3 h4 ⊢
 have hgo:v.ownBlock=some g∨w.heap.size+2≤g:=by
  rcases hown with e|e
  ·exact .inl e.symm
  have:=e g rfl;simp at this;exact .inr (by omega)
 refine ⟨g,cap,cur,rfl,hg,h1,h2,h3,h4, ?_,hgo,hO.block b hbl hvb, ?_,hO⟩
 ·rintro rfl
  rcases hgo with e|e
  ·exact hvb e
  omega
 have:=hgr.block w.heap.size (by simp;omega) (by intro e;have:=hvl _ e.symm;omega)
 rw[this]
 rw[Below.heap_alloc _ _ _ (by simp)]
 exact Go.heap_alloc_new w _
theorem put_cop{w w2 w3:World}{b g cap k:Nat}{v:Value}{D:Dsk}{t:Th}{cur3:Array Value}(hbl:b<w.heap.size)(h5:g≠b)(h6:v.ownBlock=some g∨w.heap.size+2≤g)(hvl: ∀k,v.ownBlock=some k→k<w.heap.size)
 (hO2:Only (fun j=>j=b∨v.ownBlock=some j) w w2)(hB2:w2.heap[w.heap.size]? =some (.cells #[.string t.p,.bool t.f,.string t.d] 71 (0,0)))
 (hD2:w2.heap[b]? =some (.cells #[.slice (some ⟨g,0,none⟩) (D.ts.length+1) cap,.int .i64 D.room,.int .i64 D.left,.int .i64 D.steps,.bool D.down] 68 (0,0)))
 (hg3:w3.heap[g]? =some (.cells cur3 71 (0,0)))(hs3:cap*3≤cur3.size)(hkc:k<cap)(ho3:Only (fun i=>i=g) w2.drew w3):
 w3.cell? ⟨b,0,none⟩=some (.slice (some ⟨g,0,none⟩) (D.ts.length+1) cap)∧
 (w3.cell? ⟨w.heap.size,0,none⟩=some (.string t.p)∧w3.cell? ⟨w.heap.size,1,none⟩=some (.bool t.f)∧w3.cell? ⟨w.heap.size,2,none⟩=some (.string t.d))∧
 (∃a0 a1 a2,w3.cell? ⟨g,k*3,none⟩=some a0∧w3.cell? ⟨g,k*3+1,none⟩=some a1∧w3.cell? ⟨g,k*3+2,none⟩=some a2)∧(∀o,w3.frozen? ⟨g,o,none⟩=false)∧
 w3.heap[b]? =some (.cells #[.slice (some ⟨g,0,none⟩) (D.ts.length+1) cap,.int .i64 D.room,.int .i64 D.left,.int .i64 D.steps,.bool D.down] 68 (0,0))∧
 (∃q,Only (fun j=>j=b∨v.ownBlock=some j) w q∧q=w3):=by
 have hsz:=hO2.size
 have hbs:w.heap.size<w2.heap.size:=(Array.getElem?_eq_some_iff.1 hB2).1
 have hgs:g≠w.heap.size:=by
  rintro rfl
  rcases h6 with e|e
  ·have:=hvl _ e;omega
  omega
 have hB3:w3.heap[w.heap.size]? =some (.cells #[.string t.p,.bool t.f,.string t.d] 71 (0,0)):=(ho3.block w.heap.size hbs (fun e=>hgs e.symm)).trans hB2
 have hD3:=(ho3.block b (by show b<w2.heap.size;omega) (fun e=>h5 e.symm)).trans hD2
 refine ⟨?_,⟨?_, ?_, ?_⟩,⟨cur3[k*3]'(by omega),cur3[k*3+1]'(by omega),cur3[k*3+2]'(by omega), ?_, ?_, ?_⟩,fun o=>frozen_of_row _ _ _ _ _ hg3,hD3,_, ?_,rfl⟩
 ·rw[cell_of_row _ _ _ _ _ _ hD3];rfl
 ·rw[cell_of_row _ _ _ _ _ _ hB3];rfl
 ·rw[cell_of_row _ _ _ _ _ _ hB3];rfl
 ·rw[cell_of_row _ _ _ _ _ _ hB3];rfl
 ·rw[cell_of_row _ _ _ _ _ _ hg3];exact Array.getElem?_eq_getElem (by omega)
 ·rw[cell_of_row _ _ _ _ _ _ hg3];exact Array.getElem?_eq_getElem (by omega)
 ·rw[cell_of_row _ _ _ _ _ _ hg3];exact Array.getElem?_eq_getElem (by omega)
 refine (hO2.drew).transNew ho3 ?_
 intro i hi e
 subst e
 rcases h6 with e|e
 ·exact .inr e
 omega
theorem toList_set3(cur:Array Value)(i:Nat)(a c d:Value):(((cur.setIfInBounds i a).setIfInBounds (i+1) c).setIfInBounds (i+2) d).toList=((cur.toList.set i a).set (i+1) c).set (i+2) d:=by
 simp[Array.toList_setIfInBounds]
theorem take_set3(l:List Value)(N i:Nat)(a c d:Value):(((l.set i a).set (i+1) c).set (i+2) d).take N=(((l.take N).set i a).set (i+1) c).set (i+2) d:=by
 simp[List.take_set]
theorem set_mid(ts r:List Th)(k:Nat)(y t:Th)(h:k≤ts.length):(ts.take k++y::r).set k t=ts.take k++t::r:=by
 induction k generalizing ts with
 |zero=>simp
 |succ k ih=>
  cases ts with
  |nil=>simp at h
  |cons a l=>simpa using ih l (by simpa using h)
theorem put_end{w q:World}{b g cap k:Nat}{v:Value}{D:Dsk}{t:Th}{cur3:Array Value}(h5:g≠b)(h6:v.ownBlock=some g∨w.heap.size+2≤g)(hkl:k≤D.ts.length)
 (hO:Only (fun j=>j=b∨v.ownBlock=some j) w q)
 (hD:q.heap[b]? =some (.cells #[.slice (some ⟨g,0,none⟩) (D.ts.length+1) cap,.int .i64 D.room,.int .i64 D.left,.int .i64 D.steps,.bool D.down] 68 (0,0)))
 (hg:q.heap[g]? =some (.cells cur3 71 (0,0)))(h1:D.ts.length+1≤cap)(h2:cap≤maxLen)(hs3:cap*3≤cur3.size)
 (hr:cur3.toList.take ((D.ts.length+1)*3)=flat (D.ts.take k++nth (D.ts++[noTh]) k::D.ts.drop k)):
 Turn w (((q.setCell ⟨g,k*3,none⟩ (.string t.p)).setCell ⟨g,k*3+1,none⟩ (.bool t.f)).setCell ⟨g,k*3+2,none⟩ (.string t.d)).drew b v {D with ts:=D.ts.take k++t::D.ts.drop k}:=by
 have hgS:g<w.heap.size→(g=b∨v.ownBlock=some g):=fun hlt=>by
  rcases h6 with e|e
  ·exact .inr e
  omega
 have e1:=heap_setCell_same q g (k*3) _ _ (.string t.p) hg
 have e2:=heap_setCell_same _ g (k*3+1) _ _ (.bool t.f) e1
 have e3:=heap_setCell_same _ g (k*3+2) _ _ (.string t.d) e2
 have hlen:(D.ts.take k++t::D.ts.drop k).length=D.ts.length+1:=by simp;omega
 refine ⟨.slice (some ⟨g,0,none⟩) (D.ts.length+1) cap,⟨?_,.inr ⟨g,cap,_,by rw[hlen],e3,by rw[hlen];exact h1,h2,by simpa using hs3, ?_⟩,by intro e;exact h5 (by simpa [Value.ownBlock] using e)⟩, ?_, ?_⟩
 ·show (((q.setCell _ _).setCell _ _).setCell _ _).heap[b]? =_
  rw[Below.heap_setCell _ _ _ _ (Ne.symm h5),Below.heap_setCell _ _ _ _ (Ne.symm h5),Below.heap_setCell _ _ _ _ (Ne.symm h5)]
  exact hD
 ·rw[hlen,toList_set3,take_set3,hr,flat_set]
  exact congrArg flat (set_mid _ _ _ _ _ hkl)
 ·exact (((hO.setCell (p:=⟨g,k*3,none⟩) hgS _).setCell (p:=⟨g,k*3+1,none⟩) hgS _).setCell (p:=⟨g,k*3+2,none⟩) hgS _).drew
 rcases h6 with e|e
 ·exact .inl e.symm
 exact .inr (fun j hj=>by simp[Value.ownBlock] at hj;omega)
theorem put_disk{w:World}{b:Nat}{v:Value}{D:Dsk}(h:DiskAt w b v D)(t:Th)(hm:D.ts.length≤1000000000000):
 Calls Tryz.prog 32 #[.pointer (some ⟨b,0,none⟩),.agg #[.string t.p,.bool t.f,.string t.d]] w fun e w' =>e=.returned (.tuple #[])∧Turn w w' b v {D with ts:=D.ts.take (low D.ts t.p)++t::D.ts.drop (low D.ts t.p)}:=by
 have hc:=h.cells.1
 have hbl:=h.lt
 have hf:=h.thaw
 have H:=hide h
 have HA:=hide (fun (w1:World) (h1:DiskAt w1 b v D)=>at_disk h1 t.p hm)
 have hkl:=low_le D.ts t.p
 clear h
 generalize low D.ts t.p=k at*
 generalize isAt D.ts t.p=ia at*
 go_in
 go_wp2_with fail
 refine (uh HA _ (by exact (uh H).alloc _)).mono ?_
 rintro e w' ⟨rfl,n,rfl⟩
 have HT:=hide ((((uh H).alloc (.cells #[.string t.p,.bool t.f,.string t.d] 71)).drewN n).alloc (.cells #[.string ⟨#[]⟩,.bool false,.string ⟨#[]⟩] 71)).2.1
 have HS:=hide (shows_new (w:=(w.alloc (.cells #[.string t.p,.bool t.f,.string t.d] 71)).drewN n) (g:=w.heap.size+1) (by simp) noTh)
 go_wp2_with (at_builtin;refine wpList_append_thg rfl (.tmp 17) (.tmp 19) rfl v _ D.ts [noTh] rfl rfl (uh HT) (uh HS) (by simp;omega) ?_;intro v' w1 hth hgr hown;obtain ⟨g,cap,cur,rfl,hg,h1,h2,h3,h4,h5,h6,h7,h8,h9⟩:=put_app (uh H) hth hgr hown;clear hth hgr hown;have HG:=hide hg;have H4:=hide h4;have H7:=hide h7;have H8:=hide h8;have H9:=hide h9;clear hg h4 h7 h8 h9;have hc1:w1.cell? ⟨b,0,none⟩=some v:=(World.cell?_of_block (w:=w) (uh H7)).trans hc;have hf1: ∀o,w1.frozen? ⟨b,o,none⟩=false:=fun o=>(World.frozen?_of_block (w:=w) (uh H7)).trans (hf o))
 have HO:=hide ((uh H9).mono (T:=fun j=>j=b∨v.ownBlock=some j) (fun _ _ e=> .inr e))
 obtain ⟨w2,hw2⟩: ∃w2,w2=w1.setCell ⟨b,0,none⟩ (.slice (some ⟨g,0,none⟩) (D.ts.length+1) cap):=⟨_,rfl⟩
 rw[←hw2]
 have HO2:Hid (Only (fun j=>j=b∨v.ownBlock=some j) w w2):=by rw[hw2];exact (uh HO).setCell (p:=⟨b,0,none⟩) (fun _=> .inl rfl) _
 have HG2:Hid (w2.heap[g]? =some (.cells cur 71 (0,0))):=by rw[hw2];exact (Below.heap_setCell _ _ _ _ h5).trans (uh HG)
 have HB2:Hid (w2.heap[w.heap.size]? =some (.cells #[.string t.p,.bool t.f,.string t.d] 71 (0,0))):=by rw[hw2];exact (Below.heap_setCell _ _ _ _ (by simp;omega)).trans (uh H8)
 have HD2:Hid (w2.heap[b]? =some (.cells #[.slice (some ⟨g,0,none⟩) (D.ts.length+1) cap,.int .i64 D.room,.int .i64 D.left,.int .i64 D.steps,.bool D.down] 68 (0,0))):=by
  rw[hw2];exact (heap_setCell_same w1 b 0 _ _ _ ((uh H7).trans (uh H).1))
 have hc2:w2.cell? ⟨b,0,none⟩=some (.slice (some ⟨g,0,none⟩) (D.ts.length+1) cap):=by rw[cell_of_row _ _ _ _ _ _ (uh HD2)];rfl
 clear hw2 HO HG H7 H8 H9 hc1 hf1 HT HS hc hf
 have hck:¬cap=k:=by omega
 have hwr:IntKind.i64.wrap ((k:Int)+1)=(k:Int)+1:=by rw[IntKind.wrap_i64];omega
 have hp0:(0:Int)≤(k:Int)+1:=by omega
 have hp1:(k:Int)+1≤((D.ts.length:Nat):Int)+1:=by omega
 have hp2:((k:Int)+1).toNat=k+1:=by omega
 have hp3:(k:Int)≤((D.ts.length:Nat):Int)+1:=by omega
 obtain ⟨dp,hdp,HDP⟩: ∃dp:Option Addr,(if cap=k+1 then some (⟨g,0,none⟩:Addr) else some ⟨g,(k+1)*3,none⟩)=dp∧Hid (k<D.ts.length→dp=some ⟨g,(k+1)*3,none⟩):=
  ⟨_,rfl,fun h=>by rw[if_neg (by omega)]⟩
 go_region_law (refine step_copy_shift rfl (.tmp 29) (.tmp 35) rfl hkl (uh HG2) h1 h3 (uh H4) dp (cap- (k+1)) (cap- k) (D.ts.length- k) (D.ts.length+1- k) rfl rfl (uh HDP) (by simp[Act.eval,Act.put]) (by simp[Act.eval,Act.put]) ?_;intro w3 cur3 hg3 hs3 hr3 ho3)
 all_goals
  obtain ⟨hc3,⟨hb0,hb1,hb2⟩,⟨a0,a1,a2,hr0,hr1,hr2⟩,hfr,HD3,q,HOq,hq⟩:=put_cop (k:=k) hbl h5 h6 (uh H).2.1.lt (uh HO2) (uh HB2) (uh HD2) hg3 hs3 (by omega) ho3
  subst hq
  have HO3:=hide HOq
  have HD:=hide HD3
  have HG3:=hide hg3
  have HR3:=hide hr3
  clear HOq HD3 hg3 hr3 ho3 HO2 HB2 HD2 HG2 hc2 H4 hwr hp0 hp1 hp2 hdp HDP
  have hkk:(k:Int)<((D.ts.length:Nat):Int)+1:=by omega
  go_wp2_with fail
  go_region
  go_wp2
  go_end0
  refine ⟨rfl, ?_⟩
  exact put_end h5 h6 hkl (uh HO3) (uh HD) (uh HG3) h1 h2 hs3 (uh HR3)
end Go.Proofs.YtfbgamknfommpaaGreatDoor.dk
namespace Go.Proofs.YtfbgamknfommpaaGreatDoor.dk
open Go.RowKit
def ins(ts:List Th)(t:Th):List Th:=ts.take (low ts t.p)++t::ts.drop (low ts t.p)
def mkdirOf(D:Dsk)(p:ByteArray):Int×Dsk:=
 if goes D then (if freeOf D.ts p==0 then (0,{stepped D with ts:=ins D.ts ⟨p,true,⟨#[]⟩⟩}) else (freeOf D.ts p,stepped D)) else (4,stepped D)
theorem stepped_ts(D:Dsk):(stepped D).ts=D.ts:=rfl
theorem Turn.drewN{w w' :World}{b:Nat}{v:Value}{D:Dsk}(h:Turn w w' b v D)(n:Nat):Turn w (w'.drewN n) b v D:=by
 obtain ⟨v',h1,h2,h3⟩:=h
 exact ⟨v',h1.drewN n,h2.drewN n,h3⟩
theorem Turn.pre{w w' w'' :World}{b:Nat}{v:Value}{D:Dsk}(ho:Only (fun k=>k=b) w w')(h:Turn w' w'' b v D):Turn w w'' b v D:=by
 obtain ⟨v',h1,h2,h3⟩:=h
 refine ⟨v',h1,(ho.mono (fun _ _ e=> .inl e)).trans h2, ?_⟩
 rcases h3 with h3|h3
 ·exact .inl h3
 exact .inr fun k hk=>Nat.le_trans ho.size (h3 k hk)
theorem mkdir_disk{w:World}{b:Nat}{v:Value}{D:Dsk}(h:DiskAt w b v D)(p:ByteArray)(hp:p.size≤1000000000000)(hm:D.ts.length≤1000000000000):
 Calls Tryz.prog 9 #[.pointer (some ⟨b,0,none⟩),.string p] w fun e w' =>e=.returned (.int .i64 (mkdirOf D p).1)∧Turn w w' b v (mkdirOf D p).2:=by
 have H17:=hide (step_disk h)
 have H18:=hide (fun (w1:World) (h1:DiskAt w1 b v (stepped D))=>free_disk h1 p hp hm)
 have H19:=hide (fun (w1:World) (h1:DiskAt w1 b v (stepped D))=>put_disk h1 ⟨p,true,⟨#[]⟩⟩ hm)
 simp only[stepped_ts] at H18 H19
 unfold mkdirOf ins
 clear h
 cases hgo:goes D
 ·rw[hgo] at H17
  go_in
  go_wp2_with (go_at_call 30;refine (uh H17).mono ?_;rintro e w1 ⟨rfl,hd,ho⟩)
  go_ret
  exact ⟨rfl,Turn.of hd ho⟩
 rw[hgo] at H17
 generalize freeOf D.ts p=fe at*
 cases hfe:(fe==0)
 ·go_in
  go_wp2_with (first
   |(go_at_call 30;refine (uh H17).mono ?_;rintro e w1 ⟨rfl,hd,ho⟩;have HD:=hide hd;have HO:=hide ho;clear hd ho)
   |(go_at_call 31;refine (uh H18 _ (uh HD)).mono ?_;rintro e w2 ⟨rfl,n,rfl⟩))
  go_ret
  exact ⟨rfl,(Turn.of (uh HD) (uh HO)).drewN n⟩
 go_in
 go_wp2_with (first
  |(go_at_call 30;refine (uh H17).mono ?_;rintro e w1 ⟨rfl,hd,ho⟩;have HD:=hide hd;have HO:=hide ho;clear hd ho)
  |(go_at_call 31;refine (uh H18 _ (uh HD)).mono ?_;rintro e w2 ⟨rfl,n,rfl⟩)
  |(go_at_call 32;refine (uh H19 _ (by exact uh HD)).mono ?_;rintro e w2 ⟨rfl,ht⟩;have HT:=hide ht;clear ht))
 go_ret
 exact ⟨rfl,Turn.pre ((uh HO).drewN n) (uh HT)⟩
def writeOf(D:Dsk)(p d:ByteArray):Int×Dsk:=
 if goes D then
  (if freeOf D.ts p==0 then
   (if D.room<0 then (0,{stepped D with ts:=ins D.ts ⟨p,false,d⟩})
    else if D.room<d.size then (3,stepped D) else (0,{stepped D with room:=D.room- d.size,ts:=ins D.ts ⟨p,false,d⟩}))
   else (freeOf D.ts p,stepped D))
 else (4,stepped D)
theorem write_disk{w:World}{b:Nat}{v:Value}{D:Dsk}(h:DiskAt w b v D)(p d:ByteArray)(hp:p.size≤1000000000000)(hs:d.size≤1000000000000)(hr:D.room≤9223372036854775807)(hm:D.ts.length≤1000000000000):
 Calls Tryz.prog 10 #[.pointer (some ⟨b,0,none⟩),.string p,.string d] w fun e w' =>e=.returned (.int .i64 (writeOf D p d).1)∧Turn w w' b v (writeOf D p d).2:=by
 have H17:=hide (step_disk h)
 have H18:=hide (fun (w1:World) (h1:DiskAt w1 b v (stepped D))=>free_disk h1 p hp hm)
 have H19:=hide (fun (w1:World) (h1:DiskAt w1 b v (stepped D))=>put_disk h1 ⟨p,false,d⟩ hm)
 have H19' :=hide (fun (w1:World) (h1:DiskAt w1 b v {stepped D with room:=D.room- d.size})=>put_disk h1 ⟨p,false,d⟩ hm)
 simp only[stepped_ts] at H18 H19
 unfold writeOf ins
 clear h
 cases hgo:goes D
 ·rw[hgo] at H17
  go_in
  go_wp2_with (go_at_call 30;refine (uh H17).mono ?_;rintro e w1 ⟨rfl,hd,ho⟩)
  go_ret
  exact ⟨rfl,Turn.of hd ho⟩
 rw[hgo] at H17
 generalize freeOf D.ts p=fe at*
 cases hfe:(fe==0)
 ·go_in
  go_wp2_with (first
   |(go_at_call 30;refine (uh H17).mono ?_;rintro e w1 ⟨rfl,hd,ho⟩;have HD:=hide hd;have HO:=hide ho;clear hd ho)
   |(go_at_call 31;refine (uh H18 _ (uh HD)).mono ?_;rintro e w2 ⟨rfl,n,rfl⟩))
  go_ret
  exact ⟨rfl,(Turn.of (uh HD) (uh HO)).drewN n⟩
 by_cases h0:D.room<0
 ·go_in
  go_wp2_with (first
   |(go_at_call 30;refine (uh H17).mono ?_;rintro e w1 ⟨rfl,hd,ho⟩;have hcr:w1.cell? ⟨b,1,none⟩=some (.int .i64 D.room):=hd.cells.2.1;have HD:=hide hd;have HO:=hide ho;clear hd ho)
   |(go_at_call 31;refine (uh H18 _ (uh HD)).mono ?_;rintro e w2 ⟨rfl,n,rfl⟩)
   |(go_at_call 32;refine (uh H19 _ (by exact uh HD)).mono ?_;rintro e w2 ⟨rfl,ht⟩;have HT:=hide ht;clear ht))
  go_ret
  exact ⟨rfl,Turn.pre ((uh HO).drewN n) (uh HT)⟩
 by_cases h1:D.room<d.size
 ·go_in
  go_wp2_with (first
   |(go_at_call 30;refine (uh H17).mono ?_;rintro e w1 ⟨rfl,hd,ho⟩;have hcr:w1.cell? ⟨b,1,none⟩=some (.int .i64 D.room):=hd.cells.2.1;have HD:=hide hd;have HO:=hide ho;clear hd ho)
   |(go_at_call 31;refine (uh H18 _ (uh HD)).mono ?_;rintro e w2 ⟨rfl,n,rfl⟩))
  go_ret
  exact ⟨rfl,(Turn.of (uh HD) (uh HO)).drewN n⟩
 go_in
 go_wp2_with (first
  |(go_at_call 30;refine (uh H17).mono ?_;rintro e w1 ⟨rfl,hd,ho⟩;have hcr:w1.cell? ⟨b,1,none⟩=some (.int .i64 D.room):=hd.cells.2.1;have hfr:=hd.thaw;have HD:=hide hd;have HO:=hide ho;clear hd ho)
  |(go_at_call 31;refine (uh H18 _ (uh HD)).mono ?_;rintro e w2 ⟨rfl,n,rfl⟩)
  |(go_at_call 32;refine (uh H19' _ (by exact (uh HD).setRoom _)).mono ?_;rintro e w2 ⟨rfl,ht⟩;have HT:=hide ht;clear ht))
 go_ret
 exact ⟨rfl,Turn.pre (((uh HO).setCell (p:=⟨b,1,none⟩) (fun _=>rfl) _).drewN n) (uh HT)⟩
end Go.Proofs.YtfbgamknfommpaaGreatDoor.dk
namespace Go.Proofs.YtfbgamknfommpaaGreatDoor.dk
open Go.RowKit
theorem Thg.shows{w:World}{v:Value}{ts:List Th}(h:Thg w v ts):Shows w v ts:=by
 rcases h with ⟨rfl,rfl⟩|⟨g,cap,cur,rfl,hg,h1,h2,h3,h4⟩
 ·exact ⟨none,0,rfl,fun _=>rfl,fun a ha=>by cases ha⟩
 refine ⟨_,cap,rfl,fun h=>(by cases h), ?_⟩
 intro a ha j u hu
 cases ha
 have hj:j<(flat ts).length:=(List.getElem?_eq_some_iff.1 hu).1
 rw[flat_length] at hj
 rw[Addr.add_lit,Nat.zero_add,cell_of_row w g j cur 71 (0,0) hg]
 rw[←h4,List.getElem?_take,if_pos hj] at hu
 simpa using hu
theorem Thg.drewN{w:World}{v:Value}{ts:List Th}(h:Thg w v ts)(n:Nat):Thg (w.drewN n) v ts:=h
theorem Thg.form{w:World}{v:Value}{ts:List Th}(h:Thg w v ts): ∃ao cap,v=.slice ao ts.length cap:=by
 rcases h with ⟨rfl,rfl⟩|⟨g,cap,cur,rfl,_⟩
 ·exact ⟨none,0,rfl⟩
 exact ⟨_,cap,rfl⟩
end Go.Proofs.YtfbgamknfommpaaGreatDoor.dk
namespace Go.Proofs.YtfbgamknfommpaaGreatDoor.dk
open Go.RowKit
def inB(p:ByteArray)(t:Th):Bool:= !(t.p.toList==p.toList)&&withinB t.p p
def hasIn(ts:List Th)(p:ByteArray):Bool:=ts.any (inB p)
def removeOf(D:Dsk)(p:ByteArray):Int×Dsk:=
 if goes D then
  (if isAt D.ts p then
   (if hasIn D.ts p then (2,stepped D)
    else (0,{stepped D with ts:=D.ts.take (low D.ts p)++D.ts.drop (low D.ts p+1),room:=if 0≤D.room then wrap64 (D.room+(nth D.ts (low D.ts p)).d.size) else D.room}))
   else (1,stepped D))
 else (4,stepped D)
theorem any_take_succ{ts:List Th}{f:Th→Bool}{k:Nat}(h:k<ts.length)(h0:(ts.take k).any f=false):(ts.take (k+1)).any f=f (nth ts k):=by
 rw[take_snoc_nth ts k h,List.any_append,h0];simp
theorem any_of_take{ts:List Th}{f:Th→Bool}{k:Nat}(h:k<ts.length)(h1:f (nth ts k)=true):ts.any f=true:=by
 refine List.any_eq_true.2 ⟨nth ts k, ?_,h1⟩
 simp[nth,h]
theorem DiskAt.row{w:World}{b g n cap:Nat}{D:Dsk}(h:DiskAt w b (.slice (some ⟨g,0,none⟩) n cap) D): ∃cur,w.heap[g]? =some (.cells cur 71 (0,0))∧D.ts.length≤cap∧cap≤maxLen∧cap*3≤cur.size∧cur.toList.take (D.ts.length*3)=flat D.ts:=by
 rcases h.2.1 with ⟨h,_⟩|⟨g',cap',cur,h,r⟩
 ·cases h
 simp only[Value.slice.injEq,Option.some.injEq,Addr.mk.injEq,and_true] at h
 obtain ⟨rfl,_,rfl⟩:=h
 exact ⟨cur,r⟩
theorem thg_cut{w:World}{g cap k:Nat}{cur:Array Value}{ts:List Th}(hg:w.heap[g]? =some (.cells cur 71 (0,0)))(hc:ts.length≤cap)(hm:cap≤maxLen)(hs:cap*3≤cur.size)(hrow:cur.toList.take (ts.length*3)=flat ts)(hk:k≤ts.length):
 Thg w (.slice (some ⟨g,0,none⟩) k k) (ts.take k):=by
 have hl:(ts.take k).length=k:=by simp;omega
 refine .inr ⟨g,k,cur,by rw[hl],hg,by rw[hl];exact Nat.le_refl _,by omega,by omega, ?_⟩
 rw[hl,flat_take,←hrow,List.take_take]
 congr 1;omega
theorem shows_tail{w:World}{g k c n:Nat}{cur:Array Value}{ts:List Th}{dp:Option Addr}(hg:w.heap[g]? =some (.cells cur 71 (0,0)))(hrow:cur.toList.take (ts.length*3)=flat ts)(hn:n=ts.length- k)
 (hdp:k<ts.length→dp=some ⟨g,k*3,none⟩):Shows w (.slice dp n c) (ts.drop k):=by
 refine ⟨dp,c,by simp[hn], ?_, ?_⟩
 ·intro h
  by_cases hk:k<ts.length
  ·rw[hdp hk] at h;cases h
  exact List.drop_eq_nil_of_le (by omega)
 intro a ha j u hu
 have hj:j<(flat (ts.drop k)).length:=(List.getElem?_eq_some_iff.1 hu).1
 rw[flat_length,List.length_drop] at hj
 have hk:k<ts.length:=by omega
 rw[hdp hk] at ha
 cases ha
 rw[Addr.add_lit,cell_of_row w g _ cur 71 (0,0) hg]
 rw[flat_drop,List.getElem?_drop,←hrow,List.getElem?_take,if_pos (by omega)] at hu
 simpa using hu
theorem rem_end{w W w4:World}{b g n cap:Nat}{D D3:Dsk}{v' x:Value}{ts:List Th}(hO:Only (fun j=>j=b) w W)(hD:DiskAt W b (.slice (some ⟨g,0,none⟩) n cap) D3)(hx:x.ownBlock=some g)(hth:Thg w4 v' ts)(hgr:W.drew.grownBy w4 x.ownBlock)
 (hown:v'.ownBlock=x.ownBlock∨ ∀k,v'.ownBlock=some k→W.drew.heap.size≤k)(hDD:D={D3 with ts:=ts}):
 Turn w (w4.setCell ⟨b,0,none⟩ v') b (.slice (some ⟨g,0,none⟩) n cap) D:=by
 have hgb:g≠b:=fun e=>hD.2.2 (by rw[←e];rfl)
 have hO4:Only (fun j=>j=g) W w4:=((Only.refl (fun j=>j=g) W).drew).grown hgr (fun k _ e=>by rw[hx] at e;cases e;rfl)
 have hne:v'.ownBlock≠some b:=by
  intro e
  rcases hown with h|h
  ·rw[h,hx] at e;cases e;exact hgb rfl
  have h1:W.heap.size≤b:=h b e
  have h2:=hD.lt
  omega
 refine ⟨v',⟨?_, ?_,hne⟩, ?_, ?_⟩
 ·rw[heap_setCell_same w4 b 0 _ _ v' ((hO4.block b hD.lt (fun e=>hgb e.symm)).trans hD.1),hDD]
  rfl
 ·rw[hDD];exact hth.kept (only_set w4 b 0 v') (fun k hk e=>hne (e ▸ hk))
 ·refine (((hO.mono (T:=fun k=>k=b∨(Value.slice (some ⟨g,0,none⟩) n cap).ownBlock=some k) (fun _ _ e=> .inl e)).transNew hO4 ?_).setCell (p:=⟨b,0,none⟩) (fun _=> .inl rfl) _)
  intro i _ e;subst e;exact .inr rfl
 rcases hown with h|h
 ·exact .inl (h.trans hx)
 exact .inr fun k hk=>Nat.le_trans hO.size (h k hk)
theorem rem_facts{W w4:World}{b g n cap:Nat}{D3:Dsk}{v' x:Value}{ts:List Th}(hD:DiskAt W b (.slice (some ⟨g,0,none⟩) n cap) D3)(hx:x.ownBlock=some g)(hth:Thg w4 v' ts)(hgr:W.drew.grownBy w4 x.ownBlock):
 (∃ao m c,v' =.slice ao m c)∧w4.cell? ⟨b,0,none⟩=some (.slice (some ⟨g,0,none⟩) n cap)∧(∀o,w4.frozen? ⟨b,o,none⟩=false):=by
 have hgb:g≠b:=fun e=>hD.2.2 (by rw[←e];rfl)
 have hO4:Only (fun j=>j=g) W w4:=((Only.refl (fun j=>j=g) W).drew).grown hgr (fun k _ e=>by rw[hx] at e;cases e;rfl)
 obtain ⟨ao,c,h⟩:=hth.form
 refine ⟨⟨ao,_,c,h⟩,(hO4.cell hD.lt (fun e=>hgb e.symm)).trans hD.cells.1,fun o=>(hO4.frozen (p:=⟨b,o,none⟩) hD.lt (fun e=>hgb e.symm)).trans (hD.thaw o)⟩
theorem remove_disk{w:World}{b:Nat}{v:Value}{D:Dsk}(h:DiskAt w b v D)(p:ByteArray)(hp:p.size≤1000000000000)(hm:D.ts.length≤1000000000000):
 Calls Tryz.prog 38 #[.pointer (some ⟨b,0,none⟩),.string p] w fun e w' =>e=.returned (.int .i64 (removeOf D p).1)∧Turn w w' b v (removeOf D p).2:=by
 have H17:=hide (step_disk h)
 have H21:=hide (fun (w1:World) (h1:DiskAt w1 b v (stepped D))=>at_disk h1 p hm)
 have H20:=hide (fun (w1:World) (q:ByteArray)=>within_any q p w1 hp)
 simp only[stepped_ts] at H21
 unfold removeOf
 have HV:=hide h.2.1
 have HB:=hide h.2.2
 clear h
 cases hgo:goes D
 ·rw[hgo] at H17
  go_in
  go_wp2_with (go_at_call 30;refine (uh H17).mono ?_;rintro e w1 ⟨rfl,hd,ho⟩)
  go_ret
  exact ⟨rfl,Turn.of hd ho⟩
 rw[hgo] at H17
 cases hia:isAt D.ts p
 ·rw[hia] at H21
  go_in
  go_wp2_with (first
   |(go_at_call 30;refine (uh H17).mono ?_;rintro e w1 ⟨rfl,hd,ho⟩;have HD:=hide hd;have HO:=hide ho;clear hd ho)
   |(go_at_call 35;refine (uh H21 _ (uh HD)).mono ?_;rintro e w2 ⟨rfl,n,rfl⟩))
  go_ret
  exact ⟨rfl,(Turn.of (uh HD) (uh HO)).drewN n⟩
 rw[hia] at H21
 have hlt:=isAt_lt hia
 obtain ⟨g,cap,cur0,rfl,_⟩:=thg_some (uh HV) (by omega)
 generalize hk:low D.ts p=k at*
 have HK:=hide hk
 clear hk
 go_in
 go_wp2_with (first
  |(go_at_call 30;refine (uh H17).mono ?_;rintro e w1 ⟨rfl,hd,ho⟩;have hc:=hd.cells.1;have HD:=hide hd;have HO:=hide ho;clear hd ho)
  |(go_at_call 35;refine (uh H21 _ (uh HD)).mono ?_;rintro e w2 ⟨rfl,n,rfl⟩))
 go_loopw [25] (fun i wr=> ∃j:Nat,j≤D.ts.length∧i=.int .i64 j∧Hid ((D.ts.take j).any (inB p)=false)∧Hid (Only (fun _=>False) w1 wr)) (fun i _=>D.ts.length- (intOf i).toNat)
 ·exact ⟨0,Nat.zero_le _,rfl,(show ((D.ts.take 0).any (inB p)=false) by simp),(Only.refl _ _).drewN n⟩
 obtain ⟨j,hj,rfl,HN,HR⟩:=hrel
 have HDr:=hide ((uh HD).kept (uh HR) (fun x=>x) (fun _ _ x=>x))
 obtain ⟨cur,hg,hcap,hcm,hcs,hrow⟩:=(uh HDr).row
 simp only[stepped_ts] at hcap hrow
 by_cases hjl:j<D.ts.length
 ·obtain ⟨r0,r1,r2⟩:=row_cells hg hrow j hjl
  have HA:=hide (any_take_succ (f:=inB p) hjl (uh HN))
  have HI:=hide (any_of_take (f:=inB p) hjl)
  unfold inB at HA HI
  clear hg hrow hcap hcs
  generalize hth:nth D.ts j=t at*
  clear hth
  cases h1:(t.p.toList==p.toList)<;>cases h2:withinB t.p p
  case false.true=>
   have hh:hasIn D.ts p=true:=uh HI (by simp[h1,h2])
   go_wp2_with (go_at_call 65;refine (uh H20 _ _).mono ?_;rintro e w2 ⟨rfl,rfl⟩)
   go_ret
   refine ⟨rfl,Turn.of ((uh HDr).alloc _) ?_⟩
   exact ((uh HO).transNew (uh HR) (fun _ _ x=>x.elim)).alloc _
  all_goals
   go_wp2_with (go_at_call 65;refine (uh H20 _ _).mono ?_;rintro e w2 ⟨rfl,rfl⟩)
   go_roundw
   ·exact ⟨j+1,by omega,by go_num,(uh HA).trans (by simp[h1,h2]),(uh HR).alloc _⟩
   case measure=>simp[intOf];omega
 have hh:hasIn D.ts p=false:=by have:=uh HN;rwa [List.take_of_length_le (by omega)] at this
 have c0:=(uh HDr).cells.1
 have c1:wr.cell? ⟨b,1,none⟩=some (.int .i64 D.room):=(uh HDr).cells.2.1
 have hfr:=(uh HDr).thaw
 obtain ⟨r0,r1,r2⟩:=row_cells hg hrow k hlt
 have hkk:(k:Int)<(D.ts.length:Int):=by omega
 have HRow:=hide hrow
 have HG:=hide hg
 clear hrow hg
 have hgb:g≠b:=fun e=>uh HB (by rw[←e];rfl)
 have hck:(k:Int)≤(D.ts.length:Int):=by omega
 have hwr:IntKind.i64.wrap ((k:Int)+1)=(k:Int)+1:=by rw[IntKind.wrap_i64];omega
 have hp0:(0:Int)≤(k:Int)+1:=by omega
 have hp1:(k:Int)+1≤(D.ts.length:Int):=by omega
 have hp2:((k:Int)+1).toNat=k+1:=by omega
 have hp3:(k:Int)≤(cap:Int):=by omega
 obtain ⟨dp,hdp,HDP⟩: ∃dp:Option Addr,(if cap=k+1 then some (⟨g,0,none⟩:Addr) else some ⟨g,(k+1)*3,none⟩)=dp∧Hid (k+1<D.ts.length→dp=some ⟨g,(k+1)*3,none⟩):=
  ⟨_,rfl,fun h=>by rw[if_neg (by omega)]⟩
 by_cases h0:0≤D.room
 ·go_wp2_with fail
  go_big_region
  go_wp2_with fail
  obtain ⟨W,hW⟩: ∃W,W=(wr.setCell ⟨b,1,none⟩ (.int .i64 (wrap64 (D.room+ ↑(nth D.ts k).d.size)))).drew:=⟨_,rfl⟩
  rw[←hW]
  have HW:Hid (DiskAt W b (.slice (some ⟨g,0,none⟩) D.ts.length cap) {stepped D with room:=wrap64 (D.room+ ↑(nth D.ts k).d.size)}):=by rw[hW];exact ((uh HDr).setRoom _)
  have HOW:Hid (Only (fun j=>j=b) w W):=by rw[hW];exact ((((uh HO).transNew (uh HR) (fun _ _ x=>x.elim)).setCell (p:=⟨b,1,none⟩) (fun _=>rfl) _).drew)
  have HG3:Hid (W.heap[g]? =some (.cells cur 71 (0,0))):=by rw[hW];exact (Below.heap_setCell _ _ _ _ hgb).trans (uh HG)
  have cW:W.cell? ⟨b,0,none⟩=some (.slice (some ⟨g,0,none⟩) D.ts.length cap):=(uh HW).cells.1
  clear hW c0 c1 r0 r1 r2 hfr
  have HT:=hide (thg_cut (uh HG3) hcap hcm hcs (uh HRow) (Nat.le_of_lt hlt))
  have HS:=hide (shows_tail (n:=D.ts.length- (k+1)) (c:=cap- (k+1)) (uh HG3) (uh HRow) rfl (uh HDP))
  clear HDr
  go_region_law (refine step_append_thg rfl (.tmp 68) (.tmp 75) rfl (.slice (some ⟨g,0,none⟩) k k) (.slice dp (D.ts.length- (k+1)) (cap- (k+1))) (D.ts.take k) (D.ts.drop (k+1)) (by simp[Act.eval,Act.put]) (by simp[Act.eval,Act.put]) (by exact uh HT) (by exact uh HS) (by simp;omega) ?_;intro v' w4 hth hgr hown;obtain ⟨⟨ao,m,c,hf⟩,hc4,hf4⟩:=rem_facts (uh HW) rfl hth hgr;subst hf;have HTH:=hide hth;have HGR:=hide hgr;have HOWN:=hide hown;clear hth hgr hown)
  all_goals
   go_wp2
   go_ret
   refine ⟨rfl, ?_⟩
   exact rem_end (uh HOW) (uh HW) rfl (uh HTH) (uh HGR) (uh HOWN) rfl
 go_wp2_with fail
 have HW:Hid (DiskAt wr b (.slice (some ⟨g,0,none⟩) D.ts.length cap) (stepped D)):=HDr
 have HOW:Hid (Only (fun j=>j=b) w wr):=(uh HO).transNew (uh HR) (fun _ _ x=>x.elim)
 have HG3:=HG
 clear c1 r0 r1 r2 hfr
 have HT:=hide (thg_cut (uh HG3) hcap hcm hcs (uh HRow) (Nat.le_of_lt hlt))
 have HS:=hide (shows_tail (n:=D.ts.length- (k+1)) (c:=cap- (k+1)) (uh HG3) (uh HRow) rfl (uh HDP))
 clear HDr
 go_region_law (refine step_append_thg rfl (.tmp 68) (.tmp 75) rfl (.slice (some ⟨g,0,none⟩) k k) (.slice dp (D.ts.length- (k+1)) (cap- (k+1))) (D.ts.take k) (D.ts.drop (k+1)) (by simp[Act.eval,Act.put]) (by simp[Act.eval,Act.put]) (by exact uh HT) (by exact uh HS) (by simp;omega) ?_;intro v' w4 hth hgr hown;obtain ⟨⟨ao,m,c,hf⟩,hc4,hf4⟩:=rem_facts (uh HW) rfl hth hgr;subst hf;have HTH:=hide hth;have HGR:=hide hgr;have HOWN:=hide hown;clear hth hgr hown)
 all_goals
  go_wp2
  go_ret
  refine ⟨rfl, ?_⟩
  exact rem_end (uh HOW) (uh HW) rfl (uh HTH) (uh HGR) (uh HOWN) rfl
end Go.Proofs.YtfbgamknfommpaaGreatDoor.dk
namespace Go.Proofs.YtfbgamknfommpaaGreatDoor.dk
open Go.RowKit
def nameIn(p:ByteArray)(t:Th):ByteArray:=if p.toList==[] then t.p else t.p.extract (p.size+1) t.p.size
def standsIn(p:ByteArray)(t:Th):Bool:=(upOf t.p).toList==p.toList
def namesOf(ts:List Th)(p:ByteArray):List ByteArray:=(ts.filter (standsIn p)).map (nameIn p)
def okN(ts:List Th)(p:ByteArray):Bool:=(p.toList==[])|| !(isOf ts p !=2)
def namesL(ts:List Th)(p:ByteArray):List ByteArray:=if okN ts p then namesOf ts p else []
theorem par_small(s:ByteArray)(n:Nat): ∀i fr up u,par s n i fr up=some u→u=up∨u.size<s.size:=by
 induction n with
 |zero=>intro i fr up u h;simp[par] at h;exact .inl h.symm
 |succ n ih=>
  intro i fr up u h
  rw[par] at h
  split at h
  ·rename_i hi
   split at h
   ·split at h
    ·cases h
    rcases ih _ _ _ _ h with e|e
    ·right;rw[e,ByteArray.size_extract];omega
    exact .inr e
   exact ih _ _ _ _ h
  split at h
  ·cases h
  simp at h;exact .inl h.symm
theorem upOf_small(s:ByteArray):(upOf s).size=0∨(upOf s).size<s.size:=by
 cases h:parentOf s with
 |none=>left;rw[upOf_none h];rfl
 |some u=>
  rw[upOf_some h]
  rcases par_small s _ _ _ _ _ h with e|e
  ·left;rw[e];rfl
  exact .inr e
theorem size_toList(s:ByteArray):s.toList.length=s.size:=by rw[ByteArray.toList_eq];rfl
theorem stands_small{p:ByteArray}{t:Th}(h:((upOf t.p).toList==p.toList)=true)(hp:(p.toList==[])=false):p.size+1≤t.p.size:=by
 have e:(upOf t.p).toList=p.toList:=by simpa using h
 have e2:(upOf t.p).size=p.size:=by rw[←size_toList,e,size_toList]
 have h0:p.size≠0:=by
  intro h;rw[←size_toList] at h;rw[List.eq_nil_of_length_eq_zero h] at hp;simp at hp
 rcases upOf_small t.p with e|e<;>omega
theorem namesOf_no{ts:List Th}{p:ByteArray}{k:Nat}(h:k<ts.length)(hs:standsIn p (nth ts k)=false):namesOf (ts.take (k+1)) p=namesOf (ts.take k) p:=by
 rw[take_snoc_nth ts k h];simp[namesOf,hs]
theorem namesOf_yes{ts:List Th}{p:ByteArray}{k:Nat}(h:k<ts.length)(hs:standsIn p (nth ts k)=true):namesOf (ts.take (k+1)) p=namesOf (ts.take k) p++[nameIn p (nth ts k)]:=by
 rw[take_snoc_nth ts k h];simp[namesOf,hs]
theorem namesOf_len(ts:List Th)(p:ByteArray):(namesOf ts p).length≤ts.length:=by
 simp[namesOf,List.length_filter_le]
theorem info9:(Tryz.prog.info? 9).map (fun i=>(i.zero,i.size,i.bytes))=some (some (.string ⟨#[]⟩),1,16):=by kernel_rfl
theorem str_new{w:World}{g:Nat}(hg:g=w.heap.size)(s:ByteArray): ∀j u,[Value.string s][j]? =some u→(w.alloc (.cells #[.string s] 9)).cell? ((⟨g,0,none⟩:Addr).add j)=some u:=by
 subst hg
 intro j u hu
 rw[Addr.add_lit,Nat.zero_add,cell_of_row _ _ j _ 9 (0,0) (Go.heap_alloc_new w _)]
 simpa using hu
theorem str_one(s:ByteArray): ∀u∈[Value.string s],u.oneCell' =true:=by
 intro u hu;simp at hu;subst hu;rfl
theorem own_only{w w1 w2:World}{l:Value}{n:Nat}{xs:List Value}(hO:Only (fun _=>False) w w1)(hl:w1.ownsRow w.heap.size 9 1 l n xs)(hg:w1.grownBy w2 l.ownBlock):Only (fun _=>False) w w2:=
 hO.transNew (T:=fun k=>l.ownBlock=some k) ⟨hg.os,hg.tape,hg.output,hg.size,fun k hk hs=>hg.block k hk (fun e=>hs e.symm)⟩ (fun i hi e=>by have:=(hl.lt i e).1;omega)
theorem names_nil{w:World}{b:Nat}{D:Dsk}(h:DiskAt w b (.slice none 0 0) D)(ht:D.ts=[])(p:ByteArray):
 Calls Tryz.prog 17 #[.pointer (some ⟨b,0,none⟩),.string p] w fun e w' => ∃l,e=.returned (.tuple #[l,.bool (okN D.ts p)])∧w'.ownsRow w.heap.size 9 1 l (namesL D.ts p).length ((namesL D.ts p).map Value.string)∧Only (fun _=>False) w w' :=by
 have H12:=hide (fun (w1:World) (h1:DiskAt w1 b (.slice none 0 0) D)=>is_disk h1 p (by rw[ht];simp))
 have H:=hide h
 have hc:=h.cells.1
 have hne: ∀q,namesOf ([]:List Th) q=[]:=fun q=>rfl
 unfold namesL okN
 rw[ht] at H12 ⊢
 simp only[hne]
 generalize hf:isOf [] p=f at*
 clear hf h
 cases hpe:(p.toList==[])<;>cases h2:(f !=2)
 case false.true=>
  go_in
  go_wp2_with (go_at_call 18;refine (uh H12 _ (uh H)).mono ?_;rintro e w1 ⟨rfl,n,rfl⟩)
  go_ret2
  exact ⟨_,rfl,World.ownsRow_nil _ _ _ _,(Only.refl _ _).drewN n⟩
 all_goals
  go_in
  go_wp2_with (go_at_call 18;refine (uh H12 _ (uh H)).mono ?_;rintro e w1 ⟨rfl,n,rfl⟩)
  go_loop [6,25] (fun l i=>l=.slice none 0 0∧i=.int .i64 0) (fun _ _=>0)
  ·exact ⟨rfl,rfl⟩
  obtain ⟨rfl,rfl⟩:=hrel
  go_wp2
  go_ret2
  exact ⟨_,rfl,World.ownsRow_nil _ _ _ _,by first|exact (Only.refl _ _).drewN n|exact Only.refl _ _⟩
theorem names_some{w:World}{b g cap:Nat}{D:Dsk}(h:DiskAt w b (.slice (some ⟨g,0,none⟩) D.ts.length cap) D)(p:ByteArray)(hp:p.size≤1000000000000)(hm:D.ts.length≤1000000000000)(hsz: ∀k,k<D.ts.length→(nth D.ts k).p.size≤1000000000000):
 Calls Tryz.prog 17 #[.pointer (some ⟨b,0,none⟩),.string p] w fun e w' => ∃l,e=.returned (.tuple #[l,.bool (okN D.ts p)])∧w'.ownsRow w.heap.size 9 1 l (namesL D.ts p).length ((namesL D.ts p).map Value.string)∧Only (fun _=>False) w w' :=by
 have H12:=hide (fun (w1:World) (h1:DiskAt w1 b (.slice (some ⟨g,0,none⟩) D.ts.length cap) D)=>is_disk h1 p hm)
 have H22:=hide (fun (w1:World) (q:ByteArray) (hq:q.size≤1000000000000)=>parent_any q w1 hq)
 have H:=hide h
 have hc:=h.cells.1
 obtain ⟨i0,hi0,hz0,hz1,hz2⟩:=info_parts info9
 unfold namesL okN
 generalize hf:isOf D.ts p=f at*
 clear hf h
 cases hpe:(p.toList==[])<;>cases h2:(f !=2)
 case false.true=>
  go_in
  go_wp2_with (go_at_call 18;refine (uh H12 _ (uh H)).mono ?_;rintro e w1 ⟨rfl,n,rfl⟩)
  go_ret2
  exact ⟨_,rfl,World.ownsRow_nil _ _ _ _,(Only.refl _ _).drewN n⟩
 case false.false=>
  go_in
  go_wp2_with (go_at_call 18;refine (uh H12 _ (uh H)).mono ?_;rintro e w1 ⟨rfl,n,rfl⟩)
  go_loopw [6,25] (fun l i wr=> ∃j:Nat,j≤D.ts.length∧i=.int .i64 j∧Hid (wr.ownsRow w.heap.size 9 1 l (namesOf (D.ts.take j) p).length ((namesOf (D.ts.take j) p).map Value.string))∧Hid (Only (fun _=>False) w wr)) (fun _ i _=>D.ts.length- (intOf i).toNat)
  ·exact ⟨0,Nat.zero_le _,rfl,World.ownsRow_nil _ _ _ _,by first|exact (Only.refl _ _).drewN n|exact Only.refl _ _⟩
  rename_i l _
  obtain ⟨j,hj,rfl,HL,HR⟩:=hrel
  by_cases hjl:j<D.ts.length
  ·obtain ⟨cur,hg,hcap,hcm,hcs,hrow⟩:=((uh H).kept (uh HR) (fun x=>x) (fun _ _ x=>x)).row
   obtain ⟨r0,r1,r2⟩:=row_cells hg hrow j hjl
   have hts:=hsz j hjl
   clear hg hcap hcm hcs hrow
   have HY:=hide (namesOf_yes (p:=p) hjl)
   have HN:=hide (namesOf_no (p:=p) hjl)
   unfold standsIn at HY HN
   unfold nameIn at HY
   have HSm:=hide (fun (hq:((upOf (nth D.ts j).p).toList==p.toList)=true)=>stands_small hq)
   have hle:=Nat.le_trans (namesOf_len (D.ts.take j) p) (List.length_take_le _ _)
   have hbs:=(uh HR).size
   generalize nth D.ts j=t at*
   cases hst:((upOf t.p).toList==p.toList)
   ·go_wp2_with (go_at_call 36;refine (uh H22 _ _ hts).mono ?_;rintro e w2 ⟨rfl,rfl⟩)
    go_roundw
    ·exact ⟨j+1,by omega,by go_num,by rw[uh HN hst];exact (uh HL).alloc _,(uh HR).alloc _⟩
    case measure=>simp[intOf];omega
   have hsm:(p.toList==[])=false→p.size+1≤t.p.size:=uh HSm hst
   rw[hpe] at hsm HY
   replace hsm:=hsm rfl
   have HY' :Hid (namesOf (D.ts.take (j+1)) p=namesOf (D.ts.take j) p++[t.p.extract (p.size+1) t.p.size]):=(uh HY hst)
   have HOW:Hid (((wr.alloc (.cells #[.string t.p,.bool t.f,.string t.d] 71)).alloc (.cells #[.string (t.p.extract (p.size+1) t.p.size)] 9)).ownsRow w.heap.size 9 1 u6 (namesOf (D.ts.take j) p).length ((namesOf (D.ts.take j) p).map Value.string)):=((uh HL).alloc _).alloc _
   have HNW:=hide (str_new (w:=wr.alloc (.cells #[.string t.p,.bool t.f,.string t.d] 71)) (g:=wr.heap.size+1) (by simp) (t.p.extract (p.size+1) t.p.size))
   clear HY HN HSm
   generalize namesOf (D.ts.take j) p=ns at*
   go_wp2_with (first
    |(go_at_call 36;refine (uh H22 _ _ hts).mono ?_;rintro e w2 ⟨rfl,rfl⟩)
    |(at_builtin;refine wpList_append_own _ rfl (.tmp 48) (.tmp 50) 42 rfl w.heap.size 9 i0 (.string ⟨#[]⟩) 1 16 Tryz.underlying42 hi0 hz0 hz1 hz2 rfl (by decide) u6 _ _ rfl (uh HOW) ⟨wr.heap.size+1,0,none⟩ 1 1 [.string (t.p.extract (p.size+1) t.p.size)] rfl rfl (uh HNW) (str_one _) (by unfold maxLen;omega) (by omega) (by simp;omega) ?_;intro l' w3 ho3 hg3 _;have HO3:=hide ho3;have HG3:=hide hg3;clear ho3 hg3))
   go_roundw
   ·refine ⟨j+1,by omega,by go_num, ?_, ?_⟩
    ·rw[uh HY'];refine hide ?_;simpa using uh HO3
    exact own_only (((uh HR).alloc _).alloc _) (uh HOW) (uh HG3)
   case measure=>simp[intOf];omega
  have HE:Hid (D.ts.take j=D.ts):=List.take_of_length_le (by omega)
  go_wp2
  go_ret2
  refine ⟨_,rfl, ?_,uh HR⟩
  have:=uh HL
  rw[uh HE] at this
  simpa using this
 all_goals
  go_in
  go_wp2_with (go_at_call 18;refine (uh H12 _ (uh H)).mono ?_;rintro e w1 ⟨rfl,n,rfl⟩)
  go_loopw [6,25] (fun l i wr=> ∃j:Nat,j≤D.ts.length∧i=.int .i64 j∧Hid (wr.ownsRow w.heap.size 9 1 l (namesOf (D.ts.take j) p).length ((namesOf (D.ts.take j) p).map Value.string))∧Hid (Only (fun _=>False) w wr)) (fun _ i _=>D.ts.length- (intOf i).toNat)
  ·exact ⟨0,Nat.zero_le _,rfl,World.ownsRow_nil _ _ _ _,by first|exact (Only.refl _ _).drewN n|exact Only.refl _ _⟩
  rename_i l _
  obtain ⟨j,hj,rfl,HL,HR⟩:=hrel
  by_cases hjl:j<D.ts.length
  ·obtain ⟨cur,hg,hcap,hcm,hcs,hrow⟩:=((uh H).kept (uh HR) (fun x=>x) (fun _ _ x=>x)).row
   obtain ⟨r0,r1,r2⟩:=row_cells hg hrow j hjl
   have hts:=hsz j hjl
   clear hg hcap hcm hcs hrow
   have HY:=hide (namesOf_yes (p:=p) hjl)
   have HN:=hide (namesOf_no (p:=p) hjl)
   unfold standsIn at HY HN
   unfold nameIn at HY
   have HSm:=hide (fun (hq:((upOf (nth D.ts j).p).toList==p.toList)=true)=>stands_small hq)
   have hle:=Nat.le_trans (namesOf_len (D.ts.take j) p) (List.length_take_le _ _)
   have hbs:=(uh HR).size
   generalize nth D.ts j=t at*
   cases hst:((upOf t.p).toList==p.toList)
   ·go_wp2_with (go_at_call 36;refine (uh H22 _ _ hts).mono ?_;rintro e w2 ⟨rfl,rfl⟩)
    go_roundw
    ·exact ⟨j+1,by omega,by go_num,by rw[uh HN hst];exact (uh HL).alloc _,(uh HR).alloc _⟩
    case measure=>simp[intOf];omega
   have hsm:(p.toList==[])=false→p.size+1≤t.p.size:=uh HSm hst
   rw[hpe] at hsm HY
   clear hsm
   have HY' :Hid (namesOf (D.ts.take (j+1)) p=namesOf (D.ts.take j) p++[t.p]):=(uh HY hst)
   have HOW:Hid (((wr.alloc (.cells #[.string t.p,.bool t.f,.string t.d] 71)).alloc (.cells #[.string (t.p)] 9)).ownsRow w.heap.size 9 1 u6 (namesOf (D.ts.take j) p).length ((namesOf (D.ts.take j) p).map Value.string)):=((uh HL).alloc _).alloc _
   have HNW:=hide (str_new (w:=wr.alloc (.cells #[.string t.p,.bool t.f,.string t.d] 71)) (g:=wr.heap.size+1) (by simp) (t.p))
   clear HY HN HSm
   generalize namesOf (D.ts.take j) p=ns at*
   go_wp2_with (first
    |(go_at_call 36;refine (uh H22 _ _ hts).mono ?_;rintro e w2 ⟨rfl,rfl⟩)
    |(at_builtin;refine wpList_append_own _ rfl (.tmp 48) (.tmp 50) 42 rfl w.heap.size 9 i0 (.string ⟨#[]⟩) 1 16 Tryz.underlying42 hi0 hz0 hz1 hz2 rfl (by decide) u6 _ _ rfl (uh HOW) ⟨wr.heap.size+1,0,none⟩ 1 1 [.string (t.p)] rfl rfl (uh HNW) (str_one _) (by unfold maxLen;omega) (by omega) (by simp;omega) ?_;intro l' w3 ho3 hg3 _;have HO3:=hide ho3;have HG3:=hide hg3;clear ho3 hg3))
   go_roundw
   ·refine ⟨j+1,by omega,by go_num, ?_, ?_⟩
    ·rw[uh HY'];refine hide ?_;simpa using uh HO3
    exact own_only (((uh HR).alloc _).alloc _) (uh HOW) (uh HG3)
   case measure=>simp[intOf];omega
  have HE:Hid (D.ts.take j=D.ts):=List.take_of_length_le (by omega)
  go_wp2
  go_ret2
  refine ⟨_,rfl, ?_,uh HR⟩
  have:=uh HL
  rw[uh HE] at this
  simpa using this
theorem names_disk{w:World}{b:Nat}{v:Value}{D:Dsk}(h:DiskAt w b v D)(p:ByteArray)(hp:p.size≤1000000000000)(hm:D.ts.length≤1000000000000)(hsz: ∀k,k<D.ts.length→(nth D.ts k).p.size≤1000000000000):
 Calls Tryz.prog 17 #[.pointer (some ⟨b,0,none⟩),.string p] w fun e w' => ∃l,e=.returned (.tuple #[l,.bool (okN D.ts p)])∧w'.ownsRow w.heap.size 9 1 l (namesL D.ts p).length ((namesL D.ts p).map Value.string)∧Only (fun _=>False) w w' :=by
 rcases h.2.1 with ⟨rfl,ht⟩|⟨g,cap,cur,rfl,_⟩
 ·exact names_nil h ht p
 exact names_some h p hp hm hsz
end Go.Proofs.YtfbgamknfommpaaGreatDoor.dk
