import Derived.Test.YtndfmgdhiallpaaGreatDoorRj
set_option maxRecDepth 100000
set_option maxHeartbeats 8000000
namespace Go.Proofs.YtndfmgdhiallpaaGreatDoor
open Go.RowKit Go.Maps
theorem infoE4:(Tryz.prog.info? 39).map (fun i=>(i.zero,i.size,i.bytes))=some (some (.agg #[.string ⟨#[]⟩,.bool false,.string ⟨#[]⟩]),3,40):=by kernel_rfl
def entL(T:List Ent):List Value:=T.flatMap fun e=>[.string e.nm,.bool e.ln,.string e.dt]
theorem entL_cons(e:Ent)(T:List Ent):entL (e::T)=.string e.nm:: .bool e.ln:: .string e.dt::entL T:=rfl
theorem entL_len: ∀T:List Ent,(entL T).length=T.length*3
 |[]=>rfl
 |e::T=>by rw[entL_cons];simp only[List.length_cons,entL_len T];omega
theorem entL_one(T:List Ent): ∀u∈entL T,u.oneCell' =true:=by
 intro u hu
 obtain ⟨f,_,h⟩:=List.mem_flatMap.1 hu
 simp at h
 rcases h with rfl|rfl|rfl<;>rfl
theorem entL_get: ∀(T:List Ent) (i:Nat),i<T.length→(entL T)[i*3]? =some (.string (T.getD i ent0).nm)∧(entL T)[i*3+1]? =some (.bool (T.getD i ent0).ln)∧(entL T)[i*3+2]? =some (.string (T.getD i ent0).dt)
 |[],i,h=>by simp at h
 |e::T,0,_=>⟨rfl,rfl,rfl⟩
 |e::T,i+1,h=>by
  have ih:=entL_get T i (by simpa using h)
  rw[entL_cons,show (i+1)*3=i*3+1+1+1 by omega]
  exact ih
def EntC(cur:Array Value)(T:List Ent):Prop:= ∀i,i<T.length→cur[i*3]? =some (.string (T.getD i ent0).nm)∧cur[i*3+1]? =some (.bool (T.getD i ent0).ln)∧cur[i*3+2]? =some (.string (T.getD i ent0).dt)
theorem EntC.ents{w:World}{g:Nat}{cur:Array Value}{T:List Ent}(h:EntC cur T)(hg:w.heap[g]? =some (.cells cur tE (0,0))):EntsAt w g T:=fun i hi=>by
 obtain ⟨h1,h2,h3⟩:=h i hi
 rw[cell_of_row w g _ _ _ (0,0) hg,cell_of_row w g _ _ _ (0,0) hg,cell_of_row w g _ _ _ (0,0) hg]
 exact ⟨(Array.getElem?_eq_some_iff.1 hg).1,h1,h2,h3⟩
theorem EntC.left{cur:Array Value}{T U:List Ent}(h:EntC cur (T++U)):EntC cur T:=fun i hi=>by
 have:=h i (by rw[List.length_append];omega)
 rw[List.getD_eq_getElem?_getD,List.getElem?_append_left hi,←List.getD_eq_getElem?_getD] at this
 exact this
theorem tree_cells{w:World}: ∀(T:List Ent) (a:Addr),TreeAt w a T→ ∀j u,(entL T)[j]? =some u→w.cell? (a.add j)=some u:=by
 intro T a h j u hj
 have hl:j<T.length*3:=by rw[←entL_len];exact (List.getElem?_eq_some_iff.1 hj).1
 obtain ⟨i,r,rfl,hr⟩: ∃i r,j=i*3+r∧r<3:=⟨j/3,j%3,by omega,by omega⟩
 have hi:i<T.length:=by omega
 obtain ⟨h1,h2,h3⟩:=h i hi
 obtain ⟨g1,g2,g3⟩:=entL_get T i hi
 match r,hr,hj with
 |0,_,hj=>rw[Nat.add_zero] at hj ⊢;rw[hj] at g1;rw[g1];exact h1
 |1,_,hj=>rw[hj] at g2;rw[g2,←Addr.add_add,Addr.add_succ'];exact h2
 |2,_,hj=>rw[hj] at g3;rw[g3,←Addr.add_add,Addr.add_succ'];exact h3
abbrev sBeh:ByteArray:=⟨#[98,101,104,105,110,100]⟩
abbrev sFar:ByteArray:=⟨#[102,97,114,32,98,101,104,105,110,100]⟩
abbrev eBeh:Ent:=⟨sBeh,false,⟨#[]⟩⟩
abbrev eFar:Ent:=⟨sFar,false,⟨#[]⟩⟩
theorem made_get(n q:Nat)(h:q<n):(madeCells #[.string ⟨#[]⟩,.bool false,.string ⟨#[]⟩] n)[q]? =some (#[(.string ⟨#[]⟩:Value),.bool false,.string ⟨#[]⟩][q%3]!):=by
 simp[madeCells,h]
theorem run_copy_ents{w:World}{g n c1 c2:Nat}{cur:Array Value}{T:List Ent}{a:Addr}(hg:w.heap[g]? =some (.cells cur tE (0,0)))(ht:TreeAt w a T)(hn:T.length≤n)(hs:T.length*3≤cur.size)(ty:TypeId):
 ∃w' cur',(Builtin.copy_ #[40,40] ty #[.slice (some ⟨g,0,none⟩) n c1,.slice (some a) T.length c2]).run Tryz.prog w=.ok (goInt (T.length:Int)) w' ∧w'.heap[g]? =some (.cells cur' tE (0,0))∧cur'.size=cur.size∧(∀q,q<T.length*3→cur'[q]? =(entL T)[q]?)∧(∀q,T.length*3≤q→cur'[q]? =cur[q]?)∧Only (fun i=>i=g) w w' :=by
 obtain ⟨i,hi,hz0,hz1,hz2⟩:=info_parts infoE4
 have hmin:Nat.min T.length n=T.length:=Nat.min_eq_left hn
 have hcs:=entL_len T
 have hl:=run_loadCells_list (P:=Tryz.prog) w a (entL T) (tree_cells T a ht)
 have hst:=run_storeCells_at Tryz.prog g 0 tE (entL T) 0 cur w hg (by omega) (entL_one T)
 rw[hcs] at hl
 refine ⟨_,(cur.toList.take (0+0)++entL T++cur.toList.drop (0+0+(entL T).length)).toArray, ?_,setRow_heap w g cur _ tE _ hg, ?_,fun q hq=> ?_,fun q hq=> ?_,⟨rfl,rfl,rfl,by simp[World.setRow],fun j _ hj=>setRow_other w g j _ hj⟩⟩
 ·simp[Builtin.copy_,run_underlying Tryz.underlying40,Builtin.lenOf,Builtin.firstCells,sizeOf,typeInfo,hi,hz1,hl,hmin]
  simp at hst
  simp[hst]
 ·simp only[List.size_toArray,List.length_append,List.length_take,List.length_drop,Array.length_toList];omega
 ·rw[List.getElem?_toArray,Nat.add_zero,List.take_zero,List.nil_append,List.getElem?_append_left (by omega)]
 rw[List.getElem?_toArray,Nat.add_zero,List.take_zero,List.nil_append,List.getElem?_append_right (by omega),List.getElem?_drop,hcs,Nat.zero_add,Nat.add_sub_cancel' hq,Array.getElem?_toList]
theorem wpList_copy_ents{ops:Array Oper}{rest:List Oper}{o:Oper}{act:Act}{Q:Exit→Act→World→Prop}{w:World}(hgd:o.guard=none)(d s:Operand)(ho:o.op=.call {callee:=.builtin .copy,args:= #[d,s],argTypes:= #[40,40]})
 {g n c1 c2:Nat}{cur:Array Value}{T:List Ent}{a:Addr}(hd:act.eval d=.slice (some ⟨g,0,none⟩) n c1)(hs:act.eval s=.slice (some a) T.length c2)(hg:w.heap[g]? =some (.cells cur tE (0,0)))(ht:TreeAt w a T)(hn:T.length≤n)(hsz:T.length*3≤cur.size)
 (k: ∀w' cur',w'.heap[g]? =some (.cells cur' tE (0,0))→cur'.size=cur.size→(∀q,q<T.length*3→cur'[q]? =(entL T)[q]?)→(∀q,T.length*3≤q→cur'[q]? =cur[q]?)→Only (fun i=>i=g) w w' →wpList Tryz.prog ops Q rest (act.put o.dst (goInt (T.length:Int))) w'):wpList Tryz.prog ops Q (o::rest) act w:=by
 obtain ⟨w',cur',hrun,h1,h2,h3,h4,h5⟩:=run_copy_ents (n:=n) (c1:=c1) (c2:=c2) hg ht hn hsz o.type
 refine wpList_plain hgd fun K hK=> ?_
 unfold Oper.wp
 simp only[execOp,ho,resolve,invoke,builtin,Sem.run_bind,Sem.run_pure,Result.andThen_ok,List.map_toArray,List.map_cons,List.map_nil,hd,hs,hrun]
 exact hK _ _ (k w' cur' h1 h2 h3 h4 h5)
theorem EntC.lent{T:List Ent}{cur1:Array Value}(hs:cur1.size=(T.length+2)*3)(hl: ∀q,q<T.length*3→cur1[q]? =(entL T)[q]?)(hh: ∀q,T.length*3≤q→cur1[q]? =(madeCells #[.string ⟨#[]⟩,.bool false,.string ⟨#[]⟩] ((T.length+2)*3))[q]?):EntC ((cur1.setIfInBounds (T.length*3) (.string sBeh)).setIfInBounds ((T.length+1)*3) (.string sFar)) (T++[eBeh,eFar]):=by
 intro i hi
 rw[List.length_append] at hi
 have hi2:i<T.length+2:=hi
 by_cases h1:i<T.length
 ·rw[List.getD_eq_getElem?_getD,List.getElem?_append_left h1,←List.getD_eq_getElem?_getD]
  obtain ⟨g1,g2,g3⟩:=entL_get T i h1
  refine ⟨?_, ?_, ?_⟩
  ·rw[Array.getElem?_setIfInBounds_ne (by omega),Array.getElem?_setIfInBounds_ne (by omega),hl _ (by omega)];exact g1
  ·rw[Array.getElem?_setIfInBounds_ne (by omega),Array.getElem?_setIfInBounds_ne (by omega),hl _ (by omega)];exact g2
  rw[Array.getElem?_setIfInBounds_ne (by omega),Array.getElem?_setIfInBounds_ne (by omega),hl _ (by omega)];exact g3
 by_cases h2:i=T.length
 ·subst h2
  rw[List.getD_eq_getElem?_getD,List.getElem?_append_right (Nat.le_refl _),Nat.sub_self]
  have m1:(T.length*3+1)%3=1:=by omega
  have m2:(T.length*3+2)%3=2:=by omega
  refine ⟨?_, ?_, ?_⟩
  ·rw[Array.getElem?_setIfInBounds_ne (by omega),Array.getElem?_setIfInBounds_self_of_lt (by omega)];rfl
  ·rw[Array.getElem?_setIfInBounds_ne (by omega),Array.getElem?_setIfInBounds_ne (by omega),hh _ (by omega),made_get _ _ (by omega),m1];rfl
  rw[Array.getElem?_setIfInBounds_ne (by omega),Array.getElem?_setIfInBounds_ne (by omega),hh _ (by omega),made_get _ _ (by omega),m2];rfl
 have h3:i=T.length+1:=by omega
 subst h3
 rw[List.getD_eq_getElem?_getD,List.getElem?_append_right (by omega),Nat.add_sub_cancel_left]
 have m1:((T.length+1)*3+1)%3=1:=by omega
 have m2:((T.length+1)*3+2)%3=2:=by omega
 refine ⟨?_, ?_, ?_⟩
 ·rw[Array.getElem?_setIfInBounds_self_of_lt (by rw[Array.size_setIfInBounds];omega)];rfl
 ·rw[Array.getElem?_setIfInBounds_ne (by omega),Array.getElem?_setIfInBounds_ne (by omega),hh _ (by omega),made_get _ _ (by omega),m1];rfl
 rw[Array.getElem?_setIfInBounds_ne (by omega),Array.getElem?_setIfInBounds_ne (by omega),hh _ (by omega),made_get _ _ (by omega),m2];rfl
theorem lentNone(v:Value)(w:World)(h:v=.slice none 0 0∨ ∃a cap,v=.slice (some a) 0 cap):Calls Tryz.prog 112 #[v] w fun r w' =>r=.returned (.tuple #[nilV,nilV])∧w' =w:=by
 obtain ⟨ao,cap,rfl⟩: ∃ao cap,v=.slice ao 0 cap:=by
  rcases h with h|⟨a,cap,h⟩
  ·exact ⟨_,_,h⟩
  exact ⟨_,_,h⟩
 clear h
 go_in
 go_wp2_with fail
 go_ret2
 exact ⟨rfl,rfl⟩
def LentR(T:List Ent)(w w' :World)(r:Ending):Prop:=r=.returned (.tuple #[.slice (some ⟨w.heap.size,0,none⟩) T.length (T.length+2),.slice (some ⟨w.heap.size,0,none⟩) (T.length+2) (T.length+2)])∧Old w w' ∧ ∃cur,w'.heap[w.heap.size]? =some (.cells cur tE (0,0))∧cur.size=(T.length+2)*3∧EntC cur (T++[eBeh,eFar])
theorem lentC(a:Addr)(cap:Nat)(T:List Ent)(hN:0<T.length)(hT:T.length≤1100000)(w:World)(ht:TreeAt w a T):Calls Tryz.prog 112 #[.slice (some a) T.length cap] w fun r w' =>LentR T w w' r:=by
 obtain ⟨i0,hi0,hz0,hz1,hz2⟩:=info_parts infoE4
 have htn:((T.length:Int)+2).toNat=T.length+2:=by omega
 have hmk: ∀W:World,(Instr.makeSlice 40 (.int .i64 ((T.length:Int)+2)) (.int .i64 ((T.length:Int)+2))).run Tryz.prog W=.ok (.slice (some ⟨W.heap.size,0,none⟩) (T.length+2) (T.length+2)) (W.alloc (.cells (madeCells #[.string ⟨#[]⟩,.bool false,.string ⟨#[]⟩] ((T.length+2)*3)) tE)):=by
  intro W
  have h:=run_make (P:=Tryz.prog) W 40 tE i0 (.agg #[.string ⟨#[]⟩,.bool false,.string ⟨#[]⟩]) Tryz.underlying40 hi0 hz0 .i64 .i64 ((T.length:Int)+2) ((T.length:Int)+2) (by omega) (by omega) (by rw[hz2];omega) (by omega)
  rw[hz1,htn] at h
  exact h
 have HB:=hide (Go.heap_alloc_new w (.cells (madeCells #[.string ⟨#[]⟩,.bool false,.string ⟨#[]⟩] ((T.length+2)*3)) tE))
 have HA:Hid (Old w (w.alloc (.cells (madeCells #[.string ⟨#[]⟩,.bool false,.string ⟨#[]⟩] ((T.length+2)*3)) tE))):=(Only.refl _ w).alloc _
 have HT:=hide (ht.old (uh HA))
 have hsm:T.length*3≤(madeCells #[.string ⟨#[]⟩,.bool false,.string ⟨#[]⟩] ((T.length+2)*3)).size:=by rw[size_madeCells];omega
 have HSM:=hide hsm
 have hnz:¬(T.length:Int)=0:=by omega
 have hnz2:((T.length:Int)==0)=false:=by rw[beq_eq_false_iff_ne];exact hnz
 have HFIN:Hid (∀w2 cur1,w2.heap[w.heap.size]? =some (.cells cur1 tE (0,0))→cur1.size=(madeCells #[.string ⟨#[]⟩,.bool false,.string ⟨#[]⟩] ((T.length+2)*3)).size→(∀q,q<T.length*3→cur1[q]? =(entL T)[q]?)→(∀q,T.length*3≤q→cur1[q]? =(madeCells #[.string ⟨#[]⟩,.bool false,.string ⟨#[]⟩] ((T.length+2)*3))[q]?)→Only (fun i=>i=w.heap.size) (w.alloc (.cells (madeCells #[.string ⟨#[]⟩,.bool false,.string ⟨#[]⟩] ((T.length+2)*3)) tE)) w2→(∃y0 y1,w2.cell? ⟨w.heap.size,T.length*3,none⟩=some y0∧w2.cell? ⟨w.heap.size,(T.length+1)*3,none⟩=some y1)∧w2.frozen? ⟨w.heap.size,T.length*3,none⟩=false∧w2.frozen? ⟨w.heap.size,(T.length+1)*3,none⟩=false∧LentR T w ((w2.setCell ⟨w.heap.size,T.length*3,none⟩ (.string sBeh)).setCell ⟨w.heap.size,(T.length+1)*3,none⟩ (.string sFar)) (.returned (.tuple #[.slice (some ⟨w.heap.size,0,none⟩) T.length (T.length+2),.slice (some ⟨w.heap.size,0,none⟩) (T.length+2) (T.length+2)]))):=fun w2 cur1 hg hs hl hh ho=>by
  rw[size_madeCells] at hs
  refine ⟨⟨cur1[T.length*3]'(by omega),cur1[(T.length+1)*3]'(by omega), ?_, ?_⟩,frozen_of_row w2 _ _ _ _ hg,frozen_of_row w2 _ _ _ _ hg,rfl, ?_,_,heap_setCell_same _ _ _ _ _ _ (heap_setCell_same w2 _ _ _ _ _ hg),by simp[hs],EntC.lent hs hl hh⟩
  ·rw[cell_of_row w2 _ _ _ _ (0,0) hg];exact Array.getElem?_eq_getElem _
  ·rw[cell_of_row w2 _ _ _ _ (0,0) hg];exact Array.getElem?_eq_getElem _
  exact (uh HA).transNew ((ho.trans (only_set w2 _ _ _)).trans (only_set _ _ _ _)) (fun k hk e=>by omega)
 clear ht hsm htn
 go_in
 go_wp2_with (refine wpList_copy_ents rfl (.tmp 13) (.tmp 14) rfl (n:=T.length+2) (c1:=T.length+2) (c2:=cap) (T:=T) (a:=a) rfl rfl (uh HB) (uh HT) (by omega) (uh HSM) ?_;intro w2 cur1 hg hs hl hh ho;obtain ⟨⟨y0,y1,k0,k1⟩,f0,f1,hfin⟩:=uh HFIN w2 cur1 hg hs hl hh ho;have HFI:=hide hfin;clear hg hs hl hh ho hfin)
 go_ret2
 exact uh HFI
theorem getD_left{T U:List Ent}{i:Nat}(h:i<T.length):(T++U).getD i ent0=T.getD i ent0:=by rw[List.getD_eq_getElem?_getD,List.getElem?_append_left h,←List.getD_eq_getElem?_getD]
theorem getD_beh(T:List Ent):(T++[eBeh,eFar]).getD T.length ent0=eBeh:=by rw[List.getD_eq_getElem?_getD,List.getElem?_append_right (Nat.le_refl _),Nat.sub_self];rfl
theorem getD_far(T:List Ent):(T++[eBeh,eFar]).getD (T.length+1) ent0=eFar:=by rw[List.getD_eq_getElem?_getD,List.getElem?_append_right (by omega),Nat.add_sub_cancel_left];rfl
theorem backC{w1 wq:World}{b c:Nat}{s:WS}{RF RL RT:List (Value×ByteArray)}(hc:c≤100000000)(w:World)(h:WLs w1 w b c s RF RL RT)(g:Nat)(cur:Array Value)(T:List Ent)(a:Addr)(cap:Nat)(hT:T.length≤1100000)(hg:w.heap[g]? =some (.cells cur tE (0,0)))(hsz:cur.size=(T.length+2)*3)(hE:EntC cur (T++[eBeh,eFar]))(ht:TreeAt w a T)(hgq:wq.heap.size≤g)(hg1:w1.heap.size≤g)(hq: ∀x,x∈RT→Full wq tE 3 elE x.1 x.2):
 Calls Tryz.prog 113 #[.pointer (some ⟨b,0,none⟩),.slice (some ⟨g,0,none⟩) (T.length+2) (T.length+2),.slice (some a) T.length cap] w fun r w' =>r=.returned (.bool true)∧TyOnly [wT,tEs,9,tE] w w' ∧PosT w1 w' b (c+1) s.base RF RL:=by
 have HL:=hide h
 have HG:=hide hg
 have HE:=hide hE
 have HT:=hide ht
 have HQ:=hide hq
 have HO:Hid (Old w w):=Only.refl _ w
 have hgl:g<w.heap.size:=(Array.getElem?_eq_some_iff.1 hg).1
 have HP:Hid (∀W,Old w W→ ∀m,Par wq w1 W tE 3 elE (some ⟨g,0,none⟩) (T.length+2) m 0):=fun W ho m=> .inr ⟨g,cur,rfl,(ho.block g hgl (fun x=>x)).trans hg,by omega,hgq,hg1,fun p hp=>by omega⟩
 clear h hg hE ht hq hgq hg1 hsz
 go_in
 go_wp2_with fail
 go_loopw [7,9,10] (fun ok x _ wr=> ∃i:Nat,i≤T.length+2∧x=.int .i64 i∧ok=.bool true∧Hid (Old w wr)) (fun _ x _ _=>T.length+2- (intOf x).toNat)
 ·exact ⟨0,by omega,rfl,rfl,HO⟩
 clear HO
 obtain ⟨i,hi,rfl,rfl,HO⟩:=hrel
 by_cases hil:i<T.length+2
 ·have hilI:(i:Int)<(T.length:Int)+2:=by omega
  have hwl:=(uh HO).size
  have HOA:Hid (Old w (wr.alloc (.cells #[.string sBeh,.bool false,.string ⟨#[]⟩] tE))):=(uh HO).alloc _
  have hbx:=Go.heap_alloc_new wr (.cells #[.string sBeh,.bool false,.string ⟨#[]⟩] tE)
  have k0:(wr.alloc (.cells #[.string sBeh,.bool false,.string ⟨#[]⟩] tE)).cell? ⟨wr.heap.size,0,none⟩=some (.string sBeh):=by rw[cell_of_row _ _ 0 _ _ (0,0) hbx];rfl
  have k1:(wr.alloc (.cells #[.string sBeh,.bool false,.string ⟨#[]⟩] tE)).cell? ⟨wr.heap.size,1,none⟩=some (.bool false):=by rw[cell_of_row _ _ 1 _ _ (0,0) hbx];rfl
  have k2:(wr.alloc (.cells #[.string sBeh,.bool false,.string ⟨#[]⟩] tE)).cell? ⟨wr.heap.size,2,none⟩=some (.string ⟨#[]⟩):=by rw[cell_of_row _ _ 2 _ _ (0,0) hbx];rfl
  have f0:=frozen_of_row _ wr.heap.size 0 _ _ hbx
  have f1:=frozen_of_row _ wr.heap.size 1 _ _ hbx
  have f2:=frozen_of_row _ wr.heap.size 2 _ _ hbx
  by_cases hiT:i<T.length
  ·have hiTI:(i:Int)<(T.length:Int):=by omega
   obtain ⟨t1,t2,t3⟩:=(uh HT).old (uh HOA) i hiT
   have HGD:=hide (getD_left (U:=[eBeh,eFar]) hiT)
   generalize T.getD i ent0=e at*
   obtain ⟨nm,ln,dt⟩:=e
   simp only at t1 t2 t3
   have HWB:Hid (Old w (wr.alloc (.cells #[.string nm,.bool ln,.string dt] tE))):=(uh HO).alloc _
   obtain ⟨q1,q2,q3⟩:=((uh HE).ents ((uh HWB).block g hgl (fun x=>x)|>.trans (uh HG))) i (by simpa using hil)|>.2
   rw[uh HGD] at q1 q2 q3
   simp only at q1 q2 q3
   have hz:=Go.heap_alloc_new wr (.cells #[.string nm,.bool ln,.string dt] tE)
   have z1:(wr.alloc (.cells #[.string nm,.bool ln,.string dt] tE)).cell? ⟨wr.heap.size,0,none⟩=some (.string nm):=by rw[cell_of_row _ _ 0 _ _ (0,0) hz];rfl
   have z2:(wr.alloc (.cells #[.string nm,.bool ln,.string dt] tE)).cell? ⟨wr.heap.size,1,none⟩=some (.bool ln):=by rw[cell_of_row _ _ 1 _ _ (0,0) hz];rfl
   have z3:(wr.alloc (.cells #[.string nm,.bool ln,.string dt] tE)).cell? ⟨wr.heap.size,2,none⟩=some (.string dt):=by rw[cell_of_row _ _ 2 _ _ (0,0) hz];rfl
   clear hz
   clear hbx HOA HGD
   go_upto_region 11 with fail
   clear k0 k1 k2 f0 f1 f2 t1 t2 t3
   generalize (wr.alloc (.cells #[.string nm,.bool ln,.string dt] tE))=WB at*
   have hne:=eqEE nm dt ln
   go_quiet (fail)
   go_wp2_with fail
   go_roundw
   ·exact ⟨i+1,by omega,by go_num,rfl,(uh HWB).drewN _⟩
   case measure=>simp[intOf];omega
  have hiTI:¬(i:Int)<(T.length:Int):=by omega
  by_cases hiE:i=T.length
  ·have hiEI:¬(T.length:Int)<(i:Int):=by omega
   have HGD:Hid ((T++[eBeh,eFar]).getD i ent0=eBeh):=by rw[hiE];exact getD_beh T
   clear hiE
   have HWB:Hid (Old w (wr.alloc (.cells #[.string sBeh,.bool false,.string ⟨#[]⟩] tE))):=uh HOA
   obtain ⟨q1,q2,q3⟩:=((uh HE).ents ((uh HWB).block g hgl (fun x=>x)|>.trans (uh HG))) i (by simpa using hil)|>.2
   rw[uh HGD] at q1 q2 q3
   simp only at q1 q2 q3
   have hz:=hbx
   have z1:(wr.alloc (.cells #[.string sBeh,.bool false,.string ⟨#[]⟩] tE)).cell? ⟨wr.heap.size,0,none⟩=some (.string sBeh):=by rw[cell_of_row _ _ 0 _ _ (0,0) hz];rfl
   have z2:(wr.alloc (.cells #[.string sBeh,.bool false,.string ⟨#[]⟩] tE)).cell? ⟨wr.heap.size,1,none⟩=some (.bool false):=by rw[cell_of_row _ _ 1 _ _ (0,0) hz];rfl
   have z3:(wr.alloc (.cells #[.string sBeh,.bool false,.string ⟨#[]⟩] tE)).cell? ⟨wr.heap.size,2,none⟩=some (.string ⟨#[]⟩):=by rw[cell_of_row _ _ 2 _ _ (0,0) hz];rfl
   clear hz
   clear hbx HOA HGD
   go_upto_region 11 with fail
   clear k0 k1 k2 f0 f1 f2
   generalize (wr.alloc (.cells #[.string sBeh,.bool false,.string ⟨#[]⟩] tE))=WB at*
   have hne:=eqEE sBeh ⟨#[]⟩ false
   go_quiet (fail)
   go_wp2_with fail
   go_roundw
   ·exact ⟨i+1,by omega,by go_num,rfl,(uh HWB).drewN _⟩
   case measure=>simp[intOf];omega
  have hiEI:(T.length:Int)<(i:Int):=by omega
  have HGD:Hid ((T++[eBeh,eFar]).getD i ent0=eFar):=by rw[show i=T.length+1 by omega];exact getD_far T
  clear hiE
  have HWB:Hid (Old w (wr.alloc (.cells #[.string sFar,.bool false,.string ⟨#[]⟩] tE))):=(uh HO).alloc _
  obtain ⟨q1,q2,q3⟩:=((uh HE).ents ((uh HWB).block g hgl (fun x=>x)|>.trans (uh HG))) i (by simpa using hil)|>.2
  rw[uh HGD] at q1 q2 q3
  simp only at q1 q2 q3
  have hz:=Go.heap_alloc_new wr (.cells #[.string sFar,.bool false,.string ⟨#[]⟩] tE)
  have z1:(wr.alloc (.cells #[.string sFar,.bool false,.string ⟨#[]⟩] tE)).cell? ⟨wr.heap.size,0,none⟩=some (.string sFar):=by rw[cell_of_row _ _ 0 _ _ (0,0) hz];rfl
  have z2:(wr.alloc (.cells #[.string sFar,.bool false,.string ⟨#[]⟩] tE)).cell? ⟨wr.heap.size,1,none⟩=some (.bool false):=by rw[cell_of_row _ _ 1 _ _ (0,0) hz];rfl
  have z3:(wr.alloc (.cells #[.string sFar,.bool false,.string ⟨#[]⟩] tE)).cell? ⟨wr.heap.size,2,none⟩=some (.string ⟨#[]⟩):=by rw[cell_of_row _ _ 2 _ _ (0,0) hz];rfl
  clear hz
  clear hbx HOA HGD
  go_upto_region 11 with fail
  clear k0 k1 k2 f0 f1 f2
  generalize (wr.alloc (.cells #[.string sFar,.bool false,.string ⟨#[]⟩] tE))=WB at*
  have hne:=eqEE sFar ⟨#[]⟩ false
  go_quiet (fail)
  go_wp2_with fail
  go_roundw
  ·exact ⟨i+1,by omega,by go_num,rfl,(uh HWB).drewN _⟩
  case measure=>simp[intOf];omega
 have hilI:¬(i:Int)<(T.length:Int)+2:=by omega
 have HTO:=hide (treeOfC hc wr ((uh HL).old (uh HO)) (some ⟨g,0,none⟩) (T.length+2) (T.length+2) (by omega) (uh HP wr (uh HO)) (uh HQ))
 have HTY:Hid (∀w',TyOnly [wT,tEs,9,tE] wr w' →TyOnly [wT,tEs,9,tE] w w'):=fun w' ht=>by
  refine ((Only.oldW (uh HO):Only (fun k=> ∃cur e,w.heap[k]? =some (.cells cur e (0,0))∧e∈[wT,tEs,9,tE]) w wr)).transNew ht (fun k hk hS=> ?_)
  obtain ⟨cur2,e,hg2,hm⟩:=hS
  exact ⟨cur2,e,((uh HO).block k hk (fun x=>x)).symm.trans hg2,hm⟩
 clear HL HG HE HT HQ HP
 go_wp2_with fail
 refine (uh HTO).mono ?_
 rintro r w6 ⟨rfl,hty,hex⟩
 have HTY2:=hide (uh HTY w6 hty)
 have HEX:=hide hex
 clear hty hex HTY HTO
 go_wp2_with fail
 go_ret
 exact ⟨rfl,uh HTY2,uh HEX⟩
end Go.Proofs.YtndfmgdhiallpaaGreatDoor
