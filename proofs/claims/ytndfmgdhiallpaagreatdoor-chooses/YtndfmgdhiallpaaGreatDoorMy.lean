import Derived.Test.YtndfmgdhiallpaaGreatDoorMz
import Derived.Test.YtndfmgdhiallpaaGreatDoorRows
import Derived.WalkKit
import Derived.ProofKit
import Derived.OpenShut
import Derived.LaidMore
import Derived.Stop.Joined
import Derived.Deep.Slices
import Derived.SizedLaws
import Derived.Test.YtndfmgdhiallpaaGreatDoorMr
set_option maxRecDepth 100000
set_option maxHeartbeats 1000000
namespace Go.Proofs.YtndfmgdhiallpaaGreatDoor
open Go.ChangeShapes Go.WideShapes Go.ChangeAt Go.RowKit
theorem stepOk2:StepOk Glob 2:=by
 intro k p q s t x y b w hk hs hw hg
 rcases Int.lt_or_le k 1 with h|h
 ·exact step_low k p q (by omega) s t x y b w hw
 by_cases h1:k=1
 ·subst h1;exact step_one p q s t x y b w hw
 obtain rfl:k=2:=by omega
 exact step_two p q s t hs x y b w hw hg
theorem own:ownKnob Tryz.prog.godebug=none:=by kernel_rfl
theorem laidOut:laidOutB Tryz.prog=true:=by kernel_rfl
theorem gStart:Tryz.prog.globalNamed "valise/digest.startWords" =some 0:=by kernel_rfl
theorem tStart:(Tryz.prog.globals[0]?).map (·.type)=some 181:=by kernel_rfl
theorem cU32:Tryz.prog.cellsOf 103=1:=by kernel_rfl
theorem cA8:Tryz.prog.cellsOf 181=8:=by kernel_rfl
theorem words_of{H:Type}{enc:TypeId×Value→H}{W:World}{fuel:Nat}{cs:List Value}{p:List MemPlace}{sp:Nat→Bool}{hd:Bool}{l:List Int}
 (h:DataW.trod enc Tryz.prog W 0 sp hd fuel 181 cs=some (.agg (l.map fun n=> .lit (.int .u32 n)),p)):cs=l.map fun n=>Value.int .u32 n:=by
 obtain ⟨xs,m,rfl,hx,hlen,hn,hel⟩:=DataW.trod_array Tryz.underlying181 h
 rw[cA8] at hlen
 rw[cU32] at hel
 simp only[Prod.mk.injEq,DataW.agg.injEq] at hx
 obtain ⟨hx,_⟩:=hx
 have hll:l.length=8:=by have:=congrArg List.length hx;simpa [hn] using this
 apply List.ext_getElem?
 intro i
 by_cases hi:i<8
 ·have h1:=hel i hi
  have hxi:i<xs.length:=by omega
  rw[List.getElem?_eq_getElem hxi] at h1
  obtain ⟨k,e1,e2,_⟩:=DataW.trod_int Tryz.underlying103 h1
  have h2:(l.map fun n=>(DataW.lit (.int .u32 n):DataW H))[i]? =some (xs[i].1):=by rw[hx];simp[hxi]
  rw[e2] at h2
  rw[List.getElem?_map,List.getElem?_eq_getElem (by omega:i<l.length)] at h2 ⊢
  simp only[Option.map_some,Option.some.injEq,DataW.lit.injEq,Lit.int.injEq,true_and] at h2
  have h3:cs[i]? =some (.int .u32 k):=by
   have hi8:i<cs.length:=by omega
   have h4:(cs.drop (i*1)).take 1=[cs[i]]:=by rw[Nat.mul_one,List.drop_eq_getElem_cons hi8];rfl
   rw[h4] at e1
   rw[List.getElem?_eq_getElem hi8]
   simpa using e1
  rw[h3,Option.map_some,h2]
 rw[List.getElem?_eq_none (by omega),List.getElem?_eq_none (by simp;omega)]
abbrev laid4:List (String×DataW Unit):=[("unicode/utf8.acceptRanges",Rows.laid_unicode_utf8_acceptRanges),("valise/inflate.order",Rows.laid_valise_inflate_order),("valise/digest.startWords",Rows.laid_valise_digest_startWords),("unicode/utf8.first",Rows.laid_unicode_utf8_first)]
theorem glob_of{W:World}(h:laidMetH Tryz.prog laid4 W):Glob W:=by
 rw[MakeChecks.laidMetH_plain _ _ _ (by kernel_rfl)] at h
 obtain ⟨ps,⟨g,t,cs,f,p,q,_,_,_,_,⟨g0,t0,cs0,f0,p0,q0,hg0,ht0,hv0,hd0,⟨g1,t1,cs1,f1,p1,q1,hg1,ht1,hv1,hd1,_,_⟩,_⟩,_⟩,_,_⟩:=h
 obtain rfl:=Option.some.inj (gStart.symm.trans hg1)
 obtain rfl:=Option.some.inj (tStart.symm.trans ht1)
 have hw:=words_of (l:=[1779033703,3144134277,1013904242,2773480762,1359893119,2600822924,528734635,1541459225]) hd1
 have hc:cs1=u8A h0:=by apply Array.ext';rw[hw];rfl
 subst hc
 simp only[World.var?,hg1,Option.bind_some] at hv1
 split at hv1
 ·rename_i c t fr hh
  injection hv1 with hv1
  subst hv1
  exact ⟨t,fr,hh⟩
 cases hv1
open Go.RowKit Go.Maps
open Go.ChangeShapes Go.WideShapes Go.ChangeAt Go.RowKit
theorem weights_mem_all{H:Type}{P:Program}{e:TypeId}{d:DataW H}: ∀{l:List (DataW H)},d∈l→ ∀n∈d.weights P e,n∈DataW.weightsAll P e l
 |x::r,h,n,hn=>by
  rw[DataW.weightsAll,List.mem_append]
  rcases List.mem_cons.1 h with rfl|h
  ·exact .inl hn
  exact .inr (weights_mem_all h n hn)
theorem cOp:Tryz.prog.cellsOf 79=7:=by kernel_rfl
theorem cInt:Tryz.prog.cellsOf 3=1:=by kernel_rfl
theorem cStr:Tryz.prog.cellsOf 9=1:=by kernel_rfl
theorem cTree:Tryz.prog.cellsOf 40=1:=by kernel_rfl
theorem cFiles:Tryz.prog.cellsOf 41=1:=by kernel_rfl
theorem op_of{H:Type}{enc:TypeId×Value→H}{W:World}{fuel:Nat}{cs:List Value}{d:DataW H}{p:List MemPlace}{sp:Nat→Bool}{hd:Bool}(hl:cs.length=7)
 (h:DataW.trod enc Tryz.prog W 0 sp hd fuel 79 cs=some (d,p)):
 ∃k a c s t x y,cs=(opV k a c s t x y).toList∧x.oneCell' =true∧y.oneCell' =true∧s.data.toList.length∈d.weights Tryz.prog 79:=by
 obtain ⟨xs,n,rfl,hx,hlen,hn,hf⟩:=DataW.trod_struct Tryz.underlying79 h
 match cs,hl,xs,hn with
 |[v0,v1,v2,v3,v4,v5,v6],_,[y0,y1,y2,y3,y4,y5,y6],_=>
  have g0:=hf 0 _ rfl
  have g1:=hf 1 _ rfl
  have g2:=hf 2 _ rfl
  have g3:=hf 3 _ rfl
  have g4:=hf 4 _ rfl
  have g5:=hf 5 _ rfl
  have g6:=hf 6 _ rfl
  simp[cInt,cStr,cTree,cFiles] at g0 g1 g2 g3 g4 g5 g6
  obtain ⟨k,e0,_⟩:=DataW.trod_int Tryz.underlying3 g0
  obtain ⟨a,e1,_⟩:=DataW.trod_int Tryz.underlying3 g1
  obtain ⟨c,e2,_⟩:=DataW.trod_int Tryz.underlying3 g2
  obtain ⟨s,e3,x3,_⟩:=DataW.trod_string Tryz.underlying9 g3
  obtain ⟨t,e4,_⟩:=DataW.trod_string Tryz.underlying9 g4
  have h5:v5.oneCell' =true:=by
   rcases DataW.trod_slice Tryz.underlying40 g5 with ⟨e5,_⟩|⟨_,_,_,_,_,_,_,e5,_⟩<;>(simp at e5;subst e5;rfl)
  have h6:v6.oneCell' =true:=by
   rcases DataW.trod_slice Tryz.underlying41 g6 with ⟨e6,_⟩|⟨_,_,_,_,_,_,_,e6,_⟩<;>(simp at e6;subst e6;rfl)
  simp at e0 e1 e2 e3 e4
  subst e0 e1 e2 e3 e4
  refine ⟨k,a,c,s,t,v5,v6,rfl,h5,h6, ?_⟩
  simp only[Prod.mk.injEq] at hx
  rw[hx.1]
  unfold DataW.weights
  rw[Tryz.underlying79]
  refine DataW.weights_mem_each (j:=3) (t:=9) (d:=y3.1) rfl rfl _ ?_
  rw[x3]
  simp[DataW.weights]
theorem ops_of{H:Type}{enc:TypeId×Value→H}{W:World}{v:Value}{d:DataW H}{ps:List MemPlace}{sp:Nat→Bool}{hd:Bool}{ts:List TypeId}{ds:List (DataW H)}
 (h:DataW.Trod enc Tryz.prog W 0 sp hd 22 v d ps)(hv:v.oneCell' =true)(hw:(DataW.weightsEach Tryz.prog ts ds).all (· ≤reachBytes)=true)(ht:ts[0]? =some 22)(hd0:ds[0]? =some d):
 v=.slice none 0 0∨ ∃a n cap,v=.slice (some a) n cap∧n≤maxLen∧OpsAt W a n:=by
 obtain ⟨fuel,h⟩:=h
 rcases Go.Deep.open_slice Tryz.underlying22 h with ⟨hc,_⟩|⟨a,len,cap,m,n,D,Pl,hc,hb,hl,hm,hmm,hx,hall⟩
 ·left
  cases v<;>simp_all [Value.cells,Value.oneCell']
 right
 refine ⟨a,len,cap, ?_,by omega,fun i hi=> ?_⟩
 ·cases v<;>simp_all [Value.cells,Value.oneCell']
 have him:i<m:=by rw[hmm];split<;>omega
 obtain ⟨cs',h1,h2⟩:=hall i him
 rw[cOp] at h1
 obtain ⟨_,hlen,hcell⟩:=World.cells?_some h1
 obtain ⟨k,p,q,s,t,x,y,rfl,h5,h6,hmem⟩:=op_of hlen h2
 refine ⟨k,p,q,s,t,x,y, ?_,op_one h5 h6,fun j hj=> ?_⟩
 ·simp only[Prod.mk.injEq] at hx
  have hsz:s.data.toList.length≤reachBytes:=by
   have h3:=DataW.weights_mem_each (P:=Tryz.prog) ht hd0 (s.data.toList.length) (by
    rw[hx.1]
    unfold DataW.weights
    rw[Tryz.underlying22]
    refine List.mem_cons_of_mem _ (List.mem_append.2 (.inl (weights_mem_all (d:=D i) ?_ _ hmem)))
    exact List.mem_map.2 ⟨i,List.mem_range.2 hi,rfl⟩)
   have:=List.all_eq_true.1 hw _ h3
   simpa using this
  have e:s.size=s.data.toList.length:=rfl
  rw[e];exact Nat.le_trans hsz (by decide)
 have:=hcell j hj
 rw[Addr.add_add] at this
 simpa using this
theorem OrdAt.old{w w' :World}(h:OrdAt w)(ho:Old w w'):OrdAt w' :=h.kept ho (fun x=>x)
theorem step_three(a c:Int)(s t:ByteArray)(hs:s.size≤140737488355328)(tr fi:Value)(b:Nat)(w:World)(hw:WAt w b)(ho:OrdAt w):
 Calls Tryz.prog 38 #[.pointer (some ⟨b,0,none⟩),.agg (opV 3 a c s t tr fi)] w fun e w' =>e=.returned (.bool true)∧WAt w' b∧Only (fun i=>i=b) w w' :=by
 have HOp:Hid (Row (w.alloc (.cells (opV 3 a c s t tr fi) 79)) w.heap.size 79 7 (fun j=>(opV 3 a c s t tr fi).getD j undef)):=Row.new w _ _ 7 _ (by rw[opV];exact Nat.le_refl _) (fun j hj=>by
  have:j=0∨j=1∨j=2∨j=3∨j=4∨j=5∨j=6:=by omega
  rcases this with rfl|rfl|rfl|rfl|rfl|rfl|rfl<;>rfl)
 have HWA:=hide (hw.old ((Only.refl _ w).alloc (.cells (opV 3 a c s t tr fi) 79)))
 have HOR:=hide (ho.old ((Only.refl _ w).alloc (.cells (opV 3 a c s t tr fi) 79)))
 have HOL:Hid (Old w (w.alloc (.cells (opV 3 a c s t tr fi) 79))):=(Only.refl _ w).alloc _
 have HI:=hide (fun w1 h=>inflates_any s hs w1 h)
 have HD:=hide (fun w1=>valiseDeflate_any s hs w1)
 clear hw ho
 unfold opV at*
 by_cases ha:a=7
 ·subst ha
  go_in
  go_wp2_with fail
  generalize w.alloc (.cells #[.int .i64 3,.int .i64 7,.int .i64 c,.string s,.string t,tr,fi] 79)=W at*
  refine (uh HD W).mono ?_
  rintro e w1 ⟨hr,ho1⟩
  have HO1:=hide (Only.trans (uh HOL) ho1)
  have HW1:=hide ((uh HWA).old ho1)
  have HR1:=hide ((uh HOp).old ho1)
  have HOR1:=hide ((uh HOR).old ho1)
  have hc1:w1.cell? ⟨w.heap.size,2,none⟩=some (.int .i64 c):=(uh HR1).cell 2 (by omega)
  obtain ⟨p,n,rfl,hp⟩: ∃(p:ByteArray) (n:Int),e=.returned (.tuple #[.string p,.int .i64 n])∧p.size≤1000000:=by
   rcases hr with ⟨hd,rfl⟩|⟨_,rfl⟩
   ·exact ⟨_,0,rfl,by have:=(deflP_size s).1;omega⟩
   exact ⟨_,1,rfl,by decide⟩
  have HT:=hide (fun W=>lawTurned_any p hp c W)
  clear ho1 hr HOL HWA HOp HOR HD HI HR1
  go_wp2_with fail
  refine (uh HT w1).mono ?_
  rintro e w2 ⟨q,rfl,hq,ho2⟩
  have HO2:=hide (Only.trans (uh HO1) ho2)
  have HW2:=hide ((uh HW1).old ho2)
  have HI2:=hide (inflates_any q (by omega) w2 ((uh HOR1).old ho2))
  clear ho2 HT HO1 HW1 HOR1 hc1
  go_wp2_with fail
  refine (uh HI2).mono ?_
  rintro e w3 ⟨rfl,ho3⟩
  have HO3:=hide (Only.trans (uh HO2) ho3)
  have HW3:=hide ((uh HW2).old ho3)
  clear ho3 HI2 HO2 HW2
  go_wp2_with fail
  go_ret
  exact ⟨rfl,HW3,Only.oldW (uh HO3)⟩
 have hab:(a==7)=false:=by rw[beq_eq_false_iff_ne];exact ha
 go_in
 go_wp2_with fail
 generalize w.alloc (.cells #[.int .i64 3,.int .i64 a,.int .i64 c,.string s,.string t,tr,fi] 79)=W at*
 refine (uh HI _ (uh HOR)).mono ?_
 rintro e w1 ⟨rfl,ho1⟩
 have HO1:=hide (Only.trans (uh HOL) ho1)
 have HW1:=hide ((uh HWA).old ho1)
 clear ho1 HOL HWA HOp HOR HD HI
 go_wp2_with fail
 go_ret
 exact ⟨rfl,HW1,Only.oldW (uh HO1)⟩
theorem step_four(a c:Int)(s t:ByteArray)(hs:s.size≤140737488355328)(tr fi:Value)(b:Nat)(w:World)(hw:WAt w b):
 Calls Tryz.prog 38 #[.pointer (some ⟨b,0,none⟩),.agg (opV 4 a c s t tr fi)] w fun e w' =>e=.returned (.bool true)∧WAt w' b∧Only (fun i=>i=b) w w' :=by
 have HWA:=hide (hw.old ((Only.refl _ w).alloc (.cells (opV 4 a c s t tr fi) 79)))
 have HOL:Hid (Old w (w.alloc (.cells (opV 4 a c s t tr fi) 79))):=(Only.refl _ w).alloc _
 have HD:=hide (fun w1=>deflates_any s hs w1)
 clear hw
 unfold opV at*
 go_in
 go_wp2_with fail
 generalize w.alloc (.cells #[.int .i64 4,.int .i64 a,.int .i64 c,.string s,.string t,tr,fi] 79)=W at*
 refine (uh HD W).mono ?_
 rintro e w1 ⟨rfl,ho1⟩
 have HO1:=hide (Only.trans (uh HOL) ho1)
 have HW1:=hide ((uh HWA).old ho1)
 clear ho1 HOL HWA HD
 go_wp2_with fail
 go_ret
 exact ⟨rfl,HW1,Only.oldW (uh HO1)⟩
def Glob2(w:World):Prop:=Glob w∧OrdAt w
theorem Glob2.old{w w' :World}(h:Glob2 w)(ho:Old w w'):Glob2 w' :=⟨h.1.old ho,h.2.old ho⟩
theorem stepOk4:StepOk Glob2 4:=by
 intro k p q s t x y b w hk hs hw hg
 by_cases h2:k≤2
 ·exact stepOk2 k p q s t x y b w h2 hs hw hg.1
 by_cases h3:k=3
 ·subst h3;exact step_three p q s t hs x y b w hw hg.2
 obtain rfl:k=4:=by omega
 exact step_four p q s t hs x y b w hw
theorem gOrder:Tryz.prog.globalNamed "valise/inflate.order" =some 1:=by kernel_rfl
theorem tOrder:(Tryz.prog.globals[1]?).map (·.type)=some 313:=by kernel_rfl
theorem cI3:Tryz.prog.cellsOf 3=1:=by kernel_rfl
theorem cA19:Tryz.prog.cellsOf 313=19:=by kernel_rfl
theorem ord_of{W:World}(h:laidMetH Tryz.prog laid4 W):OrdAt W:=by
 rw[MakeChecks.laidMetH_plain _ _ _ (by kernel_rfl)] at h
 obtain ⟨ps,⟨g,t,cs,f,p,q,_,_,_,_,⟨g0,t0,cs0,f0,p0,q0,hg0,ht0,hv0,hd0,_,_⟩,_⟩,_,_⟩:=h
 obtain rfl:=Option.some.inj (gOrder.symm.trans hg0)
 obtain rfl:=Option.some.inj (tOrder.symm.trans ht0)
 obtain ⟨xs,m,_,ex,_,hl,hel⟩:=DataW.trod_array Tryz.underlying313 hd0
 have e3:(xs.map (·.1))=orderL.map fun n:Nat=>(DataW.lit (.int .i64 (n:Int)):DataW Unit):=(DataW.agg.inj (Prod.mk.inj ex).1).symm
 have hlen:orderL.length=19:=rfl
 have key: ∀j,j<19→W.cell? ⟨1,j,none⟩=some (.int .i64 (orderL.getD j 0:Nat)):=by
  intro r hr
  have hE:=hel r hr
  rw[cI3,Nat.mul_one,List.getElem?_eq_getElem (by omega)] at hE
  obtain ⟨z,e1,e2,_⟩:=DataW.trod_int Tryz.underlying3 hE
  have e4:(xs.map (·.1))[r]? =(orderL.map fun n:Nat=>(DataW.lit (.int .i64 (n:Int)):DataW Unit))[r]? :=by rw[e3]
  rw[List.getElem?_map,List.getElem?_map,List.getElem?_eq_getElem (by omega:r<xs.length),List.getElem?_eq_getElem (by omega:r<orderL.length),e2] at e4
  have hz:z=(orderL.getD r 0:Nat):=by
   simp only[Option.map_some,Option.some.injEq,DataW.lit.injEq,Lit.int.injEq,true_and] at e4
   rw[e4,List.getD,List.getElem?_eq_getElem (by omega:r<orderL.length)];rfl
  rw[World.var?_cell hg0 hv0 r,←hz]
  have:cs0.toList[r]? =some (.int .i64 z):=by
   have h0:((cs0.toList.drop r).take 1)[0]? =some (.int .i64 z):=by rw[e1];rfl
   simpa using h0
  simpa using this
 refine ⟨?_,key⟩
 have:=key 0 (by omega)
 rcases Nat.lt_or_ge 1 W.heap.size with h|h
 ·exact h
 simp[World.cell?,Array.getElem?_eq_none h] at this
end Go.Proofs.YtndfmgdhiallpaaGreatDoor
