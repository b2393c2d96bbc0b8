import Derived.Test.YtfbgamknfommpaaGreatDoorMz
import Derived.Test.YtfbgamknfommpaaGreatDoorRows
import Derived.WalkKit
import Derived.ProofKit
import Derived.OpenShut
import Derived.LaidMore
import Derived.Stop.Joined
import Derived.Deep.Slices
import Derived.SizedLaws
import Derived.Test.YtfbgamknfommpaaGreatDoorMr
import Derived.Test.YtfbgamknfommpaaGreatDoorJk
import Derived.Shelf.Vars
import Derived.ChangeMaps5
namespace Go.Proofs.YtfbgamknfommpaaGreatDoor
open Go.ChangeShapes Go.WideShapes Go.ChangeAt Go.RowKit
theorem own:ownKnob Tryz.prog.godebug=none:=by kernel_rfl
theorem laidOut:laidOutB Tryz.prog=true:=by kernel_rfl
theorem gStart:Tryz.prog.globalNamed "valise/digest.startWords" =some 0:=by kernel_rfl
theorem tStart:(Tryz.prog.globals[0]?).map (·.type)=some 109:=by kernel_rfl
theorem cU32:Tryz.prog.cellsOf 77=1:=by kernel_rfl
theorem cA8:Tryz.prog.cellsOf 109=8:=by kernel_rfl
theorem words_of{H:Type}{enc:TypeId×Value→H}{W:World}{fuel:Nat}{cs:List Value}{p:List MemPlace}{sp:Nat→Bool}{hd:Bool}{l:List Int}
 (h:DataW.trod enc Tryz.prog W 0 sp hd fuel 109 cs=some (.agg (l.map fun n=> .lit (.int .u32 n)),p)):cs=l.map fun n=>Value.int .u32 n:=by
 obtain ⟨xs,m,rfl,hx,hlen,hn,hel⟩:=DataW.trod_array Tryz.underlying109 h
 rw[cA8] at hlen
 rw[cU32] at hel
 simp only[Prod.mk.injEq,DataW.agg.injEq] at hx
 obtain ⟨hx,_⟩:=hx
 have hll:l.length=8:=by have:=congrArg List.length hx;simpa [hn] using this
 apply List.ext_getElem?
 intro i
 by_cases hi:i<8
 ·have h1:=hel i hi
  have hxi:i<xs.length:=by omega
  rw[List.getElem?_eq_getElem hxi] at h1
  obtain ⟨k,e1,e2,_⟩:=DataW.trod_int Tryz.underlying77 h1
  have h2:(l.map fun n=>(DataW.lit (.int .u32 n):DataW H))[i]? =some (xs[i].1):=by rw[hx];simp[hxi]
  rw[e2] at h2
  rw[List.getElem?_map,List.getElem?_eq_getElem (by omega:i<l.length)] at h2 ⊢
  simp only[Option.map_some,Option.some.injEq,DataW.lit.injEq,Lit.int.injEq,true_and] at h2
  have h3:cs[i]? =some (.int .u32 k):=by
   have hi8:i<cs.length:=by omega
   have h4:(cs.drop (i*1)).take 1=[cs[i]]:=by rw[Nat.mul_one,List.drop_eq_getElem_cons hi8];rfl
   rw[h4] at e1
   rw[List.getElem?_eq_getElem hi8]
   simpa using e1
  rw[h3,Option.map_some,h2]
 rw[List.getElem?_eq_none (by omega),List.getElem?_eq_none (by simp;omega)]
abbrev laid4:List (String×DataW Unit):=[("unicode/utf8.acceptRanges",Rows.laid_unicode_utf8_acceptRanges),("valise/inflate.order",Rows.laid_valise_inflate_order),("valise/digest.startWords",Rows.laid_valise_digest_startWords),("unicode/utf8.first",Rows.laid_unicode_utf8_first)]
theorem glob_of{W:World}(h:laidMetH Tryz.prog laid4 W):Glob W:=by
 rw[MakeChecks.laidMetH_plain _ _ _ (by kernel_rfl)] at h
 obtain ⟨ps,⟨g,t,cs,f,p,q,_,_,_,_,⟨g0,t0,cs0,f0,p0,q0,hg0,ht0,hv0,hd0,⟨g1,t1,cs1,f1,p1,q1,hg1,ht1,hv1,hd1,_,_⟩,_⟩,_⟩,_,_⟩:=h
 obtain rfl:=Option.some.inj (gStart.symm.trans hg1)
 obtain rfl:=Option.some.inj (tStart.symm.trans ht1)
 have hw:=words_of (l:=[1779033703,3144134277,1013904242,2773480762,1359893119,2600822924,528734635,1541459225]) hd1
 have hc:cs1=u8A h0:=by apply Array.ext';rw[hw];rfl
 subst hc
 simp only[World.var?,hg1,Option.bind_some] at hv1
 split at hv1
 ·rename_i c t fr hh
  injection hv1 with hv1
  subst hv1
  exact ⟨t,fr,hh⟩
 cases hv1
open Go.RowKit Go.Maps
theorem OrdAt.old{w w' :World}(h:OrdAt w)(ho:Old w w'):OrdAt w' :=h.kept ho (fun x=>x)
def Glob2(w:World):Prop:=Glob w∧OrdAt w
theorem Glob2.old{w w' :World}(h:Glob2 w)(ho:Old w w'):Glob2 w' :=⟨h.1.old ho,h.2.old ho⟩
theorem gOrder:Tryz.prog.globalNamed "valise/inflate.order" =some 2:=by kernel_rfl
theorem tOrder:(Tryz.prog.globals[2]?).map (·.type)=some 229:=by kernel_rfl
theorem cI3:Tryz.prog.cellsOf 3=1:=by kernel_rfl
theorem cA19:Tryz.prog.cellsOf 229=19:=by kernel_rfl
theorem ord_of{W:World}(h:laidMetH Tryz.prog laid4 W):OrdAt W:=by
 rw[MakeChecks.laidMetH_plain _ _ _ (by kernel_rfl)] at h
 obtain ⟨ps,⟨g,t,cs,f,p,q,_,_,_,_,⟨g0,t0,cs0,f0,p0,q0,hg0,ht0,hv0,hd0,_,_⟩,_⟩,_,_⟩:=h
 obtain rfl:=Option.some.inj (gOrder.symm.trans hg0)
 obtain rfl:=Option.some.inj (tOrder.symm.trans ht0)
 obtain ⟨xs,m,_,ex,_,hl,hel⟩:=DataW.trod_array Tryz.underlying229 hd0
 have e3:(xs.map (·.1))=orderL.map fun n:Nat=>(DataW.lit (.int .i64 (n:Int)):DataW Unit):=(DataW.agg.inj (Prod.mk.inj ex).1).symm
 have hlen:orderL.length=19:=rfl
 have key: ∀j,j<19→W.cell? ⟨2,j,none⟩=some (.int .i64 (orderL.getD j 0:Nat)):=by
  intro r hr
  have hE:=hel r hr
  rw[cI3,Nat.mul_one,List.getElem?_eq_getElem (by omega)] at hE
  obtain ⟨z,e1,e2,_⟩:=DataW.trod_int Tryz.underlying3 hE
  have e4:(xs.map (·.1))[r]? =(orderL.map fun n:Nat=>(DataW.lit (.int .i64 (n:Int)):DataW Unit))[r]? :=by rw[e3]
  rw[List.getElem?_map,List.getElem?_map,List.getElem?_eq_getElem (by omega:r<xs.length),List.getElem?_eq_getElem (by omega:r<orderL.length),e2] at e4
  have hz:z=(orderL.getD r 0:Nat):=by
   simp only[Option.map_some,Option.some.injEq,DataW.lit.injEq,Lit.int.injEq,true_and] at e4
   rw[e4,List.getD,List.getElem?_eq_getElem (by omega:r<orderL.length)];rfl
  rw[World.var?_cell hg0 hv0 r,←hz]
  have:cs0.toList[r]? =some (.int .i64 z):=by
   have h0:((cs0.toList.drop r).take 1)[0]? =some (.int .i64 z):=by rw[e1];rfl
   simpa using h0
  simpa using this
 refine ⟨?_,key⟩
 have:=key 0 (by omega)
 rcases Nat.lt_or_ge 2 W.heap.size with h|h
 ·exact h
 simp[World.cell?,Array.getElem?_eq_none h] at this
open Go.ChangeShapes Go.WideShapes Go.ChangeAt Go.RowKit
theorem weights_mem_all{H:Type}{P:Program}{e:TypeId}{d:DataW H}: ∀{l:List (DataW H)},d∈l→ ∀n∈d.weights P e,n∈DataW.weightsAll P e l
 |x::r,h,n,hn=>by
  rw[DataW.weightsAll,List.mem_append]
  rcases List.mem_cons.1 h with rfl|h
  ·exact .inl hn
  exact .inr (weights_mem_all h n hn)
theorem cInt:Tryz.prog.cellsOf 3=1:=by kernel_rfl
theorem cStr:Tryz.prog.cellsOf 9=1:=by kernel_rfl
theorem cTree:Tryz.prog.cellsOf 27=1:=by kernel_rfl
theorem cFiles:Tryz.prog.cellsOf 29=1:=by kernel_rfl
open Go.ChangeShapes Go.WideShapes Go.ChangeAt Go.RowKit
theorem handed_both{H:Type}{enc:TypeId×Value→H}{a:Assume}{C:Checked}{os:Os}{f:FuncId}{fn:Func}{s:ChangeSpec}{conds:List PathCond}{apart fresh handsOn again:Bool}{X:World→Array Value→Prop}
 (hX: ∀(w w' :World) (args:Array Value),w.heap=w'.heap→X w args→X w' args)
 (own:ownKnob C.prog.godebug=none)(started:os.Started)(noInit:C.prog.inits.idxOf? f=none)(hfn:C.prog.funcs[f]? =some fn)
 (witness: ∃(w:World) (tape:Tape) (i:Input),w.os=os∧(w.forCall tape i).Shaped C.prog∧i.vars=[]∧Input.okWide C.prog (w.forCall tape i) .any w.heap.size f i∧
  ((s.pre enc C.prog fn conds apart (w.forCall tape i).memory i.args∧X (w.forCall tape i).memory i.args)∧sizedMet enc C.prog fn (OpenSpec.ofChange s) apart (w.forCall tape i).memory i.args)∧a.holds C.prog (lone (Frame.enter C.prog f i.args .normal) [] (w.forCall tape i)))
 (contract: ∀(W:World) (base:Nat) (args:Array Value) (ds gs:List (DataW H)) (before:List MemPlace),
  (∀(j:Nat) t v,fn.params[j]? =some t→args[j]? =some v→Value.okWide C.prog W .any base t v)→
  DataW.Whole enc C.prog fn.params.toList s.vars apart W args.toList ds gs before→
  (DataW.weightsEach C.prog (fn.params.toList++s.plain.varTypes C.prog) (ds++gs)).all (· ≤reachBytes)=true→X W args→W.ShapedOpen C.prog→
  Calls C.prog f args W fun e W' => ∃v,e=.returned v∧s.post enc C.prog fn apart fresh handsOn again W args v W'):
 ReturnsInHanded a C os f .any (fun w args=>(s.pre enc C.prog fn conds apart w args∧X w args)∧sizedMet enc C.prog fn (OpenSpec.ofChange s) apart w args) (s.post enc C.prog fn apart fresh handsOn again):=by
 refine returnsInHanded_of_calls own started noInit witness ?_
 intro w tape i _ hsh _ hok hpre _
 obtain ⟨_,_,_,fn',hfn',_,_,_,_,hval⟩:=hok
 obtain rfl:fn' =fn:=Option.some.inj (hfn'.symm.trans hfn)
 obtain ⟨⟨⟨ds,gs,before,hw,_⟩,hx⟩,hz⟩:=hpre
 refine (contract (w.forCall tape i) w.heap.size i.args ds gs before hval (DataW.Whole.of_heap (w' :=w.forCall tape i) (by rfl) hw) (hz.weights hw) (hX _ _ _ (by rfl) hx) hsh).mono fun e W' ⟨v,he,hp⟩=> ?_
 subst he
 exact ChangeSpec.post_blind hp
theorem max_of{W:World}(h:W.ShapedOpen Tryz.prog):MaxAt W:=
 cell_of_shapedOpen_int (zero:= #[.int .i64 0]) (t:=3) h (of_decide_eq_true (by kernel_rfl)) (by kernel_rfl) rfl (by kernel_rfl) (by kernel_rfl) Tryz.underlying3
theorem awk_of{W:World}(h:W.ShapedOpen Tryz.prog)(hL:laidMetH Tryz.prog laid4 W):Awk W:=⟨max_of h,ord_of hL,glob_of hL⟩
end Go.Proofs.YtfbgamknfommpaaGreatDoor
