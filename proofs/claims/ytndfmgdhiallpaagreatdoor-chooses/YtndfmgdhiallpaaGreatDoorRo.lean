import Derived.Test.YtndfmgdhiallpaaGreatDoorRn
import Derived.Test.YtndfmgdhiallpaaGreatDoorMy
import Derived.Test.YtndfmgdhiallpaaGreatDoorZc
import Derived.JoinedCond
import Derived.Lay
set_option maxRecDepth 100000
set_option maxHeartbeats 400000
namespace Go.Proofs.YtndfmgdhiallpaaGreatDoor
open Go.ChangeShapes Go.WideShapes Go.ChangeAt Go.RowKit _root_.Go.Proofs.YtndfmgdhiallpaaGreatDoor.Rows
theorem bulk_pos{H:Type}(d:DataW H):1≤uptoBulk d:=by
 cases d with
 |lit l=>cases l<;>simp[uptoBulk]
 |_=>simp[uptoBulk]
theorem bulk_mem{H:Type}{d:DataW H}: ∀{l:List (DataW H)},d∈l→uptoBulk d≤uptoBulkAll l
 |x::r,h=>by
  rw[uptoBulkAll]
  rcases List.mem_cons.1 h with rfl|h
  ·omega
  have:=bulk_mem h;omega
theorem bulk_len{H:Type}: ∀(l:List (DataW H)),l.length≤uptoBulkAll l
 |[]=>by simp[uptoBulkAll]
 |x::r=>by
  have h1:=bulk_len r
  have h2:=bulk_pos x
  rw[uptoBulkAll,List.length_cons];omega
theorem cEnt:Tryz.prog.cellsOf 39=3:=by kernel_rfl
theorem cBool:Tryz.prog.cellsOf 4=1:=by kernel_rfl
theorem ent_of{H:Type}{enc:TypeId×Value→H}{W:World}{fuel:Nat}{cs:List Value}{d:DataW H}{p:List MemPlace}{sp:Nat→Bool}{hd:Bool}(hl:cs.length=3)
 (h:DataW.trod enc Tryz.prog W 0 sp hd fuel 39 cs=some (d,p)):
 ∃e:Ent,cs=[.string e.nm,.bool e.ln,.string e.dt]∧e.nm.size≤uptoBulk d∧e.dt.size≤uptoBulk d:=by
 obtain ⟨xs,n,rfl,hx,hlen,hn,hf⟩:=DataW.trod_struct Tryz.underlying39 h
 match cs,hl,xs,hn with
 |[v0,v1,v2],_,[y0,y1,y2],_=>
  have g0:=hf 0 _ rfl
  have g1:=hf 1 _ rfl
  have g2:=hf 2 _ rfl
  simp[cStr,cBool] at g0 g1 g2
  obtain ⟨nm,e0,x0,_⟩:=DataW.trod_string Tryz.underlying9 g0
  obtain ⟨ln,e1,x1⟩:=DataW.trod_bool Tryz.underlying4 g1
  obtain ⟨dt,e2,x2,_⟩:=DataW.trod_string Tryz.underlying9 g2
  simp at e0 e1 e2
  subst e0 e1 e2
  simp only[Prod.mk.injEq] at hx
  have hs: ∀s:ByteArray,s.size=s.data.toList.length:=fun s=>Lib.size_eq s
  refine ⟨⟨nm,ln,dt⟩,rfl, ?_, ?_⟩
  ·rw[hx.1,x0,hs];simp[uptoBulk,uptoBulkAll];omega
  rw[hx.1,x2,hs];simp[uptoBulk,uptoBulkAll];omega
theorem tree_of{H:Type}{enc:TypeId×Value→H}{W:World}{fuel:Nat}{v:Value}{d:DataW H}{p:List MemPlace}{sp:Nat→Bool}{hd:Bool}
 (h:DataW.trod enc Tryz.prog W 0 sp hd fuel 40 [v]=some (d,p))(hb:uptoBulk d≤1048576):
 v.oneCell' =true∧ ∃T:List Ent,T.length≤1100000∧(∀e∈T,e.nm.size≤2000000∧e.dt.size≤2000000)∧TreeV W v T:=by
 rcases Go.Deep.open_slice Tryz.underlying40 h with ⟨hc,_⟩|⟨a,len,cap,m,n,D,Pl,hc,hba,hl,hm,hmm,hx,hall⟩
 ·simp at hc
  subst hc
  exact ⟨rfl,[],by simp,(fun _ h=>by cases h),.inl ⟨rfl,rfl⟩⟩
 simp at hc
 subst hc
 simp only[Prod.mk.injEq] at hx
 have hd1:=hx.1
 have hlen:len≤1048576:=by
  have h1:=bulk_len ((List.range len).map D)
  rw[List.length_map,List.length_range] at h1
  rw[hd1,uptoBulk] at hb
  omega
 have hE: ∀i,i<len→ ∃e:Ent,(∀j,j<3→W.cell? ((a.add (i*3)).add j)=([.string e.nm,.bool e.ln,.string e.dt]:List Value)[j]?)∧e.nm.size≤2000000∧e.dt.size≤2000000:=fun i hi=>by
  have him:i<m:=by rw[hmm];split<;>omega
  obtain ⟨cs',h1,h2⟩:=hall i him
  rw[cEnt] at h1
  obtain ⟨_,hlc,hcell⟩:=World.cells?_some h1
  obtain ⟨e,rfl,hs1,hs2⟩:=ent_of hlc h2
  have hbi:uptoBulk (D i)≤1048576:=by
   have h3:=bulk_mem (d:=D i) (l:=(List.range len).map D) (List.mem_map.2 ⟨i,List.mem_range.2 hi,rfl⟩)
   rw[hd1,uptoBulk] at hb
   omega
  exact ⟨e,hcell,by omega,by omega⟩
 let f:Nat→Ent:=fun i=>if hi:i<len then Classical.choose (hE i hi) else ent0
 have hf: ∀i (hi:i<len),(∀j,j<3→W.cell? ((a.add (i*3)).add j)=([.string (f i).nm,.bool (f i).ln,.string (f i).dt]:List Value)[j]?)∧(f i).nm.size≤2000000∧(f i).dt.size≤2000000:=fun i hi=>by
  have:=Classical.choose_spec (hE i hi)
  have e:f i=Classical.choose (hE i hi):=dif_pos hi
  rw[e];exact this
 have hget: ∀i,i<len→((List.range len).map f).getD i ent0=f i:=fun i hi=>by rw[List.getD_eq_getElem?_getD];simp[hi]
 refine ⟨rfl,(List.range len).map f,by simp;omega,fun e he=> ?_,.inr ⟨a,cap,by simp,fun i hi=> ?_⟩⟩
 ·obtain ⟨i,hi,rfl⟩:=List.mem_map.1 he
  exact (hf i (List.mem_range.1 hi)).2
 have hi2:i<len:=by simpa using hi
 obtain ⟨hc,_⟩:=hf i hi2
 rw[hget i hi2]
 have c0:=hc 0 (by omega)
 have c1:=hc 1 (by omega)
 have c2:=hc 2 (by omega)
 rw[Addr.add_succ'] at c1 c2
 exact ⟨by rw[Addr.add_add,Nat.add_zero] at c0;exact c0,c1,c2⟩
theorem op_ofT{H:Type}{enc:TypeId×Value→H}{W:World}{fuel:Nat}{cs:List Value}{d:DataW H}{p:List MemPlace}{sp:Nat→Bool}{hd:Bool}(hl:cs.length=7)
 (h:DataW.trod enc Tryz.prog W 0 sp hd fuel 79 cs=some (d,p))(hb:uptoBulk d≤1048576):
 ∃k a c s t x y,cs=(opV k a c s t x y).toList∧s.size≤140737488355328∧ ∃T:List Ent,T.length≤1100000∧(∀e∈T,e.nm.size≤2000000∧e.dt.size≤2000000)∧TreeV W x T:=by
 obtain ⟨xs,n,rfl,hx,hlen,hn,hf⟩:=DataW.trod_struct Tryz.underlying79 h
 match cs,hl,xs,hn with
 |[v0,v1,v2,v3,v4,v5,v6],_,[y0,y1,y2,y3,y4,y5,y6],_=>
  have g0:=hf 0 _ rfl
  have g1:=hf 1 _ rfl
  have g2:=hf 2 _ rfl
  have g3:=hf 3 _ rfl
  have g4:=hf 4 _ rfl
  have g5:=hf 5 _ rfl
  simp[cInt,cStr,cTree] at g0 g1 g2 g3 g4 g5
  obtain ⟨k,e0,_⟩:=DataW.trod_int Tryz.underlying3 g0
  obtain ⟨a,e1,_⟩:=DataW.trod_int Tryz.underlying3 g1
  obtain ⟨c,e2,_⟩:=DataW.trod_int Tryz.underlying3 g2
  obtain ⟨s,e3,x3,_⟩:=DataW.trod_string Tryz.underlying9 g3
  obtain ⟨t,e4,_⟩:=DataW.trod_string Tryz.underlying9 g4
  simp at e0 e1 e2 e3 e4
  subst e0 e1 e2 e3 e4
  simp only[Prod.mk.injEq] at hx
  have hd1:=hx.1
  have hs:s.size=s.data.toList.length:=Lib.size_eq s
  have hb2:uptoBulkAll [y0.1,y1.1,y2.1,y3.1,y4.1,y5.1,y6.1]+1≤1048576:=by rw[hd1] at hb;simpa [uptoBulk] using hb
  have hb3:=bulk_mem (d:=y3.1) (l:=[y0.1,y1.1,y2.1,y3.1,y4.1,y5.1,y6.1]) (by simp)
  have hb5:=bulk_mem (d:=y5.1) (l:=[y0.1,y1.1,y2.1,y3.1,y4.1,y5.1,y6.1]) (by simp)
  obtain ⟨_,hT⟩:=tree_of (d:=y5.1) (p:=y5.2) g5 (by omega)
  refine ⟨k,a,c,s,t,v5,v6,rfl, ?_,hT⟩
  have h3:uptoBulk y3.1=s.data.toList.length+1:=by rw[x3];simp[uptoBulk]
  omega
theorem ops_ofT{H:Type}{enc:TypeId×Value→H}{W:World}{v:Value}{d:DataW H}{ps:List MemPlace}{sp:Nat→Bool}{hd:Bool}
 (h:DataW.Trod enc Tryz.prog W 0 sp hd 22 v d ps)(hv:v.oneCell' =true)(hb:uptoBulk d≤1048576):
 ∃ao n cap,v=.slice ao n cap∧n≤1100000∧(n=0∨ ∃a,ao=some a∧OpsT (fun V=>Old W V) a n):=by
 obtain ⟨fuel,h⟩:=h
 rcases Go.Deep.open_slice Tryz.underlying22 h with ⟨hc,_⟩|⟨a,len,cap,m,n,D,Pl,hc,hba,hl,hm,hmm,hx,hall⟩
 ·exact ⟨none,0,0,by cases v<;>simp_all [Value.cells,Value.oneCell'],by omega,.inl rfl⟩
 simp only[Prod.mk.injEq] at hx
 have hd1:=hx.1
 have hlen:len≤1048576:=by
  have h1:=bulk_len ((List.range len).map D)
  rw[List.length_map,List.length_range] at h1
  rw[hd1,uptoBulk] at hb
  omega
 refine ⟨some a,len,cap,by cases v<;>simp_all [Value.cells,Value.oneCell'],by omega,.inr ⟨a,rfl,fun i hi=> ?_⟩⟩
 have him:i<m:=by rw[hmm];split<;>omega
 obtain ⟨cs',h1,h2⟩:=hall i him
 rw[cOp] at h1
 obtain ⟨_,hlc,hcell⟩:=World.cells?_some h1
 have hbi:uptoBulk (D i)≤1048576:=by
  have h3:=bulk_mem (d:=D i) (l:=(List.range len).map D) (List.mem_map.2 ⟨i,List.mem_range.2 hi,rfl⟩)
  rw[hd1,uptoBulk] at hb
  omega
 obtain ⟨k,p,q,s,t,x,y,rfl,hs,T,hT1,hT2,hT3⟩:=op_ofT hlc h2 hbi
 refine ⟨k,p,q,s,t,x,y,hs,⟨T,hT1,hT2,fun V hV=>hT3.old hV⟩,fun V hV j hj=> ?_⟩
 have hcj:=hcell j hj
 rw[Addr.add_add] at hcj
 have hsz:j<(opV k p q s t x y).toList.length:=hj
 rw[List.getElem?_eq_getElem hsz] at hcj
 rw[old_cell hV hcj,←Array.getElem?_toList,List.getElem?_eq_getElem hsz]
end Go.Proofs.YtndfmgdhiallpaaGreatDoor
namespace Go.Proofs.YtndfmgdhiallpaaGreatDoor
open Go.ChangeShapes Go.WideShapes Go.ChangeAt Go.RowKit
theorem handed_cond{H:Type}{enc:TypeId×Value→H}{a:Assume}{C:Checked}{os:Os}{f:FuncId}{fn:Func}{s:OpenSpec}{k:(H:Type)→List (DataW H)→Bool}(hk:s.cond=some k){F:Stop.Interp}{conds:List PathCond}{apart fresh handsOn again:Bool}{X:World→Array Value→Prop}
 (hX: ∀(w w' :World) (args:Array Value),w.heap=w'.heap→X w args→X w' args)
 (own:ownKnob C.prog.godebug=none)(started:os.Started)(noInit:C.prog.inits.idxOf? f=none)(hfn:C.prog.funcs[f]? =some fn)
 (witness: ∃(w:World) (tape:Tape) (i:Input),w.os=os∧(w.forCall tape i).Shaped C.prog∧i.vars=[]∧Input.okWide C.prog (w.forCall tape i) .any w.heap.size f i∧
  ((s.pre enc C.prog fn conds apart (w.forCall tape i).memory i.args∧X (w.forCall tape i).memory i.args)∧sizedMet enc C.prog fn s apart (w.forCall tape i).memory i.args)∧a.holds C.prog (lone (Frame.enter C.prog f i.args .normal) [] (w.forCall tape i)))
 (contract: ∀(W:World) (base:Nat) (args:Array Value) (ds gs:List (DataW H)) (before:List MemPlace),
  (∀(j:Nat) t v,fn.params[j]? =some t→args[j]? =some v→Value.okWide C.prog W .any base t v)→
  DataW.Whole enc C.prog fn.params.toList s.vars apart W args.toList ds gs before→k H (ds++gs)=true→X W args→W.ShapedOpen C.prog→
  Calls C.prog f args W fun e W' => ∃v,e=.returned v∧(s.at F).post enc C.prog fn apart fresh handsOn again W args v W'):
 ReturnsInHanded a C os f .any (fun w args=>(s.pre enc C.prog fn conds apart w args∧X w args)∧sizedMet enc C.prog fn s apart w args) ((s.at F).post enc C.prog fn apart fresh handsOn again):=by
 refine returnsInHanded_of_calls own started noInit witness ?_
 intro w tape i _ hsh _ hok hpre _
 obtain ⟨_,_,_,fn',hfn',_,_,_,_,hval⟩:=hok
 obtain rfl:fn' =fn:=Option.some.inj (hfn'.symm.trans hfn)
 obtain ⟨⟨hp0,hx⟩,_⟩:=hpre
 obtain ⟨ds,gs,before,hw,_,hkk⟩:=(OpenSpec.pre_some hk conds apart _ _).1 hp0
 refine (contract (w.forCall tape i) w.heap.size i.args ds gs before hval (DataW.Whole.of_heap (w' :=w.forCall tape i) (by rfl) hw) hkk (hX _ _ _ (by rfl) hx) hsh).mono fun e W' ⟨v,he,hp⟩=> ?_
 subst he
 exact ChangeSpec.post_blind hp
theorem witness_cond{H:Type}{enc:TypeId×Value→H}{C:Checked}{os:Os}{f:FuncId}{fn:Func}{s:OpenSpec}{k:(H:Type)→List (DataW H)→Bool}(hk:s.cond=some k){apart:Bool}{X:World→Array Value→Prop}(modest:Bool)(w0:World)(args:Array Value)(fuel:Nat)(hos:w0.os=os)
 (hsh:(w0.forCall (fun _ _=>0) ⟨#[],args,[]⟩).Shaped C.prog)
 (hok:Input.okWideB C.prog (w0.forCall (fun _ _=>0) ⟨#[],args,[]⟩) f ⟨#[],args,[]⟩=true)
 (hpre:(match DataW.whole enc C.prog (w0.forCall (fun _ _=>0) ⟨#[],args,[]⟩).memory fn.params.toList s.vars apart args.toList fuel with|some x=>k H (x.1++x.2.1)|none=>false)=true)
 (hsz:s.bare.sizedB enc C.prog fn apart (w0.forCall (fun _ _=>0) ⟨#[],args,[]⟩).memory args fuel=true)
 (hx:X (w0.forCall (fun _ _=>0) ⟨#[],args,[]⟩).memory args):
 ∃(w:World) (tape:Tape) (i:Input),w.os=os∧(w.forCall tape i).Shaped C.prog∧i.vars=[]∧Input.okWide C.prog (w.forCall tape i) .any w.heap.size f i∧
  ((s.pre enc C.prog fn [] apart (w.forCall tape i).memory i.args∧X (w.forCall tape i).memory i.args)∧sizedMet enc C.prog fn s apart (w.forCall tape i).memory i.args)∧({modest:=modest}:Assume).holds C.prog (lone (Frame.enter C.prog f i.args .normal) [] (w.forCall tape i)):=by
 split at hpre
 ·rename_i x hwh
  refine ⟨w0,fun _ _=>0,⟨#[],args,[]⟩,hos,hsh,(Input.okWide_of_okWideB (base:=0) hok).1,(Input.okWide_of_okWideB hok).2,⟨⟨(OpenSpec.pre_some hk [] apart _ _).2 ⟨x.1,x.2.1,x.2.2,DataW.Whole_of_whole hwh,rfl,hpre⟩,hx⟩,sizedMet_of_sizedB hsz⟩, ?_⟩
  simp only[Assume.holds]
  exact ⟨by simp,by simp,fun _=>Modest.zero,by simp,by simp⟩
 cases hpre
end Go.Proofs.YtndfmgdhiallpaaGreatDoor
