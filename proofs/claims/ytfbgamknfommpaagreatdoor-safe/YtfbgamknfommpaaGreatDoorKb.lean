import Derived.Test.YtfbgamknfommpaaGreatDoorKa
import Derived.Deep.RegionLaw
set_option maxRecDepth 100000
set_option maxHeartbeats 400000
namespace Go.Proofs.YtfbgamknfommpaaGreatDoor.dk
open Go.RowKit
def isOf(ts:List Th)(q:ByteArray):Int:=if isAt ts q then (if (nth ts (low ts q)).f then 2 else 1) else 0
theorem isAt_lt{ts:List Th}{q:ByteArray}(h:isAt ts q=true):low ts q<ts.length:=by
 unfold isAt at h;simp at h;exact h.1
theorem thg_some{w:World}{v:Value}{ts:List Th}(h:Thg w v ts)(h0:0<ts.length):
 ∃g cap cur,v=.slice (some ⟨g,0,none⟩) ts.length cap∧w.heap[g]? =some (.cells cur 71 (0,0))∧ts.length≤cap∧cap≤maxLen∧cap*3≤cur.size∧cur.toList.take (ts.length*3)=flat ts:=by
 rcases h with ⟨_,rfl⟩|h
 ·simp at h0
 exact h
theorem is_disk{w:World}{b:Nat}{v:Value}{D:Dsk}(h:DiskAt w b v D)(q:ByteArray)(hm:D.ts.length≤1000000000000):
 Calls Tryz.prog 18 #[.pointer (some ⟨b,0,none⟩),.string q] w fun e w' =>e=.returned (.int .i64 (isOf D.ts q))∧ ∃n,w' =w.drewN n:=by
 have hc:=h.cells.1
 have HA:=hide (at_disk h q hm)
 unfold isOf
 by_cases hi:isAt D.ts q=true
 ·obtain ⟨g,cap,cur,rfl,hg,h1,h2,h3,h4⟩:=thg_some h.2.1 (by have:=isAt_lt hi;omega)
  have hlt:=isAt_lt hi
  have hcc:=(row_cells hg h4 _ hlt).2.1
  rw[if_pos hi]
  rw[hi] at HA
  clear h hg h4
  generalize low D.ts q=k at*
  cases hf:(nth D.ts k).f<;>rw[hf] at hcc
  all_goals
   go_in
   go_wp2_with (go_at_call 35;refine (uh HA).mono ?_;rintro e w' ⟨rfl,n,rfl⟩)
   go_ret
   exact ⟨ret1_eq (by simp),_,rfl⟩
 have hi:isAt D.ts q=false:=by simpa using hi
 rw[hi] at HA
 rw[if_neg (by simp[hi])]
 clear h
 go_in
 go_wp2_with (go_at_call 35;refine (uh HA).mono ?_;rintro e w' ⟨rfl,n,rfl⟩)
 go_ret
 exact ⟨ret1_eq (by simp),_,rfl⟩
theorem only_set(w:World)(b i:Nat)(u:Value):Only (fun k=>k=b) w (w.setCell ⟨b,i,none⟩ u):=(Only.refl (fun k=>k=b) w).setCell (p:=⟨b,i,none⟩) (fun _=>rfl) u
theorem only_set2(w:World)(b i j:Nat)(u x:Value):Only (fun k=>k=b) w ((w.setCell ⟨b,i,none⟩ u).setCell ⟨b,j,none⟩ x):=(only_set w b i u).setCell (p:=⟨b,j,none⟩) (fun _=>rfl) x
theorem DiskAt.set{w:World}{b:Nat}{v:Value}{D:Dsk}(h:DiskAt w b v D)(i:Nat)(u:Value)(D' :Dsk)(ht:D'.ts=D.ts)
 (hc:(#[v,.int .i64 D.room,.int .i64 D.left,.int .i64 D.steps,.bool D.down]:Array Value).setIfInBounds i u= #[v,.int .i64 D'.room,.int .i64 D'.left,.int .i64 D'.steps,.bool D'.down]):
 DiskAt (w.setCell ⟨b,i,none⟩ u) b v D' :=
 ⟨by rw[heap_setCell_same w b i _ _ u h.1,hc],by rw[ht];exact h.2.1.kept (only_set w b i u) (fun k hk e=>h.2.2 (e ▸ hk)),h.2.2⟩
theorem DiskAt.setRoom{w:World}{b:Nat}{v:Value}{D:Dsk}(h:DiskAt w b v D)(n:Int):DiskAt (w.setCell ⟨b,1,none⟩ (.int .i64 n)) b v {D with room:=n}:=h.set 1 _ _ rfl rfl
theorem DiskAt.setLeft{w:World}{b:Nat}{v:Value}{D:Dsk}(h:DiskAt w b v D)(n:Int):DiskAt (w.setCell ⟨b,2,none⟩ (.int .i64 n)) b v {D with left:=n}:=h.set 2 _ _ rfl rfl
theorem DiskAt.setSteps{w:World}{b:Nat}{v:Value}{D:Dsk}(h:DiskAt w b v D)(n:Int):DiskAt (w.setCell ⟨b,3,none⟩ (.int .i64 n)) b v {D with steps:=n}:=h.set 3 _ _ rfl rfl
theorem DiskAt.setDown{w:World}{b:Nat}{v:Value}{D:Dsk}(h:DiskAt w b v D)(n:Bool):DiskAt (w.setCell ⟨b,4,none⟩ (.bool n)) b v {D with down:=n}:=h.set 4 _ _ rfl rfl
theorem DiskAt.setThings{w:World}{b:Nat}{v v' :Value}{D:Dsk}{ts:List Th}(h:DiskAt w b v D)(ht:Thg w v' ts)(hb:v'.ownBlock≠some b):DiskAt (w.setCell ⟨b,0,none⟩ v') b v' {D with ts:=ts}:=
 ⟨by rw[heap_setCell_same w b 0 _ _ v' h.1];rfl,ht.kept (only_set w b 0 v') (fun k hk e=>hb (e ▸ hk)),hb⟩
theorem Turn.of{w w' :World}{b:Nat}{v:Value}{D' :Dsk}(h:DiskAt w' b v D')(ho:Only (fun k=>k=b) w w'):Turn w w' b v D' :=⟨v,h,ho.mono (fun _ _ e=> .inl e),.inl rfl⟩
def stepped(D:Dsk):Dsk:=
 {D with steps:=wrap64 (D.steps+1),down:=(D.left==0)||D.down,left:=if (D.left==0)||D.down then D.left else if 0<D.left then wrap64 (D.left- 1) else D.left}
def goes(D:Dsk):Bool:= !((D.left==0)||D.down)
theorem step_disk{w:World}{b:Nat}{v:Value}{D:Dsk}(h:DiskAt w b v D):
 Calls Tryz.prog 30 #[.pointer (some ⟨b,0,none⟩)] w fun e w' =>e=.returned (.bool (goes D))∧DiskAt w' b v (stepped D)∧Only (fun k=>k=b) w w' :=by
 obtain ⟨h0,h1,h2,h3,h4⟩:=h.cells
 have hf:=h.thaw
 have H:=hide h
 unfold goes
 cases hl:(D.left==0)<;>cases hd:D.down
 ·by_cases hp:0<D.left
  ·clear h
   rw[hd] at h4
   go_in
   go_wp2
   go_ret
   refine ⟨rfl, ?_,only_set2 _ _ _ _ _ _⟩
   have:=(((uh H).setSteps (wrap64 (D.steps+1))).setLeft (wrap64 (D.left- 1)))
   have e:stepped D={D with steps:=wrap64 (D.steps+1),left:=wrap64 (D.left- 1)}:=by simp[stepped,hl,hd,hp]
   rw[e];exact this
  clear h
  rw[hd] at h4
  go_in
  go_wp2
  go_ret
  refine ⟨rfl, ?_,only_set _ _ _ _⟩
  have:=((uh H).setSteps (wrap64 (D.steps+1)))
  have e:stepped D={D with steps:=wrap64 (D.steps+1)}:=by simp[stepped,hl,hd];omega
  rw[e];exact this
 ·clear h
  rw[hd] at h4
  go_in
  go_wp2
  go_ret
  refine ⟨rfl, ?_,only_set _ _ _ _⟩
  have:=((uh H).setSteps (wrap64 (D.steps+1)))
  have e:stepped D={D with steps:=wrap64 (D.steps+1)}:=by simp[stepped,hl,hd]
  rw[e];exact this
 all_goals
  clear h
  rw[hd] at h4
  go_in
  go_wp2
  go_ret
  refine ⟨rfl, ?_,only_set2 _ _ _ _ _ _⟩
  have:=(((uh H).setSteps (wrap64 (D.steps+1))).setDown true)
  have e:stepped D={D with steps:=wrap64 (D.steps+1),down:=true}:=by simp[stepped,hl,hd]
  rw[e];exact this
end Go.Proofs.YtfbgamknfommpaaGreatDoor.dk
namespace Go.Proofs.YtfbgamknfommpaaGreatDoor.dk
open Go.RowKit
def isFile(ts:List Th)(q:ByteArray):Bool:=isAt ts q&& !(nth ts (low ts q)).f
def readOf(ts:List Th)(q:ByteArray):ByteArray:=if isFile ts q then (nth ts (low ts q)).d else ⟨#[]⟩
theorem read_disk{w:World}{b:Nat}{v:Value}{D:Dsk}(h:DiskAt w b v D)(q:ByteArray)(hm:D.ts.length≤1000000000000):
 Calls Tryz.prog 16 #[.pointer (some ⟨b,0,none⟩),.string q] w fun e w' =>e=.returned (.tuple #[.string (readOf D.ts q),.bool (isFile D.ts q)])∧ ∃n,w' =w.drewN n:=by
 have hc:=h.cells.1
 have HA:=hide (at_disk h q hm)
 unfold readOf isFile
 by_cases hi:isAt D.ts q=true
 ·obtain ⟨g,cap,cur,rfl,hg,h1,h2,h3,h4⟩:=thg_some h.2.1 (by have:=isAt_lt hi;omega)
  have hlt:=isAt_lt hi
  have hcc:=(row_cells hg h4 _ hlt).2.1
  have hcd:=(row_cells hg h4 _ hlt).2.2
  rw[hi] at HA ⊢
  clear h hg h4
  generalize low D.ts q=k at*
  cases hf:(nth D.ts k).f<;>rw[hf] at hcc
  all_goals
   go_in
   go_wp2_with (go_at_call 35;refine (uh HA).mono ?_;rintro e w' ⟨rfl,n,rfl⟩)
   go_ret2
   exact ⟨ret2_eq (by simp) (by simp),_,rfl⟩
 have hi:isAt D.ts q=false:=by simpa using hi
 rw[hi] at HA ⊢
 clear h
 go_in
 go_wp2_with (go_at_call 35;refine (uh HA).mono ?_;rintro e w' ⟨rfl,n,rfl⟩)
 go_ret2
 exact ⟨ret2_eq (by simp) (by simp),_,rfl⟩
theorem down_disk{w:World}{b:Nat}{v:Value}{D:Dsk}(h:DiskAt w b v D):
 Calls Tryz.prog 20 #[.pointer (some ⟨b,0,none⟩)] w fun e w' =>e=.returned (.bool D.down)∧w' =w:=by
 obtain ⟨h0,h1,h2,h3,h4⟩:=h.cells
 clear h
 go_in
 go_wp2
 go_ret
 exact ⟨rfl,rfl⟩
def freeOf(ts:List Th)(p:ByteArray):Int:=
 if !(parentOf p).isSome||(!((upOf p).toList==[])&& !(isOf ts (upOf p)==2)) then 1 else if isOf ts p==0 then 0 else 2
theorem free_disk{w:World}{b:Nat}{v:Value}{D:Dsk}(h:DiskAt w b v D)(q:ByteArray)(hq:q.size≤1000000000000)(hm:D.ts.length≤1000000000000):
 Calls Tryz.prog 31 #[.pointer (some ⟨b,0,none⟩),.string q] w fun e w' =>e=.returned (.int .i64 (freeOf D.ts q))∧ ∃n,w' =w.drewN n:=by
 have HI:=hide (fun (w1:World) (u:ByteArray) (h1:DiskAt w1 b v D)=>is_disk h1 u hm)
 have H:=hide h
 have HP:=hide (fun w=>parent_any q w hq)
 unfold freeOf
 clear h
 generalize upOf q=u at*
 generalize isOf D.ts=f at*
 cases hs:(parentOf q).isSome
 ·rw[hs] at HP
  go_in
  go_wp2_with (go_at_call 36;refine (uh HP _).mono ?_;rintro e w' ⟨rfl,rfl⟩)
  go_ret
  exact ⟨ret1_eq (by simp),0,rfl⟩
 rw[hs] at HP
 cases he:(u.toList==[])<;>cases h1:(f u==2)<;>cases h2:(f q==0)
 all_goals
  go_in
  go_wp2_with (first
   |(go_at_call 36;refine (uh HP _).mono ?_;rintro e w' ⟨rfl,rfl⟩)
   |(go_at_call 18;refine (uh HI _ _ (by exact uh H)).mono ?_;rintro e w' ⟨rfl,n,rfl⟩))
  go_ret
  refine ⟨ret1_eq (by simp), ?_⟩
  first|exact ⟨_,rfl⟩|exact ⟨_,World.drewN_drewN ..⟩
end Go.Proofs.YtfbgamknfommpaaGreatDoor.dk
namespace Go.Proofs.YtfbgamknfommpaaGreatDoor.dk
open Go.RowKit
theorem info41:(Tryz.prog.info? 71).map (fun i=>(i.zero,i.size,i.bytes))=some (some (.agg #[.string ⟨#[]⟩,.bool false,.string ⟨#[]⟩]),3,40):=by kernel_rfl
theorem flat_one(ts:List Th): ∀u∈flat ts,u.oneCell' =true:=by
 induction ts with
 |nil=>intro u h;simp[flat] at h
 |cons t r ih=>
  intro u h
  simp only[flat,List.mem_cons] at h
  rcases h with rfl|rfl|rfl|h
  ·rfl
  ·rfl
  ·rfl
  exact ih u h
def Shows(w:World)(x:Value)(us:List Th):Prop:=
 ∃(ao:Option Addr) (c:Nat),x=.slice ao us.length c∧(ao=none→us=[])∧ ∀a,ao=some a→ ∀j u,(flat us)[j]? =some u→w.cell? (a.add j)=some u
theorem run_append_thg{w:World}{v:Value}{ts:List Th}(h:Thg w v ts){x:Value}{us:List Th}(hx:Shows w x us)(ty:TypeId)(hb:(ts.length+us.length)*40≤140737488355328):
 ∃v' w',(Builtin.append_ #[66,66] ty #[v,x]).run Tryz.prog w=.ok v' w' ∧Thg w' v' (ts++us)∧w.grownBy w' v.ownBlock∧(v'.ownBlock=v.ownBlock∨ ∀k,v'.ownBlock=some k→w.heap.size≤k):=by
 obtain ⟨i,hi,hz0,hz1,hz2⟩:=info_parts info41
 obtain ⟨ao,c,rfl,hn,hc⟩:=hx
 have hfl:=flat_length us
 have hft:=flat_length ts
 have h63:ts.length+us.length≤maxLen:=by unfold maxLen;omega
 cases ao with
 |none=>
  obtain rfl:=hn rfl
  refine ⟨v,w, ?_,by simpa using h,World.grownBy.refl _ _,.inl rfl⟩
  rcases h with ⟨rfl,rfl⟩|⟨g,cap,cur,rfl,hg,h1,h2,h3,h4⟩
  ·simp[Builtin.append_,run_underlying Tryz.underlying66,sizeOf,typeInfo,hi,Builtin.lenOf,Builtin.firstCells]
  simp[Builtin.append_,run_underlying Tryz.underlying66,sizeOf,typeInfo,hi,Builtin.lenOf,Builtin.firstCells,h1,storeCells]
 |some a=>
  have hnews:=hc a rfl
  have grown: ∀(old:Nat),old<ts.length+us.length→ ∀(row:Option Nat),
   Thg (w.drew.alloc (.cells ((flat ts).toArray++(flat us).toArray++Builtin.zeroCells (Value.agg #[.string ⟨#[]⟩,.bool false,.string ⟨#[]⟩]).cells (grownCap w (ts.length+us.length) old 71- (ts.length+us.length))) 71))
    (.slice (some ⟨w.heap.size,0,none⟩) (ts.length+us.length) (grownCap w (ts.length+us.length) old 71)) (ts++us)∧
   w.grownBy (w.drew.alloc (.cells ((flat ts).toArray++(flat us).toArray++Builtin.zeroCells (Value.agg #[.string ⟨#[]⟩,.bool false,.string ⟨#[]⟩]).cells (grownCap w (ts.length+us.length) old 71- (ts.length+us.length))) 71)) row:=by
   intro old ho row
   have hge:=grownCap_ge w (ts.length+us.length) old 71
   have hcm:grownCap w (ts.length+us.length) old 71≤maxLen:=grownCap_le_maxLen w (ts.length+us.length) old 71 h63
   refine ⟨.inr ⟨w.heap.size,_,_,by simp,Go.heap_alloc_new w.drew _,by simpa using hge,hcm, ?_, ?_⟩,⟨rfl,rfl,rfl,by simp,fun k hk _=>Below.heap_alloc w.drew _ k hk⟩⟩
   ·simp only[Array.size_append,List.size_toArray,size_zeroCells,hfl,hft]
    simp only[Value.cells,List.size_toArray,List.length_cons,List.length_nil]
    omega
   simp only[Array.toList_append,List.append_assoc,flat_append]
   rw[←List.append_assoc]
   have:(ts++us).length*3=(flat ts++flat us).length:=by simp[hfl,hft];omega
   rw[this]
   exact List.take_left
  rcases h with ⟨rfl,rfl⟩|⟨g,cap,cur,rfl,hg,h1,h2,h3,h4⟩
  ·by_cases hm:us=[]
   ·subst hm
    refine ⟨.slice none 0 0,w, ?_,Thg.nil w,⟨rfl,rfl,rfl,Nat.le_refl _,fun _ _ _=>rfl⟩,.inl rfl⟩
    simp[Builtin.append_,run_underlying Tryz.underlying66,sizeOf,typeInfo,hi,Builtin.lenOf,Builtin.firstCells,loadCells,loadCellsFrom]
   have hpos:0<us.length:=List.length_pos_iff.2 hm
   have hr:=run_append_nil (P:=Tryz.prog) w 66 ty 71 i _ Tryz.underlying66 hi hz0 a us.length c (flat us) (by rw[hfl,hz1]) hnews hpos (by simp at hb;omega) (by rw[hz2];simp at hb;omega)
   have hgr:=grown 0 (by simp;omega) (Value.ownBlock (.slice none 0 0))
   simp only[flat,List.length_nil,Nat.zero_add,List.nil_append,Array.empty_append] at hgr ⊢
   exact ⟨_,_,hr,hgr.1,hgr.2,.inr (fun k hk=>by simp[Value.ownBlock] at hk;omega)⟩
  by_cases hroom:ts.length+us.length≤cap
  ·have hfit:ts.length*i.size+(flat us).length≤cur.size:=by rw[hfl,hz1];omega
   have hr:=run_append_room (P:=Tryz.prog) w 66 ty 71 i Tryz.underlying66 hi g ts.length cap cur hg a us.length c (flat us) (by rw[hfl,hz1]) hnews (flat_one us) hroom hfit
   refine ⟨_,_,hr,.inr ⟨g,cap,_,by simp,setRow_heap w g cur _ 71 _ hg,by simpa using hroom,h2, ?_, ?_⟩,⟨rfl,rfl,rfl,by simp,fun k _ hk=>setRow_other w g k _ (fun e=>hk (by simp[Value.ownBlock,e]))⟩,.inl rfl⟩
   ·simp only[List.size_toArray,List.length_append,List.length_take,List.length_drop,Array.length_toList]
    omega
   rw[hz1,h4,flat_append]
   have:(ts++us).length*3=(flat ts++flat us).length:=by simp[hfl,hft];omega
   rw[this]
   exact List.take_left
  have holds: ∀j u,(flat ts)[j]? =some u→w.cell? ((⟨g,0,none⟩:Addr).add j)=some u:=by
   intro j u hu
   have hj:j<(flat ts).length:=(List.getElem?_eq_some_iff.1 hu).1
   rw[Addr.add_lit,Nat.zero_add,cell_of_row w g j cur 71 (0,0) hg]
   rw[←h4,List.getElem?_take,if_pos (by omega)] at hu
   simpa using hu
  have hr:=run_append_grow (P:=Tryz.prog) w 66 ty 71 i _ Tryz.underlying66 hi hz0 ⟨g,0,none⟩ ts.length cap (flat ts) (by rw[hft,hz1]) holds a us.length c (flat us) (by rw[hfl,hz1]) hnews (by omega) (by omega) (growslice_fits (by omega) (by rw[hz2];exact hb))
  have hgr:=grown cap (by omega) (Value.ownBlock (.slice (some ⟨g,0,none⟩) ts.length cap))
  exact ⟨_,_,hr,hgr.1,hgr.2,.inr (fun k hk=>by simp[Value.ownBlock] at hk;omega)⟩
end Go.Proofs.YtfbgamknfommpaaGreatDoor.dk
namespace Go.Proofs.YtfbgamknfommpaaGreatDoor.dk
open Go.RowKit
theorem wpList_append_thg{w:World}{ops:Array Oper}{rest:List Oper}{o:Oper}{a:Act}{Q:Exit→Act→World→Prop}(hgd:o.guard=none)(s x:Operand)
 (ho:o.op=.call {callee:=.builtin .append,args:= #[s,x],argTypes:= #[66,66]})
 (v xv:Value)(ts us:List Th)(hs:a.eval s=v)(hx:a.eval x=xv)(h:Thg w v ts)(hsh:Shows w xv us)(hb:(ts.length+us.length)*40≤140737488355328)
 (hK: ∀v' w',Thg w' v' (ts++us)→w.grownBy w' v.ownBlock→(v'.ownBlock=v.ownBlock∨ ∀k,v'.ownBlock=some k→w.heap.size≤k)→wpList Tryz.prog ops Q rest (a.put o.dst v') w'):
 wpList Tryz.prog ops Q (o::rest) a w:=by
 refine wpList_plain hgd fun K hK' => ?_
 obtain ⟨v',w',hrun,h1,h2,h3⟩:=run_append_thg h hsh o.type hb
 unfold Oper.wp
 simp[execOp,ho,resolve,invoke,builtin,hs,hx,hrun,Result.andThen]
 exact hK' _ _ (hK v' w' h1 h2 h3)
theorem step_append_thg{w:World}{ops:Array Oper}{o:Oper}{a:Act}{K:Act→World→Prop}{Q:Exit→Act→World→Prop}{E:Prop}(hgd:o.guard=none)(s x:Operand)
 (ho:o.op=.call {callee:=.builtin .append,args:= #[s,x],argTypes:= #[66,66]})
 (v xv:Value)(ts us:List Th)(hs:a.eval s=v)(hx:a.eval x=xv)(h:Thg w v ts)(hsh:Shows w xv us)(hb:(ts.length+us.length)*40≤140737488355328)
 (hK: ∀v' w',Thg w' v' (ts++us)→w.grownBy w' v.ownBlock→(v'.ownBlock=v.ownBlock∨ ∀k,v'.ownBlock=some k→w.heap.size≤k)→K (a.put o.dst v') w'):
 if Region.wanted o (yielded ops a.tmps)=true then Oper.wp Tryz.prog o a w K Q else E:=by
 have hw:Region.wanted o (yielded ops a.tmps)=true:=by simp[Region.wanted,hgd]
 rw[if_pos hw]
 obtain ⟨v',w',hrun,h1,h2,h3⟩:=run_append_thg h hsh o.type hb
 unfold Oper.wp
 simp[execOp,ho,resolve,invoke,builtin,hs,hx,hrun,Result.andThen]
 exact hK v' w' h1 h2 h3
theorem flat_drop(ts:List Th)(k:Nat):flat (ts.drop k)=(flat ts).drop (k*3):=by
 induction k generalizing ts with
 |zero=>simp
 |succ k ih=>
  cases ts with
  |nil=>simp[flat]
  |cons t r=>rw[show (k+1)*3=k*3+1+1+1 by omega];simp[flat,ih]
theorem flat_take(ts:List Th)(k:Nat):flat (ts.take k)=(flat ts).take (k*3):=by
 induction k generalizing ts with
 |zero=>simp[flat]
 |succ k ih=>
  cases ts with
  |nil=>simp[flat]
  |cons t r=>rw[show (k+1)*3=k*3+1+1+1 by omega];simp[flat,ih]
theorem flat_set(us:List Th)(k:Nat)(t:Th):(((flat us).set (k*3) (.string t.p)).set (k*3+1) (.bool t.f)).set (k*3+2) (.string t.d)=flat (us.set k t):=by
 induction k generalizing us with
 |zero=>cases us<;>simp[flat]
 |succ k ih=>
  cases us with
  |nil=>simp[flat]
  |cons x r=>rw[show (k+1)*3=k*3+1+1+1 by omega];simpa [flat] using ih r
theorem take_snoc_nth(us:List Th)(k:Nat)(h:k<us.length):us.take (k+1)=us.take k++[nth us k]:=by
 rw[List.take_succ_eq_append_getElem h]
 simp[nth,h]
theorem run_copy_shift{w:World}{g cap:Nat}{cur:Array Value}{ts:List Th}{k:Nat}(hk:k≤ts.length)(hg:w.heap[g]? =some (.cells cur 71 (0,0)))(hc:ts.length+1≤cap)(hsz:cap*3≤cur.size)
 (hrow:cur.toList.take ((ts.length+1)*3)=flat (ts++[noTh]))(dp:Option Addr)(dc sc:Nat)(ty:TypeId)(hdp:k<ts.length→dp=some ⟨g,(k+1)*3,none⟩):
 ∃w' cur',(Builtin.copy_ #[66,66] ty #[.slice dp (ts.length- k) dc,.slice (some ⟨g,k*3,none⟩) (ts.length+1- k) sc]).run Tryz.prog w=.ok (goInt ((ts.length- k:Nat):Int)) w' ∧
  w'.heap[g]? =some (.cells cur' 71 (0,0))∧cap*3≤cur'.size∧cur'.toList.take ((ts.length+1)*3)=flat (ts.take k++nth (ts++[noTh]) k::ts.drop k)∧Only (fun i=>i=g) w w' :=by
 obtain ⟨i,hi,hz0,hz1,hz2⟩:=info_parts info41
 have hmin:Nat.min (ts.length+1- k) (ts.length- k)=ts.length- k:=Nat.min_eq_right (by omega)
 have hfl:=flat_length ts
 by_cases hkn:k=ts.length
 ·subst hkn
  refine ⟨w,cur, ?_,hg,hsz, ?_,Only.refl _ _⟩
  ·have:ts.length- ts.length=0:=by omega
   have h2:ts.length+1- ts.length=1:=by omega
   simp only[this,h2]
   cases dp with
   |none=>simp[Builtin.copy_,run_underlying Tryz.underlying66,Builtin.lenOf,Builtin.firstCells,sizeOf,typeInfo,hi,loadCells,loadCellsFrom]
   |some a=>simp[Builtin.copy_,run_underlying Tryz.underlying66,Builtin.lenOf,Builtin.firstCells,sizeOf,typeInfo,hi,loadCells,loadCellsFrom,storeCells]
  rw[hrow];simp[nth]
 obtain rfl:=hdp (by omega)
 have hcs:(flat (ts.drop k)).length=(ts.length- k)*3:=by rw[flat_length];simp
 have hsrc: ∀j u,(flat (ts.drop k))[j]? =some u→w.cell? ((⟨g,k*3,none⟩:Addr).add j)=some u:=by
  intro j u hu
  have hj:j<(flat (ts.drop k)).length:=(List.getElem?_eq_some_iff.1 hu).1
  rw[Addr.add_lit,cell_of_row w g _ cur 71 (0,0) hg]
  rw[flat_drop,List.getElem?_drop] at hu
  have h2:(cur.toList.take ((ts.length+1)*3))[k*3+j]? =some u:=by
   rw[hrow,flat_append,List.getElem?_append_left (by omega)];exact hu
  rw[List.getElem?_take,if_pos (by omega)] at h2
  simpa using h2
 have hl:=run_loadCells_list (P:=Tryz.prog) w ⟨g,k*3,none⟩ (flat (ts.drop k)) hsrc
 have hst:=run_storeCells_at Tryz.prog g ((k+1)*3) 71 (flat (ts.drop k)) 0 cur w hg (by omega) (flat_one _)
 rw[hcs] at hl
 refine ⟨_,(cur.toList.take ((k+1)*3+0)++flat (ts.drop k)++cur.toList.drop ((k+1)*3+0+(flat (ts.drop k)).length)).toArray, ?_,setRow_heap w g cur _ 71 _ hg, ?_, ?_, ?_⟩
 rotate_left
 ·simp only[List.size_toArray,List.length_append,List.length_take,List.length_drop,Array.length_toList];omega
 ·simp only[Nat.add_zero]
  have e1:(cur.toList.take ((k+1)*3)++flat (ts.drop k)).length=(ts.length+1)*3:=by
   simp only[List.length_append,List.length_take,Array.length_toList,hcs];omega
  rw[←e1,List.take_left]
  have e2:cur.toList.take ((k+1)*3)=flat (ts.take k++[nth (ts++[noTh]) k]):=by
   have e3:(ts++[noTh]).take k=ts.take k:=by rw[List.take_append_of_le_length (by omega)]
   rw[←e3,←take_snoc_nth (ts++[noTh]) k (by simp;omega),flat_take,←hrow,List.take_take]
   congr 1;omega
  rw[e2,←flat_append];simp
 ·exact ⟨rfl,rfl,rfl,by simp[World.setRow],fun j _ hj=>setRow_other w g j _ hj⟩
 simp[Builtin.copy_,run_underlying Tryz.underlying66,Builtin.lenOf,Builtin.firstCells,sizeOf,typeInfo,hi,hz1,hl,hmin]
 simp at hst
 simp[hst]
theorem step_copy_shift{w:World}{ops:Array Oper}{o:Oper}{a:Act}{K:Act→World→Prop}{Q:Exit→Act→World→Prop}{E:Prop}(hgd:o.guard=none)(d s:Operand)
 (ho:o.op=.call {callee:=.builtin .copy,args:= #[d,s],argTypes:= #[66,66]})
 {g cap:Nat}{cur:Array Value}{ts:List Th}{k:Nat}(hk:k≤ts.length)(hg:w.heap[g]? =some (.cells cur 71 (0,0)))(hc:ts.length+1≤cap)(hsz:cap*3≤cur.size)
 (hrow:cur.toList.take ((ts.length+1)*3)=flat (ts++[noTh]))(dp:Option Addr)(dc sc dn sn:Nat)(hdn:dn=ts.length- k)(hsn:sn=ts.length+1- k)(hdp:k<ts.length→dp=some ⟨g,(k+1)*3,none⟩)
 (hd:a.eval d=.slice dp dn dc)(hs:a.eval s=.slice (some ⟨g,k*3,none⟩) sn sc)
 (hK: ∀w' cur',w'.heap[g]? =some (.cells cur' 71 (0,0))→cap*3≤cur'.size→cur'.toList.take ((ts.length+1)*3)=flat (ts.take k++nth (ts++[noTh]) k::ts.drop k)→Only (fun i=>i=g) w w' →K (a.put o.dst (goInt ((ts.length- k:Nat):Int))) w'):
 if Region.wanted o (yielded ops a.tmps)=true then Oper.wp Tryz.prog o a w K Q else E:=by
 have hw:Region.wanted o (yielded ops a.tmps)=true:=by simp[Region.wanted,hgd]
 rw[if_pos hw]
 subst hdn hsn
 obtain ⟨w',cur',hrun,h1,h2,h3,h4⟩:=run_copy_shift hk hg hc hsz hrow dp dc sc o.type hdp
 unfold Oper.wp
 simp only[execOp,ho,resolve,invoke,builtin,Sem.run_bind,Sem.run_pure,Result.andThen_ok,List.map_toArray,List.map_cons,List.map_nil,hd,hs,hrun]
 exact hK w' cur' h1 h2 h3 h4
end Go.Proofs.YtfbgamknfommpaaGreatDoor.dk
