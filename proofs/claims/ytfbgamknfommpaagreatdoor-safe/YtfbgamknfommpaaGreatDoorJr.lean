import Derived.Test.YtfbgamknfommpaaGreatDoorXe
import Derived.Test.YtfbgamknfommpaaGreatDoorJe
import Derived.Sort.Walk0
import Derived.Laws.Cover1
import Derived.Test.YtfbgamknfommpaaGreatDoorSo
import Derived.Test.YtfbgamknfommpaaGreatDoorJk
set_option maxRecDepth 100000
set_option maxHeartbeats 400000
namespace Go.Proofs.YtfbgamknfommpaaGreatDoor
open Go.RowKit Go.Maps
def cmpS(a b:ByteArray):Int:=if a.data.toList<b.data.toList then -1 else if b.data.toList<a.data.toList then 1 else 0
theorem nanA(a:ByteArray)(w:World):Calls Tryz.prog 92 #[.string a] w fun r w' =>r=.returned (.bool false)∧w' =w:=by
 go_in
 go_wp2_with fail
 go_ret
 exact ⟨rfl,rfl⟩
theorem lessL(a b:ByteArray):Op.bytesLess a.toList b.toList=decide (a.data.toList<b.data.toList):=by rw[Lib.toList_data,Lib.toList_data,bytesLess_eq]
theorem less_total{a b:ByteArray}(h1:¬a.data.toList<b.data.toList)(h2:¬b.data.toList<a.data.toList):a=b:=
 ByteArray.ext (Array.toList_inj.1 (List.le_antisymm (List.not_lt.1 h2) (List.not_lt.1 h1)))
theorem compareA(a b:ByteArray)(w:World):Calls Tryz.prog 52 #[.string a,.string b] w fun r w' =>r=.returned (.int .i64 (cmpS a b))∧w' =w:=by
 have l1:=lessL a b
 have l2:=eqS a b
 by_cases h1:a.data.toList<b.data.toList
 ·have hans:cmpS a b= -1:=if_pos h1
  rw[hans]
  rw[decide_eq_true h1] at l1
  clear hans l2 h1
  go_in
  go_wp2_with fail
  refine (nanA a w).mono ?_
  rintro e w1 ⟨rfl,rfl⟩
  go_wp2_with fail
  refine (nanA b w1).mono ?_
  rintro e w2 ⟨rfl,rfl⟩
  go_wp2_with fail
  go_ret
  exact ⟨rfl,rfl⟩
 rw[decide_eq_false h1] at l1
 by_cases h2:b.data.toList<a.data.toList
 ·have hans:cmpS a b=1:=by rw[cmpS,if_neg h1,if_pos h2]
  rw[hans]
  rw[decide_eq_false (fun e=>by subst e;exact h1 h2)] at l2
  clear hans h1 h2
  go_in
  go_wp2_with fail
  refine (nanA a w).mono ?_
  rintro e w1 ⟨rfl,rfl⟩
  go_wp2_with fail
  refine (nanA b w1).mono ?_
  rintro e w2 ⟨rfl,rfl⟩
  go_wp2_with fail
  go_ret
  exact ⟨rfl,rfl⟩
 have hans:cmpS a b=0:=by rw[cmpS,if_neg h1,if_neg h2]
 rw[hans]
 rw[decide_eq_true (less_total h1 h2)] at l2
 clear hans h1 h2
 go_in
 go_wp2_with fail
 refine (nanA a w).mono ?_
 rintro e w1 ⟨rfl,rfl⟩
 go_wp2_with fail
 refine (nanA b w1).mono ?_
 rintro e w2 ⟨rfl,rfl⟩
 go_wp2_with fail
 go_ret
 exact ⟨rfl,rfl⟩
theorem closureA(x y:Fl)(w:World):Calls Tryz.prog 51 #[.agg #[.string x.1,.string x.2],.agg #[.string y.1,.string y.2]] w fun r w' =>r=.returned (.int .i64 (cmpS x.1 y.1))∧w' =(w.alloc (.cells #[.string x.1,.string x.2] 56)).alloc (.cells #[.string y.1,.string y.2] 56):=by
 obtain ⟨x1,x2⟩:=x
 obtain ⟨y1,y2⟩:=y
 simp only
 have hb1:=Go.heap_alloc_new w (.cells #[.string x1,.string x2] 56)
 have hb2:=Go.heap_alloc_new (w.alloc (.cells #[.string x1,.string x2] 56)) (.cells #[.string y1,.string y2] 56)
 have hA:Old (w.alloc (.cells #[.string x1,.string x2] 56)) ((w.alloc (.cells #[.string x1,.string x2] 56)).alloc (.cells #[.string y1,.string y2] 56)):=(Only.refl _ _).alloc _
 have hc1:((w.alloc (.cells #[.string x1,.string x2] 56)).alloc (.cells #[.string y1,.string y2] 56)).cell? ⟨w.heap.size,0,none⟩=some (.string x1):=by
  rw[hA.cell (p:=⟨w.heap.size,0,none⟩) (by rw[World.size_alloc];exact Nat.lt_succ_self _) (fun x=>x),cell_of_row _ _ 0 _ _ (0,0) hb1];rfl
 have hc2:((w.alloc (.cells #[.string x1,.string x2] 56)).alloc (.cells #[.string y1,.string y2] 56)).cell? ⟨w.heap.size+1,0,none⟩=some (.string y1):=by
  rw[World.size_alloc] at hb2
  rw[cell_of_row _ _ 0 _ _ (0,0) hb2];rfl
 have H:=hide (fun W=>compareA x1 y1 W)
 clear hb1 hb2 hA
 go_in
 go_wp2_with fail
 refine (uh H _).mono ?_
 rintro e w1 ⟨rfl,rfl⟩
 clear hc1 hc2
 go_wp2_with fail
 go_ret
 exact ⟨rfl,rfl⟩
open Go.RowKit Go.Maps Go.Sort Go.Lib
abbrev encF(x:Fl):List Value:=[.string x.1,.string x.2]
def cfF(x y:Fl):Int:=cmpS x.1 y.1
theorem ltF(x y:Fl):ltOf cfF x y=decide (x.1.data.toList<y.1.data.toList):=by
 unfold ltOf cfF cmpS
 by_cases h1:x.1.data.toList<y.1.data.toList
 ·rw[if_pos h1,decide_eq_true h1];rfl
 rw[if_neg h1,decide_eq_false h1]
 by_cases h2:y.1.data.toList<x.1.data.toList
 ·rw[if_pos h2];rfl
 rw[if_neg h2];rfl
theorem swoF:SWO (ltOf cfF) where
 irrefl x:=by rw[ltF];exact decide_eq_false (List.lt_irrefl _)
 trans x y z h1 h2:=by
  rw[ltF] at*
  exact decide_eq_true (List.lt_trans (of_decide_eq_true h1) (of_decide_eq_true h2))
 ntrans x y z h1 h2:=by
  rw[ltF] at*
  exact decide_eq_false (List.not_lt.2 (List.le_trans (List.not_lt.1 (of_decide_eq_false h2)) (List.not_lt.1 (of_decide_eq_false h1))))
theorem cmpLaysF(blk off size:Nat)(w:World):CmpLays Tryz.prog 51 #[] encF 2 cfF blk off size w:=by
 intro m os dk _ x y
 refine (closureA x y _).mono ?_
 rintro e w' ⟨rfl,rfl⟩
 refine ⟨rfl,0,#[.cells #[.string x.1,.string x.2] 56,.cells #[.string y.1,.string y.2] 56], ?_⟩
 rw[alloc_eq_grow,alloc_eq_grow,grow_grow]
 rfl
theorem flat_cells(fs:List Fl):(flatK encF 2 fs.toArray).toList=flCells fs:=by
 apply List.ext_getElem?
 intro t
 by_cases ht:t<fs.length*2
 ·have h1:(flatK encF 2 fs.toArray).toList[t]? =some ((encF (fs.toArray)[t/2]!)[t%2]!):=by
   rw[←get_flatK encF 2 fs.toArray t (by simpa using ht),Array.getElem?_toList]
   have hs:t<(flatK encF 2 fs.toArray).size:=by simpa using ht
   rw[Array.getElem?_eq_getElem hs,getElem!_pos _ t hs]
  rw[h1]
  have hq:t/2<fs.length:=by omega
  obtain ⟨ha,hb⟩:=flCells_get fs (t/2) hq
  have he:fs.toArray[t/2]! =fs.getD (t/2) default:=by simp[List.getD_eq_getElem?_getD,hq]
  rw[he]
  rcases Nat.mod_two_eq_zero_or_one t with h|h
  ·rw[show t/2*2=t by omega] at ha
   rw[ha,h];rfl
  rw[show t/2*2+1=t by omega] at hb
  rw[hb,h];rfl
 rw[List.getElem?_eq_none (by simp;omega),List.getElem?_eq_none (by rw[flCells_len];omega)]
theorem put_heap{w:World}{g:Nat}{cur:Array Value}{e:TypeId}(hg:w.heap[g]? =some (.cells cur e (0,0)))(F:Array Value)(m:Nat)(os:Array Obj):
 (grow (putRow id (Sort.ahead w m) g 0 F) os).heap[g]? =some (.cells (putCells id 0 F cur) e (0,0)):=by
 have hl:=(Array.getElem?_eq_some_iff.1 hg).1
 show ((w.heap.modify g (onCells (putCells id 0 F)))++os)[g]? =_
 rw[Array.getElem?_append_left (by rw[Array.size_modify];exact hl),Array.getElem?_modify,if_pos rfl,hg]
 rfl
theorem put_only(w:World)(g:Nat)(F:Array Value)(m:Nat)(os:Array Obj):Only (fun k=>k=g) w (grow (putRow id (Sort.ahead w m) g 0 F) os):=by
 refine ⟨rfl,rfl,rfl, ?_,fun k hk hne=> ?_⟩
 ·show w.heap.size≤((w.heap.modify g (onCells (putCells id 0 F)))++os).size
  rw[Array.size_append,Array.size_modify];omega
 show ((w.heap.modify g (onCells (putCells id 0 F)))++os)[k]? =_
 rw[Array.getElem?_append_left (by rw[Array.size_modify];exact hk),Array.getElem?_modify,if_neg (fun e=>hne e.symm)]
theorem put_take(F cur:Array Value)(h:F.size≤cur.size):(putCells id 0 F cur).toList.take F.size=F.toList:=by
 apply List.ext_getElem?
 intro t
 rw[List.getElem?_take]
 by_cases ht:t<F.size
 ·rw[if_pos ht,Array.getElem?_toList,Array.getElem?_toList]
  unfold putCells
  rw[Array.getElem?_mapIdx,Array.getElem?_eq_getElem (show t<cur.size by omega),Array.getElem?_eq_getElem ht]
  simp only[Option.map_some]
  rw[if_pos (by omega),getElem!_pos F (t- 0) (by omega)]
  rfl
 rw[if_neg ht,List.getElem?_eq_none (by rw[Array.length_toList];omega)]
theorem sortA(v:Value)(fs:List Fl)(hn:fs.length≤1000)(hd:fs.Pairwise (fun a b=>a.1≠b.1))(w:World)(h:FilesAt w v fs):Calls Tryz.prog 50 #[v,cmpF] w fun r w' =>r=.returned (.tuple #[])∧ ∃fs' :List Fl,fs'.Perm fs∧fs'.Pairwise (fun a b=>a.1.data.toList<b.1.data.toList)∧FilesAt w' v fs' ∧Only (fun k=>v.ownBlock=some k) w w' :=by
 have h0:=h
 obtain ⟨hl,⟨rfl,hz⟩|⟨g,cap,cur,rfl,hb,hg,hc1,hc2,hc3,hc4⟩⟩:=h
 ·refine (AnyF.slices_SortFunc_none Tryz.sortF none 0 cmpF w).mono ?_
  rintro e w' ⟨rfl,rfl⟩
  have:fs=[]:=List.eq_nil_of_length_eq_zero hz
  subst this
  exact ⟨rfl,[],List.Perm.refl _,List.Pairwise.nil,h0,Only.refl _ _⟩
 have hgl:=(Array.getElem?_eq_some_iff.1 hg).1
 have hH:HoldsK encF 2 w g 0 fs.toArray:=by
  intro j hj
  rw[size_flatK] at hj
  have hj2:j<fs.length*2:=by simpa using hj
  refine ⟨?_,frozen_of_row w g (0+j) _ _ hg⟩
  rw[Nat.zero_add,cell_of_row w g j cur _ (0,0) hg]
  have e1:cur.toList[j]? =(flCells fs)[j]? :=by rw[←hc4,List.getElem?_take,if_pos hj2]
  rw[Array.getElem?_toList,←flat_cells,Array.getElem?_toList] at e1
  have hs:j<(flatK encF 2 fs.toArray).size:=by rw[size_flatK];exact hj
  rw[e1,Array.getElem?_eq_getElem hs,getElem!_pos _ j hs]
  rfl
 have eg: ∀args w,(callFunc 51 args).run Tryz.prog w=.ok (.enter 51 args) w:=enters_of Tryz.func51 (by kernel_rfl) rfl
 have hcon:=AnyQ.slices_SortFunc Tryz.sortF 2 Tryz.isAgg56 Tryz.sizeOf56 encF (fun _=>rfl) (fun x u hu=>by simp[encF] at hu;rcases hu with rfl|rfl<;>rfl) cfF swoF 51 #[] g 0 cap fs.toArray w eg (cmpLaysF g 0 _ w) hH hgl (by simp;omega)
 have hcon2:Calls Tryz.prog 50 #[.slice (some ⟨g,0,none⟩) fs.length cap,cmpF] w _:=hcon
 refine hcon2.mono ?_
 rintro e w' ⟨rfl,d',m,os,⟨hp1,_,hp3⟩,hs,rfl⟩
 have hsz:d'.size=fs.length:=by simpa using hp1
 have hperm:d'.toList.Perm fs:=by
  have h1:(d'.extract 0 fs.toArray.size)=d' :=by rw[Array.extract_eq_self_of_le (by simp[hsz])]
  have h2:(fs.toArray.extract 0 fs.toArray.size)=fs.toArray:=by rw[Array.extract_eq_self_of_le (Nat.le_refl _)]
  rw[h1,h2] at hp3
  simpa using hp3
 refine ⟨rfl,d'.toList,hperm, ?_, ?_,(put_only w g _ m os).mono (fun k _ e=>by subst e;rfl)⟩
 ·have hdist:d'.toList.Pairwise (fun a b=>a.1≠b.1):=(hperm.pairwise_iff (fun {a b} x=>x.symm)).2 hd
  rw[List.pairwise_iff_getElem] at hdist ⊢
  intro i j hi hj hij
  have hne:=hdist i j hi hj hij
  have hi' :i<d'.size:=by simpa using hi
  have hj' :j<d'.size:=by simpa using hj
  have h3:=hs i j (Nat.zero_le _) hij (by simpa [hsz] using hj')
  rw[getElem!_pos d' j hj',getElem!_pos d' i hi',ltF] at h3
  have h4:=of_decide_eq_false h3
  simp only[Array.getElem_toList] at hne ⊢
  rcases Classical.em ((d'[i]).1.data.toList<(d'[j]).1.data.toList) with h|h
  ·exact h
  exact absurd (less_total h h4) hne
 have hfc:(flatK encF 2 d').toList=flCells d'.toList:=by have:=flat_cells d'.toList;simpa using this
 have hF:(flatK encF 2 d').size=fs.length*2:=by rw[size_flatK,hsz]
 have hdl:d'.toList.length=fs.length:=by rw[Array.length_toList,hsz]
 refine ⟨by rw[flCells_len],.inr ⟨g,cap,_,by show Value.slice _ fs.length cap=_;rw[hdl],hb,put_heap hg _ m os,by rw[Array.length_toList,hsz];exact hc1,hc2, ?_, ?_⟩⟩
 ·unfold putCells;rw[Array.size_mapIdx];exact hc3
 rw[Array.length_toList,hsz,←hF,put_take _ _ (by rw[hF,hc3];exact Nat.mul_le_mul_right 2 hc1),hfc]
abbrev Lf:=ByteArray×Nat
def lfCells(l:List Lf):List Value:=l.flatMap fun f=>[.string f.1,.int .i64 (f.2:Int)]
theorem lfCells_app(a b:List Lf):lfCells (a++b)=lfCells a++lfCells b:=by simp[lfCells]
def LeftsAt(w:World)(v:Value)(l:List Lf):Prop:=w.ownsRow 0 90 2 v l.length (lfCells l)
theorem LeftsAt.kept{S:Nat→Prop}{w w' :World}{v:Value}{l:List Lf}(h:LeftsAt w v l)(ho:Only S w w')(hs: ∀b,v.ownBlock=some b→¬S b):LeftsAt w' v l:=ownk_kept h ho hs
theorem lfCells_get(l:List Lf)(j:Nat)(hj:j<l.length):(lfCells l)[j*2]? =some (.string (l.getD j default).1)∧(lfCells l)[j*2+1]? =some (.int .i64 ((l.getD j default).2:Int)):=by
 induction l generalizing j with
 |nil=>simp at hj
 |cons a r ih=>
  rw[lfCells,List.flatMap_cons,←lfCells]
  cases j with
  |zero=>simp
  |succ j=>
   have h:=ih j (by simpa using hj)
   rw[show (j+1)*2=j*2+2 by omega]
   simpa using h
theorem LeftsAt.slice{w:World}{v:Value}{l:List Lf}(h:LeftsAt w v l)(hn:0<l.length): ∃g cap,v=.slice (some ⟨g,0,none⟩) l.length cap∧g<w.heap.size∧ ∀j,j<l.length→w.cell? ⟨g,j*2,none⟩=some (.string (l.getD j default).1)∧w.cell? ⟨g,j*2+1,none⟩=some (.int .i64 ((l.getD j default).2:Int)):=by
 obtain ⟨hl,⟨rfl,hz⟩|⟨g,cap,cur,rfl,h1,hg,hr⟩⟩:=h
 ·omega
 refine ⟨g,cap,rfl,(Array.getElem?_eq_some_iff.1 hg).1,fun j hj=> ?_⟩
 have hcl:=World.ownsRow.cells (w:=w) ⟨hl,.inr ⟨g,cap,cur,rfl,h1,hg,hr⟩⟩ (g:=g) rfl
 obtain ⟨ha,hb⟩:=lfCells_get l j hj
 have h1:=hcl (j*2) _ ha
 have h2:=hcl (j*2+1) _ hb
 rw[Addr.add_lit,Nat.zero_add] at h1 h2
 exact ⟨h1,h2⟩
structure CSt where
 fs:List Fl
 tb:Tab
 all:Nat
 lf:List Lf
def cstep(L:List ByteArray)(s:CSt)(e:Ent):CSt:=if whyP L e=0 then ⟨s.fs++[(e.nm,e.dt)],addP s.tb e.nm,s.all+e.dt.size,s.lf⟩ else ⟨s.fs,s.tb,s.all,s.lf++[(e.nm,whyP L e)]⟩
abbrev cst0:CSt:=⟨[],fun _=>none,0,[]⟩
def cgo(L:List ByteArray)(T:List Ent):CSt:=T.foldl (cstep L) cst0
def cfault(s:CSt)(e:Ent):Nat:=if clashP s.tb e.nm then 5 else if (decide (e.nm≠sGo)&&decide (lowP e.nm=sGo)) then 4 else if mostP e.nm<e.dt.size then 1 else if s.fs.length=60 then 6 else if 16000<s.all+e.dt.size then 1 else 0
theorem cgo_next(L:List ByteArray)(T:List Ent)(i:Nat)(h:i<T.length):cgo L (T.take (i+1))=cstep L (cgo L (T.take i)) (T.getD i ent0):=by
 rw[cgo,take_next T i h,List.foldl_append];rfl
theorem cfault_ok{s:CSt}{e:Ent}(h:cfault s e=0):clashP s.tb e.nm=false∧(decide (e.nm≠sGo)&&decide (lowP e.nm=sGo))=false∧e.dt.size≤mostP e.nm∧s.fs.length≠60∧s.all+e.dt.size≤16000:=by
 unfold cfault at h
 split at h
 ·cases h
 split at h
 ·cases h
 split at h
 ·cases h
 split at h
 ·cases h
 split at h
 ·cases h
 rename_i h1 h2 h3 h4 h5
 exact ⟨by simpa using h1,by simpa using h2,by omega,h4,by omega⟩
def COk(T:List Ent):Prop:= ∀i,i<T.length→whyP (nestL T) (T.getD i ent0)=0→cfault (cgo (nestL T) (T.take i)) (T.getD i ent0)=0
theorem infoL2:(Tryz.prog.info? 90).map (fun i=>(i.zero,i.size,i.bytes))=some (some (.agg #[.string ⟨#[]⟩,.int .i64 0]),2,24):=by kernel_rfl
theorem whyP_file{L:List ByteArray}{e:Ent}(h:whyP L e=0):fileP e.nm=true:=by
 unfold whyP at h
 split at h
 ·cases h
 split at h
 ·cases h
 split at h
 ·cases h
 split at h
 ·cases h
 split at h
 ·assumption
 cases h
theorem fileP_size{s:ByteArray}(h:fileP s=true):s.size≤80:=by
 unfold fileP at h
 rw[Bool.and_eq_true] at h
 exact of_decide_eq_true h.1
structure FSt (w0:World) (gc gm gn i:Nat) (L:List ByteArray) (s:CSt) (u:Value) (w:World):Prop where
 old:Old w0 w
 ch: ∃v,ChAt w gc gm (i*1001) v s.fs s.tb s.all∧ ∀b,v.ownBlock=some b→w0.heap.size≤b
 lf:LeftsAt w u s.lf
 lfb: ∀b,u.ownBlock=some b→w0.heap.size≤b
 fo: ∃n,FoAt w gn n L
 few:s.fs.length≤60∧s.lf.length≤i
 ne:gn≠gm
theorem FSt.after{w0 w w' :World}{gc gm gn i:Nat}{L:List ByteArray}{s:CSt}{u:Value}(h:FSt w0 gc gm gn i L s u w)(ho:Old w w'):FSt w0 gc gm gn i L s u w' :=by
 obtain ⟨h1,⟨v,h2,h3⟩,h4,h5,⟨n,h6⟩,h7,h8⟩:=h
 exact ⟨h1.trans ho,⟨v,h2.old ho,h3⟩,h4.kept ho (fun _ _ x=>x),h5,⟨n,h6.old ho⟩,h7,h8⟩
theorem FSt.leave{w0 w w' :World}{gc gm gn i:Nat}{L:List ByteArray}{s:CSt}{u:Value}{e:Ent}{g cap:Nat}(h:FSt w0 gc gm gn i L s u w)(hw:whyP L e≠0)
 (h3:w'.ownsRow 0 90 2 (.slice (some ⟨g,0,none⟩) (s.lf.length+1) cap) (s.lf.length+1) (lfCells s.lf++[.string e.nm,.int .i64 (whyP L e:Int)]))(ho:Only (fun k=>u.ownBlock=some k) w w')(hg:u.ownBlock=some g∨w0.heap.size≤g):
 FSt w0 gc gm gn (i+1) L (cstep L s e) (.slice (some ⟨g,0,none⟩) (s.lf.length+1) cap) w' :=by
 obtain ⟨h1,⟨v,h2,h2b⟩,h4,h5,⟨n,h6⟩,h7,h8⟩:=h
 have e1:cstep L s e=⟨s.fs,s.tb,s.all,s.lf++[(e.nm,whyP L e)]⟩:=if_neg hw
 have hne: ∀b,u.ownBlock=some b→b≠gc∧b≠gm∧b≠gn∧ ∀c,v.ownBlock=some c→c≠b:=by
  intro b hb
  obtain ⟨cur,hc⟩:=ownk_heap h4 hb
  obtain ⟨_,D1,⟨es1,cl1,hm1,_⟩,_⟩:=h6
  obtain ⟨hch,hfl,D2,⟨es2,cl2,hm2,_⟩,_⟩:=h2
  refine ⟨fun x=> ?_,fun x=> ?_,fun x=> ?_,fun c hc2 x=> ?_⟩
  ·rw[x,hch] at hc;injection hc with hc;injection hc with _ hc;exact absurd hc (by decide)
  ·rw[x,hm2] at hc;cases hc
  ·rw[x,hm1] at hc;cases hc
  obtain ⟨cur2,hc3⟩:=ownk_heap hfl hc2
  rw[x,hc] at hc3;injection hc3 with hc3;injection hc3 with _ hc3;exact absurd hc3 (by decide)
 rw[e1]
 refine ⟨h1.transNew ho (fun k hk x=>absurd (h5 k x) (by omega)),⟨v, ?_,h2b⟩, ?_,fun b hb=> ?_,⟨n,h6.kept ho (fun x=>(hne gn x).2.2.1 rfl)⟩,⟨h7.1, ?_⟩,h8⟩
 ·have:=h2.kept ho (fun x=>(hne gc x).1 rfl) (fun x=>(hne gm x).2.1 rfl) (fun b hb x=>(hne b x).2.2.2 b hb rfl)
  exact ⟨this.1,this.2.1,this.2.2.mono (by omega)⟩
 ·show w'.ownsRow 0 90 2 _ (s.lf++[(e.nm,whyP L e)]).length (lfCells (s.lf++[(e.nm,whyP L e)]))
  rw[lfCells_app,List.length_append];exact h3
 ·have:g=b:=Option.some.inj (show some g=some b from hb)
  subst this
  rcases hg with h|h
  ·exact h5 g h
  exact h
 show (s.lf++[(e.nm,whyP L e)]).length≤i+1
 rw[List.length_append];simp;omega
theorem FSt.take{w0 w w' :World}{gc gm gn i:Nat}{L:List ByteArray}{s:CSt}{u v v' :Value}{e:Ent}(h:FSt w0 gc gm gn i L s u w)(hw:whyP L e=0)(h60:s.fs.length<60)(hgc:w0.heap.size≤gc)(hgm:w0.heap.size≤gm)(hvb: ∀b,v.ownBlock=some b→w0.heap.size≤b)(hv:ChAt w gc gm (i*1001) v s.fs s.tb s.all)
 (h3:ChAt w' gc gm (i*1001+1001) v' (s.fs++[(e.nm,e.dt)]) (addP s.tb e.nm) (s.all+e.dt.size))(ho:Only (fun k=>k=gc∨k=gm∨v.ownBlock=some k) w w')(hg: ∀b,v'.ownBlock=some b→v.ownBlock=some b∨w.heap.size≤b):
 FSt w0 gc gm gn (i+1) L (cstep L s e) u w' :=by
 obtain ⟨h1,_,h4,h5,⟨n,h6⟩,h7,h8⟩:=h
 have e1:cstep L s e=⟨s.fs++[(e.nm,e.dt)],addP s.tb e.nm,s.all+e.dt.size,s.lf⟩:=if_pos hw
 rw[e1]
 have hgn:¬(gn=gc∨gn=gm∨v.ownBlock=some gn):=by
  obtain ⟨_,D1,⟨es1,cl1,hm1,_⟩,_⟩:=h6
  rintro (x|x|x)
  ·rw[x,hv.1] at hm1;cases hm1
  ·exact h8 x
  obtain ⟨cur2,hc3⟩:=ownk_heap hv.2.1 x
  rw[hm1] at hc3;cases hc3
 have hu: ∀b,u.ownBlock=some b→¬(b=gc∨b=gm∨v.ownBlock=some b):=by
  intro b hb
  obtain ⟨cur,hc⟩:=ownk_heap h4 hb
  obtain ⟨hch,hfl,D2,⟨es2,cl2,hm2,_⟩,_⟩:=hv
  rintro (x|x|x)
  ·rw[x,hch] at hc;injection hc with hc;injection hc with _ hc;exact absurd hc (by decide)
  ·rw[x,hm2] at hc;cases hc
  obtain ⟨cur2,hc3⟩:=ownk_heap hfl x
  rw[hc] at hc3;injection hc3 with hc3;injection hc3 with _ hc3;exact absurd hc3 (by decide)
 refine ⟨h1.transNew ho (fun k hk x=> ?_),⟨v', ?_,fun b hb=> ?_⟩,h4.kept ho hu,h5,⟨n,h6.kept ho hgn⟩,⟨?_,by show s.lf.length≤i+1;omega⟩,h8⟩
 ·rcases x with x|x|x
  ·omega
  ·omega
  have:=hvb k x;omega
 ·rw[Nat.succ_mul];exact h3
 ·rcases hg b hb with h|h
  ·exact hvb b h
  have:=h1.size;omega
 show (s.fs++[(e.nm,e.dt)]).length≤60
 rw[List.length_append];simp;omega
def takenL(L:List ByteArray)(T:List Ent):List Ent:=T.filter (fun e=>whyP L e==0)
def leftL(L:List ByteArray)(T:List Ent):List Ent:=T.filter (fun e=>whyP L e !=0)
theorem cgo_parts(L:List ByteArray)(T:List Ent): ∀s:CSt,(T.foldl (cstep L) s).fs=s.fs++(takenL L T).map (fun e=>(e.nm,e.dt))∧(T.foldl (cstep L) s).lf=s.lf++(leftL L T).map (fun e=>(e.nm,whyP L e))∧(T.foldl (cstep L) s).tb=(takenL L T).foldl (fun f e=>addP f e.nm) s.tb∧(T.foldl (cstep L) s).all=s.all+((takenL L T).map (fun e=>e.dt.size)).sum:=by
 induction T with
 |nil=>intro s;simp[takenL,leftL]
 |cons e r ih=>
  intro s
  rw[List.foldl_cons]
  obtain ⟨h1,h2,h3,h4⟩:=ih (cstep L s e)
  rw[h1,h2,h3,h4]
  unfold cstep takenL leftL
  by_cases h:whyP L e=0
  ·rw[if_pos h,List.filter_cons_of_pos (by simpa using h),List.filter_cons_of_neg (by simpa using h)]
   simp[Nat.add_assoc]
  rw[if_neg h,List.filter_cons_of_neg (by simpa using h),List.filter_cons_of_pos (by simpa using h)]
  simp
theorem cgo_fs(L:List ByteArray)(T:List Ent):(cgo L T).fs=(takenL L T).map (fun e=>(e.nm,e.dt)):=by rw[cgo,(cgo_parts L T cst0).1];rfl
theorem cgo_lf(L:List ByteArray)(T:List Ent):(cgo L T).lf=(leftL L T).map (fun e=>(e.nm,whyP L e)):=by rw[cgo,(cgo_parts L T cst0).2.1];rfl
theorem cgo_tb(L:List ByteArray)(T:List Ent):(cgo L T).tb=(takenL L T).foldl (fun f e=>addP f e.nm) (fun _=>none):=(cgo_parts L T cst0).2.2.1
theorem cgo_all(L:List ByteArray)(T:List Ent):(cgo L T).all=((takenL L T).map (fun e=>e.dt.size)).sum:=by rw[cgo,(cgo_parts L T cst0).2.2.2];exact Nat.zero_add _
theorem sumD_le(l:List Ent)(m:Nat)(h: ∀e∈l,e.dt.size≤m):(l.map (fun e=>e.dt.size)).sum≤l.length*m:=by
 induction l with
 |nil=>simp
 |cons a r ih=>
  have h1:=h a (List.mem_cons_self ..)
  have h2:=ih (fun e he=>h e (List.mem_cons_of_mem _ he))
  rw[List.map_cons,List.sum_cons,List.length_cons,Nat.succ_mul];omega
theorem sorted_eq{a b:List Fl}(hp:a.Perm b)(ha:a.Pairwise (fun x y=>x.1.data.toList<y.1.data.toList))(hb:b.Pairwise (fun x y=>x.1.data.toList<y.1.data.toList)):a=b:=
 hp.eq_of_pairwise (fun _ _ _ _ h1 h2=>absurd (List.lt_trans h1 h2) (List.lt_irrefl _)) ha hb
end Go.Proofs.YtfbgamknfommpaaGreatDoor
