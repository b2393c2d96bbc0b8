import Derived.Test.YtndfmgdhiallpaaGreatDoorXe
import Derived.Test.YtndfmgdhiallpaaGreatDoorJe
import Derived.Sort.Walk0
import Derived.Laws.Cover1
import Derived.Test.YtndfmgdhiallpaaGreatDoorSo
set_option maxRecDepth 100000
set_option maxHeartbeats 4000000
namespace Go.Proofs.YtndfmgdhiallpaaGreatDoor
open Go.RowKit Go.Maps
def cmpS(a b:ByteArray):Int:=if a.data.toList<b.data.toList then -1 else if b.data.toList<a.data.toList then 1 else 0
theorem nanA(a:ByteArray)(w:World):Calls Tryz.prog 160 #[.string a] w fun r w' =>r=.returned (.bool false)∧w' =w:=by
 go_in
 go_wp2_with fail
 go_ret
 exact ⟨rfl,rfl⟩
theorem lessL(a b:ByteArray):Op.bytesLess a.toList b.toList=decide (a.data.toList<b.data.toList):=by rw[Lib.toList_data,Lib.toList_data,bytesLess_eq]
theorem less_total{a b:ByteArray}(h1:¬a.data.toList<b.data.toList)(h2:¬b.data.toList<a.data.toList):a=b:=
 ByteArray.ext (Array.toList_inj.1 (List.le_antisymm (List.not_lt.1 h2) (List.not_lt.1 h1)))
theorem compareA(a b:ByteArray)(w:World):Calls Tryz.prog 84 #[.string a,.string b] w fun r w' =>r=.returned (.int .i64 (cmpS a b))∧w' =w:=by
 have l1:=lessL a b
 have l2:=eqS a b
 by_cases h1:a.data.toList<b.data.toList
 ·have hans:cmpS a b= -1:=if_pos h1
  rw[hans]
  rw[decide_eq_true h1] at l1
  clear hans l2 h1
  go_in
  go_wp2_with fail
  refine (nanA a w).mono ?_
  rintro e w1 ⟨rfl,rfl⟩
  go_wp2_with fail
  refine (nanA b w1).mono ?_
  rintro e w2 ⟨rfl,rfl⟩
  go_wp2_with fail
  go_ret
  exact ⟨rfl,rfl⟩
 rw[decide_eq_false h1] at l1
 by_cases h2:b.data.toList<a.data.toList
 ·have hans:cmpS a b=1:=by rw[cmpS,if_neg h1,if_pos h2]
  rw[hans]
  rw[decide_eq_false (fun e=>by subst e;exact h1 h2)] at l2
  clear hans h1 h2
  go_in
  go_wp2_with fail
  refine (nanA a w).mono ?_
  rintro e w1 ⟨rfl,rfl⟩
  go_wp2_with fail
  refine (nanA b w1).mono ?_
  rintro e w2 ⟨rfl,rfl⟩
  go_wp2_with fail
  go_ret
  exact ⟨rfl,rfl⟩
 have hans:cmpS a b=0:=by rw[cmpS,if_neg h1,if_neg h2]
 rw[hans]
 rw[decide_eq_true (less_total h1 h2)] at l2
 clear hans h1 h2
 go_in
 go_wp2_with fail
 refine (nanA a w).mono ?_
 rintro e w1 ⟨rfl,rfl⟩
 go_wp2_with fail
 refine (nanA b w1).mono ?_
 rintro e w2 ⟨rfl,rfl⟩
 go_wp2_with fail
 go_ret
 exact ⟨rfl,rfl⟩
theorem closureA(x y:Fl)(w:World):Calls Tryz.prog 83 #[.agg #[.string x.1,.string x.2],.agg #[.string y.1,.string y.2]] w fun r w' =>r=.returned (.int .i64 (cmpS x.1 y.1))∧w' =(w.alloc (.cells #[.string x.1,.string x.2] 50)).alloc (.cells #[.string y.1,.string y.2] 50):=by
 obtain ⟨x1,x2⟩:=x
 obtain ⟨y1,y2⟩:=y
 simp only
 have hb1:=Go.heap_alloc_new w (.cells #[.string x1,.string x2] 50)
 have hb2:=Go.heap_alloc_new (w.alloc (.cells #[.string x1,.string x2] 50)) (.cells #[.string y1,.string y2] 50)
 have hA:Old (w.alloc (.cells #[.string x1,.string x2] 50)) ((w.alloc (.cells #[.string x1,.string x2] 50)).alloc (.cells #[.string y1,.string y2] 50)):=(Only.refl _ _).alloc _
 have hc1:((w.alloc (.cells #[.string x1,.string x2] 50)).alloc (.cells #[.string y1,.string y2] 50)).cell? ⟨w.heap.size,0,none⟩=some (.string x1):=by
  rw[hA.cell (p:=⟨w.heap.size,0,none⟩) (by rw[World.size_alloc];exact Nat.lt_succ_self _) (fun x=>x),cell_of_row _ _ 0 _ _ (0,0) hb1];rfl
 have hc2:((w.alloc (.cells #[.string x1,.string x2] 50)).alloc (.cells #[.string y1,.string y2] 50)).cell? ⟨w.heap.size+1,0,none⟩=some (.string y1):=by
  rw[World.size_alloc] at hb2
  rw[cell_of_row _ _ 0 _ _ (0,0) hb2];rfl
 have H:=hide (fun W=>compareA x1 y1 W)
 clear hb1 hb2 hA
 go_in
 go_wp2_with fail
 refine (uh H _).mono ?_
 rintro e w1 ⟨rfl,rfl⟩
 clear hc1 hc2
 go_wp2_with fail
 go_ret
 exact ⟨rfl,rfl⟩
open Go.RowKit Go.Maps Go.Sort Go.Lib
abbrev encF(x:Fl):List Value:=[.string x.1,.string x.2]
def cfF(x y:Fl):Int:=cmpS x.1 y.1
theorem ltF(x y:Fl):ltOf cfF x y=decide (x.1.data.toList<y.1.data.toList):=by
 unfold ltOf cfF cmpS
 by_cases h1:x.1.data.toList<y.1.data.toList
 ·rw[if_pos h1,decide_eq_true h1];rfl
 rw[if_neg h1,decide_eq_false h1]
 by_cases h2:y.1.data.toList<x.1.data.toList
 ·rw[if_pos h2];rfl
 rw[if_neg h2];rfl
theorem swoF:SWO (ltOf cfF) where
 irrefl x:=by rw[ltF];exact decide_eq_false (List.lt_irrefl _)
 trans x y z h1 h2:=by
  rw[ltF] at*
  exact decide_eq_true (List.lt_trans (of_decide_eq_true h1) (of_decide_eq_true h2))
 ntrans x y z h1 h2:=by
  rw[ltF] at*
  exact decide_eq_false (List.not_lt.2 (List.le_trans (List.not_lt.1 (of_decide_eq_false h2)) (List.not_lt.1 (of_decide_eq_false h1))))
theorem cmpLaysF(blk off size:Nat)(w:World):CmpLays Tryz.prog 83 #[] encF 2 cfF blk off size w:=by
 intro m os dk _ x y
 refine (closureA x y _).mono ?_
 rintro e w' ⟨rfl,rfl⟩
 refine ⟨rfl,0,#[.cells #[.string x.1,.string x.2] 50,.cells #[.string y.1,.string y.2] 50], ?_⟩
 rw[alloc_eq_grow,alloc_eq_grow,grow_grow]
 rfl
theorem flat_cells(fs:List Fl):(flatK encF 2 fs.toArray).toList=flCells fs:=by
 apply List.ext_getElem?
 intro t
 by_cases ht:t<fs.length*2
 ·have h1:(flatK encF 2 fs.toArray).toList[t]? =some ((encF (fs.toArray)[t/2]!)[t%2]!):=by
   rw[←get_flatK encF 2 fs.toArray t (by simpa using ht),Array.getElem?_toList]
   have hs:t<(flatK encF 2 fs.toArray).size:=by simpa using ht
   rw[Array.getElem?_eq_getElem hs,getElem!_pos _ t hs]
  rw[h1]
  have hq:t/2<fs.length:=by omega
  obtain ⟨ha,hb⟩:=flCells_get fs (t/2) hq
  have he:fs.toArray[t/2]! =fs.getD (t/2) default:=by simp[List.getD_eq_getElem?_getD,hq]
  rw[he]
  rcases Nat.mod_two_eq_zero_or_one t with h|h
  ·rw[show t/2*2=t by omega] at ha
   rw[ha,h];rfl
  rw[show t/2*2+1=t by omega] at hb
  rw[hb,h];rfl
 rw[List.getElem?_eq_none (by simp;omega),List.getElem?_eq_none (by rw[flCells_len];omega)]
theorem put_heap{w:World}{g:Nat}{cur:Array Value}{e:TypeId}(hg:w.heap[g]? =some (.cells cur e (0,0)))(F:Array Value)(m:Nat)(os:Array Obj):
 (grow (putRow id (Sort.ahead w m) g 0 F) os).heap[g]? =some (.cells (putCells id 0 F cur) e (0,0)):=by
 have hl:=(Array.getElem?_eq_some_iff.1 hg).1
 show ((w.heap.modify g (onCells (putCells id 0 F)))++os)[g]? =_
 rw[Array.getElem?_append_left (by rw[Array.size_modify];exact hl),Array.getElem?_modify,if_pos rfl,hg]
 rfl
theorem put_only(w:World)(g:Nat)(F:Array Value)(m:Nat)(os:Array Obj):Only (fun k=>k=g) w (grow (putRow id (Sort.ahead w m) g 0 F) os):=by
 refine ⟨rfl,rfl,rfl, ?_,fun k hk hne=> ?_⟩
 ·show w.heap.size≤((w.heap.modify g (onCells (putCells id 0 F)))++os).size
  rw[Array.size_append,Array.size_modify];omega
 show ((w.heap.modify g (onCells (putCells id 0 F)))++os)[k]? =_
 rw[Array.getElem?_append_left (by rw[Array.size_modify];exact hk),Array.getElem?_modify,if_neg (fun e=>hne e.symm)]
theorem put_take(F cur:Array Value)(h:F.size≤cur.size):(putCells id 0 F cur).toList.take F.size=F.toList:=by
 apply List.ext_getElem?
 intro t
 rw[List.getElem?_take]
 by_cases ht:t<F.size
 ·rw[if_pos ht,Array.getElem?_toList,Array.getElem?_toList]
  unfold putCells
  rw[Array.getElem?_mapIdx,Array.getElem?_eq_getElem (show t<cur.size by omega),Array.getElem?_eq_getElem ht]
  simp only[Option.map_some]
  rw[if_pos (by omega),getElem!_pos F (t- 0) (by omega)]
  rfl
 rw[if_neg ht,List.getElem?_eq_none (by rw[Array.length_toList];omega)]
theorem sortA(v:Value)(fs:List Fl)(hn:fs.length≤1000)(hd:fs.Pairwise (fun a b=>a.1≠b.1))(w:World)(h:FilesAt w v fs):Calls Tryz.prog 82 #[v,cmpF] w fun r w' =>r=.returned (.tuple #[])∧ ∃fs' :List Fl,fs'.Perm fs∧fs'.Pairwise (fun a b=>a.1.data.toList<b.1.data.toList)∧FilesAt w' v fs' ∧Only (fun k=>v.ownBlock=some k) w w' :=by
 have h0:=h
 obtain ⟨hl,⟨rfl,hz⟩|⟨g,cap,cur,rfl,hb,hg,hc1,hc2,hc3,hc4⟩⟩:=h
 ·refine (AnyF.slices_SortFunc_none Tryz.sortF none 0 cmpF w).mono ?_
  rintro e w' ⟨rfl,rfl⟩
  have:fs=[]:=List.eq_nil_of_length_eq_zero hz
  subst this
  exact ⟨rfl,[],List.Perm.refl _,List.Pairwise.nil,h0,Only.refl _ _⟩
 have hgl:=(Array.getElem?_eq_some_iff.1 hg).1
 have hH:HoldsK encF 2 w g 0 fs.toArray:=by
  intro j hj
  rw[size_flatK] at hj
  have hj2:j<fs.length*2:=by simpa using hj
  refine ⟨?_,frozen_of_row w g (0+j) _ _ hg⟩
  rw[Nat.zero_add,cell_of_row w g j cur _ (0,0) hg]
  have e1:cur.toList[j]? =(flCells fs)[j]? :=by rw[←hc4,List.getElem?_take,if_pos hj2]
  rw[Array.getElem?_toList,←flat_cells,Array.getElem?_toList] at e1
  have hs:j<(flatK encF 2 fs.toArray).size:=by rw[size_flatK];exact hj
  rw[e1,Array.getElem?_eq_getElem hs,getElem!_pos _ j hs]
  rfl
 have eg: ∀args w,(callFunc 83 args).run Tryz.prog w=.ok (.enter 83 args) w:=enters_of Tryz.func83 (by kernel_rfl) rfl
 have hcon:=AnyQ.slices_SortFunc Tryz.sortF 2 Tryz.isAgg50 Tryz.sizeOf50 encF (fun _=>rfl) (fun x u hu=>by simp[encF] at hu;rcases hu with rfl|rfl<;>rfl) cfF swoF 83 #[] g 0 cap fs.toArray w eg (cmpLaysF g 0 _ w) hH hgl (by simp;omega)
 have hcon2:Calls Tryz.prog 82 #[.slice (some ⟨g,0,none⟩) fs.length cap,cmpF] w _:=hcon
 refine hcon2.mono ?_
 rintro e w' ⟨rfl,d',m,os,⟨hp1,_,hp3⟩,hs,rfl⟩
 have hsz:d'.size=fs.length:=by simpa using hp1
 have hperm:d'.toList.Perm fs:=by
  have h1:(d'.extract 0 fs.toArray.size)=d' :=by rw[Array.extract_eq_self_of_le (by simp[hsz])]
  have h2:(fs.toArray.extract 0 fs.toArray.size)=fs.toArray:=by rw[Array.extract_eq_self_of_le (Nat.le_refl _)]
  rw[h1,h2] at hp3
  simpa using hp3
 refine ⟨rfl,d'.toList,hperm, ?_, ?_,(put_only w g _ m os).mono (fun k _ e=>by subst e;rfl)⟩
 ·have hdist:d'.toList.Pairwise (fun a b=>a.1≠b.1):=(hperm.pairwise_iff (fun {a b} x=>x.symm)).2 hd
  rw[List.pairwise_iff_getElem] at hdist ⊢
  intro i j hi hj hij
  have hne:=hdist i j hi hj hij
  have hi' :i<d'.size:=by simpa using hi
  have hj' :j<d'.size:=by simpa using hj
  have h3:=hs i j (Nat.zero_le _) hij (by simpa [hsz] using hj')
  rw[getElem!_pos d' j hj',getElem!_pos d' i hi',ltF] at h3
  have h4:=of_decide_eq_false h3
  simp only[Array.getElem_toList] at hne ⊢
  rcases Classical.em ((d'[i]).1.data.toList<(d'[j]).1.data.toList) with h|h
  ·exact h
  exact absurd (less_total h h4) hne
 have hfc:(flatK encF 2 d').toList=flCells d'.toList:=by have:=flat_cells d'.toList;simpa using this
 have hF:(flatK encF 2 d').size=fs.length*2:=by rw[size_flatK,hsz]
 have hdl:d'.toList.length=fs.length:=by rw[Array.length_toList,hsz]
 refine ⟨by rw[flCells_len],.inr ⟨g,cap,_,by show Value.slice _ fs.length cap=_;rw[hdl],hb,put_heap hg _ m os,by rw[Array.length_toList,hsz];exact hc1,hc2, ?_, ?_⟩⟩
 ·unfold putCells;rw[Array.size_mapIdx];exact hc3
 rw[Array.length_toList,hsz,←hF,put_take _ _ (by rw[hF,hc3];exact Nat.mul_le_mul_right 2 hc1),hfc]
abbrev Lf:=ByteArray×Nat
def lfCells(l:List Lf):List Value:=l.flatMap fun f=>[.string f.1,.int .i64 (f.2:Int)]
theorem lfCells_app(a b:List Lf):lfCells (a++b)=lfCells a++lfCells b:=by simp[lfCells]
def LeftsAt(w:World)(v:Value)(l:List Lf):Prop:=w.ownsRow 0 48 2 v l.length (lfCells l)
theorem LeftsAt.kept{S:Nat→Prop}{w w' :World}{v:Value}{l:List Lf}(h:LeftsAt w v l)(ho:Only S w w')(hs: ∀b,v.ownBlock=some b→¬S b):LeftsAt w' v l:=ownk_kept h ho hs
theorem lfCells_get(l:List Lf)(j:Nat)(hj:j<l.length):(lfCells l)[j*2]? =some (.string (l.getD j default).1)∧(lfCells l)[j*2+1]? =some (.int .i64 ((l.getD j default).2:Int)):=by
 induction l generalizing j with
 |nil=>simp at hj
 |cons a r ih=>
  rw[lfCells,List.flatMap_cons,←lfCells]
  cases j with
  |zero=>simp
  |succ j=>
   have h:=ih j (by simpa using hj)
   rw[show (j+1)*2=j*2+2 by omega]
   simpa using h
theorem LeftsAt.slice{w:World}{v:Value}{l:List Lf}(h:LeftsAt w v l)(hn:0<l.length): ∃g cap,v=.slice (some ⟨g,0,none⟩) l.length cap∧g<w.heap.size∧ ∀j,j<l.length→w.cell? ⟨g,j*2,none⟩=some (.string (l.getD j default).1)∧w.cell? ⟨g,j*2+1,none⟩=some (.int .i64 ((l.getD j default).2:Int)):=by
 obtain ⟨hl,⟨rfl,hz⟩|⟨g,cap,cur,rfl,h1,hg,hr⟩⟩:=h
 ·omega
 refine ⟨g,cap,rfl,(Array.getElem?_eq_some_iff.1 hg).1,fun j hj=> ?_⟩
 have hcl:=World.ownsRow.cells (w:=w) ⟨hl,.inr ⟨g,cap,cur,rfl,h1,hg,hr⟩⟩ (g:=g) rfl
 obtain ⟨ha,hb⟩:=lfCells_get l j hj
 have h1:=hcl (j*2) _ ha
 have h2:=hcl (j*2+1) _ hb
 rw[Addr.add_lit,Nat.zero_add] at h1 h2
 exact ⟨h1,h2⟩
structure CSt where
 fs:List Fl
 tb:Tab
 all:Nat
 lf:List Lf
def cstep(L:List ByteArray)(s:CSt)(e:Ent):CSt:=if whyP L e=0 then ⟨s.fs++[(e.nm,e.dt)],addP s.tb e.nm,s.all+e.dt.size,s.lf⟩ else ⟨s.fs,s.tb,s.all,s.lf++[(e.nm,whyP L e)]⟩
abbrev cst0:CSt:=⟨[],fun _=>none,0,[]⟩
def cgo(L:List ByteArray)(T:List Ent):CSt:=T.foldl (cstep L) cst0
def cfault(s:CSt)(e:Ent):Nat:=if clashP s.tb e.nm then 5 else if (decide (e.nm≠sGo)&&decide (lowP e.nm=sGo)) then 4 else if mostP e.nm<e.dt.size then 1 else if s.fs.length=60 then 6 else if 16000<s.all+e.dt.size then 1 else 0
theorem cgo_next(L:List ByteArray)(T:List Ent)(i:Nat)(h:i<T.length):cgo L (T.take (i+1))=cstep L (cgo L (T.take i)) (T.getD i ent0):=by
 rw[cgo,take_next T i h,List.foldl_append];rfl
theorem cfault_ok{s:CSt}{e:Ent}(h:cfault s e=0):clashP s.tb e.nm=false∧(decide (e.nm≠sGo)&&decide (lowP e.nm=sGo))=false∧e.dt.size≤mostP e.nm∧s.fs.length≠60∧s.all+e.dt.size≤16000:=by
 unfold cfault at h
 split at h
 ·cases h
 split at h
 ·cases h
 split at h
 ·cases h
 split at h
 ·cases h
 split at h
 ·cases h
 rename_i h1 h2 h3 h4 h5
 exact ⟨by simpa using h1,by simpa using h2,by omega,h4,by omega⟩
def COk(T:List Ent):Prop:= ∀i,i<T.length→whyP (nestL T) (T.getD i ent0)=0→cfault (cgo (nestL T) (T.take i)) (T.getD i ent0)=0
theorem infoL2:(Tryz.prog.info? 48).map (fun i=>(i.zero,i.size,i.bytes))=some (some (.agg #[.string ⟨#[]⟩,.int .i64 0]),2,24):=by kernel_rfl
theorem whyP_file{L:List ByteArray}{e:Ent}(h:whyP L e=0):fileP e.nm=true:=by
 unfold whyP at h
 split at h
 ·cases h
 split at h
 ·cases h
 split at h
 ·cases h
 split at h
 ·cases h
 split at h
 ·assumption
 cases h
theorem fileP_size{s:ByteArray}(h:fileP s=true):s.size≤80:=by
 unfold fileP at h
 rw[Bool.and_eq_true] at h
 exact of_decide_eq_true h.1
structure FSt (w0:World) (gc gm gn i:Nat) (L:List ByteArray) (s:CSt) (u:Value) (w:World):Prop where
 old:Old w0 w
 ch: ∃v,ChAt w gc gm (i*1001) v s.fs s.tb s.all∧ ∀b,v.ownBlock=some b→w0.heap.size≤b
 lf:LeftsAt w u s.lf
 lfb: ∀b,u.ownBlock=some b→w0.heap.size≤b
 fo: ∃n,FoAt w gn n L
 few:s.fs.length≤60∧s.lf.length≤i
 ne:gn≠gm
theorem FSt.after{w0 w w' :World}{gc gm gn i:Nat}{L:List ByteArray}{s:CSt}{u:Value}(h:FSt w0 gc gm gn i L s u w)(ho:Old w w'):FSt w0 gc gm gn i L s u w' :=by
 obtain ⟨h1,⟨v,h2,h3⟩,h4,h5,⟨n,h6⟩,h7,h8⟩:=h
 exact ⟨h1.trans ho,⟨v,h2.old ho,h3⟩,h4.kept ho (fun _ _ x=>x),h5,⟨n,h6.old ho⟩,h7,h8⟩
theorem FSt.leave{w0 w w' :World}{gc gm gn i:Nat}{L:List ByteArray}{s:CSt}{u:Value}{e:Ent}{g cap:Nat}(h:FSt w0 gc gm gn i L s u w)(hw:whyP L e≠0)
 (h3:w'.ownsRow 0 48 2 (.slice (some ⟨g,0,none⟩) (s.lf.length+1) cap) (s.lf.length+1) (lfCells s.lf++[.string e.nm,.int .i64 (whyP L e:Int)]))(ho:Only (fun k=>u.ownBlock=some k) w w')(hg:u.ownBlock=some g∨w0.heap.size≤g):
 FSt w0 gc gm gn (i+1) L (cstep L s e) (.slice (some ⟨g,0,none⟩) (s.lf.length+1) cap) w' :=by
 obtain ⟨h1,⟨v,h2,h2b⟩,h4,h5,⟨n,h6⟩,h7,h8⟩:=h
 have e1:cstep L s e=⟨s.fs,s.tb,s.all,s.lf++[(e.nm,whyP L e)]⟩:=if_neg hw
 have hne: ∀b,u.ownBlock=some b→b≠gc∧b≠gm∧b≠gn∧ ∀c,v.ownBlock=some c→c≠b:=by
  intro b hb
  obtain ⟨cur,hc⟩:=ownk_heap h4 hb
  obtain ⟨_,D1,⟨es1,cl1,hm1,_⟩,_⟩:=h6
  obtain ⟨hch,hfl,D2,⟨es2,cl2,hm2,_⟩,_⟩:=h2
  refine ⟨fun x=> ?_,fun x=> ?_,fun x=> ?_,fun c hc2 x=> ?_⟩
  ·rw[x,hch] at hc;injection hc with hc;injection hc with _ hc;exact absurd hc (by decide)
  ·rw[x,hm2] at hc;cases hc
  ·rw[x,hm1] at hc;cases hc
  obtain ⟨cur2,hc3⟩:=ownk_heap hfl hc2
  rw[x,hc] at hc3;injection hc3 with hc3;injection hc3 with _ hc3;exact absurd hc3 (by decide)
 rw[e1]
 refine ⟨h1.transNew ho (fun k hk x=>absurd (h5 k x) (by omega)),⟨v, ?_,h2b⟩, ?_,fun b hb=> ?_,⟨n,h6.kept ho (fun x=>(hne gn x).2.2.1 rfl)⟩,⟨h7.1, ?_⟩,h8⟩
 ·have:=h2.kept ho (fun x=>(hne gc x).1 rfl) (fun x=>(hne gm x).2.1 rfl) (fun b hb x=>(hne b x).2.2.2 b hb rfl)
  exact ⟨this.1,this.2.1,this.2.2.mono (by omega)⟩
 ·show w'.ownsRow 0 48 2 _ (s.lf++[(e.nm,whyP L e)]).length (lfCells (s.lf++[(e.nm,whyP L e)]))
  rw[lfCells_app,List.length_append];exact h3
 ·have:g=b:=Option.some.inj (show some g=some b from hb)
  subst this
  rcases hg with h|h
  ·exact h5 g h
  exact h
 show (s.lf++[(e.nm,whyP L e)]).length≤i+1
 rw[List.length_append];simp;omega
theorem FSt.take{w0 w w' :World}{gc gm gn i:Nat}{L:List ByteArray}{s:CSt}{u v v' :Value}{e:Ent}(h:FSt w0 gc gm gn i L s u w)(hw:whyP L e=0)(h60:s.fs.length<60)(hgc:w0.heap.size≤gc)(hgm:w0.heap.size≤gm)(hvb: ∀b,v.ownBlock=some b→w0.heap.size≤b)(hv:ChAt w gc gm (i*1001) v s.fs s.tb s.all)
 (h3:ChAt w' gc gm (i*1001+1001) v' (s.fs++[(e.nm,e.dt)]) (addP s.tb e.nm) (s.all+e.dt.size))(ho:Only (fun k=>k=gc∨k=gm∨v.ownBlock=some k) w w')(hg: ∀b,v'.ownBlock=some b→v.ownBlock=some b∨w.heap.size≤b):
 FSt w0 gc gm gn (i+1) L (cstep L s e) u w' :=by
 obtain ⟨h1,_,h4,h5,⟨n,h6⟩,h7,h8⟩:=h
 have e1:cstep L s e=⟨s.fs++[(e.nm,e.dt)],addP s.tb e.nm,s.all+e.dt.size,s.lf⟩:=if_pos hw
 rw[e1]
 have hgn:¬(gn=gc∨gn=gm∨v.ownBlock=some gn):=by
  obtain ⟨_,D1,⟨es1,cl1,hm1,_⟩,_⟩:=h6
  rintro (x|x|x)
  ·rw[x,hv.1] at hm1;cases hm1
  ·exact h8 x
  obtain ⟨cur2,hc3⟩:=ownk_heap hv.2.1 x
  rw[hm1] at hc3;cases hc3
 have hu: ∀b,u.ownBlock=some b→¬(b=gc∨b=gm∨v.ownBlock=some b):=by
  intro b hb
  obtain ⟨cur,hc⟩:=ownk_heap h4 hb
  obtain ⟨hch,hfl,D2,⟨es2,cl2,hm2,_⟩,_⟩:=hv
  rintro (x|x|x)
  ·rw[x,hch] at hc;injection hc with hc;injection hc with _ hc;exact absurd hc (by decide)
  ·rw[x,hm2] at hc;cases hc
  obtain ⟨cur2,hc3⟩:=ownk_heap hfl x
  rw[hc] at hc3;injection hc3 with hc3;injection hc3 with _ hc3;exact absurd hc3 (by decide)
 refine ⟨h1.transNew ho (fun k hk x=> ?_),⟨v', ?_,fun b hb=> ?_⟩,h4.kept ho hu,h5,⟨n,h6.kept ho hgn⟩,⟨?_,by show s.lf.length≤i+1;omega⟩,h8⟩
 ·rcases x with x|x|x
  ·omega
  ·omega
  have:=hvb k x;omega
 ·rw[Nat.succ_mul];exact h3
 ·rcases hg b hb with h|h
  ·exact hvb b h
  have:=h1.size;omega
 show (s.fs++[(e.nm,e.dt)]).length≤60
 rw[List.length_append];simp;omega
theorem filesA(gt cap:Nat)(T:List Ent)(hT:T.length≤200)(hs: ∀e∈T,e.nm.size≤2000000)(hok:COk T)(hds:(cgo (nestL T) T).fs.Pairwise (fun a b=>a.1≠b.1))(w:World)(hm:MaxAt w)(ht:EntsAt w gt T)(hgt:gt<w.heap.size):
 Calls Tryz.prog 44 #[.slice (some ⟨gt,0,none⟩) T.length cap] w fun r w' => ∃v u fs',r=.returned (.tuple #[v,u,.int .i64 0])∧Old w w' ∧fs'.Perm (cgo (nestL T) T).fs∧fs'.Pairwise (fun a b=>a.1.data.toList<b.1.data.toList)∧FilesAt w' v fs' ∧LeftsAt w' u (cgo (nestL T) T).lf∧(∀b,v.ownBlock=some b→w.heap.size≤b)∧(∀b,u.ownBlock=some b→w.heap.size≤b):=by
 have hmm:= @run_makeMap Tryz.prog
 have H1:=hide (nestedA gt cap T (by omega) hs w ht hgt)
 have HS:Hid (∀i,i<T.length→(T.getD i ent0).nm.size≤2000000):=fun i hi=>by rw[List.getD_eq_getElem?_getD,List.getElem?_eq_getElem hi];exact hs _ (List.getElem_mem hi)
 have HT:=hide ht
 have HOK:=hide hok
 have HDS:=hide hds
 have HM:=hide hm
 have hTI:¬(200:Int)<(T.length:Int):=by omega
 obtain ⟨L,hL⟩: ∃L,nestL T=L:=⟨_,rfl⟩
 rw[hL] at H1 HDS ⊢
 have HOK:Hid (∀i,i<T.length→whyP L (T.getD i ent0)=0→cfault (cgo L (T.take i)) (T.getD i ent0)=0):=by rw[←hL];exact HOK
 clear ht hok hds hm hL hs hgt
 go_in
 go_wp2_with fail
 refine (uh H1).mono ?_
 rintro e w1 ⟨rfl,ho1,hn1⟩
 have hlt1:=ho1.size
 have HNL:=hide hn1.lt
 have HF2:Hid (FSt w (w1.heap.size+1) w1.heap.size w.heap.size 0 L (cgo L (T.take 0)) (.slice none 0 0) ((w1.alloc (.map #[] 0)).alloc (.cells #[.slice none 0 0,.map (some w1.heap.size),.int .i64 0] chT))):=by
  have hA1:Old w1 (w1.alloc (.map #[] 0)):=(Only.refl _ w1).alloc _
  have hA2:Old (w1.alloc (.map #[] 0)) ((w1.alloc (.map #[] 0)).alloc (.cells #[.slice none 0 0,.map (some w1.heap.size),.int .i64 0] chT)):=(Only.refl _ _).alloc _
  have h:=Go.heap_alloc_new (w1.alloc (.map #[] 0)) (.cells #[.slice none 0 0,.map (some w1.heap.size),.int .i64 0] chT)
  rw[World.size_alloc] at h
  exact ⟨(ho1.trans hA1).trans hA2,⟨.slice none 0 0,⟨h,World.ownsRow_nil _ _ _ _,(MetAt.made w1).old hA2⟩,(fun b hb=>by cases hb)⟩,World.ownsRow_nil _ _ _ _,(fun b hb=>by cases hb),⟨_,(hn1.old hA1).old hA2⟩,⟨by show (0:Nat)≤60;omega,Nat.le_refl _⟩,by have:=hn1.lt;omega⟩
 have HGC:Hid (w.heap.size≤w1.heap.size):=hlt1
 clear H1 ho1 hn1 hlt1
 go_wp2_with fail
 clear hmm
 generalize w1.heap.size=gm at*
 obtain ⟨gc,hgc⟩: ∃gc,gm+1=gc:=⟨_,rfl⟩
 have HGC2:Hid (w.heap.size≤gc):=by have:=uh HGC;unfold Hid;omega
 rw[hgc] at HF2 ⊢
 clear hgc
 go_loopw [7,9,10,11,21] (fun u _ _ _ x wr=> ∃i:Nat,i≤T.length∧x=.int .i64 i∧Hid (FSt w gc gm w.heap.size i L (cgo L (T.take i)) u wr)) (fun _ _ _ _ x _=>T.length- (intOf x).toNat)
 ·exact ⟨0,by omega,rfl,HF2⟩
 obtain ⟨i,hi,rfl,HF⟩:=hrel
 clear HF2
 by_cases hil:i<T.length
 ·have hilI:(i:Int)<(T.length:Int):=by omega
  obtain ⟨_,h1,h2,h3⟩:=(uh HT).old (uh HF).old i hil
  have hns:=uh HS i hil
  have HNX:=hide (cgo_next L T i hil)
  have HCF:=hide (uh HOK i hil)
  have HWF:Hid (whyP L (T.getD i ent0)=0→(T.getD i ent0).nm.size≤80):=fun h=>fileP_size (whyP_file h)
  have HWB:Hid (whyP L (T.getD i ent0)≤5):=by unfold Hid whyP;split<;>(try split)<;>(try split)<;>(try split)<;>(try split)<;>omega
  have HYL:=hide (fun n W hm hg=>whyLeftA (T.getD i ent0) hns w.heap.size n L W hm hg)
  generalize cgo L (T.take i)=s at*
  generalize T.getD i ent0=e at*
  obtain ⟨nm,ln,dt⟩:=e
  simp only at*
  have hA:Old wr (wr.alloc (.cells #[.string nm,.bool ln,.string dt] 39)):=(Only.refl _ wr).alloc _
  have HE:=hide (EnA.made wr nm ln dt)
  have HF3:=hide ((uh HF).after hA)
  obtain ⟨nfo,hfo⟩:=(uh HF3).fo
  have H2:=hide (uh HYL nfo _ ((uh HM).old (uh HF3).old) hfo)
  clear hA HF HYL hfo
  go_wp2_with fail
  clear h1 h2 h3
  refine (uh H2).mono ?_
  rintro e w4 ⟨rfl,ho4⟩
  have HE4:=hide ((uh HE).old ho4)
  have HF4:=hide ((uh HF3).after ho4)
  clear H2 HE HF3
  generalize wr.alloc (.cells #[.string nm,.bool ln,.string dt] 39)=W at*
  clear ho4
  by_cases hw0:whyP L ⟨nm,ln,dt⟩=0
  ·obtain ⟨v,hv,hvb⟩:=(uh HF4).ch
   have hcf:=cfault_ok (uh HCF hw0)
   have hnm:=uh HWF hw0
   have hfl:s.fs.length<60:=by have:=hcf.2.2.2.1;have:=(uh HF4).few.1;omega
   have H3:=hide (takeA nm dt ln gc gm (i*1001) v s.fs s.tb s.all (by omega) hcf.1 hcf.2.1 hcf.2.2.1 hfl hcf.2.2.2.2 (by omega) w4 hv)
   have HTK:=hide (fun w' v' =>(uh HF4).take (w' :=w') (v:=v) (v' :=v') (e:=⟨nm,ln,dt⟩) hw0 hfl (uh HGC2) (uh HGC) hvb hv)
   obtain ⟨_,h1,h2,h3⟩:=uh HE4
   rw[hw0]
   clear hcf hv hvb hw0 HCF HWF HWB hnm hfl HE4
   go_wp2_with fail
   clear h1 h2 h3
   refine (uh H3).mono ?_
   rintro e w5 ⟨rfl,v',hc5,ho5,hb5⟩
   have HF5:=hide (uh HTK w5 v' hc5 ho5 hb5)
   clear H3 HTK hc5 ho5 hb5
   go_wp2_with fail
   go_roundw
   ·exact ⟨i+1,by omega,by go_num,by rw[uh HNX];exact HF5⟩
   case measure=>simp[intOf];omega
  have hwN:=hw0
  obtain ⟨y,hy⟩: ∃y,whyP L ⟨nm,ln,dt⟩=y:=⟨_,rfl⟩
  have hy5:y≤5:=by rw[←hy];exact HWB
  have HLV:Hid (∀W' w' g cap,FSt w gc gm w.heap.size i L s u7 W' →w'.ownsRow 0 48 2 (.slice (some ⟨g,0,none⟩) (s.lf.length+1) cap) (s.lf.length+1) (lfCells s.lf++[.string nm,.int .i64 (y:Int)])→W'.grownBy w' u7.ownBlock→(u7.ownBlock=some g∨g=W'.heap.size)→FSt w gc gm w.heap.size (i+1) L (cstep L s ⟨nm,ln,dt⟩) (.slice (some ⟨g,0,none⟩) (s.lf.length+1) cap) w'):=fun W' w' g cap hF h1 h2 h3=>by
   refine hF.leave (e:=⟨nm,ln,dt⟩) hwN (by rw[hy];exact h1) ((Only.refl _ _).grown h2 (fun k _ e=>e)) ?_
   rcases h3 with h|h
   ·exact .inl h
   exact .inr (by rw[h];exact hF.old.size)
  rw[hy] at hw0 ⊢
  have hw0I:((y:Int) !=0)=true:=by rw[bne_iff_ne];omega
  have hw0J:¬(y:Int)=0:=by omega
  have H5:=hide (cloneX nm (by omega) w4)
  obtain ⟨_,h1,h2,h3⟩:=uh HE4
  have hfew:=(uh HF4).few.2
  obtain ⟨ao,cp,rfl⟩: ∃ao cp,u7=.slice ao s.lf.length cp:=by
   obtain ⟨_,⟨rfl,hz⟩|⟨b,c,cur,rfl,_⟩⟩:=(uh HF4).lf
   ·rw[hz];exact ⟨none,0,rfl⟩
   exact ⟨_,_,rfl⟩
  clear hy hwN HCF HWF HWB HE4
  go_wp2_with fail
  clear h1 h2 h3
  refine (uh H5).mono ?_
  rintro e w5 ⟨rfl,ho5⟩
  have hA5:Old w5 (w5.alloc (.cells #[.string nm,.int .i64 (y:Int)] 48)):=(Only.refl _ w5).alloc _
  have HF6:=hide (((uh HF4).after ho5).after hA5)
  have HOW:=hide (uh HF6).lf
  have HNW:=hide (new_cells w5 [.string nm,.int .i64 (y:Int)] 48)
  have HLV:=hide (fun w' g cap=>uh HLV _ w' g cap (uh HF6))
  obtain ⟨i0,hi0,hz0,hz1,hz2⟩:=info_parts infoL2
  have HSZ:Hid ((w5.alloc (.cells #[.string nm,.int .i64 (y:Int)] 48)).heap.size=w5.heap.size+1):=by unfold Hid;rw[World.size_alloc]
  rw[uh HSZ] at HLV
  clear ho5 hA5 H5 HF4 HF6
  go_wp2_with (at_builtin;refine wpList_append_lies _ rfl (.tmp 30) (.tmp 36) 42 rfl 0 48 i0 (.agg #[.string ⟨#[]⟩,.int .i64 0]) 2 24 Tryz.underlying42 hi0 hz0 hz1 hz2 rfl (by omega) (.slice ao s.lf.length cp) s.lf.length (lfCells s.lf) rfl (uh HOW) ⟨w5.heap.size,0,none⟩ 1 1 [.string nm,.int .i64 (y:Int)] rfl rfl (uh HNW) (by intro u hu;simp at hu;rcases hu with rfl|rfl<;>rfl) (by omega) (by unfold maxLen;omega) (by omega) (by omega) (w5.heap.size+1) (uh HSZ) ?_;intro gb cap2 w6 ho6 hg6 hl6 hlt6;have HX:=hide (uh HLV w6 gb cap2 ho6 hg6 hl6);clear ho6 hg6 hl6 hlt6)
  go_roundw
  ·exact ⟨i+1,by omega,by go_num,by rw[uh HNX];exact HX⟩
  case measure=>simp[intOf];omega
 have hilI:¬(i:Int)<(T.length:Int):=by omega
 have hie:i=T.length:=by omega
 subst hie
 rw[List.take_length] at HF
 obtain ⟨s,hse⟩: ∃s,s=cgo L T:=⟨_,rfl⟩
 rw[←hse] at HF HDS
 have HSE:=hide hse
 clear hse
 obtain ⟨v,hv,hvb⟩:=(uh HF).ch
 have H6:=hide (sortA v s.fs (by have:=(uh HF).few.1;omega) (uh HDS) wr hv.2.1)
 have hc0:wr.cell? ⟨gc,0,none⟩=some v:=by rw[cell_of_row wr gc 0 _ _ (0,0) hv.1];rfl
 have HVB:=hide hvb
 have HC0:Hid (∀W',Only (fun k=>v.ownBlock=some k) wr W' →W'.cell? ⟨gc,0,none⟩=some v):=fun W' ho=>(ho.cell (p:=⟨gc,0,none⟩) hv.lt.1 (fun e=>(hv.apart.2 gc e).1 rfl)).trans hc0
 have HLK:Hid (∀W',Only (fun k=>v.ownBlock=some k) wr W' →Old w W' ∧LeftsAt W' u7 s.lf):=fun W' ho=>by
  refine ⟨(uh HF).old.transNew ho (fun k hk e=>absurd (hvb k e) (by omega)),(uh HF).lf.kept ho (fun b hb e=> ?_)⟩
  obtain ⟨cur,h1⟩:=ownk_heap (uh HF).lf hb
  obtain ⟨cur2,h2⟩:=ownk_heap hv.2.1 e
  rw[h1] at h2;injection h2 with h2;injection h2 with _ h2;exact absurd h2 (by decide)
 have HLB:=hide (uh HF).lfb
 clear hv hvb HF HDS HOK HT HS HM HNL HGC HGC2
 go_wp2_with fail
 refine (uh H6).mono ?_
 rintro e w6 ⟨rfl,fs',hp,hso,hfa,ho6⟩
 have hc6:=uh HC0 w6 ho6
 have HL6:=hide (uh HLK w6 ho6)
 have HP:=hide hp
 have HSO:=hide hso
 have HFA:=hide hfa
 clear hp hso hfa ho6 H6 hc0 HC0 HLK
 go_wp2_with fail
 go_ret3
 have hse:=uh HSE
 subst hse
 exact ⟨v,_,fs',rfl,(uh HL6).1,HP,HSO,HFA,(uh HL6).2,HVB,HLB⟩
end Go.Proofs.YtndfmgdhiallpaaGreatDoor
