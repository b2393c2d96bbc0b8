import Derived.Test.YtndfmgdhiallpaaGreatDoorIt
import Derived.Test.YtndfmgdhiallpaaGreatDoorMa
import Derived.Test.YtndfmgdhiallpaaGreatDoorOc
import Derived.Sort.KeysCollected
set_option maxRecDepth 100000
set_option maxHeartbeats 2000000
namespace Go.Proofs.YtndfmgdhiallpaaGreatDoor
open Go.RowKit
abbrev bT:TypeId:=142
theorem bSize:(Tryz.prog.info? bT).map (·.size)=some 2:=by kernel_rfl
theorem bLies:liesAt Tryz.prog Tryz.prog.depth bT (2/Tryz.prog.cellsOf bT) 0 bT 1=true:=by kernel_rfl
theorem bByte:(Tryz.prog.info? 5).map (fun i=>(i.zero,i.size,i.bytes))=some (some (.int .u8 0),1,1):=by kernel_rfl
def ccRen:Go.Shelf.Ren:=⟨fun|240=>179|276=>278|n=>n,fun|0=>0|4=>4|9=>9|20=>20|37=>62|70=>140|72=>142|164=>294|n=>n,fun|n=>n⟩
theorem ccLays:Lays.n240 Tryz.prog ccRen:={
 mixed:=by kernel_rfl
 f240:=Tryz.func179.trans (congrArg some (by kernel_rfl))
 f276:=Tryz.func278.trans (congrArg some (by kernel_rfl))
 t0:=Tryz.underlying0
 a0:=Tryz.isAgg0
 z0:=Tryz.sizeOf0
 v0:=Tryz.zeroValue0
 t4:=Tryz.underlying4
 a4:=Tryz.isAgg4
 z4:=Tryz.sizeOf4
 v4:=Tryz.zeroValue4
 t9:=Tryz.underlying9
 a9:=Tryz.isAgg9
 z9:=Tryz.sizeOf9
 v9:=Tryz.zeroValue9
 t20:=Tryz.underlying20
 a20:=Tryz.isAgg20
 z20:=Tryz.sizeOf20
 v20:=Tryz.zeroValue20
 t70:=Tryz.underlying140
 a70:=Tryz.isAgg140
 z70:=Tryz.sizeOf140
 v70:=Tryz.zeroValue140
 t72:=Tryz.underlying142
 a72:=Tryz.isAgg142
 z72:=Tryz.sizeOf142
 v72:=Tryz.zeroValue142
 t164:=Tryz.underlying294
 a164:=Tryz.isAgg294
 z164:=Tryz.sizeOf294
 v164:=Tryz.zeroValue294}
theorem checkUsed(b:Nat)(w:World)(h0:w.cell? ⟨b,0,none⟩=some (.pointer (some ⟨b,0,none⟩))):
 Calls Tryz.prog 179 #[.pointer (some ⟨b,0,none⟩)] w fun e w' =>e=.returned (.tuple #[])∧w' =w:=
 Any.Builder_copyCheck_used ccLays ⟨bSize,bLies⟩ b w h0
theorem checkFresh(b:Nat)(w:World)(h0:w.cell? ⟨b,0,none⟩=some (.pointer none))(hsh:w.shape? b=some (bT,2))(hfz:w.frozen? ⟨b,0,none⟩=false):
 Calls Tryz.prog 179 #[.pointer (some ⟨b,0,none⟩)] w fun e w' =>e=.returned (.tuple #[])∧w' =w.setCell ⟨b,0,none⟩ (.pointer (some ⟨b,0,none⟩)):=
 Any.Builder_copyCheck_fresh ccLays ⟨bSize,bLies⟩ b w h0 hsh hfz
theorem checkA(B b:Nat)(bs:List Value)(w:World)(h:Lib.IsBuilderF bT 5 B b bs w):
 Calls Tryz.prog 179 #[.pointer (some ⟨b,0,none⟩)] w fun e w' =>e=.returned (.tuple #[])∧Lib.BuilderAtF bT 5 B b (.pointer (some ⟨b,0,none⟩)) bs w' ∧Below B w w' ∧Lib.OthersKept 5 (some b) w w' :=by
 rcases h with h|h
 ·refine (checkFresh b w h.cell0 h.shape h.frozen0).mono ?_
  rintro e w' ⟨rfl,rfl⟩
  exact ⟨rfl,h.used _,(Below.refl B w).setCell (p:=⟨b,0,none⟩) h.1 _,(Lib.OthersKept.refl _ _ w).setCell ⟨b,0,none⟩ rfl _⟩
 refine (checkUsed b w h.cell0).mono ?_
 rintro e w' ⟨rfl,rfl⟩
 exact ⟨rfl,h,Below.refl B _,Lib.OthersKept.refl _ _ _⟩
theorem writeStrA(B b:Nat)(bs:List Value)(s:ByteArray)(w:World)(h:Lib.IsBuilderF bT 5 B b bs w)(hlen:bs.length+s.size≤140737488355328)(hBw:B≤w.heap.size):
 Calls Tryz.prog 96 #[.pointer (some ⟨b,0,none⟩),.string s] w fun e w' =>(∃x,e=.returned x)∧Lib.IsBuilderF bT 5 B b (bs++Lib.strCells s) w' ∧Below B w w' ∧Lib.OthersKept 5 (some b) w w' :=by
 obtain ⟨i0,hi,hz0,hz1,hz2⟩:=info_parts bByte
 have H1:=hide (checkA B b bs w h)
 clear h
 go_in
 go_wp2_with fail
 refine (uh H1).mono ?_
 rintro e w1 ⟨rfl,h1,hb1,hk1⟩
 obtain ⟨hB,v,hbk,hown,hne⟩:=h1
 have c0:w1.cell? ⟨b,0,none⟩=some (.pointer (some ⟨b,0,none⟩)):=by rw[Lib.cell_of_heap hbk];rfl
 have c1:w1.cell? ⟨b,1,none⟩=some v:=by rw[Lib.cell_of_heap hbk];rfl
 have hlt:b<w1.heap.size:=(Array.getElem?_eq_some_iff.1 hbk).1
 have hsz:=hb1.size
 go_wp2_with (at_builtin;refine Lib.wpList_append_own_stringF _ rfl _ _ 62 9 rfl B 5 i0 Tryz.underlying62 Tryz.underlying9 hi hz0 hz1 hz2 _ _ _ rfl hown s rfl (by unfold maxLen;omega) (by omega) (by omega) ?_)
 intro v' w2 hown' hgrow _
 have hb2:w2.heap[b]? =some (.cells #[.pointer (some ⟨b,0,none⟩),v] bT (0,0)):=(hgrow.block b hlt (fun e=>hne e.symm)).trans hbk
 have d1:w2.cell? ⟨b,1,none⟩=some v:=by rw[Lib.cell_of_heap hb2];rfl
 have f1:w2.frozen? ⟨b,1,none⟩=false:=Lib.frozen_of_heap hb2 1
 have HP:=hide (Lib.BuilderAtF.put (T:=bT) (e:=5) hB hb2 (bs' :=bs++Lib.strCells s) (v' :=v') (by simpa [Lib.strCells_length] using hown') (by decide))
 have HK:=hide ((hk1.grown hgrow (Lib.ownsRowF_kind hown)).setCell ⟨b,1,none⟩ rfl v')
 have HB:=hide ((hb1.grown hgrow (by omega) (fun k hk=>(hown.lt k hk).1)).setCell (p:=⟨b,1,none⟩) hB v')
 obtain ⟨ao,n',cap,rfl⟩: ∃ao n' cap,v' =.slice ao n' cap:=by
  rcases hown'.2 with ⟨hv,_⟩|⟨g,cap,cur,fz,hv,_⟩
  ·exact ⟨_,_,_,hv⟩
  exact ⟨_,_,_,hv⟩
 clear hown' hgrow hown hk1 hb1 hbk
 go_wp2
 go_ret2
 exact ⟨⟨_,rfl⟩,.inr HP,HB,HK⟩
open Go.RowKit Go.Maps
def PlAt(w:World)(gm:Nat)(l:List ByteArray):Prop:=
 ∃D:DataW Unit,w.ownsMap Tryz.prog 9 (plainElem Tryz.prog 3) gm l.length D∧(∀r:ByteArray,has D (.string r.data.toList)=true↔r∈l)∧ ∀i,i<l.length→ ∀z,D.atKey (.string (l.getD i ⟨#[]⟩).data.toList) z=.lit (.int .i64 (i:Int))
theorem PlAt.lt{w:World}{gm:Nat}{l:List ByteArray}(h:PlAt w gm l):gm<w.heap.size:=by obtain ⟨D,h,_⟩:=h;exact h.lt
theorem PlAt.kept{w w' :World}{gm:Nat}{l:List ByteArray}{S:Nat→Prop}(h:PlAt w gm l)(ho:Only S w w')(hs:¬S gm):PlAt w' gm l:=by
 have hl:=h.lt
 obtain ⟨D,⟨es,clock,hm,r⟩,h2⟩:=h
 exact ⟨D,⟨es,clock,(ho.block gm hl hs).trans hm,r⟩,h2⟩
theorem PlAt.old{w w' :World}{gm:Nat}{l:List ByteArray}(h:PlAt w gm l)(ho:Old w w'):PlAt w' gm l:=h.kept ho (fun x=>x)
theorem PlAt.made(w:World):PlAt (w.alloc (.map #[] 0)) w.heap.size []:=
 ⟨_,World.ownsMap_made w Tryz.prog 9 _,fun _=>⟨fun h=>by simp[has] at h,fun h=>by simp at h⟩,fun i hi=>by simp at hi⟩
abbrev plT:TypeId:=138
theorem zeroI(w:World):(zeroValue 3).run Tryz.prog w=.ok (.int .i64 0) w:=by kernel_rfl
theorem wf64(i:Nat)(h:i<9223372036854775808):(Lit.int .i64 (i:Int)).wf=true:=by
 show (decide (IntKind.i64.min≤(i:Int))&&decide ((i:Int)≤IntKind.i64.max))=true
 rw[Bool.and_eq_true,decide_eq_true_eq,decide_eq_true_eq]
 have h1:IntKind.i64.min= -9223372036854775808:=rfl
 have h2:IntKind.i64.max=9223372036854775807:=rfl
 omega
theorem PlAt.look{w:World}{gm:Nat}{l:List ByteArray}(h:PlAt w gm l)(r:ByteArray)(hr:r.size≤maxLen)(hn:r∉l):(Instr.lookup plT (.map (some gm)) (.string r) true).run Tryz.prog w=.ok (.tuple #[.int .i64 0,.bool false]) w:=by
 obtain ⟨D,h1,h2,_⟩:=h
 obtain ⟨v,ps,hrun,hv⟩:=h1.look_ok strKeyed Tryz.underlying138 (zeroI w) (plainElem_int Tryz.underlying3 (wf64 0 (by omega))) (key9 r hr)
 have h4:has D (.string r.data.toList)=false:=by rw[Bool.eq_false_iff];exact fun e=>hn ((h2 r).1 e)
 rw[atKey_of_not_has h4] at hv
 obtain ⟨a,rfl,e,_⟩:=plainElem_int_inv Tryz.underlying3 hv
 simp only[Prod.mk.injEq,DataW.lit.injEq,Lit.int.injEq] at e
 rw[hrun,h4,←e.1.2]
theorem PlAt.at{w:World}{gm:Nat}{l:List ByteArray}(h:PlAt w gm l)(i:Nat)(hi:i<l.length)(hr:(l.getD i ⟨#[]⟩).size≤maxLen):(Instr.lookup plT (.map (some gm)) (.string (l.getD i ⟨#[]⟩)) false).run Tryz.prog w=.ok (.int .i64 (i:Int)) w:=by
 obtain ⟨D,h1,h2,h3⟩:=h
 obtain ⟨c,hrun,hat,_⟩:=h1.lookup_int strKeyed Tryz.underlying138 Tryz.underlying3 (zeroI w) (key9 _ hr)
 rw[h3 i hi] at hat
 simp only[DataW.lit.injEq,Lit.int.injEq] at hat
 rw[hrun,hat.2]
theorem PlAt.put{w:World}{gm:Nat}{l:List ByteArray}(h:PlAt w gm l)(r:ByteArray)(hr:r.size≤maxLen)(hn:r∉l)(hl:l.length<4000000): ∃w',(Instr.mapUpdate plT (.map (some gm)) (.string r) (.int .i64 (l.length:Int))).run Tryz.prog w=.ok () w' ∧PlAt w' gm (l++[r])∧Only (fun k=>k=gm) w w' :=by
 obtain ⟨D,h1,h2,h3⟩:=h
 obtain ⟨w2,hrun,hown2,hg2⟩:=h1.update strKeyed Tryz.underlying138 (by unfold maxLen;omega) (key9 r hr) (plainElem_int Tryz.underlying3 (wf64 l.length (by omega)))
 refine ⟨w2,hrun,⟨_,by rw[List.length_append];exact hown2,fun q=> ?_,fun i hi z=> ?_⟩,(Only.refl _ w).grown hg2 (fun k _ e=>(Option.some.inj e).symm)⟩
 ·by_cases e:q=r
  ·subst e
   rw[has_put_same h1.isMap (keyL _)]
   exact ⟨fun _=>by simp,fun _=>rfl⟩
  have hne:=lit_ne (show q≠r from e)
  rw[has_put_other hne,h2 q,List.mem_append,List.mem_singleton]
  exact ⟨.inl,fun h=>h.elim id (fun x=>absurd x e)⟩
 by_cases e:i<l.length
 ·have e1:(l++[r]).getD i ⟨#[]⟩=l.getD i ⟨#[]⟩:=by
   rw[List.getD_eq_getElem?_getD,List.getD_eq_getElem?_getD,List.getElem?_append_left e]
  have hq:l.getD i ⟨#[]⟩≠r:=fun e2=>hn (by rw[←e2,List.getD_eq_getElem?_getD,List.getElem?_eq_getElem e];exact List.getElem_mem e)
  rw[e1,atKey_put_other (lit_ne hq)]
  exact h3 i e z
 have e2:i=l.length:=by simp at hi;omega
 subst e2
 have e1:(l++[r]).getD l.length ⟨#[]⟩=r:=by
  rw[List.getD_eq_getElem?_getD,List.getElem?_append_right (Nat.le_refl _)];simp
 rw[e1,atKey_put_same h1.isMap (keyL _)]
theorem below_old{w w' :World}(h:Below w.heap.size w w'):Old w w' :=⟨h.os,h.tape,h.output,h.size,fun k hk _=>h.block k hk⟩
theorem below_only{B:Nat}{w w' :World}(h:Below B w w'):Only (fun k=>B≤k) w w' :=⟨h.os,h.tape,h.output,h.size,fun k _ hs=>h.block k (by omega)⟩
theorem old_grown{w w' :World}(h:Old w w'):w.grownBy w' none:=⟨h.os,h.tape,h.output,h.size,fun k hk _=>h.block k hk (fun x=>x)⟩
theorem data_inj{a b:ByteArray}(h:a.data.toList=b.data.toList):a=b:=ByteArray.ext (Array.toList_inj.1 h)
open Go.Sort Go.Shelf in
theorem sortsK(m:Nat):AnyZ.SortsIn Tryz.prog Tryz.sorted94_ren Fence.wide m:=
 ⟨fun blk off cap ss W hH hblk hsz=>callsIn_wide.2 (AnyM.slices_Sort_string Tryz.sort177 blk off cap ss W hH hblk hsz),
  fun p cap W=>callsIn_wide.2 (AnyM.slices_Sort_string_none Tryz.sort177 p cap W)⟩
open Go.Sort Go.Shelf in
theorem sortedK(b nn:Nat)(D0:DataW Unit)(R:Value→Option (DataW Unit×List MemPlace))(w:World)(hown:w.ownsMap Tryz.prog 9 R b nn D0)(hmax:Maps.size D0≤maxLen)(hbytes:Maps.size D0*16≤140737488355328):
 Calls Tryz.prog 94 #[.func (.func 178) #[] #[.pointer (some ⟨w.heap.size,0,none⟩)]] (w.alloc (.cells #[.map (some b)] plT)) fun e w' => ∃(v:Value) (ss:List (List UInt8)),e=.returned v∧ss.Perm (strKeys D0)∧
  w'.ownsRow (w.alloc (.cells #[.map (some b)] plT)).heap.size 9 1 v ss.length ((ss.mergeSort Go.leB).map encStr)∧Below (w.alloc (.cells #[.map (some b)] plT)).heap.size (w.alloc (.cells #[.map (some b)] plT)) w' :=by
 have hbl:=hown.lt
 have hseq:SeqGives Fence.wide 2 Tryz.prog 178 #[.pointer (some ⟨w.heap.size,0,none⟩)] encStr (fun ss=>ss.Perm (strKeys D0)) (Maps.size D0) (w.alloc (.cells #[.map (some b)] plT)):=
  AnyZ.keys_gives (ρ:=Tryz.keys95_ren) {Tryz.keys95 with} Fence.wide _ trivial rfl (by omega) w.heap.size b nn D0 _ (by simp) (by simp) (by
   obtain ⟨es,clock,hb,Ft,hs,hD⟩:=hown
   exact ⟨es,clock,(Below.heap_alloc _ _ b hbl).trans hb,Ft,hs,hD⟩)
 refine (callsIn_wide.1 (AnyZ.sorted_in Tryz.sorted94 Fence.wide 5 trivial trivial trivial trivial rfl (by omega) (sortsK _) (enters_of Tryz.func177 (by kernel_rfl) rfl) 178 #[.pointer (some ⟨w.heap.size,0,none⟩)] trivial (enters_of Tryz.func178 (by kernel_rfl) rfl) _ _ hmax hbytes _ hseq)).mono ?_
 rintro e w' ⟨v,ss,rfl,hS,hrow,_,hb⟩
 exact ⟨v,ss,rfl,hS,hrow,hb⟩
theorem PlAt.keysG{w:World}{gm:Nat}{l0 l:List ByteArray}(h:PlAt w gm l0)(hlp:l.Perm l0)(hd:l.Pairwise (fun a b=>a.data.toList<b.data.toList))(hl:l.length<4000000):
 Calls Tryz.prog 95 #[.map (some gm)] w fun e w1=> ∃b,e=.returned b∧Old w w1∧
  Calls Tryz.prog 94 #[b] w1 fun e w' => ∃v,e=.returned v∧Old w1 w' ∧w'.ownsRow w1.heap.size 9 1 v l.length (l.map fun s=> .string s):=by
 obtain ⟨D,h1,h2,_⟩:=h
 refine (callsIn_wide.1 (AnyZ.keys_in Tryz.keys95 Fence.wide 5 trivial rfl (some gm) w)).mono ?_
 rintro e w1 ⟨rfl,rfl⟩
 refine ⟨_,rfl,(Only.refl _ w).alloc _, ?_⟩
 obtain ⟨es,hes,hpw⟩:=h1.tidy strKeyed
 obtain ⟨es',hes',hk⟩:=h1.keysOf
 subst hes
 cases hes'
 have hnd:(l.map fun s:ByteArray=>s.data.toList).Nodup:=by
  refine List.pairwise_map.2 (hd.imp fun {a b} hab e=> ?_)
  rw[e] at hab
  exact List.lt_irrefl _ hab
 have hp:(l.map fun s:ByteArray=>s.data.toList).Perm (strKeys (DataW.map es)):=by
  refine perm_strKeys hpw (fun p hp=> ?_) hnd (fun x=> ?_)
  ·obtain ⟨key,hkey⟩:=hk p hp
   obtain ⟨x,_,hx,_⟩:=keyOf_str Tryz.underlying9 hkey
   exact ⟨x,hx⟩
  have h3:=h2 ⟨x.toArray⟩
  have e:(⟨x.toArray⟩:ByteArray).data.toList=x:=by simp
  rw[e] at h3
  rw[h3,←hlp.mem_iff,List.mem_map]
  constructor
  ·rintro ⟨s,hs,rfl⟩;exact (show (⟨s.data.toList.toArray⟩:ByteArray)=s from data_inj (by simp)) ▸ hs
  intro hm;exact ⟨_,hm,by simp⟩
 have hsz:Maps.size (DataW.map es)=l.length:=by
  have:=hp.length_eq
  simpa [strKeys,Maps.size] using this.symm
 refine (sortedK gm l0.length _ _ w h1 (by rw[hsz];unfold maxLen;omega) (by rw[hsz];omega)).mono ?_
 rintro e w' ⟨v,ss,rfl,hS,hrow,hb⟩
 have e1:ss.mergeSort Go.leB=l.map fun s:ByteArray=>s.data.toList:=by
  rw[mergeSort_of_perm (hS.trans hp.symm)]
  refine List.mergeSort_of_pairwise (List.pairwise_map.2 (hd.imp fun {a b} hab=> ?_))
  simp only[Go.leB,decide_eq_true_eq]
  exact List.le_of_lt hab
 have e2:ss.length=l.length:=by rw[(hS.trans hp.symm).length_eq,List.length_map]
 refine ⟨v,rfl,below_old hb, ?_⟩
 rw[e1,e2,List.map_map] at hrow
 have e3:l.map (encStr ∘fun s:ByteArray=>s.data.toList)=l.map fun s=> .string s:=List.map_congr_left fun s _=>by simp[encStr]
 rw[e3] at hrow
 exact hrow
theorem PlAt.keys{w:World}{gm:Nat}{l:List ByteArray}(h:PlAt w gm l)(hd:l.Pairwise (fun a b=>a.data.toList<b.data.toList))(hl:l.length<1000000):
 Calls Tryz.prog 95 #[.map (some gm)] w fun e w1=> ∃b,e=.returned b∧Old w w1∧
  Calls Tryz.prog 94 #[b] w1 fun e w' => ∃v,e=.returned v∧Old w1 w' ∧w'.ownsRow w1.heap.size 9 1 v l.length (l.map fun s=> .string s):=h.keysG (List.Perm.refl _) hd (by omega)
def lineP(p:ByteArray)(f:Fl):ByteArray:=digestOf f.2++⟨#[32,32]⟩++p++f.1++⟨#[10]⟩
def linesP(p:ByteArray)(fs:List Fl):List UInt8:=fs.flatMap fun f=>(lineP p f).data.toList
def sumL(b:Nat→Nat):List UInt8:=lets b 10++letL (b 30*65536|||b 31*256) 3++[61]
def sumP(p:ByteArray)(fs:List Fl):ByteArray:=⟨#[104,49,58]⟩++strB (sumL (byN (wordsOf (strB (linesP p fs)))))
theorem digestOf_size(s:ByteArray):(digestOf s).size=64:=by
 rw[digest_digL];show (digL _ 64).toArray.size=64;rw[List.size_toArray,digL_len]
theorem lineP_size(p:ByteArray)(f:Fl):(lineP p f).size=67+p.size+f.1.size:=by
 unfold lineP
 rw[ByteArray.size_append,ByteArray.size_append,ByteArray.size_append,ByteArray.size_append,digestOf_size]
 show 64+2+p.size+f.1.size+1=_
 omega
theorem linesP_len(p:ByteArray): ∀(fs:List Fl),(∀f∈fs,f.1.size≤12)→(linesP p fs).length≤(79+p.size)*fs.length
 |[],_=>by simp[linesP]
 |f::r,h=>by
  have h1:=linesP_len p r (fun x hx=>h x (List.mem_cons_of_mem _ hx))
  have h2:=h f (List.mem_cons_self ..)
  have h3:=lineP_size p f
  have e:linesP p (f::r)=(lineP p f).data.toList++linesP p r:=by simp[linesP]
  have e2:(lineP p f).data.toList.length=(lineP p f).size:=Array.length_toList
  rw[e,List.length_append,List.length_cons,e2,h3,Nat.mul_add]
  omega
theorem linesP_succ(p:ByteArray)(fs:List Fl)(i:Nat)(h:i<fs.length):linesP p (fs.take (i+1))=linesP p (fs.take i)++(lineP p (fs.getD i default)).data.toList:=by
 rw[linesP,linesP,List.take_add_one,List.getElem?_eq_getElem h,List.getD_eq_getElem?_getD,List.getElem?_eq_getElem h,List.flatMap_append];simp
theorem sumP_size(p:ByteArray)(fs:List Fl):(sumP p fs).size=47:=by
 unfold sumP
 rw[ByteArray.size_append,strB_size,sumL,List.length_append,List.length_append,lets_len,letL_len];rfl
def nmsP(fs:List Fl):List ByteArray:=fs.map Prod.fst
theorem nmsP_get(fs:List Fl)(i:Nat)(h:i<fs.length):(nmsP fs).getD i ⟨#[]⟩=(fs.getD i default).1:=by
 rw[nmsP,List.getD_eq_getElem?_getD,List.getD_eq_getElem?_getD,List.getElem?_map,List.getElem?_eq_getElem h];rfl
theorem nmsP_succ(fs:List Fl)(i:Nat)(h:i<fs.length):nmsP (fs.take (i+1))=nmsP (fs.take i)++[(fs.getD i default).1]:=by
 rw[nmsP,nmsP,List.take_add_one,List.getElem?_eq_getElem h,List.getD_eq_getElem?_getD,List.getElem?_eq_getElem h,List.map_append];rfl
theorem nmsP_new{fs:List Fl}(h:fs.Pairwise (fun a b=>a.1.data.toList<b.1.data.toList))(i:Nat)(hi:i<fs.length):(fs.getD i default).1∉nmsP (fs.take i):=by
 intro hm
 obtain ⟨f,hf,e⟩:=List.mem_map.1 hm
 obtain ⟨j,hj,rfl⟩:=List.getElem_of_mem hf
 have hji:j<i:=by rw[List.length_take] at hj;omega
 have h1:=List.pairwise_iff_getElem.1 h j i (by omega) hi hji
 rw[List.getElem_take,List.getD_eq_getElem?_getD,List.getElem?_eq_getElem hi] at e
 simp only[Option.getD_some] at e
 rw[e] at h1
 exact List.lt_irrefl _ h1
def KeysAt(w:World)(base:Nat)(v:Value)(l:List ByteArray):Prop:=w.ownsRow base 9 1 v l.length (l.map fun s=> .string s)
theorem KeysAt.old{w w' :World}{base:Nat}{v:Value}{l:List ByteArray}(h:KeysAt w base v l)(ho:Old w w'):KeysAt w' base v l:=World.ownsRow.kept h (old_grown ho) (by cases v.ownBlock<;>simp)
theorem KeysAt.others{w w' :World}{base b:Nat}{v:Value}{l:List ByteArray}(h:KeysAt w base v l)(hb:b<base)(ho:Lib.OthersKept 5 (some b) w w'):KeysAt w' base v l:=by
 obtain ⟨h1,h2|⟨g,cap,cur,rfl,h3,h4,h5⟩⟩:=h
 ·exact ⟨h1,.inl h2⟩
 refine ⟨h1,.inr ⟨g,cap,cur,rfl,h3,ho g _ h4 (by simp;omega) ?_,h5⟩⟩
 intro c fz e
 injection e with _ e2
 exact absurd e2 (by decide)
theorem KeysAt.shape{w:World}{base:Nat}{v:Value}{l:List ByteArray}(h:KeysAt w base v l): ∃ao cap g,v=.slice ao l.length cap∧(0<l.length→ao=some ⟨g,0,none⟩):=by
 obtain ⟨h1,⟨rfl,h2⟩|⟨g,cap,cur,rfl,h3,h4,h5⟩⟩:=h
 ·exact ⟨none,0,0,by rw[h2],by omega⟩
 exact ⟨_,cap,g,rfl,fun _=>rfl⟩
theorem KeysAt.cell{w:World}{base g cap:Nat}{l:List ByteArray}(h:KeysAt w base (.slice (some ⟨g,0,none⟩) l.length cap) l)(i:Nat)(hi:i<l.length):w.cell? ⟨g,i,none⟩=some (.string (l.getD i ⟨#[]⟩)):=by
 have:=World.ownsRow.cells h (g:=g) rfl i (.string (l.getD i ⟨#[]⟩)) (by rw[List.getElem?_map,List.getD_eq_getElem?_getD,List.getElem?_eq_getElem hi];rfl)
 rw[Addr.add_lit,Nat.zero_add] at this
 exact this
theorem builder_old{w w' :World}{T e:TypeId}{B b:Nat}{bs:List Value}(h:Lib.IsBuilderF T e B b bs w)(ho:Old w w'):Lib.IsBuilderF T e B b bs w' :=by
 have key: ∀p,Lib.BuilderAtF T e B b p bs w→Lib.BuilderAtF T e B b p bs w' :=by
  rintro p ⟨hB,v,hb,hown,hne⟩
  exact ⟨hB,v,old_heap ho hb,hown.kept (old_grown ho) (by cases v.ownBlock<;>simp),hne⟩
 exact h.elim (fun x=> .inl (key _ x)) (fun x=> .inr (key _ x))
theorem builder_new(w:World):Lib.IsBuilderF 142 5 w.heap.size w.heap.size [] (w.alloc (.cells #[.pointer none,.slice none 0 0] 142)):=
 .inl ⟨Nat.le_refl _,.slice none 0 0,Go.heap_alloc_new w _,⟨rfl,.inl ⟨rfl,rfl⟩⟩,by intro h;cases h⟩
theorem FilesAt.any{w:World}{v:Value}{fs:List Fl}(h:FilesAt w v fs)(hp:0<w.heap.size): ∃ao cap g,v=.slice ao fs.length cap∧g<w.heap.size∧(0<fs.length→ao=some ⟨g,0,none⟩)∧ ∀j,j<fs.length→w.cell? ⟨g,j*2,none⟩=some (.string (fs.getD j default).1)∧w.cell? ⟨g,j*2+1,none⟩=some (.string (fs.getD j default).2):=by
 by_cases h0:0<fs.length
 ·obtain ⟨g,cap,rfl,h1,h2⟩:=h.slice h0
  exact ⟨_,cap,g,rfl,h1,fun _=>rfl,h2⟩
 have e:fs.length=0:=by omega
 obtain ⟨_,⟨rfl,_⟩|⟨g,cap,cur,rfl,_⟩⟩:=h
 ·exact ⟨none,0,0,by rw[e],hp,by omega,by omega⟩
 exact ⟨_,cap,0,rfl,hp,by omega,by omega⟩
end Go.Proofs.YtndfmgdhiallpaaGreatDoor
