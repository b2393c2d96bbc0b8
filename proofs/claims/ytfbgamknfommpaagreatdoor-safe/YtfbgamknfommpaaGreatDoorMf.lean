import Derived.Test.YtfbgamknfommpaaGreatDoorMc
import Derived.Test.YtfbgamknfommpaaGreatDoorMe
namespace Go.Proofs.YtfbgamknfommpaaGreatDoor
open Go.RowKit
section
variable {P:Program} {ops:Array Oper} {Q:Exit→Act→World→Prop} {md:Region.Mode} {S:World→Prop} {L:Nat}
theorem any_mem{α:Type}{ar:Array α}{p:α→Bool}(h:ar.any p=true): ∃x∈ar,p x=true:=by
 obtain ⟨i,hi,h⟩:=Array.any_eq_true.1 h
 exact ⟨ar[i],Array.getElem_mem hi,h⟩
def waitsT(md:Region.Mode)(ops:Array Oper):Nat→Nat→Nat→Bool
 |0,_,_=>false
 |f+1,k,i=>match ops[k]? with
  |some o=>o.after.any fun e=>Region.binds md e&&(e.on==i||waitsT md ops f e.on i)
  |none=>false
def Closed(md:Region.Mode)(ops:Array Oper)(ls:Array Bool):Prop:= ∀k o,ops[k]? =some o→ls.getD k false=true→ ∀e∈o.after,Region.binds md e=true→ls.getD e.on false=true
def closedB(md:Region.Mode)(ops:Array Oper)(ls:Array Bool):Bool:=(List.range ops.size).all fun k=> !ls.getD k false||((ops[k]?).map (·.after.all fun e=> !Region.binds md e||ls.getD e.on false)).getD true
theorem closed_of{ls:Array Bool}(h:closedB md ops ls=true):Closed md ops ls:=by
 intro k o ho hk e he hb
 have hks:k<ops.size:=by
  rcases Nat.lt_or_ge k ops.size with h|h
  ·exact h
  rw[Array.getElem?_eq_none h] at ho;cases ho
 have h1:=List.all_eq_true.1 h k (List.mem_range.2 hks)
 rw[hk,ho] at h1
 have h2:o.after.all (fun e=> !Region.binds md e||ls.getD e.on false)=true:=by simpa using h1
 have h3:=Array.all_eq_true_iff_forall_mem.1 h2 e he
 rw[hb] at h3
 simpa using h3
theorem waits_done{ls:Array Bool}(hc:Closed md ops ls): ∀(f k i:Nat),ls.getD k false=true→waitsT md ops f k i=true→ls.getD i false=true
 |0,k,i,_,h=>by cases h
 |f+1,k,i,hk,h=>by
  rw[waitsT] at h
  split at h
  ·rename_i o ho
   obtain ⟨e,he,h1⟩:=any_mem h
   simp only[Bool.and_eq_true,Bool.or_eq_true,beq_iff_eq] at h1
   have hd:=hc k o ho hk e he h1.1
   rcases h1.2 with h2|h2
   ·rw[←h2];exact hd
   exact waits_done hc f e.on i hd h2
  cases h
theorem set_done{ls:Array Bool}{i j:Nat}(h:ls.getD j false=true):(ls.setIfInBounds i true).getD j false=true:=by
 have hj:j<ls.size:=by
  rcases Nat.lt_or_ge j ls.size with h1|h1
  ·exact h1
  rw[Array.getD_eq_getD_getElem?,Array.getElem?_eq_none h1] at h;cases h
 rw[Array.getD_eq_getD_getElem?] at h ⊢
 rw[Array.getElem?_setIfInBounds]
 by_cases e:i=j
 ·subst e;rw[if_pos rfl,if_pos hj];rfl
 rw[if_neg e];exact h
theorem closed_set{ls:Array Bool}{j:Nat}(hc:Closed md ops ls)(hj:j∈Region.ready md ops ls):Closed md ops (ls.setIfInBounds j true):=by
 obtain ⟨_,oj,hoj,hall⟩:=mem_ready.1 hj
 intro k o ho hk e he hb
 by_cases e1:j=k
 ·subst e1
  rw[hoj] at ho;injection ho with ho;subst ho
  exact set_done (hall e he hb)
 refine set_done (hc k o ho ?_ e he hb)
 rw[Array.getD_eq_getD_getElem?,Array.getElem?_setIfInBounds,if_neg e1] at hk
 rw[Array.getD_eq_getD_getElem?];exact hk
theorem last_takeT{i f:Nat}{oi:Oper}{v:Value}(hi:ops[i]? =some oi)(hs:Region.noSelect ops=true)(hne:i≠L)(hL:waitsT md ops (f+1) L i=true)
 (hQ: ∀c a w,Q (.panic c) (a.put oi.dst v) w→Q (.panic c) a w)(n:Nat): ∀(ls:Array Bool) (a:Act) (w:World),Closed md ops ls→
  (∀j oj,ops[j]? =some oj→j≠i→ls.getD j true=false→(∀e∈oj.after,Region.binds md e=true→e.on≠i)→oi.apart ops oj=true)→
  i∈Region.ready md ops ls→YieldsIf P ops S oi v a→S w→
  wpAnyL P md ops Q S L n (ls.setIfInBounds i true) (a.put oi.dst v) w→wpAnyL P md ops Q S L (n+1) ls a w:=by
 induction n with
 |zero=>
  intro ls a w _ _ hr hy hS H
  refine ⟨fun h=>absurd (h ▸ hr) List.not_mem_nil,fun j hj=> ?_⟩
  rcases Nat.decEq j i with hji|rfl
  ·exact absurd (H.1 ▸ ready_mono hj hji) List.not_mem_nil
  exact hy.wpOp hi hS ⟨fun _=>hS,H⟩
 |succ n ih=>
  intro ls a w hcl hfree hr hy hS H
  refine ⟨fun h=>absurd (h ▸ hr) List.not_mem_nil,fun j hj=> ?_⟩
  rcases Nat.decEq j i with hji|rfl
  ·obtain ⟨hun,oj,hoj,hall⟩:=mem_ready.1 hj
   have hi0:=(mem_ready.1 hr).1
   have hin:¬ls.getD i false=true:=by
    intro h1
    by_cases h' :i<ls.size
    ·simp[h'] at hi0 h1;rw[hi0] at h1;cases h1
    simp[Array.getElem?_eq_none (Nat.le_of_not_lt h')] at h1
   have hnot: ∀e∈oj.after,Region.binds md e=true→e.on≠i:=fun e he hb heq=>hin (by rw[←heq];exact hall e he hb)
   have hjL:j≠L:=by
    rintro rfl
    rw[waitsT,hoj] at hL
    obtain ⟨e,he,h1⟩:=any_mem hL
    simp only[Bool.and_eq_true,Bool.or_eq_true,beq_iff_eq] at h1
    have hd:=hall e he h1.1
    rcases h1.2 with h2|h2
    ·exact hnot e he h1.1 h2
    exact hin (waits_done hcl f e.on i hd h2)
   have h2:=wpOp_putIf hoj (hfree j oj hoj hji hun hnot) (fun cs b=>Region.noSelect_spec hs i oi cs b hi) (fun cs b=>Region.noSelect_spec hs j oj cs b hoj) hQ hy (H.2 j (ready_mono hj hji))
   refine wpOp_mono (fun a' w' h3=>⟨h3.2.1,ih (ls.setIfInBounds j true) a' w' (closed_set hcl hj) ?_ (ready_mono hr (Ne.symm hji)) h3.1 (h3.2.1 hjL) ?_⟩) h2
   ·intro k ok hk hki hu hno
    refine hfree k ok hk hki ?_ hno
    by_cases hjk:j=k
    ·subst hjk;exact hun
    rw[getD_set_ne true hjk] at hu;exact hu
   rw[Array.setIfInBounds_comm _ _ hji];exact h3.2.2
  exact hy.wpOp hi hS ⟨fun _=>hS,H⟩
theorem wpAnyL_takeT{i f:Nat}{oi:Oper}{v:Value}{n:Nat}{ls:Array Bool}{a:Act}{w:World}(d:Option Tmp)(hi:ops[i]? =some oi)(hd:oi.dst=d)
 (hs:Region.noSelect ops=true)(hne:i≠L)(hL:waitsT md ops (f+1) L i=true)(hcl:closedB md ops ls=true)(hf:Region.free md ops ls i=true)(hr:(Region.ready md ops ls).contains i=true)
 (hQ: ∀c a w,Q (.panic c) (a.put d v) w→Q (.panic c) a w)(hy:YieldsIf P ops S oi v a)(hS:S w)
 (h:wpAnyL P md ops Q S L n (ls.setIfInBounds i true) (a.put d v) w):wpAnyL P md ops Q S L (n+1) ls a w:=by
 subst hd
 exact last_takeT hi hs hne hL hQ n ls a w (closed_of hcl) (Region.free_spec hi hf) (by simpa using hr) hy hS h
end
theorem tk{P:Program}{ops:Array Oper}{Q:Exit→Act→World→Prop}{md:Region.Mode}{S:World→Prop}{L:Nat}(i f:Nat)(v:Value)(k:Nat){oi:Oper}{n:Nat}{ls:Array Bool}{a:Act}{w:World}{q:Prop}(hS:S w)(g:q)(hi:ops[i]? =some oi:=by rfl)(hd:oi.dst=some k:=by rfl)(hs:Region.noSelect ops=true:=by kernel_rfl)(hne:i≠L:=by decide)(hL:waitsT md ops (f+1) L i=true:=by kernel_rfl)(hcl:closedB md ops ls=true:=by kernel_rfl)(hf:Region.free md ops ls i=true:=by kernel_rfl)(hr:(Region.ready md ops ls).contains i=true:=by kernel_rfl)(hQ: ∀c a w,Q (.panic c) (a.put (some k) v) w→Q (.panic c) a w:=by exact fun _ _ _ h=>h)(hy:YieldsIf P ops S oi v a:=by exact .inl ⟨rfl,fun W hW=>by (repeat obtain ⟨_,hW⟩:=hW);go_simp⟩)(h:q→wpAnyL P md ops Q S L n (ls.setIfInBounds i true) (a.put (some k) v) w:=by intro g;simp only[Act.put,List.setIfInBounds_toArray,List.set_cons_zero,List.set_cons_succ];exact g):wpAnyL P md ops Q S L (n+1) ls a w:=
 wpAnyL_takeT (some k) hi hd hs hne hL hcl hf hr hQ hy hS (h g)
open Go.RowKit Go.Maps
theorem dstBase_pos(d:Nat):1≤dstBase d:=by unfold dstBase;split<;>omega
theorem NumR.ok{s:ByteArray}{a n v a' e' :Nat}(h:NumR s a 0 n v a' e')(he:e' =0):a+n≤8*s.size∧v=numAt s a n∧a' =a+n:=by
 obtain ⟨_,_,⟨h1,h2,h3,_⟩|⟨_,_,h3⟩⟩:=h
 ·exact ⟨h1,h2,h3⟩
 rw[he] at h3;cases h3
theorem NumR.bad{s:ByteArray}{a n v a' e' :Nat}(h:NumR s a 0 n v a' e')(he:e' ≠0):8*s.size<a+n∧e' =2:=by
 obtain ⟨_,_,⟨_,_,_,h3⟩|⟨h1,_,h3⟩⟩:=h
 ·exact absurd h3 he
 exact ⟨h1,h3⟩
theorem NumR.stay{s:ByteArray}{a e n v a' e' :Nat}(h:NumR s a e n v a' e')(he:e≠0):e' =e:=by
 obtain ⟨_,_,⟨_,_,_,h3⟩|⟨h1,_,h3⟩⟩:=h
 ·exact h3
 rw[h3,orE,if_neg he]
theorem CodeR.ok{s:ByteArray}{L:List Nat}{a y a' e' :Nat}(h:CodeR s L a 0 y a' e')(he:e' =0):dec s L a=some (y,a'):=by
 obtain ⟨_,_,⟨h1,_⟩|⟨_,⟨h1,_⟩|⟨_,h1⟩⟩⟩:=h
 ·exact absurd rfl h1
 ·exact h1
 rw[he] at h1;cases h1
theorem CodeR.bad{s:ByteArray}{L:List Nat}{a y a' e' :Nat}(h:CodeR s L a 0 y a' e')(he:e' ≠0):dec s L a=none∧e' =2:=by
 obtain ⟨_,_,⟨h1,_⟩|⟨_,⟨_,h1⟩|⟨h2,h1⟩⟩⟩:=h
 ·exact absurd rfl h1
 ·exact absurd h1 he
 exact ⟨h2,h1⟩
theorem CodeR.stay{s:ByteArray}{L:List Nat}{a e y a' e' :Nat}(h:CodeR s L a e y a' e')(he:e≠0):e' =e∧y=0:=by
 obtain ⟨_,_,⟨_,h2,_,h3⟩|⟨h1,_⟩⟩:=h
 ·exact ⟨h3,h2⟩
 exact absurd h1 he
theorem lenBase_all:(List.range 286).all (fun y=>decide (lenBase y≤258))=true:=by decide+kernel
theorem lenBase_le{y:Nat}(h:y≤285):lenBase y≤258:=by have:=List.all_eq_true.1 lenBase_all y (List.mem_range.2 (by omega));simpa using this
theorem dst_all:(List.range 30).all (fun d=>decide (dstBase d+2^dstBits d≤32769))=true:=by decide+kernel
theorem dst_le{d:Nat}(h:d≤29):dstBase d+2^dstBits d≤32769:=by have:=List.all_eq_true.1 dst_all d (List.mem_range.2 (by omega));simpa using this
theorem own_cell{w:World}{b n cp:Nat}{l:List UInt8}(h:w.ownsRow 0 5 1 (.slice (some ⟨b,0,none⟩) n cp) n (byteCells8 l)){k:Nat}(hk:k<l.length):w.cell? ⟨b,k,none⟩=some (.int .u8 ((l.getD k 0).toNat:Nat)):=by
 have h1:=h.cells rfl k (.int .u8 ((l.getD k 0).toNat:Nat)) (by simp[byteCells8,List.getD_eq_getElem?_getD,hk])
 rw[Addr.add_lit,Nat.zero_add] at h1
 exact h1
theorem b8_toNat'(b:UInt8):b8 b.toNat=b:=by simp[b8]
def cellN(w:World)(g i:Nat):Nat:=match w.cell? ⟨g,i,none⟩ with|some (.int _ n)=>n.toNat|_=>0
theorem cellN_of{w:World}{g i n:Nat}(h:w.cell? ⟨g,i,none⟩=some (.int .i64 n)):cellN w g i=n:=by unfold cellN;rw[h];exact Int.toNat_natCast _
theorem step_none{s:ByteArray}{L D:List Nat}{a:Nat}{l:List UInt8}(h:dec s L a=none):stepS s L D a l=.inl (.inr 2):=by unfold stepS;rw[h]
theorem step_end{s:ByteArray}{L D:List Nat}{a a1:Nat}{l:List UInt8}(h:dec s L a=some (256,a1)):stepS s L D a l=.inl (.inl (a1,l)):=by unfold stepS;rw[h];exact if_pos rfl
theorem step_byte{s:ByteArray}{L D:List Nat}{a a1 y:Nat}{l:List UInt8}(h:dec s L a=some (y,a1))(hy:y<256):stepS s L D a l=if 20000≤l.length then .inl (.inr 1) else .inr (a1,(l++[b8 y])):=by
 unfold stepS;rw[h]
 show (if y=256 then _ else _)=_
 rw[if_neg (by omega),if_pos hy]
theorem step_high{s:ByteArray}{L D:List Nat}{a a1 y:Nat}{l:List UInt8}(h:dec s L a=some (y,a1))(hy:285<y):stepS s L D a l=.inl (.inr 2):=by
 unfold stepS;rw[h]
 show (if y=256 then _ else _)=_
 rw[if_neg (by omega),if_neg (by omega),if_pos hy]
theorem step_copy{s:ByteArray}{L D:List Nat}{a a1 y:Nat}{l:List UInt8}(h:dec s L a=some (y,a1))(h1:256<y)(h2:y≤285):stepS s L D a l=copyS s D y a1 l:=by
 unfold stepS;rw[h]
 show (if y=256 then _ else _)=_
 rw[if_neg (by omega),if_neg (by omega),if_neg (by omega)]
theorem sym_fin{s:ByteArray}{L D:List Nat}{a:Nat}{l:List UInt8}{r:Res}(h:stepS s L D a l=.inl r):symS s L D a l=r:=by rw[symS_step,h]
theorem sym_go{s:ByteArray}{L D:List Nat}{a a' :Nat}{l l' :List UInt8}(h:stepS s L D a l=.inr (a',l')):symS s L D a l=symS s L D a' l' :=by rw[symS_step,h]
def SymR(s:ByteArray)(r:Res)(a' :Nat)(l' :List UInt8)(e' :Nat):Prop:=a' ≤8*s.size∧l'.length≤20000∧((r=.inl (a',l')∧e' =0)∨(r=.inr e' ∧e' ≠0))
theorem fitN_snoc(L:List Nat)(x:Nat):fitN (L++[x])=fitN L+if x=0 then 0 else 2^(15- x):=by simp[fitN]
theorem manyN_snoc(L:List Nat)(x:Nat):manyN (L++[x])=manyN L+if x=0 then 0 else 1:=by
 unfold manyN
 rw[List.filter_append,List.length_append]
 by_cases h:x=0
 ·subst h;simp
 simp[h]
theorem take_getD(L:List Nat)(i:Nat)(h:i<L.length):L.take (i+1)=L.take i++[L.getD i 0]:=by
 rw[List.take_succ_eq_append_getElem h,List.getD_eq_getElem?_getD,List.getElem?_eq_getElem h];rfl
theorem fitN_le(L:List Nat)(i:Nat):fitN (L.take i)≤16384*i∧manyN (L.take i)≤i:=by
 induction i with
 |zero=>simp[fitN,manyN]
 |succ i ih=>
  by_cases h:i<L.length
  ·rw[take_getD L i h,fitN_snoc,manyN_snoc]
   have hp:1≤L.getD i 0→2^(15- L.getD i 0)≤16384:=fun h1=>Nat.pow_le_pow_right (n:=2) (by omega) (show 15- L.getD i 0≤14 by omega)
   constructor
   ·split
    ·omega
    have:=hp (by omega);omega
   split<;>omega
  rw[List.take_of_length_le (by omega)] at ih ⊢
  omega
def intCells(l:List Nat):List Value:=l.map fun (n:Nat)=>Value.int .i64 (n:Int)
theorem intCells_get(l:List Nat)(j:Nat)(h:j<l.length):(intCells l)[j]? =some (.int .i64 (l.getD j 0:Nat)):=by
 simp[intCells,List.getD_eq_getElem?_getD,h]
theorem infoI3:(Tryz.prog.info? 3).map (fun i=>(i.zero,i.size,i.bytes))=some (some (.int .i64 0),1,8):=by kernel_rfl
theorem int_new{wr:World}{n:Int}: ∀j u,[Value.int .i64 n][j]? =some u→(wr.alloc (.cells #[.int .i64 n] 3)).cell? ((⟨wr.heap.size,0,none⟩:Addr).add j)=some u:=by
 intro j u hu
 rw[Addr.add_lit,Nat.zero_add,cell_of_row _ _ j _ 3 (0,0) (Go.heap_alloc_new wr _)]
 simpa using hu
theorem own_base{w:World}{base:Nat}{e:TypeId}{v:Value}{n:Nat}{xs:List Value}(h:w.ownsRow base e 1 v n xs): ∀b,v.ownBlock=some b→base≤b:=by
 intro b hb
 obtain ⟨_,h|⟨b',cap,cur,hv,h1,_⟩⟩:=h
 ·rw[h.1] at hb;cases hb
 rw[hv] at hb;injection hb with hb;subst hb;exact h1
theorem Ints.ofOwns{w:World}{base gl cap n:Nat}{l:List Nat}(hn:l.length=n)(h:w.ownsRow base 3 1 (.slice (some ⟨gl,0,none⟩) n cap) n (intCells l)):Ints w gl 0 l:=by
 obtain ⟨hl,h|⟨g',c',cur,hv,_,hg,hle,_,hs,ht⟩⟩:=h
 ·cases h.1
 injection hv with hv1 hv2 hv3
 injection hv1 with hv1
 injection hv1 with hv1
 subst hv1
 refine ⟨cur,hg,fun j hj=> ?_⟩
 rw[←intCells_get l j hj,←ht,List.getElem?_take,if_pos (by omega),Array.getElem?_toList,Nat.zero_add]
theorem fixL_len:fixL.length=288:=by rw[fixL,List.length_append,List.length_append,List.length_append,List.length_replicate,List.length_replicate,List.length_replicate,List.length_replicate]
theorem fixL_all:(List.range 288).all (fun i=>decide (fixL.getD i 0=if i<144 then 8 else if i<256 then 9 else if i<280 then 7 else 8))=true:=by decide+kernel
theorem fixL_get(i:Nat)(h:i<288):fixL.getD i 0=if i<144 then 8 else if i<256 then 9 else if i<280 then 7 else 8:=by
 have:=List.all_eq_true.1 fixL_all i (List.mem_range.2 h);simpa using this
theorem fixL_val(i:Nat)(h:i<288){n:Nat}(hn:(if i<144 then 8 else if i<256 then 9 else if i<280 then 7 else 8)=n):fixL.getD i 0=n:=(fixL_get i h).trans hn
end Go.Proofs.YtfbgamknfommpaaGreatDoor
