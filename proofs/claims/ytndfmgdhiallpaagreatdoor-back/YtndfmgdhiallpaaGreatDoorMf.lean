import Derived.Test.YtndfmgdhiallpaaGreatDoorMc
import Derived.Test.YtndfmgdhiallpaaGreatDoorMe
set_option maxRecDepth 100000
set_option maxHeartbeats 2000000
namespace Go.Proofs.YtndfmgdhiallpaaGreatDoor
open Go.RowKit
section
variable {P:Program} {ops:Array Oper} {Q:Exit→Act→World→Prop} {md:Region.Mode} {S:World→Prop} {L:Nat}
theorem any_mem{α:Type}{ar:Array α}{p:α→Bool}(h:ar.any p=true): ∃x∈ar,p x=true:=by
 obtain ⟨i,hi,h⟩:=Array.any_eq_true.1 h
 exact ⟨ar[i],Array.getElem_mem hi,h⟩
def waitsT(md:Region.Mode)(ops:Array Oper):Nat→Nat→Nat→Bool
 |0,_,_=>false
 |f+1,k,i=>match ops[k]? with
  |some o=>o.after.any fun e=>Region.binds md e&&(e.on==i||waitsT md ops f e.on i)
  |none=>false
def Closed(md:Region.Mode)(ops:Array Oper)(ls:Array Bool):Prop:= ∀k o,ops[k]? =some o→ls.getD k false=true→ ∀e∈o.after,Region.binds md e=true→ls.getD e.on false=true
def closedB(md:Region.Mode)(ops:Array Oper)(ls:Array Bool):Bool:=(List.range ops.size).all fun k=> !ls.getD k false||((ops[k]?).map (·.after.all fun e=> !Region.binds md e||ls.getD e.on false)).getD true
theorem closed_of{ls:Array Bool}(h:closedB md ops ls=true):Closed md ops ls:=by
 intro k o ho hk e he hb
 have hks:k<ops.size:=by
  rcases Nat.lt_or_ge k ops.size with h|h
  ·exact h
  rw[Array.getElem?_eq_none h] at ho;cases ho
 have h1:=List.all_eq_true.1 h k (List.mem_range.2 hks)
 rw[hk,ho] at h1
 have h2:o.after.all (fun e=> !Region.binds md e||ls.getD e.on false)=true:=by simpa using h1
 have h3:=Array.all_eq_true_iff_forall_mem.1 h2 e he
 rw[hb] at h3
 simpa using h3
theorem waits_done{ls:Array Bool}(hc:Closed md ops ls): ∀(f k i:Nat),ls.getD k false=true→waitsT md ops f k i=true→ls.getD i false=true
 |0,k,i,_,h=>by cases h
 |f+1,k,i,hk,h=>by
  rw[waitsT] at h
  split at h
  ·rename_i o ho
   obtain ⟨e,he,h1⟩:=any_mem h
   simp only[Bool.and_eq_true,Bool.or_eq_true,beq_iff_eq] at h1
   have hd:=hc k o ho hk e he h1.1
   rcases h1.2 with h2|h2
   ·rw[←h2];exact hd
   exact waits_done hc f e.on i hd h2
  cases h
theorem set_done{ls:Array Bool}{i j:Nat}(h:ls.getD j false=true):(ls.setIfInBounds i true).getD j false=true:=by
 have hj:j<ls.size:=by
  rcases Nat.lt_or_ge j ls.size with h1|h1
  ·exact h1
  rw[Array.getD_eq_getD_getElem?,Array.getElem?_eq_none h1] at h;cases h
 rw[Array.getD_eq_getD_getElem?] at h ⊢
 rw[Array.getElem?_setIfInBounds]
 by_cases e:i=j
 ·subst e;rw[if_pos rfl,if_pos hj];rfl
 rw[if_neg e];exact h
theorem closed_set{ls:Array Bool}{j:Nat}(hc:Closed md ops ls)(hj:j∈Region.ready md ops ls):Closed md ops (ls.setIfInBounds j true):=by
 obtain ⟨_,oj,hoj,hall⟩:=mem_ready.1 hj
 intro k o ho hk e he hb
 by_cases e1:j=k
 ·subst e1
  rw[hoj] at ho;injection ho with ho;subst ho
  exact set_done (hall e he hb)
 refine set_done (hc k o ho ?_ e he hb)
 rw[Array.getD_eq_getD_getElem?,Array.getElem?_setIfInBounds,if_neg e1] at hk
 rw[Array.getD_eq_getD_getElem?];exact hk
theorem last_takeT{i f:Nat}{oi:Oper}{v:Value}(hi:ops[i]? =some oi)(hs:Region.noSelect ops=true)(hne:i≠L)(hL:waitsT md ops (f+1) L i=true)
 (hQ: ∀c a w,Q (.panic c) (a.put oi.dst v) w→Q (.panic c) a w)(n:Nat): ∀(ls:Array Bool) (a:Act) (w:World),Closed md ops ls→
  (∀j oj,ops[j]? =some oj→j≠i→ls.getD j true=false→(∀e∈oj.after,Region.binds md e=true→e.on≠i)→oi.apart ops oj=true)→
  i∈Region.ready md ops ls→YieldsIf P ops S oi v a→S w→
  wpAnyL P md ops Q S L n (ls.setIfInBounds i true) (a.put oi.dst v) w→wpAnyL P md ops Q S L (n+1) ls a w:=by
 induction n with
 |zero=>
  intro ls a w _ _ hr hy hS H
  refine ⟨fun h=>absurd (h ▸ hr) List.not_mem_nil,fun j hj=> ?_⟩
  rcases Nat.decEq j i with hji|rfl
  ·exact absurd (H.1 ▸ ready_mono hj hji) List.not_mem_nil
  exact hy.wpOp hi hS ⟨fun _=>hS,H⟩
 |succ n ih=>
  intro ls a w hcl hfree hr hy hS H
  refine ⟨fun h=>absurd (h ▸ hr) List.not_mem_nil,fun j hj=> ?_⟩
  rcases Nat.decEq j i with hji|rfl
  ·obtain ⟨hun,oj,hoj,hall⟩:=mem_ready.1 hj
   have hi0:=(mem_ready.1 hr).1
   have hin:¬ls.getD i false=true:=by
    intro h1
    by_cases h' :i<ls.size
    ·simp[h'] at hi0 h1;rw[hi0] at h1;cases h1
    simp[Array.getElem?_eq_none (Nat.le_of_not_lt h')] at h1
   have hnot: ∀e∈oj.after,Region.binds md e=true→e.on≠i:=fun e he hb heq=>hin (by rw[←heq];exact hall e he hb)
   have hjL:j≠L:=by
    rintro rfl
    rw[waitsT,hoj] at hL
    obtain ⟨e,he,h1⟩:=any_mem hL
    simp only[Bool.and_eq_true,Bool.or_eq_true,beq_iff_eq] at h1
    have hd:=hall e he h1.1
    rcases h1.2 with h2|h2
    ·exact hnot e he h1.1 h2
    exact hin (waits_done hcl f e.on i hd h2)
   have h2:=wpOp_putIf hoj (hfree j oj hoj hji hun hnot) (fun cs b=>Region.noSelect_spec hs i oi cs b hi) (fun cs b=>Region.noSelect_spec hs j oj cs b hoj) hQ hy (H.2 j (ready_mono hj hji))
   refine wpOp_mono (fun a' w' h3=>⟨h3.2.1,ih (ls.setIfInBounds j true) a' w' (closed_set hcl hj) ?_ (ready_mono hr (Ne.symm hji)) h3.1 (h3.2.1 hjL) ?_⟩) h2
   ·intro k ok hk hki hu hno
    refine hfree k ok hk hki ?_ hno
    by_cases hjk:j=k
    ·subst hjk;exact hun
    rw[getD_set_ne true hjk] at hu;exact hu
   rw[Array.setIfInBounds_comm _ _ hji];exact h3.2.2
  exact hy.wpOp hi hS ⟨fun _=>hS,H⟩
theorem wpAnyL_takeT{i f:Nat}{oi:Oper}{v:Value}{n:Nat}{ls:Array Bool}{a:Act}{w:World}(d:Option Tmp)(hi:ops[i]? =some oi)(hd:oi.dst=d)
 (hs:Region.noSelect ops=true)(hne:i≠L)(hL:waitsT md ops (f+1) L i=true)(hcl:closedB md ops ls=true)(hf:Region.free md ops ls i=true)(hr:(Region.ready md ops ls).contains i=true)
 (hQ: ∀c a w,Q (.panic c) (a.put d v) w→Q (.panic c) a w)(hy:YieldsIf P ops S oi v a)(hS:S w)
 (h:wpAnyL P md ops Q S L n (ls.setIfInBounds i true) (a.put d v) w):wpAnyL P md ops Q S L (n+1) ls a w:=by
 subst hd
 exact last_takeT hi hs hne hL hQ n ls a w (closed_of hcl) (Region.free_spec hi hf) (by simpa using hr) hy hS h
end
theorem tk{P:Program}{ops:Array Oper}{Q:Exit→Act→World→Prop}{md:Region.Mode}{S:World→Prop}{L:Nat}(i f:Nat)(v:Value)(k:Nat){oi:Oper}{n:Nat}{ls:Array Bool}{a:Act}{w:World}{q:Prop}(hS:S w)(g:q)(hi:ops[i]? =some oi:=by rfl)(hd:oi.dst=some k:=by rfl)(hs:Region.noSelect ops=true:=by kernel_rfl)(hne:i≠L:=by decide)(hL:waitsT md ops (f+1) L i=true:=by kernel_rfl)(hcl:closedB md ops ls=true:=by kernel_rfl)(hf:Region.free md ops ls i=true:=by kernel_rfl)(hr:(Region.ready md ops ls).contains i=true:=by kernel_rfl)(hQ: ∀c a w,Q (.panic c) (a.put (some k) v) w→Q (.panic c) a w:=by exact fun _ _ _ h=>h)(hy:YieldsIf P ops S oi v a:=by exact .inl ⟨rfl,fun W hW=>by (repeat obtain ⟨_,hW⟩:=hW);go_simp⟩)(h:q→wpAnyL P md ops Q S L n (ls.setIfInBounds i true) (a.put (some k) v) w:=by intro g;simp only[Act.put,List.setIfInBounds_toArray,List.set_cons_zero,List.set_cons_succ];exact g):wpAnyL P md ops Q S L (n+1) ls a w:=
 wpAnyL_takeT (some k) hi hd hs hne hL hcl hf hr hQ hy hS (h g)
open Go.RowKit Go.Maps
theorem dstBase_pos(d:Nat):1≤dstBase d:=by unfold dstBase;split<;>omega
theorem NumR.le{s:ByteArray}{a e n v a' e' :Nat}(h:NumR s a e n v a' e')(ha:a≤8*s.size):a≤a' ∧a' ≤8*s.size:=by
 obtain ⟨_,h1,⟨_,_,h3,_⟩|⟨_,h3,_⟩⟩:=h<;>omega
theorem NumR.ok{s:ByteArray}{a n v a' e' :Nat}(h:NumR s a 0 n v a' e')(he:e' =0):a+n≤8*s.size∧v=numAt s a n∧a' =a+n:=by
 obtain ⟨_,_,⟨h1,h2,h3,_⟩|⟨_,_,h3⟩⟩:=h
 ·exact ⟨h1,h2,h3⟩
 rw[he] at h3;cases h3
theorem NumR.bad{s:ByteArray}{a n v a' e' :Nat}(h:NumR s a 0 n v a' e')(he:e' ≠0):8*s.size<a+n∧e' =2:=by
 obtain ⟨_,_,⟨_,_,_,h3⟩|⟨h1,_,h3⟩⟩:=h
 ·exact absurd h3 he
 exact ⟨h1,h3⟩
theorem NumR.stay{s:ByteArray}{a e n v a' e' :Nat}(h:NumR s a e n v a' e')(he:e≠0):e' =e:=by
 obtain ⟨_,_,⟨_,_,_,h3⟩|⟨h1,_,h3⟩⟩:=h
 ·exact h3
 rw[h3,orE,if_neg he]
theorem CodeR.ok{s:ByteArray}{L:List Nat}{a y a' e' :Nat}(h:CodeR s L a 0 y a' e')(he:e' =0):dec s L a=some (y,a'):=by
 obtain ⟨_,_,⟨h1,_⟩|⟨_,⟨h1,_⟩|⟨_,h1⟩⟩⟩:=h
 ·exact absurd rfl h1
 ·exact h1
 rw[he] at h1;cases h1
theorem CodeR.bad{s:ByteArray}{L:List Nat}{a y a' e' :Nat}(h:CodeR s L a 0 y a' e')(he:e' ≠0):dec s L a=none∧e' =2:=by
 obtain ⟨_,_,⟨h1,_⟩|⟨_,⟨_,h1⟩|⟨h2,h1⟩⟩⟩:=h
 ·exact absurd rfl h1
 ·exact absurd h1 he
 exact ⟨h2,h1⟩
theorem CodeR.stay{s:ByteArray}{L:List Nat}{a e y a' e' :Nat}(h:CodeR s L a e y a' e')(he:e≠0):e' =e∧y=0:=by
 obtain ⟨_,_,⟨_,h2,_,h3⟩|⟨h1,_⟩⟩:=h
 ·exact ⟨h3,h2⟩
 exact absurd h1 he
theorem copy_far{s:ByteArray}{D:List Nat}{y a v1 a1 e1 d a2 e2:Nat}(l:List UInt8)(h1:NumR s a 0 (lenBits y) v1 a1 e1)(h2:CodeR s D a1 e1 d a2 e2)(hd:29<d):copyS s D y a l=.inl (.inr 2)∧orE e2 2=2:=by
 unfold copyS
 by_cases he1:e1=0
 ·obtain ⟨g1,g2,g3⟩:=h1.ok he1
  subst he1 g3
  rw[if_neg (by omega)]
  by_cases he2:e2=0
  ·rw[h2.ok he2]
   subst he2
   exact ⟨if_pos hd,rfl⟩
  rw[(h2.bad he2).1,(h2.bad he2).2];exact ⟨rfl,rfl⟩
 have:=(h2.stay he1).2;omega
theorem copy_bad{s:ByteArray}{D:List Nat}{y a v1 a1 e1 d a2 e2 v3 a3 e3:Nat}(l:List UInt8)(h1:NumR s a 0 (lenBits y) v1 a1 e1)(h2:CodeR s D a1 e1 d a2 e2)(hd:¬29<d)(h3:NumR s a2 e2 (dstBits d) v3 a3 e3)(he:e3≠0):copyS s D y a l=.inl (.inr 2)∧e3=2:=by
 unfold copyS
 by_cases he1:e1=0
 ·obtain ⟨g1,g2,g3⟩:=h1.ok he1
  subst he1 g3
  rw[if_neg (by omega)]
  by_cases he2:e2=0
  ·rw[h2.ok he2]
   subst he2
   obtain ⟨k1,k2⟩:=h3.bad he
   refine ⟨?_,k2⟩
   show (if 29<d then _ else _)=_
   rw[if_neg hd,if_pos k1]
  rw[(h2.bad he2).1,h3.stay he2,(h2.bad he2).2];exact ⟨rfl,rfl⟩
 obtain ⟨g1,g2⟩:=h1.bad he1
 rw[if_pos g1]
 refine ⟨rfl, ?_⟩
 have e2' :=(h2.stay he1).1
 have:e2≠0:=by omega
 rw[h3.stay this,e2',g2]
theorem copy_ok{s:ByteArray}{D:List Nat}{y a v1 a1 e1 d a2 e2 v3 a3 e3:Nat}(l:List UInt8)(h1:NumR s a 0 (lenBits y) v1 a1 e1)(h2:CodeR s D a1 e1 d a2 e2)(hd:¬29<d)(h3:NumR s a2 e2 (dstBits d) v3 a3 e3)(he:e3=0):
 copyS s D y a l=if l.length<dstBase d+v3 then .inl (.inr 2) else if 20000<l.length+(lenBase y+v1) then .inl (.inr 1) else .inr (a3,(copyL l (dstBase d+v3) (lenBase y+v1))):=by
 have he2:e2=0:=by
  by_cases h:e2=0
  ·exact h
  rw[h3.stay h] at he;exact absurd he h
 have he1:e1=0:=by
  by_cases h:e1=0
  ·exact h
  rw[(h2.stay h).1] at he2;exact absurd he2 h
 subst he1 he2
 obtain ⟨g1,g2,g3⟩:=h1.ok rfl
 subst g3
 obtain ⟨k1,k2,k3⟩:=h3.ok he
 unfold copyS
 rw[if_neg (by omega),h2.ok rfl]
 show (if 29<d then _ else _)=_
 rw[if_neg hd,if_neg (by omega),←k2,←g2,←k3]
theorem lenBase_all:(List.range 286).all (fun y=>decide (lenBase y≤258))=true:=by decide+kernel
theorem lenBase_le{y:Nat}(h:y≤285):lenBase y≤258:=by have:=List.all_eq_true.1 lenBase_all y (List.mem_range.2 (by omega));simpa using this
theorem dst_all:(List.range 30).all (fun d=>decide (dstBase d+2^dstBits d≤32769))=true:=by decide+kernel
theorem dst_le{d:Nat}(h:d≤29):dstBase d+2^dstBits d≤32769:=by have:=List.all_eq_true.1 dst_all d (List.mem_range.2 (by omega));simpa using this
def CopR(s:ByteArray)(D:List Nat)(y a:Nat)(l:List UInt8)(a' :Nat)(l' :List UInt8)(e' :Nat):Prop:=(a≤a' ∧a' ≤8*s.size)∧((copyS s D y a l=.inr (a',l')∧e' =0)∨(copyS s D y a l=.inl (.inr e')∧e' ≠0∧l' =l))
theorem own_cell{w:World}{b n cp:Nat}{l:List UInt8}(h:w.ownsRow 0 5 1 (.slice (some ⟨b,0,none⟩) n cp) n (byteCells8 l)){k:Nat}(hk:k<l.length):w.cell? ⟨b,k,none⟩=some (.int .u8 ((l.getD k 0).toNat:Nat)):=by
 have h1:=h.cells rfl k (.int .u8 ((l.getD k 0).toNat:Nat)) (by simp[byteCells8,List.getD_eq_getElem?_getD,hk])
 rw[Addr.add_lit,Nat.zero_add] at h1
 exact h1
theorem b8_toNat'(b:UInt8):b8 b.toNat=b:=by simp[b8]
theorem copied_any(g:Nat)(S:Nat→Prop)(hSg:S g)(s:ByteArray)(hs:s.size≤140737488355328)(a:Nat)(l:List UInt8)(hl:l.length≤20000)(y:Nat)(hy:257≤y)(hy2:y≤285)(ha:a≤8*s.size)
 (gd off cap:Nat)(D:List Nat)(hD:D.length≤400)(w:World)(hF:Fresh S w)(h:St w g S s a l 0)(hI:Ints w gd off D):
 Calls Tryz.prog 286 #[.pointer (some ⟨g,0,none⟩),.int .i64 y,.slice (some ⟨gd,off,none⟩) D.length cap] w fun r w' =>
  r=.returned (.tuple #[])∧Only S w w' ∧ ∃a' l' e',CopR s D y a l a' l' e' ∧St w' g S s a' l' e' :=by
 obtain ⟨ao,cp,hr,how,hsa⟩:=h
 have hne:=hI.ne hr
 have HLN:=hide (length_any g s hs a (.slice ao l.length cp) 0 y hy hy2 ha w hr)
 have HR:=hide hr
 have HOW:=hide how
 have HSA:=hide hsa
 have HI:=hide hI
 clear hr how hsa hI
 go_in
 go_wp2_with fail
 refine (uh HLN).mono ?_
 rintro r w1 ⟨v1,a1,e1,rfl,h1,hr1,ho1⟩
 have hle1:=h1.le ha
 have HCD:=hide (code_any g s hs a1 (.slice ao l.length cp) e1 h1.2.1 gd off cap D hD w1 hr1 ((uh HI).kept ho1 hne))
 have H1:=hide h1
 have hv1:v1<32:=by have:=h1.1;have h5:2^lenBits y≤2^5:=Nat.pow_le_pow_right (by omega) (by unfold lenBits;repeat (first|split|omega));omega
 have hlb:=lenBase_le hy2
 have hnl:lenBase y+v1≤300:=by omega
 clear HLN h1 hlb hv1
 generalize hnn:lenBase y+v1=nn at hnl ⊢
 have HNN:=hide hnn
 clear hnn
 go_wp2_with fail
 refine (uh HCD).mono ?_
 rintro r w2 ⟨d,a2,e2,rfl,h2,hr2,ho2⟩
 have HO2:=hide (ho1.trans ho2)
 have H2:=hide h2
 have hd400:d≤400:=Nat.le_trans h2.2.1 hD
 clear hr1 ho1 ho2 HCD
 by_cases hd:29<d
 ·have HFA:=hide (fail_any g s a2 (.slice ao l.length cp) e2 2 w2 hr2)
  have ha2:a≤a2∧a2≤8*s.size:=⟨Nat.le_trans hle1.1 h2.1.1,h2.1.2⟩
  clear h2 hr2
  go_wp2_with fail
  refine (uh HFA).mono ?_
  rintro r w3 ⟨rfl,hr3,ho3⟩
  go_wp2_with fail
  refine bodyPost_ret (results_none rfl _ _ _) rfl ?_
  obtain ⟨k1,k2⟩:=copy_far l (uh H1) (uh H2) hd
  rw[k2] at hr3
  have hO:=(uh HO2).trans ho3
  exact ⟨rfl,hO.of_g hSg,a2,l,2,⟨ha2,.inr ⟨k1,by omega,rfl⟩⟩,St.next (uh HR) (uh HOW) (uh HSA) hO hr3⟩
 have HDS:=hide (distance_any g s hs a2 (.slice ao l.length cp) e2 d (by omega) h2.1.2 w2 hr2)
 have hle2:a≤a2:=Nat.le_trans hle1.1 h2.1.1
 have hle3:=h2.1.2
 clear h2 hr2
 go_wp2_with fail
 refine (uh HDS).mono ?_
 rintro r w3 ⟨v3,a3,e3,rfl,h3,hr3,ho3⟩
 have HO3:=hide ((uh HO2).trans ho3)
 have H3:=hide h3
 have ha3:a≤a3∧a3≤8*s.size:=⟨Nat.le_trans hle2 (h3.le hle3).1,h3.2.1⟩
 have hc2:=hr3.c2
 have hc3:=hr3.c3
 have HR3:=hide hr3
 have hfl:dstBase d+v3≤32769:=by have:=dst_le (d:=d) (by omega);have:=h3.1;omega
 have hf1:1≤dstBase d+v3:=by have:=dstBase_pos d;omega
 have HOK:=hide (copy_ok l (uh H1) (uh H2) hd (uh H3))
 rw[uh HNN] at HOK
 have HBD:=hide (copy_bad l (uh H1) (uh H2) hd (uh H3))
 clear ho3 HO2 HDS h3 hr3 H1 H2 H3 HNN
 generalize dstBase d+v3=far at*
 by_cases hfar:l.length<far
 ·have HFA:=hide (fail_any g s a3 (.slice ao l.length cp) e3 2 w3 (uh HR3))
  have HE:Hid (copyS s D y a l=.inl (.inr (orE e3 2))∧orE e3 2≠0):=by
   by_cases he3:e3=0
   ·have:=uh HOK he3
    rw[if_pos hfar] at this
    subst he3
    exact ⟨this,by decide⟩
   obtain ⟨k1,k2⟩:=uh HBD he3
   subst k2
   exact ⟨k1,by decide⟩
  have hfI:(l.length:Int)<(far:Int):=by omega
  go_wp2_with fail
  refine (uh HFA).mono ?_
  rintro r w4 ⟨rfl,hr4,ho4⟩
  have HO4:=hide ((uh HO3).trans ho4)
  have hc4:=hr4.c3
  have HR4:=hide hr4
  have hb:((orE e3 2:Nat)==(0:Int))=false:=by rw[beq_eq_false_iff_ne];have:=(uh HE).2;omega
  clear ho4 hr4 hc3
  generalize orE e3 2=e4 at*
  go_wp2_with fail
  go_loop [9] (fun i=>i=.int .i64 0) (fun _=>0)
  ·rfl
  subst hrel
  by_cases hnn:0<nn
  ·have hnI:(0:Int)<(nn:Int):=by omega
   go_wp2_with fail
   go_end0
   exact ⟨rfl,(uh HO4).of_g hSg,a3,l,e4,⟨ha3,.inr ⟨(uh HE).1,(uh HE).2,rfl⟩⟩,St.next (uh HR) (uh HOW) (uh HSA) (uh HO4) (uh HR4)⟩
  have hnI:¬(0:Int)<(nn:Int):=by omega
  go_wp2_with fail
  go_end0
  exact ⟨rfl,(uh HO4).of_g hSg,a3,l,e4,⟨ha3,.inr ⟨(uh HE).1,(uh HE).2,rfl⟩⟩,St.next (uh HR) (uh HOW) (uh HSA) (uh HO4) (uh HR4)⟩
 have hfI:¬(l.length:Int)<(far:Int):=by omega
 by_cases he3:e3=0
 ·subst he3
  have HK:=hide (uh HOK rfl)
  rw[if_neg hfar] at HK
  clear HOK HBD
  have hc3' :w3.cell? ⟨g,3,none⟩=some (.int .i64 0):=hc3
  by_cases hbig:20000<l.length+nn
  ·have hbI:(20000:Int)<(l.length:Int)+(nn:Int):=by omega
   rw[if_pos hbig] at HK
   have HFA:=hide (fail_any g s a3 (.slice ao l.length cp) 0 1 w3 (uh HR3))
   clear hc3
   go_wp2_with fail
   refine (uh HFA).mono ?_
   rintro r w4 ⟨rfl,hr4,ho4⟩
   have HO4:=hide ((uh HO3).trans ho4)
   have hr4' :Rd w4 g s a3 (.slice ao l.length cp) 1:=hr4
   have hc4:w4.cell? ⟨g,3,none⟩=some (.int .i64 1):=hr4'.c3
   have HR4:=hide hr4'
   clear ho4 hr4 hr4' hc3'
   go_wp2_with fail
   go_loop [9] (fun i=>i=.int .i64 0) (fun _=>0)
   ·rfl
   subst hrel
   by_cases hnn:0<nn
   ·have hnI:(0:Int)<(nn:Int):=by omega
    go_wp2_with fail
    go_end0
    exact ⟨rfl,(uh HO4).of_g hSg,a3,l,1,⟨ha3,.inr ⟨uh HK,by omega,rfl⟩⟩,St.next (uh HR) (uh HOW) (uh HSA) (uh HO4) (uh HR4)⟩
   have hnI:¬(0:Int)<(nn:Int):=by omega
   go_wp2_with fail
   go_end0
   exact ⟨rfl,(uh HO4).of_g hSg,a3,l,1,⟨ha3,.inr ⟨uh HK,by omega,rfl⟩⟩,St.next (uh HR) (uh HOW) (uh HSA) (uh HO4) (uh HR4)⟩
  have hbI:¬(20000:Int)<(l.length:Int)+(nn:Int):=by omega
  rw[if_neg hbig] at HK
  have HST:=hide (St.next (uh HR) (uh HOW) (uh HSA) (uh HO3) (uh HR3))
  have HO3S:=hide ((uh HO3).of_g hSg)
  clear HR HOW HSA HO3 HR3 hc3
  go_wp2_with fail
  clear hc2 hc3'
  go_loopw [9] (fun i wr=> ∃j:Nat,j≤nn∧i=.int .i64 j∧Hid (St wr g S s a3 (copyL l far j) 0)∧Hid (Only S w wr)) (fun i _=>nn- (intOf i).toNat)
  ·exact ⟨0,by omega,rfl,HST,HO3S⟩
  obtain ⟨j,hj,rfl,HST,HO⟩:=hrel
  obtain ⟨ao,cp,hr,how,hsa⟩:=uh HST
  have hc2:=hr.c2
  have hc3:wr.cell? ⟨g,3,none⟩=some (.int .i64 0):=hr.c3
  by_cases hjn:j<nn
  ·have hjI:(j:Int)<(nn:Int):=by omega
   have hlj:=copyL_len l far j
   obtain ⟨b,cp',hvv,_,_⟩:=how.form (by omega)
   injection hvv with hv1 hv2 hv3
   subst hv1 hv3
   have HNX:Hid (copyL l far (j+1)=copyL l far j++[(copyL l far j).getD ((copyL l far j).length- far) 0]):=hide rfl
   have hce:=own_cell how (k:=(copyL l far j).length- far) (by omega)
   have hcb:=byte_lt ((copyL l far j).getD ((copyL l far j).length- far) 0)
   have HWR:=hide (write_room g S hSg s a3 (copyL l far j) (by omega) 0 _ hcb wr.drew (show Fresh S wr.drew from hF.mono (uh HO).size) (show St wr.drew g S s a3 (copyL l far j) 0 from uh HST))
   rw[b8_toNat',←uh HNX] at HWR
   have hlf:far≤(copyL l far j).length:=by omega
   have hl2:(copyL l far j).length≤20300:=by omega
   clear hlj HNX hr how hsa HST
   generalize ((copyL l far j).getD ((copyL l far j).length- far) 0).toNat=c at*
   generalize (copyL l far j).length=nl at*
   obtain ⟨kk,hkk⟩: ∃kk,kk=nl- far:=⟨_,rfl⟩
   rw[←hkk] at hce
   have hkI:(nl:Int)- (far:Int)=(kk:Int):=by omega
   have hk0:(0:Int)≤(kk:Int):=by omega
   have hkw:IntKind.i64.wrap (kk:Int)=(kk:Int):=i64_wrap_nat kk (by omega)
   have hk1:(kk:Int)<(nl:Int):=by omega
   clear hkk
   have HSW:wr.drew.cell? ⟨g,2,none⟩=some (.slice (some ⟨b,0,none⟩) nl cp)∧wr.drew.cell? ⟨b,kk,none⟩=some (.int .u8 c):=⟨hc2,hce⟩
   go_upto_region 12 with fail
   refine wp_region_last (S:=fun W=>W.cell? ⟨g,2,none⟩=some (.slice (some ⟨b,0,none⟩) nl cp)∧W.cell? ⟨b,kk,none⟩=some (.int .u8 c)) (L:=14) (by kernel_rfl) ?_
   refine tk 0 15 (.pointer (some ⟨g,0,none⟩)) 61 HSW ?_
   refine tk 1 15 (.pointer (some ⟨g,0,none⟩)) 62 HSW ?_
   refine tk 2 15 (.pointer (some ⟨g,0,none⟩)) 63 HSW ?_
   refine tk 3 15 (.pointer (some ⟨g,2,none⟩)) 64 HSW ?_
   refine tk 4 15 (.slice (some ⟨b,0,none⟩) nl cp) 65 HSW ?_
   refine tk 5 15 (.pointer (some ⟨g,0,none⟩)) 66 HSW ?_
   refine tk 6 15 (.pointer (some ⟨g,0,none⟩)) 67 HSW ?_
   refine tk 7 15 (.pointer (some ⟨g,2,none⟩)) 68 HSW ?_
   refine tk 8 15 (.slice (some ⟨b,0,none⟩) nl cp) 69 HSW ?_
   refine tk 9 15 (.int .i64 nl) 70 HSW ?_
   refine tk 10 15 (.int .i64 far) 71 HSW ?_
   refine tk 11 15 (.int .i64 kk) 72 HSW ?_
   refine tk 12 15 (.pointer (some ⟨b,kk,none⟩)) 73 HSW ?_
   refine tk 13 15 (.int .u8 c) 74 HSW ?_
   refine wpAnyL_one (i:=14) (by kernel_rfl) ?_
   refine wpOp_step rfl (fun K' hK=> ?_)
   go_simp
   refine (uh HWR).mono ?_
   rintro r w5 ⟨rfl,ho5,hst5⟩
   refine hK _ _ ⟨fun h=>absurd rfl h, ?_⟩
   clear hK
   refine wpAnyL_done (by kernel_rfl) ?_
   have HO5:=hide ((uh HO).drew.trans ho5)
   have HST5:=hide hst5
   clear ho5 hst5
   go_wp2_with fail
   go_roundw
   ·exact ⟨j+1,by omega,by go_num,HST5,HO5⟩
   case measure=>simp[intOf];omega
  have hjI:¬(j:Int)<(nn:Int):=by omega
  have hje:j=nn:=by omega
  clear hr how hsa
  go_wp2_with fail
  go_end0
  subst hje
  exact ⟨rfl,HO,a3,_,0,⟨ha3,.inl ⟨uh HK,rfl⟩⟩,HST⟩
 have HE:=hide (uh HBD he3)
 have hb:((e3:Int)==0)=false:=by rw[beq_eq_false_iff_ne];omega
 go_wp2_with fail
 go_loop [9] (fun i=>i=.int .i64 0) (fun _=>0)
 ·rfl
 subst hrel
 by_cases hnn:0<nn
 ·have hnI:(0:Int)<(nn:Int):=by omega
  go_wp2_with fail
  go_end0
  exact ⟨rfl,(uh HO3).of_g hSg,a3,l,e3,⟨ha3,.inr ⟨by rw[(uh HE).2];exact (uh HE).1,he3,rfl⟩⟩,St.next (uh HR) (uh HOW) (uh HSA) (uh HO3) (uh HR3)⟩
 have hnI:¬(0:Int)<(nn:Int):=by omega
 go_wp2_with fail
 go_end0
 exact ⟨rfl,(uh HO3).of_g hSg,a3,l,e3,⟨ha3,.inr ⟨by rw[(uh HE).2];exact (uh HE).1,he3,rfl⟩⟩,St.next (uh HR) (uh HOW) (uh HSA) (uh HO3) (uh HR3)⟩
def cellN(w:World)(g i:Nat):Nat:=match w.cell? ⟨g,i,none⟩ with|some (.int _ n)=>n.toNat|_=>0
theorem cellN_of{w:World}{g i n:Nat}(h:w.cell? ⟨g,i,none⟩=some (.int .i64 n)):cellN w g i=n:=by unfold cellN;rw[h];exact Int.toNat_natCast _
theorem step_none{s:ByteArray}{L D:List Nat}{a:Nat}{l:List UInt8}(h:dec s L a=none):stepS s L D a l=.inl (.inr 2):=by unfold stepS;rw[h]
theorem step_end{s:ByteArray}{L D:List Nat}{a a1:Nat}{l:List UInt8}(h:dec s L a=some (256,a1)):stepS s L D a l=.inl (.inl (a1,l)):=by unfold stepS;rw[h];exact if_pos rfl
theorem step_byte{s:ByteArray}{L D:List Nat}{a a1 y:Nat}{l:List UInt8}(h:dec s L a=some (y,a1))(hy:y<256):stepS s L D a l=if 20000≤l.length then .inl (.inr 1) else .inr (a1,(l++[b8 y])):=by
 unfold stepS;rw[h]
 show (if y=256 then _ else _)=_
 rw[if_neg (by omega),if_pos hy]
theorem step_high{s:ByteArray}{L D:List Nat}{a a1 y:Nat}{l:List UInt8}(h:dec s L a=some (y,a1))(hy:285<y):stepS s L D a l=.inl (.inr 2):=by
 unfold stepS;rw[h]
 show (if y=256 then _ else _)=_
 rw[if_neg (by omega),if_neg (by omega),if_pos hy]
theorem step_copy{s:ByteArray}{L D:List Nat}{a a1 y:Nat}{l:List UInt8}(h:dec s L a=some (y,a1))(h1:256<y)(h2:y≤285):stepS s L D a l=copyS s D y a1 l:=by
 unfold stepS;rw[h]
 show (if y=256 then _ else _)=_
 rw[if_neg (by omega),if_neg (by omega),if_neg (by omega)]
theorem sym_fin{s:ByteArray}{L D:List Nat}{a:Nat}{l:List UInt8}{r:Res}(h:stepS s L D a l=.inl r):symS s L D a l=r:=by rw[symS_step,h]
theorem sym_go{s:ByteArray}{L D:List Nat}{a a' :Nat}{l l' :List UInt8}(h:stepS s L D a l=.inr (a',l')):symS s L D a l=symS s L D a' l' :=by rw[symS_step,h]
theorem copyS_len{s:ByteArray}{D:List Nat}{y a1:Nat}{o:List UInt8}{a' :Nat}{o' :List UInt8}(h:copyS s D y a1 o=.inr (a',o')):o'.length≤20000:=by
 unfold copyS at h
 split at h
 ·cases h
 split at h
 ·cases h
 split at h
 ·cases h
 split at h
 ·cases h
 split at h
 ·cases h
 split at h
 ·cases h
 injection h with h;injection h with h1 h2
 rw[←h2,copyL_len];omega
def SymR(s:ByteArray)(r:Res)(a' :Nat)(l' :List UInt8)(e' :Nat):Prop:=a' ≤8*s.size∧l'.length≤20000∧((r=.inl (a',l')∧e' =0)∨(r=.inr e' ∧e' ≠0))
theorem symbols_any(g:Nat)(S:Nat→Prop)(hSg:S g)(s:ByteArray)(hs:s.size≤140737488355328)(a:Nat)(l:List UInt8)(hl:l.length≤20000)(ha:a≤8*s.size)
 (gl ol cl:Nat)(L:List Nat)(hL:L.length≤400)(hSl:¬S gl)(gd od cd:Nat)(D:List Nat)(hD:D.length≤400)(hSd:¬S gd)(w:World)(hF:Fresh S w)(h:St w g S s a l 0)(hIL:Ints w gl ol L)(hID:Ints w gd od D):
 Calls Tryz.prog 194 #[.pointer (some ⟨g,0,none⟩),.slice (some ⟨gl,ol,none⟩) L.length cl,.slice (some ⟨gd,od,none⟩) D.length cd] w fun r w' =>
  r=.returned (.tuple #[])∧Only S w w' ∧ ∃a' l' e',SymR s (symS s L D a l) a' l' e' ∧St w' g S s a' l' e' :=by
 have HST:=hide h
 have HIL:=hide hIL
 have HID:=hide hID
 clear h hIL hID
 go_in
 go_wp2_with fail
 go_loopw [6,19,29,36] (fun _ _ _ _ wr=> ∃a' l' e',Hid (St wr g S s a' l' e' ∧a' ≤8*s.size∧l'.length≤20000∧((e' =0∧symS s L D a l=symS s L D a' l')∨(e' ≠0∧symS s L D a l=.inr e')))∧Hid (Only S w wr)) (fun _ _ _ _ wr=>8*s.size+1- cellN wr g 1)
 ·exact ⟨a,l,0,⟨HST,ha,hl,.inl ⟨rfl,rfl⟩⟩,Only.refl _ w⟩
 obtain ⟨a',l',e',HI,HO⟩:=hrel
 obtain ⟨hst,ha',hl',hcs⟩:=uh HI
 obtain ⟨ao,cp,hr,how,hsa⟩:=hst
 have hc3:=hr.c3
 by_cases he:e' =0
 ·subst he
  have HEQ:Hid (symS s L D a l=symS s L D a' l'):=by rcases hcs with ⟨_,h⟩|⟨h,_⟩;exact h;exact absurd rfl h
  have HCD:=hide (code_any g s hs a' (.slice ao l'.length cp) 0 ha' gl ol cl L hL wr hr ((uh HIL).kept (uh HO) hSl))
  have HM:=hide (cellN_of hr.c1)
  have HR:=hide hr
  have HOW:=hide how
  have HSA:=hide hsa
  have hc3' :wr.cell? ⟨g,3,none⟩=some (.int .i64 0):=hc3
  clear hcs hr how hsa hc3 HI
  go_wp2_with fail
  refine (uh HCD).mono ?_
  rintro r w1 ⟨y,a1,e1,rfl,h1,hr1,ho1⟩
  have hc31:=hr1.c3
  have HO1:=hide ((uh HO).trans (ho1.of_g hSg))
  have HST1:=hide (St.next (uh HR) (uh HOW) (uh HSA) ho1 hr1)
  have H1:=hide h1
  have ha1:=h1.1.2
  have HO1g:=hide ho1
  have hy400:y≤400:=Nat.le_trans h1.2.1 hL
  clear hc3' h1 ho1 HCD
  by_cases he1:e1=0
  ·subst he1
   have HDE:=hide ((uh H1).ok rfl)
   have hlt:=(dec_lt (uh HDE)).1
   have hc31' :w1.cell? ⟨g,3,none⟩=some (.int .i64 0):=hc31
   have hF1:Fresh S w1:=hF.mono (uh HO1).size
   clear hc31
   by_cases hy:y=256
   ·subst hy
    go_wp2_with fail
    refine bodyPost_ret (results_none rfl _ _ _) rfl ?_
    exact ⟨rfl,HO1,a1,l',0,⟨ha1,hl',.inl ⟨by rw[uh HEQ];exact sym_fin (step_end (uh HDE)),rfl⟩⟩,HST1⟩
   have hyb:((y:Int)==256)=false:=by rw[beq_eq_false_iff_ne];omega
   by_cases hy1:y<256
   ·have hyI:(y:Int)<256:=by omega
    have HSB:=hide (step_byte (D:=D) (l:=l') (uh HDE) hy1)
    by_cases hroom:l'.length<20000
    ·have HWR:=hide (write_room g S hSg s a1 l' hroom 0 y hy1 w1 hF1 (uh HST1))
     rw[if_neg (by omega)] at HSB
     go_wp2_with (go_at_call 284;refine (uh HWR).mono ?_;rintro r w2 ⟨rfl,ho2,hst2⟩;have HO2:=hide ((uh HO1).trans ho2);have HST2:=hide hst2;clear ho2 hst2)
     go_roundw
     ·exact ⟨a1,l' ++[b8 y],0,⟨HST2,ha1,by simp;omega,.inl ⟨rfl,by rw[uh HEQ];exact sym_go (uh HSB)⟩⟩,HO2⟩
     obtain ⟨ao2,cp2,hr2,_⟩:=uh HST2
     rw[uh HM,cellN_of hr2.c1];omega
    have HWR:=hide (write_full g S hSg s a1 l' hroom 0 y w1 (uh HST1))
    rw[if_pos (by omega)] at HSB
    go_wp2_with (go_at_call 284;refine (uh HWR).mono ?_;rintro r w2 ⟨rfl,ho2,hst2⟩;have HO2:=hide ((uh HO1).trans ho2);have HST2:=hide hst2;clear ho2 hst2)
    go_roundw
    ·exact ⟨a1,l',1,⟨HST2,ha1,hl',.inr ⟨by omega,by rw[uh HEQ];exact sym_fin (uh HSB)⟩⟩,HO2⟩
    obtain ⟨ao2,cp2,hr2,_⟩:=uh HST2
    rw[uh HM,cellN_of hr2.c1];omega
   have hyI:¬(y:Int)<256:=by omega
   by_cases hy2:285<y
   ·have hy2I:(285:Int)<(y:Int):=by omega
    have HFA:=hide (fail_any g s a1 (.slice ao l'.length cp) 0 2 w1 hr1)
    have HSB:=hide (step_high (D:=D) (l:=l') (uh HDE) hy2)
    clear hr1
    go_wp2_with (go_at_call 196;refine (uh HFA).mono ?_;rintro r w2 ⟨rfl,hr2,ho2⟩;have HR2:=hide hr2;have HO2:=hide ho2;clear ho2 hr2)
    go_roundw
    ·exact ⟨a1,l',2,⟨St.next (uh HR) (uh HOW) (uh HSA) ((uh HO1g).trans (uh HO2)) (uh HR2),ha1,hl',.inr ⟨by omega,by rw[uh HEQ];exact sym_fin (uh HSB)⟩⟩,(uh HO1).trans ((uh HO2).of_g hSg)⟩
    rw[uh HM,cellN_of (uh HR2).c1];omega
   have hy2I:¬(285:Int)<(y:Int):=by omega
   have HCP:=hide (copied_any g S hSg s hs a1 l' hl' y (by omega) (by omega) ha1 gd od cd D hD w1 hF1 (uh HST1) ((uh HID).kept (uh HO1) hSd))
   have HSB:=hide (step_copy (D:=D) (l:=l') (uh HDE) (by omega) (by omega))
   clear hr1
   go_wp2_with (go_at_call 286;refine (uh HCP).mono ?_;rintro r w2 ⟨rfl,ho2,a2,l2,e2,hcr2,hst2⟩;have HO2:=hide ((uh HO1).trans ho2);have HST2:=hide hst2;have HCR2:=hide hcr2;clear ho2 hst2 hcr2)
   go_roundw
   ·obtain ⟨h2,h3⟩:=uh HCR2
    rcases h3 with ⟨h3,rfl⟩|⟨h3,h4,rfl⟩
    ·exact ⟨a2,l2,0,⟨HST2,h2.2,copyS_len h3,.inl ⟨rfl,by rw[uh HEQ];exact sym_go ((uh HSB).trans h3)⟩⟩,HO2⟩
    exact ⟨a2,l2,e2,⟨HST2,h2.2,hl',.inr ⟨h4,by rw[uh HEQ];exact sym_fin ((uh HSB).trans h3)⟩⟩,HO2⟩
   obtain ⟨ao2,cp2,hr2,_⟩:=uh HST2
   have hle:=(uh HCR2).1
   rw[uh HM,cellN_of hr2.c1];omega
  obtain ⟨k1,k2⟩:=(uh H1).bad he1
  have hb1:((e1:Int) !=0)=true:=by rw[bne_iff_ne];omega
  go_wp2_with fail
  refine bodyPost_ret (results_none rfl _ _ _) rfl ?_
  exact ⟨rfl,HO1,a1,l',e1,⟨ha1,hl',.inr ⟨by rw[uh HEQ,k2];exact sym_fin (step_none k1),he1⟩⟩,HST1⟩
 have hb:((e' :Int)==0)=false:=by rw[beq_eq_false_iff_ne];omega
 have HE:Hid (symS s L D a l=.inr e'):=by rcases hcs with ⟨h,_⟩|⟨_,h⟩;exact absurd h he;exact h
 clear hcs hr how hsa
 go_wp2_with fail
 go_end0
 exact ⟨rfl,HO,a',l',e',⟨ha',hl',.inr ⟨HE,he⟩⟩,(uh HI).1⟩
theorem fitN_snoc(L:List Nat)(x:Nat):fitN (L++[x])=fitN L+if x=0 then 0 else 2^(15- x):=by simp[fitN]
theorem manyN_snoc(L:List Nat)(x:Nat):manyN (L++[x])=manyN L+if x=0 then 0 else 1:=by
 unfold manyN
 rw[List.filter_append,List.length_append]
 by_cases h:x=0
 ·subst h;simp
 simp[h]
theorem take_getD(L:List Nat)(i:Nat)(h:i<L.length):L.take (i+1)=L.take i++[L.getD i 0]:=by
 rw[List.take_succ_eq_append_getElem h,List.getD_eq_getElem?_getD,List.getElem?_eq_getElem h];rfl
theorem fitN_le(L:List Nat)(i:Nat):fitN (L.take i)≤16384*i∧manyN (L.take i)≤i:=by
 induction i with
 |zero=>simp[fitN,manyN]
 |succ i ih=>
  by_cases h:i<L.length
  ·rw[take_getD L i h,fitN_snoc,manyN_snoc]
   have hp:1≤L.getD i 0→2^(15- L.getD i 0)≤16384:=fun h1=>Nat.pow_le_pow_right (n:=2) (by omega) (show 15- L.getD i 0≤14 by omega)
   constructor
   ·split
    ·omega
    have:=hp (by omega);omega
   split<;>omega
  rw[List.take_of_length_le (by omega)] at ih ⊢
  omega
theorem shr15{l:Nat}(h:l≤15):(32768:Int)/2^l=((2^(15- l):Nat):Int):=by
 have:(32768:Nat)/2^l=2^(15- l):=by
  rw[show (32768:Nat)=2^15 from rfl,Nat.pow_div h (by omega)]
 rw[←this,Int.natCast_ediv,Int.natCast_pow];rfl
theorem fits_any(b:Bool)(gl off cap:Nat)(L:List Nat)(hL:L.length≤400)(h15: ∀j,L.getD j 0≤15)(w:World)(hI:Ints w gl off L):
 Calls Tryz.prog 287 #[.slice (some ⟨gl,off,none⟩) L.length cap,.bool b] w fun r w' =>r=.returned (.bool (if b then fitD L else fitS L))∧w' =w:=by
 have HI:=hide hI
 have H15:=hide h15
 clear hI h15
 go_in
 go_wp2_with fail
 go_loop [5,6,7] (fun x y z=> ∃su ma i:Nat,i≤L.length∧su≤6553600∧ma≤400∧x=.int .i64 su∧y=.int .i64 ma∧z=.int .i64 i∧Hid (su=fitN (L.take i)∧ma=manyN (L.take i))) (fun _ _ z=>L.length- (intOf z).toNat)
 ·exact ⟨0,0,0,by omega,by omega,by omega,rfl,rfl,rfl,⟨rfl,rfl⟩⟩
 obtain ⟨su,ma,i,hi,hsu,hma,rfl,rfl,rfl,HS⟩:=hrel
 by_cases hlt:i<L.length
 ·have hce:=(uh HI).cell hlt
  have hl15:=uh H15 i
  have HT:=hide (take_getD L i hlt)
  have HLE:=hide (fitN_le L (i+1))
  generalize L.getD i 0=x at hce hl15 HT
  by_cases hx:x=0
  ·subst hx
   have hce' :w.cell? ⟨gl,off+i,none⟩=some (.int .i64 0):=hce
   clear hce
   go_wp2_with fail
   go_round
   ·obtain ⟨h1,h2⟩:=uh HS
    exact ⟨su,ma,i+1,by omega,hsu,hma,rfl,rfl,by go_num,⟨by rw[uh HT,fitN_snoc,←h1];rfl,by rw[uh HT,manyN_snoc,←h2];rfl⟩⟩
   case measure=>simp[intOf];omega
  have hxp:(0:Int)<(x:Int):=by omega
  have hx0:(0:Int)≤(x:Int):=by omega
  have hsh:=shr15 hl15
  have hpl:2^(15- x)≤16384:=Nat.pow_le_pow_right (n:=2) (by omega) (show 15- x≤14 by omega)
  have HN:Hid (fitN (L.take (i+1))=su+2^(15- x)∧manyN (L.take (i+1))=ma+1):=by
   obtain ⟨h1,h2⟩:=uh HS
   exact ⟨by rw[uh HT,fitN_snoc,←h1,if_neg hx],by rw[uh HT,manyN_snoc,←h2,if_neg hx]⟩
  generalize 2^(15- x)=p at hsh hpl HN
  have htn:((x:Int)).toNat=x:=Int.toNat_natCast x
  go_wp2_with fail
  go_round
  ·obtain ⟨h1,h2⟩:=uh HN
   obtain ⟨h3,h4⟩:=uh HLE
   exact ⟨su+p,ma+1,i+1,by omega,by omega,by omega,by go_num,by go_num,by go_num,⟨h1.symm,h2.symm⟩⟩
  case measure=>simp[intOf];omega
 have hil:i=L.length:=by omega
 have HE:Hid (fitN L=su∧manyN L=ma):=by
  obtain ⟨h1,h2⟩:=uh HS
  rw[hil,List.take_length] at h1 h2
  exact ⟨h1.symm,h2.symm⟩
 clear HS
 have HFS:Hid (fitS L=(su==32768)):=by unfold Hid fitS;rw[(uh HE).1]
 have HFD:Hid (fitD L=(su==32768||ma==0||(ma==1&&su==16384))):=by unfold Hid fitD;rw[(uh HE).1,(uh HE).2]
 clear HE
 cases b with
 |false=>
  by_cases h1:su=32768
  ·have hb1:((su:Int)==32768)=true:=by rw[beq_iff_eq];omega
   go_wp2_with fail
   go_ret
   exact ⟨ret1_eq (congrArg Value.bool (by show true=fitS L;rw[uh HFS];simp[h1])),rfl⟩
  have hb1:((su:Int)==32768)=false:=by rw[beq_eq_false_iff_ne];omega
  go_wp2_with fail
  go_ret
  exact ⟨ret1_eq (congrArg Value.bool (by show false=fitS L;rw[uh HFS];simp[h1])),rfl⟩
 |true=>
  by_cases h1:su=32768
  ·have hb1:((su:Int)==32768)=true:=by rw[beq_iff_eq];omega
   go_wp2_with fail
   go_ret
   exact ⟨ret1_eq (congrArg Value.bool (by show true=fitD L;rw[uh HFD];simp[h1])),rfl⟩
  have hb1:((su:Int)==32768)=false:=by rw[beq_eq_false_iff_ne];omega
  by_cases h2:ma=0
  ·have hb2:((ma:Int)==0)=true:=by rw[beq_iff_eq];omega
   go_wp2_with fail
   go_ret
   exact ⟨ret1_eq (congrArg Value.bool (by show true=fitD L;rw[uh HFD];simp[h2])),rfl⟩
  have hb2:((ma:Int)==0)=false:=by rw[beq_eq_false_iff_ne];omega
  by_cases h3:ma=1
  ·have hb3:((ma:Int)==1)=true:=by rw[beq_iff_eq];omega
   by_cases h4:su=16384
   ·have hb4:((su:Int)==16384)=true:=by rw[beq_iff_eq];omega
    go_wp2_with fail
    go_ret
    exact ⟨ret1_eq (congrArg Value.bool (by show true=fitD L;rw[uh HFD];simp[h3,h4])),rfl⟩
   have hb4:((su:Int)==16384)=false:=by rw[beq_eq_false_iff_ne];omega
   go_wp2_with fail
   go_ret
   exact ⟨ret1_eq (congrArg Value.bool (by show false=fitD L;rw[uh HFD];simp[h1,h2,h4])),rfl⟩
  have hb3:((ma:Int)==1)=false:=by rw[beq_eq_false_iff_ne];omega
  go_wp2_with fail
  go_ret
  exact ⟨ret1_eq (congrArg Value.bool (by show false=fitD L;rw[uh HFD];simp[h1,h2,h3])),rfl⟩
def intCells(l:List Nat):List Value:=l.map fun (n:Nat)=>Value.int .i64 (n:Int)
theorem intCells_get(l:List Nat)(j:Nat)(h:j<l.length):(intCells l)[j]? =some (.int .i64 (l.getD j 0:Nat)):=by
 simp[intCells,List.getD_eq_getElem?_getD,h]
theorem infoI3:(Tryz.prog.info? 3).map (fun i=>(i.zero,i.size,i.bytes))=some (some (.int .i64 0),1,8):=by kernel_rfl
theorem int_new{wr:World}{n:Int}: ∀j u,[Value.int .i64 n][j]? =some u→(wr.alloc (.cells #[.int .i64 n] 3)).cell? ((⟨wr.heap.size,0,none⟩:Addr).add j)=some u:=by
 intro j u hu
 rw[Addr.add_lit,Nat.zero_add,cell_of_row _ _ j _ 3 (0,0) (Go.heap_alloc_new wr _)]
 simpa using hu
theorem own_base{w:World}{base:Nat}{e:TypeId}{v:Value}{n:Nat}{xs:List Value}(h:w.ownsRow base e 1 v n xs): ∀b,v.ownBlock=some b→base≤b:=by
 intro b hb
 obtain ⟨_,h|⟨b',cap,cur,hv,h1,_⟩⟩:=h
 ·rw[h.1] at hb;cases hb
 rw[hv] at hb;injection hb with hb;subst hb;exact h1
theorem Ints.ofOwns{w:World}{base gl cap n:Nat}{l:List Nat}(hn:l.length=n)(h:w.ownsRow base 3 1 (.slice (some ⟨gl,0,none⟩) n cap) n (intCells l)):Ints w gl 0 l:=by
 obtain ⟨hl,h|⟨g',c',cur,hv,_,hg,hle,_,hs,ht⟩⟩:=h
 ·cases h.1
 injection hv with hv1 hv2 hv3
 injection hv1 with hv1
 injection hv1 with hv1
 subst hv1
 refine ⟨cur,hg,fun j hj=> ?_⟩
 rw[←intCells_get l j hj,←ht,List.getElem?_take,if_pos (by omega),Array.getElem?_toList,Nat.zero_add]
theorem fixL_len:fixL.length=288:=by rw[fixL,List.length_append,List.length_append,List.length_append,List.length_replicate,List.length_replicate,List.length_replicate,List.length_replicate]
theorem fixL_all:(List.range 288).all (fun i=>decide (fixL.getD i 0=if i<144 then 8 else if i<256 then 9 else if i<280 then 7 else 8))=true:=by decide+kernel
theorem fixL_get(i:Nat)(h:i<288):fixL.getD i 0=if i<144 then 8 else if i<256 then 9 else if i<280 then 7 else 8:=by
 have:=List.all_eq_true.1 fixL_all i (List.mem_range.2 h);simpa using this
theorem fixL_val(i:Nat)(h:i<288){n:Nat}(hn:(if i<144 then 8 else if i<256 then 9 else if i<280 then 7 else 8)=n):fixL.getD i 0=n:=(fixL_get i h).trans hn
theorem fixD_take(i:Nat)(h:i<32):fixD.take (i+1)=fixD.take i++[5]:=by
 have e:fixD.getD i 0=5:=by rw[fixD,List.getD_eq_getElem?_getD,List.getElem?_replicate,if_pos h];rfl
 rw[take_getD _ _ (by rw[fixD,List.length_replicate];exact h),e]
theorem fixed_any(w:World):
 Calls Tryz.prog 193 #[] w fun r w' => ∃g1 c1 g2 c2,r=.returned (.tuple #[.slice (some ⟨g1,0,none⟩) 288 c1,.slice (some ⟨g2,0,none⟩) 32 c2])∧Ints w' g1 0 fixL∧Ints w' g2 0 fixD∧w.heap.size≤g1∧w.heap.size≤g2∧Old w w' :=by
 obtain ⟨i0,hi0,hz0,hz1,hz2⟩:=info_parts infoI3
 go_in
 go_wp2_with fail
 go_loopw [2,3,4] (fun v x _ wr=> ∃(i:Nat) (ao:Option Addr) (cap:Nat),i≤288∧v=.slice ao i cap∧x=.int .i64 i∧Hid (wr.ownsRow w.heap.size 3 1 (.slice ao i cap) i (intCells (fixL.take i)))∧Hid (Old w wr)) (fun _ x _ _=>288- (intOf x).toNat)
 ·exact ⟨0,none,0,by omega,rfl,rfl,World.ownsRow_nil _ _ _ _,Only.refl _ w⟩
 obtain ⟨i,ao,cap,hi,rfl,rfl,HR,HO⟩:=hrel
 by_cases hlt:i<288
 ·by_cases h1:i<144
  ·have hv:fixL.getD i 0=8:=fixL_val i hlt (if_pos h1)
   have HNW:=hide (int_new (wr:=wr) (n:=8))
   have HOW:Hid ((wr.alloc (.cells #[.int .i64 8] 3)).ownsRow w.heap.size 3 1 (.slice ao i cap) i (intCells (fixL.take i))):=(uh HR).alloc _
   have HSZ:Hid (w.heap.size≤(wr.alloc (.cells #[.int .i64 8] 3)).heap.size):=by have:=(uh HO).size;unfold Hid;simp only[World.size_alloc];omega
   have HV:=hide hv
   clear hv
   have q1:¬(144:Int)≤(i:Int):=by omega
   have q2:¬(256:Int)≤(i:Int):=by omega
   go_wp2_with (at_builtin;refine wpList_append_lies _ rfl (.tmp 23) (.tmp 25) 33 rfl w.heap.size 3 i0 (.int .i64 0) 1 8 Tryz.underlying33 hi0 hz0 hz1 hz2 rfl (by omega) (.slice ao i cap) i _ rfl (uh HOW) ⟨wr.heap.size,0,none⟩ 1 1 [.int .i64 8] rfl rfl (uh HNW) (by intro u hu;simp at hu;subst hu;rfl) (by omega) (by unfold maxLen;omega) (by omega) (uh HSZ) _ rfl ?_;intro g2 cap2 w3 ho3 hg3 hl3 hlt3;have HO3:=hide ho3;have HG3:=hide hg3;have HB:=hide (own_base (uh HOW));clear ho3 hg3 hl3)
   go_roundw
   ·refine ⟨i+1,some ⟨g2,0,none⟩,cap2,by omega,rfl,by go_num, ?_, ?_⟩
    ·have e:intCells (fixL.take (i+1))=intCells (fixL.take i)++[.int .i64 8]:=by rw[take_getD _ _ (by rw[fixL_len];exact hlt),uh HV];simp[intCells]
     rw[e];exact uh HO3
    exact ((uh HO).alloc _).grown (uh HG3) (fun q hq e=>absurd hq (by have:=uh HB q e;omega))
   case measure=>simp[intOf];omega
  by_cases h2:i<256
  ·have hv:fixL.getD i 0=9:=fixL_val i hlt (by rw[if_neg h1,if_pos h2])
   have HNW:=hide (int_new (wr:=wr) (n:=9))
   have HOW:Hid ((wr.alloc (.cells #[.int .i64 9] 3)).ownsRow w.heap.size 3 1 (.slice ao i cap) i (intCells (fixL.take i))):=(uh HR).alloc _
   have HSZ:Hid (w.heap.size≤(wr.alloc (.cells #[.int .i64 9] 3)).heap.size):=by have:=(uh HO).size;unfold Hid;simp only[World.size_alloc];omega
   have HV:=hide hv
   clear hv
   have q1:(144:Int)≤(i:Int):=by omega
   have q2:¬(256:Int)≤(i:Int):=by omega
   have q3:(i:Int)<256:=by omega
   go_wp2_with (at_builtin;refine wpList_append_lies _ rfl (.tmp 23) (.tmp 25) 33 rfl w.heap.size 3 i0 (.int .i64 0) 1 8 Tryz.underlying33 hi0 hz0 hz1 hz2 rfl (by omega) (.slice ao i cap) i _ rfl (uh HOW) ⟨wr.heap.size,0,none⟩ 1 1 [.int .i64 9] rfl rfl (uh HNW) (by intro u hu;simp at hu;subst hu;rfl) (by omega) (by unfold maxLen;omega) (by omega) (uh HSZ) _ rfl ?_;intro g2 cap2 w3 ho3 hg3 hl3 hlt3;have HO3:=hide ho3;have HG3:=hide hg3;have HB:=hide (own_base (uh HOW));clear ho3 hg3 hl3)
   go_roundw
   ·refine ⟨i+1,some ⟨g2,0,none⟩,cap2,by omega,rfl,by go_num, ?_, ?_⟩
    ·have e:intCells (fixL.take (i+1))=intCells (fixL.take i)++[.int .i64 9]:=by rw[take_getD _ _ (by rw[fixL_len];exact hlt),uh HV];simp[intCells]
     rw[e];exact uh HO3
    exact ((uh HO).alloc _).grown (uh HG3) (fun q hq e=>absurd hq (by have:=uh HB q e;omega))
   case measure=>simp[intOf];omega
  by_cases h3:i<280
  ·have hv:fixL.getD i 0=7:=fixL_val i hlt (by rw[if_neg h1,if_neg h2,if_pos h3])
   have HNW:=hide (int_new (wr:=wr) (n:=7))
   have HOW:Hid ((wr.alloc (.cells #[.int .i64 7] 3)).ownsRow w.heap.size 3 1 (.slice ao i cap) i (intCells (fixL.take i))):=(uh HR).alloc _
   have HSZ:Hid (w.heap.size≤(wr.alloc (.cells #[.int .i64 7] 3)).heap.size):=by have:=(uh HO).size;unfold Hid;simp only[World.size_alloc];omega
   have HV:=hide hv
   clear hv
   have q1:(144:Int)≤(i:Int):=by omega
   have q2:(256:Int)≤(i:Int):=by omega
   have q3:¬(i:Int)<256:=by omega
   have q4:(i:Int)<280:=by omega
   go_wp2_with (at_builtin;refine wpList_append_lies _ rfl (.tmp 23) (.tmp 25) 33 rfl w.heap.size 3 i0 (.int .i64 0) 1 8 Tryz.underlying33 hi0 hz0 hz1 hz2 rfl (by omega) (.slice ao i cap) i _ rfl (uh HOW) ⟨wr.heap.size,0,none⟩ 1 1 [.int .i64 7] rfl rfl (uh HNW) (by intro u hu;simp at hu;subst hu;rfl) (by omega) (by unfold maxLen;omega) (by omega) (uh HSZ) _ rfl ?_;intro g2 cap2 w3 ho3 hg3 hl3 hlt3;have HO3:=hide ho3;have HG3:=hide hg3;have HB:=hide (own_base (uh HOW));clear ho3 hg3 hl3)
   go_roundw
   ·refine ⟨i+1,some ⟨g2,0,none⟩,cap2,by omega,rfl,by go_num, ?_, ?_⟩
    ·have e:intCells (fixL.take (i+1))=intCells (fixL.take i)++[.int .i64 7]:=by rw[take_getD _ _ (by rw[fixL_len];exact hlt),uh HV];simp[intCells]
     rw[e];exact uh HO3
    exact ((uh HO).alloc _).grown (uh HG3) (fun q hq e=>absurd hq (by have:=uh HB q e;omega))
   case measure=>simp[intOf];omega
  have hv:fixL.getD i 0=8:=fixL_val i hlt (by rw[if_neg h1,if_neg h2,if_neg h3])
  have HNW:=hide (int_new (wr:=wr) (n:=8))
  have HOW:Hid ((wr.alloc (.cells #[.int .i64 8] 3)).ownsRow w.heap.size 3 1 (.slice ao i cap) i (intCells (fixL.take i))):=(uh HR).alloc _
  have HSZ:Hid (w.heap.size≤(wr.alloc (.cells #[.int .i64 8] 3)).heap.size):=by have:=(uh HO).size;unfold Hid;simp only[World.size_alloc];omega
  have HV:=hide hv
  clear hv
  have q1:(144:Int)≤(i:Int):=by omega
  have q2:(256:Int)≤(i:Int):=by omega
  have q3:¬(i:Int)<256:=by omega
  have q4:¬(i:Int)<280:=by omega
  go_wp2_with (at_builtin;refine wpList_append_lies _ rfl (.tmp 23) (.tmp 25) 33 rfl w.heap.size 3 i0 (.int .i64 0) 1 8 Tryz.underlying33 hi0 hz0 hz1 hz2 rfl (by omega) (.slice ao i cap) i _ rfl (uh HOW) ⟨wr.heap.size,0,none⟩ 1 1 [.int .i64 8] rfl rfl (uh HNW) (by intro u hu;simp at hu;subst hu;rfl) (by omega) (by unfold maxLen;omega) (by omega) (uh HSZ) _ rfl ?_;intro g2 cap2 w3 ho3 hg3 hl3 hlt3;have HO3:=hide ho3;have HG3:=hide hg3;have HB:=hide (own_base (uh HOW));clear ho3 hg3 hl3)
  go_roundw
  ·refine ⟨i+1,some ⟨g2,0,none⟩,cap2,by omega,rfl,by go_num, ?_, ?_⟩
   ·have e:intCells (fixL.take (i+1))=intCells (fixL.take i)++[.int .i64 8]:=by rw[take_getD _ _ (by rw[fixL_len];exact hlt),uh HV];simp[intCells]
    rw[e];exact uh HO3
   exact ((uh HO).alloc _).grown (uh HG3) (fun q hq e=>absurd hq (by have:=uh HB q e;omega))
  case measure=>simp[intOf];omega
 have hi8:i=288:=by omega
 have HR8:Hid (wr.ownsRow w.heap.size 3 1 (.slice ao 288 cap) 288 (intCells fixL)):=by
  have:=uh HR
  rw[hi8,List.take_of_length_le (by rw[fixL_len];exact Nat.le_refl _)] at this
  exact this
 have hII:(i:Int)=288:=by omega
 obtain ⟨g1,c1,hv1,hb1,_⟩:=(uh HR8).form (by omega)
 injection hv1 with hv1 hv2 hv3
 subst hv1 hv3
 have HI1:=hide (Ints.ofOwns fixL_len (uh HR8))
 subst hi8
 have e288:((288:Nat):Int)=288:=rfl
 rw[e288]
 clear HR HR8 hi hlt e288 hII
 go_wp2_with fail
 go_loopw [5,6] (fun v x wr=> ∃(i:Nat) (ao:Option Addr) (cap:Nat),i≤32∧v=.slice ao i cap∧x=.int .i64 i∧Hid (wr.ownsRow (g1+1) 3 1 (.slice ao i cap) i (intCells (fixD.take i)))∧Hid (Old w wr)∧Hid (Ints wr g1 0 fixL)) (fun _ x _=>32- (intOf x).toNat)
 ·exact ⟨0,none,0,by omega,rfl,rfl,World.ownsRow_nil _ _ _ _,HO,HI1⟩
 obtain ⟨i,ao,cap,hi,rfl,rfl,HR,HO,HI1⟩:=hrel
 by_cases hlt:i<32
 ·have HNW:=hide (int_new (wr:=wr) (n:=5))
  have HOW:Hid ((wr.alloc (.cells #[.int .i64 5] 3)).ownsRow (g1+1) 3 1 (.slice ao i cap) i (intCells (fixD.take i))):=(uh HR).alloc _
  have HSZ:Hid (g1+1≤(wr.alloc (.cells #[.int .i64 5] 3)).heap.size):=by have:=(uh HI1).lt;unfold Hid;simp only[World.size_alloc];omega
  have HIA:=hide ((uh HI1).kept ((Only.refl (fun _=>False) wr).alloc (.cells #[.int .i64 5] 3)) (fun x=>x))
  go_wp2_with (at_builtin;refine wpList_append_lies _ rfl (.tmp 31) (.tmp 32) 33 rfl (g1+1) 3 i0 (.int .i64 0) 1 8 Tryz.underlying33 hi0 hz0 hz1 hz2 rfl (by omega) (.slice ao i cap) i _ rfl (uh HOW) ⟨wr.heap.size,0,none⟩ 1 1 [.int .i64 5] rfl rfl (uh HNW) (by intro u hu;simp at hu;subst hu;rfl) (by omega) (by unfold maxLen;omega) (by omega) (uh HSZ) _ rfl ?_;intro g2 cap2 w3 ho3 hg3 hl3 hlt3;have HO3:=hide ho3;have HG3:=hide hg3;have HB:=hide (own_base (uh HOW));clear ho3 hg3 hl3)
  go_roundw
  ·refine ⟨i+1,some ⟨g2,0,none⟩,cap2,by omega,rfl,by go_num, ?_, ?_, ?_⟩
   ·have e:intCells (fixD.take (i+1))=intCells (fixD.take i)++[.int .i64 5]:=by rw[fixD_take i hlt];simp[intCells]
    rw[e];exact uh HO3
   ·exact ((uh HO).alloc _).grown (uh HG3) (fun q hq e=>absurd hq (by have:=uh HB q e;omega))
   exact (uh HIA).kept ((Only.refl (fun k=>g1<k) _).grown (uh HG3) (fun q _ e=>by have:=uh HB q e;omega)) (by omega)
  case measure=>simp[intOf];omega
 have hi8:i=32:=by omega
 have HR8:Hid (wr.ownsRow (g1+1) 3 1 (.slice ao 32 cap) 32 (intCells fixD)):=by
  have:=uh HR
  rw[hi8,List.take_of_length_le (by rw[fixD,List.length_replicate];exact Nat.le_refl _)] at this
  exact this
 obtain ⟨g2,c2,hv1,hb2,_⟩:=(uh HR8).form (by omega)
 injection hv1 with hv1 hv2 hv3
 subst hv1 hv3
 have HI2:=hide (Ints.ofOwns (by rw[fixD,List.length_replicate]) (uh HR8))
 subst hi8
 clear HR HR8
 go_wp2_with fail
 go_ret2
 first
  |exact ⟨g1,_,g2,_,rfl,HI1,HI2,hb1,by omega,HO⟩
  |exact ⟨g1,_,g2,⟨_,rfl⟩,HI1,HI2,hb1,by omega,HO⟩
end Go.Proofs.YtndfmgdhiallpaaGreatDoor
