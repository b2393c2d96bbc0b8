import Derived.Test.YtndfmgdhiallpaaGreatDoorMg
set_option maxRecDepth 100000
set_option maxHeartbeats 4000000
namespace Go.Proofs.YtndfmgdhiallpaaGreatDoor
open Go.RowKit
theorem row_err(g:Nat)(s:ByteArray)(a:Nat)(o:Value)(e:Nat)(he:e≠0)(v:Value)(many:Nat)(w:World)(h:Rd w g s a o e):
 Calls Tryz.prog 288 #[.pointer (some ⟨g,0,none⟩),v,.int .i64 many] w fun r w' =>r=.returned (.slice none 0 0)∧w' =w:=by
 have hc3:=h.c3
 have hb:((e:Int)==0)=false:=by rw[beq_eq_false_iff_ne];omega
 clear h
 go_in
 go_wp2_with fail
 go_loop [7,8,9,10,11] (fun x _ _ _ _=>x=.slice none 0 0) (fun _ _ _ _ _=>0)
 ·rfl
 subst hrel
 by_cases hm:0<many
 ·have hmI:(0:Int)<(many:Int):=by omega
  go_wp2_with fail
  go_ret
  exact ⟨rfl,rfl⟩
 have hmI:¬(0:Int)<(many:Int):=by omega
 go_wp2_with fail
 go_ret
 exact ⟨rfl,rfl⟩
theorem told_short{s:ByteArray}{a:Nat}(h:8*s.size<a+14):toldS s a=none:=by unfold toldS;rw[if_pos h]
theorem told_many{s:ByteArray}{a:Nat}(h:286<257+numAt s a 5∨30<1+numAt s (a+5) 5):toldS s a=none:=by
 unfold toldS
 split
 ·rfl
 first|rfl|rw[if_pos h]
theorem told_cut{s:ByteArray}{a:Nat}(h:8*s.size<a+14+3*(4+numAt s (a+10) 4)):toldS s a=none:=by
 unfold toldS
 split
 ·rfl
 split
 ·rfl
 first|rfl|rw[if_pos h]
theorem told_unfit{s:ByteArray}{a:Nat}(h:fitS (ownL s (a+14) (4+numAt s (a+10) 4))=false):toldS s a=none:=by
 unfold toldS
 split
 ·rfl
 split
 ·rfl
 split
 ·rfl
 first|rfl|rw[if_pos h]
theorem told_row{s:ByteArray}{a:Nat}(h:rowS s (ownL s (a+14) (4+numAt s (a+10) 4)) (257+numAt s a 5+(1+numAt s (a+5) 5)) (a+14+3*(4+numAt s (a+10) 4)) []=none):toldS s a=none:=by
 unfold toldS
 split
 ·rfl
 split
 ·rfl
 split
 ·rfl
 split
 ·rfl
 rw[h]
theorem told_end{s:ByteArray}{a a' :Nat}{l:List Nat}(h1:¬8*s.size<a+14)(h2:¬(286<257+numAt s a 5∨30<1+numAt s (a+5) 5))(h3:¬8*s.size<a+14+3*(4+numAt s (a+10) 4))
 (h4:fitS (ownL s (a+14) (4+numAt s (a+10) 4))=true)(h5:rowS s (ownL s (a+14) (4+numAt s (a+10) 4)) (257+numAt s a 5+(1+numAt s (a+5) 5)) (a+14+3*(4+numAt s (a+10) 4)) []=some (a',l)):
 toldS s a=if fitS (l.take (257+numAt s a 5))=true∧fitD (l.drop (257+numAt s a 5))=true∧l.getD 256 0≠0 then some (a',l.take (257+numAt s a 5),l.drop (257+numAt s a 5)) else none:=by
 unfold toldS
 rw[if_neg h1,if_neg h2,if_neg h3,if_neg (by rw[h4];decide),h5]
theorem ownL_le(s:ByteArray)(a k:Nat): ∀j,(ownL s a k).getD j 0≤15:=by
 induction k with
 |zero=>
  intro j
  rw[ownL,List.getD_eq_getElem?_getD,List.getElem?_replicate]
  split<;>simp
 |succ k ih=>
  intro j
  have h:=numAt_lt s (a+3*k) 3
  rw[ownL,List.getD_eq_getElem?_getD,List.getElem?_set]
  split
  ·split
   ·show numAt s (a+3*k) 3≤15;omega
   simp
  rw[←List.getD_eq_getElem?_getD];exact ih j
theorem stepR_le{s:ByteArray}{C:List Nat}(hC:C.length=19){many a:Nat}{l:List Nat}{a' :Nat}{l' :List Nat}(h:stepR s C many a l=some (a',l'))(hl: ∀x∈l,x≤15): ∀x∈l',x≤15:=by
 unfold stepR at h
 split at h
 ·cases h
 rename_i y a1 hd
 have hy:=(dec_lt hd).2.2
 split at h
 ·cases h
 split at h
 ·cases h
 split at h
 ·cases h
 injection h with h;injection h with h1 h2
 intro x hx
 rw[←h2] at hx
 rcases List.mem_append.1 hx with h3|h3
 ·exact hl x h3
 rw[(List.mem_replicate.1 h3).2]
 unfold rowWhat
 split
 ·by_cases hlen:l.length- 1<l.length
  ·rw[List.getD_eq_getElem?_getD,List.getElem?_eq_getElem hlen];exact hl _ (List.getElem_mem hlen)
  rw[List.getD_eq_getElem?_getD,List.getElem?_eq_none (by omega)];simp
 split<;>omega
theorem rowGo_le{s:ByteArray}{C:List Nat}(hC:C.length=19){many:Nat}: ∀{f a:Nat} {l:List Nat} {a' :Nat} {l' :List Nat},rowGo s C many f a l=some (a',l')→(∀x∈l,x≤15)→l.length≤many→a≤8*s.size→(∀x∈l',x≤15)∧l'.length=many∧a≤a' ∧a' ≤8*s.size
 |0,a,l,a',l',h,_,_,_=>by cases h
 |f+1,a,l,a',l',h,hl,hm,ha=>by
  rw[rowGo] at h
  split at h
  ·split at h
   ·cases h
   rename_i a2 l2 hs
   have h1:=stepR_lt hs
   have h2:=rowGo_le hC h (stepR_le hC hs hl) h1.2.2.2 h1.2.1
   exact ⟨h2.1,h2.2.1,by omega,h2.2.2.2⟩
  injection h with h;injection h with h1 h2
  subst h1 h2
  exact ⟨hl,by omega,Nat.le_refl _,ha⟩
theorem rowS_le{s:ByteArray}{C:List Nat}(hC:C.length=19){many a a' :Nat}{l' :List Nat}(h:rowS s C many a []=some (a',l'))(ha:a≤8*s.size):(∀x∈l',x≤15)∧l'.length=many∧a≤a' ∧a' ≤8*s.size:=
 rowGo_le hC h (fun _ h=>by cases h) (Nat.zero_le _) ha
theorem getD_le{l:List Nat}(h: ∀x∈l,x≤15)(j:Nat):l.getD j 0≤15:=by
 by_cases hj:j<l.length
 ·rw[List.getD_eq_getElem?_getD,List.getElem?_eq_getElem hj];exact h _ (List.getElem_mem hj)
 rw[List.getD_eq_getElem?_getD,List.getElem?_eq_none (by omega)];simp
theorem Ints.take{w:World}{gl off:Nat}{l:List Nat}(h:Ints w gl off l)(k:Nat):Ints w gl off (l.take k):=by
 obtain ⟨cur,hg,hc⟩:=h
 refine ⟨cur,hg,fun j hj=> ?_⟩
 rw[List.length_take] at hj
 rw[hc j (by omega),List.getD_eq_getElem?_getD,List.getD_eq_getElem?_getD,List.getElem?_take,if_pos (by omega)]
theorem Ints.drop{w:World}{gl off:Nat}{l:List Nat}(h:Ints w gl off l)(k:Nat):Ints w gl (off+k) (l.drop k):=by
 obtain ⟨cur,hg,hc⟩:=h
 refine ⟨cur,hg,fun j hj=> ?_⟩
 rw[List.length_drop] at hj
 rw[Nat.add_assoc,hc (k+j) (by omega),List.getD_eq_getElem?_getD,List.getD_eq_getElem?_getD,List.getElem?_drop]
theorem Ints.set{w:World}{gl:Nat}{l:List Nat}(h:Ints w gl 0 l){i:Nat}(hi:i<l.length)(v:Nat):Ints (w.setCell ⟨gl,i,none⟩ (.int .i64 v)) gl 0 (l.set i v):=by
 obtain ⟨cur,hg,hc⟩:=h
 have hic:i<cur.size:=by
  have:=hc i hi
  rw[Nat.zero_add] at this
  exact (Array.getElem?_eq_some_iff.1 this).1
 refine ⟨_,heap_setCell_same w gl i cur 3 _ hg,fun j hj=> ?_⟩
 rw[List.length_set] at hj
 rw[Nat.zero_add,Array.getElem?_setIfInBounds,List.getD_eq_getElem?_getD,List.getElem?_set]
 by_cases e:i=j
 ·subst e;rw[if_pos rfl,if_pos rfl,if_pos hic,if_pos hi];rfl
 rw[if_neg e,if_neg e,←List.getD_eq_getElem?_getD]
 have:=hc j hj
 rw[Nat.zero_add] at this
 exact this
open Go.RowKit Go.Maps
def toldR(s:ByteArray)(a:Nat)(l:List UInt8):Res:=match toldS s a with|none=> .inr 2|some (a2,L,D)=>symS s L D a2 l
theorem toldR_none{s:ByteArray}{a:Nat}(l:List UInt8)(h:toldS s a=none):toldR s a l=.inr 2:=by unfold toldR;rw[h]
theorem toldR_some{s:ByteArray}{a a2:Nat}{L D:List Nat}(l:List UInt8)(h:toldS s a=some (a2,L,D)):toldR s a l=symS s L D a2 l:=by unfold toldR;rw[h]
def HeadR(s:ByteArray)(a v1 v2 v3 a3 e3:Nat):Prop:=v1<32∧v2<32∧v3<16∧a3≤8*s.size∧((e3=0∧a3=a+14∧v1=numAt s a 5∧v2=numAt s (a+5) 5∧v3=numAt s (a+10) 4)∨(e3=2∧toldS s a=none))
theorem head_of{s:ByteArray}{a v1 a1 e1 v2 a2 e2 v3 a3 e3:Nat}(h1:NumR s a 0 5 v1 a1 e1)(h2:NumR s a1 e1 5 v2 a2 e2)(h3:NumR s a2 e2 4 v3 a3 e3):HeadR s a v1 v2 v3 a3 e3:=by
 refine ⟨h1.1,h2.1,h3.1,h3.2.1, ?_⟩
 by_cases he1:e1=0
 ·obtain ⟨p1,p2,p3⟩:=h1.ok he1
  subst he1
  by_cases he2:e2=0
  ·obtain ⟨q1,q2,q3⟩:=h2.ok he2
   subst he2
   by_cases he3:e3=0
   ·obtain ⟨r1,r2,r3⟩:=h3.ok he3
    subst p3 q3
    exact .inl ⟨he3,by omega,p2,q2,r2⟩
   obtain ⟨r1,r2⟩:=h3.bad he3
   exact .inr ⟨r2,told_short (by omega)⟩
  obtain ⟨q1,q2⟩:=h2.bad he2
  exact .inr ⟨by rw[h3.stay he2,q2],told_short (by omega)⟩
 obtain ⟨p1,p2⟩:=h1.bad he1
 have he2:e2≠0:=by rw[h2.stay he1];exact he1
 exact .inr ⟨by rw[h3.stay he2,h2.stay he1,p2],told_short (by omega)⟩
theorem order_lt(i:Nat):orderL.getD i 0<19:=by
 by_cases h:i<19
 ·have: ∀i:Fin 19,orderL.getD i.val 0<19:=by decide
  exact this ⟨i,h⟩
 rw[List.getD_eq_getElem?_getD,List.getElem?_eq_none (by simp[orderL];omega)];simp
theorem wp_world'{P:Program}{c:Code}{Q:Exit→Act→World→Prop}{a:Act}{W:World}(R:World→Prop)(hR:R W)(h: ∀W',R W' →c.wp P Q a W'):c.wp P Q a W:=h W hR
theorem Ints.thaw{w:World}{gl off:Nat}{L:List Nat}(h:Ints w gl off L)(i:Nat):w.frozen? ⟨gl,i,none⟩=false:=by
 obtain ⟨cur,hg,_⟩:=h;exact frozen_of_row w gl i cur 3 hg
theorem Ints.new(w:World){cur:Array Value}{L:List Nat}{g:Nat}(hg:g=w.heap.size)(h: ∀j,j<L.length→cur[j]? =some (.int .i64 (L.getD j 0:Nat))):Ints (w.alloc (.cells cur 3)) g 0 L:=by
 subst hg;exact ⟨cur,Go.heap_alloc_new w _,fun j hj=>by rw[Nat.zero_add];exact h j hj⟩
theorem Ints.alloc{w:World}{gl off:Nat}{L:List Nat}(h:Ints w gl off L)(o:Obj):Ints (w.alloc o) gl off L:=h.kept ((Only.refl (fun _=>False) w).alloc o) (fun x=>x)
theorem Ints.setOther{w:World}{gl off:Nat}{L:List Nat}(h:Ints w gl off L)(b i:Nat)(hb:gl≠b)(v:Value):Ints (w.setCell ⟨b,i,none⟩ v) gl off L:=h.kept (only_set w b i v) hb
theorem zeros_get(j:Nat)(h:j<(List.replicate 19 0).length):(madeCells #[Value.int .i64 0] 19)[j]? =some (.int .i64 ((List.replicate 19 0).getD j 0:Nat)):=by
 rw[List.length_replicate] at h
 rw[List.getD_eq_getElem?_getD,List.getElem?_replicate,if_pos h]
 simp[madeCells,h,Nat.mod_one]
def OwnR(s:ByteArray)(a i e3:Nat)(C:List Nat)(a' e' :Nat):Prop:=C.length=19∧(∀j,C.getD j 0≤15)∧a' ≤8*s.size∧((e' =0∧e3=0∧a' =a+14+3*i∧C=ownL s (a+14) i)∨(e' =2∧toldS s a=none))
theorem OwnR.next{s:ByteArray}{a v1 v2 v3 a3 e3 i:Nat}{C:List Nat}{a' e' v a'' e'' :Nat}(hh:HeadR s a v1 v2 v3 a3 e3)(h:OwnR s a i e3 C a' e')(hi:i<4+v3)(hn:NumR s a' e' 3 v a'' e''):OwnR s a (i+1) e3 (C.set (orderL.getD i 0) v) a'' e'' :=by
 obtain ⟨h1,h2,h3,h4⟩:=h
 have hv:v<8:=hn.1
 refine ⟨by rw[List.length_set,h1],fun j=> ?_,hn.2.1, ?_⟩
 ·rw[List.getD_eq_getElem?_getD,List.getElem?_set]
  split
  ·split
   ·show v≤15;omega
   simp
  rw[←List.getD_eq_getElem?_getD];exact h2 j
 rcases h4 with ⟨rfl,q2,q3,q4⟩|⟨rfl,q2⟩
 ·by_cases he:e'' =0
  ·obtain ⟨k1,k2,k3⟩:=hn.ok he
   exact .inl ⟨he,q2,by omega,by rw[ownL,←q4,←q3,←k2]⟩
  obtain ⟨k1,k2⟩:=hn.bad he
  obtain ⟨_,_,_,_,⟨_,_,_,_,r5⟩|⟨r1,_⟩⟩:=hh
  ·exact .inr ⟨k2,told_cut (by rw[←r5];omega)⟩
  omega
 exact .inr ⟨hn.stay (by omega),q2⟩
theorem told_any(g:Nat)(S:Nat→Prop)(hSg:S g)(s:ByteArray)(hs:s.size≤140737488355328)(a:Nat)(l:List UInt8)(hl:l.length≤20000)(ha:a≤8*s.size)(w:World)(h:St w g S s a l 0):
 Calls Tryz.prog 195 #[.pointer (some ⟨g,0,none⟩)] w fun r w' =>
  r=.returned (.tuple #[])∧Only S w w' ∧ ∃a' l' e',SymR s (toldR s a l) a' l' e' ∧ ∃S' :Nat→Prop,St w' g S' s a' l' e' ∧ ∀k,k<w.heap.size→S' k→S k:=by
 obtain ⟨ao,cp,hr,how,hsa⟩:=h
 have HR:=hide hr
 have HOW:=hide how
 have HSA:=hide hsa
 have HN1:=hide (number_any g s hs a (.slice ao l.length cp) 0 5 (by omega) ha w hr)
 clear hr how hsa
 obtain ⟨i0,hi0,hz0,hz1,hz2⟩:=info_parts infoI3
 have hmk: ∀W:World,(Instr.makeSlice 33 (.int .i64 19) (.int .i64 19)).run Tryz.prog W=.ok (.slice (some ⟨W.heap.size,0,none⟩) 19 19) (W.alloc (.cells (madeCells #[.int .i64 0] 19) 3)):=by
  intro W
  have h:=run_make (P:=Tryz.prog) W 33 3 i0 (.int .i64 0) Tryz.underlying33 hi0 hz0 .i64 .i64 19 19 (by omega) (by omega) (by rw[hz2];decide) (by decide)
  rw[hz1] at h
  exact h
 go_in
 go_wp2_with fail
 refine (uh HN1).mono ?_
 rintro r w1 ⟨v1,a1,e1,rfl,h1,hr1,ho1⟩
 have HN2:=hide (number_any g s hs a1 (.slice ao l.length cp) e1 5 (by omega) h1.2.1 w1 hr1)
 have hv1:v1<32:=h1.1
 have H1:=hide h1
 have HO1:=hide ho1
 clear h1 hr1 ho1 HN1
 go_wp2_with fail
 refine (uh HN2).mono ?_
 rintro r w2 ⟨v2,a2,e2,rfl,h2,hr2,ho2⟩
 have HN3:=hide (number_any g s hs a2 (.slice ao l.length cp) e2 4 (by omega) h2.2.1 w2 hr2)
 have hv2:v2<32:=h2.1
 have H2:=hide h2
 have HO2:=hide ((uh HO1).trans ho2)
 clear h2 hr2 ho2 HN2 HO1
 go_wp2_with fail
 refine (uh HN3).mono ?_
 rintro r w3 ⟨v3,a3,e3,rfl,h3,hr3,ho3⟩
 have hv3:v3<16:=h3.1
 have HH:=hide (head_of (uh H1) (uh H2) h3)
 have HO3:=hide ((uh HO2).trans ho3)
 have HR3:=hide hr3
 clear h3 hr3 ho3 HN3 HO2 H1 H2
 go_wp2_with fail
 clear hmk
 have hw3:=(uh HO3).size
 refine wp_world' (R:=fun W=>Rd W g s a3 (.slice ao l.length cp) e3∧Ints W w3.heap.size 0 orderL∧Ints W (w3.heap.size+1) 0 (List.replicate 19 0)∧Only (fun k=>k=g) w W) ⟨?_, ?_, ?_, ?_⟩ ?_
 ·exact ((uh HR3).kept ((Only.refl (fun _=>False) w3).alloc _) (fun x=>x)).kept ((Only.refl (fun _=>False) _).alloc _) (fun x=>x)
 ·refine (Ints.new w3 rfl (fun j hj=> ?_)).alloc _
  have: ∀j:Fin 19,(#[Value.int .i64 16,.int .i64 17,.int .i64 18,.int .i64 0,.int .i64 8,.int .i64 7,.int .i64 9,.int .i64 6,.int .i64 10,.int .i64 5,.int .i64 11,.int .i64 4,.int .i64 12,.int .i64 3,.int .i64 13,.int .i64 2,.int .i64 14,.int .i64 1,.int .i64 15]:Array Value)[j.val]? =some (.int .i64 (orderL.getD j.val 0:Nat)):=by
   intro j
   match j with
   |⟨0,_⟩=>rfl|⟨1,_⟩=>rfl|⟨2,_⟩=>rfl|⟨3,_⟩=>rfl|⟨4,_⟩=>rfl|⟨5,_⟩=>rfl|⟨6,_⟩=>rfl|⟨7,_⟩=>rfl|⟨8,_⟩=>rfl|⟨9,_⟩=>rfl|⟨10,_⟩=>rfl|⟨11,_⟩=>rfl|⟨12,_⟩=>rfl|⟨13,_⟩=>rfl|⟨14,_⟩=>rfl|⟨15,_⟩=>rfl|⟨16,_⟩=>rfl|⟨17,_⟩=>rfl|⟨18,_⟩=>rfl
   |⟨_+19,h⟩=>exact absurd h (by omega)
  exact this ⟨j,hj⟩
 ·exact Ints.new _ (by simp) zeros_get
 ·exact ((uh HO3).alloc _).alloc _
 rintro W ⟨hrW,hoW,hcW,honW⟩
 have HRW:=hide hrW
 have HOR:=hide hoW
 have HCD:=hide hcW
 have HOW2:=hide honW
 have hgl:=(uh HR).lt
 clear hrW hoW hcW honW HO3 HR3
 generalize w3.heap.size=gO at*
 go_wp2_with fail
 go_loopw [7] (fun x wr=> ∃i:Nat,i≤4+v3∧x=.int .i64 i∧Hid (∃C a' e',OwnR s a i e3 C a' e' ∧Rd wr g s a' (.slice ao l.length cp) e' ∧Ints wr (gO+1) 0 C)∧Hid (Ints wr gO 0 orderL)∧Hid (Only (fun k=>k=g) w wr)) (fun x _=>4+v3- (intOf x).toNat)
 ·refine ⟨0,by omega,rfl,⟨List.replicate 19 0,a3,e3,⟨List.length_replicate,fun j=> ?_,(uh HH).2.2.2.1, ?_⟩,HRW,HCD⟩,HOR,HOW2⟩
  ·rw[List.getD_eq_getElem?_getD,List.getElem?_replicate];split<;>simp
  rcases (uh HH).2.2.2.2 with ⟨r1,r2,_⟩|r
  ·exact .inl ⟨r1,r1,by omega,rfl⟩
  exact .inr r
 obtain ⟨i,hi,rfl,HI,HOR,HO⟩:=hrel
 obtain ⟨C,a',e',hown,hrd,hcod⟩:=uh HI
 by_cases hlt:i<4+v3
 ·have hltI:(i:Int)<4+(v3:Int):=by omega
  have hi19:(i:Int)<19:=by omega
  have hio:i<orderL.length:=by show i<19;omega
  have hco:=(uh HOR).cell hio
  have hoi:=order_lt i
  have HNX:=hide (fun v a'' e'' =>OwnR.next (v:=v) (a'' :=a'') (e'' :=e'') (uh HH) hown hlt)
  generalize orderL.getD i 0=oi at hco hoi HNX
  rw[Nat.zero_add] at hco
  have hoI:(oi:Int)<19:=by omega
  have HNM:=hide (number_any g s hs a' (.slice ao l.length cp) e' 3 (by omega) hown.2.2.1 wr.drew hrd)
  have hcl:C.length=19:=hown.1
  have HCOD:=hide hcod
  have HRD:=hide hrd
  clear hown hrd hcod hio
  have HSW:wr.drew.cell? ⟨gO,i,none⟩=some (.int .i64 (oi:Nat)):=hco
  go_upto_region 8 with fail
  refine wp_region_last (S:=fun W=>W.cell? ⟨gO,i,none⟩=some (.int .i64 (oi:Nat))) (L:=8) (by kernel_rfl) ?_
  refine wpAnyL_take (i:=0) (v:=.slice (some ⟨gO+1,0,none⟩) 19 19) (some 28) rfl rfl (by kernel_rfl) (by kernel_rfl) (by kernel_rfl) (by kernel_rfl) (fun _ _ _ h=>h) (.inl ⟨rfl,fun W hW=>by go_simp⟩) HSW ?_
  simp only[Act.put,List.setIfInBounds_toArray,List.set_cons_zero,List.set_cons_succ]
  refine wpAnyL_take (i:=1) (v:=.slice (some ⟨gO,0,none⟩) 19 19) (some 29) rfl rfl (by kernel_rfl) (by kernel_rfl) (by kernel_rfl) (by kernel_rfl) (fun _ _ _ h=>h) (.inl ⟨rfl,fun W hW=>by go_simp⟩) HSW ?_
  simp only[Act.put,List.setIfInBounds_toArray,List.set_cons_zero,List.set_cons_succ]
  refine wpAnyL_take (i:=2) (v:=.int .i64 i) (some 30) rfl rfl (by kernel_rfl) (by kernel_rfl) (by kernel_rfl) (by kernel_rfl) (fun _ _ _ h=>h) (.inl ⟨rfl,fun W hW=>by go_simp⟩) HSW ?_
  simp only[Act.put,List.setIfInBounds_toArray,List.set_cons_zero,List.set_cons_succ]
  refine wpAnyL_take (i:=3) (v:=.pointer (some ⟨gO,i,none⟩)) (some 31) rfl rfl (by kernel_rfl) (by kernel_rfl) (by kernel_rfl) (by kernel_rfl) (fun _ _ _ h=>h) (.inl ⟨rfl,fun W hW=>by go_simp⟩) HSW ?_
  simp only[Act.put,List.setIfInBounds_toArray,List.set_cons_zero,List.set_cons_succ]
  refine wpAnyL_take (i:=4) (v:=.int .i64 oi) (some 32) rfl rfl (by kernel_rfl) (by kernel_rfl) (by kernel_rfl) (by kernel_rfl) (fun _ _ _ h=>h) (.inl ⟨rfl,fun W hW=>by go_simp⟩) HSW ?_
  simp only[Act.put,List.setIfInBounds_toArray,List.set_cons_zero,List.set_cons_succ]
  refine wpAnyL_take (i:=5) (v:=.pointer (some ⟨g,0,none⟩)) (some 33) rfl rfl (by kernel_rfl) (by kernel_rfl) (by kernel_rfl) (by kernel_rfl) (fun _ _ _ h=>h) (.inl ⟨rfl,fun W hW=>by go_simp⟩) HSW ?_
  simp only[Act.put,List.setIfInBounds_toArray,List.set_cons_zero,List.set_cons_succ]
  refine wpAnyL_one (i:=6) (by kernel_rfl) ?_
  refine wpOp_step rfl (fun K' hK=> ?_)
  go_simp
  refine (uh HNM).mono ?_
  rintro r w5 ⟨v,a5,e5,rfl,h5,hr5,ho5⟩
  have hg1:gO+1≠g:=by omega
  have hg0:gO≠g:=by omega
  have hcod5:=((uh HCOD).kept ((Only.refl (fun k=>k=g) wr).drew.trans ho5) hg1)
  have hord5:=((uh HOR).kept ((Only.refl (fun k=>k=g) wr).drew.trans ho5) hg0)
  have hso5:w5.cell? ⟨gO,i,none⟩=some (.int .i64 (oi:Nat)):=(ho5.cell (p:=⟨gO,i,none⟩) (show gO<wr.drew.heap.size from (uh HOR).lt) hg0).trans HSW
  have hcc:=hcod5.cell (j:=oi) (by rw[hcl];exact hoi)
  rw[Nat.zero_add] at hcc
  have hff:=hcod5.thaw oi
  refine hK _ _ ⟨fun _=>hso5, ?_⟩
  clear hK
  refine wpAnyL_one (i:=7) (by kernel_rfl) ?_
  refine wpOp_step rfl (fun K' hK=> ?_)
  go_simp
  refine hK _ _ ⟨fun _=>hso5, ?_⟩
  clear hK
  refine wpAnyL_one (i:=8) (by kernel_rfl) ?_
  refine wpOp_step rfl (fun K' hK=> ?_)
  go_simp
  refine hK _ _ ⟨fun h=>absurd rfl h, ?_⟩
  clear hK
  refine wpAnyL_done (by kernel_rfl) ?_
  have HNX5:=hide (uh HNX v a5 e5 h5)
  have HR5:=hide (hr5.kept (only_set w5 (gO+1) oi (.int .i64 (v:Nat))) (show ¬g=gO+1 by omega))
  have HC5:=hide (hcod5.set (by rw[hcl];exact hoi) v)
  have HO5:=hide (((uh HO).drew.trans ho5).setCell (p:=⟨gO+1,oi,none⟩) (fun hh=>absurd hh (show ¬gO+1<w.heap.size by omega)) (.int .i64 (v:Nat)))
  have HOR5:=hide (hord5.setOther (gO+1) oi (by omega) (.int .i64 (v:Nat)))
  clear h5 hr5 ho5 hcod5 hord5 hso5 hcc hff
  go_wp2_with fail
  go_roundw
  ·exact ⟨i+1,by omega,by go_num,⟨_,_,_,uh HNX5,HR5,HC5⟩,HOR5,HO5⟩
  case measure=>simp[intOf];omega
 have hie:i=4+v3:=by omega
 subst hie
 obtain ⟨M,hM⟩: ∃M,M=257+v1:=⟨_,rfl⟩
 obtain ⟨F,hF⟩: ∃F,F=1+v2:=⟨_,rfl⟩
 have hMI:257+(v1:Int)=(M:Int):=by omega
 have hFI:1+(v2:Int)=(F:Int):=by omega
 rw[hMI,hFI]
 have hM1:M≤288∧257≤M:=by omega
 have hF1:F≤32∧1≤F:=by omega
 have HMM:=hide hM
 have HFF:=hide hF
 have ha' :=hown.2.2.1
 have HFT:=hide (fits_any false (gO+1) 0 19 C (by rw[hown.1];omega) hown.2.1 wr hcod)
 rw[hown.1] at HFT
 have HFA:=hide (fun w1 h1=>fail_any g s a' (.slice ao l.length cp) e' 2 w1 h1)
 have hcs:=hown.2.2.2
 have HCS:=hide hcs
 have HNN0:Hid ((286<M∨30<F∨fitS C=false)→toldS s a=none∧orE e' 2=2):=by
  intro hx
  rcases hcs with ⟨rfl,q2,q3,q4⟩|⟨rfl,q2⟩
  ·refine ⟨?_,rfl⟩
   rcases (uh HH).2.2.2.2 with ⟨_,_,r3,r4,r5⟩|⟨r1,_⟩
   ·rcases hx with h|h|h
    ·exact told_many (.inl (by rw[←r3];omega))
    ·exact told_many (.inr (by rw[←r4];omega))
    exact told_unfit (by rw[←r5,←q4];exact h)
   omega
  exact ⟨q2,rfl⟩
 have HRD:=hide hrd
 have HCOD:=hide hcod
 have HOWN:=hide hown
 have hcl:C.length=19:=hown.1
 clear hM hF hMI hFI hcs hrd hcod hown
 have hc3:=(uh HRD).c3
 generalize hfb:fitS C=fb at HFT HNN0
 have HFB:=hide hfb
 clear hfb
 simp only[Bool.false_eq_true,if_false] at HFT
 by_cases c1:286<M
 ·have c1I:(286:Int)<(M:Int):=by omega
  have HNN:=hide (uh HNN0 (.inl c1))
  go_wp2_with (go_at_call 287;refine (uh HFT).mono ?_;rintro r w5 ⟨rfl,rfl⟩)
  refine (uh HFA _ (uh HRD)).mono ?_
  rintro r w6 ⟨rfl,hr6,ho6⟩
  rw[(uh HNN).2] at hr6
  have HR6:=hide hr6
  have HO6:=hide ((uh HO).trans ho6)
  clear hr6 ho6
  have HRE:=hide (row_err g s a' (.slice ao l.length cp) 2 (by omega) (.slice (some ⟨gO+1,0,none⟩) 19 19) (M+F) w6 (uh HR6))
  rw[Int.natCast_add] at HRE
  have hce:w6.cell? ⟨g,3,none⟩=some (.int .i64 2):=(uh HR6).c3
  go_wp2_with (go_at_call 288;refine (uh HRE).mono ?_;rintro r w7 ⟨rfl,rfl⟩)
  refine bodyPost_ret (results_none rfl _ _ _) rfl ?_
  exact ⟨rfl,(uh HO6).of_g hSg,_,l,2,⟨ha',hl,.inr ⟨toldR_none l (uh HNN).1,by omega⟩⟩,S,St.next (uh HR) (uh HOW) (uh HSA) (uh HO6) (uh HR6),fun _ _ h=>h⟩
 have c1I:¬(286:Int)<(M:Int):=by omega
 by_cases c2:30<F
 ·have c2I:(30:Int)<(F:Int):=by omega
  have HNN:=hide (uh HNN0 (.inr (.inl c2)))
  go_wp2_with (go_at_call 287;refine (uh HFT).mono ?_;rintro r w5 ⟨rfl,rfl⟩)
  refine (uh HFA _ (uh HRD)).mono ?_
  rintro r w6 ⟨rfl,hr6,ho6⟩
  rw[(uh HNN).2] at hr6
  have HR6:=hide hr6
  have HO6:=hide ((uh HO).trans ho6)
  clear hr6 ho6
  have HRE:=hide (row_err g s a' (.slice ao l.length cp) 2 (by omega) (.slice (some ⟨gO+1,0,none⟩) 19 19) (M+F) w6 (uh HR6))
  rw[Int.natCast_add] at HRE
  have hce:w6.cell? ⟨g,3,none⟩=some (.int .i64 2):=(uh HR6).c3
  go_wp2_with (go_at_call 288;refine (uh HRE).mono ?_;rintro r w7 ⟨rfl,rfl⟩)
  refine bodyPost_ret (results_none rfl _ _ _) rfl ?_
  exact ⟨rfl,(uh HO6).of_g hSg,_,l,2,⟨ha',hl,.inr ⟨toldR_none l (uh HNN).1,by omega⟩⟩,S,St.next (uh HR) (uh HOW) (uh HSA) (uh HO6) (uh HR6),fun _ _ h=>h⟩
 have c2I:¬(30:Int)<(F:Int):=by omega
 cases fb with
 |false=>
  have HNN:=hide (uh HNN0 (.inr (.inr rfl)))
  go_wp2_with (go_at_call 287;refine (uh HFT).mono ?_;rintro r w5 ⟨rfl,rfl⟩)
  refine (uh HFA _ (uh HRD)).mono ?_
  rintro r w6 ⟨rfl,hr6,ho6⟩
  rw[(uh HNN).2] at hr6
  have HR6:=hide hr6
  have HO6:=hide ((uh HO).trans ho6)
  clear hr6 ho6
  have HRE:=hide (row_err g s a' (.slice ao l.length cp) 2 (by omega) (.slice (some ⟨gO+1,0,none⟩) 19 19) (M+F) w6 (uh HR6))
  rw[Int.natCast_add] at HRE
  have hce:w6.cell? ⟨g,3,none⟩=some (.int .i64 2):=(uh HR6).c3
  go_wp2_with (go_at_call 288;refine (uh HRE).mono ?_;rintro r w7 ⟨rfl,rfl⟩)
  refine bodyPost_ret (results_none rfl _ _ _) rfl ?_
  exact ⟨rfl,(uh HO6).of_g hSg,_,l,2,⟨ha',hl,.inr ⟨toldR_none l (uh HNN).1,by omega⟩⟩,S,St.next (uh HR) (uh HOW) (uh HSA) (uh HO6) (uh HR6),fun _ _ h=>h⟩
 |true=>
  rcases uh HCS with ⟨he0,q2,q3,q4⟩|⟨he2,q2⟩
  ·subst he0
   have hhead:v1=numAt s a 5∧v2=numAt s (a+5) 5∧v3=numAt s (a+10) 4∧a3=a+14:=by
    rcases (uh HH).2.2.2.2 with ⟨_,r2,r3,r4,r5⟩|⟨r1,_⟩
    ·exact ⟨r3,r4,r5,r2⟩
    omega
   have HHD:=hide hhead
   have HQ3:=hide q3
   have HQ4:=hide q4
   have hneC:gO+1≠g:=by omega
   have HRW:=hide (row_any g s hs a' (.slice ao l.length cp) ha' (gO+1) 19 C hcl (M+F) (by omega) wr (uh HRD) (uh HCOD))
   rw[Int.natCast_add] at HRW
   have hc3z:wr.cell? ⟨g,3,none⟩=some (.int .i64 0):=hc3
   clear hc3 hhead q3 q4 q2 HCS
   go_wp2_with (go_at_call 287;refine (uh HFT).mono ?_;rintro r w5 ⟨rfl,rfl⟩)
   refine (uh HRW).mono ?_
   rintro r w6 ⟨ho6,a6,e6,ao6,n,cap,rfl,ha6,hr6,hcs6⟩
   have HR6:=hide hr6
   have HO6:=hide ((uh HO).trans ho6)
   have hc6:=hr6.c3
   have hsz6:=ho6.size
   clear hr6 ho6 HRW hc3z
   rcases hcs6 with ⟨he6,ll,hrow,hnl,how6⟩|⟨he6,hrow⟩
   ·subst he6
    obtain ⟨hll15,hlln,_,_⟩:=rowS_le hcl hrow ha'
    have hnMF:n=M+F:=by omega
    obtain ⟨gl,cap',hvv,hgl6,hgl7⟩:=how6.form (by omega)
    injection hvv with hv1' hv2' hv3'
    subst hv1' hv3'
    have HI6:=hide (Ints.ofOwns hnl.symm how6)
    have HROW:=hide hrow
    have hwrsz:=(uh HO).size
    have HTE:Hid (toldS s a=if fitS (ll.take M)=true∧fitD (ll.drop M)=true∧ll.getD 256 0≠0 then some (a6,ll.take M,ll.drop M) else none):=by
     obtain ⟨r1,r2,r3,r4⟩:=uh HHD
     have hMr:M=257+numAt s a 5:=by rw[←r1];exact uh HMM
     have hFr:F=1+numAt s (a+5) 5:=by rw[←r2];exact uh HFF
     have h9:=uh HROW
     rw[uh HQ4,uh HQ3,r3,hMr,hFr] at h9
     have hq3:=uh HQ3
     have:=told_end (s:=s) (a:=a) (a' :=a6) (l:=ll) (by omega) (by rw[←hMr,←hFr];omega) (by rw[←r3];omega) (by rw[←r3,←uh HQ4];exact uh HFB) h9
     rw[←hMr] at this
     exact this
    have HFT1:=hide (fits_any false gl 0 cap (ll.take M) (by rw[List.length_take];omega) (fun j=>getD_le (fun x hx=>hll15 x (List.mem_of_mem_take hx)) j) w6 ((uh HI6).take M))
    have HFT2:=hide (fits_any true gl (0+M) (cap- M) (ll.drop M) (by rw[List.length_drop];omega) (fun j=>getD_le (fun x hx=>hll15 x (List.mem_of_mem_drop hx)) j) w6 ((uh HI6).drop M))
    have hlt1:(ll.take M).length=M:=by rw[List.length_take];omega
    have hlt2:(ll.drop M).length=F:=by rw[List.length_drop];omega
    rw[hlt1] at HFT1
    rw[hlt2,Nat.zero_add] at HFT2
    simp only[Bool.false_eq_true,if_false] at HFT1
    simp only[if_true] at HFT2
    have HL1:=hide hlt1
    have HL2:=hide hlt2
    have hc256:=(uh HI6).cell (j:=256) (by omega)
    rw[Nat.zero_add] at hc256
    have hc6z:w6.cell? ⟨g,3,none⟩=some (.int .i64 0):=hc6
    have hcapM:n≤cap:=by
     obtain ⟨_,h|⟨_,_,_,hv,_,_,hle,_⟩⟩:=how6
     ·cases h.1
     injection hv with _ _ hv3;omega
    clear how6 hrow hc6 hlt1 hlt2 hll15
    have m1:(M:Int)≤(cap:Int):=by omega
    have m2:(0:Int)≤(M:Int):=by omega
    have m3:((M:Nat):Int).toNat=M:=Int.toNat_natCast M
    have m4:(M:Int)≤(n:Int):=by omega
    have m5:n- M=F:=by omega
    have m6:(256:Int)<(n:Int):=by omega
    have m7:(M:Int)≤(M:Int)+(F:Int):=by omega
    have mcap:¬cap=M:=by omega
    generalize hz256:ll.getD 256 0=z at hc256 HTE
    generalize hf1:fitS (ll.take M)=f1 at HFT1 HTE
    generalize hf2:fitD (ll.drop M)=f2 at HFT2 HTE
    clear hz256 hf1 hf2
    have HFA6:=hide (fail_any g s a6 (.slice ao l.length cp) 0 2 w6 (uh HR6))
    cases f1 with
    |false=>
     have HNO:Hid (toldS s a=none):=by rw[uh HTE];exact if_neg (fun h=>by cases h.1)
     go_wp2_with fail
     refine (uh HFT1).mono ?_
     rintro r w7 ⟨rfl,rfl⟩
     go_wp2_with fail
     refine (uh HFT2).mono ?_
     rintro r w7 ⟨rfl,rfl⟩
     go_wp2_with fail
     refine (uh HFA6).mono ?_
     rintro r w8 ⟨rfl,hr8,ho8⟩
     have hO8:=(uh HO6).trans ho8
     go_wp2_with fail
     refine bodyPost_ret (results_none rfl _ _ _) rfl ?_
     exact ⟨rfl,hO8.of_g hSg,a6,l,2,⟨ha6,hl,.inr ⟨toldR_none l (uh HNO),by omega⟩⟩,S,St.next (uh HR) (uh HOW) (uh HSA) hO8 hr8,fun _ _ h=>h⟩
    |true=>
     cases f2 with
     |false=>
      have HNO:Hid (toldS s a=none):=by rw[uh HTE];exact if_neg (fun h=>by cases h.2.1)
      go_wp2_with fail
      refine (uh HFT1).mono ?_
      rintro r w7 ⟨rfl,rfl⟩
      go_wp2_with fail
      refine (uh HFT2).mono ?_
      rintro r w7 ⟨rfl,rfl⟩
      go_wp2_with fail
      refine (uh HFA6).mono ?_
      rintro r w8 ⟨rfl,hr8,ho8⟩
      have hO8:=(uh HO6).trans ho8
      go_wp2_with fail
      refine bodyPost_ret (results_none rfl _ _ _) rfl ?_
      exact ⟨rfl,hO8.of_g hSg,a6,l,2,⟨ha6,hl,.inr ⟨toldR_none l (uh HNO),by omega⟩⟩,S,St.next (uh HR) (uh HOW) (uh HSA) hO8 hr8,fun _ _ h=>h⟩
     |true=>
      by_cases hz:z=0
      ·subst hz
       have hzz:w6.cell? ⟨gl,256,none⟩=some (.int .i64 0):=hc256
       clear hc256
       have HNO:Hid (toldS s a=none):=by rw[uh HTE];exact if_neg (fun h=>h.2.2 rfl)
       go_wp2_with fail
       refine (uh HFT1).mono ?_
       rintro r w7 ⟨rfl,rfl⟩
       go_wp2_with fail
       refine (uh HFT2).mono ?_
       rintro r w7 ⟨rfl,rfl⟩
       go_wp2_with fail
       refine (uh HFA6).mono ?_
       rintro r w8 ⟨rfl,hr8,ho8⟩
       have hO8:=(uh HO6).trans ho8
       go_wp2_with fail
       refine bodyPost_ret (results_none rfl _ _ _) rfl ?_
       exact ⟨rfl,hO8.of_g hSg,a6,l,2,⟨ha6,hl,.inr ⟨toldR_none l (uh HNO),by omega⟩⟩,S,St.next (uh HR) (uh HOW) (uh HSA) hO8 hr8,fun _ _ h=>h⟩
      have hzb:((z:Int)==0)=false:=by rw[beq_eq_false_iff_ne];omega
      have HTS:Hid (toldS s a=some (a6,ll.take M,ll.drop M)):=by rw[uh HTE];exact if_pos ⟨rfl,rfl,hz⟩
      have hglne:=(uh HI6).ne (uh HR6)
      have hnS:¬(gl=g∨(S gl∧gl<w.heap.size)∨w6.heap.size≤gl):=by omega
      have hSt6:St w6 g (fun k=>k=g∨(S k∧k<w.heap.size)∨w6.heap.size≤k) s a6 l 0:=St.next (uh HR) (uh HOW) (fun b hb=> .inr (.inl ⟨uh HSA b hb,by
       obtain ⟨cur,hg⟩:=own_heap (uh HOW) (b:=b.block) (by rw[hb];rfl)
       exact (Array.getElem?_eq_some_iff.1 hg).1⟩)) (uh HO6) (uh HR6)
      have HSY:=hide (symbols_any g (fun k=>k=g∨(S k∧k<w.heap.size)∨w6.heap.size≤k) (.inl rfl) s hs a6 l hl ha6 gl 0 cap (ll.take M) (by have:=uh HL1;omega) hnS gl M (cap- M) (ll.drop M) (by have:=uh HL2;omega) hnS w6.drew (fun k hk=> .inr (.inr hk)) hSt6 ((uh HI6).take M) (by have:=(uh HI6).drop M;rw[Nat.zero_add] at this;exact this))
      rw[uh HL1,uh HL2] at HSY
      clear HTE
      go_wp2_with fail
      refine (uh HFT1).mono ?_
      rintro r w7 ⟨rfl,rfl⟩
      go_wp2_with fail
      refine (uh HFT2).mono ?_
      rintro r w7 ⟨rfl,rfl⟩
      go_wp2_with fail
      refine wp_region_last (S:=fun _=>True) (L:=7) (by kernel_rfl) ?_
      refine tk 0 15 (.pointer (some ⟨g,0,none⟩)) 83 trivial ?_
      refine tk 1 15 (.slice (some ⟨gl,0,none⟩) n cap) 84 trivial ?_
      refine tk 2 15 (.int .i64 M) 85 trivial ?_
      refine tk 3 15 (.slice (some ⟨gl,0,none⟩) M cap) 86 trivial ?_
      refine tk 4 15 (.slice (some ⟨gl,0,none⟩) n cap) 87 trivial ?_
      refine tk 5 15 (.int .i64 M) 88 trivial ?_
      refine tk 6 15 (.slice (some ⟨gl,M,none⟩) F (cap- M)) 89 trivial ?_
      refine wpAnyL_one (i:=7) (by kernel_rfl) ?_
      refine wpOp_step rfl (fun K' hK=> ?_)
      go_simp
      refine (uh HSY).mono ?_
      rintro r w9 ⟨rfl,ho9,a9,l9,e9,hsr9,hst9⟩
      refine hK _ _ ⟨fun h=>absurd rfl h, ?_⟩
      clear hK
      refine wpAnyL_done (by kernel_rfl) ?_
      go_wp2_with fail
      go_end0
      refine ⟨rfl, ?_,a9,l9,e9, ?_,_,hst9, ?_⟩
      ·exact ((uh HO6).of_g hSg).drew.transNew ho9 (fun i hi h=>by
        rcases h with h|h|h
        ·exact h ▸ hSg
        ·exact h.1
        exact absurd h (by omega))
      ·rw[toldR_some l (uh HTS)];exact hsr9
      intro k hk h
      rcases h with h|h|h
      ·exact h ▸ hSg
      ·exact h.1
      exact absurd h (by omega)
   subst he6
   have hc6z:w6.cell? ⟨g,3,none⟩=some (.int .i64 2):=hc6
   have HNO:Hid (toldS s a=none):=by
    obtain ⟨r1,r2,r3,r4⟩:=uh HHD
    have h9:=hrow
    rw[uh HQ4,uh HQ3,uh HMM,uh HFF,r1,r2,r3] at h9
    exact told_row h9
   clear hc6 hrow
   go_wp2_with fail
   refine bodyPost_ret (results_none rfl _ _ _) rfl ?_
   exact ⟨rfl,(uh HO6).of_g hSg,a6,l,2,⟨ha6,hl,.inr ⟨toldR_none l HNO,by omega⟩⟩,S,St.next (uh HR) (uh HOW) (uh HSA) (uh HO6) (uh HR6),fun _ _ h=>h⟩
  subst he2
  have HNO:=hide q2
  clear q2 hc3
  have HRE:=hide (row_err g s a' (.slice ao l.length cp) 2 (by omega) (.slice (some ⟨gO+1,0,none⟩) 19 19) (M+F) wr (uh HRD))
  rw[Int.natCast_add] at HRE
  have hce:wr.cell? ⟨g,3,none⟩=some (.int .i64 2):=(uh HRD).c3
  go_wp2_with (first
   |(go_at_call 287;refine (uh HFT).mono ?_;rintro r w5 ⟨rfl,rfl⟩)
   |(go_at_call 288;refine (uh HRE).mono ?_;rintro r w7 ⟨rfl,rfl⟩))
  refine bodyPost_ret (results_none rfl _ _ _) rfl ?_
  exact ⟨rfl,(uh HO).of_g hSg,_,l,2,⟨ha',hl,.inr ⟨toldR_none l (uh HNO),by omega⟩⟩,S,St.next (uh HR) (uh HOW) (uh HSA) (uh HO) (uh HRD),fun _ _ h=>h⟩
theorem symGo_ok{s:ByteArray}{L D:List Nat}: ∀{f a:Nat} {o:List UInt8} {a' :Nat} {o' :List UInt8},symGo s L D f a o=.inl (a',o')→a<a' ∧a' ≤8*s.size
 |0,a,o,a',o',h=>by cases h
 |f+1,a,o,a',o',h=>by
  rw[symGo] at h
  split at h
  ·rename_i r hs
   subst h
   unfold stepS at hs
   split at hs
   ·cases hs
   rename_i y a1 hd
   have:=dec_lt hd
   split at hs
   ·injection hs with hs;injection hs with hs;injection hs with h1 h2;omega
   split at hs
   ·split at hs
    ·cases hs
    cases hs
   split at hs
   ·cases hs
   unfold copyS at hs
   split at hs
   ·cases hs
   split at hs
   ·cases hs
   split at hs
   ·cases hs
   split at hs
   ·cases hs
   split at hs
   ·cases hs
   split at hs
   ·cases hs
   cases hs
  rename_i a2 o2 hs
  have h1:=stepS_lt hs
  have h2:=symGo_ok h
  omega
theorem symS_ok{s:ByteArray}{L D:List Nat}{a:Nat}{o:List UInt8}{a' :Nat}{o' :List UInt8}(h:symS s L D a o=.inl (a',o')):a<a' ∧a' ≤8*s.size:=symGo_ok h
theorem toldS_le{s:ByteArray}{a a' :Nat}{L D:List Nat}(h:toldS s a=some (a',L,D)):a≤a' :=by
 unfold toldS at h
 split at h
 ·cases h
 split at h
 ·cases h
 split at h
 ·cases h
 split at h
 ·cases h
 split at h
 ·cases h
 rename_i a2 l2 hr
 split at h
 ·injection h with h;injection h with h1 h2
  have:=rowS_le (ownL_len _ _ _) hr (by omega)
  omega
 cases h
theorem kindS_eq(s:ByteArray)(a:Nat)(o:List UInt8):kindS s a o=if numAt s (a+1) 2=0 then rawS s (a+3) o else if numAt s (a+1) 2=1 then symS s fixL fixD (a+3) o else if numAt s (a+1) 2=2 then toldR s (a+3) o else .inr 2:=by
 unfold kindS toldR
 have:=numAt_lt s (a+1) 2
 generalize numAt s (a+1) 2=k at this
 match k,this with
 |0,_=>rfl
 |1,_=>rfl
 |2,_=>rfl
 |3,_=>rfl
theorem blockS_ok{s:ByteArray}{a:Nat}{o:List UInt8}{a' :Nat}{o' :List UInt8}(h:blockS s a o=.inl (a',o')):a<a' ∧a' ≤8*s.size:=by
 unfold blockS at h
 split at h
 ·cases h
 rw[kindS_eq] at h
 split at h
 ·unfold rawS at h
  have hu:=upTo_ge (a+3)
  split at h
  ·cases h
  split at h
  ·cases h
  split at h
  ·cases h
  split at h
  ·cases h
  injection h with h;injection h with h1 h2;omega
 split at h
 ·have:=symS_ok h;omega
 split at h
 ·unfold toldR at h
  split at h
  ·cases h
  rename_i a2 L D ht
  have h1:=toldS_le ht
  have h2:=symS_ok h
  omega
 cases h
def inflGo(s:ByteArray):Nat→Nat→List UInt8→Res
 |0,_,_=> .inr 2
 |f+1,a,o=>match blockS s a o with
  | .inr e=> .inr e
  | .inl (a',o')=>if bitAt s a=1 then .inl (a',o') else inflGo s f a' o'
theorem inflGo_enough{s:ByteArray}: ∀{f f' a:Nat} {o:List UInt8},8*s.size<a+f→8*s.size<a+f' →a≤8*s.size→inflGo s f a o=inflGo s f' a o
 |0,_,a,o,h,_,ha=>by omega
 |_+1,0,a,o,_,h,ha=>by omega
 |f+1,f' +1,a,o,h1,h2,ha=>by
  rw[inflGo,inflGo]
  split
  ·rfl
  rename_i a' o' hs
  have:=blockS_ok hs
  split
  ·rfl
  exact inflGo_enough (by omega) (by omega) (by omega)
def inflS(s:ByteArray)(a:Nat)(o:List UInt8):Res:=inflGo s (8*s.size+1) a o
theorem inflS_bad{s:ByteArray}{a:Nat}{o:List UInt8}{e:Nat}(h:blockS s a o=.inr e):inflS s a o=.inr e:=by rw[inflS,inflGo,h]
theorem inflS_last{s:ByteArray}{a:Nat}{o:List UInt8}{a' :Nat}{o' :List UInt8}(h:blockS s a o=.inl (a',o'))(hb:bitAt s a=1):inflS s a o=.inl (a',o'):=by
 rw[inflS,inflGo,h];exact if_pos hb
theorem inflS_more{s:ByteArray}{a:Nat}{o:List UInt8}{a' :Nat}{o' :List UInt8}(h:blockS s a o=.inl (a',o'))(hb:bitAt s a≠1):inflS s a o=inflS s a' o' :=by
 have h1:=blockS_ok h
 rw[inflS,inflGo,h]
 show (if bitAt s a=1 then _ else _)=_
 rw[if_neg hb]
 exact inflGo_enough (by omega) (by omega) (by omega)
def outOf:Res→ByteArray×Nat×Nat
 | .inl (a,o)=>(⟨o.toArray⟩,(a+7)/8,0)
 | .inr e=>(⟨#[]⟩,0,e)
def inflate(s:ByteArray):ByteArray×Nat×Nat:=outOf (inflS s 0 [])
theorem St.mono{w:World}{g:Nat}{S S' :Nat→Prop}{s:ByteArray}{a:Nat}{l:List UInt8}{e:Nat}(h:St w g S s a l e)(hs: ∀k,k<w.heap.size→S k→S' k):St w g S' s a l e:=by
 obtain ⟨ao,cap,hr,how,hsa⟩:=h
 refine ⟨ao,cap,hr,how,fun b hb=>hs _ ?_ (hsa b hb)⟩
 obtain ⟨cur,hg⟩:=own_heap how (b:=b.block) (by rw[hb];rfl)
 exact (Array.getElem?_eq_some_iff.1 hg).1
def InfR(s:ByteArray)(la a:Nat)(l:List UInt8)(e:Nat):Prop:=a≤8*s.size∧l.length≤20000∧la<2∧((e=0∧la=0∧inflS s 0 []=inflS s a l)∨(e=0∧la=1∧inflS s 0 []=.inl (a,l))∨(e≠0∧inflS s 0 []=.inr e))
theorem InfR.next{s:ByteArray}{a:Nat}{l:List UInt8}{a' :Nat}{l' :List UInt8}{e' :Nat}(h:inflS s 0 []=inflS s a l)(ha:¬8*s.size<a+3)(hr:SymR s (kindS s a l) a' l' e'):InfR s (bitAt s a) a' l' e' :=by
 have hb:=bitAt_lt s a
 refine ⟨hr.1,hr.2.1,hb, ?_⟩
 have hbl:blockS s a l=kindS s a l:=if_neg ha
 rcases hr.2.2 with ⟨h1,h2⟩|⟨h1,h2⟩
 ·by_cases h3:bitAt s a=1
  ·exact .inr (.inl ⟨h2,h3,by rw[h];exact inflS_last (hbl.trans h1) h3⟩)
  exact .inl ⟨h2,by omega,by rw[h];exact inflS_more (hbl.trans h1) h3⟩
 exact .inr (.inr ⟨h2,by rw[h];exact inflS_bad (hbl.trans h1)⟩)
theorem nil_string(w:World):(convert 62 9 (.slice none 0 0)).run Tryz.prog w=.ok (.string ⟨#[]⟩) w:=by
 rw[run_convert_bytes_string w 62 9 5 none 0 0 Tryz.underlying62 Tryz.underlying5 Tryz.underlying9]
 rfl
theorem out_string{w:World}{ao:Option Addr}{l:List UInt8}{cp:Nat}(h:w.ownsRow 0 5 1 (.slice ao l.length cp) l.length (byteCells8 l)):(convert 62 9 (.slice ao l.length cp)).run Tryz.prog w=.ok (.string ⟨l.toArray⟩) w:=by
 have h' :=h
 obtain ⟨_,h|⟨b,cap,cur,hv,_⟩⟩:=h
 ·have hl:l=[]:=List.eq_nil_of_length_eq_zero h.2
  rw[h.1,hl]
  exact nil_string w
 injection hv with h1 h2 h3
 subst h1 h3
 exact run_bytes_string (P:=Tryz.prog) w 62 9 5 ⟨b,0,none⟩ _ l Tryz.underlying62 Tryz.underlying5 Tryz.underlying9 (h'.cells rfl)
theorem refInflate_any(s:ByteArray)(hs:s.size≤140737488355328)(w:World):
 Calls Tryz.prog 110 #[.string s] w fun r w' =>r=.returned (.tuple #[.string (inflate s).1,.int .i64 (inflate s).2.1,.int .i64 (inflate s).2.2])∧Old w w' :=by
 have HST:Hid (St (w.alloc (.cells #[.string s,.int .i64 0,.slice none 0 0,.int .i64 0] rdT)) w.heap.size (fun k=>w.heap.size≤k) s 0 [] 0):=⟨none,0,Go.heap_alloc_new w _,World.ownsRow_nil _ _ _ _,fun b hb=>by cases hb⟩
 go_in
 go_wp2_with fail
 go_loopw [6,7,8,9] (fun x _ _ _ wr=> ∃la e' :Nat,x=.int .i64 la∧wr.cell? ⟨w.heap.size,3,none⟩=some (.int .i64 e')∧Hid (∃a' l',InfR s la a' l' e' ∧St wr w.heap.size (fun k=>w.heap.size≤k) s a' l' e')∧Hid (Old w wr)) (fun x _ _ _ wr=>if cellN wr w.heap.size 3=0 then 8*s.size+2- cellN wr w.heap.size 1 else 0)
 ·obtain ⟨ao,cp,hr,_⟩:=uh HST
  exact ⟨0,0,rfl,hr.c3,⟨0,[],⟨by omega,by simp,by omega,.inl ⟨rfl,rfl,rfl⟩⟩,HST⟩,(Only.refl _ w).alloc _⟩
 obtain ⟨la,e',rfl,hc3,HI,HO⟩:=hrel
 obtain ⟨a,l,hinf,hst⟩:=uh HI
 by_cases hgo:la=0∧e' =0
 ·obtain ⟨rfl,rfl⟩:=hgo
  have hc3z:wr.cell? ⟨w.heap.size,3,none⟩=some (.int .i64 0):=hc3
  have heq:inflS s 0 []=inflS s a l:=by
   rcases hinf.2.2.2 with ⟨_,_,h⟩|⟨_,h,_⟩|⟨h,_⟩
   ·exact h
   ·cases h
   exact absurd rfl h
  have HEQ:=hide heq
  have hinf1:=hinf.1
  have hl:=hinf.2.1
  obtain ⟨ao,cp,hr,how,hsa⟩:=hst
  have HM3:=hide (cellN_of hc3)
  have HM1:=hide (cellN_of hr.c1)
  have HB:=hide (bit_any w.heap.size s hs a (.slice ao l.length cp) 0 hinf1 wr hr)
  have HR:=hide hr
  have HOW:=hide how
  have HSA:=hide hsa
  clear hinf heq hr how hsa hc3 HI
  go_wp2_with fail
  refine (uh HB).mono ?_
  rintro r w1 ⟨rfl,hr1,ho1⟩
  have HN:=hide (number_any w.heap.size s hs _ (.slice ao l.length cp) _ 2 (by omega) (by split<;>omega) w1 hr1)
  have HO1:=hide ho1
  have hb01:(if a<8*s.size then bitAt s a else 0)<2:=by split;exact bitAt_lt _ _;omega
  have HBV:Hid (a<8*s.size→(if a<8*s.size then bitAt s a else 0)=bitAt s a):=fun h=>if_pos h
  generalize (if a<8*s.size then bitAt s a else 0)=bv at hb01 HBV ⊢
  clear hr1 ho1 hc3z
  go_wp2_with fail
  refine (uh HN).mono ?_
  rintro r w2 ⟨kd,a2,e2,rfl,h2,hr2,ho2⟩
  have hk4:kd<4:=h2.1
  have HO2:=hide ((uh HO1).trans ho2)
  have HR2:=hide hr2
  have hc2:=hr2.c3
  have H2:=hide h2
  have ha2:=h2.2.1
  clear h2 hr2 ho2 HN HO1
  by_cases hroom:8*s.size<a+3
  ·have he2:e2=2:=by
    have h2:=uh H2
    by_cases hlt:a<8*s.size
    ·rw[if_pos hlt,if_pos hlt] at h2
     by_cases he:e2=0
     ·have:=h2.ok he;omega
     exact (h2.bad he).2
    rw[if_neg hlt,if_neg hlt] at h2
    exact h2.stay (by decide)
   subst he2
   have hc2z:w2.cell? ⟨w.heap.size,3,none⟩=some (.int .i64 2):=hc2
   have HRES:Hid (inflate s=(⟨#[]⟩,0,2)):=by
    unfold Hid inflate
    rw[uh HEQ,inflS_bad (show blockS s a l=.inr 2 from if_pos hroom)];rfl
   have HOF:Hid (Old w w2):=(uh HO).transNew (uh HO2) (fun k hk h=>absurd hk (by omega))
   clear hc2
   go_wp2_with fail
   go_quiet (fail)
   go_wp2_with fail
   go_ret3
   rw[uh HRES]
   exact ⟨rfl,(uh HOF).drewN _⟩
  have hkd:bv=bitAt s a∧kd=numAt s (a+1) 2∧a2=a+3∧e2=0:=by
   have h2:=uh H2
   have hlt:a<8*s.size:=by omega
   rw[if_pos hlt,if_pos hlt] at h2
   have hb:=uh HBV hlt
   by_cases he:e2=0
   ·have:=h2.ok he;exact ⟨hb,this.2.1,by omega,he⟩
   have:=(h2.bad he).1;omega
  obtain ⟨hbe,hke,ha23,he2⟩:=hkd
  subst he2 ha23 hbe
  have hc2z:w2.cell? ⟨w.heap.size,3,none⟩=some (.int .i64 0):=hc2
  have HKE:=hide hke
  have HST2:=hide (St.next (uh HR) (uh HOW) (uh HSA) (uh HO2) (uh HR2))
  have HO2S:Hid (Old w w2):=(uh HO).transNew (uh HO2) (fun k hk h=>absurd hk (by omega))
  have hFr:Fresh (fun k=>w.heap.size≤k) w2:=fun k hk=>Nat.le_trans (uh HO2S).size hk
  clear hke hc2 H2 HBV
  have hKE:=uh HKE
  by_cases k0:kd=0
  ·subst k0
   have HKR:Hid (kindS s a l=rawS s (a+3) l):=by unfold Hid;rw[kindS_eq,if_pos hKE.symm]
   have HAS:=hide (asIs_any w.heap.size (fun k=>w.heap.size≤k) (Nat.le_refl _) s hs (a+3) l hl ha2 w2 hFr (uh HST2))
   clear hKE HKE
   go_wp2_with (go_at_call 192;refine (uh HAS).mono ?_;rintro r w9 ⟨rfl,ho9,a9,l9,e9,hsr9,hst9⟩;have HO9:=hide ((uh HO2S).transNew ho9 (fun k hk h=>absurd hk (by omega)));have HSR9:=hide hsr9;have HST9:=hide hst9;clear ho9 hsr9 hst9)
   go_roundw
   ·obtain ⟨ao9,cp9,hr9,_⟩:=uh HST9
    exact ⟨bitAt s a,e9,rfl,hr9.c3,⟨a9,l9,InfR.next (uh HEQ) hroom (by rw[uh HKR];exact uh HSR9),HST9⟩,HO9⟩
   obtain ⟨ao9,cp9,hr9,_⟩:=uh HST9
   rw[uh HM3,uh HM1,cellN_of hr9.c3,cellN_of hr9.c1,if_pos rfl]
   have hle9:=(uh HSR9).1
   split
   ·rename_i he9
    have hgt:a<a9:=by
     rcases (uh HSR9).2.2 with ⟨h1,_⟩|⟨_,h⟩
     ·exact (blockS_ok ((if_neg hroom).trans ((uh HKR).trans h1))).1
     exact absurd he9 h
    omega
   omega
  have k0b:((kd:Int)==0)=false:=by rw[beq_eq_false_iff_ne];omega
  by_cases k1:kd=1
  ·subst k1
   have HKR:Hid (kindS s a l=symS s fixL fixD (a+3) l):=by unfold Hid;rw[kindS_eq,if_neg (by omega),if_pos hKE.symm]
   clear hKE HKE
   go_wp2_with fail
   refine (fixed_any w2).mono ?_
   rintro r w3 ⟨g1,c1,g2,c2,rfl,hi1,hi2,hg1,hg2,ho3⟩
   have hl1:=hi1.lt
   have hl2:=hi2.lt
   have hBw2:=(uh HO2S).size
   have hw23:=ho3.size
   have hSt3:St w3 w.heap.size (fun k=>k=w.heap.size∨(w.heap.size≤k∧k<w2.heap.size)∨w3.heap.size≤k) s (a+3) l 0:=by
    obtain ⟨ao3,cp3,hr3,how3,hsa3⟩:=uh HST2
    refine ⟨ao3,cp3,hr3.kept ho3 (fun x=>x),own_old how3 ho3,fun b hb=> .inr (.inl ⟨hsa3 b hb, ?_⟩)⟩
    obtain ⟨cur,hg⟩:=own_heap how3 (b:=b.block) (by rw[hb];rfl)
    exact (Array.getElem?_eq_some_iff.1 hg).1
   have hgne:=(uh HR2).lt
   have HSY:=hide (symbols_any w.heap.size (fun k=>k=w.heap.size∨(w.heap.size≤k∧k<w2.heap.size)∨w3.heap.size≤k) (.inl rfl) s hs (a+3) l hl ha2 g1 0 c1 fixL (by rw[fixL_len];omega) (by omega) g2 0 c2 fixD (by rw[fixD,List.length_replicate];omega) (by omega) w3 (fun k hk=> .inr (.inr hk)) hSt3 hi1 hi2)
   rw[fixL_len,show fixD.length=32 from by rw[fixD,List.length_replicate]] at HSY
   have HO3:=hide ho3
   clear hi1 hi2 ho3 hSt3
   go_wp2_with (go_at_call 194;refine (uh HSY).mono ?_;rintro r w9 ⟨rfl,ho9,a9,l9,e9,hsr9,hst9⟩;have HO9:=hide (((uh HO2S).trans (uh HO3)).transNew ho9 (fun k hk h=>absurd hk (by omega)));have HSR9:=hide hsr9;have HST9:=hide (hst9.mono (S' :=fun k=>w.heap.size≤k) (fun k _ h=>by omega));clear ho9 hsr9 hst9)
   go_roundw
   ·obtain ⟨ao9,cp9,hr9,_⟩:=uh HST9
    exact ⟨bitAt s a,e9,rfl,hr9.c3,⟨a9,l9,InfR.next (uh HEQ) hroom (by rw[uh HKR];exact uh HSR9),HST9⟩,HO9⟩
   obtain ⟨ao9,cp9,hr9,_⟩:=uh HST9
   rw[uh HM3,uh HM1,cellN_of hr9.c3,cellN_of hr9.c1,if_pos rfl]
   have hle9:=(uh HSR9).1
   split
   ·rename_i he9
    have hgt:a<a9:=by
     rcases (uh HSR9).2.2 with ⟨h1,_⟩|⟨_,h⟩
     ·exact (blockS_ok ((if_neg hroom).trans ((uh HKR).trans h1))).1
     exact absurd he9 h
    omega
   omega
  have k1b:((kd:Int)==1)=false:=by rw[beq_eq_false_iff_ne];omega
  by_cases k2:kd=2
  ·subst k2
   have HKR:Hid (kindS s a l=toldR s (a+3) l):=by unfold Hid;rw[kindS_eq,if_neg (by omega),if_neg (by omega),if_pos hKE.symm]
   have HTL:=hide (told_any w.heap.size (fun k=>w.heap.size≤k) (Nat.le_refl _) s hs (a+3) l hl ha2 w2 (uh HST2))
   have hBw2:=(uh HO2S).size
   clear hKE HKE
   go_wp2_with (go_at_call 195;refine (uh HTL).mono ?_;rintro r w9 ⟨rfl,ho9,a9,l9,e9,hsr9,S9,hst9,hS9⟩;have HO9:=hide ((uh HO2S).transNew ho9 (fun k hk h=>absurd hk (by omega)));have HSR9:=hide hsr9;have HST9:=hide (hst9.mono (S' :=fun k=>w.heap.size≤k) (fun k _ h=>(Nat.lt_or_ge k w2.heap.size).elim (fun hk=>hS9 k hk h) (fun hk=>Nat.le_trans hBw2 hk)));clear ho9 hsr9 hst9 hS9)
   go_roundw
   ·obtain ⟨ao9,cp9,hr9,_⟩:=uh HST9
    exact ⟨bitAt s a,e9,rfl,hr9.c3,⟨a9,l9,InfR.next (uh HEQ) hroom (by rw[uh HKR];exact uh HSR9),HST9⟩,HO9⟩
   obtain ⟨ao9,cp9,hr9,_⟩:=uh HST9
   rw[uh HM3,uh HM1,cellN_of hr9.c3,cellN_of hr9.c1,if_pos rfl]
   have hle9:=(uh HSR9).1
   split
   ·rename_i he9
    have hgt:a<a9:=by
     rcases (uh HSR9).2.2 with ⟨h1,_⟩|⟨_,h⟩
     ·exact (blockS_ok ((if_neg hroom).trans ((uh HKR).trans h1))).1
     exact absurd he9 h
    omega
   omega
  have k2b:((kd:Int)==2)=false:=by rw[beq_eq_false_iff_ne];omega
  have HKR:Hid (kindS s a l=.inr 2):=by unfold Hid;rw[kindS_eq,if_neg (by omega),if_neg (by omega),if_neg (by omega)]
  have HFA:=hide (fail_any w.heap.size s (a+3) (.slice ao l.length cp) 0 2 w2 (uh HR2))
  clear hKE HKE
  go_wp2_with (go_at_call 196;refine (uh HFA).mono ?_;rintro r w9 ⟨rfl,hr9,ho9⟩;have HO9:=hide ((uh HO2S).transNew ho9 (fun k hk h=>absurd hk (by omega)));have HST9:=hide (St.next (uh HR) (uh HOW) (uh HSA) ((uh HO2).trans ho9) hr9);clear ho9 hr9)
  have HSR9:Hid (SymR s (.inr 2) (a+3) l 2):=⟨ha2,hl,.inr ⟨rfl,by omega⟩⟩
  obtain ⟨a9,ha9⟩: ∃x,x=a+3:=⟨_,rfl⟩
  obtain ⟨l9,hl9⟩: ∃x,x=l:=⟨_,rfl⟩
  obtain ⟨e9,he9'⟩: ∃x,x=2:=⟨_,rfl⟩
  have HST9:Hid (St w9 w.heap.size (fun k=>w.heap.size≤k) s a9 l9 e9):=by rw[ha9,hl9,he9'];exact uh HST9
  have HSR9:Hid (SymR s (.inr 2) a9 l9 e9):=by rw[ha9,hl9,he9'];exact uh HSR9
  clear ha9 hl9 he9'
  go_roundw
  ·obtain ⟨ao9,cp9,hr9,_⟩:=uh HST9
   exact ⟨bitAt s a,e9,rfl,hr9.c3,⟨a9,l9,InfR.next (uh HEQ) hroom (by rw[uh HKR];exact uh HSR9),HST9⟩,HO9⟩
  obtain ⟨ao9,cp9,hr9,_⟩:=uh HST9
  rw[uh HM3,uh HM1,cellN_of hr9.c3,cellN_of hr9.c1,if_pos rfl]
  have hle9:=(uh HSR9).1
  split
  ·rename_i he9
   have hgt:a<a9:=by
    rcases (uh HSR9).2.2 with ⟨h1,_⟩|⟨_,h⟩
    ·exact (blockS_ok ((if_neg hroom).trans ((uh HKR).trans h1))).1
    exact absurd he9 h
   omega
  omega
 by_cases he:e' =0
 ·subst he
  obtain ⟨hla,hres⟩:la=1∧inflS s 0 []=.inl (a,l):=by
   rcases hinf.2.2.2 with ⟨_,h,_⟩|⟨_,h,h2⟩|⟨h,_⟩
   ·exact absurd ⟨h,rfl⟩ hgo
   ·exact ⟨h,h2⟩
   exact absurd rfl h
  subst hla
  obtain ⟨ao,cp,hr,how,hsa⟩:=hst
  have hcv: ∀n,(convert 62 9 (.slice ao l.length cp)).run Tryz.prog (wr.drewN n)=.ok (.string ⟨l.toArray⟩) (wr.drewN n):=fun n=>out_string (w:=wr.drewN n) how
  have hcv0:=hcv 0
  have HRES:Hid (inflate s=(⟨l.toArray⟩,(a+7)/8,0)):=by unfold Hid inflate;rw[hres];rfl
  have h1:=hr.c1
  have h2:=hr.c2
  have hc3z:wr.cell? ⟨w.heap.size,3,none⟩=some (.int .i64 0):=hc3
  have hab:a≤1125899906842624:=by have:=hinf.1;omega
  clear hinf hres hr how hsa hc3 HI
  go_wp2_with fail
  go_quiet (fail)
  go_wp2_with fail
  go_ret3
  rw[uh HRES]
  exact ⟨rfl,(uh HO).drewN _⟩
 have hb:((e' :Int)==0)=false:=by rw[beq_eq_false_iff_ne];omega
 have hbn:((e' :Int) !=0)=true:=by rw[bne_iff_ne];omega
 have HRES:Hid (inflate s=(⟨#[]⟩,0,e')):=by
  rcases hinf.2.2.2 with ⟨h,_⟩|⟨h,_⟩|⟨_,h⟩
  ·exact absurd h he
  ·exact absurd h he
  unfold Hid inflate;rw[h];rfl
 have hla2:=hinf.2.2.1
 clear hinf hst HI
 by_cases hla:la=0
 ·subst hla
  go_wp2_with fail
  go_quiet (fail)
  go_wp2_with fail
  go_ret3
  rw[uh HRES]
  exact ⟨rfl,(uh HO).drewN _⟩
 have hlb:((la:Int)==0)=false:=by rw[beq_eq_false_iff_ne];omega
 go_wp2_with fail
 go_quiet (fail)
 go_wp2_with fail
 go_ret3
 rw[uh HRES]
 exact ⟨rfl,(uh HO).drewN _⟩
end Go.Proofs.YtndfmgdhiallpaaGreatDoor
