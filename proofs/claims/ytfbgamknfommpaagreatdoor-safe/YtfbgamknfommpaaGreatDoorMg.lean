import Derived.Test.YtfbgamknfommpaaGreatDoorMf
set_option maxRecDepth 100000
set_option maxHeartbeats 400000
namespace Go.Proofs.YtfbgamknfommpaaGreatDoor
open Go.RowKit
theorem upTo_ge(a:Nat):a≤upTo a∧upTo a<a+8∧upTo a%8=0:=by unfold upTo;omega
theorem upTo_le{a n:Nat}(h:a≤8*n):upTo a≤8*n:=by unfold upTo;omega
open Go.RowKit Go.Maps
theorem own_keptB{S:Nat→Prop}{w w' :World}{base:Nat}{e:TypeId}{v:Value}{n:Nat}{xs:List Value}(h:w.ownsRow base e 1 v n xs)(ho:Only S w w')(hs: ∀b,v.ownBlock=some b→¬S b):w'.ownsRow base e 1 v n xs:=by
 obtain ⟨hl,h|⟨b,cap,cur,hv,h1,hg,r⟩⟩:=h
 ·exact ⟨hl,.inl h⟩
 exact ⟨hl,.inr ⟨b,cap,cur,hv,h1,(ho.block b (Array.getElem?_eq_some_iff.1 hg).1 (hs b (by rw[hv];rfl))).trans hg,r⟩⟩
theorem told_short{s:ByteArray}{a:Nat}(h:8*s.size<a+14):toldS s a=none:=by unfold toldS;rw[if_pos h]
theorem told_many{s:ByteArray}{a:Nat}(h:286<257+numAt s a 5∨30<1+numAt s (a+5) 5):toldS s a=none:=by
 unfold toldS
 split
 ·rfl
 first|rfl|rw[if_pos h]
theorem told_cut{s:ByteArray}{a:Nat}(h:8*s.size<a+14+3*(4+numAt s (a+10) 4)):toldS s a=none:=by
 unfold toldS
 split
 ·rfl
 split
 ·rfl
 first|rfl|rw[if_pos h]
theorem told_unfit{s:ByteArray}{a:Nat}(h:fitS (ownL s (a+14) (4+numAt s (a+10) 4))=false):toldS s a=none:=by
 unfold toldS
 split
 ·rfl
 split
 ·rfl
 split
 ·rfl
 first|rfl|rw[if_pos h]
theorem told_row{s:ByteArray}{a:Nat}(h:rowS s (ownL s (a+14) (4+numAt s (a+10) 4)) (257+numAt s a 5+(1+numAt s (a+5) 5)) (a+14+3*(4+numAt s (a+10) 4)) []=none):toldS s a=none:=by
 unfold toldS
 split
 ·rfl
 split
 ·rfl
 split
 ·rfl
 split
 ·rfl
 rw[h]
theorem told_end{s:ByteArray}{a a' :Nat}{l:List Nat}(h1:¬8*s.size<a+14)(h2:¬(286<257+numAt s a 5∨30<1+numAt s (a+5) 5))(h3:¬8*s.size<a+14+3*(4+numAt s (a+10) 4))
 (h4:fitS (ownL s (a+14) (4+numAt s (a+10) 4))=true)(h5:rowS s (ownL s (a+14) (4+numAt s (a+10) 4)) (257+numAt s a 5+(1+numAt s (a+5) 5)) (a+14+3*(4+numAt s (a+10) 4)) []=some (a',l)):
 toldS s a=if fitS (l.take (257+numAt s a 5))=true∧fitD (l.drop (257+numAt s a 5))=true∧l.getD 256 0≠0 then some (a',l.take (257+numAt s a 5),l.drop (257+numAt s a 5)) else none:=by
 unfold toldS
 rw[if_neg h1,if_neg h2,if_neg h3,if_neg (by rw[h4];decide),h5]
theorem ownL_le(s:ByteArray)(a k:Nat): ∀j,(ownL s a k).getD j 0≤15:=by
 induction k with
 |zero=>
  intro j
  rw[ownL,List.getD_eq_getElem?_getD,List.getElem?_replicate]
  split<;>simp
 |succ k ih=>
  intro j
  have h:=numAt_lt s (a+3*k) 3
  rw[ownL,List.getD_eq_getElem?_getD,List.getElem?_set]
  split
  ·split
   ·show numAt s (a+3*k) 3≤15;omega
   simp
  rw[←List.getD_eq_getElem?_getD];exact ih j
theorem stepR_le{s:ByteArray}{C:List Nat}(hC:C.length=19){many a:Nat}{l:List Nat}{a' :Nat}{l' :List Nat}(h:stepR s C many a l=some (a',l'))(hl: ∀x∈l,x≤15): ∀x∈l',x≤15:=by
 unfold stepR at h
 split at h
 ·cases h
 rename_i y a1 hd
 have hy:=(dec_lt hd).2.2
 split at h
 ·cases h
 split at h
 ·cases h
 split at h
 ·cases h
 injection h with h;injection h with h1 h2
 intro x hx
 rw[←h2] at hx
 rcases List.mem_append.1 hx with h3|h3
 ·exact hl x h3
 rw[(List.mem_replicate.1 h3).2]
 unfold rowWhat
 split
 ·by_cases hlen:l.length- 1<l.length
  ·rw[List.getD_eq_getElem?_getD,List.getElem?_eq_getElem hlen];exact hl _ (List.getElem_mem hlen)
  rw[List.getD_eq_getElem?_getD,List.getElem?_eq_none (by omega)];simp
 split<;>omega
theorem rowGo_le{s:ByteArray}{C:List Nat}(hC:C.length=19){many:Nat}: ∀{f a:Nat} {l:List Nat} {a' :Nat} {l' :List Nat},rowGo s C many f a l=some (a',l')→(∀x∈l,x≤15)→l.length≤many→a≤8*s.size→(∀x∈l',x≤15)∧l'.length=many∧a≤a' ∧a' ≤8*s.size
 |0,a,l,a',l',h,_,_,_=>by cases h
 |f+1,a,l,a',l',h,hl,hm,ha=>by
  rw[rowGo] at h
  split at h
  ·split at h
   ·cases h
   rename_i a2 l2 hs
   have h1:=stepR_lt hs
   have h2:=rowGo_le hC h (stepR_le hC hs hl) h1.2.2.2 h1.2.1
   exact ⟨h2.1,h2.2.1,by omega,h2.2.2.2⟩
  injection h with h;injection h with h1 h2
  subst h1 h2
  exact ⟨hl,by omega,Nat.le_refl _,ha⟩
theorem rowS_le{s:ByteArray}{C:List Nat}(hC:C.length=19){many a a' :Nat}{l' :List Nat}(h:rowS s C many a []=some (a',l'))(ha:a≤8*s.size):(∀x∈l',x≤15)∧l'.length=many∧a≤a' ∧a' ≤8*s.size:=
 rowGo_le hC h (fun _ h=>by cases h) (Nat.zero_le _) ha
theorem Ints.take{w:World}{gl off:Nat}{l:List Nat}(h:Ints w gl off l)(k:Nat):Ints w gl off (l.take k):=by
 obtain ⟨cur,hg,hc⟩:=h
 refine ⟨cur,hg,fun j hj=> ?_⟩
 rw[List.length_take] at hj
 rw[hc j (by omega),List.getD_eq_getElem?_getD,List.getD_eq_getElem?_getD,List.getElem?_take,if_pos (by omega)]
theorem Ints.drop{w:World}{gl off:Nat}{l:List Nat}(h:Ints w gl off l)(k:Nat):Ints w gl (off+k) (l.drop k):=by
 obtain ⟨cur,hg,hc⟩:=h
 refine ⟨cur,hg,fun j hj=> ?_⟩
 rw[List.length_drop] at hj
 rw[Nat.add_assoc,hc (k+j) (by omega),List.getD_eq_getElem?_getD,List.getD_eq_getElem?_getD,List.getElem?_drop]
theorem Ints.set{w:World}{gl:Nat}{l:List Nat}(h:Ints w gl 0 l){i:Nat}(hi:i<l.length)(v:Nat):Ints (w.setCell ⟨gl,i,none⟩ (.int .i64 v)) gl 0 (l.set i v):=by
 obtain ⟨cur,hg,hc⟩:=h
 have hic:i<cur.size:=by
  have:=hc i hi
  rw[Nat.zero_add] at this
  exact (Array.getElem?_eq_some_iff.1 this).1
 refine ⟨_,heap_setCell_same w gl i cur 3 _ hg,fun j hj=> ?_⟩
 rw[List.length_set] at hj
 rw[Nat.zero_add,Array.getElem?_setIfInBounds,List.getD_eq_getElem?_getD,List.getElem?_set]
 by_cases e:i=j
 ·subst e;rw[if_pos rfl,if_pos rfl,if_pos hic,if_pos hi];rfl
 rw[if_neg e,if_neg e,←List.getD_eq_getElem?_getD]
 have:=hc j hj
 rw[Nat.zero_add] at this
 exact this
def toldR(s:ByteArray)(a:Nat)(l:List UInt8):Res:=match toldS s a with|none=> .inr 2|some (a2,L,D)=>symS s L D a2 l
def HeadR(s:ByteArray)(a v1 v2 v3 a3 e3:Nat):Prop:=v1<32∧v2<32∧v3<16∧a3≤8*s.size∧((e3=0∧a3=a+14∧v1=numAt s a 5∧v2=numAt s (a+5) 5∧v3=numAt s (a+10) 4)∨(e3=2∧toldS s a=none))
theorem order_lt(i:Nat):orderL.getD i 0<19:=by
 by_cases h:i<19
 ·have: ∀i:Fin 19,orderL.getD i.val 0<19:=by decide
  exact this ⟨i,h⟩
 rw[List.getD_eq_getElem?_getD,List.getElem?_eq_none (by simp[orderL];omega)];simp
theorem Ints.thaw{w:World}{gl off:Nat}{L:List Nat}(h:Ints w gl off L)(i:Nat):w.frozen? ⟨gl,i,none⟩=false:=by
 obtain ⟨cur,hg,_⟩:=h;exact frozen_of_row w gl i cur 3 hg
theorem Ints.new(w:World){cur:Array Value}{L:List Nat}{g:Nat}(hg:g=w.heap.size)(h: ∀j,j<L.length→cur[j]? =some (.int .i64 (L.getD j 0:Nat))):Ints (w.alloc (.cells cur 3)) g 0 L:=by
 subst hg;exact ⟨cur,Go.heap_alloc_new w _,fun j hj=>by rw[Nat.zero_add];exact h j hj⟩
theorem Ints.alloc{w:World}{gl off:Nat}{L:List Nat}(h:Ints w gl off L)(o:Obj):Ints (w.alloc o) gl off L:=h.kept ((Only.refl (fun _=>False) w).alloc o) (fun x=>x)
def OwnR(s:ByteArray)(a i e3:Nat)(C:List Nat)(a' e' :Nat):Prop:=C.length=19∧(∀j,C.getD j 0≤15)∧a' ≤8*s.size∧((e' =0∧e3=0∧a' =a+14+3*i∧C=ownL s (a+14) i)∨(e' =2∧toldS s a=none))
theorem OwnR.next{s:ByteArray}{a v1 v2 v3 a3 e3 i:Nat}{C:List Nat}{a' e' v a'' e'' :Nat}(hh:HeadR s a v1 v2 v3 a3 e3)(h:OwnR s a i e3 C a' e')(hi:i<4+v3)(hn:NumR s a' e' 3 v a'' e''):OwnR s a (i+1) e3 (C.set (orderL.getD i 0) v) a'' e'' :=by
 obtain ⟨h1,h2,h3,h4⟩:=h
 have hv:v<8:=hn.1
 refine ⟨by rw[List.length_set,h1],fun j=> ?_,hn.2.1, ?_⟩
 ·rw[List.getD_eq_getElem?_getD,List.getElem?_set]
  split
  ·split
   ·show v≤15;omega
   simp
  rw[←List.getD_eq_getElem?_getD];exact h2 j
 rcases h4 with ⟨rfl,q2,q3,q4⟩|⟨rfl,q2⟩
 ·by_cases he:e'' =0
  ·obtain ⟨k1,k2,k3⟩:=hn.ok he
   exact .inl ⟨he,q2,by omega,by rw[ownL,←q4,←q3,←k2]⟩
  obtain ⟨k1,k2⟩:=hn.bad he
  obtain ⟨_,_,_,_,⟨_,_,_,_,r5⟩|⟨r1,_⟩⟩:=hh
  ·exact .inr ⟨k2,told_cut (by rw[←r5];omega)⟩
  omega
 exact .inr ⟨hn.stay (by omega),q2⟩
theorem symGo_ok{s:ByteArray}{L D:List Nat}: ∀{f a:Nat} {o:List UInt8} {a' :Nat} {o' :List UInt8},symGo s L D f a o=.inl (a',o')→a<a' ∧a' ≤8*s.size
 |0,a,o,a',o',h=>by cases h
 |f+1,a,o,a',o',h=>by
  rw[symGo] at h
  split at h
  ·rename_i r hs
   subst h
   unfold stepS at hs
   split at hs
   ·cases hs
   rename_i y a1 hd
   have:=dec_lt hd
   split at hs
   ·injection hs with hs;injection hs with hs;injection hs with h1 h2;omega
   split at hs
   ·split at hs
    ·cases hs
    cases hs
   split at hs
   ·cases hs
   unfold copyS at hs
   split at hs
   ·cases hs
   split at hs
   ·cases hs
   split at hs
   ·cases hs
   split at hs
   ·cases hs
   split at hs
   ·cases hs
   split at hs
   ·cases hs
   cases hs
  rename_i a2 o2 hs
  have h1:=stepS_lt hs
  have h2:=symGo_ok h
  omega
theorem symS_ok{s:ByteArray}{L D:List Nat}{a:Nat}{o:List UInt8}{a' :Nat}{o' :List UInt8}(h:symS s L D a o=.inl (a',o')):a<a' ∧a' ≤8*s.size:=symGo_ok h
theorem toldS_le{s:ByteArray}{a a' :Nat}{L D:List Nat}(h:toldS s a=some (a',L,D)):a≤a' :=by
 unfold toldS at h
 split at h
 ·cases h
 split at h
 ·cases h
 split at h
 ·cases h
 split at h
 ·cases h
 split at h
 ·cases h
 rename_i a2 l2 hr
 split at h
 ·injection h with h;injection h with h1 h2
  have:=rowS_le (ownL_len _ _ _) hr (by omega)
  omega
 cases h
theorem kindS_eq(s:ByteArray)(a:Nat)(o:List UInt8):kindS s a o=if numAt s (a+1) 2=0 then rawS s (a+3) o else if numAt s (a+1) 2=1 then symS s fixL fixD (a+3) o else if numAt s (a+1) 2=2 then toldR s (a+3) o else .inr 2:=by
 unfold kindS toldR
 have:=numAt_lt s (a+1) 2
 generalize numAt s (a+1) 2=k at this
 match k,this with
 |0,_=>rfl
 |1,_=>rfl
 |2,_=>rfl
 |3,_=>rfl
theorem blockS_ok{s:ByteArray}{a:Nat}{o:List UInt8}{a' :Nat}{o' :List UInt8}(h:blockS s a o=.inl (a',o')):a<a' ∧a' ≤8*s.size:=by
 unfold blockS at h
 split at h
 ·cases h
 rw[kindS_eq] at h
 split at h
 ·unfold rawS at h
  have hu:=upTo_ge (a+3)
  split at h
  ·cases h
  split at h
  ·cases h
  split at h
  ·cases h
  split at h
  ·cases h
  injection h with h;injection h with h1 h2;omega
 split at h
 ·have:=symS_ok h;omega
 split at h
 ·unfold toldR at h
  split at h
  ·cases h
  rename_i a2 L D ht
  have h1:=toldS_le ht
  have h2:=symS_ok h
  omega
 cases h
def inflGo(s:ByteArray):Nat→Nat→List UInt8→Res
 |0,_,_=> .inr 2
 |f+1,a,o=>match blockS s a o with
  | .inr e=> .inr e
  | .inl (a',o')=>if bitAt s a=1 then .inl (a',o') else inflGo s f a' o'
theorem inflGo_enough{s:ByteArray}: ∀{f f' a:Nat} {o:List UInt8},8*s.size<a+f→8*s.size<a+f' →a≤8*s.size→inflGo s f a o=inflGo s f' a o
 |0,_,a,o,h,_,ha=>by omega
 |_+1,0,a,o,_,h,ha=>by omega
 |f+1,f' +1,a,o,h1,h2,ha=>by
  rw[inflGo,inflGo]
  split
  ·rfl
  rename_i a' o' hs
  have:=blockS_ok hs
  split
  ·rfl
  exact inflGo_enough (by omega) (by omega) (by omega)
def inflS(s:ByteArray)(a:Nat)(o:List UInt8):Res:=inflGo s (8*s.size+1) a o
theorem inflS_bad{s:ByteArray}{a:Nat}{o:List UInt8}{e:Nat}(h:blockS s a o=.inr e):inflS s a o=.inr e:=by rw[inflS,inflGo,h]
theorem inflS_last{s:ByteArray}{a:Nat}{o:List UInt8}{a' :Nat}{o' :List UInt8}(h:blockS s a o=.inl (a',o'))(hb:bitAt s a=1):inflS s a o=.inl (a',o'):=by
 rw[inflS,inflGo,h];exact if_pos hb
theorem inflS_more{s:ByteArray}{a:Nat}{o:List UInt8}{a' :Nat}{o' :List UInt8}(h:blockS s a o=.inl (a',o'))(hb:bitAt s a≠1):inflS s a o=inflS s a' o' :=by
 have h1:=blockS_ok h
 rw[inflS,inflGo,h]
 show (if bitAt s a=1 then _ else _)=_
 rw[if_neg hb]
 exact inflGo_enough (by omega) (by omega) (by omega)
def outOf:Res→ByteArray×Nat×Nat
 | .inl (a,o)=>(⟨o.toArray⟩,(a+7)/8,0)
 | .inr e=>(⟨#[]⟩,0,e)
def inflate(s:ByteArray):ByteArray×Nat×Nat:=outOf (inflS s 0 [])
def InfR(s:ByteArray)(la a:Nat)(l:List UInt8)(e:Nat):Prop:=a≤8*s.size∧l.length≤20000∧la<2∧((e=0∧la=0∧inflS s 0 []=inflS s a l)∨(e=0∧la=1∧inflS s 0 []=.inl (a,l))∨(e≠0∧inflS s 0 []=.inr e))
theorem InfR.next{s:ByteArray}{a:Nat}{l:List UInt8}{a' :Nat}{l' :List UInt8}{e' :Nat}(h:inflS s 0 []=inflS s a l)(ha:¬8*s.size<a+3)(hr:SymR s (kindS s a l) a' l' e'):InfR s (bitAt s a) a' l' e' :=by
 have hb:=bitAt_lt s a
 refine ⟨hr.1,hr.2.1,hb, ?_⟩
 have hbl:blockS s a l=kindS s a l:=if_neg ha
 rcases hr.2.2 with ⟨h1,h2⟩|⟨h1,h2⟩
 ·by_cases h3:bitAt s a=1
  ·exact .inr (.inl ⟨h2,h3,by rw[h];exact inflS_last (hbl.trans h1) h3⟩)
  exact .inl ⟨h2,by omega,by rw[h];exact inflS_more (hbl.trans h1) h3⟩
 exact .inr (.inr ⟨h2,by rw[h];exact inflS_bad (hbl.trans h1)⟩)
theorem nil_string(w:World):(convert 64 9 (.slice none 0 0)).run Tryz.prog w=.ok (.string ⟨#[]⟩) w:=by
 rw[run_convert_bytes_string w 64 9 5 none 0 0 Tryz.underlying64 Tryz.underlying5 Tryz.underlying9]
 rfl
theorem out_string{w:World}{ao:Option Addr}{l:List UInt8}{cp:Nat}(h:w.ownsRow 0 5 1 (.slice ao l.length cp) l.length (byteCells8 l)):(convert 64 9 (.slice ao l.length cp)).run Tryz.prog w=.ok (.string ⟨l.toArray⟩) w:=by
 have h' :=h
 obtain ⟨_,h|⟨b,cap,cur,hv,_⟩⟩:=h
 ·have hl:l=[]:=List.eq_nil_of_length_eq_zero h.2
  rw[h.1,hl]
  exact nil_string w
 injection hv with h1 h2 h3
 subst h1 h3
 exact run_bytes_string (P:=Tryz.prog) w 64 9 5 ⟨b,0,none⟩ _ l Tryz.underlying64 Tryz.underlying5 Tryz.underlying9 (h'.cells rfl)
end Go.Proofs.YtfbgamknfommpaaGreatDoor
