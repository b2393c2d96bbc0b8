import Derived.Test.YtfbgamknfommpaaGreatDoorKe
import Derived.Sort.Walk0
namespace Go.Proofs.YtfbgamknfommpaaGreatDoor.dk
open Go.RowKit
abbrev bl(s:ByteArray):List UInt8:=s.data.toList
theorem bl_inj{a b:ByteArray}(h:bl a=bl b):a=b:=ByteArray.ext (Array.toList_inj.1 h)
theorem bl_len(a:ByteArray):(bl a).length=a.size:=Array.length_toList
theorem bl_app(a b:ByteArray):bl (a++b)=bl a++bl b:=by simp
theorem bl_get(a:ByteArray)(i:Nat)(h:i<a.size):(bl a)[i]? =some a[i]:=by
 rw[List.getElem?_eq_getElem (by rw[bl_len];exact h)]
 simp[ByteArray.getElem_eq_getElem_data]
theorem bl_ext0(a:ByteArray)(k:Nat):bl (a.extract 0 k)=(bl a).take k:=by
 show (a.extract 0 k).data.toList=_
 rw[ByteArray.data_extract,Array.toList_extract,List.extract_eq_take_drop]
 simp
theorem bl_ext(a:ByteArray)(k:Nat):bl (a.extract k a.size)=(bl a).drop k:=by
 show (a.extract k a.size).data.toList=_
 rw[ByteArray.data_extract,Array.toList_extract,List.extract_eq_take_drop]
 exact List.take_of_length_le (by rw[List.length_drop,bl_len];exact Nat.le_refl _)
theorem toNat47{x:UInt8}:x.toNat=47↔x=47:=by
 constructor
 ·intro h;exact UInt8.toNat_inj.1 (by rw[h];rfl)
 intro h;rw[h];rfl
def UpIs(s u:List UInt8):Prop:=(u=[]∧s≠[]∧47∉s)∨ ∃r,s=u++47::r∧r≠[]∧47∉r∧u≠[]
theorem par_spec(s:ByteArray): ∀(n i fr:Nat) (up u:ByteArray),n+i=s.size+1→i≤s.size→fr≤i→(∀x∈((bl s).take i).drop fr,x≠47)→
 ((fr=0∧bl up=[])∨(1<fr∧bl up=(bl s).take (fr- 1)∧(bl s)[fr- 1]? =some 47))→par s n i fr up=some u→UpIs (bl s) (bl u):=by
 intro n
 induction n with
 |zero=>
  intro i fr up u hn hi0 hf hx hu h
  omega
 |succ n ih=>
  intro i fr up u hn hi0 hf hx hu h
  by_cases hi:i<s.size
  ·have hil:i<(bl s).length:=by rw[bl_len];exact hi
   have hg:(bl s)[i]? =some s[i]:=bl_get s i hi
   by_cases hsl:s[i].toNat=47
   ·by_cases he:i=fr
    ·rw[par_sl_no hi hsl he] at h;cases h
    rw[par_sl hi hsl he] at h
    refine ih (i+1) (i+1) _ u (by omega) (by omega) (Nat.le_refl _) (fun x hx' => ?_) (.inr ⟨by omega, ?_, ?_⟩) h
    ·rw[List.drop_eq_nil_of_le (by rw[List.length_take];omega)] at hx';cases hx'
    ·rw[bl_ext0];rfl
    show (bl s)[i]? =some 47
    rw[hg,toNat47.1 hsl]
   rw[par_no hi hsl] at h
   refine ih (i+1) fr up u (by omega) (by omega) (by omega) (fun x hx' => ?_) hu h
   rw[List.take_add_one,hg,List.drop_append_of_le_length (by rw[List.length_take];omega),List.mem_append] at hx'
   rcases hx' with hx' |hx'
   ·exact hx x hx'
   simp only[Option.toList_some,List.mem_singleton] at hx'
   subst hx'
   exact fun e=>hsl (toNat47.2 e)
  by_cases he:i=fr
  ·rw[par_end_no hi he] at h;cases h
  rw[par_end hi he] at h
  injection h with h
  subst h
  have his:i=s.size:=by omega
  have hfl:fr<(bl s).length:=by rw[bl_len];omega
  rw[List.take_of_length_le (by rw[bl_len];omega)] at hx
  rcases hu with ⟨h0,hup⟩|⟨h1,hup,h2⟩
  ·subst h0
   rw[List.drop_zero] at hx
   exact .inl ⟨hup,(fun e=>by rw[e] at hfl;simp at hfl),fun hm=>hx 47 hm rfl⟩
  refine .inr ⟨(bl s).drop fr, ?_, ?_,fun hm=>hx 47 hm rfl, ?_⟩
  ·rw[hup]
   have e1:(bl s).take (fr- 1)++(bl s).drop (fr- 1)=bl s:=List.take_append_drop _ _
   have e2:(bl s).drop (fr- 1)=47::(bl s).drop fr:=by
    have hl:fr- 1<(bl s).length:=by omega
    rw[List.drop_eq_getElem_cons hl]
    rw[List.getElem?_eq_getElem hl] at h2
    injection h2 with h2
    rw[h2,show fr- 1+1=fr by omega]
   rw[←e2,e1]
  ·intro e
   have:=congrArg List.length e
   rw[List.length_drop,List.length_nil] at this
   omega
  intro e
  rw[hup] at e
  have:=congrArg List.length e
  rw[List.length_take,List.length_nil] at this
  omega
theorem up_spec{s u:ByteArray}(h:parentOf s=some u):UpIs (bl s) (bl u):=
 par_spec s (s.size+1) 0 0 ⟨#[]⟩ u (by omega) (by omega) (Nat.le_refl _) (fun x hx=>by simp at hx) (.inl ⟨rfl,rfl⟩) h
def Wi(p u:List UInt8):Prop:=p=u∨ ∃r,p=u++47::r
theorem Wi.refl(p:List UInt8):Wi p p:=.inl rfl
theorem Wi.trans{a b c:List UInt8}(h:Wi a b)(k:Wi b c):Wi a c:=by
 rcases h with rfl|⟨r,rfl⟩
 ·exact k
 rcases k with rfl|⟨q,rfl⟩
 ·exact .inr ⟨r,rfl⟩
 exact .inr ⟨q++47::r,by simp⟩
theorem Wi.up{t u p:List UInt8}(hu:UpIs t u)(h:Wi t p)(hne:t≠p):Wi u p:=by
 rcases h with h|⟨r,h⟩
 ·exact absurd h hne
 rcases hu with ⟨_,_,h47⟩|⟨r',h',_,h47,_⟩
 ·exact absurd (by rw[h];simp) h47
 rw[h] at h'
 rcases List.append_eq_append_iff.1 h' with ⟨c,hc,hc2⟩|⟨c,hc,hc2⟩
 ·cases c with
  |nil=>rw[List.append_nil] at hc;exact .inl hc
  |cons x c=>
   injection hc2 with h1 h2
   subst h1
   exact .inr ⟨c,hc⟩
 cases c with
 |nil=>rw[List.append_nil] at hc;exact .inl hc.symm
 |cons x c=>
  injection hc2 with h1 h2
  exact absurd (by rw[h2];simp) h47
theorem Wi.len{a b:List UInt8}(h:Wi a b):b.length≤a.length:=by
 rcases h with rfl|⟨r,rfl⟩<;>simp
theorem up_short{s u:List UInt8}(h:UpIs s u):u.length<s.length:=by
 rcases h with ⟨rfl,h,_⟩|⟨r,rfl,_⟩
 ·exact List.length_pos_iff.2 h
 simp
theorem up_wi{s u:List UInt8}(h:UpIs s u)(hu:u≠[]):Wi s u:=by
 rcases h with ⟨rfl,_⟩|⟨r,rfl,_⟩
 ·exact absurd rfl hu
 exact .inr ⟨r,rfl⟩
theorem within_spec(p u:ByteArray):withinB p u=true↔Wi (bl p) (bl u):=by
 unfold withinB
 rw[ByteArray.toList_eq,ByteArray.toList_eq,Bool.or_eq_true,beq_iff_eq]
 by_cases h:u.size<p.size
 ·rw[dif_pos h,Bool.and_eq_true,ByteArray.toList_eq,beq_iff_eq,beq_iff_eq]
  have hg:=bl_get p u.size h
  have hl:u.size<(bl p).length:=by rw[bl_len];exact h
  show bl p=bl u∨(bl (p.extract 0 u.size)=bl u∧_)↔_
  rw[bl_ext0]
  constructor
  ·rintro (e|⟨e1,e2⟩)
   ·exact .inl e
   refine .inr ⟨(bl p).drop (u.size+1), ?_⟩
   have e3:p[u.size]=47:=toNat47.1 (by omega)
   rw[List.getElem?_eq_getElem hl] at hg
   injection hg with hg
   rw[←e1,←e3,←hg,←List.drop_eq_getElem_cons hl,List.take_append_drop]
  rintro (e|⟨r,e⟩)
  ·exact .inl e
  refine .inr ⟨by rw[e,←bl_len u];exact List.take_left, ?_⟩
  rw[e,List.getElem?_append_right (by rw[bl_len];exact Nat.le_refl _)] at hg
  have e3:u.size- (bl u).length=0:=by rw[bl_len];omega
  rw[e3] at hg
  injection hg with hg
  rw[←hg];rfl
 rw[dif_neg h]
 constructor
 ·rintro (e|e)
  ·exact .inl e
  cases e
 rintro (e|⟨r,e⟩)
 ·exact .inl e
 exfalso
 have:=congrArg List.length e
 rw[bl_len,List.length_append,bl_len,List.length_cons] at this
 omega
end Go.Proofs.YtfbgamknfommpaaGreatDoor.dk
namespace Go.Proofs.YtfbgamknfommpaaGreatDoor.dk
open Go.RowKit
theorem lessB(a b:ByteArray):Op.bytesLess a.toList b.toList=decide (bl a<bl b):=by rw[ByteArray.toList_eq,ByteArray.toList_eq,bytesLess_eq]
def Srt(ts:List Th):Prop:=ts.Pairwise (fun a b=>bl a.p<bl b.p)
theorem Srt.nth_lt{ts:List Th}(h:Srt ts){i j:Nat}(hij:i<j)(hj:j<ts.length):bl (nth ts i).p<bl (nth ts j).p:=by
 have h1:=List.pairwise_iff_getElem.1 h i j (by omega) hj hij
 simpa [nth,List.getD_eq_getElem?_getD,List.getElem?_eq_getElem hj,List.getElem?_eq_getElem (show i<ts.length by omega)] using h1
theorem bs_spec{ts:List Th}(hs:Srt ts)(q:ByteArray): ∀(n lo hi:Nat),lo≤hi→hi≤ts.length→hi- lo≤n→(∀i,i<lo→bl (nth ts i).p<bl q)→(∀i,hi≤i→i<ts.length→¬bl (nth ts i).p<bl q)→
 (∀i,i<bs ts q n lo hi→bl (nth ts i).p<bl q)∧(∀i,bs ts q n lo hi≤i→i<ts.length→¬bl (nth ts i).p<bl q):=by
 intro n
 induction n with
 |zero=>
  intro lo hi h1 h2 h3 h4 h5
  have:lo=hi:=by omega
  subst this
  exact ⟨h4,h5⟩
 |succ n ih=>
  intro lo hi h1 h2 h3 h4 h5
  by_cases hlt:lo<hi
  ·have hk:(lo+hi)/2<hi:=by omega
   by_cases hl:bl (nth ts ((lo+hi)/2)).p<bl q
   ·rw[bs_hit hlt (by rw[lessB];exact decide_eq_true hl)]
    refine ih _ _ (by omega) h2 (by omega) (fun i hi' => ?_) h5
    by_cases e:i=(lo+hi)/2
    ·rw[e];exact hl
    exact List.lt_trans (hs.nth_lt (show i<(lo+hi)/2 by omega) (by omega)) hl
   rw[bs_miss hlt (by rw[lessB];exact decide_eq_false hl)]
   refine ih _ _ (by omega) (by omega) (by omega) h4 (fun i hi' hi2 hc=> ?_)
   by_cases e:i=(lo+hi)/2
   ·rw[e] at hc;exact hl hc
   exact hl (List.lt_trans (hs.nth_lt (show (lo+hi)/2<i by omega) hi2) hc)
  rw[bs_end _ _ _ _ _ (by omega)]
  have:lo=hi:=by omega
  subst this
  exact ⟨h4,h5⟩
theorem low_spec{ts:List Th}(hs:Srt ts)(q:ByteArray):(∀i,i<low ts q→bl (nth ts i).p<bl q)∧(∀i,low ts q≤i→i<ts.length→¬bl (nth ts i).p<bl q):=
 bs_spec hs q ts.length 0 ts.length (Nat.zero_le _) (Nat.le_refl _) (by omega) (fun i hi=>by omega) (fun i hi hi2=>by omega)
theorem nth_mem{ts:List Th}{i:Nat}(h:i<ts.length):nth ts i∈ts:=by
 rw[nth,List.getD_eq_getElem?_getD,List.getElem?_eq_getElem h];exact List.getElem_mem h
theorem mem_nth{ts:List Th}{t:Th}(h:t∈ts): ∃i,i<ts.length∧nth ts i=t:=by
 obtain ⟨i,hi,e⟩:=List.getElem_of_mem h
 exact ⟨i,hi,by rw[nth,List.getD_eq_getElem?_getD,List.getElem?_eq_getElem hi];exact e⟩
theorem Srt.one{ts:List Th}(hs:Srt ts){a b:Th}(ha:a∈ts)(hb:b∈ts)(h:a.p=b.p):a=b:=by
 obtain ⟨i,hi,rfl⟩:=mem_nth ha
 obtain ⟨j,hj,rfl⟩:=mem_nth hb
 rcases Nat.lt_trichotomy i j with hij|hij|hij
 ·have:=hs.nth_lt hij hj;rw[h] at this;exact absurd this (List.lt_irrefl _)
 ·rw[hij]
 have:=hs.nth_lt hij hi;rw[h] at this;exact absurd this (List.lt_irrefl _)
theorem isAt_mem{ts:List Th}(hs:Srt ts){t:Th}(ht:t∈ts):isAt ts t.p=true∧low ts t.p<ts.length∧nth ts (low ts t.p)=t:=by
 obtain ⟨i,hi,rfl⟩:=mem_nth ht
 obtain ⟨h1,h2⟩:=low_spec hs (nth ts i).p
 have e:low ts (nth ts i).p=i:=by
  rcases Nat.lt_trichotomy (low ts (nth ts i).p) i with h|h|h
  ·exact absurd (hs.nth_lt h hi) (h2 _ (Nat.le_refl _) (by omega))
  ·exact h
  exact absurd (h1 i h) (List.lt_irrefl _)
 rw[isAt,e]
 exact ⟨by rw[decide_eq_true hi];simp,hi,rfl⟩
theorem isAt_no{ts:List Th}{q:ByteArray}(h: ∀t∈ts,t.p≠q):isAt ts q=false:=by
 rw[isAt,Bool.and_eq_false_iff]
 by_cases hl:low ts q<ts.length
 ·right
  rw[beq_eq_false_iff_ne]
  intro e
  rw[ByteArray.toList_eq,ByteArray.toList_eq] at e
  exact h _ (nth_mem hl) (bl_inj e)
 left;exact decide_eq_false hl
theorem isOf_mem{ts:List Th}(hs:Srt ts){t:Th}(ht:t∈ts):isOf ts t.p=if t.f then 2 else 1:=by
 obtain ⟨h1,_,h3⟩:=isAt_mem hs ht
 rw[isOf,h1,if_pos rfl,h3]
theorem isOf_no{ts:List Th}{q:ByteArray}(h: ∀t∈ts,t.p≠q):isOf ts q=0:=by
 rw[isOf,isAt_no h];rfl
theorem isOf_ne{ts:List Th}{q:ByteArray}(h:isOf ts q≠0): ∃t∈ts,t.p=q:=by
 refine Classical.byContradiction fun hc=>h (isOf_no fun t ht e=>hc ⟨t,ht,e⟩)
theorem isOf_zero{ts:List Th}(hs:Srt ts){q:ByteArray}(h:isOf ts q=0): ∀t∈ts,t.p≠q:=by
 intro t ht e
 subst e
 rw[isOf_mem hs ht] at h
 split at h<;>cases h
theorem isOf_two{ts:List Th}(hs:Srt ts){q:ByteArray}:isOf ts q=2↔ ∃t∈ts,t.p=q∧t.f=true:=by
 constructor
 ·intro h
  obtain ⟨t,ht,rfl⟩:=isOf_ne (ts:=ts) (q:=q) (by rw[h];decide)
  rw[isOf_mem hs ht] at h
  cases hf:t.f with
  |true=>exact ⟨t,ht,rfl,hf⟩
  |false=>rw[hf] at h;cases h
 rintro ⟨t,ht,rfl,hf⟩
 rw[isOf_mem hs ht,hf];rfl
theorem ins_perm(ts:List Th)(t:Th):(ins ts t).Perm (t::ts):=by
 have h:=List.perm_middle (a:=t) (l₁:=ts.take (low ts t.p)) (l₂:=ts.drop (low ts t.p))
 rw[List.take_append_drop] at h
 exact h
theorem Srt.ins{ts:List Th}(hs:Srt ts){t:Th}(h: ∀x∈ts,x.p≠t.p):Srt (ins ts t):=by
 obtain ⟨h1,h2⟩:=low_spec hs t.p
 have hl:=low_le ts t.p
 refine List.pairwise_append.2 ⟨hs.sublist (List.take_sublist _ _),List.pairwise_cons.2 ⟨fun x hx=> ?_,hs.sublist (List.drop_sublist _ _)⟩,fun a ha b hb=> ?_⟩
 ·obtain ⟨i,hi,rfl⟩:=List.getElem_of_mem hx
  have hi2:low ts t.p+i<ts.length:=by rw[List.length_drop] at hi;omega
  have e:(ts.drop (low ts t.p))[i]=nth ts (low ts t.p+i):=by rw[List.getElem_drop,nth,List.getD_eq_getElem?_getD,List.getElem?_eq_getElem hi2];rfl
  rw[e]
  have h3:=h2 _ (Nat.le_add_right _ i) hi2
  have h4:=h _ (nth_mem hi2)
  exact Classical.byContradiction fun h5=>h4 (bl_inj (List.le_antisymm (List.not_lt.1 h5) (List.not_lt.1 h3)))
 have ha2:bl a.p<bl t.p:=by
  obtain ⟨i,hi,rfl⟩:=List.getElem_of_mem ha
  have hi2:i<low ts t.p:=by rw[List.length_take] at hi;omega
  have e:(ts.take (low ts t.p))[i]=nth ts i:=by rw[List.getElem_take,nth,List.getD_eq_getElem?_getD,List.getElem?_eq_getElem (show i<ts.length by omega)];rfl
  rw[e];exact h1 i hi2
 rcases List.mem_cons.1 hb with rfl|hb
 ·exact ha2
 obtain ⟨i,hi,rfl⟩:=List.getElem_of_mem hb
 have hi2:low ts t.p+i<ts.length:=by rw[List.length_drop] at hi;omega
 have e:(ts.drop (low ts t.p))[i]=nth ts (low ts t.p+i):=by rw[List.getElem_drop,nth,List.getD_eq_getElem?_getD,List.getElem?_eq_getElem hi2];rfl
 rw[e]
 obtain ⟨j,hj,rfl⟩:=List.getElem_of_mem ha
 have hj2:j<low ts t.p:=by rw[List.length_take] at hj;omega
 have e2:(ts.take (low ts t.p))[j]=nth ts j:=by rw[List.getElem_take,nth,List.getD_eq_getElem?_getD,List.getElem?_eq_getElem (show j<ts.length by omega)];rfl
 rw[e2]
 exact hs.nth_lt (by omega) hi2
structure Wf (ts:List Th):Prop where
 srt:Srt ts
 up: ∀t∈ts,∃u,parentOf t.p=some u∧(bl u=[]∨ ∃x∈ts,x.p=u∧x.f=true)
theorem Wf.there{ts:List Th}(h:Wf ts){p:ByteArray}(hp:bl p≠[]): ∀(n:Nat) (t:Th),t∈ts→(bl t.p).length≤n→Wi (bl t.p) (bl p)→ ∃x∈ts,x.p=p∧(t.p≠p→x.f=true):=by
 intro n
 induction n with
 |zero=>
  intro t _ hl hw
  exfalso
  have h1:=hw.len
  have:=List.length_pos_iff.2 hp
  omega
 |succ n ih=>
  intro t ht hl hw
  by_cases e:t.p=p
  ·exact ⟨t,ht,e,fun x=>absurd e x⟩
  obtain ⟨u,hu,h2⟩:=h.up t ht
  have hus:=up_spec hu
  have hwu:=Wi.up hus hw (fun x=>e (bl_inj x))
  have hsh:=up_short hus
  rcases h2 with h2|⟨x,hx,rfl,hxf⟩
  ·exfalso
   rw[h2] at hwu
   have h1:=hwu.len
   exact hp (List.length_eq_zero_iff.1 (Nat.le_zero.1 h1))
  obtain ⟨y,hy,hyp,hyf⟩:=ih x hx (by omega) hwu
  refine ⟨y,hy,hyp,fun _=> ?_⟩
  by_cases e2:x.p=p
  ·have:=h.srt.one hx hy (e2.trans hyp.symm)
   rw[←this];exact hxf
  exact hyf e2
theorem Wf.gone{ts:List Th}(h:Wf ts){p:ByteArray}(hp:bl p≠[])(h0: ∀t∈ts,t.p≠p): ∀t∈ts,¬Wi (bl t.p) (bl p):=by
 intro t ht hw
 obtain ⟨x,hx,e,_⟩:=h.there hp _ t ht (Nat.le_refl _) hw
 exact h0 x hx e
end Go.Proofs.YtfbgamknfommpaaGreatDoor.dk
namespace Go.Proofs.YtfbgamknfommpaaGreatDoor.dk
open Go.RowKit
theorem Wf.child{ts:List Th}(h:Wf ts){p:ByteArray}(hp:bl p≠[]): ∀(n:Nat) (t:Th),t∈ts→(bl t.p).length≤n→Wi (bl t.p) (bl p)→t.p≠p→ ∃c∈ts,parentOf c.p=some p∧Wi (bl t.p) (bl c.p):=by
 intro n
 induction n with
 |zero=>
  intro t _ hl hw _
  exfalso
  have h1:=hw.len
  have:=List.length_pos_iff.2 hp
  omega
 |succ n ih=>
  intro t ht hl hw hne
  obtain ⟨u,hu,h2⟩:=h.up t ht
  have hus:=up_spec hu
  have hwu:=Wi.up hus hw (fun x=>hne (bl_inj x))
  have hsh:=up_short hus
  by_cases e:u=p
  ·subst e
   exact ⟨t,ht,hu,Wi.refl _⟩
  rcases h2 with h2|⟨x,hx,rfl,_⟩
  ·exfalso
   rw[h2] at hwu
   exact hp (List.length_eq_zero_iff.1 (Nat.le_zero.1 hwu.len))
  obtain ⟨c,hc,h3,h4⟩:=ih x hx (by omega) hwu e
  refine ⟨c,hc,h3,Wi.trans (up_wi hus ?_) h4⟩
  intro e2
  have:=hwu.len
  rw[e2] at this
  exact hp (List.length_eq_zero_iff.1 (Nat.le_zero.1 this))
def slash:ByteArray:=⟨#[47]⟩
def inP(p nm:ByteArray):ByteArray:=p++slash++nm
theorem bl_inP(p nm:ByteArray):bl (inP p nm)=bl p++47::bl nm:=by
 rw[inP,bl_app,bl_app];show bl p++[47]++bl nm=_;simp
theorem inP_size(p nm:ByteArray):(inP p nm).size=p.size+1+nm.size:=by
 rw[inP,ByteArray.size_append,ByteArray.size_append];rfl
theorem nameIn_spec{c:Th}{p:ByteArray}(h:parentOf c.p=some p)(hp:bl p≠[]):inP p (nameIn p c)=c.p∧(nameIn p c).size≤c.p.size:=by
 have hn:(p.toList==[])=false:=by rw[ByteArray.toList_eq,beq_eq_false_iff_ne];exact hp
 have hu:=up_spec h
 rcases hu with ⟨e,_⟩|⟨r,e,_⟩
 ·exact absurd e hp
 unfold nameIn
 rw[hn]
 refine ⟨bl_inj ?_, ?_⟩
 ·show bl (inP p (c.p.extract (p.size+1) c.p.size))=bl c.p
  rw[bl_inP,bl_ext,e]
  have:p.size+1=(bl p).length+1:=by rw[bl_len]
  rw[this,List.drop_append]
  simp
 show (c.p.extract (p.size+1) c.p.size).size≤_
 rw[ByteArray.size_extract];omega
theorem standsIn_iff{c:Th}{p u:ByteArray}(h:parentOf c.p=some u):standsIn p c=true↔u=p:=by
 unfold standsIn
 rw[upOf_some h,beq_iff_eq,ByteArray.toList_eq,ByteArray.toList_eq]
 exact ⟨fun e=>bl_inj e,fun e=>by rw[e]⟩
theorem names_mem{ts:List Th}(h:Wf ts){p nm:ByteArray}(hp:bl p≠[])(hm:nm∈namesL ts p): ∃c∈ts,parentOf c.p=some p∧c.p=inP p nm∧nm=nameIn p c:=by
 unfold namesL at hm
 split at hm
 ·obtain ⟨c,hc,rfl⟩:=List.mem_map.1 hm
  obtain ⟨hc1,hc2⟩:=List.mem_filter.1 hc
  obtain ⟨u,hu,_⟩:=h.up c hc1
  have e:=(standsIn_iff hu).1 hc2
  subst e
  exact ⟨c,hc1,hu,(nameIn_spec hu hp).1.symm,rfl⟩
 cases hm
theorem names_have{ts:List Th}(h:Wf ts){p:ByteArray}(hp:bl p≠[]){c:Th}(hc:c∈ts)(hu:parentOf c.p=some p):nameIn p c∈namesL ts p:=by
 unfold namesL
 have hok:okN ts p=true:=by
  unfold okN
  rw[Bool.or_eq_true]
  right
  obtain ⟨u,hu2,h2⟩:=h.up c hc
  rw[hu] at hu2
  injection hu2 with hu2
  subst hu2
  rcases h2 with h2|⟨x,hx,rfl,hf⟩
  ·exact absurd h2 hp
  have:=(isOf_two h.srt (q:=x.p)).2 ⟨x,hx,rfl,hf⟩
  rw[this];rfl
 rw[if_pos hok]
 exact List.mem_map.2 ⟨c,List.mem_filter.2 ⟨hc,(standsIn_iff hu).2 rfl⟩,rfl⟩
theorem Wi.comp{x a b:List UInt8}(h:Wi x a)(k:Wi x b):Wi a b∨Wi b a:=by
 have pre: ∀y,Wi x y→x++[47]=y++[47]++(x++[47]).drop (y.length+1):=by
  rintro y (rfl|⟨r,rfl⟩)
  ·simp
  simp[List.drop_append]
 have ha:=pre a h
 have hb:=pre b k
 generalize (x++[47]).drop (a.length+1)=ra at ha
 generalize (x++[47]).drop (b.length+1)=rb at hb
 rw[ha] at hb
 rcases List.append_eq_append_iff.1 hb with ⟨c,hc,_⟩|⟨c,hc,_⟩
 ·
  right
  rcases List.eq_nil_or_concat c with rfl|⟨c',z,rfl⟩
  ·rw[List.append_nil] at hc
   exact .inl (List.append_cancel_right hc)
  refine .inr ⟨c', ?_⟩
  have e:b++[47]=(a++47::c')++[z]:=by rw[hc];simp
  exact (List.append_inj' e rfl).1
 left
 rcases List.eq_nil_or_concat c with rfl|⟨c',z,rfl⟩
 ·rw[List.append_nil] at hc
  exact .inl (List.append_cancel_right hc)
 refine .inr ⟨c', ?_⟩
 have e:a++[47]=(b++47::c')++[z]:=by rw[hc];simp
 exact (List.append_inj' e rfl).1
theorem apart{x:List UInt8}{p a b:ByteArray}(ha:parentOf a=some p)(hb:parentOf b=some p)(hx:Wi x (bl a))(hy:Wi x (bl b)):a=b:=by
 have key: ∀a b:ByteArray,parentOf a=some p→parentOf b=some p→Wi (bl a) (bl b)→a=b:=by
  intro a b ha hb h
  refine Classical.byContradiction fun e=> ?_
  have h1:=Wi.up (up_spec ha) h (fun x=>e (bl_inj x))
  have h2:=h1.len
  have h3:=up_short (up_spec hb)
  omega
 rcases Wi.comp hx hy with h|h
 ·exact key a b ha hb h
 exact (key b a hb ha h).symm
def tot(ts:List Th):Nat:=(ts.map (fun t=>t.d.size)).sum
theorem tot_perm{a b:List Th}(h:a.Perm b):tot a=tot b:=(h.map _).sum_nat
structure Dok (C:Nat) (D:Dsk):Prop where
 wf:Wf D.ts
 len:D.ts.length≤1000
 sz: ∀t∈D.ts,t.p.size≤1000
 room:D.room<0∨(0≤D.room∧D.room+(tot D.ts:Int)=C)
 left: -1≤D.left∧D.left≤1000
 cap:C≤1000000000
def Nev(D:Dsk):Prop:=D.left<0∧D.down=false
theorem goes_nev{D:Dsk}(h:Nev D):goes D=true:=by
 obtain ⟨h1,h2⟩:=h
 have e:(D.left==0)=false:=by rw[beq_eq_false_iff_ne];omega
 unfold goes;rw[e,h2];rfl
theorem stepped_down(D:Dsk):(stepped D).down= !goes D:=by simp[stepped,goes]
theorem stepped_left{D:Dsk}(h: -1≤D.left∧D.left≤1000): -1≤(stepped D).left∧(stepped D).left≤1000:=by
 unfold stepped
 simp only
 split
 ·exact h
 split
 ·rename_i h1
  have e:wrap64 (D.left- 1)=D.left- 1:=by unfold wrap64;omega
  rw[e];omega
 exact h
theorem stepped_nev{D:Dsk}(h:Nev D):Nev (stepped D):=by
 refine ⟨?_,by rw[stepped_down,goes_nev h];rfl⟩
 obtain ⟨h1,h2⟩:=h
 have e:(D.left==0)=false:=by rw[beq_eq_false_iff_ne];omega
 unfold stepped
 simp only[e,h2,Bool.or_self,Bool.false_eq_true,if_false]
 rw[if_neg (by omega)];exact h1
theorem Dok.step{C:Nat}{D:Dsk}(h:Dok C D):Dok C (stepped D):=⟨h.wf,h.len,h.sz,h.room,stepped_left h.left,h.cap⟩
end Go.Proofs.YtfbgamknfommpaaGreatDoor.dk
namespace Go.Proofs.YtfbgamknfommpaaGreatDoor.dk
open Go.RowKit
theorem cut_at{ts:List Th}{k:Nat}(h:k<ts.length):(nth ts k::(ts.take k++ts.drop (k+1))).Perm ts∧(ts.take k++ts.drop (k+1)).Sublist ts:=by
 have e:ts=ts.take k++nth ts k::ts.drop (k+1):=by
  have h2:ts.drop k=nth ts k::ts.drop (k+1):=by
   rw[List.drop_eq_getElem_cons h,nth,List.getD_eq_getElem?_getD,List.getElem?_eq_getElem h];rfl
  rw[←h2,List.take_append_drop]
 constructor
 ·have:=(List.perm_middle (a:=nth ts k) (l₁:=ts.take k) (l₂:=ts.drop (k+1))).symm
  rw[←e] at this
  exact this
 have h3:(ts.take k++ts.drop (k+1)).Sublist (ts.take k++nth ts k::ts.drop (k+1)):=List.Sublist.append (List.Sublist.refl _) (List.sublist_cons_self _ _)
 rw[←e] at h3
 exact h3
theorem hasIn_no{ts:List Th}{p:ByteArray}(h: ∀x∈ts,Wi (bl x.p) (bl p)→x.p=p):hasIn ts p=false:=by
 unfold hasIn
 rw[List.any_eq_false]
 intro x hx
 unfold inB
 rw[Bool.and_eq_true,not_and,within_spec]
 intro h1 h2
 rw[h x hx h2] at h1
 simp at h1
structure One (C:Nat) (D:Dsk) (p:ByteArray) (r:Int) (D' :Dsk):Prop where
 ok:Dok C D'
 sub:D'.ts.Sublist D.ts
 keep: ∀x∈D.ts,x.p≠p→x∈D'.ts
 yes:r=0→ ∀x∈D'.ts,x.p≠p
 no:r≠0→D'.down=true
 nev:Nev D→Nev D'
 room:D.room<0→D'.room<0
theorem remove_one{C:Nat}{D:Dsk}(h:Dok C D){t:Th}(ht:t∈D.ts)(hl: ∀x∈D.ts,Wi (bl x.p) (bl t.p)→x.p=t.p):One C D t.p (removeOf D t.p).1 (removeOf D t.p).2:=by
 obtain ⟨h1,h2,h3⟩:=isAt_mem h.wf.srt ht
 obtain ⟨c1,c2⟩:=cut_at h2
 unfold removeOf
 rw[h1,hasIn_no hl]
 by_cases hg:goes D=true
 ·rw[if_pos hg,if_pos rfl,if_neg (by simp)]
  rw[h3] at c1 ⊢
  generalize hR:D.ts.take (low D.ts t.p)++D.ts.drop (low D.ts t.p+1)=R at*
  have hne: ∀x∈R,x.p≠t.p:=by
   intro x hx e
   have hs:Srt (t::R)∨True:=.inr trivial
   have h4:x=t:=h.wf.srt.one (c2.subset hx) ht e
   subst h4
   have hnd:D.ts.Nodup:=h.wf.srt.imp (fun {a b} hab e=>by rw[e] at hab;exact List.lt_irrefl _ hab)
   have:=(c1.nodup_iff).2 hnd
   rw[List.nodup_cons] at this
   exact this.1 hx
  have hkeep: ∀x∈D.ts,x.p≠t.p→x∈R:=by
   intro x hx hxe
   rcases List.mem_cons.1 (c1.mem_iff.2 hx) with e|e
   ·rw[e] at hxe;exact absurd rfl hxe
   exact e
  have htot:tot D.ts=t.d.size+tot R:=by rw[←tot_perm c1];simp[tot]
  refine ⟨⟨⟨h.wf.srt.sublist c2,fun x hx=> ?_⟩,Nat.le_trans c2.length_le h.len,fun x hx=>h.sz x (c2.subset hx), ?_,stepped_left h.left,h.cap⟩,c2,hkeep,fun _=>hne,fun e=>absurd rfl e,fun hn=> ?_,fun hr=> ?_⟩
  ·obtain ⟨u,hu,h5⟩:=h.wf.up x (c2.subset hx)
   refine ⟨u,hu, ?_⟩
   rcases h5 with h5|⟨y,hy,rfl,hyf⟩
   ·exact .inl h5
   by_cases e:y.p=t.p
   ·by_cases hy0:bl y.p=[]
    ·exact .inl hy0
    exfalso
    have hw:=up_wi (up_spec hu) hy0
    rw[e] at hw
    exact hne x hx (hl x (c2.subset hx) hw)
   exact .inr ⟨y,hkeep y hy e,rfl,hyf⟩
  ·rcases h.room with hr|⟨hr0,hr1⟩
   ·left
    show (if 0≤D.room then _ else D.room)<0
    rw[if_neg (by omega)];exact hr
   right
   have hc:=h.cap
   have e:wrap64 (D.room+t.d.size)=D.room+t.d.size:=by unfold wrap64;omega
   show 0≤(if 0≤D.room then wrap64 (D.room+t.d.size) else D.room)∧(if 0≤D.room then wrap64 (D.room+t.d.size) else D.room)+(tot R:Int)=C
   rw[if_pos hr0,e]
   omega
  ·have:=stepped_nev hn
   exact ⟨this.1,this.2⟩
  show (if 0≤D.room then _ else D.room)<0
  rw[if_neg (by omega)];exact hr
 rw[if_neg hg]
 refine ⟨h.step,List.Sublist.refl _,fun x hx _=>hx,(fun e=>by cases e),fun _=> ?_,fun hn=>absurd (goes_nev hn) hg,fun hr=>hr⟩
 show (stepped D).down=true
 rw[stepped_down]
 cases hq:goes D
 ·rfl
 exact absurd hq hg
structure Rem (C:Nat) (D:Dsk) (p:ByteArray) (r:Bool) (D' :Dsk):Prop where
 ok:Dok C D'
 sub:D'.ts.Sublist D.ts
 keep: ∀x∈D.ts,¬Wi (bl x.p) (bl p)→x∈D'.ts
 yes:r=true→ ∀x∈D'.ts,¬Wi (bl x.p) (bl p)
 no:r=false→D'.down=true
 nev:Nev D→Nev D'
 room:D.room<0→D'.room<0
theorem Rem.none{C:Nat}{D:Dsk}{p:ByteArray}(h:Dok C D)(hp:bl p≠[])(h0:isOf D.ts p=0):Rem C D p true D:=
 ⟨h,List.Sublist.refl _,fun x hx _=>hx,fun _=>h.wf.gone hp (isOf_zero h.wf.srt h0),(fun e=>by cases e),fun x=>x,fun x=>x⟩
structure Part (C:Nat) (D:Dsk) (p:ByteArray) (l:List ByteArray) (D' :Dsk):Prop where
 ok:Dok C D'
 sub:D'.ts.Sublist D.ts
 keep: ∀x∈D.ts,(∀nm∈l,¬Wi (bl x.p) (bl (inP p nm)))→x∈D'.ts
 yes: ∀x∈D'.ts,∀nm∈l,¬Wi (bl x.p) (bl (inP p nm))
 nev:Nev D→Nev D'
 room:D.room<0→D'.room<0
theorem Part.start{C:Nat}{D:Dsk}(h:Dok C D)(p:ByteArray):Part C D p [] D:=⟨h,List.Sublist.refl _,fun x hx _=>hx,fun x _ nm hm=>by simp at hm,fun x=>x,fun x=>x⟩
theorem Part.next{C:Nat}{D D1 D2:Dsk}{p nm:ByteArray}{l:List ByteArray}(h:Part C D p l D1)(k:Rem C D1 (inP p nm) true D2):Part C D p (l++[nm]) D2:=by
 refine ⟨k.ok,k.sub.trans h.sub,fun x hx hn=> ?_,fun x hx n hm=> ?_,fun hn=>k.nev (h.nev hn),fun hr=>k.room (h.room hr)⟩
 ·exact k.keep x (h.keep x hx (fun n hm=>hn n (List.mem_append_left _ hm))) (hn nm (List.mem_append_right _ (List.mem_singleton.2 rfl)))
 rcases List.mem_append.1 hm with hm|hm
 ·exact h.yes x (k.sub.subset hx) n hm
 rw[List.mem_singleton.1 hm]
 exact k.yes rfl x hx
theorem wi_inP{x:List UInt8}{p nm:ByteArray}(h:Wi x (bl (inP p nm))):Wi x (bl p):=Wi.trans h (.inr ⟨bl nm,bl_inP p nm⟩)
theorem Part.stop{C:Nat}{D D1 D2:Dsk}{p nm:ByteArray}{l:List ByteArray}(h:Part C D p l D1)(k:Rem C D1 (inP p nm) false D2):Rem C D p false D2:=by
 refine ⟨k.ok,k.sub.trans h.sub,fun x hx hn=> ?_,(fun e=>by cases e),fun _=>k.no rfl,fun hn=>k.nev (h.nev hn),fun hr=>k.room (h.room hr)⟩
 exact k.keep x (h.keep x hx (fun n _ hw=>hn (wi_inP hw))) (fun hw=>hn (wi_inP hw))
theorem Part.all{C:Nat}{D D1:Dsk}{p:ByteArray}(hp:bl p≠[])(hD:Dok C D)(h:Part C D p (namesL D.ts p) D1): ∀x∈D1.ts,Wi (bl x.p) (bl p)→x.p=p:=by
 intro x hx hw
 refine Classical.byContradiction fun hne=> ?_
 obtain ⟨c,hc,hu,hwc⟩:=hD.wf.child hp _ x (h.sub.subset hx) (Nat.le_refl _) hw hne
 have h1:=names_have hD.wf hp hc hu
 have h2:=h.yes x hx _ h1
 rw[(nameIn_spec hu hp).1] at h2
 exact h2 hwc
theorem Part.still{C:Nat}{D D1:Dsk}{p:ByteArray}{l:List ByteArray}(h:Part C D p l D1){t:Th}(ht:t∈D.ts)(e:t.p=p):t∈D1.ts:=by
 refine h.keep t ht (fun nm _ hw=> ?_)
 have:=hw.len
 rw[e,bl_inP,List.length_append,List.length_cons] at this
 omega
theorem Part.done{C:Nat}{D D1:Dsk}{p:ByteArray}(hp:bl p≠[])(hD:Dok C D){t:Th}(ht:t∈D.ts)(e:t.p=p)(h:Part C D p (namesL D.ts p) D1):Rem C D p (decide ((removeOf D1 p).1=0)) (removeOf D1 p).2:=by
 subst e
 have ho:=remove_one h.ok (h.still ht rfl) (h.all hp hD)
 refine ⟨ho.ok,ho.sub.trans h.sub,fun x hx hn=> ?_,fun hr x hx hw=> ?_,fun hr=>ho.no (of_decide_eq_false hr),fun hn=>ho.nev (h.nev hn),fun hr=>ho.room (h.room hr)⟩
 ·exact ho.keep x (h.keep x hx (fun n _ hw=>hn (wi_inP hw))) (fun e=>hn (by rw[e];exact Wi.refl _))
 exact ho.yes (of_decide_eq_true hr) x hx (h.all hp hD x (ho.sub.subset hx) hw)
def cnt(ts:List Th)(p:ByteArray):Nat:=ts.countP (fun t=>withinB t.p p)
theorem cnt_sub{a b:List Th}(h:a.Sublist b)(p:ByteArray):cnt a p≤cnt b p:=h.countP_le
theorem cnt_less{ts:List Th}{p nm:ByteArray}{t:Th}(ht:t∈ts)(e:t.p=p):cnt ts (inP p nm)<cnt ts p:=by
 obtain ⟨a,b,rfl⟩:=List.append_of_mem ht
 have h1:withinB t.p p=true:=by rw[within_spec,e];exact Wi.refl _
 have h2:withinB t.p (inP p nm)=false:=by
  rw[Bool.eq_false_iff]
  intro h
  have:=((within_spec _ _).1 h).len
  rw[e,bl_inP,List.length_append,List.length_cons] at this
  omega
 have mono: ∀l:List Th,l.countP (fun t=>withinB t.p (inP p nm))≤l.countP (fun t=>withinB t.p p):=fun l=>List.countP_mono_left (fun x _ h=>(within_spec _ _).2 (wi_inP ((within_spec _ _).1 h)))
 unfold cnt
 rw[List.countP_append,List.countP_append,List.countP_cons,List.countP_cons,h1,h2]
 have:=mono a
 have:=mono b
 simp
 omega
theorem cnt_zero{ts:List Th}{p:ByteArray}(h:cnt ts p=0): ∀t∈ts,t.p≠p:=by
 intro t ht e
 have:=List.countP_eq_zero.1 h t ht
 exact this (by rw[within_spec,e];exact Wi.refl _)
end Go.Proofs.YtfbgamknfommpaaGreatDoor.dk
namespace Go.Proofs.YtfbgamknfommpaaGreatDoor.dk
open Go.RowKit
theorem free_ok{ts:List Th}(hs:Srt ts){q u:ByteArray}(hu:parentOf q=some u)(hp:bl u=[]∨ ∃x∈ts,x.p=u∧x.f=true)(hq: ∀x∈ts,x.p≠q):freeOf ts q=0:=by
 unfold freeOf
 have h1:(!(parentOf q).isSome||(!((upOf q).toList==[])&& !(isOf ts (upOf q)==2)))=false:=by
  rw[hu,upOf_some hu]
  rcases hp with hp|⟨x,hx,rfl,hf⟩
  ·have:(u.toList==[])=true:=by rw[ByteArray.toList_eq,beq_iff_eq];exact hp
   rw[this];rfl
  have:=(isOf_two hs (q:=x.p)).2 ⟨x,hx,rfl,hf⟩
  rw[this];simp
 rw[h1,isOf_no hq];rfl
theorem Wf.more{ts:List Th}(h:Wf ts){t:Th}{u:ByteArray}(hu:parentOf t.p=some u)(hp:bl u=[]∨ ∃x∈ts,x.p=u∧x.f=true)(hq: ∀x∈ts,x.p≠t.p):Wf (ins ts t):=by
 have hm: ∀x,x∈ins ts t↔x=t∨x∈ts:=fun x=>by rw[(ins_perm ts t).mem_iff,List.mem_cons]
 refine ⟨h.srt.ins hq,fun x hx=> ?_⟩
 rcases (hm x).1 hx with rfl|hx
 ·refine ⟨u,hu, ?_⟩
  rcases hp with hp|⟨y,hy,h1,h2⟩
  ·exact .inl hp
  exact .inr ⟨y,(hm y).2 (.inr hy),h1,h2⟩
 obtain ⟨v,hv,h3⟩:=h.up x hx
 refine ⟨v,hv, ?_⟩
 rcases h3 with h3|⟨y,hy,h1,h2⟩
 ·exact .inl h3
 exact .inr ⟨y,(hm y).2 (.inr hy),h1,h2⟩
structure Put (C:Nat) (D:Dsk) (t:Th) (r:Int) (D' :Dsk):Prop where
 ok:Dok C D'
 yes:r=0→D'.ts.Perm (t::D.ts)
 no:r≠0→D'.ts=D.ts
 why:r≠0→D'.down=true∨(r=3∧0≤D.room∧(Nev D→Nev D'))
 nev:Nev D→Nev D'
 room:D.room<0→D'.room<0
theorem put_down{C:Nat}{D:Dsk}(h:Dok C D)(t:Th)(hg:¬goes D=true):Put C D t 4 (stepped D):=by
 refine ⟨h.step,(fun e=>by cases e),fun _=>rfl,fun _=> .inl ?_,fun hn=>absurd (goes_nev hn) hg,fun x=>x⟩
 rw[stepped_down]
 cases hq:goes D
 ·rfl
 exact absurd hq hg
theorem mkdir_put{C:Nat}{D:Dsk}(h:Dok C D){q u:ByteArray}(hu:parentOf q=some u)(hp:bl u=[]∨ ∃x∈D.ts,x.p=u∧x.f=true)(hq: ∀x∈D.ts,x.p≠q)(hl:D.ts.length<1000)(hs:q.size≤1000):
 Put C D ⟨q,true,⟨#[]⟩⟩ (mkdirOf D q).1 (mkdirOf D q).2:=by
 unfold mkdirOf
 by_cases hg:goes D=true
 ·rw[if_pos hg,free_ok h.wf.srt hu hp hq,if_pos (show ((0:Int)==0)=true from rfl)]
  have hpm:=ins_perm D.ts ⟨q,true,⟨#[]⟩⟩
  refine ⟨⟨h.wf.more hu hp hq,by rw[hpm.length_eq,List.length_cons];omega,fun x hx=> ?_, ?_,stepped_left h.left,h.cap⟩,fun _=>hpm,fun e=>absurd rfl e,fun e=>absurd rfl e,fun hn=> ?_,fun x=>x⟩
  ·rcases List.mem_cons.1 (hpm.mem_iff.1 hx) with rfl|hx
   ·exact hs
   exact h.sz x hx
  ·rcases h.room with hr|⟨hr0,hr1⟩
   ·exact .inl hr
   right
   refine ⟨hr0, ?_⟩
   show D.room+(tot (ins D.ts ⟨q,true,⟨#[]⟩⟩):Int)=C
   have:tot (ins D.ts ⟨q,true,⟨#[]⟩⟩)=tot D.ts:=by rw[tot_perm hpm];simp[tot];rfl
   rw[this];exact hr1
  have:=stepped_nev hn;exact ⟨this.1,this.2⟩
 rw[if_neg hg];exact put_down h _ hg
theorem write_put{C:Nat}{D:Dsk}(h:Dok C D){q u d:ByteArray}(hu:parentOf q=some u)(hp:bl u=[]∨ ∃x∈D.ts,x.p=u∧x.f=true)(hq: ∀x∈D.ts,x.p≠q)(hl:D.ts.length<1000)(hs:q.size≤1000):
 Put C D ⟨q,false,d⟩ (writeOf D q d).1 (writeOf D q d).2:=by
 have hpm:=ins_perm D.ts ⟨q,false,d⟩
 have hwf:=h.wf.more (t:=⟨q,false,d⟩) hu hp hq
 have hlen:(ins D.ts ⟨q,false,d⟩).length≤1000:=by rw[hpm.length_eq,List.length_cons];omega
 have hsz: ∀x∈ins D.ts ⟨q,false,d⟩,x.p.size≤1000:=fun x hx=>by
  rcases List.mem_cons.1 (hpm.mem_iff.1 hx) with rfl|hx
  ·exact hs
  exact h.sz x hx
 have htot:tot (ins D.ts ⟨q,false,d⟩)=d.size+tot D.ts:=by rw[tot_perm hpm];simp[tot]
 unfold writeOf
 by_cases hg:goes D=true
 ·rw[if_pos hg,free_ok h.wf.srt hu hp hq]
  by_cases hr:D.room<0
  ·rw[if_pos (show ((0:Int)==0)=true from rfl),if_pos hr]
   refine ⟨⟨hwf,hlen,hsz,.inl hr,stepped_left h.left,h.cap⟩,fun _=>hpm,fun e=>absurd rfl e,fun e=>absurd rfl e,fun hn=> ?_,fun x=>x⟩
   have:=stepped_nev hn;exact ⟨this.1,this.2⟩
  rw[if_pos (show ((0:Int)==0)=true from rfl),if_neg hr]
  obtain ⟨hr0,hr1⟩:0≤D.room∧D.room+(tot D.ts:Int)=C:=by
   rcases h.room with h1|h1
   ·exact absurd h1 hr
   exact h1
  by_cases hf:D.room<d.size
  ·rw[if_pos hf]
   refine ⟨h.step,(fun e=>by cases e),fun _=>rfl,fun _=> .inr ⟨rfl,hr0,stepped_nev⟩,stepped_nev,fun x=>x⟩
  rw[if_neg hf]
  refine ⟨⟨hwf,hlen,hsz,.inr ⟨?_, ?_⟩,stepped_left h.left,h.cap⟩,fun _=>hpm,fun e=>absurd rfl e,fun e=>absurd rfl e,fun hn=> ?_,fun x=>absurd x hr⟩
  ·show 0≤D.room- d.size;omega
  ·show D.room- (d.size:Int)+(tot (ins D.ts ⟨q,false,d⟩):Int)=C
   rw[htot];omega
  have:=stepped_nev hn;exact ⟨this.1,this.2⟩
 rw[if_neg hg];exact put_down h _ hg
end Go.Proofs.YtfbgamknfommpaaGreatDoor.dk
