import Derived.Test.YtndfmgdhiallpaaGreatDoorRd
import Derived.Test.YtndfmgdhiallpaaGreatDoorJh
set_option maxRecDepth 100000
set_option maxHeartbeats 4000000
namespace Go.Proofs.YtndfmgdhiallpaaGreatDoor
open Go.RowKit Go.Maps
def clL:List ByteArray→List ByteArray→Bool
 |a::x,b::y=>if a=b then clL x y else decide (lowP a=lowP b)
 |[],_=>true
 |_::_,[]=>true
def clR(a b:ByteArray):Bool:=clL (partsR a 47) (partsR b 47)
def NoSl(a:ByteArray):Prop:= ∀j,j<a.size→btN a j≠47
abbrev sSl:ByteArray:=⟨#[47]⟩
def jn(a x:ByteArray):ByteArray:=a++(sSl++x)
theorem jn_list(a x:ByteArray):(jn a x).data.toList=a.data.toList++47::x.data.toList:=by rw[jn,app_list,app_list];rfl
theorem jn_size(a x:ByteArray):(jn a x).size=a.size+1+x.size:=by rw[jn,ByteArray.size_append,ByteArray.size_append];show _+(1+_)=_;omega
theorem jn_inj{a x y:ByteArray}(h:jn a x=jn a y):x=y:=by
 have:=congrArg (fun z:ByteArray=>z.data.toList) h
 simp only[jn_list] at this
 exact ba_ext (List.cons.inj (List.append_cancel_left this)).2
theorem NoSl.mem{a:ByteArray}(h:NoSl a):(47:UInt8)∉a.data.toList:=fun hm=>by
 obtain ⟨j,hj,e⟩:=List.getElem_of_mem hm
 have hj2:j<a.size:=by rw[Lib.size_eq];exact hj
 have hb:=bt_list hj2
 rw[List.getElem?_eq_getElem hj,e] at hb
 injection hb.1 with h1
 exact h j hj2 (by rw[←hb.2,←h1];rfl)
theorem name_cases(s:ByteArray):NoSl s∨ ∃a r,NoSl a∧s=jn a r:=by
 rcases idx_cases s 47 with ⟨_,hn⟩|⟨i,_,hi,hb,hn⟩
 ·exact .inl hn
 have hb:btN s i=47:=hb
 refine .inr ⟨s.extract 0 i,s.extract (i+1) s.size,fun j hj=> ?_,ba_ext ?_⟩
 ·have hj2:j<i:=by rw[ByteArray.size_extract] at hj;omega
  rw[btN_extract (by omega) (by omega),Nat.zero_add]
  exact hn j hj2
 have:=bt_split hi
 rw[hb] at this
 rw[jn_list,ext0_list,←drop_ext]
 exact this
theorem jn_bt(a x:ByteArray):(∀j,j<a.size→btN (jn a x) j=btN a j)∧btN (jn a x) a.size=47∧ ∀j,btN (jn a x) (a.size+1+j)=btN x j:=by
 refine ⟨fun j hj=>btN_append_left hj, ?_,fun j=> ?_⟩
 ·rw[jn,btN_append_right (Nat.le_refl _),Nat.sub_self,btN_append_left (show 0<sSl.size by decide)];rfl
 rw[jn,btN_append_right (by omega),btN_append_right (show sSl.size≤_ by show 1≤_;omega)]
 congr 1
 show a.size+1+j- a.size- 1=j
 omega
theorem jn_ext(a x:ByteArray):(jn a x).extract 0 a.size=a∧(jn a x).extract (a.size+1) (jn a x).size=x∧ ∀j,j≤x.size→(jn a x).extract 0 (a.size+1+j)=jn a (x.extract 0 j):=by
 have hl:a.data.toList.length=a.size:=(Lib.size_eq a).symm
 refine ⟨ba_ext ?_,ba_ext ?_,fun j hj=>ba_ext ?_⟩
 ·rw[ext0_list,jn_list,←hl,List.take_left]
 ·rw[←drop_ext,jn_list]
  show List.drop (a.size+1) _=_
  rw[←hl,List.drop_append];simp
 rw[ext0_list,jn_list,jn_list,ext0_list,←hl,List.take_append]
 rw[List.take_of_length_le (by omega),show a.data.toList.length+1+j- a.data.toList.length=j+1 by omega,List.take_succ_cons]
theorem parts_jn{a:ByteArray}(h:NoSl a)(x:ByteArray):partsR (jn a x) 47=a::partsR x 47:=by
 obtain ⟨h1,h2,_⟩:=jn_bt a x
 obtain ⟨e1,e2,_⟩:=jn_ext a x
 have:=partsR_hit (s:=jn a x) (c:=47) (i:=a.size) (by rw[jn_size];omega) h2 (fun j hj=>by rw[h1 j hj];exact h j hj)
 rw[e1,e2] at this
 exact this
theorem folP_none{s:ByteArray}: ∀n,(∀j,j<n→btN s j≠47)→folP s n=[]
 |0,_=>rfl
 |n+1,h=>by rw[folP_miss s n (h n (by omega))];exact folP_none n (fun j hj=>h j (by omega))
theorem beg_no{a:ByteArray}(h:NoSl a):begP a=[a]:=by rw[begP,folP_none _ h];rfl
theorem folP_jn{a:ByteArray}(h:NoSl a)(x:ByteArray): ∀n,n≤x.size→folP (jn a x) (a.size+1+n)=a::(folP x n).map (jn a)
 |0,_=>by
  obtain ⟨h1,h2,_⟩:=jn_bt a x
  show folP (jn a x) (a.size+1)=_
  rw[folP_hit _ _ h2,folP_none _ (fun j hj=>by rw[h1 j hj];exact h j hj),(jn_ext a x).1];rfl
 |n+1,hn=>by
  have ih:=folP_jn h x n (by omega)
  have hb:=(jn_bt a x).2.2 n
  rw[show a.size+1+(n+1)=a.size+1+n+1 by omega]
  by_cases hc:btN x n=47
  ·rw[folP_hit _ _ (hb.trans hc),folP_hit _ _ hc,ih,(jn_ext a x).2.2 n (by omega)]
   simp
  rw[folP_miss _ _ (by rw[hb];exact hc),folP_miss _ _ hc,ih]
theorem beg_jn{a:ByteArray}(h:NoSl a)(x:ByteArray):begP (jn a x)=a::(begP x).map (jn a):=by
 rw[begP,jn_size,folP_jn h x x.size (Nat.le_refl _),begP,List.map_append];rfl
theorem beg_ne(s:ByteArray):s∈begP s:=by rw[begP];simp
theorem lowU_sl{u:UInt8}:lowU u=47↔u=47:=by
 constructor
 ·intro h
  unfold lowU at h
  split at h
  ·rename_i hc
   have hb:65≤u.toNat∧u.toNat≤90:=by simpa [capB] using hc
   have:=congrArg UInt8.toNat h
   rw[b8_toNat (by omega)] at this
   have e:(47:UInt8).toNat=47:=rfl
   omega
  exact h
 rintro rfl;rfl
theorem map_low_jn: ∀(a a' x x' :List UInt8),(47:UInt8)∉a→(47:UInt8)∉a' →((a++47::x).map lowU=(a' ++47::x').map lowU↔a.map lowU=a'.map lowU∧x.map lowU=x'.map lowU)
 |[],[],x,x',_,_=>by simp
 |[],c::a',x,x',_,h' =>by
  have h1:lowU 47≠lowU c:=fun e=>h' (by rw[lowU_sl.1 (e.symm.trans rfl)];simp)
  simp[h1]
 |c::a,[],x,x',h,_=>by
  have h1:lowU c≠lowU 47:=fun e=>h (by rw[lowU_sl.1 (e.trans rfl)];simp)
  simp[h1]
 |c::a,c' ::a',x,x',h,h' =>by
  have ih:=map_low_jn a a' x x' (fun e=>h (List.mem_cons_of_mem _ e)) (fun e=>h' (List.mem_cons_of_mem _ e))
  rw[List.cons_append,List.cons_append,List.map_cons,List.map_cons,List.map_cons,List.map_cons,List.cons.injEq,List.cons.injEq,ih,and_assoc]
theorem lowP_inj{a b:ByteArray}:lowP a=lowP b↔a.data.toList.map lowU=b.data.toList.map lowU:=by
 constructor
 ·intro h
  have:=congrArg (fun z:ByteArray=>z.data.toList) h
  exact this
 intro h
 rw[lowP,lowP,h]
theorem low_jn{a a' :ByteArray}(h:NoSl a)(h' :NoSl a')(x x' :ByteArray):lowP (jn a x)=lowP (jn a' x')↔lowP a=lowP a' ∧lowP x=lowP x' :=by
 rw[lowP_inj,lowP_inj,lowP_inj,jn_list,jn_list]
 exact map_low_jn _ _ _ _ h.mem h'.mem
theorem low_ne{a:ByteArray}(h:NoSl a)(a' x:ByteArray):lowP a≠lowP (jn a' x):=fun e=>by
 rw[lowP_inj,jn_list] at e
 have:(47:UInt8)∈a.data.toList.map lowU:=by rw[e];simp;exact .inr (.inl (lowU_sl.2 rfl).symm)
 obtain ⟨u,hu,e2⟩:=List.mem_map.1 this
 exact h.mem (lowU_sl.1 e2 ▸ hu)
theorem jn_ne{a:ByteArray}(h:NoSl a)(a' x:ByteArray):a≠jn a' x:=fun e=>low_ne h a' x (by rw[←e])
def clB(n s:ByteArray):Prop:= ∃b',b' ∈begP n∧ ∃b,b∈begP s∧lowP b' =lowP b∧(b' ≠b∨b' =n∨b=s)
theorem clR_no{n:ByteArray}(hn:NoSl n)(s:ByteArray):clR n s=true↔clB n s:=by
 rw[clR,partsR_miss hn,clB,beg_no hn]
 rcases name_cases s with hs|⟨b,r,hb,rfl⟩
 ·rw[partsR_miss hs,clL,beg_no hs]
  constructor
  ·intro h
   have hlo:lowP n=lowP s:=by
    by_cases e:n=s
    ·rw[e]
    rw[if_neg e] at h;exact of_decide_eq_true h
   exact ⟨n,by simp,s,by simp,hlo,.inr (.inl rfl)⟩
  rintro ⟨b',hb',b,hb,hlo,_⟩
  rw[List.mem_singleton] at hb hb'
  subst hb hb'
  by_cases e:b' =b
  ·rw[if_pos e];rfl
  rw[if_neg e];exact decide_eq_true hlo
 rw[parts_jn hb,clL,beg_jn hb]
 constructor
 ·intro h
  have hlo:lowP n=lowP b:=by
   by_cases e:n=b
   ·rw[e]
   rw[if_neg e] at h;exact of_decide_eq_true h
  exact ⟨n,by simp,b,by simp,hlo,.inr (.inl rfl)⟩
 rintro ⟨b',hb',y,hy,hlo,_⟩
 rw[List.mem_singleton] at hb'
 subst hb'
 rcases List.mem_cons.1 hy with rfl|hy
 ·by_cases e:b' =y
  ·rw[if_pos e];rfl
  rw[if_neg e];exact decide_eq_true hlo
 obtain ⟨y',_,rfl⟩:=List.mem_map.1 hy
 exact absurd hlo (low_ne hn _ _)
theorem clR_iff: ∀(k:Nat) (n s:ByteArray),n.size≤k→(clR n s=true↔clB n s):=by
 intro k
 induction k with
 |zero=>
  intro n s hk
  have hn:NoSl n:=fun j hj=>by omega
  exact clR_no hn s
 |succ k ih=>
  intro n s hk
  rcases name_cases n with hn|⟨a,q,ha,rfl⟩
  ·exact clR_no hn s
  rcases name_cases s with hs|⟨b,r,hb,rfl⟩
  ·rw[clR,parts_jn ha,partsR_miss hs,clL,clB,beg_no hs]
   have e0:clL (partsR q 47) []=true:=by cases partsR q 47<;>rfl
   constructor
   ·intro h
    have hlo:lowP a=lowP s:=by
     by_cases e:a=s
     ·rw[e]
     rw[if_neg e] at h;exact of_decide_eq_true h
    exact ⟨a,by rw[beg_jn ha];simp,s,by simp,hlo,.inr (.inr rfl)⟩
   rintro ⟨b',hb',b,hb,hlo,_⟩
   rw[List.mem_singleton] at hb
   subst hb
   rw[beg_jn ha,List.mem_cons] at hb'
   rcases hb' with rfl|hb'
   ·by_cases e:b' =b
    ·rw[if_pos e,e0]
    rw[if_neg e];exact decide_eq_true hlo
   obtain ⟨y,_,rfl⟩:=List.mem_map.1 hb'
   exact absurd hlo.symm (low_ne hs _ _)
  rw[clR,parts_jn ha,parts_jn hb,clL,clB,beg_jn ha,beg_jn hb]
  have ih:=ih q r (by rw[jn_size] at hk;omega)
  constructor
  ·intro h
   by_cases e:a=b
   ·subst e
    rw[if_pos rfl] at h
    obtain ⟨x,hx,y,hy,hlo,hd⟩:=ih.1 h
    refine ⟨jn a x,List.mem_cons_of_mem _ (List.mem_map.2 ⟨x,hx,rfl⟩),jn a y,List.mem_cons_of_mem _ (List.mem_map.2 ⟨y,hy,rfl⟩),(low_jn ha ha _ _).2 ⟨rfl,hlo⟩, ?_⟩
    rcases hd with hd|hd|hd
    ·exact .inl (fun e=>hd (jn_inj e))
    ·exact .inr (.inl (by rw[hd]))
    exact .inr (.inr (by rw[hd]))
   rw[if_neg e] at h
   exact ⟨a,by simp,b,by simp,of_decide_eq_true h,.inl e⟩
  rintro ⟨x,hx,y,hy,hlo,hd⟩
  have hab:lowP a=lowP b:=by
   rcases List.mem_cons.1 hx with rfl|hx
   ·rcases List.mem_cons.1 hy with rfl|hy
    ·exact hlo
    obtain ⟨y',_,rfl⟩:=List.mem_map.1 hy
    exact absurd hlo (low_ne ha _ _)
   obtain ⟨x',_,rfl⟩:=List.mem_map.1 hx
   rcases List.mem_cons.1 hy with rfl|hy
   ·exact absurd hlo.symm (low_ne hb _ _)
   obtain ⟨y',_,rfl⟩:=List.mem_map.1 hy
   exact ((low_jn ha hb _ _).1 hlo).1
  by_cases e:a=b
  ·subst e
   rw[if_pos rfl]
   refine ih.2 ?_
   rcases List.mem_cons.1 hx with rfl|hx
   ·rcases List.mem_cons.1 hy with rfl|hy
    ·rcases hd with hd|hd|hd
     ·exact absurd rfl hd
     ·exact absurd hd (jn_ne ha _ _)
     exact absurd hd (jn_ne ha _ _)
    obtain ⟨y',_,rfl⟩:=List.mem_map.1 hy
    exact absurd hlo (low_ne ha _ _)
   obtain ⟨x',hx',rfl⟩:=List.mem_map.1 hx
   rcases List.mem_cons.1 hy with rfl|hy
   ·exact absurd hlo.symm (low_ne ha _ _)
   obtain ⟨y',hy',rfl⟩:=List.mem_map.1 hy
   refine ⟨x',hx',y',hy',((low_jn ha hb _ _).1 hlo).2, ?_⟩
   rcases hd with hd|hd|hd
   ·exact .inl (fun e=>hd (by rw[e]))
   ·exact .inr (.inl (jn_inj hd))
   exact .inr (.inr (jn_inj hd))
  rw[if_neg e];exact decide_eq_true hab
theorem beg_ext{s b:ByteArray}(h:b∈begP s):b=s.extract 0 b.size:=by
 rw[begP,List.mem_append,List.mem_singleton] at h
 rcases h with h|rfl
 ·rw[folP] at h
  obtain ⟨i,hi,rfl⟩:=List.mem_map.1 h
  have hi2:=List.mem_range.1 (List.mem_filter.1 hi).1
  have:(s.extract 0 i).size=i:=by rw[ByteArray.size_extract];omega
  rw[this]
 simp
theorem beg_low{s b b' :ByteArray}(h:b∈begP s)(h' :b' ∈begP s)(e:lowP b=lowP b'):b=b' :=by
 have hs:b.size=b'.size:=by rw[←lowP_size b,←lowP_size b',e]
 rw[beg_ext h,beg_ext h',hs]
def TabOf(F:List ByteArray)(f:Tab):Prop:=(∀n,n∈F→ ∀b,b∈begP n→f (lowP b)=some (b,decide (b=n)))∧ ∀r x,f r=some x→ ∃n,n∈F∧ ∃b,b∈begP n∧lowP b=r∧x=(b,decide (b=n))
theorem TabOf.nil:TabOf [] (fun _=>none):=⟨fun _ h=>(by cases h),fun _ _ h=>by cases h⟩
theorem clash_iff{F:List ByteArray}{f:Tab}(h:TabOf F f)(s:ByteArray):clashP f s=true↔ ∃n,n∈F∧clB n s:=by
 rw[clashP,List.any_eq_true]
 constructor
 ·rintro ⟨b,hb,hc⟩
  rw[clashB,Bool.and_eq_true] at hc
  obtain ⟨x,hx⟩:=Option.isSome_iff_exists.1 hc.1
  obtain ⟨n,hn,b',hb',hlo,rfl⟩:=h.2 _ _ hx
  rw[hx] at hc
  refine ⟨n,hn,b',hb',b,hb,hlo, ?_⟩
  have h2:=hc.2
  simp only[Option.getD_some,Bool.or_eq_true,decide_eq_true_eq] at h2
  rcases h2 with (h2|h2)|h2
  ·exact .inl h2
  ·exact .inr (.inl h2)
  exact .inr (.inr h2)
 rintro ⟨n,hn,b',hb',b,hb,hlo,hd⟩
 refine ⟨b,hb, ?_⟩
 have hx:=h.1 n hn b' hb'
 rw[hlo] at hx
 rw[clashB,hx]
 simp only[Option.isSome_some,Bool.true_and,Option.getD_some,Bool.or_eq_true,decide_eq_true_eq]
 rcases hd with hd|hd|hd
 ·exact .inl (.inl hd)
 ·exact .inl (.inr hd)
 exact .inr hd
theorem clash_any{F:List ByteArray}{f:Tab}(h:TabOf F f)(s:ByteArray):clashP f s=F.any (fun n=>clR n s):=by
 rw[Bool.eq_iff_iff,clash_iff h,List.any_eq_true]
 constructor
 ·rintro ⟨n,hn,hc⟩;exact ⟨n,hn,(clR_iff _ n s (Nat.le_refl _)).2 hc⟩
 rintro ⟨n,hn,hc⟩;exact ⟨n,hn,(clR_iff _ n s (Nat.le_refl _)).1 hc⟩
theorem fold_other{s r:ByteArray}: ∀(l:List ByteArray) (f:Tab),(∀b,b∈l→lowP b≠r)→l.foldl (fun f b=>putT f (lowP b) (b,decide (b=s))) f r=f r
 |[],_,_=>rfl
 |c::l,f,h=>by
  rw[List.foldl_cons,fold_other l _ (fun b hb=>h b (List.mem_cons_of_mem _ hb)),putT,if_neg (fun e=>h c (by simp) e.symm)]
theorem fold_same{s:ByteArray}: ∀(l:List ByteArray) (f:Tab),(∀b,b∈l→ ∀b',b' ∈l→lowP b=lowP b' →b=b')→ ∀b,b∈l→l.foldl (fun f b=>putT f (lowP b) (b,decide (b=s))) f (lowP b)=some (b,decide (b=s))
 |[],_,_,_,h=>by cases h
 |c::l,f,h,b,hb=>by
  rw[List.foldl_cons]
  by_cases hl:b∈l
  ·exact fold_same l _ (fun x hx y hy=>h x (List.mem_cons_of_mem _ hx) y (List.mem_cons_of_mem _ hy)) b hl
  have hbc:b=c:=by
   rcases List.mem_cons.1 hb with e|e
   ·exact e
   exact absurd e hl
  subst hbc
  rw[fold_other l _ (fun x hx e=>hl (h x (List.mem_cons_of_mem _ hx) b (by simp) e ▸ hx)),putT,if_pos rfl]
theorem TabOf.add{F:List ByteArray}{f:Tab}(h:TabOf F f){s:ByteArray}(hc:clashP f s=false):TabOf (F++[s]) (addP f s):=by
 have hs:=fold_same (s:=s) (begP s) f (fun b hb b' hb' e=>beg_low hb hb' e)
 have hcl: ∀b,b∈begP s→clashB f s b=false:=by
  intro b hb
  rw[clashP,List.any_eq_false] at hc
  simpa using hc b hb
 constructor
 ·intro n hn b hb
  rcases List.mem_append.1 hn with hn|hn
  ·by_cases hx: ∃b2,b2∈begP s∧lowP b2=lowP b
   ·obtain ⟨b2,hb2,e⟩:=hx
    have h1:=hs b2 hb2
    have h2:=hcl b2 hb2
    have h3:=h.1 n hn b hb
    rw[clashB,e,h3] at h2
    simp only[Option.isSome_some,Bool.true_and,Option.getD_some,Bool.or_eq_false_iff,decide_eq_false_iff_not,Classical.not_not,ne_eq] at h2
    obtain ⟨⟨e1,e2⟩,e3⟩:=h2
    rw[addP,←e,h1,e1,decide_eq_false e3]
    rw[e1] at e2
    rw[decide_eq_false e2]
   have:=fold_other (s:=s) (begP s) f (r:=lowP b) (fun b2 hb2 e=>hx ⟨b2,hb2,e⟩)
   rw[addP,this]
   exact h.1 n hn b hb
  rw[List.mem_singleton] at hn
  subst hn
  exact hs b hb
 intro r x hx
 by_cases hb: ∃b,b∈begP s∧lowP b=r
 ·obtain ⟨b,hb,rfl⟩:=hb
  rw[addP,hs b hb] at hx
  injection hx with hx
  exact ⟨s,by simp,b,hb,rfl,hx.symm⟩
 rw[addP,fold_other (begP s) f (fun b2 hb2 e=>hb ⟨b2,hb2,e⟩)] at hx
 obtain ⟨n,hn,y⟩:=h.2 r x hx
 exact ⟨n,List.mem_append_left _ hn,y⟩
theorem clB_self(s:ByteArray):clB s s:=⟨s,beg_ne s,s,beg_ne s,rfl,.inr (.inl rfl)⟩
def dfault(fs:List Fl)(all:Nat)(e:Ent):Nat:=if fs.any (fun f=>clR f.1 e.nm) then 5 else if (decide (e.nm≠sGo)&&decide (lowP e.nm=sGo)) then 4 else if mostP e.nm<e.dt.size then 1 else if 60<fs.length+1 then 6 else if 16000<all+e.dt.size then 1 else 0
def OkTo(T:List Ent)(i:Nat):Prop:= ∀j,j<i→whyP (nestL T) (T.getD j ent0)=0→cfault (cgo (nestL T) (T.take j)) (T.getD j ent0)=0
structure Good (s:CSt):Prop where
 tab:TabOf (s.fs.map (·.1)) s.tb
 few:s.fs.length≤60
 dif:s.fs.Pairwise (fun a b=>a.1≠b.1)
 small:s.all≤16000
theorem Good.dfault{s:CSt}(h:Good s)(e:Ent):dfault s.fs s.all e=cfault s e:=by
 rw[Go.Proofs.YtndfmgdhiallpaaGreatDoor.dfault,cfault,clash_any h.tab,List.any_map]
 have h6:=h.few
 have e6:(60<s.fs.length+1)=(s.fs.length=60):=by apply propext;omega
 simp only[e6]
 rfl
theorem Good.step{s:CSt}(h:Good s){L:List ByteArray}{e:Ent}(hf:whyP L e=0→cfault s e=0):Good (cstep L s e):=by
 rw[cstep]
 split
 ·rename_i hw
  obtain ⟨h1,h2,h3,h4,h5⟩:=cfault_ok (hf hw)
  have h6:=h.few
  refine ⟨?_,by simp;omega, ?_,h5⟩
  ·show TabOf ((s.fs++[(e.nm,e.dt)]).map (·.1)) _
   rw[List.map_append]
   exact h.tab.add h1
  show List.Pairwise _ (s.fs++[(e.nm,e.dt)])
  refine List.pairwise_append.2 ⟨h.dif,List.pairwise_singleton _ _,fun a ha b hb e2=> ?_⟩
  rw[List.mem_singleton] at hb
  subst hb
  have:clashP s.tb e.nm=true:=(clash_iff h.tab _).2 ⟨a.1,List.mem_map.2 ⟨a,ha,rfl⟩,by rw[e2];exact clB_self _⟩
  rw[h1] at this;cases this
 exact ⟨h.tab,h.few,h.dif,h.small⟩
theorem good_to(T:List Ent): ∀i,i≤T.length→OkTo T i→Good (cgo (nestL T) (T.take i))
 |0,_,_=>⟨TabOf.nil,Nat.zero_le _,List.Pairwise.nil,Nat.zero_le _⟩
 |i+1,hi,h=>by
  rw[cgo_next _ T i (by omega)]
  exact (good_to T i (by omega) (fun j hj=>h j (by omega))).step (h i (by omega))
theorem cok_good{T:List Ent}(h:COk T):Good (cgo (nestL T) T):=by
 have:=good_to T T.length (Nat.le_refl _) h
 rwa [List.take_length] at this
theorem wp_at{P:Program}{c:Code}{Q:Exit→Act→World→Prop}{a:Act}{W:World}(R:World→Prop)(hR:R W)(h: ∀W',R W' →c.wp P Q a W'):c.wp P Q a W:=h W hR
theorem clL_same{X Y:List ByteArray}{i:Nat}(hx:i<X.length)(hy:i<Y.length)(h:X[i]=Y[i]):clL (X.drop i) (Y.drop i)=clL (X.drop (i+1)) (Y.drop (i+1)):=by
 rw[List.drop_eq_getElem_cons hx,List.drop_eq_getElem_cons hy,clL,if_pos h]
theorem clL_diff{X Y:List ByteArray}{i:Nat}(hx:i<X.length)(hy:i<Y.length)(h:X[i]≠Y[i]):clL (X.drop i) (Y.drop i)=decide (lowP X[i]=lowP Y[i]):=by
 rw[List.drop_eq_getElem_cons hx,List.drop_eq_getElem_cons hy,clL,if_neg h]
theorem clL_end{X Y:List ByteArray}{i:Nat}(h:¬(i<X.length∧i<Y.length)):clL (X.drop i) (Y.drop i)=true:=by
 by_cases hx:i<X.length
 ·rw[List.drop_of_length_le (l:=Y) (by omega)]
  cases X.drop i<;>rfl
 rw[List.drop_of_length_le (l:=X) (by omega)];rfl
theorem clashC(a b:ByteArray)(ha:a.size≤2000000)(hb:b.size≤2000000)(w:World):Calls Tryz.prog 199 #[.string a,.string b] w fun r w' =>r=.returned (.bool (clR a b))∧Old w w' :=by
 have HD:Hid (clR a b=clL ((partsR a 47).drop 0) ((partsR b 47).drop 0)):=rfl
 have H1:=hide (partsC a 47 ha w)
 have H2:=hide (fun W=>partsC b 47 hb W)
 have HM1:Hid (∀x∈partsR a 47,x.size≤2000000):=fun x hx=>Nat.le_trans (partsR_mem hx) ha
 have HM2:Hid (∀x∈partsR b 47,x.size≤2000000):=fun x hx=>Nat.le_trans (partsR_mem hx) hb
 have hlx:=partsR_len a 47
 have hly:=partsR_len b 47
 generalize clR a b=ans at*
 generalize partsR a 47=X at*
 generalize partsR b 47=Y at*
 go_in
 go_wp2_with fail
 refine (uh H1).mono ?_
 rintro e w1 ⟨v,rfl,hst,ho⟩
 have HS1:=hide hst
 have HO1:=hide ho
 obtain ⟨ao,capx,hv, -, -⟩:=hst
 subst hv
 clear ho H1
 go_wp2_with fail
 refine (uh H2 w1).mono ?_
 rintro e w2 ⟨v,rfl,hst,ho⟩
 have HX:=hide ((uh HS1).old ho)
 have HY:=hide hst
 have HO:=hide ((uh HO1).trans ho)
 obtain ⟨bo,capy,hv, -, -⟩:=hst
 subst hv
 clear ho H2 HS1 HO1
 go_wp2_with fail
 go_loopw [7] (fun x wr=> ∃i:Nat,i≤X.length∧i≤Y.length∧x=.int .i64 i∧Hid (ans=clL (X.drop i) (Y.drop i))∧Hid (Strs w wr (.slice ao X.length capx) X)∧Hid (Strs w1 wr (.slice bo Y.length capy) Y)∧Hid (Old w wr)) (fun x _=>X.length- (intOf x).toNat)
 ·exact ⟨0,by omega,by omega,rfl,HD,HX,HY,HO⟩
 obtain ⟨i,hix,hiy,rfl,HD,HX,HY,HO⟩:=hrel
 by_cases hx:i<X.length
 ·have hxI:(i:Int)<(X.length:Int):=by omega
  by_cases hy:i<Y.length
  ·have hyI:(i:Int)<(Y.length:Int):=by omega
   obtain ⟨gx,cx,hv,hcx,hgx, -⟩:=(uh HX).cell i hx
   injection hv with hv1 hv2 hv3
   subst hv1 hv3
   obtain ⟨gy,cy,hv,hcy,hgy, -⟩:=(uh HY).cell i hy
   injection hv with hv1 hv2 hv3
   subst hv1 hv3
   have HE:=hide (clL_same hx hy)
   have HF:=hide (clL_diff hx hy)
   have HLX:=hide (fun W=>lowC X[i] (Nat.le_trans (uh HM1 _ (List.getElem_mem hx)) (by omega)) W)
   have HLY:=hide (fun W=>lowC Y[i] (Nat.le_trans (uh HM2 _ (List.getElem_mem hy)) (by omega)) W)
   have f1:=eqS X[i] Y[i]
   generalize X[i]=x at*
   generalize Y[i]=y at*
   by_cases hxy:x=y
   ·rw[decide_eq_true hxy] at f1
    have HD2:=hide ((uh HD).trans (uh HE hxy))
    clear HE HF HLX HLY HD hxy
    go_wp2_with fail
    go_quiet (fail)
    go_wp2_with fail
    go_roundw
    ·exact ⟨i+1,by omega,by omega,by go_num,HD2,HX,HY,(uh HO).drewN _⟩
    case measure=>simp[intOf];omega
   rw[decide_eq_false hxy] at f1
   have f2:=eqS (lowP x) (lowP y)
   have hans:ans=decide (lowP x=lowP y):=(uh HD).trans (uh HF hxy)
   rw[←hans] at f2
   clear HE HF HD hxy hans
   generalize lowP x=lx at*
   generalize lowP y=ly at*
   have HS3: ∀W W' :World,(W.cell? ⟨gx,i,none⟩=some (.string x)∧W.cell? ⟨gy,i,none⟩=some (.string y)∧Old wr W)→Old W W' →(W'.cell? ⟨gx,i,none⟩=some (.string x)∧W'.cell? ⟨gy,i,none⟩=some (.string y)∧Old wr W'):=fun W W' h ho=>by
    have hz:=h.2.2.size
    exact ⟨(ho.cell (p:=⟨gx,i,none⟩) (Nat.lt_of_lt_of_le hgx hz) (fun e=>e)).trans h.1,(ho.cell (p:=⟨gy,i,none⟩) (Nat.lt_of_lt_of_le hgy hz) (fun e=>e)).trans h.2.1,h.2.2.trans ho⟩
   go_wp2_with fail
   go_quiet (fail)
   go_wp2_with fail
   refine wp_at (R:=fun V=>V.cell? ⟨gx,i,none⟩=some (.string x)∧V.cell? ⟨gy,i,none⟩=some (.string y)∧Old wr V) ⟨hcx,hcy,(Only.refl _ wr).drewN _⟩ ?_
   rintro V ⟨hvx,hvy,hvo⟩
   have HSW:V.drew.cell? ⟨gx,i,none⟩=some (.string x)∧V.drew.cell? ⟨gy,i,none⟩=some (.string y)∧Old wr V.drew:=⟨hvx,hvy,hvo.drew⟩
   clear hcx hcy hvx hvy hvo
   refine wp_region_last (S:=fun W=>W.cell? ⟨gx,i,none⟩=some (.string x)∧W.cell? ⟨gy,i,none⟩=some (.string y)∧Old wr W) (L:=11) (by kernel_rfl) ?_
   refine tk 0 12 (.slice (some ⟨gx,0,none⟩) X.length capx) 33 HSW ?_
   refine tk 1 12 (.int .i64 (i:Int)) 34 HSW ?_
   refine tk 2 12 (.pointer (some ⟨gx,i,none⟩)) 35 HSW ?_
   refine tk 3 12 (.string x) 36 HSW ?_
   refine tk 5 12 (.slice (some ⟨gy,0,none⟩) Y.length capy) 38 HSW ?_
   refine tk 6 12 (.int .i64 (i:Int)) 39 HSW ?_
   refine tk 7 12 (.pointer (some ⟨gy,i,none⟩)) 40 HSW ?_
   refine tk 8 12 (.string y) 41 HSW ?_
   refine wpAnyL_one (i:=4) (by kernel_rfl) ?_
   refine wpOp_step rfl (fun K' hK=> ?_)
   go_simp
   refine (uh HLX _).mono ?_
   rintro r w2 ⟨rfl,ho2⟩
   have hs2:=HS3 _ _ HSW ho2
   refine hK _ _ ⟨fun _=>hs2, ?_⟩
   clear hK
   refine wpAnyL_one (i:=9) (by kernel_rfl) ?_
   refine wpOp_step rfl (fun K' hK=> ?_)
   go_simp
   refine (uh HLY _).mono ?_
   rintro r w3 ⟨rfl,ho3⟩
   have hs3:=HS3 _ _ hs2 ho3
   refine hK _ _ ⟨fun _=>hs3, ?_⟩
   clear hK
   refine wpAnyL_one (i:=10) (by kernel_rfl) ?_
   refine wpOp_step rfl (fun K' hK=> ?_)
   go_simp
   refine hK _ _ ⟨fun _=>hs3, ?_⟩
   clear hK
   refine wpAnyL_one (i:=11) (by kernel_rfl) ?_
   refine wpOp_step rfl (fun K' hK=> ?_)
   go_simp
   refine hK _ _ ⟨fun h=>absurd rfl h, ?_⟩
   clear hK
   refine wpAnyL_done (by kernel_rfl) ?_
   have HOZ:=hide (uh HO|>.trans hs3.2.2)
   clear HSW HS3 hs3 HX HY
   go_wp2_with fail
   go_ret
   exact ⟨rfl,uh HOZ⟩
  have hyI:¬(i:Int)<(Y.length:Int):=by omega
  have hans:ans=true:=by rw[uh HD];exact clL_end (fun h=>hy h.2)
  subst hans
  go_wp2_with fail
  go_ret
  exact ⟨rfl,uh HO⟩
 have hxI:¬(i:Int)<(X.length:Int):=by omega
 have hans:ans=true:=by rw[uh HD];exact clL_end (fun h=>hx h.1)
 subst hans
 go_wp2_with fail
 go_ret
 exact ⟨rfl,uh HO⟩
end Go.Proofs.YtndfmgdhiallpaaGreatDoor
