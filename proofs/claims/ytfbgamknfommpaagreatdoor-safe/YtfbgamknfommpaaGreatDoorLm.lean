import Derived.Test.YtfbgamknfommpaaGreatDoorJv
namespace Go.Proofs.YtfbgamknfommpaaGreatDoor
open Go.RowKit Go.Maps
def numX:List UInt8→Nat
 |[]=>0
 |b::r=>b.toNat+256*numX r
theorem xor_parts(i a b c d:Nat)(ha:a<2^i)(hc:c<2^i):(a+2^i*b)^^^(c+2^i*d)=(a^^^c)+2^i*(b^^^d):=by
 have hx:a^^^c<2^i:=Nat.xor_lt_two_pow ha hc
 apply Nat.eq_of_testBit_eq
 intro j
 rw[Nat.testBit_xor,Nat.add_comm a,Nat.add_comm c,Nat.add_comm (a^^^c),Nat.testBit_two_pow_mul_add b ha,Nat.testBit_two_pow_mul_add d hc,Nat.testBit_two_pow_mul_add _ hx]
 split<;>rw[Nat.testBit_xor]
theorem numX_set: ∀(l:List UInt8) (j:Nat) (c:UInt8) (h:j<l.length),numX (l.set j c)=numX l^^^(((l[j]).toNat^^^c.toNat)*2^(8*j))
 |b::r,0,c,h=>by
  have hb:b.toNat<2^8:=b.toNat_lt
  have hc:c.toNat<2^8:=c.toNat_lt
  have hx:b.toNat^^^c.toNat<2^8:=Nat.xor_lt_two_pow hb hc
  rw[List.set_cons_zero,numX,numX,List.getElem_cons_zero,Nat.mul_zero,Nat.pow_zero,Nat.mul_one]
  have e:=xor_parts 8 b.toNat (numX r) (b.toNat^^^c.toNat) 0 hb hx
  rw[Nat.mul_zero,Nat.add_zero,Nat.xor_zero,←Nat.xor_assoc b.toNat b.toNat,Nat.xor_self,Nat.zero_xor] at e
  exact e.symm
 |b::r,j+1,c,h=>by
  have hb:b.toNat<2^8:=b.toNat_lt
  rw[List.set_cons_succ,numX,numX,List.getElem_cons_succ,numX_set r j c (by simpa using h)]
  have e:=xor_parts 8 b.toNat (numX r) 0 (((r[j]'(by simpa using h)).toNat^^^c.toNat)*2^(8*j)) hb (by decide)
  rw[Nat.zero_add,Nat.xor_zero] at e
  rw[show 8*(j+1)=8+8*j by omega,Nat.pow_add,Nat.mul_left_comm]
  exact e.symm
def Burst(n:Nat):Prop:= ∃D k,n=D*2^k∧D≠0∧D<4294967296
theorem Burst.down{m n:Nat}(h:Burst (2^m*n)):Burst n:=by
 obtain ⟨D,k,e,h0,hD⟩:=h
 rcases Nat.lt_or_ge k m with hk|hk
 ·refine ⟨n,0,by rw[Nat.pow_zero,Nat.mul_one], ?_, ?_⟩
  ·intro hn
   rw[hn,Nat.mul_zero] at e
   exact absurd e.symm (Nat.mul_ne_zero h0 (Nat.pos_iff_ne_zero.1 (Nat.two_pow_pos k)))
  obtain ⟨j,rfl⟩: ∃j,m=k+j:=⟨m- k,by omega⟩
  rw[Nat.pow_add,Nat.mul_assoc,Nat.mul_comm D] at e
  have e2:=Nat.eq_of_mul_eq_mul_left (Nat.two_pow_pos k) e
  have h1:n≤2^j*n:=Nat.le_mul_of_pos_left _ (Nat.two_pow_pos j)
  omega
 obtain ⟨j,rfl⟩: ∃j,k=m+j:=⟨k- m,by omega⟩
 refine ⟨D,j, ?_,h0,hD⟩
 rw[Nat.pow_add,Nat.mul_left_comm] at e
 exact Nat.eq_of_mul_eq_mul_left (Nat.two_pow_pos m) e
theorem endL_len(c z a:Nat):(endL c z a).length=22:=by simp[endL,leAll,leB,sL]
theorem readP_of{p s:ByteArray}{its:List It}(h:readP p s=some its):readGo p (s.size+1) s []=some its∧strB (laidL p its)=s:=by
 unfold readP at h
 split at h
 ·cases h
 rename_i out ho
 split at h
 ·rename_i e
  injection h with h
  rw[←h];exact ⟨ho,e⟩
 cases h
theorem locs_len(p:ByteArray)(its:List It):its.length*30≤(locsL p its).length:=by
 induction its with
 |nil=>simp
 |cons a r ih=>
  have e:locsL p (a::r)=localL p a++locsL p r:=by simp[locsL]
  rw[e,List.length_append,List.length_cons]
  have h2:30≤(localL p a).length:=by obtain ⟨_,_,_,_,_⟩:=a;rw[localL_len];omega
  omega
theorem laidL_form(p:ByteArray)(its:List It):laidL p its=locsL p its++(centsN p its its.length++endL its.length (centsN p its its.length).length (locsL p its).length):=by rw[laidL,List.append_assoc]
theorem laidL_len(p:ByteArray)(its:List It):(laidL p its).length=(locsL p its).length+(centsN p its its.length).length+22:=by
 rw[laidL,List.length_append,List.length_append,endL_len]
structure Plain (p:ByteArray) (its:List It):Prop where
 rd: ∀i∈its,ItRd p i
 rise:Rising its
 len:its.length≤60
 plain: ∀i∈its,i.way=0∧i.check=checkOf i.packed∧i.size=i.packed.size
 size:(laidL p its).length≤40000
theorem Plain.go{p:ByteArray}{its:List It}(h:Plain p its)(t:List UInt8)(ht:Lib.hasPrefix t mkL.data.toList=false):readGo p ((strB (locsL p its++t)).size+1) (strB (locsL p its++t)) []=some its:=by
 have h1:=locs_len p its
 have:=readGo_locs p t ht its [] ((strB (locsL p its++t)).size+1) h.rd (by rw[List.nil_append];exact h.rise) (by rw[List.nil_append];exact h.len) (by rw[strB_size,List.length_append];omega)
 rw[List.nil_append] at this
 exact this
theorem noL_app{t:List UInt8}(u:List UInt8)(ht:Lib.hasPrefix t mkL.data.toList=false)(hl:4≤t.length):Lib.hasPrefix (t++u) mkL.data.toList=false:=by
 match t,hl with
 |a::b::c::d::r,_=>exact ht
theorem Plain.more{p:ByteArray}{its:List It}(hP:Plain p its)(u:List UInt8)(hu:u≠[]):(unpP p (strB (laidL p its++u))).2≠0:=by
 unfold unpP
 split
 ·simp
 split
 ·simp
 rename_i jts hj
 exfalso
 obtain ⟨hgo,hlaid⟩:=readP_of hj
 have h1:=hP.go ((centsN p its its.length++endL its.length (centsN p its its.length).length (locsL p its).length)++u) (noL_app u (cents_noL p its _ _ _) (by rw[List.length_append,endL_len];omega))
 have e:locsL p its++((centsN p its its.length++endL its.length (centsN p its its.length).length (locsL p its).length)++u)=laidL p its++u:=by rw[laidL_form];simp only[List.append_assoc]
 rw[e,hgo] at h1
 injection h1 with h1
 have hbj:laidL p jts=laidL p its++u:=by have:=congrArg sL hlaid;rw[sL_strB,sL_strB] at this;exact this
 rw[h1] at hbj
 have:=congrArg List.length hbj
 rw[List.length_append] at this
 have:0<u.length:=List.length_pos_iff.2 hu
 omega
end Go.Proofs.YtfbgamknfommpaaGreatDoor
