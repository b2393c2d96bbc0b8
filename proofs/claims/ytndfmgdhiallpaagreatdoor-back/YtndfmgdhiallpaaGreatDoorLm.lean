import Derived.Test.YtndfmgdhiallpaaGreatDoorJv
namespace Go.Proofs.YtndfmgdhiallpaaGreatDoor
open Go.RowKit Go.Maps
theorem crcStep_form(v:Nat):crcStep v=v/2^^^(if v%2=1 then 3988292384 else 0):=by
 unfold crcStep;split
 ·rfl
 rw[Nat.xor_zero]
theorem xor_half(a b:Nat):(a^^^b)/2=a/2^^^b/2:=by
 have h:=Nat.shiftRight_xor_distrib (a:=a) (b:=b) (i:=1)
 simpa [Nat.shiftRight_eq_div_pow] using h
theorem crcStep_xor(a b:Nat):crcStep (a^^^b)=crcStep a^^^crcStep b:=by
 rw[crcStep_form,crcStep_form,crcStep_form,xor_half]
 have h:(a^^^b)%2=(a+b)%2:=by
  have h1:=Nat.testBit_xor a b 0
  simp only[Nat.testBit_zero] at h1
  rcases Nat.mod_two_eq_zero_or_one a with ha|ha<;>rcases Nat.mod_two_eq_zero_or_one b with hb|hb<;>rcases Nat.mod_two_eq_zero_or_one (a^^^b) with hc|hc<;>simp[ha,hb,hc] at h1<;>omega
 rcases Nat.mod_two_eq_zero_or_one a with ha|ha<;>rcases Nat.mod_two_eq_zero_or_one b with hb|hb
 ·have:(a^^^b)%2=0:=by omega
  simp[ha,hb,this]
 ·have:(a^^^b)%2=1:=by omega
  simp[ha,hb,this,Nat.xor_assoc]
 ·have:(a^^^b)%2=1:=by omega
  simp[ha,hb,this,Nat.xor_assoc,Nat.xor_comm]
  rw[←Nat.xor_assoc,←Nat.xor_assoc,Nat.xor_comm (a/2)]
 have:(a^^^b)%2=0:=by omega
 simp only[ha,hb,this,if_pos,if_neg (show ¬(0:Nat)=1 by omega),Nat.xor_zero]
 rw[Nat.xor_assoc,Nat.xor_comm (b/2),←Nat.xor_assoc 3988292384,Nat.xor_self,Nat.zero_xor]
theorem crcBits_xor(n:Nat): ∀a b:Nat,crcBits n (a^^^b)=crcBits n a^^^crcBits n b:=by
 induction n with
 |zero=>intro a b;rfl
 |succ n ih=>intro a b;rw[crcBits,crcBits,crcBits,crcStep_xor,ih]
theorem crcBits_add(m n:Nat): ∀v:Nat,crcBits (m+n) v=crcBits n (crcBits m v):=by
 induction m with
 |zero=>intro v;rw[Nat.zero_add];rfl
 |succ m ih=>intro v;rw[show m+1+n=(m+n)+1 by omega,crcBits,crcBits,ih]
theorem crcBits_shift(n:Nat): ∀v:Nat,crcBits n (v*2^n)=v:=by
 induction n with
 |zero=>intro v;rw[Nat.pow_zero,Nat.mul_one];rfl
 |succ n ih=>
  intro v
  have h:crcStep (v*2^(n+1))=v*2^n:=by
   have e:v*2^(n+1)=v*2^n*2:=by rw[Nat.pow_succ,Nat.mul_assoc]
   rw[e,crcStep_even (by omega)];omega
  rw[crcBits,h,ih]
theorem crcStep_ne{v:Nat}(h:v<4294967296)(h0:v≠0):crcStep v≠0:=by
 unfold crcStep
 split
 ·intro e
  have e2:v/2=3988292384:=by
   have e3:(v/2^^^3988292384)^^^3988292384=0^^^3988292384:=by rw[e]
   rw[Nat.xor_assoc,Nat.xor_self,Nat.xor_zero,Nat.zero_xor] at e3
   exact e3
  omega
 omega
theorem crcBits_ne(n:Nat): ∀{v:Nat},v<4294967296→v≠0→crcBits n v≠0:=by
 induction n with
 |zero=>intro v _ h;exact h
 |succ n ih=>intro v h h0;exact ih (crcStep_lt h) (crcStep_ne h h0)
def numX:List UInt8→Nat
 |[]=>0
 |b::r=>b.toNat+256*numX r
theorem numX_lt: ∀l:List UInt8,numX l<2^(8*l.length)
 |[]=>by decide
 |b::r=>by
  have h:=numX_lt r
  have hb:=b.toNat_lt
  rw[numX,List.length_cons,show 8*(r.length+1)=8*r.length+8 by omega,Nat.pow_add]
  show _<2^(8*r.length)*256
  omega
theorem xor_parts(i a b c d:Nat)(ha:a<2^i)(hc:c<2^i):(a+2^i*b)^^^(c+2^i*d)=(a^^^c)+2^i*(b^^^d):=by
 have hx:a^^^c<2^i:=Nat.xor_lt_two_pow ha hc
 apply Nat.eq_of_testBit_eq
 intro j
 rw[Nat.testBit_xor,Nat.add_comm a,Nat.add_comm c,Nat.add_comm (a^^^c),Nat.testBit_two_pow_mul_add b ha,Nat.testBit_two_pow_mul_add d hc,Nat.testBit_two_pow_mul_add _ hx]
 split<;>rw[Nat.testBit_xor]
theorem crcFold_num: ∀(l:List UInt8) (v:Nat),l.foldl crcByte v=crcBits (8*l.length) (v^^^numX l)
 |[],v=>by rw[numX,Nat.xor_zero];rfl
 |b::r,v=>by
  rw[List.foldl_cons,crcFold_num r,List.length_cons,show 8*(r.length+1)=8+8*r.length by omega,crcBits_add]
  congr 1
  have hb:b.toNat<2^8:=b.toNat_lt
  have e:numX (b::r)=b.toNat^^^numX r*2^8:=by
   have h:=xor_parts 8 b.toNat 0 0 (numX r) hb (by decide)
   rw[Nat.mul_zero,Nat.add_zero,Nat.zero_add,Nat.xor_zero,Nat.zero_xor] at h
   rw[numX,Nat.mul_comm (numX r)]
   exact h.symm
  rw[e,←Nat.xor_assoc,crcBits_xor,crcBits_shift]
  rfl
theorem crc_burst(x y:List UInt8)(hl:x.length=y.length)(k D:Nat)(h:numX x^^^numX y=D*2^k)(hD0:D≠0)(hD:D<4294967296):crcOf x≠crcOf y:=by
 intro e
 have h1:crcBits (8*x.length) (D*2^k)=0:=by
  rw[crcOf,crcOf,crcFold_num,crcFold_num,←hl] at e
  have e2:crcBits (8*x.length) ((4294967295^^^numX x)^^^(4294967295^^^numX y))=0:=by rw[crcBits_xor,e,Nat.xor_self]
  rw[←h]
  have e3:(4294967295^^^numX x)^^^(4294967295^^^numX y)=numX x^^^numX y:=by
   rw[Nat.xor_comm 4294967295 (numX x),Nat.xor_assoc,←Nat.xor_assoc 4294967295,Nat.xor_self,Nat.zero_xor]
  rw[e3] at e2;exact e2
 have h2:D*2^k<2^(8*x.length):=by
  rw[←h]
  exact Nat.xor_lt_two_pow (numX_lt x) (by rw[hl];exact numX_lt y)
 have h3:k<8*x.length:=by
  rcases Nat.lt_or_ge k (8*x.length) with h3|h3
  ·exact h3
  exfalso
  have h4:=Nat.pow_le_pow_right (show 0<2 by omega) h3
  have h5:2^k≤D*2^k:=Nat.le_mul_of_pos_left _ (by omega)
  omega
 obtain ⟨m,hm⟩: ∃m,8*x.length=k+m:=⟨8*x.length- k,by omega⟩
 rw[hm,crcBits_add,crcBits_shift] at h1
 exact crcBits_ne m hD hD0 h1
theorem numX_app: ∀a b:List UInt8,numX (a++b)=numX a+2^(8*a.length)*numX b
 |[],b=>by simp[numX]
 |x::a,b=>by
  rw[List.cons_append,numX,numX,numX_app a b,List.length_cons,show 8*(a.length+1)=8+8*a.length by omega,Nat.pow_add,Nat.mul_add,Nat.add_assoc,Nat.mul_assoc]
theorem numX_app_xor(a b c d:List UInt8)(h:a.length=c.length):numX (a++b)^^^numX (c++d)=(numX a^^^numX c)+2^(8*a.length)*(numX b^^^numX d):=by
 rw[numX_app,numX_app,←h]
 exact xor_parts _ _ _ _ _ (numX_lt a) (by rw[h];exact numX_lt c)
theorem numX_inj: ∀a b:List UInt8,a.length=b.length→numX a=numX b→a=b
 |[],[],_,_=>rfl
 |x::a,y::b,hl,h=>by
  rw[numX,numX] at h
  have hx:=x.toNat_lt
  have hy:=y.toNat_lt
  have h1:x.toNat=y.toNat:=by omega
  have h2:numX a=numX b:=by omega
  rw[UInt8.toNat_inj.1 h1,numX_inj a b (by simpa using hl) h2]
theorem numX_set: ∀(l:List UInt8) (j:Nat) (c:UInt8) (h:j<l.length),numX (l.set j c)=numX l^^^(((l[j]).toNat^^^c.toNat)*2^(8*j))
 |b::r,0,c,h=>by
  have hb:b.toNat<2^8:=b.toNat_lt
  have hc:c.toNat<2^8:=c.toNat_lt
  have hx:b.toNat^^^c.toNat<2^8:=Nat.xor_lt_two_pow hb hc
  rw[List.set_cons_zero,numX,numX,List.getElem_cons_zero,Nat.mul_zero,Nat.pow_zero,Nat.mul_one]
  have e:=xor_parts 8 b.toNat (numX r) (b.toNat^^^c.toNat) 0 hb hx
  rw[Nat.mul_zero,Nat.add_zero,Nat.xor_zero,←Nat.xor_assoc b.toNat b.toNat,Nat.xor_self,Nat.zero_xor] at e
  exact e.symm
 |b::r,j+1,c,h=>by
  have hb:b.toNat<2^8:=b.toNat_lt
  rw[List.set_cons_succ,numX,numX,List.getElem_cons_succ,numX_set r j c (by simpa using h)]
  have e:=xor_parts 8 b.toNat (numX r) 0 (((r[j]'(by simpa using h)).toNat^^^c.toNat)*2^(8*j)) hb (by decide)
  rw[Nat.zero_add,Nat.xor_zero] at e
  rw[show 8*(j+1)=8+8*j by omega,Nat.pow_add,Nat.mul_left_comm]
  exact e.symm
def Burst(n:Nat):Prop:= ∃D k,n=D*2^k∧D≠0∧D<4294967296
theorem Burst.ne{n:Nat}(h:Burst n):n≠0:=by
 obtain ⟨D,k,rfl,h0,_⟩:=h
 exact Nat.mul_ne_zero h0 (Nat.pos_iff_ne_zero.1 (Nat.two_pow_pos k))
theorem Burst.down{m n:Nat}(h:Burst (2^m*n)):Burst n:=by
 obtain ⟨D,k,e,h0,hD⟩:=h
 rcases Nat.lt_or_ge k m with hk|hk
 ·refine ⟨n,0,by rw[Nat.pow_zero,Nat.mul_one], ?_, ?_⟩
  ·intro hn
   rw[hn,Nat.mul_zero] at e
   exact absurd e.symm (Nat.mul_ne_zero h0 (Nat.pos_iff_ne_zero.1 (Nat.two_pow_pos k)))
  obtain ⟨j,rfl⟩: ∃j,m=k+j:=⟨m- k,by omega⟩
  rw[Nat.pow_add,Nat.mul_assoc,Nat.mul_comm D] at e
  have e2:=Nat.eq_of_mul_eq_mul_left (Nat.two_pow_pos k) e
  have h1:n≤2^j*n:=Nat.le_mul_of_pos_left _ (Nat.two_pow_pos j)
  omega
 obtain ⟨j,rfl⟩: ∃j,k=m+j:=⟨k- m,by omega⟩
 refine ⟨D,j, ?_,h0,hD⟩
 rw[Nat.pow_add,Nat.mul_left_comm] at e
 exact Nat.eq_of_mul_eq_mul_left (Nat.two_pow_pos m) e
theorem Burst.win{s1 s2 b1 b2:List UInt8}(h:Burst (numX (b1++b2)^^^numX (s1++s2)))(hl:b1.length=s1.length)(hl2:b2.length=s2.length)(hne:b1≠s1):b2.drop 4=s2.drop 4:=by
 obtain ⟨D,k,e,h0,hD⟩:=h
 rw[numX_app_xor _ _ _ _ hl] at e
 have hx:numX b1^^^numX s1≠0:=by
  intro hx
  apply hne
  refine numX_inj _ _ hl ?_
  have e3:(numX b1^^^numX s1)^^^numX s1=0^^^numX s1:=by rw[hx]
  rw[Nat.xor_assoc,Nat.xor_self,Nat.xor_zero,Nat.zero_xor] at e3
  exact e3
 have hxl:numX b1^^^numX s1<2^(8*b1.length):=Nat.xor_lt_two_pow (numX_lt b1) (by rw[hl];exact numX_lt s1)
 generalize numX b1^^^numX s1=x at*
 have hk:k<8*b1.length:=by
  rcases Nat.lt_or_ge k (8*b1.length) with hk|hk
  ·exact hk
  exfalso
  obtain ⟨j,hj⟩: ∃j,k=8*b1.length+j:=⟨k- 8*b1.length,by omega⟩
  rw[hj,Nat.pow_add,Nat.mul_left_comm] at e
  have h1:(x+2^(8*b1.length)*(numX b2^^^numX s2))%2^(8*b1.length)=x:=by
   rw[Nat.add_mul_mod_self_left,Nat.mod_eq_of_lt hxl]
  rw[e,Nat.mul_mod_right] at h1
  exact hx h1.symm
 have hy:numX b2^^^numX s2<2^32:=by
  rcases Nat.lt_or_ge (numX b2^^^numX s2) (2^32) with h1|h1
  ·exact h1
  exfalso
  have h2:2^(8*b1.length)*2^32≤2^(8*b1.length)*(numX b2^^^numX s2):=Nat.mul_le_mul_left _ h1
  have h3:D*2^k<2^32*2^k:=Nat.mul_lt_mul_of_pos_right hD (Nat.two_pow_pos k)
  have h4:2^32*2^k≤2^32*2^(8*b1.length):=Nat.mul_le_mul_left _ (Nat.pow_le_pow_right (by omega) (by omega))
  rw[Nat.mul_comm (2^32) (2^(8*b1.length))] at h4
  omega
 rcases Nat.lt_or_ge b2.length 4 with h4|h4
 ·rw[List.drop_eq_nil_of_le (by omega),List.drop_eq_nil_of_le (by omega)]
 have e1:=numX_app_xor (b2.take 4) (b2.drop 4) (s2.take 4) (s2.drop 4) (by rw[List.length_take,List.length_take];omega)
 rw[List.take_append_drop,List.take_append_drop,List.length_take,Nat.min_eq_left h4] at e1
 have h5:numX (b2.drop 4)^^^numX (s2.drop 4)=0:=by
  rcases Nat.eq_zero_or_pos (numX (b2.drop 4)^^^numX (s2.drop 4)) with h5|h5
  ·exact h5
  exfalso
  have:2^(8*4)*1≤2^(8*4)*(numX (b2.drop 4)^^^numX (s2.drop 4)):=Nat.mul_le_mul_left _ h5
  omega
 refine numX_inj _ _ (by rw[List.length_drop,List.length_drop];omega) ?_
 have e3:(numX (b2.drop 4)^^^numX (s2.drop 4))^^^numX (s2.drop 4)=0^^^numX (s2.drop 4):=by rw[h5]
 rw[Nat.xor_assoc,Nat.xor_self,Nat.xor_zero,Nat.zero_xor] at e3
 exact e3
theorem numX_leB(v n:Nat):numX (leB v n)=v%2^(8*n):=by
 induction n with
 |zero=>rw[Nat.mul_zero,Nat.pow_zero,Nat.mod_one];rfl
 |succ n ih=>
  rw[leB_succ,numX_app,ih,leB_len]
  have h1:numX [b8 (v/2^(8*n)%256)]=v/2^(8*n)%256:=by
   rw[numX,numX,Nat.mul_zero,Nat.add_zero,b8_toNat (by omega)]
  rw[h1,show 8*(n+1)=8*n+8 by omega,Nat.pow_add]
  exact (Nat.mod_mul).symm
theorem leB_inj{v u n:Nat}(h:leB v n=leB u n)(hv:v<2^(8*n))(hu:u<2^(8*n)):v=u:=by
 have h1:=congrArg numX h
 rw[numX_leB,numX_leB,Nat.mod_eq_of_lt hv,Nat.mod_eq_of_lt hu] at h1
 exact h1
theorem app_inj{a b c d:List UInt8}(h:a++b=c++d)(hl:a.length=c.length):a=c∧b=d:=List.append_inj h hl
theorem endL_len(c z a:Nat):(endL c z a).length=22:=by simp[endL,leAll,leB,sL]
theorem endL_inj{c z a c' z' a' :Nat}(h:endL c z a=endL c' z' a')(h1:c<65536)(h2:z<4294967296)(h3:a<4294967296)(h1' :c' <65536)(h2' :z' <4294967296)(h3' :a' <4294967296):c=c' ∧z=z' ∧a=a' :=by
 unfold endL at h
 obtain ⟨h,_⟩:=app_inj h (by simp[leAll_len])
 obtain ⟨h,ha⟩:=app_inj h (by simp[leAll_len])
 obtain ⟨_,hb⟩:=app_inj h rfl
 simp only[leAll,List.flatMap_cons,List.flatMap_nil,List.append_nil] at ha hb
 obtain ⟨e2,e3⟩:=app_inj ha (by rw[leB_len,leB_len])
 obtain ⟨_,hb⟩:=app_inj hb rfl
 obtain ⟨_,hb⟩:=app_inj hb rfl
 obtain ⟨e1,_⟩:=app_inj hb (by rw[leB_len,leB_len])
 exact ⟨leB_inj e1 h1 h1',leB_inj e2 h2 h2',leB_inj e3 h3 h3'⟩
structure Same (a b:It):Prop where
 name:a.name=b.name
 way:a.way=b.way
 check:a.check=b.check
 size:a.size=b.size
 packed:a.packed.size=b.packed.size
structure FitL (p:ByteArray) (i:It):Prop where
 way:i.way<65536
 check:i.check<4294967296
 size:i.size<4294967296
 packed:i.packed.size<4294967296
 name:p.size+i.name.size<65536
theorem toldL_inj{p:ByteArray}{i j:It}(h:toldL p i=toldL p j)(hi:FitL p i)(hj:FitL p j):i.way=j.way∧i.check=j.check∧i.size=j.size∧i.packed.size=j.packed.size∧i.name.size=j.name.size:=by
 unfold toldL at h
 obtain ⟨h,hn⟩:=app_inj h (by simp[leAll_len])
 obtain ⟨ha,hb⟩:=app_inj h (by simp[leAll_len])
 simp only[leAll,List.flatMap_cons,List.flatMap_nil,List.append_nil] at ha hb hn
 obtain ⟨e5,_⟩:=app_inj hn (by rw[leB_len,leB_len])
 obtain ⟨e2,hb⟩:=app_inj hb (by rw[leB_len,leB_len])
 obtain ⟨e3,e4⟩:=app_inj hb (by rw[leB_len,leB_len])
 obtain ⟨_,ha⟩:=app_inj ha rfl
 obtain ⟨_,ha⟩:=app_inj ha rfl
 obtain ⟨e1,_⟩:=app_inj ha (by rw[leB_len,leB_len])
 have e5:=leB_inj e5 hi.name hj.name
 exact ⟨leB_inj e1 hi.way hj.way,leB_inj e2 hi.check hj.check,leB_inj e4 hi.size hj.size,leB_inj e3 hi.packed hj.packed,by omega⟩
theorem central_inj{p:ByteArray}{i j:It}{a b:Nat}{r t:List UInt8}(h:centralL p i a++r=centralL p j b++t)(hi:FitL p i)(hj:FitL p j):Same i j∧(centralL p i a).length=(centralL p j b).length:=by
 unfold centralL at h
 simp only[List.append_assoc] at h
 obtain ⟨_,h⟩:=app_inj h rfl
 obtain ⟨_,h⟩:=app_inj h rfl
 obtain ⟨h1,h⟩:=app_inj h (by rw[toldL_len,toldL_len])
 obtain ⟨_,h⟩:=app_inj h rfl
 obtain ⟨_,h⟩:=app_inj h (by rw[leAll_len,leAll_len];rfl)
 obtain ⟨e1,e2,e3,e4,e5⟩:=toldL_inj h1 hi hj
 obtain ⟨h2,_⟩:=app_inj h (by rw[sL_len,sL_len,ByteArray.size_append,ByteArray.size_append,e5])
 rw[sL_app,sL_app] at h2
 have h3:=List.append_cancel_left h2
 have h4:i.name=j.name:=by rw[←strB_sL i.name,h3,strB_sL]
 refine ⟨⟨h4,e1,e2,e3,e4⟩, ?_⟩
 unfold centralL
 simp only[List.length_append,toldL_len,leAll_len,sL_len,ByteArray.size_append,e5]
 rfl
theorem centsN_split(p:ByteArray)(its:List It)(i:Nat): ∀n,∃r,centsN p its (i+n)=centsN p its i++r
 |0=>⟨[],by rw[List.append_nil];rfl⟩
 |n+1=>by
  obtain ⟨r,hr⟩:=centsN_split p its i n
  exact ⟨r++centralL p (its.getD (i+n) itD) (locsL p (its.take (i+n))).length,by rw[show i+(n+1)=i+n+1 by omega,centsN_succ,hr,List.append_assoc]⟩
theorem cents_same{p:ByteArray}{its jts:List It}(n:Nat)(h:centsN p its n=centsN p jts n)(hi: ∀j,j<n→FitL p (its.getD j itD))(hj: ∀j,j<n→FitL p (jts.getD j itD)): ∀i,i≤n→(centsN p its i).length=(centsN p jts i).length∧ ∀j,j<i→Same (its.getD j itD) (jts.getD j itD):=by
 intro i
 induction i with
 |zero=>intro _;exact ⟨rfl,fun j hj=>by omega⟩
 |succ i ih=>
  intro hin
  obtain ⟨hl,hs⟩:=ih (by omega)
  obtain ⟨r,hr⟩:=centsN_split p its (i+1) (n- (i+1))
  obtain ⟨t,ht⟩:=centsN_split p jts (i+1) (n- (i+1))
  rw[show i+1+(n- (i+1))=n by omega] at hr ht
  rw[hr,ht,centsN_succ,centsN_succ,List.append_assoc,List.append_assoc] at h
  obtain ⟨_,h⟩:=app_inj h hl
  obtain ⟨h1,h2⟩:=central_inj h (hi i (by omega)) (hj i (by omega))
  refine ⟨by rw[centsN_succ,centsN_succ,List.length_append,List.length_append,hl,h2],fun j hji=> ?_⟩
  by_cases e:j=i
  ·rw[e];exact h1
  exact hs j (by omega)
theorem itemR_way{p s:ByteArray}{it:It}{b:ByteArray}(h:itemR p s=some (it,b)):it.way<65536:=by
 unfold itemR at h
 split at h
 ·cases h
 split at h
 ·cases h
 split at h
 ·cases h
 split at h
 ·cases h
 injection h with h
 injection h with ha hb
 rw[←ha]
 exact numL_lt s 8 2
theorem readGo_way{p:ByteArray}: ∀(n:Nat) (rest:ByteArray) (its out:List It),readGo p n rest its=some out→(∀i∈its,i.way<65536)→ ∀i∈out,i.way<65536
 |0,rest,its,out,h,_=>by cases h
 |n+1,rest,its,out,h,hk=>by
  unfold readGo at h
  split at h
  ·injection h with h;rw[←h];exact hk
  split at h
  ·cases h
  rename_i it b hit
  split at h
  ·cases h
  refine readGo_way n b _ out h ?_
  intro i hi
  rcases List.mem_append.1 hi with hi|hi
  ·exact hk i hi
  rw[List.mem_singleton] at hi;rw[hi];exact itemR_way hit
theorem readP_of{p s:ByteArray}{its:List It}(h:readP p s=some its):readGo p (s.size+1) s []=some its∧strB (laidL p its)=s:=by
 unfold readP at h
 split at h
 ·cases h
 rename_i out ho
 split at h
 ·rename_i e
  injection h with h
  rw[←h];exact ⟨ho,e⟩
 cases h
theorem getD_mem(its:List It)(j:Nat)(h:j<its.length):its.getD j itD∈its:=by
 rw[List.getD_eq_getElem?_getD,List.getElem?_eq_getElem h];exact List.getElem_mem h
def hdL(p:ByteArray)(i:It):List UInt8:=sL mkL++toldL p i++sL (p++i.name)
theorem hdL_same{p:ByteArray}{i j:It}(h:Same i j):hdL p i=hdL p j:=by
 unfold hdL toldL
 rw[h.name,h.way,h.check,h.size,h.packed]
theorem localL_hd(p:ByteArray)(i:It):localL p i=hdL p i++sL i.packed:=rfl
theorem hdL_mk(p:ByteArray)(i:It): ∃x,hdL p i=[80,75,3,4]++x:=⟨toldL p i++sL (p++i.name),by rw[hdL,List.append_assoc];rfl⟩
theorem take4_same{p:ByteArray}: ∀(its jts:List It) (R:List UInt8),its.length=jts.length→(locsL p jts++R).take 4=(locsL p its++R).take 4
 |[],[],R,_=>rfl
 |i::its,j::jts,R,_=>by
  have e: ∀k ks,locsL p (k::ks)=localL p k++locsL p ks:=fun k ks=>by simp[locsL]
  obtain ⟨x,hx⟩:=hdL_mk p i
  obtain ⟨y,hy⟩:=hdL_mk p j
  rw[e,e,localL_hd,localL_hd,hx,hy]
  rfl
theorem Burst.items{p:ByteArray}(R:List UInt8)(its:List It): ∀(jts:List It),its.length=jts.length→(∀j,j<its.length→Same (its.getD j itD) (jts.getD j itD))→Burst (numX (locsL p jts++R)^^^numX (locsL p its++R))→ ∃j,j<its.length∧crcOf (sL (jts.getD j itD).packed)≠crcOf (sL (its.getD j itD).packed):=by
 induction its with
 |nil=>
  intro jts hl _ h
  cases jts with
  |nil=>exact absurd (Nat.xor_self _) h.ne
  |cons _ _=>cases hl
 |cons i its IH=>
  intro jts hl hs h
  cases jts with
  |nil=>cases hl
  |cons j jts=>
   have e: ∀k ks,locsL p (k::ks)++R=hdL p k++(sL k.packed++(locsL p ks++R)):=fun k ks=>by simp[locsL,localL_hd]
   have h0:=hs 0 (by simp)
   simp only[List.getD_cons_zero] at h0
   rw[e,e,←hdL_same h0,numX_app_xor _ _ _ _ rfl,Nat.xor_self,Nat.zero_add] at h
   have h1:=h.down
   have hpl:(sL j.packed).length=(sL i.packed).length:=by rw[sL_len,sL_len,h0.packed]
   have hll:its.length=jts.length:=by simpa using hl
   by_cases hp:sL j.packed=sL i.packed
   ·rw[hp,numX_app_xor _ _ _ _ rfl,Nat.xor_self,Nat.zero_add] at h1
    obtain ⟨k,hk,hc⟩:=IH jts hll (fun k hk=>by have:=hs (k+1) (by simp;omega);simpa using this) h1.down
    exact ⟨k+1,by simp;omega,by simpa using hc⟩
   refine ⟨0,by simp, ?_⟩
   simp only[List.getD_cons_zero]
   have hll2: ∀(a b:List It),a.length=b.length→(∀j,j<a.length→Same (a.getD j itD) (b.getD j itD))→(locsL p b).length=(locsL p a).length:=by
    intro a
    induction a with
    |nil=>intro b hb _;cases b with
     |nil=>rfl
     |cons _ _=>cases hb
    |cons x a ih=>
     intro b hb hsb
     cases b with
     |nil=>cases hb
     |cons y b=>
      have e2: ∀k ks,locsL p (k::ks)=hdL p k++(sL k.packed++locsL p ks):=fun k ks=>by simp[locsL,localL_hd]
      have hxy:=hsb 0 (by simp)
      simp only[List.getD_cons_zero] at hxy
      rw[e2,e2,←hdL_same hxy,List.length_append,List.length_append,List.length_append,List.length_append,sL_len,sL_len,hxy.packed,ih b (by simpa using hb) (fun k hk=>by have:=hsb (k+1) (by simp;omega);simpa using this)]
   have hlR:(locsL p jts++R).length=(locsL p its++R).length:=by
    rw[List.length_append,List.length_append,hll2 its jts hll (fun k hk=>by have:=hs (k+1) (by simp;omega);simpa using this)]
   have hd:=h1.win hpl hlR hp
   have hR:locsL p jts++R=locsL p its++R:=by
    rw[←List.take_append_drop 4 (locsL p jts++R),hd,take4_same its jts R hll,List.take_append_drop]
   rw[hR,numX_app_xor _ _ _ _ hpl,Nat.xor_self,Nat.mul_zero,Nat.add_zero] at h1
   obtain ⟨D,k,e1,hD0,hD⟩:=h1
   exact crc_burst _ _ hpl k D e1 hD0 hD
theorem unpGo_fault: ∀(its:List It) (acc:List Fl) (j:Nat),j<its.length→(datI (its.getD j itD)).2≠0→(unpGo its acc).2≠0
 |i::its,acc,0,_,h=>by
  rw[unpGo,if_neg (by simpa using h)]
  simpa using h
 |i::its,acc,j+1,hj,h=>by
  rw[unpGo]
  by_cases h0:(datI i).2=0
  ·rw[if_pos h0]
   exact unpGo_fault its _ j (by simpa using hj) (by simpa using h)
  rw[if_neg h0];exact h0
theorem locs_len(p:ByteArray)(its:List It):its.length*30≤(locsL p its).length:=by
 induction its with
 |nil=>simp
 |cons a r ih=>
  have e:locsL p (a::r)=localL p a++locsL p r:=by simp[locsL]
  rw[e,List.length_append,List.length_cons]
  have h2:30≤(localL p a).length:=by obtain ⟨_,_,_,_,_⟩:=a;rw[localL_len];omega
  omega
theorem cents_mk(p:ByteArray)(its:List It)(h:0<its.length): ∃x,centsN p its its.length=[80,75,1,2]++x∧42≤x.length:=by
 obtain ⟨r,hr⟩:=centsN_split p its 1 (its.length- 1)
 rw[show 1+(its.length- 1)=its.length by omega] at hr
 have h1:centsN p its 1=centralL p (its.getD 0 itD) (locsL p (its.take 0)).length:=by
  rw[show 1=0+1 from rfl,centsN_succ];rfl
 refine ⟨leAll [20] 2++toldL p (its.getD 0 itD)++leAll [0,0,0] 2++leAll [0,(locsL p (its.take 0)).length] 4++sL (p++(its.getD 0 itD).name)++r, ?_, ?_⟩
 ·rw[hr,h1,centralL]
  simp only[List.append_assoc]
  rfl
 simp only[List.length_append,leAll_len,toldL_len]
 show 42≤1*2+26+3*2+2*4+_+_
 omega
theorem laidL_form(p:ByteArray)(its:List It):laidL p its=locsL p its++(centsN p its its.length++endL its.length (centsN p its its.length).length (locsL p its).length):=by rw[laidL,List.append_assoc]
theorem laidL_len(p:ByteArray)(its:List It):(laidL p its).length=(locsL p its).length+(centsN p its its.length).length+22:=by
 rw[laidL,List.length_append,List.length_append,endL_len]
theorem ends_same{p:ByteArray}{its jts:List It}{x:List UInt8}(h:laidL p jts=x++endL its.length (centsN p its its.length).length (locsL p its).length)(h40:(laidL p its).length≤40000)(h40' :(laidL p jts).length≤40000)(hl:its.length≤60)(hl' :jts.length≤60):jts.length=its.length∧(centsN p jts jts.length).length=(centsN p its its.length).length∧(locsL p jts).length=(locsL p its).length:=by
 rw[laidL_len] at h40 h40'
 rw[laidL] at h
 have h1:=(List.append_inj' h (by rw[endL_len,endL_len])).2
 exact endL_inj h1 (by omega) (by omega) (by omega) (by omega) (by omega) (by omega)
theorem fit_ok{p:ByteArray}{its:List It}(hp:p.size≤1000)(h: ∀i∈its,i.ok∧i.way<65536): ∀j,j<its.length→FitL p (its.getD j itD):=by
 intro j hj
 obtain ⟨⟨h1,h2,h3,h4,h5⟩,h6⟩:=h _ (getD_mem its j hj)
 exact ⟨h6,h2,h3,by omega,by omega⟩
theorem fit_rd{p:ByteArray}{its:List It}(h: ∀i∈its,ItRd p i): ∀j,j<its.length→FitL p (its.getD j itD):=by
 intro j hj
 obtain ⟨h1,h2,h3,h4,h5⟩:=h _ (getD_mem its j hj)
 exact ⟨by rcases h1 with h1|h1<;>rw[h1]<;>omega,h2,h3,h4,h5⟩
structure Plain (p:ByteArray) (its:List It):Prop where
 rd: ∀i∈its,ItRd p i
 rise:Rising its
 len:its.length≤60
 plain: ∀i∈its,i.way=0∧i.check=checkOf i.packed∧i.size=i.packed.size
 size:(laidL p its).length≤40000
theorem Plain.go{p:ByteArray}{its:List It}(h:Plain p its)(t:List UInt8)(ht:Lib.hasPrefix t mkL.data.toList=false):readGo p ((strB (locsL p its++t)).size+1) (strB (locsL p its++t)) []=some its:=by
 have h1:=locs_len p its
 have:=readGo_locs p t ht its [] ((strB (locsL p its++t)).size+1) h.rd (by rw[List.nil_append];exact h.rise) (by rw[List.nil_append];exact h.len) (by rw[strB_size,List.length_append];omega)
 rw[List.nil_append] at this
 exact this
theorem Plain.turned{p:ByteArray}{its:List It}(hP:Plain p its)(hp:p.size≤1000)(b:List UInt8)(hb:b.length=(laidL p its).length)(h:Burst (numX b^^^numX (laidL p its))):(unpP p (strB b)).2≠0:=by
 have h40:=hP.size
 have hb40:(strB b).size≤40000:=by rw[strB_size,hb];exact h40
 unfold unpP
 rw[if_neg (by omega)]
 split
 ·simp
 rename_i jts hj
 obtain ⟨hgo,hlaid⟩:=readP_of hj
 obtain ⟨jok,jl⟩:=readP_ok hj hb40
 have jway:=readGo_way _ _ _ _ hgo (fun i hi=>by cases hi)
 have hbj:laidL p jts=b:=by have:=congrArg sL hlaid;rw[sL_strB,sL_strB] at this;exact this
 have h40j:(laidL p jts).length≤40000:=by rw[hbj,hb];exact h40
 have hne:b≠laidL p its:=by
  intro e
  rw[e,Nat.xor_self] at h
  exact h.ne rfl
 have hnei:jts≠its:=by
  intro e
  rw[e] at hbj
  exact hne hbj.symm
 have hlen:=laidL_len p its
 rcases Nat.eq_zero_or_pos its.length with h0|h0
 ·exfalso
  have e:its=[]:=List.length_eq_zero_iff.1 h0
  have h1:=locs_len p jts
  have h2:=laidL_len p jts
  rw[hbj,hb,e] at h2
  have h3:(laidL p []).length=22:=by rw[laidL_len];rfl
  have h4:jts=[]:=List.length_eq_zero_iff.1 (by omega)
  exact hnei (by rw[h4,e])
 obtain ⟨x,hx,hxl⟩:=cents_mk p its h0
 have hform:=laidL_form p its
 have hjform:=laidL_form p jts
 have hsub: ∀(h1:jts.length=its.length) (_:(locsL p jts).length=(locsL p its).length),∃y,b.drop (locsL p its).length=[80,75,1,2]++(y++endL jts.length (centsN p jts jts.length).length (locsL p jts).length)∧centsN p jts jts.length=[80,75,1,2]++y:=by
  intro h1 h2
  obtain ⟨y,hy,_⟩:=cents_mk p jts (by omega)
  refine ⟨y, ?_,hy⟩
  rw[←hbj,hjform,←h2,List.drop_left,hy,List.append_assoc]
 have hAl:(locsL p its).length≤b.length:=by rw[hb,hlen];omega
 by_cases hA:b.take (locsL p its).length=locsL p its
 ·exfalso
  have hbs:b=locsL p its++b.drop (locsL p its).length:=by
   rw[←List.take_append_drop (locsL p its).length b,hA,List.drop_left]
  cases hpre:Lib.hasPrefix (b.drop (locsL p its).length) mkL.data.toList with
  |false=>
   have h1:=hP.go _ hpre
   rw[←hbs,hgo] at h1
   injection h1 with h1
   exact hnei h1
  |true=>
   have h1:mkL.data.toList<+:b.drop (locsL p its).length:=by
    unfold Lib.hasPrefix at hpre
    exact List.isPrefixOf_iff_prefix.1 hpre
   obtain ⟨y,hy⟩:=h1
   have hy:b.drop (locsL p its).length=[80,75,3,4]++y:=hy.symm
   have hw:Burst (numX ((locsL p its++[80,75,3,4])++y)^^^numX ((locsL p its++[80,75,1,2])++(x++endL its.length (centsN p its its.length).length (locsL p its).length))):=by
    have e1:(locsL p its++[80,75,3,4])++y=b:=by rw[List.append_assoc,←hy,←hbs]
    have e2:(locsL p its++[80,75,1,2])++(x++endL its.length (centsN p its its.length).length (locsL p its).length)=laidL p its:=by
     rw[hform]
     generalize endL its.length (centsN p its its.length).length (locsL p its).length=E
     rw[hx]
     simp only[List.append_assoc]
    rw[e1,e2];exact h
   have hyl:y.length=(x++endL its.length (centsN p its its.length).length (locsL p its).length).length:=by
    have h2:=congrArg List.length hbs
    rw[hy,hb,hlen,hx] at h2
    simp only[List.length_append,List.length_cons,List.length_nil,endL_len] at h2 ⊢
    omega
   have hd:=hw.win (by simp) hyl (fun e=>by have:=List.append_cancel_left e;simp at this)
   have hE:b=(locsL p its++([80,75,3,4]++(y.take 4++x.drop 4)))++endL its.length (centsN p its its.length).length (locsL p its).length:=by
    have e3:y=y.take 4++(x.drop 4++endL its.length (centsN p its its.length).length (locsL p its).length):=by
     conv=>lhs;rw[←List.take_append_drop 4 y,hd]
     rw[List.drop_append_of_le_length (by omega)]
    rw[hbs,hy]
    generalize endL its.length (centsN p its its.length).length (locsL p its).length=E at*
    simp only[List.append_assoc]
    rw[←e3]
   obtain ⟨e1,e2,e3⟩:=ends_same (hbj.trans hE) h40 h40j hP.len jl
   obtain ⟨z,hz,_⟩:=hsub e1 e3
   rw[hy] at hz
   simp at hz
 have hbs:b=b.take (locsL p its).length++b.drop (locsL p its).length:=(List.take_append_drop _ _).symm
 have hb2:(b.drop (locsL p its).length).length=(centsN p its its.length++endL its.length (centsN p its its.length).length (locsL p its).length).length:=by
  rw[List.length_drop,hb,hlen,List.length_append,endL_len];omega
 have hb1:(b.take (locsL p its).length).length=(locsL p its).length:=by rw[List.length_take];omega
 have hd:=Burst.win (s1:=locsL p its) (s2:=centsN p its its.length++endL its.length (centsN p its its.length).length (locsL p its).length) (b1:=b.take (locsL p its).length) (b2:=b.drop (locsL p its).length) (by rw[←hbs,←hform];exact h) hb1 hb2 hA
 have hx4:(centsN p its its.length++endL its.length (centsN p its its.length).length (locsL p its).length).drop 4=x++endL its.length (centsN p its its.length).length (locsL p its).length:=by
  generalize endL its.length (centsN p its its.length).length (locsL p its).length=E
  rw[hx];rfl
 rw[hx4] at hd
 have hE:b=(b.take (locsL p its).length++((b.drop (locsL p its).length).take 4++x))++endL its.length (centsN p its its.length).length (locsL p its).length:=by
  have e3:b.drop (locsL p its).length=(b.drop (locsL p its).length).take 4++(x++endL its.length (centsN p its its.length).length (locsL p its).length):=by
   conv=>lhs;rw[←List.take_append_drop 4 (b.drop (locsL p its).length),hd]
  conv=>lhs;rw[hbs,e3]
  simp only[List.append_assoc]
 obtain ⟨e1,e2,e3⟩:=ends_same (hbj.trans hE) h40 h40j hP.len jl
 obtain ⟨z,hz,hzc⟩:=hsub e1 e3
 rw[hz,e2,e1,e3] at hd
 have hzx:z=x:=List.append_cancel_right hd
 have hC:centsN p jts jts.length=centsN p its its.length:=by rw[hzc,hzx,hx]
 have hS:=(cents_same its.length (by rw[e1] at hC;exact hC.symm) (fit_rd hP.rd) (fun j hj=>fit_ok hp (fun i hi=>⟨jok i hi,jway i hi⟩) j (by omega)) its.length (Nat.le_refl _)).2
 have hB:Burst (numX (locsL p jts++(centsN p its its.length++endL its.length (centsN p its its.length).length (locsL p its).length))^^^numX (locsL p its++(centsN p its its.length++endL its.length (centsN p its its.length).length (locsL p its).length))):=by
  rw[←hform]
  have e4:locsL p jts++(centsN p its its.length++endL its.length (centsN p its its.length).length (locsL p its).length)=b:=by
   rw[←hbj,hjform,hC,e3,e1]
  rw[e4];exact h
 obtain ⟨j,hjl,hc⟩:=Burst.items _ its jts e1.symm hS hB
 have hsj:=hS j hjl
 obtain ⟨p1,p2,p3⟩:=hP.plain _ (getD_mem its j hjl)
 have hdat:(datI (jts.getD j itD)).2≠0:=by
  have hu:unpI (jts.getD j itD)=((jts.getD j itD).packed,0):=by
   unfold unpI
   rw[if_pos (by rw[←hsj.way];exact p1),if_pos (by rw[←hsj.packed,←hsj.size];exact p3.symm)]
  unfold datI
  rw[hu,if_neg (by simp),if_neg]
  ·simp
  show ¬checkOf (jts.getD j itD).packed=_
  rw[←hsj.check,p2]
  unfold checkOf
  have b1:=crcOf_lt (jts.getD j itD).packed.data.toList
  have b2:=crcOf_lt (its.getD j itD).packed.data.toList
  have hc' :crcOf (jts.getD j itD).packed.data.toList≠crcOf (its.getD j itD).packed.data.toList:=hc
  omega
 split
 ·exact unpGo_fault jts [] j (by omega) hdat
 rename_i hh;exact hh
theorem itemR_rd{p s:ByteArray}{it:It}{b:ByteArray}(h:itemR p s=some (it,b))(hs:s.size≤40000)(hp:p.size≤1000):ItRd p it∧b.size≤s.size:=by
 have hw:it.way=0∨it.way=8:=by
  unfold itemR at h
  split at h
  ·cases h
  split at h
  ·cases h
  split at h
  ·cases h
  split at h
  ·cases h
  rename_i h4
  injection h with h
  injection h with ha hb
  rw[←ha]
  show numL s 8 2=0∨numL s 8 2=8
  omega
 obtain ⟨⟨h1,h2,h3,h4,h5⟩,h6,_⟩:=itemR_facts h hs
 exact ⟨⟨hw,h2,h3,by omega,by omega⟩,by omega⟩
theorem readGo_spec{p:ByteArray}(hp:p.size≤1000): ∀(n:Nat) (rest:ByteArray) (its out:List It),readGo p n rest its=some out→rest.size≤40000→(∀i∈its,ItRd p i)→Rising its→its.length≤60→(∀i∈out,ItRd p i)∧Rising out∧out.length≤60
 |0,rest,its,out,h,_,_,_,_=>by cases h
 |n+1,rest,its,out,h,hr,hk,hs,hl=>by
  unfold readGo at h
  split at h
  ·injection h with h;rw[←h];exact ⟨hk,hs,hl⟩
  split at h
  ·cases h
  rename_i it b hit
  split at h
  ·cases h
  rename_i hbad
  obtain ⟨h1,h2⟩:=itemR_rd hit hr hp
  have hbd:badB its it=false:=by simpa using hbad
  unfold badB at hbd
  rw[Bool.or_eq_false_iff] at hbd
  obtain ⟨h60,hlast⟩:=hbd
  have h60:its.length≠60:=by simpa using h60
  refine readGo_spec hp n b _ out h (by omega) ?_ ?_ (by rw[List.length_append];show its.length+1≤60;omega)
  ·intro i hi
   rcases List.mem_append.1 hi with hi|hi
   ·exact hk i hi
   rw[List.mem_singleton] at hi;rw[hi];exact h1
  refine List.pairwise_append.2 ⟨hs,List.pairwise_singleton _ _, ?_⟩
  intro x hx y hy
  rw[List.mem_singleton] at hy
  subst hy
  have h0:0<its.length:=List.length_pos_of_mem hx
  rw[decide_eq_true h0,Bool.true_and] at hlast
  have hlt:(its.getD (its.length- 1) itD).name.data.toList<y.name.data.toList:=by simpa using hlast
  have hi:its.length- 1<its.length:=by omega
  rw[List.getD_eq_getElem?_getD,List.getElem?_eq_getElem hi] at hlt
  obtain ⟨k,hkl,rfl⟩:=List.mem_iff_getElem.1 hx
  by_cases e:k=its.length- 1
  ·subst e;exact hlt
  exact List.lt_trans ((List.pairwise_iff_getElem.1 hs) k (its.length- 1) hkl hi (by omega)) hlt
theorem noL_app{t:List UInt8}(u:List UInt8)(ht:Lib.hasPrefix t mkL.data.toList=false)(hl:4≤t.length):Lib.hasPrefix (t++u) mkL.data.toList=false:=by
 match t,hl with
 |a::b::c::d::r,_=>exact ht
theorem Plain.cut{p:ByteArray}{its:List It}(hP:Plain p its)(hp:p.size≤1000)(b u:List UInt8)(hb:b++u=laidL p its)(hu:u≠[]):(unpP p (strB b)).2=7:=by
 have h40:=hP.size
 have hbl:=congrArg List.length hb
 rw[List.length_append] at hbl
 unfold unpP
 rw[if_neg (by rw[strB_size];omega)]
 split
 ·rfl
 rename_i jts hj
 exfalso
 obtain ⟨hgo,hlaid⟩:=readP_of hj
 have hbj:laidL p jts=b:=by have:=congrArg sL hlaid;rw[sL_strB,sL_strB] at this;exact this
 obtain ⟨j1,j2,j3⟩:=readGo_spec hp _ _ _ _ hgo (by rw[strB_size];omega) (fun i hi=>by cases hi) List.Pairwise.nil (by simp)
 have hg1:=hP.go (centsN p its its.length++endL its.length (centsN p its its.length).length (locsL p its).length) (cents_noL p its _ _ _)
 rw[←laidL_form,←hb,←hbj,laidL_form p jts] at hg1
 have hlj:=locs_len p jts
 have hg2:=readGo_locs p ((centsN p jts jts.length++endL jts.length (centsN p jts jts.length).length (locsL p jts).length)++u) (noL_app u (cents_noL p jts _ _ _) (by rw[List.length_append,endL_len];omega)) jts [] ((strB (locsL p jts++((centsN p jts jts.length++endL jts.length (centsN p jts jts.length).length (locsL p jts).length)++u))).size+1) j1 (by rw[List.nil_append];exact j2) (by rw[List.nil_append];exact j3) (by rw[strB_size,List.length_append];omega)
 rw[←List.append_assoc (locsL p jts),List.nil_append,hg1] at hg2
 injection hg2 with hg2
 rw[←hg2] at hbj
 rw[hbj] at hbl
 have:0<u.length:=List.length_pos_iff.2 hu
 omega
theorem Plain.more{p:ByteArray}{its:List It}(hP:Plain p its)(u:List UInt8)(hu:u≠[]):(unpP p (strB (laidL p its++u))).2≠0:=by
 unfold unpP
 split
 ·simp
 split
 ·simp
 rename_i jts hj
 exfalso
 obtain ⟨hgo,hlaid⟩:=readP_of hj
 have h1:=hP.go ((centsN p its its.length++endL its.length (centsN p its its.length).length (locsL p its).length)++u) (noL_app u (cents_noL p its _ _ _) (by rw[List.length_append,endL_len];omega))
 have e:locsL p its++((centsN p its its.length++endL its.length (centsN p its its.length).length (locsL p its).length)++u)=laidL p its++u:=by rw[laidL_form];simp only[List.append_assoc]
 rw[e,hgo] at h1
 injection h1 with h1
 have hbj:laidL p jts=laidL p its++u:=by have:=congrArg sL hlaid;rw[sL_strB,sL_strB] at this;exact this
 rw[h1] at hbj
 have:=congrArg List.length hbj
 rw[List.length_append] at this
 have:0<u.length:=List.length_pos_iff.2 hu
 omega
end Go.Proofs.YtndfmgdhiallpaaGreatDoor
