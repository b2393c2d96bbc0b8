import Derived.Laws.ComplexArith
import Derived.Test.YtfpphfkcaplafaaGreatDoorZae
import Derived.Maps.OwnSet
set_option linter.all false
set_option maxHeartbeats 64000000
set_option maxRecDepth 100000
open _root_ renaming Option.some->J,Option.none->O,Int->Z,Nat->N,Go.Value.int->I,Go.Value.string->G,Go.IntKind.i64->Q,ByteArray->Y,List->E,Go.World->U,Go.Value.slice->K,Go.Value->M,Go.Obj.cells->W,Go.Value.pointer->V,Go.RowKit.Hid->C,Go.Proofs.Tryz.prog->F,Go.Ending.returned->ε
variable{c f m n p q:N}{a b:Z}{d:Y}
namespace Go.Proofs.YtfpphfkcaplafaaGreatDoor
open Ieee
abbrev fN(n:N):N:=floatOfInt .f64 (n:Z)
def Rh:fN 0=0:=Ac
def Og(n:N):N:=n*2^(52-n.log2)
def Nu(h0:n≠0)(h:n<1048576):n.log2<=19/\2^52<=Og n/\Og n<2^53:=by
 have:n.log2<20:=(Nat.log2_lt h0).2 h;have a:=Nat.log2_self_le h0;have b:n<2^(n.log2+1):=Nat.lt_log2_self;have c:2^n.log2*2^(52-n.log2)=2^52:=by rw[<-acm];congr 1;omega
 have d:2^(n.log2+1)*2^(52-n.log2)=2^53:=by rw[<-acm];congr 1;omega
 have e:0<2^(52-n.log2):=adn Ac;refine⟨A,?_,?_⟩
 .rw[<-c];exact aag _ a
 rw[<-d];exact acM b e
def mT(a:Toward)(b:Bool)(n:N):a.cut b n 0=n:=by
 unfold Toward.cut;simp[acn];cases a<;>simp
def yO(h0:n≠0)(h:n<1048576):fN n=(n.log2+1022)*2^52+Og n:=by
 obtain⟨_,_,_⟩:=Nu h0 h;have b:decide ((n:Z)<0)=false:=Ad;show double.nearest (decide ((n:Z)<0)) n 0=_;rw[b];unfold Format.nearest;rw[Wx h0];have a:max ((0:Z)+(n.log2:Z)-((double.fractionBits:N):Z)) double.leastPlace=(n.log2:Z)-52:=by
  rw[show double.fractionBits=52 from rfl,show double.leastPlace= -1074 from rfl];omega
 simp only[a];have a:((0:Z)-((n.log2:Z)-52)).toNat=52-n.log2:=A;have b:(((n.log2:Z)-52)-0).toNat=0:=A;have c:(((n.log2:Z)-52)-double.leastPlace).toNat=n.log2+1022:=by
  rw[show double.leastPlace= -1074 from rfl];omega
 rw[a,b,c,mT,acP,show double.binade=2^52 from rfl,show double.infRung=2047*2^52 from rfl];unfold Format.word;rw[Wx Ad];show min ((n.log2+1022)*2^52+Og n) _=_;omega
def Oh(h0:n≠0)(h:n<1048576):double.read (fN n)=.number false (Og n) ((n.log2:Z)-52):=by
 obtain⟨_,_,_⟩:=Nu h0 h;rw[yO h0 h];unfold Format.read;rw[show double.signWeight=2^63 from rfl,show double.binade=2^52 from rfl,show double.infRung=2047*2^52 from rfl,show double.leastPlace= -1074 from rfl];generalize a:n.log2=L,Og n=s at*;have a:(L+1022)*2^52+s<2^63:=A;have b:=abV a;have c:=adW a;simp only[b,c];rw[Wx A,Wz A];have a:((L+1022)*2^52+s)%2^52=s-2^52:=A;have b:((L+1022)*2^52+s)/2^52-1=L+1022:=A;rw[a,b];rw[show 2^52+(s-2^52)=s by omega,show((-1074:Z)+((L+1022:N):Z))=(L:Z)-52 by omega]
 rfl
def ru(h:n<1048576):(FloatKind.f64.decode<|fN n).toInt .zero=J (n:Z):=by
 by_cases h0:n=0
 .subst h0;decide
 obtain⟨_,_,_⟩:=Nu h0 h;unfold FloatKind.decode;rw[show FloatKind.f64.format=double from rfl,Oh h0 h];unfold Datum.toInt Datum.integral;simp only;have a:((n.log2:Z)-52).toNat=0:=A;have b:(-((n.log2:Z)-52)).toNat=52-n.log2:=A;rw[a,b,Nat.shiftLeft_zero];have b:Toward.zero.cut false (Og n) (52-n.log2)=n:=by
  unfold Toward.cut;simp only[Bool.toNat_false,aaw];have a:(Og n).log2=52:=by
   rw[Nat.log2_eq_iff A];omega
  rw[a,show min (52-n.log2) (52+2)=52-n.log2 by omega,acP,aef];exact Nat.mul_div_cancel _<|adn Ac
 rw[b];simp[signed]
def mU(h:a<b):compare a b=.lt:=by
 show compareOfLessAndEq a b=.lt;unfold compareOfLessAndEq;rw[Wz h]
def mV(h:b<a):compare a b=.gt:=by
 show compareOfLessAndEq a b=.gt;unfold compareOfLessAndEq;rw[Wx A,Wx A]
def Zi(c:n<1048576)(d:m<1048576):FloatKind.f64.format.order (fN n) (fN m)=J (compare n m):=by
 have f:∀{n m:N},n≠0->m≠0->n<1048576->m<1048576->double.order (fN n) (fN m)=J (compare n m):=by
  intro n m b a c d;obtain⟨j,_,_⟩:=Nu b c;obtain⟨_,_,_⟩:=Nu a d;unfold Format.order;rw[Oh b c,Oh a d];unfold Datum.order;simp only[signed,aaM,abE,acP];have k:Og n*2^((n.log2:Z)-52-min ((n.log2:Z)-52) ((m.log2:Z)-52)).toNat=n*2^(52-min n.log2 m.log2):=by
   unfold Og;rw[adp,<-acm];congr 2;omega
  have l:Og m*2^((m.log2:Z)-52-min ((n.log2:Z)-52) ((m.log2:Z)-52)).toNat=m*2^(52-min n.log2 m.log2):=by
   unfold Og;rw[adp,<-acm];congr 2;omega
  rw[k,l];have e:0<2^(52-min n.log2 m.log2):=adn Ac;generalize 2^(52-min n.log2 m.log2)=q at*;congr 1;rcases abF n m with h|h|h
  .have g:=acM h e;rw[adR.2 h];exact mU<|by exact_mod_cast g
  .subst h;rw[Nat.compare_eq_eq.2 rfl];simp
  have g:=acM h e;rw[adl.2 h];exact mV<|by exact_mod_cast g
 rw[show FloatKind.f64.format=double from rfl];by_cases b:n=0
 .subst b;by_cases a:m=0
  .subst a;decide
  obtain⟨j,i,_⟩:=Nu a d;unfold Format.order;rw[Oh a d,Rh,show double.read 0=.number false 0 (-1074) from rfl];unfold Datum.order;simp only[signed,aaM,abE,acP,adY];have e:0<Og m*2^((m.log2:Z)-52-min (-1074) ((m.log2:Z)-52)).toNat:=Nat.mul_pos A<|adn Ac;rw[adR.2 A];congr 1;exact mU<|Int.ofNat_lt.2 e
 by_cases a:m=0
 .subst a;obtain⟨j,i,_⟩:=Nu b c;unfold Format.order;rw[Oh b c,Rh,show double.read 0=.number false 0 (-1074) from rfl];unfold Datum.order;simp only[signed,aaM,abE,acP,adY];have e:0<Og n*2^((n.log2:Z)-52-min ((n.log2:Z)-52) (-1074)).toNat:=Nat.mul_pos A<|adn Ac;rw[adl.2 A];congr 1;exact mV<|Int.ofNat_lt.2 e
 exact f b a c d
def mW(a:n<1048576)(b:m<1048576):(FloatKind.f64.format.order (fN n) (fN m)==J Ordering.gt)=decide (m<n):=by
 rw[Zi a b];rcases abF n m with h|h|h
 .rw[adR.2 h,Ww A];rfl
 .subst h;rw[Nat.compare_eq_eq.2 rfl,Ww A];rfl
 rw[adl.2 h,Wy h];rfl
section
variable {P:Program}
def Nd(d:n<1048576)(a b:TypeId)(e:(P.underlying a).isSome=true)(f:P.underlying b=J (.int Q))(c:U):(convert a b (.float .f64<|fN n)).run P c=.ok (I Q (n:Z)) c:=by
 refine run_convert_float_int c a b .f64 Q _ _ e f ?_;unfold floatToIntVal;rw[ru d];have a:IntKind.i64.min<=(n:Z):=by rw[show IntKind.i64.min= -9223372036854775808 from rfl];omega
 have b:(n:Z)<=IntKind.i64.max:=by rw[show IntKind.i64.max=9223372036854775807 from rfl];omega
 simp only[a,b,and_self,acz]
end
open Go.RowKit Go.Maps Go.Proofs.Tryz
abbrev rv:TypeId:=229
abbrev Hx:TypeId:=201
def Dl:Keyed F 9:=string_keyed underlying9
def tS(w:U):(zeroValue 3).run F w=.ok (I Q 0) w:=B
def QF(r:Y)(h:r.size<=maxLen):keyOf F 9 (G r)=J (.string r.data.toList):=WideMaps.keyOf_string_mk underlying9 h
def LN(D:DataW Unit)(d:Y)(n:N):Prop:=
 ∀r:Y,r.size=3->has D (.string r.data.toList)=decide (Ce d r n≠0)/\∀q,Ce d r n=q+1->D.atKey (.string r.data.toList) (.lit (.int Q 0))=.lit (.int Q (q:Z))
def LN.zero(d:Y):LN (.map []) d 0:=λ_ _=>⟨rfl,λ_ h=>by cases h⟩
def Zj(s:E UInt8):WideAt.IsKeyLit (.string s):=trivial
def Nv{r a :Y}(h:r≠a):(Lit.string r.data.toList)≠.string a.data.toList:=by
 intro e;injection e with e;exact h<|aaj (abf.1 e)
def LN.next{D:DataW Unit}(h:LN D d n)(hD:IsMap D):LN (D.put (.string (Bo d n).data.toList) (.lit (.int Q (n:Z)))) d<|n+1:=by
 intro r b;rw[Ce];by_cases e:Bo d n=r
 .subst e;rw[Wz rfl,adz hD<|Zj _];refine⟨Ad,λq c=>?_⟩;rw[aeg hD<|Zj _,show n=q by omega]
 have a:=Nv λx:r=Bo d n=>e x.symm;rw[Wx e,adq a];refine⟨(h r b).1,λq c=>?_⟩;rw[aec a];exact(h r b).2 q c
def LN.skip{D:DataW Unit}(h:LN D d n)(a:¬n+3<=d.size):LN D d<|n+1:=by
 intro r a;have e:Ce d r (n+1)=Ce d r n:=by
  rw[Ce,Wx];intro e;have:=IL d n;rw[e,a] at this;omega
 rw[e];exact h r a
def Fd(w:U)(g gm ge:N)(d:Y)(n:N):Prop:=
 w.heap[g]? =J (W #[G d,.map<|J gm,K (J ⟨ge,0,O⟩) d.size d.size] rv (0,0))/\
 (∃D:DataW Unit,w.ownsMap F 9 (plainElem F 3) gm n D/\LN D d n)/\
 ∃f:N->Z,EH w ge 3 d.size (λj=> I Q<|f j)/\∀j,j<n->j+3<=d.size->f j=(Ce d (Bo d j) j:Z)-1
section
variable {w:U} {g gm ge:N} {d:Y} {n:N}
def Fd.lt(h:Fd w g gm ge d n):g<w.heap.size/\gm<w.heap.size/\ge<w.heap.size:=by
 obtain⟨a,⟨_,b,_⟩,_,c,_⟩:=h;exact⟨(Wt.1 a).1,b.lt,c.lt⟩
def Fd.c0(h:Fd w g gm ge d n):w.cell? ⟨g,0,O⟩=J (G d):=by rw[Wu w g 0 _ _ (0,0) h.1];rfl
def Fd.c1(h:Fd w g gm ge d n):w.cell? ⟨g,1,O⟩=J (.map<|J gm):=by rw[Wu w g 1 _ _ (0,0) h.1];rfl
def Fd.c2(h:Fd w g gm ge d n):w.cell? ⟨g,2,O⟩=J (K (J ⟨ge,0,O⟩) d.size d.size):=by rw[Wu w g 2 _ _ (0,0) h.1];rfl
def Fd.ne(h:Fd w g gm ge d n):g≠ge/\g≠gm/\gm≠ge:=by
 obtain⟨c,⟨_,⟨_,_,b,_⟩,_⟩,_,⟨_,a,_⟩,_⟩:=h;refine⟨?_,?_,?_⟩
 .rintro rfl;rw[c] at a;injection a with a;injection a with _ e;exact absurd e Ac
 .rintro rfl;rw[c] at b;injection b with b;cases b
 rintro rfl;rw[b] at a;injection a with a;cases a
def Fd.kept{S:N->Prop}{w':U}(h:Fd w g gm ge d n)(b:Ag S w w')(c:¬S g)(e:¬S gm)(f:¬S ge):Fd w' g gm ge d n:=by
 obtain⟨i,j,_⟩:=h.lt;obtain⟨k,⟨D,⟨l,a,m,r⟩,o⟩,p,q,s⟩:=h;exact⟨(b.block g i c).trans k,⟨D,⟨l,a,(b.block gm j e).trans m,r⟩,o⟩,p,q.kept b f,s⟩
end
def Nf(d:Y)(q:N)(h:q+3<=d.size)(a:U):(Instr.slice 9 (G d) (J<|I Q (q:Z)) (J<|I Q ((q:Z)+3)) O).run F a=.ok (G<|d.extract q (q+3)) a:=by
 have a:((q:Z)+3).toNat=q+3:=A;have b:(0:Z)<=(q:Z)+3/\(q:Z)+3<=(d.size:Z):=A;have c:(0:Z)<=(q:Z)/\(q:Z)<=((q+3:N):Z):=A;simp only[Instr.slice,acd,aaf underlying9,abS,Instr.sliceBounds,Instr.sliceBound,asIntOf,acJ,Option.isSome_none,aaM,abE,Wz b,a,Wz c,ww]
def JN(d:Y)(q n:N):Z:=if d.size<q+3 then -1 else(Ce d (Bo d q) n:Z)-1
def tT(g gm ge:N)(d:Y)(L:d.size<=20000)(n q:N)(P:q<=d.size)(w:U)(s:Fd w g gm ge d n):
 Calls F 183 #[V<|J ⟨g,0,O⟩,I Q q] w λr w'=>r=ε (I Q<|JN d q n)/\∃k,w'=w.drewN k:=by
 have L:=s.c0;have P:=s.c1;by_cases z:d.size<q+3
 .have h:(d.size:Z)-q<3:=A;have f:C<|JN d q n= -1:=Wz z;go_in;go_wp2;go_ret;exact⟨by rw[X f];rfl,0,rfl⟩
 have h:¬(d.size:Z)-q<3:=A;obtain⟨_,⟨D,a,h⟩,_⟩:=s;have b:(Bo d q).size=3:=by rw[IL];omega
 obtain⟨i,t⟩:=h (Bo d q) b;have f:C<|JN d q n=(Ce d (Bo d q) n:Z)-1:=Wx z;have h:=Nf d q A;have s:IntKind.i64.wrap ((q:Z)+3)=(q:Z)+3:=akR
 have h:(q:Z)+3<=(d.size:Z):=A;obtain⟨c,m⟩:∃c:Z,D.atKey (.string (Bo d q).data.toList) (.lit (.int Q 0))=.lit (.int Q c):=by
  obtain⟨R,S,_,u⟩:=a.look_ok Dl underlying201 (tS _) (acS underlying3 Ac) (QF (Bo d q)<|by rw[b];decide);obtain⟨c,rfl,m,_⟩:=adm underlying3 u;exact⟨c,hJ Prod.fst m⟩
 have j:∀k,(Instr.lookup Hx (.map<|J gm) (G<|d.extract q (q+3)) true).run F (w.drewN k)=.ok (.tuple #[I Q c,.bool<|decide (Ce d (Bo d q) n≠0)]) (w.drewN k):=by
  intro k;have h:(w.drewN k).ownsMap F 9 (plainElem F 3) gm n D:=a;obtain⟨R,S,l,u⟩:=h.look_ok Dl underlying201 (tS _) (acS underlying3 Ac) (QF (Bo d q)<|by rw[b];decide);obtain⟨_,rfl,v,_⟩:=adm underlying3 u;have e:=hJ Prod.fst v;rw[m] at e;injection e with e;injection e with _ e;rw[<-i,e];exact l
 have T:C (∀p,Ce d (Bo d q) n=p+1->c=(p:Z)):=λp o=>by
  have:=t p o;rw[m] at this;injection this with this;injection this
 by_cases x:Ce d (Bo d q) n=0
 .rw[x] at f;simp only[x,ne_eq,not_true_eq_false,decide_false] at j;go_in;go_wp2_with fail;go_quiet (fail);go_wp2;go_ret;exact⟨by rw[X f];rfl,_,rfl⟩
 obtain⟨p,o⟩:∃p,Ce d (Bo d q) n=p+1:=⟨Ce d (Bo d q) n-1,A⟩;simp only[x,ne_eq,not_false_eq_true,decide_true] at j;have y:=T p o;subst y;have a:C<|JN d q n=(p:Z):=by unfold C;rw[X f,o];omega
 go_in;go_wp2_with fail;go_quiet (fail);go_wp2;go_ret;exact⟨by rw[X a];rfl,_,rfl⟩
def cV(a:Dy d p q c=c)(b:c<=Eo d q)(h:¬c<Eo d q):DR d p q=c:=by
 unfold DR;rw[show Eo d q=c by omega];exact a
def cX(a:Dy d p q c=c)(b:c<=Eo d q)(h:As d (p+c)≠As d (q+c)):DR d p q=c:=Qf a h _ b
def Zk(a:Dy d p q c=c)(h:As d (p+c)=As d (q+c)):Dy d p q (c+1)=c+1:=by rw[Dy,Wz ⟨a,h⟩]
def fW(g:N)(d:Y)(e:d.size<=20000)(p q:N)(f:p<=q)(o:q<=d.size)(w:U)(e:w.cell? ⟨g,0,O⟩=J (G d)):
 Calls F 184 #[V<|J ⟨g,0,O⟩,I Q p,I Q q] w λr w'=>r=ε (I Q<|DR d p q)/\∃k,w'=w.drewN k:=by
 have:(if(d.size:Z)-q<258 then(d.size:Z)-q else 258)=((Eo d q:N):Z):=by unfold Eo;split<;>omega
 have e:Eo d q<=258/\Eo d q+q<=d.size:=by unfold Eo;omega
 have T1:=H λ(c:N) (f:Dy d p q c=c)=>cV (d:=d) (p:=p) (q:=q) (c:=c) f;have a:=H λ(c:N) (f:Dy d p q c=c)=>cX (d:=d) (p:=p) (q:=q) (c:=c) f;obtain⟨_,_⟩:=e;generalize Eo d q=m at*;go_in;go_wp2;go_loopw [8] (λx wr=>∃c k:N,c<=m/\x=I Q c/\wr=w.drewN k/\C (Dy d p q c=c)) λx _=>m-(intOf x).toNat
 .exact ⟨0,0,A,rfl,rfl,rfl⟩
 obtain⟨c,k,_,rfl,rfl,h⟩:=hrel;by_cases i:c<m
 .have b:(c:Z)<m:=A;have:=AA (s:=d) (k:=p+c) A;have:=AA (s:=d) (k:=q+c) A;have:(p:Z)+c<(d.size:Z):=A;have:(q:Z)+c<(d.size:Z):=A;have:(0:Z)<=(p:Z)+c:=A;have:(0:Z)<=(q:Z)+c:=A;have:((p:Z)+c).toNat=p+c:=A;have:((q:Z)+c).toNat=q+c:=A;by_cases j:As d (p+c)=As d (q+c)
  .have n:=H<|Zk h j;have l:((As d (p+c):N):Z)=((As d (q+c):N):Z):=by rw[j]
   generalize As d (p+c)=b1 at*;generalize As d (q+c)=b2 at*;clear T1 a;go_wp2_with fail;go_quiet (fail);go_wp2;go_roundw
   .exact ⟨c+1,_,A,by go_num,rfl,n⟩
   exact Ae
  have HE:=H<|a c h A j;have:¬((As d (p+c):N):Z)=((As d (q+c):N):Z):=A;generalize As d (p+c)=b1 at*;generalize As d (q+c)=b2 at*;exact ahY
 have:¬(c:Z)<m:=A;have HE:=H<|T1 c h A i;exact ahY
def yj(d:Y)(q f:N):Prop:=f=0\/(Bo d (f-1)=Bo d q/\f-1<q/\q+3<=d.size)
def yP(d:Y)(q:N)(b:N×N):Prop:=b=(0,0)\/jh d q b
def mX(d:Y)(q:N):yj d q<|DL d q:=by
 rcases aaD (DL d q) with h|h
 .exact .inl h
 obtain⟨f,a⟩:∃f,DL d q=f+1:=⟨_,(abC h).symm⟩;have:=Nq a;rw[a];exact .inr this
def mY(h:yj d q<|f+1):yj d q<|Ce d (Bo d f) f:=by
 obtain⟨b,_,c⟩:Bo d f=Bo d q/\f<q/\q+3<=d.size:=alH
 rcases aaD (Ce d (Bo d f) f) with h0|h0
 .exact .inl h0
 obtain⟨p,a⟩:∃p,Ce d (Bo d f) f=p+1:=⟨_,(abC h0).symm⟩;have:=Mx a;rw[a];exact .inr ⟨this.1.trans b,by show p<q;omega,c⟩
def uW{b:N×N}(a:d.size<=20000)(c:q<=d.size)(h:yP d q b):b.1<1048576/\b.2<1048576:=by
 rcases h with rfl|⟨_,_,_,_,_,_⟩
 .exact ⟨Ac,Ac⟩
 exact⟨A,A⟩
def UI(d:Y)(q f:N)(b:N×N):N×N:=if b.1<DR d f q then(DR d f q,q-f) else b
def mZ{b:N×N}(h:yj d q<|f+1)(a:yP d q b):yP d q<|UI d q f b:=by
 obtain⟨c,e,g⟩:Bo d f=Bo d q/\f<q/\q+3<=d.size:=alH
 unfold UI;split
 .exact .inr<|UD c e g
 exact a
def Zl(d:Y)(q k f:N)(b:N×N):EO d q (k+1) (f+1) b=EO d q k (Ce d (Bo d f) f) (UI d q f b):=by
 rw[EO,Wx A];rfl
def Zm(d:Y)(q k:N)(b:N×N):EO d q k 0 b=b:=by cases k<;>rfl
def Zn(d:Y)(q f:N)(b:N×N):EO d q 0 f b=b:=rfl
def na(g gm ge:N)(d:Y)(D:d.size<=20000)(q:N)(L:q<=d.size)(w:U)(h:Fd w g gm ge d q):
 Calls F 122 #[V<|J ⟨g,0,O⟩,I Q q] w λr w'=>r=ε (.complex .f64 (fN (Fn d q).1)<|fN (Fn d q).2)/\∃k,w'=w.drewN k:=by
 have P:=h.c0;have o:=h.c2;have HL:=H<|tT g gm ge d D q q L w h;have o:JN d q q=(DL d q:Z)-1:=by unfold JN DL;split<;>simp
 rw[o] at HL;have l:=H<|mX d q;have R:C<|Fn d q=EO d q 128 (DL d q) (0,0):=rfl;obtain⟨_,_,f,o,hf⟩:=h;have S:C (∀j,j<q->j+3<=d.size->w.cell? ⟨ge,j,O⟩=J (I Q ((Ce d (Bo d j) j:Z)-1))):=λj a e=>by
  have:=o.cell j A;rw[this,hf j a e]
 have HZ:=H Rh;generalize DL d q=f0,Fn d q=Z2 at*;have T:f0<=20001:=by rcases X l with h|h<;>omega
 go_in;go_wp2_with fail;apply HL.mono;rintro r w1 ⟨rfl,k1,rfl⟩;go_wp2;go_loopw [5,6,7,8] (λb x t _ wr=>∃(f k n:N) (e:N×N),f<=20001/\k<=128/\b=.complex .f64 (fN e.1) (fN e.2)/\x=I Q ((f:Z)-1)/\t=I Q k/\wr=w.drewN n/\C (yj d q f/\yP d q e/\EO d q (128-k) f e=Z2)) λ_ _ t _ _=>128-(intOf t).toNat
 .exact ⟨f0,0,k1,(0,0),T,A,by rw[X HZ],rfl,rfl,rfl,l,.inl rfl,(X R).symm⟩
 obtain⟨f,k,n,e,_,_,rfl,rfl,rfl,rfl,HS⟩:=hrel;obtain⟨j,s,a⟩:=X HS;rcases aaD f with h0|h0
 .subst h0;have:¬(0:Z)<=((0:N):Z)-1:=A;have HR:C<|e=Z2:=by rw[Zm] at a;exact a
  exact ajx
 obtain⟨p,rfl⟩:∃p,f=p+1:=⟨f-1,A⟩;have f:((p+1:N):Z)-1=(p:Z):=A;rw[f];have:(0:Z)<=(p:Z):=A;by_cases f:k<128
 .have a0:(k:Z)<128:=A;obtain⟨_,a1,_⟩:Bo d p=Bo d q/\p<q/\q+3<=d.size:=by rcases j with h|h;cases h;exact h
  have u:=H<|fW g d D p q A L (w.drewN n) P;have f:=S p a1 A;have v:C<|yj d q (Ce d (Bo d p) p)/\yP d q (UI d q p e)/\EO d q (128-(k+1)) (Ce d (Bo d p) p) (UI d q p e)=Z2:=by
   refine⟨mY j,mZ j s,?_⟩;rw[<-Zl,show 128-(k+1)+1=128-k by omega];exact a
  have x:Ce d (Bo d p) p<=20001:=by have:=Sg d (Bo d p) p;omega
  have f:DR d p q<=258:=by have:=UC d p q<|Eo d q;unfold DR Eo at*;omega
  have:(q:Z)-p=((q-p:N):Z):=A;have y:=mW (n:=DR d p q) (m:=e.1) A (uW D L s).1;have i:UI d q p e=if e.1<DR d p q then(DR d p q,q-p) else e:=rfl
  have f:IntKind.i64.wrap ((q-p:N):Z)=((q-p:N):Z):=Aw _ A;have:(p:Z)<d.size:=A;generalize Ce d (Bo d p) p=f2,DR d p q=c,q-p=J5 at*;by_cases z:e.1<c
  .rw[Wy z] at y;rw[Wz z] at i;have HB:=H i;go_wp2_with fail;apply u.mono;rintro r w2 ⟨rfl,k2,rfl⟩;go_wp2;go_roundw
   .exact ⟨f2,k+1,_,(c,J5),x,A,rfl,rfl,by go_num,rfl,by rw[<-X HB];exact X v⟩
   exact Ae
  rw[Ww z] at y;rw[Wx z] at i;have HB:=H i;go_wp2_with fail;apply u.mono;rintro r w2 ⟨rfl,k2,rfl⟩;go_wp2;go_roundw
  .exact ⟨f2,k+1,_,e,x,A,rfl,rfl,by go_num,rfl,by rw[<-X HB];exact X v⟩
  exact Ae
 have:¬(k:Z)<128:=A;have HR:C<|e=Z2:=by rw[show 128-k=0 by omega,Zn] at a;exact a
 exact ajx
def rx(w:U)(g gm ge:N)(d:Y)(n:N):Prop:=
 w.heap[g]? =J (W #[G d,.map<|J gm,K (J ⟨ge,0,O⟩) d.size d.size] rv (0,0))/\
 (∃D:DataW Unit,w.ownsMap F 9 (plainElem F 3) gm n D/\LN D d n)/\
 ∃f:N->Z,EH w ge 3 d.size (λj=> I Q<|f j)/\∀j,j<n+1->j+3<=d.size->f j=(Ce d (Bo d j) j:Z)-1
section
variable {w:U} {g gm ge:N} {d:Y} {n:N}
def Fd.lay(h:Fd w g gm ge d n)(b:n+3<=d.size):rx (w.setCell ⟨ge,n,O⟩<|I Q (JN d n n)) g gm ge d n:=by
 obtain⟨b,_,c⟩:=h.ne;obtain⟨i,⟨D,k,l⟩,f,m,o⟩:=h;refine⟨(aaK _ _ _ _ b).trans i,⟨D,k.setCell (a:=⟨ge,n,O⟩) c _,l⟩,λj=>if j=n then JN d n n else f j,?_,λj _ p=>?_⟩
 .refine (m.set n A<|I Q (JN d n n)).congr λj _=>?_;by_cases e:j=n
  .simp[e]
  simp[e]
 show(if j=n then JN d n n else f j)=_;by_cases e:j=n
 .subst e;rw[Wz rfl];unfold JN;rw[Wx A]
 rw[Wx e];exact o j A p
def rx.c0(h:rx w g gm ge d n):w.cell? ⟨g,0,O⟩=J (G d):=by rw[Wu w g 0 _ _ (0,0) h.1];rfl
def rx.c1(h:rx w g gm ge d n):w.cell? ⟨g,1,O⟩=J (.map<|J gm):=by rw[Wu w g 1 _ _ (0,0) h.1];rfl
def rx.store(l:rx w g gm ge d n)(p:n+3<=d.size)(q:d.size<=20000):∃w',(Instr.mapUpdate Hx (.map<|J gm) (G<|d.extract n (n+3))<|I Q (n:Z)).run F w=.ok () w'/\Ag (λk=>k=gm) w w'/\Fd w' g gm ge d (n+1):=by
 obtain⟨h,⟨D,h2,m⟩,f,h4,h5⟩:=l;have i:(Bo d n).size=3:=by rw[IL];omega
 have e:g≠gm:=by
  rintro rfl;obtain⟨o,c,b,_⟩:=h2;rw[h] at b;injection b with b;cases b
 have hne2:ge≠gm:=by
  rintro rfl;obtain⟨o,c,b,_⟩:=h2;obtain⟨l,j,_⟩:=h4;rw[j] at b;injection b with b;cases b
 obtain⟨w',b,c,j⟩:=h2.update Dl underlying201 (by unfold maxLen;omega) (QF (Bo d n)<|by rw[i];decide) (acS underlying3 (a:=(n:Z)) (by
  have i:IntKind.i64.min<=(n:Z):=by rw[show IntKind.i64.min= -9223372036854775808 from rfl];omega
  simp[Lit.wf,i];omega))
 have hO:=(Ag.refl _ w).grown j λk _ i=>(WX i).symm;refine⟨w',b,hO,(hO.block g (Wt.1 h).1 e).trans h,⟨_,c,m.next h2.isMap⟩,f,h4.kept hO hne2,h5⟩
def Fd.skips(h:Fd w g gm ge d n)(c:¬n+3<=d.size)(a:n<=m):Fd w g gm ge d m:=by
 obtain⟨k,rfl⟩:∃k,m=n+k:=⟨m-n,A⟩;clear a;induction k with
 |zero=>exact h
 |succ k b=>
  obtain⟨a,⟨D,c,e⟩,f,h,i⟩:=b;exact⟨a,⟨D,c.mono A,e.skip A⟩,f,h,λj _ a=>i j A a⟩
end
def nb(g gm ge:N)(d:Y)(z:d.size<=20000)(q LO:N)(u:q+LO<=d.size)(w:U)(h:Fd w g gm ge d q):
 Calls F 125 #[V<|J ⟨g,0,O⟩,I Q q,I Q LO] w λr w'=>r=ε (.tuple #[])/\Ag (λk=>k=gm\/k=ge) w w'/\Fd w' g gm ge d (q+LO):=by
 have c:=H h;go_in;go_wp2;go_loopw [6] (λx wr=>∃i:N,q<=i/\i<=q+LO/\x=I Q i/\wr.cell? ⟨g,0,O⟩=J (G d)/\C (Fd wr g gm ge d i)/\C (Ag (λk=>k=gm\/k=ge) w wr)) λx _=>q+LO-(intOf x).toNat
 .exact ⟨q,A,A,rfl,c.c0,c,Ag.refl _ w⟩
 obtain⟨i,_,o,rfl,_,b,s⟩:=hrel;by_cases l:i<q+LO
 .have j:(i:Z)<q+(LO:Z):=A;by_cases n:i+3<=d.size
  .have t:(i:Z)+3<=(d.size:Z):=A;have e:=b.c2;have u:=H λk=>tT g gm ge d z i i A (wr.drewN k) b;have:(i:Z)<d.size:=A;have:(0:Z)<=(i:Z):=A;have:wr.frozen? ⟨ge,i,O⟩=false:=by obtain⟨_,_,D,c,_⟩:=X b;exact c.thaw i
   have l:∃v,wr.cell? ⟨ge,i,O⟩=J v:=by obtain⟨_,_,D,c,_⟩:=X b;exact⟨_,c.cell i A⟩
   obtain⟨_,_⟩:=l;have v:=H<|b.lay n;have:=Nf d i n;go_upto_region 3 with fail;have a:wr.drew.cell? ⟨g,2,O⟩=J (K (J ⟨ge,0,O⟩) d.size d.size)/\True/\True:=⟨e,trivial,trivial⟩;refine Ai (S:=λc=>c.cell? ⟨g,2,O⟩=J (K (J ⟨ge,0,O⟩) d.size d.size)/\True/\True) (L:=9) B ?_;refine tk 0 10 (V<|J ⟨g,0,O⟩) 25 a ?_;refine tk 1 10 (V<|J ⟨g,0,O⟩) 26 a ?_;refine tk 2 10 (V<|J ⟨g,2,O⟩) 27 a ?_;refine tk 3 10 (K (J ⟨ge,0,O⟩) d.size d.size) 28 a ?_;refine tk 4 10 (I Q i) 29 a ?_;refine tk 5 10 (V<|J ⟨g,0,O⟩) 30 a ?_;refine tk 6 10 (I Q i) 31 a ?_;refine Ah (i:=7) B ?_;refine WE rfl λ_ m=>?_;go_simp;apply(u 1).mono;rintro r P ⟨rfl,x,rfl⟩;refine m _ _ ⟨λ_=>⟨e,trivial,trivial⟩,?_⟩;refine tk 8 10 (V<|J ⟨ge,i,O⟩) 33 ⟨e,trivial,trivial⟩ ?_;refine Ah (i:=9) B ?_;refine WE rfl λ_ m=>?_;go_simp;refine m _ _ ⟨λh=>absurd rfl h,?_⟩;refine Aj B ?_;go_upto_region 4 with fail;have f:rx ((wr.drewN<|1+x).setCell ⟨ge,i,O⟩<|I Q (JN d i i)) g gm ge d i:=X v;have y:Ag (λk=>k=gm\/k=ge) w ((wr.drewN<|1+x).setCell ⟨ge,i,O⟩<|I Q (JN d i i)):=(s.drewN _).setCell (p:=⟨ge,i,O⟩) (λ_=> .inr rfl) _;generalize(wr.drewN<|1+x).setCell ⟨ge,i,O⟩ (I Q<|JN d i i)=w4 at*;obtain⟨_,c,l,e⟩:=rx.store (w:=w4.drew) f n z;have a:w4.drew.cell? ⟨g,0,O⟩=J (G d)/\w4.drew.cell? ⟨g,1,O⟩=J (.map<|J gm)/\True:=⟨f.c0,f.c1,trivial⟩;have f:=H (y.drew.transNew l λ_ _ h=> .inl h);have l:=H e;have u:=e.c0;have:IntKind.i64.wrap ((i:Z)+3)=(i:Z)+3:=akR
   have e:=H c;refine Ai (S:=λv=>v.cell? ⟨g,0,O⟩=J (G d)/\v.cell? ⟨g,1,O⟩=J (.map<|J gm)/\True) (L:=13) B ?_;refine tk 0 14 (V<|J ⟨g,0,O⟩) 34 a ?_;refine tk 1 14 (V<|J ⟨g,0,O⟩) 35 a ?_;refine tk 2 14 (V<|J ⟨g,1,O⟩) 36 a ?_;refine tk 3 14 (.map<|J gm) 37 a ?_;refine tk 4 14 (V<|J ⟨g,0,O⟩) 38 a ?_;refine tk 5 14 (V<|J ⟨g,0,O⟩) 39 a ?_;refine tk 6 14 (V<|J ⟨g,0,O⟩) 40 a ?_;refine tk 7 14 (G d) 41 a ?_;refine tk 8 14 (I Q i) 42 a ?_;refine tk 9 14 (I Q i) 43 a ?_;refine tk 10 14 (I Q ((i:Z)+3)) 44 a ?_;refine tk 11 14 (G<|d.extract i (i+3)) 45 a ?_;refine tk 12 14 (I Q i) 46 a ?_;refine Ah (i:=13) B ?_;refine WE rfl λ_ m=>?_;have:=X e;go_simp;refine m _ _ ⟨λh=>absurd rfl h,?_⟩;refine Aj B ?_;go_wp2;go_roundw
   .exact ⟨i+1,A,A,by go_num,u,l,f⟩
   exact Ae
  have:¬(i:Z)+3<=(d.size:Z):=A;have m:=H<|b.skips n o;go_wp2_with fail;go_end0;exact⟨rfl,s,m⟩
 have:¬(i:Z)<q+(LO:Z):=A;have a:i=q+LO:=A;have m:C<|Fd wr g gm ge d (q+LO):=by rw[<-a];exact b
 go_wp2_with fail;go_end0;exact⟨rfl,s,m⟩
