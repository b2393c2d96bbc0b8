import Derived.Test.YtfpphfkcaplafaaGreatDoorZac
import Derived.Test.YtfpphfkcaplafaaGreatDoorZad
set_option linter.all false
set_option maxHeartbeats 64000000
set_option maxRecDepth 100000
open _root_ renaming Option.some->J,Option.none->O,Int->Z,Nat->N,Go.Value.int->I,Go.Value.string->G,Go.IntKind.i64->Q,ByteArray->Y,List->E,Go.World->U,Go.Value.slice->K,Go.Value->M,Go.Obj.cells->W,Go.Value.pointer->V,Go.RowKit.Hid->C,Go.Proofs.Tryz.prog->F,Go.Ending.returned->ε,Go.Value.bool->ζ,Go.Value.tuple->η,Bool.true->θ,Bool.false->ι,absurd->κ,Go.Calls->μ,Go.TypeId->ν,Go.IntKind.u8->τ,UInt8->υ,Array->φ
variable{d r s:Y}{a' b c cap f g i k n p q:N}{w w':U}{S a:N->Prop}{v:M}{L:E N}{l:E υ}
namespace Go.Proofs.YtfpphfkcaplafaaGreatDoor
open Go.RowKit Go.Proofs.Tryz
def Bo(d:Y)(p:N):Y:=d.extract p<|p+3
def IL(d:Y)(p:N):(Bo d p).size=min (p+3) d.size-p:=by rw[Bo,WM]
def Ce(d r:Y):N->N
 |0=>0
 |n+1=>if Bo d n=r then n+1 else Ce d r n
def Sg(d r:Y)(n:N):Ce d r n<=n:=by
 induction n with
 |zero=>exact WF _
 |succ n a=>rw[Ce];split<;>omega
def Mx(h:Ce d r n=q+1):Bo d q=r/\q<n:=by
 induction n with
 |zero=>cases h
 |succ n a=>
  rw[Ce] at h;split at h
  .rename_i b;have e:q=n:=A;subst e;exact⟨b,A⟩
  have:=a h;exact⟨this.1,A⟩
def UB(a:Bo d q=r)(f:q<n):q+1<=Ce d r n:=by
 induction n with
 |zero=>omega
 |succ n b=>
  rw[Ce];split
  .omega
  rename_i c;rcases wM q n with h|h
  .exact b h
  have e:q=n:=A;subst e;exact κ a c
def Dy(d:Y)(p q:N):N->N
 |0=>0
 |k+1=>if Dy d p q k=k/\As d (p+k)=As d (q+k) then k+1 else Dy d p q k
def UC(d:Y)(p q k:N):Dy d p q k<=k:=by
 induction k with
 |zero=>exact WF _
 |succ k a=>rw[Dy];split<;>omega
def Pi:∀{k i:N},i<Dy d p q k->As d (p+i)=As d (q+i)
 |k+1,i,h=>by
  rw[Dy] at h;split at h
  .rename_i a;rcases wM i k with hi|hi
   .exact Pi (k:=k) A
   have e:i=k:=A;subst e;exact a.2
  exact Pi h
def Sh(h:∀i,i<k->As d (p+i)=As d (q+i)):Dy d p q k=k:=by
 induction k with
 |zero=>rfl
 |succ k a=>rw[Dy,Wz ⟨a λi _=>h i A,h k A⟩]
def Qf(b:Dy d p q c=c)(a:As d (p+c)≠As d (q+c)):∀k,c<=k->Dy d p q k=c
 |0,h=>by rw[show c=0 by omega];rfl
 |k+1,h=>by
  rcases wM c (k+1) with hl|hl
  .have:=Qf b a k A;rw[Dy,this];split
   .rename_i e;obtain⟨f,g⟩:=e;subst f;exact κ g a
   rfl
  have e:c=k+1:=A;rw[<-e];exact b
def Eo(d:Y)(at_:N):N:=min 258<|d.size-at_
def DR(d:Y)(p q:N):N:=Dy d p q<|Eo d q
def EO(d:Y)(q:N):N->N->N×N->N×N
 |0,_,b=>b
 |k+1,f,b=>if f=0 then b else EO d q k (Ce d (Bo d<|f-1)<|f-1) (if b.1<DR d (f-1) q then(DR d (f-1) q,q-(f-1)) else b)
def DL(d:Y)(q:N):N:=if d.size<q+3 then 0 else Ce d (Bo d q) q
def Fn(d:Y)(q:N):N×N:=EO d q 128 (DL d q) (0,0)
def Nq(h:DL d q=f+1):Bo d f=Bo d q/\f<q/\q+3<=d.size:=by
 unfold DL at h;split at h
 .cases h
 have:=Mx h;exact⟨this.1,this.2,A⟩
def jg(h:Bo d p=Bo d q)(c:p+3<=d.size)(e:q+3<=d.size):∀i,i<3->As d (p+i)=As d (q+i):=by
 intro i f;rw[<-De (s:=d) (a:=p) (b:=p+3) (k:=i) A c,<-De (s:=d) (a:=q) (b:=q+3) (k:=i) A e];exact hJ (λr=>As r i) h
def Zb(h:Bo d p=Bo d q)(b:p<=q)(c:q+3<=d.size):3<=DR d p q:=by
 have e:=Sh (k:=3)<|jg h A c;unfold DR Eo;have f:3<=min 258 (d.size-q):=A;have a:∀k,3<=k->3<=Dy d p q k:=by
  intro k i;induction k with
  |zero=>omega
  |succ k g=>
   rcases wM 2 k with h5|h5
   .rw[Dy];split
    .omega
    exact g A
   rw[show k+1=3 by omega,e];exact WF _
 exact a _ f
def jh(d:Y)(q:N)(b:N×N):Prop:=3<=b.1/\b.1<=258/\q+b.1<=d.size/\1<=b.2/\b.2<=q/\∀i,i<b.1->As d (q-b.2+i)=As d (q+i)
def UD(h:Bo d p=Bo d q)(a:p<q)(b:q+3<=d.size):jh d q (DR d p q,q-p):=by
 have a:=Zb h A b;have b:DR d p q<=Eo d q:=UC _ _ _ _;unfold Eo at b;refine⟨a,A,by show q+DR d p q<=d.size;omega,by show 1<=q-p;omega,by show q-p<=q;omega,λi a=>?_⟩;show As d (q-(q-p)+i)=_;rw[show q-(q-p)=p by omega];exact Pi (k:=Eo d q) a
def UE(j:q+3<=d.size):∀{k f:N} {b:N×N},(f=0\/(Bo d (f-1)=Bo d q/\f-1<q))->(b=(0,0)\/jh d q b)->(EO d q k f b=(0,0)/\b=(0,0)/\(k=0\/f=0))\/jh d q (EO d q k f b)
 |0,f,b,_,hb=>by
  rw[EO];rcases hb with rfl|hb
  .exact .inl ⟨rfl,rfl,.inl rfl⟩
  exact .inr hb
 |k+1,f,b,n,hb=>by
  rw[EO];by_cases h0:f=0
  .rw[Wz h0];rcases hb with rfl|hb
   .exact .inl ⟨rfl,rfl,.inr h0⟩
   exact .inr hb
  rw[Wx h0];obtain⟨l,c⟩:Bo d (f-1)=Bo d q/\f-1<q:=n.resolve_left h0;have m:=UD l c j;have a:jh d q (if b.1<DR d (f-1) q then(DR d (f-1) q,q-(f-1)) else b):=by
   split
   .exact m
   rename_i e;rcases hb with rfl|hb
   .exact κ (show(0:N)<DR d (f-1) q from wG A m.1) e
   exact hb
  have i:Ce d (Bo d<|f-1) (f-1)=0\/(Bo d (Ce d (Bo d<|f-1) (f-1)-1)=Bo d q/\Ce d (Bo d<|f-1) (f-1)-1<q):=by
   rcases aaD (Ce d (Bo d<|f-1)<|f-1) with h|h
   .exact .inl h
   obtain⟨g,c⟩:∃g,Ce d (Bo d<|f-1) (f-1)=g+1:=⟨_,(abC h).symm⟩;have:=Mx c;rw[c];exact .inr ⟨by rw[acB,this.1,l],A⟩
  rcases UE j (k:=k) i (.inr a) with⟨h1,c,_⟩|h1
  .rw[c] at a;exact κ a.1 Ac
  exact .inr h1
def Oe(d:Y)(q:N):Fn d q=(0,0)\/jh d q (Fn d q):=by
 unfold Fn;by_cases h:d.size<q+3
 .left;rw[DL,Wz h];rfl
 have b:DL d q=0\/(Bo d (DL d q-1)=Bo d q/\DL d q-1<q):=by
  rcases aaD (DL d q) with h0|h0
  .exact .inl h0
  obtain⟨g,a⟩:∃g,DL d q=g+1:=⟨_,(abC h0).symm⟩;have:=Nq a;rw[a];exact .inr ⟨this.1,A⟩
 rcases UE A (k:=128) b (.inl rfl) with h1|h1
 .exact .inl h1.1
 exact .inr h1
def Si(c:Bo d p=Bo d q):∀{k f:N} {b:N×N},(f=0\/(Bo d (f-1)=Bo d q/\f-1<q))->(DR d p q<=b.1\/(p<f/\f<=p+k))->DR d p q<=(EO d q k f b).1
 |0,f,b,_,h=>by
  rw[EO];rcases h with h|h
  .exact h
  omega
 |k+1,f,b,e,h=>by
  rw[EO];by_cases h0:f=0
  .rw[Wz h0];rcases h with h|h
   .exact h
   omega
  rw[Wx h0];obtain⟨a,_⟩:Bo d (f-1)=Bo d q/\f-1<q:=e.resolve_left h0;have j:=Sg d (Bo d<|f-1)<|f-1;refine Si c (k:=k) ?_ ?_
  .rcases aaD (Ce d (Bo d<|f-1)<|f-1) with h1|h1
   .exact .inl h1
   obtain⟨g,e⟩:∃g,Ce d (Bo d<|f-1) (f-1)=g+1:=⟨_,(abC h1).symm⟩;have:=Mx e;rw[e];exact .inr ⟨by rw[acB,this.1,a],A⟩
  rcases h with h|⟨h1,_⟩
  .left;split
   .show _<=DR d (f-1) q;omega
   exact h
  by_cases i:p=f-1
  .left;subst i;split
   .exact WF _
   omega
  right
  have:=UB (d:=d) (r:=Bo d<|f-1) (n:=f-1) (q:=p) (c.trans a.symm) A;omega
def ji(a:Bo d p=Bo d q)(b:p<q)(c:q+3<=d.size)(h:q<=p+128):DR d p q<=(Fn d q).1:=by
 unfold Fn;have c:=Sg d (Bo d q) q;have e:=UB (d:=d) (r:=Bo d q) (n:=q) (q:=p) a b;have e:DL d q=Ce d (Bo d q) q:=by rw[DL,Wx A]
 refine Si a ?_ (.inr ⟨A,A⟩);rcases aaD (DL d q) with h1|h1
 .exact .inl h1
 obtain⟨g,a⟩:∃g,DL d q=g+1:=⟨_,(abC h1).symm⟩;have:=Nq a;rw[a];exact .inr ⟨this.1,A⟩
def Iv(d:Y)(q:N):YL:=if(Fn d q).1=0 then .inl (As d q) else .inr ((Fn d q).1,(Fn d q).2)
def EC(d:Y)(q:N):N:=if(Fn d q).1=0 then 1 else(Fn d q).1
def Kx(d:Y)(q:N):1<=EC d q:=by unfold EC;split<;>omega
def Jl(d:Y):N->N->E YL
 |0,_=>[]
 |k+1,q=>if q<d.size then Iv d q::Jl d k (q+EC d q) else []
def Kb(d:Y):∀{k k' q:N},d.size<=q+k->d.size<=q+k'->Jl d k q=Jl d k' q
 |0,0,_,_,_=>rfl
 |0,k'+1,q,h,_=>by rw[Jl,Jl,Wx A]
 |k+1,0,q,_,h=>by rw[Jl,Jl,Wx A]
 |k+1,k'+1,q,h,a =>by
  rw[Jl,Jl];have:=Kx d q;split
  .rw[Kb d (k:=k) (k':=k') A A]
  rfl
def Cl(d:Y)(q:N):E YL:=Jl d d.size q
def Kc(h:q<d.size):Cl d q=Iv d q::Cl d (q+EC d q):=by
 have:=Kx d q;unfold Cl;obtain⟨k,a⟩:∃k,d.size=k+1:=⟨d.size-1,A⟩;rw[a,Jl,a,Wz A,Kb d (k:=k) (k':=k+1) A A]
def Kd(h:¬q<d.size):Cl d q=[]:=by
 unfold Cl;rw[Kb d (k:=d.size) (k':=0) A A];rfl
def Ep(d:Y)(q:N):E υ:=(List.range q).map λi=>b8<|As d i
def IM(d:Y)(q:N):(Ep d q).length=q:=by simp[Ep]
def Sj(d:Y)(q:N):Ep d (q+1)=Ep d q++[b8<|As d q]:=by simp[Ep,aaS]
def jj(d:Y)(q i:N)(h:i<q):(Ep d q).getD i 0=b8 (As d i):=by
 rw[Wq];simp[Ep,h]
def Pj(d:Y):(⟨(Ep d d.size).toArray⟩:Y)=d:=by
 apply aaj;apply adJ;intro i;show(Ep d d.size).toArray[i]? =_;rw[aaP];rcases wM i d.size with h|h
 .have e:=wB h;rw[e];simp only[Ep,aaI,adD h,abH];congr 1;unfold As;rw[abB h];show b8 (d.data[i]).toNat=_;simp[b8]
 rw[wj (by rw[IM];exact h),wO h]
def UF(a:1<=b)(c:b<=q):∀n,(∀i,i<n->As d (q-b+i)=As d (q+i))->Cc (Ep d q) b n=Ep d (q+n)
 |0,_=>rfl
 |n+1,h=>by
  rw[Cc,UF a c n λi _=>h i A,IM,jj _ _ _ A,show q+n-b=q-b+n by omega,h n A,<-aap,Sj]
def rk(d:Y)(q:N)(a:q<d.size)(b:d.size<=20000):Ha (Ep d q) (Iv d q)/\Xe (Ep d q) (Iv d q)=Ep d (q+EC d q)/\q+EC d q<=d.size:=by
 unfold Iv EC;rcases Oe d q with h|h
 .rw[h];refine⟨⟨Bj _ _,by rw[IM];omega⟩,?_,by show q+1<=_;omega⟩;exact(Sj d q).symm
 have g:=h.1;rw[Wx A,Wx A];obtain⟨_,a,e,b,c,f⟩:=h;refine⟨⟨g,a,b,by rw[IM];exact c,by rw[IM];omega⟩,?_,e⟩;exact UF b c _ f
def mK(d:Y)(c:d.size<=20000):∀k q,d.size-q=k->q<=d.size->qW (Ep d q) (Cl d q)/\(Cl d q).foldl Xe (Ep d q)=Ep d d.size:=by
 intro k;induction k using Nat.strongRecOn with
 |ind k e=>
  intro q b f;by_cases a:q<d.size
  .obtain ⟨f,b,g⟩:=rk d q a c;have:=Kx d q;obtain⟨c,h⟩:=e (d.size-(q+EC d q)) A (q+EC d q) rfl g;rw[Kc a];exact⟨⟨f,by rw[b];exact c⟩,by rw[acf,b];exact h⟩
  rw[Kd a];exact⟨trivial,by rw[show q=d.size by omega];rfl⟩
def GG(d:Y):Y:=⟨(AW<|ML (Cl d 0)).toArray⟩
def Qg(d:Y):(GG d).size=(AW<|ML (Cl d 0)).length:=by show(AW _).toArray.size=_;rw[wK]
def cK(d:Y)(a:d.size<=20000)(rest:E υ):AB ⟨(AW (ML<|Cl d 0)++rest).toArray⟩=(d,(GG d).size,0):=by
 obtain⟨b,c⟩:=mK d a d.size 0 A A;rw[mD (T:=Cl d 0) b,Qg];have e:(Cl d 0).foldl Xe []=Ep d d.size:=c;rw[e,Pj]
open Go.RowKit Go.Maps Go.Proofs.Tryz
def FJ(n:N):E N:=[1,0,0,0,0,0,0,0]++(Dt n 16++Dt (65535-n) 16)
def GH(n:N):(FJ n).length=40:=by simp[FJ,EL]
def cM(n:N):NX<|FJ n:=by
 refine NX.append (λ_ a=>?_) ((Gh _ _).append<|Gh _ _);simp at a;omega
def Ik(d:Y):E υ:=AW (FJ d.size)++Ep d d.size
def Jm(d:Y):Y:=⟨(Ik d).toArray⟩
def Nr(d:Y):(Ik d).length=d.size+5:=by rw[Ik,Ws,Bn,GH,IM];omega
def Qh(d:Y):(Jm d).size=d.size+5:=by show(Ik d).toArray.size=_;rw[wK,Nr]
def cN(d:Y)(f:d.size<=20000)(rest:E υ):AB ⟨(Ik d++rest).toArray⟩=(d,(Jm d).size,0):=by
 have a:=(RQ (cM d.size)<|Ep d d.size++rest).all;rw[Qh];rw[<-WG] at a;change At ⟨(Ik d++rest).toArray⟩ 0 (FJ d.size) at a;have b:∀i,i<d.size->As ⟨(Ik d++rest).toArray⟩ (5+i)=As d i:=by
  intro i e;have f:(AW<|FJ d.size).length=5:=by rw[Bn,GH]
  rw[YI _ (5+i) (b8<|As d i) (by
   rw[WW (by rw[Nr];omega),Ik,WU A,f,show 5+i-5=i by omega];simp[Ep,e])]
  exact AN<|Bj _ _
 have c:(⟨(Ik d++rest).toArray⟩:Y).size=d.size+5+rest.length:=by
  show(Ik d++rest).toArray.size=_;rw[wK,Ws,Nr]
 generalize(⟨(Ik d++rest).toArray⟩:Y)=s at a b c;have c:At s 8<|Dt d.size 16++Dt (65535-d.size) 16:=a.right;have f:=c.left.numV A;have g:At s 24<|Dt (65535-d.size) 16:=by have:=c.right;rw[EL] at this;exact this
 have c:=g.numV A;have h0:AV s 0=1:=a.2 0 (by rw[GH];omega);have g:AV s (1+0)=0:=a.2 1 (by rw[GH];omega);have h:AV s (1+1)=0:=a.2 2 (by rw[GH];omega);have j:Ar s (0+1) 2=0:=by
  have z:Ar s 1 2=Ar s 1 0+AV s (1+0)*2^0+AV s (1+1)*2^1:=rfl;rw[WQ,z,g,h];rfl
 have g:Ck (0+3)=8:=rfl;have a:LA s 5 d.size=Ep d d.size:=by
  unfold LA Ep;exact acw λi e=>by rw[b i<|wh.1 e]
 have b:EI s 0 []=.inl ((40+8*d.size),(Ep d d.size)):=by
  rw[EI,Wx A,Fm,j];show Iz s (0+3) []=_;rw[Iz,g,Wx A,f,c,Wx A,Wx ako,Wx A];show Sum.inl (_,(LA s 5 d.size))=_;rw[a]
 rw[AB,KR b h0,mt,Pj];congr 2;omega
def CZ(d:Y):Y:=if(Jm d).size<(GG d).size then Jm d else GG d
def Jn(d:Y):(CZ d).size<=d.size+5/\(CZ d).size<=(GG d).size:=by
 have:=Qh d;unfold CZ;split<;>omega
def KT(a:E υ)(b:Y):(⟨a.toArray⟩:Y)++b=⟨(a++b.data.toList).toArray⟩:=by
 apply aaj;simp
def jk(d:Y)(a:d.size<=20000)(b:Y):AB (CZ d++b)=(d,(CZ d).size,0):=by
 unfold CZ;split
 .rw[Jm,KT];exact cN d a _
 rw[GG,KT];exact cK d a _
def UG(d:Y)(p:N):Prop:= ∀i,i+p<d.size->As d (i+p)=As d i
def rm(c:p+3<=d.size)(e:q+3<=d.size)(h:∀i,i<3->As d (p+i)=As d (q+i)):Bo d p=Bo d q:=by
 apply ByteArray.ext_getElem
 .rw[IL,IL];omega
 intro i a f;have g:i<3:=by rw[IL] at a;omega
 have b:As (Bo d p) i=As (Bo d q) i:=by
  rw[Bo,Bo,De A c,De A e];exact h i g
 rw[<-AA a,<-AA f] at b;exact acA.1 b
def cO(f:UG d p)(c:1<=p)(a:p<=100)(e:p<=q)(c:q+3<=d.size):EC d q=Eo d q:=by
 have e:∀i,q+i<d.size->As d (q-p+i)=As d (q+i):=λi a=>by
  have:=f (q-p+i) A;rw[show q-p+i+p=q+i by omega] at this;exact this.symm
 have f:=rm A c λi a=>e i A;have b:=ji f A c A;have c:DR d (q-p) q=Eo d q:=Sh (λi a=>e i<|by unfold Eo at a;omega);rw[c] at b;have a:3<=Eo d q:=by unfold Eo;omega
 unfold EC;rw[Wx A];rcases Oe d q with h|h
 .rw[h] at b;have:Eo d q<=0:=b;omega
 obtain⟨_,_,_,_⟩:=h;unfold Eo at*;omega
def mL:(List.range 129).all (λa=>decide<|1<=a->Bb (CK a)<=5)=true:=by decide+kernel
def UH:(List.range 30).all (λy=>decide<|Bb y<=13)=true:=by decide+kernel
def LM(c:N):(GU (.inl c)).length<=9:=by rw[GU,GT];exact Xb c
def Zc(a b:N):(GU (.inr (a,b))).length=Ku (CD a)+AM (CD a)+5+Bb (CK b):=by
 simp only[GU,Ws,GT,EL,iU,Ev];omega
def Xh(a:d.size<=20000):(GU<|Iv d q).length<=31/\(q<=128->(GU<|Iv d q).length<=23/\(GU<|Iv d q).length<=9*EC d q):=by
 unfold Iv EC;rcases Oe d q with h|h
 .rw[h];have:=LM<|As d q;exact⟨by show(GU (.inl _)).length<=31;omega,λ_=>⟨by show(GU (.inl _)).length<=23;omega,by show(GU (.inl _)).length<=9;omega⟩⟩
 obtain⟨c,a,_,b,_,_⟩:=h;rw[Wx A,Wx A,Zc];have:=(RR _ c a).2.2.2.2;have:=(Pa _ b A).1;have:=wn (wC.1 UH _ (wh.2 (show CK (Fn d q).2<30 by omega)));refine⟨A,λ_=>?_⟩;have:=wn (wC.1 mL _ (wh.2 (show(Fn d q).2<129 by omega))) b;omega
def Lu(d:Y)(q:N):N:=(Gx<|Cl d q).length
def Ns(h:q<d.size):Lu d q=(GU<|Iv d q).length+Lu d (q+EC d q):=by
 unfold Lu;rw[Kc h,Jh,Ws]
def KU(h:¬q<d.size):Lu d q=0:=by unfold Lu;rw[Kd h];rfl
def Zd(h:d.size<q+3):Fn d q=(0,0):=by unfold Fn;rw[DL,Wz h];rfl
def cP(h:d.size<q+3):Lu d q<=9*(d.size-q):=by
 have a:∀r,d.size<r+3->r<d.size->Lu d r=(GU (.inl<|As d r)).length+Lu d (r+1):=by
  intro r c b;rw[Ns b];unfold Iv EC;rw[Zd c];rfl
 by_cases h0:q<d.size
 .have:=a q h h0;have b:=LM<|As d q;by_cases b:q+1<d.size
  .have:=a (q+1) A b;have:=LM<|As d (q+1);have a:=KU (d:=d) (q:=q+1+1) A;omega
  have:=KU (d:=d) (q:=q+1) b;omega
 have:=KU h0;omega
def jl(b:d.size<=20000)(c:UG d p)(e:1<=p)(a:p<=100):∀k q,d.size-q=k->p<=q->Lu d q<=31*((d.size-q)/258+1):=by
 intro k;induction k using Nat.strongRecOn with
 |ind k f=>
  intro q i g;by_cases h:d.size<q+3
  .have:=cP h;omega
  have h:=cO c e a g A;have:=(Xh (d:=d) (q:=q) b).1;rw[Ns A,h];unfold Eo;by_cases a:d.size-q<=258
  .rw[show min 258 (d.size-q)=d.size-q by omega];have:=KU (d:=d) (q:=q+(d.size-q)) A;omega
  rw[show min 258 (d.size-q)=258 by omega];have:=f (d.size-(q+258)) A (q+258) rfl A;omega
def cQ(c:d.size<=20000)(e:UG d p)(f:1<=p)(a:p<=100)(b:p<=d.size):∀k q,p-q=k->q<p->Lu d q<=9*(p-q)+23+31*((d.size-p)/258+1):=by
 intro k;induction k using Nat.strongRecOn with
 |ind k g=>
  intro q h i;obtain⟨_,_⟩:=(Xh (d:=d) (q:=q) c).2 A;have:=Kx d q;rw[Ns A];by_cases b:q+EC d q<p
  .have:=g (p-(q+EC d q)) A _ rfl b;omega
  have:=jl c e f a _ (q+EC d q) rfl A;have:(d.size-(q+EC d q))/258<=(d.size-p)/258:=Nat.div_le_div_right A;omega
def cR(b:d.size<=20000)(c:UG d p)(e:1<=p)(a:p<=100)(f:20*p<=d.size):2*(GG d).size<=d.size:=by
 have:=cQ b c e a A p 0 A A;rw[Qg,Bn];have a:(ML<|Cl d 0).length=3+(Lu d 0+7):=by
  simp only[ML,wu,Ws,GT,Lu];have:Ku 256=7:=rfl;omega
 rw[a];omega
def jm(c:d.size<=20000)(e:UG d p)(f:1<=p)(a:p<=100)(b:20*p<=d.size):2*(CZ d).size<=d.size:=by
 have:=cR c e f a b;have:=(Jn d).2;omega
def fU{a:E M}{u:M}(h:w.ownsRow 0 5 1 (K (J ⟨b,0,O⟩) n c) n a):(w.setCell ⟨b,i,O⟩ u).ownsRow 0 5 1 (K (J ⟨b,0,O⟩) n c) n<|a.set i u:=by
 obtain⟨a,f⟩:=h;refine⟨by rw[wk];exact a,?_⟩;rcases f with⟨d,_⟩|⟨g,_,e,j,k,l,m,o,p,q⟩
 .cases d
 injection j with d _ r;injection d with d;injection d with d;subst d r;refine .inr ⟨b,c,e.setIfInBounds i u,rfl,k,WL w b i e 5 u l,m,o,by rw[abh];exact p,?_⟩;rw[Array.toList_setIfInBounds,List.take_set,q]
def Wr(w:U)(g:N)(t:ν)(R:φ M)(S:N->Prop)(B:E N):Prop:=
 ∃ao cap,w.heap[g]? =J (W (#[K ao (AW B).length cap,I Q ((8*(AW B).length-B.length:N):Z)]++R) t (0,0))/\
  w.ownsRow 0 5 1 (K ao (AW B).length cap) (AW B).length (Al<|AW B)/\∀b:Addr,ao=J b->S b.block
def mM(a b:M)(R:φ M):(#[a,b]++R)[0]? =J a:=by rw[ach (show 0< #[a,b].size from Nat.two_pos)];rfl
def mN(a b:M)(R:φ M):(#[a,b]++R)[1]? =J b:=by rw[ach (show 1< #[a,b].size from adX 1)];rfl
def mO(a b v:M)(R:φ M):(#[a,b]++R).setIfInBounds 0 v= #[v,b]++R:=by
 apply acl;simp
def mP(a b v:M)(R:φ M):(#[a,b]++R).setIfInBounds 1 v= #[a,v]++R:=by
 apply acl;simp
section
variable {w:U} {g:N} {t:ν} {R:φ M} {a b:M}
def Sk(h:w.heap[g]? =J (W (#[a,b]++R) t (0,0))):w.cell? ⟨g,0,O⟩=J a:=by rw[Wu w g 0 _ _ (0,0) h];exact mM _ _ _
def Nt(h:w.heap[g]? =J (W (#[a,b]++R) t (0,0))):w.cell? ⟨g,1,O⟩=J b:=by rw[Wu w g 1 _ _ (0,0) h];exact mN _ _ _
def uU(h:w.heap[g]? =J (W (#[a,b]++R) t (0,0)))(v:M):(w.setCell ⟨g,0,O⟩ v).heap[g]? =J (W (#[v,b]++R) t (0,0)):=by
 rw[WL w g 0 _ _ v h,mO]
def Xi(h:w.heap[g]? =J (W (#[a,b]++R) t (0,0)))(v:M):(w.setCell ⟨g,1,O⟩ v).heap[g]? =J (W (#[a,v]++R) t (0,0)):=by
 rw[WL w g 1 _ _ v h,mP]
def KV(h:w.heap[g]? =J (W (#[a,b]++R) t (0,0))):g<w.heap.size:=(Wt.1 h).1
def Xj(e:t≠5)(h:w.heap[g]? =J (W (#[a,b]++R) t (0,0))){c:E M}(f:w.ownsRow 0 5 1 v n c)(i:v.ownBlock=J k):k≠g:=by
 rintro rfl;obtain⟨_,d⟩:=DD f i;rw[h] at d;injection d with d;injection d with _ c;exact e c
end
def ro(a:c<2^f)(d:b<2)(e:f<8):bits .or τ (c:Z) ((b*2^f:N):Z)=((c+b*2^f:N):Z):=by
 have:2^f<=2^7:=wg A A;have:b*2^f<=1*2^f:=aag _ A;rw[u8_or_nat _ _ A A,aee,aej f (b*2^f) c Ad a,acb]
def fV{b:E N}:Nb b (b.length/8) 8=Nb b (b.length/8) (b.length%8):=by
 have g:∀m,Nb b (b.length/8) (b.length%8+m)=Nb b (b.length/8) (b.length%8):=by
  intro m;induction m with
  |zero=>rfl
  |succ m a=>rw[<-aap,Nb,a,OZ b _ A];omega
 have:=g<|8-b.length%8;rw[show b.length%8+(8-b.length%8)=8 by omega] at this;exact this
def jo{b:E N}(h:b.length%8≠0):(AW b).getD ((AW b).length-1) 0=b8 (Nb b (b.length/8) 8):=by
 rw[Wq,Bn,Eu b _ A,show(b.length+7)/8-1=b.length/8 by omega];rfl
def rp(g:N)(t:ν)(ht:t≠5)(R:φ M)(S:N->Prop)(a6:S g)(d:E N)(hB:NX d)(hl:d.length<=1000000)(h8:d.length%8≠0)(b:N)(hb:b<2)(w:U)(a7:Wr w g t R S d):
 μ F 179 #[V<|J ⟨g,0,O⟩,I Q b] w λr w'=>r=ε (η #[])/\Ag S w w'/\Wr w' g t R S (d++[b]):=by
 obtain⟨_,h,s,j,x⟩:=a7;have y:=Bn d;obtain⟨e,_,a3,_,_⟩:=j.form A;injection a3 with a8 a9 b0;subst a8 b0;clear a9;have z:e≠g:=Xj ht s j rfl;have D:=Sk s;have P:=Nt s;have u:=RK j (k:=(AW d).length-1) A;have:=KV s;rw[jo h8,fV,AN (wG (Xa hB _ _) (show 2^(d.length%8)<=2^8 from wg A A))] at u;have T:=Xa hB (d.length/8)<|d.length%8;have b1:C<|AW (d++[b])=(AW d).set ((AW d).length-1) (b8<|Nb d (d.length/8) (d.length%8)+b*2^(d.length%8)):=by
  unfold C;rw[my b h8,fV]
 have b2:=WK w g 1 _ _ s;have b3:w.frozen? ⟨e,(AW d).length-1,O⟩=false:=by obtain⟨_,hg⟩:=DD j (b:=e) rfl;exact WK w e _ _ _ hg
 have HH:=H s;have b4:=H j;have a0:=H x;generalize b5:(AW d).length=n at*;generalize b6:8*n-d.length=f,hkk:n-1=k,hmm:d.length%8=m at*;generalize b7:Nb d (d.length/8) m=c at*;have:(n:Z)-1=(k:Z):=A;have:(8:Z)-(f:Z)=m:=A;have:(k:Z)<n:=A;have:(0:Z)<=(k:Z):=A;have:(0:Z)<=(m:Z):=A;have:(m:Z)<64:=A;have:=ww m;have:=ww k;have:=Aw m A;have:=Aw k A;have hp:2^m<=2^7:=wg A A;have b9:b*2^m<=1*2^m:=aag _ A;have he:(b:Z)*2^m=((b*2^m:N):Z):=alq
 have:IntKind.i64.wrap ((b:Z)*2^m)=((b*2^m:N):Z):=by rw[he];exact Aw _ A
 have:IntKind.u8.wrap ((b*2^m:N):Z)=((b*2^m:N):Z):=by rw[abd];omega
 have:=ro T hb (show m<8 by omega);have:((f:Z)==0)=false:=act
 generalize c0:b*2^m=bm at*;have a1:c+bm<256:=A;generalize c1:c+bm=q at*;have HQ:=H a1;have:=H y;have a2:C ((AW<|d++[b]).length=n):=by unfold C;rw[Bn,Ws,show([b]:E N).length=1 from rfl];omega
 have c2:C<|8*n-(d.length+1)=f-1:=by unfold C;omega
 have a3:(f:Z)-1=((f-1:N):Z):=A;have:IntKind.i64.wrap ((f:Z)-1)=(f:Z)-1:=akR
 have c3:=H a3;clear s j x he hmm b7 hkk b6 b5 y c1 a1 a3 T c0 b9 hp;go_in;go_upto_region 3 with fail;have a:w.drew.cell? ⟨g,0,O⟩=J (K (J ⟨e,0,O⟩) n h)/\w.drew.cell? ⟨g,1,O⟩=J (I Q f)/\w.drew.cell? ⟨e,k,O⟩=J (I τ c):=⟨D,P,u⟩;refine Ai (S:=λj=>j.cell? ⟨g,0,O⟩=J (K (J ⟨e,0,O⟩) n h)/\j.cell? ⟨g,1,O⟩=J (I Q f)/\j.cell? ⟨e,k,O⟩=J (I τ c)) (L:=22) B ?_;refine tk 0 23 (V<|J ⟨g,0,O⟩) 21 a ?_;refine tk 1 23 (V<|J ⟨g,0,O⟩) 22 a ?_;refine tk 2 23 (V<|J ⟨g,0,O⟩) 23 a ?_;refine tk 3 23 (K (J ⟨e,0,O⟩) n h) 24 a ?_;refine tk 4 23 (V<|J ⟨g,0,O⟩) 25 a ?_;refine tk 5 23 (V<|J ⟨g,0,O⟩) 26 a ?_;refine tk 6 23 (V<|J ⟨g,0,O⟩) 27 a ?_;refine tk 7 23 (K (J ⟨e,0,O⟩) n h) 28 a ?_;refine tk 8 23 (I Q n) 29 a ?_;refine tk 9 23 (I Q k) 30 a ?_;refine tk 10 23 (V<|J ⟨e,k,O⟩) 31 a ?_;refine tk 11 23 (I τ c) 32 a ?_;refine tk 12 23 (I Q b) 33 a ?_;refine tk 13 23 (V<|J ⟨g,0,O⟩) 34 a ?_;refine tk 14 23 (V<|J ⟨g,0,O⟩) 35 a ?_;refine tk 15 23 (V<|J ⟨g,1,O⟩) 36 a ?_;refine tk 16 23 (I Q f) 37 a ?_;refine tk 17 23 (I Q m) 38 a ?_;refine tk 18 23 (I Q bm) 39 a ?_;refine tk 19 23 (I τ bm) 40 a ?_;refine tk 20 23 (I τ q) 41 a ?_;refine tk 21 23 (V<|J ⟨e,k,O⟩) 42 a ?_;refine Ah (i:=22) B ?_;refine WE rfl λ_ j=>?_;go_simp;refine j _ _ ⟨λa7=>κ rfl a7,?_⟩;clear j;refine Aj B ?_;have l:(w.setCell ⟨e,k,O⟩<|I τ (q:Z)).drew.heap[g]? =J (W (#[K (J ⟨e,0,O⟩) n h,I Q f]++R) t (0,0)):=(aaK _ _ _ _ λc4=>z c4.symm).trans HH;have o:(w.setCell ⟨e,k,O⟩<|I τ (q:Z)).drew.ownsRow 0 5 1 (K (J ⟨e,0,O⟩) n h) n ((Al<|AW d).set k<|I τ (q:Z)):=fU b4;have a4:Ag S w (w.setCell ⟨e,k,O⟩<|I τ (q:Z)).drew:=((Ag.refl S w).setCell (p:=⟨e,k,O⟩) (λ_=>a0 ⟨e,0,O⟩ rfl) _).drew;generalize(w.setCell ⟨e,k,O⟩<|I τ (q:Z)).drew=w3 at*;have:=Nt l;have:=WK w3 g 1 _ _ l;have c5:=H l;have a5:=H o;have c6:=H a4;clear l o a4 a D P u b2 b3;go_wp2_with fail;go_end0;refine⟨rfl,c6.setCell (p:=⟨g,1,O⟩) (λ_=>a6) _,J ⟨e,0,O⟩,h,?_,?_,a0⟩
 .have e1:=X a2;rw[e1,Ws,show([b]:E N).length=1 from rfl,X c2,<-X c3];exact Xi c5 _
 have e1:=X a2;have a:Al (AW<|d++[b])=(Al<|AW d).set k (I τ (q:Z)):=by rw[X b1,Al,Al,List.map_set,AN HQ]
 rw[e1,a];exact CJ a5 (Aq w3 g 1 _) λ_ v c4=>by injection v with v;exact z<|v.trans c4
def mQ(g:N)(t:ν)(ht:t≠5)(R:φ M)(S:N->Prop)(P:S g)(f:E N)(hl:f.length<=1000000)(h8:f.length%8=0)(b:N)(hb:b<2)(w:U)(hF:BI S w)(b9:Wr w g t R S f):
 μ F 179 #[V<|J ⟨g,0,O⟩,I Q b] w λr w'=>r=ε (η #[])/\Ag S w w'/\Wr w' g t R S (f++[b]):=by
 obtain⟨ao,a1,x,T,a2⟩:=b9;obtain⟨i0,c0,c1,c2,c3⟩:=wi Ij;have c4:=Bn f;have c5:=H<|iR b h8;have hz:8*(AW f).length-f.length=0:=A;rw[hz] at x;have hA:Ag (λ_=>False) w<|w.alloc (W #[I τ (0:Z)] 5):=(Ag.refl _ w).alloc _;have c6:=Sk x;have c7:=Nt x;have c8:=KV x;have a3:=(hA.block g c8 λa=>a).trans x;have q:=H a3;have l:=H<|Dp T hA;have a4:=H a2;have c9:=H<|Gy (wr:=w) (n:=0);have m:C ((AW<|f++[b]).length=(AW f).length+1/\8*((AW f).length+1)-(f.length+1)=7):=⟨by rw[Bn,Bn,Ws];simp;omega,A⟩;have d0:C<|Al (AW<|f++[b])=(Al (AW f)++[Value.int τ ((0:N):Z)]).set (AW f).length (I τ (b:Z)):=by
  unfold C;have k:(Al<|AW f).length=(AW f).length:=ali
  rw[X c5,Al,wV,aai,aaF,AN A,<-k,List.set_append_right _ _<|WF _,abJ];rfl
 have c5:(AW f).length<=1000000:=A;have d1:((Al<|AW f).length)=(AW f).length:=ali
 generalize Al (AW f)=xs,(AW f).length=n at*;have d2:IntKind.i64.wrap ((n:Z)+1-1)=(n:Z):=akR
 have f:IntKind.u8.wrap (b:Z)=b:=by rw[abd];omega
 have f:=Aw b A;have c5:IntKind.i64.wrap 0=0:=Aw 0 A;have f:bits .or τ (0:Z) (b:Z)=b:=by have:=u8_or_nat 0 b A A;rw[Nat.zero_or] at this;exact this
 have f:=H λ(e1:N) (hk:e1<w.heap.size)=>hk;clear x T a2 c4 hz hA a3 f;go_in;go_upto_region 3 with(at_builtin;refine wpList_append_lies _ rfl (.tmp 13) (.tmp 14) 64 rfl 0 5 i0 (I τ 0) 1 1 underlying64 c0 c1 c2 c3 rfl A (K ao n a1) n _ rfl l ⟨w.heap.size,0,O⟩ 1 1 [I τ ((0:N):Z)] rfl rfl c9 alj A (by unfold maxLen;omega) A A (w.heap.size+1) Ad ?_;intro e c s a2 T a3 f;have x:(Value.slice ao n a1).ownBlock≠J g:=(λk=>Xj ht q l k rfl);have f:=(T.block g (KV q) λk=>x k.symm).trans q;have d3:=Sk f;have a5:=Nt f;have d4:=WK s g 0 _ _ f;have a6:=WK s g 1 _ _ f;have o:=H f;have a0:=H a2;have a7:=H T;have a8:=H a3;clear a2 T a3 f x);have h:((s.setCell ⟨g,0,O⟩<|K (J ⟨e,0,O⟩) (n+1) c).setCell ⟨g,1,O⟩<|I Q 8).heap[g]? =J (W (#[K (J ⟨e,0,O⟩) (n+1) c,I Q 8]++R) t (0,0)):=Xi (uU o _) _;have u:e≠g:=Xj ht o a0 rfl;have j:((s.setCell ⟨g,0,O⟩<|K (J ⟨e,0,O⟩) (n+1) c).setCell ⟨g,1,O⟩<|I Q 8).ownsRow 0 5 1 (K (J ⟨e,0,O⟩) (n+1) c) (n+1)<|xs++[I τ ((0:N):Z)]:=
  CJ (CJ a0 (Aq s g 0 _) λ_ d k=>by injection d with d;exact u<|d.trans k) (Aq _ g 1 _) λ_ d k=>by injection d with d;exact u<|d.trans k
 have a9:Ag S w ((s.setCell ⟨g,0,O⟩<|K (J ⟨e,0,O⟩) (n+1) c).setCell ⟨g,1,O⟩<|I Q 8):=by
  have d5:Ag S w s:=(Ag.refl S w|>.alloc (W #[I τ (0:Z)] 5)).grown a7 (λe1 _ hk=>by
   cases ao with
   |none=>cases hk
   |some b=>injection hk with hk;subst hk;exact a4 b rfl)
  exact(d5.setCell (p:=⟨g,0,O⟩) (λ_=>P) _).setCell (p:=⟨g,1,O⟩) (λ_=>P) _
 have b0:S e:=by
  rcases X a8 with h5|h5
  .cases ao with
   |none=>cases h5
   |some b=>injection h5 with h5;rw[<-h5];exact a4 b rfl
  rw[h5];exact hF _ A
 have b1:(xs++[Value.int τ ((0:N):Z)])[n]? =J (I τ ((0:N):Z)):=by rw[<-d1];simp
 have b2:((s.setCell ⟨g,0,O⟩<|K (J ⟨e,0,O⟩) (n+1) c).setCell ⟨g,1,O⟩<|I Q 8).cell? ⟨e,n,O⟩=J (I τ ((0:N):Z)):=by
  have f:=j.cells rfl n _ b1;rw[we,WQ] at f;exact f
 generalize(s.setCell ⟨g,0,O⟩<|K (J ⟨e,0,O⟩) (n+1) c).setCell ⟨g,1,O⟩ (I Q 8)=w4 at*;have y:=Sk h;have z:=Nt h;have d6:w4.frozen? ⟨e,n,O⟩=false:=by obtain⟨_,f⟩:=DD j (b:=e) rfl;exact WK w4 e _ _ _ f
 have b3:=H h;have b4:=H j;have d7:=H a9;have f:(0:Z)<=(n:Z):=A;have d8:(n:Z)<n+1:=A;clear h j a9 d3 a5 d4 a6 o a0 a7 a8 q l c6 c7 b1;generalize b5:n+1=n1 at*;have:(n1:Z)-1=(n:Z):=A;have f:(n:Z)<n1:=A;have h:=Aw n A;clear d2 d8 b5;have a:w4.drew.cell? ⟨g,0,O⟩=J (K (J ⟨e,0,O⟩) n1 c)/\w4.drew.cell? ⟨g,1,O⟩=J (I Q 8)/\w4.drew.cell? ⟨e,n,O⟩=J (I τ 0):=⟨y,z,b2⟩;refine Ai (S:=λf=>f.cell? ⟨g,0,O⟩=J (K (J ⟨e,0,O⟩) n1 c)/\f.cell? ⟨g,1,O⟩=J (I Q 8)/\f.cell? ⟨e,n,O⟩=J (I τ 0)) (L:=22) B ?_;refine tk 0 23 (V<|J ⟨g,0,O⟩) 21 a ?_;refine tk 1 23 (V<|J ⟨g,0,O⟩) 22 a ?_;refine tk 2 23 (V<|J ⟨g,0,O⟩) 23 a ?_;refine tk 3 23 (K (J ⟨e,0,O⟩) n1 c) 24 a ?_;refine tk 4 23 (V<|J ⟨g,0,O⟩) 25 a ?_;refine tk 5 23 (V<|J ⟨g,0,O⟩) 26 a ?_;refine tk 6 23 (V<|J ⟨g,0,O⟩) 27 a ?_;refine tk 7 23 (K (J ⟨e,0,O⟩) n1 c) 28 a ?_;refine tk 8 23 (I Q n1) 29 a ?_;refine tk 9 23 (I Q n) 30 a ?_;refine tk 10 23 (V<|J ⟨e,n,O⟩) 31 a ?_;refine tk 11 23 (I τ 0) 32 a ?_;refine tk 12 23 (I Q b) 33 a ?_;refine tk 13 23 (V<|J ⟨g,0,O⟩) 34 a ?_;refine tk 14 23 (V<|J ⟨g,0,O⟩) 35 a ?_;refine tk 15 23 (V<|J ⟨g,1,O⟩) 36 a ?_;refine tk 16 23 (I Q 8) 37 a ?_;refine tk 17 23 (I Q 0) 38 a ?_;refine tk 18 23 (I Q b) 39 a ?_;refine tk 19 23 (I τ b) 40 a ?_;refine tk 20 23 (I τ b) 41 a ?_;refine tk 21 23 (V<|J ⟨e,n,O⟩) 42 a ?_;refine Ah (i:=22) B ?_;refine WE rfl λ_ f=>?_;go_simp;refine f _ _ ⟨λb9=>κ rfl b9,?_⟩;clear f;refine Aj B ?_;have v:(w4.setCell ⟨e,n,O⟩<|I τ (b:Z)).drew.heap[g]? =J (W (#[K (J ⟨e,0,O⟩) n1 c,I Q 8]++R) t (0,0)):=(aaK _ _ _ _ λk=>u k.symm).trans b3;have D:(w4.setCell ⟨e,n,O⟩<|I τ (b:Z)).drew.ownsRow 0 5 1 (K (J ⟨e,0,O⟩) n1 c) n1 ((xs++[Value.int τ ((0:N):Z)]).set n<|I τ (b:Z)):=fU b4;have b6:Ag S w (w4.setCell ⟨e,n,O⟩<|I τ (b:Z)).drew:=(d7.setCell (p:=⟨e,n,O⟩) (λ_=>b0) _).drew;generalize(w4.setCell ⟨e,n,O⟩<|I τ (b:Z)).drew=w5 at*;have:=Nt v;have:=WK w5 g 1 _ _ v;have d9:=H v;have b7:=H D;have e0:=H b6;clear v D b6 a y z b2 d6;go_wp2_with fail;go_end0;refine⟨rfl,e0.setCell (p:=⟨g,1,O⟩) (λ_=>P) _,J ⟨e,0,O⟩,c,?_,?_,λ_ d =>by injection d with d;subst d;exact b0⟩
 .rw[(X m).1,Ws,show([b]:E N).length=1 from rfl,m.2];exact Xi d9 _
 rw[(X m).1,X d0];exact CJ b7 (Aq w5 g 1 _) λ_ d k=>by injection d with d;exact u<|d.trans k
abbrev uV:ν:=269
def KW(L:E N)(n:N):E N:=if n=0 then [] else Cs L n
def Dg(w:U)(gs:N)(K:N->Prop)(L:E N):Prop:=
 ∃J0:φ M,w.heap[gs]? =J (W J0 uV (0,0))/\K gs/\(∀n,n<=15->J0[n]? =J (I Q (AO L n:N)))/\
  ∀n,n<=15-> ∃ao cap,J0[16+n]? =J (.slice ao (KW L n).length cap)/\∀j,j<(KW L n).length-> ∃b,ao=J ⟨b,0,O⟩/\K b/\w.cell? ⟨b,j,O⟩=J (I Q ((KW L n).getD j 0:N))
def Ag.oldS(h:Am w w'):Ag S w w':=h.mono λ_ _ x=>x.elim
def Rg{j:N}(h:w.cell? ⟨b,j,O⟩=J v):b<w.heap.size:=by
 rcases wM b w.heap.size with hl|hl
 .exact hl
 have:w.cell? ⟨b,j,O⟩=none:=by simp[World.cell?,wO hl]
 rw[this] at h;cases h
def Dg.kept(h:Dg w c a L)(d:Ag S w w')(e:∀k,a k->¬S k):Dg w' c a L:=by
 obtain⟨a,f,g,i,j⟩:=h;refine⟨a,(d.block c (Wt.1 f).1<|e c g).trans f,g,i,λn c=>?_⟩;obtain⟨f,a,g,h⟩:=j n c;refine⟨f,a,g,λj f=>?_⟩;obtain⟨b,g,a,c⟩:=h j f;exact⟨b,g,a,(d.cell (p:=⟨b,j,O⟩) (Rg c)<|e b a).trans c⟩
def Dg.old(h:Dg w b a L)(c:Am w w'):Dg w' b a L:=h.kept c λ_ _ x=>x
def Dg.lt(h:Dg w b a L):b<w.heap.size:=ahI
def mR(e:N)(g:N->Prop)(L:E N)(t:L.length<=400)(n v:N)(j:1<=n)(c:n<=15)(l:v<65536)(w:U)(k:Dg w e g L):
 μ F 299 #[V<|J ⟨e,0,O⟩,.agg #[I Q v,I Q n]] w λr w'=>Am w w'/\
  ((AO L n<=v/\v<AO L n+(Cs L n).length/\r=ε (η #[I Q ((Cs L n).getD (v-AO L n) 0:N),ζ θ]))\/(¬(AO L n<=v/\v<AO L n+(Cs L n).length)/\r=ε (η #[I Q 0,ζ ι]))):=by
 have:=k.lt;obtain⟨g,j,_,u,x⟩:=k;have:w.cell? ⟨e,n,O⟩=J (I Q (AO L n:N)):=by rw[Wu w e n g _ (0,0) j];exact u n c
 obtain⟨y,k,l,m⟩:=x n c;have c:KW L n=Cs L n:=Wx A;rw[c] at l m;have:w.cell? ⟨e,16+n,O⟩=J (K y (Cs L n).length k):=by rw[Wu w e (16+n) g _ (0,0) j];exact l
 have:AO L n<=52428800:=by
  have:=Mq L n;have:2^(n+1)<=2^16:=wg A A;have:2^(n+1)*L.length<=65536*400:=abm A t;omega
 have:=WI (RA L n) t;have z:=H m;have:(n:Z)<16:=A;have:(0:Z)<=(n:Z):=A;clear j u x l m c;generalize D:AO L n=f,hR:Cs L n=R at*;have a:C<|Am w (w.alloc<|W #[I Q (v:Z),I Q (n:Z)] 234):=(Ag.refl _ w).alloc _;clear D hR;by_cases o:f<=v
 .by_cases p:v<f+R.length
  .obtain ⟨b,P,_,h⟩:=z (v-f) A;subst P;have:=Rg h;obtain⟨d,q⟩:∃d,d=v-f:=⟨_,rfl⟩;rw[<-q] at h;have:(v:Z)-f=(d:Z):=A;have s:(d:Z)<R.length:=A;have i:¬(d:Z)<0:=A;have:(0:Z)<=(d:Z):=A;have c:=H q;clear q;go_in;go_wp2_with fail;go_quiet (fail);go_wp2_with fail;go_quiet (fail);go_wp2_with fail;go_quiet (fail);go_wp2;go_ret2;exact⟨((a.drewN _).drewN _).drewN _,.inl ⟨o,p,by rw[<-X c];rfl⟩⟩
  have:¬(v:Z)-f<(R.length:Z):=A;have i:¬(v:Z)-f<0:=A;have c:¬(v:Z)<f:=A;exact agQ
 have:(v:Z)-f<0:=A;have:(v:Z)<f:=A;exact agQ
def Ze{v:N}(a:n+1<=15)(b:a'<8*s.size)(a:AO L (n+1)<=2*v+AV s a')(c:2*v+AV s a'<AO L (n+1)+(Cs L<|n+1).length):
 EB s L (15-n) v a'=J ((Cs L<|n+1).getD (2*v+AV s a'-AO L (n+1)) 0,a'+1):=by
 rw[show 15-n=(14-n)+1 by omega,EB,Wz b,show 15-(14-n)=n+1 by omega,Wz ⟨a,c⟩]
def cS{v:N}(a:n+1<=15)(b:a'<8*s.size)(h:¬(AO L (n+1)<=2*v+AV s a'/\2*v+AV s a'<AO L (n+1)+(Cs L<|n+1).length)):
 EB s L (15-n) v a'=EB s L (15-(n+1)) (2*v+AV s a') (a'+1):=by
 rw[show 15-n=(14-n)+1 by omega,EB,Wz b,show 15-(14-n)=n+1 by omega,Wx h,show 15-(n+1)=14-n by omega]
def jp{v:N}(a:n+1<=15)(b:¬a'<8*s.size):EB s L (15-n) v a'=none:=by
 rw[show 15-n=(14-n)+1 by omega,EB,Wx b]
def Sl(w:U)(cb v n:N):Prop:=w.heap[cb]? =J (W #[I Q (v:N),I Q (n:N)] 234 (0,0))
def Xk(g:N)(s:Y)(hs:s.size<=140737488355328)(a:N)(o:M)(ha:a<=8*s.size)(gs:N)(u:N->Prop)(a7:¬u g)(L:E N)(hL:L.length<=400)(w:U)(a8:∀k,u k->k<w.heap.size)(a9:Up w g s a o)(hS:Dg w gs u L):
 μ F 253 #[V<|J ⟨g,0,O⟩,V<|J ⟨gs,0,O⟩] w λr w'=>Ag (λk=>k=g) w w'/\∃a',a'<=8*s.size/\Up w' g s a' o/\
  ((∃y,dec s L a=J (y,a')/\r=ε (η #[I Q (y:N),ζ θ]))\/(dec s L a=O/\r=ε (η #[I Q 0,ζ ι]))):=by
 have:=a9.lt;have R:C<|Up (w.alloc<|W #[I Q 0,I Q 0] 234) g s a o:=a9.kept ((Ag.refl (λ_=>False) w).alloc _) λx=>x;have S:=H<|hS.old ((Ag.refl _ w).alloc<|W #[I Q 0,I Q 0] 234);have c:C<|Sl (w.alloc<|W #[I Q 0,I Q 0] 234) w.heap.size 0 0:=WD w _;clear a9 hS;go_in;go_wp2;go_loopw [7,8,9,10] (λ_ _ _ _ wr=>∃v n:N,n<=15/\v<32768/\wr.cell? ⟨w.heap.size,0,O⟩=J (I Q (v:N))/\wr.cell? ⟨w.heap.size,1,O⟩=J (I Q (n:N))/\C (Sl wr w.heap.size v n)/\C (v<2^n)/\
  C (Dg wr gs u L)/\C (∃a',a'<=8*s.size/\Up wr g s a' o/\dec s L a=EB s L (15-n) v a')/\C (Ag (λk=>k=g) w wr)) λ_ _ _ _ wr=>15-Ls wr w.heap.size 1
 .exact ⟨0,0,A,A,by rw[Wu _ _ 0 _ _ (0,0) c];rfl,by rw[Wu _ _ 1 _ _ (0,0) c];rfl,c,adG,S,⟨a,ha,R,rfl⟩,(Ag.refl _ w).alloc _⟩
 obtain⟨v,n,_,_,b0,T,m,c,b1,q,HO⟩:=hrel;obtain⟨a',P,h,i⟩:=X q;have b2:=WK wr w.heap.size 0 _ _ m;have b3:=WK wr w.heap.size 1 _ _ m;have HM:=H<|AR T;by_cases R:n<15
 .have a0:(n:Z)<15:=A;have a1:g≠w.heap.size:=A;by_cases l:a'<8*s.size
  .have HB:=H<|fK g s hs a' o l wr h;have:=GP s a';have:2^n<=2^14:=wg A A;have:v<16384:=by have:=X c;omega
   have b4:C<|2*v+AV s a'<2^(n+1):=by have:=X c;unfold C;rw[abj];omega
   have j:=H i;have HF:=H (Ze (s:=s) (L:=L) (v:=v) (show n+1<=15 by omega) l);have HN:=H (cS (s:=s) (L:=L) (v:=v) (show n+1<=15 by omega) l);have a2:=H λe c=>mR gs u L hL (n+1) (2*v+AV s a') A A A e c;rw[show((2*v+AV s a':N):Z)=2*(v:Z)+(AV s a':Z) by omega,show((n+1:N):Z)=(n:Z)+1 by omega] at a2;generalize AV s a'=b at*;clear h i q;go_wp2_with fail;apply HB.mono;rintro r e ⟨rfl,t,d⟩;have c:Sl e w.heap.size v n:=(d.block w.heap.size (Wt.1 m).1 A).trans m;have:e.cell? ⟨w.heap.size,0,O⟩=J (I Q (v:N)):=by rw[Wu _ _ 0 _ _ (0,0) c];rfl
   have:e.cell? ⟨w.heap.size,1,O⟩=J (I Q (n:N)):=by rw[Wu _ _ 1 _ _ (0,0) c];rfl
   have:=WK e w.heap.size 0 _ _ c;have:=WK e w.heap.size 1 _ _ c;have u:Sl ((e.setCell ⟨w.heap.size,0,O⟩<|I Q (2*(v:Z)+b)).setCell ⟨w.heap.size,1,O⟩<|I Q ((n:Z)+1)) w.heap.size (2*v+b)<|n+1:=by
    have m:=WL e w.heap.size 0 _ _ (I Q<|2*(v:Z)+b) c;have R:=WL _ w.heap.size 1 _ _ (I Q ((n:Z)+1)) m;exact R
   have m:Ag (λk=>k=w.heap.size) e ((e.setCell ⟨w.heap.size,0,O⟩<|I Q (2*(v:Z)+b)).setCell ⟨w.heap.size,1,O⟩<|I Q ((n:Z)+1)):=((Ag.refl (λk=>k=w.heap.size) e).setCell (p:=⟨w.heap.size,0,O⟩) (λ_=>rfl) _).setCell (p:=⟨w.heap.size,1,O⟩) (λ_=>rfl) _;have x:=H ((b1.kept d λk f z=>a7 (z ▸ f)).kept m λk f _=>by have:=a8 k f;omega);have a3:=H<|t.kept m a1;have b5:=H ((HO.trans d).transNew m λ_ f _=>κ f A);have z:=H u;clear t d c u m HB b0 T b2 b3;go_wp2_with fail;generalize(e.setCell ⟨w.heap.size,0,O⟩<|I Q (2*(v:Z)+b)).setCell ⟨w.heap.size,1,O⟩ (I Q ((n:Z)+1))=w2 at*;apply(a2 _ x).mono;rintro r w3 ⟨c,b6⟩;have D:=H (a3.kept c λf=>f);have a4:=H<|b5.trans (Ag.oldS c);have f:C<|Sl w3 w.heap.size (2*v+b) (n+1):=(c.block w.heap.size (Wt.1 z).1 λm=>m).trans z;have a5:=H<|x.old c;clear c;rcases b6 with⟨k1,k2,rfl⟩|⟨k1,rfl⟩
   .go_wp2;go_ret2;exact⟨a4,a'+1,A,D,.inl ⟨_,by rw[X j];exact HF k1 k2,rfl⟩⟩
   go_wp2;go_roundw
   .exact ⟨2*v+b,n+1,A,A,by rw[Wu _ _ 0 _ _ (0,0) f];rfl,by rw[Wu _ _ 1 _ _ (0,0) f];rfl,f,b4,a5,⟨a'+1,A,D,by rw[X j];exact HN k1⟩,a4⟩
   rw[X HM,AR (show w3.cell? ⟨w.heap.size,1,O⟩=J (I Q ((n+1:N):Z)) by rw[Wu _ _ 1 _ _ (0,0) f];rfl)];omega
  have HB:=H<|YH g s hs a' o l P wr h;have j:=H i;clear h i q;go_wp2_with (go_at_call 249;refine HB.mono ?_;rintro r e ⟨rfl,a6,d⟩;have c:=H a6;have e:=H d;clear a6 d);go_ret2;exact⟨HO.trans e,a',P,c,.inr ⟨by rw[X j];exact jp A l,rfl⟩⟩
 have:¬(n:Z)<15:=A;have c:n=15:=A;have d:=H h;have j:=H i;clear h i q;go_wp2;go_ret2;exact⟨HO,a',P,d,.inr ⟨by rw[X j,c];rfl,rfl⟩⟩
def rq(g:N)(s:Y)(D:s.size<=140737488355328)(a:N)(o:M)(y:N)(u:a<=8*s.size)(w:U)(x:Up w g s a o):
 μ F 254 #[V<|J ⟨g,0,O⟩,I Q y] w λr w'=>Ag (λk=>k=g) w w'/\∃a',a'<=8*s.size/\Up w' g s a' o/\
  ((257<=y/\y<=285/\a+AM y<=8*s.size/\a'=a+AM y/\r=ε (η #[I Q ((Bg y+Ar s a (AM y):N):Z),ζ θ]))\/
   (¬(257<=y/\y<=285/\a+AM y<=8*s.size)/\∃n:Z,r=ε (η #[I Q n,ζ ι]))):=by
 by_cases f:257<=y/\y<=285
 .have c:=H λh=>Nm y f.1 f.2 h;have j:AM y<=5:=by unfold AM;repeat (first|split|omega)
  have:=Nl f.2;have l:=H<|Gf g s D a o (AM y) A u w x;have:=Cv s a<|AM y;have:2^AM y<=2^5:=wg A j;have z:=H f;generalize L:AM y=bb,Bg y=lb at*;go_in;go_wp2_with fail;apply(c _).mono;rintro r h ⟨rfl,rfl⟩;go_wp2_with fail;apply l.mono;rintro r P ⟨i,m⟩;rcases m with⟨p,rfl,d⟩|⟨p,rfl,d⟩
  .have b:=H d;have e:=H i;generalize q:Ar s a bb=v at*;have t:=H q;go_wp2;go_ret2;exact⟨e,a+bb,p,b,.inl ⟨z.1,z.2,p,rfl,by rw[aav,X t];rfl⟩⟩
  have b:=H d;have e:=H i;go_wp2;go_ret2;exact⟨e,8*s.size,WF _,b,.inr ⟨A,_,rfl⟩⟩
 have c:=H λh=>co y f h;have b:=H x;go_in;go_wp2_with fail;apply(c _).mono;rintro r h ⟨rfl,rfl⟩;go_wp2;go_ret2;exact⟨Ag.refl _ _,a,u,b,.inr ⟨A,_,rfl⟩⟩
def Nc(s:Y)(D:E N)(a:N):Option<|N×N:=match dec s D a with
 |none=>O
 |some (d,a3)=>if 29<d then O else if 8*s.size<a3+Bb d then O else J (AY d+Ar s a3 (Bb d),a3+Bb d)
def jq(g:N)(s:Y)(hs:s.size<=140737488355328)(a:N)(o:M)(ha:a<=8*s.size)(R:N)(y:N->Prop)(S:¬y g)(D:E N)(hD:D.length<=400)(w:U)(T:∀k,y k->k<w.heap.size)(a3:Up w g s a o)(hS:Dg w R y D):
 μ F 255 #[V<|J ⟨g,0,O⟩,V<|J ⟨R,0,O⟩] w λr w'=>Ag (λk=>k=g) w w'/\∃a',a'<=8*s.size/\Up w' g s a' o/\
  ((∃f,f<=32769/\Nc s D a=J (f,a')/\r=ε (η #[I Q (f:N),ζ θ]))\/(Nc s D a=O/\∃n:Z,r=ε (η #[I Q n,ζ ι]))):=by
 have a0:=H<|Xk g s hs a o ha R y S D hD w T a3 hS;go_in;go_wp2_with fail;apply a0.mono;rintro r w1 ⟨j,h,l,b,m⟩;rcases m with⟨d,P,rfl⟩|⟨P,rfl⟩
 .have i:=H P;have:d<400:=by have:=(Ih P).2.2;omega
  by_cases p:29<d
  .have q:=H λx=>mx d p x;have c:=H b;have e:=H j;go_wp2_with fail;apply(q _).mono;rintro r x ⟨rfl,rfl⟩;go_wp2;go_ret2;exact⟨e,h,l,c,.inr ⟨by unfold Nc;rw[X i];exact Wz p,_,rfl⟩⟩
  have q:=H λx=>RP d A x;have:=mh (d:=d) A;have y:Bb d<=16:=by unfold Bb;split<;>omega
  have a2:=H<|Gf g s hs h o (Bb d) y l w1 b;have:=Cv s h<|Bb d;have z:C (Nc s D a=if 8*s.size<h+Bb d then O else J (AY d+Ar s h (Bb d),h+Bb d)):=by unfold C Nc;rw[X i];exact Wx p
  have e:=H j;generalize Bb d=bb,AY d=db at*;go_wp2_with fail;apply(q _).mono;rintro r x ⟨rfl,rfl⟩;go_wp2_with fail;apply a2.mono;rintro r w3 ⟨p,m⟩;have L:=H<|e.trans p;rcases m with⟨k1,rfl,t⟩|⟨k1,rfl,t⟩
  .have u:=H t;generalize Ar s h bb=v at*;go_wp2;go_ret2;exact⟨L,h+bb,k1,u,.inl ⟨db+v,A,by rw[X z,Wx A],by rw[aav];rfl⟩⟩
  have u:=H t;go_wp2;go_ret2;exact⟨L,8*s.size,WF _,u,.inr ⟨by rw[X z,Wz k1],_,rfl⟩⟩
 have c:=H b;have e:=H j;have i:=H P;go_wp2;go_ret2;exact⟨e,h,l,c,.inr ⟨by unfold Nc;rw[X i],_,rfl⟩⟩
section
variable {P:Program} {ops:φ Oper} {Q:Exit->Act->U->Prop} {md:Region.Mode} {S:U->Prop} {late:N->Bool}
def Fp(P:Program)(md:Region.Mode)(ops:φ Oper)(Q:Exit->Act->U->Prop)(S:U->Prop)(late:N->Bool):N->φ Bool->Act->U->Prop
 |0,ls,a,w=>Region.ready md ops ls=[]/\Q .normal a w
 |n+1,ls,a,w=>(Region.ready md ops ls=[]->Q .normal a w)/\∀i∈Region.ready md ops ls,wpOp P ops Q i (λa' w'=>(late i=ι->S w')/\Fp P md ops Q S late n (ls.setIfInBounds i θ) a' w') a w
def Zf(n:N):∀(g:φ Bool) (a:Act) (w:U),Fp P md ops Q S late n g a w->wpAny P md ops Q n g a w:=agR
def Sm(md:Region.Mode)(ops:φ Oper)(late:N->Bool)(ls:φ Bool)(f i:N):Bool:=(List.range ops.size).all λj=> !late j||ls.getD j θ||Jf md ops (f+1) j i
def cT{x:Oper}(hi:ops[i]? =J x)(hs:Region.noSelect ops=θ)
 (hQ:∀c a w,Q (.panic c) (a.put x.dst v) w->Q (.panic c) a w)(n:N):∀(g:φ Bool) (a:Act) (w:U),(∀j,late j=θ->g.getD j θ=ι->j≠i->Jf md ops (f+1) j i=θ)->OV md ops g->
  (∀j D,ops[j]? =J D->j≠i->g.getD j θ=ι->(∀e∈D.after,Region.binds md e=θ->e.on≠i)->x.apart ops D=θ)->
  i∈Region.ready md ops g->YieldsIf P ops S x v a->S w->
  Fp P md ops Q S late n (g.setIfInBounds i θ) (a.put x.dst v) w->Fp P md ops Q S late (n+1) g a w:=by
 induction n with
 |zero=>
  intro g a w _ _ _ y R d H;exact afw
 |succ n ih=>
  intro g a w hL p l y R d H;refine⟨λh=>κ (h ▸ y) aaT,λj hj=>?_⟩;rcases Nat.decEq j i with hji|rfl
  .obtain ⟨m,D,z,q⟩:=acL.1 hj;have N5:=(acL.1 y).1;have V9:¬g.getD i ι=true:=by
    intro h1;exact afP
   have r:∀e∈D.after,Region.binds md e=θ->e.on≠i:=λe he T L=>V9<|by rw[<-L];exact q e he T
   have T:late j=false:=by
    rcases hlj:late j with _|_
    .rfl
    exfalso;have L:=hL j hlj m hji;rw[Jf,z] at L;obtain⟨e,he,h1⟩:=VS L;exact ahk
   have h2:=wpOp_putIf z (l j D z hji m r) (λL b=>abi hs i x L b hi) (λx b=>abi hs j D x b z) hQ R<|H.2 j (abR hj hji);refine adK (λx z h3=>⟨h3.2.1,ih (g.setIfInBounds j θ) x z ?_ (RJ p hj) ?_ (abR y<|Ne.symm hji) h3.1 (h3.2.1 T) ?_⟩) h2
   .intro k hk hu u;refine hL k hk ?_ u;by_cases s:j=k
    .subst s;exact m
    rw[adH θ s] at hu;exact hu
   .exact afl
   exact ajb
  exact agH
def jt{x:Oper}(D:ops[i]? =J x)(T:Region.noSelect ops=θ)(f:late i=θ)
 (hQ:∀c a w,Q (.panic c) (a.put x.dst v) w->Q (.panic c) a w)(n:N):∀(g:φ Bool) (a:Act) (w:U),
  (∀j d,ops[j]? =J d->j≠i->g.getD j θ=ι->(∀e∈d.after,Region.binds md e=θ->e.on≠i)->x.apart ops d=θ)->
  i∈Region.ready md ops g->YieldsIf P ops (λ_=>True) x v a->
  Fp P md ops Q S late n (g.setIfInBounds i θ) (a.put x.dst v) w->Fp P md ops Q S late (n+1) g a w:=by
 have t:∀{w:U},late i=ι->S w:=λh=>by rw[f] at h;cases h
 induction n with
 |zero=>
  intro g a w _ p y q;refine⟨λh=>κ (h ▸ p) aaT,λj z=>?_⟩;rcases Nat.decEq j i with hji|rfl
  .exact κ (q.1 ▸ abR z hji) aaT
  exact y.wpOp D trivial ⟨t,q⟩
 |succ n ih=>
  intro g a w l p y q;refine⟨λh=>κ (h ▸ p) aaT,λj z=>?_⟩;rcases Nat.decEq j i with hji|rfl
  .obtain ⟨m,d,f,h⟩:=acL.1 z;have N5:=(acL.1 p).1;have L:¬g.getD i ι=true:=by
    intro h1;exact afP
   have r:∀e∈d.after,Region.binds md e=θ->e.on≠i:=λe he hb R=>L<|by rw[<-R];exact h e he hb
   have h:=wpOp_putIf f (l j d f hji m r) (λr b=>abi T i x r b D) (λr b=>abi T j d r b f) hQ y<|q.2 j (abR z hji);refine adK (λd f h3=>⟨h3.2.1,ih (g.setIfInBounds j θ) d f ?_ (abR p<|Ne.symm hji) h3.1 ?_⟩) h
   .exact afl
   exact ajb
  exact y.wpOp D trivial ⟨t,q⟩
def rr{b:φ Bool}(h:Sm md ops late b f i=θ)(d:b.size=ops.size):∀j,late j=θ->b.getD j θ=ι->j≠i->Jf md ops (f+1) j i=true:=by
 intro j e a _;have c:j<ops.size:=by
  rcases wM j ops.size with h|h
  .exact h
  rw[abG,wO A] at a;cases a
 have b:=wC.1 h j<|wh.2 c;rw[e,a] at b;simpa using b
def Zg{x:Oper}{b:φ Bool}{a:Act}(d:Option Tmp)(h:ops[i]? =J x)(j:x.dst=d)
 (k:Region.noSelect ops=θ)(e:(Sm md ops late b f i&&decide (b.size=ops.size))=θ)(g:NV md ops b=θ)(l:Region.free md ops b i=θ)(m:(Region.ready md ops b).contains i=θ)
 (o:∀c a w,Q (.panic c) (a.put d v) w->Q (.panic c) a w)(p:YieldsIf P ops S x v a)(q:S w)
 (r:Fp P md ops Q S late n (b.setIfInBounds i θ) (a.put d v) w):Fp P md ops Q S late (n+1) b a w:=by
 subst j;simp only[wo,aae] at e;exact cT h k o n b a w (rr e.1 e.2) (Uo g) (adr h l) (by simpa using m) p q r
def Bx{x:Oper}{b:φ Bool}{a:Act}(d:Option Tmp)(f:ops[i]? =J x)(g:x.dst=d)
 (h:Region.noSelect ops=θ)(e:late i=θ)(j:Region.free md ops b i=θ)(k:(Region.ready md ops b).contains i=θ)
 (l:∀c a w,Q (.panic c) (a.put d v) w->Q (.panic c) a w)(m:YieldsIf P ops (λ_=>True) x v a)
 (o:Fp P md ops Q S late n (b.setIfInBounds i θ) (a.put d v) w):Fp P md ops Q S late (n+1) b a w:=by
 subst g;exact jt f h e l n b a w (adr f j) (by simpa using k) m o
def Ba{b:φ Bool}{a:Act}(y:Region.ready md ops b=[i])
 (h:wpOp P ops Q i (λa' w'=>(late i=ι->S w')/\Fp P md ops Q S late n (b.setIfInBounds i θ) a' w') a w):Fp P md ops Q S late (n+1) b a w:=aij
def FR{b:φ Bool}{a:Act}(c:Region.ready md ops b=[])(h:Q .normal a w):Fp P md ops Q S late 0 b a w:=⟨c,h⟩
def EP{a:Act}(c:P.follows .mixedOrders=θ)
 (h:Fp P .any ops Q S late ops.size (Array.replicate ops.size ι) a w.drew):(Code.region b ops θ).wp P Q a w:=
 wp_region_any c (Zf _ _ _ _ h)
end
theorem tg{P:Program}{ops:Array Oper}{Q:Exit→Act→World→Prop}{md:Region.Mode}{S:World→Prop}{late:Nat→Bool}(i f:Nat)(v:Value)(k:Nat){oi:Oper}{n:Nat}{ls:Array Bool}{a:Act}{w:World}{q:Prop}(hS:S w)(g:q)(hi:ops[i]? =some oi:=by rfl)(hd:oi.dst=some k:=by rfl)(hs:Region.noSelect ops=true:=by kernel_rfl)(hL:(Sm md ops late ls f i&&decide (ls.size=ops.size))=true:=by kernel_rfl)(hcl:NV md ops ls=true:=by kernel_rfl)(hf:Region.free md ops ls i=true:=by kernel_rfl)(hr:(Region.ready md ops ls).contains i=true:=by kernel_rfl)(hQ: ∀c a w,Q (.panic c) (a.put (some k) v) w→Q (.panic c) a w:=by exact fun _ _ _ h=>h)(hy:YieldsIf P ops S oi v a:=by exact .inl ⟨rfl,fun W hW=>by (repeat obtain ⟨_,hW⟩:=hW);go_simp⟩)(h:q→Fp P md ops Q S late n (ls.setIfInBounds i true) (a.put (some k) v) w:=by intro g;simp only[Act.put,List.setIfInBounds_toArray,List.set_cons_zero,List.set_cons_succ];exact g):Fp P md ops Q S late (n+1) ls a w:=
 Zg (some k) hi hd hs hL hcl hf hr hQ hy hS (h g)
def KX{c:E M}(h:w.ownsRow 0 5 1 v n c)(d:v.ownBlock=J b){a:N}{o:M}(y:Up w g s a o):b≠g:=by
 rintro rfl;obtain⟨_,hg⟩:=DD h d;exact agk
def NO(w:U)(g:N)(S:N->Prop)(s:Y)(a:N)(l:E υ):Prop:=
 ∃ao cap,Up w g s a (K ao l.length cap)/\w.ownsRow 0 5 1 (K ao l.length cap) l.length (Al l)/\∀b:Addr,ao=J b->S b.block
def NO.next{a:N}{ao:Option Addr}(hr:Up w g s a<|K ao l.length cap)
 (d:w.ownsRow 0 5 1 (K ao l.length cap) l.length<|Al l)(e:∀b:Addr,ao=J b->S b.block)(f:Ag (λk=>k=g) w w')(c :Up w' g s a'<|K ao l.length cap):NO w' g S s a' l:=
 ⟨ao,cap,c,CJ d f λ_ c=>KX d c hr,e⟩
def NO.push{w1 w3:U}(j:S g){a:N}{ao:Option Addr}{g2 cap2 H:N}(t:c<256)(u:S H)
 (r:∀b:Addr,ao=J b->S b.block)(k:Ag S w w1)(f:Up w1 g s a<|K ao l.length cap)(n:w1.ownsRow 0 5 1 (K ao l.length cap) l.length<|Al l)
 (m:w3.ownsRow 0 5 1 (K (J ⟨g2,0,O⟩) (l.length+1) cap2) (l.length+1)<|Al l++[I τ (c:Z)])(h:w1.grownBy w3 (Value.slice ao l.length cap).ownBlock)(o:(Value.slice ao l.length cap).ownBlock=J g2\/g2=H):
 Up w3 g s a (K ao l.length cap)/\Ag S w (w3.setCell ⟨g,2,O⟩<|K (J ⟨g2,0,O⟩) (l.length+1) cap2)/\NO (w3.setCell ⟨g,2,O⟩<|K (J ⟨g2,0,O⟩) (l.length+1) cap2) g S s a (l++[b8 c]):=by
 have d:Up w3 g s a<|K ao l.length cap:=(h.block g f.lt λi=>KX n i.symm f rfl).trans f;have q:Ag S w w3:=k.grown h (λ_ _ i=>by
  cases ao with
  |none=>cases i
  |some b=>injection i with i;subst i;exact r b rfl)
 have e:(l++[b8 c]).length=l.length+1:=Ad;refine⟨d,q.setCell (p:=⟨g,2,O⟩) (λ_=>j) _,J ⟨g2,0,O⟩,cap2,?_,?_,?_⟩
 .rw[e];exact d.set2 _
 .have e2:Al (l++[b8 c])=Al l++[I τ (c:Z)]:=by simp only[Al,wV,aai,aaF];rw[AN t]
  exact ajl
 intro b hb;injection hb with hb;subst hb;rcases o with h5|h5
 .cases ao with
  |none=>cases h5
  |some b=>injection h5 with h5;rw[<-h5];exact r b rfl
 show S g2;rw[h5];exact u
def yN(g:N)(S:N->Prop)(b2:S g)(s:Y)(a:N)(l:E υ)(n d:N)(d2:1<=d)(d3:d<=l.length)(d4:l.length+n<=20000)(w:U)(hF:BI S w)(h:NO w g S s a l):
 μ F 256 #[V<|J ⟨g,0,O⟩,I Q n,I Q d] w λr w'=>r=ε (η #[])/\Ag S w w'/\NO w' g S s a (Cc l d n):=by
 obtain⟨i0,b3,b4,b5,b6⟩:=wi Ij;have m:=H h;clear h;go_in;go_wp2;go_loopw [7] (λi wr=>∃j:N,j<=n/\i=I Q j/\C (NO wr g S s a<|Cc l d j)/\C (Ag S w wr)) λi _=>n-(intOf i).toNat
 .exact ⟨0,A,rfl,m,Ag.refl _ w⟩
 obtain⟨j,_,rfl,m,HO⟩:=hrel;by_cases d5:j<n
 .have b7:(j:Z)<n:=A;obtain⟨_,z,hr,y,a1⟩:=X m;have T:=hr.c2;have b9:=Mr l d j;obtain⟨b,_,c0,_,_⟩:=y.form A;injection c0 with c1 c3 c4;subst c1 c4;have c5:C<|Cc l d (j+1)=Cc l d j++[(Cc l d j).getD ((Cc l d j).length-d) 0]:=H rfl;have o:=RK y (k:=(Cc l d j).length-d) A;have c6:=GN ((Cc l d j).getD ((Cc l d j).length-d) 0);have c7:=H<|Uq ((Cc l d j).getD ((Cc l d j).length-d) 0);have c8:d<=(Cc l d j).length:=A;have c9:(Cc l d j).length<=20300:=A;have HR:=H hr;have a2:=H y;have d0:=H a1;clear b9 hr y a1 m c3;generalize Cc l d j=lj at*;generalize lj.getD (lj.length-d) 0=cb at*;generalize a3:cb.toNat=c at*;generalize a4 :lj.length=nl at T o c8 c9;have d1:=H a4;have y:=H a3;clear a3;obtain⟨i,a5⟩:∃i,i=nl-d:=⟨_,rfl⟩;rw[<-a5] at o;have d6:(nl:Z)-d=(i:Z):=A;have y:(0:Z)<=(i:Z):=A;have a1:(i:Z)<nl:=A;have y:=Aw i A;clear a5;have e:wr.drew.cell? ⟨g,2,O⟩=J (K (J ⟨b,0,O⟩) nl z)/\wr.drew.cell? ⟨b,i,O⟩=J (I τ c):=⟨T,o⟩;go_upto_region 2 with fail;refine EP (S:=λf=>f.cell? ⟨g,2,O⟩=J (K (J ⟨b,0,O⟩) nl z)/\f.cell? ⟨b,i,O⟩=J (I τ c)) (late:=λf=>f==0||decide (19<=f)) B ?_;refine Bx (i:=0) (v:=V<|J ⟨g,0,O⟩) (J 9) rfl rfl B rfl B B (λ_ _ _ h=>h) (.inl ⟨rfl,λ_ _=>by go_simp⟩) ?_;simp only[Act.put,WH,WT,WV];refine tg 1 22 (V<|J ⟨g,0,O⟩) 10 e ?_;refine tg 2 22 (V<|J ⟨g,0,O⟩) 11 e ?_;refine tg 3 22 (V<|J ⟨g,2,O⟩) 12 e ?_;refine tg 4 22 (K (J ⟨b,0,O⟩) nl z) 13 e ?_;refine tg 5 22 (V<|J ⟨g,0,O⟩) 14 e ?_;refine tg 6 22 (V<|J ⟨g,0,O⟩) 15 e ?_;refine tg 7 22 (V<|J ⟨g,2,O⟩) 16 e ?_;refine tg 8 22 (K (J ⟨b,0,O⟩) nl z) 17 e ?_;refine tg 9 22 (V<|J ⟨g,0,O⟩) 18 e ?_;refine tg 10 22 (V<|J ⟨g,0,O⟩) 19 e ?_;refine tg 11 22 (V<|J ⟨g,2,O⟩) 20 e ?_;refine tg 12 22 (K (J ⟨b,0,O⟩) nl z) 21 e ?_;refine tg 13 22 (I Q nl) 22 e ?_;refine tg 14 22 (I Q d) 23 e ?_;refine tg 15 22 (I Q i) 24 e ?_;refine tg 16 22 (V<|J ⟨b,i,O⟩) 25 e ?_;refine tg 17 22 (I τ c) 26 e ?_;have e:Ag (λ_=>False) wr<|wr.drew.alloc (W #[I τ (c:Z)] 5):=(Ag.refl (λ_=>False) wr).drew.alloc _;have a6:=H (HR.kept e λx=>x);have D:=H<|Dp a2 e;have y:=H<|Gy (wr:=wr.drew) (n:=c);have a1:(wr.drew.alloc<|W #[I τ (c:Z)] 5).cell? ⟨g,2,O⟩=J (K (J ⟨b,0,O⟩) nl z)/\(wr.drew.alloc<|W #[I τ (c:Z)] 5).cell? ⟨b,i,O⟩=J (I τ c):=⟨(e.cell (p:=⟨g,2,O⟩) HR.lt λx=>x).trans T,(e.cell (p:=⟨b,i,O⟩) (Rg o) λx=>x).trans o⟩;have a7:=H<|HO.trans (Ag.oldS (S:=S) e);refine Ba (i:=18) B ?_;refine WE rfl λ_ q=>?_;go_simp;refine q _ _ ⟨λ_=>a1,?_⟩;clear q;refine Ba (i:=19) B ?_;have f:=X d1;have t:=X D;rw[f] at t;refine DE rfl rfl (wp_append_lies _ (.tmp 13) (.tmp 27) 64 rfl 0 5 i0 (I τ 0) 1 1 underlying64 b3 b4 b5 b6 rfl A (K (J ⟨b,0,O⟩) nl z) nl _ rfl t ⟨wr.heap.size,0,O⟩ 1 1 [I τ (c:Z)] rfl rfl y alj A (by unfold maxLen;omega) A A _ rfl ?_);intro g2 L w3 a8 a9 b0 e;have P:=X a6;obtain⟨u,a0,x⟩:=NO.push (w:=w) (w1:=wr.drew.alloc<|W #[I τ (c:Z)] 5) (w3:=w3) (S:=S) b2 (l:=lj) (ao:=J ⟨b,0,O⟩) (cap:=z) (g2:=g2) (cap2:=L) (c:=c) c6 (hF _<|by have:=a7.size;exact this) d0 a7 P D (by rw[f];exact a8) (by rw[f];exact a9) (by rw[f];exact b0);have R:=u.c2;have b1:=u.thaw 2;rw[f] at R a0 x;refine⟨(λh=>by cases h),?_⟩;clear a8 a9 b0 P t;simp only[Act.put,WH];refine Ba (i:=20) B ?_;refine WE rfl λ_ q=>?_;go_simp;refine q _ _ ⟨(λh=>by cases h),?_⟩;clear q;refine Ba (i:=21) B ?_;refine WE rfl λ_ q=>?_;go_simp;refine q _ _ ⟨(λh=>by cases h),?_⟩;clear q;refine Ba (i:=22) B ?_;refine WE rfl λ_ q=>?_;go_simp;refine q _ _ ⟨(λh=>by cases h),?_⟩;clear q;refine FR B ?_;have O3:=H a0;have G0:C<|NO (w3.setCell ⟨g,2,O⟩<|K (J ⟨g2,0,O⟩) (nl+1) L) g S s a (Cc l d<|j+1):=by
   have:=x;rw[X c7,<-X c5] at this;exact this
  clear a0 x u R b1;exact aiU
 have:¬(j:Z)<n:=A;have q:j=n:=A;subst q;go_wp2_with fail;go_end0;exact⟨rfl,HO,m⟩
def Cm(kf:N->N)(x:E8)(p:Y):N->E8
 |0=>x
 |m+1=>PX kf (Cm kf x p m)<|p.extract (64*m) (64*m+64)
def Of{a:N->N}{x:E8}(b:x.ok)(p:Y)(m:N):(Cm a x p m).ok:=by
 cases m with
 |zero=>exact b
 |succ m=>exact E8.plus_ok _ _
def AH(h:Am w w'){o:Obj}(a:w.heap[g]? =J o):w'.heap[g]? =J o:=
 (h.block g (Wt.1 a).1 λx=>x).trans a
def Ky(w:U)(g:N)(a:φ M):Ag (λk=>k=g) w<|w.setRow g a:=(Ag.refl (λk=>k=g) w).setRow g (λ_=>rfl) a
def mS(x:E8):(FH x).all (·.oneCell')=true:=tN _ _ _ _ _ _ _ _
def tR{x:E8}(h:w.heap[g]? =J (W (FH x) 97 (0,0))):(loadVar 97 ⟨g,0,O⟩).run F w=.ok (.agg<|FH x) w:=
 ada w g _ _ _ _ _ h underlying97 rfl JW
def cU{f:N->N}(h:w.heap[g]? =J (W (CQ f) 140 (0,0))):(loadVar 140 ⟨g,0,O⟩).run F w=.ok (.agg<|CQ f) w:=
 ada w g _ _ _ _ _ h underlying140 rfl (by rw[CQ,Bm];exact QX)
def My{o:Oper}{a:Act}{b:Act->U->Prop}{Q:Exit->Act->U->Prop}(x y:Operand)(d:o.op=.store 97 x y)(e:o.dst=O)(g:N)(z:E8)
 (f:a.eval x=V (J ⟨g,0,O⟩))(h:a.eval y=.agg (FH z)){c:E8}(i:w.heap[g]? =J (W (FH c) 97 (0,0)))
 (c:b a<|w.setRow g (FH z)):o.wp F a w b Q:=
 adx _ x y d g (FH z) f h _ _ i (by rw[FH,Bm];exact JW) (by rw[FH,FH,Bm,Bm]) (mS z) (by rw[e];exact c)
def Sn(x:E8)(hx:x.ok)(a:N->N)(hk:∀t,a t<4294967296)(s:Y)(u:s.size%64=0)(hl:s.size<=140737488355328)(w:U):
 μ F 113 #[.agg<|FH x,.agg<|CQ a,G s] w λe w'=>e=ε (.agg<|FH (Cm a x s<|s.size/64))/\Am w w':=by
 have HS:=H u;go_in;go_wp2;go_loopw [7] (λi wr=>∃m k:N,k<=s.size/\i=I Q k/\C (k=64*m)/\C (wr.heap[w.heap.size]? =J (W (FH<|Cm a x s m) 97 (0,0)))/\C (wr.heap[w.heap.size+1]? =J (W (CQ a) 140 (0,0)))/\C (wr.heap[w.heap.size+2]? =J (W (FH ⟨0,0,0,0,0,0,0,0⟩) 97 (0,0)))/\C (Am w wr)) λi _=>s.size-(intOf i).toNat
 .exact ⟨0,0,A,rfl,rfl,((FZ.mk' (n:=8) (f:=λj=> I .u32<|x.nth j) rfl rfl).alloc _).alloc _,(FZ.mk' (n:=64) (f:=λj=> I .u32<|a j) Ad rfl).alloc _,FZ.mk' (n:=8) (f:=λj=> I .u32<|E8.nth ⟨0,0,0,0,0,0,0,0⟩ j) Ad rfl,(((Ag.refl _ w).alloc _).alloc _).alloc _⟩
 obtain⟨m,k,_,rfl,c,b,i,T,HO⟩:=hrel;by_cases u:k<s.size
 .have l:k+64<=s.size:=by have:=X c;have:=X HS;omega
  have u:(s.extract k<|k+64).size=64:=akS
  have o:=H λd=>bZ (s.extract k<|k+64) u d;have d:=H λg=>VO (Cm a x s m) (Of hx s m) a (wt<|s.extract k (k+64)) hk (MX _) g;generalize hy:Cm a x s m=y at b d;have HY:=H hy;have j:C<|PX a y (s.extract k<|k+64)=(Cr a (wt<|s.extract k (k+64)) 64 y).plus y:=by unfold C;rw[PX]
  generalize wt (s.extract k<|k+64)=wf at o d j;generalize(Cr a wf 64 y).plus y=z at d j;have:(k:Z)+64<=(s.size:Z):=A;have:(0:Z)<=(k:Z):=A;have:(k:Z)<=k+64:=A;have:((k:Z)+64).toNat=k+64:=A;have:IntKind.i64.wrap ((k:Z)+64)=(k:Z)+64:=akR
  go_upto_region 4 with fail;refine Ai (S:=λg=>g.heap[w.heap.size]? =J (W (FH y) 97 (0,0))/\g.heap[w.heap.size+1]? =J (W (CQ a) 140 (0,0))) (L:=9) B ?_;refine AL (i:=0) (v:=.agg<|FH y) (J 14) rfl rfl B B B B (λ_ _ _ h=>h) (IJ rfl _ _ rfl ⟨w.heap.size,0,O⟩ rfl _ λ_ g=>tR g.1) ⟨b,i⟩ ?_;simp only[Act.put,WH,WT,WV];refine AL (i:=1) (v:=.agg<|CQ a) (J 15) rfl rfl B B B B (λ_ _ _ h=>h) (IJ rfl _ _ rfl ⟨w.heap.size+1,0,O⟩ rfl _ λ_ g=>cU g.2) ⟨b,i⟩ ?_;simp only[Act.put,WH,WT,WV];refine AL (i:=2) (v:=G s) (J 16) rfl rfl B B B B (λ_ _ _ h=>h) (.inl ⟨rfl,λ_ _=>by go_simp⟩) ⟨b,i⟩ ?_;simp only[Act.put,WH,WT,WV];refine AL (i:=3) (v:=I Q k) (J 17) rfl rfl B B B B (λ_ _ _ h=>h) (.inl ⟨rfl,λ_ _=>by go_simp⟩) ⟨b,i⟩ ?_;simp only[Act.put,WH,WT,WV];refine AL (i:=4) (v:=I Q k) (J 18) rfl rfl B B B B (λ_ _ _ h=>h) (.inl ⟨rfl,λ_ _=>by go_simp⟩) ⟨b,i⟩ ?_;simp only[Act.put,WH,WT,WV];refine AL (i:=5) (v:=I Q<|k+64) (J 19) rfl rfl B B B B (λ_ _ _ h=>h) (.inl ⟨rfl,λ_ _=>by go_simp⟩) ⟨b,i⟩ ?_;simp only[Act.put,WH,WT,WV];refine AL (i:=6) (v:=G<|s.extract k (k+64)) (J 20) rfl rfl B B B B (λ_ _ _ h=>h) (.inl ⟨rfl,λ_ _=>by go_simp⟩) ⟨b,i⟩ ?_;simp only[Act.put,WH,WT,WV];refine Ah (i:=7) B ?_;refine WE rfl λ_ D=>?_;go_simp;apply(o _).mono;rintro e w5 ⟨rfl,g⟩;have p:=AH g b;have q:=AH g i;have P:=AH g T;have R:C<|Am w w5:=Ag.trans HO.drew g;refine D _ _ ⟨λ_=>⟨p,q⟩,?_⟩;refine Ah (i:=8) B ?_;refine WE rfl λ_ D=>?_;go_simp;apply(d _).mono;rintro e r ⟨rfl,h⟩;have d:=AH h p;have g:=AH h q;have i:=AH h P;have o:C<|Am w r:=Ag.trans R h;refine D _ _ ⟨λ_=>⟨d,g⟩,?_⟩;refine Ah (i:=9) B ?_;refine DE rfl rfl<|My (.tmp 3) (.tmp 22) rfl rfl w.heap.size z rfl rfl d ?_;refine⟨λh=>κ rfl h,Aj B ?_⟩;go_wp2;go_roundw
  .refine ⟨m+1,k+64,l,by go_num,(show k+64=64*(m+1) by have:=X c;omega),?_,?_,?_,o.setRow _ (λh=>κ h<|aac _) _⟩
   .have e:Cm a x s (m+1)=z:=(by rw[Cm,X HY,<-X c];exact j);rw[e];exact aaa r w.heap.size _ _ _ _ d
   .exact ((Ky r w.heap.size _).block _ (Wt.1 g).1 A).trans g
   exact((Ky r w.heap.size _).block _ (Wt.1 i).1 A).trans i
  exact Ae
 have d:s.size/64=m:=by have:=X c;omega
 have D:C<|Cm a x s (s.size/64)=Cm a x s m:=H (by rw[d]);have ha:=X b;have hc:=X T;generalize Cm a x s m=y at ha b D;go_wp2_with (first
  |(refine abQ rfl 97 (.tmp 3) rfl w.heap.size rfl 97 (FH y) (0,0) _ ha underlying97 rfl JW ?_)
  |(refine aal rfl 97 (.tmp 6) (.tmp 23) rfl (w.heap.size+2) (FH y) rfl rfl 97 _ hc JW (by rw[FH,FH,Bm,Bm]) (mS y) ?_))
 refine wI (v:=.agg<|FH y) (abe results113 _ _ (w.heap.size+2) 97 (FH y) (0,0) _ rfl (aaa wr (w.heap.size+2) _ (FH y) _ _ hc) underlying97 rfl JW) rfl ⟨?_,?_⟩
 .rw[X D]
 exact HO.setRow _ (λh=>κ h A) _
def Qi(p:Y)(m:N):GQ p m=Cm CU h0 p m:=by
 induction m with
 |zero=>rfl
 |succ m a=>rw[GQ,Cm,a]
def Zh(a:N->N)(x:E8)(p b :Y)(m:N)(h:∀i,i<m->p.extract (64*i) (64*i+64)=b.extract (64*i) (64*i+64)):Cm a x p m=Cm a x b m:=by
 induction m with
 |zero=>rfl
 |succ m c=>rw[Cm,Cm,c λi _=>h i A,h m A]
def ju(a:N->N)(x:E8)(p b :Y)(q r:N)(h:∀i,i<r->p.extract (64*(q+i)) (64*(q+i)+64)=b.extract (64*i) (64*i+64)):Cm a x p (q+r)=Cm a (Cm a x p q) b r:=by
 induction r with
 |zero=>rfl
 |succ r c=>rw[<-aap,Cm,Cm,c λi _=>h i A,h r A]
def Xl(c:N->N)(x:E8)(a b:Y)(q r:N)(e:a.size=64*q)(d:b.size=64*r):Cm c x (a++b) (q+r)=Cm c (Cm c x a q) b r:=by
 rw[ju c x (a++b) b q r,Zh c x (a++b) a q]
 .intro i c;rw[ByteArray.extract_append,show b.extract (64*i-a.size) (64*i+64-a.size)=ByteArray.empty by rw[show 64*i+64-a.size=0 by omega,ady];omega];simp
 intro i c;rw[ByteArray.extract_append,show a.extract (64*(q+i)) (64*(q+i)+64)=ByteArray.empty by rw[ady];omega,show 64*(q+i)-a.size=64*i by omega,show 64*(q+i)+64-a.size=64*i+64 by omega];simp
