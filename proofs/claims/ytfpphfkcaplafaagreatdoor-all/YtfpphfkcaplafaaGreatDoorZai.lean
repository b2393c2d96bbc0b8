import Derived.Test.YtfpphfkcaplafaaGreatDoorZaf
import Derived.Test.YtfpphfkcaplafaaGreatDoorZah
import Derived.Lib.ConvBytes
import Derived.Laws.IdiomStrings
set_option linter.all false
set_option maxHeartbeats 64000000
set_option maxRecDepth 100000
open _root_ renaming Option.some->J,Option.none->O,Int->Z,Nat->N,Go.Value.int->I,Go.Value.string->G,Go.IntKind.i64->Q,ByteArray->Y,List->E,Go.World->U,Go.Value.slice->K,Go.Value->M,Go.Obj.cells->W,Go.Value.pointer->V,Go.RowKit.Hid->C,Go.Proofs.Tryz.prog->F,Go.Ending.returned->ε,absurd->κ,Go.Calls->μ,Go.TypeId->ν,Go.IntKind.u32->σ,UInt8->υ,Array->φ
variable{w w':U}{g i k n q:N}{t:ν}{R:φ M}{S T:N->Prop}{a b:E N}{d nm:Y}{l:E υ}
namespace Go.Proofs.YtfpphfkcaplafaaGreatDoor
open Go.RowKit Go.Maps Go.Proofs.Tryz
def dw(d:Y)(a:d.size<=20000)(w:U):
 μ F 121 #[G d] w λr w'=>r=ε (V<|J ⟨w.heap.size+2,0,O⟩)/\Am w w'/\Fd w' (w.heap.size+2) w.heap.size (w.heap.size+1) d 0/\w'.heap.size=w.heap.size+3:=by
 have:= @acF F;obtain⟨i,b,c,e,f⟩:=wi KO;have:∀a:U,(Instr.makeSlice 100 (I Q (d.size:Z))<|I Q (d.size:Z)).run F a=.ok (K (J ⟨a.heap.size,0,O⟩) d.size d.size) (a.alloc<|W (madeCells #[I Q 0] d.size) 3):=by
  intro a;have h:=acO (P:=F) a 100 3 i _ underlying100 b c .i64 .i64 d.size d.size A A (by rw[f];omega) A;rw[e,ww,abz] at h;exact h
 have j:(Am w (((w.alloc (.map #[] 0)).alloc<|W (madeCells #[I Q 0] d.size) 3).alloc<|W #[G d,.map<|J w.heap.size,K (J ⟨w.heap.size+1,0,O⟩) d.size d.size] rv)):=(((Ag.refl _ w).alloc _).alloc _).alloc _;have a:(((w.alloc (.map #[] 0)).alloc<|W (madeCells #[I Q 0] d.size) 3).alloc<|W #[G d,.map<|J w.heap.size,K (J ⟨w.heap.size+1,0,O⟩) d.size d.size] rv).ownsMap F 9 (plainElem (H:=Unit) F 3) w.heap.size 0 (.map []):=
  ((adf w F 9<|plainElem F 3).alloc _).alloc _
 have b:EH (((w.alloc (.map #[] 0)).alloc<|W (madeCells #[I Q 0] d.size) 3).alloc<|W #[G d,.map<|J w.heap.size,K (J ⟨w.heap.size+1,0,O⟩) d.size d.size] rv) (w.heap.size+1) 3 d.size (λ_=> I Q ((0:N):Z)):=by
  have h:=(EH.new (w.alloc (.map #[] 0)) (madeCells #[I Q 0] d.size) 3 d.size (λ_=> I Q ((0:N):Z)) (by simp[madeCells]) λ_ c=>by simp[madeCells,c,acn]).alloc<|W #[G d,.map<|J w.heap.size,K (J ⟨w.heap.size+1,0,O⟩) d.size d.size] rv;rw[WP] at h;exact h
 have k:(Fd (((w.alloc (.map #[] 0)).alloc<|W (madeCells #[I Q 0] d.size) 3).alloc<|W #[G d,.map<|J w.heap.size,K (J ⟨w.heap.size+1,0,O⟩) d.size d.size] rv) (w.heap.size+2) w.heap.size (w.heap.size+1) d 0):=by
  refine⟨?_,⟨_,a,LN.zero d⟩,λ_=>0,b,λ_ _ _=>A⟩;have h:=WD ((w.alloc (.map #[] 0)).alloc<|W (madeCells #[I Q 0] d.size) 3)<|W #[G d,.map<|J w.heap.size,K (J ⟨w.heap.size+1,0,O⟩) d.size d.size] rv;rw[WP,WP] at h;exact h
 have g:((((w.alloc (.map #[] 0)).alloc<|W (madeCells #[I Q 0] d.size) 3).alloc<|W #[G d,.map<|J w.heap.size,K (J ⟨w.heap.size+1,0,O⟩) d.size d.size] rv).heap.size=w.heap.size+3):=by
  rw[WP,WP,WP]
 go_in;go_wp2;go_ret;exact⟨rfl,j,k,g⟩
abbrev wrT:ν:=146
def Xq:wrT≠5:=Ac
def Wr.slice(h:Wr w g t R S b):∃ao cap,w.cell? ⟨g,0,O⟩=J (K ao (AW b).length cap)/\∀n,(convert 64 9<|K ao (AW b).length cap).run F (w.drewN n)=.ok (G ⟨(AW b).toArray⟩) (w.drewN n):=by
 obtain⟨ao,cap,b,a,_⟩:=h;exact⟨ao,cap,Sk b,λn=>GB (w:=w.drewN n) a⟩
def jD(n:N):(1::Dt 0 2)++List.replicate (8*(((1::Dt 0 2).length+7)/8)-(1::Dt 0 2).length) 0++Dt n 16++Dt (65535-n) 16=FJ n:=by
 have e:(1::Dt 0 2)++List.replicate (8*(((1::Dt 0 2).length+7)/8)-(1::Dt 0 2).length) 0=[1,0,0,0,0,0,0,0]:=Ac;rw[e,FJ,WG]
def vA(d:Y)(P:d.size<=20000)(w:U):
 μ F 64 #[G d] w λr w'=>r=ε (G<|Jm d)/\Am w w':=by
 have l:Am w<|w.alloc (W #[K O 0 0,I Q 0] wrT):=(Ag.refl _ w).alloc _;have m:(Wr (w.alloc<|W #[K O 0 0,I Q 0] wrT) w.heap.size wrT #[] (λk=>w.heap.size<=k) []):=
  ⟨O,0,WD w _,⟨rfl,.inl ⟨rfl,rfl⟩⟩,λb a=>by cases a⟩
 have a:(BI (λk=>w.heap.size<=k)<|w.alloc (W #[K O 0 0,I Q 0] wrT)):=λk c=>by rw[WP] at c;show w.heap.size<=k;omega
 have P:=tX w.heap.size wrT Xq #[] (λk=>w.heap.size<=k) (WF _) 0 A _ a m;have o:=l;go_in;go_wp2_with fail;apply P.mono;rintro r y ⟨rfl,c,l⟩;have p:(Am w y):=o.transNew c λk e h=>κ e<|adA.2 h;have q:=a.mono c.size;have a:=yT w.heap.size wrT Xq #[] (λk=>w.heap.size<=k) (WF _) _ y l;go_wp2_with fail;apply a.mono;rintro r z ⟨rfl,e,a⟩;have s:(Am w z):=p.transNew e λk c h=>κ c<|adA.2 h;have f:=q.mono e.size;have g:NX ((1::Dt 0 2)++List.replicate (8*(((1::Dt 0 2).length+7)/8)-(1::Dt 0 2).length) 0):=by
  have e:(1::Dt 0 2)++List.replicate (8*(((1::Dt 0 2).length+7)/8)-(1::Dt 0 2).length) 0=[1,0,0,0,0,0,0,0]:=Ac;rw[e];intro D c;simp at c;omega
 have c:=Mz w.heap.size wrT Xq #[] (λk=>w.heap.size<=k) (WF _) _ g Ac d.size 16 A A z f a;go_wp2_with fail;apply c.mono;rintro r L ⟨rfl,i,a⟩;have t:(Am w L):=s.transNew i λk c h=>κ c<|adA.2 h;have c:=f.mono i.size;have e:=(Mz w.heap.size wrT Xq #[] (λk=>w.heap.size<=k) (WF _) _ (g.append<|Gh _ _) (by rw[Ws,EL];decide) (65535-d.size) 16 A A L c a);have:(65535:Z)-(d.size:Z)=((65535-d.size:N):Z):=A;rw[jD] at e;go_wp2_with fail;apply e.mono;rintro r u ⟨rfl,v,a⟩;have x:(Am w u):=t.transNew v λk c h=>κ c<|adA.2 h;obtain⟨f,c,_,e⟩:=a.slice;have:(convert 64 9<|K f (AW<|FJ d.size).length c).run F u=.ok (G ⟨(AW<|FJ d.size).toArray⟩) u:=e 0;have:(⟨(AW<|FJ d.size).toArray⟩:Y).size=5:=by show(AW<|FJ d.size).toArray.size=5;rw[wK,Bn,GH]
 have j:((⟨(AW<|FJ d.size).toArray⟩:Y)++d=Jm d):=by
  rw[KT,Jm,Ik];congr 3;have h:=hJ (λD:Y=>D.data.toList)<|Pj d;exact h.symm
 generalize(AW<|FJ d.size).length=n,(⟨(AW<|FJ d.size).toArray⟩:Y)=pk at*;have:¬maxLen<pk.size+d.size:=by unfold maxLen;omega
 go_wp2;go_ret;exact⟨by rw[<-j];rfl,x⟩
def Wr.to(h:Wr w g t R S a)(e:∀k,k<w.heap.size->S k->T k):Wr w g t R T a:=by
 obtain⟨f,a,i,c,d⟩:=h;refine⟨f,a,i,c,λb hb=>e b.block ?_<|d b hb⟩;exact aiT
def Wr.kept{c:E N}(l:Wr w g t R S c)(h:Ag T w w')(m:¬T g)(n:∀k,S k->¬T k):Wr w' g t R S c:=by
 obtain⟨i,c,j,f,d⟩:=l;refine⟨i,c,(h.block g (KV j) m).trans j,CJ f h λb e=>?_,d⟩;cases i with
 |none=>cases e
 |some a=>injection e with e;subst e;exact n _<|d a rfl
def Pk.kept{b c:N}(h:Pk w g b c S a)(d:Ag T w w')(e:¬T g)(f:¬T b)(i:¬T c)(j:∀k,S k->¬T k):Pk w' g b c S a:=
 ⟨h.1.kept d e j,h.2.kept d f i⟩
def KZ(d:Y)(q:N)(B:E N):Prop:=B++Gx (Cl d q)++GS 256=ML (Cl d 0)/\B.length<=3+31*q/\NX B
def KZ.start(d:Y):KZ d 0 (1::Dt 1 2):=by
 have e:(1::Dt 1 2)=[1,1,0]:=Ac;rw[e];exact⟨by simp[ML],Ad,by intro _ a;simp at a;omega⟩
def KZ.next{B:E N}(h:KZ d q B)(hd:d.size<=20000)(hq:q<d.size):KZ d (q+EC d q)<|B++GU (Iv d q):=by
 obtain⟨a,c,b⟩:=h;have:=(Xh (d:=d) (q:=q) hd).1;have:=Kx d q;refine⟨?_,by rw[Ws];omega,b.append<|YM _⟩;rw[Kc hq,Jh] at a;rw[<-a];simp only[WG]
def KZ.done(h:KZ d q b)(c:¬q<d.size):b++GS 256=ML (Cl d 0):=by
 obtain⟨a,_,_⟩:=h;rw[Kd c] at a;simpa [Gx] using a
def dx(d:Y)(q:N)(f:d.size<=20000)(g:q<d.size):(Fn d q=(0,0)/\Iv d q=.inl (As d q)/\EC d q=1)\/
 ∃a b,Fn d q=(a,b)/\3<=a/\a<=258/\1<=b/\b<=20000/\q+a<=d.size/\Iv d q=.inr (a,b)/\EC d q=a:=by
 rcases Oe d q with h|h
 .left;unfold Iv EC;rw[h];exact⟨rfl,rfl,rfl⟩
 right
 obtain⟨a,b,c,e,_,_⟩:=h;refine⟨(Fn d q).1,(Fn d q).2,rfl,a,b,e,A,c,?_,?_⟩
 .unfold Iv;rw[Wx A]
 unfold EC;rw[Wx A]
def UN(a:n<1048576):(FloatKind.f64.format.order (fN n) 0==J Ordering.eq)=decide (n=0):=by
 have h:=Zi a (show 0<1048576 by omega);rw[Rh] at h;rw[h];by_cases h0:n=0
 .subst h0;rfl
 rw[adl.2<|Nat.pos_of_ne_zero h0,Ww h0];rfl
def vB(d:Y)(hd:d.size<=20000)(w:U):
 μ F 65 #[G d] w λr w'=>r=ε (G<|GG d)/\Am w w':=by
 have H1:=dm w;go_in;go_wp2_with fail;apply H1.mono;rintro r w1 ⟨g,u,v,rfl,d4,f4,f5,f6,f7,L,b6,d5⟩;have d6:Wr w1 g rM (vx u v) (λk=>k=g\/w1.heap.size<=k) []:=⟨O,0,d5,⟨rfl,.inl ⟨rfl,rfl⟩⟩,λb a=>by cases a⟩;have H2:=tX g rM Su (vx u v) (λk=>k=g\/w1.heap.size<=k) (.inl rfl) 1 A w1 (λk a=> .inr a) d6;have b7:=b6;have b9:=d4;go_wp2_with fail;apply H2.mono;rintro r e ⟨rfl,T,b6⟩;have:=T.size;have c0:=b7.kept T A A;have c1:(Am w e):=b9.transNew T (λk a h=>by have:=b9.size;omega);have d7:=b6;have T:=dw d hd e;have c2:=L;go_wp2_with fail;apply T.mono;rintro r w3 ⟨rfl,a0,d8,f3⟩;have c3:=c0.kept a0 (λx=>x) λx=>x;have d9:(Am w w3):=c1.trans a0;have:=c2;obtain⟨S,x⟩:∃S:N->Prop,S=λk=>k=g\/(w1.heap.size<=k/\k<e.heap.size)\/w3.heap.size<=k:=⟨_,rfl⟩
 have e0:(Pk w3 g u v S (1::Dt 1 2)):=
  ⟨(d7.to λk a h=>by rw[x];rcases h with h|h;exact .inl h;exact .inr (.inl ⟨h,a⟩)).kept a0 (λc=>c) λ_ _ c=>c,c3⟩
 have:=c1.size;have a1:S g:=by rw[x];exact .inl rfl
 have a2:¬S u:=by rw[x];simp only[];omega
 have a3:¬S v:=by rw[x];simp only[];omega
 have a4:¬S e.heap.size:=by rw[x];simp only[];omega
 have a5:¬S (e.heap.size+1):=by rw[x];simp only[];omega
 have c4:¬S (e.heap.size+2):=by rw[x];simp only[];omega
 have c5:(BI S w3):=λk a=>by rw[x];exact .inr (.inr a)
 have e4:∀k,k<w.heap.size->¬S k:=λk a=>by rw[x];simp only[];omega
 have e5:∀k,k<w.heap.size->¬(k=e.heap.size\/k=e.heap.size+1):=λk a=>akX
 have c6:¬(g=e.heap.size\/g=e.heap.size+1):=A;have c7:¬(u=e.heap.size\/u=e.heap.size+1):=A;have c8:¬(v=e.heap.size\/v=e.heap.size+1):=A;have c9:∀k,S k->¬(k=e.heap.size\/k=e.heap.size+1):=λk a h=>by rcases h with rfl|rfl;exact a4 a;exact a5 a
 have e6:=d8;have R:=c9;have a6:=e4;have d0:=e5;generalize e.heap.size=gm at*;go_wp2;go_loopw [5,6,7] (λx _ _ wr=>∃(q:N) (b5:E N),q<=d.size/\x=I Q q/\(KZ d q b5)/\(Pk wr g u v S b5)/\(Fd wr (gm+2) gm (gm+1) d q)/\(BI S wr)/\(Am w wr)) λx _ _ _=>d.size-(intOf x).toNat
 .exact ⟨0,_,A,rfl,KZ.start d,e0,e6,c5,d9⟩
 obtain⟨q,b5,e7,rfl,HL,HP,HF,i,HO⟩:=hrel;have:=HL.2.1;have a7:=HL.2.2;by_cases M6:q<d.size
 .have d1:(q:Z)<d.size:=A;have y:=na (gm+2) gm (gm+1) d hd q e7 wr HF;have z:=HL.next hd M6;rcases dx d q hd M6 with⟨e1,e2,e3⟩|⟨j,d2,e1,h3,d3,e8,e9,f0,e2,e3⟩
  .rw[e1] at y;rw[e2,e3] at z;have:=AA (s:=d) (k:=q) M6;have:=Bj d q;have D:=λk=>Xo g u v S a1 a2 a3 b5 a7 A (As d q) A (wr.drewN k) i HP
   generalize As d q=b at*;have f1:(FloatKind.f64.format.order (fN 0) 0==J Ordering.eq)=true:=UN (n:=0) A;go_wp2_with fail;apply y.mono;rintro r w4 ⟨rfl,k4,rfl⟩;go_wp2_with fail;apply(D k4).mono;rintro r l ⟨rfl,c,m⟩;have a8:=HF.kept (((Ag.refl S wr).drewN k4).trans c) c4 a4 a5;have o:=i.mono (w':=l) c.size;have p:(Am w l):=(HO.drewN k4).transNew c λk a h=>κ h<|a6 k a;have a9:=nb (gm+2) gm (gm+1) d hd q 1 A l a8;have b0:=m;go_wp2_with fail;apply a9.mono;rintro r w6 ⟨rfl,f,b1⟩;have b2:=b0.kept f c6 c7 c8 R;have t:=o.mono f.size;have b3:(Am w w6):=p.transNew f λk a h=>κ h<|d0 k a;have b4:=b1;go_wp2;go_roundw
   .exact ⟨q+1,_,A,by go_num,z,b2,b4,t,b3⟩
   exact Ae
  rw[e1] at y;rw[e2,e3] at z;have f2:=λk=>yU g u v S a1 a2 a3 b5 a7 A j d2 h3 d3 e8 e9 (wr.drewN k) i HP
  have:(FloatKind.f64.format.order (fN j) 0==J Ordering.eq)=false:=by rw[UN A,Ww A]
  have:=Nd (P:=F) (n:=j) A 158 3 (by rw[underlying158];rfl) underlying3;have:=Nd (P:=F) (n:=d2) A 158 3 (by rw[underlying158];rfl) underlying3;go_wp2_with fail;apply y.mono;rintro r w4 ⟨rfl,k4,rfl⟩;go_wp2_with fail;apply(f2 k4).mono;rintro r l ⟨rfl,c,m⟩;have a8:=HF.kept (((Ag.refl S wr).drewN k4).trans c) c4 a4 a5;have o:=i.mono (w':=l) c.size;have p:(Am w l):=(HO.drewN k4).transNew c λk a h=>κ h<|a6 k a;have a9:=nb (gm+2) gm (gm+1) d hd q j f0 l a8;have b0:=m;go_wp2_with fail;apply a9.mono;rintro r w6 ⟨rfl,f,b1⟩;have b2:=b0.kept f c6 c7 c8 R;have t:=o.mono f.size;have b3:(Am w w6):=p.transNew f λk a h=>κ h<|d0 k a;have b4:=b1;go_wp2;go_roundw
  .exact ⟨q+j,_,A,by go_num,z,b2,b4,t,b3⟩
  exact Ae
 have:¬(q:Z)<d.size:=A;have e:=HL.done M6;have D:=Xo g u v S a1 a2 a3 b5 a7 A 256 A wr i HP;rw[e] at D;go_wp2_with fail;apply D.mono;rintro r l ⟨rfl,c,m⟩;obtain⟨g,e,f8,f⟩:=m.1.slice;have:(convert 64 9<|K g (AW<|ML (Cl d 0)).length e).run F l=.ok (G<|GG d) l:=f 0;have p:(Am w l):=HO.transNew c λk a h=>κ h<|a6 k a;generalize(AW<|ML (Cl d 0)).length=n,hres:GG d=Z2 at*;have a:=hres;go_wp2;go_ret;exact⟨by rw[a];rfl,p⟩
def ny(d:Y)(f:d.size<=20000)(w:U):
 μ F 28 #[G d] w λr w'=>r=ε (G<|CZ d)/\Am w w':=by
 have h:=vA d f w;have i:=λc=>vB d f c
 have g:(CZ d=if(Jm d).size<(GG d).size then Jm d else GG d):=rfl;generalize CZ d=Z2,Jm d=a,GG d=b at*;go_in;go_wp2_with fail;apply h.mono;rintro r j ⟨rfl,c⟩;go_wp2_with fail;apply(i j).mono;rintro r k ⟨rfl,e⟩;have HO:(Am w k):=Ag.trans c e;by_cases e:a.size<b.size
 .have c:(a.size:Z)<b.size:=A;have HE:(Z2=a):=by rw[g,Wz e]
  exact akf
 have:¬(a.size:Z)<b.size:=A;have HE:(Z2=b):=by rw[g,Wx e]
 exact akf
def EE(d:Y)(f:d.size<=140737488355328)(w:U):
 μ F 12 #[G d] w λr w'=>(d.size<=20000/\r=ε (.tuple #[G<|CZ d,I Q 0])\/20000<d.size/\r=ε (.tuple #[G ⟨#[]⟩,I Q 1]))/\Am w w':=by
 by_cases c:d.size<=20000
 .have e:=ny d c w;have a:¬(20000:Z)<(d.size:Z):=A;generalize CZ d=Z2 at*;go_in;go_wp2_with fail;apply e.mono;rintro r g ⟨rfl,b⟩;go_wp2;go_ret2;exact⟨.inl ⟨c,rfl⟩,b⟩
 have:(20000:Z)<(d.size:Z):=A;go_in;go_wp2;go_ret2;exact⟨.inr ⟨A,rfl⟩,Ag.refl _ w⟩
def ES(c:Z)(n:N):N:=((if c<0 then -(c+1) else c)%(n:Z)).toNat
def Jo(c:Z)(h:0<n):ES c n<n:=by
 unfold ES;have:=Int.emod_lt_of_pos (if c<0 then -(c+1) else c) (show(0:Z)<(n:Z) by omega);have:=adB (if c<0 then -(c+1) else c) (show(n:Z)≠0 by omega);omega
def Sx(c:Z)(a: -9223372036854775808<=c)(b:c<=9223372036854775807)(n:N)(hn:0<n)(d:n<=9223372036854775807)(w:U):
 μ F 29 #[I Q c,I Q n] w λr w'=>r=ε (I Q<|ES c n)/\w'=w:=by
 have:¬(n:Z)=0:=A;have:((n:Z)==0)=false:=act
 by_cases h:c<0
 .have:IntKind.i64.wrap (c+1)=c+1:=akR
  have:IntKind.i64.wrap (-(c+1))= -(c+1):=akR
  have a:0<= -(c+1):=A;have e1:(-(c+1)).tmod (n:Z)=((ES c n:N):Z):=by
   rw[aaX a];unfold ES;rw[Wz h];have:=adB (-(c+1)) (show(n:Z)≠0 by omega);omega
  exact afm
 have e1:c.tmod (n:Z)=((ES c n:N):Z):=by
  rw[aaX A];unfold ES;rw[Wx h];have:=adB c (show(n:Z)≠0 by omega);omega
 exact afm
def nz(c:Z)(a:¬c<0)(n:N)(hn:0<n)(b:n<=9223372036854775807)(w:U):
 μ F 29 #[I Q c,I Q n] w λr w'=>r=ε (I Q<|ES c n)/\w'=w:=by
 have:¬(n:Z)=0:=A;have:((n:Z)==0)=false:=act
 have e1:c.tmod (n:Z)=((ES c n:N):Z):=by
  rw[aaX A];unfold ES;rw[Wx a];have:=adB c (show(n:Z)≠0 by omega);omega
 exact afm
def Ok(s:Y)(f:s.size<=140737488355328)(w:U)(g:DF w):
 μ F 14 #[G s] w λr w'=>r=ε (.bool true)/\Am w w':=by
 have d:=H<|Oj s f w g;have e:=H λb=>Jg s f b;generalize AB s=x at*;obtain⟨a,n,_⟩:=x;simp only at d e;clear g;go_in;go_wp2_with fail;apply d.mono;rintro r h ⟨rfl,b⟩;clear d;go_wp2_with fail;apply(e h).mono;rintro r i ⟨rfl,c⟩;have HO:C<|Am w i:=Ag.trans b c;clear e b c;exact aeF
def nA(h:∀j,k<=j->j<i->As d j=As d (j-k))(a:¬i<d.size):UG d k:=by
 intro j b;have:=h (j+k) A A;rw[acB] at this;exact this
def nB(d:Y)(t:d.size<=20000)(w:U):
 μ F 32 #[G d] w λr w'=>∃m:N,r=ε (I Q m)/\(CZ d).size<=m/\∃k,w'=w.drewN k:=by
 have HM:C ((CZ d).size<=d.size+5*(d.size/16000)+6):=by have:=(Jn d).1;unfold C;omega
 have c:C (∀k i,1<=k->k<=100->20*k<=d.size->(∀j,k<=j->j<i->As d j=As d (j-k))->¬i<d.size->(CZ d).size<=d.size/2):=by
  intro k i n q u y P;have:=jm t (nA y P) n q u;omega
 go_in;go_wp2;go_loopw [5,6,7] (λx _ _ wr=>∃k f:N,1<=k/\k<=101/\x=I Q k/\wr=w.drewN f) λx _ _ _=>101-(intOf x).toNat
 .exact ⟨1,0,A,A,rfl,rfl⟩
 obtain⟨k,f,p,_,rfl,rfl⟩:=hrel;by_cases D:k<=100/\20*k<=d.size
 .obtain ⟨t,u⟩:=D;have h:(k:Z)<=100:=A;have o:20*(k:Z)<=d.size:=A;have P:¬(k:Z)=0:=A;have y:((k:Z)==0)=false:=act
  have v:=H λi=>c k i p t u;go_wp2;go_loopw [6,7] (λa x wr=>∃(b:Bool) (i f:N),k<=i/\i<=d.size/\a=.bool b/\x=I Q i/\wr=w.drewN f/\C (b=true-> ∀j,k<=j->j<i->As d j=As d (j-k))) λ_ x _=>d.size-(intOf x).toNat
  .exact ⟨_,k,f,A,A,rfl,rfl,rfl,λ_ j n q=>A⟩
  obtain⟨b,i,f,_,_,rfl,rfl,rfl,z⟩:=hrel;cases b with
  |false=>
   go_wp2;go_roundw
   .exact ⟨k+1,f,A,A,by go_num,rfl⟩
   exact Ae
  |true=>
   by_cases L:i<d.size
   .have x:(i:Z)<d.size:=A;have p:=AA (s:=d) (k:=i) L;obtain⟨g,l⟩:∃g,g=i-k:=⟨_,rfl⟩;have p:g<d.size:=A;have t:=AA (s:=d) (k:=g) p;have u:(i:Z)-k=(g:Z):=A;have p:(0:Z)<=(g:Z):=A;have t:(g:Z)<d.size:=A;have p:IntKind.i64.wrap (g:Z)=g:=Aw _ A;have R:C (As d i=As d g-> ∀j,k<=j->j<i+1->As d j=As d (j-k)):=λS j n q=>by
     by_cases p:j<i
     .exact z rfl j n p
     have:j=i:=A;subst this;rw[<-l];exact S
    generalize As d i=x1,As d g=x2 at*;clear l;clear c v HM;go_wp2_with fail;go_quiet (fail);go_wp2;go_roundw
    .exact ⟨_,i+1,f+nq,A,A,rfl,by go_num,Ad,λg=>R (Int.ofNat_inj.1<|by simpa using g)⟩
    exact Ae
   have:¬(i:Z)<d.size:=A;have j:=H<|v i (z rfl) L;clear c v HM;go_wp2;go_ret;exact⟨d.size/2,by rw[aax];rfl,j,f,rfl⟩
 have e:¬(k:Z)<=100\/¬20*(k:Z)<=d.size:=A;by_cases n:k<=100
 .have h:(k:Z)<=100:=A;have:¬20*(k:Z)<=d.size:=A;exact ahA
 have h:¬(k:Z)<=100:=A;exact ahA
def QG(a:Y):a++(⟨#[]⟩:Y)=a:=by apply aaj;simp
def Xr(d:Y)(b:d.size<=140737488355328)(w:U):
 μ F 15 #[G d] w λr w'=>r=ε (.bool true)/\Am w w':=by
 have c:=H λa=>EE d b a;by_cases k:d.size<=20000
 .have h:¬(20000:Z)<(d.size:Z):=A;have e:(CZ d).size<=140737488355328:=by have:=(Jn d).1;omega
  have i:=H λa=>Jg (CZ d) e a;have b:AB (CZ d)=(d,(CZ d).size,0):=by have:=jk d k ⟨#[]⟩;rw[QG] at this;exact this
  rw[b] at i;have l:=H λa=>nB d k a;clear b e;generalize CZ d=p at*;go_in;go_wp2_with fail;apply(c w).mono;rintro r n ⟨⟨_,rfl⟩|⟨o,_⟩,a⟩
  .have u:=H a;clear a;go_wp2_with fail;apply(i n).mono;rintro r q ⟨rfl,f⟩;have g:=H<|Ag.trans u f;clear f u i;go_wp2_with fail;apply(l q).mono;rintro r x ⟨m,rfl,_,s,rfl⟩;have:(p.size:Z)<=m:=A;clear l;go_wp2_with fail;apply(c _).mono;rintro r v ⟨⟨_,rfl⟩|⟨o,_⟩,b⟩
   .have j:C<|Am w v:=Ag.trans (g.drewN s) b;clear b g c;go_wp2;go_ret;exact⟨rfl,j⟩
   omega
  omega
 have h:(20000:Z)<(d.size:Z):=A;go_in;go_wp2_with fail;apply(c w).mono;rintro r n ⟨⟨o,_⟩|⟨_,rfl⟩,a⟩
 .omega
 have u:=H a;clear a c;exact aiO
def Zy(a:N)(b:a<256):(BitVec.ofInt 8 (a:Z)).toNat=a:=by
 rw[BitVec.toNat_ofInt];omega
def dy(a b:N)(c:a<256)(d:b<256):bits .xor .u8 (a:Z) (b:Z)=((a^^^b:N):Z):=by
 have:a^^^b<2^8:=abZ A A;show IntKind.u8.wrap ((BitVec.ofInt 8 (a:Z)^^^BitVec.ofInt 8 (b:Z)).toNat:Z)=_;rw[adV,Zy a c,Zy b d,abd];omega
def Kg(w:U)(g:N)(l:E υ):Prop:= ∃J0 fr,w.heap[g]? =J (W J0 5 fr)/\l.length<=fr.1/\∀j (h:j<l.length),J0[j]? =J (I .u8 (l[j].toNat:Z))
def Kg.cell(h:Kg w g l)(j:N)(b:j<l.length):w.cell? ⟨g,j,O⟩=J (I .u8 (l[j].toNat:Z)):=by
 obtain⟨a,c,d,_,e⟩:=h;rw[Wu w g j a _ c d];exact e j b
def Kg.thaw(h:Kg w g l)(j:N)(a:j<l.length):w.frozen? ⟨g,j,O⟩=false:=by
 obtain⟨_,_,a,_,_⟩:=h;simp only[World.frozen?,a];simp;omega
def dz(w:U)(g i:N)(a:φ M)(t:ν)(fr:N×N)(v:M)(b:w.heap[g]? =J (W a t fr)):(w.setCell ⟨g,i,O⟩ v).heap[g]? =J (W (a.setIfInBounds i v) t fr):=by
 simp only[World.setCell,adv,b];simp
def Kg.set(h:Kg w g l)(j:N)(v:υ):Kg (w.setCell ⟨g,j,O⟩<|I .u8 (v.toNat:Z)) g<|l.set j v:=by
 obtain⟨a,c,f,k,d⟩:=h;refine⟨_,c,dz w g j a 5 c _ f,by rw[wk];exact k,λi b=>?_⟩;rw[wk] at b;rw[wR];have m:i<a.size:=by
  rcases wM i a.size with h|h
  .exact h
  have:=d i b;rw[wO h] at this;cases this
 by_cases e:j=i
 .subst e;rw[Wz rfl,Wz m,List.getElem_set_self]
 rw[Wx e,d i b,List.getElem_set_ne e]
def Kg.made(w:U)(s:Y):Kg (Lib.bytesWorld w 5 s) w.heap.size s.data.toList:=by
 refine⟨_,_,Lib.bytesWorld_at_new w 5 s,?_,λj b=>?_⟩
 .simp[Lib.bytesCells]
 simp only[wE] at b;have a:j<s.size:=b;simp[Lib.bytesCells,Array.getElem?_append,a]
def Il(w:U)(s:Y):Am w<|Lib.bytesWorld w 5 s:=
 ⟨rfl,rfl,rfl,by rw[Lib.bytesWorld_size];omega,λk a _=>Lib.bytesWorld_at_old w 5 s k a⟩
def Kg.back{cap:N}(h:Kg w g l):(convert 64 9<|K (J ⟨g,0,O⟩) l.length cap).run F w=.ok (G ⟨l.toArray⟩) w:=
 abX w 64 9 5 ⟨g,0,O⟩ cap l underlying64 underlying5 underlying9 λj a=>by rw[we,WQ];exact h.cell j a
def TP(s:Y)(hs:s.size<=1000000)(c:Z)(w:U):
 μ F 13 #[G s,I Q c] w λr w'=>∃t:Y,r=ε (G t)/\t.size=s.size/\Am w w':=by
 cases D:s.toList.isEmpty with
 |true=>
  exact ajq
 |false=>
  by_cases T:c<0
  .exact ajq
  have:0<s.size:=by
   rcases aaD s.size with h|h
   .have a0:s=⟨#[]⟩:=aaj (by show s.data= #[];exact abv h);rw[a0] at D;exact κ D<|by unfold ByteArray.toList ByteArray.toList.loop;simp;intro h0;exact κ h0 Ac
   exact h
  have o:=H<|nz c T (8*s.size) A A w;have:=Jo c (show 0<8*s.size by omega);generalize ES c (8*s.size)=p at*;have u:=Lib.run_convert_string_bytes (P:=F) w 9 64 5 s underlying9 underlying64 underlying5;have q:=H<|Kg.made w s;have R:=H<|Il w s;rw[show((8*s.size:N):Z)=8*(s.size:Z) by omega] at o;go_in;go_wp2_with fail;apply o.mono;rintro r w' ⟨rfl,rfl⟩;have n:s.data.toList.length=s.size:=Ad;go_upto_region 5 with fail;clear u o;generalize Lib.bytesWorld w' 5 s=j,grownCap w' s.size 0 5=cap,s.data.toList=l at*;obtain⟨k,hk⟩:∃k,k=p/8:=⟨_,rfl⟩;obtain⟨m,hm⟩:∃m,m=p%8:=⟨_,rfl⟩;have o:k<l.length:=A;have:(p:Z)/8=(k:Z):=A;have u:(p:Z)%8=(m:Z):=A;have:m<8:=A;have:(p:Z).tmod 8=(m:Z):=by rw[aaX A];exact u
  have:IntKind.i64.wrap (k:Z)=k:=Aw _ A;have:IntKind.i64.wrap (m:Z)=m:=Aw _ A;have:(0:Z)<=(k:Z):=A;have:(k:Z)<s.size:=A;have:(0:Z)<=(m:Z):=A;have d:=q.cell k o;have v:=q.thaw k o;have hb:(l[k]).toNat<256:=l[k].toNat_lt;obtain⟨e,g⟩:∃e,e=2^m:=⟨_,rfl⟩;have:e<=128:=by rw[g];exact(wg A A:2^m<=2^7)
  have:(2:Z)^m=(e:Z):=by rw[g,wY];rfl
  have:=dy (l[k]).toNat e hb A;have:(l[k]).toNat^^^e<2^8:=abZ A A;have y:=H<|q.set k (UInt8.ofNat ((l[k]).toNat^^^e));rw[UInt8.toNat_ofNat_of_lt' A] at y;generalize(l[k]).toNat=b at*;generalize b^^^e=x at*;have:IntKind.u8.wrap (e:Z)=e:=by rw[abd];omega
  clear g hk hm;have a:j.drew.cell? ⟨w'.heap.size,k,O⟩=J (I .u8 b)/\True/\True:=⟨d,trivial,trivial⟩;refine Ai (S:=λj=>j.cell? ⟨w'.heap.size,k,O⟩=J (I .u8 b)/\True/\True) (L:=13) B ?_;refine tk 0 14 (K (J ⟨w'.heap.size,0,O⟩) s.size cap) 21 a ?_;refine tk 1 14 (I Q p) 22 a ?_;refine tk 2 14 (I Q k) 23 a ?_;refine tk 3 14 (K (J ⟨w'.heap.size,0,O⟩) s.size cap) 24 a ?_;refine tk 4 14 (I Q p) 25 a ?_;refine tk 5 14 (I Q k) 26 a ?_;refine tk 6 14 (V<|J ⟨w'.heap.size,k,O⟩) 27 a ?_;refine tk 7 14 (I .u8 b) 28 a ?_;refine tk 8 14 (I Q p) 29 a ?_;refine tk 9 14 (I Q m) 30 a ?_;refine tk 10 14 (I .u8 e) 31 a ?_;refine tk 11 14 (I .u8 x) 32 a ?_;refine tk 12 14 (V<|J ⟨w'.heap.size,k,O⟩) 33 a ?_;refine Ah (i:=13) B ?_;refine WE rfl λ_ e=>?_;go_simp;refine e _ _ ⟨λh=>κ rfl h,?_⟩;clear e;refine Aj B ?_;have f:Kg (j.setCell ⟨w'.heap.size,k,O⟩<|I .u8 (x:Z)).drew w'.heap.size<|l.set k (UInt8.ofNat x):=X y;have z:C<|Am w' (j.setCell ⟨w'.heap.size,k,O⟩<|I .u8 (x:Z)).drew:=(R.setCell (p:=⟨w'.heap.size,k,O⟩) (λh=>κ h<|aac _) _).drew;generalize(j.setCell ⟨w'.heap.size,k,O⟩<|I .u8 (x:Z)).drew=W2 at*;have e:=f.back (cap:=cap);rw[wk,n] at e;have j:C ((⟨(l.set k<|UInt8.ofNat x).toArray⟩:Y).size=s.size):=by show(l.set k<|UInt8.ofNat x).toArray.size=_;rw[wK,wk,n]
  generalize(⟨(l.set k<|UInt8.ofNat x).toArray⟩:Y)=t at*;clear f y q R a d v;go_wp2;go_ret;exact⟨t,rfl,j,z⟩
section
variable {P:Program} {ops:φ Oper} {Q:Exit->Act->U->Prop} {md:Region.Mode} {S:U->Prop} {L:N}
def Nw{j:N}{b:φ Bool}{a:Act}(y:Region.ready md ops b=[i,j])
 (h:wpOp P ops Q i (λa' w'=>(i≠L->S w')/\Dv P md ops Q S L n (b.setIfInBounds i true) a' w') a w)
 (k:wpOp P ops Q j (λa' w'=>(j≠L->S w')/\Dv P md ops Q S L n (b.setIfInBounds j true) a' w') a w):Dv P md ops Q S L (n+1) b a w:=ahm
end
def Im{o:Obj}(a:Am w w')(h:w.heap[k]? =J o):w'.heap[k]? =J o:=(a.block k (Wt.1 h).1 λx=>x).trans h
def Da:(prog.info? 190).map (·.size)=J 5:=B
def Pr(a e:Y)(b c d:Z):(#[G a,I σ b,I σ c,I σ d,G e]:φ M).all (·.oneCell')=true:=by simp[Value.oneCell']
def GX(nm d:Y):It:=if(CZ d).size<d.size then⟨nm,8,BJ d,d.size,CZ d⟩ else⟨nm,0,BJ d,d.size,d⟩
def LQ(h:(CZ d).size<d.size):GX nm d=⟨nm,8,BJ d,d.size,CZ d⟩:=Wz h
def LR(h:¬(CZ d).size<d.size):GX nm d=⟨nm,0,BJ d,d.size,d⟩:=Wx h
def rO(nm d:Y)(y:d.size<=20000)(w:U):
 μ F 147 #[.agg #[G nm,G d]] w λr w'=>r=ε (.agg (GX nm d).v)/\Am w w':=by
 have HD:=H λW=>ny d y W;have P:=H (λW=>JY d W<|by unfold maxLen;omega);have s:=H λh=>LQ (nm:=nm) (d:=d) h;have m:=H λh=>LR (nm:=nm) (d:=d) h;generalize GX nm d=it at*;have:=FG d;have:(CZ d).size<=1000000:=by have:=Jn d;omega
 generalize BJ d=ck,CZ d=z at*;have:IntKind.u32.wrap (d.size:Z)=d.size:=akT
 have D:Am w ((w.alloc (.cells #[G nm,G d] 38)).alloc (.cells #[G ⟨#[]⟩,I σ 0,I σ 0,I σ 0,G ⟨#[]⟩] 190)):=((Ag.refl _ w).alloc _).alloc _;have R:Am (w.alloc (.cells #[G nm,G d] 38)) ((w.alloc (.cells #[G nm,G d] 38)).alloc (.cells #[G ⟨#[]⟩,I σ 0,I σ 0,I σ 0,G ⟨#[]⟩] 190)):=(Ag.refl _ _).alloc _;have y:=Im R<|WD w (.cells #[G nm,G d] 38);have a:=WD (w.alloc (.cells #[G nm,G d] 38)) (.cells #[G ⟨#[]⟩,I σ 0,I σ 0,I σ 0,G ⟨#[]⟩] 190);have e:((w.alloc (.cells #[G nm,G d] 38)).alloc (.cells #[G ⟨#[]⟩,I σ 0,I σ 0,I σ 0,G ⟨#[]⟩] 190)).heap.size=w.heap.size+2:=by rw[WP,WP]
 rw[WP] at a;have HA:=H D;have HX:=H y;have HT:=H a;go_in;go_upto_region 1 with fail;generalize(w.alloc (.cells #[G nm,G d] 38)).alloc (.cells #[G ⟨#[]⟩,I σ 0,I σ 0,I σ 0,G ⟨#[]⟩] 190)=W at*;have y:W.cell? ⟨w.heap.size,0,O⟩=J (G nm):=by rw[Wu W _ 0 _ _ (0,0) HX];rfl
 have D:W.cell? ⟨w.heap.size,1,O⟩=J (G d):=by rw[Wu W _ 1 _ _ (0,0) HX];rfl
 have p:W.drew.cell? ⟨w.heap.size,0,O⟩=J (G nm)/\W.drew.cell? ⟨w.heap.size,1,O⟩=J (G d)/\True:=⟨y,D,trivial⟩;refine Ai (S:=λW=>W.cell? ⟨w.heap.size,0,O⟩=J (G nm)/\W.cell? ⟨w.heap.size,1,O⟩=J (G d)/\True) (L:=13) B ?_;refine tk 0 14 (.pointer<|J ⟨w.heap.size,0,O⟩) 5 p ?_;refine tk 1 14 (G nm) 6 p ?_;refine tk 2 14 (.pointer<|J ⟨w.heap.size,1,O⟩) 7 p ?_;refine tk 3 14 (G d) 8 p ?_;refine tk 5 14 (.pointer<|J ⟨w.heap.size,1,O⟩) 10 p ?_;refine tk 6 14 (G d) 11 p ?_;refine tk 7 14 (I Q (d.size:Z)) 12 p ?_;refine tk 8 14 (I σ (d.size:Z)) 13 p ?_;refine tk 9 14 (.pointer<|J ⟨w.heap.size,1,O⟩) 14 p ?_;refine tk 10 14 (G d) 15 p ?_;have t:∀o,(W.drew.alloc o).cell? ⟨w.heap.size,0,O⟩=J (G nm)/\(W.drew.alloc o).cell? ⟨w.heap.size,1,O⟩=J (G d)/\True:=by
  intro o;have y:=Im (((Ag.refl _ W).drew).alloc o) HX;refine⟨?_,?_,trivial⟩<;>(rw[Wu _ _ _ _ _ (0,0) y];rfl)
 have:W.drew.heap.size=w.heap.size+2:=e;refine Nw (i:=4) (j:=12) B ?_ ?_
 .refine WE rfl λK' l=>?_;go_simp;apply(P _).mono;rintro r w1 ⟨rfl,rfl⟩;refine l _ _ ⟨λ_=>p,?_⟩;refine tk 11 14 (.agg #[G nm,I σ 0,I σ (ck:Z),I σ (d.size:Z),G d]) 16 p ?_;refine Ah (i:=12) B ?_;refine WE rfl λK' l=>?_;go_simp;refine l _ _ ⟨λ_=>t _,?_⟩;exact aeq
 refine WE rfl λK' l=>?_;go_simp;refine l _ _ ⟨λ_=>t _,?_⟩;refine Ah (i:=4) B ?_;refine WE rfl λK' l=>?_;go_simp;apply(P _).mono;rintro r w1 ⟨rfl,rfl⟩;refine l _ _ ⟨λ_=>t _,?_⟩;refine tk 11 14 (.agg #[G nm,I σ 0,I σ (ck:Z),I σ (d.size:Z),G d]) 16 (t _) ?_;exact aeq
def UO:(prog.info? 190).map (λi=>(i.zero,i.size,i.bytes))=J (J (.agg #[G ⟨#[]⟩,I σ 0,I σ 0,I σ 0,G ⟨#[]⟩]),5,48):=B
abbrev Fl:=Y×Y
def AK(fs:E Fl):E M:=fs.flatMap λf=>[G f.1,G f.2]
def Ea(fs:E Fl):(AK fs).length=fs.length*2:=by
 induction fs with
 |nil=>rfl
 |cons a r b=>rw[AK,aaC,Ws,<-AK,b,wu];simp;omega
def Qj(fs:E Fl)(j:N)(hj:j<fs.length):(AK fs)[j*2]? =J (G (fs.getD j default).1)/\(AK fs)[j*2+1]? =J (G (fs.getD j default).2):=by
 induction fs generalizing j with
 |nil=>simp at hj
 |cons a r b=>
  rw[AK,aaC,<-AK];exact ahG
def Au(w:U)(v:M)(fs:E Fl):Prop:=w.ownsRow 0 38 2 v fs.length<|AK fs
def Au.slice{v:M}{a:E Fl}(h:Au w v a)(k:0<a.length):∃g cap,v=K (J ⟨g,0,O⟩) a.length cap/\g<w.heap.size/\∀j,j<a.length->w.cell? ⟨g,j*2,O⟩=J (G (a.getD j default).1)/\w.cell? ⟨g,j*2+1,O⟩=J (G (a.getD j default).2):=by
 obtain⟨e,⟨rfl,_⟩|⟨g,cap,b,rfl,h1,d,f⟩⟩:=h
 .omega
 refine⟨g,cap,rfl,(Wt.1 d).1,λj i=>?_⟩;have p:=abs (w:=w) ⟨e,.inr ⟨g,cap,b,rfl,h1,d,f⟩⟩ (g:=g) rfl;obtain⟨c,hb⟩:=Qj a j i;exact aiE
def dA{wr:U}(i:It):∀j u,i.v.toList[j]? =J u->(wr.alloc<|W i.v 190).cell? ((⟨wr.heap.size,0,O⟩:Addr).add j)=J u:=by
 intro j u h;rw[we,WQ,Wu _ _ _ _ _ (0,0)<|WD wr _];rw[aah] at h;exact h
def Bd(fs:E Fl):E It:=fs.map λf=>GX f.1 f.2
def Qk(a:E Fl)(i:N)(h:i<a.length):Bd (a.take<|i+1)=Bd (a.take i)++[GX (a.getD i default).1 (a.getD i default).2]:=by
 rw[Bd,Bd,aay,Wv h,Wq,Wv h,wV];rfl
def Ql(a b:E It):DG (a++b)=DG a++DG b:=by simp[DG]
def LT(i:It):DG [i]=i.v.toList:=by simp[DG]
def BV(s:Y)(a:N):N->N
 |0=>0
 |n+1=>BV s a n+As s (a+n)*2^(8*n)
def Ff(s:Y)(a n:N):BV s a n<2^(8*n):=by
 induction n with
 |zero=>simp[BV]
 |succ n b=>
  have:=Bj s<|a+n;rw[BV,show 8*(n+1)=8*n+8 by omega,acm];have:As s (a+n)*2^(8*n)<=255*2^(8*n):=aag _ A;omega
def rP(s:Y)(a n:N):BV s a n|||As s (a+n)*2^(8*n)=BV s a (n+1):=by
 have h:=adN (Ff s a n)<|As s (a+n);rw[BV,aee,abg,<-h,acb,abg]
def JP(s:Y)(a n:N)(f:n<=4)(g:a+n<=s.size)(l:s.size<=1000000)(w:U):
 μ F 287 #[G s,I Q a,I Q n] w λr w'=>r=ε (I σ<|BV s a n)/\w'=w:=by
 go_in;go_wp2_with fail;go_loop [7,8,10] (λu _ x=>∃j:N,j<=n/\x=I Q j/\u=I σ (BV s a j)) λ_ _ x=>n-(intOf x).toNat
 .exact ⟨0,A,rfl,rfl⟩
 obtain⟨j,_,rfl,rfl⟩:=hrel;by_cases e:j<n
 .have c:(j:Z)<n:=A;have e:a+j<s.size:=A;have:=AA (s:=s) (k:=a+j) e;have:=Bj s<|a+j;have g:=Ff s a j;have l:2^(8*j)<=2^24:=wg A A;have d:2^(8*(j+1))<=2^32:=wg A A;have u:As s (a+j)*2^(8*j)<4294967296:=by
   have:As s (a+j)*2^(8*j)<=255*2^24:=abm A l;omega
  have e:=rP s a j;have f:BV s a j<4294967296:=A;have o:=abW (BV s a j) (As s (a+j)*2^(8*j)) f u;have:(As s (a+j):Z)*2^(8*j)=((As s (a+j)*2^(8*j):N):Z):=alq
  rw[e] at o;clear l d g e;generalize As s (a+j)*2^(8*j)=q at*;generalize As s (a+j)=b at*;generalize BV s a j=m at*;have h:BV s a (j+1)<4294967296:=by
   have:=Ff s a<|j+1;have d:2^(8*(j+1))<=2^32:=wg A A;omega
  have p:C (∃t,BV s a (j+1)=t):=⟨_,rfl⟩;obtain⟨t,d⟩:=X p;rw[d] at o h;have e:=H d;clear d p;go_wp2_with fail;go_round
  .exact ⟨j+1,A,by go_num,by rw[X e]⟩
  exact Ae
 have:¬(j:Z)<n:=A;have i:j=n:=A;subst i;exact aet
