import Derived.Test.YtfpphfkcaplafaaGreatDoorZap
import Derived.Test.YtfpphfkcaplafaaGreatDoorIt
import Derived.Sort.KeysCollected
set_option linter.all false
set_option maxHeartbeats 64000000
set_option maxRecDepth 100000
open _root_ renaming Option.some->J,Option.none->O,Int->Z,Nat->N,Go.Value.int->I,Go.Value.string->G,Go.IntKind.i64->Q,ByteArray->Y,List->E,Go.World->U,Go.Value.slice->K,Go.Value->M,Go.Obj.cells->W,Go.Value.pointer->V,Go.RowKit.Hid->C,Go.Proofs.Tryz.prog->F,Go.Ending.returned->ε,Go.Value.bool->ζ,Go.Value.tuple->η,Bool.true->θ,Bool.false->ι,absurd->κ,Go.Calls->μ,Go.TypeId->ν,Go.IntKind.u8->τ,UInt8->υ,Decidable.decide->Γ
variable{w w' w1 w2:U}{d v vf:M}{b base gm i j n:N}{P a nm p s u:Y}{R S T:N->Prop}{L l:E Y}{r:E υ}
namespace Go.Proofs.YtfpphfkcaplafaaGreatDoor
open Go.RowKit Go.Maps Go.Proofs.Tryz
def pE{w0:U}{v':M}(a:Am w0 w)(c:∀b,v.ownBlock=J b->w0.heap.size<=b)(d:w.grownBy w' v.ownBlock)(hb:v'.ownBlock=v.ownBlock\/ ∀k,v'.ownBlock=J k->w.heap.size<=k):Am w0 w'/\∀b,v'.ownBlock=J b->w0.heap.size<=b:=by
 refine⟨a.grown d λk _ e=>κ (c k e) A,λb h=>?_⟩;rcases hb with hb|hb
 .exact c b<|by rw[<-hb];exact h
 exact WI a.size<|hb b h
def Cf.pos(h:Cf w):0<w.heap.size:=by
 obtain⟨m,_⟩:=h;rcases aaD w.heap.size with h0|h0
 .exfalso;have:∀p:Addr,w.cell? p=none:=λp=>by simp[World.cell?,wO (show w.heap.size<=p.block by omega)]
  simp_all
 exact h0
abbrev DX:Y:=⟨#[65,66,67,68,69,70,71,72,73,74,75,76,77,78,79,80,81,82,83,84,85,86,87,88,89,90,97,98,99,100,101,102,103,104,105,106,107,108,109,110,111,112,113,114,115,116,117,118,119,120,121,122,48,49,50,51,52,53,54,55,56,57,43,47]⟩
def Qw(v p:N):N:=v/2^(18-6*p)%64
def Lp(v p:N):Qw v p<64:=wU _ A
def Kn(v p:N):N:=As DX<|Qw v p
def GM(v c:N):E υ:=(List.range c).map λp=>b8<|Kn v p
def JA(v c:N):(GM v c).length=c:=by simp[GM]
def FW(v c:N):GM v (c+1)=GM v c++[b8<|Kn v c]:=by simp[GM,aaS]
def zD{v p:N}(a:v<4294967296)(h:b+6*p=18):bits BinOp.and IntKind.u32 ((v:Z)/2^b) 63=(Qw v p:Z):=by
 have e:(v:Z)/2^b=((v/2^b:N):Z):=alg
 have c:v/2^b<4294967296:=aaY (ace _ _) a;have:=acE (v/2^b) 63 c A;have a:(v/2^b)&&&63=(v/2^b)%64:=acC (v/2^b) 6;rw[a] at this;rw[e];refine this.trans ?_;rw[Qw,show 18-6*p=b by omega]
def aK(S:N->Prop)(v:M)(l:E υ)(x c:N)(hx:x<4294967296)(R:c<=4)(hl:l.length<=1000000)(w:U)(R:BI S w)(hv:DY w S v l):
 μ F 228 #[v,I .u32 x,I Q c] w λr w'=>Ag S w w'/\∃v',r=ε v'/\DY w' S v' (l++GM x c):=by
 obtain⟨i0,u,y,z,D⟩:=wi Ij;have HB:=Af hv;have HF:=Af R;clear hv R;go_in;go_wp2;go_loopw [0,7,9] (λa4 _ a wr=>∃j:N,j<=c/\a=I Q j/\C (DY wr S a4<|l++GM x j)/\C (Ag S w wr)) λ_ _ a _=>c-(intOf a).toNat
 .exact ⟨0,A,rfl,by rw[show GM x 0=[] from rfl,wS];exact HB,Ag.refl _ w⟩
 obtain⟨j,_,rfl,d,e⟩:=hrel;clear HB;by_cases a1:j<c
 .have h:(j:Z)<c:=A;have P:C<|l++GM x (j+1)=l++GM x j++[b8<|Kn x j]:=by unfold C;rw[FW,WG]
  have:(l++GM x j).length<=1000100:=by rw[Ws,JA];omega
  obtain⟨s,hs⟩:∃s,s=18-6*j:=⟨_,rfl⟩;have R:s+6*j=18:=A;have:(18:Z)-6*(j:Z)=s:=A;have:s<=18:=A;have:=zD hx R;have i:=Lp x j;have T:Kn x j<256:=Bj DX<|Qw x j;have k:C<|Kn x j=As DX (Qw x j):=rfl;generalize Qw x j=m,Kn x j=q at*;have:(m:Z)<64:=A;have:((⟨#[65,66,67,68,69,70,71,72,73,74,75,76,77,78,79,80,81,82,83,84,85,86,87,88,89,90,97,98,99,100,101,102,103,104,105,106,107,108,109,110,111,112,113,114,115,116,117,118,119,120,121,122,48,49,50,51,52,53,54,55,56,57,43,47]⟩:Y)[m]'(show m<64 from i)).toNat=q:=(AA (s:=DX) (show m<64 from i)).trans (X k).symm;obtain⟨ao,cp,rfl,o,f⟩:=X d;have hA:Am wr<|wr.alloc (W #[I τ (q:Z)] 5):=(Ag.refl _ wr).alloc _;generalize l++GM x j=L at*;have i:=Af<|Dp o hA;have R:=Af<|Gy (wr:=wr) (n:=q);have:=Af f;have a0:=Af (λ(a1:Option Addr) (a:N) (w3:U)=>DY.more (w:=w) (w1:=wr.alloc<|W #[I τ (q:Z)] 5) (w2:=w3) (l:=L) (bs:=[b8 q]) (ao:=ao) (ao2:=a1) (cap:=cp) (cap2:=a) (H:=wr.heap.size+1) (HF _<|by have:=e.size;omega) (e.transNew hA λ_ _ x=>x.elim) f);have a2:Al [b8 q]=[I τ (q:Z)]:=by rw[Al,aai,aaF,AN T]
  clear o f hA d k hs;go_wp2_with (at_builtin;refine wpList_append_lies _ rfl (.tmp 12) (.tmp 20) 64 rfl 0 5 i0 (I τ 0) 1 1 underlying64 u y z D rfl A (K ao L.length cp) L.length _ rfl i ⟨wr.heap.size,0,O⟩ 1 1 [I τ (q:Z)] rfl rfl R (by intro a4 hu;simp at hu;subst hu;rfl) A (by unfold maxLen;omega) A A (wr.heap.size+1) Ad ?_;intro i a w3 g p t f;rw[<-a2] at g;have HX:=Af (a0 (J ⟨i,0,O⟩) a w3 g p λb hb=>by injection hb with hb;subst hb;exact t);clear g p t);go_roundw
  .exact ⟨j+1,A,by go_num,by rw[X P];exact HX.2,HX.1⟩
  exact Ae
 have h:¬(j:Z)<c:=A;have a3:j=c:=A;subst a3;go_wp2;go_ret;exact⟨e,_,rfl,d⟩
def Ub(b:N->N)(p:N):N:=(b p*65536|||b (p+1)*256)|||b (p+2)
def Ic(b:N->N)(j:N):E υ:=(List.range j).flatMap λi=>GM (Ub b<|3*i) 4
def KI(b:N->N)(j:N):Ic b (j+1)=Ic b j++GM (Ub b<|3*j) 4:=by simp[Ic,aaS,abI]
def KJ(b:N->N)(j:N):(Ic b j).length=4*j:=by
 induction j with
 |zero=>rfl
 |succ j a=>rw[KI,Ws,a,JA];omega
def eK{ao:Option Addr}{l:E υ}(h:DY w S (K ao n b) l):(convert 64 9<|K ao n b).run F w=.ok (G ⟨l.toArray⟩) w:=by
 obtain⟨_,_,a,b,_⟩:=h;rw[a];exact GB b
abbrev aL(b:N->N):Array M:=Dc 32 λi=> I τ (b i:Z)
def eL(b:N->N)(hb:∀i,b i<256)(w:U):
 μ F 163 #[.agg<|aL b] w λr w'=>r=ε (G<|An (Ic b 10++GM (b 30*65536|||b 31*256) 3++[61]))/\Am w w':=by
 have o:C (∀j,j<32->(w.alloc<|W (aL b) 214).cell? ⟨w.heap.size,j,O⟩=J (I τ (b j:Z))):=λj hj=>by
  rw[Wu _ _ j _ _ (0,0)<|WD w _];exact Ks 32 _ j hj
 generalize x:An (Ic b 10++GM (b 30*65536|||b 31*256) 3++[61])=Z2;have y:=Af x;clear x;have HB:=Af hb;have a1:C<|Am w (w.alloc<|W (aL b) 214):=(Ag.refl _ w).alloc _;clear hb;go_in;go_wp2_with fail;obtain⟨v,P⟩:∃v,w.alloc (W (aL b) 214)=v:=⟨_,rfl⟩;rw[P] at o a1 ⊢;have a2:v.heap.size=w.heap.size+1:=by rw[<-P,WP]
 clear P;obtain⟨S,hS⟩:∃S:N->Prop,S=λm=>v.heap.size<=m:=⟨_,rfl⟩
 have HF:C<|BI S v:=by rw[hS];exact λm hk=>hk
 have z:C (¬S w.heap.size):=by rw[hS];unfold C;omega
 have a3:C<|DY v S (K O 0 0) (Ic b 0):=DY.nil _ _;have c9:C (∀h,Ag S v h->Am w h):=λh a=>a1.transNew a λi _ a=>by rw[hS] at a;omega
 have s:=Af a2;clear hS a2;go_loopw [3,4] (λe3 x wr=>∃j:N,j<=10/\x=I Q ((3*j:N):Z)/\C (DY wr S e3<|Ic b j)/\C (Ag S v wr)) λ_ x _=>30-(intOf x).toNat
 .exact ⟨0,A,rfl,a3,Ag.refl _ _⟩
 obtain⟨j,hj,rfl,HU,q⟩:=hrel;clear a3;by_cases e4:j<10
 .obtain ⟨p,hp⟩:∃p,p=3*j:=⟨_,rfl⟩;rw[<-hp];have:(p:Z)<30:=A;obtain⟨d,a4⟩:∃d,d=p+1:=⟨_,rfl⟩;obtain⟨e,a5⟩:∃e,e=p+2:=⟨_,rfl⟩;have:(p:Z)+1=(d:Z):=A;have:(p:Z)+2=(e:Z):=A;have:(p:Z)<32:=A;have:(d:Z)<32:=A;have:(e:Z)<32:=A;have c0:=(q.cell (p:=⟨w.heap.size,p,O⟩) (by have:=X s;show w.heap.size<_;omega) z).trans<|o p A;have c1:=(q.cell (p:=⟨w.heap.size,d,O⟩) (by have:=X s;show w.heap.size<_;omega) z).trans<|o d A;have c2:=(q.cell (p:=⟨w.heap.size,e,O⟩) (by have:=X s;show w.heap.size<_;omega) z).trans<|o e A;have l0:=HB p;have l1:=HB d;have:=HB e;have d0:C<|Ub b (3*j)=(b p*65536|||b d*256)|||b e:=by unfold C Ub;rw[a4,a5,hp]
  generalize b p=b0 at*;generalize b d=b1 at*;generalize b e=b2 at*;obtain⟨c,t⟩:∃c,c=b0*65536:=⟨_,rfl⟩;obtain⟨x1,u⟩:∃x1,x1=b1*256:=⟨_,rfl⟩;have a6:(b0:Z)*65536=(c:Z):=A;have a7:(b1:Z)*256=(x1:Z):=A;have f:c<4294967296:=A;have g:x1<4294967296:=A;have d1:=abW c x1 f g;have k:=lC f g;have:=abW (c|||x1) b2 k A;have a8:(c|||x1)|||b2<4294967296:=lC k A
  have d2:C<|Ic b (j+1)=Ic b j++GM ((c|||x1)|||b2) 4:=by unfold C;rw[KI,X d0,t,u]
  have d3:(Ic b j).length<=1000:=alw
  generalize(c|||x1)|||b2=o2 at*
  generalize c|||x1=o1 at*
  generalize Ic b j=L at*;obtain⟨ao,cp,R,_,_⟩:=X HU;subst R;have T:C<|BI S wr:=λm hk=>HF m<|by have:=q.size;omega
  have HL:=Af λh a x =>aK S (K ao L.length cp) L o2 4 a8 A A h a x;have a9:IntKind.u32.wrap (b0:Z)=b0:=akT
  have b3:IntKind.u32.wrap (b1:Z)=b1:=akT
  have:IntKind.u32.wrap (b2:Z)=b2:=akT
  have b4:IntKind.u32.wrap (c:Z)=c:=akT
  have b5:IntKind.u32.wrap (x1:Z)=x1:=akT
  have:IntKind.i64.wrap (d:Z)=d:=Aw _ A;have:IntKind.i64.wrap (e:Z)=e:=Aw _ A;have:(0:Z)<=(p:Z):=A;have:(0:Z)<=(d:Z):=A;have:(0:Z)<=(e:Z):=A;have d4:C<|p+3=3*(j+1):=by unfold C;omega
  have:p<=30:=A;clear t u a4 a5 hp;go_upto_region 5 with fail;have a:wr.drew.cell? ⟨w.heap.size,p,O⟩=J (I τ (b0:Z))/\wr.drew.cell? ⟨w.heap.size,d,O⟩=J (I τ (b1:Z))/\wr.drew.cell? ⟨w.heap.size,e,O⟩=J (I τ (b2:Z)):=⟨c0,c1,c2⟩;refine Ai (S:=λh=>h.cell? ⟨w.heap.size,p,O⟩=J (I τ (b0:Z))/\h.cell? ⟨w.heap.size,d,O⟩=J (I τ (b1:Z))/\h.cell? ⟨w.heap.size,e,O⟩=J (I τ (b2:Z))) (L:=20) B ?_;refine tk 0 21 (K ao L.length cp) 9 a ?_;refine tk 1 21 (I Q p) 10 a ?_;refine tk 2 21 (V<|J ⟨w.heap.size,p,O⟩) 11 a ?_;refine tk 3 21 (I τ b0) 12 a ?_;refine tk 4 21 (I .u32 b0) 13 a ?_;refine tk 5 21 (I .u32 c) 14 a ?_;refine tk 6 21 (I Q p) 15 a ?_;refine tk 7 21 (I Q d) 16 a ?_;refine tk 8 21 (V<|J ⟨w.heap.size,d,O⟩) 17 a ?_;refine tk 9 21 (I τ b1) 18 a ?_;refine tk 10 21 (I .u32 b1) 19 a ?_;refine tk 11 21 (I .u32 x1) 20 a ?_;refine tk 12 21 (I .u32 o1) 21 a ?_;refine tk 13 21 (I Q p) 22 a ?_;refine tk 14 21 (I Q e) 23 a ?_;refine tk 15 21 (V<|J ⟨w.heap.size,e,O⟩) 24 a ?_;refine tk 16 21 (I τ b2) 25 a ?_;refine tk 17 21 (I .u32 b2) 26 a ?_;refine tk 18 21 (I .u32 o2) 27 a ?_;refine Ah (i:=19) B ?_;refine WE rfl λ_ D=>?_;go_simp;refine(HL wr.drew T HU).mono ?_;rintro r w4 ⟨b6,v4,rfl,b7⟩;have h :Ag S wr w4:=((Ag.refl _ wr).drew).trans b6;have P:=Af<|q.trans h;have a1:C<|DY w4 S v4 (Ic b<|j+1):=by rw[X d2];exact b7
  have x:w.heap.size<wr.heap.size:=by have:=X s;have:=q.size;omega
  refine D _ _ ⟨λ_=>⟨(h.cell (p:=⟨w.heap.size,p,O⟩) x z).trans c0,(h.cell (p:=⟨w.heap.size,d,O⟩) x z).trans c1,(h.cell (p:=⟨w.heap.size,e,O⟩) x z).trans c2⟩,?_⟩;clear D;refine Ah (i:=20) B ?_;refine WE rfl λ_ D=>?_;go_simp;refine D _ _ ⟨λd=>κ rfl d,?_⟩;clear D a c0 c1 c2 HL HU q b6 h b7;refine Aj B ?_;go_wp2;go_roundw
  .exact ⟨j+1,A,by rw[<-X d4];go_num,a1,P⟩
  exact Ae
 have d5:j=10:=A;subst d5;have:¬((3*10:N):Z)<30:=A;have a:w.heap.size<v.heap.size:=by have:=X s;omega
 have c0:=(q.cell (p:=⟨w.heap.size,30,O⟩) a z).trans<|o 30 A;have c1:=(q.cell (p:=⟨w.heap.size,31,O⟩) a z).trans<|o 31 A;have:=HB 30;have:=HB 31;obtain⟨i0,d6,d7,d8,d9⟩:=wi Ij;generalize b 30=b0 at*;generalize b 31=b1 at*;obtain⟨c,t⟩:∃c,c=b0*65536:=⟨_,rfl⟩;obtain⟨x1,u⟩:∃x1,x1=b1*256:=⟨_,rfl⟩;rw[<-t,<-u] at y;have:(b0:Z)*65536=(c:Z):=A;have:(b1:Z)*256=(x1:Z):=A;have f:c<4294967296:=A;have g:x1<4294967296:=A;have:=abW c x1 f g;have k:=lC f g;have:(Ic b 10).length<=1000:=alw
 have:IntKind.u32.wrap (b0:Z)=b0:=akT
 have:IntKind.u32.wrap (b1:Z)=b1:=akT
 have:IntKind.u32.wrap (c:Z)=c:=akT
 have:IntKind.u32.wrap (x1:Z)=x1:=akT
 generalize c|||x1=o1 at*
 generalize Ic b 10=L at*;obtain⟨ao,cp,R,_,_⟩:=X HU;subst R;have T:C<|BI S wr:=λm hk=>HF m<|by have:=q.size;omega
 have HL:=Af<|aK S (K ao L.length cp) L o1 3 k A A wr T HU;have:(L++GM o1 3).length<=1010:=by rw[Ws,JA];omega
 generalize L++GM o1 3=L2 at*;clear t u;go_wp2_with fail;refine HL.mono ?_;rintro r D ⟨b9,_,rfl,e0⟩;have c3:=Af<|q.trans b9;clear b9 HL q HU c0 c1;obtain⟨c4,c5,rfl,c6,a⟩:=e0;have c:Am D<|D.alloc (W #[I τ 61] 5):=(Ag.refl _ D).alloc _;have d:=Af<|Dp c6 c;have e:=Af<|Gy (wr:=D) (n:=61);have e1:=Af (λ(f:Option Addr) (m:N) (w3:U)=>DY.more (w:=v) (w1:=D.alloc<|W #[I τ 61] 5) (w2:=w3) (l:=L2) (bs:=[61]) (ao:=c4) (ao2:=f) (cap:=c5) (cap2:=m) (H:=D.heap.size+1) (HF _<|by have:=c3.size;omega) (c3.transNew c λ_ _ x=>x.elim) a);have e2:Al [61]=[I τ 61]:=rfl;clear c6 a c;go_wp2_with (at_builtin;refine wpList_append_lies _ rfl (.tmp 40) (.tmp 41) 64 rfl 0 5 i0 (I τ 0) 1 1 underlying64 d6 d7 d8 d9 rfl A (K c4 L2.length c5) L2.length _ rfl d ⟨D.heap.size,0,O⟩ 1 1 [I τ 61] rfl rfl e alI A (by unfold maxLen;omega) A A (D.heap.size+1) Ad ?_;intro g2 m w3 a0 c7 c8 a;rw[<-e2] at a0;have HX:=Af (e1 (J ⟨g2,0,O⟩) m w3 a0 c7 λb hb=>by injection hb with hb;subst hb;exact c8);clear a0 c7 c8;have:(convert 64 9<|K (J ⟨g2,0,O⟩) (L2.length+1) m).run F w3=.ok (G ⟨(L2++[61]).toArray⟩) w3:=eK HX.2);go_ret;exact⟨by rw[<-X y];rfl,c9 _ HX.1⟩
def Rq(x:E8)(q:N):N:=x.nth (q/4)/2^(24-8*(q%4))%256
def pF(x:E8)(q:N):Rq x q<256:=wU _ A
def xG(x:E8){k s:N}(a:j<4)(h:s+8*j=24):((x.nth k:N):Z)/2^s%256=((Rq x (4*k+j):N):Z):=by
 rw[Rq,show(4*k+j)/4=k by omega,show(4*k+j)%4=j by omega,show 24-8*j=s by omega,acq,aax,wY];rfl
def OR(x:E8)(t j:N):M:=if j<t then I τ (Rq x j:Z) else I τ 0
def sT(x:E8)(t j:N):(OR x t j).oneCell'=true:=by unfold OR;split<;>rfl
def xH{x:E8}{t:N}(h:j<t):OR x t j=I τ (Rq x j:Z):=Wz h
def pG(x:E8)(t:N):∀j,j<32->(if j=t then Value.int τ (Rq x t:Z) else OR x t j)=OR x (t+1) j:=by
 intro j _;unfold OR;exact afI
def sU:(prog.info? 214).map (·.size)=J 32:=B
def DJ(s:Y):E8:=Cm CU h0 (s++⟨(Fc (Bv s.size) s.size 8).toArray⟩) ((s.size+9+Bv s.size)/64)
def eM(s:Y):(DJ s).ok:=Of Yu _ _
def xI(s:Y)(hl:s.size<=140737488355328)(w:U)(hg:MO w):
 μ F 164 #[G s] w λe w'=>e=ε (.agg<|aL (Rq<|DJ s))/\Am w w':=by
 have d:=H λw1 h=>UR s hl w1 h;have hx:=eM s;rw[show Cm CU h0 (s++⟨(Fc (Bv s.size) s.size 8).toArray⟩) ((s.size+9+Bv s.size)/64)=DJ s from rfl] at d;generalize DJ s=x at*;have HX:=H hx;have a:Am w ((w.alloc<|W (Dc 32<|OR x 0) 214).alloc<|W (Dc 32<|OR x 0) 214):=((Ag.refl _ w).alloc _).alloc _;have hz:(Dc 32<|OR x 0)=Array.replicate 32 (I τ 0):=B;have f:C<|FZ ((w.alloc<|W (Dc 32<|OR x 0) 214).alloc<|W (Dc 32<|OR x 0) 214) (w.heap.size+1) 214 32 (OR x 0):=H<|FZ.mk' Ad rfl;have g:C<|FZ ((w.alloc<|W (Dc 32<|OR x 0) 214).alloc<|W (Dc 32<|OR x 0) 214) w.heap.size 214 32 (OR x 0):=H ((FZ.mk' rfl rfl).alloc _);rw[hz] at f g a;clear hz;have l:=H a;have HG:=H<|hg.old a;clear hg a hl hx;go_in;go_wp2_with fail;apply(d _ HG).mono;rintro e w1 ⟨rfl,c⟩;have m:=H<|f.old c;have n:=H<|g.old c;have o:=H<|Ag.trans l c;clear c f g l d HG;go_wp2;go_loopw [4,5,6,9] (λ_ _ _ i wr=>∃k:N,k<=8/\i=I Q k/\C (FZ wr (w.heap.size+1) 214 32<|OR x (4*k))/\C (FZ wr w.heap.size 214 32<|OR x 0)/\C (Am w wr)) λ_ _ _ i _=>8-(intOf i).toNat
 .exact ⟨0,Aa,rfl,m,n,o⟩
 obtain⟨k,_,rfl,i,r,HO⟩:=hrel;clear m n o;by_cases a:k<8
 .have u:=YQ x k a;have hn:=E8.nth_lt HX k;have:(k:Z)<8:=Aa;have y:=H λj s (D:j<4) (P:s+8*j=24)=>xG x (k:=k) D P;generalize x.nth k=nn at u hn y;go_wp2_with fail;clear u;go_loopw [6,13] (λ_ a wr=>∃j:N,j<=4/\a=I Q j/\C (FZ wr (w.heap.size+1) 214 32<|OR x (4*k+j))/\C (FZ wr w.heap.size 214 32<|OR x 0)/\C (Am w wr)) (λ_ a _=>4-(intOf a).toNat)
  .exact ⟨0,Aa,rfl,i,r,HO⟩
  obtain⟨j,D,rfl,i,r,HO⟩:=hrel;by_cases R:j<4
  .obtain ⟨s,P⟩:∃s,s=24-8*j:=⟨_,rfl⟩;obtain⟨q,L⟩:∃q,q=4*k+j:=⟨_,rfl⟩;have:(j:Z)<4:=Aa;have:(24:Z)-8*(j:Z)=s:=Aa;have:(4:Z)*(k:Z)+j=(q:Z):=Aa;have:(q:Z)<32:=Aa;have:(0:Z)<=(q:Z):=Aa;have:s<=24:=Aa;have a:=y j s R Aa;have c:=pF x<|4*k+j;rw[<-L] at a c;have:=i.row.thaw;have:=i.row.cell q Aa;have S:C (∀t:N,t=q->(FZ (wr.setCell ⟨w.heap.size+1,q,O⟩<|I τ (Rq x q:Z)) (w.heap.size+1) 214 32<|OR x (t+1))):=by
    intro t a;have h:=i.set q<|I τ (Rq x q:Z);rw[<-L] at h;rw[a];exact h.congr<|pG x q
   generalize Rq x q=b at*;have a:=H L;clear P L;go_wp2;go_roundw
   .refine ⟨j+1,Aa,by go_num,?_,?_,?_⟩
    .rw[show 4*k+(j+1)=(4*k+j)+1 by omega];exact S (4*k+j) (X a).symm
    .exact r.setOther _ _ Aa _
    exact HO.setCell (p:=⟨w.heap.size+1,q,O⟩) (λh=>κ (show w.heap.size+1<w.heap.size from h) Aa) _
   exact Ae
  have T:j=4:=Aa;subst T;go_wp2;go_roundw
  .exact ⟨k+1,Aa,by go_num,by rw[show 4*(k+1)=4*k+4 by omega];exact i,r,HO⟩
  exact Ae
 have a0:k=8:=Aa;subst a0;have hW:wr.heap[w.heap.size+1]? =J (W (Dc 32<|OR x 32) 214 (0,0)):=X i;have hZ:wr.heap[w.heap.size]? =J (W (Dc 32<|OR x 0) 214 (0,0)):=X r;have hi:(prog.info? 214).map (·.size)=J (Dc 32<|OR x 32).size:=by rw[Bm];exact sU
 have h1:(Dc 32<|OR x 32).all (·.oneCell')=true:=QY _ _<|sT x 32;have z:C<|Dc 32 (OR x 32)=aL (Rq x):=KN λj D=>xH D;have a1:(Dc 32<|OR x 0).size=(Dc 32<|OR x 32).size:=by rw[Bm,Bm]
 generalize hA:Dc 32 (OR x 32)=A at*;have:=H hA;clear hA;go_wp2_with (first
  |(refine abQ rfl 214 (.tmp 3) rfl (w.heap.size+1) rfl 214 A (0,0) _ hW underlying214 rfl hi ?_)
  |(refine aal rfl 214 (.tmp 2) (.tmp 29) rfl w.heap.size A rfl rfl 214 _ hZ hi a1 h1 ?_))
 refine wI (v:=.agg A) (abe results164 _ _ w.heap.size 214 A (0,0) _ rfl (aaa wr w.heap.size _ A _ _ hZ) underlying214 rfl hi) rfl ⟨?_,?_⟩
 .rw[X z]
 exact aiH
abbrev bT:ν:=204
def uo:(prog.info? bT).map (·.size)=J 2:=B
def uq:liesAt F prog.depth bT (2/prog.cellsOf bT) 0 bT 1=true:=B
def zE:(prog.info? 5).map (λi=>(i.zero,i.size,i.bytes))=J (J<|I τ 0,1,1):=B
def zF:Go.Shelf.Ren:=⟨fun|240=>227|276=>293|n=>n,fun|0=>0|4=>4|9=>9|20=>20|37=>64|70=>202|72=>204|164=>298|n=>n,fun|n=>n⟩
def pH:Lays.n240 F zF:={
 mixed:=B
 f240:=func227.trans<|hJ J B
 f276:=func293.trans<|hJ J B
 t0:=underlying0
 a0:=isAgg0
 z0:=sizeOf0
 v0:=zeroValue0
 t4:=underlying4
 a4:=isAgg4
 z4:=sizeOf4
 v4:=zeroValue4
 t9:=underlying9
 a9:=isAgg9
 z9:=sizeOf9
 v9:=zeroValue9
 t20:=underlying20
 a20:=isAgg20
 z20:=sizeOf20
 v20:=zeroValue20
 t70:=underlying202
 a70:=isAgg202
 z70:=sizeOf202
 v70:=zeroValue202
 t72:=underlying204
 a72:=isAgg204
 z72:=sizeOf204
 v72:=zeroValue204
 t164:=underlying298
 a164:=isAgg298
 z164:=sizeOf298
 v164:=zeroValue298}
def kz(b:N)(w:U)(h0:w.cell? ⟨b,0,O⟩=J (V<|J ⟨b,0,O⟩)):
 μ F 227 #[V<|J ⟨b,0,O⟩] w λe w'=>e=ε (η #[])/\w'=w:=
 Any.Builder_copyCheck_used pH ⟨uo,uq⟩ b w h0
def eN(b:N)(w:U)(h0:w.cell? ⟨b,0,O⟩=J (V O))(a:w.shape? b=J (bT,2))(c:w.frozen? ⟨b,0,O⟩=ι):
 μ F 227 #[V<|J ⟨b,0,O⟩] w λe w'=>e=ε (η #[])/\w'=w.setCell ⟨b,0,O⟩ (V<|J ⟨b,0,O⟩):=
 Any.Builder_copyCheck_fresh pH ⟨uo,uq⟩ b w h0 a c
def xJ(a b:N)(bs:E M)(w:U)(h:Lib.IsBuilderF bT 5 a b bs w):
 μ F 227 #[V<|J ⟨b,0,O⟩] w λe w'=>e=ε (η #[])/\Lib.BuilderAtF bT 5 a b (V<|J ⟨b,0,O⟩) bs w'/\Below a w w'/\Lib.OthersKept 5 (J b) w w':=by
 rcases h with h|h
 .apply (eN b w h.cell0 h.shape h.frozen0).mono;rintro e w' ⟨rfl,rfl⟩;exact⟨rfl,h.used _,(Below.refl a w).setCell (p:=⟨b,0,O⟩) h.1 _,(Lib.OthersKept.refl _ _ w).setCell ⟨b,0,O⟩ rfl _⟩
 apply(kz b w h.cell0).mono;rintro e w' ⟨rfl,rfl⟩;exact⟨rfl,h,Below.refl a _,Lib.OthersKept.refl _ _ _⟩
def kC(a b:N)(bs:E M)(s:Y)(w:U)(f:Lib.IsBuilderF bT 5 a b bs w)(c:bs.length+s.size<=140737488355328)(j:a<=w.heap.size):
 μ F 162 #[V<|J ⟨b,0,O⟩,G s] w λe w'=>(∃x,e=ε x)/\Lib.IsBuilderF bT 5 a b (bs++Lib.strCells s) w'/\Below a w w'/\Lib.OthersKept 5 (J b) w w':=by
 obtain⟨y,z,h,l,m⟩:=wi zE;have c:=H<|xJ a b bs w f;go_in;go_wp2_with fail;apply c.mono;rintro e q ⟨rfl,D,j,n⟩;obtain⟨r,v,f,c,o⟩:=D;have:q.cell? ⟨b,0,O⟩=J (V<|J ⟨b,0,O⟩):=by rw[aea f];rfl
 have:q.cell? ⟨b,1,O⟩=J v:=by rw[aea f];rfl
 have q:=(Wt.1 f).1;have:=j.size;go_wp2_with (at_builtin;refine Lib.wpList_append_own_stringF _ rfl _ _ 64 9 rfl a 5 y underlying64 underlying9 z h l m _ _ _ rfl c s rfl (by unfold maxLen;omega) A A ?_);intro k l d a _;have h:=(a.block b q λe=>o e.symm).trans f;have:l.cell? ⟨b,1,O⟩=J v:=by rw[aea h];rfl
 have:=Lib.frozen_of_heap h 1;have L:=H (Lib.BuilderAtF.put (T:=bT) (e:=5) r h (bs':=bs++Lib.strCells s) (v':=k) (by simpa [Lib.strCells_length] using d) Ac);have P:=H ((n.grown a<|Lib.ownsRowF_kind c).setCell ⟨b,1,O⟩ rfl k);have R:=H ((j.grown a A λa f=>(c.lt a f).1).setCell (p:=⟨b,1,O⟩) r k);obtain⟨t,u,i,rfl⟩:∃t u i,k =K t u i:=by
  rcases d.2 with⟨a,_⟩|⟨g,i,_,_,a,_⟩
  .exact ⟨_,_,_,a⟩
  exact⟨_,_,_,a⟩
 go_wp2;go_ret2;exact⟨⟨_,rfl⟩,.inr L,R,P⟩
def Id(w:U)(gm:N)(l:E Y):Prop:=
 ∃D:DataW Unit,w.ownsMap F 9 (plainElem F 3) gm l.length D/\(∀r:Y,has D (.string r.data.toList)=θ↔r∈l)/\∀i,i<l.length-> ∀z,D.atKey (.string (l.getD i ⟨#[]⟩).data.toList) z=.lit (.int Q (i:Z))
def Id.lt(h:Id w gm l):gm<w.heap.size:=by obtain⟨_,h,_⟩:=h;exact h.lt
def Id.kept(h:Id w gm l)(ho:Ag S w w')(hs:¬S gm):Id w' gm l:=ahy
def Id.old(h:Id w gm l)(a:Am w w'):Id w' gm l:=h.kept a λx=>x
def Id.made(w:U):Id (w.alloc (.map #[] 0)) w.heap.size []:=
 ⟨_,adf w F 9 _,λ_=>⟨λh=>by simp[has] at h,λh=>by simp at h⟩,λ_ a=>by simp at a⟩
abbrev qC:ν:=201
def pI(w:U):(zeroValue 3).run F w=.ok (I Q 0) w:=B
def xK(i:N)(h:i<9223372036854775808):(Lit.int Q (i:Z)).wf=true:=by
 show(Γ (IntKind.i64.min<=(i:Z))&&Γ ((i:Z)<=IntKind.i64.max))=θ;rw[wo,aae,aae];have:IntKind.i64.min= -9223372036854775808:=rfl;have:IntKind.i64.max=9223372036854775807:=rfl;omega
def Id.look(h:Id w gm l)(r:Y)(f:r.size<=maxLen)(g:r∉l):(Instr.lookup qC (.map<|J gm) (G r) θ).run F w=.ok (η #[I Q 0,ζ ι]) w:=by
 obtain⟨D,i,j,_⟩:=h;obtain⟨_,_,b,c⟩:=i.look_ok Dl underlying201 (pI w) (acS underlying3<|xK 0 A)<|QF r f;have d:has D (.string r.data.toList)=false:=by rw[abU];exact λe=>g ((j r).1 e)
 rw[atKey_of_not_has d] at c;obtain⟨a,rfl,e,_⟩:=adm underlying3 c;simp only[abL,adc,adP] at e;rw[b,d,<-e.1.2]
def Id.at(h:Id w gm l)(i:N)(c:i<l.length)(d:(l.getD i ⟨#[]⟩).size<=maxLen):(Instr.lookup qC (.map<|J gm) (G<|l.getD i ⟨#[]⟩) ι).run F w=.ok (I Q (i:Z)) w:=by
 obtain⟨_,e,_,f⟩:=h;obtain⟨_,b,a,_⟩:=e.lookup_int Dl underlying201 underlying3 (pI w)<|QF _ d;rw[f i c] at a;simp only[adc,adP] at a;rw[b,a.2]
def Id.put(h:Id w gm l)(r:Y)(j:r.size<=maxLen)(m:r∉l)(a:l.length<4000000):∃w',(Instr.mapUpdate qC (.map<|J gm) (G r)<|I Q (l.length:Z)).run F w=.ok () w'/\Id w' gm (l++[r])/\Ag (λk=>k=gm) w w':=by
 obtain⟨_,c,n,o⟩:=h;obtain⟨p,b,a,d⟩:=c.update Dl underlying201 (by unfold maxLen;omega) (QF r j)<|acS underlying3 (xK l.length A);refine⟨p,b,⟨_,by rw[Ws];exact a,λq=>?_,λi s z=>?_⟩,(Ag.refl _ w).grown d λk _ e=>(WX e).symm⟩
 .by_cases e:q=r
  .subst e;rw[adz c.isMap<|Zj _];exact⟨λ_=>Ad,λ_=>rfl⟩
  have a:=Nv (show q≠r from e);rw[adq a,n q,WY,WN];exact⟨.inl,λh=>h.elim id λx=>κ x e⟩
 by_cases e:i<l.length
 .have f:(l++[r]).getD i ⟨#[]⟩=l.getD i ⟨#[]⟩:=by
   rw[Wq,Wq,WW e]
  have a:l.getD i ⟨#[]⟩≠r:=λg=>m<|by rw[<-g,Wq,Wv e];exact WJ e
  rw[f,aec<|Nv a];exact o i e z
 have g:i=l.length:=by simp at s;omega
 subst g;have f:(l++[r]).getD l.length ⟨#[]⟩=r:=by
  rw[Wq,WU<|WF _];simp
 rw[f,aeg c.isMap<|Zj _]
def kD(h:Below w.heap.size w w'):Am w w':=⟨h.os,h.tape,h.output,h.size,λk a _=>h.block k a⟩
def NH(h:Below b w w'):Ag (λk=>b<=k) w w':=⟨h.os,h.tape,h.output,h.size,λk _ _=>h.block k A⟩
def Vw(h:Am w w'):w.grownBy w' none:=⟨h.os,h.tape,h.output,h.size,λk a _=>h.block k a λx=>x⟩
def aM{b:Y}(h:a.data.toList=b.data.toList):a=b:=aaj<|abf.1 h
open Go.Sort Go.Shelf in
def xL(m:N):AnyZ.SortsIn F sorted94_ren Fence.wide m:=
 ⟨λc d a g e h b f=>aeb.2<|AnyM.slices_Sort_string sort177 c d a g e h b f,
  λp a e=>aeb.2<|AnyM.slices_Sort_string_none sort177 p a e⟩
open Go.Sort Go.Shelf in
def sW(b l:N)(d:DataW Unit)(R:M->Option (DataW Unit×E MemPlace))(w:U)(c:w.ownsMap F 9 R b l d)(g:Maps.size d<=maxLen)(a:Maps.size d*16<=140737488355328):
 μ F 160 #[.func (.func 226) #[] #[V<|J ⟨w.heap.size,0,O⟩]] (w.alloc<|W #[.map<|J b] qC) λe w'=>∃(v:M) (f:E<|E υ),e=ε v/\f.Perm (strKeys d)/\
  w'.ownsRow (w.alloc<|W #[.map<|J b] qC).heap.size 9 1 v f.length ((f.mergeSort Go.leB).map encStr)/\Below (w.alloc<|W #[.map<|J b] qC).heap.size (w.alloc<|W #[.map<|J b] qC) w':=by
 have j:=c.lt;have h:SeqGives Fence.wide 2 F 226 #[V<|J ⟨w.heap.size,0,O⟩] encStr (λf=>f.Perm<|strKeys d) (Maps.size d)<|w.alloc (W #[.map<|J b] qC):=
  AnyZ.keys_gives (ρ:=keys95_ren) {keys95 with} Fence.wide _ trivial rfl A w.heap.size b l d _ Ad Ad (by
   obtain⟨l,d,k,m,n,o⟩:=c;exact⟨l,d,(Below.heap_alloc _ _ b j).trans k,m,n,o⟩)
 apply(aeb.1<|AnyZ.sorted_in sorted94 Fence.wide 5 trivial trivial trivial trivial rfl A (xL _) (enters_of func225 B rfl) 226 #[V<|J ⟨w.heap.size,0,O⟩] trivial (enters_of func226 B rfl) _ _ g a _ h).mono;rintro e w' ⟨v,f,rfl,p,i,_,k⟩;exact⟨v,f,rfl,p,i,k⟩
def Id.keysG{c:E Y}(t:Id w gm c)(i:l.Perm c)(n:l.Pairwise λa b=>a.data.toList<b.data.toList)(x:l.length<4000000):
 μ F 161 #[.map<|J gm] w λe w1=>∃b,e=ε b/\Am w w1/\
  μ F 160 #[b] w1 λe w'=>∃v,e=ε v/\Am w1 w'/\w'.ownsRow w1.heap.size 9 1 v l.length (l.map λs=> G s):=by
 obtain⟨_,j,u,_⟩:=t;apply(aeb.1<|AnyZ.keys_in keys95 Fence.wide 5 trivial rfl (J gm) w).mono;rintro e w1 ⟨rfl,rfl⟩;refine⟨_,rfl,(Ag.refl _ w).alloc _,?_⟩;obtain⟨o,k,m⟩:=j.tidy Dl;obtain⟨_,g,y⟩:=j.keysOf;subst k;cases g;have g:(l.map λs:Y=>s.data.toList).Nodup:=by
  refine abr.2 (n.imp λ{a b} f e=>?_);rw[e] at f;exact aaq _ f
 have h:(l.map λs:Y=>s.data.toList).Perm<|strKeys (DataW.map o):=by
  refine perm_strKeys m (λp h=>?_) g λx=>?_
  .obtain ⟨_,g⟩:=y p h;obtain⟨x,_,k,_⟩:=keyOf_str underlying9 g;exact⟨x,k⟩
  have g:=u ⟨x.toArray⟩;have e:(⟨x.toArray⟩:Y).data.toList=x:=Ad;rw[e] at g;rw[g,<-i.mem_iff,wd];constructor
  .rintro ⟨s,z,rfl⟩;exact(show(⟨s.data.toList.toArray⟩:Y)=s from aM Ad) ▸ z
  intro g;exact⟨_,g,Ad⟩
 have g:Maps.size (DataW.map o)=l.length:=by
  have:=h.length_eq;simpa [strKeys,Maps.size] using this.symm
 refine(sW gm c.length _ _ w j (by rw[g];unfold maxLen;omega)<|by rw[g];omega).mono ?_;rintro e w' ⟨v,q,rfl,r,d,D⟩;have L:q.mergeSort Go.leB=l.map λs:Y=>s.data.toList:=by
  rw[mergeSort_of_perm<|r.trans h.symm];refine List.mergeSort_of_pairwise (abr.2 (n.imp λ{a b} f=>?_));simp only[Go.leB,aae];exact List.le_of_lt f
 have f:q.length=l.length:=by rw[(r.trans h.symm).length_eq,wX]
 refine⟨v,rfl,kD D,?_⟩;rw[L,f,List.map_map] at d;have c:l.map (encStr ∘λs:Y=>s.data.toList)=l.map λs=> G s:=acw λs _=>by simp[encStr]
 rw[c] at d;exact d
def Id.met(h:Id w gm l)(r:Y)(c:r.size<=maxLen)(d:r∈l):∃a:Z,(Instr.lookup qC (.map<|J gm) (G r) θ).run F w=.ok (η #[I Q a,ζ θ]) w:=by
 obtain⟨_,e,f,_⟩:=h;obtain⟨_,_,b,g⟩:=e.look_ok Dl underlying201 (pI w) (acS underlying3<|xK 0 A)<|QF r c;have i:=(f r).2 d;obtain⟨a,rfl,_,_⟩:=adm underlying3 g;exact⟨a,by rw[b,i]⟩
def Ly(p:Y)(f:Fl):Y:=CY f.2++⟨#[32,32]⟩++p++f.1++⟨#[10]⟩
def Bw(p:Y)(fs:E Fl):E υ:=fs.flatMap λf=>(Ly p f).data.toList
def KK(b:N->N):E υ:=Ic b 10++GM (b 30*65536|||b 31*256) 3++[61]
def sX(p:Y)(fs:E Fl):Y:=⟨#[104,49,58]⟩++An (KK<|Rq (DJ<|An (Bw p fs)))
def Ko(s:Y):(CY s).size=64:=by
 rw[Qm];show(KS _ 64).toArray.size=64;rw[wK,YO]
def Tk(p:Y)(f:Fl):(Ly p f).size=67+p.size+f.1.size:=by
 unfold Ly;rw[WC,WC,WC,WC,Ko];show 64+2+p.size+f.1.size+1=_;omega
def Qx(p:Y)(a:E Fl)(i:N)(h:i<a.length):Bw p (a.take<|i+1)=Bw p (a.take i)++(Ly p<|a.getD i default).data.toList:=by
 rw[Bw,Bw,aay,Wv h,Wq,Wv h,abI];simp
def JG(fs:E Fl):E Y:=fs.map Prod.fst
def Tl(a:E Fl)(i:N)(h:i<a.length):(JG a).getD i ⟨#[]⟩=(a.getD i default).1:=by
 rw[JG,Wq,Wq,aaI,Wv h];rfl
def kE(a:E Fl)(i:N)(h:i<a.length):JG (a.take<|i+1)=JG (a.take i)++[(a.getD i default).1]:=by
 rw[JG,JG,aay,Wv h,Wq,Wv h,wV];rfl
def Iu(w:U)(base:N)(v:M)(l:E Y):Prop:=w.ownsRow base 9 1 v l.length (l.map λs=> G s)
def Iu.old(h:Iu w base v l)(a:Am w w'):Iu w' base v l:=World.ownsRow.kept h (Vw a)<|by cases v.ownBlock<;>simp
def Iu.others(h:Iu w base v l)(n:b<base)(e:Lib.OthersKept 5 (J b) w w'):Iu w' base v l:=by
 obtain⟨d,f|⟨g,a,c,rfl,i,j,k⟩⟩:=h
 .exact ⟨d,.inl f⟩
 refine⟨d,.inr ⟨g,a,c,rfl,i,e g _ j ako ?_,k⟩⟩;intro _ _ m;injection m with _ a;exact κ a Ac
def Iu.shape(h:Iu w base v l):∃ao cap g,v=K ao l.length cap/\(0<l.length->ao=J ⟨g,0,O⟩):=by
 obtain⟨_,⟨rfl,a⟩|⟨g,cap,_,rfl,_,_,_⟩⟩:=h
 .exact ⟨O,0,0,by rw[a],A⟩
 exact⟨_,cap,g,rfl,λ_=>rfl⟩
def Iu.cell{g cap:N}(h:Iu w base (K (J ⟨g,0,O⟩) l.length cap) l)(i:N)(a:i<l.length):w.cell? ⟨g,i,O⟩=J (G<|l.getD i ⟨#[]⟩):=by
 have:=abs h (g:=g) rfl i (G<|l.getD i ⟨#[]⟩) (by rw[aaI,Wq,Wv a];rfl);exact ahP
def Mh{T e:ν}{c:N}{bs:E M}(h:Lib.IsBuilderF T e c b bs w)(f:Am w w'):Lib.IsBuilderF T e c b bs w':=by
 have a:∀p,Lib.BuilderAtF T e c b p bs w->Lib.BuilderAtF T e c b p bs w':=by
  rintro p ⟨g,v,i,c,d⟩;exact⟨g,v,AH f i,c.kept (Vw f) (by cases v.ownBlock<;>simp),d⟩
 exact h.elim (λx=> .inl<|a _ x) λx=> .inr<|a _ x
def aN(w:U):Lib.IsBuilderF 204 5 w.heap.size w.heap.size []<|w.alloc (W #[V O,K O 0 0] 204):=
 .inl ⟨WF _,K O 0 0,WD w _,⟨rfl,.inl ⟨rfl,rfl⟩⟩,by intro h;cases h⟩
def Au.any{fs:E Fl}(h:Au w v fs)(hp:0<w.heap.size):∃ao cap g,v=K ao fs.length cap/\g<w.heap.size/\(0<fs.length->ao=J ⟨g,0,O⟩)/\∀j,j<fs.length->w.cell? ⟨g,j*2,O⟩=J (G (fs.getD j default).1)/\w.cell? ⟨g,j*2+1,O⟩=J (G (fs.getD j default).2):=afQ
def OI(fs:E Fl):E Fl:=fs.mergeSort λa b=>Γ<|a.1.data.toList<=b.1.data.toList
def JB(a:E Fl):(OI a).Perm a:=List.mergeSort_perm _ _
def Vx{c:E Fl}(f:c.Pairwise λa b=>a.1≠b.1):QK<|OI c:=by
 have d:(OI c).Pairwise (λa b=>Γ (a.1.data.toList<=b.1.data.toList)=θ):=
  List.pairwise_mergeSort (λa b _ d e=>by
   rw[aae] at*;exact List.le_trans d e) (λa b=>by
   rw[abt,aae,aae];exact List.le_total _ _) c
 have e:=(List.Perm.pairwise_iff (λ{a b} h g=>h g.symm)<|JB c).2 f;refine(d.and e).imp λ{a b} h=>?_;have g:=wn h.1;rcases List.le_iff_lt_or_eq.1 g with h4|h4
 .exact h4
 exact κ (aM h4) h.2
def PR(F:E Y)(nm:Y):N:=if CE nm=ι then 4 else if F.any (λx=>Γ<|x=nm)=θ then 5 else 0
def Ix:E Fl->E Y->N
 |[],_=>0
 |f::r,F=>if PR F f.1=0 then Ix r (F++[f.1]) else PR F f.1
def sY{a:E Y}(h:PR a nm=0):CE nm=θ/\nm∉a:=by
 unfold PR at h;split at h
 .cases h
 rename_i b;split at h
 .cases h
 rename_i a;exact⟨by simpa using b,λb=>a<|wJ.2 ⟨nm,b,Wy rfl⟩⟩
structure kF (fs:E Fl) (i:N):Prop where
 go:Ix fs []=Ix (fs.drop i) ((fs.take i).map Prod.fst)
 dif:((fs.take i).map Prod.fst).Pairwise λa b=>a≠b
def kF.start(a:E Fl):kF a 0:=⟨rfl,aaJ⟩
def Vy(a:E Fl)(i:N)(h:i<a.length):a.drop i=a.getD i default::a.drop (i+1):=by
 rw[wN h,Wq,Wv h];rfl
def Vz(a:E Fl)(i:N)(h:i<a.length):(a.take<|i+1).map Prod.fst=(a.take i).map Prod.fst++[(a.getD i default).1]:=by
 rw[aay,Wv h,Wq,Wv h,wV];rfl
def kF.end{c:E Fl}(h:kF c i)(d:c.length<=i):Ix c []=0/\c.Pairwise (λa b=>a.1≠b.1):=by
 refine⟨by rw[h.go,abK d];rfl,?_⟩;have:=h.dif;rw[wv d] at this;exact abr.1 this
def kF.fault{a:E Fl}(h:kF a i)(b:i<a.length)(c:PR ((a.take i).map Prod.fst) (a.getD i default).1≠0):Ix a []=PR ((a.take i).map Prod.fst) (a.getD i default).1:=by
 rw[h.go,Vy a i b,Ix,Wx c]
def kF.next{fs:E Fl}(h:kF fs i)(hi:i<fs.length)(he:PR ((fs.take i).map Prod.fst) (fs.getD i default).1=0):kF fs<|i+1:=by
 refine⟨by rw[h.go,Vy fs i hi,Ix,Wz he,Vz fs i hi],?_⟩;rw[Vz fs i hi];refine aao.2 ⟨h.dif,aaW _ _,λa d b c e=>?_⟩;rw[WN] at c;subst e c;exact(sY he).2 d
def Tm(p:Y)(fs:E Fl):Y×N:=if Ix fs []=0 then(sX p<|OI fs,0) else(⟨#[]⟩,Ix fs [])
def MG(p:Y)(n:N):∀(a:E Fl),(∀f∈a,f.1.size<=n)->(Bw p a).length<=(67+n+p.size)*a.length
 |[],_=>by simp[Bw]
 |f::r,h=>by
  have:=MG p n r λx a=>h x<|wQ _ a;have:=h f<|aaO ..;have a:=Tk p f;have e:Bw p (f::r)=(Ly p f).data.toList++Bw p r:=by simp[Bw]
  have b:(Ly p f).data.toList.length=(Ly p f).size:=wE;rw[e,Ws,wu,b,a,adI];omega
def pJ{a l:E Fl}(h:l.Perm a)(j:N)(b:j<l.length):∃i,i<a.length/\a.getD i default=l.getD j default:=by
 have c:=h.mem_iff.1<|WJ b;obtain⟨i,a,e⟩:=wF c;refine⟨i,a,?_⟩;rw[Wq,Wv a,Wq,Wv b];exact e
def Wn(p:Y)(hp:p.size<=1000)(ao:Option Addr)(cap g:N)(fs:E Fl)(g9:fs.length<=1100000)(hfz:∀f∈fs,f.1.size<=2000000/\f.2.size<=2000000)(w:U)(b5:g<w.heap.size)(s:0<fs.length->ao=J ⟨g,0,O⟩)
 (c3:∀j,j<fs.length->w.cell? ⟨g,j*2,O⟩=J (G (fs.getD j default).1)/\w.cell? ⟨g,j*2+1,O⟩=J (G (fs.getD j default).2))(hm:Cf w)(hg:MO w):
 μ F 96 #[G p,K ao fs.length cap] w λr w'=>Am w w'/\r=ε (η #[G (Tm p fs).1,I Q ((Tm p fs).2:Z)]):=by
 have c4:C (∀i,i<fs.length->(fs.getD i default).1.size<=2000000/\(fs.getD i default).2.size<=2000000):=λi hi=>ajL
 have b6:=H c3;have c5:=H s;have HM:=H hm;have HG:=H hg;have b:C (Tm p fs=if Ix fs []=0 then(sX p<|OI fs,0) else(⟨#[]⟩,Ix fs [])):=rfl;have f9:(Instr.makeMap qC<|J (I Q (fs.length:Z))).run F w=.ok (.map<|J w.heap.size) (w.alloc (.map #[] 0)):=by
  simp[Instr.makeMap,asIntOf,newObj,go_sem]
  rfl
 have c6:C<|Am w (w.alloc (.map #[] 0)):=(Ag.refl _ w).alloc _;have c7:C<|Id (w.alloc (.map #[] 0)) w.heap.size (JG<|fs.take 0):=Id.made w;have c8:=H<|kF.start fs;have b3:C (∀f∈fs.take 0,f.1.size<=80):=λf hf=>by cases hf
 clear c3 s hm hg hfz;go_in;go_wp2_with fail;clear f9;go_loopw [7,8,9,10,19] (λ_ _ _ _ x wr=>∃i:N,i<=fs.length/\x=I Q i/\C (Am w wr)/\C (Id wr w.heap.size<|JG (fs.take i))/\C (kF fs i)/\C (∀f∈fs.take i,f.1.size<=80)) λ_ _ _ _ x _=>fs.length-(intOf x).toNat
 .exact ⟨0,A,rfl,c6,c7,c8,b3⟩
 obtain⟨i,hi,rfl,HO,HP,m,O4⟩:=hrel;clear c6 c7 c8 b3;by_cases o:i<fs.length
 .have P:(i:Z)<fs.length:=A;have s:=c5 A;subst s;have g0:=(HO.cell (p:=⟨g,i*2,O⟩) b5 λx=>x).trans (b6 i o).1;have a2:=(HO.cell (p:=⟨g,i*2+1,O⟩) b5 λx=>x).trans (b6 i o).2;obtain⟨c9,d0⟩:=c4 i o;have HS:=H<|kE fs i o;have a3:=H λh=>m.next o h;have D:=H λh=>m.fault o h;have n:C (PR ((fs.take i).map Prod.fst) (fs.getD i default).1=if CE (fs.getD i default).1=ι then 4 else if(JG<|fs.take i).any (λx=>Γ<|x=(fs.getD i default).1)=θ then 5 else 0):=rfl;have R:C (CE (fs.getD i default).1=θ-> ∀f∈fs.take (i+1),f.1.size<=80):=λh f hf=>agW
  have a4:(JG<|fs.take i).length=i:=by simp[JG];omega
  generalize PR ((fs.take i).map Prod.fst) (fs.getD i default).1=sf at*;generalize JG (fs.take i)=L at*;generalize fs.getD i default=f at*;obtain⟨z,d⟩:=f;simp only at*;have hA:Am wr<|wr.alloc (W #[G z,G d] 38):=(Ag.refl _ wr).alloc _;have d1:=WD wr<|W #[G z,G d] 38;have t:=H<|Xw z A (wr.alloc<|W #[G z,G d] 38) ((HM.old HO).old hA);have a5:=H<|Ag.trans HO hA;have b7:=H<|HP.old hA;clear hA HO HP m O4;cases S:CE z with
  |false=>
   rw[S] at t n;have a:=n.trans<|Wz rfl;have HA:C<|Tm p fs=(⟨#[]⟩,4):=ags;clear D a3 n R S a b;go_wp2_with fail;refine t.mono ?_;rintro e w1 ⟨rfl,c⟩;have u:=H<|Ag.trans a5 c;clear t c a5 b7;exact ajH
  |true=>
   rw[S] at t n;have R:=H<|R S;clear S;go_wp2_with fail;refine t.mono ?_;rintro e w1 ⟨rfl,c⟩;have u:=H<|Ag.trans a5 c;have q:=H<|b7.old c;have S:=AH c d1;have g1:w1.cell? ⟨wr.heap.size,0,O⟩=J (G z):=by rw[Wu _ _ 0 _ _ (0,0) S];rfl
   clear t c a5 b7 d1 S g0 a2;by_cases k:z∈L
   .obtain ⟨t,T⟩:=q.met z (by unfold maxLen;omega) k;have a:sf=5:=by
     rw[X n,Wx Ac,Wz<|wJ.2 ⟨z,k,Wy rfl⟩]
    have HA:C<|Tm p fs=(⟨#[]⟩,5):=ags;clear D a3 n R a b k;exact ajH
   have a:sf=0:=by
    rw[X n,Wx Ac,Wx (λh=>by
     obtain⟨x,t,e⟩:=wJ.1 h;exact k ((wn e) ▸ t))]
   have b3:=H<|a3 a;have T:=q.look z (by unfold maxLen;omega) k;obtain⟨w2,t,S,a5⟩:=q.put z (by unfold maxLen;omega) k A;rw[a4] at t;have a6:C<|Id w2 w.heap.size (JG<|fs.take (i+1)):=by rw[X HS];exact S
   have a7:C<|Am w w2:=u.transNew a5 λb7 hk e=>A;clear q u S a5 k a3 D n a;go_wp2_with fail;clear t T g1;go_roundw
   .exact ⟨i+1,A,by go_num,a7,a6,b3,R⟩
   exact Ae
 have P:¬(i:Z)<fs.length:=A;have b9:i=fs.length:=A;subst b9;rw[wL] at HP O4;obtain⟨n,k⟩:=m.end<|WF _;have d2:=H<|JB fs;have g2:=H<|Vx k;have d3:C (∀f∈OI fs,f.1.size<=80):=λf hf=>O4 f ((JB fs).mem_iff.1 hf)
 have d4:=H<|b.trans (Wz n);have:=(JB fs).length_eq;clear m n k O4 b;generalize OI fs=l at*;have hA:Am wr<|wr.alloc (W #[V O,K O 0 0] 204):=(Ag.refl _ wr).alloc _;have d5:=H<|aN wr;have a4:(JG l).length=fs.length:=by simp[JG];omega
 have:(JG fs).length=fs.length:=by simp[JG]
 have d6:=H ((HP.old hA).keysG (l:=JG l) (d2.map Prod.fst) (by
  have h:=X g2;rw[JG];exact abr.2 h) A)
 have d7:=H<|HP.old hA;have d8:=H<|Ag.trans HO hA;have d9:=H<|HO.size;have g3:=H<|HP.lt;have k:(wr.alloc<|W #[V O,K O 0 0] 204).heap.size=wr.heap.size+1:=WP _ _;have e0:=H k;clear hA HO HP k;go_wp2_with fail;refine d6.mono ?_;rintro e w1 ⟨kb,rfl,c,k⟩;have e1:=H k;have e2:=H<|Mh d5 c;have q:=H<|d7.old c;have u:=H<|Ag.trans d8 c;have e3:C<|wr.heap.size<w1.heap.size:=by have h1:=c.size;have h2:=X e0;unfold C;omega
 clear k c d6 d5 d7 d8 e0;go_wp2_with fail;refine e1.mono ?_;rintro e w2 ⟨kv,rfl,a0,b4⟩;have a8:C<|Iu w2 w1.heap.size kv (JG l):=b4;have e4:=H<|Mh e2 a0;have a6:=H<|q.old a0;have a7:=H<|Ag.trans u a0;have e5:C<|wr.heap.size<=w2.heap.size:=by have h1:=a0.size;have h2:=X e3;unfold C;omega
 obtain⟨ko,kc,kg,rfl,a9⟩:=a8.shape;have e6:=H a9;rw[a4] at e6 a8 ⊢;clear a0 b4 e1 e2 q u a9;generalize wr.heap.size=B at*;generalize w1.heap.size=B1 at*;go_wp2;go_loopw [13,45] (λ_ x c=>∃i:N,i<=fs.length/\x=I Q i/\C (Lib.IsBuilderF 204 5 B B (Lib.byteCells<|Bw p (l.take i)) c)/\C (Iu c B1 (K ko fs.length kc)<|JG l)/\C (Id c w.heap.size<|JG fs)/\C (Am w c)/\C (B<=c.heap.size)) λ_ x _=>fs.length-(intOf x).toNat
 .exact ⟨0,A,rfl,e4,a8,a6,a7,e5⟩
 obtain⟨i,hi,rfl,a1,b0,b1,v,c0⟩:=hrel;clear e4 a8 a6 a7 e5;by_cases o:i<fs.length
 .have P:(i:Z)<fs.length:=A;have s:=c5 A;subst s;have a9:=e6 A;subst a9;have g4:wr.cell? ⟨kg,i,O⟩=J (G (l.getD i default).1):=by
   have h:=X b0;rw[<-a4] at h;have h2:=h.cell i A;rw[Tl l i A] at h2;exact h2
  obtain⟨q,k,c⟩:=pJ d2 i A;obtain⟨c9,d0⟩:=c4 q k;have T:=b1.at q A (by rw[Tl fs q k];unfold maxLen;omega);rw[Tl fs q k,c] at T;have a2:=(v.cell (p:=⟨g,q*2+1,O⟩) b5 λx=>x).trans (b6 q k).2;rw[c] at a2 c9 d0;have:(q:Z)<fs.length:=A;have g5:=H<|Qx p l i A;have b2:C ((Bw p<|l.take i).length<=1300000000):=by
   have h1:=MG p 80 (l.take i) λf hf=>d3 f<|abb hf;have h2:(l.take i).length<=1100000:=akY
   have h3:(67+80+p.size)*(l.take i).length<=(67+80+p.size)*1100000:=acv _ h2;unfold C;omega
  clear c;have g6:C<|Ly p (l.getD i default)=CY (l.getD i default).2++⟨#[32,32]⟩++p++(l.getD i default).1++⟨#[10]⟩:=rfl;have g7:=H<|Tk p (l.getD i default);have:=Ko (l.getD i default).2;have e7:=H<|nJ (l.getD i default).2 A wr (HG.old v);generalize Bw p (l.take i)=LL at*;generalize Ly p (l.getD i default)=li at*;generalize l.getD i default=f at*;obtain⟨z,d⟩:=f;simp only at*;generalize CY d=dg at*;go_wp2_with fail;refine e7.mono ?_;rintro e w3 ⟨rfl,y⟩;have e8:=H<|Mh a1 y;have e9:=H<|b0.old y;have f0:=H<|b1.old y;have f1:=H<|Ag.trans v y;have c1:=H<|WI c0 y.size;clear y e7 a1 b0 b1 v c0 g4 T a2;go_wp2_with fail;have c:=X g6;rw[<-c];have f2:=H (kC B B (Lib.byteCells LL) li w3 e8 (by have h1:=X g7;have:=X b2;rw[Lib.byteCells,wX];omega) c1);refine f2.mono ?_;rintro e w4 ⟨⟨x,rfl⟩,f3,c,k⟩;have n:C<|Lib.IsBuilderF 204 5 B B (Lib.byteCells<|Bw p (l.take<|i+1)) w4:=by
   unfold C;rw[X g5,Lib.byteCells_append,<-Lib.strCells_eq];exact f3
  have q:=H<|e9.others e3 k;have s:=H (f0.kept (NH c)<|by have:=X g3;omega);have t:C<|Am w w4:=f1.transNew (NH c) (λx y e=>by have:=X d9;omega);have x:=H<|WI c1 c.size;clear f3 c k f2 e8 e9 f0 f1 c1;go_wp2;go_roundw
  .exact ⟨i+1,A,by go_num,n,q,s,t,x⟩
  exact Ae
 have:¬(i:Z)<fs.length:=A;have b9:i=fs.length:=A;subst b9;rw[wv A] at a1;have b2:C ((Bw p l).length<=1300000000):=by
  have:=MG p 80 l d3;have:(67+80+p.size)*l.length<=(67+80+p.size)*1100000:=acv _ A;unfold C;omega
 have g8:C<|sX p l=⟨#[104,49,58]⟩++An (KK<|Rq (DJ<|An (Bw p l))):=rfl;have m:=H<|Builder_String_any_k B B (Bw p l) wr a1 c0;have c:(⟨(Bw p l).toArray⟩:Y)=An (Bw p l):=rfl;rw[c] at m;have k:(An<|Bw p l).size<=140737488355328:=by rw[AG];have:=X b2;omega
 have f4:=H λc2 n=>xI (An<|Bw p l) k c2 n;clear c k b2 a1 b0 b1;generalize An (Bw p l)=lines at*;have f5:C (∀c2,μ F 163 #[.agg<|aL (Rq<|DJ lines)] c2 λr w'=>r=ε (G<|An (KK<|Rq (DJ lines)))/\Am c2 w'):=λc2=>eL _ (λi=>pF _ i) c2
 have:(An<|KK (Rq<|DJ lines)).size=44:=by rw[AG,KK,Ws,Ws,KJ,JA];rfl
 generalize An (KK<|Rq (DJ lines))=su at*;generalize aL (Rq<|DJ lines)=sa at*;go_wp2_with fail;refine m.mono ?_;rintro e w5 ⟨rfl,_,c,_⟩;have c2:C<|Am w w5:=v.transNew (NH c) (λk n e=>by have:=X d9;omega);clear m c v;go_wp2_with fail;refine(f4 w5<|HG.old c2).mono ?_;rintro e w6 ⟨rfl,f6⟩;have f7:=H<|Ag.trans c2 f6;clear f4 f6 c2;go_wp2_with fail;refine(f5 w6).mono ?_;rintro e w7 ⟨rfl,f8⟩;have c:=H<|Ag.trans f7 f8;clear f5 f8 f7;go_wp2;go_ret2;exact⟨c,by rw[X d4,X g8];rfl⟩
def pK(s:Y):Lv s s=true:=(Ou s.size s s<|WF _).2<|ZT s
def Tn(s:Y):BE s<=4000:=by unfold BE;split<;>omega
def To:∀(r:E Fl) (c:E Y),(∀f∈r,CE f.1=θ)->(c++r.map Prod.fst).Pairwise (λa b=>a≠b)->Ix r c=0
 |[],_,_,_=>rfl
 |f::r,c,d,e=>by
  have g:PR c f.1=0:=by
   unfold PR;rw[Wx (by rw[d f<|aaO ..];decide),Wx];intro h;obtain⟨x,c,i⟩:=wJ.1 h;exact(aao.1 e).2.2 x c f.1 Ad (wn i)
  rw[Ix,Wz g];refine To r _ (λx c=>d x<|wQ _ c) ?_;rw[WG];exact e
def Tp:∀(its:E It) (f:Iw) (d:N) (g:E Y),Gq g f->g.Pairwise (λa b=>a≠b)->Be its f d=0->(∀it∈its,CE it.name=θ/\it.size<=4000)/\(g++its.map It.name).Pairwise (λa b=>a≠b)
 |[],f,d,g,_,i,_=>⟨λit h=>akU,by simpa using i⟩
 |it::r,f,d,g,l,i,h=>by
  rw[Be] at h;by_cases h0:DW f d it=0
  .rw[Wz h0] at h;obtain⟨a1,_,j,c,_⟩:=OC h0;have k:(g++[it.name]).Pairwise (λa b=>a≠b):=by
    refine aao.2 ⟨i,aaW _ _,λa n b m e=>?_⟩;rw[WN] at m;subst e m;rw[MC l,aar] at j;exact j _ n<|pK _
   obtain⟨b1,b2⟩:=Tp r _ _ _ (l.add j) k h;exact aht
  rw[Wx h0] at h;exact κ h h0
def Mi:∀(its:E It) (a b:E Fl),FV its a=(b,0)->b=a++its.map (λit=>(it.name,(Gt it).1))/\∀it∈its,(Gt it).2=0
 |[],a,b,h=>by
  rw[FV] at h;injection h with h;exact⟨by rw[<-h];simp,λit c=>by cases c⟩
 |it::r,a,b,h=>by
  rw[FV] at h;by_cases h0:(Gt it).2=0
  .rw[Wz h0] at h;obtain⟨a,c⟩:=Mi r _ b h;refine⟨by rw[a];simp,λx d=>?_⟩;rcases wD.1 d with e|e
   .rw[e];exact h0
   exact c x e
  exact aie
def pL{a:It}(h:(Gt a).2=0):(Gt a).1.size=a.size:=by
 have b:(Ib a).2=0->(Ib a).1.size=a.size:=by
  unfold Ib;split
  .split
   .rename_i e;exact λ_=>e
   intro h;cases h
  split
  .rename_i e;exact λ_=>e.2.2
  intro h;cases h
 unfold Gt at h ⊢;split at h
 .rename_i e;exact κ h e
 rename_i e;rw[Wx e];split at h
 .rename_i a;rw[Wz a];exact b<|Decidable.of_not_not e
 cases h
def aO{c:E Fl}(i:a.size<=40000)(h:Kl p a=(c,0)):Ix c []=0/\c.length<=60/\∀f∈c,f.1.size<=80/\f.2.size<=4000:=by
 unfold Kl at h;rw[Wx A] at h;cases e:Fo p a with
 |none=>rw[e] at h;injection h with _ h;cases h
 |some d=>
  rw[e] at h;simp only at h;by_cases h0:Be d (λ_=>O) 0=0
  .rw[Wz h0] at h;obtain⟨f1,g⟩:=Tp d _ 0 [] Gq.nil aaJ h0;obtain⟨u,j⟩:=Mi d [] c h;rw[aan] at u g;refine⟨To c [] (λf hf=>?_) ?_,?_,λf hf=>?_⟩
   .exact ajo
   .rw[aan,u,List.map_map];exact g
   .rw[u,wX];exact(Tc e i).2
   rw[u] at hf;obtain⟨b,hi,rfl⟩:=wd.1 hf;exact⟨Eg (f1 b hi).1,by show(Gt b).1.size<=4000;rw[pL<|j b hi];exact(f1 b hi).2⟩
  exact aie
def FY(s v:Y)(fs:E Fl):Y×N:=match GL s v with
 |none=>(⟨#[]⟩,3)
 |some p=>Tm p fs
def Lz(s v a t:Y):N:=if(Bu s v a).2≠0 then(Bu s v a).2 else if(FY s v (Bu s v a).1).1=t then 0 else 9
def MH{v:Y}(h:(Bu s v a).2=0):(FY s v (Bu s v a).1).2=0/\(Bu s v a).1.length<=60/\∀f∈(Bu s v a).1,f.1.size<=80/\f.2.size<=4000:=by
 unfold Bu FY at*;cases b:GL s v with
 |none=>rw[b] at h;cases h
 |some p=>
  rw[b] at h;simp only at h ⊢;have b:a.size<=40000:=aiR;have c:Kl p a=((Kl p a).1,0):=Prod.ext rfl h;obtain⟨d,e,g⟩:=aO b c;exact⟨by rw[Tm,Wz d],e,g⟩
def ur(s v:Y)(l:s.size<=2000000)(x:v.size<=2000000)(ao:Option Addr)(cap g:N)(b:E Fl)(e:b.length<=1100000)(h:∀f∈b,f.1.size<=2000000/\f.2.size<=2000000)(w:U)(d:g<w.heap.size)(i:0<b.length->ao=J ⟨g,0,O⟩)
 (c:∀j,j<b.length->w.cell? ⟨g,j*2,O⟩=J (G (b.getD j default).1)/\w.cell? ⟨g,j*2+1,O⟩=J (G (b.getD j default).2))(o:Cf w)(t:MO w):
 μ F 46 #[G s,G v,K ao b.length cap] w λr w'=>Am w w'/\r=ε (η #[G (FY s v b).1,I Q ((FY s v b).2:Z)]):=by
 have y:=H<|XM s v l x w o;cases a:GL s v with
 |none=>
  have m:C<|FY s v b=(⟨#[]⟩,3):=by unfold C FY;rw[a]
  rw[a] at y;clear a c;exact agL
 |some p=>
  have m:C<|FY s v b=Tm p b:=by unfold C FY;rw[a]
  have n:C (∀k,Am w k->μ F 96 #[G p,K ao b.length cap] k λr w'=>Am k w'/\r=ε (η #[G (Tm p b).1,I Q ((Tm p b).2:Z)])):=λk l=>
   Wn p (IZ a) ao cap g b e h k (wG d l.size) i (λj e=>⟨(l.cell (p:=⟨g,j*2,O⟩) d λx=>x).trans (c j e).1,(l.cell (p:=⟨g,j*2+1,O⟩) d λx=>x).trans (c j e).2⟩) (o.old l) (t.old l)
  rw[a] at y;clear o t a c i h;rw[X m];generalize Tm p b=Z2 at*;obtain⟨_,_⟩:=Z2;simp only at*;go_in;go_wp2_with fail;refine y.mono ?_;rintro r w1 ⟨rfl,q⟩;have u:=H q;have n:=H<|n w1 q;clear q y;go_wp2_with fail;refine n.mono ?_;rintro r z ⟨k,rfl⟩;have a:=H<|Ag.trans u k;clear k n;go_wp2;go_ret2;exact⟨a,rfl⟩
def pM(f:Iw)(a:N)(b:It):DW f a b<=5:=by
 unfold DW;exact ajp
def NI:∀(its:E It) (f:Iw) (a:N),Be its f a<=5
 |[],_,_=>by rw[Be];omega
 |it::r,f,a=>by
  rw[Be];split
  .exact NI r _ _
  exact pM f a it
def sZ(a:It):(Ib a).2<=7:=by
 unfold Ib;split
 .split
  .exact wH _
  exact WF _
 split
 .exact wH _
 show 2<=7;omega
def ib(a:It):(Gt a).2<=8:=by
 have:=sZ a;unfold Gt;split
 .show (Ib a).2<=8;omega
 split
 .exact wH _
 exact WF _
def aP:∀(its:E It) (a:E Fl),(FV its a).2<=8
 |[],_=>by rw[FV];exact wH _
 |it::r,a=>by
  rw[FV];split
  .exact aP r _
  exact ib it
def MI(s v a:Y):(Bu s v a).2<=100:=by
 unfold Bu;split
 .simp only;omega
 unfold Kl;split
 .simp only;omega
 split
 .simp only;omega
 split
 .exact WI (aP _ _) A
 exact WI (NI _ _ _) A
def pN(s v a t:Y)(D:s.size<=2000000)(L:v.size<=2000000)(x:a.size<=9223372036854775807)(w:U)(f:Cf w)(c:DF w)(o:MO w):μ F 48 #[G s,G v,G a,G t] w λr w'=>Am w w'/\r=ε (I Q (Lz s v a t:Z)):=by
 have m:=H<|Tg s v a D L x w f c;have n:C (Lz s v a t=if(Bu s v a).2≠0 then(Bu s v a).2 else if(FY s v (Bu s v a).1).1=t then 0 else 9):=rfl;by_cases h:(Bu s v a).2=0
 .obtain ⟨i,S,P⟩:=MH h;have j:C (∀b k,Am w b->Au b k (Bu s v a).1->μ F 46 #[G s,G v,k] b λr w'=>Am b w'/\r=ε (η #[G (FY s v (Bu s v a).1).1,I Q ((FY s v (Bu s v a).1).2:Z)])):=λb k d e=>by
   obtain⟨ao,p,g,rfl,q,x,y⟩:=e.any (f.old d).pos;exact ur s v D L ao p g _ A (λl e=>by have:=P l e;omega) b q x y (f.old d)<|o.old d
  rw[i] at j;have HE:=H (n.trans (Wx λb=>b h));clear n i S P f c o;generalize(FY s v (Bu s v a).1).1=sm at*;have i:=TG sm t;generalize Lz s v a t=J1 at*;generalize Bu s v a=um at*;obtain⟨ul,z⟩:=um;simp only at*;subst h;go_in;go_wp2_with fail;refine m.mono ?_;rintro r R ⟨b,d⟩;rcases d with⟨-,k,rfl,e, -⟩|⟨e1, -⟩
  .have j:=H<|j R k b e;have u:=H b;clear m b e;go_wp2_with fail;refine j.mono ?_;rintro r w2 ⟨l,rfl⟩;have T:=H<|Ag.trans u l;clear j l u;by_cases e:sm=t
   .rw[Wy e] at i;have HA:=H<|HE.trans (Wz e);clear e HE;exact agJ
   rw[Ww e] at i;have HA:=H<|HE.trans (Wx e);clear e HE;exact agJ
  exact κ rfl e1
 have HE:=H<|n.trans (Wz h);clear n;have:=MI s v a;clear f c o;generalize Lz s v a t=J1 at*;generalize Bu s v a=um at*;obtain⟨ul,z⟩:=um;simp only at*;have:((z:Z) !=0)=true:=akQ
 have:¬(z:Z)=0:=A;go_in;go_wp2_with fail;refine m.mono ?_;rintro r R ⟨b,d⟩;rcases d with⟨e0, -⟩|⟨-,rfl⟩
 .exact κ e0 h
 have u:=H b;clear m b;exact ajP
def xM(g n cap:N)(L:E Y)(v:Y)(b:n<=L.length)(f:n<=3000000)(w:U)(b:∀i (h:i<L.length),w.cell? ⟨g,i,O⟩=J (G L[i])):μ F 231 #[K (J ⟨g,0,O⟩) n cap,G v] w λr w'=>∃k:Z,r=ε (I Q k)/\Γ (0<=k)=(L.take n).any (λz=>v.toList==z.toList)/\w'=w:=by
 have c:=H b;clear b;go_in;go_wp2_with fail;go_loop [5,8] (λ_ x=>∃i:N,i<=n/\x=I Q i/\C (∀j (h:j<L.length),j<i->(v.toList==(L[j]).toList)=ι)) λ_ x=>n-(intOf x).toNat
 .exact agc
 obtain⟨i,_,rfl,HT⟩:=hrel;by_cases d:i<n
 .have a:(i:Z)<n:=A;have b:i<L.length:=A;have:=c i b;cases hk:(v.toList==(L[i]).toList) with
  |true=>
   have HA:C (Γ ((0:Z)<=(i:Z))=(L.take n).any λz=>v.toList==z.toList):=aiZ;generalize L[i]=z at*;exact aho
  |false=>
   have p :C (∀j (h:j<L.length),j<i+1->(v.toList==(L[j]).toList)=ι):=λj h _=>ake
   generalize L[i]=z at*;exact afk
 have:¬(i:Z)<n:=A;have HA:C (Γ ((0:Z)<= -1)=(L.take n).any λz=>v.toList==z.toList):=ahF;exact aho
def kG(g n cap:N)(L:E Y)(v:Y)(a:n<=L.length)(c:n<=3000000)(w:U)(d:∀i (h:i<L.length),w.cell? ⟨g,i,O⟩=J (G L[i])):μ F 169 #[K (J ⟨g,0,O⟩) n cap,G v] w λr w'=>r=ε (ζ ((L.take n).any λz=>v.toList==z.toList))/\w'=w:=by
 have y:=xM g n cap L v a c w d;generalize(L.take n).any (λz=>v.toList==z.toList)=b at*;exact akI
abbrev PS:Y:=⟨#[46,116,109,112]⟩
def Do(s:Y):Bool:=Γ (s.size<=80)&& !Lib.hasSuffix s.data.toList PS.data.toList&& !(Bt s).any λz=>(⟨#[]⟩:Y).toList==z.toList
def pO(s:Y)(m:s.size<=140737488355328)(w:U)(i:Cf w):μ F 104 #[G s] w λr w'=>r=ε (ζ<|Do s)/\Am w w':=by
 by_cases b:s.size<=80
 .have c:¬(80:Z)<(s.size:Z):=A;have:(Bt s).length<=100:=agz;have e:=H<|strings_HasSuffix s PS w A;have j:=H<|Xv s A w i;have d:=H λg (m:U) h=>kG g (Bt s).length (Bt s).length (Bt s) ⟨#[]⟩ (WF _) A m h;rw[wL] at d;have a:C (Do s=(!Lib.hasSuffix s.data.toList PS.data.toList&& !(Bt s).any λz=>(⟨#[]⟩:Y).toList==z.toList)):=by unfold C;rw[Do,Wy b,aas]
  generalize Do s=Z2 at*;generalize(Bt s).any (λz=>(⟨#[]⟩:Y).toList==z.toList)=b2 at*;generalize Bt s=L at*;cases f:Lib.hasSuffix s.data.toList PS.data.toList with
  |true=>
   rw[f] at e a;clear f i j d;have HE:C<|Z2=ι:=by rw[X a];rfl
   clear a;go_in;go_wp2_with fail;refine e.mono ?_;rintro k w' ⟨rfl,rfl⟩;exact ajm
  |false=>
   rw[f] at e a;clear f i;have HE:C<|Z2= !b2:=by rw[X a];rfl
   clear a;go_in;go_wp2_with fail;refine e.mono ?_;rintro k w' ⟨rfl,rfl⟩;go_wp2_with fail;refine j.mono ?_;rintro k n ⟨rfl,l,_,a⟩;have HO:=H l;have d:=H<|d _ n a;clear l a j;go_wp2_with fail;refine d.mono ?_;rintro k _ ⟨rfl,rfl⟩;exact ahZ
 have:(80:Z)<(s.size:Z):=A;have HE:C<|Do s=ι:=by unfold C;rw[Do,Ww b];rfl
 generalize Do s=Z2 at*;go_in;exact ajm
def aQ:∀(n:N) (s:Y),s.size<=n->(∀x∈Ax s 47,0<x.size)->dk.Vp (dk.bl s):=by
 intro n;induction n with
 |zero=>
  intro s b h;have:=EU s 47;have c:=WJ this;have e:=h _ c;have:=EV c;omega
 |succ n f=>
  intro s b h;rcases Ju s with hn|⟨a,r,d,rfl⟩
  .rw[CM hn] at h;have h0:=h s<|WN.2 rfl;refine dk.Vp.one (λe=>?_) hn.mem;have:s.size=0:=by rw[<-dk.Bi,e];rfl
   omega
  rw[KC d] at h;have:=h a<|aaO ..;rw[Or] at b;have b:dk.bl (jn a r)=dk.bl a++47::dk.bl r:=Gp a r;rw[b];refine dk.Vp.app (dk.Vp.one (λe=>?_) d.mem) (f r A λx b=>h x<|wQ _ b);have:a.size=0:=by rw[<-dk.Bi,e];rfl
  omega
def JT(h:CE s=θ):dk.Vp (dk.bl s)/\s.size<=80:=by
 refine⟨aQ s.size s (WF _) λx b=>?_,Eg h⟩;rw[IW s.size s<|WF _] at b;unfold CE at h;rw[wo] at h;have a:=wC.1 h.2 x b;unfold LX Cq at a;simp only[wo,aae] at a;exact a.1.1.1.2
def Mj(h:Do s=θ):dk.Vp (dk.bl s)/\s.size<=80:=by
 unfold Do at h;rw[wo,wo] at h;obtain⟨⟨b, -⟩,c⟩:=h;refine⟨aQ s.size s (WF _) λx a=>?_,wn b⟩;rw[IW s.size s<|WF _] at a;have b:(Bt s).any (λz=>(⟨#[]⟩:Y).toList==z.toList)=false:=by simpa using c
 have d:=aar.1 b x a;apply Decidable.byContradiction;intro _;have h0:x.size=0:=A;have e:x=⟨#[]⟩:=by
  apply aaj;exact abv h0
 subst e;simp at d
def BO(P:Y):Y:=P++PS
def MK(P:Y):dk.bl (BO P)=dk.bl P++[46,116,109,112]:=by rw[BO,dk.Np]
def Ja(P:Y):(BO P).size=P.size+4:=by rw[BO,WC];rfl
def ta{l t:E υ}(h:dk.Vp l)(c:47∉t):dk.Vp<|l++t:=by
 refine⟨λe=>h.1 (List.append_eq_nil_iff.1 e).1,λi a=>?_⟩;by_cases b:i<l.length
 .rw[WW b] at a;obtain⟨b,d,_⟩:=h.2 i a;refine⟨b,?_,by rw[Ws];omega⟩;rw[WW A];exact d
 rw[WU A] at a;exact κ (List.mem_of_getElem? a) c
def ic(h:dk.Vp<|dk.bl P):dk.Vp<|dk.bl (BO P):=by
 rw[MK];exact ta h Ac
def PT{s u v:E υ}(h:dk.cJ s u)(k:dk.cJ s v):u=v:=by
 rcases h with⟨b, -,c⟩|⟨_,b, -,c, -⟩
 .rcases k with⟨a, -, -⟩|⟨e,a, -, -, -⟩
  .rw[b,a]
  exact κ (by rw[a];simp) c
 rcases k with⟨-, -,d⟩|⟨e,a, -,d, -⟩
 .exact κ (by rw[b];simp) d
 exact(dk.XK (b.symm.trans a) c d).1
def pP(b:dk.Vp<|dk.bl P)(h:dk.AE P=J u):dk.AE (BO P)=J u:=by
 obtain⟨_,a⟩:=dk.SY<|ic b;rw[a];congr 1;apply dk.Dx;refine PT (dk.FE a) ?_;rw[MK];rcases dk.FE h with⟨a,b,h3⟩|⟨r,a,b,h3,c⟩
 .refine .inl ⟨a,by simp[b],λhm=>?_⟩;exact ajE
 refine .inr ⟨r++[46,116,109,112],by rw[a];simp,Ad,λhm=>?_,c⟩;exact ajE
def pQ(P:Y):¬dk.Wi (dk.bl<|BO P) (dk.bl P):=by
 rw[MK];rintro(h|⟨_,h⟩)
 .have:=hJ List.length h;simp at this
 have:=List.append_cancel_left h;injection this with a;exact κ a Ac
def pR(P:Y):¬dk.Wi (dk.bl P) (dk.bl<|BO P):=by
 intro h;have:=h.len;rw[MK,Ws] at this;simp at this;omega
structure NJ (fs:E Fl):Prop where
 file:∀f∈fs,CE f.1=θ
 data:∀f∈fs,f.2.size<=4000
 apart:fs.Pairwise λa b=> ¬gI a.1 b.1
 len:fs.length<=60
def Qy:∀(its:E It) (f:Iw) (d:N) (g:E Y),Gq g f->g.Pairwise (λa b=> ¬gI a b)->Be its f d=0->(∀it∈its,CE it.name=θ/\it.size<=4000)/\(g++its.map It.name).Pairwise (λa b=> ¬gI a b)
 |[],f,d,g,_,i,_=>⟨λit h=>akU,by simpa using i⟩
 |it::r,f,d,g,k,i,h=>by
  rw[Be] at h;by_cases h0:DW f d it=0
  .rw[Wz h0] at h;obtain⟨a1,_,l,c,_⟩:=OC h0;have j:(g++[it.name]).Pairwise (λa b=> ¬gI a b):=by
    refine aao.2 ⟨i,aaW _ _,λa n b m e=>?_⟩;rw[WN] at m;subst m;have:=(PG k it.name).2 ⟨a,n,e⟩;rw[l] at this;cases this
   obtain⟨b1,b2⟩:=Qy r _ _ _ (k.add l) j h;exact aht
  rw[Wx h0] at h;exact κ h h0
def xN{c:E Fl}(i:a.size<=40000)(h:Kl p a=(c,0)):NJ c:=by
 obtain⟨-,e,f⟩:=aO i h;unfold Kl at h;rw[Wx A] at h;cases g:Fo p a with
 |none=>rw[g] at h;injection h with _ h;cases h
 |some d=>
  rw[g] at h;simp only at h;by_cases h0:Be d (λ_=>O) 0=0
  .rw[Wz h0] at h;obtain⟨f1,g⟩:=Qy d _ 0 [] Gq.nil aaJ h0;obtain⟨u,_⟩:=Mi d [] c h;rw[aan] at u g;refine⟨λc hf=>?_,λc hf=>(f c hf).2,?_,e⟩
   .exact ajo
   rw[u];exact abr.2<|abr.1 g
  exact aie
def Rr{v:Y}(h:(Bu s v a).2=0):NJ (Bu s v a).1:=by
 unfold Bu at*;cases b:GL s v with
 |none=>rw[b] at h;cases h
 |some p=>
  rw[b] at h;simp only at h ⊢;have b:a.size<=40000:=aiR;exact xN b<|Prod.ext rfl h
def Rs(fs:E Fl):E Y:=fs.foldl (λL f=>dk.CV L<|Bf f.1 f.1.size) []
def Tq(a:E Fl)(f:Fl):Rs (a++[f])=dk.CV (Rs a) (Bf f.1 f.1.size):=by rw[Rs,List.foldl_append];rfl
def XO(fs:E Fl)(x:Y):x∈Rs fs↔ ∃f∈fs,x∈Bf f.1 f.1.size:=by
 have a:∀(fs:E Fl) (L:E Y),x∈fs.foldl (λL f=>dk.CV L<|Bf f.1 f.1.size) L↔x∈L\/ ∃f∈fs,x∈Bf f.1 f.1.size:=by
  intro fs;induction fs with
  |nil=>intro L;simp
  |cons f r b=>
   intro L;rw[acf,b,dk.Gs];constructor
   .rintro ((h|h)|⟨g,hg,h⟩)
    .exact .inl h
    .exact .inr ⟨f,aaO ..,h⟩
    exact .inr ⟨g,wQ _ hg,h⟩
   rintro(h|⟨g,hg,h⟩)
   .exact .inl (.inl h)
   rcases wD.1 hg with rfl|hg
   .exact .inl (.inr h)
   exact .inr ⟨g,hg,h⟩
 rw[Rs,a];simp
def ie{x:Y}(h:x∈Bf s s.size):x∈Ey s:=List.mem_append_left _ h
def OJ(s:Y):s∈Ey s:=List.mem_append_right _<|WN.2 rfl
def NJ.nofol{fs:E Fl}(m:NJ fs):∀f∈fs,∀g∈fs,f.1∉Bf g.1 g.1.size:=by
 have c:∀s:Y,s∉Bf s s.size:=λs d=>by
  obtain⟨r,n⟩:=dk.FF.1 d;have:=hJ List.length n;rw[Ws] at this;simp at this
 have h:∀(fs:E Fl),fs.Pairwise (λa b=> ¬gI a.1 b.1)-> ∀f∈fs,∀g∈fs,f.1∉Bf g.1 g.1.size:=by
  intro fs;induction fs with
  |nil=>intro _ f i;cases i
  |cons x r o=>
   intro n f i g l;obtain⟨d,j⟩:=List.pairwise_cons.1 n;rcases wD.1 i with e|hf2
   .rcases wD.1 l with e2|hg2
    .rw[e,e2];exact c _
    rw[e];exact λk=>d g hg2 ⟨x.1,OJ _,x.1,ie k,rfl,.inr (.inl rfl)⟩
   rcases wD.1 l with e2|hg2
   .rw[e2];exact λk=>d f hf2 ⟨f.1,ie k,f.1,OJ _,rfl,.inr (.inr rfl)⟩
   exact o j f hf2 g hg2
 exact h fs m.apart
def NJ.dif{c:E Fl}(h:NJ c):c.Pairwise (λa b=>a.1≠b.1):=h.apart.imp λ{a b} c e=>c ⟨a.1,OJ _,b.1,OJ _,by rw[e],.inr (.inl rfl)⟩
def NJ.fsL{a:E Fl}(h:NJ a):dk.zT (Rs a) a:=by
 refine⟨λf b=>JT<|h.file f b,h.dif,λf b c=>?_,λf b g r e=>(XO a g).2 ⟨f,b,dk.FF.2 ⟨r,e⟩⟩⟩;obtain⟨g,d,e⟩:=(XO a f.1).1 c;exact h.nofol f b g d e
def KL(s:Y):(Bf s s.size).length<=s.size:=GZ s s.size
def Rt(fs:E Fl)(h:∀f∈fs,f.1.size<=80):(Rs fs).length<=80*fs.length:=by
 have a:∀(fs:E Fl),(∀f∈fs,f.1.size<=80)-> ∀L:E Y,(fs.foldl (λL f=>dk.CV L<|Bf f.1 f.1.size) L).length<=L.length+80*fs.length:=by
  intro fs;induction fs with
  |nil=>intro _ L;simp
  |cons f r c=>
   intro b L;rw[acf];have d:=c (λx c=>b x<|wQ _ c)<|dk.CV L (Bf f.1 f.1.size);have c:=dk.EW (Bf f.1 f.1.size) L;have d:=KL f.1;have c:=b f<|aaO ..;rw[wu];omega
 have:=a fs h [];simpa [Rs] using this
def kH{a b:U}(h:dk.Ag S a b):Ag S a b:=⟨h.os,h.tape,h.output,h.size,h.block⟩
def Uc{a b:U}(h:Ag S a b):dk.Ag S a b:=⟨h.os,h.tape,h.output,h.size,h.block⟩
def QS(w w':U)(b:N)(v:M)(D:dk.AX)(S R:N->Prop):Prop:=
 ∃v',dk.Ao w' b v' D/\Ag (λk=>(k=b\/v.ownBlock=J k)\/S k) w w'/\(v'.ownBlock=v.ownBlock\/ ∀k,v'.ownBlock=J k->w.heap.size<=k)/\∀k,R k->v'.ownBlock≠J k/\k≠b
def QS.turn{D2:dk.AX}(h2:Ag (λk=>(k=b\/v.ownBlock=J k)\/S k) w w1)(h3:d.ownBlock=v.ownBlock\/ ∀k,d.ownBlock=J k->w.heap.size<=k)(h4:∀k,R k->d.ownBlock≠J k/\k≠b)(q:∀k,R k->k<w1.heap.size)(f:dk.Br w1 w2 b d D2):QS w w2 b v D2 S R/\Ag (λk=>k=b\/d.ownBlock=J k) w1 w2:=by
 obtain⟨d,g,c,a⟩:=f;refine⟨⟨d,g,h2.transNew (kH c) ?_,?_,λk hk=>⟨λe=>?_,(h4 k hk).2⟩⟩,kH c⟩
 .rintro i d (e|e)
  .exact .inl (.inl e)
  exact aja
 .exact afL
 exact agB
def QS.other{D:dk.AX}(h:QS w w1 b v D S R)(c:Ag T w1 w2)(d:∀k,T k->R k)(e:∀k,k<w.heap.size->T k->S k):QS w w2 b v D S R:=by
 obtain⟨f,g,i,j,a⟩:=h;exact⟨f,g.kept (Uc c) (λx=>(a b<|d b x).2 rfl) λk f x=>(a k<|d k x).1 f,i.transNew c λi c x=> .inr<|e i c x,j,a⟩
def QS.old{D:dk.AX}(h:QS w w1 b v D S R)(a:Am w1 w2):QS w w2 b v D S R:=by
 obtain⟨c,d,e,f,g⟩:=h;exact⟨c,d.kept (Uc a) (λx=>x) λ_ _ x=>x,e.transNew a λ_ _ x=>x.elim,f,g⟩
abbrev Wa:ν:=301
def Ee.lookP(h:Ee w gm n L)(r:Y)(b:r.size<=maxLen):(Instr.lookup Wa (.map<|J gm) (G r) θ).run F w=.ok (η #[.agg #[],ζ<|Ki L r]) w:=by
 obtain⟨h0,_,c,d⟩:=h;obtain⟨_,_,a,e⟩:=c.look_ok Dl underlying301 (z:=.agg #[]) B unitElem_mk<|QF r b;rw[a,d r,(unitElem_inv e).1]
def Ee.putP(h:Ee w gm n L)(r:Y)(y:r.size<=maxLen)(d:n<maxLen):∃w',(Instr.mapUpdate Wa (.map<|J gm) (G r) (.agg #[])).run F w=.ok () w'/\Ee w' gm (n+1) (L++[r])/\Ag (λk=>k=gm) w w':=by
 obtain⟨h0,_,h1,h2⟩:=h;obtain⟨w2,b,c,a⟩:=h1.update Dl underlying301 d (QF r y) unitElem_mk;exact afv
def eO(s:Y):(Bf s s.size).Pairwise (λa b=>a.size<b.size):=by
 unfold Bf;refine abr.2 ?_;have h:((List.range s.size).filter λi=>As s i==47).Pairwise (λa b=>a<b/\b<s.size):=by
  have c:(List.range s.size).Pairwise (λa b=>a<b):=List.pairwise_lt_range;have d:(List.range s.size).Pairwise (λa b=>a<b/\b<s.size):=c.imp_of_mem λ{a b} _ c h=>⟨h,wh.1 c⟩;exact d.sublist List.filter_sublist
 refine h.imp λ{a b} _=>?_;rw[WM,WM];omega
def eP{g:Y}(a:i<(Bf s s.size).length)(h:dk.bl (dk.Cb (Bf s s.size) i)=dk.bl g++47::r):g∈(Bf s s.size).take i:=by
 have d:=dk.KG a;obtain⟨f,b⟩:=dk.FF.1 d;have d:g∈Bf s s.size:=dk.FF.2 ⟨r++47::f,by rw[b,h];simp⟩;obtain⟨j,k,e⟩:=wF d;by_cases c:j<i
 .rw[<-e];exact aat.2 ⟨j,A,rfl⟩
 exfalso;have b:g.size<(dk.Cb (Bf s s.size) i).size:=by
  rw[<-dk.Bi,<-dk.Bi,h,Ws,wu];omega
 have d:dk.Cb (Bf s s.size) i=(Bf s s.size)[i]:=by
  rw[dk.Cb,Wq,Wv a];rfl
 rw[d,<-e] at b;rcases Nat.lt_or_eq_of_le (acN c) with h1|h1
 .have:=aaG.1 (eO s) i j a k h1;omega
 subst h1;omega
def zG(h:i<l.length):l[i]=dk.Cb l i:=by
 rw[dk.Cb,Wq,Wv h];rfl
def pS(D0:dk.AX)(P:Y)(L:E Y)(fs:E Fl)(nm:Y)(w w':U)(b gm:N)(v:M)(e:Ending):Prop:=
 e=ε (ζ θ)/\∃D',QS w w' b v D' (λk=>k=gm) (λk=>k=gm)/\dk.Wr D0 P (dk.CV L<|Bf nm nm.size) fs D'/\Ee w' gm (dk.CV L<|Bf nm nm.size).length (dk.CV L<|Bf nm nm.size)
def pT{c D:dk.AX}{a:E Fl}(hb:dk.QO P c)(a5:dk.Wr c P L a D)(S:L.length+a.length<=10000)(z:c.ts.length<=99999900000)(z:dk.Vp<|dk.bl nm)(d0:nm.size<=80)(a6:∀f∈a,f.1∉Bf nm nm.size)(hd:dk.Ao w b v D)(a7:v.ownBlock≠J gm/\gm≠b)(S:Ee w gm L.length L):
 μ F 296 #[.map<|J gm,V<|J ⟨b,0,O⟩,G P,G nm] w λe w'=>pS c P L a nm w w' b gm v e:=by
 have HF:=H<|ZJ nm A w;have d2:=hb.size;have HB:=H hb;have d1:C (∀x∈Bf nm nm.size,dk.Vp (dk.bl x)/\x.size<=80/\∀f∈a,f.1≠x):=λx d=>by
  obtain⟨d2,hr⟩:=dk.FF.1 d;refine⟨?_,?_,λf h e=>a6 f h (e ▸ d)⟩
  .rw[hr] at z;exact z.left
  have:=hJ List.length hr;rw[Ws,dk.Bi,dk.Bi] at this;omega
 have d3:C (∀i,i<(Bf nm nm.size).length-> ∀(g:Y) (d2:E υ),dk.bl (dk.Cb (Bf nm nm.size) i)=dk.bl g++47::d2->g∈dk.CV L ((Bf nm nm.size).take i)):=λi hi g d2 e=>(dk.Gs _ _ _).2 (.inr<|eP hi e)
 have HG:=H a7;have a8:=H hd;have a9:=H a5;have b0:=H S;have d2:=S.lt;have HVB:=H<|hd.2.1.block_lt;have e8:=hd.lt;have d2:=WI (KL nm) d0;clear hb a5 a6 a7 S hd z;unfold pS;generalize Bf nm nm.size=FL at*;go_in;go_wp2_with fail;refine HF.mono ?_;rintro e w1 ⟨vF,rfl,m,r⟩;have d4:C (∀k,vF.ownBlock=J k->w.heap.size<=k):=by obtain⟨_,_,_,_,y⟩:=m;exact y
 have b1:=H m;have b2:=H (a8.kept (Uc r) (λx=>x) λ_ _ x=>x);have b3:=H r;have b4:=H<|b0.old r;obtain⟨fo,fc,rfl, -, -⟩:=m;obtain⟨R,hR⟩:∃R:N->Prop,R=λk=>k=gm\/(Value.slice fo FL.length fc).ownBlock=J k:=⟨_,rfl⟩
 have b5:C (QS w w1 b v D (λk=>k=gm) R):=by
  refine⟨v,b2,b3.mono λ_ _ x=>x.elim,.inl rfl,λk hk=>?_⟩;rw[hR] at hk;rcases hk with hk|hk
  .subst hk;exact HG
  have h1:=d4 k hk;exact aiv
 have d5:C (∀z k,gm<z.heap.size->Fx w z (K fo FL.length fc) FL->R k->k<z.heap.size):=by
  intro z k hg m hk;rw[hR] at hk;rcases hk with hk|hk
  .subst hk;exact hg
  obtain⟨_,_,_,h2,_⟩:=m;exact(dk.Jw h2 k hk).2
 have T:C<|R gm:=by unfold C;rw[hR];exact .inl rfl
 have d6:C (∀k,(Value.slice fo FL.length fc).ownBlock=J k->R k):=by intro k hk;rw[hR];exact .inr hk
 clear r HF b0 a8 b2 b3 hR;go_wp2;go_loopw [10,11,12,16] (λ_ _ _ x wr=>∃(i:N) (h:E Y) (Di:dk.AX),i<=FL.length/\x=I Q i/\C (h=dk.CV L (FL.take i))/\C (dk.Wr c P h a Di)/\C (Ee wr gm h.length h)/\C (QS w wr b v Di (λk=>k=gm) R)/\C (Fx w wr (K fo FL.length fc) FL)) λ_ _ _ x _=>FL.length-(intOf x).toNat
 .exact ⟨0,L,D,A,rfl,rfl,a9,b4,b5,b1⟩
 obtain⟨i,h,Di,hi,rfl,l,HW,HM,HC,HT⟩:=hrel;clear a9 b4 b5 b1;by_cases n:i<FL.length
 .have b6:(i:Z)<FL.length:=A;obtain⟨g,b7,d7,j, -, -⟩:=HT.cell i n;injection d7 with d8 d9 e0;subst d8 e0;rw[zG n] at j;obtain⟨a0,e1,a1⟩:=d1 _<|dk.KG n;have s:=d3 i n;have a:=dk.PL n;have t:=HM.lookP (dk.Cb FL i) (by unfold maxLen;omega);have c:h.length<=9000+1100:=by
   rw[X l];have:=dk.EW (FL.take i) L;rw[hY] at this;omega
  have u:C (dk.CV L (FL.take<|i+1)=if Ki h (dk.Cb FL i)=θ then h else h++[dk.Cb FL i]):=by
   have y:=X l;unfold C;rw[a,dk.PM,<-y]
  rw[<-X l] at s;clear d9 a;cases d:Ki h (dk.Cb FL i) with
  |true=>
   rw[d] at t;have a2:=H ((u.trans<|Wz d).symm);clear d s a1 a0 u l;have x:Am wr<|wr.alloc (W #[] 242):=(Ag.refl _ wr).alloc _;have o:=H<|HM.old x;have a:=H<|HC.old x;have p:=H<|HT.old x;clear x;go_wp2_with fail;clear t j;go_roundw
   .exact ⟨i+1,h,Di,A,by go_num,a2,HW,o,a,p⟩
   exact Ae
  |false=>
   rw[d] at t;have b9:dk.Cb FL i∉h:=λy=>by rw[dk.Gm.2 y] at d;cases d
   have a2:=H ((u.trans (Wx<|by rw[d];simp)).symm);have c0:=HW.len;obtain⟨c1,c2⟩:=HW.folder HB A a0 e1 b9 a1 s;have e2:=H c2;have x:Am wr<|wr.alloc (W #[] 242):=(Ag.refl _ wr).alloc _;have o:=H<|HM.old x;have p:=H<|HT.old x;obtain⟨c,k1,k2,k3,k4⟩:=HC.old x;have e3:=dk.Et P<|dk.Cb FL i;have a3:=H<|dk.EN k1 (dk.Dn P<|dk.Cb FL i) A A;rw[c1] at a3;have c3:C (∀a D2,dk.Br (wr.alloc<|W #[] 242) a b c D2->QS w a b v D2 (λk=>k=gm) R/\Ag (λk=>k=b\/c.ownBlock=J k) (wr.alloc<|W #[] 242) a):=λa D2 a=>QS.turn k2 k3 k4 (λk hk=>d5 _ k o.lt p hk) a
   have c4:C (∀k,R k->¬(k=b\/c.ownBlock=J k)):=λk hk e=>by
    rcases e with e|e
    .exact (k4 k hk).2 e
    exact(k4 k hk).1 e
   have e4:P++⟨#[47]⟩++dk.Cb FL i=dk.Dn P (dk.Cb FL i):=rfl;clear x k1 k2 k3 k4 HM HT HC d e3 c1 c2 b9 s a1 a0 u l HW c0;generalize(dk.Bz Di<|dk.Dn P (dk.Cb FL i)).2=D2 at*;generalize dk.Dn P (dk.Cb FL i)=q at*;generalize dk.Cb FL i=fi at*;go_wp2_with fail;refine a3.mono ?_;rintro e w3 ⟨rfl,c5⟩;obtain⟨c,a⟩:=c3 w3 D2 c5;have c6:=H<|o.kept a (c4 gm T);have c7:C<|Fx w w3 (K (J ⟨g,0,O⟩) FL.length fc) FL:=by
    obtain⟨d,b7,h1,h2,m⟩:=X p;exact⟨d,b7,h1,dk.Gr h2 (Uc a) λk hk=>c4 k<|d6 k hk,m⟩
   have c8:=H c;clear c5 c a a3 c3 o p t j e4;obtain⟨a,e5,c9,a4⟩:=c6.putP fi (by unfold maxLen;omega) (by unfold maxLen;omega);have e6:C<|Ee a gm (h++[fi]).length (h++[fi]):=by rw[Ws];exact c9
   have e7:=H (c8.other a4 (λk hk=>by subst hk;exact T) λk _ hk=>hk);have a:=H (c7.kept a4 λk hk e=>A);clear c9 a4 c6 c7 c8;go_wp2_with fail;clear e5;go_roundw
   .exact ⟨i+1,h++[fi],D2,A,by go_num,a2,e2,e6,e7,a⟩
   exact Ae
 have:¬(i:Z)<FL.length:=A;have a:C<|h=dk.CV L FL:=by
  have y:=X l;rw[wv A] at y;exact y
 go_wp2;go_ret;rw[<-X a];refine⟨rfl,Di,?_,HW,HM⟩;obtain⟨a,c,d,h,i⟩:=X HC;exact⟨a,c,d,h,λk hk=>i k<|by subst hk;exact T⟩
def QS.go{D2:dk.AX}{Q:N->Prop}(h2:Ag (λk=>(k=b\/v.ownBlock=J k)\/S k) w w1)(h3:d.ownBlock=v.ownBlock\/ ∀k,d.ownBlock=J k->w.heap.size<=k)(h4:∀k,R k->d.ownBlock≠J k/\k≠b)(q:∀k,R k->k<w1.heap.size)(f:∀k,k<w.heap.size->T k->S k)(g:QS w1 w2 b d D2 T Q):QS w w2 b v D2 S R/\Ag (λk=>(k=b\/d.ownBlock=J k)\/T k) w1 w2:=by
 obtain⟨d,h,c,a,_⟩:=g;refine⟨⟨d,h,h2.transNew c ?_,?_,λk hk=>⟨λe=>?_,(h4 k hk).2⟩⟩,c⟩
 .rintro i c ((e|e)|e)
  .exact .inl (.inl e)
  .exact aja
  exact .inr<|f i c e
 .exact afL
 exact agB
def Au.row{fs:E Fl}(h:Au w v fs)(hp:0<w.heap.size):∃ao cap g,v=K ao fs.length cap/\g<w.heap.size/\(0<fs.length->ao=J ⟨g,0,O⟩)/\∀j,j<fs.length->w.cell? ⟨g,j*2,O⟩=J (G (fs.getD j default).1)/\w.cell? ⟨g,j*2+1,O⟩=J (G (fs.getD j default).2):=afQ
def XP(a:E Fl)(i:N)(h:i<a.length):a.take (i+1)=a.take i++[a.getD i default]:=by
 rw[aay,Wv h,Wq,Wv h];rfl
def QS.shut{D:dk.AX}(h:QS w w' b v D (λk=>w.heap.size<=k) R):dk.Br w w' b v D:=by
 obtain⟨a,c,d,e,_⟩:=h;exact⟨a,c,Uc (d.mono λk _ a=>a.elim id λx=>κ x A),e⟩
def NJ.new{a:E Fl}(h:NJ a)(i:N)(b:i<a.length):∀g∈a.take i,g.1≠(a.getD i default).1:=by
 intro g c;obtain⟨j,d,rfl⟩:=wF c;have a:j<i:=by rw[hY] at d;omega
 have c:=aaG.1 h.dif j i A b a;rw[acj,Wq,Wv b];exact c
def OK(a:E Fl)(i:N)(h:i<a.length):a.getD i default∈a:=by
 rw[Wq,Wv h];exact WJ h
def NJ.next{fs:E Fl}(h:NJ fs)(i:N)(hi:i<fs.length):(∀f∈fs.take i,f.1∉Bf (fs.getD i default).1 (fs.getD i default).1.size)/\(fs.getD i default).1∉dk.CV (Rs<|fs.take i) (Bf (fs.getD i default).1 (fs.getD i default).1.size):=by
 have a:=OK fs i hi;refine⟨λf b=>h.nofol f (abb b) _ a,λhx=>?_⟩;rcases(dk.Gs _ _ _).1 hx with hx|hx
 .obtain ⟨g,c,b⟩:=(XO _ _).1 hx;exact h.nofol _ a g (abb c) b
 exact h.nofol _ a _ a hx
def kI{c:dk.AX}{a:E Fl}(hb:dk.QO P c)(e3:c.ts.length<=99999900000)(a5:NJ a)(hd:dk.Ao w b v c)(hv:Au w vf a)(a1:∀k,vf.ownBlock=J k->v.ownBlock≠J k/\k≠b):
 μ F 234 #[V<|J ⟨b,0,O⟩,G P,vf] w λe w'=>e=ε (ζ θ)/\∃f,dk.Br w w' b v f /\dk.Wr c P (Rs a) a f :=by
 obtain⟨ao,e4,g,rfl,b5,s,b6⟩:=hv.row<|aaY (wH _) hd.lt;have:=hb.size;have:=a5.len;have HB:=H hb;have m:=H a5;obtain⟨b7,b9⟩:=dk.Wr.start hb A;have a6:=H<|dk.EN hd P A A;rw[b7] at a6;have c0:=H b9;have:=H<|hd.2.1.block_lt;have e5:=H s;have c1:=H b6;have:=hd.lt;obtain⟨R,hR⟩:∃R:N->Prop,R=λk=>(Value.slice ao a.length e4).ownBlock=J k:=⟨_,rfl⟩
 have a7:C (∀k,R k->v.ownBlock≠J k/\k≠b):=by intro k hk;rw[hR] at hk;exact a1 k hk
 have a8:C (∀k,R k->k<w.heap.size):=by intro k hk;rw[hR] at hk;exact(dk.Jw hv k hk).2
 have e6:C<|ao=J ⟨g,0,O⟩->R g:=by intro e;rw[hR,e];rfl
 clear hb a5 s b6 a1 hR hd hv b7 b9;generalize(dk.Bz c P).2=D1 at*;go_in;go_wp2_with fail;refine a6.mono ?_;rintro e t ⟨rfl,n⟩;have c2:=H n;clear n a6;obtain⟨v1,u,k2,k3⟩:=X c2;have a2:=k2.size;have c3:C (QS w (t.alloc (.map #[] 0)) b v D1 (λk=>w.heap.size<=k) λk=>R k\/k=t.heap.size):=by
  have hA:Am t<|t.alloc (.map #[] 0):=(Ag.refl _ t).alloc _;have c4:=u.2.1.block_lt;have:=u.lt;refine⟨v1,u.kept (Uc hA) (λx=>x) λ_ _ x=>x,((kH k2).mono λk _ e=> .inl e).transNew hA λ_ _ x=>x.elim,k3,λk hk=>?_⟩;rcases hk with hk|hk
  .refine ⟨λe=>?_,(a7 k hk).2⟩;rcases k3 with k3|k3
   .exact (a7 k hk).1 (k3 ▸ e)
   have h1:=k3 k e;have h2:=a8 k hk;omega
  subst hk;exact⟨λe=>by have:=c4 _ e;omega,A⟩
 have c5:C<|Ee (t.alloc (.map #[] 0)) t.heap.size ([]:E Y).length []:=Ee.made t;have e7:=H a2;have a1:= @acF F;clear u k2 k3 a2 c2;go_wp2_with fail;clear a1;generalize e8:t.heap.size=gm at*;clear e8;go_loopw [9,17] (λ_ x wr=>∃(i:N) (l:E Y) (Di:dk.AX),i<=a.length/\x=I Q i/\C (l=Rs (a.take i))/\C (dk.Wr c P l (a.take i) Di)/\C (Ee wr gm l.length l)/\C (QS w wr b v Di (λk=>w.heap.size<=k) λk=>R k\/k=gm)) λ_ x _=>a.length-(intOf x).toNat
 .exact ⟨0,[],D1,A,rfl,rfl,c0,c5,c3⟩
 obtain⟨i,l,Di,hi,rfl,j,HW,HM,HC⟩:=hrel;clear c0 c5 c3;by_cases O6:i<a.length
 .have c6:(i:Z)<a.length:=A;have s:=e5 A;subst s;obtain⟨v2,u,k2,k3,k4⟩:=X HC;have s:¬((g=b\/v.ownBlock=J g)\/w.heap.size<=g):=by
   have h1:=a7 g<|e6 rfl;rintro((e|e)|e)
   .exact h1.2 e
   .exact h1.1 e
   omega
  have c7:=(k2.cell (p:=⟨g,i*2,O⟩) b5 s).trans (c1 i O6).1;have c8:=(k2.cell (p:=⟨g,i*2+1,O⟩) b5 s).trans (c1 i O6).2;have s:=OK a i O6;obtain⟨x,y⟩:=JT<|m.file _ s;have e9:=m.data _ s;have a3:=H<|m.new i O6;obtain⟨o,z⟩:=m.next i O6;have c9:=H<|XP a i O6;have:(a.take i).length=i:=akY
  have:l.length<=4800:=by
   have a9:=Rt (a.take i) λf h=>(JT<|m.file f (abb h)).2;rw[X j];omega
  rw[<-X j] at z;have d0:C<|Rs (a.take<|i+1)=dk.CV l (Bf (a.getD i default).1 (a.getD i default).1.size):=by
   have a9:=X j;unfold C;rw[X c9,Tq,<-a9]
  clear s j;generalize a.take i=ft at*;generalize a.getD i default=ff at*;obtain⟨f,d⟩:=ff;simp only at y x e9 c7 c8 a3 o z d0;obtain⟨w3,D⟩:∃w3,w3=wr.alloc (W #[G f,G d] 38):=⟨_,rfl⟩;have hA:Am wr w3:=by rw[D];exact(Ag.refl _ wr).alloc _
  have L:w3.heap[wr.heap.size]? =J (W #[G f,G d] 38 (0,0)):=by rw[D];exact WD wr _
  have b0:=H L;have f0:w3.cell? ⟨wr.heap.size,0,O⟩=J (G f):=by rw[Wu _ _ 0 _ _ (0,0) L];rfl
  have d1:=H<|HM.old hA;have d2:=HM.lt;have d3 :=u.kept (Uc hA) (λh=>h) λ_ _ h=>h;have b1 :Ag (λk=>(k=b\/v.ownBlock=J k)\/w.heap.size<=k) w w3:=k2.transNew hA λ_ _ h=>h.elim;have b2:=u.2.1.block_lt;have f1:=u.lt;have b3:=H<|pT HB HW A e3 x y o d3 (k4 gm (.inr rfl)) d1;have d4:C (∀S T,QS w3 S b v2 T (λk=>k=gm) (λk=>k=gm)->QS w S b v T (λk=>w.heap.size<=k) (λk=>(R k\/k=gm)\/k=wr.heap.size)/\Ag (λk=>(k=b\/v2.ownBlock=J k)\/k=gm) w3 S):=λS T a9=>by
   refine QS.go b1 k3 (λk hk=>?_) (λk hk=>?_) (λk _ hk=>by rw[hk];exact e7) a9
   .rcases hk with hk|hk
    .exact k4 k hk
    subst hk;exact⟨λe=>by have:=b2 _ e;omega,A⟩
   have:=hA.size;rcases hk with(hk|hk)|hk
   .have h1:=a8 k hk;have h2:=b1.size;omega
   .subst hk;omega
   subst hk;exact(Wt.1 L).1
  have d5:C (¬((wr.heap.size=b\/v2.ownBlock=J wr.heap.size)\/wr.heap.size=gm)):=by
   rintro((e|e)|e)
   .omega
   .have:=b2 _ e;omega
   omega
  have d6:C (∀h,dk.Wr c P (dk.CV l<|Bf f f.size) ft h->(dk.BX h (dk.Dn P f) d).1=0/\dk.Wr c P (dk.CV l<|Bf f f.size) (ft++[(f,d)]) (dk.BX h (dk.Dn P f) d).2):=λh a9=>by
   have:=a9.len;have:=dk.EW (Bf f f.size) l;have:=KL f;exact a9.file HB A (f,d) x y z a3 λg r e=>(dk.Gs _ _ _).2 (.inr<|dk.FF.2 ⟨r,e⟩)
  have:=WI (KL f) y;have:=dk.EW (Bf f f.size) l;clear u k2 k3 k4 d3 b1 hA L HM HC HW d2 b2 f1 x o z;unfold pS at b3;generalize dk.CV l (Bf f f.size)=L2 at*;have f9 :=D.symm;clear D;go_wp2_with fail;refine b3.mono ?_;rintro e S ⟨rfl,T,d7,a0,r⟩;obtain⟨l,d8⟩:=d4 S T d7;have h:=(d8.block wr.heap.size (Wt.1 b0).1 d5).trans b0;have f2:S.cell? ⟨wr.heap.size,0,O⟩=J (G f):=by rw[Wu _ _ 0 _ _ (0,0) h];rfl
  have o:S.cell? ⟨wr.heap.size,1,O⟩=J (G d):=by rw[Wu _ _ 1 _ _ (0,0) h];rfl
  have a4:=(Wt.1 h).1;obtain⟨m,q1,q2,q3,q4⟩:=l;have d9:T.room<=9223372036854775807:=by have:=a0.go.room;omega
  have f3:=dk.Et P f;have f4:=a0.go.ok.len;have b4:=H<|dk.Jj q1 (dk.Dn P f) d A A d9 A;obtain⟨e0,e1⟩:=d6 T a0;rw[e0] at b4;have e2:C (∀w5 D5,dk.Br S w5 b m D5->QS w w5 b v D5 (λk=>w.heap.size<=k) (λk=>R k\/k=gm)/\Ee w5 gm L2.length L2):=λw5 D5 ht=>by
   obtain⟨h1,h2⟩:=QS.turn q2 q3 q4 (λk hk=>by
    rcases hk with(hk|hk)|hk
    .have h1:=a8 k hk;have h2:=q2.size;omega
    .rw[hk];exact r.lt
    rw[hk];exact a4) ht
   refine⟨?_,r.kept h2 λe=>?_⟩
   .obtain ⟨l,m,s,t,u⟩:=h1;exact⟨l,m,s,t,λk hk=>u k (.inl hk)⟩
   rcases e with e|e
   .exact (q4 gm (.inl (.inr rfl))).2 e
   exact(q4 gm (.inl (.inr rfl))).1 e
  have f5:C<|dk.Wr c P L2 (a.take<|i+1) (dk.BX T (dk.Dn P f) d).2:=by unfold C;rw[X c9];exact e1
  have f6:P++⟨#[47]⟩++f=dk.Dn P f:=rfl;clear f3 d7 a0 r q1 q2 q3 q4 d8 h b3 d4 d5 d6 d9 f4 a4 b0 d1 c7 c8 f0 e0 e1;generalize(dk.BX T (dk.Dn P f) d).2=D5 at*;generalize dk.Dn P f=q at*;go_wp2_with fail;refine b4.mono ?_;rintro e w5 ⟨rfl,n⟩;obtain⟨f,h⟩:=e2 w5 D5 n;have l:=H f;have m:=H h;have r:=H ((X d0).symm);clear n f h e2 b4 f2 o f6;go_wp2;go_roundw
  .exact ⟨i+1,L2,D5,A,by go_num,r,f5,m,l⟩
  exact Ae
 have:¬(i:Z)<a.length:=A;have f7:i=a.length:=A;subst f7;rw[wL] at HW j;have f8:C<|dk.Wr c P (Rs a) a Di:=by rw[<-X j];exact HW
 go_wp2;go_ret;exact⟨rfl,Di,HC.shut,f8⟩
end Go.Proofs.YtfpphfkcaplafaaGreatDoor
namespace Go.Proofs.YtfpphfkcaplafaaGreatDoor.dk
open Go.RowKit Go.Maps Go.Proofs.Tryz
def Ll.tt{D a :AX}{r:Bool}(h:Ll 0 D p r a)(c:ep D):r=true:=by
 cases r with
 |true=>rfl
 |false=>
  have b:=(h.nev c).2;rw[h.no rfl] at b;cases b
def kJ{ts:E Th}(h:BW ts p=0):Ji ts p=false:=by
 unfold BW at h;cases a:Ji ts p with
 |false=>rfl
 |true=>
  rw[a,Wz rfl] at h;split at h<;>omega
def Ll.stepped{D:AX}(a:Go D)(b:bl p≠[])(h0:BW D.ts p=0):Ll 0 D p θ<|stepped D:=
 ⟨a.ok.step,List.Sublist.refl _,λx c _=>c,λ_=>a.ok.wf.gone b<|KF a.ok.wf.srt h0,(λe=>by cases e),λ_=>DI a.nev,λx=>x⟩
def pU{D:AX}(a:Go D)(b:bl p≠[])(d:BW D.ts p≠2):Ll 0 D p θ (Bs D p).2:=by
 by_cases h0:BW D.ts p=0
 .have e:(Bs D p).2=dk.stepped D:=by unfold Bs;rw[Wz<|FA a.nev,kJ h0];rfl
  rw[e];exact Ll.stepped a b h0
 obtain⟨t,e,c⟩:=MD h0;have f:BH D.ts p=[]:=by
  unfold BH cE;have g:(p.toList==[])=false:=by rw[ByteArray.toList_eq,WA];exact b
  have h:(BW D.ts p !=2)=true:=by rw[wm];exact d
  rw[g,h];rfl
 have d:=IF.done (D1:=D) b a.ok e c (by rw[f];exact IF.start a.ok p);rw[d.tt a.nev] at d;exact d
def VA{D:AX}(a:Ao w b v D)(c:Go D)(g:bl p≠[])(n:p.size<=100000000000)(d:BW D.ts p≠2):
 μ F 108 #[V<|J ⟨b,0,O⟩,G p] w λe w'=>e=ε (η #[])/\∃f,Ll 0 D p θ f /\Br w w' b v f :=by
 have:=c.ok.len;have f:=H<|Ct a p A;have h:=H λm=>GV (a.drewN m) p A A;have i:=H<|pU c g d;generalize BW D.ts p=io,(Bs D p).1=rc,(Bs D p).2=D2 at*;have:(io==2)=false:=by rw[WA];exact d
 go_in;go_wp2_with fail;apply f.mono;rintro e o ⟨rfl,m,rfl⟩;go_wp2_with fail;apply(h m).mono;rintro e j ⟨rfl,k⟩;have l:C<|Br w j b v D2:=by
  obtain⟨c,d,a,f⟩:=k;exact⟨c,d,⟨a.os,a.tape,a.output,a.size,a.block⟩,f⟩
 go_wp2_with fail;go_end0;exact⟨rfl,D2,i,l⟩
def pV:∀(n:N) (D:AX) (p:Y) (b:N) (v:M) (w:U),Ao w b v D->Go D->bl p≠[]->p.size<=100000000000->LO D.ts p<=n->
 μ F 108 #[V<|J ⟨b,0,O⟩,G p] w λe w'=>e=ε (η #[])/\∃f,Ll 0 D p θ f /\Br w w' b v f :=by
 intro n;induction n with
 |zero=>
  intro D p b v w hd y hp a1 hc;exact VA hd y hp a1<|by rw[Lh<|SX A];decide
 |succ n ih=>
  intro D p b v w hd T hp a1 hc;by_cases h2:BW D.ts p=2
  .have y:=T.ok;have o:=y.len;have H1:=H<|Ct hd p A;have HD:=H hd;have z:=H y;have a6:=H T.nev;have a7:=H T.room;obtain⟨t,ht,y⟩:=MD (ts:=D.ts) (q:=p) (by rw[h2];decide);have HT:C<|t∈D.ts/\t.p=p:=⟨ht,y⟩;have b1:=H ih;have HC:=H hc;rw[h2] at H1;go_in;go_wp2_with fail;apply H1.mono;rintro e w1 ⟨rfl,m,rfl⟩;have y:=H<|GE (HD.drewN m) p A A (Lm z);go_wp2_with fail;apply y.mono;rintro e w2 ⟨c2,rfl,d,P⟩;obtain⟨ao,a2,rfl,b2⟩:=FU d;have:=H<|Jw d;have f:=H d;have b3:C (∀nm∈BH D.ts p,∃c∈D.ts,c.p=Dn p nm):=λnm hm=>ajt
   have a0:C<|Lw w w2 b v D (K ao (BH D.ts p).length a2):=afJ;have:(BH D.ts p).length<=100000000000:=ajO;have a:=H<|IF.start z p;have b4:=H λr y=>IF.done (D1:=r) hp z HT.1 HT.2 y;have R:=H λnm=>SW (nm:=nm) HT.1 HT.2;generalize BH D.ts p=L,cE D.ts p=okb at*;go_wp2;go_loopw [6] (λx wr=>∃(i:N) (r:AX),i<=L.length/\x=I Q i/\C (Lw w wr b v r<|K ao L.length a2)/\C (IF 0 D p (L.take i) r)/\C (wr.ownsRow w.heap.size 9 1 (K ao L.length a2) L.length<|L.map Value.string)) λx _=>L.length-(intOf x).toNat
   .exact ⟨0,D,A,rfl,a0,a,f⟩
   obtain⟨i,r,hi,rfl,a0,a,f⟩:=hrel;by_cases a3:i<L.length
   .have a8:(i:Z)<L.length:=A;obtain⟨g,hg⟩:=b2 A;subst hg;have:=GK f i a3;obtain⟨c,y,a2⟩:=b3 (Cb L i)<|KG a3;have b2:(Dn p<|Cb L i).size<=100000000000:=(by rw[<-a2];exact z.sz c y);have:=Et p<|Cb L i;obtain⟨v1,a4,Z9,Y8,Q9⟩:=X a0;have y:LO r.ts (Dn p<|Cb L i)<=n:=aiL;have a9:=H (b1 r (Dn p<|Cb L i) b v1 wr a4 ⟨a.ok,a.nev a6,a.room a7⟩ (by rw[DA];simp) b2 y);have y:=H<|PL a3;have b5:=H λw2 D2 ht=>Lw.next (w2:=w2) (D2:=D2) Z9 Y8 Q9 (λk hk=>(Jw f k hk).2) ht;have b0:=H Q9;have s:C (∀D2,Ll 0 r (Dn p<|Cb L i) θ D2->IF 0 D p (L.take<|i+1) D2):=λD2 h=>by rw[X y];exact a.next h
    have:p++⟨#[47]⟩++Cb L i=Dn p (Cb L i):=rfl;generalize Dn p (Cb L i)=q,Cb L i=nm at*;go_wp2_with fail;apply a9.mono;rintro e w3 ⟨rfl,l,I1,a5⟩;obtain⟨b6,y⟩:=b5 w3 l a5;have u:=H (Gr f y (λk hk e=>by
     rcases e with e|e
     .exact (b0 k hk).2 e
     exact(b0 k hk).1 e))
    have j:=H b6;exact ahN
   have:¬(i:Z)<L.length:=A;have b7:i=L.length:=A;subst b7;rw[wL] at a;obtain⟨v1,a4,Z9,Y8,Q9⟩:=X a0;have b9:=H (GV a4 p A<|by have:=a.ok.len;omega);have c0:C<|Ll 0 D p θ (Bs r p).2:=by
    have y:=b4 r a;rw[y.tt a6] at y;exact y
   have c1:C (∀w2 D2,Br wr w2 b v1 D2->Br w w2 b v D2):=λw2 D2 ht=>(Lw.next Z9 Y8 Q9 (λk hk=>(Jw f k hk).2) ht).1.turn
   generalize(Bs r p).1=rc,(Bs r p).2=l at*;go_wp2_with fail;apply b9.mono;rintro e w3 ⟨rfl,a5⟩;have j:=H<|c1 w3 l a5;go_wp2_with fail;go_end0;exact⟨rfl,l,c0,j⟩
  exact VA hd T hp a1 h2
end Go.Proofs.YtfpphfkcaplafaaGreatDoor.dk
namespace Go.Proofs.YtfpphfkcaplafaaGreatDoor
open Go.RowKit Go.Maps Go.Proofs.Tryz
def Ej(ts:E dk.Th)(P:Y):Bool:=match dk.AE P with
 |none=>ι
 |some u=>Γ (dk.bl u=[])||decide (dk.BW ts u=2)
def PU{ts:E dk.Th}(b:dk.Qq ts)(h:Ej ts P=θ):∃u,dk.AE P=J u/\(dk.bl u=[]\/ ∃x∈ts,x.p=u/\x.f=θ):=by
 unfold Ej at h;cases a:dk.AE P with
 |none=>rw[a] at h;cases h
 |some u=>
  rw[a] at h;refine⟨u,rfl,?_⟩;simp only[abt,aae] at h;rcases h with h|h
  .exact .inl h
  exact .inr ((dk.Ox b).1 h)
def aR(a:dk.Vp<|dk.bl P)(h:47∉dk.bl P):dk.AE P=J ⟨#[]⟩:=by
 obtain⟨_,b⟩:=dk.SY a;rw[b];congr 1;apply dk.Dx;exact PT (dk.FE b) (.inl ⟨rfl,a.1,h⟩)
def aS(b:dk.Vp<|dk.bl P)(e:dk.bl P=dk.bl u++47::r)(h:47∉r):dk.AE P=J u/\dk.bl u≠[]:=by
 have a:=b;rw[e] at a;have c:=a.left.1;have d:=a.right.1;obtain⟨_,a⟩:=dk.SY b;refine⟨?_,c⟩;rw[a];congr 1;apply dk.Dx;exact PT (dk.FE a) (.inr ⟨r,e,d,h,c⟩)
def eQ(b:j<s.size):((s.data[j]!).toNat:Z)=47↔(dk.bl s)[j]? =J 47:=by
 have c:=dk.Sd s j b;have d:s.data[j]! =s[j]:=by
  have a:j<s.data.size:=b;rw[acK s.data j a];rfl
 rw[c,d,abT,<-dk.Mw];omega
def aT(P:Y):(Lib.lastIndexByte P 47= -1/\47∉dk.bl P)\/ ∃(i:N) (u:Y) (r:E υ),Lib.lastIndexByte P 47=i/\i<P.size/\P.extract 0 i=u/\dk.bl P=dk.bl u++47::r/\47∉r:=by
 rcases Lib.lastIndexByte_spec P 47 with⟨c,d⟩|⟨i,f,c,d,k⟩
 .refine .inl ⟨c,λg=>?_⟩;obtain⟨j,a,e⟩:=wF g;rw[dk.Bi] at a;exact d j a ((eQ a).2<|by rw[Wv (by rw[dk.Bi];exact a),e])
 have b:=(eQ f).1 d;have h:i<(dk.bl P).length:=by rw[dk.Bi];exact f
 refine .inr ⟨i,P.extract 0 i,(dk.bl P).drop<|i+1,c,f,rfl,?_,λg=>?_⟩
 .rw[dk.FD];have:(dk.bl P)[i]=47:=by rw[Wv h] at b;exact WX b
  rw[<-this,<-wN h,aau]
 obtain⟨j,a,e⟩:=wF g;rw[aad] at a;rw[List.getElem_drop] at e;have a:i+1+j<P.size:=by rw[<-dk.Bi];omega
 exact k (i+1+j) A a ((eQ a).2<|by rw[Wv (by rw[dk.Bi];exact a),e])
def tc{D:dk.AX}(h:dk.Ao w b v D)(l:D.ts.length<=100000000000)(f:dk.Vp<|dk.bl P)(o:P.size<=80):μ F 172 #[V<|J ⟨b,0,O⟩,G P] w λe w'=>e=ε (ζ<|Ej D.ts P)/\∃n,w'=w.drewN n:=by
 have a:=strings_LastIndexByte P 47 A w;rcases aT P with⟨c,d⟩|⟨i,u,_,c,_,j,d,k⟩
 .rw[c] at a;have l:Ej D.ts P=true:=by unfold Ej;rw[aR f d];rfl
  rw[l];go_in;go_wp2_with fail;apply a.mono;rintro e g ⟨rfl,rfl⟩;go_wp2;go_ret;exact⟨rfl,0,rfl⟩
 rw[c] at a;obtain⟨l,c⟩:=aS f d k;have m:=dk.Ct h u A;have d:Ej D.ts P=Γ (dk.BW D.ts u=2):=by
  unfold Ej;rw[l];simp only;rw[Ww c,acU]
 have c:(Γ (dk.BW D.ts u=2)=(dk.BW D.ts u==2)):=by
  by_cases e:dk.BW D.ts u=2
  .rw[Wy e,e];rfl
  rw[Ww e];exact(WA.2 e).symm
 rw[d,c];have:∀c,(Instr.slice 9 (G P) O (J<|I Q (i:Z)) O).run F c=.ok (G u) c:=λc=>by
  have h:=aaN (P:=F) c 9 P underlying9 .i64 (i:Z) A A;rw[show(i:Z).toNat=i by omega,j] at h;exact h
 have:¬(i:Z)<0:=A;generalize dk.BW D.ts u=io at*;go_in;go_wp2_with fail;apply a.mono;rintro e g ⟨rfl,rfl⟩;go_wp2_with fail;apply m.mono;rintro e g ⟨rfl,n,rfl⟩;go_wp2;go_ret;exact⟨rfl,n,rfl⟩
def NK{D1:dk.AX}{a:E Fl}(i:dk.Br w w1 b v D1)(h:Au w vf a)(c:∀k,vf.ownBlock=J k->v.ownBlock≠J k/\k≠b):
 ∃f,dk.Ao w1 b f D1/\Au w1 vf a/\(∀k,vf.ownBlock=J k->f.ownBlock≠J k/\k≠b)/\∀w2 D2,dk.Br w1 w2 b f D2->dk.Br w w2 b v D2:=by
 have j:=dk.Jw h;obtain⟨f,a,g,k3⟩:=i;refine⟨f,a,h.kept (kH g) λk d e=>?_,λk d=>⟨λe=>?_,(c k d).2⟩,λw2 D2 l=>?_⟩
 .rcases e with e|e
  .exact (c k d).2 e
  exact(c k d).1 e
 .rcases k3 with k3|k3
  .exact (c k d).1 (k3 ▸ e)
  have:=k3 k e;have:=(j k d).2;omega
 obtain⟨a,c,f,q3⟩:=l;refine⟨a,c,g.transNew f ?_,?_⟩
 .rintro l _ (e|e)
  .exact .inl e
  rcases k3 with k3|k3
  .exact .inr (k3 ▸ e)
  have:=k3 l e;omega
 rcases q3 with q3|q3
 .rcases k3 with k3|k3
  .exact .inl<|q3.trans k3
  exact .inr (q3 ▸ k3)
 exact .inr λk d=>WI g.size<|q3 k d
structure Ud (D:dk.AX) (P:Y):Prop where
 go:dk.Go D
 len:D.ts.length<=99999800000
 vp:dk.Vp<|dk.bl P
 size:P.size<=80
 zero:dk.BW D.ts P=0
 up:∃u,dk.AE P=J u/\(dk.bl u=[]\/ ∃x∈D.ts,x.p=u/\x.f=θ)
def aU(h:dk.AE P=J u):¬dk.Wi (dk.bl u) (dk.bl<|BO P):=by
 intro a;have b:=a.len;have:=dk.Sf<|dk.FE h;rw[MK,Ws] at b;omega
def Ud.up1{D D1:dk.AX}(h:Ud D P)(d:dk.Ll 0 D (BO P) θ D1):∃u,dk.AE P=J u/\(dk.bl u=[]\/ ∃x∈D1.ts,x.p=u/\x.f=θ):=by
 obtain⟨u,b,a⟩:=h.up;refine⟨u,b,?_⟩;rcases a with a|⟨x,e,c,g⟩
 .exact .inl a
 exact .inr ⟨x,d.keep x e (by rw[c];exact aU b),c,g⟩
def Ud.bare{D D1:dk.AX}(h:Ud D P)(a:dk.Ll 0 D (BO P) θ D1):dk.QO P D1/\dk.QO (BO P) D1:=by
 have:=h.size;obtain⟨u,b,c⟩:=h.up1 a;refine⟨⟨a.go h.go,h.vp,A,⟨u,b,c⟩,λx d=>h.go.ok.wf.gone h.vp.1 (dk.KF h.go.ok.wf.srt h.zero) x<|a.sub.subset d⟩,⟨a.go h.go,ic h.vp,by rw[Ja];omega,⟨u,pP h.vp b,c⟩,a.yes rfl⟩⟩
def Ud.len1{D D1:dk.AX}(h:Ud D P)(a:dk.Ll 0 D (BO P) θ D1):D1.ts.length<=99999800000:=WI a.sub.length_le h.len
def OL:dk.bl (BO P)≠[]:=by rw[MK];simp
def Hn{D:dk.AX}{a:E Fl}(d:Ud D P)(u:NJ a)(hd:dk.Ao w b v D)(t:Au w vf a)(p:∀k,vf.ownBlock=J k->v.ownBlock≠J k/\k≠b):
 μ F 173 #[V<|J ⟨b,0,O⟩,G P,vf] w λe w'=>e=ε (ζ θ)/\∃D1 c,dk.Ll 0 D (BO P) θ D1/\dk.Br w w' b v c /\dk.Wr D1 P (Rs a) a c :=by
 have hz:=d.size;have:=Ja P;have HR:=dk.gV 0 _ D (BO P) b v w hd d.go.ok OL A<|WF _;have f:=d;have q:=u;have HV:=t;have x:=p;obtain⟨d,cap,y⟩:∃d cap,vf=K d a.length cap:=akG;subst y;have:P++⟨#[46,116,109,112]⟩=BO P:=rfl;go_in;go_wp2_with fail;apply HR.mono;rintro e w1 ⟨_,D1,rfl,c,h⟩;have z:=c.tt f.go.nev;subst z;obtain⟨_,L,d,p,R⟩:=NK h HV x;have S:=c;have i:=f.bare c;have:=f.len1 c;have a:=kI i.2 A q L d p;have T:=d;have a0:=p;have a1:=R;go_wp2_with fail;apply a.mono;rintro e w2 ⟨rfl,D2,h,a⟩;obtain⟨v2,L,_,_,R⟩:=NK h T a0;have j:=a;have c:=NA P A w2;have a2:=L;have a3:(∀l a,dk.Br w2 l b v2 a->dk.Br w l b v a):=λl a r=>a1 l a<|R l a r
 go_wp2_with fail;apply c.mono;rintro e l ⟨rfl,m⟩;have a:=a2.kept (Uc m) (λx=>x) λ_ _ x=>x;have:=j.go.ok.len;have s:=dk.Za a (BO P) P A A A<|dk.Lm j.go.ok;have a4:(∀o n,dk.Br l o b v2 n->dk.Br w o b v n):=λo n r=>by
  refine a3 o n ?_;obtain⟨a,c,d,f⟩:=r;exact⟨a,c,Uc (((m).mono λ_ _ x=>x.elim).trans<|kH d),f.imp id λr k a=>WI m.size<|r k a⟩
 obtain⟨a,c⟩:=dk.km i.2 i.1 (pQ P) (pR P) j q.fsL;rw[a] at s;have r:=c;generalize(dk.En D2 (BO P) P).2=n at*;go_wp2_with fail;apply s.mono;rintro e o ⟨rfl,a5⟩;have a6:=a4 o n a5;go_wp2;go_ret;exact⟨rfl,D1,n,S,a6,r⟩
def ut{D:dk.AX}(h:dk.Ao w b v D):μ F 171 #[V<|J ⟨b,0,O⟩] w λe w'=>e=ε (ζ D.down)/\w'=w:=by
 have y:=dk.jb h;generalize D.down=dn at*;exact akl
def kK{D:dk.AX}(n:N)(h:dk.Br (w.drewN n) w' b v D):dk.Br w w' b v D:=by
 obtain⟨c,d,a,e⟩:=h;exact⟨c,d,⟨a.os,a.tape,a.output,a.size,a.block⟩,e⟩
def Ml(D:dk.AX)(P:Y)(fs:E Fl)(k:N)(D':dk.AX):Prop:=
 if dk.BW D.ts P≠0 then k=11/\D'=D else if Ej D.ts P=ι then k=12/\D'=D else k=0/\∃D1,dk.Ll 0 D (BO P) θ D1/\dk.Wr D1 P (Rs fs) fs D'
def xO{D:dk.AX}{c:E Fl}(y:dk.Go D)(hl:D.ts.length<=99999800000)(j:dk.Vp<|dk.bl P)(hz:P.size<=80)(l:NJ c)(o:dk.Ao w b v D)(t:Au w vf c)(f:∀k,vf.ownBlock=J k->v.ownBlock≠J k/\k≠b):
 μ F 105 #[V<|J ⟨b,0,O⟩,G P,vf] w λe w'=>∃(k:N) (h :dk.AX),e=ε (I Q (k:Z))/\Ml D P c k h /\dk.Br w w' b v h :=by
 have r:=H<|ut o;rw[y.nev.2] at r;have s:=H<|dk.Ct o P A;have R:=H o;have:=H t;have:=H f;have:=H l;have u:=H λn=>tc (o.drewN n) A j hz;obtain⟨S,cap,z⟩:∃S cap,vf=K S c.length cap:=akG;subst z;by_cases h0:dk.BW D.ts P=0
 .rw[h0] at s;cases p:Ej D.ts P with
  |false=>
   have q:C<|Ml D P c 12 D:=by unfold C Ml;rw[Wx alo,Wz p];exact⟨rfl,rfl⟩
   rw[p] at u;go_in;go_wp2_with fail;apply r.mono;rintro e x ⟨rfl,rfl⟩;go_wp2_with fail;apply s.mono;rintro e T ⟨rfl,n,rfl⟩;go_wp2_with fail;apply(u n).mono;rintro e w3 ⟨rfl,m,rfl⟩;go_wp2;go_ret;exact⟨12,D,rfl,q,v,R.drewN _,(dk.Ag.refl _ x).drewN _,.inl rfl⟩
  |true=>
   have L:Ud D P:=⟨y,hl,j,hz,h0,PU y.ok.wf.srt p⟩;have q:C (∀i h,dk.Ll 0 D (BO P) θ i->dk.Wr i P (Rs c) c h ->Ml D P c 0 h):=λi h h h2=>by unfold Ml;rw[Wx alo,Wx<|by rw[p];simp];exact⟨rfl,i,h,h2⟩
   have h:=H λn=>Hn L l (o.drewN n) (t.old ((Ag.refl _ w).drewN n)) f;rw[p] at u;go_in;go_wp2_with fail;apply r.mono;rintro e x ⟨rfl,rfl⟩;go_wp2_with fail;apply s.mono;rintro e T ⟨rfl,n,rfl⟩;go_wp2_with fail;apply(u n).mono;rintro e w3 ⟨rfl,m,rfl⟩;have f:=H<|h (n+m);go_wp2_with fail;apply f.mono;rintro e w4 ⟨rfl,i,d,f,h,j⟩;have a:=H<|kK (n+m) h;have HX:=H<|q i d f j;exact ail
 have q:C<|Ml D P c 11 D:=by unfold C Ml;rw[Wz h0];exact⟨rfl,rfl⟩
 generalize dk.BW D.ts P=io at*;have:(io !=0)=true:=by rw[wm];exact h0
 have:(io==0)=false:=alE
 go_in;go_wp2_with fail;apply r.mono;rintro e x ⟨rfl,rfl⟩;go_wp2_with fail;apply s.mono;rintro e T ⟨rfl,n,rfl⟩;go_wp2;go_ret;exact⟨11,D,rfl,q,v,R.drewN n,(dk.Ag.refl _ x).drewN n,.inl rfl⟩
def xP{D:dk.AX}(c:dk.Go D)(d:P.size<=80)(d:dk.Ao w b v D):μ F 109 #[V<|J ⟨b,0,O⟩,G P] w λe w'=>e=ε (I Q 0)/\∃a,dk.Ll 0 D (BO P) θ a /\dk.Br w w' b v a :=by
 have:=Ja P;have f:=ut d;rw[c.nev.2] at f;have g:=dk.gV 0 _ D (BO P) b v w d c.ok OL A<|WF _;have h:=c.nev;have:P++⟨#[46,116,109,112]⟩=BO P:=rfl;go_in;go_wp2_with fail;apply f.mono;rintro e n ⟨rfl,rfl⟩;go_wp2_with fail;apply g.mono;rintro e o ⟨_,i,rfl,a,j⟩;have k:=a.tt h;subst k;have l:=a;have m:=j;go_wp2;go_ret;exact⟨rfl,i,l,m⟩
