import Derived.Test.YtndfmgdhiallpaaGreatDoorVbg
set_option linter.all false
set_option maxRecDepth 100000
set_option maxHeartbeats 4000000
open _root_ renaming Option.some->J,Option.none->O,Int->Z,Nat->N,Go.Value.int->I,Go.Value.string->G,Go.IntKind.i64->Q,ByteArray->Y,List->E,Go.World->U,Go.Value.slice->K,Go.Value->β,Go.Obj.cells->γ,Go.Value.pointer->δ,Go.IntKind.u8->τ,UInt8->υ,Go.RowKit.Hid->χ
namespace Go.Proofs.YtndfmgdhiallpaaGreatDoor
open Go.RowKit Go.Maps Go.Proofs.Tryz
def ia{w0 w w' :U}{v v' :β}(c:Al w0 w)(d: ∀b,v.ownBlock=J b->w0.heap.size<=b)(f:w.grownBy w' v.ownBlock)(a:v'.ownBlock=v.ownBlock\/ ∀k,v'.ownBlock=J k->w.heap.size<=k):Al w0 w' /\∀b,v'.ownBlock=J b->w0.heap.size<=b:=by
 refine⟨c.grown f (λk g e=>absurd (d k e) Aa),λb h=> ?_⟩;rcases a with a|a
 .exact d b (by rw[<-a];exact h)
 exact rz c.size (a b h)
def Cb.pos{w:U}(h:Cb w):0<w.heap.size:=by
 obtain⟨m,a⟩:=h;rcases te w.heap.size with h0|h0
 .exfalso;have: ∀p:Addr,w.cell? p=none:=λp=>by simp[World.cell?,se (show w.heap.size<=p.block by omega)]
  simp_all
 exact h0
abbrev Ds:Y:=⟨#[65,66,67,68,69,70,71,72,73,74,75,76,77,78,79,80,81,82,83,84,85,86,87,88,89,90,97,98,99,100,101,102,103,104,105,106,107,108,109,110,111,112,113,114,115,116,117,118,119,120,121,122,48,49,50,51,52,53,54,55,56,57,43,47]⟩
def NE(v p:N):N:=v/2^(18- 6*p)%64
def Jy(v p:N):NE v p<64:=si _ Aa
def IF(v p:N):N:=As Ds (NE v p)
def FB(v c:N):E υ:=(List.range c).map λp=>b8 (IF v p)
def Ia(v c:N):(FB v c).length=c:=by simp[FB]
def EP(v c:N):FB v (c+1)=FB v c++[b8 (IF v c)]:=by simp[FB,tA]
def pR{v a p:N}(d:v<4294967296)(h:a+6*p=18):bits BinOp.and IntKind.u32 ((v:Z)/2^a) 63=(NE v p:Z):=by
 have e:(v:Z)/2^a=((v/2^a:N):Z):=by rw[sR,so];rfl
 have b:v/2^a<4294967296:=tR (uN _ _) d;have:=vx (v/2^a) 63 b Aa;have c:(v/2^a)&&&63=(v/2^a)%64:=vt (v/2^a) 6;rw[c] at this;rw[e];refine this.trans ?_;rw[NE,show 18- 6*p=a by omega]
def Vs(S:N->Prop)(v:β)(l:E υ)(x c:N)(hx:x<4294967296)(hc:c<=4)(hl:l.length<=1000000)(w:U)(hF:Bs S w)(hv:Dh w S v l):
 Calls prog 180 #[v,I .u32 x,I Q c] w λr w' =>Ag S w w' /\∃v',r=.returned v' /\Dh w' S v' (l++FB x c):=by
 obtain⟨i0,F,T,V,W⟩:=rN FU;have X:=Af hv;have HF:=Af hF;clear hv hF;go_in;go_wp2;go_loopw [0,7,9] (λu _ y wr=> ∃j:N,j<=c/\y=I Q j/\χ (Dh wr S u (l++FB x j))/\χ (Ag S w wr)) (λ_ _ y _=>c- (intOf y).toNat)
 .exact ⟨0,Aa,rfl,by rw[show FB x 0=[] from rfl,sI];exact X,Ag.refl _ w⟩
 obtain⟨j,hj,rfl,d,a⟩:=hrel;clear X;by_cases a1:j<c
 .have k:(j:Z)<(c:Z):=Aa;have HNJ:χ (l++FB x (j+1)=l++FB x j++[b8 (IF x j)]):=by unfold χ;rw[EP,rm]
  have a4:(l++FB x j).length<=1000100:=by rw[qU,Ia];omega
  obtain⟨s,hs⟩: ∃s,s=18- 6*j:=⟨_,rfl⟩;have R:s+6*j=18:=Aa;have a7:(18:Z)- 6*(j:Z)=(s:Z):=Aa;have a2:s<=18:=Aa;have a8:=pR hx R;have p:=Jy x j;have P:IF x j<256:=Bf Ds (NE x j);have g:χ (IF x j=As Ds (NE x j)):=rfl;generalize NE x j=m at*;generalize IF x j=q at*;have a6:(m:Z)<64:=Aa;have a5:((⟨#[65,66,67,68,69,70,71,72,73,74,75,76,77,78,79,80,81,82,83,84,85,86,87,88,89,90,97,98,99,100,101,102,103,104,105,106,107,108,109,110,111,112,113,114,115,116,117,118,119,120,121,122,48,49,50,51,52,53,54,55,56,57,43,47]⟩:Y)[m]'(show m<64 from p)).toNat=q:=(AC (s:=Ds) (show m<64 from p)).trans (uh g).symm;obtain⟨ao,cp,rfl,o,f⟩:=uh d;have B:Al wr (wr.alloc (γ #[I τ (q:Z)] 5)):=(Ag.refl _ wr).alloc _;generalize l++FB x j=L at*;have A:=Af (CL o B);have z:=Af (Fm (wr:=wr) (n:=q));have a3:=Af f;have t:=Af (λ(ao2:Option Addr) (cap2:N) (w3:U)=>Dh.more (w:=w) (w1:=wr.alloc (γ #[I τ (q:Z)] 5)) (w2:=w3) (l:=L) (bs:=[b8 q]) (ao:=ao) (ao2:=ao2) (cap:=cp) (cap2:=cap2) (H:=wr.heap.size+1) (HF _ (by have:=a.size;omega)) (a.transNew B (λ_ _ x=>x.elim)) f);have D:Ak [b8 q]=[I τ (q:Z)]:=by rw[Ak,sP,tB,AL P]
  clear o f B d g hs;go_wp2_with (at_builtin;refine wpList_append_lies _ rfl (.tmp 12) (.tmp 20) 62 rfl 0 5 i0 (I τ 0) 1 1 underlying62 F T V W rfl Aa (K ao L.length cp) L.length _ rfl (uh A) ⟨wr.heap.size,0,O⟩ 1 1 [I τ (q:Z)] rfl rfl (uh z) (by intro u hu;simp at hu;subst hu;rfl) Aa (by unfold maxLen;omega) Aa Aa (wr.heap.size+1) Ad ?_;intro g2 cap2 w3 e h i a0;rw[<-D] at e;have HX:=Af (t (J ⟨g2,0,O⟩) cap2 w3 e h (λb C=>by injection C with C;subst C;exact i));clear e h i);exact aav
 have k:¬(j:Z)<(c:Z):=Aa;have M:j=c:=Aa;subst M;go_wp2;go_ret;exact⟨a,_,rfl,d⟩
def Qv(b:N->N)(p:N):N:=(b p*65536|||b (p+1)*256)|||b (p+2)
def FO(b:N->N)(j:N):E υ:=(List.range j).flatMap λi=>FB (Qv b (3*i)) 4
def IY(b:N->N)(j:N):FO b (j+1)=FO b j++FB (Qv b (3*j)) 4:=by simp[FO,tA,uq]
def IZ(b:N->N)(j:N):(FO b j).length=4*j:=by
 induction j with
 |zero=>rfl
 |succ j ih=>rw[IY,qU,ih,Ia];omega
def Yy{w:U}{S:N->Prop}{ao:Option Addr}{n a:N}{l:E υ}(h:Dh w S (K ao n a) l):(convert 62 9 (K ao n a)).run prog w=.ok (G ⟨l.toArray⟩) w:=by
 obtain⟨ao2,b,d,c,_⟩:=h;rw[d];exact Fp c
abbrev Vt(b:N->N):Array β:=CE 32 λi=> I τ (b i:Z)
def Yz(b:N->N)(hb: ∀i,b i<256)(w:U):
 Calls prog 97 #[.agg (Vt b)] w λr w' =>r=.returned (G (An (FO b 10++FB (b 30*65536|||b 31*256) 3++[61])))/\Al w w' :=by
 have s:χ (∀j,j<32->(w.alloc (γ (Vt b) 152)).cell? ⟨w.heap.size,j,O⟩=J (I τ (b j:Z))):=λj hj=>by
  rw[qV _ _ j _ _ (0,0) (rh w _)];exact IJ 32 _ j hj
 generalize D:An (FO b 10++FB (b 30*65536|||b 31*256) 3++[61])=res;have B:=Af D;clear D;have HB:=Af hb;have a1:χ (Al w (w.alloc (γ (Vt b) 152))):=(Ag.refl _ w).alloc _;clear hb;go_in;go_wp2_with fail;obtain⟨w1,V⟩: ∃w1,w.alloc (γ (Vt b) 152)=w1:=⟨_,rfl⟩;rw[V] at s a1 ⊢;have b9:w1.heap.size=w.heap.size+1:=by rw[<-V,rr]
 clear V;obtain⟨S,hS⟩: ∃S:N->Prop,S=λk=>w1.heap.size<=k:=⟨_,rfl⟩
 have HF:χ (Bs S w1):=by rw[hS];exact λk hk=>hk
 have A:χ (¬S w.heap.size):=by rw[hS];unfold χ;omega
 have a0:χ (Dh w1 S (K O 0 0) (FO b 0)):=Dh.nil _ _;have d5:χ (∀W,Ag S w1 W->Al w W):=λW ho=>a1.transNew ho (λi hi h=>by rw[hS] at h;omega)
 have v:=Af b9;clear hS b9;go_loopw [3,4] (λu x wr=> ∃j:N,j<=10/\x=I Q ((3*j:N):Z)/\χ (Dh wr S u (FO b j))/\χ (Ag S w1 wr)) (λ_ x _=>30- (intOf x).toNat)
 .exact ⟨0,Aa,rfl,a0,Ag.refl _ _⟩
 obtain⟨j,hj,rfl,X,t⟩:=hrel;clear a0;by_cases f0:j<10
 .obtain ⟨p,hp⟩: ∃p,p=3*j:=⟨_,rfl⟩;rw[<-hp];have f9:(p:Z)<30:=Aa;obtain⟨m,b5⟩: ∃m,m=p+1:=⟨_,rfl⟩;obtain⟨o,b6⟩: ∃o,o=p+2:=⟨_,rfl⟩;have f4:(p:Z)+1=(m:Z):=Aa;have f7:(p:Z)+2=(o:Z):=Aa;have g8:(p:Z)<32:=Aa;have f5:(m:Z)<32:=Aa;have f8:(o:Z)<32:=Aa;have c0:=(t.cell (p:=⟨w.heap.size,p,O⟩) (by have:=uh v;show w.heap.size<_;omega) (uh A)).trans (s p Aa);have c1:=(t.cell (p:=⟨w.heap.size,m,O⟩) (by have:=uh v;show w.heap.size<_;omega) (uh A)).trans (s m Aa);have c2:=(t.cell (p:=⟨w.heap.size,o,O⟩) (by have:=uh v;show w.heap.size<_;omega) (uh A)).trans (s o Aa);have l0:=HB p;have l1:=HB m;have l2:=HB o;have d6:χ (Qv b (3*j)=(b p*65536|||b m*256)|||b o):=by unfold χ Qv;rw[b5,b6,hp]
  generalize b p=b0 at*;generalize b m=b1 at*;generalize b o=b2 at*;obtain⟨c,y⟩: ∃c,c=b0*65536:=⟨_,rfl⟩;obtain⟨d,z⟩: ∃d,d=b1*256:=⟨_,rfl⟩;have c7:(b0:Z)*65536=(c:Z):=Aa;have c8:(b1:Z)*256=(d:Z):=Aa;have f:c<4294967296:=Aa;have g:d<4294967296:=Aa;have e6:=uH c d f g;have q:=cH f g;have g6:=uH (c|||d) b2 q Aa;have a8:(c|||d)|||b2<4294967296:=cH q Aa
  have d7:χ (FO b (j+1)=FO b j++FB ((c|||d)|||b2) 4):=by unfold χ;rw[IY,uh d6,y,z]
  have e0:(FO b j).length<=1000:=by rw[IZ];omega
  generalize(c|||d)|||b2=o2 at*
  generalize c|||d=o1 at*
  generalize FO b j=L at*;obtain⟨ao,cp,T,_,_⟩:=uh X;subst T;have M:χ (Bs S wr):=λk hk=>HF k (by have:=t.size;omega)
  have HL:=Af (λW d9 d8 =>Vs S (K ao L.length cp) L o2 4 a8 Aa Aa W d9 d8);have c3:IntKind.u32.wrap (b0:Z)=(b0:Z):=by rw[sG];omega
  have c4:IntKind.u32.wrap (b1:Z)=(b1:Z):=by rw[sG];omega
  have g0:IntKind.u32.wrap (b2:Z)=(b2:Z):=by rw[sG];omega
  have c5:IntKind.u32.wrap (c:Z)=(c:Z):=by rw[sG];omega
  have c6:IntKind.u32.wrap (d:Z)=(d:Z):=by rw[sG];omega
  have g1:IntKind.i64.wrap (m:Z)=(m:Z):=Av _ Aa;have g3:IntKind.i64.wrap (o:Z)=(o:Z):=Av _ Aa;have f2:(0:Z)<=(p:Z):=Aa;have f3:(0:Z)<=(m:Z):=Aa;have f6:(0:Z)<=(o:Z):=Aa;have d4:χ (p+3=3*(j+1)):=by unfold χ;omega
  have g7:p<=30:=Aa;clear y z b5 b6 hp;go_upto_region 5 with fail;have a:wr.drew.cell? ⟨w.heap.size,p,O⟩=J (I τ (b0:Z))/\wr.drew.cell? ⟨w.heap.size,m,O⟩=J (I τ (b1:Z))/\wr.drew.cell? ⟨w.heap.size,o,O⟩=J (I τ (b2:Z)):=⟨c0,c1,c2⟩;refine Ai (S:=λW=>W.cell? ⟨w.heap.size,p,O⟩=J (I τ (b0:Z))/\W.cell? ⟨w.heap.size,m,O⟩=J (I τ (b1:Z))/\W.cell? ⟨w.heap.size,o,O⟩=J (I τ (b2:Z))) (L:=20) Ab ?_;refine tk 0 21 (K ao L.length cp) 9 a ?_;refine tk 1 21 (I Q p) 10 a ?_;refine tk 2 21 (δ (J ⟨w.heap.size,p,O⟩)) 11 a ?_;refine tk 3 21 (I τ b0) 12 a ?_;refine tk 4 21 (I .u32 b0) 13 a ?_;refine tk 5 21 (I .u32 c) 14 a ?_;refine tk 6 21 (I Q p) 15 a ?_;refine tk 7 21 (I Q m) 16 a ?_;refine tk 8 21 (δ (J ⟨w.heap.size,m,O⟩)) 17 a ?_;refine tk 9 21 (I τ b1) 18 a ?_;refine tk 10 21 (I .u32 b1) 19 a ?_;refine tk 11 21 (I .u32 d) 20 a ?_;refine tk 12 21 (I .u32 o1) 21 a ?_;refine tk 13 21 (I Q p) 22 a ?_;refine tk 14 21 (I Q o) 23 a ?_;refine tk 15 21 (δ (J ⟨w.heap.size,o,O⟩)) 24 a ?_;refine tk 16 21 (I τ b2) 25 a ?_;refine tk 17 21 (I .u32 b2) 26 a ?_;refine tk 18 21 (I .u32 o2) 27 a ?_;refine Ah (i:=19) Ab ?_;refine ri rfl (λK' hK=> ?_);go_simp;refine(HL wr.drew (uh M) (uh X)).mono ?_;rintro r w4 ⟨a9,v4,rfl,a5⟩;have e :Ag S wr w4:=((Ag.refl _ wr).drew).trans a9;have d2:=Af (t.trans e);have c9:χ (Dh w4 S v4 (FO b (j+1))):=by rw[uh d7];exact a5
  have P:w.heap.size<wr.heap.size:=by have:=uh v;have:=t.size;omega
  refine hK _ _ ⟨λ_=>⟨(e.cell (p:=⟨w.heap.size,p,O⟩) P (uh A)).trans c0,(e.cell (p:=⟨w.heap.size,m,O⟩) P (uh A)).trans c1,(e.cell (p:=⟨w.heap.size,o,O⟩) P (uh A)).trans c2⟩, ?_⟩;clear hK;refine Ah (i:=20) Ab ?_;refine ri rfl (λK' hK=> ?_);go_simp;refine hK _ _ ⟨λh=>absurd rfl h, ?_⟩;clear hK a c0 c1 c2 HL X t a9 e a5;refine Am Ab ?_;go_wp2;go_roundw
  .exact ⟨j+1,Aa,by rw[<-uh d4];go_num,c9,d2⟩
  exact Ae
 have e4:j=10:=Aa;subst e4;have e5:¬((3*10:N):Z)<30:=Aa;have C:w.heap.size<w1.heap.size:=by have:=uh v;omega
 have c0:=(t.cell (p:=⟨w.heap.size,30,O⟩) C (uh A)).trans (s 30 Aa);have c1:=(t.cell (p:=⟨w.heap.size,31,O⟩) C (uh A)).trans (s 31 Aa);have l0:=HB 30;have l1:=HB 31;obtain⟨i0,e3,e7,e8,e9⟩:=rN FU;generalize b 30=b0 at*;generalize b 31=b1 at*;obtain⟨c,y⟩: ∃c,c=b0*65536:=⟨_,rfl⟩;obtain⟨d,z⟩: ∃d,d=b1*256:=⟨_,rfl⟩;rw[<-y,<-z] at B;have c7:(b0:Z)*65536=(c:Z):=Aa;have c8:(b1:Z)*256=(d:Z):=Aa;have f:c<4294967296:=Aa;have g:d<4294967296:=Aa;have e6:=uH c d f g;have q:=cH f g;have e0:(FO b 10).length<=1000:=by rw[IZ];omega
 have c3:IntKind.u32.wrap (b0:Z)=(b0:Z):=by rw[sG];omega
 have c4:IntKind.u32.wrap (b1:Z)=(b1:Z):=by rw[sG];omega
 have c5:IntKind.u32.wrap (c:Z)=(c:Z):=by rw[sG];omega
 have c6:IntKind.u32.wrap (d:Z)=(d:Z):=by rw[sG];omega
 generalize c|||d=o1 at*
 generalize FO b 10=L at*;obtain⟨ao,cp,T,_,_⟩:=uh X;subst T;have M:χ (Bs S wr):=λk hk=>HF k (by have:=t.size;omega)
 have HL:=Af (Vs S (K ao L.length cp) L o1 3 q Aa Aa wr (uh M) (uh X));have g4:(L++FB o1 3).length<=1010:=by rw[qU,Ia];omega
 generalize L++FB o1 3=L2 at*;clear y z;go_wp2_with fail;refine HL.mono ?_;rintro r F ⟨b3,v5,rfl,e1⟩;have a2:=Af (t.trans b3);clear b3 HL t X c0 c1;obtain⟨a3,a4,rfl,b4,b7⟩:=e1;have hA:Al F (F.alloc (γ #[I τ 61] 5)):=(Ag.refl _ F).alloc _;have d3:=Af (CL b4 hA);have d1:=Af (Fm (wr:=F) (n:=61));have d0:=Af (λ(ao2:Option Addr) (cap2:N) (w3:U)=>Dh.more (w:=w1) (w1:=F.alloc (γ #[I τ 61] 5)) (w2:=w3) (l:=L2) (bs:=[61]) (ao:=a3) (ao2:=ao2) (cap:=a4) (cap2:=cap2) (H:=F.heap.size+1) (HF _ (by have:=a2.size;omega)) (a2.transNew hA (λ_ _ x=>x.elim)) b7);have e2:Ak [61]=[I τ 61]:=rfl;clear b4 b7 hA;go_wp2_with (at_builtin;refine wpList_append_lies _ rfl (.tmp 40) (.tmp 41) 62 rfl 0 5 i0 (I τ 0) 1 1 underlying62 e3 e7 e8 e9 rfl Aa (K a3 L2.length a4) L2.length _ rfl (uh d3) ⟨F.heap.size,0,O⟩ 1 1 [I τ 61] rfl rfl (uh d1) (by intro u hu;simp at hu;subst hu;rfl) Aa (by unfold maxLen;omega) Aa Aa (F.heap.size+1) Ad ?_;intro g2 cap2 w3 R a6 a7 f1;rw[<-e2] at R;have HX:=Af (d0 (J ⟨g2,0,O⟩) cap2 w3 R a6 (λb hb=>by injection hb with hb;subst hb;exact a7));clear R a6 a7;have g5:(convert 62 9 (K (J ⟨g2,0,O⟩) (L2.length+1) cap2)).run prog w3=.ok (G ⟨(L2++[61]).toArray⟩) w3:=Yy HX.2);go_ret;exact⟨by rw[<-uh B];rfl,d5 _ HX.1⟩
def Oo(x:E8)(q:N):N:=x.nth (q/4)/2^(24- 8*(q%4))%256
def ib(x:E8)(q:N):Oo x q<256:=si _ Aa
def nZ(x:E8){k j s:N}(a:j<4)(h:s+8*j=24):((x.nth k:N):Z)/2^s%256=((Oo x (4*k+j):N):Z):=by
 rw[Oo,show(4*k+j)/4=k by omega,show(4*k+j)%4=j by omega,show 24- 8*j=s by omega,uY,sR,so];rfl
def Mo(x:E8)(t j:N):β:=if j<t then I τ (Oo x j:Z) else I τ 0
def kN(x:E8)(t j:N):(Mo x t j).oneCell' =true:=by unfold Mo;split<;>rfl
def oa{x:E8}{t j:N}(h:j<t):Mo x t j=I τ (Oo x j:Z):=rd h
def ic(x:E8)(t:N): ∀j,j<32->(if j=t then Value.int τ (Oo x t:Z) else Mo x t j)=Mo x (t+1) j:=by
 intro j _;unfold Mo;exact Hm
def kO:(prog.info? 152).map (·.size)=J 32:=Ab
def CN(s:Y):E8:=BV Ct h0 (s++⟨(Ek (Bm s.size) s.size 8).toArray⟩) ((s.size+9+Bm s.size)/64)
def YA(s:Y):(CN s).ok:=LJ TU _ _
def oe(s:Y)(hl:s.size<=140737488355328)(w:U)(hg:KC w):
 Calls prog 98 #[G s] w λe w' =>e=.returned (.agg (Vt (Oo (CN s))))/\Al w w' :=by
 have g:=Af (λw1 h=>Ra s hl w1 h);have hx:(CN s).ok:=YA s;rw[show BV Ct h0 (s++⟨(Ek (Bm s.size) s.size 8).toArray⟩) ((s.size+9+Bm s.size)/64)=CN s from rfl] at g;generalize CN s=x at*;have HX:=Af hx;have a:Al w ((w.alloc (γ (CE 32 (Mo x 0)) 152)).alloc (γ (CE 32 (Mo x 0)) 152)):=((Ag.refl _ w).alloc _).alloc _;have hz:(CE 32 (Mo x 0))=Array.replicate 32 (I τ 0):=Ab;have f:χ (ES ((w.alloc (γ (CE 32 (Mo x 0)) 152)).alloc (γ (CE 32 (Mo x 0)) 152)) (w.heap.size+1) 152 32 (Mo x 0)):=Af (ES.mk' Ad rfl);have l:χ (ES ((w.alloc (γ (CE 32 (Mo x 0)) 152)).alloc (γ (CE 32 (Mo x 0)) 152)) w.heap.size 152 32 (Mo x 0)):=Af ((ES.mk' rfl rfl).alloc _);rw[hz] at f l a;clear hz;have r:=Af a;have W:=Af (hg.old a);clear hg a hl hx;go_in;go_wp2_with fail;refine(g _ (uh W)).mono ?_;rintro e w1 ⟨rfl,c⟩;have m:=Af (f.old c);have z:=Af (l.old c);have u:=Af (Ag.trans (uh r) c);clear c f l r g W;go_wp2;go_loopw [4,5,6,9] (λ_ _ _ i wr=> ∃k:N,k<=8/\i=I Q k/\χ (ES wr (w.heap.size+1) 152 32 (Mo x (4*k)))/\χ (ES wr w.heap.size 152 32 (Mo x 0))/\χ (Al w wr)) (λ_ _ _ i _=>8- (intOf i).toNat)
 .exact ⟨0,Aa,rfl,m,z,u⟩
 obtain⟨k,hk,rfl,d,y,HO⟩:=hrel;clear m z u;by_cases h8:k<8
 .have B:=TY x k h8;have hn:=E8.nth_lt (uh HX) k;have a4:(k:Z)<8:=Aa;have n:=Af (λj s (C:j<4) (T:s+8*j=24)=>nZ x (k:=k) C T);generalize x.nth k=nn at B hn n;go_wp2_with fail;clear B;go_loopw [6,13] (λ_ i wr=> ∃j:N,j<=4/\i=I Q j/\χ (ES wr (w.heap.size+1) 152 32 (Mo x (4*k+j)))/\χ (ES wr w.heap.size 152 32 (Mo x 0))/\χ (Al w wr)) (λ_ i _=>4- (intOf i).toNat)
  .exact ⟨0,Aa,rfl,d,y,HO⟩
  obtain⟨j,C,rfl,d,y,HO⟩:=hrel;by_cases P:j<4
  .obtain ⟨s,T⟩: ∃s,s=24- 8*j:=⟨_,rfl⟩;obtain⟨q,D⟩: ∃q,q=4*k+j:=⟨_,rfl⟩;have a3:(j:Z)<4:=Aa;have a8:(24:Z)- 8*(j:Z)=(s:Z):=Aa;have a6:(4:Z)*(k:Z)+(j:Z)=(q:Z):=Aa;have a7:(q:Z)<32:=Aa;have a5:(0:Z)<=(q:Z):=Aa;have a0:s<=24:=Aa;have L:=n j s P Aa;have H:=ib x (4*k+j);rw[<-D] at L H;have a2:=d.row.thaw;have a1:=d.row.cell q Aa;have F:χ (∀t:N,t=q->(ES (wr.setCell ⟨w.heap.size+1,q,O⟩ (I τ (Oo x q:Z))) (w.heap.size+1) 152 32 (Mo x (t+1)))):=by
    intro t ht;have h:=d.set q (I τ (Oo x q:Z));rw[<-D] at h;rw[ht];exact h.congr (ic x q)
   generalize Oo x q=b at*;have HQ:=Af D;clear T D;go_wp2;go_roundw
   .refine ⟨j+1,Aa,by go_num, ?_, ?_, ?_⟩
    .rw[show 4*k+(j+1)=(4*k+j)+1 by omega];exact F (4*k+j) (uh HQ).symm
    .exact y.setOther _ _ Aa _
    exact HO.setCell (p:=⟨w.heap.size+1,q,O⟩) (λh=>absurd (show w.heap.size+1<w.heap.size from h) Aa) _
   exact Ae
  have R:j=4:=Aa;subst R;go_wp2;go_roundw
  .exact ⟨k+1,Aa,by go_num,by rw[show 4*(k+1)=4*k+4 by omega];exact d,y,HO⟩
  exact Ae
 have S:k=8:=Aa;subst S;have hW:wr.heap[w.heap.size+1]? =J (γ (CE 32 (Mo x 32)) 152 (0,0)):=uh d;have hZ:wr.heap[w.heap.size]? =J (γ (CE 32 (Mo x 0)) 152 (0,0)):=uh y;have M:(prog.info? 152).map (·.size)=J (CE 32 (Mo x 32)).size:=by rw[Bi];exact kO
 have h1:(CE 32 (Mo x 32)).all (·.oneCell')=true:=Od _ _ (kN x 32);have o:χ (CE 32 (Mo x 32)=Vt (Oo x)):=Je (λj C=>oa C);have V:(CE 32 (Mo x 0)).size=(CE 32 (Mo x 32)).size:=by rw[Bi,Bi]
 generalize X:CE 32 (Mo x 32)=A at*;have HH:=Af X;clear X;go_wp2_with (first
  |(refine uC rfl 152 (.tmp 3) rfl (w.heap.size+1) rfl 152 A (0,0) _ hW underlying152 rfl M ?_)
  |(refine sF rfl 152 (.tmp 2) (.tmp 29) rfl w.heap.size A rfl rfl 152 _ hZ M V h1 ?_))
 refine rU (v:=.agg A) (tO results98 _ _ w.heap.size 152 A (0,0) _ rfl (sw wr w.heap.size _ A _ _ hZ) underlying152 rfl M) rfl ⟨?_, ?_⟩
 .rw[uh o]
 exact aas
