import Derived.Test.YtndfmgdhiallpaaGreatDoorVbq
import Derived.Test.YtndfmgdhiallpaaGreatDoorVbj
set_option linter.all false
set_option maxRecDepth 100000
set_option maxHeartbeats 16000000
open _root_ renaming Option.some->J,Option.none->O,Int->Z,Nat->N,Go.Value.int->I,Go.Value.string->G,Go.IntKind.i64->Q,ByteArray->Y,List->E,Go.World->U,Go.Value.slice->K,Go.Value->β,Go.Obj.cells->γ,Go.Value.pointer->δ,Go.Ending.returned->ε,Go.Value.bool->ζ,Go.Value.tuple->η,Bool.true->θ,absurd->κ,Go.Calls->μ,Go.RowKit.Hid->χ,Go.Proofs.Tryz.prog->ψ
namespace Go.Proofs.YtndfmgdhiallpaaGreatDoor
open Go.RowKit Go.Maps Go.Proofs.Tryz
def iD(W w:U)(b j:N):Prop:= ∃(n:N) (S:WS) (RF RL RT:E (β×Y)),n<=3*j/\S.m.size<=1048576/\S.v.size<=1048576/\S.ar.size<=1000000000+100*j/\CD W w b n S RF RL RT
def pX(W w:U)(b j:N)(Q:β×β×U):Prop:= ∃(n:N) (S:WS) (RF RL RT:E (β×Y)),n<=3*j/\S.m.size<=1048576/\S.v.size<=1048576/\S.ar.size<=1000000000+100*j/\(S.pd,S.pr,S.z)=Q/\CD W w b n S RF RL RT
def YH(w1 w:U)(b c:N)(S:WS):Prop:= ∃(S' :WS) (RF RL RT:E (β×Y)),(∃a:Y,S'.base=({S with ar:=a}:WS).base/\(a=S.ar\/a.size<=40000))/\CD w1 w b c S' RF RL RT
def qd:Prop:= ∀{w1:U} {b n:N} {S:WS} {RF RL RT:E (β×Y)},n<=99999990->S.m.size<=2000000->S.v.size<=2000000-> ∀(a c:Z) (s t:Y) (x y:β) (w:U),CD w1 w b n S RF RL RT->(∀W,Ag (λk=>k=b) w1 W->Ge W)->Va (λW=>Ag (λk=>k=b) w1 W) x->
 μ ψ 38 #[δ (J ⟨b,0,O⟩),.agg (Df 6 a c s t x y)] w λe w' =>e=ε (ζ θ)/\YH w1 w' b (n+1) S
def Qb{S S' :WS}(h:S'.base=S.base):S'.m=S.m:=rI (λx=>x.1) h
def Qc{S S' :WS}(h:S'.base=S.base):S'.v=S.v:=rI (λx=>x.2.1) h
def Td{S S' :WS}(h:S'.base=S.base):S'.ar=S.ar:=rI (λx=>x.2.2.1) h
def YI{S S' :WS}(h:S'.base=S.base):(S'.pd,S'.pr,S'.z)=(S.pd,S.pr,S.z):=rI (λx=>x.2.2.2) h
def iE{S S' :WS}(h:S'.base=S.base)(a:Y):({S' with ar:=a}:WS).base=({S with ar:=a}:WS).base:=by
 have b:=Qb h;have c:=Qc h;have d:=YI h;show(S'.m,S'.v,a,S'.pd,S'.pr,S'.z)=(S.m,S.v,a,S.pd,S.pr,S.z);rw[b,c,d]
def pY(h6:qd){w1:U}{b j:Nat}{Q:β×β×U}(hj:j<=1300000)(k p q:Z)(s t:Y)(x y:β)(w:U)(hk:k<=11)(hb:qb p q s t)(h:pX w1 w b j Q)(g: ∀W,Ag (λk=>k=b) w1 W->Ge W)(hx:Va (λW=>Ag (λk=>k=b) w1 W) x)(hy:Yw (λW=>Ag (λk=>k=b) w1 W) y):
 μ ψ 38 #[δ (J ⟨b,0,O⟩),.agg (Df k p q s t x y)] w λe w' =>e=ε (ζ θ)/\pX w1 w' b (j+1) Q:=by
 obtain⟨n,S,i,l,r,hn,hm,hv,ha,M,a⟩:=h;obtain⟨⟨a2,a3⟩,⟨F,H⟩,hs,ht⟩:=hb;obtain⟨fo,fc,fa,fs,L,B,D,C,A⟩:=hy;have hg:=g w a.only;have same: ∀{w' :U} {c:Nat} {S' :WS} {i l r:E (β×Y)},c<=n+3->S'.base=S.base->CD w1 w' b c S' i l r->pX w1 w' b (j+1) Q:=λhc hbs hw' =>⟨_,_,_,_,_,Aa,by rw[Qb hbs];exact hm,by rw[Qc hbs];exact hv,by rw[Td hbs];omega,(YI hbs).trans M,hw'⟩
 have arc: ∀{w' :U} {N:Nat},N<=1000000000+100*(j+1)->Vz w1 w' b n S i l r N->pX w1 w' b (j+1) Q:=λhN hz=>by
  obtain⟨z,a4,a1⟩:=hz;exact⟨n,{S with ar:=z},i,l,r,Aa,hm,hv,by show z.size<=_;omega,M,a1⟩
 by_cases R:k=11
 .subst R;refine(Tb Aa Aa Aa p q s t x y w a g).mono ?_;exact wj
 by_cases P:k=10
 .subst P;refine(cr Aa Aa Aa p q s t x y w a g fo fc fa fs B D C A L).mono ?_;exact wj
 by_cases e9:k=9
 .subst e9;refine(YG Aa Aa p q s t x y w a F H fo fc fa fs B D C A L).mono ?_;exact abA
 by_cases e8:k=8
 .subst e8;refine(VB Aa p q s t x y w a F H Aa).mono ?_;exact abA
 by_cases e7:k=7
 .subst e7;refine(VA Aa Aa Aa Aa p q s t x y w a g Aa).mono ?_;exact wj
 by_cases e6:k=6
 .subst e6;refine(h6 Aa Aa Aa p q s t x y w a g hx).mono ?_;rintro e w' ⟨rfl,S',RF',o,u,⟨az,hbs,f⟩,hw'⟩;refine⟨rfl,n+1,S',RF',o,u,Aa,by rw[Qb hbs];exact hm,by rw[Qc hbs];exact hv, ?_,(YI hbs).trans M,hw'⟩;have a0:S'.ar=az:=Td hbs;rw[a0];rcases f with f |f
  .rw[f];omega
  omega
 by_cases e5:k=5
 .subst e5;obtain⟨T,hT,V,X⟩:=hx;refine(Yn Aa p q s t x y w a T hT V (λW hW=>(g W hW).2) X).mono ?_;rintro e w' ⟨rfl,S',RF',o,u,hw',hbs⟩;exact⟨rfl,same Aa hbs hw'⟩
 by_cases e1:k=1
 .subst e1;refine(bN p q s t x y w a).mono ?_;rintro e w' ⟨rfl,S',hw',rfl⟩;exact⟨rfl,n,{S with m:=s,v:=t},i,l,r,Aa,by show s.size<=_;omega,by show t.size<=_;omega,by show S.ar.size<=_;omega,M,hw'⟩
 have d: ∀e w',e=Ending.returned (ζ θ)/\Al w w' ->e=ε (ζ θ)/\pX w1 w' b (j+1) Q:=λe w' ⟨he,ho⟩=>⟨he,same Aa rfl (a.old ho)⟩
 by_cases e4:k=4
 .subst e4;exact(Ym p q s t Aa x y b w).mono d
 by_cases e3:k=3
 .subst e3;exact(UZ p q s t Aa x y b w hg.1.2).mono d
 by_cases e2:k=2
 .subst e2;exact(bM p q s t Aa x y b w hg.1.1).mono d
 exact(bL k p q Aa s t x y b w).mono d
def lT(o:qd){w1:U}{b j:N}(v:j<=1300000)(k p q:Z)(s t:Y)(x y:β)(w:U)(A:k<=11)(u:qb p q s t)(h:iD w1 w b j)(r: ∀W,Ag (λk=>k=b) w1 W->Ge W)(B:Va (λW=>Ag (λk=>k=b) w1 W) x)(C:Yw (λW=>Ag (λk=>k=b) w1 W) y):
 μ ψ 38 #[δ (J ⟨b,0,O⟩),.agg (Df k p q s t x y)] w λe w' =>e=ε (ζ θ)/\iD w1 w' b (j+1):=by
 obtain⟨n,S,a,c,d,f,g,i,l,m⟩:=h;refine(pY o v k p q s t x y w A u (Q:=(S.pd,S.pr,S.z)) ⟨n,S,a,c,d,f,g,i,l,rfl,m⟩ r B C).mono ?_;rintro e w' ⟨rfl,n,S,a,c,d,f,g,i,l, -,m⟩;exact⟨rfl,n,S,a,c,d,f,g,i,l,m⟩
def iL(h6:qd)(ao:Option Addr)(n cap:N)(w:U)(hg:Ge w)(ho:n=0\/ ∃a,ao=J a/\ZE (λW=>Al w W) a n)(hn:n<=1100000):
 μ ψ 14 #[K ao n cap,I Q 11] w λe w' =>e=ε (ζ θ)/\Al w w' :=by
 have HG:=Af hg;have b2:=Af ho;clear hg ho;go_in;go_wp2_with (go_at_call 33;refine(jR _).mono ?_;rintro e w' ⟨rfl,rfl⟩);refine eL (R:=λW=>(∃s:WS,CD W W (w.heap.size+2) 0 s [] [] []/\s.m.size=0/\s.v.size=0/\s.ar.size=0)/\(ZE (λV=>Ag (λk=>k=w.heap.size+2) W V) ⟨w.heap.size+5,0,O⟩ 11)/\Al w W) ⟨?_, ?_, ?_⟩ ?_
 .exact ⟨⟨_,_,_,_,_,_,_,_,_,_,_,_⟩,CD.start (Gm (Gm (Gm (Sz Ad)))) rfl rfl rfl rfl rfl rfl rfl,rfl,rfl,rfl⟩
 .refine Yx (e:=79) (x:=K (J ⟨w.heap.size+3,0,O⟩) 3 3) (y:=K (J ⟨w.heap.size+4,0,O⟩) 2 2) ⟨lP,Ad,Ac,λV f=> .inr ⟨⟨w.heap.size+3,0,O⟩,3,rfl,gG ?_⟩⟩ ⟨J ⟨w.heap.size+4,0,O⟩,2,⟨w.heap.size+4,0,O⟩,gZ,rfl,Ad,Ac,λ_=>rfl,λV f=>cf ?_⟩ (λV f=> ?_)
  .refine (f.block (w.heap.size+3) Ad Aa).trans ?_;exact Gm (Gm (Sz Ad))
  .refine (f.block (w.heap.size+4) Ad Aa).trans ?_;exact Gm (Sz Ad)
  refine(f.block (w.heap.size+5) Ad Aa).trans ?_;exact Sz Ad
 .exact ((((((Ag.refl _ w).alloc _).alloc _).alloc _).alloc _).alloc _).alloc _
 rintro W ⟨⟨s0,hw,d1,u,a5⟩,hf,H⟩;have A:χ (iD W W (w.heap.size+2) 0):=⟨0,s0,[],[],[],rj _,Aa,Aa,Aa,hw⟩;have HF:=Af hf;have g:χ (∀V,Ag (λk=>k=w.heap.size+2) W V->Al w V):=λV f=>H.transNew f (λk hk e=>Aa)
 clear hw hf H d1 u a5;go_wp2;go_loopw [9,10] (λok i wr=> ∃j:N,j<=11/\ok=ζ θ/\i=I Q j/\χ (iD W wr (w.heap.size+2) j)) (λ_ i _=>11- (intOf i).toNat)
 .exact ⟨0,Aa,rfl,rfl,A⟩
 clear A;obtain⟨j,hj,rfl,rfl,A⟩:=hrel;obtain⟨nn,S,RF,RL,RT,a9,D,F,c2,z⟩:=uh A;have c:=Af z;clear z;by_cases C:j<11
 .obtain ⟨k,p,q,s,t,x,y,hs,r,o,b⟩:=HF j C;have b:=b wr c.only;have B:wr.cell? ⟨w.heap.size+5,j*7+0,O⟩=(Df k p q s t x y)[0]? :=by have:=b 0 Aa;rw[rH,rx] at this;exact this
  have P:wr.cell? ⟨w.heap.size+5,j*7+1,O⟩=(Df k p q s t x y)[1]? :=by have:=b 1 Aa;rw[rH,rx] at this;exact this
  have X:wr.cell? ⟨w.heap.size+5,j*7+2,O⟩=(Df k p q s t x y)[2]? :=by have:=b 2 Aa;rw[rH,rx] at this;exact this
  have a0:wr.cell? ⟨w.heap.size+5,j*7+3,O⟩=(Df k p q s t x y)[3]? :=by have:=b 3 Aa;rw[rH,rx] at this;exact this
  have a1:wr.cell? ⟨w.heap.size+5,j*7+4,O⟩=(Df k p q s t x y)[4]? :=by have:=b 4 Aa;rw[rH,rx] at this;exact this
  have a2:wr.cell? ⟨w.heap.size+5,j*7+5,O⟩=(Df k p q s t x y)[5]? :=by have:=b 5 Aa;rw[rH,rx] at this;exact this
  have a3:wr.cell? ⟨w.heap.size+5,j*7+6,O⟩=(Df k p q s t x y)[6]? :=by have:=b 6 Aa;rw[rH,rx] at this;exact this
  simp only[sS] at B;have d:=Af (λhk=>lT h6 Aa k p q s t x y wr hk hs (uh A) (λV f=>HG.old (g V f)) r o);clear b hs r o;unfold Df at B P X a0 a1 a2 a3 d;by_cases a4:k<=11
  .have l:=Af (d a4);clear d;go_wp2_with (go_at_call 38;refine l.mono ?_;rintro e w1 ⟨rfl,b1⟩;have M:χ (iD W w1 (w.heap.size+2) (j+1)):=b1;clear b1);go_roundw
   .exact ⟨j+1,Aa,rfl,by go_num,M⟩
   exact Ae
  have HW2:χ (iD W wr (w.heap.size+2) (j+1)):=⟨nn,S,RF,RL,RT,Aa,D,F,Aa,c⟩;go_wp2_with fail;exact wI
 have a8:(j:Z)=11:=Aa;have a7:χ (iD W wr (w.heap.size+2) (11+0)):=⟨nn,S,RF,RL,RT,Aa,D,F,Aa,c⟩;rw[a8];clear HF hj C a8 c A a9;go_wp2;go_loopw [9,11,12,13] (λok i _ _ wr=> ∃j:N,j<=n/\ok=ζ θ/\i=I Q j/\χ (iD W wr (w.heap.size+2) (11+j))) (λ_ i _ _ _=>n- (intOf i).toNat)
 .exact ⟨0,Aa,rfl,rfl,a7⟩
 clear a7;obtain⟨j,hj,rfl,rfl,A⟩:=hrel;obtain⟨nn,S,RF,RL,RT,a9,D,F,c2,z⟩:=uh A;have c:=Af z;clear z;by_cases C:j<n
 .obtain ⟨a,c3,L⟩: ∃a,ao=J a/\ZE (λW=>Al w W) a n:=by
   rcases uh b2 with h|h
   .omega
   exact h
  obtain⟨k,p,q,s,t,x,y,hs,r,o,b⟩:=L j C;have b:=b wr (g wr c.only);have B:wr.cell? (a.add (j*7))=(Df k p q s t x y)[0]? :=b 0 Aa;have P:wr.cell? ⟨(a.add (j*7)).block,(a.add (j*7)).off+1,O⟩=(Df k p q s t x y)[1]? :=by have:=b 1 Aa;rw[<-uf] at this;exact(rI wr.cell? (ua (a.add (j*7)) 0).symm).trans this
  have X:wr.cell? ⟨(a.add (j*7)).block,(a.add (j*7)).off+2,O⟩=(Df k p q s t x y)[2]? :=by have:=b 2 Aa;rw[<-uf] at this;exact(rI wr.cell? (ua (a.add (j*7)) 1).symm).trans this
  have a0:wr.cell? ⟨(a.add (j*7)).block,(a.add (j*7)).off+3,O⟩=(Df k p q s t x y)[3]? :=by have:=b 3 Aa;rw[<-uf] at this;exact(rI wr.cell? (ua (a.add (j*7)) 2).symm).trans this
  have a1:wr.cell? ⟨(a.add (j*7)).block,(a.add (j*7)).off+4,O⟩=(Df k p q s t x y)[4]? :=by have:=b 4 Aa;rw[<-uf] at this;exact(rI wr.cell? (ua (a.add (j*7)) 3).symm).trans this
  have a2:wr.cell? ⟨(a.add (j*7)).block,(a.add (j*7)).off+5,O⟩=(Df k p q s t x y)[5]? :=by have:=b 5 Aa;rw[<-uf] at this;exact(rI wr.cell? (ua (a.add (j*7)) 4).symm).trans this
  have a3:wr.cell? ⟨(a.add (j*7)).block,(a.add (j*7)).off+6,O⟩=(Df k p q s t x y)[6]? :=by have:=b 6 Aa;rw[<-uf] at this;exact(rI wr.cell? (ua (a.add (j*7)) 5).symm).trans this
  have d:=Af (λhk=>lT h6 Aa k p q s t x y wr hk hs (uh A) (λV f=>HG.old (g V f)) (by
   obtain⟨T,h1,h2,h3⟩:=r;exact⟨T,h1,h2,λV f=>h3 V (g V f)⟩) (by
   obtain⟨z1,z2,z3,z4,z5,z6,z7,z8,z9⟩:=o;exact⟨z1,z2,z3,z4,z5,z6,z7,z8,λV f=>z9 V (g V f)⟩))
  subst c3;clear b hs r o L;unfold Df at B P X a0 a1 a2 a3 d;by_cases a4:k<=11
  .have l:=Af (d a4);clear d;go_wp2_with (first
    |(go_at_call 38;refine l.mono ?_;rintro e w1 ⟨rfl,n2,S2,b4,b6,b9,c7,c5,c9,d2,u⟩;have M:χ (iD W w1 (w.heap.size+2) (11+(j+1))):=⟨n2,S2,b4,b6,b9,Aa,c5,c9,Aa,u⟩;have b3:=Af (nK Aa w1 u);clear c7 u)
    |(go_at_call 39;refine b3.mono ?_;rintro e w2 ⟨rfl,b0⟩;have HW2:χ (iD W w2 (w.heap.size+2) (11+(j+1))):=(by obtain⟨n3,S3,b5,b7,c0,c8,c6,d0,c1,a5⟩:=uh M;exact⟨n3,S3,b5,b7,c0,c8,c6,d0,c1,a5.old b0⟩);clear b0))
   exact wI
  have HW2:χ (iD W wr (w.heap.size+2) (11+(j+1))):=⟨nn,S,RF,RL,RT,Aa,D,F,Aa,c⟩;go_wp2_with fail;exact wI
 have c4:j=n:=Aa;have a6:χ (Al w wr):=g wr c.only;subst c4;clear c A;go_wp2;go_ret;exact⟨rfl,a6⟩
def Oj.rev{T:E Bw}{w w' w2 w3:U}{r s:Ending}{v u:β}{fs:E Fl}(h:Oj T w w' r)(o:r=ε (η #[v,u,I Q 0]))(C:Au w' v fs)(z:Oj T.reverse w2 w3 s): ∃d q,s=ε (η #[d,q,I Q 0])/\Au w3 d fs:=by
 rcases h with⟨M,⟨m,k, -, -, -, -,i,e⟩|⟨j,R,P,l,e,hp,H,g, -⟩⟩|⟨-,e⟩
 .rw[o] at e;obtain⟨-, -,x⟩:=PX e;exact κ Aa i
 .rw[o] at e;obtain⟨t, -, -⟩:=PX e;subst t;have f:=Au.inj C g;subst f;obtain⟨c,n⟩:=kW j;rcases z with⟨-,⟨m,k,y, -,A,B,i, -⟩|⟨-,d,q,L,f,F,p,b, -⟩⟩|⟨a, -⟩
  .have:=c m y A;rw[B] at this;exact κ this i
  .have D:L=fs:=MR ((F.trans n).trans hp.symm) p H;subst D;exact⟨d,q,f,b⟩
  rw[vO] at a;omega
 rw[o] at e;obtain⟨-, -,x⟩:=PX e;omega
def kX{T:E Bw}(B: ∀e∈T,e.nm.size<=2000000){w w' :U}{r:Ending}{v u:β}{fs:E Fl}(h:Oj T w w' r)(L:r=ε (η #[v,u,I Q 0]))(D:Au w' v fs)(l:fs.length<=60)(o: ∀f∈fs,f.1.size<=80/\f.2.size<=4000){M V p:Y}(A:M.size<=2000000)(C:V.size<=2000000)(hp:FM M V=J p)(W:U)(t: ∀X,Al W X->Cb X)(x:β)(m:DB W x T.reverse)(h0:T=[]->x=K O 0 0):
 μ ψ 27 #[G M,G V,x] W λr w' =>Al W w' /\r=ε (η #[G (GZ p fs).1,I Q ((GZ p fs).2:Z)]):=by
 have c: ∀X w3 a,Oj T.reverse X w3 a->qG (λk f=>k=0/\f=fs) w3 a:=λX w3 a z=>by
  obtain⟨R,P,y,n⟩:=h.rev L D z;exact⟨0,fs,R,P,⟨rfl,rfl⟩,y,n,l,Aa,o⟩
 refine(iz M V A C x (λk f=>k=0/\f=fs) W (t W (Ag.refl _ W)) (λX q=> ?_)).mono ?_
 .by_cases b:T=[]
  .rw[h0 b];refine(Ml X).mono (λa w3 i=>⟨i.1,c X w3 a ?_⟩);rw[b];exact i.2
  have s:0<T.reverse.length:=by
   rw[vO];exact List.length_pos_iff.2 b
  obtain⟨g,cap,rfl,j⟩:=(m.old q).slice s;exact(RN g cap T.reverse (λe m=>B e (List.mem_reverse.1 m)) X (t X q) j (j 0 s).1).mono (λa w3 i=>⟨i.1,c X w3 a i.2⟩)
 rintro a w3 ⟨H,k,d,F,rfl⟩;obtain⟨⟨rfl,rfl⟩, -⟩:=F (by rw[hp];rfl);refine⟨H, ?_⟩;have e:Mm M V 0 d =GZ p d :=by unfold Mm;rw[hp];exact rc (λh=>h rfl)
 rw[e]
def YJ{P:U->Prop}{c:β}{T:E Bw}(h: ∀W,P W->Kc W c T){w1:U}(d:P w1): ∃ao cap a,c=K ao T.length cap/\(0<T.length->ao=J a)/\∀W,P W->Dc W a T:=by
 rcases h w1 d with⟨e,h0⟩|⟨a,cap,e, -⟩
 .subst h0;exact⟨O,0,⟨0,0,O⟩,e,(λh=>by simp at h),λW _ i j=>by cases j⟩
 refine⟨J a,cap,a,e,λ_=>rfl,λW g=> ?_⟩;rcases h W g with⟨b, -⟩|⟨k,cap2,b,f⟩
 .rw[e] at b;injection b with e3;cases e3
 rw[e] at b;injection b with e3;injection e3 with e3;subst e3;exact f
def iF{w:U}{v:β}{fs:E Fl}(h:Au w v fs): ∃fo a c,v=K fo fs.length a/\(0<fs.length->fo=J c)/\∀W,Al w W->Dw W c fs:=by
 by_cases h0:0<fs.length
 .obtain ⟨g,cap,rfl,k,j⟩:=h.slice h0;refine⟨_,cap,⟨g,0,O⟩,rfl,λ_=>rfl,λW d i b=> ?_⟩;obtain⟨e,f⟩:=j i b;rw[rH,rx];exact⟨Ao d e,Ao d f⟩
 obtain⟨fo,a,rfl⟩:=Dq h;exact⟨fo,a,⟨0,0,O⟩,rfl,λh=>κ h h0,λW _ i b=>κ b Aa⟩
def cB{p:Y}(hp:p.size<=1000){fs:E Fl}(h: ∀f∈fs,f.1.size<=80/\f.2.size<=4000): ∀x∈(Ba fs).map (JI p),CQ.ok x:=by
 intro x d;obtain⟨j,a,rfl⟩:=rT.1 d;obtain⟨f,c,rfl⟩:=rT.1 a;obtain⟨e,g⟩:=h f c;have i:=EG f.2;have b:(p++f.1).size<=4000000:=by rw[rg];omega
 unfold FK JI;split
 .exact ⟨b,by show(8:N)<=_;omega,by show Bz f.2<=_;omega,by show(CA f.2).size<=_;omega,by show f.2.size<=_;omega,by show(CA f.2).size<=_;omega⟩
 exact⟨b,by show(0:N)<=_;omega,by show Bz f.2<=_;omega,by show f.2.size<=_;omega,by show f.2.size<=_;omega,by show f.2.size<=_;omega⟩
def Qw(T:E Bw)(k:N)(h:k<T.length):(T.drop k).reverse=(T.drop (k+1)).reverse++[T.getD k AA]:=by
 rw[sK h,List.reverse_cons,qT,qY h];rfl
def iG{w1:U}{b c:N}{s:WS}{RF RL RT:E (β×Y)}(a7:s.m.size<=2000000)(a8:s.v.size<=2000000)(lv tv av:β)(T:E Bw)(n2:T.length<=1100000)(hT: ∀e∈T,e.nm.size<=2000000/\e.dt.size<=2000000)(w:U)(h:CD w1 w b c s RF RL RT)(hG: ∀W,Ag (λk=>k=b) w1 W->Ge W)(LW:U->Prop)
 (a6:μ ψ 112 #[lv] w λr w2=>r=ε (η #[tv,av])/\Al w w2/\LW w2)(e2: ∀W W',LW W->Al W W' ->LW W')
 (P: ∀W,LW W->Cb W->μ ψ 44 #[tv] W λr w' =>Al W w' /\Oj T W w' r)
 (a5: ∀W,LW W->CD w1 W b c s RF RL RT->μ ψ 113 #[δ (J ⟨b,0,O⟩),av,lv] W λr w' =>r=ε (ζ θ)/\IC [wT,Px,9,tE] W w' /\gq w1 w' b (c+1) s.base RF RL)
 (f2: ∀W,Ag (λk=>k=b) w1 W->Kc W lv T):
 μ ψ 63 #[δ (J ⟨b,0,O⟩),lv] w λr w' =>r=ε (ζ θ)/\YH w1 w' b (c+1) s:=by
 obtain⟨lo,lc,la,l7,c0,j2⟩:=YJ f2 (Ag.refl (λk=>k=b) w1);subst l7;have f9:=Af c0;have f8:=Af j2;have e1:χ (∀e∈T,e.nm.size<=2000000):=λe he=>(hT e he).1
 have d8:χ (∀W,Ag (λk=>k=b) w1 W->Cb W):=λW hW=>(hG W hW).2
 have HL:=Af h;have HLE:=Af a6;have g0:=Af e2;have g4:χ (∀W,Al w W->LW W->μ ψ 27 #[G s.m,G s.v,tv] W λr w' =>Al W w' /\lS T s.m s.v r):=λW ho hl=>ot s.m s.v a7 a8 tv T W (hG W (h.old ho).only).2 (λV hV=>P V (e2 _ _ hl hV) (hG V ((h.old ho).old hV).only).2)
 have f4:=Af a5;have l0:=Af (λW hW=>MZ _ T hT W (f2 W hW));have H:=Af (λW=>PG s.m s.v a7 a8 W);have a2:=Af (λW=>Mf s.m s.v a7 a8 W);have a4:χ (∀W s' g8 g9 h6 c',CD w1 W b c' s' g8 g9 h6 ->s'.base=s.base->W.cell? ⟨b,0,O⟩=J (G s.m)/\W.cell? ⟨b,1,O⟩=J (G s.v)/\W.cell? ⟨b,2,O⟩=J (G s.ar)):=λW s' g8 g9 h6 c' hw hb=>by
  refine⟨?_, ?_, ?_⟩
  .rw[qV W b 0 _ _ (0,0) hw.hp,<-Qb hb];rfl
  .rw[qV W b 1 _ _ (0,0) hw.hp,<-Qc hb];rfl
  rw[qV W b 2 _ _ (0,0) hw.hp,<-Td hb];rfl
 have n3:=h.inb;have b6:=Af a7;have b7:=Af a8;clear h a6 e2 P a5 f2 hG hT c0 j2;obtain⟨M,hM⟩: ∃M,s.m=M:=⟨_,rfl⟩;obtain⟨V,hV⟩: ∃V,s.v=V:=⟨_,rfl⟩;obtain⟨A,hA⟩: ∃A,s.ar=A:=⟨_,rfl⟩;rw[hM,hV] at g4 H a2;rw[hM,hV,hA] at a4;rw[hM] at b6;rw[hV] at b7;have k7:=Af hM;have l2:=Af hV;clear hM hV hA a7 a8;go_in;go_wp2_with fail;refine HLE.mono ?_;rintro r w2 ⟨rfl,c4,e8⟩;obtain⟨W0,hW0⟩: ∃W0,W0=w2:=⟨_,rfl⟩;obtain⟨r0,r1,r2⟩:=a4 w2 s RF RL RT c (HL.old c4) rfl;have HS3: ∀X B :U,(X.cell? ⟨b,0,O⟩=J (G M)/\X.cell? ⟨b,1,O⟩=J (G V)/\X.cell? ⟨b,2,O⟩=J (G A)/\Al W0 X)->Al X B ->(B.cell? ⟨b,0,O⟩=J (G M)/\B.cell? ⟨b,1,O⟩=J (G V)/\B.cell? ⟨b,2,O⟩=J (G A)/\Al W0 B):=λX B h ho=>⟨Ao ho h.1,Ao ho h.2.1,Ao ho h.2.2.1,h.2.2.2.trans ho⟩
 have HSW:w2.drew.cell? ⟨b,0,O⟩=J (G M)/\w2.drew.cell? ⟨b,1,O⟩=J (G V)/\w2.drew.cell? ⟨b,2,O⟩=J (G A)/\Al W0 w2.drew:=⟨r0,r1,r2,by rw[hW0];exact(Ag.refl _ w2).drew⟩;have g2:=Af (g4 w2.drew c4.drew (g0 _ _ e8 ((Ag.refl _ w2).drew)));have k8:=Af c4;have k4:=Af e8;clear HLE c4 e8 r0 r1 r2;go_wp2_with fail;refine Ai (S:=λX=>X.cell? ⟨b,0,O⟩=J (G M)/\X.cell? ⟨b,1,O⟩=J (G V)/\X.cell? ⟨b,2,O⟩=J (G A)/\Al W0 X) (L:=14) Ab ?_;refine tk 0 15 (δ (J ⟨b,0,O⟩)) 32 HSW ?_;refine tk 1 15 (δ (J ⟨b,0,O⟩)) 33 HSW ?_;refine tk 2 15 (δ (J ⟨b,0,O⟩)) 34 HSW ?_;refine tk 3 15 (G M) 35 HSW ?_;refine tk 4 15 (δ (J ⟨b,0,O⟩)) 36 HSW ?_;refine tk 5 15 (δ (J ⟨b,0,O⟩)) 37 HSW ?_;refine tk 6 15 (δ (J ⟨b,1,O⟩)) 38 HSW ?_;refine tk 7 15 (G V) 39 HSW ?_;refine tk 8 15 tv 40 HSW ?_;refine Ah (i:=9) Ab ?_;refine ri rfl (λK' hK=> ?_);go_simp;refine g2.mono ?_;rintro r w3 ⟨ho,k,fs,i9,rfl⟩;obtain⟨n,pn,f0⟩: ∃n pn,Mm M V k fs=(n,pn):=⟨_,_,rfl⟩;rw[f0];have R:=HS3 _ _ HSW ho;refine hK _ _ ⟨λ_=>R, ?_⟩;clear hK;refine tk 10 15 (η #[G n,I Q (pn:Z)]) 31 R ?_;refine tk 11 15 (G n) 42 R ?_;refine tk 12 15 (I Q (pn:Z)) 43 R ?_;refine tk 13 15 (G n) 7 R ?_;refine Ah (i:=14) Ab ?_;refine ri rfl (λK' hK=> ?_);go_simp;refine hK _ _ ⟨λh=>κ rfl h, ?_⟩;clear hK;refine Am Ab ?_;have e3:Al w2 w3:=(Ag.refl _ w2).drew.trans ho;have f5:=Af i9;have b1:=Af f0;have f3:=Af (f4 w3 (g0 _ _ (uh k4) e3) (HL.old (k8.trans e3)));clear g2 R HSW HS3 ho i9 f0 e3 f4 hW0;go_wp2_with fail;refine f3.mono ?_;rintro r w4 ⟨rfl, -,s4,l3,e9,i0⟩;have k6:=Af e9;have HB4:=Af i0;have g7:=Af (l0 w4 e9.only);clear f3 e9 i0;go_wp2_with fail;refine g7.mono ?_;rintro r w5 ⟨j3,f1⟩;obtain⟨k5,n1,v5,u5,c8,rfl,c9,l4,m8,d2⟩:=f1.chps;have b4:=Af f1;have n0:=Af c8;have a9:=Af c9;have C:=Af d2;have HL5:=Af (k6.old j3);obtain⟨r0,r1,r2⟩:=a4 w5 _ _ _ _ _ (uh HL5) (uh HB4);obtain⟨W0,hW0⟩: ∃W0,W0=w5:=⟨_,rfl⟩;have HS3: ∀X B :U,(X.cell? ⟨b,0,O⟩=J (G M)/\X.cell? ⟨b,1,O⟩=J (G V)/\X.cell? ⟨b,2,O⟩=J (G A)/\Al W0 X)->Al X B ->(B.cell? ⟨b,0,O⟩=J (G M)/\B.cell? ⟨b,1,O⟩=J (G V)/\B.cell? ⟨b,2,O⟩=J (G A)/\Al W0 B):=λX B h ho=>⟨Ao ho h.1,Ao ho h.2.1,Ao ho h.2.2.1,h.2.2.2.trans ho⟩
 have HSW:w5.drew.cell? ⟨b,0,O⟩=J (G M)/\w5.drew.cell? ⟨b,1,O⟩=J (G V)/\w5.drew.cell? ⟨b,2,O⟩=J (G A)/\Al W0 w5.drew:=⟨r0,r1,r2,by rw[hW0];exact(Ag.refl _ w5).drew⟩;clear g7 j3 f1 c8 c9 d2 r0 r1 r2;cases hpre:FM M V with
 |none=>
  have l:(n,pn)=((⟨#[]⟩:Y),3):=by have hq:=uh b1;unfold Mm at hq;rw[hpre] at hq;exact hq.symm
  injection l with l hpn;subst l hpn;rw[hpre] at H;have HM5:=Af (H w5.drew);clear hpre b1 H;exact zf
 |some p=>
  obtain⟨i8,n6,n7⟩:=f5 (by rw[hpre];rfl);obtain⟨v6,u6,i3,i4⟩:=i8 _ _ _ (uh b4);obtain⟨m1,l9,o0⟩:=PX i3;have j0:k5=k:=Aa;subst j0 m1 l9;have l5:=Au.inj i4 (uh a9);subst l5;have b2:χ ((n,pn)=if k5≠0 then((⟨#[]⟩:Y),k5) else GZ p fs):=by have hq:=uh b1;unfold Mm at hq;rw[hpre] at hq;exact hq.symm
  have l8:=GF hpre;have d9:=a2;rw[<-Nf hpre] at d9;clear a2;rw[hpre] at H;have HM5:=Af (H w5.drew);have a3:=Af hpre;clear hpre b1 H f5 i8 i3 i4;by_cases i7:k5=0
  .subst i7;have t:χ (GZ p fs=(n,pn)):=(b2.trans (rc (λh=>h rfl))).symm;have b5:χ (∀W x,Ag (λk=>k=b) w1 W->DB W x T.reverse->(T=[]->x=K O 0 0)->μ ψ 27 #[G M,G V,x] W λr w' =>Al W w' /\r=ε (η #[G n,I Q (pn:Z)])):=λW x hW he h0=>by
    have h:=kX (uh e1) (uh b4) rfl (uh a9) l4 (uh C) (uh b6) (uh b7) (uh a3) W (λX hX=>d8 X (hW.trans (Ag.oldW hX))) x he h0;rw[uh t] at h;exact h
   clear b2 b4 e1 d8 b6 b7 a3;go_wp2_with fail;refine Ai (S:=λX=>X.cell? ⟨b,0,O⟩=J (G M)/\X.cell? ⟨b,1,O⟩=J (G V)/\X.cell? ⟨b,2,O⟩=J (G A)/\Al W0 X) (L:=9) Ab ?_;refine tk 0 10 (δ (J ⟨b,0,O⟩)) 54 HSW ?_;refine tk 1 10 (δ (J ⟨b,0,O⟩)) 55 HSW ?_;refine tk 2 10 (δ (J ⟨b,0,O⟩)) 56 HSW ?_;refine tk 3 10 (G M) 57 HSW ?_;refine tk 4 10 (δ (J ⟨b,0,O⟩)) 58 HSW ?_;refine tk 5 10 (δ (J ⟨b,0,O⟩)) 59 HSW ?_;refine tk 6 10 (δ (J ⟨b,1,O⟩)) 60 HSW ?_;refine tk 7 10 (G V) 61 HSW ?_;refine Ah (i:=8) Ab ?_;refine ri rfl (λK' hK=> ?_);go_simp;refine HM5.mono ?_;rintro r w6 ⟨rfl,ho⟩;have hs6:=HS3 _ _ HSW ho;refine hK _ _ ⟨λ_=>hs6, ?_⟩;clear hK;refine Ah (i:=9) Ab ?_;refine ri rfl (λK' hK=> ?_);go_simp;refine hK _ _ ⟨λh=>κ rfl h, ?_⟩;clear hK;refine Am Ab ?_;have e4:Al w5 w6:=by have:=hs6.2.2.2;rw[hW0] at this;exact this
   have f7:=Af (HL5.old e4);have c6:=Af (Au.old (uh a9) e4);have HSW:w6.drew.cell? ⟨b,0,O⟩=J (G M)/\w6.drew.cell? ⟨b,1,O⟩=J (G V)/\w6.drew.cell? ⟨b,2,O⟩=J (G A)/\Al W0 w6.drew:=⟨hs6.1,hs6.2.1,hs6.2.2.1,hs6.2.2.2.drew⟩;have g5:=Af (d9 w6.drew);clear hs6 ho HM5 e4 a9 HL5;go_wp2_with fail;refine Ai (S:=λX=>X.cell? ⟨b,0,O⟩=J (G M)/\X.cell? ⟨b,1,O⟩=J (G V)/\X.cell? ⟨b,2,O⟩=J (G A)/\Al W0 X) (L:=9) Ab ?_;refine tk 0 10 (δ (J ⟨b,0,O⟩)) 86 HSW ?_;refine tk 1 10 (δ (J ⟨b,0,O⟩)) 87 HSW ?_;refine tk 2 10 (δ (J ⟨b,0,O⟩)) 88 HSW ?_;refine tk 3 10 (G M) 89 HSW ?_;refine tk 4 10 (δ (J ⟨b,0,O⟩)) 90 HSW ?_;refine tk 5 10 (δ (J ⟨b,0,O⟩)) 91 HSW ?_;refine tk 6 10 (δ (J ⟨b,1,O⟩)) 92 HSW ?_;refine tk 7 10 (G V) 93 HSW ?_;refine Ah (i:=8) Ab ?_;refine ri rfl (λK' hK=> ?_);go_simp;refine g5.mono ?_;rintro r w7 ⟨rfl,j8⟩;have ho:Al w6.drew w7:=by rw[j8];exact Ag.refl _ _
   clear j8;have j7:=HS3 _ _ HSW ho;refine hK _ _ ⟨λ_=>j7, ?_⟩;clear hK;refine Ah (i:=9) Ab ?_;refine ri rfl (λK' hK=> ?_);go_simp;refine hK _ _ ⟨λh=>κ rfl h, ?_⟩;clear hK;refine Am Ab ?_;have e5:Al w6 w7:=((Ag.refl _ w6).drew).trans ho;have c7:=Af (Au.old (uh c6) e5);have d6:=Af (f7.old e5);obtain⟨fo,fc,fa,m0,b9,d0⟩:=iF (uh c7);have d3:=Af b9;have d4:=Af d0;have e0:χ (∀i,i<fs.length->(fs.getD i default).1.size<=80/\(fs.getD i default).2.size<=4000):=λi hi=>by
    rw[qT,qY hi];exact C _ (ro hi)
   clear c6 c7 f7 b9 d0 g5 d9 j7 HSW HS3 ho e5;subst m0;go_wp2;go_loopw [14,16,17,18,19,20] (λu xi _ _ _ _ wr=> ∃(i:N) (its:E CQ) (ao:Option Addr) (cap:N),i<=fs.length/\xi=I Q (i:Z)/\u=K ao its.length cap/\χ (Qe w7 wr (K ao its.length cap) its)/\χ (its=(Ba (fs.take i)).map (JI p))/\χ (its.length=i)) (λ_ xi _ _ _ _ _=>fs.length- (intOf xi).toNat)
   .exact ⟨0,[],O,0,Aa,rfl,rfl,Qe.start (Ag.refl _ _),Af (by simp[Ba]),Af rfl⟩
   obtain⟨i,its,ao,cap,hi,rfl,rfl,HN,HK,HLE⟩:=hrel;have n5:its.length<=60:=by have:=uh HLE;omega
   have b0:=Af HN.2.2;by_cases e7:i<fs.length
   .have i6:(i:Z)<(fs.length:Z):=Aa;have b9:=d3 Aa;subst b9;obtain⟨c1,c2⟩:=d4 wr (uh b0) i e7;obtain⟨o4,o5⟩:=e0 i e7;have HIT:=Af (Nr fs i e7);clear d4 e0 d3 b5 C d6 b0 t;generalize fs.getD i default=f at*;obtain⟨nm,d⟩:=f;simp only at*;have HCK:=Af (λW=>Fb d W (by unfold maxLen;omega));have i2:=EG d;obtain⟨ck,e6⟩: ∃ck,Bz d=ck:=⟨_,rfl⟩;rw[e6] at HCK i2;have HCKE:=Af e6;clear e6;have a1: ∀W,(Op.stringOp .add p nm).run ψ W=.ok (G (p++nm)) W:=λW=>ry W _ _ Aa
    obtain⟨qn,c5⟩: ∃qn,p++nm=qn:=⟨_,rfl⟩;have m9:qn.size<=1080:=(by rw[<-c5,rg];omega);rw[c5] at a1;have HQN:=Af c5;clear c5;have HSW:wr.drew.cell? (fa.add (i*2))=J (G nm)/\True:=⟨c1,trivial⟩;have hS2: ∀o,(wr.drew.alloc o).cell? (fa.add (i*2))=J (G nm)/\True:=λo=>⟨Ao (((Ag.refl _ wr).drew).alloc o) c1,trivial⟩
    go_wp2_with fail;refine Ai (S:=λX=>X.cell? (fa.add (i*2))=J (G nm)/\True) (L:=17) Ab ?_;refine tk 0 18 (G p) 106 HSW ?_;refine tk 1 18 (K (J fa) fs.length fc) 107 HSW ?_;refine tk 2 18 (I Q (i:Z)) 108 HSW ?_;refine tk 3 18 (δ (J (fa.add (i*2)))) 109 HSW ?_;refine tk 4 18 (δ (J (fa.add (i*2)))) 110 HSW ?_;refine tk 5 18 (G nm) 111 HSW ?_;refine tk 6 18 (G qn) 112 HSW ?_;refine tk 7 18 (G d) 113 HSW ?_;refine tk 9 18 (G d) 115 HSW ?_;refine tk 10 18 (I Q (d.size:Z)) 116 HSW ?_;refine tk 11 18 (G d) 117 HSW ?_;refine tk 12 18 (I Q (d.size:Z)) 118 HSW ?_;refine tk 14 18 (G d) 120 HSW ?_;refine Lh (i:=8) (j:=16) Ab ?_ ?_
    .refine ri rfl (λK' hK=> ?_);go_simp;refine(HCK _).mono ?_;rintro r w3 ⟨rfl,rfl⟩;refine hK _ _ ⟨λ_=>HSW, ?_⟩;clear hK;refine tk 13 18 (.agg #[G qn,I Q 0,I Q (ck:Z),I Q (d.size:Z),I Q (d.size:Z)]) 119 HSW ?_;refine tk 15 18 (.agg #[G qn,I Q 0,I Q (ck:Z),I Q (d.size:Z),I Q (d.size:Z),G d]) 121 HSW ?_;refine Ah (i:=16) Ab ?_;refine ri rfl (λK' hK=> ?_);go_simp;refine hK _ _ ⟨λ_=>hS2 _, ?_⟩;clear hK;exact yO
    refine ri rfl (λK' hK=> ?_);go_simp;refine hK _ _ ⟨λ_=>hS2 _, ?_⟩;clear hK;refine Ah (i:=8) Ab ?_;refine ri rfl (λK' hK=> ?_);go_simp;refine(HCK _).mono ?_;rintro r w3 ⟨rfl,rfl⟩;refine hK _ _ ⟨λ_=>hS2 _, ?_⟩;clear hK;refine tk 13 18 (.agg #[G qn,I Q 0,I Q (ck:Z),I Q (d.size:Z),I Q (d.size:Z)]) 119 (hS2 _) ?_;refine tk 15 18 (.agg #[G qn,I Q 0,I Q (ck:Z),I Q (d.size:Z),I Q (d.size:Z),G d]) 121 (hS2 _) ?_;exact yO
   have i6:¬(i:Z)<(fs.length:Z):=Aa;have d5:χ (its=(Ba fs).map (JI p)):=by
    have h:=uh HK;have l6:i=fs.length:=Aa;rw[l6,sr] at h;exact h
   have j5: ∀x∈its,CQ.ok x:=by have h:=uh d5;rw[h];exact cB l8 (uh C)
   obtain⟨ao2,g,cap2,m2,h8,d1⟩:=HN.any;injection m2 with hve1 hve2 hve3;subst hve1 hve3;have HJ:=Af (Di ao g cap its h8 Aa j5 wr (λj hj=>d1 Aa j hj));have b3:χ (GZ p fs=if 40000<(Bp its).size then(⟨#[]⟩,1) else(Bp its,0)):=by
    have h:=uh d5;have e:Bp its=An (BE p (Ba fs)):=(by rw[h];exact PN p (Ba fs));unfold χ GZ;rw[e,AE]
   have g1:=Af (d6.old (uh b0));clear hve2 h8 d1 j5 d5 HN HK HLE d4 d3 e0 C d6 b0;generalize Bp its=z at*;go_wp2_with fail;refine HJ.mono ?_;rintro r w8 ⟨rfl,j4⟩;have F:=g1.old j4;clear HJ j4 g1;by_cases hz:40000<z.size
   .have m4:(40000:Z)<(z.size:Z):=Aa;have l:=(uh t).symm.trans (b3.trans (rd hz));injection l with l hpn;subst l hpn;have HX:χ (YH w1 w8 b (c+1) s):=Exists.intro s4 (Exists.intro _ (Exists.intro _ (Exists.intro _ ⟨⟨s.ar,HB4,.inl rfl⟩,F⟩)));clear F b5 t b3;exact zF
   have m4:¬(40000:Z)<(z.size:Z):=Aa;have l:=(uh t).symm.trans (b3.trans (rc hz));injection l with l hpn;subst l hpn;have k2:w8.cell? ⟨b,2,O⟩=J (G s4.ar):=by rw[qV _ b 2 _ _ (0,0) F.hp];rfl
   have m6:=rp w8 b 2 _ _ F.hp;have i1:=F.inb;have h1:=ru w8 b 2 _ _ (G n) F.hp;have d7:χ (CD w1 (w8.setCell ⟨b,2,O⟩ (G n)) b (c+1) {s4 with ar:=n} RF RL l3):=F.rec_ (s' :={s4 with ar:=n}) (Ap _ b 2 _) h1 (rj _) rfl rfl rfl rfl rfl rfl;clear h1 t b3 F;obtain⟨z,m5⟩: ∃z,n=z:=⟨_,rfl⟩;subst m5;go_wp2_with fail;clear k2 m6 i1;generalize w8.setCell ⟨b,2,O⟩ (G n)=w9 at*;have j9:χ (DB w9 (K O 0 0) (T.drop ((T.length:Z)- 1+1).toNat).reverse):=by
    unfold χ;rw[show((T.length:Z)- 1+1).toNat=T.length by omega,List.drop_length];exact rF w9 0 _ 3
   go_loopw [22,23] (λu xi wr=> ∃y:Z,xi=I Q y/\ -1<=y/\y<(T.length:Z)/\χ (DB wr u (T.drop (y+1).toNat).reverse)/\χ (Al w9 wr)/\χ (∀k,u.ownBlock=J k->w9.heap.size<=k)/\χ (y=(T.length:Z)- 1->u=K O 0 0)) (λ_ xi _=>(intOf xi+1).toNat)
   .exact ⟨(T.length:Z)- 1,rfl,Aa,Aa,j9,Ag.refl _ w9,(λk hk=>by cases hk),λ_=>rfl⟩
   obtain⟨y,rfl,o2,o3,HE,HO,HB,HZ⟩:=hrel;by_cases h0:0<=y
   .obtain ⟨k,hk⟩: ∃k:N,y=(k:Z):=⟨y.toNat,Aa⟩;subst hk;have j1:k<T.length:=Aa;have n4:(k:Z)>=0:=h0;have c0:=f9 Aa;subst c0;obtain⟨c1,c2,c3⟩:=f8 wr (d7.only.trans (Ag.oldW (uh HO))) k j1;have HD:=Af (Qw T k j1);have a0:χ (DB wr u22 (T.drop (k+1)).reverse):=by have h:=uh HE;rw[show((k:Z)+1).toNat=k+1 by omega] at h;exact h
    have o1:(T.drop (k+1)).reverse.length<=1100000:=(by rw[vO,tD];omega);generalize(T.drop (k+1)).reverse=L at*;generalize T.getD k AA=e at*;obtain⟨nm,ln,dt⟩:=e;simp only at c1 c2 c3;have hA:Al wr (wr.alloc (γ #[G nm,ζ ln,G dt] 39)):=(Ag.refl _ wr).alloc _;have k0:=Af (a0.old hA);have k9:=Af (HO.trans hA)
    have l1:χ (Yr (wr.alloc (γ #[G nm,ζ ln,G dt] 39)) (K (J ⟨wr.heap.size,0,O⟩) 1 1) [⟨nm,ln,dt⟩]):=⟨J ⟨wr.heap.size,0,O⟩,1,rfl,(λe=>by cases e),λa ea j u hu=>by
     injection ea with ea;subst ea;exact AB wr [G nm,ζ ln,G dt] _ j u hu⟩
    clear hA HE a0 HO;go_wp2_with (at_builtin;refine Mh rfl (.tmp 169) (.tmp 174) rfl u22 _ L [⟨nm,ln,dt⟩] rfl rfl (uh k0) (uh l1) (by simp;omega) ?_;intro v2 w2 j6 i5 h9;have g6:=Af (ia (uh k9) (uh HB) i5 h9);have k1:=Af j6;clear j6 i5 h9);have k3:χ (DB w2 v2 (T.drop ((k:Z)- 1+1).toNat).reverse):=by
     have h:=uh k1;unfold χ;rw[show((k:Z)- 1+1).toNat=k by omega,uh HD];exact h
    go_roundw
    .exact ⟨(k:Z)- 1,by go_num,Aa,Aa,k3,g6.1,g6.2,λh=>Aa⟩
    simp[intOf]
   have m3:y= -1:=Aa;subst m3;have a0:χ (DB wr u22 T.reverse):=uh HE;have h7:=d7.only.trans (Ag.oldW (S:=λk=>k=b) HO.drew);have g3:χ (μ ψ 27 #[G M,G V,u22] wr.drew λr w' =>Al wr.drew w' /\r=ε (η #[G n,I Q 0])):=b5 wr.drew u22 h7 (a0.old (Ag.refl _ wr).drew) (λh=>HZ (by rw[h];rfl));have D:=d7.old (uh HO);obtain⟨W0,hW0⟩: ∃W0,W0=wr:=⟨_,rfl⟩;have HS3: ∀X B :U,(X.cell? ⟨b,0,O⟩=J (G M)/\X.cell? ⟨b,1,O⟩=J (G V)/\X.cell? ⟨b,2,O⟩=J (G n)/\Al W0 X)->Al X B ->(B.cell? ⟨b,0,O⟩=J (G M)/\B.cell? ⟨b,1,O⟩=J (G V)/\B.cell? ⟨b,2,O⟩=J (G n)/\Al W0 B):=λX B h ho=>⟨Ao ho h.1,Ao ho h.2.1,Ao ho h.2.2.1,h.2.2.2.trans ho⟩
   have HSW:wr.drew.cell? ⟨b,0,O⟩=J (G M)/\wr.drew.cell? ⟨b,1,O⟩=J (G V)/\wr.drew.cell? ⟨b,2,O⟩=J (G n)/\Al W0 wr.drew:=⟨by
    show wr.cell? _=_;rw[qV wr b 0 _ _ (0,0) D.hp,<-uh k7,<-Qb (uh HB4)];rfl,by
    show wr.cell? _=_;rw[qV wr b 1 _ _ (0,0) D.hp,<-uh l2,<-Qc (uh HB4)];rfl,by
    show wr.cell? _=_;rw[qV wr b 2 _ _ (0,0) D.hp];rfl,by rw[hW0];exact(Ag.refl _ wr).drew⟩
   have f6:=Af D;clear D h7 b5 HE a0 HB HZ f8 f9 h0;go_wp2_with fail;refine Ai (S:=λX=>X.cell? ⟨b,0,O⟩=J (G M)/\X.cell? ⟨b,1,O⟩=J (G V)/\X.cell? ⟨b,2,O⟩=J (G n)/\Al W0 X) (L:=14) Ab ?_;refine tk 0 15 (δ (J ⟨b,0,O⟩)) 177 HSW ?_;refine tk 1 15 (δ (J ⟨b,0,O⟩)) 178 HSW ?_;refine tk 2 15 (δ (J ⟨b,0,O⟩)) 179 HSW ?_;refine tk 3 15 (G M) 180 HSW ?_;refine tk 4 15 (δ (J ⟨b,0,O⟩)) 181 HSW ?_;refine tk 5 15 (δ (J ⟨b,0,O⟩)) 182 HSW ?_;refine tk 6 15 (δ (J ⟨b,1,O⟩)) 183 HSW ?_;refine tk 7 15 (G V) 184 HSW ?_;refine tk 8 15 u22 185 HSW ?_;refine Ah (i:=9) Ab ?_;refine ri rfl (λK' hK=> ?_);go_simp;refine g3.mono ?_;rintro r m7 ⟨ho,rfl⟩;have q:=HS3 _ _ HSW ho;refine hK _ _ ⟨λ_=>q, ?_⟩;clear hK;refine tk 10 15 (η #[G n,I Q 0]) 176 q ?_;refine tk 11 15 (G n) 187 q ?_;refine tk 12 15 (I Q 0) 188 q ?_;refine tk 13 15 (G n) 24 q ?_;refine Ah (i:=14) Ab ?_;refine ri rfl (λK' hK=> ?_);go_simp;refine hK _ _ ⟨λh=>κ rfl h, ?_⟩;clear hK;refine Am Ab ?_;have HX:χ (YH w1 m7 b (c+1) s):=Exists.intro _ (Exists.intro _ (Exists.intro _ (Exists.intro _ ⟨⟨_,iE (uh HB4) _,.inr (by show n.size<=_;omega)⟩,f6.old (by have:=q.2.2.2;rw[hW0] at this;exact this)⟩)));clear q ho g3 HSW HS3;exact zF
  have l:=b2.trans (rd i7);injection l with l hpn;subst l hpn;have n8:((pn:Z) !=0)=true:=by rw[rS];omega
  have n9:¬(pn:Z)=0:=Aa;clear b2 b4 e1 d8 b6 b7 a3;exact zf
def ou{w1:U}{b c:N}{s:WS}{B C D:E (β×Y)}(S:c<=99999990)(l:s.m.size<=2000000)(n:s.v.size<=2000000)(x:β)(w:U)(h:CD w1 w b c s B C D)(A: ∀W,Ag (λk=>k=b) w1 W->Ge W)(P:Va (λW=>Ag (λk=>k=b) w1 W) x):
 μ ψ 63 #[δ (J ⟨b,0,O⟩),x] w λr w' =>r=ε (ζ θ)/\YH w1 w' b (c+1) s:=by
 obtain⟨T,f,u,ht⟩:=P;by_cases h0:T=[]
 .subst h0;obtain⟨ao,cap,e,F⟩: ∃ao cap,x=K ao 0 cap/\(x=K O 0 0\/ ∃a cap,x=K (J a) 0 cap):=by
   rcases ht w1 (Ag.refl _ _) with⟨e,_⟩|⟨ad,cp,e,_⟩
   .exact ⟨O,0,e,.inl e⟩
   exact⟨J ad,cp,e,.inr ⟨ad,cp,e⟩⟩
  refine iG l n x Dr Dr [] f u w h A (λ_=>True) ?_ (λ_ _ _ _=>trivial) ?_ ?_ ht
  .refine (UW x w F).mono ?_;rintro r w2 ⟨rfl,rfl⟩;exact⟨rfl,Ag.refl _ _,trivial⟩
  .intro W _ _;exact Ml W
  intro W _ hW;rw[e];exact UX (wq:=w) Aa W hW ao cap h.rt.2.2
 have j:0<T.length:=by cases T with|nil=>exact κ rfl h0|cons _ _=>simp
 obtain⟨ad,cp,e⟩: ∃ad cp,x=K (J ad) T.length cp:=wU;have p: ∀W,Ag (λk=>k=b) w1 W->Dc W ad T:=λW hW=>WJ
 refine iG l n x (K (J ⟨w.heap.size,0,O⟩) T.length (T.length+2)) (K (J ⟨w.heap.size,0,O⟩) (T.length+2) (T.length+2)) T f u w h A (λW=> ∃d,W.heap[w.heap.size]? =J (γ d tE (0,0))/\d.size=(T.length+2)*3/\PD d (T++[PE,PF])) ?_ ?_ ?_ ?_ ht
 .rw[e];refine(lN ad cp T j f w (p w h.only)).mono ?_;rintro r w2 ⟨rfl,z,d,y,o,t⟩;exact⟨rfl,z,d,y,o,t⟩
 .rintro W R ⟨d,g,q,i⟩ M;exact⟨d,AQ M g,q,i⟩
 .rintro W ⟨d,g,q,i⟩ L;exact RN w.heap.size (T.length+2) T (λe H=>(u e H).1) W L (i.left.ents g) (qW.1 g).1
 rintro W ⟨d,g,q,i⟩ hW;rw[e];exact lO (wq:=w) Aa W hW w.heap.size d T ad cp f g q i (p W hW.only) (rj _) h.only.size h.rt.2.2
def qH:qd:=by
 intro w1 b n S k l m j d f a c s t x y w h g i;have HC:=Af (ou j d f x _ (h.old ((Ag.refl _ w).alloc (γ (Df 6 a c s t x y) 79))) g i);clear h g i;exact zp
