import Derived.Test.YtndfmgdhiallpaaGreatDoorVad
import Derived.Test.YtndfmgdhiallpaaGreatDoorVag
set_option linter.all false
set_option maxRecDepth 100000
set_option maxHeartbeats 2000000
open _root_ renaming Option.some->J,Option.none->O,Int->Z,Nat->N,Go.Value.int->I,Go.Value.string->G,Go.IntKind.i64->Q,ByteArray->Y,List->E,Go.World->U,Go.Value.slice->K,Go.Value->β,Go.Obj.cells->γ,Go.Value.pointer->δ,Go.Ending.returned->ε,Go.Value.bool->ζ,Go.Value.tuple->η,Bool.true->θ,Bool.false->ι,absurd->κ,Go.Calls->μ,Go.TypeId->ν,Go.IntKind.u8->τ,UInt8->υ,Array->φ,Go.RowKit.Hid->χ
namespace Go.Proofs.YtndfmgdhiallpaaGreatDoor
open Go.RowKit Go.Proofs.Tryz
def YY{w:U}{b n d i:N}{e:E β}{u:β}(h:w.ownsRow 0 5 1 (K (J ⟨b,0,O⟩) n d) n e):(w.setCell ⟨b,i,O⟩ u).ownsRow 0 5 1 (K (J ⟨b,0,O⟩) n d) n (e.set i u):=by
 obtain⟨l,j⟩:=h;refine⟨by rw[rK];exact l, ?_⟩;rcases j with⟨a,_⟩|⟨g,cap,c,r,f,k,o,m,p,q⟩
 .cases a
 injection r with a h2 h3;injection a with a;injection a with a;subst a h3;refine .inr ⟨b,d,c.setIfInBounds i u,rfl,f,ru w b i c 5 u k,o,m,by rw[tQ];exact p, ?_⟩;rw[Array.toList_setIfInBounds,List.take_set,q]
def Wr(w:U)(g:N)(t:ν)(R:φ β)(S:N->Prop)(B:E N):Prop:=
 ∃ao cap,w.heap[g]? =J (γ (#[K ao (AN B).length cap,I Q ((8*(AN B).length- B.length:N):Z)]++R) t (0,0))/\
  w.ownsRow 0 5 1 (K ao (AN B).length cap) (AN B).length (Ak (AN B))/\∀b:Addr,ao=J b->S b.block
def dU(a b:β)(R:φ β):(#[a,b]++R)[0]? =J a:=by rw[uQ (show 0< #[a,b].size from Nat.two_pos)];rfl
def dV(a b:β)(R:φ β):(#[a,b]++R)[1]? =J b:=by rw[uQ (show 1< #[a,b].size from yu 1)];rfl
def dW(a b v:β)(R:φ β):(#[a,b]++R).setIfInBounds 0 v= #[v,b]++R:=by
 apply uV;simp
def dX(a b v:β)(R:φ β):(#[a,b]++R).setIfInBounds 1 v= #[a,v]++R:=by
 apply uV;simp
section
variable {w:U} {g:N} {t:ν} {R:φ β} {a b:β}
def OR(h:w.heap[g]? =J (γ (#[a,b]++R) t (0,0))):w.cell? ⟨g,0,O⟩=J a:=by rw[qV w g 0 _ _ (0,0) h];exact dU _ _ _
def Lg(h:w.heap[g]? =J (γ (#[a,b]++R) t (0,0))):w.cell? ⟨g,1,O⟩=J b:=by rw[qV w g 1 _ _ (0,0) h];exact dV _ _ _
def my(h:w.heap[g]? =J (γ (#[a,b]++R) t (0,0)))(v:β):(w.setCell ⟨g,0,O⟩ v).heap[g]? =J (γ (#[v,b]++R) t (0,0)):=by
 rw[ru w g 0 _ _ v h,dW]
def Sn(h:w.heap[g]? =J (γ (#[a,b]++R) t (0,0)))(v:β):(w.setCell ⟨g,1,O⟩ v).heap[g]? =J (γ (#[a,v]++R) t (0,0)):=by
 rw[ru w g 1 _ _ v h,dX]
def Jm(h:w.heap[g]? =J (γ (#[a,b]++R) t (0,0))):g<w.heap.size:=(qW.1 h).1
def So(i:t≠5)(h:w.heap[g]? =J (γ (#[a,b]++R) t (0,0))){v:β}{n:N}{j:E β}(f:w.ownsRow 0 5 1 v n j){k:N}(e:v.ownBlock=J k):k≠g:=by
 rintro rfl;obtain⟨d,c⟩:=CV f e;rw[h] at c;injection c with c;injection c with _ h2;exact i h2
end
def jl{c b f:N}(d:c<2^f)(e:b<2)(g:f<8):bits .or τ (c:Z) ((b*2^f:N):Z)=((c+b*2^f:N):Z):=by
 have hp:2^f<=2^7:=rG Aa Aa;have a:b*2^f<=1*2^f:=sA _ Aa;rw[u8_or_nat _ _ Aa Aa,yD,yK f (b*2^f) c Ad d,uL]
def YZ{B:E N}:KN B (B.length/8) 8=KN B (B.length/8) (B.length%8):=by
 have g: ∀m,KN B (B.length/8) (B.length%8+m)=KN B (B.length/8) (B.length%8):=by
  intro m;induction m with
  |zero=>rfl
  |succ m ih=>rw[<-sM,KN,ih,Mv B _ Aa];omega
 have:=g (8- B.length%8);rw[show B.length%8+(8- B.length%8)=8 by omega] at this;exact this
def aF{B:E N}(h:B.length%8≠0):(AN B).getD ((AN B).length- 1) 0=b8 (KN B (B.length/8) 8):=by
 rw[qT,Bj,DH B _ Aa,show(B.length+7)/8- 1=B.length/8 by omega];rfl
def jm(g:N)(t:ν)(ht:t≠5)(R:φ β)(S:N->Prop)(a5:S g)(B:E N)(hB:LE B)(hl:B.length<=1000000)(h8:B.length%8≠0)(b:N)(hb:b<2)(w:U)(h:Wr w g t R S B):
 μ prog 225 #[δ (J ⟨g,0,O⟩),I Q b] w λr w' =>r=ε (η #[])/\Ag S w w' /\Wr w' g t R S (B++[b]):=by
 obtain⟨ao,cap,v,j,V⟩:=h;have P:=Bj B;obtain⟨d,cp,b6,_,_⟩:=j.form Aa;injection b6 with hv1 hv2 hv3;subst hv1 hv3;clear hv2;have M:d≠g:=So ht v j rfl;have C:=OR v;have D:=Lg v;have u:=OB j (k:=(AN B).length- 1) Aa;have c5:=Jm v;rw[aF h8,YZ,AL (rW (Sc hB _ _) (show 2^(B.length%8)<=2^8 from rG Aa Aa))] at u;have F:=Sc hB (B.length/8) (B.length%8);have a1:χ (AN (B++[b])=(AN B).set ((AN B).length- 1) (b8 (KN B (B.length/8) (B.length%8)+b*2^(B.length%8)))):=by
  unfold χ;rw[dy b h8,YZ]
 have a8:w.frozen? ⟨g,1,O⟩=false:=rp w g 1 _ _ v;have a9:w.frozen? ⟨d,(AN B).length- 1,O⟩=false:=by obtain⟨c2,hg⟩:=CV j (b:=d) rfl;exact rp w d _ _ _ hg
 have HH:=Af v;have a3:=Af j;have z:=Af V;generalize b3:(AN B).length=n at*;generalize b0:8*n- B.length=f at*;generalize b1:n- 1=k at*;generalize b2:B.length%8=m at*;generalize b4:KN B (B.length/8) m=c at*;have c9:(n:Z)- 1=(k:Z):=Aa;have c4:(8:Z)- (f:Z)=(m:Z):=Aa;have c7:(k:Z)<(n:Z):=Aa;have c6:(0:Z)<=(k:Z):=Aa;have c8:(0:Z)<=(m:Z):=Aa;have c0:(m:Z)<64:=Aa;have d2:((m:N):Z).toNat=m:=rO m;have d1:((k:N):Z).toNat=k:=rO k;have d7:IntKind.i64.wrap (m:Z)=(m:Z):=Av m Aa;have d6:IntKind.i64.wrap (k:Z)=(k:Z):=Av k Aa;have hp:2^m<=2^7:=rG Aa Aa;have a7:b*2^m<=1*2^m:=sA _ Aa;have he:(b:Z)*2^m=((b*2^m:N):Z):=by rw[sY,so];rfl
 have d3:IntKind.i64.wrap ((b:Z)*2^m)=((b*2^m:N):Z):=by rw[he];exact Av _ Aa
 have d4:IntKind.u8.wrap ((b*2^m:N):Z)=((b*2^m:N):Z):=by rw[tN];omega
 have d0:=jl F hb (show m<8 by omega);have c3:((f:Z)==0)=false:=by rw[re];omega
 generalize a6:b*2^m=bm at*;have T:c+bm<256:=Aa;generalize b5:c+bm=q at*;have HQ:=Af T;have c1:=Af P;have x:χ ((AN (B++[b])).length=n):=by unfold χ;rw[Bj,qU,show([b]:E N).length=1 from rfl];omega
 have a0:χ (8*n- (B.length+1)=f- 1):=by unfold χ;omega
 have H:(f:Z)- 1=((f- 1:N):Z):=Aa;have d5:IntKind.i64.wrap ((f:Z)- 1)=(f:Z)- 1:=by rw[sx];omega
 have X:=Af H;clear v j V he b2 b4 b1 b0 b3 P b5 T H F a6 a7 hp;go_in;go_upto_region 3 with fail;have a:w.drew.cell? ⟨g,0,O⟩=J (K (J ⟨d,0,O⟩) n cap)/\w.drew.cell? ⟨g,1,O⟩=J (I Q f)/\w.drew.cell? ⟨d,k,O⟩=J (I τ c):=⟨C,D,u⟩;refine Ai (S:=λW=>W.cell? ⟨g,0,O⟩=J (K (J ⟨d,0,O⟩) n cap)/\W.cell? ⟨g,1,O⟩=J (I Q f)/\W.cell? ⟨d,k,O⟩=J (I τ c)) (L:=22) Ab ?_;refine tk 0 23 (δ (J ⟨g,0,O⟩)) 21 a ?_;refine tk 1 23 (δ (J ⟨g,0,O⟩)) 22 a ?_;refine tk 2 23 (δ (J ⟨g,0,O⟩)) 23 a ?_;refine tk 3 23 (K (J ⟨d,0,O⟩) n cap) 24 a ?_;refine tk 4 23 (δ (J ⟨g,0,O⟩)) 25 a ?_;refine tk 5 23 (δ (J ⟨g,0,O⟩)) 26 a ?_;refine tk 6 23 (δ (J ⟨g,0,O⟩)) 27 a ?_;refine tk 7 23 (K (J ⟨d,0,O⟩) n cap) 28 a ?_;refine tk 8 23 (I Q n) 29 a ?_;refine tk 9 23 (I Q k) 30 a ?_;refine tk 10 23 (δ (J ⟨d,k,O⟩)) 31 a ?_;refine tk 11 23 (I τ c) 32 a ?_;refine tk 12 23 (I Q b) 33 a ?_;refine tk 13 23 (δ (J ⟨g,0,O⟩)) 34 a ?_;refine tk 14 23 (δ (J ⟨g,0,O⟩)) 35 a ?_;refine tk 15 23 (δ (J ⟨g,1,O⟩)) 36 a ?_;refine tk 16 23 (I Q f) 37 a ?_;refine tk 17 23 (I Q m) 38 a ?_;refine tk 18 23 (I Q bm) 39 a ?_;refine tk 19 23 (I τ bm) 40 a ?_;refine tk 20 23 (I τ q) 41 a ?_;refine tk 21 23 (δ (J ⟨d,k,O⟩)) 42 a ?_;refine Ah (i:=22) Ab ?_;refine ri rfl (λK' hK=> ?_);go_simp;refine hK _ _ ⟨λh=>κ rfl h, ?_⟩;clear hK;refine Am Ab ?_;have l:(w.setCell ⟨d,k,O⟩ (I τ (q:Z))).drew.heap[g]? =J (γ (#[K (J ⟨d,0,O⟩) n cap,I Q f]++R) t (0,0)):=(vo _ _ _ _ (λe=>M e.symm)).trans (uh HH);have o:(w.setCell ⟨d,k,O⟩ (I τ (q:Z))).drew.ownsRow 0 5 1 (K (J ⟨d,0,O⟩) n cap) n ((Ak (AN B)).set k (I τ (q:Z))):=YY (uh a3);have A:Ag S w (w.setCell ⟨d,k,O⟩ (I τ (q:Z))).drew:=((Ag.refl S w).setCell (p:=⟨d,k,O⟩) (λ_=>z ⟨d,0,O⟩ rfl) _).drew;generalize(w.setCell ⟨d,k,O⟩ (I τ (q:Z))).drew=w3 at*;have b7:=Lg l;have b9:w3.frozen? ⟨g,1,O⟩=false:=rp w3 g 1 _ _ l;have a4:=Af l;have y:=Af o;have a2:=Af A;clear l o A a C D u a8 a9;go_wp2_with fail;go_end0;refine⟨rfl,a2.setCell (p:=⟨g,1,O⟩) (λ_=>a5) _,J ⟨d,0,O⟩,cap, ?_, ?_,z⟩
 .have e1:(AN (B++[b])).length=n:=uh x;rw[e1,qU,show([b]:E N).length=1 from rfl,uh a0,<-uh X];exact Sn (uh a4) _
 have e1:(AN (B++[b])).length=n:=uh x;have e2:Ak (AN (B++[b]))=(Ak (AN B)).set k (I τ (q:Z)):=by rw[uh a1,Ak,Ak,List.map_set,AL (uh HQ)]
 rw[e1,e2];exact Co (uh y) (Ap w3 g 1 _) (λb' s e=>by injection s with s;exact M (s.trans e))
def dY(g:N)(t:ν)(ht:t≠5)(R:φ β)(S:N->Prop)(H:S g)(B:E N)(hl:B.length<=1000000)(h8:B.length%8=0)(b:N)(hb:b<2)(w:U)(hF:Bs S w)(h:Wr w g t R S B):
 μ prog 225 #[δ (J ⟨g,0,O⟩),I Q b] w λr w' =>r=ε (η #[])/\Ag S w w' /\Wr w' g t R S (B++[b]):=by
 obtain⟨ao,cap,P,b3,b4⟩:=h;obtain⟨i0,d1,d6,d7,d8⟩:=rN FU;have d4:=Bj B;have c0:χ (AN (B++[b])=AN B++[b8 b]):=ZX b h8;have hz:8*(AN B).length- B.length=0:=Aa;rw[hz] at P;have hA:Ag (λ_=>False) w (w.alloc (γ #[I τ (0:Z)] 5)):=(Ag.refl _ w).alloc _;have c5:=OR P;have c6:=Lg P;have d0:=Jm P;have a9:(w.alloc (γ #[I τ (0:Z)] 5)).heap[g]? =J (γ (#[K ao (AN B).length cap,I Q (0:N)]++R) t (0,0)):=(hA.block g d0 (λx=>x)).trans P;have s:=Af a9;have o:=Af (CL b3 hA);have HSA:=Af b4;have b9:=Af (Fm (wr:=w) (n:=0));have m:χ ((AN (B++[b])).length=(AN B).length+1/\8*((AN B).length+1)- (B.length+1)=7):=⟨by rw[Bj,Bj,qU];simp;omega,Aa⟩;have b6:χ (Ak (AN (B++[b]))=(Ak (AN B)++[Value.int τ ((0:N):Z)]).set (AN B).length (I τ (b:Z))):=by
  unfold χ;have e:(Ak (AN B)).length=(AN B).length:=by simp[Ak]
  rw[uh c0,Ak,sv,sP,tB,AL Aa,<-e,List.set_append_right _ _ (rj _),ut];rfl
 have e6:(AN B).length<=1000000:=Aa;have c4:((Ak (AN B)).length)=(AN B).length:=by simp[Ak]
 generalize Ak (AN B)=xs at*;generalize(AN B).length=n at*;have d2:IntKind.i64.wrap ((n:Z)+1- 1)=(n:Z):=by rw[sx];omega
 have e9:IntKind.u8.wrap (b:Z)=(b:Z):=by rw[tN];omega
 have f0:IntKind.i64.wrap (b:Z)=(b:Z):=Av b Aa;have e8:IntKind.i64.wrap 0=0:=Av 0 Aa;have e7:bits .or τ (0:Z) (b:Z)=(b:Z):=by have:=u8_or_nat 0 b Aa Aa;rw[Nat.zero_or] at this;exact this
 have b7:=Af (λ(k:N) (T:k<w.heap.size)=>T);clear P b3 b4 d4 hz hA a9 b7;go_in;go_upto_region 3 with(at_builtin;refine wpList_append_lies _ rfl (.tmp 13) (.tmp 14) 62 rfl 0 5 i0 (I τ 0) 1 1 underlying62 d1 d6 d7 d8 rfl Aa (K ao n cap) n _ rfl (uh o) ⟨w.heap.size,0,O⟩ 1 1 [I τ ((0:N):Z)] rfl rfl (uh b9) (by intro u hu;simp at hu;subst hu;rfl) Aa (by unfold maxLen;omega) Aa Aa (w.heap.size+1) Ad ?_;intro d cap2 w3 b2 M b0 e1;have C:(Value.slice ao n cap).ownBlock≠J g:=(λe=>So ht (uh s) (uh o) e rfl);have f:w3.heap[g]? =J (γ (#[K ao n cap,I Q (0:N)]++R) t (0,0)):=(M.block g (Jm (uh s)) (λe=>C e.symm)).trans (uh s);have c7:=OR f;have a6:=Lg f;have c9:=rp w3 g 0 _ _ f;have a8:=rp w3 g 1 _ _ f;have q:=Af f;have F:=Af b2;have V:=Af M;have X:=Af b0;clear b2 M b0 f C);have l:((w3.setCell ⟨g,0,O⟩ (K (J ⟨d,0,O⟩) (n+1) cap2)).setCell ⟨g,1,O⟩ (I Q 8)).heap[g]? =J (γ (#[K (J ⟨d,0,O⟩) (n+1) cap2,I Q 8]++R) t (0,0)):=Sn (my (uh q) _) _;have v:d≠g:=So ht (uh q) (uh F) rfl;have j:((w3.setCell ⟨g,0,O⟩ (K (J ⟨d,0,O⟩) (n+1) cap2)).setCell ⟨g,1,O⟩ (I Q 8)).ownsRow 0 5 1 (K (J ⟨d,0,O⟩) (n+1) cap2) (n+1) (xs++[I τ ((0:N):Z)]):=
  Co (Co (uh F) (Ap w3 g 0 _) (λb' c e=>by injection c with c;exact v (c.trans e))) (Ap _ g 1 _) (λb' c e=>by injection c with c;exact v (c.trans e))
 have a3:Ag S w ((w3.setCell ⟨g,0,O⟩ (K (J ⟨d,0,O⟩) (n+1) cap2)).setCell ⟨g,1,O⟩ (I Q 8)):=by
  have d5:Ag S w w3:=(Ag.refl S w|>.alloc (γ #[I τ (0:Z)] 5)).grown (uh V) (λk _ T=>by
   cases ao with
   |none=>cases T
   |some b=>injection T with T;subst T;exact HSA b rfl)
  exact(d5.setCell (p:=⟨g,0,O⟩) (λ_=>H) _).setCell (p:=⟨g,1,O⟩) (λ_=>H) _
 have a5:S d:=by
  rcases uh X with h5|h5
  .exact aah
  rw[h5];exact hF _ Aa
 have b5:(xs++[Value.int τ ((0:N):Z)])[n]? =J (I τ ((0:N):Z)):=by rw[<-c4];simp
 have a7:((w3.setCell ⟨g,0,O⟩ (K (J ⟨d,0,O⟩) (n+1) cap2)).setCell ⟨g,1,O⟩ (I Q 8)).cell? ⟨d,n,O⟩=J (I τ ((0:N):Z)):=by
  have h1:=j.cells rfl n _ b5;rw[rH,rx] at h1;exact h1
 generalize(w3.setCell ⟨g,0,O⟩ (K (J ⟨d,0,O⟩) (n+1) cap2)).setCell ⟨g,1,O⟩ (I Q 8)=w4 at*;have z:=OR l;have A:=Lg l;have c8:w4.frozen? ⟨d,n,O⟩=false:=by obtain⟨e4,hg⟩:=CV j (b:=d) rfl;exact rp w4 d _ _ _ hg
 have a2:=Af l;have a0:=Af j;have c1:=Af a3;have e5:(0:Z)<=(n:Z):=Aa;have d3:(n:Z)<(n:Z)+1:=Aa;clear l j a3 c7 a6 c9 a8 q F V X s o c5 c6 b5;generalize b1:n+1=n1 at*;have e2:(n1:Z)- 1=(n:Z):=Aa;have e3:(n:Z)<(n1:Z):=Aa;have f1:IntKind.i64.wrap (n:Z)=(n:Z):=Av n Aa;clear d2 d3 b1;have a:w4.drew.cell? ⟨g,0,O⟩=J (K (J ⟨d,0,O⟩) n1 cap2)/\w4.drew.cell? ⟨g,1,O⟩=J (I Q 8)/\w4.drew.cell? ⟨d,n,O⟩=J (I τ 0):=⟨z,A,a7⟩;refine Ai (S:=λW=>W.cell? ⟨g,0,O⟩=J (K (J ⟨d,0,O⟩) n1 cap2)/\W.cell? ⟨g,1,O⟩=J (I Q 8)/\W.cell? ⟨d,n,O⟩=J (I τ 0)) (L:=22) Ab ?_;refine tk 0 23 (δ (J ⟨g,0,O⟩)) 21 a ?_;refine tk 1 23 (δ (J ⟨g,0,O⟩)) 22 a ?_;refine tk 2 23 (δ (J ⟨g,0,O⟩)) 23 a ?_;refine tk 3 23 (K (J ⟨d,0,O⟩) n1 cap2) 24 a ?_;refine tk 4 23 (δ (J ⟨g,0,O⟩)) 25 a ?_;refine tk 5 23 (δ (J ⟨g,0,O⟩)) 26 a ?_;refine tk 6 23 (δ (J ⟨g,0,O⟩)) 27 a ?_;refine tk 7 23 (K (J ⟨d,0,O⟩) n1 cap2) 28 a ?_;refine tk 8 23 (I Q n1) 29 a ?_;refine tk 9 23 (I Q n) 30 a ?_;refine tk 10 23 (δ (J ⟨d,n,O⟩)) 31 a ?_;refine tk 11 23 (I τ 0) 32 a ?_;refine tk 12 23 (I Q b) 33 a ?_;refine tk 13 23 (δ (J ⟨g,0,O⟩)) 34 a ?_;refine tk 14 23 (δ (J ⟨g,0,O⟩)) 35 a ?_;refine tk 15 23 (δ (J ⟨g,1,O⟩)) 36 a ?_;refine tk 16 23 (I Q 8) 37 a ?_;refine tk 17 23 (I Q 0) 38 a ?_;refine tk 18 23 (I Q b) 39 a ?_;refine tk 19 23 (I τ b) 40 a ?_;refine tk 20 23 (I τ b) 41 a ?_;refine tk 21 23 (δ (J ⟨d,n,O⟩)) 42 a ?_;refine Ah (i:=22) Ab ?_;refine ri rfl (λK' hK=> ?_);go_simp;refine hK _ _ ⟨λh=>κ rfl h, ?_⟩;clear hK;refine Am Ab ?_;have y:(w4.setCell ⟨d,n,O⟩ (I τ (b:Z))).drew.heap[g]? =J (γ (#[K (J ⟨d,0,O⟩) n1 cap2,I Q 8]++R) t (0,0)):=(vo _ _ _ _ (λe=>v e.symm)).trans (uh a2);have D:(w4.setCell ⟨d,n,O⟩ (I τ (b:Z))).drew.ownsRow 0 5 1 (K (J ⟨d,0,O⟩) n1 cap2) n1 ((xs++[Value.int τ ((0:N):Z)]).set n (I τ (b:Z))):=YY (uh a0);have a4:Ag S w (w4.setCell ⟨d,n,O⟩ (I τ (b:Z))).drew:=(c1.setCell (p:=⟨d,n,O⟩) (λ_=>a5) _).drew;generalize(w4.setCell ⟨d,n,O⟩ (I τ (b:Z))).drew=w5 at*;have d9:=Lg y;have e0:w5.frozen? ⟨g,1,O⟩=false:=rp w5 g 1 _ _ y;have c3:=Af y;have a1:=Af D;have c2:=Af a4;clear y D a4 a z A a7 c8;go_wp2_with fail;go_end0;refine⟨rfl,c2.setCell (p:=⟨g,1,O⟩) (λ_=>H) _,J ⟨d,0,O⟩,cap2, ?_, ?_,λb' c =>by injection c with c;subst c;exact a5⟩
 .rw[(uh m).1,qU,show([b]:E N).length=1 from rfl,m.2];exact Sn (uh c3) _
 rw[(uh m).1,uh b6];exact Co (uh a1) (Ap w5 g 1 _) (λb' c e=>by injection c with c;exact v (c.trans e))
open Go.RowKit Go.Maps Go.Proofs.Tryz
abbrev mA:ν:=264
def Jn(L:E N)(n:N):E N:=if n=0 then [] else BS L n
def CJ(w:U)(gs:N)(K:N->Prop)(L:E N):Prop:=
 ∃cur:φ β,w.heap[gs]? =J (γ cur mA (0,0))/\K gs/\(∀n,n<=15->cur[n]? =J (I Q (AJ L n:N)))/\
  ∀n,n<=15-> ∃ao cap,cur[16+n]? =J (.slice ao (Jn L n).length cap)/\∀j,j<(Jn L n).length-> ∃b,ao=J ⟨b,0,O⟩/\K b/\w.cell? ⟨b,j,O⟩=J (I Q ((Jn L n).getD j 0:N))
def Ag.oldS{S:N->Prop}{w w' :U}(h:Al w w'):Ag S w w' :=h.mono (λ_ _ x=>x.elim)
def Of{w:U}{b j:N}{v:β}(h:w.cell? ⟨b,j,O⟩=J v):b<w.heap.size:=by
 rcases sb b w.heap.size with hl|hl
 .exact hl
 have:w.cell? ⟨b,j,O⟩=none:=by simp[World.cell?,se hl]
 rw[this] at h;cases h
def CJ.kept{S:N->Prop}{w w' :U}{c:N}{d:N->Prop}{L:E N}(h:CJ w c d L)(l:Ag S w w')(m: ∀k,d k->¬S k):CJ w' c d L:=by
 obtain⟨e,g,i,s,v⟩:=h;refine⟨e,(l.block c (qW.1 g).1 (m c i)).trans g,i,s,λn u=> ?_⟩;obtain⟨ao,cap,o,q⟩:=v n u;refine⟨ao,cap,o,λj t=> ?_⟩;obtain⟨b,r,a,f⟩:=q j t;exact⟨b,r,a,(l.cell (p:=⟨b,j,O⟩) (Of f) (m b a)).trans f⟩
def CJ.old{w w' :U}{b:N}{a:N->Prop}{L:E N}(h:CJ w b a L)(c:Al w w'):CJ w' b a L:=h.kept c (λ_ _ x=>x)
def CJ.lt{w:U}{a:N}{b:N->Prop}{L:E N}(h:CJ w a b L):a<w.heap.size:=wC
def dZ(c:N)(C:N->Prop)(L:E N)(u:L.length<=400)(n v:N)(hn:1<=n)(a:n<=15)(hv:v<65536)(w:U)(h:CJ w c C L):
 μ prog 307 #[δ (J ⟨c,0,O⟩),.agg #[I Q v,I Q n]] w λr w' =>Al w w' /\
  ((AJ L n<=v/\v<AJ L n+(BS L n).length/\r=ε (η #[I Q ((BS L n).getD (v- AJ L n) 0:N),ζ θ]))\/(¬(AJ L n<=v/\v<AJ L n+(BS L n).length)/\r=ε (η #[I Q 0,ζ ι]))):=by
 have X:=h.lt;obtain⟨e,q,hk,y,z⟩:=h;have P:w.cell? ⟨c,n,O⟩=J (I Q (AJ L n:N)):=by rw[qV w c n e _ (0,0) q];exact y n a
 obtain⟨ao,cap,k,l⟩:=z n a;have j:Jn L n=BS L n:=rc Aa;rw[j] at k l;have S:w.cell? ⟨c,16+n,O⟩=J (K ao (BS L n).length cap):=by rw[qV w c (16+n) e _ (0,0) q];exact k
 have V:AJ L n<=52428800:=by
  have h3:=Kk L n;have hp:2^(n+1)<=2^16:=rG Aa Aa;have:2^(n+1)*L.length<=65536*400:=tY Aa u;omega
 have a2:(BS L n).length<=400:=rz (Ou L n) u;have A:=Af l;have a1:(n:Z)<16:=Aa;have a0:(0:Z)<=(n:Z):=Aa;clear q y z k l j;generalize D:AJ L n=f at*;generalize F:BS L n=R at*;have HOld:χ (Al w (w.alloc (γ #[I Q (v:Z),I Q (n:Z)] 260))):=(Ag.refl _ w).alloc _;clear D F;by_cases t:f<=v
 .by_cases s:v<f+R.length
  .obtain ⟨b,H,W,g⟩:=A (v- f) Aa;subst H;have M:=Of g;obtain⟨d,m⟩: ∃d,d=v- f:=⟨_,rfl⟩;rw[<-m] at g;have T:(v:Z)- (f:Z)=(d:Z):=Aa;have p:(d:Z)<(R.length:Z):=Aa;have i:¬(d:Z)<0:=Aa;have x:(0:Z)<=(d:Z):=Aa;have B:=Af m;clear m;go_in;go_wp2_with fail;go_quiet (fail);go_wp2_with fail;go_quiet (fail);go_wp2_with fail;go_quiet (fail);go_wp2;go_ret2;exact⟨((HOld.drewN _).drewN _).drewN _,.inl ⟨t,s,by rw[<-uh B];rfl⟩⟩
  have p:¬(v:Z)- (f:Z)<(R.length:Z):=Aa;have i:¬(v:Z)- (f:Z)<0:=Aa;have o:¬(v:Z)<(f:Z):=Aa;exact WK
 have i:(v:Z)- (f:Z)<0:=Aa;have o:(v:Z)<(f:Z):=Aa;exact WK
def Ub{s:Y}{L:E N}{n v a' :N}(a:n+1<=15)(d:a' <8*s.size)(b:AJ L (n+1)<=2*v+AU s a')(c:2*v+AU s a' <AJ L (n+1)+(BS L (n+1)).length):
 DM s L (15- n) v a' =J ((BS L (n+1)).getD (2*v+AU s a' - AJ L (n+1)) 0,a' +1):=by
 rw[show 15- n=(14- n)+1 by omega,DM,rd d,show 15- (14- n)=n+1 by omega,rd ⟨b,c⟩]
def Xn{s:Y}{L:E N}{n v a' :N}(a:n+1<=15)(b:a' <8*s.size)(h:¬(AJ L (n+1)<=2*v+AU s a' /\2*v+AU s a' <AJ L (n+1)+(BS L (n+1)).length)):
 DM s L (15- n) v a' =DM s L (15- (n+1)) (2*v+AU s a') (a' +1):=by
 rw[show 15- n=(14- n)+1 by omega,DM,rd b,show 15- (14- n)=n+1 by omega,rc h,show 15- (n+1)=14- n by omega]
def aG{s:Y}{L:E N}{n v a' :N}(a:n+1<=15)(b:¬a' <8*s.size):DM s L (15- n) v a' =none:=by
 rw[show 15- n=(14- n)+1 by omega,DM,rc b]
def OS(w:U)(cb v n:N):Prop:=w.heap[cb]? =J (γ #[I Q (v:N),I Q (n:N)] 260 (0,0))
def Sp(g:N)(s:Y)(hs:s.size<=140737488355328)(a:N)(o:β)(ha:a<=8*s.size)(gs:N)(a1:N->Prop)(b2:¬a1 g)(L:E N)(hL:L.length<=400)(w:U)(b3: ∀k,a1 k->k<w.heap.size)(h:Up w g s a o)(hS:CJ w gs a1 L):
 μ prog 239 #[δ (J ⟨g,0,O⟩),δ (J ⟨gs,0,O⟩)] w λr w' =>Ag (λk=>k=g) w w' /\∃a',a' <=8*s.size/\Up w' g s a' o/\
  ((∃y,dec s L a=J (y,a')/\r=ε (η #[I Q (y:N),ζ θ]))\/(dec s L a=O/\r=ε (η #[I Q 0,ζ ι]))):=by
 have c5:=h.lt;have W:χ (Up (w.alloc (γ #[I Q 0,I Q 0] 260)) g s a o):=h.kept ((Ag.refl (λ_=>False) w).alloc _) (λx=>x);have S:=Af (hS.old ((Ag.refl _ w).alloc (γ #[I Q 0,I Q 0] 260)));have q:χ (OS (w.alloc (γ #[I Q 0,I Q 0] 260)) w.heap.size 0 0):=rh w _;clear h hS;go_in;go_wp2;go_loopw [7,8,9,10] (λ_ _ _ _ wr=> ∃v n:N,n<=15/\v<32768/\wr.cell? ⟨w.heap.size,0,O⟩=J (I Q (v:N))/\wr.cell? ⟨w.heap.size,1,O⟩=J (I Q (n:N))/\χ (OS wr w.heap.size v n)/\χ (v<2^n)/\
  χ (CJ wr gs a1 L)/\χ (∃a',a' <=8*s.size/\Up wr g s a' o/\dec s L a=DM s L (15- n) v a')/\χ (Ag (λk=>k=g) w wr)) (λ_ _ _ _ wr=>15- JA wr w.heap.size 1)
 .exact ⟨0,0,Aa,Aa,by rw[qV _ _ 0 _ _ (0,0) (uh q)];rfl,by rw[qV _ _ 1 _ _ (0,0) (uh q)];rfl,q,xN,S,⟨a,ha,W,rfl⟩,(Ag.refl _ w).alloc _⟩
 obtain⟨v,n,hn,hv,b4,a2,z,a0,a9,A,HO⟩:=hrel;obtain⟨a',P,m,l⟩:=uh A;have b6:=rp wr w.heap.size 0 _ _ (uh z);have b7:=rp wr w.heap.size 1 _ _ (uh z);have HM:=Af (AP a2);by_cases c6:n<15
 .have a4:(n:Z)<15:=Aa;have a3:g≠w.heap.size:=Aa;by_cases t:a' <8*s.size
  .have HB:=Af (YS g s hs a' o t wr m);have c0:=FE s a';have hp:2^n<=2^14:=rG Aa Aa;have c7:v<16384:=by have:=uh a0;omega
   have b1:χ (2*v+AU s a' <2^(n+1)):=by have:=uh a0;unfold χ;rw[tV];omega
   have j:=Af l;have HF:=Af (Ub (s:=s) (L:=L) (v:=v) (show n+1<=15 by omega) t);have HN:=Af (Xn (s:=s) (L:=L) (v:=v) (show n+1<=15 by omega) t);have V:=Af (λw1 h1=>dZ gs a1 L hL (n+1) (2*v+AU s a') Aa Aa Aa w1 h1);rw[show((2*v+AU s a' :N):Z)=2*(v:Z)+(AU s a' :Z) by omega,show((n+1:N):Z)=(n:Z)+1 by omega] at V;generalize AU s a' =b at*;clear m l A;go_wp2_with fail;refine HB.mono ?_;rintro r w1 ⟨rfl,M,d⟩;have c:OS w1 w.heap.size v n:=(d.block w.heap.size (qW.1 (uh z)).1 Aa).trans (uh z);have c1:w1.cell? ⟨w.heap.size,0,O⟩=J (I Q (v:N)):=by rw[qV _ _ 0 _ _ (0,0) c];rfl
   have c2:w1.cell? ⟨w.heap.size,1,O⟩=J (I Q (n:N)):=by rw[qV _ _ 1 _ _ (0,0) c];rfl
   have c3:=rp w1 w.heap.size 0 _ _ c;have c4:=rp w1 w.heap.size 1 _ _ c;have H:OS ((w1.setCell ⟨w.heap.size,0,O⟩ (I Q (2*(v:Z)+(b:Z)))).setCell ⟨w.heap.size,1,O⟩ (I Q ((n:Z)+1))) w.heap.size (2*v+b) (n+1):=by
    have e1:=ru w1 w.heap.size 0 _ _ (I Q (2*(v:Z)+(b:Z))) c;have e2:=ru _ w.heap.size 1 _ _ (I Q ((n:Z)+1)) e1;exact e2
   have B:Ag (λk=>k=w.heap.size) w1 ((w1.setCell ⟨w.heap.size,0,O⟩ (I Q (2*(v:Z)+(b:Z)))).setCell ⟨w.heap.size,1,O⟩ (I Q ((n:Z)+1))):=((Ag.refl (λk=>k=w.heap.size) w1).setCell (p:=⟨w.heap.size,0,O⟩) (λ_=>rfl) _).setCell (p:=⟨w.heap.size,1,O⟩) (λ_=>rfl) _;have D:=Af ((a9.kept d (λk hk e=>b2 (e ▸ hk))).kept B (λk hk e=>by have:=b3 k hk;omega));have X:=Af (M.kept B a3);have a7:=Af ((HO.trans d).transNew B (λi hi e=>κ hi Aa));have C:=Af H;clear M d c H B HB b4 a2 b6 b7;go_wp2_with fail;generalize(w1.setCell ⟨w.heap.size,0,O⟩ (I Q (2*(v:Z)+(b:Z)))).setCell ⟨w.heap.size,1,O⟩ (I Q ((n:Z)+1))=w2 at*;refine(V _ (uh D)).mono ?_;rintro r w3 ⟨u,b5⟩;have F:=Af (X.kept u (λx=>x));have R:=Af (a7.trans (Ag.oldS u));have f:χ (OS w3 w.heap.size (2*v+b) (n+1)):=(u.block w.heap.size (qW.1 (uh C)).1 (λx=>x)).trans (uh C);have T:=Af (D.old u);clear u;rcases b5 with⟨k1,k2,rfl⟩|⟨k1,rfl⟩
   .go_wp2;go_ret2;exact⟨R,a' +1,Aa,F,.inl ⟨_,by rw[uh j];exact HF k1 k2,rfl⟩⟩
   go_wp2;go_roundw
   .exact ⟨2*v+b,n+1,Aa,Aa,by rw[qV _ _ 0 _ _ (0,0) (uh f)];rfl,by rw[qV _ _ 1 _ _ (0,0) (uh f)];rfl,f,b1,T,⟨a' +1,Aa,F,by rw[uh j];exact HN k1⟩,R⟩
   rw[uh HM,AP (show w3.cell? ⟨w.heap.size,1,O⟩=J (I Q ((n+1:N):Z)) by rw[qV _ _ 1 _ _ (0,0) (uh f)];rfl)];omega
  have HB:=Af (Tv g s hs a' o t P wr m);have j:=Af l;clear m l A;go_wp2_with (go_at_call 235;refine HB.mono ?_;rintro r w1 ⟨rfl,a5,d⟩;have a8:=Af a5;have a6:=Af d;clear a5 d);go_ret2;exact⟨HO.trans (uh a6),a',P,a8,.inr ⟨by rw[uh j];exact aG Aa t,rfl⟩⟩
 have a4:¬(n:Z)<15:=Aa;have b9:n=15:=Aa;have b0:=Af m;have j:=Af l;clear m l A;go_wp2;go_ret2;exact⟨HO,a',P,b0,.inr ⟨by rw[uh j,b9];rfl,rfl⟩⟩
def jo(g:N)(s:Y)(C:s.size<=140737488355328)(a:N)(o:β)(y:N)(z:a<=8*s.size)(w:U)(h:Up w g s a o):
 μ prog 240 #[δ (J ⟨g,0,O⟩),I Q y] w λr w' =>Ag (λk=>k=g) w w' /\∃a',a' <=8*s.size/\Up w' g s a' o/\
  ((257<=y/\y<=285/\a+AK y<=8*s.size/\a' =a+AK y/\r=ε (η #[I Q ((Bc y+Aq s a (AK y):N):Z),ζ θ]))\/
   (¬(257<=y/\y<=285/\a+AK y<=8*s.size)/\∃n:Z,r=ε (η #[I Q n,ζ ι]))):=by
 by_cases i:257<=y/\y<=285
 .have e:=Af (λw1=>KY y i.1 i.2 w1);have p:AK y<=5:=by unfold AK;repeat (first|split|omega)
  have A:=KX i.2;have l:=Af (EY g s C a o (AK y) Aa z w h);have B:=Cf s a (AK y);have hp:2^AK y<=2^5:=rG Aa p;have x:=Af i;clear h i;generalize q:AK y=bb at*;generalize Bc y=lb at*;clear q;go_in;go_wp2_with fail;refine(e _).mono ?_;rintro r w1 ⟨rfl,rfl⟩;go_wp2_with fail;refine l.mono ?_;rintro r w2 ⟨d,t⟩;rcases t with⟨u,rfl,c⟩|⟨u,rfl,c⟩
  .have b:=Af c;have f:=Af d;clear c d;generalize j:Aq s a bb=v at*;have m:=Af j;clear j;go_wp2;go_ret2;exact⟨f,a+bb,u,b,.inl ⟨x.1,x.2,u,rfl,by rw[sO,uh m];rfl⟩⟩
  have b:=Af c;have f:=Af d;clear c d;go_wp2;go_ret2;exact⟨f,8*s.size,rj _,b,.inr ⟨Aa,_,rfl⟩⟩
 have e:=Af (λw1=>VX y i w1);have b:=Af h;clear h;go_in;go_wp2_with fail;refine(e _).mono ?_;rintro r w1 ⟨rfl,rfl⟩;go_wp2;go_ret2;exact⟨Ag.refl _ _,a,z,b,.inr ⟨Aa,_,rfl⟩⟩
def KR(s:Y)(D:E N)(a:N):Option (N×N):=match dec s D a with
 |none=>O
 |some (d,a3)=>if 29<d then O else if 8*s.size<a3+AZ d then O else J (AV d+Aq s a3 (AZ d),a3+AZ d)
def aH(g:N)(s:Y)(V:s.size<=140737488355328)(a:N)(o:β)(X:a<=8*s.size)(L:N)(C:N->Prop)(M:¬C g)(D:E N)(W:D.length<=400)(w:U)(P: ∀k,C k->k<w.heap.size)(h:Up w g s a o)(T:CJ w L C D):
 μ prog 241 #[δ (J ⟨g,0,O⟩),δ (J ⟨L,0,O⟩)] w λr w' =>Ag (λk=>k=g) w w' /\∃a',a' <=8*s.size/\Up w' g s a' o/\
  ((∃f,f<=32769/\KR s D a=J (f,a')/\r=ε (η #[I Q (f:N),ζ θ]))\/(KR s D a=O/\∃n:Z,r=ε (η #[I Q n,ζ ι]))):=by
 have H:=Af (Sp g s V a o X L C M D W w P h T);clear h T;go_in;go_wp2_with fail;refine H.mono ?_;rintro r w1 ⟨c,a1,t,b,u⟩;rcases u with⟨d,x,rfl⟩|⟨x,rfl⟩
 .have e:=Af x;have R:d<400:=by have:=(FR x).2.2;omega
  clear x;by_cases q:29<d
  .have m:=Af (λw2=>dx d q w2);have j:=Af b;have i:=Af c;clear b c;go_wp2_with fail;refine(m _).mono ?_;rintro r w2 ⟨rfl,rfl⟩;go_wp2;go_ret2;exact⟨i,a1,t,j,.inr ⟨by unfold KR;rw[uh e];exact rd q,_,rfl⟩⟩
  have m:=Af (λw2=>OG d Aa w2);have a0:=dh (d:=d) Aa;have A:AZ d<=16:=by unfold AZ;split<;>omega
  have F:=Af (EY g s V a1 o (AZ d) A t w1 b);have a2:=Cf s a1 (AZ d);have y:χ (KR s D a=if 8*s.size<a1+AZ d then O else J (AV d+Aq s a1 (AZ d),a1+AZ d)):=by unfold χ KR;rw[uh e];exact rc q
  have i:=Af c;clear b c e;generalize AZ d=bb at*;generalize AV d=db at*;go_wp2_with fail;refine(m _).mono ?_;rintro r w2 ⟨rfl,rfl⟩;go_wp2_with fail;refine F.mono ?_;rintro r w3 ⟨B,u⟩;have z:=Af (i.trans B);clear B;rcases u with⟨S,rfl,l⟩|⟨S,rfl,l⟩
  .have p:=Af l;clear l;generalize Aq s a1 bb=v at*;go_wp2;go_ret2;exact⟨z,a1+bb,S,p,.inl ⟨db+v,Aa,by rw[uh y,rc Aa],by rw[sO];rfl⟩⟩
  have p:=Af l;clear l;go_wp2;go_ret2;exact⟨z,8*s.size,rj _,p,.inr ⟨by rw[uh y,rd S],_,rfl⟩⟩
 have j:=Af b;have i:=Af c;have e:=Af x;clear b c x;go_wp2;go_ret2;exact⟨i,a1,t,j,.inr ⟨by unfold KR;rw[uh e],_,rfl⟩⟩
section
variable {P:Program} {ops:φ Oper} {Q:Exit->Act->U->Prop} {md:Region.Mode} {S:U->Prop} {late:N->Bool}
def Eu(P:Program)(md:Region.Mode)(ops:φ Oper)(Q:Exit->Act->U->Prop)(S:U->Prop)(late:N->Bool):N->φ Bool->Act->U->Prop
 |0,ls,a,w=>Region.ready md ops ls=[]/\Q .normal a w
 |n+1,ls,a,w=>(Region.ready md ops ls=[]->Q .normal a w)/\∀i∈Region.ready md ops ls,wpOp P ops Q i (λa' w' =>(late i=ι->S w')/\Eu P md ops Q S late n (ls.setIfInBounds i θ) a' w') a w
def Uc(n:N): ∀(ls:φ Bool) (a:Act) (w:U),Eu P md ops Q S late n ls a w->wpAny P md ops Q n ls a w:=WL
def OT(md:Region.Mode)(ops:φ Oper)(late:N->Bool)(ls:φ Bool)(f i:N):Bool:=(List.range ops.size).all λj=> !late j||ls.getD j θ||GJ md ops (f+1) j i
def Xo{i f:N}{l:Oper}{v:β}(hi:ops[i]? =J l)(s:Region.noSelect ops=θ)
 (t: ∀c a w,Q (.panic c) (a.put l.dst v) w->Q (.panic c) a w)(n:N): ∀(ls:φ Bool) (a:Act) (w:U),(∀j,late j=θ->ls.getD j θ=ι->j≠i->GJ md ops (f+1) j i=θ)->Mr md ops ls->
  (∀j g,ops[j]? =J g->j≠i->ls.getD j θ=ι->(∀e∈g.after,Region.binds md e=θ->e.on≠i)->l.apart ops g=θ)->
  i∈Region.ready md ops ls->YieldsIf P ops S l v a->S w->
  Eu P md ops Q S late n (ls.setIfInBounds i θ) (a.put l.dst v) w->Eu P md ops Q S late (n+1) ls a w:=by
 induction n with
 |zero=>
  intro ls a w _ _ _ hr hy hS H;exact Ha
 |succ n ih=>
  intro ls a w r hcl hfree hr hy hS H;refine⟨λh=>κ (h ▸ hr) tC,λj hj=> ?_⟩;rcases Nat.decEq j i with hji|rfl
  .obtain ⟨hun,g,d,hall⟩:=vC.1 hj;have hi0:=(vC.1 hr).1;have hin:¬ls.getD i ι=true:=by
    intro h1;exact Ht
   have hnot: ∀e∈g.after,Region.binds md e=θ->e.on≠i:=λe he u p=>hin (by rw[<-p];exact hall e he u)
   have q:late j=false:=by
    rcases hlj:late j with _|_
    .rfl
    exfalso;have m:=r j hlj hun hji;rw[GJ,d] at m;obtain⟨e,he,h1⟩:=RU m;exact wh
   have h2:=wpOp_putIf d (hfree j g d hji hun hnot) (λo b=>tU s i l o b hi) (λo b=>tU s j g o b d) t hy (H.2 j (uB hj hji));refine xS (λa' w' h3=>⟨h3.2.1,ih (ls.setIfInBounds j θ) a' w' ?_ (OA hcl hj) ?_ (uB hr (Ne.symm hji)) h3.1 (h3.2.1 q) ?_⟩) h2
   .intro k hk hu hki;refine r k hk ?_ hki;by_cases hjk:j=k
    .subst hjk;exact hun
    rw[xO θ hjk] at hu;exact hu
   .exact zT
   exact aaH
  exact Wy
def aI{i:N}{g:Oper}{v:β}(t:ops[i]? =J g)(y:Region.noSelect ops=θ)(x:late i=θ)
 (A: ∀c a w,Q (.panic c) (a.put g.dst v) w->Q (.panic c) a w)(n:N): ∀(ls:φ Bool) (a:Act) (w:U),
  (∀j f,ops[j]? =J f->j≠i->ls.getD j θ=ι->(∀e∈f.after,Region.binds md e=θ->e.on≠i)->g.apart ops f=θ)->
  i∈Region.ready md ops ls->YieldsIf P ops (λ_=>True) g v a->
  Eu P md ops Q S late n (ls.setIfInBounds i θ) (a.put g.dst v) w->Eu P md ops Q S late (n+1) ls a w:=by
 have hno: ∀{w:U},late i=ι->S w:=λh=>by rw[x] at h;cases h
 induction n with
 |zero=>
  intro ls a w _ o q H;refine⟨λh=>κ (h ▸ o) tC,λj p=> ?_⟩;rcases Nat.decEq j i with hji|rfl
  .exact κ (H.1 ▸ uB p hji) tC
  exact q.wpOp t trivial ⟨hno,H⟩
 |succ n ih=>
  intro ls a w hfree o q H;refine⟨λh=>κ (h ▸ o) tC,λj p=> ?_⟩;rcases Nat.decEq j i with hji|rfl
  .obtain ⟨hun,f,d,l⟩:=vC.1 p;have hi0:=(vC.1 o).1;have u:¬ls.getD i ι=true:=by
    intro h1;exact Ht
   have m: ∀e∈f.after,Region.binds md e=θ->e.on≠i:=λe C B s=>u (by rw[<-s];exact l e C B)
   have z:=wpOp_putIf d (hfree j f d hji hun m) (λr b=>tU y i g r b t) (λr b=>tU y j f r b d) A q (H.2 j (uB p hji));refine xS (λa' w' h3=>⟨h3.2.1,ih (ls.setIfInBounds j θ) a' w' ?_ (uB o (Ne.symm hji)) h3.1 ?_⟩) z
   .exact zT
   exact aaH
  exact q.wpOp t trivial ⟨hno,H⟩
def jp{c:φ Bool}{f i:N}(h:OT md ops late c f i=θ)(g:c.size=ops.size): ∀j,late j=θ->c.getD j θ=ι->j≠i->GJ md ops (f+1) j i=true:=by
 intro j e b _;have a:j<ops.size:=by
  rcases sb j ops.size with h|h
  .exact h
  rw[uk,se Aa] at b;cases b
 have d:=rV.1 h j (rJ.2 a);rw[e,b] at d;simpa using d
def Ud{i f:N}{j:Oper}{v:β}{n:N}{b:φ Bool}{a:Act}{w:U}(d:Option Tmp)(k:ops[i]? =J j)(o:j.dst=d)
 (r:Region.noSelect ops=θ)(e:(OT md ops late b f i&&decide (b.size=ops.size))=θ)(g:LC md ops b=θ)(p:Region.free md ops b i=θ)(q:(Region.ready md ops b).contains i=θ)
 (l: ∀c a w,Q (.panic c) (a.put d v) w->Q (.panic c) a w)(s:YieldsIf P ops S j v a)(m:S w)
 (h:Eu P md ops Q S late n (b.setIfInBounds i θ) (a.put d v) w):Eu P md ops Q S late (n+1) b a w:=by
 subst o;simp only[rX,sN] at e;exact Xo k r l n b a w (jp e.1 e.2) (QD g) (xA k p) (by simpa using q) s m h
def Bo{i:N}{f:Oper}{v:β}{n:N}{b:φ Bool}{a:Act}{w:U}(d:Option Tmp)(g:ops[i]? =J f)(k:f.dst=d)
 (o:Region.noSelect ops=θ)(e:late i=θ)(l:Region.free md ops b i=θ)(m:(Region.ready md ops b).contains i=θ)
 (j: ∀c a w,Q (.panic c) (a.put d v) w->Q (.panic c) a w)(p:YieldsIf P ops (λ_=>True) f v a)
 (h:Eu P md ops Q S late n (b.setIfInBounds i θ) (a.put d v) w):Eu P md ops Q S late (n+1) b a w:=by
 subst k;exact aI g o e j n b a w (xA g l) (by simpa using m) p h
def AY{i:N}{n:N}{b:φ Bool}{a:Act}{w:U}(hr:Region.ready md ops b=[i])
 (h:wpOp P ops Q i (λa' w' =>(late i=ι->S w')/\Eu P md ops Q S late n (b.setIfInBounds i θ) a' w') a w):Eu P md ops Q S late (n+1) b a w:=wV
def EM{b:φ Bool}{a:Act}{w:U}(c:Region.ready md ops b=[])(h:Q .normal a w):Eu P md ops Q S late 0 b a w:=⟨c,h⟩
def DY{c:N}{a:Act}{w:U}(b:P.follows .mixedOrders=θ)
 (h:Eu P .any ops Q S late ops.size (Array.replicate ops.size ι) a w.drew):(Code.region c ops θ).wp P Q a w:=
 wp_region_any b (Uc _ _ _ _ h)
end
theorem tg{P:Program}{ops:Array Oper}{Q:Exit→Act→World→Prop}{md:Region.Mode}{S:World→Prop}{late:Nat→Bool}(i f:Nat)(v:Value)(k:Nat){oi:Oper}{n:Nat}{ls:Array Bool}{a:Act}{w:World}{q:Prop}(hS:S w)(g:q)(hi:ops[i]? =some oi:=by rfl)(hd:oi.dst=some k:=by rfl)(hs:Region.noSelect ops=true:=by kernel_rfl)(hL:(OT md ops late ls f i&&decide (ls.size=ops.size))=true:=by kernel_rfl)(hcl:LC md ops ls=true:=by kernel_rfl)(hf:Region.free md ops ls i=true:=by kernel_rfl)(hr:(Region.ready md ops ls).contains i=true:=by kernel_rfl)(hQ: ∀c a w,Q (.panic c) (a.put (some k) v) w→Q (.panic c) a w:=by exact fun _ _ _ h=>h)(hy:YieldsIf P ops S oi v a:=by exact .inl ⟨rfl,fun W hW=>by (repeat obtain ⟨_,hW⟩:=hW);go_simp⟩)(h:q→Eu P md ops Q S late n (ls.setIfInBounds i true) (a.put (some k) v) w:=by intro g;simp only[Act.put,List.setIfInBounds_toArray,List.set_cons_zero,List.set_cons_succ];exact g):Eu P md ops Q S late (n+1) ls a w:=
 Ud (some k) hi hd hs hL hcl hf hr hQ hy hS (h g)
def Jo{w:U}{v:β}{n:N}{e:E β}(h:w.ownsRow 0 5 1 v n e){b:N}(d:v.ownBlock=J b){g:N}{s:Y}{a:N}{o:β}(hr:Up w g s a o):b≠g:=by
 rintro rfl;obtain⟨c,hg⟩:=CV h d;exact We
def Lu(w:U)(g:N)(S:N->Prop)(s:Y)(a:N)(l:E υ):Prop:=
 ∃ao cap,Up w g s a (K ao l.length cap)/\w.ownsRow 0 5 1 (K ao l.length cap) l.length (Ak l)/\∀b:Addr,ao=J b->S b.block
def Lu.next{w w' :U}{g:N}{S:N->Prop}{s:Y}{a a' :N}{l:E υ}{ao:Option Addr}{cap:N}(h:Up w g s a (K ao l.length cap))
 (d:w.ownsRow 0 5 1 (K ao l.length cap) l.length (Ak l))(i: ∀b:Addr,ao=J b->S b.block)(e:Ag (λk=>k=g) w w')(c :Up w' g s a' (K ao l.length cap)):Lu w' g S s a' l:=
 ⟨ao,cap,c,Co d e (λ_ f=>Jo d f h),i⟩
def Lu.push{w w1 w3:U}{g:N}{S:N->Prop}(i:S g){s:Y}{a:N}{l:E υ}{ao:Option Addr}{cap g2 cap2 c H:N}(r:c<256)(q:S H)
 (o: ∀b:Addr,ao=J b->S b.block)(h:Ag S w w1)(d:Up w1 g s a (K ao l.length cap))(m:w1.ownsRow 0 5 1 (K ao l.length cap) l.length (Ak l))
 (ho3:w3.ownsRow 0 5 1 (K (J ⟨g2,0,O⟩) (l.length+1) cap2) (l.length+1) (Ak l++[I τ (c:Z)]))(e:w1.grownBy w3 (Value.slice ao l.length cap).ownBlock)(j:(Value.slice ao l.length cap).ownBlock=J g2\/g2=H):
 Up w3 g s a (K ao l.length cap)/\Ag S w (w3.setCell ⟨g,2,O⟩ (K (J ⟨g2,0,O⟩) (l.length+1) cap2))/\Lu (w3.setCell ⟨g,2,O⟩ (K (J ⟨g2,0,O⟩) (l.length+1) cap2)) g S s a (l++[b8 c]):=by
 have hup3:Up w3 g s a (K ao l.length cap):=(e.block g d.lt (λt=>Jo m t.symm d rfl)).trans d;have n:Ag S w w3:=h.grown e (λk _ f=>by
  cases ao with
  |none=>cases f
  |some b=>injection f with f;subst f;exact o b rfl)
 have hl4:(l++[b8 c]).length=l.length+1:=Ad;refine⟨hup3,n.setCell (p:=⟨g,2,O⟩) (λ_=>i) _,J ⟨g2,0,O⟩,cap2, ?_, ?_, ?_⟩
 .rw[hl4];exact hup3.set2 _
 .have e2:Ak (l++[b8 c])=Ak l++[I τ (c:Z)]:=by simp only[Ak,sv,sP,tB];rw[AL r]
  exact aaM
 intro b hb;injection hb with hb;subst hb;rcases j with h5|h5
 .cases ao with
  |none=>cases h5
  |some b=>injection h5 with h5;rw[<-h5];exact o b rfl
 show S g2;rw[h5];exact q
def oZ(g:N)(S:N->Prop)(b3:S g)(s:Y)(a:N)(l:E υ)(n d:N)(d0:1<=d)(d1:d<=l.length)(d7:l.length+n<=20000)(w:U)(hF:Bs S w)(h:Lu w g S s a l):
 μ prog 242 #[δ (J ⟨g,0,O⟩),I Q n,I Q d] w λr w' =>r=ε (η #[])/\Ag S w w' /\Lu w' g S s a (BN l d n):=by
 obtain⟨i0,b5,c4,c5,c6⟩:=rN FU;have o:=Af h;clear h;go_in;go_wp2;go_loopw [7] (λi wr=> ∃j:N,j<=n/\i=I Q j/\χ (Lu wr g S s a (BN l d j))/\χ (Ag S w wr)) (λi _=>n- (intOf i).toNat)
 .exact ⟨0,Aa,rfl,o,Ag.refl _ w⟩
 obtain⟨j,hj,rfl,o,HO⟩:=hrel;by_cases d2:j<n
 .have b6:(j:Z)<(n:Z):=Aa;obtain⟨ao,D,hr,B,a6⟩:=uh o;have M:=hr.c2;have c1:=Kl l d j;obtain⟨b,c9,c3,_,_⟩:=B.form Aa;injection c3 with hv1 hv2 hv3;subst hv1 hv3;have b0:χ (BN l d (j+1)=BN l d j++[(BN l d j).getD ((BN l d j).length- d) 0]):=Af rfl;have t:=OB B (k:=(BN l d j).length- d) Aa;have b4:=FC ((BN l d j).getD ((BN l d j).length- d) 0);have a7:=Af (QE ((BN l d j).getD ((BN l d j).length- d) 0));have c0:d<=(BN l d j).length:=Aa;have b9:(BN l d j).length<=20300:=Aa;have HR:=Af hr;have R:=Af B;have b1:=Af a6;clear c1 hr B a6 o hv2;generalize BN l d j=lj at*;generalize lj.getD (lj.length- d) 0=cb at*;generalize X:cb.toNat=c at*;generalize a4 :lj.length=nl at M t c0 b9;have a8:=Af a4;have c8:=Af X;clear X;obtain⟨m,a2⟩: ∃m,m=nl- d:=⟨_,rfl⟩;rw[<-a2] at t;have d5:(nl:Z)- (d:Z)=(m:Z):=Aa;have d3:(0:Z)<=(m:Z):=Aa;have d4:(m:Z)<(nl:Z):=Aa;have d6:IntKind.i64.wrap (m:Z)=(m:Z):=Av m Aa;clear a2;have e:wr.drew.cell? ⟨g,2,O⟩=J (K (J ⟨b,0,O⟩) nl D)/\wr.drew.cell? ⟨b,m,O⟩=J (I τ c):=⟨M,t⟩;go_upto_region 2 with fail;refine DY (S:=λW=>W.cell? ⟨g,2,O⟩=J (K (J ⟨b,0,O⟩) nl D)/\W.cell? ⟨b,m,O⟩=J (I τ c)) (late:=λi=>i==0||decide (19<=i)) Ab ?_;refine Bo (i:=0) (v:=δ (J ⟨g,0,O⟩)) (J 9) rfl rfl Ab rfl Ab Ab (λ_ _ _ h=>h) (.inl ⟨rfl,λW _=>by go_simp⟩) ?_;simp only[Act.put,rk,rA,rB];refine tg 1 22 (δ (J ⟨g,0,O⟩)) 10 e ?_;refine tg 2 22 (δ (J ⟨g,0,O⟩)) 11 e ?_;refine tg 3 22 (δ (J ⟨g,2,O⟩)) 12 e ?_;refine tg 4 22 (K (J ⟨b,0,O⟩) nl D) 13 e ?_;refine tg 5 22 (δ (J ⟨g,0,O⟩)) 14 e ?_;refine tg 6 22 (δ (J ⟨g,0,O⟩)) 15 e ?_;refine tg 7 22 (δ (J ⟨g,2,O⟩)) 16 e ?_;refine tg 8 22 (K (J ⟨b,0,O⟩) nl D) 17 e ?_;refine tg 9 22 (δ (J ⟨g,0,O⟩)) 18 e ?_;refine tg 10 22 (δ (J ⟨g,0,O⟩)) 19 e ?_;refine tg 11 22 (δ (J ⟨g,2,O⟩)) 20 e ?_;refine tg 12 22 (K (J ⟨b,0,O⟩) nl D) 21 e ?_;refine tg 13 22 (I Q nl) 22 e ?_;refine tg 14 22 (I Q d) 23 e ?_;refine tg 15 22 (I Q m) 24 e ?_;refine tg 16 22 (δ (J ⟨b,m,O⟩)) 25 e ?_;refine tg 17 22 (I τ c) 26 e ?_;have V:Ag (λ_=>False) wr (wr.drew.alloc (γ #[I τ (c:Z)] 5)):=(Ag.refl (λ_=>False) wr).drew.alloc _;have T:=Af (HR.kept V (λx=>x));have C:=Af (CL (uh R) V);have a9:=Af (Fm (wr:=wr.drew) (n:=c));have b2:(wr.drew.alloc (γ #[I τ (c:Z)] 5)).cell? ⟨g,2,O⟩=J (K (J ⟨b,0,O⟩) nl D)/\(wr.drew.alloc (γ #[I τ (c:Z)] 5)).cell? ⟨b,m,O⟩=J (I τ c):=⟨(V.cell (p:=⟨g,2,O⟩) HR.lt (λx=>x)).trans M,(V.cell (p:=⟨b,m,O⟩) (Of t) (λx=>x)).trans t⟩;have P:=Af (HO.trans (Ag.oldS (S:=S) V));refine AY (i:=18) Ab ?_;refine ri rfl (λK' q=> ?_);go_simp;refine q _ _ ⟨λ_=>b2, ?_⟩;clear q;refine AY (i:=19) Ab ?_;have f:=uh a8;have y:=uh C;rw[f] at y;refine CW rfl rfl (wp_append_lies _ (.tmp 13) (.tmp 27) 62 rfl 0 5 i0 (I τ 0) 1 1 underlying62 b5 c4 c5 c6 rfl Aa (K (J ⟨b,0,O⟩) nl D) nl _ rfl y ⟨wr.heap.size,0,O⟩ 1 1 [I τ (c:Z)] rfl rfl (uh a9) (by intro u hu;simp at hu;subst hu;rfl) Aa (by unfold maxLen;omega) Aa Aa _ rfl ?_);intro g2 cap2 w3 a5 a1 a3 c7;have H:=uh T;obtain⟨A,L,z⟩:=Lu.push (w:=w) (w1:=wr.drew.alloc (γ #[I τ (c:Z)] 5)) (w3:=w3) (S:=S) b3 (l:=lj) (ao:=J ⟨b,0,O⟩) (cap:=D) (g2:=g2) (cap2:=cap2) (c:=c) b4 (hF _ (by have:=P.size;exact this)) (uh b1) (uh P) H (uh C) (by rw[f];exact a5) (by rw[f];exact a1) (by rw[f];exact a3);have F:=A.c2;have a0:=A.thaw 2;rw[f] at F L z;refine⟨(λh=>by cases h), ?_⟩;clear a5 a1 a3 H y;simp only[Act.put,rk];refine AY (i:=20) Ab ?_;refine ri rfl (λK' q=> ?_);go_simp;refine q _ _ ⟨(λh=>by cases h), ?_⟩;clear q;refine AY (i:=21) Ab ?_;refine ri rfl (λK' q=> ?_);go_simp;refine q _ _ ⟨(λh=>by cases h), ?_⟩;clear q;refine AY (i:=22) Ab ?_;refine ri rfl (λK' q=> ?_);go_simp;refine q _ _ ⟨(λh=>by cases h), ?_⟩;clear q;refine EM Ab ?_;have HO5:=Af L;have HST5:χ (Lu (w3.setCell ⟨g,2,O⟩ (K (J ⟨g2,0,O⟩) (nl+1) cap2)) g S s a (BN l d (j+1))):=by
   have:=z;rw[uh a7,<-uh b0] at this;exact this
  clear L z A F a0;exact aaA
 have b6:¬(j:Z)<(n:Z):=Aa;have b7:j=n:=Aa;subst b7;go_wp2_with fail;go_end0;exact⟨rfl,HO,o⟩
def BV(kf:N->N)(x:E8)(p:Y):N->E8
 |0=>x
 |m+1=>Ni kf (BV kf x p m) (p.extract (64*m) (64*m+64))
def LJ{b:N->N}{x:E8}(a:x.ok)(p:Y)(m:N):(BV b x p m).ok:=by
 cases m with
 |zero=>exact a
 |succ m=>exact E8.plus_ok _ _
def AQ{w w' :U}(h:Al w w'){g:N}{o:Obj}(a:w.heap[g]? =J o):w'.heap[g]? =J o:=
 (h.block g (qW.1 a).1 (λx=>x)).trans a
def IP(w:U)(g:N)(a:φ β):Ag (λk=>k=g) w (w.setRow g a):=(Ag.refl (λk=>k=g) w).setRow g (λ_=>rfl) a
def eb(x:E8):(EE x).all (·.oneCell')=true:=lu _ _ _ _ _ _ _ _
def lA{w:U}{g:N}{x:E8}(h:w.heap[g]? =J (γ (EE x) 181 (0,0))):(loadVar 181 ⟨g,0,O⟩).run prog w=.ok (.agg (EE x)) w:=
 vR w g _ _ _ _ _ h underlying181 rfl Iv
def Xp{w:U}{g:N}{f:N->N}(h:w.heap[g]? =J (γ (Cn f) 247 (0,0))):(loadVar 247 ⟨g,0,O⟩).run prog w=.ok (.agg (Cn f)) w:=
 vR w g _ _ _ _ _ h underlying247 rfl (by rw[Cn,Bi];exact Oc)
def Kq{o:Oper}{a:Act}{w:U}{b:Act->U->Prop}{Q:Exit->Act->U->Prop}(x y:Operand)(e:o.op=.store 181 x y)(c:o.dst=O)(g:N)(z:E8)
 (f:a.eval x=δ (J ⟨g,0,O⟩))(i:a.eval y=.agg (EE z)){j:E8}(d:w.heap[g]? =J (γ (EE j) 181 (0,0)))
 (h:b a (w.setRow g (EE z))):o.wp prog a w b Q:=
 xF _ x y e g (EE z) f i _ _ d (by rw[EE,Bi];exact Iv) (by rw[EE,EE,Bi,Bi]) (eb z) (by rw[c];exact h)
def OU(x:E8)(hx:x.ok)(a:N->N)(hk: ∀t,a t<4294967296)(s:Y)(hs:s.size%64=0)(hl:s.size<=140737488355328)(w:U):
 μ prog 223 #[.agg (EE x),.agg (Cn a),G s] w λe w' =>e=ε (.agg (EE (BV a x s (s.size/64))))/\Al w w' :=by
 have HS:=Af hs;clear hs;go_in;go_wp2;go_loopw [7] (λi wr=> ∃m k:N,k<=s.size/\i=I Q k/\χ (k=64*m)/\χ (wr.heap[w.heap.size]? =J (γ (EE (BV a x s m)) 181 (0,0)))/\χ (wr.heap[w.heap.size+1]? =J (γ (Cn a) 247 (0,0)))/\χ (wr.heap[w.heap.size+2]? =J (γ (EE ⟨0,0,0,0,0,0,0,0⟩) 181 (0,0)))/\χ (Al w wr)) (λi _=>s.size- (intOf i).toNat)
 .exact ⟨0,0,Aa,rfl,rfl,((ES.mk' (n:=8) (f:=λj=> I .u32 (x.nth j)) rfl rfl).alloc _).alloc _,(ES.mk' (n:=64) (f:=λj=> I .u32 (a j)) Ad rfl).alloc _,ES.mk' (n:=8) (f:=λj=> I .u32 (E8.nth ⟨0,0,0,0,0,0,0,0⟩ j)) Ad rfl,(((Ag.refl _ w).alloc _).alloc _).alloc _⟩
 obtain⟨m,k,a0,rfl,c,b,d,X,HO⟩:=hrel;by_cases a1:k<s.size
 .have H:k+64<=s.size:=by have:=uh c;have:=uh HS;omega
  have F:(s.extract k (k+64)).size=64:=by rw[rv];omega
  have u:=Af (λw1=>Xl (s.extract k (k+64)) F w1);have g:=Af (λw1=>Sj (BV a x s m) (LJ hx s m) a (wt (s.extract k (k+64))) hk (KK _) w1);generalize hy:BV a x s m=y at b g;have HY:=Af hy;clear hy;have p:χ (Ni a y (s.extract k (k+64))=(Cd a (wt (s.extract k (k+64))) 64 y).plus y):=by unfold χ;rw[Ni]
  generalize wt (s.extract k (k+64))=wf at u g p;generalize(Cd a wf 64 y).plus y=z at g p;have h1:(k:Z)+64<=(s.size:Z):=Aa;have h2:(0:Z)<=(k:Z):=Aa;have h3:(k:Z)<=(k:Z)+64:=Aa;have h4:((k:Z)+64).toNat=k+64:=Aa;have a2:IntKind.i64.wrap ((k:Z)+64)=(k:Z)+64:=by rw[sx];omega
  clear F;go_upto_region 4 with fail;refine Ai (S:=λW=>W.heap[w.heap.size]? =J (γ (EE y) 181 (0,0))/\W.heap[w.heap.size+1]? =J (γ (Cn a) 247 (0,0))) (L:=9) Ab ?_;refine AH (i:=0) (v:=.agg (EE y)) (J 14) rfl rfl Ab Ab Ab Ab (λ_ _ _ h=>h) (Gv rfl _ _ rfl ⟨w.heap.size,0,O⟩ rfl _ (λW T=>lA T.1)) ⟨b,d⟩ ?_;simp only[Act.put,rk,rA,rB];refine AH (i:=1) (v:=.agg (Cn a)) (J 15) rfl rfl Ab Ab Ab Ab (λ_ _ _ h=>h) (Gv rfl _ _ rfl ⟨w.heap.size+1,0,O⟩ rfl _ (λW T=>Xp T.2)) ⟨b,d⟩ ?_;simp only[Act.put,rk,rA,rB];refine AH (i:=2) (v:=G s) (J 16) rfl rfl Ab Ab Ab Ab (λ_ _ _ h=>h) (.inl ⟨rfl,λW _=>by go_simp⟩) ⟨b,d⟩ ?_;simp only[Act.put,rk,rA,rB];refine AH (i:=3) (v:=I Q k) (J 17) rfl rfl Ab Ab Ab Ab (λ_ _ _ h=>h) (.inl ⟨rfl,λW _=>by go_simp⟩) ⟨b,d⟩ ?_;simp only[Act.put,rk,rA,rB];refine AH (i:=4) (v:=I Q k) (J 18) rfl rfl Ab Ab Ab Ab (λ_ _ _ h=>h) (.inl ⟨rfl,λW _=>by go_simp⟩) ⟨b,d⟩ ?_;simp only[Act.put,rk,rA,rB];refine AH (i:=5) (v:=I Q (k+64)) (J 19) rfl rfl Ab Ab Ab Ab (λ_ _ _ h=>h) (.inl ⟨rfl,λW _=>by go_simp⟩) ⟨b,d⟩ ?_;simp only[Act.put,rk,rA,rB];refine AH (i:=6) (v:=G (s.extract k (k+64))) (J 20) rfl rfl Ab Ab Ab Ab (λ_ _ _ h=>h) (.inl ⟨rfl,λW _=>by go_simp⟩) ⟨b,d⟩ ?_;simp only[Act.put,rk,rA,rB];refine Ah (i:=7) Ab ?_;refine ri rfl (λK' A=> ?_);go_simp;refine(u _).mono ?_;rintro e w5 ⟨rfl,l⟩;have B:=AQ l (uh b);have C:=AQ l (uh d);have V:=AQ l (uh X);have P:χ (Al w w5):=Ag.trans HO.drew l;refine A _ _ ⟨λ_=>⟨B,C⟩, ?_⟩;clear A;refine Ah (i:=8) Ab ?_;refine ri rfl (λK' A=> ?_);go_simp;refine(g _).mono ?_;rintro e M ⟨rfl,o⟩;have q:=AQ o B;have r:=AQ o C;have D:=AQ o V;have R:χ (Al w M):=Ag.trans (uh P) o;refine A _ _ ⟨λ_=>⟨q,r⟩, ?_⟩;clear A;refine Ah (i:=9) Ab ?_;refine CW rfl rfl (Kq (.tmp 3) (.tmp 22) rfl rfl w.heap.size z rfl rfl q ?_);refine⟨λh=>κ rfl h,Am Ab ?_⟩;go_wp2;go_roundw
  .refine ⟨m+1,k+64,H,by go_num,(show k+64=64*(m+1) by have:=uh c;omega), ?_, ?_, ?_,R.setRow _ (λh=>κ h (st _)) _⟩
   .have e:BV a x s (m+1)=z:=(by rw[BV,uh HY,<-uh c];exact p);rw[e];exact sw M w.heap.size _ _ _ _ q
   .exact ((IP M w.heap.size _).block _ (qW.1 r).1 Aa).trans r
   exact((IP M w.heap.size _).block _ (qW.1 D).1 Aa).trans D
  exact Ae
 have hm:s.size/64=m:=by have:=uh c;omega
 have HX:χ (BV a x s (s.size/64)=BV a x s m):=Af (by rw[hm]);have ha:=uh b;have hc:=uh X;clear hm c d;generalize BV a x s m=y at ha b HX;go_wp2_with (first
  |(refine uC rfl 181 (.tmp 3) rfl w.heap.size rfl 181 (EE y) (0,0) _ ha underlying181 rfl Iv ?_)
  |(refine sF rfl 181 (.tmp 6) (.tmp 23) rfl (w.heap.size+2) (EE y) rfl rfl 181 _ hc Iv (by rw[EE,EE,Bi,Bi]) (eb y) ?_))
 refine rU (v:=.agg (EE y)) (tO results223 _ _ (w.heap.size+2) 181 (EE y) (0,0) _ rfl (sw wr (w.heap.size+2) _ (EE y) _ _ hc) underlying181 rfl Iv) rfl ⟨?_, ?_⟩
 .rw[uh HX]
 exact HO.setRow _ (λh=>κ h Aa) _
