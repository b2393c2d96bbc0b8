import Derived.Test.YtndfmgdhiallpaaGreatDoorVbc
set_option linter.all false
set_option maxRecDepth 100000
set_option maxHeartbeats 8000000
open _root_ renaming Option.some->J,Option.none->O,Int->Z,Nat->N,Go.Value.int->I,Go.Value.string->G,Go.IntKind.i64->Q,ByteArray->Y,List->E,Go.World->U,Go.Value.slice->K,Go.Value->β,Go.Obj.cells->γ,Go.Value.pointer->δ,Go.Ending.returned->ε,Bool.true->θ,Go.Calls->μ,Go.RowKit.Hid->χ,Go.Proofs.Tryz.prog->ψ,Go.Result.ok->ω
namespace Go.Proofs.YtndfmgdhiallpaaGreatDoor
open Go.RowKit Go.Maps Go.Proofs.Tryz
def PG(s v:Y)(hs:s.size<=2000000)(hv:v.size<=2000000)(w:U):μ ψ 118 #[G s,G v] w λr w' =>r=ε (.bool (FM s v).isSome)/\Al w w' :=by
 have H1:=Af (UO s w);have A:χ (Pw s=θ->0<(BL s).size):=fX;rw[kC] at H1 A;have t:χ ((FM s v).isSome=((Gs v).isSome&&Lk s&&KG s (Qn (Gs v)))):=by
  unfold χ FM;cases(Gs v).isSome&&Lk s&&KG s (Qn (Gs v))<;>rfl
 have B:χ (Lib.hasPrefix v.data.toList sV.data.toList=false->Gs v=O):=λh=>by rw[Gs,h];rfl
 have a:χ (Lib.hasPrefix v.data.toList sV.data.toList=θ->Gs v=if Yb v&& !KE (Kb v) then O else if(Cw (DA v)).length=3/\(Cw (DA v)).all DK=θ then J ((Cw (DA v)).getD 0 ⟨#[]⟩) else O):=λh=>by rw[Gs,h];rfl
 generalize(FM s v).isSome=ans at*;cases hmd:Lk s with
 |false=>
  have hans:ans=false:=by rw[uh t,hmd];simp
  rw[hmd] at H1;subst hans;clear t B a A;exact Hn
 |true=>
  have hlp:=A hmd;rw[hmd] at H1 t;have X:v.toList.isEmpty= !decide (0<v.size):=CY v;by_cases c5:v.size=0
  .have f1:v.toList.isEmpty=true:=by rw[X,qX (show ¬0<v.size by omega)];rfl
   have S:Lib.hasPrefix v.data.toList sV.data.toList=false:=by
    rw[uT];intro h;have:=(Zm.1 h).1;have e:sV.size=1:=rfl;omega
   have hans:ans=false:=by rw[uh t,B S];rfl
   subst hans;clear t B a A X S;exact Hn
  have f1:v.toList.isEmpty=false:=by rw[X,qZ (show 0<v.size by omega)];rfl
  have c0:=AC (s:=v) (k:=0) Aa;have c6:(0:Z)<(v.size:Z):=Aa;have u:Lib.hasPrefix v.data.toList sV.data.toList=decide (As v 0=118):=Ok c5 118;clear X;by_cases o:As v 0=118
  .rw[o] at c0;have hpt:Lib.hasPrefix v.data.toList sV.data.toList=true:=by rw[u];exact qZ o
   have m:=Af (a hpt);have hsl: ∀W,(Instr.slice 9 (G v) (J (I Q ((1:N):Z))) O O).run ψ W=ω (G (v.extract 1 v.size)) W:=λW=>sT W 9 v underlying9 .i64 1 Aa Aa
   have hsl1: ∀W,(Instr.slice 9 (G v) (J (I Q 1)) O O).run ψ W=ω (G (v.extract 1 v.size)) W:=hsl;rw[<-Mc hpt] at hsl1;have c8:=SN v;have d0:=Ma v;have a2:=Af (Rt v);have a1:=Af (λW=>nF (Kb v) (by have:=Zq v;omega) W);have V:χ (∀x∈Ay (DA v) 46,x.size<=2000000):=λx hx=>by have:=GU hx;omega
   rw[<-UP _ (DA v) (rj _)] at m;clear hsl u hpt B a A o;rcases uh a2 with⟨hB,hN,b1⟩|⟨i0,c7,a0,a8,hB,hN,a7⟩
   .have n:χ (¬((Ay (DA v) 46).length=3/\(Ay (DA v) 46).all DK=θ)->ans=false):=λh=>by rw[uh t,uh m,hB,rc Ad,rc h];rfl
    have b:χ (((Ay (DA v) 46).length=3/\(Ay (DA v) 46).all DK=θ)->ans=KG s ((Ay (DA v) 46).getD 0 ⟨#[]⟩)):=λh=>by rw[uh t,uh m,hB,rc Ad,rd h];rfl
    have a6:=Af b1;rw[<-hN] at hsl1 a6;clear a2 m t hB hN b1 a1;generalize DA v=f at*;go_in;go_wp2_with fail;refine H1.mono ?_;rintro e w1 ⟨rfl,ho1⟩;have HO1:=Af ho1;clear ho1 H1;go_wp2_with fail;go_loop [5,6,7] (λ_ y x=> ∃i:N,i<=f.size/\y=G f/\x=I Q i) (λ_ _ x=>f.size- (intOf x).toNat)
    .exact ⟨0,Aa,rfl,rfl⟩
    obtain⟨i,hi,rfl,rfl⟩:=hrel;by_cases C:i<f.size
    .have d:(i:Z)<(f.size:Z):=Aa;have a9:=AC (s:=f) (k:=i) C;have b9:((As f i:Z)==45)=false:=(by rw[re];have:=a6 i C;omega);generalize As f i=c at*;go_wp2_with fail;go_round
     .exact ⟨i+1,Aa,rfl,by go_num⟩
     exact Ae
    have d:¬(i:Z)<(f.size:Z):=Aa;have a:=Af (IB f 46 Aa w1);have c4:=Db f 46;go_wp2_with fail;refine a.mono ?_;rintro e w2 ⟨vv,rfl,hst,R⟩;have HS2:=Af hst;have HO2:=Af (HO1.trans R);obtain⟨ao,cap,hvv, -, -⟩:=hst;subst hvv;clear R a;generalize Ay f 46=L at*;by_cases h3:L.length=3
    .have a3:(L.length:Z)=3:=Aa;have HH3:=Af h3;clear h3;go_wp2_with fail;go_loop [5,9] (λ_ x=> ∃i:N,i<=3/\x=I Q i/\χ (∀j (h:j<L.length),j<i->DK L[j]=θ)) (λ_ x=>3- (intOf x).toNat)
     .exact Wk
     obtain⟨i,hi,rfl,HT⟩:=hrel;by_cases C:i<3
     .have d:(i:Z)<3:=Aa;have hilL:i<L.length:=by have:=uh HH3;omega
      have b0:(i:Z)<(L.length:Z):=Aa;obtain⟨g,cp,hvv,hc, -⟩:=HS2.cell i hilL;injection hvv with hv1 hv2 hv3;subst hv1 hv3;have HE:=Af (UN L[i] (rz (V _ (ro hilL)) Aa) w2);cases hel:DK L[i] with
      |true=>
       exact zm
      |false=>
       rw[hel] at HE;have hans:ans=false:=by
        have:L.all DK=false:=aaG;exact n (λh=>by rw[this] at h;cases h.2)
       exact abU
     have d:¬(i:Z)<3:=Aa;have q:0<L.length:=by have:=uh HH3;omega
     have b2:(0:Z)<(L.length:Z):=Aa;have p:L.all DK=true:=aak;obtain⟨g,cp,hvv,hc0, -⟩:=HS2.cell 0 q;injection hvv with hv1 hv2 hv3;subst hv1 hv3;have hz:L.getD 0 ⟨#[]⟩=L[0]:=(by rw[qT,qY q];rfl);have HAN:χ (ans=KG s L[0]):=by have:=b ⟨HH3,p⟩;rw[hz] at this;exact this
     have b7:=V _ (ro q);have HPS:=Af (IB s 47 hs w2);have b3:=Db s 47;have b6:=Fz s 47;have HLAST:=Af (Na s);have HEF:χ (KG s L[0]=if L[0]=⟨#[48]⟩\/L[0]=⟨#[49]⟩ then !NP (BL s) else decide (BL s=sV++L[0])):=rfl;have c1:=Br hc0;clear p hz HT n b;exact yT
    have a3:¬(L.length:Z)=3:=Aa;have hans:ans=false:=n (λh=>h3 h.1);subst hans;exact He
   have D:=a1;have n:χ (KE (Kb v)=θ->¬((Ay (DA v) 46).length=3/\(Ay (DA v) 46).all DK=θ)->ans=false):=λP h=>by rw[uh t,uh m,hB,P,rc Ac,rc h];rfl
   have b:χ (KE (Kb v)=θ->((Ay (DA v) 46).length=3/\(Ay (DA v) 46).all DK=θ)->ans=KG s ((Ay (DA v) 46).getD 0 ⟨#[]⟩)):=λP h=>by rw[uh t,uh m,hB,P,rc Ac,rd h];rfl
   have T:χ (KE (Kb v)=false->ans=false):=λP=>by rw[uh t,uh m,hB,P];rfl
   have b4: ∀W,(Instr.slice 9 (G (Dg v)) (J (I Q ((i0:Z)+1))) O O).run ψ W=ω (G (Kb v)) W:=λW=>by
    have h:=sT W 9 (Dg v) underlying9 .i64 ((i0+1:N):Z) Aa Aa;rw[a7];simpa using h
   have b5: ∀W,(Instr.slice 9 (G (Dg v)) O (J (I Q (i0:Z))) O).run ψ W=ω (G (DA v)) W:=λW=>by
    have h:=tz W 9 (Dg v) underlying9 .i64 i0 Aa Aa;rw[hN];exact h
   have c9:(DA v).size=i0:=by rw[hN,rv];omega
   have a5:=Af a8;clear a2 m t hB hN a7 a8 a1;generalize KE (Kb v)=mb at*;generalize Kb v=mk at*;generalize DA v=f at*;generalize Dg v=r0 at*;go_in;go_wp2_with fail;refine H1.mono ?_;rintro e w1 ⟨rfl,ho1⟩;have HO1:=Af ho1;clear ho1 H1;go_wp2_with fail;go_loop [5,6,7] (λ_ y x=> ∃i:N,x=I Q i/\χ ((y=G r0/\i<=i0)\/(y=G f/\i=i0+1/\mb=θ))) (λ_ _ x=>i0+1- (intOf x).toNat)
   .exact ⟨0,rfl,.inl ⟨rfl,Aa⟩⟩
   obtain⟨i,rfl,HI⟩:=hrel;rcases uh HI with⟨hy,c3⟩|⟨hy,c3,a4⟩
   .subst hy;have C:i<r0.size:=Aa;have d:(i:Z)<(r0.size:Z):=Aa;have a9:=AC (s:=r0) (k:=i) C;by_cases c2:i=i0
    .subst c2;rw[a0] at a9;cases mb with
     |true=>
      clear HI T n b;go_wp2_with fail;refine(D _).mono ?_;rintro e w' ⟨rfl,rfl⟩;go_wp2_with fail;go_round
      .exact ⟨i+1,by go_num,.inr ⟨rfl,rfl,trivial⟩⟩
      simp[intOf]
     |false=>
      have hans:ans=false:=T rfl;subst hans;clear HI T n b;go_wp2_with fail;refine(D _).mono ?_;rintro e w' ⟨rfl,rfl⟩;exact Hz
    have b9:((As r0 i:Z)==45)=false:=(by rw[re];have:=a5 i Aa;omega);clear HI;generalize As r0 i=c at*;go_wp2_with fail;go_round
    .exact ⟨i+1,by go_num,.inl ⟨rfl,Aa⟩⟩
    exact Ae
   subst hy;have F:=Af (n a4);have H:=Af (b a4);clear n b;have d:¬(i:Z)<(f.size:Z):=Aa;clear HI a4 D T b4 b5 a5 a0;have a:=Af (IB f 46 Aa w1);have c4:=Db f 46;go_wp2_with fail;refine a.mono ?_;rintro e w2 ⟨vv,rfl,hst,R⟩;have HS2:=Af hst;have HO2:=Af (HO1.trans R);obtain⟨ao,cap,hvv, -, -⟩:=hst;subst hvv;clear R a;generalize Ay f 46=L at*;by_cases h3:L.length=3
   .have a3:(L.length:Z)=3:=Aa;have HH3:=Af h3;clear h3;go_wp2_with fail;go_loop [5,9] (λ_ x=> ∃i:N,i<=3/\x=I Q i/\χ (∀j (h:j<L.length),j<i->DK L[j]=θ)) (λ_ x=>3- (intOf x).toNat)
    .exact Wk
    obtain⟨i,hi,rfl,HT⟩:=hrel;by_cases C:i<3
    .have d:(i:Z)<3:=Aa;have hilL:i<L.length:=by have:=uh HH3;omega
     have b0:(i:Z)<(L.length:Z):=Aa;obtain⟨g,cp,hvv,hc, -⟩:=HS2.cell i hilL;injection hvv with hv1 hv2 hv3;subst hv1 hv3;have HE:=Af (UN L[i] (rz (V _ (ro hilL)) Aa) w2);cases hel:DK L[i] with
     |true=>
      exact zm
     |false=>
      rw[hel] at HE;have hans:ans=false:=by
       have:L.all DK=false:=aaG;exact F (λh=>by rw[this] at h;cases h.2)
      exact abU
    have d:¬(i:Z)<3:=Aa;have q:0<L.length:=by have:=uh HH3;omega
    have b2:(0:Z)<(L.length:Z):=Aa;have p:L.all DK=true:=aak;obtain⟨g,cp,hvv,hc0, -⟩:=HS2.cell 0 q;injection hvv with hv1 hv2 hv3;subst hv1 hv3;have hz:L.getD 0 ⟨#[]⟩=L[0]:=(by rw[qT,qY q];rfl);have HAN:χ (ans=KG s L[0]):=by have:=H ⟨HH3,p⟩;rw[hz] at this;exact this
    have b7:=V _ (ro q);have HPS:=Af (IB s 47 hs w2);have b3:=Db s 47;have b6:=Fz s 47;have HLAST:=Af (Na s);have HEF:χ (KG s L[0]=if L[0]=⟨#[48]⟩\/L[0]=⟨#[49]⟩ then !NP (BL s) else decide (BL s=sV++L[0])):=rfl;have c1:=Br hc0;clear p hz HT F H;exact yT
   have a3:¬(L.length:Z)=3:=Aa;have hans:ans=false:=F (λh=>h3 h.1);subst hans;exact He
  have S:Lib.hasPrefix v.data.toList sV.data.toList=false:=by rw[u];exact qX o
  have hans:ans=false:=by rw[uh t,B S];rfl
  have hvI:((As v 0:Z) !=118)=true:=by rw[rS];omega
  subst hans;clear t B a A S u o;generalize As v 0=c at*;exact Hn
def Mf(s v:Y)(e:s.size<=2000000)(f:v.size<=2000000)(w:U):μ ψ 119 #[G s,G v] w λr w' =>r=ε (G (((s++⟨#[64]⟩)++v)++⟨#[47]⟩))/\w' =w:=by
 have a:(⟨#[64]⟩:Y).size=1:=rfl;have b:(⟨#[47]⟩:Y).size=1:=rfl;have a1: ∀W,(Op.stringOp .add s ⟨#[64]⟩).run ψ W=ω (G (s++⟨#[64]⟩)) W:=λW=>ry W _ _ Aa
 have c: ∀W,(Op.stringOp .add (s++⟨#[64]⟩) v).run ψ W=ω (G ((s++⟨#[64]⟩)++v)) W:=λW=>ry W _ _ (by rw[rg];omega)
 have d: ∀W,(Op.stringOp .add ((s++⟨#[64]⟩)++v) ⟨#[47]⟩).run ψ W=ω (G (((s++⟨#[64]⟩)++v)++⟨#[47]⟩)) W:=λW=>ry W _ _ (by rw[rg,rg];omega)
 clear a b;generalize(((s++⟨#[64]⟩)++v)++(⟨#[47]⟩:Y))=q3 at*;generalize((s++⟨#[64]⟩)++v:Y)=q2 at*;generalize(s++⟨#[64]⟩:Y)=q1 at*;go_in;exact yU
def Bk(n many:N)(L:n<=4611686018427387904)(W:many<=1000)(w:U):μ ψ 296 #[I Q (n:Z),I Q (many:Z)] w λr w' =>r=ε (G (An (leB n many)))/\Al w w' :=by
 have u:χ (Al w w):=Ag.refl _ w;go_in;go_wp2;go_loopw [0,5,6] (λP t x wr=> ∃(k q:N) (z:Y),k<=many/\q<=4611686018427387904/\z.size<=k/\P=I Q (q:Z)/\t=G z/\x=I Q (k:Z)/\χ (q=n/2^(8*k)/\z=An (leB n k))/\χ (Al w wr)) (λ_ _ x _=>many- (intOf x).toNat)
 .exact ⟨0,n,⟨#[]⟩,Aa,L,rj _,rfl,rfl,rfl,⟨Ad,rfl⟩,u⟩
 obtain⟨k,q,z,T,X,hz,rfl,rfl,rfl,h,v⟩:=hrel;clear u;by_cases H:k<many
 .have e:(k:Z)<(many:Z):=Aa;obtain⟨a,f⟩: ∃a,q/256=a:=⟨_,rfl⟩;obtain⟨d,A⟩: ∃d,q%256=d:=⟨_,rfl⟩;have o:d<256:=Aa;have R:(q:Z).tmod 256=(d:Z):=by rw[tJ Aa];omega
  have S:(q:Z).tdiv 256=(a:Z):=by rw[ya Aa];omega
  have g:a<=4611686018427387904:=Aa;have i:χ (a=n/2^(8*(k+1))/\z++⟨[b8 d].toArray⟩=An (leB n (k+1))):=by
   obtain⟨B,M⟩:=uh h;refine⟨?_, ?_⟩
   .have b:2^(8*k)*256=2^(8*(k+1)):=(by rw[show 8*(k+1)=8*k+8 by omega,uW]);rw[<-f,B,Nat.div_div_eq_div_mul,b]
   rw[Uk,<-AD,M,<-A,B];rfl
  have l:χ (Al w (wr.alloc (γ #[I .u8 (d:Z)] 5))):=v.alloc _;have m:(convert 62 9 (K (J ⟨wr.heap.size,0,O⟩) 1 1)).run ψ (wr.alloc (γ #[I .u8 (d:Z)] 5))=ω (G ⟨[b8 d].toArray⟩) (wr.alloc (γ #[I .u8 (d:Z)] 5)):=
   uI _ 62 9 5 ⟨wr.heap.size,0,O⟩ 1 [b8 d] underlying62 underlying5 underlying9 (λj F=>by
    have p:j=0:=(by simpa using F);subst p;rw[rH,qV _ _ (0+0) _ _ (0,0) (rh wr _)];simp[AL o])
  have y: ∀V,(Op.stringOp .add z ⟨[b8 d].toArray⟩).run ψ V=ω (G (z++⟨[b8 d].toArray⟩)) V:=λV=>ry V _ _ (by have D:(⟨[b8 d].toArray⟩:Y).size=1:=rfl;omega)
  have s:(z++⟨[b8 d].toArray⟩).size<=k+1:=by rw[rg];have D:(⟨[b8 d].toArray⟩:Y).size=1:=rfl;omega
  clear h f A;generalize z++(⟨[b8 d].toArray⟩:Y)=z2 at*;generalize(⟨[b8 d].toArray⟩:Y)=z1 at*;go_wp2;go_roundw
  .exact ⟨k+1,a,z2,Aa,g,s,rfl,rfl,by go_num,i,l⟩
  exact Ae
 have e:¬(k:Z)<(many:Z):=Aa;have c:k=many:=Aa;have C:χ (z=An (leB n many)):=by rw[<-c];exact h.2
 clear c h;go_wp2;go_ret;exact⟨by rw[<-uh C];rfl,v⟩
def vS(s:Y)(at_:N):N->N->N
 |0,_=>0
 |m+1,k=>As s (at_+k)+256*vS s at_ m (k+1)
def GX(s:Y)(a:N): ∀m k,vS s a m k<256^m
 |0,k=>by simp[vS]
 |m+1,k=>by
  have b:=GX s a m (k+1);have c:=Bf s (a+k);rw[vS,tV];omega
def nP(s:Y)(a many:N)(T:s.size<=100000000)(R:many<=4)(M:a+many<=s.size)(w:U):μ ψ 297 #[G s,I Q (a:Z),I Q (many:Z)] w λr w' =>r=ε (I Q (vS s a many 0:Z))/\w' =w:=by
 go_in;go_wp2_with fail;go_loop [7,8] (λF x=> ∃(k n:N),k<=many/\n<4294967296/\F=I Q (n:Z)/\x=I Q ((k:Z)- 1)/\χ (n=vS s a (many- k) k)) (λ_ x=>((intOf x)+1).toNat)
 .exact ⟨many,0,rj _,Aa,rfl,by go_num,by unfold χ;rw[ut];rfl⟩
 obtain⟨k,n,P,S,rfl,rfl,g⟩:=hrel;by_cases z:0<k
 .have A:(0:Z)<=(k:Z)- 1:=Aa;obtain⟨j,rfl⟩: ∃j,k=j+1:=⟨k- 1,Aa⟩;have l:((j+1:N):Z)- 1=(j:Z):=Aa;have d:a+j<s.size:=Aa;have i:=AC (s:=s) (k:=a+j) d;have h:=Bf s (a+j);have b:χ (As s (a+j)+256*n=vS s a (many- j) j):=by
   unfold χ;rw[uh g,show many- j=many- (j+1)+1 by omega,vS]
  have f:As s (a+j)+256*n<4294967296:=by
   have u:=GX s a (many- j) j;rw[<-uh b] at u;have H:256^(many- j)<=256^4:=rG Aa Aa;have L:(256:N)^4=4294967296:=Ac;omega
  obtain⟨p,hp⟩: ∃p,a+j=p:=⟨_,rfl⟩;have v:(a:Z)+(j:Z)=(p:Z):=Aa;have y:(p:Z)<(s.size:Z):=Aa;have D:p<100000000:=Aa;rw[hp] at h b f;have e:p<s.size:=Aa;have q:=AC (s:=s) (k:=p) e;rw[l];clear i d hp;generalize As s p=c at*;generalize o:c+256*n=n2 at*;have C:(256:Z)*(n:Z)+(c:Z)=(n2:Z):=Aa;have B:(256:Z)*(n:Z)<4294967296:=Aa;clear g o;go_wp2_with fail;go_round
  .exact ⟨j,n2,Aa,f,rfl,by go_num,b⟩
  simp[intOf]
 have m:k=0:=Aa;subst m;have t:χ (n=vS s a many 0):=uh g;have h0:¬(0:Z)<=((0:N):Z)- 1:=Aa;go_wp2;go_ret;exact⟨by rw[<-uh t];rfl,rfl⟩
def pJ(many b a:N)(h1:many<=10000000000)(h2:b<=10000000000)(h3:a<=10000000000)(w:U):μ ψ 211 #[I Q (many:Z),I Q (b:Z),I Q (a:Z)] w λr w' =>r=ε (G (An (endL many b a)))/\Al w w' :=by
 have P:=Af (λW=>Bk 0 2 Aa Aa W);have R:=Af (λW=>Bk 0 2 Aa Aa W);have S:=Af (λW=>Bk many 2 Aa Aa W);have T:=Af (λW=>Bk many 2 Aa Aa W);have V:=Af (λW=>Bk b 4 Aa Aa W);have X:=Af (λW=>Bk a 4 Aa Aa W);have H6:=Af (λW=>Bk 0 2 Aa Aa W);have A:Gl.size=4:=rfl;have s:(An (leB 0 2)).size=2:=by rw[AE,Bq]
 have t:(An (leB 0 2)).size=2:=by rw[AE,Bq]
 have u:(An (leB many 2)).size=2:=by rw[AE,Bq]
 have v:(An (leB many 2)).size=2:=by rw[AE,Bq]
 have x:(An (leB b 4)).size=4:=by rw[AE,Bq]
 have y:(An (leB a 4)).size=4:=by rw[AE,Bq]
 have z:(An (leB 0 2)).size=2:=by rw[AE,Bq]
 have a0: ∀W,(Op.stringOp .add Gl (An (leB 0 2))).run ψ W=ω (G (Gl++An (leB 0 2))) W:=λW=>ry W _ _ Aa
 have B:(Gl++An (leB 0 2)).size=6:=by rw[rg];omega
 have a1: ∀W,(Op.stringOp .add (Gl++An (leB 0 2)) (An (leB 0 2))).run ψ W=ω (G ((Gl++An (leB 0 2))++An (leB 0 2))) W:=λW=>ry W _ _ Aa
 have C:((Gl++An (leB 0 2))++An (leB 0 2)).size=8:=by rw[rg];omega
 have a2: ∀W,(Op.stringOp .add ((Gl++An (leB 0 2))++An (leB 0 2)) (An (leB many 2))).run ψ W=ω (G (((Gl++An (leB 0 2))++An (leB 0 2))++An (leB many 2))) W:=λW=>ry W _ _ Aa
 have D:(((Gl++An (leB 0 2))++An (leB 0 2))++An (leB many 2)).size=10:=by rw[rg];omega
 have a3: ∀W,(Op.stringOp .add (((Gl++An (leB 0 2))++An (leB 0 2))++An (leB many 2)) (An (leB many 2))).run ψ W=ω (G ((((Gl++An (leB 0 2))++An (leB 0 2))++An (leB many 2))++An (leB many 2))) W:=λW=>ry W _ _ Aa
 have F:((((Gl++An (leB 0 2))++An (leB 0 2))++An (leB many 2))++An (leB many 2)).size=12:=by rw[rg];omega
 have a4: ∀W,(Op.stringOp .add ((((Gl++An (leB 0 2))++An (leB 0 2))++An (leB many 2))++An (leB many 2)) (An (leB b 4))).run ψ W=ω (G (((((Gl++An (leB 0 2))++An (leB 0 2))++An (leB many 2))++An (leB many 2))++An (leB b 4))) W:=λW=>ry W _ _ Aa
 have H:(((((Gl++An (leB 0 2))++An (leB 0 2))++An (leB many 2))++An (leB many 2))++An (leB b 4)).size=16:=by rw[rg];omega
 have a5: ∀W,(Op.stringOp .add (((((Gl++An (leB 0 2))++An (leB 0 2))++An (leB many 2))++An (leB many 2))++An (leB b 4)) (An (leB a 4))).run ψ W=ω (G ((((((Gl++An (leB 0 2))++An (leB 0 2))++An (leB many 2))++An (leB many 2))++An (leB b 4))++An (leB a 4))) W:=λW=>ry W _ _ Aa
 have L:((((((Gl++An (leB 0 2))++An (leB 0 2))++An (leB many 2))++An (leB many 2))++An (leB b 4))++An (leB a 4)).size=20:=by rw[rg];omega
 have a6: ∀W,(Op.stringOp .add ((((((Gl++An (leB 0 2))++An (leB 0 2))++An (leB many 2))++An (leB many 2))++An (leB b 4))++An (leB a 4)) (An (leB 0 2))).run ψ W=ω (G (((((((Gl++An (leB 0 2))++An (leB 0 2))++An (leB many 2))++An (leB many 2))++An (leB b 4))++An (leB a 4))++An (leB 0 2))) W:=λW=>ry W _ _ Aa
 have M:(((((((Gl++An (leB 0 2))++An (leB 0 2))++An (leB many 2))++An (leB many 2))++An (leB b 4))++An (leB a 4))++An (leB 0 2)).size=22:=by rw[rg];omega
 have HE:χ ((((((((Gl++An (leB 0 2))++An (leB 0 2))++An (leB many 2))++An (leB many 2))++An (leB b 4))++An (leB a 4))++An (leB 0 2))=An (endL many b a)):=by
  unfold χ;rw[show Gl=An (sL Gl) from rfl,AD,AD,AD,AD,AD,AD,AD]
  rfl
 clear B C D F H L M;clear A s t u v x y z;generalize(((((((Gl++An (leB 0 2))++An (leB 0 2))++An (leB many 2))++An (leB many 2))++An (leB b 4))++An (leB a 4))++An (leB 0 2))=s6 at*;generalize((((((Gl++An (leB 0 2))++An (leB 0 2))++An (leB many 2))++An (leB many 2))++An (leB b 4))++An (leB a 4))=s5 at*;generalize(((((Gl++An (leB 0 2))++An (leB 0 2))++An (leB many 2))++An (leB many 2))++An (leB b 4))=s4 at*;generalize((((Gl++An (leB 0 2))++An (leB 0 2))++An (leB many 2))++An (leB many 2))=s3 at*;generalize(((Gl++An (leB 0 2))++An (leB 0 2))++An (leB many 2))=s2 at*;generalize((Gl++An (leB 0 2))++An (leB 0 2))=s1 at*;generalize(Gl++An (leB 0 2))=s0 at*;generalize An (leB 0 2)=x0 at*;generalize An (leB many 2)=x2 at*;generalize An (leB b 4)=x4 at*;generalize An (leB a 4)=x5 at*;go_in;go_wp2_with fail;refine(P _).mono ?_;rintro e v0 ⟨rfl,c⟩;have k:=Af c;clear c P;go_wp2_with fail;refine(R _).mono ?_;rintro e v1 ⟨rfl,d⟩;have l:=Af (k.trans d);clear d R;go_wp2_with fail;refine(S _).mono ?_;rintro e v2 ⟨rfl,f⟩;have m:=Af (l.trans f);clear f S;go_wp2_with fail;refine(T _).mono ?_;rintro e v3 ⟨rfl,g⟩;have n:=Af (m.trans g);clear g T;go_wp2_with fail;refine(V _).mono ?_;rintro e v4 ⟨rfl,h⟩;have o:=Af (n.trans h);clear h V;go_wp2_with fail;refine(X _).mono ?_;rintro e v5 ⟨rfl,i⟩;have p:=Af (o.trans i);clear i X;go_wp2_with fail;refine(H6 _).mono ?_;rintro e v6 ⟨rfl,j⟩;have q:=Af (p.trans j);clear j H6;go_wp2;go_ret;exact⟨by rw[<-uh HE];rfl,q⟩
def Cs(v m:N):(An (leB v m)).size=m:=by rw[AE,Bq]
def BC{P Q:Y}{n m:N}(h:P.size=n)(k:Q.size=m)(a:n+m<140737488355328): ∃s,s=P++Q/\(∀W,(Op.stringOp .add P Q).run ψ W=ω (G s) W)/\s.size=n+m:=
 ⟨_,rfl,λW=>ry W _ _ Aa,by rw[rg];omega⟩
def Ke(nm:Y)(way ck pk ln:N):Y:=An (sL Iy++leB 20 2++leB 0 2++leB way 2++leB 0 2++leB 33 2++leB ck 4++leB pk 4++leB ln 4++leB nm.size 2++leB 0 2++sL nm)
def kF(nm:Y)(way ck pk ln:N)(c7:nm.size<=10000000000)(hw:way<=10000000000)(c5:ck<=4611686018427387904)(c8:pk<=4611686018427387904)(c6:ln<=4611686018427387904)(w:U):μ ψ 210 #[.agg #[G nm,I Q (way:Z),I Q (ck:Z),I Q (pk:Z),I Q (ln:Z)]] w λr w' =>r=ε (G (Ke nm way ck pk ln))/\Al w w' :=by
 have H0:=Af (λW=>Bk 20 2 Aa Aa W);have H1:=Af (λW=>Bk 0 2 Aa Aa W);have H2:=Af (λW=>Bk way 2 Aa Aa W);have H3:=Af (λW=>Bk 0 2 Aa Aa W);have H4:=Af (λW=>Bk 33 2 Aa Aa W);have H5:=Af (λW=>Bk ck 4 Aa Aa W);have H6:=Af (λW=>Bk pk 4 Aa Aa W);have H7:=Af (λW=>Bk ln 4 Aa Aa W);have H8:=Af (λW=>Bk nm.size 2 Aa Aa W);have H9:=Af (λW=>Bk 0 2 Aa Aa W);have T:Iy.size=4:=rfl;obtain⟨s0,e0,a9,V⟩:=BC T (Cs 20 2) Aa;obtain⟨s1,e1,b0,X⟩:=BC V (Cs 0 2) Aa;obtain⟨s2,e2,b1,a0⟩:=BC X (Cs way 2) Aa;obtain⟨s3,e3,b2,a1⟩:=BC a0 (Cs 0 2) Aa;obtain⟨s4,e4,b3,a2⟩:=BC a1 (Cs 33 2) Aa;obtain⟨s5,e5,b4,a3⟩:=BC a2 (Cs ck 4) Aa;obtain⟨s6,e6,b5,a4⟩:=BC a3 (Cs pk 4) Aa;obtain⟨s7,e7,b6,a5⟩:=BC a4 (Cs ln 4) Aa;obtain⟨s8,e8,b7,a6⟩:=BC a5 (Cs nm.size 2) Aa;obtain⟨s9,e9,b9,t⟩:=BC a6 (Cs 0 2) Aa;obtain⟨a7,y,a8, -⟩:=BC t (Eq.refl nm.size) Aa;have HE:χ (a7=Ke nm way ck pk ln):=by
  unfold χ Ke;rw[y,e9,e8,e7,e6,e5,e4,e3,e2,e1,e0,show Iy=An (sL Iy) from rfl,AD,AD,AD,AD,AD,AD,AD,AD,AD,AD,show nm=An (sL nm) from(Lib.mk_data nm).symm,AD]
  rfl
 clear T V X a0 a1 a2 a3 a4 a5 a6 t e0 e1 e2 e3 e4 e5 e6 e7 e8 e9 y;generalize An (leB 20 2)=x0 at*;generalize An (leB 0 2)=x1 at*;generalize An (leB way 2)=x2 at*;generalize An (leB 33 2)=x4 at*;generalize An (leB ck 4)=x5 at*;generalize An (leB pk 4)=x6 at*;generalize An (leB ln 4)=x7 at*;generalize An (leB nm.size 2)=x8 at*;have v:=rh w (γ #[G nm,I Q (way:Z),I Q (ck:Z),I Q (pk:Z),I Q (ln:Z)] 170);have HA:χ (Al w (w.alloc (γ #[G nm,I Q (way:Z),I Q (ck:Z),I Q (pk:Z),I Q (ln:Z)] 170))):=(Ag.refl _ w).alloc _;have x: ∀j u,(#[G nm,I Q (way:Z),I Q (ck:Z),I Q (pk:Z),I Q (ln:Z)]:Array β)[j]? =J u->(w.alloc (γ #[G nm,I Q (way:Z),I Q (ck:Z),I Q (pk:Z),I Q (ln:Z)] 170)).cell? ⟨w.heap.size,j,O⟩=J u:=λj u h=>by rw[qV _ _ j _ _ (0,0) v];exact h
 have c0:=x 0 _ rfl;have c1:=x 1 _ rfl;have c2:=x 2 _ rfl;have c3:=x 3 _ rfl;have c4:=x 4 _ rfl;have hgl:w.heap.size<(w.alloc (γ #[G nm,I Q (way:Z),I Q (ck:Z),I Q (pk:Z),I Q (ln:Z)] 170)).heap.size:=(qW.1 v).1;clear x v;go_in;go_wp2_with fail;generalize w.alloc (γ #[G nm,I Q (way:Z),I Q (ck:Z),I Q (pk:Z),I Q (ln:Z)] 170)=W0 at*;have c: ∀W W' :U,(W.cell? ⟨w.heap.size,0,O⟩=J (G nm)/\W.cell? ⟨w.heap.size,1,O⟩=J (I Q (way:Z))/\W.cell? ⟨w.heap.size,2,O⟩=J (I Q (ck:Z))/\W.cell? ⟨w.heap.size,3,O⟩=J (I Q (pk:Z))/\W.cell? ⟨w.heap.size,4,O⟩=J (I Q (ln:Z))/\Al W0 W)->Al W W' ->(W'.cell? ⟨w.heap.size,0,O⟩=J (G nm)/\W'.cell? ⟨w.heap.size,1,O⟩=J (I Q (way:Z))/\W'.cell? ⟨w.heap.size,2,O⟩=J (I Q (ck:Z))/\W'.cell? ⟨w.heap.size,3,O⟩=J (I Q (pk:Z))/\W'.cell? ⟨w.heap.size,4,O⟩=J (I Q (ln:Z))/\Al W0 W'):=λW W' h ho=>Hc
 have b:W0.drew.cell? ⟨w.heap.size,0,O⟩=J (G nm)/\W0.drew.cell? ⟨w.heap.size,1,O⟩=J (I Q (way:Z))/\W0.drew.cell? ⟨w.heap.size,2,O⟩=J (I Q (ck:Z))/\W0.drew.cell? ⟨w.heap.size,3,O⟩=J (I Q (pk:Z))/\W0.drew.cell? ⟨w.heap.size,4,O⟩=J (I Q (ln:Z))/\Al W0 W0.drew:=⟨c0,c1,c2,c3,c4,(Ag.refl _ W0).drew⟩;clear c0 c1 c2 c3 c4;refine Ai (S:=λW=>W.cell? ⟨w.heap.size,0,O⟩=J (G nm)/\W.cell? ⟨w.heap.size,1,O⟩=J (I Q (way:Z))/\W.cell? ⟨w.heap.size,2,O⟩=J (I Q (ck:Z))/\W.cell? ⟨w.heap.size,3,O⟩=J (I Q (pk:Z))/\W.cell? ⟨w.heap.size,4,O⟩=J (I Q (ln:Z))/\Al W0 W) (L:=34) Ab ?_;refine tk 4 35 (δ (J ⟨w.heap.size,1,O⟩)) 7 b ?_;refine tk 5 35 (I Q (way:Z)) 8 b ?_;refine tk 12 35 (δ (J ⟨w.heap.size,2,O⟩)) 15 b ?_;refine tk 13 35 (I Q (ck:Z)) 16 b ?_;refine tk 16 35 (δ (J ⟨w.heap.size,3,O⟩)) 19 b ?_;refine tk 17 35 (I Q (pk:Z)) 20 b ?_;refine tk 20 35 (δ (J ⟨w.heap.size,4,O⟩)) 23 b ?_;refine tk 21 35 (I Q (ln:Z)) 24 b ?_;refine tk 24 35 (δ (J ⟨w.heap.size,0,O⟩)) 27 b ?_;refine tk 25 35 (G nm) 28 b ?_;refine tk 26 35 (I Q (nm.size:Z)) 29 b ?_;refine tk 31 35 (δ (J ⟨w.heap.size,0,O⟩)) 34 b ?_;refine tk 32 35 (G nm) 35 b ?_;refine Ah (i:=0) Ab ?_;refine ri rfl (λK' a=> ?_);go_simp;refine(H0 _).mono ?_;rintro r v0 ⟨rfl,z⟩;have f:=c _ _ b z;refine a _ _ ⟨λ_=>f, ?_⟩;clear a H0 z;refine tk 1 35 (G s0) 4 f ?_;refine Ah (i:=2) Ab ?_;refine ri rfl (λK' a=> ?_);go_simp;refine(H1 _).mono ?_;rintro r v1 ⟨rfl,A⟩;have g:=c _ _ f A;refine a _ _ ⟨λ_=>g, ?_⟩;clear a H1 A f;refine tk 3 35 (G s1) 6 g ?_;refine Ah (i:=6) Ab ?_;refine ri rfl (λK' a=> ?_);go_simp;refine(H2 _).mono ?_;rintro r v2 ⟨rfl,B⟩;have k:=c _ _ g B;refine a _ _ ⟨λ_=>k, ?_⟩;clear a H2 B g;refine tk 7 35 (G s2) 10 k ?_;refine Ah (i:=8) Ab ?_;refine ri rfl (λK' a=> ?_);go_simp;refine(H3 _).mono ?_;rintro r v3 ⟨rfl,C⟩;have l:=c _ _ k C;refine a _ _ ⟨λ_=>l, ?_⟩;clear a H3 C k;refine tk 9 35 (G s3) 12 l ?_;refine Ah (i:=10) Ab ?_;refine ri rfl (λK' a=> ?_);go_simp;refine(H4 _).mono ?_;rintro r v4 ⟨rfl,D⟩;have m:=c _ _ l D;refine a _ _ ⟨λ_=>m, ?_⟩;clear a H4 D l;refine tk 11 35 (G s4) 14 m ?_;refine Ah (i:=14) Ab ?_;refine ri rfl (λK' a=> ?_);go_simp;refine(H5 _).mono ?_;rintro r v5 ⟨rfl,F⟩;have n:=c _ _ m F;refine a _ _ ⟨λ_=>n, ?_⟩;clear a H5 F m;refine tk 15 35 (G s5) 18 n ?_;refine Ah (i:=18) Ab ?_;refine ri rfl (λK' a=> ?_);go_simp;refine(H6 _).mono ?_;rintro r v6 ⟨rfl,H⟩;have o:=c _ _ n H;refine a _ _ ⟨λ_=>o, ?_⟩;clear a H6 H n;refine tk 19 35 (G s6) 22 o ?_;refine Ah (i:=22) Ab ?_;refine ri rfl (λK' a=> ?_);go_simp;refine(H7 _).mono ?_;rintro r v7 ⟨rfl,M⟩;have q:=c _ _ o M;refine a _ _ ⟨λ_=>q, ?_⟩;clear a H7 M o;refine tk 23 35 (G s7) 26 q ?_;refine Ah (i:=27) Ab ?_;refine ri rfl (λK' a=> ?_);go_simp;refine(H8 _).mono ?_;rintro r v8 ⟨rfl,P⟩;have s:=c _ _ q P;refine a _ _ ⟨λ_=>s, ?_⟩;clear a H8 P q;refine tk 28 35 (G s8) 31 s ?_;refine Ah (i:=29) Ab ?_;refine ri rfl (λK' a=> ?_);go_simp;refine(H9 _).mono ?_;rintro r v9 ⟨rfl,R⟩;have d:=c _ _ s R;refine a _ _ ⟨λ_=>d, ?_⟩;clear a H9 R s;refine tk 30 35 (G s9) 33 d ?_;refine tk 33 35 (G a7) 36 d ?_;refine Ah (i:=34) Ab ?_;refine ri rfl (λK' a=> ?_);go_simp;refine a _ _ ⟨λh=>absurd rfl h, ?_⟩;clear a;refine Am Ab ?_;have HOF:=Af (HA.trans d.2.2.2.2.2);clear d c b;exact aaQ
def Mg(nm:Y)(way ck pk ln a:N):Y:=An (sL JJ++leB 20 2++leB 20 2++leB 0 2++leB way 2++leB 0 2++leB 33 2++leB ck 4++leB pk 4++leB ln 4++leB nm.size 2++leB 0 2++leB 0 2++leB 0 2++leB 0 2++leB 0 4++leB a 4++sL nm)
def bO(nm:Y)(way ck pk ln a:N)(ha:a<=10000000000)(i0:nm.size<=10000000000)(hw:way<=10000000000)(h8:ck<=4611686018427387904)(i1:pk<=4611686018427387904)(h9:ln<=4611686018427387904)(w:U):μ ψ 209 #[.agg #[G nm,I Q (way:Z),I Q (ck:Z),I Q (pk:Z),I Q (ln:Z)],I Q (a:Z)] w λr w' =>r=ε (G (Mg nm way ck pk ln a))/\Al w w' :=by
 have H0:=Af (λW=>Bk 20 2 Aa Aa W);have H1:=Af (λW=>Bk 20 2 Aa Aa W);have H2:=Af (λW=>Bk 0 2 Aa Aa W);have H3:=Af (λW=>Bk way 2 Aa Aa W);have H4:=Af (λW=>Bk 0 2 Aa Aa W);have H5:=Af (λW=>Bk 33 2 Aa Aa W);have H6:=Af (λW=>Bk ck 4 Aa Aa W);have H7:=Af (λW=>Bk pk 4 Aa Aa W);have H8:=Af (λW=>Bk ln 4 Aa Aa W);have H9:=Af (λW=>Bk nm.size 2 Aa Aa W);have a4:=Af (λW=>Bk 0 2 Aa Aa W);have a5:=Af (λW=>Bk 0 2 Aa Aa W);have a6:=Af (λW=>Bk 0 2 Aa Aa W);have a7:=Af (λW=>Bk 0 2 Aa Aa W);have a8:=Af (λW=>Bk 0 4 Aa Aa W);have a9:=Af (λW=>Bk a 4 Aa Aa W);have d3:JJ.size=4:=rfl;obtain⟨s0,e0,g7,d4⟩:=BC d3 (Cs 20 2) Aa;obtain⟨s1,e1,g8,d5⟩:=BC d4 (Cs 20 2) Aa;obtain⟨s2,e2,g9,d6⟩:=BC d5 (Cs 0 2) Aa;obtain⟨s3,e3,h1,d7⟩:=BC d6 (Cs way 2) Aa;obtain⟨s4,e4,h2,d8⟩:=BC d7 (Cs 0 2) Aa;obtain⟨s5,e5,h3,d9⟩:=BC d8 (Cs 33 2) Aa;obtain⟨s6,e6,h4,f0⟩:=BC d9 (Cs ck 4) Aa;obtain⟨s7,e7,h5,f1⟩:=BC f0 (Cs pk 4) Aa;obtain⟨s8,e8,h6,f2⟩:=BC f1 (Cs ln 4) Aa;obtain⟨s9,e9,h7,R⟩:=BC f2 (Cs nm.size 2) Aa;obtain⟨f4,b0,g0,T⟩:=BC R (Cs 0 2) Aa;obtain⟨f5,b1,g1,V⟩:=BC T (Cs 0 2) Aa;obtain⟨f6,b2,g2,X⟩:=BC V (Cs 0 2) Aa;obtain⟨f7,b3,g3,a0⟩:=BC X (Cs 0 2) Aa;obtain⟨f8,b4,g4,a1⟩:=BC a0 (Cs 0 4) Aa;obtain⟨f9,b5,g5,a2⟩:=BC a1 (Cs a 4) Aa;obtain⟨f3,b6,g6, -⟩:=BC a2 (Eq.refl nm.size) Aa;have HE:χ (f3=Mg nm way ck pk ln a):=by
  unfold χ Mg;rw[b6,b5,b4,b3,b2,b1,b0,e9,e8,e7,e6,e5,e4,e3,e2,e1,e0,show JJ=An (sL JJ) from rfl,AD,AD,AD,AD,AD,AD,AD,AD,AD,AD,AD,AD,AD,AD,AD,AD,show nm=An (sL nm) from(Lib.mk_data nm).symm,AD]
  rfl
 clear d3 d4 d5 d6 d7 d8 d9 f0 f1 f2 R T V X a0 a1 a2 e0 e1 e2 e3 e4 e5 e6 e7 e8 e9 b0 b1 b2 b3 b4 b5 b6;generalize An (leB 20 2)=x0 at*;generalize An (leB 0 2)=x2 at*;generalize An (leB way 2)=x3 at*;generalize An (leB 33 2)=x5 at*;generalize An (leB ck 4)=x6 at*;generalize An (leB pk 4)=x7 at*;generalize An (leB ln 4)=x8 at*;generalize An (leB nm.size 2)=x9 at*;generalize An (leB 0 4)=x14 at*;generalize An (leB a 4)=x15 at*;have a3:=rh w (γ #[G nm,I Q (way:Z),I Q (ck:Z),I Q (pk:Z),I Q (ln:Z)] 170);have HA:χ (Al w (w.alloc (γ #[G nm,I Q (way:Z),I Q (ck:Z),I Q (pk:Z),I Q (ln:Z)] 170))):=(Ag.refl _ w).alloc _;have hc: ∀j u,(#[G nm,I Q (way:Z),I Q (ck:Z),I Q (pk:Z),I Q (ln:Z)]:Array β)[j]? =J u->(w.alloc (γ #[G nm,I Q (way:Z),I Q (ck:Z),I Q (pk:Z),I Q (ln:Z)] 170)).cell? ⟨w.heap.size,j,O⟩=J u:=λj u h=>by rw[qV _ _ j _ _ (0,0) a3];exact h
 have c0:=hc 0 _ rfl;have c1:=hc 1 _ rfl;have c2:=hc 2 _ rfl;have c3:=hc 3 _ rfl;have c4:=hc 4 _ rfl;have hgl:w.heap.size<(w.alloc (γ #[G nm,I Q (way:Z),I Q (ck:Z),I Q (pk:Z),I Q (ln:Z)] 170)).heap.size:=(qW.1 a3).1;clear hc a3;go_in;go_wp2_with fail;generalize w.alloc (γ #[G nm,I Q (way:Z),I Q (ck:Z),I Q (pk:Z),I Q (ln:Z)] 170)=W0 at*;have c: ∀W W' :U,(W.cell? ⟨w.heap.size,0,O⟩=J (G nm)/\W.cell? ⟨w.heap.size,1,O⟩=J (I Q (way:Z))/\W.cell? ⟨w.heap.size,2,O⟩=J (I Q (ck:Z))/\W.cell? ⟨w.heap.size,3,O⟩=J (I Q (pk:Z))/\W.cell? ⟨w.heap.size,4,O⟩=J (I Q (ln:Z))/\Al W0 W)->Al W W' ->(W'.cell? ⟨w.heap.size,0,O⟩=J (G nm)/\W'.cell? ⟨w.heap.size,1,O⟩=J (I Q (way:Z))/\W'.cell? ⟨w.heap.size,2,O⟩=J (I Q (ck:Z))/\W'.cell? ⟨w.heap.size,3,O⟩=J (I Q (pk:Z))/\W'.cell? ⟨w.heap.size,4,O⟩=J (I Q (ln:Z))/\Al W0 W'):=λW W' h ho=>Hc
 have d:W0.drew.cell? ⟨w.heap.size,0,O⟩=J (G nm)/\W0.drew.cell? ⟨w.heap.size,1,O⟩=J (I Q (way:Z))/\W0.drew.cell? ⟨w.heap.size,2,O⟩=J (I Q (ck:Z))/\W0.drew.cell? ⟨w.heap.size,3,O⟩=J (I Q (pk:Z))/\W0.drew.cell? ⟨w.heap.size,4,O⟩=J (I Q (ln:Z))/\Al W0 W0.drew:=⟨c0,c1,c2,c3,c4,(Ag.refl _ W0).drew⟩;clear c0 c1 c2 c3 c4;refine Ai (S:=λW=>W.cell? ⟨w.heap.size,0,O⟩=J (G nm)/\W.cell? ⟨w.heap.size,1,O⟩=J (I Q (way:Z))/\W.cell? ⟨w.heap.size,2,O⟩=J (I Q (ck:Z))/\W.cell? ⟨w.heap.size,3,O⟩=J (I Q (pk:Z))/\W.cell? ⟨w.heap.size,4,O⟩=J (I Q (ln:Z))/\Al W0 W) (L:=47) Ab ?_;refine tk 6 48 (δ (J ⟨w.heap.size,1,O⟩)) 11 d ?_;refine tk 7 48 (I Q (way:Z)) 12 d ?_;refine tk 14 48 (δ (J ⟨w.heap.size,2,O⟩)) 19 d ?_;refine tk 15 48 (I Q (ck:Z)) 20 d ?_;refine tk 18 48 (δ (J ⟨w.heap.size,3,O⟩)) 23 d ?_;refine tk 19 48 (I Q (pk:Z)) 24 d ?_;refine tk 22 48 (δ (J ⟨w.heap.size,4,O⟩)) 27 d ?_;refine tk 23 48 (I Q (ln:Z)) 28 d ?_;refine tk 26 48 (δ (J ⟨w.heap.size,0,O⟩)) 31 d ?_;refine tk 27 48 (G nm) 32 d ?_;refine tk 28 48 (I Q (nm.size:Z)) 33 d ?_;refine tk 41 48 (I Q (a:Z)) 46 d ?_;refine tk 44 48 (δ (J ⟨w.heap.size,0,O⟩)) 49 d ?_;refine tk 45 48 (G nm) 50 d ?_;refine Ah (i:=0) Ab ?_;refine ri rfl (λK' b=> ?_);go_simp;refine(H0 _).mono ?_;rintro r v0 ⟨rfl,b7⟩;have o:=c _ _ d b7;refine b _ _ ⟨λ_=>o, ?_⟩;clear b H0 b7;refine tk 1 48 (G s0) 6 o ?_;refine Ah (i:=2) Ab ?_;refine ri rfl (λK' b=> ?_);go_simp;refine(H1 _).mono ?_;rintro r v1 ⟨rfl,b9⟩;have q:=c _ _ o b9;refine b _ _ ⟨λ_=>q, ?_⟩;clear b H1 b9 o;refine tk 3 48 (G s1) 8 q ?_;refine Ah (i:=4) Ab ?_;refine ri rfl (λK' b=> ?_);go_simp;refine(H2 _).mono ?_;rintro r v2 ⟨rfl,c5⟩;have s:=c _ _ q c5;refine b _ _ ⟨λ_=>s, ?_⟩;clear b H2 c5 q;refine tk 5 48 (G s2) 10 s ?_;refine Ah (i:=8) Ab ?_;refine ri rfl (λK' b=> ?_);go_simp;refine(H3 _).mono ?_;rintro r v3 ⟨rfl,c6⟩;have t:=c _ _ s c6;refine b _ _ ⟨λ_=>t, ?_⟩;clear b H3 c6 s;refine tk 9 48 (G s3) 14 t ?_;refine Ah (i:=10) Ab ?_;refine ri rfl (λK' b=> ?_);go_simp;refine(H4 _).mono ?_;rintro r v4 ⟨rfl,c7⟩;have v:=c _ _ t c7;refine b _ _ ⟨λ_=>v, ?_⟩;clear b H4 c7 t;refine tk 11 48 (G s4) 16 v ?_;refine Ah (i:=12) Ab ?_;refine ri rfl (λK' b=> ?_);go_simp;refine(H5 _).mono ?_;rintro r v5 ⟨rfl,c8⟩;have x:=c _ _ v c8;refine b _ _ ⟨λ_=>x, ?_⟩;clear b H5 c8 v;refine tk 13 48 (G s5) 18 x ?_;refine Ah (i:=16) Ab ?_;refine ri rfl (λK' b=> ?_);go_simp;refine(H6 _).mono ?_;rintro r v6 ⟨rfl,c9⟩;have y:=c _ _ x c9;refine b _ _ ⟨λ_=>y, ?_⟩;clear b H6 c9 x;refine tk 17 48 (G s6) 22 y ?_;refine Ah (i:=20) Ab ?_;refine ri rfl (λK' b=> ?_);go_simp;refine(H7 _).mono ?_;rintro r v7 ⟨rfl,d0⟩;have z:=c _ _ y d0;refine b _ _ ⟨λ_=>z, ?_⟩;clear b H7 d0 y;refine tk 21 48 (G s7) 26 z ?_;refine Ah (i:=24) Ab ?_;refine ri rfl (λK' b=> ?_);go_simp;refine(H8 _).mono ?_;rintro r v8 ⟨rfl,d1⟩;have A:=c _ _ z d1;refine b _ _ ⟨λ_=>A, ?_⟩;clear b H8 d1 z;refine tk 25 48 (G s8) 30 A ?_;refine Ah (i:=29) Ab ?_;refine ri rfl (λK' b=> ?_);go_simp;refine(H9 _).mono ?_;rintro r v9 ⟨rfl,d2⟩;have B:=c _ _ A d2;refine b _ _ ⟨λ_=>B, ?_⟩;clear b H9 d2 A;refine tk 30 48 (G s9) 35 B ?_;refine Ah (i:=31) Ab ?_;refine ri rfl (λK' b=> ?_);go_simp;refine(a4 _).mono ?_;rintro r i2 ⟨rfl,C⟩;have g:=c _ _ B C;refine b _ _ ⟨λ_=>g, ?_⟩;clear b a4 C B;refine tk 32 48 (G f4) 37 g ?_;refine Ah (i:=33) Ab ?_;refine ri rfl (λK' b=> ?_);go_simp;refine(a5 _).mono ?_;rintro r i3 ⟨rfl,D⟩;have k:=c _ _ g D;refine b _ _ ⟨λ_=>k, ?_⟩;clear b a5 D g;refine tk 34 48 (G f5) 39 k ?_;refine Ah (i:=35) Ab ?_;refine ri rfl (λK' b=> ?_);go_simp;refine(a6 _).mono ?_;rintro r i4 ⟨rfl,F⟩;have l:=c _ _ k F;refine b _ _ ⟨λ_=>l, ?_⟩;clear b a6 F k;refine tk 36 48 (G f6) 41 l ?_;refine Ah (i:=37) Ab ?_;refine ri rfl (λK' b=> ?_);go_simp;refine(a7 _).mono ?_;rintro r i5 ⟨rfl,H⟩;have m:=c _ _ l H;refine b _ _ ⟨λ_=>m, ?_⟩;clear b a7 H l;refine tk 38 48 (G f7) 43 m ?_;refine Ah (i:=39) Ab ?_;refine ri rfl (λK' b=> ?_);go_simp;refine(a8 _).mono ?_;rintro r i6 ⟨rfl,M⟩;have n:=c _ _ m M;refine b _ _ ⟨λ_=>n, ?_⟩;clear b a8 M m;refine tk 40 48 (G f8) 45 n ?_;refine Ah (i:=42) Ab ?_;refine ri rfl (λK' b=> ?_);go_simp;refine(a9 _).mono ?_;rintro r i7 ⟨rfl,P⟩;have f:=c _ _ n P;refine b _ _ ⟨λ_=>f, ?_⟩;clear b a9 P n;refine tk 43 48 (G f9) 48 f ?_;refine tk 46 48 (G f3) 51 f ?_;refine Ah (i:=47) Ab ?_;refine ri rfl (λK' b=> ?_);go_simp;refine b _ _ ⟨λh=>absurd rfl h, ?_⟩;clear b;refine Am Ab ?_;have HOF:=Af (HA.trans f.2.2.2.2.2);clear f c d;exact aaQ
structure CQ where
 nm:Y
 way:N
 ck:N
 pk:N
 ln:N
 sp:Y
abbrev Cu:CQ:=⟨⟨#[]⟩,0,0,0,0,⟨#[]⟩⟩
def CQ.ok(i:CQ):Prop:=i.nm.size<=4000000/\i.way<=10000000000/\i.ck<=4611686018427387904/\i.pk<=4611686018427387904/\i.ln<=4611686018427387904/\i.sp.size<=4000000
def Nc(w:U)(g:N)(its:E CQ):Prop:= ∀i,i<its.length->w.cell? ⟨g,i*6,O⟩=J (G (its.getD i Cu).nm)/\w.cell? ⟨g,i*6+1,O⟩=J (I Q ((its.getD i Cu).way:Z))/\w.cell? ⟨g,i*6+2,O⟩=J (I Q ((its.getD i Cu).ck:Z))/\w.cell? ⟨g,i*6+3,O⟩=J (I Q ((its.getD i Cu).pk:Z))/\w.cell? ⟨g,i*6+4,O⟩=J (I Q ((its.getD i Cu).ln:Z))/\w.cell? ⟨g,i*6+5,O⟩=J (G (its.getD i Cu).sp)
def Nc.old{w w' :U}{g:N}{its:E CQ}(h:Nc w g its)(a:Al w w'):Nc w' g its:=λi j=>by
 obtain⟨h0,b,c,d,e,f⟩:=h i j;exact⟨Ao a h0,Ao a b,Ao a c,Ao a d,Ao a e,Ao a f⟩
def Lv(its:E CQ):N->Y×Y
 |0=>(⟨#[]⟩,⟨#[]⟩)
 |i+1=>(((Lv its i).1++Ke (its.getD i Cu).nm (its.getD i Cu).way (its.getD i Cu).ck (its.getD i Cu).pk (its.getD i Cu).ln)++(its.getD i Cu).sp,(Lv its i).2++Mg (its.getD i Cu).nm (its.getD i Cu).way (its.getD i Cu).ck (its.getD i Cu).pk (its.getD i Cu).ln (Lv its i).1.size)
def Bp(its:E CQ):Y:=((Lv its its.length).1++(Lv its its.length).2)++An (endL its.length (Lv its its.length).2.size (Lv its its.length).1.size)
def Rx(nm:Y)(way ck pk ln:N):(Ke nm way ck pk ln).size=30+nm.size:=by
 rw[Ke,AE];simp only[qU,Bq,CF];have:Iy.size=4:=rfl;omega
def Ry(nm:Y)(way ck pk ln a:N):(Mg nm way ck pk ln a).size=46+nm.size:=by
 rw[Mg,AE];simp only[qU,Bq,CF];have:JJ.size=4:=rfl;omega
def PH(its:E CQ)(a: ∀x∈its,x.ok): ∀i,i<=its.length->(Lv its i).1.size<=i*9000000/\(Lv its i).2.size<=i*5000000
 |0,_=>⟨rj _,rj _⟩
 |i+1,hi=>by
  obtain⟨c,d⟩:=PH its a i Aa;have b:(its.getD i Cu).ok:=by rw[qT,qY Aa];exact a _ (ro _)
  obtain⟨e, -, -, -, -,f⟩:=b;rw[Lv];refine⟨?_, ?_⟩
  .rw[rg,rg,Rx];omega
  rw[rg,Ry];omega
def Di(ao:Option Addr)(g cap:N)(its:E CQ)(l:0<its.length->ao=J ⟨g,0,O⟩)(hl:its.length<=70)(o: ∀x∈its,x.ok)(w:U)(hi:Nc w g its):μ ψ 120 #[K ao its.length cap] w λr w' =>r=ε (G (Bp its))/\Al w w' :=by
 have HI:=Af hi;have H:=Af l;have HK:=Af o;have R:=Af (PH its o);have p:χ (Al w w):=Ag.refl _ w;have HJ:χ (Bp its=((Lv its its.length).1++(Lv its its.length).2)++An (endL its.length (Lv its its.length).2.size (Lv its its.length).1.size)):=rfl;clear hi o l;go_in;go_wp2;go_loopw [3,4,5] (λs c x wr=> ∃i:N,i<=its.length/\s=G (Lv its i).1/\c=G (Lv its i).2/\x=I Q i/\χ (Al w wr)) (λ_ _ x _=>its.length- (intOf x).toNat)
 .exact ⟨0,Aa,rfl,rfl,rfl,p⟩
 clear p;obtain⟨i,X,rfl,rfl,rfl,p⟩:=hrel;obtain⟨a4,a5⟩:=R i X;by_cases B:i<its.length
 .have C:(i:Z)<(its.length:Z):=Aa;have l:=H Aa;subst l;obtain⟨T,c1,c2,c3,c4,c5⟩:=HI.old (uh p) i B;have hx:(its.getD i Cu).ok:=by rw[qT,qY B];exact HK _ (ro _)
  obtain⟨o1,o2,o3,o4,o5,o6⟩:=hx;have HN:χ (Lv its (i+1)=(((Lv its i).1++Ke (its.getD i Cu).nm (its.getD i Cu).way (its.getD i Cu).ck (its.getD i Cu).pk (its.getD i Cu).ln)++(its.getD i Cu).sp,(Lv its i).2++Mg (its.getD i Cu).nm (its.getD i Cu).way (its.getD i Cu).ck (its.getD i Cu).pk (its.getD i Cu).ln (Lv its i).1.size)):=rfl;generalize its.getD i Cu=it at*;obtain⟨nm,way,ck,pk,ln,sp⟩:=it;simp only at*;generalize Lv its i=js at*;obtain⟨b,e⟩:=js;simp only at*;have HC:=Af (λW=>bO nm way ck pk ln b.size Aa Aa o2 o3 o4 o5 W);have u:=Af (λW=>kF nm way ck pk ln Aa o2 o3 o4 o5 W);have lz:=Rx nm way ck pk ln;have cz:=Ry nm way ck pk ln b.size;have a1: ∀W,(Op.stringOp .add e (Mg nm way ck pk ln b.size)).run ψ W=ω (G (e++Mg nm way ck pk ln b.size)) W:=λW=>ry W _ _ Aa
  have a2: ∀W,(Op.stringOp .add b (Ke nm way ck pk ln)).run ψ W=ω (G (b++Ke nm way ck pk ln)) W:=λW=>ry W _ _ Aa
  have a3: ∀W,(Op.stringOp .add (b++Ke nm way ck pk ln) sp).run ψ W=ω (G ((b++Ke nm way ck pk ln)++sp)) W:=λW=>ry W _ _ (by rw[rg];omega)
  clear lz cz;generalize(b++Ke nm way ck pk ln)++sp=z2 at*;generalize b++Ke nm way ck pk ln=z1 at*;generalize Ke nm way ck pk ln=zl at*;generalize e++Mg nm way ck pk ln b.size=z3 at*;generalize Mg nm way ck pk ln b.size=z4 at*;go_wp2_with fail;refine(HC _).mono ?_;rintro r w2 ⟨rfl,d⟩;have a0:=Br T;have e0:=Ao d T;have e1:=Ao d c1;have e2:=Ao d c2;have e3:=Ao d c3;have e4:=Ao d c4;have e5:=Ao d c5;have v: ∀W k :U,(W.cell? ⟨g,i*6,O⟩=J (G nm)/\W.cell? ⟨g,i*6+1,O⟩=J (I Q (way:Z))/\W.cell? ⟨g,i*6+2,O⟩=J (I Q (ck:Z))/\W.cell? ⟨g,i*6+3,O⟩=J (I Q (pk:Z))/\W.cell? ⟨g,i*6+4,O⟩=J (I Q (ln:Z))/\W.cell? ⟨g,i*6+5,O⟩=J (G sp)/\Al wr W)->Al W k ->(k.cell? ⟨g,i*6,O⟩=J (G nm)/\k.cell? ⟨g,i*6+1,O⟩=J (I Q (way:Z))/\k.cell? ⟨g,i*6+2,O⟩=J (I Q (ck:Z))/\k.cell? ⟨g,i*6+3,O⟩=J (I Q (pk:Z))/\k.cell? ⟨g,i*6+4,O⟩=J (I Q (ln:Z))/\k.cell? ⟨g,i*6+5,O⟩=J (G sp)/\Al wr k):=λW k h n=>⟨Ao n h.1,Ao n h.2.1,Ao n h.2.2.1,Ao n h.2.2.2.1,Ao n h.2.2.2.2.1,Ao n h.2.2.2.2.2.1,h.2.2.2.2.2.2.trans n⟩
  have a:w2.drew.cell? ⟨g,i*6,O⟩=J (G nm)/\w2.drew.cell? ⟨g,i*6+1,O⟩=J (I Q (way:Z))/\w2.drew.cell? ⟨g,i*6+2,O⟩=J (I Q (ck:Z))/\w2.drew.cell? ⟨g,i*6+3,O⟩=J (I Q (pk:Z))/\w2.drew.cell? ⟨g,i*6+4,O⟩=J (I Q (ln:Z))/\w2.drew.cell? ⟨g,i*6+5,O⟩=J (G sp)/\Al wr w2.drew:=⟨e0,e1,e2,e3,e4,e5,d.drew⟩;clear T c1 c2 c3 c4 c5 HC;go_wp2_with fail;clear e0 e1 e2 e3 e4 e5;refine Ai (S:=λW=>W.cell? ⟨g,i*6,O⟩=J (G nm)/\W.cell? ⟨g,i*6+1,O⟩=J (I Q (way:Z))/\W.cell? ⟨g,i*6+2,O⟩=J (I Q (ck:Z))/\W.cell? ⟨g,i*6+3,O⟩=J (I Q (pk:Z))/\W.cell? ⟨g,i*6+4,O⟩=J (I Q (ln:Z))/\W.cell? ⟨g,i*6+5,O⟩=J (G sp)/\Al wr W) (L:=14) Ab ?_;refine tk 0 15 (G b) 22 a ?_;refine tk 1 15 (K (J ⟨g,0,O⟩) its.length cap) 23 a ?_;refine tk 2 15 (I Q (i:Z)) 24 a ?_;refine tk 3 15 (δ (J ⟨g,i*6,O⟩)) 25 a ?_;refine tk 4 15 (δ (J ⟨g,i*6,O⟩)) 26 a ?_;refine tk 5 15 (.agg #[G nm,I Q (way:Z),I Q (ck:Z),I Q (pk:Z),I Q (ln:Z)]) 27 a ?_;refine tk 8 15 (K (J ⟨g,0,O⟩) its.length cap) 30 a ?_;refine tk 9 15 (I Q (i:Z)) 31 a ?_;refine tk 10 15 (δ (J ⟨g,i*6,O⟩)) 32 a ?_;refine tk 11 15 (δ (J ⟨g,i*6+5,O⟩)) 33 a ?_;refine tk 12 15 (G sp) 34 a ?_;refine Ah (i:=6) Ab ?_;refine ri rfl (λK' z=> ?_);go_simp;refine(u _).mono ?_;rintro r w5 ⟨rfl,D⟩;have j:=v _ _ a D;refine z _ _ ⟨λ_=>j, ?_⟩;clear z;refine tk 7 15 (G z1) 29 j ?_;refine tk 13 15 (G z2) 35 j ?_;refine Ah (i:=14) Ab ?_;refine ri rfl (λK' z=> ?_);go_simp;refine z _ _ ⟨λh=>absurd rfl h, ?_⟩;clear z;refine Am Ab ?_;have M:=Af (p.trans j.2.2.2.2.2.2);clear v a j D d u;go_wp2;go_roundw
  .exact ⟨i+1,Aa,by rw[uh HN],by rw[uh HN],by go_num,M⟩
  exact Ae
 have C:¬(i:Z)<(its.length:Z):=Aa;have A:i=its.length:=Aa;have m:χ (Bp its=((Lv its i).1++(Lv its i).2)++An (endL its.length (Lv its i).2.size (Lv its i).1.size)):=by rw[A];exact HJ
 clear A HJ;obtain⟨y,f⟩: ∃y,Bp its=y:=⟨_,rfl⟩;rw[f] at m;have q:=Af f;clear f;generalize Lv its i=js at*;obtain⟨b,e⟩:=js;simp only at*;have t:=Af (λW=>pJ its.length e.size b.size Aa Aa Aa W);have V:(An (endL its.length e.size b.size)).size<=100:=by rw[AE];simp[endL,AF,Bq,CF];decide
 have a1: ∀W,(Op.stringOp .add b e).run ψ W=ω (G (b++e)) W:=λW=>ry W _ _ Aa
 have a2: ∀W,(Op.stringOp .add (b++e) (An (endL its.length e.size b.size))).run ψ W=ω (G ((b++e)++An (endL its.length e.size b.size))) W:=λW=>ry W _ _ (by rw[rg];omega)
 rw[<-uh m] at a2;clear V m;generalize An (endL its.length e.size b.size)=ze at*;generalize b++e=zz at*;go_wp2_with fail;refine(t _).mono ?_;rintro r w6 ⟨rfl,F⟩;have P:=Af (p.trans F);clear F t;go_wp2;go_ret;exact⟨by rw[uh q];rfl,P⟩
