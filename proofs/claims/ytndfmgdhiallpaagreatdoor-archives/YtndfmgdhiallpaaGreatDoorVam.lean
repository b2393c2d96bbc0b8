import Derived.Test.YtndfmgdhiallpaaGreatDoorVaf
import Derived.Test.YtndfmgdhiallpaaGreatDoorVal
set_option linter.all false
set_option maxRecDepth 100000
set_option maxHeartbeats 4000000
open _root_ renaming Option.some->J,Option.none->O,Int->Z,Nat->N,Go.Value.int->I,Go.Value.string->G,Go.IntKind.i64->Q,ByteArray->Y,List->E,Go.World->U,Go.Value.slice->K,Go.Value->β,Go.Obj.cells->γ,Go.Value.pointer->δ,Go.Ending.returned->ε,absurd->κ,Go.Calls->μ,Go.TypeId->ν,Go.IntKind.u32->σ,Array->φ,Go.RowKit.Hid->χ,Go.Proofs.Tryz.prog->ψ
namespace Go.Proofs.YtndfmgdhiallpaaGreatDoor
open Go.RowKit Go.Maps Go.Proofs.Tryz
def Xy(d:Y)(q:d.size<=20000)(w:U):
 μ ψ 137 #[G d] w λr w' =>r=ε (δ (J ⟨w.heap.size+2,0,O⟩))/\Al w w' /\Fd w' (w.heap.size+2) w.heap.size (w.heap.size+1) d 0/\w'.heap.size=w.heap.size+3:=by
 have o:= @vL ψ;obtain⟨p,e,f,g,i⟩:=rN Jf;have n: ∀W:U,(Instr.makeSlice 33 (I Q (d.size:Z)) (I Q (d.size:Z))).run ψ W=.ok (K (J ⟨W.heap.size,0,O⟩) d.size d.size) (W.alloc (γ (madeCells #[I Q 0] d.size) 3)):=by
  intro W;have h:=vE (P:=ψ) W 33 3 p _ underlying33 e f .i64 .i64 d.size d.size Aa Aa (by rw[i];omega) Aa;rw[g,rO,ug] at h;exact h
 have m:χ (Al w (((w.alloc (.map #[] 0)).alloc (γ (madeCells #[I Q 0] d.size) 3)).alloc (γ #[G d,.map (J w.heap.size),K (J ⟨w.heap.size+1,0,O⟩) d.size d.size] jd))):=(((Ag.refl _ w).alloc _).alloc _).alloc _;have a:(((w.alloc (.map #[] 0)).alloc (γ (madeCells #[I Q 0] d.size) 3)).alloc (γ #[G d,.map (J w.heap.size),K (J ⟨w.heap.size+1,0,O⟩) d.size d.size] jd)).ownsMap ψ 9 (plainElem (H:=Unit) ψ 3) w.heap.size 0 (.map []):=
  ((vX w ψ 9 (plainElem ψ 3)).alloc _).alloc _
 have b:DR (((w.alloc (.map #[] 0)).alloc (γ (madeCells #[I Q 0] d.size) 3)).alloc (γ #[G d,.map (J w.heap.size),K (J ⟨w.heap.size+1,0,O⟩) d.size d.size] jd)) (w.heap.size+1) 3 d.size (λ_=> I Q ((0:N):Z)):=by
  have h:=(DR.new (w.alloc (.map #[] 0)) (madeCells #[I Q 0] d.size) 3 d.size (λ_=> I Q ((0:N):Z)) (by simp[madeCells]) (λj k=>by simp[madeCells,k,uX])).alloc (γ #[G d,.map (J w.heap.size),K (J ⟨w.heap.size+1,0,O⟩) d.size d.size] jd);rw[rr] at h;exact h
 have l:χ (Fd (((w.alloc (.map #[] 0)).alloc (γ (madeCells #[I Q 0] d.size) 3)).alloc (γ #[G d,.map (J w.heap.size),K (J ⟨w.heap.size+1,0,O⟩) d.size d.size] jd)) (w.heap.size+2) w.heap.size (w.heap.size+1) d 0):=by
  refine⟨?_,⟨_,a,JN.zero d⟩,λ_=>0,b,λj k _=>Aa⟩;have h:=rh ((w.alloc (.map #[] 0)).alloc (γ (madeCells #[I Q 0] d.size) 3)) (γ #[G d,.map (J w.heap.size),K (J ⟨w.heap.size+1,0,O⟩) d.size d.size] jd);rw[rr,rr] at h;exact h
 have c:χ ((((w.alloc (.map #[] 0)).alloc (γ (madeCells #[I Q 0] d.size) 3)).alloc (γ #[G d,.map (J w.heap.size),K (J ⟨w.heap.size+1,0,O⟩) d.size d.size] jd)).heap.size=w.heap.size+3):=by
  unfold χ;rw[rr,rr,rr]
 clear a b;go_in;go_wp2;go_ret;exact⟨rfl,m,l,c⟩
abbrev wrT:ν:=184
def Sv:wrT≠5:=Ac
def Wr.slice{w:U}{g:N}{t:ν}{R:φ β}{S:N->Prop}{B:E N}(h:Wr w g t R S B): ∃ao cap,w.cell? ⟨g,0,O⟩=J (K ao (AN B).length cap)/\∀n,(convert 62 9 (K ao (AN B).length cap)).run ψ (w.drewN n)=.ok (G ⟨(AN B).toArray⟩) (w.drewN n):=by
 obtain⟨ao,cap,b,a,_⟩:=h;exact⟨ao,cap,OR b,λn=>Fp (w:=w.drewN n) a⟩
def aR(n:N):(1::CO 0 2)++List.replicate (8*(((1::CO 0 2).length+7)/8)- (1::CO 0 2).length) 0++CO n 16++CO (65535- n) 16=EH n:=by
 have e:(1::CO 0 2)++List.replicate (8*(((1::CO 0 2).length+7)/8)- (1::CO 0 2).length) 0=[1,0,0,0,0,0,0,0]:=Ac;rw[e,EH,rm]
def mT(d:Y)(hd:d.size<=20000)(w:U):
 μ ψ 73 #[G d] w λr w' =>r=ε (G (GN d))/\Al w w' :=by
 have y:Al w (w.alloc (γ #[K O 0 0,I Q 0] wrT)):=(Ag.refl _ w).alloc _;have v:χ (Wr (w.alloc (γ #[K O 0 0,I Q 0] wrT)) w.heap.size wrT #[] (λk=>w.heap.size<=k) []):=
  ⟨O,0,rh w _,⟨rfl,.inl ⟨rfl,rfl⟩⟩,λb W=>by cases W⟩
 have c:χ (Bs (λk=>w.heap.size<=k) (w.alloc (γ #[K O 0 0,I Q 0] wrT))):=λk a=>by rw[rr] at a;show w.heap.size<=k;omega
 have P:=Af (lE w.heap.size wrT Sv #[] (λk=>w.heap.size<=k) (rj _) 0 Aa _ (uh c) (uh v));have p:χ (Al w (w.alloc (γ #[K O 0 0,I Q 0] wrT))):=y;clear y v;go_in;go_wp2_with fail;refine P.mono ?_;rintro r w1 ⟨rfl,i,B⟩;have q:χ (Al w w1):=p.transNew i (λk a h=>κ a (xG.2 h));have m:=Af (c.mono i.size);have R:=Af (pg w.heap.size wrT Sv #[] (λk=>w.heap.size<=k) (rj _) _ w1 B);clear P i B p c;go_wp2_with fail;refine R.mono ?_;rintro r w2 ⟨rfl,j,C⟩;have s:χ (Al w w2):=q.transNew j (λk a h=>κ a (xG.2 h));have f:=Af (m.mono j.size);have g:LE ((1::CO 0 2)++List.replicate (8*(((1::CO 0 2).length+7)/8)- (1::CO 0 2).length) 0):=by
  have e:(1::CO 0 2)++List.replicate (8*(((1::CO 0 2).length+7)/8)- (1::CO 0 2).length) 0=[1,0,0,0,0,0,0,0]:=Ac;rw[e];intro x hx;simp at hx;omega
 have S:=Af (Kr w.heap.size wrT Sv #[] (λk=>w.heap.size<=k) (rj _) _ g Ac d.size 16 Aa Aa w2 (uh f) C);clear R j C q m;go_wp2_with fail;refine S.mono ?_;rintro r w3 ⟨rfl,l,D⟩;have t:χ (Al w w3):=s.transNew l (λk a h=>κ a (xG.2 h));have o:=Af (f.mono l.size);have H:=Af (Kr w.heap.size wrT Sv #[] (λk=>w.heap.size<=k) (rj _) _ (g.append (Fa _ _)) (by rw[qU,DW];decide) (65535- d.size) 16 Aa Aa w3 (uh o) D);have V:(65535:Z)- (d.size:Z)=((65535- d.size:N):Z):=Aa;rw[aR] at H;clear S l D s f g;go_wp2_with fail;refine H.mono ?_;rintro r M ⟨rfl,A,F⟩;have L:χ (Al w M):=t.transNew A (λk a h=>κ a (xG.2 h));obtain⟨ao,cap,X,z⟩:=F.slice;have T:(convert 62 9 (K ao (AN (EH d.size)).length cap)).run ψ M=.ok (G ⟨(AN (EH d.size)).toArray⟩) M:=z 0;have a1:(⟨(AN (EH d.size)).toArray⟩:Y).size=5:=by show(AN (EH d.size)).toArray.size=5;rw[sq,Bj,Fu]
 have u:χ ((⟨(AN (EH d.size)).toArray⟩:Y)++d=GN d):=by
  unfold χ;rw[Jj,GN,FV];congr 3;have h:=rI (λx:Y=>x.data.toList) (My d);exact h.symm
 clear H A F t o z;generalize(AN (EH d.size)).length=n at*;generalize(⟨(AN (EH d.size)).toArray⟩:Y)=pk at*;have a0:¬maxLen<pk.size+d.size:=by unfold maxLen;omega
 go_wp2;go_ret;exact⟨by rw[<-uh u];rfl,L⟩
def Wr.to{w:U}{g:N}{t:ν}{R:φ β}{S T:N->Prop}{B:E N}(h:Wr w g t R S B)(c: ∀k,k<w.heap.size->S k->T k):Wr w g t R T B:=by
 obtain⟨ao,cap,d,how,a⟩:=h;refine⟨ao,cap,d,how,λb hb=>c b.block ?_ (a b hb)⟩;exact aaz
def Wr.kept{w w' :U}{g:N}{t:ν}{R:φ β}{S T:N->Prop}{B:E N}(h:Wr w g t R S B)(i:Ag T w w')(l:¬T g)(j: ∀k,S k->¬T k):Wr w' g t R S B:=by
 obtain⟨ao,cap,f,e,c⟩:=h;refine⟨ao,cap,(i.block g (Jm f) l).trans f,Co e i (λb d=> ?_),c⟩;cases ao with
 |none=>cases d
 |some a=>injection d with d;subst d;exact j _ (c a rfl)
def Pk.kept{w w' :U}{g b a:N}{S T:N->Prop}{B:E N}(h:Pk w g b a S B)(c:Ag T w w')(i:¬T g)(d:¬T b)(e:¬T a)(f: ∀k,S k->¬T k):Pk w' g b a S B:=
 ⟨h.1.kept c i f,h.2.kept c d e⟩
def Jq(d:Y)(q:N)(B:E N):Prop:=B++Fk (BU d q)++FG 256=Kz (BU d 0)/\B.length<=3+31*q/\LE B
def Jq.start(d:Y):Jq d 0 (1::CO 1 2):=by
 have e:(1::CO 1 2)=[1,1,0]:=Ac;rw[e];exact⟨by simp[Kz],Ad,by intro x a;simp at a;omega⟩
def Jq.next{d:Y}{q:N}{B:E N}(h:Jq d q B)(c:d.size<=20000)(e:q<d.size):Jq d (q+DN d q) (B++FI (Gf d q)):=by
 obtain⟨a,f,b⟩:=h;have i:=(Sh (d:=d) (q:=q) c).1;have g:=IM d q;refine⟨?_,by rw[qU];omega,b.append (TA _)⟩;rw[Is e,GL] at a;rw[<-a];simp only[rm]
def Jq.done{d:Y}{q:N}{B:E N}(h:Jq d q B)(b:¬q<d.size):B++FG 256=Kz (BU d 0):=by
 obtain⟨a,_,_⟩:=h;rw[Iu b] at a;simpa [Fk] using a
def Xz(d:Y)(q:N)(i:d.size<=20000)(j:q<d.size):(Et d q=(0,0)/\Gf d q=.inl (As d q)/\DN d q=1)\/
 ∃len a,Et d q=(len,a)/\3<=len/\len<=258/\1<=a/\a<=20000/\q+len<=d.size/\Gf d q=.inr (len,a)/\DN d q=len:=by
 rcases LG d q with h|h
 .left;unfold Gf DN;rw[h];exact⟨rfl,rfl,rfl⟩
 right
 obtain⟨b,c,e,f,g,_⟩:=h;refine⟨(Et d q).1,(Et d q).2,rfl,b,c,f,Aa,e, ?_, ?_⟩
 .unfold Gf;rw[rc Aa]
 unfold DN;rw[rc Aa]
def QW{n:N}(a:n<1048576):(FloatKind.f64.format.order (fN n) 0==J Ordering.eq)=decide (n=0):=by
 have h:=TF a (show 0<1048576 by omega);rw[Oa] at h;rw[h];by_cases h0:n=0
 .subst h0;rfl
 rw[xh.2 (Nat.pos_of_ne_zero h0),qX h0];rfl
def mU(d:Y)(hd:d.size<=20000)(w:U):
 μ ψ 74 #[G d] w λr w' =>r=ε (G (Fs d))/\Al w w' :=by
 have H1:=Af (Xv w);go_in;go_wp2_with fail;refine H1.mono ?_;rintro r w1 ⟨p,D,C,rfl,d7,f1,e5,f2,e6,l,a3,d8⟩;have c9:Wr w1 p jG (mQ D C) (λk=>k=p\/w1.heap.size<=k) []:=⟨O,0,d8,⟨rfl,.inl ⟨rfl,rfl⟩⟩,λb hb=>by cases hb⟩;have H2:=Af (lE p jG Pa (mQ D C) (λk=>k=p\/w1.heap.size<=k) (.inl rfl) 1 Aa w1 (λk c=> .inr c) c9);have V:=Af a3;have a6:=Af d7;clear H1 a3 d8 c9 d7;go_wp2_with fail;refine H2.mono ?_;rintro r w2 ⟨rfl,M,e0⟩;have f4:=M.size;have W:=Af (V.kept M Aa Aa);have a7:χ (Al w w2):=a6.transNew M (λk c h=>by have:=a6.size;omega);have c3:=Af e0;have H3:=Af (Xy d hd w2);have a0:=Af l;clear H2 M e0 V a6 l;go_wp2_with fail;refine H3.mono ?_;rintro r w3 ⟨rfl,R,d1,d9⟩;have X:=Af (W.kept R (λx=>x) (λx=>x));have c0:χ (Al w w3):=a7.trans R;have l:=uh a0;obtain⟨S,F⟩: ∃S:N->Prop,S=λk=>k=p\/(w1.heap.size<=k/\k<w2.heap.size)\/w3.heap.size<=k:=⟨_,rfl⟩
 have c1:χ (Pk w3 p D C S (1::CO 1 2)):=
  ⟨(c3.to (λk c h=>by rw[F];rcases h with h|h;exact .inl h;exact .inr (.inl ⟨h,c⟩))).kept R (λx=>x) (λ_ _ x=>x),X⟩
 have f3:=a7.size;have b5:S p:=by rw[F];exact .inl rfl
 have b3:¬S D:=by rw[F];simp only[];omega
 have b2:¬S C:=by rw[F];simp only[];omega
 have b6:¬S w2.heap.size:=by rw[F];simp only[];omega
 have b4:¬S (w2.heap.size+1):=by rw[F];simp only[];omega
 have c7:¬S (w2.heap.size+2):=by rw[F];simp only[];omega
 have T:χ (Bs S w3):=λk c=>by rw[F];exact .inr (.inr c)
 have c8: ∀k,k<w.heap.size->¬S k:=λk c=>by rw[F];simp only[];omega
 have d6: ∀k,k<w.heap.size->¬(k=w2.heap.size\/k=w2.heap.size+1):=λk c=>by omega
 have d4:¬(p=w2.heap.size\/p=w2.heap.size+1):=Aa;have d3:¬(D=w2.heap.size\/D=w2.heap.size+1):=Aa;have d2:¬(C=w2.heap.size\/C=w2.heap.size+1):=Aa;have a2: ∀k,S k->¬(k=w2.heap.size\/k=w2.heap.size+1):=λk c h=>by rcases h with rfl|rfl;exact b6 c;exact b4 c
 have b9:=Af d1;have a1:=Af a2;have b0:=Af c8;have c4:=Af d6;clear F H3 W c3 a7 R d1 X a0 l f4 f1 e5 f2 e6 d9 f3 a2 c8 d6;generalize w2.heap.size=gm at*;go_wp2;go_loopw [5,6,7] (λx _ _ wr=> ∃(q:N) (B:E N),q<=d.size/\x=I Q q/\χ (Jq d q B)/\χ (Pk wr p D C S B)/\χ (Fd wr (gm+2) gm (gm+1) d q)/\χ (Bs S wr)/\χ (Al w wr)) (λx _ _ _=>d.size- (intOf x).toNat)
 .exact ⟨0,_,Aa,rfl,Jq.start d,c1,b9,T,c0⟩
 obtain⟨q,B,e9,rfl,HL,HP,HF,f,HO⟩:=hrel;clear c1 b9 T c0;have f6:=HL.2.1;have b1:=HL.2.2;by_cases L:q<d.size
 .have d5:(q:Z)<(d.size:Z):=Aa;have m:=Af (dM (gm+2) gm (gm+1) d hd q e9 wr (uh HF));have H:=Af (HL.next hd L);rcases Xz d q hd L with⟨e1,e2,e3⟩|⟨len,c5,e1,h3,c6,e7,e8,f0,e2,e3⟩
  .rw[e1] at m;rw[e2,e3] at H;have f8:=AC (s:=d) (k:=q) L;have f7:=Bf d q;have o:=Af (λk=>Ss p D C S b5 b3 b2 B b1 Aa (As d q) Aa (wr.drewN k) (uh f) (uh HP));generalize As d q=b at*;have e4:(FloatKind.f64.format.order (fN 0) 0==J Ordering.eq)=true:=QW (n:=0) Aa;clear e1 e2 e3;go_wp2_with fail;refine m.mono ?_;rintro r w4 ⟨rfl,k4,rfl⟩;clear m;go_wp2_with fail;refine(o k4).mono ?_;rintro r A ⟨rfl,a,i⟩;have t:=Af (HF.kept (((Ag.refl S wr).drewN k4).trans a) c7 b6 b4);have g:=Af (f.mono (w' :=A) a.size);have j:χ (Al w A):=(HO.drewN k4).transNew a (λk c h=>κ h (b0 k c));have v:=Af (dN (gm+2) gm (gm+1) d hd q 1 Aa A (uh t));have y:=Af i;clear o a i HF f HO HP;go_wp2_with fail;refine v.mono ?_;rintro r w6 ⟨rfl,e,z⟩;have a9:=Af (y.kept e d4 d3 d2 (uh a1));have u:=Af (g.mono e.size);have a8:χ (Al w w6):=j.transNew e (λk c h=>κ h (c4 k c));have a5:=Af z;clear v e z y t g j;go_wp2;go_roundw
   .exact ⟨q+1,_,Aa,by go_num,H,a9,a5,u,a8⟩
   exact Ae
  rw[e1] at m;rw[e2,e3] at H;have b7:=Af (λk=>ph p D C S b5 b3 b2 B b1 Aa len c5 h3 c6 e7 e8 (wr.drewN k) (uh f) (uh HP));have e4:(FloatKind.f64.format.order (fN len) 0==J Ordering.eq)=false:=by rw[QW Aa,qX Aa]
  have g1:=KO (P:=ψ) (n:=len) Aa 196 3 (by rw[underlying196];rfl) underlying3;have g0:=KO (P:=ψ) (n:=c5) Aa 196 3 (by rw[underlying196];rfl) underlying3;clear e1 e2 e3;go_wp2_with fail;refine m.mono ?_;rintro r w4 ⟨rfl,k4,rfl⟩;clear m;go_wp2_with fail;refine(b7 k4).mono ?_;rintro r A ⟨rfl,a,i⟩;have t:=Af (HF.kept (((Ag.refl S wr).drewN k4).trans a) c7 b6 b4);have g:=Af (f.mono (w' :=A) a.size);have j:χ (Al w A):=(HO.drewN k4).transNew a (λk c h=>κ h (b0 k c));have v:=Af (dN (gm+2) gm (gm+1) d hd q len f0 A (uh t));have y:=Af i;clear b7 a i HF f HO HP;go_wp2_with fail;refine v.mono ?_;rintro r w6 ⟨rfl,e,z⟩;have a9:=Af (y.kept e d4 d3 d2 (uh a1));have u:=Af (g.mono e.size);have a8:χ (Al w w6):=j.transNew e (λk c h=>κ h (c4 k c));have a5:=Af z;clear v e z y t g j;go_wp2;go_roundw
  .exact ⟨q+len,_,Aa,by go_num,H,a9,a5,u,a8⟩
  exact Ae
 have d5:¬(q:Z)<(d.size:Z):=Aa;have HD:=Af (HL.done L);have o:=Af (Ss p D C S b5 b3 b2 B b1 Aa 256 Aa wr (uh f) (uh HP));rw[uh HD] at o;clear HF HL HP HD;go_wp2_with fail;refine o.mono ?_;rintro r A ⟨rfl,a,i⟩;obtain⟨ao,cap,f9,d0⟩:=i.1.slice;have f5:(convert 62 9 (K ao (AN (Kz (BU d 0))).length cap)).run ψ A=.ok (G (Fs d)) A:=d0 0;have j:χ (Al w A):=HO.transNew a (λk c h=>κ h (b0 k c));clear o a i HO f d0;generalize(AN (Kz (BU d 0))).length=n at*;generalize a4:Fs d=res at*;have c2:=Af a4;clear a4;go_wp2;go_ret;exact⟨by rw[uh c2];rfl,j⟩
def ey(d:Y)(j:d.size<=20000)(w:U):
 μ ψ 42 #[G d] w λr w' =>r=ε (G (CA d))/\Al w w' :=by
 have g:=Af (mT d j w);have h:=Af (λW=>mU d j W);have i:χ (CA d=if(GN d).size<(Fs d).size then GN d else Fs d):=rfl;generalize CA d=res at*;generalize GN d=a at*;generalize Fs d=b at*;go_in;go_wp2_with fail;refine g.mono ?_;rintro r w1 ⟨rfl,c⟩;clear g;go_wp2_with fail;refine(h w1).mono ?_;rintro r w2 ⟨rfl,e⟩;have HO:χ (Al w w2):=Ag.trans c e;clear h c e;by_cases k:a.size<b.size
 .have f:(a.size:Z)<(b.size:Z):=Aa;have HE:χ (res=a):=by unfold χ;rw[uh i,rd k]
  exact abm
 have f:¬(a.size:Z)<(b.size:Z):=Aa;have HE:χ (res=b):=by unfold χ;rw[uh i,rc k]
 exact abm
def DP(d:Y)(f:d.size<=140737488355328)(w:U):
 μ ψ 16 #[G d] w λr w' =>(d.size<=20000/\r=ε (.tuple #[G (CA d),I Q 0])\/20000<d.size/\r=ε (.tuple #[G ⟨#[]⟩,I Q 1]))/\Al w w' :=by
 by_cases c:d.size<=20000
 .have e:=Af (ey d c w);have a:¬(20000:Z)<(d.size:Z):=Aa;generalize CA d=res at*;go_in;go_wp2_with fail;refine e.mono ?_;rintro r w1 ⟨rfl,b⟩;go_wp2;go_ret2;exact⟨.inl ⟨c,rfl⟩,b⟩
 have a:(20000:Z)<(d.size:Z):=Aa;go_in;go_wp2;go_ret2;exact⟨.inr ⟨Aa,rfl⟩,Ag.refl _ w⟩
section
variable {P:Program} {ops:φ Oper} {Q:Exit->Act->U->Prop} {md:Region.Mode} {S:U->Prop} {L:N}
def Lh{i j:N}{n:N}{b:φ Bool}{a:Act}{w:U}(hr:Region.ready md ops b=[i,j])
 (h:wpOp P ops Q i (λa' w' =>(i≠L->S w')/\CR P md ops Q S L n (b.setIfInBounds i true) a' w') a w)
 (k:wpOp P ops Q j (λa' w' =>(j≠L->S w')/\CR P md ops Q S L n (b.setIfInBounds j true) a' w') a w):CR P md ops Q S L (n+1) b a w:=wg
end
def FW{w w' :U}{k:N}{o:Obj}(a:Al w w')(h:w.heap[k]? =J o):w'.heap[k]? =J o:=(a.block k (qW.1 h).1 (λx=>x)).trans h
def CC:(prog.info? 131).map (·.size)=J 5:=Ab
def MH(a e:Y)(b c d:Z):(#[G a,I σ b,I σ c,I σ d,G e]:φ β).all (·.oneCell')=true:=by simp[Value.oneCell']
def FK(nm d:Y):It:=if(CA d).size<d.size then⟨nm,8,Bz d,d.size,CA d⟩ else⟨nm,0,Bz d,d.size,d⟩
def JR{nm d:Y}(h:(CA d).size<d.size):FK nm d=⟨nm,8,Bz d,d.size,CA d⟩:=rd h
def JS{nm d:Y}(h:¬(CA d).size<d.size):FK nm d=⟨nm,0,Bz d,d.size,d⟩:=rc h
def jI(nm d:Y)(g:d.size<=20000)(w:U):
 μ ψ 88 #[.agg #[G nm,G d]] w λr w' =>r=ε (.agg (FK nm d).v)/\Al w w' :=by
 have HD:=Af (λW=>ey d g W);have HC:=Af (λW=>Iw d W (by unfold maxLen;omega));have HSH:=Af (λh=>JR (nm:=nm) (d:=d) h);have HPL:=Af (λh=>JS (nm:=nm) (d:=d) h);generalize FK nm d=it at*;have f:=EG d;have l:(CA d).size<=1000000:=by have:=GO d;omega
 generalize Bz d=ck at*;generalize CA d=z at*;have n:IntKind.u32.wrap (d.size:Z)=(d.size:Z):=by rw[sG];omega
 have b:Al w ((w.alloc (γ #[G nm,G d] 50)).alloc (γ #[G ⟨#[]⟩,I σ 0,I σ 0,I σ 0,G ⟨#[]⟩] 131)):=((Ag.refl _ w).alloc _).alloc _;have c:Al (w.alloc (γ #[G nm,G d] 50)) ((w.alloc (γ #[G nm,G d] 50)).alloc (γ #[G ⟨#[]⟩,I σ 0,I σ 0,I σ 0,G ⟨#[]⟩] 131)):=(Ag.refl _ _).alloc _;have a:=FW c (rh w (γ #[G nm,G d] 50));have hit:=rh (w.alloc (γ #[G nm,G d] 50)) (γ #[G ⟨#[]⟩,I σ 0,I σ 0,I σ 0,G ⟨#[]⟩] 131);have hsz:((w.alloc (γ #[G nm,G d] 50)).alloc (γ #[G ⟨#[]⟩,I σ 0,I σ 0,I σ 0,G ⟨#[]⟩] 131)).heap.size=w.heap.size+2:=by rw[rr,rr]
 rw[rr] at hit;have HA:=Af b;have HX:=Af a;have HT:=Af hit;clear b c a hit;go_in;go_upto_region 1 with fail;generalize(w.alloc (γ #[G nm,G d] 50)).alloc (γ #[G ⟨#[]⟩,I σ 0,I σ 0,I σ 0,G ⟨#[]⟩] 131)=W at*;have hc0:W.cell? ⟨w.heap.size,0,O⟩=J (G nm):=by rw[qV W _ 0 _ _ (0,0) (uh HX)];rfl
 have hc1:W.cell? ⟨w.heap.size,1,O⟩=J (G d):=by rw[qV W _ 1 _ _ (0,0) (uh HX)];rfl
 have HSW:W.drew.cell? ⟨w.heap.size,0,O⟩=J (G nm)/\W.drew.cell? ⟨w.heap.size,1,O⟩=J (G d)/\True:=⟨hc0,hc1,trivial⟩;refine Ai (S:=λW=>W.cell? ⟨w.heap.size,0,O⟩=J (G nm)/\W.cell? ⟨w.heap.size,1,O⟩=J (G d)/\True) (L:=13) Ab ?_;refine tk 0 14 (δ (J ⟨w.heap.size,0,O⟩)) 5 HSW ?_;refine tk 1 14 (G nm) 6 HSW ?_;refine tk 2 14 (δ (J ⟨w.heap.size,1,O⟩)) 7 HSW ?_;refine tk 3 14 (G d) 8 HSW ?_;refine tk 5 14 (δ (J ⟨w.heap.size,1,O⟩)) 10 HSW ?_;refine tk 6 14 (G d) 11 HSW ?_;refine tk 7 14 (I Q (d.size:Z)) 12 HSW ?_;refine tk 8 14 (I σ (d.size:Z)) 13 HSW ?_;refine tk 9 14 (δ (J ⟨w.heap.size,1,O⟩)) 14 HSW ?_;refine tk 10 14 (G d) 15 HSW ?_;have hS2: ∀o,(W.drew.alloc o).cell? ⟨w.heap.size,0,O⟩=J (G nm)/\(W.drew.alloc o).cell? ⟨w.heap.size,1,O⟩=J (G d)/\True:=by
  intro o;have m:(W.drew.alloc o).heap[w.heap.size]? =J (γ #[G nm,G d] 50 (0,0)):=FW (((Ag.refl _ W).drew).alloc o) (uh HX);refine⟨?_, ?_,trivial⟩<;>(rw[qV _ _ _ _ _ (0,0) m];rfl)
 have e:W.drew.heap.size=w.heap.size+2:=hsz;refine Lh (i:=4) (j:=12) Ab ?_ ?_
 .refine ri rfl (λK' hK=> ?_);go_simp;refine(HC _).mono ?_;rintro r w1 ⟨rfl,rfl⟩;refine hK _ _ ⟨λ_=>HSW, ?_⟩;clear hK;refine tk 11 14 (.agg #[G nm,I σ 0,I σ (ck:Z),I σ (d.size:Z),G d]) 16 HSW ?_;refine Ah (i:=12) Ab ?_;refine ri rfl (λK' hK=> ?_);go_simp;refine hK _ _ ⟨λ_=>hS2 _, ?_⟩;clear hK;exact yR
 refine ri rfl (λK' hK=> ?_);go_simp;refine hK _ _ ⟨λ_=>hS2 _, ?_⟩;clear hK;refine Ah (i:=4) Ab ?_;refine ri rfl (λK' hK=> ?_);go_simp;refine(HC _).mono ?_;rintro r w1 ⟨rfl,rfl⟩;refine hK _ _ ⟨λ_=>hS2 _, ?_⟩;clear hK;refine tk 11 14 (.agg #[G nm,I σ 0,I σ (ck:Z),I σ (d.size:Z),G d]) 16 (hS2 _) ?_;exact yR
def QX:(prog.info? 131).map (λi=>(i.zero,i.size,i.bytes))=J (J (.agg #[G ⟨#[]⟩,I σ 0,I σ 0,I σ 0,G ⟨#[]⟩]),5,48):=Ab
abbrev Fl:=Y×Y
def AG(fs:E Fl):E β:=fs.flatMap λf=>[G f.1,G f.2]
def Du(fs:E Fl):(AG fs).length=fs.length*2:=by
 induction fs with
 |nil=>rfl
 |cons a r ih=>rw[AG,tc,qU,<-AG,ih,sB];simp;omega
def Nq(fs:E Fl)(j:N)(hj:j<fs.length):(AG fs)[j*2]? =J (G (fs.getD j default).1)/\(AG fs)[j*2+1]? =J (G (fs.getD j default).2):=by
 induction fs generalizing j with
 |nil=>simp at hj
 |cons a r ih=>
  rw[AG,tc,<-AG];exact wA
def Au(w:U)(v:β)(fs:E Fl):Prop:=w.ownsRow 0 50 2 v fs.length (AG fs)
def Au.slice{w:U}{v:β}{fs:E Fl}(h:Au w v fs)(f:0<fs.length): ∃g cap,v=K (J ⟨g,0,O⟩) fs.length cap/\g<w.heap.size/\∀j,j<fs.length->w.cell? ⟨g,j*2,O⟩=J (G (fs.getD j default).1)/\w.cell? ⟨g,j*2+1,O⟩=J (G (fs.getD j default).2):=by
 obtain⟨d,⟨rfl,i⟩|⟨g,cap,a,rfl,h1,b,e⟩⟩:=h
 .omega
 refine⟨g,cap,rfl,(qW.1 b).1,λj c=> ?_⟩;have hcl:=ur (w:=w) ⟨d,.inr ⟨g,cap,a,rfl,h1,b,e⟩⟩ (g:=g) rfl;obtain⟨ha,hb⟩:=Nq fs j c;exact aan
def XA{wr:U}(i:It): ∀j u,i.v.toList[j]? =J u->(wr.alloc (γ i.v 131)).cell? ((⟨wr.heap.size,0,O⟩:Addr).add j)=J u:=by
 intro j u h;rw[rH,rx,qV _ _ _ _ _ (0,0) (rh wr _)];rw[sC] at h;exact h
def Ba(fs:E Fl):E It:=fs.map λf=>FK f.1 f.2
def Nr(fs:E Fl)(i:N)(h:i<fs.length):Ba (fs.take (i+1))=Ba (fs.take i)++[FK (fs.getD i default).1 (fs.getD i default).2]:=by
 rw[Ba,Ba,tu,qY h,qT,qY h,sv];rfl
def Ns(a b:E It):CX (a++b)=CX a++CX b:=by simp[CX]
def JT(i:It):CX [i]=i.v.toList:=by simp[CX]
def BI(s:Y)(a:N):N->N
 |0=>0
 |n+1=>BI s a n+As s (a+n)*2^(8*n)
def Em(s:Y)(a n:N):BI s a n<2^(8*n):=by
 induction n with
 |zero=>simp[BI]
 |succ n ih=>
  have b:=Bf s (a+n);rw[BI,show 8*(n+1)=8*n+8 by omega,uW];have:As s (a+n)*2^(8*n)<=255*2^(8*n):=sA _ Aa;omega
def jJ(s:Y)(a n:N):BI s a n|||As s (a+n)*2^(8*n)=BI s a (n+1):=by
 have h:=xV (Em s a n) (As s (a+n));rw[BI,yD,tP,<-h,uL,tP]
def Il(s:Y)(a n:N)(H:n<=4)(C:a+n<=s.size)(L:s.size<=1000000)(w:U):
 μ ψ 272 #[G s,I Q a,I Q n] w λr w' =>r=ε (I σ (BI s a n))/\w' =w:=by
 go_in;go_wp2_with fail;go_loop [7,8,10] (λu _ x=> ∃j:N,j<=n/\x=I Q j/\u=I σ (BI s a j)) (λ_ _ x=>n- (intOf x).toNat)
 .exact ⟨0,Aa,rfl,rfl⟩
 obtain⟨j,F,rfl,rfl⟩:=hrel;by_cases z:j<n
 .have d:(j:Z)<(n:Z):=Aa;have y:a+j<s.size:=Aa;have D:=AC (s:=s) (k:=a+j) y;have v:=Bf s (a+j);have i:=Em s a j;have hp:2^(8*j)<=2^24:=rG Aa Aa;have f:2^(8*(j+1))<=2^32:=rG Aa Aa;have B:As s (a+j)*2^(8*j)<4294967296:=by
   have:As s (a+j)*2^(8*j)<=255*2^24:=tY Aa hp;omega
  have e:=jJ s a j;have c:BI s a j<4294967296:=Aa;have p:=uH (BI s a j) (As s (a+j)*2^(8*j)) c B;have A:(As s (a+j):Z)*2^(8*j)=((As s (a+j)*2^(8*j):N):Z):=by rw[sY,so];rfl
  rw[e] at p;clear hp f i e;generalize As s (a+j)*2^(8*j)=q at*;generalize As s (a+j)=b at*;generalize BI s a j=m at*;have l:BI s a (j+1)<4294967296:=by
   have:=Em s a (j+1);have f:2^(8*(j+1))<=2^32:=rG Aa Aa;omega
  have o:χ (∃M,BI s a (j+1)=M):=⟨_,rfl⟩;obtain⟨M,g⟩:=uh o;rw[g] at p l;have t:=Af g;clear g o;go_wp2_with fail;go_round
  .exact ⟨j+1,Aa,by go_num,by rw[uh t]⟩
  exact Ae
 have d:¬(j:Z)<(n:Z):=Aa;have h:j=n:=Aa;subst h;exact yU
