import Derived.Test.YtndfmgdhiallpaaGreatDoorVah
import Derived.ScopeJumps
set_option linter.all false
set_option maxRecDepth 100000
set_option maxHeartbeats 4000000
open _root_ renaming Option.some->J,Option.none->O,Int->Z,Nat->N,Go.Value.int->I,Go.Value.string->G,Go.IntKind.i64->Q,ByteArray->Y,List->E,Go.World->U,Go.Value.slice->K,Go.Value->β,Go.Obj.cells->γ,Go.Value.pointer->δ,Go.Ending.returned->ε,Go.Value.bool->ζ,absurd->κ,Go.Calls->μ,Go.RowKit.Hid->χ,Go.Proofs.Tryz.prog->ψ
namespace Go.Proofs.YtndfmgdhiallpaaGreatDoor
open Go.RowKit Go.Proofs.Tryz
def aJ{s:Y}{D:E N}{y a1:N}(l:E UInt8)(h:¬8*s.size<a1+AK y):EL s D y a1 l=match KR s D (a1+AK y) with
 |none=> .inl (.inr 2)
 |some (f,c)=>if l.length<f then .inl (.inr 2) else if 20000<l.length+(Bc y+Aq s a1 (AK y)) then .inl (.inr 1) else .inr (c,(BN l f (Bc y+Aq s a1 (AK y)))):=by
 unfold EL KR;rw[rc h];cases hd:dec s D (a1+AK y) with
 |none=>rfl
 |some p=>
  obtain⟨d,c⟩:=p;show(if 29<d then _ else _)=_;by_cases a:29<d
  .rw[rd a];simp only[a,vi]
  rw[rc a];by_cases b:8*s.size<c+AZ d
  .rw[rd b];simp only[a,b,vi,uw]
  rw[rc b];simp only[a,b,uw]
def ec{s:Y}{D:E N}{a f a' :N}(h:KR s D a=J (f,a')):a<a' /\a' <=8*s.size/\1<=f:=by
 unfold KR at h;split at h
 .cases h
 rename_i d a3 hd;have:=FR hd;split at h
 .cases h
 split at h
 .cases h
 injection h with h;injection h with h1 h2;have:=Nj d;omega
def Lu.mono1{w:U}{g:N}{S S' :N->Prop}{s:Y}{a:N}{l:E UInt8}(h:Lu w g S s a l)(i: ∀k,S k->S' k):Lu w g S' s a l:=by
 obtain⟨ao,cap,f,c,d⟩:=h;exact⟨ao,cap,f,c,λb e=>i _ (d b e)⟩
def jq(s:Y)(r:ZK)(w:U)(g:N)(S:N->Prop)(e:N):Prop:=(∃a l,r=.inl (a,l)/\e=0/\a<=8*s.size/\l.length<=20000/\Lu w g S s a l)\/(r=.inr e/\e≠0)
def Ue(g:N)(S:N->Prop)(m:S g)(s:Y)(hs:s.size<=140737488355328)(a:N)(l:E UInt8)(hl:l.length<=20000)(ha:a<=8*s.size)
 (M gD:N)(b7:N->Prop)(t: ∀k,b7 k->¬S k)(L D:E N)(hL:L.length<=400)(hD:D.length<=400)(w:U)(hF:Bs S w)(h:Lu w g S s a l)(f9:CJ w M b7 L)(f8:CJ w gD b7 D):
 μ ψ 147 #[δ (J ⟨g,0,O⟩),.agg #[δ (J ⟨M,0,O⟩),δ (J ⟨gD,0,O⟩)]] w λr w' =>
  Ag S w w' /\∃e:N,r=ε (I Q e)/\jq s (EU s L D a l) w' g S e:=by
 obtain⟨i0,j4,k7,k8,k9⟩:=rN FU;have g0: ∀k,b7 k->k<w.heap.size:=λk o=>by
  rcases sb k w.heap.size with h|h
  .exact h
  exact κ (hF k h) (t k o)
 have m0:g<w.heap.size:=by obtain⟨_,_,hr,_⟩:=h;exact hr.lt
 have hA:Ag (λ_=>False) w (w.alloc (γ #[δ (J ⟨M,0,O⟩),δ (J ⟨gD,0,O⟩)] 112)):=(Ag.refl _ w).alloc _;have f4:χ (Lu (w.alloc (γ #[δ (J ⟨M,0,O⟩),δ (J ⟨gD,0,O⟩)] 112)) g (λk=>S k/\k≠w.heap.size) s a l):=by
  obtain⟨ao,cp,hr,b3,c4⟩:=h;refine⟨ao,cp,hr.kept hA (λx=>x),CL b3 hA,λb hb=>⟨c4 b hb, ?_⟩⟩;obtain⟨l4,hg⟩:=CV b3 (b:=b.block) (by rw[hb];rfl);exact ww
 have e9:=Af (f9.old hA);have e6:=Af (f8.old hA);have e5:χ ((w.alloc (γ #[δ (J ⟨M,0,O⟩),δ (J ⟨gD,0,O⟩)] 112)).heap[w.heap.size]? =J (γ #[δ (J ⟨M,0,O⟩),δ (J ⟨gD,0,O⟩)] 112 (0,0))):=rh w _;have c9:S g/\g≠w.heap.size:=⟨m,Aa⟩;have c0: ∀k,b7 k->¬(S k/\k≠w.heap.size):=λk o h1=>t k o h1.1
 clear h f9 f8 hA;go_in;go_wp2_with fail;refine wp_scope_jumps 0 (λa' w' =>a'.tmps.size=72/\a'.defers=[]/\Ag S w w' /\EU s L D a l=.inr 2) (λ_ _=>0) rfl ?_ ?_
 case refine_2=>
  rintro⟨tm,df⟩ w' ⟨h4,g5,hO,g1⟩;simp only at h4 g5;subst g5;go_wp2_with fail;simp only[Exit.jump];refine rU (v:=I Q 2) ?_ rfl ⟨hO,2,rfl,.inr ⟨g1,Aa⟩⟩;have e:=results_tmp results147 (tm.setIfInBounds 4 (I Q 2)) ψ w';have e2:(tm.setIfInBounds 4 (Value.int Q 2)).getD 4 undef=I Q 2:=by simp[h4]
  rw[e2] at e;exact e
 go_wp2;go_loopw [5,6,7,8] (λ_ _ _ _ wr=> ∃a' d,χ (Lu wr g (λk=>S k/\k≠w.heap.size) s a' d /\a' <=8*s.size/\d.length<=20000/\EU s L D a l=EU s L D a' d)/\χ (CJ wr M b7 L)/\χ (CJ wr gD b7 D)/\
  χ (wr.heap[w.heap.size]? =J (γ #[δ (J ⟨M,0,O⟩),δ (J ⟨gD,0,O⟩)] 112 (0,0)))/\χ (Ag S w wr)) (λ_ _ _ _ wr=>8*s.size+1- JA wr g 1)
 .exact ⟨a,l,⟨f4,ha,hl,rfl⟩,e9,e6,e5,(Ag.refl _ w).alloc _⟩
 obtain⟨a',d,HI,e8,h9,d4,HO⟩:=hrel;obtain⟨j9,i8,e1,g6⟩:=uh HI;obtain⟨ao,cp,hr,b3,c4⟩:=j9;have k0:=HO.size;have b1:wr.cell? ⟨w.heap.size,0,O⟩=J (δ (J ⟨M,0,O⟩)):=by rw[qV _ _ 0 _ _ (0,0) (uh d4)];rfl
 have HM:=Af (AP hr.c1);have HEQ:=Af g6;have HR:=Af hr;have a8:=Af b3;have d8:=Af c4;have d9:=Af (Sp g s hs a' (K ao d.length cp) i8 M b7 (λo=>t g o m) L hL wr.drew (λk o=>rW (g0 k o) k0) hr (uh e8));clear hr b3 c4 g6 HI;have R:wr.drew.cell? ⟨w.heap.size,0,O⟩=J (δ (J ⟨M,0,O⟩)):=b1;go_upto_region 3 with fail;refine DY (S:=λW=>W.cell? ⟨w.heap.size,0,O⟩=J (δ (J ⟨M,0,O⟩))) (late:=λi=>decide (5<=i)) Ab ?_;refine tg 0 10 (δ (J ⟨g,0,O⟩)) 10 R ?_;refine tg 1 10 (δ (J ⟨g,0,O⟩)) 11 R ?_;refine tg 2 10 (δ (J ⟨g,0,O⟩)) 12 R ?_;refine tg 3 10 (δ (J ⟨w.heap.size,0,O⟩)) 13 R ?_;refine tg 4 10 (δ (J ⟨M,0,O⟩)) 14 R ?_;refine AY (i:=5) Ab ?_;refine ri rfl (λK' q=> ?_);go_simp;refine d9.mono ?_;rintro r w1 ⟨e3,a1,e0,a6,j2⟩;have X:Ag (λk=>k=g) wr w1:=(Ag.refl (λk=>k=g) wr).drew.trans e3;have HO1:=Af (HO.trans (X.of_g m));have a5:=Af (e8.kept X (λk o e=>t k o (e ▸ m)));have a4:=Af (h9.kept X (λk o e=>t k o (e ▸ m)));have j:χ (w1.heap[w.heap.size]? =J (γ #[δ (J ⟨M,0,O⟩),δ (J ⟨gD,0,O⟩)] 112 (0,0))):=(X.block w.heap.size (qW.1 (uh d4)).1 Aa).trans (uh d4);have a9:=Af (Lu.next (S:=λk=>S k/\k≠w.heap.size) (uh HR) (uh a8) (uh d8) X a6);have l3:=HO1.size;rcases j2 with⟨y,hd,rfl⟩|⟨hd,rfl⟩
 .refine q _ _ ⟨(λh=>by cases h), ?_⟩;clear q;refine AY (i:=6) Ab ?_;refine ri rfl (λK' q=> ?_);go_simp;refine q _ _ ⟨(λh=>by cases h), ?_⟩;clear q;refine Bo (i:=7) (v:=I Q (y:N)) (J 16) rfl rfl Ab rfl Ab Ab (λ_ _ _ h=>h) (.inl ⟨rfl,λW _=>by go_simp⟩) ?_;simp only[Act.put,rk,rA,rB];refine Bo (i:=8) (v:=ζ true) (J 17) rfl rfl Ab rfl Ab Ab (λ_ _ _ h=>h) (.inl ⟨rfl,λW _=>by go_simp⟩) ?_;simp only[Act.put,rk,rA,rB];refine AY (i:=9) Ab ?_;refine ri rfl (λK' q=> ?_);go_simp;refine q _ _ ⟨(λh=>by cases h), ?_⟩;clear q;refine AY (i:=10) Ab ?_;refine ri rfl (λK' q=> ?_);go_simp;refine q _ _ ⟨(λh=>by cases h), ?_⟩;clear q;refine EM Ab ?_;have P:=Af hd;have k5:y<=400:=by have:=(FR hd).2.2;omega
  have l2:=(FR hd).1;have l0:=Af a6;clear hd a6 e3 X d9 HR a8 d8 b1 R;by_cases hy:y=256
  .subst hy;go_wp2_with fail;simp only[Exit.jump];go_ret;exact⟨HO1,0,rfl,.inl ⟨a1,d,by rw[uh HEQ];exact ED (Tn (uh P)),rfl,e0,e1,a9.mono1 (λk h=>h.1)⟩⟩
  have m2:((y:Z)==256)=false:=by rw[re];omega
  by_cases h6:y<256
  .have k6:(y:Z)<256:=Aa;have b6:=Af (QG (D:=D) (l:=d) (uh P) h6);obtain⟨T,V,C,A,p⟩:=uh a9;have B:=Af (dw g s a1 T d.length V 1 e1 w1 C);by_cases j8:d.length<20000
   .rw[qZ (show d.length+1<=20000 by omega)] at B;rw[rc Aa] at b6;have l6:=C.c2;have b9:Ag (λ_=>False) w1 (w1.alloc (γ #[I .u8 (y:Z)] 5)):=(Ag.refl (λ_=>False) w1).alloc _;have f6:=Af (C.kept b9 (λx=>x));have c6:=Af (CL A b9);have c7:=Af p;have i1:=Af (Fm (wr:=w1) (n:=y));have i4:=Af (λw3 g2 cap2 h1 h2 h3=>Lu.push (w:=w1) (w1:=w1.alloc (γ #[I .u8 (y:Z)] 5)) (w3:=w3) (g:=g) (S:=λk=>S k/\k≠w.heap.size) c9 (s:=s) (a:=a1) (l:=d) (ao:=T) (cap:=V) (g2:=g2) (cap2:=cap2) (c:=y) (H:=w1.heap.size+1) h6 ⟨hF _ Aa,Aa⟩ p (Ag.oldS b9) (uh f6) (uh c6) h1 h2 h3);clear C A p b9;go_wp2_with (first
     |(go_at_call 237;refine B.mono ?_;rintro r w2 ⟨rfl,rfl⟩)
     |(at_builtin;refine wpList_append_lies _ rfl (.tmp 31) (.tmp 34) 62 rfl 0 5 i0 (I .u8 0) 1 1 underlying62 j4 k7 k8 k9 rfl Aa (K T d.length V) d.length _ rfl (uh c6) ⟨_,0,O⟩ 1 1 [I .u8 (y:Z)] rfl rfl (uh i1) (by intro u hu;simp at hu;subst hu;rfl) Aa (by unfold maxLen;omega) Aa Aa _ (by simp;rfl) ?_;intro g2 cap2 w3 z g7 g8 d2;have c3:=i4 w3 g2 cap2 z g7 g8;have l7:=c3.1.c2;have l9:=c3.1.thaw 2;have HP:=Af c3;clear z g7 g8 c3))
    go_roundw
    .exact ⟨_,_,⟨HP.2.2,e0,(by simp;omega),by rw[uh HEQ];exact RW (uh b6)⟩,a5.kept HP.2.1 c0,a4.kept HP.2.1 c0,(HP.2.1.block w.heap.size (qW.1 (uh j)).1 (λh=>h.2 rfl)).trans (uh j),HO1.trans (HP.2.1.mono (λ_ _ h=>h.1))⟩
    obtain⟨i6,i7,e4,_⟩:=HP.2.2;rw[uh HM,AP e4.c1];omega
   rw[qX (show ¬d.length+1<=20000 by omega)] at B;rw[rd Aa] at b6;clear C A p;go_wp2_with (go_at_call 237;refine B.mono ?_;rintro r w2 ⟨rfl,rfl⟩);simp only[Exit.jump];go_ret;exact⟨HO1,1,rfl,.inr ⟨by rw[uh HEQ];exact ED (uh b6),Aa⟩⟩
  have k6:¬(y:Z)<256:=Aa;obtain⟨T,V,C,A,p⟩:=uh a9;have d6:=Af (jo g s hs a1 (K T d.length V) y e0 w1 C);have i5:=Af C;have f2:=Af A;have c7:=Af p;clear C A p;go_wp2_with fail;refine d6.mono ?_;rintro r w2 ⟨a0,a2,i9,b4,g3⟩;have d7:=Af (HO1.trans (a0.of_g m));rcases g3 with⟨k1,k2,k3,k4,rfl⟩|⟨k1,n0,rfl⟩
  .have HCD:=Af (aJ (s:=s) (D:=D) (y:=y) (a1:=a1) d Aa);have j1:2^AK y<=2^5:=rG Aa (by unfold AK;repeat (first|split|omega));have j7:=Cf s a1 (AK y);have j5:=KX k2;have m1:Bc y+Aq s a1 (AK y)<=300:=Aa;have j6:a1<=a2:=Aa;rw[<-k4] at HCD;generalize Bc y+Aq s a1 (AK y)=nn at*;have HSC2:=Af (Ms (D:=D) (l:=d) (uh P) Aa k2);have h5:=d7.size;have b0:=a4.kept a0 (λk o e=>t k o (e ▸ m));have c8:=a5.kept a0 (λk o e=>t k o (e ▸ m));have b2:w2.heap[w.heap.size]? =J (γ #[δ (J ⟨M,0,O⟩),δ (J ⟨gD,0,O⟩)] 112 (0,0)):=(a0.block w.heap.size (qW.1 (uh j)).1 Aa).trans (uh j);have l5:w2.cell? ⟨w.heap.size,1,O⟩=J (δ (J ⟨gD,0,O⟩)):=by rw[qV _ _ 1 _ _ (0,0) b2];rfl
   have d5:=Af (aH g s hs a2 (K T d.length V) i9 gD b7 (λo=>t g o m) D hD w2 (λk o=>rW (g0 k o) h5) b4 b0);have i3:=Af a0;have e7:=Af b0;have f0:=Af c8;have c5:=Af b2;clear a0 b4 b0 c8 b2 d6 j5 j7 j1 k3 k4;go_wp2_with fail;refine d5.mono ?_;rintro r w3 ⟨z,a3,j0,F,g4⟩;have f1:=Af (d7.trans (z.of_g m));rcases g4 with⟨f,l8,a7,rfl⟩|⟨a7,n1,rfl⟩
   .have d2:=ec a7;rw[a7] at HCD;have f5:=Af (Lu.next (S:=λk=>S k/\k≠w.heap.size) (uh i5) (uh f2) (uh c7) (i3.trans z) F);have l1:=F.c2;have B:=Af (dw g s a3 T d.length V nn e1 w3 F);have a5:=Af (f0.kept z (λk o e=>t k o (e ▸ m)));have a4:=Af (e7.kept z (λk o e=>t k o (e ▸ m)));have j:χ (w3.heap[w.heap.size]? =J (γ #[δ (J ⟨M,0,O⟩),δ (J ⟨gD,0,O⟩)] 112 (0,0))):=(z.block w.heap.size (qW.1 (uh c5)).1 Aa).trans (uh c5);have HO1:=f1;clear F z a7 d5;by_cases d1:d.length<f
    .have j3:(d.length:Z)<(f:Z):=Aa;simp only[d1,vi] at HCD;exact wo
    have j3:¬(d.length:Z)<(f:Z):=Aa;simp only[d1,uw] at HCD;by_cases d0:20000<d.length+nn
    .simp only[d0,vi] at HCD;rw[qX (show ¬d.length+nn<=20000 by omega)] at B;go_wp2_with (go_at_call 237;refine B.mono ?_;rintro r w4 ⟨rfl,rfl⟩);simp only[Exit.jump];go_ret;exact⟨HO1,1,rfl,.inr ⟨by rw[uh HEQ];exact ED (HSC2.trans (uh HCD)),Aa⟩⟩
    simp only[d0,uw] at HCD;rw[qZ (show d.length+nn<=20000 by omega)] at B;have h8:=Af (oZ g (λk=>S k/\k≠w.heap.size) c9 s a3 d nn f d2.2.2 Aa Aa w3 (λk o=>⟨hF k (by have:=HO1.size;omega),by have:=(qW.1 (uh j)).1;omega⟩) (uh f5));go_wp2_with (first
     |(go_at_call 237;refine B.mono ?_;rintro r w4 ⟨rfl,rfl⟩)
     |(go_at_call 242;refine h8.mono ?_;rintro r w5 ⟨rfl,g9,d3⟩;have b5:=Af g9;have f3:=Af d3;clear g9 d3))
    go_roundw
    .exact ⟨_,_,⟨(uh f3),j0,(by rw[Kl];omega),by rw[uh HEQ];exact RW (HSC2.trans (uh HCD))⟩,a5.kept (uh b5) c0,a4.kept (uh b5) c0,(b5.block w.heap.size (qW.1 (uh j)).1 (λh=>h.2 rfl)).trans (uh j),HO1.trans (b5.mono (λ_ _ h=>h.1))⟩
    obtain⟨i6,i7,e4,_⟩:=(uh f3);rw[uh HM,AP e4.c1];omega
   rw[a7] at HCD;have HO1:=f1;clear F z a7 d5;exact wo
  have h7:χ (Er s L D a' d =.inl (.inr 2)):=by
   by_cases f7:285<y
   .exact QH (uh P) f7
   refine(Ms (uh P) Aa Aa).trans ?_;unfold EL;rw[rd Aa]
  have i2:=d7;clear b4 a0 d6;go_wp2_with fail;go_step3
  try simp only[Exit.jump]
  exact⟨rfl,rfl,rfl,i2,by rw[uh HEQ];exact ED (uh h7)⟩
 refine q _ _ ⟨(λh=>by cases h), ?_⟩;clear q;refine AY (i:=6) Ab ?_;refine ri rfl (λK' q=> ?_);go_simp;refine q _ _ ⟨(λh=>by cases h), ?_⟩;clear q;refine Bo (i:=7) (v:=I Q 0) (J 16) rfl rfl Ab rfl Ab Ab (λ_ _ _ h=>h) (.inl ⟨rfl,λW _=>by go_simp⟩) ?_;simp only[Act.put,rk,rA,rB];refine Bo (i:=8) (v:=ζ false) (J 17) rfl rfl Ab rfl Ab Ab (λ_ _ _ h=>h) (.inl ⟨rfl,λW _=>by go_simp⟩) ?_;simp only[Act.put,rk,rA,rB];refine AY (i:=9) Ab ?_;refine ri rfl (λK' q=> ?_);go_simp;refine q _ _ ⟨(λh=>by cases h), ?_⟩;clear q;refine AY (i:=10) Ab ?_;refine ri rfl (λK' q=> ?_);go_simp;refine q _ _ ⟨(λh=>by cases h), ?_⟩;clear q;refine EM Ab ?_;have P:=Af hd;clear hd a6 e3 X d9 HR a8 d8 b1 R;go_wp2_with fail;go_step3
 try simp only[Exit.jump]
 exact⟨rfl,rfl,rfl,HO1,by rw[uh HEQ];exact ED (QF (uh P))⟩
open Go.RowKit Go.Maps Go.Proofs.Tryz
structure Mk (w:U) (gs:N) (L:E N) (i:N) (F:N->N) (V:N->β):Prop where
 cells: ∃cur:Array β,w.heap[gs]? =J (γ cur mA (0,0))/\(∀n,n<=15->cur[n]? =J (I Q (F n:N)))/\∀n,n<=15->cur[16+n]? =J (V n)
 own: ∀n,n<=15->w.ownsRow (gs+1) 3 1 (V n) (if n=0 then [] else Dy L n i).length (Ar (if n=0 then [] else Dy L n i))
 apart: ∀n m b,n<=15->m<=15->n≠m->(V n).ownBlock=J b->(V m).ownBlock≠J b
def Mk.form{w:U}{b:N}{L:E N}{i:N}{F:N->N}{V:N->β}(h:Mk w b L i F V){n:N}(c:n<=15): ∃ao cap,V n=K ao (if n=0 then [] else Dy L n i).length cap:=by
 obtain⟨_,h|⟨g,cap,a,d,_⟩⟩:=h.own n c
 .exact ⟨O,0,by rw[h.1,h.2]⟩
 exact⟨_,cap,d⟩
def Mk.lt{w:U}{a:N}{L:E N}{i:N}{F:N->N}{V:N->β}(h:Mk w a L i F V):a<w.heap.size:=by
 obtain⟨b,c,_⟩:=h.cells;exact(qW.1 c).1
def Mk.cellV{w:U}{b:N}{L:E N}{i:N}{F:N->N}{V:N->β}(h:Mk w b L i F V){n:N}(d:n<=15):w.cell? ⟨b,16+n,O⟩=J (V n):=by
 obtain⟨a,c,_,e⟩:=h.cells;rw[qV w b (16+n) a _ (0,0) c];exact e n d
def Mk.cellF{w:U}{b:N}{L:E N}{i:N}{F:N->N}{V:N->β}(h:Mk w b L i F V){n:N}(e:n<=15):w.cell? ⟨b,n,O⟩=J (I Q (F n:N)):=by
 obtain⟨a,d,c,_⟩:=h.cells;rw[qV w b n a _ (0,0) d];exact c n e
def Mk.thaw{w:U}{b:N}{L:E N}{i:N}{F:N->N}{V:N->β}(h:Mk w b L i F V)(j:N):w.frozen? ⟨b,j,O⟩=false:=by
 obtain⟨a,c,_⟩:=h.cells;exact rp w b j a _ c
def Mk.old{w w' :U}{b:N}{L:E N}{i:N}{F:N->N}{V:N->β}(h:Mk w b L i F V)(d:Al w w'):Mk w' b L i F V:=by
 obtain⟨⟨a,c,j⟩,e,f⟩:=h;exact⟨⟨a,(d.block b (qW.1 c).1 (λx=>x)).trans c,j⟩,λn g=>Ck (e n g) d (λ_ _ x=>x),f⟩
def Mk.skip{w:U}{b:N}{L:E N}{i:N}{F:N->N}{V:N->β}(h:Mk w b L i F V)(c:L.getD i 0=0):Mk w b L (i+1) F V:=by
 have e: ∀n,(if n=0 then [] else Dy L n (i+1))=(if n=0 then [] else Dy L n i):=λn=>by
  by_cases a:n=0
  .rw[rd a,rd a]
  rw[rc a,rc a,Gu,rc Aa]
 exact⟨h.cells,λn a=>by rw[e];exact h.own n a,h.apart⟩
def Mk.push{w w3:U}{d:N}{L:E N}{i:N}{F:N->N}{V:N->β}(h:Mk w d L i F V){x g2 cap2:N}(hx:L.getD i 0=x)(a3:x≠0)(f:x<=15)
 (a1:w3.ownsRow (d+1) 3 1 (K (J ⟨g2,0,O⟩) ((Dy L x i).length+1) cap2) ((Dy L x i).length+1) (Ar (Dy L x i)++[I Q (i:N)]))(z:w.grownBy w3 (V x).ownBlock)(y:(V x).ownBlock=J g2\/g2=w.heap.size):
 Mk (w3.setCell ⟨d,16+x,O⟩ (K (J ⟨g2,0,O⟩) ((Dy L x i).length+1) cap2)) d L (i+1) F (λn=>if n=x then K (J ⟨g2,0,O⟩) ((Dy L x i).length+1) cap2 else V n):=by
 have o: ∀n,n<=15-> ∀b,(V n).ownBlock=J b->d+1<=b:=λn j b c=>BP (h.own n j) b c
 have W:=h.lt;have A:J d≠(V x).ownBlock:=λe=>by have:=o x f d e.symm;omega
 have a4:d<g2:=by
  rcases y with e|e
  .have:=o x f g2 e;omega
  omega
 have B: ∀b,b≠d->(w3.setCell ⟨d,16+x,O⟩ (K (J ⟨g2,0,O⟩) ((Dy L x i).length+1) cap2)).heap[b]? =w3.heap[b]? :=λb c=>vo _ _ _ _ c
 obtain⟨⟨t,hg,hf,hv⟩,P,C⟩:=h;have T :w3.heap[d]? =J (γ t mA (0,0)):=(z.block d W A).trans hg;have a2:16+x<t.size:=(qW.1 (hv x f)).1;refine⟨⟨_,ru w3 d (16+x) t _ _ T,λn j=> ?_,λn j=> ?_⟩,λn j=> ?_,λn m b j H s c=> ?_⟩
 .rw[sg,rc Aa];exact hf n j
 .rw[sg];by_cases e:n=x
  .subst e;rw[rd rfl,rd a2,rd rfl]
  rw[rc Aa,rc e];exact hv n j
 .by_cases e:n=x
  .subst e;rw[rd rfl,rc a3,Gu,rd hx];have e2:Ar (Dy L n i++[i])=Ar (Dy L n i)++[I Q (i:N)]:=by simp[Ar]
   rw[e2,qU];exact Ck a1 (Ap w3 d (16+n) _) (λb c e=>by injection c with c;have S:g2=b:=c;omega)
  rw[rc e];have e1:(if n=0 then [] else Dy L n (i+1))=(if n=0 then [] else Dy L n i):=by
   by_cases q:n=0
   .rw[rd q,rd q]
   rw[rc q,rc q,Gu,rc Aa]
  rw[e1];have p:=P n j;obtain⟨D,p|⟨b,cap,l,k,v,g,r⟩⟩:=p
  .exact ⟨D,.inl p⟩
  refine⟨D,.inr ⟨b,cap,l,k,v, ?_,r⟩⟩;rw[B b Aa];exact(z.block b (qW.1 g).1 (λu=>C n x b j f e (by rw[k];rfl) u.symm)).trans g
 by_cases e:n=x
 .subst e;rw[rd rfl] at c;injection c with c;rw[rc (λe=>s e.symm)];rcases y with u|u
  .intro a;exact C n m g2 j H s u (by rw[a];exact rI J c.symm)
  intro a;have p:=P m H;obtain⟨D,p|⟨M,cap,l,k,v,g,r⟩⟩:=p
  .rw[p.1] at a;cases a
  rw[k] at a;injection a with a;have X:=(qW.1 g).1;have R :M =b:=a;have S:g2=b:=c;omega
 rw[rc e] at c;by_cases em:m=x
 .subst em;rw[rd rfl];intro a;injection a with a;have a0:g2=b:=a;rcases y with u|u
  .exact C n m b j H s c (by rw[u,a0])
  have p:=P n j;obtain⟨D,p|⟨M,cap,l,k,v,g,r⟩⟩:=p
  .rw[p.1] at c;cases c
  rw[k] at c;injection c with c;have X:=(qW.1 g).1;have R :M =b:=c;omega
 rw[rc em];exact C n m b j H s c
def Mk.first{w:U}{d:N}{L:E N}{i:N}{F:N->N}{V:N->β}(h:Mk w d L i F V){x:N}(r:x<=15)(v:N):Mk (w.setCell ⟨d,x,O⟩ (I Q (v:N))) d L i (λn=>if n=x then v else F n) V:=by
 have c: ∀n,n<=15-> ∀b,(V n).ownBlock=J b->d+1<=b:=λn a b g=>BP (h.own n a) b g
 obtain⟨⟨f,p,k,q⟩,m,o⟩:=h;have j:x<f.size:=(qW.1 (k x r)).1;refine⟨⟨_,ru w d x f _ _ p,λn a=> ?_,λn a=> ?_⟩,λn a=> ?_,o⟩
 .rw[sg];by_cases e:n=x
  .subst e;rw[rd rfl,rd j,rd rfl]
  rw[rc (λl=>e l.symm),rc e];exact k n a
 .rw[sg,rc Aa];exact q n a
 exact Ck (m n a) (Ap w d x _) (λb g e=>by have:=c n a b g;omega)
def mB(L:E N)(n i:N):(if n=0 then [] else Dy L n i).length<=i:=by
 split
 .simp
 exact Oy L n i
def OV(L:E N)(n j:N):N:=if j<n then AJ L j else 0
def aK(L:E N)(n j:N)(v:N)(a:v=AJ L n):(if j=n then v else OV L n j)=OV L (n+1) j:=by
 unfold OV;by_cases e:j=n
 .subst e;rw[rd rfl,rd Aa,a]
 rw[rc e];by_cases h:j<n
 .rw[rd h,rd Aa]
 rw[rc h,rc Aa]
def Mk.congr{w:U}{b:N}{L:E N}{i:N}{F F' :N->N}{V:N->β}(h:Mk w b L i F V)(f: ∀n,n<=15->F n=F' n):Mk w b L i F' V:=by
 obtain⟨⟨a,j,g,k⟩,d,e⟩:=h;exact⟨⟨a,j,λn c=>by rw[g n c,f n c],k⟩,d,e⟩
def Mk.set{w:U}{f:N}{L:E N}{V:N->β}(h:Mk w f L L.length (OV L 16) V):CJ w f (λk=>f<=k/\k<w.heap.size) L:=by
 have l:=h.lt;have i:=λn a=>h.form (n:=n) a
 obtain⟨⟨d,t,s,v⟩,r,x⟩:=h;refine⟨d,t,⟨rj _,l⟩,λn a=> ?_,λn a=> ?_⟩
 .rw[s n a];unfold OV;rw[rd Aa]
 have e:(if n=0 then [] else Dy L n L.length)=Jn L n:=rfl;obtain⟨ao,cap,c⟩:=i n a;rw[e] at c;refine⟨ao,cap,by rw[v n a,c],λj u=> ?_⟩;have m:=r n a;rw[e,c] at m;obtain⟨b,p,o,y,g⟩:=m.form Aa;injection o with hv3 hv4 hv5;subst hv3;refine⟨b,rfl,⟨Aa,g⟩, ?_⟩;have q:=(Bx.ofOwns rfl m).cell u;rw[rx] at q;exact q
def QS(gl a6 cap:N)(L:E N)(hL:L.length<=400)(b3: ∀j,L.getD j 0<=15)(w:U)(hI:Bx w gl a6 L):
 μ ψ 142 #[K (J ⟨gl,a6,O⟩) L.length cap] w λr w' =>r=ε (δ (J ⟨w.heap.size,0,O⟩))/\Al w w' /\CJ w' w.heap.size (λk=>w.heap.size<=k/\k<w'.heap.size) L:=by
 obtain⟨i0,d1,d4,d5,d6⟩:=rN Jf;have e5:=hI.lt;have HI:=Af hI;have c3:=Af b3;clear hI b3;go_in;go_wp2;go_loopw [4,5,10] (λ_ _ z wr=> ∃i:N,i<=L.length/\z=I Q i/\χ (∃V,Mk wr w.heap.size L i (λ_=>0) V)/\χ (Al w wr)) (λ_ _ z _=>L.length- (intOf z).toNat)
 .refine ⟨0,Aa,rfl,⟨λ_=> K O 0 0,⟨⟨_,rh w _,λn hn=> ?_,λn hn=> ?_⟩,λn hn=> ?_,λn m b hn hm f1 hb=>by cases hb⟩⟩,(Ag.refl _ w).alloc _⟩
  .match n,hn with
   |0,_=>rfl|1,_=>rfl|2,_=>rfl|3,_=>rfl|4,_=>rfl|5,_=>rfl|6,_=>rfl|7,_=>rfl|8,_=>rfl|9,_=>rfl|10,_=>rfl|11,_=>rfl|12,_=>rfl|13,_=>rfl|14,_=>rfl|15,_=>rfl
  .match n,hn with
   |0,_=>rfl|1,_=>rfl|2,_=>rfl|3,_=>rfl|4,_=>rfl|5,_=>rfl|6,_=>rfl|7,_=>rfl|8,_=>rfl|9,_=>rfl|10,_=>rfl|11,_=>rfl|12,_=>rfl|13,_=>rfl|14,_=>rfl|15,_=>rfl
  have e:(if n=0 then [] else Dy L n 0)=[]:=by split<;>rfl
  rw[e];exact rF _ _ _ _
 obtain⟨i,hi,rfl,F,M⟩:=hrel;obtain⟨V,d⟩:=uh F;by_cases D:i<L.length
 .have y:(i:Z)<(L.length:Z):=Aa;have a2:=(HI.kept (uh M) (λx=>x)).cell D;have l:=c3 i;have a0:=Af d.skip;have a9:=Af (λx w3 g2 cap2 (hx:L.getD i 0=x)=>d.push (w3:=w3) (x:=x) (g2:=g2) (cap2:=cap2) hx);generalize c2:L.getD i 0=x at a2 l a0 a9;have c7:=Af c2;clear c2;by_cases a5:x=0
  .subst a5;have d7 :wr.cell? ⟨gl,a6+i,O⟩=J (I Q 0):=a2;have b1:=Af (a0 rfl);clear a2 d F;go_wp2;go_roundw
   .exact ⟨i+1,Aa,by go_num,⟨V,b1⟩,M⟩
   exact Ae
  have f5:(0:Z)<(x:Z):=Aa;have e1:(x:Z)<16:=Aa;have e0:(0:Z)<=(x:Z):=Aa;obtain⟨ao,q,o⟩:=d.form (n:=x) l;have g:=d.own x l;rw[rc a5] at o g;have c8:(Dy L x i).length<=400:=rz (Oy L x i) Aa;have f:=d.cellV (n:=x) l;have e2:=Af d;rw[o] at f g;generalize c0:(Dy L x i).length=nl at f g c8;have B:=Af c0;have hA:Ag (λ_=>False) wr (wr.drew.alloc (γ #[I Q (i:Z)] 3)):=(Ag.refl (λ_=>False) wr).drew.alloc _;have P:=Af (Ck g hA (λ_ _ x=>x));have H:=Af (d.old hA);have c5:=Af (Ej (wr:=wr.drew) (n:=(i:Z)));have b2:=Af o;have d0:=d.lt;have b5:(wr.drew.alloc (γ #[I Q (i:Z)] 3)).cell? ⟨w.heap.size,16+x,O⟩=J (K ao nl q):=(hA.cell (p:=⟨w.heap.size,16+x,O⟩) d0 (λx=>x)).trans f;have c6:=Af (M.trans hA);have A:(wr.drew.alloc (γ #[I Q (i:Z)] 3)).heap.size=wr.heap.size+1:=by rw[rr];rfl
  have f4:=M.size;clear d F g o a9 a0 c0;have c:wr.drew.cell? ⟨w.heap.size,16+x,O⟩=J (K ao nl q):=f;go_upto_region 6 with fail;refine DY (S:=λW=>W.cell? ⟨w.heap.size,16+x,O⟩=J (K ao nl q)) (late:=λi=>decide (i<=1)||decide (10<=i)) Ab ?_;refine Bo (i:=0) (v:=δ (J ⟨w.heap.size,0,O⟩)) (J 17) rfl rfl Ab rfl Ab Ab (λ_ _ _ h=>h) (.inl ⟨rfl,λW _=>by go_simp⟩) ?_;simp only[Act.put,rk,rA,rB];refine Bo (i:=1) (v:=I Q x) (J 18) rfl rfl Ab rfl Ab Ab (λ_ _ _ h=>h) (.inl ⟨rfl,λW _=>by go_simp⟩) ?_;simp only[Act.put,rk,rA,rB];refine Bo (i:=11) (v:=δ (J ⟨w.heap.size,0,O⟩)) (J 28) rfl rfl Ab rfl Ab Ab (λ_ _ _ h=>h) (.inl ⟨rfl,λW _=>by go_simp⟩) ?_;simp only[Act.put,rk,rA,rB];refine Bo (i:=12) (v:=δ (J ⟨w.heap.size,16,O⟩)) (J 29) rfl rfl Ab rfl Ab Ab (λ_ _ _ h=>h) (.inl ⟨rfl,λW _=>by go_simp⟩) ?_;simp only[Act.put,rk,rA,rB];refine tg 2 15 (δ (J ⟨w.heap.size,0,O⟩)) 19 c ?_;refine tg 3 15 (I Q x) 20 c ?_;refine tg 4 15 (δ (J ⟨w.heap.size,0,O⟩)) 21 c ?_;refine tg 5 15 (δ (J ⟨w.heap.size,16,O⟩)) 22 c ?_;refine tg 6 15 (δ (J ⟨w.heap.size,16+x,O⟩)) 23 c ?_;refine tg 7 15 (K ao nl q) 24 c ?_;refine tg 8 15 (I Q i) 25 c ?_;refine AY (i:=9) Ab ?_;refine ri rfl (λK' s=> ?_);go_simp;refine s _ _ ⟨λ_=>b5, ?_⟩;clear s;refine AY (i:=10) Ab ?_;refine CW rfl rfl (wp_append_lies _ (.tmp 24) (.tmp 26) 33 rfl (w.heap.size+1) 3 i0 (I Q 0) 1 8 underlying33 d1 d4 d5 d6 rfl Aa (K ao nl q) nl _ rfl (uh P) ⟨wr.heap.size,0,O⟩ 1 1 [I Q (i:Z)] rfl rfl (uh c5) (by intro u hu;simp at hu;subst hu;rfl) Aa (by unfold maxLen;omega) Aa (rz (show w.heap.size+1<=wr.heap.size+1 by omega) (Nat.le_of_eq A.symm)) _ rfl ?_);intro g2 cap2 w3 c1 t b9 d8;have a4:=H.push (w3:=w3) (x:=x) (g2:=g2) (cap2:=cap2) (uh c7) a5 l (by rw[uh B];exact c1) (by rw[uh b2,uh B];exact t) (by rw[uh b2,uh B];exact b9);rw[uh B] at a4;have a1: ∀b,(Value.slice ao nl q).ownBlock=J b->w.heap.size+1<=b:=BP (uh P);have C:w3.cell? ⟨w.heap.size,16+x,O⟩=J (K ao nl q):=(World.cell?_of_block (w:=wr.drew.alloc (γ #[I Q (i:Z)] 3)) (a:=⟨w.heap.size,16+x,O⟩) (t.block w.heap.size (rW (show w.heap.size<wr.heap.size+1 by omega) (Nat.le_of_eq A.symm)) (λe=>by have:=a1 _ e.symm;omega))).trans b5;have b7:w3.frozen? ⟨w.heap.size,16+x,O⟩=false:=(World.frozen?_of_block (w:=wr.drew.alloc (γ #[I Q (i:Z)] 3)) (a:=⟨w.heap.size,16+x,O⟩) (t.block w.heap.size (rW (show w.heap.size<wr.heap.size+1 by omega) (Nat.le_of_eq A.symm)) (λe=>by have:=a1 _ e.symm;omega))).trans (H.thaw (16+x));have b4:=c6.grown t (λk hk e=>κ hk (by have:=a1 k e;omega));refine⟨(λh=>by cases h), ?_⟩;clear c1 t b9;simp only[Act.put,rk];refine AY (i:=13) Ab ?_;refine ri rfl (λK' s=> ?_);go_simp;refine s _ _ ⟨(λh=>by cases h), ?_⟩;clear s;refine AY (i:=14) Ab ?_;refine ri rfl (λK' s=> ?_);go_simp;refine s _ _ ⟨(λh=>by cases h), ?_⟩;clear s;refine EM Ab ?_;have HP:=Af a4;have X:=Af (b4.setCell (p:=⟨w.heap.size,16+x,O⟩) (λhh=>κ hh (st _)) (K (J ⟨g2,0,O⟩) (nl+1) cap2));clear a4 b4 C b7;go_wp2;go_roundw
  .exact ⟨i+1,Aa,by go_num,⟨_,HP⟩,X⟩
  exact Ae
 have y:¬(i:Z)<(L.length:Z):=Aa;have d2:i=L.length:=Aa;rw[d2] at d;have a8:=Af (d.congr (F' :=OV L 1) (λn _=>by unfold OV;split;rename_i h;rw[show n=0 by omega];rfl;rfl));clear d F;go_wp2;go_loopw [6] (λz wr=> ∃n:N,n<=16/\z=I Q n/\χ (1<=n/\Mk wr w.heap.size L L.length (OV L n) V)/\χ (Al w wr)) (λz _=>16- (intOf z).toNat)
 .exact ⟨1,Aa,rfl,⟨rj _,a8⟩,M⟩
 obtain⟨n,hn,rfl,F,M⟩:=hrel;obtain⟨f0,d⟩:=uh F;by_cases D:n<=15
 .have y:(n:Z)<=15:=Aa;obtain⟨m,hm⟩: ∃m,n=m+1:=⟨n- 1,Aa⟩;have e7:(n:Z)- 1=(m:Z):=Aa;have d9:(m:Z)<16:=Aa;have e6:(0:Z)<=(m:Z):=Aa;have R:(n:Z)<16:=Aa;have e9:(0:Z)<=(n:Z):=Aa;have e8:IntKind.i64.wrap (m:Z)=(m:Z):=Av m Aa;have a3:=d.cellF (n:=m) Aa;obtain⟨ao,q,o⟩:=d.form (n:=m) Aa;have f:=d.cellV (n:=m) Aa;rw[o] at f;have e3:=d.cellF (n:=n) D;have e4:=d.thaw n;have b6:OV L n m=AJ L m:=by unfold OV;rw[rd Aa]
  rw[b6] at a3;have d3:(if m=0 then [] else Dy L m L.length).length<=400:=rz (mB L m L.length) hL;have c9:AJ L m<=52428800:=by
   have h3:=Kk L m;have hp:2^(m+1)<=2^16:=rG Aa Aa;have:2^(m+1)*L.length<=65536*400:=tY Aa hL;omega
  have T:χ (2*(AJ L m+(if m=0 then [] else Dy L m L.length).length)=AJ L n):=by
   unfold χ;rw[hm,AJ];by_cases h0:m=0
   .rw[rd h0,rd h0];rfl
   rw[rc h0,rc h0,Ox]
  generalize AJ L m=fm at a3 c9 T;generalize(if m=0 then [] else Dy L m L.length).length=rl at f d3 T;have c4:=Af (λv (hv:v=AJ L n)=>(d.first (x:=n) D v).congr (F' :=OV L (n+1)) (λj _=>aK L n j v hv));clear d F o b6 hm;have f2:IntKind.i64.wrap ((fm:Z)+(rl:Z))=(fm:Z)+(rl:Z):=by rw[sx];omega
  have f3:IntKind.i64.wrap (2*((fm:Z)+(rl:Z)))=2*((fm:Z)+(rl:Z)):=by rw[sx];omega
  have c:wr.drew.cell? ⟨w.heap.size,m,O⟩=J (I Q (fm:N))/\wr.drew.cell? ⟨w.heap.size,16+m,O⟩=J (K ao rl q):=⟨a3,f⟩;go_upto_region 11 with fail;refine Ai (S:=λW=>W.cell? ⟨w.heap.size,m,O⟩=J (I Q (fm:N))/\W.cell? ⟨w.heap.size,16+m,O⟩=J (K ao rl q)) (L:=22) Ab ?_;refine tk 0 23 (δ (J ⟨w.heap.size,0,O⟩)) 36 c ?_;refine tk 1 23 (I Q n) 37 c ?_;refine tk 2 23 (δ (J ⟨w.heap.size,0,O⟩)) 38 c ?_;refine tk 3 23 (I Q n) 39 c ?_;refine tk 4 23 (I Q m) 40 c ?_;refine tk 5 23 (δ (J ⟨w.heap.size,0,O⟩)) 41 c ?_;refine tk 6 23 (δ (J ⟨w.heap.size,0,O⟩)) 42 c ?_;refine tk 7 23 (δ (J ⟨w.heap.size,m,O⟩)) 43 c ?_;refine tk 8 23 (I Q fm) 44 c ?_;refine tk 9 23 (δ (J ⟨w.heap.size,0,O⟩)) 45 c ?_;refine tk 10 23 (I Q n) 46 c ?_;refine tk 11 23 (I Q m) 47 c ?_;refine tk 12 23 (δ (J ⟨w.heap.size,0,O⟩)) 48 c ?_;refine tk 13 23 (δ (J ⟨w.heap.size,16,O⟩)) 49 c ?_;refine tk 14 23 (δ (J ⟨w.heap.size,16+m,O⟩)) 50 c ?_;refine tk 15 23 (K ao rl q) 51 c ?_;refine tk 16 23 (I Q rl) 52 c ?_;refine tk 17 23 (I Q (fm+rl)) 53 c ?_;refine tk 18 23 (I Q (2*(fm+rl))) 54 c ?_;refine tk 19 23 (δ (J ⟨w.heap.size,0,O⟩)) 55 c ?_;refine tk 20 23 (δ (J ⟨w.heap.size,0,O⟩)) 56 c ?_;refine tk 21 23 (δ (J ⟨w.heap.size,n,O⟩)) 57 c ?_;refine Ah (i:=22) Ab ?_;refine ri rfl (λK' s=> ?_);go_simp;refine s _ _ ⟨λh=>κ rfl h, ?_⟩;clear s;refine Am Ab ?_;have a7:=Af ((c4 (2*(fm+rl)) (uh T)).old ((Ag.refl (λ_=>False) _).drew));rw[show((2*(fm+rl):N):Z)=2*((fm:Z)+(rl:Z)) by omega] at a7;have X:=Af (M.drew.setCell (p:=⟨w.heap.size,n,O⟩) (λhh=>κ hh (st _)) (I Q (2*((fm:Z)+(rl:Z)))));go_wp2;go_roundw
  .exact ⟨n+1,Aa,by go_num,⟨Aa,a7⟩,X⟩
  exact Ae
 have y:¬(n:Z)<=15:=Aa;have R:n=16:=Aa;rw[R] at d;have b0:=Af d.set;clear d F;go_wp2;go_ret;exact⟨rfl,M,b0⟩
def mC(o b cap:N)(L:E N)(S:L.length<=400)(c: ∀j,L.getD j 0<=15)(w:U)(y:Bx w o b L):
 μ ψ 308 #[K (J ⟨o,b,O⟩) L.length cap] w λr w' =>r=ε (ζ (Ei L))/\w' =w:=by
 have D:=Af y;have k:=Af c;clear y c;go_in;go_wp2_with fail;go_loop [3,5,8] (λx _ z=> ∃su i:N,i<=L.length/\su<=6553600/\x=I Q su/\z=I Q i/\χ (su=Ip (L.take i))) (λ_ _ z=>L.length- (intOf z).toNat)
 .exact ⟨0,0,Aa,Aa,rfl,rfl,rfl⟩
 obtain⟨su,i,T,t,rfl,rfl,h⟩:=hrel;by_cases f:i<L.length
 .have g:(i:Z)<(L.length:Z):=Aa;have a:=D.cell f;have e:=k i;have m:=Af (take_getD L i f);have l:=Af (RX L (i+1));generalize L.getD i 0=x at a e m;by_cases B:x=0
  .subst B;have A :w.cell? ⟨o,b+i,O⟩=J (I Q 0):=a;clear a;go_wp2_with fail;go_round
   .have h1:=uh h;exact⟨su,i+1,Aa,t,rfl,by go_num,by rw[χ,uh m,Gw,<-h1];rfl⟩
   exact Ae
  have M:(0:Z)<(x:Z):=Aa;have H:(0:Z)<=(x:Z):=Aa;have C:(x:Z)<=15:=Aa;have F:((15:Z)- (x:Z)).toNat=15- x:=Aa;have q:2^(15- x)<=16384:=rG (n:=2) Aa (show 15- x<=14 by omega);have s:(2:Z)^(15- x)=((2^(15- x):N):Z):=by rw[so];rfl
  have v:χ (Ip (L.take (i+1))=su+2^(15- x)):=by
   have h1:=uh h;rw[χ,uh m,Gw,<-h1,rc B]
  generalize 2^(15- x)=p at s q v;go_wp2_with fail;go_round
  .have h1:=uh v;obtain⟨P,R⟩:=uh l;exact⟨su+p,i+1,Aa,Aa,by go_num,by go_num,h1.symm⟩
  exact Ae
 have g:¬(i:Z)<(L.length:Z):=Aa;have d:i=L.length:=Aa;have u:χ (Ip L=su):=by
  have h1:=uh h;rw[d,sr] at h1;exact h1.symm
 clear h;have HFS:χ (Ei L=(su==32768)):=by unfold χ Ei;rw[uh u]
 clear u d;exact Hb
def LM(L:E N)(x:N):(L++[x]).sum=L.sum+x:=Ad
def mD(L:E N)(a: ∀j,L.getD j 0<=15)(i:N)(b:i<=L.length):(L.take i).sum<=15*i:=by
 induction i with
 |zero=>simp
 |succ i ih=>rw[take_getD L i Aa,LM];have:=a i;have:=ih Aa;omega
def jt(L:E N)(c: ∀j,L.getD j 0<=15)(i:N)(f:i<=L.length):
 (EV (L.take i)=0->Ip (L.take i)=0/\(L.take i).sum=0)/\
 (EV (L.take i)=1->Ip (L.take i)=2^(15- (L.take i).sum)/\1<=(L.take i).sum/\(L.take i).sum<=15):=by
 induction i with
 |zero=>simp[Ip,EV]
 |succ i ih=>
  obtain⟨a,b⟩:=ih Aa;have d:=c i;rw[take_getD L i Aa,Gw,Fn,LM];generalize L.getD i 0=x at d;by_cases h0:x=0
  .subst h0;simp only[vi,sS];exact⟨a,b⟩
  simp only[rc h0];refine⟨λh=>Aa,λh=> ?_⟩;obtain⟨a1,e⟩:=a Aa;rw[a1,e,rx,rx];exact⟨rfl,Aa,d⟩
def ju(L:E N)(c: ∀j,L.getD j 0<=15):Gj L=(EV L==0||(EV L==1&&L.sum==1)||Ei L):=by
 have h:=jt L c L.length (rj _);rw[sr] at h;obtain⟨_,f⟩:=h;unfold Gj Ei;by_cases h0:EV L=0
 .simp[h0]
 by_cases a:EV L=1
 .obtain ⟨e,g,i⟩:=f a;by_cases d:L.sum=1
  .have b:Ip L=16384:=by rw[e,d]
   simp[a,d,b]
  have b:Ip L≠16384:=by
   rw[e];have:2^(15- L.sum)<=2^13:=rG Aa Aa;omega
  rw[a,re.2 d,re.2 b];cases(Ip L==32768)<;>rfl
 rw[re.2 h0,re.2 a];cases(Ip L==32768)<;>rfl
def ed(s f cap:N)(L:E N)(S:L.length<=400)(c: ∀j,L.getD j 0<=15)(w:U)(B:Bx w s f L):
 μ ψ 310 #[K (J ⟨s,f,O⟩) L.length cap] w λr w' =>r=ε (ζ (Gj L))/\w' =w:=by
 have P:=Af B;have t:=Af c;have F:=Af (mC s f cap L S c w B);have h:=Af (ju L c);have k:=Af (mD L c);clear B c;go_in;go_wp2_with fail;go_loop [3,4,6,9] (λx y _ z=> ∃a e i:N,i<=L.length/\e<=6000/\a<=400/\x=I Q a/\y=I Q e/\z=I Q i/\χ (e=(L.take i).sum/\a=EV (L.take i))) (λ_ _ _ z=>L.length- (intOf z).toNat)
 .exact abo
 obtain⟨a,e,i,hi,D,C,rfl,rfl,rfl,q⟩:=hrel;by_cases o:i<L.length
 .have p:(i:Z)<(L.length:Z):=Aa;have g:=P.cell o;have n:=t i;have l:=Af (take_getD L i o);have u:=Af (k (i+1) Aa);have v:=Af (RX L (i+1)).2;generalize L.getD i 0=x at g n l;by_cases M:x=0
  .subst M;have H :w.cell? ⟨s,f+i,O⟩=J (I Q 0):=g;clear g;go_wp2_with fail;go_round
   .obtain ⟨b,d⟩:=uh q;exact⟨a,e,i+1,Aa,D,C,rfl,rfl,by go_num,⟨by rw[uh l,LM,<-b];rfl,by rw[uh l,Fn,<-d];rfl⟩⟩
   exact Ae
  have X:(0:Z)<(x:Z):=Aa;have R:χ ((L.take (i+1)).sum=e+x/\EV (L.take (i+1))=a+1):=by
   obtain⟨b,d⟩:=uh q;exact⟨by rw[uh l,LM,<-b],by rw[uh l,Fn,<-d,rc M]⟩
  go_wp2_with fail;go_round
  .obtain ⟨b,d⟩:=uh R;have A:=uh u;have h4:=uh v;exact⟨a+1,e+x,i+1,Aa,Aa,Aa,by go_num,by go_num,by go_num,⟨b.symm,d.symm⟩⟩
  exact Ae
 have p:¬(i:Z)<(L.length:Z):=Aa;have m:i=L.length:=Aa;have HE:χ (Gj L=(a==0||(a==1&&e==1)||Ei L)):=by
  obtain⟨b,d⟩:=uh q;rw[m,sr] at b d;rw[χ,uh h,<-b,<-d]
 clear q m h k;by_cases b:a=0
 .subst b;exact aaa
 have T:((a:Z)==0)=false:=by rw[re];omega
 by_cases d:a=1
 .subst d;by_cases A:e=1
  .subst A;exact aaa
  have W:((e:Z)==1)=false:=by rw[re];omega
  go_wp2_with (refine F.mono ?_;rintro r w' ⟨rfl,rfl⟩);go_ret;exact⟨Bb (rI Value.bool (by show Ei L=Gj L;rw[uh HE];simp[A])),rfl⟩
 have V:((a:Z)==1)=false:=by rw[re];omega
 go_wp2_with (refine F.mono ?_;rintro r w' ⟨rfl,rfl⟩);go_ret;exact⟨Bb (rI Value.bool (by show Ei L=Gj L;rw[uh HE];simp[b,d])),rfl⟩
def ee(n:N)(h:n<288)(w:U):
 μ ψ 234 #[I Q n] w λr w' =>r=ε (I Q (BO.getD n 0:N))/\w' =w:=by
 have i:(n:Z)<288:=Aa;by_cases b:n<144
 .have a:BO.getD n 0=8:=FF n h (rd b);have d:(n:Z)<144:=Aa;rw[a];go_in;exact yU
 by_cases c:n<256
 .have a:BO.getD n 0=9:=FF n h (by rw[rc b,rd c]);have d:¬(n:Z)<144:=Aa;have f:(n:Z)<256:=Aa;rw[a];go_in;exact yU
 by_cases e:n<280
 .have a:BO.getD n 0=7:=FF n h (by rw[rc b,rc c,rd e]);have d:¬(n:Z)<144:=Aa;have f:¬(n:Z)<256:=Aa;have g:(n:Z)<280:=Aa;rw[a];go_in;exact yU
 have a:BO.getD n 0=8:=FF n h (by rw[rc b,rc c,rc e]);have d:¬(n:Z)<144:=Aa;have f:¬(n:Z)<256:=Aa;have g:¬(n:Z)<280:=Aa;rw[a];go_in;exact yU
def Dm:Cz.length=32:=by rw[Cz,rP]
def Uf(i:N)(h:i<32):Cz.getD i 0=5:=by rw[Cz,qT,tI,rd h];rfl
def part(L:E N)(i:N):E N:=L.take i++List.replicate (L.length- i) 0
def JQ(L:E N)(i:N)(h:i<=L.length):(part L i).length=L.length:=by
 rw[part,qU,rY,rP];omega
def Ug(L:E N)(n:N)(h:L.length=n):part L n=L:=by
 rw[part,h,ut,sE Aa];simp
def Uh(L:E N)(i:N)(h:i<L.length):(part L i).set i (L.getD i 0)=part L (i+1):=by
 unfold part
 rw[take_getD L i h,List.set_append_right _ _ (by rw[rY];omega),rY,uc Aa,ut,
  show L.length- i=(L.length- (i+1))+1 by omega,vN,rA,rm]
 rfl
def OW(L:E N){n:N}(a:L.length=n)(j:N)(h:j<(part L 0).length):(madeCells #[Value.int Q 0] n)[j]? =J (I Q ((part L 0).getD j 0:N)):=by
 rw[JQ _ _ (sl _),a] at h;have e:(part L 0).getD j 0=0:=by
  rw[part,tZ,tp,qT,tI];split<;>rfl
 rw[e];simp[madeCells,h,uX]
def OX(w:U):
 μ ψ 144 #[] w λr w' =>r=ε (K (J ⟨w.heap.size,0,O⟩) 32 32)/\Bx w' w.heap.size 0 Cz/\Al w w' :=by
 obtain⟨u,g,m,n,o⟩:=rN Jf;have k: ∀W:U,(Instr.makeSlice 33 (I Q 32) (I Q 32)).run ψ W=.ok (K (J ⟨W.heap.size,0,O⟩) 32 32) (W.alloc (γ (madeCells #[I Q 0] 32) 3)):=by
  intro W;have h:=vE (P:=ψ) W 33 3 u (I Q 0) underlying33 g m .i64 .i64 32 32 Aa Aa (by rw[o];decide) Ac;rw[n] at h;exact h
 go_in;go_wp2_with fail;clear k;go_loopw [2,6] (λ_ z wr=> ∃i:N,i<=32/\z=I Q i/\χ (Bx wr w.heap.size 0 (part Cz i))/\χ (Al w wr)) (λ_ z _=>32- (intOf z).toNat)
 .exact ⟨0,Aa,rfl,Bx.new w rfl (λj s=>OW Cz Dm j s),(Ag.refl _ w).alloc _⟩
 obtain⟨i,v,rfl,HR,HO⟩:=hrel;by_cases a:i<32
 .have d:(i:Z)<32:=Aa;have t:=HR.thaw i;have f:=HR.cell (j:=i) (by rw[JQ _ _ (by rw[Dm];omega),Dm];exact a);rw[rx] at f;have e:=Af (HR.set (i:=i) (by rw[JQ _ _ (by rw[Dm];omega),Dm];exact a) (Cz.getD i 0));have c:=Af (HO.setCell (p:=⟨w.heap.size,i,O⟩) (λq=>κ q (st _)) (I Q ((Cz.getD i 0:N):Z)));have l:((Cz.getD i 0:N):Z)=5:=by rw[Uf i a];rfl
  rw[l] at c;have b:χ (Bx (wr.setCell ⟨w.heap.size,i,O⟩ (I Q 5)) w.heap.size 0 ((part Cz i).set i (Cz.getD i 0))):=by
   have:=uh e;rw[l] at this;exact this
  clear e l;have e:=b;clear b;go_wp2;go_roundw
  .refine ⟨i+1,Aa,by go_num, ?_,c⟩;have:=uh e;rw[Uh _ _ (by rw[Dm];exact a)] at this;exact this
  exact Ae
 have d:¬(i:Z)<32:=Aa;have hie:i=32:=Aa;have HR2:χ (Bx wr w.heap.size 0 Cz):=by
  have:=uh HR;rw[hie,Ug _ _ Dm] at this;exact this
 exact aaX
def QT(w:U):
 μ ψ 143 #[] w λr w' =>r=ε (K (J ⟨w.heap.size,0,O⟩) 288 288)/\Bx w' w.heap.size 0 BO/\Al w w' :=by
 obtain⟨u,e,g,k,l⟩:=rN Jf;have f: ∀W:U,(Instr.makeSlice 33 (I Q 288) (I Q 288)).run ψ W=.ok (K (J ⟨W.heap.size,0,O⟩) 288 288) (W.alloc (γ (madeCells #[I Q 0] 288) 3)):=by
  intro W;have h:=vE (P:=ψ) W 33 3 u (I Q 0) underlying33 e g .i64 .i64 288 288 Aa Aa (by rw[l];decide) Ac;rw[k] at h;exact h
 go_in;go_wp2_with fail;clear f;go_loopw [2,6] (λ_ z wr=> ∃i:N,i<=288/\z=I Q i/\χ (Bx wr w.heap.size 0 (part BO i))/\χ (Al w wr)) (λ_ z _=>288- (intOf z).toNat)
 .exact ⟨0,Aa,rfl,Bx.new w rfl (λj s=>OW BO BH j s),(Ag.refl _ w).alloc _⟩
 obtain⟨i,v,rfl,HR,HO⟩:=hrel;by_cases a:i<288
 .have c:(i:Z)<288:=Aa;have t:=HR.thaw i;have d:=HR.cell (j:=i) (by rw[JQ _ _ (by rw[BH];omega),BH];exact a);rw[rx] at d;have n:=Af (HR.set (i:=i) (by rw[JQ _ _ (by rw[BH];omega),BH];exact a) (BO.getD i 0));have b:=Af (HO.setCell (p:=⟨w.heap.size,i,O⟩) (λq=>κ q (st _)) (I Q ((BO.getD i 0:N):Z)));have m:=Af (λW=>ee i a W);generalize o:((BO.getD i 0:N):Z)=fx at m n b;go_wp2_with (refine(m _).mono ?_;rintro r w' ⟨rfl,rfl⟩);go_roundw
  .refine ⟨i+1,Aa,by go_num, ?_,b⟩;have:=uh n;rw[Uh _ _ (by rw[BH];exact a)] at this;exact this
  exact Ae
 have c:¬(i:Z)<288:=Aa;have hie:i=288:=Aa;have HR2:χ (Bx wr w.heap.size 0 BO):=by
  have:=uh HR;rw[hie,Ug _ _ BH] at this;exact this
 exact aaX
def mE(g:N)(s:Y)(i:s.size<=140737488355328)(a:N)(o:β)(y:N)(j:y<=18)(f:a<=8*s.size)(w:U)(h:Up w g s a o):
 μ ψ 309 #[δ (J ⟨g,0,O⟩),I Q y] w λr w' =>Ag (λk=>k=g) w w' /\
  ((a+Bd y<=8*s.size/\Up w' g s (a+Bd y) o/\r=ε (.tuple #[I Q ((BA y+Aq s a (Bd y):N):Z),ζ true]))\/
   (8*s.size<a+Bd y/\Up w' g s (8*s.size) o/\∃n:Z,r=ε (.tuple #[I Q n,ζ false]))):=by
 by_cases b:y=16
 .subst b;rw[show Bd 16=2 from rfl,show BA 16=3 from rfl];have HNC:=Af (EY g s i a o 2 Aa f w h);have e:=Cf s a 2;clear h
  skip
  go_in;go_wp2_with fail;refine HNC.mono ?_;rintro r w2 ⟨ho2,hcs⟩;generalize hnn:Aq s a 2=nn at*;exact zi
 by_cases c:y=17
 .subst c;rw[show Bd 17=3 from rfl,show BA 17=3 from rfl];have HNC:=Af (EY g s i a o 3 Aa f w h);have e:=Cf s a 3;clear h
  skip
  go_in;go_wp2_with fail;refine HNC.mono ?_;rintro r w2 ⟨ho2,hcs⟩;generalize hnn:Aq s a 3=nn at*;exact zi
 by_cases d:y=18
 .subst d;rw[show Bd 18=7 from rfl,show BA 18=11 from rfl];have HNC:=Af (EY g s i a o 7 Aa f w h);have e:=Cf s a 7;clear h
  skip
  go_in;go_wp2_with fail;refine HNC.mono ?_;rintro r w2 ⟨ho2,hcs⟩;generalize hnn:Aq s a 7=nn at*;exact zi
 rw[show Bd y=0 by simp[Bd,b,c,d],show BA y=1 by simp[BA,b,c,d]];have HNC:=Af (EY g s i a o 0 Aa f w h);have e:=Cf s a 0;clear h;have l:((y:Z)==16)=false:=by rw[re];omega
 have m:((y:Z)==17)=false:=by rw[re];omega
 have p:((y:Z)==18)=false:=by rw[re];omega
 go_in;go_wp2_with fail;refine HNC.mono ?_;rintro r w2 ⟨ho2,hcs⟩;generalize hnn:Aq s a 0=nn at*;exact zi
def Za: ∀j,BO.getD j 0<=15:=by
 intro j;rcases sb j 288 with h|h
 .rw[To j h];repeat (first|split|omega)
 rw[qT,rL (by rw[BH];exact h)];exact sl _
def Zb: ∀j,Cz.getD j 0<=15:=by
 intro j;rcases sb j 32 with h|h
 .rw[Uf j h];omega
 rw[qT,rL (by rw[Dm];exact h)];exact sl _
def CJ.mono{w:U}{f:N}{e K' :N->Prop}{L:E N}(h:CJ w f e L)(g: ∀k,e k->K' k):CJ w f K' L:=by
 obtain⟨a,q,c,p,t⟩:=h;refine⟨a,q,g _ c,p,λn s=> ?_⟩;obtain⟨ao,cap,i,l⟩:=t n s;refine⟨ao,cap,i,λj r=> ?_⟩;obtain⟨b,m,d,o⟩:=l j r;exact⟨b,m,g b d,o⟩
def BF:(prog.info? 112).map (·.size)=J 2:=Ab
def DZ(p q:Option Addr):(#[Value.pointer p,δ q]:Array β).all (·.oneCell')=true:=by simp[Value.oneCell']
def Xq(w:U):
 μ ψ 75 #[] w λr w' => ∃S g2:N,r=ε (.agg #[δ (J ⟨S,0,O⟩),δ (J ⟨g2,0,O⟩)])/\Al w w' /\
  CJ w' S (λk=>w.heap.size<=k/\k<w'.heap.size) BO/\CJ w' g2 (λk=>w.heap.size<=k/\k<w'.heap.size) Cz:=by
 go_in;go_wp2_with fail;have u:Al w (w.alloc (γ #[δ O,δ O] 112)):=(Ag.refl _ w).alloc _;have A:(w.alloc (γ #[δ O,δ O] 112)).heap[w.heap.size]? =J (γ #[δ O,δ O] 112 (0,0)):=rh w _;have P:w.heap.size<(w.alloc (γ #[δ O,δ O] 112)).heap.size:=by simp only[rr];omega
 generalize w.alloc (γ #[δ O,δ O] 112)=w0 at*;refine(QT w0).mono ?_;rintro r w1 ⟨rfl,s,c⟩;have f:=Af (QS w0.heap.size 0 288 BO (by rw[BH];omega) Za w1 s);have T:=c.size;have i:=Af (u.trans c);have o:=Af ((c.block w.heap.size P (λx=>x)).trans A);rw[BH] at f;clear u A s c;go_wp2_with fail;refine f.mono ?_;rintro r w2 ⟨rfl,d,y⟩;have V:=d.size;have j:=Af (i.trans d);have p:=Af ((d.block w.heap.size Aa (λx=>x)).trans (uh o));have m:=Af y;clear y d i o f;go_wp2_with fail;refine(OX w2).mono ?_;rintro r w3 ⟨rfl,t,a⟩;have g:=Af (QS w2.heap.size 0 32 Cz (by rw[Dm];omega) Zb w3 t);have W:=a.size;have l:=Af (j.trans a);have q:=Af ((a.block w.heap.size Aa (λx=>x)).trans (uh p));have n:=Af (m.old a);rw[Dm] at g;clear t a j p m;go_wp2_with fail;refine g.mono ?_;rintro r R ⟨rfl,b,z⟩;have X:=b.size;have H:=Af (l.trans b);have B:=(b.block w.heap.size Aa (λx=>x)).trans (uh q);have F:=Af (n.old b);have D:=Af z;clear z b l q n g;go_wp2_with (refine sF rfl 112 (.tmp 0) (.tmp 5) rfl w.heap.size #[δ (J ⟨w1.heap.size,0,O⟩),δ (J ⟨w3.heap.size,0,O⟩)] rfl rfl 112 _ B BF rfl (DZ _ _) ?_);refine rU (v:=.agg #[δ (J ⟨w1.heap.size,0,O⟩),δ (J ⟨w3.heap.size,0,O⟩)]) (tO results75 _ _ w.heap.size 112 _ (0,0) _ rfl (sw R w.heap.size _ _ _ _ B) underlying112 rfl BF) rfl ⟨w1.heap.size,w3.heap.size,rfl, ?_, ?_, ?_⟩
 .exact H.setRow _ (λh=>κ h (st _)) _
 .have C:=(Ag.refl (λk=>k=w.heap.size) R).setRow w.heap.size (λ_=>rfl) #[δ (J ⟨w1.heap.size,0,O⟩),δ (J ⟨w3.heap.size,0,O⟩)];have M:=C.size;exact(F.kept C (λk L e=>Aa)).mono (λk L=>⟨Aa,Aa⟩)
 have C:=(Ag.refl (λk=>k=w.heap.size) R).setRow w.heap.size (λ_=>rfl) #[δ (J ⟨w1.heap.size,0,O⟩),δ (J ⟨w3.heap.size,0,O⟩)];have M:=C.size;exact(D.kept C (λk L e=>Aa)).mono (λk L=>⟨Aa,Aa⟩)
def aL(d:N)(i n p o:N)(L D:E N)(l:256<L.length)(y:L.length<=400)(v:D.length<=400)(c: ∀j,L.getD j 0<=15)(b: ∀j,D.getD j 0<=15)(w:U)(e:Bx w d i L)(f:Bx w d n D):
 μ ψ 245 #[K (J ⟨d,i,O⟩) L.length p,K (J ⟨d,n,O⟩) D.length o] w λr w' =>r=ε (ζ (decide (L.getD 256 0≠0)&&Ei L&&Gj D))/\w' =w:=by
 have g:=e.cell l;have a:=Af (mC d i p L y c w e);have k:=Af (ed d n o D v b w f);have q:(256:Z)<(L.length:Z):=Aa;clear e f c b;generalize L.getD 256 0=x at*;by_cases t:x=0
 .subst t;have s :w.cell? ⟨d,i+256,O⟩=J (I Q 0):=g;clear g;go_in;go_wp2;go_ret;exact⟨Bb (rI Value.bool Ad),rfl⟩
 have z:(0:Z)<(x:Z):=Aa;have u:=Af t;by_cases m:Ei L=true
 .rw[m] at a;go_in;go_wp2_with fail;refine a.mono ?_;rintro r w' ⟨rfl,rfl⟩;go_wp2_with fail;refine k.mono ?_;rintro r w' ⟨rfl,rfl⟩;go_wp2;go_ret;exact⟨Bb (rI Value.bool (by rw[m];simp[uh u])),rfl⟩
 have h:Ei L=false:=by simpa using m
 rw[h] at a;go_in;go_wp2_with fail;refine a.mono ?_;rintro r w' ⟨rfl,rfl⟩;go_wp2;go_ret;exact⟨Bb (rI Value.bool (by rw[h];simp)),rfl⟩
def De(w:U):Prop:=1<w.heap.size/\∀j,j<19->w.cell? ⟨1,j,O⟩=J (I Q (Cx.getD j 0:N))
def De.kept{S:N->Prop}{w w' :U}(h:De w)(a:Ag S w w')(c:¬S 1):De w' :=
 ⟨rW h.1 a.size,λj b=>(a.cell (p:=⟨1,j,O⟩) h.1 c).trans (h.2 j b)⟩
def aM{n:N}(j:N)(h:j<(List.replicate n 0).length):(madeCells #[Value.int Q 0] n)[j]? =J (I Q ((List.replicate n 0).getD j 0:N)):=by
 rw[rP] at h;have e:(List.replicate n 0).getD j 0=0:=by
  rw[qT,tI];split<;>rfl
 rw[e];simp[madeCells,h,uX]
def jv(g:N)(b2:g≠1)(s:Y)(hs:s.size<=140737488355328)(a:N)(o:β)(k:N)(hk:k<=19)(ha:a<=8*s.size)(w:U)(n:De w)(h:Up w g s a o):
 μ ψ 243 #[δ (J ⟨g,0,O⟩),I Q k] w λr w' =>Ag (λk=>k=g) w w' /\
  ((a+3*k<=8*s.size/\Ei (FT s a k)=true/\Up w' g s (a+3*k) o/\∃gs:N,r=ε (.tuple #[δ (J ⟨gs,0,O⟩),ζ true])/\CJ w' gs (λk=>w.heap.size<=k/\k<w'.heap.size) (FT s a k))\/
   ((8*s.size<a+3*k\/Ei (FT s a k)=false)/\r=ε (.tuple #[δ O,ζ false]))):=by
 obtain⟨i0,hi0,hz0,hz1,hz2⟩:=rN Jf;have b5: ∀W:U,(Instr.makeSlice 33 (I Q 19) (I Q 19)).run ψ W=.ok (K (J ⟨W.heap.size,0,O⟩) 19 19) (W.alloc (γ (madeCells #[I Q 0] 19) 3)):=WT;have b9:=h.lt;have HR:=Af h;have D:=Af n;have hA:Ag (λ_=>False) w (w.alloc (γ (madeCells #[I Q 0] 19) 3)):=(Ag.refl _ w).alloc _;have F:=Af (h.kept hA (λx=>x));have a5:=Af (Ag.oldS (S:=λk=>k=g) hA);clear h n hA;go_in;go_wp2_with fail;clear b5;go_loopw [7,8,9,12] (λ_ _ _ z wr=> ∃i:N,i<=k/\z=I Q i/\χ (Up wr g s (a+3*i) o/\a+3*i<=8*s.size)/\χ (Bx wr w.heap.size 0 (FT s a i))/\χ (Ag (λk=>k=g) w wr)) (λ_ _ _ z _=>k- (intOf z).toNat)
 .exact ⟨0,Aa,rfl,⟨F,Aa⟩,Bx.new w rfl (λj hj=>aM j hj),a5⟩
 obtain⟨i,hi,rfl,HU,T,X⟩:=hrel;obtain⟨l,A⟩:=uh HU;by_cases c0:i<k
 .have M:(i:Z)<(k:Z):=Aa;have C:=Af (EY g s hs (a+3*i) o 3 Aa A wr l);clear l HU;go_wp2_with fail;refine C.mono ?_;rintro r w1 ⟨d,b1⟩;clear C;have a0:=Af (T.kept d Aa);have b:=X.trans d;have a3:=Af b;rcases b1 with⟨b4,rfl,f⟩|⟨b4,rfl,f⟩
  .have b7:=(D.kept b (λe=>b2 e.symm)).2 i Aa;have R:=Tt i;have c:=uh a0;have m:=GI s a i;have b0:=c.cell (j:=Cx.getD i 0) (by rw[m];exact R);rw[rx] at b0;have c2:=c.thaw (Cx.getD i 0);have a7:=Af (c.set (i:=Cx.getD i 0) (by rw[m];exact R) (Aq s (a+3*i) 3));have a6:=Af (b.setCell (p:=⟨w.heap.size,Cx.getD i 0,O⟩) (λhh=>κ hh (st _)) (I Q (Aq s (a+3*i) 3:N)));have a9:=Af (f.kept (Ap w1 w.heap.size (Cx.getD i 0) (I Q (Aq s (a+3*i) 3:N))) Aa);have a2:χ ((FT s a i).set (Cx.getD i 0) (Aq s (a+3*i) 3)=FT s a (i+1)):=Af rfl;generalize Cx.getD i 0=q at*;generalize Aq s (a+3*i) 3=v at*;generalize(FT s a i).getD q 0=v0 at*;have c1:(q:Z)<19:=Aa;have b6:(i:Z)<19:=Aa;clear c b f d;go_wp2;go_roundw
   .refine ⟨i+1,Aa,by go_num,⟨?_,Aa⟩, ?_,a6⟩
    .exact a9
    rw[<-uh a2];exact a7
   exact Ae
  clear b f d;go_wp2;go_ret2;exact⟨a3,.inr ⟨.inl Aa,rfl⟩⟩
 have M:¬(i:Z)<(k:Z):=Aa;have b3:i=k:=Aa;subst b3;have a8:=Af l;have a1:=Af A;have t:=Af (mC w.heap.size 0 19 (FT s a i) (by rw[GI];omega) (YP s a i) wr (uh T));have V:=Af (QS w.heap.size 0 19 (FT s a i) (by rw[GI];omega) (YP s a i) wr (uh T));rw[GI] at t V;have c3:=X.size;clear l A HU T;by_cases L:Ei (FT s a i)=true
 .rw[L] at t;go_wp2_with fail;refine t.mono ?_;rintro r w1 ⟨rfl,rfl⟩;go_wp2_with fail;refine V.mono ?_;rintro r w2 ⟨rfl,B,hS⟩;have a4:=Af (X.trans (Ag.oldS B));have H:=Af (a8.kept B (λx=>x));have HS:=Af (hS.mono (K' :=λk=>w.heap.size<=k/\k<w2.heap.size) (λk hk=>⟨Aa,hk.2⟩));clear B hS t V;have u:=Af L;clear L;go_wp2;go_ret2;exact⟨a4,.inl ⟨a1,u,H,_,rfl,HS⟩⟩
 have y:Ei (FT s a i)=false:=by simpa using L
 rw[y] at t;have u:=Af y;clear L y;go_wp2_with fail;refine t.mono ?_;rintro r w1 ⟨rfl,rfl⟩;clear t V;go_wp2;go_ret2;exact⟨X,.inr ⟨.inr u,rfl⟩⟩
