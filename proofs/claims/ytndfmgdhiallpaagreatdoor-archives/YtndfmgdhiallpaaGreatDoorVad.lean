import Derived.Test.YtndfmgdhiallpaaGreatDoorVac
set_option linter.all false
set_option maxRecDepth 100000
set_option maxHeartbeats 4000000
open _root_ renaming Option.some->J,Option.none->O,Int->Z,Nat->N,Go.Value.int->I,Go.Value.string->G,Go.IntKind.i64->Q,ByteArray->Y,List->E,Go.World->U,Go.Value.slice->K,Go.Value->β,Go.Obj.cells->γ,Go.Value.pointer->δ,Go.Ending.returned->ε,Go.Value.bool->ζ,Go.Value.tuple->η,absurd->κ,Go.Calls->μ,UInt8->υ,Go.RowKit.Hid->χ,Go.Proofs.Tryz.prog->ψ
namespace Go.Proofs.YtndfmgdhiallpaaGreatDoor
open Go.RowKit Go.Proofs.Tryz
def St.mono{w:U}{g:N}{S S' :N->Prop}{s:Y}{a:N}{l:E υ}{e:N}(h:St w g S s a l e)(f: ∀k,k<w.heap.size->S k->S' k):St w g S' s a l e:=by
 obtain⟨ao,cap,d,how,c⟩:=h;refine⟨ao,cap,d,how,λb hb=>f _ ?_ (c b hb)⟩;exact aaz
def VU(s:Y)(la a:N)(l:E υ)(e:N):Prop:=a<=8*s.size/\l.length<=20000/\la<2/\((e=0/\la=0/\DV s 0 []=DV s a l)\/(e=0/\la=1/\DV s 0 []=.inl (a,l))\/(e≠0/\DV s 0 []=.inr e))
def VU.next{s:Y}{a:N}{l:E υ}{a' :N}{i :E υ}{g :N}(h:DV s 0 []=DV s a l)(j:¬8*s.size<a+3)(f:ZP s (Es s a l) a' i g):VU s (AU s a) a' i g :=by
 have k:=FE s a;refine⟨f.1,f.2.1,k, ?_⟩;have b:DT s a l=Es s a l:=rc j;rcases f.2.2 with⟨c,d⟩|⟨c,d⟩
 .by_cases e:AU s a=1
  .exact .inr (.inl ⟨d,e,by rw[h];exact Ji (b.trans c) e⟩)
  exact .inl ⟨d,Aa,by rw[h];exact OE (b.trans c) e⟩
 exact .inr (.inr ⟨d,by rw[h];exact Mt (b.trans c)⟩)
def VV(w:U):(convert 62 9 (K O 0 0)).run ψ w=.ok (G ⟨#[]⟩) w:=by
 rw[run_convert_bytes_string w 62 9 5 O 0 0 underlying62 underlying5 underlying9]
 rfl
def Fp{w:U}{ao:Option Addr}{l:E υ}{a:N}(h:w.ownsRow 0 5 1 (K ao l.length a) l.length (Ak l)):(convert 62 9 (K ao l.length a)).run ψ w=.ok (G ⟨l.toArray⟩) w:=by
 have d :=h;obtain⟨_,h|⟨b,cap,c,f,_⟩⟩:=h
 .have e:l=[]:=sj h.2;rw[h.1,e];exact VV w
 injection f with h1 h2 h3;subst h1 h3;exact Eh (P:=ψ) w 62 9 5 ⟨b,0,O⟩ _ l underlying62 underlying5 underlying9 (d.cells rfl)
def GK(s:Y)(hs:s.size<=140737488355328)(w:U):
 μ ψ 110 #[G s] w λr w' =>r=ε (η #[G (Az s).1,I Q (Az s).2.1,I Q (Az s).2.2])/\Al w w' :=by
 have b3:χ (St (w.alloc (γ #[G s,I Q 0,K O 0 0,I Q 0] qC)) w.heap.size (λk=>w.heap.size<=k) s 0 [] 0):=⟨O,0,rh w _,rF _ _ _ _,λb hb=>by cases hb⟩;go_in;go_wp2;go_loopw [6,7,8,9] (λx _ _ _ wr=> ∃la C :N,x=I Q la/\wr.cell? ⟨w.heap.size,3,O⟩=J (I Q C)/\χ (∃a' l',VU s la a' l' C /\St wr w.heap.size (λk=>w.heap.size<=k) s a' l' C)/\χ (Al w wr)) (λx _ _ _ wr=>if JA wr w.heap.size 3=0 then 8*s.size+2- JA wr w.heap.size 1 else 0)
 .obtain ⟨ao,cp,A,_⟩:=uh b3;exact⟨0,0,rfl,A.c3,⟨0,[],⟨Aa,Ad,Aa,.inl ⟨rfl,rfl,rfl⟩⟩,b3⟩,(Ag.refl _ w).alloc _⟩
 obtain⟨la,C,rfl,t,HI,HO⟩:=hrel;obtain⟨a,l,c,a8⟩:=uh HI;by_cases c4:la=0/\C =0
 .obtain ⟨rfl,rfl⟩:=c4;have P:wr.cell? ⟨w.heap.size,3,O⟩=J (I Q 0):=t;have c0:DV s 0 []=DV s a l:=by
   rcases c.2.2.2 with⟨_,_,h⟩|⟨_,h,_⟩|⟨h,_⟩
   .exact h
   .cases h
   exact κ rfl h
  have HEQ:=Af c0;have a4:=c.1;have hl:=c.2.1;obtain⟨ao,cp,A,y,H⟩:=a8;have HM3:=Af (AP t);have HM1:=Af (AP A.c1);have HB:=Af (RR w.heap.size s hs a (K ao l.length cp) 0 a4 wr A);have HR:=Af A;have b1:=Af y;have b2:=Af H;clear c c0 A y H t HI;go_wp2_with fail;refine HB.mono ?_;rintro r w1 ⟨rfl,c8,c6⟩;have HN:=Af (Cj w.heap.size s hs _ (K ao l.length cp) _ 2 Aa (by split<;>omega) w1 c8);have b0:=Af c6;have b7:(if a<8*s.size then AU s a else 0)<2:=by split;exact FE _ _;omega
  have V:χ (a<8*s.size->(if a<8*s.size then AU s a else 0)=AU s a):=λh=>rd h
  generalize(if a<8*s.size then AU s a else 0)=bv at b7 V ⊢;clear c8 c6 P;go_wp2_with fail;refine HN.mono ?_;rintro r w2 ⟨T,a2,e2,rfl,j,a7,c7⟩;have f3:T<4:=j.1;have B:=Af (b0.trans c7);have W:=Af a7;have F:=a7.c3;have H2:=Af j;have D:=j.2.1;clear j a7 c7 HN b0;by_cases hroom:8*s.size<a+3
  .have a0:e2=2:=by
    have j:=uh H2;by_cases m:a<8*s.size
    .rw[rd m,rd m] at j;by_cases z:e2=0
     .have:=j.ok z;omega
     exact(j.bad z).2
    rw[rc m,rc m] at j;exact j.stay Ac
   subst a0;have b9:w2.cell? ⟨w.heap.size,3,O⟩=J (I Q 2):=F;have HRES:χ (Az s=(⟨#[]⟩,0,2)):=by
    unfold χ Az;rw[uh HEQ,Mt (show DT s a l=.inr 2 from rd hroom)];rfl
   have d3:χ (Al w w2):=HO.transNew (uh B) (λk i h=>κ i Aa);clear F;go_wp2_with fail;go_quiet (fail);go_wp2_with fail;go_ret3;rw[uh HRES];exact⟨rfl,d3.drewN _⟩
  have e0:bv=AU s a/\T=Aq s (a+1) 2/\a2=a+3/\e2=0:=by
   have j:=uh H2;have m:a<8*s.size:=Aa;rw[rd m,rd m] at j;have hb:=V m;by_cases z:e2=0
   .have:=j.ok z;exact⟨hb,this.2.1,Aa,z⟩
   have:=(j.bad z).1;omega
  obtain⟨d8,c5,b6,a0⟩:=e0;subst a0 b6 d8;have b9:w2.cell? ⟨w.heap.size,3,O⟩=J (I Q 0):=F;have p:=Af c5;have q:=Af (St.next (uh HR) (uh b1) (uh b2) (uh B) (uh W));have g:χ (Al w w2):=HO.transNew (uh B) (λk i h=>κ i Aa);have d7:Bs (λk=>w.heap.size<=k) w2:=λk i=>rz g.size i
  clear c5 F H2 V;have o:=uh p;by_cases k0:T=0
  .subst k0;have HKR:χ (Es s a l=Gi s (a+3) l):=by unfold χ;rw[JK,rd o.symm]
   have d0:=Af (dj w.heap.size (λk=>w.heap.size<=k) (rj _) s hs (a+3) l hl D w2 d7 (uh q));clear o p;go_wp2_with (go_at_call 192;refine d0.mono ?_;rintro r w9 ⟨rfl,f,a9,l9,e9,d,e⟩;have HO9:=Af (g.transNew f (λk i h=>κ i Aa));have HSR9:=Af d;have HST9:=Af e;clear f d e);exact zb
  have f7:((T:Z)==0)=false:=by rw[re];omega
  by_cases k1:T=1
  .subst k1;have HKR:χ (Es s a l=EU s BO Cz (a+3) l):=by unfold χ;rw[JK,rc Aa,rd o.symm]
   clear o p;go_wp2_with fail;refine(ZR w2).mono ?_;rintro r w3 ⟨g1,c1,g2,c2,rfl,a1,a3,f1,f2,v⟩;have f4:=a1.lt;have f5:=a3.lt;have L:=g.size;have e6:=v.size;have M:St w3 w.heap.size (λk=>k=w.heap.size\/(w.heap.size<=k/\k<w2.heap.size)\/w3.heap.size<=k) s (a+3) l 0:=by
    obtain⟨d5,d6,e1,R,c9⟩:=uh q;refine⟨d5,d6,e1.kept v (λx=>x),CL R v,λb hb=> .inr (.inl ⟨c9 b hb, ?_⟩)⟩;obtain⟨e7,hg⟩:=CV R (b:=b.block) (by rw[hb];rfl);exact(qW.1 hg).1
   have e4:=W.lt;have b4:=Af (Nk w.heap.size (λk=>k=w.heap.size\/(w.heap.size<=k/\k<w2.heap.size)\/w3.heap.size<=k) (.inl rfl) s hs (a+3) l hl D g1 0 c1 BO (by rw[BH];omega) Aa g2 0 c2 Cz (by rw[Cz,rP];omega) Aa w3 (λk i=> .inr (.inr i)) M a1 a3);rw[BH,show Cz.length=32 from by rw[Cz,rP]] at b4;have d2:=Af v;clear a1 a3 v M;go_wp2_with (go_at_call 194;refine b4.mono ?_;rintro r w9 ⟨rfl,f,a9,l9,e9,d,e⟩;have HO9:=Af ((g.trans (uh d2)).transNew f (λk i h=>κ i Aa));have HSR9:=Af d;have HST9:=Af (e.mono (S' :=λk=>w.heap.size<=k) (λk _ h=>Aa));clear f d e);exact zb
  have f8:((T:Z)==1)=false:=by rw[re];omega
  by_cases k2:T=2
  .subst k2;have HKR:χ (Es s a l=LD s (a+3) l):=by unfold χ;rw[JK,rc Aa,rc Aa,rd o.symm]
   have d4:=Af (dn w.heap.size (λk=>w.heap.size<=k) (rj _) s hs (a+3) l hl D w2 (uh q));have L:=g.size;clear o p;go_wp2_with (go_at_call 195;refine d4.mono ?_;rintro r w9 ⟨rfl,f,a9,l9,e9,d,S9,e,b5⟩;have HO9:=Af (g.transNew f (λk i h=>κ i Aa));have HSR9:=Af d;have HST9:=Af (e.mono (S' :=λk=>w.heap.size<=k) (λk _ h=>(sb k w2.heap.size).elim (λi=>b5 k i h) (λi=>rz L i)));clear f d e b5);exact zb
  have f9:((T:Z)==2)=false:=by rw[re];omega
  have HKR:χ (Es s a l=.inr 2):=by unfold χ;rw[JK,rc Aa,rc Aa,rc Aa]
  have d1:=Af (Cg w.heap.size s (a+3) (K ao l.length cp) 0 2 w2 (uh W));clear o p;go_wp2_with (go_at_call 196;refine d1.mono ?_;rintro r w9 ⟨rfl,hr9,f⟩;have HO9:=Af (g.transNew f (λk i h=>κ i Aa));have HST9:=Af (St.next (uh HR) (uh b1) (uh b2) (B.trans f) hr9);clear f hr9);have HSR9:χ (ZP s (.inr 2) (a+3) l 2):=⟨D,hl,.inr ⟨rfl,Aa⟩⟩;obtain⟨a9,X⟩: ∃x,x=a+3:=⟨_,rfl⟩;obtain⟨l9,a5⟩: ∃x,x=l:=⟨_,rfl⟩;obtain⟨e9,u⟩: ∃x,x=2:=⟨_,rfl⟩;have HST9:χ (St w9 w.heap.size (λk=>w.heap.size<=k) s a9 l9 e9):=by rw[X,a5,u];exact HST9
  have HSR9:χ (ZP s (.inr 2) a9 l9 e9):=by rw[X,a5,u];exact HSR9
  clear X a5 u;exact zb
 by_cases z:C =0
 .subst z;obtain⟨a6,S⟩:la=1/\DV s 0 []=.inl (a,l):=by
   rcases c.2.2.2 with⟨_,h,_⟩|⟨_,h,j⟩|⟨h,_⟩
   .exact κ ⟨h,rfl⟩ c4
   .exact ⟨h,j⟩
   exact κ rfl h
  subst a6;obtain⟨ao,cp,A,y,H⟩:=a8;have d9: ∀n,(convert 62 9 (K ao l.length cp)).run ψ (wr.drewN n)=.ok (G ⟨l.toArray⟩) (wr.drewN n):=λn=>Fp (w:=wr.drewN n) y
  have e3:=d9 0;have HRES:χ (Az s=(⟨l.toArray⟩,(a+7)/8,0)):=by unfold χ Az;rw[S];rfl
  have h1:=A.c1;have j:=A.c2;have P:wr.cell? ⟨w.heap.size,3,O⟩=J (I Q 0):=t;have e8:a<=1125899906842624:=by have:=c.1;omega
  clear c S A y H t HI;exact Wo
 have hb:((C :Z)==0)=false:=by rw[re];omega
 have f0:((C :Z) !=0)=true:=by rw[rS];omega
 have HRES:χ (Az s=(⟨#[]⟩,0,C)):=by
  rcases c.2.2.2 with⟨h,_⟩|⟨h,_⟩|⟨_,h⟩
  .exact κ h z
  .exact κ h z
  unfold χ Az;rw[h];rfl
 have e5:=c.2.2.1;clear c a8 HI;by_cases a6:la=0
 .subst a6;exact Wo
 have f6:((la:Z)==0)=false:=by rw[re];omega
 exact Wo
open Go.RowKit Go.Maps Go.Proofs.Tryz
abbrev ov:TypeId:=109
def Up(w:U)(g:N)(s:Y)(a:N)(o:β):Prop:=w.heap[g]? =J (γ #[G s,I Q a,o] ov (0,0))
section
variable {w:U} {g:N} {s:Y} {a:N} {o:β}
def Up.lt(h:Up w g s a o):g<w.heap.size:=(qW.1 h).1
def Up.c0(h:Up w g s a o):w.cell? ⟨g,0,O⟩=J (G s):=by rw[qV w g 0 _ _ (0,0) h];rfl
def Up.c1(h:Up w g s a o):w.cell? ⟨g,1,O⟩=J (I Q a):=by rw[qV w g 1 _ _ (0,0) h];rfl
def Up.c2(h:Up w g s a o):w.cell? ⟨g,2,O⟩=J o:=by rw[qV w g 2 _ _ (0,0) h];rfl
def Up.thaw(h:Up w g s a o)(i:N):w.frozen? ⟨g,i,O⟩=false:=rp w g i _ _ h
def Up.set1(h:Up w g s a o){v:β}{a' :N}(b:v=I Q a'):Up (w.setCell ⟨g,1,O⟩ v) g s a' o:=by subst b;exact ru w g 1 _ _ _ h
def Up.set2(h:Up w g s a o)(b :β):Up (w.setCell ⟨g,2,O⟩ b) g s a b :=ru w g 2 _ _ _ h
def Up.kept{S:N->Prop}{w' :U}(h:Up w g s a o)(b:Ag S w w')(c:¬S g):Up w' g s a o:=(b.block g h.lt c).trans h
def Up.drewN(h:Up w g s a o)(n:N):Up (w.drewN n) g s a o:=h
end
def YS(g:N)(s:Y)(z:s.size<=140737488355328)(a:N)(o:β)(v:a<8*s.size)(w:U)(h:Up w g s a o):
 μ ψ 235 #[δ (J ⟨g,0,O⟩)] w λr w' =>r=ε (η #[I Q (AU s a),ζ true])/\Up w' g s (a+1) o/\Ag (λk=>k=g) w w' :=by
 have h0:=h.c0;have u:=h.c1;have y:=h.thaw 1;have e:=Af h;clear h;have j:a/8<s.size:=Aa;have m:(a:Z)/8<(s.size:Z):=Aa;have l:(0:Z)<=(a:Z)/8:=Aa;have t:((a:Z)/8).toNat=a/8:=Aa;have n:(0:Z)<=(a:Z)%8:=Aa;have q:((a:Z)%8).toNat=a%8:=Aa;have x:=AC (s:=s) (k:=a/8) j;have c:=Bf s (a/8);have d:χ (AU s a=As s (a/8)/2^(a%8)%2):=rfl;have f:=cY (i:=a%8) c;generalize As s (a/8)=b at*;go_in;go_wp2_with fail;go_quiet (fail);go_wp2_with fail;go_quiet (fail);go_wp2;go_ret2;refine⟨Lw (rI (Value.int Q) ?_) rfl, ?_, ?_⟩
 .rw[uh d,uY,sR,so];rfl
 .exact (e.drewN _).set1 (by congr 1)
 exact aal
def Tv(g:N)(s:Y)(i:s.size<=140737488355328)(a:N)(o:β)(f:¬a<8*s.size)(c:a<=8*s.size)(w:U)(h:Up w g s a o):
 μ ψ 235 #[δ (J ⟨g,0,O⟩)] w λr w' =>r=ε (η #[I Q 0,ζ false])/\Up w' g s a o/\Ag (λk=>k=g) w w' :=by
 have h0:=h.c0;have e:=h.c1;have b:=Af h;clear h;have d:¬(a:Z)/8<(s.size:Z):=Aa;go_in;go_wp2_with fail;go_quiet (fail);go_wp2;go_ret2;exact⟨rfl,b.drewN _,(Ag.refl (λk=>k=g) w).drewN _⟩
def du{v b i:N}(d:v<2^i)(f:b<2)(c:i<=16):bits .or Q (v:Z) ((b:Z)*2^i)=((v+b*2^i:N):Z):=by
 have hp:2^i<=2^16:=rG Aa c;have a:b*2^i<=1*2^i:=sA _ Aa;have e:(b:Z)*2^i=((b*2^i:N):Z):=by rw[sY,so];rfl
 rw[e,Or _ _ Aa Aa,yD,yK i (b*2^i) v Ad d,uL]
def EY(g:N)(s:Y)(S:s.size<=140737488355328)(a:N)(o:β)(n:N)(hn:n<=16)(ha:a<=8*s.size)(w:U)(h:Up w g s a o):
 μ ψ 145 #[δ (J ⟨g,0,O⟩),I Q n] w λr w' =>Ag (λk=>k=g) w w' /\
  ((a+n<=8*s.size/\r=ε (η #[I Q (Aq s a n),ζ true])/\Up w' g s (a+n) o)\/(8*s.size<a+n/\r=ε (η #[I Q 0,ζ false])/\Up w' g s (8*s.size) o)):=by
 have T:=Af h;clear h;go_in;go_wp2;go_loopw [6,7,8,9,11] (λx _ _ _ z wr=> ∃v i:N,i<=n/\x=I Q v/\z=I Q i/\χ (v=Aq s a i/\a+i<=8*s.size/\Up wr g s (a+i) o)/\χ (Ag (λk=>k=g) w wr)) (λ_ _ _ _ z _=>n- (intOf z).toNat)
 .exact ⟨0,0,Aa,rfl,rfl,⟨rfl,Aa,T⟩,Ag.refl _ w⟩
 obtain⟨v,i,hi,rfl,rfl,M,C⟩:=hrel;by_cases X:i<n
 .obtain ⟨p,m,c⟩:=uh M;have R:(i:Z)<(n:Z):=Aa;by_cases t:a+i<8*s.size
  .have A:=Af (YS g s S (a+i) o t wr c);have u:=FE s (a+i);have H:v<2^i:=by rw[p];exact Cf s a i
   have B:χ (Aq s a (i+1)=v+AU s (a+i)*2^i):=by unfold χ;rw[Aq,p]
   have y:=du H u (show i<=16 by omega);have a0:2^i<=2^15:=rG Aa Aa;generalize AU s (a+i)=b at A u B y;have V:b*2^i<=1*2^i:=sA _ Aa;have W:(0:Z)<=(i:Z):=Aa;have P:(i:Z)<64:=Aa;have a1:((i:N):Z).toNat=i:=rO i;have L:IntKind.i64.wrap ((b:Z)*2^i)=(b:Z)*2^i:=by
    have e:(b:Z)*2^i=((b*2^i:N):Z):=(by rw[sY,so];rfl);rw[e];exact Av _ Aa
   generalize hq:v+b*2^i=q at y B;clear p c hq;go_wp2_with (go_at_call 235;refine A.mono ?_;rintro r w1 ⟨rfl,f,d⟩;have l:=Af f;have j:=Af d;clear f d);go_roundw
   .exact ⟨q,i+1,Aa,rfl,by go_num,⟨(uh B).symm,Aa,l⟩,C.trans (uh j)⟩
   exact Ae
  have A:=Af (Tv g s S (a+i) o t m wr c);have D:a+i=8*s.size:=Aa;clear p c;go_wp2_with (go_at_call 235;refine A.mono ?_;rintro r w1 ⟨rfl,f,d⟩;have l:=Af f;have j:=Af d;clear f d);go_ret2;refine⟨C.trans (uh j),.inr ⟨Aa,rfl, ?_⟩⟩;have:=uh l;rw[D] at this;exact this
 have F:i=n:=Aa;subst F;go_wp2;go_ret2;obtain⟨p,m,c⟩:=uh M;exact⟨C,.inl ⟨m,by rw[p];rfl,c⟩⟩
def lh(g:N)(s:Y)(d:s.size<=140737488355328)(a:N)(o:β)(c:a<=8*s.size)(w:U)(h:Up w g s a o):
 μ ψ 77 #[δ (J ⟨g,0,O⟩)] w λr w' =>r=ε (I Q ((a+7)/8:N))/\w' =w:=by
 have b:=h.c1;clear h;go_in;go_wp2;go_ret;exact⟨Bb (rI (Value.int Q) Aa),rfl⟩
def oM(g:N)(s:Y)(f:s.size<=140737488355328)(a:N)(o:β)(e:a<=8*s.size)(w:U)(h:Up w g s a o):
 μ ψ 236 #[δ (J ⟨g,0,O⟩)] w λr w' =>r=ε (η #[])/\Up w' g s (BT a) o/\Ag (λk=>k=g) w w' :=by
 have i:=h.c1;have l:=h.thaw 1;have d:=Af (lh g s f a o e w h);have c:=Af h;have j:(a+7)/8<=140737488355329:=Aa;have b:χ (8*((a+7)/8)=BT a):=by unfold χ BT;omega
 clear h;generalize(a+7)/8=u at*;go_in;go_wp2_with (go_at_call 77;refine d.mono ?_;rintro r w1 ⟨rfl,rfl⟩);go_end0;exact⟨rfl,c.set1 (by rw[<-uh b,sY];rfl),(Ag.refl (λk=>k=g) _).setCell (p:=⟨g,1,O⟩) (λ_=>rfl) _⟩
def ZW(g:N)(s:Y)(t:s.size<=140737488355328)(q:N)(o:β)(c:N)(n:q+c<=s.size)(w:U)(h:Up w g s (8*q) o):
 μ ψ 238 #[δ (J ⟨g,0,O⟩),I Q c] w λr w' =>r=ε (η #[G (s.extract q (q+c)),ζ true])/\Up w' g s (8*q+8*c) o/\Ag (λk=>k=g) w w' :=by
 have h0:=h.c0;have b:=h.c1;have m:=h.thaw 1;have a:=Af h;rw[show((8*q:N):Z)=8*(q:Z) by omega] at b;clear h;have d:(8*(q:Z))/8=(q:Z):=Aa;have e:¬(s.size:Z)- (q:Z)<(c:Z):=Aa;have f:(q:Z)+(c:Z)<=(s.size:Z):=Aa;have i:((q:Z)+(c:Z)).toNat=q+c:=Aa;have j:(q:Z)<=(q:Z)+(c:Z):=Aa;have l:(0:Z)<=(q:Z):=Aa;go_in;go_wp2;go_ret2;exact⟨rfl,a.set1 (by congr 1),(Ag.refl (λk=>k=g) _).setCell (p:=⟨g,1,O⟩) (λ_=>rfl) _⟩
def VW(g:N)(s:Y)(j:s.size<=140737488355328)(q:N)(o:β)(c:N)(b:q<=s.size)(f:c<=65535)(i:¬q+c<=s.size)(w:U)(h:Up w g s (8*q) o):
 μ ψ 238 #[δ (J ⟨g,0,O⟩),I Q c] w λr w' =>r=ε (η #[G ⟨#[]⟩,ζ false])/\w' =w:=by
 have h0:=h.c0;have a:=h.c1;rw[show((8*q:N):Z)=8*(q:Z) by omega] at a;clear h;have d:(8*(q:Z))/8=(q:Z):=Aa;have e:(s.size:Z)- (q:Z)<(c:Z):=Aa;go_in;go_wp2;go_ret2;exact⟨rfl,rfl⟩
def dw(g:N)(s:Y)(a:N)(ao:Option Addr)(n b m:N)(d:n<=20000)(w:U)(h:Up w g s a (K ao n b)):
 μ ψ 237 #[δ (J ⟨g,0,O⟩),I Q m] w λr w' =>r=ε (ζ (decide (n+m<=20000)))/\w' =w:=by
 have c:=h.c2;clear h;go_in;go_wp2;go_ret;exact⟨Bb (rI Value.bool (by rw[decide_eq_decide];omega)),rfl⟩
def VX(y:N)(a:¬(257<=y/\y<=285))(w:U):
 μ ψ 230 #[I Q y] w λr w' =>r=ε (η #[I Q 0,I Q 0,ζ false])/\w' =w:=by
 by_cases c:y<257
 .have b:(y:Z)<257:=Aa;clear a;exact Wc
 have b:¬(y:Z)<257:=Aa;have d:(285:Z)<(y:Z):=Aa;clear a;exact Wc
def Sb{a b c d e f:β}(h:a=d)(k:b=e)(m:c=f):Ending.returned (η #[a,b,c])=ε (η #[d,e,f]):=by rw[h,k,m]
def KY(y:N)(l:257<=y)(o:y<=285)(w:U):
 μ ψ 230 #[I Q y] w λr w' =>r=ε (η #[I Q (Bc y),I Q (AK y),ζ true])/\w' =w:=by
 have u:¬(y:Z)<257:=Aa;have v:¬(285:Z)<(y:Z):=Aa;by_cases e:y<=260
 .have b:AK y=0:=rd Aa;have c:Bc y=y- 254:=rd Aa;have k:(y:Z)<261:=Aa;have f:χ (((y- 254:N):Z)=(y:Z)- 257+3):=by unfold χ;omega
  rw[b,c];clear b c;go_in;go_wp2_with fail;go_ret3;exact⟨Sb (rI (Value.int Q) (uh f).symm) rfl rfl,rfl⟩
 have k:¬(y:Z)<261:=Aa;by_cases a:y=285
 .subst a;exact Wc
 have p:((y:Z)==285)=false:=by rw[re];omega
 have b:AK y=(y- 261)/4:=by
  unfold AK;by_cases h:y<=264
  .rw[rd h];omega
  rw[rc h,rc a]
 have c:Bc y=3+2^((y- 261)/4)*(4+(y- 261)%4):=by
  unfold Bc;by_cases h:y<=264
  .rw[rd h,show(y- 261)/4=0 by omega,show(y- 261)%4=y- 261 by omega];omega
  rw[rc h,rc a]
 rw[b,c];clear b c;have t:((y:Z)- 261)/4=(((y- 261)/4:N):Z):=Aa;have s:((y:Z)- 261)%4=(((y- 261)%4:N):Z):=Aa;have d:(y- 261)/4<=5:=Aa;have j:(y- 261)%4<4:=si _ Aa;have h0:(0:Z)<=(y:Z)- 261:=Aa;generalize(y- 261)/4=n at*;generalize(y- 261)%4=m at*;have hpw:2^n<=2^5:=rG Aa d;obtain⟨q,hqq⟩: ∃q,q=2^n*(4+m):=⟨_,rfl⟩;have g:(4+(m:Z))*2^n=(q:Z):=by rw[hqq,sY,so,Int.mul_comm];rfl
 have i:q<=224:=by have:2^n*(4+m)<=32*7:=tY Aa Aa;omega
 exact Wu
def dx(d:N)(a:29<d)(w:U):
 μ ψ 232 #[I Q d] w λr w' =>r=ε (η #[I Q 0,I Q 0,ζ false])/\w' =w:=by
 have b:¬(d:Z)<0:=Aa;have c:(30:Z)<=(d:Z):=Aa;exact Wc
def OG(d:N)(j:d<=29)(w:U):
 μ ψ 232 #[I Q d] w λr w' =>r=ε (η #[I Q (AV d),I Q (AZ d),ζ true])/\w' =w:=by
 have o:¬(d:Z)<0:=Aa;have p:¬(30:Z)<=(d:Z):=Aa;by_cases e:d<4
 .have a:AZ d=0:=rd e;have b:AV d=d+1:=rd e;have i:(d:Z)<4:=Aa;rw[a,b];clear a b;exact Wc
 have i:¬(d:Z)<4:=Aa;have a:AZ d=d/2- 1:=rc e;have b:AV d=1+2^(d/2- 1)*(2+d%2):=rc e;rw[a,b];clear a b;have l:(d:Z)/2- 1=((d/2- 1:N):Z):=Aa;have k:(d:Z)%2=((d%2:N):Z):=Aa;have c:d/2- 1<=13:=Aa;have h:d%2<2:=si _ Aa;generalize d/2- 1=n at*;generalize d%2=m at*;have hpw:2^n<=2^13:=rG Aa c;obtain⟨q,hqq⟩: ∃q,q=2^n*(2+m):=⟨_,rfl⟩;have f:(2+(m:Z))*2^n=(q:Z):=by rw[hqq,sY,so,Int.mul_comm];rfl
 have g:q<=24576:=by have:2^n*(2+m)<=8192*3:=tY Aa Aa;omega
 exact Wu
def KN(B:E N)(k:N):N->N
 |0=>0
 |n+1=>KN B k n+B.getD (8*k+n) 0*2^n
def LE(B:E N):Prop:= ∀x∈B,x<2
def LE.get{B:E N}(a:LE B)(i:N):B.getD i 0<2:=by
 rw[qT];rcases sb i B.length with hl|hl
 .rw[qY hl];exact a _ (ro _)
 rw[rL hl];decide
def LE.append{A B:E N}(a:LE A)(b:LE B):LE (A++B):=λx c=>(rR.1 c).elim (a x) (b x)
def Sc{B:E N}(a:LE B)(k n:N):KN B k n<2^n:=by
 induction n with
 |zero=>exact xN
 |succ n ih=>
  have h:=a.get (8*k+n);have b:B.getD (8*k+n) 0*2^n<=1*2^n:=sA _ Aa;rw[KN,tV];omega
def AN(B:E N):E υ:=(List.range ((B.length+7)/8)).map λk=>b8 (KN B k 8)
def Bj(B:E N):(AN B).length=(B.length+7)/8:=by simp[AN]
def YT{B:E N}(a:LE B)(k:N): ∀(n i:N),i<n->KN B k n/2^i%2=B.getD (8*k+i) 0
 |n+1,i,hi=>by
  have c:=a.get (8*k+n);have b:=Sc a k n;rw[KN];rcases sb i n with h|h
  .have e:2^n=2^i*(2*2^(n- i- 1)):=by rw[<-Nat.pow_succ',<-uW];congr 1;omega
   rw[e,Nat.mul_left_comm,Nat.add_mul_div_left _ _ (Nat.two_pow_pos i),Nat.mul_left_comm,Nat.add_mul_mod_self_left];exact YT a k n i h
  have e:i=n:=Aa;subst e;rw[Nat.add_mul_div_right _ _ (Nat.two_pow_pos i),yq b,rx,uF c]
def Mu{A B:E N}{k n:N}(h: ∀i,i<n->A.getD (8*k+i) 0=B.getD (8*k+i) 0):KN A k n=KN B k n:=by
 induction n with
 |zero=>rfl
 |succ n ih=>rw[KN,KN,ih (λi a=>h i Aa),h n Aa]
def DH(B:E N)(k:N)(h:k<(B.length+7)/8):(AN B)[k]? =J (b8 (KN B k 8)):=by simp[AN,h]
def IK(B:E N)(b i:N):(B++[b]).getD i 0=if i<B.length then B.getD i 0 else if i=B.length then b else 0:=by
 rw[qT,qT];by_cases h:i<B.length
 .rw[rd h,rM h]
 rw[rc h,rE Aa];by_cases a:i=B.length
 .subst a;simp
 rw[rc a];obtain⟨j,c⟩: ∃j,i- B.length=j+1:=⟨i- B.length- 1,Aa⟩;rw[c];rfl
def Mv(B:E N)(i:N)(h:B.length<=i):B.getD i 0=0:=by
 rw[qT,rL h];rfl
def ZX{B:E N}(b:N)(h:B.length%8=0):AN (B++[b])=AN B++[b8 b]:=by
 apply ub;intro k;rw[List.getElem?_append];rcases sb k ((B.length+7)/8) with hk|hk
 .rw[rd (by rw[Bj];exact hk),DH B k hk,DH _ k (by rw[qU];simp;omega)];congr 2;exact Mu (λi a=>by rw[IK,rd Aa])
 rw[rc (by rw[Bj];omega),Bj];by_cases e:k=B.length/8
 .rw[DH _ k (by rw[qU];simp;omega),show k- (B.length+7)/8=0 by omega];show J _=J _;congr 2;have z: ∀n,n<=7->KN (B++[b]) k (n+1)=b:=by
   intro n;induction n with
   |zero=>intro _;rw[KN,KN,IK,rc Aa,rd Aa];omega
   |succ n ih=>intro c;rw[KN,ih Aa,IK,rc Aa,rc Aa];omega
  exact z 7 Aa
 rw[rL (by rw[Bj,qU];simp;omega),rL (by simp;omega)]
def dy{B:E N}(b:N)(h:B.length%8≠0):AN (B++[b])=(AN B).set ((AN B).length- 1) (b8 (KN B (B.length/8) 8+b*2^(B.length%8))):=by
 apply ub;intro k;rw[vy,Bj];by_cases e:(B.length+7)/8- 1=k
 .rw[rd e,rd Aa,DH _ k (by rw[qU];simp;omega)];have a:k=B.length/8:=Aa;congr 2;subst a;have z: ∀n,KN (B++[b]) (B.length/8) n=KN B (B.length/8) n+if B.length%8<n then b*2^(B.length%8) else 0:=by
   intro n;induction n with
   |zero=>rw[KN,KN,rc Aa]
   |succ n ih=>
    rw[KN,KN,ih,IK];rcases vz n (B.length%8) with h1|h1|h1
    .rw[rd (show 8*(B.length/8)+n<B.length by omega),rc (show ¬B.length%8<n by omega),rc (show ¬B.length%8<n+1 by omega)];omega
    .rw[rc (show ¬8*(B.length/8)+n<B.length by omega),rd (show 8*(B.length/8)+n=B.length by omega),rc (show ¬B.length%8<n by omega),rd (show B.length%8<n+1 by omega),Mv B _ Aa,h1];omega
    rw[rc (show ¬8*(B.length/8)+n<B.length by omega),rc (show ¬8*(B.length/8)+n=B.length by omega),rd (show B.length%8<n by omega),rd (show B.length%8<n+1 by omega),Mv B _ Aa];omega
  rw[z 8,rd Aa]
 rw[rc e];rcases sb k ((B.length+7)/8) with a|a
 .rw[DH B k a,DH _ k (by rw[qU];simp;omega)];congr 2;exact Mu (λi c=>by rw[IK,rd Aa])
 rw[rL (by rw[Bj,qU];simp;omega),rL (by rw[Bj];omega)]
def ZY(B:E N)(n:N)(h:(B.length+7)/8=(B.length+n+7)/8):AN (B++List.replicate n 0)=AN B:=by
 apply ub;intro k;rcases sb k ((B.length+7)/8) with hk|hk
 .rw[DH B k hk,DH _ k (by rw[qU,rP];omega)];congr 2;refine Mu (λi a=> ?_);rw[qT,qT];rcases sb (8*k+i) B.length with hl|hl
  .rw[rM hl]
  rw[rE hl,rL (l:=B) hl,tI];split<;>rfl
 rw[rL (by rw[Bj,qU,rP];omega),rL (by rw[Bj];omega)]
def mi(s:Y)(B:E N):Prop:=B.length<=8*s.size/\∀i,i<B.length->AU s i=B.getD i 0
def Tw(l:E υ)(k:N)(u:υ)(h:l[k]? =J u):As ⟨l.toArray⟩ k=u.toNat:=by
 obtain⟨a,c⟩:=sU.1 h;have b:k<(⟨l.toArray⟩:Y).size:=by show k<l.toArray.size;rw[sq];exact a
 unfold As;rw[uO b,<-c]
 rfl
def OH{B:E N}(b:LE B)(rest:E υ):mi ⟨(AN B++rest).toArray⟩ B:=by
 refine⟨?_,λi c=> ?_⟩
 .show B.length<=8*(AN B++rest).toArray.size;rw[sq,qU,Bj];omega
 have a:i/8<(AN B).length:=by rw[Bj];omega
 have e:As ⟨(AN B++rest).toArray⟩ (i/8)=KN B (i/8) 8:=by
  rw[Tw _ _ (b8 (KN B (i/8) 8)) (by rw[rM a];exact DH B _ (by rw[Bj] at a;exact a))];exact AL (Sc b _ 8)
 rw[AU,e,YT b _ 8 _ (si _ Aa)];congr 1;omega
def At(s:Y)(a:N)(B:E N):Prop:=a+B.length<=8*s.size/\∀i,i<B.length->AU s (a+i)=B.getD i 0
def mi.all{s:Y}{B:E N}(h:mi s B):At s 0 B:=⟨by have:=h.1;omega,λi a=>by rw[rx];exact h.2 i a⟩
def At.left{s:Y}{a:N}{A B:E N}(h:At s a (A++B)):At s a A:=by
 obtain⟨c,b⟩:=h;rw[qU] at c b;refine⟨Aa,λi d=> ?_⟩;rw[b i Aa,qT,qT,rM d]
def At.right{s:Y}{a:N}{A B:E N}(h:At s a (A++B)):At s (a+A.length) B:=by
 obtain⟨c,b⟩:=h;rw[qU] at c b;refine⟨Aa,λi d=> ?_⟩;rw[sM,b (A.length+i) Aa,qT,qT,rE Aa,show A.length+i- A.length=i by omega]
def CO(v n:N):E N:=(List.range n).map λi=>v/2^i%2
def EZ(v n:N):E N:=(List.range n).map λi=>v/2^(n- 1- i)%2
def DW(v n:N):(CO v n).length=n:=by simp[CO]
def DI(v n:N):(EZ v n).length=n:=by simp[EZ]
def Fa(v n:N):LE (CO v n):=abk
def Fq(v n:N):LE (EZ v n):=abk
def dz(v n i:N)(h:i<n):(CO v n).getD i 0=v/2^i%2:=by
 rw[qT];simp[CO,h]
def QI(v n i:N)(h:i<n):(EZ v n).getD i 0=v/2^(n- 1- i)%2:=by
 rw[qT];simp[EZ,h]
def ZZ(v n:N):CO v (n+1)=CO v n++[v/2^n%2]:=by simp[CO,tA]
def At.num{s:Y}{a v n:N}(h:At s a (CO v n)):Aq s a n=v%2^n:=by
 have g: ∀m,m<=n->Aq s a m=v%2^m:=by
  intro m;induction m with
  |zero=>intro _;rw[Aq,Nat.pow_zero,uX]
  |succ m ih=>
   intro b;rw[Aq,ih Aa,h.2 m (by rw[DW];omega),dz _ _ _ Aa,tV,Nat.mod_mul,tP]
 exact g n (rj _)
def At.numV{s:Y}{a v n:N}(h:At s a (CO v n))(b:v<2^n):Aq s a n=v:=by rw[h.num,uF b]
def At.dec{s:Y}{L:E N}{a v n y:N}(h:At s a (EZ v n))(q:v<2^n)(u:1<=n)(o:n<=15)
 (j: ∀m,1<=m->m<n->¬(AJ L m<=v/2^(n- m)/\v/2^(n- m)<AJ L m+(BS L m).length))
 (c:AJ L n<=v/\v<AJ L n+(BS L n).length)(r:(BS L n).getD (v- AJ L n) 0=y):dec s L a=J (y,a+n):=by
 have f:=h.1;rw[DI] at f;have p: ∀i,i<n->AU s (a+i)=v/2^(n- 1- i)%2:=λi l=>by rw[h.2 i (by rw[DI];exact l),QI _ _ _ l]
 have b: ∀m,m<n->2*(v/2^(n- m))+AU s (a+m)=v/2^(n- (m+1)):=by
  intro m d;rw[p m d,show n- (m+1)=n- 1- m by omega,show n- m=(n- 1- m)+1 by omega,tV,<-Nat.div_div_eq_div_mul];exact Nat.div_add_mod _ 2
 have g: ∀m,m<n->DM s L (15- m) (v/2^(n- m)) (a+m)=J (y,a+n):=by
  intro m d;obtain⟨k,t⟩: ∃k,k=n- 1- m:=⟨_,rfl⟩;induction k generalizing m with
  |zero=>
   have e:n=m+1:=Aa;rw[show 15- m=(15- n)+1 by omega,DM,rd Aa,b m d,show 15- (15- n)=n by omega,show n- (m+1)=0 by omega,Nat.pow_zero,Nat.div_one,rd c,r];rw[e,sM]
  |succ k ih=>
   rw[show 15- m=(15- (m+1))+1 by omega,DM,rd Aa,b m d,show 15- (15- (m+1))=m+1 by omega,rc (j (m+1) Aa Aa),sM];exact ih (m+1) Aa Aa
 have:=g 0 Aa;rw[xE,xE,sS,yq q] at this;exact this
def Tx:BS BO 7=(List.range 24).map (λi=>256+i):=by decide+kernel
def Qf:BS BO 8=List.range 144++(List.range 8).map (λi=>280+i):=by decide+kernel
def iY:BS BO 9=(List.range 112).map (λi=>144+i):=by decide+kernel
def oN:(List.range 7).all (λm=>(BS BO m).isEmpty)=true:=by decide+kernel
def LF(m:N)(h:m<7):BS BO m=[]:=by
 have:=rV.1 oN m (rJ.2 h);exact List.isEmpty_iff.1 this
def Fr(m:N)(h:m<=7):AJ BO m=0:=by
 induction m with
 |zero=>rfl
 |succ m ih=>rw[AJ,ih Aa,LF m Aa];split<;>rfl
def JL:AJ BO 8=48:=by rw[AJ,Fr 7 Aa,Tx];rfl
def VY:AJ BO 9=400:=by rw[AJ,JL,Qf,qU,uS,sJ,uS,rc Ac]
def YU:BS Cz 5=List.range 32:=by decide+kernel
def mn:(List.range 5).all (λm=>(BS Cz m).isEmpty)=true:=by decide+kernel
def Ty(m:N)(h:m<5):BS Cz m=[]:=List.isEmpty_iff.1 (rV.1 mn m (rJ.2 h))
def KZ(m:N)(h:m<=5):AJ Cz m=0:=by
 induction m with
 |zero=>rfl
 |succ m ih=>rw[AJ,ih Aa,Ty m Aa];split<;>rfl
def Qg(y:N):N:=if y<144 then 48+y else if y<256 then 400+(y- 144) else if y<280 then y- 256 else 192+(y- 280)
def IL(y:N):N:=if y<144 then 8 else if y<256 then 9 else if y<280 then 7 else 8
def FG(y:N):E N:=EZ (Qg y) (IL y)
def aa(d:N):E N:=EZ d 5
def FH(y:N):(FG y).length=IL y:=DI _ _
def Sd(y:N):IL y<=9:=by unfold IL;repeat (first|split|omega)
def Dj(n c j:N)(h:j<n):((List.range n).map (λi=>c+i)).getD j 0=c+j:=by
 rw[qT];simp[h]
def At.sym{s:Y}{a y:N}(h:At s a (FG y))(i:y<288):Go.Proofs.YtndfmgdhiallpaaGreatDoor.dec s BO a=J (y,a+IL y):=by
 unfold FG Qg IL at*;by_cases c:y<144
 .rw[rd c,rd c] at h;rw[rd c];refine h.dec Aa Aa Aa (λm g b=> ?_) ?_ ?_
  .exact we
  .rw[JL,Qf];simp;omega
  rw[JL,Qf,show 48+y- 48=y by omega,qT,rM (by simpa using c)];simp[c]
 rw[rc c,rc c] at h;rw[rc c];by_cases d:y<256
 .rw[rd d,rd d] at h;rw[rd d];refine h.dec Aa Aa Aa (λm g b=> ?_) ?_ ?_
  .rcases sb m 7 with h7|h7
   .rw[LF m h7];intro hh;have:=hh.2;have:=hh.1;simp at*;omega
   by_cases e:m=7
   .subst e;rw[Tx,Fr 7 Aa];simp;omega
   have e:m=8:=Aa;subst e;rw[Qf,JL];simp;omega
  .rw[VY,iY];simp;omega
  rw[VY,iY,Dj _ _ _ Aa];omega
 rw[rc d,rc d] at h;rw[rc d];by_cases f:y<280
 .rw[rd f,rd f] at h;rw[rd f];refine h.dec Aa Aa Aa (λm g b=> ?_) ?_ ?_
  .rw[LF m b];intro hh;have:=hh.2;have:=hh.1;simp at*;omega
  .rw[Fr 7 Aa,Tx];simp;omega
  rw[Fr 7 Aa,Tx,Dj _ _ _ Aa];omega
 rw[rc f,rc f] at h;rw[rc f];refine h.dec Aa Aa Aa (λm g b=> ?_) ?_ ?_
 .exact we
 .rw[JL,Qf];simp;omega
 rw[JL,Qf,qT,rE (by simp;omega),<-qT,Dj _ _ _ (by simp;omega)];simp;omega
def At.dst{s:Y}{a d:N}(h:At s a (aa d))(e:d<32):Go.Proofs.YtndfmgdhiallpaaGreatDoor.dec s Cz a=J (d,a+5):=by
 refine At.dec h Aa Aa Aa (λm f b=> ?_) ?_ ?_
 .rw[Ty m b];intro c;have:=c.2;have:=c.1;simp at*;omega
 .rw[KZ 5 Aa,YU];simp;omega
 rw[KZ 5 Aa,YU,qT];simp[e]
def Se(len:N):N->N
 |0=>257
 |k+1=>if len<Bc (257+(k+1)) then Se len k else 257+(k+1)
def Cm(len:N):N:=Se len 28
def Iq(far:N):N->N
 |0=>0
 |k+1=>if far<AV (k+1) then Iq far k else k+1
def Cp(far:N):N:=Iq far 29
def ab:(List.range 259).all (λn=>decide (3<=n->257<=Cm n/\Cm n<=285/\Bc (Cm n)<=n/\n<Bc (Cm n)+2^AK (Cm n)/\IL (Cm n)+AK (Cm n)<=13))=true:=by decide+kernel
def OI(n:N)(h:3<=n)(a:n<=258):257<=Cm n/\Cm n<=285/\Bc (Cm n)<=n/\n<Bc (Cm n)+2^AK (Cm n)/\IL (Cm n)+AK (Cm n)<=13:=
 rQ (rV.1 ab n (rJ.2 Aa)) h
def Sf:(List.range 30).all (λy=>decide (AV (y+1)=AV y+2^AZ y))=true:=by decide+kernel
def QJ(a:N)(h:1<=a): ∀k,k<=29->a<AV (k+1)->Iq a k<=k/\AV (Iq a k)<=a/\a<AV (Iq a k)+2^AZ (Iq a k)
 |0,_,h2=>by
  rw[Iq];have:AV (0+1)=2:=rfl;have b:AV 0=1:=rfl;exact⟨rj _,Aa,by rw[b];have:AZ 0=0:=rfl;rw[this];omega⟩
 |k+1,hk,h2=>by
  rw[Iq];split
  .rename_i hlt;have:=QJ a h k Aa hlt;exact⟨Aa,this.2⟩
  rename_i hge;have e:=rQ (rV.1 Sf (k+1) (rJ.2 Aa));exact⟨rj _,Aa,Aa⟩
def Mw(a:N)(h:1<=a)(b:a<=32768):Cp a<=29/\AV (Cp a)<=a/\a<AV (Cp a)+2^AZ (Cp a):=
 QJ a h 29 Aa (by have:AV (29+1)=32769:=rfl;omega)
abbrev Tz:=N ⊕ (N×N)
def FI:Tz->E N
 | .inl c=>FG c
 | .inr (len,far)=>FG (Cm len)++(CO (len- Bc (Cm len)) (AK (Cm len))++(aa (Cp far)++CO (far- AV (Cp far)) (AZ (Cp far))))
def Fk(T:E Tz):E N:=(T.map FI).flatten
def GL(t:Tz)(T:E Tz):Fk (t::T)=FI t++Fk T:=by simp[Fk]
def TA(t:Tz):LE (FI t):=by
 cases t with
 |inl c=>exact Fq _ _
 |inr p=>obtain⟨len,a⟩:=p;exact(Fq _ _).append ((Fa _ _).append ((Fq _ _).append (Fa _ _)))
def ac(T:E Tz):LE (Fk T):=by
 induction T with
 |nil=>intro x a;cases a
 |cons t T ih=>rw[GL];exact(TA t).append ih
def Sg(o:E υ):Tz->E υ
 | .inl c=>o++[b8 c]
 | .inr (len,far)=>BN o far len
def qj(o:E υ):Tz->Prop
 | .inl c=>c<256/\o.length<20000
 | .inr (len,far)=>3<=len/\len<=258/\1<=far/\far<=o.length/\o.length+len<=20000
def iZ:E υ->E Tz->Prop
 |_,[]=>True
 |o,t::T=>qj o t/\iZ (Sg o t) T
def dA{s:Y}{a:N}{o:E υ}{t:Tz}(h:At s a (FI t))(f:qj o t):Er s BO Cz a o=.inr ((a+(FI t).length),(Sg o t)):=by
 cases t with
 |inl c=>
  obtain⟨x,D⟩:=f;have j:=At.sym (y:=c) h Aa;rw[Er,j];show(if c=256 then _ else _)=_;rw[rc Aa,rd x,rc Aa];show Sum.inr ((a+IL c),_)=Sum.inr ((a+(FG c).length),_);rw[FH];rfl
 |inr p=>
  obtain⟨len,b⟩:=p;obtain⟨v,e,l,C,D⟩:=f;obtain⟨F,H,L,M,_⟩:=OI len v e;obtain⟨z,A,B⟩:=Mw b l Aa;have m:=h.1;have w:=h.left;have r:=h.right.left;have i:=h.right.right.left;have g:=h.right.right.right;have d:(FI (.inr (len,b))).length=IL (Cm len)+(AK (Cm len)+(5+AZ (Cp b))):=by
   simp only[FI,qU,FH,DW,aa,DI]
  rw[FH] at r i g;rw[DW] at i g;have u:(aa (Cp b)).length=5:=DI _ _;rw[u] at g;rw[d] at m;have j:=w.sym Aa;have n:=r.numV Aa;have k:=i.dst Aa;have q:=g.numV Aa;rw[Er,j];show(if Cm len=256 then _ else _)=_;rw[rc Aa,rc Aa,rc Aa,EL,rc Aa,k];show(if 29<Cp b then _ else _)=_;rw[rc Aa,rc Aa,q,n,show AV (Cp b)+(b- AV (Cp b))=b by omega,show Bc (Cm len)+(len- Bc (Cm len))=len by omega,rc Aa,rc Aa,d];show Sum.inr (_,_)=Sum.inr (_,_);congr 2;omega
def TB{s:Y}: ∀{T:E Tz} {a:N} {o:E υ},At s a (Fk T++FG 256)->iZ o T->EU s BO Cz a o=.inl ((a+(Fk T++FG 256).length),(T.foldl Sg o))
 |[],a,o,h,_=>by
  have b:=At.sym (y:=256) h Aa;rw[Km,Er,b];show Sum.inl ((a+IL 256),o)=_;rw[show(Fk []++FG 256).length=IL 256 by rw[show Fk []=[] from rfl,tp,FH]];rfl
 |t::T,a,o,h,hok=>by
  rw[GL,rm] at h;rw[Km,dA h.left hok.1];show EU s BO Cz (a+(FI t).length) (Sg o t)=_;rw[TB h.right hok.2,GL,rm,show(FI t++(Fk T++FG 256)).length=(FI t).length+(Fk T++FG 256).length from qU,sM];rfl
def Kz(T:E Tz):E N:=1::1::0::(Fk T++FG 256)
def dB(T:E Tz):LE (Kz T):=by
 have h:=(ac T).append (Fq (Qg 256) (IL 256));intro x a;rcases sW.1 a with rfl|a
 .omega
 rcases sW.1 a with rfl|a
 .omega
 rcases sW.1 a with rfl|a
 .omega
 exact h x a
def dC{T:E Tz}{rest:E υ}(g:iZ [] T):Az ⟨(AN (Kz T)++rest).toArray⟩=(⟨(T.foldl Sg []).toArray⟩,(AN (Kz T)).length,0):=by
 have a:=(OH (dB T) rest).all;generalize m:(⟨(AN (Kz T)++rest).toArray⟩:Y)=s at a;have k:=a.1;have c:(Kz T).length=3+(Fk T++FG 256).length:=by simp only[Kz,sB];omega
 have h0:=a.2 0 Aa;have h:=a.2 1 Aa;have i:=a.2 2 Aa;have l:At s 3 (Fk T++FG 256):=(show At s 0 ([1,1,0]++(Fk T++FG 256)) from a).right;have j:Aq s (0+1) 2=1:=by
  have z:Aq s 1 2=Aq s 1 0+AU s (1+0)*2^0+AU s (1+1)*2^1:=rfl;have e :AU s (1+0)=1:=h;have f :AU s (1+1)=0:=i;rw[rx,z,e,f];rfl
 have b:DT s 0 []=.inl ((3+(Fk T++FG 256).length),(T.foldl Sg [])):=by
  rw[DT,rc Aa,Es,j];exact TB l g
 have d :AU s 0=1:=h0;rw[Az,Ji b d,dr,Bj,c]
def Be(d:Y)(p:N):Y:=d.extract p (p+3)
def Gx(d:Y)(p:N):(Be d p).size=min (p+3) d.size- p:=by rw[Be,rv]
def BK(d r:Y):N->N
 |0=>0
 |n+1=>if Be d n=r then n+1 else BK d r n
def OJ(d r:Y)(n:N):BK d r n<=n:=by
 induction n with
 |zero=>exact rj _
 |succ n ih=>rw[BK];split<;>omega
def Ko{d r:Y}{n q:N}(h:BK d r n=q+1):Be d q=r/\q<n:=by
 induction n with
 |zero=>cases h
 |succ n ih=>
  rw[BK] at h;split at h
  .rename_i hr;have e:q=n:=Aa;subst e;exact⟨hr,Aa⟩
  have:=ih h;exact⟨this.1,Aa⟩
def QK{d r:Y}{n q:N}(a:Be d q=r)(b:q<n):q+1<=BK d r n:=by
 induction n with
 |zero=>omega
 |succ n ih=>
  rw[BK];split
  .omega
  rename_i hn
  exact ih (by rcases sb q n with h|h;exact h;have e:q=n:=Aa
               subst e;exact κ a hn)
def CS(d:Y)(p q:N):N->N
 |0=>0
 |k+1=>if CS d p q k=k/\As d (p+k)=As d (q+k) then k+1 else CS d p q k
def QL(d:Y)(p q k:N):CS d p q k<=k:=by
 induction k with
 |zero=>exact rj _
 |succ k ih=>rw[CS];split<;>omega
def Mx{d:Y}{p q:N}: ∀{k i:N},i<CS d p q k->As d (p+i)=As d (q+i)
 |k+1,i,h=>by
  rw[CS] at h;split at h
  .rename_i hk;rcases sb i k with hi|hi
   .exact Mx (k:=k) Aa
   have e:i=k:=Aa;subst e;exact hk.2
  exact Mx h
def OK{d:Y}{p q:N}{k:N}(h: ∀i,i<k->As d (p+i)=As d (q+i)):CS d p q k=k:=by
 induction k with
 |zero=>rfl
 |succ k ih=>rw[CS,rd ⟨ih (λi a=>h i Aa),h k Aa⟩]
def Nl{d:Y}{p q c:N}(b:CS d p q c=c)(a:As d (p+c)≠As d (q+c)): ∀k,c<=k->CS d p q k=c
 |0,h=>by rw[show c=0 by omega];rfl
 |k+1,h=>by
  rcases sb c (k+1) with hl|hl
  .have:=Nl b a k Aa;rw[CS,this];split
   .rename_i hh;obtain⟨f,g⟩:=hh;subst f;exact κ g a
   rfl
  have e:c=k+1:=Aa;rw[<-e];exact b
def DE(d:Y)(at_:N):N:=min 258 (d.size- at_)
def Dk(d:Y)(p q:N):N:=CS d p q (DE d q)
def DX(d:Y)(q:N):N->N->N×N->N×N
 |0,_,b=>b
 |k+1,f,b=>if f=0 then b else DX d q k (BK d (Be d (f- 1)) (f- 1)) (if b.1<Dk d (f- 1) q then(Dk d (f- 1) q,q- (f- 1)) else b)
def Da(d:Y)(q:N):N:=if d.size<q+3 then 0 else BK d (Be d q) q
def Et(d:Y)(q:N):N×N:=DX d q 128 (Da d q) (0,0)
def La{d:Y}{q f:N}(h:Da d q=f+1):Be d f=Be d q/\f<q/\q+3<=d.size:=by
 unfold Da at h;split at h
 .cases h
 have:=Ko h;exact⟨this.1,this.2,Aa⟩
def ae{d:Y}{p q:N}(h:Be d p=Be d q)(hp:p+3<=d.size)(c:q+3<=d.size): ∀i,i<3->As d (p+i)=As d (q+i):=by
 intro i e;rw[<-CG (s:=d) (a:=p) (b:=p+3) (k:=i) Aa hp,<-CG (s:=d) (a:=q) (b:=q+3) (k:=i) Aa c];exact rI (λr=>As r i) h
def TC{d:Y}{p q:N}(h:Be d p=Be d q)(e:p<=q)(f:q+3<=d.size):3<=Dk d p q:=by
 have b:=OK (k:=3) (ae h Aa f);unfold Dk DE;have c:3<=min 258 (d.size- q):=Aa;have a: ∀k,3<=k->3<=CS d p q k:=by
  intro k g;induction k with
  |zero=>omega
  |succ k ih=>
   rcases sb 2 k with h5|h5
   .rw[CS];split
    .omega
    exact ih Aa
   rw[show k+1=3 by omega,b];exact rj _
 exact a _ c
def af(d:Y)(q:N)(b:N×N):Prop:=3<=b.1/\b.1<=258/\q+b.1<=d.size/\1<=b.2/\b.2<=q/\∀i,i<b.1->As d (q- b.2+i)=As d (q+i)
def QM{d:Y}{p q:N}(h:Be d p=Be d q)(e:p<q)(f:q+3<=d.size):af d q (Dk d p q,q- p):=by
 have a:=TC h Aa f;have c:Dk d p q<=DE d q:=QL _ _ _ _;unfold DE at c;refine⟨a,Aa,by show q+Dk d p q<=d.size;omega,by show 1<=q- p;omega,by show q- p<=q;omega,λi b=> ?_⟩;show As d (q- (q- p)+i)=_;rw[show q- (q- p)=p by omega];exact Mx (k:=DE d q) b
def QN{d:Y}{q:N}(m:q+3<=d.size): ∀{k f:N} {b:N×N},(f=0\/(Be d (f- 1)=Be d q/\f- 1<q))->(b=(0,0)\/af d q b)->(DX d q k f b=(0,0)/\b=(0,0)/\(k=0\/f=0))\/af d q (DX d q k f b)
 |0,f,b,_,hb=>by
  rw[DX];rcases hb with rfl|hb
  .exact .inl ⟨rfl,rfl,.inl rfl⟩
  exact .inr hb
 |k+1,f,b,hf,hb=>by
  rw[DX];by_cases h0:f=0
  .rw[rd h0];rcases hb with rfl|hb
   .exact .inl ⟨rfl,rfl,.inr h0⟩
   exact .inr hb
  rw[rc h0];obtain⟨n,e⟩:Be d (f- 1)=Be d q/\f- 1<q:=hf.resolve_left h0;have j:=QM n e m;have a:af d q (if b.1<Dk d (f- 1) q then(Dk d (f- 1) q,q- (f- 1)) else b):=by
   split
   .exact j
   rename_i hge;rcases hb with rfl|hb
   .exact κ (show(0:N)<Dk d (f- 1) q from rW Aa j.1) hge
   exact hb
  have c:BK d (Be d (f- 1)) (f- 1)=0\/(Be d (BK d (Be d (f- 1)) (f- 1)- 1)=Be d q/\BK d (Be d (f- 1)) (f- 1)- 1<q):=by
   rcases te (BK d (Be d (f- 1)) (f- 1)) with h|h
   .exact .inl h
   obtain⟨g,l⟩: ∃g,BK d (Be d (f- 1)) (f- 1)=g+1:=⟨_,(ui h).symm⟩;have:=Ko l;rw[l];exact .inr ⟨by rw[vs,this.1,n],Aa⟩
  rcases QN m (k:=k) c (.inr a) with⟨i,o,_⟩|i
  .rw[o] at a;exact κ a.1 Ac
  exact .inr i
def LG(d:Y)(q:N):Et d q=(0,0)\/af d q (Et d q):=by
 unfold Et;by_cases h:d.size<q+3
 .left;rw[Da,rd h];rfl
 have b:Da d q=0\/(Be d (Da d q- 1)=Be d q/\Da d q- 1<q):=by
  rcases te (Da d q) with h0|h0
  .exact .inl h0
  obtain⟨g,a⟩: ∃g,Da d q=g+1:=⟨_,(ui h0).symm⟩;have:=La a;rw[a];exact .inr ⟨this.1,Aa⟩
 rcases QN Aa (k:=128) b (.inl rfl) with h1|h1
 .exact .inl h1.1
 exact .inr h1
def OL{d:Y}{q p:N}(j:Be d p=Be d q): ∀{k f:N} {b:N×N},(f=0\/(Be d (f- 1)=Be d q/\f- 1<q))->(Dk d p q<=b.1\/(p<f/\f<=p+k))->Dk d p q<=(DX d q k f b).1
 |0,f,b,_,h=>by
  rw[DX];rcases h with h|h
  .exact h
  omega
 |k+1,f,b,hf,h=>by
  rw[DX];by_cases h0:f=0
  .rw[rd h0];rcases h with h|h
   .exact h
   omega
  rw[rc h0];obtain⟨a,l⟩:Be d (f- 1)=Be d q/\f- 1<q:=hf.resolve_left h0;have o:=OJ d (Be d (f- 1)) (f- 1);refine OL j (k:=k) ?_ ?_
  .rcases te (BK d (Be d (f- 1)) (f- 1)) with c|c
   .exact .inl c
   obtain⟨g,i⟩: ∃g,BK d (Be d (f- 1)) (f- 1)=g+1:=⟨_,(ui c).symm⟩;have:=Ko i;rw[i];exact .inr ⟨by rw[vs,this.1,a],Aa⟩
  rcases h with h|⟨c,m⟩
  .left;split
   .show _<=Dk d (f- 1) q;omega
   exact h
  by_cases e:p=f- 1
  .left;subst e;split
   .exact rj _
   omega
  right
  have:=QK (d:=d) (r:=Be d (f- 1)) (n:=f- 1) (q:=p) (j.trans a.symm) Aa;omega
def ag{d:Y}{q p:N}(b:Be d p=Be d q)(hp:p<q)(f:q+3<=d.size)(h:q<=p+128):Dk d p q<=(Et d q).1:=by
 unfold Et;have c:=OJ d (Be d q) q;have i:=QK (d:=d) (r:=Be d q) (n:=q) (q:=p) b hp;have e:Da d q=BK d (Be d q) q:=by rw[Da,rc Aa]
 refine OL b ?_ (.inr ⟨Aa,Aa⟩);rcases te (Da d q) with h1|h1
 .exact .inl h1
 obtain⟨g,a⟩: ∃g,Da d q=g+1:=⟨_,(ui h1).symm⟩;have:=La a;rw[a];exact .inr ⟨this.1,Aa⟩
def Gf(d:Y)(q:N):Tz:=if(Et d q).1=0 then .inl (As d q) else .inr ((Et d q).1,(Et d q).2)
def DN(d:Y)(q:N):N:=if(Et d q).1=0 then 1 else(Et d q).1
def IM(d:Y)(q:N):1<=DN d q:=by unfold DN;split<;>omega
def GM(d:Y):N->N->E Tz
 |0,_=>[]
 |k+1,q=>if q<d.size then Gf d q::GM d k (q+DN d q) else []
def Ir(d:Y): ∀{k k' q:N},d.size<=q+k->d.size<=q+k' ->GM d k q=GM d k' q
 |0,0,_,_,_=>rfl
 |0,k' +1,q,h,_=>by rw[GM,GM,rc Aa]
 |k+1,0,q,_,h=>by rw[GM,GM,rc Aa]
 |k+1,k' +1,q,h,h' =>by
  rw[GM,GM];have:=IM d q;split
  .rw[Ir d (k:=k) (k' :=k') Aa Aa]
  rfl
def BU(d:Y)(q:N):E Tz:=GM d d.size q
def Is{d:Y}{q:N}(h:q<d.size):BU d q=Gf d q::BU d (q+DN d q):=by
 have:=IM d q;unfold BU;obtain⟨k,a⟩: ∃k,d.size=k+1:=⟨d.size- 1,Aa⟩;rw[a,GM,a,rd Aa,Ir d (k:=k) (k' :=k+1) Aa Aa]
def Iu{d:Y}{q:N}(h:¬q<d.size):BU d q=[]:=by
 unfold BU;rw[Ir d (k:=d.size) (k' :=0) Aa Aa];rfl
def DF(d:Y)(q:N):E υ:=(List.range q).map λi=>b8 (As d i)
def Gy(d:Y)(q:N):(DF d q).length=q:=by simp[DF]
def OM(d:Y)(q:N):DF d (q+1)=DF d q++[b8 (As d q)]:=by simp[DF,tA]
def ah(d:Y)(q i:N)(h:i<q):(DF d q).getD i 0=b8 (As d i):=by
 rw[qT];simp[DF,h]
def My(d:Y):(⟨(DF d d.size).toArray⟩:Y)=d:=by
 apply sX;apply xR;intro i;show(DF d d.size).toArray[i]? =_;rw[tq];rcases sb i d.size with h|h
 .have e:d.data[i]? =J d.data[i]:=rZ h;rw[e];simp only[DF,tt,xM h,uo];congr 1;unfold As;rw[uO h];show b8 (d.data[i]).toNat=_;simp[b8]
 rw[rL (by rw[Gy];exact h),se h]
def QO{d:Y}{q a:N}(b:1<=a)(c:a<=q): ∀n,(∀i,i<n->As d (q- a+i)=As d (q+i))->BN (DF d q) a n=DF d (q+n)
 |0,_=>rfl
 |n+1,h=>by
  rw[BN,QO b c n (λi e=>h i Aa),Gy,ah _ _ _ Aa,show q+n- a=q- a+n by omega,h n Aa,<-sM,OM]
def ja(d:Y)(q:N)(j:q<d.size)(i:d.size<=20000):qj (DF d q) (Gf d q)/\Sg (DF d q) (Gf d q)=DF d (q+DN d q)/\q+DN d q<=d.size:=by
 unfold Gf DN;rcases LG d q with h|h
 .rw[h];refine⟨⟨Bf _ _,by rw[Gy];omega⟩, ?_,by show q+1<=_;omega⟩;exact(OM d q).symm
 have g:=h.1;rw[rc Aa,rc Aa];obtain⟨_,a,f,b,c,e⟩:=h;refine⟨⟨g,a,b,by rw[Gy];exact c,by rw[Gy];omega⟩, ?_,f⟩;exact QO b c _ e
def dD(d:Y)(h:d.size<=20000): ∀k q,d.size- q=k->q<=d.size->iZ (DF d q) (BU d q)/\(BU d q).foldl Sg (DF d q)=DF d d.size:=by
 intro k;induction k using Nat.strongRecOn with
 |ind k ih=>
  intro q i j;by_cases a:q<d.size
  .obtain ⟨c,b,e⟩:=ja d q a h;have hp:=IM d q;obtain⟨f,g⟩:=ih (d.size- (q+DN d q)) Aa (q+DN d q) rfl e;rw[Is a];exact⟨⟨c,by rw[b];exact f⟩,by rw[vP,b];exact g⟩
  rw[Iu a];exact⟨trivial,by rw[show q=d.size by omega];rfl⟩
def Fs(d:Y):Y:=⟨(AN (Kz (BU d 0))).toArray⟩
def Nm(d:Y):(Fs d).size=(AN (Kz (BU d 0))).length:=by show(AN _).toArray.size=_;rw[sq]
def VZ(d:Y)(c:d.size<=20000)(rest:E υ):Az ⟨(AN (Kz (BU d 0))++rest).toArray⟩=(d,(Fs d).size,0):=by
 obtain⟨a,b⟩:=dD d c d.size 0 Aa Aa;rw[dC (T:=BU d 0) a,Nm];have e:(BU d 0).foldl Sg []=DF d d.size:=b;rw[e,My]
def EH(n:N):E N:=[1,0,0,0,0,0,0,0]++(CO n 16++CO (65535- n) 16)
def Fu(n:N):(EH n).length=40:=by simp[EH,DW]
def Xa(n:N):LE (EH n):=by
 refine LE.append (λx a=> ?_) ((Fa _ _).append (Fa _ _));simp at a;omega
def FV(d:Y):E υ:=AN (EH d.size)++DF d d.size
def GN(d:Y):Y:=⟨(FV d).toArray⟩
def Lb(d:Y):(FV d).length=d.size+5:=by rw[FV,qU,Bj,Fu,Gy];omega
def Nn(d:Y):(GN d).size=d.size+5:=by show(FV d).toArray.size=_;rw[sq,Lb]
def Xb(d:Y)(r:d.size<=20000)(rest:E υ):Az ⟨(FV d++rest).toArray⟩=(d,(GN d).size,0):=by
 have a:=(OH (Xa d.size) (DF d d.size++rest)).all;rw[Nn];rw[<-rm] at a;change At ⟨(FV d++rest).toArray⟩ 0 (EH d.size) at a;have c: ∀i,i<d.size->As ⟨(FV d++rest).toArray⟩ (5+i)=As d i:=by
  intro i g;have o:(AN (EH d.size)).length=5:=by rw[Bj,Fu]
  rw[Tw _ (5+i) (b8 (As d i)) (by
   rw[rM (by rw[Lb];omega),FV,rE Aa,o,show 5+i- 5=i by omega];simp[DF,g])]
  exact AL (Bf _ _)
 have l:(⟨(FV d++rest).toArray⟩:Y).size=d.size+5+rest.length:=by
  show(FV d++rest).toArray.size=_;rw[sq,qU,Lb]
 generalize(⟨(FV d++rest).toArray⟩:Y)=s at a c l;have e:At s 8 (CO d.size 16++CO (65535- d.size) 16):=a.right;have h:=e.left.numV Aa;have k:At s 24 (CO (65535- d.size) 16):=by have:=e.right;rw[DW] at this;exact this
 have j:=k.numV Aa;have h0:AU s 0=1:=a.2 0 (by rw[Fu];omega);have m:AU s (1+0)=0:=a.2 1 (by rw[Fu];omega);have n:AU s (1+1)=0:=a.2 2 (by rw[Fu];omega);have p:Aq s (0+1) 2=0:=by
  have z:Aq s 1 2=Aq s 1 0+AU s (1+0)*2^0+AU s (1+1)*2^1:=rfl;rw[rx,z,m,n];rfl
 have q:BT (0+3)=8:=rfl;have f:JG s 5 d.size=DF d d.size:=by
  unfold JG DF;exact xL (λi g=>by rw[c i (rJ.1 g)])
 have b:DT s 0 []=.inl ((40+8*d.size),(DF d d.size)):=by
  rw[DT,rc Aa,Es,p];show Gi s (0+3) []=_;rw[Gi,q,rc Aa,h,j,rc Aa,rc (by simp;omega),rc Aa];show Sum.inl (_,(JG s 5 d.size))=_;rw[f]
 rw[Az,Ji b h0,dr,My];congr 2;omega
def CA(d:Y):Y:=if(GN d).size<(Fs d).size then GN d else Fs d
def GO(d:Y):(CA d).size<=d.size+5/\(CA d).size<=(Fs d).size:=by
 have:=Nn d;unfold CA;split<;>omega
def Jj(a:E υ)(b:Y):(⟨a.toArray⟩:Y)++b=⟨(a++b.data.toList).toArray⟩:=by
 apply sX;simp
def ai(d:Y)(a:d.size<=20000)(b:Y):Az (CA d++b)=(d,(CA d).size,0):=by
 unfold CA;split
 .rw[GN,Jj];exact Xb d a _
 rw[Fs,Jj];exact VZ d a _
def QP(d:Y)(p:N):Prop:= ∀i,i+p<d.size->As d (i+p)=As d i
def jb{d:Y}{p q:N}(hp:p+3<=d.size)(f:q+3<=d.size)(h: ∀i,i<3->As d (p+i)=As d (q+i)):Be d p=Be d q:=by
 apply ByteArray.ext_getElem
 .rw[Gx,Gx];omega
 intro i b c;have e:i<3:=by rw[Gx] at b;omega
 have a:As (Be d p) i=As (Be d q) i:=by
  rw[Be,Be,CG Aa hp,CG Aa f];exact h i e
 rw[<-AC b,<-AC c] at a;exact vQ.1 a
def Xc{d:Y}{p q:N}(k:QP d p)(n:1<=p)(e:p<=100)(hp:p<=q)(g:q+3<=d.size):DN d q=DE d q:=by
 have j: ∀i,q+i<d.size->As d (q- p+i)=As d (q+i):=λi a=>by
  have:=k (q- p+i) Aa;rw[show q- p+i+p=q+i by omega] at this;exact this.symm
 have l:Be d (q- p)=Be d q:=jb Aa g (λi a=>j i Aa);have b:=ag l Aa g Aa;have c:Dk d (q- p) q=DE d q:=OK (λi a=>j i (by unfold DE at a;omega));rw[c] at b;have o:3<=DE d q:=by unfold DE;omega
 unfold DN;rw[rc Aa];rcases LG d q with h|h
 .rw[h] at b;have r:DE d q<=0:=b;omega
 obtain⟨_,f,m,_⟩:=h;unfold DE at*;omega
def dE:(List.range 129).all (λa=>decide (1<=a->AZ (Cp a)<=5))=true:=by decide+kernel
def QQ:(List.range 30).all (λy=>decide (AZ y<=13))=true:=by decide+kernel
def JM(c:N):(FI (.inl c)).length<=9:=by rw[FI,FH];exact Sd c
def TD(len a:N):(FI (.inr (len,a))).length=IL (Cm len)+AK (Cm len)+5+AZ (Cp a):=by
 simp only[FI,qU,FH,DW,aa,DI];omega
def Sh{d:Y}{q:N}(l:d.size<=20000):(FI (Gf d q)).length<=31/\(q<=128->(FI (Gf d q)).length<=23/\(FI (Gf d q)).length<=9*DN d q):=by
 unfold Gf DN;rcases LG d q with h|h
 .rw[h];have:=JM (As d q);exact⟨by show(FI (.inl _)).length<=31;omega,λ_=>⟨by show(FI (.inl _)).length<=23;omega,by show(FI (.inl _)).length<=9;omega⟩⟩
 obtain⟨e,a,i,b,g,_⟩:=h;rw[rc Aa,rc Aa,TD];have j:=(OI _ e a).2.2.2.2;have f:=(Mw _ b Aa).1;have c:=rQ (rV.1 QQ _ (rJ.2 (show Cp (Et d q).2<30 by omega)));refine⟨Aa,λm=> ?_⟩;have k:=rQ (rV.1 dE _ (rJ.2 (show(Et d q).2<129 by omega))) b;omega
def JB(d:Y)(q:N):N:=(Fk (BU d q)).length
def Lc{d:Y}{q:N}(h:q<d.size):JB d q=(FI (Gf d q)).length+JB d (q+DN d q):=by
 unfold JB;rw[Is h,GL,qU]
def Jk{d:Y}{q:N}(h:¬q<d.size):JB d q=0:=by unfold JB;rw[Iu h];rfl
def TE{d:Y}{q:N}(h:d.size<q+3):Et d q=(0,0):=by unfold Et;rw[Da,rd h];rfl
def Xd{d:Y}{q:N}(h:d.size<q+3):JB d q<=9*(d.size- q):=by
 have a: ∀r,d.size<r+3->r<d.size->JB d r=(FI (.inl (As d r))).length+JB d (r+1):=by
  intro r g c;rw[Lc c];unfold Gf DN;rw[TE g];rfl
 by_cases h0:q<d.size
 .have:=a q h h0;have c:=JM (As d q);by_cases b:q+1<d.size
  .have i:=a (q+1) Aa b;have f:=JM (As d (q+1));have e:=Jk (d:=d) (q:=q+1+1) Aa;omega
  have e:=Jk (d:=d) (q:=q+1) b;omega
 have:=Jk h0;omega
def aj{d:Y}{p:N}(g:d.size<=20000)(e:QP d p)(c:1<=p)(a:p<=100): ∀k q,d.size- q=k->p<=q->JB d q<=31*((d.size- q)/258+1):=by
 intro k;induction k using Nat.strongRecOn with
 |ind k ih=>
  intro q j h;by_cases i:d.size<q+3
  .have:=Xd i;omega
  have f:=Xc e c a h Aa;have l:=(Sh (d:=d) (q:=q) g).1;rw[Lc Aa,f];unfold DE;by_cases b:d.size- q<=258
  .rw[show min 258 (d.size- q)=d.size- q by omega];have:=Jk (d:=d) (q:=q+(d.size- q)) Aa;omega
  rw[show min 258 (d.size- q)=258 by omega];have:=ih (d.size- (q+258)) Aa (q+258) rfl Aa;omega
def Xe{d:Y}{p:N}(c:d.size<=20000)(h:QP d p)(f:1<=p)(a:p<=100)(hp:p<=d.size): ∀k q,p- q=k->q<p->JB d q<=9*(p- q)+23+31*((d.size- p)/258+1):=by
 intro k;induction k using Nat.strongRecOn with
 |ind k ih=>
  intro q j m;obtain⟨g,i⟩:=(Sh (d:=d) (q:=q) c).2 Aa;have e:=IM d q;rw[Lc Aa];by_cases b:q+DN d q<p
  .have:=ih (p- (q+DN d q)) Aa _ rfl b;omega
  have:=aj c h f a _ (q+DN d q) rfl Aa;have l:(d.size- (q+DN d q))/258<=(d.size- p)/258:=Nat.div_le_div_right Aa;omega
def Xf{d:Y}{p:N}(f:d.size<=20000)(e:QP d p)(b:1<=p)(a:p<=100)(c:20*p<=d.size):2*(Fs d).size<=d.size:=by
 have h:=Xe f e b a Aa p 0 Aa Aa;rw[Nm,Bj];have g:(Kz (BU d 0)).length=3+(JB d 0+7):=by
  simp only[Kz,sB,qU,FH,JB];have:IL 256=7:=rfl;omega
 rw[g];omega
def ak{d:Y}{p:N}(f:d.size<=20000)(e:QP d p)(c:1<=p)(a:p<=100)(b:20*p<=d.size):2*(CA d).size<=d.size:=by
 have:=Xf f e c a b;have:=(GO d).2;omega
