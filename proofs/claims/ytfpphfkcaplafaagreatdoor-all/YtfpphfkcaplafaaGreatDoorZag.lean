import Derived.Test.YtfpphfkcaplafaaGreatDoorZae
import Derived.ScopeJumps
set_option linter.all false
set_option maxHeartbeats 64000000
set_option maxRecDepth 100000
open _root_ renaming Option.some->J,Option.none->O,Int->Z,Nat->N,Go.Value.int->I,Go.Value.string->G,Go.IntKind.i64->Q,ByteArray->Y,List->E,Go.World->U,Go.Value.slice->K,Go.Value->M,Go.Obj.cells->W,Go.Value.pointer->V,Go.RowKit.Hid->C,Go.Proofs.Tryz.prog->F,Go.Ending.returned->ε,Go.Value.bool->ζ,Go.Value.tuple->η,Bool.true->θ,Bool.false->ι,absurd->κ,Go.Calls->μ,Go.TypeId->ν,Array->φ,Decidable.decide->Γ
variable{s:Y}{D L l:E N}{a a1 b i many n t x y:N}{w w':U}{S:N->Prop}{c:N->M}{d:N->N}
namespace Go.Proofs.YtfpphfkcaplafaaGreatDoor
open Go.RowKit Go.Proofs.Tryz
def jv(l:E UInt8)(h:¬8*s.size<a1+AM y):FP s D y a1 l=match Nc s D (a1+AM y) with
 |none=> .inl (.inr 2)
 |some (f,c)=>if l.length<f then .inl (.inr 2) else if 20000<l.length+(Bg y+Ar s a1 (AM y)) then .inl (.inr 1) else .inr (c,(Cc l f<|Bg y+Ar s a1 (AM y))):=by
 unfold FP Nc;rw[Wx h];cases a:dec s D (a1+AM y) with
 |none=>rfl
 |some p=>
  obtain⟨d,c⟩:=p;show(if 29<d then _ else _)=_;by_cases a:29<d
  .rw[Wz a];simp only[a,acz]
  rw[Wx a];by_cases b:8*s.size<c+Bb d
  .rw[Wz b];simp only[a,b,acz,abE]
  rw[Wx b];simp only[a,b,abE]
def nc{f a':N}(h:Nc s D a=J (f,a')):a<a'/\a'<=8*s.size/\1<=f:=by
 unfold Nc at h;split at h
 .cases h
 rename_i d c b;have:=Ih b;split at h
 .cases h
 split at h
 .cases h
 injection h with h;injection h with e g;have:=PZ d;omega
def NO.mono1{g:N}{S':N->Prop}{l:E UInt8}(h:NO w g S s a l)(f:∀k,S k->S' k):NO w g S' s a l:=by
 obtain⟨i,c,j,d,e⟩:=h;exact⟨i,c,j,d,λb c=>f _<|e b c⟩
def ry(s:Y)(r:iv)(w:U)(g:N)(S:N->Prop)(e:N):Prop:=(∃a l,r=.inl (a,l)/\e=0/\a<=8*s.size/\l.length<=20000/\NO w g S s a l)\/(r=.inr e/\e≠0)
def Zo(g:N)(S:N->Prop)(m:S g)(s:Y)(hs:s.size<=140737488355328)(a:N)(l:E UInt8)(hl:l.length<=20000)(ha:a<=8*s.size)
 (gL gD:N)(b2:N->Prop)(p:∀k,b2 k->¬S k)(L D:E N)(hL:L.length<=400)(hD:D.length<=400)(w:U)(hF:BI S w)(h:NO w g S s a l)(f0:Dg w gL b2 L)(f1:Dg w gD b2 D):
 μ F 193 #[V<|J ⟨g,0,O⟩,.agg #[V<|J ⟨gL,0,O⟩,V<|J ⟨gD,0,O⟩]] w λr w'=>
  Ag S w w'/\∃e:N,r=ε (I Q e)/\ry s (Gb s L D a l) w' g S e:=by
 obtain⟨i0,f2,f3,f4,f5⟩:=wi Ij;have d2:∀k,b2 k->k<w.heap.size:=λk o=>by
  rcases wM k w.heap.size with h|h
  .exact h
  exact κ (hF k h)<|p k o
 have:g<w.heap.size:=by obtain⟨_,_,hr,_⟩:=h;exact hr.lt
 have hA:Ag (λ_=>False) w<|w.alloc (W #[V<|J ⟨gL,0,O⟩,V<|J ⟨gD,0,O⟩] 166):=(Ag.refl _ w).alloc _;have c7:(NO (w.alloc<|W #[V<|J ⟨gL,0,O⟩,V<|J ⟨gD,0,O⟩] 166) g (λk=>S k/\k≠w.heap.size) s a l):=by
  obtain⟨ao,cp,hr,a6,c6⟩:=h;refine⟨ao,cp,hr.kept hA λx=>x,Dp a6 hA,λb i=>⟨c6 b i,?_⟩⟩;obtain⟨h4,hg⟩:=DD a6 (b:=b.block) (by rw[i];rfl);exact ahE
 have d3:=f0.old hA;have d4:=f1.old hA;have d5:((w.alloc<|W #[V<|J ⟨gL,0,O⟩,V<|J ⟨gD,0,O⟩] 166).heap[w.heap.size]? =J (W #[V<|J ⟨gL,0,O⟩,V<|J ⟨gD,0,O⟩] 166 (0,0))):=WD w _;have b6:S g/\g≠w.heap.size:=⟨m,A⟩;have b3:∀k,b2 k->¬(S k/\k≠w.heap.size):=λk o t=>p k o t.1
 go_in;go_wp2_with fail;refine wp_scope_jumps 0 (λa' w'=>a'.tmps.size=72/\a'.defers=[]/\Ag S w w'/\Gb s L D a l=.inr 2) (λ_ _=>0) rfl ?_ ?_
 case refine_2=>
  rintro⟨tm,df⟩ w' ⟨d6,d7,hO,d8⟩;simp only at d6 d7;subst d7;go_wp2_with fail;simp only[Exit.jump];refine wI (v:=I Q 2) ?_ rfl ⟨hO,2,rfl,.inr ⟨d8,A⟩⟩;have e:=results_tmp results193 (tm.setIfInBounds 4<|I Q 2) F w';have e2:(tm.setIfInBounds 4<|Value.int Q 2).getD 4 undef=I Q 2:=by simp[d6]
  rw[e2] at e;exact e
 go_wp2;go_loopw [5,6,7,8] (λ_ _ _ _ wr=>∃a' i,(NO wr g (λk=>S k/\k≠w.heap.size) s a' i /\a'<=8*s.size/\i.length<=20000/\Gb s L D a l=Gb s L D a' i)/\(Dg wr gL b2 L)/\(Dg wr gD b2 D)/\
  (wr.heap[w.heap.size]? =J (W #[V<|J ⟨gL,0,O⟩,V<|J ⟨gD,0,O⟩] 166 (0,0)))/\(Ag S w wr)) λ_ _ _ _ wr=>8*s.size+1-Ls wr g 1
 .exact ⟨a,l,⟨c7,ha,hl,rfl⟩,d3,d4,d5,(Ag.refl _ w).alloc _⟩
 obtain⟨a',i,HI,d3,d6,c7,HO⟩:=hrel;obtain⟨d4,d7,c8,d5⟩:=HI;obtain⟨ao,cp,hr,a6,c6⟩:=d4;have d8:=HO.size;have d4:wr.cell? ⟨w.heap.size,0,O⟩=J (V<|J ⟨gL,0,O⟩):=by rw[Wu _ _ 0 _ _ (0,0) c7];rfl
 have HM:=AR hr.c1;have O2:=d5;have HR:=hr;have d5:=a6;have f0:=c6;have c6:=Xk g s hs a' (K ao i.length cp) d7 gL b2 (λo=>p g o m) L hL wr.drew (λk o=>wG (d2 k o) d8) hr d3;have a6:wr.drew.cell? ⟨w.heap.size,0,O⟩=J (V<|J ⟨gL,0,O⟩):=d4;go_upto_region 3 with fail;refine EP (S:=λj=>j.cell? ⟨w.heap.size,0,O⟩=J (V<|J ⟨gL,0,O⟩)) (late:=λj=>Γ<|5<=j) B ?_;refine tg 0 10 (V<|J ⟨g,0,O⟩) 10 a6 ?_;refine tg 1 10 (V<|J ⟨g,0,O⟩) 11 a6 ?_;refine tg 2 10 (V<|J ⟨g,0,O⟩) 12 a6 ?_;refine tg 3 10 (V<|J ⟨w.heap.size,0,O⟩) 13 a6 ?_;refine tg 4 10 (V<|J ⟨gL,0,O⟩) 14 a6 ?_;refine Ba (i:=5) B ?_;refine WE rfl λK' R=>?_;go_simp;apply c6.mono;rintro r w1 ⟨c6,a1,c9,b7,f6⟩;have a6:=(Ag.refl (λk=>k=g) wr).drew.trans c6;have u:=HO.trans<|a6.of_g m;have T:=d3.kept a6 λk o e=>p k o (e ▸ m);have a0:=d6.kept a6 λk o e=>p k o (e ▸ m);have j:=(a6.block w.heap.size (Wt.1 c7).1 A).trans c7;have a7:=NO.next (S:=λk=>S k/\k≠w.heap.size) HR d5 f0 a6 b7;have:=u.size;rcases f6 with⟨y,hd,rfl⟩|⟨hd,rfl⟩
 .refine R _ _ ⟨(λh=>by cases h),?_⟩;refine Ba (i:=6) B ?_;refine WE rfl λa6 R=>?_;go_simp;refine R _ _ ⟨(λh=>by cases h),?_⟩;refine Bx (i:=7) (v:=I Q (y:N)) (J 16) rfl rfl B rfl B B (λ_ _ _ h=>h) (.inl ⟨rfl,λh6 _=>by go_simp⟩) ?_;simp only[Act.put,WH,WT,WV];refine Bx (i:=8) (v:=ζ θ) (J 17) rfl rfl B rfl B B (λ_ _ _ h=>h) (.inl ⟨rfl,λh7 _=>by go_simp⟩) ?_;simp only[Act.put,WH,WT,WV];refine Ba (i:=9) B ?_;refine WE rfl λa6 R=>?_;go_simp;refine R _ _ ⟨(λh=>by cases h),?_⟩;refine Ba (i:=10) B ?_;refine WE rfl λa6 R=>?_;go_simp;refine R _ _ ⟨(λh=>by cases h),?_⟩;refine FR B ?_;have x:=hd;have:y<=400:=by have:=(Ih hd).2.2;omega
  have:=(Ih hd).1;have:=b7;by_cases hy:y=256
  .subst hy;go_wp2_with fail;simp only[Exit.jump];go_ret;exact⟨u,0,rfl,.inl ⟨a1,i,by rw[O2];exact FC<|Yz x,rfl,c9,c8,a7.mono1 λk h=>h.1⟩⟩
  have:((y:Z)==256)=false:=act
  by_cases b7:y<256
  .have f7:(y:Z)<256:=A;have b4:=Us (D:=D) (l:=i) x b7;obtain⟨z,P,a5,a8,a4⟩:=a7;have q:=mw g s a1 z i.length P 1 c8 w1 a5;by_cases a6:i.length<20000
   .rw[Wy (show i.length+1<=20000 by omega)] at q;rw[Wx A] at b4;have:=a5.c2;have a6:Ag (λ_=>False) w1<|w1.alloc (W #[I .u8 (y:Z)] 5):=(Ag.refl (λ_=>False) w1).alloc _;have c6:=a5.kept a6 λa9=>a9;have b9:=Dp a8 a6;have c0:=a4;have f8:=Gy (wr:=w1) (n:=y);have f9:=λw3 g2 a9 t h2 h3=>NO.push (w:=w1) (w1:=w1.alloc<|W #[I .u8 (y:Z)] 5) (w3:=w3) (g:=g) (S:=λk=>S k/\k≠w.heap.size) b6 (s:=s) (a:=a1) (l:=i) (ao:=z) (cap:=P) (g2:=g2) (cap2:=a9) (c:=y) (H:=w1.heap.size+1) b7 ⟨hF _ A,A⟩ a4 (Ag.oldS a6) c6 b9 t h2 h3
    go_wp2_with (first
     |(go_at_call 251;refine q.mono ?_;rintro r w2 ⟨rfl,rfl⟩)
     |(at_builtin;refine wpList_append_lies _ rfl (.tmp 31) (.tmp 34) 64 rfl 0 5 i0 (I .u8 0) 1 1 underlying64 f2 f3 f4 f5 rfl A (K z i.length P) i.length _ rfl b9 ⟨_,0,O⟩ 1 1 [I .u8 (y:Z)] rfl rfl f8 (by intro h8 hu;simp at hu;subst hu;rfl) A (by unfold maxLen;omega) A A _ (by simp;rfl) ?_;intro g2 a9 w3 t b7 b9 c3;have a6:=f9 w3 g2 a9 t b7 b9;have:=a6.1.c2;have:=a6.1.thaw 2;have HP:=a6;clear t b7 b9 a6))
    go_roundw
    .exact ⟨_,_,⟨HP.2.2,c9,ako,by rw[O2];exact VU b4⟩,T.kept HP.2.1 b3,a0.kept HP.2.1 b3,(HP.2.1.block w.heap.size (Wt.1 j).1 λh=>h.2 rfl).trans j,u.trans (HP.2.1.mono λ_ _ h=>h.1)⟩
    obtain⟨g0,g1,d0,_⟩:=HP.2.2;rw[HM,AR d0.c1];omega
   rw[Ww (show ¬i.length+1<=20000 by omega)] at q;rw[Wz A] at b4;go_wp2_with (go_at_call 251;refine q.mono ?_;rintro r w2 ⟨rfl,rfl⟩);simp only[Exit.jump];go_ret;exact⟨u,1,rfl,.inr ⟨by rw[O2];exact FC b4,A⟩⟩
  have:¬(y:Z)<256:=A;obtain⟨z,P,a5,a8,a4⟩:=a7;have a6:=rq g s hs a1 (K z i.length P) y c9 w1 a5;have g3:=a5;have d9:=a8;have c0:=a4;go_wp2_with fail;apply a6.mono;rintro r w2 ⟨b0,a2,g4,e0,e1⟩;have d1:=u.trans<|b0.of_g m;rcases e1 with⟨k1,k2,k3,k4,rfl⟩|⟨k1,n0,rfl⟩
  .have d:=jv (s:=s) (D:=D) (y:=y) (a1:=a1) i A;have:2^AM y<=2^5:=wg A alG;have:=Cv s a1<|AM y;have:=Nl k2;have:Bg y+Ar s a1 (AM y)<=300:=A;have:a1<=a2:=A;rw[<-k4] at d;generalize Bg y+Ar s a1 (AM y)=nn at*;have f:=OW (D:=D) (l:=i) x A k2;have a6:=d1.size;have a4:=a0.kept b0 λk o e=>p k o (e ▸ m);have a7:=T.kept b0 λk o e=>p k o (e ▸ m);have a5:=(b0.block w.heap.size (Wt.1 j).1 A).trans j;have:w2.cell? ⟨w.heap.size,1,O⟩=J (V<|J ⟨gD,0,O⟩):=by rw[Wu _ _ 1 _ _ (0,0) a5];rfl
   have a8:=jq g s hs a2 (K z i.length P) g4 gD b2 (λo=>p g o m) D hD w2 (λk o=>wG (d2 k o) a6) e0 a4;have g5:=b0;have e3:=a4;have e4:=a7;have c4:=a5;go_wp2_with fail;apply a8.mono;rintro r w3 ⟨t,a3,g6,b1,e5⟩;have e6:=d1.trans<|t.of_g m;rcases e5 with⟨e9,h5,b5,rfl⟩|⟨b5,n1,rfl⟩
   .have c3:=nc b5;rw[b5] at d;have e7:=NO.next (S:=λk=>S k/\k≠w.heap.size) g3 d9 c0 (g5.trans t) b1;have:=b1.c2;have q:=mw g s a3 z i.length P nn c8 w3 b1;have T:=e4.kept t λk o e=>p k o (e ▸ m);have a0:=e3.kept t λk o e=>p k o (e ▸ m);have j:=(t.block w.heap.size (Wt.1 c4).1 A).trans c4;have u:=e6;by_cases m:i.length<e9
    .have p:(i.length:Z)<e9:=A;simp only[m,acz] at d;exact ahC
    have p:¬(i.length:Z)<e9:=A;simp only[m,abE] at d;by_cases c5:20000<i.length+nn
    .simp only[c5,acz] at d;rw[Ww (show ¬i.length+nn<=20000 by omega)] at q;go_wp2_with (go_at_call 251;refine q.mono ?_;rintro r w4 ⟨rfl,rfl⟩);simp only[Exit.jump];go_ret;exact⟨u,1,rfl,.inr ⟨by rw[O2];exact FC<|f.trans d,A⟩⟩
    simp only[c5,abE] at d;rw[Wy (show i.length+nn<=20000 by omega)] at q;have g7:=(yN g (λk=>S k/\k≠w.heap.size) b6 s a3 i nn e9 c3.2.2 A A w3 (λk o=>⟨hF k (by have:=u.size;omega),by have:=(Wt.1 j).1;omega⟩) e7);go_wp2_with (first
     |(go_at_call 251;refine q.mono ?_;rintro r w4 ⟨rfl,rfl⟩)
     |(go_at_call 256;refine g7.mono ?_;rintro r w5 ⟨rfl,e8,o⟩;have m:=e8;have p:=o;clear e8 o))
    go_roundw
    .exact ⟨_,_,⟨p,g6,(by rw[Mr];omega),by rw[O2];exact VU<|f.trans d⟩,T.kept m b3,a0.kept m b3,(m.block w.heap.size (Wt.1 j).1 λh=>h.2 rfl).trans j,u.trans (m.mono λ_ _ h=>h.1)⟩
    obtain⟨g0,g1,d0,_⟩:=p;rw[HM,AR d0.c1];omega
   rw[b5] at d;have u:=e6;exact ahC
  have g8:(Fk s L D a' i =.inl (.inr 2)):=by
   by_cases i:285<y
   .exact Ut x i
   refine(OW x A A).trans ?_;unfold FP;rw[Wz A]
  have g9:=d1;go_wp2_with fail;go_step3
  try simp only[Exit.jump]
  exact⟨rfl,rfl,rfl,g9,by rw[O2];exact FC g8⟩
 refine R _ _ ⟨(λh=>by cases h),?_⟩;refine Ba (i:=6) B ?_;refine WE rfl λi R=>?_;go_simp;refine R _ _ ⟨(λh=>by cases h),?_⟩;refine Bx (i:=7) (v:=I Q 0) (J 16) rfl rfl B rfl B B (λ_ _ _ h=>h) (.inl ⟨rfl,λh9 _=>by go_simp⟩) ?_;simp only[Act.put,WH,WT,WV];refine Bx (i:=8) (v:=ζ ι) (J 17) rfl rfl B rfl B B (λ_ _ _ h=>h) (.inl ⟨rfl,λi1 _=>by go_simp⟩) ?_;simp only[Act.put,WH,WT,WV];refine Ba (i:=9) B ?_;refine WE rfl λi R=>?_;go_simp;refine R _ _ ⟨(λh=>by cases h),?_⟩;refine Ba (i:=10) B ?_;refine WE rfl λi R=>?_;go_simp;refine R _ _ ⟨(λh=>by cases h),?_⟩;refine FR B ?_;have x:=hd;go_wp2_with fail;go_step3
 try simp only[Exit.jump]
 exact⟨rfl,rfl,rfl,u,by rw[O2];exact FC<|Ur x⟩
open Go.RowKit Go.Maps Go.Proofs.Tryz
structure Mk (w:U) (gs:N) (L:E N) (i:N) (F:N->N) (V:N->M):Prop where
 cells:∃J0:φ M,w.heap[gs]? =J (W J0 uV (0,0))/\(∀n,n<=15->J0[n]? =J (I Q (F n:N)))/\∀n,n<=15->J0[16+n]? =J (V n)
 own:∀n,n<=15->w.ownsRow (gs+1) 3 1 (V n) (if n=0 then [] else Em L n i).length (Av (if n=0 then [] else Em L n i))
 apart:∀n m b,n<=15->m<=15->n≠m->(V n).ownBlock=J b->(V m).ownBlock≠J b
def Mk.form{b:N}{c:N->N}{a:N->M}(h:Mk w b L i c a)(b:n<=15):∃ao cap,a n=K ao (if n=0 then [] else Em L n i).length cap:=by
 obtain⟨_,h|⟨g,cap,_,a,_⟩⟩:=h.own n b
 .exact ⟨O,0,by rw[h.1,h.2]⟩
 exact⟨_,cap,a⟩
def Mk.lt{a:N->N}(h:Mk w b L i a c):b<w.heap.size:=by
 obtain⟨_,a,_⟩:=h.cells;exact(Wt.1 a).1
def Mk.cellV{c:N->N}{a:N->M}(h:Mk w b L i c a)(c:n<=15):w.cell? ⟨b,16+n,O⟩=J (a n):=by
 obtain⟨a,d,_,e⟩:=h.cells;rw[Wu w b (16+n) a _ (0,0) d];exact e n c
def Mk.cellF{a:N->N}{c:N->M}(h:Mk w b L i a c)(c:n<=15):w.cell? ⟨b,n,O⟩=J (I Q (a n:N)):=by
 obtain⟨a,d,e,_⟩:=h.cells;rw[Wu w b n a _ (0,0) d];exact e n c
def Mk.thaw{a:N->N}(h:Mk w b L i a c)(j:N):w.frozen? ⟨b,j,O⟩=false:=by
 obtain⟨a,c,_⟩:=h.cells;exact WK w b j a _ c
def Mk.old{a:N->N}(h:Mk w b L i a c)(d:Am w w'):Mk w' b L i a c:=by
 obtain⟨⟨a,c,e⟩,f,g⟩:=h;exact⟨⟨a,(d.block b (Wt.1 c).1 λx=>x).trans c,e⟩,λn a=>CA (f n a) d λ_ _ x=>x,g⟩
def Mk.skip{a:N->N}(h:Mk w b L i a c)(d:L.getD i 0=0):Mk w b L (i+1) a c:=by
 have e:∀n,(if n=0 then [] else Em L n (i+1))=(if n=0 then [] else Em L n i):=λn=>by
  by_cases a:n=0
  .rw[Wz a,Wz a]
  rw[Wx a,Wx a,II,Wx A]
 exact⟨h.cells,λn a=>by rw[e];exact h.own n a,h.apart⟩
def Mk.push{w3:U}{c:N}{a:N->M}(S:Mk w c L i d a){g2 cap2:N}(hx:L.getD i 0=x)(T:x≠0)(h:x<=15)
 (a0:w3.ownsRow (c+1) 3 1 (K (J ⟨g2,0,O⟩) ((Em L x i).length+1) cap2) ((Em L x i).length+1)<|Av (Em L x i)++[I Q (i:N)])(v:w.grownBy w3 (a x).ownBlock)(s:(a x).ownBlock=J g2\/g2=w.heap.size):
 Mk (w3.setCell ⟨c,16+x,O⟩<|K (J ⟨g2,0,O⟩) ((Em L x i).length+1) cap2) c L (i+1) d (λn=>if n=x then K (J ⟨g2,0,O⟩) ((Em L x i).length+1) cap2 else a n):=by
 have o:∀n,n<=15-> ∀b,(a n).ownBlock=J b->c+1<=b:=λn j b g=>Cd (S.own n j) b g
 have a1:=S.lt;have y:J c≠(a x).ownBlock:=λe=>by have:=o x h c e.symm;omega
 have:c<g2:=by
  rcases s with e|e
  .have:=o x h g2 e;omega
  omega
 have z:∀b,b≠c->(w3.setCell ⟨c,16+x,O⟩<|K (J ⟨g2,0,O⟩) ((Em L x i).length+1) cap2).heap[b]? =w3.heap[b]? :=λb g=>aaK _ _ _ _ g
 obtain⟨⟨a,o,hf,hv⟩,h2,D⟩:=S;have d :w3.heap[c]? =J (W a uV (0,0)):=(v.block c a1 y).trans o;have a2:=(Wt.1<|hv x h).1;refine⟨⟨_,WL w3 c (16+x) a _ _ d,λn j=>?_,λn j=>?_⟩,λn j=>?_,λn m b j P r g=>?_⟩
 .rw[wR,Wx A];exact hf n j
 .rw[wR];by_cases e:n=x
  .subst e;rw[Wz rfl,Wz a2,Wz rfl]
  rw[Wx A,Wx e];exact hv n j
 .by_cases e:n=x
  .subst e;rw[Wz rfl,Wx T,II,Wz hx];have a:Av (Em L n i++[i])=Av (Em L n i)++[I Q (i:N)]:=by simp[Av]
   rw[a,Ws];exact CA a0 (Aq w3 c (16+n) _) λb g e=>by injection g with g;have a3:g2=b:=g;omega
  rw[Wx e];have c:(if n=0 then [] else Em L n (i+1))=(if n=0 then [] else Em L n i):=by
   by_cases a:n=0
   .rw[Wz a,Wz a]
   rw[Wx a,Wx a,II,Wx A]
  rw[c];have p:=h2 n j;obtain⟨R,p|⟨b,t,q,k,u,l,a4⟩⟩:=p
  .exact ⟨R,.inl p⟩
  refine⟨R,.inr ⟨b,t,q,k,u,?_,a4⟩⟩;rw[z b A];exact(v.block b (Wt.1 l).1 λe9=>D n x b j h e (by rw[k];rfl) e9.symm).trans l
 by_cases e:n=x
 .subst e;rw[Wz rfl] at g;injection g with g;rw[Wx λe=>r e.symm];rcases s with e9|e9
  .intro f;exact D n m g2 j P r e9<|by rw[f];exact hJ J g.symm
  intro f;have p:=h2 m P;obtain⟨R,p|⟨b',t,q,k,u,l,a4⟩⟩:=p
  .rw[p.1] at f;cases f
  rw[k] at f;injection f with f;have a5:=(Wt.1 l).1;have a6 :b'=b:=f;have:g2=b:=g;omega
 rw[Wx e] at g;by_cases em:m=x
 .subst em;rw[Wz rfl];intro f;injection f with f;have a7:g2=b:=f;rcases s with e9|e9
  .exact D n m b j P r g<|by rw[e9,a7]
  have p:=h2 n j;obtain⟨R,p|⟨b',t,q,k,u,l,a4⟩⟩:=p
  .rw[p.1] at g;cases g
  rw[k] at g;injection g with g;have:=(Wt.1 l).1;have a6 :b'=b:=g;omega
 rw[Wx em];exact D n m b j P r g
def Mk.first{c:N}{a:N->M}(k:Mk w c L i d a)(m:x<=15)(v:N):Mk (w.setCell ⟨c,x,O⟩<|I Q (v:N)) c L i (λn=>if n=x then v else d n) a:=by
 have f:∀n,n<=15-> ∀b,(a n).ownBlock=J b->c+1<=b:=λn e b h=>Cd (k.own n e) b h
 obtain⟨⟨a,d,l,o⟩,p,q⟩:=k;have j:=(Wt.1<|l x m).1;refine⟨⟨_,WL w c x a _ _ d,λn e=>?_,λn e=>?_⟩,λn e=>?_,q⟩
 .rw[wR];by_cases g:n=x
  .subst g;rw[Wz rfl,Wz j,Wz rfl]
  rw[Wx λa=>g a.symm,Wx g];exact l n e
 .rw[wR,Wx A];exact o n e
 exact CA (p n e) (Aq w c x _) λb h g=>by have:=f n e b h;omega
def cY(L:E N)(n i:N):(if n=0 then [] else Em L n i).length<=i:=by
 split
 .simp
 exact RE L n i
def So(L:E N)(n j:N):N:=if j<n then AO L j else 0
def jw(L:E N)(n j:N)(v:N)(a:v=AO L n):(if j=n then v else So L n j)=So L (n+1) j:=by
 unfold So;by_cases e:j=n
 .subst e;rw[Wz rfl,Wz A,a]
 rw[Wx e];by_cases h:j<n
 .rw[Wz h,Wz A]
 rw[Wx h,Wx A]
def Mk.congr{a F':N->N}(h:Mk w b L i a c)(d:∀n,n<=15->a n=F' n):Mk w b L i F' c:=by
 obtain⟨⟨a,b,c,e⟩,f,g⟩:=h;exact⟨⟨a,b,λn a=>by rw[c n a,d n a],e⟩,f,g⟩
def Mk.set{c:N}{a:N->M}(h:Mk w c L L.length (So L 16) a):Dg w c (λk=>c<=k/\k<w.heap.size) L:=by
 have c:=h.lt;have d:=λn a=>h.form (n:=n) a
 obtain⟨⟨e,l,m,o⟩,p,_⟩:=h;refine⟨e,l,⟨WF _,c⟩,λn a=>?_,λn a=>?_⟩
 .rw[m n a];unfold So;rw[Wz A]
 have h:(if n=0 then [] else Em L n L.length)=KW L n:=rfl;obtain⟨l,e,c⟩:=d n a;rw[h] at c;refine⟨l,e,by rw[o n a,c],λ_ q=>?_⟩;have f:=p n a;rw[h,c] at f;obtain⟨b,_,g,_,i⟩:=f.form A;injection g with j _ r;subst j;refine⟨b,rfl,⟨A,i⟩,?_⟩;have a:=(BG.ofOwns rfl f).cell q;rw[WQ] at a;exact a
def UJ(gl a2 cap:N)(L:E N)(hL:L.length<=400)(b1:∀j,L.getD j 0<=15)(w:U)(hI:BG w gl a2 L):
 μ F 190 #[K (J ⟨gl,a2,O⟩) L.length cap] w λr w'=>r=ε (V<|J ⟨w.heap.size,0,O⟩)/\Am w w'/\Dg w' w.heap.size (λk=>w.heap.size<=k/\k<w'.heap.size) L:=by
 obtain⟨i0,c5,c6,c7,c8⟩:=wi KO;have:=hI.lt;have HI:=H hI;have c9:=H b1;clear hI b1;go_in;go_wp2;go_loopw [4,5,10] (λ_ _ z wr=>∃i:N,i<=L.length/\z=I Q i/\C (∃c4,Mk wr w.heap.size L i (λ_=>0) c4)/\C (Am w wr)) λ_ _ z _=>L.length-(intOf z).toNat
 .refine ⟨0,A,rfl,⟨λ_=> K O 0 0,⟨⟨_,WD w _,λn hn=>?_,λn hn=>?_⟩,λn hn=>?_,λn m b hn hm d7 c=>by cases c⟩⟩,(Ag.refl _ w).alloc _⟩
  .match n,hn with
   |0,_=>rfl|1,_=>rfl|2,_=>rfl|3,_=>rfl|4,_=>rfl|5,_=>rfl|6,_=>rfl|7,_=>rfl|8,_=>rfl|9,_=>rfl|10,_=>rfl|11,_=>rfl|12,_=>rfl|13,_=>rfl|14,_=>rfl|15,_=>rfl
  .match n,hn with
   |0,_=>rfl|1,_=>rfl|2,_=>rfl|3,_=>rfl|4,_=>rfl|5,_=>rfl|6,_=>rfl|7,_=>rfl|8,_=>rfl|9,_=>rfl|10,_=>rfl|11,_=>rfl|12,_=>rfl|13,_=>rfl|14,_=>rfl|15,_=>rfl
  have a3:(if n=0 then [] else Em L n 0)=[]:=by split<;>rfl
  rw[a3];exact WZ _ _ _ _
 obtain⟨i,hi,rfl,P,R⟩:=hrel;obtain⟨c4,d⟩:=X P;by_cases v:i<L.length
 .have q:(i:Z)<L.length:=A;have a4:=(HI.kept R λx=>x).cell v;have e:=c9 i;have a5:=H d.skip;have b2:=H λx w3 g2 o (hx:L.getD i 0=x)=>d.push (w3:=w3) (x:=x) (g2:=g2) (cap2:=o) hx;generalize b3:L.getD i 0=x at a4 e a5 b2;have d0:=H b3;clear b3;by_cases a6:x=0
  .subst a6;have d6 :wr.cell? ⟨gl,a2+i,O⟩=J (I Q 0):=a4;have a2:=H<|a5 rfl;clear a4 d P;go_wp2;go_roundw
   .exact ⟨i+1,A,by go_num,⟨c4,a2⟩,R⟩
   exact Ae
  have:(0:Z)<(x:Z):=A;have:(x:Z)<16:=A;have:(0:Z)<=(x:Z):=A;obtain⟨T,cp,l⟩:=d.form (n:=x) e;have f:=d.own x e;rw[Wx a6] at l f;have d1:(Em L x i).length<=400:=WI (RE L x i) A;have g:=d.cellV (n:=x) e;have:=H d;rw[l] at g f;generalize b4:(Em L x i).length=nl at g f d1;have y:=H b4;have hA:Ag (λ_=>False) wr<|wr.drew.alloc (W #[I Q (i:Z)] 3):=(Ag.refl (λ_=>False) wr).drew.alloc _;have a0:=H (CA f hA λ_ _ x=>x);have a1:=H<|d.old hA;have d2:=H<|Fb (wr:=wr.drew) (n:=(i:Z));have b5:=H l;have a2:=d.lt;have b6:=(hA.cell (p:=⟨w.heap.size,16+x,O⟩) a2 λx=>x).trans g;have d3:=H<|R.trans hA;have s:(wr.drew.alloc<|W #[I Q (i:Z)] 3).heap.size=wr.heap.size+1:=by rw[WP];rfl
  have:=R.size;clear d P f l b2 a5 b4;have c:wr.drew.cell? ⟨w.heap.size,16+x,O⟩=J (K T nl cp):=g;go_upto_region 6 with fail;refine EP (S:=λf=>f.cell? ⟨w.heap.size,16+x,O⟩=J (K T nl cp)) (late:=λi=>Γ (i<=1)||decide (10<=i)) B ?_;refine Bx (i:=0) (v:=V<|J ⟨w.heap.size,0,O⟩) (J 17) rfl rfl B rfl B B (λ_ _ _ h=>h) (.inl ⟨rfl,λd9 _=>by go_simp⟩) ?_;simp only[Act.put,WH,WT,WV];refine Bx (i:=1) (v:=I Q x) (J 18) rfl rfl B rfl B B (λ_ _ _ h=>h) (.inl ⟨rfl,λe0 _=>by go_simp⟩) ?_;simp only[Act.put,WH,WT,WV];refine Bx (i:=11) (v:=V<|J ⟨w.heap.size,0,O⟩) (J 28) rfl rfl B rfl B B (λ_ _ _ h=>h) (.inl ⟨rfl,λe1 _=>by go_simp⟩) ?_;simp only[Act.put,WH,WT,WV];refine Bx (i:=12) (v:=V<|J ⟨w.heap.size,16,O⟩) (J 29) rfl rfl B rfl B B (λ_ _ _ h=>h) (.inl ⟨rfl,λe2 _=>by go_simp⟩) ?_;simp only[Act.put,WH,WT,WV];refine tg 2 15 (V<|J ⟨w.heap.size,0,O⟩) 19 c ?_;refine tg 3 15 (I Q x) 20 c ?_;refine tg 4 15 (V<|J ⟨w.heap.size,0,O⟩) 21 c ?_;refine tg 5 15 (V<|J ⟨w.heap.size,16,O⟩) 22 c ?_;refine tg 6 15 (V<|J ⟨w.heap.size,16+x,O⟩) 23 c ?_;refine tg 7 15 (K T nl cp) 24 c ?_;refine tg 8 15 (I Q i) 25 c ?_;refine Ba (i:=9) B ?_;refine WE rfl λf t=>?_;go_simp;refine t _ _ ⟨λ_=>b6,?_⟩;clear t;refine Ba (i:=10) B ?_;refine DE rfl rfl (wp_append_lies _ (.tmp 24) (.tmp 26) 100 rfl (w.heap.size+1) 3 i0 (I Q 0) 1 8 underlying100 c5 c6 c7 c8 rfl A (K T nl cp) nl _ rfl a0 ⟨wr.heap.size,0,O⟩ 1 1 [I Q (i:Z)] rfl rfl d2 alI A (by unfold maxLen;omega) A (WI (show w.heap.size+1<=wr.heap.size+1 by omega)<|Nat.le_of_eq s.symm) _ rfl ?_);intro g2 o w3 b7 u b9 f;have a7:=a1.push (w3:=w3) (x:=x) (g2:=g2) (cap2:=o) d0 a6 e (by rw[X y];exact b7) (by rw[X b5,X y];exact u) (by rw[X b5,X y];exact b9);rw[X y] at a7;have e:=Cd a0;have D:=(World.cell?_of_block (w:=wr.drew.alloc<|W #[I Q (i:Z)] 3) (a:=⟨w.heap.size,16+x,O⟩) (u.block w.heap.size (wG (show w.heap.size<wr.heap.size+1 by omega)<|Nat.le_of_eq s.symm) λa3=>by have:=e _ a3.symm;omega)).trans b6;have c0:=(World.frozen?_of_block (w:=wr.drew.alloc<|W #[I Q (i:Z)] 3) (a:=⟨w.heap.size,16+x,O⟩) (u.block w.heap.size (wG (show w.heap.size<wr.heap.size+1 by omega)<|Nat.le_of_eq s.symm) λa3=>by have:=e _ a3.symm;omega)).trans<|a1.thaw (16+x);have c1:=d3.grown u (λk f a3=>κ f<|by have:=e k a3;omega);refine⟨(λh=>by cases h),?_⟩;clear b7 u b9;simp only[Act.put,WH];refine Ba (i:=13) B ?_;refine WE rfl λe t=>?_;go_simp;refine t _ _ ⟨(λh=>by cases h),?_⟩;clear t;refine Ba (i:=14) B ?_;refine WE rfl λe t=>?_;go_simp;refine t _ _ ⟨(λh=>by cases h),?_⟩;clear t;refine FR B ?_;have e:=H a7;have a8:=H (c1.setCell (p:=⟨w.heap.size,16+x,O⟩) (λf=>κ f<|aac _)<|K (J ⟨g2,0,O⟩) (nl+1) o);clear a7 c1 D c0;go_wp2;go_roundw
  .exact ⟨i+1,A,by go_num,⟨_,e⟩,a8⟩
  exact Ae
 have q:¬(i:Z)<L.length:=A;have e:i=L.length:=A;rw[e] at d;have c2:=H (d.congr (F':=So L 1) λn _=>by unfold So;split;rename_i h;rw[show n=0 by omega];rfl;rfl);clear d P;go_wp2;go_loopw [6] (λz wr=>∃n:N,n<=16/\z=I Q n/\C (1<=n/\Mk wr w.heap.size L L.length (So L n) c4)/\C (Am w wr)) λz _=>16-(intOf z).toNat
 .exact ⟨1,A,rfl,⟨WF _,c2⟩,R⟩
 obtain⟨n,hn,rfl,P,R⟩:=hrel;obtain⟨d8,d⟩:=X P;by_cases v:n<=15
 .have q:(n:Z)<=15:=A;obtain⟨m,hm⟩:∃m,n=m+1:=⟨n-1,A⟩;have:(n:Z)-1=(m:Z):=A;have:(m:Z)<16:=A;have:(0:Z)<=(m:Z):=A;have x:(n:Z)<16:=A;have:(0:Z)<=(n:Z):=A;have:=Aw m A;have a9:=d.cellF (n:=m) A;obtain⟨T,cp,l⟩:=d.form (n:=m) A;have g:=d.cellV (n:=m) A;rw[l] at g;have:=d.cellF (n:=n) v;have:=d.thaw n;have c3:So L n m=AO L m:=by unfold So;rw[Wz A]
  rw[c3] at a9;have d4:=WI (cY L m L.length) hL;have d5:AO L m<=52428800:=by
   have:=Mq L m;have:2^(m+1)<=2^16:=wg A A;have:2^(m+1)*L.length<=65536*400:=abm A hL;omega
  have b0:C (2*(AO L m+(if m=0 then [] else Em L m L.length).length)=AO L n):=by
   unfold C;rw[hm,AO];by_cases h0:m=0
   .rw[Wz h0,Wz h0];rfl
   rw[Wx h0,Wx h0,RD]
  generalize AO L m=fm at a9 d5 b0;generalize(if m=0 then [] else Em L m L.length).length=rl at g d4 b0;have e:=H λf (i:f=AO L n)=>(d.first (x:=n) v f).congr (F':=So L<|n+1) λj _=>jw L n j f i;clear d P l c3 hm;have:IntKind.i64.wrap ((fm:Z)+rl)=(fm:Z)+rl:=akR
  have:IntKind.i64.wrap (2*((fm:Z)+rl))=2*((fm:Z)+rl):=akR
  have c:wr.drew.cell? ⟨w.heap.size,m,O⟩=J (I Q (fm:N))/\wr.drew.cell? ⟨w.heap.size,16+m,O⟩=J (K T rl cp):=⟨a9,g⟩;go_upto_region 11 with fail;refine Ai (S:=λf=>f.cell? ⟨w.heap.size,m,O⟩=J (I Q (fm:N))/\f.cell? ⟨w.heap.size,16+m,O⟩=J (K T rl cp)) (L:=22) B ?_;refine tk 0 23 (V<|J ⟨w.heap.size,0,O⟩) 36 c ?_;refine tk 1 23 (I Q n) 37 c ?_;refine tk 2 23 (V<|J ⟨w.heap.size,0,O⟩) 38 c ?_;refine tk 3 23 (I Q n) 39 c ?_;refine tk 4 23 (I Q m) 40 c ?_;refine tk 5 23 (V<|J ⟨w.heap.size,0,O⟩) 41 c ?_;refine tk 6 23 (V<|J ⟨w.heap.size,0,O⟩) 42 c ?_;refine tk 7 23 (V<|J ⟨w.heap.size,m,O⟩) 43 c ?_;refine tk 8 23 (I Q fm) 44 c ?_;refine tk 9 23 (V<|J ⟨w.heap.size,0,O⟩) 45 c ?_;refine tk 10 23 (I Q n) 46 c ?_;refine tk 11 23 (I Q m) 47 c ?_;refine tk 12 23 (V<|J ⟨w.heap.size,0,O⟩) 48 c ?_;refine tk 13 23 (V<|J ⟨w.heap.size,16,O⟩) 49 c ?_;refine tk 14 23 (V<|J ⟨w.heap.size,16+m,O⟩) 50 c ?_;refine tk 15 23 (K T rl cp) 51 c ?_;refine tk 16 23 (I Q rl) 52 c ?_;refine tk 17 23 (I Q<|fm+rl) 53 c ?_;refine tk 18 23 (I Q<|2*(fm+rl)) 54 c ?_;refine tk 19 23 (V<|J ⟨w.heap.size,0,O⟩) 55 c ?_;refine tk 20 23 (V<|J ⟨w.heap.size,0,O⟩) 56 c ?_;refine tk 21 23 (V<|J ⟨w.heap.size,n,O⟩) 57 c ?_;refine Ah (i:=22) B ?_;refine WE rfl λc t=>?_;go_simp;refine t _ _ ⟨λh=>κ rfl h,?_⟩;clear t;refine Aj B ?_;have c:=H ((e (2*(fm+rl)) b0).old ((Ag.refl (λ_=>False) _).drew));rw[show((2*(fm+rl):N):Z)=2*((fm:Z)+rl) by omega] at c;have a8:=H (R.drew.setCell (p:=⟨w.heap.size,n,O⟩) (λe=>κ e<|aac _)<|I Q (2*((fm:Z)+rl)));go_wp2;go_roundw
  .exact ⟨n+1,A,by go_num,⟨A,c⟩,a8⟩
  exact Ae
 have q:¬(n:Z)<=15:=A;have x:n=16:=A;rw[x] at d;have t:=H d.set;clear d P;go_wp2;go_ret;exact⟨rfl,R,t⟩
def uX(h b cap:N)(L:E N)(D:L.length<=400)(c:∀j,L.getD j 0<=15)(w:U)(D:BG w h b L):
 μ F 300 #[K (J ⟨h,b,O⟩) L.length cap] w λr w'=>r=ε (ζ<|Fa L)/\w'=w:=by
 have P:=H D;have k:=H c;go_in;go_wp2_with fail;go_loop [3,5,8] (λx _ z=>∃a i:N,i<=L.length/\a<=6553600/\x=I Q a/\z=I Q i/\C (a=JV (L.take i))) λ_ _ z=>L.length-(intOf z).toNat
 .exact ⟨0,0,A,A,rfl,rfl,rfl⟩
 obtain⟨a,i,_,l,rfl,rfl,m⟩:=hrel;by_cases c:i<L.length
 .have d:(i:Z)<L.length:=A;have e:=P.cell c;have g:=k i;have o:=H<|take_getD L i c;have q:=H<|VV L (i+1);generalize L.getD i 0=x at e g o;by_cases u:x=0
  .subst u;have v :w.cell? ⟨h,b+i,O⟩=J (I Q 0):=e;go_wp2_with fail;go_round
   .have h1:=X m;exact⟨a,i+1,A,l,rfl,by go_num,by rw[C,X o,IK,<-h1];rfl⟩
   exact Ae
  have:(0:Z)<(x:Z):=A;have:(0:Z)<=(x:Z):=A;have:(x:Z)<=15:=A;have:((15:Z)-(x:Z)).toNat=15-x:=A;have s:2^(15-x)<=16384:=wg (n:=2) A (show 15-x<=14 by omega);have t:(2:Z)^(15-x)=((2^(15-x):N):Z):=alp
  have y:C<|JV (L.take<|i+1)=a+2^(15-x):=by
   have h1:=X m;rw[C,X o,IK,<-h1,Wx u]
  generalize 2^(15-x)=p at t s y;go_wp2_with fail;go_round
  .have h1:=X y;obtain⟨_,_⟩:=X q;exact⟨a+p,i+1,A,A,by go_num,by go_num,h1.symm⟩
  exact Ae
 have:¬(i:Z)<L.length:=A;have b:i=L.length:=A;have c:C<|JV L=a:=by
  have h1:=X m;rw[b,wL] at h1;exact h1.symm
 have U4:C<|Fa L=(a==32768):=by unfold C Fa;rw[X c]
 exact afy
def Oi(L:E N)(x:N):(L++[x]).sum=L.sum+x:=Ad
def uY(L:E N)(a:∀j,L.getD j 0<=15)(i:N)(c:i<=L.length):(L.take i).sum<=15*i:=by
 induction i with
 |zero=>simp
 |succ i b=>rw[take_getD L i A,Oi];have:=a i;have:=b A;omega
def rz(L:E N)(c:∀j,L.getD j 0<=15)(i:N)(f:i<=L.length):
 (Gc (L.take i)=0->JV (L.take i)=0/\(L.take i).sum=0)/\
 (Gc (L.take i)=1->JV (L.take i)=2^(15-(L.take i).sum)/\1<=(L.take i).sum/\(L.take i).sum<=15):=by
 induction i with
 |zero=>simp[JV,Gc]
 |succ i e=>
  obtain⟨a,b⟩:=e A;have d:=c i;rw[take_getD L i A,IK,Gz,Oi];generalize L.getD i 0=x at d;by_cases h0:x=0
  .subst h0;simp only[acz,aaw];exact⟨a,b⟩
  simp only[Wx h0];refine⟨λh=>A,λh=>?_⟩;obtain⟨c,e⟩:=a A;rw[c,e,WQ,WQ];exact⟨rfl,A,d⟩
def rA(L:E N)(b:∀j,L.getD j 0<=15):IA L=(Gc L==0||(Gc L==1&&L.sum==1)||Fa L):=by
 have h:=rz L b L.length<|WF _;rw[wL] at h;obtain⟨_,b⟩:=h;unfold IA Fa;by_cases h0:Gc L=0
 .simp[h0]
 by_cases a:Gc L=1
 .obtain ⟨e,_,_⟩:=b a;by_cases b:L.sum=1
  .have c:JV L=16384:=by rw[e,b]
   simp[a,b,c]
  have c:JV L≠16384:=by
   rw[e];have:2^(15-L.sum)<=2^13:=wg A A;omega
  rw[a,WA.2 b,WA.2 c];cases(JV L==32768)<;>rfl
 rw[WA.2 h0,WA.2 a];cases(JV L==32768)<;>rfl
def ng(m e cap:N)(L:E N)(T:L.length<=400)(f:∀j,L.getD j 0<=15)(w:U)(D:BG w m e L):
 μ F 302 #[K (J ⟨m,e,O⟩) L.length cap] w λr w'=>r=ε (ζ<|IA L)/\w'=w:=by
 have HI:=H D;have n:=H f;have P:=H<|uX m e cap L T f w D;have o:=H<|rA L f;have p:=H<|uY L f;go_in;go_wp2_with fail;go_loop [3,4,6,9] (λx y _ z=>∃a d i:N,i<=L.length/\d<=6000/\a<=400/\x=I Q a/\y=I Q d/\z=I Q i/\C (d=(L.take i).sum/\a=Gc (L.take i))) λ_ _ _ z=>L.length-(intOf z).toNat
 .exact ajY
 obtain⟨a,d,i,_,q,s,rfl,rfl,rfl,t⟩:=hrel;by_cases f:i<L.length
 .have g:(i:Z)<L.length:=A;have h:=HI.cell f;have k:=n i;have l:=H<|take_getD L i f;have u:=H<|p (i+1) A;have v:=H (VV L<|i+1).2;generalize L.getD i 0=x at h k l;by_cases R:x=0
  .subst R;have S :w.cell? ⟨m,e+i,O⟩=J (I Q 0):=h;go_wp2_with fail;go_round
   .obtain ⟨b,c⟩:=X t;exact⟨a,d,i+1,A,q,s,rfl,rfl,by go_num,⟨by rw[X l,Oi,<-b];rfl,by rw[X l,Gz,<-c];rfl⟩⟩
   exact Ae
  have:(0:Z)<(x:Z):=A;have e:C ((L.take<|i+1).sum=d+x/\Gc (L.take<|i+1)=a+1):=by
   obtain⟨b,c⟩:=X t;exact⟨by rw[X l,Oi,<-b],by rw[X l,Gz,<-c,Wx R]⟩
  go_wp2_with fail;go_round
  .obtain ⟨b,c⟩:=X e;have y:=X u;have:=X v;exact⟨a+1,d+x,i+1,A,A,A,by go_num,by go_num,by go_num,⟨b.symm,c.symm⟩⟩
  exact Ae
 have:¬(i:Z)<L.length:=A;have e:i=L.length:=A;have HE:C<|IA L=(a==0||(a==1&&d==1)||Fa L):=by
  obtain⟨b,c⟩:=X t;rw[e,wL] at b c;rw[C,X o,<-b,<-c]
 by_cases b:a=0
 .subst b;exact aim
 have:((a:Z)==0)=false:=act
 by_cases c:a=1
 .subst c;by_cases y:d=1
  .subst y;exact aim
  have:((d:Z)==1)=false:=act
  go_wp2_with (refine P.mono ?_;rintro r w' ⟨rfl,rfl⟩);go_ret;exact⟨AU (hJ Value.bool<|by show Fa L=IA L;rw[X HE];simp[y]),rfl⟩
 have:((a:Z)==1)=false:=act
 go_wp2_with (refine P.mono ?_;rintro r w' ⟨rfl,rfl⟩);go_ret;exact⟨AU (hJ Value.bool<|by show Fa L=IA L;rw[X HE];simp[b,c]),rfl⟩
def nh(n:N)(h:n<288)(w:U):
 μ F 246 #[I Q n] w λr w'=>r=ε (I Q (CF.getD n 0:N))/\w'=w:=by
 have:(n:Z)<288:=A;by_cases b:n<144
 .have a:=GR n h<|Wz b;have c:(n:Z)<144:=A;rw[a];go_in;exact aet
 by_cases d:n<256
 .have a:=GR n h (by rw[Wx b,Wz d]);have c:¬(n:Z)<144:=A;have e:(n:Z)<256:=A;rw[a];go_in;exact aet
 by_cases f:n<280
 .have a:=GR n h (by rw[Wx b,Wx d,Wz f]);have c:¬(n:Z)<144:=A;have e:¬(n:Z)<256:=A;have g:(n:Z)<280:=A;rw[a];go_in;exact aet
 have a:=GR n h (by rw[Wx b,Wx d,Wx f]);have:¬(n:Z)<144:=A;have:¬(n:Z)<256:=A;have:¬(n:Z)<280:=A;rw[a];go_in;exact aet
def DS:CX.length=32:=by rw[CX,wA]
def Zp(i:N)(h:i<32):CX.getD i 0=5:=by rw[CX,Wq,aaV,Wz h];rfl
def part(L:E N)(i:N):E N:=L.take i++List.replicate (L.length-i) 0
def LP(L:E N)(i:N)(h:i<=L.length):(part L i).length=L.length:=by
 rw[part,Ws,hY,wA];omega
def Zq(L:E N)(n:N)(h:L.length=n):part L n=L:=by
 rw[part,h,abJ,wv A];simp
def Zr(L:E N)(i:N)(h:i<L.length):(part L i).set i (L.getD i 0)=part L (i+1):=by
 unfold part
 rw[take_getD L i h,List.set_append_right _ _ akY,hY,abu A,abJ,
  show L.length-i=(L.length-(i+1))+1 by omega,acY,WT,WG]
 rfl
def Sp(L:E N)(a:L.length=n)(j:N)(h:j<(part L 0).length):(madeCells #[Value.int Q 0] n)[j]? =J (I Q ((part L 0).getD j 0:N)):=by
 rw[LP _ _<|wH _,a] at h;have e:(part L 0).getD j 0=0:=by
  rw[part,abo,aan,Wq,aaV];split<;>rfl
 rw[e];simp[madeCells,h,acn]
def Sq(w:U):
 μ F 182 #[] w λr w'=>r=ε (K (J ⟨w.heap.size,0,O⟩) 32 32)/\BG w' w.heap.size 0 CX/\Am w w':=by
 obtain⟨k,b,c,e,f⟩:=wi KO;have h:∀a:U,(Instr.makeSlice 100 (I Q 32)<|I Q 32).run F a=.ok (K (J ⟨a.heap.size,0,O⟩) 32 32) (a.alloc<|W (madeCells #[I Q 0] 32) 3):=by
  intro a;have h:=acO (P:=F) a 100 3 k (I Q 0) underlying100 b c .i64 .i64 32 32 A A (by rw[f];decide) Ac;rw[e] at h;exact h
 go_in;go_wp2;go_loopw [2,6] (λ_ z wr=>∃i:N,i<=32/\z=I Q i/\C (BG wr w.heap.size 0<|part CX i)/\C (Am w wr)) λ_ z _=>32-(intOf z).toNat
 .exact ⟨0,A,rfl,BG.new w rfl λj a=>Sp CX DS j a,(Ag.refl _ w).alloc _⟩
 obtain⟨i,_,rfl,d,j⟩:=hrel;by_cases a:i<32
 .have b:(i:Z)<32:=A;have e:=d.thaw i;have c:=d.cell (j:=i) (by rw[LP _ _ aln,DS];exact a);rw[WQ] at c;have e:=H (d.set (i:=i) (by rw[LP _ _ aln,DS];exact a)<|CX.getD i 0);have c:=H (j.setCell (p:=⟨w.heap.size,i,O⟩) (λf=>κ f<|aac _)<|I Q ((CX.getD i 0:N):Z));have h:((CX.getD i 0:N):Z)=5:=by rw[Zp i a];rfl
  rw[h] at c;have f:C<|BG (wr.setCell ⟨w.heap.size,i,O⟩<|I Q 5) w.heap.size 0 ((part CX i).set i<|CX.getD i 0):=by
   have:=X e;rw[h] at this;exact this
  have e:=f;go_wp2;go_roundw
  .refine ⟨i+1,A,by go_num,?_,c⟩;have:=X e;rw[Zr _ _<|by rw[DS];exact a] at this;exact this
  exact Ae
 have b:¬(i:Z)<32:=A;have a:i=32:=A;have g:C<|BG wr w.heap.size 0 CX:=by
  have:=X d;rw[a,Zq _ _ DS] at this;exact this
 go_wp2;go_ret;exact⟨rfl,g,j⟩
def UK(w:U):
 μ F 181 #[] w λr w'=>r=ε (K (J ⟨w.heap.size,0,O⟩) 288 288)/\BG w' w.heap.size 0 CF/\Am w w':=by
 obtain⟨q,f,g,h,j⟩:=wi KO;have l:∀b:U,(Instr.makeSlice 100 (I Q 288)<|I Q 288).run F b=.ok (K (J ⟨b.heap.size,0,O⟩) 288 288) (b.alloc<|W (madeCells #[I Q 0] 288) 3):=by
  intro b;have l:=acO (P:=F) b 100 3 q (I Q 0) underlying100 f g .i64 .i64 288 288 A A (by rw[j];decide) Ac;rw[h] at l;exact l
 go_in;go_wp2;go_loopw [2,6] (λ_ z wr=>∃i:N,i<=288/\z=I Q i/\C (BG wr w.heap.size 0<|part CF i)/\C (Am w wr)) λ_ z _=>288-(intOf z).toNat
 .exact ⟨0,A,rfl,BG.new w rfl λj a=>Sp CF BU j a,(Ag.refl _ w).alloc _⟩
 obtain⟨i,_,rfl,e,m⟩:=hrel;by_cases a:i<288
 .have c:(i:Z)<288:=A;have g:=e.thaw i;have f:=e.cell (j:=i) (by rw[LP _ _ alh,BU];exact a);rw[WQ] at f;have n:=H (e.set (i:=i) (by rw[LP _ _ alh,BU];exact a)<|CF.getD i 0);have d:=H (m.setCell (p:=⟨w.heap.size,i,O⟩) (λf=>κ f<|aac _)<|I Q ((CF.getD i 0:N):Z));have o:=H λb=>nh i a b;generalize s:((CF.getD i 0:N):Z)=fx at o n d;go_wp2_with (refine(o _).mono ?_;rintro r w' ⟨rfl,rfl⟩);go_roundw
  .refine ⟨i+1,A,by go_num,?_,d⟩;have:=X n;rw[Zr _ _<|by rw[BU];exact a] at this;exact this
  exact Ae
 have c:¬(i:Z)<288:=A;have a:i=288:=A;have k:C<|BG wr w.heap.size 0 CF:=by
  have:=X e;rw[a,Zq _ _ BU] at this;exact this
 go_wp2;go_ret;exact⟨rfl,k,m⟩
def uZ(g:N)(s:Y)(i:s.size<=140737488355328)(a:N)(o:M)(y:N)(p:y<=18)(j:a<=8*s.size)(w:U)(l:Up w g s a o):
 μ F 301 #[V<|J ⟨g,0,O⟩,I Q y] w λr w'=>Ag (λk=>k=g) w w'/\
  ((a+Bh y<=8*s.size/\Up w' g s (a+Bh y) o/\r=ε (η #[I Q ((BK y+Ar s a (Bh y):N):Z),ζ θ]))\/
   (8*s.size<a+Bh y/\Up w' g s (8*s.size) o/\∃n:Z,r=ε (η #[I Q n,ζ ι]))):=by
 by_cases c:y=16
 .subst c;rw[show Bh 16=2 from rfl,show BK 16=3 from rfl];have b:=H<|Gf g s i a o 2 A j w l;have d:=Cv s a 2
  skip
  go_in;go_wp2_with fail;apply b.mono;rintro r m ⟨P,Z1⟩;generalize D:Ar s a 2=nn at*;exact aeJ
 by_cases e:y=17
 .subst e;rw[show Bh 17=3 from rfl,show BK 17=3 from rfl];have b:=H<|Gf g s i a o 3 A j w l;have d:=Cv s a 3
  skip
  go_in;go_wp2_with fail;apply b.mono;rintro r m ⟨P,Z1⟩;generalize D:Ar s a 3=nn at*;exact aeJ
 by_cases h:y=18
 .subst h;rw[show Bh 18=7 from rfl,show BK 18=11 from rfl];have b:=H<|Gf g s i a o 7 A j w l;have d:=Cv s a 7
  skip
  go_in;go_wp2_with fail;apply b.mono;rintro r m ⟨P,Z1⟩;generalize D:Ar s a 7=nn at*;exact aeJ
 rw[show Bh y=0 by simp[Bh,c,e,h],show BK y=1 by simp[BK,c,e,h]];have b:=H<|Gf g s i a o 0 A j w l;have:=Cv s a 0;have:((y:Z)==16)=false:=act
 have:((y:Z)==17)=false:=act
 have:((y:Z)==18)=false:=act
 go_in;go_wp2_with fail;apply b.mono;rintro r m ⟨P,Z1⟩;generalize D:Ar s a 0=nn at*;exact aeJ
def fX:∀j,CF.getD j 0<=15:=by
 intro j;rcases wM j 288 with h|h
 .rw[YA j h];repeat (first|split|omega)
 rw[Wq,wj<|by rw[BU];exact h];exact wH _
def fY:∀j,CX.getD j 0<=15:=by
 intro j;rcases wM j 32 with h|h
 .rw[Zp j h];omega
 rw[Wq,wj<|by rw[DS];exact h];exact wH _
def Dg.mono{c:N}{a K':N->Prop}(h:Dg w c a L)(d:∀k,a k->K' k):Dg w c K' L:=by
 obtain⟨a,e,c,f,g⟩:=h;refine⟨a,e,d _ c,f,λn c=>?_⟩;obtain⟨e,a,f,h⟩:=g n c;refine⟨e,a,f,λj c=>?_⟩;obtain⟨b,e,a,f⟩:=h j c;exact⟨b,e,d b a,f⟩
def BR:(prog.info? 166).map (·.size)=J 2:=B
def EQ(p q:Option Addr):(#[Value.pointer p,V q]:φ M).all (·.oneCell')=true:=by simp[Value.oneCell']
def cZ(w:U):
 μ F 126 #[] w λr w'=>∃a g2:N,r=ε (.agg #[V<|J ⟨a,0,O⟩,V<|J ⟨g2,0,O⟩])/\Am w w'/\
  Dg w' a (λk=>w.heap.size<=k/\k<w'.heap.size) CF/\Dg w' g2 (λk=>w.heap.size<=k/\k<w'.heap.size) CX:=by
 go_in;go_wp2_with fail;have g:Am w<|w.alloc (W #[V O,V O] 166):=(Ag.refl _ w).alloc _;have h:(w.alloc<|W #[V O,V O] 166).heap[w.heap.size]? =J (W #[V O,V O] 166 (0,0)):=WD w _;have i:w.heap.size<(w.alloc<|W #[V O,V O] 166).heap.size:=alA
 generalize w.alloc (W #[V O,V O] 166)=w0 at*;apply(UK w0).mono;rintro r d ⟨rfl,j,a⟩;have f:=H<|UJ w0.heap.size 0 288 CF alh fX d j;have:=a.size;have l:=H<|g.trans a;have m:=H ((a.block w.heap.size i λx=>x).trans h);rw[BU] at f;go_wp2_with fail;apply f.mono;rintro r L ⟨rfl,c,a⟩;have:=c.size;have n:=H<|l.trans c;have o:=H ((c.block w.heap.size A λx=>x).trans m);have p:=H a;go_wp2_with fail;apply(Sq L).mono;rintro r e ⟨rfl,q,a⟩;have c:=H<|UJ L.heap.size 0 32 CX aln fY e q;have:=a.size;have s:=H<|n.trans a;have t:=H ((a.block w.heap.size A λx=>x).trans o);have u:=H<|p.old a;rw[DS] at c;go_wp2_with fail;apply c.mono;rintro r x ⟨rfl,b,c⟩;have:=b.size;have y:=H<|s.trans b;have a:=(b.block w.heap.size A λf=>f).trans t;have z:=H<|u.old b;have D:=H c;go_wp2_with (refine aal rfl 166 (.tmp 0) (.tmp 5) rfl w.heap.size #[V<|J ⟨d.heap.size,0,O⟩,V<|J ⟨e.heap.size,0,O⟩] rfl rfl 166 _ a BR rfl (EQ _ _) ?_);refine wI (v:=.agg #[V<|J ⟨d.heap.size,0,O⟩,V<|J ⟨e.heap.size,0,O⟩]) (abe results126 _ _ w.heap.size 166 _ (0,0) _ rfl (aaa x w.heap.size _ _ _ _ a) underlying166 rfl BR) rfl ⟨d.heap.size,e.heap.size,rfl,?_,?_,?_⟩
 .exact y.setRow _ (λh=>κ h<|aac _) _
 .have a:=(Ag.refl (λk=>k=w.heap.size) x).setRow w.heap.size (λ_=>rfl) #[V<|J ⟨d.heap.size,0,O⟩,V<|J ⟨e.heap.size,0,O⟩];have b:=a.size;exact(z.kept a λk _ _=>A).mono λk _=>⟨A,A⟩
 have a:=(Ag.refl (λk=>k=w.heap.size) x).setRow w.heap.size (λ_=>rfl) #[V<|J ⟨d.heap.size,0,O⟩,V<|J ⟨e.heap.size,0,O⟩];have:=a.size;exact(D.kept a λk _ _=>A).mono λk _=>⟨A,A⟩
def jx(b:N)(g h o p:N)(L D:E N)(i:256<L.length)(t:L.length<=400)(u:D.length<=400)(c:∀j,L.getD j 0<=15)(d:∀j,D.getD j 0<=15)(w:U)(e:BG w b g L)(k:BG w b h D):
 μ F 259 #[K (J ⟨b,g,O⟩) L.length o,K (J ⟨b,h,O⟩) D.length p] w λr w'=>r=ε (ζ<|Γ (L.getD 256 0≠0)&&Fa L&&IA D)/\w'=w:=by
 have l:=e.cell i;have a:=H<|uX b g o L t c w e;have m:=H<|ng b h p D u d w k;have:(256:Z)<(L.length:Z):=A;generalize L.getD 256 0=x at*;by_cases q:x=0
 .subst q;have s :w.cell? ⟨b,g+256,O⟩=J (I Q 0):=l;go_in;go_wp2;go_ret;exact⟨AU<|hJ Value.bool Ad,rfl⟩
 have:(0:Z)<(x:Z):=A;have v:=H q;by_cases n:Fa L=θ
 .rw[n] at a;go_in;go_wp2_with fail;apply a.mono;rintro r w' ⟨rfl,rfl⟩;go_wp2_with fail;apply m.mono;rintro r w' ⟨rfl,rfl⟩;go_wp2;go_ret;exact⟨AU (hJ Value.bool<|by rw[n];simp[X v]),rfl⟩
 have f:Fa L=false:=by simpa using n
 rw[f] at a;go_in;go_wp2_with fail;apply a.mono;rintro r w' ⟨rfl,rfl⟩;go_wp2;go_ret;exact⟨AU (hJ Value.bool<|by rw[f];simp),rfl⟩
def DF(w:U):Prop:=1<w.heap.size/\∀j,j<19->w.cell? ⟨1,j,O⟩=J (I Q (CT.getD j 0:N))
def DF.kept(h:DF w)(a:Ag S w w')(b:¬S 1):DF w':=
 ⟨wG h.1 a.size,λj c=>(a.cell (p:=⟨1,j,O⟩) h.1 b).trans<|h.2 j c⟩
def jy(j:N)(h:j<(List.replicate n 0).length):(madeCells #[Value.int Q 0] n)[j]? =J (I Q ((List.replicate n 0).getD j 0:N)):=by
 rw[wA] at h;have e:(List.replicate n 0).getD j 0=0:=by
  rw[Wq,aaV];split<;>rfl
 rw[e];simp[madeCells,h,acn]
def rB(g:N)(y:g≠1)(s:Y)(hs:s.size<=140737488355328)(a:N)(o:M)(k:N)(hk:k<=19)(b:a<=8*s.size)(w:U)(b:DF w)(h:Up w g s a o):
 μ F 257 #[V<|J ⟨g,0,O⟩,I Q k] w λr w'=>Ag (λk=>k=g) w w'/\
  ((a+3*k<=8*s.size/\Fa (Ii s a k)=θ/\Up w' g s (a+3*k) o/\∃c:N,r=ε (η #[V<|J ⟨c,0,O⟩,ζ θ])/\Dg w' c (λk=>w.heap.size<=k/\k<w'.heap.size) (Ii s a k))\/
   ((8*s.size<a+3*k\/Fa (Ii s a k)=ι)/\r=ε (η #[V O,ζ ι]))):=by
 obtain⟨i0,N5,Q0,G9,G8⟩:=wi KO;have:∀W:U,(Instr.makeSlice 100 (I Q 19)<|I Q 19).run F W=.ok (K (J ⟨W.heap.size,0,O⟩) 19 19) (W.alloc (.cells (madeCells #[I Q 0] 19) 3)):=agV;have:=h.lt;have:=H h;have d:=H b;have b:Ag (λ_=>False) w<|w.alloc (.cells (madeCells #[I Q 0] 19) 3):=(Ag.refl _ w).alloc _;have f:=H (h.kept b λx=>x);have D:=H (Ag.oldS (S:=λk=>k=g) b);go_in;go_wp2;go_loopw [7,8,9,12] (λ_ _ _ z wr=>∃i:N,i<=k/\z=I Q i/\C (Up wr g s (a+3*i) o/\a+3*i<=8*s.size)/\C (BG wr w.heap.size 0<|Ii s a i)/\C (Ag (λk=>k=g) w wr)) λ_ _ _ z _=>k-(intOf z).toNat
 .exact ⟨0,A,rfl,⟨f,A⟩,BG.new w rfl λj b=>jy j b,D⟩
 obtain⟨i,_,rfl,HU,L,x⟩:=hrel;obtain⟨j,l⟩:=X HU;by_cases b:i<k
 .have m:(i:Z)<k:=A;have b:=H<|Gf g s hs (a+3*i) o 3 A l wr j;go_wp2_with fail;apply b.mono;rintro r R ⟨b,T⟩;have a0:=H<|L.kept b A;have c:=x.trans b;have a1:=H c;rcases T with⟨a2,rfl,n⟩|⟨a2,rfl,n⟩
  .have:=(d.kept c λe=>y e.symm).2 i A;have f:=YF i;have d:=X a0;have b:=Je s a i;have y:=d.cell (j:=CT.getD i 0) (by rw[b];exact f);rw[WQ] at y;have:=d.thaw<|CT.getD i 0;have a3:=H (d.set (i:=CT.getD i 0) (by rw[b];exact f)<|Ar s (a+3*i) 3);have a4:=H (c.setCell (p:=⟨w.heap.size,CT.getD i 0,O⟩) (λb=>κ b<|aac _)<|I Q (Ar s (a+3*i) 3:N));have a5:=H<|n.kept (Aq R w.heap.size (CT.getD i 0)<|I Q (Ar s (a+3*i) 3:N)) A;have a6:C ((Ii s a i).set (CT.getD i 0) (Ar s (a+3*i) 3)=Ii s a (i+1)):=H rfl;generalize CT.getD i 0=q,Ar s (a+3*i) 3=v at*;generalize(Ii s a i).getD q 0=v0 at*;have:(q:Z)<19:=A;have:(i:Z)<19:=A;go_wp2;go_roundw
   .refine ⟨i+1,A,by go_num,⟨?_,A⟩,?_,a4⟩
    .exact a5
    rw[<-X a6];exact a3
   exact Ae
  go_wp2;go_ret2;exact⟨a1,.inr ⟨.inl A,rfl⟩⟩
 have:¬(i:Z)<k:=A;have a7:i=k:=A;subst a7;have a8:=H j;have a9:=H l;have t:=H (uX w.heap.size 0 19 (Ii s a i) (by rw[Je];omega) (fH s a i) wr L);have HM:=H (UJ w.heap.size 0 19 (Ii s a i) (by rw[Je];omega) (fH s a i) wr L);rw[Je] at t HM;have:=x.size;by_cases hf:Fa (Ii s a i)=θ
 .rw[hf] at t;go_wp2_with fail;apply t.mono;rintro r R ⟨rfl,rfl⟩;go_wp2_with fail;apply HM.mono;rintro r w2 ⟨rfl,u,d⟩;have c:=H<|x.trans (Ag.oldS u);have b:=H (a8.kept u λe=>e);have HS:=H (d.mono (K':=λk=>w.heap.size<=k/\k<w2.heap.size) λk hk=>⟨A,hk.2⟩);have e:=H hf;go_wp2;go_ret2;exact⟨c,.inl ⟨a9,e,b,_,rfl,HS⟩⟩
 have b:Fa (Ii s a i)=false:=by simpa using hf
 rw[b] at t;have e:=H b;go_wp2_with fail;apply t.mono;rintro r R ⟨rfl,rfl⟩;go_wp2;go_ret2;exact⟨x,.inr ⟨.inr e,rfl⟩⟩
def da{C:E N}(h:dec s C a=O):CW s C many a l=none:=by unfold CW;rw[h]
def Zs{C:E N}(h:dec s C a=J (16,a1))(b:l.length=0):CW s C many a l=none:=by unfold CW;rw[h];simp[b]
def Pm{C:E N}(h:dec s C a=J (y,a1))(b:8*s.size<a1+Bh y):CW s C many a l=none:=by unfold CW;rw[h];simp only[b,acz,ite_self]
def Pn{C:E N}(h:dec s C a=J (y,a1))(b:BK y+Ar s a1 (Bh y)=t)(c:many<l.length+t):CW s C many a l=none:=by unfold CW;rw[h];simp only[b,c,acz,ite_self]
def Sr{C:E N}(h:dec s C a=J (y,a1))(h0:¬(y=16/\l.length=0))(b:a1+Bh y<=8*s.size)(b:BK y+Ar s a1 (Bh y)=t)(c:¬many<l.length+t):
 CW s C many a l=J (a1+Bh y,l++List.replicate t (Gd y l)):=by
 unfold CW;rw[h];simp only[h0,abE,b,c,Wx (show ¬8*s.size<a1+Bh y by omega)]
def JO{C:E N}(h:l.length<many)(b:CW s C many a l=O):Jd s C many a l=none:=by rw[Cp h,b]
def ni(s:Y)(a y:N):BK y+Ar s a (Bh y)<=140:=by
 have:=Cv s a<|Bh y;have b:Bh y<=7:=by unfold Bh;repeat (first|split|omega)
 have:2^Bh y<=2^7:=wg A b;have:BK y<=11:=by unfold BK;repeat (first|split|omega)
 omega
def rC{base cap:N}{e:ν}{a:E M}(h:w.ownsRow base e 1 (K (J ⟨b,0,O⟩) n cap) n a):n<=cap:=by
 obtain⟨_,h|⟨_,_,_,c,_,_,_,_⟩⟩:=h
 .cases h.1
 injection c with d _ f;omega
def rD:M->N
 | K _ n _=>n
 |_=>0
def Hb(g:N)(s:Y)(hs:s.size<=140737488355328)(a:N)(o:M)(k:N)(d7:1<=k)(hk:k<=400)(ha:a<=8*s.size)(w:U)(d7:Up w g s a o)(gs:N)(f0:N->Prop)(d8:¬f0 g)(f1:∀k,f0 k->k<w.heap.size)(C:E N)(hC:C.length=19)(hS:Dg w gs f0 C):
 μ F 258 #[V<|J ⟨g,0,O⟩,V<|J ⟨gs,0,O⟩,I Q k] w λr w'=>Ag (λk=>k=g) w w'/\
  ((∃a' l h cp,Jd s C k a []=J (a',l)/\l.length=k/\r=ε (η #[K (J ⟨h,0,O⟩) k cp,ζ θ])/\Up w' g s a' o/\BG w' h 0 l/\w.heap.size<=h/\k<=cp)\/(Jd s C k a []=O/\r=ε (η #[K O 0 0,ζ ι]))):=by
 obtain⟨i0,c4,c5,c6,c7⟩:=wi KO;have g3:∀d9:U,(Instr.makeSlice 100 (I Q 0)<|I Q (k:Z)).run F d9=.ok (K (J ⟨d9.heap.size,0,O⟩) 0 k) (d9.alloc<|W (madeCells #[I Q 0] k) 3):=by
  intro d9;have d7:=acO (P:=F) d9 100 3 i0 (I Q 0) underlying100 c4 c5 .i64 .i64 0 k A A (by rw[c7];omega) A;rw[c6,ww,abz] at d7;exact d7
 have d9:=d7.lt;have hA:Ag (λ_=>False) w<|w.alloc (W (madeCells #[I Q 0] k) 3):=(Ag.refl _ w).alloc _;have e0:=H (d7.kept hA λa7=>a7);have f2:=H (Ag.oldS (S:=λk=>k=g) hA);have e3:Hid ((w.alloc<|W (madeCells #[I Q 0] k) 3).ownsRow w.heap.size 3 1 (K (J ⟨w.heap.size,0,O⟩) 0 k) 0<|Av []):=World.ownsRow_made w _ k (WF _) (by unfold maxLen;omega) (by rw[acI,abz]);have HS:=H hS;go_in;go_wp2_with fail;refine wp_scope_jumps 0 (λa' w'=>a'.tmps.size=72/\a'.defers=[]/\Ag (λk=>k=g) w w'/\Jd s C k a []=O) (λ_ _=>0) rfl ?_ ?_
 case refine_2=>
  rintro⟨tm,df⟩ w' ⟨d1,e4,hO,e5⟩;simp only at d1 e4;subst e4;have HO:=H hO;have d7:=H e5;go_wp2_with fail;simp only[Exit.jump];refine wI (v:=η #[K O 0 0,ζ ι]) ?_ rfl ⟨HO,.inr ⟨d7,rfl⟩⟩;have e:=results_tmp2 results258 ((tm.setIfInBounds 6<|K O 0 0).setIfInBounds 7<|ζ ι) F w';have e1:((tm.setIfInBounds 6<|Value.slice O 0 0).setIfInBounds 7<|Value.bool ι).getD 6 undef=K O 0 0:=by simp[d1]
  have e2:((tm.setIfInBounds 6<|Value.slice O 0 0).setIfInBounds 7<|Value.bool ι).getD 7 undef=ζ false:=by simp[d1]
  rw[e1,e2] at e;exact e
 go_wp2;go_loopw [8,9,10,11,12] (λh _ _ _ _ wr=>∃(l:E N) (ao:Option Addr) (cap a':N),h=K ao l.length cap/\l.length<=k/\Hid (a'<=8*s.size)/\Hid (wr.ownsRow w.heap.size 3 1 (K ao l.length cap) l.length<|Av l)/\Hid (Up wr g s a' o)/\Hid (Jd s C k a []=Jd s C k a' l)/\Hid (Ag (λk=>k=g) w wr)) λh _ _ _ _ _=>k-rD h
 .exact ⟨[],_,_,a,rfl,Ad,ha,e3,e0,rfl,f2⟩
 obtain⟨l,ao,cap,a',rfl,f3,HA,a0,a5,O2,HO⟩:=hrel;generalize f4:l.length=n at f3 a0;have J4:=H f4;by_cases R:n<k
 .have e6:(n:Z)<k:=A;have d1:=H (Xk g s hs a' o HA gs f0 d8 C A wr (λk hk=>wG (f1 k hk) HO.size) a5 (HS.kept HO λk hk e=>d8 (e ▸ hk)));go_wp2_with fail;apply d1.mono;rintro r w1 ⟨d1,a1,f5,c8,b3⟩;have b5:=H<|HO.trans d1;have c:=H (CA a0 d1 λb hb e=>by have:=Cd a0 b hb;omega);have f9:=H c8;rcases b3 with⟨y,hd,rfl⟩|⟨hd,rfl⟩
  .have g0:y<19:=by have:=(Ih hd).2.2;omega
   have HD:=H hd;have a8:=H<|uZ g s hs a1 o y A f5 w1 c8;have d2:=ni s a1 y;by_cases b4:y=16
   .subst b4;by_cases f6:n=0
    .subst f6;go_wp2_with fail;go_step3
     try simp only[Exit.jump]
     exact⟨rfl,rfl,rfl,b5,by rw[X O2];exact JO (by rw[X J4];exact R)<|Zs HD J4⟩
    have c8:((n:Z)==0)=false:=act;obtain⟨b,e7,d3,_,_⟩:=c.form A;injection d3 with d4 f7 d5;subst d4 d5;have f8:w1.cell? ⟨b,n-1,O⟩=J (I Q (l.getD (l.length-1) 0:N)):=aib;have c8 :(n:Z)-1<(n:Z):=A;have d1:(0:Z)<=(n:Z)-1:=A;have c8:((n:Z)-1).toNat=n-1:=A;have d1:(1:Z)<=(n:Z):=A;have u:Hid<|Gd 16 l=l.getD (l.length-1) 0:=H rfl;generalize l.getD (l.length-1) 0=a7 at f8 u;have z:Hid (¬l.length=0):=(by unfold Hid;rw[X J4];omega);generalize b6:BK 16+Ar s a1 (Bh 16)=t at a8 d2;have i:=H b6;generalize b7:Bh 16=bb at a8;have m:=H b7;go_wp2_with fail;apply a8.mono;rintro r w2 ⟨a9,b3⟩;have T:=H<|b5.trans a9;have d:=H (CA c a9 λb hb e=>by have:=Cd c b hb;omega);rcases b3 with⟨f,a3,rfl⟩|⟨f,a3,nn,rfl⟩
    .have p:=H a3;have O9:=H f;by_cases D:k<n+t
     .exact afj
     have x:¬(k:Z)-n<(t:Z):=A;have v:Hid<|CW s C k a' l=J (a1+bb,l++List.replicate t a7):=by
      have:=Sr (many:=k) HD (λhh=>z hh.2) (by rw[X m];exact O9) i (by rw[X J4];exact D);rw[X u,X m] at this;exact this
     go_wp2;go_loopw [8,64] (λvv a4 wr=>∃(j:N) (a2:Option Addr) (h:N),j<=t/\vv=K a2 (n+j) h/\a4=I Q j/\Hid (wr.ownsRow w.heap.size 3 1 (K a2 (n+j) h) (n+j)<|Av (l++List.replicate j a7))/\Hid (Up wr g s (a1+bb) o)/\Hid (Ag (λk=>k=g) w wr)) λ_ a4 _=>t-(intOf a4).toNat
     .exact ⟨0,J ⟨b,0,O⟩,cap,A,rfl,rfl,(show World.ownsRow _ _ _ _ _ _ _ by simpa using X d),p,T⟩
     obtain⟨j,a2,h,hj,rfl,rfl,a0,a5,HO⟩:=hrel;by_cases e8:j<t
     .have b9:(j:Z)<t:=A;have c0:=H<|Fb (wr:=wr) (n:=(a7:N));have a4:Hid ((wr.alloc<|W #[I Q (a7:N)] 3).ownsRow w.heap.size 3 1 (K a2 (n+j) h) (n+j)<|Av (l++List.replicate j a7)):=a0.alloc _;have c1:Hid<|w.heap.size<=(wr.alloc<|W #[I Q (a7:N)] 3).heap.size:=by have:=HO.size;unfold Hid;simp only[WP];omega
      have G5:=H (a5.kept ((Ag.refl (λ_=>False) wr).alloc<|W #[I Q (a7:N)] 3) λa7=>a7);have HB:=H<|Cd a4;go_wp2_with (at_builtin;refine wpList_append_lies _ rfl (.tmp 66) (.tmp 68) 100 rfl w.heap.size 3 i0 (I Q 0) 1 8 underlying100 c4 c5 c6 c7 rfl A (K a2 (n+j) h) (n+j) _ rfl a4 ⟨wr.heap.size,0,O⟩ 1 1 [I Q (a7:N)] rfl rfl c0 alB A (by unfold maxLen;omega) A c1 _ rfl ?_;intro g2 b0 w3 b1 b2 c2 c9;have J3:=H b1;have J9:=H b2;clear b1 b2 c2);go_roundw
      .refine ⟨j+1,J ⟨g2,0,O⟩,b0,A,by rw[aap],by go_num,?_,?_,?_⟩
       .have e:Av (l++List.replicate (j+1) a7)=Av (l++List.replicate j a7)++[I Q (a7:N)]:=alz;rw[e];exact J3
       .exact agK
       exact afi
      exact Ae
     have b9:¬(j:Z)<t:=A;have c3:j=t:=A;have L:=H c3;have e9:1<=t:=by have:=X i;have hb:0<BK 16:=alC;omega
     have a6:Hid ((l++List.replicate j a7).length=n+j):=(by unfold Hid;rw[Ws,wA,X J4]);go_wp2;go_roundw
     .refine ⟨l++List.replicate j a7,a2,h,a1+bb,by rw[X a6],by rw[X a6];omega,O9,?_,a5,?_,HO⟩
      .rw[X a6];exact a0
      exact ahO
     simp[rD];omega
    exact afp
   have c8:((y:Z)==16)=false:=act
   have z:=H b4;by_cases d0:15<y
   .have d6:(15:Z)<(y:Z):=A;have u:Hid<|Gd y l=0:=(by unfold Hid Gd;rw[Wx b4,Wz d0]);generalize b6:BK y+Ar s a1 (Bh y)=t at a8 d2;have i:=H b6;generalize b7:Bh y=bb at a8;have m:=H b7;go_wp2_with fail;apply a8.mono;rintro r w2 ⟨a9,b3⟩;have T:=H<|b5.trans a9;have d:=H (CA c a9 λb hb e=>by have:=Cd c b hb;omega);rcases b3 with⟨f,a3,rfl⟩|⟨f,a3,nn,rfl⟩
    .have p:=H a3;have O9:=H f;by_cases D:k<n+t
     .exact afj
     have x:¬(k:Z)-n<(t:Z):=A;have v:Hid<|CW s C k a' l=J (a1+bb,l++List.replicate t 0):=aha;go_wp2;go_loopw [8,64] (λc8 d1 wr=>∃(j:N) (a2:Option Addr) (h:N),j<=t/\c8=K a2 (n+j) h/\d1=I Q j/\Hid (wr.ownsRow w.heap.size 3 1 (K a2 (n+j) h) (n+j)<|Av (l++List.replicate j 0))/\Hid (Up wr g s (a1+bb) o)/\Hid (Ag (λk=>k=g) w wr)) λ_ c8 _=>t-(intOf c8).toNat
     .exact aia
     obtain⟨j,a2,h,hj,rfl,rfl,a0,a5,HO⟩:=hrel;by_cases e8:j<t
     .have b9:(j:Z)<t:=A;have c0:=H<|Fb (wr:=wr) (n:=0);have a4:Hid ((wr.alloc<|W #[I Q 0] 3).ownsRow w.heap.size 3 1 (K a2 (n+j) h) (n+j)<|Av (l++List.replicate j 0)):=a0.alloc _;have c1:Hid<|w.heap.size<=(wr.alloc<|W #[I Q 0] 3).heap.size:=by have:=HO.size;unfold Hid;simp only[WP];omega
      have G5:=H (a5.kept ((Ag.refl (λ_=>False) wr).alloc<|W #[I Q 0] 3) λa7=>a7);have HB:=H<|Cd a4;go_wp2_with (at_builtin;refine wpList_append_lies _ rfl (.tmp 66) (.tmp 68) 100 rfl w.heap.size 3 i0 (I Q 0) 1 8 underlying100 c4 c5 c6 c7 rfl A (K a2 (n+j) h) (n+j) _ rfl a4 ⟨wr.heap.size,0,O⟩ 1 1 [I Q 0] rfl rfl c0 alB A (by unfold maxLen;omega) A c1 _ rfl ?_;intro g2 b0 w3 b1 b2 c2 c9;have J3:=H b1;have J9:=H b2;clear b1 b2 c2);go_roundw
      .refine ⟨j+1,J ⟨g2,0,O⟩,b0,A,by rw[aap],by go_num,?_,?_,?_⟩
       .have e:Av (l++List.replicate (j+1) 0)=Av (l++List.replicate j 0)++[I Q 0]:=alz;rw[e];exact J3
       .exact agK
       exact afi
      exact Ae
     have b9:¬(j:Z)<t:=A;have c3:j=t:=A;have L:=H c3;have e9:1<=t:=by have:=X i;have hb:0<BK y:=alC;omega
     have a6:Hid ((l++List.replicate j 0).length=n+j):=(by unfold Hid;rw[Ws,wA,X J4]);go_wp2;go_roundw
     .refine ⟨l++List.replicate j 0,a2,h,a1+bb,by rw[X a6],by rw[X a6];omega,O9,?_,a5,?_,HO⟩
      .rw[X a6];exact a0
      exact ahO
     simp[rD];omega
    exact afp
   have d6:¬(15:Z)<(y:Z):=A;have u:Hid<|Gd y l=y:=by unfold Hid Gd;rw[Wx b4,Wx d0]
   generalize b6:BK y+Ar s a1 (Bh y)=t at a8 d2;have i:=H b6;generalize b7:Bh y=bb at a8;have m:=H b7;go_wp2_with fail;apply a8.mono;rintro r w2 ⟨a9,b3⟩;have T:=H<|b5.trans a9;have d:=H (CA c a9 λb hb e=>by have:=Cd c b hb;omega);rcases b3 with⟨f,a3,rfl⟩|⟨f,a3,nn,rfl⟩
   .have p:=H a3;have O9:=H f;by_cases D:k<n+t
    .exact afj
    have x:¬(k:Z)-n<(t:Z):=A;have v:Hid<|CW s C k a' l=J (a1+bb,l++List.replicate t y):=aha;go_wp2;go_loopw [8,64] (λa3 a8 wr=>∃(j:N) (a2:Option Addr) (h:N),j<=t/\a3=K a2 (n+j) h/\a8=I Q j/\Hid (wr.ownsRow w.heap.size 3 1 (K a2 (n+j) h) (n+j)<|Av (l++List.replicate j y))/\Hid (Up wr g s (a1+bb) o)/\Hid (Ag (λk=>k=g) w wr)) λ_ a3 _=>t-(intOf a3).toNat
    .exact aia
    obtain⟨j,a2,h,hj,rfl,rfl,a0,a5,HO⟩:=hrel;by_cases e8:j<t
    .have b9:(j:Z)<t:=A;have c0:=H<|Fb (wr:=wr) (n:=(y:N));have a4:Hid ((wr.alloc<|W #[I Q (y:N)] 3).ownsRow w.heap.size 3 1 (K a2 (n+j) h) (n+j)<|Av (l++List.replicate j y)):=a0.alloc _;have c1:Hid<|w.heap.size<=(wr.alloc<|W #[I Q (y:N)] 3).heap.size:=by have:=HO.size;unfold Hid;simp only[WP];omega
     have G5:=H (a5.kept ((Ag.refl (λ_=>False) wr).alloc<|W #[I Q (y:N)] 3) λa7=>a7);have HB:=H<|Cd a4;go_wp2_with (at_builtin;refine wpList_append_lies _ rfl (.tmp 66) (.tmp 68) 100 rfl w.heap.size 3 i0 (I Q 0) 1 8 underlying100 c4 c5 c6 c7 rfl A (K a2 (n+j) h) (n+j) _ rfl a4 ⟨wr.heap.size,0,O⟩ 1 1 [I Q (y:N)] rfl rfl c0 alB A (by unfold maxLen;omega) A c1 _ rfl ?_;intro g2 b0 w3 b1 b2 c2 c9;have J3:=H b1;have J9:=H b2;clear b1 b2 c2);go_roundw
     .refine ⟨j+1,J ⟨g2,0,O⟩,b0,A,by rw[aap],by go_num,?_,?_,?_⟩
      .exact ahi
      .exact agK
      exact afi
     exact Ae
    have:¬(j:Z)<t:=A;have c3:j=t:=A;have L:=H c3;have:1<=t:=by have:=X i;have:0<BK y:=alC;omega
    have a6:Hid ((l++List.replicate j y).length=n+j):=(by unfold Hid;rw[Ws,wA,X J4]);go_wp2;go_roundw
    .refine ⟨l++List.replicate j y,a2,h,a1+bb,by rw[X a6],by rw[X a6];omega,O9,?_,a5,?_,HO⟩
     .rw[X a6];exact a0
     exact ahO
    simp[rD];omega
   exact afp
  have HD:=H hd;go_wp2_with fail;go_step3
  try simp only[Exit.jump]
  exact⟨rfl,rfl,rfl,b5,by rw[X O2];exact JO (by rw[X J4];exact R)<|da HD⟩
 have:¬(n:Z)<k:=A;have a7:n=k:=A;obtain⟨b,e7,d3,g4,_⟩:=a0.form A;injection d3 with d4 f7 d5;subst d4 d5;have a2:=H<|BG.ofOwns J4 a0;have m:=H<|Cd a0 b rfl;have h:=H a7;have a3:Hid<|k<=cap:=by have:=rC a0;unfold Hid;omega
 go_wp2_with fail
 try simp only[Exit.jump]
 go_ret2;refine⟨HO,.inl ⟨a',l,b,cap,by rw[X O2];exact Ul (by rw[X J4];omega),by rw[X J4];exact X h,?_,a5,a2,m,a3⟩⟩;rw[<-X h];rfl
def CB{P:Program}{e:Func}{p t:Tmp}{b:ν}(h:e.results= #[.cell p b,.tmp t])(a:φ M)(w:U)(g:N)(c:ν)(cs:φ M)(fr:N×N)(d:TypeDesc)
 (hp:a.getD p undef=V (J ⟨g,0,O⟩))(hg:w.heap[g]? =J (W cs c fr))
 (hu:P.underlying b=J d)(hd:(match d with| .struct _| .array _ _=>θ|_=>ι)=θ)(hi:(P.info? b).map (·.size)=J cs.size):
 (results e a).run P w=.ok (η #[.agg cs,a.getD t undef]) w:=agU
def vc(s:Y)(a:N):Ar s a 14=Ar s a 5+Ar s (a+5) 5*32+Ar s (a+10) 4*1024:=by
 rw[show(14:N)=5+9 from rfl,OT,show(9:N)=5+4 from rfl,OT];have e:a+5+5=a+10:=rfl;rw[e];omega
def jz{a:Type}(x:N)(p q:Bool)(u v:a):(if p=θ/\q=θ/\x≠0 then u else v)=if(Γ (x≠0)&&p&&q)=θ then u else v:=by
 by_cases b:x=0<;>cases p<;>cases q<;>simp[b]
def tU(n:N)(h:n<9223372036854775808):bits .and Q (n:Z) 31=((n%32:N):Z):=by
 have:=DZ n 31 h A;rw[show(31:N)=2^5-1 from rfl,acC] at this;exact this
def yQ(g:N)(c4:g≠1)(s:Y)(hs:s.size<=140737488355328)(a:N)(o:M)(ha:a<=8*s.size)(w:U)(t:DF w)(h:Up w g s a o):
 μ F 194 #[V<|J ⟨g,0,O⟩] w λr w'=>Ag (λk=>k=g) w w'/\
  ((∃a' L D c d,CC s a=J (a',L,D)/\a'<=8*s.size/\L.length<=400/\D.length<=400/\r=ε (η #[.agg #[V<|J ⟨c,0,O⟩,V<|J ⟨d,0,O⟩],ζ θ])/\Up w' g s a' o/\
   Dg w' c (λk=>w.heap.size<=k/\k<w'.heap.size) L/\Dg w' d (λk=>w.heap.size<=k/\k<w'.heap.size) D)\/
   (CC s a=O/\r=ε (η #[.agg #[V O,V O],ζ ι]))):=by
 have q:=h.lt;have hA:Ag (λ_=>False) w<|w.alloc (W #[V O,V O] 166):=(Ag.refl _ w).alloc _;have c5:=H (Ag.oldS (S:=λk=>k=g) hA);have q:=H (t.kept hA λx=>x);have c6:C ((w.alloc<|W #[V O,V O] 166).heap[w.heap.size]? =J (W #[V O,V O] 166 (0,0))):=WD w _;have a8:w.heap.size<(w.alloc<|W #[V O,V O] 166).heap.size:=alA
 have c7:=H (Gf g s hs a o 14 A ha _ (h.kept hA λx=>x));clear t hA h;go_in;go_wp2_with fail;apply c7.mono;rintro r w1 ⟨t,x⟩;have u:=H<|c5.trans t;have a9:=H (q.kept t λe=>c4 e.symm);have b:=H ((t.block w.heap.size a8 A).trans c6);have f0:=wG a8 t.size;clear c7 c5 q c6 a8 t;rcases x with⟨a2,rfl,y⟩|⟨a2,rfl,y⟩
 .rw[vc];have b1:=Cv s a 5;have q:=Cv s (a+5) 5;have t:=Cv s (a+10) 4;have a3:=H a2;have c8:=H y;clear a2 y;generalize c9:Ar s a 5=n1,K4:Ar s (a+5) 5=n2,M5:Ar s (a+10) 4=n3 at*;have b0:=H c9;have b4:=H K4;have b5:=H M5;clear c9 K4 M5;generalize hh:n1+n2*32+n3*1024=q;have t:q<16384:=A;have y:bits .and Q (q:Z) 31=(n1:Z):=by rw[tU q A];omega
  have t:bits .and Q ((q:Z)/32) 31=(n2:Z):=by rw[show(q:Z)/32=((q/32:N):Z) by omega,tU _ A];omega
  have t:(q:Z)/1024=(n3:Z):=A;obtain⟨c,hM⟩:∃c,c=257+n1:=⟨_,rfl⟩;obtain⟨d,hF⟩:∃d,d=1+n2:=⟨_,rfl⟩;have g0:(257:Z)+(n1:Z)=c:=A;have q:(1:Z)+(n2:Z)=d:=A;have t:257<=c:=A;have q:1<=d:=A;have y:c<=288:=by have:2^5=32:=rfl;omega
  have q:d<=32:=by have:2^5=32:=rfl;omega
  have z:=H hM;have a4:=H hF;clear hh hM hF;by_cases t:286<c
  .have q:(286:Z)<(c:Z):=A;have HT:=H (Mu (.inl<|by rw[X b0];have:=X z;omega));exact afq
  have q:¬(286:Z)<(c:Z):=A;by_cases t:30<d
  .have q:(30:Z)<(d:Z):=A;have HT:=H (Mu (.inr<|by rw[X b4];have:=X a4;omega));exact afq
  have q:¬(30:Z)<(d:Z):=A;have t:=H<|rB g c4 s hs (a+14) o (4+n3) A a3 w1 a9 c8;rw[show((4+n3:N):Z)=4+(n3:Z) by omega] at t;go_wp2_with fail;apply t.mono;rintro r w2 ⟨q,x⟩;have d0:=H<|u.trans q;have d1:=H ((q.block w.heap.size f0 A).trans b);have g1:=q.size;clear t q;rcases x with⟨b6,d2,P,gs,rfl,b7⟩|⟨R,rfl⟩
  .have d3:=H b6;have f1:=H d2;have q:=H P;have y:=H b7;have t:=H (Hb g s hs (a+14+3*(4+n3)) o (c+(d)) A A b6 w2 P gs (λk=>w1.heap.size<=k/\k<w2.heap.size) (λh=>by have:=h.1;omega) (λk h=>h.2) _ (Je s (a+14)<|4+n3) b7);rw[show((c+(d):N):Z)=(c:Z)+((d:Z)) by omega] at t;clear b6 d2 P b7;go_wp2_with fail;apply t.mono;rintro r w3 ⟨q,x⟩;have J3:=H<|d0.trans q;have b9:=H ((q.block w.heap.size A A).trans d1);have g2:=q.size;clear t q;rcases x with⟨a',l,T,p,a0,f,rfl,a5,d4,_,_⟩|⟨R,rfl⟩
   .have d5:=H<|VY (Je s (a+14)<|4+n3) a0 d3;have d6:=H a0;have d7:=H a5;have c0:=H d4;have d8:=H f;clear a0 a5 d4 f;have e:∀j,l.getD j 0<=15:=λj=>by
     rcases wM j l.length with h|h
     .rw[Wq,Wv h];exact d5.1 _<|WJ h
     rw[Wq,wj h];exact wH _
    have f:=X d8;have d9:(l.take<|c).length=c:=akY;have e0:(l.drop<|c).length=d:=(by rw[aad];omega);have a6:∀j,(l.take<|c).getD j 0<=15:=λj=>by
     rw[Wq,aab];split
     .have:=e j;rwa [Wq] at this
     exact wH _
    have a7:∀j,(l.drop<|c).getD j 0<=15:=λj=>by
     rw[Wq,abO];have:=e<|c+j;rwa [Wq] at this
    have a1:(l.take<|c).getD 256 0=l.getD 256 0:=by
     rw[Wq,aab,Wz A,Wq]
    have c1:∀m:N,C (μ F 259 #[K (J ⟨T,0,O⟩) (c) p,K (J ⟨T,c,O⟩) (d)<|p-(c)] (w3.drewN m) λr w'=>r=ε (ζ<|Γ (l.getD 256 0≠0)&&Fa (l.take<|c)&&IA (l.drop<|c))/\w'=w3.drewN m):=λm=>by
     have t:=X c0;have q :BG (w3.drewN m) T 0 l:=t;have t:=q.drop<|c;rw[WQ] at t;have:=jx T 0 (c) p (p-(c)) (l.take<|c) (l.drop<|c) A A A a6 a7 (w3.drewN m) (q.take<|c) t;rw[d9,e0,a1] at this;exact this
    have c2:C (CC s a=if(Γ (l.getD 256 0≠0)&&Fa (l.take<|c)&&IA (l.drop<|c))=θ then J (a',l.take<|c,l.drop<|c) else O):=by
     have e1:=X b0;have e2:=X b4;have e3:=X b5;have q:=YD (s:=s) (a:=a) (a':=a') (l:=l) (by have:=X a3;omega) (by rw[e1,e2,<-(X z),<-(X a4)];omega) (by rw[e3];have:=X d3;omega) (by rw[e3];exact f1) (by rw[e1,e2,e3,<-(X z),<-(X a4)];exact d6);rw[e1,<-(X z)] at q;rw[C,q];exact jz _ _ _ _ _
    clear f e;generalize f2:(Γ (l.getD 256 0≠0)&&Fa (l.take<|c)&&IA (l.drop<|c))=bb at c1 c2;clear f2 a1;have e:(c:Z)<=p:=A;have f:(0:Z)<=(c:Z):=A;have e:=ww c;have:(c:Z)<=((c+d:N):Z):=A;have e:c+d-c=d:=A;have f:(c:Z)<=c+(d:Z):=A;have:¬p=c:=A;go_wp2_with fail;cases bb with
    |false=>
     have HT:C<|CC s a=O:=X c2;go_quiet (first|(go_at_call 259;exact(X<|c1 _).mono λ_ _ h=>⟨h.1,_,h.2⟩));have hz:=X b9;exact afr
    |true=>
     have HT:C<|CC s a=J (a',l.take<|c,l.drop<|c):=X c2;go_quiet (first|(go_at_call 259;exact(X<|c1 _).mono λ_ _ h=>⟨h.1,_,h.2⟩));go_wp2_with fail;have e :=UJ T 0 p (l.take c) A a6 (w3.drewN nq).drew (show BG (w3.drewN nq).drew T 0 (l.take c) from c0.take c);have f:=c0.drop c;rw[WQ] at f;have f3:=H f;rw[d9] at e;have e4:=H e;clear e f;refine EP (S:=λ_=>True) (late:=λ_=>θ) B ?_;refine Bx (i:=0) (v:=K (J ⟨T,0,O⟩) (c+d) p) (J 67) rfl rfl B rfl B B (λ_ _ _ h=>h) (.inl ⟨rfl,λ_ _=>by go_simp⟩) ?_;simp only[Act.put,WH,WT,WV];refine Bx (i:=1) (v:=I Q c) (J 68) rfl rfl B rfl B B (λ_ _ _ h=>h) (.inl ⟨rfl,λ_ _=>by go_simp⟩) ?_;simp only[Act.put,WH,WT,WV];refine Bx (i:=2) (v:=K (J ⟨T,0,O⟩) c p) (J 69) rfl rfl B rfl B B (λ_ _ _ h=>h) (.inl ⟨rfl,λ_ _=>by go_simp⟩) ?_;simp only[Act.put,WH,WT,WV];refine Bx (i:=4) (v:=K (J ⟨T,0,O⟩) (c+d) p) (J 71) rfl rfl B rfl B B (λ_ _ _ h=>h) (.inl ⟨rfl,λ_ _=>by go_simp⟩) ?_;simp only[Act.put,WH,WT,WV];refine Bx (i:=5) (v:=I Q c) (J 72) rfl rfl B rfl B B (λ_ _ _ h=>h) (.inl ⟨rfl,λ_ _=>by go_simp⟩) ?_;simp only[Act.put,WH,WT,WV];refine Bx (i:=6) (v:=K (J ⟨T,c,O⟩) d<|p-c) (J 73) rfl rfl B rfl B B (λ_ _ _ h=>h) (.inl ⟨rfl,λ_ _=>by go_simp⟩) ?_;simp only[Act.put,WH,WT,WV];refine Ba (i:=3) B ?_;refine WE rfl λ_ hK=>?_;go_simp;apply e4.mono;rintro r w4 ⟨rfl,j,e5⟩;refine hK _ _ ⟨(λh=>by cases h),?_⟩;clear hK;have:=j.size;have f4:=H (((J3.drewN nq).drew).trans<|Ag.oldS j);have e6:=H (Up.kept (w:=(w3.drewN nq).drew) d7 j λx=>x);have f5:=H ((j.block w.heap.size (show w.heap.size<w3.heap.size by omega) λx=>x).trans b9);have c3:=H (UJ T c (p-c) (l.drop c) A a7 w4 (BG.kept (w:=(w3.drewN nq).drew) f3 j λx=>x));rw[e0] at c3;have e7:=H e5;have d:(w3.drewN nq).drew.heap.size=w3.heap.size:=rfl;clear e5 j e4;refine Ba (i:=7) B ?_;refine WE rfl λ_ hK=>?_;go_simp;apply c3.mono;rintro r w5 ⟨rfl,n,e8⟩;refine hK _ _ ⟨(λh=>by cases h),?_⟩;clear hK;have:=n.size;have f6:=H<|f4.trans (Ag.oldS n);have e9:=H (e6.kept n λx=>x);have hz:=(n.block w.heap.size A λx=>x).trans f5;have f7:=H<|e7.old n;have f8:=H e8;clear e8 n c3 e7;refine Ba (i:=8) B ?_;refine WE rfl λ_ hK=>?_;go_simp;refine hK _ _ ⟨(λh=>by cases h),?_⟩;clear hK;refine Ba (i:=9) B ?_;refine DE rfl rfl<|adx 166 (.tmp 2) (.tmp 75) rfl w.heap.size #[V<|J ⟨w3.heap.size,0,O⟩,V<|J ⟨w4.heap.size,0,O⟩] rfl rfl 166 _ hz BR rfl (EQ _ _) ?_;refine⟨(λh=>by cases h),?_⟩;simp only[Act.put];refine Ba (i:=10) B ?_;refine WE rfl λ_ hK=>?_;go_simp;refine hK _ _ ⟨(λh=>by cases h),?_⟩;clear hK;refine FR B ?_;go_wp2_with fail;refine wI (CB results194 _ _ w.heap.size 166 #[V<|J ⟨w3.heap.size,0,O⟩,V<|J ⟨w4.heap.size,0,O⟩] (0,0) _ rfl (aaa w5 w.heap.size _ _ _ _ hz) underlying166 rfl BR) rfl ⟨?_,.inl ⟨a',l.take c,l.drop c,w3.heap.size,w4.heap.size,HT,d5.2.2.2,A,A,rfl,?_,?_,?_⟩⟩
     .exact f6.setRow _ (λh=>κ h<|aac _) _
     .exact e9.kept ((Ag.refl (λk=>k=w.heap.size) w5).setRow w.heap.size (λ_=>rfl) _) A
     .have c:=(Ag.refl (λk=>k=w.heap.size) w5).setRow w.heap.size (λ_=>rfl) #[V<|J ⟨w3.heap.size,0,O⟩,V<|J ⟨w4.heap.size,0,O⟩];have d:=c.size;exact(f7.kept c λk _ _=>A).mono λk _=>⟨A,A⟩
     have c:=(Ag.refl (λk=>k=w.heap.size) w5).setRow w.heap.size (λ_=>rfl) #[V<|J ⟨w3.heap.size,0,O⟩,V<|J ⟨w4.heap.size,0,O⟩];have:=c.size;exact(f8.kept c λk _ _=>A).mono λk _=>⟨A,A⟩
   have HT:C<|CC s a=O:=by
    have e1:=X b0;have e2:=X b4;have e3:=X b5;exact YC<|by rw[e1,e2,e3,<-(X z),<-(X a4)];exact R
   clear R;have hz:=X b9;go_wp2_with fail;go_quiet (fail);exact afr
  have HT:C<|CC s a=O:=by
   have e3:=X b5;rcases R with h|h
   .exact YB<|by rw[e3];exact h
   exact RN<|by rw[e3];exact h
  clear R;have hz:=X d1;go_wp2_with (refine aal rfl 166 (.tmp 2) (.tmp 44) rfl w.heap.size #[V O,V O] rfl rfl 166 _ hz BR rfl (EQ _ _) ?_);refine wI (CB results194 _ _ w.heap.size 166 _ (0,0) _ rfl (aaa w2 w.heap.size _ _ _ _ hz) underlying166 rfl BR) rfl ⟨?_,.inr ⟨HT,rfl⟩⟩;exact d0.setRow _ (λh=>κ h<|aac _) _
 have hz:=X b;have a3:=H a2;go_wp2_with (refine aal rfl 166 (.tmp 2) (.tmp 18) rfl w.heap.size #[V O,V O] rfl rfl 166 _ hz BR rfl (EQ _ _) ?_);refine wI (CB results194 _ _ w.heap.size 166 _ (0,0) _ rfl (aaa w1 w.heap.size _ _ _ _ hz) underlying166 rfl BR) rfl ⟨?_,.inr ⟨KP a3,rfl⟩⟩;exact u.setRow _ (λh=>κ h<|aac _) _
def strCells(s:Y):E M:=(s.data.map λb=>Value.int .u8 (b.toNat:Z)).toList
def Ed(s:Y):(strCells s).length=s.size:=by rw[strCells,wE,Array.size_map];rfl
def Xm(s:Y):∀u∈strCells s,u.oneCell'=true:=by
 intro u a;simp[strCells] at a;obtain⟨b,_,rfl⟩:=a
 rfl
def Ke{P:Program}(w:U)(a:N)(s:Y):(Builtin.firstCells a s.size<|G s).run P w=.ok (strCells s).toArray w:=by
 simp only[Builtin.firstCells,strCells];rw[adM]
 rfl
def MM{P:Program}(w:U)(t u j e:ν)(i:TypeInfo)(k:P.underlying t=J (.slice e))(l:P.underlying u=J .string)(m:P.info? e=J i)(b:i.size=1)
 (g a c:N)(d:φ M)(n:w.heap[g]? =J (W d e (0,0)))(s:Y)
 (f:a+s.size<=c)(h:a+s.size<=d.size):
 (Builtin.append_ #[t,u] j #[K (J ⟨g,0,O⟩) a c,G s]).run P w=
  .ok (K (J ⟨g,0,O⟩) (a+s.size) c) (w.setRow g (d.toList.take a++strCells s++d.toList.drop (a+(strCells s).length)).toArray):=by
 have h:=Ke (P:=P) w i.size s;have c:=adk P g (a*i.size) e (strCells s) 0 d w n (by rw[b,Ed];omega)<|Xm s;simp only[aaw,b,abz] at c h;simp[Builtin.append_,aaf k,aaf l,sizeOf,typeInfo,m,Builtin.lenOf,f,h,b,we,c]
def MN{P:Program}(w:U)(t u k e:ν)(i:TypeInfo)(z:M)(o:P.underlying t=J (.slice e))(p:P.underlying u=J .string)(q:P.info? e=J i)(r:i.zero=J z)(d:i.size=1)
 (b:Addr)(a c:N)(f:E M)(m:f.length=a)(g:∀j u,f[j]? =J u->w.cell? (b.add j)=J u)(s:Y)
 (h:c<a+s.size)(l:((a+s.size:N):Z)<=9223372036854775807)(h:Builtin.nextslicecap (a+s.size) c*i.bytes<=281474976710656):
 (Builtin.append_ #[t,u] k #[K (J b) a c,G s]).run P w=
  .ok (K (J ⟨w.heap.size,0,O⟩) (a+s.size)<|grownCap w (a+s.size) c e)
   (w.drew.alloc<|W (f.toArray++(strCells s).toArray++Builtin.zeroCells z.cells (grownCap w (a+s.size) c e-(a+s.size))) e):=by
 have v:¬(a+s.size<=c):=A;have h :¬(9223372036854775807<((a:Z)+s.size)):=A;have k :¬(281474976710656<Builtin.nextslicecap (a+s.size) c*i.bytes):=A;have n:=Ke (P:=P) w.drew i.size s;have l:=run_firstCells_some (P:=P) w.drew i.size a b a c f (by rw[d,abz];exact m) (by simpa using g);rw[d] at n l;simp[Builtin.append_,aaf o,aaf p,sizeOf,typeInfo,zeroValue,q,r,Builtin.lenOf,v,h,k,Question.forced,n,l,d,newRow,grownCap];congr 2;apply acl;simp[WG]
def Ss{P:Program}(w:U)(base:N)(t u R e:ν)(i:TypeInfo)(z:M)(S:P.underlying t=J (.slice e))(T:P.underlying u=J .string)(hi:P.info? e=J i)(hz:i.zero=J z)
 (a:i.size=1)(x:i.bytes=1)(a0:z.cells.size=1)(v:M)(n:N)(o:E M)(f:w.ownsRow base e 1 v n o)(s:Y)
 (p:n+s.size<=maxLen)(c:n+s.size<=140737488355328)(q:base<=w.heap.size):
 ∃ao cap w',(Builtin.append_ #[t,u] R #[v,G s]).run P w=.ok (K ao (n+s.size) cap) w'/\w'.ownsRow base e 1 (K ao (n+s.size) cap) (n+s.size) (o++strCells s)/\w.grownBy w' v.ownBlock/\(∀b:Addr,ao=J b->v.ownBlock=J b.block\/b.block=w.heap.size):=by
 have m:o.length=n:=by rw[f.1,abz]
 have d:(o++strCells s).length=(n+s.size)*1:=by rw[Ws,Ed,m,abz]
 have h:∀(c:N),c<n+s.size-> ∀(D:Option N),
  (w.drew.alloc<|W (o.toArray++(strCells s).toArray++Builtin.zeroCells z.cells (grownCap w (n+s.size) c e-(n+s.size))) e).ownsRow base e 1
   (K (J ⟨w.heap.size,0,O⟩) (n+s.size)<|grownCap w (n+s.size) c e) (n+s.size) (o++strCells s)/\
  w.grownBy (w.drew.alloc<|W (o.toArray++(strCells s).toArray++Builtin.zeroCells z.cells (grownCap w (n+s.size) c e-(n+s.size))) e) D:=by
  intro c _ D;have a1:=grownCap_ge w (n+s.size) c e;have r:=grownCap_le_maxLen w (n+s.size) c e p;refine⟨⟨d,.inr ⟨w.heap.size,_,_,rfl,q,heap_alloc_new w.drew _,a1,r,?_,?_⟩⟩,⟨rfl,rfl,rfl,Ad,λ_ c _=>heap_alloc_old w.drew _ c⟩⟩
  .rw[acH,acH,wK,wK,size_zeroCells,a0,m,Ed];omega
  rw[Array.toList_append,Array.toList_append,<-d];exact abn
 rcases f.2 with⟨rfl,rfl⟩|⟨g,cap,L,rfl,a2,hg,_,r,_,j⟩
 .have hx:=wP m;subst hx;by_cases h0:s.size=0
  .have c:=wP (by rw[Ed];exact h0);have hf:=Ke (P:=P) w 1 s;rw[h0,c] at hf;rw[h0,c];refine⟨O,0,w,?_,WZ w base e 1,⟨rfl,rfl,rfl,WF _,λ_ _ _=>rfl⟩,λb hb=>by cases hb⟩;simp[Builtin.append_,aaf S,aaf T,sizeOf,typeInfo,hi,Builtin.lenOf,h0,a,hf]
  have y:=run_append_nil_string (P:=P) w t u R e i z S T hi hz s A (by unfold maxLen at p;omega) (by rw[x];omega);have l:=h 0 A<|Value.ownBlock (K O 0 0);simp only[WQ,aan,Array.empty_append] at l ⊢;exact ain
 by_cases k:n+s.size<=cap
 .have y:=MM (P:=P) w t u R e i S T hi a g n cap L hg s k A;refine⟨_,_,_,y,⟨d,.inr ⟨g,cap,_,rfl,a2,aaa w g L _ e _ hg,k,r,?_,?_⟩⟩,⟨rfl,rfl,rfl,Ad,λk _ c=>ade w g k _ λe=>c<|by simp[Value.ownBlock,e]⟩,λb hb=>by injection hb with hb;subst hb;exact .inl rfl⟩
  .simp only[wK,Ws,hY,aad,wE,Ed];omega
  rw[abz] at j;rw[j,<-d];exact abn
 have c:=f.cells (g:=g) rfl;have y:=MN (P:=P) w t u R e i z S T hi hz a ⟨g,0,O⟩ n cap o m c s A (by unfold maxLen at p;omega) (growslice_fits A<|by rw[x];omega);have l:=h cap A<|Value.ownBlock (K (J ⟨g,0,O⟩) n cap);exact ain
def Cn{P:Program}{ops:φ Oper}{rest:E Oper}{o:Oper}{a:Act}{Q:Exit->Act->U->Prop}(h:o.guard=O)(x y:Operand)(t u:ν)
 (p:o.op=.call {callee:=.builtin .append,args:= #[x,y],argTypes:= #[t,u]})
 (base:N)(e:ν)(i:TypeInfo)(z:M)(q:P.underlying t=J (.slice e))(r:P.underlying u=J .string)(D:P.info? e=J i)(L:i.zero=J z)
 (d:i.size=1)(j:i.bytes=1)(k:z.cells.size=1)(v:M)(n:N)(l:E M)(R:a.eval x=v)(g:w.ownsRow base e 1 v n l)(s:Y)(S:a.eval y=G s)
 (m:n+s.size<=maxLen)(c:n+s.size<=140737488355328)(f:base<=w.heap.size)
 (T:∀ao cap w',w'.ownsRow base e 1 (K ao (n+s.size) cap) (n+s.size) (l++strCells s)->w.grownBy w' v.ownBlock->(∀b:Addr,ao=J b->v.ownBlock=J b.block\/b.block=w.heap.size)->wpList P ops Q rest (a.put o.dst<|K ao (n+s.size) cap) w'):wpList P ops Q (o::rest) a w:=by
 refine acu h λ_ h=>?_
 obtain⟨ao,cap,w',hr,h2,h3,h4⟩:=Ss (P:=P) w base t u o.type e i z q r D L d j k v n l g s m c f;unfold Oper.wp execOp;simp only[p,resolve,invoke,builtin,acd,acJ,abS,ads,aai,aaF,R,S,hr];exact h _ _<|T ao cap w' h2 h3 h4
