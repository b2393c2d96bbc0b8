import Derived.Test.YtfpphfkcaplafaaGreatDoorZam
import Derived.Shelf.Vars
import Derived.ChangeMaps5
import Derived.JoinedCond
import Derived.Lay
import Derived.Test.YtfpphfkcaplafaaGreatDoorZan
set_option linter.all false
set_option maxHeartbeats 64000000
set_option maxRecDepth 100000
open _root_ renaming Option.some->J,Option.none->O,Int->Z,Nat->N,Go.Value.int->I,Go.Value.string->G,Go.IntKind.i64->Q,ByteArray->Y,List->E,Go.World->U,Go.Value.slice->K,Go.Value->M,Go.Obj.cells->W,Go.Value.pointer->V,Go.RowKit.Hid->C,Go.Proofs.Tryz.prog->F,Go.Ending.returned->ε,Go.Value.bool->ζ,Go.Value.tuple->η,Bool.true->θ,Bool.false->ι,absurd->κ,Go.Calls->μ,Go.TypeId->ν,Go.IntKind.u32->σ,UInt8->υ,Array->φ,Decidable.decide->Γ
variable{P S a p rest s:Y}{b c g i n:N}{d j:E (M×Y)}{w w' w1:U}{v:M}{L:E Y}
namespace Go.Proofs.YtfpphfkcaplafaaGreatDoor
open Go.RowKit Go.Maps Go.Proofs.Tryz
def SR.lent{T:E BF}{a:φ M}(c:a.size=(T.length+2)*3)(c:∀q,q<T.length*3->a[q]? =(MQ T)[q]?)(b:∀q,T.length*3<=q->a[q]? =(madeCells #[G ⟨#[]⟩,ζ ι,G ⟨#[]⟩] ((T.length+2)*3))[q]?):SR ((a.setIfInBounds (T.length*3)<|G Kk).setIfInBounds ((T.length+1)*3)<|G Me)<|T++[SS,ST]:=by
 intro i a;rw[Ws] at a;have:i<T.length+2:=a;by_cases a:i<T.length
 .rw[Wq,WW a,<-Wq];obtain⟨f,g,h⟩:=SQ T i a;refine⟨?_,?_,?_⟩
  .rw[WO A,WO A,c _ A];exact f
  .rw[WO A,WO A,c _ A];exact g
  rw[WO A,WO A,c _ A];exact h
 by_cases j:i=T.length
 .subst j;rw[Wq,WU<|WF _,abJ];have d:(T.length*3+1)%3=1:=A;have e:(T.length*3+2)%3=2:=A;refine⟨?_,?_,?_⟩
  .rw[WO A,aak A];rfl
  .rw[WO A,WO A,b _ A,Ow _ _ A,d];rfl
  rw[WO A,WO A,b _ A,Ow _ _ A,e];rfl
 have k:i=T.length+1:=A;subst k;rw[Wq,WU A,abD];have d:((T.length+1)*3+1)%3=1:=A;have e:((T.length+1)*3+2)%3=2:=A;refine⟨?_,?_,?_⟩
 .rw[aak<|by rw[abh];omega];rfl
 .rw[WO A,WO A,b _ A,Ow _ _ A,d];rfl
 rw[WO A,WO A,b _ A,Ow _ _ A,e];rfl
def ae(v:M)(w:U)(h:v=K O 0 0\/ ∃a cap,v=K (J a) 0 cap):μ F 33 #[v] w λr w'=>r=ε (η #[DV,DV])/\w'=w:=by
 obtain⟨b,cap,rfl⟩:∃b cap,v=K b 0 cap:=by
  rcases h with h|⟨a,cap,h⟩
  .exact ⟨_,_,h⟩
  exact⟨_,_,h⟩
 go_in;go_wp2;go_ret2;exact⟨rfl,rfl⟩
def ug(T:E BF)(w w':U)(r:Ending):Prop:=r=ε (η #[K (J ⟨w.heap.size,0,O⟩) T.length<|T.length+2,K (J ⟨w.heap.size,0,O⟩) (T.length+2)<|T.length+2])/\Am w w'/\∃J0,w'.heap[w.heap.size]? =J (W J0 tE (0,0))/\J0.size=(T.length+2)*3/\SR J0 (T++[SS,ST])
def ui(a:Addr)(cap:N)(T:E BF)(c:0<T.length)(i:T.length<=1100000)(w:U)(u:DM w a T):μ F 33 #[K (J a) T.length cap] w λr w'=>ug T w w' r:=by
 obtain⟨v,i,j,k,l⟩:=wi oU;have m:((T.length:Z)+2).toNat=T.length+2:=A;have:∀c:U,(Instr.makeSlice 36 (I Q ((T.length:Z)+2))<|I Q ((T.length:Z)+2)).run F c=.ok (K (J ⟨c.heap.size,0,O⟩) (T.length+2)<|T.length+2) (c.alloc<|W (madeCells #[G ⟨#[]⟩,ζ ι,G ⟨#[]⟩] ((T.length+2)*3)) tE):=by
  intro c;have p:=acO (P:=F) c 36 tE v (.agg #[G ⟨#[]⟩,ζ ι,G ⟨#[]⟩]) underlying36 i j .i64 .i64 ((T.length:Z)+2) ((T.length:Z)+2) A A (by rw[l];omega) A;rw[k,m] at p;exact p
 have x:=WD w<|W (madeCells #[G ⟨#[]⟩,ζ ι,G ⟨#[]⟩] ((T.length+2)*3)) tE;have s:(Am w<|w.alloc (W (madeCells #[G ⟨#[]⟩,ζ ι,G ⟨#[]⟩] ((T.length+2)*3)) tE)):=(Ag.refl _ w).alloc _;have y:=u.old s;have c:T.length*3<=(madeCells #[G ⟨#[]⟩,ζ ι,G ⟨#[]⟩] ((T.length+2)*3)).size:=by rw[acI];omega
 have o:=c;have c:¬(T.length:Z)=0:=A;have:((T.length:Z)==0)=false:=by rw[WA];exact c
 have e:(∀w2 b,w2.heap[w.heap.size]? =J (W b tE (0,0))->b.size=(madeCells #[G ⟨#[]⟩,ζ ι,G ⟨#[]⟩] ((T.length+2)*3)).size->(∀q,q<T.length*3->b[q]? =(MQ T)[q]?)->(∀q,T.length*3<=q->b[q]? =(madeCells #[G ⟨#[]⟩,ζ ι,G ⟨#[]⟩] ((T.length+2)*3))[q]?)->Ag (λi=>i=w.heap.size) (w.alloc<|W (madeCells #[G ⟨#[]⟩,ζ ι,G ⟨#[]⟩] ((T.length+2)*3)) tE) w2->(∃q t,w2.cell? ⟨w.heap.size,T.length*3,O⟩=J q/\w2.cell? ⟨w.heap.size,(T.length+1)*3,O⟩=J t)/\w2.frozen? ⟨w.heap.size,T.length*3,O⟩=ι/\w2.frozen? ⟨w.heap.size,(T.length+1)*3,O⟩=ι/\ug T w ((w2.setCell ⟨w.heap.size,T.length*3,O⟩<|G Kk).setCell ⟨w.heap.size,(T.length+1)*3,O⟩<|G Me) (ε<|η #[K (J ⟨w.heap.size,0,O⟩) T.length<|T.length+2,K (J ⟨w.heap.size,0,O⟩) (T.length+2)<|T.length+2])):=λw2 b hg d f g h=>by
  rw[acI] at d;refine⟨⟨b[T.length*3]'A,b[(T.length+1)*3]'A,?_,?_⟩,WK w2 _ _ _ _ hg,WK w2 _ _ _ _ hg,rfl,?_,_,WL _ _ _ _ _ _<|WL w2 _ _ _ _ _ hg,by simp[d],SR.lent d f g⟩
  .exact aik
  .exact aik
  exact s.transNew ((h.trans<|Aq w2 _ _ _).trans<|Aq _ _ _ _) λ_ _ _=>A
 go_in;go_wp2_with (refine PI rfl (.tmp 13) (.tmp 14) rfl (n:=T.length+2) (c1:=T.length+2) (c2:=cap) (T:=T) (a:=a) rfl rfl x y A o ?_;intro w2 b hg d f g h;obtain⟨⟨q,t,_,_⟩,_,_,c⟩:=e w2 b hg d f g h;have b:=c;clear hg d f g h c);go_ret2;exact b
def ka{T U:E BF}(h:i<T.length):(T++U).getD i AC=T.getD i AC:=by rw[Wq,WW h,<-Wq]
def pc(T:E BF):(T++[SS,ST]).getD T.length AC=SS:=by rw[Wq,WU<|WF _,abJ];rfl
def pe(T:E BF):(T++[SS,ST]).getD (T.length+1) AC=ST:=by rw[Wq,WU A,abD];rfl
def uj{w1 wq:World}{s:WS}{o e:E (M×Y)}(hc:c<=100000000)(w:World)(b2:CI w1 w b c s d o e)(g:N)(l:φ M)(T:E BF)(a:Addr)(cap:N)(hT:T.length<=1100000)(hg:w.heap[g]? =J (W l tE (0,0)))(b0:l.size=(T.length+2)*3)(hE:SR l<|T++[SS,ST])(ht:DM w a T)(a0:wq.heap.size<=g)(a1:w1.heap.size<=g)(hq:∀x,x∈e->Fh wq tE 3 ZU x.1 x.2):
 μ F 35 #[V<|J ⟨b,0,O⟩,K (J ⟨g,0,O⟩) (T.length+2)<|T.length+2,K (J a) T.length cap] w λr w'=>r=ε (ζ θ)/\Kj [wT,SM,9,tE] w w'/\oR w1 w' b (c+1) s.base d o:=by
 have HL:=H b2;have HG:=H hg;have HE:=H hE;have HT:=H ht;have HQ:=H hq;have n:C<|Am w w:=Ag.refl _ w;have t:=(Wt.1 hg).1;have HP:C (∀d,Am w d-> ∀m,oQ wq w1 d tE 3 ZU (J ⟨g,0,O⟩) (T.length+2) m 0):=λd f m=> .inr ⟨g,l,rfl,(f.block g t λx=>x).trans hg,A,a0,a1,λp _=>A⟩
 clear b2 hg hE ht hq a0 a1 b0;go_in;go_wp2;go_loopw [7,9,10] (λd x _ wr=>∃i:N,i<=T.length+2/\x=I Q i/\d=ζ θ/\C (Am w wr)) λ_ x _ _=>T.length+2-(intOf x).toNat
 .exact ⟨0,A,rfl,rfl,n⟩
 clear n;obtain⟨i,_,rfl,rfl,n⟩:=hrel;by_cases P:i<T.length+2
 .have a2:(i:Z)<T.length+2:=A;have:=n.size;have q:C<|Am w (wr.alloc<|W #[G Kk,ζ ι,G ⟨#[]⟩] tE):=n.alloc _;have f:=WD wr<|W #[G Kk,ζ ι,G ⟨#[]⟩] tE;have k0:(wr.alloc<|W #[G Kk,ζ ι,G ⟨#[]⟩] tE).cell? ⟨wr.heap.size,0,O⟩=J (G Kk):=by rw[Wu _ _ 0 _ _ (0,0) f];rfl
  have k1:(wr.alloc<|W #[G Kk,ζ ι,G ⟨#[]⟩] tE).cell? ⟨wr.heap.size,1,O⟩=J (ζ ι):=by rw[Wu _ _ 1 _ _ (0,0) f];rfl
  have k2:(wr.alloc<|W #[G Kk,ζ ι,G ⟨#[]⟩] tE).cell? ⟨wr.heap.size,2,O⟩=J (G ⟨#[]⟩):=by rw[Wu _ _ 2 _ _ (0,0) f];rfl
  have f0:=WK _ wr.heap.size 0 _ _ f;have f1:=WK _ wr.heap.size 1 _ _ f;have f2:=WK _ wr.heap.size 2 _ _ f;by_cases d:i<T.length
  .have a3:(i:Z)<T.length:=A;obtain⟨t1,t2,t3⟩:=HT.old q i d;have h:=H<|ka (U:=[SS,ST]) d;generalize T.getD i AC=S at*;obtain⟨u,v,y⟩:=S;simp only at t1 t2 t3;have j:C<|Am w (wr.alloc<|W #[G u,ζ v,G y] tE):=n.alloc _;obtain⟨z,D,L⟩:=(HE.ents (j.block g t (λx=>x)|>.trans HG)) i (by simpa using P)|>.2
   rw[X h] at z D L;simp only at z D L;have k:=WD wr<|W #[G u,ζ v,G y] tE;have z1:(wr.alloc<|W #[G u,ζ v,G y] tE).cell? ⟨wr.heap.size,0,O⟩=J (G u):=by rw[Wu _ _ 0 _ _ (0,0) k];rfl
   have z2:(wr.alloc<|W #[G u,ζ v,G y] tE).cell? ⟨wr.heap.size,1,O⟩=J (ζ v):=by rw[Wu _ _ 1 _ _ (0,0) k];rfl
   have z3:(wr.alloc<|W #[G u,ζ v,G y] tE).cell? ⟨wr.heap.size,2,O⟩=J (G y):=by rw[Wu _ _ 2 _ _ (0,0) k];rfl
   clear k;clear f q h;go_upto_region 11 with fail;clear k0 k1 k2 f0 f1 f2 t1 t2 t3;generalize(wr.alloc<|W #[G u,ζ v,G y] tE)=WB at*;have a4:=xh u y v;exact agv
  have:¬(i:Z)<T.length:=A;by_cases R:i=T.length
  .have a5:¬(T.length:Z)<i:=A;have h:C ((T++[SS,ST]).getD i AC=SS):=by rw[R];exact pc T
   clear R;have j:=H<|X q;obtain⟨z,D,L⟩:=(HE.ents (j.block g t (λx=>x)|>.trans HG)) i (by simpa using P)|>.2
   rw[X h] at z D L;simp only at z D L;have k:=f;have z1:(wr.alloc<|W #[G Kk,ζ ι,G ⟨#[]⟩] tE).cell? ⟨wr.heap.size,0,O⟩=J (G Kk):=by rw[Wu _ _ 0 _ _ (0,0) k];rfl
   have z2:(wr.alloc<|W #[G Kk,ζ ι,G ⟨#[]⟩] tE).cell? ⟨wr.heap.size,1,O⟩=J (ζ ι):=by rw[Wu _ _ 1 _ _ (0,0) k];rfl
   have z3:(wr.alloc<|W #[G Kk,ζ ι,G ⟨#[]⟩] tE).cell? ⟨wr.heap.size,2,O⟩=J (G ⟨#[]⟩):=by rw[Wu _ _ 2 _ _ (0,0) k];rfl
   clear k;clear f q h;go_upto_region 11 with fail;clear k0 k1 k2 f0 f1 f2;generalize(wr.alloc<|W #[G Kk,ζ ι,G ⟨#[]⟩] tE)=WB at*;have a4:=xh Kk ⟨#[]⟩ ι;exact agv
  have:(T.length:Z)<i:=A;have h:C ((T++[SS,ST]).getD i AC=ST):=by rw[show i=T.length+1 by omega];exact pe T
  clear R;have j:C<|Am w (wr.alloc<|W #[G Me,ζ ι,G ⟨#[]⟩] tE):=n.alloc _;obtain⟨z,D,L⟩:=(HE.ents (j.block g t (λx=>x)|>.trans HG)) i (by simpa using P)|>.2
  rw[X h] at z D L;simp only at z D L;have k:=WD wr<|W #[G Me,ζ ι,G ⟨#[]⟩] tE;have:(wr.alloc<|W #[G Me,ζ ι,G ⟨#[]⟩] tE).cell? ⟨wr.heap.size,0,O⟩=J (G Me):=by rw[Wu _ _ 0 _ _ (0,0) k];rfl
  have:(wr.alloc<|W #[G Me,ζ ι,G ⟨#[]⟩] tE).cell? ⟨wr.heap.size,1,O⟩=J (ζ ι):=by rw[Wu _ _ 1 _ _ (0,0) k];rfl
  have:(wr.alloc<|W #[G Me,ζ ι,G ⟨#[]⟩] tE).cell? ⟨wr.heap.size,2,O⟩=J (G ⟨#[]⟩):=by rw[Wu _ _ 2 _ _ (0,0) k];rfl
  clear k;clear f q h;go_upto_region 11 with fail;clear k0 k1 k2 f0 f1 f2;generalize(wr.alloc<|W #[G Me,ζ ι,G ⟨#[]⟩] tE)=WB at*;have:=xh Me ⟨#[]⟩ ι;exact agv
 have:¬(i:Z)<T.length+2:=A;have a6:=H<|gQ hc wr (HL.old n) (J ⟨g,0,O⟩) (T.length+2) (T.length+2) A (HP wr n) HQ;have a7:C (∀w',Kj [wT,SM,9,tE] wr w'->Kj [wT,SM,9,tE] w w'):=λw' ht=>by
  refine((Ag.oldW n:Ag (λk=>∃l S,w.heap[k]? =J (W l S (0,0))/\S∈[wT,SM,9,tE]) w wr)).transNew ht λk f h=>?_;obtain⟨d,S,e,l⟩:=h;exact⟨d,S,(n.block k f λx=>x).symm.trans e,l⟩
 clear HL HG HE HT HQ HP;go_wp2_with fail;apply a6.mono;rintro r w6 ⟨rfl,a8,d⟩;have a9:=H<|a7 w6 a8;have b1:=H d;clear a8 d a7 a6;go_wp2;go_ret;exact⟨rfl,a9,b1⟩
def af{wq:U}{s:WS}{p:E (M×Y)}(h:c<=100000000)(w:U)(i:CI w1 w b c s j d p)(ao:Option Addr)(cap:N)(k:∀x,x∈p->Fh wq tE 3 ZU x.1 x.2):
 μ F 35 #[V<|J ⟨b,0,O⟩,K O 0 0,K ao 0 cap] w λr w'=>r=ε (ζ θ)/\Kj [wT,SM,9,tE] w w'/\oR w1 w' b (c+1) s.base j d:=by
 have e:=gQ (wq:=wq) h w i O 0 0 A (λ_=> .inl rfl) k;go_in;go_wp2;go_loopw [7,9,10] (λa x _ wr=>x=I Q 0/\a=ζ θ/\wr=w) λ_ _ _ _=>0
 .exact ⟨rfl,rfl,rfl⟩
 obtain⟨rfl,rfl,rfl⟩:=hrel;go_wp2_with fail;apply e.mono;rintro r l ⟨rfl,f,d⟩;have a:=f;have g:=d;go_wp2;go_ret;exact⟨rfl,a,g⟩
def NF(b k:M)(a:E Fl)(o:a.length<=3000000)(w:U)(l:Au w b a)(m:Au w k a):
 μ F 37 #[b,k] w λr w'=>r=ε (ζ θ)/\Am w w':=by
 obtain⟨_,_,rfl⟩:=Dk l;obtain⟨_,_,rfl⟩:=Dk m;have p:=l;have q:=m;have HO:(Am w w):=Ag.refl _ w;go_in;go_wp2;go_loopw [5] (λx wr=>∃i:N,i<=a.length/\x=I Q i/\(Am w wr)) λx _=>a.length-(intOf x).toNat
 .exact ⟨0,A,rfl,HO⟩
 obtain⟨i,_,rfl,HO⟩:=hrel;by_cases b:i<a.length
 .have c:(i:Z)<a.length:=A;obtain⟨_,_,s, -,D,L⟩:=p.cells HO i b;obtain⟨_,_,t, -,v,r2⟩:=q.cells HO i b;injection s with e _ f;injection t with g _ h;subst e f g h;generalize a[i]=x at*;exact agA
 have:¬(i:Z)<a.length:=A;exact aeF
def Rk.form{T:E BF}{r:Ending}(h:Rk T w w' r):∃v u k,r=ε (η #[v,u,I Q k]):=by
 rcases h with⟨_,⟨_,k,_,_,_,_,_,e⟩|⟨_,v,u,_,e,_⟩⟩|⟨_,e⟩
 .exact ⟨_,_,_,e⟩
 .exact ⟨_,_,_,e⟩
 exact⟨_,_,_,e⟩
def Rm{u v' a:M}{k k':Z}(h:Ending.returned (η #[v,u,I Q k])=ε (η #[v',a,I Q k'])):v=v'/\u=a /\k=k':=akb
def ag{s:WS}{h P R:E (M×Y)}(hc:c<=99999990)(w:U)(c7:CI w1 w b c s h P R)(a:Addr)(cap:N)(T:E BF)(R:0<T.length)(hT:T.length<=1100000)(hs:∀e∈T,e.nm.size<=2000000/\e.dt.size<=2000000)(hm:∀h,Ag (λk=>k=b) w1 h->Cf h)(h:∀P,Ag (λk=>k=b) w1 P->DM P a T):
 μ F 16 #[V<|J ⟨b,0,O⟩,K (J a) T.length cap] w λr w'=>r=ε (ζ θ)/\sD w1 w' b (c+3) s.base:=by
 have HL:=c7;have HS:=hs;have HM:=hm;have a6:=h;have P:=ui a cap T R hT w<|h w c7.only;have c8:=c7.rt.2.2;go_in;go_wp2_with fail;apply P.mono;rintro r w2 ⟨rfl,a7,c9,P,a8,R⟩;have h:=HL.old a7;have S:=a7.size;have a9:=(Wt.1 P).1;have a7:=eb w.heap.size (T.length+2) T (λe he=>(HS e he).1) w2 (HM w2 h.only) (R.left.ents P) a9;have d0:=h;have d1:=P;have d2:=R;go_wp2_with fail;apply a7.mono;rintro v w3 ⟨b0,b3⟩;obtain⟨v1,u1,k1,d3⟩:=b3.form;subst d3;have z:=b3;have h:=d0.old b0;have P:=uj (wq:=w) A w3 h w.heap.size c9 T a cap hT ((b0.block w.heap.size a9 λx=>x).trans d1) a8 d2 (a6 w3 h.only) (WF _) HL.only.size c8;go_wp2_with fail;apply P.mono;rintro r w4 ⟨rfl,d4,_,_,h,P⟩;have p:=P;have y:=d4;have d5:=h;go_wp2_with fail;have d6:=a6 _ h.only;have a3:=PH (K (J a) T.length cap) T HS w4 (.inr ⟨a,cap,rfl,d6⟩);apply a3.mono;rintro r2 w5 ⟨I3,X5⟩;obtain⟨v2,u2,k2,d7⟩:=X5.form;subst d7;have h:(∃(fs:E Fl) (lf:E Lf),fs.length<=60/\lf.length<=200/\k2=k1/\Au w5 v1 fs/\Au w5 v2 fs/\BZ w5 u1 lf/\BZ w5 u2 lf/\(∀g,v1.ownBlock=J g->w.heap.size<=g)/\∀g,u1.ownBlock=J g->w.heap.size<=g):=afG;obtain⟨fs,lf,_,_,d8,a4,d9,b4,b5,e0,e3⟩:=h;subst d8;have e4:=d5.old I3;have b6:=a4;have b7:=b4;have b9:=b5;have c0:=e0;have c3:=e3;have a5:=NF v1 v2 fs A w5 a4 d9;obtain⟨e5,e6,e7⟩:=Dk a4;subst e7;obtain⟨c4,c5,e8⟩:=CN b4;obtain⟨_,_,e9⟩:=CN b5;subst e8 e9;go_wp2_with fail;apply a5.mono;rintro r w6 ⟨rfl,a0⟩;have f0:=e4.old a0;have c6:=Au.old b6 a0;have f:=b7.kept a0 λ_ _ x=>x;have t:=b9.kept a0 λ_ _ x=>x;have f3:(Am w6 w6):=Ag.refl _ w6;go_wp2;go_loopw [14,15] (λh x wr=>∃i:N,i<=lf.length/\x=I Q i/\h=ζ θ/\(Am w6 wr)) λ_ x _=>lf.length-(intOf x).toNat
 .exact ⟨0,A,rfl,rfl,f3⟩
 obtain⟨i,_,rfl,rfl,HO⟩:=hrel;by_cases o:i<lf.length
 .exact afa
 have:¬(i:Z)<lf.length:=A;have h:=Ov (wq:=w) A wr (f0.old HO) e5 fs.length e6 A (AK fs) (Au.old c6 HO) (λg e=>⟨c0 g e,WI HL.only.size<|c0 g e⟩) HL.rf.2.2;have f4:(wr.ownsRow 0 tL 2 (K c4 lf.length c5) lf.length<|Cu lf):=f.kept HO λ_ _ x=>x;go_wp2_with fail;apply h.mono;rintro r w7 ⟨rfl,f5,_,_,h,m⟩;have d:=gR (wq:=w) A w7 h c4 lf.length c5 A (Cu lf) (f5 _ _ _ f4) (λg e=>⟨c3 g e,WI HL.only.size<|c3 g e⟩) HL.rl.2.2;exact afZ
def Qs{s:WS}{h P R:E (M×Y)}(hc:c<=99999990)(w:U)(c3:CI w1 w b c s h P R)(ao:Option Addr)(cap:N)(a5:Md w1 (K ao 0 cap) []):
 μ F 16 #[V<|J ⟨b,0,O⟩,K ao 0 cap] w λr w'=>r=ε (ζ θ)/\sD w1 w' b (c+3) s.base:=by
 have HL:=c3;have hz:∀a6,Md a6 (K ao 0 cap) []:=λa6=>by
  rcases a5 with⟨e,_⟩|⟨a,cp,e,_⟩
  .exact .inl ⟨e,rfl⟩
  exact .inr ⟨a,cp,e,λi hi=>by cases hi⟩
 have c4:=λ(a6:U) (_:Ag (λk=>k=b) w1 a6)=>hz a6
 have H1:=(ae (K ao 0 cap) w (by
  rcases a5 with⟨e,_⟩|⟨a,cp,e,_⟩
  .exact .inl e
  exact .inr ⟨a,cp,e⟩))
 have c5:=c3.rt.2.2;have S:(w.heap.size<=w.heap.size):=WF _;go_in;go_wp2_with fail;apply H1.mono;rintro r w2 ⟨rfl,rfl⟩;have h:=sB w2;go_wp2_with fail;apply h.mono;rintro v w3 ⟨c6,a7⟩;obtain⟨v1,u1,k1,c7⟩:=a7.form;subst c7;have z:=a7;have h:=af (wq:=w2) A w3 (HL.old c6) ao cap c5;go_wp2_with fail;apply h.mono;rintro r w4 ⟨rfl,c8,_,_,h,P⟩;have p:=P;have y:=c8;have c9:=h;go_wp2_with fail;have d0:=c4 _ h.only;have a0:=PH (K ao 0 cap) [] (λ_ c3=>by cases c3) w4 d0;apply a0.mono;rintro r2 w5 ⟨I3,X5⟩;obtain⟨v2,u2,k2,d1⟩:=X5.form;subst d1;have h:(∃(fs:E Fl) (lf:E Lf),fs.length<=60/\lf.length<=200/\k2=k1/\Au w5 v1 fs/\Au w5 v2 fs/\BZ w5 u1 lf/\BZ w5 u2 lf/\(∀g,v1.ownBlock=J g->w2.heap.size<=g)/\∀g,u1.ownBlock=J g->w2.heap.size<=g):=afG;obtain⟨fs,lf,_,_,d2,a3,d3,a8,a9,d4,d5⟩:=h;subst d2;have d6:=c9.old I3;have b0:=a3;have b3:=a8;have b4:=a9;have b5:=d4;have b6:=d5;have a4:=NF v1 v2 fs A w5 a3 d3;obtain⟨d7,d8,d9⟩:=Dk a3;subst d9;obtain⟨b7,b9,e0⟩:=CN a8;obtain⟨_,_,e3⟩:=CN a9;subst e0 e3;go_wp2_with fail;apply a4.mono;rintro r w6 ⟨rfl,T⟩;have e4:=d6.old T;have c0:=Au.old b0 T;have f:=b3.kept T λ_ _ x=>x;have t:=b4.kept T λ_ _ x=>x;have e5:(Am w6 w6):=Ag.refl _ w6;go_wp2;go_loopw [14,15] (λh x wr=>∃i:N,i<=lf.length/\x=I Q i/\h=ζ θ/\(Am w6 wr)) λ_ x _=>lf.length-(intOf x).toNat
 .exact ⟨0,A,rfl,rfl,e5⟩
 obtain⟨i,hi,rfl,rfl,HO⟩:=hrel;by_cases o:i<lf.length
 .exact afa
 have:¬(i:Z)<lf.length:=A;have h:=Ov (wq:=w2) A wr (e4.old HO) d7 fs.length d8 A (AK fs) (Au.old c0 HO) (λg e=>⟨b5 g e,WI HL.only.size<|b5 g e⟩) HL.rf.2.2;have e6:(wr.ownsRow 0 tL 2 (K b7 lf.length b9) lf.length<|Cu lf):=f.kept HO λ_ _ x=>x;go_wp2_with fail;apply h.mono;rintro r w7 ⟨rfl,e7,_,_,h,m⟩;have d:=gR (wq:=w2) A w7 h b7 lf.length b9 A (Cu lf) (e7 _ _ _ e6) (λg e=>⟨b6 g e,WI HL.only.size<|b6 g e⟩) HL.rl.2.2;exact afZ
def ke(k a c:Z)(f:k<=0)(s t:Y)(d f:M)(b:N)(w:U):
 μ F 6 #[V<|J ⟨b,0,O⟩,.agg<|Ci k a c s t d f] w λe w'=>e=ε (ζ θ)/\Am w w':=by
 have:(k==1)=false:=act
 have:(k==2)=false:=act
 have:(k==3)=false:=act
 have:(k==4)=false:=act
 have:(k==5)=false:=act
 have:(k==6)=false:=act
 have:(k==7)=false:=act
 have:(k==8)=false:=act
 have:(k==9)=false:=act
 have:(k==10)=false:=act
 have:(k==11)=false:=act
 have:(k==12)=false:=act
 have:(k==13)=false:=act
 have:(k==14)=false:=act
 unfold Ci;go_in;go_wp2;go_ret;exact⟨rfl,(Ag.refl _ w).alloc _⟩
def kh(a c:Z)(s t:Y)(y:s.size<=140737488355328)(g h:M)(b:N)(w:U)(n:MO w):
 μ F 6 #[V<|J ⟨b,0,O⟩,.agg<|Ci 2 a c s t g h] w λe w'=>e=ε (ζ θ)/\Am w w':=by
 have i:s.size<=maxLen:=by unfold maxLen;omega
 have z:=H λf j=>Ps s y f j;have k:=H λf=>MZ s f y;have o:=H λf=>QD s f i;have p:=H λf=>Gi s f i;generalize CY s=d at z k
 have q:C (EH (w.alloc (.cells (Ci 2 a c s t g h) 41)) w.heap.size 41 7 λj=>(Ci 2 a c s t g h).getD j undef):=EH.new w _ _ 7 _ alF (λj _=>by
  have:j=0\/j=1\/j=2\/j=3\/j=4\/j=5\/j=6:=A;rcases this with rfl|rfl|rfl|rfl|rfl|rfl|rfl<;>rfl)
 have r:=H<|n.old ((Ag.refl _ w).alloc (.cells (Ci 2 a c s t g h) 41));have u:C<|Am w (w.alloc (.cells (Ci 2 a c s t g h) 41)):=(Ag.refl _ w).alloc _;unfold Ci at*;go_in;go_wp2_with fail;generalize w.alloc (.cells #[I Q 2,I Q a,I Q c,G s,G t,g,h] 41)=W at*;apply(z _ r).mono;rintro e f ⟨rfl,j⟩;have v:=H<|Ag.trans u j;have l:=H<|q.old j;have:f.cell? ⟨w.heap.size,3,O⟩=J (G s):=l.cell 3 A;go_wp2_with fail;apply(k _).mono;rintro e D ⟨rfl,m⟩;have x:=H<|Ag.trans v m;have:D.cell? ⟨w.heap.size,3,O⟩=J (G s):=(l.old m).cell 3 A;go_wp2_with (first
  |(go_at_call 10;refine(o _).mono ?_;rintro e L ⟨rfl,rfl⟩)
  |(go_at_call 11;refine(p _).mono ?_;rintro e L ⟨rfl,rfl⟩))
 go_ret;exact⟨rfl,x⟩
def ah(a c:Z)(s t:Y)(v:s.size<=140737488355328)(f g:M)(b:N)(w:U)(y:DF w):
 μ F 6 #[V<|J ⟨b,0,O⟩,.agg<|Ci 3 a c s t f g] w λe w'=>e=ε (ζ θ)/\Am w w':=by
 have l:C (EH (w.alloc<|W (Ci 3 a c s t f g) 41) w.heap.size 41 7 λj=>(Ci 3 a c s t f g).getD j undef):=EH.new w _ _ 7 _ alF (λj _=>by
  have:j=0\/j=1\/j=2\/j=3\/j=4\/j=5\/j=6:=A;rcases this with rfl|rfl|rfl|rfl|rfl|rfl|rfl<;>rfl)
 have h:=H<|y.old ((Ag.refl _ w).alloc<|W (Ci 3 a c s t f g) 41);have d:C<|Am w (w.alloc<|W (Ci 3 a c s t f g) 41):=(Ag.refl _ w).alloc _;have z:=H λw1 i=>Ok s v w1 i;have j:=H λw1=>EE s v w1;unfold Ci at*;by_cases x:a=7
 .subst x;go_in;go_wp2_with fail;generalize w.alloc (W #[I Q 3,I Q 7,I Q c,G s,G t,f,g] 41)=k at*;apply(j k).mono;rintro e w1 ⟨D,q⟩;have u:=H<|Ag.trans d q;have j:=H<|l.old q;have i:=H<|h.old q;have l:w1.cell? ⟨w.heap.size,2,O⟩=J (I Q c):=j.cell 2 A;obtain⟨p,n,rfl,L⟩:∃(p:Y) (n:Z),e=ε (η #[G p,I Q n])/\p.size<=1000000:=by
   rcases D with⟨_,rfl⟩|⟨_,rfl⟩
   .exact ⟨_,0,rfl,by have:=(Jn s).1;omega⟩
   exact⟨_,1,rfl,Ac⟩
  have j:=H λk=>TP p L c k;go_wp2_with fail;apply(j w1).mono;rintro e P ⟨R,rfl,_,j⟩;have m:=H<|Ag.trans u j;have l:=H<|Ok R A P (i.old j);go_wp2_with fail;apply l.mono;rintro e T ⟨rfl,o⟩;have r:=H<|Ag.trans m o;go_wp2;go_ret;exact⟨rfl,r⟩
 have:(a==7)=false:=by rw[WA];exact x
 go_in;go_wp2_with fail;generalize w.alloc (W #[I Q 3,I Q a,I Q c,G s,G t,f,g] 41)=k at*;apply(z _ h).mono;exact akM
def ey(a c:Z)(s t:Y)(h:s.size<=140737488355328)(f g:M)(b:N)(w:U):
 μ F 6 #[V<|J ⟨b,0,O⟩,.agg<|Ci 4 a c s t f g] w λe w'=>e=ε (ζ θ)/\Am w w':=by
 have d:C<|Am w (w.alloc (.cells (Ci 4 a c s t f g) 41)):=(Ag.refl _ w).alloc _;have i:=H λw1=>Xr s h w1;unfold Ci at*;go_in;go_wp2_with fail;generalize w.alloc (.cells #[I Q 4,I Q a,I Q c,G s,G t,f,g] 41)=W at*;apply(i W).mono;exact akM
def ki{S:WS}{p:E (M×Y)}(a c:Z)(s t:Y)(g i:M)(w:U)(h:CI w1 w b n S j d p):
 μ F 6 #[V<|J ⟨b,0,O⟩,.agg<|Ci 1 a c s t g i] w λe w'=>e=ε (ζ θ)/\∃S',CI w1 w' b n S' j d p/\S'={S with m:=s,v:=t}:=by
 have:=h.inb;have:w.cell? ⟨b,0,O⟩=J (G S.m):=by rw[Wu w b 0 _ _ (0,0) h.hp];rfl
 have:w.cell? ⟨b,1,O⟩=J (G S.v):=by rw[Wu w b 1 _ _ (0,0) h.hp];rfl
 have:=WK w b 0 _ _ h.hp;have:=WK w b 1 _ _ h.hp;have f:C (∀o:Obj,CI w1 (((w.setCell ⟨b,0,O⟩<|G s).setCell ⟨b,1,O⟩<|G t).alloc o) b n {S with m:=s,v:=t} j d p):=λo=>by
  have d:=WL w b 0 _ _ (G s) h.hp;have g:=WL _ b 1 _ _ (G t) d;exact(h.rec_ (s':={S with m:=s,v:=t}) ((Aq w b 0 _).trans<|Aq _ b 1 _) g (WF _) rfl rfl rfl rfl rfl rfl).old ((Ag.refl _ _).alloc o)
 unfold Ci;go_in;go_wp2;go_ret;exact⟨rfl,_,f _,rfl⟩
def eA{S:WS}{p q:E (M×Y)}(i:n<=99999990)(a c:Z)(s t:Y)(x u:M)(w:U)(v:CI w1 w b n S j p q)(T:E BF)(y:T.length<=1100000)(z:∀e∈T,e.nm.size<=2000000/\e.dt.size<=2000000)(D:∀W,Ag (λk=>k=b) w1 W->Cf W)(l:∀W,Ag (λk=>k=b) w1 W->Md W x T):
 μ F 6 #[V<|J ⟨b,0,O⟩,.agg<|Ci 5 a c s t x u] w λe w'=>e=ε (ζ θ)/\sD w1 w' b (n+3) S.base:=by
 have L:C (∀W,CI w1 W b n S j p q->μ F 16 #[V<|J ⟨b,0,O⟩,x] W λr w'=>r=ε (ζ θ)/\sD w1 w' b (n+3) S.base):=λW g=>by
  by_cases h0:T=[]
  .subst h0;rcases l w1 (Ag.refl _ _) with⟨e,_⟩|⟨f,d,e,P⟩
   .rw[e];exact Qs i W g O 0 (.inl ⟨rfl,rfl⟩)
   rw[e];exact Qs i W g (J f) d (.inr ⟨f,d,rfl,P⟩)
  have h:0<T.length:=by cases T with|nil=>exact κ rfl h0|cons _ _=>simp
  obtain⟨f,d,e⟩:∃f d,x=K (J f) T.length d:=aii;have j:∀W,Ag (λk=>k=b) w1 W->DM W f T:=λW g=>agP
  rw[e];exact ag i W g f d T h y z D j
 have m:=H<|v.old ((Ag.refl _ w).alloc (.cells (Ci 5 a c s t x u) 41));unfold Ci at*;go_in;go_wp2_with fail;apply(L _ m).mono;rintro e R ⟨rfl,r⟩;have HX:=H r;exact aeX
def Fr(w:U):Prop:=gj w/\Cf w
def Fr.old(h:Fr w)(a:Am w w'):Fr w':=⟨h.1.old a,h.2.old a⟩
def QN(P:U->Prop)(x:M):Prop:= ∃T:E BF,T.length<=1100000/\(∀e∈T,e.nm.size<=2000000/\e.dt.size<=2000000)/\∀W,P W->Md W x T
abbrev pg:Y:=⟨#[109,111,100,117,108,101,32,109,46,120,47,121]⟩
abbrev Hy:Y:=⟨#[97,47,98,46,103,111]⟩
abbrev Hz:Y:=⟨#[97,97,97,97,97,97,97,97,97,97,97,97,97,97,97,97,97,97,97,97,97,97,97,97,97,97,97,97,97,97,97,97,97,97,97,97,97,97,97,97]⟩
abbrev uk:E BF:=[⟨Fy,ι,pg⟩,⟨Hy,ι,Hz⟩,⟨⟨#[108]⟩,θ,⟨#[]⟩⟩]
def Ln(P:U->Prop):QN P DU:=⟨[],Ad,(λ_ h=>by cases h),λ_ _=> .inl ⟨rfl,rfl⟩⟩
def ph{b:U}(a:b.heap[g]? =J (W #[G Fy,ζ ι,G pg,G Hy,ζ ι,G Hz,G ⟨#[108]⟩,ζ θ,G ⟨#[]⟩] tE (0,0))):DM b ⟨g,0,O⟩ uk:=by
 intro i c;have hi3:i<3:=c
 match i,hi3 with
 |0,_=>exact⟨by rw[we,Wu b g _ _ _ (0,0) a];rfl,by rw[we,Wu b g _ _ _ (0,0) a];rfl,by rw[we,Wu b g _ _ _ (0,0) a];rfl⟩
 |1,_=>exact⟨by rw[we,Wu b g _ _ _ (0,0) a];rfl,by rw[we,Wu b g _ _ _ (0,0) a];rfl,by rw[we,Wu b g _ _ _ (0,0) a];rfl⟩
 |2,_=>exact⟨by rw[we,Wu b g _ _ _ (0,0) a];rfl,by rw[we,Wu b g _ _ _ (0,0) a];rfl,by rw[we,Wu b g _ _ _ (0,0) a];rfl⟩
def CI.start{c:U}{s:WS}(i:c.heap[b]? =J (W (s.cs 0) wT (0,0)))(j:s.r5=DV)(g:s.r6=DV)(l:s.r7=DV)(h:s.r8=DV)(m:s.r9=DV)(f:s.r10=DV)(n:s.z=c):CI c c b 0 s [] [] []:=by
 have d:∀r:M,r=DV-> ∀k,r.ownBlock=J k->False:=λr e k a=>by rw[e] at a;cases a
 refine⟨Ag.refl _ _,(Wt.1 i).1,i,by rw[j,g];exact JF.nil _ _ _ _ _,by rw[l,h];exact JF.nil _ _ _ _ _,by rw[m,f];exact JF.nil _ _ _ _ _,?_,λk a=>(d _ g k a).elim,λk a=>(d _ g k a).elim,λk a=>(d _ h k a).elim,Ad,λk _ e _ c=>by rw[n] at c;exact c⟩;rintro r (e|e|e|e|e|e) k a
 .exact (d r (e.trans j) k a).elim
 .exact (d r (e.trans g) k a).elim
 .exact (d r (e.trans l) k a).elim
 .exact (d r (e.trans h) k a).elim
 .exact (d r (e.trans m) k a).elim
 exact(d r (e.trans f) k a).elim
open Go.ChangeShapes Go.WideShapes Go.ChangeAt Go.RowKit Go.Proofs.Tryz
def Wm:prog.cellsOf 41=7:=B
def Hk:prog.cellsOf 3=1:=B
def xw:prog.cellsOf 9=1:=B
def zv:prog.cellsOf 36=1:=B
open Go.ChangeShapes Go.WideShapes Go.ChangeAt Go.RowKit Go.Proofs.Tryz
def uy{b:U}(h:b.ShapedOpen F):Cf b:=
 cell_of_shapedOpen_int (zero:= #[I Q 0]) (t:=3) h (wn B) B rfl B B underlying3
open Go.ChangeShapes Go.WideShapes Go.ChangeAt Go.RowKit _root_.Go.Proofs.YtfpphfkcaplafaaGreatDoor.Rows Go.Proofs.Tryz
def pi{H:Type}(d:DataW H):1<=uptoBulk d:=by
 cases d with
 |lit l=>cases l<;>simp[uptoBulk]
 |_=>simp[uptoBulk]
def Ga{H:Type}{d:DataW H}:∀{l:E (DataW H)},d∈l->uptoBulk d<=uptoBulkAll l
 |x::r,h=>by
  rw[uptoBulkAll];rcases wD.1 h with rfl|h
  .omega
  have:=Ga h;omega
def OA{H:Type}:∀(l:E<|DataW H),l.length<=uptoBulkAll l
 |[]=>by simp[uptoBulkAll]
 |x::r=>by
  have:=OA r;have:=pi x;rw[uptoBulkAll,wu];omega
def Hl:prog.cellsOf 35=3:=B
def zw:prog.cellsOf 4=1:=B
def xz{H:Type}{enc:ν×M->H}{c:U}{cs:E M}{d:DataW H}{p:E MemPlace}{a:N->Bool}{f:Bool}(hl:cs.length=3)
 (l:DataW.trod enc F c 0 a f b 35 cs=J (d,p)):
 ∃e:BF,cs=[G e.nm,ζ e.ln,G e.dt]/\e.nm.size<=uptoBulk d/\e.dt.size<=uptoBulk d:=by
 obtain⟨xs,n,rfl,g,_,hn,a⟩:=adT underlying35 l
 match cs,hl,xs,hn with
 |[v0,v1,v2],_,[y0,y1,y2],_=>
  have b:=a 0 _ rfl;have c:=a 1 _ rfl;have f:=a 2 _ rfl;simp[xw,zw] at b c f;obtain⟨m,h,o,_⟩:=ack underlying9 b;obtain⟨q,i,_⟩:=DataW.trod_bool underlying4 c;obtain⟨r,j,t,_⟩:=ack underlying9 f;simp at h i j;subst h i j;simp only[abL] at g;have k:∀s:Y,s.size=s.data.toList.length:=λs=>Lib.size_eq s
  refine⟨⟨m,q,r⟩,rfl,?_,?_⟩
  .rw[g.1,o,k];simp[uptoBulk,uptoBulkAll];omega
  rw[g.1,t,k];simp[uptoBulk,uptoBulkAll];omega
def sH{H:Type}{enc:ν×M->H}{h:U}{d:DataW H}{p:E MemPlace}{j:N->Bool}{k:Bool}
 (s:DataW.trod enc F h 0 j k g 36 [v]=J (d,p))(hb:uptoBulk d<=1048576):
 v.oneCell'=θ/\∃T:E BF,T.length<=1100000/\(∀e∈T,e.nm.size<=2000000/\e.dt.size<=2000000)/\Md h v T:=by
 rcases Go.Deep.open_slice underlying36 s with⟨o,_⟩|⟨a,len,t,m,n,D,_,o,_,_,_,u,y,q⟩
 .simp at o;subst o;exact⟨rfl,[],Ad,(λ_ s=>by cases s),.inl ⟨rfl,rfl⟩⟩
 simp at o;subst o;simp only[abL] at y;have x:=y.1;have g:len<=1048576:=agI;have c:∀i,i<len-> ∃e:BF,(∀j,j<3->h.cell? ((a.add<|i*3).add j)=([G e.nm,ζ e.ln,G e.dt]:E M)[j]?)/\e.nm.size<=2000000/\e.dt.size<=2000000:=λi hi=>by
  have g:i<m:=by rw[u];split<;>omega
  obtain⟨_,h1,z⟩:=q i g;rw[Hl] at h1;obtain⟨_,w,b⟩:=adU h1;obtain⟨e,rfl,_,_⟩:=xz w z;exact akN
 let f:N->BF:=λi=>if hi:i<len then Classical.choose (c i hi) else AC
 have hf:∀i (hi:i<len),(∀j,j<3->h.cell? ((a.add<|i*3).add j)=([G (f i).nm,ζ (f i).ln,G (f i).dt]:E M)[j]?)/\(f i).nm.size<=2000000/\(f i).dt.size<=2000000:=λi hi=>aid
 have r:∀i,i<len->((List.range len).map f).getD i AC=f i:=λi hi=>by rw[Wq];simp[hi]
 refine⟨rfl,(List.range len).map f,by simp;omega,λe he=>?_,.inr ⟨a,t,Ad,λi hi=>?_⟩⟩
 .exact ajU
 have g:i<len:=by simpa using hi
 obtain⟨o,_⟩:=hf i g;rw[r i g];have g:=o 0 A;have h:=o 1 A;have j:=o 2 A;rw[abp] at h j;exact⟨by rw[aby,aaw] at g;exact g,h,j⟩
end Go.Proofs.YtfpphfkcaplafaaGreatDoor
namespace Go.Proofs.YtfpphfkcaplafaaGreatDoor
open Go.ChangeShapes Go.WideShapes Go.ChangeAt Go.RowKit Go.Proofs.Tryz
def Yf{H:Type}{enc:ν×M->H}{a:Assume}{C:Checked}{os:Os}{f:FuncId}{l:Func}{s:OpenSpec}{k:(H:Type)->E (DataW H)->Bool}(hk:s.cond=J k){m:Stop.Interp}{d:E PathCond}{b g c h:Bool}{X:U->φ M->Prop}
 (hX:∀(w w':U) (args:φ M),w.heap=w'.heap->X w args->X w' args)
 (own:ownKnob C.prog.godebug=O)(q:os.Started)(u:C.prog.inits.idxOf? f=O)(R:C.prog.funcs[f]? =J l)
 (r:∃(w:U) (n:Tape) (i:Input),w.os=os/\(w.forCall n i).Shaped C.prog/\i.vars=[]/\Input.okWide C.prog (w.forCall n i) .any w.heap.size f i/\
  ((s.pre enc C.prog l d b (w.forCall n i).memory i.args/\X (w.forCall n i).memory i.args)/\sizedMet enc C.prog l s b (w.forCall n i).memory i.args)/\a.holds C.prog (lone (Frame.enter C.prog f i.args .normal) []<|w.forCall n i))
 (p:∀(x:U) (base:N) (args:φ M) (L P:E<|DataW H) (o:E MemPlace),
  (∀(j:N) t v,l.params[j]? =J t->args[j]? =J v->Value.okWide C.prog x .any base t v)->
  DataW.Whole enc C.prog l.params.toList s.vars b x args.toList L P o->k H (L++P)=θ->X x args->x.ShapedOpen C.prog->
  μ C.prog f args x λe W'=>∃v,e=ε v/\(s.at m).post enc C.prog l b g c h x args v W'):
 ReturnsInHanded a C os f .any (λw args=>(s.pre enc C.prog l d b w args/\X w args)/\sizedMet enc C.prog l s b w args) ((s.at m).post enc C.prog l b g c h):=by
 refine returnsInHanded_of_calls own q u r ?_;intro w n i _ S _ c y _;obtain⟨_,_,_,T,z,_,_,_,_,D⟩:=c;obtain rfl:T =l:=WX<|z.symm.trans R;obtain⟨⟨c,h⟩,_⟩:=y;obtain⟨L,P,o,l,_,g⟩:=(OpenSpec.pre_some hk d b _ _).1 c;refine(p (w.forCall n i) w.heap.size i.args L P o D (DataW.Whole.of_heap (w':=w.forCall n i) (by rfl) l) g (hX _ _ _ (by rfl) h) S).mono λe W' ⟨v,he,hp⟩=>?_
 subst he;exact ChangeSpec.post_blind hp
def VJ{H:Type}{enc:ν×M->H}{C:Checked}{os:Os}{f:FuncId}{l:Func}{s:OpenSpec}{k:(H:Type)->E (DataW H)->Bool}(j:s.cond=J k){e:Bool}{X:U->φ M->Prop}(modest:Bool)(w0:U)(args:φ M)(b:N)(d:w0.os=os)
 (g:(w0.forCall (λ_ _=>0) ⟨#[],args,[]⟩).Shaped C.prog)
 (c:Input.okWideB C.prog (w0.forCall (λ_ _=>0) ⟨#[],args,[]⟩) f ⟨#[],args,[]⟩=θ)
 (a:(match DataW.whole enc C.prog (w0.forCall (λ_ _=>0) ⟨#[],args,[]⟩).memory l.params.toList s.vars e args.toList b with|some x=>k H (x.1++x.2.1)|none=>ι)=θ)
 (h:s.bare.sizedB enc C.prog l e (w0.forCall (λ_ _=>0) ⟨#[],args,[]⟩).memory args b=θ)
 (m:X (w0.forCall (λ_ _=>0) ⟨#[],args,[]⟩).memory args):
 ∃(w:U) (tape:Tape) (i:Input),w.os=os/\(w.forCall tape i).Shaped C.prog/\i.vars=[]/\Input.okWide C.prog (w.forCall tape i) .any w.heap.size f i/\
  ((s.pre enc C.prog l [] e (w.forCall tape i).memory i.args/\X (w.forCall tape i).memory i.args)/\sizedMet enc C.prog l s e (w.forCall tape i).memory i.args)/\({modest:=modest}:Assume).holds C.prog (lone (Frame.enter C.prog f i.args .normal) []<|w.forCall tape i):=by
 split at a
 .rename_i x b;refine⟨w0,λ_ _=>0,⟨#[],args,[]⟩,d,g,(Input.okWide_of_okWideB (base:=0) c).1,(Input.okWide_of_okWideB c).2,⟨⟨(OpenSpec.pre_some j [] e _ _).2 ⟨x.1,x.2.1,x.2.2,DataW.Whole_of_whole b,rfl,a⟩,m⟩,sizedMet_of_sizedB h⟩,?_⟩;simp only[Assume.holds];exact⟨Ad,Ad,λ_=>Modest.zero,Ad,Ad⟩
 cases a
end Go.Proofs.YtfpphfkcaplafaaGreatDoor
namespace Go.Proofs.YtfpphfkcaplafaaGreatDoor.dk
open Go.RowKit Go.Proofs.Tryz
def sI(P:Y):Th:=⟨P,θ,⟨#[]⟩⟩
def TY(P fo:Y):Th:=⟨Dn P fo,θ,⟨#[]⟩⟩
def kj(P:Y)(f:Fl):Th:=⟨Dn P f.1,ι,f.2⟩
def Er(P:Y)(L:E Y)(fs:E Fl):E Th:=sI P::(L.map (TY P)++fs.map (kj P))
structure Go (D:AX):Prop where
 ok:TX 0 D
 nev:ep D
 room:D.room<0
structure QO (P:Y) (D:AX):Prop where
 go:Go D
 vp:Vp<|bl P
 size:P.size<=200
 up:∃u,AE P=J u/\(bl u=[]\/ ∃x∈D.ts,x.p=u/\x.f=θ)
 none:∀x∈D.ts,¬Wi (bl x.p) (bl P)
structure Wr (D0:AX) (P:Y) (L:E Y) (fs:E Fl) (D:AX):Prop where
 go:Go D
 perm:D.ts.Perm<|Er P L fs++D0.ts
 nod:L.Nodup
 fol:∀fo∈L,Vp (bl fo)/\fo.size<=80
 clo:∀fo∈L,∀(g:Y) (r:E υ),bl fo=bl g++47::r->g∈L
def Rn{a:E Fl}{x:Th}(h:x∈Er P L a):Wi (bl x.p)<|bl P:=by
 rcases wD.1 h with rfl|h
 .exact Wi.refl _
 rcases WY.1 h with h|h
 .obtain ⟨b,_,rfl⟩:=wd.1 h;exact pb P b
 obtain⟨f,_,rfl⟩:=wd.1 h;exact pb P f.1
def Wr.mem{a D:AX}{c:E Fl}(h:Wr a P L c D){x:Th}:x∈D.ts↔x∈Er P L c\/x∈a.ts:=by rw[h.perm.mem_iff,WY]
def Wr.top{a D:AX}{c:E Fl}(h:Wr a P L c D):sI P∈D.ts:=h.mem.2 (.inl<|aaO ..)
def Wr.has{a D:AX}{c:E Fl}(h:Wr a P L c D){a:Y}(b:a∈L):TY P a∈D.ts:=h.mem.2 (.inl<|wQ _ (List.mem_append_left _<|wd.2 ⟨a,b,rfl⟩))
def Wr.len{a D:AX}{c:E Fl}(h:Wr a P L c D):D.ts.length=1+L.length+c.length+a.ts.length:=by
 rw[h.perm.length_eq];simp[Er];omega
def Wr.free{d D:AX}{c:E Fl}(h:Wr d P L c D)(g:QO P d)(i:a∉L)(j:∀f∈c,f.1≠a):∀x∈D.ts,x.p≠Dn P a:=by
 intro x hx e;rcases h.mem.1 hx with hx|hx
 .rcases wD.1 hx with rfl|hx
  .exact ev P a e.symm
  rcases WY.1 hx with hx|hx
  .obtain ⟨k,b,rfl⟩:=wd.1 hx;exact i (Oz (show Dn P k=Dn P a from e) ▸ b)
  obtain⟨f,b,rfl⟩:=wd.1 hx;exact j f b (Oz (show Dn P f.1=Dn P a from e))
 exact g.none x hx<|by rw[e];exact pb P a
def zt.done{D a :AX}{t:Th}{r:Z}(h:zt 0 D t r a)(b:Go D):r=0/\a.ts.Perm (t::D.ts)/\Go a :=by
 have c:r=0:=by
  apply Decidable.byContradiction;intro e;rcases h.why e with a|⟨-,a, -⟩
  .have d:=(h.nev b.nev).2;rw[a] at d;cases d
  have:=b.room;omega
 exact⟨c,h.yes c,h.ok,h.nev b.nev,h.room b.room⟩
def Wr.start{a:AX}(b:QO P a)(c:a.ts.length<100000000000):(Bz a P).1=0/\Wr a P [] [] (Bz a P).2:=by
 obtain⟨_,a,d⟩:=b.up;have:=b.size;obtain⟨e,f,g⟩:=(PK b.go.ok a d (λx a d=>b.none x a<|by rw[d];exact Wi.refl _) c A).done b.go;exact⟨e,g,f,List.nodup_nil,λi h=>akU,λi h=>by cases h⟩
def Wr.up{d D:AX}{c:E Fl}(h:Wr d P L c D)(i:QO P d)(j:Vp<|bl a)(k:∀(g:Y) (r:E υ),bl a=bl g++47::r->g∈L):∃u,AE (Dn P a)=J u/\(bl u=[]\/ ∃x∈D.ts,x.p=u/\x.f=θ):=by
 rcases oZ i.vp j with⟨-,b⟩|⟨e,r,b, -,l⟩
 .exact ⟨P,b,.inr ⟨sI P,h.top,rfl,rfl⟩⟩
 exact⟨_,l,.inr ⟨TY P e,h.has<|k e r b,rfl,rfl⟩⟩
def Wr.folder{d D:AX}{e:E Fl}(h:Wr d P L e D)(j:QO P d)(n:D.ts.length<100000000000){c:Y}(k:Vp<|bl c)(o:c.size<=80)(l:c∉L)(p:∀f∈e,f.1≠c)(m:∀(g:Y) (r:E υ),bl c=bl g++47::r->g∈L):
 (Bz D<|Dn P c).1=0/\Wr d P (L++[c]) e (Bz D<|Dn P c).2:=by
 obtain⟨_,q,s⟩:=h.up j k m;have:=j.size;obtain⟨t,u,v⟩:=(PK h.go.ok q s (h.free j l p) n<|by rw[Et];omega).done h.go;refine⟨t,v,?_,?_,?_,?_⟩
 .refine u.trans ((List.Perm.cons _ h.perm).trans ?_);show(TY P c::(sI P::(L.map (TY P)++e.map (kj P))++d.ts)).Perm (sI P::((L++[c]).map (TY P)++e.map (kj P))++d.ts);rw[wV,aai,aaF,WG];simp only[abx,WG,aan];refine(List.Perm.swap _ _ _).trans (List.Perm.cons _ ?_);exact List.perm_middle.symm
 .rw[List.nodup_append];exact⟨h.nod,Ad,λa d b c i=>l<|by rw[WN] at c;rw[<-c,<-i];exact d⟩
 .intro x hx;rcases WY.1 hx with hx|hx
  .exact h.fol x hx
  rw[WN] at hx;subst hx;exact⟨k,o⟩
 intro x hx g r i;rcases WY.1 hx with hx|hx
 .exact List.mem_append_left _<|h.clo x hx g r i
 rw[WN] at hx;subst hx;exact List.mem_append_left _<|m g r i
def Wr.file{a D:AX}{c:E Fl}(h:Wr a P L c D)(b:QO P a)(e:D.ts.length<100000000000)(f:Fl)(i:Vp<|bl f.1)(k:f.1.size<=80)(j:f.1∉L)(k:∀g∈c,g.1≠f.1)(l:∀(g:Y) (r:E υ),bl f.1=bl g++47::r->g∈L):
 (BX D (Dn P f.1) f.2).1=0/\Wr a P L (c++[f]) (BX D (Dn P f.1) f.2).2:=by
 obtain⟨_,m,n⟩:=h.up b i l;have:=b.size;obtain⟨i,l,o⟩:=(Vh (d:=f.2) h.go.ok m n (h.free b j k) e<|by rw[Et];omega).done h.go;refine⟨i,o,?_,h.nod,h.fol,h.clo⟩;refine l.trans ((List.Perm.cons _ h.perm).trans ?_);show(kj P f::(sI P::(L.map (TY P)++c.map (kj P))++a.ts)).Perm (sI P::(L.map (TY P)++(c++[f]).map (kj P))++a.ts);rw[wV,aai,aaF];simp only[abx,WG,aan];refine(List.Perm.swap _ _ _).trans (List.Perm.cons _ ?_);rw[<-WG,<-WG];exact List.perm_middle.symm
def Gm:Ki L s=θ↔s∈L:=by
 unfold Ki;rw[wJ];constructor
 .rintro ⟨x,a,h⟩;have:x=s:=akW
  rw[<-this];exact a
 intro h;exact⟨s,h,Ad⟩
def CV(L:E Y):E Y->E Y
 |[]=>L
 |x::r=>CV (if Ki L x=θ then L else L++[x]) r
def ai:∀(l L r:E Y),CV L (l++r)=CV (CV L l) r
 |[],_,_=>rfl
 |x::l,L,r=>by rw[abx,CV,ai l _ r,CV]
def PM(L l:E Y)(x:Y):CV L (l++[x])=if Ki (CV L l) x=θ then CV L l else CV L l++[x]:=by
 rw[ai];rfl
def Gs:∀(l L:E Y) (x:Y),x∈CV L l↔x∈L\/x∈l
 |[],_,x=>by simp[CV]
 |y::l,L,x=>by
  rw[CV,Gs l];split
  .rename_i a;constructor
   .rintro (h|h)
    .exact .inl h
    exact .inr<|wQ _ h
   rintro(h|h)
   .exact .inl h
   rcases wD.1 h with rfl|h
   .exact .inl<|Gm.1 a
   exact .inr h
  rw[WY,WN,wD,or_assoc]
def EW:∀(l L:E Y),(CV L l).length<=L.length+l.length
 |[],_=>by simp[CV]
 |y::l,L=>by
  rw[CV];have:=EW l (if Ki L y=θ then L else L++[y]);refine WI this ?_;split<;>simp<;>omega
def SZ(s:Y)(i:N):As s i=47↔(bl s)[i]? =J 47:=by
 by_cases h:i<s.size
 .rw[Sd s i h,abT];unfold As;rw[<-Mw];simp[h]
 rw[wj alm];unfold As;simp[h]
def OB(c:n<=s.size):a∈Bf s n↔ ∃r,bl s=bl a++47::r/\a.size<n:=by
 unfold Bf;rw[wd];constructor
 .rintro ⟨i,b,rfl⟩;obtain⟨c,d⟩:=aaZ.1 b;have e:=wh.1 c;have b:=(SZ s i).1 (by simpa using d);have e:i<(bl s).length:=alm
  refine⟨(bl s).drop<|i+1,?_,?_⟩
  .rw[FD];have:(bl s)[i]=47:=by rw[Wv e] at b;exact WX b
   rw[<-this,<-wN e,aau]
  rw[<-Bi,FD,hY];omega
 rintro⟨r,c,d⟩;refine⟨a.size,aaZ.2 ⟨wh.2 d,?_⟩,?_⟩
 .have:As s a.size=47:=(SZ s _).2 (by rw[c,<-Bi];simp);simp[this]
 apply Dx;rw[FD,c,<-Bi,abn]
def FF:a∈Bf s s.size↔ ∃r,bl s=bl a++47::r:=by
 rw[OB<|WF _];constructor
 .rintro ⟨r,h, -⟩;exact⟨r,h⟩
 rintro⟨r,h⟩;refine⟨r,h,?_⟩;have:=hJ List.length h;rw[Bi,Ws,wu,Bi] at this;omega
open Go.RowKit Go.Proofs.Tryz
def Qt:∀(c ts:E Th),Qq ts->c.Pairwise (λa b=>a.p≠b.p)->(∀u∈c,∀t∈ts,t.p≠u.p)->Qq (GF ts c)/\(GF ts c).Perm (c++ts)
 |[],ts,h,_,_=>⟨h,adF _⟩
 |u::r,ts,h,i,f=>by
  obtain⟨e,c⟩:=List.pairwise_cons.1 i;have d:=KE ts u;have i:=h.ins (t:=u) λx g=>f u (aaO ..) x g;obtain⟨j,k⟩:=Qt r (ins ts u) i c (λy g t ht=>by
   rcases wD.1 (d.mem_iff.1 ht) with rfl|ht
   .exact e y g
   exact f y (wQ _ g) t ht)
  refine⟨j,k.trans ((List.Perm.append_left r d).trans ?_)⟩;exact List.perm_middle
def Ta{Q:Y}{t:Th}(h:t.p=Dn S a):(JL S Q t).p=Dn Q a:=by
 apply Dx;show bl (Q++t.p.extract S.size t.p.size)=_;rw[Np,Se,h,DA,DA,<-Bi S,List.drop_left]
def aj{Q:Y}{t:Th}(h:t.p=S):(JL S Q t).p=Q:=by
 apply Dx;show bl (Q++t.p.extract S.size t.p.size)=_;rw[Np,Se,h,<-Bi S,List.drop_length,wS]
def eB(S Q:Y)(L:E Y)(e:E Fl):(Er S L e).map (JL S Q)=Er Q L e:=by
 have c:∀{a b:Th},a.p=b.p->a.f=b.f->a.d=b.d->a=b:=by intro a b f _ g;cases a;cases b;simp_all
 unfold Er;rw[aai,wV,List.map_map,List.map_map];congr 1
 .exact c (aj rfl) rfl rfl
 congr 1
 .refine acw λ_ _=>c (Ta rfl) rfl rfl
 refine acw λ_ _=>c (Ta rfl) rfl rfl
structure zT (L:E Y) (fs:E Fl):Prop where
 vp:∀f∈fs,Vp (bl f.1)/\f.1.size<=80
 dif:fs.Pairwise λa b=>a.1≠b.1
 notL:∀f∈fs,f.1∉L
 has:∀f∈fs,∀(g:Y) (r:E υ),bl f.1=bl g++47::r->g∈L
def eC{c:E Fl}(i:L.Nodup)(h:zT L c):(Er P L c).Pairwise (λa b=>a.p≠b.p):=by
 refine List.pairwise_cons.2 ⟨λx hx=>?_,aao.2 ⟨abr.2 (i.imp λ{a b} c e=>c<|Oz e),abr.2 (h.dif.imp λ{a b} c e=>c<|Oz e),λx hx _ j=>?_⟩⟩
 .rcases WY.1 hx with hx|hx
  .obtain ⟨g,_,rfl⟩:=wd.1 hx;exact(ev P g).symm
  obtain⟨f,_,rfl⟩:=wd.1 hx;exact(ev P f.1).symm
 obtain⟨g,d,rfl⟩:=wd.1 hx;obtain⟨f,k,rfl⟩:=wd.1 j;intro e;have c:=Oz e;exact h.notL f k (c ▸ d)
def sJ{d D:AX}{Q:Y}{c:E Fl}(o:QO Q d)(q:Wr d P L c D)(j:zT L c):∀t∈Er Q L c,∃u,AE t.p=J u/\(bl u=[]\/ ∃x∈Er Q L c++d.ts,x.p=u/\x.f=θ):=by
 have k:∀b∈L,TY Q b∈Er Q L c++d.ts:=λb j=>List.mem_append_left _<|wQ _ (List.mem_append_left _<|wd.2 ⟨b,j,rfl⟩)
 have e:sI Q∈Er Q L c++d.ts:=List.mem_append_left _<|aaO ..;have f:∀a:Y,Vp (bl a)->(∀(g:Y) (r:E υ),bl a=bl g++47::r->g∈L)-> ∃u,AE (Dn Q a)=J u/\(bl u=[]\/ ∃x∈Er Q L c++d.ts,x.p=u/\x.f=θ):=λa h i=>by
  rcases oZ o.vp h with⟨-,h⟩|⟨b,r,h, -,l⟩
  .exact ⟨Q,h,.inr ⟨sI Q,e,rfl,rfl⟩⟩
  exact⟨_,l,.inr ⟨TY Q b,k b<|i b r h,rfl,rfl⟩⟩
 intro t ht;rcases wD.1 ht with rfl|ht
 .obtain ⟨u,c,m⟩:=o.up;refine⟨u,c,?_⟩;rcases m with m|⟨x,c,h,l⟩
  .exact .inl m
  exact .inr ⟨x,List.mem_append_right _ c,h,l⟩
 rcases WY.1 ht with ht|ht
 .obtain ⟨b,i,rfl⟩:=wd.1 ht;exact f b (q.fol b i).1<|q.clo b i
 obtain⟨n,i,rfl⟩:=wd.1 ht;exact f n.1 (j.vp n i).1<|j.has n i
def km{d D:AX}{Q:Y}{c:E Fl}(hS:QO S d)(i:QO Q d)(o:¬Wi (bl S) (bl Q))(n:¬Wi (bl Q) (bl S))(h:Wr d S L c D)(q:zT L c):
 (En D S Q).1=0/\Wr d Q L c (En D S Q).2:=by
 have j:=h.go.ok.wf.srt;have r:∀{x:E υ},Wi x (bl S)->¬Wi x (bl Q):=λhx e=>by
  rcases Wi.comp hx e with h3|h3
  .exact o h3
  exact n h3
 have s:∀x∈D.ts,¬Wi (bl x.p) (bl Q):=λx hx e=>by
  rcases h.mem.1 hx with hx|hx
  .exact r (Rn hx) e
  exact i.none x hx e
 have o:∀x∈D.ts,x.p≠Q:=λx hx g=>s x hx<|by rw[g];exact Wi.refl _
 have k:Dw D.ts Q=0:=by
  obtain⟨u,l,v⟩:=i.up;refine XJ j l ?_ o;rcases v with v|⟨x,hx,e,m⟩
  .exact .inl v
  exact .inr ⟨x,h.mem.2 (.inr hx),e,m⟩
 have w:(BW D.ts S==0)=false:=by
  rw[WA];intro g;exact KF j g _ h.top rfl
 have y:Bp Q S=false:=by
  cases g:Bp Q S
  .rfl
  exact κ ((BT _ _).1 g) n
 have z:(Er S L c).filter (λt=>Bp t.p S)=Er S L c:=List.filter_eq_self.2 λx hx=>(BT _ _).2<|Rn hx
 have P:(Er S L c).filter (λt=> !Bp t.p S)=[]:=List.filter_eq_nil_iff.2 λx hx=>by rw[(BT _ _).2<|Rn hx];simp
 have R:d.ts.filter (λt=>Bp t.p S)=[]:=List.filter_eq_nil_iff.2 λx hx=>by
  intro g;exact hS.none x hx ((BT _ _).1 g)
 have T:d.ts.filter (λt=> !Bp t.p S)=d.ts:=List.filter_eq_self.2 λx hx=>by
  cases g:Bp x.p S
  .rfl
  exact κ ((BT _ _).1 g)<|hS.none x hx
 have n:(Dq D.ts S Q).Perm<|Er Q L c:=by
  have e:=(h.perm.filter λt=>Bp t.p S).map<|JL S Q;rw[aaL,z,R,wS,eB] at e;exact e
 have r:(Ec D.ts S).Perm d.ts:=by
  have e:=h.perm.filter λt=> !Bp t.p S;rw[aaL,P,T,aan] at e;exact e
 have o:(Dq D.ts S Q).Pairwise (λa b=>a.p≠b.p):=(n.pairwise_iff λ{a b} h=>Ne.symm h).2<|eC h.nod q;obtain⟨p1,s⟩:=Qt (Dq D.ts S Q) (Ec D.ts S) (j.sublist List.filter_sublist) o (λu l t ht g=>by
  have h5:=i.none t<|r.mem_iff.1 ht;rw[g] at h5;exact h5<|Rn (n.mem_iff.1 l))
 have f:(GF (Ec D.ts S)<|Dq D.ts S Q).Perm<|Er Q L c++d.ts:=s.trans<|List.Perm.append n r;have d:=i.size;unfold En;rw[Wz<|FA h.go.nev,Wx (by rw[w];simp),Wz (by rw[k];rfl),Wx<|by rw[y];simp];refine⟨rfl,⟨⟨⟨p1,λt ht=>?_⟩,?_,λt ht=>?_,.inl h.go.room,Fi h.go.ok.left,h.go.ok.cap⟩,?_,h.go.room⟩,f,h.nod,h.fol,h.clo⟩
 .rcases WY.1 (f.mem_iff.1 ht) with ht|ht
  .obtain ⟨u,l,e⟩:=sJ i h q t ht;refine⟨u,l,?_⟩;rcases e with e|⟨x,hx,e,m⟩
   .exact .inl e
   exact .inr ⟨x,f.mem_iff.2 hx,e,m⟩
  obtain⟨u,l,e⟩:=i.go.ok.wf.up t ht;refine⟨u,l,?_⟩;rcases e with e|⟨x,hx,e,m⟩
  .exact .inl e
  exact .inr ⟨x,f.mem_iff.2<|List.mem_append_right _ hx,e,m⟩
 .show (GF (Ec D.ts S)<|Dq D.ts S Q).length<=100000000000;rw[f.length_eq,Ws];have e:=h.perm.length_eq;have m:=h.go.ok.len;have h5:(Er Q L c).length=(Er S L c).length:=by simp[Er]
  rw[Ws] at e;omega
 .rcases WY.1 (f.mem_iff.1 ht) with ht|ht
  .rcases wD.1 ht with rfl|ht
   .show Q.size<=_;omega
   rcases WY.1 ht with ht|ht
   .obtain ⟨fo,a0,rfl⟩:=wd.1 ht;have:=(h.fol fo a0).2;show(Dn Q fo).size<=_;rw[Et];omega
   obtain⟨a2,a1,rfl⟩:=wd.1 ht;have:=(q.vp a2 a1).2;show(Dn Q a2.1).size<=_;rw[Et];omega
  exact i.go.ok.sz t ht
 have:=DI h.go.nev;exact⟨this.1,this.2⟩
def Wr.ts_eq{a d D b:AX}{c:E Fl}(h:Wr a P L c D)(k:Wr d P L c b)(e:a.ts=d.ts):D.ts=b.ts:=
 gU h.go.ok.wf.srt k.go.ok.wf.srt (h.perm.trans<|by rw[e];exact k.perm.symm)
def Ll.ts{C:N}{D a :AX}(h:Ll C D p θ a)(d:Qq D.ts):a.ts=Ec D.ts p:=by
 refine sG h.ok.wf.srt (d.sublist List.filter_sublist) λx=>?_
 unfold Ec;rw[aaZ];constructor
 .intro b;refine⟨h.sub.subset b,?_⟩;cases e:Bp x.p p
  .rfl
  exact κ ((BT _ _).1 e)<|h.yes rfl x b
 rintro⟨a,c⟩;refine h.keep x a λa=>?_;rw[(BT _ _).2 a] at c;cases c
def Ll.go{D a :AX}(h:Ll 0 D p θ a)(b:Go D):Go a :=⟨h.ok,h.nev b.nev,h.room b.room⟩
def Go.step{D:AX}(h:Go D):Go<|stepped D:=⟨h.ok.step,DI h.nev,h.room⟩
def zx(ts:E Th)(p:Y):E Th:=if Dw ts p=0 then ins ts ⟨p,θ,⟨#[]⟩⟩ else ts
def wrT(ts:E Th)(p d:Y):E Th:=if Dw ts p=0 then ins ts ⟨p,ι,d⟩ else ts
def yk(ts:E Th)(p:Y):E Th:=if Ji ts p=θ/\Qc ts p=ι then ts.take (JJ ts p)++ts.drop (JJ ts p+1) else ts
def Go.mkdir{D:AX}(h:Go D)(p:Y)(b:D.ts.length<100000000000)(c:p.size<=100000000000):Go (Bz D p).2/\(Bz D p).2.ts=zx D.ts p:=by
 by_cases a:Dw D.ts p=0
 .obtain ⟨_,d,e,f⟩:=Vj h.ok.wf.srt a;obtain⟨-, -,g⟩:=(PK h.ok d e f b c).done h;refine⟨g,?_⟩;unfold Bz zx;rw[Wz<|FA h.nev,a];rfl
 have e:Bz D p=(Dw D.ts p,stepped D):=by
  unfold Bz;rw[Wz<|FA h.nev];exact Wx<|by simpa using a
 rw[e];exact⟨h.step,by unfold zx;rw[Wx a];rfl⟩
def Go.write{D:AX}(h:Go D)(p d:Y)(b:D.ts.length<100000000000)(c:p.size<=100000000000):Go (BX D p d).2/\(BX D p d).2.ts=wrT D.ts p d:=by
 by_cases a:Dw D.ts p=0
 .obtain ⟨_,e,f,g⟩:=Vj h.ok.wf.srt a;obtain⟨-, -,i⟩:=(Vh (d:=d) h.ok e f g b c).done h;refine⟨i,?_⟩;unfold BX wrT;rw[Wz<|FA h.nev,a,Wz h.room];rfl
 have e:BX D p d=(Dw D.ts p,stepped D):=by
  unfold BX;rw[Wz<|FA h.nev];exact Wx<|by simpa using a
 rw[e];exact⟨h.step,by unfold wrT;rw[Wx a];rfl⟩
def Go.remove{D:AX}(h:Go D)(p:Y):Go (Bs D p).2/\(Bs D p).2.ts=yk D.ts p:=by
 have e:=FA h.nev;cases b:Ji D.ts p with
 |false=>
  have a:(Bs D p).2=stepped D:=by unfold Bs;rw[Wz e,b];rfl
  rw[a];exact⟨h.step,by unfold yk;rw[b,Wx Ad];rfl⟩
 |true=>
  cases c:Qc D.ts p with
  |true=>
   have a:(Bs D p).2=stepped D:=by unfold Bs;rw[Wz e,b,c];rfl
   rw[a];exact⟨h.step,by unfold yk;rw[b,c,Wx Ad];rfl⟩
  |false=>
   obtain⟨t,g,d⟩:=MD (ts:=D.ts) (q:=p) (by unfold BW;rw[b,Wz rfl];split<;>omega);have i:∀x∈D.ts,Wi (bl x.p) (bl t.p)->x.p=t.p:=λx j f=>by
    rw[d] at f ⊢;unfold Qc at c;rw[aar] at c;have a:=c x j;unfold cC at a;rw[(BT _ _).2 f,Bool.and_true] at a;apply Dx;have:x.p.toList=p.toList:=by simpa using a
    rwa [ByteArray.toList_eq,ByteArray.toList_eq] at this
   have a:=SV h.ok g i;rw[d] at a;refine⟨⟨a.ok,a.nev h.nev,a.room h.room⟩,?_⟩;unfold Bs yk;rw[Wz e,b,c];rfl
end Go.Proofs.YtfpphfkcaplafaaGreatDoor.dk
namespace Go.Proofs.YtfpphfkcaplafaaGreatDoor
open Go.RowKit Go.Maps Go.Proofs.Tryz
def An(l:E υ):Y:=⟨l.toArray⟩
def AG(l:E υ):(An l).size=l.length:=by show l.toArray.size=_;rw[wK]
def AF(l m:E υ):An l++An m=An (l++m):=by
 apply aaj;apply acl;simp[An,aaE]
def ME(s:Y):An (sL s)=s:=by
 apply aaj;apply acl;simp[An,sL]
def Ro(l:E υ):sL (An l)=l:=by simp[An,sL]
def Jx(p s:Y):Option<|It×Y:=
 if s.size<30 then O
 else if s.size<30+BV s 26 2+BV s 18 4 then O
 else if Lib.hasPrefix (s.extract 30<|30+BV s 26 2).data.toList p.data.toList=ι then O
 else if BV s 8 2≠0/\BV s 8 2≠8 then O
 else J (⟨⟨(Lib.trimPrefix (s.extract 30<|30+BV s 26 2).data.toList p.data.toList).toArray⟩,BV s 8 2,BV s 14 4,BV s 22 4,s.extract (30+BV s 26 2)<|30+BV s 26 2+BV s 18 4⟩,s.extract (30+BV s 26 2+BV s 18 4) s.size)
def eD{a:It}{b:Y}(h:Jx p s=J (a,b))(c:s.size<=40000)(w:U):
 μ F 221 #[G p,G s] w λr w'=>r=ε (η #[.agg a.v,G b,ζ θ])/\Am w w':=by
 unfold Jx at h;split at h
 .cases h
 rename_i g;split at h
 .cases h
 rename_i i;split at h
 .cases h
 rename_i d;split at h
 .cases h
 rename_i j;injection h with h;injection h with e f;subst e f;exact jT p s _ _ _ _ _ _ c A rfl rfl A (by simpa using d) rfl rfl A rfl rfl w
def eE(h:Jx p s=O)(i:s.size<=40000)(w:U):
 μ F 221 #[G p,G s] w λr w'=>r=ε (η #[.agg #[G ⟨#[]⟩,I σ 0,I σ 0,I σ 0,G ⟨#[]⟩],G ⟨#[]⟩,ζ ι])/\Am w w':=by
 have i:Am w<|w.alloc (W #[G ⟨#[]⟩,I σ 0,I σ 0,I σ 0,G ⟨#[]⟩] 190):=(Ag.refl _ w).alloc _;have x:((w.alloc<|W #[G ⟨#[]⟩,I σ 0,I σ 0,I σ 0,G ⟨#[]⟩] 190).heap[w.heap.size]? =J (W #[G ⟨#[]⟩,I σ 0,I σ 0,I σ 0,G ⟨#[]⟩] 190 (0,0))):=WD w _;have HO:=i;by_cases j:s.size<30
 .have i:(s.size:Z)<30:=A;go_in;exact afs
 have:¬(s.size:Z)<30:=A;have c:=λf=>JP s 26 2 A A A f
 have b:=λf=>JP s 18 4 A A A f
 have d:=λf=>JP s 8 2 A A A f
 have n:=Ff s 26 2;have o:=Ff s 18 4;have q:=Ff s 8 2;obtain⟨e,k⟩:∃e,30+BV s 26 2=e:=⟨_,rfl⟩;obtain⟨g,l⟩:∃g,e+BV s 18 4=g:=⟨_,rfl⟩;unfold Jx at h;rw[Wx j,k,l] at h;have a:=λf=>strings_CutPrefix (s.extract 30 e) p f
 generalize BV s 26 2=k1,BV s 18 4=k2 at*;have:k1<65536:=n;have:k2<4294967296:=o;have:(30:Z)+(k1:Z)=e:=A;have:(e:Z)+k2=(g:Z):=A;have:IntKind.u64.wrap (e:Z)=e:=alb
 have:IntKind.u64.wrap (g:Z)=g:=alb
 have:e<=100000:=A;have:g<=5000000000:=A;by_cases t:s.size<g
 .have m:(s.size:Z)<g:=A;go_in;go_wp2_with fail;apply(c _).mono;rintro r w1 ⟨rfl,rfl⟩;go_wp2_with fail;apply(b _).mono;rintro r w2 ⟨rfl,rfl⟩;exact afs
 have:¬(s.size:Z)<g:=A;rw[Wx t] at h;have:30<=e:=A;have:e<=s.size:=A;have:∀f,(Instr.slice 9 (G s) (J<|I Q 30) (J<|I .u64 (e:Z)) O).run F f=.ok (G<|s.extract 30 e) f:=λf=>abN f 9 s Q .u64 30 e underlying9 A A A
 generalize BV s 8 2=k3 at*;have:k3<65536:=q;generalize(⟨(Lib.trimPrefix (s.extract 30 e).data.toList p.data.toList).toArray⟩:Y)=nm at*;cases f:Lib.hasPrefix (s.extract 30 e).data.toList p.data.toList with
 |false=>
  rw[f] at a;exact afo
 |true=>
  rw[f] at h a;rw[Wx Ac] at h;have:k3≠0/\k3≠8:=by
   by_cases e:k3≠0/\k3≠8
   .exact e
   rw[Wx e] at h;cases h
  have:((k3:Z) !=0)=true:=akQ
  have:((k3:Z) !=8)=true:=akQ
  exact afo
def QP(its:E It)(it:It):Bool:=its.length==60||(Γ (0<its.length)&& !Γ ((its.getD (its.length-1) BS).name.data.toList<it.name.data.toList))
def Fq(p:Y):N->Y->E It->Option (E It)
 |0,_,_=>O
 |n+1,rest,its=>if Lib.hasPrefix rest.data.toList Kf.data.toList=ι then J its else
  match Jx p rest with
  |none=>O
  |some (it,b)=>if QP its it then O else Fq p n b (its++[it])
def Fo(p s:Y):Option<|E It:=match Fq p (s.size+1) s [] with
 |none=>O
 |some its=>if An (BQ p its)=s then J its else O
def kp(l p:E υ)(h:Lib.hasPrefix l p=θ):(Lib.trimPrefix l p).length+p.length=l.length:=by
 have a:p<+:l:=by
  unfold Lib.hasPrefix at h;exact abl.1 h
 obtain⟨t,rfl⟩:=a;unfold Lib.trimPrefix;rw[Wz h];simp;omega
def Jy(p nm a:Y)(b c d:N):(Bk p ⟨nm,b,c,d,a⟩).length=30+(p.size+nm.size)+a.size:=by
 unfold Bk;rw[Ws,Ws,Ws,Fe,Dd,Dd,Dd,WC];have:Kf.size=4:=Ac;rw[this]
def Mg{a:It}{b:Y}(h:Jx p s=J (a,b))(f:s.size<=40000):a.ok/\(Bk p a).length+b.size=s.size/\30<=(Bk p a).length:=by
 unfold Jx at h;have:BV s 26 2<65536:=Ff s 26 2;have:BV s 18 4<4294967296:=Ff s 18 4;have:BV s 8 2<65536:=Ff s 8 2;have:BV s 14 4<4294967296:=Ff s 14 4;have:BV s 22 4<4294967296:=Ff s 22 4;generalize BV s 26 2=k1 at*;generalize BV s 18 4=k2 at*;generalize BV s 8 2=k3 at*;generalize BV s 14 4=k4 at*;generalize BV s 22 4=k5 at*;split at h
 .cases h
 rename_i g;split at h
 .cases h
 rename_i i;split at h
 .cases h
 rename_i c;split at h
 .cases h
 injection h with h;injection h with e d;have a:=kp (s.extract 30<|30+k1).data.toList p.data.toList (by simpa using c);have f:(s.extract 30<|30+k1).data.toList.length=k1:=by
  rw[wE];show(s.extract 30<|30+k1).size=_;rw[WM];omega
 rw[f] at a;have:p.data.toList.length=p.size:=by rw[wE];rfl
 have:(ByteArray.mk (Lib.trimPrefix (s.extract 30<|30+k1).data.toList p.data.toList).toArray).size=(Lib.trimPrefix (s.extract 30<|30+k1).data.toList p.data.toList).length:=AG _;have:(s.extract (30+k1)<|30+k1+k2).size=k2:=akS
 have:b.size=s.size-(30+k1+k2):=by rw[<-d,WM];omega
 generalize ByteArray.mk (Lib.trimPrefix (s.extract 30<|30+k1).data.toList p.data.toList).toArray=nm at*;generalize Lib.trimPrefix (s.extract 30<|30+k1).data.toList p.data.toList=tl at*;generalize s.extract (30+k1) (30+k1+k2)=pk at*;clear d c;subst e;have a:=Jy p nm pk k3 k4 k5;refine⟨⟨?_,?_,?_,?_,?_⟩,?_,?_⟩
 .show k3<_;omega
 .show k4<_;omega
 .show k5<_;omega
 .show nm.size<=_;omega
 .show pk.size<=_;omega
 .rw[a];omega
 rw[a];omega
def ak(p:Y)(b:It)(a:N):(BN p b a).length<=(Bk p b).length+16:=by
 unfold Bk BN;simp only[Ws,Fe,Dd,DB,wu,abc];have:Kf.size=4:=Ac;have:LD.size=4:=Ac;omega
def Tb(p:Y)(its:E It):∀n,n<=its.length->(Bc p its n).length<=(AP p<|its.take n).length+16*n
 |0,_=>by simp[Bc]
 |n+1,_=>by
  rw[CL,KY p its n A,Ws,Ws];have:=Tb p its n A;have:=ak p (its.getD n BS) (AP p<|its.take n).length;omega
def kq{its:E It}(b:p.size<=1000)(a:∀i∈its,i.ok)(h0:0<its.length)(c:its.length<=60)(d:(AP p its).length<=40000):Xp p its:=by
 have c:=Tb p its its.length<|WF _;rw[wL] at c;refine⟨b,a,h0,A,A,A,?_⟩;have:=Pq p its 1 its.length A;have:0<(Bc p its 1).length:=by
  rw[CL,Ws];have:0<(BN p (its.getD 0 BS) (AP p<|its.take 0).length).length:=alK
  omega
 omega
def gW(p:Y)(w:U):μ F 148 #[G p,K O 0 0] w λr w'=>Am w w'/\r=ε (G<|An (BQ p [])):=by
 have g:(An (BQ p [])=An ([]++endL 0 0 0)):=rfl;have h:=yV (λk=>w.heap.size<=k) (K O 0 0) [] 0 0 0 A A A Ad w (λ_ a=>a)<|DY.nil _ _;go_in;go_wp2_with fail;go_loop [5,6,8,13] (λa b _ x=>a=K O 0 0/\b=K O 0 0/\x=I Q 0) λ_ _ _ _=>0
 .exact ⟨rfl,rfl,rfl⟩
 obtain⟨rfl,rfl,rfl⟩:=hrel;go_wp2_with fail;apply h.mono;rintro r a ⟨b,_,rfl,c,d,rfl,e,_⟩;have:(convert 64 9<|K c ([]++endL 0 0 0).length d).run F a=.ok (G<|An ([]++endL 0 0 0)) a:=GB e;have f:(Am w a):=b.mono λ_ _ _=>A;generalize([]++endL 0 0 0:E υ).length=n,An ([]++endL 0 0 0)=z at*;go_wp2;go_ret;exact⟨f,by rw[g];rfl⟩
def am(w w':U)(r:Ending):Option (E It)->Prop
 |none=>r=ε (η #[K O 0 0,ζ ι])
 |some its=>∃v,r=ε (η #[v,ζ θ])/\ED w' (λk=>w.heap.size<=k) v its
structure pj (p s:Y) (its:E It) (rest:Y) (n:N):Prop where
 go:Fq p (s.size+1) s []=Fq p n rest its
 fuel:rest.size<n
 len:(AP p its).length+rest.size<=40000
 oks:∀i∈its,i.ok
 few:its.length<=60
def pj.start(a:s.size<=40000):pj p s [] s<|s.size+1:=⟨rfl,A,by simpa [AP] using a,(λ_ h=>by cases h),Ad⟩
def pj.done{its:E It}(h:pj p s its rest n)(a:Lib.hasPrefix rest.data.toList Kf.data.toList=ι):Fo p s=if An (BQ p its)=s then J its else none:=by
 have:=h.fuel;obtain⟨m,rfl⟩:∃m,n=m+1:=⟨n-1,A⟩;unfold Fo;rw[h.go,Fq,Wz a]
def pj.fail{its:E It}(h:pj p s its rest n)(d:Lib.hasPrefix rest.data.toList Kf.data.toList=θ)(a:Jx p rest=O\/ ∃c b,Jx p rest=J (c,b)/\QP its c=θ):Fo p s=none:=by
 have:=h.fuel;obtain⟨m,rfl⟩:∃m,n=m+1:=⟨n-1,A⟩;unfold Fo;rw[h.go,Fq,Wx<|by rw[d];decide];rcases a with a|⟨c,b,a,c⟩
 .rw[a]
 rw[a];simp only[c,acz]
def pj.next{its:E It}(h:pj p s its rest n)(hp:Lib.hasPrefix rest.data.toList Kf.data.toList=θ){it:It}{b:Y}(hi:Jx p rest=J (it,b))(hb:QP its it=ι):∃m,pj p s (its++[it]) b m/\b.size<rest.size:=by
 have c:=h.fuel;obtain⟨m,rfl⟩:∃m,n=m+1:=⟨n-1,A⟩;have d:=h.len;obtain⟨a,e,f⟩:=Mg hi A;have c:=h.few;refine⟨m,⟨?_,A,?_,?_,?_⟩,A⟩
 .rw[h.go,Fq,Wx (by rw[hp];decide),hi];simp only[hb,aaM,abE]
 .have:AP p (its++[it])=AP p its++Bk p it:=by simp[AP]
  rw[this,Ws];omega
 .intro i hi;rcases WY.1 hi with h2|h2
  .exact h.oks i h2
  rw[WN] at h2;subst h2;exact a
 unfold QP at hb;have:its.length≠60:=by intro e;rw[e] at hb;simp at hb
 rw[Ws];simp;omega
def zy(p s:Y)(hp:p.size<=1000)(hs:s.size<=40000)(w:U):μ F 154 #[G p,G s] w λr w'=>Am w w'/\am w w' r (Fo p s):=by
 obtain⟨i0,c5,c6,c7,c8⟩:=wi UO;have HP:=H λx W=>strings_HasPrefix x Kf W;have c9:=H<|pj.start (p:=p) hs;go_in;go_wp2;go_loopw [6,7,8,9,10] (λb1 t _ _ _ wr=>∃(j:E It) (rest:Y) (n:N),t=G rest/\C (Am w wr)/\C (ED wr (λa0=>w.heap.size<=a0) b1 j)/\C (pj p s j rest n)/\C (j=[]->b1=K O 0 0)) λ_ t _ _ _ _=>ot t
 .exact ⟨[],s,s.size+1,rfl,Ag.refl _ w,⟨WZ w 0 _ 5,λb hb=>by cases hb⟩,c9,λ_=>rfl⟩
 obtain⟨j,rest,n,rfl,HO,HI,HR,HN⟩:=hrel;clear c9;have d0:rest.size<=40000:=by have:=HR.len;omega
 have e3:=HR.few;have d:=H λW=>HP rest W;cases hpf:Lib.hasPrefix rest.data.toList Kf.data.toList with
 |false=>
  rw[hpf] at d;have b0:=H<|HR.done hpf;have H2:C (μ F 148 #[G p,u6] wr λr w'=>Am wr w'/\r=ε (G<|An (BQ p j))):=by
   by_cases h0:0<j.length
   .exact tZ _ p u6 j (kq hp HR.oks h0 e3<|by have:=HR.len;omega) wr HI
   have he:j=[]:=wP A;subst he;have hu:=HN rfl;subst hu;exact gW p wr
  have d1:=H<|TG (An<|BQ p j) s;by_cases he:An (BQ p j)=s
  .rw[Wz he] at b0;rw[he] at H2;go_wp2_with fail;apply(d _).mono;rintro r w1 ⟨rfl,rfl⟩;go_wp2_with fail;apply H2.mono;rintro r w2 ⟨P,rfl⟩;have a2:=H<|Ag.trans HO P;have Z5:=H (HI.kept P λ_ _ x=>x);clear P H2;go_wp2;go_ret2;exact⟨a2,by rw[X b0];exact⟨_,rfl,Z5⟩⟩
  rw[Wx he] at b0;have hz:=X d1;rw[Ww he] at hz;clear he d1;generalize An (BQ p j)=z at*;go_wp2_with fail;apply(d _).mono;rintro r w1 ⟨rfl,rfl⟩;go_wp2_with fail;apply H2.mono;rintro r w2 ⟨P,rfl⟩;have a2:=H<|Ag.trans HO P;clear P H2;go_wp2;go_ret2;exact⟨a2,by rw[X b0];rfl⟩
 |true=>
  rw[hpf] at d;cases hit:Jx p rest with
  |none=>
   have f:=H<|HR.fail hpf (.inl hit);have y:=H<|eE hit d0 wr;clear hit hpf;go_wp2_with fail;apply(d _).mono;rintro r w1 ⟨rfl,rfl⟩;go_wp2_with fail;apply y.mono;rintro r w2 ⟨rfl,P⟩;have a2:C (∀o a0,Am w ((w2.alloc o).drewN a0)):=λo a0=>((Ag.trans HO P).alloc o).drewN a0
   clear P;go_wp2_with fail;go_quiet (fail);go_wp2;go_ret2;exact⟨a2 _ _,by rw[X f];rfl⟩
  |some e8=>
   obtain⟨it,b⟩:=e8;have y:=H<|eD hit d0 wr;obtain⟨nm,c,ck,sz,pk⟩:=it;simp only[It.v] at y;cases J7:QP j ⟨nm,c,ck,sz,pk⟩ with
   |true=>
    have f:=H<|HR.fail hpf (.inr ⟨_,_,hit,J7⟩);unfold QP at J7;by_cases a3:j.length=60
    .have a2:(j.length:Z)=60:=A;obtain⟨ao,cp,rfl⟩:∃ao cp,u6=K ao j.length cp:=by
      obtain⟨⟨_,⟨rfl,hz⟩|⟨b',c',e7,rfl,_⟩⟩,_⟩:=X HI
      .exact afx
      exact⟨_,_,rfl⟩
     clear hit hpf J7 a3;go_wp2_with fail;apply(d _).mono;rintro r w1 ⟨rfl,rfl⟩;go_wp2_with fail;apply y.mono;rintro r w2 ⟨rfl,P⟩;have hA:Am w2<|w2.alloc (.cells #[G nm,I σ (c:Z),I σ (ck:Z),I σ (sz:Z),G pk] 190):=(Ag.refl _ w2).alloc _;have Z5:C<|GI (w2.alloc (.cells #[G nm,I σ (c:Z),I σ (ck:Z),I σ (sz:Z),G pk] 190)) w2.heap.size ⟨nm,c,ck,sz,pk⟩:=WD w2 _;have a:=H<|Ag.trans P hA;clear hA P;go_wp2_with fail;generalize w2.alloc (.cells #[G nm,I σ (c:Z),I σ (ck:Z),I σ (sz:Z),G pk] 190)=W at*;go_quiet (fail);go_wp2;go_ret2;exact⟨(Ag.trans HO a).drewN _,by rw[X f];rfl⟩
    have a4:¬(j.length:Z)=60:=A;have a1:(j.length==60)=false:=(by rw[WA];exact a3);rw[a1,acU,wo] at J7;have h0:=wn J7.1;have J7:=J7.2;obtain⟨g,T,rfl,b2,e4,hg,a5⟩:=HI.slice A;have a6:=(Wt.1 hg).1;obtain⟨l,a7⟩:∃l,j.length-1=l:=⟨_,rfl⟩;have b3:l<j.length:=A;have d2:(j.length:Z)-1=(l:Z):=A;have d3:(l:Z)<j.length:=A;have d4:(0:Z)<=(l:Z):=A;have d5:l<=100:=A;have d6:=Aw l A;have d7:((j.length:Z)==60)=false:=(by rw[WA];exact a4);have a8:wr.cell? ⟨g,l*5,O⟩=J (G (j.getD l BS).name):=a5 l b3 0 A;have R:C (∀W',Am wr W'->W'.cell? ⟨g,l*5,O⟩=J (G (j.getD l BS).name)):=λW' ho=>(ho.cell (p:=⟨g,l*5,O⟩) a6 λx=>x).trans a8
    have d8:(0:Z)<(j.length:Z):=A;have e5:0<j.length:=A;rw[a7] at J7;clear a5 hg a6 a8 b2 a7;generalize(j.getD l BS).name=lm at*;have d9:¬lm.data.toList<nm.data.toList:=(by simpa using J7);have l1:=Qo nm lm;have l2:=TG nm lm;have e6:(nm.data.toList<lm.data.toList)\/nm=lm:=by
     rcases adZ (nm.data.toList<lm.data.toList) with h|h
     .exact .inl h
     exact .inr<|GJ h d9
    clear hit hpf J7 a1 a3 d9 h0;rcases e6 with x|heq
    .rw[Wy x] at l1;clear x l2;exact aeP
    rw[Wy heq] at l2;rw[Ww<|by rw[heq];exact aaq _] at l1;clear heq;exact aeP
   |false=>
    obtain⟨m,a2,a3⟩:=HR.next hpf hit J7;have e0:=H a2;have e1:=H a3;clear a2 a3;by_cases h0:j.length=0
    .have d8:¬(0:Z)<(j.length:Z):=A;have a2:¬(j.length:Z)=60:=A;have hu:=HN<|wP h0;clear hit hpf J7;subst hu;go_wp2_with fail;apply(d _).mono;rintro r w1 ⟨rfl,rfl⟩;go_wp2_with fail;apply y.mono;rintro r w2 ⟨rfl,P⟩;have hA:Am w2<|w2.alloc (.cells #[G nm,I σ (c:Z),I σ (ck:Z),I σ (sz:Z),G pk] 190):=(Ag.refl _ w2).alloc _;have Z5:C<|GI (w2.alloc (.cells #[G nm,I σ (c:Z),I σ (ck:Z),I σ (sz:Z),G pk] 190)) w2.heap.size ⟨nm,c,ck,sz,pk⟩:=WD w2 _;have a:=H<|Ag.trans P hA;clear hA P;go_wp2_with fail;generalize w2.alloc (.cells #[G nm,I σ (c:Z),I σ (ck:Z),I σ (sz:Z),G pk] 190)=W at*;go_quiet (fail);have b4:C<|GI (W.drewN nq) w2.heap.size ⟨nm,c,ck,sz,pk⟩:=X Z5;have a9:=H<|a.drewN nq;clear Z5 a;generalize W.drewN nq=V at*;obtain⟨c0,c1,c2,c3,c4⟩:=b4.cells;have D:Am V<|V.alloc (.cells (It.v ⟨nm,c,ck,sz,pk⟩) 190):=(Ag.refl _ V).alloc _;have e:=H ((HI.kept a9 λ_ _ k=>k).kept D λ_ _ k=>k);have b5:=H<|dA (wr:=V) ⟨nm,c,ck,sz,pk⟩;have b6:∀b1∈(It.v ⟨nm,c,ck,sz,pk⟩).toList,b1.oneCell'=true:=alL
     have O3:=H<|Ag.trans (Ag.trans HO a9) D;have b7:C (∀(L k:N) (S:U),S.ownsRow 0 190 5 (K (J ⟨L,0,O⟩) (0+1) k) (0+1) ([]++(It.v ⟨nm,c,ck,sz,pk⟩).toList)->(V.alloc (.cells (It.v ⟨nm,c,ck,sz,pk⟩) 190)).grownBy S (Value.slice O 0 0).ownBlock->((Value.slice O 0 0).ownBlock=J L\/L=V.heap.size+1)->ED S (λa0=>w.heap.size<=a0) (K (J ⟨L,0,O⟩) (0+1) k) (j++[⟨nm,c,ck,sz,pk⟩])/\Am w S):=by
      intro L k S q u O0;have a2:=wP h0;refine⟨⟨?_,λb hb=>?_⟩,O3.grown u λa0 hk a3=>κ (e.2 a0 a3) A⟩
      .rw[a2];rw[aan,LT];exact q
      exact ahL
     have b9:=H<|WZ (V.alloc (.cells (It.v ⟨nm,c,ck,sz,pk⟩) 190)) 0 190 5;clear D;go_wp2_with (at_builtin;refine wpList_append_lies _ rfl (.tmp 45) (.tmp 47) 188 rfl 0 190 i0 (.agg #[G ⟨#[]⟩,I σ 0,I σ 0,I σ 0,G ⟨#[]⟩]) 5 48 underlying188 c5 c6 c7 c8 rfl A (K O 0 0) 0 [] rfl b9 ⟨V.heap.size,0,O⟩ 1 1 (It.v ⟨nm,c,ck,sz,pk⟩).toList rfl rfl b5 b6 A (by unfold maxLen;omega) A A (V.heap.size+1) Ad ?_;intro L k S q u O0 e2;have HX:=H<|b7 L k S q u O0;clear q u O0);go_roundw
     .exact ⟨j++[(⟨nm,c,ck,sz,pk⟩:It)],b,m,rfl,HX.2,by have:=HX.1;rw[WQ] at this;exact this,e0,λa2=>by simp at a2⟩
     simp only[ot];exact e1
    have a1:(j.length==60)=ι/\(Γ (0<j.length)&& !Γ ((j.getD (j.length-1) BS).name.data.toList<nm.data.toList))=false:=by
     unfold QP at J7;rw[acQ] at J7;exact J7
    have a4:¬(j.length:Z)=60:=by
     have:=a1.1;rw[WA] at this;omega
    have J7:=a1.2;rw[Wy A,aas] at J7;clear a1;obtain⟨g,T,rfl,b2,e4,hg,a5⟩:=HI.slice A;have a6:=(Wt.1 hg).1;obtain⟨l,a7⟩:∃l,j.length-1=l:=⟨_,rfl⟩;have b3:l<j.length:=A;have d2:(j.length:Z)-1=(l:Z):=A;have d3:(l:Z)<j.length:=A;have d4:(0:Z)<=(l:Z):=A;have d5:l<=100:=A;have d6:=Aw l A;have d7:((j.length:Z)==60)=false:=(by rw[WA];exact a4);have a8:wr.cell? ⟨g,l*5,O⟩=J (G (j.getD l BS).name):=a5 l b3 0 A;have R:C (∀W',Am wr W'->W'.cell? ⟨g,l*5,O⟩=J (G (j.getD l BS).name)):=λW' ho=>(ho.cell (p:=⟨g,l*5,O⟩) a6 λa1=>a1).trans a8
    have d8:(0:Z)<(j.length:Z):=A;have e5:0<j.length:=A;rw[a7] at J7;clear a5 hg a6 a8 b2 a7;generalize(j.getD l BS).name=lm at*;have x:lm.data.toList<nm.data.toList:=(by simpa using J7);have l1:=Qo nm lm;have l2:=TG nm lm;rw[Ww λh=>κ (abA h x)<|aaq _] at l1;rw[Ww λh=>by rw[h] at x;exact κ x<|aaq _] at l2;clear hit hpf J7 x h0;go_wp2_with fail;apply(d _).mono;rintro r w1 ⟨rfl,rfl⟩;go_wp2_with fail;apply y.mono;rintro r w2 ⟨rfl,P⟩;have hA:Am w2<|w2.alloc (.cells #[G nm,I σ (c:Z),I σ (ck:Z),I σ (sz:Z),G pk] 190):=(Ag.refl _ w2).alloc _;have Z5:C<|GI (w2.alloc (.cells #[G nm,I σ (c:Z),I σ (ck:Z),I σ (sz:Z),G pk] 190)) w2.heap.size ⟨nm,c,ck,sz,pk⟩:=WD w2 _;have a:=H<|Ag.trans P hA;clear hA P;have hlc:=R _ a;have i:=Z5.cells.1;go_wp2_with fail;generalize w2.alloc (.cells #[G nm,I σ (c:Z),I σ (ck:Z),I σ (sz:Z),G pk] 190)=W at*;go_quiet (fail);have b4:C<|GI (W.drewN nq) w2.heap.size ⟨nm,c,ck,sz,pk⟩:=X Z5;have a9:=H<|a.drewN nq;clear Z5 a;generalize W.drewN nq=V at*;obtain⟨c0,c1,c2,c3,c4⟩:=b4.cells;have D:Am V<|V.alloc (.cells (It.v ⟨nm,c,ck,sz,pk⟩) 190):=(Ag.refl _ V).alloc _;have e:=H ((HI.kept a9 λ_ _ x=>x).kept D λ_ _ x=>x);have b5:=H<|dA (wr:=V) ⟨nm,c,ck,sz,pk⟩;have b6:∀b1∈(It.v ⟨nm,c,ck,sz,pk⟩).toList,b1.oneCell'=true:=alL
    have O3:=H<|Ag.trans (Ag.trans HO a9) D;have b7:C (∀(L k:N) (S:U),S.ownsRow 0 190 5 (K (J ⟨L,0,O⟩) (j.length+1) k) (j.length+1) (DG j++(It.v ⟨nm,c,ck,sz,pk⟩).toList)->(V.alloc (.cells (It.v ⟨nm,c,ck,sz,pk⟩) 190)).grownBy S (Value.slice (J ⟨g,0,O⟩) j.length T).ownBlock->((Value.slice (J ⟨g,0,O⟩) j.length T).ownBlock=J L\/L=V.heap.size+1)->ED S (λa0=>w.heap.size<=a0) (K (J ⟨L,0,O⟩) (j.length+1) k) (j++[⟨nm,c,ck,sz,pk⟩])/\Am w S):=by
     intro L k S q u O0;refine⟨⟨?_,λb hb=>?_⟩,O3.grown u λa0 x l=>κ (e.2 a0 l) A⟩
     .rw[Ql,LT,Ws];exact q
     exact ahL
    have b9:=H e.1;clear D;go_wp2_with (at_builtin;refine wpList_append_lies _ rfl (.tmp 45) (.tmp 47) 188 rfl 0 190 i0 (.agg #[G ⟨#[]⟩,I σ 0,I σ 0,I σ 0,G ⟨#[]⟩]) 5 48 underlying188 c5 c6 c7 c8 rfl A (K (J ⟨g,0,O⟩) j.length T) j.length (DG j) rfl b9 ⟨V.heap.size,0,O⟩ 1 1 (It.v ⟨nm,c,ck,sz,pk⟩).toList rfl rfl b5 b6 A (by unfold maxLen;omega) A A (V.heap.size+1) Ad ?_;intro L k S q u O0 e2;have HX:=H<|b7 L k S q u O0;clear q u O0);go_roundw
    .exact ⟨j++[(⟨nm,c,ck,sz,pk⟩:It)],b,m,rfl,HX.2,H HX.1,e0,λj=>by simp at j⟩
    simp only[ot];exact e1
abbrev TZ(s:Y):Bool:=Γ (s≠Fy)&&Γ (AQ s=Fy)
def DW(f:Iw)(all:N)(it:It):N:=if CE it.name=ι then 4 else if TZ it.name then 4 else if Dz f it.name then 5 else if BE it.name<it.size then 1 else if 16000-all<it.size then 1 else 0
def Be:E It->Iw->N->N
 |[],_,_=>0
 |it::r,f,all=>if DW f all it=0 then Be r (Jq f it.name) (all+it.size) else DW f all it
def OC{f:Iw}{a:It}(h:DW f b a=0):CE a.name=θ/\TZ a.name=ι/\Dz f a.name=ι/\a.size<=BE a.name/\a.size<=16000-b:=by
 unfold DW at h;split at h
 .cases h
 rename_i c;split at h
 .cases h
 rename_i d;split at h
 .cases h
 rename_i e;split at h
 .cases h
 rename_i g;split at h
 .cases h
 rename_i i;exact⟨by simpa using c,by simpa using d,by simpa using e,A,A⟩
structure gX (its:E It) (i:N) (f:Iw) (all:N):Prop where
 go:Be its (λ_=>O) 0=Be (its.drop i) f all
 all16:all<=16000
def gX.start(its:E It):gX its 0 (λ_=>O) 0:=⟨rfl,A⟩
def MF(its:E It)(i:N)(h:i<its.length):its.drop i=its.getD i BS::its.drop (i+1):=by
 rw[wN h,Wq,Wv h];rfl
def gX.end{its:E It}{f:Iw}(h:gX its i f b)(a:its.length<=i):Be its (λ_=>O) 0=0:=by
 rw[h.go,abK a];rfl
def gX.fault{its:E It}{f:Iw}(h:gX its i f b)(a:i<its.length)(c:DW f b (its.getD i BS)≠0):Be its (λ_=>O) 0=DW f b (its.getD i BS):=by
 rw[h.go,MF its i a,Be,Wx c]
def gX.next{its:E It}{f:Iw}{all:N}(h:gX its i f all)(hi:i<its.length)(he:DW f all (its.getD i BS)=0):gX its (i+1) (Jq f (its.getD i BS).name)<|all+(its.getD i BS).size:=by
 have:=(OC he).2.2.2.2;have:=h.all16;exact⟨by rw[h.go,MF its i hi,Be,Wz he],A⟩
def xA(v:Value)(its:E It)(hn:its.length<=60)(b2:∀i∈its,i.ok)(c4:N->Prop)(w:U)(hm:Cf w)(t:ED w c4 v its):
 μ F 155 #[v] w λr w'=>r=ε (I Q (Be its (λ_=>O) 0))/\Am w w':=by
 obtain⟨ao,cp,rfl⟩:∃ao cp,v=K ao its.length cp:=akD;have hA:Am w<|w.alloc (.map #[] 0):=(Ag.refl _ w).alloc _;have HG:C (Cx (w.alloc (.map #[] 0)) w.heap.size (0*1001) λ_=>O):=by rw[adY];exact Cx.made w
 have HO:=H hA;have HM:=H hm;have HV:=H t;have HK:C (∀i,i<its.length->(its.getD i BS).ok):=λi hi=>by rw[Wq,Wv hi];exact b2 _<|WJ hi
 have HS:=H<|gX.start its;have:= @acF F;go_in;go_wp2;go_loopw [4,6,10] (λa _ x wr=>∃(i:N) (a1:Iw) (h:N),i<=its.length/\x=I Q i/\a=I σ (h:Z)/\C (Am w wr)/\C (Cx wr w.heap.size (i*1001) a1)/\C (gX its i a1 h)) λ_ _ x _=>its.length-(intOf x).toNat
 .exact ⟨0,_,0,A,rfl,rfl,HO,HG,HS⟩
 obtain⟨i,a1,h,hi,rfl,rfl,a5,a7,a3⟩:=hrel;by_cases O6:i<its.length
 .have a8:(i:Z)<its.length:=A;obtain⟨g,b2,b3,c4,c5,hg,b4⟩:=HV.slice A;have b5:=(Wt.1 hg).1;injection b3 with b6 c6 b7;subst b6 b7;have hc:=λa0 hc=>(a5.cell (p:=⟨g,i*5+a0,O⟩) b5 λx=>x).trans (b4 i O6 a0 hc)
  have a6:=HK i O6;have a2:=H<|a3.next O6;have D:=H<|a3.fault O6;have:=a3.all16;have a0:C (DW a1 h (its.getD i BS)=if CE (its.getD i BS).name=ι then 4 else if TZ (its.getD i BS).name then 4 else if Dz a1 (its.getD i BS).name then 5 else if BE (its.getD i BS).name<(its.getD i BS).size then 1 else if 16000-h<(its.getD i BS).size then 1 else 0):=rfl;generalize its.getD i BS=it at*;obtain⟨nm,c,ck,sz,pk⟩:=it;have:wr.cell? ⟨g,i*5,O⟩=J (G nm):=hc 0 A;have:wr.cell? ⟨g,i*5+1,O⟩=J (I σ c):=hc 1 A;have:wr.cell? ⟨g,i*5+2,O⟩=J (I σ ck):=hc 2 A;have:wr.cell? ⟨g,i*5+3,O⟩=J (I σ sz):=hc 3 A;have:wr.cell? ⟨g,i*5+4,O⟩=J (G pk):=hc 4 A;obtain⟨o1,o2,o3,o4,o5⟩:=a6;simp only at o1 o2 o3 o4 o5 a2 D a0;have hA:Am wr<|wr.alloc (.cells #[G nm,I σ (c:Z),I σ (ck:Z),I σ (sz:Z),G pk] 190):=(Ag.refl _ wr).alloc _;have Z5:C<|GI (wr.alloc (.cells #[G nm,I σ (c:Z),I σ (ck:Z),I σ (sz:Z),G pk] 190)) wr.heap.size ⟨nm,c,ck,sz,pk⟩:=WD wr _;have j:=H<|a7.old hA;have T:=H<|Ag.trans a5 hA;have b9:=H<|a7.lt;have y:=H λW a4=>Xw nm A W a4;have o:=H λW=>Px nm A W;have H4:=H λW=>ZK nm W;have S:C<|CE nm=θ->nm.size<=80:=Eg;have H3:C (nm.size<=80-> ∀W,Cx W w.heap.size (i*1001) a1->μ F 202 #[.map<|J w.heap.size,G nm] W λr w'=>r=ε (ζ<|Dz a1 nm)/\Am W w'):=λa4 W hW=>Jr nm A w.heap.size _ a1 W hW
  have H5:C (nm.size<=80-> ∀W,Cx W w.heap.size (i*1001) a1->μ F 205 #[.map<|J w.heap.size,G nm] W λr w'=>r=ε (η #[])/\Ag (λa6=>a6=w.heap.size) W w'/\Cx w' w.heap.size (i*1001+1001) (Jq a1 nm)):=λa4 W hW=>za nm A w.heap.size _ A a1 W hW
  rw[show(Γ (nm≠Fy)&&Γ (AQ nm=Fy))=TZ nm from rfl] at o;generalize TZ nm=bo,Dz a1 nm=bc at*;have:BE nm<=4000:=by unfold BE;split<;>omega
  generalize BE nm=M at*;cases a4:CE nm with
  |false=>
   have b:C (Be its (λ_=>O) 0=4):=by
    have e:DW a1 h ⟨nm,c,ck,sz,pk⟩=4:=(by rw[X a0,Wz a4]);exact agT
   rw[a4] at y S;go_upto_region 6 with fail;generalize wr.alloc (.cells #[G nm,I σ (c:Z),I σ (ck:Z),I σ (sz:Z),G pk] 190)=W at*;have L:=Z5.cells.1;have l:=H<|y W (HM.old T);go_wp2_with fail;apply l.mono;rintro r w1 ⟨rfl,q⟩;have d:=H (Z5.kept q λx=>x);have J9:=H<|j.old q;have J3:=H<|Ag.trans T q;have u:=d.cells.1;go_wp2;go_ret;exact⟨by rw[X b];rfl,J3⟩
  |true=>
   rw[a4] at y S;rw[a4,Wx Ac] at a0;cases bo with
   |true=>
    have b:C (Be its (λ_=>O) 0=4):=by
     have e:DW a1 h ⟨nm,c,ck,sz,pk⟩=4:=(by rw[X a0,Wz rfl]);exact agT
    go_upto_region 6 with fail;generalize wr.alloc (.cells #[G nm,I σ (c:Z),I σ (ck:Z),I σ (sz:Z),G pk] 190)=W at*;have L:=Z5.cells.1;have l:=H<|y W (HM.old T);go_wp2_with fail;apply l.mono;rintro r w1 ⟨rfl,q⟩;have d:=H (Z5.kept q λx=>x);have J9:=H<|j.old q;have J3:=H<|Ag.trans T q;have u:=d.cells.1;go_wp2_with fail;apply(o w1).mono;rintro r w2 ⟨rfl,P⟩;have k:=H (d.kept P λx=>x);have s:=H<|J9.old P;have J8:=H<|Ag.trans J3 P;have n2:=k.cells.1;go_wp2;go_ret;exact⟨by rw[X b];rfl,J8⟩
   |false=>
    rw[Wx Ac] at a0;cases bc with
    |true=>
     have b:C (Be its (λ_=>O) 0=5):=by
      have e:DW a1 h ⟨nm,c,ck,sz,pk⟩=5:=(by rw[X a0,Wz rfl]);exact agT
     go_upto_region 6 with fail;generalize wr.alloc (.cells #[G nm,I σ (c:Z),I σ (ck:Z),I σ (sz:Z),G pk] 190)=W at*;have L:=Z5.cells.1;have l:=H<|y W (HM.old T);go_wp2_with fail;apply l.mono;rintro r w1 ⟨rfl,q⟩;have d:=H (Z5.kept q λx=>x);have J9:=H<|j.old q;have J3:=H<|Ag.trans T q;have u:=d.cells.1;go_wp2_with fail;apply(o w1).mono;rintro r w2 ⟨rfl,P⟩;have k:=H (d.kept P λx=>x);have s:=H<|J9.old P;have J8:=H<|Ag.trans J3 P;have n2:=k.cells.1;go_wp2_with fail;apply(H3 (S trivial) w2 s).mono;rintro r w3 ⟨rfl,m⟩;have n:=H (k.kept m λx=>x);have z:=H<|s.old m;have O3:=H<|Ag.trans J8 m;have n3:=n.cells.1;have m3:=n.cells.2.2.2.1;go_wp2;go_ret;exact⟨by rw[X b];rfl,O3⟩
    |false=>
     rw[Wx Ac] at a0;have:IntKind.u32.wrap (M:Z)=M:=akT;obtain⟨R,hR⟩:∃R,16000-h=R:=⟨_,rfl⟩;have:(16000:Z)-(h:Z)=R:=A;have:IntKind.u32.wrap (R:Z)=R:=akT;have:R<=16000:=A;rw[hR] at a0;by_cases a4:M<sz
     .have b:C (Be its (λ_=>O) 0=1):=by
       have e:DW a1 h ⟨nm,c,ck,sz,pk⟩=1:=(by rw[X a0,Wz a4]);exact agT
      have a6:Γ ((M:Z)<sz)=true:=(by rw[adg];omega);have a7:Γ (M<sz)=true:=(by simpa using a4);exact aeK
     rw[Wx a4] at a0;have a6:Γ ((M:Z)<sz)=false:=(by rw[adi];omega);have a7:Γ (M<sz)=false:=(by simpa using a4);have:¬(M:Z)<sz:=A;by_cases a4:R<sz
     .have b:C (Be its (λ_=>O) 0=1):=by
       have e:DW a1 h ⟨nm,c,ck,sz,pk⟩=1:=(by rw[X a0,Wz a4]);exact agT
      have a6:Γ ((R:Z)<sz)=true:=(by rw[adg];omega);have a7:Γ (R<sz)=true:=(by simpa using a4);exact aeK
     rw[Wx a4] at a0;have a2:=H<|a2 a0;have:Γ ((R:Z)<sz)=false:=(by rw[adi];omega);have:Γ (R<sz)=false:=(by simpa using a4);have:¬(R:Z)<sz:=A;have:sz<=4000:=A;go_upto_region 6 with fail;generalize wr.alloc (.cells #[G nm,I σ (c:Z),I σ (ck:Z),I σ (sz:Z),G pk] 190)=W at*;have:=Z5.cells.1;have l:=H<|y W (HM.old T);go_wp2_with fail;apply l.mono;rintro r w1 ⟨rfl,q⟩;have d:=H (Z5.kept q λx=>x);have J9:=H<|j.old q;have J3:=H<|Ag.trans T q;have:=d.cells.1;go_wp2_with fail;apply(o w1).mono;rintro r w2 ⟨rfl,P⟩;have k:=H (d.kept P λx=>x);have s:=H<|J9.old P;have J8:=H<|Ag.trans J3 P;have:=k.cells.1;go_wp2_with fail;apply(H3 (S trivial) w2 s).mono;rintro r w3 ⟨rfl,m⟩;have n:=H (k.kept m λx=>x);have z:=H<|s.old m;have O3:=H<|Ag.trans J8 m;have:=n.cells.1;have:=n.cells.2.2.2.1;go_wp2_with fail;go_quiet ((go_at_call 204;exact Calls.quiet_of_same<|H4 _));have a9:C<|GI (w3.drewN nq) wr.heap.size ⟨nm,c,ck,sz,pk⟩:=X n;have c0:=H<|z.old ((Ag.refl _ w3).drewN nq);have c1:=H<|O3.drewN nq;generalize w3.drewN nq=V at*;have:=a9.cells.1;go_wp2_with fail;apply(H5 (S trivial) V c0).mono;rintro r w5 ⟨rfl,b0,a0⟩;have a4:=H (a9.kept b0<|by have:=X b9;omega);have:=a4.cells.2.2.2.1;have c2:C<|Am w w5:=c1.transNew b0 λa4 hk e=>A;have c3:C<|Cx w5 w.heap.size ((i+1)*1001) (Jq a1 nm):=(by rw[Nat.succ_mul];exact a0);obtain⟨b1,hN⟩:∃b1,h+sz=b1:=⟨_,rfl⟩;rw[hN] at a2;have:IntKind.u32.wrap ((h:Z)+sz)=(b1:Z):=akT;go_wp2;go_roundw
     .exact ⟨i+1,Jq a1 nm,b1,A,by go_num,rfl,c2,c3,a2⟩
     exact Ae
 have:¬(i:Z)<its.length:=A;have b:=H<|a3.end A;go_wp2;go_ret;exact⟨by rw[X b];rfl,a5⟩
def Ib(it:It):Y×N:=if it.way=0 then(if it.packed.size=it.size then(it.packed,0) else(⟨#[]⟩,7)) else(if(AB it.packed).2.2=0/\(AB it.packed).2.1=it.packed.size/\(AB it.packed).1.size=it.size then((AB it.packed).1,0) else(⟨#[]⟩,2))
def Gt(it:It):Y×N:=if(Ib it).2≠0 then(⟨#[]⟩,(Ib it).2) else if BJ (Ib it).1=it.check then((Ib it).1,0) else(⟨#[]⟩,8)
def kr(b:It)(o:b.ok)(w:U)(j:DF w):
 μ F 288 #[.agg b.v] w λr w'=>r=ε (η #[G (Ib b).1,I Q (Ib b).2])/\Am w w':=by
 have c:C (Ib b=if b.way=0 then(if b.packed.size=b.size then(b.packed,0) else(⟨#[]⟩,7)) else(if(AB b.packed).2.2=0/\(AB b.packed).2.1=b.packed.size/\(AB b.packed).1.size=b.size then((AB b.packed).1,0) else(⟨#[]⟩,2))):=rfl;generalize Ib b=J1 at*;obtain⟨l,f,m,e,d⟩:=b;obtain⟨b,t,D,L,P⟩:=o;simp only at b t D L P c;have b:Am w<|w.alloc (W #[G l,I σ (f:Z),I σ (m:Z),I σ (e:Z),G d] 190):=(Ag.refl _ w).alloc _;have g:C<|GI (w.alloc<|W #[G l,I σ (f:Z),I σ (m:Z),I σ (e:Z),G d] 190) w.heap.size ⟨l,f,m,e,d⟩:=WD w _;have HO:=H b;have HB:=H (np d A (w.alloc<|W #[G l,I σ (f:Z),I σ (m:Z),I σ (e:Z),G d] 190) (DF.kept j b λx=>x));obtain⟨_,_,_,_,_⟩:=g.cells;simp only[It.v] at*;by_cases h:f=0
 .rw[Wz h] at c;subst h;by_cases i:d.size=e
  .rw[Wz i] at c;subst i;have a:=X c;subst a;go_in;go_wp2;go_ret2;exact⟨rfl,HO⟩
  rw[Wx i] at c;have a:=X c;subst a;have p:((d.size:Z) !=(e:Z))=true:=akQ
  have s:¬(d.size:Z)=e:=A;go_in;go_wp2;go_ret2;exact⟨rfl,HO⟩
 rw[Wx h] at c;have:((f:Z)==0)=false:=act
 have:¬(f:Z)=0:=A;generalize(AB d).1=z,(AB d).2.1=us,(AB d).2.2=er at*;by_cases k:er=0
 .by_cases n:us=d.size
  .by_cases i:z.size=e
   .rw[Wz ⟨k,n,i⟩] at c;have a:=X c;subst a k n i;exact aeS
   rw[Wx λh=>i h.2.2] at c;have a:=X c;subst a k n;have p:((z.size:Z) !=(e:Z))=true:=akQ
   have:¬(z.size:Z)=e:=A;exact aeS
  rw[Wx λh=>n h.2.1] at c;have a:=X c;subst a k;have:((us:Z) !=(d.size:Z))=true:=akQ
  have:¬(us:Z)=d.size:=A;exact aeS
 rw[Wx λh=>k h.1] at c;have a:=X c;subst a;have:((er:Z) !=0)=true:=akQ
 have:¬(er:Z)=0:=A;exact aeS
def Vl(c:It)(d:c.ok):(Ib c).1.size<=140737488355328:=by
 have:=d.2.2.1;have:=d.2.2.2.2;have:(⟨#[]⟩:Y).size=0:=rfl;unfold Ib;by_cases a:c.way=0
 .rw[Wz a];by_cases b:c.packed.size=c.size
  .rw[Wz b];show c.packed.size<=_;omega
  exact akg
 rw[Wx a];by_cases b:(AB c.packed).2.2=0/\(AB c.packed).2.1=c.packed.size/\(AB c.packed).1.size=c.size
 .rw[Wz b];show(AB c.packed).1.size<=_;omega
 exact akg
def zA(a:It)(c:a.ok)(w:U)(f:DF w):
 μ F 222 #[.agg a.v] w λr w'=>r=ε (η #[G (Gt a).1,I Q (Gt a).2])/\Am w w':=by
 have d:C (Gt a=if(Ib a).2≠0 then(⟨#[]⟩,(Ib a).2) else if BJ (Ib a).1=a.check then((Ib a).1,0) else(⟨#[]⟩,8)):=rfl;have:=Vl a c;have j:Am w<|w.alloc (W a.v 190):=(Ag.refl _ w).alloc _;have g:C<|GI (w.alloc<|W a.v 190) w.heap.size a:=WD w _;have HO:=H j;have y:=H (kr a c (w.alloc<|W a.v 190) (DF.kept f j λx=>x));have HC:=H (λb=>JY (Ib a).1 b<|by unfold maxLen;omega);have:=FG (Ib a).1;generalize Gt a=J1,Ib a=un at*;obtain⟨z,h⟩:=un;obtain⟨_,_,i,_,_⟩:=a;obtain⟨_,_,_,_,_⟩:=c;obtain⟨_,_,_,_,_⟩:=g.cells;simp only[It.v] at*;generalize BJ z=cz at*;by_cases k:h=0
 .subst k;rw[Wx λa=>a rfl] at d;by_cases e:cz=i
  .rw[Wz e] at d;have b:=X d;subst b e;exact afB
  rw[Wx e] at d;have b:=X d;subst b;have:((cz:Z) !=(i:Z))=true:=akQ
  have:¬(cz:Z)=i:=A;exact afB
 rw[Wz k] at d;have b:=X d;subst b;have:((h:Z) !=0)=true:=akQ
 have:¬(h:Z)=0:=A;go_in;go_wp2_with fail;apply y.mono;rintro r w1 ⟨rfl,q⟩;have u:=H<|Ag.trans HO q;go_wp2;go_ret2;exact⟨rfl,u⟩
def FV:E It->E Fl->E Fl×N
 |[],N3=>(N3,0)
 |it::r,N3=>if(Gt it).2=0 then FV r (N3++[(it.name,(Gt it).1)]) else([],(Gt it).2)
structure gY (its:E It) (i:N) (N3:E Fl):Prop where
 go:FV its []=FV (its.drop i) N3
 len:N3.length=i
def gY.start(its:E It):gY its 0 []:=⟨rfl,rfl⟩
def gY.end{its:E It}{a:E Fl}(h:gY its i a)(b:its.length<=i):FV its []=(a,0):=by
 rw[h.go,abK b];rfl
def gY.fault{its:E It}{a:E Fl}(h:gY its i a)(a:i<its.length)(b:(Gt<|its.getD i BS).2≠0):FV its []=([],(Gt<|its.getD i BS).2):=by
 rw[h.go,MF its i a,FV,Wx b]
def gY.next{its:E It}{N3:E Fl}(h:gY its i N3)(hi:i<its.length)(he:(Gt<|its.getD i BS).2=0):gY its (i+1)<|N3++[((its.getD i BS).name,(Gt<|its.getD i BS).1)]:=
 ⟨by rw[h.go,MF its i hi,FV,Wz he],by rw[Ws,h.len];rfl⟩
def Lo(w w':U)(r:Ending)(Z2:E Fl×N):Prop:=
 (Z2.2=0/\∃u,r=ε (η #[u,I Q 0])/\Au w' u Z2.1/\∀b,u.ownBlock=J b->w.heap.size<=b)\/(Z2.2≠0/\r=ε (η #[K O 0 0,I Q (Z2.2:Z)]))
def Vm(c:It)(d:c.ok):(Gt c).1.size<=140737488355328:=by
 have e:=Vl c d;unfold Gt;by_cases a:(Ib c).2≠0
 .rw[Wz a];exact wH _
 rw[Wx a];by_cases b:BJ (Ib c).1=c.check
 .rw[Wz b];exact e
 rw[Wx b];exact wH _
def eF(v:M)(its:E It)(hn:its.length<=60)(a6:∀i∈its,i.ok)(d9:N->Prop)(w:U)(L:DF w)(t:ED w d9 v its):
 μ F 156 #[v] w λr w'=>Am w w'/\Lo w w' r (FV its []):=by
 obtain⟨i0,c5,c6,c7,c8⟩:=wi Lb;obtain⟨q,cp,rfl⟩:∃q cp,v=K q its.length cp:=akD;have HV:=H t;have HK:C (∀i,i<its.length->(its.getD i BS).ok):=λi hi=>by rw[Wq,Wv hi];exact a6 _<|WJ hi
 have HS:=H<|gY.start its;have a7:=H L;have HO:=H (Ag.refl (λ_=>False) w);have a8:C<|Au w (K O 0 0) []:=WZ w 0 _ 2;clear t a6 L;go_in;go_wp2;go_loopw [4,6,7,8,11] (λc9 _ _ _ x wr=>∃(i:N) (a:E Fl),i<=its.length/\x=I Q i/\C (Am w wr)/\C (gY its i a)/\C (Au wr c9 a)/\C (∀b,c9.ownBlock=J b->w.heap.size<=b)) λ_ _ _ _ x _=>its.length-(intOf x).toNat
 .exact ⟨0,[],A,rfl,HO,HS,a8,λb h=>by cases h⟩
 obtain⟨i,a,hi,rfl,s,l,S,T⟩:=hrel;clear HO HS a8;by_cases O6:i<its.length
 .have a9:(i:Z)<its.length:=A;obtain⟨g,L,d0,d1,a6,hg,b0⟩:=HV.slice A;have b1:=(Wt.1 hg).1;injection d0 with d2 d3 d4;subst d2 d4;have P:=λc P=>(s.cell (p:=⟨g,i*5+c,O⟩) b1 λx=>x).trans (b0 i O6 c P)
  have j:=H<|HK i O6;have u:=H<|l.next O6;have x:=H<|l.fault O6;have b2:=H<|Vm _ j;have:a.length<=60:=by have:=l.len;omega
  have HD:=H λb3 h=>zA (its.getD i BS) j b3 h;clear b0 hg b1 d1 d3 l;generalize Gt (its.getD i BS)=dd at*;generalize its.getD i BS=it at*;obtain⟨c,wy,ck,sz,pk⟩:=it;obtain⟨z,er⟩:=dd;have q0:wr.cell? ⟨g,i*5,O⟩=J (G c):=P 0 A;have q1:wr.cell? ⟨g,i*5+1,O⟩=J (I σ wy):=P 1 A;have q2:wr.cell? ⟨g,i*5+2,O⟩=J (I σ ck):=P 2 A;have q3:wr.cell? ⟨g,i*5+3,O⟩=J (I σ sz):=P 3 A;have q4:wr.cell? ⟨g,i*5+4,O⟩=J (G pk):=P 4 A;obtain⟨L,o2,o3,o4,o5⟩:=X j;simp only[It.v] at L o2 o3 o4 o5 u x HD b2;have:=X b2;clear P j;have j:Am wr<|wr.alloc (W #[G c,I σ (wy:Z),I σ (ck:Z),I σ (sz:Z),G pk] 190):=(Ag.refl _ wr).alloc _;have m:C<|GI (wr.alloc<|W #[G c,I σ (wy:Z),I σ (ck:Z),I σ (sz:Z),G pk] 190) wr.heap.size ⟨c,wy,ck,sz,pk⟩:=WD wr _;have k:=H<|Ag.trans s j;have a0:=H<|S.old j;clear j S s;by_cases he:er=0
  .subst he;have d5:C<|gY its (i+1) (a++[(c,z)]):=by first|exact u trivial|exact u rfl
   clear x;go_upto_region 5 with fail;generalize wr.alloc (W #[G c,I σ (wy:Z),I σ (ck:Z),I σ (sz:Z),G pk] 190)=b3 at*;clear q0 q1 q2 q3 q4;obtain⟨c0,c1,c2,c3,c4⟩:=m.cells;simp only at c0 c1 c2 c3 c4;have H1:=H (HD b3 (DF.kept a7 k λd=>d));go_wp2_with fail;refine H1.mono ?_;rintro r w1 ⟨rfl,e⟩;have b4:=H (m.kept e λd=>d);have y:=H<|Ag.trans k e;have b5:=H<|a0.old e;have n1:=b4.cells.1;simp only at n1;have H2:=H<|NA c A w1;clear H1 e m k a0 c0 c1 c2 c3 c4 HD;go_wp2_with fail;refine H2.mono ?_;rintro r w2 ⟨rfl,a1⟩;have b6:=H<|Ag.trans y a1;have b7:=H<|b5.old a1;have H3:=H<|NA z A w2;clear H2 a1 y b4 b5 n1;go_wp2_with fail;refine H3.mono ?_;rintro r n ⟨rfl,a2⟩;have a3:Am n<|n.alloc (W #[G c,G z] 38):=(Ag.refl _ n).alloc _;have a4:=H ((Ag.trans b6 a2).trans a3);have a5:=H ((b7.old a2).old a3);have d6:=H<|AD n [G c,G z] 38;have b9:C ((n.alloc<|W #[G c,G z] 38).heap.size=n.heap.size+1):=by unfold C;rw[WP]
   obtain⟨q,D,rfl⟩:∃q cp,u4=K q a.length cp:=by
    obtain⟨_,⟨rfl,hz⟩|⟨b',c',f,rfl,_⟩⟩:=X a5
    .exact afx
    exact⟨_,_,rfl⟩
   have d7:C (∀o d R,R.ownsRow 0 38 2 (K (J ⟨o,0,O⟩) (a.length+1) d) (a.length+1) (AK a++[G c,G z])->(n.alloc<|W #[G c,G z] 38).grownBy R (Value.slice q a.length D).ownBlock->((Value.slice q a.length D).ownBlock=J o\/o=n.heap.size+1)->Am w R/\Au R (K (J ⟨o,0,O⟩) (a.length+1) d) (a++[(c,z)])/\w.heap.size<=o):=λo d R j L h3=>by
    refine⟨a4.grown L λL P d8=>κ (T L d8) A,?_,?_⟩
    .show R.ownsRow 0 38 2 _ (a++[(c,z)]).length (AK<|a++[(c,z)]);rw[JQ,Ws];exact j
    rcases h3 with h|h
    .exact T o h
    have:=a4.size;have:=X b9;omega
   have j:C ((n.alloc<|W #[G c,G z] 38).ownsRow 0 38 2 (K q a.length D) a.length<|AK a):=X a5;clear a2 a3 H3 b6 b7 a4 a5;go_wp2_with (at_builtin;refine wpList_append_lies _ rfl (.tmp 23) (.tmp 30) 39 rfl 0 38 i0 (.agg #[G ⟨#[]⟩,G ⟨#[]⟩]) 2 32 underlying39 c5 c6 c7 c8 rfl A (K q a.length D) a.length (AK a) rfl j ⟨n.heap.size,0,O⟩ 1 1 [G c,G z] rfl rfl d6 (by intro c9 hu;simp at hu;rcases hu with rfl|rfl<;>rfl) A (by unfold maxLen;omega) A A (n.heap.size+1) b9 ?_;intro L d R j n q D;have HX:=H<|d7 L d R j n q;clear j n q D);go_roundw
   .exact ⟨i+1,a++[(c,z)],A,by go_num,H HX.1,d5,H HX.2.1,λb a=>by have d8:=WX (show J L=J b from a);subst d8;exact HX.2.2⟩
   exact Ae
  have o:=H<|x he;have:((er:Z) !=0)=true:=akQ
  have:¬(er:Z)=0:=A;clear x u;go_upto_region 5 with fail;generalize wr.alloc (W #[G c,I σ (wy:Z),I σ (ck:Z),I σ (sz:Z),G pk] 190)=b3 at*;clear q0 q1 q2 q3 q4;obtain⟨c0,c1,c2,c3,c4⟩:=m.cells;simp only at c0 c1 c2 c3 c4;have H1:=H (HD b3 (DF.kept a7 k λx=>x));go_wp2_with fail;refine H1.mono ?_;rintro r w1 ⟨rfl,e⟩;have y:=H<|Ag.trans k e;clear H1 e m k a0 c0 c1 c2 c3 c4 HD;go_wp2;go_ret2;exact⟨y,by rw[X o];exact .inr ⟨he,rfl⟩⟩
 have:¬(i:Z)<its.length:=A;have o:=H<|l.end A;go_wp2;go_ret2;exact⟨s,by rw[X o];exact .inl ⟨rfl,_,rfl,S,T⟩⟩
def Kl(p s:Y):E Fl×N:=
 if 40000<s.size then([],1) else
 match Fo p s with
 |none=>([],7)
 |some its=>if Be its (λ_=>O) 0=0 then FV its [] else([],Be its (λ_=>O) 0)
def Vn:∀(n:N) (rest:Y) (its a:E It),Fq p n rest its=J a->rest.size<=40000->(∀i∈its,i.ok)->its.length<=60->(∀i∈a,i.ok)/\a.length<=60
 |0,rest,its,a,h,_,_,_=>akU
 |n+1,rest,its,a,h,e,d,f=>by
  unfold Fq at h;split at h
  .injection h with h;subst h;exact⟨d,f⟩
  split at h
  .cases h
  rename_i g b c;split at h
  .cases h
  rename_i j;obtain⟨k,l,m⟩:=Mg c e;refine Vn n b (its++[g]) a h A ?_ ?_
  .intro i c;rcases WY.1 c with h2|h2
   .exact d i h2
   rw[WN] at h2;subst h2;exact k
  have:its.length≠60:=by intro e;apply j;unfold QP;rw[e];rfl
  rw[Ws];simp;omega
def Tc{its:E It}(h:Fo p s=J its)(a:s.size<=40000):(∀i∈its,i.ok)/\its.length<=60:=by
 unfold Fo at h;split at h
 .cases h
 rename_i b c;split at h
 .injection h with h;subst h;exact Vn _ _ _ _ c a (λ_ h=>by cases h) Ad
 cases h
def sK(p s:Y)(T:p.size<=1000)(hs:s.size<=9223372036854775807)(w:U)(o:Cf w)(g:DF w):μ F 92 #[G p,G s] w λr w'=>Am w w'/\Lo w w' r (Kl p s):=by
 have c:C (Kl p s=if 40000<s.size then([],1) else match Fo p s with
  |none=>([],7)
  |some a=>if Be a (λ_=>O) 0=0 then FV a [] else([],Be a (λ_=>O) 0)):=rfl
 by_cases R:40000<s.size
 .have h:(40000:Z)<(s.size:Z):=A;have HA:C<|Kl p s=([],1):=by unfold C;rw[X c,Wz R]
  go_in;go_wp2;go_ret2;exact⟨Ag.refl _ _,by rw[X HA];exact .inr ⟨Ac,rfl⟩⟩
 have h:¬(40000:Z)<(s.size:Z):=A;have h:s.size<=40000:=A;have n:=H<|zy p s T h w;have HM:=H o;have q:=H g;have i:C (∀a,Fo p s=J a->(∀d∈a,d.ok)/\a.length<=60):=λa d=>Tc d h
 have c:C (Kl p s=match Fo p s with
  |none=>([],7)
  |some a=>if Be a (λ_=>O) 0=0 then FV a [] else([],Be a (λ_=>O) 0)):=by unfold C;rw[X c,Wx R]
 cases t:Fo p s with
 |none=>
  rw[t] at n c;go_in;go_wp2_with fail;apply n.mono;rintro r S ⟨d,j⟩;unfold am at j;subst j;have f:=H d;go_wp2;go_ret2;exact⟨f,by rw[X c];exact .inr ⟨Ac,rfl⟩⟩
 |some a=>
  rw[t] at n c;obtain⟨g,h⟩:=i a t;have c:C (Kl p s=if Be a (λ_=>O) 0=0 then FV a [] else([],Be a (λ_=>O) 0)):=X c;have u:=H λv e o i=>xA v a h g (λk=>w.heap.size<=k) e o i;have x:=H λv e i j=>eF v a h g (λk=>w.heap.size<=k) e i j;generalize Be a (λ_=>O) 0=y,FV a []=Z2 at*;go_in;go_wp2_with fail;apply n.mono;rintro r S ⟨d,v,rfl,k⟩;have f:=H d;have z:=H k;have u:=H<|u v S (HM.old d) k;go_wp2_with fail;apply u.mono;rintro r w2 ⟨rfl,l⟩;have e:=H<|Ag.trans f l;have x:=H (x v w2 (DF.kept q e λa=>a) (z.kept l λ_ _ a=>a));by_cases h0:y=0
  .subst h0;rw[Wz rfl] at c;go_wp2_with fail;apply x.mono;rintro r d ⟨a,D⟩;have m:=H<|Ag.trans e a;have HS:=H e.size;rcases D with⟨e0,a0,rfl,hf,L⟩|⟨e1,rfl⟩
   .have HF:=H hf;have HB:=H L;have P:=H e0;go_wp2;go_ret2;exact⟨m,by rw[X c];exact .inl ⟨P,a0,rfl,HF,λb L=>WI HS<|HB b L⟩⟩
   have P:=H e1;go_wp2;go_ret2;exact⟨m,by rw[X c];exact .inr ⟨P,rfl⟩⟩
  rw[Wx h0] at c;have:((y:Z) !=0)=true:=akQ
  have:¬(y:Z)=0:=A;go_wp2;go_ret2;exact⟨e,by rw[X c];exact .inr ⟨h0,rfl⟩⟩
