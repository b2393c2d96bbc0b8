import Derived.Test.YtfpphfkcaplafaaGreatDoorZat
set_option linter.all false
set_option maxHeartbeats 64000000
set_option maxRecDepth 100000
open _root_ renaming Option.some->J,Option.none->O,Int->Z,Nat->N,Go.Value.int->I,Go.Value.string->G,Go.IntKind.i64->Q,ByteArray->Y,List->E,Go.World->U,Go.Value.slice->K,Go.Value->M,Go.Obj.cells->W,Go.Value.pointer->V,Go.RowKit.Hid->C,Go.Proofs.Tryz.prog->F,Go.Ending.returned->ε,Go.Value.bool->ζ,Go.Value.tuple->η,Bool.true->θ,absurd->κ,Go.Calls->μ,Go.TypeId->ν,Array->φ
variable{w w' w1:U}{L:E Y}{b b1 b2 c e f g h i k n:N}{a l u v vd vr x:M}{RF RL RT j o p:E (M×Y)}{P:U->Prop}{S:N->Prop}
namespace Go.Proofs.YtfpphfkcaplafaaGreatDoor
open Go.RowKit Go.Maps Go.Proofs.Tryz
def VG(T:E BF):∀i,i<=T.length->SK T i-> ∀f∈(Fg (Ay T)<|T.take i).fs,f.2.size<=4000
 |0,_,_=>λf a=>by rw[abo] at a;cases a
 |i+1,e,b=>λf a=>by
  have c:=VG T i A λj e=>b j A;rw[Fz _ _ _ A,ET] at a;split at a
  .rename_i d;rcases WY.1 a with h|h
   .exact c f h
   rw[WN] at h;rw[h];exact WI (IV<|b i A d).2.2.1<|Tn _
  exact c f a
def Rk.chps{T:E BF}{r:Ending}(h:Rk T w w' r):∃k b v u,zU T k b/\r=ε (η #[v,u,I Q (k:Z)])/\Au w' v b/\b.length<=60/\k<=10/\∀f∈b,f.1.size<=80/\f.2.size<=4000:=by
 obtain⟨k,b,v,u,p,d,e,q⟩:=h.chp;refine⟨k,b,v,u,p,d,e,q,?_,?_⟩
 .rcases h with⟨-,⟨m,n, -, -, -,o, -,a⟩|⟨-,s,t,x,a, -⟩⟩|⟨-,a⟩
  .rw[d] at a;obtain⟨-, -,p⟩:=TB a;have:n <=6:=by
    rw[<-o];unfold Ef;exact ajp
   omega
  .rw[d] at a;obtain⟨-, -,p⟩:=TB a;omega
  rw[d] at a;obtain⟨-, -,p⟩:=TB a;omega
 have c:v=DV-> ∀f∈b,f.1.size<=80/\f.2.size<=4000:=λi f g=>by
  rw[i] at e;have:b=[]:=Au.inj e<|WZ _ _ _ _;rw[this] at g;cases g
 rcases h with⟨-,⟨m,n, -, -, -,o, -,a⟩|⟨j,s,t,x,a,y,_,l, -⟩⟩|⟨-,a⟩
 .rw[d] at a;exact c (TB a).1
 .rw[d] at a;obtain⟨i, -, -⟩:=TB a;subst i;have z:=Au.inj e l;subst z;intro f g;have b:=y.mem_iff.1 g;have e:=VG T T.length (WF _) j;rw[wL] at e;exact⟨Vd _ _ f b,e f b⟩
 rw[d] at a;exact c (TB a).1
def qp(nm d:Y)(b:d.size<=4000)(c:nm.size<=80):(GX nm d).ok/\(GX nm d).name=nm/\(GX nm d).packed.size<=4000:=by
 have a:=FG d;unfold GX;split
 .rename_i h;exact⟨⟨by show(8:N)<_;omega,a,by show d.size<_;omega,by show nm.size<=_;omega,by show(CZ d).size<=_;omega⟩,rfl,by show(CZ d).size<=_;omega⟩
 exact⟨⟨by show(0:N)<_;omega,a,by show d.size<_;omega,by show nm.size<=_;omega,by show d.size<=_;omega⟩,rfl,b⟩
def bB(p:Y)(d:p.size<=1000):∀(c:E Fl),(∀f∈c,f.1.size<=80/\f.2.size<=4000)->(AP p<|Bd c).length<=5110*c.length
 |[],_=>by simp[Bd,AP]
 |f::r,h=>by
  have:=bB p d r λx c=>h x<|wQ _ c;obtain⟨a,b⟩:=h f<|aaO ..;obtain⟨-,c,_⟩:=qp f.1 f.2 b a;have e:AP p (Bd (f::r))=Bk p (GX f.1 f.2)++AP p (Bd r):=by simp[AP,Bd]
  have d:(Bk p<|GX f.1 f.2).length=30+(p.size+(GX f.1 f.2).name.size)+(GX f.1 f.2).packed.size:=by
   obtain⟨_,_,_,_,_⟩:=GX f.1 f.2;exact Jy _ _ _ _ _ _
  rw[e,Ws,d,c,wu,adI];omega
def Yc(p:Y)(c:p.size<=1000)(a:E Fl)(b:a.length<=60)(h:∀f∈a,f.1.size<=80/\f.2.size<=4000)(h0:0<a.length):Xp p<|Bd a:=by
 have:(Bd a).length=a.length:=by simp[Bd]
 have:=bB p c a h;have:5110*a.length<=5110*60:=acv _ b;have b:=Tb p (Bd a) (Bd a).length<|WF _;rw[wL] at b;refine⟨c,λ_ e=>?_,A,A,A,A,?_⟩
 .obtain ⟨f,d,rfl⟩:=wd.1 e;exact(qp f.1 f.2 (h f d).2 (h f d).1).1
 have:=Pq p (Bd a) 1 (Bd a).length A;have:0<(Bc p (Bd a) 1).length:=by
  rw[CL,Ws];have:0<(BN p ((Bd a).getD 0 BS) (AP p ((Bd a).take 0)).length).length:=alK
  omega
 omega
def OP(s v:Y)(k:N)(fs:E Fl):Y×N:=match GL s v with
 |none=>(⟨#[]⟩,3)
 |some p=>if k≠0 then(⟨#[]⟩,k) else JS p fs
def ig(CP:N->E Fl->Prop)(s v:Y)(r:Ending):Prop:= ∃k fs,((GL s v).isSome=θ->CP k fs/\fs.length<=60/\∀f∈fs,f.1.size<=80/\f.2.size<=4000)/\r=ε (η #[G (OP s v k fs).1,I Q ((OP s v k fs).2:Z)])
def uu(T:E BF)(s v:Y)(r:Ending):Prop:=ig (zU T) s v r
def Wc(CP:N->E Fl->Prop)(w':U)(r:Ending):Prop:= ∃k fs v u,CP k fs/\r=ε (η #[v,u,I Q (k:Z)])/\Au w' v fs/\fs.length<=60/\k<=10/\∀f∈fs,f.1.size<=80/\f.2.size<=4000
def qr(s v:Y)(L:s.size<=2000000)(P:v.size<=2000000)(x:M)(f:N->E Fl->Prop)(w:U)(R:Cf w)(d:∀a,Am w a->μ F 74 #[x] a λr w'=>Am a w'/\Wc f w' r):
 μ F 40 #[G s,G v,x] w λr w'=>Am w w'/\ig f s v r:=by
 have h:=H<|XM s v L P w R;have j:=H d;cases a:GL s v with
 |none=>
  have l:C<|ig f s v (ε<|η #[G ⟨#[]⟩,I Q 3]):=Exists.intro 0 (Exists.intro [] ⟨(λi=>by rw[a] at i;cases i),by unfold OP;rw[a];rfl⟩);rw[a] at h;go_in;go_wp2_with fail;apply h.mono;rintro r y ⟨rfl,c⟩;have e:=H c;go_wp2;go_ret2;exact⟨e,l⟩
 |some p=>
  have m:=IZ a;have l:C (∀k b,f k b->b.length<=60->(∀g∈b,g.1.size<=80/\g.2.size<=4000)-> ∀x:Y×N,x=(if k≠0 then(⟨#[]⟩,k) else JS p b)->ig f s v (ε<|η #[G x.1,I Q (x.2:Z)])):=λk b f g n x o=>Exists.intro k (Exists.intro b ⟨λ_=>⟨f,g,n⟩,by unfold OP;rw[a,o]⟩)
  rw[a] at h;go_in;go_wp2_with fail;apply h.mono;rintro r y ⟨rfl,c⟩;have e:=H c;have a:=H<|j y c;go_wp2_with fail;apply a.mono;rintro r S ⟨n,o⟩;obtain⟨k,b,T,_,d,rfl,q,c,_,a⟩:=o;have g:=H<|Ag.trans e n;have z:=H<|l k b d c a;have t:=H (zC p T b A (λf d=>by have:=a f d;omega) (Yc p m b c a) S q);by_cases D:k=0
  .subst D;have u:=H (z (JS p b)<|by rw[Wx λi=>i rfl]);generalize JS p b=pk at*;obtain⟨_,_⟩:=pk;simp only at*;go_wp2_with fail;apply t.mono;rintro r w3 ⟨i,rfl⟩;have a:=H<|Ag.trans g i;go_wp2;go_ret2;exact⟨a,u⟩
  have u:=H (z (⟨#[]⟩,k)<|by rw[Wz D]);have:((k:Z) !=0)=true:=akQ
  have:¬(k:Z)=0:=A;go_wp2;go_ret2;exact⟨g,u⟩
def xX(s v:Y)(d:s.size<=2000000)(e:v.size<=2000000)(b:M)(T:E BF)(w:U)(f:Cf w)(c:∀a,Am w a->μ F 74 #[b] a λr w'=>Am a w'/\Rk T a w' r):
 μ F 40 #[G s,G v,b] w λr w'=>Am w w'/\uu T s v r:=
 qr s v d e b (zU T) w f λa b=>(c a b).mono λ_ _ h=>⟨h.1,h.2.chps⟩
abbrev bN(L:E Y)(e:BF):Bool:=decide<|Cg L e=0
def ii{e:BF}(a:Cg L e=0):[e].filter (bN L)=[e]:=by
 simp[a]
def bC{e:BF}(a:¬Cg L e=0):[e].filter (bN L)=[]:=by
 simp[a]
def TC(F:E BF):N:=(F.map λe=>e.dt.size).sum
def OQ(a b:E BF):TC (a++b)=TC a+TC b:=by simp[TC]
def TD(e:BF):TC [e]=e.dt.size:=by simp[TC]
structure ld (F:E BF):Prop where
 apart:F.Pairwise λa b=>Lv a.nm b.nm=false
 each:∀e∈F,(decide (e.nm≠Fy)&&decide (AQ e.nm=Fy))=false/\e.dt.size<=BE e.nm
 few:F.length<=60
 small:TC F<=16000
def bD(L:E Y)(T:E BF):∀i,i<=T.length->(Fg L<|T.take i).fs=((T.take i).filter<|bN L).map (λe=>(e.nm,e.dt))/\(Fg L<|T.take i).all=TC ((T.take i).filter<|bN L)
 |0,_=>by rw[abo];exact⟨rfl,rfl⟩
 |i+1,d=>by
  obtain⟨b,c⟩:=bD L T i A;rw[Fz L T i A,IU T i A,aaL,ET];split
  .rename_i a;rw[ii a,wV,OQ,TD,<-b,<-c];exact⟨rfl,rfl⟩
  rename_i a;rw[bC a,wS];exact⟨b,c⟩
def QB{T:E BF}(a:i<T.length)(b:Cg L (T.getD i AC)=0):(T.take<|i+1).filter (bN L)=(T.take i).filter (bN L)++[T.getD i AC]:=by
 rw[IU T i a,aaL,ii b]
def bE{T:E BF}(a:i<T.length)(b:¬Cg L (T.getD i AC)=0):(T.take<|i+1).filter (bN L)=(T.take i).filter (bN L):=by
 rw[IU T i a,aaL,bC b,wS]
def qs(T:E BF):∀i,i<=T.length->SK T i->ld ((T.take i).filter<|bN (Ay T))
 |0,_,_=>by rw[abo];exact⟨aaJ,λf h=>akU,wH _,wH _⟩
 |i+1,_,c=>by
  have d:=qs T i A λj _=>c j A;have g:=Le T i A λj _=>c j A;by_cases e:Cg (Ay T) (T.getD i AC)=0
  .rw[QB A e];obtain⟨j,n,o,p,k⟩:=IV<|c i A e;obtain⟨l,c⟩:=bD (Ay T) T i A;have q:=g.few;rw[l,wX] at p q;rw[c] at k;rw[MC g.tab,aar] at j;refine⟨aao.2 ⟨d.apart,aaW _ _,λa r b m=>?_⟩,λf s=>?_,by rw[Ws];show _+1<=60;omega,by rw[OQ,TD];exact k⟩
   .rw[WN] at m;subst m;have:=j a.nm (wd.2 ⟨(a.nm,a.dt),by rw[l];exact wd.2 ⟨a,r,rfl⟩,rfl⟩);simpa using this
   rcases WY.1 s with h|h
   .exact d.each f h
   rw[WN] at h;rw[h];exact⟨n,o⟩
  rw[bE A e];exact d
def ij{T:E BF}(h:ld<|T.filter (bN<|Ay T)):∀i,i<=T.length->SK T i
 |0,_=>λj b=>akX
 |i+1,_=>by
  have e:=ij h i A;intro j b f;by_cases b:j<i
  .exact e j b f
  have k:j=i:=A;subst k;have k:=Le T j A e;obtain⟨e,l⟩:=bD (Ay T) T j A;have b:T.filter (bN<|Ay T)=(T.take j).filter (bN<|Ay T)++[T.getD j AC]++(T.drop<|j+1).filter (bN<|Ay T):=by
   rw[<-QB A f,<-aaL,aau]
  rw[b] at h;have m:=(aao.1 (aao.1 h.apart).1).2.2;have b:=h.each (T.getD j AC) Ad;have f:=h.few;have n:=h.small;rw[Ws,Ws] at f;rw[OQ,OQ,TD] at n;have f:[T.getD j AC].length=1:=rfl;rw[<-k.dfault,dfault,Wx,Wx (by rw[b.1];decide),Wx A,Wx (by rw[e,wX];omega),Wx<|by rw[l];omega];intro b;obtain⟨_,c,g⟩:=wJ.1 b;rw[e] at c;obtain⟨a,d,rfl⟩:=wd.1 c;have:=m a d (T.getD j AC) Ad;rw[this] at g;cases g
def bF{n s:Y}(h:gI n s):gI s n:=by
 obtain⟨a,c,b,d,e,h4⟩:=h;refine⟨b,d,a,c,e.symm,?_⟩;rcases h4 with h4|h4|h4
 .exact .inl λe=>h4 e.symm
 .exact .inr (.inr h4)
 exact .inr (.inl h4)
def qt(a b:Y):Lv a b=Lv b a:=by
 rw[adb,Ou a.size a b<|WF _,Ou b.size b a<|WF _];exact⟨bF,bF⟩
def ld.rev{c:E BF}(h:ld c):ld c.reverse:=by
 refine⟨List.pairwise_reverse.2 (h.apart.imp λ{a b} d=>by rw[qt];exact d),λe d=>h.each e<|List.mem_reverse.1 d,by rw[acZ];exact h.few,?_⟩;have:TC c.reverse=TC c:=by simp[TC,List.sum_reverse]
 rw[this];exact h.small
def lh(T:E BF):Ay T.reverse=(Ay T).reverse:=by
 unfold Ay;rw[List.filter_reverse,List.map_reverse]
def qu(L:E Y)(e:BF):Cg L.reverse e=Cg L e:=by
 unfold Cg Ng;rw[List.any_reverse]
def TE(T:E BF):T.reverse.filter (bN<|Ay T.reverse)=(T.filter<|bN (Ay T)).reverse:=by
 rw[lh,List.filter_reverse];congr 1;refine List.filter_congr λe _=>?_
 show decide (Cg (Ay T).reverse e=0)=decide (Cg (Ay T) e=0);rw[qu]
def tA{T:E BF}(h:sb T):sb T.reverse/\(Fg (Ay T.reverse) T.reverse).fs.Perm (Fg (Ay T) T).fs:=by
 have a:=qs T T.length (WF _) h;rw[wL] at a;have b:ld<|T.reverse.filter (bN<|Ay T.reverse):=by rw[TE];exact a.rev
 refine⟨ij b T.reverse.length<|WF _,?_⟩;have a:=(bD (Ay T.reverse) T.reverse T.reverse.length<|WF _).1;have b:=(bD (Ay T) T T.length<|WF _).1;rw[wL] at a b;rw[a,b,TE,List.map_reverse];exact List.reverse_perm _
def Rk.rev{T:E BF}{w2 w3:U}{r c:Ending}{a:E Fl}(p:Rk T w w' r)(h:r=ε (η #[v,u,I Q 0]))(q:Au w' v a)(s:Rk T.reverse w2 w3 c):∃g i,c=ε (η #[g,i,I Q 0])/\Au w3 g a:=by
 rcases p with⟨_,⟨m,t, -, -, -, -,j,e⟩|⟨k,_,_,_,e,x,y,l, -⟩⟩|⟨-,e⟩
 .rw[h] at e;obtain⟨-, -,z⟩:=TB e;exact κ A j
 .rw[h] at e;obtain⟨D, -, -⟩:=TB e;subst D;have n:=Au.inj q l;subst n;obtain⟨b,o⟩:=tA k;rcases s with⟨-,⟨m,t,c, -,k,l,j, -⟩|⟨-,g,i,_,n,p,a,d, -⟩⟩|⟨f, -⟩
  .have:=b m c k;rw[l] at this;exact κ this j
  .have L:=Pz ((p.trans o).trans x.symm) a y;subst L;exact⟨g,i,n,d⟩
  rw[acZ] at f;omega
 rw[h] at e;obtain⟨-, -,z⟩:=TB e;omega
def tB{T:E BF}(R:∀e∈T,e.nm.size<=2000000){r:Ending}{a:E Fl}(n:Rk T w w' r)(S:r=ε (η #[v,u,I Q 0]))(hf:Au w' v a)(o:a.length<=60)(q:∀f∈a,f.1.size<=80/\f.2.size<=4000){c d p:Y}(hM:c.size<=2000000)(hV:d.size<=2000000)(z:GL c d=J p)(i:U)(D:∀X,Am i X->Cf X)(x:M)(s:Ei i x T.reverse)(h0:T=[]->x=K O 0 0):
 μ F 40 #[G c,G d,x] i λr w'=>Am i w'/\r=ε (η #[G (JS p a).1,I Q ((JS p a).2:Z)]):=by
 have j:∀X b h,Rk T.reverse X b h->Wc (λm f=>m=0/\f=a) b h:=λX b h k=>by
  obtain⟨v2,u2,e2,t⟩:=n.rev S hf k;exact⟨0,a,v2,u2,⟨rfl,rfl⟩,e2,t,o,A,q⟩
 refine(qr c d hM hV x (λm f=>m=0/\f=a) i (D i<|Ag.refl _ i) λX L=>?_).mono ?_
 .by_cases a:T=[]
  .rw[h0 a];refine(OO X).mono λh b k=>⟨k.1,j X b h ?_⟩;rw[a];exact k.2
  have P:0<T.reverse.length:=by
   rw[acZ];exact List.length_pos_iff.2 a
  obtain⟨g,y,rfl,l⟩:=(s.old L).slice P;exact(VF g y T.reverse (λe s=>R e<|List.mem_reverse.1 s) X (D X L) l (l 0 P).1).mono λh b k=>⟨k.1,j X b h k.2⟩
 rintro h b ⟨L,m,k,hk,rfl⟩;obtain⟨⟨rfl,rfl⟩, -⟩:=hk (by rw[z];rfl);refine⟨L,?_⟩;have e:OP c d 0 k =JS p k :=by unfold OP;rw[z];exact Wx λn=>n rfl
 rw[e]
def fk{d:M}{T:E BF}(h:∀b,P b->Md b d T)(f:P w1):∃ao cap a,d=K ao T.length cap/\(0<T.length->ao=J a)/\∀b,P b->DM b a T:=by
 rcases h w1 f with⟨e,h0⟩|⟨a,cap,e, -⟩
 .subst h0;exact⟨O,0,⟨0,0,O⟩,e,(λh=>by simp at h),λb _ _ c=>by cases c⟩
 refine⟨J a,cap,a,e,λ_=>rfl,λb c=>?_⟩;rcases h b c with⟨b, -⟩|⟨_,_,b,g⟩
 .rw[e] at b;injection b with c;cases c
 rw[e] at b;injection b with c;injection c with c;subst c;exact g
def qv{a:E Fl}(h:Au w v a):∃b d e,v=K b a.length d/\(0<a.length->b=J e)/\∀c,Am w c->Eb c e a:=by
 by_cases h0:0<a.length
 .obtain ⟨g,e,rfl,_,j⟩:=h.slice h0;refine⟨_,e,⟨g,0,O⟩,rfl,λ_=>rfl,λc a i f=>?_⟩;obtain⟨e,k⟩:=j i f;rw[we,WQ];exact⟨Ap a e,Ap a k⟩
 obtain⟨b,d,rfl⟩:=Dk h;exact⟨b,d,⟨0,0,O⟩,rfl,λh=>κ h h0,λc _ i f=>κ f A⟩
def lp{p:Y}(e:p.size<=1000){a:E Fl}(h:∀f∈a,f.1.size<=80/\f.2.size<=4000):∀x∈(Bd a).map (LB p),Du.ok x:=by
 intro x c;obtain⟨_,b,rfl⟩:=wd.1 c;obtain⟨f,d,rfl⟩:=wd.1 b;obtain⟨_,_⟩:=h f d;have:=FG f.2;have a:(p++f.1).size<=4000000:=akV
 unfold GX LB;split
 .exact ⟨a,by show(8:N)<=_;omega,by show BJ f.2<=_;omega,by show(CZ f.2).size<=_;omega,by show f.2.size<=_;omega,by show(CZ f.2).size<=_;omega⟩
 exact⟨a,by show(0:N)<=_;omega,by show BJ f.2<=_;omega,by show f.2.size<=_;omega,by show f.2.size<=_;omega,by show f.2.size<=_;omega⟩
def Uf(T:E BF)(k:N)(h:k<T.length):(T.drop k).reverse=(T.drop<|k+1).reverse++[T.getD k AC]:=by
 rw[wN h,List.reverse_cons,Wq,Wv h];rfl
def qw{s:WS}{RF RL RT:E (Value×Y)}(b0:s.m.size<=2000000)(b1:s.v.size<=2000000)(lv tv av:Value)(T:E BF)(m4:T.length<=1100000)(hT:∀e∈T,e.nm.size<=2000000/\e.dt.size<=2000000)(w:U)(h:CI w1 w b c s RF RL RT)(hG:∀a0,Ag (λk=>k=b) w1 a0->Fr a0)(LW:U->Prop)
 (b2:μ F 33 #[lv] w λr w2=>r=ε (η #[tv,av])/\Am w w2/\LW w2)(e2:∀a0 W',LW a0->Am a0 W'->LW W')
 (a9:∀a0,LW a0->Cf a0->μ F 74 #[tv] a0 λr w'=>Am a0 w'/\Rk T a0 w' r)
 (b3:∀a0,LW a0->CI w1 a0 b c s RF RL RT->μ F 35 #[.pointer<|J ⟨b,0,O⟩,av,lv] a0 λr w'=>r=ε (ζ θ)/\Kj [wT,SM,9,tE] a0 w'/\oR w1 w' b (c+1) s.base RF RL)
 (e3:∀a0,Ag (λk=>k=b) w1 a0->Md a0 lv T):
 μ F 17 #[.pointer<|J ⟨b,0,O⟩,lv] w λr w'=>r=ε (ζ θ)/\fh w1 w' b (c+1) s:=by
 obtain⟨_,_,_,j8,c0,f9⟩:=fk e3 (Ag.refl (λk=>k=b) w1);subst j8;have g0:=H c0;have g1:=H f9;have e4:C (∀e∈T,e.nm.size<=2000000):=λe he=>(hT e he).1
 have e5:C (∀a0,Ag (λk=>k=b) w1 a0->Cf a0):=λa0 hW=>(hG a0 hW).2
 have HL:=H h;have O9:=H b2;have g2:=H e2;have g3:C (∀a0,Am w a0->LW a0->μ F 40 #[G s.m,G s.v,tv] a0 λr w'=>Am a0 w'/\uu T s.m s.v r):=λa0 ho hl=>xX s.m s.v b0 b1 tv T a0 (hG a0 (h.old ho).only).2 λV hV=>a9 V (e2 _ _ hl hV) (hG V ((h.old ho).old hV).only).2
 have g4:=H b3;have j9:=H λa0 hW=>PH _ T hT a0<|e3 a0 hW;have a7:=H λa0=>Tf s.m s.v b0 b1 a0;have b4:=H λa0=>OG s.m s.v b0 b1 a0;have b5:C (∀a0 s' a2 a3 a4 c',CI w1 a0 b c' s' a2 a3 a4 ->s'.base=s.base->a0.cell? ⟨b,0,O⟩=J (G s.m)/\a0.cell? ⟨b,1,O⟩=J (G s.v)/\a0.cell? ⟨b,2,O⟩=J (G s.ar)):=λa0 s' a2 a3 a4 c' hw hb=>by
  refine⟨?_,?_,?_⟩
  .rw[Wu a0 b 0 _ _ (0,0) hw.hp,<-Tz hb];rfl
  .rw[Wu a0 b 1 _ _ (0,0) hw.hp,<-TA hb];rfl
  rw[Wu a0 b 2 _ _ (0,0) hw.hp,<-Yb hb];rfl
 have j8:=h.inb;have c4:=H b0;have c5:=H b1;clear h b2 e2 a9 b3 e3 hG hT c0 f9;obtain⟨M,hM⟩:∃M,s.m=M:=⟨_,rfl⟩;obtain⟨V,hV⟩:∃V,s.v=V:=⟨_,rfl⟩;obtain⟨A,hA⟩:∃A,s.ar=A:=⟨_,rfl⟩;rw[hM,hV] at g3 a7 b4;rw[hM,hV,hA] at b5;rw[hM] at c4;rw[hV] at c5;have k0:=H hM;have k1:=H hV;clear hM hV hA b0 b1;go_in;go_wp2_with fail;apply O9.mono;rintro r w2 ⟨rfl,c6,e6⟩;obtain⟨W0,n⟩:∃W0,W0=w2:=⟨_,rfl⟩;obtain⟨r0,r1,r2⟩:=b5 w2 s RF RL RT c (HL.old c6) rfl;have Z4:∀X X':U,(X.cell? ⟨b,0,O⟩=J (G M)/\X.cell? ⟨b,1,O⟩=J (G V)/\X.cell? ⟨b,2,O⟩=J (G A)/\Am W0 X)->Am X X'->(X'.cell? ⟨b,0,O⟩=J (G M)/\X'.cell? ⟨b,1,O⟩=J (G V)/\X'.cell? ⟨b,2,O⟩=J (G A)/\Am W0 X'):=λX X' h ho=>⟨Ap ho h.1,Ap ho h.2.1,Ap ho h.2.2.1,h.2.2.2.trans ho⟩
 have j:w2.drew.cell? ⟨b,0,O⟩=J (G M)/\w2.drew.cell? ⟨b,1,O⟩=J (G V)/\w2.drew.cell? ⟨b,2,O⟩=J (G A)/\Am W0 w2.drew:=⟨r0,r1,r2,by rw[n];exact(Ag.refl _ w2).drew⟩;have g5:=H<|g3 w2.drew c6.drew (g2 _ _ e6 ((Ag.refl _ w2).drew));have k3:=H c6;have k4:=H e6;clear O9 c6 e6 r0 r1 r2;go_wp2_with fail;refine Ai (S:=λX=>X.cell? ⟨b,0,O⟩=J (G M)/\X.cell? ⟨b,1,O⟩=J (G V)/\X.cell? ⟨b,2,O⟩=J (G A)/\Am W0 X) (L:=14) B ?_;refine tk 0 15 (.pointer<|J ⟨b,0,O⟩) 32 j ?_;refine tk 1 15 (.pointer<|J ⟨b,0,O⟩) 33 j ?_;refine tk 2 15 (.pointer<|J ⟨b,0,O⟩) 34 j ?_;refine tk 3 15 (G M) 35 j ?_;refine tk 4 15 (.pointer<|J ⟨b,0,O⟩) 36 j ?_;refine tk 5 15 (.pointer<|J ⟨b,0,O⟩) 37 j ?_;refine tk 6 15 (.pointer<|J ⟨b,1,O⟩) 38 j ?_;refine tk 7 15 (G V) 39 j ?_;refine tk 8 15 tv 40 j ?_;refine Ah (i:=9) B ?_;refine WE rfl λK' l=>?_;go_simp;apply g5.mono;rintro r w3 ⟨ho,k,fs,g6,rfl⟩;obtain⟨pa,pn,e7⟩:∃pa pn,OP M V k fs=(pa,pn):=⟨_,_,rfl⟩;rw[e7];have a9:=Z4 _ _ j ho;refine l _ _ ⟨λ_=>a9,?_⟩;clear l;refine tk 10 15 (η #[G pa,I Q (pn:Z)]) 31 a9 ?_;refine tk 11 15 (G pa) 42 a9 ?_;refine tk 12 15 (I Q (pn:Z)) 43 a9 ?_;refine tk 13 15 (G pa) 7 a9 ?_;refine Ah (i:=14) B ?_;refine WE rfl λK' l=>?_;go_simp;refine l _ _ ⟨λh=>κ rfl h,?_⟩;clear l;refine Aj B ?_;have b0:Am w2 w3:=(Ag.refl _ w2).drew.trans ho;have g7:=H g6;have c7:=H e7;have g8:=H<|g4 w3 (g2 _ _ k4 b0) (HL.old<|k3.trans b0);clear g5 a9 j Z4 ho g6 e7 b0 g4 n;go_wp2_with fail;apply g8.mono;rintro r w4 ⟨rfl, -,s4,_,a9,b0⟩;have k6:=H a9;have x:=H b0;have g9:=H<|j9 w4 a9.only;clear g8 a9 b0;go_wp2_with fail;apply g9.mono;rintro r w5 ⟨h6,e8⟩;obtain⟨k5,_,_,_,d7,rfl,d8,k7,_,d9⟩:=e8.chps;have c8:=H e8;have a9:=H d7;have c9:=H d8;have a5:=H d9;have HL5:=H<|k6.old h6;obtain⟨r0,r1,r2⟩:=b5 w5 _ _ _ _ _ HL5 x;obtain⟨W0,n⟩:∃W0,W0=w5:=⟨_,rfl⟩;have Z4:∀X X':U,(X.cell? ⟨b,0,O⟩=J (G M)/\X.cell? ⟨b,1,O⟩=J (G V)/\X.cell? ⟨b,2,O⟩=J (G A)/\Am W0 X)->Am X X'->(X'.cell? ⟨b,0,O⟩=J (G M)/\X'.cell? ⟨b,1,O⟩=J (G V)/\X'.cell? ⟨b,2,O⟩=J (G A)/\Am W0 X'):=λX X' h ho=>⟨Ap ho h.1,Ap ho h.2.1,Ap ho h.2.2.1,h.2.2.2.trans ho⟩
 have j:w5.drew.cell? ⟨b,0,O⟩=J (G M)/\w5.drew.cell? ⟨b,1,O⟩=J (G V)/\w5.drew.cell? ⟨b,2,O⟩=J (G A)/\Am W0 w5.drew:=⟨r0,r1,r2,by rw[n];exact(Ag.refl _ w5).drew⟩;clear g9 h6 e8 d7 d8 d9 r0 r1 r2;cases a2:GL M V with
 |none=>
  have a3:(pa,pn)=((⟨#[]⟩:Y),3):=by have hq:=uh c7;unfold OP at hq;rw[a2] at hq;exact hq.symm
  injection a3 with a3 a8;subst a3 a8;rw[a2] at a7;have HM5:=H<|a7 w5.drew;clear a2 c7 a7;exact aeE
 |some p=>
  obtain⟨h7,_,_⟩:=g7 (by rw[a2];rfl);obtain⟨_,_,h8,h9⟩:=h7 _ _ _ c8;obtain⟨k8,k9,_⟩:=TB h8;have i0:k5=k:=Aa;subst i0 k8 k9;have l0:=Au.inj h9 c9;subst l0;have d0:C ((pa,pn)=if k5≠0 then((⟨#[]⟩:Y),k5) else JS p fs):=by have hq:=uh c7;unfold OP at hq;rw[a2] at hq;exact hq.symm
  have l1:=IZ a2;have e9:=b4;rw[<-PP a2] at e9;clear b4;rw[a2] at a7;have HM5:=H<|a7 w5.drew;have b6:=H a2;clear a2 c7 a7 g7 h7 h8 h9;by_cases i1:k5=0
  .subst i1;have a4:=H ((d0.trans (Wx λh=>h rfl)).symm);have d1:C (∀a0 a6,Ag (λk=>k=b) w1 a0->Ei a0 a6 T.reverse->(T=[]->a6=K O 0 0)->μ F 40 #[G M,G V,a6] a0 λr w'=>Am a0 w'/\r=ε (η #[G pa,I Q (pn:Z)])):=λa0 a6 hW he h0=>by
    have h:=tB e4 c8 rfl c9 k7 a5 c4 c5 b6 a0 (λX hX=>e5 X<|hW.trans (Ag.oldW hX)) a6 he h0;rw[uh a4] at h;exact h
   clear d0 c8 e4 e5 c4 c5 b6;go_wp2_with fail;refine Ai (S:=λX=>X.cell? ⟨b,0,O⟩=J (G M)/\X.cell? ⟨b,1,O⟩=J (G V)/\X.cell? ⟨b,2,O⟩=J (G A)/\Am W0 X) (L:=9) B ?_;refine tk 0 10 (.pointer<|J ⟨b,0,O⟩) 54 j ?_;refine tk 1 10 (.pointer<|J ⟨b,0,O⟩) 55 j ?_;refine tk 2 10 (.pointer<|J ⟨b,0,O⟩) 56 j ?_;refine tk 3 10 (G M) 57 j ?_;refine tk 4 10 (.pointer<|J ⟨b,0,O⟩) 58 j ?_;refine tk 5 10 (.pointer<|J ⟨b,0,O⟩) 59 j ?_;refine tk 6 10 (.pointer<|J ⟨b,1,O⟩) 60 j ?_;refine tk 7 10 (G V) 61 j ?_;refine Ah (i:=8) B ?_;refine WE rfl λK' l=>?_;go_simp;apply HM5.mono;rintro r w6 ⟨rfl,ho⟩;have P:=Z4 _ _ j ho;refine l _ _ ⟨λ_=>P,?_⟩;clear l;refine Ah (i:=9) B ?_;refine WE rfl λK' l=>?_;go_simp;refine l _ _ ⟨λh=>κ rfl h,?_⟩;clear l;refine Aj B ?_;have a2:Am w5 w6:=by have:=P.2.2.2;rw[n] at this;exact this
   have i2:=H<|HL5.old a2;have e0:=H<|Au.old c9 a2;have j:w6.drew.cell? ⟨b,0,O⟩=J (G M)/\w6.drew.cell? ⟨b,1,O⟩=J (G V)/\w6.drew.cell? ⟨b,2,O⟩=J (G A)/\Am W0 w6.drew:=⟨P.1,P.2.1,P.2.2.1,P.2.2.2.drew⟩;have i3:=H<|e9 w6.drew;clear P ho HM5 a2 c9 HL5;go_wp2_with fail;refine Ai (S:=λX=>X.cell? ⟨b,0,O⟩=J (G M)/\X.cell? ⟨b,1,O⟩=J (G V)/\X.cell? ⟨b,2,O⟩=J (G A)/\Am W0 X) (L:=9) B ?_;refine tk 0 10 (.pointer<|J ⟨b,0,O⟩) 86 j ?_;refine tk 1 10 (.pointer<|J ⟨b,0,O⟩) 87 j ?_;refine tk 2 10 (.pointer<|J ⟨b,0,O⟩) 88 j ?_;refine tk 3 10 (G M) 89 j ?_;refine tk 4 10 (.pointer<|J ⟨b,0,O⟩) 90 j ?_;refine tk 5 10 (.pointer<|J ⟨b,0,O⟩) 91 j ?_;refine tk 6 10 (.pointer<|J ⟨b,1,O⟩) 92 j ?_;refine tk 7 10 (G V) 93 j ?_;refine Ah (i:=8) B ?_;refine WE rfl λK' l=>?_;go_simp;apply i3.mono;rintro r w7 ⟨rfl,i4⟩;have ho:Am w6.drew w7:=by rw[i4];exact Ag.refl _ _
   clear i4;have b0:=Z4 _ _ j ho;refine l _ _ ⟨λ_=>b0,?_⟩;clear l;refine Ah (i:=9) B ?_;refine WE rfl λK' l=>?_;go_simp;refine l _ _ ⟨λh=>κ rfl h,?_⟩;clear l;refine Aj B ?_;have a9:Am w6 w7:=((Ag.refl _ w6).drew).trans ho;have a2:=H<|Au.old e0 a9;have f0:=H<|i2.old a9;obtain⟨_,fc,fa,l2,d2,a7⟩:=qv a2;have f1:=H d2;have f2:=H a7;have f3:C (∀i,i<fs.length->(fs.getD i default).1.size<=80/\(fs.getD i default).2.size<=4000):=λi hi=>by
    rw[Wq,Wv hi];exact a5 _<|WJ hi
   clear e0 a2 i2 d2 a7 i3 e9 b0 j Z4 ho a9;subst l2;go_wp2;go_loopw [14,16,17,18,19,20] (λf4 xi _ _ _ _ wr=>∃(i:N) (its:E Du) (ao:Option Addr) (d3:N),i<=fs.length/\xi=I Q (i:Z)/\f4=K ao its.length d3/\C (TH w7 wr (K ao its.length d3) its)/\C (its=(Bd<|fs.take i).map (LB p))/\C (its.length=i)) λ_ a2 _ _ _ _ _=>fs.length-(intOf a2).toNat
   .exact ⟨0,[],O,0,Aa,rfl,rfl,TH.start<|Ag.refl _ _,H (by simp[Bd]),H rfl⟩
   obtain⟨i,its,ao,d3,hi,rfl,rfl,HN,HK,O9⟩:=hrel;have m5:its.length<=60:=by have:=uh O9;omega
   have d4:=H HN.2.2;by_cases f5:i<fs.length
   .have i5:(i:Z)<fs.length:=Aa;have d2:=f1 Aa;subst d2;obtain⟨c1,c2⟩:=f2 wr d4 i f5;obtain⟨_,_⟩:=f3 i f5;have Q8:=H<|Qk fs i f5;clear f2 f3 f1 d1 a5 f0 d4 a4;generalize fs.getD i default=f at*;obtain⟨nm,d⟩:=f;simp only at*;have t:=H (λa0=>Gi d a0<|by unfold maxLen;omega);have i6:=FG d;obtain⟨ck,f6⟩:∃ck,BJ d=ck:=⟨_,rfl⟩;rw[f6] at t i6;have V4:=H f6;clear f6;have a1:∀a0,(Op.stringOp .add p nm).run F a0=.ok (G<|p++nm) a0:=λa0=>WR a0 _ _ Aa
    obtain⟨R,d5⟩:∃R,p++nm=R:=⟨_,rfl⟩;have m3:R.size<=1080:=(by rw[<-d5,WC];omega);rw[d5] at a1;have HQN:=H d5;clear d5;have j:wr.drew.cell? (fa.add<|i*2)=J (G nm)/\True:=⟨c1,trivial⟩;have G3:∀o,(wr.drew.alloc o).cell? (fa.add<|i*2)=J (G nm)/\True:=λo=>⟨Ap (((Ag.refl _ wr).drew).alloc o) c1,trivial⟩
    go_wp2_with fail;refine Ai (S:=λX=>X.cell? (fa.add<|i*2)=J (G nm)/\True) (L:=17) B ?_;refine tk 0 18 (G p) 106 j ?_;refine tk 1 18 (K (J fa) fs.length fc) 107 j ?_;refine tk 2 18 (I Q (i:Z)) 108 j ?_;refine tk 3 18 (.pointer<|J (fa.add<|i*2)) 109 j ?_;refine tk 4 18 (.pointer<|J (fa.add<|i*2)) 110 j ?_;refine tk 5 18 (G nm) 111 j ?_;refine tk 6 18 (G R) 112 j ?_;refine tk 7 18 (G d) 113 j ?_;refine tk 9 18 (G d) 115 j ?_;refine tk 10 18 (I Q (d.size:Z)) 116 j ?_;refine tk 11 18 (G d) 117 j ?_;refine tk 12 18 (I Q (d.size:Z)) 118 j ?_;refine tk 14 18 (G d) 120 j ?_;refine Nw (i:=8) (j:=16) B ?_ ?_
    .refine WE rfl λK' l=>?_;go_simp;apply(t _).mono;rintro r w3 ⟨rfl,rfl⟩;refine l _ _ ⟨λ_=>j,?_⟩;clear l;refine tk 13 18 (.agg #[G R,I Q 0,I Q (ck:Z),I Q (d.size:Z),I Q (d.size:Z)]) 119 j ?_;refine tk 15 18 (.agg #[G R,I Q 0,I Q (ck:Z),I Q (d.size:Z),I Q (d.size:Z),G d]) 121 j ?_;refine Ah (i:=16) B ?_;refine WE rfl λK' l=>?_;go_simp;refine l _ _ ⟨λ_=>G3 _,?_⟩;clear l;exact aeo
    refine WE rfl λK' l=>?_;go_simp;refine l _ _ ⟨λ_=>G3 _,?_⟩;clear l;refine Ah (i:=8) B ?_;refine WE rfl λK' l=>?_;go_simp;apply(t _).mono;rintro r w3 ⟨rfl,rfl⟩;refine l _ _ ⟨λ_=>G3 _,?_⟩;clear l;refine tk 13 18 (.agg #[G R,I Q 0,I Q (ck:Z),I Q (d.size:Z),I Q (d.size:Z)]) 119 (G3 _) ?_;refine tk 15 18 (.agg #[G R,I Q 0,I Q (ck:Z),I Q (d.size:Z),I Q (d.size:Z),G d]) 121 (G3 _) ?_;exact aeo
   have i5:¬(i:Z)<fs.length:=Aa;have f7:C<|its=(Bd fs).map (LB p):=by
    have h:=uh HK;have a2:i=fs.length:=Aa;rw[a2,wL] at h;exact h
   have i7:∀a6∈its,Du.ok a6:=by have h:=uh f7;rw[h];exact lp l1 a5
   obtain⟨_,g,_,l3,i8,e1⟩:=HN.any;injection l3 with i9 j0 j1;subst i9 j1;have HJ:=H (DP ao g d3 its i8 Aa i7 wr λa6 hj=>e1 Aa a6 hj);have d6:C (JS p fs=if 40000<(Cy its).size then(⟨#[]⟩,1) else(Cy its,0)):=by
    have h:=uh f7;have e:Cy its=An (BQ p<|Bd fs):=(by rw[h];exact Ts p<|Bd fs);unfold C JS;rw[e,AG]
   have j2:=H<|f0.old d4;clear j0 i8 e1 i7 f7 HN HK O9 f2 f1 f3 a5 f0 d4;generalize Cy its=z at*;go_wp2_with fail;apply HJ.mono;rintro r w8 ⟨rfl,j3⟩;have a0:=j2.old j3;clear HJ j3 j2;by_cases hz:40000<z.size
   .have l4:(40000:Z)<(z.size:Z):=Aa;have a3:=(uh a4).symm.trans<|d6.trans (Wz hz);injection a3 with a3 a8;subst a3 a8;have HX:C<|fh w1 w8 b (c+1) s:=Exists.intro s4<|Exists.intro _ (Exists.intro _<|Exists.intro _ ⟨⟨s.ar,x,.inl rfl⟩,a0⟩);clear a0 d1 a4 d6;exact aeX
   have l4:¬(40000:Z)<(z.size:Z):=Aa;have a3:=(uh a4).symm.trans<|d6.trans (Wx hz);injection a3 with a3 a8;subst a3 a8;have k2:w8.cell? ⟨b,2,O⟩=J (G s4.ar):=by rw[Wu _ b 2 _ _ (0,0) a0.hp];rfl
   have l5:=WK w8 b 2 _ _ a0.hp;have j4:=a0.inb;have h1:=WL w8 b 2 _ _ (G pa) a0.hp;have f8:=H<|a0.rec_ (s':={s4 with ar:=pa}) (Aq _ b 2 _) h1 (WF _) rfl rfl rfl rfl rfl rfl;clear h1 a4 d6 a0;obtain⟨z,l6⟩:∃z,pa=z:=⟨_,rfl⟩;subst l6;go_wp2_with fail;clear k2 l5 j4;generalize w8.setCell ⟨b,2,O⟩ (G pa)=w9 at*;have l7:C<|Ei w9 (K O 0 0) (T.drop ((T.length:Z)-1+1).toNat).reverse:=by
    unfold C;rw[show((T.length:Z)-1+1).toNat=T.length by omega,List.drop_length];exact WZ w9 0 _ 3
   go_loopw [22,23] (λf4 a0 wr=>∃b9:Z,a0=I Q b9/\ -1<=b9/\b9<(T.length:Z)/\C (Ei wr f4 (T.drop (b9+1).toNat).reverse)/\C (Am w9 wr)/\C (∀k,f4.ownBlock=J k->w9.heap.size<=k)/\C (b9=(T.length:Z)-1->f4=K O 0 0)) λ_ a0 _=>(intOf a0+1).toNat
   .exact ⟨(T.length:Z)-1,rfl,Aa,Aa,l7,Ag.refl _ w9,(λk hk=>by cases hk),λ_=>rfl⟩
   obtain⟨b9,rfl,_,_,HE,HO,HB,HZ⟩:=hrel;by_cases h0:0<=b9
   .obtain ⟨k,hk⟩:∃k:N,b9=(k:Z):=⟨b9.toNat,Aa⟩;subst hk;have j5:k<T.length:=Aa;have a0:(k:Z)>=0:=h0;have c0:=g0 Aa;subst c0;obtain⟨c1,c2,c3⟩:=g1 wr (f8.only.trans<|Ag.oldW HO) k j5;have HD:=H<|Uf T k j5;have b7:C<|Ei wr u22 (T.drop<|k+1).reverse:=by have h:=uh HE;rw[show((k:Z)+1).toNat=k+1 by omega] at h;exact h
    have a0:(T.drop<|k+1).reverse.length<=1100000:=(by rw[acZ,aad];omega);generalize(T.drop<|k+1).reverse=L,T.getD k AC=e at*;obtain⟨nm,ln,dt⟩:=e;simp only at c1 c2 c3;have hA:Am wr<|wr.alloc (W #[G nm,ζ ln,G dt] 35):=(Ag.refl _ wr).alloc _;have l8:=H<|b7.old hA;have l9:=H<|HO.trans hA
    have m0:C<|eJ (wr.alloc<|W #[G nm,ζ ln,G dt] 35) (K (J ⟨wr.heap.size,0,O⟩) 1 1) [⟨nm,ln,dt⟩]:=⟨J ⟨wr.heap.size,0,O⟩,1,rfl,(λe=>by cases e),λa ea a6 f4 hu=>by
     injection ea with ea;subst ea;exact AD wr [G nm,ζ ln,G dt] _ a6 f4 hu⟩
    clear hA HE b7 HO;go_wp2_with (at_builtin;refine OH rfl (.tmp 169) (.tmp 174) rfl u22 _ L [⟨nm,ln,dt⟩] rfl rfl l8 m0 ako ?_;intro v2 w2 a0 a2 a4;have a5:=H<|pE l9 HB a2 a4;have a7:=H a0;clear a0 a2 a4);have a0:C<|Ei w2 v2 (T.drop ((k:Z)-1+1).toNat).reverse:=by
     have h:=uh a7;unfold C;rw[show((k:Z)-1+1).toNat=k by omega,uh HD];exact h
    go_roundw
    .exact ⟨(k:Z)-1,by go_num,Aa,Aa,a0,a5.1,a5.2,λh=>Aa⟩
    simp[intOf]
   have m1:b9= -1:=Aa;subst m1;have b7:C<|Ei wr u22 T.reverse:=uh HE;have f4:=f8.only.trans (Ag.oldW (S:=λk=>k=b) HO.drew);have j6:C (μ F 40 #[G M,G V,u22] wr.drew λr w'=>Am wr.drew w'/\r=ε (η #[G pa,I Q 0])):=d1 wr.drew u22 f4 (b7.old (Ag.refl _ wr).drew) (λh=>HZ<|by rw[h];rfl);have a6:=f8.old HO;obtain⟨W0,n⟩:∃W0,W0=wr:=⟨_,rfl⟩;have Z4:∀X X':U,(X.cell? ⟨b,0,O⟩=J (G M)/\X.cell? ⟨b,1,O⟩=J (G V)/\X.cell? ⟨b,2,O⟩=J (G pa)/\Am W0 X)->Am X X'->(X'.cell? ⟨b,0,O⟩=J (G M)/\X'.cell? ⟨b,1,O⟩=J (G V)/\X'.cell? ⟨b,2,O⟩=J (G pa)/\Am W0 X'):=λX X' h ho=>⟨Ap ho h.1,Ap ho h.2.1,Ap ho h.2.2.1,h.2.2.2.trans ho⟩
   have j:wr.drew.cell? ⟨b,0,O⟩=J (G M)/\wr.drew.cell? ⟨b,1,O⟩=J (G V)/\wr.drew.cell? ⟨b,2,O⟩=J (G pa)/\Am W0 wr.drew:=⟨by
    show wr.cell? _=_;rw[Wu wr b 0 _ _ (0,0) a6.hp,<-uh k0,<-Tz x];rfl,by
    show wr.cell? _=_;rw[Wu wr b 1 _ _ (0,0) a6.hp,<-uh k1,<-TA x];rfl,by
    show wr.cell? _=_;rw[Wu wr b 2 _ _ (0,0) a6.hp];rfl,by rw[n];exact(Ag.refl _ wr).drew⟩
   have j7:=H a6;clear a6 f4 d1 HE b7 HB HZ g1 g0 h0;go_wp2_with fail;refine Ai (S:=λX=>X.cell? ⟨b,0,O⟩=J (G M)/\X.cell? ⟨b,1,O⟩=J (G V)/\X.cell? ⟨b,2,O⟩=J (G pa)/\Am W0 X) (L:=14) B ?_;refine tk 0 15 (.pointer<|J ⟨b,0,O⟩) 177 j ?_;refine tk 1 15 (.pointer<|J ⟨b,0,O⟩) 178 j ?_;refine tk 2 15 (.pointer<|J ⟨b,0,O⟩) 179 j ?_;refine tk 3 15 (G M) 180 j ?_;refine tk 4 15 (.pointer<|J ⟨b,0,O⟩) 181 j ?_;refine tk 5 15 (.pointer<|J ⟨b,0,O⟩) 182 j ?_;refine tk 6 15 (.pointer<|J ⟨b,1,O⟩) 183 j ?_;refine tk 7 15 (G V) 184 j ?_;refine tk 8 15 u22 185 j ?_;refine Ah (i:=9) B ?_;refine WE rfl λK' l=>?_;go_simp;apply j6.mono;rintro r m2 ⟨ho,rfl⟩;have a0:=Z4 _ _ j ho;refine l _ _ ⟨λ_=>a0,?_⟩;clear l;refine tk 10 15 (η #[G pa,I Q 0]) 176 a0 ?_;refine tk 11 15 (G pa) 187 a0 ?_;refine tk 12 15 (I Q 0) 188 a0 ?_;refine tk 13 15 (G pa) 24 a0 ?_;refine Ah (i:=14) B ?_;refine WE rfl λK' l=>?_;go_simp;refine l _ _ ⟨λh=>κ rfl h,?_⟩;clear l;refine Aj B ?_;have HX:C<|fh w1 m2 b (c+1) s:=Exists.intro _ (Exists.intro _ (Exists.intro _ (Exists.intro _ ⟨⟨_,qo x _,.inr<|by show pa.size<=_;omega⟩,j7.old<|by have:=a0.2.2.2;rw[n] at this;exact this⟩)));clear a0 ho j6 j Z4;exact aeX
  have a3:=d0.trans<|Wz i1;injection a3 with a3 a8;subst a3 a8;have m6:((pn:Z) !=0)=true:=akQ
  have a0:¬(pn:Z)=0:=Aa;clear d0 c8 e4 e5 c4 c5 b6;exact aeE
def xY{s:WS}{j p q:E (M×Y)}(hc:c<=99999990)(u:s.m.size<=2000000)(y:s.v.size<=2000000)(x:M)(w:U)(t:CI w1 w b c s j p q)(hG:∀W,Ag (λk=>k=b) w1 W->Fr W)(j:QN (λW=>Ag (λk=>k=b) w1 W) x):
 μ F 17 #[V<|J ⟨b,0,O⟩,x] w λr w'=>r=ε (ζ θ)/\fh w1 w' b (c+1) s:=by
 obtain⟨T,n,P,l⟩:=j;by_cases h0:T=[]
 .subst h0;obtain⟨R,i,e,h1⟩:∃R i,x=K R 0 i/\(x=K O 0 0\/ ∃a i,x=K (J a) 0 i):=by
   rcases l w1 (Ag.refl _ _) with⟨e,_⟩|⟨f,d,e,_⟩
   .exact ⟨O,0,e,.inl e⟩
   exact⟨J f,d,e,.inr ⟨f,d,e⟩⟩
  refine qw u y x DV DV [] n P w t hG (λ_=>True) ?_ (λ_ _ _ _=>trivial) ?_ ?_ l
  .apply (ae x w h1).mono;rintro r w2 ⟨rfl,rfl⟩;exact⟨rfl,Ag.refl _ _,trivial⟩
  .intro W _ _;exact OO W
  intro W _ g;rw[e];exact af (wq:=w) A W g R i t.rt.2.2
 have z:0<T.length:=by cases T with|nil=>exact κ rfl h0|cons _ _=>simp
 obtain⟨f,d,e⟩:∃f d,x=K (J f) T.length d:=aii;have D:∀W,Ag (λk=>k=b) w1 W->DM W f T:=λW g=>agP
 refine qw u y x (K (J ⟨w.heap.size,0,O⟩) T.length<|T.length+2) (K (J ⟨w.heap.size,0,O⟩) (T.length+2)<|T.length+2) T n P w t hG (λW=>∃h,W.heap[w.heap.size]? =J (.cells h tE (0,0))/\h.size=(T.length+2)*3/\SR h (T++[SS,ST])) ?_ ?_ ?_ ?_ l
 .rw[e];apply(ui f d T z n w<|D w t.only).mono;rintro r w2 ⟨rfl,S,h,a0,L,a1⟩;exact⟨rfl,S,h,a0,L,a1⟩
 .rintro W u ⟨h,i,p,j⟩ q;exact⟨h,AH q i,p,j⟩
 .rintro W ⟨h,i,p,j⟩ q;exact VF w.heap.size (T.length+2) T (λe u=>(P e u).1) W q (j.left.ents i) (Wt.1 i).1
 rintro W ⟨h,i,p,j⟩ g;rw[e];exact uj (wq:=w) A W g w.heap.size h T f d n i p j (D W g.only) (WF _) t.only.size t.rt.2.2
def Wp:Wb:=by
 intro _ b n S h _ _ f c d a g s t x y w h i j;have HC:=H<|xY f c d x _ (h.old ((Ag.refl _ w).alloc<|W (Ci 6 a g s t x y) 41)) i j;exact aks
def QU(w:U)(n:N):U:={w with heap:=w.heap.extract 0 n}
def DC(h:n<=w.heap.size):(QU w n).heap.size=n:=by
 show(w.heap.extract 0 n).size=n;rw[Array.size_extract];omega
def bG(a:k<n)(h:n<=w.heap.size):(QU w n).heap[k]? =w.heap[k]? :=by
 show(w.heap.extract 0 n)[k]? =_;rw[Array.getElem?_extract];rw[Wz A,WQ]
def bH(S:N->Prop)(h:n<=w.heap.size):Ag S (QU w n) w:=⟨rfl,rfl,rfl,by rw[DC h];exact h,λ_ a _=>(bG (by rw[DC h] at a;exact a) h).symm⟩
def bI(h:Ag S w1 w):Ag S w1<|QU w w1.heap.size:=⟨h.os,h.tape,h.output,by rw[DC h.size];exact WF _,λk a b=>(bG a h.size).trans<|h.block k a b⟩
def qx(h:Ag S w1 w)(a:S b)(k:Ag (λk=>k=b) (QU w w1.heap.size) w'):Ag S w1 w':=(bI h).trans (k.mono λ_ _ e=>by rw[e];exact a)
def CI.ghost{s:WS}{d:E (M×Y)}(h:CI w1 w b c s j p d):CI w1 w b c {s with z:=w} j p d:=⟨h.only,h.lt,h.hp,h.rf,h.rl,h.rt,h.new,h.ap1,h.ap2,h.ap3,h.few,λ_ _ _ _ h=>h⟩
def CI.rebase{w0:U}{s:WS}{d:E (M×Y)}(h:CI w0 w b c s j p d)(e:w0.heap.size=n):CI (QU w n) w b c s j p d:=by
 have a:n<=w.heap.size:=by rw[<-e];exact h.only.size
 exact⟨bH _ a,by rw[DC a,<-e];exact h.lt,h.hp,h.rf,h.rl,h.rt,λr d k f=>by rw[DC a,<-e];exact h.new r d k f,h.ap1,h.ap2,h.ap3,h.few,h.dk⟩
def CI.disk{s:WS}{d:E (M×Y)}{T:N->Prop}(h:CI (QU w n) w b c s j p d)(q:n<=w.heap.size)(l:Ag T w w')(i:∀k,k<w.heap.size->T k-> ∃f e,(e=ee\/e=qA)/\w.heap[k]? =J (W f e (0,0))):CI (QU w' n) w' b c {s with z:=w'} j p d:=by
 have j:∀{e:ν} {g:N} {d:φ M},e≠ee->e≠qA->w.heap[g]? =J (W d e (0,0))->¬T g:=λh1 h2 hg o=>by
  obtain⟨f,_,he,a⟩:=i _ (Wt.1 hg).1 o;exact ajf
 have i:∀{e:ν} {k:N} {v:M} {m:N} {xs:E M},e≠ee->e≠qA->w.ownsRow 0 e k v m xs-> ∀g,v.ownBlock=J g->¬T g:=λh1 h2 p g hg=>by
  obtain⟨d,f⟩:=Ak p hg;exact j h1 h2 f
 have f :n<=w'.heap.size:=WI q l.size;have o:=h.lt;rw[DC q] at o;refine⟨bH _ f,by rw[DC f];exact o,(l.block b h.inb<|j Ac Ac h.hp).trans h.hp,?_,?_,?_,λr p k o=>by rw[DC f];have:=h.new r p k o;rw[DC q] at this;exact this,h.ap1,h.ap2,h.ap3,h.few,λ_ _ _ _ h=>h⟩
 .exact h.rf.kept l (i Ac Ac h.rf.1) (i Ac Ac h.rf.2.1) λ_ _ g d hg _=>j Ac Ac hg
 .exact h.rl.kept l (i Ac Ac h.rl.1) (i Ac Ac h.rl.2.1) λ_ _ g d hg _=>j Ac Ac hg
 exact h.rt.kept l (i Ac Ac h.rt.1) (i Ac Ac h.rt.2.1) λ_ _ g d hg _=>j Ac Ac hg
def fl{ts:E dk.Th}(h:dk.LC w v ts)(b:v.ownBlock=J k):∃a,w.heap[k]? =J (W a qA (0,0)):=by
 rcases h with⟨rfl,_⟩|⟨g,_,a,rfl,c,_⟩
 .cases b
 have e:=WX (show J g=J k from b);subst e;exact⟨a,c⟩
structure Yd (N b1 b2:Nat) (w:U) (bd br:Nat) (vd vr:M) (D R:dk.AX):Prop where
 d:dk.Ao w bd vd D
 r:dk.Ao w br vr R
 ne:bd≠br
 ap:∀k,vd.ownBlock=J k->vr.ownBlock≠J k
 pd:bd=b1\/N<=bd
 pr:br=b2\/N<=br
 nd:∀k,vd.ownBlock=J k->N<=k
 nr:∀k,vr.ownBlock=J k->N<=k
def Yd.swap{D R:dk.AX}(h:Yd b c e w f g a l D R):Yd b e c w g f l a R D:=⟨h.r,h.d,h.ne.symm,λk a b=>h.ap k b a,h.pr,h.pd,h.nr,h.nd⟩
def Yd.ty{D R:dk.AX}(j:Yd c f g w b h a l D R):∀k,k<w.heap.size->(k=b\/a.ownBlock=J k)-> ∃i e,(e=ee\/e=qA)/\w.heap[k]? =J (W i e (0,0)):=λk _ hk=>by
 rcases hk with rfl|hk
 .exact ⟨_,ee,.inl rfl,j.d.1⟩
 obtain⟨i,m⟩:=fl j.d.2.1 hk;exact⟨i,qA,.inr rfl,m⟩
def Yd.turn{D R i :dk.AX}(j:Yd c f g w b h a l D R)(p:c<=w.heap.size)(q:dk.Br w w' b a i):(∃m,Yd c f g w' b h m l i R)/\Ag (λk=>k=b\/a.ownBlock=J k) w w':=by
 obtain⟨b,c,a,h3⟩:=q;have o:=j.r.2.1.block_lt;refine⟨⟨b,c,j.r.kept a ?_ ?_,j.ne,?_,j.pd,j.pr,?_,j.nr⟩,kH a⟩
 .rintro (e|e)
  .exact j.ne e.symm
  obtain⟨b,a⟩:=fl j.d.2.1 e;exact kinds j.r.1 a Ac
 .rintro k m (e|e)
  .obtain ⟨b,a⟩:=fl j.r.2.1 m;rw[e] at a;exact kinds j.d.1 a Ac
  exact j.ap k e m
 .intro k m n;rcases h3 with h3|h3
  .exact j.ap k (h3 ▸ m) n
  have:=h3 k m;have:=o k n;omega
 intro k m;rcases h3 with h3|h3
 .exact j.nd k (h3 ▸ m)
 exact WI p<|h3 k m
def Yd.only{b g c f:N}{a d:M}{D R:dk.AX}(j:Yd g c f w h i a d D R)(l:w1.heap.size=g)(d:Ag (λk=>k=b\/k=c\/k=f) w1 w)(g:Ag (λk=>k=h\/a.ownBlock=J k) w w'):Ag (λk=>k=b\/k=c\/k=f) w1 w':=by
 refine d.transNew g λk _ e=>?_;rcases e with e|e
 .rcases j.pd with h1|h1
  .exact .inr (.inl<|e.trans h1)
  omega
 have:=j.nd k e;omega
def Yd.old{D R:dk.AX}(h:Yd b c e w f g a l D R)(i:Am w w'):Yd b c e w' f g a l D R:=⟨h.d.kept (Uc i) (λx=>x) λ_ _ x=>x,h.r.kept (Uc i) (λx=>x) λ_ _ x=>x,h.ne,h.ap,h.pd,h.pr,h.nd,h.nr⟩
def TF{D:dk.AX}(h:dk.Ao w b v D)(f:∀(k:N) (cu:φ M) (e:ν),(e=ee\/e=qA)->w.heap[k]? =J (W cu e (0,0))->w'.heap[k]? =J (W cu e (0,0))):dk.Ao w' b v D:=by
 obtain⟨c,a,d⟩:=h;refine⟨f _ _ _ (.inl rfl) c,?_,d⟩;rcases a with a|⟨g,c,d,e,h,i⟩
 .exact .inl a
 exact .inr ⟨g,c,d,e,f _ _ _ (.inr rfl) h,i⟩
def Yd.kinds{D R:dk.AX}(i:Yd b c f w g h a l D R)(j:∀(k:N) (cu:φ M) (e:ν),(e=ee\/e=qA)->w.heap[k]? =J (W cu e (0,0))->w'.heap[k]? =J (W cu e (0,0))):Yd b c f w' g h a l D R:=⟨TF i.d j,TF i.r j,i.ne,i.ap,i.pd,i.pr,i.nd,i.nr⟩
def TI(w1 w:U)(b b1 b2 j:N):Prop:= ∃(n:N) (S:WS) (RF RL RT:E<|M×Y) (bd br:N) (vd vr:M) (D R:dk.AX),n<=3*j/\S.m.size<=1048576/\S.v.size<=1048576/\S.ar.size<=1000000000+100*j/\S.pd=V (J ⟨bd,0,O⟩)/\S.pr=V (J ⟨br,0,O⟩)/\Ag (λk=>k=b\/k=b1\/k=b2) w1 w/\CI (QU w w1.heap.size) w b n S RF RL RT/\Yd w1.heap.size b1 b2 w bd br vd vr D R/\D.ts=R.ts/\dk.Go D/\dk.Go R/\D.ts.length<=5000*j
def QN.mono{Q:U->Prop}(h:QN P x)(b:∀a,Q a->P a):QN Q x:=by
 obtain⟨T,a,c,d⟩:=h;exact⟨T,a,c,λa c=>d a<|b a c⟩
def Ty.mono{Q:U->Prop}(h:Ty P x)(b:∀a,Q a->P a):Ty Q x:=by
 obtain⟨a,c,d,e,f,g,i,j,k⟩:=h;exact⟨a,c,d,e,f,g,i,j,λa c=>k a<|b a c⟩
def tC{j:N}(P:j<=1300000)(k p q:Z)(s t:Y)(x y:M)(w:U)(T:k<=11)(hb:zN p q s t)(a0:TI w1 w b c f j)(hG:∀a,Ag (λk=>k=b\/k=c\/k=f) w1 a->Fr a)(hx:QN (λa=>Ag (λk=>k=b\/k=c\/k=f) w1 a) x)(hy:Ty (λa=>Ag (λk=>k=b\/k=c\/k=f) w1 a) y):
 μ F 6 #[V<|J ⟨b,0,O⟩,.agg<|Ci k p q s t x y] w λe w'=>e=ε (ζ θ)/\TI w1 w' b c f (j+1):=by
 obtain⟨n,S,RF,RL,RT,bd,br,vd,vr,a1,R,h1,h2,h3,h4,h5,h6,L,hw,h,i,l,m,_⟩:=a0;have g:∀a,Ag (λk=>k=b) (QU w w1.heap.size) a->Ag (λk=>k=b\/k=c\/k=f) w1 a:=λa d=>qx L (.inl rfl) d
 apply(zQ Wp P k p q s t x y w T hb (w1:=QU w w1.heap.size) (b:=b) (Q:=(S.pd,S.pr,w)) ⟨n,{S with z:=w},RF,RL,RT,h1,h2,h3,h4,rfl,hw.ghost⟩ (λa d=>hG a<|g a d) (hx.mono g)<|hy.mono g).mono;rintro e w' ⟨rfl,n',S',o,r,u,g1,g2,g3,g4,gq,v⟩;injection gq with D a;injection a with a c;have d:=v.dk;rw[c] at d;exact⟨rfl,n',S',o,r,u,bd,br,vd,vr,a1,R,g1,g2,g3,g4,D.trans h5,a.trans h6,g w' v.only,v.rebase<|DC L.size,h.kinds d,i,l,m,A⟩
structure LS (w1 w:U) (b b1 b2 n:N) (S:WS) (RF RL RT:E<|M×Y) (bd br:N) (vd vr:M) (D R:dk.AX):Prop where
 ho:Ag (λk=>k=b\/k=b1\/k=b2) w1 w
 hw:CI (QU w w1.heap.size) w b n S RF RL RT
 dks:Yd w1.heap.size b1 b2 w bd br vd vr D R
def LS.old{S:WS}{d:E (M×Y)}{D R:dk.AX}(h:LS w1 w b c e n S j p d f g a l D R)(i:Am w w'):LS w1 w' b c e n S j p d f g a l D R:=
 ⟨h.ho.trans<|Ag.oldW i,(h.hw.old i).rebase<|DC h.ho.size,h.dks.old i⟩
def LS.turnD{S:WS}{d:E (M×Y)}{D R i :dk.AX}(h:LS w1 w b e f n S j p d c g a l D R)(k:dk.Br w w' c a i):∃a,LS w1 w' b e f n {S with z:=w'} j p d c g a l i R:=by
 obtain⟨⟨a,d⟩,c⟩:=h.dks.turn h.ho.size k;exact⟨a,h.dks.only rfl h.ho c,h.hw.disk h.ho.size c h.dks.ty,d⟩
def VH(h:Ag (λk=>k=b\/k=c\/k=f) w1 w):Ag (λk=>k=b\/k=f\/k=c) w1 w:=h.mono λk _ e=>by rcases e with e|e|e;exact .inl e;exact .inr (.inr e);exact .inr (.inl e)
def LS.turnR{S:WS}{d:E (M×Y)}{D R i :dk.AX}(h:LS w1 w b e f n S j p d g c a l D R)(m:dk.Br w w' c l i):∃k,LS w1 w' b e f n {S with z:=w'} j p d g c a k D i :=by
 obtain⟨⟨k,c⟩,a⟩:=h.dks.swap.turn h.ho.size m;exact⟨k,VH<|h.dks.swap.only rfl (VH h.ho) a,h.hw.disk h.ho.size a h.dks.swap.ty,c.swap⟩
def JU{c f h:N}{b i:N}{d:M}{D R:dk.AX}(j:Yd c f h w b i d l D R){i :dk.AX}(c:dk.Br w w' b d i){b:φ M}{e:ν}(hg:w.heap[g]? =J (W b e (0,0)))(h1:e≠ee)(h2:e≠qA):w'.heap[g]? =J (W b e (0,0)):=by
 obtain⟨_, -,b, -⟩:=c;refine(b.block g (Wt.1 hg).1 λb=>?_).trans hg;obtain⟨_,_,he,a⟩:=j.ty g (Wt.1 hg).1 b;exact ajf
def Lq(w1 w':U)(b b1 b2 n:Nat)(S:WS)(RF RL RT:E<|M×Y)(N:Nat):Prop:= ∃(S':WS) (bd br:Nat) (vd vr:M) (D R:dk.AX),S'.m=S.m/\S'.v=S.v/\S'.ar=S.ar/\S'.pd=V (J ⟨bd,0,O⟩)/\S'.pr=V (J ⟨br,0,O⟩)/\LS w1 w' b b1 b2 n S' RF RL RT bd br vd vr D R/\D.ts=R.ts/\dk.Go D/\dk.Go R/\D.ts.length<=N
def tD(ts:E dk.Th)(p:Y):(dk.zx ts p).length<=ts.length+1:=by
 unfold dk.zx;split
 .rw[dk.Xg];omega
 omega
def tG(ts:E dk.Th)(p d:Y):(dk.wrT ts p d).length<=ts.length+1:=by
 unfold dk.wrT;split
 .rw[dk.Xg];omega
 omega
def tH(ts:E dk.Th)(p:Y):(dk.yk ts p).length<=ts.length+1:=by
 unfold dk.yk;split
 .rw[Ws,hY,aad];omega
 omega
def xZ{S:WS}{P:E (M×Y)}{k:M}{D R:dk.AX}(q:Z)(s t:Y)(hs:s.size<=1048576)(c6:t.size<=1048576)(x y:M)(w:U)(h:LS w1 w b g i n S p o P c f u k D R)(a3:S.pd=V (J ⟨c,0,O⟩))(a4:S.pr=V (J ⟨f,0,O⟩))(a5:D.ts=R.ts)(a6:dk.Go D)(a7:dk.Go R)(a0:D.ts.length<=90000000000):
 μ F 23 #[V<|J ⟨b,0,O⟩,.agg<|Ci 12 1 q s t x y] w λe w'=>e=ε (η #[])/\Lq w1 w' b g i n S p o P (D.ts.length+1):=by
 have hA:Am w<|w.alloc (W (Ci 12 1 q s t x y) 41):=(Ag.refl _ w).alloc _;have hL:=h.old hA;have a8:=WD w<|W (Ci 12 1 q s t x y) 41;obtain⟨b3,hM⟩:∃b3,S.m=b3:=⟨_,rfl⟩;obtain⟨c2,hV⟩:∃c2,S.v=c2:=⟨_,rfl⟩;obtain⟨c3,b6⟩:∃c3,S.ar=c3:=⟨_,rfl⟩;have:C ((S.cs n)[0]? =J (G b3)):=by unfold C;rw[<-hM];rfl
 have:C ((S.cs n)[1]? =J (G c2)):=by unfold C;rw[<-hV];rfl
 have:C ((S.cs n)[2]? =J (G c3)):=by unfold C;rw[<-b6];rfl
 have a9:C ((S.cs n)[3]? =J (V<|J ⟨c,0,O⟩)):=by unfold C;rw[<-a3];rfl
 have b0:C ((S.cs n)[4]? =J (V<|J ⟨f,0,O⟩)):=by unfold C;rw[<-a4];rfl
 have b7:C (∀(b3:N) (a1:M),(S.cs n)[b3]? =J a1-> ∀T:U,T.heap[b]? =J (W (S.cs n) wT (0,0))->T.cell? ⟨b,b3,O⟩=J a1):=λb3 a1 hu T hb=>by rw[Wu T b b3 _ _ (0,0) hb];exact hu
 have b9:=hL.hw.inb;obtain⟨g1,g2⟩:=a6.mkdir s A A;have:R.ts.length<=90000000000:=by rw[<-a5];exact a0
 obtain⟨k1,k2⟩:=a7.mkdir s A A;have:=a6.room;have:=a7.room;have O4:C (∀(w3:U) (a0 b3 :M) (S':WS),S'.m=S.m->S'.v=S.v->S'.ar=S.ar->S'.pd=S.pd->S'.pr=S.pr->LS w1 w3 b g i n S' p o P c f a0 b3 (dk.Bz D s).2 (dk.Bz R s).2->Lq w1 w3 b g i n S p o P (D.ts.length+1)):=λw3 a0 b3 S' e1 e2 e3 e4 e5 a1=>⟨S',c,f,a0,b3,_,_,e1,e2,e3,e4.trans a3,e5.trans a4,a1,by rw[g2,k2,a5],g1,k1,by rw[g2];exact tD _ s⟩
 have a1:=H λ(T:U) (hW:LS w1 T b g i n S p o P c f u k D R)=>dk.EN hW.dks.d s A A;have c0:=H λ(T:U) (a0 :M) (D':dk.AX) (S':WS) (hW:LS w1 T b g i n S' p o P c f a0 k D' R)=>dk.EN hW.dks.r s A A;have c1:=H hL;have a1:=H (a1 _ (hL.old (Ag.refl (λ_=>False) _).drew));clear h hA a3 a4 a5 a6 a7 g1 g2 k1 k2 hM hV b6;unfold Ci at*;go_in;go_wp2_with fail;generalize w.alloc (W #[I Q 12,I Q 1,I Q q,G s,G t,x,y] 41)=T,w.heap.size=ob at*;have b4:=H hL.hw.hp;have b5:=H a8;have c4:=(Wt.1 a8).1;have c5:=b9;clear hL a8 b9;have j:T.drew.cell? ⟨b,3,O⟩=J (V<|J ⟨c,0,O⟩)/\T.drew.cell? ⟨ob,3,O⟩=J (G s)/\True:=⟨(by show T.cell? _=_;exact b7 3 _ a9 T b4),(by show T.cell? _=_;rw[Wu T ob 3 _ _ (0,0) b5];rfl),trivial⟩;go_wp2_with fail;refine Ai (S:=λg=>g.cell? ⟨b,3,O⟩=J (V<|J ⟨c,0,O⟩)/\g.cell? ⟨ob,3,O⟩=J (G s)/\True) (L:=6) B ?_;refine tk 0 7 (V<|J ⟨b,0,O⟩) 8 j ?_;refine tk 1 7 (V<|J ⟨b,0,O⟩) 9 j ?_;refine tk 2 7 (V<|J ⟨b,3,O⟩) 10 j ?_;refine tk 3 7 (V<|J ⟨c,0,O⟩) 11 j ?_;refine tk 4 7 (V<|J ⟨ob,3,O⟩) 12 j ?_;refine tk 5 7 (G s) 13 j ?_;refine Ah (i:=6) B ?_;refine WE rfl λK' l=>?_;go_simp;apply a1.mono;rintro e w2 ⟨rfl,a2⟩;refine l _ _ ⟨λh=>κ rfl h,?_⟩;clear l;refine Aj B ?_;clear j;have c:=c1.old (Ag.refl (λ_=>False) T).drew;have g:=H<|JU c.dks a2 b4 Ac Ac;have i:=H<|JU c.dks a2 b5 Ac Ac;obtain⟨X0,k⟩:=c.turnD a2;have z:=H k;have a:=H (c0 _ _ _ _ (k.old (Ag.refl (λ_=>False) w2).drew));have:=(Wt.1 i).1;have:=(Wt.1 g).1;clear c a2 k a1 c0 c1 b4 b5;have j:w2.drew.cell? ⟨b,4,O⟩=J (V<|J ⟨f,0,O⟩)/\w2.drew.cell? ⟨ob,3,O⟩=J (G s)/\True:=⟨(by show w2.cell? _=_;exact b7 4 _ b0 w2 g),(by show w2.cell? _=_;rw[Wu w2 ob 3 _ _ (0,0) i];rfl),trivial⟩;go_wp2_with fail;refine Ai (S:=λc=>c.cell? ⟨b,4,O⟩=J (V<|J ⟨f,0,O⟩)/\c.cell? ⟨ob,3,O⟩=J (G s)/\True) (L:=6) B ?_;refine tk 0 7 (V<|J ⟨b,0,O⟩) 15 j ?_;refine tk 1 7 (V<|J ⟨b,0,O⟩) 16 j ?_;refine tk 2 7 (V<|J ⟨b,4,O⟩) 17 j ?_;refine tk 3 7 (V<|J ⟨f,0,O⟩) 18 j ?_;refine tk 4 7 (V<|J ⟨ob,3,O⟩) 19 j ?_;refine tk 5 7 (G s) 20 j ?_;refine Ah (i:=6) B ?_;exact aeO
def ya{S:WS}{P:E (M×Y)}{k:M}{D R:dk.AX}(q:Z)(s t:Y)(hs:s.size<=1048576)(ht:t.size<=1048576)(x y:M)(w:U)(h:LS w1 w b g i n S p o P c f u k D R)(a4:S.pd=V (J ⟨c,0,O⟩))(a5:S.pr=V (J ⟨f,0,O⟩))(a6:D.ts=R.ts)(a7:dk.Go D)(a8:dk.Go R)(a0:D.ts.length<=90000000000):
 μ F 23 #[V<|J ⟨b,0,O⟩,.agg<|Ci 12 2 q s t x y] w λe w'=>e=ε (η #[])/\Lq w1 w' b g i n S p o P (D.ts.length+1):=by
 have hA:Am w<|w.alloc (W (Ci 12 2 q s t x y) 41):=(Ag.refl _ w).alloc _;have hL:=h.old hA;have a9:=WD w<|W (Ci 12 2 q s t x y) 41;obtain⟨b4,hM⟩:∃b4,S.m=b4:=⟨_,rfl⟩;obtain⟨c2,hV⟩:∃c2,S.v=c2:=⟨_,rfl⟩;obtain⟨c3,b6⟩:∃c3,S.ar=c3:=⟨_,rfl⟩;have:C ((S.cs n)[0]? =J (G b4)):=by unfold C;rw[<-hM];rfl
 have:C ((S.cs n)[1]? =J (G c2)):=by unfold C;rw[<-hV];rfl
 have:C ((S.cs n)[2]? =J (G c3)):=by unfold C;rw[<-b6];rfl
 have b0:C ((S.cs n)[3]? =J (V<|J ⟨c,0,O⟩)):=by unfold C;rw[<-a4];rfl
 have b3:C ((S.cs n)[4]? =J (V<|J ⟨f,0,O⟩)):=by unfold C;rw[<-a5];rfl
 have b7:C (∀(b4:N) (a1:M),(S.cs n)[b4]? =J a1-> ∀T:U,T.heap[b]? =J (W (S.cs n) wT (0,0))->T.cell? ⟨b,b4,O⟩=J a1):=λb4 a1 hu T hb=>by rw[Wu T b b4 _ _ (0,0) hb];exact hu
 have b9:=hL.hw.inb;obtain⟨g1,g2⟩:=a7.write s t A A;have:R.ts.length<=90000000000:=by rw[<-a6];exact a0
 obtain⟨k1,k2⟩:=a8.write s t A A;have:=a7.room;have:=a8.room;have O4:C (∀(w3:U) (a0 b4 :M) (S':WS),S'.m=S.m->S'.v=S.v->S'.ar=S.ar->S'.pd=S.pd->S'.pr=S.pr->LS w1 w3 b g i n S' p o P c f a0 b4 (dk.BX D s t).2 (dk.BX R s t).2->Lq w1 w3 b g i n S p o P (D.ts.length+1)):=λw3 a0 b4 S' e1 e2 e3 e4 e5 a1=>⟨S',c,f,a0,b4,_,_,e1,e2,e3,e4.trans a4,e5.trans a5,a1,by rw[g2,k2,a6],g1,k1,by rw[g2];exact tG _ s t⟩
 have a1:=H λ(T:U) (hW:LS w1 T b g i n S p o P c f u k D R)=>dk.Jj hW.dks.d s t A A A A;have c0:=H λ(T:U) (a0 :M) (D':dk.AX) (S':WS) (hW:LS w1 T b g i n S' p o P c f a0 k D' R)=>dk.Jj hW.dks.r s t A A A A;have c1:=H hL;have a1:=H (a1 _ (hL.old (Ag.refl (λ_=>False) _).drew));clear h hA a4 a5 a6 a7 a8 g1 g2 k1 k2 hM hV b6;unfold Ci at*;go_in;go_wp2_with fail;generalize w.alloc (W #[I Q 12,I Q 2,I Q q,G s,G t,x,y] 41)=T,w.heap.size=ob at*;have b5:=H hL.hw.hp;have a2:=H a9;have c4:=(Wt.1 a9).1;have c5:=b9;clear hL a9 b9;have j:T.drew.cell? ⟨b,3,O⟩=J (V<|J ⟨c,0,O⟩)/\T.drew.cell? ⟨ob,3,O⟩=J (G s)/\T.drew.cell? ⟨ob,4,O⟩=J (G t)/\True:=⟨(by show T.cell? _=_;exact b7 3 _ b0 T b5),(by show T.cell? _=_;rw[Wu T ob 3 _ _ (0,0) a2];rfl),(by show T.cell? _=_;rw[Wu T ob 4 _ _ (0,0) a2];rfl),trivial⟩;go_wp2_with fail;refine Ai (S:=λg=>g.cell? ⟨b,3,O⟩=J (V<|J ⟨c,0,O⟩)/\g.cell? ⟨ob,3,O⟩=J (G s)/\g.cell? ⟨ob,4,O⟩=J (G t)/\True) (L:=8) B ?_;refine tk 0 9 (V<|J ⟨b,0,O⟩) 24 j ?_;refine tk 1 9 (V<|J ⟨b,0,O⟩) 25 j ?_;refine tk 2 9 (V<|J ⟨b,3,O⟩) 26 j ?_;refine tk 3 9 (V<|J ⟨c,0,O⟩) 27 j ?_;refine tk 4 9 (V<|J ⟨ob,3,O⟩) 28 j ?_;refine tk 5 9 (G s) 29 j ?_;refine tk 6 9 (V<|J ⟨ob,4,O⟩) 30 j ?_;refine tk 7 9 (G t) 31 j ?_;refine Ah (i:=8) B ?_;refine WE rfl λK' l=>?_;go_simp;apply a1.mono;rintro e w2 ⟨rfl,a3⟩;refine l _ _ ⟨λh=>κ rfl h,?_⟩;clear l;refine Aj B ?_;clear j;have g:=c1.old (Ag.refl (λ_=>False) T).drew;have i:=H<|JU g.dks a3 b5 Ac Ac;have c:=H<|JU g.dks a3 a2 Ac Ac;obtain⟨X0,k⟩:=g.turnD a3;have z:=H k;have a:=H (c0 _ _ _ _ (k.old (Ag.refl (λ_=>False) w2).drew));have:=(Wt.1 c).1;have:=(Wt.1 i).1;clear g a3 k a1 c0 c1 b5 a2;have j:w2.drew.cell? ⟨b,4,O⟩=J (V<|J ⟨f,0,O⟩)/\w2.drew.cell? ⟨ob,3,O⟩=J (G s)/\w2.drew.cell? ⟨ob,4,O⟩=J (G t)/\True:=⟨(by show w2.cell? _=_;exact b7 4 _ b3 w2 i),(by show w2.cell? _=_;rw[Wu w2 ob 3 _ _ (0,0) c];rfl),(by show w2.cell? _=_;rw[Wu w2 ob 4 _ _ (0,0) c];rfl),trivial⟩;go_wp2_with fail;refine Ai (S:=λc=>c.cell? ⟨b,4,O⟩=J (V<|J ⟨f,0,O⟩)/\c.cell? ⟨ob,3,O⟩=J (G s)/\c.cell? ⟨ob,4,O⟩=J (G t)/\True) (L:=8) B ?_;refine tk 0 9 (V<|J ⟨b,0,O⟩) 33 j ?_;refine tk 1 9 (V<|J ⟨b,0,O⟩) 34 j ?_;refine tk 2 9 (V<|J ⟨b,4,O⟩) 35 j ?_;refine tk 3 9 (V<|J ⟨f,0,O⟩) 36 j ?_;refine tk 4 9 (V<|J ⟨ob,3,O⟩) 37 j ?_;refine tk 5 9 (G s) 38 j ?_;refine tk 6 9 (V<|J ⟨ob,4,O⟩) 39 j ?_;refine tk 7 9 (G t) 40 j ?_;refine Ah (i:=8) B ?_;exact aeO
def yb{S:WS}{P:E (M×Y)}{k:M}{D R:dk.AX}(q:Z)(s t:Y)(hs:s.size<=1048576)(c6:t.size<=1048576)(x y:M)(w:U)(h:LS w1 w b g i n S p o P c f u k D R)(a3:S.pd=V (J ⟨c,0,O⟩))(a4:S.pr=V (J ⟨f,0,O⟩))(a5:D.ts=R.ts)(a6:dk.Go D)(a7:dk.Go R)(a0:D.ts.length<=90000000000):
 μ F 23 #[V<|J ⟨b,0,O⟩,.agg<|Ci 12 3 q s t x y] w λe w'=>e=ε (η #[])/\Lq w1 w' b g i n S p o P (D.ts.length+1):=by
 have hA:Am w<|w.alloc (W (Ci 12 3 q s t x y) 41):=(Ag.refl _ w).alloc _;have hL:=h.old hA;have a8:=WD w<|W (Ci 12 3 q s t x y) 41;obtain⟨b3,hM⟩:∃b3,S.m=b3:=⟨_,rfl⟩;obtain⟨c2,hV⟩:∃c2,S.v=c2:=⟨_,rfl⟩;obtain⟨c3,b6⟩:∃c3,S.ar=c3:=⟨_,rfl⟩;have:C ((S.cs n)[0]? =J (G b3)):=by unfold C;rw[<-hM];rfl
 have:C ((S.cs n)[1]? =J (G c2)):=by unfold C;rw[<-hV];rfl
 have:C ((S.cs n)[2]? =J (G c3)):=by unfold C;rw[<-b6];rfl
 have a9:C ((S.cs n)[3]? =J (V<|J ⟨c,0,O⟩)):=by unfold C;rw[<-a3];rfl
 have b0:C ((S.cs n)[4]? =J (V<|J ⟨f,0,O⟩)):=by unfold C;rw[<-a4];rfl
 have b7:C (∀(b3:N) (a1:M),(S.cs n)[b3]? =J a1-> ∀T:U,T.heap[b]? =J (W (S.cs n) wT (0,0))->T.cell? ⟨b,b3,O⟩=J a1):=λb3 a1 hu T hb=>by rw[Wu T b b3 _ _ (0,0) hb];exact hu
 have b9:=hL.hw.inb;obtain⟨g1,g2⟩:=a6.remove s;have:R.ts.length<=90000000000:=by rw[<-a5];exact a0
 obtain⟨k1,k2⟩:=a7.remove s;have:=a6.room;have:=a7.room;have O4:C (∀(w3:U) (a0 b3 :M) (S':WS),S'.m=S.m->S'.v=S.v->S'.ar=S.ar->S'.pd=S.pd->S'.pr=S.pr->LS w1 w3 b g i n S' p o P c f a0 b3 (dk.Bs D s).2 (dk.Bs R s).2->Lq w1 w3 b g i n S p o P (D.ts.length+1)):=λw3 a0 b3 S' e1 e2 e3 e4 e5 a1=>⟨S',c,f,a0,b3,_,_,e1,e2,e3,e4.trans a3,e5.trans a4,a1,by rw[g2,k2,a5],g1,k1,by rw[g2];exact tH _ s⟩
 have a1:=H λ(T:U) (hW:LS w1 T b g i n S p o P c f u k D R)=>dk.GV hW.dks.d s A A;have c0:=H λ(T:U) (a0 :M) (D':dk.AX) (S':WS) (hW:LS w1 T b g i n S' p o P c f a0 k D' R)=>dk.GV hW.dks.r s A A;have c1:=H hL;have a1:=H (a1 _ (hL.old (Ag.refl (λ_=>False) _).drew));clear h hA a3 a4 a5 a6 a7 g1 g2 k1 k2 hM hV b6;unfold Ci at*;go_in;go_wp2_with fail;generalize w.alloc (W #[I Q 12,I Q 3,I Q q,G s,G t,x,y] 41)=T,w.heap.size=ob at*;have b4:=H hL.hw.hp;have b5:=H a8;have c4:=(Wt.1 a8).1;have c5:=b9;clear hL a8 b9;have j:T.drew.cell? ⟨b,3,O⟩=J (V<|J ⟨c,0,O⟩)/\T.drew.cell? ⟨ob,3,O⟩=J (G s)/\True:=⟨(by show T.cell? _=_;exact b7 3 _ a9 T b4),(by show T.cell? _=_;rw[Wu T ob 3 _ _ (0,0) b5];rfl),trivial⟩;go_wp2_with fail;refine Ai (S:=λg=>g.cell? ⟨b,3,O⟩=J (V<|J ⟨c,0,O⟩)/\g.cell? ⟨ob,3,O⟩=J (G s)/\True) (L:=6) B ?_;refine tk 0 7 (V<|J ⟨b,0,O⟩) 44 j ?_;refine tk 1 7 (V<|J ⟨b,0,O⟩) 45 j ?_;refine tk 2 7 (V<|J ⟨b,3,O⟩) 46 j ?_;refine tk 3 7 (V<|J ⟨c,0,O⟩) 47 j ?_;refine tk 4 7 (V<|J ⟨ob,3,O⟩) 48 j ?_;refine tk 5 7 (G s) 49 j ?_;refine Ah (i:=6) B ?_;refine WE rfl λK' l=>?_;go_simp;apply a1.mono;rintro e w2 ⟨rfl,a2⟩;refine l _ _ ⟨λh=>κ rfl h,?_⟩;clear l;refine Aj B ?_;clear j;have c:=c1.old (Ag.refl (λ_=>False) T).drew;have g:=H<|JU c.dks a2 b4 Ac Ac;have i:=H<|JU c.dks a2 b5 Ac Ac;obtain⟨X0,k⟩:=c.turnD a2;have z:=H k;have a:=H (c0 _ _ _ _ (k.old (Ag.refl (λ_=>False) w2).drew));have:=(Wt.1 i).1;have:=(Wt.1 g).1;clear c a2 k a1 c0 c1 b4 b5;have j:w2.drew.cell? ⟨b,4,O⟩=J (V<|J ⟨f,0,O⟩)/\w2.drew.cell? ⟨ob,3,O⟩=J (G s)/\True:=⟨(by show w2.cell? _=_;exact b7 4 _ b0 w2 g),(by show w2.cell? _=_;rw[Wu w2 ob 3 _ _ (0,0) i];rfl),trivial⟩;go_wp2_with fail;refine Ai (S:=λc=>c.cell? ⟨b,4,O⟩=J (V<|J ⟨f,0,O⟩)/\c.cell? ⟨ob,3,O⟩=J (G s)/\True) (L:=6) B ?_;refine tk 0 7 (V<|J ⟨b,0,O⟩) 51 j ?_;refine tk 1 7 (V<|J ⟨b,0,O⟩) 52 j ?_;refine tk 2 7 (V<|J ⟨b,4,O⟩) 53 j ?_;refine tk 3 7 (V<|J ⟨f,0,O⟩) 54 j ?_;refine tk 4 7 (V<|J ⟨ob,3,O⟩) 55 j ?_;refine tk 5 7 (G s) 56 j ?_;refine Ah (i:=6) B ?_;exact aeO
def lq:dk.AX:=⟨[], -1, -1,0,false⟩
def zV:dk.Go lq:=⟨⟨⟨aaJ,λt h=>akU⟩,Ac,λt h=>akU,.inl Ac,Ac,Ac⟩,⟨Ac,rfl⟩,Ac⟩
def tI(W V:U)(b i:N)(cs:φ M)(u:M)(o:Obj):Prop:=V.heap[b]? =J (.cells (cs.setIfInBounds i u) wT (0,0))/\Ag (λk=>k=b) W V/\V.heap[W.heap.size]? =J o/\V.heap.size=W.heap.size+1
def qy{a:U}{h:φ M}{c:φ M}{e:ν}(d:a.heap[b]? =J (W h wT (0,0))):tI a ((a.setCell ⟨b,i,O⟩ u).alloc<|W c e) b i h u<|W c e (0,0):=by
 have:=(Wt.1 d).1;have g:=WL a b i _ _ u d;have h:=Aq a b i u;have d:(a.setCell ⟨b,i,O⟩ u).heap.size=a.heap.size:=Ad;have f:((a.setCell ⟨b,i,O⟩ u).alloc<|W c e).heap[(a.setCell ⟨b,i,O⟩ u).heap.size]? =J (W c e (0,0)):=WD _<|W c e;rw[d] at f;refine⟨AH ((Ag.refl (λ_=>False) _).alloc<|W c e) g,h.alloc _,f,?_⟩;rw[WP,d]
abbrev VI:φ M:= #[K O 0 0,I Q (-1),I Q (-1),I Q 0,ζ false]
def Rx(h:w.heap[k]? =J (W VI ee (0,0))):dk.Ao w k (K O 0 0) lq:=⟨h,dk.LC.nil w,λe=>by cases e⟩
def LS.fresh{c i a:U}{S:WS}{d:E (M×Y)}{g h:N}{k:M}{D R:dk.AX}(o:LS w1 c b f e n S p j d g h l k D R)(g:tI c i b 3 (S.cs n) (V<|J ⟨c.heap.size,0,O⟩)<|W VI ee (0,0))(h:tI i a b 4 (({S with pd:=V (J ⟨c.heap.size,0,O⟩)}:WS).cs n) (V<|J ⟨i.heap.size,0,O⟩)<|W VI ee (0,0)):Lq w1 a b f e n S p j d 0:=by
 obtain⟨d,s,e,_⟩:=g;obtain⟨f,q,v,_⟩:=h;have t:=o.ho.size;have:=o.hw.inb;have a:=o.hw.rec_ (s':={S with pd:=V (J ⟨c.heap.size,0,O⟩)}) s d (WF _) rfl rfl rfl rfl rfl rfl;have r:=a.rec_ (s':={S with pd:=V<|J ⟨c.heap.size,0,O⟩,pr:=V (J ⟨i.heap.size,0,O⟩)}) q f (WF _) rfl rfl rfl rfl rfl rfl;have w:=(q.block _ A A).trans e;refine⟨_,c.heap.size,i.heap.size,K O 0 0,K O 0 0,lq,lq,by rfl,by rfl,by rfl,by rfl,by rfl,⟨?_,r.rebase<|DC t,⟨Rx w,Rx v,A,λu m=>(by cases m),.inr t,.inr A,λu m=>(by cases m),λu m=>(by cases m)⟩⟩,rfl,zV,zV,Ac⟩;exact o.ho.trans ((s.trans q).mono λ_ _ e=> .inl e)
def ye{S:WS}{d:E (M×Y)}{D R:dk.AX}(q:Z)(s t:Y)(x y:M)(w:U)(m:LS w1 w b c f n S p j d g h a l D R):
 μ F 23 #[V<|J ⟨b,0,O⟩,.agg<|Ci 12 4 q s t x y] w λe w'=>e=ε (η #[])/\Lq w1 w' b c f n S p j d 0:=by
 have c:Am w<|w.alloc (.cells (Ci 12 4 q s t x y) 41):=(Ag.refl _ w).alloc _;have a:=m.old c;have:=a.hw.inb;have:(w.alloc (.cells (Ci 12 4 q s t x y) 41)).cell? ⟨b,3,O⟩=J S.pd:=by rw[Wu _ b 3 _ _ (0,0) a.hw.hp];rfl
 have:=WK _ b 3 _ _ a.hw.hp;have k:=a;unfold Ci at*;go_in;go_wp2_with fail;generalize w.alloc (.cells #[I Q 12,I Q 4,I Q q,G s,G t,x,y] 41)=W,w.heap.size=ob at*;go_upto_region 13 with(go_at_call 5;refine(dk.Re _).mono ?_;rintro e w' ⟨rfl,rfl⟩);refine ZG (R:=λa=>tI W a b 3 (S.cs n) (V<|J ⟨W.heap.size,0,O⟩) (.cells VI ee (0,0))) (by first|exact newR_a k.hw.hp|exact qy k.hw.hp) ?_;intro c a;have:=(Wt.1 a.1).1;have:c.cell? ⟨b,4,O⟩=J S.pr:=by rw[Wu _ b 4 _ _ (0,0) a.1];rfl
 have:=WK _ b 4 _ _ a.1;have i:=a;go_wp2_with (go_at_call 5;refine(dk.Re _).mono ?_;rintro e w' ⟨rfl,rfl⟩);go_end0;exact⟨rfl,k.fresh i<|by first|exact qy i.1|exact newR_a i.1⟩
def tJ{S:WS}{d:E (M×Y)}{D R:dk.AX}(p q:Z)(i:p≠1/\p≠2/\p≠3/\p≠4)(s t:Y)(x y:M)(w:U)(k:LS w1 w b c f n S j d o g h a l D R):
 μ F 23 #[V<|J ⟨b,0,O⟩,.agg<|Ci 12 p q s t x y] w λe w'=>e=ε (η #[])/\LS w1 w' b c f n S j d o g h a l D R:=by
 have m:=k.old ((Ag.refl _ w).alloc<|W (Ci 12 p q s t x y) 41);obtain⟨a,c,d,f⟩:=i;have:=WA.2 a;have:=WA.2 c;have:=WA.2 d;have:=WA.2 f;unfold Ci at*;go_in;go_wp2_with fail;go_end0;exact⟨rfl,m⟩
def yf{S:WS}{d:E (M×Y)}{D R:dk.AX}(p q:Z)(s t:Y)(P:s.size<=1048576)(T:t.size<=1048576)(x y:M)(w:U)(z:LS w1 w b c f n S j d o g h a l D R)(k:S.pd=V (J ⟨g,0,O⟩))(m:S.pr=V (J ⟨h,0,O⟩))(r:D.ts=R.ts)(u:dk.Go D)(v:dk.Go R)(i:D.ts.length<=90000000000):
 μ F 23 #[V<|J ⟨b,0,O⟩,.agg<|Ci 12 p q s t x y] w λe w'=>e=ε (η #[])/\Lq w1 w' b c f n S j d o (D.ts.length+1):=by
 have L:∀{w':U},Lq w1 w' b c f n S j d o 0->Lq w1 w' b c f n S j d o (D.ts.length+1):=λz=>by
  obtain⟨c,d,f,j,o,c5,c6,g1,g2,g3,g4,g5,g6,g7,g8,g9,_⟩:=z;exact⟨c,d,f,j,o,c5,c6,g1,g2,g3,g4,g5,g6,g7,g8,g9,A⟩
 by_cases e1:p=1
 .subst e1;exact xZ q s t P T x y w z k m r u v i
 by_cases e2:p=2
 .subst e2;exact ya q s t P T x y w z k m r u v i
 by_cases e3:p=3
 .subst e3;exact yb q s t P T x y w z k m r u v i
 by_cases e4:p=4
 .subst e4;exact(ye q s t x y w z).mono λe w' c=>⟨c.1,L c.2⟩
 exact(tJ p q ⟨e1,e2,e3,e4⟩ s t x y w z).mono λe w' hx=>⟨hx.1,S,g,h,a,l,D,R,rfl,rfl,rfl,k,m,hx.2,r,u,v,A⟩
def fq{S:WS}{D R:dk.AX}(p q:Z)(s t:Y)(hs:s.size<=1048576)(hm:S.m.size<=1048576)(hv:S.v.size<=1048576)(c3:S.ar.size<=9000000000)(x y:M)(w:U)(h:LS w1 w b b1 b2 n S RF RL RT f g vd vr D R)(b5:S.pd=V (J ⟨f,0,O⟩))(b6:S.pr=V (J ⟨g,0,O⟩))(a9:D.ts=R.ts)(b7:dk.Go D)(b9:dk.Go R)(b3:D.ts.length<=90000000000)(hG:∀a1,Ag (λk=>k=b\/k=b1\/k=b2) w1 a1->Fr a1):
 μ F 24 #[V<|J ⟨b,0,O⟩,.agg<|Ci 13 p q s t x y] w λe w'=>e=ε (ζ θ)/\Lq w1 w' b b1 b2 n S RF RL RT (D.ts.length+5000):=by
 have hA:Am w<|w.alloc (W (Ci 13 p q s t x y) 41):=(Ag.refl _ w).alloc _;have hL:=h.old hA;have c0:=WD w<|W (Ci 13 p q s t x y) 41;obtain⟨a5,hM⟩:∃a5,S.m=a5:=⟨_,rfl⟩;obtain⟨a6,hV⟩:∃a6,S.v=a6:=⟨_,rfl⟩;obtain⟨a7,c1⟩:∃a7,S.ar=a7:=⟨_,rfl⟩;have a2:((S.cs n)[0]? =J (G a5)):=by rw[<-hM];rfl
 have a3:((S.cs n)[1]? =J (G a6)):=by rw[<-hV];rfl
 have a4:((S.cs n)[2]? =J (G a7)):=by rw[<-c1];rfl
 have c:((S.cs n)[3]? =J (V<|J ⟨f,0,O⟩)):=by rw[<-b5];rfl
 have o:((S.cs n)[4]? =J (V<|J ⟨g,0,O⟩)):=by rw[<-b6];rfl
 have a:(∀(i:N) (a0:M),(S.cs n)[i]? =J a0-> ∀a1:U,a1.heap[b]? =J (W (S.cs n) wT (0,0))->a1.cell? ⟨b,i,O⟩=J a0):=λi a0 hu a1 hb=>by rw[Wu a1 b i _ _ (0,0) hb];exact hu
 have c4:=hL.hw.inb;rw[hM] at hm;rw[hV] at hv;rw[c1] at c3;have:R.ts.length<=90000000000:=by rw[<-a9];exact b3
 have HSM:(∀k k' D' R',Gw D a5 a6 a7 s k D'->Gw R a5 a6 a7 s k' R'->k=k'/\D'.ts=R'.ts/\dk.Go D'/\dk.Go R'/\D'.ts.length<=D.ts.length+5000):=λk k' D' R' h1 h2=>h1.same b7 b9 a9 h2
 have O4:(∀(w3:U) (a9 b3 :M) (S':WS) (D' R':dk.AX),S'.m=S.m->S'.v=S.v->S'.ar=S.ar->S'.pd=S.pd->S'.pr=S.pr->LS w1 w3 b b1 b2 n S' RF RL RT f g a9 b3 D' R'->D'.ts=R'.ts->dk.Go D'->dk.Go R'->D'.ts.length<=D.ts.length+5000->Lq w1 w3 b b1 b2 n S RF RL RT (D.ts.length+5000)):=λw3 a9 b3 S' D' R' e1 e2 e3 e4 e5 a0 f1 f2 f3 _=>⟨S',f,g,a9,b3,_,_,e1,e2,e3,e4.trans b5,e5.trans b6,a0,f1,f2,f3,A⟩
 have b4:=λ(a1:U) (hW:LS w1 a1 b b1 b2 n S RF RL RT f g vd vr D R)=>Hp b7 A a5 a6 a7 s A A A A hW.dks.d λX hX=>⟨(hG X (hW.old hX).ho).2,(hG X (hW.old hX).ho).1.2⟩
 have c5:=λ(a1:U) (a9 :M) (D':dk.AX) (S':WS) (hW:LS w1 a1 b b1 b2 n S' RF RL RT f g a9 vr D' R)=>Hr b9 A a5 a6 a7 s A A A A hW.dks.r
 have c6:=hL;have b4:=b4 _ (hL.old (Ag.refl (λ_=>False) _).drew);unfold Ci at*;go_in;go_wp2_with fail;generalize w.alloc (W #[I Q 13,I Q p,I Q q,G s,G t,x,y] 41)=a1,w.heap.size=ob at*;have b0:=hL.hw.hp;have c2:=c0;have hob:=(Wt.1 c0).1;have hbw:=c4;have j:a1.drew.cell? ⟨b,3,O⟩=J (V<|J ⟨f,0,O⟩)/\a1.drew.cell? ⟨ob,3,O⟩=J (G s)/\a1.drew.cell? ⟨b,0,O⟩=J (G a5)/\a1.drew.cell? ⟨b,1,O⟩=J (G a6)/\a1.drew.cell? ⟨b,2,O⟩=J (G a7)/\True:=⟨(by show a1.cell? _=_;exact a 3 _ c a1 b0),(by show a1.cell? _=_;rw[Wu a1 ob 3 _ _ (0,0) c2];rfl),(by show a1.cell? _=_;exact a 0 _ a2 a1 b0),(by show a1.cell? _=_;exact a 1 _ a3 a1 b0),(by show a1.cell? _=_;exact a 2 _ a4 a1 b0),trivial⟩;go_wp2_with fail;refine Ai (S:=λX=>X.cell? ⟨b,3,O⟩=J (V<|J ⟨f,0,O⟩)/\X.cell? ⟨ob,3,O⟩=J (G s)/\X.cell? ⟨b,0,O⟩=J (G a5)/\X.cell? ⟨b,1,O⟩=J (G a6)/\X.cell? ⟨b,2,O⟩=J (G a7)/\True) (L:=19) B ?_;refine tk 0 20 (V<|J ⟨b,0,O⟩) 11 j ?_;refine tk 1 20 (V<|J ⟨b,0,O⟩) 12 j ?_;refine tk 2 20 (V<|J ⟨b,3,O⟩) 13 j ?_;refine tk 3 20 (V<|J ⟨f,0,O⟩) 14 j ?_;refine tk 4 20 (V<|J ⟨ob,3,O⟩) 15 j ?_;refine tk 5 20 (G s) 16 j ?_;refine tk 6 20 (V<|J ⟨b,0,O⟩) 17 j ?_;refine tk 7 20 (V<|J ⟨b,0,O⟩) 18 j ?_;refine tk 8 20 (V<|J ⟨b,0,O⟩) 19 j ?_;refine tk 9 20 (G a5) 20 j ?_;refine tk 10 20 (V<|J ⟨b,0,O⟩) 21 j ?_;refine tk 11 20 (V<|J ⟨b,0,O⟩) 22 j ?_;refine tk 12 20 (V<|J ⟨b,1,O⟩) 23 j ?_;refine tk 13 20 (G a6) 24 j ?_;refine tk 14 20 (V<|J ⟨b,0,O⟩) 25 j ?_;refine tk 15 20 (V<|J ⟨b,0,O⟩) 26 j ?_;refine tk 16 20 (V<|J ⟨b,2,O⟩) 27 j ?_;refine tk 17 20 (G a7) 28 j ?_;refine Ah (i:=18) B ?_;refine WE rfl λK' l=>?_;go_simp;apply b4.mono;rintro e w2 ⟨kA,D2,rfl,c7,a9⟩;have b3:=c6.old (Ag.refl (λ_=>False) a1).drew;have a0:=JU b3.dks a9 b0 Ac Ac;have a8:=JU b3.dks a9 c2 Ac Ac;have O1:w2.cell? ⟨b,3,O⟩=J (V<|J ⟨f,0,O⟩)/\w2.cell? ⟨ob,3,O⟩=J (G s)/\w2.cell? ⟨b,0,O⟩=J (G a5)/\w2.cell? ⟨b,1,O⟩=J (G a6)/\w2.cell? ⟨b,2,O⟩=J (G a7)/\True:=⟨a 3 _ c w2 a0,(by rw[Wu w2 ob 3 _ _ (0,0) a8];rfl),a 0 _ a2 w2 a0,a 1 _ a3 w2 a0,a 2 _ a4 w2 a0,trivial⟩;refine l _ _ ⟨λ_=>O1,?_⟩;refine Ah (i:=19) B ?_;refine WE rfl λK' l=>?_;go_simp;refine l _ _ ⟨λh=>κ rfl h,?_⟩;refine Aj B ?_;obtain⟨X0,a1⟩:=b3.turnD a9;have c8:=a1;have a9:=c5 _ _ _ _ (a1.old (Ag.refl (λ_=>False) w2).drew);have HXA:=c7;have hob:=(Wt.1 a8).1;have hbw:=(Wt.1 a0).1;have j:w2.drew.cell? ⟨b,4,O⟩=J (V<|J ⟨g,0,O⟩)/\w2.drew.cell? ⟨ob,3,O⟩=J (G s)/\w2.drew.cell? ⟨b,0,O⟩=J (G a5)/\w2.drew.cell? ⟨b,1,O⟩=J (G a6)/\w2.drew.cell? ⟨b,2,O⟩=J (G a7)/\True:=⟨(by show w2.cell? _=_;exact a 4 _ o w2 a0),(by show w2.cell? _=_;rw[Wu w2 ob 3 _ _ (0,0) a8];rfl),(by show w2.cell? _=_;exact a 0 _ a2 w2 a0),(by show w2.cell? _=_;exact a 1 _ a3 w2 a0),(by show w2.cell? _=_;exact a 2 _ a4 w2 a0),trivial⟩;go_wp2_with fail;refine Ai (S:=λX=>X.cell? ⟨b,4,O⟩=J (V<|J ⟨g,0,O⟩)/\X.cell? ⟨ob,3,O⟩=J (G s)/\X.cell? ⟨b,0,O⟩=J (G a5)/\X.cell? ⟨b,1,O⟩=J (G a6)/\X.cell? ⟨b,2,O⟩=J (G a7)/\True) (L:=19) B ?_;refine tk 0 20 (V<|J ⟨b,0,O⟩) 30 j ?_;refine tk 1 20 (V<|J ⟨b,0,O⟩) 31 j ?_;refine tk 2 20 (V<|J ⟨b,4,O⟩) 32 j ?_;refine tk 3 20 (V<|J ⟨g,0,O⟩) 33 j ?_;refine tk 4 20 (V<|J ⟨ob,3,O⟩) 34 j ?_;refine tk 5 20 (G s) 35 j ?_;refine tk 6 20 (V<|J ⟨b,0,O⟩) 36 j ?_;refine tk 7 20 (V<|J ⟨b,0,O⟩) 37 j ?_;refine tk 8 20 (V<|J ⟨b,0,O⟩) 38 j ?_;refine tk 9 20 (G a5) 39 j ?_;refine tk 10 20 (V<|J ⟨b,0,O⟩) 40 j ?_;refine tk 11 20 (V<|J ⟨b,0,O⟩) 41 j ?_;refine tk 12 20 (V<|J ⟨b,1,O⟩) 42 j ?_;refine tk 13 20 (G a6) 43 j ?_;refine tk 14 20 (V<|J ⟨b,0,O⟩) 44 j ?_;refine tk 15 20 (V<|J ⟨b,0,O⟩) 45 j ?_;refine tk 16 20 (V<|J ⟨b,2,O⟩) 46 j ?_;refine tk 17 20 (G a7) 47 j ?_;refine Ah (i:=18) B ?_;refine WE rfl λK' l=>?_;go_simp;apply a9.mono;rintro e w3 ⟨kB,R3,rfl,hxB,K1⟩;have T0:=c8.old (Ag.refl (λ_=>False) w2).drew;have u:=JU T0.dks.swap K1 a0 Ac Ac;have E4:=JU T0.dks.swap K1 a8 Ac Ac;have O1:w3.cell? ⟨b,4,O⟩=J (V<|J ⟨g,0,O⟩)/\w3.cell? ⟨ob,3,O⟩=J (G s)/\w3.cell? ⟨b,0,O⟩=J (G a5)/\w3.cell? ⟨b,1,O⟩=J (G a6)/\w3.cell? ⟨b,2,O⟩=J (G a7)/\True:=⟨a 4 _ o w3 u,(by rw[Wu w3 ob 3 _ _ (0,0) E4];rfl),a 0 _ a2 w3 u,a 1 _ a3 w3 u,a 2 _ a4 w3 u,trivial⟩;refine l _ _ ⟨λ_=>O1,?_⟩;refine Ah (i:=19) B ?_;exact aev
def fw{S:WS}{D R:dk.AX}(p q:Z)(s t:Y)(hs:s.size<=1048576)(x y:M)(w:U)(h:LS w1 w b b1 b2 n S RF RL RT f g vd vr D R)(a6:S.pd=V (J ⟨f,0,O⟩))(a7:S.pr=V (J ⟨g,0,O⟩))(a3:D.ts=R.ts)(a8:dk.Go D)(a9:dk.Go R)(a4:D.ts.length<=90000000000)(hG:∀a0,Ag (λk=>k=b\/k=b1\/k=b2) w1 a0->Fr a0):
 μ F 24 #[V<|J ⟨b,0,O⟩,.agg<|Ci 14 p q s t x y] w λe w'=>e=ε (ζ θ)/\Lq w1 w' b b1 b2 n S RF RL RT (D.ts.length+5000):=by
 have hA:Am w<|w.alloc (W (Ci 14 p q s t x y) 41):=(Ag.refl _ w).alloc _;have hL:=h.old hA;have b0:=WD w<|W (Ci 14 p q s t x y) 41;obtain⟨b5,hM⟩:∃b5,S.m=b5:=⟨_,rfl⟩;obtain⟨b6,hV⟩:∃b6,S.v=b6:=⟨_,rfl⟩;obtain⟨b7,b9⟩:∃b7,S.ar=b7:=⟨_,rfl⟩;have:((S.cs n)[0]? =J (G b5)):=by rw[<-hM];rfl
 have:((S.cs n)[1]? =J (G b6)):=by rw[<-hV];rfl
 have:((S.cs n)[2]? =J (G b7)):=by rw[<-b9];rfl
 have c:((S.cs n)[3]? =J (V<|J ⟨f,0,O⟩)):=by rw[<-a6];rfl
 have o:((S.cs n)[4]? =J (V<|J ⟨g,0,O⟩)):=by rw[<-a7];rfl
 have a:(∀(i:N) (a1:M),(S.cs n)[i]? =J a1-> ∀a0:U,a0.heap[b]? =J (W (S.cs n) wT (0,0))->a0.cell? ⟨b,i,O⟩=J a1):=λi a1 hu a0 hb=>by rw[Wu a0 b i _ _ (0,0) hb];exact hu
 have c0:=hL.hw.inb;have:R.ts.length<=90000000000:=by rw[<-a3];exact a4
 have HSM:(∀k k' D' R',MV D s k D'->MV R s k' R'->k=k'/\D'.ts=R'.ts/\dk.Go D'/\dk.Go R'/\D'.ts.length<=D.ts.length+0):=λk k' D' R' h1 h2=>h1.same a8 a9 a3 h2
 have O4:(∀(w3:U) (a3 a4 :M) (S':WS) (D' R':dk.AX),S'.m=S.m->S'.v=S.v->S'.ar=S.ar->S'.pd=S.pd->S'.pr=S.pr->LS w1 w3 b b1 b2 n S' RF RL RT f g a3 a4 D' R'->D'.ts=R'.ts->dk.Go D'->dk.Go R'->D'.ts.length<=D.ts.length+0->Lq w1 w3 b b1 b2 n S RF RL RT (D.ts.length+5000)):=λw3 a3 a4 S' D' R' e1 e2 e3 e4 e5 a1 f1 f2 f3 _=>⟨S',f,g,a3,a4,_,_,e1,e2,e3,e4.trans a6,e5.trans a7,a1,f1,f2,f3,A⟩
 have a5:=λ(a0:U) (hW:LS w1 a0 b b1 b2 n S RF RL RT f g vd vr D R)=>Hq a8 s A hW.dks.d (hG a0 hW.ho).2
 have c1:=λ(a0:U) (a3 :M) (D':dk.AX) (S':WS) (hW:LS w1 a0 b b1 b2 n S' RF RL RT f g a3 vr D' R)=>Hs a9 s A hW.dks.r
 have c2:=hL;have a5:=a5 _ (hL.old (Ag.refl (λ_=>False) _).drew);unfold Ci at*;go_in;go_wp2_with fail;generalize w.alloc (W #[I Q 14,I Q p,I Q q,G s,G t,x,y] 41)=a0,w.heap.size=ob at*;have b3:=hL.hw.hp;have b4:=b0;have hob:=(Wt.1 b0).1;have hbw:=c0;have j:a0.drew.cell? ⟨b,3,O⟩=J (V<|J ⟨f,0,O⟩)/\a0.drew.cell? ⟨ob,3,O⟩=J (G s)/\True:=⟨(by show a0.cell? _=_;exact a 3 _ c a0 b3),(by show a0.cell? _=_;rw[Wu a0 ob 3 _ _ (0,0) b4];rfl),trivial⟩;go_wp2_with fail;refine Ai (S:=λX=>X.cell? ⟨b,3,O⟩=J (V<|J ⟨f,0,O⟩)/\X.cell? ⟨ob,3,O⟩=J (G s)/\True) (L:=7) B ?_;refine tk 0 8 (V<|J ⟨b,0,O⟩) 49 j ?_;refine tk 1 8 (V<|J ⟨b,0,O⟩) 50 j ?_;refine tk 2 8 (V<|J ⟨b,3,O⟩) 51 j ?_;refine tk 3 8 (V<|J ⟨f,0,O⟩) 52 j ?_;refine tk 4 8 (V<|J ⟨ob,3,O⟩) 53 j ?_;refine tk 5 8 (G s) 54 j ?_;refine Ah (i:=6) B ?_;refine WE rfl λK' l=>?_;go_simp;apply a5.mono;rintro e w2 ⟨kA,D2,rfl,c3,a3⟩;have a4:=c2.old (Ag.refl (λ_=>False) a0).drew;have a1:=JU a4.dks a3 b3 Ac Ac;have a2:=JU a4.dks a3 b4 Ac Ac;have O1:w2.cell? ⟨b,3,O⟩=J (V<|J ⟨f,0,O⟩)/\w2.cell? ⟨ob,3,O⟩=J (G s)/\True:=⟨a 3 _ c w2 a1,(by rw[Wu w2 ob 3 _ _ (0,0) a2];rfl),trivial⟩;refine l _ _ ⟨λ_=>O1,?_⟩;refine Ah (i:=7) B ?_;refine WE rfl λK' l=>?_;go_simp;refine l _ _ ⟨λh=>κ rfl h,?_⟩;refine Aj B ?_;obtain⟨X0,a0⟩:=a4.turnD a3;have c4:=a0;have a3:=c1 _ _ _ _ (a0.old (Ag.refl (λ_=>False) w2).drew);have HXA:=c3;have hob:=(Wt.1 a2).1;have hbw:=(Wt.1 a1).1;have j:w2.drew.cell? ⟨b,4,O⟩=J (V<|J ⟨g,0,O⟩)/\w2.drew.cell? ⟨ob,3,O⟩=J (G s)/\True:=⟨(by show w2.cell? _=_;exact a 4 _ o w2 a1),(by show w2.cell? _=_;rw[Wu w2 ob 3 _ _ (0,0) a2];rfl),trivial⟩;go_wp2_with fail;refine Ai (S:=λX=>X.cell? ⟨b,4,O⟩=J (V<|J ⟨g,0,O⟩)/\X.cell? ⟨ob,3,O⟩=J (G s)/\True) (L:=7) B ?_;refine tk 0 8 (V<|J ⟨b,0,O⟩) 56 j ?_;refine tk 1 8 (V<|J ⟨b,0,O⟩) 57 j ?_;refine tk 2 8 (V<|J ⟨b,4,O⟩) 58 j ?_;refine tk 3 8 (V<|J ⟨g,0,O⟩) 59 j ?_;refine tk 4 8 (V<|J ⟨ob,3,O⟩) 60 j ?_;refine tk 5 8 (G s) 61 j ?_;refine Ah (i:=6) B ?_;refine WE rfl λK' l=>?_;go_simp;apply a3.mono;rintro e w3 ⟨kB,R3,rfl,hxB,K1⟩;have T0:=c4.old (Ag.refl (λ_=>False) w2).drew;have u:=JU T0.dks.swap K1 a1 Ac Ac;have E4:=JU T0.dks.swap K1 a2 Ac Ac;have O1:w3.cell? ⟨b,4,O⟩=J (V<|J ⟨g,0,O⟩)/\w3.cell? ⟨ob,3,O⟩=J (G s)/\True:=⟨a 4 _ o w3 u,(by rw[Wu w3 ob 3 _ _ (0,0) E4];rfl),trivial⟩;refine l _ _ ⟨λ_=>O1,?_⟩;refine Ah (i:=7) B ?_;exact aev
def bJ{S:WS}{d:E (M×Y)}{g h:N}{a l:M}{D R:dk.AX}(p q:Z)(s t:Y)(m:s.size<=1048576)(r:t.size<=1048576)(x y:M)(w:U)(u:LS w1 w b c f n S j d o g h a l D R)(i:S.pd=V (J ⟨g,0,O⟩))(g:S.pr=V (J ⟨h,0,O⟩))(h:D.ts=R.ts)(k:dk.Go D)(l:dk.Go R)(a:D.ts.length<=90000000000):
 μ F 6 #[V<|J ⟨b,0,O⟩,.agg<|Ci 12 p q s t x y] w λe w'=>e=ε (ζ θ)/\Lq w1 w' b c f n S j d o (D.ts.length+1):=by
 have HC:=yf p q s t m r x y _ (u.old ((Ag.refl _ w).alloc<|W (Ci 12 p q s t x y) 41)) i g h k l a;exact afU
def Ug{S:WS}{d:E (M×Y)}{g h:N}{a l:M}{D R:dk.AX}(p q:Z)(s t:Y)(L:s.size<=1048576)(P:S.m.size<=1048576)(T:S.v.size<=1048576)(i:S.ar.size<=9000000000)(x y:M)(w:U)(a0:LS w1 w b c f n S j d o g h a l D R)(l:S.pd=V (J ⟨g,0,O⟩))(g:S.pr=V (J ⟨h,0,O⟩))(h:D.ts=R.ts)(r:dk.Go D)(u:dk.Go R)(a:D.ts.length<=90000000000)(hG:∀z,Ag (λk=>k=b\/k=c\/k=f) w1 z->Fr z):
 μ F 6 #[V<|J ⟨b,0,O⟩,.agg<|Ci 13 p q s t x y] w λe w'=>e=ε (ζ θ)/\Lq w1 w' b c f n S j d o (D.ts.length+5000):=by
 have HC:=fq p q s t L P T i x y _ (a0.old ((Ag.refl _ w).alloc<|W (Ci 13 p q s t x y) 41)) l g h r u a hG;exact afU
def Uh{S:WS}{d:E (M×Y)}{g h:N}{a l:M}{D R:dk.AX}(p q:Z)(s t:Y)(u:s.size<=1048576)(x y:M)(w:U)(v:LS w1 w b c f n S j d o g h a l D R)(i:S.pd=V (J ⟨g,0,O⟩))(g:S.pr=V (J ⟨h,0,O⟩))(h:D.ts=R.ts)(l:dk.Go D)(m:dk.Go R)(a:D.ts.length<=90000000000)(z:∀r,Ag (λk=>k=b\/k=c\/k=f) w1 r->Fr r):
 μ F 6 #[V<|J ⟨b,0,O⟩,.agg<|Ci 14 p q s t x y] w λe w'=>e=ε (ζ θ)/\Lq w1 w' b c f n S j d o (D.ts.length+5000):=by
 have HC:=fw p q s t u x y _ (v.old ((Ag.refl _ w).alloc<|W (Ci 14 p q s t x y) 41)) i g h l m a z;exact afU
def TI.ho{j:N}(h:TI w1 w b c f j):Ag (λk=>k=b\/k=c\/k=f) w1 w:=by
 obtain⟨n,S,_,_,_,_,_,_,_,_,R,_,_,_,_,_,_,a,_,_,_,_,_,_⟩:=h;exact a
def TI.up{j:N}(h:TI w1 w b c f j)(a:j<=k):TI w1 w b c f k:=by
 obtain⟨n,S,f,g,i,l,m,o,p,D,R,_,q,r,_,s,t,u,v,a,c,d,e,_⟩:=h;exact⟨n,S,f,g,i,l,m,o,p,D,R,A,q,r,A,s,t,u,v,a,c,d,e,A⟩
def TI.old{j:N}(a:TI w1 w b c f j)(d:Am w w'):TI w1 w' b c f j:=by
 obtain⟨n,S,i,k,l,m,o,p,q,D,R,r,s,t,u,v,x,y,z,e,f,g,h,c⟩:=a;have a:=(LS.mk y z e).old d;exact⟨n,S,i,k,l,m,o,p,q,D,R,r,s,t,u,v,x,a.ho,a.hw,a.dks,f,g,h,c⟩
def TI.still{j:N}(h:TI w1 w b c f j)(a:j<=30000000):μ F 7 #[V<|J ⟨b,0,O⟩] w λe w'=>e=ε (ζ θ)/\Am w w':=by
 obtain⟨n,S,_,_,_,_,_,_,_,_,R,_,_,_,_,_,_,_,a,_,_,_,_,_⟩:=h;exact xj A w a
def uv{b c f j:Nat}(r:j<=1300000)(k p q:Z)(s t:Y)(x y:M)(w:U)(m:k<=14)(P:zN p q s t)(T:TI w1 w b c f j)(o:∀a,Ag (λk=>k=b\/k=c\/k=f) w1 a->Fr a)(a:QN (λd=>Ag (λk=>k=b\/k=c\/k=f) w1 d) x)(u:Ty (λd=>Ag (λk=>k=b\/k=c\/k=f) w1 d) y):
 μ F 6 #[V<|J ⟨b,0,O⟩,.agg<|Ci k p q s t x y] w λe w'=>e=ε (ζ θ)/\TI w1 w' b c f (j+1):=by
 by_cases m:k<=11
 .exact tC r k p q s t x y w m P T o a u
 obtain⟨n,S,m,r,u,bd,br,vd,vr,a3,R,_,h2,h3,_,v,z,ho,hw,D,d,g,h,_⟩:=T;obtain⟨-, -,L,ht⟩:=P;have i:LS w1 w b c f n S m r u bd br vd vr a3 R:=⟨ho,hw,D⟩;have l:∀{w':U} {N:Nat},N<=5000*j+5000->Lq w1 w' b c f n S m r u N->TI w1 w' b c f (j+1):=λ_ hp=>by
  obtain⟨S',c,f,D,P,D',R',e1,e2,e3,e4,e5,T,f1,f2,f3,_⟩:=hp;exact⟨n,S',m,r,u,c,f,D,P,D',R',A,by rw[e1];exact h2,by rw[e2];exact h3,by rw[e3];omega,e4,e5,T.ho,T.hw,T.dks,f1,f2,f3,A⟩
 by_cases a0:k=12
 .subst a0;exact(bJ p q s t L ht x y w i v z d g h A).mono λe w' a=>⟨a.1,l A a.2⟩
 by_cases a1:k=13
 .subst a1;exact(Ug p q s t L h2 h3 A x y w i v z d g h A o).mono λe w' a=>⟨a.1,l A a.2⟩
 have a2:k=14:=A;subst a2;exact(Uh p q s t L x y w i v z d g h A o).mono λe w' a=>⟨a.1,l A a.2⟩
def qE(ao:Option Addr)(n cap:N)(w:U)(hg:Fr w)(ho:n=0\/ ∃a,ao=J a/\il (λd=>Am w d) a n)(hn:n<=1100000):
 μ F 4 #[K ao n cap,I Q 14] w λe w'=>e=ε (ζ θ)/\Am w w':=by
 have HG:=hg;have b0:=ho;go_in;go_wp2_with (go_at_call 5;refine(Re _).mono ?_;rintro e w' ⟨rfl,rfl⟩);refine ZG (R:=λd=>(∃s:WS,CI d d (w.heap.size+2) 0 s [] [] []/\s.m.size=0/\s.v.size=0/\s.ar.size=0/\s.pd=V (J ⟨w.heap.size,0,O⟩)/\s.pr=V (J ⟨w.heap.size+1,0,O⟩))/\(d.heap[w.heap.size]? =J (W VI ee (0,0))/\d.heap[w.heap.size+1]? =J (W VI ee (0,0)))/\(il (λf=>Ag (λk=>k=w.heap.size+2\/k=w.heap.size\/k=w.heap.size+1) d f) ⟨w.heap.size+5,0,O⟩ 11)/\Am w d) ⟨?_,?_,?_,?_⟩ ?_
 .exact ⟨⟨_,_,_,_,_,_,_,_,_,_,_,_⟩,CI.start (Dr<|Dr (Dr<|Pt Ad)) rfl rfl rfl rfl rfl rfl rfl,rfl,rfl,rfl,rfl,rfl⟩
 .exact ⟨Dr<|Dr (Dr<|Dr (Dr<|Pt Ad)),Dr<|Dr (Dr<|Dr (Pt Ad))⟩
 .refine fg (e:=41) (x:=K (J ⟨w.heap.size+3,0,O⟩) 3 3) (y:=K (J ⟨w.heap.size+4,0,O⟩) 2 2) ⟨uk,Ad,Ac,λf g=> .inr ⟨⟨w.heap.size+3,0,O⟩,3,rfl,ph ?_⟩⟩ ⟨J ⟨w.heap.size+4,0,O⟩,2,⟨w.heap.size+4,0,O⟩,qm,rfl,Ad,Ac,λ_=>rfl,λf g=>kZ ?_⟩ (λf g=>?_)
  .refine (g.block (w.heap.size+3) Ad A).trans ?_;exact Dr<|Dr (Pt Ad)
  .refine (g.block (w.heap.size+4) Ad A).trans ?_;exact Dr<|Pt Ad
  refine(g.block (w.heap.size+5) Ad A).trans ?_;exact Pt Ad
 .exact ((((((Ag.refl _ w).alloc _).alloc _).alloc _).alloc _).alloc _).alloc _
 rintro d ⟨⟨s0,hw,_,_,_,b1,b2⟩,⟨b3,b4⟩,hf,a8⟩;have u:(TI d d (w.heap.size+2) w.heap.size (w.heap.size+1) 0):=⟨0,s0,[],[],[],w.heap.size,w.heap.size+1,K O 0 0,K O 0 0,lq,lq,WF _,A,A,A,b1,b2,Ag.refl _ d,hw.rebase rfl,⟨Rx b3,Rx b4,A,λk e=>(by cases e),.inl rfl,.inl rfl,λk e=>(by cases e),λk e=>(by cases e)⟩,rfl,zV,zV,Ac⟩;have HF:=hf;have i:(∀f,Ag (λk=>k=w.heap.size+2\/k=w.heap.size\/k=w.heap.size+1) d f->Am w f):=λf g=>a8.transNew g λk hk e=>A
 go_wp2;go_loopw [9,10] (λc l wr=>∃j:N,j<=11/\c=ζ θ/\l=I Q j/\(TI d wr (w.heap.size+2) w.heap.size (w.heap.size+1) j)) λ_ c _=>11-(intOf c).toNat
 .exact ⟨0,A,rfl,rfl,u⟩
 obtain⟨j,hj,rfl,rfl,u⟩:=hrel;have P:=u.ho;have z:=P;by_cases S:j<11
 .obtain ⟨k,p,q,s,t,x,y,hs,T,a0,c⟩:=HF j S;have c:=c wr z;have D:wr.cell? ⟨w.heap.size+5,j*7+0,O⟩=(Ci k p q s t x y)[0]? :=by have:=c 0 A;rw[we,WQ] at this;exact this
  have a1:wr.cell? ⟨w.heap.size+5,j*7+1,O⟩=(Ci k p q s t x y)[1]? :=by have:=c 1 A;rw[we,WQ] at this;exact this
  have a2:wr.cell? ⟨w.heap.size+5,j*7+2,O⟩=(Ci k p q s t x y)[2]? :=by have:=c 2 A;rw[we,WQ] at this;exact this
  have a3:wr.cell? ⟨w.heap.size+5,j*7+3,O⟩=(Ci k p q s t x y)[3]? :=by have:=c 3 A;rw[we,WQ] at this;exact this
  have a4:wr.cell? ⟨w.heap.size+5,j*7+4,O⟩=(Ci k p q s t x y)[4]? :=by have:=c 4 A;rw[we,WQ] at this;exact this
  have a5:wr.cell? ⟨w.heap.size+5,j*7+5,O⟩=(Ci k p q s t x y)[5]? :=by have:=c 5 A;rw[we,WQ] at this;exact this
  have a6:wr.cell? ⟨w.heap.size+5,j*7+6,O⟩=(Ci k p q s t x y)[6]? :=by have:=c 6 A;rw[we,WQ] at this;exact this
  simp only[aaw] at D;have l:=λhk=>uv A k p q s t x y wr hk hs u (λf g=>HG.old<|i f g) T a0
  unfold Ci at D a1 a2 a3 a4 a5 a6 l;by_cases a7:k<=14
  .have o:=l a7;go_wp2_with (go_at_call 6;refine o.mono ?_;rintro e w1 ⟨rfl,r⟩;have L:=r;clear r);go_roundw
   .exact ⟨j+1,A,rfl,by go_num,L⟩
   exact Ae
  have b:(TI d wr (w.heap.size+2) w.heap.size (w.heap.size+1)<|j+1):=u.up A;go_wp2_with fail;exact ahV
 have a8:(j:Z)=11:=A;have b5:(TI d wr (w.heap.size+2) w.heap.size (w.heap.size+1)<|11+0):=u.up A;rw[a8];go_wp2;go_loopw [9,11,12,13] (λok a8 _ _ wr=>∃j:N,j<=n/\ok=ζ θ/\a8=I Q j/\(TI d wr (w.heap.size+2) w.heap.size (w.heap.size+1)<|11+j)) λ_ a8 _ _ _=>n-(intOf a8).toNat
 .exact ⟨0,A,rfl,rfl,b5⟩
 obtain⟨j,hj,rfl,rfl,u⟩:=hrel;have P:=u.ho;have z:=P;by_cases S:j<n
 .obtain ⟨a,b6,a9⟩:∃a,ao=J a/\il (λd=>Am w d) a n:=by
   rcases b0 with h|h
   .omega
   exact h
  obtain⟨k,p,q,s,t,x,y,hs,T,a0,c⟩:=a9 j S;have c:=c wr<|i wr z;have D:wr.cell? (a.add<|j*7)=(Ci k p q s t x y)[0]? :=c 0 A;have a1:wr.cell? ⟨(a.add<|j*7).block,(a.add<|j*7).off+1,O⟩=(Ci k p q s t x y)[1]? :=by have:=c 1 A;rw[<-aby] at this;exact(hJ wr.cell? (abp (a.add<|j*7) 0).symm).trans this
  have a2:wr.cell? ⟨(a.add<|j*7).block,(a.add<|j*7).off+2,O⟩=(Ci k p q s t x y)[2]? :=by have:=c 2 A;rw[<-aby] at this;exact(hJ wr.cell? (abp (a.add<|j*7) 1).symm).trans this
  have a3:wr.cell? ⟨(a.add<|j*7).block,(a.add<|j*7).off+3,O⟩=(Ci k p q s t x y)[3]? :=by have:=c 3 A;rw[<-aby] at this;exact(hJ wr.cell? (abp (a.add<|j*7) 2).symm).trans this
  have a4:wr.cell? ⟨(a.add<|j*7).block,(a.add<|j*7).off+4,O⟩=(Ci k p q s t x y)[4]? :=by have:=c 4 A;rw[<-aby] at this;exact(hJ wr.cell? (abp (a.add<|j*7) 3).symm).trans this
  have a5:wr.cell? ⟨(a.add<|j*7).block,(a.add<|j*7).off+5,O⟩=(Ci k p q s t x y)[5]? :=by have:=c 5 A;rw[<-aby] at this;exact(hJ wr.cell? (abp (a.add<|j*7) 4).symm).trans this
  have a6:wr.cell? ⟨(a.add<|j*7).block,(a.add<|j*7).off+6,O⟩=(Ci k p q s t x y)[6]? :=by have:=c 6 A;rw[<-aby] at this;exact(hJ wr.cell? (abp (a.add<|j*7) 5).symm).trans this
  have l:=(λhk=>uv A k p q s t x y wr hk hs u (λf g=>HG.old<|i f g) (by
   obtain⟨c,q,x,y⟩:=T;exact⟨c,q,x,λf g=>y f<|i f g⟩) (by
   obtain⟨c,q,x,y,P,S,T,z8,z9⟩:=a0;exact⟨c,q,x,y,P,S,T,z8,λf g=>z9 f<|i f g⟩))
  subst b6;unfold Ci at D a1 a2 a3 a4 a5 a6 l;by_cases a7:k<=14
  .have o:=l a7;go_wp2_with (first
    |(go_at_call 6;refine o.mono ?_;rintro e w1 ⟨rfl,r⟩;have L:(TI d w1 (w.heap.size+2) w.heap.size (w.heap.size+1)<|11+(j+1)):=r.up A;have c:=L.still A;clear r)
    |(go_at_call 7;refine c.mono ?_;rintro e w2 ⟨rfl,f⟩;have b:=L.old f;clear f))
   exact ahV
  have b:(TI d wr (w.heap.size+2) w.heap.size (w.heap.size+1)<|11+(j+1)):=u.up A;go_wp2_with fail;exact ahV
 have b7:j=n:=A;have g:=i wr z;subst b7;go_wp2;go_ret;exact⟨rfl,g⟩
