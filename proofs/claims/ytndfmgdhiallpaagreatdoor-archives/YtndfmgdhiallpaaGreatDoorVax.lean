import Derived.Test.YtndfmgdhiallpaaGreatDoorVaw
import Derived.Sort.Walk0
import Derived.Laws.Cover1
import Derived.Test.YtndfmgdhiallpaaGreatDoorSo
set_option linter.all false
set_option maxRecDepth 100000
set_option maxHeartbeats 4000000
open _root_ renaming Option.some->J,Option.none->O,Int->Z,Nat->N,Go.Value.int->I,Go.Value.string->G,Go.IntKind.i64->Q,ByteArray->Y,List->E,Go.World->U,Go.Value.slice->K,Go.Value->β,Go.Obj.cells->γ,Go.Value.pointer->δ,Go.Ending.returned->ε,Go.Value.bool->ζ,Bool.false->ι,absurd->κ,Go.Calls->μ,Array->φ,Go.Proofs.Tryz.prog->ψ,Decidable.decide->Γ
namespace Go.Proofs.YtndfmgdhiallpaaGreatDoor
open Go.RowKit Go.Maps Go.Proofs.Tryz
def SE(a b:Y):Z:=if a.data.toList<b.data.toList then -1 else if b.data.toList<a.data.toList then 1 else 0
def bC(a:Y)(w:U):μ ψ 160 #[G a] w λr w' =>r=ε (ζ ι)/\w' =w:=by
 go_in;exact yU
def Nw(a b:Y):Op.bytesLess a.toList b.toList=Γ (a.data.toList<b.data.toList):=by rw[Lib.toList_data,Lib.toList_data,bytesLess_eq]
def Fy{a b:Y}(c:¬a.data.toList<b.data.toList)(d:¬b.data.toList<a.data.toList):a=b:=
 sX (uG.1 (List.le_antisymm (xQ.1 d) (xQ.1 c)))
def fh(a b:Y)(w:U):μ ψ 84 #[G a,G b] w λr w' =>r=ε (I Q (SE a b))/\w' =w:=by
 have h:=Nw a b;have g:=Qd a b;by_cases d:a.data.toList<b.data.toList
 .have c:SE a b= -1:=rd d;rw[c];rw[qZ d] at h;clear c g d;go_in;go_wp2_with fail;refine(bC a w).mono ?_;rintro e w1 ⟨rfl,rfl⟩;go_wp2_with fail;refine(bC b w1).mono ?_;exact abH
 rw[qX d] at h;by_cases f:b.data.toList<a.data.toList
 .have c:SE a b=1:=by rw[SE,rc d,rd f]
  rw[c];rw[qX (λe=>by subst e;exact d f)] at g;clear c d f;go_in;go_wp2_with fail;refine(bC a w).mono ?_;rintro e w1 ⟨rfl,rfl⟩;go_wp2_with fail;refine(bC b w1).mono ?_;exact abH
 have c:SE a b=0:=by rw[SE,rc d,rc f]
 rw[c];rw[qZ (Fy d f)] at g;clear c d f;go_in;go_wp2_with fail;refine(bC a w).mono ?_;rintro e w1 ⟨rfl,rfl⟩;go_wp2_with fail;refine(bC b w1).mono ?_;exact abH
def fj(x y:Fl)(w:U):μ ψ 83 #[.agg #[G x.1,G x.2],.agg #[G y.1,G y.2]] w λr w' =>r=ε (I Q (SE x.1 y.1))/\w' =(w.alloc (γ #[G x.1,G x.2] 50)).alloc (γ #[G y.1,G y.2] 50):=by
 obtain⟨a,c⟩:=x;obtain⟨d,g⟩:=y;simp only;have f:=rh w (γ #[G a,G c] 50);have b:=rh (w.alloc (γ #[G a,G c] 50)) (γ #[G d,G g] 50);have j:Al (w.alloc (γ #[G a,G c] 50)) ((w.alloc (γ #[G a,G c] 50)).alloc (γ #[G d,G g] 50)):=(Ag.refl _ _).alloc _;have h:((w.alloc (γ #[G a,G c] 50)).alloc (γ #[G d,G g] 50)).cell? ⟨w.heap.size,0,O⟩=J (G a):=by
  rw[j.cell (p:=⟨w.heap.size,0,O⟩) (by rw[rr];exact yu _) (λx=>x),qV _ _ 0 _ _ (0,0) f];rfl
 have i:((w.alloc (γ #[G a,G c] 50)).alloc (γ #[G d,G g] 50)).cell? ⟨w.heap.size+1,0,O⟩=J (G d):=by
  rw[rr] at b;rw[qV _ _ 0 _ _ (0,0) b];rfl
 have H:=Af (λW=>fh a d W);clear f b j;go_in;go_wp2_with fail;refine(H _).mono ?_;rintro e w1 ⟨rfl,rfl⟩;clear h i;exact yU
open Go.RowKit Go.Maps Go.Sort Go.Lib Go.Proofs.Tryz
abbrev NL(x:Fl):E β:=[G x.1,G x.2]
def pw(x y:Fl):Z:=SE x.1 y.1
def pZ(x y:Fl):ltOf pw x y=Γ (x.1.data.toList<y.1.data.toList):=by
 unfold ltOf pw SE;by_cases a:x.1.data.toList<y.1.data.toList
 .rw[rd a,qZ a];rfl
 rw[rc a,qX a];by_cases b:y.1.data.toList<x.1.data.toList
 .rw[rd b];rfl
 rw[rc b];rfl
def qs:SWO (ltOf pw) where
 irrefl x:=by rw[pZ];exact qX (ti _)
 trans x y z h1 h2:=by
  rw[pZ] at*;exact qZ (uE (rQ h1) (rQ h2))
 ntrans x y z h1 h2:=by
  rw[pZ] at*;exact qX (xQ.2 (List.le_trans (xQ.1 (uz h2)) (xQ.1 (uz h1))))
def fk(a b size:N)(w:U):CmpLays ψ 83 #[] NL 2 pw a b size w:=by
 intro m os dk _ x y;refine(fj x y _).mono ?_;rintro e w' ⟨rfl,rfl⟩;refine⟨rfl,0,#[γ #[G x.1,G x.2] 50,γ #[G y.1,G y.2] 50], ?_⟩;rw[alloc_eq_grow,alloc_eq_grow,grow_grow]
 rfl
def Pm(fs:E Fl):(flatK NL 2 fs.toArray).toList=AG fs:=by
 apply ub;intro t;by_cases e:t<fs.length*2
 .have f:(flatK NL 2 fs.toArray).toList[t]? =J ((NL (fs.toArray)[t/2]!)[t%2]!):=by
   rw[<-get_flatK NL 2 fs.toArray t (by simpa using e),sC];have d:t<(flatK NL 2 fs.toArray).size:=by simpa using e
   rw[rZ d,vY _ t d]
  rw[f];have c:t/2<fs.length:=Aa;obtain⟨a,b⟩:=Nq fs (t/2) c;have g:fs.toArray[t/2]! =fs.getD (t/2) default:=by simp[qT,c]
  rw[g];rcases Nat.mod_two_eq_zero_or_one t with h|h
  .rw[show t/2*2=t by omega] at a;rw[a,h];rfl
  rw[show t/2*2+1=t by omega] at b;rw[b,h];rfl
 rw[rL (by simp;omega),rL (by rw[Du];omega)]
def fl{w:U}{g:N}{a:φ β}{e:TypeId}(b:w.heap[g]? =J (γ a e (0,0)))(F:φ β)(m:N)(os:φ Obj):
 (grow (putRow id (Sort.ahead w m) g 0 F) os).heap[g]? =J (γ (putCells id 0 F a) e (0,0)):=by
 have c:=(qW.1 b).1;show((w.heap.modify g (onCells (putCells id 0 F)))++os)[g]? =_;rw[uQ (by rw[yh];exact c),xD,rd rfl,b]
 rfl
def fq(w:U)(g:N)(F:φ β)(m:N)(os:φ Obj):Ag (λk=>k=g) w (grow (putRow id (Sort.ahead w m) g 0 F) os):=by
 refine⟨rfl,rfl,rfl, ?_,λk b a=> ?_⟩
 .show w.heap.size<=((w.heap.modify g (onCells (putCells id 0 F)))++os).size;rw[yf,yh];omega
 show((w.heap.modify g (onCells (putCells id 0 F)))++os)[k]? =_;rw[uQ (by rw[yh];exact b),xD,rc (λe=>a e.symm)]
def ft(F a:φ β)(h:F.size<=a.size):(putCells id 0 F a).toList.take F.size=F.toList:=by
 apply ub;intro t;rw[td];by_cases b:t<F.size
 .rw[rd b,sC,sC];unfold putCells;rw[Array.getElem?_mapIdx,rZ (show t<a.size by omega),rZ b];simp only[uo];rw[rd Aa,vY F (t- 0) Aa]
  rfl
 rw[rc b,rL (by rw[sd];omega)]
def lI(v:β)(fs:E Fl)(hn:fs.length<=1000)(hd:fs.Pairwise (λa b=>a.1≠b.1))(w:U)(h:Au w v fs):μ ψ 82 #[v,nk] w λr w' =>r=ε (.tuple #[])/\∃n :E Fl,n.Perm fs/\n.Pairwise (λa b=>a.1.data.toList<b.1.data.toList)/\Au w' v n /\Ag (λk=>v.ownBlock=J k) w w' :=by
 have h0:=h;obtain⟨hl,⟨rfl,hz⟩|⟨g,cap,q,rfl,hb,D,s,H,t,L⟩⟩:=h
 .refine (AnyF.slices_SortFunc_none sortF O 0 nk w).mono ?_;rintro e w' ⟨rfl,rfl⟩;have:fs=[]:=sj hz;subst this;exact⟨rfl,[],yG _,tH,h0,Ag.refl _ _⟩
 have R:=(qW.1 D).1;have hH:HoldsK NL 2 w g 0 fs.toArray:=by
  intro j p;rw[size_flatK] at p;have T:j<fs.length*2:=by simpa using p
  refine⟨?_,rp w g (0+j) _ _ D⟩;rw[rx,qV w g j q _ (0,0) D];have W:q.toList[j]? =(AG fs)[j]? :=by rw[<-L,td,rd T]
  rw[sC,<-Pm,sC] at W;have F:j<(flatK NL 2 fs.toArray).size:=by rw[size_flatK];exact p
  rw[W,rZ F,vY _ j F]
  rfl
 have eg: ∀args w,(callFunc 83 args).run ψ w=.ok (.enter 83 args) w:=enters_of func83 Ab rfl;have y:=AnyQ.slices_SortFunc sortF 2 isAgg50 sizeOf50 NL (λ_=>rfl) (λx u hu=>by simp[NL] at hu;rcases hu with rfl|rfl<;>rfl) pw qs 83 #[] g 0 cap fs.toArray w eg (fk g 0 _ w) hH R (by simp;omega);have o:μ ψ 82 #[K (J ⟨g,0,O⟩) fs.length cap,nk] w _:=y;refine o.mono ?_;rintro e w' ⟨rfl,c,m,os,⟨V,_,C⟩,F,rfl⟩;have d:c.size=fs.length:=by simpa using V
 have l:c.toList.Perm fs:=by
  have h1:(c.extract 0 fs.toArray.size)=c :=by rw[xW (by simp[d])]
  have h2:(fs.toArray.extract 0 fs.toArray.size)=fs.toArray:=by rw[xW (rj _)]
  rw[h1,h2] at C;simpa using C
 refine⟨rfl,c.toList,l, ?_, ?_,(fq w g _ m os).mono (λk _ e=>by subst e;rfl)⟩
 .have f:c.toList.Pairwise (λa b=>a.1≠b.1):=(l.pairwise_iff (λ{a b} x=>x.symm)).2 hd;rw[ud] at f ⊢;intro i j hi p z;have B:=f i j hi p z;have S :i<c.size:=by simpa using hi
  have A :j<c.size:=by simpa using p
  have X:=F i j (sl _) z (by simpa [d] using A);rw[vY c j A,vY c i S,pZ] at X;have h4:=uz X;simp only[Array.getElem_toList] at B ⊢;rcases yx ((c[i]).1.data.toList<(c[j]).1.data.toList) with h|h
  .exact h
  exact κ (Fy h h4) B
 have P:(flatK NL 2 c).toList=AG c.toList:=by have:=Pm c.toList;simpa using this
 have hF:(flatK NL 2 c).size=fs.length*2:=by rw[size_flatK,d]
 have M:c.toList.length=fs.length:=by rw[sd,d]
 refine⟨by rw[Du],.inr ⟨g,cap,_,by show Value.slice _ fs.length cap=_;rw[M],hb,fl D _ m os,by rw[sd,d];exact s,H, ?_, ?_⟩⟩
 .unfold putCells;rw[Array.size_mapIdx];exact t
 rw[sd,d,<-hF,ft _ _ (by rw[hF,t];exact sA 2 s),P]
abbrev Lf:=Y×N
def Ce(l:E Lf):E β:=l.flatMap λf=>[G f.1,I Q (f.2:Z)]
def Ny(a b:E Lf):Ce (a++b)=Ce a++Ce b:=by simp[Ce]
def Bv(w:U)(v:β)(l:E Lf):Prop:=w.ownsRow 0 48 2 v l.length (Ce l)
def Bv.kept{S:N->Prop}{w w' :U}{v:β}{l:E Lf}(h:Bv w v l)(a:Ag S w w')(c: ∀b,v.ownBlock=J b->¬S b):Bv w' v l:=Ax h a c
def UG(l:E Lf)(j:N)(hj:j<l.length):(Ce l)[j*2]? =J (G (l.getD j default).1)/\(Ce l)[j*2+1]? =J (I Q ((l.getD j default).2:Z)):=by
 induction l generalizing j with
 |nil=>simp at hj
 |cons a r ih=>
  rw[Ce,tc,<-Ce];exact wA
def Bv.slice{w:U}{v:β}{l:E Lf}(h:Bv w v l)(f:0<l.length): ∃g cap,v=K (J ⟨g,0,O⟩) l.length cap/\g<w.heap.size/\∀j,j<l.length->w.cell? ⟨g,j*2,O⟩=J (G (l.getD j default).1)/\w.cell? ⟨g,j*2+1,O⟩=J (I Q ((l.getD j default).2:Z)):=by
 obtain⟨d,⟨rfl,i⟩|⟨g,cap,a,rfl,h1,b,e⟩⟩:=h
 .omega
 refine⟨g,cap,rfl,(qW.1 b).1,λj c=> ?_⟩;have hcl:=ur (w:=w) ⟨d,.inr ⟨g,cap,a,rfl,h1,b,e⟩⟩ (g:=g) rfl;obtain⟨ha,hb⟩:=UG l j c;exact aan
structure XQ where
 fs:E Fl
 tb:Gp
 all:N
 lf:E Lf
def Ed(L:E Y)(s:XQ)(e:Bw):XQ:=if BM L e=0 then⟨s.fs++[(e.nm,e.dt)],GR s.tb e.nm,s.all+e.dt.size,s.lf⟩ else⟨s.fs,s.tb,s.all,s.lf++[(e.nm,BM L e)]⟩
abbrev np:XQ:=⟨[],λ_=>O,0,[]⟩
def Eg(L:E Y)(T:E Bw):XQ:=T.foldl (Ed L) np
def Dp(s:XQ)(e:Bw):N:=if CT s.tb e.nm then 5 else if(Γ (e.nm≠Ez)&&Γ (AO e.nm=Ez)) then 4 else if Bu e.nm<e.dt.size then 1 else if s.fs.length=60 then 6 else if 16000<s.all+e.dt.size then 1 else 0
def EA(L:E Y)(T:E Bw)(i:N)(h:i<T.length):Eg L (T.take (i+1))=Ed L (Eg L (T.take i)) (T.getD i AA):=by
 rw[Eg,GB T i h,List.foldl_append];rfl
def GC{s:XQ}{e:Bw}(h:Dp s e=0):CT s.tb e.nm=ι/\(Γ (e.nm≠Ez)&&Γ (AO e.nm=Ez))=ι/\e.dt.size<=Bu e.nm/\s.fs.length≠60/\s.all+e.dt.size<=16000:=by
 unfold Dp at h;split at h
 .cases h
 split at h
 .cases h
 split at h
 .cases h
 split at h
 .cases h
 split at h
 .cases h
 rename_i h1 h2 h3 h4 h5;exact⟨by simpa using h1,by simpa using h2,Aa,h4,Aa⟩
def jW(T:E Bw):Prop:= ∀i,i<T.length->BM (Aw T) (T.getD i AA)=0->Dp (Eg (Aw T) (T.take i)) (T.getD i AA)=0
def SF:(prog.info? 48).map (λi=>(i.zero,i.size,i.bytes))=J (J (.agg #[G ⟨#[]⟩,I Q 0]),2,24):=Ab
def Kt{L:E Y}{e:Bw}(h:BM L e=0):CK e.nm=true:=by
 unfold BM at h;split at h
 .cases h
 split at h
 .cases h
 split at h
 .cases h
 split at h
 .cases h
 split at h
 .assumption
 cases h
def Ee{s:Y}(h:CK s=true):s.size<=80:=by
 unfold CK at h;rw[rX] at h;exact rQ h.1
structure UH (w0:U) (gc gm gn i:N) (L:E Y) (s:XQ) (u:β) (w:U):Prop where
 old:Al w0 w
 ch: ∃v,GT w gc gm (i*1001) v s.fs s.tb s.all/\∀b,v.ownBlock=J b->w0.heap.size<=b
 lf:Bv w u s.lf
 lfb: ∀b,u.ownBlock=J b->w0.heap.size<=b
 fo: ∃n,Fx w gn n L
 few:s.fs.length<=60/\s.lf.length<=i
 ne:gn≠gm
def UH.after{w0 w w' :U}{b gm c i:N}{L:E Y}{s:XQ}{u:β}(h:UH w0 b gm c i L s u w)(a:Al w w'):UH w0 b gm c i L s u w' :=by
 obtain⟨d,⟨v,e,f⟩,g,j,⟨n,k⟩,l,m⟩:=h;exact⟨d.trans a,⟨v,e.old a,f⟩,g.kept a (λ_ _ x=>x),j,⟨n,k.old a⟩,l,m⟩
def UH.leave{w0 w w' :U}{j gm l i:N}{L:E Y}{s:XQ}{u:β}{e:Bw}{g cap:N}(h:UH w0 j gm l i L s u w)(hw:BM L e≠0)
 (S:w'.ownsRow 0 48 2 (K (J ⟨g,0,O⟩) (s.lf.length+1) cap) (s.lf.length+1) (Ce s.lf++[G e.nm,I Q (BM L e:Z)]))(t:Ag (λk=>u.ownBlock=J k) w w')(X:u.ownBlock=J g\/w0.heap.size<=g):
 UH w0 j gm l (i+1) L (Ed L s e) (K (J ⟨g,0,O⟩) (s.lf.length+1) cap) w' :=by
 obtain⟨R,⟨v,z,m⟩,T,A,⟨n,B⟩,V,W⟩:=h;have H:Ed L s e=⟨s.fs,s.tb,s.all,s.lf++[(e.nm,BM L e)]⟩:=rc hw;have d: ∀b,u.ownBlock=J b->b≠j/\b≠gm/\b≠l/\∀c,v.ownBlock=J c->c≠b:=by
  intro b f;obtain⟨F,hc⟩:=Aj T f;obtain⟨_,D1,⟨M,C,q,_⟩,_⟩:=B;obtain⟨hch,p,D2,⟨P,D,r,_⟩,_⟩:=z;refine⟨λx=> ?_,λx=> ?_,λx=> ?_,λc o x=> ?_⟩
  .exact aau
  .rw[x,r] at hc;cases hc
  .rw[x,q] at hc;cases hc
  obtain⟨y,a⟩:=Aj p o;rw[x,hc] at a;injection a with a;injection a with _ a;exact κ a Ac
 rw[H];refine⟨R.transNew t (λk hk x=>κ (A k x) Aa),⟨v, ?_,m⟩, ?_,λb f=> ?_,⟨n,B.kept t (λx=>(d l x).2.2.1 rfl)⟩,⟨V.1, ?_⟩,W⟩
 .have:=z.kept t (λx=>(d j x).1 rfl) (λx=>(d gm x).2.1 rfl) (λb f x=>(d b x).2.2.2 b f rfl);exact⟨this.1,this.2.1,this.2.2.mono Aa⟩
 .show w'.ownsRow 0 48 2 _ (s.lf++[(e.nm,BM L e)]).length (Ce (s.lf++[(e.nm,BM L e)]));rw[Ny,qU];exact S
 .have:g=b:=rD (show J g=J b from f);subst this;rcases X with h|h
  .exact A g h
  exact h
 show(s.lf++[(e.nm,BM L e)]).length<=i+1;rw[qU];simp;omega
def UH.take{w0 w w' :U}{c gm g i:N}{L:E Y}{s:XQ}{u v v' :β}{e:Bw}(h:UH w0 c gm g i L s u w)(hw:BM L e=0)(S:s.fs.length<60)(V:w0.heap.size<=c)(W:w0.heap.size<=gm)(j: ∀b,v.ownBlock=J b->w0.heap.size<=b)(r:GT w c gm (i*1001) v s.fs s.tb s.all)
 (P:GT w' c gm (i*1001+1001) v' (s.fs++[(e.nm,e.dt)]) (GR s.tb e.nm) (s.all+e.dt.size))(q:Ag (λk=>k=c\/k=gm\/v.ownBlock=J k) w w')(T: ∀b,v'.ownBlock=J b->v.ownBlock=J b\/w.heap.size<=b):
 UH w0 c gm g (i+1) L (Ed L s e) u w' :=by
 obtain⟨t,_,y,R,⟨n,z⟩,h7,A⟩:=h;have F:Ed L s e=⟨s.fs++[(e.nm,e.dt)],GR s.tb e.nm,s.all+e.dt.size,s.lf⟩:=rd hw;rw[F];have o:¬(g=c\/g=gm\/v.ownBlock=J g):=by
  obtain⟨_,D1,⟨H,B,d,_⟩,_⟩:=z;rintro(x|x|x)
  .rw[x,r.1] at d;cases d
  .exact A x
  obtain⟨f,a⟩:=Aj r.2.1 x;rw[d] at a;cases a
 have X: ∀b,u.ownBlock=J b->¬(b=c\/b=gm\/v.ownBlock=J b):=by
  intro b l;obtain⟨D,hc⟩:=Aj y l;obtain⟨hch,m,D2,⟨M,C,p,_⟩,_⟩:=r;rintro(x|x|x)
  .exact aau
  .rw[x,p] at hc;cases hc
  obtain⟨f,a⟩:=Aj m x;rw[hc] at a;injection a with a;injection a with _ a;exact κ a Ac
 refine⟨t.transNew q (λk hk x=> ?_),⟨v', ?_,λb l=> ?_⟩,y.kept q X,R,⟨n,z.kept q o⟩,⟨?_,by show s.lf.length<=i+1;omega⟩,A⟩
 .rcases x with x|x|x
  .omega
  .omega
  have:=j k x;omega
 .rw[Nat.succ_mul];exact P
 .rcases T b l with h|h
  .exact j b h
  have:=t.size;omega
 show(s.fs++[(e.nm,e.dt)]).length<=60;rw[qU];simp;omega
def fw(S cap:N)(T:E Bw)(hT:T.length<=200)(hs: ∀e∈T,e.nm.size<=2000000)(P:jW T)(C:(Eg (Aw T) T).fs.Pairwise (λa b=>a.1≠b.1))(w:U)(hm:Cb w)(ht:EJ w S T)(H:S<w.heap.size):
 μ ψ 44 #[K (J ⟨S,0,O⟩) T.length cap] w λr w' => ∃v u d,r=ε (.tuple #[v,u,I Q 0])/\Al w w' /\d.Perm (Eg (Aw T) T).fs/\d.Pairwise (λa b=>a.1.data.toList<b.1.data.toList)/\Au w' v d /\Bv w' u (Eg (Aw T) T).lf/\(∀b,v.ownBlock=J b->w.heap.size<=b)/\(∀b,u.ownBlock=J b->w.heap.size<=b):=by
 have a7:= @vL ψ;have X:=Af (Zg S cap T Aa hs w ht H);have HS:Hid (∀i,i<T.length->(T.getD i AA).nm.size<=2000000):=λi hi=>by rw[qT,qY hi];exact hs _ (ro hi)
 have HT:=Af ht;have l:=Af P;have j:=Af C;have HM:=Af hm;have a9:¬(200:Z)<(T.length:Z):=Aa;obtain⟨L,hL⟩: ∃L,Aw T=L:=⟨_,rfl⟩;rw[hL] at X j ⊢;have l:Hid (∀i,i<T.length->BM L (T.getD i AA)=0->Dp (Eg L (T.take i)) (T.getD i AA)=0):=by rw[<-hL];exact l
 clear ht P C hm hL hs H;go_in;go_wp2_with fail;refine X.mono ?_;rintro e w1 ⟨rfl,ho1,hn1⟩;have o:=ho1.size;have a2:=Af hn1.lt;have q:Hid (UH w (w1.heap.size+1) w1.heap.size w.heap.size 0 L (Eg L (T.take 0)) (K O 0 0) ((w1.alloc (.map #[] 0)).alloc (γ #[K O 0 0,.map (J w1.heap.size),I Q 0] Zi))):=zG;have HGC:Hid (w.heap.size<=w1.heap.size):=o;clear X ho1 hn1 o;go_wp2_with fail;clear a7;generalize w1.heap.size=gm at*;obtain⟨gc,F⟩: ∃gc,gm+1=gc:=⟨_,rfl⟩;have HGC2:Hid (w.heap.size<=gc):=by have:=uh HGC;unfold Hid;omega
 rw[F] at q ⊢;clear F;go_loopw [7,9,10,11,21] (λu _ _ _ x wr=> ∃i:N,i<=T.length/\x=I Q i/\Hid (UH w gc gm w.heap.size i L (Eg L (T.take i)) u wr)) (λ_ _ _ _ x _=>T.length- (intOf x).toNat)
 .exact ⟨0,Aa,rfl,q⟩
 obtain⟨i,hi,rfl,HF⟩:=hrel;clear q;by_cases m:i<T.length
 .have M:(i:Z)<(T.length:Z):=Aa;obtain⟨_,h1,h2,h3⟩:=HT.old HF.old i m;have hns:=HS i m;have HNX:=Af (EA L T i m);have HCF:=Af (l i m);exact yS
 have M:¬(i:Z)<(T.length:Z):=Aa;have a6:i=T.length:=Aa;subst a6;rw[sr] at HF;obtain⟨s,f⟩: ∃s,s=Eg L T:=⟨_,rfl⟩;rw[<-f] at HF j;have a3:=Af f;clear f;obtain⟨v,hv,hvb⟩:=HF.ch;have H6:=Af (lI v s.fs (by have:=HF.few.1;omega) (uh j) wr hv.2.1);have B:wr.cell? ⟨gc,0,O⟩=J v:=by rw[qV wr gc 0 _ _ (0,0) hv.1];rfl
 have a5:=Af hvb;have t:Hid (∀W',Ag (λk=>v.ownBlock=J k) wr W' ->W'.cell? ⟨gc,0,O⟩=J v):=λW' V=>(V.cell (p:=⟨gc,0,O⟩) hv.lt.1 (λe=>(hv.apart.2 gc e).1 rfl)).trans B
 have A:Hid (∀W',Ag (λk=>v.ownBlock=J k) wr W' ->Al w W' /\Bv W' u7 s.lf):=λW' V=>by
  refine⟨HF.old.transNew V (λk hk e=>κ (hvb k e) Aa),HF.lf.kept V (λb hb e=> ?_)⟩;obtain⟨cur,h1⟩:=Aj HF.lf hb;obtain⟨a8,h2⟩:=Aj hv.2.1 e;rw[h1] at h2;injection h2 with h2;injection h2 with _ h2;exact κ h2 Ac
 have a1:=Af HF.lfb;clear hv hvb HF j l HT HS HM a2 HGC HGC2;go_wp2_with fail;refine H6.mono ?_;rintro e w6 ⟨rfl,d,hp,R,D,ho6⟩;have b0:=t w6 ho6;have z:=Af (A w6 ho6);have HP:=Af hp;have a4:=Af R;have a0:=Af D;clear hp R D ho6 H6 B t A;go_wp2_with fail;go_ret3;have f:=uh a3;subst f;exact⟨v,_,d,rfl,z.1,HP,a4,a0,z.2,a5,a1⟩
def nt(nm dt:Y)(ln:Bool)(e gm n:N)(v:β)(fs:E Fl)(f:Gp)(all:N)(x:nm.size<=1000)(u:CT f nm=true)(w:U)(hch:GT w e gm n v fs f all):
 μ ψ 81 #[δ (J ⟨e,0,O⟩),.agg #[G nm,ζ ln,G dt]] w λr w' =>r=ε (I Q 5)/\Al w w' :=by
 obtain⟨A,B,y⟩:=hch.lt;obtain⟨ao,cap,rfl⟩: ∃ao cap,v=K ao fs.length cap:=zE;have s:Al w (w.alloc (γ #[G nm,ζ ln,G dt] 39)):=(Ag.refl _ w).alloc _;have q:=Af (Rh.made w nm ln dt);have g:=Af (hch.old s);have z:=Af s;have j:=Af (λW h=>GS nm x gm n f W h);rw[u] at j;clear s hch y;go_in;go_upto_region 2 with fail;generalize w.alloc (γ #[G nm,ζ ln,G dt] 39)=W at*;have t:W.cell? ⟨e,1,O⟩=J (.map (J gm)):=by rw[qV W e 1 _ _ (0,0) (uh g).1];rfl
 have a:W.drew.cell? ⟨e,1,O⟩=J (.map (J gm))/\W.drew.cell? ⟨w.heap.size,0,O⟩=J (G nm)/\True:=⟨t,q.2.1,trivial⟩;have j:=Af (j W.drew g.2.2);refine Ai (S:=λW=>W.cell? ⟨e,1,O⟩=J (.map (J gm))/\W.cell? ⟨w.heap.size,0,O⟩=J (G nm)/\True) (L:=7) Ab ?_;refine tk 0 8 (δ (J ⟨e,0,O⟩)) 10 a ?_;refine tk 1 8 (δ (J ⟨e,0,O⟩)) 11 a ?_;refine tk 2 8 (δ (J ⟨e,1,O⟩)) 12 a ?_;refine tk 3 8 (.map (J gm)) 13 a ?_;refine tk 4 8 (δ (J ⟨w.heap.size,0,O⟩)) 14 a ?_;refine tk 5 8 (G nm) 15 a ?_;refine Ah (i:=6) Ab ?_;refine ri rfl (λK' l=> ?_);go_simp;refine j.mono ?_;rintro r w1 ⟨rfl,o⟩;have d :Al W w1:=((Ag.refl _ W).drew).trans o;have k:=Af (q.old d);have p:=Af (g.old d);have HO1:=Af (Ag.trans (uh z) d);have m:w1.cell? ⟨e,1,O⟩=J (.map (J gm)):=by rw[qV w1 e 1 _ _ (0,0) (uh p).1];rfl
 refine l _ _ ⟨λ_=>⟨m,k.2.1,trivial⟩, ?_⟩;clear l j o d a q g z;refine Ah (i:=7) Ab ?_;refine ri rfl (λK' l=> ?_);go_simp;refine l _ _ ⟨λh=>κ rfl h, ?_⟩;clear l;refine Am Ab ?_;have C:=k.2.1;exact Hz
def nu(nm dt:Y)(ln:Bool)(d gm n:N)(v:β)(fs:E Fl)(f:Gp)(all:N)(D:nm.size<=1000)(B:CT f nm=ι)(F:(Γ (nm≠Ez)&&Γ (AO nm=Ez))=true)(w:U)(hch:GT w d gm n v fs f all):
 μ ψ 81 #[δ (J ⟨d,0,O⟩),.agg #[G nm,ζ ln,G dt]] w λr w' =>r=ε (I Q 4)/\Al w w' :=by
 obtain⟨V,X,H⟩:=hch.lt;obtain⟨ao,cap,rfl⟩: ∃ao cap,v=K ao fs.length cap:=zE;have A:Al w (w.alloc (γ #[G nm,ζ ln,G dt] 39)):=(Ag.refl _ w).alloc _;have z:=Af (Rh.made w nm ln dt);have g:=Af (hch.old A);have M:=Af A;have o:=Af (λW h=>GS nm D gm n f W h);rw[B] at o;have y:=Af (λW=>MN nm Aa W);rw[F] at y;clear A hch H;go_in;go_upto_region 2 with fail;generalize w.alloc (γ #[G nm,ζ ln,G dt] 39)=W at*;have u:W.cell? ⟨d,1,O⟩=J (.map (J gm)):=by rw[qV W d 1 _ _ (0,0) (uh g).1];rfl
 have a:W.drew.cell? ⟨d,1,O⟩=J (.map (J gm))/\W.drew.cell? ⟨w.heap.size,0,O⟩=J (G nm)/\True:=⟨u,z.2.1,trivial⟩;have o:=Af (o W.drew g.2.2);refine Ai (S:=λW=>W.cell? ⟨d,1,O⟩=J (.map (J gm))/\W.cell? ⟨w.heap.size,0,O⟩=J (G nm)/\True) (L:=7) Ab ?_;refine tk 0 8 (δ (J ⟨d,0,O⟩)) 10 a ?_;refine tk 1 8 (δ (J ⟨d,0,O⟩)) 11 a ?_;refine tk 2 8 (δ (J ⟨d,1,O⟩)) 12 a ?_;refine tk 3 8 (.map (J gm)) 13 a ?_;refine tk 4 8 (δ (J ⟨w.heap.size,0,O⟩)) 14 a ?_;refine tk 5 8 (G nm) 15 a ?_;refine Ah (i:=6) Ab ?_;refine ri rfl (λK' t=> ?_);go_simp;refine o.mono ?_;rintro r w1 ⟨rfl,x⟩;have e :Al W w1:=((Ag.refl _ W).drew).trans x;have j:=Af (z.old e);have m:=Af (g.old e);have s:=Af (Ag.trans (uh M) e);have l:w1.cell? ⟨d,1,O⟩=J (.map (J gm)):=by rw[qV w1 d 1 _ _ (0,0) (uh m).1];rfl
 refine t _ _ ⟨λ_=>⟨l,j.2.1,trivial⟩, ?_⟩;clear t o x e a z g M;refine Ah (i:=7) Ab ?_;refine ri rfl (λK' t=> ?_);go_simp;refine t _ _ ⟨λh=>κ rfl h, ?_⟩;clear t;refine Am Ab ?_;have C:=j.2.1;go_wp2_with fail;refine(y w1).mono ?_;rintro r w2 ⟨rfl,k⟩;have q:=Af (j.old k);have p:=Af (m.old k);have HO2:=Af (Ag.trans (uh s) k);have a0:=q.2.1;have T:=q.2.2.2;have P:w2.cell? ⟨d,0,O⟩=J (Value.slice ao fs.length cap):=by rw[qV w2 d 0 _ _ (0,0) (uh p).1];rfl
 have R:w2.cell? ⟨d,2,O⟩=J (I Q (all:Z)):=by rw[qV w2 d 2 _ _ (0,0) (uh p).1];rfl
 clear y k j m s C l u;exact He
def nw(nm dt:Y)(ln:Bool)(gc gm n:N)(v:β)(fs:E Fl)(f:Gp)(all:N)(d:nm.size<=1000)(a:CT f nm=ι)(e:(Γ (nm≠Ez)&&Γ (AO nm=Ez))=ι)(l:Bu nm<dt.size)(w:U)(hch:GT w gc gm n v fs f all):
 μ ψ 81 #[δ (J ⟨gc,0,O⟩),.agg #[G nm,ζ ln,G dt]] w λr w' =>r=ε (I Q 1)/\Al w w' :=by
 obtain⟨j,k,hvb⟩:=hch.lt;obtain⟨ao,cap,rfl⟩: ∃ao cap,v=K ao fs.length cap:=zE;have hA:Al w (w.alloc (γ #[G nm,ζ ln,G dt] 39)):=(Ag.refl _ w).alloc _;have HE:=Af (Rh.made w nm ln dt);have HCH:=Af (hch.old hA);have HO:=Af hA;have H1:=Af (λW h=>GS nm d gm n f W h);rw[a] at H1;have H2:=Af (λW=>MN nm Aa W);rw[e] at H2;have g:((Bu nm:N):Z)<(dt.size:Z):=Aa;exact yQ
def nx(nm dt:Y)(ln:Bool)(gc gm n:N)(v:β)(fs:E Fl)(f:Gp)(all:N)(d:nm.size<=1000)(a:CT f nm=ι)(e:(Γ (nm≠Ez)&&Γ (AO nm=Ez))=ι)(o:dt.size<=Bu nm)(k:fs.length=60)(w:U)(hch:GT w gc gm n v fs f all):
 μ ψ 81 #[δ (J ⟨gc,0,O⟩),.agg #[G nm,ζ ln,G dt]] w λr w' =>r=ε (I Q 6)/\Al w w' :=by
 obtain⟨l,m,hvb⟩:=hch.lt;obtain⟨ao,cap,rfl⟩: ∃ao cap,v=K ao fs.length cap:=zE;have hA:Al w (w.alloc (γ #[G nm,ζ ln,G dt] 39)):=(Ag.refl _ w).alloc _;have HE:=Af (Rh.made w nm ln dt);have HCH:=Af (hch.old hA);have HO:=Af hA;have H1:=Af (λW h=>GS nm d gm n f W h);rw[a] at H1;have H2:=Af (λW=>MN nm Aa W);rw[e] at H2;have j:¬((Bu nm:N):Z)<(dt.size:Z):=Aa;have g:(fs.length:Z)=60:=Aa;exact yQ
def ny(nm dt:Y)(ln:Bool)(gc gm n:N)(v:β)(fs:E Fl)(f:Gp)(all:N)(d:nm.size<=1000)(a:CT f nm=ι)(e:(Γ (nm≠Ez)&&Γ (AO nm=Ez))=ι)(s:dt.size<=Bu nm)(o:fs.length<60)(m:16000<all+dt.size)(g:all<=16000)(w:U)(hch:GT w gc gm n v fs f all):
 μ ψ 81 #[δ (J ⟨gc,0,O⟩),.agg #[G nm,ζ ln,G dt]] w λr w' =>r=ε (I Q 1)/\Al w w' :=by
 obtain⟨p,q,hvb⟩:=hch.lt;obtain⟨ao,cap,rfl⟩: ∃ao cap,v=K ao fs.length cap:=zE;have hA:Al w (w.alloc (γ #[G nm,ζ ln,G dt] 39)):=(Ag.refl _ w).alloc _;have HE:=Af (Rh.made w nm ln dt);have HCH:=Af (hch.old hA);have HO:=Af hA;have H1:=Af (λW h=>GS nm d gm n f W h);rw[a] at H1;have H2:=Af (λW=>MN nm Aa W);rw[e] at H2;have l:¬((Bu nm:N):Z)<(dt.size:Z):=Aa;have k:¬(fs.length:Z)=60:=Aa;have j:(16000:Z)- (all:Z)<(dt.size:Z):=Aa;exact yQ
def py(nm dt:Y)(ln:Bool)(d gm n:N)(v:β)(s:XQ)(c:nm.size<=1000)(f:s.fs.length<=60)(e:s.all<=16000)(k:N)(a:Dp s ⟨nm,ln,dt⟩=k)(h0:k≠0)(w:U)(b:GT w d gm n v s.fs s.tb s.all):
 μ ψ 81 #[δ (J ⟨d,0,O⟩),.agg #[G nm,ζ ln,G dt]] w λr w' =>r=ε (I Q (k:Z))/\Al w w' :=by
 unfold Dp at a;split at a
 .rename_i h1;subst a;exact nt nm dt ln d gm n v s.fs s.tb s.all c h1 w b
 rename_i h1;rw[Bool.not_eq_true] at h1;split at a
 .rename_i h2;subst a;exact nu nm dt ln d gm n v s.fs s.tb s.all c h1 h2 w b
 rename_i h2;rw[Bool.not_eq_true] at h2;split at a
 .rename_i h3;subst a;exact nw nm dt ln d gm n v s.fs s.tb s.all c h1 h2 h3 w b
 rename_i h3;split at a
 .rename_i h4;subst a;exact nx nm dt ln d gm n v s.fs s.tb s.all c h1 h2 (xG.1 h3) h4 w b
 rename_i h4;split at a
 .rename_i h5;subst a;exact ny nm dt ln d gm n v s.fs s.tb s.all c h1 h2 (xG.1 h3) Aa h5 e w b
 exact κ a.symm h0
def fy(L:E Y)(T:E Bw): ∀i,i<=T.length->(∀j,j<i->BM L (T.getD j AA)=0->Dp (Eg L (T.take j)) (T.getD j AA)=0)->(Eg L (T.take i)).all<=16000:=by
 intro i;induction i with
 |zero=>intro _ _;exact sl _
 |succ i ih=>
  intro b h;have a:=ih Aa (λj c=>h j Aa);rw[EA L T i Aa,Ed];split
  .rename_i hw;exact(GC (h i Aa hw)).2.2.2.2
  exact a
def Rl(a cap:N)(n:N)(c:200<n)(w:U):
 μ ψ 44 #[K (J ⟨a,0,O⟩) n cap] w λr w' =>r=ε (.tuple #[K O 0 0,K O 0 0,I Q 6])/\Al w w' :=by
 have b:(200:Z)<(n:Z):=Aa;go_in;go_wp2_with fail;go_ret3;exact⟨rfl,Ag.refl _ _⟩
def fA(B cap:N)(T:E Bw)(hT:T.length<=200)(S: ∀e∈T,e.nm.size<=2000000)(m k:N)(a4:m<T.length)(d: ∀i,i<m->BM (Aw T) (T.getD i AA)=0->Dp (Eg (Aw T) (T.take i)) (T.getD i AA)=0)(X:BM (Aw T) (T.getD m AA)=0)(P:Dp (Eg (Aw T) (T.take m)) (T.getD m AA)=k)(h0:k≠0)(w:U)(hm:Cb w)(V:EJ w B T)(t:B<w.heap.size):
 μ ψ 44 #[K (J ⟨B,0,O⟩) T.length cap] w λr w' =>r=ε (.tuple #[K O 0 0,K O 0 0,I Q (k:Z)])/\Al w w' :=by
 have j:=Af (fy (Aw T) T m Aa d);have R:= @vL ψ;have C:=Af (Zg B cap T Aa S w V t);have HS:Hid (∀i,i<T.length->(T.getD i AA).nm.size<=2000000):=λi H=>by rw[qT,qY H];exact S _ (ro H)
 have HT:=Af V;have HM:=Af hm;have a1:¬(200:Z)<(T.length:Z):=Aa;obtain⟨L,hL⟩: ∃L,Aw T=L:=⟨_,rfl⟩;rw[hL] at C d X P j;have p:Hid (∀i,i<m->BM L (T.getD i AA)=0->Dp (Eg L (T.take i)) (T.getD i AA)=0):=d;have A:=Af X;have D:=Af P;clear V d hm hL S t X P;go_in;go_wp2_with fail;refine C.mono ?_;rintro e w1 ⟨rfl,ho1,hn1⟩;have f:=ho1.size;have a0:=Af hn1.lt;have l:Hid (UH w (w1.heap.size+1) w1.heap.size w.heap.size 0 L (Eg L (T.take 0)) (K O 0 0) ((w1.alloc (.map #[] 0)).alloc (γ #[K O 0 0,.map (J w1.heap.size),I Q 0] Zi))):=zG;have HGC:Hid (w.heap.size<=w1.heap.size):=f;clear C ho1 hn1 f;go_wp2_with fail;clear R;generalize w1.heap.size=gm at*;obtain⟨gc,q⟩: ∃gc,gm+1=gc:=⟨_,rfl⟩;have HGC2:Hid (w.heap.size<=gc):=by have:=uh HGC;unfold Hid;omega
 rw[q] at l ⊢;clear q;go_loopw [7,9,10,11,21] (λu _ _ _ x wr=> ∃i:N,i<=m/\x=I Q i/\Hid (UH w gc gm w.heap.size i L (Eg L (T.take i)) u wr)) (λ_ _ _ _ x _=>T.length- (intOf x).toNat)
 .exact ⟨0,Aa,rfl,l⟩
 obtain⟨i,H,rfl,HF⟩:=hrel;clear l;have a:i<T.length:=Aa;by_cases M:i<m
 .clear A D;have z:(i:Z)<(T.length:Z):=Aa;obtain⟨_,h1,h2,h3⟩:=HT.old HF.old i a;have hns:=HS i a;have HNX:=Af (EA L T i a);have HCF:=Af (p i M);exact yS
 obtain rfl:i=m:=Aa;have z:(i:Z)<(T.length:Z):=Aa;obtain⟨_,h1,h2,h3⟩:=HT.old HF.old i a;have hns:=HS i a;have HYL:=Af (λn W hm hg=>Pj (T.getD i AA) hns w.heap.size n L W hm hg);have hnm:(T.getD i AA).nm.size<=80:=Ee (Kt (uh A));rw[uh A] at HYL;generalize Eg L (T.take i)=s at*;generalize T.getD i AA=e at*;obtain⟨nm,ln,dt⟩:=e;simp only at*;have hA:Al wr (wr.alloc (γ #[G nm,ζ ln,G dt] 39)):=(Ag.refl _ wr).alloc _;have HE:=Af (Rh.made wr nm ln dt);have HF3:=Af (HF.after hA);obtain⟨nfo,hfo⟩:=HF3.fo;have H2:=Af (HYL nfo _ (HM.old HF3.old) hfo);clear hA HF HYL hfo p A;go_wp2_with fail;clear h1 h2 h3;refine H2.mono ?_;rintro e w4 ⟨rfl,ho4⟩;have HE4:=Af (HE.old ho4);have HF4:=Af (HF3.after ho4);clear H2 HE HF3;generalize wr.alloc (γ #[G nm,ζ ln,G dt] 39)=W at*;clear ho4;obtain⟨v,hv,hvb⟩:=HF4.ch;have H3:=Af (py nm dt ln gc gm (i*1001) v s Aa HF4.few.1 (uh j) k (uh D) h0 w4 hv);obtain⟨_,h1,h2,h3⟩:=uh HE4;have a2:((k:Z) !=0)=true:=by rw[rS];omega
 have a3:¬(k:Z)=0:=Aa;have o:=Af HF4.old;clear hv hvb HE4 HF4 D j;go_wp2_with fail;clear h1 h2 h3;refine H3.mono ?_;rintro e w5 ⟨rfl,ho5⟩;have F:=Af (o.trans ho5);clear H3 ho5 o;go_wp2_with fail;go_ret3;exact⟨rfl,F⟩
def MQ(L:E Y)(T:E Bw):E Bw:=T.filter (λe=>BM L e==0)
def Zj(L:E Y)(T:E Bw):E Bw:=T.filter (λe=>BM L e !=0)
def Rm(L:E Y)(T:E Bw): ∀s:XQ,(T.foldl (Ed L) s).fs=s.fs++(MQ L T).map (λe=>(e.nm,e.dt))/\(T.foldl (Ed L) s).lf=s.lf++(Zj L T).map (λe=>(e.nm,BM L e))/\(T.foldl (Ed L) s).tb=(MQ L T).foldl (λf e=>GR f e.nm) s.tb/\(T.foldl (Ed L) s).all=s.all+((MQ L T).map (λe=>e.dt.size)).sum:=by
 induction T with
 |nil=>intro s;simp[MQ,Zj]
 |cons e r ih=>
  intro s;rw[vP];obtain⟨a,b,c,d⟩:=ih (Ed L s e);rw[a,b,c,d];unfold Ed MQ Zj;by_cases h:BM L e=0
  .rw[rd h,vg (by simpa using h),vh (by simpa using h)];simp[sM]
  rw[rc h,vh (by simpa using h),vg (by simpa using h)];simp
def nz(L:E Y)(T:E Bw):(Eg L T).fs=(MQ L T).map (λe=>(e.nm,e.dt)):=by rw[Eg,(Rm L T np).1];rfl
def nA(L:E Y)(T:E Bw):(Eg L T).lf=(Zj L T).map (λe=>(e.nm,BM L e)):=by rw[Eg,(Rm L T np).2.1];rfl
def MR{a b:E Fl}(hp:a.Perm b)(e:a.Pairwise (λx y=>x.1.data.toList<y.1.data.toList))(f:b.Pairwise (λx y=>x.1.data.toList<y.1.data.toList)):a=b:=
 hp.eq_of_pairwise (λ_ _ _ _ c d=>κ (uE c d) (ti _)) e f
