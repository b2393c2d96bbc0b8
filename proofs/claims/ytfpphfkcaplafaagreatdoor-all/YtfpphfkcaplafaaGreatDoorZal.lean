import Derived.Test.YtfpphfkcaplafaaGreatDoorZak
import Derived.Test.YtfpphfkcaplafaaGreatDoorSo
import Derived.Lib.IndexLaws
import Derived.Lib.CutLaws
import Derived.Lib.CountLaws
set_option linter.all false
set_option maxHeartbeats 64000000
set_option maxRecDepth 100000
open _root_ renaming Option.some->J,Option.none->O,Int->Z,Nat->N,Go.Value.int->I,Go.Value.string->G,Go.IntKind.i64->Q,ByteArray->Y,List->E,Go.World->U,Go.Value.slice->K,Go.Value->M,Go.Obj.cells->W,Go.Value.pointer->V,Go.RowKit.Hid->C,Go.Proofs.Tryz.prog->F,Go.Ending.returned->ε,Go.Value.bool->ζ,Go.Value.tuple->η,Bool.true->θ,Bool.false->ι,absurd->κ,Go.Calls->μ,Go.IntKind.u32->σ,UInt8->υ,Array->φ,Decidable.decide->Γ
variable{w w' w0:U}{c f g gm i:N}{a b s t x:Y}{u v:M}{L:E Y}{p:E υ}
namespace Go.Proofs.YtfpphfkcaplafaaGreatDoor
open Go.RowKit Go.Maps Go.Sort Go.Lib Go.Proofs.Tryz
abbrev QH(x:Fl):E M:=[G x.1,G x.2]
def zf(x y:Fl):Z:=Xx x.1 y.1
def zR(x y:Fl):ltOf zf x y=Γ (x.1.data.toList<y.1.data.toList):=by
 unfold ltOf zf Xx;by_cases a:x.1.data.toList<y.1.data.toList
 .rw[Wz a,Wy a];rfl
 rw[Wx a,Ww a];by_cases a:y.1.data.toList<x.1.data.toList
 .rw[Wz a];rfl
 rw[Wx a];rfl
def Hg:SWO (ltOf zf) where
 irrefl x:=by rw[zR];exact Ww<|aaq _
 trans x y z h1 h2:=by
  rw[zR] at*;exact Wy<|abA (wn h1) (wn h2)
 ntrans x y z h1 h2:=by
  rw[zR] at*;exact Ww<|acW.2 (List.le_trans (acW.1<|abw h2)<|acW.1 (abw h1))
def nZ(b c a:N)(w:U):CmpLays F 139 #[] QH 2 zf b c a w:=by
 intro m b _ _ x y;apply(nY x y _).mono;rintro _ _ ⟨rfl,rfl⟩;refine⟨rfl,0,#[W #[G x.1,G x.2] 38,W #[G y.1,G y.2] 38],?_⟩;rw[alloc_eq_grow,alloc_eq_grow,grow_grow]
 rfl
def SD(a:E Fl):(flatK QH 2 a.toArray).toList=AK a:=by
 apply abq;intro t;by_cases b:t<a.length*2
 .have f:(flatK QH 2 a.toArray).toList[t]? =J ((QH (a.toArray)[t/2]!)[t%2]!):=by
   rw[<-get_flatK QH 2 a.toArray t (by simpa using b),aah];have c:t<(flatK QH 2 a.toArray).size:=by simpa using b
   rw[wB c,acK _ t c]
  rw[f];have b:t/2<a.length:=A;obtain⟨d,e⟩:=Qj a (t/2) b;have c:a.toArray[t/2]! =a.getD (t/2) default:=by simp[Wq,b]
  rw[c];rcases Nat.mod_two_eq_zero_or_one t with h|h
  .rw[show t/2*2=t by omega] at d;rw[d,h];rfl
  rw[show t/2*2+1=t by omega] at e;rw[e,h];rfl
 rw[wj ako,wj<|by rw[Ea];omega]
def oa{a:φ M}{e:TypeId}(c:w.heap[g]? =J (W a e (0,0)))(b:φ M)(m:N)(os:φ Obj):
 (grow (putRow id (Sort.ahead w m) g 0 b) os).heap[g]? =J (W (putCells id 0 b a) e (0,0)):=by
 have a:=(Wt.1 c).1;show((w.heap.modify g<|onCells (putCells id 0 b))++os)[g]? =_;rw[ach (by rw[adS];exact a),adv,Wz rfl,c]
 rfl
def oe(w:U)(g:N)(a:φ M)(m:N)(os:φ Obj):Ag (λk=>k=g) w<|grow (putRow id (Sort.ahead w m) g 0 a) os:=by
 refine⟨rfl,rfl,rfl,?_,λk c b=>?_⟩
 .show w.heap.size<=((w.heap.modify g<|onCells (putCells id 0 a))++os).size;rw[acH,adS];omega
 show((w.heap.modify g<|onCells (putCells id 0 a))++os)[k]? =_;rw[ach (by rw[adS];exact c),adv,Wx λe=>b e.symm]
def og(b a:φ M)(h:b.size<=a.size):(putCells id 0 b a).toList.take b.size=b.toList:=by
 apply abq;intro t;rw[aab];by_cases c:t<b.size
 .rw[Wz c,aah,aah];unfold putCells;rw[Array.getElem?_mapIdx,wB (show t<a.size by omega),wB c];simp only[abH];rw[Wz A,acK b (t-0) A]
  rfl
 rw[Wx c,wj<|by rw[wE];omega]
def ub(v:M)(c:E Fl)(T:c.length<=1000)(hd:c.Pairwise λa b=>a.1≠b.1)(w:U)(h:Au w v c):μ F 138 #[v,vR] w λr w'=>r=ε (η #[])/\∃d :E Fl,d.Perm c/\d.Pairwise (λa b=>a.1.data.toList<b.1.data.toList)/\Au w' v d /\Ag (λk=>v.ownBlock=J k) w w':=by
 have h0:=h;obtain⟨_,⟨rfl,R⟩|⟨g,l,i,rfl,hb,x,o,z,p,D⟩⟩:=h
 .apply (AnyF.slices_SortFunc_none sortF O 0 vR w).mono;rintro L w' ⟨rfl,rfl⟩;have:=wP R;subst this;exact⟨rfl,[],adF _,aaJ,h0,Ag.refl _ _⟩
 have P:=(Wt.1 x).1;have hH:HoldsK QH 2 w g 0 c.toArray:=by
  intro j n;rw[size_flatK] at n;have R:j<c.length*2:=by simpa using n
  refine⟨?_,WK w g (0+j) _ _ x⟩;rw[WQ,Wu w g j i _ (0,0) x];have T:i.toList[j]? =(AK c)[j]? :=by rw[<-D,aab,Wz R]
  rw[aah,<-SD,aah] at T;have y:j<(flatK QH 2 c.toArray).size:=by rw[size_flatK];exact n
  rw[T,wB y,acK _ j y]
  rfl
 have eg:∀d w,(callFunc 139 d).run F w=.ok (.enter 139 d) w:=enters_of func139 B rfl;have q:=AnyQ.slices_SortFunc sortF 2 isAgg38 sizeOf38 QH (λ_=>rfl) (λ_ _ d=>by simp[QH] at d;rcases d with rfl|rfl<;>rfl) zf Hg 139 #[] g 0 l c.toArray w eg (nZ g 0 _ w) hH P ako;have i:μ F 138 #[K (J ⟨g,0,O⟩) c.length l,vR] w _:=q;apply i.mono;rintro L w' ⟨rfl,d,m,os,⟨S,_,s⟩,y,rfl⟩;have e:d.size=c.length:=by simpa using S
 have f:d.toList.Perm c:=by
  have i:(d.extract 0 c.toArray.size)=d :=by rw[adO<|by simp[e]]
  have q:(c.toArray.extract 0 c.toArray.size)=c.toArray:=by rw[adO<|WF _]
  rw[i,q] at s;simpa using s
 refine⟨rfl,d.toList,f,?_,?_,(oe w g _ m os).mono λk _ L=>by subst L;rfl⟩
 .have i:=(f.pairwise_iff λ{a b} f=>f.symm).2 hd;rw[aaG] at i ⊢;intro t j s n f;have u:=i t j s n f;have q :t<d.size:=by simpa using s
  have i :j<d.size:=by simpa using n
  have n:=y t j (wH _) f (by simpa [e] using i);rw[acK d j i,acK d t q,zR] at n;have h4:=abw n;simp only[Array.getElem_toList] at u ⊢;rcases adZ ((d[t]).1.data.toList<(d[j]).1.data.toList) with h|h
  .exact h
  exact κ (GJ h h4) u
 have f:(flatK QH 2 d).toList=AK d.toList:=by have:=SD d.toList;simpa using this
 have j:(flatK QH 2 d).size=c.length*2:=by rw[size_flatK,e]
 have i:d.toList.length=c.length:=by rw[wE,e]
 refine⟨by rw[Ea],.inr ⟨g,l,_,by show Value.slice _ c.length l=_;rw[i],hb,oa x _ m os,by rw[wE,e];exact o,z,?_,?_⟩⟩
 .unfold putCells;rw[Array.size_mapIdx];exact p
 rw[wE,e,<-j,og _ _ (by rw[j,p];exact aag 2 o),f]
open Go.RowKit Go.Maps Go.Proofs.Tryz
abbrev Lf:=Y×N
def Cu(l:E Lf):E M:=l.flatMap λf=>[G f.1,I Q (f.2:Z)]
def Qp(a b:E Lf):Cu (a++b)=Cu a++Cu b:=by simp[Cu]
def BZ(w:U)(v:M)(l:E Lf):Prop:=w.ownsRow 0 60 2 v l.length<|Cu l
def BZ.kept{S:N->Prop}{l:E Lf}(h:BZ w v l)(a:Ag S w w')(c:∀b,v.ownBlock=J b->¬S b):BZ w' v l:=Az h a c
def ZO(l:E Lf)(j:N)(hj:j<l.length):(Cu l)[j*2]? =J (G (l.getD j default).1)/\(Cu l)[j*2+1]? =J (I Q ((l.getD j default).2:Z)):=by
 induction l generalizing j with
 |nil=>simp at hj
 |cons a r b=>
  rw[Cu,aaC,<-Cu];exact ahG
def BZ.slice{l:E Lf}(h:BZ w v l)(i:0<l.length):∃g cap,v=K (J ⟨g,0,O⟩) l.length cap/\g<w.heap.size/\∀j,j<l.length->w.cell? ⟨g,j*2,O⟩=J (G (l.getD j default).1)/\w.cell? ⟨g,j*2+1,O⟩=J (I Q ((l.getD j default).2:Z)):=by
 obtain⟨d,⟨rfl,_⟩|⟨g,cap,a,rfl,h1,b,e⟩⟩:=h
 .omega
 refine⟨g,cap,rfl,(Wt.1 b).1,λj f=>?_⟩;have p:=abs (w:=w) ⟨d,.inr ⟨g,cap,a,rfl,h1,b,e⟩⟩ (g:=g) rfl;obtain⟨c,hb⟩:=ZO l j f;exact aiE
structure dN where
 fs:E Fl
 tb:Iw
 all:N
 lf:E Lf
def ET(L:E Y)(s:dN)(e:BF):dN:=if Cg L e=0 then⟨s.fs++[(e.nm,e.dt)],Jq s.tb e.nm,s.all+e.dt.size,s.lf⟩ else⟨s.fs,s.tb,s.all,s.lf++[(e.nm,Cg L e)]⟩
abbrev vT:dN:=⟨[],λ_=>O,0,[]⟩
def Fg(L:E Y)(T:E BF):dN:=T.foldl (ET L) vT
def Ef(s:dN)(e:BF):N:=if Dz s.tb e.nm then 5 else if(Γ (e.nm≠Fy)&&Γ (AQ e.nm=Fy)) then 4 else if BE e.nm<e.dt.size then 1 else if s.fs.length=60 then 6 else if 16000<s.all+e.dt.size then 1 else 0
def Fz(L:E Y)(T:E BF)(i:N)(h:i<T.length):Fg L (T.take<|i+1)=ET L (Fg L<|T.take i) (T.getD i AC):=by
 rw[Fg,IU T i h,List.foldl_append];rfl
def IV{s:dN}{e:BF}(h:Ef s e=0):Dz s.tb e.nm=ι/\(Γ (e.nm≠Fy)&&Γ (AQ e.nm=Fy))=ι/\e.dt.size<=BE e.nm/\s.fs.length≠60/\s.all+e.dt.size<=16000:=by
 unfold Ef at h;split at h
 .cases h
 split at h
 .cases h
 split at h
 .cases h
 split at h
 .cases h
 split at h
 .cases h
 rename_i a b d c f;exact⟨by simpa using a,by simpa using b,A,c,A⟩
def sb(T:E BF):Prop:= ∀i,i<T.length->Cg (Ay T) (T.getD i AC)=0->Ef (Fg (Ay T)<|T.take i) (T.getD i AC)=0
def Xy:(prog.info? 60).map (λi=>(i.zero,i.size,i.bytes))=J (J (.agg #[G ⟨#[]⟩,I Q 0]),2,24):=B
def MB{e:BF}(h:Cg L e=0):CE e.nm=true:=by
 unfold Cg at h;split at h
 .cases h
 split at h
 .cases h
 split at h
 .cases h
 split at h
 .cases h
 split at h
 .assumption
 cases h
def Eg(h:CE s=θ):s.size<=80:=by
 unfold CE at h;rw[wo] at h;exact wn h.1
structure ZP (w0:U) (gc gm gn i:N) (L:E Y) (s:dN) (u:M) (w:U):Prop where
 old:Am w0 w
 ch:∃v,Js w gc gm (i*1001) v s.fs s.tb s.all/\∀b,v.ownBlock=J b->w0.heap.size<=b
 lf:BZ w u s.lf
 lfb:∀b,u.ownBlock=J b->w0.heap.size<=b
 fo:∃n,Ee w gn n L
 few:s.fs.length<=60/\s.lf.length<=i
 ne:gn≠gm
def ZP.after{b:N}{s:dN}(h:ZP w0 b gm c i L s u w)(a:Am w w'):ZP w0 b gm c i L s u w':=by
 obtain⟨b,⟨v,c,d⟩,e,f,⟨n,g⟩,j,k⟩:=h;exact⟨b.trans a,⟨v,c.old a,d⟩,e.kept a λ_ _ x=>x,f,⟨n,g.old a⟩,j,k⟩
def ZP.leave{s:dN}{e:BF}{cap:N}(h:ZP w0 c gm f i L s u w)(r:Cg L e≠0)
 (R:w'.ownsRow 0 60 2 (K (J ⟨g,0,O⟩) (s.lf.length+1) cap) (s.lf.length+1)<|Cu s.lf++[G e.nm,I Q (Cg L e:Z)])(m:Ag (λk=>u.ownBlock=J k) w w')(S:u.ownBlock=J g\/w0.heap.size<=g):
 ZP w0 c gm f (i+1) L (ET L s e) (K (J ⟨g,0,O⟩) (s.lf.length+1) cap) w':=by
 obtain⟨T,⟨v,y,o⟩,h4,z,⟨n,P⟩,h7,h8⟩:=h;have e1:ET L s e=⟨s.fs,s.tb,s.all,s.lf++[(e.nm,Cg L e)]⟩:=Wx r;have j:∀b,u.ownBlock=J b->b≠c/\b≠gm/\b≠f/\∀d,v.ownBlock=J d->d≠b:=by
  intro b l;obtain⟨_,D⟩:=Ak h4 l;obtain⟨_,_,⟨_,_,p,_⟩,_⟩:=P;obtain⟨a,q,_,⟨_,_,r,_⟩,_⟩:=y;refine⟨λx=>?_,λx=>?_,λx=>?_,λd t x=>?_⟩
  .exact aiM
  .rw[x,r] at D;cases D
  .rw[x,p] at D;cases D
  obtain⟨_,d⟩:=Ak q t;rw[x,D] at d;injection d with d;injection d with _ d;exact κ d Ac
 rw[e1];refine⟨T.transNew m λk _ x=>κ (z k x) A,⟨v,?_,o⟩,?_,λb l=>?_,⟨n,P.kept m λx=>(j f x).2.2.1 rfl⟩,⟨h7.1,?_⟩,h8⟩
 .have:=y.kept m (λx=>(j c x).1 rfl) (λx=>(j gm x).2.1 rfl) λb l x=>(j b x).2.2.2 b l rfl;exact⟨this.1,this.2.1,this.2.2.mono A⟩
 .show w'.ownsRow 0 60 2 _ (s.lf++[(e.nm,Cg L e)]).length (Cu<|s.lf++[(e.nm,Cg L e)]);rw[Qp,Ws];exact R
 .have:=WX (show J g=J b from l);subst this;rcases S with h|h
  .exact z g h
  exact h
 show(s.lf++[(e.nm,Cg L e)]).length<=i+1;rw[Ws];simp;omega
def ZP.take{s:dN}{v':M}{e:BF}(h:ZP w0 c gm f i L s u w)(R:Cg L e=0)(S:s.fs.length<60)(T:w0.heap.size<=c)(a0:w0.heap.size<=gm)(j:∀b,v.ownBlock=J b->w0.heap.size<=b)(m:Js w c gm (i*1001) v s.fs s.tb s.all)
 (h3:Js w' c gm (i*1001+1001) v' (s.fs++[(e.nm,e.dt)]) (Jq s.tb e.nm)<|s.all+e.dt.size)(o:Ag (λk=>k=c\/k=gm\/v.ownBlock=J k) w w')(hg:∀b,v'.ownBlock=J b->v.ownBlock=J b\/w.heap.size<=b):
 ZP w0 c gm f (i+1) L (ET L s e) u w':=by
 obtain⟨t,_,y,h5,⟨n,z⟩,_,P⟩:=h;have S:ET L s e=⟨s.fs++[(e.nm,e.dt)],Jq s.tb e.nm,s.all+e.dt.size,s.lf⟩:=Wz R;rw[S];have p:¬(f=c\/f=gm\/v.ownBlock=J f):=by
  obtain⟨_,_,⟨_,_,g,_⟩,_⟩:=z;rintro(x|x|x)
  .rw[x,m.1] at g;cases g
  .exact P x
  obtain⟨l,d⟩:=Ak m.2.1 x;rw[g] at d;cases d
 have hu:∀b,u.ownBlock=J b->¬(b=c\/b=gm\/v.ownBlock=J b):=by
  intro b q;obtain⟨_,D⟩:=Ak y q;obtain⟨a,r,_,⟨_,_,c,_⟩,_⟩:=m;rintro(x|x|x)
  .exact aiM
  .rw[x,c] at D;cases D
  obtain⟨l,d⟩:=Ak r x;rw[D] at d;injection d with d;injection d with _ d;exact κ d Ac
 refine⟨t.transNew o λk _ x=>?_,⟨v',?_,λb q=>?_⟩,y.kept o hu,h5,⟨n,z.kept o p⟩,⟨?_,by show s.lf.length<=i+1;omega⟩,P⟩
 .rcases x with x|x|x
  .omega
  .omega
  have:=j k x;omega
 .rw[Nat.succ_mul];exact h3
 .rcases hg b q with h|h
  .exact j b h
  have:=t.size;omega
 show(s.fs++[(e.nm,e.dt)]).length<=60;rw[Ws];simp;omega
def oh(gt cap:N)(T:E BF)(hT:T.length<=200)(hs:∀e∈T,e.nm.size<=2000000)(a0:sb T)(a6:(Fg (Ay T) T).fs.Pairwise λa b=>a.1≠b.1)(w:U)(hm:Cf w)(ht:FM w gt T)(a7:gt<w.heap.size):
 μ F 74 #[K (J ⟨gt,0,O⟩) T.length cap] w λr w'=>∃v u m,r=ε (η #[v,u,I Q 0])/\Am w w'/\m.Perm (Fg (Ay T) T).fs/\m.Pairwise (λa b=>a.1.data.toList<b.1.data.toList)/\Au w' v m /\BZ w' u (Fg (Ay T) T).lf/\(∀b,v.ownBlock=J b->w.heap.size<=b)/\(∀b,u.ownBlock=J b->w.heap.size<=b):=by
 have:= @acF F;have H1:=H<|gz gt cap T A hs w ht a7;have HS:C (∀i,i<T.length->(T.getD i AC).nm.size<=2000000):=λi hi=>by rw[Wq,Wv hi];exact hs _<|WJ hi
 have HT:=H ht;have a2:=H a0;have a3:=H a6;have HM:=H hm;have:¬(200:Z)<(T.length:Z):=A;obtain⟨L,hL⟩:∃L,Ay T=L:=⟨_,rfl⟩;rw[hL] at H1 a3 ⊢;have a2:C (∀i,i<T.length->Cg L (T.getD i AC)=0->Ef (Fg L<|T.take i) (T.getD i AC)=0):=by rw[<-hL];exact a2
 go_in;go_wp2_with fail;apply H1.mono;rintro e w1 ⟨rfl,q,Q1⟩;have a0:=q.size;have:=H Q1.lt;have a4:C<|ZP w (w1.heap.size+1) w1.heap.size w.heap.size 0 L (Fg L<|T.take 0) (K O 0 0) ((w1.alloc (.map #[] 0)).alloc (.cells #[K O 0 0,.map<|J w1.heap.size,I Q 0] jR)):=aeY;have P:=H a0;go_wp2_with fail;generalize w1.heap.size=gm at*;obtain⟨x,a8⟩:∃x,gm+1=x:=⟨_,rfl⟩;have HGC2:C<|w.heap.size<=x:=by have:=X P;unfold C;omega
 rw[a8] at a4 ⊢;go_loopw [7,9,10,11,21] (λu _ _ _ a0 wr=>∃i:N,i<=T.length/\a0=I Q i/\C (ZP w x gm w.heap.size i L (Fg L<|T.take i) u wr)) λ_ _ _ _ a0 _=>T.length-(intOf a0).toNat
 .exact ⟨0,A,rfl,a4⟩
 obtain⟨i,hi,rfl,D⟩:=hrel;by_cases a0:i<T.length
 .have a4:(i:Z)<T.length:=A;obtain⟨_,h1,h2,h3⟩:=HT.old D.old i a0;have Y9:=HS i a0;have N9:=H<|Fz L T i a0;have HCF:=H<|a2 i a0;exact aer
 have:¬(i:Z)<T.length:=A;have a9:i=T.length:=A;subst a9;rw[wL] at D;obtain⟨s,a1⟩:∃s,s=Fg L T:=⟨_,rfl⟩;rw[<-a1] at D a3;have b0:=H a1;obtain⟨v,t,X2⟩:=D.ch;have H6:=H (ub v s.fs (by have:=D.few.1;omega) a3 wr t.2.1);have a0:wr.cell? ⟨x,0,O⟩=J v:=by rw[Wu wr x 0 _ _ (0,0) t.1];rfl
 have b1:=H X2;have b2:C (∀l,Ag (λk=>v.ownBlock=J k) wr l ->l.cell? ⟨x,0,O⟩=J v):=λl ho=>(ho.cell (p:=⟨x,0,O⟩) t.lt.1 λe=>(t.apart.2 x e).1 rfl).trans a0
 have b3:C (∀l,Ag (λk=>v.ownBlock=J k) wr l ->Am w l /\BZ l u7 s.lf):=λl ho=>by
  refine⟨D.old.transNew ho λk _ e=>κ (X2 k e) A,D.lf.kept ho λb hb e=>?_⟩;obtain⟨J0,h1⟩:=Ak D.lf hb;obtain⟨_,h2⟩:=Ak t.2.1 e;rw[h1] at h2;injection h2 with h2;injection h2 with _ h2;exact κ h2 Ac
 have b4:=H D.lfb;go_wp2_with fail;apply H6.mono;rintro e w6 ⟨rfl,m,hp,a0,a2,J6⟩;have:=b2 w6 J6;have a5:=H<|b3 w6 J6;have HP:=H hp;have b5:=H a0;have b6:=H a2;go_wp2_with fail;go_ret3;have a1:=X b0;subst a1;exact⟨v,_,m,rfl,a5.1,HP,b5,b6,a5.2,b1,b4⟩
def vU(nm j:Y)(k:Bool)(g gm n:N)(v:M)(y:E Fl)(f:Iw)(m:N)(o:nm.size<=1000)(p:Dz f nm=θ)(w:U)(a:Js w g gm n v y f m):
 μ F 137 #[V<|J ⟨g,0,O⟩,.agg #[G nm,ζ k,G j]] w λr w'=>r=ε (I Q 5)/\Am w w':=by
 obtain⟨_,_,_⟩:=a.lt;obtain⟨z,d,rfl⟩:∃z d,v=K z y.length d:=aeW;have d:Am w<|w.alloc (W #[G nm,ζ k,G j] 35):=(Ag.refl _ w).alloc _;have D:=UW.made w nm k j;have h:=a.old d;have P:=d;have l:=λe q=>Jr nm o gm n f e q
 rw[p] at l;go_in;go_upto_region 2 with fail;generalize w.alloc (W #[G nm,ζ k,G j] 35)=e at*;have j:e.cell? ⟨g,1,O⟩=J (.map<|J gm):=by rw[Wu e g 1 _ _ (0,0) h.1];rfl
 have d:e.drew.cell? ⟨g,1,O⟩=J (.map<|J gm)/\e.drew.cell? ⟨w.heap.size,0,O⟩=J (G nm)/\True:=⟨j,D.2.1,trivial⟩;have l:=l e.drew h.2.2;refine Ai (S:=λe=>e.cell? ⟨g,1,O⟩=J (.map<|J gm)/\e.cell? ⟨w.heap.size,0,O⟩=J (G nm)/\True) (L:=7) B ?_;refine tk 0 8 (V<|J ⟨g,0,O⟩) 10 d ?_;refine tk 1 8 (V<|J ⟨g,0,O⟩) 11 d ?_;refine tk 2 8 (V<|J ⟨g,1,O⟩) 12 d ?_;refine tk 3 8 (.map<|J gm) 13 d ?_;refine tk 4 8 (V<|J ⟨w.heap.size,0,O⟩) 14 d ?_;refine tk 5 8 (G nm) 15 d ?_;refine Ah (i:=6) B ?_;refine WE rfl λ_ s=>?_;go_simp;apply l.mono;rintro r t ⟨rfl,x⟩;have d :Am e t:=((Ag.refl _ e).drew).trans x;have e:=D.old d;have j:=h.old d;have u:=Ag.trans P d;have d:t.cell? ⟨g,1,O⟩=J (.map<|J gm):=by rw[Wu t g 1 _ _ (0,0) j.1];rfl
 refine s _ _ ⟨λ_=>⟨d,e.2.1,trivial⟩,?_⟩;refine Ah (i:=7) B ?_;refine WE rfl λ_ s=>?_;go_simp;refine s _ _ ⟨λq=>κ rfl q,?_⟩;refine Aj B ?_;have:=e.2.1;exact aiO
def vV(nm g:Y)(o:Bool)(d gm n:N)(v:M)(t:E Fl)(f:Iw)(l:N)(u:nm.size<=1000)(x:Dz f nm=ι)(y:(Γ (nm≠Fy)&&Γ (AQ nm=Fy))=θ)(w:U)(a:Js w d gm n v t f l):
 μ F 137 #[V<|J ⟨d,0,O⟩,.agg #[G nm,ζ o,G g]] w λr w'=>r=ε (I Q 4)/\Am w w':=by
 obtain⟨_,_,_⟩:=a.lt;obtain⟨z,h,rfl⟩:∃z h,v=K z t.length h:=aeW;have T:Am w<|w.alloc (W #[G nm,ζ o,G g] 35):=(Ag.refl _ w).alloc _;have HE:=UW.made w nm o g;have j:=a.old T;have HO:=T;have p:=λe k=>Jr nm u gm n f e k
 rw[x] at p;have H2:=λe=>Px nm A e
 rw[y] at H2;go_in;go_upto_region 2 with fail;generalize w.alloc (W #[G nm,ζ o,G g] 35)=e at*;have o:e.cell? ⟨d,1,O⟩=J (.map<|J gm):=by rw[Wu e d 1 _ _ (0,0) j.1];rfl
 have g:e.drew.cell? ⟨d,1,O⟩=J (.map<|J gm)/\e.drew.cell? ⟨w.heap.size,0,O⟩=J (G nm)/\True:=⟨o,HE.2.1,trivial⟩;have p:=p e.drew j.2.2;refine Ai (S:=λe=>e.cell? ⟨d,1,O⟩=J (.map<|J gm)/\e.cell? ⟨w.heap.size,0,O⟩=J (G nm)/\True) (L:=7) B ?_;refine tk 0 8 (V<|J ⟨d,0,O⟩) 10 g ?_;refine tk 1 8 (V<|J ⟨d,0,O⟩) 11 g ?_;refine tk 2 8 (V<|J ⟨d,1,O⟩) 12 g ?_;refine tk 3 8 (.map<|J gm) 13 g ?_;refine tk 4 8 (V<|J ⟨w.heap.size,0,O⟩) 14 g ?_;refine tk 5 8 (G nm) 15 g ?_;refine Ah (i:=6) B ?_;refine WE rfl λ_ s=>?_;go_simp;apply p.mono;rintro r q ⟨rfl,D⟩;have g :Am e q:=((Ag.refl _ e).drew).trans D;have e:=HE.old g;have m:=j.old g;have P:=Ag.trans HO g;have g:q.cell? ⟨d,1,O⟩=J (.map<|J gm):=by rw[Wu q d 1 _ _ (0,0) m.1];rfl
 refine s _ _ ⟨λ_=>⟨g,e.2.1,trivial⟩,?_⟩;refine Ah (i:=7) B ?_;refine WE rfl λ_ s=>?_;go_simp;refine s _ _ ⟨λk=>κ rfl k,?_⟩;refine Aj B ?_;have:=e.2.1;go_wp2_with fail;apply(H2 q).mono;rintro r s ⟨rfl,k⟩;have g:=e.old k;have e:=m.old k;have R:=Ag.trans P k;have:=g.2.1;have:=g.2.2.2;have:s.cell? ⟨d,0,O⟩=J (Value.slice z t.length h):=by rw[Wu s d 0 _ _ (0,0) e.1];rfl
 have:s.cell? ⟨d,2,O⟩=J (I Q (l:Z)):=by rw[Wu s d 2 _ _ (0,0) e.1];rfl
 go_wp2;go_ret;exact⟨rfl,R⟩
def vW(nm g:Y)(o:Bool)(e gm n:N)(v:Value)(t:E Fl)(f:Iw)(l:N)(u:nm.size<=1000)(x:Dz f nm=ι)(y:(Γ (nm≠Fy)&&Γ (AQ nm=Fy))=ι)(T:BE nm<g.size)(w:U)(a:Js w e gm n v t f l):
 μ F 137 #[V<|J ⟨e,0,O⟩,.agg #[G nm,ζ o,G g]] w λr w'=>r=ε (I Q 1)/\Am w w':=by
 obtain⟨_,_,_⟩:=a.lt;obtain⟨z,h,rfl⟩:∃z h,v=K z t.length h:=aeW;have T:Am w<|w.alloc (W #[G nm,ζ o,G g] 35):=(Ag.refl _ w).alloc _;have HE:=UW.made w nm o g;have j:=a.old T;have HO:=T;have p:=λd k=>Jr nm u gm n f d k
 rw[x] at p;have H2:=λd=>Px nm A d
 rw[y] at H2;have:((BE nm:N):Z)<(g.size:Z):=A;have H4:=λd=>ZK nm d
 generalize BE nm=M at*;go_in;go_upto_region 2 with fail;generalize w.alloc (W #[G nm,ζ o,G g] 35)=d at*;have o:d.cell? ⟨e,1,O⟩=J (.map<|J gm):=by rw[Wu d e 1 _ _ (0,0) j.1];rfl
 have g:d.drew.cell? ⟨e,1,O⟩=J (.map<|J gm)/\d.drew.cell? ⟨w.heap.size,0,O⟩=J (G nm)/\True:=⟨o,HE.2.1,trivial⟩;have p:=p d.drew j.2.2;refine Ai (S:=λd=>d.cell? ⟨e,1,O⟩=J (.map<|J gm)/\d.cell? ⟨w.heap.size,0,O⟩=J (G nm)/\True) (L:=7) B ?_;refine tk 0 8 (V<|J ⟨e,0,O⟩) 10 g ?_;refine tk 1 8 (V<|J ⟨e,0,O⟩) 11 g ?_;refine tk 2 8 (V<|J ⟨e,1,O⟩) 12 g ?_;refine tk 3 8 (.map<|J gm) 13 g ?_;refine tk 4 8 (V<|J ⟨w.heap.size,0,O⟩) 14 g ?_;refine tk 5 8 (G nm) 15 g ?_;refine Ah (i:=6) B ?_;refine WE rfl λ_ s=>?_;go_simp;apply p.mono;rintro r q ⟨rfl,D⟩;have g :Am d q:=((Ag.refl _ d).drew).trans D;have d:=HE.old g;have m:=j.old g;have P:=Ag.trans HO g;have g:q.cell? ⟨e,1,O⟩=J (.map<|J gm):=by rw[Wu q e 1 _ _ (0,0) m.1];rfl
 refine s _ _ ⟨λ_=>⟨g,d.2.1,trivial⟩,?_⟩;refine Ah (i:=7) B ?_;refine WE rfl λ_ s=>?_;go_simp;refine s _ _ ⟨λk=>κ rfl k,?_⟩;refine Aj B ?_;have:=d.2.1;go_wp2_with fail;apply(H2 q).mono;rintro r s ⟨rfl,k⟩;have g:=d.old k;have d:=m.old k;have R:=Ag.trans P k;have:=g.2.1;have:=g.2.2.2;have:s.cell? ⟨e,0,O⟩=J (Value.slice z t.length h):=by rw[Wu s e 0 _ _ (0,0) d.1];rfl
 have:s.cell? ⟨e,2,O⟩=J (I Q (l:Z)):=by rw[Wu s e 2 _ _ (0,0) d.1];rfl
 go_wp2_with fail;apply(H4 _).mono;rintro r w3 ⟨rfl,rfl⟩;go_wp2;go_ret;exact⟨rfl,R⟩
def vX(nm dt:Y)(ln:Bool)(x gm n:N)(v:Value)(fs:E Fl)(f:Iw)(all:N)(e:nm.size<=1000)(g:Dz f nm=ι)(k:(Γ (nm≠Fy)&&Γ (AQ nm=Fy))=ι)(m:dt.size<=BE nm)(p:fs.length=60)(w:U)(a:Js w x gm n v fs f all):
 μ F 137 #[V<|J ⟨x,0,O⟩,.agg #[G nm,ζ ln,G dt]] w λr w'=>r=ε (I Q 6)/\Am w w':=by
 obtain⟨_,_,_⟩:=a.lt;obtain⟨ao,cap,rfl⟩:∃ao cap,v=K ao fs.length cap:=aeW;have m:Am w<|w.alloc (.cells #[G nm,ζ ln,G dt] 35):=(Ag.refl _ w).alloc _;have HE:=H<|UW.made w nm ln dt;have d:=H<|a.old m;have HO:=H m;have y:=H λW h=>Jr nm e gm n f W h;rw[g] at y;have o:=H λW=>Px nm A W;rw[k] at o;have:¬((BE nm:N):Z)<(dt.size:Z):=A;have:(fs.length:Z)=60:=A;exact aey
def vY(nm dt:Y)(ln:Bool)(x gm n:N)(v:Value)(fs:E Fl)(f:Iw)(all:N)(e:nm.size<=1000)(g:Dz f nm=ι)(k:(Γ (nm≠Fy)&&Γ (AQ nm=Fy))=ι)(m:dt.size<=BE nm)(p:fs.length<60)(s:16000<all+dt.size)(m:all<=16000)(w:U)(a:Js w x gm n v fs f all):
 μ F 137 #[V<|J ⟨x,0,O⟩,.agg #[G nm,ζ ln,G dt]] w λr w'=>r=ε (I Q 1)/\Am w w':=by
 obtain⟨_,_,_⟩:=a.lt;obtain⟨ao,cap,rfl⟩:∃ao cap,v=K ao fs.length cap:=aeW;have m:Am w<|w.alloc (.cells #[G nm,ζ ln,G dt] 35):=(Ag.refl _ w).alloc _;have HE:=H<|UW.made w nm ln dt;have d:=H<|a.old m;have HO:=H m;have y:=H λW h=>Jr nm e gm n f W h;rw[g] at y;have o:=H λW=>Px nm A W;rw[k] at o;have:¬((BE nm:N):Z)<(dt.size:Z):=A;have:¬(fs.length:Z)=60:=A;have:(16000:Z)-(all:Z)<dt.size:=A;exact aey
def zg(nm d:Y)(e:Bool)(f gm n:N)(v:M)(s:dN)(b:nm.size<=1000)(m:s.fs.length<=60)(j:s.all<=16000)(k:N)(a:Ef s ⟨nm,e,d⟩=k)(h0:k≠0)(w:U)(c:Js w f gm n v s.fs s.tb s.all):
 μ F 137 #[V<|J ⟨f,0,O⟩,.agg #[G nm,ζ e,G d]] w λr w'=>r=ε (I Q (k:Z))/\Am w w':=by
 unfold Ef at a;split at a
 .rename_i g;subst a;exact vU nm d e f gm n v s.fs s.tb s.all b g w c
 rename_i g;rw[Bool.not_eq_true] at g;split at a
 .rename_i h;subst a;exact vV nm d e f gm n v s.fs s.tb s.all b g h w c
 rename_i h;rw[Bool.not_eq_true] at h;split at a
 .rename_i i;subst a;exact vW nm d e f gm n v s.fs s.tb s.all b g h i w c
 rename_i i;split at a
 .rename_i l;subst a;exact vX nm d e f gm n v s.fs s.tb s.all b g h (adA.1 i) l w c
 rename_i l;split at a
 .rename_i o;subst a;exact vY nm d e f gm n v s.fs s.tb s.all b g h (adA.1 i) A o j w c
 exact κ a.symm h0
def om(L:E Y)(T:E BF):∀i,i<=T.length->(∀j,j<i->Cg L (T.getD j AC)=0->Ef (Fg L<|T.take j) (T.getD j AC)=0)->(Fg L<|T.take i).all<=16000:=by
 intro i;induction i with
 |zero=>intro _ _;exact wH _
 |succ i a=>
  intro c h;have b:=a A λj d=>h j A;rw[Fz L T i A,ET];split
  .rename_i a;exact(IV<|h i A a).2.2.2.2
  exact b
def UX(a cap:N)(n:N)(b:200<n)(w:U):
 μ F 74 #[K (J ⟨a,0,O⟩) n cap] w λr w'=>r=ε (η #[K O 0 0,K O 0 0,I Q 6])/\Am w w':=by
 have:(200:Z)<(n:Z):=A;go_in;go_wp2_with fail;go_ret3;exact⟨rfl,Ag.refl _ _⟩
def oq(gt cap:N)(T:E BF)(hT:T.length<=200)(hs:∀e∈T,e.nm.size<=2000000)(m k:N)(a3:m<T.length)(p:∀i,i<m->Cg (Ay T) (T.getD i AC)=0->Ef (Fg (Ay T)<|T.take i) (T.getD i AC)=0)(hw:Cg (Ay T) (T.getD m AC)=0)(hk:Ef (Fg (Ay T)<|T.take m) (T.getD m AC)=k)(h0:k≠0)(w:U)(hm:Cf w)(ht:FM w gt T)(a3:gt<w.heap.size):
 μ F 74 #[K (J ⟨gt,0,O⟩) T.length cap] w λr w'=>r=ε (η #[K O 0 0,K O 0 0,I Q (k:Z)])/\Am w w':=by
 have a0:=H<|om (Ay T) T m A p;have:= @acF F;have H1:=H<|gz gt cap T A hs w ht a3;have HS:C (∀i,i<T.length->(T.getD i AC).nm.size<=2000000):=λi hi=>by rw[Wq,Wv hi];exact hs _<|WJ hi
 have HT:=H ht;have HM:=H hm;have:¬(200:Z)<(T.length:Z):=A;obtain⟨L,hL⟩:∃L,Ay T=L:=⟨_,rfl⟩;rw[hL] at H1 p hw hk a0;have a4:=H p;have HW:=H hw;have HK:=H hk;go_in;go_wp2_with fail;apply H1.mono;rintro e w1 ⟨rfl,q,Q1⟩;have p:=q.size;have:=H Q1.lt;have a1:C<|ZP w (w1.heap.size+1) w1.heap.size w.heap.size 0 L (Fg L<|T.take 0) (K O 0 0) ((w1.alloc (.map #[] 0)).alloc (.cells #[K O 0 0,.map<|J w1.heap.size,I Q 0] jR)):=aeY;have P:=H p;go_wp2_with fail;generalize w1.heap.size=gm at*;obtain⟨x,a5⟩:∃x,gm+1=x:=⟨_,rfl⟩;have HGC2:C<|w.heap.size<=x:=by have:=X P;unfold C;omega
 rw[a5] at a1 ⊢;go_loopw [7,9,10,11,21] (λu _ _ _ a wr=>∃i:N,i<=m/\a=I Q i/\C (ZP w x gm w.heap.size i L (Fg L<|T.take i) u wr)) λ_ _ _ _ a _=>T.length-(intOf a).toNat
 .exact ⟨0,A,rfl,a1⟩
 obtain⟨i,hi,rfl,D⟩:=hrel;have a:i<T.length:=A;by_cases p:i<m
 .clear HW HK;have a2:(i:Z)<T.length:=A;obtain⟨_,h1,h2,h3⟩:=HT.old D.old i a;have Y9:=HS i a;have N9:=H<|Fz L T i a;have HCF:=H<|a4 i p;exact aer
 obtain rfl:i=m:=A;have:(i:Z)<T.length:=A;obtain⟨_,h1,h2,h3⟩:=HT.old D.old i a;have Y9:=HS i a;have HYL:=H λn W hm hg=>SC (T.getD i AC) Y9 w.heap.size n L W hm hg;have:=Eg<|MB HW;rw[X HW] at HYL;generalize Fg L (T.take i)=s,T.getD i AC=e at*;obtain⟨nm,ln,dt⟩:=e;simp only at*;have hA:Am wr<|wr.alloc (.cells #[G nm,ζ ln,G dt] 35):=(Ag.refl _ wr).alloc _;have HE:=H<|UW.made wr nm ln dt;have Y6:=H<|D.after hA;obtain⟨nfo,hfo⟩:=Y6.fo;have o:=H<|HYL nfo _ (HM.old Y6.old) hfo;go_wp2_with fail;apply o.mono;rintro e w4 ⟨rfl,z⟩;have HE4:=H<|HE.old z;have Y5:=H<|Y6.after z;generalize wr.alloc (.cells #[G nm,ζ ln,G dt] 35)=W at*;obtain⟨v,t,X2⟩:=Y5.ch;have H3:=H<|zg nm dt ln x gm (i*1001) v s A Y5.few.1 a0 k HK h0 w4 t;obtain⟨_,h1,h2,h3⟩:=X HE4;have:((k:Z) !=0)=true:=akQ
 have:¬(k:Z)=0:=A;have a6:=H Y5.old;go_wp2_with fail;apply H3.mono;rintro e w5 ⟨rfl,I3⟩;have a7:=H<|a6.trans I3;go_wp2_with fail;go_ret3;exact⟨rfl,a7⟩
def Py(L:E Y)(T:E BF):E BF:=T.filter λe=>Cg L e==0
def gB(L:E Y)(T:E BF):E BF:=T.filter λe=>Cg L e !=0
def UY(L:E Y)(T:E BF):∀s:dN,(T.foldl (ET L) s).fs=s.fs++(Py L T).map (λe=>(e.nm,e.dt))/\(T.foldl (ET L) s).lf=s.lf++(gB L T).map (λe=>(e.nm,Cg L e))/\(T.foldl (ET L) s).tb=(Py L T).foldl (λf e=>Jq f e.nm) s.tb/\(T.foldl (ET L) s).all=s.all+((Py L T).map λe=>e.dt.size).sum:=by
 induction T with
 |nil=>intro s;simp[Py,gB]
 |cons e r a=>
  intro s;rw[acf];obtain⟨b,c,d,g⟩:=a<|ET L s e;rw[b,c,d,g];unfold ET Py gB;by_cases h:Cg L e=0
  .rw[Wz h,acx akW,acy akW];simp[aap]
  rw[Wx h,acy akW,acx akW];simp
def vZ(L:E Y)(T:E BF):(Fg L T).fs=(Py L T).map (λe=>(e.nm,e.dt)):=by rw[Fg,(UY L T vT).1];rfl
def xb(L:E Y)(T:E BF):(Fg L T).lf=(gB L T).map (λe=>(e.nm,Cg L e)):=by rw[Fg,(UY L T vT).2.1];rfl
def Pz{a b:E Fl}(c:a.Perm b)(d:a.Pairwise λx y=>x.1.data.toList<y.1.data.toList)(e:b.Pairwise λx y=>x.1.data.toList<y.1.data.toList):a=b:=
 c.eq_of_pairwise (λ_ _ _ _ c f=>κ (abA c f)<|aaq _) d e
def CR{P:Program}{e:Func}{p t u:Tmp}{b:TypeId}(h:e.results= #[.cell p b,.tmp t,.tmp u])(a:φ M)(w:U)(g:N)(c:TypeId)(cs:φ M)(fr:N×N)(d:TypeDesc)
 (hp:a.getD p undef=V (J ⟨g,0,O⟩))(hg:w.heap[g]? =J (W cs c fr))
 (hu:P.underlying b=J d)(hd:(match d with| .struct _| .array _ _=>θ|_=>ι)=θ)(hi:(P.info? b).map (·.size)=J cs.size):
 (results e a).run P w=.ok (η #[.agg cs,a.getD t undef,a.getD u undef]) w:=agU
def jT(p s nm:Y)(a b h d e:N)(n:s.size<=40000)(l:30<=s.size)(m:30+BV s 26 2=a)(n:a+BV s 18 4=b)(m:b<=s.size)
 (l:Lib.hasPrefix (s.extract 30 a).data.toList p.data.toList=θ)(m:ByteArray.mk (Lib.trimPrefix (s.extract 30 a).data.toList p.data.toList).toArray=nm)(n:BV s 8 2=h)(o:h=0\/h=8)(q:BV s 14 4=d)(t:BV s 22 4=e)(w:U):
 μ F 221 #[G p,G s] w λr w'=>r=ε (η #[.agg #[G nm,I σ h,I σ d,I σ e,G<|s.extract a b],G<|s.extract b s.size,ζ θ])/\Am w w':=by
 have z:=Ff s 26 2;have:=Ff s 18 4;have D:=λc=>JP s 26 2 A A A c
 have P:=λc=>JP s 18 4 A A A c
 have x:=λc=>JP s 8 2 A A A c
 have u:=λc=>JP s 14 4 A A A c
 have v:=λc=>JP s 22 4 A A A c
 have g:=λc=>strings_CutPrefix (s.extract 30 a) p c
 rw[l,m] at g;rw[n] at x;rw[q] at u;rw[t] at v;generalize BV s 26 2=k1,BV s 18 4=k2 at*;have h:Am w<|w.alloc (W #[G ⟨#[]⟩,I σ 0,I σ 0,I σ 0,G ⟨#[]⟩] 190):=(Ag.refl _ w).alloc _;have j:((w.alloc<|W #[G ⟨#[]⟩,I σ 0,I σ 0,I σ 0,G ⟨#[]⟩] 190).heap[w.heap.size]? =J (W #[G ⟨#[]⟩,I σ 0,I σ 0,I σ 0,G ⟨#[]⟩] 190 (0,0))):=WD w _;have y:=h;have:k1<65536:=z;have:k2<=40000:=A;have:(30:Z)+(k1:Z)=a:=A;have:(a:Z)+k2=(b:Z):=A;have:¬(s.size:Z)<30:=A;have:¬(s.size:Z)<b:=A;have:30<=a:=A;have:a<=b:=A;have:a<=s.size:=A;have:IntKind.u64.wrap (a:Z)=a:=alb
 have:IntKind.u64.wrap (b:Z)=b:=alb
 have:∀c,(Instr.slice 9 (G s) (J<|I Q 30) (J<|I .u64 (a:Z)) O).run F c=.ok (G<|s.extract 30 a) c:=λc=>abN c 9 s Q .u64 30 a underlying9 A A A
 have:∀c,(Instr.slice 9 (G s) (J<|I .u64 (a:Z)) (J<|I .u64 (b:Z)) O).run F c=.ok (G<|s.extract a b) c:=λc=>abN c 9 s .u64 .u64 a b underlying9 A A A
 have:∀c,(Instr.slice 9 (G s) (J<|I .u64 (b:Z)) O O).run F c=.ok (G<|s.extract b s.size) c:=λc=>aaz c 9 s underlying9 .u64 b A A
 go_in;go_wp2_with fail;generalize w.alloc (W #[G ⟨#[]⟩,I σ 0,I σ 0,I σ 0,G ⟨#[]⟩] 190)=c at*;apply(D _).mono;rintro r w1 ⟨rfl,rfl⟩;go_wp2_with fail;apply(P _).mono;rintro r w2 ⟨rfl,rfl⟩;go_wp2_with fail;apply(g _).mono;rintro r w3 ⟨rfl,rfl⟩;go_wp2_with fail;apply(x _).mono;rintro r k ⟨rfl,rfl⟩;rcases o with rfl|rfl
 .have f:((0:N):Z)=0:=rfl;simp only[f] at*;go_upto_region 11 with fail;refine Ai (S:=λ_=>True) (L:=16) B ?_;refine tk 0 17 (G nm) 52 trivial ?_;refine tk 1 17 (I σ 0) 53 trivial ?_;refine tk 2 17 (G s) 54 trivial ?_;refine tk 4 17 (G s) 56 trivial ?_;refine tk 6 17 (G s) 58 trivial ?_;refine tk 7 17 (I .u64 (a:Z)) 59 trivial ?_;refine tk 8 17 (I .u64 (b:Z)) 60 trivial ?_;refine tk 9 17 (G<|s.extract a b) 61 trivial ?_;refine tk 11 17 (G s) 63 trivial ?_;refine tk 12 17 (I .u64 (b:Z)) 64 trivial ?_;refine tk 13 17 (G<|s.extract b s.size) 65 trivial ?_;refine Ah (i:=3) B ?_;refine WE rfl λ_ c=>?_;go_simp;apply(u _).mono;rintro r R ⟨rfl,rfl⟩;refine c _ _ ⟨λ_=>trivial,?_⟩;refine Ah (i:=5) B ?_;refine WE rfl λ_ c=>?_;go_simp;apply(v _).mono;rintro r T ⟨rfl,rfl⟩;refine c _ _ ⟨λ_=>trivial,?_⟩;refine tk 10 17 (.agg #[G nm,I σ 0,I σ (d:Z),I σ (e:Z),G<|s.extract a b]) 62 trivial ?_;refine Ah (i:=14) B ?_;refine DE rfl rfl (adx 190 (.tmp 4) (.tmp 62) rfl w.heap.size #[G nm,I σ 0,I σ (d:Z),I σ (e:Z),G<|s.extract a b] rfl rfl 190 _ (show k.drew.heap[w.heap.size]? =_ from j) Da rfl (Pr _ _ _ _ _) ?_);refine⟨λ_=>trivial,?_⟩;simp only[Act.put];refine Ah (i:=15) B ?_;refine WE rfl λ_ c=>?_;go_simp;refine c _ _ ⟨λ_=>trivial,?_⟩;refine Ah (i:=16) B ?_;refine WE rfl λ_ c=>?_;go_simp;refine c _ _ ⟨λ_=>trivial,?_⟩;refine Aj B ?_;go_wp2_with fail;refine wI (CR results221 _ _ w.heap.size 190 _ (0,0) _ rfl (aaa k.drew w.heap.size _ #[G nm,I σ 0,I σ (d:Z),I σ (e:Z),G<|s.extract a b] _ _ j) underlying190 rfl Da) rfl ⟨?_,(y.drew).setRow _ (λh=>κ h<|aac _) _⟩
  rfl
 have f:((8:N):Z)=8:=rfl;simp only[f] at*;go_upto_region 11 with fail;refine Ai (S:=λ_=>True) (L:=16) B ?_;refine tk 0 17 (G nm) 52 trivial ?_;refine tk 1 17 (I σ 8) 53 trivial ?_;refine tk 2 17 (G s) 54 trivial ?_;refine tk 4 17 (G s) 56 trivial ?_;refine tk 6 17 (G s) 58 trivial ?_;refine tk 7 17 (I .u64 (a:Z)) 59 trivial ?_;refine tk 8 17 (I .u64 (b:Z)) 60 trivial ?_;refine tk 9 17 (G<|s.extract a b) 61 trivial ?_;refine tk 11 17 (G s) 63 trivial ?_;refine tk 12 17 (I .u64 (b:Z)) 64 trivial ?_;refine tk 13 17 (G<|s.extract b s.size) 65 trivial ?_;refine Ah (i:=3) B ?_;refine WE rfl λ_ c=>?_;go_simp;apply(u _).mono;rintro r R ⟨rfl,rfl⟩;refine c _ _ ⟨λ_=>trivial,?_⟩;refine Ah (i:=5) B ?_;refine WE rfl λ_ c=>?_;go_simp;apply(v _).mono;rintro r T ⟨rfl,rfl⟩;refine c _ _ ⟨λ_=>trivial,?_⟩;refine tk 10 17 (.agg #[G nm,I σ 8,I σ (d:Z),I σ (e:Z),G<|s.extract a b]) 62 trivial ?_;refine Ah (i:=14) B ?_;refine DE rfl rfl (adx 190 (.tmp 4) (.tmp 62) rfl w.heap.size #[G nm,I σ 8,I σ (d:Z),I σ (e:Z),G<|s.extract a b] rfl rfl 190 _ (show k.drew.heap[w.heap.size]? =_ from j) Da rfl (Pr _ _ _ _ _) ?_);refine⟨λ_=>trivial,?_⟩;simp only[Act.put];refine Ah (i:=15) B ?_;refine WE rfl λ_ c=>?_;go_simp;refine c _ _ ⟨λ_=>trivial,?_⟩;refine Ah (i:=16) B ?_;refine WE rfl λ_ c=>?_;go_simp;refine c _ _ ⟨λ_=>trivial,?_⟩;refine Aj B ?_;go_wp2_with fail;refine wI (CR results221 _ _ w.heap.size 190 _ (0,0) _ rfl (aaa k.drew w.heap.size _ #[G nm,I σ 8,I σ (d:Z),I σ (e:Z),G<|s.extract a b] _ _ j) underlying190 rfl Da) rfl ⟨?_,(y.drew).setRow _ (λh=>κ h<|aac _) _⟩
 rfl
def ot(v:M):N:=match v with| G s=>s.size|_=>0
def sd(d cap:N)(T:E BF)(i:T.length<=200)(j:∀e∈T,e.nm.size<=2000000)(f:sb T)(g:(Fg (Ay T) T).fs.Pairwise λa b=>a.1≠b.1)(w:U)(k:Cf w)(l:FM w d T)(h:d<w.heap.size):
 μ F 34 #[K (J ⟨d,0,O⟩) T.length cap] w λr w'=>∃v u c,r=ε (η #[v,u,I Q 0])/\Am w w'/\c.Perm (Fg (Ay T) T).fs/\c.Pairwise (λa b=>a.1.data.toList<b.1.data.toList)/\Au w' v c /\BZ w' u (Fg (Ay T) T).lf/\(∀b,v.ownBlock=J b->w.heap.size<=b)/\(∀b,u.ownBlock=J b->w.heap.size<=b):=by
 have m:=oh d cap T i j f g w k l h;go_in;go_wp2_with fail;apply m.mono;rintro e p ⟨v,u,c,rfl,n⟩;have o:=n;go_wp2_with fail;go_ret3;exact⟨v,u,c,rfl,o⟩
def jU(w:U):μ F 134 #[K O 0 0] w λr w'=>r=ε (.map<|J w.heap.size)/\w'=w.alloc (.map #[] 0):=by
 have:= @acF F;go_in;go_wp2;go_loopw [5,9] (λ_ x wr=>x=I Q 0/\wr=w.alloc (.map #[] 0)) λ_ _ _=>0
 .exact ⟨rfl,rfl⟩
 obtain⟨rfl,rfl⟩:=hrel;exact aet
def se(a cap:N)(T:E BF)(g:T.length<=200)(j:∀e∈T,e.nm.size<=2000000)(m k:N)(b:m<T.length)(d:∀i,i<m->Cg (Ay T) (T.getD i AC)=0->Ef (Fg (Ay T)<|T.take i) (T.getD i AC)=0)(l:Cg (Ay T) (T.getD m AC)=0)(n:Ef (Fg (Ay T)<|T.take m) (T.getD m AC)=k)(h0:k≠0)(w:U)(o:Cf w)(p:FM w a T)(f:a<w.heap.size):
 μ F 34 #[K (J ⟨a,0,O⟩) T.length cap] w λr w'=>r=ε (η #[K O 0 0,K O 0 0,I Q (k:Z)])/\Am w w':=by
 have y:=oq a cap T g j m k b d l n h0 w o p f;exact agh
def dO(a cap n:N)(b:200<n)(w:U):
 μ F 34 #[K (J ⟨a,0,O⟩) n cap] w λr w'=>r=ε (η #[K O 0 0,K O 0 0,I Q 6])/\Am w w':=by
 have y:=UX a cap n b w;exact agh
def ZQ(w:U):μ F 74 #[K O 0 0] w λr w'=>r=ε (η #[K O 0 0,K O 0 0,I Q 0])/\Am w w':=by
 have:= @acF F;have i:=jU w;have c:(Am w<|w.alloc (.map #[] 0)):=(Ag.refl _ w).alloc _;go_in;go_wp2_with fail;apply i.mono;rintro e a ⟨rfl,rfl⟩;generalize w.alloc (.map #[] 0)=a at*;have d:(Am a ((a.alloc (.map #[] 0)).alloc (.cells #[K O 0 0,.map<|J a.heap.size,I Q 0] jR))):=((Ag.refl _ a).alloc _).trans ((Ag.refl _ _).alloc _);have h:(((a.alloc (.map #[] 0)).alloc (.cells #[K O 0 0,.map<|J a.heap.size,I Q 0] jR)).heap[a.heap.size+1]? =J (.cells #[K O 0 0,.map<|J a.heap.size,I Q 0] jR (0,0))):=by
  have i:=WD (a.alloc (.map #[] 0)) (.cells #[K O 0 0,.map<|J a.heap.size,I Q 0] jR);rw[WP] at i;exact i
 go_wp2;go_loopw [7,9,10,11,21] (λu _ _ _ x wr=>u=K O 0 0/\x=I Q 0/\wr=(a.alloc (.map #[] 0)).alloc (.cells #[K O 0 0,.map<|J a.heap.size,I Q 0] jR)) λ_ _ _ _ _ _=>0
 .exact ⟨rfl,rfl,rfl⟩
 obtain⟨rfl,rfl,rfl⟩:=hrel;have j:=c.trans d;generalize(a.alloc (.map #[] 0)).alloc (.cells #[K O 0 0,.map<|J a.heap.size,I Q 0] jR)=W at*;have f:W.cell? ⟨a.heap.size+1,0,O⟩=J (K O 0 0):=by rw[Wu W _ 0 _ _ (0,0) h];rfl
 have k:=(Wt.1 h).1;have c:=ub (K O 0 0) [] Ad aaJ W<|WZ _ _ _ _;go_wp2_with fail;apply c.mono;rintro e l ⟨rfl,_,_,_,_,b⟩;have:=(b.cell (p:=⟨a.heap.size+1,0,O⟩) k λe=>by cases e).trans f;have g:(Am w l):=j.trans (b.mono λ_ _ e=>by cases e);go_wp2_with fail;go_ret3;exact⟨rfl,g⟩
def jV(w:U):μ F 34 #[K O 0 0] w λr w'=>r=ε (η #[K O 0 0,K O 0 0,I Q 0])/\Am w w':=by
 have y:=ZQ w;exact agh
def Ig(s:Y)(c:N):N->E Y×N
 |0=>([],0)
 |i+1=>if As s i=c then((Ig s c i).1++[s.extract (Ig s c i).2 i],i+1) else Ig s c i
def Ax(s:Y)(c:N):E Y:=(Ig s c s.size).1++[s.extract (Ig s c s.size).2 s.size]
def Xz(s:Y)(c i:N):(Ig s c i).2<=i/\(Ig s c i).1.length<=i:=by
 induction i with
 |zero=>exact⟨WF _,WF _⟩
 |succ i a=>
  rw[Ig];split
  .exact ⟨WF _,by simp;omega⟩
  exact⟨A,A⟩
def Oo(s:Y)(c i:N)(h:As s i=c):Ig s c (i+1)=((Ig s c i).1++[s.extract (Ig s c i).2 i],i+1):=Wz h
def LY(s:Y)(c i:N)(h:As s i≠c):Ig s c (i+1)=Ig s c i:=Wx h
def Dm(s:Y)(c:N):(Ax s c).length<=s.size+1:=by
 have:=(Xz s c s.size).2;simp[Ax];omega
def Jt(s:Y)(c:N)(hs:s.size<=2000000)(w:U):μ F 86 #[G s,I .u8 (c:Z)] w λr w'=>∃v,r=ε v/\Fx w w' v (Ax s c)/\Am w w':=by
 obtain⟨i0,P,R,S,T⟩:=wi Pv;have H0:C<|Fx w w (K O 0 0) (Ig s c 0).1:=⟨O,0,rfl,WZ w 0 9 1,λb h=>by cases h⟩;have D:=H (Ag.refl (λ_=>False) w);go_in;go_wp2;go_loopw [5,6,7] (λa2 y x wr=>∃i:N,i<=s.size+1/\x=I Q i/\C (Am w wr)/\C ((i<=s.size/\y=I Q (Ig s c i).2/\Fx w wr a2 (Ig s c i).1)\/(i=s.size+1/\Fx w wr a2 (Ax s c)))) λ_ _ x _=>s.size+1-(intOf x).toNat
 .exact ⟨0,A,rfl,D,.inl ⟨A,rfl,H0⟩⟩
 obtain⟨i,_,rfl,D,HS⟩:=hrel;clear H0;by_cases a5:i<=s.size
 .have a0:(i:Z)<=s.size:=A;obtain⟨_,hy,d⟩:i<=s.size/\u6=I Q (Ig s c i).2/\C (Fx w wr u5 (Ig s c i).1):=by
   rcases X HS with h|h
   .exact h
   omega
  subst hy;clear HS;obtain⟨_,_⟩:=Xz s c i;by_cases a:i=s.size
  .have HE:C<|Ax s c=(Ig s c i).1++[s.extract (Ig s c i).2 i]:=by rw[a];rfl
   have a1:((i:Z)==s.size)=true:=akZ
   have a3:∀W,(Instr.slice 9 (G s) (J<|I Q ((Ig s c i).2:Z)) (J<|I Q (i:Z)) O).run F W=.ok (G<|s.extract (Ig s c i).2 i) W:=λW=>aiq
   have p:=H λt g e=>Fx.more (w3:=t) (x:=s.extract (Ig s c i).2 i) (g:=g) (cap:=e) d D;obtain⟨ao,cp,u,e,_⟩:=X d;subst u;have x:=H (Dp e ((Ag.refl (λ_=>False) wr).alloc (.cells #[G<|s.extract (Ig s c i).2 i] 9)));have y:=H<|AD wr [G<|s.extract (Ig s c i).2 i] 9;clear e;generalize s.extract (Ig s c i).2 i=z at*;generalize Ig s c i=q at*;obtain⟨L,fr⟩:=q;simp only at*;have a4:=H a;clear a;go_wp2_with (at_builtin;refine wpList_append_lies _ rfl (.tmp 25) (.tmp 30) 29 rfl 0 9 i0 (G ⟨#[]⟩) 1 16 underlying29 P R S T rfl A (K ao L.length cp) L.length _ rfl x ⟨wr.heap.size,0,O⟩ 1 1 [G z] rfl rfl y alu A (by unfold maxLen;omega) A A (wr.heap.size+1) Ad ?_;intro gb f t j l m n;have HX:=H<|p t gb f j l m;clear j l m n);go_roundw
   .exact ⟨i+1,A,by go_num,HX.2,.inr ⟨by rw[X a4],by rw[X HE];exact HX.1⟩⟩
   exact Ae
  have a1:((i:Z)==s.size)=false:=act
  have a1:i<s.size:=A;have hb:=AA (s:=s) (k:=i) a1;by_cases o:As s i=c
  .have HN:=H<|Oo s c i o;have a3:∀W,(Instr.slice 9 (G s) (J<|I Q ((Ig s c i).2:Z)) (J<|I Q (i:Z)) O).run F W=.ok (G<|s.extract (Ig s c i).2 i) W:=λW=>aiq
   have p:=H λt g a1=>Fx.more (w3:=t) (x:=s.extract (Ig s c i).2 i) (g:=g) (cap:=a1) d D;obtain⟨ao,cp,u,e,_⟩:=X d;subst u;have x:=H (Dp e ((Ag.refl (λ_=>False) wr).alloc (.cells #[G<|s.extract (Ig s c i).2 i] 9)));have y:=H<|AD wr [G<|s.extract (Ig s c i).2 i] 9;rw[o] at hb;clear e o;generalize s.extract (Ig s c i).2 i=z at*;generalize Ig s c i=q at*;obtain⟨L,fr⟩:=q;simp only at*;clear a;go_wp2_with (at_builtin;refine wpList_append_lies _ rfl (.tmp 25) (.tmp 30) 29 rfl 0 9 i0 (G ⟨#[]⟩) 1 16 underlying29 P R S T rfl A (K ao L.length cp) L.length _ rfl x ⟨wr.heap.size,0,O⟩ 1 1 [G z] rfl rfl y alu A (by unfold maxLen;omega) A A (wr.heap.size+1) Ad ?_;intro gb f t j l m n;have HX:=H<|p t gb f j l m;clear j l m n);go_roundw
   .exact ⟨i+1,A,by go_num,HX.2,.inl ⟨A,by rw[X HN];go_num,by rw[X HN];exact HX.1⟩⟩
   exact Ae
  have HN:=H<|LY s c i o;have:((As s i:Z)==(c:Z))=false:=act
  go_wp2;go_roundw
  .exact ⟨i+1,A,by go_num,D,.inl ⟨A,by rw[X HN],by rw[X HN];exact d⟩⟩
  exact Ae
 have:¬(i:Z)<=s.size:=A;have HS:C<|Fx w wr u5 (Ax s c):=by
  rcases X HS with h|h
  .omega
  exact h.2
 go_wp2;go_ret;exact⟨_,rfl,HS,D⟩
def NB(s:Y)(c:N):Bool:=(List.range s.size).any λi=>As s i==c
def SE(h:i<s.size)(a:As s i=c):NB s c=true:=wJ.2 ⟨i,wh.2 h,by rw[a];exact beq_self_eq_true _⟩
def XA(h:∀i,i<s.size->As s i≠c):NB s c=false:=by
 rw[NB,aar];intro i a;rw[aaB];exact h i<|wh.1 a
def sg(s:Y)(c:N)(b:s.size<=2000000)(w:U):μ F 151 #[G s,I .u8 (c:Z)] w λr w'=>r=ε (ζ<|NB s c)/\w'=w:=by
 go_in;go_wp2_with fail;go_loop [5] (λx=>∃i:N,i<=s.size/\x=I Q i/\C (∀j,j<i->As s j≠c)) λx=>s.size-(intOf x).toNat
 .exact ajD
 obtain⟨i,_,rfl,f⟩:=hrel;by_cases d:i<s.size
 .have e:(i:Z)<s.size:=A;have g:=AA (s:=s) (k:=i) d;by_cases b:As s i=c
  .have HA:=H<|SE d b;rw[b] at g;exact ajR
  have a:C (∀j,j<i+1->As s j≠c):=λj d=>by
   by_cases g:j=i
   .rw[g];exact b
   exact f j A
  have:¬((As s i:Z)=(c:Z)):=A;exact afR
 have:¬(i:Z)<s.size:=A;have HA:=H (XA λj d=>f j A);exact ajR
def ou(s:Y)(D:s.size<=140737488355328)(w:U):μ F 79 #[G s] w λr w'=>r=ε (G<|AQ s)/\Am w w':=by
 have D:=Lib.run_convert_string_bytes (P:=F) w 9 64 5 s underlying9 underlying64 underlying5;have HR:(Kg (Lib.bytesWorld w 5 s) w.heap.size<|ID s.data.toList 0):=by rw[US];exact Kg.made w s
 have HO:=Il w s;have j:(s.data.toList.length=s.size):=Ad;have v:(w.heap.size<=w.heap.size):=WF _;have k:(∀l:E υ,l=s.data.toList->AQ s=⟨(l.map Iq).toArray⟩):=by intro l L;subst L;rfl
 generalize S:s.data.toList=l,AQ s=z at*;have k:=k l rfl;generalize s.size=n,Lib.bytesWorld w 5 s=W at*;generalize grownCap w n 0 5=cap,hg:w.heap.size=g at*;have v:(w.heap.size<=g):=A;go_in;go_wp2;go_loopw [4] (λb wr=>∃i:N,i<=n/\b=I Q i/\(Kg wr g<|ID l i)/\(Am w wr)) λb _=>n-(intOf b).toNat
 .exact ⟨0,A,rfl,HR,HO⟩
 obtain⟨i,_,rfl,HR,HO⟩:=hrel;by_cases R:i<n
 .have e:(i:Z)<n:=A;have o:i<l.length:=by have:=j;omega
  have a:i<(ID l i).length:=by rw[LV];exact o
  have D:=HR.cell i a;have L:=HR.thaw i a;rw[KB l i o a] at D;have L:(l[i]).toNat<256:=(l[i]).toNat_lt;have f:=UT l i o;have d:(Iq l[i]=if Om (l[i]).toNat then b8 ((l[i]).toNat+32) else l[i]):=rfl;have y:=KB l i o a;cases b:Om (l[i]).toNat with
  |true=>
   rw[b] at d;simp only[acz] at d;have y:65<=(l[i]).toNat/\(l[i]).toNat<=90:=by simpa [Om] using b
   have x:=HR.set i<|b8 ((l[i]).toNat+32);rw[AN A] at x;rw[d] at f;rw[<-f] at x;have T:(Am w<|wr.setCell ⟨g,i,O⟩ (I .u8 (((l[i]).toNat+32:N):Z))):=HO.setCell (p:=⟨g,i,O⟩) (λh=>κ h<|by have:=v;show ¬g<_;omega) _;have v:((l[i]).toNat:Z)+32=(((l[i]).toNat+32:N):Z):=A;generalize(l[i]).toNat=c at*;have m:(65:Z)<=(c:Z):=A;have q:(c:Z)<=90:=A;generalize((c+32:N):Z)=c2 at*;exact aiY
  |false=>
   rw[b] at d;simp only[aaM,abE] at d;rw[d] at f;have x:(Kg wr g<|ID l (i+1)):=by
    rw[f];exact ahR
   have:¬(65<=(l[i]).toNat/\(l[i]).toNat<=90):=by simpa [Om] using b
   generalize(l[i]).toNat=c at*;by_cases m:(65:Z)<=(c:Z)
   .have q:¬(c:Z)<=90:=A;exact ahd
   exact ahd
 have:¬(i:Z)<n:=A;have t:i=n:=A;subst t;have:(convert 64 9<|K (J ⟨g,0,O⟩) i cap).run F wr=.ok (G z) wr:=by
  have h:=HR.back (cap:=cap);rw[LV,j,ZH l i j.symm] at h;rw[k];exact h
 exact aeF
def xc:Kh 149 Ip:=akw
def si:Kh 150 Cj:=akx
def zh:Kh 152 On:=by
 intro c w a;unfold On Ip Om;by_cases d:97<=c
 .have e:(97:Z)<=(c:Z):=A;by_cases f:c<=122
  .have a:(c:Z)<=122:=A;rw[Wy d,Wy f];go_in;exact aet
  have a:¬(c:Z)<=122:=A;have a:(65:Z)<=(c:Z):=A;have b:¬(c:Z)<=90:=A;rw[Wy d,Ww f,Wy (by omega:65<=c),Ww (by omega:¬c<=90)];go_in;exact aet
 have e:¬(97:Z)<=(c:Z):=A;rw[Ww d];by_cases d:65<=c
 .have a:(65:Z)<=(c:Z):=A;by_cases e:c<=90
  .have b:(c:Z)<=90:=A;rw[Wy d,Wy e];go_in;exact aet
  have:¬(c:Z)<=90:=A;rw[Wy d,Ww e];go_in;exact aet
 have:¬(65:Z)<=(c:Z):=A;rw[Ww d];go_in;exact aet
def Nh(e:Y):Y:=(Ax (AQ e) 46).getD 0 ⟨#[]⟩
def EU(s:Y)(c:N):0<(Ax s c).length:=by simp[Ax]
def jW(s:Y)(m:s.size<=100000)(w:U):μ F 229 #[G s] w λr w'=>r=ε (ζ<|Pu (Nh s))/\Am w w':=by
 have q:=H<|ou s A w;have m:=IQ s;have t:=H λb=>Jt (AQ s) 46 A b;have u:C<|Nh s=(Ax (AQ s) 46).getD 0 ⟨#[]⟩:=rfl;have h:=EU (AQ s) 46;have n:=Dm (AQ s) 46;rw[m] at n;obtain⟨J1,HD⟩:∃J1,C<|J1=Pu (Nh s):=⟨_,rfl⟩;rw[<-X HD];generalize Ax (AQ s) 46=L at*;generalize AQ s=y at*;generalize Nh s=z at*;go_in;go_wp2_with fail;refine q.mono ?_;rintro D P ⟨rfl,i⟩;have v:=H<|t P;have HO:=H i;clear i t q;go_wp2_with fail;refine v.mono ?_;rintro D _ ⟨_,rfl,j,l⟩;obtain⟨g,_,rfl,o,m,_⟩:=j.cell 0 h;have i:L[0]=z:=by rw[X u,Wq,Wv h];rfl
 rw[i] at o;have HO:=H<|HO.trans l;have:(0:Z)<(L.length:Z):=A;clear v l j i u m;by_cases h1:z=vK
 .have R:(z.toList==[99,111,110])=true:=by rw[Fw];exact Wy h1
  have d:J1=true:=by rw[X HD,h1];decide
  subst d;clear h1;exact aeF
 have:(z.toList==[99,111,110])=false:=by rw[Fw];exact Ww h1
 by_cases h2:z=vL
 .have S:(z.toList==[112,114,110])=true:=by rw[Fw];exact Wy h2
  have d:J1=true:=by rw[X HD,h2];decide
  subst d;clear h1 h2;exact aeF
 have:(z.toList==[112,114,110])=false:=by rw[Fw];exact Ww h2
 by_cases h3:z=vM
 .have T:(z.toList==[97,117,120])=true:=by rw[Fw];exact Wy h3
  have d:J1=true:=by rw[X HD,h3];decide
  subst d;clear h1 h2 h3;exact aeF
 have:(z.toList==[97,117,120])=false:=by rw[Fw];exact Ww h3
 by_cases h4:z=vN
 .have f4:(z.toList==[110,117,108])=true:=by rw[Fw];exact Wy h4
  have d:J1=true:=by rw[X HD,h4];decide
  subst d;clear h1 h2 h3 h4;exact aeF
 have:(z.toList==[110,117,108])=false:=by rw[Fw];exact Ww h4
 by_cases hz:z.size=4
 .have p:(z.size:Z)=4:=A;have:∀b,(Instr.slice 9 (G z) O (J<|I Q 3) O).run F b=.ok (G<|z.extract 0 3) b:=λb=>aaN b 9 z underlying9 .i64 3 A A
  have h:3<z.size:=A;have:=AA (s:=z) (k:=3) h;have:=Bj z 3;have e:C<|J1=((Γ (z.extract 0 3=nO)||decide (z.extract 0 3=nP))&&Cj (As z 3)&& !Γ (As z 3=48)):=aiS;clear HD h1 h2 h3 h4 hz;generalize z.extract 0 3=x at*;generalize As z 3=c at*;by_cases b:x=nO
  .have h:(x.toList==[99,111,109])=true:=by rw[Fw];exact Wy b
   have a:C<|J1=(Cj c&& !Γ (c=48)):=by unfold C;rw[X e,Wy b];simp only[Bool.true_or,aas]
   clear e b;exact akt
  have h:(x.toList==[99,111,109])=false:=by rw[Fw];exact Ww b
  by_cases f:x=nP
  .have h:(x.toList==[108,112,116])=true:=by rw[Fw];exact Wy f
   have a:C<|J1=(Cj c&& !Γ (c=48)):=by unfold C;rw[X e,Wy f];simp only[Bool.or_true,aas]
   clear e b f;exact akt
  have h:(x.toList==[108,112,116])=false:=by rw[Fw];exact Ww f
  have d:J1=false:=by rw[X e,Ww b,Ww f];rfl
  subst d;clear b f e;exact aeF
 have p:¬(z.size:Z)=4:=A;have d:J1=false:=ajv;subst d;clear h1 h2 h3 h4 HD hz;exact aeF
abbrev XB:Y:=⟨#[33,35,36,37,38,40,41,43,44,45,46,61,64,91,93,94,95,123,125,126,32]⟩
def LZ(c:N):Bool:=On c||Cj c||NB XB c
def Gn(e:Y):Bool:= !Γ (e.size=0)&& !Γ (As e (e.size-1)=46)&& !Γ (As e (e.size-1)=32)&&(List.range e.size).all (λi=>LZ<|As e i)&& !Pu (Nh e)
def ov(s:Y)(g:s.size<=100000)(w:U):μ F 166 #[G s] w λr w'=>r=ε (ζ<|Gn s)/\Am w w':=by
 have l:=Fw s [];have L:=H λb=>jW s g b;by_cases p:s.size=0
 .have g:s=⟨#[]⟩:=by
   obtain⟨d⟩:=s;have:=abv p;rw[this]
  have b:Gn s=false:=by rw[Gn,Wy p];rfl
  rw[b];rw[Wy g] at l;go_in;exact afb
 have g:s≠⟨#[]⟩:=λh=>p<|by rw[h];rfl
 rw[Ww g] at l;have g:s.size-1<s.size:=A;have l:(s.size:Z)-1=((s.size-1:N):Z):=A;have q:=AA (s:=s) (k:=s.size-1) g;by_cases g:As s (s.size-1)=46
 .have b:Gn s=false:=by rw[Gn,Wy g];simp
  rw[b];rw[g] at q;go_in;exact afb
 by_cases l:As s (s.size-1)=32
 .have b:Gn s=false:=by rw[Gn,Wy l];simp
  rw[b];rw[l] at q;go_in;exact afb
 have t:((As s (s.size-1):Z)==46)=false:=act
 have:((As s (s.size-1):Z)==32)=false:=act
 have u:C (Gn s=((List.range s.size).all (λi=>LZ<|As s i)&& !Pu (Nh s))):=by
  unfold C;rw[Gn,Ww p,Ww g,Ww l];simp
 generalize Gn s=J1,hc0:As s (s.size-1)=c0 at*;go_in;go_wp2_with fail;go_loop [3,4] (λx _=>∃i:N,i<=s.size/\x=I Q i/\C (∀j,j<i->LZ (As s j)=θ)) λx _=>s.size-(intOf x).toNat
 .exact ajD
 obtain⟨i,_,rfl,v⟩:=hrel;by_cases g:i<s.size
 .have n:(i:Z)<s.size:=A;have:=AA (s:=s) (k:=i) g;have l:=Bj s i;have m:=H λf=>zh (As s i) f l;have o:=H λf=>si (As s i) f l;have x:=H λf=>sg XB (As s i) Ac f;have f:C<|LZ (As s i)=(On (As s i)||Cj (As s i)||NB XB (As s i)):=rfl;have a:C (LZ (As s i)=θ-> ∀j,j<i+1->LZ (As s j)=θ):=λh j y=>by
   by_cases e:j=i
   .rw[e];exact h
   exact v j A
  have P:C<|LZ (As s i)=ι->J1=ι:=λh=>by
   rw[X u,aaR.2 ⟨i,wh.2 g,by rw[h];decide⟩];rfl
  generalize LZ (As s i)=fr,As s i=c at*;generalize NB XB c=b3 at*;cases z:On c with
  |true=>
   rw[z] at m f;have a:=H (a<|by rw[X f];rfl);go_wp2_with fail;apply(m _).mono;exact akO
  |false=>
   rw[z] at m f;cases D:Cj c with
   |true=>
    rw[D] at o f;have a:=H (a<|by rw[X f];rfl);go_wp2_with fail;apply(m _).mono;rintro e w1 ⟨rfl,rfl⟩;go_wp2_with fail;apply(o _).mono;exact akO
   |false=>
    rw[D] at o f;cases b3 with
    |true=>
     have a:=H (a<|by rw[X f];rfl);go_wp2_with fail;apply(m _).mono;rintro e w1 ⟨rfl,rfl⟩;go_wp2_with fail;apply(o _).mono;rintro e w1 ⟨rfl,rfl⟩;go_wp2_with fail;apply(x _).mono;exact akO
    |false=>
     have b:=P (by rw[X f];rfl);subst b;go_wp2_with fail;apply(m _).mono;rintro e w1 ⟨rfl,rfl⟩;go_wp2_with fail;apply(o _).mono;rintro e w1 ⟨rfl,rfl⟩;go_wp2_with fail;apply(x _).mono;rintro e w1 ⟨rfl,rfl⟩;exact afb
 have:¬(i:Z)<s.size:=A;have HA:C<|J1= !Pu (Nh s):=by
  unfold C;rw[X u,wC.2 λj y=>v j<|by have:=wh.1 y;omega];rfl
 generalize Pu (Nh s)=d at*;go_wp2_with fail;apply(L _).mono;rintro e w1 ⟨rfl,y⟩;have HO:=H y;exact afO
def sj(h:x∈(Ig s c i).1):x.size<=s.size:=by
 induction i with
 |zero=>cases h
 |succ i a=>
  rw[Ig] at h;split at h
  .rcases WY.1 h with h|h
   .exact a h
   rw[WN] at h;rw[h];exact Gl _ _ _
  exact a h
def EV(h:x∈Ax s c):x.size<=s.size:=by
 rcases WY.1 h with h|h
 .exact sj h
 rw[WN] at h;rw[h];exact Gl _ _ _
def Ma(s:Y):Bool:=Γ (s.size<=80)&&(Ax s 47).all Gn
def PA(s:Y)(S:s.size<=2000000)(w:U):μ F 97 #[G s] w λr w'=>r=ε (ζ<|Ma s)/\Am w w':=by
 by_cases f:s.size<=80
 .have k:¬(80:Z)<(s.size:Z):=A;have y:C<|Ma s=(Ax s 47).all Gn:=by unfold C;rw[Ma,Wy f];rfl
  have D:=H<|Jt s 47 S w;have HM:C (∀x∈Ax s 47,x.size<=100000):=λx hx=>by have:=EV hx;omega
  have:=Dm s 47;generalize Ma s=J1 at*;generalize Ax s 47=L at*;go_in;go_wp2_with fail;refine D.mono ?_;rintro e w1 ⟨_,rfl,l,P⟩;have o:=H l;have HO:=H P;obtain⟨ao,p,q,_,_⟩:=l;subst q;clear P D;go_wp2;go_loopw [4,5] (λx _ wr=>∃i:N,i<=L.length/\x=I Q i/\C (Fx w wr (K ao L.length p) L)/\C (Am w wr)/\C (∀j (h:j<L.length),j<i->Gn L[j]=θ)) λx _ _=>L.length-(intOf x).toNat
  .exact ⟨0,A,rfl,o,HO,λj _ h=>A⟩
  obtain⟨i,_,rfl,o,HO,HT⟩:=hrel;by_cases c:i<L.length
  .have m:(i:Z)<L.length:=A;obtain⟨g,_,q,_,_⟩:=o.cell i c;injection q with t _ u;subst t u;have R:=H λa=>ov L[i] (HM _<|WJ c) a;have n:C (Gn L[i]=θ-> ∀j (h:j<L.length),j<i+1->Gn L[j]=θ):=λh j hj _=>agX
   have HN:C<|Gn L[i]=ι->J1=ι:=λh=>by
    rw[X y];exact aaR.2 ⟨L[i],WJ c,by rw[h];decide⟩
   generalize Gn L[i]=b at*;generalize L[i]=z at*;cases b with
   |true=>
    have v:=H<|n rfl;clear n;go_wp2_with fail;refine(R _).mono ?_;rintro e w2 ⟨rfl,a⟩;have c:=H<|o.old a;have T:=H<|HO.trans a;clear a;go_wp2;go_roundw
    .exact ⟨i+1,A,by go_num,c,T,v⟩
    exact Ae
   |false=>
    have d:=HN rfl;subst d;go_wp2_with fail;refine(R _).mono ?_;rintro e w2 ⟨rfl,a⟩;have T:=H<|HO.trans a;clear a;exact aga
  have:¬(i:Z)<L.length:=A;have d:J1=true:=by
   rw[X y,wC];exact afM
  subst d;exact aeV
 have:(80:Z)<(s.size:Z):=A;have d:Ma s=false:=by rw[Ma,Ww f];rfl
 exact akP
def ZR(s:Y):Bool:=((Ax s 47).take ((Ax s 47).length-1)).any FT
def sl(s:Y)(u:s.size<=2000000)(w:U):μ F 141 #[G s] w λr w'=>r=ε (ζ<|ZR s)/\Am w w':=by
 have t:C<|ZR s=((Ax s 47).take ((Ax s 47).length-1)).any FT:=rfl;have v:=H<|Jt s 47 u w;have:=Dm s 47;have:=EU s 47;generalize ZR s=J1,Ax s 47=L at*;go_in;go_wp2_with fail;apply v.mono;rintro e w1 ⟨_,rfl,b,u⟩;have y:=H b;have HO:=H u;obtain⟨_,_,n,_,_⟩:=b;subst n;go_wp2_with fail;go_loop [4] (λx=>∃i:N,i<=L.length-1/\x=I Q i/\C (∀j (h:j<L.length),j<i->FT L[j]=ι)) λx=>L.length-1-(intOf x).toNat
 .exact agc
 obtain⟨i,_,rfl,HT⟩:=hrel;by_cases D:i+1<L.length
 .have c:(i:Z)+1<(L.length:Z):=A;have b:i<L.length:=A;have:(i:Z)<L.length:=A;obtain⟨g,_,n,_,_⟩:=y.cell i b;injection n with o _ p;subst o p;have q:C (FT L[i]=ι-> ∀j (h:j<L.length),j<i+1->FT L[j]=ι):=λh j hj _=>agX
  have d:C<|FT L[i]=θ->J1=θ:=λh=>by
   rw[X t];exact wJ.2 ⟨L[i],aat.2 ⟨i,A,rfl⟩,h⟩
  generalize L[i]=z at*;by_cases f:z=nS
  .have P:(z.toList==[46,98,122,114])=true:=by rw[Fw];exact Wy f
   have a:=d (by rw[f];decide);subst a;exact aeV
  have:(z.toList==[46,98,122,114])=false:=by rw[Fw];exact Ww f
  by_cases k:z=nT
  .have R:(z.toList==[46,103,105,116])=true:=by rw[Fw];exact Wy k
   have a:=d (by rw[k];decide);subst a;exact aeV
  have:(z.toList==[46,103,105,116])=false:=by rw[Fw];exact Ww k
  by_cases l:z=zb
  .have S:(z.toList==[46,104,103])=true:=by rw[Fw];exact Wy l
   have a:=d (by rw[l];decide);subst a;exact aeV
  have:(z.toList==[46,104,103])=false:=by rw[Fw];exact Ww l
  by_cases m:z=nU
  .have T:(z.toList==[46,115,118,110])=true:=by rw[Fw];exact Wy m
   have a:=d (by rw[m];decide);subst a;exact aeV
  have:(z.toList==[46,115,118,110])=false:=by rw[Fw];exact Ww m
  have b:=H (q<|by rw[FT,Ww f,Ww k,Ww l,Ww m];rfl);go_wp2_with fail;go_round
  .exact ⟨i+1,A,by go_num,b⟩
  exact Ae
 have:¬(i:Z)+1<(L.length:Z):=A;have a:J1=false:=by
  rw[X t,aar];intro x hx;obtain⟨j,hj,rfl⟩:=aat.1 hx;rw[HT j A A]
  decide
 subst a;exact aeV
def IE(s t:Y):Bool:=Γ (t.size<=s.size)&&Γ (s.extract 0 t.size=t)
def XC(s t:Y)(w:U):μ F 158 #[G s,G t] w λr w'=>r=ε (ζ<|IE s t)/\w'=w:=by
 by_cases h:t.size<=s.size
 .have c:(t.size:Z)<=s.size:=A;have:∀a,(Instr.slice 9 (G s) O (J<|I Q (t.size:Z)) O).run F a=.ok (G<|s.extract 0 t.size) a:=λa=>aaN a 9 s underlying9 .i64 t.size A A
  have:((s.extract 0 t.size).toList==t.toList)=Γ (s.extract 0 t.size=t):=TG _ _;have a:IE s t=Γ (s.extract 0 t.size=t):=by rw[IE,Wy h];rfl
  rw[a];generalize Γ (s.extract 0 t.size=t)=b,s.extract 0 t.size=z at*;go_in;exact aet
 have:¬(t.size:Z)<=s.size:=A;have a:IE s t=false:=by rw[IE,Ww h];rfl
 rw[a];go_in;exact aet
def PB(s:Y)(n:N)(w:U):μ F 78 #[G s,I Q (n:Z)] w λr w'=>r=ε (ζ<|Γ (BE s<n))/\w'=w:=by
 have c:(s.toList==[103,111,46,109,111,100])=Γ (s=Fy):=Fw s _;have e:(s.toList==[76,73,67,69,78,83,69])=Γ (s=nR):=Fw s _;by_cases g:4000<n
 .have b:(4000:Z)<(n:Z):=A;have a:Γ (BE s<n)=true:=by rw[BE];split<;>exact Wy A
  rw[a];go_in;exact aet
 have b:¬(4000:Z)<(n:Z):=A;by_cases f:500<n
 .have d:(500:Z)<(n:Z):=A;by_cases b:s=Fy
  .have a:Γ (BE s<n)=true:=by rw[BE,Wz (.inl b)];exact Wy f
   rw[a];rw[Wy b] at c;go_in;exact aet
  rw[Ww b] at c;by_cases c:s=nR
  .have a:Γ (BE s<n)=true:=by rw[BE,Wz (.inr c)];exact Wy f
   rw[a];rw[Wy c] at e;go_in;exact aet
  have a:Γ (BE s<n)=false:=by rw[BE,Wx λh=>h.elim b c];exact Ww g
  rw[a];rw[Ww c] at e;go_in;exact aet
 have:¬(500:Z)<(n:Z):=A;have a:Γ (BE s<n)=false:=by rw[BE];split<;>exact Ww A
 rw[a];go_in;exact aet
def Mb(s:Y)(i:N):Bool:=IE (s.extract i s.size) Es
def JR(s:Y):Option N:=if IE s MP then J 7 else((List.range s.size).find?<|Mb s).map (· +8)
def QI(s:Y):Bool:=match JR s with
 |some p=>NB (s.extract p s.size) 47
 |none=>ι
def PC{p:N}(h:JR s=J p):QI s=NB (s.extract p s.size) 47:=by rw[QI,h]
def UZ(h:JR s=O):QI s=false:=by rw[QI,h]
def SF{n:N}{p:N->Bool}(a:i<n)(b:p i=θ)(c:∀j,j<i->p j=ι):(List.range n).find? p=J i:=by
 rw[List.find?_eq_some_iff_getElem];refine⟨b,i,by simpa using a,Ad,λj a=>?_⟩;simp[c j a]
def gC(h:IE s t=θ):t.size<=s.size:=by
 rw[IE,wo] at h;exact wn h.1
def jX(s:Y)(D:s.size<=2000000)(w:U):μ F 143 #[G s] w λr w'=>r=ε (ζ<|QI s)/\w'=w:=by
 have n:=H<|XC s MP w;have P:C<|IE s MP=θ->JR s=J 7/\7<=s.size:=λh=>⟨Wz h,gC h⟩
 have o:C<|IE s MP=ι->JR s=((List.range s.size).find?<|Mb s).map (· +8):=λh=>by rw[JR,h];rfl
 have L:C (∀p,JR s=J p->QI s=NB (s.extract p s.size) 47):=λp h=>PC h
 have T:C<|JR s=O->QI s=ι:=λh=>UZ h
 generalize QI s=J1 at*;cases c:IE s MP with
 |true=>
  rw[c] at n;obtain⟨h7,_⟩:=P c;have l:=H<|L 7 h7;have d:∀a,(Instr.slice 9 (G s) (J<|I Q ((7:N):Z)) O O).run F a=.ok (G<|s.extract 7 s.size) a:=λa=>aaz a 9 s underlying9 .i64 7 A A
  have P:∀a,(Instr.slice 9 (G s) (J<|I Q 7) O O).run F a=.ok (G<|s.extract 7 s.size) a:=d;have f:(s.extract 7 s.size).size<=2000000:=WI (Gl _ _ _) D;have k:=H λa=>sg (s.extract 7 s.size) 47 f a;rw[<-X l] at k;generalize s.extract 7 s.size=z at*;go_in;go_wp2_with fail;apply n.mono;rintro e w1 ⟨rfl,rfl⟩;go_wp2_with fail;go_loop [3,4] (λy x=>y=I Q 7/\x=I Q 0) λ_ _=>0
  .exact ⟨rfl,rfl⟩
  obtain⟨rfl,rfl⟩:=hrel;have R:(0:Z)<(s.size:Z):=A;go_wp2_with fail;apply(k _).mono;exact akr
 |false=>
  rw[c] at n;have o:=H<|o c;go_in;go_wp2_with fail;apply n.mono;rintro e w1 ⟨rfl,rfl⟩;go_wp2_with fail;go_loop [3,4] (λy x=>∃i:N,i<=s.size/\x=I Q i/\C ((y=I Q (-1)/\∀j,j<i->Mb s j=ι)\/ ∃p:N,y=I Q p/\p<=s.size/\JR s=J p)) λ_ x=>s.size-(intOf x).toNat
  .exact ⟨0,A,rfl,.inl ⟨rfl,λj h=>A⟩⟩
  obtain⟨i,_,rfl,HT⟩:=hrel;rcases X HT with⟨v,hT⟩|⟨p,v,_,x⟩
  .subst v;have g:=H hT;by_cases h:i<s.size
   .have b:(i:Z)<s.size:=A;have d:∀a,(Instr.slice 9 (G s) (J<|I Q (i:Z)) O O).run F a=.ok (G<|s.extract i s.size) a:=λa=>aaz a 9 s underlying9 .i64 i A A
    have q:=H λa=>XC (s.extract i s.size) Es a;cases t:Mb s i with
    |true=>
     have u:IE (s.extract i s.size) Es=true:=t;rw[u] at q;have h8:i+8<=s.size:=by have:=gC u;rw[WM] at this;have:Es.size=8:=rfl;omega
     have l:C<|JR s=J (i+8):=by
      unfold C;rw[X o,SF h t g];rfl
     generalize s.extract i s.size=z at*;go_wp2_with fail;apply(q _).mono;rintro e w2 ⟨rfl,rfl⟩;go_wp2_with fail;go_round
     .exact ⟨i+1,A,by go_num,.inr ⟨i+8,by go_num,h8,l⟩⟩
     exact Ae
    |false=>
     have u:IE (s.extract i s.size) Es=false:=t;rw[u] at q;have y:C (∀j,j<i+1->Mb s j=ι):=λj S=>by
      by_cases e:j=i
      .rw[e];exact t
      exact g j A
     generalize s.extract i s.size=z at*;go_wp2_with fail;apply(q _).mono;rintro e w2 ⟨rfl,rfl⟩;go_wp2_with fail;go_round
     .exact ⟨i+1,A,by go_num,.inl ⟨rfl,y⟩⟩
     exact Ae
   have b:¬(i:Z)<s.size:=A;have m:J1=false:=by
    refine X T ?_;rw[X o,List.find?_eq_none.2 λj S=>by rw[g j<|by have:=wh.1 S;omega];decide];rfl
   subst m;exact aet
  subst v;have l:=H<|L p x;have:∀a,(Instr.slice 9 (G s) (J<|I Q (p:Z)) O O).run F a=.ok (G<|s.extract p s.size) a:=λa=>aaz a 9 s underlying9 .i64 p A A
  have f:(s.extract p s.size).size<=2000000:=WI (Gl _ _ _) D;have k:=H λa=>sg (s.extract p s.size) 47 f a;rw[<-X l] at k;have:(0:Z)<=(p:Z):=A;have:¬(p:Z)<0:=A;generalize s.extract p s.size=z at*;by_cases h:i<s.size
  .have b:(i:Z)<s.size:=A;go_wp2_with fail;apply(k _).mono;exact akr
  have:¬(i:Z)<s.size:=A;go_wp2_with fail;apply(k _).mono;exact akr
def SG:∀i,(∀j,j<i->As s j≠c)->Ig s c i=([],0)
 |0,_=>rfl
 |i+1,h=>by rw[LY s c i<|h i A];exact SG i λj _=>h j A
def CM(h:∀j,j<s.size->As s j≠c):Ax s c=[s]:=by
 rw[Ax,SG _ h];simp
def Va(a:As s i=c)(h:∀j,j<i->As s j≠c)(b:∀n,i+1+n<s.size->As (s.extract (i+1) s.size) n=As s (i+1+n))(d:∀f n,i+1+n<=s.size->(s.extract (i+1) s.size).extract f n=s.extract (i+1+f) (i+1+n)):
 ∀n,i+1+n<=s.size->Ig s c (i+1+n)=(s.extract 0 i::(Ig (s.extract (i+1) s.size) c n).1,i+1+(Ig (s.extract (i+1) s.size) c n).2)
 |0,_=>by
  show Ig s c (i+1)=_;rw[Oo s c i a,SG i h];rfl
 |n+1,_=>by
  have e:=Va a h b d n A;have g:=b n A;by_cases a:As s (i+1+n)=c
  .rw[show i+1+(n+1)=i+1+n+1 by omega,Oo s c _ a,Oo _ c n<|g.trans a,e];simp only[abx,d _ n A]
   rfl
  rw[show i+1+(n+1)=i+1+n+1 by omega,LY s c _ a,LY _ c n (by rw[g];exact a),e]
def Lc(a:i<s.size)(g:As s i=c)(h:∀j,j<i->As s j≠c):Ax s c=s.extract 0 i::Ax (s.extract (i+1) s.size) c:=by
 have a:(s.extract (i+1) s.size).size=s.size-(i+1):=akS
 have b:∀f n,i+1+n<=s.size->(s.extract (i+1) s.size).extract f n=s.extract (i+1+f) (i+1+n):=λf n d=>by
  rw[ByteArray.extract_extract,abu d]
 have e:=Va g h (λn d=>De A<|WF _) b (s.size-(i+1)) A;rw[show i+1+(s.size-(i+1))=s.size by omega] at e;rw[Ax,Ax,e,a,b _ _ A];rw[show i+1+(s.size-(i+1))=s.size by omega]
 rfl
def EF{j:N}(h:j<s.size):s.data.toList[j]? =J (b8<|As s j)/\(b8<|As s j).toNat=As s j:=by
 have e:As s j=s[j].toNat:=by rw[As,abB h]
 have b:j<s.data.toList.length:=akW
 have a:b8 (As s j)=s[j]:=by rw[e];apply acA.1;rw[AN s[j].toNat_lt]
 refine⟨?_,by rw[a,e]⟩;rw[a,Wv b];rfl
def IW:∀(n:N) (s:Y),s.size<=n->Ax s 47=Bt s:=by
 intro n;induction n with
 |zero=>
  intro s f;rw[CM λj c=>A,Bt];rcases Lib.indexB_cases s ⟨#[47]⟩ with h|⟨i,h,g⟩
  .rw[Lib.splitB_miss _ _ _ _ h]
  have:(⟨#[47]⟩:Y).size=1:=rfl;omega
 |succ n k=>
  intro s f;have m:(⟨#[47]⟩:Y).size=1:=rfl;have b:Lib.indexB s ⟨#[47]⟩=Lib.indexByte s.data.toList 47:=Lib.index_one _ _;rcases Lib.indexB_cases s ⟨#[47]⟩ with h|⟨i,h,g⟩
  .rw[Bt,Lib.splitB_miss _ _ _ _ h];refine CM λj c e=>?_;have f:=Lib.indexByte_none (b ▸ h) j;rw[(EF c).1,e] at f;exact f rfl
  obtain⟨f,l⟩:=Lib.indexByte_some (b ▸ h);have a:i<s.size:=A;have d:As s i=47:=by
   have:=(EF a).1;rw[f] at this;injection this with this;rw[<-(EF a).2,<-this];rfl
  have b:∀j,j<i->As s j≠47:=λj c e=>by
   have:=l j c;rw[(EF A).1,e] at this;exact this rfl
  rw[Lc a d b,Bt,Lib.countB_hit s ⟨#[47]⟩ i Ac h,acb 1<|Lib.countB _ _,Lib.splitB_hit _ _ _ _ i h,k _ akS]
  rfl
def IX(s:Y)(u:υ):(Lib.indexB s ⟨#[u]⟩= -1/\∀j,j<s.size->As s j≠u.toNat)\/ ∃i:N,Lib.indexB s ⟨#[u]⟩=i/\i<s.size/\As s i=u.toNat/\∀j,j<i->As s j≠u.toNat:=by
 have f:(⟨#[u]⟩:Y).size=1:=rfl;have b:Lib.indexB s ⟨#[u]⟩=Lib.indexByte s.data.toList u:=Lib.index_one _ _;have d:=acA.1<|AN u.toNat_lt;rcases Lib.indexB_cases s ⟨#[u]⟩ with h|⟨i,h,_⟩
 .refine .inl ⟨h,λj c e=>?_⟩;have f:=Lib.indexByte_none (b ▸ h) j;rw[(EF c).1,e,d] at f;exact f rfl
 obtain⟨f,g⟩:=Lib.indexByte_some (b ▸ h);have a:i<s.size:=A;refine .inr ⟨i,h,a,?_,λj c e=>?_⟩
 .have:=(EF a).1;rw[f] at this;injection this with this;rw[<-(EF a).2,<-this]
 have:=g j c;rw[(EF A).1,e,d] at this;exact this rfl
def ow(e:Y):Nh e=Sy e:=by
 rw[Nh,Sy];generalize AQ e=s;rcases IX s 46 with⟨h,a⟩|⟨i,h,b,d,a⟩
 .rw[CM (c:=46) a];exact(Lib.cutB_miss s ⟨#[46]⟩ h).1.symm
 rw[Lc (c:=46) b d a];exact(Lib.cutB_hit s ⟨#[46]⟩ i h).1.symm
def jY:(List.range 256).all (λc=>LZ c==Jp c)=true:=B
def ox(h:c<256):LZ c=Jp c:=by
 have:=wC.1 jY c<|wh.2 h;simpa using this
def XD(h:s.size≠0)(u:υ):Lib.hasSuffix s.data.toList [u]=Γ (As s (s.size-1)=u.toNat):=by
 have b:=(EF (s:=s) (j:=s.size-1) A).1;have d:=(Lib.size_eq s).symm;by_cases e:As s (s.size-1)=u.toNat
 .rw[Wy e];have a:=acA.1<|AN u.toNat_lt;rw[e,a] at b;refine aaQ.2 ⟨s.data.toList.take<|s.size-1,?_⟩;have:=aau (s.size-1) s.data.toList;obtain⟨a,c⟩:=wW.1 b;rw[wN a,c,abY A] at this;exact this
 rw[Ww e];rw[abU];intro f;obtain⟨t,c⟩:=aaQ.1 f;have a:t.length=s.size-1:=by rw[<-d,<-c];simp
 rw[<-c,<-a] at b;simp at b;apply e;rw[<-a,<-(EF (s:=s) (j:=t.length) A).2,<-b]
def oy(e:Y):Gn e=LX e:=by
 have f:(List.range e.size).all (λi=>LZ<|As e i)=(List.range e.size).all (λi=>Jp<|As e i):=by
  congr 1;funext i;exact ox<|Bj e i
 rw[Gn,LX,Cq,dJ,ow,f];by_cases h:e.size=0
 .rw[Wy h,Ww (show ¬0<e.size by omega)];simp
 rw[XD h,XD h,Ww h,Wy (show 0<e.size by omega)];generalize(List.range e.size).all (λi=>Jp<|As e i)=a;generalize Pu (Sy e)=b;show(θ&& !Γ (As e (e.size-1)=46)&& !Γ (As e (e.size-1)=32)&&a&& !b)=(a&&θ&& !Γ (As e (e.size-1)=46)&& !Γ (As e (e.size-1)=32)&& !b);generalize Γ (As e (e.size-1)=46)=c;generalize Γ (As e (e.size-1)=32)=d;cases a<;>cases b<;>cases c<;>cases d<;>rfl
def SH(s:Y):Ma s=CE s:=by
 rw[Ma,CE,IW s.size s<|WF _];congr 2
 funext e
 exact oy e
def so(s:Y):ZR s=ZM s:=by rw[ZR,ZM,IW s.size s<|WF _]
def gE(s:Y):NB s 47=Γ (0<=Lib.indexByte s.data.toList 47):=by
 have a:Lib.indexB s ⟨#[47]⟩=Lib.indexByte s.data.toList 47:=Lib.index_one _ _;rcases IX s 47 with⟨h,b⟩|⟨_,h,d,e,b⟩
 .rw[XA (c:=47) b,<-a,h];rfl
 rw[SE (c:=47) d e,<-a,h];exact(Wy A).symm
def gG:Lib.hasPrefix s.data.toList t.data.toList=θ↔t.size<=s.size/\s.extract 0 t.size=t:=by
 have b:=(Lib.size_eq s).symm;have a:=(Lib.size_eq t).symm;refine abl.trans (List.prefix_iff_eq_take.trans ⟨λh=>⟨?_,?_⟩,λh=>?_⟩)
 .have:=hJ List.length h;rw[hY,b,a] at this;omega
 .rw[Lib.extract_eq,adE,adw,<-a,<-h]
 have b:=hJ (λx:Y=>x.data.toList) h.2;rw[Lib.extract_eq,adE,adw,<-a] at b;exact b.symm
def XE(s t:Y):IE s t=Lib.hasPrefix s.data.toList t.data.toList:=by
 rw[adb,gG,IE,wo,aae,aae]
def Mc(s:Y)(n:N):(⟨(s.data.toList.drop n).toArray⟩:Y)=s.extract n s.size:=by
 rw[Lib.extract_eq,wv<|by rw[aad,<-Lib.size_eq];exact WF _]
def PD(s:Y)(i:N):Mb s i=Lib.occAt s.data.toList Es.data.toList i:=by
 rw[Mb,XE,Lib.occAt,Lib.hasPrefix,<-Mc]
def sq(s:Y):QI s=ZN s:=by
 rw[ZN,dK];by_cases a:IE s MP=θ
 .rw[PC (show JR s=J 7 from Wz a),gE];rw[XE] at a;rw[Wz a,Lib.trimPrefix,Wz a,<-Mc];rfl
 have f:JR s=((List.range s.size).find?<|Mb s).map (· +8):=Wx a;rw[XE] at a;rw[Wx a];have e:=(Lib.size_eq s).symm;rcases Lib.index_spec s.data.toList Es.data.toList with⟨h,b⟩|⟨i,h,_,g,b⟩
 .have a:=Lib.cutB_miss s Es h;have c:JR s=none:=by
   rw[f,List.find?_eq_none.2 λj d=>by rw[PD,b j<|by rw[e];exact Nat.le_of_lt<|wh.1 d];decide];rfl
  rw[UZ c];show ι=((Lib.cut s.data.toList Es.data.toList).2.2&&_);rw[a.2.2];rfl
 have a:=Lib.cutB_hit s Es i h;have e:i<s.size:=by
  have:=Lib.index_room s.data.toList Es.data.toList A;have:Es.data.toList.length=8:=rfl;omega
 have c:JR s=J (i+8):=by
  rw[f,SF e (by rw[PD];exact g) λj d=>by rw[PD];exact b j d];rfl
 rw[PC c,gE];show _=((Lib.cut s.data.toList Es.data.toList).2.2&&Γ (0<=Lib.indexByte (⟨(Lib.cut s.data.toList Es.data.toList).2.1.toArray⟩:Y).data.toList 47));rw[a.2.2,a.2.1];rfl
def QJ(T:E BF)(s:Y):Bool:=(List.range s.size).any λi=>Γ (As s i=47)&&T.any λe=> !e.ln&&Γ (e.nm=s.extract 0 i++SB)
def PE(h:a.data.toList=b.data.toList):a=b:=aaj<|abf.1 h
def Oq(a b:Y):(a++b).data.toList=a.data.toList++b.data.toList:=Ad
def IY(s:Y)(i:N):(s.extract 0 i).data.toList=s.data.toList.take i:=by rw[Lib.extract_eq,adE,adw]
def Vb{e:BF}(h:e.nm.data.toList=p++SB.data.toList):(dM e).data.toList=p++[47]:=by
 show(Lib.trimSuffix e.nm.data.toList Fy.data.toList)=p++[47];have a:e.nm.data.toList=(p++[47])++Fy.data.toList:=by rw[h];simp
 have b:Lib.hasSuffix e.nm.data.toList Fy.data.toList=true:=aaQ.2 ⟨_,a.symm⟩;rw[Lib.trimSuffix,Wz b,a,Ws,acB,abn]
def xe{r:E υ}{u:υ}(h:s.data.toList=p++u::r):p.length<s.size/\As s p.length=u.toNat:=by
 have b:p.length<s.size:=by rw[Lib.size_eq,h];simp
 refine⟨b,?_⟩;have a:=EF b;rw[h] at a;simp at a;rw[<-a.2,<-a.1]
def ZS(h:i<s.size):s.data.toList=s.data.toList.take i++b8 (As s i)::s.data.toList.drop (i+1):=by
 obtain⟨a,b⟩:=wW.1 (EF h).1;rw[<-b,<-wN a,aau]
def sr(T:E BF)(s:Y):QJ T s=Ng (Ay T) s:=by
 rw[adb,QJ,Ng,wJ,wJ];constructor
 .rintro ⟨i,g,h⟩;rw[wo,aae,wJ] at h;obtain⟨d,e,a,h⟩:=h;rw[wo,aae] at h;have f:=wh.1 g;have b:e.nm.data.toList=s.data.toList.take i++SB.data.toList:=by rw[h.2,Oq,IY]
  have c:=ZS f;rw[d] at c;refine⟨dM e,wd.2 ⟨e,aaZ.2 ⟨a,?_⟩,rfl⟩,?_⟩
  .rw[dL,h.1,aas];exact aaQ.2 ⟨_,b.symm⟩
  rw[Vb b];refine abl.2 ⟨s.data.toList.drop<|i+1,?_⟩;rw[WG];exact c.symm
 rintro⟨_,j,h⟩;obtain⟨e,a,rfl⟩:=wd.1 j;obtain⟨a,c⟩:=aaZ.1 a;rw[dL,wo] at c;obtain⟨p,f⟩:=aaQ.1 c.2;have b:=f.symm;rw[Vb b] at h;obtain⟨_,f⟩:=abl.1 h;rw[WG] at f;obtain⟨g,d⟩:=xe f.symm;refine⟨p.length,wh.2 g,?_⟩;rw[wo,aae,wJ];refine⟨d,e,a,?_⟩;rw[wo,aae];refine⟨c.1,PE ?_⟩;rw[b,Oq,IY,<-f,abn]
def oz(T:E BF)(e:BF):N:=if e.ln then 1 else if ZR e.nm then 4 else if QJ T e.nm then 3 else if QI e.nm then 2 else if Ma e.nm then 0 else 5
def st(T:E BF)(e:BF):oz T e=Cg (Ay T) e:=by rw[oz,Cg,so,sr,sq,SH]
def dP:E Y->E Y->Bool
 |a::x,b::y=>if a=b then dP x y else Γ (AQ a=AQ b)
 |[],_=>θ
 |_::_,[]=>θ
def Lv(a b:Y):Bool:=dP (Ax a 47)<|Ax b 47
def NC(a:Y):Prop:= ∀j,j<a.size->As a j≠47
abbrev Hh:Y:=⟨#[47]⟩
def jn(a x:Y):Y:=a++(Hh++x)
def Gp(a x:Y):(jn a x).data.toList=a.data.toList++47::x.data.toList:=by rw[jn,Oq,Oq];rfl
def Or(a x:Y):(jn a x).size=a.size+1+x.size:=by rw[jn,WC,WC];show _+(1+_)=_;omega
def dQ{y:Y}(h:jn a x=jn a y):x=y:=by
 have:=hJ (λz:Y=>z.data.toList) h;simp only[Gp] at this;exact PE (List.cons.inj<|List.append_cancel_left this).2
def NC.mem(h:NC a):(47:υ)∉a.data.toList:=λb=>by
 obtain⟨j,d,e⟩:=wF b;have b:j<a.size:=by rw[Lib.size_eq];exact d
 have c:=EF b;rw[Wv d,e] at c;injection c.1 with d;exact h j b<|by rw[<-c.2,<-d];rfl
def Ju(s:Y):NC s\/ ∃a r,NC a/\s=jn a r:=by
 rcases IX s 47 with⟨_,b⟩|⟨i,_,e,c,b⟩
 .exact .inl b
 have c:As s i=47:=c;refine .inr ⟨s.extract 0 i,s.extract (i+1) s.size,λj f=>?_,PE ?_⟩
 .have d:j<i:=by rw[WM] at f;omega
  rw[De A A,WQ];exact b j d
 have:=ZS e;rw[c] at this;rw[Gp,IY,<-Mc];exact this
def oA(a x:Y):(∀j,j<a.size->As (jn a x) j=As a j)/\As (jn a x) a.size=47/\∀j,As (jn a x) (a.size+1+j)=As x j:=by
 refine⟨λj b=>Io b,?_,λj=>?_⟩
 .rw[jn,Dh<|WF _,abJ,Io (show 0<Hh.size by decide)];rfl
 rw[jn,Dh A,Dh (show Hh.size<=_ by show 1<=_;omega)];congr 1;show a.size+1+j-a.size-1=j;omega
def dR(a x:Y):(jn a x).extract 0 a.size=a/\(jn a x).extract (a.size+1) (jn a x).size=x/\∀j,j<=x.size->(jn a x).extract 0 (a.size+1+j)=jn a (x.extract 0 j):=by
 have b:=(Lib.size_eq a).symm;refine⟨PE ?_,PE ?_,λj _=>PE ?_⟩
 .rw[IY,Gp,<-b,abn]
 .rw[<-Mc,Gp];show List.drop (a.size+1) _=_;rw[<-b,List.drop_append];simp
 rw[IY,Gp,Gp,IY,<-b,List.take_append];rw[wv A,show a.data.toList.length+1+j-a.data.toList.length=j+1 by omega,List.take_succ_cons]
def KC(h:NC a)(x:Y):Ax (jn a x) 47=a::Ax x 47:=by
 obtain⟨d,b,_⟩:=oA a x;obtain⟨e,f,_⟩:=dR a x;have:=Lc (s:=jn a x) (c:=47) (i:=a.size) (by rw[Or];omega) b (λj b=>by rw[d j b];exact h j b);rw[e,f] at this;exact this
def PF:∀n,(∀j,j<n->As s j≠47)->Bf s n=[]
 |0,_=>rfl
 |n+1,h=>by rw[IR s n<|h n A];exact PF n λj _=>h j A
def dS(h:NC a):Ey a=[a]:=by rw[Ey,PF _ h];rfl
def gH(h:NC a)(x:Y):∀n,n<=x.size->Bf (jn a x) (a.size+1+n)=a::(Bf x n).map (jn a)
 |0,_=>by
  obtain⟨c,b,_⟩:=oA a x;show Bf (jn a x) (a.size+1)=_;rw[GY _ _ b,PF _ (λj b=>by rw[c j b];exact h j b),(dR a x).1];rfl
 |n+1,_=>by
  have c:=gH h x n A;have d:=(oA a x).2.2 n;rw[show a.size+1+(n+1)=a.size+1+n+1 by omega];by_cases b:As x n=47
  .rw[GY _ _<|d.trans b,GY _ _ b,c,(dR a x).2.2 n A];simp
  rw[IR _ _ (by rw[d];exact b),IR _ _ b,c]
def SI(h:NC a)(x:Y):Ey (jn a x)=a::(Ey x).map (jn a):=by
 rw[Ey,Or,gH h x x.size<|WF _,Ey,wV];rfl
def oB(s:Y):s∈Ey s:=by rw[Ey];simp
def Rj{u:υ}:Iq u=47↔u=47:=by
 constructor
 .intro h;unfold Iq at h;split at h
  .rename_i a;have b:65<=u.toNat/\u.toNat<=90:=by simpa [Om] using a
   have:=hJ UInt8.toNat h;rw[AN A] at this;have e:(47:υ).toNat=47:=rfl;omega
  exact h
 rintro rfl;rfl
def SJ:∀(a a' x b :E υ),(47:υ)∉a->(47:υ)∉a'->((a++47::x).map Iq=(a'++47::b).map Iq↔a.map Iq=a'.map Iq/\x.map Iq=b.map Iq)
 |[],[],x,b,_,_=>by simp
 |[],c::a',x,b,_,d =>by
  have f:Iq 47≠Iq c:=λe=>d<|by rw[Rj.1<|e.symm.trans rfl];simp
  simp[f]
 |c::a,[],x,b,h,_=>by
  have f:Iq c≠Iq 47:=λe=>h<|by rw[Rj.1<|e.trans rfl];simp
  simp[f]
 |c::a,g ::a',x,b,h,d =>by
  have f:=SJ a a' x b (λe=>h<|wQ _ e) λe=>d<|wQ _ e;rw[abx,abx,aai,aai,aai,aai,aed,aed,f,and_assoc]
def Ot:AQ a=AQ b↔a.data.toList.map Iq=b.data.toList.map Iq:=by
 constructor
 .intro h;have:=hJ (λz:Y=>z.data.toList) h;exact this
 intro h;rw[AQ,AQ,h]
def dT{a':Y}(h:NC a)(c :NC a')(x b :Y):AQ (jn a x)=AQ (jn a' b)↔AQ a=AQ a'/\AQ x=AQ b :=by
 rw[Ot,Ot,Ot,Gp,Gp];exact SJ _ _ _ _ h.mem c.mem
def ND(h:NC a)(a' x:Y):AQ a≠AQ (jn a' x):=λe=>by
 rw[Ot,Gp] at e;have:(47:υ)∈a.data.toList.map Iq:=by rw[e];simp;exact .inr (.inl (Rj.2 rfl).symm)
 obtain⟨_,b,c⟩:=wd.1 this;exact h.mem (Rj.1 c ▸ b)
def uc(h:NC a)(a' x:Y):a≠jn a' x:=λe=>ND h a' x<|by rw[<-e]
def gI(n s:Y):Prop:= ∃b',b' ∈Ey n/\∃b,b∈Ey s/\AQ b'=AQ b/\(b' ≠b\/b'=n\/b=s)
def oC{n:Y}(f:NC n)(s:Y):Lv n s=θ↔gI n s:=by
 rw[Lv,CM f,gI,dS f];rcases Ju s with hs|⟨b,_,d,rfl⟩
 .rw[CM hs,dP,dS hs];constructor
  .intro h;have a:AQ n=AQ s:=by
    by_cases e:n=s
    .rw[e]
    rw[Wx e] at h;exact wn h
   exact⟨n,Ad,s,Ad,a,.inr (.inl rfl)⟩
  rintro⟨g,c,b,d,a,_⟩;rw[WN] at d c;subst d c;by_cases e:g =b
  .rw[Wz e];rfl
  rw[Wx e];exact Wy a
 rw[KC d,dP,SI d];constructor
 .intro h;have a:AQ n=AQ b:=by
   by_cases e:n=b
   .rw[e]
   rw[Wx e] at h;exact wn h
  exact⟨n,Ad,b,Ad,a,.inr (.inl rfl)⟩
 rintro⟨g,c,y,hy,a,_⟩;rw[WN] at c;subst c;rcases wD.1 hy with rfl|hy
 .by_cases e:g =y
  .rw[Wz e];rfl
  rw[Wx e];exact Wy a
 obtain⟨_,_,rfl⟩:=wd.1 hy;exact κ a<|ND f _ _
def Ou:∀(k:N) (n s:Y),n.size<=k->(Lv n s=θ↔gI n s):=by
 intro k;induction k with
 |zero=>
  intro n s p;have j:NC n:=λ_ _=>akX
  exact oC j s
 |succ k i=>
  intro n s p;rcases Ju n with j|⟨a,q,c,rfl⟩
  .exact oC j s
  rcases Ju s with hs|⟨b,t,g,rfl⟩
  .rw[Lv,KC c,CM hs,dP,gI,dS hs];have u:dP (Ax q 47) []=true:=by cases Ax q 47<;>rfl
   constructor
   .intro h;have d:AQ a=AQ s:=by
     by_cases f:a=s
     .rw[f]
     rw[Wx f] at h;exact wn h
    exact⟨a,by rw[SI c];simp,s,Ad,d,.inr (.inr rfl)⟩
   rintro⟨v,hb',b,g,d,_⟩;rw[WN] at g;subst g;rw[SI c,wD] at hb';rcases hb' with rfl|hb'
   .by_cases f:v =b
    .rw[Wz f,u]
    rw[Wx f];exact Wy d
   obtain⟨y,_,rfl⟩:=wd.1 hb';exact κ d.symm<|ND hs _ _
  rw[Lv,KC c,KC g,dP,gI,SI c,SI g];have i:=i q t (by rw[Or] at p;omega);constructor
  .intro h;by_cases f:a=b
   .subst f;rw[Wz rfl] at h;obtain⟨x,hx,y,R,d,hd⟩:=i.1 h;refine⟨jn a x,wQ _<|wd.2 ⟨x,hx,rfl⟩,jn a y,wQ _<|wd.2 ⟨y,R,rfl⟩,(dT c c _ _).2 ⟨rfl,d⟩,?_⟩;rcases hd with hd|hd|hd
    .exact .inl λf=>hd<|dQ f
    .exact .inr (.inl<|by rw[hd])
    exact .inr (.inr<|by rw[hd])
   rw[Wx f] at h;exact⟨a,Ad,b,Ad,wn h,.inl f⟩
  rintro⟨x,hx,y,R,d,hd⟩;have l:AQ a=AQ b:=by
   rcases wD.1 hx with rfl|hx
   .rcases wD.1 R with rfl|R
    .exact d
    exact ajz
   obtain⟨r,_,rfl⟩:=wd.1 hx;rcases wD.1 R with rfl|R
   .exact κ d.symm<|ND g _ _
   obtain⟨e,_,rfl⟩:=wd.1 R;exact((dT c g _ _).1 d).1
  by_cases f:a=b
  .subst f;rw[Wz rfl];refine i.2 ?_;rcases wD.1 hx with rfl|hx
   .rcases wD.1 R with rfl|R
    .rcases hd with hd|hd|hd
     .exact κ rfl hd
     .exact κ hd<|uc c _ _
     exact κ hd<|uc c _ _
    exact ajz
   obtain⟨r,m,rfl⟩:=wd.1 hx;rcases wD.1 R with rfl|R
   .exact κ d.symm<|ND c _ _
   obtain⟨e,o,rfl⟩:=wd.1 R;refine⟨r,m,e,o,((dT c g _ _).1 d).2,?_⟩;rcases hd with hd|hd|hd
   .exact .inl λf=>hd<|by rw[f]
   .exact .inr (.inl<|dQ hd)
   exact .inr (.inr<|dQ hd)
  rw[Wx f];exact Wy l
