import Derived.Test.YtfpphfkcaplafaaGreatDoorZag
set_option linter.all false
set_option maxHeartbeats 64000000
set_option maxRecDepth 100000
open _root_ renaming Option.some->J,Option.none->O,Int->Z,Nat->N,Go.Value.int->I,Go.Value.string->G,Go.IntKind.i64->Q,ByteArray->Y,List->E,Go.World->U,Go.Value.slice->K,Go.Value->M,Go.Obj.cells->W,Go.Value.pointer->V,Go.RowKit.Hid->C,Go.Proofs.Tryz.prog->F,Go.Ending.returned->ε,Go.Value.tuple->η,absurd->κ,Go.Calls->μ,Go.TypeId->ν,Go.IntKind.u32->σ,UInt8->υ,Array->φ
variable{s:Y}{a b c cap cap2 g j k m n r:N}{bs l:E υ}{w w' w1 w2 wr:U}{S T:N->Prop}{L:E N}{e:ν}{x:N×N}{d:M}
namespace Go.Proofs.YtfpphfkcaplafaaGreatDoor
open Go.RowKit Go.Proofs.Tryz
def rE(h:8*s.size<Ck a+32):Iz s a l=.inr 2:=by unfold Iz;rw[Wz h]
def nj(b:Ar s (Ck a) 16=n)(c:Ar s (Ck a+16) 16=m)(h:n+m≠65535):Iz s a l=.inr 2:=by
 unfold Iz;rw[b,c,Wz h];split<;>rfl
def jA(h0:Ck a+32<=8*s.size)(b:Ar s (Ck a) 16=n)(c:Ar s (Ck a+16) 16=m)(h:n+m=65535)(d:20000<l.length+n):Iz s a l=.inr 1:=by
 unfold Iz;rw[b,c,Wx A,Wx A,Wz d]
def rF(h0:Ck a+32<=8*s.size)(b:Ar s (Ck a) 16=n)(c:Ar s (Ck a+16) 16=m)(h:n+m=65535)(d:¬20000<l.length+n)(e:8*s.size<Ck a+32+8*n):Iz s a l=.inr 2:=by
 unfold Iz;rw[b,c,Wx A,Wx A,Wx d,Wz e]
def rG(h0:Ck a+32<=8*s.size)(b:Ar s (Ck a) 16=n)(c:Ar s (Ck a+16) 16=m)(h:n+m=65535)(d:¬20000<l.length+n)(e:¬8*s.size<Ck a+32+8*n):
 Iz s a l=.inl ((Ck a+32+8*n),(l++LA s (Ck a/8+4) n)):=by
 unfold Iz;rw[b,c,Wx A,Wx A,Wx d,Wx e]
def rH(s:Y)(q n:N)(h:q+n<=s.size):(s.extract q<|q+n).size=n/\strCells (s.extract q<|q+n)=Al (LA s q n):=by
 have a:(s.extract q<|q+n).size=n:=akS
 refine⟨a,?_⟩;apply List.ext_getElem
 .rw[Ed,a];simp[Al,LA]
 intro _ b c;rw[Ed,a] at b;have:s.data.size=s.size:=rfl;simp[strCells,Al,LA,As,ByteArray.data_extract];rw[abB A,AN<|GN _]
 rfl
def NO.pushes{w3:U}(i:S g){ao ao2:Option Addr}{H:N}(r:S H)
 (q:∀b:Addr,ao=J b->S b.block)(j:Ag S w w1)(c:Up w1 g s a<|K ao l.length cap)(k:w1.ownsRow 0 5 1 (K ao l.length cap) l.length<|Al l)
 (m:w3.ownsRow 0 5 1 (K ao2 (l.length+bs.length) cap2) (l.length+bs.length)<|Al l++Al bs)(f:w1.grownBy w3 (Value.slice ao l.length cap).ownBlock)(n:∀b:Addr,ao2=J b->(Value.slice ao l.length cap).ownBlock=J b.block\/b.block=H):
 Up w3 g s a (K ao l.length cap)/\Ag S w (w3.setCell ⟨g,2,O⟩<|K ao2 (l.length+bs.length) cap2)/\NO (w3.setCell ⟨g,2,O⟩<|K ao2 (l.length+bs.length) cap2) g S s a (l++bs):=by
 have d:Up w3 g s a<|K ao l.length cap:=(f.block g c.lt λh=>KX k h.symm c rfl).trans c;have o:Ag S w w3:=j.grown f (λ_ _ h=>by
  cases ao with
  |none=>cases h
  |some b=>injection h with h;subst h;exact q b rfl)
 have e:(l++bs).length=l.length+bs.length:=Ws;refine⟨d,o.setCell (p:=⟨g,2,O⟩) (λ_=>i) _,ao2,cap2,?_,?_,?_⟩
 .rw[e];exact d.set2 _
 .have e2:Al (l++bs)=Al l++Al bs:=by simp only[Al,wV]
  exact ajl
 intro b hb;rcases n b hb with h5|h5
 .cases ao with
  |none=>cases h5
  |some t =>injection h5 with h5;rw[<-h5];exact q t rfl
 rw[h5];exact r
def ve(g:N)(S:N->Prop)(o:S g)(s:Y)(T:s.size<=140737488355328)(a:N)(l:E υ)(hl:l.length<=20000)(ha:a<=8*s.size)(w:U)(hF:BI S w)(h:NO w g S s a l):
 μ F 192 #[V<|J ⟨g,0,O⟩] w λr w'=>Ag S w w'/\∃e:N,r=ε (I Q e)/\ry s (Iz s a l) w' g S e:=by
 obtain⟨i0,a9,b0,b3,b4⟩:=wi Ij;obtain⟨i,j,hr,b5,b6⟩:=h;have b7:=yI g s T a (K i l.length j) ha w hr;have hp:=fG ha;have d1:=(Ra a).2.2;have HR:=hr;have a0:=b5;have b9:=b6;have a1:=λh=>rE (s:=s) (a:=a) (l:=l) h
 have c0:=λn m k c h=>nj (s:=s) (a:=a) (l:=l) (n:=n) (m:=m) k c h
 have c1:=λn m h0 k c h d=>jA (s:=s) (a:=a) (l:=l) (n:=n) (m:=m) h0 k c h d
 have c3:=λn m h0 k c h d f=>rF (s:=s) (a:=a) (l:=l) (n:=n) (m:=m) h0 k c h d f
 have c4:=λn m h0 k c h d f=>rG (s:=s) (a:=a) (l:=l) (n:=n) (m:=m) h0 k c h d f
 generalize Ck a=p,Iz s a l=R at*;go_in;go_wp2_with fail;apply b7.mono;rintro r w1 ⟨rfl,a2,h⟩;have b5:=h;have h:=Gf g s T p (K i l.length j) 16 A hp w1 a2;go_wp2_with fail;apply h.mono;rintro r w2 ⟨h,y⟩;have a3:=b5.trans h;rcases y with⟨a4,rfl,q⟩|⟨a4,rfl,q⟩
 .have h:=Gf g s T (p+16) (K i l.length j) 16 A a4 w2 q;go_wp2_with fail;apply h.mono;rintro r w3 ⟨h,y⟩;have J3:=a3.trans h;rcases y with⟨c5,rfl,t⟩|⟨c5,rfl,t⟩
  .have b1:Ar s p 16<65536:=Cv s p 16;have h:Ar s (p+16) 16<65536:=Cv s (p+16) 16;generalize k:Ar s p 16=n,c:Ar s (p+16) 16=m at*;have c6:=c0 n m rfl rfl;have k:=c1 n m A rfl rfl;have c7:=c3 n m A rfl rfl;have c8:=c4 n m A rfl rfl;have h:=t;by_cases ht:n+m=65535
   .have c9:((m:Z)==65535-(n:Z))=true:=akZ;have q:(m:Z)=65535-(n:Z):=A;have c:=mw g s (p+16+16) i l.length j n hl w3 h;have q:p+16+16=8*(p/8+4):=A;have a5:(Up w3 g s (8*(p/8+4))<|K i l.length j):=by have:=h;rw[q] at this;exact this
    by_cases d:20000<l.length+n
    .rw[Ww (show ¬l.length+n<=20000 by omega)] at c;have HB:=k ht d;go_wp2_with fail;apply c.mono;rintro r w4 ⟨rfl,rfl⟩;go_wp2;go_ret;exact⟨J3.of_g o,1,rfl,.inr ⟨HB,A⟩⟩
    rw[Wy (show l.length+n<=20000 by omega)] at c;by_cases u:8*s.size<p+32+8*n
    .have z:=cn g s T (p/8+4) (K i l.length j) n A A A w3 a5;have HB:=c7 ht d u;go_wp2_with fail;apply c.mono;rintro r w4 ⟨rfl,rfl⟩;go_wp2_with fail;apply z.mono;rintro r w5 ⟨rfl,rfl⟩;exact ahh
    have z:=iQ g s T (p/8+4) (K i l.length j) n A w3 a5;have HB:=c8 ht d u;go_wp2_with fail;apply c.mono;rintro r w4 ⟨rfl,rfl⟩;go_wp2_with fail;apply z.mono;rintro r w5 ⟨rfl,f,c⟩;have D:=J3.trans c;have a6:=f;have d:=f.c2;have c:=f.thaw 2;have v:=CJ a0 D λb c=>KX a0 c HR;obtain⟨L,a7⟩:=rH s (p/8+4) n A;have d0:=(hF _<|by have:=D.size;omega);generalize s.extract (p/8+4) (p/8+4+n)=x at L a7 ⊢;have P:=Yj s (p/8+4) n;have q:=λd f c=>NO.pushes (w:=w) (w1:=w5) (w3:=d) (ao2:=f) (cap2:=c) (bs:=LA s (p/8+4) n) o d0 b9 (D.of_g o) a6 v
    go_wp2_with (at_builtin;refine Cn rfl (.tmp 53) (.tmp 54) 64 9 rfl 0 5 i0 (I .u8 0) underlying64 underlying9 a9 b0 b3 b4 rfl (K i l.length j) l.length _ rfl v x rfl (by unfold maxLen;omega) A A ?_;intro t i u f j k;rw[L,a7] at f;rw[L];obtain⟨c,h,d⟩:=q u t i (by rw[P];exact f) j k;rw[P] at h d;have i:=c.c2;have:=c.thaw 2;have i:=h;have a8:=d;clear f j k c h d);go_ret;exact⟨i,0,rfl,.inl ⟨_,_,HB,rfl,A,by rw[Ws,P];omega,by rw[show p+32+8*n=8*(p/8+4)+8*n by omega];exact a8⟩⟩
   have:((m:Z)==65535-(n:Z))=false:=act
   have HB:=c6 ht;exact ahh
  have HB:=a1 A;exact ahh
 have HB:=a1 A;go_wp2;go_ret;exact⟨a3.of_g o,2,rfl,.inr ⟨HB,A⟩⟩
open Go.RowKit Go.Maps Go.Proofs.Tryz
def yR(s:Y)(a:N):Ar s a 3=Ar s a 1+Ar s (a+1) 2*2:=by
 rw[show(3:N)=1+2 from rfl,OT]
def jB(h:8*s.size<a+3):EI s a l=.inr 2:=by unfold EI;rw[Wz h]
def dh(h:¬8*s.size<a+3):EI s a l=Fm s a l:=by unfold EI;rw[Wx h]
def vg(h:Ar s (a+1) 2=0):Fm s a l=Iz s (a+3) l:=alD
def vh(h:Ar s (a+1) 2=1):Fm s a l=Gb s CF CX (a+3) l:=alD
def rI(h:Ar s (a+1) 2=2)(b:CC s (a+3)=O):Fm s a l=.inr 2:=by unfold Fm;rw[h];simp only[b]
def rJ{a':N}{D:E N}(h:Ar s (a+1) 2=2)(b:CC s (a+3)=J (a',L,D)):Fm s a l=Gb s L D a' l:=by unfold Fm;rw[h];simp only[b]
def vk(h:Ar s (a+1) 2=3):Fm s a l=.inr 2:=alD
def BI.more(h:BI S w)(a:w.heap.size<=w'.heap.size):BI S w':=λk b=>h k<|WI a b
def vo(g:N)(a8:g≠1)(S:N->Prop)(m:S g)(s:Y)(hs:s.size<=140737488355328)(a:N)(l:E υ)(hl:l.length<=20000)(ha:a<=8*s.size)
 (gF gD:N)(d0:N->Prop)(a3:∀k,d0 k->¬S k)(w:U)(hF:BI S w)(b0:DF w)(h:NO w g S s a l)(a4:Dg w gF d0 CF)(b5:Dg w gD d0 CX):
 μ F 127 #[V<|J ⟨g,0,O⟩,.agg #[V<|J ⟨gF,0,O⟩,V<|J ⟨gD,0,O⟩]] w λr w'=>
  Ag S w w'/\∃(b:Bool) (e:N),r=ε (η #[.bool b,I Q e])/\ry s (EI s a l) w' g S e/\(e=0->b=decide (Ar s a 1=1)):=by
 have:g<w.heap.size:=by obtain⟨_,_,hr,_⟩:=h;exact hr.lt
 obtain⟨ao,cp,hr,b3,b4⟩:=h;have hA:Ag (λ_=>False) w<|w.alloc (W #[V<|J ⟨gF,0,O⟩,V<|J ⟨gD,0,O⟩] 166):=(Ag.refl _ w).alloc _;have HN:=H (Gf g s hs a (K ao l.length cp) 3 A ha _ (hr.kept hA λx=>x));have b6:=H<|Ag.oldS (S:=S) hA;have HOW0:=H<|Dp b3 hA;have HUP0:=H (hr.kept hA λx=>x);have V2:=H b4;have b3:=H<|a4.old hA;have b4:=H<|b5.old hA;have a4:=H (b0.kept hA λx=>x);have b0:C ((w.alloc<|W #[V<|J ⟨gF,0,O⟩,V<|J ⟨gD,0,O⟩] 166).heap[w.heap.size]? =J (W #[V<|J ⟨gF,0,O⟩,V<|J ⟨gD,0,O⟩] 166 (0,0))):=WD w _;have b5:w.heap.size<(w.alloc<|W #[V<|J ⟨gF,0,O⟩,V<|J ⟨gD,0,O⟩] 166).heap.size:=alA
 go_in;go_wp2_with fail;apply HN.mono;rintro r t ⟨Z9,a5⟩;have u:=H<|b6.trans (Z9.of_g m);have b6:∀p,Up t g s p (K ao l.length cp)->NO t g S s p l:=λp hu=>NO.next HUP0 HOW0 V2 Z9 hu
 have b7:=H b6;have b9:=H (b3.kept Z9 λk D e=>a3 k D (e ▸ m));have c0:=H (b4.kept Z9 λk D e=>a3 k D (e ▸ m));have a6:=H (a4.kept Z9 λe=>a8 e.symm);have c1:=(Z9.block w.heap.size b5 A).trans b0;have:=wG b5 Z9.size;have v:=H<|hF.more (w':=t) A;rcases a5 with⟨x,rfl,y⟩|⟨x,rfl,y⟩
 .have z:=H<|dh (s:=s) (a:=a) (l:=l) A;rw[yR];have:=Cv s a 1;have:=Cv s (a+1) 2;have d1:=H<|vg (s:=s) (a:=a) (l:=l);have d2:=H<|vh (s:=s) (a:=a) (l:=l);have c3:=H<|rI (s:=s) (a:=a) (l:=l);have c4:=H λp L a7=>rJ (s:=s) (a:=a) (l:=l) (a':=p) (L:=L) (D:=a7);have d3:=H<|vk (s:=s) (a:=a) (l:=l);have HS:=H<|b7 _ y;have a1:=H y;generalize d4:Ar s a 1=n1 at*;have d5:=H d4;generalize Ar s (a+1) 2=n2 at*;generalize hh:n1+n2*2=y;have:bits .and Q (y:Z) 1=(n1:Z):=by rw[fC y A];omega
  have:(y:Z)/2=(n2:Z):=A;have hb:((n1:Z)==1)=decide (n1=1):=by
   by_cases h1:n1=1
   .subst h1;rfl
   rw[Ww h1,WA];omega
  have f:C<|decide (n1=1)=decide (Ar s a 1=1):=by unfold C;rw[X d5]
  generalize decide (n1=1)=bl at hb f;by_cases h0:n2=0
  .subst h0;have c:=H<|z.trans (d1 rfl);have HP:=H<|ve g S m s hs (a+3) l hl x t v HS;go_wp2_with fail;exact agx
  by_cases h1:n2=1
  .subst h1;have c:=H<|z.trans (d2 rfl);have HP:=H<|Zo g S m s hs (a+3) l hl x gF gD d0 a3 CF CX alh aln t v HS b9 c0;go_wp2_with (refine abQ rfl 166 (.tmp 3) rfl w.heap.size rfl 166 #[V<|J ⟨gF,0,O⟩,V<|J ⟨gD,0,O⟩] (0,0) _ c1 underlying166 rfl BR ?_);exact agx
  have:((n2:Z)==0)=false:=act
  have:((n2:Z)==1)=false:=act
  by_cases h2:n2=2
  .subst h2;have d6:=H λp L a7=>c4 p L a7 rfl;have d7:=H<|c3 rfl;have y:=H<|yQ g a8 s hs (a+3) (K ao l.length cp) x t a6 a1;go_wp2_with fail;apply y.mono;rintro r w2 ⟨P,a5⟩;have c5:=P.size;have T:=H<|u.trans (P.of_g m);rcases a5 with⟨p,L,a7,gL,n,o,d8,hL,hD,rfl,hup2,d9,e0⟩|⟨o,rfl⟩
   .have c:=H<|z.trans (d6 p L a7 o);have q:Ag (λk=>k=w2.heap.size) w2 ((w2.alloc<|W #[V O,V O] 166).setRow w2.heap.size #[V<|J ⟨gL,0,O⟩,V<|J ⟨n,0,O⟩]):=((Ag.refl (λk=>k=w2.heap.size) w2).alloc _).setRow w2.heap.size (λ_=>rfl) _;have a0:(w2.alloc<|W #[V O,V O] 166).heap[w2.heap.size]? =J (W #[V O,V O] 166 (0,0)):=WD w2 _;have e4:=aaa (w2.alloc<|W #[V O,V O] 166) w2.heap.size _ #[V<|J ⟨gL,0,O⟩,V<|J ⟨n,0,O⟩] _ _ a0;have c6:=hup2.kept q A;obtain⟨c7,c8,E7,K3,hsa1⟩:=X HS;have a2 :=(X a1);have:NO w2 g S s p l:=by
     have e:=E7.c2.symm.trans a2.c2;injection e with e;injection e with e1 e2 e3;subst e1 e3;exact NO.next E7 K3 hsa1 P hup2
    have c9:NO ((w2.alloc<|W #[V O,V O] 166).setRow w2.heap.size #[V<|J ⟨gL,0,O⟩,V<|J ⟨n,0,O⟩]) g (λk=>S k/\¬(t.heap.size<=k/\k<w2.heap.size)) s p l:=by
     have e:=E7.c2.symm.trans a2.c2;injection e with e;injection e with e1 e2 e3;subst e1 e3;have y:=CJ K3 P λb hb=>KX K3 hb E7;have a1:∀b,(Value.slice c7 l.length c8).ownBlock=J b->b<t.heap.size:=λb hb=>by
      obtain⟨a2,hg⟩:=DD K3 hb;exact(Wt.1 hg).1
     refine⟨c7,c8,c6,CJ y q (λb hb e=>by have:=a1 b hb;omega),λb hb=>⟨hsa1 b hb,λhh=>?_⟩⟩;have:=a1 b.block (by rw[hb];rfl);omega
    have y:BI (λk=>S k/\¬(t.heap.size<=k/\k<w2.heap.size)) ((w2.alloc<|W #[V O,V O] 166).setRow w2.heap.size #[V<|J ⟨gL,0,O⟩,V<|J ⟨n,0,O⟩]):=λk D=>by
     have:=q.size;exact⟨v k A,λhh=>A⟩
    have HP:=H (Zo g (λk=>S k/\¬(t.heap.size<=k/\k<w2.heap.size)) ⟨m,λhh=>A⟩ s hs p l hl d8 gL n (λk=>t.heap.size<=k/\k<w2.heap.size) (λk D hh=>hh.2 D) L a7 hL hD _ y c9 (d9.kept q λk D e=>A) (e0.kept q λk D e=>A));have D:=H q;have R:=v _ c5;go_wp2_with (first
     |(refine aal rfl 166 (.tmp 9) (.tmp 43) rfl w2.heap.size #[V<|J ⟨gL,0,O⟩,V<|J ⟨n,0,O⟩] rfl rfl 166 _ a0 BR rfl (EQ _ _) ?_)
     |(refine abQ rfl 166 (.tmp 9) rfl w2.heap.size rfl 166 #[V<|J ⟨gL,0,O⟩,V<|J ⟨n,0,O⟩] (0,0) _ e4 underlying166 rfl BR ?_))
    apply HP.mono;rintro r w4 ⟨e5,e,rfl,i⟩;have e6:=H ((T.trans (D.mono λk _ e=>e ▸ R)).trans (e5.mono λk _ h=>h.1));have j:C<|ry s (Gb s L a7 p l) w4 g S e:=by
     rcases i with⟨m,n,h1,h2,h3,p,q⟩|h
     .exact .inl ⟨m,n,h1,h2,h3,p,q.mono1 λk h=>h.1⟩
     exact .inr h
    go_wp2;go_ret2;exact⟨e6,bl,e,rfl,by rw[X c];exact X j,λ_=>X f⟩
   have d:=H<|z.trans (d7 o);have a0:(w2.alloc<|W #[V O,V O] 166).heap[w2.heap.size]? =J (W #[V O,V O] 166 (0,0)):=WD w2 _;have D:=H (((Ag.refl (λk=>k=w2.heap.size) w2).alloc<|W #[V O,V O] 166).setRow w2.heap.size (λ_=>rfl) #[V O,V O]);have R:=v _ c5;go_wp2_with (refine aal rfl 166 (.tmp 9) (.tmp 43) rfl w2.heap.size #[V O,V O] rfl rfl 166 _ a0 BR rfl (EQ _ _) ?_);go_ret2;exact⟨T.trans (D.mono λk _ e=>e ▸ R),false,2,rfl,.inr ⟨d,A⟩,λh=>by cases h⟩
  have:((n2:Z)==2)=false:=act
  have h3:n2=3:=A;have d:=H<|z.trans (d3 h3);exact aiw
 have d:=H<|jB (l:=l) x;exact aiw
def tV(v:M)(n:N):N:=match v with
 | .bool true=>0
 |_=>n
def Hc(s:Y)(b:Bool)(a:N)(l:E υ):Prop:=a<=8*s.size/\l.length<=20000/\((b=false/\EK s 0 []=EK s a l)\/(b=true/\EK s 0 []=.inl (a,l)))
def np(s:Y)(hs:s.size<=140737488355328)(w:U)(e:DF w):
 μ F 66 #[G s] w λr w'=>r=ε (η #[G (AB s).1,I Q (AB s).2.1,I Q (AB s).2.2])/\Am w w':=by
 have:=e.1;have v:Am w<|w.alloc (W #[G s,I Q 0,K O 0 0] yi):=(Ag.refl _ w).alloc _;have i:Up (w.alloc<|W #[G s,I Q 0,K O 0 0] yi) w.heap.size s 0<|K O 0 0:=WD w _;have a0:(w.alloc<|W #[G s,I Q 0,K O 0 0] yi).heap.size=w.heap.size+1:=by simp only[WP]
 have d:=e.kept v λx=>x;have P:=H<|cZ (w.alloc<|W #[G s,I Q 0,K O 0 0] yi);generalize z:w.alloc (W #[G s,I Q 0,K O 0 0] yi)=w0 at v i a0 d P;have e:=H z;go_in;go_wp2_with fail;clear z e;apply P.mono;rintro r c ⟨q,t,rfl,j,a0,a1⟩;have:=j.size;have hz:(c.alloc<|W #[V O,V O] 166).heap[c.heap.size]? =J (W #[V O,V O] 166 (0,0)):=WD c _;have z:=aaa (c.alloc<|W #[V O,V O] 166) c.heap.size _ #[V<|J ⟨q,0,O⟩,V<|J ⟨t,0,O⟩] _ _ hz;have e:Ag (λk=>k=c.heap.size) c ((c.alloc<|W #[V O,V O] 166).setRow c.heap.size #[V<|J ⟨q,0,O⟩,V<|J ⟨t,0,O⟩]):=((Ag.refl (λk=>k=c.heap.size) c).alloc _).setRow c.heap.size (λ_=>rfl) _;have:((c.alloc<|W #[V O,V O] 166).setRow c.heap.size #[V<|J ⟨q,0,O⟩,V<|J ⟨t,0,O⟩]).heap.size=c.heap.size+1:=by simp[World.setRow]
 have a2:=H ((i.kept j λx=>x).kept e A);have k:=H (a0.kept e λ_ _ _=>A);have l:=H (a1.kept e λ_ _ _=>A);have m:=H ((d.kept j λx=>x).kept e A);have b5:C<|Am w ((c.alloc<|W #[V O,V O] 166).setRow c.heap.size #[V<|J ⟨q,0,O⟩,V<|J ⟨t,0,O⟩]):=(v.trans j).transNew e λ_ f h=>κ f A;have a3:=H z;clear e a0 a1 j P v i d z;go_wp2_with (refine aal rfl 166 (.tmp 6) (.tmp 13) rfl c.heap.size #[V<|J ⟨q,0,O⟩,V<|J ⟨t,0,O⟩] rfl rfl 166 _ hz BR rfl (EQ _ _) ?_);generalize(c.alloc<|W #[V O,V O] 166).setRow c.heap.size #[V<|J ⟨q,0,O⟩,V<|J ⟨t,0,O⟩]=w2 at*;go_loopw [7,8] (λx _ wr=>∃b:Bool,x=.bool b/\C (∃a u,Hc s b a u/\NO wr w.heap.size (λd=>w.heap.size<=d/\¬(w0.heap.size<=d/\d<c.heap.size)/\d≠c.heap.size) s a u)/\
  C (Dg wr q (λd=>w0.heap.size<=d/\d<c.heap.size) CF)/\C (Dg wr t (λd=>w0.heap.size<=d/\d<c.heap.size) CX)/\C (DF wr)/\
  C (wr.heap[c.heap.size]? =J (W #[V<|J ⟨q,0,O⟩,V<|J ⟨t,0,O⟩] 166 (0,0)))/\C (Am w wr)) λx _ wr=>tV x<|8*s.size+1-Ls wr w.heap.size 1
 .exact ⟨false,rfl,⟨0,[],⟨A,Ad,.inl ⟨rfl,rfl⟩⟩,O,0,a2,WZ _ _ _ _,λb f=>by cases f⟩,k,l,m,a3,b5⟩
 obtain⟨b,rfl,HI,k,l,m,a5,HO⟩:=hrel;obtain⟨a,u,D,x⟩:=X HI;have y:=X a5;have b6:=(Wt.1 y).1;cases b with
 |false=>
  obtain⟨ha,hl,o⟩:=D;have a6:EK s 0 []=EK s a u:=by
   rcases o with⟨_,h⟩|⟨h,_⟩
   .exact h
   cases h
  have R:=H a6;have HM:C<|Ls wr w.heap.size 1=a:=by obtain⟨_,_,S,_⟩:=x;exact AR S.c1
  have HB:=H (vo w.heap.size A (λd=>w.heap.size<=d/\¬(w0.heap.size<=d/\d<c.heap.size)/\d≠c.heap.size) ⟨WF _,A,A⟩ s hs a u hl ha q t (λd=>w0.heap.size<=d/\d<c.heap.size) (λ_ d h=>h.2.1 d) wr (λ_ _=>⟨A,A,A⟩) m x k l);clear o a6 HI x;go_wp2_with (refine abQ rfl 166 (.tmp 6) rfl c.heap.size rfl 166 #[V<|J ⟨q,0,O⟩,V<|J ⟨t,0,O⟩] (0,0) _ y underlying166 rfl BR ?_);apply HB.mono;rintro r w4 ⟨f,b4,e4,rfl,a7,T⟩;have a8:C<|Am w w4:=HO.transNew f λ_ d h=>κ d A;have b7:=H (k.kept f λ_ d h=>h.2.1 d);have b9:=H (l.kept f λ_ d h=>h.2.1 d);have a9:=H<|m.kept f A;have b0:=H ((f.block c.heap.size b6 λh=>h.2.2 rfl).trans y);clear HB f k l m a5 y;rcases a7 with⟨a4,l4,g,rfl,c0,c3,c⟩|⟨g,c4⟩
  .have d:=T rfl;rw[iu] at d;have b1:=H g;have b2:=H c;have b3:=H d;have:=(GA g).1;have c5:C<|Ls w4 w.heap.size 1=a4:=by obtain⟨_,_,S,_⟩:=c;exact AR S.c1
   clear g c T d;go_wp2;go_roundw
   .refine ⟨b4,rfl,⟨a4,l4,⟨c0,c3,?_⟩,b2⟩,b7,b9,a9,b0,a8⟩;by_cases c:AV s a=1
    .exact .inr ⟨by rw[X b3];simp[c],by rw[X R];exact KR b1 c⟩
    exact .inl ⟨by rw[X b3];simp[c],by rw[X R];exact RO b1 c⟩
   rw[X HM];simp only[X c5];cases b4<;>simp[tV]<;>omega
  have:((e4:Z) !=0)=true:=akQ
  have:((e4:Z)==0)=false:=act
  have p:C<|AB s=(⟨#[]⟩,0,e4):=by unfold C AB;rw[X R,OX g];rfl
  clear g c4 T;go_wp2_with fail;go_ret3;rw[X p];exact⟨rfl,a8⟩
 |true=>
  obtain⟨ha,hl,o⟩:=D;have L:EK s 0 []=.inl (a,u):=by
   rcases o with⟨h,_⟩|⟨_,h⟩
   .cases h
   exact h
  have p:C<|AB s=(⟨u.toArray⟩,(a+7)/8,0):=by unfold C AB;rw[L];rfl
  obtain⟨f,g,S,c,d⟩:=x;have e:∀n,(convert 64 9<|K f u.length g).run F (wr.drewN n)=.ok (G ⟨u.toArray⟩) (wr.drewN n):=λn=>GB (w:=wr.drewN n) c
  have:=e 0;have e:∀n,C (μ F 128 #[V<|J ⟨w.heap.size,0,O⟩] (wr.drewN n) λr w'=>r=ε (I Q ((a+7)/8:N))/\w'=wr.drewN n):=λn=>tP w.heap.size s hs a (K f u.length g) ha (wr.drewN n)<|S.drewN n
  have:=S.c2;clear o L S c d HI;go_wp2_with fail;go_quiet (first|(go_at_call 128;exact(X<|e _).mono λ_ _ h=>⟨h.1,_,h.2⟩));go_wp2_with fail;go_ret3;rw[X p];exact⟨rfl,HO.drewN _⟩
def Oj(s:Y)(b:s.size<=140737488355328)(w:U)(a:DF w):
 μ F 30 #[G s] w λr w'=>r=ε (η #[G (AB s).1,I Q (AB s).2.1,I Q (AB s).2.2])/\Am w w':=by
 have c:=H<|np s b w a;go_in;go_wp2_with fail;apply c.mono;rintro r f ⟨rfl,d⟩;have e:=H d;go_wp2_with fail;go_ret3;exact⟨rfl,e⟩
def yS(g:N)(t:ν)(d:t≠5)(R:φ M)(S:N->Prop)(c:S g)(a:E N)(j:NX a)(e:a.length<=1000000)(b:N)(f:b<2)(w:U)(k:BI S w)(h:Wr w g t R S a):
 μ F 179 #[V<|J ⟨g,0,O⟩,I Q b] w λr w'=>r=ε (η #[])/\Ag S w w'/\Wr w' g t R S (a++[b]):=by
 by_cases i:a.length%8=0
 .exact mQ g t d R S c a e i b f w k h
 exact rp g t d R S c a j e i b f w h
def NX.nil:NX []:=λ_ a=>by cases a
def Wr.mono{t:ν}{R:φ M}{S':N->Prop}{a:E N}(h:Wr w g t R S a)(e:∀k,S k->S' k):Wr w g t R S' a:=by
 obtain⟨f,a,i,c,d⟩:=h;exact⟨f,a,i,c,λb a=>e _<|d b a⟩
def fZ(v i:N)(a:v<9223372036854775808):bits .and Q (((v/2^i:N):Z)) 1=((v/2^i%2:N):Z):=by
 have b:v/2^i<9223372036854775808:=aaY (ace _ _) a;have:=DZ (v/2^i) 1 b A;rw[Nat.and_one_is_mod] at this;exact this
def Mz(g:N)(t:ν)(u:t≠5)(R:φ M)(S:N->Prop)(j:S g)(a:E N)(x:NX a)(o:a.length+16<=1000000)(v n:N)(D:v<=1000000)(L:n<=16)(w:U)(y:BI S w)(o:Wr w g t R S a):
 μ F 119 #[V<|J ⟨g,0,O⟩,I Q v,I Q n] w λr w'=>r=ε (η #[])/\Ag S w w'/\Wr w' g t R S (a++Dt v n):=by
 have h:=H o;clear o;go_in;go_wp2;go_loopw [8] (λc wr=>∃i:N,i<=n/\c=I Q i/\C (Wr wr g t R S<|a++Dt v i)/\C (Ag S w wr)) λc _=>n-(intOf c).toNat
 .exact ⟨0,A,rfl,by rw[show Dt v 0=[] from rfl,wS];exact h,Ag.refl _ w⟩
 obtain⟨i,_,rfl,h,k⟩:=hrel;by_cases z:i<n
 .have c:(i:Z)<n:=A;have:(0:Z)<=(i:Z):=A;have:(i:Z)<64:=A;have:=ww i;have l:(v:Z)/2^i=((v/2^i:N):Z):=alg
  have d:=fZ v i A;have e:v/2^i%2<2:=wU _ A;have p:=H (yS g t u R S j (a++Dt v i) (x.append<|Gh _ _) (by rw[Ws,EL];omega) (v/2^i%2) e wr (y.mono k.size) h);have s:C<|a++Dt v i++[v/2^i%2]=a++Dt v (i+1):=by unfold C;rw[iT,WG]
  generalize v/2^i%2=b at p s d e;generalize v/2^i=q at l d;go_wp2_with fail;apply p.mono;rintro r P ⟨rfl,f,a⟩;have d:=H a;have e:=H f;clear a f;go_wp2;go_roundw
  .exact ⟨i+1,A,by go_num,by rw[<-X s];exact d,k.trans e⟩
  exact Ae
 have:¬(i:Z)<n:=A;have m:i=n:=A;subst m;go_wp2_with fail;go_end0;exact⟨rfl,k,h⟩
def di(v n i:N)(h:i<n):(Gg v n).take (i+1)=(Gg v n).take i++[v/2^(n-1-i)%2]:=by
 rw[take_getD _ _ (by rw[Ev];exact h),Uu _ _ _ h]
def tW(g:N)(t:ν)(ht:t≠5)(R:φ M)(S:N->Prop)(L:S g)(d:E N)(hB:NX d)(m:d.length+16<=1000000)(v n:N)(z:v<=1000000)(P:n<=15)(w:U)(hF:BI S w)(h:Wr w g t R S d):
 μ F 189 #[V<|J ⟨g,0,O⟩,.agg #[I Q v,I Q n]] w λr w'=>r=ε (η #[])/\Ag S w w'/\Wr w' g t R S (d++Gg v n):=by
 have m:g<w.heap.size:=by obtain⟨ao,m,z,_,_⟩:=h;exact KV z
 have D:Ag (λ_=>False) w<|w.alloc (W #[I Q (v:Z),I Q (n:Z)] 234):=(Ag.refl _ w).alloc _;have o:(w.alloc<|W #[I Q (v:Z),I Q (n:Z)] 234).heap[w.heap.size]? =J (W #[I Q (v:Z),I Q (n:Z)] 234 (0,0)):=WD w _;have p:C (Wr (w.alloc<|W #[I Q (v:Z),I Q (n:Z)] 234) g t R (λk=>S k/\k≠w.heap.size) d):=by
  obtain⟨ao,m,z,s,P⟩:=h;refine⟨ao,m,(D.block g (KV z) λx=>x).trans z,Dp s D,λb c=>⟨P b c,?_⟩⟩;subst c;obtain⟨_,hg⟩:=DD s (b:=b.block) rfl;exact ahE
 have m:(w.alloc<|W #[I Q (v:Z),I Q (n:Z)] 234).heap.size=w.heap.size+1:=by simp only[WP]
 have u:=H<|Ag.oldS (S:=S) D;have e:C (BI (λk=>S k/\k≠w.heap.size)<|w.alloc (W #[I Q (v:Z),I Q (n:Z)] 234)):=λk _=>⟨hF k A,A⟩
 have m:∃c,c=w.alloc (W #[I Q (v:Z),I Q (n:Z)] 234):=⟨_,rfl⟩;have c:=H o;clear h D o;have l:IntKind.i64.wrap ((n:Z)-1)=(n:Z)-1:=akR
 go_in;go_wp2;go_loopw [4] (λx wr=>∃i:N,i<=n/\x=I Q ((n:Z)-1-i)/\C (Wr wr g t R (λk=>S k/\k≠w.heap.size)<|d++(Gg v n).take i)/\C (wr.heap[w.heap.size]? =J (W #[I Q (v:Z),I Q (n:Z)] 234 (0,0)))/\C (Ag S w wr)/\C (BI (λk=>S k/\k≠w.heap.size) wr)) λx _=>((intOf x)+1).toNat
 .exact ⟨0,A,by go_num,by rw[abo,wS];exact p,c,u,e⟩
 obtain⟨i,_,rfl,p,c,u,e⟩:=hrel;by_cases T:i<n
 .obtain ⟨j,hj⟩:∃j,j=n-1-i:=⟨_,rfl⟩;have m:(n:Z)-1-i=(j:Z):=A;have s:(0:Z)<=(j:Z):=A;have o:(j:Z)<64:=A;have s:=ww j;have z:IntKind.i64.wrap ((j:Z)-1)=(j:Z)-1:=akR
  have a0:(v:Z)/2^j=((v/2^j:N):Z):=alg
  have k:=fZ v j A;have x:v/2^j%2<2:=wU _ A;have y:=Wu wr w.heap.size 0 _ _ (0,0) c;have o:wr.cell? ⟨w.heap.size,0,O⟩=J (I Q (v:Z)):=y;have HB:=H (yS g t ht R _ ⟨L,A⟩ (d++(Gg v n).take i) (hB.append λf o=>GC v n f<|abb o) (by rw[Ws,hY,Ev];omega) (v/2^j%2) x wr e p);have HN:C<|d++(Gg v n).take i++[v/2^j%2]=d++(Gg v n).take (i+1):=by unfold C;rw[di v n i T,hj,WG]
  have HJ:C ((j:Z)-1=(n:Z)-1-((i+1:N):Z)):=by unfold C;omega
  have a1:=KV (R:= #[]) (w:=wr) (g:=w.heap.size) (t:=234) (a:=I Q (v:Z)) (b:=I Q (n:Z)) c;rw[m];generalize v/2^j%2=b at HB HN k x;generalize v/2^j=q at a0 k;clear hj y;go_wp2_with fail;apply HB.mono;rintro r w1 ⟨rfl,f,l⟩;have k:=H l;have m:=H (u.trans (f.mono λ_ _ h=>h.1));have j:=H ((f.block w.heap.size a1 λh=>h.2 rfl).trans c);have c:=H<|e.mono f.size;clear l f HB;go_wp2;go_roundw
  .exact ⟨i+1,A,by rw[<-X HJ],by rw[<-X HN];exact k,j,m,c⟩
  simp[intOf]
 have a2:i=n:=A;have a3:=H<|X u;have a4:=H<|X p;clear u p;subst a2;have a6:¬(0:Z)<=(i:Z)-1-i:=A;have a5:C<|Wr wr g t R S (d++Gg v i):=by have:=X a4;rw[wv<|by rw[Ev];exact WF _] at this;exact this.mono λ_ h=>h.1
 go_wp2_with fail;go_end0;exact⟨rfl,a3,a5⟩
def yT(g:N)(t:ν)(n:t≠5)(R:φ M)(S:N->Prop)(e:S g)(a:E N)(w:U)(h:Wr w g t R S a):
 μ F 118 #[V<|J ⟨g,0,O⟩] w λr w'=>r=ε (η #[])/\Ag S w w'/\Wr w' g t R S (a++List.replicate (8*((a.length+7)/8)-a.length) 0):=by
 obtain⟨l,b,d,c,f⟩:=h;have:=Nt d;have:=WK w g 1 _ _ d;have h:∀k,(Value.slice l (AW a).length b).ownBlock=J k->k≠g:=λk i=>Xj n d c i
 have m:(AW (a++List.replicate (8*((a.length+7)/8)-a.length) 0)=AW a):=iS a _ A;have o:(8*(AW a).length-(a++List.replicate (8*((a.length+7)/8)-a.length) 0).length=0):=by rw[Bn,Ws,wA];omega
 have q:=d;have i:=c;have j:=f;have k:=h;go_in;go_wp2_with fail;go_end0;refine⟨rfl,(Ag.refl S w).setCell (p:=⟨g,1,O⟩) (λ_=>e) _,l,b,?_,?_,j⟩
 .rw[m,o];exact Xi q _
 rw[m];exact CJ i (Aq w g 1 _) k
def tX(g:N)(t:ν)(i:t≠5)(R:φ M)(S:N->Prop)(a:S g)(k:N)(c:k<4)(w:U)(j:BI S w)(c:Wr w g t R S []):
 μ F 117 #[V<|J ⟨g,0,O⟩,I Q k] w λr w'=>r=ε (η #[])/\Ag S w w'/\Wr w' g t R S (1::Dt k 2):=by
 have l:=Mz g t i R S a [] NX.nil Ad 1 1 A A w j c;go_in;go_wp2_with fail;apply l.mono;rintro r m ⟨rfl,b,c⟩;have l:=Mz g t i R S a _ (NX.nil.append<|Gh 1 1) (by simp[EL]) k 2 A A m (j.mono b.size) c;have d:=b;go_wp2_with fail;apply l.mono;rintro r n ⟨rfl,e,a⟩;have f:=d.trans e;have h:=a;go_wp2_with fail;go_end0;exact⟨rfl,f,h⟩
def jC(y:N)(a:257<=y)(b:y<=285)(w:U):
 μ F 247 #[I Q y] w λr w'=>r=ε (I Q<|Bg y)/\w'=w:=by
 have H:=Nm y a b w;exact akJ
def dl(d:N)(h:d<=29)(w:U):
 μ F 248 #[I Q d] w λr w'=>r=ε (I Q<|AY d)/\w'=w:=by
 have H:=RP d h w;exact akJ
def vq(n:N)(w:U):
 μ F 185 #[I Q n] w λr w'=>r=ε (I Q<|CD n)/\Am w w':=by
 have m:=λ(y:N) (o:257<=y) (p:y<=285) (a:U)=>jC y o p a
 go_in;go_wp2;go_loopw [3] (λx wr=>∃k:N,k<=28/\x=I Q ((257+k:N):Z)/\(CD n=Xc n k)/\(Am w wr)) λx _=>(intOf x).toNat
 .exact ⟨28,A,rfl,rfl,Ag.refl _ w⟩
 obtain⟨k,_,rfl,l,HO⟩:=hrel;cases k with
 |zero=>
  have o:CD n=257:=l;have p:(((257+0:N):Z))=257:=rfl;have HE:=o;rw[p];go_wp2_with fail;exact aiK
 |succ k=>
  have e:=λa=>m (257+(k+1)) A A a
  have f:(257:Z)<((257+(k+1):N):Z):=A;have c:((257+(k+1):N):Z)-1=((257+k:N):Z):=A;have a:CD n=if n<Bg (257+(k+1)) then Xc n k else 257+(k+1):=l
  have g:IntKind.i64.wrap ((257+k:N):Z)=((257+k:N):Z):=Aw _ A;have b:257+k<257+(k+1):=A;generalize t:Bg (257+(k+1))=q at e a;generalize u:257+(k+1)=y at e f c a b;generalize h:257+k=y2 at c g b;by_cases d:n<q
  .rw[Wz d] at a;have i:(n:Z)<q:=A;have j:=a;go_wp2_with (go_at_call 247;refine(e _).mono ?_;rintro r s ⟨rfl,rfl⟩);go_roundw
   .exact ⟨k,A,by rw[h],j,HO⟩
   exact Ae
  rw[Wx d] at a;have:¬(n:Z)<q:=A;have HE:=a;go_wp2_with (go_at_call 247;refine(e _).mono ?_;rintro r s ⟨rfl,rfl⟩);exact aiK
def rK(n:N)(w:U):
 μ F 187 #[I Q n] w λr w'=>r=ε (I Q<|CK n)/\Am w w':=by
 have j:=λ(y:N) (l:y<=29) (a:U)=>dl y l a
 go_in;go_wp2;go_loopw [3] (λx wr=>∃k:N,k<=29/\x=I Q (k:Z)/\(CK n=JX n k)/\(Am w wr)) λx _=>(intOf x).toNat
 .exact ⟨29,A,rfl,rfl,Ag.refl _ w⟩
 obtain⟨k,_,rfl,i,HO⟩:=hrel;cases k with
 |zero=>
  have l:CK n=0:=i;have m:(((0:N):Z))=0:=rfl;have HE:=l;rw[m];go_wp2_with fail;exact aiK
 |succ k=>
  have d:=λa=>j (k+1) A a
  have e:(0:Z)<((k+1:N):Z):=A;have f:((k+1:N):Z)-1=(k:Z):=A;have a:CK n=if n<AY (k+1) then JX n k else k+1:=i
  have:IntKind.i64.wrap (k:Z)=k:=Aw _ A;have b:k<k+1:=A;generalize p:AY (k+1)=q at d a;generalize s:k+1=y at d e f a b;by_cases c:n<q
  .rw[Wz c] at a;have g:(n:Z)<q:=A;have h:=a;go_wp2_with (go_at_call 248;refine(d _).mono ?_;rintro r o ⟨rfl,rfl⟩);go_roundw
   .exact ⟨k,A,rfl,h,HO⟩
   exact Ae
  rw[Wx c] at a;have:¬(n:Z)<q:=A;have HE:=a;go_wp2_with (go_at_call 248;refine(d _).mono ?_;rintro r o ⟨rfl,rfl⟩);exact aiK
def Po{P:Program}(w:U)(g a:N)(c:ν)(b:E M)(d:TypeDesc)(i:∀j v,b[j]? =J v->w.cell? ⟨g,a+j,O⟩=J v)
 (k:P.underlying c=J d)(o:(match d with| .struct _| .array _ _=>true|_=>false)=true)(h:(P.info? c).map (·.size)=J b.length):
 (loadVar c ⟨g,a,O⟩).run P w=.ok (.agg b.toArray) w:=by
 have l:(loadCells ⟨g,a,O⟩ b.length).run P w=.ok b.toArray w:=
  aca (P:=P) w ⟨g,a,O⟩ b λj v a=>by rw[we];exact i j v a
 cases f:P.info? c with
 |none=>simp[f] at h
 |some m=>
  have n:m.size=b.length:=by simpa [f] using h
  have e:(isAgg c).run P w=.ok true w:=by
   unfold isAgg;rw[acd,aaf k w];cases d<;>simp_all
  simp[loadVar,acd,e,sizeOf,typeInfo,f,n,l]
def Pp{P:Program}{ops:φ Oper}{rest:E Oper}{o:Oper}{a:Act}{Q:Exit->Act->U->Prop}(f:o.guard=O)(c:ν)(x:Operand)(h:o.op=.load c x)
 (g b:N)(i:a.eval x=V (J ⟨g,b,O⟩))(e:E M)(d:TypeDesc)(k:∀j v,e[j]? =J v->w.cell? ⟨g,b+j,O⟩=J v)
 (l:P.underlying c=J d)(m:(match d with| .struct _| .array _ _=>true|_=>false)=true)(n:(P.info? c).map (·.size)=J e.length)
 (p:wpList P ops Q rest (a.put o.dst (.agg e.toArray)) w):wpList P ops Q (o::rest) a w:=
 acu f λ_ f=>by
  unfold Oper.wp execOp;simp only[h,i,Instr.loadAt,Instr.sureAddr,acd,acJ,abS,Po w g b c e d k l m n];exact f _ _ p
def vs:(prog.info? 267).map (·.size)=J 16:=B
def Zt(b:φ M)(i:N)(v:M)(a:i<16)(c:b[i]? =J v)(a:U):(Instr.index 267 (.agg b)<|I Q (i:Z)).run F a=.ok v a:=by
 have b:prog.underlying 267=J (.array 16 100):=underlying267;have d:(sizeOf 100).run F a=.ok 1 a:=B;have a:¬16<=i:=A;simp[Instr.index,aaf b,asIntOf,d,_root_.Go.part,c,a,go_sem]
def Xn(h:r<(Cs L n).length):(Cs L n).getD r 0<L.length/\L.getD ((Cs L n).getD r 0) 0=n:=by
 have a:(Cs L n).getD r 0∈Cs L n:=by rw[Wq,Wv h,aaH];exact WJ _
 have:=aaZ.1 (show _∈(List.range L.length).filter _ from a);exact⟨wh.1 this.1,by simpa using this.2⟩
def rL(h:r<(Cs L n).length)(a :b <(Cs L n).length)(e:(Cs L n).getD r 0=(Cs L n).getD b 0):r=b :=by
 have d:(Cs L n).Nodup:=List.Nodup.sublist List.filter_sublist List.nodup_range;rw[Wq,Wq,Wv h,Wv a,aaH,aaH] at e;have c:=aaG.1 d;rcases abF r b with hl|hl|hl
 .exact κ e<|c r b h a hl
 .exact hl
 exact κ e.symm<|c b r a h hl
def ER(w:U)(gl:N)(L:E N)(k j:N):Prop:=
 ∃J0:φ M,w.heap[gl]? =J (W J0 234 (0,0))/\J0.size=2*L.length/\
  ∀n r,1<=n->(n<k\/(n=k/\r<j))->r<(Cs L n).length->J0[2*(Cs L n).getD r 0]? =J (I Q (AO L n+r:N))/\J0[2*(Cs L n).getD r 0+1]? =J (I Q (n:N))
def ER.kept(h:ER w b L k j)(d:Ag S w w')(e:¬S b):ER w' b L k j:=by
 obtain⟨a,c,r⟩:=h;exact⟨a,(d.block b (Wt.1 c).1 e).trans c,r⟩
def ER.cells(h:ER w b L k j)(i:N)(a:i<2*L.length):(∃v,w.cell? ⟨b,i,O⟩=J v)/\w.frozen? ⟨b,i,O⟩=false:=by
 obtain⟨a,c,_,_⟩:=h;exact⟨⟨a[i]'A,by rw[Wu w b i a _ _ c,wB A]⟩,WK w b i _ _ c⟩
def ER.next{gl:N}(h:ER w gl L k j)(hj:j<(Cs L k).length):
 ER ((w.setCell ⟨gl,2*(Cs L k).getD j 0,O⟩<|I Q (AO L k+j:N)).setCell ⟨gl,2*(Cs L k).getD j 0+1,O⟩<|I Q (k:N)) gl L k (j+1):=by
 obtain⟨a,d,f,g⟩:=h;have i:=Xn hj;refine⟨_,WL _ gl _ _ _ _<|WL w gl _ a _ _ d,by rw[abh,abh];exact f,λn r l b c=>?_⟩;have a:=Xn c;rw[wR,wR,wR,wR,abh];by_cases e:(Cs L k).getD j 0=(Cs L n).getD r 0
 .have m:n=k:=by rw[<-a.2,<-e,i.2]
  subst m;have o:=rL hj c e;subst o;rw[Wx A,Wz rfl,Wz A,Wz rfl,Wz A];exact⟨rfl,rfl⟩
 rw[Wx A,Wx A,Wx A,Wx A];refine g n r l ?_ c;rcases b with b|⟨b,l⟩
 .exact .inl b
 subst b
 right
 refine⟨rfl,?_⟩;rcases wM r j with h3|h3
 .exact h3
 have:r=j:=A;subst this;exact κ rfl e
def ER.turn(h:ER w b L k j)(d:(KW L k).length<=j):ER w b L (k+1) 0:=by
 obtain⟨a,b,e,f⟩:=h;refine⟨a,b,e,λn r a c b=>f n r a ?_ b⟩;rcases c with h1|⟨_,_⟩
 .rcases wM n k with h3|h3
  .exact .inl h3
  have c:n=k:=A;subst c;rw[KW,Wx A] at d;exact .inr ⟨rfl,A⟩
 omega
def vt:(prog.info? 234).map (λi=>(i.zero,i.size,i.bytes))=J (J (.agg #[I Q 0,I Q 0]),2,16):=B
def vu(d:N)(S:N->Prop)(L:E N)(hL:L.length<=400)(w:U)(h:Dg w d S L):
 μ F 245 #[V<|J ⟨d,0,O⟩,I Q L.length] w λr w'=>r=ε (K (J ⟨w.heap.size,0,O⟩) L.length L.length)/\Am w w'/\ER w' w.heap.size L 16 0:=by
 have q:=h.lt;obtain⟨a,hg,S,hf,T⟩:=h;obtain⟨i0,e,S,a0,a1⟩:=wi vt;have b4:(Instr.makeSlice 151 (I Q (L.length:Z))<|I Q (L.length:Z)).run F w=.ok (K (J ⟨w.heap.size,0,O⟩) L.length L.length) (w.alloc<|W (madeCells #[I Q 0,I Q 0]<|L.length*2) 234):=by
  have h:=acO (P:=F) w 151 234 i0 _ underlying151 e S .i64 .i64 L.length L.length Aa Aa (by rw[a1];omega) Aa;rw[a0,ww] at h;exact h
 have a2:∀n v,((List.range 16).map λn=>(a[16+n]?).getD undef)[n]? =J v->n<=15/\a[16+n]? =J v:=by
  intro n v m;rcases wM n 16 with h16|h16
  .obtain ⟨o,c,R,_⟩:=T n Aa;simp only[aaI,adD h16,abH,R,aaH] at m;exact⟨Aa,by rw[R];exact m⟩
  rw[wj ako] at m;cases m
 have a0:∀n,n<=15-> ∃o c,((List.range 16).map λn=>(a[16+n]?).getD undef).toArray[n]? =J (K o (KW L n).length c)/\∀j,j<(KW L n).length-> ∃b,o=J ⟨b,0,O⟩/\b<w.heap.size/\w.cell? ⟨b,j,O⟩=J (I Q ((KW L n).getD j 0:N)):=by
  intro n S;obtain⟨o,c,R,h2⟩:=T n S;refine⟨o,c,?_,λj hj=>?_⟩
  .rw[aaP];simp only[aaI,adD (show n<16 by omega),abH,R,aaH]
  obtain⟨b,hb,_,R⟩:=h2 j hj;exact⟨b,hb,Rg R,R⟩
 have a3:=a0;have R:∀j v,((List.range 16).map λn=>(a[16+n]?).getD undef)[j]? =J v->(w.alloc<|W (madeCells #[I Q 0,I Q 0]<|L.length*2) 234).cell? ⟨d,16+j,O⟩=J v:=by
  intro j v m;rw[((Ag.refl (λ_=>False) w).alloc _).cell (p:=⟨d,16+j,O⟩) q λx=>x,Wu w d (16+j) a _ (0,0) hg];exact(a2 j v m).2
 have HF:(∀n,n<=15->w.cell? ⟨d,n,O⟩=J (I Q (AO L n:N))):=λn S=>by rw[Wu w d n a _ (0,0) hg];exact hf n S
 have a4:(ER (w.alloc<|W (madeCells #[I Q 0,I Q 0]<|L.length*2) 234) w.heap.size L 0 0):=
  ⟨_,WD w _,by simp[madeCells];omega,λn r S s T=>Aa⟩
 have a5:(Am w<|w.alloc (W (madeCells #[I Q 0,I Q 0]<|L.length*2) 234)):=(Ag.refl _ w).alloc _;have a6:((List.range 16).map λn=>(a[16+n]?).getD undef).length=16:=Ad;have a7:=R;generalize(List.range 16).map (λn=>(a[16+n]?).getD undef)=A at*;have a:(prog.info? 267).map (·.size)=J A.length:=by rw[a6];exact vs
 go_in;go_wp2_with (refine Pp rfl 267 (.tmp 14) rfl d 16 rfl A _ a7 underlying267 rfl a ?_);go_loopw [6,7,8,9,16] (λ_ _ _ _ z wr=>∃i:N,i<=16/\z=I Q i/\(ER wr w.heap.size L i 0)/\(Am w wr)) λ_ _ _ _ z _=>16-(intOf z).toNat
 .exact ⟨0,Aa,rfl,a4,a5⟩
 obtain⟨i,hi,rfl,g,k⟩:=hrel;by_cases s:i<16
 .have t:(i:Z)<16:=Aa;obtain⟨o,c,c,a⟩:=a3 i Aa;have m:=Zt A.toArray i _ s c;have o:(KW L i).length<=400:=by unfold KW;split;simp;exact WI (RA L i) hL
  have l:=a;have a8:=HF i Aa;have a9:(i≠0->KW L i=Cs L i):=λh=>Wx h
  have b0:(i=0->(KW L i).length=0):=λh=>by subst h;rfl
  go_wp2;go_loopw [8,9,22] (λ_ _ z wr=>∃j:N,j<=(KW L i).length/\z=I Q j/\(ER wr w.heap.size L i j)/\(Am w wr)) λ_ _ z _=>(KW L i).length-(intOf z).toNat
  .exact ⟨0,Aa,rfl,g,k⟩
  obtain⟨j,hj,rfl,g,k⟩:=hrel;by_cases F3:j<(KW L i).length
  .have b1:(j:Z)<((KW L i).length:Z):=Aa;obtain⟨b,hb,b2,u⟩:=l j F3;subst hb;have e:i≠0:=λa=>by have:=b0 a;omega
   have x:=a9 e;rw[x] at F3 u;have c:=Xn F3;have a:=(k.cell (p:=⟨b,j,O⟩) b2 λe=>e).trans u;have a:=(k.cell (p:=⟨d,i,O⟩) q λa=>a).trans a8;have d:AO L i<=52428800:=by
    have a:=Mq L i;have e:2^(i+1)<=2^16:=wg Aa Aa;have:2^(i+1)*L.length<=65536*400:=abm Aa hL;omega
   have D:=g.next F3;obtain⟨⟨e,d⟩,a⟩:=g.cells (2*(Cs L i).getD j 0) Aa;obtain⟨⟨e,d⟩,a⟩:=g.cells (2*(Cs L i).getD j 0+1) Aa;have b5:=c.1;generalize(Cs L i).getD j 0=y,AO L i=f at*;have b6:(y:Z)<L.length:=Aa;have a:(0:Z)<=(y:Z):=Aa;have c:IntKind.i64.wrap ((f:Z)+j)=(f:Z)+j:=akR
   have a:y*2=2*y:=abg _ _;have a:=(k.setCell (p:=⟨w.heap.size,2*y,O⟩) (λc=>κ c<|aac _)<|I Q ((f:Z)+j)).setCell (p:=⟨w.heap.size,2*y+1,O⟩) (λc=>κ c<|aac _)<|I Q (i:Z);rw[aav] at D;go_wp2;go_roundw
   .exact ⟨j+1,by rw[x];omega,by go_num,D,a⟩
   exact Ae
  have b1:¬(j:Z)<((KW L i).length:Z):=Aa;have a:=g.turn Aa;go_wp2;go_roundw
  .exact ⟨i+1,Aa,by go_num,a,k⟩
  exact Ae
 have t:¬(i:Z)<16:=Aa;have a:i=16:=Aa;have b3:(ER wr w.heap.size L 16 0):=by have:=g;rw[a] at this;exact this
 go_wp2;go_ret;exact⟨rfl,k,b3⟩
def gg(c a cap:N)(L:E N)(l:L.length<=400)(d:∀j,L.getD j 0<=15)(w:U)(n:BG w c a L):
 μ F 180 #[K (J ⟨c,a,O⟩) L.length cap] w λr w'=>∃g,r=ε (K (J ⟨g,0,O⟩) L.length L.length)/\Am w w'/\ER w' g L 16 0/\w.heap.size<=g:=by
 have o:=UJ c a cap L l d w n;go_in;go_wp2_with fail;apply o.mono;rintro r m ⟨rfl,e,a⟩;have c:=vu w.heap.size _ L l m a;have b:=e;go_wp2_with fail;apply c.mono;rintro r p ⟨rfl,f,a⟩;have h:(Am w p):=b.trans f;have i:=a;have k:=b.size;go_wp2;go_ret;exact⟨m.heap.size,rfl,h,i,k⟩
def UL(w:U)(gS gD:N):Prop:=
 gS<w.heap.size/\gD<w.heap.size/\(∀y,y<288->w.cell? ⟨gS,2*y,O⟩=J (I Q (TL y:N))/\w.cell? ⟨gS,2*y+1,O⟩=J (I Q (Ku y:N)))/\
  ∀d,d<32->w.cell? ⟨gD,2*d,O⟩=J (I Q (d:N))/\w.cell? ⟨gD,2*d+1,O⟩=J (I Q (5:N))
def UL.kept{e:N}(g:UL w c e)(f:Ag S w w')(h:¬S c)(i:¬S e):UL w' c e:=by
 obtain⟨a,b,j,d⟩:=g;have:=f.size;refine⟨A,A,λy g=>?_,λy g=>?_⟩
 .rw[f.cell (p:=⟨c,2*y,O⟩) a h,f.cell (p:=⟨c,2*y+1,O⟩) a h];exact j y g
 rw[f.cell (p:=⟨e,2*y,O⟩) b i,f.cell (p:=⟨e,2*y+1,O⟩) b i];exact d y g
def ER.lt(h:ER w b L k j):b<w.heap.size:=ahI
def ER.get(h:ER w b L 16 0){y v:N}(d:1<=n)(a:n<=15)(e:r<(Cs L n).length)(f:(Cs L n).getD r 0=y)(g:AO L n+r=v):
 w.cell? ⟨b,2*y,O⟩=J (I Q (v:N))/\w.cell? ⟨b,2*y+1,O⟩=J (I Q (n:N)):=by
 obtain⟨a,c,_,i⟩:=h;have:=i n r d (.inl A) e;rw[f,g] at this;rw[Wu w b _ a _ (0,0) c,Wu w b _ a _ (0,0) c];exact this
def vw(e:ER w b CF 16 0)(f:ER w c CX 16 0):UL w b c:=by
 refine⟨e.lt,f.lt,λy _=>?_,λd b=>?_⟩
 .unfold TL Ku;by_cases a:y<144
  .rw[Wz a,Wz a];exact e.get (n:=8) (r:=y) A A (by rw[TK];simp;omega) (by rw[TK,Wq,WW<|by simpa using a];simp[a])<|by rw[LH]
  rw[Wx a,Wx a];by_cases a:y<256
  .rw[Wz a,Wz a];exact e.get (n:=9) (r:=y-144) A A (by rw[qV];simp;omega) (by rw[qV,DQ _ _ _ A];omega)<|by rw[cq]
  rw[Wx a,Wx a];by_cases a:y<280
  .rw[Wz a,Wz a];exact e.get (n:=7) (r:=y-256) A A (by rw[YJ];simp;omega) (by rw[YJ,DQ _ _ _ A];omega)<|by rw[GD 7 A];omega
  rw[Wx a,Wx a];exact e.get (n:=8) (r:=144+(y-280)) A A (by rw[TK];simp;omega) (by rw[TK,Wq,WU Ad,<-Wq,DQ _ _ _ ako];simp;omega)<|by rw[LH];omega
 exact f.get (n:=5) (r:=d) A A (by rw[fM];simp;omega) (by rw[fM,Wq];simp[b])<|by rw[Nn 5 A];omega
abbrev rM:ν:=153
def dm(w:U):
 μ F 120 #[] w λr w'=>∃g b c,r=ε (V<|J ⟨g,0,O⟩)/\Am w w'/\w.heap.size<=b/\w.heap.size<=c/\b<g/\c<g/\w'.heap.size=g+1/\UL w' b c/\
  w'.heap[g]? =J (W (#[K O 0 0,I Q 0]++ #[K (J ⟨b,0,O⟩) 288 288,K (J ⟨c,0,O⟩) 32 32]) rM (0,0)):=by
 have j:=UK w;go_in;go_wp2_with fail;apply j.mono;rintro r u ⟨rfl,i,j⟩;have s:=(gg w.heap.size 0 288 CF alh fX u i);rw[BU] at s;have d:=j;go_wp2_with fail;apply s.mono;rintro r k ⟨b,rfl,l,i,_⟩;have j:=Sq k;have m:(Am w k):=d.trans l;have n:=i;have:=d.size;go_wp2_with fail;apply j.mono;rintro r t ⟨rfl,o,d⟩;have i:=(gg k.heap.size 0 32 CX aln fY t o);rw[DS] at i;have e:(Am w t):=m.trans d;have p:=n.kept d λx=>x;go_wp2_with fail;apply i.mono;rintro r h ⟨c,rfl,f,d,_⟩;have q:(Am w h):=e.trans f;have a:=vw (p.kept f λx=>x) d;have:=e.size;go_wp2;go_ret;refine⟨h.heap.size,b,c,rfl,q.alloc _,A,A,a.1,a.2.1,by simp only[WP],a.kept ((Ag.refl (λ_=>False) h).alloc _) (λx=>x) λx=>x,?_⟩;exact WD h _
abbrev vx(gS gD:N):φ M:= #[K (J ⟨gS,0,O⟩) 288 288,K (J ⟨gD,0,O⟩) 32 32]
def Pk(w:U)(g gS gD:N)(S:N->Prop)(B:E N):Prop:=Wr w g rM (vx gS gD) S B/\UL w gS gD
def Pk.c2{a:E N}(h:Pk w g b c S a):w.cell? ⟨g,2,O⟩=J (K (J ⟨b,0,O⟩) 288 288):=by
 obtain⟨⟨_,_,a,_,_⟩,_⟩:=h;rw[Wu w g 2 _ _ (0,0) a];rfl
def Pk.c3{a:E N}(h:Pk w g c b S a):w.cell? ⟨g,3,O⟩=J (K (J ⟨b,0,O⟩) 32 32):=by
 obtain⟨⟨_,_,a,_,_⟩,_⟩:=h;rw[Wu w g 3 _ _ (0,0) a];rfl
def Su:rM≠5:=Ac
def Xo(g b d:N)(S:N->Prop)(e:S g)(q:¬S b)(s:¬S d)(a:E N)(t:NX a)(u:a.length+16<=1000000)(y:N)(x:y<288)(w:U)(z:BI S w)(h:Pk w g b d S a):
 μ F 124 #[V<|J ⟨g,0,O⟩,I Q y] w λr w'=>r=ε (η #[])/\Ag S w w'/\Pk w' g b d S (a++GS y):=by
 have f:=h.c2;obtain⟨j,k⟩:=h.2.2.2.1 y x;have l:=h.2;have:TL y<=1000:=by unfold TL;repeat (first|split|omega)
 have D:=λc=>tW g rM Su (vx b d) S e a t u (TL y) (Ku y) A (WI (Xb y) A) (w.drewN c) z h.1
 have m:(Gg (TL y) (Ku y)=GS y):=rfl;generalize TL y=v,Ku y=n at*;have:(y:Z)<288:=A;have:(0:Z)<=(y:Z):=A;have:y*2=2*y:=abg _ _;go_in;go_upto_region 0 with fail;have a:w.drew.cell? ⟨g,2,O⟩=J (K (J ⟨b,0,O⟩) 288 288)/\w.drew.cell? ⟨b,2*y,O⟩=J (I Q v)/\w.drew.cell? ⟨b,2*y+1,O⟩=J (I Q n):=⟨f,j,k⟩;refine Ai (S:=λc=>c.cell? ⟨g,2,O⟩=J (K (J ⟨b,0,O⟩) 288 288)/\c.cell? ⟨b,2*y,O⟩=J (I Q v)/\c.cell? ⟨b,2*y+1,O⟩=J (I Q n)) (L:=10) B ?_;refine tk 0 11 (V<|J ⟨g,0,O⟩) 4 a ?_;refine tk 1 11 (V<|J ⟨g,0,O⟩) 5 a ?_;refine tk 2 11 (V<|J ⟨g,0,O⟩) 6 a ?_;refine tk 3 11 (V<|J ⟨g,0,O⟩) 7 a ?_;refine tk 4 11 (V<|J ⟨g,0,O⟩) 8 a ?_;refine tk 5 11 (V<|J ⟨g,2,O⟩) 9 a ?_;refine tk 6 11 (K (J ⟨b,0,O⟩) 288 288) 10 a ?_;refine tk 7 11 (I Q y) 11 a ?_;refine tk 8 11 (V<|J ⟨b,2*y,O⟩) 12 a ?_;refine tk 9 11 (.agg #[I Q v,I Q n]) 13 a ?_;refine Ah (i:=10) B ?_;refine WE rfl λ_ c=>?_;go_simp;apply(D 1).mono;rintro r P ⟨rfl,o,a⟩;refine c _ _ ⟨λh=>κ rfl h,?_⟩;refine Aj B ?_;have c:=((Ag.refl S w).drewN 1).trans o;have p:=a;go_wp2_with fail;go_end0;exact⟨rfl,c,by rw[<-m];exact p,l.kept c q s⟩
def yU(g h c:N)(S:N->Prop)(j:S g)(h1:¬S h)(h2:¬S c)(d:E N)(hB:NX d)(v:d.length+80<=1000000)(a b:N)(h3:3<=a)(v:a<=258)(a3:1<=b)(a5:b<=20000)(w:U)(hF:BI S w)(a4:Pk w g h c S d):
 μ F 123 #[V<|J ⟨g,0,O⟩,I Q a,I Q b] w λr w'=>r=ε (η #[])/\Ag S w w'/\Pk w' g h c S (d++GU (.inr (a,b))):=by
 obtain⟨a5,a6,_,_,_⟩:=RR a h3 v;obtain⟨v,_,_⟩:=Pa b a3 A;have:=wn (wC.1 UH _ (wh.2 (show CK b<30 by omega)));have H1:=vq a w;have a7:(d++GS (CD a)++Dt (a-Bg (CD a)) (AM<|CD a)++Gg (CK b) 5++Dt (b-AY (CK b)) (Bb<|CK b)=d++GU (.inr (a,b))):=by
  simp only[GU,iU,WG]
 have HP:=a4;have:(GS<|CD a).length<=9:=by rw[GT];exact Xb _
 have l:NX<|GS (CD a):=GC _ _;have H2:=λm=>Nm (CD a) a5 a6 m
 have H5:=λm=>RP (CK b) v m
 have n:CD a<288:=A;have x:CK b<32:=A;generalize c5:CD a=sy,hdd:CK b=y at*;generalize Bg sy=lb,hlbb:AM sy=lk,AY y=db,Bb y=dk at*;have a8:=hdd;have:IntKind.i64.wrap ((a:Z)-lb)=((a-lb:N):Z):=akR
 have:IntKind.i64.wrap ((b:Z)-db)=((b-db:N):Z):=akR
 have a9:a-lb<=1000000:=A;have b0:b-db<=1000000:=A;have b1:lk<=16:=A;generalize a-lb=lv,b-db=dv at*;have:(y:Z)<32:=A;have:(0:Z)<=(y:Z):=A;have:y*2=2*y:=abg _ _;go_in;go_wp2_with fail;apply H1.mono;rintro r w1 ⟨rfl,e⟩;have b2:=Ag.oldS (S:=S) e;have o:=hF.mono e.size;have b3:(Pk w1 g h c S d):=by
  obtain⟨⟨ao,p,z,q,s⟩,a⟩:=HP;exact⟨⟨ao,p,(e.block g (KV z) λf=>f).trans z,Dp q e,s⟩,a.kept e (λa=>a) λa=>a⟩
 go_wp2_with fail;apply(H2 _).mono;rintro r w2 ⟨rfl,rfl⟩;have a:=Xo g h c S j h1 h2 d hB A sy n w2 o b3;go_wp2_with fail;apply a.mono;rintro r w3 ⟨rfl,t,a⟩;have e:=(Mz g rM Su (vx h c) S j _ (hB.append l) (by rw[Ws];omega) lv lk a9 b1 w3 (o.mono t.size) a.1);have D:=a.2;have b4:=b2.trans t;have b5:=o.mono t.size;go_wp2_with fail;apply e.mono;rintro r w4 ⟨rfl,u,a⟩;have P:=D.kept u h1 h2;have b6:=b4.trans u;have b7:=b5.mono u.size;have b9:=a;have a:=rK b w4;rw[a8] at a;go_wp2_with fail;apply a.mono;rintro r w5 ⟨rfl,f⟩;have c0:=b6.trans<|Ag.oldS f;have R:=b7.mono f.size;have k:(Pk w5 g h c S<|d++GS sy++Dt lv lk):=by
  obtain⟨ao,p,z,q,s⟩:=b9;exact⟨⟨ao,p,(f.block g (KV z) λa=>a).trans z,Dp q f,s⟩,P.kept f (λa=>a) λa=>a⟩
 go_wp2_with fail;apply(H5 _).mono;rintro r T ⟨rfl,rfl⟩;go_upto_region 6 with fail;have b:=k.c3;obtain⟨e,f⟩:=k.2.2.2.2 y x;have n:=(λa=>tW g rM Su (vx h c) S j (d++GS sy++Dt lv lk) ((hB.append l).append<|Gh _ _) (by rw[Ws,Ws,EL];omega) y 5 A A (T.drewN a) R k.1);have a:T.drew.cell? ⟨g,3,O⟩=J (K (J ⟨c,0,O⟩) 32 32)/\T.drew.cell? ⟨c,2*y,O⟩=J (I Q y)/\T.drew.cell? ⟨c,2*y+1,O⟩=J (I Q 5):=⟨b,e,f⟩;refine Ai (S:=λm=>m.cell? ⟨g,3,O⟩=J (K (J ⟨c,0,O⟩) 32 32)/\m.cell? ⟨c,2*y,O⟩=J (I Q y)/\m.cell? ⟨c,2*y+1,O⟩=J (I Q 5)) (L:=10) B ?_;refine tk 0 11 (V<|J ⟨g,0,O⟩) 37 a ?_;refine tk 1 11 (V<|J ⟨g,0,O⟩) 38 a ?_;refine tk 2 11 (V<|J ⟨g,0,O⟩) 39 a ?_;refine tk 3 11 (V<|J ⟨g,0,O⟩) 40 a ?_;refine tk 4 11 (V<|J ⟨g,0,O⟩) 41 a ?_;refine tk 5 11 (V<|J ⟨g,3,O⟩) 42 a ?_;refine tk 6 11 (K (J ⟨c,0,O⟩) 32 32) 43 a ?_;refine tk 7 11 (I Q y) 44 a ?_;refine tk 8 11 (V<|J ⟨c,2*y,O⟩) 45 a ?_;refine tk 9 11 (.agg #[I Q y,I Q 5]) 46 a ?_;refine Ah (i:=10) B ?_;refine WE rfl λ_ hK=>?_;go_simp;apply(n 1).mono;rintro r w7 ⟨rfl,m,a⟩;refine hK _ _ ⟨λa4=>κ rfl a4,?_⟩;refine Aj B ?_;have c1:=(c0.drewN 1).trans m;have b:=R.mono<|WI (WF _) m.size;have a0:=k.2.kept (((Ag.refl S T).drewN 1).trans m) h1 h2;have e:=(Mz g rM Su (vx h c) S j (d++GS sy++Dt lv lk++Gg y 5) (((hB.append l).append<|Gh _ _).append<|GC _ _) (by rw[Ws,Ws,Ws,EL,Ev];omega) dv dk b0 A w7 b a);go_wp2_with fail;apply e.mono;rintro r w8 ⟨rfl,a1,a⟩;have c2:=c1.trans a1;have a2:=a0.kept a1 h1 h2;have c4:=a;go_wp2_with fail;go_end0;exact⟨rfl,c2,by rw[<-a7];exact c4,a2⟩
def DY(w:U)(S:N->Prop)(v:M)(l:E υ):Prop:=
 ∃ao cap,v=K ao l.length cap/\w.ownsRow 0 5 1 (K ao l.length cap) l.length (Al l)/\∀b:Addr,ao=J b->S b.block
def DY.nil(w:U)(S:N->Prop):DY w S (K O 0 0) []:=⟨O,0,rfl,WZ w 0 5 1,λb a=>by cases a⟩
def dq{v:M}{a:E M}(h:w.ownsRow 0 5 1 v n a)(d:v.ownBlock=J b){a:φ M}(f:w.heap[g]? =J (W a e x))(i:e≠5):b≠g:=by
 obtain⟨_,c⟩:=DD h d;rintro rfl;rw[f] at c;injection c with c;injection c with j a;exact i a
def DY.kept{v:M}(h:DY w S v l)(i:Ag T w w')(j:∀k,S k->¬T k):DY w' S v l:=by
 obtain⟨g,e,rfl,f,c⟩:=h;refine⟨g,e,rfl,CJ f i λb d=>?_,c⟩;cases g with
 |none=>cases d
 |some a=>injection d with d;subst d;exact j _<|c a rfl
def DY.old{v:M}(h:DY w S v l)(a:Am w w'):DY w' S v l:=h.kept a λ_ _ x=>x
def DY.mono{v:M}(h:DY w S v l)(e:∀k,S k->T k):DY w T v l:=by
 obtain⟨f,a,g,c,d⟩:=h;exact⟨f,a,g,c,λb a=>e _<|d b a⟩
def DY.but{v:M}(i:DY w S v l){a:φ M}(j:w.heap[g]? =J (W a e x))(m:e≠5):DY w (λk=>S k/\k≠g) v l:=by
 obtain⟨n,d,rfl,c,f⟩:=i;refine⟨n,d,rfl,c,λb h=>⟨f b h,?_⟩⟩;subst h;exact dq c rfl j m
def DY.lt{v:M}(h:DY w S v l):DY w (λk=>S k/\k<w.heap.size) v l:=by
 obtain⟨f,c,rfl,a,d⟩:=h;refine⟨f,c,rfl,a,λb e=>⟨d b e,?_⟩⟩;subst e;obtain⟨_,c⟩:=DD a (b:=b.block) rfl;exact(Wt.1 c).1
def Sv(l:E υ):(Al l).length=l.length:=ali
def Sw(l m:E υ):Al (l++m)=Al l++Al m:=by simp only[Al,wV]
def DY.more{ao ao2:Option Addr}{H:N}(e:S H)(d:Ag S w w1)(a:∀b:Addr,ao=J b->S b.block)
 (f:w2.ownsRow 0 5 1 (K ao2 (l.length+bs.length) cap2) (l.length+bs.length)<|Al l++Al bs)(g:w1.grownBy w2 (Value.slice ao l.length cap).ownBlock)(h:∀b:Addr,ao2=J b->(Value.slice ao l.length cap).ownBlock=J b.block\/b.block=H):
 Ag S w w2/\DY w2 S (K ao2 (l.length+bs.length) cap2) (l++bs):=by
 refine⟨d.grown g λ_ _ c=>?_,ao2,cap2,by rw[Ws],by rw[Ws,Sw];exact f,λb i=>?_⟩
 .cases ao with
  |none=>cases c
  |some b=>injection c with c;subst c;exact a b rfl
 rcases h b i with h5|h5
 .cases ao with
  |none=>cases h5
  |some i =>injection h5 with h5;rw[<-h5];exact a i rfl
 rw[h5];exact e
def leB(v n:N):E υ:=(List.range n).map λp=>b8<|v/2^(8*p)%256
def BA(v n:N):(leB v n).length=n:=by simp[leB]
def Zu(v n:N):leB v (n+1)=leB v n++[b8<|v/2^(8*n)%256]:=by simp[leB,aaS]
def AJ(ns:E N)(n:N):E υ:=ns.flatMap λv=>leB v n
def DB(ns:E N)(n:N):(AJ ns n).length=ns.length*n:=by
 induction ns with
 |nil=>simp[AJ]
 |cons a r b=>rw[AJ,aaC,Ws,BA,<-AJ,b,wu,Nat.succ_mul,acb]
def du(a:E N)(n i:N)(h:i<a.length):AJ (a.take<|i+1) n=AJ (a.take i) n++leB (a.getD i 0) n:=by
 rw[AJ,AJ,take_getD _ _ h,abI];simp
def vy(w:U)(g:N)(ns:E N):Prop:=EH w g 61 ns.length λj=> I σ (ns.getD j 0:N)
def nt(S:N->Prop)(v:M)(l:E υ)(n:N)(hn:n<=4)(g:N)(a:E N)(cap:N)(d:a.length<=8)(o:∀x∈a,x<4294967296)(hl:l.length<=1000000)(w:U)(hF:BI S w)(hv:DY w S v l)(d:vy w g a):
 μ F 284 #[v,I Q n,K (J ⟨g,0,O⟩) a.length cap] w λr w'=>Ag S w w'/\∃v',r=ε v'/\DY w' S v' (l++AJ a n):=by
 obtain⟨i0,z,D,P,R⟩:=wi Ij;have:=d.lt;have HB:(DY w (λk=>S k/\k≠g) v l):=by obtain⟨_,p,_⟩:=d;exact hv.but p Ac
 have HF:(BI (λk=>S k/\k≠g) w):=λk c=>⟨hF k c,A⟩
 have HM:(∀w',Ag (λk=>S k/\k≠g) w w'-> ∀v' c,DY w' (λk=>S k/\k≠g) v' c ->Ag S w w'/\DY w' S v' c):=λw' e v' c h=>⟨e.mono λ_ _ h=>h.1,h.mono λ_ h=>h.1⟩
 have a0:(¬(λk=>S k/\k≠g) g):=λh=>h.2 rfl
 have HG:=d;generalize(λk=>S k/\k≠g)=T at*;have a1:=o;go_in;go_wp2;go_loopw [0,8,9,12] (λb0 _ _ x wr=>∃i:N,i<=a.length/\x=I Q i/\(DY wr T b0<|l++AJ (a.take i) n)/\(Ag T w wr)) λ_ _ _ x _=>a.length-(intOf x).toNat
 .exact ⟨0,A,rfl,by rw[abo,show AJ [] n=[] from rfl,wS];exact HB,Ag.refl _ w⟩
 obtain⟨i,_,rfl,HU,HO⟩:=hrel;by_cases d:i<a.length
 .have h:(i:Z)<a.length:=A;have:=(HG.kept HO a0).cell i d;have:a.getD i 0<4294967296:=by rw[Wq,Wv d];exact a1 _ (WJ d)
  have a2:=du a n i d;have a3:((AJ (a.take i) n).length<=32):=by
   rw[DB,hY];have p:min i a.length<=8:=A;exact WI (abm p hn) Ac
  generalize a.getD i 0=x,AJ (a.take i) n=m at*;have:i<=8:=A;go_wp2;go_loopw [0,9,17] (λd _ y c=>∃j:N,j<=n/\y=I Q j/\(DY c T d<|l++m++leB x j)/\(Ag T w c)) λ_ _ y _=>n-(intOf y).toNat
  .exact ⟨0,A,rfl,by rw[show leB x 0=[] from rfl,wS];exact HU,HO⟩
  obtain⟨j,_,rfl,k,e⟩:=hrel;by_cases b1:j<n
  .have s:(j:Z)<n:=A;have:=a3;have a4:(l++m++leB x (j+1)=l++m++leB x j++[b8<|x/2^(8*j)%256]):=by rw[Zu,WG<|l++m]
   have:(l++m++leB x j).length<=1000100:=by rw[Ws,Ws,BA];omega
   have a5:x/2^(8*j)%256<256:=wU _ A;have:(x:Z)/2^(8*j)%256=((x/2^(8*j)%256:N):Z):=by rw[acq,aax,wY];rfl
   obtain⟨ao,cp,rfl,a6,t⟩:=k;have hA:Am wr<|wr.alloc (W #[I .u8 ((x/2^(8*j)%256:N):Z)] 5):=(Ag.refl _ wr).alloc _;generalize x/2^(8*j)%256=q,l++m++leB x j=L at*;have d:=Dp a6 hA;have a0:=Gy (wr:=wr) (n:=q);have:=t;have a7:=(λ(a1:Option Addr) (c:N) (w3:U)=>DY.more (w:=w) (w1:=wr.alloc<|W #[I .u8 (q:Z)] 5) (w2:=w3) (l:=L) (bs:=[b8 q]) (ao:=ao) (ao2:=a1) (cap:=cp) (cap2:=c) (H:=wr.heap.size+1) (HF _<|by have:=e.size;omega) (e.transNew hA λ_ _ x=>x.elim) t);have a8:Al [b8 q]=[I .u8 (q:Z)]:=by rw[Al,aai,aaF,AN a5]
   go_wp2_with (at_builtin;refine wpList_append_lies _ rfl (.tmp 20) (.tmp 26) 64 rfl 0 5 i0 (I .u8 0) 1 1 underlying64 z D P R rfl A (K ao L.length cp) L.length _ rfl d ⟨wr.heap.size,0,O⟩ 1 1 [I .u8 (q:Z)] rfl rfl a0 (by intro b0 hu;simp at hu;subst hu;rfl) A (by unfold maxLen;omega) A A (wr.heap.size+1) Ad ?_;intro t c w3 f u y d;rw[<-a8] at f;have HX:=(a7 (J ⟨t,0,O⟩) c w3 f u λb o=>by injection o with o;subst o;exact y);clear f u y);go_roundw
   .exact ⟨j+1,A,by go_num,by rw[a4];exact HX.2,HX.1⟩
   exact Ae
  have:¬(j:Z)<n:=A;have a9:j=n:=A;subst a9;go_wp2;go_roundw
  .exact ⟨i+1,A,by go_num,by rw[a2,<-WG];exact k,e⟩
  exact Ae
 have h:¬(i:Z)<a.length:=A;have c:i=a.length:=A;have a:=HU;rw[c,wL] at a;obtain⟨p,c⟩:=HM _ HO _ _ a;have a:=p;have H2:=c;go_wp2;go_ret;exact⟨a,_,rfl,H2⟩
def sL(s:Y):E υ:=s.data.toList
def Dd(s:Y):(sL s).length=s.size:=by rw[sL,wE];rfl
def Zv(s:Y):strCells s=Al (sL s):=by simp[strCells,Al,sL]
def nu(a b:Y):sL (a++b)=sL a++sL b:=by simp[sL,aaE]
structure It where
 name:Y
 way:N
 check:N
 size:N
 packed:Y
abbrev It.v(i:It):φ M:= #[G i.name,I σ i.way,I σ i.check,I σ i.size,G i.packed]
def It.ok(i:It):Prop:=i.way<4294967296/\i.check<4294967296/\i.size<4294967296/\i.name.size<=60000/\i.packed.size<=200000
def GI(w:U)(g:N)(i:It):Prop:=w.heap[g]? =J (W i.v 190 (0,0))
def GI.lt{i:It}(h:GI w g i):g<w.heap.size:=(Wt.1 h).1
def GI.kept{i:It}(h:GI w g i)(a:Ag S w w')(b:¬S g):GI w' g i:=(a.block g h.lt b).trans h
def GI.cells{i:It}(h:GI w g i):w.cell? ⟨g,0,O⟩=J (G i.name)/\w.cell? ⟨g,1,O⟩=J (I σ i.way)/\w.cell? ⟨g,2,O⟩=J (I σ i.check)/\w.cell? ⟨g,3,O⟩=J (I σ i.size)/\w.cell? ⟨g,4,O⟩=J (G i.packed):=by
 refine⟨?_,?_,?_,?_,?_⟩<;>(rw[Wu w g _ _ _ (0,0) h];rfl)
def numV(ns:E N):φ M:=(ns.map λx:N=>Value.int σ (x:Z)).toArray
def IB(S:N->Prop)(v:M)(l:E υ)(n:N)(d:n<=4)(a:E N)(m:N)(c:a.length=m)(b:m<=8)(e:∀x∈a,x<4294967296)(f:l.length<=1000000)(w:U)(H:N)(g:w.heap.size=H)(h:BI S w)(i:DY w S v l):
 μ F 284 #[v,I Q n,K (J ⟨H,0,O⟩) m m] (w.alloc<|W (numV a) 61) λr w'=>Ag S w w'/\∃v',r=ε v'/\DY w' S v' (l++AJ a n):=by
 subst c g;have c:Am w<|w.alloc (W (numV a) 61):=(Ag.refl _ w).alloc _;refine(nt S v l n d w.heap.size a a.length b e f (w.alloc<|W (numV a) 61) (h.mono Ad) (i.old c) ?_).mono ?_
 .refine EH.new w _ _ _ _ (by simp[numV]) λ_ a=>?_;simp only[numV,aaP,aaI,Wq,Wv a,abH,aaH]
 rintro r w' ⟨a,h⟩;exact⟨(Ag.oldS c).trans a,h⟩
def DT(p:Y)(i:It):E υ:=AJ [20,0,i.way,0,33] 2++AJ [i.check,i.packed.size,i.size] 4++AJ [p.size+i.name.size,0] 2
def Fe(p:Y)(i:It):(DT p i).length=26:=by simp[DT,DB]
def tY(S:N->Prop)(v:M)(l:E υ)(p:Y)(hp:p.size<=1000)(i:It)(L:i.ok)(hl:l.length<=900000)(w:U)(hF:BI S w)(hv:DY w S v l):
 μ F 285 #[v,G p,.agg i.v] w λr w'=>Ag S w w'/\∃v',r=ε v'/\DY w' S v' (l++DT p i):=by
 obtain⟨_,_,_,_,_⟩:=L;have L:Am w<|w.alloc (W i.v 190):=(Ag.refl _ w).alloc _;have o:C<|GI (w.alloc<|W i.v 190) w.heap.size i:=WD w _;have HB:=H ((hv.old L).but o Ac);have q:C (BI (λk=>S k/\k≠w.heap.size)<|w.alloc (W i.v 190)):=λk a=>by rw[WP] at a;exact⟨hF k A,A⟩
 have HM:C (∀w',Ag (λk=>S k/\k≠w.heap.size) (w.alloc<|W i.v 190) w'-> ∀v' a,DY w' (λk=>S k/\k≠w.heap.size) v' a ->Ag S w w'/\DY w' S v' a):=λw' b v' a h=>⟨(Ag.oldS L).transNew b λ_ _ h=>h.1,h.mono λ_ h=>h.1⟩
 have g:C (¬(λk=>S k/\k≠w.heap.size) w.heap.size):=λh=>h.2 rfl
 generalize(λk=>S k/\k≠w.heap.size)=T at*;obtain⟨c0,c1,c2,c3,c4⟩:=o.cells;have HT:C<|l++DT p i=l++AJ [20,0,i.way,0,33] 2++AJ [i.check,i.packed.size,i.size] 4++AJ [p.size+i.name.size,0] 2:=by unfold C DT;simp only[WG]
 have s:C ((l++AJ [20,0,i.way,0,33] 2).length<=900010):=by unfold C;rw[Ws,DB];simp;omega
 have t:C ((l++AJ [20,0,i.way,0,33] 2++AJ [i.check,i.packed.size,i.size] 4).length<=900030):=by unfold C;rw[Ws,Ws,DB,DB];simp;omega
 obtain⟨b,c,e,f,a⟩:=i;simp only[It.v] at*;have:IntKind.u32.wrap (a.size:Z)=a.size:=akT
 have:IntKind.u32.wrap ((p.size:Z)+b.size)=((p.size+b.size:N):Z):=akT
 have L:C (μ F 284 #[v,I Q 2,K (J ⟨w.heap.size+1,0,O⟩) 5 5] ((w.alloc<|W #[G b,I σ (c:Z),I σ (e:Z),I σ (f:Z),G a] 190).alloc<|W #[I σ 20,I σ 0,I σ (c:Z),I σ 0,I σ 33] 61) λr w'=>Ag T (w.alloc<|W #[G b,I σ (c:Z),I σ (e:Z),I σ (f:Z),G a] 190) w'/\∃v',r=ε v'/\DY w' T v' (l++AJ [20,0,c,0,33] 2)):=
  IB T v l 2 A [20,0,c,0,33] 5 rfl A ako A _ (w.heap.size+1) (by rw[WP]) q HB
 go_in;go_wp2_with fail;apply L.mono;rintro r m ⟨d,P,rfl,u⟩;have x:=H d;have h:=H<|o.kept d g;have o:C (μ F 284 #[P,I Q 4,K (J ⟨m.heap.size,0,O⟩) 3 3] (m.alloc<|W #[I σ (e:Z),I σ (a.size:Z),I σ (f:Z)] 61) λr w'=>Ag T m w'/\∃v',r=ε v'/\DY w' T v' (l++AJ [20,0,c,0,33] 2++AJ [e,a.size,f] 4)):=
  IB T P _ 4 A [e,a.size,f] 3 rfl A ako (by have:=X s;omega) m _ rfl (q.mono d.size) u
 obtain⟨_,_,_,_,_⟩:=h.cells;go_wp2_with fail;apply o.mono;rintro r n ⟨j,R,rfl,y⟩;have k:=H<|x.trans j;have d:=H<|h.kept j g;have g:C (μ F 284 #[R,I Q 2,K (J ⟨n.heap.size,0,O⟩) 2 2] (n.alloc<|W #[I σ ((p.size+b.size:N):Z),I σ 0] 61) λr w'=>Ag T n w'/\∃v',r=ε v'/\DY w' T v' (l++AJ [20,0,c,0,33] 2++AJ [e,a.size,f] 4++AJ [p.size+b.size,0] 2)):=
  IB T R _ 2 A [p.size+b.size,0] 2 rfl A ako (by have:=X t;omega) n _ rfl (q.mono k.size) y
 obtain⟨c0,c1,c2,c3,c4⟩:=d.cells;go_wp2_with fail;apply g.mono;rintro r w3 ⟨z,v3,rfl,D⟩;have HX:=H<|HM w3 (k.trans z) v3 _ D;go_wp2_with fail;exact ajZ
abbrev Kf:Y:=⟨#[80,75,3,4]⟩
abbrev LD:Y:=⟨#[80,75,1,2]⟩
abbrev IC:Y:=⟨#[80,75,5,6]⟩
def DY.str{ao ao2:Option Addr}(c:BI S w1)(s:Y)(a:∀b:Addr,ao=J b->S b.block)
 (d:w2.ownsRow 0 5 1 (K ao2 (l.length+s.size) cap2) (l.length+s.size)<|Al l++strCells s)(e:w1.grownBy w2 (Value.slice ao l.length cap).ownBlock)(f:∀b:Addr,ao2=J b->(Value.slice ao l.length cap).ownBlock=J b.block\/b.block=w1.heap.size):
 Ag S w1 w2/\DY w2 S (K ao2 (l.length+s.size) cap2) (l++sL s):=by
 have h:=DY.more (w:=w1) (w1:=w1) (w2:=w2) (l:=l) (bs:=sL s) (ao:=ao) (ao2:=ao2) (cap:=cap) (cap2:=cap2) (H:=w1.heap.size) (c _<|WF _) (Ag.refl _ w1) a (by rw[Dd,<-Zv];exact d) e f;rw[Dd] at h;exact h
def Bk(p:Y)(i:It):E υ:=sL Kf++DT p i++sL (p++i.name)++sL i.packed
def vz(S:N->Prop)(v:M)(l:E υ)(p:Y)(hp:p.size<=1000)(i:It)(b:i.ok)(c:l.length<=600000)(w:U)(t:BI S w)(hv:DY w S v l):
 μ F 218 #[v,G p,.agg i.v] w λr w'=>Ag S w w'/\∃v',r=ε v'/\DY w' S v' (l++Bk p i):=by
 obtain⟨i0,f,g,h,j⟩:=wi Ij;have HK:=H b;have c:Am w<|w.alloc (W i.v 190):=(Ag.refl _ w).alloc _;have HI:C<|GI (w.alloc<|W i.v 190) w.heap.size i:=WD w _;have HB:=H ((hv.old c).but HI Ac);have HF:C (BI (λk=>S k/\k≠w.heap.size)<|w.alloc (W i.v 190)):=λk a=>by rw[WP] at a;exact⟨t k A,A⟩
 have HM:C (∀w',Ag (λk=>S k/\k≠w.heap.size) (w.alloc<|W i.v 190) w'-> ∀v' a,DY w' (λk=>S k/\k≠w.heap.size) v' a ->Ag S w w'/\DY w' S v' a):=λw' d v' a a=>⟨(Ag.oldS c).transNew d λ_ _ a=>a.1,a.mono λ_ a=>a.1⟩
 have m:C (¬(λk=>S k/\k≠w.heap.size) w.heap.size):=λa=>a.2 rfl
 have HT:C<|l++Bk p i=l++sL Kf++DT p i++sL (p++i.name)++sL i.packed:=by unfold C Bk;simp only[WG]
 generalize(λk=>S k/\k≠w.heap.size)=T at*;have c:C ((l++sL Kf).length<=600010):=by unfold C;rw[Ws,Dd];simp[ByteArray.size];omega
 have q:C ((l++sL Kf++DT p i).length<=600050):=by unfold C;rw[Ws,Fe];have:=X c;omega
 have a6:C ((l++sL Kf++DT p i++sL (p++i.name)).length<=700000):=by unfold C;rw[Ws,Dd,WC];have:=X q;have:=b.2.2.2.1;omega
 have:¬9223372036854775807<p.size+i.name.size:=by have:=b.2.2.2.1;omega
 have:=b.2.2.2.2;have:(p++i.name).size<=61000:=by rw[WC];have:=b.2.2.2.1;omega
 have H2:=H (λ(b:U) (v1:M) (k:BI T b) (t:DY b T v1<|l++sL Kf)=>tY T v1 (l++sL Kf) p hp i HK (by have:=X c;omega) b k t);generalize DT p i=tl at*;obtain⟨s,_,_,_,pk⟩:=i;simp only[It.v] at*;obtain⟨ao,x,rfl,u,b⟩:=X HB;have t:=H u;have a7:=H λk c w2=>DY.str (w2:=w2) (ao2:=k) (cap2:=c) HF Kf b (l:=l) (cap:=x);have:Kf.size=4:=rfl;have b:=HI.cells;obtain⟨c0,c1,c2,c3,c4⟩:=b;go_in;go_upto_region 2 with(at_builtin;refine Cn rfl (.tmp 7) (.const<|G Kf) 64 9 rfl 0 5 i0 (I .u8 0) underlying64 underlying9 f g h j rfl (K ao l.length x) l.length _ rfl t Kf rfl (by unfold maxLen;omega) A A ?_;intro k c w2 b t u;have x:=H<|a7 k c w2 b t u;clear b t u);have b:=x.1;have y:=H b;have z:=H<|HI.kept b m;have c:=H<|H2 w2 _ (HF.mono b.size) x.2;obtain⟨d0,d1,d2,d3,d4⟩:=z.cells;go_wp2_with fail;apply c.mono;rintro r w3 ⟨n,_,rfl,a8⟩;have D:=H<|z.kept n m;have L:=H<|HF.mono (WI y.size n.size);have a9:=H<|y.trans n;obtain⟨b0,P,rfl,R,b⟩:=a8;have a0:=H R;have a1:=H λe a w4=>DY.str (w2:=w4) (ao2:=e) (cap2:=a) L (p++s) b (l:=l++sL Kf++tl) (cap:=P);obtain⟨c0,c1,c2,c3,c4⟩:=D.cells;have:=X q;have b1:=H<|X a6;generalize l++sL Kf++tl=l3 at*;obtain⟨_,b2⟩:∃b,l3.length+(p++s).size=b:=⟨_,rfl⟩;go_upto_region 4 with(at_builtin;refine Cn rfl (.tmp 13) (.tmp 17) 64 9 rfl 0 5 i0 (I .u8 0) underlying64 underlying9 f g h j rfl (K b0 l3.length P) l3.length _ rfl a0 (p++s) rfl (by unfold maxLen;omega) A A ?_;intro e a w4 b n c;have k:=a1 e a w4 b n c;rw[b2] at k ⊢;have q:=H k;clear b n c k);have b:=q.1;have k:=q.2;have b3:=H<|D.kept b m;have b4:=H<|L.mono b.size;have b5:=H<|a9.trans b;have c:=X b1;obtain⟨_,_,b6,a2,a3⟩:=k;injection b6 with e1 e2 e3;subst e1 e2 e3;have a4:=H a2;have a5:=H λo d w6=>DY.str (w2:=w6) (ao2:=o) (cap2:=d) b4 pk a3 (l:=l3++sL (p++s)) (cap:=a);obtain⟨d0,d1,d2,d3,d4⟩:=b3.cells;generalize l3++sL (p++s)=l5 at*;go_wp2_with (at_builtin;refine Cn rfl (.tmp 19) (.tmp 21) 64 9 rfl 0 5 i0 (I .u8 0) underlying64 underlying9 f g h j rfl (K e l5.length a) l5.length _ rfl a4 pk rfl (by unfold maxLen;omega) A A ?_;intro o d w6 a b c;have e:=H<|a5 o d w6 a b c;clear a b c);have HX:=H<|HM w6 (b5.trans e.1) _ _ e.2;exact ajZ
def BN(p:Y)(i:It)(a:N):E υ:=sL LD++AJ [20] 2++DT p i++AJ [0,0,0] 2++AJ [0,a] 4++sL (p++i.name)
def nw(S:N->Prop)(v:M)(l:E υ)(p:Y)(z:p.size<=1000)(i:It)(c:i.ok)(a:N)(e:a<4294967296)(hl:l.length<=600000)(w:U)(f:BI S w)(hv:DY w S v l):
 μ F 217 #[v,G p,.agg i.v,I Q a] w λr w'=>Ag S w w'/\∃v',r=ε v'/\DY w' S v' (l++BN p i a):=by
 obtain⟨i0,n,o,q,s⟩:=wi Ij;have HK:=H c;have e:Am w<|w.alloc (W i.v 190):=(Ag.refl _ w).alloc _;have HI:C<|GI (w.alloc<|W i.v 190) w.heap.size i:=WD w _;have HB:=H ((hv.old e).but HI Ac);have HF:C (BI (λk=>S k/\k≠w.heap.size)<|w.alloc (W i.v 190)):=λk b=>by rw[WP] at b;exact⟨f k A,A⟩
 have HM:C (∀w',Ag (λk=>S k/\k≠w.heap.size) (w.alloc<|W i.v 190) w'-> ∀v' b,DY w' (λk=>S k/\k≠w.heap.size) v' b ->Ag S w w'/\DY w' S v' b):=λw' d v' b h=>⟨(Ag.oldS e).transNew d λ_ _ h=>h.1,h.mono λ_ h=>h.1⟩
 have d:C (¬(λk=>S k/\k≠w.heap.size) w.heap.size):=λh=>h.2 rfl
 have HT:C<|l++BN p i a=l++sL LD++AJ [20] 2++DT p i++AJ [0,0,0] 2++AJ [0,a] 4++sL (p++i.name):=by unfold C BN;simp only[WG]
 generalize(λk=>S k/\k≠w.heap.size)=T at*;have t:C ((l++sL LD).length<=600010):=by unfold C;rw[Ws,Dd];simp[ByteArray.size];omega
 have b:C ((l++sL LD++AJ [20] 2).length<=600020):=by unfold C;rw[Ws,DB];have:=X t;simp at*;omega
 have u:C ((l++sL LD++AJ [20] 2++DT p i).length<=600060):=by unfold C;rw[Ws,Fe];have:=X b;omega
 have x:C ((l++sL LD++AJ [20] 2++DT p i++AJ [0,0,0] 2).length<=600080):=by unfold C;rw[Ws,DB];have:=X u;simp only[wu,abc] at*;omega
 have a7:C ((l++sL LD++AJ [20] 2++DT p i++AJ [0,0,0] 2++AJ [0,a] 4).length<=600100):=by unfold C;rw[Ws,DB];have:=X x;simp only[wu,abc] at*;omega
 have:¬9223372036854775807<p.size+i.name.size:=by have:=c.2.2.2.1;omega
 have:(p++i.name).size<=61000:=by rw[WC];have:=c.2.2.2.1;omega
 have H2:=H (λ(c:U) (v1:M) (e:BI T c) (f:DY c T v1<|l++sL LD++AJ [20] 2)=>tY T v1 (l++sL LD++AJ [20] 2) p z i HK (by have:=X b;omega) c e f);generalize DT p i=tl at*;obtain⟨nm,_,_,_,_⟩:=i;simp only[It.v] at*;obtain⟨ao,D,rfl,y,c⟩:=X HB;have z:=H y;have a8:=H λe b f=>DY.str (w2:=f) (ao2:=e) (cap2:=b) HF LD c (l:=l) (cap:=D);have:LD.size=4:=rfl;have c:=HI.cells;obtain⟨c0,c1,c2,c3,c4⟩:=c;go_in;go_upto_region 2 with(at_builtin;refine Cn rfl (.tmp 9) (.const<|G LD) 64 9 rfl 0 5 i0 (I .u8 0) underlying64 underlying9 n o q s rfl (K ao l.length D) l.length _ rfl z LD rfl (by unfold maxLen;omega) A A ?_;intro e b f c y z;have D:=H<|a8 e b f c y z;clear c y z);have c:=D.1;have L:=H c;have a9:=H<|HI.kept c d;have y:C (μ F 284 #[K e (l.length+LD.size) b,I Q 2,K (J ⟨f.heap.size,0,O⟩) 1 1] (f.alloc<|W #[I σ 20] 61) λr w'=>Ag T f w'/\∃v',r=ε v'/\DY w' T v' (l++sL LD++AJ [20] 2)):=
  IB T _ _ 2 A [20] 1 rfl A Ad (by have:=X t;omega) f _ rfl (HF.mono c.size) D.2
 go_wp2_with fail;apply y.mono;rintro r w3 ⟨g,_,rfl,b0⟩;have P:=H<|a9.kept g d;have R:=H<|HF.mono (WI L.size g.size);have b1:=H<|L.trans g;have b:=H<|H2 w3 _ R b0;obtain⟨_,_,_,_,_⟩:=P.cells;go_wp2_with fail;apply b.mono;rintro r m ⟨h,v4,rfl,b2⟩;have b3:=H<|P.kept h d;have a0:=H<|R.mono h.size;have b4:=H<|b1.trans h;have b:C (μ F 284 #[v4,I Q 2,K (J ⟨m.heap.size,0,O⟩) 3 3] (m.alloc<|W #[I σ 0,I σ 0,I σ 0] 61) λr w'=>Ag T m w'/\∃v',r=ε v'/\DY w' T v' (l++sL LD++AJ [20] 2++tl++AJ [0,0,0] 2)):=
  IB T _ _ 2 A [0,0,0] 3 rfl A Ad (by have:=X u;omega) m _ rfl a0 b2
 go_wp2_with fail;apply b.mono;rintro r w5 ⟨j,v5,rfl,b5⟩;have b6:=H<|b3.kept j d;have a1:=H<|a0.mono j.size;have b7:=H<|b4.trans j;have b:C (μ F 284 #[v5,I Q 4,K (J ⟨w5.heap.size,0,O⟩) 2 2] (w5.alloc<|W #[I σ 0,I σ (a:Z)] 61) λr w'=>Ag T w5 w'/\∃v',r=ε v'/\DY w' T v' (l++sL LD++AJ [20] 2++tl++AJ [0,0,0] 2++AJ [0,a] 4)):=
  IB T _ _ 4 A [0,a] 2 rfl A ako (by have:=X x;omega) w5 _ rfl a1 b5
 have:IntKind.u32.wrap (a:Z)=a:=akT
 go_wp2_with fail;apply b.mono;rintro r w6 ⟨k,_,rfl,b9⟩;have c5:=H<|b6.kept k d;have c6:=H<|a1.mono k.size;have c7:=H<|b7.trans k;obtain⟨c8,a2,rfl,a3,b⟩:=b9;have:=X a7;have a4:=H a3;have a5:=H λd c m=>DY.str (w2:=m) (ao2:=d) (cap2:=c) c6 (p++nm) b (l:=l++sL LD++AJ [20] 2++tl++AJ [0,0,0] 2++AJ [0,a] 4) (cap:=a2);obtain⟨c0,c1,c2,c3,c4⟩:=c5.cells;generalize l++sL LD++AJ [20] 2++tl++AJ [0,0,0] 2++AJ [0,a] 4=l7 at*;go_wp2_with (at_builtin;refine Cn rfl (.tmp 26) (.tmp 30) 64 9 rfl 0 5 i0 (I .u8 0) underlying64 underlying9 n o q s rfl (K c8 l7.length a2) l7.length _ rfl a4 (p++nm) rfl (by unfold maxLen;omega) A A ?_;intro g b h c d e;have f:=H<|a5 g b h c d e;clear c d e);have b:=H<|HM h (c7.trans f.1) _ _ f.2;go_ret;have a6:=b.2;rw[WC] at a6;exact⟨b.1,_,rfl,by rw[X HT];exact a6⟩
def endL(c size a:N):E υ:=sL IC++AJ [0,0,c,c] 2++AJ [size,a] 4++AJ [0] 2
def yV(S:N->Prop)(v:M)(l:E υ)(c d a:N)(u:c<4294967296)(e:d<4294967296)(y:a<4294967296)(z:l.length<=900000)(w:U)(hF:BI S w)(f:DY w S v l):
 μ F 219 #[v,I Q c,I Q d,I Q a] w λr w'=>Ag S w w'/\∃v',r=ε v'/\DY w' S v' (l++endL c d a):=by
 obtain⟨i0,i,j,k,m⟩:=wi Ij;have HT:C<|l++endL c d a=l++sL IC++AJ [0,0,c,c] 2++AJ [d,a] 4++AJ [0] 2:=by unfold C endL;simp only[WG]
 have g:C ((l++sL IC).length<=900010):=by unfold C;rw[Ws,Dd];simp[ByteArray.size];omega
 have h:C ((l++sL IC++AJ [0,0,c,c] 2).length<=900020):=by unfold C;rw[Ws,DB];have:=X g;simp only[wu,abc] at*;omega
 have t:C ((l++sL IC++AJ [0,0,c,c] 2++AJ [d,a] 4).length<=900030):=by unfold C;rw[Ws,DB];have:=X h;simp only[wu,abc] at*;omega
 obtain⟨ao,cp,rfl,b,u⟩:=f;have x:=H hF;have y:=H b;have z:=H λe b f=>DY.str (w2:=f) (ao2:=e) (cap2:=b) hF IC u (l:=l) (cap:=cp);have:IC.size=4:=rfl;have:IntKind.u32.wrap (c:Z)=c:=akT
 have:IntKind.u32.wrap (a:Z)=a:=akT
 have:IntKind.u32.wrap (d:Z)=d:=akT
 go_in;go_upto_region 2 with(at_builtin;refine Cn rfl (.tmp 9) (.const<|G IC) 64 9 rfl 0 5 i0 (I .u8 0) underlying64 underlying9 i j k m rfl (K ao l.length cp) l.length _ rfl y IC rfl (by unfold maxLen;omega) A A ?_;intro e b f i j k;have m:=H<|z e b f i j k;clear i j k);have n:=H m.1;have i:C (μ F 284 #[K e (l.length+IC.size) b,I Q 2,K (J ⟨f.heap.size,0,O⟩) 4 4] (f.alloc<|W #[I σ 0,I σ 0,I σ (c:Z),I σ (c:Z)] 61) λr w'=>Ag S f w'/\∃v',r=ε v'/\DY w' S v' (l++sL IC++AJ [0,0,c,c] 2)):=
  IB S _ _ 2 A [0,0,c,c] 4 rfl A ako (by have:=X g;omega) f _ rfl (x.mono n.size) m.2
 go_wp2_with fail;apply i.mono;rintro r q ⟨D,v3,rfl,L⟩;have o:=H<|n.trans D;have b:C (μ F 284 #[v3,I Q 4,K (J ⟨q.heap.size,0,O⟩) 2 2] (q.alloc<|W #[I σ (d:Z),I σ (a:Z)] 61) λr w'=>Ag S q w'/\∃v',r=ε v'/\DY w' S v' (l++sL IC++AJ [0,0,c,c] 2++AJ [d,a] 4)):=
  IB S _ _ 4 A [d,a] 2 rfl A ako (by have:=X h;omega) q _ rfl (x.mono o.size) L
 go_wp2_with fail;apply b.mono;rintro r s ⟨P,v4,rfl,R⟩;have p:=H<|o.trans P;have b:C (μ F 284 #[v4,I Q 2,K (J ⟨s.heap.size,0,O⟩) 1 1] (s.alloc<|W #[I σ 0] 61) λr w'=>Ag S s w'/\∃v',r=ε v'/\DY w' S v' (l++sL IC++AJ [0,0,c,c] 2++AJ [d,a] 4++AJ [0] 2)):=
  IB S _ _ 2 A [0] 1 rfl A Ad (by have:=X t;omega) s _ rfl (x.mono p.size) R
 go_wp2_with fail;apply b.mono;rintro r w5 ⟨T,_,rfl,a0⟩;have b:=H<|p.trans T;have a1:=H a0;go_wp2;go_ret;exact⟨b,_,rfl,by rw[X HT];exact a1⟩
def BS:It:=⟨⟨#[]⟩,0,0,0,⟨#[]⟩⟩
def AP(p:Y)(its:E It):E υ:=its.flatMap<|Bk p
def Bc(p:Y)(its:E It)(n:N):E υ:=(List.range n).flatMap λj=>BN p (its.getD j BS) (AP p<|its.take j).length
def BQ(p:Y)(its:E It):E υ:=AP p its++Bc p its its.length++endL its.length (Bc p its its.length).length (AP p its).length
def It.take_getD(its:E It)(i:N)(h:i<its.length):its.take (i+1)=its.take i++[its.getD i BS]:=by
 rw[aay,Wv h,Wq,Wv h];rfl
def KY(p:Y)(its:E It)(i:N)(h:i<its.length):AP p (its.take<|i+1)=AP p (its.take i)++Bk p (its.getD i BS):=by
 rw[It.take_getD its i h,AP,AP,abI];simp
def CL(p:Y)(its:E It)(i:N):Bc p its (i+1)=Bc p its i++BN p (its.getD i BS) (AP p<|its.take i).length:=by
 rw[Bc,Bc,aaS,abI];simp
def nx(p:Y)(its:E It)(i:N):(AP p<|its.take i).length<=(AP p its).length:=by
 conv=>rhs;rw[<-aau i its]
 rw[AP,AP,abI,Ws];omega
def Pq(p:Y)(its:E It)(i n:N)(h:i<=n):(Bc p its i).length<=(Bc p its n).length:=by
 obtain⟨k,rfl⟩:=Nat.exists_eq_add_of_le h;induction k with
 |zero=>exact WF _
 |succ k a=>rw[<-aap,CL,Ws];exact WI (a A) A
def DG(its:E It):E M:=its.flatMap λi=>i.v.toList
def Zw(its:E It):(DG its).length=its.length*5:=by
 induction its with
 |nil=>rfl
 |cons a r b=>rw[DG,aaC,Ws,<-DG,b,wu];simp;omega
def Zx(its:E It)(j c:N)(b:j<its.length)(e:c<5):(DG its)[j*5+c]? =(its.getD j BS).v[c]? :=by
 induction its generalizing j with
 |nil=>simp at b
 |cons a r d=>
  rw[DG,aaC];cases j with
  |zero=>rw[adY,WQ,WW ako];simp
  |succ j=>
   rw[WU ako,<-DG,show(j+1)*5+c-a.v.toList.length=j*5+c by simp;omega,d j<|by simpa using b];simp
def ED(w:U)(B:N->Prop)(v:M)(its:E It):Prop:=w.ownsRow 0 190 5 v its.length (DG its)/\∀b,v.ownBlock=J b->B b
def ED.slice{a:N->Prop}{v:M}{its:E It}(h:ED w a v its)(o:0<its.length):∃g cap,v=K (J ⟨g,0,O⟩) its.length cap/\a g/\∃b,w.heap[g]? =J (W b 190 (0,0))/\∀j,j<its.length-> ∀c,c<5->w.cell? ⟨g,j*5+c,O⟩=(its.getD j BS).v[c]? :=by
 obtain⟨⟨f,⟨rfl,_⟩|⟨g,cap,b,rfl,i,e,k⟩⟩,l⟩:=h
 .omega
 refine⟨g,cap,rfl,l g rfl,b,e,λj m c n=>?_⟩;have d:=abs (w:=w) ⟨f,.inr ⟨g,cap,b,rfl,i,e,k⟩⟩ (g:=g) rfl;rw[<-Zx its j c m n];have a:j*5+c<(DG its).length:=by rw[Zw];omega
 have:=d (j*5+c) _<|Wv a;rw[Wv a];exact ahP
def UM{v:M}{a:E M}(h:w.ownsRow 0 e k v n a)(i:Ag S w w')(j:∀b,v.ownBlock=J b->¬S b):w'.ownsRow 0 e k v n a:=by
 obtain⟨d,h|⟨g,l,c,rfl,m,f,r⟩⟩:=h
 .exact ⟨d,.inl h⟩
 exact⟨d,.inr ⟨g,l,c,rfl,m,(i.block g (Wt.1 f).1<|j g rfl).trans f,r⟩⟩
def ED.kept{a:N->Prop}{v:M}{its:E It}(h:ED w a v its)(c:Ag S w w')(d:∀k,a k->¬S k):ED w' a v its:=⟨UM h.1 c λb a=>d b<|h.2 b a,h.2⟩
def rN(w wr:U)(u5 u6:M)(l5 l6:E υ):Prop:=
 Am w wr/\∃B5 B6:N->Prop,(∀k,B5 k->¬B6 k)/\(∀k,B5 k->w.heap.size<=k/\k<wr.heap.size)/\(∀k,B6 k->w.heap.size<=k/\k<wr.heap.size)/\DY wr B5 u5 l5/\DY wr B6 u6 l6
def rN.next6{b:U}{a:M}{c e:E υ}(h:rN w wr a d c e)(i:Am wr b):∃S:N->Prop,BI S b/\DY b S d e/\(∀k,wr.heap.size<=k->k<b.heap.size->¬S k)/\∀w' v' d,Ag S b w'->DY w' S v' d ->rN w w' a v' c d :=by
 obtain⟨l,s,q,r,j,m,n,a⟩:=h;have:=i.size;refine⟨λk=>q k\/b.heap.size<=k,λk f=> .inr f,(a.old i).mono λ_ h=> .inl h,λk f _ h=>?_,λw' v' d o t=>?_⟩
 .rcases h with h|h
  .have:=m k h;omega
  omega
 refine⟨(Ag.trans l i).transNew o λk f h=>?_,s,λk=>(q k\/b.heap.size<=k)/\k<w'.heap.size,λk g p =>?_,λk f=>⟨(j k f).1,by have:=(j k f).2;have:=o.size;omega⟩,λk f=>⟨?_,f.2⟩,(n.old i).kept o λk f h=>?_,t.lt⟩
 .rcases h with h|h
  .have:=m k h;omega
  have:=l.size;omega
 .rcases p.1 with h|h
  .exact r k g h
  have:=j k g;omega
 .rcases f.1 with h|h
  .exact (m k h).1
  have:=l.size;omega
 rcases h with h|h
 .exact r k f h
 have:=j k f;omega
def rN.slices{f e:M}{g h:E υ}(i:rN w wr f e g h):(∃a c,f=K a g.length c)/\∃a c,e=K a h.length c:=by
 obtain⟨_,_,_,_,_,_,⟨a,c,i,_⟩,b,d,k,_⟩:=i;exact⟨⟨a,c,i⟩,b,d,k⟩
def rN.swap{a:M}{b c:E υ}(h:rN w wr a d b c):rN w wr d a c b:=by
 obtain⟨c,d,e,f,g,i,a,b⟩:=h;exact⟨c,e,d,λk c d =>f k d c,i,g,b,a⟩
structure Xp (p:Y) (its:E It):Prop where
 pre:p.size<=1000
 oks:∀i∈its,i.ok
 any:0<its.length
 few:its.length<=1000
 locs:(AP p its).length<=400000
 cents:(Bc p its its.length).length<=400000
 pos:0<(Bc p its its.length).length
def tZ(g5:N->Prop)(p:Y)(v:M)(its:E It)(q:Xp p its)(w:U)(R:ED w g5 v its):
 μ F 148 #[G p,v] w λr w'=>Am w w'/\r=ε (G ⟨(BQ p its).toArray⟩):=by
 obtain⟨i0,f5,g0,g1,g3⟩:=wi Ij;obtain⟨g,cap,rfl,_,g9,hg,a8⟩:=R.slice q.any;have f4:=(Wt.1 hg).1;have a0:=Af a8;have f:=Af q;have:=q.any;have:=q.few;clear a8 R q hg;go_in;go_wp2;go_loopw [5,6,8,13] (λu5 u6 _ x wr=>∃i:N,i<=its.length/\x=I Q i/\C (rN w wr u5 u6 (AP p<|its.take i)<|Bc p its i)) λ_ _ _ x _=>its.length-(intOf x).toNat
 .exact ⟨0,A,rfl,Ag.refl _ w,λ_=>False,λ_=>False,λ_ h=>h.elim,λ_ h=>h.elim,λ_ h=>h.elim,DY.nil _ _,DY.nil _ _⟩
 obtain⟨i,hi,rfl,m⟩:=hrel;by_cases d:i<its.length
 .have b3:(i:Z)<its.length:=A;have o:=λc o=>(m.1.cell (p:=⟨g,i*5+c,O⟩) f4 λx=>x).trans (a0 i d c o)
  have a2:C (its.getD i BS).ok:=by unfold C;rw[Wq,Wv d];exact f.oks _<|WJ d
  have d7:=Af<|KY p its i d;have d5:=Af<|CL p its i;have a3:=Af<|WI (nx p its i) f.locs;have d6:=Af<|WI (Pq p its i _ hi) f.cents;generalize its.getD i BS=it at*;generalize AP p (its.take i)=l5 at*;generalize Bc p its i=a at*;obtain⟨nm,T,ck,sz,pk⟩:=it;have e9:wr.cell? ⟨g,i*5,O⟩=J (G nm):=o 0 A;have f0:wr.cell? ⟨g,i*5+1,O⟩=J (I σ T):=o 1 A;have f1:wr.cell? ⟨g,i*5+2,O⟩=J (I σ ck):=o 2 A;have f2:wr.cell? ⟨g,i*5+3,O⟩=J (I σ sz):=o 3 A;have f3:wr.cell? ⟨g,i*5+4,O⟩=J (G pk):=o 4 A;have:i<=1000:=A;clear o;obtain⟨⟨y,z,rfl⟩,_⟩:=m.slices;have hA:Am wr<|wr.alloc (W (It.v ⟨nm,T,ck,sz,pk⟩) 190):=(Ag.refl _ wr).alloc _;have HI:C<|GI (wr.alloc<|W (It.v ⟨nm,T,ck,sz,pk⟩) 190) wr.heap.size ⟨nm,T,ck,sz,pk⟩:=WD wr _;obtain⟨S,hF,n,s,b4⟩:=m.next6 hA;have d8:=Af (s _ (WF _)<|by rw[WP];omega);have a4:=Af b4;have H1:=Af (nw S u6 a p f.pre ⟨nm,T,ck,sz,pk⟩ a2 l5.length (by have:=X a3;omega) (by have:=X d6;omega) _ hF n);obtain⟨d0,d1,d2,d3,d4⟩:=HI.cells;simp only[It.v] at*;clear hA hF n s b4 m;go_wp2_with fail;refine H1.mono ?_;rintro r w1 ⟨D,v6,rfl,c7⟩;have a5:=Af<|a4 w1 v6 _ D c7;have a1:=Af<|HI.kept D d8;obtain⟨c0,c1,c2,c3,c4⟩:=a1.cells;obtain⟨S2,a6,a7,_,t⟩:=a5.swap.next6<|Ag.refl _ w1;have j:=Af t;have H2:=Af (vz S2 _ l5 p f.pre ⟨nm,T,ck,sz,pk⟩ a2 (by have:=X a3;omega) _ a6 a7);simp only[It.v] at H2;clear H1 D c7 HI d0 d1 d2 d3 d4 e9 f0 f1 f2 f3 a6 a7 t a4;go_wp2_with fail;refine H2.mono ?_;rintro r w2 ⟨b5,v5,rfl,c6⟩;have e1:=Af (j w2 v5 _ b5 c6).swap;clear H2 b5 c6 a1 c0 c1 c2 c3 c4 j a5;go_wp2;go_roundw
  .exact ⟨i+1,A,by go_num,by rw[X d7,X d5];exact e1⟩
  exact Ae
 have:¬(i:Z)<its.length:=A;have f6:i=its.length:=A;subst f6;rw[wL] at m;obtain⟨⟨y,z,rfl⟩,e3,e4,rfl⟩:=m.slices;obtain⟨e,B5,B6,hd,h5,h6,e7,e8⟩:=X m;have:=f.locs;have:=f.cents;have:=f.pos;have HE:C<|BQ p its=AP p its++Bc p its its.length++endL its.length (Bc p its its.length).length (AP p its).length:=rfl;generalize AP p its=l5 at*;generalize Bc p its its.length=a at*;obtain⟨_,_,e5,c8,b9⟩:=e7;injection e5 with e51 _ e52;subst e51 e52;obtain⟨_,_,e6,L,f8⟩:=e8;injection e6 with e61 _ e62;subst e61 e62;have f9:∃P,e3=J ⟨P,0,O⟩:=by
  rcases L.2 with⟨_,h⟩|⟨P,c,cu,R,_⟩
  .omega
  injection R with R;exact⟨P,R⟩
 obtain⟨P,rfl⟩:=f9;have c9:=Af<|L.cells (g:=P) rfl;have e2:=Af c8;have f7:∀u∈Al a,u.oneCell'=true:=by intro u hu;simp[Al] at hu;obtain⟨b,_,rfl⟩:=hu;rfl
 have HF:C (BI (λk=>w.heap.size<=k) wr):=λk q=>WI e.size q
 have HB:=Af λao2 cap2 w2=>DY.more (w:=wr) (w1:=wr) (w2:=w2) (S:=λk=>w.heap.size<=k) (l:=l5) (bs:=a) (ao:=y) (cap:=z) (ao2:=ao2) (cap2:=cap2) (H:=wr.heap.size) e.size (Ag.refl _ wr) λb n=>(h5 _<|b9 b n).1;have e0:=Af e;have b2:(Al a).length=a.length*1:=by rw[Sv,abz]
 clear m hd h5 h6 c8 b9 L f8 e a0;go_wp2_with (at_builtin;refine wpList_append_lies _ rfl (.tmp 32) (.tmp 33) 64 rfl 0 5 i0 (I .u8 0) 1 1 underlying64 f5 g0 g1 g3 rfl A (K y l5.length z) l5.length _ rfl e2 ⟨P,0,O⟩ a.length e4 (Al a) rfl b2 c9 f7 A (by unfold maxLen;omega) A A _ rfl ?_;intro g2 cap2 w3 b6 b0 b1 g4;have HX:=Af (HB (J ⟨g2,0,O⟩) cap2 w3 b6 b0 λb n=>by injection n with n;subst n;exact b1);clear b6 b0 b1);have H3:=Af (yV (λk=>w.heap.size<=k) (K (J ⟨g2,0,O⟩) (l5.length+a.length) cap2) (l5++a) its.length a.length l5.length A A A (by rw[Ws];omega) w3 (HF.mono HX.1.size) HX.2);refine H3.mono ?_;rintro r w4 ⟨b7,v4,rfl,g7,g8,rfl,c5,_⟩;have a9:=GB c5;have d9:C<|Am w w4:=e0.transNew (HX.1.trans b7) λk q h=>A;rw[<-X HE] at a9 ⊢;clear H3 b7 c5 HX HB;go_wp2;go_ret;exact⟨d9,rfl⟩
