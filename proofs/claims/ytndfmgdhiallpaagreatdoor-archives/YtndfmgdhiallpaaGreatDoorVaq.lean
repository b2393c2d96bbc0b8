import Derived.Test.YtndfmgdhiallpaaGreatDoorVao
import Derived.Test.YtndfmgdhiallpaaGreatDoorVap
set_option linter.all false
set_option maxRecDepth 100000
set_option maxHeartbeats 1000000
open _root_ renaming Option.some->J,Option.none->O,Int->Z,Nat->N,Go.Value.int->I,Go.Value.string->G,Go.IntKind.i64->Q,ByteArray->Y,List->E,Go.World->U,Go.Value.slice->K,Go.Value->β,Go.Obj.cells->γ,Go.Value.pointer->δ,Go.Ending.returned->ε,absurd->κ,Go.Calls->μ,Array->φ
namespace Go.Proofs.YtndfmgdhiallpaaGreatDoor
open Go.RowKit Go.Proofs.Tryz
def jP:(Jd 310).map (λp=>IQ p 35%4294967296)=TT:=by decide+kernel
def eH(f:N->N)(l:E N)(j:N)(h:j<l.length):(l.map f).getD j 0=f (l.getD j 0):=by
 simp[qT,h]
def mV(j:N)(h:j<64):IQ ((Jd 310).getD j 0) 35%4294967296=Ct j:=by
 have a:j<(Jd 310).length:=by rw[Og];exact h
 rw[Ct,<-jP,eH (λp=>IQ p 35%4294967296) _ _ a]
def VH(t j:N):β:=if j<t then I .u32 (Ct j) else I .u32 0
def jQ(t j:N):(VH t j).oneCell' =true:=by unfold VH;split<;>rfl
def mW{t j:N}(h:j<t):VH t j=I .u32 (Ct j):=rd h
def eI(t:N): ∀j,j<64->(if j=t then Value.int .u32 (Ct t) else VH t j)=VH (t+1) j:=by
 intro j _;unfold VH;exact Hm
def eJ: ∃b:N->N,(∀j,j<64->b j<512/\IQ (b j) 35%4294967296=Ct j)/\∀w:U,
 μ prog 300 #[I Q 64] w λe w' =>e=ε (K (J ⟨w.heap.size,0,O⟩) 64 64)/\DR w' w.heap.size 251 64 (λj=> I .u64 (b j))/\Al w w' :=by
 refine⟨λj=>(Jd 310).getD j 0,λj c=>⟨?_,mV j c⟩,XF⟩;have a :j<(Jd 310).length:=by rw[Og];exact c
 have:=eD 310 ((Jd 310)[j]) (ro a);show(Jd 310).getD j 0<512;rw[qT,qY a,th];omega
def Qm(w:U):
 μ prog 222 #[] w λe w' =>e=ε (.agg (Cn Ct))/\Al w w' :=by
 obtain⟨B,m,n⟩:=eJ;have r:=Af m;have s:=Af n;clear m n;go_in;go_wp2_with (go_at_call 300;refine(s _).mono ?_;rintro e w1 ⟨rfl,o,k⟩;have u:=Af o;have b:=Af k;clear o k);go_loopw [6] (λi wr=> ∃t:N,t<=64/\i=I Q t/\Hid (ES wr (w.heap.size+1) 247 64 (VH t))/\Hid (ES wr w.heap.size 247 64 (VH 0))/\Hid (DR wr (w.heap.size+2) 251 64 (λj=> I .u64 (B j)))/\Hid (Al w wr)) (λi _=>64- (intOf i).toNat)
 .refine ⟨0,Aa,rfl, ?_, ?_, ?_, ?_⟩
  .refine Af (ES.old ?_ (uh b));exact ES.mk' Ad Ab
  .refine Af (ES.old (ES.alloc ?_ _) (uh b));exact ES.mk' rfl Ab
  .have M:=uh u;simp only[rr] at M;exact M
  exact Ag.trans (((Ag.refl _ w).alloc _).alloc _) (uh b)
 obtain⟨t,X,rfl,g,F,D,HO⟩:=hrel;by_cases c:t<64
 .have T:=g.row.thaw;have S:=g.row.cell t c;have x:=D.cell t c;obtain⟨l,d⟩:=r t c;have q:=Af (λw1=>Sx (B t) l w1);rw[d] at q;generalize B t=p at x l d q;have C:=Af (eI t);clear d;generalize Ct t=kt at q C;have a:(t:Z)<64:=Aa;go_wp2_with (go_at_call 301;refine(q _).mono ?_;rintro e w1 ⟨rfl,rfl⟩);go_roundw
  .refine ⟨t+1,Aa,by go_num, ?_, ?_, ?_, ?_⟩
   .exact (g.set t _).congr (uh C)
   .exact F.setOther _ _ Aa _
   .exact D.setOther _ _ Aa _
   exact HO.setCell (p:=⟨w.heap.size+1,t,O⟩) (λh=>κ (show w.heap.size+1<w.heap.size from h) Aa) _
  exact Ae
 have a:t=64:=Aa;rw[a] at g;clear a;have R:wr.heap[w.heap.size+1]? =J (γ (CE 64 (VH 64)) 247 (0,0)):=uh g;have L:wr.heap[w.heap.size]? =J (γ (CE 64 (VH 0)) 247 (0,0)):=uh F;have y:(prog.info? 247).map (·.size)=J (CE 64 (VH 64)).size:=by rw[Bi];exact Oc
 have P:(CE 64 (VH 64)).all (·.oneCell')=true:=Od _ _ (jQ 64);have f:Hid (CE 64 (VH 64)=Cn Ct):=Je (λj V=>mW V);have z:(CE 64 (VH 0)).size=(CE 64 (VH 64)).size:=by rw[Bi,Bi]
 generalize H:CE 64 (VH 64)=A at*;have W:=Af H;clear H;go_wp2_with (first
  |(refine uC rfl 247 (.tmp 1) rfl (w.heap.size+1) rfl 247 A (0,0) _ R underlying247 rfl y ?_)
  |(refine sF rfl 247 (.tmp 0) (.tmp 16) rfl w.heap.size A rfl rfl 247 _ L y z P ?_))
 refine rU (v:=.agg A) (tO results222 _ _ w.heap.size 247 A (0,0) _ rfl (sw wr w.heap.size _ A _ _ L) underlying247 rfl y) rfl ⟨?_, ?_⟩
 .rw[uh f]
 exact aas
open Go.RowKit Go.Maps Go.Proofs.Tryz
section
variable {P:Program} {ops:φ Oper} {Q:Exit->Act->U->Prop} {md:Region.Mode} {S:U->Prop} {L:N}
def XH{i j:N}{n:N}{b:φ Bool}{a:Act}{w:U}(hr:Region.ready md ops b=[i,j])
 (h:wpOp P ops Q i (λa' w' =>(i≠L->S w')/\CR P md ops Q S L n (b.setIfInBounds i true) a' w') a w)
 (k:wpOp P ops Q j (λa' w' =>(j≠L->S w')/\CR P md ops Q S L n (b.setIfInBounds j true) a' w') a w):CR P md ops Q S L (n+1) b a w:=wg
end
def KC(w:U):Prop:= ∃t fr,w.heap[0]? =J (γ (EE h0) t fr)
def KC.old{w w' :U}(h:KC w)(c:Al w w'):KC w' :=by
 obtain⟨t,a,b⟩:=h;exact⟨t,a,AQ c b⟩
def mX{w:U}(h:KC w):(loadVar 181 ⟨0,0,O⟩).run prog w=.ok (.agg (EE h0)) w:=by
 obtain⟨t,b,a⟩:=h;exact vR w _ _ _ _ _ _ a underlying181 rfl Iv
def XI(s:Y)(p:Y)(q r:N)(d:64*q<=s.size)(e:s.size- 64*q+p.size=64*r):
 BV Ct (BV Ct h0 (s.extract 0 (64*q)) q) (s.extract (64*q) s.size++p) r=BV Ct h0 (s++p) (q+r):=by
 have b:(s.extract 0 (64*q)).size=64*q:=by rw[rv];omega
 have c:(s.extract (64*q) s.size++p).size=64*r:=by rw[rg,rv];omega
 rw[<-Sy Ct h0 _ _ q r b c,<-xm];congr 2;have:=xB (a:=s) (i:=0) (j:=64*q) (k:=s.size);rw[this,uc Aa,Nat.max_eq_right d,xU]
def XJ{o:Oper}{a:Act}{w:U}{b:Act->U->Prop}{Q:Exit->Act->U->Prop}(x y:Operand)(i:o.op=.store 247 x y)(d:o.dst=O)(g:N)(f:N->N)
 (j:a.eval x=δ (J ⟨g,0,O⟩))(k:a.eval y=.agg (Cn f)){c:N->N}(e:w.heap[g]? =J (γ (Cn c) 247 (0,0)))
 (h:b a (w.setRow g (Cn f))):o.wp prog a w b Q:=
 xF _ x y i g (Cn f) j k _ _ e (by rw[Cn,Bi];exact Oc) (by rw[Cn,Cn,Bi,Bi]) (Od _ _ (λ_=>rfl)) (by rw[d];exact h)
def Ra(s:Y)(hl:s.size<=140737488355328)(w:U)(hg:KC w):
 μ prog 132 #[G s] w λe w' =>e=ε (.agg (EE (BV Ct h0 (s++⟨(Ek (Bm s.size) s.size 8).toArray⟩) ((s.size+9+Bm s.size)/64))))/\Al w w' :=by
 obtain⟨q,hq⟩: ∃q,q=s.size/64:=⟨_,rfl⟩;have b5:(s.size:Z)- (s.size:Z)%64=((64*q:N):Z):=Aa;have B:((64*q:N):Z)<=(s.size:Z):=Aa;have A:(0:Z)<=((64*q:N):Z):=Aa;have C:64*q<=s.size:=Aa;have HQ:=Af hq;have F:(s.extract 0 (64*q)).size=64*q:=by rw[rv];omega
 have t:=Af (λw1=>OU h0 TU Ct Sl (s.extract 0 (64*q)) (by rw[F];omega) (by rw[F];omega) w1);rw[F,Nat.mul_div_cancel_left q (by omega:0<64)] at t;have b6:(BV Ct h0 (s.extract 0 (64*q)) q).ok:=LJ TU _ _;have M:=Af (XI s ⟨(Ek (Bm s.size) s.size 8).toArray⟩ q);generalize BV Ct h0 (s.extract 0 (64*q)) q=y at t b6 M;have a4:=Af hg;have c3:=Af b5;have a9:=Af B;have a8:=Af A;have c2:=Af C;clear hq b5 B A C F hg;have b2:Al w (w.alloc (γ (EE ⟨0,0,0,0,0,0,0,0⟩) 181)):=(Ag.refl _ w).alloc _;have b7:(w.alloc (γ (EE ⟨0,0,0,0,0,0,0,0⟩) 181)).heap[w.heap.size]? =J (γ (EE ⟨0,0,0,0,0,0,0,0⟩) 181 (0,0)):=rh w _;have a5:=Af b2;have b1:=Af b7;clear b2 b7;go_in;go_wp2_with fail;refine(Qm (w.alloc (γ (EE ⟨0,0,0,0,0,0,0,0⟩) 181))).mono ?_;rintro e w1 ⟨rfl,a1⟩;have a6:Hid (Al w w1):=a5.trans a1;have V:=Af (AQ a1 (uh b1));have P:Hid ((w1.alloc (γ (Cn λ_=>0) 247)).heap[w1.heap.size]? =J (γ (Cn λ_=>0) 247 (0,0))):=rh w1 _;clear a5 b1 a1;go_wp2_with (refine vW rfl (λd3 d=>XJ (.tmp 3) (.tmp 6) rfl rfl w1.heap.size Ct rfl rfl (uh P) (d _ _ ?_)));rw[uh c3];change Code.wp _ _ _ _ ((w1.alloc (γ (Cn λ_=>0) 247)).setRow w1.heap.size (Cn Ct));have HK:Hid (((w1.alloc (γ (Cn λ_=>0) 247)).setRow w1.heap.size (Cn Ct)).heap[w1.heap.size]? =J (γ (Cn Ct) 247 (0,0))):=sw _ _ _ _ _ _ (uh P);have a2:Al w1 ((w1.alloc (γ (Cn λ_=>0) 247)).setRow w1.heap.size (Cn Ct)):=((Ag.refl _ w1).alloc _).setRow _ (λh=>κ h (st _)) _;have HZ:=Af (AQ a2 (uh V));have HO:Hid (Al w ((w1.alloc (γ (Cn λ_=>0) 247)).setRow w1.heap.size (Cn Ct))):=a6.trans a2;have HG:=Af (a4.old (uh HO));have H:w.heap.size<w1.heap.size:=(qW.1 (uh V)).1;have T:Hid (w1.heap.size<((w1.alloc (γ (Cn λ_=>0) 247)).setRow w1.heap.size (Cn Ct)).heap.size):=(qW.1 (uh HK)).1;have b0:=Af H;clear a4 a6 V P a2 H;generalize(w1.alloc (γ (Cn λ_=>0) 247)).setRow w1.heap.size (Cn Ct)=W at*;generalize w1.heap.size=gk at*;generalize b3:64*q=qq at*;have R:=Af b3;clear b3;go_cut [5] from 13 to 18 (λh wx=> ∃g,h=δ (J ⟨g,0,O⟩)/\Hid (gk<g)/\Hid (wx.heap[g]? =J (γ (EE y) 181 (0,0)))/\Hid (wx.heap[gk]? =J (γ (Cn Ct) 247 (0,0)))/\Hid (wx.heap[w.heap.size]? =J (γ (EE ⟨0,0,0,0,0,0,0,0⟩) 181 (0,0)))/\Hid (Al w wx))
 case first=>
  have B:=uh a9;have A:=uh a8;have c8:((qq:N):Z).toNat=qq:=rO _;have a:Hid (KC W.drew/\W.drew.heap[gk]? =J (γ (Cn Ct) 247 (0,0))):=⟨(uh HG),HK⟩;refine Ai (S:=λW=>KC W/\W.heap[gk]? =J (γ (Cn Ct) 247 (0,0))) (L:=7) Ab ?_;refine AH (i:=0) (v:=.agg (EE h0)) (J 13) rfl rfl Ab Ab Ab Ab (λ_ _ _ h=>h) (Gv rfl _ _ rfl ⟨0,0,O⟩ rfl _ (λW hW=>mX hW.1)) (uh a) ?_;simp only[Act.put,rk,rA,rB];refine AH (i:=1) (v:=.agg (Cn Ct)) (J 14) rfl rfl Ab Ab Ab Ab (λ_ _ _ h=>h) (Gv rfl _ _ rfl ⟨gk,0,O⟩ rfl _ (λW hW=>Xp hW.2)) (uh a) ?_;simp only[Act.put,rk,rA,rB];refine AH (i:=2) (v:=G s) (J 15) rfl rfl Ab Ab Ab Ab (λ_ _ _ h=>h) (.inl ⟨rfl,λW _=>by go_simp⟩) (uh a) ?_;simp only[Act.put,rk,rA,rB];refine AH (i:=3) (v:=I Q (qq:N)) (J 16) rfl rfl Ab Ab Ab Ab (λ_ _ _ h=>h) (.inl ⟨rfl,λW _=>by go_simp⟩) (uh a) ?_;simp only[Act.put,rk,rA,rB];refine AH (i:=4) (v:=G (s.extract 0 qq)) (J 17) rfl rfl Ab Ab Ab Ab (λ_ _ _ h=>h) (.inl ⟨rfl,λW _=>by go_simp⟩) (uh a) ?_;simp only[Act.put,rk,rA,rB];refine XH (i:=5) (j:=6) Ab ?_ ?_
  .refine ri rfl (λK' d=> ?_);go_simp;refine(t _).mono ?_;rintro e p ⟨rfl,c⟩;have l:=uh a;have f:=l.1.old c;have k:=AQ c l.2;refine d _ _ ⟨λ_=>⟨f,k⟩, ?_⟩;clear d;refine Ah (i:=6) Ab ?_;refine ri rfl (λK' d=> ?_);go_simp;have b:Al p (p.alloc (γ (EE ⟨0,0,0,0,0,0,0,0⟩) 181)):=(Ag.refl _ p).alloc _;have m:=rh p (γ (EE ⟨0,0,0,0,0,0,0,0⟩) 181);refine d _ _ ⟨λ_=>⟨f.old b,AQ b k⟩, ?_⟩;clear d;refine Ah (i:=7) Ab ?_;refine CW rfl rfl (Kq (.tmp 5) (.tmp 18) rfl rfl p.heap.size y rfl rfl m ?_);refine⟨λh=>κ rfl h,Am Ab ?_⟩;go_wp2_with fail;go_meet
   case rel=>
    have x:Al W p:=Ag.trans ((Ag.refl _ W).drew) c;have X:gk<p.heap.size:=rW (uh T) x.size;have c6:=uh b0;have n:=AQ b (AQ x (uh HK));have o:=AQ b (AQ x (uh HZ));refine⟨_,rfl,X,sw _ _ _ _ _ _ m, ?_, ?_, ?_⟩
    .exact ((IP _ p.heap.size _).block _ (qW.1 n).1 Aa).trans n
    .exact ((IP _ p.heap.size _).block _ (qW.1 o).1 Aa).trans o
    exact(Ag.trans (Ag.trans (uh HO) x) b).setRow _ (λh=>κ h Aa) _
  refine ri rfl (λK' d=> ?_);go_simp;have c:Al W.drew (W.drew.alloc (γ (EE ⟨0,0,0,0,0,0,0,0⟩) 181)):=(Ag.refl _ _).alloc _;have c9:=rh W.drew (γ (EE ⟨0,0,0,0,0,0,0,0⟩) 181);have l:=uh a;have f:=l.1.old c;have k:=AQ c l.2;refine d _ _ ⟨λ_=>⟨f,k⟩, ?_⟩;clear d;refine Ah (i:=5) Ab ?_;refine ri rfl (λK' d=> ?_);go_simp;refine(t _).mono ?_;rintro e w6 ⟨rfl,b⟩;have m:=AQ b c9;refine d _ _ ⟨λ_=>⟨f.old b,AQ b k⟩, ?_⟩;clear d;refine Ah (i:=7) Ab ?_;refine CW rfl rfl (Kq (.tmp 5) (.tmp 18) rfl rfl W.heap.size y rfl rfl m ?_);refine⟨λh=>κ rfl h,Am Ab ?_⟩;go_wp2_with fail;go_meet
  case rel=>
   have a0:Al W w6:=Ag.trans (Ag.trans ((Ag.refl _ W).drew) c) b;have X:gk<W.heap.size:=uh T;have c6:=uh b0;have n:=AQ a0 (uh HK);have o:=AQ a0 (uh HZ);refine⟨_,rfl,X,sw _ _ _ _ _ _ m, ?_, ?_, ?_⟩
   .exact ((IP _ W.heap.size _).block _ (qW.1 n).1 Aa).trans n
   .exact ((IP _ W.heap.size _).block _ (qW.1 o).1 Aa).trans o
   exact(Ag.trans (uh HO) a0).setRow _ (λh=>κ h Aa) _
 case rest=>
  obtain⟨g,rfl,d1,HH,c0,c4,c1⟩:=hcut;clear HG HK HZ HO T;have B:=uh a9;have A:=uh a8;have c8:((qq:N):Z).toNat=qq:=rO _;have C:=uh c2;have a7:=Af (λw1=>Ua s.size hl w1);have a3:(⟨(Ek (Bm s.size) s.size 8).toArray⟩:Y).size=9+Bm s.size:=by show(Ek (Bm s.size) s.size 8).toArray.size=_;rw[sq,OQ];omega
  have d0:Bm s.size<64:=si _ Aa;obtain⟨r,hr⟩: ∃r,s.size- qq+(9+Bm s.size)=64*r:=⟨(s.size- qq+(9+Bm s.size))/64,by have:=uh HQ;have:=uh R;unfold Bm;omega⟩;have HE:Hid (BV Ct y (s.extract qq s.size++⟨(Ek (Bm s.size) s.size 8).toArray⟩) r=BV Ct h0 (s++⟨(Ek (Bm s.size) s.size 8).toArray⟩) ((s.size+9+Bm s.size)/64)):=by
   have h1:=M r C (by rw[a3];exact hr);have h2:(s.size+9+Bm s.size)/64=q+r:=by have:=uh R;omega
   rw[h2];exact h1
  clear M;have D:(s.extract qq s.size++⟨(Ek (Bm s.size) s.size 8).toArray⟩).size=64*r:=by rw[rg,rv,a3];omega
  have b4:64*r<=140737488355328:=by have:=uh HQ;have:=uh R;omega
  have u:=Af (λw1=>OU y b6 Ct Sl (s.extract qq s.size++⟨(Ek (Bm s.size) s.size 8).toArray⟩) (by rw[D];omega) (by rw[D];omega) w1);rw[D,Nat.mul_div_cancel_left r (by omega:0<64)] at u;rw[uh HE] at u;clear HE;have d2:IntKind.u64.wrap (s.size:Z)=(s.size:Z):=by rw[ux];omega
  generalize b9:BV Ct h0 (s++⟨(Ek (Bm s.size) s.size 8).toArray⟩) ((s.size+9+Bm s.size)/64)=z at*;have c5:=Af b9;clear b9;clear a3 hr D b4;have c7:(⟨(Ek (Bm s.size) s.size 8).toArray⟩:Y).size<=100:=by show(Ek (Bm s.size) s.size 8).toArray.size<=_;rw[sq,OQ];omega
  generalize(⟨(Ek (Bm s.size) s.size 8).toArray⟩:Y)=pd at a7 u c7;have a:Hid (wc.drew.heap[g]? =J (γ (EE y) 181 (0,0))/\wc.drew.heap[gk]? =J (γ (Cn Ct) 247 (0,0))):=⟨HH,c0⟩;go_upto_region 4 with fail;refine Ai (S:=λW=>W.heap[g]? =J (γ (EE y) 181 (0,0))/\W.heap[gk]? =J (γ (Cn Ct) 247 (0,0))) (L:=11) Ab ?_;refine AH (i:=0) (v:=.agg (EE y)) (J 19) rfl rfl Ab Ab Ab Ab (λ_ _ _ h=>h) (Gv rfl _ _ rfl ⟨g,0,O⟩ rfl _ (λW hW=>lA hW.1)) (uh a) ?_;simp only[Act.put,rk,rA,rB];refine AH (i:=1) (v:=.agg (Cn Ct)) (J 20) rfl rfl Ab Ab Ab Ab (λ_ _ _ h=>h) (Gv rfl _ _ rfl ⟨gk,0,O⟩ rfl _ (λW hW=>Xp hW.2)) (uh a) ?_;simp only[Act.put,rk,rA,rB];refine AH (i:=2) (v:=G s) (J 21) rfl rfl Ab Ab Ab Ab (λ_ _ _ h=>h) (.inl ⟨rfl,λW _=>by go_simp⟩) (uh a) ?_;simp only[Act.put,rk,rA,rB];refine AH (i:=3) (v:=I Q (qq:N)) (J 22) rfl rfl Ab Ab Ab Ab (λ_ _ _ h=>h) (.inl ⟨rfl,λW _=>by go_simp⟩) (uh a) ?_;simp only[Act.put,rk,rA,rB];refine AH (i:=4) (v:=G (s.extract qq s.size)) (J 23) rfl rfl Ab Ab Ab Ab (λ_ _ _ h=>h) (.inl ⟨rfl,λW _=>by go_simp⟩) (uh a) ?_;simp only[Act.put,rk,rA,rB];refine AH (i:=5) (v:=G s) (J 24) rfl rfl Ab Ab Ab Ab (λ_ _ _ h=>h) (.inl ⟨rfl,λW _=>by go_simp⟩) (uh a) ?_;simp only[Act.put,rk,rA,rB];refine AH (i:=6) (v:=I Q (s.size:N)) (J 25) rfl rfl Ab Ab Ab Ab (λ_ _ _ h=>h) (.inl ⟨rfl,λW _=>by go_simp⟩) (uh a) ?_;simp only[Act.put,rk,rA,rB];refine AH (i:=7) (v:=I .u64 (s.size:N)) (J 26) rfl rfl Ab Ab Ab Ab (λ_ _ _ h=>h) (.inl ⟨rfl,λW _=>by go_simp⟩) (uh a) ?_;simp only[Act.put,rk,rA,rB];refine Ah (i:=8) Ab ?_;refine ri rfl (λK' d=> ?_);go_simp;refine(a7 _).mono ?_;rintro e p ⟨rfl,c⟩;have l:=uh a;have f:=AQ c l.1;have k:=AQ c l.2;refine d _ _ ⟨λ_=>⟨f,k⟩, ?_⟩;clear d;refine Ah (i:=9) Ab ?_;refine ri rfl (λK' d=> ?_);go_simp;rw[rc Aa];go_simp;refine d _ _ ⟨λ_=>⟨f,k⟩, ?_⟩;clear d;refine Ah (i:=10) Ab ?_;refine ri rfl (λK' d=> ?_);go_simp;refine(u _).mono ?_;rintro e w6 ⟨rfl,b⟩;have m:=AQ b (AQ c (show wc.drew.heap[w.heap.size]? =_ from uh c4));refine d _ _ ⟨λ_=>⟨AQ b f,AQ b k⟩, ?_⟩;clear d;refine Ah (i:=11) Ab ?_;refine CW rfl rfl (Kq (.tmp 2) (.tmp 29) rfl rfl w.heap.size z rfl rfl m ?_);refine⟨λh=>κ rfl h,Am Ab ?_⟩;go_wp2_with fail;refine rU (v:=.agg (EE z)) (tO results132 _ _ w.heap.size 181 (EE z) (0,0) _ rfl (sw w6 w.heap.size _ (EE z) _ _ m) underlying181 rfl Iv) rfl ⟨by rw[uh c5], ?_⟩;exact(Ag.trans (Ag.trans c1.drew c) b).setRow _ (λh=>κ h Aa) _
def eK(s:Y)(k:s.size<=140737488355328)(w:U)(j:KC w):
 μ prog 72 #[G s] w λe w' =>e=ε (G (CB s))/\Al w w' :=by
 have g:=Af (λw1 h=>Ra s k w1 h);have i:Hid (∀w1,μ prog 131 #[.agg (EE (BV Ct h0 (s++⟨(Ek (Bm s.size) s.size 8).toArray⟩) ((s.size+9+Bm s.size)/64)))] w1 λe w' =>e=ε (G (CB s))/\Al w1 w'):=λw1=>by
  rw[Nu];exact aB _ (LJ TU _ _) w1
 generalize BV Ct h0 (s++⟨(Ek (Bm s.size) s.size 8).toArray⟩) ((s.size+9+Bm s.size)/64)=z at g i;have l:=Af j;clear j k;generalize CB s=d at*;go_in;go_wp2_with fail;refine(g w (uh l)).mono ?_;rintro e w2 ⟨rfl,a⟩;have c:=Af a;clear a;go_wp2_with fail;refine(i w2).mono ?_;rintro e w3 ⟨rfl,b⟩;have f:=Af (Ag.trans (uh c) b);clear b;go_wp2;go_ret;exact⟨rfl,f⟩
def MI(s:Y)(b:s.size<=140737488355328)(w:U)(a:KC w):
 μ prog 41 #[G s] w λe w' =>e=ε (G (CB s))/\Al w w' :=by
 have c:=Af (eK s b w a);clear a b;generalize CB s=d at*;go_in;go_wp2_with fail;refine c.mono ?_;exact aba
abbrev Do:β:=K O 0 0
def Ag.oldW{S:N->Prop}{w w' :U}(h:Al w w'):Ag S w w' :=h.mono (λ_ _ x=>x.elim)
def Df(k a c:Z)(s t:Y)(tr fi:β):φ β:= #[I Q k,I Q a,I Q c,G s,G t,tr,fi]
def Ux(x y:β):φ β:= #[I Q 1,I Q 0,I Q 0,G ⟨#[109,46,120,47,121]⟩,G ⟨#[118,49,46,50,46,51]⟩,Do,Do,I Q 2,I Q 0,I Q 0,G ⟨#[97,98,99]⟩,G ⟨#[]⟩,Do,Do,I Q 3,I Q 0,I Q 0,G ⟨#[1,2,0,253,255,72,105]⟩,G ⟨#[]⟩,Do,Do,I Q 4,I Q 0,I Q 0,G ⟨#[72,105]⟩,G ⟨#[]⟩,Do,Do,I Q 5,I Q 0,I Q 0,G ⟨#[]⟩,G ⟨#[]⟩,x,Do,I Q 6,I Q 0,I Q 0,G ⟨#[]⟩,G ⟨#[]⟩,x,Do,I Q 7,I Q 0,I Q 0,G ⟨#[]⟩,G ⟨#[]⟩,Do,Do,I Q 10,I Q 0,I Q 0,G ⟨#[]⟩,G ⟨#[]⟩,Do,y,I Q 11,I Q 0,I Q 0,G ⟨#[]⟩,G ⟨#[]⟩,Do,Do,I Q 13,I Q 0,I Q 0,G ⟨#[112]⟩,G ⟨#[]⟩,Do,Do,I Q 14,I Q 0,I Q 0,G ⟨#[112]⟩,G ⟨#[]⟩,Do,Do]
def JU{P:N->Prop}(h0:P 0)(a:P 1)(b:P 2)(c:P 3)(d:P 4)(e:P 5)(f:P 6): ∀j,j<7->P j:=by
 intro j g
 match j,g with
 |0,_=>exact h0
 |1,_=>exact a
 |2,_=>exact b
 |3,_=>exact c
 |4,_=>exact d
 |5,_=>exact e
 |6,_=>exact f
def Sz{w:U}{o:Obj}{g:N}(a:g=w.heap.size):(w.alloc o).heap[g]? =J o:=by subst a;exact rh w o
def Gm{w:U}{o a :Obj}{g:N}(h:w.heap[g]? =J o):(w.alloc a).heap[g]? =J o:=AQ ((Ag.refl _ w).alloc a) h
def eL{P:Program}{c:Code}{Q:Exit->Act->U->Prop}{a:Act}{W:U}(R:U->Prop)(d:R W)(h: ∀b,R b ->c.wp P Q a b):c.wp P Q a W:=h W d
def jR(w:U):μ prog 33 #[] w λe w' =>e=ε (δ (J ⟨w.heap.size,0,O⟩))/\w' =w.alloc (γ #[Do,I Q (-1),I Q (-1),I Q 0,.bool false] 92):=by
 go_in;go_wp2;exact yY
