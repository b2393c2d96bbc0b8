import Derived.Test.YtndfmgdhiallpaaGreatDoorVak
set_option linter.all false
set_option maxRecDepth 100000
set_option maxHeartbeats 2000000
open _root_ renaming Option.some->J,Option.none->O,Int->Z,Nat->N,Go.Value.int->I,Go.Value.string->G,Go.IntKind.i64->Q,ByteArray->Y,List->E,Go.World->U,Go.Value.slice->K,Go.Value->β,Go.Obj.cells->γ,Go.Value.pointer->δ
namespace Go.Proofs.YtndfmgdhiallpaaGreatDoor
open Go.RowKit Go.Proofs.Tryz
structure Su (p:Y) (its:E It):Prop where
 pre:p.size<=1000
 oks: ∀i∈its,i.ok
 any:0<its.length
 few:its.length<=1000
 locs:(AM p its).length<=400000
 cents:(AW p its its.length).length<=400000
 pos:0<(AW p its its.length).length
def lG(B:N->Prop)(p:Y)(v:β)(its:E It)(q:Su p its)(w:U)(F:DO w B v its):
 Calls prog 89 #[G p,v] w λr w' =>Al w w' /\r=.returned (G ⟨(BE p its).toArray⟩):=by
 obtain⟨i0,f1,f6,f7,f8⟩:=rN FU;obtain⟨g,cap,rfl,_,g0,hg,a2⟩:=F.slice q.any;have f0:g<w.heap.size:=(qW.1 hg).1;have P:=Af a2;have f:=Af q;have hn:=q.any;have g5:=q.few;clear a2 F q hg;go_in;go_wp2;go_loopw [5,6,8,13] (λu5 u6 _ x wr=> ∃i:N,i<=its.length/\x=I Q i/\Hid (jH w wr u5 u6 (AM p (its.take i)) (AW p its i))) (λ_ _ _ x _=>its.length- (intOf x).toNat)
 .exact ⟨0,Aa,rfl,Ag.refl _ w,λ_=>False,λ_=>False,λ_ h=>h.elim,λ_ h=>h.elim,λ_ h=>h.elim,Dh.nil _ _,Dh.nil _ _⟩
 obtain⟨i,hi,rfl,m⟩:=hrel;by_cases d:i<its.length
 .have a7:(i:Z)<(its.length:Z):=Aa;have o:=λc o=>(m.1.cell (p:=⟨g,i*5+c,O⟩) f0 (λx=>x)).trans (P i d c o)
  have T:Hid (its.getD i BG).ok:=by unfold Hid;rw[qT,qY d];exact f.oks _ (ro d)
  have c6:=Af (Jp p its i d);have b9:=Af (Cq p its i);have V:Hid ((AM p (its.take i)).length<=400000):=rz (ev p its i) f.locs;have c5:Hid ((AW p its i).length<=400000):=rz (MG p its i _ hi) f.cents;generalize its.getD i BG=it at*;generalize AM p (its.take i)=l5 at*;generalize AW p its i=a at*;obtain⟨nm,M,ck,L,pk⟩:=it;have e3:wr.cell? ⟨g,i*5,O⟩=J (G nm):=o 0 Aa;have e4:wr.cell? ⟨g,i*5+1,O⟩=J (I .u32 M):=o 1 Aa;have e7:wr.cell? ⟨g,i*5+2,O⟩=J (I .u32 ck):=o 2 Aa;have e8:wr.cell? ⟨g,i*5+3,O⟩=J (I .u32 L):=o 3 Aa;have e9:wr.cell? ⟨g,i*5+4,O⟩=J (G pk):=o 4 Aa;have g1:i<=1000:=Aa;clear o;obtain⟨⟨y,z,rfl⟩,_⟩:=m.slices;have hA:Al wr (wr.alloc (γ (It.v ⟨nm,M,ck,L,pk⟩) 131)):=(Ag.refl _ wr).alloc _;have HI:Hid (Fv (wr.alloc (γ (It.v ⟨nm,M,ck,L,pk⟩) 131)) wr.heap.size ⟨nm,M,ck,L,pk⟩):=rh wr _;obtain⟨S,hF,n,s,a8⟩:=m.next6 hA;have c7:Hid (¬S wr.heap.size):=s _ (rj _) (by rw[rr];omega);have W:=Af a8;have H1:=Af (eu S u6 a p f.pre ⟨nm,M,ck,L,pk⟩ (uh T) l5.length (by have:=uh V;omega) (by have:=uh c5;omega) _ hF n);obtain⟨d0,d1,d2,d3,d4⟩:=HI.cells;simp only[It.v] at*;clear hA hF n s a8 m;go_wp2_with fail;refine H1.mono ?_;rintro r w1 ⟨A,v6,rfl,b5⟩;have X:=Af (W w1 v6 _ A b5);have R:=Af (HI.kept A (uh c7));obtain⟨c0,c1,c2,c3,c4⟩:=R.cells;obtain⟨S2,a0,a1,_,t⟩:=X.swap.next6 (Ag.refl _ w1);have j:=Af t;have H2:=Af (mS S2 _ l5 p f.pre ⟨nm,M,ck,L,pk⟩ (uh T) (by have:=uh V;omega) _ a0 a1);simp only[It.v] at H2;clear H1 A b5 HI d0 d1 d2 d3 d4 e3 e4 e7 e8 e9 a0 a1 t W;go_wp2_with fail;refine H2.mono ?_;rintro r w2 ⟨a9,v5,rfl,b4⟩;have d5:=Af (j w2 v5 _ a9 b4).swap;clear H2 a9 b4 R c0 c1 c2 c3 c4 j X;go_wp2;go_roundw
  .exact ⟨i+1,Aa,by go_num,by rw[uh c6,uh b9];exact d5⟩
  exact Ae
 have a7:¬(i:Z)<(its.length:Z):=Aa;have f2:i=its.length:=Aa;subst f2;rw[sr] at m;obtain⟨⟨y,z,rfl⟩,d8,e0,rfl⟩:=m.slices;obtain⟨e,B5,B6,hd,h5,h6,e1,e2⟩:=uh m;have g3:=f.locs;have g4:=f.cents;have g7:=f.pos;have HE:Hid (BE p its=AM p its++AW p its its.length++endL its.length (AW p its its.length).length (AM p its).length):=rfl;generalize AM p its=l5 at*;generalize AW p its its.length=a at*;obtain⟨_,_,e5,b6,b2⟩:=e1;injection e5 with e51 _ e52;subst e51 e52;obtain⟨_,_,e6,C,f4⟩:=e2;injection e6 with e61 _ e62;subst e61 e62;have f5: ∃D,d8=J ⟨D,0,O⟩:=by
  rcases C.2 with⟨_,h⟩|⟨D,c,cu,F,_⟩
  .omega
  injection F with F;exact⟨D,F⟩
 obtain⟨D,rfl⟩:=f5;have b7:=Af (C.cells (g:=D) rfl);have d6:=Af b6;have f3: ∀u∈Ak a,u.oneCell' =true:=by intro u hu;simp[Ak] at hu;obtain⟨b,_,rfl⟩:=hu;rfl
 have HF:Hid (Bs (λk=>w.heap.size<=k) wr):=λk q=>rz e.size q
 have HB:=Af (λao2 cap2 w2=>Dh.more (w:=wr) (w1:=wr) (w2:=w2) (S:=λk=>w.heap.size<=k) (l:=l5) (bs:=a) (ao:=y) (cap:=z) (ao2:=ao2) (cap2:=cap2) (H:=wr.heap.size) e.size (Ag.refl _ wr) (λb n=>(h5 _ (b2 b n)).1));have c9:=Af e;have a6:(Ak a).length=a.length*1:=by rw[Pb,ug]
 clear m hd h5 h6 b6 b2 C f4 e P;go_wp2_with (at_builtin;refine wpList_append_lies _ rfl (.tmp 32) (.tmp 33) 62 rfl 0 5 i0 (I .u8 0) 1 1 underlying62 f1 f6 f7 f8 rfl Aa (K y l5.length z) l5.length _ rfl (uh d6) ⟨D,0,O⟩ a.length e0 (Ak a) rfl a6 (uh b7) f3 Aa (by unfold maxLen;omega) Aa Aa _ rfl ?_;intro g2 cap2 w3 b0 a4 a5 f9;have HX:=Af (HB (J ⟨g2,0,O⟩) cap2 w3 b0 a4 (λb n=>by injection n with n;subst n;exact a5));clear b0 a4 a5);have H3:=Af (pi (λk=>w.heap.size<=k) (K (J ⟨g2,0,O⟩) (l5.length+a.length) cap2) (l5++a) its.length a.length l5.length Aa Aa Aa (by rw[qU];omega) w3 (HF.mono HX.1.size) HX.2);refine H3.mono ?_;rintro r w4 ⟨b1,v4,rfl,d7,d9,rfl,b3,_⟩;have a3:(convert 62 9 (K d7 (l5++a++endL its.length a.length l5.length).length d9)).run prog w4=.ok (G ⟨(l5++a++endL its.length a.length l5.length).toArray⟩) w4:=Fp b3;have c8:Hid (Al w w4):=c9.transNew (HX.1.trans b1) (λk q h=>Aa);rw[<-uh HE] at a3 ⊢;clear H3 b1 b3 HX HB;go_wp2;go_ret;exact⟨c8,rfl⟩
open Go.RowKit Go.Maps Go.Proofs.Tryz
