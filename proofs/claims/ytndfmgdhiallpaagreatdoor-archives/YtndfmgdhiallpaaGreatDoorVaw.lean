import Derived.Test.YtndfmgdhiallpaaGreatDoorVau
import Derived.Test.YtndfmgdhiallpaaGreatDoorVav
set_option linter.all false
set_option maxRecDepth 100000
set_option maxHeartbeats 4000000
open _root_ renaming Option.some->J,Option.none->O,Int->Z,Nat->N,Go.Value.int->I,Go.Value.string->G,Go.IntKind.i64->Q,ByteArray->Y,List->E,Go.World->U,Go.Value.slice->K,Go.Value->β,Go.Obj.cells->γ,Go.Value.pointer->δ,Go.Ending.returned->ε,Go.Value.bool->ζ,absurd->κ,Go.Calls->μ,Go.RowKit.Hid->χ,Decidable.decide->Γ
namespace Go.Proofs.YtndfmgdhiallpaaGreatDoor
open Go.RowKit Go.Maps Go.Proofs.Tryz
abbrev Zi:TypeId:=122
def Jr:(prog.info? 50).map (λi=>(i.zero,i.size,i.bytes))=J (J (.agg #[G ⟨#[]⟩,G ⟨#[]⟩]),2,32):=Ab
def Rh(w:U)(gt:N)(nm:Y)(ln:Bool)(dt:Y):Prop:=gt<w.heap.size/\w.cell? ⟨gt,0,O⟩=J (G nm)/\w.cell? ⟨gt,1,O⟩=J (ζ ln)/\w.cell? ⟨gt,2,O⟩=J (G dt)
def Rh.kept{S:N->Prop}{w w' :U}{a:N}{nm:Y}{ln:Bool}{dt:Y}(h:Rh w a nm ln dt)(b:Ag S w w')(c:¬S a):Rh w' a nm ln dt:=by
 obtain⟨h0,d,e,f⟩:=h;exact⟨rW h0 b.size,(b.cell (p:=⟨a,0,O⟩) h0 c).trans d,(b.cell (p:=⟨a,1,O⟩) h0 c).trans e,(b.cell (p:=⟨a,2,O⟩) h0 c).trans f⟩
def Rh.old{w w' :U}{a:N}{nm:Y}{ln:Bool}{dt:Y}(h:Rh w a nm ln dt)(b:Al w w'):Rh w' a nm ln dt:=h.kept b (λx=>x)
def Rh.made(w:U)(nm:Y)(ln:Bool)(dt:Y):Rh (w.alloc (γ #[G nm,ζ ln,G dt] 39)) w.heap.size nm ln dt:=
 ⟨by rw[rr];omega,by rw[qV _ _ 0 _ _ (0,0) (rh _ _)];rfl,by rw[qV _ _ 1 _ _ (0,0) (rh _ _)];rfl,by rw[qV _ _ 2 _ _ (0,0) (rh _ _)];rfl⟩
def Ax{S:N->Prop}{w w' :U}{e:TypeId}{k:N}{v:β}{n:N}{a:E β}(h:w.ownsRow 0 e k v n a)(ho:Ag S w w')(hs: ∀b,v.ownBlock=J b->¬S b):w'.ownsRow 0 e k v n a:=zY
def Aj{w:U}{e:TypeId}{k:N}{v:β}{n:N}{a:E β}(h:w.ownsRow 0 e k v n a){b:N}(hb:v.ownBlock=J b): ∃cur,w.heap[b]? =J (γ cur e (0,0)):=WW
def Au.kept{S:N->Prop}{w w' :U}{v:β}{fs:E Fl}(h:Au w v fs)(a:Ag S w w')(c: ∀b,v.ownBlock=J b->¬S b):Au w' v fs:=Ax h a c
def Au.old{w w' :U}{v:β}{fs:E Fl}(h:Au w v fs)(a:Al w w'):Au w' v fs:=h.kept a (λ_ _ x=>x)
def Im(a b:E Fl):AG (a++b)=AG a++AG b:=by simp[AG]
def GT(w:U)(gc gm n:N)(v:β)(fs:E Fl)(f:Gp)(all:N):Prop:=w.heap[gc]? =J (γ #[v,.map (J gm),I Q all] Zi (0,0))/\Au w v fs/\Cc w gm n f
def GT.lt{w:U}{a gm n:N}{v:β}{fs:E Fl}{f:Gp}{all:N}(h:GT w a gm n v fs f all):a<w.heap.size/\gm<w.heap.size/\∀b,v.ownBlock=J b->b<w.heap.size:=by
 obtain⟨d,e,g⟩:=h;refine⟨(qW.1 d).1,g.lt,λb i=> ?_⟩;obtain⟨c,j⟩:=Aj e i;exact(qW.1 j).1
def GT.apart{w:U}{d gm n:N}{v:β}{fs:E Fl}{f:Gp}{all:N}(h:GT w d gm n v fs f all):d≠gm/\∀b,v.ownBlock=J b->b≠d/\b≠gm:=by
 obtain⟨i,k,D,⟨m,c,g,_⟩,_⟩:=h;refine⟨λe=> ?_,λb l=> ?_⟩
 .rw[<-e,i] at g;cases g
 obtain⟨j,a⟩:=Aj k l;refine⟨λe=> ?_,λe=> ?_⟩
 .rw[e,i] at a;injection a with a;injection a with _ a;exact κ a Ac
 rw[e,g] at a;cases a
def GT.kept{S:N->Prop}{w w' :U}{a gm n:N}{v:β}{fs:E Fl}{f:Gp}{all:N}(h:GT w a gm n v fs f all)(c:Ag S w w')(d:¬S a)(e:¬S gm)(g: ∀b,v.ownBlock=J b->¬S b):GT w' a gm n v fs f all:=
 ⟨(c.block a h.lt.1 d).trans h.1,h.2.1.kept c g,h.2.2.kept c e⟩
def GT.old{w w' :U}{a gm n:N}{v:β}{fs:E Fl}{f:Gp}{all:N}(h:GT w a gm n v fs f all)(b:Al w w'):GT w' a gm n v fs f all:=h.kept b (λx=>x) (λx=>x) (λ_ _ x=>x)
def lH(nm dt:Y)(ln:Bool)(d gm n:N)(v:β)(fs:E Fl)(f:Gp)(all:N)(d9:nm.size<=1000)(d2:CT f nm=false)(e4:(Γ (nm≠Ez)&&Γ (AO nm=Ez))=false)(g0:dt.size<=Bu nm)(h8:fs.length<60)(h4:all+dt.size<=16000)(hn:n<=1000000)(w:U)(hch:GT w d gm n v fs f all):
 μ prog 81 #[δ (J ⟨d,0,O⟩),.agg #[G nm,ζ ln,G dt]] w λr w' =>r=ε (I Q 0)/\∃v',GT w' d gm (n+1001) v' (fs++[(nm,dt)]) (GR f nm) (all+dt.size)/\Ag (λk=>k=d\/k=gm\/v.ownBlock=J k) w w' /\∀b,v'.ownBlock=J b->v.ownBlock=J b\/w.heap.size<=b:=by
 obtain⟨h9,i1,e8⟩:=hch.lt;obtain⟨b5,e7⟩:=hch.apart;have f5:=Af e8;have z:=Af e7;obtain⟨ao,cap,rfl⟩: ∃ao cap,v=K ao fs.length cap:=zE;have hA:Al w (w.alloc (γ #[G nm,ζ ln,G dt] 39)):=(Ag.refl _ w).alloc _;have HE:=Af (Rh.made w nm ln dt);have D:=Af (hch.old hA);have HO:=Af hA;have f3:χ (¬((Bu nm:N):Z)<(dt.size:Z)):=by unfold χ;omega
 have H4:=Af (λW=>UA nm W);have H1:=Af (λW h=>GS nm d9 gm n f W h);have H2:=Af (λW=>MN nm Aa W);have H3:=Af (λW h=>pt nm d9 gm n hn f W h);rw[d2] at H1;rw[e4] at H2;have h6:dt.size<=16000:=Aa;generalize Bu nm=M at*;generalize GR f nm=f2 at*;clear hA hch e8 e7 d2 e4 g0;go_in;go_upto_region 2 with fail;generalize w.alloc (γ #[G nm,ζ ln,G dt] 39)=W at*;have c9:W.cell? ⟨d,1,O⟩=J (.map (J gm)):=by rw[qV W d 1 _ _ (0,0) (uh D).1];rfl
 have a:W.drew.cell? ⟨d,1,O⟩=J (.map (J gm))/\W.drew.cell? ⟨w.heap.size,0,O⟩=J (G nm)/\True:=⟨c9,HE.2.1,trivial⟩;have H1:=Af (H1 W.drew D.2.2);refine Ai (S:=λW=>W.cell? ⟨d,1,O⟩=J (.map (J gm))/\W.cell? ⟨w.heap.size,0,O⟩=J (G nm)/\True) (L:=7) Ab ?_;refine tk 0 8 (δ (J ⟨d,0,O⟩)) 10 a ?_;refine tk 1 8 (δ (J ⟨d,0,O⟩)) 11 a ?_;refine tk 2 8 (δ (J ⟨d,1,O⟩)) 12 a ?_;refine tk 3 8 (.map (J gm)) 13 a ?_;refine tk 4 8 (δ (J ⟨w.heap.size,0,O⟩)) 14 a ?_;refine tk 5 8 (G nm) 15 a ?_;refine Ah (i:=6) Ab ?_;refine ri rfl (λK' g=> ?_);go_simp;refine H1.mono ?_;rintro r w1 ⟨rfl,e0⟩;have s :Al W w1:=((Ag.refl _ W).drew).trans e0;have F:=Af (HE.old s);have a7:=Af (D.old s);have c1:=Af (Ag.trans (uh HO) s);have a2:w1.cell? ⟨d,1,O⟩=J (.map (J gm)):=by rw[qV w1 d 1 _ _ (0,0) (uh a7).1];rfl
 refine g _ _ ⟨λ_=>⟨a2,F.2.1,trivial⟩, ?_⟩;clear g H1 e0 s a HE D HO;refine Ah (i:=7) Ab ?_;refine ri rfl (λK' g=> ?_);go_simp;refine g _ _ ⟨λh=>κ rfl h, ?_⟩;clear g;refine Am Ab ?_;have g1:=F.2.1;go_wp2_with fail;refine(H2 w1).mono ?_;rintro r w2 ⟨rfl,a0⟩;have H:=Af (F.old a0);have l:=Af (a7.old a0);have c2:=Af (Ag.trans (uh c1) a0);have d7:=H.2.1;have f8:=H.2.2.2;have d0:w2.cell? ⟨d,0,O⟩=J (Value.slice ao fs.length cap):=by rw[qV w2 d 0 _ _ (0,0) (uh l).1];rfl
 have a3:w2.cell? ⟨d,1,O⟩=J (.map (J gm)):=by rw[qV w2 d 1 _ _ (0,0) (uh l).1];rfl
 have d1:w2.cell? ⟨d,2,O⟩=J (I Q (all:Z)):=by rw[qV w2 d 2 _ _ (0,0) (uh l).1];rfl
 clear H2 a0 F a7 c1 g1 a2 c9;have g8:¬(fs.length:Z)=60:=Aa;have g6:¬(16000:Z)- (all:Z)<(dt.size:Z):=Aa;have g5:all<=16000:=Aa;have g9:=uh f3;go_wp2_with fail;refine(H4 _).mono ?_;rintro r w3 ⟨rfl,rfl⟩;go_upto_region 12 with fail;have a:w3.drew.cell? ⟨d,1,O⟩=J (.map (J gm))/\w3.drew.cell? ⟨w.heap.size,0,O⟩=J (G nm)/\True:=⟨a3,d7,trivial⟩;have H3:=Af (H3 w3.drew l.2.2);refine Ai (S:=λW=>W.cell? ⟨d,1,O⟩=J (.map (J gm))/\W.cell? ⟨w.heap.size,0,O⟩=J (G nm)/\True) (L:=6) Ab ?_;refine tk 0 7 (δ (J ⟨d,0,O⟩)) 42 a ?_;refine tk 1 7 (δ (J ⟨d,0,O⟩)) 43 a ?_;refine tk 2 7 (δ (J ⟨d,1,O⟩)) 44 a ?_;refine tk 3 7 (.map (J gm)) 45 a ?_;refine tk 4 7 (δ (J ⟨w.heap.size,0,O⟩)) 46 a ?_;refine tk 5 7 (G nm) 47 a ?_;refine Ah (i:=6) Ab ?_;refine ri rfl (λK' g=> ?_);go_simp;refine H3.mono ?_;rintro r p ⟨rfl,e1,a6⟩;have m :Ag (λk=>k=gm) w3 p:=((Ag.refl _ w3).drew).trans e1;refine g _ _ ⟨λh=>κ rfl h, ?_⟩;clear g;refine Am Ab ?_;have d8:w.heap.size≠gm:=Aa;have b2:=Af (H.kept m d8);have y:χ (GT p d gm (n+1001) (Value.slice ao fs.length cap) fs f2 all):=⟨(m.block d l.lt.1 b5).trans l.1,l.2.1.kept m (λb hb=>(z b hb).2),a6⟩;have c3:χ (Ag (λk=>k=d\/k=gm\/(Value.slice ao fs.length cap).ownBlock=J k) w p):=(Ag.oldS (uh c2)).transNew m (λ_ _ h=> .inr (.inl h));clear H3 e1 m a H l c2 d7 f8 d0 a3 d1 a6;have a4:p.cell? ⟨d,2,O⟩=J (I Q (all:Z)):=by rw[qV p d 2 _ _ (0,0) (uh y).1];rfl
 have d3:p.frozen? ⟨d,2,O⟩=false:=rp p d 2 _ _ y.1;have a:p.drew.cell? ⟨d,2,O⟩=J (I Q (all:Z))/\p.drew.cell? ⟨w.heap.size,2,O⟩=J (G dt)/\True:=⟨a4,b2.2.2.2,trivial⟩;obtain⟨A,hN⟩: ∃A,all+dt.size=A:=⟨_,rfl⟩;have e9:IntKind.i64.wrap ((all:Z)+(dt.size:Z))=(A:Z):=by rw[show(all:Z)+(dt.size:Z)=(A:Z) by omega];exact Av A Aa
 go_upto_region 13 with fail;refine Ai (S:=λW=>W.cell? ⟨d,2,O⟩=J (I Q (all:Z))/\W.cell? ⟨w.heap.size,2,O⟩=J (G dt)/\True) (L:=10) Ab ?_;refine tk 0 11 (δ (J ⟨d,0,O⟩)) 49 a ?_;refine tk 1 11 (δ (J ⟨d,0,O⟩)) 50 a ?_;refine tk 2 11 (δ (J ⟨d,2,O⟩)) 51 a ?_;refine tk 3 11 (I Q (all:Z)) 52 a ?_;refine tk 4 11 (δ (J ⟨w.heap.size,2,O⟩)) 53 a ?_;refine tk 5 11 (G dt) 54 a ?_;refine tk 6 11 (I Q (dt.size:Z)) 55 a ?_;refine tk 7 11 (I Q (A:Z)) 56 a ?_;refine tk 8 11 (δ (J ⟨d,0,O⟩)) 57 a ?_;refine tk 9 11 (δ (J ⟨d,2,O⟩)) 58 a ?_;refine Ah (i:=10) Ab ?_;refine ri rfl (λK' g=> ?_);go_simp;refine g _ _ ⟨λh=>κ rfl h, ?_⟩;clear g;refine Am Ab ?_;have C:Ag (λk=>k=d) p (p.setCell ⟨d,2,O⟩ (I Q (A:Z))).drew:=(Ap p d 2 _).drew;have a8:χ (GT (p.setCell ⟨d,2,O⟩ (I Q (A:Z))).drew d gm (n+1001) (Value.slice ao fs.length cap) fs f2 A):=⟨ru p d 2 _ _ _ y.1,y.2.1.kept C (λb hb=>(z b hb).1),y.2.2.kept C (λh=>b5 h.symm)⟩;have P:=Af (b2.kept C Aa);have c4:χ (Ag (λk=>k=d\/k=gm\/(Value.slice ao fs.length cap).ownBlock=J k) w (p.setCell ⟨d,2,O⟩ (I Q (A:Z))).drew):=c3.transNew C (λ_ _ h=> .inl h);clear a y b2 c3 a4 d3 C e9;generalize(p.setCell ⟨d,2,O⟩ (I Q (A:Z))).drew=w5 at*;have a5:w5.cell? ⟨d,0,O⟩=J (Value.slice ao fs.length cap):=by rw[qV w5 d 0 _ _ (0,0) (uh a8).1];rfl
 have a:w5.drew.cell? ⟨d,0,O⟩=J (Value.slice ao fs.length cap)/\w5.drew.cell? ⟨w.heap.size,0,O⟩=J (G nm)/\w5.drew.cell? ⟨w.heap.size,2,O⟩=J (G dt):=⟨a5,P.2.1,P.2.2.2⟩;go_upto_region 14 with fail;refine Ai (S:=λW=>W.cell? ⟨d,0,O⟩=J (Value.slice ao fs.length cap)/\W.cell? ⟨w.heap.size,0,O⟩=J (G nm)/\W.cell? ⟨w.heap.size,2,O⟩=J (G dt)) (L:=16) Ab ?_;refine tk 0 17 (δ (J ⟨d,0,O⟩)) 59 a ?_;refine tk 1 17 (δ (J ⟨d,0,O⟩)) 60 a ?_;refine tk 2 17 (δ (J ⟨d,0,O⟩)) 61 a ?_;refine tk 3 17 (δ (J ⟨d,0,O⟩)) 62 a ?_;refine tk 4 17 ((Value.slice ao fs.length cap)) 63 a ?_;refine tk 5 17 (δ (J ⟨w.heap.size,0,O⟩)) 64 a ?_;refine tk 6 17 (G nm) 65 a ?_;refine tk 8 17 (δ (J ⟨w.heap.size,2,O⟩)) 67 a ?_;refine tk 9 17 (G dt) 68 a ?_;refine Ah (i:=7) Ab ?_;refine ri rfl (λK' g=> ?_);go_simp;refine(MO nm Aa _).mono ?_;rintro r w6 ⟨rfl,e2⟩;have t :Al w5 w6:=((Ag.refl _ w5).drew).trans e2;have R:=Af (P.old t);have a9:=Af (a8.old t);have c5:χ (Ag (λk=>k=d\/k=gm\/(Value.slice ao fs.length cap).ownBlock=J k) w w6):=c4.trans (Ag.oldS t);have e5:w6.cell? ⟨d,0,O⟩=J (Value.slice ao fs.length cap)/\w6.cell? ⟨w.heap.size,0,O⟩=J (G nm)/\w6.cell? ⟨w.heap.size,2,O⟩=J (G dt):=⟨by rw[qV w6 d 0 _ _ (0,0) (uh a9).1];rfl,R.2.1,R.2.2.2⟩;refine g _ _ ⟨λ_=>e5, ?_⟩;clear g a e2 t P a8 c4 a5 e5;refine Ah (i:=10) Ab ?_;refine ri rfl (λK' g=> ?_);go_simp;refine(MO dt Aa _).mono ?_;rintro r j ⟨rfl,a1⟩;have T:=Af (R.old a1);have b0:=Af (a9.old a1);have c6:χ (Ag (λk=>k=d\/k=gm\/(Value.slice ao fs.length cap).ownBlock=J k) w j):=c5.trans (Ag.oldS a1);have a:j.cell? ⟨d,0,O⟩=J (Value.slice ao fs.length cap)/\j.cell? ⟨w.heap.size,0,O⟩=J (G nm)/\j.cell? ⟨w.heap.size,2,O⟩=J (G dt):=⟨by rw[qV j d 0 _ _ (0,0) (uh b0).1];rfl,T.2.1,T.2.2.2⟩;refine g _ _ ⟨λ_=>a, ?_⟩;clear g a1 R a9 c5;refine tk 11 17 (.agg #[G nm,G dt]) 70 a ?_;refine Ah (i:=12) Ab ?_;refine ri rfl (λK' g=> ?_);go_simp;have X:Al j (j.alloc (γ #[G nm,G dt] 50)):=(Ag.refl _ j).alloc _;have c0:=Af (AB j [G nm,G dt] 50);have V:=Af (T.old X);have q:=Af (b0.old X);have b3:χ (Ag (λk=>k=d\/k=gm\/(Value.slice ao fs.length cap).ownBlock=J k) w (j.alloc (γ #[G nm,G dt] 50))):=c6.trans (Ag.oldS X);have b4:χ ((j.alloc (γ #[G nm,G dt] 50)).heap.size=j.heap.size+1):=by unfold χ;rw[rr]
 have e6:(j.alloc (γ #[G nm,G dt] 50)).cell? ⟨d,0,O⟩=J (Value.slice ao fs.length cap)/\(j.alloc (γ #[G nm,G dt] 50)).cell? ⟨w.heap.size,0,O⟩=J (G nm)/\(j.alloc (γ #[G nm,G dt] 50)).cell? ⟨w.heap.size,2,O⟩=J (G dt):=⟨by rw[qV _ d 0 _ _ (0,0) (uh q).1];rfl,V.2.1,V.2.2.2⟩;refine g _ _ ⟨λ_=>e6, ?_⟩;clear g a X e6 T b0 c6;obtain⟨i0,f9,g2,g3,g4⟩:=rN Jr;have c7:=Af q.2.1;refine Ah (i:=13) Ab ?_;refine CW rfl rfl (wp_append_lies _ (.tmp 63) (.tmp 71) 41 rfl 0 50 i0 (.agg #[G ⟨#[]⟩,G ⟨#[]⟩]) 2 32 underlying41 f9 g2 g3 g4 rfl Aa (Value.slice ao fs.length cap) fs.length (AG fs) rfl (uh c7) ⟨j.heap.size,0,O⟩ 1 1 [G nm,G dt] rfl rfl (uh c0) (by intro u hu;simp at hu;rcases hu with rfl|rfl<;>rfl) Aa (by unfold maxLen;omega) Aa Aa (j.heap.size+1) (uh b4) ?_);intro B cap2 x e3 d4 d5 d6;have o:Ag (λk=>(Value.slice ao fs.length cap).ownBlock=J k) (j.alloc (γ #[G nm,G dt] 50)) x:=(Ag.refl _ _).grown d4 (λk _ e=>e);have b9:χ (∀b,(Value.slice ao fs.length cap).ownBlock=J b->b≠w.heap.size):=λb hb e=>by have:=f5 b hb;omega
 have b7:=Af (V.kept o (λe=>b9 _ e rfl));have b1:χ (x.heap[d]? =J (γ #[(Value.slice ao fs.length cap),.map (J gm),I Q A] Zi (0,0))):=(o.block d q.lt.1 (λe=>(z d e).1 rfl)).trans q.1;have f1:=Af (q.2.2.kept o (λe=>(z gm e).2 rfl));have f4:χ (Ag (λk=>k=d\/k=gm\/(Value.slice ao fs.length cap).ownBlock=J k) w x):=b3.transNew o (λ_ _ h=> .inr (.inr h));have c8:=Af e3;have f0:χ (B≠d/\B≠gm/\((Value.slice ao fs.length cap).ownBlock=J B\/w.heap.size<=B)):=by
  unfold χ;rcases d5 with h|h
  .exact ⟨(z B h).1,(z B h).2,.inl h⟩
  have h1:=q.lt;have h2:=uh b4;have h3:=b3.size;exact⟨Aa,Aa,.inr Aa⟩
 have a:x.cell? ⟨d,0,O⟩=J (Value.slice ao fs.length cap)/\x.cell? ⟨w.heap.size,0,O⟩=J (G nm)/\x.cell? ⟨w.heap.size,2,O⟩=J (G dt):=⟨by rw[qV x d 0 _ _ (0,0) (uh b1)];rfl,b7.2.1,b7.2.2.2⟩;have h7:x.frozen? ⟨d,0,O⟩=false:=rp x d 0 _ _ (uh b1);refine⟨λ_=>a, ?_⟩;simp only[Act.put,List.getElem_toArray,List.getElem_cons_succ,List.getElem_cons_zero,rk,rA,rB];clear o e3 d4 d5 d6 V q b3 c0 b4 c7;refine tk 14 17 (δ (J ⟨d,0,O⟩)) 73 a ?_;refine tk 15 17 (δ (J ⟨d,0,O⟩)) 74 a ?_;refine Ah (i:=16) Ab ?_;refine ri rfl (λK' g=> ?_);have g7:=a.1;go_simp;refine g _ _ ⟨λh=>κ rfl h, ?_⟩;clear g;refine Am Ab ?_;go_wp2;go_ret;obtain⟨f6,h5,f7⟩:=uh f0;have b6:Ag (λk=>k=d) x (x.setCell ⟨d,0,O⟩ (K (J ⟨B,0,O⟩) (fs.length+1) cap2)):=Ap x d 0 _;refine⟨rfl,K (J ⟨B,0,O⟩) (fs.length+1) cap2,⟨?_, ?_,f1.kept b6 (λh=>b5 h.symm)⟩,f4.transNew b6 (λ_ _ h=> .inl h),λb hb=> ?_⟩
 .rw[hN];exact ru x d 0 _ _ _ (uh b1)
 .have h1:x.ownsRow 0 50 2 (K (J ⟨B,0,O⟩) (fs.length+1) cap2) (fs++[(nm,dt)]).length (AG (fs++[(nm,dt)])):=by
   rw[Im,qU];exact c8
  exact Ax h1 b6 (λb hb e=>f6 ((rD (show J B=J b from hb)).trans e))
 have:B=b:=rD (show J B=J b from hb);subst this;exact f7
abbrev nk:β:=.func (.func 83) #[] #[]
def no:IA 264 Fc:=by
 intro c w i;have H1:=Af (po c w i);have H2:=Af (eO c w i);have b:χ (Fc c=(((LR c||BR c)||decide (c=46))||decide (c=45))):=rfl;generalize Fc c=ans at*;cases hb1:LR c with
 |true=>
  rw[hb1] at H1 b;have a:ans=true:=by rw[uh b];rfl
  subst a;exact abC
 |false=>
  rw[hb1] at H1 b;cases hb2:BR c with
  |true=>
   rw[hb2] at H2 b;have a:ans=true:=by rw[uh b];rfl
   subst a;exact abD
  |false=>
   rw[hb2] at H2 b;by_cases d:c=46
   .have a:ans=true:=(by rw[uh b,qZ d];rfl);subst a d;clear b hb1 hb2;exact abD
   have g:((c:Z)==46)=false:=by rw[re];omega
   by_cases f:c=45
   .have a:ans=true:=(by rw[uh b,qZ f];simp);subst a f;clear b hb1 hb2 g d;exact abD
   have h:((c:Z)==45)=false:=by rw[re];omega
   have a:ans=false:=by rw[uh b,qX d,qX f];rfl
   subst a;clear b hb1 hb2 f d;exact abD
def fe(s:Y)(f:s.size<=140737488355328)(w:U):
 μ prog 263 #[G s,.func (.func 264) #[] #[]] w λr w' =>r=ε (ζ (Ch Fc s))/\w' =w:=by
 have HF:=Af no;have HB:=Af (λi (c:i<s.size) h=>IR (p:=Fc) (s:=s) c h);have HG:=Af (Gz (p:=Fc) (s:=s));go_in;go_wp2_with fail;go_loop [5,8] (λ_ x=> ∃i:N,i<=s.size/\x=I Q i/\χ (∀j,j<i->Fc (As s j)=true)) (λ_ x=>s.size- (intOf x).toNat)
 .exact WU
 obtain⟨i,c,rfl,HI⟩:=hrel;by_cases hlt:i<s.size
 .have hltI:(i:Z)<(s.size:Z):=Aa;have d:=AC (s:=s) (k:=i) hlt;have a:=Bf s i;have HC:=Af (HF (As s i) w a);cases hp:Fc (As s i) with
  |true=>
   rw[hp] at HC;have HN:χ (∀j,j<i+1->Fc (As s j)=true):=λj hj=>Hk
   exact zB
  |false=>
   exact zx
 exact zC
def MP(e:Y):Bool:=Ch Lj e&& !Lib.hasPrefix e.data.toList (⟨#[46]⟩:Y).data.toList&& !Lib.hasSuffix e.data.toList (⟨#[46]⟩:Y).data.toList
def ff(s:Y)(d:s.size<=2000000)(w:U):μ prog 165 #[G s] w λr w' =>r=ε (ζ (MP s))/\w' =w:=by
 have H1:=Af (jS s Aa w);have H2:=Af (strings_HasPrefix s ⟨#[46]⟩ w);have c:=Af (strings_HasSuffix s ⟨#[46]⟩ w Aa);have b:χ (MP s=(Ch Lj s&& !Lib.hasPrefix s.data.toList (⟨#[46]⟩:Y).data.toList&& !Lib.hasSuffix s.data.toList (⟨#[46]⟩:Y).data.toList)):=rfl;generalize MP s=ans at*;generalize Ch Lj s=b1 at*;generalize Lib.hasPrefix s.data.toList (⟨#[46]⟩:Y).data.toList=b2 at*;generalize Lib.hasSuffix s.data.toList (⟨#[46]⟩:Y).data.toList=b3 at*;cases b1 with
 |false=>
  have a:ans=false:=by rw[uh b];rfl
  subst a;exact abC
 |true=>
 cases b2 with
 |true=>
  have a:ans=false:=by rw[uh b];rfl
  subst a;exact abD
 |false=>
  have a:ans= !b3:=by rw[uh b];rfl
  subst a;clear b;go_in;go_wp2_with fail;refine H1.mono ?_;rintro e w1 ⟨rfl,rfl⟩;go_wp2_with fail;refine H2.mono ?_;rintro e w2 ⟨rfl,rfl⟩;go_wp2_with fail;refine c.mono ?_;rintro e w3 ⟨rfl,rfl⟩;exact yU
def DK(s:Y):Bool:=Ch BR s&&Γ (s.size<=5)&&(Γ (s=⟨#[48]⟩)|| !Γ (As s 0=48))
def KE(s:Y):Bool:=Ch Fc s&&Γ (s.size<=20)
def Ri{p:N->Bool}{s:Y}(h:Ch p s=true):0<s.size:=by
 rw[Ch,rX] at h;exact rQ h.2
def Rj(s:Y)(a:s.size<=2000000)(w:U):μ prog 164 #[G s] w λr w' =>r=ε (ζ (DK s))/\w' =w:=by
 have H1:=Af (Zf s Aa w);exact abB
def jV(s:Y)(f:s.size<=2000000)(w:U):μ prog 163 #[G s] w λr w' =>r=ε (ζ (KE s))/\w' =w:=by
 have H1:=Af (fe s Aa w);have d:χ (KE s=(Ch Fc s&&Γ (s.size<=20))):=rfl;generalize KE s=ans at*;generalize Ch Fc s=b1 at*;by_cases b:s.size<=20
 .have c:(s.size:Z)<=20:=Aa;have a:ans=b1:=by rw[uh d,qZ b,Bool.and_true]
  subst a;cases ans with
  |true=>
   exact abC
  |false=>
   exact abC
 have c:Γ ((s.size:Z)<=20)=false:=qX Aa;have a:ans=false:=by rw[uh d,qX b,Bool.and_false]
 subst a;cases b1 with
 |true=>
  exact abC
 |false=>
  exact abC
def Lk(s:Y):Bool:=Γ (s.size<=80)&&((BJ s).all MP&&Γ (0<=Lib.indexByte ((BJ s).getD 0 ⟨#[]⟩).data.toList 46))
def bB(s:Y)(w:U)(u:Cb w):μ prog 86 #[G s] w λr w' =>r=ε (ζ (Lk s))/\Al w w' :=by
 by_cases c:s.size<=80
 .have d:¬(80:Z)<(s.size:Z):=Aa;have m:=Af (XM s Aa w u);have p:χ (Lk s=((BJ s).all MP&&Γ (0<=Lib.indexByte ((BJ s).getD 0 ⟨#[]⟩).data.toList 46))):=by unfold χ;rw[Lk,qZ c,tj]
  have H:(BJ s).length<=100:=ws;have k:0<(BJ s).length:=by rw[Fw];omega
  have B:χ (∀x∈BJ s,x.size<=100000):=λx hx=>by have:=Rf hx;omega
  generalize Lk s=ans at*;generalize BJ s=L at*;clear u;go_in;go_wp2_with fail;refine m.mono ?_;rintro e W ⟨rfl,v,l,t⟩;have HO:=Af v;have o:=Af t;clear v t l m;generalize w.heap.size=g at*;go_wp2_with fail;go_loop [5,13] (λ_ x=> ∃i:N,i<=L.length/\x=I Q i/\χ (∀j (h:j<L.length),j<i->MP L[j]=true)) (λ_ x=>L.length- (intOf x).toNat)
  .exact Wk
  obtain⟨i,M,rfl,HT⟩:=hrel;by_cases hil:i<L.length
  .have f:(i:Z)<(L.length:Z):=Aa;have D:=o i hil;have b:=Af (ff L[i] (rz (B _ (ro hil)) Aa) W);cases hel:MP L[i] with
   |true=>
    rw[hel] at b;have HT' :χ (∀j (h:j<L.length),j<i+1->MP L[j]=true):=Hh;clear hel;generalize L[i]=z at*;go_wp2_with fail;refine b.mono ?_;rintro e w' ⟨rfl,rfl⟩;clear b;exact Hf
   |false=>
    rw[hel] at b;have hans:ans=false:=by
     have:L.all MP=false:=by
      rw[tG];exact Wv
     rw[uh p,this];rfl
    subst hans;clear hel;generalize L[i]=z at*;go_wp2_with fail;refine b.mono ?_;rintro e w' ⟨rfl,rfl⟩;clear b;exact zD
  have f:¬(i:Z)<(L.length:Z):=Aa;have F:(0:Z)<(L.length:Z):=Aa;have a:L.all MP=true:=by
   rw[rV];exact Ho
  have C:=o 0 k;have y:L.getD 0 ⟨#[]⟩=L[0]:=by rw[qT,qY k];rfl
  have hans:ans=Γ (0<=Lib.indexByte L[0].data.toList 46):=by rw[uh p,a,y];rfl
  have n:=Af (strings_Contains_one L[0] 46 W);clear a y;generalize L[0]=z at*;have q:Γ (0<=Lib.indexByte z.data.toList 46)=ans:=hans.symm;have A:χ (μ prog 166 #[G z,G ⟨#[46]⟩] W λr w' =>r=ε (ζ ans)/\w' =W):=by rw[<-q];exact n
  clear hans q n;go_wp2_with fail;refine A.mono ?_;rintro e w' ⟨rfl,rfl⟩;exact zD
 have d:(80:Z)<(s.size:Z):=Aa;have hans:Lk s=false:=by rw[Lk,qX c,xe]
 exact abY
def Cw(s:Y):E Y:=Lib.splitB ⟨#[46]⟩ 0 (Lib.countB s ⟨#[46]⟩) s
def Rk(s:Y):(Cw s).length=Lib.countB s ⟨#[46]⟩+1:=Lib.splitB_all _ Ac _ _ _ rfl
def UF{s x:Y}(h:x∈Cw s):x.size<=s.size:=MM _ _ _ _ h
def fg(s:Y)(c:s.size<=2000000)(w:U)(a:Cb w):μ prog 103 #[G s,G ⟨#[46]⟩] w λr w' =>r=ε (K (J ⟨w.heap.size,0,O⟩) (Cw s).length (Cw s).length)/\Al w w' /\w.heap.size<w'.heap.size/\∀i (h:i<(Cw s).length),w'.cell? ⟨w.heap.size,i,O⟩=J (G (Cw s)[i]):=by
 obtain⟨m,a⟩:=a;refine(strings_Split s ⟨#[46]⟩ m w Aa a Ac).mono ?_;rintro e w' ⟨rfl,rfl⟩;refine⟨by rw[Rk],(Ag.refl _ w).alloc _,by rw[rr];omega,λi b=> ?_⟩;rw[qV _ _ i _ _ (0,0) (rh _ _)];have:((Cw s).map Value.string).toArray[i]? =J (G (Cw s)[i]):=by simp[b]
 exact this
