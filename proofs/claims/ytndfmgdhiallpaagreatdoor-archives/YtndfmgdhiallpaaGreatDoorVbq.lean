import Derived.Test.YtndfmgdhiallpaaGreatDoorVbp
set_option linter.all false
set_option maxRecDepth 100000
set_option maxHeartbeats 16000000
open _root_ renaming Option.some->J,Option.none->O,Int->Z,Nat->N,Go.Value.int->I,Go.Value.string->G,Go.IntKind.i64->Q,ByteArray->Y,List->E,Go.World->U,Go.Value.slice->K,Go.Value->β,Go.Obj.cells->γ,Go.Value.pointer->δ,Go.Ending.returned->ε,Go.Value.bool->ζ,Go.Value.tuple->η,Bool.true->θ,Go.Calls->μ,UInt8->υ,Go.Proofs.Tryz.prog->ψ,Decidable.decide->Γ
namespace Go.Proofs.YtndfmgdhiallpaaGreatDoor
open Go.RowKit Go.Maps Go.Proofs.Tryz
def pV(T:E Fl)(w w' :U):Prop:=Al w w' /\∃cur,w'.heap[w.heap.size]? =J (γ cur tF (0,0))/\cur.size=(T.length+2)*2/\bZ cur (T++[kK,kL])
def qA(g n:N)(b:n<=2000000)(W:U):(Instr.slice 41 (K (J ⟨g,0,O⟩) (n+2) (n+2)) O (J (I Q (n:Z))) O).run ψ W=.ok (K (J ⟨g,0,O⟩) n (n+2)) W:=by
 have a:prog.underlying 41=J (.slice (prog.elem 41)):=aaV;rw[run_slice_h (w:=W) (P:=ψ) 41 (J ⟨g,0,O⟩) (n+2) (n+2) a Q (n:Z) Aa Aa,fT];unfold sliced;simp[Addr.add]
def pW{w1:U}{b c:N}{s:WS}{RF RL RT:E (β×Y)}(hc:c<=99999990)(b4:s.m.size<=2000000)(b5:s.v.size<=2000000)(lo:Option Addr)(p:N)(la:Addr)(fs:E Fl)(hn:fs.length<=1100000)(a9: ∀f∈fs,f.1.size<=2000000/\f.2.size<=2000000)(F:0<fs.length->lo=J la)(w:U)(h:CD w1 w b c s RF RL RT)(hG: ∀W,Ag (λk=>k=b) w1 W->Ge W)(hf: ∀W,Ag (λk=>k=b) w1 W->Dw W la fs):
 μ ψ 67 #[δ (J ⟨b,0,O⟩),K lo fs.length p] w λr w' =>r=ε (ζ θ)/\NR w1 w' b (c+1) s.base RL RT:=by
 obtain⟨i0,d5,d8,d9,e0⟩:=rN Jr;have d7:((fs.length:Z)+2).toNat=fs.length+2:=Aa;have e9: ∀W:U,(Instr.makeSlice 41 (I Q ((fs.length:Z)+2)) (I Q ((fs.length:Z)+2))).run ψ W=.ok (K (J ⟨W.heap.size,0,O⟩) (fs.length+2) (fs.length+2)) (W.alloc (γ (madeCells #[G ⟨#[]⟩,G ⟨#[]⟩] ((fs.length+2)*2)) tF)):=by
  intro W;have h:=vE (P:=ψ) W 41 tF i0 (.agg #[G ⟨#[]⟩,G ⟨#[]⟩]) underlying41 d5 d8 .i64 .i64 ((fs.length:Z)+2) ((fs.length:Z)+2) Aa Aa (by rw[e0];omega) Aa;rw[d9,d7] at h;exact h
 have HL:=Af h;have b6:=Af (rh w (γ (madeCells #[G ⟨#[]⟩,G ⟨#[]⟩] ((fs.length+2)*2)) tF));have a2:Hid (Al w (w.alloc (γ (madeCells #[G ⟨#[]⟩,G ⟨#[]⟩] ((fs.length+2)*2)) tF))):=(Ag.refl _ w).alloc _;have c9:=Af (hf _ (h.old (uh a2)).only);have z:Hid (fs.length*2<=(madeCells #[G ⟨#[]⟩,G ⟨#[]⟩] ((fs.length+2)*2)).size):=by unfold Hid;rw[vB];omega
 have H:Hid (∀w2 l,w2.heap[w.heap.size]? =J (γ l tF (0,0))->l.size=(madeCells #[G ⟨#[]⟩,G ⟨#[]⟩] ((fs.length+2)*2)).size->(∀q,q<fs.length*2->l[q]? =(AG fs)[q]?)->(∀q,fs.length*2<=q->l[q]? =(madeCells #[G ⟨#[]⟩,G ⟨#[]⟩] ((fs.length+2)*2))[q]?)->Ag (λi=>i=w.heap.size) (w.alloc (γ (madeCells #[G ⟨#[]⟩,G ⟨#[]⟩] ((fs.length+2)*2)) tF)) w2->(∃y0 y1,w2.cell? ⟨w.heap.size,fs.length*2,O⟩=J y0/\w2.cell? ⟨w.heap.size,(fs.length+1)*2,O⟩=J y1)/\w2.frozen? ⟨w.heap.size,fs.length*2,O⟩=false/\w2.frozen? ⟨w.heap.size,(fs.length+1)*2,O⟩=false/\pV fs w ((w2.setCell ⟨w.heap.size,fs.length*2,O⟩ (G Ig)).setCell ⟨w.heap.size,(fs.length+1)*2,O⟩ (G Kd))):=λw2 l hg hs hl hh o=>by
  rw[vB] at hs;refine⟨⟨l[fs.length*2]'Aa,l[(fs.length+1)*2]'Aa, ?_, ?_⟩,rp w2 _ _ _ _ hg,rp w2 _ _ _ _ hg, ?_,_,ru _ _ _ _ _ _ (ru w2 _ _ _ _ _ hg),by simp[hs],bZ.lent hs hl hh⟩
  .exact wW
  .exact wW
  exact a2.transNew ((o.trans (Ap w2 _ _ _)).trans (Ap _ _ _ _)) (λk hk e=>Aa)
 have e5:=Af F;have a6:Hid (∀W g,Al w W->g<W.heap.size->Dw W ⟨g,0,O⟩ fs->μ ψ 29 #[G s.m,G s.v,K (J ⟨g,0,O⟩) fs.length (fs.length+2)] W λr w' =>Al W w' /\r=ε (η #[G (ER s.m s.v fs).1,I Q ((ER s.m s.v fs).2:Z)])):=λW g o hg u=>
  lR s.m s.v b4 b5 (J ⟨g,0,O⟩) (fs.length+2) g fs hn a9 W hg (λ_=>rfl) (λj hj=>by have:=u j hj;rw[rH,rx] at this;exact this) (hG W (h.old o).only).2 (hG W (h.old o).only).1.1
 have a7:Hid (∀W,Al w W->μ ψ 122 #[G s.m,G s.v,K lo fs.length p] W λr w' =>Al W w' /\r=ε (η #[G (ER s.m s.v fs).1,I Q ((ER s.m s.v fs).2:Z)])):=λW o=>Ta s.m s.v b4 b5 lo p la fs hn a9 F W (hf W (h.old o).only)
 have c8:Hid (∀W g,Al w W->Dw W ⟨g,0,O⟩ fs->μ ψ 115 #[K (J ⟨g,0,O⟩) fs.length (fs.length+2),K lo fs.length p] W λr w' =>r=ε (ζ θ)/\Al W w'):=λW g o u=>Yv (J ⟨g,0,O⟩) lo (fs.length+2) p ⟨g,0,O⟩ la fs Aa (λ_=>rfl) F W u (hf W (h.old o).only)
 have d2:w.cell? ⟨b,0,O⟩=J (G s.m):=by rw[qV w b 0 _ _ (0,0) h.hp];rfl
 have d3:w.cell? ⟨b,1,O⟩=J (G s.v):=by rw[qV w b 1 _ _ (0,0) h.hp];rfl
 have d4:w.cell? ⟨b,2,O⟩=J (G s.ar):=by rw[qV w b 2 _ _ (0,0) h.hp];rfl
 have b7:=Af d2;have b9:=Af d3;have c0:=Af d4;have f5:=h.inb;obtain⟨BB,hB⟩: ∃BB,s.base=BB:=⟨_,rfl⟩;rw[hB];have HB:=Af hB;obtain⟨M,hM⟩: ∃M,s.m=M:=⟨_,rfl⟩;obtain⟨V,hV⟩: ∃V,s.v=V:=⟨_,rfl⟩;obtain⟨A,hA⟩: ∃A,s.ar=A:=⟨_,rfl⟩;rw[hM,hV] at a6 a7;rw[hM] at b7;rw[hV] at b9;rw[hA] at c0;obtain⟨R,e7⟩: ∃R,R=w:=⟨_,rfl⟩;clear h hG hf a9 F hB hM hV hA b4 b5 d2 d3 d4 d7 d5 d8 d9 e0;generalize ER M V fs=sn at*;obtain⟨sa,sk⟩:=sn;simp only at*;have a5: ∀X X' :U,(X.cell? ⟨b,0,O⟩=J (G M)/\X.cell? ⟨b,1,O⟩=J (G V)/\X.cell? ⟨b,2,O⟩=J (G A)/\Al R X)->Al X X' ->(X'.cell? ⟨b,0,O⟩=J (G M)/\X'.cell? ⟨b,1,O⟩=J (G V)/\X'.cell? ⟨b,2,O⟩=J (G A)/\Al R X'):=λX X' h o=>⟨Ao o h.1,Ao o h.2.1,Ao o h.2.2.1,h.2.2.2.trans o⟩
 go_in;go_wp2_with (refine NU rfl (.tmp 18) (.tmp 19) rfl (n:=fs.length+2) (c1:=fs.length+2) (c2:=p) (T:=fs) (ao:=lo) (a:=la) (uh e5) rfl rfl (uh b6) (uh c9) Aa (uh z) ?_;intro w2 l hg hs hl hh o;obtain⟨⟨y0,y1,k0,k1⟩,f0,f1,a0⟩:=H w2 l hg hs hl hh o;have c3:=Af a0;clear hg hs hl hh o a0);generalize(w2.setCell ⟨w.heap.size,fs.length*2,O⟩ (G Ig)).setCell ⟨w.heap.size,(fs.length+1)*2,O⟩ (G Kd)=X at*;obtain⟨hO,f4,hg,f2,u⟩:=uh c3;have a4:=Af hO;have e4:=Af hg;have a3:=Af u;have e8:w.heap.size<X.heap.size:=(qW.1 hg).1;have c5:=Af (u.left.fls hg);have d:X.drew.cell? ⟨b,0,O⟩=J (G M)/\X.drew.cell? ⟨b,1,O⟩=J (G V)/\X.drew.cell? ⟨b,2,O⟩=J (G A)/\Al R X.drew:=⟨Ao hO.drew (uh b7),Ao hO.drew (uh b9),Ao hO.drew (uh c0),by rw[e7];exact hO.drew⟩;have d0:=Af (a6 X.drew w.heap.size hO.drew e8 (c5.old ((Ag.refl _ X).drew)));have f3:=λW=>qA w.heap.size fs.length Aa W
 have f7:(fs.length:Z)<=(fs.length:Z)+2:=Aa;clear a6 c3 H b6 a2 c9 z k0 k1 f0 f1 hO hg u e9;go_wp2_with fail;refine Ai (S:=λX=>X.cell? ⟨b,0,O⟩=J (G M)/\X.cell? ⟨b,1,O⟩=J (G V)/\X.cell? ⟨b,2,O⟩=J (G A)/\Al R X) (L:=16) Ab ?_;refine tk 0 17 (δ (J ⟨b,0,O⟩)) 31 d ?_;refine tk 1 17 (δ (J ⟨b,0,O⟩)) 32 d ?_;refine tk 2 17 (δ (J ⟨b,0,O⟩)) 33 d ?_;refine tk 3 17 (G M) 34 d ?_;refine tk 4 17 (δ (J ⟨b,0,O⟩)) 35 d ?_;refine tk 5 17 (δ (J ⟨b,0,O⟩)) 36 d ?_;refine tk 6 17 (δ (J ⟨b,1,O⟩)) 37 d ?_;refine tk 7 17 (G V) 38 d ?_;refine tk 8 17 (K (J ⟨w.heap.size,0,O⟩) (fs.length+2) (fs.length+2)) 39 d ?_;refine tk 9 17 (I Q (fs.length:Z)) 40 d ?_;refine tk 10 17 (K (J ⟨w.heap.size,0,O⟩) fs.length (fs.length+2)) 41 d ?_;refine Ah (i:=11) Ab ?_;refine ri rfl (λK' B=> ?_);go_simp;refine d0.mono ?_;rintro r w3 ⟨o,rfl⟩;have t:=a5 _ _ d o;refine B _ _ ⟨λ_=>t, ?_⟩;clear B;refine tk 12 17 (η #[G sa,I Q (sk:Z)]) 30 t ?_;refine tk 13 17 (G sa) 43 t ?_;refine tk 14 17 (I Q (sk:Z)) 44 t ?_;refine tk 15 17 (G sa) 7 t ?_;refine Ah (i:=16) Ab ?_;refine ri rfl (λK' B=> ?_);go_simp;refine B _ _ ⟨λh=>absurd rfl h, ?_⟩;clear B;refine Am Ab ?_;have a8:Al X w3:=(Ag.refl _ X).drew.trans o;have c6:=Af a8;have d:w3.drew.cell? ⟨b,0,O⟩=J (G M)/\w3.drew.cell? ⟨b,1,O⟩=J (G V)/\w3.drew.cell? ⟨b,2,O⟩=J (G A)/\Al R w3.drew:=⟨t.1,t.2.1,t.2.2.1,t.2.2.2.drew⟩;have d1:=Af (a7 w3.drew (a4.trans a8).drew);clear d0 t o a8 a7;go_wp2_with fail;refine Ai (S:=λX=>X.cell? ⟨b,0,O⟩=J (G M)/\X.cell? ⟨b,1,O⟩=J (G V)/\X.cell? ⟨b,2,O⟩=J (G A)/\Al R X) (L:=14) Ab ?_;refine tk 0 15 (δ (J ⟨b,0,O⟩)) 46 d ?_;refine tk 1 15 (δ (J ⟨b,0,O⟩)) 47 d ?_;refine tk 2 15 (δ (J ⟨b,0,O⟩)) 48 d ?_;refine tk 3 15 (G M) 49 d ?_;refine tk 4 15 (δ (J ⟨b,0,O⟩)) 50 d ?_;refine tk 5 15 (δ (J ⟨b,0,O⟩)) 51 d ?_;refine tk 6 15 (δ (J ⟨b,1,O⟩)) 52 d ?_;refine tk 7 15 (G V) 53 d ?_;refine tk 8 15 (K lo fs.length p) 54 d ?_;refine Ah (i:=9) Ab ?_;refine ri rfl (λK' B=> ?_);go_simp;refine d1.mono ?_;rintro r w4 ⟨o,rfl⟩;have y:=a5 _ _ d o;refine B _ _ ⟨λ_=>y, ?_⟩;clear B;refine tk 10 15 (η #[G sa,I Q (sk:Z)]) 45 y ?_;refine tk 11 15 (G sa) 56 y ?_;refine tk 12 15 (I Q (sk:Z)) 57 y ?_;refine tk 13 15 (G sa) 9 y ?_;refine Ah (i:=14) Ab ?_;refine ri rfl (λK' B=> ?_);go_simp;refine B _ _ ⟨λh=>absurd rfl h, ?_⟩;clear B;refine Am Ab ?_;have C:Al X w4:=c6.trans ((Ag.refl _ w3).drew.trans o);have c7:=Af C;have z:=Af (c8 w4 w.heap.size (a4.trans C) (c5.old C));clear d1 y o C c8 c6 d a5;go_wp2_with fail;refine z.mono ?_;rintro r w5 ⟨rfl,d6⟩;have D:=c7.trans d6;have x:=AQ D (uh e4);have e3:=Af x;have e6:=Af D;obtain⟨b0,b1⟩:=a3 fs.length (by rw[qU];show _<_+2;omega);obtain⟨b2,b3⟩:=a3 (fs.length+1) (by rw[qU];show _<_+2;omega);rw[qT,rE (rj _),ut] at b0 b1;rw[qT,rE Aa,uj] at b2 b3;have x0:w5.cell? ⟨w.heap.size,fs.length*2,O⟩=J (G Ig):=by rw[qV _ _ _ _ _ (0,0) x];exact b0
 have x1:w5.cell? ⟨w.heap.size,fs.length*2+1,O⟩=J (G ⟨#[]⟩):=by rw[qV _ _ _ _ _ (0,0) x];exact b1
 have x2:w5.cell? ⟨w.heap.size,(fs.length+1)*2,O⟩=J (G Kd):=by rw[qV _ _ _ _ _ (0,0) x];exact b2
 have x3:w5.cell? ⟨w.heap.size,(fs.length+1)*2+1,O⟩=J (G ⟨#[]⟩):=by rw[qV _ _ _ _ _ (0,0) x];exact b3
 have e1:=pF Ig ⟨#[]⟩;have e2:=pF Kd ⟨#[]⟩
 have c4:=Af (Md (wq:=w) Aa w5 (HL.old (a4.trans D)) (J ⟨w.heap.size,0,O⟩) (fs.length+2) (fs.length+2) Aa (AG (fs++[kK,kL])) (bZ.own x f2 (by unfold maxLen;omega) (fs++[kK,kL]) (by rw[qU];rfl) (uh a3)) (λg e=>by
  have f6:w.heap.size=g:=rD e;have h1:=HL.only.size;exact⟨Aa,Aa⟩) HL.rf.2.2)
 clear z d6 D x b0 b1 b2 b3 e3 e6 c7;go_wp2_with fail;refine c4.mono ?_;rintro r w6 ⟨rfl, -,a1⟩;have HX:Hid (NR w1 w6 b (c+1) BB RL RT):=by rw[<-uh HB];exact a1
 clear c4 a1;exact zF
def cq{w1:U}{b c:N}{s:WS}{RF RL RT:E (β×Y)}(g:s.m.size<=2000000)(j:s.v.size<=2000000)(o:s.ar.size<=9223372036854775807)(t:Y)(w:U)(h:CD w1 w b c s RF RL RT)(H: ∀W,Ag (λk=>k=b) w1 W->Ge W):
 μ ψ 68 #[δ (J ⟨b,0,O⟩),G t] w λr w' =>r=ε (ζ θ)/\NR w1 w' b c s.base RL RT:=by
 have HL:=Af h;have p:w.cell? ⟨b,0,O⟩=J (G s.m):=by rw[qV w b 0 _ _ (0,0) h.hp];rfl
 have q:w.cell? ⟨b,1,O⟩=J (G s.v):=by rw[qV w b 1 _ _ (0,0) h.hp];rfl
 have y:w.cell? ⟨b,2,O⟩=J (G s.ar):=by rw[qV w b 2 _ _ (0,0) h.hp];rfl
 have a5:=h.inb;have d:=Af (λW=>Ls s.m s.v s.ar g j o W);have HV1:Hid (∀t W,Al w W->μ ψ 30 #[G s.m,G s.v,G s.ar,G t] W λr w' =>Al W w' /\r=ε (I Q (JF s.m s.v s.ar t:Z))):=λt W ho=>iw s.m s.v s.ar t g j o W (H W ((h.old ho).only)).2 (H W ((h.old ho).only)).1.2 (H W ((h.old ho).only)).1.1
 have HV2:=Af (λt W=>YF s.m s.v s.ar t g j o W);have a:Hid ((Ci s.m s.v s.ar).2=0-> ∀W u,Au W u (Ci s.m s.v s.ar).1->μ ψ 122 #[G s.m,G s.v,u] W λr w' =>Al W w' /\∃(x:Y) (k:Z),r=ε (η #[G x,I Q k])):=λhz W u hf=>by
  obtain⟨f1,f2,f3⟩:=Ky hz;obtain⟨ao,cap,av,rfl,a0,a2⟩:=hf.fls;refine(Ta s.m s.v g j ao cap av _ Aa (λf hf=>by have:=f3 f hf;omega) a0 W a2).mono ?_;rintro r w' ⟨ho,rfl⟩;exact⟨ho,_,_,rfl⟩
 obtain⟨BB,R⟩: ∃BB,s.base=BB:=⟨_,rfl⟩;rw[R];have HB:=Af R;clear R h H;obtain⟨M,T⟩: ∃M,s.m=M:=⟨_,rfl⟩;obtain⟨V,hV⟩: ∃V,s.v=V:=⟨_,rfl⟩;obtain⟨A,P⟩: ∃A,s.ar=A:=⟨_,rfl⟩;rw[T,hV,P] at d HV1 HV2 a;rw[T] at p;rw[hV] at q;rw[P] at y;clear T hV P g j o;obtain⟨W0,hW0⟩: ∃W0,W0=w:=⟨_,rfl⟩;rw[<-hW0] at HV1;have a4:(Ci M V A).2<=100:=Oq M V A;generalize Ci M V A=um at*;obtain⟨ul,F⟩:=um;simp only at*;have HS3: ∀X B :U,(X.cell? ⟨b,0,O⟩=J (G M)/\X.cell? ⟨b,1,O⟩=J (G V)/\X.cell? ⟨b,2,O⟩=J (G A)/\Al W0 X)->Al X B ->(B.cell? ⟨b,0,O⟩=J (G M)/\B.cell? ⟨b,1,O⟩=J (G V)/\B.cell? ⟨b,2,O⟩=J (G A)/\Al W0 B):=λX B h ho=>⟨Ao ho h.1,Ao ho h.2.1,Ao ho h.2.2.1,h.2.2.2.trans ho⟩
 have HSW:w.drew.cell? ⟨b,0,O⟩=J (G M)/\w.drew.cell? ⟨b,1,O⟩=J (G V)/\w.drew.cell? ⟨b,2,O⟩=J (G A)/\Al W0 w.drew:=⟨p,q,y,by rw[hW0];exact(Ag.refl _ w).drew⟩;have d:=Af (d w.drew);clear p q y;go_in;go_wp2_with fail;refine Ai (S:=λX=>X.cell? ⟨b,0,O⟩=J (G M)/\X.cell? ⟨b,1,O⟩=J (G V)/\X.cell? ⟨b,2,O⟩=J (G A)/\Al W0 X) (L:=17) Ab ?_;refine tk 0 18 (δ (J ⟨b,0,O⟩)) 10 HSW ?_;refine tk 1 18 (δ (J ⟨b,0,O⟩)) 11 HSW ?_;refine tk 2 18 (δ (J ⟨b,0,O⟩)) 12 HSW ?_;refine tk 3 18 (G M) 13 HSW ?_;refine tk 4 18 (δ (J ⟨b,0,O⟩)) 14 HSW ?_;refine tk 5 18 (δ (J ⟨b,0,O⟩)) 15 HSW ?_;refine tk 6 18 (δ (J ⟨b,1,O⟩)) 16 HSW ?_;refine tk 7 18 (G V) 17 HSW ?_;refine tk 8 18 (δ (J ⟨b,0,O⟩)) 18 HSW ?_;refine tk 9 18 (δ (J ⟨b,0,O⟩)) 19 HSW ?_;refine tk 10 18 (δ (J ⟨b,2,O⟩)) 20 HSW ?_;refine tk 11 18 (G A) 21 HSW ?_;refine Ah (i:=12) Ab ?_;refine ri rfl (λK' hK=> ?_);go_simp;refine d.mono ?_;rintro r w2 ⟨ho,hp⟩;obtain⟨D,fs,rfl,l,a1,e⟩:=hp.form;simp only at e;have hs2:=HS3 _ _ HSW ho;refine hK _ _ ⟨λ_=>hs2, ?_⟩;clear hK;refine tk 13 18 (η #[D,I Q (F:Z)]) 9 hs2 ?_;refine tk 14 18 D 23 hs2 ?_;refine tk 15 18 (I Q (F:Z)) 24 hs2 ?_;refine tk 16 18 D 5 hs2 ?_;refine Ah (i:=17) Ab ?_;refine ri rfl (λK' hK=> ?_);go_simp;refine hK _ _ ⟨λh=>absurd rfl h, ?_⟩;clear hK;refine Am Ab ?_;clear HSW a1 d ho hp;by_cases z:t=⟨#[]⟩
 .subst z;by_cases hz:F=0
  .subst hz;rw[rd rfl] at e;subst e;have C:=Af (a rfl w2.drew D (Au.old l ((Ag.refl _ w2).drew)));have HSW:w2.drew.cell? ⟨b,0,O⟩=J (G M)/\w2.drew.cell? ⟨b,1,O⟩=J (G V)/\w2.drew.cell? ⟨b,2,O⟩=J (G A)/\Al W0 w2.drew:=⟨hs2.1,hs2.2.1,hs2.2.2.1,hs2.2.2.2.drew⟩;clear hs2 a l;go_wp2_with fail;refine DY (S:=λX=>X.cell? ⟨b,0,O⟩=J (G M)/\X.cell? ⟨b,1,O⟩=J (G V)/\X.cell? ⟨b,2,O⟩=J (G A)/\Al W0 X) (late:=λi=>Γ (11<=i)) Ab ?_;refine tg 0 14 (δ (J ⟨b,0,O⟩)) 32 HSW ?_;refine tg 1 14 (δ (J ⟨b,0,O⟩)) 33 HSW ?_;refine tg 2 14 (δ (J ⟨b,0,O⟩)) 34 HSW ?_;refine tg 3 14 (G M) 35 HSW ?_;refine tg 4 14 (δ (J ⟨b,0,O⟩)) 36 HSW ?_;refine tg 5 14 (δ (J ⟨b,0,O⟩)) 37 HSW ?_;refine tg 6 14 (δ (J ⟨b,1,O⟩)) 38 HSW ?_;refine tg 7 14 (G V) 39 HSW ?_;refine tg 8 14 D 40 HSW ?_;refine AY (i:=9) Ab ?_;refine ri rfl (λK' hK=> ?_);go_simp;refine C.mono ?_;rintro r w3 ⟨ho,t,kk,rfl⟩;have n:=HS3 _ _ HSW ho;refine hK _ _ ⟨λ_=>n, ?_⟩;clear hK;refine tg 10 14 (η #[G t,I Q kk]) 31 n ?_;refine Bo (i:=11) (v:=G t) (J 42) rfl rfl Ab rfl Ab Ab (λ_ _ _ h=>h) (.inl ⟨rfl,λW _=>by go_simp⟩) ?_;simp only[Act.put,rk,rA,rB];refine Bo (i:=12) (v:=I Q kk) (J 43) rfl rfl Ab rfl Ab Ab (λ_ _ _ h=>h) (.inl ⟨rfl,λW _=>by go_simp⟩) ?_;simp only[Act.put,rk,rA,rB];refine AY (i:=13) Ab ?_;refine ri rfl (λK' hK=> ?_);go_simp;refine hK _ _ ⟨(λh=>by cases h), ?_⟩;clear hK;refine EM Ab ?_;clear HSW ho C;have hs2:=n;clear n;have HV1:=Af (HV1 t w3.drew hs2.2.2.2.drew);have HV2:=Af (HV2 t);have HSW:w3.drew.cell? ⟨b,0,O⟩=J (G M)/\w3.drew.cell? ⟨b,1,O⟩=J (G V)/\w3.drew.cell? ⟨b,2,O⟩=J (G A)/\Al W0 w3.drew:=⟨hs2.1,hs2.2.1,hs2.2.2.1,hs2.2.2.2.drew⟩;exact yP
  have a6:((F:Z)==0)=false:=by rw[re];omega
  have a7:¬(F:Z)=0:=Aa;clear e l a;obtain⟨t,z⟩: ∃t:Y,t=⟨#[]⟩:=⟨_,rfl⟩;rw[<-z];have a3:(t.toList==[])=true:=by rw[show(t.toList==([]:E υ))=Γ (t=⟨([]:E υ).toArray⟩) from EF t []];exact qZ z
  clear z;exact abK
 have a3:(t.toList==[])=false:=by rw[show(t.toList==([]:E υ))=Γ (t=⟨([]:E υ).toArray⟩) from EF t []];exact qX z
 clear z e l a;exact abK
def VA{w1:U}{b n:N}{S:WS}{q l o:E (β×Y)}(p:n<=99999990)(f:S.m.size<=2000000)(g:S.v.size<=2000000)(j:S.ar.size<=9223372036854775807)(a c:Z)(s t:Y)(x y:β)(w:U)(h:CD w1 w b n S q l o)(i: ∀W,Ag (λk=>k=b) w1 W->Ge W)(A:s.size<=9223372036854775807):
 μ ψ 38 #[δ (J ⟨b,0,O⟩),.agg (Df 7 a c s t x y)] w λe w' =>e=ε (ζ θ)/\NR w1 w' b (n+1) S.base l o:=by
 have d:=h.old ((Ag.refl _ w).alloc (γ (Df 7 a c s t x y) 79));have z:(w.alloc (γ (Df 7 a c s t x y) 79)).cell? ⟨b,2,O⟩=J (G S.ar):=by rw[qV _ b 2 _ _ (0,0) d.hp];rfl
 have u:=d.inb;by_cases h0:s=⟨#[]⟩
 .have r:(s.toList==[])=true:=by rw[show(s.toList==([]:E υ))=Γ (s=⟨([]:E υ).toArray⟩) from EF s []];exact qZ h0
  have HC:=Af (Vy p f g S.ar j _ d i);clear h i h0 d;exact zp
 have r:(s.toList==[])=false:=by rw[show(s.toList==([]:E υ))=Γ (s=⟨([]:E υ).toArray⟩) from EF s []];exact qX h0
 have HC:=Af (Vy p f g s A _ d i);clear h i h0 d;exact zp
def VB{w1:U}{b n:N}{S:WS}{i j k:E (β×Y)}(g:S.ar.size<=2000000000)(a c:Z)(s t:Y)(x y:β)(w:U)(h:CD w1 w b n S i j k)(d: -9223372036854775808<=c)(f:c<=9223372036854775807)(l:s.size<=2000000):
 μ ψ 38 #[δ (J ⟨b,0,O⟩),.agg (Df 8 a c s t x y)] w λe w' =>e=ε (ζ θ)/\Vz w1 w' b n S i j k (S.ar.size+100):=by
 have HC:=Af (kU 8 a c d f s t l x y g _ (h.old ((Ag.refl _ w).alloc (γ (Df 8 a c s t x y) 79))));clear h;exact zp
def Tb{w1:U}{b n:N}{S:WS}{o i j:E (β×Y)}(f:S.m.size<=2000000)(g:S.v.size<=2000000)(d:S.ar.size<=9223372036854775807)(a c:Z)(s t:Y)(x y:β)(w:U)(h:CD w1 w b n S o i j)(l: ∀W,Ag (λk=>k=b) w1 W->Ge W):
 μ ψ 38 #[δ (J ⟨b,0,O⟩),.agg (Df 11 a c s t x y)] w λe w' =>e=ε (ζ θ)/\NR w1 w' b n S.base i j:=by
 have HC:=Af (cq f g d s _ (h.old ((Ag.refl _ w).alloc (γ (Df 11 a c s t x y) 79))) l);clear h l;exact zp
def YG{w1:U}{b n:N}{S:WS}{u z A:E (β×Y)}(q:S.m.size<=1100000)(r:S.v.size<=1100000)(a c:Z)(s t:Y)(x y:β)(w:U)(h:CD w1 w b n S u z A)(o: -9223372036854775808<=c)(p:c<=9223372036854775807)(fo:Option Addr)(j:N)(i:Addr)(fs:E Fl)(l:fs.length<=1100000)(g: ∀f∈fs,f.1.size<=1100000/\f.2.size<=1100000)(d:0<fs.length->fo=J i)(B: ∀W,Ag (λk=>k=b) w1 W->Dw W i fs)(C:y=K fo fs.length j):
 μ ψ 38 #[δ (J ⟨b,0,O⟩),.agg (Df 9 a c s t x y)] w λe w' =>e=ε (ζ θ)/\Vz w1 w' b n S u z A 1000000000:=by
 subst C;have HC:=Af (kV q r 9 a c o p s t x fo j i fs l g d _ (h.old ((Ag.refl _ w).alloc (γ (Df 9 a c s t x (K fo fs.length j)) 79))) B);clear h B g d;exact zp
def cr{w1:U}{b n:N}{S:WS}{A r u:E (β×Y)}(B:n<=99999990)(p:S.m.size<=2000000)(q:S.v.size<=2000000)(a c:Z)(s t:Y)(x y:β)(w:U)(h:CD w1 w b n S A r u)(z: ∀W,Ag (λk=>k=b) w1 W->Ge W)(fo:Option Addr)(l:N)(j:Addr)(fs:E Fl)(o:fs.length<=1100000)(g: ∀f∈fs,f.1.size<=1100000/\f.2.size<=1100000)(d:0<fs.length->fo=J j)(i: ∀W,Ag (λk=>k=b) w1 W->Dw W j fs)(C:y=K fo fs.length l):
 μ ψ 38 #[δ (J ⟨b,0,O⟩),.agg (Df 10 a c s t x y)] w λe w' =>e=ε (ζ θ)/\NR w1 w' b (n+1) S.base r u:=by
 subst C;have HC:=Af (pW B p q fo l j fs o (λf i=>by have:=g f i;omega) d _ (h.old ((Ag.refl _ w).alloc (γ (Df 10 a c s t x (K fo fs.length l)) 79))) z i);clear h i g d z;exact zp
def RN(a cap:N)(T:E Bw)(d: ∀e∈T,e.nm.size<=2000000)(w:U)(c:Cb w)(f:EJ w a T)(b:a<w.heap.size):
 μ ψ 44 #[K (J ⟨a,0,O⟩) T.length cap] w λr w' =>Al w w' /\Oj T w w' r:=by
 by_cases hT:T.length<=200
 .rcases SP T T.length (rj _) with h|⟨m,h1,h2,h3,h4⟩
  .have hok:jW T:=h;refine(fw a cap T hT d hok (Pu hok).dif w c f b).mono ?_;exact aac
  refine(fA a cap T hT d m _ h1 h2 h3 rfl h4 w c f b).mono ?_;exact aao
 refine(Rl a cap T.length Aa w).mono ?_;exact abs
def Ml(w:U):μ ψ 44 #[K O 0 0] w λr w' =>Al w w' /\Oj [] w w' r:=by
 refine(UI w).mono ?_;exact aax
def PX{v u v' a :β}{k k' :Z}(h:Ending.returned (η #[v,u,I Q k])=ε (η #[v',a,I Q k'])):v=v' /\u=a /\k=k' :=abr
def Au.inj{w:U}{v:β}{fs d:E Fl}(f:Au w v fs)(g:Au w v d):fs=d:=by
 have k:fs.length=d.length:=by
  obtain⟨a1,c1,e⟩:=Dq f;obtain⟨p,c2,c⟩:=Dq g;rw[e] at c;injection c
 by_cases h0:0<fs.length
 .obtain ⟨q,c1,e, -,l⟩:=f.slice h0;obtain⟨g2,c2,c, -,m⟩:=g.slice Aa;rw[e] at c;injection c with e3;injection e3 with e3;injection e3 with e3;subst e3;refine List.ext_getElem k (λi h j=> ?_);obtain⟨n,o⟩:=l i h;obtain⟨a,b⟩:=m i j;rw[n] at a;rw[o] at b;rw[qT,qY h,qT,qY j] at a b;injection a with a;injection a with a;injection b with b;injection b with b;exact Prod.ext a b
 rw[sj (show fs.length=0 by omega),sj (show d.length=0 by omega)]
def qc(T:E Bw)(k:N)(fs:E Fl):Prop:= ∀(w w' :U) (r:Ending),Oj T w w' r-> ∃v u,r=ε (η #[v,u,I Q (k:Z)])/\Au w' v fs
def Oj.chp{T:E Bw}{w w' :U}{r:Ending}(h:Oj T w w' r): ∃k fs v u,qc T k fs/\r=ε (η #[v,u,I Q (k:Z)])/\Au w' v fs/\fs.length<=60:=by
 obtain⟨k,fs,lf,q,p,z,y,e, -,f, -, -, -,b, -⟩:=h.same h;refine⟨k,fs,q,p,λA B x n=> ?_,e,f,b⟩;obtain⟨k',a,o,a1,s,i,j,g,g2,l,m, -⟩:=h.same n;rw[e] at g;obtain⟨rfl,rfl,t⟩:=PX g;have d:k=k' :=Aa;subst d;have c:fs=a :=Au.inj f l;subst c;exact⟨i,j,g2,m⟩
def RO(T:E Bw): ∀i,i<=T.length->Pt T i-> ∀f∈(Eg (Aw T) (T.take i)).fs,f.2.size<=4000
 |0,_,_=>λf a=>by rw[tZ] at a;cases a
 |i+1,hi,hok=>λf a=>by
  have b:=RO T i Aa (λj c=>hok j Aa);rw[EA _ _ _ Aa,Ed] at a;split at a
  .rename_i hw;rcases rR.1 a with h|h
   .exact b f h
   rw[rC] at h;rw[h];exact rz (GC (hok i Aa hw)).2.2.1 (Vw _)
  exact b f a
def Oj.chps{T:E Bw}{w w' :U}{r:Ending}(h:Oj T w w' r): ∃k fs v u,qc T k fs/\r=ε (η #[v,u,I Q (k:Z)])/\Au w' v fs/\fs.length<=60/\k<=10/\∀f∈fs,f.1.size<=80/\f.2.size<=4000:=by
 obtain⟨k,fs,v,u,t,c,d,x⟩:=h.chp;refine⟨k,fs,v,u,t,c,d,x, ?_, ?_⟩
 .rcases h with⟨-,⟨m,k', -, -, -,n, -,a⟩|⟨-,v',z,l,a, -⟩⟩|⟨-,a⟩
  .rw[c] at a;obtain⟨-, -,o⟩:=PX a;have:k' <=6:=by
    rw[<-n];unfold Dp;exact aaO
   omega
  .rw[c] at a;obtain⟨-, -,o⟩:=PX a;omega
  rw[c] at a;obtain⟨-, -,o⟩:=PX a;omega
 have b:v=Dr-> ∀f∈fs,f.1.size<=80/\f.2.size<=4000:=λe f g=>by
  rw[e] at d;have:fs=[]:=Au.inj d (rF _ _ _ _);rw[this] at g;cases g
 rcases h with⟨-,⟨m,k', -, -, -,n, -,a⟩|⟨j,v',z,l,a,hp,y,i, -⟩⟩|⟨-,a⟩
 .rw[c] at a;exact b (PX a).1
 .rw[c] at a;obtain⟨e, -, -⟩:=PX a;subst e;have s:=Au.inj d i;subst s;intro f g;have q:=hp.mem_iff.1 g;have p:=RO T T.length (rj _) j;rw[sr] at p;exact⟨Rs _ _ f q,p f q⟩
 rw[c] at a;exact b (PX a).1
def iy(nm d:Y)(b:d.size<=4000)(c:nm.size<=80):(FK nm d).ok/\(FK nm d).name=nm/\(FK nm d).packed.size<=4000:=by
 have a:=EG d;unfold FK;split
 .rename_i h;exact⟨⟨by show(8:N)<_;omega,a,by show d.size<_;omega,by show nm.size<=_;omega,by show(CA d).size<=_;omega⟩,rfl,by show(CA d).size<=_;omega⟩
 exact⟨⟨by show(0:N)<_;omega,a,by show d.size<_;omega,by show nm.size<=_;omega,by show d.size<=_;omega⟩,rfl,b⟩
def VC(p:Y)(hp:p.size<=1000): ∀(fs:E Fl),(∀f∈fs,f.1.size<=80/\f.2.size<=4000)->(AM p (Ba fs)).length<=5110*fs.length
 |[],_=>by simp[Ba,AM]
 |f::r,h=>by
  have j:=VC p hp r (λx g=>h x (sQ _ g));obtain⟨a,b⟩:=h f (uM ..);obtain⟨-,c,i⟩:=iy f.1 f.2 b a;have e:AM p (Ba (f::r))=Bg p (FK f.1 f.2)++AM p (Ba r):=by simp[AM,Ba]
  have d:(Bg p (FK f.1 f.2)).length=30+(p.size+(FK f.1 f.2).name.size)+(FK f.1 f.2).packed.size:=by
   obtain⟨_,_,_,_,_⟩:=FK f.1 f.2;exact GY _ _ _ _ _ _
  rw[e,qU,d,c,sB,xP];omega
def Tc(p:Y)(hp:p.size<=1000)(fs:E Fl)(a:fs.length<=60)(h: ∀f∈fs,f.1.size<=80/\f.2.size<=4000)(h0:0<fs.length):Su p (Ba fs):=by
 have g:(Ba fs).length=fs.length:=by simp[Ba]
 have l:=VC p hp fs h;have e:5110*fs.length<=5110*60:=ve _ a;have c:=PI p (Ba fs) (Ba fs).length (rj _);rw[sr] at c;refine⟨hp,λi d=> ?_,Aa,Aa,Aa,Aa, ?_⟩
 .obtain ⟨f,b,rfl⟩:=rT.1 d;exact(iy f.1 f.2 (h f b).2 (h f b).1).1
 have j:=MG p (Ba fs) 1 (Ba fs).length Aa;have k:0<(AW p (Ba fs) 1).length:=by
  rw[Cq,qU];have:0<(Bt p ((Ba fs).getD 0 BG) (AM p ((Ba fs).take 0)).length).length:=by unfold Bt;simp only[qU,El];omega
  omega
 omega
def Mm(s v:Y)(k:N)(fs:E Fl):Y×N:=match FM s v with
 |none=>(⟨#[]⟩,3)
 |some p=>if k≠0 then(⟨#[]⟩,k) else GZ p fs
def ZB(CP:N->E Fl->Prop)(s v:Y)(r:Ending):Prop:= ∃k fs,((FM s v).isSome=θ->CP k fs/\fs.length<=60/\∀f∈fs,f.1.size<=80/\f.2.size<=4000)/\r=ε (η #[G (Mm s v k fs).1,I Q ((Mm s v k fs).2:Z)])
def lS(T:E Bw)(s v:Y)(r:Ending):Prop:=ZB (qc T) s v r
def qG(CP:N->E Fl->Prop)(w' :U)(r:Ending):Prop:= ∃k fs v u,CP k fs/\r=ε (η #[v,u,I Q (k:Z)])/\Au w' v fs/\fs.length<=60/\k<=10/\∀f∈fs,f.1.size<=80/\f.2.size<=4000
def iz(s v:Y)(hs:s.size<=2000000)(hv:v.size<=2000000)(L:β)(i:N->E Fl->Prop)(w:U)(A:Cb w)(b: ∀W,Al w W->μ ψ 44 #[L] W λr w' =>Al W w' /\qG i w' r):
 μ ψ 27 #[G s,G v,L] w λr w' =>Al w w' /\ZB i s v r:=by
 have g:=Af (SO s v hs hv w A);have j:=Af b;clear b;cases hpre:FM s v with
 |none=>
  have t:Hid (ZB i s v (ε (η #[G ⟨#[]⟩,I Q 3]))):=Exists.intro 0 (Exists.intro [] ⟨(λh=>by rw[hpre] at h;cases h),by unfold Mm;rw[hpre];rfl⟩);rw[hpre] at g;clear hpre A;go_in;go_wp2_with fail;refine g.mono ?_;rintro r w1 ⟨rfl,a⟩;have c:=Af a;clear g a;go_wp2;go_ret2;exact⟨c,t⟩
 |some p=>
  have B:=GF hpre;have t:Hid (∀k fs,i k fs->fs.length<=60->(∀f∈fs,f.1.size<=80/\f.2.size<=4000)-> ∀x:Y×N,x=(if k≠0 then(⟨#[]⟩,k) else GZ p fs)->ZB i s v (ε (η #[G x.1,I Q (x.2:Z)]))):=λk fs P R S x hx=>Exists.intro k (Exists.intro fs ⟨λ_=>⟨P,R,S⟩,by unfold Mm;rw[hpre,hx]⟩)
  rw[hpre] at g;clear hpre A;go_in;go_wp2_with fail;refine g.mono ?_;rintro r w1 ⟨rfl,a⟩;have c:=Af a;have D:=Af (j w1 a);clear g a j;go_wp2_with fail;refine D.mono ?_;rintro r w2 ⟨o,C⟩;obtain⟨k,fs,M,fu,b,rfl,n,m,H,d⟩:=C;have l:=Af (Ag.trans (uh c) o);have u:=Af (t k fs b m d);have e:=Af (pO p M fs Aa (λf T=>by have:=d f T;omega) (Tc p B fs m d) w2 n);clear D o t c b n d;by_cases F:k=0
  .subst F;have z:=Af (u (GZ p fs) (by rw[rc (λh=>h rfl)]));clear u;generalize GZ p fs=pk at*;obtain⟨pa,pn⟩:=pk;simp only at*;go_wp2_with fail;refine e.mono ?_;rintro r w3 ⟨q,rfl⟩;have y:=Af (Ag.trans (uh l) q);clear e q;go_wp2;go_ret2;exact⟨y,z⟩
  have z:=Af (u (⟨#[]⟩,k) (by rw[rd F]));have V:((k:Z) !=0)=true:=by rw[rS];omega
  have X:¬(k:Z)=0:=Aa;clear u e;go_wp2;go_ret2;exact⟨l,z⟩
def ot(s v:Y)(e:s.size<=2000000)(f:v.size<=2000000)(b:β)(T:E Bw)(w:U)(d:Cb w)(a: ∀W,Al w W->μ ψ 44 #[b] W λr w' =>Al W w' /\Oj T W w' r):
 μ ψ 27 #[G s,G v,b] w λr w' =>Al w w' /\lS T s v r:=
 iz s v e f b (qc T) w d (λW c=>(a W c).mono (λ_ _ h=>⟨h.1,h.2.chps⟩))
abbrev VI(L:E Y)(e:Bw):Bool:=Γ (BM L e=0)
def ZC{L:E Y}{e:Bw}(a:BM L e=0):[e].filter (VI L)=[e]:=by
 simp[a]
def VD{L:E Y}{e:Bw}(a:¬BM L e=0):[e].filter (VI L)=[]:=by
 simp[a]
def PY(F:E Bw):N:=(F.map λe=>e.dt.size).sum
def Mn(a b:E Bw):PY (a++b)=PY a+PY b:=by simp[PY]
def PZ(e:Bw):PY [e]=e.dt.size:=by simp[PY]
structure ct (F:E Bw):Prop where
 apart:F.Pairwise (λa b=>JC a.nm b.nm=false)
 each: ∀e∈F,(Γ (e.nm≠Ez)&&Γ (AO e.nm=Ez))=false/\e.dt.size<=Bu e.nm
 few:F.length<=60
 small:PY F<=16000
def VE(L:E Y)(T:E Bw): ∀i,i<=T.length->(Eg L (T.take i)).fs=((T.take i).filter (VI L)).map (λe=>(e.nm,e.dt))/\(Eg L (T.take i)).all=PY ((T.take i).filter (VI L))
 |0,_=>by rw[tZ];exact⟨rfl,rfl⟩
 |i+1,hi=>by
  obtain⟨a,b⟩:=VE L T i Aa;rw[EA L T i Aa,GB T i Aa,tK,Ed];split
  .rename_i hw;rw[ZC hw,sv,Mn,PZ,<-a,<-b];exact⟨rfl,rfl⟩
  rename_i hw;rw[VD hw,sI];exact⟨a,b⟩
def NH{L:E Y}{T:E Bw}{i:N}(a:i<T.length)(b:BM L (T.getD i AA)=0):(T.take (i+1)).filter (VI L)=(T.take i).filter (VI L)++[T.getD i AA]:=by
 rw[GB T i a,tK,ZC b]
def VF{L:E Y}{T:E Bw}{i:N}(a:i<T.length)(b:¬BM L (T.getD i AA)=0):(T.take (i+1)).filter (VI L)=(T.take i).filter (VI L):=by
 rw[GB T i a,tK,VD b,sI]
def iA(T:E Bw): ∀i,i<=T.length->Pt T i->ct ((T.take i).filter (VI (Aw T)))
 |0,_,_=>by rw[tZ];exact⟨tH,λe h=>(by cases h),sl _,sl _⟩
 |i+1,hi,hok=>by
  have d:=iA T i Aa (λj t=>hok j Aa);have l:=Ju T i Aa (λj t=>hok j Aa);by_cases c:BM (Aw T) (T.getD i AA)=0
  .rw[NH Aa c];obtain⟨f,n,o,p,g⟩:=GC (hok i Aa c);obtain⟨m,u⟩:=VE (Aw T) T i Aa;have q:=l.few;rw[m,sJ] at p q;rw[u] at g;rw[Kv l.tab,tn] at f;refine⟨sZ.2 ⟨d.apart,tS _ _,λa r b k=> ?_⟩,λe s=> ?_,by rw[qU];show _+1<=60;omega,by rw[Mn,PZ];exact g⟩
   .rw[rC] at k;subst k;have:=f a.nm (rT.2 ⟨(a.nm,a.dt),by rw[m];exact rT.2 ⟨a,r,rfl⟩,rfl⟩);simpa using this
   rcases rR.1 s with h|h
   .exact d.each e h
   rw[rC] at h;rw[h];exact⟨n,o⟩
  rw[VF Aa c];exact d
def ZD{T:E Bw}(h:ct (T.filter (VI (Aw T)))): ∀i,i<=T.length->Pt T i
 |0,_=>λj u=>by omega
 |i+1,hi=>by
  have n:=ZD h i Aa;intro j u m;by_cases g:j<i
  .exact n j g m
  have e:j=i:=Aa;subst e;have t:=Ju T j Aa n;obtain⟨o,w⟩:=VE (Aw T) T j Aa;have k:T.filter (VI (Aw T))=(T.take j).filter (VI (Aw T))++[T.getD j AA]++(T.drop (j+1)).filter (VI (Aw T)):=by
   rw[<-NH Aa m,<-tK,ue]
  rw[k] at h;have p:=(sZ.1 (sZ.1 h.apart).1).2.2;have q:=h.each (T.getD j AA) Ad;have r:=h.few;have v:=h.small;rw[qU,qU] at r;rw[Mn,Mn,PZ] at v;have s:[T.getD j AA].length=1:=rfl;rw[<-t.dfault,dfault,rc,rc (by rw[q.1];decide),rc Aa,rc (by rw[o,sJ];omega),rc (by rw[w];omega)];intro b;obtain⟨f,c,l⟩:=sc.1 b;rw[o] at c;obtain⟨a,d,rfl⟩:=rT.1 c;have:=p a d (T.getD j AA) Ad;rw[this] at l;cases l
def VG{n s:Y}(h:kq n s):kq s n:=by
 obtain⟨c,d,b,f,g,a⟩:=h;refine⟨b,f,c,d,g.symm, ?_⟩;rcases a with a|a|a
 .exact .inl (λe=>a e.symm)
 .exact .inr (.inr a)
 exact .inr (.inl a)
def iB(a b:Y):JC a b=JC b a:=by
 rw[vT,LZ a.size a b (rj _),LZ b.size b a (rj _)];exact⟨VG,VG⟩
def ct.rev{F:E Bw}(h:ct F):ct F.reverse:=by
 refine⟨List.pairwise_reverse.2 (h.apart.imp λ{a b} c=>by rw[iB];exact c),λe d=>h.each e (List.mem_reverse.1 d),by rw[vO];exact h.few, ?_⟩;have:PY F.reverse=PY F:=by simp[PY,List.sum_reverse]
 rw[this];exact h.small
def cA(T:E Bw):Aw T.reverse=(Aw T).reverse:=by
 unfold Aw;rw[List.filter_reverse,List.map_reverse]
def iC(L:E Y)(e:Bw):BM L.reverse e=BM L e:=by
 unfold BM KT;rw[List.any_reverse]
def Qa(T:E Bw):T.reverse.filter (VI (Aw T.reverse))=(T.filter (VI (Aw T))).reverse:=by
 rw[cA,List.filter_reverse];congr 1;refine List.filter_congr λe _=> ?_
 show Γ (BM (Aw T).reverse e=0)=Γ (BM (Aw T) e=0);rw[iC]
def kW{T:E Bw}(h:jW T):jW T.reverse/\(Eg (Aw T.reverse) T.reverse).fs.Perm (Eg (Aw T) T).fs:=by
 have c:=iA T T.length (rj _) h;rw[sr] at c;have d:ct (T.reverse.filter (VI (Aw T.reverse))):=by rw[Qa];exact c.rev
 refine⟨ZD d T.reverse.length (rj _), ?_⟩;have a:=(VE (Aw T.reverse) T.reverse T.reverse.length (rj _)).1;have b:=(VE (Aw T) T T.length (rj _)).1;rw[sr] at a b;rw[a,b,Qa,List.map_reverse];exact List.reverse_perm _
