import Derived.Test.YtfpphfkcaplafaaGreatDoorZaq
set_option linter.all false
set_option maxHeartbeats 64000000
set_option maxRecDepth 100000
open _root_ renaming Option.some->J,Option.none->O,Int->Z,Nat->N,Go.Value.int->I,Go.Value.string->G,Go.IntKind.i64->Q,ByteArray->Y,List->E,Go.World->U,Go.Value.slice->K,Go.Value->M,Go.Obj.cells->W,Go.Value.pointer->V,Go.RowKit.Hid->C,Go.Proofs.Tryz.prog->F,Go.Ending.returned->ε,absurd->κ,Go.Calls->μ,Array->φ,Go.Result.ok->ω
variable{a b i many n:N}{c w w':U}{v:M}{p s:Y}
namespace Go.Proofs.YtfpphfkcaplafaaGreatDoor
open Go.RowKit Go.Maps Go.Proofs.Tryz
def zH(many c a:N)(L:many<=10000000000)(P:c<=10000000000)(R:a<=10000000000)(w:U):μ F 91 #[I Q (many:Z),I Q (c:Z),I Q (a:Z)] w λr w'=>r=ε (G<|An (endL many c a))/\Am w w':=by
 have s:=λb=>Bq 0 2 A A b
 have t:=λb=>Bq 0 2 A A b
 have u:=λb=>Bq many 2 A A b
 have v:=λb=>Bq many 2 A A b
 have x:=λb=>Bq c 4 A A b
 have y:=λb=>Bq a 4 A A b
 have z:=λb=>Bq 0 2 A A b
 have:IC.size=4:=rfl;have:(An<|leB 0 2).size=2:=ald
 have:(An<|leB 0 2).size=2:=ald
 have:(An<|leB many 2).size=2:=ald
 have:(An<|leB many 2).size=2:=ald
 have:(An<|leB c 4).size=4:=ald
 have:(An<|leB a 4).size=4:=ald
 have:(An<|leB 0 2).size=2:=ald
 have:∀b,(Op.stringOp .add IC<|An (leB 0 2)).run F b=ω (G<|IC++An (leB 0 2)) b:=λb=>WR b _ _ A
 have:(IC++An (leB 0 2)).size=6:=akV
 have:∀b,(Op.stringOp .add (IC++An (leB 0 2))<|An (leB 0 2)).run F b=ω (G ((IC++An (leB 0 2))++An (leB 0 2))) b:=λb=>WR b _ _ A
 have:((IC++An (leB 0 2))++An (leB 0 2)).size=8:=akV
 have:∀b,(Op.stringOp .add ((IC++An (leB 0 2))++An (leB 0 2))<|An (leB many 2)).run F b=ω (G (((IC++An (leB 0 2))++An (leB 0 2))++An (leB many 2))) b:=λb=>WR b _ _ A
 have:(((IC++An (leB 0 2))++An (leB 0 2))++An (leB many 2)).size=10:=akV
 have:∀b,(Op.stringOp .add (((IC++An (leB 0 2))++An (leB 0 2))++An (leB many 2))<|An (leB many 2)).run F b=ω (G ((((IC++An (leB 0 2))++An (leB 0 2))++An (leB many 2))++An (leB many 2))) b:=λb=>WR b _ _ A
 have:((((IC++An (leB 0 2))++An (leB 0 2))++An (leB many 2))++An (leB many 2)).size=12:=akV
 have:∀b,(Op.stringOp .add ((((IC++An (leB 0 2))++An (leB 0 2))++An (leB many 2))++An (leB many 2))<|An (leB c 4)).run F b=ω (G (((((IC++An (leB 0 2))++An (leB 0 2))++An (leB many 2))++An (leB many 2))++An (leB c 4))) b:=λb=>WR b _ _ A
 have:(((((IC++An (leB 0 2))++An (leB 0 2))++An (leB many 2))++An (leB many 2))++An (leB c 4)).size=16:=akV
 have:∀b,(Op.stringOp .add (((((IC++An (leB 0 2))++An (leB 0 2))++An (leB many 2))++An (leB many 2))++An (leB c 4))<|An (leB a 4)).run F b=ω (G ((((((IC++An (leB 0 2))++An (leB 0 2))++An (leB many 2))++An (leB many 2))++An (leB c 4))++An (leB a 4))) b:=λb=>WR b _ _ A
 have:((((((IC++An (leB 0 2))++An (leB 0 2))++An (leB many 2))++An (leB many 2))++An (leB c 4))++An (leB a 4)).size=20:=akV
 have:∀b,(Op.stringOp .add ((((((IC++An (leB 0 2))++An (leB 0 2))++An (leB many 2))++An (leB many 2))++An (leB c 4))++An (leB a 4))<|An (leB 0 2)).run F b=ω (G (((((((IC++An (leB 0 2))++An (leB 0 2))++An (leB many 2))++An (leB many 2))++An (leB c 4))++An (leB a 4))++An (leB 0 2))) b:=λb=>WR b _ _ A
 have:(((((((IC++An (leB 0 2))++An (leB 0 2))++An (leB many 2))++An (leB many 2))++An (leB c 4))++An (leB a 4))++An (leB 0 2)).size=22:=akV
 have D:((((((((IC++An (leB 0 2))++An (leB 0 2))++An (leB many 2))++An (leB many 2))++An (leB c 4))++An (leB a 4))++An (leB 0 2))=An (endL many c a)):=by
  rw[show IC=An (sL IC) from rfl,AF,AF,AF,AF,AF,AF,AF]
  rfl
 generalize(((((((IC++An (leB 0 2))++An (leB 0 2))++An (leB many 2))++An (leB many 2))++An (leB c 4))++An (leB a 4))++An (leB 0 2))=s6,((((((IC++An (leB 0 2))++An (leB 0 2))++An (leB many 2))++An (leB many 2))++An (leB c 4))++An (leB a 4))=s5,(((((IC++An (leB 0 2))++An (leB 0 2))++An (leB many 2))++An (leB many 2))++An (leB c 4))=s4,((((IC++An (leB 0 2))++An (leB 0 2))++An (leB many 2))++An (leB many 2))=s3,(((IC++An (leB 0 2))++An (leB 0 2))++An (leB many 2))=s2,((IC++An (leB 0 2))++An (leB 0 2))=s1,(IC++An (leB 0 2))=s0,An (leB 0 2)=x0,An (leB many 2)=x2,An (leB c 4)=x4,An (leB a 4)=x5 at*;go_in;go_wp2_with fail;apply(s _).mono;rintro e _ ⟨rfl,b⟩;have d:=b;go_wp2_with fail;apply(t _).mono;rintro e _ ⟨rfl,f⟩;have g:=d.trans f;go_wp2_with fail;apply(u _).mono;rintro e _ ⟨rfl,h⟩;have i:=g.trans h;go_wp2_with fail;apply(v _).mono;rintro e _ ⟨rfl,j⟩;have k:=i.trans j;go_wp2_with fail;apply(x _).mono;rintro e _ ⟨rfl,l⟩;have m:=k.trans l;go_wp2_with fail;apply(y _).mono;rintro e _ ⟨rfl,n⟩;have o:=m.trans n;go_wp2_with fail;apply(z _).mono;rintro e _ ⟨rfl,p⟩;have q:=o.trans p;go_wp2;go_ret;exact⟨by rw[<-D];rfl,q⟩
def CO(v m:N):(An<|leB v m).size=m:=ald
def BL{P Q:Y}{m:N}(h:P.size=n)(k:Q.size=m)(a:n+m<140737488355328):∃s,s=P++Q/\(∀a,(Op.stringOp .add P Q).run F a=ω (G s) a)/\s.size=n+m:=
 ⟨_,rfl,λa=>WR a _ _ A,by rw[WC];omega⟩
def Mm(nm:Y)(way ck pk ln:N):Y:=An<|sL Kf++leB 20 2++leB 0 2++leB way 2++leB 0 2++leB 33 2++leB ck 4++leB pk 4++leB ln 4++leB nm.size 2++leB 0 2++sL nm
def td(nm:Y)(a g k m:N)(c5:nm.size<=10000000000)(hw:a<=10000000000)(c6:g<=4611686018427387904)(c7:k<=4611686018427387904)(c5:m<=4611686018427387904)(w:U):μ F 90 #[.agg #[G nm,I Q (a:Z),I Q (g:Z),I Q (k:Z),I Q (m:Z)]] w λr w'=>r=ε (G<|Mm nm a g k m)/\Am w w':=by
 have H0:=H λW=>Bq 20 2 A A W;have H1:=H λW=>Bq 0 2 A A W;have H2:=H λW=>Bq a 2 A A W;have H3:=H λW=>Bq 0 2 A A W;have H4:=H λW=>Bq 33 2 A A W;have H5:=H λW=>Bq g 4 A A W;have H6:=H λW=>Bq k 4 A A W;have H7:=H λW=>Bq m 4 A A W;have H8:=H λW=>Bq nm.size 2 A A W;have H9:=H λW=>Bq 0 2 A A W;have P:Kf.size=4:=rfl;obtain⟨s0,e0,_,R⟩:=BL P (CO 20 2) A;obtain⟨s1,e1,_,T⟩:=BL R (CO 0 2) A;obtain⟨s2,e2,_,a0⟩:=BL T (CO a 2) A;obtain⟨s3,e3,_,a1⟩:=BL a0 (CO 0 2) A;obtain⟨s4,e4,_,a2⟩:=BL a1 (CO 33 2) A;obtain⟨s5,e5,_,a3⟩:=BL a2 (CO g 4) A;obtain⟨s6,e6,_,a4⟩:=BL a3 (CO k 4) A;obtain⟨s7,e7,_,a5⟩:=BL a4 (CO m 4) A;obtain⟨s8,e8,_,a6⟩:=BL a5 (CO nm.size 2) A;obtain⟨s9,e9,_,D⟩:=BL a6 (CO 0 2) A;obtain⟨a7,a8,_, -⟩:=BL D (Eq.refl nm.size) A;have HE:C<|a7=Mm nm a g k m:=by
  unfold C Mm;rw[a8,e9,e8,e7,e6,e5,e4,e3,e2,e1,e0,show Kf=An (sL Kf) from rfl,AF,AF,AF,AF,AF,AF,AF,AF,AF,AF,show nm=An (sL nm) from(Lib.mk_data nm).symm,AF]
  rfl
 clear P R T a0 a1 a2 a3 a4 a5 a6 D e0 e1 e2 e3 e4 e5 e6 e7 e8 e9 a8;generalize An (leB 20 2)=x0,An (leB 0 2)=x1,An (leB a 2)=x2,An (leB 33 2)=x4,An (leB g 4)=x5,An (leB k 4)=x6,An (leB m 4)=x7,An (leB nm.size 2)=x8 at*;have D:=WD w (.cells #[G nm,I Q (a:Z),I Q (g:Z),I Q (k:Z),I Q (m:Z)] 80);have HA:C<|Am w (w.alloc (.cells #[G nm,I Q (a:Z),I Q (g:Z),I Q (k:Z),I Q (m:Z)] 80)):=(Ag.refl _ w).alloc _;have P:∀j u,(#[G nm,I Q (a:Z),I Q (g:Z),I Q (k:Z),I Q (m:Z)]:φ M)[j]? =J u->(w.alloc (.cells #[G nm,I Q (a:Z),I Q (g:Z),I Q (k:Z),I Q (m:Z)] 80)).cell? ⟨w.heap.size,j,O⟩=J u:=λj u h=>by rw[Wu _ _ j _ _ (0,0) D];exact h
 have c0:=P 0 _ rfl;have c1:=P 1 _ rfl;have c2:=P 2 _ rfl;have c3:=P 3 _ rfl;have c4:=P 4 _ rfl;have M7:=(Wt.1 D).1;clear P D;go_in;go_wp2_with fail;generalize w.alloc (.cells #[G nm,I Q (a:Z),I Q (g:Z),I Q (k:Z),I Q (m:Z)] 80)=W0 at*;have f:∀W l :U,(W.cell? ⟨w.heap.size,0,O⟩=J (G nm)/\W.cell? ⟨w.heap.size,1,O⟩=J (I Q (a:Z))/\W.cell? ⟨w.heap.size,2,O⟩=J (I Q (g:Z))/\W.cell? ⟨w.heap.size,3,O⟩=J (I Q (k:Z))/\W.cell? ⟨w.heap.size,4,O⟩=J (I Q (m:Z))/\Am W0 W)->Am W l ->(l.cell? ⟨w.heap.size,0,O⟩=J (G nm)/\l.cell? ⟨w.heap.size,1,O⟩=J (I Q (a:Z))/\l.cell? ⟨w.heap.size,2,O⟩=J (I Q (g:Z))/\l.cell? ⟨w.heap.size,3,O⟩=J (I Q (k:Z))/\l.cell? ⟨w.heap.size,4,O⟩=J (I Q (m:Z))/\Am W0 l):=λW l h ho=>afz
 have d:W0.drew.cell? ⟨w.heap.size,0,O⟩=J (G nm)/\W0.drew.cell? ⟨w.heap.size,1,O⟩=J (I Q (a:Z))/\W0.drew.cell? ⟨w.heap.size,2,O⟩=J (I Q (g:Z))/\W0.drew.cell? ⟨w.heap.size,3,O⟩=J (I Q (k:Z))/\W0.drew.cell? ⟨w.heap.size,4,O⟩=J (I Q (m:Z))/\Am W0 W0.drew:=⟨c0,c1,c2,c3,c4,(Ag.refl _ W0).drew⟩;clear c0 c1 c2 c3 c4;refine Ai (S:=λW=>W.cell? ⟨w.heap.size,0,O⟩=J (G nm)/\W.cell? ⟨w.heap.size,1,O⟩=J (I Q (a:Z))/\W.cell? ⟨w.heap.size,2,O⟩=J (I Q (g:Z))/\W.cell? ⟨w.heap.size,3,O⟩=J (I Q (k:Z))/\W.cell? ⟨w.heap.size,4,O⟩=J (I Q (m:Z))/\Am W0 W) (L:=34) B ?_;refine tk 4 35 (V<|J ⟨w.heap.size,1,O⟩) 7 d ?_;refine tk 5 35 (I Q (a:Z)) 8 d ?_;refine tk 12 35 (V<|J ⟨w.heap.size,2,O⟩) 15 d ?_;refine tk 13 35 (I Q (g:Z)) 16 d ?_;refine tk 16 35 (V<|J ⟨w.heap.size,3,O⟩) 19 d ?_;refine tk 17 35 (I Q (k:Z)) 20 d ?_;refine tk 20 35 (V<|J ⟨w.heap.size,4,O⟩) 23 d ?_;refine tk 21 35 (I Q (m:Z)) 24 d ?_;refine tk 24 35 (V<|J ⟨w.heap.size,0,O⟩) 27 d ?_;refine tk 25 35 (G nm) 28 d ?_;refine tk 26 35 (I Q (nm.size:Z)) 29 d ?_;refine tk 31 35 (V<|J ⟨w.heap.size,0,O⟩) 34 d ?_;refine tk 32 35 (G nm) 35 d ?_;refine Ah (i:=0) B ?_;refine WE rfl λ_ c=>?_;go_simp;apply(H0 _).mono;rintro r v0 ⟨rfl,a9⟩;have n:=f _ _ d a9;refine c _ _ ⟨λ_=>n,?_⟩;clear c H0 a9;refine tk 1 35 (G s0) 4 n ?_;refine Ah (i:=2) B ?_;refine WE rfl λ_ c=>?_;go_simp;apply(H1 _).mono;rintro r v1 ⟨rfl,b0⟩;have o:=f _ _ n b0;refine c _ _ ⟨λ_=>o,?_⟩;clear c H1 b0 n;refine tk 3 35 (G s1) 6 o ?_;refine Ah (i:=6) B ?_;refine WE rfl λ_ c=>?_;go_simp;apply(H2 _).mono;rintro r v2 ⟨rfl,b1⟩;have q:=f _ _ o b1;refine c _ _ ⟨λ_=>q,?_⟩;clear c H2 b1 o;refine tk 7 35 (G s2) 10 q ?_;refine Ah (i:=8) B ?_;refine WE rfl λ_ c=>?_;go_simp;apply(H3 _).mono;rintro r v3 ⟨rfl,b2⟩;have s:=f _ _ q b2;refine c _ _ ⟨λ_=>s,?_⟩;clear c H3 b2 q;refine tk 9 35 (G s3) 12 s ?_;refine Ah (i:=10) B ?_;refine WE rfl λ_ c=>?_;go_simp;apply(H4 _).mono;rintro r v4 ⟨rfl,b3⟩;have t:=f _ _ s b3;refine c _ _ ⟨λ_=>t,?_⟩;clear c H4 b3 s;refine tk 11 35 (G s4) 14 t ?_;refine Ah (i:=14) B ?_;refine WE rfl λ_ c=>?_;go_simp;apply(H5 _).mono;rintro r v5 ⟨rfl,b4⟩;have v:=f _ _ t b4;refine c _ _ ⟨λ_=>v,?_⟩;clear c H5 b4 t;refine tk 15 35 (G s5) 18 v ?_;refine Ah (i:=18) B ?_;refine WE rfl λ_ c=>?_;go_simp;apply(H6 _).mono;rintro r v6 ⟨rfl,b5⟩;have x:=f _ _ v b5;refine c _ _ ⟨λ_=>x,?_⟩;clear c H6 b5 v;refine tk 19 35 (G s6) 22 x ?_;refine Ah (i:=22) B ?_;refine WE rfl λ_ c=>?_;go_simp;apply(H7 _).mono;rintro r v7 ⟨rfl,b6⟩;have y:=f _ _ x b6;refine c _ _ ⟨λ_=>y,?_⟩;clear c H7 b6 x;refine tk 23 35 (G s7) 26 y ?_;refine Ah (i:=27) B ?_;refine WE rfl λ_ c=>?_;go_simp;apply(H8 _).mono;rintro r v8 ⟨rfl,b7⟩;have z:=f _ _ y b7;refine c _ _ ⟨λ_=>z,?_⟩;clear c H8 b7 y;refine tk 28 35 (G s8) 31 z ?_;refine Ah (i:=29) B ?_;refine WE rfl λ_ c=>?_;go_simp;apply(H9 _).mono;rintro r v9 ⟨rfl,b9⟩;have a:=f _ _ z b9;refine c _ _ ⟨λ_=>a,?_⟩;clear c H9 b9 z;refine tk 30 35 (G s9) 33 a ?_;refine tk 33 35 (G a7) 36 a ?_;refine Ah (i:=34) B ?_;refine WE rfl λ_ c=>?_;go_simp;refine c _ _ ⟨λh=>κ rfl h,?_⟩;clear c;refine Aj B ?_;have b:=H<|HA.trans a.2.2.2.2.2;clear a f d;exact ajr
def OM(nm:Y)(way ck pk ln a:N):Y:=An<|sL LD++leB 20 2++leB 20 2++leB 0 2++leB way 2++leB 0 2++leB 33 2++leB ck 4++leB pk 4++leB ln 4++leB nm.size 2++leB 0 2++leB 0 2++leB 0 2++leB 0 2++leB 0 4++leB a 4++sL nm
def kL(nm:Y)(d k m n a:N)(ha:a<=10000000000)(h3:nm.size<=10000000000)(hw:d<=10000000000)(h4:k<=4611686018427387904)(h5:m<=4611686018427387904)(h3:n<=4611686018427387904)(w:U):μ F 89 #[.agg #[G nm,I Q (d:Z),I Q (k:Z),I Q (m:Z),I Q (n:Z)],I Q (a:Z)] w λr w'=>r=ε (G<|OM nm d k m n a)/\Am w w':=by
 have H0:=H λW=>Bq 20 2 A A W;have H1:=H λW=>Bq 20 2 A A W;have H2:=H λW=>Bq 0 2 A A W;have H3:=H λW=>Bq d 2 A A W;have H4:=H λW=>Bq 0 2 A A W;have H5:=H λW=>Bq 33 2 A A W;have H6:=H λW=>Bq k 4 A A W;have H7:=H λW=>Bq m 4 A A W;have H8:=H λW=>Bq n 4 A A W;have H9:=H λW=>Bq nm.size 2 A A W;have b6:=H λW=>Bq 0 2 A A W;have b7:=H λW=>Bq 0 2 A A W;have b9:=H λW=>Bq 0 2 A A W;have c5:=H λW=>Bq 0 2 A A W;have c6:=H λW=>Bq 0 4 A A W;have c7:=H λW=>Bq a 4 A A W;have c8:LD.size=4:=rfl;obtain⟨s0,e0,_,c9⟩:=BL c8 (CO 20 2) A;obtain⟨s1,e1,_,d0⟩:=BL c9 (CO 20 2) A;obtain⟨s2,e2,_,d1⟩:=BL d0 (CO 0 2) A;obtain⟨s3,e3,_,d2⟩:=BL d1 (CO d 2) A;obtain⟨s4,e4,_,d3⟩:=BL d2 (CO 0 2) A;obtain⟨s5,e5,_,d4⟩:=BL d3 (CO 33 2) A;obtain⟨s6,e6,_,d5⟩:=BL d4 (CO k 4) A;obtain⟨s7,e7,_,d6⟩:=BL d5 (CO m 4) A;obtain⟨s8,e8,_,d7⟩:=BL d6 (CO n 4) A;obtain⟨s9,e9,_,a3⟩:=BL d7 (CO nm.size 2) A;obtain⟨g6,d8,_,a4⟩:=BL a3 (CO 0 2) A;obtain⟨g7,d9,_,a5⟩:=BL a4 (CO 0 2) A;obtain⟨g8,f0,_,a6⟩:=BL a5 (CO 0 2) A;obtain⟨g9,f1,_,a7⟩:=BL a6 (CO 0 2) A;obtain⟨h1,f2,_,a8⟩:=BL a7 (CO 0 4) A;obtain⟨h2,f3,_,a9⟩:=BL a8 (CO a 4) A;obtain⟨f4,f5,_, -⟩:=BL a9 (Eq.refl nm.size) A;have HE:C<|f4=OM nm d k m n a:=by
  unfold C OM;rw[f5,f3,f2,f1,f0,d9,d8,e9,e8,e7,e6,e5,e4,e3,e2,e1,e0,show LD=An (sL LD) from rfl,AF,AF,AF,AF,AF,AF,AF,AF,AF,AF,AF,AF,AF,AF,AF,AF,show nm=An (sL nm) from(Lib.mk_data nm).symm,AF]
  rfl
 clear c8 c9 d0 d1 d2 d3 d4 d5 d6 d7 a3 a4 a5 a6 a7 a8 a9 e0 e1 e2 e3 e4 e5 e6 e7 e8 e9 d8 d9 f0 f1 f2 f3 f5;generalize An (leB 20 2)=x0,An (leB 0 2)=x2,An (leB d 2)=x3,An (leB 33 2)=x5,An (leB k 4)=x6,An (leB m 4)=x7,An (leB n 4)=x8,An (leB nm.size 2)=x9,An (leB 0 4)=x14,An (leB a 4)=x15 at*;have a3:=WD w (.cells #[G nm,I Q (d:Z),I Q (k:Z),I Q (m:Z),I Q (n:Z)] 80);have HA:C<|Am w (w.alloc (.cells #[G nm,I Q (d:Z),I Q (k:Z),I Q (m:Z),I Q (n:Z)] 80)):=(Ag.refl _ w).alloc _;have hc:∀j u,(#[G nm,I Q (d:Z),I Q (k:Z),I Q (m:Z),I Q (n:Z)]:φ M)[j]? =J u->(w.alloc (.cells #[G nm,I Q (d:Z),I Q (k:Z),I Q (m:Z),I Q (n:Z)] 80)).cell? ⟨w.heap.size,j,O⟩=J u:=λj u h=>by rw[Wu _ _ j _ _ (0,0) a3];exact h
 have c0:=hc 0 _ rfl;have c1:=hc 1 _ rfl;have c2:=hc 2 _ rfl;have c3:=hc 3 _ rfl;have c4:=hc 4 _ rfl;have M7:=(Wt.1 a3).1;clear hc a3;go_in;go_wp2_with fail;generalize w.alloc (.cells #[G nm,I Q (d:Z),I Q (k:Z),I Q (m:Z),I Q (n:Z)] 80)=W0 at*;have f:∀W l :U,(W.cell? ⟨w.heap.size,0,O⟩=J (G nm)/\W.cell? ⟨w.heap.size,1,O⟩=J (I Q (d:Z))/\W.cell? ⟨w.heap.size,2,O⟩=J (I Q (k:Z))/\W.cell? ⟨w.heap.size,3,O⟩=J (I Q (m:Z))/\W.cell? ⟨w.heap.size,4,O⟩=J (I Q (n:Z))/\Am W0 W)->Am W l ->(l.cell? ⟨w.heap.size,0,O⟩=J (G nm)/\l.cell? ⟨w.heap.size,1,O⟩=J (I Q (d:Z))/\l.cell? ⟨w.heap.size,2,O⟩=J (I Q (k:Z))/\l.cell? ⟨w.heap.size,3,O⟩=J (I Q (m:Z))/\l.cell? ⟨w.heap.size,4,O⟩=J (I Q (n:Z))/\Am W0 l):=λW l h ho=>afz
 have g:W0.drew.cell? ⟨w.heap.size,0,O⟩=J (G nm)/\W0.drew.cell? ⟨w.heap.size,1,O⟩=J (I Q (d:Z))/\W0.drew.cell? ⟨w.heap.size,2,O⟩=J (I Q (k:Z))/\W0.drew.cell? ⟨w.heap.size,3,O⟩=J (I Q (m:Z))/\W0.drew.cell? ⟨w.heap.size,4,O⟩=J (I Q (n:Z))/\Am W0 W0.drew:=⟨c0,c1,c2,c3,c4,(Ag.refl _ W0).drew⟩;clear c0 c1 c2 c3 c4;refine Ai (S:=λW=>W.cell? ⟨w.heap.size,0,O⟩=J (G nm)/\W.cell? ⟨w.heap.size,1,O⟩=J (I Q (d:Z))/\W.cell? ⟨w.heap.size,2,O⟩=J (I Q (k:Z))/\W.cell? ⟨w.heap.size,3,O⟩=J (I Q (m:Z))/\W.cell? ⟨w.heap.size,4,O⟩=J (I Q (n:Z))/\Am W0 W) (L:=47) B ?_;refine tk 6 48 (V<|J ⟨w.heap.size,1,O⟩) 11 g ?_;refine tk 7 48 (I Q (d:Z)) 12 g ?_;refine tk 14 48 (V<|J ⟨w.heap.size,2,O⟩) 19 g ?_;refine tk 15 48 (I Q (k:Z)) 20 g ?_;refine tk 18 48 (V<|J ⟨w.heap.size,3,O⟩) 23 g ?_;refine tk 19 48 (I Q (m:Z)) 24 g ?_;refine tk 22 48 (V<|J ⟨w.heap.size,4,O⟩) 27 g ?_;refine tk 23 48 (I Q (n:Z)) 28 g ?_;refine tk 26 48 (V<|J ⟨w.heap.size,0,O⟩) 31 g ?_;refine tk 27 48 (G nm) 32 g ?_;refine tk 28 48 (I Q (nm.size:Z)) 33 g ?_;refine tk 41 48 (I Q (a:Z)) 46 g ?_;refine tk 44 48 (V<|J ⟨w.heap.size,0,O⟩) 49 g ?_;refine tk 45 48 (G nm) 50 g ?_;refine Ah (i:=0) B ?_;refine WE rfl λ_ c=>?_;go_simp;apply(H0 _).mono;rintro r v0 ⟨rfl,f6⟩;have x:=f _ _ g f6;refine c _ _ ⟨λ_=>x,?_⟩;clear c H0 f6;refine tk 1 48 (G s0) 6 x ?_;refine Ah (i:=2) B ?_;refine WE rfl λ_ c=>?_;go_simp;apply(H1 _).mono;rintro r v1 ⟨rfl,f7⟩;have y:=f _ _ x f7;refine c _ _ ⟨λ_=>y,?_⟩;clear c H1 f7 x;refine tk 3 48 (G s1) 8 y ?_;refine Ah (i:=4) B ?_;refine WE rfl λ_ c=>?_;go_simp;apply(H2 _).mono;rintro r v2 ⟨rfl,f8⟩;have z:=f _ _ y f8;refine c _ _ ⟨λ_=>z,?_⟩;clear c H2 f8 y;refine tk 5 48 (G s2) 10 z ?_;refine Ah (i:=8) B ?_;refine WE rfl λ_ c=>?_;go_simp;apply(H3 _).mono;rintro r v3 ⟨rfl,f9⟩;have D:=f _ _ z f9;refine c _ _ ⟨λ_=>D,?_⟩;clear c H3 f9 z;refine tk 9 48 (G s3) 14 D ?_;refine Ah (i:=10) B ?_;refine WE rfl λ_ c=>?_;go_simp;apply(H4 _).mono;rintro r v4 ⟨rfl,g0⟩;have P:=f _ _ D g0;refine c _ _ ⟨λ_=>P,?_⟩;clear c H4 g0 D;refine tk 11 48 (G s4) 16 P ?_;refine Ah (i:=12) B ?_;refine WE rfl λ_ c=>?_;go_simp;apply(H5 _).mono;rintro r v5 ⟨rfl,g1⟩;have R:=f _ _ P g1;refine c _ _ ⟨λ_=>R,?_⟩;clear c H5 g1 P;refine tk 13 48 (G s5) 18 R ?_;refine Ah (i:=16) B ?_;refine WE rfl λ_ c=>?_;go_simp;apply(H6 _).mono;rintro r v6 ⟨rfl,g2⟩;have T:=f _ _ R g2;refine c _ _ ⟨λ_=>T,?_⟩;clear c H6 g2 R;refine tk 17 48 (G s6) 22 T ?_;refine Ah (i:=20) B ?_;refine WE rfl λ_ c=>?_;go_simp;apply(H7 _).mono;rintro r v7 ⟨rfl,g3⟩;have a0:=f _ _ T g3;refine c _ _ ⟨λ_=>a0,?_⟩;clear c H7 g3 T;refine tk 21 48 (G s7) 26 a0 ?_;refine Ah (i:=24) B ?_;refine WE rfl λ_ c=>?_;go_simp;apply(H8 _).mono;rintro r v8 ⟨rfl,g4⟩;have a1:=f _ _ a0 g4;refine c _ _ ⟨λ_=>a1,?_⟩;clear c H8 g4 a0;refine tk 25 48 (G s8) 30 a1 ?_;refine Ah (i:=29) B ?_;refine WE rfl λ_ c=>?_;go_simp;apply(H9 _).mono;rintro r v9 ⟨rfl,g5⟩;have a2:=f _ _ a1 g5;refine c _ _ ⟨λ_=>a2,?_⟩;clear c H9 g5 a1;refine tk 30 48 (G s9) 35 a2 ?_;refine Ah (i:=31) B ?_;refine WE rfl λ_ c=>?_;go_simp;apply(b6 _).mono;rintro r h6 ⟨rfl,b0⟩;have o:=f _ _ a2 b0;refine c _ _ ⟨λ_=>o,?_⟩;clear c b6 b0 a2;refine tk 32 48 (G g6) 37 o ?_;refine Ah (i:=33) B ?_;refine WE rfl λ_ c=>?_;go_simp;apply(b7 _).mono;rintro r h7 ⟨rfl,b1⟩;have q:=f _ _ o b1;refine c _ _ ⟨λ_=>q,?_⟩;clear c b7 b1 o;refine tk 34 48 (G g7) 39 q ?_;refine Ah (i:=35) B ?_;refine WE rfl λ_ c=>?_;go_simp;apply(b9 _).mono;rintro r h8 ⟨rfl,b2⟩;have s:=f _ _ q b2;refine c _ _ ⟨λ_=>s,?_⟩;clear c b9 b2 q;refine tk 36 48 (G g8) 41 s ?_;refine Ah (i:=37) B ?_;refine WE rfl λ_ c=>?_;go_simp;apply(c5 _).mono;rintro r h9 ⟨rfl,b3⟩;have t:=f _ _ s b3;refine c _ _ ⟨λ_=>t,?_⟩;clear c c5 b3 s;refine tk 38 48 (G g9) 43 t ?_;refine Ah (i:=39) B ?_;refine WE rfl λ_ c=>?_;go_simp;apply(c6 _).mono;rintro r i0 ⟨rfl,b4⟩;have v:=f _ _ t b4;refine c _ _ ⟨λ_=>v,?_⟩;clear c c6 b4 t;refine tk 40 48 (G h1) 45 v ?_;refine Ah (i:=42) B ?_;refine WE rfl λ_ c=>?_;go_simp;apply(c7 _).mono;rintro r i1 ⟨rfl,b5⟩;have d:=f _ _ v b5;refine c _ _ ⟨λ_=>d,?_⟩;clear c c7 b5 v;refine tk 43 48 (G h2) 48 d ?_;refine tk 46 48 (G f4) 51 d ?_;refine Ah (i:=47) B ?_;refine WE rfl λ_ c=>?_;go_simp;refine c _ _ ⟨λh=>κ rfl h,?_⟩;clear c;refine Aj B ?_;have b:=H<|HA.trans d.2.2.2.2.2;clear d f g;exact ajr
structure Du where
 nm:Y
 way:N
 ck:N
 pk:N
 ln:N
 sp:Y
abbrev Db:Du:=⟨⟨#[]⟩,0,0,0,0,⟨#[]⟩⟩
def Du.ok(i:Du):Prop:=i.nm.size<=4000000/\i.way<=10000000000/\i.ck<=4611686018427387904/\i.pk<=4611686018427387904/\i.ln<=4611686018427387904/\i.sp.size<=4000000
def PV(w:U)(g:N)(its:E Du):Prop:= ∀i,i<its.length->w.cell? ⟨g,i*6,O⟩=J (G (its.getD i Db).nm)/\w.cell? ⟨g,i*6+1,O⟩=J (I Q ((its.getD i Db).way:Z))/\w.cell? ⟨g,i*6+2,O⟩=J (I Q ((its.getD i Db).ck:Z))/\w.cell? ⟨g,i*6+3,O⟩=J (I Q ((its.getD i Db).pk:Z))/\w.cell? ⟨g,i*6+4,O⟩=J (I Q ((its.getD i Db).ln:Z))/\w.cell? ⟨g,i*6+5,O⟩=J (G (its.getD i Db).sp)
def PV.old{g:N}{its:E Du}(h:PV w g its)(a:Am w w'):PV w' g its:=λi b=>by
 obtain⟨h0,c,d,e,f,j⟩:=h i b;exact⟨Ap a h0,Ap a c,Ap a d,Ap a e,Ap a f,Ap a j⟩
def NP(its:E Du):N->Y×Y
 |0=>(⟨#[]⟩,⟨#[]⟩)
 |i+1=>(((NP its i).1++Mm (its.getD i Db).nm (its.getD i Db).way (its.getD i Db).ck (its.getD i Db).pk (its.getD i Db).ln)++(its.getD i Db).sp,(NP its i).2++OM (its.getD i Db).nm (its.getD i Db).way (its.getD i Db).ck (its.getD i Db).pk (its.getD i Db).ln (NP its i).1.size)
def Cy(its:E Du):Y:=((NP its its.length).1++(NP its its.length).2)++An (endL its.length (NP its its.length).2.size (NP its its.length).1.size)
def VB(nm:Y)(a b c d:N):(Mm nm a b c d).size=30+nm.size:=by
 rw[Mm,AG];simp only[Ws,BA,Dd];have:Kf.size=4:=rfl;omega
def VC(nm:Y)(b c d e a:N):(OM nm b c d e a).size=46+nm.size:=by
 rw[OM,AG];simp only[Ws,BA,Dd];have:LD.size=4:=rfl;omega
def Tr(its:E Du)(a:∀x∈its,x.ok):∀i,i<=its.length->(NP its i).1.size<=i*9000000/\(NP its i).2.size<=i*5000000
 |0,_=>⟨WF _,WF _⟩
 |i+1,_=>by
  obtain⟨_,_⟩:=Tr its a i A;have b:(its.getD i Db).ok:=by rw[Wq,Wv A];exact a _<|WJ _
  obtain⟨_, -, -, -, -,_⟩:=b;rw[NP];refine⟨?_,?_⟩
  .rw[WC,WC,VB];omega
  rw[WC,VC];omega
def DP(ao:Option Addr)(g cap:N)(its:E Du)(n:0<its.length->ao=J ⟨g,0,O⟩)(hl:its.length<=70)(p:∀x∈its,x.ok)(w:U)(hi:PV w g its):μ F 43 #[K ao its.length cap] w λr w'=>r=ε (G<|Cy its)/\Am w w':=by
 have HI:=H hi;have a0:=H n;have HK:=H p;have a4:=H<|Tr its p;have u:C<|Am w w:=Ag.refl _ w;have HJ:C<|Cy its=((NP its its.length).1++(NP its its.length).2)++An (endL its.length (NP its its.length).2.size (NP its its.length).1.size):=rfl;clear hi p n;go_in;go_wp2;go_loopw [3,4,5] (λs c x wr=>∃i:N,i<=its.length/\s=G (NP its i).1/\c=G (NP its i).2/\x=I Q i/\C (Am w wr)) λ_ _ x _=>its.length-(intOf x).toNat
 .exact ⟨0,A,rfl,rfl,rfl,u⟩
 clear u;obtain⟨i,a5,rfl,rfl,rfl,u⟩:=hrel;obtain⟨_,_⟩:=a4 i a5;by_cases v:i<its.length
 .have y:(i:Z)<its.length:=A;have n:=a0 A;subst n;obtain⟨c0,c1,c2,c3,c4,c5⟩:=HI.old u i v;have n:(its.getD i Db).ok:=by rw[Wq,Wv v];exact HK _ (WJ _)
  obtain⟨_,o2,o3,o4,o5,_⟩:=n;have HN:C<|NP its (i+1)=(((NP its i).1++Mm (its.getD i Db).nm (its.getD i Db).way (its.getD i Db).ck (its.getD i Db).pk (its.getD i Db).ln)++(its.getD i Db).sp,(NP its i).2++OM (its.getD i Db).nm (its.getD i Db).way (its.getD i Db).ck (its.getD i Db).pk (its.getD i Db).ln (NP its i).1.size):=rfl;generalize its.getD i Db=it at*;obtain⟨e,b,f,h,j,o⟩:=it;simp only at*;generalize NP its i=js at*;obtain⟨d,l⟩:=js;simp only at*;have HC:=H λa=>kL e b f h j d.size A A o2 o3 o4 o5 a;have z:=H λa=>td e b f h j A o2 o3 o4 o5 a;have n:=VB e b f h j;have p:=VC e b f h j d.size;have a1:∀a,(Op.stringOp .add l<|OM e b f h j d.size).run F a=ω (G<|l++OM e b f h j d.size) a:=λa=>WR a _ _ A
  have a2:∀a,(Op.stringOp .add d<|Mm e b f h j).run F a=ω (G<|d++Mm e b f h j) a:=λa=>WR a _ _ A
  have:∀a,(Op.stringOp .add (d++Mm e b f h j) o).run F a=ω (G ((d++Mm e b f h j)++o)) a:=λa=>WR a _ _ akV
  clear n p;generalize(d++Mm e b f h j)++o=z2 at*;generalize d++Mm e b f h j=z1 at*;generalize Mm e b f h j=zl at*;generalize l++OM e b f h j d.size=z3 at*;generalize OM e b f h j d.size=z4 at*;go_wp2_with fail;refine(HC _).mono ?_;rintro r q ⟨rfl,k⟩;have:=BC c0;have n:=Ap k c0;have p:=Ap k c1;have v:=Ap k c2;have e3:=Ap k c3;have e4:=Ap k c4;have e5:=Ap k c5;have D:∀a c :U,(a.cell? ⟨g,i*6,O⟩=J (G e)/\a.cell? ⟨g,i*6+1,O⟩=J (I Q (b:Z))/\a.cell? ⟨g,i*6+2,O⟩=J (I Q (f:Z))/\a.cell? ⟨g,i*6+3,O⟩=J (I Q (h:Z))/\a.cell? ⟨g,i*6+4,O⟩=J (I Q (j:Z))/\a.cell? ⟨g,i*6+5,O⟩=J (G o)/\Am wr a)->Am a c ->(c.cell? ⟨g,i*6,O⟩=J (G e)/\c.cell? ⟨g,i*6+1,O⟩=J (I Q (b:Z))/\c.cell? ⟨g,i*6+2,O⟩=J (I Q (f:Z))/\c.cell? ⟨g,i*6+3,O⟩=J (I Q (h:Z))/\c.cell? ⟨g,i*6+4,O⟩=J (I Q (j:Z))/\c.cell? ⟨g,i*6+5,O⟩=J (G o)/\Am wr c):=λa c m c=>⟨Ap c m.1,Ap c m.2.1,Ap c m.2.2.1,Ap c m.2.2.2.1,Ap c m.2.2.2.2.1,Ap c m.2.2.2.2.2.1,m.2.2.2.2.2.2.trans c⟩
  have c:q.drew.cell? ⟨g,i*6,O⟩=J (G e)/\q.drew.cell? ⟨g,i*6+1,O⟩=J (I Q (b:Z))/\q.drew.cell? ⟨g,i*6+2,O⟩=J (I Q (f:Z))/\q.drew.cell? ⟨g,i*6+3,O⟩=J (I Q (h:Z))/\q.drew.cell? ⟨g,i*6+4,O⟩=J (I Q (j:Z))/\q.drew.cell? ⟨g,i*6+5,O⟩=J (G o)/\Am wr q.drew:=⟨n,p,v,e3,e4,e5,k.drew⟩;clear c0 c1 c2 c3 c4 c5 HC;go_wp2_with fail;clear n p v e3 e4 e5;refine Ai (S:=λa=>a.cell? ⟨g,i*6,O⟩=J (G e)/\a.cell? ⟨g,i*6+1,O⟩=J (I Q (b:Z))/\a.cell? ⟨g,i*6+2,O⟩=J (I Q (f:Z))/\a.cell? ⟨g,i*6+3,O⟩=J (I Q (h:Z))/\a.cell? ⟨g,i*6+4,O⟩=J (I Q (j:Z))/\a.cell? ⟨g,i*6+5,O⟩=J (G o)/\Am wr a) (L:=14) B ?_;refine tk 0 15 (G d) 22 c ?_;refine tk 1 15 (K (J ⟨g,0,O⟩) its.length cap) 23 c ?_;refine tk 2 15 (I Q (i:Z)) 24 c ?_;refine tk 3 15 (V<|J ⟨g,i*6,O⟩) 25 c ?_;refine tk 4 15 (V<|J ⟨g,i*6,O⟩) 26 c ?_;refine tk 5 15 (.agg #[G e,I Q (b:Z),I Q (f:Z),I Q (h:Z),I Q (j:Z)]) 27 c ?_;refine tk 8 15 (K (J ⟨g,0,O⟩) its.length cap) 30 c ?_;refine tk 9 15 (I Q (i:Z)) 31 c ?_;refine tk 10 15 (V<|J ⟨g,i*6,O⟩) 32 c ?_;refine tk 11 15 (V<|J ⟨g,i*6+5,O⟩) 33 c ?_;refine tk 12 15 (G o) 34 c ?_;refine Ah (i:=6) B ?_;refine WE rfl λ_ t=>?_;go_simp;refine(z _).mono ?_;rintro r w5 ⟨rfl,P⟩;have b:=D _ _ c P;refine t _ _ ⟨λ_=>b,?_⟩;clear t;refine tk 7 15 (G z1) 29 b ?_;refine tk 13 15 (G z2) 35 b ?_;refine Ah (i:=14) B ?_;refine WE rfl λ_ t=>?_;go_simp;refine t _ _ ⟨λm=>κ rfl m,?_⟩;clear t;refine Aj B ?_;have e:=H<|u.trans b.2.2.2.2.2.2;clear D c b P k z;go_wp2;go_roundw
  .exact ⟨i+1,A,by rw[X HN],by rw[X HN],by go_num,e⟩
  exact Ae
 have:¬(i:Z)<its.length:=A;have b:i=its.length:=A;have t:C<|Cy its=((NP its i).1++(NP its i).2)++An (endL its.length (NP its i).2.size (NP its i).1.size):=by rw[b];exact HJ
 clear b HJ;obtain⟨b,m⟩:∃b,Cy its=b:=⟨_,rfl⟩;rw[m] at t;have R:=H m;clear m;generalize NP its i=js at*;obtain⟨d,l⟩:=js;simp only at*;have T:=H λa=>zH its.length l.size d.size A A A a;have b:(An<|endL its.length l.size d.size).size<=100:=alM
 have:∀a,(Op.stringOp .add d l).run F a=ω (G<|d++l) a:=λa=>WR a _ _ A
 have a2:∀a,(Op.stringOp .add (d++l)<|An (endL its.length l.size d.size)).run F a=ω (G ((d++l)++An (endL its.length l.size d.size))) a:=λa=>WR a _ _ akV
 rw[<-X t] at a2;clear b t;generalize An (endL its.length l.size d.size)=ze at*;generalize d++l=zz at*;go_wp2_with fail;refine(T _).mono ?_;rintro r w6 ⟨rfl,a⟩;have a6:=H<|u.trans a;clear a T;go_wp2;go_ret;exact⟨by rw[X R];rfl,a6⟩
def XQ(s:Y)(ck:N):Y×N:=if BJ s=ck then(s,0) else(⟨#[]⟩,8)
def aV(x:Du):Y×N:=if x.way=0/\x.pk≠x.ln then(⟨#[]⟩,7) else if x.way=8 then(if(AB x.sp).2.2=0/\(AB x.sp).2.1=x.sp.size/\(AB x.sp).1.size=x.ln then XQ (AB x.sp).1 x.ck else(⟨#[]⟩,2)) else XQ x.sp x.ck
def kM(nm:Y)(k ck pk ln:N)(sp:Y)(a0:sp.size<=100000000)(hw:k=0\/k=8)(a2:ln<=4294967296)(w:U):μ F 95 #[.agg #[G nm,I Q (k:Z),I Q (ck:Z),I Q (pk:Z),I Q (ln:Z),G sp]] w λr w'=>r=ε (.tuple #[G (aV ⟨nm,k,ck,pk,ln,sp⟩).1,I Q ((aV ⟨nm,k,ck,pk,ln,sp⟩).2:Z)])/\Am w w':=by
 obtain⟨m,p⟩:∃m,aV ⟨nm,k,ck,pk,ln,sp⟩=m:=⟨_,rfl⟩;rw[p];rcases hw with rfl|rfl
 .by_cases x:pk=ln
  .subst x;have a:XQ sp ck=m:=by rw[<-p,aV,Wx λh=>h.2 rfl,Wx Ad]
   have P:((pk:Z) !=(pk:Z))=false:=Ad;obtain⟨R,n⟩:∃R,m=R:=⟨_,rfl⟩;rw[n];have b:=n.symm;have t:=(λs=>Gi sp s<|by unfold maxLen;omega);have e:(BJ sp=ck->m=(sp,0)):=λh=>by rw[<-a,XQ,Wz h]
   have c:(BJ sp≠ck->m=(⟨#[]⟩,8)):=λh=>by rw[<-a,XQ,Wx h]
   generalize BJ sp=cs at*;have N2:=WD w<|W #[G nm,I Q 0,I Q (ck:Z),I Q (pk:Z),I Q (pk:Z),G sp] 82;have HA:(Am w<|w.alloc (W #[G nm,I Q 0,I Q (ck:Z),I Q (pk:Z),I Q (pk:Z),G sp] 82)):=(Ag.refl _ w).alloc _;have D:∀j u,(#[G nm,I Q 0,I Q (ck:Z),I Q (pk:Z),I Q (pk:Z),G sp]:φ M)[j]? =J u->(w.alloc<|W #[G nm,I Q 0,I Q (ck:Z),I Q (pk:Z),I Q (pk:Z),G sp] 82).cell? ⟨w.heap.size,j,O⟩=J u:=λj u h=>by rw[Wu _ _ j _ _ (0,0) N2];exact h
   have d1:=D 1 _ rfl;have d2:=D 2 _ rfl;have T:=D 3 _ rfl;have y:=D 4 _ rfl;have d5:=D 5 _ rfl;go_in;go_wp2_with fail;generalize w.alloc (W #[G nm,I Q 0,I Q (ck:Z),I Q (pk:Z),I Q (pk:Z),G sp] 82)=W0 at*;have U1:=HA;refine Ai (S:=λs=>s.cell? ⟨w.heap.size,2,O⟩=J (I Q (ck:Z))) (L:=5) B ?_;have f:W0.drew.cell? ⟨w.heap.size,2,O⟩=J (I Q (ck:Z)):=d2;refine tk 0 6 (G sp) 52 f ?_;exact aeN
  have:((pk:Z) !=(ln:Z))=true:=akQ
  have d:m=(⟨#[]⟩,7):=by rw[<-p,aV,Wz ⟨rfl,x⟩]
  rw[d];have N2:=WD w<|W #[G nm,I Q 0,I Q (ck:Z),I Q (pk:Z),I Q (ln:Z),G sp] 82;have HA:(Am w<|w.alloc (W #[G nm,I Q 0,I Q (ck:Z),I Q (pk:Z),I Q (ln:Z),G sp] 82)):=(Ag.refl _ w).alloc _;have D:∀j u,(#[G nm,I Q 0,I Q (ck:Z),I Q (pk:Z),I Q (ln:Z),G sp]:φ M)[j]? =J u->(w.alloc<|W #[G nm,I Q 0,I Q (ck:Z),I Q (pk:Z),I Q (ln:Z),G sp] 82).cell? ⟨w.heap.size,j,O⟩=J u:=λj u h=>by rw[Wu _ _ j _ _ (0,0) N2];exact h
  have d1:=D 1 _ rfl;have d2:=D 2 _ rfl;have T:=D 3 _ rfl;have y:=D 4 _ rfl;have d5:=D 5 _ rfl;go_in;go_wp2;go_ret2;exact⟨rfl,HA⟩
 have a:(if(AB sp).2.2=0/\(AB sp).2.1=sp.size/\(AB sp).1.size=ln then XQ (AB sp).1 ck else(⟨#[]⟩,2))=m:=by exact Eq.trans (Eq.symm ((Wx λh=>κ h.1 (show ¬(8:N)=0 by decide)).trans<|Wz rfl)) p
 obtain⟨R,n⟩:∃R,m=R:=⟨_,rfl⟩;rw[n];have b:=n.symm;have g:=λs=>Jg sp A s
 generalize AB sp=Z2 at*;obtain⟨z,us,er⟩:=Z2;simp only at*;by_cases g1:er=0
 .subst g1;by_cases g2:us=sp.size
  .subst g2;by_cases g3:z.size=ln
   .have v:((z.size:Z) !=(ln:Z))=false:=(by rw[g3];simp);rw[Wz ⟨rfl,rfl,g3⟩] at a;have t:=(λs=>Gi z s<|by unfold maxLen;omega);have e:(BJ z=ck->m=(z,0)):=λh=>by rw[<-a,XQ,Wz h]
    have c:(BJ z≠ck->m=(⟨#[]⟩,8)):=λh=>by rw[<-a,XQ,Wx h]
    generalize BJ z=cs at*;have N2:=WD w<|W #[G nm,I Q 8,I Q (ck:Z),I Q (pk:Z),I Q (ln:Z),G sp] 82;have HA:(Am w<|w.alloc (W #[G nm,I Q 8,I Q (ck:Z),I Q (pk:Z),I Q (ln:Z),G sp] 82)):=(Ag.refl _ w).alloc _;have D:∀j u,(#[G nm,I Q 8,I Q (ck:Z),I Q (pk:Z),I Q (ln:Z),G sp]:φ M)[j]? =J u->(w.alloc<|W #[G nm,I Q 8,I Q (ck:Z),I Q (pk:Z),I Q (ln:Z),G sp] 82).cell? ⟨w.heap.size,j,O⟩=J u:=λj u h=>by rw[Wu _ _ j _ _ (0,0) N2];exact h
    have d1:=D 1 _ rfl;have d2:=D 2 _ rfl;have T:=D 3 _ rfl;have y:=D 4 _ rfl;have d5:=D 5 _ rfl;go_in;go_wp2_with fail;generalize w.alloc (W #[G nm,I Q 8,I Q (ck:Z),I Q (pk:Z),I Q (ln:Z),G sp] 82)=W0 at*;apply(g _).mono;rintro r w1 ⟨rfl,q⟩;have U1:=HA.trans q;have k:=Ap q d2;have e4:=Ap q y;have o:=Ap q d5;go_wp2_with fail;have d2:=k;refine Ai (S:=λs=>s.cell? ⟨w.heap.size,2,O⟩=J (I Q (ck:Z))) (L:=5) B ?_;have f:w1.drew.cell? ⟨w.heap.size,2,O⟩=J (I Q (ck:Z)):=d2;refine tk 0 6 (G z) 52 f ?_;exact aeN
   have v:((z.size:Z) !=(ln:Z))=true:=akQ
   rw[Wx λh=>g3 h.2.2] at a;exact aew
  have v:((us:Z) !=(sp.size:Z))=true:=akQ
  rw[Wx λh=>g2 h.2.1] at a;exact aew
 have:((er:Z) !=0)=true:=akQ
 rw[Wx λh=>g1 h.1] at a;exact aew
abbrev Mn(N3:E Du):Y:=(N3.getD (N3.length-1) Db).nm
def Ue(s p:Y)(n a:N)(N3:E Du):Option<|Du×N:=
 if n<a+46 then O else
 if n<a+46+vS s (a+28) 2 0 then O else
 if n<vS s (a+42) 4 0+30+vS s (a+28) 2 0+vS s (a+20) 4 0 then O else
 if vS s (a+10) 2 0≠0/\vS s (a+10) 2 0≠8 then O else
 if IE (s.extract (a+46)<|a+46+vS s (a+28) 2 0) p=false then O else
 if 0<N3.length/\¬(Mn N3).data.toList<(s.extract (a+46)<|a+46+vS s (a+28) 2 0).data.toList then O else
 J (⟨s.extract (a+46)<|a+46+vS s (a+28) 2 0,vS s (a+10) 2 0,vS s (a+16) 4 0,vS s (a+20) 4 0,vS s (a+24) 4 0,s.extract (vS s (a+42) 4 0+30+vS s (a+28) 2 0)<|vS s (a+42) 4 0+30+vS s (a+28) 2 0+vS s (a+20) 4 0⟩,a+46+vS s (a+28) 2 0)
def Gv(s p:Y)(n:N):N->N->E Du->Option (E Du)
 |0,_,N3=>J N3
 |m+1,a,N3=>match Ue s p n a N3 with
  |none=>O
  |some (x,b)=>Gv s p n m b<|N3++[x]
def FN(s p:Y):Option<|E Du:=
 if s.size<22 then O else
 if 60<vS s (s.size-22+8) 2 0 then O else
 if s.size-22<vS s (s.size-22+16) 4 0 then O else
 match Gv s p (s.size-22) (vS s (s.size-22+8) 2 0) (vS s (s.size-22+16) 4 0) [] with
 |none=>O
 |some l=>if Cy l=s then J l else O
def EG(x:Du):E M:=[G x.nm,I Q (x.way:Z),I Q (x.ck:Z),I Q (x.pk:Z),I Q (x.ln:Z),G x.sp]
def Co(its:E Du):E M:=its.flatMap EG
def XR(its:E Du):(Co its).length=its.length*6:=by
 induction its with
 |nil=>rfl
 |cons a r b=>simp only[Co,aaC,Ws,wu] at*;rw[b];simp[EG];omega
def XS(a b:E Du):Co (a++b)=Co a++Co b:=by simp[Co]
def XT(a:Du):Co [a]=EG a:=by simp[Co]
def te(its:E Du):∀u∈Co its,u.oneCell'=true:=by
 intro u a;obtain⟨_,_,h⟩:=adu.1 a;simp[EG] at h;rcases h with rfl|rfl|rfl|rfl|rfl|rfl<;>rfl
def XU(its:E Du)(j c:N)(d:j<its.length)(f:c<6):(Co its)[j*6+c]? =(EG<|its.getD j Db)[c]? :=by
 induction its generalizing j with
 |nil=>simp at d
 |cons a r e=>
  have b:(EG a).length=6:=rfl;cases j with
  |zero=>rw[show Co (a::r)=EG a++Co r by simp[Co],WW<|by rw[b];omega];simp
  |succ j=>
   rw[show Co (a::r)=EG a++Co r by simp[Co],WU (by rw[b];omega),b,show(j+1)*6+c-6=j*6+c by omega,e j<|by simpa using d]
   rfl
def tf:(prog.info? 82).map (λi=>(i.zero,i.size,i.bytes))=J (J (.agg #[G ⟨#[]⟩,I Q 0,I Q 0,I Q 0,I Q 0,G ⟨#[]⟩]),6,64):=B
def TH(W w:U)(v:M)(its:E Du):Prop:=w.ownsRow 0 82 6 v its.length (Co its)/\(∀b,v.ownBlock=J b->W.heap.size<=b)/\Am W w
def TH.start(h:Am c w):TH c w (K O 0 0) []:=⟨WZ _ _ _ _,λb e=>(by cases e),h⟩
def TH.old{b:U}{its:E Du}(h:TH b w v its)(a:Am w w'):TH b w' v its:=⟨UM h.1 a λ_ _ x=>x,h.2.1,h.2.2.trans a⟩
def TH.form{b:U}{its:E Du}(h:TH b w v its):∃ao cap,v=K ao its.length cap:=CN h.1
def TH.slice{b:U}{its:E Du}(h:TH b w v its)(f:0<its.length):∃g cap,v=K (J ⟨g,0,O⟩) its.length cap/\b.heap.size<=g/\g<w.heap.size/\PV w g its:=by
 obtain⟨⟨j,⟨rfl,h0⟩|⟨g,cap,d,rfl,k⟩⟩,l,_⟩:=h
 .omega
 have e:=abs (w:=w) (show w.ownsRow 0 82 6 (K (J ⟨g,0,O⟩) its.length cap) its.length (Co its) from⟨j,.inr ⟨g,cap,d,rfl,k⟩⟩) (g:=g) rfl;have a:∀i,i<its.length-> ∀b,b<6-> ∀u,(EG<|its.getD i Db)[b]? =J u->w.cell? ⟨g,i*6+b,O⟩=J u:=by
  intro i c b a u d;have:=e (i*6+b) u (by rw[XU its i b c a];exact d);exact ahP
 refine⟨g,cap,rfl,l g rfl,BC<|a 0 f 0 A _ rfl,λi c=>⟨a i c 0 A _ rfl,a i c 1 A _ rfl,a i c 2 A _ rfl,a i c 3 A _ rfl,a i c 4 A _ rfl,a i c 5 A _ rfl⟩⟩
def EX{its:E Du}{x:Du}(h:TH c w v its)(a:Addr)(l:∀j u,(EG x)[j]? =J u->w.cell? (a.add j)=J u)(d:its.length<=1000)(i:TypeId):
 ∃v' w',(Builtin.append_ #[77,77] i #[v,K (J a) 1 1]).run F w=ω v' w'/\TH c w' v' (its++[x])/\Ag (λk=>v.ownBlock=J k) w w':=by
 obtain⟨m,c,d,f,g⟩:=wi tf;obtain⟨v',w',n,o,hg,_,hb⟩:=run_append_own_at (P:=F) w 0 77 i 82 m (.agg #[G ⟨#[]⟩,I Q 0,I Q 0,I Q 0,I Q 0,G ⟨#[]⟩]) 6 64 underlying77 c d f g rfl A v _ _ h.1 a 1 1 (Co [x]) (XR [x]) (by rw[XT];exact l) (te [x]) (by unfold maxLen;omega) A A;refine⟨v',w',n,⟨?_,λb t=>?_,?_⟩,(Ag.refl _ w).grown hg λk _ e=>e⟩
 .rw[Ws,XS];exact o
 .exact aiu
 exact ajw
def AZ{ops:φ Oper}{rest:E Oper}{o:Oper}{a:Act}{Q:Exit->Act->U->Prop}{b:U}(c:o.guard=O)(s x:Operand)
 (g:o.op=.call {callee:=.builtin .append,args:= #[s,x],argTypes:= #[77,77]})(v:M)(d:Addr)(its:E Du)(f:Du)(h:a.eval s=v)(i:a.eval x=K (J d) 1 1)(l:TH b w v its)(e:∀j u,(EG f)[j]? =J u->w.cell? (d.add j)=J u)(m:its.length<=1000)
 (k:∀v' w',TH b w' v' (its++[f])->Ag (λk=>v.ownBlock=J k) w w'->wpList F ops Q rest (a.put o.dst v') w'):wpList F ops Q (o::rest) a w:=by
 obtain⟨v',w',b,f,n⟩:=EX l d e m o.type;exact Lib.wpList_append_run w c s x _ _ g v _ h i v' w' b<|k v' w' f n
def TH.any{b:U}{its:E Du}(h:TH b w v its):∃ao g cap,v=K ao its.length cap/\(0<its.length->ao=J ⟨g,0,O⟩)/\(0<its.length->PV w g its):=by
 by_cases h0:0<its.length
 .obtain ⟨g,cap,rfl, -, -,a⟩:=h.slice h0;exact⟨_,g,cap,rfl,λ_=>rfl,λ_=>a⟩
 obtain⟨ao,cap,rfl⟩:=h.form;exact⟨ao,0,cap,rfl,A,A⟩
def kN(w w':U)(r:Ending):Option (E Du)->Prop
 |none=>∃v,r=ε (.tuple #[v,.bool false])
 |some its=>∃v,r=ε (.tuple #[v,.bool true])/\TH w w' v its
structure qD (s p:Y) (n many a0:N) (i a:N) (its:E Du):Prop where
 go:Gv s p n many a0 []=Gv s p n (many-i) a its
 i_le:i<=many
 a_le:a<=n
 len:its.length=i
def qD.fail{its:E Du}(h:qD s p n many b i a its)(d:i<many)(c:Ue s p n a its=O):Gv s p n many b []=none:=by
 rw[h.go,show many-i=(many-i-1)+1 by omega,Gv,c]
def qD.next{a0:N}{its:E Du}(h:qD s p n many a0 i a its)(hi:i<many){x:Du}(hf:Ue s p n a its=J (x,b))(hb:b<=n):qD s p n many a0 (i+1) b<|its++[x]:=by
 refine⟨?_,A,hb,by rw[Ws,h.len];rfl⟩;rw[h.go,show many-i=(many-(i+1))+1 by omega,Gv,hf]
def qD.done{its:E Du}(h:qD s p n many b i a its)(c:¬i<many):Gv s p n many b []=J its:=by
 rw[h.go,show many-i=0 by omega,Gv]
def aW(s:Y)(a many:N)(x y:Z)(b:x=(a:Z))(c:y=(many:Z))(d:s.size<=100000000)(e:many<=4)(f:a+many<=s.size)(w:U):μ F 157 #[G s,I Q x,I Q y] w λr w'=>r=ε (I Q (vS s a many 0:Z))/\w'=w:=by
 subst b c;exact xE s a many d e f w
def xQ(s p:Y)(hs:s.size<=40000)(w:U):μ F 93 #[G s,G p] w λr w'=>Am w w'/\kN w w' r (FN s p):=by
 by_cases a2:s.size<22
 .have HA:C<|FN s p=O:=by unfold C;rw[FN,Wz a2]
  have b3:((s.size:Z)-22<0)=True:=ako
  clear a2;go_in;go_wp2;go_ret2;exact⟨Ag.refl _ _,by rw[uh HA];exact⟨_,rfl⟩⟩
 obtain⟨n,hn⟩:∃n,s.size-22=n:=⟨_,rfl⟩;have:(s.size:Z)-22=(n:Z):=A;have:n<=40000:=A;have:s.size=n+22:=A;have:¬((n:Z)<0):=A;have q:=H λW=>aW s (n+8) 2 ((n:Z)+8) 2 A rfl A A A W;have u:=H λW=>aW s (n+16) 4 ((n:Z)+16) 4 A rfl A A A W;have Q8:C (FN s p=if 60<vS s (n+8) 2 0 then O else if n<vS s (n+16) 4 0 then O else match Gv s p n (vS s (n+8) 2 0) (vS s (n+16) 4 0) [] with
  |none=>O
  |some a5=>if Cy a5=s then J a5 else O):=by unfold C;rw[FN,Wx a2,hn]<;>rfl
 have:vS s (n+8) 2 0<65536:=Jz s (n+8) 2 0;have:vS s (n+16) 4 0<4294967296:=Jz s (n+16) 4 0;generalize vS s (n+8) 2 0=many,vS s (n+16) 4 0=a0 at*;clear a2 hn;by_cases hm:60<many
 .have a2:(60:Z)<(many:Z):=A;have HA:C<|FN s p=O:=by unfold C;rw[uh Q8,Wz hm]
  exact agf
 have a2:¬(60:Z)<(many:Z):=A;by_cases ha:n<a0
 .have a2:(n:Z)<a0:=A;have HA:C<|FN s p=O:=by unfold C;rw[uh Q8,Wx hm,Wz ha]
  exact agf
 have a2:¬(n:Z)<a0:=A;have Q8:C (FN s p=match Gv s p n many a0 [] with
  |none=>O
  |some a5=>if Cy a5=s then J a5 else O):=by unfold C;rw[uh Q8,Wx hm,Wx ha]
 have a6:C<|qD s p n many a0 0 a0 []:=⟨rfl,A,A,rfl⟩;clear hm;go_in;go_wp2_with fail;apply(q _).mono;rintro r w1 ⟨rfl,rfl⟩;go_wp2_with fail;apply(u _).mono;rintro r w2 ⟨rfl,rfl⟩;go_wp2_with fail;clear q u;go_loopw [8,9,10,11,12,13] (λxa a1 xi _ _ _ wr=>∃(i a:N) (its:E Du),xa=I Q (a:Z)/\xi=I Q (i:Z)/\C (qD s p n many a0 i a its)/\C (TH w2 wr a1 its)/\C (∀x∈its,x.ok)) λ_ _ a1 _ _ _ _=>many-(intOf a1).toNat
 .exact ⟨0,a0,[],rfl,rfl,a6,TH.start<|Ag.refl _ _,λx hx=>by cases hx⟩
 clear a6;obtain⟨i,a,its,rfl,rfl,HS,HN,HK⟩:=hrel;obtain⟨ao,cap,b4⟩:=HN.form;subst b4;have:=HS.i_le;have:=HS.a_le;have:its.length<=60:=by have:=HS.len;omega
 by_cases him:i<many
 .have a7:(i:Z)<many:=A;have d:C<|Ue s p n a its=O->FN s p=O:=λh=>by rw[uh Q8,(uh HS).fail him h]
  have m:C (∀x b,Ue s p n a its=J (x,b)->b<=n->qD s p n many a0 (i+1) b (its++[x])):=λx b h hb=>HS.next him h hb
  by_cases a3:n<a+46
  .have a8:(n:Z)<a+46:=A;have HR:=H (d<|by rw[Ue,Wz a3]);clear a3 d m;go_wp2;go_ret2;exact⟨HN.2.2,by rw[uh HR];exact⟨_,rfl⟩⟩
  have:¬(n:Z)<a+46:=A;have v:=H λW=>aW s (a+10) 2 ((a:Z)+10) 2 A rfl A A A W;have:vS s (a+10) 2 0<65536:=Jz s (a+10) 2 0;have z:=H λW=>aW s (a+16) 4 ((a:Z)+16) 4 A rfl A A A W;have:vS s (a+16) 4 0<4294967296:=Jz s (a+16) 4 0;have Vpk:=H λW=>aW s (a+20) 4 ((a:Z)+20) 4 A rfl A A A W;have:vS s (a+20) 4 0<4294967296:=Jz s (a+20) 4 0;have Vln:=H λW=>aW s (a+24) 4 ((a:Z)+24) 4 A rfl A A A W;have:vS s (a+24) 4 0<4294967296:=Jz s (a+24) 4 0;have Vk:=H λW=>aW s (a+28) 2 ((a:Z)+28) 2 A rfl A A A W;have:vS s (a+28) 2 0<65536:=Jz s (a+28) 2 0;have Vfr:=H λW=>aW s (a+42) 4 ((a:Z)+42) 4 A rfl A A A W;have:vS s (a+42) 4 0<4294967296:=Jz s (a+42) 4 0;have c:Ue s p n a its=_:=rfl
  conv at c=>rhs;unfold Ue;rw[Wx a3]
  generalize vS s (a+10) 2 0=way,vS s (a+16) 4 0=ck,vS s (a+20) 4 0=pk,vS s (a+24) 4 0=ln,vS s (a+28) 2 0=k,vS s (a+42) 4 0=fr at*;by_cases h1:n<a+46+k
  .have a2:(n:Z)<a+46+(k:Z):=A;have HR:=H (d<|by rw[c,Wz h1]);exact aeI
  have a2:¬(n:Z)<a+46+(k:Z):=A;rw[Wx h1] at c;by_cases h2:n<fr+30+k+pk
  .have a2:(n:Z)<fr+30+(k:Z)+pk:=A;have HR:=H (d<|by rw[c,Wz h2]);exact aeI
  have a2:¬(n:Z)<fr+30+(k:Z)+pk:=A;rw[Wx h2] at c;by_cases h3:way≠0/\way≠8
  .have:((way:Z) !=0)=true:=akQ
   have:((way:Z) !=8)=true:=akQ
   have HR:=H (d<|by rw[c,Wz h3]);exact aeI
  rw[Wx h3] at c;have j:way=0\/way=8:=A;have:(s.extract (a+46)<|a+46+k).size=k:=akS
  have f:∀W,(Instr.slice 9 (G s) (J<|I Q ((a:Z)+46)) (J<|I Q ((a:Z)+46+(k:Z))) O).run F W=ω (G<|s.extract (a+46) (a+46+k)) W:=λW=>by
   have h:=abN (P:=F) W 9 s Q Q ((a:Z)+46) ((a:Z)+46+(k:Z)) underlying9 A A A;rw[h,show((a:Z)+46).toNat=a+46 by omega,show((a:Z)+46+(k:Z)).toNat=a+46+k by omega]
  have:∀W,(Instr.slice 9 (G s) (J<|I Q ((fr:Z)+30+(k:Z))) (J<|I Q ((fr:Z)+30+(k:Z)+pk)) O).run F W=ω (G<|s.extract (fr+30+k) (fr+30+k+pk)) W:=λW=>by
   have h:=abN (P:=F) W 9 s Q Q ((fr:Z)+30+(k:Z)) ((fr:Z)+30+(k:Z)+pk) underlying9 A A A;rw[h,show((fr:Z)+30+(k:Z)).toNat=fr+30+k by omega,show((fr:Z)+30+(k:Z)+pk).toNat=fr+30+k+pk by omega]
  have:(s.extract (fr+30+k)<|fr+30+k+pk).size=pk:=akS
  generalize s.extract (a+46) (a+46+k)=nm,s.extract (fr+30+k) (fr+30+k+pk)=sp at*;have c:=H c;have HXK:C (∀x∈its++[(⟨nm,way,ck,pk,ln,sp⟩:Du)],x.ok):=λx hx=>by
   rcases WY.1 hx with hx|hx
   .exact HK x hx
   rw[WN] at hx;subst hx;exact⟨by show nm.size<=_;omega,by show way<=_;omega,by show ck<=_;omega,by show pk<=_;omega,by show ln<=_;omega,by show sp.size<=_;omega⟩
  have V6:=H λW=>XC nm p W;clear h1 h2 h3 HK;rcases j with j|j
  .have a2:((way:Z) !=0)=false:=by rw[j];rfl
   exact aek
  have a2:((way:Z) !=0)=true:=by rw[j];rfl
  have:((way:Z) !=8)=false:=by rw[j];rfl
  exact aek
 have:¬(i:Z)<many:=A;have HG:=H<|HS.done him;obtain⟨a2,g,b5,X1,a9,Z0⟩:=HN.any;injection X1 with hve1 hve2 hve3;subst hve1 hve3;have HJ:=H (DP ao g cap its a9 A HK wr (by
  by_cases h0:0<its.length
  .exact Z0 h0
  intro i hi;omega))
 have f1:=TG (Cy its) s;have a1:C (FN s p=if Cy its=s then J its else O):=by unfold C;rw[uh Q8,uh HG]
 clear Q8 HG HS a9 Z0 hve2;generalize Cy its=jr at*;go_wp2_with fail;apply HJ.mono;rintro r w6 ⟨rfl,b0⟩;have a4:=H<|HN.old b0;clear HJ b0 HN;by_cases he:jr=s
 .rw[Wy he] at f1;have HA:=H<|a1.trans (Wz he);clear he a1;go_wp2;go_ret2;exact⟨a4.2.2,by rw[uh HA];exact⟨_,rfl,a4⟩⟩
 rw[Ww he] at f1;have HA:=H<|a1.trans (Wx he);clear he a1;go_wp2;go_ret2;exact⟨a4.2.2,by rw[uh HA];exact⟨_,rfl⟩⟩
def LB(p:Y)(it:It):Du:=⟨p++it.name,it.way,it.check,it.packed.size,it.size,it.packed⟩
def pW(p:Y)(a:It):Mm (p++a.name) a.way a.check a.packed.size a.size++a.packed=An (Bk p a):=by
 conv=>lhs;rhs;rw[<-ME a.packed]
 rw[Mm,AF];congr 1;unfold Bk DT AJ;simp only[aaC,acR,wS,WG,WC]
def eR(p:Y)(b:It)(a:N):OM (p++b.name) b.way b.check b.packed.size b.size a=An (BN p b a):=by
 rw[OM];congr 1;unfold BN DT AJ;simp only[aaC,acR,wS,WG,WC]
def Mo(p:Y)(its:E It)(i:N)(h:i<its.length):(its.map<|LB p).getD i Db=LB p (its.getD i BS):=by
 rw[Wq,Wq,aaI,Wv h];rfl
def pX(p:Y)(its:E It):∀i,i<=its.length->NP (its.map<|LB p) i=(An<|AP p (its.take i),An<|Bc p its i)
 |0,_=>rfl
 |i+1,_=>by
  rw[NP,pX p its i A,Mo p its i A,KY p its i A,CL];show((An _++Mm (p++(its.getD i BS).name) (its.getD i BS).way (its.getD i BS).check (its.getD i BS).packed.size (its.getD i BS).size)++(its.getD i BS).packed,An _++OM (p++(its.getD i BS).name) (its.getD i BS).way (its.getD i BS).check (its.getD i BS).packed.size (its.getD i BS).size (An _).size)=_;rw[ado,pW,eR,AG,AF,AF]
def Ts(p:Y)(its:E It):Cy (its.map<|LB p)=An (BQ p its):=by
 rw[Cy,wX,pX p its _<|WF _,wL];simp only[AG,AF]
 rfl
def Ho(s:Y)(a:N):vS s a 2 0=BV s a 2:=by
 simp only[vS,BV,WQ,aaw];omega
def zI(s:Y)(a:N):vS s a 4 0=BV s a 4:=by
 simp only[vS,BV,WQ,aaw,Nat.reduceAdd];omega
def XV{c:It}(l:MU p c)(m:a<4294967296){pre post:E UInt8}(e:pre.length=b)(k:s=An (pre++BN p c a++post)):
 vS s (b+10) 2 0=c.way/\vS s (b+16) 4 0=c.check/\vS s (b+20) 4 0=c.packed.size/\vS s (b+24) 4 0=c.size/\vS s (b+28) 2 0=p.size+c.name.size/\vS s (b+42) 4 0=a/\s.extract (b+46) (b+46+(p.size+c.name.size))=p++c.name:=by
 obtain⟨d,f,g,h,i⟩:=c;obtain⟨c,m,n,o,q⟩:=l;simp only at c m n o q ⊢;have c:pre++BN p ⟨d,f,g,h,i⟩ a++post=pre++sL LD++leB 20 2++leB 20 2++leB 0 2++leB f 2++leB 0 2++leB 33 2++leB g 4++leB i.size 4++leB h 4++leB (p.size+d.size) 2++leB 0 2++leB 0 2++leB 0 2++leB 0 2++leB 0 4++leB a 4++sL (p++d)++post:=by
  unfold BN DT AJ;simp only[aaC,acR,wS,WG]
 have j:(sL LD).length=4:=Ac;rw[c] at k;subst k;rw[Ho,Ho,zI,zI,zI,zI];refine⟨?_,?_,?_,?_,?_,?_,?_⟩
 .exact Fj (pre:=pre++sL LD++leB 20 2++leB 20 2++leB 0 2) (post:=leB 0 2++leB 33 2++leB g 4++leB i.size 4++leB h 4++leB (p.size+d.size) 2++leB 0 2++leB 0 2++leB 0 2++leB 0 2++leB 0 4++leB a 4++sL (p++d)++post) ale (by simp only[Ws,BA,j,e]) A
 .exact Fj (pre:=pre++sL LD++leB 20 2++leB 20 2++leB 0 2++leB f 2++leB 0 2++leB 33 2) (post:=leB i.size 4++leB h 4++leB (p.size+d.size) 2++leB 0 2++leB 0 2++leB 0 2++leB 0 2++leB 0 4++leB a 4++sL (p++d)++post) ale (by simp only[Ws,BA,j,e]) A
 .exact Fj (pre:=pre++sL LD++leB 20 2++leB 20 2++leB 0 2++leB f 2++leB 0 2++leB 33 2++leB g 4) (post:=leB h 4++leB (p.size+d.size) 2++leB 0 2++leB 0 2++leB 0 2++leB 0 2++leB 0 4++leB a 4++sL (p++d)++post) ale (by simp only[Ws,BA,j,e]) A
 .exact Fj (pre:=pre++sL LD++leB 20 2++leB 20 2++leB 0 2++leB f 2++leB 0 2++leB 33 2++leB g 4++leB i.size 4) (post:=leB (p.size+d.size) 2++leB 0 2++leB 0 2++leB 0 2++leB 0 2++leB 0 4++leB a 4++sL (p++d)++post) ale (by simp only[Ws,BA,j,e]) A
 .exact Fj (pre:=pre++sL LD++leB 20 2++leB 20 2++leB 0 2++leB f 2++leB 0 2++leB 33 2++leB g 4++leB i.size 4++leB h 4) (post:=leB 0 2++leB 0 2++leB 0 2++leB 0 2++leB 0 4++leB a 4++sL (p++d)++post) ale (by simp only[Ws,BA,j,e]) A
 .exact Fj (pre:=pre++sL LD++leB 20 2++leB 20 2++leB 0 2++leB f 2++leB 0 2++leB 33 2++leB g 4++leB i.size 4++leB h 4++leB (p.size+d.size) 2++leB 0 2++leB 0 2++leB 0 2++leB 0 2++leB 0 4) (post:=sL (p++d)++post) ale (by simp only[Ws,BA,j,e]) A
 rw[Gu _ (sL<|p++d) post (b+46) _ (by simp only[Ws,BA,j,e]) (by rw[Dd,WC]),ME]
def Qz(p:Y)(b:It)(a:N):(BN p b a).length=46+(p.size+b.name.size):=by
 unfold BN;simp only[Ws,Fe,Dd,DB,wu,abc,WC];have:LD.size=4:=Ac;omega
def QA(p:Y)(its:E It)(i:N):∀n,i<n-> ∃rest,Bc p its n=Bc p its i++BN p (its.getD i BS) (AP p<|its.take i).length++rest
 |0,h=>akX
 |n+1,h=>by
  by_cases e:i=n
  .subst e;exact⟨[],by rw[CL,wS]⟩
  obtain⟨rest,a⟩:=QA p its i n A;exact⟨rest++BN p (its.getD n BS) (AP p<|its.take n).length,by rw[CL,a,WG]⟩
def eS(p:Y)(its:E It)(i:N)(h:i<its.length):∃rest,AP p its=AP p (its.take i)++Bk p (its.getD i BS)++rest:=by
 refine⟨AP p<|its.drop (i+1),?_⟩;rw[<-KY p its i h]
 conv=>lhs;rw[<-aau (i+1) its]
 rw[AP,abI];rfl
def xR{a b:Y}(h:a.data.toList<b.data.toList):(p++a).data.toList<(p++b).data.toList:=by
 have e:∀x:Y,(p++x).data.toList=p.data.toList++x.data.toList:=λx=>by simp[aaE]
 rw[e,e];exact List.append_left_lt h
def pY(p a:Y):IE (p++a) p=true:=by
 unfold IE;rw[wo];refine⟨Wy akV,Wy ?_⟩;rw[ByteArray.extract_append_eq_left rfl]
def eT{x:Y}(h:IE x p=true):∃a,x=p++a:=by
 unfold IE at h;rw[wo,adg,adg] at h;refine⟨x.extract p.size x.size,?_⟩
 conv=>rhs;lhs;rw[<-h.2]
 rw[adt,abu A,Nat.max_eq_right h.1];simp
def pZ(x:E UInt8)(c b a:N)(f:c<65536)(g:a<4294967296)(d:s=An (x++endL c b a)):vS s (x.length+8) 2 0=c/\vS s (x.length+16) 4 0=a:=by
 have f:x++endL c b a=x++sL IC++leB 0 2++leB 0 2++leB c 2++leB c 2++leB b 4++leB a 4++leB 0 2:=by
  unfold endL AJ;simp only[aaC,acR,wS,WG]
 have e:(sL IC).length=4:=Ac;rw[f] at d;subst d;rw[Ho,zI];refine⟨?_,?_⟩
 .exact Fj (pre:=x++sL IC++leB 0 2++leB 0 2) (post:=leB c 2++leB b 4++leB a 4++leB 0 2) ale (by simp only[Ws,BA,e]) A
 exact Fj (pre:=x++sL IC++leB 0 2++leB 0 2++leB c 2++leB c 2++leB b 4) (post:=leB 0 2) ale (by simp only[Ws,BA,e]) A
def ON(its:E It)(j:N)(h:j<its.length):its.getD j BS∈its:=by
 rw[Wq,Wv h];exact WJ h
def Tt(p:Y)(its:E It)(h:0<its.length):Mn (its.map<|LB p)=p++(its.getD (its.length-1) BS).name:=by
 unfold Mn;rw[wX,Mo p its _ A];rfl
def NL(p:Y)(a:It):Bk p a=(sL Kf++DT p a++sL (p++a.name))++sL a.packed/\(sL Kf++DT p a++sL (p++a.name)).length=30+(p.size+a.name.size):=by
 refine⟨rfl,?_⟩;have a:(sL Kf).length=4:=Ac;rw[Ws,Ws,a,Fe,Dd,WC]
def kO(p:Y)(a:It):(Bk p a).length=30+(p.size+a.name.size)+a.packed.size:=by
 rw[(NL p a).1,Ws,(NL p a).2,Dd]
def xS(p:Y)(its:E It):(An<|BQ p its).size-22=(AP p its).length+(Bc p its its.length).length:=by
 rw[AG,PQ];omega
def qa{its:E It}(e:∀i∈its,MU p i)(j:Is its)(c:(BQ p its).length<4294967296)(i:N)(d:i<its.length):
 Ue (An<|BQ p its) p ((AP p its).length+(Bc p its its.length).length) ((AP p its).length+(Bc p its i).length) ((its.take i).map<|LB p)=J (LB p<|its.getD i BS,(AP p its).length+(Bc p its<|i+1).length):=by
 obtain⟨rest,g⟩:=QA p its i its.length d;obtain⟨k,h⟩:=eS p its i d;have c:=e _<|ON its i d;have:=PQ p its;have e:=hJ List.length g;have f:=hJ List.length h;rw[Ws,Ws,Qz] at e;rw[Ws,Ws,kO] at f
 obtain⟨l,m,n,o,q,r,t⟩:=XV (s:=An<|BQ p its) c (a:=(AP p<|its.take i).length) A (pre:=AP p its++Bc p its i) (post:=rest++endL its.length (Bc p its its.length).length (AP p its).length) (b:=(AP p its).length+(Bc p its i).length) (by rw[Ws]) (by
  congr 1;rw[BQ]
  conv=>lhs;lhs;rhs;rw[g]
  simp only[WG])
 have e:(An<|BQ p its).extract ((AP p<|its.take i).length+30+(p.size+(its.getD i BS).name.size)) ((AP p<|its.take i).length+30+(p.size+(its.getD i BS).name.size)+(its.getD i BS).packed.size)=(its.getD i BS).packed:=by
  obtain⟨f,g⟩:=NL p<|its.getD i BS;have u:BQ p its=(AP p (its.take i)++(sL Kf++DT p (its.getD i BS)++sL (p++(its.getD i BS).name)))++sL (its.getD i BS).packed++(k++(Bc p its its.length++endL its.length (Bc p its its.length).length (AP p its).length)):=by
   rw[eI]
   conv=>lhs;lhs;rw[h,f]
   simp only[WG]
  rw[u,Gu _ _ _ _ _ (by rw[Ws,g];omega) (by rw[Dd]),ME]
 have f:=CL p its i;have g:=hJ List.length f;rw[Ws,Qz] at g;have:=c.way;unfold Ue;rw[l,m,n,o,q,r,t,Wx A,Wx A,Wx A,Wx A,pY,Wx Ac,Wx,e]
 .congr 1;rw[abL];exact⟨rfl,A⟩
 rintro⟨h0,c⟩;apply c;have c:(its.take i).length=i:=akY
 rw[wX,c] at h0;rw[Tt p _ (by rw[c];exact h0),c];apply xR;have c:(its.take i).getD (i-1) BS=its[i-1]:=by rw[Wq,aab,Wz A,Wv A];rfl
 have e:its.getD i BS=its[i]:=by rw[Wq,Wv d];rfl
 rw[c,e];exact aaG.1 j (i-1) i A d A
def Tu{its:E It}(a:∀i∈its,MU p i)(b:Is its)(c:(BQ p its).length<4294967296):∀m i,i+m=its.length->
 Gv (An<|BQ p its) p ((AP p its).length+(Bc p its its.length).length) m ((AP p its).length+(Bc p its i).length) ((its.take i).map<|LB p)=J (its.map<|LB p)
 |0,i,h=>by rw[Gv,wv A]
 |m+1,i,h=>by
  rw[Gv,qa a b c i A];show Gv _ _ _ m _ _=_;have e:its.take (i+1)=its.take i++[its.getD i BS]:=by
   rw[aay,Wq,Wv A];rfl
  have:=Tu a b c m (i+1) A;rw[e,wV] at this;exact this
def aX{its:E It}(d:∀i∈its,MU p i)(e:Is its)(a:its.length<=60)(f:(BQ p its).length<4294967296):FN (An<|BQ p its) p=J (its.map<|LB p):=by
 have:=PQ p its;obtain⟨b,c⟩:=pZ (s:=An<|BQ p its) (AP p its++Bc p its its.length) its.length (Bc p its its.length).length (AP p its).length A A (by rw[BQ]);rw[Ws] at b c;have a:=Tu d e f its.length 0 A;have d:(Bc p its 0).length=0:=rfl;rw[d,aaw,abo,aaF] at a;unfold FN;rw[xS,b,c,Wx ala,Wx A,Wx A,a];show(if Cy (its.map<|LB p)=_ then _ else _)=_;rw[Ts,Wz rfl]
def kP{a b:Y}(h:(p++a).data.toList<(p++b).data.toList):a.data.toList<b.data.toList:=by
 have e:∀x:Y,(p++x).data.toList=p.data.toList++x.data.toList:=λx=>by simp[aaE]
 rw[e,e] at h;generalize p.data.toList=l at h;induction l with
 |nil=>exact h
 |cons x _ c=>
  rw[abx,abx,List.cons_lt_cons_iff] at h;rcases h with h|h
  .exact κ h<|UInt8.lt_irrefl x
  exact c h.2
def qb{its:E It}{x:Du}(L:n<=s.size)(g:Is its)(h:Ue s p n a (its.map<|LB p)=J (x,b)):∃c,x=LB p c/\MU p c/\Is (its++[c]):=by
 unfold Ue at h;have:=Jz s (a+10) 2 0;have m:=Jz s (a+16) 4 0;have o:=Jz s (a+20) 4 0;have q:=Jz s (a+24) 4 0;have r:=Jz s (a+28) 2 0;generalize vS s (a+10) 2 0=way,vS s (a+16) 4 0=ck,vS s (a+20) 4 0=pk,vS s (a+24) 4 0=ln,vS s (a+28) 2 0=k,vS s (a+42) 4 0=fr at*;split at h
 .cases h
 rename_i P;split at h
 .cases h
 rename_i R;split at h
 .cases h
 rename_i S;split at h
 .cases h
 rename_i T;split at h
 .cases h
 rename_i u;split at h
 .cases h
 rename_i v;injection h with h;injection h with w hb;have i:(s.extract (a+46)<|a+46+k).size=k:=akS
 have d:(s.extract (fr+30+k)<|fr+30+k+pk).size=pk:=akS
 generalize s.extract (a+46) (a+46+k)=nm,s.extract (fr+30+k) (fr+30+k+pk)=sp at*;obtain⟨t,rfl⟩:=eT (by simpa using u);rw[WC] at i;refine⟨⟨t,way,ck,ln,sp⟩,?_,⟨?_,?_,?_,?_,?_⟩,?_⟩
 .rw[<-w,LB,d]
 .show way=0\/way=8;omega
 .exact m
 .exact q
 .show sp.size<_;rw[d];exact o
 .show p.size+t.size<_;rw[i];exact r
 refine aao.2 ⟨g,aaW _ _,?_⟩;intro y j z e;rw[WN] at e;subst e;show y.name.data.toList<t.data.toList;have h0:=List.length_pos_of_mem j;have c:(its.getD (its.length-1) BS).name.data.toList<t.data.toList:=by
  apply kP (p:=p);rw[<-Tt p its h0];have d:¬ ¬(Mn<|its.map (LB p)).data.toList<(p++t).data.toList:=λe=>v ⟨by rw[wX];exact h0,e⟩
  exact Decidable.of_not_not d
 have l:its.length-1<its.length:=A;rw[Wq,Wv l] at c;obtain⟨k,f,rfl⟩:=adC.1 j;by_cases D:k=its.length-1
 .subst D;exact c
 exact abA (aaG.1 g k (its.length-1) f l A) c
def Tv(g:n<=s.size):∀(m a:N) (its:E It) (l:E Du),(∀i∈its,MU p i)->Is its->Gv s p n m a (its.map<|LB p)=J l-> ∃c,l=c.map (LB p)/\(∀i∈c,MU p i)/\Is c/\c.length=its.length+m
 |0,a,its,l,d,e,h=>by rw[Gv] at h;injection h with h;exact⟨its,h.symm,d,e,rfl⟩
 |m+1,a,its,l,d,e,h=>by
  rw[Gv] at h;cases f:Ue s p n a (its.map<|LB p) with
  |none=>rw[f] at h;cases h
  |some q=>
   obtain⟨_,b⟩:=q;rw[f] at h;obtain⟨j,rfl,k,o⟩:=qb g e f;have r:Gv s p n m b ((its++[j]).map<|LB p)=J l:=by rw[wV];exact h
   obtain⟨c,t,u,v,w⟩:=Tv g m b (its++[j]) l (λi hi=>by
    rcases WY.1 hi with hi|hi
    .exact d i hi
    rw[WN] at hi;rw[hi];exact k) o r
   exact⟨c,t,u,v,by rw[w,Ws];show its.length+1+m=_;omega⟩
def Tw{its:E It}(a:p.size<=1000)(b:s.size<=40000)(h:Fo p s=J its):An (BQ p its)=s/\(∀i∈its,MU p i)/\Is its/\its.length<=60:=by
 obtain⟨c,d⟩:=pC h;exact⟨d,Qv a _ _ _ _ c b (λi e=>by cases e) aaJ Ad⟩
def qc(c:0<p.size)(h:p.size<=1000)(i:s.size<=40000):FN s p=(Fo p s).map (λits=>its.map<|LB p):=by
 cases b:Fo p s with
 |some its=>
  obtain⟨f,j,k,l⟩:=Tw h i b;have h:(BQ p its).length<4294967296:=by rw[<-AG,f];omega
  have:=aX j k l h;rw[f] at this;exact this
 |none=>
  cases a:FN s p with
  |none=>rfl
  |some u=>
   exfalso;unfold FN at a;split at a
   .cases a
   split at a
   .cases a
   rename_i m;split at a
   .cases a
   split at a
   .cases a
   rename_i v d;split at a
   .rename_i g;obtain⟨e,n,o,q,r⟩:=Tv (its:=[]) A _ _ _ (λw t=>by cases t) aaJ d;rw[n,Ts] at g;rw[<-g,eH p e o q (by rw[r];show 0+_<=60;omega) c] at b;cases b
   cases a
def aY(p a:Y):(p++a).extract p.size (p++a).size=a:=ByteArray.extract_append_eq_right rfl<|by rw[WC]
def VD(its:E It)(i k:N)(h:k<i)(a:k<its.length):its.getD k BS∈its.take i:=by
 rw[Wq,Wv a];exact aat.2 ⟨k,A,rfl⟩
def aZ{a:E Y}{f:Iw}(h:Gq a f)(c:N)(b:It)(d:CE b.name=true)(e:TZ b.name=false):DW f c b=if a.any (λn=>Lv n b.name) then 5 else if BE b.name<b.size then 1 else if 16000-c<b.size then 1 else 0:=by
 unfold DW;rw[d,e,MC h];rfl
def xT(p:Y)(hp:p.size<=1000)(its:E It)(hn:its.length<=60)(b0:∀i∈its,MU p i)(ao:Option Addr)(g cap:N)(a4:0<its.length->ao=J ⟨g,0,O⟩)(w:U)(hg:0<its.length->PV w g (its.map<|LB p)):
 μ F 94 #[K ao its.length cap,G p] w λr w'=>r=ε (I Q (Be its (λ_=>O) 0))/\Am w w':=by
 have v:C (∀i,i<its.length-> ∀W,Am w W->W.cell? ⟨g,i*6,O⟩=J (G<|p++(its.getD i BS).name)/\(∀W,(Instr.slice 9 (G<|p++(its.getD i BS).name) (J<|I Q (p.size:Z)) O O).run F W=ω (G (its.getD i BS).name) W)/\(its.getD i BS).name.size<=2000000):=λi hi W L=>by
  have h1:=((hg A).old L) i (by rw[wX];exact hi);rw[Mo p its i hi] at h1;have h2:=(b0 _<|ON its i hi).name;refine⟨h1.1,λW=>?_,A⟩;exact ahK
 have b1:C (∀i,i<its.length-> ∀W,Am w W->W.cell? ⟨g,i*6,O⟩=J (G<|p++(its.getD i BS).name)/\W.cell? ⟨g,i*6+4,O⟩=J (I Q ((its.getD i BS).size:Z))):=λi hi W L=>by
  have h1:=((hg A).old L) i (by rw[wX];exact hi);rw[Mo p its i hi] at h1;exact⟨h1.1,h1.2.2.2.2.1⟩
 have b2:C (∀i,i<its.length->(its.getD i BS).size<4294967296):=λi hi=>(b0 _<|ON its i hi).size
 have c3:=H a4;have b3:=H<|gX.start its;have b4:C (Gq ((its.take 0).map It.name) λ_=>O):=Gq.nil;have a5:=H (Ag.refl (λ_=>False) w);clear hg b0 a4;go_in;go_wp2;go_loopw [5,6,7,8,9,10,11] (λL S _ _ _ _ _ wr=>∃(i all:N) (f:Iw),i<=its.length/\L=I Q (all:Z)/\S=I Q (i:Z)/\C (gX its i f all)/\C (Gq ((its.take i).map It.name) f)/\C (Am w wr)) λ_ L _ _ _ _ _ _=>its.length-(intOf L).toNat
 .exact ⟨0,0,λ_=>O,A,rfl,rfl,b3,b4,a5⟩
 clear b3 b4 a5;obtain⟨i,all,f,hi,rfl,rfl,HS,HT,HO⟩:=hrel;have c4:=HS.all16;by_cases O6:i<its.length
 .have b5:(i:Z)<its.length:=A;have a4:=c3 A;subst a4;have a:=H<|b1 i O6;obtain⟨a6,a7,b6⟩:=v i O6 wr HO;have b7:=b2 i O6;have D:=H λh=>HS.fault O6 h;have N9:C<|DW f all (its.getD i BS)=0->gX its (i+1) (Jq f (its.getD i BS).name) (all+(its.getD i BS).size)/\Gq ((its.take<|i+1).map It.name) (Jq f (its.getD i BS).name):=λh=>by
   refine⟨HS.next O6 h,?_⟩;rw[aay,Wv O6,wV];have e:its.getD i BS=its[i]:=by rw[Wq,Wv O6];rfl
   rw[e] at h ⊢;exact HT.add (OC h).2.2.1
  have a0:=H λh1 h2=>aZ HT all (its.getD i BS) h1 h2;have a1:C<|CE (its.getD i BS).name=false\/TZ (its.getD i BS).name=true->DW f all (its.getD i BS)=4:=λh=>by
   unfold DW;rcases h with h|h
   .rw[Wz h]
   split
   .rfl
   first|rfl|(rw[h];rfl)
  have L:=H λW=>PA (its.getD i BS).name A W;have d:=H λW=>ou (its.getD i BS).name A W;rw[SH] at L;clear HS HT b1 b2;obtain⟨b,b9⟩:∃b,its.getD i BS=b:=⟨_,rfl⟩;rw[b9] at a a6 a7 b6 b7 D N9 a0 a1 L d;clear b9;obtain⟨nm,c0⟩:∃nm,b.name=nm:=⟨_,rfl⟩;obtain⟨sz,a9⟩:∃sz,b.size=sz:=⟨_,rfl⟩;rw[c0] at a a6 a7 b6 N9 a0 a1 L d;rw[a9] at a b7 N9 a0;clear c0 a9;have f1:((AQ nm).toList==[103,111,46,109,111,100])=decide (AQ nm=Fy):=Fw _ _;have f2:(nm.toList==[103,111,46,109,111,100])=decide (nm=Fy):=Fw _ _;have a5:=HO;obtain⟨pn,c1⟩:∃pn,p++nm=pn:=⟨_,rfl⟩;rw[c1] at a a6 a7;clear c1;obtain⟨fp,c2⟩:∃fp,CE nm=fp:=⟨_,rfl⟩;rw[c2] at L a0 a1;clear c2;cases fp with
  |false=>
   have hd:=a1 (.inl rfl);have HA:=H ((D<|by rw[hd];decide).trans hd);clear D N9 a0 a1 hd d f1 f2;go_wp2_with fail;refine(L _).mono ?_;rintro r w6 ⟨rfl,J6⟩;have m:=H<|Ag.trans HO J6;clear L J6;exact ajQ
  |true=>
   have a3:=H<|a0 rfl;have a8:C<|TZ nm=true->DW f all b=4:=λh=>a1 (.inr h)
   clear a0 a1;have a2:C<|TZ nm=(decide (nm≠Fy)&&decide (AQ nm=Fy)):=rfl;generalize TZ nm=ob at*;generalize AQ nm=lw at*;go_wp2_with fail;refine(L _).mono ?_;rintro r w5 ⟨rfl,I3⟩;have O3:=H<|Ag.trans HO I3;clear L I3 a6 a7 HO a5;by_cases S:lw=Fy
   .by_cases L:nm=Fy
    .have T:ob=false:=(by rw[X a2,Ww (show ¬nm≠Fy from λh=>h L)];rfl);have u:=H<|a3 T;clear a3;rw[Wy S] at f1;rw[Wy L] at f2;clear a8 a2 S L T;exact aeu
    have T:ob=true:=(by rw[X a2,Wy (show nm≠Fy from L),Wy S];rfl);have hd:=a8 T;have HA:=H ((D<|by rw[hd];decide).trans hd);rw[Wy S] at f1;rw[Ww L] at f2;clear a8 a2 S L T D N9 a3 hd;go_wp2_with fail;refine(d _).mono ?_;rintro r w6 ⟨rfl,J6⟩;have m:=H<|Ag.trans O3 J6;clear d J6 O3;exact ajQ
   have T:ob=false:=by rw[X a2,Ww S,Bool.and_false]
   have u:=H<|a3 T;clear a3;rw[Ww S] at f1;clear a8 a2 S T f2;exact aeu
 have:¬(i:Z)<its.length:=A;have HA:=H<|HS.end A;clear HS HT;exact afO
def eU(h:b<2^i):a*2^i|||b=a*2^i+b:=by
 rw[abg a,<-adN h]
def qd(b:N->N)(a:∀i,b i<256)(p:N):Ub b p=b p*65536+b (p+1)*256+b (p+2):=by
 have:=a p;have:=a<|p+1;have:=a<|p+2;unfold Ub;rw[show b p*65536|||b (p+1)*256=b p*65536+b (p+1)*256 from eU (i:=16) A,show b p*65536+b (p+1)*256=(b p*256+b (p+1))*256 by omega];rw[show(b p*256+b (p+1))*256|||b (p+2)=(b p*256+b (p+1))*256+b (p+2) from eU (i:=8) A]
def qe(x y:N)(a:y<256):x*65536|||y*256=x*65536+y*256:=eU (i:=16) A
def xU(d:N)(a:d<64):DX.extract d (d+1)=An [b8<|As DX d]:=by
 have:∀d:Fin 64,(DX.extract d.val<|d.val+1).data= #[b8<|As DX d.val]:=Ac;exact aaj<|this ⟨d,a⟩
def JC(l:E UInt8)(v p:N):An l++DX.extract (Qw v p) (Qw v p+1)=An (l++[b8<|Kn v p]):=by
 rw[xU _<|Lp v p,AF];rfl
def KM(n p:N)(hp:p<3):Qw (64*n) p=n/2^(12-6*p)%64:=by
 unfold Qw
 match p,hp with
 |0,_=>simp;omega
 |1,_=>simp;omega
 |2,_=>simp
def Tx(s:Y):Y:=LF (GQ (Ex s) ((Ex s).size/64)) 8
def eV(s:Y):(Tx s).size=32:=Mt _ 8
def ti(s:Y)(q:N)(a:q<32):As (Tx s) q=Rq (DJ s) q:=by
 unfold Tx Rq DJ;rw[ZD _ 8 q A,LE,UQ,Qi]
def qg{b c:N->N}(j:N)(h:∀q,q<3*j->b q=c q):Ic b j=Ic c j:=by
 induction j with
 |zero=>simp[Ic]
 |succ j a=>
  have d:=h (3*j) A;have e:=h (3*j+1) A;have f:=h (3*j+2) A;rw[KI,KI,a λq _=>h q A,Ub,Ub,d,e,f]
def qh{b c:N->N}(h:∀q,q<32->b q=c q):KK b=KK c:=by
 unfold KK;rw[qg 10 λq _=>h q A,h 30 A,h 31 A]
def qj(s:Y):KK (As<|Tx s)=KK (Rq<|DJ s):=qh λq a=>ti s q a
def FX:DX.size=64:=Ac
def DN(d:N)(b:d<64)(a:U):(Instr.slice 9 (G DX) (J<|I Q (d:Z)) (J<|I Q ((d:Z)+1)) O).run F a=ω (G<|DX.extract d (d+1)) a:=by
 have h:=abN (P:=F) a 9 DX Q Q (d:Z) ((d:Z)+1) underlying9 A A (by rw[FX];omega);rw[h,ww,show((d:Z)+1).toNat=d+1 by omega]
def ym:N->Z
 |0=>262144
 |1=>4096
 |2=>64
 |3=>1
 |_=>0
def zJ:N->Z
 |0=>4096
 |1=>64
 |2=>1
 |_=>0
def qk(s:Y)(hs:s.size=32)(w:U):μ F 98 #[G s] w λr w'=>r=ε (G<|An (KK<|As s))/\Am w w':=by
 have z:C<|KK (As s)=Ic (As s) 10++GM (64*(As s 30*1024+As s 31*4)) 3++[61]:=by
  unfold C KK;rw[qe _ _<|Bj s 31,show 64*(As s 30*1024+As s 31*4)=As s 30*65536+As s 31*256 by omega]
 have a2:C (∀p,Ub (As s) p=As s p*65536+As s (p+1)*256+As s (p+2)):=λp=>qd _ (λi=>Bj s i) p
 have T:=H (Ag.refl (λ_=>False) w);go_in;go_wp2;go_loopw [4,5,6,7,8] (λo c _ _ _ wr=>∃x b:N,x<=10/\b=3*x/\c=I Q (b:Z)/\o=G (An<|Ic (As s) x)/\C (Am w wr)) λ_ c _ _ _ _=>30-(intOf c).toNat
 .exact ⟨0,0,A,rfl,rfl,rfl,T⟩
 clear T;obtain⟨x,b,hj,y,rfl,rfl,HO⟩:=hrel;by_cases a3:x<10
 .have:(b:Z)<30:=A;obtain⟨D,a0⟩:∃D,b+1=D:=⟨_,rfl⟩;obtain⟨P,a1⟩:∃P,b+2=P:=⟨_,rfl⟩;have:(b:Z)+1=(D:Z):=A;have:(b:Z)+2=(P:Z):=A;have a4:=Bj s b;have a5:=Bj s D;have:=Bj s P;have l0:b<s.size:=A;have l1:D<s.size:=A;have T:P<s.size:=A;have a6:(b:Z)<s.size:=A;have a7:(D:Z)<s.size:=A;have:(P:Z)<s.size:=A;have g0:=AA l0;have g1:=AA l1;have:=AA T;have ht:=a2 b;rw[a0,a1] at ht;have R:=H<|KI (As s) x;rw[<-y] at R;obtain⟨v,hv⟩:∃v,Ub (As s) b=v:=⟨_,rfl⟩;rw[hv] at ht R;clear hv;have a8:(Ic (As s) x).length<=100:=alw
  generalize Ic (As s) x=L,As s b=c0,As s D=c1,As s P=c2 at*;have a9:(c0:Z)*65536+(c1:Z)*256+(c2:Z)=v:=A;have b0:v<16777216:=A;have b1:=H y;clear a0 a1 ht y;go_wp2_with fail;go_quiet (fail);go_wp2_with fail;go_loop [4,7,8] (λo c _=>∃p:N,p<=4/\c=I Q (ym p)/\o=G (An<|L++GM v p)) λ_ c _=>(intOf c).toNat
  .exact ⟨0,A,rfl,by rw[show GM v 0=[] from rfl,wS]⟩
  obtain⟨p,hp,rfl,rfl⟩:=hrel;have S:p=0\/p=1\/p=2\/p=3\/p=4:=A;obtain⟨l,q⟩:∃l,L++GM v p=l:=⟨_,rfl⟩;have b2:l.length<=1000:=by rw[<-q,Ws,JA];omega
  rw[q];rcases S with rfl|rfl|rfl|rfl|rfl
  .have h:ym 0=262144:=rfl;rw[h];obtain⟨b,e⟩:∃b,Qw v 0=b:=⟨_,rfl⟩;have g:b<64:=by rw[<-e];exact Lp v 0
   have j:(v:Z)/262144%64=(b:Z):=by rw[<-e];unfold Qw;simp
   have k:((v:Z)/262144%64)=(b:Z):=by rw[<-e];unfold Qw;simp
   have f:=λd=>DN b g d
   have m:(0:Z)<=(b:Z):=A;have n:(b:Z)+1<=64:=A;have c:=H<|JC l v 0;rw[e] at c;have t:(DX.extract b<|b+1).size=1:=alf
   have i:∀d,(Op.stringOp .add (An l)<|DX.extract b (b+1)).run F d=ω (G<|An (l++[b8<|Kn v 0])) d:=λd=>by rw[<-X c];exact WR d _ _ ala
   have a:=H<|FW v 0;clear e c;generalize b8 (Kn v 0)=u,DX.extract b (b+1)=ex at*;exact aif
  .have h:ym 1=4096:=rfl;rw[h];obtain⟨b,e⟩:∃b,Qw v 1=b:=⟨_,rfl⟩;have g:b<64:=by rw[<-e];exact Lp v 1
   have j:(v:Z)/4096%64=(b:Z):=by rw[<-e];unfold Qw;simp
   have k:((v:Z)/4096%64)=(b:Z):=by rw[<-e];unfold Qw;simp
   have f:=λd=>DN b g d
   have m:(0:Z)<=(b:Z):=A;have n:(b:Z)+1<=64:=A;have c:=H<|JC l v 1;rw[e] at c;have t:(DX.extract b<|b+1).size=1:=alf
   have i:∀d,(Op.stringOp .add (An l)<|DX.extract b (b+1)).run F d=ω (G<|An (l++[b8<|Kn v 1])) d:=λd=>by rw[<-X c];exact WR d _ _ ala
   have a:=H<|FW v 1;clear e c;generalize b8 (Kn v 1)=u,DX.extract b (b+1)=ex at*;exact aig
  .have h:ym 2=64:=rfl;rw[h];obtain⟨b,e⟩:∃b,Qw v 2=b:=⟨_,rfl⟩;have g:b<64:=by rw[<-e];exact Lp v 2
   have j:(v:Z)/64%64=(b:Z):=by rw[<-e];unfold Qw;simp
   have k:((v:Z)/64%64)=(b:Z):=by rw[<-e];unfold Qw;simp
   have f:=λd=>DN b g d
   have m:(0:Z)<=(b:Z):=A;have n:(b:Z)+1<=64:=A;have c:=H<|JC l v 2;rw[e] at c;have t:(DX.extract b<|b+1).size=1:=alf
   have i:∀d,(Op.stringOp .add (An l)<|DX.extract b (b+1)).run F d=ω (G<|An (l++[b8<|Kn v 2])) d:=λd=>by rw[<-X c];exact WR d _ _ ala
   have a:=H<|FW v 2;clear e c;generalize b8 (Kn v 2)=u,DX.extract b (b+1)=ex at*;exact aih
  .have h:ym 3=1:=rfl;rw[h];obtain⟨b,e⟩:∃b,Qw v 3=b:=⟨_,rfl⟩;have g:b<64:=by rw[<-e];exact Lp v 3
   have j:(v:Z)/1%64=(b:Z):=by rw[<-e];unfold Qw;simp
   have k:((v:Z)%64)=(b:Z):=by rw[<-e];unfold Qw;simp
   have f:=λd=>DN b g d
   have m:(0:Z)<=(b:Z):=A;have n:(b:Z)+1<=64:=A;have c:=H<|JC l v 3;rw[e] at c;have t:(DX.extract b<|b+1).size=1:=alf
   have i:∀d,(Op.stringOp .add (An l)<|DX.extract b (b+1)).run F d=ω (G<|An (l++[b8<|Kn v 3])) d:=λd=>by rw[<-X c];exact WR d _ _ ala
   have a:=H<|FW v 3;clear e c;generalize b8 (Kn v 3)=u,DX.extract b (b+1)=ex at*;unfold DX at f;go_wp2_with fail;go_round
   .exact ⟨4,A,rfl,by rw[X a,<-WG,q]⟩
   simp[intOf]
  have h:ym 4=0:=rfl;rw[h];have D:C<|Ic (As s) (x+1)=l:=by unfold C;rw[X R,q]
  go_wp2;go_roundw
  .exact ⟨x+1,b+3,A,by have:=X b1;omega,by go_num,by rw[X D],HO.drewN _⟩
  exact Ae
 have b3:b=30:=A;have b4:x=10:=A;subst b3 b4;have:=Bj s 30;have:=Bj s 31;have l0:30<s.size:=A;have l1:31<s.size:=A;have:(30:Z)<(s.size:Z):=A;have:(31:Z)<(s.size:Z):=A;have:=AA l0;have:=AA l1;obtain⟨v,hv⟩:∃v,As s 30*1024+As s 31*4=v:=⟨_,rfl⟩;rw[hv] at z;have:(Ic (As s) 10).length<=100:=alw
 generalize Ic (As s) 10=L,As s 30=c0,As s 31=c1 at*;have:(c0:Z)*1024+(c1:Z)*4=(v:Z):=A;have:v<16777216:=A;clear hv y hj a3;go_wp2_with fail;go_quiet (fail);go_wp2_with fail;go_loop [4,10,11] (λo x _=>∃p:N,p<=3/\x=I Q (zJ p)/\o=G (An<|L++GM (64*v) p)) λ_ x _=>(intOf x).toNat
 .exact ⟨0,A,rfl,by rw[show GM (64*v) 0=[] from rfl,wS]⟩
 obtain⟨p,hp,rfl,rfl⟩:=hrel;have S:p=0\/p=1\/p=2\/p=3:=A;obtain⟨l,q⟩:∃l,L++GM (64*v) p=l:=⟨_,rfl⟩;have:l.length<=1000:=by rw[<-q,Ws,JA];omega
 rw[q];rcases S with rfl|rfl|rfl|rfl
 .have h:zJ 0=4096:=rfl;rw[h];obtain⟨b,e⟩:∃b,Qw (64*v) 0=b:=⟨_,rfl⟩;have g:b<64:=by rw[<-e];exact Lp (64*v) 0
  have j:(v:Z)/4096%64=(b:Z):=by rw[<-e,KM v 0 A];simp
  have k:((v:Z)/4096%64)=(b:Z):=by rw[<-e,KM v 0 A];simp
  have f:=λd=>DN b g d
  have m:(0:Z)<=(b:Z):=A;have n:(b:Z)+1<=64:=A;have c:=H<|JC l (64*v) 0;rw[e] at c;have t:(DX.extract b<|b+1).size=1:=alf
  have i:∀d,(Op.stringOp .add (An l)<|DX.extract b (b+1)).run F d=ω (G<|An (l++[b8<|Kn (64*v) 0])) d:=λd=>by rw[<-X c];exact WR d _ _ ala
  have a:=H<|FW (64*v) 0;clear e c;generalize b8 (Kn (64*v) 0)=u,DX.extract b (b+1)=ex at*;exact aif
 .have h:zJ 1=64:=rfl;rw[h];obtain⟨b,e⟩:∃b,Qw (64*v) 1=b:=⟨_,rfl⟩;have g:b<64:=by rw[<-e];exact Lp (64*v) 1
  have j:(v:Z)/64%64=(b:Z):=by rw[<-e,KM v 1 A];simp
  have k:((v:Z)/64%64)=(b:Z):=by rw[<-e,KM v 1 A];simp
  have f:=λd=>DN b g d
  have m:(0:Z)<=(b:Z):=A;have n:(b:Z)+1<=64:=A;have c:=H<|JC l (64*v) 1;rw[e] at c;have t:(DX.extract b<|b+1).size=1:=alf
  have i:∀d,(Op.stringOp .add (An l)<|DX.extract b (b+1)).run F d=ω (G<|An (l++[b8<|Kn (64*v) 1])) d:=λd=>by rw[<-X c];exact WR d _ _ ala
  have a:=H<|FW (64*v) 1;clear e c;generalize b8 (Kn (64*v) 1)=u,DX.extract b (b+1)=ex at*;exact aig
 .have h:zJ 2=1:=rfl;rw[h];obtain⟨b,e⟩:∃b,Qw (64*v) 2=b:=⟨_,rfl⟩;have g:b<64:=by rw[<-e];exact Lp (64*v) 2
  have:(v:Z)/1%64=(b:Z):=by rw[<-e,KM v 2 A];simp
  have:((v:Z)%64)=(b:Z):=by rw[<-e,KM v 2 A];simp
  have f:=λd=>DN b g d
  have:(0:Z)<=(b:Z):=A;have:(b:Z)+1<=64:=A;have c:=H<|JC l (64*v) 2;rw[e] at c;have:(DX.extract b<|b+1).size=1:=alf
  have i:∀d,(Op.stringOp .add (An l)<|DX.extract b (b+1)).run F d=ω (G<|An (l++[b8<|Kn (64*v) 2])) d:=λd=>by rw[<-X c];exact WR d _ _ ala
  have a:=H<|FW (64*v) 2;clear e c;generalize b8 (Kn (64*v) 2)=u,DX.extract b (b+1)=ex at*;exact aih
 have h:zJ 3=0:=rfl;rw[h];have b:C<|KK (As s)=l++[61]:=by unfold C;rw[X z,q]
 have:∀d,(Op.stringOp .add (An l) ⟨#[61]⟩).run F d=ω (G<|An (l++[61])) d:=λd=>by rw[<-AF];exact WR d _ _<|by rw[AG];show l.length+1<=_;omega
 have d:C<|An (KK<|As s)=An (l++[61]):=by unfold C;rw[X b]
 clear b;generalize An (l++[61])=zz at*;go_wp2;go_ret;exact⟨by rw[X d];rfl,HO.drewN _⟩
