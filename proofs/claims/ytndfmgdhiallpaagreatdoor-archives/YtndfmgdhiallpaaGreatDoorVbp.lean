import Derived.Test.YtndfmgdhiallpaaGreatDoorVbo
set_option linter.all false
set_option maxRecDepth 100000
set_option maxHeartbeats 16000000
open _root_ renaming Option.some->J,Option.none->O,Int->Z,Nat->N,Go.Value.int->I,Go.Value.string->G,Go.IntKind.i64->Q,ByteArray->Y,List->E,Go.World->U,Go.Value.slice->K,Go.Value->β,Go.Obj.cells->γ,Go.Value.pointer->δ
namespace Go.Proofs.YtndfmgdhiallpaaGreatDoor
open Go.RowKit Go.Maps Go.Proofs.Tryz
def CZ(its:E CQ)(e:its.length<=70)(a: ∀x∈its,x.ok):(Bp its).size<=1000000000:=by
 obtain⟨b,c⟩:=PH its a its.length (rj _);have d:(An (endL its.length (Lv its its.length).2.size (Lv its its.length).1.size)).size<=100:=by rw[AE];simp[endL,AF,Bq,CF];decide
 rw[Bp,rg,rg];omega
def Nc.at{w:U}{g:N}{its:E CQ}(h:Nc w g its){i c:N}(j:i<its.length)(k:c<6):w.cell? ⟨g,i*6+c,O⟩=(DS (its.getD i Cu))[c]? :=by
 obtain⟨h0,a,b,d,e,f⟩:=h i j;have:c=0\/c=1\/c=2\/c=3\/c=4\/c=5:=Aa;rcases this with rfl|rfl|rfl|rfl|rfl|rfl
 .exact h0
 .exact a
 .exact b
 .exact d
 .exact e
 exact f
def Nc.upd{w:U}{g k j:N}{its:E CQ}{v:β}{x:CQ}(h:Nc w g its)(u:k<its.length)(t:j<6){l:Array β}{e:TypeId}(p:w.heap[g]? =J (γ l e (0,0)))(s: ∀c,c<6->(DS x)[c]? =if c=j then J v else(DS (its.getD k Cu))[c]?):Nc (w.setCell ⟨g,k*6+j,O⟩ v) g (its.set k x):=by
 have r:=ru w g (k*6+j) _ _ v p;have d: ∀i,i<its.length-> ∀c,c<6->(w.setCell ⟨g,k*6+j,O⟩ v).cell? ⟨g,i*6+c,O⟩=(DS ((its.set k x).getD i Cu))[c]? :=by
  intro i f c d;have a:=h.at f d;rw[qV w g _ _ _ (0,0) p] at a;rw[qV _ g _ _ _ (0,0) r];have q:(DS (its.getD i Cu)).length=6:=rfl;have o:i*6+c<l.size:=by
   rw[qY (by rw[q];exact d)] at a;exact(qW.1 a).1
  by_cases n:i=k
  .subst n;have b:(its.set i x).getD i Cu=x:=by rw[qT,List.getElem?_set_self f];rfl
   rw[b,s c d];by_cases m:c=j
   .subst m;rw[rd rfl,sD o]
   rw[rc m,rq Aa,a]
  have b:(its.set k x).getD i Cu=its.getD i Cu:=by rw[qT,List.getElem?_set_ne (Ne.symm n),<-qT]
  rw[b,rq Aa,a]
 intro i f;rw[rK] at f;exact⟨d i f 0 Aa,d i f 1 Aa,d i f 2 Aa,d i f 3 Aa,d i f 4 Aa,d i f 5 Aa⟩
def IH{its:E CQ}{k:N}{x:CQ}(h: ∀y∈its,CQ.ok y)(a:CQ.ok x): ∀y∈its.set k x,CQ.ok y:=λy b=>by
 rcases List.mem_or_eq_of_mem_set b with h1|h1
 .exact h y h1
 rw[h1];exact a
def cE(x:CQ):Prop:=x.nm.size<=3400000/\x.way<=100/\x.ck<=4294967296/\x.pk<=1200000/\x.ln<=1200000/\x.sp.size<=1200000
def kV{w1:U}{b c:N}{S:WS}{RF RL RT:E (β×Y)}(a7:S.m.size<=1100000)(a8:S.v.size<=1100000)(C p q:Z)(hq1: -9223372036854775808<=q)(hq2:q<=9223372036854775807)(s t:Y)(x:β)(fo:Option Addr)(a:N)(l:Addr)(fs:E Fl)(b3:fs.length<=1100000)(hfz: ∀f∈fs,f.1.size<=1100000/\f.2.size<=1100000)(B:0<fs.length->fo=J l)(w:U)(h:CD w1 w b c S RF RL RT)(hf: ∀W,Ag (λk=>k=b) w1 W->Dw W l fs):
 Calls prog 66 #[δ (J ⟨b,0,O⟩),.agg (Df C p q s t x (K fo fs.length a))] w λr w' =>r=.returned (.tuple #[])/\Vz w1 w' b c S RF RL RT 1000000000:=by
 have hA:Al w (w.alloc (γ (Df C p q s t x (K fo fs.length a)) 79)):=(Ag.refl _ w).alloc _;have hL:=h.old hA;have HL:=Af hL
 have HOP:Hid (DR (w.alloc (γ (Df C p q s t x (K fo fs.length a)) 79)) w.heap.size 79 7 (λj=>(Df C p q s t x (K fo fs.length a)).getD j undef)):=DR.new w _ _ 7 _ (by rw[Df];exact rj _) (λj hj=>by
  have:j=0\/j=1\/j=2\/j=3\/j=4\/j=5\/j=6:=Aa;rcases this with rfl|rfl|rfl|rfl|rfl|rfl|rfl<;>rfl)
 have H:(w.alloc (γ (Df C p q s t x (K fo fs.length a)) 79)).cell? ⟨b,0,O⟩=J (G S.m):=by rw[qV _ b 0 _ _ (0,0) hL.hp];rfl
 have P:(w.alloc (γ (Df C p q s t x (K fo fs.length a)) 79)).cell? ⟨b,1,O⟩=J (G S.v):=by rw[qV _ b 1 _ _ (0,0) hL.hp];rfl
 have b2:=hL.inb;have HFIN:Hid (∀(V:U) (z:Y),Al (w.alloc (γ (Df C p q s t x (K fo fs.length a)) 79)) V->z.size<=1000000000->Vz w1 (V.setCell ⟨b,2,O⟩ (G z)) b c S RF RL RT 1000000000):=λV z ho hz=>Wt
 have HREC:Hid (∀V:U,Al (w.alloc (γ (Df C p q s t x (K fo fs.length a)) 79)) V->V.cell? ⟨b,2,O⟩=J (G S.ar)/\V.frozen? ⟨b,2,O⟩=false):=λV ho=>by
  have hLn:=hL.old ho;exact⟨by rw[qV _ b 2 _ _ (0,0) hLn.hp];rfl,rp _ b 2 _ _ hLn.hp⟩
 have HF:=Af hf;have a4:Hid (∀i,i<fs.length->(fs.getD i default).1.size<=1100000/\(fs.getD i default).2.size<=1100000):=λi hi=>abf
 have a3:=Af B;have A:=Af (λW=>Mf S.m S.v Aa Aa W);have a2:(((S.m++⟨#[64]⟩)++S.v)++⟨#[47]⟩).size<=2200002:=by rw[rg,rg,rg];show S.m.size+1+S.v.size+1<=_;omega
 clear h hf hfz B hA hL;unfold Df at*;obtain⟨M,hM⟩: ∃M,S.m=M:=⟨_,rfl⟩;obtain⟨V,hV⟩: ∃V,S.v=V:=⟨_,rfl⟩;rw[hM] at H A a2;rw[hV] at P A a2;clear hM hV a7 a8;generalize((M++⟨#[64]⟩)++V)++⟨#[47]⟩=pf at*;go_in;go_wp2_with fail;generalize w.alloc (γ #[I Q C,I Q p,I Q q,G s,G t,x,K fo fs.length a] 79)=W at*;generalize w.heap.size=ob at*;have HSW:W.drew.cell? ⟨b,0,O⟩=J (G M)/\W.drew.cell? ⟨b,1,O⟩=J (G V)/\True:=⟨H,P,trivial⟩;refine Ai (S:=λX=>X.cell? ⟨b,0,O⟩=J (G M)/\X.cell? ⟨b,1,O⟩=J (G V)/\True) (L:=9) Ab ?_;refine tk 0 10 (δ (J ⟨b,0,O⟩)) 11 HSW ?_;refine tk 1 10 (δ (J ⟨b,0,O⟩)) 12 HSW ?_;refine tk 2 10 (δ (J ⟨b,0,O⟩)) 13 HSW ?_;refine tk 3 10 (G M) 14 HSW ?_;refine tk 4 10 (δ (J ⟨b,0,O⟩)) 15 HSW ?_;refine tk 5 10 (δ (J ⟨b,0,O⟩)) 16 HSW ?_;refine tk 6 10 (δ (J ⟨b,1,O⟩)) 17 HSW ?_;refine tk 7 10 (G V) 18 HSW ?_;refine Ah (i:=8) Ab ?_;refine ri rfl (λK' hK=> ?_);go_simp;refine(A _).mono ?_;rintro r w2 ⟨rfl,rfl⟩;refine hK _ _ ⟨λ_=>HSW, ?_⟩;clear hK;refine Ah (i:=9) Ab ?_;refine ri rfl (λK' hK=> ?_);go_simp;refine hK _ _ ⟨λh=>absurd rfl h, ?_⟩;clear hK;refine Am Ab ?_;have a6:Hid (Al W W.drew):=(Ag.refl _ W).drew;have F:Hid (∀x∈([]:E CQ),cE x):=λx hx=>by cases hx
 clear HSW A;go_wp2;go_loopw [4,6,7,8,9] (λu xi _ _ _ wr=> ∃(i:N) (its:E CQ) (ao:Option Addr) (cap:N),i<=fs.length/\i<=70/\xi=I Q (i:Z)/\u=K ao its.length cap/\Hid (Qe W.drew wr (K ao its.length cap) its)/\Hid (∀x∈its,cE x)/\Hid (its.length=i)) (λ_ xi _ _ _ _=>70- (intOf xi).toNat)
 .exact ⟨0,[],O,0,Aa,Aa,rfl,rfl,Qe.start (Ag.refl _ _),F,rfl⟩
 clear F;obtain⟨i,its,ao,cap,hi,b0,rfl,rfl,HN,HK,HLE⟩:=hrel;have b5:its.length<=70:=by have:=uh HLE;omega
 have HOW:=Af (a6.trans HN.2.2);have d6:wr.cell? ⟨ob,6,O⟩=J (K fo fs.length a):=(HOP.old (uh HOW)).cell 6 Aa;by_cases T:i<fs.length
 .have a0:(i:Z)<(fs.length:Z):=Aa;by_cases b4:i<70
  .have R:(i:Z)<70:=Aa;have B:=a3 Aa;subst B;obtain⟨c1,c2⟩:=HF wr (HL.old (uh HOW)).only i T;obtain⟨b6,b7⟩:=a4 i T;generalize fs.getD i default=f at*;obtain⟨nm,d⟩:=f;simp only at*;have HCK:=Af (λW=>Fb d W (by unfold maxLen;omega));have a9:=EG d;generalize Bz d=ck at*;have a1: ∀W,(Op.stringOp .add pf nm).run prog W=.ok (G (pf++nm)) W:=λW=>ry W _ _ Aa
   obtain⟨pn,D⟩: ∃pn,pf++nm=pn:=⟨_,rfl⟩;have b1:pn.size<=3400000:=by rw[<-D,rg];omega
   rw[D] at a1;clear D;have HSW:wr.drew.cell? ⟨ob,6,O⟩=J (K (J l) fs.length a)/\wr.drew.cell? (l.add (i*2))=J (G nm)/\True:=⟨d6,c1,trivial⟩;have hS2: ∀o,(wr.drew.alloc o).cell? ⟨ob,6,O⟩=J (K (J l) fs.length a)/\(wr.drew.alloc o).cell? (l.add (i*2))=J (G nm)/\True:=λo=>⟨Ao (((Ag.refl _ wr).drew).alloc o) d6,Ao (((Ag.refl _ wr).drew).alloc o) c1,trivial⟩
   go_wp2_with fail;refine Ai (S:=λX=>X.cell? ⟨ob,6,O⟩=J (K (J l) fs.length a)/\X.cell? (l.add (i*2))=J (G nm)/\True) (L:=18) Ab ?_;refine tk 0 19 (G pf) 37 HSW ?_;refine tk 1 19 (δ (J ⟨ob,6,O⟩)) 38 HSW ?_;refine tk 2 19 (K (J l) fs.length a) 39 HSW ?_;refine tk 3 19 (I Q (i:Z)) 40 HSW ?_;refine tk 4 19 (δ (J (l.add (i*2)))) 41 HSW ?_;refine tk 5 19 (δ (J (l.add (i*2)))) 42 HSW ?_;refine tk 6 19 (G nm) 43 HSW ?_;refine tk 7 19 (G pn) 44 HSW ?_;refine tk 8 19 (G d) 45 HSW ?_;refine tk 10 19 (G d) 47 HSW ?_;refine tk 11 19 (I Q (d.size:Z)) 48 HSW ?_;refine tk 12 19 (G d) 49 HSW ?_;refine tk 13 19 (I Q (d.size:Z)) 50 HSW ?_;refine tk 15 19 (G d) 52 HSW ?_;refine Lh (i:=9) (j:=17) Ab ?_ ?_
   .refine ri rfl (λK' hK=> ?_);go_simp;refine(HCK _).mono ?_;rintro r w3 ⟨rfl,rfl⟩;refine hK _ _ ⟨λ_=>HSW, ?_⟩;clear hK;refine tk 14 19 (.agg #[G pn,I Q 0,I Q (ck:Z),I Q (d.size:Z),I Q (d.size:Z)]) 51 HSW ?_;refine tk 16 19 (.agg #[G pn,I Q 0,I Q (ck:Z),I Q (d.size:Z),I Q (d.size:Z),G d]) 53 HSW ?_;refine Ah (i:=17) Ab ?_;refine ri rfl (λK' hK=> ?_);go_simp;refine hK _ _ ⟨λ_=>hS2 _, ?_⟩;clear hK;exact yL
   refine ri rfl (λK' hK=> ?_);go_simp;refine hK _ _ ⟨λ_=>hS2 _, ?_⟩;clear hK;refine Ah (i:=9) Ab ?_;refine ri rfl (λK' hK=> ?_);go_simp;refine(HCK _).mono ?_;rintro r w3 ⟨rfl,rfl⟩;refine hK _ _ ⟨λ_=>hS2 _, ?_⟩;clear hK;refine tk 14 19 (.agg #[G pn,I Q 0,I Q (ck:Z),I Q (d.size:Z),I Q (d.size:Z)]) 51 (hS2 _) ?_;refine tk 16 19 (.agg #[G pn,I Q 0,I Q (ck:Z),I Q (d.size:Z),I Q (d.size:Z),G d]) 53 (hS2 _) ?_;exact yL
  have R:¬(i:Z)<70:=Aa;exact yN
 have a0:¬(i:Z)<(fs.length:Z):=Aa;exact yN
