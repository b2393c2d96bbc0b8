import Derived.Test.YtndfmgdhiallpaaGreatDoorVar
import Derived.Test.YtndfmgdhiallpaaGreatDoorVbb
set_option linter.all false
set_option maxRecDepth 100000
set_option maxHeartbeats 8000000
open _root_ renaming Option.some->J,Option.none->O,Int->Z,Nat->N,Go.Value.int->I,Go.Value.string->G,Go.IntKind.i64->Q,ByteArray->Y,List->E,Go.World->U,Go.Value.slice->K,Go.Value->β,Go.Obj.cells->γ,Go.Value.pointer->δ,Go.Value.bool->ζ,Bool.false->ι,Go.TypeId->ν,Array->φ,Go.RowKit.Hid->χ
namespace Go.Proofs.YtndfmgdhiallpaaGreatDoor
open Go.RowKit Go.Proofs.Tryz
def De.old{w w' :U}(h:De w)(a:Al w w'):De w' :=h.kept a (λx=>x)
def Zu(w:U):Prop:=KC w/\De w
def Zu.old{w w' :U}(h:Zu w)(a:Al w w'):Zu w' :=⟨h.1.old a,h.2.old a⟩
def nH:prog.globalNamed "valise/inflate.order" =J 1:=Ab
def nI:(prog.globals[1]?).map (·.type)=J 313:=Ab
def qO:prog.cellsOf 3=1:=Ab
def lV{W:U}(h:laidMetH prog Qx W):De W:=by
 rw[MakeChecks.laidMetH_plain _ _ _ Ab] at h;obtain⟨M,⟨g,t,C,f,p,q,_,_,_,_,⟨F,R,a,D,L,P,b,k,l,e,_,_⟩,_⟩,_,_⟩:=h;obtain rfl:=rD (nH.symm.trans b);obtain rfl:=rD (nI.symm.trans k);obtain⟨o,m,_,y,_,H,i⟩:=DataW.trod_array underlying313 e;have x:(o.map (·.1))=Cx.map λn:N=>(DataW.lit (.int Q (n:Z)):DataW Unit):=(DataW.agg.inj (Prod.mk.inj y).1).symm
 have u:Cx.length=19:=rfl;have c: ∀j,j<19->W.cell? ⟨1,j,O⟩=J (I Q (Cx.getD j 0:N)):=by
  intro r A;have s:=i r A;rw[qO,ug,qY Aa] at s;obtain⟨z,v,w,_⟩:=xc underlying3 s;have d:(o.map (·.1))[r]? =(Cx.map λn:N=>(DataW.lit (.int Q (n:Z)):DataW Unit))[r]? :=by rw[x]
  rw[tt,tt,qY (by omega:r<o.length),qY (by omega:r<Cx.length),w] at d;have B:z=(Cx.getD r 0:N):=by
   simp only[uo,yg,vU,xY,true_and] at d;rw[d,List.getD,qY (by omega:r<Cx.length)];rfl
  rw[World.var?_cell b l r,<-B];have:a.toList[r]? =J (I Q z):=by
   have h0:((a.toList.drop r).take 1)[0]? =J (I Q z):=by rw[v];rfl
   simpa using h0
  simpa using this
 refine⟨?_,c⟩;have:=c 0 Aa;rcases sb 1 W.heap.size with h|h
 .exact h
 simp[World.cell?,se h] at this
open Go.RowKit Go.Maps Go.Proofs.Tryz
abbrev wT:ν:=77
structure WS where
 m:Y
 v:Y
 ar:Y
 pd:β
 pr:β
 r5:β
 r6:β
 r7:β
 r8:β
 r9:β
 r10:β
 z:U
def WS.cs(s:WS)(c:N):φ β:= #[G s.m,G s.v,G s.ar,s.pd,s.pr,s.r5,s.r6,s.r7,s.r8,s.r9,s.r10,I Q (c:Z)]
def fY(s:WS)(c:N)(hc:c<=1000000000)(b:N)(w:U)(h:w.heap[b]? =J (γ (s.cs c) wT (0,0))):
 Calls prog 203 #[δ (J ⟨b,0,O⟩)] w λr w' => ∃z:Y,r=.returned (G z)/\Ag (λk=>k=b) w w' /\w'.heap[b]? =J (γ (s.cs (c+1)) wT (0,0)):=by
 have M:b<w.heap.size:=(qW.1 h).1;have f:w.cell? ⟨b,11,O⟩=J (I Q (c:Z)):=by rw[qV w b 11 _ _ (0,0) h];rfl
 have g:=rp w b 11 _ _ h;have e:=ru w b 11 _ _ (I Q ((c:Z)+1)) h;have H:χ ((w.setCell ⟨b,11,O⟩ (I Q ((c:Z)+1))).heap[b]? =J (γ (s.cs (c+1)) wT (0,0))):=e;have C:χ (Ag (λk=>k=b) w (w.setCell ⟨b,11,O⟩ (I Q ((c:Z)+1)))):=Ap w b 11 _;clear h e;go_in;go_wp2_with fail;generalize w.setCell ⟨b,11,O⟩ (I Q ((c:Z)+1))=W at*;have D:χ (Al W W):=Ag.refl _ W;clear f g;have a: ∃q:N,q<=1000000001/\(c:Z)+1=(q:Z):=⟨c+1,Aa,Aa⟩;obtain⟨T,a,m⟩:=a;rw[m];clear m;go_loopw [3,4,5] (λt n x wr=> ∃(k q:N) (z:Y),k<=7/\q<=1000000001/\z.size<=k+1/\t=G z/\n=I Q (q:Z)/\x=I Q (k:Z)/\χ (Al W wr)) (λ_ _ x _=>7- (intOf x).toNat)
 .exact ⟨0,T,⟨#[35]⟩,Aa,a,rj _,rfl,rfl,rfl,D⟩
 obtain⟨k,q,z,hk,hq,hz,rfl,rfl,rfl,u⟩:=hrel;clear D a;by_cases R:k<7
 .have i:(k:Z)<7:=Aa;obtain⟨o,S⟩: ∃o,q/16=o:=⟨_,rfl⟩;obtain⟨d,hd⟩: ∃d,97+q%16=d:=⟨_,rfl⟩;have y:d<256:=Aa;have X:(q:Z).tmod 16=(d:Z)- 97:=by rw[tJ Aa];omega
  have e2:(q:Z).tdiv 16=(o:Z):=by rw[ya Aa];omega
  have e3:(97:Z)+((d:Z)- 97)=(d:Z):=Aa;have l:o<=1000000001:=Aa;have p:χ (Al W (wr.alloc (γ #[I .u8 (d:Z)] 5))):=u.alloc _;have v:(convert 62 9 (K (J ⟨wr.heap.size,0,O⟩) 1 1)).run prog (wr.alloc (γ #[I .u8 (d:Z)] 5))=.ok (G ⟨[b8 d].toArray⟩) (wr.alloc (γ #[I .u8 (d:Z)] 5)):=
   uI _ 62 9 5 ⟨wr.heap.size,0,O⟩ 1 [b8 d] underlying62 underlying5 underlying9 (λj P=>by
    have A:j=0:=(by simpa using P);subst A;rw[rH,qV _ _ (0+0) _ _ (0,0) (rh wr _)];simp[AL y])
  have F: ∀V,(Op.stringOp .add z ⟨[b8 d].toArray⟩).run prog V=.ok (G (z++⟨[b8 d].toArray⟩)) V:=λV=>ry V _ _ (by have L:(⟨[b8 d].toArray⟩:Y).size=1:=rfl;omega)
  have B:(z++⟨[b8 d].toArray⟩).size<=k+1+1:=by rw[rg];have L:(⟨[b8 d].toArray⟩:Y).size=1:=rfl;omega
  generalize z++(⟨[b8 d].toArray⟩:Y)=z2 at*;generalize(⟨[b8 d].toArray⟩:Y)=z1 at*;go_wp2;go_roundw
  .exact ⟨k+1,o,z2,Aa,l,B,rfl,rfl,by go_num,p⟩
  exact Ae
 have i:¬(k:Z)<7:=Aa;go_wp2;go_ret;exact⟨⟨z,rfl⟩,C.trans (Ag.oldW (uh u)),(u.block b (by have:=C.size;omega) (λx=>x)).trans (uh H)⟩
abbrev tF:ν:=50
abbrev tL:ν:=48
abbrev tE:ν:=39
abbrev Yh:ν:=41
abbrev Yi:ν:=42
abbrev Px:ν:=40
abbrev qP:ν:=92
abbrev qQ:ν:=95
def Qq(m:Y):E β:=[G m,G ⟨#[]⟩]
def Qr(m:Y):E β:=[G m,I Q 0]
def UR(m:Y):E β:=[G m,ζ ι,G ⟨#[]⟩]
def Eo(w:U)(e:ν)(k:N)(el:Y->E β)(v:β)(m:Y):Prop:= ∃ao n cap,v=K ao n cap/\n<=2000000/\(n=0\/ ∃g cur,ao=J ⟨g,0,O⟩/\w.heap[g]? =J (γ cur e (0,0))/\∀i,i<n-> ∀j u,(el m)[j]? =J u->cur[i*k+j]? =J u)
def Eo.kept{S:N->Prop}{w w' :U}{e:ν}{k:N}{el:Y->E β}{v:β}{m:Y}(h:Eo w e k el v m)(f:Ag S w w')(i: ∀g a,w.heap[g]? =J (γ a e (0,0))->v.ownBlock=J g->¬S g):Eo w' e k el v m:=by
 obtain⟨ao,n,cap,rfl,c,h|⟨g,a,rfl,b,d⟩⟩:=h
 .exact ⟨ao,n,cap,rfl,c,.inl h⟩
 exact⟨_,n,cap,rfl,c,.inr ⟨g,a,rfl,(f.block g (qW.1 b).1 (i g a b rfl)).trans b,d⟩⟩
def Ie(w:U)(e et:ν)(k:N)(el:Y->E β)(vr vm:β)(R:E (β×Y)):Prop:=w.ownsRow 0 et 1 vr R.length (R.map (·.1))/\w.ownsRow 0 9 1 vm R.length (R.map λx=>Value.string x.2)/\∀x∈R,Eo w e k el x.1 x.2
def Ie.nil(w:U)(e a:ν)(k:N)(el:Y->E β):Ie w e a k el Dr Dr []:=⟨rF _ _ _ _,rF _ _ _ _,λ_ h=>by cases h⟩
def Ie.kept{S:N->Prop}{w w' :U}{e i:ν}{k:N}{el:Y->E β}{f d:β}{R:E (β×Y)}(h:Ie w e i k el f d R)(c:Ag S w w')(l: ∀b,f.ownBlock=J b->¬S b)(m: ∀b,d.ownBlock=J b->¬S b)
 (n: ∀x,x∈R-> ∀g a,w.heap[g]? =J (γ a e (0,0))->x.1.ownBlock=J g->¬S g):Ie w' e i k el f d R:=
 ⟨Ax h.1 c l,Ax h.2.1 c m,λx j=>(h.2.2 x j).kept c (n x j)⟩
def Ie.old{w w' :U}{e a:ν}{k:N}{el:Y->E β}{c b:β}{R:E (β×Y)}(h:Ie w e a k el c b R)(d:Al w w'):Ie w' e a k el c b R:=h.kept d (λ_ _ x=>x) (λ_ _ x=>x) (λ_ _ _ _ _ _ x=>x)
structure CD (w1 w:U) (b c:N) (s:WS) (RF RL RT:E (β×Y)):Prop where
 only:Ag (λk=>k=b) w1 w
 lt:b<w1.heap.size
 hp:w.heap[b]? =J (γ (s.cs c) wT (0,0))
 rf:Ie w tF Yh 2 Qq s.r5 s.r6 RF
 rl:Ie w tL Yi 2 Qr s.r7 s.r8 RL
 rt:Ie w tE Px 3 UR s.r9 s.r10 RT
 new: ∀r,r=s.r5\/r=s.r6\/r=s.r7\/r=s.r8\/r=s.r9\/r=s.r10-> ∀k,r.ownBlock=J k->w1.heap.size<=k
 ap1: ∀k,s.r6.ownBlock=J k->s.r8.ownBlock≠J k
 ap2: ∀k,s.r6.ownBlock=J k->s.r10.ownBlock≠J k
 ap3: ∀k,s.r8.ownBlock=J k->s.r10.ownBlock≠J k
 few:RF.length<=4*c/\RL.length<=4*c/\RT.length<=4*c
 dk: ∀(k:N) (cu:φ β) (e:ν),(e=qP\/e=qQ)->s.z.heap[k]? =J (γ cu e (0,0))->w.heap[k]? =J (γ cu e (0,0))
def CD.old{w1 w w' :U}{b c:N}{s:WS}{d f g:E (β×Y)}(h:CD w1 w b c s d f g)(a:Al w w'):CD w1 w' b c s d f g:=
 ⟨h.only.trans (Ag.oldW a),h.lt,(a.block b (qW.1 h.hp).1 (λx=>x)).trans h.hp,h.rf.old a,h.rl.old a,h.rt.old a,h.new,h.ap1,h.ap2,h.ap3,h.few,λk i e j l=>AQ a (h.dk k i e j l)⟩
def CD.inb{w1 w:U}{b c:N}{s:WS}{a d e:E (β×Y)}(h:CD w1 w b c s a d e):b<w.heap.size:=(qW.1 h.hp).1
def AR{w:U}{g:N}{c1 c2:φ β}{c d:ν}(e:w.heap[g]? =J (γ c1 c (0,0)))(a:w.heap[g]? =J (γ c2 d (0,0)))(b:c≠d):False:=by
 rw[e] at a;injection a with a;injection a with _ a;exact b a
def CD.rec_{w1 w w' :U}{b c q :N}{s s' :WS}{t u x:E (β×Y)}(h:CD w1 w b c s t u x)(l:Ag (λk=>k=b) w w')(hp:w'.heap[b]? =J (γ (s'.cs q) wT (0,0)))(D:c<=q)
 (A:s'.r5=s.r5)(m:s'.r6=s.r6)(B:s'.r7=s.r7)(o:s'.r8=s.r8)(C:s'.r9=s.r9)(d:s'.r10=s.r10)(L:s'.z=s.z:=by rfl):CD w1 w' b q s' t u x:=by
 have j: ∀{e:ν} {k:N} {v:β} {n:N} {xs:E β},e≠wT->w.ownsRow 0 e k v n xs-> ∀g,v.ownBlock=J g->¬g=b:=λi M g f e=>by
  obtain⟨a,D⟩:=Aj M f;exact AR (e ▸ D) h.hp i
 have p: ∀{e:ν},e≠wT-> ∀g a,w.heap[g]? =J (γ a e (0,0))->¬g=b:=λi g a f e=>AR (e ▸ f) h.hp i
 refine⟨h.only.trans l,h.lt,hp, ?_, ?_, ?_, ?_, ?_, ?_, ?_, ?_, ?_⟩
 .rw[A,m];exact h.rf.kept l (j Ac h.rf.1) (j Ac h.rf.2.1) (λ_ _ g a f _=>p Ac g a f)
 .rw[B,o];exact h.rl.kept l (j Ac h.rl.1) (j Ac h.rl.2.1) (λ_ _ g a f _=>p Ac g a f)
 .rw[C,d];exact h.rt.kept l (j Ac h.rt.1) (j Ac h.rt.2.1) (λ_ _ g a f _=>p Ac g a f)
 .rw[A,m,B,o,C,d];exact h.new
 .rw[m,o];exact h.ap1
 .rw[m,d];exact h.ap2
 .rw[o,d];exact h.ap3
 .have:=h.few;omega
 intro k y e F H;rw[L] at H;have r:=h.dk k y e F H;exact(l.block k (qW.1 r).1 (p (by rcases F with rfl|rfl<;>decide) k y r)).trans r
def Ao{w w' :U}(a:Al w w'){p:Addr}{v:β}(h:w.cell? p=J v):w'.cell? p=J v:=(a.cell (Br h) (λx=>x)).trans h
def Cr{w:U}{e:ν}{k:N}{v:β}{n:N}{b:E β}(h:w.ownsRow 0 e k v n b): ∃ao cap,v=K ao n cap:=by
 obtain⟨_,⟨rfl,hz⟩|⟨g,cap,a,rfl,_⟩⟩:=h
 .exact Hl
 exact⟨_,_,rfl⟩
def US{w:U}{e:ν}{v:β}{a:E β}{n:N}(h:w.ownsRow 0 e 1 v n a){i:N}{u:β}(b:a[i]? =J u)(c:i<n): ∃g cap,v=K (J ⟨g,0,O⟩) n cap/\w.cell? ⟨g,i,O⟩=J u:=by
 obtain⟨g,cap,rfl,_,_⟩:=h.form Aa;refine⟨g,cap,rfl, ?_⟩;have:=h.cells (g:=g) rfl i u b;exact aag
def Ie.row{w:U}{e p:ν}{k:N}{el:Y->E β}{j g:β}{R:E (β×Y)}(h:Ie w e p k el j g R){i:N}(c:i<R.length): ∃a d b f,j=K (J ⟨a,0,O⟩) R.length d/\g=K (J ⟨b,0,O⟩) R.length f/\w.cell? ⟨a,i,O⟩=J R[i].1/\w.cell? ⟨b,i,O⟩=J (G R[i].2):=by
 obtain⟨a,d,n,l⟩:=US h.1 (i:=i) (u:=R[i].1) (by simp[c]) c;obtain⟨b,f,o,m⟩:=US h.2.1 (i:=i) (u:=G R[i].2) (by simp[c]) c;exact⟨a,d,b,f,n,o,l,m⟩
def Eo.el{w:U}{e:ν}{k:N}{el:Y->E β}{v:β}{m:Y}(h:Eo w e k el v m): ∃ao n cap,v=K ao n cap/\n<=2000000/\∀i,i<n-> ∃g,ao=J ⟨g,0,O⟩/\∀j u,(el m)[j]? =J u->w.cell? ⟨g,i*k+j,O⟩=J u:=by
 obtain⟨ao,n,cap,rfl,b,h|⟨g,c,rfl,f,d⟩⟩:=h
 .exact ⟨ao,n,cap,rfl,b,λi a=>Aa⟩
 exact⟨_,n,cap,rfl,b,λi a=>⟨g,rfl,λj u l=>by rw[qV w g _ _ _ (0,0) f];exact d i a j u l⟩⟩
def pD:prog.underlying 50=J (.struct (prog.fieldsOf 50)):=Ab
def pE:prog.stoodInHeld 50=false:=Ab
def fZ:prog.underlying 48=J (.struct (prog.fieldsOf 48)):=Ab
def gg:prog.stoodInHeld 48=false:=Ab
def lK:prog.underlying 39=J (.struct (prog.fieldsOf 39)):=Ab
def lL:prog.stoodInHeld 39=false:=Ab
def gi(nm d:Y)(W:U):(binOp .neq 50 (.agg #[G nm,G d]) (.agg #[G nm,G d])).run prog W=.ok (ζ ι) W:=by
 rw[yI,vw W 9999 _ _ _ pD pE];simp[go_sem,underlying50]
def pF(nm d:Y)(W:U):(binOp .eql 50 (.agg #[G nm,G d]) (.agg #[G nm,G d])).run prog W=.ok (ζ true) W:=by
 rw[yJ,vw W 9999 _ _ _ pD pE];simp[go_sem,underlying50]
def pG(nm:Y)(y:Z)(W:U):(binOp .neq 48 (.agg #[G nm,I Q y]) (.agg #[G nm,I Q y])).run prog W=.ok (ζ ι) W:=by
 rw[yI,vw W 9999 _ _ _ fZ gg];simp[go_sem,underlying48]
def pH(nm:Y)(y:Z)(W:U):(binOp .eql 48 (.agg #[G nm,I Q y]) (.agg #[G nm,I Q y])).run prog W=.ok (ζ true) W:=by
 rw[yJ,vw W 9999 _ _ _ fZ gg];simp[go_sem,underlying48]
def pI(nm d:Y)(l:Bool)(W:U):(binOp .neq 39 (.agg #[G nm,ζ l,G d]) (.agg #[G nm,ζ l,G d])).run prog W=.ok (ζ ι) W:=by
 rw[yI,vw W 9999 _ _ _ lK lL];simp[go_sem,underlying39]
def nJ(nm d:Y)(l:Bool)(W:U):(binOp .eql 39 (.agg #[G nm,ζ l,G d]) (.agg #[G nm,ζ l,G d])).run prog W=.ok (ζ true) W:=by
 rw[yJ,vw W 9999 _ _ _ lK lL];simp[go_sem,underlying39]
def nK{w1:U}{b c:N}{s:WS}{F H L:E (β×Y)}(hc:c<=100000000)(w:U)(h:CD w1 w b c s F H L):
 Calls prog 39 #[δ (J ⟨b,0,O⟩)] w λe w' =>e=.returned (ζ true)/\Al w w' :=by
 have c5:w.cell? ⟨b,5,O⟩=J s.r5:=by rw[qV w b 5 _ _ (0,0) h.hp];rfl
 have c6:w.cell? ⟨b,6,O⟩=J s.r6:=by rw[qV w b 6 _ _ (0,0) h.hp];rfl
 have c7:w.cell? ⟨b,7,O⟩=J s.r7:=by rw[qV w b 7 _ _ (0,0) h.hp];rfl
 have c8:w.cell? ⟨b,8,O⟩=J s.r8:=by rw[qV w b 8 _ _ (0,0) h.hp];rfl
 have c9:w.cell? ⟨b,9,O⟩=J s.r9:=by rw[qV w b 9 _ _ (0,0) h.hp];rfl
 have M:w.cell? ⟨b,10,O⟩=J s.r10:=by rw[qV w b 10 _ _ (0,0) h.hp];rfl
 obtain⟨a1,a2,a3⟩:=h.few;have o:=Af h;clear h;obtain⟨m,v,ar,pd,pr,r5,r6,r7,r8,r9,r10⟩:=s;simp only at*;obtain⟨a5,z5,rfl⟩:=Cr o.rf.1;obtain⟨a6,z6,rfl⟩:=Cr o.rf.2.1;obtain⟨a7,z7,rfl⟩:=Cr o.rl.1;obtain⟨a8,z8,rfl⟩:=Cr o.rl.2.1;obtain⟨a9,z9,rfl⟩:=Cr o.rt.1;obtain⟨a0,b2,rfl⟩:=Cr o.rt.2.1;have HO:χ (Al w w):=Ag.refl _ w;go_in;go_wp2;go_loopw [3,4] (λx _ wr=> ∃i:N,i<=F.length/\x=I Q i/\χ (Al w wr)) (λx _ _=>F.length- (intOf x).toNat)
 .exact ⟨0,Aa,rfl,HO⟩
 clear HO;obtain⟨V,a4,rfl,HO⟩:=hrel;have z:=Ao (uh HO) c5;have A:=Ao (uh HO) c6;by_cases g:V<F.length
 .have j:(V:Z)<(F.length:Z):=Aa;obtain⟨g5,q5,g6,q6,R,S,r,B⟩:=o.rf.row g;injection R with e51 e52 e53;injection S with e61 e62 e63;subst e51 e53 e61 e63;obtain⟨al,n,P,C,hn,f⟩:=(o.rf.2.2 _ (ro g)).el;rw[C] at r;have q:=Af f;clear C f;generalize F[V].2=m at*;have d:=Af r;have p:=Af B;clear r B;have D:=Ao (uh HO) (uh d);go_wp2;go_loopw [4] (λy wr=> ∃k:N,k<=n/\y=I Q k/\χ (Al w wr)) (λy _=>n- (intOf y).toNat)
  .exact ⟨0,Aa,rfl,HO⟩
  clear HO z A D;obtain⟨k,hk,rfl,HO⟩:=hrel;have z:=Ao (uh HO) c5;have A:=Ao (uh HO) c6;have D:=Ao (uh HO) (uh d);by_cases u:k<n
  .have l:(k:Z)<(n:Z):=Aa;have l6:=Ao (uh HO) (uh p);obtain⟨gl,t,a⟩:=q k u;subst t;have m0:=Ao (uh HO) (a 0 (G m) rfl);have m1:=Ao (uh HO) (a 1 (G ⟨#[]⟩) rfl);rw[sS] at m0;clear a;have T:=gi m ⟨#[]⟩;exact Wf
  have l:¬(k:Z)<(n:Z):=Aa;go_wp2;go_roundw
  .exact ⟨V+1,Aa,by go_num,HO⟩
  exact Ae
 have j:¬(V:Z)<(F.length:Z):=Aa;go_wp2_with fail;clear z A;go_loopw [5,6] (λx _ wr=> ∃i:N,i<=H.length/\x=I Q i/\χ (Al w wr)) (λx _ _=>H.length- (intOf x).toNat)
 .exact ⟨0,Aa,rfl,HO⟩
 clear HO;obtain⟨W,b0,rfl,HO⟩:=hrel;have z:=Ao (uh HO) c7;have A:=Ao (uh HO) c8;by_cases g:W<H.length
 .have j:(W:Z)<(H.length:Z):=Aa;obtain⟨g5,q5,g6,q6,R,S,r,B⟩:=o.rl.row g;injection R with e51 e52 e53;injection S with e61 e62 e63;subst e51 e53 e61 e63;obtain⟨al,n,P,C,hn,f⟩:=(o.rl.2.2 _ (ro g)).el;rw[C] at r;have q:=Af f;clear C f;generalize H[W].2=m at*;have d:=Af r;have p:=Af B;clear r B;have D:=Ao (uh HO) (uh d);go_wp2;go_loopw [6] (λy wr=> ∃k:N,k<=n/\y=I Q k/\χ (Al w wr)) (λy _=>n- (intOf y).toNat)
  .exact ⟨0,Aa,rfl,HO⟩
  clear HO z A D;obtain⟨k,hk,rfl,HO⟩:=hrel;have z:=Ao (uh HO) c7;have A:=Ao (uh HO) c8;have D:=Ao (uh HO) (uh d);by_cases u:k<n
  .have l:(k:Z)<(n:Z):=Aa;have l6:=Ao (uh HO) (uh p);obtain⟨gl,t,a⟩:=q k u;subst t;have m0:=Ao (uh HO) (a 0 (G m) rfl);have m1:=Ao (uh HO) (a 1 (I Q 0) rfl);rw[sS] at m0;clear a;have T:=pG m 0;exact Wf
  have l:¬(k:Z)<(n:Z):=Aa;go_wp2;go_roundw
  .exact ⟨W+1,Aa,by go_num,HO⟩
  exact Ae
 have j:¬(W:Z)<(H.length:Z):=Aa;go_wp2_with fail;clear z A;go_loopw [7,8] (λx _ wr=> ∃i:N,i<=L.length/\x=I Q i/\χ (Al w wr)) (λx _ _=>L.length- (intOf x).toNat)
 .exact ⟨0,Aa,rfl,HO⟩
 clear HO;obtain⟨X,b1,rfl,HO⟩:=hrel;have z:=Ao (uh HO) c9;have A:=Ao (uh HO) M;by_cases g:X<L.length
 .have j:(X:Z)<(L.length:Z):=Aa;obtain⟨g5,q5,g6,q6,R,S,r,B⟩:=o.rt.row g;injection R with e51 e52 e53;injection S with e61 e62 e63;subst e51 e53 e61 e63;obtain⟨al,n,P,C,hn,f⟩:=(o.rt.2.2 _ (ro g)).el;rw[C] at r;have q:=Af f;clear C f;generalize L[X].2=m at*;have d:=Af r;have p:=Af B;clear r B;have D:=Ao (uh HO) (uh d);go_wp2;go_loopw [8] (λy wr=> ∃k:N,k<=n/\y=I Q k/\χ (Al w wr)) (λy _=>n- (intOf y).toNat)
  .exact ⟨0,Aa,rfl,HO⟩
  clear HO z A D;obtain⟨k,hk,rfl,HO⟩:=hrel;have z:=Ao (uh HO) c9;have A:=Ao (uh HO) M;have D:=Ao (uh HO) (uh d);by_cases u:k<n
  .have l:(k:Z)<(n:Z):=Aa;have l6:=Ao (uh HO) (uh p);obtain⟨gl,t,a⟩:=q k u;subst t;have m0:=Ao (uh HO) (a 0 (G m) rfl);have m1:=Ao (uh HO) (a 1 (ζ ι) rfl);have m2:=Ao (uh HO) (a 2 (G ⟨#[]⟩) rfl);rw[sS] at m0;clear a;have T:=pI m ⟨#[]⟩ ι;exact Wf
  have l:¬(k:Z)<(n:Z):=Aa;go_wp2;go_roundw
  .exact ⟨X+1,Aa,by go_num,HO⟩
  exact Ae
 have j:¬(X:Z)<(L.length:Z):=Aa;go_wp2_with fail;clear z A;go_ret;exact⟨rfl,HO⟩
def CD.pushF{w1 w w' :U}{b c:N}{s:WS}{l y z:E (β×Y)}{u o v:β}{m:Y}(h:CD w1 w b c s l y z)(ho:Ag (λk=>k=b\/s.r5.ownBlock=J k\/s.r6.ownBlock=J k) w w')
 (hp:w'.heap[b]? =J (γ (({s with r5:=u,r6:=o}:WS).cs c) wT (0,0)))(L:w'.ownsRow 0 Yh 1 u (l.length+1) (l.map (·.1)++[v]))(M:w'.ownsRow 0 9 1 o (l.length+1) (l.map (λx=>Value.string x.2)++[G m]))
 (B: ∀k,u.ownBlock=J k->s.r5.ownBlock=J k\/w.heap.size<=k)(n: ∀k,o.ownBlock=J k->s.r6.ownBlock=J k\/w.heap.size<=k)(hf:Eo w tF 2 Qq v m)(D:l.length+1<=4*c):
 CD w1 w' b c {s with r5:=u,r6:=o} (l++[(v,m)]) y z:=by
 have ns: ∀{e:ν} {g:N} {cur:φ β},e≠wT->e≠Yh->e≠9->w.heap[g]? =J (γ cur e (0,0))->¬(g=b\/s.r5.ownBlock=J g\/s.r6.ownBlock=J g):=by
  intro e g cur j f a hg hS;rcases hS with hS|hS|hS
  .subst hS;exact AR hg h.hp j
  .obtain ⟨cur2,hg2⟩:=Aj h.rf.1 hS;exact AR hg hg2 f
  obtain⟨cur2,hg2⟩:=Aj h.rf.2.1 hS;exact AR hg hg2 a
 have q:Ie w' tL Yi 2 Qr s.r7 s.r8 y:=by
  refine h.rl.kept ho (λk hk hS=> ?_) (λk hk hS=> ?_) (λx hx g cur hg _=>ns Ac Ac Ac hg)
  .obtain ⟨cur,hg⟩:=Aj h.rl.1 hk;exact aam
  obtain⟨cur,hg⟩:=Aj h.rl.2.1 hk;rcases hS with hS|hS|hS
  .exact Ws
  .exact wO
  exact h.ap1 k hS hk
 have t:Ie w' tE Px 3 UR s.r9 s.r10 z:=by
  refine h.rt.kept ho (λk hk hS=> ?_) (λk hk hS=> ?_) (λx hx g cur hg _=>ns Ac Ac Ac hg)
  .obtain ⟨cur,hg⟩:=Aj h.rt.1 hk;exact aam
  obtain⟨cur,hg⟩:=Aj h.rt.2.1 hk;rcases hS with hS|hS|hS
  .exact Ws
  .exact wO
  exact h.ap2 k hS hk
 have i: ∀k,o.ownBlock=J k->s.r8.ownBlock=J k->False:=λk j f=>by
  rcases n k j with a|a
  .exact h.ap1 k a f
  obtain⟨cur,hg⟩:=Aj h.rl.2.1 f;exact ww
 have d: ∀k,o.ownBlock=J k->s.r10.ownBlock=J k->False:=λk j f=>by
  rcases n k j with a|a
  .exact h.ap2 k a f
  obtain⟨cur,hg⟩:=Aj h.rt.2.1 f;exact ww
 refine⟨h.only.transNew ho (λk hk hS=> ?_),h.lt,hp, ?_,q,t, ?_,λk j f=>i k j f,λk j f=>d k j f,h.ap3, ?_,(λk A e p C=>(ho.block k (qW.1 (h.dk k A e p C)).1 (ns (by rcases p with rfl|rfl<;>decide) (by rcases p with rfl|rfl<;>decide) (by rcases p with rfl|rfl<;>decide) (h.dk k A e p C))).trans (h.dk k A e p C))⟩
 .rcases hS with hS|hS|hS
  .exact hS
  .have:=h.new s.r5 Ad k hS;omega
  have:=h.new s.r6 Ad k hS;omega
 .refine ⟨by simpa using L,by simpa using M,λx hx=> ?_⟩;rcases rR.1 hx with hx|hx
  .exact (h.rf.2.2 x hx).kept ho (λg cur hg _=>ns Ac Ac Ac hg)
  exact WX
 .intro r P k hk;have R:=h.only.size;have F:r=u->w1.heap.size<=k:=λe=>by
   subst e;rcases B k hk with a|a
   .exact h.new s.r5 Ad k a
   omega
  have H:r=o->w1.heap.size<=k:=λe=>by
   subst e;rcases n k hk with a|a
   .exact h.new s.r6 Ad k a
   omega
  rcases P with e|e|e|e|e|e
  .exact F e
  .exact H e
  .exact Hi
  .exact Hi
  .exact Hi
  exact Hi
 have:=h.few;rw[qU,uP];omega
def CD.pushL{w1 w w' :U}{b c:N}{s:WS}{y l z:E (β×Y)}{u o v:β}{m:Y}(h:CD w1 w b c s y l z)(ho:Ag (λk=>k=b\/s.r7.ownBlock=J k\/s.r8.ownBlock=J k) w w')
 (hp:w'.heap[b]? =J (γ (({s with r7:=u,r8:=o}:WS).cs c) wT (0,0)))(L:w'.ownsRow 0 Yi 1 u (l.length+1) (l.map (·.1)++[v]))(M:w'.ownsRow 0 9 1 o (l.length+1) (l.map (λx=>Value.string x.2)++[G m]))
 (B: ∀k,u.ownBlock=J k->s.r7.ownBlock=J k\/w.heap.size<=k)(n: ∀k,o.ownBlock=J k->s.r8.ownBlock=J k\/w.heap.size<=k)(hf:Eo w tL 2 Qr v m)(D:l.length+1<=4*c):
 CD w1 w' b c {s with r7:=u,r8:=o} y (l++[(v,m)]) z:=by
 have ns: ∀{e:ν} {g:N} {cur:φ β},e≠wT->e≠Yi->e≠9->w.heap[g]? =J (γ cur e (0,0))->¬(g=b\/s.r7.ownBlock=J g\/s.r8.ownBlock=J g):=by
  intro e g cur j f a hg hS;rcases hS with hS|hS|hS
  .subst hS;exact AR hg h.hp j
  .obtain ⟨cur2,hg2⟩:=Aj h.rl.1 hS;exact AR hg hg2 f
  obtain⟨cur2,hg2⟩:=Aj h.rl.2.1 hS;exact AR hg hg2 a
 have q:Ie w' tF Yh 2 Qq s.r5 s.r6 y:=by
  refine h.rf.kept ho (λk hk hS=> ?_) (λk hk hS=> ?_) (λx hx g cur hg _=>ns Ac Ac Ac hg)
  .obtain ⟨cur,hg⟩:=Aj h.rf.1 hk;exact aam
  obtain⟨cur,hg⟩:=Aj h.rf.2.1 hk;rcases hS with hS|hS|hS
  .exact Ws
  .exact wP
  exact h.ap1 k hk hS
 have t:Ie w' tE Px 3 UR s.r9 s.r10 z:=by
  refine h.rt.kept ho (λk hk hS=> ?_) (λk hk hS=> ?_) (λx hx g cur hg _=>ns Ac Ac Ac hg)
  .obtain ⟨cur,hg⟩:=Aj h.rt.1 hk;exact aam
  obtain⟨cur,hg⟩:=Aj h.rt.2.1 hk;rcases hS with hS|hS|hS
  .exact Ws
  .exact wP
  exact h.ap3 k hS hk
 have i: ∀k,o.ownBlock=J k->s.r6.ownBlock=J k->False:=λk j f=>by
  rcases n k j with a|a
  .exact h.ap1 k f a
  obtain⟨cur,hg⟩:=Aj h.rf.2.1 f;exact ww
 have d: ∀k,o.ownBlock=J k->s.r10.ownBlock=J k->False:=λk j f=>by
  rcases n k j with a|a
  .exact h.ap3 k a f
  obtain⟨cur,hg⟩:=Aj h.rt.2.1 f;exact ww
 refine⟨h.only.transNew ho (λk hk hS=> ?_),h.lt,hp,q, ?_,t, ?_,λk j f=>i k f j,h.ap2,λk j f=>d k j f, ?_,(λk A e p C=>(ho.block k (qW.1 (h.dk k A e p C)).1 (ns (by rcases p with rfl|rfl<;>decide) (by rcases p with rfl|rfl<;>decide) (by rcases p with rfl|rfl<;>decide) (h.dk k A e p C))).trans (h.dk k A e p C))⟩
 .rcases hS with hS|hS|hS
  .exact hS
  .have:=h.new s.r7 Ad k hS;omega
  have:=h.new s.r8 Ad k hS;omega
 .refine ⟨by simpa using L,by simpa using M,λx hx=> ?_⟩;rcases rR.1 hx with hx|hx
  .exact (h.rl.2.2 x hx).kept ho (λg cur hg _=>ns Ac Ac Ac hg)
  exact WX
 .intro r P k hk;have R:=h.only.size;have F:r=u->w1.heap.size<=k:=λe=>by
   subst e;rcases B k hk with a|a
   .exact h.new s.r7 Ad k a
   omega
  have H:r=o->w1.heap.size<=k:=λe=>by
   subst e;rcases n k hk with a|a
   .exact h.new s.r8 Ad k a
   omega
  rcases P with e|e|e|e|e|e
  .exact Hi
  .exact Hi
  .exact F e
  .exact H e
  .exact Hi
  exact Hi
 have:=h.few;rw[qU,uP];omega
def CD.pushT{w1 w w' :U}{b c:N}{s:WS}{y z l:E (β×Y)}{u o v:β}{m:Y}(h:CD w1 w b c s y z l)(ho:Ag (λk=>k=b\/s.r9.ownBlock=J k\/s.r10.ownBlock=J k) w w')
 (hp:w'.heap[b]? =J (γ (({s with r9:=u,r10:=o}:WS).cs c) wT (0,0)))(L:w'.ownsRow 0 Px 1 u (l.length+1) (l.map (·.1)++[v]))(M:w'.ownsRow 0 9 1 o (l.length+1) (l.map (λx=>Value.string x.2)++[G m]))
 (B: ∀k,u.ownBlock=J k->s.r9.ownBlock=J k\/w.heap.size<=k)(n: ∀k,o.ownBlock=J k->s.r10.ownBlock=J k\/w.heap.size<=k)(hf:Eo w tE 3 UR v m)(D:l.length+1<=4*c):
 CD w1 w' b c {s with r9:=u,r10:=o} y z (l++[(v,m)]):=by
 have ns: ∀{e:ν} {g:N} {cur:φ β},e≠wT->e≠Px->e≠9->w.heap[g]? =J (γ cur e (0,0))->¬(g=b\/s.r9.ownBlock=J g\/s.r10.ownBlock=J g):=by
  intro e g cur j d a hg hS;rcases hS with hS|hS|hS
  .subst hS;exact AR hg h.hp j
  .obtain ⟨cur2,hg2⟩:=Aj h.rt.1 hS;exact AR hg hg2 d
  obtain⟨cur2,hg2⟩:=Aj h.rt.2.1 hS;exact AR hg hg2 a
 have q:Ie w' tF Yh 2 Qq s.r5 s.r6 y:=by
  refine h.rf.kept ho (λk hk hS=> ?_) (λk hk hS=> ?_) (λx hx g cur hg _=>ns Ac Ac Ac hg)
  .obtain ⟨cur,hg⟩:=Aj h.rf.1 hk;exact aam
  obtain⟨cur,hg⟩:=Aj h.rf.2.1 hk;rcases hS with hS|hS|hS
  .exact Ws
  .exact wQ
  exact h.ap2 k hk hS
 have t:Ie w' tL Yi 2 Qr s.r7 s.r8 z:=by
  refine h.rl.kept ho (λk hk hS=> ?_) (λk hk hS=> ?_) (λx hx g cur hg _=>ns Ac Ac Ac hg)
  .obtain ⟨cur,hg⟩:=Aj h.rl.1 hk;exact aam
  obtain⟨cur,hg⟩:=Aj h.rl.2.1 hk;rcases hS with hS|hS|hS
  .exact Ws
  .exact wQ
  exact h.ap3 k hk hS
 have f: ∀k,o.ownBlock=J k->s.r6.ownBlock=J k->False:=λk j d=>by
  rcases n k j with a|a
  .exact h.ap2 k d a
  obtain⟨cur,hg⟩:=Aj h.rf.2.1 d;exact ww
 have i: ∀k,o.ownBlock=J k->s.r8.ownBlock=J k->False:=λk j d=>by
  rcases n k j with a|a
  .exact h.ap3 k d a
  obtain⟨cur,hg⟩:=Aj h.rl.2.1 d;exact ww
 refine⟨h.only.transNew ho (λk hk hS=> ?_),h.lt,hp,q,t, ?_, ?_,h.ap1,λk j d=>f k d j,λk j d=>i k d j, ?_,(λk A e p C=>(ho.block k (qW.1 (h.dk k A e p C)).1 (ns (by rcases p with rfl|rfl<;>decide) (by rcases p with rfl|rfl<;>decide) (by rcases p with rfl|rfl<;>decide) (h.dk k A e p C))).trans (h.dk k A e p C))⟩
 .rcases hS with hS|hS|hS
  .exact hS
  .have:=h.new s.r9 Ad k hS;omega
  have:=h.new s.r10 Ad k hS;omega
 .refine ⟨by simpa using L,by simpa using M,λx hx=> ?_⟩;rcases rR.1 hx with hx|hx
  .exact (h.rt.2.2 x hx).kept ho (λg cur hg _=>ns Ac Ac Ac hg)
  exact WX
 .intro r P k hk;have R:=h.only.size;have F:r=u->w1.heap.size<=k:=λe=>by
   subst e;rcases B k hk with a|a
   .exact h.new s.r9 Ad k a
   omega
  have H:r=o->w1.heap.size<=k:=λe=>by
   subst e;rcases n k hk with a|a
   .exact h.new s.r10 Ad k a
   omega
  rcases P with e|e|e|e|e|e
  .exact Hi
  .exact Hi
  .exact Hi
  .exact Hi
  .exact F e
  exact H e
 have:=h.few;rw[qU,uP];omega
def CD.oneF{w1 w w3:U}{b c:N}{s:WS}{f g i:E (β×Y)}{o:Obj}(h:CD w1 w b c s f g i)(a:(w.alloc o).grownBy w3 s.r5.ownBlock):Ag (λk=>s.r5.ownBlock=J k) w w3/\w3.heap[b]? =J (γ (s.cs c) wT (0,0)):=by
 have d:Ag (λk=>s.r5.ownBlock=J k) w w3:=((Ag.refl _ w).alloc o).grown a (λk _ e=>e);refine⟨d,(d.block b h.inb (λl=> ?_)).trans h.hp⟩;obtain⟨j,m⟩:=Aj h.rf.1 l;exact AR m h.hp Ac
def CD.twoF{w1 w w3:U}{b c:N}{s:WS}{a d f:E (β×Y)}(h:CD w1 w b c s a d f)(j:Ag (λk=>s.r5.ownBlock=J k) w w3)(x:β)(o:Obj):((w3.setCell ⟨b,5,O⟩ x).alloc o).ownsRow 0 9 1 s.r6 a.length (a.map λx=>Value.string x.2):=by
 refine Ax h.rf.2.1 ((((j.mono (T:=λk=>k=b\/s.r5.ownBlock=J k) (λ_ _ e=> .inr e))).trans ((Ap w3 b 5 x).mono (λ_ _ e=> .inl e))).alloc o) (λk i hS=> ?_);obtain⟨g,hg⟩:=Aj h.rf.2.1 i;rcases hS with hS|hS
 .exact Ws
 exact wO
def CD.endF{w1 w w3 f:U}{b c:N}{s:WS}{a R S:E (β×Y)}{v:β}{m:Y}{o i:Obj}{ga d gb j:N}(h:CD w1 w b c s a R S)(X:Eo w tF 2 Qq v m)(n:a.length+1<=4*c)
 (h3:w3.ownsRow 0 Yh 1 (K (J ⟨ga,0,O⟩) (a.length+1) d) (a.length+1) (a.map (·.1)++[v]))(A:(w.alloc o).grownBy w3 s.r5.ownBlock)(hl3:s.r5.ownBlock=J ga\/ga=w.heap.size+1)
 (W:f.ownsRow 0 9 1 (K (J ⟨gb,0,O⟩) (a.length+1) j) (a.length+1) (a.map (λx=>Value.string x.2)++[G m]))(B:((w3.setCell ⟨b,5,O⟩ (K (J ⟨ga,0,O⟩) (a.length+1) d)).alloc i).grownBy f s.r6.ownBlock)(hl6:s.r6.ownBlock=J gb\/gb=w3.heap.size+1):
 f.heap[b]? =J (γ (({s with r5:=K (J ⟨ga,0,O⟩) (a.length+1) d}:WS).cs c) wT (0,0))/\CD w1 (f.setCell ⟨b,6,O⟩ (K (J ⟨gb,0,O⟩) (a.length+1) j)) b c {s with r5:=K (J ⟨ga,0,O⟩) (a.length+1) d,r6:=K (J ⟨gb,0,O⟩) (a.length+1) j} (a++[(v,m)]) R S/\Ag (λk=>k=b\/s.r5.ownBlock=J k\/s.r6.ownBlock=J k) w (f.setCell ⟨b,6,O⟩ (K (J ⟨gb,0,O⟩) (a.length+1) j)):=by
 obtain⟨q,H⟩:=h.oneF A;have T:=q.size;have D:=h.inb;have L:=ru w3 b 5 _ _ (K (J ⟨ga,0,O⟩) (a.length+1) d) H;have r:Ag (λk=>k=b\/s.r5.ownBlock=J k\/s.r6.ownBlock=J k) w ((w3.setCell ⟨b,5,O⟩ (K (J ⟨ga,0,O⟩) (a.length+1) d)).alloc i):=(((q.mono (λ_ _ e=> .inr (.inl e)))).trans ((Ap w3 b 5 _).mono (λ_ _ e=> .inl e))).alloc i;have g:Ag (λk=>s.r6.ownBlock=J k) ((w3.setCell ⟨b,5,O⟩ (K (J ⟨ga,0,O⟩) (a.length+1) d)).alloc i) f:=(Ag.refl _ _).grown B (λk _ e=>e);have hnb:¬s.r6.ownBlock=J b:=λy=>by
  obtain⟨cur,hg⟩:=Aj h.rf.2.1 y;exact AR hg h.hp Ac
 have z:b<((w3.setCell ⟨b,5,O⟩ (K (J ⟨ga,0,O⟩) (a.length+1) d)).alloc i).heap.size:=rW D r.size;have M:((w3.setCell ⟨b,5,O⟩ (K (J ⟨ga,0,O⟩) (a.length+1) d)).alloc i).heap[b]? =J (γ (({s with r5:=K (J ⟨ga,0,O⟩) (a.length+1) d}:WS).cs c) wT (0,0)):=Gm L;have u:=(g.block b z hnb).trans M;have P:=ru f b 6 _ _ (K (J ⟨gb,0,O⟩) (a.length+1) j) u;have p:ga≠b:=λe=>by
  subst e;rcases hl3 with e|e
  .obtain ⟨cur,hg⟩:=Aj h.rf.1 e;exact AR hg h.hp Ac
  omega
 have C:gb≠b:=λe=>aap
 have a0:ga<w3.heap.size:=wK;have F:¬s.r6.ownBlock=J ga:=λy=>by
  rcases hl3 with e|e
  .obtain ⟨cur,hg⟩:=Aj h.rf.1 e;obtain⟨l,hg2⟩:=Aj h.rf.2.1 y;exact AR hg hg2 Ac
  obtain⟨l,hg2⟩:=Aj h.rf.2.1 y;exact abd
 have t:Ag (λk=>k=b\/s.r5.ownBlock=J k\/s.r6.ownBlock=J k) w (f.setCell ⟨b,6,O⟩ (K (J ⟨gb,0,O⟩) (a.length+1) j)):=((r.trans (g.mono (λ_ _ e=> .inr (.inr e))))).trans ((Ap f b 6 _).mono (λ_ _ e=> .inl e));refine⟨u,h.pushF t P ?_ ?_ (λk hk=> ?_) (λk hk=> ?_) X n,t⟩
 .have q1:=Ax h3 (Ap w3 b 5 (K (J ⟨ga,0,O⟩) (a.length+1) d)) (λk hk e=>p (by rw[<-e];exact rD hk));have q2:=Ax q1 ((Ag.refl (λ_=>False) _).alloc i) (λ_ _ x=>x);have q3:=Ax q2 g (λk hk e=>F (by have V:ga=k:=rD hk;rw[V];exact e));exact Ax q3 (Ap f b 6 _) (λk hk e=>p (by rw[<-e];exact rD hk))
 .exact Ax W (Ap f b 6 _) (λk hk e=>C (by rw[<-e];exact rD hk))
 .exact WN
 exact WO
def CD.oneL{w1 w w3:U}{b c:N}{s:WS}{f g i:E (β×Y)}{o:Obj}(h:CD w1 w b c s f g i)(a:(w.alloc o).grownBy w3 s.r7.ownBlock):Ag (λk=>s.r7.ownBlock=J k) w w3/\w3.heap[b]? =J (γ (s.cs c) wT (0,0)):=by
 have d:Ag (λk=>s.r7.ownBlock=J k) w w3:=((Ag.refl _ w).alloc o).grown a (λk _ e=>e);refine⟨d,(d.block b h.inb (λl=> ?_)).trans h.hp⟩;obtain⟨j,m⟩:=Aj h.rl.1 l;exact AR m h.hp Ac
def CD.twoL{w1 w w3:U}{b c:N}{s:WS}{d a f:E (β×Y)}(h:CD w1 w b c s d a f)(j:Ag (λk=>s.r7.ownBlock=J k) w w3)(x:β)(o:Obj):((w3.setCell ⟨b,7,O⟩ x).alloc o).ownsRow 0 9 1 s.r8 a.length (a.map λx=>Value.string x.2):=by
 refine Ax h.rl.2.1 ((((j.mono (T:=λk=>k=b\/s.r7.ownBlock=J k) (λ_ _ e=> .inr e))).trans ((Ap w3 b 7 x).mono (λ_ _ e=> .inl e))).alloc o) (λk i hS=> ?_);obtain⟨g,hg⟩:=Aj h.rl.2.1 i;rcases hS with hS|hS
 .exact Ws
 exact wP
def CD.endL{w1 w w3 f:U}{b c:N}{s:WS}{R a S:E (β×Y)}{v:β}{m:Y}{o i:Obj}{ga d gb j:N}(h:CD w1 w b c s R a S)(X:Eo w tL 2 Qr v m)(n:a.length+1<=4*c)
 (h3:w3.ownsRow 0 Yi 1 (K (J ⟨ga,0,O⟩) (a.length+1) d) (a.length+1) (a.map (·.1)++[v]))(A:(w.alloc o).grownBy w3 s.r7.ownBlock)(hl3:s.r7.ownBlock=J ga\/ga=w.heap.size+1)
 (W:f.ownsRow 0 9 1 (K (J ⟨gb,0,O⟩) (a.length+1) j) (a.length+1) (a.map (λx=>Value.string x.2)++[G m]))(B:((w3.setCell ⟨b,7,O⟩ (K (J ⟨ga,0,O⟩) (a.length+1) d)).alloc i).grownBy f s.r8.ownBlock)(hl6:s.r8.ownBlock=J gb\/gb=w3.heap.size+1):
 f.heap[b]? =J (γ (({s with r7:=K (J ⟨ga,0,O⟩) (a.length+1) d}:WS).cs c) wT (0,0))/\CD w1 (f.setCell ⟨b,8,O⟩ (K (J ⟨gb,0,O⟩) (a.length+1) j)) b c {s with r7:=K (J ⟨ga,0,O⟩) (a.length+1) d,r8:=K (J ⟨gb,0,O⟩) (a.length+1) j} R (a++[(v,m)]) S/\Ag (λk=>k=b\/s.r7.ownBlock=J k\/s.r8.ownBlock=J k) w (f.setCell ⟨b,8,O⟩ (K (J ⟨gb,0,O⟩) (a.length+1) j)):=by
 obtain⟨q,H⟩:=h.oneL A;have T:=q.size;have D:=h.inb;have L:=ru w3 b 7 _ _ (K (J ⟨ga,0,O⟩) (a.length+1) d) H;have r:Ag (λk=>k=b\/s.r7.ownBlock=J k\/s.r8.ownBlock=J k) w ((w3.setCell ⟨b,7,O⟩ (K (J ⟨ga,0,O⟩) (a.length+1) d)).alloc i):=(((q.mono (λ_ _ e=> .inr (.inl e)))).trans ((Ap w3 b 7 _).mono (λ_ _ e=> .inl e))).alloc i;have g:Ag (λk=>s.r8.ownBlock=J k) ((w3.setCell ⟨b,7,O⟩ (K (J ⟨ga,0,O⟩) (a.length+1) d)).alloc i) f:=(Ag.refl _ _).grown B (λk _ e=>e);have hnb:¬s.r8.ownBlock=J b:=λy=>by
  obtain⟨cur,hg⟩:=Aj h.rl.2.1 y;exact AR hg h.hp Ac
 have z:b<((w3.setCell ⟨b,7,O⟩ (K (J ⟨ga,0,O⟩) (a.length+1) d)).alloc i).heap.size:=rW D r.size;have M:((w3.setCell ⟨b,7,O⟩ (K (J ⟨ga,0,O⟩) (a.length+1) d)).alloc i).heap[b]? =J (γ (({s with r7:=K (J ⟨ga,0,O⟩) (a.length+1) d}:WS).cs c) wT (0,0)):=Gm L;have u:=(g.block b z hnb).trans M;have P:=ru f b 8 _ _ (K (J ⟨gb,0,O⟩) (a.length+1) j) u;have p:ga≠b:=λe=>by
  subst e;rcases hl3 with e|e
  .obtain ⟨cur,hg⟩:=Aj h.rl.1 e;exact AR hg h.hp Ac
  omega
 have C:gb≠b:=λe=>aap
 have a0:ga<w3.heap.size:=wK;have F:¬s.r8.ownBlock=J ga:=λy=>by
  rcases hl3 with e|e
  .obtain ⟨cur,hg⟩:=Aj h.rl.1 e;obtain⟨l,hg2⟩:=Aj h.rl.2.1 y;exact AR hg hg2 Ac
  obtain⟨l,hg2⟩:=Aj h.rl.2.1 y;exact abd
 have t:Ag (λk=>k=b\/s.r7.ownBlock=J k\/s.r8.ownBlock=J k) w (f.setCell ⟨b,8,O⟩ (K (J ⟨gb,0,O⟩) (a.length+1) j)):=((r.trans (g.mono (λ_ _ e=> .inr (.inr e))))).trans ((Ap f b 8 _).mono (λ_ _ e=> .inl e));refine⟨u,h.pushL t P ?_ ?_ (λk hk=> ?_) (λk hk=> ?_) X n,t⟩
 .have q1:=Ax h3 (Ap w3 b 7 (K (J ⟨ga,0,O⟩) (a.length+1) d)) (λk hk e=>p (by rw[<-e];exact rD hk));have q2:=Ax q1 ((Ag.refl (λ_=>False) _).alloc i) (λ_ _ x=>x);have q3:=Ax q2 g (λk hk e=>F (by have V:ga=k:=rD hk;rw[V];exact e));exact Ax q3 (Ap f b 8 _) (λk hk e=>p (by rw[<-e];exact rD hk))
 .exact Ax W (Ap f b 8 _) (λk hk e=>C (by rw[<-e];exact rD hk))
 .exact WN
 exact WO
def CD.oneT{w1 w w3:U}{b c:N}{s:WS}{f g i:E (β×Y)}{o:Obj}(h:CD w1 w b c s f g i)(a:(w.alloc o).grownBy w3 s.r9.ownBlock):Ag (λk=>s.r9.ownBlock=J k) w w3/\w3.heap[b]? =J (γ (s.cs c) wT (0,0)):=by
 have d:Ag (λk=>s.r9.ownBlock=J k) w w3:=((Ag.refl _ w).alloc o).grown a (λk _ e=>e);refine⟨d,(d.block b h.inb (λl=> ?_)).trans h.hp⟩;obtain⟨j,m⟩:=Aj h.rt.1 l;exact AR m h.hp Ac
def CD.twoT{w1 w w3:U}{b c:N}{s:WS}{d f a:E (β×Y)}(h:CD w1 w b c s d f a)(j:Ag (λk=>s.r9.ownBlock=J k) w w3)(x:β)(o:Obj):((w3.setCell ⟨b,9,O⟩ x).alloc o).ownsRow 0 9 1 s.r10 a.length (a.map λx=>Value.string x.2):=by
 refine Ax h.rt.2.1 ((((j.mono (T:=λk=>k=b\/s.r9.ownBlock=J k) (λ_ _ e=> .inr e))).trans ((Ap w3 b 9 x).mono (λ_ _ e=> .inl e))).alloc o) (λk i hS=> ?_);obtain⟨g,hg⟩:=Aj h.rt.2.1 i;rcases hS with hS|hS
 .exact Ws
 exact wQ
def CD.endT{w1 w w3 f:U}{b c:N}{s:WS}{R S a:E (β×Y)}{v:β}{m:Y}{o i:Obj}{ga d gb j:N}(h:CD w1 w b c s R S a)(X:Eo w tE 3 UR v m)(n:a.length+1<=4*c)
 (h3:w3.ownsRow 0 Px 1 (K (J ⟨ga,0,O⟩) (a.length+1) d) (a.length+1) (a.map (·.1)++[v]))(A:(w.alloc o).grownBy w3 s.r9.ownBlock)(hl3:s.r9.ownBlock=J ga\/ga=w.heap.size+1)
 (W:f.ownsRow 0 9 1 (K (J ⟨gb,0,O⟩) (a.length+1) j) (a.length+1) (a.map (λx=>Value.string x.2)++[G m]))(B:((w3.setCell ⟨b,9,O⟩ (K (J ⟨ga,0,O⟩) (a.length+1) d)).alloc i).grownBy f s.r10.ownBlock)(hl6:s.r10.ownBlock=J gb\/gb=w3.heap.size+1):
 f.heap[b]? =J (γ (({s with r9:=K (J ⟨ga,0,O⟩) (a.length+1) d}:WS).cs c) wT (0,0))/\CD w1 (f.setCell ⟨b,10,O⟩ (K (J ⟨gb,0,O⟩) (a.length+1) j)) b c {s with r9:=K (J ⟨ga,0,O⟩) (a.length+1) d,r10:=K (J ⟨gb,0,O⟩) (a.length+1) j} R S (a++[(v,m)])/\Ag (λk=>k=b\/s.r9.ownBlock=J k\/s.r10.ownBlock=J k) w (f.setCell ⟨b,10,O⟩ (K (J ⟨gb,0,O⟩) (a.length+1) j)):=by
 obtain⟨q,H⟩:=h.oneT A;have T:=q.size;have D:=h.inb;have L:=ru w3 b 9 _ _ (K (J ⟨ga,0,O⟩) (a.length+1) d) H;have r:Ag (λk=>k=b\/s.r9.ownBlock=J k\/s.r10.ownBlock=J k) w ((w3.setCell ⟨b,9,O⟩ (K (J ⟨ga,0,O⟩) (a.length+1) d)).alloc i):=(((q.mono (λ_ _ e=> .inr (.inl e)))).trans ((Ap w3 b 9 _).mono (λ_ _ e=> .inl e))).alloc i;have g:Ag (λk=>s.r10.ownBlock=J k) ((w3.setCell ⟨b,9,O⟩ (K (J ⟨ga,0,O⟩) (a.length+1) d)).alloc i) f:=(Ag.refl _ _).grown B (λk _ e=>e);have hnb:¬s.r10.ownBlock=J b:=λy=>by
  obtain⟨cur,hg⟩:=Aj h.rt.2.1 y;exact AR hg h.hp Ac
 have z:b<((w3.setCell ⟨b,9,O⟩ (K (J ⟨ga,0,O⟩) (a.length+1) d)).alloc i).heap.size:=rW D r.size;have M:((w3.setCell ⟨b,9,O⟩ (K (J ⟨ga,0,O⟩) (a.length+1) d)).alloc i).heap[b]? =J (γ (({s with r9:=K (J ⟨ga,0,O⟩) (a.length+1) d}:WS).cs c) wT (0,0)):=Gm L;have u:=(g.block b z hnb).trans M;have P:=ru f b 10 _ _ (K (J ⟨gb,0,O⟩) (a.length+1) j) u;have p:ga≠b:=λe=>by
  subst e;rcases hl3 with e|e
  .obtain ⟨cur,hg⟩:=Aj h.rt.1 e;exact AR hg h.hp Ac
  omega
 have C:gb≠b:=λe=>aap
 have a0:ga<w3.heap.size:=wK;have F:¬s.r10.ownBlock=J ga:=λy=>by
  rcases hl3 with e|e
  .obtain ⟨cur,hg⟩:=Aj h.rt.1 e;obtain⟨l,hg2⟩:=Aj h.rt.2.1 y;exact AR hg hg2 Ac
  obtain⟨l,hg2⟩:=Aj h.rt.2.1 y;exact abd
 have t:Ag (λk=>k=b\/s.r9.ownBlock=J k\/s.r10.ownBlock=J k) w (f.setCell ⟨b,10,O⟩ (K (J ⟨gb,0,O⟩) (a.length+1) j)):=((r.trans (g.mono (λ_ _ e=> .inr (.inr e))))).trans ((Ap f b 10 _).mono (λ_ _ e=> .inl e));refine⟨u,h.pushT t P ?_ ?_ (λk hk=> ?_) (λk hk=> ?_) X n,t⟩
 .have q1:=Ax h3 (Ap w3 b 9 (K (J ⟨ga,0,O⟩) (a.length+1) d)) (λk hk e=>p (by rw[<-e];exact rD hk));have q2:=Ax q1 ((Ag.refl (λ_=>False) _).alloc i) (λ_ _ x=>x);have q3:=Ax q2 g (λk hk e=>F (by have V:ga=k:=rD hk;rw[V];exact e));exact Ax q3 (Ap f b 10 _) (λk hk e=>p (by rw[<-e];exact rD hk))
 .exact Ax W (Ap f b 10 _) (λk hk e=>C (by rw[<-e];exact rD hk))
 .exact WN
 exact WO
def Eo.keptq{wq w w' :U}{e:ν}{k g:N}{el:Y->E β}{v:β}{m:Y}(h:Eo w e k el v m)(l:Eo wq e k el v m)(j:Ag (λk=>k=g) w w')(p:wq.heap.size<=g):Eo w' e k el v m:=by
 obtain⟨ao,n,cap,rfl,i,a⟩:=l;by_cases h0:n=0
 .exact ⟨ao,n,cap,rfl,i,.inl h0⟩
 rcases a with a|⟨g2,c,rfl,hg2,_⟩
 .exact absurd a h0
 refine h.kept j (λd b _ f e=> ?_);have o:g2=d:=rD f;exact abd
def IC(es:E ν)(w w' :U):Prop:=Ag (λk=> ∃cur e,w.heap[k]? =J (γ cur e (0,0))/\e∈es) w w'
def Ol{d:E ν}{w w' :U}{e:ν}{k:N}{v:β}{n:N}{f:E β}(h:w.ownsRow 0 e k v n f)(p:IC d w w')(l:e∉d):w'.ownsRow 0 e k v n f:=by
 refine Ax h p (λb j i=> ?_);obtain⟨g,m⟩:=Aj h j;obtain⟨c,q,a,o⟩:=i;rw[m] at a;injection a with a;injection a with _ a;exact l (a ▸ o)
def gj(wq w1 w:U)(e:ν)(k:N)(el:Y->E β)(ao:Option Addr)(n:N)(m:Y)(i:N):Prop:=n=0\/ ∃g cur,ao=J ⟨g,0,O⟩/\w.heap[g]? =J (γ cur e (0,0))/\n*k<=cur.size/\wq.heap.size<=g/\w1.heap.size<=g/\∀p,p<i-> ∀j u,(el m)[j]? =J u->cur[p*k+j]? =J u
def gj.full{wq w1 w:U}{e:ν}{k:N}{el:Y->E β}{ao:Option Addr}{n:N}{m:Y}{cap:N}(h:gj wq w1 w e k el ao n m n)(b:n<=2000000):Eo w e k el (K ao n cap) m:=by
 rcases h with h|⟨g,a,c,d,_,_,_,f⟩
 .exact ⟨ao,n,cap,rfl,b,.inl h⟩
 exact⟨ao,n,cap,rfl,b,.inr ⟨g,a,c,d,f⟩⟩
def gj.kept{S:N->Prop}{wq w1 w w' :U}{e:ν}{k:N}{el:Y->E β}{ao:Option Addr}{n:N}{m:Y}{i:N}(h:gj wq w1 w e k el ao n m i)(ho:Ag S w w')(hs: ∀g cur,w.heap[g]? =J (γ cur e (0,0))->¬S g):gj wq w1 w' e k el ao n m i:=by
 rcases h with h|⟨g,cur,h1,h2,h3⟩
 .exact .inl h
 exact aaw
def Yj{w:U}{g:N}{e:ν}{b:φ β}(i:w.heap[g]? =J (γ b e (0,0)))(q:N)(c d:β)(j:q+2<=b.size):
 ∃a,((w.setCell ⟨g,q,O⟩ c).setCell ⟨g,q+1,O⟩ d).heap[g]? =J (γ a e (0,0))/\a.size=b.size/\(∀p,p<q->a[p]? =b[p]?)/\a[q]? =J c/\a[q+1]? =J d/\Ag (λk=>k=g) w ((w.setCell ⟨g,q,O⟩ c).setCell ⟨g,q+1,O⟩ d):=by
 have f:=ru w g q _ _ c i;have h:=ru _ g (q+1) _ _ d f;refine⟨_,h,Ad,λp hp=> ?_, ?_, ?_,(Ap w g q c).trans (Ap _ g (q+1) d)⟩
 .rw[rq Aa,rq Aa]
 .rw[rq Aa,sD Aa]
 rw[sD (by rw[tQ];omega)]
def nL{w:U}{g:N}{e:ν}{b:φ β}(o:w.heap[g]? =J (γ b e (0,0)))(q:N)(d f c:β)(s:q+3<=b.size):
 ∃a,(((w.setCell ⟨g,q,O⟩ d).setCell ⟨g,q+1,O⟩ f).setCell ⟨g,q+2,O⟩ c).heap[g]? =J (γ a e (0,0))/\a.size=b.size/\(∀p,p<q->a[p]? =b[p]?)/\a[q]? =J d/\a[q+1]? =J f/\a[q+2]? =J c/\Ag (λk=>k=g) w (((w.setCell ⟨g,q,O⟩ d).setCell ⟨g,q+1,O⟩ f).setCell ⟨g,q+2,O⟩ c):=by
 obtain⟨c2,m,i,h,j,l,r⟩:=Yj o q d f Aa;have n:=ru _ g (q+2) _ _ c m;refine⟨_,n,by simp[i],λp hp=> ?_, ?_, ?_, ?_,r.trans (Ap _ g (q+2) c)⟩
 .rw[rq Aa];exact h p hp
 .rw[rq Aa];exact j
 .rw[rq Aa];exact l
 rw[sD Aa]
def CD.wrF{w1 wq w w' :U}{b c g:N}{s:WS}{j p r:E (β×Y)}{m:φ β}(h:CD w1 w b c s j p r)(hg:w.heap[g]? =J (γ m tF (0,0)))(a:Ag (λk=>k=g) w w')(y: ∀x,x∈j->Eo wq tF 2 Qq x.1 x.2)(u:wq.heap.size<=g)(z:w1.heap.size<=g):CD w1 w' b c s j p r:=by
 have d: ∀{e:ν} {k:N} {v:β} {n:N} {xs:E β},tF≠e->w.ownsRow 0 e k v n xs-> ∀{q:N},v.ownBlock=J q->q=g->False:=λhne hr q hk e=>wF
 refine⟨h.only.transNew a (λk hk e=>Aa),h.lt,(a.block b h.inb (λe=>AR hg (e ▸ h.hp) Ac)).trans h.hp,⟨Ax h.rf.1 a (λk hk e=>d Ac h.rf.1 hk e),Ax h.rf.2.1 a (λk hk e=>d Ac h.rf.2.1 hk e),λx i=>(h.rf.2.2 x i).keptq (y x i) a u⟩,h.rl.kept a (λk hk e=>d Ac h.rl.1 hk e) (λk hk e=>d Ac h.rl.2.1 hk e) (λx i g2 cur2 hg2 _ e=>AR hg (e ▸ hg2) Ac),h.rt.kept a (λk hk e=>d Ac h.rt.1 hk e) (λk hk e=>d Ac h.rt.2.1 hk e) (λx i g2 cur2 hg2 _ e=>AR hg (e ▸ hg2) Ac),h.new,h.ap1,h.ap2,h.ap3,h.few,(λk l e f o=>(a.block k (qW.1 (h.dk k l e f o)).1 (λt=>AR hg (t ▸ h.dk k l e f o) (by rcases f with rfl|rfl<;>decide))).trans (h.dk k l e f o))⟩
def CD.wrL{w1 wq w w' :U}{b c g:N}{s:WS}{p j r:E (β×Y)}{m:φ β}(h:CD w1 w b c s p j r)(hg:w.heap[g]? =J (γ m tL (0,0)))(a:Ag (λk=>k=g) w w')(y: ∀x,x∈j->Eo wq tL 2 Qr x.1 x.2)(u:wq.heap.size<=g)(z:w1.heap.size<=g):CD w1 w' b c s p j r:=by
 have d: ∀{e:ν} {k:N} {v:β} {n:N} {xs:E β},tL≠e->w.ownsRow 0 e k v n xs-> ∀{q:N},v.ownBlock=J q->q=g->False:=λhne hr q hk e=>wF
 refine⟨h.only.transNew a (λk hk e=>Aa),h.lt,(a.block b h.inb (λe=>AR hg (e ▸ h.hp) Ac)).trans h.hp,h.rf.kept a (λk hk e=>d Ac h.rf.1 hk e) (λk hk e=>d Ac h.rf.2.1 hk e) (λx i g2 cur2 hg2 _ e=>AR hg (e ▸ hg2) Ac),⟨Ax h.rl.1 a (λk hk e=>d Ac h.rl.1 hk e),Ax h.rl.2.1 a (λk hk e=>d Ac h.rl.2.1 hk e),λx i=>(h.rl.2.2 x i).keptq (y x i) a u⟩,h.rt.kept a (λk hk e=>d Ac h.rt.1 hk e) (λk hk e=>d Ac h.rt.2.1 hk e) (λx i g2 cur2 hg2 _ e=>AR hg (e ▸ hg2) Ac),h.new,h.ap1,h.ap2,h.ap3,h.few,(λk l e f o=>(a.block k (qW.1 (h.dk k l e f o)).1 (λt=>AR hg (t ▸ h.dk k l e f o) (by rcases f with rfl|rfl<;>decide))).trans (h.dk k l e f o))⟩
def CD.wrT{w1 wq w w' :U}{b c g:N}{s:WS}{p r j:E (β×Y)}{m:φ β}(h:CD w1 w b c s p r j)(hg:w.heap[g]? =J (γ m tE (0,0)))(a:Ag (λk=>k=g) w w')(y: ∀x,x∈j->Eo wq tE 3 UR x.1 x.2)(u:wq.heap.size<=g)(z:w1.heap.size<=g):CD w1 w' b c s p r j:=by
 have d: ∀{e:ν} {k:N} {v:β} {n:N} {xs:E β},tE≠e->w.ownsRow 0 e k v n xs-> ∀{q:N},v.ownBlock=J q->q=g->False:=λhne hr q hk e=>wF
 refine⟨h.only.transNew a (λk hk e=>Aa),h.lt,(a.block b h.inb (λe=>AR hg (e ▸ h.hp) Ac)).trans h.hp,h.rf.kept a (λk hk e=>d Ac h.rf.1 hk e) (λk hk e=>d Ac h.rf.2.1 hk e) (λx i g2 cur2 hg2 _ e=>AR hg (e ▸ hg2) Ac),h.rl.kept a (λk hk e=>d Ac h.rl.1 hk e) (λk hk e=>d Ac h.rl.2.1 hk e) (λx i g2 cur2 hg2 _ e=>AR hg (e ▸ hg2) Ac),⟨Ax h.rt.1 a (λk hk e=>d Ac h.rt.1 hk e),Ax h.rt.2.1 a (λk hk e=>d Ac h.rt.2.1 hk e),λx i=>(h.rt.2.2 x i).keptq (y x i) a u⟩,h.new,h.ap1,h.ap2,h.ap3,h.few,(λk l e f o=>(a.block k (qW.1 (h.dk k l e f o)).1 (λt=>AR hg (t ▸ h.dk k l e f o) (by rcases f with rfl|rfl<;>decide))).trans (h.dk k l e f o))⟩
def Yk(b:N)(ra rb:β)(e:ν)(ao:Option Addr)(w:U):N->Prop:=λk=>k=b\/ra.ownBlock=J k\/rb.ownBlock=J k\/ ∃cur,ao=J ⟨k,0,O⟩/\w.heap[k]? =J (γ cur e (0,0))
def Yk.ty{b n k:N}{g h:β}{e f:ν}{ao:Option Addr}{w w' :U}{i:φ β}{o p:E β}(m:Ag (Yk b g h e ao w) w w')(hp:w.heap[b]? =J (γ i wT (0,0)))(j:w.ownsRow 0 f k g n o)(l:w.ownsRow 0 9 1 h n p):IC [wT,f,9,e] w w' :=by
 refine m.mono (λq _ a=> ?_);rcases a with rfl|a|a|⟨c,_,a⟩
 .exact ⟨_,_,hp,Ad⟩
 .obtain ⟨c,d⟩:=Aj j a;exact⟨_,_,d,Ad⟩
 .obtain ⟨c,d⟩:=Aj l a;exact⟨_,_,d,Ad⟩
 exact⟨_,_,a,Ad⟩
def WS.base(s:WS):Y×Y×Y×β×β×U:=(s.m,s.v,s.ar,s.pd,s.pr,s.z)
def gq(w1 w:U)(b c:N)(B:Y×Y×Y×β×β×U)(RF RL:E (β×Y)):Prop:= ∃s' RT',CD w1 w b c s' RF RL RT' /\s'.base=B
def NR(w1 w:U)(b c:N)(B:Y×Y×Y×β×β×U)(RL RT:E (β×Y)):Prop:= ∃s' RF',CD w1 w b c s' RF' RL RT/\s'.base=B
def qv(w1 w:U)(b c:N)(B:Y×Y×Y×β×β×U)(RF RT:E (β×Y)):Prop:= ∃s' RL',CD w1 w b c s' RF RL' RT/\s'.base=B
def kE(w1 w:U)(b c:N)(B:Y×Y×Y×β×β×U):Prop:= ∃s' RF' RL' RT',CD w1 w b c s' RF' RL' RT' /\s'.base=B
def nM:(prog.info? 40).map (λi=>(i.zero,i.size,i.bytes))=J (J (K O 0 0),1,24):=Ab
def nN:(prog.info? 41).map (λi=>(i.zero,i.size,i.bytes))=J (J (K O 0 0),1,24):=Ab
def nO:(prog.info? 42).map (λi=>(i.zero,i.size,i.bytes))=J (J (K O 0 0),1,24):=Ab
def FN(w:U)(p:Addr)(x:β):(w.setCell p x).heap.size=w.heap.size:=by simp[World.setCell]
def gj.next3{wq w1 w:U}{ao:Option Addr}{n i g:N}{m:Y}{c a :φ β}(r:ao=J ⟨g,0,O⟩)(t:w.heap[g]? =J (γ a tE (0,0)))(x:n*3<=c.size)(y:a.size=c.size)(o:wq.heap.size<=g)(q:w1.heap.size<=g)(s: ∀p,p<i-> ∀j u,(UR m)[j]? =J u->c[p*3+j]? =J u)(v: ∀p,p<i*3->a[p]? =c[p]?)(f:a[i*3]? =J (G m))(k:a[i*3+1]? =J (ζ ι))(l:a[i*3+2]? =J (G ⟨#[]⟩)):gj wq w1 w tE 3 UR ao n m (i+1):=by
 refine .inr ⟨g,a,r,t,Aa,o,q,λp hp j u b=> ?_⟩;have d:j<3:=by
  rcases sb j 3 with h|h
  .exact h
  rw[UR,rL (by simpa using h)] at b;cases b
 by_cases e:p=i
 .subst e
  match j,d,b with
  |0,_,b=>rw[<-b];exact f
  |1,_,b=>rw[<-b];exact k
  |2,_,b=>rw[<-b];exact l
 rw[v _ Aa];exact s p Aa j u b
def Zv{w1 wq:U}{b c:N}{s:WS}{RF RL a:E (β×Y)}(hc:c<=100000000)(w:U)(h:CD w1 w b c s RF RL a)(ao:Option Addr)(n cap:N)(hn:n<=2000000)(hv: ∀m,gj wq w1 w tE 3 UR ao n m 0)(hq: ∀x,x∈a->Eo wq tE 3 UR x.1 x.2):
 Calls prog 197 #[δ (J ⟨b,0,O⟩),K ao n cap] w λr w' =>r=.returned (.tuple #[])/\IC [wT,Px,9,tE] w w' /\gq w1 w' b (c+1) s.base RF RL:=by
 have H1:=Af (fY s c Aa b w h.hp);have o:=Af h;have f5:=h.few.2.2;have HQ:=Af hq;have HV:=Af hv;have a3:χ (∀w',Ag (Yk b s.r9 s.r10 tE ao w) w w' ->IC [wT,Px,9,tE] w w'):=λ_ ho=>Yk.ty ho h.hp h.rt.1 h.rt.2.1
 have a6:χ (∀g,n≠0->ao=J ⟨g,0,O⟩-> ∃d,w.heap[g]? =J (γ d tE (0,0))):=λg d5 ha=>by
  rcases hv ⟨#[]⟩ with h0|⟨g2,d,v,d2,_⟩
  .exact absurd h0 d5
  rw[ha] at v;injection v with v;injection v with v;subst v;exact⟨d,d2⟩
 clear h hq hv;go_in;go_wp2_with fail;refine H1.mono ?_;rintro r w2 ⟨m,rfl,P,c0⟩;have HL2:=Af (o.rec_ P c0 Aa rfl rfl rfl rfl rfl rfl);have HP2:=Af ((HV m).kept P (λg d C e=>AR (e ▸ C) o.hp Ac));have HO2:χ (Ag (Yk b s.r9 s.r10 tE ao w) w w2):=P.mono (λ_ _ e=> .inl e);clear P c0 H1 o HV;go_wp2;go_loopw [5] (λx wr=> ∃i:N,i<=n/\x=I Q i/\χ (CD w1 wr b (c+1) s RF RL a)/\χ (gj wq w1 wr tE 3 UR ao n m i)/\χ (Ag (Yk b s.r9 s.r10 tE ao w) w wr)) (λx _=>n- (intOf x).toNat)
 .exact aaY
 clear HL2 HP2 HO2;obtain⟨i,hi,rfl,o,HP,HO⟩:=hrel;by_cases f6:i<n
 .have b7:(i:Z)<(n:Z):=Aa;obtain⟨g,d,ha,C,c3,b5,b4,T⟩: ∃g d,ao=J ⟨g,0,O⟩/\wr.heap[g]? =J (γ d tE (0,0))/\n*3<=d.size/\wq.heap.size<=g/\w1.heap.size<=g/\∀p,p<i-> ∀j u,(UR m)[j]? =J u->d[p*3+j]? =J u:=aaK;obtain⟨a7,b3⟩:=a6 g Aa ha;have L:i*3+3<=d.size:=Aa;have k0:wr.cell? ⟨g,i*3,O⟩=J (d[i*3]'Aa):=by rw[qV wr g _ _ _ (0,0) C];exact rZ _
  have k1:wr.cell? ⟨g,i*3+1,O⟩=J (d[i*3+1]'Aa):=by rw[qV wr g _ _ _ (0,0) C];exact rZ _
  have k2:wr.cell? ⟨g,i*3+2,O⟩=J (d[i*3+2]'Aa):=by rw[qV wr g _ _ _ (0,0) C];exact rZ _
  have f0:=rp wr g (i*3) _ _ C;have f1:=rp wr g (i*3+1) _ _ C;have f2:=rp wr g (i*3+2) _ _ C;obtain⟨e8,b2,c2,V,e0,e1,e2,a1⟩:=nL C (i*3) (G m) (ζ ι) (G ⟨#[]⟩) L;have HL2:=Af (o.wrT C a1 (uh HQ) b5 b4);have HP2:=Af (gj.next3 (wq:=wq) (w1:=w1) ha b2 c3 c2 b5 b4 T V e0 e1 e2);have HO2:χ (Ag (Yk b s.r9 s.r10 tE ao w) w _):=HO.transNew a1 (λk _ e=> .inr (.inr (.inr ⟨a7,by rw[e];exact ha,by rw[e];exact b3⟩)));subst ha;clear b3 T C b2 c2 V e0 e1 e2 a1 c3 o HP HO;generalize d[i*3]'Aa=y0 at*;generalize d[i*3+1]'Aa=y1 at*;generalize d[i*3+2]'Aa=y2 at*;exact WF
 have b7:¬(i:Z)<(n:Z):=Aa;have b6:i=n:=Aa;have HF:χ (Eo wr tE 3 UR (K ao n cap) m):=by rw[b6] at HP;exact HP.full hn
 clear b6 HP a6 HQ;have c9:wr.cell? ⟨b,9,O⟩=J s.r9:=by rw[qV wr b 9 _ _ (0,0) (uh o).hp];rfl
 have f9:=rp wr b 9 _ _ o.hp;obtain⟨a9,z9,e9⟩:=Cr o.rt.1;obtain⟨q,z,a8⟩:=Cr o.rt.2.1;have A:=Af e9;have l:=Af a8;rw[e9] at c9;obtain⟨i0,d3,e3,e4,e5⟩:=rN nM;obtain⟨j0,d4,d7,d8,d9⟩:=rN ML;have c7:χ ((wr.alloc (γ #[K ao n cap] Px)).ownsRow 0 Px 1 (K a9 a.length z9) a.length (a.map (·.1))):=by rw[<-uh A];exact Ax o.rt.1 ((Ag.refl (λ_=>False) wr).alloc _) (λ_ _ x=>x)
 have c6:=Af (AB wr [K ao n cap] Px);have c8:χ ((wr.alloc (γ #[K ao n cap] Px)).heap.size=wr.heap.size+1):=by unfold χ;rw[rr]
 have a5:χ (a.length+1<=4*(c+1)):=by unfold χ;omega
 have a4:χ (∀t B w3,(wr.alloc (γ #[K ao n cap] Px)).grownBy w3 (Value.slice a9 a.length z9).ownBlock->w3.cell? ⟨b,9,O⟩=J (K a9 a.length z9)/\w3.cell? ⟨b,10,O⟩=J (K q a.length z)/\w3.frozen? ⟨b,9,O⟩=ι/\w3.frozen? ⟨b,10,O⟩=ι/\((w3.setCell ⟨b,9,O⟩ (K (J ⟨t,0,O⟩) (a.length+1) B)).alloc (γ #[G m] 9)).ownsRow 0 9 1 (K q a.length z) a.length (a.map λx=>Value.string x.2)/\∀j u,([G m]:E β)[j]? =J u->((w3.setCell ⟨b,9,O⟩ (K (J ⟨t,0,O⟩) (a.length+1) B)).alloc (γ #[G m] 9)).cell? ((⟨w3.heap.size,0,O⟩:Addr).add j)=J u):=λt B w3 f=>by
  rw[<-uh A] at f;obtain⟨d6,R⟩:=o.oneT f;refine⟨?_, ?_,rp w3 b 9 _ _ R,rp w3 b 10 _ _ R, ?_, ?_⟩
  .rw[qV w3 b 9 _ _ (0,0) R,<-uh A];rfl
  .rw[qV w3 b 10 _ _ (0,0) R,<-uh l];rfl
  .rw[<-uh l];exact o.twoT d6 _ _
  have:=AB (w3.setCell ⟨b,9,O⟩ (K (J ⟨t,0,O⟩) (a.length+1) B)) [G m] 9;exact aay
 have a2:χ (∀t B M S w3 y,w3.ownsRow 0 Px 1 (K (J ⟨t,0,O⟩) (a.length+1) B) (a.length+1) (a.map (·.1)++[K ao n cap])->(wr.alloc (γ #[K ao n cap] Px)).grownBy w3 (Value.slice a9 a.length z9).ownBlock->((Value.slice a9 a.length z9).ownBlock=J t\/t=wr.heap.size+1)->y.ownsRow 0 9 1 (K (J ⟨M,0,O⟩) (a.length+1) S) (a.length+1) (a.map (λx=>Value.string x.2)++[G m])->((w3.setCell ⟨b,9,O⟩ (K (J ⟨t,0,O⟩) (a.length+1) B)).alloc (γ #[G m] 9)).grownBy y (Value.slice q a.length z).ownBlock->((Value.slice q a.length z).ownBlock=J M\/M=w3.heap.size+1)->y.cell? ⟨b,10,O⟩=J (K q a.length z)/\y.frozen? ⟨b,10,O⟩=ι/\IC [wT,Px,9,tE] w (y.setCell ⟨b,10,O⟩ (K (J ⟨M,0,O⟩) (a.length+1) S))/\gq w1 (y.setCell ⟨b,10,O⟩ (K (J ⟨M,0,O⟩) (a.length+1) S)) b (c+1) s.base RF RL):=λt B M S w3 y h3 f F h6 D H=>by
  rw[<-uh A] at f F;rw[<-uh l] at D H;obtain⟨c1,b1,d1⟩:=o.endT (uh HF) (uh a5) h3 f F h6 D H;refine⟨?_,rp y b 10 _ _ c1,a3 _ (HO.transNew d1 (λk _ hS=> ?_)),Exists.intro _ (Exists.intro _ ⟨b1,rfl⟩)⟩
  .rw[qV y b 10 _ _ (0,0) c1,<-uh l];rfl
  rcases hS with hS|hS|hS
  .exact .inl hS
  .exact .inr (.inl hS)
  exact .inr (.inr (.inl hS))
 clear o HF a5 HO a3 A l e9 a8;go_wp2_with (at_builtin;first
  |(refine wpList_append_lies _ rfl (.tmp 23) (.tmp 25) 75 rfl 0 Px i0 (K O 0 0) 1 24 underlying75 d3 e3 e4 e5 rfl Aa (K a9 a.length z9) a.length (a.map (·.1)) rfl (uh c7) ⟨wr.heap.size,0,O⟩ 1 1 [K ao n cap] rfl rfl (uh c6) (by intro u hu;simp at hu;subst hu;rfl) Aa (by unfold maxLen;omega) Aa Aa (wr.heap.size+1) (uh c8) ?_;intro t B w3 h3 f F L;obtain⟨q9,e6,x9,e7,a0,X⟩:=a4 t B w3 f;have a0:=Af a0;have X:=Af X;have W:=Af (λM S y=>a2 t B M S w3 y h3 f F);clear h3 f F L c9 f9)
  |(refine wpList_append_lies _ rfl (.tmp 33) (.tmp 35) 45 rfl 0 9 j0 (G ⟨#[]⟩) 1 16 underlying45 d4 d7 d8 d9 rfl Aa (K q a.length z) a.length _ rfl (uh a0) ⟨w3.heap.size,0,O⟩ 1 1 [G m] rfl rfl (uh X) (by intro u hu;simp at hu;subst hu;rfl) Aa (by unfold maxLen;omega) Aa Aa (w3.heap.size+1) (by rw[rr,FN]) ?_;intro M S y h6 D H b9;obtain⟨f3,f4,c4,b0⟩:=W M S y h6 D H;have d0:=Af c4;have c5:=Af b0;clear h6 D H b9 c4 b0 q9 e6 x9 e7))
 go_end0;exact⟨rfl,d0,c5⟩
def Py(w w' :U)(v:β)(q:N):Prop:= ∀b cur e,w.heap[b]? =J (γ cur e (0,0))-> ∃cur',w'.heap[b]? =J (γ cur' e (0,0))/\∀j,(v.ownBlock=J b->j<q)->cur'[j]? =cur[j]?
def NS{P:Program}(w:U)(t T:ν)(e:ν)(i:TypeInfo)(z:β)(size f:N)(ht:P.underlying t=J (.slice e))(X:P.info? e=J i)(hz:i.zero=J z)
 (a:i.size=size)(H:i.bytes=f)(a5:z.cells.size=size)(a2:0<size)(v:β)(n:N)(M:E β)(p:w.ownsRow 0 e size v n M)
 (D:Addr)(m c:N)(d:E β)(S:d.length=m*size)(k: ∀j u,d[j]? =J u->w.cell? (D.add j)=J u)(h1: ∀u∈d,u.oneCell' =true)
 (hm:0<m)(F:n+m<=maxLen)(o:(n+m)*f<=140737488355328):
 ∃g cap w',(Builtin.append_ #[t,t] T #[v,K (J D) m c]).run P w=.ok (K (J ⟨g,0,O⟩) (n+m) cap) w' /\
  w'.ownsRow 0 e size (K (J ⟨g,0,O⟩) (n+m) cap) (n+m) (M++d)/\w.grownBy w' v.ownBlock/\(v.ownBlock=J g\/g=w.heap.size)/\Py w w' v (n*size):=by
 obtain⟨g,cap,w',hr,h2,V,h4,_⟩:=run_append_lies (P:=P) w t T 0 e i z size f ht X hz a H a5 a2 v n M p D m c d S k h1 hm F o (sl _) w.heap.size rfl;refine⟨g,cap,w',hr,h2,V,h4,λb y e2 C=> ?_⟩;have B:=(qW.1 C).1;have A:w'.heap[b]? =w.heap[b]? -> ∃x,w'.heap[b]? =J (γ x e2 (0,0))/\∀j,(v.ownBlock=J b->j<n*size)->x[j]? =y[j]? :=λh=>⟨y,h.trans C,λ_ _=>rfl⟩
 rcases p.2 with⟨rfl,_⟩|⟨g0,l,s,rfl,a7,R,a1,a8,W,a3⟩
 .exact A (V.block b B (λh=>by cases h))
 by_cases e1:b=g0
 .subst e1;rw[R] at C;injection C with C;injection C with hb1 hb2;subst hb1 hb2;by_cases r:n+m<=l
  .have q:=run_append_room (P:=P) w t T e i ht X b n l s R D m c d (by rw[a];exact S) k h1 r (by rw[a,W,S,<-vK];exact sA _ r);rw[hr] at q;injection q with _ hw;rw[hw,a];refine⟨_,sw w b s _ e (0,0) R,λj hj=> ?_⟩;have a0 :=hj rfl;have a6:n*size<=l*size:=sA _ a1;have L:j<(s.toList.take (n*size)).length:=by rw[rY,sd];omega
   rw[tq,rm,rM L,td,rd a0,sC]
  have a4:M.length=n*i.size:=by rw[a];exact p.1
  have q:=run_append_grow (P:=P) w t T e i z ht X hz ⟨b,0,O⟩ n l M a4 (p.cells (g:=b) rfl) D m c d (by rw[a];exact S) k Aa (by unfold maxLen at F;omega) (growslice_fits Aa (by rw[H];exact o));rw[hr] at q;injection q with _ hw;exact⟨s,by rw[hw];exact(Go.heap_alloc_old w.drew _ B).trans R,λ_ _=>rfl⟩
 exact A (V.block b B (λh=>e1 (by injection h)))
def GW{P:Program}{ops:φ Oper}{rest:E Oper}{o:Oper}{a:Act}{Q:Exit->Act->U->Prop}{w:U}(A:o.guard=O)(s x:Operand)(t:ν)
 (W:o.op=.call {callee:=.builtin .append,args:= #[s,x],argTypes:= #[t,t]})(e:ν)(i:TypeInfo)(z:β)(size d:N)(ht:P.underlying t=J (.slice e))(S:P.info? e=J i)(hz:i.zero=J z)
 (l:i.size=size)(y:i.bytes=d)(C:z.cells.size=size)(B:0<size)(v:β)(n:N)(D:E β)(hs:a.eval s=v)(p:w.ownsRow 0 e size v n D)
 (q:Addr)(m c:N)(b:E β)(hx:a.eval x=K (J q) m c)(T:b.length=m*size)(h: ∀j u,b[j]? =J u->w.cell? (q.add j)=J u)(F: ∀u∈b,u.oneCell' =true)
 (V:0<m)(r:n+m<=maxLen)(f:(n+m)*d<=140737488355328)
 (k: ∀g cap w',w'.ownsRow 0 e size (K (J ⟨g,0,O⟩) (n+m) cap) (n+m) (D++b)->w.grownBy w' v.ownBlock->(v.ownBlock=J g\/g=w.heap.size)->Py w w' v (n*size)->wpList P ops Q rest (a.put o.dst (K (J ⟨g,0,O⟩) (n+m) cap)) w'):wpList P ops Q (o::rest) a w:=by
 obtain⟨g,cap,w',X,H,L,M,R⟩:=NS (P:=P) w t o.type e i z size d ht S hz l y C B v n D p q m c b T h F V r f;exact Lib.wpList_append_run w A s x t t W v _ hs hx _ w' X (k g cap w' H L M R)
def iI(x v:β)(n:N):Prop:= ∀ao q cap,x=K ao q cap->q≠0-> ∀g,ao=J ⟨g,0,O⟩->v.ownBlock=J g->q<=n
def Eo.stays{w w' :U}{e:ν}{k n:N}{el:Y->E β}{x v:β}{m:Y}(h:Eo w e k el x m)(C:Py w w' v (n*k))(s:iI x v n)(A:(el m).length=k):Eo w' e k el x m:=by
 obtain⟨ao,q,cap,rfl,o,f⟩:=h;by_cases h0:q=0
 .exact ⟨ao,q,cap,rfl,o,.inl h0⟩
 rcases f with f|⟨g,b,rfl,t,r⟩
 .exact absurd f h0
 obtain⟨a,d,c⟩:=C g b e t;refine⟨_,q,cap,rfl,o,.inr ⟨g,a,rfl,d,λi y j u l=> ?_⟩⟩;rw[c _ (λp=> ?_)]
 .exact r i y j u l
 have B:=s _ q cap rfl h0 g rfl p;have z:j<k:=by rw[<-A];exact(sU.1 l).1
 exact aby
def CD.apF{w1 w w' :U}{b c n:N}{s:WS}{j t u:E (β×Y)}{v:β}{p:E β}(h:CD w1 w b c s j t u)(hv:w.ownsRow 0 tF 2 v n p)(z: ∀k,v.ownBlock=J k->w1.heap.size<=k)(A:w.grownBy w' v.ownBlock)(m:Py w w' v (n*2))(f: ∀x,x∈j->iI x.1 v n):CD w1 w' b c s j t u:=by
 have a:Ag (λk=>v.ownBlock=J k) w w' :=(Ag.refl _ w).grown A (λk _ e=>e);have nl: ∀{e:ν} {q:N} {cur:φ β},tF≠e->w.heap[q]? =J (γ cur e (0,0))->v.ownBlock=J q->False:=λhne hg2 hk=>abt
 have d: ∀{e:ν} {k:N} {r:β} {n:N} {p:E β},tF≠e->w.ownsRow 0 e k r n p-> ∀{q:N},r.ownBlock=J q->v.ownBlock=J q->False:=λhne hr q hk e=>abz
 refine⟨h.only.transNew a (λk hk e=>by have:=z k e;omega),h.lt,(a.block b h.inb (λe=>nl Ac h.hp e)).trans h.hp,⟨Ax h.rf.1 a (λk hk e=>d Ac h.rf.1 hk e),Ax h.rf.2.1 a (λk hk e=>d Ac h.rf.2.1 hk e),λx i=>(h.rf.2.2 x i).stays m (f x i) rfl⟩,h.rl.kept a (λk hk e=>d Ac h.rl.1 hk e) (λk hk e=>d Ac h.rl.2.1 hk e) (λx i g2 cur2 hg2 _ e=>nl Ac hg2 e),h.rt.kept a (λk hk e=>d Ac h.rt.1 hk e) (λk hk e=>d Ac h.rt.2.1 hk e) (λx i g2 cur2 hg2 _ e=>nl Ac hg2 e),h.new,h.ap1,h.ap2,h.ap3,h.few,(λk l e g o=>(a.block k (qW.1 (h.dk k l e g o)).1 (λy=>nl (by rcases g with rfl|rfl<;>decide) (h.dk k l e g o) y)).trans (h.dk k l e g o))⟩
def CD.apL{w1 w w' :U}{b c n:N}{s:WS}{t j u:E (β×Y)}{v:β}{p:E β}(h:CD w1 w b c s t j u)(hv:w.ownsRow 0 tL 2 v n p)(z: ∀k,v.ownBlock=J k->w1.heap.size<=k)(A:w.grownBy w' v.ownBlock)(m:Py w w' v (n*2))(f: ∀x,x∈j->iI x.1 v n):CD w1 w' b c s t j u:=by
 have a:Ag (λk=>v.ownBlock=J k) w w' :=(Ag.refl _ w).grown A (λk _ e=>e);have nl: ∀{e:ν} {q:N} {cur:φ β},tL≠e->w.heap[q]? =J (γ cur e (0,0))->v.ownBlock=J q->False:=λhne hg2 hk=>abt
 have d: ∀{e:ν} {k:N} {r:β} {n:N} {p:E β},tL≠e->w.ownsRow 0 e k r n p-> ∀{q:N},r.ownBlock=J q->v.ownBlock=J q->False:=λhne hr q hk e=>abz
 refine⟨h.only.transNew a (λk hk e=>by have:=z k e;omega),h.lt,(a.block b h.inb (λe=>nl Ac h.hp e)).trans h.hp,h.rf.kept a (λk hk e=>d Ac h.rf.1 hk e) (λk hk e=>d Ac h.rf.2.1 hk e) (λx i g2 cur2 hg2 _ e=>nl Ac hg2 e),⟨Ax h.rl.1 a (λk hk e=>d Ac h.rl.1 hk e),Ax h.rl.2.1 a (λk hk e=>d Ac h.rl.2.1 hk e),λx i=>(h.rl.2.2 x i).stays m (f x i) rfl⟩,h.rt.kept a (λk hk e=>d Ac h.rt.1 hk e) (λk hk e=>d Ac h.rt.2.1 hk e) (λx i g2 cur2 hg2 _ e=>nl Ac hg2 e),h.new,h.ap1,h.ap2,h.ap3,h.few,(λk l e g o=>(a.block k (qW.1 (h.dk k l e g o)).1 (λy=>nl (by rcases g with rfl|rfl<;>decide) (h.dk k l e g o) y)).trans (h.dk k l e g o))⟩
def Pz{l:E β}{k:N}(a:l.length=k)(h0:0<k): ∀(n q:N),q<n*k->((List.replicate n l).flatten)[q]? =l[q%k]?
 |0,q,h=>by omega
 |n+1,q,h=>by
  rw[vN,List.flatten_cons];by_cases b:q<k
  .rw[rM Aa,uF b]
  rw[rE Aa,a,Pz a h0 n (q- k) (by rw[vK,yE] at h;omega),Nat.mod_eq_sub_mod (show q>=k by omega)]
def PA{l:E β}{k:N}(a:l.length=k): ∀n,((List.replicate n l).flatten).length=n*k
 |0=>by simp
 |n+1=>by rw[vN,List.flatten_cons,qU,PA a n,a,vK];omega
def Ru{l:E β}(n:N):(List.replicate n l).flatten++l=(List.replicate (n+1) l).flatten:=by
 rw[tM,List.flatten_append];simp
def UT{w:U}{e:ν}{k n:N}{el:Y->E β}{v:β}{m:Y}(o:(el m).length=k)(h0:0<k)(r:n<=2000000)(h:w.ownsRow 0 e k v n ((List.replicate n (el m)).flatten)):Eo w e k el v m:=by
 obtain⟨_,⟨rfl,x⟩|⟨g,cap,a,rfl,_,q,s,_,p,d⟩⟩:=h
 .exact ⟨O,0,0,rfl,Aa,.inl rfl⟩
 refine⟨_,n,cap,rfl,r,.inr ⟨g,a,rfl,q,λi t j u l=> ?_⟩⟩;have c:j<k:=by rw[<-o];exact(sU.1 l).1
 have b:i*k+j<n*k:=aby
 have f:(List.take (n*k) a.toList)[i*k+j]? =((List.replicate n (el m)).flatten)[i*k+j]? :=by rw[d]
 rw[td,rd b,Pz o h0 n _ b,sC,tP i k,Nat.mul_add_mod,uF c,l] at f;rw[tP i k];exact f
def Ln(wq w1 w:U)(e:ν)(k:N)(el:Y->E β)(ao:Option Addr)(n cap:N)(m:Y)(i:N):Prop:=(n=0/\w.ownsRow 0 e k (K ao 0 cap) 0 [])\/ ∃g cur,ao=J ⟨g,0,O⟩/\w.heap[g]? =J (γ cur e (0,0))/\n<=cap/\cap<=maxLen/\cur.size=cap*k/\wq.heap.size<=g/\w1.heap.size<=g/\∀p,p<i-> ∀j u,(el m)[j]? =J u->cur[p*k+j]? =J u
def Ln.own{wq w1 w:U}{e:ν}{k:N}{el:Y->E β}{ao:Option Addr}{n cap:N}{m:Y}(h:Ln wq w1 w e k el ao n cap m n)(c:(el m).length=k)(h0:0<k):w.ownsRow 0 e k (K ao n cap) n ((List.replicate n (el m)).flatten):=by
 rcases h with⟨rfl,h⟩|⟨g,d,rfl,r,a,f,i,_,_,p⟩
 .exact h
 refine⟨PA c n,.inr ⟨g,cap,d,rfl,sl _,r,a,f,i, ?_⟩⟩;apply ub;intro q;have o:n*k<=cap*k:=sA _ a;by_cases l:q<n*k
 .rw[td,rd l,Pz c h0 n q l,sC];have b:q%k<(el m).length:=by rw[c];exact si _ h0
  have j:=Nat.div_add_mod q k;have hp:q/k<n:=Nat.div_lt_of_lt_mul (by rw[tP];exact l);have:=p (q/k) hp (q%k) _ (qY b);rw[tP,j] at this;rw[this,qY b]
 rw[rL (by rw[rY,sd];omega),rL (by rw[PA c];omega)]
def Ln.start{wq w1 w:U}{e:ν}{k:N}{el:Y->E β}{ao:Option Addr}{n cap:N}{r:E β}(h:w.ownsRow 0 e k (K ao n cap) n r)(j: ∀g,(Value.slice ao n cap).ownBlock=J g->wq.heap.size<=g/\w1.heap.size<=g)(m:Y):Ln wq w1 w e k el ao n cap m 0:=by
 obtain⟨t,⟨a,q⟩|⟨g,i,b,a,s,l,f,c,d,o⟩⟩:=h
 .injection a with a e2 e3;subst a e3 q;exact .inl ⟨rfl,rF _ _ _ _⟩
 injection a with a e2 e3;subst a e3;exact .inr ⟨g,b,rfl,l,f,c,d,(j g rfl).1,(j g rfl).2,λp hp=>Aa⟩
def Ln.kept{S:N->Prop}{wq w1 w w' :U}{e:ν}{k:N}{el:Y->E β}{ao:Option Addr}{n cap:N}{m:Y}{i:N}(h:Ln wq w1 w e k el ao n cap m i)(ho:Ag S w w')(hs: ∀g cur,w.heap[g]? =J (γ cur e (0,0))->¬S g):Ln wq w1 w' e k el ao n cap m i:=by
 rcases h with⟨h0,h⟩|⟨g,cur,h1,h2,h3⟩
 .refine .inl ⟨h0,Ax h ho (λb a=> ?_)⟩;obtain⟨cur,c⟩:=Aj h a;exact hs b cur c
 exact aaw
def Ln.next{wq w1 w:U}{e:ν}{el:Y->E β}{ao:Option Addr}{n cap i g:N}{m:Y}{l o:β}(d:el m=[l,o]){b a :φ β}(v:ao=J ⟨g,0,O⟩)(z:w.heap[g]? =J (γ a e (0,0)))(k:n<=cap)(f:cap<=maxLen)(x:b.size=cap*2)(B:a.size=b.size)(s:wq.heap.size<=g)(t:w1.heap.size<=g)(y: ∀p,p<i-> ∀j u,(el m)[j]? =J u->b[p*2+j]? =J u)(A: ∀p,p<i*2->a[p]? =b[p]?)(q:a[i*2]? =J l)(r:a[i*2+1]? =J o):Ln wq w1 w e 2 el ao n cap m (i+1):=by
 refine .inr ⟨g,a,v,z,k,f,Aa,s,t,λp hp j u c=> ?_⟩;rw[d] at c;have h:j<2:=(sU.1 c).1;by_cases e:p=i
 .subst e
  match j,h,c with
  |0,_,c=>rw[<-c];exact q
  |1,_,c=>rw[<-c];exact r
 rw[A _ Aa];exact y p Aa j u (by rw[d];exact c)
