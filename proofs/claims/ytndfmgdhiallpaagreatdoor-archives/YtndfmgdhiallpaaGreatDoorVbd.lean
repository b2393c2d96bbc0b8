import Derived.Test.YtndfmgdhiallpaaGreatDoorVbc
set_option linter.all false
set_option maxRecDepth 100000
set_option maxHeartbeats 16000000
open _root_ renaming Option.some->J,Option.none->O,Int->Z,Nat->N,Go.Value.int->I,Go.Value.string->G,Go.IntKind.i64->Q,ByteArray->Y,List->E,Go.World->U,Go.Value.slice->K,Go.Value->β,Go.Obj.cells->γ,Go.Value.pointer->δ,Go.Ending.returned->ε,Go.Value.bool->ζ,Go.Value.tuple->η,Bool.true->θ,Bool.false->ι,Go.Calls->μ,Go.TypeId->ν,Array->φ,Go.RowKit.Hid->χ,Go.Proofs.Tryz.prog->ψ
namespace Go.Proofs.YtndfmgdhiallpaaGreatDoor
open Go.RowKit Go.Maps Go.Proofs.Tryz
def LK(e:ν)(k:N)(w w' :U):Prop:= ∀v n xs,w.ownsRow 0 e k v n xs->w'.ownsRow 0 e k v n xs
def LK.trans{e:ν}{k:N}{a b c:U}(h:LK e k a b)(f:LK e k b c):LK e k a c:=λv n d g=>f v n d (h v n d g)
def LK.of{e:ν}{k:N}{S:N->Prop}{w w' :U}(h:Ag S w w')(i: ∀g a,w.heap[g]? =J (γ a e (0,0))->¬S g):LK e k w w' :=λv n j c=>Ax c h (λb d=>by
 obtain⟨a,f⟩:=Aj c d;exact i b a f)
def Rv{wq:U}{e:ν}{k:N}{el:Y->E β}{R:E (β×Y)}{v:β}(l: ∀x,x∈R->Eo wq e k el x.1 x.2)(j: ∀g,v.ownBlock=J g->wq.heap.size<=g)(n:N): ∀x,x∈R->iI x.1 v n:=by
 intro x o ao q cap c h0 g i m;obtain⟨ao2,s,cap2,f,_,d⟩:=l x o;rw[c] at f;injection f with e3 e4 e5;subst e3 e4;rcases d with d|⟨g2,h,a,b,_⟩
 .exact absurd d h0
 rw[i] at a;injection a with a;injection a with a;subst a;have p:=(qW.1 b).1;have r:=j g m;omega
def UU{R:E (β×Y)}{v:β}{ao:Option Addr}{n cap:N}{m:Y}(h: ∀x,x∈R->iI x.1 v n)(b:v=K ao n cap): ∀x,x∈R++[(v,m)]->iI x.1 v n:=by
 intro x a;rcases rR.1 a with a|a
 .exact h x a
 rw[rC] at a;subst a;intro ao2 q cap2 e _ g _ _;simp only at e;rw[b] at e;injection e with _ e _;omega
def UV{V:U}{e:ν}{k:N}{el:Y->E β}{R:E (β×Y)}{v:β}{n g cap:N}(h: ∀x,x∈R->iI x.1 v n)(p: ∀x,x∈R->Eo V e k el x.1 x.2)(c:v.ownBlock=J g\/g=V.heap.size): ∀x,x∈R->iI x.1 (K (J ⟨g,0,O⟩) (n+1) cap) (n+1):=by
 intro x m ao q cap2 b h0 g2 l r;have e:g=g2:=rD r;subst e;rcases c with c|c
 .have:=h x m ao q cap2 b h0 g l c;omega
 obtain⟨ao2,u,i,j,_,f⟩:=p x m;rw[b] at j;injection j with e3 e4 e5;subst e3 e4;rcases f with f|⟨s,o,a,d,_⟩
 .exact absurd f h0
 rw[l] at a;injection a with a;injection a with a;subst a;have t:=(qW.1 d).1;omega
def gv(w1 w wr:U)(b c n j:N)(m:Y)(_RF RL RT:E (β×Y))(l:β)(B:Y×Y×Y×β×β×U):Prop:= ∃s2 R2,CD w1 wr b (c+1) s2 R2 RL RT/\R2.length<=4*c+j/\wr.ownsRow 0 tF 2 l (n+j) ((List.replicate (n+j) (Qq m)).flatten)/\(∀g,l.ownBlock=J g->w1.heap.size<=g)/\(∀x,x∈R2->iI x.1 l (n+j))/\LK tL 2 w wr/\s2.base=B
def gw(w1 w wr:U)(b c n j:N)(m:Y)(RF _RL RT:E (β×Y))(l:β)(B:Y×Y×Y×β×β×U):Prop:= ∃s2 R2,CD w1 wr b (c+1) s2 RF R2 RT/\R2.length<=4*c+j/\wr.ownsRow 0 tL 2 l (n+j) ((List.replicate (n+j) (Qr m)).flatten)/\(∀g,l.ownBlock=J g->w1.heap.size<=g)/\(∀x,x∈R2->iI x.1 l (n+j))/\LK tF 2 w wr/\s2.base=B
def Md{w1 wq:U}{b c:N}{s:WS}{RF RL RT:E (β×Y)}(hc:c<=100000000)(w:U)(h:CD w1 w b c s RF RL RT)(ao:Option Addr)(n cap:N)(hn:n<=1500000)(xs:E β)(hv:w.ownsRow 0 tF 2 (K ao n cap) n xs)(hb: ∀g,(Value.slice ao n cap).ownBlock=J g->wq.heap.size<=g/\w1.heap.size<=g)(hq: ∀x,x∈RF->Eo wq tF 2 Qq x.1 x.2):
 μ ψ 116 #[δ (J ⟨b,0,O⟩),K ao n cap] w λr w' =>r=ε (η #[])/\LK tL 2 w w' /\NR w1 w' b (c+1) s.base RL RT:=by
 have H1:=Af (fY s c Aa b w h.hp);have HL:=Af h;have g6:=h.few.1;have HQ:=Af hq;have HV:=Af (λm=>Ln.start (el:=Qq) hv hb m);have HB:=Af hb;clear h hq hv hb;go_in;go_wp2_with fail;refine H1.mono ?_;rintro r w2 ⟨m,rfl,S,c6⟩;have HL2:=Af (HL.rec_ S c6 Aa rfl rfl rfl rfl rfl rfl);have HP2:=Af ((HV m).kept S (λg cur hg e=>AR (e ▸ hg) HL.hp Ac));have HO2:χ (LK tL 2 w w2):=LK.of S (λg cur hg e=>AR (e ▸ hg) HL.hp Ac);clear S c6 H1 HL HV;go_wp2;go_loopw [5] (λx wr=> ∃i:N,i<=n/\x=I Q i/\χ (CD w1 wr b (c+1) s RF RL RT)/\χ (Ln wq w1 wr tF 2 Qq ao n cap m i)/\χ (LK tL 2 w wr)) (λx _=>n- (intOf x).toNat)
 .exact aaY
 clear HL2 HP2 HO2;obtain⟨i,hi,rfl,HL,HP,HO⟩:=hrel;by_cases g7:i<n
 .have b6:(i:Z)<(n:Z):=Aa;obtain⟨g,cur,ha,hg,hnc,hcm,hcs,b4,b3,hfil⟩: ∃g cur,ao=J ⟨g,0,O⟩/\wr.heap[g]? =J (γ cur tF (0,0))/\n<=cap/\cap<=maxLen/\cur.size=cap*2/\wq.heap.size<=g/\w1.heap.size<=g/\∀p,p<i-> ∀j u,(Qq m)[j]? =J u->cur[p*2+j]? =J u:=aaK;have M:i*2+2<=cur.size:=Aa;obtain⟨y0,k0⟩: ∃y0,wr.cell? ⟨g,i*2,O⟩=J y0:=⟨cur[i*2]'Aa,by rw[qV wr g _ _ _ (0,0) hg];exact rZ _⟩;obtain⟨y1,k1⟩: ∃y1,wr.cell? ⟨g,i*2+1,O⟩=J y1:=⟨cur[i*2+1]'Aa,by rw[qV wr g _ _ _ (0,0) hg];exact rZ _⟩;have f0:=rp wr g (i*2) _ _ hg;have f1:=rp wr g (i*2+1) _ _ hg;obtain⟨g4,hg',hs',hlow,e0,e1,hon⟩:=Yj hg (i*2) (G m) (G ⟨#[]⟩) M;have HL2:=Af (HL.wrF hg hon (uh HQ) b4 b3);have HP2:=Af (Ln.next (wq:=wq) (w1:=w1) (el:=Qq) (m:=m) rfl ha hg' hnc hcm hcs hs' b4 b3 hfil hlow e0 e1);have HO2:χ (LK tL 2 w _):=HO.trans (LK.of hon (λg2 cur2 hg2 e=>AR hg (e ▸ hg2) Ac));exact aca
 have b6:¬(i:Z)<(n:Z):=Aa;have b5:i=n:=Aa;have HW:χ (wr.ownsRow 0 tF 2 (K ao n cap) n ((List.replicate n (Qq m)).flatten)):=by rw[b5] at HP;exact HP.own rfl Aa
 have a5:χ (gv w1 w wr b c n 0 m RF RL RT (K ao n cap) s.base):=⟨s,RF,HL,Aa,HW,λg e=>(HB g e).2,Rv (uh HQ) (λg e=>(HB g e).1) n,HO,rfl⟩;clear b5 HP HQ HL HW HO HB;go_wp2;go_loopw [1,6] (λl x wr=> ∃(j:N) (ao2:Option Addr) (cap2:N),j<=4/\x=I Q j/\l=K ao2 (n+j) cap2/\χ (gv w1 w wr b c n j m RF RL RT (K ao2 (n+j) cap2) s.base)) (λ_ x _=>4- (intOf x).toNat)
 .exact ⟨0,ao,cap,Aa,rfl,rfl,a5⟩
 clear a5;obtain⟨j,ao2,cap2,hj,rfl,rfl,HI⟩:=hrel;obtain⟨s2,a,b7,g5,a0,b0,W,X,V⟩:=uh HI;have HBA:=Af V;have HL:=Af b7;have R:=Af a0;have HB2:=Af b0;have a4:=Af W;have HLK:=Af X;clear b7 a0 b0 W X V HI;by_cases g9:j<4
 .have hj4I:(j:Z)<4:=Aa;have HF:χ (Eo wr tF 2 Qq (K ao2 (n+j) cap2) m):=UT rfl Aa Aa (uh R);have c9:wr.cell? ⟨b,5,O⟩=J s2.r5:=by rw[qV wr b 5 _ _ (0,0) (uh HL).hp];rfl
  have f9:=rp wr b 5 _ _ HL.hp;obtain⟨a9,z9,e9⟩:=Cr HL.rf.1;obtain⟨y,A,a8⟩:=Cr HL.rf.2.1;have B:=Af e9;have o:=Af a8;rw[e9] at c9;obtain⟨i0,e4,f7,f8,g0⟩:=rN nN;obtain⟨j0,e5,f4,f5,f6⟩:=rN ML;obtain⟨t0,e7,e8,f2,f3⟩:=rN Jr;have d5:χ ((wr.alloc (γ #[K ao2 (n+j) cap2] Yh)).ownsRow 0 Yh 1 (K a9 a.length z9) a.length (a.map (·.1))):=by rw[<-uh B];exact Ax HL.rf.1 ((Ag.refl (λ_=>False) wr).alloc _) (λ_ _ x=>x)
  have d2:=Af (AB wr [K ao2 (n+j) cap2] Yh);have d8:χ ((wr.alloc (γ #[K ao2 (n+j) cap2] Yh)).heap.size=wr.heap.size+1):=by unfold χ;rw[rr]
  have a7:χ (a.length+1<=4*(c+1)):=by unfold χ;omega
  have a6:χ (∀z C w3,(wr.alloc (γ #[K ao2 (n+j) cap2] Yh)).grownBy w3 (Value.slice a9 a.length z9).ownBlock->w3.cell? ⟨b,5,O⟩=J (K a9 a.length z9)/\w3.cell? ⟨b,6,O⟩=J (K y a.length A)/\w3.frozen? ⟨b,5,O⟩=ι/\w3.frozen? ⟨b,6,O⟩=ι/\((w3.setCell ⟨b,5,O⟩ (K (J ⟨z,0,O⟩) (a.length+1) C)).alloc (γ #[G m] 9)).ownsRow 0 9 1 (K y a.length A) a.length (a.map λx=>Value.string x.2)/\∀j u,([G m]:E β)[j]? =J u->((w3.setCell ⟨b,5,O⟩ (K (J ⟨z,0,O⟩) (a.length+1) C)).alloc (γ #[G m] 9)).cell? ((⟨w3.heap.size,0,O⟩:Addr).add j)=J u):=λz C w3 f=>by
   rw[<-uh B] at f;obtain⟨e6,T⟩:=HL.oneF f;refine⟨?_, ?_,rp w3 b 5 _ _ T,rp w3 b 6 _ _ T, ?_, ?_⟩
   .rw[qV w3 b 5 _ _ (0,0) T,<-uh B];rfl
   .rw[qV w3 b 6 _ _ (0,0) T,<-uh o];rfl
   .rw[<-uh o];exact HL.twoF e6 _ _
   have:=AB (w3.setCell ⟨b,5,O⟩ (K (J ⟨z,0,O⟩) (a.length+1) C)) [G m] 9;exact aay
  have a3:χ (∀z C q t w3 d,w3.ownsRow 0 Yh 1 (K (J ⟨z,0,O⟩) (a.length+1) C) (a.length+1) (a.map (·.1)++[K ao2 (n+j) cap2])->(wr.alloc (γ #[K ao2 (n+j) cap2] Yh)).grownBy w3 (Value.slice a9 a.length z9).ownBlock->((Value.slice a9 a.length z9).ownBlock=J z\/z=wr.heap.size+1)->d.ownsRow 0 9 1 (K (J ⟨q,0,O⟩) (a.length+1) t) (a.length+1) (a.map (λx=>Value.string x.2)++[G m])->((w3.setCell ⟨b,5,O⟩ (K (J ⟨z,0,O⟩) (a.length+1) C)).alloc (γ #[G m] 9)).grownBy d (Value.slice y a.length A).ownBlock->((Value.slice y a.length A).ownBlock=J q\/q=w3.heap.size+1)->d.cell? ⟨b,6,O⟩=J (K y a.length A)/\d.frozen? ⟨b,6,O⟩=ι/\((d.setCell ⟨b,6,O⟩ (K (J ⟨q,0,O⟩) (a.length+1) t)).alloc (γ #[G m,(G ⟨#[]⟩)] tF)).ownsRow 0 tF 2 (K ao2 (n+j) cap2) (n+j) ((List.replicate (n+j) (Qq m)).flatten)/\(∀j u,(Qq m)[j]? =J u->((d.setCell ⟨b,6,O⟩ (K (J ⟨q,0,O⟩) (a.length+1) t)).alloc (γ #[G m,(G ⟨#[]⟩)] tF)).cell? ((⟨d.heap.size,0,O⟩:Addr).add j)=J u)/\∀g8 c8 w8,w8.ownsRow 0 tF 2 (K (J ⟨g8,0,O⟩) (n+j+1) c8) (n+j+1) ((List.replicate (n+j) (Qq m)).flatten++Qq m)->((d.setCell ⟨b,6,O⟩ (K (J ⟨q,0,O⟩) (a.length+1) t)).alloc (γ #[G m,(G ⟨#[]⟩)] tF)).grownBy w8 (Value.slice ao2 (n+j) cap2).ownBlock->((Value.slice ao2 (n+j) cap2).ownBlock=J g8\/g8=((d.setCell ⟨b,6,O⟩ (K (J ⟨q,0,O⟩) (a.length+1) t)).alloc (γ #[G m,(G ⟨#[]⟩)] tF)).heap.size)->Py ((d.setCell ⟨b,6,O⟩ (K (J ⟨q,0,O⟩) (a.length+1) t)).alloc (γ #[G m,(G ⟨#[]⟩)] tF)) w8 (K ao2 (n+j) cap2) ((n+j)*2)->gv w1 w w8 b c n (j+1) m RF RL RT (K (J ⟨g8,0,O⟩) (n+(j+1)) c8) s.base):=λz C q t w3 d h3 f H h6 F L=>by
   rw[<-uh B] at f H;rw[<-uh o] at F L;obtain⟨c7,b1,b2⟩:=HL.endF (uh HF) (uh a7) h3 f H h6 F L;have c1: ∀{e:ν},e≠wT->e≠Yh->e≠9-> ∀g cur,wr.heap[g]? =J (γ cur e (0,0))->¬(g=b\/s2.r5.ownBlock=J g\/s2.r6.ownBlock=J g):=λh1 h2 h3 g cur hg hS=>by
    rcases hS with hS|hS|hS
    .subst hS;exact AR hg HL.hp h1
    .obtain ⟨cur2,hg2⟩:=Aj HL.rf.1 hS;exact AR hg hg2 h2
    obtain⟨cur2,hg2⟩:=Aj HL.rf.2.1 hS;exact AR hg hg2 h3
   have howV:=Ax (uh R) (b2.alloc (γ #[G m,(G ⟨#[]⟩)] tF)) (λg hg hS=>by
    obtain⟨cur,hg2⟩:=Aj (uh R) hg;exact c1 Ac Ac Ac g cur hg2 hS)
   have b9:LK tL 2 wr ((d.setCell ⟨b,6,O⟩ (K (J ⟨q,0,O⟩) (a.length+1) t)).alloc (γ #[G m,(G ⟨#[]⟩)] tF)):=LK.of (b2.alloc _) (c1 Ac Ac Ac);have hfinA:=b1.old ((Ag.refl (λ_=>False) (d.setCell ⟨b,6,O⟩ (K (J ⟨q,0,O⟩) (a.length+1) t))).alloc (γ #[G m,(G ⟨#[]⟩)] tF));refine⟨?_,rp d b 6 _ _ c7,howV, ?_,λg8 c8 w8 h8 hg8 hl8 v=> ?_⟩
   .rw[qV d b 6 _ _ (0,0) c7,<-uh o];rfl
   .have:=AB (d.setCell ⟨b,6,O⟩ (K (J ⟨q,0,O⟩) (a.length+1) t)) (Qq m) tF;exact aay
   have D:=UU (m:=m) (uh a4) rfl;have d9:=hfinA.apF howV (uh HB2) hg8 v D;refine⟨_,_,d9,by rw[qU,uP];omega, ?_,λg e=> ?_,UV D (λx hx=>hfinA.rf.2.2 x hx) hl8,HLK.trans (b9.trans ?_),HBA⟩
   .rw[Ru] at h8;exact h8
   .exact wY
   exact wi
  clear HL HF a7 B o e9 a8 R HB2 a4 HLK;go_wp2_with (at_builtin;first
   |(refine wpList_append_lies _ rfl (.tmp 28) (.tmp 30) 73 rfl 0 Yh i0 (K O 0 0) 1 24 underlying73 e4 f7 f8 g0 rfl Aa (K a9 a.length z9) a.length (a.map (·.1)) rfl (uh d5) ⟨wr.heap.size,0,O⟩ 1 1 [K ao2 (n+j) cap2] rfl rfl (uh d2) (by intro u hu;simp at hu;subst hu;rfl) Aa (by unfold maxLen;omega) Aa Aa (wr.heap.size+1) (uh d8) ?_;intro z C w3 h3 f H M;obtain⟨q9,g1,x9,g3,c4,c2⟩:=a6 z C w3 f;have d6:=Af c4;have d3:=Af c2;have a1:=Af (λq t d=>a3 z C q t w3 d h3 f H);clear h3 f H M c9 f9 c4 c2)
   |(refine wpList_append_lies _ rfl (.tmp 38) (.tmp 40) 45 rfl 0 9 j0 (G ⟨#[]⟩) 1 16 underlying45 e5 f4 f5 f6 rfl Aa (K y a.length A) a.length _ rfl (uh d6) ⟨w3.heap.size,0,O⟩ 1 1 [G m] rfl rfl (uh d3) (by intro u hu;simp at hu;subst hu;rfl) Aa (by unfold maxLen;omega) Aa Aa (w3.heap.size+1) (by rw[rr,FN]) ?_;intro q t d h6 F L c0;obtain⟨d0,d1,c5,c3,P⟩:=a1 q t d h6 F L;have d7:=Af c5;have d4:=Af c3;have a2:=Af P;clear h6 F L c0 c5 c3 P q9 g1 x9 g3)
   |(refine GW rfl (.tmp 44) (.tmp 47) 41 rfl tF t0 (.agg #[G ⟨#[]⟩,G ⟨#[]⟩]) 2 32 underlying41 e7 e8 f2 f3 rfl Aa (K ao2 (n+j) cap2) (n+j) _ rfl (uh d7) ⟨d.heap.size,0,O⟩ 1 1 (Qq m) rfl rfl (uh d4) (by intro u hu;simp[Qq] at hu;rcases hu with rfl|rfl<;>rfl) Aa (by unfold maxLen;omega) Aa ?_;intro g8 c8 w8 h8 hg8 hl8 v;have HX:=Af (a2 g8 c8 w8 h8 hg8 hl8 v);clear h8 hg8 hl8 v d0 d1))
  exact aaj
 exact wm
def Zw{w1 wq:U}{b c:N}{s:WS}{RF RL RT:E (β×Y)}(hc:c<=100000000)(w:U)(h:CD w1 w b c s RF RL RT)(ao:Option Addr)(n cap:N)(hn:n<=1500000)(xs:E β)(hv:w.ownsRow 0 tL 2 (K ao n cap) n xs)(hb: ∀g,(Value.slice ao n cap).ownBlock=J g->wq.heap.size<=g/\w1.heap.size<=g)(hq: ∀x,x∈RL->Eo wq tL 2 Qr x.1 x.2):
 μ ψ 117 #[δ (J ⟨b,0,O⟩),K ao n cap] w λr w' =>r=ε (η #[])/\LK tF 2 w w' /\qv w1 w' b (c+1) s.base RF RT:=by
 have H1:=Af (fY s c Aa b w h.hp);have HL:=Af h;have g6:=h.few.2.1;have HQ:=Af hq;have HV:=Af (λm=>Ln.start (el:=Qr) hv hb m);have HB:=Af hb;clear h hq hv hb;go_in;go_wp2_with fail;refine H1.mono ?_;rintro r w2 ⟨m,rfl,S,c6⟩;have HL2:=Af (HL.rec_ S c6 Aa rfl rfl rfl rfl rfl rfl);have HP2:=Af ((HV m).kept S (λg cur hg e=>AR (e ▸ hg) HL.hp Ac));have HO2:χ (LK tF 2 w w2):=LK.of S (λg cur hg e=>AR (e ▸ hg) HL.hp Ac);clear S c6 H1 HL HV;go_wp2;go_loopw [5] (λx wr=> ∃i:N,i<=n/\x=I Q i/\χ (CD w1 wr b (c+1) s RF RL RT)/\χ (Ln wq w1 wr tL 2 Qr ao n cap m i)/\χ (LK tF 2 w wr)) (λx _=>n- (intOf x).toNat)
 .exact aaY
 clear HL2 HP2 HO2;obtain⟨i,hi,rfl,HL,HP,HO⟩:=hrel;by_cases g7:i<n
 .have b6:(i:Z)<(n:Z):=Aa;obtain⟨g,cur,ha,hg,hnc,hcm,hcs,b4,b3,hfil⟩: ∃g cur,ao=J ⟨g,0,O⟩/\wr.heap[g]? =J (γ cur tL (0,0))/\n<=cap/\cap<=maxLen/\cur.size=cap*2/\wq.heap.size<=g/\w1.heap.size<=g/\∀p,p<i-> ∀j u,(Qr m)[j]? =J u->cur[p*2+j]? =J u:=aaK;have M:i*2+2<=cur.size:=Aa;obtain⟨y0,k0⟩: ∃y0,wr.cell? ⟨g,i*2,O⟩=J y0:=⟨cur[i*2]'Aa,by rw[qV wr g _ _ _ (0,0) hg];exact rZ _⟩;obtain⟨y1,k1⟩: ∃y1,wr.cell? ⟨g,i*2+1,O⟩=J y1:=⟨cur[i*2+1]'Aa,by rw[qV wr g _ _ _ (0,0) hg];exact rZ _⟩;have f0:=rp wr g (i*2) _ _ hg;have f1:=rp wr g (i*2+1) _ _ hg;obtain⟨g4,hg',hs',hlow,e0,e1,hon⟩:=Yj hg (i*2) (G m) (I Q 0) M;have HL2:=Af (HL.wrL hg hon (uh HQ) b4 b3);have HP2:=Af (Ln.next (wq:=wq) (w1:=w1) (el:=Qr) (m:=m) rfl ha hg' hnc hcm hcs hs' b4 b3 hfil hlow e0 e1);have HO2:χ (LK tF 2 w _):=HO.trans (LK.of hon (λg2 cur2 hg2 e=>AR hg (e ▸ hg2) Ac));exact aca
 have b6:¬(i:Z)<(n:Z):=Aa;have b5:i=n:=Aa;have HW:χ (wr.ownsRow 0 tL 2 (K ao n cap) n ((List.replicate n (Qr m)).flatten)):=by rw[b5] at HP;exact HP.own rfl Aa
 have a5:χ (gw w1 w wr b c n 0 m RF RL RT (K ao n cap) s.base):=⟨s,RL,HL,Aa,HW,λg e=>(HB g e).2,Rv (uh HQ) (λg e=>(HB g e).1) n,HO,rfl⟩;clear b5 HP HQ HL HW HO HB;go_wp2;go_loopw [1,6] (λl x wr=> ∃(j:N) (ao2:Option Addr) (cap2:N),j<=4/\x=I Q j/\l=K ao2 (n+j) cap2/\χ (gw w1 w wr b c n j m RF RL RT (K ao2 (n+j) cap2) s.base)) (λ_ x _=>4- (intOf x).toNat)
 .exact ⟨0,ao,cap,Aa,rfl,rfl,a5⟩
 clear a5;obtain⟨j,ao2,cap2,hj,rfl,rfl,HI⟩:=hrel;obtain⟨s2,a,b7,g5,a0,b0,W,X,V⟩:=uh HI;have HBA:=Af V;have HL:=Af b7;have R:=Af a0;have HB2:=Af b0;have a4:=Af W;have HLK:=Af X;clear b7 a0 b0 W X V HI;by_cases g9:j<4
 .have hj4I:(j:Z)<4:=Aa;have HF:χ (Eo wr tL 2 Qr (K ao2 (n+j) cap2) m):=UT rfl Aa Aa (uh R);have c9:wr.cell? ⟨b,7,O⟩=J s2.r7:=by rw[qV wr b 7 _ _ (0,0) (uh HL).hp];rfl
  have f9:=rp wr b 7 _ _ HL.hp;obtain⟨a9,z9,e9⟩:=Cr HL.rl.1;obtain⟨y,A,a8⟩:=Cr HL.rl.2.1;have B:=Af e9;have o:=Af a8;rw[e9] at c9;obtain⟨i0,e4,f7,f8,g0⟩:=rN nO;obtain⟨j0,e5,f4,f5,f6⟩:=rN ML;obtain⟨t0,e7,e8,f2,f3⟩:=rN SF;have d5:χ ((wr.alloc (γ #[K ao2 (n+j) cap2] Yi)).ownsRow 0 Yi 1 (K a9 a.length z9) a.length (a.map (·.1))):=by rw[<-uh B];exact Ax HL.rl.1 ((Ag.refl (λ_=>False) wr).alloc _) (λ_ _ x=>x)
  have d2:=Af (AB wr [K ao2 (n+j) cap2] Yi);have d8:χ ((wr.alloc (γ #[K ao2 (n+j) cap2] Yi)).heap.size=wr.heap.size+1):=by unfold χ;rw[rr]
  have a7:χ (a.length+1<=4*(c+1)):=by unfold χ;omega
  have a6:χ (∀z C w3,(wr.alloc (γ #[K ao2 (n+j) cap2] Yi)).grownBy w3 (Value.slice a9 a.length z9).ownBlock->w3.cell? ⟨b,7,O⟩=J (K a9 a.length z9)/\w3.cell? ⟨b,8,O⟩=J (K y a.length A)/\w3.frozen? ⟨b,7,O⟩=ι/\w3.frozen? ⟨b,8,O⟩=ι/\((w3.setCell ⟨b,7,O⟩ (K (J ⟨z,0,O⟩) (a.length+1) C)).alloc (γ #[G m] 9)).ownsRow 0 9 1 (K y a.length A) a.length (a.map λx=>Value.string x.2)/\∀j u,([G m]:E β)[j]? =J u->((w3.setCell ⟨b,7,O⟩ (K (J ⟨z,0,O⟩) (a.length+1) C)).alloc (γ #[G m] 9)).cell? ((⟨w3.heap.size,0,O⟩:Addr).add j)=J u):=λz C w3 f=>by
   rw[<-uh B] at f;obtain⟨e6,T⟩:=HL.oneL f;refine⟨?_, ?_,rp w3 b 7 _ _ T,rp w3 b 8 _ _ T, ?_, ?_⟩
   .rw[qV w3 b 7 _ _ (0,0) T,<-uh B];rfl
   .rw[qV w3 b 8 _ _ (0,0) T,<-uh o];rfl
   .rw[<-uh o];exact HL.twoL e6 _ _
   have:=AB (w3.setCell ⟨b,7,O⟩ (K (J ⟨z,0,O⟩) (a.length+1) C)) [G m] 9;exact aay
  have a3:χ (∀z C q t w3 d,w3.ownsRow 0 Yi 1 (K (J ⟨z,0,O⟩) (a.length+1) C) (a.length+1) (a.map (·.1)++[K ao2 (n+j) cap2])->(wr.alloc (γ #[K ao2 (n+j) cap2] Yi)).grownBy w3 (Value.slice a9 a.length z9).ownBlock->((Value.slice a9 a.length z9).ownBlock=J z\/z=wr.heap.size+1)->d.ownsRow 0 9 1 (K (J ⟨q,0,O⟩) (a.length+1) t) (a.length+1) (a.map (λx=>Value.string x.2)++[G m])->((w3.setCell ⟨b,7,O⟩ (K (J ⟨z,0,O⟩) (a.length+1) C)).alloc (γ #[G m] 9)).grownBy d (Value.slice y a.length A).ownBlock->((Value.slice y a.length A).ownBlock=J q\/q=w3.heap.size+1)->d.cell? ⟨b,8,O⟩=J (K y a.length A)/\d.frozen? ⟨b,8,O⟩=ι/\((d.setCell ⟨b,8,O⟩ (K (J ⟨q,0,O⟩) (a.length+1) t)).alloc (γ #[G m,(I Q 0)] tL)).ownsRow 0 tL 2 (K ao2 (n+j) cap2) (n+j) ((List.replicate (n+j) (Qr m)).flatten)/\(∀j u,(Qr m)[j]? =J u->((d.setCell ⟨b,8,O⟩ (K (J ⟨q,0,O⟩) (a.length+1) t)).alloc (γ #[G m,(I Q 0)] tL)).cell? ((⟨d.heap.size,0,O⟩:Addr).add j)=J u)/\∀g8 c8 w8,w8.ownsRow 0 tL 2 (K (J ⟨g8,0,O⟩) (n+j+1) c8) (n+j+1) ((List.replicate (n+j) (Qr m)).flatten++Qr m)->((d.setCell ⟨b,8,O⟩ (K (J ⟨q,0,O⟩) (a.length+1) t)).alloc (γ #[G m,(I Q 0)] tL)).grownBy w8 (Value.slice ao2 (n+j) cap2).ownBlock->((Value.slice ao2 (n+j) cap2).ownBlock=J g8\/g8=((d.setCell ⟨b,8,O⟩ (K (J ⟨q,0,O⟩) (a.length+1) t)).alloc (γ #[G m,(I Q 0)] tL)).heap.size)->Py ((d.setCell ⟨b,8,O⟩ (K (J ⟨q,0,O⟩) (a.length+1) t)).alloc (γ #[G m,(I Q 0)] tL)) w8 (K ao2 (n+j) cap2) ((n+j)*2)->gw w1 w w8 b c n (j+1) m RF RL RT (K (J ⟨g8,0,O⟩) (n+(j+1)) c8) s.base):=λz C q t w3 d h3 f H h6 F L=>by
   rw[<-uh B] at f H;rw[<-uh o] at F L;obtain⟨c7,b1,b2⟩:=HL.endL (uh HF) (uh a7) h3 f H h6 F L;have c1: ∀{e:ν},e≠wT->e≠Yi->e≠9-> ∀g cur,wr.heap[g]? =J (γ cur e (0,0))->¬(g=b\/s2.r7.ownBlock=J g\/s2.r8.ownBlock=J g):=λh1 h2 h3 g cur hg hS=>by
    rcases hS with hS|hS|hS
    .subst hS;exact AR hg HL.hp h1
    .obtain ⟨cur2,hg2⟩:=Aj HL.rl.1 hS;exact AR hg hg2 h2
    obtain⟨cur2,hg2⟩:=Aj HL.rl.2.1 hS;exact AR hg hg2 h3
   have howV:=Ax (uh R) (b2.alloc (γ #[G m,(I Q 0)] tL)) (λg hg hS=>by
    obtain⟨cur,hg2⟩:=Aj (uh R) hg;exact c1 Ac Ac Ac g cur hg2 hS)
   have b9:LK tF 2 wr ((d.setCell ⟨b,8,O⟩ (K (J ⟨q,0,O⟩) (a.length+1) t)).alloc (γ #[G m,(I Q 0)] tL)):=LK.of (b2.alloc _) (c1 Ac Ac Ac);have hfinA:=b1.old ((Ag.refl (λ_=>False) (d.setCell ⟨b,8,O⟩ (K (J ⟨q,0,O⟩) (a.length+1) t))).alloc (γ #[G m,(I Q 0)] tL));refine⟨?_,rp d b 8 _ _ c7,howV, ?_,λg8 c8 w8 h8 hg8 hl8 v=> ?_⟩
   .rw[qV d b 8 _ _ (0,0) c7,<-uh o];rfl
   .have:=AB (d.setCell ⟨b,8,O⟩ (K (J ⟨q,0,O⟩) (a.length+1) t)) (Qr m) tL;exact aay
   have D:=UU (m:=m) (uh a4) rfl;have d9:=hfinA.apL howV (uh HB2) hg8 v D;refine⟨_,_,d9,by rw[qU,uP];omega, ?_,λg e=> ?_,UV D (λx hx=>hfinA.rl.2.2 x hx) hl8,HLK.trans (b9.trans ?_),HBA⟩
   .rw[Ru] at h8;exact h8
   .exact wY
   exact wi
  clear HL HF a7 B o e9 a8 R HB2 a4 HLK;go_wp2_with (at_builtin;first
   |(refine wpList_append_lies _ rfl (.tmp 28) (.tmp 30) 74 rfl 0 Yi i0 (K O 0 0) 1 24 underlying74 e4 f7 f8 g0 rfl Aa (K a9 a.length z9) a.length (a.map (·.1)) rfl (uh d5) ⟨wr.heap.size,0,O⟩ 1 1 [K ao2 (n+j) cap2] rfl rfl (uh d2) (by intro u hu;simp at hu;subst hu;rfl) Aa (by unfold maxLen;omega) Aa Aa (wr.heap.size+1) (uh d8) ?_;intro z C w3 h3 f H M;obtain⟨q9,g1,x9,g3,c4,c2⟩:=a6 z C w3 f;have d6:=Af c4;have d3:=Af c2;have a1:=Af (λq t d=>a3 z C q t w3 d h3 f H);clear h3 f H M c9 f9 c4 c2)
   |(refine wpList_append_lies _ rfl (.tmp 38) (.tmp 40) 45 rfl 0 9 j0 (G ⟨#[]⟩) 1 16 underlying45 e5 f4 f5 f6 rfl Aa (K y a.length A) a.length _ rfl (uh d6) ⟨w3.heap.size,0,O⟩ 1 1 [G m] rfl rfl (uh d3) (by intro u hu;simp at hu;subst hu;rfl) Aa (by unfold maxLen;omega) Aa Aa (w3.heap.size+1) (by rw[rr,FN]) ?_;intro q t d h6 F L c0;obtain⟨d0,d1,c5,c3,P⟩:=a1 q t d h6 F L;have d7:=Af c5;have d4:=Af c3;have a2:=Af P;clear h6 F L c0 c5 c3 P q9 g1 x9 g3)
   |(refine GW rfl (.tmp 44) (.tmp 47) 42 rfl tL t0 (.agg #[G ⟨#[]⟩,I Q 0]) 2 24 underlying42 e7 e8 f2 f3 rfl Aa (K ao2 (n+j) cap2) (n+j) _ rfl (uh d7) ⟨d.heap.size,0,O⟩ 1 1 (Qr m) rfl rfl (uh d4) (by intro u hu;simp[Qr] at hu;rcases hu with rfl|rfl<;>rfl) Aa (by unfold maxLen;omega) Aa ?_;intro g8 c8 w8 h8 hg8 hl8 v;have HX:=Af (a2 g8 c8 w8 h8 hg8 hl8 v);clear h8 hg8 hl8 v d0 d1))
  exact aaj
 exact wm
def gz:(prog.info? 39).map (λi=>(i.zero,i.size,i.bytes))=J (J (.agg #[G ⟨#[]⟩,ζ ι,G ⟨#[]⟩]),3,40):=Ab
def KH(T:E Bw):E β:=T.flatMap λe=>[G e.nm,ζ e.ln,G e.dt]
def Rw(e:Bw)(T:E Bw):KH (e::T)=G e.nm:: ζ e.ln:: G e.dt::KH T:=rfl
def PB: ∀T:E Bw,(KH T).length=T.length*3
 |[]=>rfl
 |e::T=>by rw[Rw];simp only[sB,PB T];omega
def gA(T:E Bw): ∀u∈KH T,u.oneCell' =true:=by
 intro u a;obtain⟨f,_,h⟩:=xC.1 a;simp at h;rcases h with rfl|rfl|rfl<;>rfl
def PC: ∀(T:E Bw) (i:N),i<T.length->(KH T)[i*3]? =J (G (T.getD i AA).nm)/\(KH T)[i*3+1]? =J (ζ (T.getD i AA).ln)/\(KH T)[i*3+2]? =J (G (T.getD i AA).dt)
 |[],i,h=>by simp at h
 |e::T,0,_=>⟨rfl,rfl,rfl⟩
 |e::T,i+1,h=>by
  have a:=PC T i (by simpa using h);rw[Rw,show(i+1)*3=i*3+1+1+1 by omega];exact a
def PD(cur:φ β)(T:E Bw):Prop:= ∀i,i<T.length->cur[i*3]? =J (G (T.getD i AA).nm)/\cur[i*3+1]? =J (ζ (T.getD i AA).ln)/\cur[i*3+2]? =J (G (T.getD i AA).dt)
def PD.ents{w:U}{g:N}{a:φ β}{T:E Bw}(h:PD a T)(b:w.heap[g]? =J (γ a tE (0,0))):EJ w g T:=λi f=>by
 obtain⟨c,d,e⟩:=h i f;rw[qV w g _ _ _ (0,0) b,qV w g _ _ _ (0,0) b,qV w g _ _ _ (0,0) b];exact⟨(qW.1 b).1,c,d,e⟩
def PD.left{a:φ β}{T U:E Bw}(h:PD a (T++U)):PD a T:=λi hi=>aaL
def Yl{w:U}: ∀(T:E Bw) (a:Addr),Dc w a T-> ∀j u,(KH T)[j]? =J u->w.cell? (a.add j)=J u:=by
 intro T a h j u b;have m:j<T.length*3:=by rw[<-PB];exact(sU.1 b).1
 obtain⟨i,r,rfl,l⟩: ∃i r,j=i*3+r/\r<3:=⟨j/3,j%3,Aa,Aa⟩;have e:i<T.length:=Aa;obtain⟨f,g,k⟩:=h i e;obtain⟨c,g2,d⟩:=PC T i e
 match r,l,b with
 |0,_,b=>rw[sS] at b ⊢;rw[b] at c;rw[c];exact f
 |1,_,b=>rw[b] at g2;rw[g2,<-uf,ua];exact g
 |2,_,b=>rw[b] at d;rw[d,<-uf,ua];exact k
abbrev Ig:Y:=⟨#[98,101,104,105,110,100]⟩
abbrev Kd:Y:=⟨#[102,97,114,32,98,101,104,105,110,100]⟩
abbrev PE:Bw:=⟨Ig,ι,⟨#[]⟩⟩
abbrev PF:Bw:=⟨Kd,ι,⟨#[]⟩⟩
def Me(n q:N)(h:q<n):(madeCells #[G ⟨#[]⟩,ζ ι,G ⟨#[]⟩] n)[q]? =J (#[(G ⟨#[]⟩:β),ζ ι,G ⟨#[]⟩][q%3]!):=by
 simp[madeCells,h]
def Qs{w:U}{g n c1 c2:N}{b:φ β}{T:E Bw}{a:Addr}(h:w.heap[g]? =J (γ b tE (0,0)))(p:Dc w a T)(o:T.length<=n)(u:T.length*3<=b.size)(t:ν):
 ∃w' c,(Builtin.copy_ #[40,40] t #[K (J ⟨g,0,O⟩) n c1,K (J a) T.length c2]).run ψ w=.ok (goInt (T.length:Z)) w' /\w'.heap[g]? =J (γ c tE (0,0))/\c.size=b.size/\(∀q,q<T.length*3->c[q]? =(KH T)[q]?)/\(∀q,T.length*3<=q->c[q]? =b[q]?)/\Ag (λi=>i=g) w w' :=by
 obtain⟨i,l,r,f,s⟩:=rN gz;have d:Nat.min T.length n=T.length:=uc o;have hcs:=PB T;have k:=vj (P:=ψ) w a (KH T) (Yl T a p);have e:=ye ψ g 0 tE (KH T) 0 b w h Aa (gA T);rw[hcs] at k;refine⟨_,(b.toList.take (0+0)++KH T++b.toList.drop (0+0+(KH T).length)).toArray, ?_,sw w g b _ tE _ h, ?_,λq hq=> ?_,λq hq=> ?_,⟨rfl,rfl,rfl,by simp[World.setRow],λj _ m=>yo w g j _ m⟩⟩
 .simp[Builtin.copy_,ta underlying40,Builtin.lenOf,Builtin.firstCells,sizeOf,typeInfo,l,f,k,d];simp at e;simp[e]
 .simp only[sq,qU,rY,tD,sd];omega
 .rw[tq,sS,tZ,tp,rM Aa]
 exact aaW
def Nb{ops:φ Oper}{rest:E Oper}{o:Oper}{b:Act}{Q:Exit->Act->U->Prop}{w:U}(hgd:o.guard=O)(d s:Operand)(ho:o.op=.call {callee:=.builtin .copy,args:= #[d,s],argTypes:= #[40,40]})
 {g n c1 c2:N}{c:φ β}{T:E Bw}{a:Addr}(hd:b.eval d=.slice (J ⟨g,0,O⟩) n c1)(hs:b.eval s=.slice (J a) T.length c2)(f:w.heap[g]? =J (γ c tE (0,0)))(j:Dc w a T)(h:T.length<=n)(e:T.length*3<=c.size)
 (k: ∀w' cur',w'.heap[g]? =J (γ cur' tE (0,0))->cur'.size=c.size->(∀q,q<T.length*3->cur'[q]? =(KH T)[q]?)->(∀q,T.length*3<=q->cur'[q]? =c[q]?)->Ag (λi=>i=g) w w' ->wpList ψ ops Q rest (b.put o.dst (goInt (T.length:Z))) w'):wpList ψ ops Q (o::rest) b w:=by
 obtain⟨w',cur',hrun,h1,h2,h3,h4,h5⟩:=Qs (n:=n) (c1:=c1) (c2:=c2) f j h e o.type;exact Wz
def PD.lent{T:E Bw}{a:φ β}(n:a.size=(T.length+2)*3)(c: ∀q,q<T.length*3->a[q]? =(KH T)[q]?)(b: ∀q,T.length*3<=q->a[q]? =(madeCells #[G ⟨#[]⟩,ζ ι,G ⟨#[]⟩] ((T.length+2)*3))[q]?):PD ((a.setIfInBounds (T.length*3) (G Ig)).setIfInBounds ((T.length+1)*3) (G Kd)) (T++[PE,PF]):=by
 intro i g;rw[qU] at g;have m:i<T.length+2:=g;by_cases f:i<T.length
 .rw[qT,rM f,<-qT];obtain⟨h,g2,j⟩:=PC T i f;refine⟨?_, ?_, ?_⟩
  .rw[rq Aa,rq Aa,c _ Aa];exact h
  .rw[rq Aa,rq Aa,c _ Aa];exact g2
  rw[rq Aa,rq Aa,c _ Aa];exact j
 by_cases k:i=T.length
 .subst k;rw[qT,rE (rj _),ut];have d:(T.length*3+1)%3=1:=Aa;have e:(T.length*3+2)%3=2:=Aa;refine⟨?_, ?_, ?_⟩
  .rw[rq Aa,sD Aa];rfl
  .rw[rq Aa,rq Aa,b _ Aa,Me _ _ Aa,d];rfl
  rw[rq Aa,rq Aa,b _ Aa,Me _ _ Aa,e];rfl
 have l:i=T.length+1:=Aa;subst l;rw[qT,rE Aa,uj];have d:((T.length+1)*3+1)%3=1:=Aa;have e:((T.length+1)*3+2)%3=2:=Aa;refine⟨?_, ?_, ?_⟩
 .rw[sD (by rw[tQ];omega)];rfl
 .rw[rq Aa,rq Aa,b _ Aa,Me _ _ Aa,d];rfl
 rw[rq Aa,rq Aa,b _ Aa,Me _ _ Aa,e];rfl
def UW(v:β)(w:U)(h:v=K O 0 0\/ ∃a cap,v=K (J a) 0 cap):μ ψ 112 #[v] w λr w' =>r=ε (η #[Dr,Dr])/\w' =w:=by
 obtain⟨ao,cap,rfl⟩: ∃ao cap,v=K ao 0 cap:=by
  rcases h with h|⟨a,cap,h⟩
  .exact ⟨_,_,h⟩
  exact⟨_,_,h⟩
 clear h;go_in;go_wp2;go_ret2;exact⟨rfl,rfl⟩
def lM(T:E Bw)(w w' :U)(r:Ending):Prop:=r=ε (η #[K (J ⟨w.heap.size,0,O⟩) T.length (T.length+2),K (J ⟨w.heap.size,0,O⟩) (T.length+2) (T.length+2)])/\Al w w' /\∃cur,w'.heap[w.heap.size]? =J (γ cur tE (0,0))/\cur.size=(T.length+2)*3/\PD cur (T++[PE,PF])
def lN(a:Addr)(cap:N)(T:E Bw)(V:0<T.length)(X:T.length<=1100000)(w:U)(B:Dc w a T):μ ψ 112 #[K (J a) T.length cap] w λr w' =>lM T w w' r:=by
 obtain⟨M,t,v,x,y⟩:=rN gz;have j:((T.length:Z)+2).toNat=T.length+2:=Aa;have L: ∀W:U,(Instr.makeSlice 40 (I Q ((T.length:Z)+2)) (I Q ((T.length:Z)+2))).run ψ W=.ok (K (J ⟨W.heap.size,0,O⟩) (T.length+2) (T.length+2)) (W.alloc (γ (madeCells #[G ⟨#[]⟩,ζ ι,G ⟨#[]⟩] ((T.length+2)*3)) tE)):=by
  intro W;have h:=vE (P:=ψ) W 40 tE M (.agg #[G ⟨#[]⟩,ζ ι,G ⟨#[]⟩]) underlying40 t v .i64 .i64 ((T.length:Z)+2) ((T.length:Z)+2) Aa Aa (by rw[y];omega) Aa;rw[x,j] at h;exact h
 have F:=Af (rh w (γ (madeCells #[G ⟨#[]⟩,ζ ι,G ⟨#[]⟩] ((T.length+2)*3)) tE));have z:χ (Al w (w.alloc (γ (madeCells #[G ⟨#[]⟩,ζ ι,G ⟨#[]⟩] ((T.length+2)*3)) tE))):=(Ag.refl _ w).alloc _;have H:=Af (B.old (uh z));have g:T.length*3<=(madeCells #[G ⟨#[]⟩,ζ ι,G ⟨#[]⟩] ((T.length+2)*3)).size:=by rw[vB];omega
 have s:=Af g;have u:¬(T.length:Z)=0:=Aa;have A:((T.length:Z)==0)=false:=by rw[re];exact u
 have f:χ (∀w2 b,w2.heap[w.heap.size]? =J (γ b tE (0,0))->b.size=(madeCells #[G ⟨#[]⟩,ζ ι,G ⟨#[]⟩] ((T.length+2)*3)).size->(∀q,q<T.length*3->b[q]? =(KH T)[q]?)->(∀q,T.length*3<=q->b[q]? =(madeCells #[G ⟨#[]⟩,ζ ι,G ⟨#[]⟩] ((T.length+2)*3))[q]?)->Ag (λi=>i=w.heap.size) (w.alloc (γ (madeCells #[G ⟨#[]⟩,ζ ι,G ⟨#[]⟩] ((T.length+2)*3)) tE)) w2->(∃C D,w2.cell? ⟨w.heap.size,T.length*3,O⟩=J C/\w2.cell? ⟨w.heap.size,(T.length+1)*3,O⟩=J D)/\w2.frozen? ⟨w.heap.size,T.length*3,O⟩=ι/\w2.frozen? ⟨w.heap.size,(T.length+1)*3,O⟩=ι/\lM T w ((w2.setCell ⟨w.heap.size,T.length*3,O⟩ (G Ig)).setCell ⟨w.heap.size,(T.length+1)*3,O⟩ (G Kd)) (ε (η #[K (J ⟨w.heap.size,0,O⟩) T.length (T.length+2),K (J ⟨w.heap.size,0,O⟩) (T.length+2) (T.length+2)]))):=λw2 b hg d m l o=>by
  rw[vB] at d;refine⟨⟨b[T.length*3]'Aa,b[(T.length+1)*3]'Aa, ?_, ?_⟩,rp w2 _ _ _ _ hg,rp w2 _ _ _ _ hg,rfl, ?_,_,ru _ _ _ _ _ _ (ru w2 _ _ _ _ _ hg),by simp[d],PD.lent d m l⟩
  .exact wW
  .exact wW
  exact z.transNew ((o.trans (Ap w2 _ _ _)).trans (Ap _ _ _ _)) (λk hk e=>Aa)
 clear B g j;go_in;go_wp2_with (refine Nb rfl (.tmp 13) (.tmp 14) rfl (n:=T.length+2) (c1:=T.length+2) (c2:=cap) (T:=T) (a:=a) rfl rfl (uh F) (uh H) Aa (uh s) ?_;intro w2 b hg d m l o;obtain⟨⟨C,D,k0,k1⟩,R,S,c⟩:=f w2 b hg d m l o;have p:=Af c;clear hg d m l o c);go_ret2;exact p
def bK{T U:E Bw}{i:N}(h:i<T.length):(T++U).getD i AA=T.getD i AA:=by rw[qT,rM h,<-qT]
def gB(T:E Bw):(T++[PE,PF]).getD T.length AA=PE:=by rw[qT,rE (rj _),ut];rfl
def gC(T:E Bw):(T++[PE,PF]).getD (T.length+1) AA=PF:=by rw[qT,rE Aa,uj];rfl
def lO{w1 wq:World}{b c:N}{s:WS}{RF RL RT:E (β×Y)}(hc:c<=100000000)(w:World)(h:CD w1 w b c s RF RL RT)(g:N)(l:φ β)(T:E Bw)(a:Addr)(cap:N)(hT:T.length<=1100000)(hg:w.heap[g]? =J (γ l tE (0,0)))(a1:l.size=(T.length+2)*3)(hE:PD l (T++[PE,PF]))(ht:Dc w a T)(H:wq.heap.size<=g)(F:w1.heap.size<=g)(hq: ∀x,x∈RT->Eo wq tE 3 UR x.1 x.2):
 μ ψ 113 #[δ (J ⟨b,0,O⟩),K (J ⟨g,0,O⟩) (T.length+2) (T.length+2),K (J a) T.length cap] w λr w' =>r=ε (ζ θ)/\IC [wT,Px,9,tE] w w' /\gq w1 w' b (c+1) s.base RF RL:=by
 have HL:=Af h;have HG:=Af hg;have X:=Af hE;have HT:=Af ht;have HQ:=Af hq;have n:χ (Al w w):=Ag.refl _ w;have q:g<w.heap.size:=(qW.1 hg).1;have HP:χ (∀W,Al w W-> ∀m,gj wq w1 W tE 3 UR (J ⟨g,0,O⟩) (T.length+2) m 0):=λW ho m=> .inr ⟨g,l,rfl,(ho.block g q (λx=>x)).trans hg,Aa,H,F,λp hp=>Aa⟩
 clear h hg hE ht hq H F a1;go_in;go_wp2;go_loopw [7,9,10] (λok x _ wr=> ∃i:N,i<=T.length+2/\x=I Q i/\ok=ζ θ/\χ (Al w wr)) (λ_ x _ _=>T.length+2- (intOf x).toNat)
 .exact ⟨0,Aa,rfl,rfl,n⟩
 clear n;obtain⟨i,hi,rfl,rfl,n⟩:=hrel;by_cases z:i<T.length+2
 .have R:(i:Z)<(T.length:Z)+2:=Aa;have a2:=n.size;have o:χ (Al w (wr.alloc (γ #[G Ig,ζ ι,G ⟨#[]⟩] tE))):=n.alloc _;have d:=rh wr (γ #[G Ig,ζ ι,G ⟨#[]⟩] tE);have k0:(wr.alloc (γ #[G Ig,ζ ι,G ⟨#[]⟩] tE)).cell? ⟨wr.heap.size,0,O⟩=J (G Ig):=by rw[qV _ _ 0 _ _ (0,0) d];rfl
  have k1:(wr.alloc (γ #[G Ig,ζ ι,G ⟨#[]⟩] tE)).cell? ⟨wr.heap.size,1,O⟩=J (ζ ι):=by rw[qV _ _ 1 _ _ (0,0) d];rfl
  have k2:(wr.alloc (γ #[G Ig,ζ ι,G ⟨#[]⟩] tE)).cell? ⟨wr.heap.size,2,O⟩=J (G ⟨#[]⟩):=by rw[qV _ _ 2 _ _ (0,0) d];rfl
  have f0:=rp _ wr.heap.size 0 _ _ d;have f1:=rp _ wr.heap.size 1 _ _ d;have f2:=rp _ wr.heap.size 2 _ _ d;by_cases M:i<T.length
  .have P:(i:Z)<(T.length:Z):=Aa;obtain⟨t1,t2,t3⟩:=HT.old (uh o) i M;have f:=Af (bK (U:=[PE,PF]) M);generalize T.getD i AA=e at*;obtain⟨nm,ln,dt⟩:=e;simp only at t1 t2 t3;have HWB:χ (Al w (wr.alloc (γ #[G nm,ζ ln,G dt] tE))):=n.alloc _;obtain⟨t,u,v⟩:=(X.ents (HWB.block g q (λx=>x)|>.trans (uh HG))) i (by simpa using z)|>.2
   rw[uh f] at t u v;simp only at t u v;have j:=rh wr (γ #[G nm,ζ ln,G dt] tE);have z1:(wr.alloc (γ #[G nm,ζ ln,G dt] tE)).cell? ⟨wr.heap.size,0,O⟩=J (G nm):=by rw[qV _ _ 0 _ _ (0,0) j];rfl
   have z2:(wr.alloc (γ #[G nm,ζ ln,G dt] tE)).cell? ⟨wr.heap.size,1,O⟩=J (ζ ln):=by rw[qV _ _ 1 _ _ (0,0) j];rfl
   have z3:(wr.alloc (γ #[G nm,ζ ln,G dt] tE)).cell? ⟨wr.heap.size,2,O⟩=J (G dt):=by rw[qV _ _ 2 _ _ (0,0) j];rfl
   clear j;clear d o f;go_upto_region 11 with fail;clear k0 k1 k2 f0 f1 f2 t1 t2 t3;generalize(wr.alloc (γ #[G nm,ζ ln,G dt] tE))=WB at*;have S:=nJ nm dt ln;exact Wn
  have P:¬(i:Z)<(T.length:Z):=Aa;by_cases y:i=T.length
  .have L:¬(T.length:Z)<(i:Z):=Aa;have f:χ ((T++[PE,PF]).getD i AA=PE):=by rw[y];exact gB T
   clear y;have HWB:χ (Al w (wr.alloc (γ #[G Ig,ζ ι,G ⟨#[]⟩] tE))):=uh o;obtain⟨t,u,v⟩:=(X.ents (HWB.block g q (λx=>x)|>.trans (uh HG))) i (by simpa using z)|>.2
   rw[uh f] at t u v;simp only at t u v;have j:=d;have z1:(wr.alloc (γ #[G Ig,ζ ι,G ⟨#[]⟩] tE)).cell? ⟨wr.heap.size,0,O⟩=J (G Ig):=by rw[qV _ _ 0 _ _ (0,0) j];rfl
   have z2:(wr.alloc (γ #[G Ig,ζ ι,G ⟨#[]⟩] tE)).cell? ⟨wr.heap.size,1,O⟩=J (ζ ι):=by rw[qV _ _ 1 _ _ (0,0) j];rfl
   have z3:(wr.alloc (γ #[G Ig,ζ ι,G ⟨#[]⟩] tE)).cell? ⟨wr.heap.size,2,O⟩=J (G ⟨#[]⟩):=by rw[qV _ _ 2 _ _ (0,0) j];rfl
   clear j;clear d o f;go_upto_region 11 with fail;clear k0 k1 k2 f0 f1 f2;generalize(wr.alloc (γ #[G Ig,ζ ι,G ⟨#[]⟩] tE))=WB at*;have S:=nJ Ig ⟨#[]⟩ ι;exact Wn
  have L:(T.length:Z)<(i:Z):=Aa;have f:χ ((T++[PE,PF]).getD i AA=PF):=by rw[show i=T.length+1 by omega];exact gC T
  clear y;have HWB:χ (Al w (wr.alloc (γ #[G Kd,ζ ι,G ⟨#[]⟩] tE))):=n.alloc _;obtain⟨t,u,v⟩:=(X.ents (HWB.block g q (λx=>x)|>.trans (uh HG))) i (by simpa using z)|>.2
  rw[uh f] at t u v;simp only at t u v;have j:=rh wr (γ #[G Kd,ζ ι,G ⟨#[]⟩] tE);have z1:(wr.alloc (γ #[G Kd,ζ ι,G ⟨#[]⟩] tE)).cell? ⟨wr.heap.size,0,O⟩=J (G Kd):=by rw[qV _ _ 0 _ _ (0,0) j];rfl
  have z2:(wr.alloc (γ #[G Kd,ζ ι,G ⟨#[]⟩] tE)).cell? ⟨wr.heap.size,1,O⟩=J (ζ ι):=by rw[qV _ _ 1 _ _ (0,0) j];rfl
  have z3:(wr.alloc (γ #[G Kd,ζ ι,G ⟨#[]⟩] tE)).cell? ⟨wr.heap.size,2,O⟩=J (G ⟨#[]⟩):=by rw[qV _ _ 2 _ _ (0,0) j];rfl
  clear j;clear d o f;go_upto_region 11 with fail;clear k0 k1 k2 f0 f1 f2;generalize(wr.alloc (γ #[G Kd,ζ ι,G ⟨#[]⟩] tE))=WB at*;have S:=nJ Kd ⟨#[]⟩ ι;exact Wn
 have R:¬(i:Z)<(T.length:Z)+2:=Aa;have A:=Af (Zv hc wr (HL.old (uh n)) (J ⟨g,0,O⟩) (T.length+2) (T.length+2) Aa (HP wr (uh n)) (uh HQ));have B:χ (∀w',IC [wT,Px,9,tE] wr w' ->IC [wT,Px,9,tE] w w'):=λw' ht=>by
  refine((Ag.oldW (uh n):Ag (λk=> ∃l e,w.heap[k]? =J (γ l e (0,0))/\e∈[wT,Px,9,tE]) w wr)).transNew ht (λk hk hS=> ?_);obtain⟨C,e,a0,hm⟩:=hS;exact⟨C,e,(n.block k hk (λx=>x)).symm.trans a0,hm⟩
 clear HL HG X HT HQ HP;go_wp2_with fail;refine A.mono ?_;rintro r w6 ⟨rfl,V,D⟩;have HTY2:=Af (B w6 V);have HEX:=Af D;clear V D B A;exact abq
def UX{w1 wq:U}{b c:N}{s:WS}{f g i:E (β×Y)}(k:c<=100000000)(w:U)(h:CD w1 w b c s f g i)(ao:Option Addr)(cap:N)(j: ∀x,x∈i->Eo wq tE 3 UR x.1 x.2):
 μ ψ 113 #[δ (J ⟨b,0,O⟩),K O 0 0,K ao 0 cap] w λr w' =>r=ε (ζ θ)/\IC [wT,Px,9,tE] w w' /\gq w1 w' b (c+1) s.base f g:=by
 have a:=Af (Zv (wq:=wq) k w h O 0 0 Aa (λ_=> .inl rfl) j);clear h j;go_in;go_wp2;go_loopw [7,9,10] (λl x _ wr=>x=I Q 0/\l=ζ θ/\wr=w) (λ_ _ _ _=>0)
 .exact ⟨rfl,rfl,rfl⟩
 obtain⟨rfl,rfl,rfl⟩:=hrel;go_wp2_with fail;refine a.mono ?_;rintro r m ⟨rfl,e,d⟩;have HTY2:=Af e;have HEX:=Af d;clear e d a;exact abq
def Lo(e f:β)(fs:E Fl)(l:fs.length<=3000000)(w:U)(c:Au w e fs)(d:Au w f fs):
 μ ψ 115 #[e,f] w λr w' =>r=ε (ζ θ)/\Al w w' :=by
 obtain⟨ao,n,rfl⟩:=Dq c;obtain⟨m,o,rfl⟩:=Dq d;have g:=Af c;have h:=Af d;have HO:χ (Al w w):=Ag.refl _ w;clear c d;go_in;go_wp2;go_loopw [5] (λx wr=> ∃i:N,i<=fs.length/\x=I Q i/\χ (Al w wr)) (λx _=>fs.length- (intOf x).toNat)
 .exact ⟨0,Aa,rfl,HO⟩
 clear HO;obtain⟨i,q,rfl,HO⟩:=hrel;by_cases a:i<fs.length
 .have b:(i:Z)<(fs.length:Z):=Aa;obtain⟨p,c1,j, -,p1,p2⟩:=g.cells (uh HO) i a;obtain⟨g2,c2,k, -,r1,r2⟩:=h.cells (uh HO) i a;injection j with e11 e12 e13;injection k with e21 e22 e23;subst e11 e13 e21 e23;generalize fs[i]=x at*;exact Wq
 have b:¬(i:Z)<(fs.length:Z):=Aa;exact zD
def Oj.form{T:E Bw}{w w' :U}{r:Ending}(h:Oj T w w' r): ∃v u k,r=ε (η #[v,u,I Q k]):=by
 rcases h with⟨_,⟨_,k,_,_,_,_,_,e⟩|⟨_,v,u,_,e,_⟩⟩|⟨_,e⟩
 .exact ⟨_,_,_,e⟩
 .exact ⟨_,_,_,e⟩
 exact⟨_,_,_,e⟩
def Om{v u v' a :β}{k k' :Z}(h:Ending.returned (η #[v,u,I Q k])=ε (η #[v',a,I Q k'])):v=v' /\u=a /\k=k' :=abr
def UY{w1:U}{b c:N}{s:WS}{RF RL RT:E (β×Y)}(hc:c<=99999990)(w:U)(h:CD w1 w b c s RF RL RT)(a:Addr)(cap:N)(T:E Bw)(hN:0<T.length)(hT:T.length<=1100000)(hs: ∀e∈T,e.nm.size<=2000000/\e.dt.size<=2000000)(hm: ∀W,Ag (λk=>k=b) w1 W->Cb W)(ht: ∀W,Ag (λk=>k=b) w1 W->Dc W a T):
 μ ψ 62 #[δ (J ⟨b,0,O⟩),K (J a) T.length cap] w λr w' =>r=ε (ζ θ)/\kE w1 w' b (c+3) s.base:=by
 have R:=Af h;have HS:=Af hs;have HM:=Af hm;have b5:=Af ht;have H1:=Af (lN a cap T hN hT w (ht w h.only));have b4:=Af h.rt.2.2;clear h hs hm ht;go_in;go_wp2_with fail;refine H1.mono ?_;rintro r w2 ⟨rfl,F,c8,p,z,C⟩;have l:=R.old F;have HSZ:χ (w.heap.size<=w2.heap.size):=F.size;have D:w.heap.size<w2.heap.size:=(qW.1 p).1;have a3:=Af (Yg w.heap.size (T.length+2) T (λe he=>(HS e he).1) w2 (HM w2 l.only) (C.left.ents p) D);have a7:=Af l;have a6:=Af p;have a4:=Af C;clear H1 F l p C;go_wp2_with fail;refine a3.mono ?_;rintro r1 w3 ⟨H,L⟩;obtain⟨v1,u1,k1,d1⟩:=L.form;subst d1;have HCQ:=Af L;have m:=a7.old H;have a0:=Af (lO (wq:=w) Aa w3 m w.heap.size c8 T a cap hT ((H.block w.heap.size D (λx=>x)).trans (uh a6)) z (uh a4) (b5 w3 m.only) (rj _) R.only.size (uh b4));clear a3 H L m a7 a6 a4 z D HM b4;go_wp2_with fail;refine a0.mono ?_;rintro r w4 ⟨rfl,c3,s4,R4,n,y⟩;have HBA4:=Af y;clear y;have HTY:=Af c3;have a8:=Af n;clear a0 c3;go_wp2_with fail;have b6:=Af (b5 _ n.only);have d:=Af (MZ (K (J a) T.length cap) T (uh HS) w4 (.inr ⟨a,cap,rfl,b6⟩));refine d.mono ?_;rintro r2 w5 ⟨ho5,hq2⟩;obtain⟨v2,u2,k2,d2⟩:=hq2.form;subst d2;have a5:χ (∃(fs:E Fl) (lf:E Lf),fs.length<=60/\lf.length<=200/\k2=k1/\Au w5 v1 fs/\Au w5 v2 fs/\Bv w5 u1 lf/\Bv w5 u2 lf/\(∀g,v1.ownBlock=J g->w.heap.size<=g)/\∀g,u1.ownBlock=J g->w.heap.size<=g):=Hg;obtain⟨fs,lf,d6,d0,c9,o,b7,M,P,b9,c0⟩:=uh a5;subst c9;have a9:=Af (a8.old ho5);have q:=Af o;have u:=Af M;have v:=Af P;have V:=Af b9;have X:=Af c0;have f:=Af (Lo v1 v2 fs Aa w5 o b7);obtain⟨c4,c6,d5⟩:=Dq o;subst d5;obtain⟨A,B,d3⟩:=Cr M;obtain⟨c5,c7,d4⟩:=Cr P;subst d3 d4;clear a5 HTY HCQ a8 d b6 ho5 hq2 o b7 M P b9 c0 n;go_wp2_with fail;refine f.mono ?_;rintro r S ⟨rfl,j⟩;have b0:=Af (a9.old j);have t:=Af (Au.old (uh q) j);have HLA6:χ (Bv S (K A lf.length B) lf):=u.kept j (λ_ _ x=>x);have HLB6:χ (Bv S (K c5 lf.length c7) lf):=v.kept j (λ_ _ x=>x);have b3:χ (Al S S):=Ag.refl _ S;clear f j a9 q u v;go_wp2;go_loopw [14,15] (λok x wr=> ∃i:N,i<=lf.length/\x=I Q i/\ok=ζ θ/\χ (Al S wr)) (λ_ x _=>lf.length- (intOf x).toNat)
 .exact ⟨0,Aa,rfl,rfl,b3⟩
 clear b3;obtain⟨i,hi,rfl,rfl,HO⟩:=hrel;by_cases hil:i<lf.length
 .exact zH
 have hilI:¬(i:Z)<(lf.length:Z):=Aa;have HFO:=Af (Md (wq:=w) Aa wr (b0.old (uh HO)) c4 fs.length c6 Aa (AG fs) (Au.old (uh t) (uh HO)) (λg e=>⟨V g e,rz R.only.size (V g e)⟩) R.rf.2.2);have HLW:χ (wr.ownsRow 0 tL 2 (K A lf.length B) lf.length (Ce lf)):=HLA6.kept (uh HO) (λ_ _ x=>x);clear b0 t HLA6 HLB6 HO;go_wp2_with fail;refine HFO.mono ?_;rintro r w7 ⟨rfl,hlk,s7,R7,hl7,hba7⟩;have HLO:=Af (Zw (wq:=w) Aa w7 hl7 A lf.length B Aa (Ce lf) (hlk _ _ _ (uh HLW)) (λg e=>⟨X g e,rz R.only.size (X g e)⟩) R.rl.2.2);exact Hj
def Nz{w1:U}{b c:N}{s:WS}{RF RL RT:E (β×Y)}(hc:c<=99999990)(w:U)(h:CD w1 w b c s RF RL RT)(ao:Option Addr)(cap:N)(y:Kc w1 (K ao 0 cap) []):
 μ ψ 62 #[δ (J ⟨b,0,O⟩),K ao 0 cap] w λr w' =>r=ε (ζ θ)/\kE w1 w' b (c+3) s.base:=by
 have P:=Af h;have hz: ∀W,Kc W (K ao 0 cap) []:=λW=>by
  rcases y with⟨e,_⟩|⟨a,cp,e,_⟩
  .exact .inl ⟨e,rfl⟩
  exact .inr ⟨a,cp,e,λi hi=>by cases hi⟩
 have a8:=Af (λ(W:U) (_:Ag (λk=>k=b) w1 W)=>hz W);have H1:=Af (UW (K ao 0 cap) w (by
  rcases y with⟨e,_⟩|⟨a,cp,e,_⟩
  .exact .inl e
  exact .inr ⟨a,cp,e⟩))
 have X:=Af h.rt.2.2;have HSZ:χ (w.heap.size<=w.heap.size):=rj _;clear h hz y;go_in;go_wp2_with fail;refine H1.mono ?_;rintro r w2 ⟨rfl,rfl⟩;have L:=Af (ky w2);clear H1;go_wp2_with fail;refine L.mono ?_;rintro r1 w3 ⟨a6,z⟩;obtain⟨v1,u1,k1,b7⟩:=z.form;subst b7;have HCQ:=Af z;have H:=Af (UX (wq:=w2) Aa w3 (P.old a6) ao cap (uh X));clear L a6 z X;go_wp2_with fail;refine H.mono ?_;rintro r w4 ⟨rfl,a7,s4,R4,l,t⟩;have HBA4:=Af t;clear t;have HTY:=Af a7;have R:=Af l;clear H a7;go_wp2_with fail;have a0:=Af (a8 _ l.only);have d:=Af (MZ (K ao 0 cap) [] (λ_ h=>by cases h) w4 (uh a0));refine d.mono ?_;rintro r2 w5 ⟨ho5,hq2⟩;obtain⟨v2,u2,k2,b9⟩:=hq2.form;subst b9;have M:χ (∃(fs:E Fl) (lf:E Lf),fs.length<=60/\lf.length<=200/\k2=k1/\Au w5 v1 fs/\Au w5 v2 fs/\Bv w5 u1 lf/\Bv w5 u2 lf/\(∀g,v1.ownBlock=J g->w2.heap.size<=g)/\∀g,u1.ownBlock=J g->w2.heap.size<=g):=Hg;obtain⟨fs,lf,c5,b6,b5,m,a3,A,B,a4,a5⟩:=uh M;subst b5;have S:=Af (R.old ho5);have n:=Af m;have p:=Af A;have q:=Af B;have D:=Af a4;have F:=Af a5;have f:=Af (Lo v1 v2 fs Aa w5 m a3);obtain⟨a9,b3,c4⟩:=Dq m;subst c4;obtain⟨u,v,c0⟩:=Cr A;obtain⟨b0,b4,c3⟩:=Cr B;subst c0 c3;clear M HTY HCQ R d a0 ho5 hq2 m a3 A B a4 a5 l;go_wp2_with fail;refine f.mono ?_;rintro r C ⟨rfl,j⟩;have T:=Af (S.old j);have o:=Af (Au.old (uh n) j);have HLA6:χ (Bv C (K u lf.length v) lf):=p.kept j (λ_ _ x=>x);have HLB6:χ (Bv C (K b0 lf.length b4) lf):=q.kept j (λ_ _ x=>x);have V:χ (Al C C):=Ag.refl _ C;clear f j S n p q;go_wp2;go_loopw [14,15] (λok x wr=> ∃i:N,i<=lf.length/\x=I Q i/\ok=ζ θ/\χ (Al C wr)) (λ_ x _=>lf.length- (intOf x).toNat)
 .exact ⟨0,Aa,rfl,rfl,V⟩
 clear V;obtain⟨i,hi,rfl,rfl,HO⟩:=hrel;by_cases hil:i<lf.length
 .exact zH
 have hilI:¬(i:Z)<(lf.length:Z):=Aa;have HFO:=Af (Md (wq:=w2) Aa wr (T.old (uh HO)) a9 fs.length b3 Aa (AG fs) (Au.old (uh o) (uh HO)) (λg e=>⟨D g e,rz P.only.size (D g e)⟩) P.rf.2.2);have HLW:χ (wr.ownsRow 0 tL 2 (K u lf.length v) lf.length (Ce lf)):=HLA6.kept (uh HO) (λ_ _ x=>x);clear T o HLA6 HLB6 HO;go_wp2_with fail;refine HFO.mono ?_;rintro r w7 ⟨rfl,hlk,s7,R7,hl7,hba7⟩;have HLO:=Af (Zw (wq:=w2) Aa w7 hl7 u lf.length v Aa (Ce lf) (hlk _ _ _ (uh HLW)) (λg e=>⟨F g e,rz P.only.size (F g e)⟩) P.rl.2.2);exact Hj
def bL(k a c:Z)(l:k<=0)(s t:Y)(m d:β)(b:N)(w:U):
 μ ψ 38 #[δ (J ⟨b,0,O⟩),.agg (Df k a c s t m d)] w λe w' =>e=ε (ζ θ)/\Al w w' :=by
 have n:(k==1)=false:=by rw[re];omega
 have o:(k==2)=false:=by rw[re];omega
 have p:(k==3)=false:=by rw[re];omega
 have q:(k==4)=false:=by rw[re];omega
 have r:(k==5)=false:=by rw[re];omega
 have u:(k==6)=false:=by rw[re];omega
 have v:(k==7)=false:=by rw[re];omega
 have x:(k==8)=false:=by rw[re];omega
 have y:(k==9)=false:=by rw[re];omega
 have f:(k==10)=false:=by rw[re];omega
 have g:(k==11)=false:=by rw[re];omega
 have h:(k==12)=false:=by rw[re];omega
 have i:(k==13)=false:=by rw[re];omega
 have j:(k==14)=false:=by rw[re];omega
 clear l;unfold Df;go_in;go_wp2;go_ret;exact⟨rfl,(Ag.refl _ w).alloc _⟩
def bM(a c:Z)(s t:Y)(A:s.size<=140737488355328)(l k:β)(b:N)(w:U)(q:KC w):
 μ ψ 38 #[δ (J ⟨b,0,O⟩),.agg (Df 2 a c s t l k)] w λe w' =>e=ε (ζ θ)/\Al w w' :=by
 have i:s.size<=maxLen:=by unfold maxLen;omega
 have B:=Af (λw1 h=>MI s A w1 h);have m:=Af (λw1=>KQ s w1 A);have r:=Af (λw1=>NJ s w1 i);have u:=Af (λw1=>Fb s w1 i);generalize CB s=d at B m
 have o:χ (DR (w.alloc (γ (Df 2 a c s t l k) 79)) w.heap.size 79 7 (λj=>(Df 2 a c s t l k).getD j undef)):=DR.new w _ _ 7 _ (by rw[Df];exact rj _) (λj D=>by
  have:j=0\/j=1\/j=2\/j=3\/j=4\/j=5\/j=6:=Aa;rcases this with rfl|rfl|rfl|rfl|rfl|rfl|rfl<;>rfl)
 have v:=Af (q.old ((Ag.refl _ w).alloc (γ (Df 2 a c s t l k) 79)));have n:χ (Al w (w.alloc (γ (Df 2 a c s t l k) 79))):=(Ag.refl _ w).alloc _;clear q A i;unfold Df at*;go_in;go_wp2_with fail;generalize w.alloc (γ #[I Q 2,I Q a,I Q c,G s,G t,l,k] 79)=W at*;refine(B _ (uh v)).mono ?_;rintro e w1 ⟨rfl,f⟩;have x:=Af (Ag.trans (uh n) f);have p:=Af (o.old f);have z:w1.cell? ⟨w.heap.size,3,O⟩=J (G s):=p.cell 3 Aa;clear f n o;go_wp2_with fail;refine(m _).mono ?_;rintro e w2 ⟨rfl,g⟩;have y:=Af (Ag.trans (uh x) g);have C:w2.cell? ⟨w.heap.size,3,O⟩=J (G s):=(p.old g).cell 3 Aa;clear g z;go_wp2_with (first
  |(go_at_call 40;refine(r _).mono ?_;rintro e w3 ⟨rfl,rfl⟩)
  |(go_at_call 58;refine(u _).mono ?_;rintro e w3 ⟨rfl,rfl⟩))
 go_ret;exact⟨rfl,y⟩
def UZ(a c:Z)(s t:Y)(L:s.size<=140737488355328)(o l:β)(b:N)(w:U)(F:De w):
 μ ψ 38 #[δ (J ⟨b,0,O⟩),.agg (Df 3 a c s t o l)] w λe w' =>e=ε (ζ θ)/\Al w w' :=by
 have k:χ (DR (w.alloc (γ (Df 3 a c s t o l) 79)) w.heap.size 79 7 (λj=>(Df 3 a c s t o l).getD j undef)):=DR.new w _ _ 7 _ (by rw[Df];exact rj _) (λj R=>by
  have:j=0\/j=1\/j=2\/j=3\/j=4\/j=5\/j=6:=Aa;rcases this with rfl|rfl|rfl|rfl|rfl|rfl|rfl<;>rfl)
 have g:=Af (F.old ((Ag.refl _ w).alloc (γ (Df 3 a c s t o l) 79)));have f:χ (Al w (w.alloc (γ (Df 3 a c s t o l) 79))):=(Ag.refl _ w).alloc _;have z:=Af (λw1 h=>LO s L w1 h);have y:=Af (λw1=>DP s L w1);clear F;unfold Df at*;by_cases D:a=7
 .subst D;go_in;go_wp2_with fail;generalize w.alloc (γ #[I Q 3,I Q 7,I Q c,G s,G t,o,l] 79)=W at*;refine(y W).mono ?_;rintro e w1 ⟨H,d⟩;have HO1:=Af (Ag.trans (uh f) d);have v:=Af (k.old d);have i:=Af (g.old d);have B:w1.cell? ⟨w.heap.size,2,O⟩=J (I Q c):=v.cell 2 Aa;obtain⟨p,n,rfl,hp⟩: ∃(p:Y) (n:Z),e=ε (η #[G p,I Q n])/\p.size<=1000000:=by
   rcases H with⟨P,rfl⟩|⟨_,rfl⟩
   .exact ⟨_,0,rfl,by have:=(GO s).1;omega⟩
   exact⟨_,1,rfl,Ac⟩
  have C:=Af (λW=>Qk p hp c W);clear d H f k g y z v;go_wp2_with fail;refine(C w1).mono ?_;rintro e w2 ⟨q,rfl,S,m⟩;have u:=Af (Ag.trans (uh HO1) m);have r:=Af (LO q Aa w2 (i.old m));clear m C HO1 i B;go_wp2_with fail;refine r.mono ?_;rintro e w3 ⟨rfl,x⟩;have A:=Af (Ag.trans (uh u) x);clear x r u;go_wp2;go_ret;exact⟨rfl,A⟩
 have M:(a==7)=false:=by rw[re];exact D
 go_in;go_wp2_with fail;generalize w.alloc (γ #[I Q 3,I Q a,I Q c,G s,G t,o,l] 79)=W at*;refine(z _ (uh g)).mono ?_;rintro e w1 ⟨rfl,d⟩;have HO1:=Af (Ag.trans (uh f) d);clear d f k g y z;exact Hz
def Ym(a c:Z)(s t:Y)(j:s.size<=140737488355328)(h g:β)(b:N)(w:U):
 μ ψ 38 #[δ (J ⟨b,0,O⟩),.agg (Df 4 a c s t h g)] w λe w' =>e=ε (ζ θ)/\Al w w' :=by
 have d:χ (Al w (w.alloc (γ (Df 4 a c s t h g) 79))):=(Ag.refl _ w).alloc _;have i:=Af (λw1=>Sw s j w1);unfold Df at*;go_in;go_wp2_with fail;generalize w.alloc (γ #[I Q 4,I Q a,I Q c,G s,G t,h,g] 79)=W at*;refine(i W).mono ?_;rintro e w1 ⟨rfl,f⟩;have HO1:=Af (Ag.trans (uh d) f);clear f d i;exact Hz
def bN{w1:U}{b n:N}{S:WS}{f g i:E (β×Y)}(a c:Z)(s t:Y)(x j:β)(w:U)(h:CD w1 w b n S f g i):
 μ ψ 38 #[δ (J ⟨b,0,O⟩),.agg (Df 1 a c s t x j)] w λe w' =>e=ε (ζ θ)/\∃S',CD w1 w' b n S' f g i/\S' ={S with m:=s,v:=t}:=by
 have y:=h.inb;have p:w.cell? ⟨b,0,O⟩=J (G S.m):=by rw[qV w b 0 _ _ (0,0) h.hp];rfl
 have q:w.cell? ⟨b,1,O⟩=J (G S.v):=by rw[qV w b 1 _ _ (0,0) h.hp];rfl
 have r:=rp w b 0 _ _ h.hp;have u:=rp w b 1 _ _ h.hp;have d:χ (∀o:Obj,CD w1 (((w.setCell ⟨b,0,O⟩ (G s)).setCell ⟨b,1,O⟩ (G t)).alloc o) b n {S with m:=s,v:=t} f g i):=λo=>by
  have k:=ru w b 0 _ _ (G s) h.hp;have l:=ru _ b 1 _ _ (G t) k;exact(h.rec_ (s' :={S with m:=s,v:=t}) ((Ap w b 0 _).trans (Ap _ b 1 _)) l (rj _) rfl rfl rfl rfl rfl rfl).old ((Ag.refl _ _).alloc o)
 clear h;unfold Df;go_in;go_wp2;go_ret;exact⟨rfl,_,d _,rfl⟩
def Yn{w1:U}{b n:N}{S:WS}{m o p:E (β×Y)}(i:n<=99999990)(a c:Z)(s t:Y)(x q:β)(w:U)(h:CD w1 w b n S m o p)(T:E Bw)(u:T.length<=1100000)(y: ∀e∈T,e.nm.size<=2000000/\e.dt.size<=2000000)(v: ∀W,Ag (λk=>k=b) w1 W->Cb W)(ht: ∀W,Ag (λk=>k=b) w1 W->Kc W x T):
 μ ψ 38 #[δ (J ⟨b,0,O⟩),.agg (Df 5 a c s t x q)] w λe w' =>e=ε (ζ θ)/\kE w1 w' b (n+3) S.base:=by
 have l:χ (∀W,CD w1 W b n S m o p->μ ψ 62 #[δ (J ⟨b,0,O⟩),x] W λr w' =>r=ε (ζ θ)/\kE w1 w' b (n+3) S.base):=λW hW=>by
  by_cases h0:T=[]
  .subst h0;rcases ht w1 (Ag.refl _ _) with⟨e,_⟩|⟨ad,cp,e,z⟩
   .rw[e];exact Nz i W hW O 0 (.inl ⟨rfl,rfl⟩)
   rw[e];exact Nz i W hW (J ad) cp (.inr ⟨ad,cp,rfl,z⟩)
  have g:0<T.length:=by cases T with|nil=>exact absurd rfl h0|cons _ _=>simp
  obtain⟨ad,cp,e⟩: ∃ad cp,x=K (J ad) T.length cp:=wU;have j: ∀W,Ag (λk=>k=b) w1 W->Dc W ad T:=λW hW=>WJ
  rw[e];exact UY i W hW ad cp T g u y v j
 have d:=Af (h.old ((Ag.refl _ w).alloc (γ (Df 5 a c s t x q) 79)));clear h y v ht u;unfold Df at*;go_in;go_wp2_with fail;refine(l _ (uh d)).mono ?_;rintro e A ⟨rfl,f⟩;have HX:=Af f;clear f l d;exact zF
def Ge(w:U):Prop:=Zu w/\Cb w
def Ge.old{w w' :U}(h:Ge w)(a:Al w w'):Ge w' :=⟨h.1.old a,h.2.old a⟩
def Va(P:U->Prop)(x:β):Prop:= ∃T:E Bw,T.length<=1100000/\(∀e∈T,e.nm.size<=2000000/\e.dt.size<=2000000)/\∀W,P W->Kc W x T
abbrev gE:Y:=⟨#[109,111,100,117,108,101,32,109,46,120,47,121]⟩
abbrev qE:Y:=⟨#[97,47,98,46,103,111]⟩
abbrev qF:Y:=⟨#[97,97,97,97,97,97,97,97,97,97,97,97,97,97,97,97,97,97,97,97,97,97,97,97,97,97,97,97,97,97,97,97,97,97,97,97,97,97,97,97]⟩
abbrev lP:E Bw:=[⟨Ez,ι,gE⟩,⟨qE,ι,qF⟩,⟨⟨#[108]⟩,θ,⟨#[]⟩⟩]
def Jw(P:U->Prop):Va P Do:=⟨[],Ad,(λ_ h=>by cases h),λ_ _=> .inl ⟨rfl,rfl⟩⟩
def gG{W:U}{g:N}(a:W.heap[g]? =J (γ #[G Ez,ζ ι,G gE,G qE,ζ ι,G qF,G ⟨#[108]⟩,ζ θ,G ⟨#[]⟩] tE (0,0))):Dc W ⟨g,0,O⟩ lP:=by
 intro i c;have b:i<3:=c
 match i,b with
 |0,_=>exact⟨by rw[rH,qV W g _ _ _ (0,0) a];rfl,by rw[rH,qV W g _ _ _ (0,0) a];rfl,by rw[rH,qV W g _ _ _ (0,0) a];rfl⟩
 |1,_=>exact⟨by rw[rH,qV W g _ _ _ (0,0) a];rfl,by rw[rH,qV W g _ _ _ (0,0) a];rfl,by rw[rH,qV W g _ _ _ (0,0) a];rfl⟩
 |2,_=>exact⟨by rw[rH,qV W g _ _ _ (0,0) a];rfl,by rw[rH,qV W g _ _ _ (0,0) a];rfl,by rw[rH,qV W g _ _ _ (0,0) a];rfl⟩
def CD.start{W:U}{b:N}{s:WS}(hp:W.heap[b]? =J (γ (s.cs 0) wT (0,0)))(i:s.r5=Dr)(f:s.r6=Dr)(j:s.r7=Dr)(g:s.r8=Dr)(l:s.r9=Dr)(d:s.r10=Dr)(m:s.z=W):CD W W b 0 s [] [] []:=by
 have c: ∀r:β,r=Dr-> ∀k,r.ownBlock=J k->False:=λr e k a=>by rw[e] at a;cases a
 refine⟨Ag.refl _ _,(qW.1 hp).1,hp,by rw[i,f];exact Ie.nil _ _ _ _ _,by rw[j,g];exact Ie.nil _ _ _ _ _,by rw[l,d];exact Ie.nil _ _ _ _ _, ?_,λk a=>(c _ f k a).elim,λk a=>(c _ f k a).elim,λk a=>(c _ g k a).elim,Ad,λk n e o h=>by rw[m] at h;exact h⟩;rintro r (e|e|e|e|e|e) k a
 .exact (c r (e.trans i) k a).elim
 .exact (c r (e.trans f) k a).elim
 .exact (c r (e.trans j) k a).elim
 .exact (c r (e.trans g) k a).elim
 .exact (c r (e.trans l) k a).elim
 exact(c r (e.trans d) k a).elim
