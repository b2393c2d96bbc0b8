import Derived.Test.YtndfmgdhiallpaaGreatDoorVay
set_option linter.all false
set_option maxRecDepth 100000
set_option maxHeartbeats 4000000
open _root_ renaming Option.some->J,Option.none->O,Int->Z,Nat->N,Go.Value.int->I,Go.Value.string->G,Go.IntKind.i64->Q,ByteArray->Y,List->E,Go.World->U,Go.Value.slice->K,Go.Value->β,Go.Obj.cells->γ,Go.Value.pointer->δ,Go.Ending.returned->ε,Go.Value.tuple->η,Bool.false->ι,absurd->κ,Go.Calls->μ,Go.IntKind.u32->σ,UInt8->υ,Go.RowKit.Hid->χ,Decidable.decide->Γ
namespace Go.Proofs.YtndfmgdhiallpaaGreatDoor
open Go.RowKit Go.Maps Go.Proofs.Tryz
def NT(its:E It)(it:It):Bool:=its.length==60||(Γ (0<its.length)&& !Γ ((its.getD (its.length- 1) BG).name.data.toList<it.name.data.toList))
def Ev(p:Y):N->Y->E It->Option (E It)
 |0,_,_=>O
 |n+1,rest,its=>if Lib.hasPrefix rest.data.toList Iy.data.toList=ι then J its else
  match GV p rest with
  |none=>O
  |some (it,b)=>if NT its it then O else Ev p n b (its++[it])
def EB(p s:Y):Option (E It):=match Ev p (s.size+1) s [] with
 |none=>O
 |some its=>if An (BE p its)=s then J its else O
def bP(l p:E υ)(h:Lib.hasPrefix l p=true):(Lib.trimPrefix l p).length+p.length=l.length:=by
 have a:p<+:l:=by
  unfold Lib.hasPrefix at h;exact tX.1 h
 obtain⟨t,rfl⟩:=a;unfold Lib.trimPrefix;rw[rd h];simp;omega
def GY(p nm pk:Y)(b ck a:N):(Bg p ⟨nm,b,ck,a,pk⟩).length=30+(p.size+nm.size)+pk.size:=by
 unfold Bg;rw[qU,qU,qU,El,CF,CF,CF,rg];have:Iy.size=4:=Ac;rw[this]
def Kf{p s:Y}{c:It}{b:Y}(h:GV p s=J (c,b))(n:s.size<=40000):c.ok/\(Bg p c).length+b.size=s.size/\30<=(Bg p c).length:=by
 unfold GV at h;have g:BI s 26 2<65536:=Em s 26 2;have i:BI s 18 4<4294967296:=Em s 18 4;have j:BI s 8 2<65536:=Em s 8 2;have k:BI s 14 4<4294967296:=Em s 14 4;have l:BI s 22 4<4294967296:=Em s 22 4;generalize BI s 26 2=k1 at*;generalize BI s 18 4=k2 at*;generalize BI s 8 2=k3 at*;generalize BI s 14 4=k4 at*;generalize BI s 22 4=k5 at*;split at h
 .cases h
 rename_i h1;split at h
 .cases h
 rename_i h2;split at h
 .cases h
 rename_i h3;split at h
 .cases h
 injection h with h;injection h with ha hb;have f:=bP (s.extract 30 (30+k1)).data.toList p.data.toList (by simpa using h3);have e:(s.extract 30 (30+k1)).data.toList.length=k1:=by
  rw[sd];show(s.extract 30 (30+k1)).size=_;rw[rv];omega
 rw[e] at f;have hp:p.data.toList.length=p.size:=by rw[sd];rfl
 have m:(ByteArray.mk (Lib.trimPrefix (s.extract 30 (30+k1)).data.toList p.data.toList).toArray).size=(Lib.trimPrefix (s.extract 30 (30+k1)).data.toList p.data.toList).length:=AE _;have o:(s.extract (30+k1) (30+k1+k2)).size=k2:=by rw[rv];omega
 have d:b.size=s.size- (30+k1+k2):=by rw[<-hb,rv];omega
 generalize ByteArray.mk (Lib.trimPrefix (s.extract 30 (30+k1)).data.toList p.data.toList).toArray=nm at*;generalize Lib.trimPrefix (s.extract 30 (30+k1)).data.toList p.data.toList=tl at*;generalize s.extract (30+k1) (30+k1+k2)=pk at*;clear hb h3;subst ha;have a:=GY p nm pk k3 k4 k5;refine⟨⟨?_, ?_, ?_, ?_, ?_⟩, ?_, ?_⟩
 .show k3<_;omega
 .show k4<_;omega
 .show k5<_;omega
 .show nm.size<=_;omega
 .show pk.size<=_;omega
 .rw[a];omega
 rw[a];omega
def Vb(p:Y)(b:It)(a:N):(Bt p b a).length<=(Bg p b).length+16:=by
 unfold Bg Bt;simp only[qU,El,CF,CU,sB,vu];have c:Iy.size=4:=Ac;have d:JJ.size=4:=Ac;omega
def PI(p:Y)(its:E It): ∀n,n<=its.length->(AW p its n).length<=(AM p (its.take n)).length+16*n
 |0,_=>by simp[AW]
 |n+1,h=>by
  rw[Cq,Jp p its n Aa,qU,qU];have a:=PI p its n Aa;have b:=Vb p (its.getD n BG) (AM p (its.take n)).length;omega
def bQ{p:Y}{its:E It}(hp:p.size<=1000)(a: ∀i∈its,i.ok)(h0:0<its.length)(b:its.length<=60)(f:(AM p its).length<=40000):Su p its:=by
 have c:=PI p its its.length (rj _);rw[sr] at c;refine⟨hp,a,h0,Aa,Aa,Aa, ?_⟩;have d:=MG p its 1 its.length Aa;have e:0<(AW p its 1).length:=by
  rw[Cq,qU];have:0<(Bt p (its.getD 0 BG) (AM p (its.take 0)).length).length:=by unfold Bt;simp only[qU,El];omega
  omega
 omega
def Zx(p:Y)(w:U):μ prog 89 #[G p,K O 0 0] w λr w' =>Al w w' /\r=ε (G (An (BE p []))):=by
 have l:χ (An (BE p [])=An ([]++endL 0 0 0)):=rfl;have g:=Af (pi (λk=>w.heap.size<=k) (K O 0 0) [] 0 0 0 Aa Aa Aa Ad w (λk j=>j) (Dh.nil _ _));go_in;go_wp2_with fail;go_loop [5,6,8,13] (λm o _ x=>m=K O 0 0/\o=K O 0 0/\x=I Q 0) (λ_ _ _ _=>0)
 .exact ⟨rfl,rfl,rfl⟩
 obtain⟨rfl,rfl,rfl⟩:=hrel;go_wp2_with fail;refine g.mono ?_;rintro r f ⟨a,q,rfl,d,e,rfl,b,_⟩;have i:(convert 62 9 (K d ([]++endL 0 0 0).length e)).run prog f=.ok (G (An ([]++endL 0 0 0))) f:=Fp b;have c:χ (Al w f):=a.mono (λk j h=>Aa);clear g a b;generalize([]++endL 0 0 0:E υ).length=n at*;generalize An ([]++endL 0 0 0)=z at*;go_wp2;go_ret;exact⟨c,by rw[uh l];rfl⟩
def Vc(w w' :U)(r:Ending):Option (E It)->Prop
 |none=>r=ε (η #[K O 0 0,.bool ι])
 |some its=> ∃v,r=ε (η #[v,.bool true])/\DO w' (λk=>w.heap.size<=k) v its
structure gH (p s:Y) (its:E It) (rest:Y) (n:N):Prop where
 go:Ev p (s.size+1) s []=Ev p n rest its
 fuel:rest.size<n
 len:(AM p its).length+rest.size<=40000
 oks: ∀i∈its,i.ok
 few:its.length<=60
def gH.start{p s:Y}(a:s.size<=40000):gH p s [] s (s.size+1):=⟨rfl,Aa,by simpa [AM] using a,(λ_ h=>by cases h),Ad⟩
def gH.done{p s rest:Y}{its:E It}{n:N}(h:gH p s its rest n)(hp:Lib.hasPrefix rest.data.toList Iy.data.toList=ι):EB p s=if An (BE p its)=s then J its else none:=by
 have a:=h.fuel;obtain⟨m,rfl⟩: ∃m,n=m+1:=⟨n- 1,Aa⟩;unfold EB;rw[h.go,Ev,rd hp]
def gH.fail{p s rest:Y}{its:E It}{n:N}(h:gH p s its rest n)(hp:Lib.hasPrefix rest.data.toList Iy.data.toList=true)(a:GV p rest=O\/ ∃c b,GV p rest=J (c,b)/\NT its c=true):EB p s=none:=by
 have e:=h.fuel;obtain⟨m,rfl⟩: ∃m,n=m+1:=⟨n- 1,Aa⟩;unfold EB;rw[h.go,Ev,rc (by rw[hp];decide)];rcases a with a|⟨c,b,a,d⟩
 .rw[a]
 rw[a];simp only[d,vi]
def gH.next{p s rest:Y}{its:E It}{n:N}(h:gH p s its rest n)(hp:Lib.hasPrefix rest.data.toList Iy.data.toList=true){a:It}{b:Y}(d:GV p rest=J (a,b))(c:NT its a=ι): ∃m,gH p s (its++[a]) b m/\b.size<rest.size:=by
 have l:=h.fuel;obtain⟨m,rfl⟩: ∃m,n=m+1:=⟨n- 1,Aa⟩;have o:=h.len;obtain⟨f,j,k⟩:=Kf d Aa;have g:=h.few;refine⟨m,⟨?_,Aa, ?_, ?_, ?_⟩,Aa⟩
 .rw[h.go,Ev,rc (by rw[hp];decide),d];simp only[c,tx,uw]
 .have:AM p (its++[a])=AM p its++Bg p a:=by simp[AM]
  rw[this,qU];omega
 .intro i d;rcases rR.1 d with h2|h2
  .exact h.oks i h2
  rw[rC] at h2;subst h2;exact f
 unfold NT at c;have:its.length≠60:=by intro e;rw[e] at c;simp at c
 rw[qU];simp;omega
def pK(p s:Y)(hp:p.size<=1000)(hs:s.size<=40000)(w:U):μ prog 90 #[G p,G s] w λr w' =>Al w w' /\Vc w w' r (EB p s):=by
 obtain⟨i0,b3,c9,d0,d1⟩:=rN QX;have HP:=Af (λx W=>strings_HasPrefix x Iy W);have a8:=Af (gH.start (p:=p) hs);go_in;go_wp2;go_loopw [6,7,8,9,10] (λu t _ _ _ wr=> ∃(its:E It) (rest:Y) (n:N),t=G rest/\χ (Al w wr)/\χ (DO wr (λk=>w.heap.size<=k) u its)/\χ (gH p s its rest n)/\χ (its=[]->u=K O 0 0)) (λ_ t _ _ _ _=>fd t)
 .exact ⟨[],s,s.size+1,rfl,Ag.refl _ w,⟨rF w 0 _ 5,λb hb=>by cases hb⟩,a8,λ_=>rfl⟩
 obtain⟨its,rest,n,rfl,HO,X,S,HN⟩:=hrel;clear a8;have c8:rest.size<=40000:=by have:=S.len;omega
 have d5:=S.few;have HP1:=Af (λW=>HP rest W);cases hpf:Lib.hasPrefix rest.data.toList Iy.data.toList with
 |false=>
  rw[hpf] at HP1;have P:=Af (S.done hpf);have H2:χ (μ prog 89 #[G p,u6] wr λr w' =>Al wr w' /\r=ε (G (An (BE p its)))):=by
   by_cases h0:0<its.length
   .exact lG _ p u6 its (bQ hp S.oks h0 d5 (by have:=S.len;omega)) wr (uh X)
   have he:its=[]:=sj Aa;subst he;have R:=HN rfl;subst R;exact Zx p wr
  have a9:=Af (Qd (An (BE p its)) s);by_cases he:An (BE p its)=s
  .rw[rd he] at P;rw[he] at H2;go_wp2_with fail;refine(HP1 _).mono ?_;rintro r w1 ⟨rfl,rfl⟩;go_wp2_with fail;refine H2.mono ?_;rintro r w2 ⟨ho2,rfl⟩;have A:=Af (Ag.trans (uh HO) ho2);have HI2:=Af (X.kept ho2 (λ_ _ x=>x));clear ho2 H2;go_wp2;go_ret2;exact⟨A,by rw[uh P];exact⟨_,rfl,HI2⟩⟩
  rw[rc he] at P;have hz:=uh a9;rw[qX he] at hz;clear he a9;generalize An (BE p its)=z at*;go_wp2_with fail;refine(HP1 _).mono ?_;rintro r w1 ⟨rfl,rfl⟩;go_wp2_with fail;refine H2.mono ?_;rintro r w2 ⟨ho2,rfl⟩;have A:=Af (Ag.trans (uh HO) ho2);clear ho2 H2;go_wp2;go_ret2;exact⟨A,by rw[uh P];rfl⟩
 |true=>
  rw[hpf] at HP1;cases hit:GV p rest with
  |none=>
   have HRF:=Af (S.fail hpf (.inl hit));have H1:=Af (XT hit c8 wr);clear hit hpf;go_wp2_with fail;refine(HP1 _).mono ?_;rintro r w1 ⟨rfl,rfl⟩;go_wp2_with fail;refine H1.mono ?_;rintro r w2 ⟨rfl,ho2⟩;have A:χ (∀o k,Al w ((w2.alloc o).drewN k)):=λo k=>((Ag.trans (uh HO) ho2).alloc o).drewN k
   clear ho2;go_wp2_with fail;go_quiet (fail);go_wp2;go_ret2;exact⟨A _ _,by rw[uh HRF];rfl⟩
  |some q=>
   obtain⟨it,b⟩:=q;have H1:=Af (XS hit c8 wr);obtain⟨nm,wy,ck,sz,pk⟩:=it;simp only[It.v] at H1;cases a:NT its ⟨nm,wy,ck,sz,pk⟩ with
   |true=>
    have HRF:=Af (S.fail hpf (.inr ⟨_,_,hit,a⟩));unfold NT at a;by_cases D:its.length=60
    .have d8:(its.length:Z)=60:=Aa;obtain⟨ao,cp,rfl⟩: ∃ao cp,u6=K ao its.length cp:=by
      obtain⟨⟨_,⟨rfl,hz⟩|⟨b',c',d7,rfl,_⟩⟩,_⟩:=uh X
      .exact Hl
      exact⟨_,_,rfl⟩
     clear hit hpf a D;go_wp2_with fail;refine(HP1 _).mono ?_;rintro r w1 ⟨rfl,rfl⟩;go_wp2_with fail;refine H1.mono ?_;rintro r w2 ⟨rfl,ho2⟩;have hA:Al w2 (w2.alloc (γ #[G nm,I σ (wy:Z),I σ (ck:Z),I σ (sz:Z),G pk] 131)):=(Ag.refl _ w2).alloc _;have HI2:χ (Fv (w2.alloc (γ #[G nm,I σ (wy:Z),I σ (ck:Z),I σ (sz:Z),G pk] 131)) w2.heap.size ⟨nm,wy,ck,sz,pk⟩):=rh w2 _;have HOW2:=Af (Ag.trans ho2 hA);clear hA ho2;go_wp2_with fail;generalize w2.alloc (γ #[G nm,I σ (wy:Z),I σ (ck:Z),I σ (sz:Z),G pk] 131)=W at*;go_quiet (fail);go_wp2;go_ret2;exact⟨(Ag.trans (uh HO) (uh HOW2)).drewN _,by rw[uh HRF];rfl⟩
    have C:¬(its.length:Z)=60:=Aa;have y:(its.length==60)=false:=(by rw[re];exact D);rw[y,xZ,rX] at a;have h0:0<its.length:=rQ a.1;have a:=a.2;obtain⟨g,l,rfl,a3,d3,hg,H⟩:=X.slice Aa;have L:g<wr.heap.size:=(qW.1 hg).1;obtain⟨c,M⟩: ∃c,its.length- 1=c:=⟨_,rfl⟩;have a4:c<its.length:=Aa;have b6:(its.length:Z)- 1=(c:Z):=Aa;have c5:(c:Z)<(its.length:Z):=Aa;have b5:(0:Z)<=(c:Z):=Aa;have b7:c<=100:=Aa;have b9:IntKind.i64.wrap (c:Z)=(c:Z):=Av c Aa;have b1:((its.length:Z)==60)=false:=(by rw[re];exact C);have F:wr.cell? ⟨g,c*5,O⟩=J (G (its.getD c BG).name):=H c a4 0 Aa;have HCL:χ (∀W',Al wr W' ->W'.cell? ⟨g,c*5,O⟩=J (G (its.getD c BG).name)):=λW' ho=>(ho.cell (p:=⟨g,c*5,O⟩) L (λx=>x)).trans F
    have b0:(0:Z)<(its.length:Z):=Aa;have d4:0<its.length:=Aa;rw[M] at a;clear H hg L F a3 M;generalize(its.getD c BG).name=lm at*;have c6:¬lm.data.toList<nm.data.toList:=(by simpa using a);have l1:=Nw nm lm;have l2:=Qd nm lm;have d6:(nm.data.toList<lm.data.toList)\/nm=lm:=by
     rcases yx (nm.data.toList<lm.data.toList) with h|h
     .exact .inl h
     exact .inr (Fy h c6)
    clear hit hpf a y D c6 h0;rcases d6 with j|heq
    .rw[qZ j] at l1;clear j l2;exact zy
    rw[qZ heq] at l2;rw[qX (by rw[heq];exact ti _)] at l1;clear heq;exact zy
   |false=>
    obtain⟨m,c7,b2⟩:=S.next hpf hit a;have a7:=Af c7;have a6:=Af b2;clear c7 b2;by_cases h0:its.length=0
    .have b0:¬(0:Z)<(its.length:Z):=Aa;have d9:¬(its.length:Z)=60:=Aa;have R:=HN (sj h0);clear hit hpf a;subst R;go_wp2_with fail;refine(HP1 _).mono ?_;rintro r w1 ⟨rfl,rfl⟩;go_wp2_with fail;refine H1.mono ?_;rintro r w2 ⟨rfl,ho2⟩;have hA:Al w2 (w2.alloc (γ #[G nm,I σ (wy:Z),I σ (ck:Z),I σ (sz:Z),G pk] 131)):=(Ag.refl _ w2).alloc _;have HI2:χ (Fv (w2.alloc (γ #[G nm,I σ (wy:Z),I σ (ck:Z),I σ (sz:Z),G pk] 131)) w2.heap.size ⟨nm,wy,ck,sz,pk⟩):=rh w2 _;have HOW2:=Af (Ag.trans ho2 hA);clear hA ho2;go_wp2_with fail;generalize w2.alloc (γ #[G nm,I σ (wy:Z),I σ (ck:Z),I σ (sz:Z),G pk] 131)=W at*;go_quiet (fail);have a0:χ (Fv (W.drewN nq) w2.heap.size ⟨nm,wy,ck,sz,pk⟩):=uh HI2;have B:=Af (HOW2.drewN nq);clear HI2 HOW2;generalize W.drewN nq=V at*;obtain⟨c0,c1,c2,c3,c4⟩:=a0.cells;have i:Al V (V.alloc (γ (It.v ⟨nm,wy,ck,sz,pk⟩) 131)):=(Ag.refl _ V).alloc _;have HIV:=Af ((X.kept (uh B) (λ_ _ x=>x)).kept i (λ_ _ x=>x));have a1:=Af (XA (wr:=V) ⟨nm,wy,ck,sz,pk⟩);have a5: ∀u∈(It.v ⟨nm,wy,ck,sz,pk⟩).toList,u.oneCell' =true:=by intro u R;simp at R;rcases R with rfl|rfl|rfl|rfl|rfl<;>rfl
     have HO5:=Af (Ag.trans (Ag.trans (uh HO) (uh B)) i);have T:χ (∀(g2 cap2:N) (w3:U),w3.ownsRow 0 131 5 (K (J ⟨g2,0,O⟩) (0+1) cap2) (0+1) ([]++(It.v ⟨nm,wy,ck,sz,pk⟩).toList)->(V.alloc (γ (It.v ⟨nm,wy,ck,sz,pk⟩) 131)).grownBy w3 (Value.slice O 0 0).ownBlock->((Value.slice O 0 0).ownBlock=J g2\/g2=V.heap.size+1)->DO w3 (λk=>w.heap.size<=k) (K (J ⟨g2,0,O⟩) (0+1) cap2) (its++[⟨nm,wy,ck,sz,pk⟩])/\Al w w3):=by
      intro g2 cap2 w3 f d hl3;have d2:its=[]:=sj h0;refine⟨⟨?_,λb hb=> ?_⟩,HO5.grown d (λk hk e=>κ (HIV.2 k e) Aa)⟩
      .rw[d2];rw[tp,JT];exact f
      exact wE
     have a2:=Af (rF (V.alloc (γ (It.v ⟨nm,wy,ck,sz,pk⟩) 131)) 0 131 5);clear i;go_wp2_with (at_builtin;refine wpList_append_lies _ rfl (.tmp 45) (.tmp 47) 129 rfl 0 131 i0 (.agg #[G ⟨#[]⟩,I σ 0,I σ 0,I σ 0,G ⟨#[]⟩]) 5 48 underlying129 b3 c9 d0 d1 rfl Aa (K O 0 0) 0 [] rfl (uh a2) ⟨V.heap.size,0,O⟩ 1 1 (It.v ⟨nm,wy,ck,sz,pk⟩).toList rfl rfl (uh a1) a5 Aa (by unfold maxLen;omega) Aa Aa (V.heap.size+1) Ad ?_;intro g2 cap2 w3 f d hl3 b4;have HX:=Af (T g2 cap2 w3 f d hl3);clear f d hl3);go_roundw
     .exact ⟨its++[(⟨nm,wy,ck,sz,pk⟩:It)],b,m,rfl,HX.2,by have:=HX.1;rw[rx] at this;exact this,a7,λe=>by simp at e⟩
     simp only[fd];exact a6
    have y:(its.length==60)=ι/\(Γ (0<its.length)&& !Γ ((its.getD (its.length- 1) BG).name.data.toList<nm.data.toList))=false:=by
     unfold NT at a;rw[xK] at a;exact a
    have C:¬(its.length:Z)=60:=by
     have:=y.1;rw[re] at this;omega
    have a:=y.2;rw[qZ Aa,tj] at a;clear y;obtain⟨g,l,rfl,a3,d3,hg,H⟩:=X.slice Aa;have L:g<wr.heap.size:=(qW.1 hg).1;obtain⟨c,M⟩: ∃c,its.length- 1=c:=⟨_,rfl⟩;have a4:c<its.length:=Aa;have b6:(its.length:Z)- 1=(c:Z):=Aa;have c5:(c:Z)<(its.length:Z):=Aa;have b5:(0:Z)<=(c:Z):=Aa;have b7:c<=100:=Aa;have b9:IntKind.i64.wrap (c:Z)=(c:Z):=Av c Aa;have b1:((its.length:Z)==60)=false:=(by rw[re];exact C);have F:wr.cell? ⟨g,c*5,O⟩=J (G (its.getD c BG).name):=H c a4 0 Aa;have HCL:χ (∀W',Al wr W' ->W'.cell? ⟨g,c*5,O⟩=J (G (its.getD c BG).name)):=λW' ho=>(ho.cell (p:=⟨g,c*5,O⟩) L (λx=>x)).trans F
    have b0:(0:Z)<(its.length:Z):=Aa;have d4:0<its.length:=Aa;rw[M] at a;clear H hg L F a3 M;generalize(its.getD c BG).name=lm at*;have j:lm.data.toList<nm.data.toList:=(by simpa using a);have l1:=Nw nm lm;have l2:=Qd nm lm;rw[qX (λh=>κ (uE h j) (ti _))] at l1;rw[qX (λh=>by rw[h] at j;exact κ j (ti _))] at l2;clear hit hpf a j h0;go_wp2_with fail;refine(HP1 _).mono ?_;rintro r w1 ⟨rfl,rfl⟩;go_wp2_with fail;refine H1.mono ?_;rintro r w2 ⟨rfl,ho2⟩;have hA:Al w2 (w2.alloc (γ #[G nm,I σ (wy:Z),I σ (ck:Z),I σ (sz:Z),G pk] 131)):=(Ag.refl _ w2).alloc _;have HI2:χ (Fv (w2.alloc (γ #[G nm,I σ (wy:Z),I σ (ck:Z),I σ (sz:Z),G pk] 131)) w2.heap.size ⟨nm,wy,ck,sz,pk⟩):=rh w2 _;have HOW2:=Af (Ag.trans ho2 hA);clear hA ho2;have hlc:=HCL _ (uh HOW2);have hnc:=HI2.cells.1;go_wp2_with fail;generalize w2.alloc (γ #[G nm,I σ (wy:Z),I σ (ck:Z),I σ (sz:Z),G pk] 131)=W at*;go_quiet (fail);have a0:χ (Fv (W.drewN nq) w2.heap.size ⟨nm,wy,ck,sz,pk⟩):=uh HI2;have B:=Af (HOW2.drewN nq);clear HI2 HOW2;generalize W.drewN nq=V at*;obtain⟨c0,c1,c2,c3,c4⟩:=a0.cells;have i:Al V (V.alloc (γ (It.v ⟨nm,wy,ck,sz,pk⟩) 131)):=(Ag.refl _ V).alloc _;have HIV:=Af ((X.kept (uh B) (λ_ _ x=>x)).kept i (λ_ _ x=>x));have a1:=Af (XA (wr:=V) ⟨nm,wy,ck,sz,pk⟩);have a5: ∀u∈(It.v ⟨nm,wy,ck,sz,pk⟩).toList,u.oneCell' =true:=by intro u R;simp at R;rcases R with rfl|rfl|rfl|rfl|rfl<;>rfl
    have HO5:=Af (Ag.trans (Ag.trans (uh HO) (uh B)) i);have T:χ (∀(g2 cap2:N) (w3:U),w3.ownsRow 0 131 5 (K (J ⟨g2,0,O⟩) (its.length+1) cap2) (its.length+1) (CX its++(It.v ⟨nm,wy,ck,sz,pk⟩).toList)->(V.alloc (γ (It.v ⟨nm,wy,ck,sz,pk⟩) 131)).grownBy w3 (Value.slice (J ⟨g,0,O⟩) its.length l).ownBlock->((Value.slice (J ⟨g,0,O⟩) its.length l).ownBlock=J g2\/g2=V.heap.size+1)->DO w3 (λk=>w.heap.size<=k) (K (J ⟨g2,0,O⟩) (its.length+1) cap2) (its++[⟨nm,wy,ck,sz,pk⟩])/\Al w w3):=by
     intro g2 cap2 w3 f d hl3;refine⟨⟨?_,λb hb=> ?_⟩,HO5.grown d (λk hk e=>κ (HIV.2 k e) Aa)⟩
     .rw[Ns,JT,qU];exact f
     exact wE
    have a2:=Af HIV.1;clear i;go_wp2_with (at_builtin;refine wpList_append_lies _ rfl (.tmp 45) (.tmp 47) 129 rfl 0 131 i0 (.agg #[G ⟨#[]⟩,I σ 0,I σ 0,I σ 0,G ⟨#[]⟩]) 5 48 underlying129 b3 c9 d0 d1 rfl Aa (K (J ⟨g,0,O⟩) its.length l) its.length (CX its) rfl (uh a2) ⟨V.heap.size,0,O⟩ 1 1 (It.v ⟨nm,wy,ck,sz,pk⟩).toList rfl rfl (uh a1) a5 Aa (by unfold maxLen;omega) Aa Aa (V.heap.size+1) Ad ?_;intro g2 cap2 w3 f d hl3 b4;have HX:=Af (T g2 cap2 w3 f d hl3);clear f d hl3);go_roundw
    .exact ⟨its++[(⟨nm,wy,ck,sz,pk⟩:It)],b,m,rfl,HX.2,Af HX.1,a7,λe=>by simp at e⟩
    simp only[fd];exact a6
abbrev Qt(s:Y):Bool:=Γ (s≠Ez)&&Γ (AO s=Ez)
def Dx(f:Gp)(all:N)(it:It):N:=if CK it.name=ι then 4 else if Qt it.name then 4 else if CT f it.name then 5 else if Bu it.name<it.size then 1 else if 16000- all<it.size then 1 else 0
def Bl:E It->Gp->N->N
 |[],_,_=>0
 |it::r,f,all=>if Dx f all it=0 then Bl r (GR f it.name) (all+it.size) else Dx f all it
def PJ{f:Gp}{all:N}{a:It}(h:Dx f all a=0):CK a.name=true/\Qt a.name=ι/\CT f a.name=ι/\a.size<=Bu a.name/\a.size<=16000- all:=by
 unfold Dx at h;split at h
 .cases h
 rename_i h1;split at h
 .cases h
 rename_i h2;split at h
 .cases h
 rename_i h3;split at h
 .cases h
 rename_i h4;split at h
 .cases h
 rename_i h5;exact⟨by simpa using h1,by simpa using h2,by simpa using h3,Aa,Aa⟩
structure Zy (its:E It) (i:N) (f:Gp) (all:N):Prop where
 go:Bl its (λ_=>O) 0=Bl (its.drop i) f all
 all16:all<=16000
def Zy.start(its:E It):Zy its 0 (λ_=>O) 0:=⟨rfl,Aa⟩
def Kw(its:E It)(i:N)(h:i<its.length):its.drop i=its.getD i BG::its.drop (i+1):=by
 rw[sK h,qT,qY h];rfl
def Zy.end{its:E It}{i:N}{f:Gp}{all:N}(h:Zy its i f all)(a:its.length<=i):Bl its (λ_=>O) 0=0:=by
 rw[h.go,xq a];rfl
def Zy.fault{its:E It}{i:N}{f:Gp}{all:N}(h:Zy its i f all)(b:i<its.length)(a:Dx f all (its.getD i BG)≠0):Bl its (λ_=>O) 0=Dx f all (its.getD i BG):=by
 rw[h.go,Kw its i b,Bl,rc a]
def Zy.next{its:E It}{i:N}{f:Gp}{all:N}(h:Zy its i f all)(b:i<its.length)(a:Dx f all (its.getD i BG)=0):Zy its (i+1) (GR f (its.getD i BG).name) (all+(its.getD i BG).size):=by
 have c:=(PJ a).2.2.2.2;have d:=h.all16;exact⟨by rw[h.go,Kw its i b,Bl,rd a],Aa⟩
def nQ(v:β)(its:E It)(hn:its.length<=60)(H: ∀i∈its,i.ok)(B:N->Prop)(w:U)(hm:Cb w)(hv:DO w B v its):
 μ prog 91 #[v] w λr w' =>r=ε (I Q (Bl its (λ_=>O) 0))/\Al w w' :=by
 obtain⟨ao,cp,rfl⟩: ∃ao cp,v=K ao its.length cp:=abX;have u:Al w (w.alloc (.map #[] 0)):=(Ag.refl _ w).alloc _;have HG:χ (Cc (w.alloc (.map #[] 0)) w.heap.size (0*1001) (λ_=>O)):=by rw[yr];exact Cc.made w
 have HO:=Af u;have HM:=Af hm;have HV:=Af hv;have HK:χ (∀i,i<its.length->(its.getD i BG).ok):=λi hi=>by rw[qT,qY hi];exact H _ (ro hi)
 have HS:=Af (Zy.start its);clear u hm hv H;have a5:= @vL prog;go_in;go_wp2_with fail;clear a5;go_loopw [4,6,10] (λa _ x wr=> ∃(i:N) (f:Gp) (all:N),i<=its.length/\x=I Q i/\a=I σ (all:Z)/\χ (Al w wr)/\χ (Cc wr w.heap.size (i*1001) f)/\χ (Zy its i f all)) (λ_ _ x _=>its.length- (intOf x).toNat)
 .exact ⟨0,_,0,Aa,rfl,rfl,HO,HG,HS⟩
 obtain⟨i,f,all,hi,rfl,rfl,d,q,b⟩:=hrel;clear HG HO HS;by_cases j:i<its.length
 .have D:(i:Z)<(its.length:Z):=Aa;obtain⟨g,a7,a6,a4,b1,hg,A⟩:=HV.slice Aa;have C:g<w.heap.size:=(qW.1 hg).1;injection a6 with hv1 hv2 hv3;subst hv1 hv3;have n:=λc n=>(d.cell (p:=⟨g,i*5+c,O⟩) C (λx=>x)).trans (A i j c n)
  have s:=HK i j;have HNX:=Af (b.next j);have HFT:=Af (b.fault j);have b2:=b.all16;have HDF:χ (Dx f all (its.getD i BG)=if CK (its.getD i BG).name=ι then 4 else if Qt (its.getD i BG).name then 4 else if CT f (its.getD i BG).name then 5 else if Bu (its.getD i BG).name<(its.getD i BG).size then 1 else if 16000- all<(its.getD i BG).size then 1 else 0):=rfl;clear A hg C a4 hv2 b;generalize its.getD i BG=it at*;obtain⟨nm,wy,ck,sz,pk⟩:=it;have q0:wr.cell? ⟨g,i*5,O⟩=J (G nm):=n 0 Aa;have q1:wr.cell? ⟨g,i*5+1,O⟩=J (I σ wy):=n 1 Aa;have q2:wr.cell? ⟨g,i*5+2,O⟩=J (I σ ck):=n 2 Aa;have q3:wr.cell? ⟨g,i*5+3,O⟩=J (I σ sz):=n 3 Aa;have q4:wr.cell? ⟨g,i*5+4,O⟩=J (G pk):=n 4 Aa;obtain⟨o1,o2,o3,o4,o5⟩:=s;simp only at o1 o2 o3 o4 o5 HNX HFT HDF;clear n;have u:Al wr (wr.alloc (γ #[G nm,I σ (wy:Z),I σ (ck:Z),I σ (sz:Z),G pk] 131)):=(Ag.refl _ wr).alloc _;have HI2:χ (Fv (wr.alloc (γ #[G nm,I σ (wy:Z),I σ (ck:Z),I σ (sz:Z),G pk] 131)) wr.heap.size ⟨nm,wy,ck,sz,pk⟩):=rh wr _;have HG2:=Af (q.old u);have HO2:=Af (Ag.trans (uh d) u);have X:χ (w.heap.size<wr.heap.size):=q.lt;have H1:=Af (λW h=>SC nm Aa W h);have H2:=Af (λW=>MN nm Aa W);have H4:=Af (λW=>UA nm W);have HSZ:χ (CK nm=true->nm.size<=80):=Ee;have H3:χ (nm.size<=80-> ∀W,Cc W w.heap.size (i*1001) f->μ prog 154 #[.map (J w.heap.size),G nm] W λr w' =>r=ε (.bool (CT f nm))/\Al W w'):=λh W hW=>GS nm Aa w.heap.size _ f W hW
  have H5:χ (nm.size<=80-> ∀W,Cc W w.heap.size (i*1001) f->μ prog 157 #[.map (J w.heap.size),G nm] W λr w' =>r=ε (η #[])/\Ag (λk=>k=w.heap.size) W w' /\Cc w' w.heap.size (i*1001+1001) (GR f nm)):=λh W hW=>pt nm Aa w.heap.size _ Aa f W hW
  rw[show(Γ (nm≠Ez)&&Γ (AO nm=Ez))=Qt nm from rfl] at H2;generalize Qt nm=bo at*;generalize CT f nm=bc at*;have b3:Bu nm<=4000:=by unfold Bu;split<;>omega
  generalize Bu nm=M at*;clear u q d;cases hfi:CK nm with
  |false=>
   have HANS:χ (Bl its (λ_=>O) 0=4):=by
    have e:Dx f all ⟨nm,wy,ck,sz,pk⟩=4:=(by rw[uh HDF,rd hfi]);exact WM
   rw[hfi] at H1 HSZ;clear hfi HDF HFT HNX;go_upto_region 6 with fail;generalize wr.alloc (γ #[G nm,I σ (wy:Z),I σ (ck:Z),I σ (sz:Z),G pk] 131)=W at*;clear q0 q1 q2 q3 q4;have n0:=HI2.cells.1;have HFW:=Af (H1 W (HM.old (uh HO2)));go_wp2_with fail;refine HFW.mono ?_;rintro r w1 ⟨rfl,ho1⟩;have HI3:=Af (HI2.kept ho1 (λx=>x));have HG3:=Af (HG2.old ho1);have HO3:=Af (Ag.trans (uh HO2) ho1);have n1:=HI3.cells.1;clear HFW ho1 n0 HI2 HG2 HO2;go_wp2;go_ret;exact⟨by rw[uh HANS];rfl,HO3⟩
  |true=>
   rw[hfi] at H1 HSZ;rw[hfi,rc Ac] at HDF;clear hfi;cases bo with
   |true=>
    have HANS:χ (Bl its (λ_=>O) 0=4):=by
     have e:Dx f all ⟨nm,wy,ck,sz,pk⟩=4:=(by rw[uh HDF,rd rfl]);exact WM
    clear HDF HFT HNX;go_upto_region 6 with fail;generalize wr.alloc (γ #[G nm,I σ (wy:Z),I σ (ck:Z),I σ (sz:Z),G pk] 131)=W at*;clear q0 q1 q2 q3 q4;have n0:=HI2.cells.1;have HFW:=Af (H1 W (HM.old (uh HO2)));go_wp2_with fail;refine HFW.mono ?_;rintro r w1 ⟨rfl,ho1⟩;have HI3:=Af (HI2.kept ho1 (λx=>x));have HG3:=Af (HG2.old ho1);have HO3:=Af (Ag.trans (uh HO2) ho1);have n1:=HI3.cells.1;clear HFW ho1 n0 HI2 HG2 HO2;go_wp2_with fail;refine(H2 w1).mono ?_;rintro r w2 ⟨rfl,ho2⟩;have HI4:=Af (HI3.kept ho2 (λx=>x));have HG4:=Af (HG3.old ho2);have HO4:=Af (Ag.trans (uh HO3) ho2);have n2:=HI4.cells.1;clear ho2 n1 HI3 HG3 HO3;go_wp2;go_ret;exact⟨by rw[uh HANS];rfl,HO4⟩
   |false=>
    rw[rc Ac] at HDF;cases bc with
    |true=>
     have HANS:χ (Bl its (λ_=>O) 0=5):=by
      have e:Dx f all ⟨nm,wy,ck,sz,pk⟩=5:=(by rw[uh HDF,rd rfl]);exact WM
     clear HDF HFT HNX;go_upto_region 6 with fail;generalize wr.alloc (γ #[G nm,I σ (wy:Z),I σ (ck:Z),I σ (sz:Z),G pk] 131)=W at*;clear q0 q1 q2 q3 q4;have n0:=HI2.cells.1;have HFW:=Af (H1 W (HM.old (uh HO2)));go_wp2_with fail;refine HFW.mono ?_;rintro r w1 ⟨rfl,ho1⟩;have HI3:=Af (HI2.kept ho1 (λx=>x));have HG3:=Af (HG2.old ho1);have HO3:=Af (Ag.trans (uh HO2) ho1);have n1:=HI3.cells.1;clear HFW ho1 n0 HI2 HG2 HO2;go_wp2_with fail;refine(H2 w1).mono ?_;rintro r w2 ⟨rfl,ho2⟩;have HI4:=Af (HI3.kept ho2 (λx=>x));have HG4:=Af (HG3.old ho2);have HO4:=Af (Ag.trans (uh HO3) ho2);have n2:=HI4.cells.1;clear ho2 n1 HI3 HG3 HO3;go_wp2_with fail;refine(H3 (HSZ trivial) w2 (uh HG4)).mono ?_;rintro r w3 ⟨rfl,ho3⟩;have HI5:=Af (HI4.kept ho3 (λx=>x));have HG5:=Af (HG4.old ho3);have HO5:=Af (Ag.trans (uh HO4) ho3);have n3:=HI5.cells.1;have m3:=HI5.cells.2.2.2.1;clear ho3 n2 HI4 HG4 HO4;go_wp2;go_ret;exact⟨by rw[uh HANS];rfl,HO5⟩
    |false=>
     rw[rc Ac] at HDF;have b4:IntKind.u32.wrap (M:Z)=(M:Z):=(by rw[sG];omega);obtain⟨R,hR⟩: ∃R,16000- all=R:=⟨_,rfl⟩;have b5:(16000:Z)- (all:Z)=(R:Z):=Aa;have b7:IntKind.u32.wrap (R:Z)=(R:Z):=(by rw[sG];omega);have b6:R<=16000:=Aa;rw[hR] at HDF;by_cases l:M<sz
     .have HANS:χ (Bl its (λ_=>O) 0=1):=by
       have e:Dx f all ⟨nm,wy,ck,sz,pk⟩=1:=(by rw[uh HDF,rd l]);exact WM
      have a0:Γ ((M:Z)<(sz:Z))=true:=(by rw[vZ];omega);have a1:Γ (M<sz)=true:=(by simpa using l);exact zh
     rw[rc l] at HDF;have a0:Γ ((M:Z)<(sz:Z))=false:=(by rw[xf];omega);have a1:Γ (M<sz)=false:=(by simpa using l);have a8:¬(M:Z)<(sz:Z):=Aa;by_cases m:R<sz
     .have HANS:χ (Bl its (λ_=>O) 0=1):=by
       have e:Dx f all ⟨nm,wy,ck,sz,pk⟩=1:=(by rw[uh HDF,rd m]);exact WM
      have a2:Γ ((R:Z)<(sz:Z))=true:=(by rw[vZ];omega);have a3:Γ (R<sz)=true:=(by simpa using m);exact zh
     rw[rc m] at HDF;have HNX:=Af (HNX (uh HDF));have a2:Γ ((R:Z)<(sz:Z))=false:=(by rw[xf];omega);have a3:Γ (R<sz)=false:=(by simpa using m);have a9:¬(R:Z)<(sz:Z):=Aa;have b0:sz<=4000:=Aa;clear HDF HFT;go_upto_region 6 with fail;generalize wr.alloc (γ #[G nm,I σ (wy:Z),I σ (ck:Z),I σ (sz:Z),G pk] 131)=W at*;clear q0 q1 q2 q3 q4;have n0:=HI2.cells.1;have HFW:=Af (H1 W (HM.old (uh HO2)));go_wp2_with fail;refine HFW.mono ?_;rintro r w1 ⟨rfl,ho1⟩;have HI3:=Af (HI2.kept ho1 (λx=>x));have HG3:=Af (HG2.old ho1);have HO3:=Af (Ag.trans (uh HO2) ho1);have n1:=HI3.cells.1;clear HFW ho1 n0 HI2 HG2 HO2;go_wp2_with fail;refine(H2 w1).mono ?_;rintro r w2 ⟨rfl,ho2⟩;have HI4:=Af (HI3.kept ho2 (λx=>x));have HG4:=Af (HG3.old ho2);have HO4:=Af (Ag.trans (uh HO3) ho2);have n2:=HI4.cells.1;clear ho2 n1 HI3 HG3 HO3;go_wp2_with fail;refine(H3 (HSZ trivial) w2 (uh HG4)).mono ?_;rintro r w3 ⟨rfl,ho3⟩;have HI5:=Af (HI4.kept ho3 (λx=>x));have HG5:=Af (HG4.old ho3);have HO5:=Af (Ag.trans (uh HO4) ho3);have n3:=HI5.cells.1;have m3:=HI5.cells.2.2.2.1;clear ho3 n2 HI4 HG4 HO4;go_wp2_with fail;go_quiet ((go_at_call 156;exact Calls.quiet_of_same (H4 _)));have o:χ (Fv (w3.drewN nq) wr.heap.size ⟨nm,wy,ck,sz,pk⟩):=uh HI5;have y:χ (Cc (w3.drewN nq) w.heap.size (i*1001) f):=HG5.old ((Ag.refl _ w3).drewN nq);have z:=Af (HO5.drewN nq);clear HI5 HG5 HO5 n3 m3;generalize w3.drewN nq=V at*;have n4:=o.cells.1;go_wp2_with fail;refine(H5 (HSZ trivial) V (uh y)).mono ?_;rintro r w5 ⟨rfl,t,F⟩;have P:=Af (o.kept t (by have:=uh X;omega));have m5:=P.cells.2.2.2.1;have T:χ (Al w w5):=z.transNew t (λk hk e=>Aa);have S:χ (Cc w5 w.heap.size ((i+1)*1001) (GR f nm)):=(by rw[Nat.succ_mul];exact F);obtain⟨L,hN⟩: ∃L,all+sz=L:=⟨_,rfl⟩;rw[hN] at HNX;have b9:IntKind.u32.wrap ((all:Z)+(sz:Z))=(L:Z):=(by rw[sG];omega);clear hN;clear t F o y z n4;go_wp2;go_roundw
     .exact ⟨i+1,GR f nm,L,Aa,by go_num,rfl,T,S,HNX⟩
     exact Ae
 have D:¬(i:Z)<(its.length:Z):=Aa;have HANS:=Af (b.end Aa);go_wp2;go_ret;exact⟨by rw[uh HANS];rfl,d⟩
def FA(it:It):Y×N:=if it.way=0 then(if it.packed.size=it.size then(it.packed,0) else(⟨#[]⟩,7)) else(if(Az it.packed).2.2=0/\(Az it.packed).2.1=it.packed.size/\(Az it.packed).1.size=it.size then((Az it.packed).1,0) else(⟨#[]⟩,2))
def Fg(it:It):Y×N:=if(FA it).2≠0 then(⟨#[]⟩,(FA it).2) else if Bz (FA it).1=it.check then((FA it).1,0) else(⟨#[]⟩,8)
def bR(b:It)(m:b.ok)(w:U)(e:De w):
 μ prog 273 #[.agg b.v] w λr w' =>r=ε (η #[G (FA b).1,I Q (FA b).2])/\Al w w' :=by
 have c:χ (FA b=if b.way=0 then(if b.packed.size=b.size then(b.packed,0) else(⟨#[]⟩,7)) else(if(Az b.packed).2.2=0/\(Az b.packed).2.1=b.packed.size/\(Az b.packed).1.size=b.size then((Az b.packed).1,0) else(⟨#[]⟩,2))):=rfl;generalize FA b=ans at*;obtain⟨nm,i,ck,d,pk⟩:=b;obtain⟨A,B,C,D,F⟩:=m;simp only at A B C D F c;have l:Al w (w.alloc (γ #[G nm,I σ (i:Z),I σ (ck:Z),I σ (d:Z),G pk] 131)):=(Ag.refl _ w).alloc _;have HI:χ (Fv (w.alloc (γ #[G nm,I σ (i:Z),I σ (ck:Z),I σ (d:Z),G pk] 131)) w.heap.size ⟨nm,i,ck,d,pk⟩):=rh w _;have HO:=Af l;have HB:=Af (en pk Aa (w.alloc (γ #[G nm,I σ (i:Z),I σ (ck:Z),I σ (d:Z),G pk] 131)) (De.kept e l (λx=>x)));clear l e;obtain⟨c0,c1,c2,c3,c4⟩:=HI.cells;simp only[It.v] at*;by_cases f:i=0
 .rw[rd f] at c;subst f;clear HB;by_cases g:pk.size=d
  .rw[rd g] at c;subst g;have a:=uh c;subst a;go_in;go_wp2;go_ret2;exact⟨rfl,HO⟩
  rw[rc g] at c;have a:=uh c;subst a;have n:((pk.size:Z) !=(d:Z))=true:=by rw[rS];omega
  have o:¬(pk.size:Z)=(d:Z):=Aa;go_in;go_wp2;go_ret2;exact⟨rfl,HO⟩
 rw[rc f] at c;have p:((i:Z)==0)=false:=by rw[re];omega
 have q:¬(i:Z)=0:=Aa;generalize(Az pk).1=z at*;generalize(Az pk).2.1=us at*;generalize(Az pk).2.2=er at*;by_cases j:er=0
 .by_cases k:us=pk.size
  .by_cases g:z.size=d
   .rw[rd ⟨j,k,g⟩] at c;have a:=uh c;subst a j k g;exact zu
   rw[rc (λh=>g h.2.2)] at c;have a:=uh c;subst a j k;have n:((z.size:Z) !=(d:Z))=true:=by rw[rS];omega
   have o:¬(z.size:Z)=(d:Z):=Aa;exact zu
  rw[rc (λh=>k h.2.1)] at c;have a:=uh c;subst a j;have u:((us:Z) !=(pk.size:Z))=true:=by rw[rS];omega
  have y:¬(us:Z)=(pk.size:Z):=Aa;exact zu
 rw[rc (λh=>j h.1)] at c;have a:=uh c;subst a;have s:((er:Z) !=0)=true:=by rw[rS];omega
 have t:¬(er:Z)=0:=Aa;exact zu
def Rz(c:It)(d:c.ok):(FA c).1.size<=140737488355328:=by
 have e:=d.2.2.1;have f:=d.2.2.2.2;have h0:(⟨#[]⟩:Y).size=0:=rfl;unfold FA;by_cases a:c.way=0
 .rw[rd a];by_cases b:c.packed.size=c.size
  .rw[rd b];show c.packed.size<=_;omega
  exact abw
 rw[rc a];by_cases b:(Az c.packed).2.2=0/\(Az c.packed).2.1=c.packed.size/\(Az c.packed).1.size=c.size
 .rw[rd b];show(Az c.packed).1.size<=_;omega
 exact abw
def pL(a:It)(f:a.ok)(w:U)(c:De w):
 μ prog 174 #[.agg a.v] w λr w' =>r=ε (η #[G (Fg a).1,I Q (Fg a).2])/\Al w w' :=by
 have d:χ (Fg a=if(FA a).2≠0 then(⟨#[]⟩,(FA a).2) else if Bz (FA a).1=a.check then((FA a).1,0) else(⟨#[]⟩,8)):=rfl;have p:(FA a).1.size<=140737488355328:=Rz a f;have i:Al w (w.alloc (γ a.v 131)):=(Ag.refl _ w).alloc _;have HI:χ (Fv (w.alloc (γ a.v 131)) w.heap.size a):=rh w _;have HO:=Af i;have H1:=Af (bR a f (w.alloc (γ a.v 131)) (De.kept c i (λx=>x)));have HC:=Af (λW=>Iw (FA a).1 W (by unfold maxLen;omega));have m:=EG (FA a).1;clear i c;generalize Fg a=ans at*;generalize FA a=un at*;obtain⟨z,g⟩:=un;obtain⟨nm,B,ck,A,pk⟩:=a;obtain⟨q,s,t,u,y⟩:=f;obtain⟨c0,c1,c2,c3,c4⟩:=HI.cells;simp only[It.v] at*;generalize Bz z=cz at*;by_cases l:g=0
 .subst l;rw[rc (λh=>h rfl)] at d;by_cases e:cz=ck
  .rw[rd e] at d;have b:=uh d;subst b e;exact zU
  rw[rc e] at d;have b:=uh d;subst b;have j:((cz:Z) !=(ck:Z))=true:=by rw[rS];omega
  have k:¬(cz:Z)=(ck:Z):=Aa;exact zU
 rw[rd l] at d;have b:=uh d;subst b;have n:((g:Z) !=0)=true:=by rw[rS];omega
 have o:¬(g:Z)=0:=Aa;go_in;go_wp2_with fail;refine H1.mono ?_;rintro r w1 ⟨rfl,ho1⟩;have HO1:=Af (Ag.trans (uh HO) ho1);clear ho1 H1 c0 c1 c2 c3 c4 HI HO;go_wp2;go_ret2;exact⟨rfl,HO1⟩
def EO:E It->E Fl->E Fl×N
 |[],acc=>(acc,0)
 |it::r,acc=>if(Fg it).2=0 then EO r (acc++[(it.name,(Fg it).1)]) else([],(Fg it).2)
structure Zz (its:E It) (i:N) (acc:E Fl):Prop where
 go:EO its []=EO (its.drop i) acc
 len:acc.length=i
def Zz.start(its:E It):Zz its 0 []:=⟨rfl,rfl⟩
def Zz.end{its:E It}{i:N}{a:E Fl}(h:Zz its i a)(b:its.length<=i):EO its []=(a,0):=by
 rw[h.go,xq b];rfl
def Zz.fault{its:E It}{i:N}{a:E Fl}(h:Zz its i a)(c:i<its.length)(b:(Fg (its.getD i BG)).2≠0):EO its []=([],(Fg (its.getD i BG)).2):=by
 rw[h.go,Kw its i c,EO,rc b]
def Zz.next{its:E It}{i:N}{a:E Fl}(h:Zz its i a)(c:i<its.length)(b:(Fg (its.getD i BG)).2=0):Zz its (i+1) (a++[((its.getD i BG).name,(Fg (its.getD i BG)).1)]):=
 ⟨by rw[h.go,Kw its i c,EO,rd b],by rw[qU,h.len];rfl⟩
def Jx(w w' :U)(r:Ending)(res:E Fl×N):Prop:=
 (res.2=0/\∃u,r=ε (η #[u,I Q 0])/\Au w' u res.1/\∀b,u.ownBlock=J b->w.heap.size<=b)\/(res.2≠0/\r=ε (η #[K O 0 0,I Q (res.2:Z)]))
def RA(c:It)(d:c.ok):(Fg c).1.size<=140737488355328:=by
 have e:=Rz c d;unfold Fg;by_cases a:(FA c).2≠0
 .rw[rd a];exact sl _
 rw[rc a];by_cases b:Bz (FA c).1=c.check
 .rw[rd b];exact e
 rw[rc b];exact sl _
def Yo(v:β)(its:E It)(hn:its.length<=60)(b5: ∀i∈its,i.ok)(B:N->Prop)(w:U)(D:De w)(hv:DO w B v its):
 μ prog 92 #[v] w λr w' =>Al w w' /\Jx w w' r (EO its []):=by
 obtain⟨i0,c7,c9,d0,d1⟩:=rN Jr;obtain⟨ao,cp,rfl⟩: ∃ao cp,v=K ao its.length cp:=abX;have HV:=Af hv;have HK:χ (∀i,i<its.length->(its.getD i BG).ok):=λi hi=>by rw[qT,qY hi];exact b5 _ (ro hi)
 have HS:=Af (Zz.start its);have a6:=Af D;have HO:=Af (Ag.refl (λ_=>False) w);have a1:χ (Au w (K O 0 0) []):=rF w 0 _ 2;clear hv b5 D;go_in;go_wp2;go_loopw [4,6,7,8,11] (λu _ _ _ x wr=> ∃(i:N) (a:E Fl),i<=its.length/\x=I Q i/\χ (Al w wr)/\χ (Zz its i a)/\χ (Au wr u a)/\χ (∀b,u.ownBlock=J b->w.heap.size<=b)) (λ_ _ _ _ x _=>its.length- (intOf x).toNat)
 .exact ⟨0,[],Aa,rfl,HO,HS,a1,λb h=>by cases h⟩
 obtain⟨i,a,hi,rfl,s,n,M,R⟩:=hrel;clear HO HS a1;by_cases A:i<its.length
 .have b1:(i:Z)<(its.length:Z):=Aa;obtain⟨g,d2,c8,c6,d4,hg,a8⟩:=HV.slice Aa;have b0:g<w.heap.size:=(qW.1 hg).1;injection c8 with hv1 hv2 hv3;subst hv1 hv3;have C:=λc C=>(s.cell (p:=⟨g,i*5+c,O⟩) b0 (λx=>x)).trans (a8 i A c C)
  have f:=Af (HK i A);have q:=Af (n.next A);have o:=Af (n.fault A);have a0:=Af (RA _ (uh f));have d3:a.length<=60:=by have:=n.len;omega
  have HD:=Af (λW h=>pL (its.getD i BG) (uh f) W h);clear a8 hg b0 c6 hv2 n;generalize Fg (its.getD i BG)=dd at*;generalize its.getD i BG=it at*;obtain⟨nm,wy,ck,X,pk⟩:=it;obtain⟨z,er⟩:=dd;have q0:wr.cell? ⟨g,i*5,O⟩=J (G nm):=C 0 Aa;have q1:wr.cell? ⟨g,i*5+1,O⟩=J (I σ wy):=C 1 Aa;have q2:wr.cell? ⟨g,i*5+2,O⟩=J (I σ ck):=C 2 Aa;have q3:wr.cell? ⟨g,i*5+3,O⟩=J (I σ X):=C 3 Aa;have q4:wr.cell? ⟨g,i*5+4,O⟩=J (G pk):=C 4 Aa;obtain⟨o1,o2,o3,o4,o5⟩:=uh f;simp only[It.v] at o1 o2 o3 o4 o5 q o HD a0;have d5:=uh a0;clear C f;have hA:Al wr (wr.alloc (γ #[G nm,I σ (wy:Z),I σ (ck:Z),I σ (X:Z),G pk] 131)):=(Ag.refl _ wr).alloc _;have m:χ (Fv (wr.alloc (γ #[G nm,I σ (wy:Z),I σ (ck:Z),I σ (X:Z),G pk] 131)) wr.heap.size ⟨nm,wy,ck,X,pk⟩):=rh wr _;have j:=Af (Ag.trans (uh s) hA);have H:=Af (M.old hA);clear hA M s;by_cases he:er=0
  .subst he;have b9:χ (Zz its (i+1) (a++[(nm,z)])):=by first|exact q trivial|exact q rfl
   clear o;go_upto_region 5 with fail;generalize wr.alloc (γ #[G nm,I σ (wy:Z),I σ (ck:Z),I σ (X:Z),G pk] 131)=W at*;clear q0 q1 q2 q3 q4;obtain⟨c0,c1,c2,c3,c4⟩:=m.cells;simp only at c0 c1 c2 c3 c4;have H1:=Af (HD W (De.kept (uh a6) (uh j) (λx=>x)));go_wp2_with fail;refine H1.mono ?_;rintro r w1 ⟨rfl,d⟩;have a4:=Af (m.kept d (λx=>x));have t:=Af (Ag.trans (uh j) d);have a2:=Af (H.old d);have n1:=a4.cells.1;simp only at n1;have H2:=Af (MO nm Aa w1);clear H1 d m j H c0 c1 c2 c3 c4 HD;go_wp2_with fail;refine H2.mono ?_;rintro r w2 ⟨rfl,T⟩;have a5:=Af (Ag.trans (uh t) T);have a3:=Af (a2.old T);have H3:=Af (MO z Aa w2);clear H2 T t a4 a2 n1;go_wp2_with fail;refine H3.mono ?_;rintro r w3 ⟨rfl,V⟩;have S:Al w3 (w3.alloc (γ #[G nm,G z] 50)):=(Ag.refl _ w3).alloc _;have P:=Af ((Ag.trans (uh a5) V).trans S);have L:=Af ((a3.old V).old S);have b7:=Af (AB w3 [G nm,G z] 50);have a7:χ ((w3.alloc (γ #[G nm,G z] 50)).heap.size=w3.heap.size+1):=by unfold χ;rw[rr]
   obtain⟨ao,y,rfl⟩: ∃ao cp,u4=K ao a.length cp:=by
    obtain⟨_,⟨rfl,hz⟩|⟨b',c',cur',rfl,_⟩⟩:=uh L
    .exact Hl
    exact⟨_,_,rfl⟩
   have b6:χ (∀g2 cap2 F,F.ownsRow 0 50 2 (K (J ⟨g2,0,O⟩) (a.length+1) cap2) (a.length+1) (AG a++[G nm,G z])->(w3.alloc (γ #[G nm,G z] 50)).grownBy F (Value.slice ao a.length y).ownBlock->((Value.slice ao a.length y).ownBlock=J g2\/g2=w3.heap.size+1)->Al w F/\Au F (K (J ⟨g2,0,O⟩) (a.length+1) cap2) (a++[(nm,z)])/\w.heap.size<=g2):=λg2 cap2 F h1 h2 h3=>by
    refine⟨P.grown h2 (λk hk e=>κ (R k e) Aa), ?_, ?_⟩
    .show F.ownsRow 0 50 2 _ (a++[(nm,z)]).length (AG (a++[(nm,z)]));rw[Im,qU];exact h1
    rcases h3 with h|h
    .exact R g2 h
    have h4:=P.size;have h5:=uh a7;omega
   have c5:χ ((w3.alloc (γ #[G nm,G z] 50)).ownsRow 0 50 2 (K ao a.length y) a.length (AG a)):=uh L;clear V S H3 a5 a3 P L;go_wp2_with (at_builtin;refine wpList_append_lies _ rfl (.tmp 23) (.tmp 30) 41 rfl 0 50 i0 (.agg #[G ⟨#[]⟩,G ⟨#[]⟩]) 2 32 underlying41 c7 c9 d0 d1 rfl Aa (K ao a.length y) a.length (AG a) rfl (uh c5) ⟨w3.heap.size,0,O⟩ 1 1 [G nm,G z] rfl rfl (uh b7) (by intro u hu;simp at hu;rcases hu with rfl|rfl<;>rfl) Aa (by unfold maxLen;omega) Aa Aa (w3.heap.size+1) (uh a7) ?_;intro gb cap2 F b4 a9 b2 b3;have HX:=Af (b6 gb cap2 F b4 a9 b2);clear b4 a9 b2 b3);go_roundw
   .exact ⟨i+1,a++[(nm,z)],Aa,by go_num,Af HX.1,b9,Af HX.2.1,λb hb=>by have e:gb=b:=rD (show J gb=J b from hb);subst e;exact HX.2.2⟩
   exact Ae
  have l:=Af (o he);have d6:((er:Z) !=0)=true:=by rw[rS];omega
  have d7:¬(er:Z)=0:=Aa;clear o q;go_upto_region 5 with fail;generalize wr.alloc (γ #[G nm,I σ (wy:Z),I σ (ck:Z),I σ (X:Z),G pk] 131)=W at*;clear q0 q1 q2 q3 q4;obtain⟨c0,c1,c2,c3,c4⟩:=m.cells;simp only at c0 c1 c2 c3 c4;have H1:=Af (HD W (De.kept (uh a6) (uh j) (λx=>x)));go_wp2_with fail;refine H1.mono ?_;rintro r w1 ⟨rfl,d⟩;have t:=Af (Ag.trans (uh j) d);clear H1 d m j H c0 c1 c2 c3 c4 HD;go_wp2;go_ret2;exact⟨t,by rw[uh l];exact .inr ⟨he,rfl⟩⟩
 have b1:¬(i:Z)<(its.length:Z):=Aa;have l:=Af (n.end Aa);go_wp2;go_ret2;exact⟨s,by rw[uh l];exact .inl ⟨rfl,_,rfl,M,R⟩⟩
def JH(p s:Y):E Fl×N:=
 if 40000<s.size then([],1) else
 match EB p s with
 |none=>([],7)
 |some its=>if Bl its (λ_=>O) 0=0 then EO its [] else([],Bl its (λ_=>O) 0)
def RB{p:Y}: ∀(n:N) (rest:Y) (its a:E It),Ev p n rest its=J a->rest.size<=40000->(∀i∈its,i.ok)->its.length<=60->(∀i∈a,i.ok)/\a.length<=60
 |0,rest,its,a,h,_,_,_=>by cases h
 |n+1,rest,its,a,h,hr,hk,hl=>by
  unfold Ev at h;split at h
  .injection h with h;subst h;exact⟨hk,hl⟩
  split at h
  .cases h
  rename_i it b c;split at h
  .cases h
  rename_i hb;obtain⟨d,f,g⟩:=Kf c hr;refine RB n b (its++[it]) a h Aa ?_ ?_
  .intro i c;rcases rR.1 c with h2|h2
   .exact hk i h2
   rw[rC] at h2;subst h2;exact d
  have:its.length≠60:=by intro e;apply hb;unfold NT;rw[e];rfl
  rw[qU];simp;omega
def PK{p s:Y}{its:E It}(h:EB p s=J its)(a:s.size<=40000):(∀i∈its,i.ok)/\its.length<=60:=by
 unfold EB at h;split at h
 .cases h
 rename_i out ho;split at h
 .injection h with h;subst h;exact RB _ _ _ _ ho a (λ_ h=>by cases h) Ad
 cases h
def kG(p s:Y)(hp:p.size<=1000)(hs:s.size<=9223372036854775807)(w:U)(C:Cb w)(g:De w):μ prog 47 #[G p,G s] w λr w' =>Al w w' /\Jx w w' r (JH p s):=by
 have a:χ (JH p s=if 40000<s.size then([],1) else match EB p s with
  |none=>([],7)
  |some its=>if Bl its (λ_=>O) 0=0 then EO its [] else([],Bl its (λ_=>O) 0)):=rfl
 by_cases hz:40000<s.size
 .have S:(40000:Z)<(s.size:Z):=Aa;have HA:χ (JH p s=([],1)):=by unfold χ;rw[uh a,rd hz]
  clear a;go_in;go_wp2;go_ret2;exact⟨Ag.refl _ _,by rw[uh HA];exact .inr ⟨Ac,rfl⟩⟩
 have S:¬(40000:Z)<(s.size:Z):=Aa;have y:s.size<=40000:=Aa;have m:=Af (pK p s hp y w);have HM:=Af C;have F:=Af g;have d:χ (∀its,EB p s=J its->(∀i∈its,i.ok)/\its.length<=60):=λits h=>PK h y
 have a:χ (JH p s=match EB p s with
  |none=>([],7)
  |some its=>if Bl its (λ_=>O) 0=0 then EO its [] else([],Bl its (λ_=>O) 0)):=by unfold χ;rw[uh a,rc hz]
 clear C g;cases hr:EB p s with
 |none=>
  rw[hr] at m a;clear hr d;go_in;go_wp2_with fail;refine m.mono ?_;rintro r w1 ⟨c,t⟩;unfold Vc at t;subst t;have e:=Af c;clear c m;go_wp2;go_ret2;exact⟨e,by rw[uh a];exact .inr ⟨Ac,rfl⟩⟩
 |some its=>
  rw[hr] at m a;obtain⟨L,M⟩:=d its hr;have a:χ (JH p s=if Bl its (λ_=>O) 0=0 then EO its [] else([],Bl its (λ_=>O) 0)):=uh a;have z:=Af (λv W C R=>nQ v its M L (λk=>w.heap.size<=k) W C R);have A:=Af (λv W ho R=>Yo v its M L (λk=>w.heap.size<=k) W ho R);clear hr d L M;generalize Bl its (λ_=>O) 0=H at*;generalize EO its []=res at*;go_in;go_wp2_with fail;refine m.mono ?_;rintro r w1 ⟨c,v,rfl,l⟩;have e:=Af c;have o:=Af l;have z:=Af (z v w1 (HM.old c) l);clear c l m;go_wp2_with fail;refine z.mono ?_;rintro r w2 ⟨rfl,j⟩;have f:=Af (Ag.trans (uh e) j);have A:=Af (A v w2 (De.kept (uh F) (uh f) (λx=>x)) (o.kept j (λ_ _ x=>x)));clear j z e o;by_cases h0:H=0
  .subst h0;rw[rd rfl] at a;go_wp2_with fail;refine A.mono ?_;rintro r w3 ⟨q,P⟩;have n:=Af (Ag.trans (uh f) q);have HS:=Af f.size;clear q A;rcases P with⟨T,u,rfl,X,B⟩|⟨V,rfl⟩
   .have HF:=Af X;have HB:=Af B;have D:=Af T;clear X B T;go_wp2;go_ret2;exact⟨n,by rw[uh a];exact .inl ⟨D,u,rfl,HF,λb B=>rz (uh HS) (HB b B)⟩⟩
   have D:=Af V;clear V;go_wp2;go_ret2;exact⟨n,by rw[uh a];exact .inr ⟨D,rfl⟩⟩
  rw[rc h0] at a;have a0:((H:Z) !=0)=true:=by rw[rS];omega
  have a1:¬(H:Z)=0:=Aa;go_wp2;go_ret2;exact⟨f,by rw[uh a];exact .inr ⟨h0,rfl⟩⟩
def gI(l:E υ)(i:N)(h:i<l.length):As (An l) i=(l[i]).toNat:=by
 have a:i<(An l).size:=by rw[AE];exact h
 unfold As;rw[uO a]
 rfl
def kH(v n k:N)(h:k<n):(leB v n)[k]? =J (b8 (v/2^(8*k)%256)):=by simp[leB,h]
def Vd(l pre post:E υ)(v n:N)(b:l=pre++leB v n++post): ∀k,k<=n->BI (An l) pre.length k=v%2^(8*k)
 |0,_=>by rw[BI,Nat.mul_zero,Nat.pow_zero,uX]
 |k+1,hk=>by
  have e:=Vd l pre post v n b k Aa;have a:pre.length+k<l.length:=by rw[b];simp only[qU,Bq];omega
  have c:l[pre.length+k]? =J (b8 (v/2^(8*k)%256)):=by
   rw[b,rm,rE Aa,uj,rM (by rw[Bq];omega),kH v n k Aa]
  rw[qY a] at c;have d:As (An l) (pre.length+k)=v/2^(8*k)%256:=by
   rw[gI l _ a,rD c,AL (si _ Aa)]
  rw[BI,e,d,show 8*(k+1)=8*k+8 by omega,uW,Nat.mod_mul,tP (2^(8*k)) (v/2^(8*k)%2^8)]
def Ep{l pre post:E υ}{v n a:N}(c:l=pre++leB v n++post)(b:pre.length=a)(d:v<2^(8*n)):BI (An l) a n=v:=by
 rw[<-b,Vd l pre post v n c n (rj _),uF d]
def Fh(pre c post:E υ)(a b:N)(d:pre.length=a)(e:a+c.length=b):(An (pre++c++post)).extract a b=An c:=by
 apply sX;apply uV;simp[An,ByteArray.data_extract,<-d,<-e,rm]
def ID(p t:E υ):Lib.hasPrefix (p++t) p=true:=by
 unfold Lib.hasPrefix;exact tX.2 (List.prefix_append p t)
def PL(p t:E υ):Lib.trimPrefix (p++t) p=t:=by
 unfold Lib.trimPrefix;rw[rd (ID p t)];simp
structure KI (p:Y) (it:It):Prop where
 way:it.way=0\/it.way=8
 check:it.check<4294967296
 size:it.size<4294967296
 packed:it.packed.size<4294967296
 name:p.size+it.name.size<65536
def Ve(p:Y)(f:It)(h:KI p f)(t:E υ):GV p (An (Bg p f++t))=J (f,An t):=by
 obtain⟨nm,b,ck,a,pk⟩:=f;obtain⟨j,k,l,m,n⟩:=h;simp only at j k l m n;have d:Bg p ⟨nm,b,ck,a,pk⟩++t=sL Iy++leB 20 2++leB 0 2++leB b 2++leB 0 2++leB 33 2++leB ck 4++leB pk.size 4++leB a 4++leB (p.size+nm.size) 2++leB 0 2++(sL p++sL nm)++sL pk++t:=by
  unfold Bg Dn AF;simp only[tc,vI,sI,rm,ep]
 have c:(sL Iy).length=4:=Ac;have q:BI (An (Bg p ⟨nm,b,ck,a,pk⟩++t)) 8 2=b:=Ep (pre:=sL Iy++leB 20 2++leB 0 2) (post:=leB 0 2++leB 33 2++leB ck 4++leB pk.size 4++leB a 4++leB (p.size+nm.size) 2++leB 0 2++(sL p++sL nm)++sL pk++t) (by rw[d];simp only[rm]) (by simp only[qU,Bq,c]) Aa;have r:BI (An (Bg p ⟨nm,b,ck,a,pk⟩++t)) 14 4=ck:=Ep (pre:=sL Iy++leB 20 2++leB 0 2++leB b 2++leB 0 2++leB 33 2) (post:=leB pk.size 4++leB a 4++leB (p.size+nm.size) 2++leB 0 2++(sL p++sL nm)++sL pk++t) (by rw[d];simp only[rm]) (by simp only[qU,Bq,c]) Aa;have s:BI (An (Bg p ⟨nm,b,ck,a,pk⟩++t)) 18 4=pk.size:=Ep (pre:=sL Iy++leB 20 2++leB 0 2++leB b 2++leB 0 2++leB 33 2++leB ck 4) (post:=leB a 4++leB (p.size+nm.size) 2++leB 0 2++(sL p++sL nm)++sL pk++t) (by rw[d];simp only[rm]) (by simp only[qU,Bq,c]) Aa;have u:BI (An (Bg p ⟨nm,b,ck,a,pk⟩++t)) 22 4=a:=Ep (pre:=sL Iy++leB 20 2++leB 0 2++leB b 2++leB 0 2++leB 33 2++leB ck 4++leB pk.size 4) (post:=leB (p.size+nm.size) 2++leB 0 2++(sL p++sL nm)++sL pk++t) (by rw[d];simp only[rm]) (by simp only[qU,Bq,c]) Aa;have v:BI (An (Bg p ⟨nm,b,ck,a,pk⟩++t)) 26 2=p.size+nm.size:=Ep (pre:=sL Iy++leB 20 2++leB 0 2++leB b 2++leB 0 2++leB 33 2++leB ck 4++leB pk.size 4++leB a 4) (post:=leB 0 2++(sL p++sL nm)++sL pk++t) (by rw[d];simp only[rm]) (by simp only[qU,Bq,c]) Aa;have o:(An (Bg p ⟨nm,b,ck,a,pk⟩++t)).size=30+(p.size+nm.size)+pk.size+t.length:=by rw[AE,qU,GY]
 have g:Bg p ⟨nm,b,ck,a,pk⟩++t=(sL Iy++Dn p ⟨nm,b,ck,a,pk⟩)++(sL p++sL nm)++(sL pk++t):=by unfold Bg;simp only[rm,ep]
 have i:(sL Iy++Dn p ⟨nm,b,ck,a,pk⟩).length=30:=by rw[qU,El,c]
 have w:(An (Bg p ⟨nm,b,ck,a,pk⟩++t)).extract 30 (30+(p.size+nm.size))=An (sL p++sL nm):=by rw[g];exact Fh _ _ _ _ _ i (by rw[qU,CF,CF])
 have x:(An (Bg p ⟨nm,b,ck,a,pk⟩++t)).extract (30+(p.size+nm.size)) (30+(p.size+nm.size)+pk.size)=pk:=by
  have e:Bg p ⟨nm,b,ck,a,pk⟩++t=((sL Iy++Dn p ⟨nm,b,ck,a,pk⟩)++(sL p++sL nm))++sL pk++t:=by rw[g];simp only[rm]
  rw[e,Fh _ _ _ (30+(p.size+nm.size)) _ (by rw[qU,i,qU,CF,CF]) (by rw[CF]),Ku]
 have y:(An (Bg p ⟨nm,b,ck,a,pk⟩++t)).extract (30+(p.size+nm.size)+pk.size) (30+(p.size+nm.size)+pk.size+t.length)=An t:=by
  have e:Bg p ⟨nm,b,ck,a,pk⟩++t=Bg p ⟨nm,b,ck,a,pk⟩++t++[]:=by rw[sI]
  rw[e];exact Fh _ _ _ _ _ (GY p nm pk b ck a) rfl
 unfold GV;rw[q,r,s,u,v,o,w,x,y];have z:Lib.hasPrefix (An (sL p++sL nm)).data.toList p.data.toList=true:=by
  have:(An (sL p++sL nm)).data.toList=sL p++sL nm:=Oh _;rw[this];exact ID _ _
 have A:Lib.trimPrefix (An (sL p++sL nm)).data.toList p.data.toList=sL nm:=by
  have:(An (sL p++sL nm)).data.toList=sL p++sL nm:=Oh _;rw[this];exact PL _ _
 rw[rc Aa,rc Aa,z,rc Ac,rc Aa,A];have:(⟨(sL nm).toArray⟩:Y)=nm:=Ku nm;rw[this]
def Gc(its:E It):Prop:=its.Pairwise (λa b=>a.name.data.toList<b.name.data.toList)
def NA(p:Y)(t:E υ)(g:Lib.hasPrefix t Iy.data.toList=ι): ∀(its a:E It) (n:N),(∀i∈its,KI p i)->Gc (a++its)->(a++its).length<=60->its.length<n->Ev p n (An (AM p its++t)) a=J (a++its)
 |[],a,n+1,_,_,_,_=>by
  have e:AM p []++t=t:=rfl;rw[e,Ev,rd (by show Lib.hasPrefix (sL (An t)) _=_;rw[Oh];exact g),sI]
 |it::r,a,n+1,hr,hs,hl,hn=>by
  have e:AM p (it::r)++t=Bg p it++(AM p r++t):=by simp[AM]
  have hp:Lib.hasPrefix (An (Bg p it++(AM p r++t))).data.toList Iy.data.toList=true:=by
   have h:(An (Bg p it++(AM p r++t))).data.toList=Bg p it++(AM p r++t):=Oh _;rw[h];unfold Bg;simp only[rm];exact ID _ _
  have j:NT a it=false:=by
   unfold NT;have c:a.length≠60:=by
    rw[qU,sB] at hl;omega
   rw[show(a.length==60)=ι from by rw[re];exact c,xZ];by_cases h0:0<a.length
   .rw[qZ h0,tj];have d:(a.getD (a.length- 1) BG).name.data.toList<it.name.data.toList:=by
     have f:a.length- 1<a.length:=Aa;rw[qT,qY f];exact(sZ.1 hs).2.2 _ (ro f) _ (uM ..)
    rw[qZ d];rfl
   rw[qX h0,xe]
  rw[e,Ev,rc (by rw[hp];decide),Ve p it (hr it (uM ..))];simp only[j,tx,uw];have b:a++it::r=a++[it]++r:=Ad;rw[NA p t g r (a++[it]) n (λi k=>hr i (sQ _ k)) (by rw[<-b];exact hs) (by rw[<-b];exact hl) (by simp at hn;omega),<-b]
def bS(p:Y)(its:E It)(c a b:N):Lib.hasPrefix (AW p its its.length++endL c a b) Iy.data.toList=false:=by
 cases its with
 |nil=>
  show Lib.hasPrefix ([]++endL c a b) _=ι;unfold endL
  rfl
 |cons it r=>
  have h: ∃x,AW p (it::r) (it::r).length=sL JJ++x:=by
   have e: ∀n,∃x,AW p (it::r) (n+1)=sL JJ++x:=by
    intro n;induction n with
    |zero=>
     refine⟨AF [20] 2++Dn p it++AF [0,0,0] 2++AF [0,0] 4++sL (p++it.name), ?_⟩;have:AW p (it::r) (0+1)=Bt p it 0:=(by rw[Cq];rfl);rw[this,Bt];simp only[rm]
    |succ n ih=>
     obtain⟨x,d⟩:=ih;exact⟨x++Bt p ((it::r).getD (n+1) BG) (AM p ((it::r).take (n+1))).length,by rw[Cq,d,rm]⟩
   exact e r.length
  obtain⟨x,d⟩:=h;rw[d]
  rfl
def Yp(p:Y)(its:E It)(c: ∀i∈its,KI p i)(d:Gc its)(b:its.length<=60)(hp:0<p.size):EB p (An (BE p its))=J its:=by
 have f:its.length<(An (BE p its)).size+1:=by
  have g:its.length<=(AM p its).length:=by
   clear c d b;induction its with
   |nil=>simp
   |cons a r ih=>
    have e:AM p (a::r)=Bg p a++AM p r:=(by simp[AM]);rw[e,qU,sB];have h:30<=(Bg p a).length:=by obtain⟨_,_,_,_,_⟩:=a;rw[GY];omega
    omega
  rw[AE,BE,qU,qU];omega
 have e:BE p its=AM p its++(AW p its its.length++endL its.length (AW p its its.length).length (AM p its).length):=by rw[BE,rm]
 unfold EB;rw[show Ev p ((An (BE p its)).size+1) (An (BE p its)) []=J its from by
  have:=NA p _ (bS p its its.length (AW p its its.length).length (AM p its).length) its [] ((An (BE p its)).size+1) c (by rw[tp];exact d) (by rw[tp];exact b) f;rw[tp,<-e] at this;exact this]
 simp
