import Derived.Test.YtndfmgdhiallpaaGreatDoorVbi
import Derived.Test.YtndfmgdhiallpaaGreatDoorVbn
set_option linter.all false
set_option maxRecDepth 100000
set_option maxHeartbeats 16000000
open _root_ renaming Option.some->J,Option.none->O,Int->Z,Nat->N,Go.Value.int->I,Go.Value.string->G,Go.IntKind.i64->Q,ByteArray->Y,List->E,Go.World->U,Go.Value.slice->K,Go.Value->β,Go.Obj.cells->γ,Go.Value.pointer->δ,Go.Ending.returned->ε,Go.Value.tuple->η,absurd->κ,Go.Calls->μ,UInt8->υ,Go.RowKit.Hid->χ,Go.Proofs.Tryz.prog->ψ,Go.Result.ok->ω
namespace Go.Proofs.YtndfmgdhiallpaaGreatDoor
open Go.RowKit Go.Maps Go.Proofs.Tryz
def iq(s:Y):JC s s=true:=(LZ s.size s s (rj _)).2 (UL s)
def Vw(s:Y):Bu s<=4000:=by unfold Bu;split<;>omega
def PV: ∀(r:E Fl) (F:E Y),(∀f∈r,CK f.1=true)->(F++r.map Prod.fst).Pairwise (λa b=>a≠b)->Gg r F=0
 |[],_,_,_=>rfl
 |f::r,F,h1,h2=>by
  have d:Ng F f.1=0:=by
   unfold Ng;rw[rc (by rw[h1 f (uM ..)];decide),rc];intro h;obtain⟨x,c,e⟩:=sc.1 h;exact(sZ.1 h2).2.2 x c f.1 Ad (rQ e)
  rw[Gg,rd d];refine PV r _ (λx c=>h1 x (sQ _ c)) ?_;rw[rm];exact h2
def PW: ∀(its:E It) (f:Gp) (all:N) (F:E Y),FL F f->F.Pairwise (λa b=>a≠b)->Bl its f all=0->(∀c∈its,CK c.name=true/\c.size<=4000)/\(F++its.map It.name).Pairwise (λa b=>a≠b)
 |[],f,all,F,_,hF,_=>⟨λc h=>(by cases h),by simpa using hF⟩
 |c::r,f,all,F,hT,hF,h=>by
  rw[Bl] at h;by_cases h0:Dx f all c=0
  .rw[rd h0] at h;obtain⟨a1,o,d,k,p⟩:=PJ h0;have g:(F++[c.name]).Pairwise (λa b=>a≠b):=by
    refine sZ.2 ⟨hF,tS _ _,λa m b j e=> ?_⟩;rw[rC] at j;subst e j;rw[Kv hT,tn] at d;exact d _ m (iq _)
   obtain⟨l,i⟩:=PW r _ _ _ (hT.add d) g h;refine⟨λx n=> ?_,by rw[rm] at i;exact i⟩;rcases sW.1 n with e|e
   .rw[e];exact⟨a1,rz k (Vw _)⟩
   exact l x e
  rw[rc h0] at h;exact κ h h0
def NG: ∀(its:E It) (a fs:E Fl),EO its a=(fs,0)->fs=a++its.map (λb=>(b.name,(Fg b).1))/\∀b∈its,(Fg b).2=0
 |[],a,fs,h=>by
  rw[EO] at h;injection h with h;exact⟨by rw[<-h];simp,λb f=>by cases f⟩
 |b::r,a,fs,h=>by
  rw[EO] at h;by_cases h0:(Fg b).2=0
  .rw[rd h0] at h;obtain⟨c,d⟩:=NG r _ fs h;refine⟨by rw[c];simp,λx g=> ?_⟩;rcases sW.1 g with e|e
   .rw[e];exact h0
   exact d x e
  exact abu
def ir{a:It}(h:(Fg a).2=0):(Fg a).1.size=a.size:=by
 have b:(FA a).2=0->(FA a).1.size=a.size:=by
  unfold FA;split
  .split
   .rename_i e;exact λ_=>e
   intro h;cases h
  split
  .rename_i e;exact λ_=>e.2.2
  intro h;cases h
 unfold Fg at h ⊢;split at h
 .rename_i e;exact κ h e
 rename_i e;rw[rc e];split at h
 .rename_i e2;rw[rd e2];exact b (Decidable.of_not_not e)
 cases h
def iu{p a:Y}{fs:E Fl}(j:a.size<=40000)(h:JH p a=(fs,0)):Gg fs []=0/\fs.length<=60/\∀f∈fs,f.1.size<=80/\f.2.size<=4000:=by
 unfold JH at h;rw[rc Aa] at h;cases hr:EB p a with
 |none=>rw[hr] at h;injection h with _ h;cases h
 |some its=>
  rw[hr] at h;simp only at h;by_cases h0:Bl its (λ_=>O) 0=0
  .rw[rd h0] at h;obtain⟨g,i⟩:=PW its _ 0 [] FL.nil tH h0;obtain⟨e,k⟩:=NG its [] fs h;rw[tp] at e i;refine⟨PV fs [] (λf c=> ?_) ?_, ?_,λf c=> ?_⟩
   .rw[e] at c;obtain⟨b,d,rfl⟩:=rT.1 c;exact(g b d).1
   .rw[tp,e,List.map_map];exact i
   .rw[e,sJ];exact(PK hr j).2
   rw[e] at c;obtain⟨b,d,rfl⟩:=rT.1 c;exact⟨Ee (g b d).1,by show(Fg b).1.size<=4000;rw[ir (k b d)];exact(g b d).2⟩
  exact abu
def ER(s v:Y)(fs:E Fl):Y×N:=match FM s v with
 |none=>(⟨#[]⟩,3)
 |some p=>NV p fs
def JF(s v a t:Y):N:=if(Ci s v a).2≠0 then(Ci s v a).2 else if(ER s v (Ci s v a).1).1=t then 0 else 9
def Ky{s v a:Y}(h:(Ci s v a).2=0):(ER s v (Ci s v a).1).2=0/\(Ci s v a).1.length<=60/\∀f∈(Ci s v a).1,f.1.size<=80/\f.2.size<=4000:=by
 unfold Ci ER at*;cases hp:FM s v with
 |none=>rw[hp] at h;cases h
 |some p=>
  rw[hp] at h;simp only at h ⊢;have e:a.size<=40000:=by
   apply Decidable.byContradiction;intro i;unfold JH at h;rw[rd Aa] at h;cases h
  have g:JH p a=((JH p a).1,0):=Prod.ext rfl h;obtain⟨b,c,d⟩:=iu e g;exact⟨by rw[NV,rd b],c,d⟩
def lR(s v:Y)(q:s.size<=2000000)(t:v.size<=2000000)(ao:Option Addr)(cap g:N)(fs:E Fl)(e:fs.length<=1100000)(d: ∀f∈fs,f.1.size<=2000000/\f.2.size<=2000000)(w:U)(b:g<w.heap.size)(c:0<fs.length->ao=J ⟨g,0,O⟩)
 (a: ∀j,j<fs.length->w.cell? ⟨g,j*2,O⟩=J (G (fs.getD j default).1)/\w.cell? ⟨g,j*2+1,O⟩=J (G (fs.getD j default).2))(m:Cb w)(n:KC w):
 μ ψ 29 #[G s,G v,K ao fs.length cap] w λr w' =>Al w w' /\r=ε (η #[G (ER s v fs).1,I Q ((ER s v fs).2:Z)]):=by
 have H1:=Af (SO s v q t w m);cases hpre:FM s v with
 |none=>
  have HU:χ (ER s v fs=(⟨#[]⟩,3)):=by unfold χ ER;rw[hpre]
  rw[hpre] at H1;clear hpre a;exact WD
 |some p=>
  have HU:χ (ER s v fs=NV p fs):=by unfold χ ER;rw[hpre]
  have k:χ (∀W,Al w W->μ ψ 48 #[G p,K ao fs.length cap] W λr w' =>Al W w' /\r=ε (η #[G (NV p fs).1,I Q ((NV p fs).2:Z)])):=λW h=>
   qS p (GF hpre) ao cap g fs e d W (rW b h.size) c (λj o=>⟨(h.cell (p:=⟨g,j*2,O⟩) b (λx=>x)).trans (a j o).1,(h.cell (p:=⟨g,j*2+1,O⟩) b (λx=>x)).trans (a j o).2⟩) (m.old h) (n.old h)
  rw[hpre] at H1;clear m n hpre a c d;rw[uh HU];generalize NV p fs=res at*;obtain⟨y,u⟩:=res;simp only at*;go_in;go_wp2_with fail;refine H1.mono ?_;rintro r w1 ⟨rfl,ho1⟩;have HO1:=Af ho1;have k:=Af (k w1 ho1);clear ho1 H1;go_wp2_with fail;refine k.mono ?_;rintro r w3 ⟨i,rfl⟩;have l:=Af (Ag.trans (uh HO1) i);clear i k;go_wp2;go_ret2;exact⟨l,rfl⟩
def iv(f:Gp)(all:N)(a:It):Dx f all a<=5:=by
 unfold Dx;exact aaO
def Lr: ∀(its:E It) (f:Gp) (all:N),Bl its f all<=5
 |[],_,_=>by rw[Bl];omega
 |it::r,f,all=>by
  rw[Bl];split
  .exact Lr r _ _
  exact iv f all it
def kS(a:It):(FA a).2<=7:=by
 unfold FA;split
 .split
  .exact sl _
  exact rj _
 split
 .exact sl _
 show 2<=7;omega
def ZA(a:It):(Fg a).2<=8:=by
 have h:=kS a;unfold Fg;split
 .show (FA a).2<=8;omega
 split
 .exact sl _
 exact rj _
def Vx: ∀(its:E It) (acc:E Fl),(EO its acc).2<=8
 |[],_=>by rw[EO];exact sl _
 |it::r,acc=>by
  rw[EO];split
  .exact Vx r _
  exact ZA it
def Oq(s v a:Y):(Ci s v a).2<=100:=by
 unfold Ci;split
 .simp only;omega
 unfold JH;split
 .simp only;omega
 split
 .simp only;omega
 split
 .exact rz (Vx _ _) Aa
 exact rz (Lr _ _ _) Aa
def iw(s v a t:Y)(q:s.size<=2000000)(x:v.size<=2000000)(A:a.size<=9223372036854775807)(w:U)(e:Cb w)(b:De w)(m:KC w):μ ψ 30 #[G s,G v,G a,G t] w λr w' =>Al w w' /\r=ε (I Q (JF s v a t:Z)):=by
 have H1:=Af (Vr s v a q x A w e b);have j:χ (JF s v a t=if(Ci s v a).2≠0 then(Ci s v a).2 else if(ER s v (Ci s v a).1).1=t then 0 else 9):=rfl;by_cases hz:(Ci s v a).2=0
 .obtain ⟨f1,z,p⟩:=Ky hz;have d:χ (∀W u,Al w W->Au W u (Ci s v a).1->μ ψ 29 #[G s,G v,u] W λr w' =>Al W w' /\r=ε (η #[G (ER s v (Ci s v a).1).1,I Q ((ER s v (Ci s v a).1).2:Z)])):=λW u o c=>by
   obtain⟨ao,cap,g,rfl,n,k,l⟩:=c.any (e.old o).pos;exact lR s v q x ao cap g _ Aa (λf c=>by have:=p f c;omega) W n k l (e.old o) (m.old o)
  rw[f1] at d;have HE:=Af (j.trans (rc (λh=>h hz)));clear j f1 z p e b m;generalize(ER s v (Ci s v a).1).1=sm at*;have f1:=Qd sm t;generalize JF s v a t=ans at*;generalize Ci s v a=um at*;obtain⟨ul,un⟩:=um;simp only at*;subst hz;go_in;go_wp2_with fail;refine H1.mono ?_;rintro r w1 ⟨ho1,hr1⟩;rcases hr1 with⟨-,u,rfl,c, -⟩|⟨y, -⟩
  .have d:=Af (d w1 u ho1 c);have HO1:=Af ho1;clear H1 ho1 c;go_wp2_with fail;refine d.mono ?_;rintro r w2 ⟨i,rfl⟩;have HO2:=Af (Ag.trans (uh HO1) i);clear d i HO1;exact Hx
  exact κ rfl y
 have HE:=Af (j.trans (rd hz));clear j;have B:(Ci s v a).2<=100:=Oq s v a;clear e b m;exact zR
def YE(p:Y)(l:E Fl)(i:N)(h:i<l.length):((((An (Bn p (l.take i))++CB (l.getD i default).2)++⟨#[32,32]⟩)++p)++(l.getD i default).1)++⟨#[10]⟩=An (Bn p (l.take (i+1))):=by
 rw[NF p l i h,<-AD];have e:An (JE p (l.getD i default)).data.toList=JE p (l.getD i default):=Ku _;rw[e,JE];simp only[xm]
def Ta(s v:Y)(hs:s.size<=2000000)(hv:v.size<=2000000)(ao:Option Addr)(cap:N)(av:Addr)(fs:E Fl)(hn:fs.length<=1100000)(hfz: ∀f∈fs,f.1.size<=2000000/\f.2.size<=2000000)(F:0<fs.length->ao=J av)(w:U)(hf:Dw w av fs):
 μ ψ 122 #[G s,G v,K ao fs.length cap] w λr w' =>Al w w' /\r=ε (η #[G (ER s v fs).1,I Q ((ER s v fs).2:Z)]):=by
 have H1:=Af (PG s v hs hv w);cases hpre:FM s v with
 |none=>
  have HU:χ (ER s v fs=(⟨#[]⟩,3)):=by unfold χ ER;rw[hpre]
  rw[hpre] at H1;clear hpre hf;exact WD
 |some p=>
  have i1:=GF hpre;have HSU:χ (ER s v fs=if Gg fs []=0 then(cm p (Jc fs),0) else(⟨#[]⟩,Gg fs [])):=by unfold χ ER;rw[hpre];rfl
  have c8:=Af (λW=>Mf s v hs hv W);rw[<-Nf hpre] at c8;have c0:χ (∀i,i<fs.length->(fs.getD i default).1.size<=2000000/\(fs.getD i default).2.size<=2000000):=λi hi=>abf
  rw[hpre] at H1;have b7:=Af F;have HF:=Af hf;have d0:=Af (co.start fs);have P:χ (∀f∈fs.take 0,f.1.size<=80):=λf hf=>by cases hf
  clear hpre hf F hfz;generalize ER s v fs=ans at*;go_in;go_wp2_with fail;refine H1.mono ?_;rintro r w1 ⟨rfl,ho1⟩;have HO1:=Af ho1;clear H1 ho1;go_wp2;go_loopw [8,9,10] (λ_ x _ wr=> ∃i:N,i<=fs.length/\x=I Q (i:Z)/\χ (Al w wr)/\χ (co fs i)/\χ (∀f∈fs.take i,f.1.size<=80)) (λ_ x _ _=>fs.length- (intOf x).toNat)
  .exact ⟨0,Aa,rfl,HO1,d0,P⟩
  clear HO1 d0 P;obtain⟨i,hi,rfl,HO,q,HFI⟩:=hrel;by_cases hil:i<fs.length
  .have d9:(i:Z)<(fs.length:Z):=Aa;have F:=b7 Aa;subst F;have a6:χ (∀W,Al w W->W.cell? (av.add (i*2))=J (G (fs.getD i default).1)):=λW ho=>(HF.old ho i hil).1
   have d4:=a6 wr (uh HO);obtain⟨f7,f8⟩:=c0 i hil;have C:=Af (λh=>q.next hil h);have HFT:=Af (λh=>q.fault hil h);have c:χ (Ng ((fs.take i).map Prod.fst) (fs.getD i default).1=if CK (fs.getD i default).1=false then 4 else if((fs.take i).map Prod.fst).any (λx=>decide (x=(fs.getD i default).1))=true then 5 else 0):=rfl;have o:χ (CK (fs.getD i default).1=true-> ∀f∈fs.take (i+1),f.1.size<=80):=λh f hf=>WQ
   have m:=Af (λW=>MS (fs.getD i default).1 Aa W);rw[Pq] at m;generalize Ng ((fs.take i).map Prod.fst) (fs.getD i default).1=sf at*;obtain⟨nm,e4⟩: ∃nm,(fs.getD i default).1=nm:=⟨_,rfl⟩;rw[e4] at d4 f7 c o m a6;clear e4 q HFI f8;obtain⟨fp,d7⟩: ∃fp,CK nm=fp:=⟨_,rfl⟩;rw[d7] at m c o;clear d7;cases fp with
   |false=>
    have hsf:sf=4:=c.trans (rd rfl);have HA:χ (ans=(⟨#[]⟩,4)):=Wm;clear HFT C c o hsf HSU;go_wp2_with fail;refine(m _).mono ?_;rintro e w3 ⟨rfl,u⟩;have D:=Af (Ag.trans (uh HO) u);clear m u;go_wp2;go_ret2;exact⟨D,by rw[uh HA];rfl⟩
   |true=>
    have f2:=Af (o rfl);clear o;go_wp2_with fail;refine(m _).mono ?_;rintro e w3 ⟨rfl,u⟩;have D:=Af (Ag.trans (uh HO) u);clear m u HO d4;go_wp2;go_loopw [10] (λy wx=> ∃k:N,k<=i/\y=I Q (k:Z)/\χ (∀j,j<k->(fs.getD j default).1≠nm)/\χ (Al w wx)) (λy _=>i- (intOf y).toNat)
    .exact ⟨0,Aa,rfl,λj h=>Aa,D⟩
    clear D;obtain⟨k,hk,rfl,HB,HO⟩:=hrel;by_cases h9:k<i
    .have e0:(k:Z)<(i:Z):=Aa;have g7:(k:Z)<(fs.length:Z):=Aa;have h6:=(HF.old (uh HO) k Aa).1;have h5:=a6 wr (uh HO);have a9:χ ((fs.getD k default).1=nm->sf=5):=λh=>by
      rw[uh c,rc Ac,rd];rw[sc];refine⟨nm,rT.2 ⟨fs.getD k default, ?_,h⟩,qZ rfl⟩;rw[qT,qY Aa];exact tw.2 ⟨k,Aa,rfl⟩
     have a0:χ ((fs.getD k default).1≠nm-> ∀j,j<k+1->(fs.getD j default).1≠nm):=λh j hj=>by
      by_cases e:j=k
      .subst e;exact h
      exact HB j Aa
     generalize(fs.getD k default).1=z at*;have f1:=Qd z nm;by_cases he:z=nm
     .rw[qZ he] at f1;have hsf:=a9 he;have HA:χ (ans=(⟨#[]⟩,5)):=Wm;clear HFT C c hsf HSU a9 a0 he;go_wp2_with fail;go_quiet (fail);go_wp2;go_ret2;exact⟨HO.drewN _,by rw[uh HA];rfl⟩
     rw[qX he] at f1;have HB3:=Af (a0 he);clear a9 a0 he;exact Wd
    have e0:¬(k:Z)<(i:Z):=Aa;have f9:k=i:=Aa;have hsf:sf=0:=by
     rw[uh c,rc Ac,rc];intro h;obtain⟨x,hx,e⟩:=sc.1 h;obtain⟨y,hy,rfl⟩:=rT.1 hx;obtain⟨j,hj,rfl⟩:=sH hy;rw[rY] at hj;refine HB j Aa ?_;rw[qT,qY Aa];have e2:=rQ e;rw[yi] at e2;exact e2
    have f3:=Af (C hsf);clear C HFT c hsf HB f9;go_wp2;go_roundw
    .exact ⟨i+1,Aa,by go_num,HO,f3,f2⟩
    exact Ae
  have d9:¬(i:Z)<(fs.length:Z):=Aa;have d8:i=fs.length:=Aa;obtain⟨e9,t⟩:=q.end Aa;have M:χ (ans=(cm p (Jc fs),0)):=HSU.trans (rd e9);have c5:χ (∀f∈fs,f.1.size<=80):=λf hf=>HFI f (by rw[d8,sr];exact hf)
  have d2:=Af (Zr ao cap av fs (uh b7) Aa t wr (HF.old (uh HO)));have d3:χ (∀l:E Fl,l.Perm fs->NQ l->l=Jc fs):=λl h1 h2=>MR (h1.trans (Ic fs).symm) h2 (RJ t)
  clear q HFI HSU e9 t d8;go_wp2_with fail;refine d2.mono ?_;rintro r w2 ⟨lv,l,rfl,e5,H,e8,b2, -⟩;obtain⟨lo,lc,b4⟩:=Dq b2;subst b4;have c6:=Af (Ag.trans (uh HO) e5);have R:=Af b2;have b1:=Af H;have g0:l.length=fs.length:=H.length_eq;have g8:l.length<=1100000:=Aa;have c3:=Af (d3 l H e8);clear d2 e5 b2 H e8 HO d3 g0;have h4:χ (An (Bn p (l.take 0))=⟨#[]⟩):=rfl;go_wp2;go_loopw [12,13] (λz x wx=> ∃i:N,i<=l.length/\x=I Q (i:Z)/\z=G (An (Bn p (l.take i)))/\χ (Al w wx)/\χ (Au wx (K lo l.length lc) l)) (λ_ x _=>l.length- (intOf x).toNat)
  .exact ⟨0,Aa,rfl,rfl,c6,R⟩
  clear c6 R;obtain⟨i,h8,rfl,rfl,HO,a7⟩:=hrel;have B:(Bn p (l.take i)).length<=1300000000:=by
   have h1:=Kx p 80 (l.take i) (λf hf=>c5 f (b1.mem_iff.1 (vF hf)));have h2:(l.take i).length<=1100000:=by rw[rY];omega
   have h3:(67+80+p.size)*(l.take i).length<=(67+80+p.size)*1100000:=ve _ h2;omega
  by_cases g:i<l.length
  .have b3:(i:Z)<(l.length:Z):=Aa;obtain⟨n,i2,b4,h7,d5⟩:=a7.slice Aa;injection b4 with e1 e2 e3;subst e1 e3;obtain⟨c1,c2⟩:=d5 i g;have c4:=Af (YE p l i g);have X:l.getD i default∈fs:=by
    rw[qT,qY g];exact b1.mem_iff.1 (ro g)
   have i0:=c5 _ X;obtain⟨qi,g1,e7⟩:=ip (uh b1) i g;have f6:=(c0 qi g1).2;rw[e7] at f6;have b9:=Af (λW=>KQ (l.getD i default).2 W Aa);have d6:=IG (l.getD i default).2;have b6:(An (Bn p (l.take i))).size<=1300000000:=by rw[AE];exact B
   clear d5 e2 X e7 B;obtain⟨zn,b5⟩: ∃zn,An (Bn p (l.take (i+1)))=zn:=⟨_,rfl⟩;rw[b5] at c4;have f5:=Af b5;clear b5;generalize An (Bn p (l.take i))=z at*;generalize l.getD i default=f at*;obtain⟨nm,d⟩:=f;simp only at*;generalize CB d=dg at*;have a1: ∀W,(Op.stringOp .add z dg).run ψ W=ω (G (z++dg)) W:=λW=>ry W _ _ Aa
   have a2: ∀W,(Op.stringOp .add (z++dg) ⟨#[32,32]⟩).run ψ W=ω (G ((z++dg)++⟨#[32,32]⟩)) W:=λW=>ry W _ _ (by rw[rg];show _+2<=_;omega)
   have a3: ∀W,(Op.stringOp .add ((z++dg)++⟨#[32,32]⟩) p).run ψ W=ω (G (((z++dg)++⟨#[32,32]⟩)++p)) W:=λW=>ry W _ _ (by rw[rg,rg];show _+2+_<=_;omega)
   have a4: ∀W,(Op.stringOp .add (((z++dg)++⟨#[32,32]⟩)++p) nm).run ψ W=ω (G ((((z++dg)++⟨#[32,32]⟩)++p)++nm)) W:=λW=>ry W _ _ (by rw[rg,rg,rg];show _+2+_+_<=_;omega)
   have a5: ∀W,(Op.stringOp .add ((((z++dg)++⟨#[32,32]⟩)++p)++nm) ⟨#[10]⟩).run ψ W=ω (G (((((z++dg)++⟨#[32,32]⟩)++p)++nm)++⟨#[10]⟩)) W:=λW=>ry W _ _ (by rw[rg,rg,rg,rg];show _+2+_+_+1<=_;omega)
   generalize g6:((((z++dg)++⟨#[32,32]⟩)++p)++nm)++⟨#[10]⟩=z5 at*;generalize g5:(((z++dg)++⟨#[32,32]⟩)++p)++nm=z4 at*;generalize g4:((z++dg)++⟨#[32,32]⟩)++p=z3 at*;generalize g3:(z++dg)++⟨#[32,32]⟩=z2 at*;generalize g2:z++dg=z1 at*;clear g2 g3 g4 g5 g6 d6;have d1: ∀W W' :U,(W.cell? ⟨n,i*2,O⟩=J (G nm)/\W.cell? ⟨n,i*2+1,O⟩=J (G d)/\Al wr W)->Al W W' ->(W'.cell? ⟨n,i*2,O⟩=J (G nm)/\W'.cell? ⟨n,i*2+1,O⟩=J (G d)/\Al wr W'):=λW W' h ho=>⟨Ao ho h.1,Ao ho h.2.1,h.2.2.trans ho⟩
   have a:wr.drew.cell? ⟨n,i*2,O⟩=J (G nm)/\wr.drew.cell? ⟨n,i*2+1,O⟩=J (G d)/\Al wr wr.drew:=⟨c1,c2,(Ag.refl _ wr).drew⟩;clear c1 c2;go_wp2_with fail;refine Ai (S:=λW=>W.cell? ⟨n,i*2,O⟩=J (G nm)/\W.cell? ⟨n,i*2+1,O⟩=J (G d)/\Al wr W) (L:=20) Ab ?_;refine tk 0 21 (G z) 58 a ?_;refine tk 1 21 (K (J ⟨n,0,O⟩) l.length lc) 59 a ?_;refine tk 2 21 (I Q (i:Z)) 60 a ?_;refine tk 3 21 (δ (J ⟨n,i*2,O⟩)) 61 a ?_;refine tk 4 21 (δ (J ⟨n,i*2+1,O⟩)) 62 a ?_;refine tk 5 21 (G d) 63 a ?_;refine tk 9 21 (G s) 67 a ?_;refine tk 10 21 (G v) 68 a ?_;refine tk 13 21 (K (J ⟨n,0,O⟩) l.length lc) 71 a ?_;refine tk 14 21 (I Q (i:Z)) 72 a ?_;refine tk 15 21 (δ (J ⟨n,i*2,O⟩)) 73 a ?_;refine tk 16 21 (δ (J ⟨n,i*2,O⟩)) 74 a ?_;refine tk 17 21 (G nm) 75 a ?_;refine Ah (i:=6) Ab ?_;refine ri rfl (λK' V=> ?_);go_simp;refine(b9 _).mono ?_;rintro r w5 ⟨rfl,A⟩;have b:=d1 _ _ a A;refine V _ _ ⟨λ_=>b, ?_⟩;clear V;refine tk 7 21 (G z1) 65 b ?_;refine tk 8 21 (G z2) 66 b ?_;refine Ah (i:=11) Ab ?_;refine ri rfl (λK' V=> ?_);go_simp;refine(c8 _).mono ?_;rintro r w6 ⟨rfl,rfl⟩;refine V _ _ ⟨λ_=>b, ?_⟩;clear V;refine tk 12 21 (G z3) 70 b ?_;refine tk 18 21 (G z4) 76 b ?_;refine tk 19 21 (G z5) 77 b ?_;refine Ah (i:=20) Ab ?_;refine ri rfl (λK' V=> ?_);go_simp;refine V _ _ ⟨λh=>κ rfl h, ?_⟩;clear V;refine Am Ab ?_;have b0:=Af (HO.trans b.2.2);have f0:=Af (a7.old b.2.2);clear d1 a b A b9 HO a7;go_wp2;go_roundw
   .exact ⟨i+1,Aa,by go_num,by rw[uh f5,uh c4],b0,f0⟩
   exact Ae
  have b3:¬(i:Z)<(l.length:Z):=Aa;rw[sE Aa];rw[sE Aa] at B;have b6:(An (Bn p l)).size<=140737488355328:=by rw[AE];omega
  have c9:=Af (λW=>YX (An (Bn p l)) W b6);have a8:=Af (λW=>io (PU (An (Bn p l))) (YD _) W);rw[im] at a8;have f4:χ (ans=(⟨#[104,49,58]⟩++An (Ja (Oo (CN (An (Bn p l))))),0)):=by unfold χ;rw[uh M,<-uh c3];rfl
  have g9:(An (Ja (Oo (CN (An (Bn p l)))))).size=44:=by rw[AE,Ja,qU,qU,IZ,Ia];rfl
  have T:χ (∀W,μ ψ 108 #[G (An (Bn p l))] W λe w' =>e=ε (G (PU (An (Bn p l))))/\Al W w'):=uh c9;clear c9 B M c3 b6;generalize An (Ja (Oo (CN (An (Bn p l)))))=su at*;generalize PU (An (Bn p l))=rw0 at*;generalize An (Bn p l)=lns at*;have a1: ∀W,(Op.stringOp .add ⟨#[104,49,58]⟩ su).run ψ W=ω (G (⟨#[104,49,58]⟩++su)) W:=λW=>ry W _ _ (by show 3+su.size<=_;omega)
  generalize(⟨#[104,49,58]⟩:Y)++su=fin at*;go_wp2_with fail;refine(T _).mono ?_;rintro r w5 ⟨rfl,A⟩;have c7:=Af (Ag.trans (uh HO) A);clear T A HO;go_wp2_with fail;refine(a8 _).mono ?_;rintro r w6 ⟨rfl,e6⟩;have b0:=Af (Ag.trans (uh c7) e6);clear a8 e6 c7;go_wp2;go_ret2;exact⟨b0,by rw[uh f4];rfl⟩
def kT{p:Y}{a:It}(h:KI p a):Vj (JI p a)=Fg a:=by
 obtain⟨nm,c,ck,b,pk⟩:=a;unfold Vj Fg FA JI SR;simp only;rcases h.way with h|h
 .simp only at h;subst h;by_cases e:pk.size=b
  .simp[e]
  simp[e]
 simp only at h;subst h;by_cases e:(Az pk).2.2=0/\(Az pk).2.1=pk.size/\(Az pk).1.size=b
 .simp[e]
 simp[e]
def Ls(s v a:Y)(hs:s.size<=2000000)(hv:v.size<=2000000)(ha:a.size<=9223372036854775807)(w:U):μ ψ 121 #[G s,G v,G a] w λr w' =>Al w w' /\Jx w w' r (Ci s v a):=by
 have H1:=Af (PG s v hs hv w);cases hpre:FM s v with
 |none=>
  exact Hw
 |some p=>
  have HU:χ (Ci s v a=JH p a):=by unfold χ Ci;rw[hpre]
  have H:=GF hpre;have b6:=gW hpre;have L:=Af (λW=>Mf s v hs hv W);rw[<-Nf hpre] at L;rw[hpre] at H1;clear hpre;by_cases hz:40000<a.size
  .have c7:(40000:Z)<(a.size:Z):=Aa;have HR:χ (Ci s v a=([],1)):=by unfold χ;rw[uh HU,JH,rd hz]
   clear HU L;go_in;go_wp2_with fail;refine H1.mono ?_;rintro r w1 ⟨rfl,ho1⟩;have HO1:=Af ho1;clear H1 ho1;go_wp2;go_ret2;exact⟨HO1,by rw[uh HR];exact .inr ⟨Ac,rfl⟩⟩
  have c7:¬(40000:Z)<(a.size:Z):=Aa;have u:=Af (λW=>nS a p Aa W);rw[gV b6 H Aa] at u;cases c:EB p a with
  |none=>
   have HR:χ (Ci s v a=([],7)):=by unfold χ;rw[uh HU,JH,rc hz,c]
   rw[c] at u;clear HU c;go_in;go_wp2_with fail;refine H1.mono ?_;rintro r w1 ⟨rfl,ho1⟩;have HO1:=Af ho1;clear H1 ho1;go_wp2_with fail;refine(L _).mono ?_;rintro r w2 ⟨rfl,rfl⟩;clear L;go_wp2_with fail;refine(u _).mono ?_;rintro r w3 ⟨l,x3,rfl⟩;have n:=Af (Ag.trans (uh HO1) l);clear u l HO1;go_wp2;go_ret2;exact⟨n,by rw[uh HR];exact .inr ⟨Ac,rfl⟩⟩
  |some its=>
   obtain⟨-,m, -,b4⟩:=PR H Aa c;have a9:χ (∀i,i<its.length->(its.getD i BG).packed.size<=100000000/\(Fg (its.getD i BG)).1.size<=140737488355328):=λi hi=>by
    have h1:=(PK c Aa).1 _ (Mi its i hi);exact⟨by have:=h1.2.2.2.2;omega,RA _ h1⟩
   have b0:=Af m;have k:χ (Ci s v a=if Bl its (λ_=>O) 0=0 then EO its [] else([],Bl its (λ_=>O) 0)):=by unfold χ;rw[uh HU,JH,rc hz,c]
   rw[c] at u;have H4:=Af (λao g cap f W hg=>nV p H its b4 m ao g cap f W hg);have S:χ (Bl its (λ_=>O) 0<=5):=Lr its _ 0;generalize Bl its (λ_=>O) 0=hd at*;have d4:hd<=5:=S;clear HU c m S;go_in;go_wp2_with fail;refine H1.mono ?_;rintro r w1 ⟨rfl,ho1⟩;have HO1:=Af ho1;clear H1 ho1;go_wp2_with fail;refine(L _).mono ?_;rintro r w2 ⟨rfl,rfl⟩;clear L;go_wp2_with fail;refine(u _).mono ?_;rintro r w3 ⟨l,x3,rfl,a6⟩;obtain⟨ao,g,cap,rfl,f,e⟩:=a6.any;simp only[sJ] at f e ⊢;have n:=Af (Ag.trans (uh HO1) l);have T:=Af e;have a7:=Af f;have H4:=Af (H4 ao g cap f w3 e);clear u l HO1 f e a6;go_wp2_with fail;refine H4.mono ?_;rintro r w4 ⟨rfl,F⟩;have V:χ (0<its.length->Nc w4 g (its.map (JI p))):=λh=>(T h).old F
   have o:=Af (Ag.trans (uh n) F);clear H4 F n T;by_cases B:hd=0
   .subst B;have k:=Af (k.trans (rd rfl));have a1:=Af (Zz.start its);have X:=Af (Nx.start (Ag.refl (λ_=>False) w4));go_wp2;go_loopw [12,13,14,15] (λxo xi _ _ wr=> ∃(i:N) (d:E Fl) (ao:Option Addr) (cap:N),i<=its.length/\xo=K ao d.length cap/\xi=I Q (i:Z)/\χ (Zz its i d)/\χ (Nx w4 wr (K ao d.length cap) d)) (λ_ xi _ _ _=>its.length- (intOf xi).toNat)
    .exact ⟨0,[],O,0,Aa,rfl,rfl,a1,X⟩
    clear a1 X;obtain⟨i,d,oo,oc,hi,rfl,rfl,M,t⟩:=hrel;have d0:d.length<=60:=by have:=M.len;omega
    by_cases j:i<its.length
    .have a4:(i:Z)<(its.length:Z):=Aa;have f:=a7 Aa;subst f;have e:=((V Aa).old t.2.2) i (by rw[sJ];exact j);rw[Kh p its i j] at e;have c:=b0 _ (Mi its i j);obtain⟨b7,d5⟩:=a9 i j;have a2:=Af (kT c);have y:=Af (λh=>M.next j h);have x:=Af (λh=>M.fault j h);have A:=Af (λW=>bU (p++(its.getD i BG).name) (its.getD i BG).way (its.getD i BG).check (its.getD i BG).packed.size (its.getD i BG).size (its.getD i BG).packed b7 c.way (by have:=c.size;omega) W);have a5:Vj ⟨p++(its.getD i BG).name,(its.getD i BG).way,(its.getD i BG).check,(its.getD i BG).packed.size,(its.getD i BG).size,(its.getD i BG).packed⟩=Fg (its.getD i BG):=uh a2;rw[a5] at A;have d6:=c.name;have d1:(Fg (its.getD i BG)).2<=8:=ZA _;have d7: ∀W,(Instr.slice 9 (G (p++(its.getD i BG).name)) (J (I Q (p.size:Z))) O O).run ψ W=ω (G (its.getD i BG).name) W:=λW=>wG
     clear a2 a5 M c;generalize Fg (its.getD i BG)=dt at*;obtain⟨dd,de⟩:=dt;simp only at*;generalize its.getD i BG=it at*;obtain⟨nm,wy,ck,sz,pk⟩:=it;simp only[JI] at*;generalize p++nm=pn at*;obtain⟨c0,c1,c2,c3,c4,c5⟩:=e;go_wp2_with fail;refine(A _).mono ?_;rintro r w5 ⟨rfl,q⟩;have c0:=Ao q c0;have a0:χ (Nx w4 w5 (K oo d.length oc) d):=⟨Au.old t.1 q,t.2.1,t.2.2.trans q⟩;clear A q c1 c2 c3 c4 c5 t;by_cases C:de=0
     .subst C;have b1:=Af (y rfl);have b5:(d++[(nm,dd)]).length=d.length+1:=Ad;clear y x;go_wp2_with (at_builtin;refine BQ rfl (.tmp 58) (.tmp 70) rfl _ _ d [(nm,dd)] rfl rfl (a0.alloc _) (.inr ⟨⟨w5.heap.size,0,O⟩,1,rfl,AB w5 [G nm,G dd] 50⟩) (by simp;omega) ?_;intro v6 w6 D b9;obtain⟨b3,a3,c6⟩:=D.form;subst c6;have a8:=Af D;clear D b9);go_roundw
      .exact ⟨i+1,_,b3,a3,Aa,by rw[b5],by go_num,b1,a8⟩
      exact Ae
     have R:=Af (k.trans (x C));have c8:((de:Z) !=0)=true:=(by rw[rS];omega);have c9:¬(de:Z)=0:=Aa;have z:=Af (o.trans a0.2.2);clear y x;go_wp2;go_ret2;exact⟨z,by rw[uh R];exact .inr ⟨C,rfl⟩⟩
    have a4:¬(i:Z)<(its.length:Z):=Aa;have R:=Af (k.trans (M.end Aa));have z:=Af (o.trans t.2.2);have b2:=Af o.size;clear M;go_wp2;go_ret2;exact⟨z,by rw[uh R];exact .inl ⟨rfl,_,rfl,t.1,λb hb=>rz (uh b2) (t.2.1 b hb)⟩⟩
   have R:=Af (k.trans (rc B));have d2:((hd:Z) !=0)=true:=by rw[rS];omega
   have d3:¬(hd:Z)=0:=Aa;go_wp2;go_ret2;exact⟨o,by rw[uh R];exact .inr ⟨B,rfl⟩⟩
def YF(s v a t:Y)(l:s.size<=2000000)(m:v.size<=2000000)(q:a.size<=9223372036854775807)(w:U):μ ψ 123 #[G s,G v,G a,G t] w λr w' =>Al w w' /\r=ε (I Q (JF s v a t:Z)):=by
 have H1:=Af (Ls s v a l m q w);have d:χ (JF s v a t=if(Ci s v a).2≠0 then(Ci s v a).2 else if(ER s v (Ci s v a).1).1=t then 0 else 9):=rfl;by_cases hz:(Ci s v a).2=0
 .obtain ⟨f1,p,k⟩:=Ky hz;have i:χ (∀W u,Au W u (Ci s v a).1->μ ψ 122 #[G s,G v,u] W λr w' =>Al W w' /\r=ε (η #[G (ER s v (Ci s v a).1).1,I Q ((ER s v (Ci s v a).1).2:Z)])):=λW u b=>by
   obtain⟨ao,cap,n,rfl,e,g⟩:=b.fls;exact Ta s v l m ao cap n _ Aa (λf b=>by have:=k f b;omega) e W g
  have HE:=Af (d.trans (rc (λh=>h hz)));clear d f1 p k;generalize(ER s v (Ci s v a).1).2=sn at*;generalize(ER s v (Ci s v a).1).1=sm at*;have f1:=Qd sm t;generalize JF s v a t=ans at*;generalize Ci s v a=um at*;obtain⟨ul,un⟩:=um;simp only at*;subst hz;go_in;go_wp2_with fail;refine H1.mono ?_;rintro r w1 ⟨ho1,hr1⟩;rcases hr1 with⟨-,u,rfl,b, -⟩|⟨o, -⟩
  .have j:=Af (i w1 u b);have HO1:=Af ho1;clear H1 ho1 b i;go_wp2_with fail;refine j.mono ?_;rintro r w2 ⟨c,rfl⟩;have HO2:=Af (Ag.trans (uh HO1) c);clear j c HO1;exact Hx
  exact κ rfl o
 have HE:=Af (d.trans (rd hz));have x:(Ci s v a).2<=100:=Oq s v a;clear d;exact zR
def Jx.form{w w' :U}{r:Ending}{a:E Fl×N}(h:Jx w w' r a): ∃(u:β) (fs:E Fl),r=ε (η #[u,I Q (a.2:Z)])/\Au w' u fs/\(∀b,u.ownBlock=J b->w.heap.size<=b)/\fs=(if a.2=0 then a.1 else []):=by
 rcases h with⟨h0,u,rfl,d,c⟩|⟨h0,rfl⟩
 .exact ⟨u,a.1,by rw[h0];rfl,d,c,by rw[rd h0]⟩
 exact⟨K O 0 0,[],rfl,rF _ _ _ _,λb e=>(by cases e),by rw[rc h0]⟩
def Vy{w1:U}{b c:N}{s:WS}{RF RL RT:E (β×Y)}(hc:c<=99999990)(T:s.m.size<=2000000)(a0:s.v.size<=2000000)(a:Y)(ha:a.size<=9223372036854775807)(w:U)(h:CD w1 w b c s RF RL RT)(hG: ∀W,Ag (λk=>k=b) w1 W->Ge W):
 μ ψ 64 #[δ (J ⟨b,0,O⟩),G a] w λr w' =>r=ε (.bool true)/\NR w1 w' b (c+1) s.base RL RT:=by
 have HL:=Af h;have D:w.cell? ⟨b,0,O⟩=J (G s.m):=by rw[qV w b 0 _ _ (0,0) h.hp];rfl
 have F:w.cell? ⟨b,1,O⟩=J (G s.v):=by rw[qV w b 1 _ _ (0,0) h.hp];rfl
 have H:w.cell? ⟨b,2,O⟩=J (G s.ar):=by rw[qV w b 2 _ _ (0,0) h.hp];rfl
 have c3:=h.inb;have n:χ (∀W,Al w W->μ ψ 28 #[G s.m,G s.v,G a] W λr w' =>Al W w' /\Jx W w' r (Ci s.m s.v a)):=λW l=>Vr s.m s.v a T a0 ha W (hG W ((h.old l).only)).2 (hG W ((h.old l).only)).1.2
 have o:=Af (λW=>Ls s.m s.v a T a0 ha W);have x:χ (∀fs:E Fl,fs=(if(Ci s.m s.v a).2=0 then(Ci s.m s.v a).1 else [])->fs.length<=60):=λfs e=>by
  rw[e];by_cases hz:(Ci s.m s.v a).2=0
  .rw[rd hz];exact(Ky hz).2.1
  rw[rc hz];exact sl _
 have a2:χ (s.base=s.base):=rfl;generalize hB:s.base=BB at a2 ⊢;have HB:=Af hB;clear hB a2 h hG;obtain⟨M,hM⟩: ∃M,s.m=M:=⟨_,rfl⟩;obtain⟨V,hV⟩: ∃V,s.v=V:=⟨_,rfl⟩;obtain⟨A,hA⟩: ∃A,s.ar=A:=⟨_,rfl⟩;rw[hM] at D n o x T;rw[hV] at F n o x a0;rw[hA] at H;clear hM hV hA;obtain⟨y,a8⟩: ∃y,y=w:=⟨_,rfl⟩;have c2:(Ci M V a).2<=100:=Oq M V a;generalize Ci M V a=um at*;obtain⟨ul,un⟩:=um;simp only at*;have B: ∀X X' :U,(X.cell? ⟨b,0,O⟩=J (G M)/\X.cell? ⟨b,1,O⟩=J (G V)/\X.cell? ⟨b,2,O⟩=J (G A)/\Al y X)->Al X X' ->(X'.cell? ⟨b,0,O⟩=J (G M)/\X'.cell? ⟨b,1,O⟩=J (G V)/\X'.cell? ⟨b,2,O⟩=J (G A)/\Al y X'):=λX X' h l=>⟨Ao l h.1,Ao l h.2.1,Ao l h.2.2.1,h.2.2.2.trans l⟩
 have d:w.drew.cell? ⟨b,0,O⟩=J (G M)/\w.drew.cell? ⟨b,1,O⟩=J (G V)/\w.drew.cell? ⟨b,2,O⟩=J (G A)/\Al y w.drew:=⟨D,F,H,by rw[a8];exact(Ag.refl _ w).drew⟩;have n:=Af (n w.drew ((Ag.refl _ w).drew));clear D F H;go_in;go_wp2_with fail;refine Ai (S:=λX=>X.cell? ⟨b,0,O⟩=J (G M)/\X.cell? ⟨b,1,O⟩=J (G V)/\X.cell? ⟨b,2,O⟩=J (G A)/\Al y X) (L:=14) Ab ?_;refine tk 0 15 (δ (J ⟨b,0,O⟩)) 11 d ?_;refine tk 1 15 (δ (J ⟨b,0,O⟩)) 12 d ?_;refine tk 2 15 (δ (J ⟨b,0,O⟩)) 13 d ?_;refine tk 3 15 (G M) 14 d ?_;refine tk 4 15 (δ (J ⟨b,0,O⟩)) 15 d ?_;refine tk 5 15 (δ (J ⟨b,0,O⟩)) 16 d ?_;refine tk 6 15 (δ (J ⟨b,1,O⟩)) 17 d ?_;refine tk 7 15 (G V) 18 d ?_;refine tk 8 15 (G a) 19 d ?_;refine Ah (i:=9) Ab ?_;refine ri rfl (λK' t=> ?_);go_simp;refine n.mono ?_;rintro r w2 ⟨l,hp⟩;obtain⟨u1,fs,rfl,b0,a9,P⟩:=hp.form;simp only at P;have f:=B _ _ d l;refine t _ _ ⟨λ_=>f, ?_⟩;clear t;refine tk 10 15 (η #[u1,I Q (un:Z)]) 10 f ?_;refine tk 11 15 u1 21 f ?_;refine tk 12 15 (I Q (un:Z)) 22 f ?_;refine tk 13 15 u1 5 f ?_;refine Ah (i:=14) Ab ?_;refine ri rfl (λK' t=> ?_);go_simp;refine t _ _ ⟨λh=>κ rfl h, ?_⟩;clear t;refine Am Ab ?_;have b4:=Af f;have o:=Af (o w2.drew);have d:w2.drew.cell? ⟨b,0,O⟩=J (G M)/\w2.drew.cell? ⟨b,1,O⟩=J (G V)/\w2.drew.cell? ⟨b,2,O⟩=J (G A)/\Al y w2.drew:=⟨f.1,f.2.1,f.2.2.1,f.2.2.2.drew⟩;have a3:=Af b0;have a1:=Af a9;have a5:χ (Al w w2):=by have:=f.2.2.2;rw[a8] at this;exact this
 clear n b0 a9 l hp f;go_wp2_with fail;refine Ai (S:=λX=>X.cell? ⟨b,0,O⟩=J (G M)/\X.cell? ⟨b,1,O⟩=J (G V)/\X.cell? ⟨b,2,O⟩=J (G A)/\Al y X) (L:=14) Ab ?_;refine tk 0 15 (δ (J ⟨b,0,O⟩)) 24 d ?_;refine tk 1 15 (δ (J ⟨b,0,O⟩)) 25 d ?_;refine tk 2 15 (δ (J ⟨b,0,O⟩)) 26 d ?_;refine tk 3 15 (G M) 27 d ?_;refine tk 4 15 (δ (J ⟨b,0,O⟩)) 28 d ?_;refine tk 5 15 (δ (J ⟨b,0,O⟩)) 29 d ?_;refine tk 6 15 (δ (J ⟨b,1,O⟩)) 30 d ?_;refine tk 7 15 (G V) 31 d ?_;refine tk 8 15 (G a) 32 d ?_;refine Ah (i:=9) Ab ?_;refine ri rfl (λK' t=> ?_);go_simp;refine o.mono ?_;rintro r w3 ⟨l,hp⟩;obtain⟨u2,q,rfl,b1,b7,j⟩:=hp.form;simp only at j;have p:=B _ _ d l;refine t _ _ ⟨λ_=>p, ?_⟩;clear t;refine tk 10 15 (η #[u2,I Q (un:Z)]) 23 p ?_;refine tk 11 15 u2 34 p ?_;refine tk 12 15 (I Q (un:Z)) 35 p ?_;refine tk 13 15 u2 7 p ?_;refine Ah (i:=14) Ab ?_;refine ri rfl (λK' t=> ?_);go_simp;refine t _ _ ⟨λh=>κ rfl h, ?_⟩;clear t;refine Am Ab ?_;have b9:q=fs:=j.trans P.symm;subst b9;have C:Al w2 w3:=(Ag.refl _ w2).drew.trans l;have c1:=x q j;have u:=Af (Au.old (uh a3) C);have a7:=Af (Lo u1 u2 q Aa w3 (uh u) b1);have a6:=Af (a5.trans C);obtain⟨b5,b6,c0⟩:=Dq (uh u);subst c0;clear o p d b4 B b1 b7 l hp C P j a3 x a5;go_wp2_with fail;refine a7.mono ?_;rintro r w4 ⟨rfl,R⟩;have b3:=Af (a6.trans R);have b2:=Af (Au.old (uh u) R);have a4:=Af (Md (wq:=w) Aa w4 (HL.old (uh b3)) b5 q.length b6 Aa (AG q) (uh b2) (λg e=>⟨a1 g e,rz HL.only.size (a1 g e)⟩) HL.rf.2.2);clear a7 R a6 u;go_wp2_with fail;refine a4.mono ?_;rintro r w5 ⟨rfl, -,z⟩;have HX:χ (NR w1 w5 b (c+1) BB RL RT):=by rw[<-uh HB];exact z
 clear a4 z;exact zF
def Vz(w1 w:U)(b c:Nat)(S:WS)(RF RL RT:E (β×Y))(N:Nat):Prop:= ∃z:Y,z.size<=N/\CD w1 w b c {S with ar:=z} RF RL RT
def Id(z:Y)(k:N)(h:k<=z.size):(z.extract 0 k).size=k:=by rw[rv];omega
def Lt(z:Y)(k:N)(h:k<=z.size):(z.extract k z.size).size=z.size- k:=by rw[rv];omega
def kU{w1:U}{b c:N}{S:WS}{RF RL RT:E (β×Y)}(kd p q:Z)(a8: -9223372036854775808<=q)(a9:q<=9223372036854775807)(s t:Y)(hs:s.size<=2000000)(x y:β)(b0:S.ar.size<=2000000000)(w:U)(h:CD w1 w b c S RF RL RT):
 μ ψ 65 #[δ (J ⟨b,0,O⟩),.agg (Df kd p q s t x y)] w λr w' =>r=ε (η #[])/\Vz w1 w' b c S RF RL RT (S.ar.size+100):=by
 have hA:Al w (w.alloc (γ (Df kd p q s t x y) 79)):=(Ag.refl _ w).alloc _;have hL:=h.old hA;have l:=rh w (γ (Df kd p q s t x y) 79);have m:(w.alloc (γ (Df kd p q s t x y) 79)).cell? ⟨b,2,O⟩=J (G S.ar):=by rw[qV _ b 2 _ _ (0,0) hL.hp];rfl
 have D:(w.alloc (γ (Df kd p q s t x y) 79)).frozen? ⟨b,2,O⟩=false:=rp _ b 2 _ _ hL.hp;have d1:(w.alloc (γ (Df kd p q s t x y) 79)).cell? ⟨w.heap.size,1,O⟩=J (I Q p):=by rw[qV _ _ 1 _ _ (0,0) l];rfl
 have d2:(w.alloc (γ (Df kd p q s t x y) 79)).cell? ⟨w.heap.size,2,O⟩=J (I Q q):=by rw[qV _ _ 2 _ _ (0,0) l];rfl
 have d3:(w.alloc (γ (Df kd p q s t x y) 79)).cell? ⟨w.heap.size,3,O⟩=J (G s):=by rw[qV _ _ 3 _ _ (0,0) l];rfl
 have b3:=hL.inb;have HFIN:χ (∀(V:U) (z:Y),Al (w.alloc (γ (Df kd p q s t x y) 79)) V->z.size<=S.ar.size+100->Vz w1 (V.setCell ⟨b,2,O⟩ (G z)) b c S RF RL RT (S.ar.size+100)):=λV z ho hz=>Wt
 have HNON:χ (Vz w1 (w.alloc (γ (Df kd p q s t x y) 79)) b c S RF RL RT (S.ar.size+100)):=Exists.intro S.ar ⟨Aa,hL⟩;have a6:S.ar.size+100<=S.ar.size+100:=rj _;clear h hA hL l;obtain⟨H,hN⟩: ∃H,S.ar.size+100=H:=⟨_,rfl⟩;rw[hN] at HFIN HNON ⊢;obtain⟨A,P⟩: ∃A,S.ar=A:=⟨_,rfl⟩;rw[P] at m b0 hN;clear P a6;unfold Df at*;by_cases g:A=⟨#[]⟩
 .have e1:(A.toList==[])=true:=by rw[show(A.toList==([]:E υ))=decide (A=⟨([]:E υ).toArray⟩) from EF A []];exact qZ g
  clear g;go_in;go_wp2_with fail
  (try simp only[Exit.inBlock,Exit.then])
  refine rU (tW rfl _ _ _) rfl ?_;exact⟨rfl,HNON⟩
 have e1:(A.toList==[])=false:=by rw[show(A.toList==([]:E υ))=decide (A=⟨([]:E υ).toArray⟩) from EF A []];exact qX g
 have R:0<A.size:=by
  rcases te A.size with h|h
  .exact κ (sX (uD h)) g
  exact h
 have HP:=Af (λV=>Pd q a8 a9 A.size R Aa V);have b4:=GP q R;clear g;generalize Eb q A.size=k at*;by_cases hp:p=1
 .have n:(p==1)=true:=by rw[hp];rfl
  have o:(p==2)=false:=by rw[hp];rfl
  have v:(p==3)=false:=by rw[hp];rfl
  have B:(p==4)=false:=by rw[hp];rfl
  clear hp;by_cases j:s=⟨#[]⟩
  .have e2:(s.toList==[])=true:=by rw[show(s.toList==([]:E υ))=decide (s=⟨([]:E υ).toArray⟩) from EF s []];exact qZ j
   clear j;exact zJ
  have e2:(s.toList==[])=false:=by rw[show(s.toList==([]:E υ))=decide (s=⟨([]:E υ).toArray⟩) from EF s []];exact qX j
  have b5:0<s.size:=by
   rcases te s.size with h|h
   .exact κ (sX (uD h)) j
   exact h
  clear j;obtain⟨a,hx1⟩: ∃a,A.extract 0 k=a:=⟨_,rfl⟩;have z1:a.size=k:=by rw[<-hx1];exact Id A k Aa
  have F: ∀W,(Instr.slice 9 (G A) O (J (I Q (k:Z))) O).run ψ W=ω (G a) W:=λW=>by have h:=tz W 9 A underlying9 .i64 (k:Z) Aa Aa;rw[h,rO,hx1]
  have b1:IntKind.i64.wrap ((k:Z)+1)=(k:Z)+1:=by have h:=Av (k+1) Aa;rw[sO] at h;exact h
  obtain⟨d,e⟩: ∃d,A.extract (k+1) A.size=d:=⟨_,rfl⟩;have z4:d.size=A.size- (k+1):=by rw[<-e];exact Lt A (k+1) Aa
  have a5: ∀W,(Instr.slice 9 (G A) (J (I Q ((k:Z)+1))) O O).run ψ W=ω (G d) W:=λW=>by have h:=sT W 9 A underlying9 .i64 ((k:Z)+1) Aa Aa;rw[h,show((k:Z)+1).toNat=k+1 by omega,e]
  obtain⟨C,hx2⟩: ∃C,s.extract 0 1=C:=⟨_,rfl⟩;have z2:C.size=1:=by rw[<-hx2];exact Id s 1 Aa
  have b6: ∀W,(Instr.slice 9 (G s) O (J (I Q 1)) O).run ψ W=ω (G C) W:=λW=>by have h:=tz W 9 s underlying9 .i64 1 Aa Aa;rw[h];exact rI (λu=>Result.ok (Value.string u) W) hx2
  have a1: ∀W,(Op.stringOp .add a C).run ψ W=ω (G (a++C)) W:=λW=>ry W _ _ Aa
  obtain⟨f,hx3⟩: ∃f,a++C=f:=⟨_,rfl⟩;have b2:f.size=a.size+C.size:=by rw[<-hx3,rg]
  rw[hx3] at a1;clear hx3;have M: ∀W,(Op.stringOp .add f d).run ψ W=ω (G (f++d)) W:=λW=>ry W _ _ Aa
  obtain⟨z,hz⟩: ∃z,f++d=z:=⟨_,rfl⟩;have zz:z.size=f.size+d.size:=by rw[<-hz,rg]
  rw[hz] at M;clear hz;have hzb:z.size<=H:=Aa;clear hx1 hx2 e;go_in;go_wp2_with fail;generalize w.alloc (γ #[I Q kd,I Q p,I Q q,G s,G t,x,y] 79)=W at*;generalize w.heap.size=ob at*;refine(HP _).mono ?_;rintro r w3 ⟨rfl,rfl⟩;clear HP;have HSW:w3.drew.cell? ⟨ob,3,O⟩=J (G s)/\w3.drew.cell? ⟨b,2,O⟩=J (G A)/\w3.drew.frozen? ⟨b,2,O⟩=false:=⟨d3,m,D⟩;go_wp2_with fail;refine Ai (S:=λX=>X.cell? ⟨ob,3,O⟩=J (G s)/\X.cell? ⟨b,2,O⟩=J (G A)/\X.frozen? ⟨b,2,O⟩=false) (L:=15) Ab ?_;refine tk 0 16 (δ (J ⟨b,0,O⟩)) 24 HSW ?_;refine tk 1 16 (G A) 25 HSW ?_;refine tk 2 16 (I Q (k:Z)) 26 HSW ?_;refine tk 3 16 (G a) 27 HSW ?_;refine tk 4 16 (δ (J ⟨ob,3,O⟩)) 28 HSW ?_;refine tk 5 16 (G s) 29 HSW ?_;refine tk 6 16 (G C) 30 HSW ?_;refine tk 7 16 (G f) 31 HSW ?_;refine tk 8 16 (G A) 32 HSW ?_;refine tk 9 16 (I Q (k:Z)) 33 HSW ?_;refine tk 10 16 (I Q ((k:Z)+1)) 34 HSW ?_;refine tk 11 16 (G d) 35 HSW ?_;refine tk 12 16 (G z) 36 HSW ?_;refine tk 13 16 (δ (J ⟨b,0,O⟩)) 37 HSW ?_;refine tk 14 16 (δ (J ⟨b,2,O⟩)) 38 HSW ?_;refine Ah (i:=15) Ab ?_;exact zM
 have T:=hp;clear hp;by_cases hp:p=2
 .have n:(p==1)=false:=by rw[hp];rfl
  have o:(p==2)=true:=by rw[hp];rfl
  have v:(p==3)=false:=by rw[hp];rfl
  have B:(p==4)=false:=by rw[hp];rfl
  clear hp;by_cases hl:s.size<100
  .have a7:(s.size:Z)<100:=Aa;obtain⟨a,hx1⟩: ∃a,A.extract 0 k=a:=⟨_,rfl⟩;have z1:a.size=k:=by rw[<-hx1];exact Id A k Aa
   have F: ∀W,(Instr.slice 9 (G A) O (J (I Q (k:Z))) O).run ψ W=ω (G a) W:=λW=>by have h:=tz W 9 A underlying9 .i64 (k:Z) Aa Aa;rw[h,rO,hx1]
   obtain⟨d,e⟩: ∃d,A.extract k A.size=d:=⟨_,rfl⟩;have z4:d.size=A.size- k:=by rw[<-e];exact Lt A k Aa
   have a5: ∀W,(Instr.slice 9 (G A) (J (I Q (k:Z))) O O).run ψ W=ω (G d) W:=λW=>by have h:=sT W 9 A underlying9 .i64 (k:Z) Aa Aa;rw[h,rO,e]
   have a1: ∀W,(Op.stringOp .add a s).run ψ W=ω (G (a++s)) W:=λW=>ry W _ _ Aa
   obtain⟨f,hx3⟩: ∃f,a++s=f:=⟨_,rfl⟩;have b2:f.size=a.size+s.size:=by rw[<-hx3,rg]
   rw[hx3] at a1;clear hx3;have M: ∀W,(Op.stringOp .add f d).run ψ W=ω (G (f++d)) W:=λW=>ry W _ _ Aa
   obtain⟨z,hz⟩: ∃z,f++d=z:=⟨_,rfl⟩;have zz:z.size=f.size+d.size:=by rw[<-hz,rg]
   rw[hz] at M;clear hz;have hzb:z.size<=H:=Aa;clear hx1 e;go_in;go_wp2_with fail;generalize w.alloc (γ #[I Q kd,I Q p,I Q q,G s,G t,x,y] 79)=W at*;generalize w.heap.size=ob at*;refine(HP _).mono ?_;rintro r w3 ⟨rfl,rfl⟩;clear HP;have HSW:w3.drew.cell? ⟨ob,3,O⟩=J (G s)/\w3.drew.cell? ⟨b,2,O⟩=J (G A)/\w3.drew.frozen? ⟨b,2,O⟩=false:=⟨d3,m,D⟩;go_wp2_with fail;refine Ai (S:=λX=>X.cell? ⟨ob,3,O⟩=J (G s)/\X.cell? ⟨b,2,O⟩=J (G A)/\X.frozen? ⟨b,2,O⟩=false) (L:=13) Ab ?_;refine tk 0 14 (δ (J ⟨b,0,O⟩)) 45 HSW ?_;refine tk 1 14 (G A) 46 HSW ?_;refine tk 2 14 (I Q (k:Z)) 47 HSW ?_;refine tk 3 14 (G a) 48 HSW ?_;refine tk 4 14 (δ (J ⟨ob,3,O⟩)) 49 HSW ?_;refine tk 5 14 (G s) 50 HSW ?_;refine tk 6 14 (G f) 51 HSW ?_;refine tk 7 14 (G A) 52 HSW ?_;refine tk 8 14 (I Q (k:Z)) 53 HSW ?_;refine tk 9 14 (G d) 54 HSW ?_;refine tk 10 14 (G z) 55 HSW ?_;refine tk 11 14 (δ (J ⟨b,0,O⟩)) 56 HSW ?_;refine tk 12 14 (δ (J ⟨b,2,O⟩)) 57 HSW ?_;refine Ah (i:=13) Ab ?_;exact zM
  have a7:¬(s.size:Z)<100:=Aa;exact zJ
 have a0:=hp;clear hp;by_cases hp:p=3
 .have n:(p==1)=false:=by rw[hp];rfl
  have o:(p==2)=false:=by rw[hp];rfl
  have v:(p==3)=true:=by rw[hp];rfl
  have B:(p==4)=false:=by rw[hp];rfl
  clear hp;obtain⟨a,hx1⟩: ∃a,A.extract 0 k=a:=⟨_,rfl⟩;have z1:a.size=k:=by rw[<-hx1];exact Id A k Aa
  have F: ∀W,(Instr.slice 9 (G A) O (J (I Q (k:Z))) O).run ψ W=ω (G a) W:=λW=>by have h:=tz W 9 A underlying9 .i64 (k:Z) Aa Aa;rw[h,rO,hx1]
  have b1:IntKind.i64.wrap ((k:Z)+1)=(k:Z)+1:=by have h:=Av (k+1) Aa;rw[sO] at h;exact h
  obtain⟨d,e⟩: ∃d,A.extract (k+1) A.size=d:=⟨_,rfl⟩;have z4:d.size=A.size- (k+1):=by rw[<-e];exact Lt A (k+1) Aa
  have a5: ∀W,(Instr.slice 9 (G A) (J (I Q ((k:Z)+1))) O O).run ψ W=ω (G d) W:=λW=>by have h:=sT W 9 A underlying9 .i64 ((k:Z)+1) Aa Aa;rw[h,show((k:Z)+1).toNat=k+1 by omega,e]
  have M: ∀W,(Op.stringOp .add a d).run ψ W=ω (G (a++d)) W:=λW=>ry W _ _ Aa
  obtain⟨z,hz⟩: ∃z,a++d=z:=⟨_,rfl⟩;have zz:z.size=a.size+d.size:=by rw[<-hz,rg]
  rw[hz] at M;clear hz;have hzb:z.size<=H:=Aa;clear hx1 e;go_in;go_wp2_with fail;generalize w.alloc (γ #[I Q kd,I Q p,I Q q,G s,G t,x,y] 79)=W at*;generalize w.heap.size=ob at*;refine(HP _).mono ?_;rintro r w3 ⟨rfl,rfl⟩;clear HP;have HSW:w3.drew.cell? ⟨ob,3,O⟩=J (G s)/\w3.drew.cell? ⟨b,2,O⟩=J (G A)/\w3.drew.frozen? ⟨b,2,O⟩=false:=⟨d3,m,D⟩;go_wp2_with fail;refine Ai (S:=λX=>X.cell? ⟨ob,3,O⟩=J (G s)/\X.cell? ⟨b,2,O⟩=J (G A)/\X.frozen? ⟨b,2,O⟩=false) (L:=11) Ab ?_;refine tk 0 12 (δ (J ⟨b,0,O⟩)) 60 HSW ?_;refine tk 1 12 (G A) 61 HSW ?_;refine tk 2 12 (I Q (k:Z)) 62 HSW ?_;refine tk 3 12 (G a) 63 HSW ?_;refine tk 4 12 (G A) 64 HSW ?_;refine tk 5 12 (I Q (k:Z)) 65 HSW ?_;refine tk 6 12 (I Q ((k:Z)+1)) 66 HSW ?_;refine tk 7 12 (G d) 67 HSW ?_;refine tk 8 12 (G z) 68 HSW ?_;refine tk 9 12 (δ (J ⟨b,0,O⟩)) 69 HSW ?_;refine tk 10 12 (δ (J ⟨b,2,O⟩)) 70 HSW ?_;refine Ah (i:=11) Ab ?_;exact zM
 have a3:=hp;clear hp;by_cases hp:p=4
 .have n:(p==1)=false:=by rw[hp];rfl
  have o:(p==2)=false:=by rw[hp];rfl
  have v:(p==3)=false:=by rw[hp];rfl
  have B:(p==4)=true:=by rw[hp];rfl
  clear hp;obtain⟨a,hx1⟩: ∃a,A.extract 0 k=a:=⟨_,rfl⟩;have z1:a.size=k:=by rw[<-hx1];exact Id A k Aa
  have F: ∀W,(Instr.slice 9 (G A) O (J (I Q (k:Z))) O).run ψ W=ω (G a) W:=λW=>by have h:=tz W 9 A underlying9 .i64 (k:Z) Aa Aa;rw[h,rO,hx1]
  have hzb:a.size<=H:=Aa;clear hx1;go_in;go_wp2_with fail;generalize w.alloc (γ #[I Q kd,I Q p,I Q q,G s,G t,x,y] 79)=W at*;generalize w.heap.size=ob at*;refine(HP _).mono ?_;rintro r w3 ⟨rfl,rfl⟩;clear HP;have HX:=Af (HFIN _ a (Ag.refl _ w3) hzb);clear HFIN;go_wp2_with fail;go_end0;exact⟨rfl,HX⟩
 have a4:=hp;clear hp;have n:(p==1)=false:=by rw[re];exact T
 have o:(p==2)=false:=by rw[re];exact a0
 have v:(p==3)=false:=by rw[re];exact a3
 have B:(p==4)=false:=by rw[re];exact a4
 clear T a0 a3 a4;exact zJ
