import Derived.Test.YtfpphfkcaplafaaGreatDoorZar
set_option linter.all false
set_option maxHeartbeats 64000000
set_option maxRecDepth 100000
open _root_ renaming Option.some->J,Option.none->O,Int->Z,Nat->N,Go.Value.int->I,Go.Value.string->G,Go.IntKind.i64->Q,ByteArray->Y,List->E,Go.World->U,Go.Value.slice->K,Go.Value->M,Go.Obj.cells->W,Go.Value.pointer->V,Go.RowKit.Hid->C,Go.Proofs.Tryz.prog->F,Go.Ending.returned->ε,Go.Value.bool->ζ,Go.Value.tuple->η,Bool.true->θ,Bool.false->ι,absurd->κ,Go.Calls->μ,UInt8->υ,Go.Result.ok->ω,Decidable.decide->Γ
variable{c w w' w1 w2:U}{b k k':N}{P l s:Y}{a:E υ}{u v:M}
namespace Go.Proofs.YtfpphfkcaplafaaGreatDoor
open Go.RowKit Go.Maps Go.Proofs.Tryz
def eW(p:Y)(l:E Fl)(i:N)(h:i<l.length):((((An (Bw p<|l.take i)++CY (l.getD i default).2)++⟨#[32,32]⟩)++p)++(l.getD i default).1)++⟨#[10]⟩=An (Bw p<|l.take (i+1)):=by
 rw[Qx p l i h,<-AF];have e:An (Ly p<|l.getD i default).data.toList=Ly p (l.getD i default):=ME _;rw[e,Ly];simp only[ado]
def XW(s v:Y)(hs:s.size<=2000000)(hv:v.size<=2000000)(ao:Option Addr)(cap:N)(av:Addr)(fs:E Fl)(hn:fs.length<=1100000)(hfz:∀f∈fs,f.1.size<=2000000/\f.2.size<=2000000)(b1:0<fs.length->ao=J av)(w:U)(hf:Eb w av fs):
 μ F 47 #[G s,G v,K ao fs.length cap] w λr w'=>Am w w'/\r=ε (η #[G (FY s v fs).1,I Q ((FY s v fs).2:Z)]):=by
 have y:=H<|Tf s v hs hv w;cases n:GL s v with
 |none=>
  have m:C<|FY s v fs=(⟨#[]⟩,3):=by unfold C FY;rw[n]
  rw[n] at y;clear n hf;exact agL
 |some p=>
  have:=IZ n;have b:C (FY s v fs=if Ix fs []=0 then(sX p<|OI fs,0) else(⟨#[]⟩,Ix fs [])):=by unfold C FY;rw[n];rfl
  have d5:=H λc=>OG s v hs hv c;rw[<-PP n] at d5;have d6:C (∀i,i<fs.length->(fs.getD i default).1.size<=2000000/\(fs.getD i default).2.size<=2000000):=λi hi=>ajL
  rw[n] at y;have d7:=H b1;have HF:=H hf;have d8:=H<|kF.start fs;have b6:C (∀f∈fs.take 0,f.1.size<=80):=λf hf=>by cases hf
  clear n hf b1 hfz;generalize FY s v fs=J1 at*;go_in;go_wp2_with fail;refine y.mono ?_;rintro r w1 ⟨rfl,q⟩;have u:=H q;clear y q;go_wp2;go_loopw [8,9,10] (λ_ b0 _ wr=>∃i:N,i<=fs.length/\b0=I Q (i:Z)/\C (Am w wr)/\C (kF fs i)/\C (∀f∈fs.take i,f.1.size<=80)) λ_ b0 _ _=>fs.length-(intOf b0).toNat
  .exact ⟨0,A,rfl,u,d8,b6⟩
  clear u d8 b6;obtain⟨i,hi,rfl,HO,a0,O4⟩:=hrel;by_cases o:i<fs.length
  .have d9:(i:Z)<fs.length:=A;have b1:=d7 A;subst b1;have c3:C (∀c,Am w c->c.cell? (av.add<|i*2)=J (G (fs.getD i default).1)):=λc j=>(HF.old j i o).1
   have e0:=c3 wr HO;obtain⟨g2,g3⟩:=d6 i o;have b2:=H λh=>a0.next o h;have D:=H λh=>a0.fault o h;have P:C (PR ((fs.take i).map Prod.fst) (fs.getD i default).1=if CE (fs.getD i default).1=ι then 4 else if((fs.take i).map Prod.fst).any (λb0=>Γ<|b0=(fs.getD i default).1)=θ then 5 else 0):=rfl;have a6:C (CE (fs.getD i default).1=θ-> ∀f∈fs.take (i+1),f.1.size<=80):=λh f hf=>agW
   have T:=H λc=>PA (fs.getD i default).1 A c;rw[SH] at T;generalize PR ((fs.take i).map Prod.fst) (fs.getD i default).1=sf at*;obtain⟨t,e4⟩:∃t,(fs.getD i default).1=t:=⟨_,rfl⟩;rw[e4] at e0 g2 P a6 T c3;clear e4 a0 O4 g3;obtain⟨fp,e5⟩:∃fp,CE t=fp:=⟨_,rfl⟩;rw[e5] at T P a6;clear e5;cases fp with
   |false=>
    have a:=P.trans<|Wz rfl;have HA:C<|J1=(⟨#[]⟩,4):=ags;clear D b2 P a6 a b;go_wp2_with fail;refine(T _).mono ?_;rintro e w3 ⟨rfl,a7⟩;have b3:=H<|Ag.trans HO a7;clear T a7;go_wp2;go_ret2;exact⟨b3,by rw[X HA];rfl⟩
   |true=>
    have g4:=H<|a6 rfl;clear a6;go_wp2_with fail;refine(T _).mono ?_;rintro e w3 ⟨rfl,a7⟩;have b3:=H<|Ag.trans HO a7;clear T a7 HO e0;go_wp2;go_loopw [10] (λg1 g=>∃k:N,k<=i/\g1=I Q (k:Z)/\C (∀a8,a8<k->(fs.getD a8 default).1≠t)/\C (Am w g)) λg1 _=>i-(intOf g1).toNat
    .exact ⟨0,A,rfl,λa8 h=>A,b3⟩
    clear b3;obtain⟨k,hk,rfl,HB,HO⟩:=hrel;by_cases h7:k<i
    .have e6:(k:Z)<i:=A;have:(k:Z)<fs.length:=A;have:=(HF.old HO k A).1;have:=c3 wr HO;have c4:C ((fs.getD k default).1=t->sf=5):=λh=>by
      rw[X P,Wx Ac,Wz];rw[wJ];refine⟨t,wd.2 ⟨fs.getD k default,?_,h⟩,Wy rfl⟩;rw[Wq,Wv A];exact aat.2 ⟨k,A,rfl⟩
     have c5:C ((fs.getD k default).1≠t-> ∀a8,a8<k+1->(fs.getD a8 default).1≠t):=λh a8 hj=>by
      by_cases e:a8=k
      .subst e;exact h
      exact HB a8 A
     generalize(fs.getD k default).1=z at*;have f1:=TG z t;by_cases he:z=t
     .rw[Wy he] at f1;have a:=c4 he;have HA:C<|J1=(⟨#[]⟩,5):=ags;clear D b2 P a b c4 c5 he;go_wp2_with fail;go_quiet (fail);go_wp2;go_ret2;exact⟨HO.drewN _,by rw[X HA];rfl⟩
     rw[Ww he] at f1;have l:=H<|c5 he;clear c4 c5 he;exact agj
    have:¬(k:Z)<i:=A;have g5:k=i:=A;have a:sf=0:=by
     rw[X P,Wx Ac,Wx];intro h;obtain⟨b0,hx,e⟩:=wJ.1 h;obtain⟨g1,hy,rfl⟩:=wd.1 hx;obtain⟨a8,hj,rfl⟩:=wF hy;rw[hY] at hj;refine HB a8 A ?_;rw[Wq,Wv A];have e2:=wn e;rw[acj] at e2;exact e2
    have n:=H<|b2 a;clear b2 D P a HB g5;go_wp2;go_roundw
    .exact ⟨i+1,A,by go_num,HO,n,g4⟩
    exact Ae
  have:¬(i:Z)<fs.length:=A;have P:i=fs.length:=A;obtain⟨T,n⟩:=a0.end A;have b7:=H<|b.trans (Wz T);have e7:C (∀f∈fs,f.1.size<=80):=λf hf=>O4 f<|by rw[P,wL];exact hf
  have e8:=H<|gM ao cap av fs d7 A n wr (HF.old HO);have e9:C (∀g:E Fl,g.Perm fs->QK g->g=OI fs):=λg h1 h2=>Pz (h1.trans (JB fs).symm) h2<|Vx n
  clear a0 O4 b T n P;go_wp2_with fail;refine e8.mono ?_;rintro r w2 ⟨lv,g,rfl,f0,b4,f2,c6, -⟩;obtain⟨lo,lc,c7⟩:=Dk c6;subst c7;have f3:=H<|Ag.trans HO f0;have b9:=H c6;have c8:=H b4;have n:=b4.length_eq;have:g.length<=1100000:=A;have f4:=H<|e9 g b4 f2;clear e8 f0 c6 b4 f2 HO e9 n;have:C<|An (Bw p<|g.take 0)=⟨#[]⟩:=rfl;go_wp2;go_loopw [12,13] (λz b0 n=>∃i:N,i<=g.length/\b0=I Q (i:Z)/\z=G (An<|Bw p (g.take i))/\C (Am w n)/\C (Au n (K lo g.length lc) g)) λ_ b0 _=>g.length-(intOf b0).toNat
  .exact ⟨0,A,rfl,rfl,f3,b9⟩
  clear f3 b9;obtain⟨i,h8,rfl,rfl,HO,c9⟩:=hrel;have b5:(Bw p<|g.take i).length<=1300000000:=by
   have:=MG p 80 (g.take i) λf hf=>e7 f<|c8.mem_iff.1 (abb hf);have h2:(g.take i).length<=1100000:=akY
   have:(67+80+p.size)*(g.take i).length<=(67+80+p.size)*1100000:=acv _ h2;omega
  by_cases R:i<g.length
  .have d0:(i:Z)<g.length:=A;obtain⟨gl,n,c7,h9,f5⟩:=c9.slice A;injection c7 with e1 e2 e3;subst e1 e3;obtain⟨c1,c2⟩:=f5 i R;have f6:=H<|eW p g i R;have n:g.getD i default∈fs:=by
    rw[Wq,Wv R];exact c8.mem_iff.1<|WJ R
   have:=e7 _ n;obtain⟨qi,T,P⟩:=pJ c8 i R;have R:=(d6 qi T).2;rw[P] at R;have f7:=H λc=>MZ (g.getD i default).2 c A;have f8:=Ko (g.getD i default).2;have d1:(An<|Bw p (g.take i)).size<=1300000000:=by rw[AG];exact b5
   clear f5 e2 n P b5;obtain⟨n,d2⟩:∃n,An (Bw p<|g.take (i+1))=n:=⟨_,rfl⟩;rw[d2] at f6;have g6:=H d2;clear d2;generalize An (Bw p<|g.take i)=z at*;generalize g.getD i default=f at*;obtain⟨t,d⟩:=f;simp only at*;generalize CY d=dg at*;have a1:∀c,(Op.stringOp .add z dg).run F c=ω (G<|z++dg) c:=λc=>WR c _ _ A
   have:∀c,(Op.stringOp .add (z++dg) ⟨#[32,32]⟩).run F c=ω (G ((z++dg)++⟨#[32,32]⟩)) c:=λc=>WR c _ _<|by rw[WC];show _+2<=_;omega
   have:∀c,(Op.stringOp .add ((z++dg)++⟨#[32,32]⟩) p).run F c=ω (G (((z++dg)++⟨#[32,32]⟩)++p)) c:=λc=>WR c _ _<|by rw[WC,WC];show _+2+_<=_;omega
   have:∀c,(Op.stringOp .add (((z++dg)++⟨#[32,32]⟩)++p) t).run F c=ω (G ((((z++dg)++⟨#[32,32]⟩)++p)++t)) c:=λc=>WR c _ _<|by rw[WC,WC,WC];show _+2+_+_<=_;omega
   have:∀c,(Op.stringOp .add ((((z++dg)++⟨#[32,32]⟩)++p)++t) ⟨#[10]⟩).run F c=ω (G (((((z++dg)++⟨#[32,32]⟩)++p)++t)++⟨#[10]⟩)) c:=λc=>WR c _ _<|by rw[WC,WC,WC,WC];show _+2+_+_+1<=_;omega
   generalize g7:((((z++dg)++⟨#[32,32]⟩)++p)++t)++⟨#[10]⟩=z5 at*;generalize g8:(((z++dg)++⟨#[32,32]⟩)++p)++t=z4 at*;generalize g9:((z++dg)++⟨#[32,32]⟩)++p=z3 at*;generalize h4:(z++dg)++⟨#[32,32]⟩=z2 at*;generalize h5:z++dg=z1 at*;clear h5 h4 g9 g8 g7 f8;have f9:∀c n :U,(c.cell? ⟨gl,i*2,O⟩=J (G t)/\c.cell? ⟨gl,i*2+1,O⟩=J (G d)/\Am wr c)->Am c n ->(n.cell? ⟨gl,i*2,O⟩=J (G t)/\n.cell? ⟨gl,i*2+1,O⟩=J (G d)/\Am wr n):=λc n h j=>⟨Ap j h.1,Ap j h.2.1,h.2.2.trans j⟩
   have j:wr.drew.cell? ⟨gl,i*2,O⟩=J (G t)/\wr.drew.cell? ⟨gl,i*2+1,O⟩=J (G d)/\Am wr wr.drew:=⟨c1,c2,(Ag.refl _ wr).drew⟩;clear c1 c2;go_wp2_with fail;refine Ai (S:=λc=>c.cell? ⟨gl,i*2,O⟩=J (G t)/\c.cell? ⟨gl,i*2+1,O⟩=J (G d)/\Am wr c) (L:=20) B ?_;refine tk 0 21 (G z) 58 j ?_;refine tk 1 21 (K (J ⟨gl,0,O⟩) g.length lc) 59 j ?_;refine tk 2 21 (I Q (i:Z)) 60 j ?_;refine tk 3 21 (V<|J ⟨gl,i*2,O⟩) 61 j ?_;refine tk 4 21 (V<|J ⟨gl,i*2+1,O⟩) 62 j ?_;refine tk 5 21 (G d) 63 j ?_;refine tk 9 21 (G s) 67 j ?_;refine tk 10 21 (G v) 68 j ?_;refine tk 13 21 (K (J ⟨gl,0,O⟩) g.length lc) 71 j ?_;refine tk 14 21 (I Q (i:Z)) 72 j ?_;refine tk 15 21 (V<|J ⟨gl,i*2,O⟩) 73 j ?_;refine tk 16 21 (V<|J ⟨gl,i*2,O⟩) 74 j ?_;refine tk 17 21 (G t) 75 j ?_;refine Ah (i:=6) B ?_;refine WE rfl λn hK=>?_;go_simp;refine(f7 _).mono ?_;rintro r w5 ⟨rfl,a9⟩;have x:=f9 _ _ j a9;refine hK _ _ ⟨λ_=>x,?_⟩;clear hK;refine tk 7 21 (G z1) 65 x ?_;refine tk 8 21 (G z2) 66 x ?_;refine Ah (i:=11) B ?_;refine WE rfl λn hK=>?_;go_simp;refine(d5 _).mono ?_;rintro r w6 ⟨rfl,rfl⟩;refine hK _ _ ⟨λ_=>x,?_⟩;clear hK;refine tk 12 21 (G z3) 70 x ?_;refine tk 18 21 (G z4) 76 x ?_;refine tk 19 21 (G z5) 77 x ?_;refine Ah (i:=20) B ?_;refine WE rfl λn hK=>?_;go_simp;refine hK _ _ ⟨λh=>κ rfl h,?_⟩;clear hK;refine Aj B ?_;have d3:=H<|HO.trans x.2.2;have n:=H<|c9.old x.2.2;clear f9 j x a9 f7 HO c9;go_wp2;go_roundw
   .exact ⟨i+1,A,by go_num,by rw[X g6,X f6],d3,n⟩
   exact Ae
  have:¬(i:Z)<g.length:=A;rw[wv A];rw[wv A] at b5;have d1:(An<|Bw p g).size<=140737488355328:=ala
  have j:=H λc=>fF (An<|Bw p g) c d1;have d4:=H λc=>qk (Tx<|An (Bw p g)) (eV _) c;rw[qj] at d4;have h6:C<|J1=(⟨#[104,49,58]⟩++An (KK<|Rq (DJ<|An (Bw p g))),0):=by unfold C;rw[X b7,<-X f4];rfl
  have:(An<|KK (Rq<|DJ (An<|Bw p g))).size=44:=by rw[AG,KK,Ws,Ws,KJ,JA];rfl
  have c0:C (∀c,μ F 26 #[G<|An (Bw p g)] c λe w'=>e=ε (G<|Tx (An<|Bw p g))/\Am c w'):=X j;clear j b5 b7 f4 d1;generalize An (KK<|Rq (DJ<|An (Bw p g)))=su at*;generalize Tx (An<|Bw p g)=rw0 at*;generalize An (Bw p g)=lns at*;have:∀c,(Op.stringOp .add ⟨#[104,49,58]⟩ su).run F c=ω (G (⟨#[104,49,58]⟩++su)) c:=λc=>WR c _ _<|by show 3+su.size<=_;omega
  generalize(⟨#[104,49,58]⟩:Y)++su=fin at*;go_wp2_with fail;refine(c0 _).mono ?_;rintro r w5 ⟨rfl,a9⟩;have c:=H<|Ag.trans HO a9;clear c0 a9 HO;go_wp2_with fail;refine(d4 _).mono ?_;rintro r w6 ⟨rfl,g0⟩;have d3:=H<|Ag.trans c g0;clear d4 g0 c;go_wp2;go_ret2;exact⟨d3,by rw[X h6];rfl⟩
def tj{p:Y}{a:It}(h:MU p a):aV (LB p a)=Gt a:=by
 obtain⟨_,_,_,c,b⟩:=a;unfold aV Gt Ib LB XQ;simp only;rcases h.way with h|h
 .simp only at h;subst h;by_cases e:b.size=c
  .simp[e]
  simp[e]
 simp only at h;subst h;by_cases e:(AB b).2.2=0/\(AB b).2.1=b.size/\(AB b).1.size=c
 .simp[e]
 simp[e]
def FO(s v a:Y)(hs:s.size<=2000000)(hv:v.size<=2000000)(ha:a.size<=9223372036854775807)(w:U):μ F 45 #[G s,G v,G a] w λr w'=>Am w w'/\Lo w w' r (Bu s v a):=by
 have y:=H<|Tf s v hs hv w;cases c:GL s v with
 |none=>
  exact agb
 |some p=>
  have m:C<|Bu s v a=Kl p a:=by unfold C Bu;rw[c]
  have t:=IZ c;have o:=py c;have H2:=H λW=>OG s v hs hv W;rw[<-PP c] at H2;rw[c] at y;by_cases hz:40000<a.size
  .have a7:(40000:Z)<(a.size:Z):=A;have HR:C<|Bu s v a=([],1):=by unfold C;rw[X m,Kl,Wz hz]
   go_in;go_wp2_with fail;apply y.mono;rintro r w1 ⟨rfl,q⟩;have u:=H q;go_wp2;go_ret2;exact⟨u,by rw[X HR];exact .inr ⟨Ac,rfl⟩⟩
  have a7:¬(40000:Z)<(a.size:Z):=A;have H3:=H λW=>xQ a p A W;rw[qc o t A] at H3;cases d:Fo p a with
  |none=>
   have HR:C<|Bu s v a=([],7):=by unfold C;rw[X m,Kl,Wx hz,d]
   rw[d] at H3;go_in;go_wp2_with fail;apply y.mono;rintro r w1 ⟨rfl,q⟩;have u:=H q;go_wp2_with fail;apply(H2 _).mono;rintro r w2 ⟨rfl,rfl⟩;go_wp2_with fail;apply(H3 _).mono;rintro r w3 ⟨x,x3,rfl⟩;have z:=H<|Ag.trans u x;go_wp2;go_ret2;exact⟨z,by rw[X HR];exact .inr ⟨Ac,rfl⟩⟩
  |some its=>
   obtain⟨-,o, -,a7⟩:=Tw t A d;have a8:C (∀i,i<its.length->(its.getD i BS).packed.size<=100000000/\(Gt<|its.getD i BS).1.size<=140737488355328):=λi hi=>by
    have h1:=(Tc d A).1 _<|ON its i hi;exact⟨by have:=h1.2.2.2.2;omega,Vm _ h1⟩
   have a9:=H o;have l:C (Bu s v a=if Be its (λ_=>O) 0=0 then FV its [] else([],Be its (λ_=>O) 0)):=by unfold C;rw[X m,Kl,Wx hz,d]
   rw[d] at H3;have H4:=H λao g k j W e=>xT p t its a7 o ao g k j W e;have b0:C (Be its (λ_=>O) 0<=5):=NI its _ 0;generalize Be its (λ_=>O) 0=hd at*;have:hd<=5:=b0;go_in;go_wp2_with fail;apply y.mono;rintro r w1 ⟨rfl,q⟩;have u:=H q;go_wp2_with fail;apply(H2 _).mono;rintro r w2 ⟨rfl,rfl⟩;go_wp2_with fail;apply(H3 _).mono;rintro r w3 ⟨x,x3,rfl,b1⟩;obtain⟨ao,g,k,rfl,j,f⟩:=b1.any;simp only[wX] at j f ⊢;have z:=H<|Ag.trans u x;have b2:=H f;have b3:=H j;have H4:=H<|H4 ao g k j w3 f;go_wp2_with fail;apply H4.mono;rintro r w4 ⟨rfl,a1⟩;have a2:C<|0<its.length->PV w4 g (its.map<|LB p):=λh=>(b2 h).old a1
   have n:=H<|Ag.trans z a1;by_cases D:hd=0
   .subst D;have l:=H<|l.trans (Wz rfl);have b4:=H<|gY.start its;have b5:=H (Nx.start (Ag.refl (λ_=>False) w4));go_wp2;go_loopw [12,13,14,15] (λo t _ _ wr=>∃(i:N) (e:E Fl) (ao:Option Addr) (k:N),i<=its.length/\o=K ao e.length k/\t=I Q (i:Z)/\C (gY its i e)/\C (Nx w4 wr (K ao e.length k) e)) (λ_ k _ _ _=>its.length-(intOf k).toNat)
    .exact ⟨0,[],O,0,A,rfl,rfl,b4,b5⟩
    obtain⟨i,e,oo,oc,hi,rfl,rfl,HS,L⟩:=hrel;have:e.length<=60:=by have:=HS.len;omega
    by_cases O6:i<its.length
    .have a3:(i:Z)<its.length:=A;have j:=b3 A;subst j;have f:=((a2 A).old L.2.2) i (by rw[wX];exact O6);rw[Mo p its i O6] at f;have d:=a9 _<|ON its i O6;obtain⟨j,o⟩:=a8 i O6;have k:=H<|tj d;have b6:=H λh=>HS.next O6 h;have b7:=H λh=>HS.fault O6 h;have a4:=H (λW=>kM (p++(its.getD i BS).name) (its.getD i BS).way (its.getD i BS).check (its.getD i BS).packed.size (its.getD i BS).size (its.getD i BS).packed j d.way (by have:=d.size;omega) W);have j:aV ⟨p++(its.getD i BS).name,(its.getD i BS).way,(its.getD i BS).check,(its.getD i BS).packed.size,(its.getD i BS).size,(its.getD i BS).packed⟩=Gt (its.getD i BS):=X k;rw[j] at a4;have:=d.name;have:(Gt<|its.getD i BS).2<=8:=ib _;have:∀W,(Instr.slice 9 (G<|p++(its.getD i BS).name) (J<|I Q (p.size:Z)) O O).run F W=ω (G (its.getD i BS).name) W:=λW=>ahK
     generalize Gt (its.getD i BS)=dt at*;obtain⟨dd,de⟩:=dt;simp only at*;generalize its.getD i BS=it at*;obtain⟨nm,wy,ck,sz,pk⟩:=it;simp only[LB] at*;generalize p++nm=pn at*;obtain⟨c0,c1,c2,c3,c4,c5⟩:=f;go_wp2_with fail;apply(a4 _).mono;rintro r w5 ⟨rfl,R⟩;have c0:=Ap R c0;have a5:C<|Nx w4 w5 (K oo e.length oc) e:=⟨Au.old L.1 R,L.2.1,L.2.2.trans R⟩;by_cases S:de=0
     .subst S;have b9:=H<|b6 rfl;have c6:(e++[(nm,dd)]).length=e.length+1:=Ad;go_wp2_with (at_builtin;refine Ch rfl (.tmp 58) (.tmp 70) rfl _ _ e [(nm,dd)] rfl rfl (a5.alloc _) (.inr ⟨⟨w5.heap.size,0,O⟩,1,rfl,AD w5 [G nm,G dd] 38⟩) ako ?_;intro d e T c7;obtain⟨c8,a6,c9⟩:=T.form;subst c9;have d:=H T;clear T c7);go_roundw
      .exact ⟨i+1,_,c8,a6,A,by rw[c6],by go_num,b9,d⟩
      exact Ae
     have HA:=H<|l.trans (b7 S);have:((de:Z) !=0)=true:=akQ;have:¬(de:Z)=0:=A;have a0:=H<|n.trans a5.2.2;go_wp2;go_ret2;exact⟨a0,by rw[X HA];exact .inr ⟨S,rfl⟩⟩
    have:¬(i:Z)<its.length:=A;have HA:=H<|l.trans (HS.end A);have a0:=H<|n.trans L.2.2;have d0:=H n.size;go_wp2;go_ret2;exact⟨a0,by rw[X HA];exact .inl ⟨rfl,_,rfl,L.1,λb d=>WI d0<|L.2.1 b d⟩⟩
   have HA:=H<|l.trans (Wx D);have:((hd:Z) !=0)=true:=akQ
   have:¬(hd:Z)=0:=A;go_wp2;go_ret2;exact⟨n,by rw[X HA];exact .inr ⟨D,rfl⟩⟩
def eX(s v a t:Y)(m:s.size<=2000000)(n:v.size<=2000000)(j:a.size<=9223372036854775807)(w:U):μ F 49 #[G s,G v,G a,G t] w λr w'=>Am w w'/\r=ε (I Q (Lz s v a t:Z)):=by
 have o:=H<|FO s v a m n j w;have p:C (Lz s v a t=if(Bu s v a).2≠0 then(Bu s v a).2 else if(FY s v (Bu s v a).1).1=t then 0 else 9):=rfl;by_cases d:(Bu s v a).2=0
 .obtain ⟨g,_,x⟩:=MH d;have y:C (∀b e,Au b e (Bu s v a).1->μ F 47 #[G s,G v,e] b λr w'=>Am b w'/\r=ε (η #[G (FY s v (Bu s v a).1).1,I Q ((FY s v (Bu s v a).1).2:Z)])):=λb e f=>by
   obtain⟨z,h,D,rfl,i,j⟩:=f.fls;exact XW s v m n z h D _ A (λc f=>by have:=x c f;omega) i b j
  have HE:=H (p.trans (Wx λh=>h d));generalize(FY s v (Bu s v a).1).2=sn,(FY s v (Bu s v a).1).1=sm at*;have g:=TG sm t;generalize Lz s v a t=J1,Bu s v a=um at*;obtain⟨L,k⟩:=um;simp only at*;subst d;go_in;go_wp2_with fail;apply o.mono;rintro r q ⟨b,c⟩;rcases c with⟨-,e,rfl,f, -⟩|⟨P, -⟩
  .have h:=H<|y q e f;have u:=H b;go_wp2_with fail;apply h.mono;rintro r S ⟨l,rfl⟩;have T:=H<|Ag.trans u l;by_cases e:sm=t
   .rw[Wy e] at g;have HA:=H<|HE.trans (Wz e);exact agJ
   rw[Ww e] at g;have HA:=H<|HE.trans (Wx e);exact agJ
  exact κ rfl P
 have HE:=H<|p.trans (Wz d);have:=MI s v a;generalize Lz s v a t=J1,Bu s v a=um at*;obtain⟨L,k⟩:=um;simp only at*;have:((k:Z) !=0)=true:=akQ
 have:¬(k:Z)=0:=A;go_in;go_wp2_with fail;apply o.mono;rintro r q ⟨b,c⟩;rcases c with⟨R, -⟩|⟨-,rfl⟩
 .exact κ R d
 have u:=H b;exact ajP
def Lo.form{r:Ending}{a:E Fl×N}(h:Lo w w' r a):∃(u:M) (fs:E Fl),r=ε (η #[u,I Q (a.2:Z)])/\Au w' u fs/\(∀b,u.ownBlock=J b->w.heap.size<=b)/\fs=(if a.2=0 then a.1 else []):=by
 rcases h with⟨h0,u,rfl,c,d⟩|⟨h0,rfl⟩
 .exact ⟨u,a.1,by rw[h0];rfl,c,d,by rw[Wz h0]⟩
 exact⟨K O 0 0,[],rfl,WZ _ _ _ _,λb e=>(by cases e),by rw[Wx h0]⟩
def bj{c:N}{s:WS}{p j d:E (M×Y)}(hc:c<=99999990)(f:s.m.size<=2000000)(a0:s.v.size<=2000000)(a:Y)(ha:a.size<=9223372036854775807)(w:U)(h:CI w1 w b c s p j d)(hG:∀e,Ag (λk=>k=b) w1 e->Fr e):
 μ F 18 #[V<|J ⟨b,0,O⟩,G a] w λr w'=>r=ε (ζ θ)/\QL w1 w' b (c+1) s.base j d:=by
 have HL:=H h;have a1:w.cell? ⟨b,0,O⟩=J (G s.m):=by rw[Wu w b 0 _ _ (0,0) h.hp];rfl
 have a2:w.cell? ⟨b,1,O⟩=J (G s.v):=by rw[Wu w b 1 _ _ (0,0) h.hp];rfl
 have a3:w.cell? ⟨b,2,O⟩=J (G s.ar):=by rw[Wu w b 2 _ _ (0,0) h.hp];rfl
 have p:=h.inb;have o:C (∀e,Am w e->μ F 44 #[G s.m,G s.v,G a] e λr w'=>Am e w'/\Lo e w' r (Bu s.m s.v a)):=λe n=>Tg s.m s.v a f a0 ha e (hG e ((h.old n).only)).2 (hG e ((h.old n).only)).1.2
 have q:=H λe=>FO s.m s.v a f a0 ha e;have z:C (∀fs:E Fl,fs=(if(Bu s.m s.v a).2=0 then(Bu s.m s.v a).1 else [])->fs.length<=60):=λfs b9=>by
  rw[b9];by_cases p:(Bu s.m s.v a).2=0
  .rw[Wz p];exact(MH p).2.1
  rw[Wx p];exact wH _
 have a8:C<|s.base=s.base:=rfl;generalize hB:s.base=BB at a8 ⊢;have HB:=H hB;clear hB a8 h hG;obtain⟨u,hM⟩:∃u,s.m=u:=⟨_,rfl⟩;obtain⟨x,hV⟩:∃x,s.v=x:=⟨_,rfl⟩;obtain⟨P,hA⟩:∃P,s.ar=P:=⟨_,rfl⟩;rw[hM] at a1 o q z f;rw[hV] at a2 o q z a0;rw[hA] at a3;clear hM hV hA;obtain⟨R,a9⟩:∃R,R=w:=⟨_,rfl⟩;have c6:=MI u x a;generalize Bu u x a=um at*;obtain⟨_,un⟩:=um;simp only at*;have a4:∀l e :U,(l.cell? ⟨b,0,O⟩=J (G u)/\l.cell? ⟨b,1,O⟩=J (G x)/\l.cell? ⟨b,2,O⟩=J (G P)/\Am R l)->Am l e ->(e.cell? ⟨b,0,O⟩=J (G u)/\e.cell? ⟨b,1,O⟩=J (G x)/\e.cell? ⟨b,2,O⟩=J (G P)/\Am R e):=λl e h n=>⟨Ap n h.1,Ap n h.2.1,Ap n h.2.2.1,h.2.2.2.trans n⟩
 have e:w.drew.cell? ⟨b,0,O⟩=J (G u)/\w.drew.cell? ⟨b,1,O⟩=J (G x)/\w.drew.cell? ⟨b,2,O⟩=J (G P)/\Am R w.drew:=⟨a1,a2,a3,by rw[a9];exact(Ag.refl _ w).drew⟩;have o:=H<|o w.drew ((Ag.refl _ w).drew);clear a1 a2 a3;go_in;go_wp2_with fail;refine Ai (S:=λl=>l.cell? ⟨b,0,O⟩=J (G u)/\l.cell? ⟨b,1,O⟩=J (G x)/\l.cell? ⟨b,2,O⟩=J (G P)/\Am R l) (L:=14) B ?_;refine tk 0 15 (V<|J ⟨b,0,O⟩) 11 e ?_;refine tk 1 15 (V<|J ⟨b,0,O⟩) 12 e ?_;refine tk 2 15 (V<|J ⟨b,0,O⟩) 13 e ?_;refine tk 3 15 (G u) 14 e ?_;refine tk 4 15 (V<|J ⟨b,0,O⟩) 15 e ?_;refine tk 5 15 (V<|J ⟨b,0,O⟩) 16 e ?_;refine tk 6 15 (V<|J ⟨b,1,O⟩) 17 e ?_;refine tk 7 15 (G x) 18 e ?_;refine tk 8 15 (G a) 19 e ?_;refine Ah (i:=9) B ?_;refine WE rfl λ_ y=>?_;go_simp;apply o.mono;rintro r T ⟨n,hp⟩;obtain⟨u1,fs,rfl,b0,p,a5⟩:=hp.form;simp only at a5;have f:=a4 _ _ e n;refine y _ _ ⟨λ_=>f,?_⟩;clear y;refine tk 10 15 (η #[u1,I Q (un:Z)]) 10 f ?_;refine tk 11 15 u1 21 f ?_;refine tk 12 15 (I Q (un:Z)) 22 f ?_;refine tk 13 15 u1 5 f ?_;refine Ah (i:=14) B ?_;refine WE rfl λ_ y=>?_;go_simp;refine y _ _ ⟨λh=>κ rfl h,?_⟩;clear y;refine Aj B ?_;have c0:=H f;have q:=H<|q T.drew;have e:T.drew.cell? ⟨b,0,O⟩=J (G u)/\T.drew.cell? ⟨b,1,O⟩=J (G x)/\T.drew.cell? ⟨b,2,O⟩=J (G P)/\Am R T.drew:=⟨f.1,f.2.1,f.2.2.1,f.2.2.2.drew⟩;have b1:=H b0;have b2:=H p;have b3:C<|Am w T:=by have:=f.2.2.2;rw[a9] at this;exact this
 clear o b0 p n hp f;go_wp2_with fail;refine Ai (S:=λl=>l.cell? ⟨b,0,O⟩=J (G u)/\l.cell? ⟨b,1,O⟩=J (G x)/\l.cell? ⟨b,2,O⟩=J (G P)/\Am R l) (L:=14) B ?_;refine tk 0 15 (V<|J ⟨b,0,O⟩) 24 e ?_;refine tk 1 15 (V<|J ⟨b,0,O⟩) 25 e ?_;refine tk 2 15 (V<|J ⟨b,0,O⟩) 26 e ?_;refine tk 3 15 (G u) 27 e ?_;refine tk 4 15 (V<|J ⟨b,0,O⟩) 28 e ?_;refine tk 5 15 (V<|J ⟨b,0,O⟩) 29 e ?_;refine tk 6 15 (V<|J ⟨b,1,O⟩) 30 e ?_;refine tk 7 15 (G x) 31 e ?_;refine tk 8 15 (G a) 32 e ?_;refine Ah (i:=9) B ?_;refine WE rfl λ_ y=>?_;go_simp;apply q.mono;rintro r w3 ⟨n,hp⟩;obtain⟨u2,D,rfl,b4,c1,l⟩:=hp.form;simp only at l;have t:=a4 _ _ e n;refine y _ _ ⟨λ_=>t,?_⟩;clear y;refine tk 10 15 (η #[u2,I Q (un:Z)]) 23 t ?_;refine tk 11 15 u2 34 t ?_;refine tk 12 15 (I Q (un:Z)) 35 t ?_;refine tk 13 15 u2 7 t ?_;refine Ah (i:=14) B ?_;refine WE rfl λ_ y=>?_;go_simp;refine y _ _ ⟨λh=>κ rfl h,?_⟩;clear y;refine Aj B ?_;have c2:=l.trans a5.symm;subst c2;have a6:Am T w3:=(Ag.refl _ T).drew.trans n;have f:=z D l;have y:=H<|Au.old b1 a6;have b5:=H<|NF u1 u2 D A w3 y b4;have b6:=H<|b3.trans a6;obtain⟨c3,c4,c5⟩:=Dk y;subst c5;clear q t e c0 a4 b4 c1 n hp a6 a5 l b1 z b3;go_wp2_with fail;apply b5.mono;rintro r w4 ⟨rfl,a7⟩;have e:=H<|b6.trans a7;have f:=H<|Au.old y a7;have b7:=H (Ov (wq:=w) A w4 (HL.old e) c3 D.length c4 A (AK D) f (λg b9=>⟨b2 g b9,WI HL.only.size<|b2 g b9⟩) HL.rf.2.2);clear b5 a7 b6 y;go_wp2_with fail;apply b7.mono;rintro r w5 ⟨rfl, -,e⟩;have HX:C<|QL w1 w5 b (c+1) BB j d:=by rw[<-X HB];exact e
 clear b7 e;exact aeX
def zK:∀(n:N) (s:Y),s.size<=n-> ∃(a:E υ) (l:Y) (P:E Y),Ax s 47=P++[l]/\dk.bl s=a++dk.bl l/\(a=[]\/ ∃a',a=a'++[47]):=by
 intro n;induction n with
 |zero=>
  intro s c;have b:NC s:=λ_ _=>akX
  exact⟨[],s,[],CM b,rfl,.inl rfl⟩
 |succ n d=>
  intro s c;rcases Ju s with b|⟨x,r,e,rfl⟩
  .exact ⟨[],s,[],CM b,rfl,.inl rfl⟩
  rw[Or] at c;obtain⟨a,l,P,b,f,g⟩:=d r A;have h:dk.bl (jn x r)=dk.bl x++47::dk.bl r:=Gp x r;refine⟨dk.bl x++47::a,l,x::P,by rw[KC e,b];rfl,by rw[h,f];simp,.inr ?_⟩;rcases g with rfl|⟨a',rfl⟩
  .exact ⟨dk.bl x,rfl⟩
  exact⟨dk.bl x++47::a',Ad⟩
def kQ(h:dk.bl s=a++dk.bl l)(i:a=[]\/ ∃a',a=a'++[47]):Lib.hasSuffix s.data.toList PS.data.toList=(Γ (4<=l.size)&&Γ (l.extract (l.size-4) l.size=PS)):=by
 have j:s.data.toList=a++dk.bl l:=h;have h:PS.data.toList=[46,116,109,112]:=rfl;have d:=dk.Bi l;unfold Lib.hasSuffix;rw[j,h];by_cases f:4<=l.size
 .rw[Wy f,aas];have g:(a++dk.bl l).drop ((a++dk.bl l).length-4)=(dk.bl l).drop (l.size-4):=by
   rw[Ws,d,List.drop_append,abK A,aan];congr 1;omega
  by_cases b:l.extract (l.size-4) l.size=PS
  .rw[Wy b,aaQ,List.suffix_iff_eq_drop];show _=(a++dk.bl l).drop ((a++dk.bl l).length-4);rw[g,<-dk.Se,b]
  rw[Ww b];cases e:[46,116,109,112].isSuffixOf<|a++dk.bl l
  .rfl
  exfalso;have c:=List.suffix_iff_eq_drop.1<|aaQ.1 e;have d:=c.trans g;apply b;apply dk.Dx;rw[dk.Se,<-d]
 rw[Ww f,aco];cases e:[46,116,109,112].isSuffixOf<|a++dk.bl l
 .rfl
 exfalso;have c:[46,116,109,112]=(a++dk.bl l).drop ((a++dk.bl l).length-4):=List.suffix_iff_eq_drop.1<|aaQ.1 e;rcases i with rfl|⟨a',rfl⟩
 .have:=hJ List.length c;simp at this;omega
 have b:(47:υ)∈((a'++[47])++dk.bl l).drop (((a'++[47])++dk.bl l).length-4):=by
  rw[WG,List.drop_append_of_le_length ako];simp
 rw[<-c] at b;exact κ b Ac
def kR{x:Y}:((⟨#[]⟩:Y).toList==x.toList)=Γ (x=⟨#[]⟩):=by
 by_cases h:x=⟨#[]⟩
 .rw[h];simp
 rw[Ww h,WA];intro e;apply h;apply aaj;rw[ByteArray.toList_eq,ByteArray.toList_eq] at e;exact(abf.1 e).symm
def kS(h:dk.bl s=a++dk.bl l)(b:a=[]\/ ∃a',a=a'++[47]):Do s=((Ax s 47).all (λx=> !Γ (x=⟨#[]⟩))&&(Γ (s.size<=80)&&(!Γ (4<=l.size)|| !Γ (l.extract (l.size-4) l.size=PS)))):=by
 unfold Do;rw[kQ h b,<-IW s.size s (WF _)];have b:(!(Ax s 47).any λz=>(⟨#[]⟩:Y).toList==z.toList)=(Ax s 47).all (λx=> !Γ (x=⟨#[]⟩)):=by
  rw[List.not_any_eq_all_not];congr 1
  funext z
  rw[kR]
 rw[b];cases(Ax s 47).all (λx=> !Γ (x=⟨#[]⟩))<;>cases Γ (s.size<=80)<;>cases Γ (4<=l.size)<;>cases Γ (l.extract (l.size-4) l.size=PS)<;>rfl
def Ru(s:Y)(hs:s.size<=2000000)(w:U):μ F 106 #[G s] w λr w'=>r=ε (ζ<|Do s)/\Am w w':=by
 obtain⟨a,l,P,hp,hb,ha⟩:=zK s.size s<|WF _;have b:=H<|kS hb ha;have H1:=H<|Jt s 47 hs w;have:l.size<=s.size:=EV (by rw[hp];simp);have p:C ((Ax s 47).getD ((Ax s 47).length-1) ⟨#[]⟩=l):=by unfold C;rw[hp];simp
 have:=Dm s 47;have:=EU s 47;have a0:C (∀x∈Ax s 47,x.size<=s.size):=λx o=>EV o
 generalize Do s=J1,Ax s 47=L at*;clear hp hb ha;obtain⟨n,hn⟩:∃n,L.length=n+1:=⟨L.length-1,A⟩;have:(L.length:Z)-1=(n:Z):=A;have q:n<L.length:=A;have a1:C<|L.length-1=n:=by unfold C;omega
 clear hn;go_in;go_wp2_with fail;apply H1.mono;rintro e w1 ⟨_,rfl,t,ho⟩;have u:=H t;have HO:=H ho;obtain⟨ao,a2,v,_,_⟩:=t;subst v;clear ho H1;go_wp2;go_loopw [4] (λx wr=>∃i:N,i<=L.length/\x=I Q i/\C (Fx w wr (K ao L.length a2) L)/\C (Am w wr)/\C (∀j (h:j<L.length),j<i->L[j]≠⟨#[]⟩)) λx _=>L.length-(intOf x).toNat
 .exact ⟨0,A,rfl,u,HO,λj _ h=>A⟩
 obtain⟨i,_,rfl,u,HO,HT⟩:=hrel;by_cases y:i<L.length
 .have D:(i:Z)<L.length:=A;obtain⟨g,cp,v,hc,_⟩:=u.cell i y;injection v with d a3 f;subst d f;have k:C (L[i]≠⟨#[]⟩-> ∀j (h:j<L.length),j<i+1->L[j]≠⟨#[]⟩):=λh j hj _=>agX
  have HN:C<|L[i]=⟨#[]⟩->J1=ι:=λh=>by
   rw[X b,aaR.2 ⟨L[i],WJ y,by rw[h];simp⟩];rfl
  generalize L[i]=z at*;by_cases c:z=⟨#[]⟩
  .have R:=HN c;subst R;have t:z.toList.isEmpty=true:=by rw[c,Lib.toList_data];rfl
   have y:(z.toList==[])=true:=by rw[c,Lib.toList_data];rfl
   clear c k HN HT b;exact aeF
  have R:=H<|k c;have:z.toList.isEmpty=false:=by
   rw[Lib.toList_data,List.isEmpty_eq_false_iff];intro e;exact c<|aaj (abf.1 e)
  have:(z.toList==[])=false:=by
   rw[Lib.toList_data,WA];intro e;exact c<|aaj (abf.1 e)
  clear c k HN HT;go_wp2;go_roundw
  .exact ⟨i+1,A,by go_num,u,HO,R⟩
  exact Ae
 have:¬(i:Z)<L.length:=A;have S:C (L.all (λx=> !Γ (x=⟨#[]⟩))=θ):=wC.2 λx o=>by
  obtain⟨j,hj,e⟩:=wF o;have c:=HT j hj A;rw[e] at c;rw[Ww c];rfl
 rw[X S,aas] at b;obtain⟨g,cp,v,hc,_⟩:=u.cell n q;injection v with d a3 f;subst d f;have c:L[n]=l:=by
  have h:=X p;rw[X a1,Wq,Wv q] at h;exact h
 rw[c] at hc;clear c p a0 HT S;by_cases o:s.size<=80
 .have x:(s.size:Z)<=80:=A;by_cases h4:4<=l.size
  .have a4:¬(l.size:Z)<4:=A;have:(l.size:Z)-4=((l.size-4:N):Z):=A;have:l.size-4<=l.size:=A;rw[Wy o,Wy h4,aas] at b;have T:((l.extract (l.size-4) l.size).toList==[46,116,109,112])=Γ (l.extract (l.size-4) l.size=PS):=Fw _ _;generalize l.size-4=m at*;generalize Γ (l.extract m l.size=PS)=bq at*;have HE:C<|J1= !bq:=by rw[X b];rfl
   clear b;go_wp2;go_ret;exact⟨by rw[X HE,<-T];rfl,HO⟩
  have:(l.size:Z)<4:=A;rw[Wy o,Ww h4,aas] at b;have HE:C<|J1=θ:=by rw[X b];rfl
  clear b;exact ahZ
 have:¬(s.size:Z)<=80:=A;rw[Ww o,aco] at b;have HE:=H<|X b;clear b;exact ahZ
def Gw(D:dk.AX)(M V a P:Y)(k:N)(D':dk.AX):Prop:=
 if Do P=ι then k=10/\D'=D else if(Bu M V a).2≠0 then k=(Bu M V a).2/\D'=D else Ml D P (Bu M V a).1 k D'
def Ie{D:dk.AX}(h:dk.Ao w b v D)(a:Am w w'):dk.Br w w' b v D:=⟨v,h.kept (Uc a) (λx=>x) λ_ _ x=>x,Uc (a.mono λ_ _ x=>x.elim),.inl rfl⟩
def Jb{D2:dk.AX}(a:Am w w1)(c:dk.Br w1 w2 b v D2):dk.Br w w2 b v D2:=by
 obtain⟨d,e,f,g⟩:=c;exact⟨d,e,Uc ((a.mono λ_ _ x=>x.elim).trans<|kH f),g.imp id λh k c=>WI a.size<|h k c⟩
def Hp{D:dk.AX}(hg:dk.Go D)(hl:D.ts.length<=99999800000)(d f a P:Y)(m:d.size<=2000000)(T:f.size<=2000000)(ha:a.size<=9223372036854775807)(S:P.size<=2000000)(hd:dk.Ao w b v D)(hm:∀g,Am w g->Cf g/\DF g):
 μ F 53 #[V<|J ⟨b,0,O⟩,G P,G d,G f,G a] w λe w'=>∃(k:N) (h :dk.AX),e=ε (I Q (k:Z))/\Gw D d f a P k h /\dk.Br w w' b v h :=by
 have y:=H<|pO P A w (hm w<|Ag.refl _ w).1;have HD:=H hd;cases c:Do P with
 |false=>
  rw[c] at y;have HA:C<|Gw D d f a P 10 D:=by unfold C Gw;rw[Wz c];exact⟨rfl,rfl⟩
  exact agD
 |true=>
  rw[c] at y;obtain⟨l,S⟩:=Mj c;have z:=H λg i=>Tg d f a m T ha g (hm g i).1 (hm g i).2;have:=MI d f a;by_cases j:(Bu d f a).2=0
  .have m:=Rr j;have HA:C (∀k h,Ml D P (Bu d f a).1 k h ->Gw D d f a P k h):=λk h n=>by unfold Gw;rw[Wx (by rw[c];simp),Wx<|by rw[j];simp];exact n
   have n:C (∀g o,Am w g->Au g o (Bu d f a).1->(∀k,o.ownBlock=J k->w.heap.size<=k)->μ F 105 #[V<|J ⟨b,0,O⟩,G P,o] g λe w'=>∃(k:N) (h :dk.AX),e=ε (I Q (k:Z))/\Ml D P (Bu d f a).1 k h /\dk.Br g w' b v h):=λg o i L g=>by
    have:=hd.lt;have T:=hd.2.1.block_lt;refine xO hg hl l S m (hd.kept (Uc i) (λx=>x) λ_ _ x=>x) L λk j=>?_;have:=g k j;exact⟨λe=>by have:=T k e;omega,A⟩
   clear hm c hd hg m l;generalize Bu d f a=um at*;obtain⟨ul,R⟩:=um;simp only at*;subst j;go_in;go_wp2_with fail;apply y.mono;rintro r w1 ⟨rfl,q⟩;have i:=H q;have o:=H<|z w1 q;clear q y z;go_wp2_with fail;apply o.mono;rintro r w3 ⟨g,h⟩;obtain⟨a1,fs,rfl,L,p,s⟩:=h.form;have t:fs=ul:=s;subst t;have u:=H<|i.trans g;have H4:=H (n w3 a1 u L λk j=>WI i.size<|p k j);clear g h L p s o n;go_wp2_with fail;apply H4.mono;rintro r w4 ⟨k,D4,rfl,x,m⟩;have a0:=H<|Jb u m;have HX:=H<|HA k D4 x;clear m x H4 HA;go_wp2;go_ret;exact⟨k,D4,rfl,HX,a0⟩
  have HA:C<|Gw D d f a P (Bu d f a).2 D:=by unfold C Gw;rw[Wx (by rw[c];simp),Wz j];exact⟨rfl,rfl⟩
  clear hm c hd hg l;generalize Bu d f a=um at*;obtain⟨ul,R⟩:=um;simp only at*;have:((R:Z) !=0)=true:=akQ
  have:¬(R:Z)=0:=A;go_in;go_wp2_with fail;apply y.mono;rintro r w1 ⟨rfl,q⟩;have i:=H q;have o:=H<|z w1 q;clear q y z;go_wp2_with fail;apply o.mono;rintro r w3 ⟨g,h⟩;obtain⟨a1,fs,rfl, -, -, -⟩:=h.form;have HT:=H<|Ie HD (i.trans g);clear g h o;go_wp2;go_ret;exact⟨R,D,rfl,HA,HT⟩
def MV(D:dk.AX)(P:Y)(k:N)(D':dk.AX):Prop:=if Do P=ι then k=10/\D'.ts=D.ts/\dk.Go D' else k=0/\dk.Ll 0 D (BO P) θ D'
def Hq{D:dk.AX}(hg:dk.Go D)(P:Y)(j:P.size<=2000000)(hd:dk.Ao w b v D)(hm:Cf w):
 μ F 55 #[V<|J ⟨b,0,O⟩,G P] w λe w'=>∃(k:N) (f :dk.AX),e=ε (I Q (k:Z))/\MV D P k f /\dk.Br w w' b v f :=by
 have y:=H<|pO P A w hm;have HD:=H hd;cases c:Do P with
 |false=>
  rw[c] at y;have HA:C<|MV D P 10 D:=by unfold C MV;rw[Wz c];exact⟨rfl,rfl,hg⟩
  exact agD
 |true=>
  rw[c] at y;have g:=(Mj c).2;have HA:C (∀f,dk.Ll 0 D (BO P) θ f ->MV D P 0 f):=λf h=>by unfold MV;rw[Wx<|by rw[c];simp];exact⟨rfl,h⟩
  have f:=H λh (j:Am w h)=>xP hg g (hd.kept (Uc j) (λx=>x) λ_ _ x=>x);clear hm c hd hg;go_in;go_wp2_with fail;apply y.mono;rintro r w1 ⟨rfl,q⟩;have i:=H<|f w1 q;have h:=H q;clear q y f;go_wp2_with fail;apply i.mono;rintro r l ⟨rfl,d,f,g⟩;have a:=H<|Jb h g;have HX:=H<|HA d f;clear g f i HA;exact ail
def Rv(W0 w:U)(b:N)(v u:M)(fs:E Fl)(D:dk.AX):Prop:= ∃vi,dk.Ao w b vi D/\Au w u fs/\(∀k,u.ownBlock=J k->vi.ownBlock≠J k/\k≠b)/\∀w2 D2,dk.Br w w2 b vi D2->dk.Br W0 w2 b v D2
def Rv.files{a:E Fl}{D:dk.AX}(h:Rv c w b v u a D):Au w u a:=by obtain⟨_,_,h,_⟩:=h;exact h
def Rv.turn{a:M}{e:E Fl}{D D2:dk.AX}(h:Rv c w b v u e D)(d:dk.Ao w b a D)(f:dk.Br w w2 b a D2):Rv c w2 b v u e D2:=by
 obtain⟨c,e,g,i,j⟩:=h;have k:c=a:=by
  have a:=e.cells.1;rw[d.cells.1] at a;exact(WX a).symm
 subst k;obtain⟨a,c,d,e,h⟩:=NK f g i;exact⟨a,c,d,e,λc d a=>j c d<|h c d a⟩
def Rv.old{a:E Fl}{D:dk.AX}(h:Rv c w b v u a D)(d:Am w w2):Rv c w2 b v u a D:=by
 obtain⟨a,c,e,f,g⟩:=h;exact⟨a,c.kept (Uc d) (λx=>x) λ_ _ x=>x,e.old d,f,λa c e=>g a c<|Jb d e⟩
def Rv.fin{a:E Fl}{D:dk.AX}(h:Rv c w b v u a D):dk.Br c w b v D:=by
 obtain⟨_,a,_,_,c⟩:=h;exact c w D<|Ie a (Ag.refl _ w)
def Rv.start{a:E Fl}{D:dk.AX}(h:dk.Ao w b v D)(c:Au w u a)(d:∀k,u.ownBlock=J k->v.ownBlock≠J k/\k≠b):Rv w w b v u a D:=⟨v,h,c,d,λ_ _ h=>h⟩
def bp{ts:E dk.Th}{u:Y}{r:E υ}(b:dk.Vp<|dk.bl P)(e:dk.bl P=dk.bl u++47::r)(h:47∉r):Ej ts P=Γ (dk.BW ts u=2):=by
 obtain⟨c,a⟩:=aS b e h;unfold Ej;rw[c];simp only;rw[Ww a,acU]
def tn{R:dk.AX}(hg:dk.Go R)(hl:R.ts.length<=99999800000)(a0 a1 a P:Y)(hM:a0.size<=2000000)(hV:a1.size<=2000000)(ha:a.size<=9223372036854775807)(a3:Do P=θ)(hk:(Bu a0 a1 a).2=0)(h0:dk.BW R.ts P=0)(Y9:47∉dk.bl P)(hd:dk.Ao w b v R):
 μ F 54 #[V<|J ⟨b,0,O⟩,G P,G a0,G a1,G a] w λe w'=>∃(k:N) (D':dk.AX),e=ε (I Q (k:Z))/\Gw R a0 a1 a P k D'/\dk.Br w w' b v D':=by
 obtain⟨a4,c3⟩:=Mj a3;have c5:0<P.size:=by rw[<-dk.Bi];exact List.length_pos_iff.2 a4.1
 have H1:=H<|Ru P A w;rw[a3] at H1;have H2:=H λW=>FO a0 a1 a hM hV ha W;have a8:=Rr hk;have c5:=Ja P;have hps:P++⟨#[46,116,109,112]⟩=BO P:=rfl;have c5:=hd.lt;have HVB:=H<|hd.2.1.block_lt;have HD:=H hd;have t:=H λW h=>dk.Ct (w:=W) (b:=b) (v:=v) (D:=R) h P A;rw[h0] at t;have c:C (∀k D',Ml R P (Bu a0 a1 a).1 k D'->Gw R a0 a1 a P k D'):=λk D' h=>by unfold Gw;rw[Wx (by rw[a3];simp),Wx<|by rw[hk];simp];exact h
 have c7:=H hg;have a5:=H a8;have c5:=a8.len;have c8:=hg.ok.len;have a9:Ej R.ts P=true:=by unfold Ej;rw[aR a4 Y9];rfl
 have L:C<|Ud R P:=⟨hg,hl,a4,c3,h0,PU hg.ok.wf.srt a9⟩;have b1:C (∀T D',dk.Ll 0 R (BO P) θ T->dk.Wr T P (Rs (Bu a0 a1 a).1) (Bu a0 a1 a).1 D'->Gw R a0 a1 a P 0 D'):=λT D' h1 h2=>c 0 D'<|by unfold Ml;rw[Wx alo,Wx<|by rw[a9];simp];exact⟨rfl,T,h1,h2⟩
 have b2:C (∀z,z<P.size->As P z≠47):=λz hz e=>Y9<|List.mem_of_getElem? ((dk.SZ P z).1 e)
 clear hg hd a8 a3 a4 a9 Y9 h0 c;generalize Bu a0 a1 a=um at*;obtain⟨ul,_⟩:=um;simp only at*;subst hk;go_in;go_wp2_with fail;refine H1.mono ?_;rintro r w1 ⟨rfl,b3⟩;have b0:=H b3;have H3:=H<|H2 w1;clear b3 H1 H2;go_wp2_with fail;refine H3.mono ?_;rintro r w3 ⟨b4,b5⟩;obtain⟨c9,fs,rfl,hf,b6,b7⟩:=b5.form;have b9:fs=ul:=b7;subst b9;have a0:=b0.trans b4;have a3:∀k,c9.ownBlock=J k->v.ownBlock≠J k/\k≠b:=λk hk=>by
  have h1:=WI b0.size<|b6 k hk;exact aiv
 have a1:=HD.kept (Uc a0) (λx=>x) λ_ _ x=>x;have c2:=H<|t w3 a1;have a6:=H<|Rv.start a1 hf a3;have HTF:C (∀w2 D2,dk.Br w3 w2 b v D2->dk.Br w w2 b v D2):=λw2 D2 l=>Jb a0 l
 obtain⟨ao,cap,hu⟩:=Dk hf;clear b4 b5 hf b6 b7 H3 a0 a3 a1 t b0;subst hu;go_wp2_with fail;refine c2.mono ?_;rintro e w4 ⟨rfl,m,a0⟩;have a7:=H (a6.old (w2:=w4)<|by rw[a0];exact(Ag.refl _ w3).drewN m);clear a0 c2 a6;clear m;go_wp2;go_loopw [14] (λx wr=>∃z:Z,x=I Q z/\0<=z/\z<(P.size:Z)/\C (Rv w3 wr b v (K ao fs.length cap) fs R)) λx _=>(intOf x).toNat
 .exact ⟨(P.size:Z)-1,rfl,A,A,a7⟩
 obtain⟨c6,rfl,_,_,a2⟩:=hrel;clear a7;obtain⟨z,hz⟩:∃z:N,c6=(z:Z):=⟨c6.toNat,A⟩;subst hz;by_cases d0:0<z
 .have a0:(0:Z)<(z:Z):=A;have a1:z<P.size:=A;have hb:=AA (s:=P) (k:=z) a1;have U0:=b2 z a1;have K8:((As P z:Z)==47)=false:=act
  have K7:¬(As P z:Z)=47:=A;go_wp2;go_roundw
  .exact ⟨(z:Z)-1,by go_num,A,A,a2⟩
  exact Ae
 have a0:¬(0:Z)<(z:Z):=A;have HA:=H<|X b1;have U4:=a5;have G0:=a2;obtain⟨W5,c4⟩:∃W5,W5=wr:=⟨_,rfl⟩;subst c4;clear a2 b1 a5 b2;exact aen
def tp{R:dk.AX}(hg:dk.Go R)(hl:R.ts.length<=99999800000)(a3 a4 a P:Y)(hM:a3.size<=2000000)(hV:a4.size<=2000000)(ha:a.size<=9223372036854775807)(b0:Do P=θ)(hk:(Bu a3 a4 a).2=0)(h0:dk.BW R.ts P=0)(i0:N)(u0:Y)(r0:E υ)(d3:i0<P.size)(b5:P.extract 0 i0=u0)(a5:dk.bl P=dk.bl u0++47::r0)(hr0:47∉r0)(hd:dk.Ao w b v R):
 μ F 54 #[V<|J ⟨b,0,O⟩,G P,G a3,G a4,G a] w λe w'=>∃(k:N) (D':dk.AX),e=ε (I Q (k:Z))/\Gw R a3 a4 a P k D'/\dk.Br w w' b v D':=by
 obtain⟨a6,d3⟩:=Mj b0;have d9:0<P.size:=by rw[<-dk.Bi];exact List.length_pos_iff.2 a6.1
 have H1:=H<|Ru P A w;rw[b0] at H1;have H2:=H λW=>FO a3 a4 a hM hV ha W;have b6:=Rr hk;have d9:=Ja P;have hps:P++⟨#[46,116,109,112]⟩=BO P:=rfl;have d9:=hd.lt;have HVB:=H<|hd.2.1.block_lt;have HD:=H hd;have t:=H λW h=>dk.Ct (w:=W) (b:=b) (v:=v) (D:=R) h P A;rw[h0] at t;have c:C (∀k D',Ml R P (Bu a3 a4 a).1 k D'->Gw R a3 a4 a P k D'):=λk D' h=>by unfold Gw;rw[Wx (by rw[b0];simp),Wx<|by rw[hk];simp];exact h
 have e1:=H hg;have a7:=H b6;have d9:=b6.len;have e4:=hg.ok.len;have a1:=bp (ts:=R.ts) a6 a5 hr0;have b7:i0=(dk.bl u0).length:=by rw[<-b5,dk.FD,hY,dk.Bi];omega
 have d9:=(dk.SZ P i0).2 (by rw[a5,b7];simp);have d9:0<i0:=by
  rw[b7];have h:=a6;rw[a5] at h;exact List.length_pos_iff.2 h.left.1
 have b9:C (∀z,i0<z->z<P.size->As P z≠47):=λz d4 _ e=>by
  have h1:=(dk.SZ P z).1 e;rw[a5,WU A,show z-(dk.bl u0).length=(z-(dk.bl u0).length-1)+1 by omega,List.getElem?_cons_succ] at h1;exact hr0<|List.mem_of_getElem? h1
 have d7:=H λW h=>dk.Ct (w:=W) (b:=b) (v:=v) (D:=R) h u0 A;have L:C<|Ej R.ts P=θ->Ud R P:=λh=>⟨hg,hl,a6,d3,h0,PU hg.ok.wf.srt h⟩
 have c2:C (Ej R.ts P=θ-> ∀T D',dk.Ll 0 R (BO P) θ T->dk.Wr T P (Rs (Bu a3 a4 a).1) (Bu a3 a4 a).1 D'->Gw R a3 a4 a P 0 D'):=λa1 T D' h1 h2=>c 0 D'<|by unfold Ml;rw[Wx alo,Wx<|by rw[a1];simp];exact⟨rfl,T,h1,h2⟩
 have c3:C<|Ej R.ts P=ι->Gw R a3 a4 a P 12 R:=λa1=>c 12 R<|by unfold Ml;rw[Wx alo,Wz a1];exact⟨rfl,rfl⟩
 have b1:=H a1;clear hg hd b6 b0 a6 a1 h0 c a5 hr0 b7;generalize Bu a3 a4 a=um at*;obtain⟨ul,_⟩:=um;simp only at*;subst hk;go_in;go_wp2_with fail;refine H1.mono ?_;rintro r w1 ⟨rfl,c5⟩;have c4:=H c5;have H3:=H<|H2 w1;clear c5 H1 H2;go_wp2_with fail;refine H3.mono ?_;rintro r w3 ⟨c6,c7⟩;obtain⟨e5,fs,rfl,hf,c8,c9⟩:=c7.form;have d0:fs=ul:=c9;subst d0;have a1:=c4.trans c6;have a4:∀k,e5.ownBlock=J k->v.ownBlock≠J k/\k≠b:=λk hk=>by
  have h1:=WI c4.size<|c8 k hk;exact aiv
 have a3:=HD.kept (Uc a1) (λx=>x) λ_ _ x=>x;have d1:=H<|t w3 a3;have b2:=H<|Rv.start a3 hf a4;have HTF:C (∀w2 D2,dk.Br w3 w2 b v D2->dk.Br w w2 b v D2):=λw2 D2 l=>Jb a1 l
 obtain⟨ao,cap,hu⟩:=Dk hf;clear c6 c7 hf c8 c9 H3 a1 a4 a3 t c4;subst hu;go_wp2_with fail;refine d1.mono ?_;rintro e w4 ⟨rfl,m,a1⟩;have b3:=H (b2.old (w2:=w4)<|by rw[a1];exact(Ag.refl _ w3).drewN m);clear a1 d1 b2;clear m;go_wp2;go_loopw [14] (λx wr=>∃z:N,x=I Q (z:Z)/\i0<=z/\z<P.size/\C (Rv w3 wr b v (K ao fs.length cap) fs R)) λx _=>(intOf x).toNat
 .exact ⟨P.size-1,by go_num,A,A,b3⟩
 obtain⟨z,rfl,d4,a1,a0⟩:=hrel;clear b3;have a3:(0:Z)<(z:Z):=A;have hb:=AA (s:=P) (k:=z) a1;by_cases hzi:i0<z
 .have U0:=b9 z hzi a1;have K8:((As P z:Z)==47)=false:=act
  have K7:¬(As P z:Z)=47:=A;go_wp2;go_roundw
  .exact ⟨z-1,by go_num,A,A,a0⟩
  exact Ae
 have d8:z=i0:=A;subst d8;have K8:((As P z:Z)==47)=true:=akZ
 have K7:(As P z:Z)=47:=A;obtain⟨_,dr, -, -, -⟩:=X a0;have a8:=H<|dk.Ct dr u0 A;clear dr d7;by_cases a2:dk.BW R.ts u0=2
 .have a1:=b1.trans<|Wy a2;rw[a2] at a8;have HA:=H<|c2 a1;have L:=H<|L a1;have U4:=a7;clear a2 a1 c2 c3 b1 a7 b9;go_wp2_with fail;refine a8.mono ?_;rintro e W5 ⟨rfl,m,a9⟩;have G0:=H (a0.old (w2:=W5)<|by rw[a9];exact(Ag.refl _ _).drewN m);clear a9 a8 a0 b5;clear m;exact aen
 have b4:=b1.trans<|Ww a2;have HX:=H<|c3 b4;generalize dk.BW R.ts u0=io at*;have:(io !=2)=true:=by rw[wm];exact a2
 have:(io==2)=false:=by rw[WA];exact a2
 clear b4 c2 c3 b1 a7 b9 L;go_wp2_with fail;refine a8.mono ?_;rintro e W5 ⟨rfl,m,a9⟩;have HT5:=H (HTF _ _ (a0.old (w2:=W5)<|by rw[a9];exact(Ag.refl _ _).drewN m).fin);clear a9 a8 a0 b5;clear m;go_wp2;go_ret;exact⟨12,R,rfl,HX,HT5⟩
def Hr{R:dk.AX}(p:dk.Go R)(hl:R.ts.length<=99999800000)(f g a P:Y)(L:f.size<=2000000)(S:g.size<=2000000)(T:a.size<=9223372036854775807)(n:P.size<=2000000)(o:dk.Ao w b v R):
 μ F 54 #[V<|J ⟨b,0,O⟩,G P,G f,G g,G a] w λe w'=>∃(k:N) (D':dk.AX),e=ε (I Q (k:Z))/\Gw R f g a P k D'/\dk.Br w w' b v D':=by
 have j:=H<|Ru P A w;have HD:=H o;cases c:Do P with
 |false=>
  rw[c] at j;have q:C<|Gw R f g a P 10 R:=by unfold C Gw;rw[Wz c];exact⟨rfl,rfl⟩
  clear c o p;go_in;go_wp2_with fail;apply j.mono;rintro r w1 ⟨rfl,d⟩;have s:=H<|Ie HD d;clear d j;go_wp2;go_ret;exact⟨10,R,rfl,q,s⟩
 |true=>
  by_cases t:(Bu f g a).2=0
  .by_cases h0:dk.BW R.ts P=0
   .rcases aT P with⟨-,n⟩|⟨a2,a0,r, -,hi,hu,n,h3⟩
    .exact tn p hl f g a P L S T c t h0 n o
    exact tp p hl f g a P L S T c t h0 a2 a0 r hi hu n h3 o
   rw[c] at j;have u:=H λh=>FO f g a L S T h;have q:C<|Gw R f g a P 11 R:=by unfold C Gw;rw[Wx (by rw[c];simp),Wx<|by rw[t];simp];unfold Ml;rw[Wz h0];exact⟨rfl,rfl⟩
   have x:=H λh i=>dk.Ct (w:=h) (b:=b) (v:=v) (D:=R) i P A;clear c o p;generalize Bu f g a=um at*;obtain⟨ul,un⟩:=um;simp only at*;subst t;generalize dk.BW R.ts P=io at*;have:(io !=0)=true:=by rw[wm];exact h0
   have:(io==0)=false:=alE
   go_in;go_wp2_with fail;apply j.mono;rintro r w1 ⟨rfl,d⟩;have l:=H d;have y:=H<|u w1;clear d j u;go_wp2_with fail;apply y.mono;rintro r w3 ⟨h,i⟩;obtain⟨a0,fs,rfl, -, -, -⟩:=i.form;have n:=l.trans h;have z:=H (x w3 (HD.kept (Uc n) (λa1=>a1) λ_ _ a1=>a1));have a1:=H n;clear h i y n x l;go_wp2_with fail;apply z.mono;rintro e w4 ⟨rfl,m,n⟩;have s:=H (Ie HD (a1.trans (show Am w3 w4 by rw[n];exact(Ag.refl _ w3).drewN m)));clear n z;clear m;go_wp2;go_ret;exact⟨11,R,rfl,q,s⟩
  rw[c] at j;have u:=H λn=>FO f g a L S T n;have:=MI f g a;have q:C<|Gw R f g a P (Bu f g a).2 R:=by unfold C Gw;rw[Wx (by rw[c];simp),Wz t];exact⟨rfl,rfl⟩
  clear c o p;generalize Bu f g a=um at*;obtain⟨ul,un⟩:=um;simp only at*;have:((un:Z) !=0)=true:=akQ
  have:¬(un:Z)=0:=A;go_in;go_wp2_with fail;apply j.mono;rintro r w1 ⟨rfl,d⟩;have l:=H d;have y:=H<|u w1;clear d j u;go_wp2_with fail;apply y.mono;rintro r w3 ⟨h,i⟩;obtain⟨a0,fs,rfl, -, -, -⟩:=i.form;have s:=H<|Ie HD (l.trans h);clear h i y;go_wp2;go_ret;exact⟨un,R,rfl,q,s⟩
def Hs{R:dk.AX}(j:dk.Go R)(P:Y)(q:P.size<=2000000)(l:dk.Ao w b v R):
 μ F 56 #[V<|J ⟨b,0,O⟩,G P] w λe w'=>∃(k:N) (g :dk.AX),e=ε (I Q (k:Z))/\MV R P k g /\dk.Br w w' b v g :=by
 have h:=H<|Ru P A w;have n:=H l;cases c:Do P with
 |false=>
  rw[c] at h;have i:C<|MV R P 10 R:=by unfold C MV;rw[Wz c];exact⟨rfl,rfl,j⟩
  go_in;go_wp2_with fail;apply h.mono;rintro r m ⟨rfl,f⟩;have o:=H<|Ie n f;go_wp2;go_ret;exact⟨10,R,rfl,i,o⟩
 |true=>
  rw[c] at h;have:=(Mj c).2;have:=Ja P;have:P++⟨#[46,116,109,112]⟩=BO P:=rfl;have i:C (∀g,dk.Ll 0 R (BO P) θ g ->MV R P 0 g):=λg g=>by unfold MV;rw[Wx<|by rw[c];simp];exact⟨rfl,g⟩
  have p:=H λc (n:Am w c)=>dk.pV _ R (BO P) b v c (l.kept (Uc n) (λx=>x) λ_ _ x=>x) j OL A<|WF _;go_in;go_wp2_with fail;apply h.mono;rintro r m ⟨rfl,f⟩;have c:=H<|p m f;have g:=H f;go_wp2_with fail;apply c.mono;rintro r _ ⟨rfl,d,c,f⟩;have a:=H<|Jb g f;have HX:=H<|i d c;exact ail
def Gw.same{D R g i :dk.AX}{d f a:Y}(b:dk.Go D)(c:dk.Go R)(e:D.ts=R.ts)(h:Gw D d f a P k g)(o :Gw R d f a P k' i):k=k'/\g.ts=i.ts/\dk.Go g /\dk.Go i /\g.ts.length<=D.ts.length+5000:=by
 unfold Gw at h o;by_cases g:Do P=ι
 .rw[Wz g] at h o;exact afW
 rw[Wx g] at h o;by_cases i:(Bu d f a).2=0
 .have g:¬(Bu d f a).2≠0:=λx=>x i
  rw[Wx g] at h o;have g:=Rr i;unfold Ml at h o;have j:dk.BW R.ts P=dk.BW D.ts P:=by rw[e]
  have l:Ej R.ts P=Ej D.ts P:=by rw[e]
  rw[j,l] at o;by_cases h0:dk.BW D.ts P=0
  .have j:¬dk.BW D.ts P≠0:=λx=>x h0
   rw[Wx j] at h o;by_cases j:Ej D.ts P=ι
   .rw[Wz j] at h o;exact afW
   rw[Wx j] at h o;obtain⟨h1,n,l,j⟩:=h;obtain⟨h3,p,q,m⟩:=o;have r:n.ts=p.ts:=by rw[l.ts b.ok.wf.srt,q.ts c.ok.wf.srt,e]
   refine⟨by rw[h1,h3],j.ts_eq m r,j.go,m.go,?_⟩;have:=j.len;have:=Rt (Bu d f a).1 λf d=>(JT<|g.file f d).2;have:=g.len;have:=l.sub.length_le;omega
  rw[Wz h0] at h o;exact afW
 rw[Wz i] at h o;exact afW
def MV.same{D R c g :dk.AX}(f:dk.Go D)(i:dk.Go R)(e:D.ts=R.ts)(h:MV D P k c)(a :MV R P k' g):k=k'/\c.ts=g.ts/\dk.Go c /\dk.Go g /\c.ts.length<=D.ts.length:=by
 unfold MV at h a;by_cases d:Do P=ι
 .rw[Wz d] at h a;obtain⟨b,g,j⟩:=h;obtain⟨c,l,m⟩:=a;exact⟨by rw[b,c],by rw[g,l,e],j,m,by rw[g];omega⟩
 rw[Wx d] at h a;obtain⟨b,d⟩:=h;obtain⟨c,g⟩:=a;exact⟨by rw[b,c],by rw[d.ts f.ok.wf.srt,g.ts i.ok.wf.srt,e],d.go f,g.go i,d.sub.length_le⟩
end Go.Proofs.YtfpphfkcaplafaaGreatDoor
namespace Go.Proofs.YtfpphfkcaplafaaGreatDoor.dk
open Go.RowKit Go.Maps Go.Proofs.Tryz
def eY{ts:E Th}(h:Wf ts){nm:Y}(a:nm∈BH ts ⟨#[]⟩):∃c∈ts,bl c.p≠[]/\nm=c.p:=by
 have b:cE ts ⟨#[]⟩=true:=by
  unfold cE;exact aip
 unfold BH at a;rw[b,Wz rfl,BD] at a;obtain⟨c,d,rfl⟩:=wd.1 a;obtain⟨a, -⟩:=aaZ.1 d;obtain⟨_,f, -⟩:=h.up c a;refine⟨c,a,λe=>?_,?_⟩
 rotate_left
 .unfold Ka;exact aip
 rcases FE f with⟨-,a, -⟩|⟨_,a, -⟩
 .exact a e
 rw[e] at a;exact κ a.symm Ad
def cY(ts:E Th)(p:Y):LO ts p<=ts.length:=List.countP_le_length
def kT{D R:AX}(l:D.ts=R.ts)(f:TX 0 D)(a b:N)(va vb:M)(n:N)(ih:∀(p:Y) (w:U),Ao w a va D->Ao w b vb R->(bl p=[]/\D.ts.length+1<=n\/bl p≠[]/\LO D.ts p<=n)->p.size<=100000000000->μ F 57 #[V<|J ⟨a,0,O⟩,V<|J ⟨b,0,O⟩,G p] w λe w'=>e=ε (ζ θ)/\Ag (λ_=>False) w w')(p:Y)(w:U)(hA:Ao w a va D)(hB:Ao w b vb R)(hp:bl p=[]/\D.ts.length+1<=n+1\/bl p≠[]/\LO D.ts p<=n+1)(hz:p.size<=100000000000)(r:bl p=[]):
 μ F 57 #[V<|J ⟨a,0,O⟩,V<|J ⟨b,0,O⟩,G p] w λe w'=>e=ε (ζ θ)/\Ag (λ_=>False) w w':=by
 have a0:=H<|Lm f;have s:=H λk c=>Lm f k c;rw[l] at s;have S:=f.len;have:R.ts.length<=100000000000:=by rw[<-l];exact S
 have a2:=H l;have t:=H f;have a3:=H ih;have HA:=H hA;have HB:=H hB;have a4:D.ts.length<=n:=by
  rcases hp with⟨-,T⟩|⟨T, -⟩
  .omega
  exact κ r T
 have a5:p=⟨#[]⟩:=Dx r;subst a5;have a6:C (∀q∈BH D.ts ⟨#[]⟩,bl (⟨#[]⟩++q:Y)≠[]/\(⟨#[]⟩++q:Y).size<=100000000000/\LO D.ts (⟨#[]⟩++q)<=n):=λq d=>by
  obtain⟨a7,c,u,f⟩:=eY t.wf d;have e:(⟨#[]⟩++q:Y)=a7.p:=by rw[f];apply Dx;rw[Np];rfl
  rw[e];exact⟨u,t.sz a7 c,WI (cY _ _) a4⟩
 have x:=HA;have a8:=HB;have a9:=H (Ag.refl (λ_=>False) w);go_in;go_wp2_with fail;have b0:=H<|GE x ⟨#[]⟩ A A a0;have y:=H λj T=>GE (w:=j) (b:=b) (v:=vb) (D:=R) T ⟨#[]⟩ A A s;rw[<-X a2] at y;have:(BH D.ts ⟨#[]⟩).length<=100000000000:=ajX;generalize cE D.ts ⟨#[]⟩=okb,BH D.ts ⟨#[]⟩=L at*;go_wp2_with fail;apply b0.mono;rintro e w2 ⟨_,rfl,k,m⟩;obtain⟨_,_,rfl,b1⟩:=FU k;have b2:=H (x.kept m (λx=>x) λ_ _ x=>x);have z:=H (a8.kept m (λx=>x) λ_ _ x=>x);have b3:=H k;have b4:=H<|a9.trans m;have f:=H<|y w2 z;go_wp2_with fail;apply f.mono;rintro e w3 ⟨_,rfl,d,h⟩;obtain⟨_,_,rfl,b5⟩:=FU d;have b6:=H (b2.kept h (λx=>x) λ_ _ x=>x);have b7:=H (z.kept h (λx=>x) λ_ _ x=>x);have b9:=H (Gr b3 h λ_ _ x=>x);have c0:=H d;have J3:=H<|b4.trans h;go_wp2;go_loopw [16,17] (λx _ wr=>∃i:N,i<=L.length/\x=I Q i/\C (Ag (λ_=>False) w3 wr)) λx _ _=>L.length-(intOf x).toNat
 .exact ⟨0,A,rfl,Ag.refl _ w3⟩
 obtain⟨i,_,rfl,J2⟩:=hrel;by_cases o:i<L.length
 .have I8:(i:Z)<L.length:=A;obtain⟨g,hg⟩:=b1 A;subst hg;obtain⟨_,c1⟩:=b5 A;subst c1;have c:=GK (Gr b9 J2 λ_ _ x=>x) i o;have:=GK (Gr c0 J2 λ_ _ x=>x) i o;obtain⟨f,d,h⟩:=a6 (Cb L i)<|KG o;have c2:=H (b6.kept J2 (λx=>x) λ_ _ x=>x);have c3:=H (b7.kept J2 (λx=>x) λ_ _ x=>x);have P:=H λj k l=>a3 ((⟨#[]⟩:Y)++Cb L i) j k l (.inr ⟨f,h⟩) d;have:∀j,(Op.stringOp .add ⟨#[]⟩<|Cb L i).run F j=ω (G ((⟨#[]⟩:Y)++Cb L i)) j:=λj=>WR j _ _ (by rw[WC] at d;omega)
  generalize(⟨#[]⟩:Y)++Cb L i=a7,Cb L i=q at*;go_wp2_with fail;go_quiet (fail);go_upto_region 21 with fail;have d:Ag (λ_=>False) wr<|wr.drewN nq:=(Ag.refl _ wr).drewN nq;have c:=(d.cell (p:=⟨g,i,O⟩) (aF c) λx=>x).trans c;have j:=H<|P (wr.drewN nq) (c2.drewN nq) (c3.drewN nq);have q:=H<|J2.trans d;generalize wr.drewN nq=W1 at*;go_wp2_with fail;apply j.mono;rintro e w5 ⟨rfl,c4⟩;have O3:=H<|q.trans c4;exact ajc
 exact ahQ
def kU{D R:AX}(a9:D.ts=R.ts)(a5:TX 0 D)(a b:N)(f d:M)(n:N)(ih:∀(p:Y) (w:U),Ao w a f D->Ao w b d R->(bl p=[]/\D.ts.length+1<=n\/bl p≠[]/\LO D.ts p<=n)->p.size<=100000000000->μ F 57 #[V<|J ⟨a,0,O⟩,V<|J ⟨b,0,O⟩,G p] w λe w'=>e=ε (ζ θ)/\Ag (λ_=>False) w w')(p:Y)(w:U)(hA:Ao w a f D)(hB:Ao w b d R)(hp:bl p=[]/\D.ts.length+1<=n+1\/bl p≠[]/\LO D.ts p<=n+1)(hz:p.size<=100000000000)(b0:bl p≠[]):
 μ F 57 #[V<|J ⟨a,0,O⟩,V<|J ⟨b,0,O⟩,G p] w λe w'=>e=ε (ζ θ)/\Ag (λ_=>False) w w':=by
 have c7:=H<|Lm a5;have b5:=H λh hk=>Lm a5 h hk;rw[a9] at b5;have S:=a5.len;have:R.ts.length<=100000000000:=by rw[<-a9];exact S
 have b6:=H a9;have b7:=H a5;clear a5 a9;have c8:=H ih;have HA:=H hA;have HB:=H hB;clear ih hA hB;have b9:LO D.ts p<=n+1:=by
  rcases hp with⟨a4, -⟩|⟨-,a4⟩
  .exact κ a4 b0
  exact a4
 have:p.toList.isEmpty=false:=by rw[ByteArray.toList_eq,List.isEmpty_eq_false_iff];exact b0
 have:(p.toList==[])=false:=by rw[ByteArray.toList_eq,WA];exact b0
 have y:=H λh a4=>Mv (w:=h) (b:=a) (v:=f) (D:=D) a4 p A;have o:=H λh a4=>Mv (w:=h) (b:=b) (v:=d) (D:=R) a4 p A;have H3:=H λh a4=>Ct (w:=h) (b:=a) (v:=f) (D:=D) a4 p A;have H4:=H λh a4=>Ct (w:=h) (b:=b) (v:=d) (D:=R) a4 p A;rw[<-X b6] at o H4;by_cases h2:BW D.ts p=2
 .rw[h2] at H3 H4;obtain⟨t,ht,c0⟩:=MD (ts:=D.ts) (q:=p) (by rw[h2];decide);have:=hz;obtain⟨a2,hq⟩:∃a2,p++⟨#[47]⟩=a2:=⟨_,rfl⟩;have:a2.size=p.size+1:=by rw[<-hq,WC];rfl
  have c9:C (∀nm∈BH D.ts p,bl (a2++nm)≠[]/\(a2++nm).size<=100000000000/\LO D.ts (a2++nm)<=n):=λnm hm=>by
   obtain⟨d8,a6, -,a5, -⟩:=PJ b7.wf b0 hm;have e:a2++nm=Dn p nm:=by rw[<-hq];rfl
   have:=SW (nm:=nm) ht c0;rw[e];exact⟨by rw[DA];simp,by rw[<-a5];exact b7.sz d8 a6,A⟩
  have c1:a2.toList.isEmpty=false:=by
   rw[ByteArray.toList_eq,List.isEmpty_eq_false_iff];intro e;have:a2.size=0:=by show a2.data.size=0;rw[<-wE,e];rfl
   omega
  have:(a2.toList==[])=false:=by rw[WA];intro e;rw[e] at c1;cases c1
  have:a2.extract 0 p.size=p:=by
   apply Dx;rw[FD,<-hq,Np,<-Bi,abn]
  have:∀h,(Op.stringOp .add p ⟨#[47]⟩).run F h=ω (G a2) h:=λh=>by rw[<-hq];exact WR h _ _<|by show p.size+1<=_;omega
  clear b9 ht c0 hp h2 hq;generalize Pe D.ts p=fi,RY D.ts p=rd at*;have r:=HA;have z:=HB;have HO0:=H (Ag.refl (λ_=>False) w);clear HA HB;go_in;go_wp2_with fail;apply(y w r).mono;rintro e w1 ⟨rfl,m,hw⟩;have U6:C<|Ao w1 a f D:=by rw[hw];exact r.drewN m
  have j:C<|Ao w1 b d R:=by rw[hw];exact z.drewN m
  have u:C (Ag (λ_=>False) w w1):=by rw[hw];exact HO0.drewN m
  clear hw r z HO0;clear m;go_wp2_with fail;apply(o w1 j).mono;rintro e w2 ⟨rfl,m,hw⟩;have c:C<|Ao w2 a f D:=by rw[hw];exact U6.drewN m
  have q:C<|Ao w2 b d R:=by rw[hw];exact j.drewN m
  have T:C (Ag (λ_=>False) w w2):=by rw[hw];exact u.drewN m
  clear hw U6 j u;clear m;go_wp2_with fail;apply(H3 w2 c).mono;rintro e w3 ⟨rfl,m,hw⟩;have k:C<|Ao w3 a f D:=by rw[hw];exact c.drewN m
  have l:C<|Ao w3 b d R:=by rw[hw];exact q.drewN m
  have J3:C (Ag (λ_=>False) w w3):=by rw[hw];exact T.drewN m
  clear hw c q T;clear m;go_wp2_with fail;apply(H4 w3 l).mono;rintro e w4 ⟨rfl,m,hw⟩;have s:C<|Ao w4 a f D:=by rw[hw];exact k.drewN m
  have x:C<|Ao w4 b d R:=by rw[hw];exact l.drewN m
  have J8:C (Ag (λ_=>False) w w4):=by rw[hw];exact J3.drewN m
  clear hw k l J3;clear m;go_wp2_with fail;apply(H3 w4 s).mono;rintro e w5 ⟨rfl,m,hw⟩;have HA5:C<|Ao w5 a f D:=by rw[hw];exact s.drewN m
  have P:C<|Ao w5 b d R:=by rw[hw];exact x.drewN m
  have O3:C (Ag (λ_=>False) w w5):=by rw[hw];exact J8.drewN m
  clear hw s x J8;clear m;have U6:=HA5;have j:=P;have u:=O3;clear y o H3 H4 HA5 P O3;have c2:=H<|GE U6 p A A c7;have b3:=H λh a4=>GE (w:=h) (b:=b) (v:=d) (D:=R) a4 p A A b5;rw[<-X b6] at b3;have:(BH D.ts p).length<=100000000000:=ajX;generalize cE D.ts p=okb,BH D.ts p=L at*;go_wp2_with fail;apply c2.mono;rintro e w2 ⟨_,rfl,a7,b1⟩;obtain⟨_,_,rfl,d0⟩:=FU a7;have c:=H (U6.kept b1 (λa3=>a3) λ_ _ a3=>a3);have q:=H (j.kept b1 (λa3=>a3) λ_ _ a3=>a3);have c3:=H a7;have T:=H<|u.trans b1;have c4:=H<|b3 w2 q;clear c2 b3 a7 b1 U6 j u;go_wp2_with fail;apply c4.mono;rintro e w3 ⟨_,rfl,a3,a8⟩;obtain⟨_,_,rfl,d1⟩:=FU a3;have k:=H (c.kept a8 (λa4=>a4) λ_ _ a4=>a4);have l:=H (q.kept a8 (λa4=>a4) λ_ _ a4=>a4);have d2:=H (Gr c3 a8 λ_ _ a4=>a4);have d3:=H a3;have J3:=H<|T.trans a8;clear c4 a3 a8 c q c3 T;go_wp2;go_loopw [16,17] (λa3 _ wr=>∃i:N,i<=L.length/\a3=I Q i/\C (Ag (λ_=>False) w3 wr)) λa3 _ _=>L.length-(intOf a3).toNat
  .exact ⟨0,A,rfl,Ag.refl _ w3⟩
  obtain⟨i,_,rfl,J2⟩:=hrel;by_cases b4:i<L.length
  .have I8:(i:Z)<L.length:=A;obtain⟨g,hg⟩:=d0 A;subst hg;obtain⟨_,d4⟩:=d1 A;subst d4;have a6:=GK (Gr d2 J2 λ_ _ a3=>a3) i b4;have d5:=GK (Gr d3 J2 λ_ _ a3=>a3) i b4;obtain⟨a3,a4,a5⟩:=c9 (Cb L i)<|KG b4;have d6:=H (k.kept J2 (λa7=>a7) λ_ _ a7=>a7);have d7:=H (l.kept J2 (λa7=>a7) λ_ _ a7=>a7);have b2:=H λh h1 h2=>c8 (a2++Cb L i) h h1 h2 (.inr ⟨a3,a5⟩) a4;have:∀h,(Op.stringOp .add a2<|Cb L i).run F h=ω (G<|a2++Cb L i) h:=λh=>WR h _ _ (by rw[WC] at a4;omega)
   clear a3 a5;generalize a2++Cb L i=d8,Cb L i=nm at*;go_wp2_with fail;go_quiet (fail);go_upto_region 21 with fail;have hD:Ag (λ_=>False) wr<|wr.drewN nq:=(Ag.refl _ wr).drewN nq;have a6:=(hD.cell (p:=⟨g,i,O⟩) (aF a6) λh=>h).trans a6;have h:=H<|b2 (wr.drewN nq) (d6.drewN nq) (d7.drewN nq);have c5:=H<|J2.trans hD;clear hD b2 J2 d5;generalize wr.drewN nq=W1 at*;go_wp2_with fail;apply h.mono;rintro e w5 ⟨rfl,c6⟩;have O3:=H<|c5.trans c6;clear h c6 c5;exact ajc
  exact ahQ
 generalize BW D.ts p=io at*;have:(io !=2)=true:=by rw[wm];exact h2
 have:(io==2)=false:=by rw[WA];exact h2
 clear b9 hp;exact aeA
def fW{D R:AX}(i:D.ts=R.ts)(g:TX 0 D)(a b:N)(f d:M):∀(n:N) (p:Y) (w:U),Ao w a f D->Ao w b d R->(bl p=[]/\D.ts.length+1<=n\/bl p≠[]/\LO D.ts p<=n)->p.size<=100000000000->
 μ F 57 #[V<|J ⟨a,0,O⟩,V<|J ⟨b,0,O⟩,G p] w λe w'=>e=ε (ζ θ)/\Ag (λ_=>False) w w':=by
 have:=H<|Lm g;have S:=H λt L=>Lm g t L;rw[i] at S;have S:=g.len;have:R.ts.length<=100000000000:=by rw[<-i];exact S
 have t:=H i;have a0:=H g;clear g i;intro n;induction n with
 |zero=>
  intro p w hA hB hp hz;have L:bl p≠[]/\LO D.ts p<=0:=by
   rcases hp with⟨-,h⟩|h
   .omega
   exact h
  have h0:BW D.ts p=0:=Lh<|SX A;have:p.toList.isEmpty=false:=by rw[ByteArray.toList_eq,List.isEmpty_eq_false_iff];exact L.1
  have:(p.toList==[])=false:=by rw[ByteArray.toList_eq,WA];exact L.1
  have y:=H λg h=>Mv (w:=g) (b:=a) (v:=f) (D:=D) h p A;have o:=H λg h=>Mv (w:=g) (b:=b) (v:=d) (D:=R) h p A;have H3:=H λg h=>Ct (w:=g) (b:=a) (v:=f) (D:=D) h p A;have H4:=H λg h=>Ct (w:=g) (b:=b) (v:=d) (D:=R) h p A;rw[<-X t] at o H4;rw[h0] at H3 H4;have HA:=H hA;have HB:=H hB;clear hA hB L hp h0;exact aeA
 |succ n ih=>
  intro p w hA hB hp hz;by_cases g:bl p=[]
  .exact kT t a0 a b f d n ih p w hA hB hp hz g
  exact kU t a0 a b f d n ih p w hA hB hp hz g
end Go.Proofs.YtfpphfkcaplafaaGreatDoor.dk
namespace Go.Proofs.YtfpphfkcaplafaaGreatDoor
open Go.RowKit Go.Maps Go.Proofs.Tryz
def bu(w1 w:U)(b c:Nat)(S:WS)(RF RL RT:E<|M×Y)(N:Nat):Prop:= ∃z:Y,z.size<=N/\CI w1 w b c {S with ar:=z} RF RL RT
def JD(z:Y)(k:N)(h:k<=z.size):(z.extract 0 k).size=k:=akS
def NM(z:Y)(k:N)(h:k<=z.size):(z.extract k z.size).size=z.size-k:=akS
def tq{c:N}{S:WS}{o R g:E (M×Y)}(d p q:Z)(c0: -9223372036854775808<=q)(c1:q<=9223372036854775807)(s t:Y)(hs:s.size<=2000000)(x y:M)(c2:S.ar.size<=2000000000)(w:U)(h:CI w1 w b c S o R g):
 μ F 19 #[V<|J ⟨b,0,O⟩,.agg<|Ci d p q s t x y] w λr w'=>r=ε (η #[])/\bu w1 w' b c S o R g (S.ar.size+100):=by
 have hA:Am w<|w.alloc (.cells (Ci d p q s t x y) 41):=(Ag.refl _ w).alloc _;have u:=h.old hA;have a4:=WD w (.cells (Ci d p q s t x y) 41);have a5:(w.alloc (.cells (Ci d p q s t x y) 41)).cell? ⟨b,2,O⟩=J (G S.ar):=by rw[Wu _ b 2 _ _ (0,0) u.hp];rfl
 have b0:=WK _ b 2 _ _ u.hp;have:(w.alloc (.cells (Ci d p q s t x y) 41)).cell? ⟨w.heap.size,1,O⟩=J (I Q p):=by rw[Wu _ _ 1 _ _ (0,0) a4];rfl
 have:(w.alloc (.cells (Ci d p q s t x y) 41)).cell? ⟨w.heap.size,2,O⟩=J (I Q q):=by rw[Wu _ _ 2 _ _ (0,0) a4];rfl
 have d3:(w.alloc (.cells (Ci d p q s t x y) 41)).cell? ⟨w.heap.size,3,O⟩=J (G s):=by rw[Wu _ _ 3 _ _ (0,0) a4];rfl
 have:=u.inb;have P:C (∀(b2:U) (z:Y),Am (w.alloc (.cells (Ci d p q s t x y) 41)) b2->z.size<=S.ar.size+100->bu w1 (b2.setCell ⟨b,2,O⟩<|G z) b c S o R g (S.ar.size+100)):=λb2 z ho hz=>agC
 have f:C<|bu w1 (w.alloc (.cells (Ci d p q s t x y) 41)) b c S o R g (S.ar.size+100):=Exists.intro S.ar ⟨A,u⟩;have c3:S.ar.size+100<=S.ar.size+100:=WF _;clear h hA u a4;obtain⟨NN,hN⟩:∃NN,S.ar.size+100=NN:=⟨_,rfl⟩;rw[hN] at P f ⊢;obtain⟨m,b3⟩:∃m,S.ar=m:=⟨_,rfl⟩;rw[b3] at a5 c2 hN;clear b3 c3;unfold Ci at*;by_cases a0:m=⟨#[]⟩
 .have e1:(m.toList==[])=true:=by rw[show(m.toList==([]:E υ))=Γ (m=⟨([]:E υ).toArray⟩) from Fw m []];exact Wy a0
  clear a0;go_in;go_wp2_with fail
  (try simp only[Exit.inBlock,Exit.then])
  refine wI (abk rfl _ _ _) rfl ?_;exact⟨rfl,f⟩
 have:(m.toList==[])=false:=by rw[show(m.toList==([]:E υ))=Γ (m=⟨([]:E υ).toArray⟩) from Fw m []];exact Ww a0
 have b4:0<m.size:=by
  rcases aaD m.size with h|h
  .exact κ (aaj<|abv h) a0
  exact h
 have HP:=H λb2=>Sx q c0 c1 m.size b4 A b2;have:=Jo q b4;clear a0;generalize ES q m.size=k at*;by_cases hp:p=1
 .have a6:(p==1)=true:=by rw[hp];rfl
  have a7:(p==2)=false:=by rw[hp];rfl
  have a8:(p==3)=false:=by rw[hp];rfl
  have a9:(p==4)=false:=by rw[hp];rfl
  clear hp;by_cases a3:s=⟨#[]⟩
  .have g:(s.toList==[])=true:=by rw[show(s.toList==([]:E υ))=Γ (s=⟨([]:E υ).toArray⟩) from Fw s []];exact Wy a3
   clear a3;exact afg
  have g:(s.toList==[])=false:=by rw[show(s.toList==([]:E υ))=Γ (s=⟨([]:E υ).toArray⟩) from Fw s []];exact Ww a3
  have:0<s.size:=by
   rcases aaD s.size with h|h
   .exact κ (aaj<|abv h) a3
   exact h
  clear a3;obtain⟨v,n⟩:∃v,m.extract 0 k=v:=⟨_,rfl⟩;have z1:v.size=k:=by rw[<-n];exact JD m k A
  have b1:∀W,(Instr.slice 9 (G m) O (J<|I Q (k:Z)) O).run F W=ω (G v) W:=λW=>by have h:=aaN W 9 m underlying9 .i64 (k:Z) A A;rw[h,ww,n]
  have c4:IntKind.i64.wrap ((k:Z)+1)=(k:Z)+1:=by have h:=Aw (k+1) A;rw[aav] at h;exact h
  obtain⟨D,T⟩:∃D,m.extract (k+1) m.size=D:=⟨_,rfl⟩;have z4:D.size=m.size-(k+1):=by rw[<-T];exact NM m (k+1) A
  have b5:∀W,(Instr.slice 9 (G m) (J<|I Q ((k:Z)+1)) O O).run F W=ω (G D) W:=λW=>by have h:=aaz W 9 m underlying9 .i64 ((k:Z)+1) A A;rw[h,show((k:Z)+1).toNat=k+1 by omega,T]
  obtain⟨x2,U7⟩:∃x2,s.extract 0 1=x2:=⟨_,rfl⟩;have:x2.size=1:=by rw[<-U7];exact JD s 1 A
  have:∀W,(Instr.slice 9 (G s) O (J<|I Q 1) O).run F W=ω (G x2) W:=λW=>by have h:=aaN W 9 s underlying9 .i64 1 A A;rw[h];exact hJ (λg=>Result.ok (Value.string g) W) U7
  have a1:∀W,(Op.stringOp .add v x2).run F W=ω (G<|v++x2) W:=λW=>WR W _ _ A
  obtain⟨x3,a⟩:∃x3,v++x2=x3:=⟨_,rfl⟩;have c5:x3.size=v.size+x2.size:=by rw[<-a,WC]
  rw[a] at a1;clear a;have a2:∀W,(Op.stringOp .add x3 D).run F W=ω (G<|x3++D) W:=λW=>WR W _ _ A
  obtain⟨z,hz⟩:∃z,x3++D=z:=⟨_,rfl⟩;have zz:z.size=x3.size+D.size:=by rw[<-hz,WC]
  rw[hz] at a2;clear hz;have e:z.size<=NN:=A;clear n U7 T;go_in;go_wp2_with fail;generalize w.alloc (.cells #[I Q d,I Q p,I Q q,G s,G t,x,y] 41)=W,w.heap.size=ob at*;apply(HP _).mono;rintro r w3 ⟨rfl,rfl⟩;clear HP;have j:w3.drew.cell? ⟨ob,3,O⟩=J (G s)/\w3.drew.cell? ⟨b,2,O⟩=J (G m)/\w3.drew.frozen? ⟨b,2,O⟩=false:=⟨d3,a5,b0⟩;go_wp2_with fail;refine Ai (S:=λg=>g.cell? ⟨ob,3,O⟩=J (G s)/\g.cell? ⟨b,2,O⟩=J (G m)/\g.frozen? ⟨b,2,O⟩=ι) (L:=15) B ?_;refine tk 0 16 (V<|J ⟨b,0,O⟩) 24 j ?_;refine tk 1 16 (G m) 25 j ?_;refine tk 2 16 (I Q (k:Z)) 26 j ?_;refine tk 3 16 (G v) 27 j ?_;refine tk 4 16 (V<|J ⟨ob,3,O⟩) 28 j ?_;refine tk 5 16 (G s) 29 j ?_;refine tk 6 16 (G x2) 30 j ?_;refine tk 7 16 (G x3) 31 j ?_;refine tk 8 16 (G m) 32 j ?_;refine tk 9 16 (I Q (k:Z)) 33 j ?_;refine tk 10 16 (I Q ((k:Z)+1)) 34 j ?_;refine tk 11 16 (G D) 35 j ?_;refine tk 12 16 (G z) 36 j ?_;refine tk 13 16 (V<|J ⟨b,0,O⟩) 37 j ?_;refine tk 14 16 (V<|J ⟨b,2,O⟩) 38 j ?_;refine Ah (i:=15) B ?_;exact aff
 have b6:=hp;clear hp;by_cases hp:p=2
 .have a6:(p==1)=false:=by rw[hp];rfl
  have a7:(p==2)=true:=by rw[hp];rfl
  have a8:(p==3)=false:=by rw[hp];rfl
  have a9:(p==4)=false:=by rw[hp];rfl
  clear hp;by_cases g:s.size<100
  .have c6:(s.size:Z)<100:=A;obtain⟨v,n⟩:∃v,m.extract 0 k=v:=⟨_,rfl⟩;have z1:v.size=k:=by rw[<-n];exact JD m k A
   have b1:∀W,(Instr.slice 9 (G m) O (J<|I Q (k:Z)) O).run F W=ω (G v) W:=λW=>by have h:=aaN W 9 m underlying9 .i64 (k:Z) A A;rw[h,ww,n]
   obtain⟨D,T⟩:∃D,m.extract k m.size=D:=⟨_,rfl⟩;have z4:D.size=m.size-k:=by rw[<-T];exact NM m k A
   have b5:∀W,(Instr.slice 9 (G m) (J<|I Q (k:Z)) O O).run F W=ω (G D) W:=λW=>by have h:=aaz W 9 m underlying9 .i64 (k:Z) A A;rw[h,ww,T]
   have a1:∀W,(Op.stringOp .add v s).run F W=ω (G<|v++s) W:=λW=>WR W _ _ A
   obtain⟨x3,a⟩:∃x3,v++s=x3:=⟨_,rfl⟩;have:x3.size=v.size+s.size:=by rw[<-a,WC]
   rw[a] at a1;clear a;have a2:∀W,(Op.stringOp .add x3 D).run F W=ω (G<|x3++D) W:=λW=>WR W _ _ A
   obtain⟨z,hz⟩:∃z,x3++D=z:=⟨_,rfl⟩;have zz:z.size=x3.size+D.size:=by rw[<-hz,WC]
   rw[hz] at a2;clear hz;have e:z.size<=NN:=A;clear n T;go_in;go_wp2_with fail;generalize w.alloc (.cells #[I Q d,I Q p,I Q q,G s,G t,x,y] 41)=W,w.heap.size=ob at*;apply(HP _).mono;rintro r w3 ⟨rfl,rfl⟩;clear HP;have j:w3.drew.cell? ⟨ob,3,O⟩=J (G s)/\w3.drew.cell? ⟨b,2,O⟩=J (G m)/\w3.drew.frozen? ⟨b,2,O⟩=false:=⟨d3,a5,b0⟩;go_wp2_with fail;refine Ai (S:=λg=>g.cell? ⟨ob,3,O⟩=J (G s)/\g.cell? ⟨b,2,O⟩=J (G m)/\g.frozen? ⟨b,2,O⟩=ι) (L:=13) B ?_;refine tk 0 14 (V<|J ⟨b,0,O⟩) 45 j ?_;refine tk 1 14 (G m) 46 j ?_;refine tk 2 14 (I Q (k:Z)) 47 j ?_;refine tk 3 14 (G v) 48 j ?_;refine tk 4 14 (V<|J ⟨ob,3,O⟩) 49 j ?_;refine tk 5 14 (G s) 50 j ?_;refine tk 6 14 (G x3) 51 j ?_;refine tk 7 14 (G m) 52 j ?_;refine tk 8 14 (I Q (k:Z)) 53 j ?_;refine tk 9 14 (G D) 54 j ?_;refine tk 10 14 (G z) 55 j ?_;refine tk 11 14 (V<|J ⟨b,0,O⟩) 56 j ?_;refine tk 12 14 (V<|J ⟨b,2,O⟩) 57 j ?_;refine Ah (i:=13) B ?_;exact aff
  have:¬(s.size:Z)<100:=A;exact afg
 have b7:=hp;clear hp;by_cases hp:p=3
 .have a6:(p==1)=false:=by rw[hp];rfl
  have a7:(p==2)=false:=by rw[hp];rfl
  have a8:(p==3)=true:=by rw[hp];rfl
  have a9:(p==4)=false:=by rw[hp];rfl
  clear hp;obtain⟨v,n⟩:∃v,m.extract 0 k=v:=⟨_,rfl⟩;have z1:v.size=k:=by rw[<-n];exact JD m k A
  have b1:∀W,(Instr.slice 9 (G m) O (J<|I Q (k:Z)) O).run F W=ω (G v) W:=λW=>by have h:=aaN W 9 m underlying9 .i64 (k:Z) A A;rw[h,ww,n]
  have:IntKind.i64.wrap ((k:Z)+1)=(k:Z)+1:=by have h:=Aw (k+1) A;rw[aav] at h;exact h
  obtain⟨D,T⟩:∃D,m.extract (k+1) m.size=D:=⟨_,rfl⟩;have:D.size=m.size-(k+1):=by rw[<-T];exact NM m (k+1) A
  have:∀W,(Instr.slice 9 (G m) (J<|I Q ((k:Z)+1)) O O).run F W=ω (G D) W:=λW=>by have h:=aaz W 9 m underlying9 .i64 ((k:Z)+1) A A;rw[h,show((k:Z)+1).toNat=k+1 by omega,T]
  have a2:∀W,(Op.stringOp .add v D).run F W=ω (G<|v++D) W:=λW=>WR W _ _ A
  obtain⟨z,hz⟩:∃z,v++D=z:=⟨_,rfl⟩;have:z.size=v.size+D.size:=by rw[<-hz,WC]
  rw[hz] at a2;clear hz;have e:z.size<=NN:=A;clear n T;go_in;go_wp2_with fail;generalize w.alloc (.cells #[I Q d,I Q p,I Q q,G s,G t,x,y] 41)=W,w.heap.size=ob at*;apply(HP _).mono;rintro r w3 ⟨rfl,rfl⟩;clear HP;have j:w3.drew.cell? ⟨ob,3,O⟩=J (G s)/\w3.drew.cell? ⟨b,2,O⟩=J (G m)/\w3.drew.frozen? ⟨b,2,O⟩=false:=⟨d3,a5,b0⟩;go_wp2_with fail;refine Ai (S:=λg=>g.cell? ⟨ob,3,O⟩=J (G s)/\g.cell? ⟨b,2,O⟩=J (G m)/\g.frozen? ⟨b,2,O⟩=ι) (L:=11) B ?_;refine tk 0 12 (V<|J ⟨b,0,O⟩) 60 j ?_;refine tk 1 12 (G m) 61 j ?_;refine tk 2 12 (I Q (k:Z)) 62 j ?_;refine tk 3 12 (G v) 63 j ?_;refine tk 4 12 (G m) 64 j ?_;refine tk 5 12 (I Q (k:Z)) 65 j ?_;refine tk 6 12 (I Q ((k:Z)+1)) 66 j ?_;refine tk 7 12 (G D) 67 j ?_;refine tk 8 12 (G z) 68 j ?_;refine tk 9 12 (V<|J ⟨b,0,O⟩) 69 j ?_;refine tk 10 12 (V<|J ⟨b,2,O⟩) 70 j ?_;refine Ah (i:=11) B ?_;exact aff
 have b9:=hp;clear hp;by_cases hp:p=4
 .have a6:(p==1)=false:=by rw[hp];rfl
  have a7:(p==2)=false:=by rw[hp];rfl
  have a8:(p==3)=false:=by rw[hp];rfl
  have a9:(p==4)=true:=by rw[hp];rfl
  clear hp;obtain⟨v,n⟩:∃v,m.extract 0 k=v:=⟨_,rfl⟩;have:v.size=k:=by rw[<-n];exact JD m k A
  have:∀W,(Instr.slice 9 (G m) O (J<|I Q (k:Z)) O).run F W=ω (G v) W:=λW=>by have h:=aaN W 9 m underlying9 .i64 (k:Z) A A;rw[h,ww,n]
  have e:v.size<=NN:=A;clear n;go_in;go_wp2_with fail;generalize w.alloc (.cells #[I Q d,I Q p,I Q q,G s,G t,x,y] 41)=W,w.heap.size=ob at*;apply(HP _).mono;rintro r w3 ⟨rfl,rfl⟩;clear HP;have HX:=H<|P _ v (Ag.refl _ w3) e;clear P;go_wp2_with fail;go_end0;exact⟨rfl,HX⟩
 have g:=hp;clear hp;have:(p==1)=false:=by rw[WA];exact b6
 have:(p==2)=false:=by rw[WA];exact b7
 have:(p==3)=false:=by rw[WA];exact b9
 have:(p==4)=false:=by rw[WA];exact g
 clear b6 b7 b9 g;exact afg
