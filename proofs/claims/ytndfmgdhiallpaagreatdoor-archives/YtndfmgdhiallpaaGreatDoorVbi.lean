import Derived.Test.YtndfmgdhiallpaaGreatDoorVbh
import Derived.Test.YtndfmgdhiallpaaGreatDoorVbd
set_option linter.all false
set_option maxRecDepth 100000
set_option maxHeartbeats 8000000
open _root_ renaming Option.some->J,Option.none->O,Int->Z,Nat->N,Go.Value.int->I,Go.Value.string->G,Go.IntKind.i64->Q,ByteArray->Y,List->E,Go.World->U,Go.Value.slice->K,Go.Value->β,Go.Obj.cells->γ,Go.Value.pointer->δ,Go.Ending.returned->ε,Go.Calls->μ,Array->φ,Go.RowKit.Hid->χ,Go.Proofs.Tryz.prog->ψ
namespace Go.Proofs.YtndfmgdhiallpaaGreatDoor
open Go.RowKit Go.Maps Go.Proofs.Tryz
def Vn(p a:Y):(p++a).extract p.size (p++a).size=a:=ByteArray.extract_append_eq_right rfl (by rw[rg])
def RC(its:E It)(i k:N)(h:k<i)(a:k<its.length):its.getD k BG∈its.take i:=by
 rw[qT,qY a];exact tw.2 ⟨k,Aa,rfl⟩
def Vo{F:E Y}{f:Gp}(h:FL F f)(all:N)(a:It)(b:CK a.name=true)(c:Qt a.name=false):Dx f all a=if F.any (λn=>JC n a.name) then 5 else if Bu a.name<a.size then 1 else if 16000- all<a.size then 1 else 0:=by
 unfold Dx;rw[b,c,Kv h];rfl
def nV(p:Y)(hp:p.size<=1000)(its:E It)(hn:its.length<=60)(H: ∀i∈its,KI p i)(ao:Option Addr)(g cap:N)(v:0<its.length->ao=J ⟨g,0,O⟩)(w:U)(hg:0<its.length->Nc w g (its.map (JI p))):
 μ ψ 213 #[K ao its.length cap,G p] w λr w' =>r=ε (I Q (Bl its (λ_=>O) 0))/\Al w w' :=by
 have HKC:χ (∀i,i<its.length-> ∀W,Al w W->W.cell? ⟨g,i*6,O⟩=J (G (p++(its.getD i BG).name))/\(∀W,(Instr.slice 9 (G (p++(its.getD i BG).name)) (J (I Q (p.size:Z))) O O).run ψ W=.ok (G (its.getD i BG).name) W)/\(its.getD i BG).name.size<=2000000):=λi B W ho=>by
  have D:=((hg Aa).old ho) i (by rw[sJ];exact B);rw[Kh p its i B] at D;have h2:=(H _ (Mi its i B)).name;refine⟨D.1,λW=> ?_,Aa⟩;exact wG
 have M:χ (∀i,i<its.length-> ∀W,Al w W->W.cell? ⟨g,i*6,O⟩=J (G (p++(its.getD i BG).name))/\W.cell? ⟨g,i*6+4,O⟩=J (I Q ((its.getD i BG).size:Z))):=λi B W ho=>by
  have D:=((hg Aa).old ho) i (by rw[sJ];exact B);rw[Kh p its i B] at D;exact⟨D.1,D.2.2.2.2.1⟩
 have S:χ (∀i,i<its.length->(its.getD i BG).size<4294967296):=λi B=>(H _ (Mi its i B)).size
 have a5:=Af v;have R:=Af (Zy.start its);have T:χ (FL ((its.take 0).map It.name) (λ_=>O)):=FL.nil;have u:=Af (Ag.refl (λ_=>False) w);clear hg H v;go_in;go_wp2;go_loopw [5,6,7,8,9,10,11] (λal xi _ _ _ _ _ wr=> ∃(i all:N) (f:Gp),i<=its.length/\al=I Q (all:Z)/\xi=I Q (i:Z)/\χ (Zy its i f all)/\χ (FL ((its.take i).map It.name) f)/\χ (Al w wr)) (λ_ xi _ _ _ _ _ _=>its.length- (intOf xi).toNat)
 .exact ⟨0,0,λ_=>O,Aa,rfl,rfl,R,T,u⟩
 clear R T u;obtain⟨i,all,f,B,rfl,rfl,L,HT,HO⟩:=hrel;have a6:=L.all16;by_cases m:i<its.length
 .have X:(i:Z)<(its.length:Z):=Aa;have v:=a5 Aa;subst v;have HCELL:=Af (M i m);obtain⟨A,C,a2⟩:=HKC i m wr (uh HO);have a4:=S i m;have HFT:=Af (λh=>L.fault m h);have HNX:χ (Dx f all (its.getD i BG)=0->Zy its (i+1) (GR f (its.getD i BG).name) (all+(its.getD i BG).size)/\FL ((its.take (i+1)).map It.name) (GR f (its.getD i BG).name)):=λh=>by
   refine⟨L.next m h, ?_⟩;rw[tu,qY m,sv];have e:its.getD i BG=its[i]:=by rw[qT,qY m];rfl
   rw[e] at h ⊢;exact HT.add (PJ h).2.2.1
  have d:=Af (λD h2=>Vo (uh HT) all (its.getD i BG) D h2);have l:χ (CK (its.getD i BG).name=false\/Qt (its.getD i BG).name=true->Dx f all (its.getD i BG)=4):=λh=>by
   unfold Dx;rcases h with h|h
   .rw[rd h]
   split
   .rfl
   first|rfl|(rw[h];rfl)
  have a:=Af (λW=>MS (its.getD i BG).name Aa W);have HLO:=Af (λW=>fB (its.getD i BG).name Aa W);rw[Pq] at a;clear L HT M S;obtain⟨it,a0⟩: ∃it,its.getD i BG=it:=⟨_,rfl⟩;rw[a0] at HCELL A C a2 a4 HFT HNX d l a HLO;clear a0;obtain⟨nm,a1⟩: ∃nm,it.name=nm:=⟨_,rfl⟩;obtain⟨sz,F⟩: ∃sz,it.size=sz:=⟨_,rfl⟩;rw[a1] at HCELL A C a2 HNX d l a HLO;rw[F] at HCELL a4 HNX d;clear a1 F;have f1:((AO nm).toList==[103,111,46,109,111,100])=decide (AO nm=Ez):=EF _ _;have f2:(nm.toList==[103,111,46,109,111,100])=decide (nm=Ez):=EF _ _;have u:=HO;obtain⟨pn,a3⟩: ∃pn,p++nm=pn:=⟨_,rfl⟩;rw[a3] at HCELL A C;clear a3;obtain⟨fp,V⟩: ∃fp,CK nm=fp:=⟨_,rfl⟩;rw[V] at a d l;clear V;cases fp with
  |false=>
   have hd:=l (.inl rfl);have HA:=Af ((HFT (by rw[hd];decide)).trans hd);clear HFT HNX d l hd HLO f1 f2;go_wp2_with fail;refine(a _).mono ?_;rintro r w6 ⟨rfl,ho6⟩;have HO6:=Af (Ag.trans (uh HO) ho6);clear a ho6;exact abi
  |true=>
   have s:=Af (d rfl);have t:χ (Qt nm=true->Dx f all it=4):=λh=>l (.inr h)
   clear d l;have o:χ (Qt nm=(decide (nm≠Ez)&&decide (AO nm=Ez))):=rfl;generalize Qt nm=ob at*;generalize AO nm=lw at*;go_wp2_with fail;refine(a _).mono ?_;rintro r w5 ⟨rfl,ho5⟩;have HO5:=Af (Ag.trans (uh HO) ho5);clear a ho5 A C HO u;by_cases b:lw=Ez
   .by_cases q:nm=Ez
    .have c:ob=false:=(by rw[uh o,qX (show ¬nm≠Ez from λh=>h q)];rfl);have HDE:=Af (s c);clear s;rw[qZ b] at f1;rw[qZ q] at f2;clear t o b q c;exact yV
    have c:ob=true:=(by rw[uh o,qZ (show nm≠Ez from q),qZ b];rfl);have hd:=t c;have HA:=Af ((HFT (by rw[hd];decide)).trans hd);rw[qZ b] at f1;rw[qX q] at f2;clear t o b q c HFT HNX s hd;go_wp2_with fail;refine(HLO _).mono ?_;rintro r w6 ⟨rfl,ho6⟩;have HO6:=Af (Ag.trans (uh HO5) ho6);clear HLO ho6 HO5;exact abi
   have c:ob=false:=by rw[uh o,qX b,Bool.and_false]
   have HDE:=Af (s c);clear s;rw[qX b] at f1;clear t o b c f2;exact yV
 have X:¬(i:Z)<(its.length:Z):=Aa;have HA:=Af (L.end Aa);clear L HT;exact Hr
def qx{s:Y}(h:DK s=true):s.size<=5:=by
 unfold DK at h;rw[rX,rX] at h;exact rQ h.1.2
def pN{s:Y}(h:KE s=true):s.size<=20:=by
 unfold KE at h;rw[rX] at h;exact rQ h.2
def JD(l:E Y):N:=(l.map ByteArray.size).sum
def RD(a b:E Y):JD (a++b)=JD a+JD b:=by simp[JD]
def RE(a:Y):JD [a]=a.size:=by simp[JD]
def Vp(n:N): ∀l:E Y,(∀x∈l,x.size<=n)->JD l<=n*l.length
 |[],_=>sl _
 |a::r,h=>by
  have c:=Vp n r (λx b=>h x (sQ _ b));have d:=h a (uM ..);have e:JD (a::r)=a.size+JD r:=by simp[JD]
  rw[e,sB,xP];omega
def RG(s:Y)(c:N): ∀n,n<=s.size->JD (FQ s c n).1+(FQ s c n).1.length=(FQ s c n).2
 |0,_=>rfl
 |n+1,h=>by
  have a:=RG s c n Aa;have b:=(SG s c n).1;rw[FQ];split
  .rw[RD,RE,qU,rv];show _+((FQ s c n).1.length+1)=n+1;omega
  exact a
def Vq(s:Y)(c:N):JD (Ay s c)+(Ay s c).length=s.size+1:=by
 have h:=RG s c s.size (rj _);have a:=(SG s c s.size).1;unfold Ay;rw[RD,RE,qU,rv];show _+((FQ s c s.size).1.length+1)=_;omega
def bY{v:Y}(h:(Gs v).isSome=true):v.size<=40:=by
 unfold Gs at h;split at h
 .rename_i hp;split at h
  .cases h
  rename_i hm;split at h
  .rename_i hd;have g:=Mc hp;have n:(Dg v).size=v.size- 1:=by rw[g,rv];omega
   have k:=Vq (DA v) 46;rw[UP _ _ (rj _),hd.1] at k;have e:=Vp 5 (Cw (DA v)) (λx l=>qx (rV.1 hd.2 x l));rw[hd.1] at e;rcases Rt v with⟨_,c,_⟩|⟨i,m,_,_,j,c,f⟩
   .have a:=rI ByteArray.size c;omega
   have d:(Kb v).size<=20:=pN (by rw[j] at hm;simpa using hm);have b:=rI ByteArray.size f;have a:=rI ByteArray.size c;rw[rv,Nat.min_self] at b;rw[rv,uc Aa] at a;omega
  cases h
 cases h
def GF{s v p:Y}(h:FM s v=J p):p.size<=1000:=by
 unfold FM at h;split at h
 .rename_i hc;rw[rX,rX] at hc;have a:=bY hc.1.1;have b:s.size<=80:=by
   have:=hc.1.2;unfold Lk at this;rw[rX] at this;exact rQ this.1
  injection h with h;rw[<-h,rg,rg,rg];show s.size+1+v.size+1<=1000;omega
 cases h
def gW{s v p:Y}(h:FM s v=J p):0<p.size:=by
 unfold FM at h;split at h
 .injection h with h;rw[<-h,rg];show 0<_+1;omega
 cases h
def GZ(p:Y)(fs:E Fl):Y×N:=if 40000<(BE p (Ba fs)).length then(⟨#[]⟩,1) else(An (BE p (Ba fs)),0)
def pO(p:Y)(v:β)(fs:E Fl)(c4:fs.length<=1000)(S: ∀f∈fs,f.2.size<=20000)(hk:0<fs.length->Su p (Ba fs))(w:U)(hv:Au w v fs):
 μ ψ 46 #[G p,v] w λr w' =>Al w w' /\r=ε (.tuple #[G (GZ p fs).1,I Q ((GZ p fs).2:Z)]):=by
 obtain⟨i0,a9,b5,b6,b7⟩:=rN QX;have c3:(Ba fs).length=fs.length:=by simp[Ba]
 have C:χ (0<fs.length-> ∃g cap,v=K (J ⟨g,0,O⟩) fs.length cap/\g<w.heap.size/\∀j,j<fs.length->w.cell? ⟨g,j*2,O⟩=J (G (fs.getD j default).1)/\w.cell? ⟨g,j*2+1,O⟩=J (G (fs.getD j default).2)):=λh=>hv.slice h
 obtain⟨ao,cap,rfl⟩:=Dq hv;have HK:=Af hk;have D:=Af S;clear hk hv S;go_in;go_wp2;go_loopw [6,8,12] (λu _ x wr=> ∃i:N,i<=fs.length/\x=I Q i/\χ (DO wr (λk=>w.heap.size<=k) u (Ba (fs.take i)))/\χ (Al w wr)/\χ (i=0->u=K O 0 0)) (λ_ _ x _=>fs.length- (intOf x).toNat)
 .exact ⟨0,Aa,rfl,⟨rF w 0 _ 5,λb P=>by cases P⟩,Ag.refl _ w,λ_=>rfl⟩
 obtain⟨i,hi,rfl,F,H,HZ⟩:=hrel;by_cases a:i<fs.length
 .have W:(i:Z)<(fs.length:Z):=Aa;obtain⟨g,c0,b4,T,s⟩:=C Aa;injection b4 with hve1 hve2 hve3;subst hve1 hve3;have a6:=(H.cell (p:=⟨g,i*2,O⟩) T (λx=>x)).trans (s i a).1;have a7:=(H.cell (p:=⟨g,i*2+1,O⟩) T (λx=>x)).trans (s i a).2;clear s hve2;have a8:(fs.getD i default).2.size<=20000:=by rw[qT,qY a];exact D _ (ro a)
  have HS:=Af (Nr fs i a);have b1:(Ba (fs.take i)).length=i:=by simp[Ba];omega
  have V:(Ba (fs.take (i+1))).length=i+1:=by simp[Ba];omega
  generalize Ba (fs.take i)=its at*;generalize fs.getD i default=f at*;obtain⟨nm,d⟩:=f;have c2:i<=1000:=Aa;have M:Al wr (wr.alloc (γ #[G nm,G d] 50)):=(Ag.refl _ wr).alloc _;have q:=rh wr (γ #[G nm,G d] 50);have a4:(wr.alloc (γ #[G nm,G d] 50)).cell? ⟨wr.heap.size,0,O⟩=J (G nm):=by rw[qV _ _ 0 _ _ (0,0) q];rfl
  have a5:(wr.alloc (γ #[G nm,G d] 50)).cell? ⟨wr.heap.size,1,O⟩=J (G d):=by rw[qV _ _ 1 _ _ (0,0) q];rfl
  have H1:=Af (jI nm d a8 (wr.alloc (γ #[G nm,G d] 50)));generalize FK nm d=it at*;have A:=Af M;clear M q;go_wp2_with fail;refine H1.mono ?_;rintro r w1 ⟨rfl,X⟩;have o:Al wr w1:=Ag.trans (uh A) X;have n:Al w1 (w1.alloc (γ it.v 131)):=(Ag.refl _ w1).alloc _;have a3:=Af ((F.kept o (λ_ _ x=>x)).kept n (λ_ _ x=>x));have a2:=Af (XA (wr:=w1) it);have HO2:=Af (Ag.trans (Ag.trans (uh H) o) n);have b2: ∀u∈it.v.toList,u.oneCell' =true:=by intro u hu;simp at hu;rcases hu with rfl|rfl|rfl|rfl|rfl<;>rfl
  have b3:w.heap.size<=(w1.alloc (γ it.v 131)).heap.size:=HO2.size;obtain⟨y,wy,ck,sz,pk⟩:=it;clear n X o F H H1 A a4 a5 a6 a7;obtain⟨t,R⟩:=uh a3;rw[b1] at t;have L:=Af t;have B:=Af R;clear t R;have a1:χ (∀(g2 cap2:N) (w3:U),w3.ownsRow 0 131 5 (K (J ⟨g2,0,O⟩) (i+1) cap2) (i+1) (CX its++(It.v ⟨y,wy,ck,sz,pk⟩).toList)->(w1.alloc (γ (It.v ⟨y,wy,ck,sz,pk⟩) 131)).grownBy w3 u6.ownBlock->(u6.ownBlock=J g2\/g2=w1.heap.size+1)->DO w3 (λk=>w.heap.size<=k) (K (J ⟨g2,0,O⟩) (i+1) cap2) (Ba (fs.take (i+1)))/\Al w w3):=by
   intro g2 cap2 w3 m c l;refine⟨⟨?_,λb P=> ?_⟩,HO2.grown c (λk hk e=>absurd (B k e) Aa)⟩
   .rw[V,uh HS,Ns,JT];exact m
   injection P with P;subst P;rcases l with h|h
   .exact B _ h
   have:=b3;rw[rr] at this;simp only;omega
  go_wp2_with (at_builtin;refine wpList_append_lies _ rfl (.tmp 16) (.tmp 19) 129 rfl 0 131 i0 (.agg #[G ⟨#[]⟩,I .u32 0,I .u32 0,I .u32 0,G ⟨#[]⟩]) 5 48 underlying129 a9 b5 b6 b7 rfl Aa u6 i _ rfl (uh L) ⟨w1.heap.size,0,O⟩ 1 1 (It.v ⟨y,wy,ck,sz,pk⟩).toList rfl rfl (uh a2) b2 Aa (by unfold maxLen;omega) Aa Aa (w1.heap.size+1) Ad ?_;intro g2 cap2 w3 m c l c1;have HX:=Af (a1 g2 cap2 w3 m c l);clear m c l);go_roundw
  .exact ⟨i+1,Aa,by go_num,HX.1,HX.2,λh=>Aa⟩
  exact Ae
 have W:¬(i:Z)<(fs.length:Z):=Aa;have b0:i=fs.length:=Aa;subst b0;rw[sr] at F;have H2:χ (μ ψ 89 #[G p,u6] wr λr w' =>Al wr w' /\r=ε (G (An (BE p (Ba fs))))):=by
  by_cases h0:0<fs.length
  .exact lG _ p u6 (Ba fs) (HK h0) wr (uh F)
  have e:fs=[]:=sj Aa;have hu:=HZ Aa;subst e hu;exact Zx p wr
 have HP:χ (GZ p fs=if 40000<(An (BE p (Ba fs))).size then(⟨#[]⟩,1) else(An (BE p (Ba fs)),0)):=by unfold χ GZ;rw[AE]
 clear C HK D F HZ;generalize An (BE p (Ba fs))=z at*;go_wp2_with fail;refine H2.mono ?_;rintro r w2 ⟨a0,rfl⟩;have HO2:=Af (Ag.trans (uh H) a0);clear H2 a0;by_cases hz:40000<z.size
 .have b9:(40000:Z)<(z.size:Z):=Aa;have HA:=Af (HP.trans (rd hz));exact abc
 have b9:¬(40000:Z)<(z.size:Z):=Aa;have HA:=Af (HP.trans (rc hz));exact abc
def Ci(s v a:Y):E Fl×N:=match FM s v with
 |none=>([],3)
 |some p=>JH p a
def Nf{s v p:Y}(h:FM s v=J p):p=((s++⟨#[64]⟩)++v)++⟨#[47]⟩:=by
 unfold FM at h;split at h
 .injection h with h;exact h.symm
 cases h
def Vr(s v a:Y)(C:s.size<=2000000)(D:v.size<=2000000)(B:a.size<=9223372036854775807)(w:U)(j:Cb w)(c:De w):μ ψ 28 #[G s,G v,G a] w λr w' =>Al w w' /\Jx w w' r (Ci s v a):=by
 have H1:=Af (SO s v C D w j);cases hpre:FM s v with
 |none=>
  exact Hw
 |some p=>
  have HU:χ (Ci s v a=JH p a):=by unfold χ Ci;rw[hpre]
  have f:=Af (λW z A=>kG p a (GF hpre) B W z A);have t:=Af j;have i:=Af c;rw[hpre] at H1;clear j c hpre;rw[uh HU];generalize JH p a=res at*;go_in;go_wp2_with fail;refine H1.mono ?_;rintro r w1 ⟨rfl,ho1⟩;have HO1:=Af ho1;have y:=Af ho1.size;have f:=Af (f w1 (t.old ho1) (De.kept (uh i) ho1 (λx=>x)));clear ho1 H1;go_wp2_with fail;refine f.mono ?_;rintro r w3 ⟨e,k⟩;have d:=Af (Ag.trans (uh HO1) e);clear e f;rcases k with⟨l,u,rfl,n,g⟩|⟨m,rfl⟩
  .have q:=Af n;have o:=Af g;have h:=Af l;clear n g l;go_wp2;go_ret2;exact⟨d,.inl ⟨h,u,rfl,q,λb g=>rz (uh y) (o b g)⟩⟩
  have h:=Af m;clear m;go_wp2;go_ret2;exact⟨d,.inr ⟨h,rfl⟩⟩
def gX(f:Fl)(T:E Fl):AG (f::T)=G f.1:: G f.2::AG T:=rfl
def On: ∀(T:E Fl) (i:N),i<T.length->(AG T)[i*2]? =J (G (T.getD i default).1)/\(AG T)[i*2+1]? =J (G (T.getD i default).2)
 |[],i,h=>by simp at h
 |e::T,0,_=>⟨rfl,rfl⟩
 |e::T,i+1,h=>by
  have a:=On T i (by simpa using h);rw[gX,show(i+1)*2=i*2+1+1 by omega];exact a
def bZ(cur:φ β)(T:E Fl):Prop:= ∀i,i<T.length->cur[i*2]? =J (G (T.getD i default).1)/\cur[i*2+1]? =J (G (T.getD i default).2)
def bZ.left{a:φ β}{T U:E Fl}(h:bZ a (T++U)):bZ a T:=λi hi=>aaL
def bZ.fls{w:U}{g:N}{a:φ β}{T:E Fl}(h:bZ a T)(b:w.heap[g]? =J (γ a tF (0,0))):Dw w ⟨g,0,O⟩ T:=λi e=>by
 obtain⟨c,d⟩:=h i e;rw[rH,rx,qV w g _ _ _ (0,0) b,qV w g _ _ _ (0,0) b];exact⟨c,d⟩
def ce{w:U}(T:E Fl)(a:Addr)(h:Dw w a T): ∀j u,(AG T)[j]? =J u->w.cell? (a.add j)=J u:=by
 intro j u b;have k:j<T.length*2:=by rw[<-Du];exact(sU.1 b).1
 obtain⟨i,r,rfl,g⟩: ∃i r,j=i*2+r/\r<2:=⟨j/2,j%2,Aa,Aa⟩;have d:i<T.length:=Aa;obtain⟨e,f⟩:=h i d;obtain⟨c,g2⟩:=On T i d
 match r,g,b with
 |0,_,b=>rw[sS] at b ⊢;rw[b] at c;rw[c];exact e
 |1,_,b=>rw[b] at g2;rw[g2,<-uf,ua];exact f
abbrev kK:Fl:=(Ig,⟨#[]⟩)
abbrev kL:Fl:=(Kd,⟨#[]⟩)
def RH(n q:N)(h:q<n):(madeCells #[G ⟨#[]⟩,G ⟨#[]⟩] n)[q]? =J (#[(G ⟨#[]⟩:β),G ⟨#[]⟩][q%2]!):=by
 simp[madeCells,h]
def SX{w:U}{g n c1 c2:N}{b:φ β}{T:E Fl}{a:Addr}(h:w.heap[g]? =J (γ b tF (0,0)))(p:Dw w a T)(o:T.length<=n)(u:T.length*2<=b.size)(t:TypeId):
 ∃w' c,(Builtin.copy_ #[41,41] t #[K (J ⟨g,0,O⟩) n c1,K (J a) T.length c2]).run ψ w=.ok (goInt (T.length:Z)) w' /\w'.heap[g]? =J (γ c tF (0,0))/\c.size=b.size/\(∀q,q<T.length*2->c[q]? =(AG T)[q]?)/\(∀q,T.length*2<=q->c[q]? =b[q]?)/\Ag (λi=>i=g) w w' :=by
 obtain⟨i,l,r,f,s⟩:=rN Jr;have d:Nat.min T.length n=T.length:=uc o;have hcs:=Du T;have k:=vj (P:=ψ) w a (AG T) (ce T a p);have e:=ye ψ g 0 tF (AG T) 0 b w h Aa (fS T);rw[hcs] at k;refine⟨_,(b.toList.take (0+0)++AG T++b.toList.drop (0+0+(AG T).length)).toArray, ?_,sw w g b _ tF _ h, ?_,λq hq=> ?_,λq hq=> ?_,⟨rfl,rfl,rfl,by simp[World.setRow],λj _ m=>yo w g j _ m⟩⟩
 .simp[Builtin.copy_,ta underlying41,Builtin.lenOf,Builtin.firstCells,sizeOf,typeInfo,l,f,k,d];simp at e;simp[e]
 .simp only[sq,qU,rY,tD,sd];omega
 .rw[tq,sS,tZ,tp,rM Aa]
 exact aaW
def SY{w:U}{g n c1 c2:N}{ao:Option Addr}(m:TypeId):
 (Builtin.copy_ #[41,41] m #[K (J ⟨g,0,O⟩) n c1,K ao 0 c2]).run ψ w=.ok (goInt 0) w:=by
 obtain⟨i,d,f,k,l⟩:=rN Jr;have e:=λa:Addr=>vj (P:=ψ) w a [] (λj u h=>by simp at h)
 have b:(storeCells ⟨g,0,O⟩ []).run ψ w=.ok () w:=by first|rfl|simp[storeCells]
 cases ao with
 |none=>
  simp[Builtin.copy_,ta underlying41,Builtin.lenOf,Builtin.firstCells];first|(rw[b];rfl)|(simp at b;rw[b];rfl)
 |some a=>
  have c:=e a
  (try simp at c)
  (try simp at b)
  simp[Builtin.copy_,ta underlying41,Builtin.lenOf,Builtin.firstCells,sizeOf,typeInfo,d,c,b]
def SZ{w:U}{g n c1 c2:N}{c:φ β}{T:E Fl}{ao:Option Addr}{a:Addr}(d:0<T.length->ao=J a)(h:w.heap[g]? =J (γ c tF (0,0)))(l:Dw w a T)(j:T.length<=n)(k:T.length*2<=c.size)(f:TypeId):
 ∃w' b,(Builtin.copy_ #[41,41] f #[K (J ⟨g,0,O⟩) n c1,K ao T.length c2]).run ψ w=.ok (goInt (T.length:Z)) w' /\w'.heap[g]? =J (γ b tF (0,0))/\b.size=c.size/\(∀q,q<T.length*2->b[q]? =(AG T)[q]?)/\(∀q,T.length*2<=q->b[q]? =c[q]?)/\Ag (λi=>i=g) w w' :=by
 by_cases h0:0<T.length
 .rw[d h0];exact SX h l j k f
 have e:T=[]:=sj Aa;subst e;exact⟨w,c,SY f,h,rfl,λq m=>Aa,λq _=>rfl,Ag.refl _ w⟩
def NU{ops:φ Oper}{rest:E Oper}{o:Oper}{b:Act}{Q:Exit->Act->U->Prop}{w:U}(hgd:o.guard=O)(d s:Operand)(ho:o.op=.call {callee:=.builtin .copy,args:= #[d,s],argTypes:= #[41,41]})
 {g n c1 c2:N}{c:φ β}{T:E Fl}{ao:Option Addr}{a:Addr}(e:0<T.length->ao=J a)(hd:b.eval d=.slice (J ⟨g,0,O⟩) n c1)(hs:b.eval s=.slice ao T.length c2)(h:w.heap[g]? =J (γ c tF (0,0)))(l:Dw w a T)(j:T.length<=n)(f:T.length*2<=c.size)
 (k: ∀w' cur',w'.heap[g]? =J (γ cur' tF (0,0))->cur'.size=c.size->(∀q,q<T.length*2->cur'[q]? =(AG T)[q]?)->(∀q,T.length*2<=q->cur'[q]? =c[q]?)->Ag (λi=>i=g) w w' ->wpList ψ ops Q rest (b.put o.dst (goInt (T.length:Z))) w'):wpList ψ ops Q (o::rest) b w:=by
 obtain⟨w',cur',hrun,h1,h2,h3,h4,h5⟩:=SZ (n:=n) (c1:=c1) (c2:=c2) e h l j f o.type;exact Wz
def bZ.lent{T:E Fl}{a:φ β}(l:a.size=(T.length+2)*2)(f: ∀q,q<T.length*2->a[q]? =(AG T)[q]?)(d: ∀q,T.length*2<=q->a[q]? =(madeCells #[G ⟨#[]⟩,G ⟨#[]⟩] ((T.length+2)*2))[q]?):bZ ((a.setIfInBounds (T.length*2) (G Ig)).setIfInBounds ((T.length+1)*2) (G Kd)) (T++[kK,kL]):=by
 intro i e;rw[qU] at e;have k:i<T.length+2:=e;by_cases c:i<T.length
 .rw[qT,rM c,<-qT];obtain⟨g,g2⟩:=On T i c;refine⟨?_, ?_⟩
  .rw[rq Aa,rq Aa,f _ Aa];exact g
  rw[rq Aa,rq Aa,f _ Aa];exact g2
 by_cases h:i=T.length
 .subst h;rw[qT,rE (rj _),ut];have b:(T.length*2+1)%2=1:=Aa;refine⟨?_, ?_⟩
  .rw[rq Aa,sD Aa];rfl
  rw[rq Aa,rq Aa,d _ Aa,RH _ _ Aa,b];rfl
 have j:i=T.length+1:=Aa;subst j;rw[qT,rE Aa,uj];have b:((T.length+1)*2+1)%2=1:=Aa;refine⟨?_, ?_⟩
 .rw[sD (by rw[tQ];omega)];rfl
 rw[rq Aa,rq Aa,d _ Aa,RH _ _ Aa,b];rfl
def bZ.own{w:U}{g n:N}{a:φ β}(f:w.heap[g]? =J (γ a tF (0,0)))(l:a.size=n*2)(j:n<=maxLen)(T:E Fl)(b:T.length=n)(h:bZ a T):w.ownsRow 0 tF 2 (K (J ⟨g,0,O⟩) n n) n (AG T):=by
 refine⟨by rw[Du,b],.inr ⟨g,n,a,rfl,sl _,f,rj _,j,l, ?_⟩⟩;rw[sE (by rw[sd];omega)];apply ub;intro q;rw[sC];by_cases m:q<n*2
 .obtain ⟨i,r,rfl,k⟩: ∃i r,q=i*2+r/\r<2:=⟨q/2,q%2,Aa,Aa⟩;obtain⟨d,e⟩:=h i Aa;obtain⟨c,g2⟩:=On T i Aa
  match r,k with
  |0,_=>rw[sS,d,c]
  |1,_=>rw[e,g2]
 rw[se Aa,rL (by rw[Du,b];omega)]
def Yv(ao j:Option Addr)(o p:N)(a b:Addr)(fs:E Fl)(q:fs.length<=3000000)(c:0<fs.length->ao=J a)(d:0<fs.length->j=J b)(w:U)(k:Dw w a fs)(l:Dw w b fs):
 μ ψ 115 #[K ao fs.length o,K j fs.length p] w λr w' =>r=ε (.bool true)/\Al w w' :=by
 have m:=Af k;have n:=Af l;have g:=Af c;have h:=Af d;have HO:χ (Al w w):=Ag.refl _ w;clear k l c d;go_in;go_wp2;go_loopw [5] (λx wr=> ∃i:N,i<=fs.length/\x=I Q i/\χ (Al w wr)) (λx _=>fs.length- (intOf x).toNat)
 .exact ⟨0,Aa,rfl,HO⟩
 clear HO;obtain⟨i,s,rfl,HO⟩:=hrel;by_cases e:i<fs.length
 .have f:(i:Z)<(fs.length:Z):=Aa;have c:=g Aa;have d:=h Aa;subst c d;obtain⟨p1,p2⟩:=m.old (uh HO) i e;obtain⟨r1,r2⟩:=n.old (uh HO) i e;generalize fs.getD i default=x at*;exact Wq
 have f:¬(i:Z)<(fs.length:Z):=Aa;exact zD
