import Derived.Test.YtndfmgdhiallpaaGreatDoorVam
import Derived.Lib.ConvBytes
import Derived.Laws.IdiomStrings
set_option linter.all false
set_option maxRecDepth 100000
set_option maxHeartbeats 1000000
open _root_ renaming Option.some->J,Option.none->O,Int->Z,Nat->N,Go.Value.int->I,Go.Value.string->G,Go.IntKind.i64->Q,ByteArray->Y,List->E,Go.World->U,Go.Value.slice->K,Go.Value->β,Go.Obj.cells->γ,Go.Value.pointer->δ,Go.Ending.returned->ε,absurd->κ,Go.Calls->μ,UInt8->υ
namespace Go.Proofs.YtndfmgdhiallpaaGreatDoor
open Go.RowKit Go.Proofs.Tryz
def Eb(c:Z)(n:N):N:=((if c<0 then -(c+1) else c)%(n:Z)).toNat
def GP(c:Z){n:N}(h:0<n):Eb c n<n:=by
 unfold Eb;have a:=Int.emod_lt_of_pos (if c<0 then -(c+1) else c) (show(0:Z)<(n:Z) by omega);have b:=xH (if c<0 then -(c+1) else c) (show(n:Z)≠0 by omega);omega
def Pd(c:Z)(b: -9223372036854775808<=c)(d:c<=9223372036854775807)(n:N)(hn:0<n)(g:n<=9223372036854775807)(w:U):
 μ prog 109 #[I Q c,I Q n] w λr w' =>r=ε (I Q (Eb c n))/\w' =w:=by
 have e:¬(n:Z)=0:=Aa;have f:((n:Z)==0)=false:=by rw[re];omega
 by_cases h:c<0
 .have j:IntKind.i64.wrap (c+1)=c+1:=by rw[sx];omega
  have i:IntKind.i64.wrap (-(c+1))= -(c+1):=by rw[sx];omega
  have a:0<= -(c+1):=Aa;have e1:(-(c+1)).tmod (n:Z)=((Eb c n:N):Z):=by
   rw[tJ a];unfold Eb;rw[rd h];have:=xH (-(c+1)) (show(n:Z)≠0 by omega);omega
  exact zS
 have e1:c.tmod (n:Z)=((Eb c n:N):Z):=by
  rw[tJ Aa];unfold Eb;rw[rc h];have:=xH c (show(n:Z)≠0 by omega);omega
 exact zS
def eA(c:Z)(a:¬c<0)(n:N)(hn:0<n)(e:n<=9223372036854775807)(w:U):
 μ prog 109 #[I Q c,I Q n] w λr w' =>r=ε (I Q (Eb c n))/\w' =w:=by
 have b:¬(n:Z)=0:=Aa;have d:((n:Z)==0)=false:=by rw[re];omega
 have e1:c.tmod (n:Z)=((Eb c n:N):Z):=by
  rw[tJ Aa];unfold Eb;rw[rc a];have:=xH c (show(n:Z)≠0 by omega);omega
 exact zS
def LO(s:Y)(h:s.size<=140737488355328)(w:U)(g:De w):
 μ prog 60 #[G s] w λr w' =>r=ε (.bool true)/\Al w w' :=by
 have d:=Af (LN s h w g);have f:=Af (λW=>GK s h W);generalize Az s=x at*;obtain⟨a,n,e⟩:=x;simp only at d f;clear g;go_in;go_wp2_with fail;refine d.mono ?_;rintro r w1 ⟨rfl,b⟩;clear d;go_wp2_with fail;refine(f w1).mono ?_;rintro r w2 ⟨rfl,c⟩;have HO:Hid (Al w w2):=Ag.trans b c;clear f b c;exact zj
open Go.RowKit Go.Maps Go.Proofs.Tryz
def eB{d:Y}{k i:N}(h: ∀j,k<=j->j<i->As d j=As d (j- k))(a:¬i<d.size):QP d k:=by
 intro j b;have:=h (j+k) Aa Aa;rw[vs] at this;exact this
def eC(d:Y)(T:d.size<=20000)(w:U):
 μ prog 111 #[G d] w λr w' => ∃m:N,r=ε (I Q m)/\(CA d).size<=m/\∃k,w' =w.drewN k:=by
 have HM:Hid ((CA d).size<=d.size+5*(d.size/16000)+6):=by have:=(GO d).1;unfold Hid;omega
 have HH:Hid (∀k i,1<=k->k<=100->20*k<=d.size->(∀j,k<=j->j<i->As d j=As d (j- k))->¬i<d.size->(CA d).size<=d.size/2):=by
  intro k i l q L M P;have:=ak T (eB M P) l q L;omega
 go_in;go_wp2;go_loopw [5,6,7] (λx _ _ wr=> ∃k nn:N,1<=k/\k<=101/\x=I Q k/\wr=w.drewN nn) (λx _ _ _=>101- (intOf x).toNat)
 .exact ⟨1,0,Aa,Aa,rfl,rfl⟩
 obtain⟨k,nn,y,a1,rfl,rfl⟩:=hrel;by_cases hc:k<=100/\20*k<=d.size
 .obtain ⟨t,u⟩:=hc;have f:(k:Z)<=100:=Aa;have n:20*(k:Z)<=(d.size:Z):=Aa;have a0:¬(k:Z)=0:=Aa;have D:((k:Z)==0)=false:=by rw[re];omega
  have p:=Af (λi=>HH k i y t u);go_wp2;go_loopw [6,7] (λa x wr=> ∃(b:Bool) (i nn:N),k<=i/\i<=d.size/\a=.bool b/\x=I Q i/\wr=w.drewN nn/\Hid (b=true-> ∀j,k<=j->j<i->As d j=As d (j- k))) (λ_ x _=>d.size- (intOf x).toNat)
  .exact ⟨_,k,nn,Aa,Aa,rfl,rfl,rfl,λ_ j l q=>Aa⟩
  obtain⟨b,i,nn,a2,V,rfl,rfl,rfl,z⟩:=hrel;cases b with
  |false=>
   go_wp2;go_roundw
   .exact ⟨k+1,nn,Aa,Aa,by go_num,rfl⟩
   exact Ae
  |true=>
   by_cases A:i<d.size
   .have v:(i:Z)<(d.size:Z):=Aa;have R:=AC (s:=d) (k:=i) A;obtain⟨c,g⟩: ∃c,c=i- k:=⟨_,rfl⟩;have o:c<d.size:=Aa;have S:=AC (s:=d) (k:=c) o;have W:(i:Z)- (k:Z)=(c:Z):=Aa;have B:(0:Z)<=(c:Z):=Aa;have C:(c:Z)<(d.size:Z):=Aa;have a3:IntKind.i64.wrap (c:Z)=(c:Z):=Av _ Aa;have F:Hid (As d i=As d c-> ∀j,k<=j->j<i+1->As d j=As d (j- k)):=λe j l q=>by
     by_cases X:j<i
     .exact z rfl j l X
     have:j=i:=Aa;subst this;rw[<-g];exact e
    generalize As d i=x1 at*;generalize As d c=x2 at*;clear g;clear HH p HM;go_wp2_with fail;go_quiet (fail);go_wp2;go_roundw
    .exact ⟨_,i+1,nn+nq,Aa,Aa,rfl,by go_num,Ad,λh=>F (Int.ofNat_inj.1 (by simpa using h))⟩
    exact Ae
   have v:¬(i:Z)<(d.size:Z):=Aa;have H:=Af (p i (z rfl) A);clear HH p HM;go_wp2;go_ret;exact⟨d.size/2,by rw[sR];rfl,H,nn,rfl⟩
 have hcI:¬(k:Z)<=100\/¬20*(k:Z)<=(d.size:Z):=Aa;by_cases l:k<=100
 .have f:(k:Z)<=100:=Aa;have n:¬20*(k:Z)<=(d.size:Z):=Aa;exact wB
 have f:¬(k:Z)<=100:=Aa;exact wB
def NK(a:Y):a++(⟨#[]⟩:Y)=a:=by apply sX;simp
def Sw(d:Y)(u:d.size<=140737488355328)(w:U):
 μ prog 61 #[G d] w λr w' =>r=ε (.bool true)/\Al w w' :=by
 have e:=Af (λW=>DP d u W);by_cases s:d.size<=20000
 .have o:¬(20000:Z)<(d.size:Z):=Aa;have j:(CA d).size<=140737488355328:=by have:=(GO d).1;omega
  have l:=Af (λW=>GK (CA d) j W);have c:Az (CA d)=(d,(CA d).size,0):=by have:=ai d s ⟨#[]⟩;rw[NK] at this;exact this
  rw[c] at l;have q:=Af (λW=>eC d s W);clear c j;generalize CA d=p at*;go_in;go_wp2_with fail;refine(e w).mono ?_;rintro r w1 ⟨⟨_,rfl⟩|⟨h,_⟩,a⟩
  .have b:=Af a;clear a;go_wp2_with fail;refine(l w1).mono ?_;rintro r w2 ⟨rfl,g⟩;have f:=Af (Ag.trans (uh b) g);clear g b l;go_wp2_with fail;refine(q w2).mono ?_;rintro r w3 ⟨m,rfl,x,k,rfl⟩;have t:(p.size:Z)<=(m:Z):=Aa;clear q;go_wp2_with fail;refine(e _).mono ?_;rintro r v ⟨⟨_,rfl⟩|⟨h,_⟩,i⟩
   .have n:Hid (Al w v):=Ag.trans (f.drewN k) i;clear i f e;go_wp2;go_ret;exact⟨rfl,n⟩
   omega
  omega
 have o:(20000:Z)<(d.size:Z):=Aa;go_in;go_wp2_with fail;refine(e w).mono ?_;rintro r w1 ⟨⟨h,_⟩|⟨_,rfl⟩,a⟩
 .omega
 have b:=Af a;clear a e;go_wp2;go_ret;exact⟨rfl,b⟩
def Uo(a:N)(b:a<256):(BitVec.ofInt 8 (a:Z)).toNat=a:=by
 rw[BitVec.toNat_ofInt];omega
def XB(a b:N)(c:a<256)(d:b<256):bits .xor .u8 (a:Z) (b:Z)=((a^^^b:N):Z):=by
 have e:a^^^b<2^8:=uK Aa Aa;show IntKind.u8.wrap ((BitVec.ofInt 8 (a:Z)^^^BitVec.ofInt 8 (b:Z)).toNat:Z)=_;rw[ym,Uo a c,Uo b d,tN];omega
def Iz(w:U)(g:N)(l:E υ):Prop:= ∃cur fr,w.heap[g]? =J (γ cur 5 fr)/\l.length<=fr.1/\∀j (h:j<l.length),cur[j]? =J (I .u8 (l[j].toNat:Z))
def Iz.cell{w:U}{g:N}{l:E υ}(h:Iz w g l)(j:N)(e:j<l.length):w.cell? ⟨g,j,O⟩=J (I .u8 (l[j].toNat:Z)):=by
 obtain⟨a,b,d,_,c⟩:=h;rw[qV w g j a _ b d];exact c j e
def Iz.thaw{w:U}{g:N}{l:E υ}(h:Iz w g l)(j:N)(e:j<l.length):w.frozen? ⟨g,j,O⟩=false:=by
 obtain⟨a,c,b,d,_⟩:=h;simp only[World.frozen?,b];simp;omega
def XC(w:U)(g i:N)(a:Array β)(t:TypeId)(b:N×N)(v:β)(c:w.heap[g]? =J (γ a t b)):(w.setCell ⟨g,i,O⟩ v).heap[g]? =J (γ (a.setIfInBounds i v) t b):=by
 simp only[World.setCell,xD,c];simp
def Iz.set{w:U}{g:N}{l:E υ}(h:Iz w g l)(j:N)(v:υ):Iz (w.setCell ⟨g,j,O⟩ (I .u8 (v.toNat:Z))) g (l.set j v):=by
 obtain⟨a,c,k,f,d⟩:=h;refine⟨_,c,XC w g j a 5 c _ k,by rw[rK];exact f,λi b=> ?_⟩;rw[rK] at b;rw[sg];have m:i<a.size:=by
  rcases sb i a.size with h|h
  .exact h
  have:=d i b;rw[se h] at this;cases this
 by_cases e:j=i
 .subst e;rw[rd rfl,rd m,List.getElem_set_self]
 rw[rc e,d i b,List.getElem_set_ne e]
def Iz.made(w:U)(s:Y):Iz (Lib.bytesWorld w 5 s) w.heap.size s.data.toList:=by
 refine⟨_,_,Lib.bytesWorld_at_new w 5 s, ?_,λj b=> ?_⟩
 .simp[Lib.bytesCells]
 simp only[sd] at b;have a:j<s.size:=b;simp[Lib.bytesCells,Array.getElem?_append,a]
def FX(w:U)(s:Y):Al w (Lib.bytesWorld w 5 s):=
 ⟨rfl,rfl,rfl,by rw[Lib.bytesWorld_size];omega,λk a _=>Lib.bytesWorld_at_old w 5 s k a⟩
def Iz.back{w:U}{g cap:N}{l:E υ}(h:Iz w g l):(convert 62 9 (K (J ⟨g,0,O⟩) l.length cap)).run prog w=.ok (G ⟨l.toArray⟩) w:=
 uI w 62 9 5 ⟨g,0,O⟩ cap l underlying62 underlying5 underlying9 (λj a=>by rw[rH,rx];exact h.cell j a)
def Qk(s:Y)(hs:s.size<=1000000)(c:Z)(w:U):
 μ prog 59 #[G s,I Q c] w λr w' => ∃t:Y,r=ε (G t)/\t.size=s.size/\Al w w' :=by
 cases hz:s.toList.isEmpty with
 |true=>
  exact aaP
 |false=>
  by_cases V:c<0
  .exact aaP
  have M:0<s.size:=by
   rcases te s.size with h|h
   .have e:s=⟨#[]⟩:=sX (by show s.data= #[];exact uD h);rw[e] at hz;exact κ hz (by unfold ByteArray.toList ByteArray.toList.loop;simp;intro h0;exact κ h0 Ac)
   exact h
  have z:=Af (eA c V (8*s.size) Aa Aa w);have a7:=GP c (show 0<8*s.size by omega);generalize Eb c (8*s.size)=p at*;have A:=Lib.run_convert_string_bytes (P:=prog) w 9 62 5 s underlying9 underlying62 underlying5;have q:=Af (Iz.made w s);have F:=Af (FX w s);rw[show((8*s.size:N):Z)=8*(s.size:Z) by omega] at z;go_in;go_wp2_with fail;refine z.mono ?_;rintro r w' ⟨rfl,rfl⟩;have o:s.data.toList.length=s.size:=Ad;go_upto_region 5 with fail;clear A z;generalize Lib.bytesWorld w' 5 s=W at*;generalize grownCap w' s.size 0 5=cap at*;generalize s.data.toList=l at*;obtain⟨k,X⟩: ∃k,k=p/8:=⟨_,rfl⟩;obtain⟨m,hm⟩: ∃m,m=p%8:=⟨_,rfl⟩;have n:k<l.length:=Aa;have a1:(p:Z)/8=(k:Z):=Aa;have D:(p:Z)%8=(m:Z):=Aa;have a4:m<8:=Aa;have a5:(p:Z).tmod 8=(m:Z):=by rw[tJ Aa];exact D
  have a9:IntKind.i64.wrap (k:Z)=(k:Z):=Av _ Aa;have b0:IntKind.i64.wrap (m:Z)=(m:Z):=Av _ Aa;have a0:(0:Z)<=(k:Z):=Aa;have a2:(k:Z)<(s.size:Z):=Aa;have a3:(0:Z)<=(m:Z):=Aa;have d:=q.cell k n;have C:=q.thaw k n;have T:(l[k]).toNat<256:=l[k].toNat_lt;obtain⟨f,j⟩: ∃f,f=2^m:=⟨_,rfl⟩;have a6:f<=128:=by rw[j];exact(rG Aa Aa:2^m<=2^7)
  have R:(2:Z)^m=(f:Z):=by rw[j,so];rfl
  have b2:=XB (l[k]).toNat f T Aa;have b1:(l[k]).toNat^^^f<2^8:=uK Aa Aa;have v:=Af (q.set k (UInt8.ofNat ((l[k]).toNat^^^f)));rw[UInt8.toNat_ofNat_of_lt' Aa] at v;generalize(l[k]).toNat=b at*;generalize b^^^f=x at*;have a8:IntKind.u8.wrap (f:Z)=(f:Z):=by rw[tN];omega
  clear j X hm;have a:W.drew.cell? ⟨w'.heap.size,k,O⟩=J (I .u8 b)/\True/\True:=⟨d,trivial,trivial⟩;refine Ai (S:=λW=>W.cell? ⟨w'.heap.size,k,O⟩=J (I .u8 b)/\True/\True) (L:=13) Ab ?_;refine tk 0 14 (K (J ⟨w'.heap.size,0,O⟩) s.size cap) 21 a ?_;refine tk 1 14 (I Q p) 22 a ?_;refine tk 2 14 (I Q k) 23 a ?_;refine tk 3 14 (K (J ⟨w'.heap.size,0,O⟩) s.size cap) 24 a ?_;refine tk 4 14 (I Q p) 25 a ?_;refine tk 5 14 (I Q k) 26 a ?_;refine tk 6 14 (δ (J ⟨w'.heap.size,k,O⟩)) 27 a ?_;refine tk 7 14 (I .u8 b) 28 a ?_;refine tk 8 14 (I Q p) 29 a ?_;refine tk 9 14 (I Q m) 30 a ?_;refine tk 10 14 (I .u8 f) 31 a ?_;refine tk 11 14 (I .u8 x) 32 a ?_;refine tk 12 14 (δ (J ⟨w'.heap.size,k,O⟩)) 33 a ?_;refine Ah (i:=13) Ab ?_;refine ri rfl (λK' H=> ?_);go_simp;refine H _ _ ⟨λh=>κ rfl h, ?_⟩;clear H;refine Am Ab ?_;have g:Iz (W.setCell ⟨w'.heap.size,k,O⟩ (I .u8 (x:Z))).drew w'.heap.size (l.set k (UInt8.ofNat x)):=uh v;have y:Hid (Al w' (W.setCell ⟨w'.heap.size,k,O⟩ (I .u8 (x:Z))).drew):=(F.setCell (p:=⟨w'.heap.size,k,O⟩) (λh=>κ h (st _)) _).drew;generalize(W.setCell ⟨w'.heap.size,k,O⟩ (I .u8 (x:Z))).drew=W2 at*;have B:=g.back (cap:=cap);rw[rK,o] at B;have u:Hid ((⟨(l.set k (UInt8.ofNat x)).toArray⟩:Y).size=s.size):=by show(l.set k (UInt8.ofNat x)).toArray.size=_;rw[sq,rK,o]
  generalize(⟨(l.set k (UInt8.ofNat x)).toArray⟩:Y)=t at*;clear g v q F a d C;go_wp2;go_ret;exact⟨t,rfl,u,y⟩
