import Derived.Test.YtndfmgdhiallpaaGreatDoorVaa
import Derived.Laws.ComplexArith
set_option linter.all false
open _root_ renaming Option.some->J,Option.none->O,Int->Z,Nat->N,Go.Value.int->I,Go.Value.string->G,Go.IntKind.i64->Q,ByteArray->Y,List->E,Go.World->U,Go.Value.slice->K,Go.Value->β,Go.Obj.cells->γ,Go.Value.pointer->δ
namespace Go.Proofs.YtndfmgdhiallpaaGreatDoor
open Ieee
abbrev fN(n:N):N:=floatOfInt .f64 (n:Z)
def Oa:fN 0=0:=Ac
def LH(n:N):N:=n*2^(52- n.log2)
def Ld{n:N}(h0:n≠0)(h:n<1048576):n.log2<=19/\2^52<=LH n/\LH n<2^53:=by
 have e:n.log2<20:=(Nat.log2_lt h0).2 h;have c:=Nat.log2_self_le h0;have d:n<2^(n.log2+1):=Nat.lt_log2_self;have a:2^n.log2*2^(52- n.log2)=2^52:=by rw[<-uW];congr 1;omega
 have b:2^(n.log2+1)*2^(52- n.log2)=2^53:=by rw[<-uW];congr 1;omega
 have hp:0<2^(52- n.log2):=xl Ac;refine⟨Aa, ?_, ?_⟩
 .rw[<-a];exact sA _ c
 rw[<-b];exact vD d hp
def dF(way:Toward)(a:Bool)(n:N):way.cut a n 0=n:=by
 unfold Toward.cut;simp[uX];cases way<;>simp
def oO{n:N}(h0:n≠0)(h:n<1048576):fN n=(n.log2+1022)*2^52+LH n:=by
 obtain⟨i,e,f⟩:=Ld h0 h;have g:decide ((n:Z)<0)=false:=Ad;show double.nearest (decide ((n:Z)<0)) n 0=_;rw[g];unfold Format.nearest;rw[rc h0];have a:max ((0:Z)+(n.log2:Z)- ((double.fractionBits:N):Z)) double.leastPlace=(n.log2:Z)- 52:=by
  rw[show double.fractionBits=52 from rfl,show double.leastPlace= -1074 from rfl];omega
 simp only[a];have b:((0:Z)- ((n.log2:Z)- 52)).toNat=52- n.log2:=Aa;have c:(((n.log2:Z)- 52)- 0).toNat=0:=Aa;have d:(((n.log2:Z)- 52)- double.leastPlace).toNat=n.log2+1022:=by
  rw[show double.leastPlace= -1074 from rfl];omega
 rw[b,c,d,dF,vG,show double.binade=2^52 from rfl,show double.infRung=2047*2^52 from rfl];unfold Format.word;rw[rc Ad];show min ((n.log2+1022)*2^52+LH n) _=_;omega
def LI{n:N}(h0:n≠0)(h:n<1048576):double.read (fN n)=.number false (LH n) ((n.log2:Z)- 52):=by
 obtain⟨j,f,g⟩:=Ld h0 h;rw[oO h0 h];unfold Format.read;rw[show double.signWeight=2^63 from rfl,show double.binade=2^52 from rfl,show double.infRung=2047*2^52 from rfl,show double.leastPlace= -1074 from rfl];generalize i:n.log2=L at*;generalize LH n=s at*;have a:(L+1022)*2^52+s<2^63:=Aa;have b:((L+1022)*2^52+s)%2^63=(L+1022)*2^52+s:=uF a;have c:((L+1022)*2^52+s)/2^63=0:=yq a;simp only[b,c];rw[rc Aa,rd Aa];have d:((L+1022)*2^52+s)%2^52=s- 2^52:=Aa;have e:((L+1022)*2^52+s)/2^52- 1=L+1022:=Aa;rw[d,e];rw[show 2^52+(s- 2^52)=s by omega,show((-1074:Z)+((L+1022:N):Z))=(L:Z)- 52 by omega]
 rfl
def jc{n:N}(h:n<1048576):(FloatKind.f64.decode (fN n)).toInt .zero=J (n:Z):=by
 by_cases h0:n=0
 .subst h0;decide
 obtain⟨g,e,f⟩:=Ld h0 h;unfold FloatKind.decode;rw[show FloatKind.f64.format=double from rfl,LI h0 h];unfold Datum.toInt Datum.integral;simp only;have b:((n.log2:Z)- 52).toNat=0:=Aa;have c:(-((n.log2:Z)- 52)).toNat=52- n.log2:=Aa;rw[b,c,Nat.shiftLeft_zero];have d:Toward.zero.cut false (LH n) (52- n.log2)=n:=by
  unfold Toward.cut;simp only[Bool.toNat_false,sS];have a:(LH n).log2=52:=by
   rw[Nat.log2_eq_iff Aa];omega
  rw[a,show min (52- n.log2) (52+2)=52- n.log2 by omega,vG,yE];exact Nat.mul_div_cancel _ (xl Ac)
 rw[d];simp[signed]
def dG{a b:Z}(h:a<b):compare a b=.lt:=by
 show compareOfLessAndEq a b=.lt;unfold compareOfLessAndEq;rw[rd h]
def dH{a b:Z}(h:b<a):compare a b=.gt:=by
 show compareOfLessAndEq a b=.gt;unfold compareOfLessAndEq;rw[rc Aa,rc Aa]
def TF{n m:N}(d:n<1048576)(c:m<1048576):FloatKind.f64.format.order (fN n) (fN m)=J (compare n m):=by
 have g: ∀{n m:N},n≠0->m≠0->n<1048576->m<1048576->double.order (fN n) (fN m)=J (compare n m):=by
  intro n m b a d c;obtain⟨i,_,_⟩:=Ld b d;obtain⟨l,_,_⟩:=Ld a c;unfold Format.order;rw[LI b d,LI a c];unfold Datum.order;simp only[signed,tx,uw,vG];have j:LH n*2^((n.log2:Z)- 52- min ((n.log2:Z)- 52) ((m.log2:Z)- 52)).toNat=n*2^(52- min n.log2 m.log2):=by
   unfold LH;rw[xr,<-uW];congr 2;omega
  have k:LH m*2^((m.log2:Z)- 52- min ((n.log2:Z)- 52) ((m.log2:Z)- 52)).toNat=m*2^(52- min n.log2 m.log2):=by
   unfold LH;rw[xr,<-uW];congr 2;omega
  rw[j,k];have hp:0<2^(52- min n.log2 m.log2):=xl Ac;generalize 2^(52- min n.log2 m.log2)=q at*;congr 1;rcases vz n m with h|h|h
  .have e:n*q<m*q:=vD h hp;rw[yb.2 h];exact dG (by exact_mod_cast e)
  .subst h;rw[Nat.compare_eq_eq.2 rfl];simp
  have e:m*q<n*q:=vD h hp;rw[xh.2 h];exact dH (by exact_mod_cast e)
 rw[show FloatKind.f64.format=double from rfl];by_cases b:n=0
 .subst b;by_cases a:m=0
  .subst a;decide
  obtain⟨i,f,_⟩:=Ld a c;unfold Format.order;rw[LI a c,Oa,show double.read 0=.number false 0 (-1074) from rfl];unfold Datum.order;simp only[signed,tx,uw,vG,yr];have hp:0<LH m*2^((m.log2:Z)- 52- min (-1074) ((m.log2:Z)- 52)).toNat:=Nat.mul_pos Aa (xl Ac);rw[yb.2 Aa];congr 1;exact dG (Int.ofNat_lt.2 hp)
 by_cases a:m=0
 .subst a;obtain⟨i,f,_⟩:=Ld b d;unfold Format.order;rw[LI b d,Oa,show double.read 0=.number false 0 (-1074) from rfl];unfold Datum.order;simp only[signed,tx,uw,vG,yr];have hp:0<LH n*2^((n.log2:Z)- 52- min ((n.log2:Z)- 52) (-1074)).toNat:=Nat.mul_pos Aa (xl Ac);rw[xh.2 Aa];congr 1;exact dH (Int.ofNat_lt.2 hp)
 exact g b a d c
def dI{n m:N}(b:n<1048576)(a:m<1048576):(FloatKind.f64.format.order (fN n) (fN m)==J Ordering.gt)=decide (m<n):=by
 rw[TF b a];rcases vz n m with h|h|h
 .rw[yb.2 h,qX Aa];rfl
 .subst h;rw[Nat.compare_eq_eq.2 rfl,qX Aa];rfl
 rw[xh.2 h,qZ h];rfl
section
variable {P:Program}
def KO{n:N}(f:n<1048576)(b a:TypeId)(g:(P.underlying b).isSome=true)(e:P.underlying a=J (.int Q))(W:U):(convert b a (.float .f64 (fN n))).run P W=.ok (I Q (n:Z)) W:=by
 refine run_convert_float_int W b a .f64 Q _ _ g e ?_;unfold floatToIntVal;rw[jc f];have c:IntKind.i64.min<=(n:Z):=by rw[show IntKind.i64.min= -9223372036854775808 from rfl];omega
 have d:(n:Z)<=IntKind.i64.max:=by rw[show IntKind.i64.max=9223372036854775807 from rfl];omega
 simp only[c,d,and_self,vi]
end
