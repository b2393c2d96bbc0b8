import Derived.Test.YtndfmgdhiallpaaGreatDoorVah
set_option linter.all false
open _root_ renaming Option.some->J,Option.none->O,Int->Z,Nat->N,Go.Value.int->I,Go.Value.string->G,Go.IntKind.i64->Q,ByteArray->Y,List->E,Go.World->U,Go.Value.slice->K,Go.Value->β,Go.Obj.cells->γ,Go.Value.pointer->δ
namespace Go.Proofs.YtndfmgdhiallpaaGreatDoor
open Go.RowKit
def Nt(p:Y)(m:N):FJ p m=BV Ct h0 p m:=by
 induction m with
 |zero=>rfl
 |succ m ih=>rw[FJ,BV,ih]
def Uu(a:N->N)(x:E8)(p b :Y)(m:N)(h: ∀i,i<m->p.extract (64*i) (64*i+64)=b.extract (64*i) (64*i+64)):BV a x p m=BV a x b m:=by
 induction m with
 |zero=>rfl
 |succ m ih=>rw[BV,BV,ih (λi c=>h i Aa),h m Aa]
def aY(a:N->N)(x:E8)(p b :Y)(q r:N)(h: ∀i,i<r->p.extract (64*(q+i)) (64*(q+i)+64)=b.extract (64*i) (64*i+64)):BV a x p (q+r)=BV a (BV a x p q) b r:=by
 induction r with
 |zero=>rfl
 |succ r ih=>rw[<-sM,BV,BV,ih (λi c=>h i Aa),h r Aa]
def Sy(c:N->N)(x:E8)(a b:Y)(q r:N)(f:a.size=64*q)(d:b.size=64*r):BV c x (a++b) (q+r)=BV c (BV c x a q) b r:=by
 rw[aY c x (a++b) b q r,Uu c x (a++b) a q]
 .intro i e;rw[ByteArray.extract_append,show b.extract (64*i- a.size) (64*i+64- a.size)=ByteArray.empty by rw[show 64*i+64- a.size=0 by omega,xJ];omega];simp
 intro i e;rw[ByteArray.extract_append,show a.extract (64*(q+i)) (64*(q+i)+64)=ByteArray.empty by rw[xJ];omega,show 64*(q+i)- a.size=64*i by omega,show 64*(q+i)+64- a.size=64*i+64 by omega];simp
open Go.RowKit Go.Maps
def eG(z n:N):Ek z n 8=128::(List.replicate z 0++(Qz (n/536870912)++Qz (8*n%4294967296))):=by
 have e:(List.range 8).map (λq=>b8 (EI n q))=Qz (n/536870912)++Qz (8*n%4294967296):=by
  show [b8 (EI n 0),b8 (EI n 1),b8 (EI n 2),b8 (EI n 3),b8 (EI n 4),b8 (EI n 5),b8 (EI n 6),b8 (EI n 7)]=_;have h0:EI n 0=n/536870912/16777216%256:=by simp only[EI];omega
  have a:EI n 1=n/536870912/65536%256:=by simp only[EI];omega
  have b:EI n 2=n/536870912/256%256:=by simp only[EI];omega
  have c:EI n 3=n/536870912%256:=by simp only[EI];omega
  have d:EI n 4=8*n%4294967296/16777216%256:=by simp only[EI];omega
  have f:EI n 5=8*n%4294967296/65536%256:=by simp only[EI];omega
  have g:EI n 6=8*n%4294967296/256%256:=by simp only[EI];omega
  have h:EI n 7=8*n%4294967296%256:=by simp only[EI];omega
  rw[h0,a,b,c,d,f,g,h];rfl
 rw[Ek,e]
def jN(s:Y)(z:N):(pz s z).data=s.data++(List.replicate z 0).toArray:=by
 induction z with
 |zero=>simp[pz]
 |succ z ih=>rw[pz,tf,ih,tM];exact uV Ad
def QZ(s:Y):DJ s=s++⟨(Ek (Bm s.size) s.size 8).toArray⟩:=by
 apply sX;rw[eG];unfold DJ;rw[tf,tf,jN,tf,tf];apply uV;simp
def FY{a b:Y}{k:N}(h:k<a.size):As (a++b) k=As a k:=by
 unfold As;rw[uO h,uO (by rw[rg];omega),ByteArray.getElem_append_left h]
def En{a b:Y}{k:N}(h:a.size<=k):As (a++b) k=As b (k- a.size):=by
 unfold As;by_cases c:k- a.size<b.size
 .rw[uO c,uO (by rw[rg];omega),ByteArray.getElem_append_right h]
 rw[dif_neg c,dif_neg (by rw[rg];omega)]
def jO(n k:N)(a:k<4):As ⟨(Qz n).toArray⟩ k=n/2^(24- 8*k)%256:=by
 have b:(⟨(Qz n).toArray⟩:Y).size=4:=rfl;rw[<-AC Aa]
 match k,a with
 |0,_=>exact AL (si _ Aa)
 |1,_=>exact AL (si _ Aa)
 |2,_=>exact AL (si _ Aa)
 |3,_=>exact(AL (si _ Aa)).trans Ad
def Uv(x:E8)(m k:N)(b:k<4*m):As (JP x m) k=x.nth (k/4)/2^(24- 8*(k%4))%256:=by
 induction m with
 |zero=>omega
 |succ m ih=>
  rw[JP];have a:=Kp x m;by_cases h:k<4*m
  .rw[FY Aa,ih h]
  rw[En Aa,a,jO _ _ Aa,show k/4=m by omega,show k%4=k- 4*m by omega]
def XG(n k:N)(a:k<4):iH n (2*k)=n/2^(24- 8*k)%256/16/\iH n (2*k+1)=n/2^(24- 8*k)%256%16:=by
 unfold iH
 match k,a with
 |0,_=>constructor<;>simp<;>omega
 |1,_=>constructor<;>simp<;>omega
 |2,_=>constructor<;>simp<;>omega
 |3,_=>constructor<;>simp<;>omega
def Uw(d:N)(a:d<16):Ex.extract d (d+1)=⟨#[b8 (OP d)]⟩:=by
 have: ∀d:Fin 16,(Ex.extract d.val (d.val+1)).data= #[b8 (OP d.val)]:=Ac;exact sX (this ⟨d,a⟩)
def aZ(x:E8)(k:N)(c:k<=32):Qi (JP x 8) k=⟨(Jl x (2*k)).toArray⟩:=by
 induction k with
 |zero=>rfl
 |succ k ih=>
  have b:=Uv x 8 k Aa;have a:=XG (x.nth (k/4)) (k%4) Aa;have d:=Bf (JP x 8) k
  rw[Qi,ih Aa,Uw _ Aa,Uw _ Aa,show 2*(k+1)=2*k+1+1 by omega,MB,MB,b,
   show 2*k/8=k/4 by omega,show(2*k+1)/8=k/4 by omega,show 2*k%8=2*(k%4) by omega,show(2*k+1)%8=2*(k%4)+1 by omega,a.1,a.2]
  apply sX;rw[tf,tf];exact uV Ad
def Nu(s:Y):CB s=⟨(Jl (BV Ct h0 (s++⟨(Ek (Bm s.size) s.size 8).toArray⟩) ((s.size+9+Bm s.size)/64)) 64).toArray⟩:=by
 rw[CB,JO,QZ,Nt,aZ _ 32 Aa]
