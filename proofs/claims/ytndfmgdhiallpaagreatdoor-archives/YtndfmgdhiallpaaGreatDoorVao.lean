import Derived.Test.YtndfmgdhiallpaaGreatDoorVaa
import Derived.Lib.Mul64
import Derived.Laws.Bits64b
set_option linter.all false
set_option maxRecDepth 100000
set_option maxHeartbeats 1000000
open _root_ renaming Option.some->J,Option.none->O,Int->Z,Nat->N,Go.Value.int->I,Go.Value.string->G,Go.IntKind.i64->Q,ByteArray->Y,List->E,Go.World->U,Go.Value.slice->K,Go.Value->β,Go.Obj.cells->γ,Go.Value.pointer->δ,Go.Ending.returned->ε,Go.Calls->μ
namespace Go.Proofs.YtndfmgdhiallpaaGreatDoor
open Go.RowKit Go.Proofs.Tryz
def Li(a:N)(b:a<18446744073709551616):bits .and .u64 (a:Z) 4294967295=((a%4294967296:N):Z):=by
 have h:=bits_and_u64_nat a 4294967295 b Aa;have e:a&&&4294967295=a%4294967296:=vt a 32;rw[e] at h;exact h
def aS(a:N):(a:Z)/4294967296=((a/4294967296:N):Z):=Aa
def Ey(a:N)(b:a<18446744073709551616):IntKind.u64.wrap (a:Z)=(a:Z):=by rw[ux];omega
def aT(a:N):IntKind.u64.wrap (a:Z)=((a%18446744073709551616:N):Z):=by rw[ux];omega
def QY(x y:N)(j:x<18446744073709551616)(k:y<18446744073709551616)(w:U):
 μ prog 357 #[I .u64 x,I .u64 y] w λe w' =>e=ε (.tuple #[I .u64 ((x*y/18446744073709551616:N):Z),I .u64 ((x*y%18446744073709551616:N):Z)])/\w' =w:=by
 obtain⟨l,i,n,h⟩:=Lib.mul64_hi x y j k;have o:=Lib.half_mul_le (a:=x/4294967296) (b:=y/4294967296) Aa Aa;have p:=Lib.half_mul_le (a:=x/4294967296) (b:=y%4294967296) Aa Aa;have q:=Lib.half_mul_le (a:=x%4294967296) (b:=y/4294967296) Aa Aa;have c :x/4294967296*(y/4294967296)<18446744073709551616:=Aa;have d :x/4294967296*(y%4294967296)<18446744073709551616:=Aa;have f :x%4294967296*(y/4294967296)<18446744073709551616:=Aa;have g:x/4294967296*(y/4294967296)+(x/4294967296*(y%4294967296)+x%4294967296*(y%4294967296)/4294967296)/4294967296<18446744073709551616:=Aa;have m:x/4294967296*(y/4294967296)+(x/4294967296*(y%4294967296)+x%4294967296*(y%4294967296)/4294967296)/4294967296+((x/4294967296*(y%4294967296)+x%4294967296*(y%4294967296)/4294967296)%4294967296+x%4294967296*(y/4294967296))/4294967296<18446744073709551616:=Aa;go_in;go_wp2;simp only[Li x j,Li y k,aS,(sY _ _).symm,(sO _ _).symm,Ey _ l,Ey _ d,Ey _ i,Li _ i,Ey _ f,Ey _ n,Ey _ c,Ey _ g,Ey _ m,aT];rw[h];go_ret2;exact⟨rfl,rfl⟩
def XD(n:N):N:=n*n*n/18446744073709551616
def jK{n:N}(a:n<34359738368):n*n/18446744073709551616*n+n*n%18446744073709551616*n/18446744073709551616=XD n:=by
 unfold XD;have e:n*n*n=n*n%18446744073709551616*n+18446744073709551616*(n*n/18446744073709551616*n):=by
  have:=Nat.mod_add_div (n*n) 18446744073709551616;rw[<-xr,<-vK,this]
 rw[e,Nat.add_mul_div_left _ _ Aa,uL]
def Ze{n:N}(h:n<34359738368):XD n<2199023255552:=by
 unfold XD;have a:n*n<=34359738368*34359738368:=tY Aa Aa;have b:n*n*n<34359738368*34359738368*34359738368:=Nat.mul_lt_mul_of_le_of_lt a h Aa;omega
def Uq(n:N)(h:n<34359738368)(w:U):
 μ prog 339 #[I .u64 n] w λe w' =>e=ε (I .u64 (XD n))/\w' =w:=by
 have c:=λw1=>QY n n Aa Aa w1
 have j:n*n%18446744073709551616<18446744073709551616:=si _ Aa;have d:=λw1=>QY (n*n%18446744073709551616) n j Aa w1
 have f:=jK h;have k:=Ze h;have g:=Af f;have a:=Af c;have b:=Af d;clear c d f;generalize n*n%18446744073709551616=lo at*;generalize n*n/18446744073709551616=hi at*;generalize lo*n/18446744073709551616=ca at*;generalize lo*n%18446744073709551616=cb at*;go_in;go_wp2_with fail;refine(a _).mono ?_;rintro e w' ⟨rfl,rfl⟩;go_wp2_with fail;refine(b _).mono ?_;rintro e w' ⟨rfl,rfl⟩;go_wp2;go_ret;refine⟨Bb (rI (Value.int .u64) ?_),rfl⟩;have:=uh g;have i:hi*n<18446744073709551616:=Aa;rw[<-sY,Ey _ i,<-sO,this,Ey _ Aa]
def LP(n r b:N):N:=if XD (r|||b)<n*4294967296 then r|||b else r
def IQ(n:N):N->N
 |0=>0
 |k+1=>LP n (IQ n k) (2^(34- k))
def Ur(n k:N):IQ n k<34359738368:=by
 induction k with
 |zero=>exact Nat.succ_pos _
 |succ k ih=>
  rw[IQ,LP];split
  .exact xg (n:=35) ih (Nat.pow_lt_pow_right Aa Aa)
  exact ih
def aU{a b:N}(c:a<34359738368)(d:b<34359738368):bits .or .u64 (a:Z) (b:Z)=((a|||b:N):Z):=bits_or_u64_nat a b Aa Aa
def Sx(n:N)(h:n<512)(w:U):
 μ prog 301 #[I .u64 n] w λe w' =>e=ε (I .u32 ((IQ n 35%4294967296:N):Z))/\w' =w:=by
 go_in;go_wp2_with fail;go_loop [3,4] (λr b=> ∃k a:N,k<=35/\r=I .u64 (IQ n k)/\b=I .u64 a/\Hid (a=if k=35 then 0 else 2^(34- k))) (λ_ b=>(intOf b).toNat)
 .exact ⟨0,17179869184,Aa,rfl,rfl,rfl⟩
 obtain⟨k,a,z,rfl,rfl,l⟩:=hrel;by_cases d:k=35
 .have p:a=0:=by have:=uh l;rwa [rd d] at this
  subst p;rw[d];have j:=Ur n 35;generalize t:IQ n 35=r at j ⊢;have v:=Af t;clear t;go_wp2;go_ret;exact⟨Bb (rI (Value.int .u32) (by have:=uh v;omega)),rfl⟩
 have f:a=2^(34- k):=by have:=uh l;rwa [rc d] at this
 have g:a<34359738368:=by rw[f];exact tR (rG Aa (show 34- k<=34 by omega)) Aa
 have x:0<a:=by rw[f];exact xl Aa
 have s:Hid (a/2=if k+1=35 then 0 else 2^(34- (k+1))):=by
  unfold Hid;by_cases o:k=34
  .subst o;rw[rd rfl,f]
  rw[rc Aa,f,show 34- k=34- (k+1)+1 by omega,tV];omega
 have m:Hid (IQ n (k+1)=LP n (IQ n k) a):=by rw[f];rfl
 have j:=Ur n k;generalize IQ n k=r at*;have A:=aU j g;have i:r|||a<34359738368:=xg (n:=35) j g
 have u:=Af (λw1=>Uq (r|||a) i w1);have y:=Ze i;unfold LP at m;generalize r|||a=q at*
 generalize XD q=c at*;clear f l;go_wp2_with (go_at_call 339;refine(u _).mono ?_;rintro e w' ⟨rfl,rfl⟩)
 all_goals go_round
 .exact ⟨k+1,a/2,Aa,by rw[uh m,rd Aa],rfl,s⟩
 case measure=>simp[intOf];omega
 case rel=>exact⟨k+1,a/2,Aa,by rw[uh m,rc Aa],rfl,s⟩
 exact Ae
def Ql(n:N)(d:N->N)(m:N):Bool:=(List.range m).any λj=>n%d j==0
def aV(n:N)(d:N->N)(m:N):Ql n d (m+1)=(Ql n d m||n%d m==0):=by simp[Ql,tA]
def aW{n:N}{d:N->N}{m k:N}(a:k<m)(h:n%d k=0):Ql n d m=true:=sc.2 ⟨k,rJ.2 a,by simp[h]⟩
def Us(n:N)(C:n<1000)(d:N->N)(m c g:N)(B:m<=64)(w:U)(q: ∀j,j<m->1<=d j/\d j<1000)(r:DR w g 251 m (λj=> I .u64 (d j))):
 μ prog 338 #[I .u64 n,K (J ⟨g,0,O⟩) m c] w λe w' =>e=ε (.bool (Ql n d m))/\w' =w:=by
 have t:=Af q;have u:=Af r;clear q r;go_in;go_wp2_with fail;go_loop [9] (λi=> ∃k:N,k<=m/\i=I Q k/\Hid (Ql n d k=false)) (λi=>m- (intOf i).toNat)
 .exact ⟨0,Aa,rfl,rfl⟩
 obtain⟨k,A,rfl,o⟩:=hrel;by_cases a:k<m
 .have f:=u.cell k a;obtain⟨v,x⟩:=t k a;have p:=Af (λh=>aW (n:=n) (d:=d) a h);have b:=Af (aV n d k);generalize d k=dk at f v x p b;have z:(dk:Z)≠0:=Aa;by_cases s:n%dk=0
  .have y:((n:Z)%(dk:Z)==0)=true:=by rw[tT];omega
   go_wp2;go_ret;exact⟨Bb (rI Value.bool (p s).symm),rfl⟩
  have y:((n:Z)%(dk:Z)==0)=false:=by rw[re];omega
  go_wp2_with fail;go_round
  .exact ⟨k+1,Aa,by go_num,(show _=_ by rw[uh b,uh o];simp[s])⟩
  exact Ae
 have l:k=m:=Aa;subst l;go_wp2;go_ret;exact⟨Bb (rI Value.bool (uh o).symm),rfl⟩
def Jd:N->E N
 |0=>[]
 |k+1=>if(Jd k).any (λd=>(k+2)%d==0) then Jd k else Jd k++[k+2]
def eD(k:N): ∀d∈Jd k,2<=d/\d<k+2:=by
 induction k with
 |zero=>intro d a;cases a
 |succ k ih=>
  intro d a;rw[Jd] at a;split at a
  .have:=ih d a;omega
  rcases rR.1 a with h|h
  .have:=ih d h;omega
  have:=rC.1 h;omega
def eE{a b:N}(h:a<=b):(Jd a).length<=(Jd b).length:=by
 induction b with
 |zero=>rw[Nat.le_zero.1 h];exact rj _
 |succ b ih=>
  rcases sb a (b+1) with h1|h1
  .refine rz (ih Aa) ?_;rw[Jd];split
   .exact rj _
   simp
  rw[show a=b+1 by omega];exact rj _
def jL:(Jd 309).length=63:=by decide+kernel
def Og:(Jd 310).length=64:=by decide+kernel
def aX(n:N)(l:E N):Ql n (λj=>l.getD j 0) l.length=l.any (λd=>n%d==0):=by
 rw[vT,Ql,sc,sc];constructor
 .rintro ⟨j,a,h⟩;have a:=rJ.1 a;exact⟨l[j],ro a,by simpa [qT,a] using h⟩
 rintro⟨d,b,h⟩;obtain⟨j,a,rfl⟩:=xI.1 b;exact⟨j,rJ.2 a,by simpa [qT,a] using h⟩
def XE(l:E N):E β:=l.map λ(n:N)=>Value.int .u64 (n:Z)
def jM:(prog.info? 251).map (λi=>(i.zero,i.size,i.bytes))=J (J (I .u64 0),1,8):=Ab
def DR.ofOwns{w:U}{base:N}{e:TypeId}{g c n:N}{b:E β}{f:N->β}(h:w.ownsRow base e 1 (K (J ⟨g,0,O⟩) n c) n b)(d: ∀j,j<n->b[j]? =J (f j)):DR w g e n f:=by
 obtain⟨q,h|⟨p,o,a,m,_,i,r,_,s,l⟩⟩:=h
 .cases h.1
 injection m with hv1 hv2 hv3;injection hv1 with hv1;injection hv1 with hv1;subst hv1;refine⟨a,i,Aa,λj k=> ?_⟩;rw[<-d j k,<-l,td,rd Aa,sC]
def Ut(l:E N)(j:N)(h:j<l.length):(XE l)[j]? =J (I .u64 (l.getD j 0:N)):=by
 simp[XE,qT,h]
def eF{wr:U}{n:N}{e:TypeId}: ∀j u,[Value.int .u64 (n:Z)][j]? =J u->(wr.alloc (γ #[I .u64 (n:Z)] e)).cell? ((⟨wr.heap.size,0,O⟩:Addr).add j)=J u:=aaJ
def XF(w:U):
 μ prog 300 #[I Q 64] w λe w' =>e=ε (K (J ⟨w.heap.size,0,O⟩) 64 64)/\DR w' w.heap.size 251 64 (λj=> I .u64 ((Jd 310).getD j 0))/\Al w w' :=by
 obtain⟨i0,t,T,B,V⟩:=rN jM;go_in;go_wp2_with (at_make;refine wpList_make_own _ rfl (.const (I Q 0)) (.tmp 5) 306 rfl w.heap.size 251 i0 (I .u64 0) 1 underlying306 t T B .i64 Q 64 64 rfl rfl rfl (by rw[V];omega) (by unfold maxLen;omega) Ad ?_;intro w1 z r;have L:=Af z;have o:=Af ((Ag.refl (λ_=>False) w).grown r (λk _ e=>by cases e));clear z r);go_loopw [3,4] (λv i wr=> ∃k m n:N,k<=310/\m<=64/\i=I .u64 n/\v=K (J ⟨w.heap.size,0,O⟩) m 64/\Hid (m=(Jd k).length/\n=k+2)/\Hid (wr.ownsRow w.heap.size 251 1 (K (J ⟨w.heap.size,0,O⟩) m 64) m (XE (Jd k)))/\Hid (Al w wr)) (λ_ i _=>312- (intOf i).toNat)
 .exact ⟨0,0,2,Aa,Aa,rfl,rfl,⟨rfl,rfl⟩,L,o⟩
 obtain⟨k,m,n,hk,W,rfl,rfl,l,C,HQ⟩:=hrel;obtain⟨a,c⟩:=uh l;by_cases a1:m<64
 .have a0:k<310:=by
   rcases sb k 310 with h|h
   .exact h
   rw[show k=310 by omega,Og] at a;omega
  have g:n<1000:=Aa;have F:=Af (Us n g (λj=>(Jd k).getD j 0) m 64 w.heap.size W wr (λj S=>by
   have x :j<(Jd k).length:=Aa;have:=eD k ((Jd k)[j]) (ro x);simp only[qT,qY x,th];omega) (DR.ofOwns (uh C) (λj S=>Ut _ j Aa)))
  have D:Hid (Ql n (λj=>(Jd k).getD j 0) m=(Jd k).any (λd=>(k+2)%d==0)):=Af (by rw[a,c,aX]);have R:Hid (Jd (k+1)=if(Jd k).any (λd=>(k+2)%d==0) then Jd k else Jd k++[k+2]):=Af rfl;generalize Ql n (λj=>(Jd k).getD j 0) m=b at F D;rw[<-uh D] at R;clear D a c;cases b with
  |true=>
   go_wp2_with (go_at_call 338;refine F.mono ?_;rintro e w' ⟨rfl,rfl⟩);go_roundw
   .have e:Jd (k+1)=Jd k:=(by rw[uh R];exact rd trivial);obtain⟨a,c⟩:=uh l;exact⟨k+1,m,n+1,Aa,W,by go_num,rfl,⟨by rw[e];exact a,Aa⟩,by rw[e];exact C,HQ⟩
   simp[intOf];obtain⟨a,c⟩:=uh l;omega
  |false=>
   have H:=Af (eF (wr:=wr) (n:=n) (e:=251));have P:Hid ((wr.alloc (γ #[I .u64 (n:Z)] 251)).ownsRow w.heap.size 251 1 (K (J ⟨w.heap.size,0,O⟩) m 64) m (XE (Jd k))):=C.alloc _;go_wp2_with (first
    |(go_at_call 338;refine F.mono ?_;rintro e w' ⟨rfl,rfl⟩)
    |(at_builtin;refine xT _ rfl (.tmp 17) (.tmp 19) 306 rfl w.heap.size 251 i0 1 underlying306 t B w.heap.size m 64 _ rfl (uh P) ⟨_,0,O⟩ 1 1 [I .u64 (n:Z)] rfl rfl (uh H) (by intro u X;simp at X;subst X;rfl) Aa ?_;intro w3 A s;have M:=Af A;have HG3:=Af s;clear A s))
   go_roundw
   .have e:Jd (k+1)=Jd k++[k+2]:=(by rw[uh R];rfl);obtain⟨a,c⟩:=uh l;refine⟨k+1,m+1,n+1,Aa,Aa,by go_num,rfl,⟨by rw[e,qU];simp;exact a,Aa⟩, ?_, ?_⟩
    .have e2:XE (Jd (k+1))=XE (Jd k)++[I .u64 (n:Z)]:=(by rw[e];simp[XE,c]);rw[e2];exact M
    exact wn
   simp[intOf];obtain⟨a,c⟩:=uh l;omega
 have y:m=64:=Aa;have f:Jd k=Jd 310:=by
  rcases sb k 310 with h|h
  .have:=eE (show k<=309 by omega);rw[jL] at this;omega
  rw[show k=310 by omega]
 subst y;have p:Hid (DR wr w.heap.size 251 64 (λj=> I .u64 ((Jd 310).getD j 0:N))):=DR.ofOwns (uh C) (λj S=>by rw[f];exact Ut _ j (by rw[Og];exact S));clear f a c;go_wp2;go_ret;exact⟨rfl,p,HQ⟩
