import Derived.Lib.Mul64
import Derived.Laws.Bits64b
import Derived.Test.YtfpphfkcaplafaaGreatDoorZae
set_option linter.all false
set_option maxHeartbeats 64000000
set_option maxRecDepth 100000
open _root_ renaming Option.some->J,Option.none->O,Int->Z,Nat->N,Go.Value.int->I,Go.Value.string->G,Go.IntKind.i64->Q,ByteArray->Y,List->E,Go.World->U,Go.Value.slice->K,Go.Value->M,Go.Obj.cells->W,Go.Value.pointer->V,Go.RowKit.Hid->C,Go.Proofs.Tryz.prog->F,Go.Ending.returned->ε,absurd->κ,Go.Calls->μ,Array->φ
variable{a b g j k n:N}{w w':U}
namespace Go.Proofs.YtfpphfkcaplafaaGreatDoor
open Go.RowKit Go.Proofs.Tryz
def Ny(a:N)(b:a<18446744073709551616):bits .and .u64 (a:Z) 4294967295=((a%4294967296:N):Z):=by
 have h:=bits_and_u64_nat a 4294967295 b A;have e:a&&&4294967295=a%4294967296:=acC a 32;rw[e] at h;exact h
def jE(a:N):(a:Z)/4294967296=((a/4294967296:N):Z):=A
def Fv(a:N)(b:a<18446744073709551616):IntKind.u64.wrap (a:Z)=a:=alb
def jF(a:N):IntKind.u64.wrap (a:Z)=((a%18446744073709551616:N):Z):=alb
def UP(x y:N)(i:x<18446744073709551616)(j:y<18446744073709551616)(w:U):
 μ F 297 #[I .u64 x,I .u64 y] w λe w'=>e=ε (.tuple #[I .u64 ((x*y/18446744073709551616:N):Z),I .u64 ((x*y%18446744073709551616:N):Z)])/\w'=w:=by
 obtain⟨l,k,m,c⟩:=Lib.mul64_hi x y i j;have:=Lib.half_mul_le (a:=x/4294967296) (b:=y/4294967296) A A;have:=Lib.half_mul_le (a:=x/4294967296) (b:=y%4294967296) A A;have:=Lib.half_mul_le (a:=x%4294967296) (b:=y/4294967296) A A;have d :x/4294967296*(y/4294967296)<18446744073709551616:=A;have f :x/4294967296*(y%4294967296)<18446744073709551616:=A;have g :x%4294967296*(y/4294967296)<18446744073709551616:=A;have h:x/4294967296*(y/4294967296)+(x/4294967296*(y%4294967296)+x%4294967296*(y%4294967296)/4294967296)/4294967296<18446744073709551616:=A;have n:x/4294967296*(y/4294967296)+(x/4294967296*(y%4294967296)+x%4294967296*(y%4294967296)/4294967296)/4294967296+((x/4294967296*(y%4294967296)+x%4294967296*(y%4294967296)/4294967296)%4294967296+x%4294967296*(y/4294967296))/4294967296<18446744073709551616:=A;go_in;go_wp2;simp only[Ny x i,Ny y j,jE,(aaA _ _).symm,(aav _ _).symm,Fv _ l,Fv _ f,Fv _ k,Ny _ k,Fv _ g,Fv _ m,Fv _ d,Fv _ h,Fv _ n,jF];rw[c];go_ret2;exact⟨rfl,rfl⟩
def dB(n:N):N:=n*n*n/18446744073709551616
def rQ(a:n<34359738368):n*n/18446744073709551616*n+n*n%18446744073709551616*n/18446744073709551616=dB n:=by
 unfold dB;have e:n*n*n=n*n%18446744073709551616*n+18446744073709551616*(n*n/18446744073709551616*n):=by
  have:=Nat.mod_add_div (n*n) 18446744073709551616;rw[<-adp,<-acV,this]
 rw[e,Nat.add_mul_div_left _ _ A,acb]
def gi(h:n<34359738368):dB n<2199023255552:=by
 unfold dB;have a:n*n<=34359738368*34359738368:=abm A A;have:=Nat.mul_lt_mul_of_le_of_lt a h A;omega
def Zz(n:N)(h:n<34359738368)(w:U):
 μ F 237 #[I .u64 n] w λe w'=>e=ε (I .u64<|dB n)/\w'=w:=by
 have c:=λa=>UP n n A A a
 have f:n*n%18446744073709551616<18446744073709551616:=wU _ A;have d:=λa=>UP (n*n%18446744073709551616) n f A a
 have f:=rQ h;have i:=gi h;have g:=H f;have a:=H c;have b:=H d;clear c d f;generalize n*n%18446744073709551616=lo,n*n/18446744073709551616=hi at*;generalize lo*n/18446744073709551616=ca,lo*n%18446744073709551616=cb at*;go_in;go_wp2_with fail;apply(a _).mono;rintro e w' ⟨rfl,rfl⟩;go_wp2_with fail;apply(b _).mono;rintro e w' ⟨rfl,rfl⟩;go_wp2;go_ret;refine⟨AU<|hJ (Value.int .u64) ?_,rfl⟩;have:=X g;have a:hi*n<18446744073709551616:=A;rw[<-aaA,Fv _ a,<-aav,this,Fv _ A]
def Ol(n r b:N):N:=if dB (r|||b)<n*4294967296 then r|||b else r
def Kz(n:N):N->N
 |0=>0
 |k+1=>Ol n (Kz n k)<|2^(34-k)
def ZA(n k:N):Kz n k<34359738368:=by
 induction k with
 |zero=>exact Nat.succ_pos _
 |succ k a=>
  rw[Kz,Ol];split
  .exact adj (n:=35) a<|Nat.pow_lt_pow_right A A
  exact a
def jG(c:a<34359738368)(d:b<34359738368):bits .or .u64 (a:Z) (b:Z)=((a|||b:N):Z):=bits_or_u64_nat a b A A
def Xs(n:N)(s:n<512)(w:U):
 μ F 176 #[I .u64 n] w λe w'=>e=ε (I .u32 ((Kz n 35%4294967296:N):Z))/\w'=w:=by
 go_in;go_wp2_with fail;go_loop [3,4] (λr b=>∃k bn:N,k<=35/\r=I .u64 (Kz n k)/\b=I .u64 bn/\C (bn=if k=35 then 0 else 2^(34-k))) λ_ b=>(intOf b).toNat
 .exact ⟨0,17179869184,A,rfl,rfl,rfl⟩
 obtain⟨k,bn,t,rfl,rfl,h⟩:=hrel;by_cases a:k=35
 .have i:bn=0:=by have:=X h;rwa [Wz a] at this
  subst i;rw[a];have g:=ZA n 35;generalize m:Kz n 35=r at g ⊢;have i:=H m;clear m;go_wp2;go_ret;exact⟨AU (hJ (Value.int .u32)<|by have:=X i;omega),rfl⟩
 have d:bn=2^(34-k):=by have:=X h;rwa [Wx a] at this
 have f:bn<34359738368:=by rw[d];exact aaY (wg A (show 34-k<=34 by omega)) A
 have a:0<bn:=by rw[d];exact adn A
 have o:C (bn/2=if k+1=35 then 0 else 2^(34-(k+1))):=by
  unfold C;by_cases j:k=34
  .subst j;rw[Wz rfl,d]
  rw[Wx A,d,show 34-k=34-(k+1)+1 by omega,abj];omega
 have l:C<|Kz n (k+1)=Ol n (Kz n k) bn:=by rw[d];rfl
 have g:=ZA n k;generalize Kz n k=r at*;have:=jG g f;have a:r|||bn<34359738368:=adj (n:=35) g f
 have p:=H λf=>Zz (r|||bn) a f;have:=gi a;unfold Ol at l;generalize r|||bn=q at*
 generalize dB q=c at*;clear d h;go_wp2_with (go_at_call 237;refine(p _).mono ?_;rintro e w' ⟨rfl,rfl⟩)
 all_goals go_round
 .exact ⟨k+1,bn/2,A,by rw[X l,Wz A],rfl,o⟩
 case measure=>simp[intOf];omega
 case rel=>exact⟨k+1,bn/2,A,by rw[X l,Wx A],rfl,o⟩
 exact Ae
def TQ(n:N)(d:N->N)(m:N):Bool:=(List.range m).any λj=>n%d j==0
def jH(n:N)(d:N->N)(m:N):TQ n d (m+1)=(TQ n d m||n%d m==0):=by simp[TQ,aaS]
def jI{d:N->N}{m:N}(a:k<m)(h:n%d k=0):TQ n d m=true:=wJ.2 ⟨k,wh.2 a,by simp[h]⟩
def ZB(n:N)(a:n<1000)(d:N->N)(m c g:N)(i:m<=64)(w:U)(a:∀j,j<m->1<=d j/\d j<1000)(i:EH w g 144 m λj=> I .u64<|d j):
 μ F 236 #[I .u64 n,K (J ⟨g,0,O⟩) m c] w λe w'=>e=ε (.bool<|TQ n d m)/\w'=w:=by
 have q:=H a;have r:=H i;clear a i;go_in;go_wp2_with fail;go_loop [9] (λi=>∃k:N,k<=m/\i=I Q k/\C (TQ n d k=false)) λi=>m-(intOf i).toNat
 .exact ⟨0,A,rfl,rfl⟩
 obtain⟨k,_,rfl,l⟩:=hrel;by_cases a:k<m
 .have f:=r.cell k a;obtain⟨s,t⟩:=q k a;have o:=H λh=>jI (n:=n) (d:=d) a h;have b:=H<|jH n d k;generalize d k=dk at f s t o b;have:(dk:Z)≠0:=A;by_cases p:n%dk=0
  .have u:((n:Z)%(dk:Z)==0)=true:=akZ
   go_wp2;go_ret;exact⟨AU<|hJ Value.bool (o p).symm,rfl⟩
  have:((n:Z)%(dk:Z)==0)=false:=act
  go_wp2_with fail;go_round
  .exact ⟨k+1,A,by go_num,(show _=_ by rw[X b,X l];simp[p])⟩
  exact Ae
 have h:k=m:=A;subst h;go_wp2;go_ret;exact⟨AU<|hJ Value.bool (X l).symm,rfl⟩
def La:N->E N
 |0=>[]
 |k+1=>if(La k).any (λd=>(k+2)%d==0) then La k else La k++[k+2]
def nC(k:N):∀d∈La k,2<=d/\d<k+2:=by
 induction k with
 |zero=>intro d a;cases a
 |succ k b=>
  intro d a;rw[La] at a;split at a
  .have:=b d a;omega
  rcases WY.1 a with h|h
  .have:=b d h;omega
  have:=WN.1 h;omega
def nD(h:a<=b):(La a).length<=(La b).length:=by
 induction b with
 |zero=>rw[Nat.le_zero.1 h];exact WF _
 |succ b c=>
  rcases wM a (b+1) with h1|h1
  .refine WI (c A) ?_;rw[La];split
   .exact WF _
   simp
  rw[show a=b+1 by omega];exact WF _
def rR:(La 309).length=63:=by decide+kernel
def Ri:(La 310).length=64:=by decide+kernel
def jJ(n:N)(l:E N):TQ n (λj=>l.getD j 0) l.length=l.any (λd=>n%d==0):=by
 rw[adb,TQ,wJ,wJ];constructor
 .rintro ⟨j,a,h⟩;have a:=wh.1 a;exact⟨l[j],WJ a,by simpa [Wq,a] using h⟩
 rintro⟨d,b,h⟩;obtain⟨j,a,rfl⟩:=adC.1 b;exact⟨j,wh.2 a,by simpa [Wq,a] using h⟩
def dC(l:E N):E M:=l.map λ(n:N)=>Value.int .u64 (n:Z)
def rS:(prog.info? 144).map (λi=>(i.zero,i.size,i.bytes))=J (J<|I .u64 0,1,8):=B
def EH.ofOwns{base:N}{e:TypeId}{c:N}{a:E M}{f:N->M}(h:w.ownsRow base e 1 (K (J ⟨g,0,O⟩) n c) n a)(i:∀j,j<n->a[j]? =J (f j)):EH w g e n f:=by
 obtain⟨_,h|⟨_,_,d,k,_,l,_,_,_,m⟩⟩:=h
 .cases h.1
 injection k with b _ o;injection b with b;injection b with b;subst b;refine⟨d,l,A,λj a=>?_⟩;rw[<-i j a,<-m,aab,Wz A,aah]
def ZC(l:E N)(j:N)(h:j<l.length):(dC l)[j]? =J (I .u64 (l.getD j 0:N)):=by
 simp[dC,Wq,h]
def nE{wr:U}{e:TypeId}:∀j u,[Value.int .u64 (n:Z)][j]? =J u->(wr.alloc<|W #[I .u64 (n:Z)] e).cell? ((⟨wr.heap.size,0,O⟩:Addr).add j)=J u:=aji
def dD(w:U):
 μ F 175 #[I Q 64] w λe w'=>e=ε (K (J ⟨w.heap.size,0,O⟩) 64 64)/\EH w' w.heap.size 144 64 (λj=> I .u64 ((La 310).getD j 0))/\Am w w':=by
 obtain⟨i0,l,x,o,y⟩:=wi rS;go_in;go_wp2_with (at_make;refine wpList_make_own _ rfl (.const<|I Q 0) (.tmp 5) 221 rfl w.heap.size 144 i0 (I .u64 0) 1 underlying221 l x o .i64 Q 64 64 rfl rfl rfl (by rw[y];omega) (by unfold maxLen;omega) Ad ?_;intro _ i p;have z:=H i;have r:=H ((Ag.refl (λ_=>False) w).grown p λk _ e=>by cases e);clear i p);go_loopw [3,4] (λv i wr=>∃k m n:N,k<=310/\m<=64/\i=I .u64 n/\v=K (J ⟨w.heap.size,0,O⟩) m 64/\C (m=(La k).length/\n=k+2)/\C (wr.ownsRow w.heap.size 144 1 (K (J ⟨w.heap.size,0,O⟩) m 64) m<|dC (La k))/\C (Am w wr)) λ_ i _=>312-(intOf i).toNat
 .exact ⟨0,0,2,A,A,rfl,rfl,⟨rfl,rfl⟩,z,r⟩
 obtain⟨k,m,n,_,hm,rfl,rfl,s,v,a⟩:=hrel;obtain⟨c,f⟩:=X s;by_cases i:m<64
 .have a1:k<310:=by
   rcases wM k 310 with h|h
   .exact h
   rw[show k=310 by omega,Ri] at c;omega
  have i:n<1000:=A;have D:=H (ZB n i (λj=>(La k).getD j 0) m 64 w.heap.size hm wr (λj L=>by
   have i :j<(La k).length:=A;have:=nC k ((La k)[j])<|WJ i;simp only[Wq,Wv i,aaH];omega) (EH.ofOwns v λj L=>ZC _ j A))
  have P:C (TQ n (λj=>(La k).getD j 0) m=(La k).any λd=>(k+2)%d==0):=H (by rw[c,f,jJ]);have R:C (La (k+1)=if(La k).any (λd=>(k+2)%d==0) then La k else La k++[k+2]):=H rfl;generalize TQ n (λj=>(La k).getD j 0) m=b at D P;rw[<-X P] at R;clear P c f;cases b with
  |true=>
   go_wp2_with (go_at_call 236;refine D.mono ?_;rintro e w' ⟨rfl,rfl⟩);go_roundw
   .have e:La (k+1)=La k:=(by rw[X R];exact Wz trivial);obtain⟨c,f⟩:=X s;exact⟨k+1,m,n+1,A,hm,by go_num,rfl,⟨by rw[e];exact c,A⟩,by rw[e];exact v,a⟩
   simp[intOf];obtain⟨c,f⟩:=X s;omega
  |false=>
   have S:=H<|nE (wr:=wr) (n:=n) (e:=144);have T:C ((wr.alloc<|W #[I .u64 (n:Z)] 144).ownsRow w.heap.size 144 1 (K (J ⟨w.heap.size,0,O⟩) m 64) m<|dC (La k)):=v.alloc _;go_wp2_with (first
    |(go_at_call 236;refine D.mono ?_;rintro e w' ⟨rfl,rfl⟩)
    |(at_builtin;refine adL _ rfl (.tmp 17) (.tmp 19) 221 rfl w.heap.size 144 i0 1 underlying221 l o w.heap.size m 64 _ rfl T ⟨_,0,O⟩ 1 1 [I .u64 (n:Z)] rfl rfl S alj A ?_;intro _ i l;have a0:=H i;have J9:=H l;clear i l))
   go_roundw
   .have e:La (k+1)=La k++[k+2]:=(by rw[X R];rfl);obtain⟨c,f⟩:=X s;refine⟨k+1,m+1,n+1,A,A,by go_num,rfl,⟨by rw[e,Ws];simp;exact c,A⟩,?_,?_⟩
    .have i:dC (La<|k+1)=dC (La k)++[I .u64 (n:Z)]:=(by rw[e];simp[dC,f]);rw[i];exact a0
    exact ahH
   simp[intOf];obtain⟨c,f⟩:=X s;omega
 have t:m=64:=A;have g:La k=La 310:=by
  rcases wM k 310 with h|h
  .have:=nD (show k<=309 by omega);rw[rR] at this;omega
  rw[show k=310 by omega]
 subst t;have u:=H (EH.ofOwns v λj L=>by rw[g];exact ZC _ j<|by rw[Ri];exact L);clear g c f;go_wp2;go_ret;exact⟨rfl,u,a⟩
open Go.RowKit Go.Maps Go.Proofs.Tryz
def nF(z n:N):Fc z n 8=128::(List.replicate z 0++(Uk (n/536870912)++Uk (8*n%4294967296))):=by
 have e:(List.range 8).map (λq=>b8<|FI n q)=Uk (n/536870912)++Uk (8*n%4294967296):=by
  show [b8<|FI n 0,b8<|FI n 1,b8<|FI n 2,b8<|FI n 3,b8<|FI n 4,b8<|FI n 5,b8<|FI n 6,b8<|FI n 7]=_;have h0:FI n 0=n/536870912/16777216%256:=alc
  have a:FI n 1=n/536870912/65536%256:=alc
  have b:FI n 2=n/536870912/256%256:=alc
  have c:FI n 3=n/536870912%256:=alc
  have d:FI n 4=8*n%4294967296/16777216%256:=alc
  have f:FI n 5=8*n%4294967296/65536%256:=alc
  have g:FI n 6=8*n%4294967296/256%256:=alc
  have h:FI n 7=8*n%4294967296%256:=alc
  rw[h0,a,b,c,d,f,g,h];rfl
 rw[Fc,e]
def rT(s:Y)(z:N):(pz s z).data=s.data++(List.replicate z 0).toArray:=by
 induction z with
 |zero=>simp[pz]
 |succ z a=>rw[pz,aaE,a,aba];exact acl Ad
def UQ(s:Y):Ex s=s++⟨(Fc (Bv s.size) s.size 8).toArray⟩:=by
 apply aaj;rw[nF];unfold Ex;rw[aaE,aaE,rT,aaE,aaE];apply acl;simp
def Io{a b:Y}(h:k<a.size):As (a++b) k=As a k:=by
 unfold As;rw[abB h,abB akV,ByteArray.getElem_append_left h]
def Dh{a b:Y}(h:a.size<=k):As (a++b) k=As b (k-a.size):=by
 unfold As;by_cases c:k-a.size<b.size
 .rw[abB c,abB akV,ByteArray.getElem_append_right h]
 rw[dif_neg c,dif_neg akV]
def rU(n k:N)(hk:k<4):As ⟨(Uk n).toArray⟩ k=n/2^(24-8*k)%256:=by
 have:(⟨(Uk n).toArray⟩:Y).size=4:=rfl;rw[<-AA A]
 match k,hk with
 |0,_=>exact AN<|wU _ A
 |1,_=>exact AN<|wU _ A
 |2,_=>exact AN<|wU _ A
 |3,_=>exact(AN<|wU _ A).trans Ad
def ZD(x:E8)(m k:N)(b:k<4*m):As (LF x m) k=x.nth (k/4)/2^(24-8*(k%4))%256:=by
 induction m with
 |zero=>omega
 |succ m a=>
  rw[LF];have b:=Mt x m;by_cases h:k<4*m
  .rw[Io A,a h]
  rw[Dh A,b,rU _ _ A,show k/4=m by omega,show k%4=k-4*m by omega]
def dE(n k:N)(hk:k<4):qz n (2*k)=n/2^(24-8*k)%256/16/\qz n (2*k+1)=n/2^(24-8*k)%256%16:=by
 unfold qz
 match k,hk with
 |0,_=>constructor<;>simp<;>omega
 |1,_=>constructor<;>simp<;>omega
 |2,_=>constructor<;>simp<;>omega
 |3,_=>constructor<;>simp<;>omega
def ZE(d:N)(a:d<16):Fu.extract d (d+1)=⟨#[b8<|RS d]⟩:=by
 have:∀d:Fin 16,(Fu.extract d.val<|d.val+1).data= #[b8<|RS d.val]:=Ac;exact aaj<|this ⟨d,a⟩
def jK(x:E8)(k:N)(a:k<=32):TJ (LF x 8) k=⟨(KS x<|2*k).toArray⟩:=by
 induction k with
 |zero=>rfl
 |succ k b=>
  have c:=ZD x 8 k A;have a:=dE (x.nth<|k/4) (k%4) A;have:=Bj (LF x 8) k
  rw[TJ,b A,ZE _ A,ZE _ A,show 2*(k+1)=2*k+1+1 by omega,Pb,Pb,c,
   show 2*k/8=k/4 by omega,show(2*k+1)/8=k/4 by omega,show 2*k%8=2*(k%4) by omega,show(2*k+1)%8=2*(k%4)+1 by omega,a.1,a.2]
  apply aaj;rw[aaE,aaE];exact acl Ad
def Qm(s:Y):CY s=⟨(KS (Cm CU h0 (s++⟨(Fc (Bv s.size) s.size 8).toArray⟩) ((s.size+9+Bv s.size)/64)) 64).toArray⟩:=by
 rw[CY,LE,UQ,Qi,jK _ 32 A]
def rV:(La 310).map (λp=>Kz p 35%4294967296)=Yt:=by decide+kernel
def nG(f:N->N)(l:E N)(j:N)(h:j<l.length):(l.map f).getD j 0=f (l.getD j 0):=by
 simp[Wq,h]
def vC(j:N)(h:j<64):Kz ((La 310).getD j 0) 35%4294967296=CU j:=by
 have a:j<(La 310).length:=by rw[Ri];exact h
 rw[CU,<-rV,nG (λp=>Kz p 35%4294967296) _ _ a]
def bL(t j:N):M:=if j<t then I .u32 (CU j) else I .u32 0
def rW(t j:N):(bL t j).oneCell'=true:=by unfold bL;split<;>rfl
def vD{t:N}(h:j<t):bL t j=I .u32 (CU j):=Wz h
def nH(t:N):∀j,j<64->(if j=t then Value.int .u32 (CU t) else bL t j)=bL (t+1) j:=by
 intro j _;unfold bL;exact afI
def nI:∃a:N->N,(∀j,j<64->a j<512/\Kz (a j) 35%4294967296=CU j)/\∀w:U,
 μ F 175 #[I Q 64] w λe w'=>e=ε (K (J ⟨w.heap.size,0,O⟩) 64 64)/\EH w' w.heap.size 144 64 (λj=> I .u64<|a j)/\Am w w':=by
 refine⟨λj=>(La 310).getD j 0,λj b=>⟨?_,vC j b⟩,dD⟩;have a :j<(La 310).length:=by rw[Ri];exact b
 have:=nC 310 ((La 310)[j])<|WJ a;show(La 310).getD j 0<512;rw[Wq,Wv a,aaH];omega
def TR(w:U):
 μ F 112 #[] w λe w'=>e=ε (.agg<|CQ CU)/\Am w w':=by
 obtain⟨l,d,m⟩:=nI;have n:=d;have d:=m;go_in;go_wp2_with (go_at_call 175;refine(d _).mono ?_;rintro e o ⟨rfl,c,d⟩;have q:=c;have b:=d;clear c d);go_loopw [6] (λi wr=>∃t:N,t<=64/\i=I Q t/\(FZ wr (w.heap.size+1) 140 64<|bL t)/\(FZ wr w.heap.size 140 64<|bL 0)/\(EH wr (w.heap.size+2) 144 64 λj=> I .u64<|l j)/\(Am w wr)) λi _=>64-(intOf i).toNat
 .refine ⟨0,Aa,rfl,?_,?_,?_,?_⟩
  .refine (FZ.old ?_ b);exact FZ.mk' Ad B
  .refine (FZ.old (FZ.alloc ?_ _) b);exact FZ.mk' rfl B
  .have c:=q;simp only[WP] at c;exact c
  exact Ag.trans (((Ag.refl _ w).alloc _).alloc _) b
 obtain⟨t,_,rfl,f,x,y,HO⟩:=hrel;by_cases b:t<64
 .have:=f.row.thaw;have:=f.row.cell t b;have r:=y.cell t b;obtain⟨g,i⟩:=n t b;have k:=λo=>Xs (l t) g o
  rw[i] at k;generalize l t=p at r g i k;have z:=nH t;generalize CU t=kt at k z;have a:(t:Z)<64:=Aa;go_wp2_with (go_at_call 176;refine(k _).mono ?_;rintro e o ⟨rfl,rfl⟩);go_roundw
  .refine ⟨t+1,Aa,by go_num,?_,?_,?_,?_⟩
   .exact (f.set t _).congr z
   .exact x.setOther _ _ Aa _
   .exact y.setOther _ _ Aa _
   exact HO.setCell (p:=⟨w.heap.size+1,t,O⟩) (λh=>κ (show w.heap.size+1<w.heap.size from h) Aa) _
  exact Ae
 have a:t=64:=Aa;rw[a] at f;have L:wr.heap[w.heap.size+1]? =J (W (Dc 64<|bL 64) 140 (0,0)):=f;have D:wr.heap[w.heap.size]? =J (W (Dc 64<|bL 0) 140 (0,0)):=x;have s:(prog.info? 140).map (·.size)=J (Dc 64<|bL 64).size:=by rw[Bm];exact QX
 have P:(Dc 64<|bL 64).all (·.oneCell')=true:=QY _ _<|rW 64;have j:(Dc 64 (bL 64)=CQ CU):=KN λ_ a=>vD a;have u:(Dc 64<|bL 0).size=(Dc 64<|bL 64).size:=by rw[Bm,Bm]
 generalize R:Dc 64 (bL 64)=A at*;have:=R;go_wp2_with (first
  |(refine abQ rfl 140 (.tmp 1) rfl (w.heap.size+1) rfl 140 A (0,0) _ L underlying140 rfl s ?_)
  |(refine aal rfl 140 (.tmp 0) (.tmp 16) rfl w.heap.size A rfl rfl 140 _ D s u P ?_))
 refine wI (v:=.agg A) (abe results112 _ _ w.heap.size 140 A (0,0) _ rfl (aaa wr w.heap.size _ A _ _ D) underlying140 rfl s) rfl ⟨?_,?_⟩
 .rw[j]
 exact aiH
section
variable {P:Program} {ops:φ Oper} {Q:Exit->Act->U->Prop} {md:Region.Mode} {S:U->Prop} {L:N}
def dF{i:N}{b:φ Bool}{a:Act}(y:Region.ready md ops b=[i,j])
 (h:wpOp P ops Q i (λa' w'=>(i≠L->S w')/\Dv P md ops Q S L n (b.setIfInBounds i true) a' w') a w)
 (k:wpOp P ops Q j (λa' w'=>(j≠L->S w')/\Dv P md ops Q S L n (b.setIfInBounds j true) a' w') a w):Dv P md ops Q S L (n+1) b a w:=ahm
end
def MO(w:U):Prop:= ∃t fr,w.heap[0]? =J (W (FH h0) t fr)
def MO.old(h:MO w)(a:Am w w'):MO w':=by
 obtain⟨t,b,c⟩:=h;exact⟨t,b,AH a c⟩
def vE(h:MO w):(loadVar 97 ⟨0,0,O⟩).run F w=.ok (.agg<|FH h0) w:=by
 obtain⟨t,_,a⟩:=h;exact ada w _ _ _ _ _ _ a underlying97 rfl JW
def dG(s:Y)(p:Y)(q r:N)(b:64*q<=s.size)(c:s.size-64*q+p.size=64*r):
 Cm CU (Cm CU h0 (s.extract 0<|64*q) q) (s.extract (64*q) s.size++p) r=Cm CU h0 (s++p) (q+r):=by
 have c:(s.extract 0<|64*q).size=64*q:=akS
 have d:(s.extract (64*q) s.size++p).size=64*r:=by rw[WC,WM];omega
 rw[<-Xl CU h0 _ _ q r c d,<-ado];congr 2;have:=adt (a:=s) (i:=0) (j:=64*q) (k:=s.size);rw[this,abu A,Nat.max_eq_right b,adM]
def dH{o:Oper}{a:Act}{b:Act->U->Prop}{Q:Exit->Act->U->Prop}(x y:Operand)(d:o.op=.store 140 x y)(e:o.dst=O)(g:N)(f:N->N)
 (h:a.eval x=V (J ⟨g,0,O⟩))(i:a.eval y=.agg (CQ f)){c:N->N}(j:w.heap[g]? =J (W (CQ c) 140 (0,0)))
 (c:b a<|w.setRow g (CQ f)):o.wp F a w b Q:=
 adx _ x y d g (CQ f) h i _ _ j (by rw[CQ,Bm];exact QX) (by rw[CQ,CQ,Bm,Bm]) (QY _ _ λ_=>rfl) (by rw[e];exact c)
def UR(s:Y)(hl:s.size<=140737488355328)(w:U)(hg:MO w):
 μ F 59 #[G s] w λe w'=>e=ε (.agg<|FH (Cm CU h0 (s++⟨(Fc (Bv s.size) s.size 8).toArray⟩) ((s.size+9+Bv s.size)/64)))/\Am w w':=by
 obtain⟨q,hq⟩:∃q,q=s.size/64:=⟨_,rfl⟩;have a3:(s.size:Z)-s.size%64=((64*q:N):Z):=A;have r:((64*q:N):Z)<=(s.size:Z):=A;have t:(0:Z)<=((64*q:N):Z):=A;have u:64*q<=s.size:=A;have HQ:=H hq;have x:(s.extract 0<|64*q).size=64*q:=akS
 have D:=H (λd=>Sn h0 Yu CU VQ (s.extract 0<|64*q) (by rw[x];omega) (by rw[x];omega) d);rw[x,Nat.mul_div_cancel_left q (by omega:0<64)] at D;have b0:(Cm CU h0 (s.extract 0<|64*q) q).ok:=Of Yu _ _;have a1:=H<|dG s ⟨(Fc (Bv s.size) s.size 8).toArray⟩ q;generalize Cm CU h0 (s.extract 0<|64*q) q=y at D b0 a1;have b1:=H hg;have c3:=H a3;have b2:=H r;have b3:=H t;have c4:=H u;clear hq a3 r t u x hg;have x:Am w<|w.alloc (W (FH ⟨0,0,0,0,0,0,0,0⟩) 97):=(Ag.refl _ w).alloc _;have a3:(w.alloc<|W (FH ⟨0,0,0,0,0,0,0,0⟩) 97).heap[w.heap.size]? =J (W (FH ⟨0,0,0,0,0,0,0,0⟩) 97 (0,0)):=WD w _;have b4:=H x;have b5:=H a3;clear x a3;go_in;go_wp2_with fail;refine(TR<|w.alloc (W (FH ⟨0,0,0,0,0,0,0,0⟩) 97)).mono ?_;rintro e d ⟨rfl,a2⟩;have b6:C<|Am w d:=b4.trans a2;have a3:=H<|AH a2 b5;have a4:C ((d.alloc (W (CQ λ_=>0) 140)).heap[d.heap.size]? =J (W (CQ λ_=>0) 140 (0,0))):=WD d _;clear b4 b5 a2;go_wp2_with (refine acu rfl λx h=>dH (.tmp 3) (.tmp 6) rfl rfl d.heap.size CU rfl rfl a4<|h _ _ ?_);rw[X c3];change Code.wp _ _ _ _ ((d.alloc (W (CQ λ_=>0) 140)).setRow d.heap.size<|CQ CU);have HK:C (((d.alloc (W (CQ λ_=>0) 140)).setRow d.heap.size<|CQ CU).heap[d.heap.size]? =J (W (CQ CU) 140 (0,0))):=aaa _ _ _ _ _ _ a4;have a2:Am d ((d.alloc (W (CQ λ_=>0) 140)).setRow d.heap.size<|CQ CU):=((Ag.refl _ d).alloc _).setRow _ (λa=>κ a<|aac _) _;have HZ:=H<|AH a2 a3;have HO:C (Am w ((d.alloc (W (CQ λ_=>0) 140)).setRow d.heap.size<|CQ CU)):=b6.trans a2;have HG:=H<|b1.old HO;have x:=(Wt.1 a3).1;have a5:=H ((Wt.1 HK).1);have b7:=H x;clear b1 b6 a3 a4 a2 x;generalize(d.alloc (W (CQ λ_=>0) 140)).setRow d.heap.size (CQ CU)=b at*;generalize d.heap.size=gk at*;generalize b9:64*q=qq at*;have a6:=H b9;clear b9;go_cut [5] from 13 to 18 λc a=>∃g,c=V (J ⟨g,0,O⟩)/\C (gk<g)/\C (a.heap[g]? =J (W (FH y) 97 (0,0)))/\C (a.heap[gk]? =J (W (CQ CU) 140 (0,0)))/\C (a.heap[w.heap.size]? =J (W (FH ⟨0,0,0,0,0,0,0,0⟩) 97 (0,0)))/\C (Am w a)
 case first=>
  have r:=X b2;have t:=X b3;have c5:((qq:N):Z).toNat=qq:=ww _;have a:C<|MO b.drew/\b.drew.heap[gk]? =J (W (CQ CU) 140 (0,0)):=⟨(X HG),HK⟩;refine Ai (S:=λb=>MO b/\b.heap[gk]? =J (W (CQ CU) 140 (0,0))) (L:=7) B ?_;refine AL (i:=0) (v:=.agg<|FH h0) (J 13) rfl rfl B B B B (λ_ _ _ c=>c) (IJ rfl _ _ rfl ⟨0,0,O⟩ rfl _ λb c=>vE c.1) a ?_;simp only[Act.put,WH,WT,WV];refine AL (i:=1) (v:=.agg<|CQ CU) (J 14) rfl rfl B B B B (λ_ _ _ c=>c) (IJ rfl _ _ rfl ⟨gk,0,O⟩ rfl _ λb c=>cU c.2) a ?_;simp only[Act.put,WH,WT,WV];refine AL (i:=2) (v:=G s) (J 15) rfl rfl B B B B (λ_ _ _ c=>c) (.inl ⟨rfl,λb _=>by go_simp⟩) a ?_;simp only[Act.put,WH,WT,WV];refine AL (i:=3) (v:=I Q (qq:N)) (J 16) rfl rfl B B B B (λ_ _ _ c=>c) (.inl ⟨rfl,λb _=>by go_simp⟩) a ?_;simp only[Act.put,WH,WT,WV];refine AL (i:=4) (v:=G<|s.extract 0 qq) (J 17) rfl rfl B B B B (λ_ _ _ c=>c) (.inl ⟨rfl,λb _=>by go_simp⟩) a ?_;simp only[Act.put,WH,WT,WV];refine dF (i:=5) (j:=6) B ?_ ?_
  .refine WE rfl λx h=>?_;go_simp;refine(D _).mono ?_;rintro e P ⟨rfl,f⟩;have m:=X a;have k:=m.1.old f;have l:=AH f m.2;refine h _ _ ⟨λ_=>⟨k,l⟩,?_⟩;clear h;refine Ah (i:=6) B ?_;refine WE rfl λx h=>?_;go_simp;have c:Am P<|P.alloc (W (FH ⟨0,0,0,0,0,0,0,0⟩) 97):=(Ag.refl _ P).alloc _;have n:=WD P<|W (FH ⟨0,0,0,0,0,0,0,0⟩) 97;refine h _ _ ⟨λ_=>⟨k.old c,AH c l⟩,?_⟩;clear h;refine Ah (i:=7) B ?_;refine DE rfl rfl<|My (.tmp 5) (.tmp 18) rfl rfl P.heap.size y rfl rfl n ?_;refine⟨λo=>κ rfl o,Aj B ?_⟩;go_wp2_with fail;go_meet
   case rel=>
    have R:Am b P:=Ag.trans ((Ag.refl _ b).drew) f;have a7:=wG a5 R.size;have c6:=X b7;have o:=AH c<|AH R HK;have p:=AH c<|AH R HZ;refine⟨_,rfl,a7,aaa _ _ _ _ _ _ n,?_,?_,?_⟩
    .exact ((Ky _ P.heap.size _).block _ (Wt.1 o).1 A).trans o
    .exact ((Ky _ P.heap.size _).block _ (Wt.1 p).1 A).trans p
    exact(Ag.trans (Ag.trans HO R) c).setRow _ (λx=>κ x A) _
  refine WE rfl λx h=>?_;go_simp;have f:Am b.drew<|b.drew.alloc (W (FH ⟨0,0,0,0,0,0,0,0⟩) 97):=(Ag.refl _ _).alloc _;have c7:=WD b.drew<|W (FH ⟨0,0,0,0,0,0,0,0⟩) 97;have m:=X a;have k:=m.1.old f;have l:=AH f m.2;refine h _ _ ⟨λ_=>⟨k,l⟩,?_⟩;clear h;refine Ah (i:=5) B ?_;refine WE rfl λx h=>?_;go_simp;refine(D _).mono ?_;rintro e w6 ⟨rfl,c⟩;have n:=AH c c7;refine h _ _ ⟨λ_=>⟨k.old c,AH c l⟩,?_⟩;clear h;refine Ah (i:=7) B ?_;refine DE rfl rfl<|My (.tmp 5) (.tmp 18) rfl rfl b.heap.size y rfl rfl n ?_;refine⟨λx=>κ rfl x,Aj B ?_⟩;go_wp2_with fail;go_meet
  case rel=>
   have a8:Am b w6:=Ag.trans (Ag.trans ((Ag.refl _ b).drew) f) c;have a7:=X a5;have:=X b7;have o:=AH a8 HK;have p:=AH a8 HZ;refine⟨_,rfl,a7,aaa _ _ _ _ _ _ n,?_,?_,?_⟩
   .exact ((Ky _ b.heap.size _).block _ (Wt.1 o).1 A).trans o
   .exact ((Ky _ b.heap.size _).block _ (Wt.1 p).1 A).trans p
   exact(Ag.trans HO a8).setRow _ (λo=>κ o A) _
 case rest=>
  obtain⟨g,rfl,d3,HH,c8,c9,d0⟩:=hcut;clear HG HK HZ HO a5;have r:=X b2;have t:=X b3;have:((qq:N):Z).toNat=qq:=ww _;have u:=X c4;have c0:=H λd=>YS s.size hl d;have a9:(⟨(Fc (Bv s.size) s.size 8).toArray⟩:Y).size=9+Bv s.size:=by show(Fc (Bv s.size) s.size 8).toArray.size=_;rw[wK,RU];omega
  have:Bv s.size<64:=wU _ A;obtain⟨r,hr⟩:∃r,s.size-qq+(9+Bv s.size)=64*r:=⟨(s.size-qq+(9+Bv s.size))/64,by have:=X HQ;have:=X a6;unfold Bv;omega⟩;have o:C<|Cm CU y (s.extract qq s.size++⟨(Fc (Bv s.size) s.size 8).toArray⟩) r=Cm CU h0 (s++⟨(Fc (Bv s.size) s.size 8).toArray⟩) ((s.size+9+Bv s.size)/64):=by
   have p:=a1 r u (by rw[a9];exact hr);have t:(s.size+9+Bv s.size)/64=q+r:=by have:=X a6;omega
   rw[t];exact p
  clear a1;have T:(s.extract qq s.size++⟨(Fc (Bv s.size) s.size 8).toArray⟩).size=64*r:=by rw[WC,WM,a9];omega
  have c1:64*r<=140737488355328:=by have:=X HQ;have:=X a6;omega
  have a0:=H (λd=>Sn y b0 CU VQ (s.extract qq s.size++⟨(Fc (Bv s.size) s.size 8).toArray⟩) (by rw[T];omega) (by rw[T];omega) d);rw[T,Nat.mul_div_cancel_left r (by omega:0<64)] at a0;rw[X o] at a0;clear o;have:IntKind.u64.wrap (s.size:Z)=s.size:=alb
  generalize c2:Cm CU h0 (s++⟨(Fc (Bv s.size) s.size 8).toArray⟩) ((s.size+9+Bv s.size)/64)=z at*;have d1:=H c2;clear c2;clear a9 hr T c1;have d2:(⟨(Fc (Bv s.size) s.size 8).toArray⟩:Y).size<=100:=by show(Fc (Bv s.size) s.size 8).toArray.size<=_;rw[wK,RU];omega
  generalize(⟨(Fc (Bv s.size) s.size 8).toArray⟩:Y)=pd at c0 a0 d2;have a:C<|wc.drew.heap[g]? =J (W (FH y) 97 (0,0))/\wc.drew.heap[gk]? =J (W (CQ CU) 140 (0,0)):=⟨HH,c8⟩;go_upto_region 4 with fail;refine Ai (S:=λb=>b.heap[g]? =J (W (FH y) 97 (0,0))/\b.heap[gk]? =J (W (CQ CU) 140 (0,0))) (L:=11) B ?_;refine AL (i:=0) (v:=.agg<|FH y) (J 19) rfl rfl B B B B (λ_ _ _ d=>d) (IJ rfl _ _ rfl ⟨g,0,O⟩ rfl _ λb d=>tR d.1) a ?_;simp only[Act.put,WH,WT,WV];refine AL (i:=1) (v:=.agg<|CQ CU) (J 20) rfl rfl B B B B (λ_ _ _ d=>d) (IJ rfl _ _ rfl ⟨gk,0,O⟩ rfl _ λb d=>cU d.2) a ?_;simp only[Act.put,WH,WT,WV];refine AL (i:=2) (v:=G s) (J 21) rfl rfl B B B B (λ_ _ _ d=>d) (.inl ⟨rfl,λb _=>by go_simp⟩) a ?_;simp only[Act.put,WH,WT,WV];refine AL (i:=3) (v:=I Q (qq:N)) (J 22) rfl rfl B B B B (λ_ _ _ d=>d) (.inl ⟨rfl,λb _=>by go_simp⟩) a ?_;simp only[Act.put,WH,WT,WV];refine AL (i:=4) (v:=G<|s.extract qq s.size) (J 23) rfl rfl B B B B (λ_ _ _ d=>d) (.inl ⟨rfl,λb _=>by go_simp⟩) a ?_;simp only[Act.put,WH,WT,WV];refine AL (i:=5) (v:=G s) (J 24) rfl rfl B B B B (λ_ _ _ d=>d) (.inl ⟨rfl,λb _=>by go_simp⟩) a ?_;simp only[Act.put,WH,WT,WV];refine AL (i:=6) (v:=I Q (s.size:N)) (J 25) rfl rfl B B B B (λ_ _ _ d=>d) (.inl ⟨rfl,λb _=>by go_simp⟩) a ?_;simp only[Act.put,WH,WT,WV];refine AL (i:=7) (v:=I .u64 (s.size:N)) (J 26) rfl rfl B B B B (λ_ _ _ d=>d) (.inl ⟨rfl,λb _=>by go_simp⟩) a ?_;simp only[Act.put,WH,WT,WV];refine Ah (i:=8) B ?_;refine WE rfl λb h=>?_;go_simp;refine(c0 _).mono ?_;rintro e P ⟨rfl,f⟩;have m:=X a;have k:=AH f m.1;have l:=AH f m.2;refine h _ _ ⟨λ_=>⟨k,l⟩,?_⟩;clear h;refine Ah (i:=9) B ?_;refine WE rfl λa h=>?_;go_simp;rw[Wx A];go_simp;refine h _ _ ⟨λ_=>⟨k,l⟩,?_⟩;clear h;refine Ah (i:=10) B ?_;refine WE rfl λa h=>?_;go_simp;refine(a0 _).mono ?_;rintro e w6 ⟨rfl,c⟩;have n:=AH c (AH f (show wc.drew.heap[w.heap.size]? =_ from X c9));refine h _ _ ⟨λ_=>⟨AH c k,AH c l⟩,?_⟩;clear h;refine Ah (i:=11) B ?_;refine DE rfl rfl<|My (.tmp 2) (.tmp 29) rfl rfl w.heap.size z rfl rfl n ?_;refine⟨λh=>κ rfl h,Aj B ?_⟩;go_wp2_with fail;refine wI (v:=.agg<|FH z) (abe results59 _ _ w.heap.size 97 (FH z) (0,0) _ rfl (aaa w6 w.heap.size _ (FH z) _ _ n) underlying97 rfl JW) rfl ⟨by rw[X d1],?_⟩;exact(Ag.trans (Ag.trans d0.drew f) c).setRow _ (λh=>κ h A) _
def nJ(s:Y)(i:s.size<=140737488355328)(w:U)(j:MO w):
 μ F 25 #[G s] w λe w'=>e=ε (G<|CY s)/\Am w w':=by
 have g:=H λa h=>UR s i a h;have h:C (∀a,μ F 58 #[.agg<|FH (Cm CU h0 (s++⟨(Fc (Bv s.size) s.size 8).toArray⟩) ((s.size+9+Bv s.size)/64))] a λe w'=>e=ε (G<|CY s)/\Am a w'):=λa=>by
  rw[Qm];exact iX _ (Of Yu _ _) a
 generalize Cm CU h0 (s++⟨(Fc (Bv s.size) s.size 8).toArray⟩) ((s.size+9+Bv s.size)/64)=z at g h;have k:=H j;generalize CY s=d at*;go_in;go_wp2_with fail;apply(g w k).mono;rintro e l ⟨rfl,a⟩;have b:=H a;go_wp2_with fail;apply(h l).mono;rintro e m ⟨rfl,c⟩;have f:=H<|Ag.trans b c;go_wp2;go_ret;exact⟨rfl,f⟩
def Ps(s:Y)(a:s.size<=140737488355328)(w:U)(b:MO w):
 μ F 8 #[G s] w λe w'=>e=ε (G<|CY s)/\Am w w':=by
 have c:=H<|nJ s a w b;generalize CY s=d at*;go_in;go_wp2_with fail;apply c.mono;exact ajF
abbrev DU:M:=K O 0 0
def Ag.oldW{S:N->Prop}(h:Am w w'):Ag S w w':=h.mono λ_ _ x=>x.elim
def Ci(k a c:Z)(s t:Y)(tr fi:M):φ M:= #[I Q k,I Q a,I Q c,G s,G t,tr,fi]
def ZF(x y:M):φ M:= #[I Q 1,I Q 0,I Q 0,G ⟨#[109,46,120,47,121]⟩,G ⟨#[118,49,46,50,46,51]⟩,DU,DU,I Q 2,I Q 0,I Q 0,G ⟨#[97,98,99]⟩,G ⟨#[]⟩,DU,DU,I Q 3,I Q 0,I Q 0,G ⟨#[1,2,0,253,255,72,105]⟩,G ⟨#[]⟩,DU,DU,I Q 4,I Q 0,I Q 0,G ⟨#[72,105]⟩,G ⟨#[]⟩,DU,DU,I Q 5,I Q 0,I Q 0,G ⟨#[]⟩,G ⟨#[]⟩,x,DU,I Q 6,I Q 0,I Q 0,G ⟨#[]⟩,G ⟨#[]⟩,x,DU,I Q 7,I Q 0,I Q 0,G ⟨#[]⟩,G ⟨#[]⟩,DU,DU,I Q 10,I Q 0,I Q 0,G ⟨#[]⟩,G ⟨#[]⟩,DU,y,I Q 11,I Q 0,I Q 0,G ⟨#[]⟩,G ⟨#[]⟩,DU,DU,I Q 13,I Q 0,I Q 0,G ⟨#[112]⟩,G ⟨#[]⟩,DU,DU,I Q 14,I Q 0,I Q 0,G ⟨#[112]⟩,G ⟨#[]⟩,DU,DU]
def LU{P:N->Prop}(h0:P 0)(a:P 1)(b:P 2)(c:P 3)(d:P 4)(e:P 5)(f:P 6):∀j,j<7->P j:=by
 intro j hj
 match j,hj with
 |0,_=>exact h0
 |1,_=>exact a
 |2,_=>exact b
 |3,_=>exact c
 |4,_=>exact d
 |5,_=>exact e
 |6,_=>exact f
def Pt{o:Obj}(a:g=w.heap.size):(w.alloc o).heap[g]? =J o:=by subst a;exact WD w o
def Dr{o a :Obj}(h:w.heap[g]? =J o):(w.alloc a).heap[g]? =J o:=AH ((Ag.refl _ w).alloc a) h
def ZG{P:Program}{c:Code}{Q:Exit->Act->U->Prop}{a:Act}{b:U}(R:U->Prop)(e:R b)(h:∀d,R d ->c.wp P Q a d):c.wp P Q a b:=h b e
def Re(w:U):μ F 5 #[] w λe w'=>e=ε (V<|J ⟨w.heap.size,0,O⟩)/\w'=w.alloc (W #[DU,I Q (-1),I Q (-1),I Q 0,.bool false] 46):=akH
