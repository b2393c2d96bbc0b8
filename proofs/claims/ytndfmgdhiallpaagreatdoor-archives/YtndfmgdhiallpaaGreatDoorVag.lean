import Derived.Test.YtndfmgdhiallpaaGreatDoorVaa
set_option linter.all false
set_option maxRecDepth 100000
set_option maxHeartbeats 1000000
open _root_ renaming Option.some->J,Option.none->O,Int->Z,Nat->N,Go.Value.int->I,Go.Value.string->G,Go.IntKind.i64->Q,ByteArray->Y,List->E,Go.World->U,Go.Value.slice->K,Go.Value->β,Go.Obj.cells->γ,Go.Value.pointer->δ,Go.Ending.returned->ε,absurd->κ,Go.Calls->μ,Go.IntKind.u32->σ,Go.IntKind.u8->τ,Array->φ,Go.RowKit.Hid->χ,Go.Proofs.Tryz.prog->ψ
namespace Go.Proofs.YtndfmgdhiallpaaGreatDoor
open Go.RowKit Go.Proofs.Tryz
def mp{n:N}(b:1<=n)(c:n<=31):bits BinOp.and IntKind.u64 (IntKind.u64.wrap (-(n:Z))) 31=((32- n:N):Z):=by
 have a:IntKind.u64.wrap (-(n:Z))=((18446744073709551616- n:N):Z):=by rw[ux];omega
 have:=u64_and_nat (18446744073709551616- n) 31 Aa Aa;rw[nat_mask5] at this;rw[a];refine this.trans ?_;omega
def jf{v m n:N}(c:v<4294967296)(d:m+n=32):bits BinOp.or IntKind.u32 ((v*2^m%4294967296:N):Z) ((v/2^n:N):Z)=(DC v n:Z):=by
 have a:v*2^m%4294967296<4294967296:=si _ Aa;have b:v/2^n<4294967296:=tR (uN _ _) c;rw[uH _ _ a b,yD,show m=32- n by omega]
 rfl
def dO(v n:N)(l:v<4294967296)(h:1<=n)(i:n<=31)(w:U):
 μ ψ 362 #[I σ v,I Q (-(n:Z))] w λe w' =>e=ε (I σ (DC v n))/\w' =w:=by
 have a:=mp h i;obtain⟨m,c⟩: ∃m,m+n=32:=⟨32- n,Aa⟩;rw[show 32- n=m by omega] at a;have j:1<=m:=Aa;have k:m<=31:=Aa;have d:=Af c;clear c;go_in;go_wp2;go_ret;refine⟨Bb (show Value.int σ (bits BinOp.or IntKind.u32 ((v:Z)*2^m%4294967296) ((v:Z)/2^(32- m)))=_ from ?_),rfl⟩;have b:=uh d;have f:(v:Z)*2^m%4294967296=((v*2^m%4294967296:N):Z):=by rw[uY,sY,so];rfl
 have g:(v:Z)/2^n=((v/2^n:N):Z):=by rw[sR,so];rfl
 rw[show 32- m=n by omega,f,g,jf l b]
def mq(v n:N)(c:Z)(d:c= -(n:Z))(f:v<4294967296)(a:1<=n)(b:n<=31)(w:U):
 μ ψ 362 #[I σ v,I Q c] w λe w' =>e=ε (I σ (DC v n))/\w' =w:=by
 subst d;exact dO v n f a b w
def CI(v n:N)(c:Z)(d:c=(n:Z))(f:v<4294967296)(a:1<=n)(b:n<=31)(w:U):
 μ ψ 358 #[I σ v,I Q c] w λe w' =>e=ε (I σ (DC v n))/\w' =w:=by
 subst d;go_in;go_wp2_with fail;refine(mq v n _ Aa f a b _).mono ?_;exact abQ
def oR{a:N}(h:a<4294967296):bits BinOp.xor IntKind.u32 (bits BinOp.xor IntKind.u32 (DC a 7) (DC a 18)) ((a:Z)/8)=(kY a:Z):=by
 have b:=Bh 7 h;have c:=Bh 18 h;rw[uA _ _ b c];exact uA _ (a/8) (DL b c) Aa
def oS{a:N}(h:a<4294967296):bits BinOp.xor IntKind.u32 (bits BinOp.xor IntKind.u32 (DC a 17) (DC a 19)) ((a:Z)/1024)=(kZ a:Z):=by
 have b:=Bh 17 h;have c:=Bh 19 h;rw[uA _ _ b c];exact uA _ (a/1024) (DL b c) Aa
def oT{a:N}(h:a<4294967296):bits BinOp.xor IntKind.u32 (bits BinOp.xor IntKind.u32 (DC a 2) (DC a 13)) (DC a 22)=(iQ a:Z):=aaF
def oU{a:N}(h:a<4294967296):bits BinOp.xor IntKind.u32 (bits BinOp.xor IntKind.u32 (DC a 6) (DC a 11)) (DC a 25)=(cN a:Z):=aaF
def mr{e:N}(f g:N)(h:e<4294967296):(e&&&f)|||((4294967295- e)&&&g)=ZI e f g:=by
 unfold ZI;apply Nat.eq_of_testBit_eq;intro i;have a:(4294967295- e).testBit i=(decide (i<32)&& !e.testBit i):=by
  rw[show 4294967295- e=2^32- (e+1) by omega];exact Nat.testBit_two_pow_sub_succ Aa i
 simp only[Nat.testBit_or,Nat.testBit_xor,Nat.testBit_and,a];cases e.testBit i<;>cases f.testBit i<;>cases g.testBit i<;>cases decide (i<32)<;>rfl
def ms(a b c:N):((a&&&b)|||(a&&&c))|||(b&&&c)=cO a b c:=by
 unfold cO;apply Nat.eq_of_testBit_eq;intro i;simp only[Nat.testBit_or,Nat.testBit_xor,Nat.testBit_and];cases a.testBit i<;>cases b.testBit i<;>cases c.testBit i<;>rfl
def oV{e f g:N}(a:e<4294967296)(b:f<4294967296)(c:g<4294967296):
 bits BinOp.or IntKind.u32 (bits BinOp.and IntKind.u32 e f) (bits BinOp.and IntKind.u32 (bits BinOp.xor IntKind.u32 IntKind.u32.max e) g)=(ZI e f g:Z):=by
 rw[YM a,vx _ _ a b,vx _ _ Aa c,uH _ _ (FD _ a) (FD _ Aa),mr _ _ a]
def oW{a b c:N}(d:a<4294967296)(e:b<4294967296)(f:c<4294967296):
 bits BinOp.or IntKind.u32 (bits BinOp.or IntKind.u32 (bits BinOp.and IntKind.u32 a b) (bits BinOp.and IntKind.u32 a c)) (bits BinOp.and IntKind.u32 b c)=(cO a b c:Z):=by
 rw[vx _ _ d e,vx _ _ d f,vx _ _ e f,uH _ _ (FD _ d) (FD _ d),uH _ _ (cH (FD _ d) (FD _ d)) (FD _ e),ms]
def TK(v:N)(a:v<4294967296)(w:U):μ ψ 346 #[I σ v] w λe w' =>e=ε (I σ (kY v))/\w' =w:=by
 have b:=oR a;go_in;go_wp2_with fail;refine(CI v 7 7 rfl a Aa Aa _).mono ?_;rintro e w1 ⟨rfl,rfl⟩;go_wp2_with fail;refine(CI v 18 18 rfl a Aa Aa _).mono ?_;exact abQ
def TL(v:N)(a:v<4294967296)(w:U):μ ψ 345 #[I σ v] w λe w' =>e=ε (I σ (kZ v))/\w' =w:=by
 have b:=oS a;go_in;go_wp2_with fail;refine(CI v 17 17 rfl a Aa Aa _).mono ?_;rintro e w1 ⟨rfl,rfl⟩;go_wp2_with fail;refine(CI v 19 19 rfl a Aa Aa _).mono ?_;exact abQ
def am(v:N)(a:v<4294967296)(w:U):μ ψ 342 #[I σ v] w λe w' =>e=ε (I σ (iQ v))/\w' =w:=by
 have b:=oT a;go_in;go_wp2_with fail;refine(CI v 2 2 rfl a Aa Aa _).mono ?_;rintro e w1 ⟨rfl,rfl⟩;go_wp2_with fail;refine(CI v 13 13 rfl a Aa Aa _).mono ?_;rintro e w1 ⟨rfl,rfl⟩;go_wp2_with fail;refine(CI v 22 22 rfl a Aa Aa _).mono ?_;exact abQ
def ap(v:N)(a:v<4294967296)(w:U):μ ψ 340 #[I σ v] w λe w' =>e=ε (I σ (cN v))/\w' =w:=by
 have b:=oU a;go_in;go_wp2_with fail;refine(CI v 6 6 rfl a Aa Aa _).mono ?_;rintro e w1 ⟨rfl,rfl⟩;go_wp2_with fail;refine(CI v 11 11 rfl a Aa Aa _).mono ?_;rintro e w1 ⟨rfl,rfl⟩;go_wp2_with fail;refine(CI v 25 25 rfl a Aa Aa _).mono ?_;exact abQ
def Xj(e f g:N)(a:e<4294967296)(b:f<4294967296)(c:g<4294967296)(w:U):μ ψ 341 #[I σ e,I σ f,I σ g] w λr w' =>r=ε (I σ (ZI e f g))/\w' =w:=by
 have d:=oV a b c;go_in;go_wp2;exact yY
def Si(a b c:N)(d:a<4294967296)(e:b<4294967296)(f:c<4294967296)(w:U):μ ψ 343 #[I σ a,I σ b,I σ c] w λr w' =>r=ε (I σ (cO a b c))/\w' =w:=by
 have g:=oW d e f;go_in;go_wp2;exact yY
open Go.RowKit Go.Maps Go.Proofs.Tryz
def qJ{a b c d:N}(h:a<256)(i:b<256)(j:c<256)(k:d<256):
 bits BinOp.or IntKind.u32 (bits BinOp.or IntKind.u32 (bits BinOp.or IntKind.u32 ((a:Z)*16777216) ((b:Z)*65536)) ((c:Z)*256)) (d:Z)=((a*16777216+b*65536+c*256+d:N):Z):=by
 have e:(a:Z)*16777216=((a*16777216:N):Z):=Aa;have f:(b:Z)*65536=((b*65536:N):Z):=Aa;have g:(c:Z)*256=((c*256:N):Z):=Aa;rw[e,f,g,uH _ _ Aa Aa,yK 24 (a*16777216) (b*65536) Aa Aa,uH _ _ Aa Aa,
  yK 16 (a*16777216+b*65536) (c*256) Aa Aa,uH _ _ Aa Aa,yK 8 (a*16777216+b*65536+c*256) d Aa Aa]
def Xk(s:Y)(k:N)(h:k+4<=s.size)(q:s.size<=64)(w:U):
 μ ψ 344 #[G s,I Q k] w λe w' =>e=ε (I σ (cC s k))/\∃m,w' =w.drewN m:=by
 have n:(k:Z)<(s.size:Z):=Aa;have o:(k:Z)+1<(s.size:Z):=Aa;have g2:(k:Z)+2<(s.size:Z):=Aa;have p:(k:Z)+3<(s.size:Z):=Aa;have r:(0:Z)<=(k:Z):=Aa;have t:(0:Z)<=(k:Z)+1:=Aa;have u:(0:Z)<=(k:Z)+2:=Aa;have v:(0:Z)<=(k:Z)+3:=Aa;have x:((k:Z)+1).toNat=k+1:=Aa;have y:((k:Z)+2).toNat=k+2:=Aa;have z:((k:Z)+3).toNat=k+3:=Aa;have g:=AC (s:=s) (k:=k) Aa;have i:=AC (s:=s) (k:=k+1) Aa;have j:=AC (s:=s) (k:=k+2) Aa;have l:=AC (s:=s) (k:=k+3) Aa;have b:=Bf s k;have c:=Bf s (k+1);have d:=Bf s (k+2);have f:=Bf s (k+3);go_in;go_wp2_with fail;go_quiet (fail);go_wp2;go_ret;have a:=qJ b c d f;exact⟨Bb (show Value.int σ (bits BinOp.or IntKind.u32 (bits BinOp.or IntKind.u32 (bits BinOp.or IntKind.u32 ((As s k:Z)*16777216) ((As s (k+1):Z)*65536)) ((As s (k+2):Z)*256)) (As s (k+3):Z))=_ by rw[a];rfl),_,rfl⟩
def Ob{W:U}{g t i:N}{u v:β}(h:W.cell? ⟨g,i,O⟩=J v)(a:¬t=i):(W.setCell ⟨g,t,O⟩ u).drew.cell? ⟨g,i,O⟩=J v:=
 (World.cell?_setCell_other W ⟨g,t,O⟩ ⟨g,i,O⟩ u (by intro e;injection e;exact a ‹_›)).trans h
def Oc:(prog.info? 247).map (·.size)=J 64:=Ab
def Od(n:N)(f:N->β)(h: ∀j,(f j).oneCell' =true):(CE n f).all (·.oneCell')=true:=by
 rw[vd];intro v a;simp[CE] at a;obtain⟨j,_,rfl⟩:=a;exact h j
def jg{a b c d n:N}(h:n=(a+b+c+d)%4294967296):Value.int σ (((((a:Z)+b)%4294967296+c)%4294967296+d)%4294967296)=I σ (n:Z):=by
 rw[h];congr 1;omega
def Te(s:Y)(t j:N):β:=if j<t then I σ (wt s j) else I σ 0
def jh(s:Y)(t j:N):(Te s t j).oneCell' =true:=by unfold Te;split<;>rfl
def dP{s:Y}{t j:N}(h:j<t):Te s t j=I σ (wt s j):=rd h
def TM(s:Y)(t:N): ∀j,j<64->(if j=t then Value.int σ (wt s t) else Te s t j)=Te s (t+1) j:=by
 intro j _;unfold Te;exact Hm
def Xl(s:Y)(hs:s.size=64)(w:U):
 μ ψ 303 #[G s] w λe w' =>e=ε (.agg (CE 64 (λj=> I σ (wt s j))))/\Al w w' :=by
 go_in;go_wp2;go_loopw [6] (λi wr=> ∃t:N,t<=16/\i=I Q t/\χ (ES wr (w.heap.size+1) 247 64 (Te s t))/\χ (ES wr w.heap.size 247 64 (Te s 0))/\χ (Al w wr)) (λi _=>16- (intOf i).toNat)
 .refine ⟨0,Aa,rfl, ?_, ?_,((Ag.refl _ w).alloc _).alloc _⟩
  .refine Af (ES.mk' Ad ?_)
   kernel_rfl
  refine Af ((ES.mk' rfl ?_).alloc _)
  kernel_rfl
 obtain⟨t,ht,rfl,f,x,HO⟩:=hrel;by_cases D:t<16
 .have R:=Af (λ(w1:U)=>Xk s (4*t) Aa Aa w1);rw[show((4*t:N):Z)=4*(t:Z) by omega] at R;have L:=f.row.thaw;have H:=f.row.cell t Aa;have W:χ (cC s (4*t)=wt s t):=Af (VM s t D).symm;have g:(t:Z)<64:=Aa;go_wp2_with (go_at_call 344;refine(R _).mono ?_;rintro e w1 ⟨rfl,m,rfl⟩;rw[uh W]);go_roundw
  .refine ⟨t+1,Aa,by go_num, ?_, ?_, ?_⟩
   .exact ((f.drewN m).set t _).congr (TM s t)
   .exact (x.drewN m).setOther _ _ Aa _
   exact((HO.drewN m).setCell (p:=⟨w.heap.size+1,t,O⟩) (λh=>κ (show w.heap.size+1<w.heap.size from h) Aa) _)
  exact Ae
 have k:t=16:=Aa;rw[k] at f;clear k;go_wp2;go_loopw [5] (λi wr=> ∃t:N,16<=t/\t<=64/\i=I Q t/\χ (ES wr (w.heap.size+1) 247 64 (Te s t))/\χ (ES wr w.heap.size 247 64 (Te s 0))/\χ (Al w wr)) (λi _=>64- (intOf i).toNat)
 .exact ⟨16,Aa,Aa,rfl,f,x,HO⟩
 obtain⟨t,V,ht,rfl,f,x,HO⟩:=hrel;by_cases F:t<64
 .have L:=f.row.thaw;have H:=f.row.cell t F;have c1:=f.row.cell (t- 15) Aa;have o:=f.row.cell (t- 2) Aa;have C:=f.row.cell (t- 7) Aa;have z:=f.row.cell (t- 16) Aa;rw[dP Aa] at c1 o C z;have i1:((t:Z)- 15).toNat=t- 15:=Aa;have i2:((t:Z)- 2).toNat=t- 2:=Aa;have i3:((t:Z)- 7).toNat=t- 7:=Aa;have i4:((t:Z)- 16).toNat=t- 16:=Aa;have n1:(0:Z)<=(t:Z)- 15:=Aa;have n2:(0:Z)<=(t:Z)- 2:=Aa;have n3:(0:Z)<=(t:Z)- 7:=Aa;have n4:(0:Z)<=(t:Z)- 16:=Aa;have w1:IntKind.i64.wrap ((t:Z)- 15)=(t:Z)- 15:=by rw[sx];omega
  have w2:IntKind.i64.wrap ((t:Z)- 2)=(t:Z)- 2:=by rw[sx];omega
  have w3:IntKind.i64.wrap ((t:Z)- 7)=(t:Z)- 7:=by rw[sx];omega
  have w4:IntKind.i64.wrap ((t:Z)- 16)=(t:Z)- 16:=by rw[sx];omega
  have p1:(15:Z)<=(t:Z):=Aa;have p2:(2:Z)<=(t:Z):=Aa;have p3:(7:Z)<=(t:Z):=Aa;have p4:(16:Z)<=(t:Z):=Aa;have m0:(t:Z)<64:=Aa;have m1:(t:Z)- 15<64:=Aa;have m2:(t:Z)- 2<64:=Aa;have m3:(t:Z)- 7<64:=Aa;have m4:(t:Z)- 16<64:=Aa;have d1:¬t=t- 15:=Aa;have d2:¬t=t- 2:=Aa;have d3:¬t=t- 7:=Aa;have d4:¬t=t- 16:=Aa;have l:=Af (RQ s t Aa);have y:=KK s (t- 15);have n:=KK s (t- 2);have b9:=KK s (t- 7);have X:=KK s (t- 16);generalize wt s (t- 15)=a at c1 y l;generalize wt s (t- 2)=b at o n l;generalize wt s (t- 7)=c at C b9 l;generalize wt s (t- 16)=d at z X l;have l0:=cP y;have l1:=cQ n;have r:=Af (λ(w1:U)=>TK a y w1);have u:=Af (λ(w1:U)=>TL b n w1);generalize kY a=A at r l0 l;generalize kZ b=B at u l1 l;go_wp2_with fail;go_region_held3 (λw' =>w'.cell? ⟨w.heap.size+1,t- 2,O⟩=J (I σ b)/\w'.cell? ⟨w.heap.size+1,t- 7,O⟩=J (I σ c)/\w'.cell? ⟨w.heap.size+1,t- 15,O⟩=J (I σ a)/\w'.cell? ⟨w.heap.size+1,t- 16,O⟩=J (I σ d)) (first|exact⟨Ob o d2,Ob C d3,Ob c1 d1,Ob z d4⟩|go_keep)
   (first
    |(go_at_call 345;refine(u _).mono ?_;rintro e w1 ⟨rfl,rfl⟩)
    |(go_at_call 346;refine(r _).mono ?_;rintro e w1 ⟨rfl,rfl⟩))
  go_wp2;go_roundw
  .refine ⟨t+1,Aa,Aa,by go_num, ?_, ?_, ?_⟩
   .rw[jg (uh l)];exact((f.set t _).drewN 1).congr (TM s t)
   .exact (x.setOther _ _ Aa _).drewN 1
   exact((HO.setCell (p:=⟨w.heap.size+1,t,O⟩) (λh=>κ (show w.heap.size+1<w.heap.size from h) Aa) _).drew)
  exact Ae
 have g:t=64:=Aa;rw[g] at f;clear g;have hW:wr.heap[w.heap.size+1]? =J (γ (CE 64 (Te s 64)) 247 (0,0)):=uh f;have T:wr.heap[w.heap.size]? =J (γ (CE 64 (Te s 0)) 247 (0,0)):=uh x;have M:(prog.info? 247).map (·.size)=J (CE 64 (Te s 64)).size:=by rw[Bi];exact Oc
 have h1:(CE 64 (Te s 64)).all (·.oneCell')=true:=Od _ _ (jh s 64);have q:χ (CE 64 (Te s 64)=CE 64 (λj=> I σ (wt s j))):=Je (λj hj=>dP hj);have P:(CE 64 (Te s 0)).size=(CE 64 (Te s 64)).size:=by rw[Bi,Bi]
 generalize S:CE 64 (Te s 64)=A at*;have HH:=Af S;clear S;go_wp2_with (first
  |(refine uC rfl 247 (.tmp 3) rfl (w.heap.size+1) rfl 247 A (0,0) _ hW underlying247 rfl M ?_)
  |(refine sF rfl 247 (.tmp 2) (.tmp 43) rfl w.heap.size A rfl rfl 247 _ T M P h1 ?_))
 refine rU (v:=.agg A) (tO results303 _ _ w.heap.size 247 A (0,0) _ rfl (sw wr w.heap.size _ A _ _ T) underlying247 rfl M) rfl ⟨?_, ?_⟩
 .rw[uh q]
 exact aas
def EE(x:E8):φ β:=CE 8 (λj=> I σ (x.nth j))
def Cn(f:N->N):φ β:=CE 64 (λj=> I σ (f j))
def ON{P:Program}{f:FuncId}{args:φ β}{w:U}{k n:N}{v:β}
 (h:μ P f args (w.drewN (k+n)) λe w' =>e=ε v/\w' =w.drewN (k+n)):μ P f args (w.drewN (k+n)) λe a =>e=ε v/\∃m,a =w.drewN (k+m):=
 h.mono λ_ _ ⟨b,hm⟩=>⟨b,n,hm⟩
def Iv:(prog.info? 181).map (·.size)=J 8:=Ab
def lu(a b c d e f g h:Z):(#[I σ a,I σ b,I σ c,I σ d,I σ e,I σ f,I σ g,I σ h]:φ β).all (·.oneCell')=true:=by
 rw[vd];intro v i;simp at i;rcases i with rfl|rfl|rfl|rfl|rfl|rfl|rfl|rfl<;>rfl
def TN(x y:E8):φ β:= #[I σ (((x.a:Z)+y.a)%4294967296),I σ (((x.b:Z)+y.b)%4294967296),I σ (((x.c:Z)+y.c)%4294967296),I σ (((x.d:Z)+y.d)%4294967296),I σ (((x.e:Z)+y.e)%4294967296),I σ (((x.f:Z)+y.f)%4294967296),I σ (((x.g:Z)+y.g)%4294967296),I σ (((x.h:Z)+y.h)%4294967296)]
def Np(a b:N):((a:Z)+b)%4294967296=(((b+a)%4294967296:N):Z):=Aa
def dQ(x y:E8):TN x y=EE (y.plus x):=by
 unfold TN;rw[Np,Np,Np,Np,Np,Np,Np,Np]
 rfl
def OO(x:E8)(c d:N->N)(w:U)(z:φ β)(b a:TypeId):
 ES ((((w.alloc (γ (EE x) b)).alloc (γ (Cn c) a)).alloc (γ (Cn d) a)).alloc (γ z b)) w.heap.size b 8 (λj=> I σ (x.nth j))/\
 ES ((((w.alloc (γ (EE x) b)).alloc (γ (Cn c) a)).alloc (γ (Cn d) a)).alloc (γ z b)) (w.heap.size+1) a 64 (λj=> I σ (c j))/\
 ES ((((w.alloc (γ (EE x) b)).alloc (γ (Cn c) a)).alloc (γ (Cn d) a)).alloc (γ z b)) (w.heap.size+2) a 64 (λj=> I σ (d j))/\
 ((((w.alloc (γ (EE x) b)).alloc (γ (Cn c) a)).alloc (γ (Cn d) a)).alloc (γ z b)).heap[w.heap.size+3]? =J (γ z b (0,0))/\
 Al w ((((w.alloc (γ (EE x) b)).alloc (γ (Cn c) a)).alloc (γ (Cn d) a)).alloc (γ z b)):=by
 refine⟨(((ES.mk' rfl rfl).alloc _).alloc _).alloc _,((ES.mk' Ad rfl).alloc _).alloc _,(ES.mk' Ad rfl).alloc _, ?_,((((Ag.refl _ w).alloc _).alloc _).alloc _).alloc _⟩;have:=rh (((w.alloc (γ (EE x) b)).alloc (γ (Cn c) a)).alloc (γ (Cn d) a)) (γ z b);simpa using this
def Sj(x:E8)(hx:x.ok)(k l:N->N)(hk: ∀j,k j<4294967296)(hw: ∀j,l j<4294967296)(w:U):
 μ ψ 302 #[.agg (EE x),.agg (Cn k),.agg (Cn l)] w λe w' =>e=ε (.agg (EE ((Cd k l 64 x).plus x)))/\Al w w' :=by
 go_in;go_wp2_with fail;obtain⟨o,X,hW,D,hO⟩:=OO x k l w #[I σ 0,I σ 0,I σ 0,I σ 0,I σ 0,I σ 0,I σ 0,I σ 0] 181 247;generalize(((w.alloc (γ (EE x) 181)).alloc (γ (Cn k) 247)).alloc (γ (Cn l) 247)).alloc (γ #[I σ 0,I σ 0,I σ 0,I σ 0,I σ 0,I σ 0,I σ 0,I σ 0] 181)=W at*;have s0:W.cell? ⟨w.heap.size,0,O⟩=J (I σ x.a):=o.row.cell 0 Aa;have s1:W.cell? ⟨w.heap.size,1,O⟩=J (I σ x.b):=o.row.cell 1 Aa;have s2:W.cell? ⟨w.heap.size,2,O⟩=J (I σ x.c):=o.row.cell 2 Aa;have s3:W.cell? ⟨w.heap.size,3,O⟩=J (I σ x.d):=o.row.cell 3 Aa;have s4:W.cell? ⟨w.heap.size,4,O⟩=J (I σ x.e):=o.row.cell 4 Aa;have s5:W.cell? ⟨w.heap.size,5,O⟩=J (I σ x.f):=o.row.cell 5 Aa;have s6:W.cell? ⟨w.heap.size,6,O⟩=J (I σ x.g):=o.row.cell 6 Aa;have s7:W.cell? ⟨w.heap.size,7,O⟩=J (I σ x.h):=o.row.cell 7 Aa;have L:=Af X;have M:=Af hW;have R:=Af D;have HO:=Af hO;clear o X hW D hO;go_quiet (fail);go_wp2_with fail;go_quiet (fail);go_wp2;go_loopw [7,8,9,10,11,12,13,14,34] (λa b c d e f g h i wr=> ∃t n:N,t<=64/\i=I Q t/\wr=W.drewN n/\a=I σ (Cd k l t x).a/\b=I σ (Cd k l t x).b/\c=I σ (Cd k l t x).c/\d=I σ (Cd k l t x).d/\e=I σ (Cd k l t x).e/\f=I σ (Cd k l t x).f/\g=I σ (Cd k l t x).g/\h=I σ (Cd k l t x).h) (λ_ _ _ _ _ _ _ _ i _=>64- (intOf i).toNat)
 .exact ⟨0,_,Aa,rfl,(by first|rfl|exact World.drewN_drewN ..),rfl,rfl,rfl,rfl,rfl,rfl,rfl,rfl⟩
 obtain⟨t,n,ht,rfl,rfl,rfl,rfl,rfl,rfl,rfl,rfl,rfl,rfl⟩:=hrel;by_cases C:t<64
 .have q:χ (Cd k l (t+1) x=(Cd k l t x).round (k t) (l t)):=rfl;have F:=Mp k l t hx;have bk:=hk t;have bw:=hw t;have ck:=L.row.cell t C;have cw:=M.row.cell t C;have a0:(0:Z)<=(t:Z):=Aa;have a1:(t:Z)<64:=Aa;generalize Cd k l t x=y at q F ⊢;obtain⟨a,b,c,d,e,f,g,h⟩:=y;obtain⟨A,H,S,bd,B,T,V,bh⟩:=F;simp only at A H S bd B T V bh;have l0:=cR A;have l1:=cS B;have lc:=cT (f:=f) (g:=g) B;have lm:=cU (c:=c) A H;have z:=Af (λ(w1:U)=>ap e B w1);have u:=Af (λ(w1:U)=>am a A w1);have r:=Af (λ(w1:U)=>Xj e f g B T V w1);have s:=Af (λ(w1:U)=>Si a b c A H S w1);have m:χ (Cd k l (t+1) x=⟨(h+cN e+ZI e f g+k t+l t+(iQ a+cO a b c))%4294967296,a,b,c,(d+(h+cN e+ZI e f g+k t+l t))%4294967296,e,f,g⟩):=uh q;clear q;generalize ZI e f g=CH at r lc m;generalize cO a b c=MJ at s lm m;generalize iQ a=B0 at u l0 m;generalize cN e=B1 at z l1 m;generalize k t=kt at ck bk m;generalize l t=wtt at cw bw m;go_wp2_with fail;go_quiet (first
   |(go_at_call 340;exact ON (z _))
   |(go_at_call 341;exact ON (r _)))
  go_wp2_with (first
   |(go_at_call 342;refine(u _).mono ?_;rintro e w1 ⟨rfl,rfl⟩)
   |(go_at_call 343;refine(s _).mono ?_;rintro e w1 ⟨rfl,rfl⟩))
  go_roundw
  .refine ⟨t+1,n+nq,Aa,by go_num,rfl, ?_, ?_, ?_, ?_, ?_, ?_, ?_, ?_⟩<;>rw[uh m]
   .exact rI (Value.int σ) (by show _=(((h+B1+CH+kt+wtt+(B0+MJ))%4294967296:N):Z);omega)
   exact rI (Value.int σ) (by show _=(((d+(h+B1+CH+kt+wtt))%4294967296:N):Z);omega)
  exact Ae
 have p:t=64:=Aa;have D:(W.drewN n).heap[w.heap.size+3]? =J (γ #[I σ 0,I σ 0,I σ 0,I σ 0,I σ 0,I σ 0,I σ 0,I σ 0] 181 (0,0)):=uh R;have P:χ ((Cd k l 64 x)=Cd k l t x):=by rw[p];rfl
 clear R L M p;generalize Cd k l t x=y at P ⊢;go_wp2_with (refine sF rfl 181 (.tmp 6) (.tmp 106) rfl (w.heap.size+3) _ rfl rfl 181 _ D Iv rfl (lu _ _ _ _ _ _ _ _) ?_);refine rU (v:=.agg (TN x y)) (tO results302 _ _ (w.heap.size+3) 181 (TN x y) (0,0) _ rfl (sw (W.drewN n) (w.heap.size+3) _ (TN x y) _ _ D) underlying181 rfl Iv) rfl ⟨?_, ?_⟩
 .rw[dQ,uh P]
 exact(HO.drewN n).setRow _ (λh=>κ h Aa) _
def Xm(v n:N)(b:v<4294967296)(a:1<=n)(c:n<=31)(w:U):
 μ ψ 283 #[I Q v,I Q n] w λe w' =>e=ε (I Q (DC v n))/\∃m,w' =w.drewN m:=by
 go_in;go_wp2_with fail;go_quiet (fail);go_wp2;go_ret;exact⟨Bb (show Value.int Q (bits BinOp.or IntKind.i64 ((v:Z)/2^n) ((wrap64 ((v:Z)*2^(32- n))).tmod 4294967296))=_ by rw[ZH b a]),_,rfl⟩
def aq(s:Y)(w:U)(h:s.size=4):
 μ ψ 282 #[G s] w λe w' =>e=ε (I Q ((s[0]'Aa).toNat*16777216+(s[1]'Aa).toNat*65536+(s[2]'Aa).toNat*256+(s[3]'Aa).toNat))/\∃m,w' =w.drewN m:=by
 have h0:(0:Z)<(s.size:Z):=Aa;have a:0<s.size:=Aa;have g:(1:Z)<(s.size:Z):=Aa;have i:(2:Z)<(s.size:Z):=Aa;have j:(3:Z)<(s.size:Z):=Aa;have b:=FC (s[0]'Aa);have c:=FC (s[1]'Aa);have d:=FC (s[2]'Aa);have f:=FC (s[3]'Aa);go_in;go_wp2_with fail;go_quiet (fail);go_wp2;go_ret;exact⟨rfl,_,rfl⟩
def oX(w:U)(n:N):(convert 62 9 (K (J ⟨w.heap.size,0,O⟩) 4 4)).run ψ
 (w.alloc (γ #[I τ ((n:Z)/16777216%256),I τ ((n:Z)/65536%256),I τ ((n:Z)/256%256),I τ ((n:Z)%256)] 5))=
 .ok (G ⟨(Qz n).toArray⟩) (w.alloc (γ #[I τ ((n:Z)/16777216%256),I τ ((n:Z)/65536%256),I τ ((n:Z)/256%256),I τ ((n:Z)%256)] 5)):=by
 refine Eh (P:=ψ) _ 62 9 5 ⟨w.heap.size,0,O⟩ 4 (Qz n) underlying62 underlying5 underlying9 ?_;intro j v a;rw[rH,rx,qV _ _ j _ 5 (0,0) (rh w _)];rw[<-a];simp only[Ak,Qz,sP,tB];rw[AL Aa,AL Aa,AL Aa,AL Aa];rw[show(n:Z)/16777216%256=((n/16777216%256:N):Z) by omega,show(n:Z)/65536%256=((n/65536%256:N):Z) by omega,show(n:Z)/256%256=((n/256%256:N):Z) by omega,show(n:Z)%256=((n%256:N):Z) by omega];rw[tq]
def TO(n:N)(w:U)(h:n<9223372036854775808):
 μ ψ 187 #[I Q n] w λe w' =>e=ε (G ⟨(Qz n).toArray⟩)/\∃o,w' =w.alloc o:=by
 have a:=oX w n;go_in;go_wp2;go_ret;exact⟨rfl,_,rfl⟩
def Le{P:Program}{f:FuncId}{args:φ β}{w:U}{k n:N}{v:β}
 (h:μ P f args (w.drewN (k+n)) λe w' =>e=ε v/\∃m,w' =(w.drewN (k+n)).drewN m):μ P f args (w.drewN (k+n)) λe a =>e=ε v/\∃m,a =w.drewN (k+m):=
 h.mono λ_ _ ⟨b,m,hm⟩=>⟨b,n+m,by rw[hm,World.drewN_drewN,sM]⟩
def Ew(v n:N)(c:Z)(d:c=(n:Z))(f:v<4294967296)(a:1<=n)(b:n<=31)(w:U):
 μ ψ 283 #[I Q v,I Q c] w λe w' =>e=ε (I Q (DC v n))/\∃m,w' =w.drewN m:=by
 subst d;exact Xm v n f a b w
def ji(s:Y)(w:U)(h:s.size=4):
 μ ψ 282 #[G s] w λe w' =>e=ε (I Q (cC s 0))/\∃m,w' =w.drewN m:=by
 refine(aq s w h).mono ?_;rintro e w' ⟨rfl,a⟩;refine⟨Bb (rI (Value.int Q) ?_),a⟩;rw[AC,AC,AC,AC];simp[cC]
def YV:(prog.info? 3).map (λi=>(i.zero,i.size,i.bytes))=J (J (I Q 0),1,8):=Ab
def Oe:φ β:=madeCells #[I Q 0] 64
def Sk:Oe.size=64:=vB _ _
def TP(j:N)(h:j<64):Oe[j]? =J (I Q 0):=by simp[Oe,madeCells,h,uX]
def mt(w:U):(Instr.makeSlice 33 (I Q 64) (I Q 64)).run ψ w=.ok (K (J ⟨w.heap.size,0,O⟩) 64 64) (w.alloc (γ Oe 3)):=
 run_make_row' 33 3 (I Q 0) 8 underlying33 YV rfl .i64 .i64 64 Aa Aa w
def TQ{s:Y}{k:N}(h:k+4<=s.size):cC (s.extract k (k+4)) 0=cC s k:=by
 unfold cC;rw[CG Aa h,CG Aa h,CG Aa h,CG Aa h];simp only[sS,rx]
def ox(s:Y)(t j:N):β:=if j<t then I Q (wt s j) else I Q 0
def dR{s:Y}{t j:N}(h:j<t):ox s t j=I Q (wt s j):=rd h
def TR(s:Y)(t:N): ∀j,j<64->(if j=t then Value.int Q (wt s t) else ox s t j)=ox s (t+1) j:=by
 intro j _;unfold ox;exact Hm
def TS{w:U}{base:N}{e:TypeId}{v:β}{n m:N}{f:N->β}{i:E β}(h:w.ownsRow base e 1 v (m+n) i)(t:0<n)(d:i=[]++(List.range n).map f)(p:m=0:=by rfl):
 ∃g cap,v=K (J ⟨g,0,O⟩) n cap/\DR w g e n f/\base<=g:=by
 subst p;rw[rx] at h;rw[tp] at d;rcases h.2 with⟨_,h0⟩|⟨g,cap,a,rfl,k,l,q,r,s,c⟩
 .omega
 refine⟨g,cap,rfl,⟨a,l,Aa,λj o=> ?_⟩,k⟩;rw[d] at c;have b:(a.toList.take (n*1))[j]? =J (f j):=by rw[c];simp[o]
 rw[td,rd Aa] at b;simpa using b
def au(W:U)(d h:N){i k:Z}{a b c e f g:N}(l:i=(d:Z))(m:k=(h:Z)):
 DR (W.alloc (γ #[I Q i,I Q a,I Q b,I Q c,I Q k,I Q e,I Q f,I Q g] 3)) W.heap.size 3 8 (λj=> I Q ((E8.mk d a b c h e f g).nth j)):=by
 subst l m;exact DR.new W _ 3 8 _ Ad (λj o=>E8.cells_get (E8.mk d a b c h e f g) (λn=> I Q (n:Z)) j o)
def oy(x y:E8)(k j:N):β:=if j<k then I Q (((y.nth j+x.nth j)%4294967296:N):Z) else I Q (y.nth j)
def mu(x y:E8)(k:N):oy x y k k=I Q (y.nth k):=rc (st _)
def mv{x y:E8}{k j:N}(h:j<k):oy x y k j=I Q (((y.nth j+x.nth j)%4294967296:N):Z):=rd h
def dS(x y:E8)(k:N): ∀j,j<8->(if j=k then Value.int Q (((y.nth k+x.nth k)%4294967296:N):Z) else oy x y k j)=oy x y (k+1) j:=by
 intro j _;unfold oy;by_cases h:j=k
 .subst h;rw[rd rfl,rd Aa]
 rw[rc h];by_cases a:j<k
 .rw[rd a,rd Aa]
 rw[rc a,rc Aa]
def aw(x:E8)(hx:x.ok)(n:N->N)(hk: ∀j,n j<4294967296)(s:Y)(hs:s.size=64)(gh hc gk kc:N)(w:U)
 (hH:DR w gh 3 8 (λj=> I Q (x.nth j)))(hK:DR w gk 3 64 (λj=> I Q (n j))):
 μ ψ 189 #[K (J ⟨gh,0,O⟩) 8 hc,G s,K (J ⟨gk,0,O⟩) 64 kc] w λe w' =>
  ∃g,e=ε (K (J ⟨g,0,O⟩) 8 8)/\DR w' g 3 8 (λj=> I Q ((Ni n x s).nth j))/\Al w w' /\w.heap.size<=g:=by
 have f3:=mt;have HH:=Af hH;have W:=Af hK;clear hH hK;go_in;go_wp2;go_loopw [8] (λi wr=> ∃t:N,t<=64/\i=I Q t/\χ (DR wr w.heap.size 3 64 (ox s t))/\χ (Al w wr)) (λi _=>64- (intOf i).toNat)
 .exact ⟨0,Aa,rfl,DR.new w _ 3 64 _ (by rw[Sk];omega) (λj X=>TP j X),(Ag.refl _ w).alloc _⟩
 obtain⟨t,ht,rfl,l,C⟩:=hrel;by_cases o:t<64
 .by_cases d1:t<16
  .have a7:(s.extract (4*t) (4*t+4)).size=4:=by rw[rv];omega
   have HB:=Af (λ(w1:U)=>ji (s.extract (4*t) (4*t+4)) w1 a7);have d3:=l.thaw;have d2:=l.cell t o;have f8:(4:Z)*(t:Z)+4<=64:=Aa;have f4:(0:Z)<=4*(t:Z):=Aa;have f5:(4:Z)*(t:Z)<=4*(t:Z)+4:=Aa;have f6:((4:Z)*(t:Z)).toNat=4*t:=Aa;have f7:((4:Z)*(t:Z)+4).toNat=4*t+4:=Aa;have HE:χ (cC (s.extract (4*t) (4*t+4)) 0=wt s t):=by rw[VM s t d1];exact TQ Aa
   clear a7;go_wp2_with (go_at_call 282;refine(HB _).mono ?_;rintro e w1 ⟨rfl,m,rfl⟩;rw[uh HE]);go_roundw
   .refine ⟨t+1,Aa,by go_num, ?_, ?_⟩
    .exact ((l.drewN m).set t o _).congr (TR s t)
    exact((C.drewN m).setCell (p:=⟨w.heap.size,t,O⟩) (λh=>κ h (st _)) _)
   exact Ae
  have d3:=l.thaw;have d2:=l.cell t o;have c1:=l.cell (t- 15) Aa;have a1:=l.cell (t- 2) Aa;have c9:=l.cell (t- 7) Aa;have c0:=l.cell (t- 16) Aa;rw[dR Aa] at c1 a1 c9 c0;have i1:((t:Z)- 15).toNat=t- 15:=Aa;have i2:((t:Z)- 2).toNat=t- 2:=Aa;have i3:((t:Z)- 7).toNat=t- 7:=Aa;have i4:((t:Z)- 16).toNat=t- 16:=Aa;have n1:(0:Z)<=(t:Z)- 15:=Aa;have n2:(0:Z)<=(t:Z)- 2:=Aa;have n3:(0:Z)<=(t:Z)- 7:=Aa;have n4:(0:Z)<=(t:Z)- 16:=Aa;have m1:(t:Z)- 15<64:=Aa;have m2:(t:Z)- 2<64:=Aa;have m3:(t:Z)- 7<64:=Aa;have m4:(t:Z)- 16<64:=Aa;have M:=Af (RQ s t Aa);have b1:=KK s (t- 15);have D:=KK s (t- 2);have b9:=KK s (t- 7);have b0:=KK s (t- 16);generalize wt s (t- 15)=a at c1 b1 M;generalize wt s (t- 2)=b at a1 D M;generalize wt s (t- 7)=c at c9 b9 M;generalize wt s (t- 16)=d at c0 b0 M;have e0:=oE b1;have e1:=oF D;have l0:=cP b1;have l1:=cQ D;generalize kY a=A at e0 l0 M;generalize kZ b=B at e1 l1 M;go_wp2_with fail;refine(Ew a 7 7 rfl b1 Aa Aa _).mono ?_;rintro e w1 ⟨rfl,m,rfl⟩;go_wp2_with fail;refine(Ew a 18 18 rfl b1 Aa Aa _).mono ?_;rintro e w1 ⟨rfl,m2,rfl⟩;go_wp2_with fail;refine(Ew b 17 17 rfl D Aa Aa _).mono ?_;rintro e w1 ⟨rfl,m3,rfl⟩;go_wp2_with fail;refine(Ew b 19 19 rfl D Aa Aa _).mono ?_;rintro e w1 ⟨rfl,m4,rfl⟩;go_wp2_with fail;generalize m+m2+m3+m4=mm;go_big_region;go_wp2;go_roundw
  .have hv:Value.int Q (((B:Z)+c+A+d)%4294967296)=I Q (wt s t):=by rw[uh M];congr 1
   refine⟨t+1,Aa,by go_num, ?_, ?_⟩
   .rw[hv];exact((l.drewN (mm+1)).set t o _).congr (TR s t)
   exact((C.drewN (mm+1)).setCell (p:=⟨w.heap.size,t,O⟩) (λh=>κ h (st _)) _)
  exact Ae
 have q:t=64:=Aa;rw[q] at l;clear q;have P:=Af (HH.old (uh C));obtain⟨i0,d4,d7,d8,d9⟩:=rN YV;have e6:=C.size;have HN:χ (∀j u,((List.range 8).map (λj=>Value.int Q (x.nth j)))[j]? =J u->wr.cell? ((⟨gh,0,O⟩:Addr).add j)=J u):=by
  intro j u hu;have X:j<8:=by have:=(sU.1 hu).1;simpa using this
  rw[rH,rx,(uh P).cell j X];simpa [X] using hu
 go_wp2_with (at_builtin;refine wpList_append_own _ rfl (.tmp 85) (.tmp 86) 33 rfl wr.heap.size 3 i0 (I Q 0) 1 8 underlying33 d4 d7 d8 d9 rfl Ac (K O 0 0) 0 [] rfl (rF _ _ _ _) ⟨gh,0,O⟩ 8 hc ((List.range 8).map (λj=>Value.int Q (x.nth j))) rfl Ad (uh HN) (by intro u hu;simp at hu;obtain⟨_,_,rfl⟩:=hu;rfl) (by unfold maxLen;omega) Aa (rj _) ?_;intro v1 w1 a6 V _;obtain⟨g1,a2,d6,a3,e5⟩:=TS a6 Aa rfl;subst d6;have a0:=Af ((C.grown V (λk _ e=>by cases e)):Al w w1);have b4:=Af (l.kept ((Ag.refl (λ_=>False) wr).grown V (λk _ e=>by cases e)) (λx=>x));have b3:=Af a3;clear a6 V a3);have b2:=Af (W.old (uh a0));have a5:w.heap.size<g1:=by have:=l.lt;omega
 clear P HN C l W;go_loopw [13,14] (λv i wr=> ∃t g cap:N,t<=64/\i=I Q t/\v=K (J ⟨g,0,O⟩) 8 cap/\χ (DR wr g 3 8 (λj=> I Q ((Cd n (wt s) t x).nth j)))/\χ (DR wr w.heap.size 3 64 (ox s 64))/\χ (DR wr gk 3 64 (λj=> I Q (n j)))/\χ (Al w wr)/\w.heap.size<g/\χ (0<t->cap=8)) (λ_ i _=>64- (intOf i).toNat)
 .exact ⟨0,g1,a2,Aa,rfl,rfl,b3,b4,b2,a0,a5,(λh=>κ h Aa)⟩
 obtain⟨t,g,cap,ht,rfl,rfl,z,l,W,C,e9,HC⟩:=hrel;by_cases o:t<64
 .have R:χ (Cd n (wt s) (t+1) x=(Cd n (wt s) t x).round (n t) (wt s t)):=rfl;have F:=Mp n (wt s) t hx;have bk:=hk t;have bw:=KK s t;have ck:=W.cell t o;have cw:=l.cell t o;rw[dR o] at cw;generalize Cd n (wt s) t x=y at z R F;obtain⟨a,b,c,d,e,f,S,T⟩:=y;obtain⟨H,bb,bc,bd,L,bf,bg,bh⟩:=F;have c0:wr.cell? ⟨g,0,O⟩=J (I Q a):=z.cell 0 Aa;have c1:wr.cell? ⟨g,1,O⟩=J (I Q b):=z.cell 1 Aa;have c2:wr.cell? ⟨g,2,O⟩=J (I Q c):=z.cell 2 Aa;have c3:wr.cell? ⟨g,3,O⟩=J (I Q d):=z.cell 3 Aa;have c4:wr.cell? ⟨g,4,O⟩=J (I Q e):=z.cell 4 Aa;have c5:wr.cell? ⟨g,5,O⟩=J (I Q f):=z.cell 5 Aa;have c6:wr.cell? ⟨g,6,O⟩=J (I Q S):=z.cell 6 Aa;have c7:wr.cell? ⟨g,7,O⟩=J (I Q T):=z.cell 7 Aa;simp only at H bb bc bd L bf bg bh;have c8:=oI L bf bg;have d0:=oJ H bb bc;have e0:=oG H;have e1:=oH L;have e2:=cT (f:=f) (g:=S) L;have e3:=cU (c:=c) H bb;have l0:=cR H;have l1:=cS L;have r:χ (Cd n (wt s) (t+1) x=⟨(T+cN e+ZI e f S+n t+wt s t+(iQ a+cO a b c))%4294967296,a,b,c,(d+(T+cN e+ZI e f S+n t+wt s t))%4294967296,e,f,S⟩):=uh R;clear R;generalize ZI e f S=CH at c8 e2 r;generalize cO a b c=MJ at d0 e3 r;generalize iQ a=B0 at e0 l0 r;generalize cN e=B1 at e1 l1 r;generalize n t=kt at ck bk r;generalize wt s t=wtt at cw bw r;go_wp2_with fail;go_quiet (fail);go_wp2_with fail;go_quiet (fail);go_wp2_with fail;go_quiet (first
   |(go_at_call_of 283 (Value.int IntKind.i64 6);exact Le (Ew e 6 6 rfl L Aa Aa _))
   |(go_at_call_of 283 (Value.int IntKind.i64 11);exact Le (Ew e 11 11 rfl L Aa Aa _))
   |(go_at_call_of 283 (Value.int IntKind.i64 25);exact Le (Ew e 25 25 rfl L Aa Aa _)))
  go_wp2_with fail;refine(Ew a 2 2 rfl H Aa Aa _).mono ?_;rintro e w2 ⟨rfl,m2,rfl⟩;go_wp2_with fail;refine(Ew a 13 13 rfl H Aa Aa _).mono ?_;rintro e w2 ⟨rfl,m3,rfl⟩;go_wp2_with fail;refine(Ew a 22 22 rfl H Aa Aa _).mono ?_;rintro e w2 ⟨rfl,m4,rfl⟩;go_wp2_with fail;go_region_held3 (λw' =>w'.cell? ⟨g,0,O⟩=J (I Q a)/\w'.cell? ⟨g,1,O⟩=J (I Q b)/\w'.cell? ⟨g,2,O⟩=J (I Q c)/\w'.cell? ⟨g,3,O⟩=J (I Q d)/\w'.cell? ⟨g,4,O⟩=J (I Q e)/\w'.cell? ⟨g,5,O⟩=J (I Q f)/\w'.cell? ⟨g,6,O⟩=J (I Q S)) (go_keep) (fail);go_wp2;go_roundw
  .refine ⟨t+1,wr.heap.size,8,Aa,by go_num,rfl, ?_,(l.drewN _).alloc _,(W.drewN _).alloc _,((C.drewN _).alloc _),by have:=z.lt;omega,λ_=>rfl⟩;rw[uh r];exact au _ _ _ (by congr 2) (by congr 2)
  exact Ae
 have q:t=64:=Aa;have a4:cap=8:=HC Aa;subst a4;rw[q] at z;have P:=Af (HH.old (uh C));have F:=Mp n (wt s) 64 hx;have HM:χ (∀j,(Ni n x s).nth j=((Cd n (wt s) 64 x).nth j+x.nth j)%4294967296):=λj=>E8.plus_nth _ _ j
 have e8:=HH.lt;clear HC q l W;generalize Cd n (wt s) 64 x=y at z F HM;have e4:=C;go_wp2;go_loopw [21] (λi wr=> ∃k:N,k<=8/\i=I Q k/\χ (DR wr g 3 8 (oy x y k))/\χ (Al w wr)) (λi _=>8- (intOf i).toNat)
 .exact ⟨0,Aa,rfl,z.congr (λj _=>rfl),C⟩
 obtain⟨k,f2,rfl,HP,HQ⟩:=hrel;by_cases T:k<8
 .have cx:=(HH.old (uh HQ)).cell k T;have cv:=HP.cell k T;have e7:=HP.thaw;rw[mu] at cv;have bx:=E8.nth_lt hx k;have b7:=E8.nth_lt F k;have f0:(0:Z)<=(k:Z):=Aa;have f1:(k:Z)<8:=Aa;generalize a8:x.nth k=xn at cx bx;generalize a9:y.nth k=yn at cv b7;have b5:=Af a8;have b6:=Af a9;clear a8 a9;go_wp2_with fail;go_big_region;go_wp2;go_roundw
  .have hv:Value.int Q (((yn:Z)+xn)%4294967296)=I Q (((y.nth k+x.nth k)%4294967296:N):Z):=by rw[uh b5,uh b6];congr 1
   refine⟨k+1,Aa,by go_num, ?_, ?_⟩
   .rw[hv];exact((HP.set k T _).drew).congr (dS x y k)
   exact((HQ.setCell (p:=⟨g,k,O⟩) (λh=>κ (show g<w.heap.size from h) Aa) _).drew)
  exact Ae
 have d5:k=8:=Aa;go_wp2;go_ret;refine⟨g,rfl, ?_,HQ,Aa⟩;rw[d5] at HP;exact HP.congr (λj X=>by rw[mv X,HM j])
def TT:E N:=[
 0x428a2f98,0x71374491,0xb5c0fbcf,0xe9b5dba5,0x3956c25b,0x59f111f1,0x923f82a4,0xab1c5ed5,
 0xd807aa98,0x12835b01,0x243185be,0x550c7dc3,0x72be5d74,0x80deb1fe,0x9bdc06a7,0xc19bf174,
 0xe49b69c1,0xefbe4786,0x0fc19dc6,0x240ca1cc,0x2de92c6f,0x4a7484aa,0x5cb0a9dc,0x76f988da,
 0x983e5152,0xa831c66d,0xb00327c8,0xbf597fc7,0xc6e00bf3,0xd5a79147,0x06ca6351,0x14292967,
 0x27b70a85,0x2e1b2138,0x4d2c6dfc,0x53380d13,0x650a7354,0x766a0abb,0x81c2c92e,0x92722c85,
 0xa2bfe8a1,0xa81a664b,0xc24b8b70,0xc76c51a3,0xd192e819,0xd6990624,0xf40e3585,0x106aa070,
 0x19a4c116,0x1e376c08,0x2748774c,0x34b0bcb5,0x391c0cb3,0x4ed8aa4a,0x5b9cca4f,0x682e6ff3,
 0x748f82ee,0x78a5636f,0x84c87814,0x8cc70208,0x90befffa,0xa4506ceb,0xbef9a3f7,0xc67178f2]
def Ct(j:N):N:=TT.getD j 0
def dT:(List.range 64).all (λj=>decide (Ct j<4294967296))=true:=by decide+kernel
def Sl(j:N):Ct j<4294967296:=by
 by_cases h:j<64
 .have:=rV.1 dT j (rJ.2 h);simpa using this
 unfold Ct;rw[qT,rL (by simp[TT];omega)];simp
def ax{a:φ β}(h:a=(TT.map (λn:N=>Value.int Q (n:Z))).toArray)(j:N)(b:j<64):a[j]? =J (I Q (Ct j)):=by
 have c:j<TT.length:=b;rw[h,tq,tt,Ct,qT,qY c]
 rfl
def ay(w:U):
 μ ψ 188 #[] w λe w' =>e=ε (K (J ⟨w.heap.size,0,O⟩) 64 64)/\DR w' w.heap.size 3 64 (λj=> I Q (Ct j))/\Al w w' :=by
 go_in;go_wp2;go_ret;refine⟨rfl,DR.new w _ 3 64 _ Ad (λj a=> ?_),(Ag.refl _ w).alloc _⟩;exact ax Ab j a
def pz(s:Y):N->Y
 |0=>s
 |z+1=>pz s z++⟨#[0]⟩
def YW(s:Y)(z:N):(pz s z).size=s.size+z:=by
 induction z with
 |zero=>rfl
 |succ z ih=>rw[pz,rg,ih];rfl
def Bm(n:N):N:=(119- n%64)%64
def DJ(s:Y):Y:=(pz (s++⟨#[128]⟩) (Bm s.size)++⟨(Qz (s.size/536870912)).toArray⟩)++⟨(Qz (8*s.size%4294967296)).toArray⟩
def JO(s:Y):(DJ s).size=s.size+9+Bm s.size:=by
 unfold DJ;rw[rg,rg,YW,rg];show s.size+1+Bm s.size+4+4=_;omega
def Sm(s:Y):(DJ s).size%64=0:=by rw[JO];unfold Bm;omega
def h0:E8:=⟨0x6a09e667,0xbb67ae85,0x3c6ef372,0xa54ff53a,0x510e527f,0x9b05688c,0x1f83d9ab,0x5be0cd19⟩
def TU:h0.ok:=by refine⟨?_, ?_, ?_, ?_, ?_, ?_, ?_, ?_⟩<;>decide
def FJ(p:Y):N->E8
 |0=>h0
 |m+1=>Ni Ct (FJ p m) (p.extract (64*m) (64*m+64))
def TV(p:Y)(m:N):(FJ p m).ok:=by
 cases m with
 |zero=>exact TU
 |succ m=>exact cV _ _ _
def JP(x:E8):N->Y
 |0=>⟨#[]⟩
 |k+1=>JP x k++⟨(Qz (x.nth k)).toArray⟩
def Kp(x:E8)(k:N):(JP x k).size=4*k:=by
 induction k with
 |zero=>rfl
 |succ k ih=>rw[JP,rg,ih];show 4*k+4=_;omega
def MA(n:N)(c:Z)(a:c=(n:Z))(w:U)(h:n<9223372036854775808):
 μ ψ 187 #[I Q c] w λe w' =>e=ε (G ⟨(Qz n).toArray⟩)/\Al w w' :=by
 subst a;refine(TO n w h).mono ?_;rintro e w' ⟨rfl,o,rfl⟩;exact⟨rfl,(Ag.refl _ w).alloc o⟩
def YX(s:Y)(w:U)(hs:s.size<=140737488355328):
 μ ψ 108 #[G s] w λe w' =>e=ε (G (JP (FJ (DJ s) ((DJ s).size/64)) 8))/\Al w w' :=by
 go_in;go_wp2;go_loop [0] (λx=> ∃z:N,z<=Bm s.size/\x=G (pz (s++⟨#[128]⟩) z)) (λx=>match x with| G p=>s.size+1000- p.size|_=>0)
 .exact ⟨0,Aa,rfl⟩
 obtain⟨z,hz,rfl⟩:=hrel;have l:(pz (s++⟨#[128]⟩) z).size=s.size+1+z:=by rw[YW,rg];rfl
 have d:Bm s.size<64:=si _ Aa;have b7:z<64:=Aa;by_cases b:z<Bm s.size
 .have hb:((((s.size:Z)+1+(z:Z))%64) !=56)=true:=by rw[rS];unfold Bm at b hz;omega
  have S:z+1<=Bm s.size:=b;clear b hz d;go_wp2;go_round
  .exact ⟨z+1,S,rfl⟩
  show s.size+1000- (pz (s++⟨#[128]⟩) z++⟨#[0]⟩).size<s.size+1000- (pz (s++⟨#[128]⟩) z).size;rw[rg,l];show s.size+1000- (s.size+1+z+1)<_;omega
 have r:z=Bm s.size:=Aa;have hb:((((s.size:Z)+1+(z:Z))%64) !=56)=false:=by rw[vM];rw[r];unfold Bm;omega
 have HP:χ (DJ s=(pz (s++⟨#[128]⟩) z++⟨(Qz (s.size/536870912)).toArray⟩)++⟨(Qz (8*s.size%4294967296)).toArray⟩):=by rw[r];rfl
 clear r b hz d;generalize hq:pz (s++⟨#[128]⟩) z=q at*;clear hq;go_wp2_with fail;refine(MA (s.size/536870912) _ Aa _ Aa).mono ?_;rintro e w1 ⟨rfl,T⟩;have y:=Af T;clear T;generalize H:(⟨(Qz (s.size/536870912)).toArray⟩:Y)=q1 at*;have s1:q1.size=4:=by rw[<-H];rfl
 clear H;go_wp2_with fail;refine(MA (8*s.size%4294967296) _ Aa _ Aa).mono ?_;rintro e w2 ⟨rfl,V⟩;have A:=Af (y.trans V);clear V y;generalize L:(⟨(Qz (8*s.size%4294967296)).toArray⟩:Y)=q2 at*;have s2:q2.size=4:=by rw[<-L];rfl
 clear L;go_wp2_with fail;refine(ay _).mono ?_;rintro e w3 ⟨rfl,f,W⟩;have B:=Af (A.trans W);have u:=Af f;have b1:=f.lt;generalize w2.heap.size=gk at*;clear f W A;have a2:(q++q1++q2).size=s.size+9+z:=by rw[rg,rg,l,s1,s2];omega
 have a3:(q++q1++q2).size%64=0:=by rw[<-uh HP];exact Sm s
 generalize q++q1++q2=p at*;have HR:χ (DR (w3.alloc (γ #[I Q 1779033703,I Q 3144134277,I Q 1013904242,I Q 2773480762,I Q 1359893119,I Q 2600822924,I Q 528734635,I Q 1541459225] 3)) w3.heap.size 3 8 (λj=> I Q ((FJ p 0).nth j))):=
  DR.new w3 _ 3 8 _ Ad (λj hj=>E8.cells_get h0 (λn=> I Q (n:Z)) j hj)
 have a5:=Af a2;have F:=Af a3;have b4:p.size<=140737488356000:=Aa;clear a2 a3 s1 s2 l;go_wp2;go_loopw [5,6] (λh i wr=> ∃m k g c:N,k<=p.size/\i=I Q k/\h=K (J ⟨g,0,O⟩) 8 c/\χ (k=64*m)/\χ (DR wr g 3 8 (λj=> I Q ((FJ p m).nth j)))/\χ (DR wr gk 3 64 (λj=> I Q (Ct j)))/\χ (Al w wr)) (λ_ i _=>p.size- (intOf i).toNat)
 .exact ⟨0,0,_,_,Aa,rfl,rfl,rfl,HR,u.alloc _,B.alloc _⟩
 obtain⟨m,k,g,c,b2,rfl,rfl,a,t,HK,v⟩:=hrel;by_cases b:k<p.size
 .have R:k+64<=p.size:=by have:=uh a;have:=uh F;omega
  have P:(p.extract k (k+64)).size=64:=by rw[rv];omega
  have HM:=Af (aw (FJ p m) (TV p m) Ct Sl (p.extract k (k+64)) P g c gk 64 wr (uh t) (uh HK));have HN:χ (FJ p (m+1)=Ni Ct (FJ p m) (p.extract k (k+64))):=by rw[uh a];rfl
  have h1:(k:Z)+64<=(p.size:Z):=Aa;have h2:(0:Z)<=(k:Z):=Aa;have h3:(k:Z)<=(k:Z)+64:=Aa;have h4:((k:Z)+64).toNat=k+64:=Aa;clear P;go_wp2_with (go_at_call 189;refine HM.mono ?_;rintro e w5 ⟨g5,rfl,a4,X,a8⟩;have a6:=Af a4;have C:=Af X;clear a4 X);go_roundw
  .exact ⟨m+1,k+64,g5,8,R,by go_num,rfl,(show k+64=64*(m+1) by have:=uh a;omega),by rw[uh HN];exact a6,HK.old (uh C),v.trans (uh C)⟩
  exact Ae
 have hm:p.size/64=m:=by have:=uh a;omega
 have HX:χ (FJ (DJ s) ((DJ s).size/64)=FJ p m):=Af (by rw[uh HP,hm]);have a1:=TV p m;clear hm a5 F a HK HR u B;generalize FJ p m=x at t HX a1;go_wp2;go_loopw [7,8] (λo i wr=> ∃k:N,k<=8/\i=I Q k/\o=G (JP x k)/\χ (DR wr g 3 8 (λj=> I Q (x.nth j)))/\χ (Al w wr)) (λ_ i _=>8- (intOf i).toNat)
 .exact ⟨0,Aa,rfl,rfl,t,v⟩
 obtain⟨k,b0,rfl,rfl,t,v⟩:=hrel;by_cases h8:k<8
 .have cv:=t.cell k h8;have b6:=E8.nth_lt a1 k;have HG:=Af (λ(w1:U)=>MA (x.nth k) _ rfl w1 Aa);have b3:(JP x k).size<=32:=by rw[Kp];omega
  have HS:χ (JP x (k+1)=JP x k++⟨(Qz (x.nth k)).toArray⟩):=rfl;have a9:(k:Z)<8:=Aa;generalize M:(⟨(Qz (x.nth k)).toArray⟩:Y)=q4 at HG HS;have b5:q4.size=4:=by rw[<-M];rfl
  clear M;go_wp2_with (go_at_call 187;refine(HG _).mono ?_;rintro e w6 ⟨rfl,a0⟩;have D:=Af a0;clear a0);go_roundw
  .exact ⟨k+1,Aa,by go_num,by rw[uh HS],t.old (uh D),v.trans (uh D)⟩
  exact Ae
 have a7:k=8:=Aa;go_wp2;go_ret;exact⟨Bb (show Value.string (JP x k)=_ by rw[uh HX,a7]),v⟩
def Ex:Y:=⟨#[48,49,50,51,52,53,54,55,56,57,97,98,99,100,101,102]⟩
def Qi(raw:Y):N->Y
 |0=>⟨#[]⟩
 |k+1=>Qi raw k++Ex.extract (As raw k/16) (As raw k/16+1)++Ex.extract (As raw k%16) (As raw k%16+1)
def aA(a:Y)(k:N):(Qi a k).size=2*k:=by
 induction k with
 |zero=>rfl
 |succ k ih=>
  have:=Bf a k;have b:Ex.size=16:=rfl;rw[Qi,rg,rg,ih,rv,rv,b];omega
def CB(s:Y):Y:=Qi (JP (FJ (DJ s) ((DJ s).size/64)) 8) 32
def KQ(s:Y)(w:U)(q:s.size<=140737488355328):
 μ ψ 57 #[G s] w λe w' =>e=ε (G (CB s))/\Al w w' :=by
 have j:=Af (λ(w1:U)=>YX s w1 q);unfold CB;have p:(JP (FJ (DJ s) ((DJ s).size/64)) 8).size=32:=Kp _ 8;generalize JP (FJ (DJ s) ((DJ s).size/64)) 8=raw at*;go_in;go_wp2_with (go_at_call 108;refine(j _).mono ?_;rintro e w1 ⟨rfl,g⟩;have h:=Af g;clear g);go_loopw [5,6] (λo i wr=> ∃k:N,k<=32/\i=I Q k/\o=G (Qi raw k)/\χ (Al w wr)) (λ_ i _=>32- (intOf i).toNat)
 .exact ⟨0,Aa,rfl,rfl,h⟩
 obtain⟨k,A,rfl,rfl,f⟩:=hrel;by_cases n:k<32
 .have l:=Bf raw k;have d:k<raw.size:=Aa;have m:=AC d;have r:=aA raw k;have a:χ (Qi raw (k+1)=Qi raw k++Ex.extract (As raw k/16) (As raw k/16+1)++Ex.extract (As raw k%16) (As raw k%16+1)):=rfl;unfold Ex at a;generalize As raw k=c at l m a;have t:(0:Z)<=(c:Z)/16:=Aa;have u:(c:Z)/16+1<=16:=Aa;have v:(c:Z)/16<=(c:Z)/16+1:=Aa;have x:(0:Z)<=(c:Z)%16:=Aa;have y:(c:Z)%16+1<=16:=Aa;have z:(c:Z)%16<=(c:Z)%16+1:=Aa;have B:((c:Z)/16).toNat=c/16:=Aa;have C:((c:Z)/16+1).toNat=c/16+1:=Aa;have D:((c:Z)%16).toNat=c%16:=Aa;have F:((c:Z)%16+1).toNat=c%16+1:=Aa;go_wp2_with fail;go_quiet (fail);go_wp2;go_roundw
  .exact ⟨k+1,Aa,by go_num,by rw[uh a],f.drewN _⟩
  exact Ae
 have b:k=32:=Aa;go_wp2;go_ret;exact⟨Bb (show Value.string (Qi raw k)=_ by rw[b]),f⟩
def iH(n j:N):N:=n/2^(28- 4*j)%16
def mw(n j:N):iH n j<16:=si _ Aa
def oY{n a j:N}(c:n<4294967296)(h:a+4*j=28):bits BinOp.and IntKind.u32 ((n:Z)/2^a) 15=(iH n j:Z):=by
 have e:(n:Z)/2^a=((n/2^a:N):Z):=by rw[sR,so];rfl
 have b:n/2^a<4294967296:=tR (uN _ _) c;have:=vx (n/2^a) 15 b Aa;rw[nat_mask4] at this;rw[e];refine this.trans ?_;rw[iH,show 28- 4*j=a by omega]
def OP(d:N):N:=As Ex d
def Jl(x:E8)(k:N):E UInt8:=(List.range k).map λq=>b8 (OP (iH (x.nth (q/8)) (q%8)))
def TW(x:E8)(k:N):(Jl x k).length=k:=by simp[Jl]
def MB(x:E8)(k:N):Jl x (k+1)=Jl x k++[b8 (OP (iH (x.nth (k/8)) (k%8)))]:=by simp[Jl,tA]
def TX:(prog.info? 5).map (λi=>(i.zero,i.size,i.bytes))=J (J (I τ 0),1,1):=Ab
def jj:(prog.info? 103).map (λi=>(i.zero,i.size,i.bytes))=J (J (I σ 0),1,4):=Ab
def TY(x:E8)(k:N)(c:k<8)(W:U):(Instr.index 181 (.agg (EE x)) (I Q (k:Z))).run ψ W=.ok (I σ (x.nth k)) W:=by
 obtain⟨g,a,e,b,f⟩:=rN jj;have d:(EE x)[k]? =J (I σ (x.nth k)):=IJ 8 _ k c;simp[Instr.index,ta underlying181,ta underlying103,isAgg,asIntOf,part,sizeOf,typeInfo,a,b,d,c,go_sem]
def TZ{wr:U}{n:N}: ∀j u,[Value.int τ (n:Z)][j]? =J u->(wr.alloc (γ #[I τ (n:Z)] 5)).cell? ((⟨wr.heap.size,0,O⟩:Addr).add j)=J u:=aaI
def aB(x:E8)(hx:x.ok)(w:U):
 μ ψ 131 #[.agg (EE x)] w λe w' =>e=ε (G ⟨(Jl x 64).toArray⟩)/\Al w w' :=by
 obtain⟨i0,p,a0,z,a1⟩:=rN TX;have hA: ∀i,i<8->(EE x)[i]? =J (I σ (x.nth i)):=λi hi=>IJ 8 _ i hi
 have HA:=Af hA;have V:(w.alloc (γ (EE x) 181)).heap[w.heap.size]? =J (γ (EE x) 181 (0,0)):=rh w _;clear hA;go_in;go_wp2_with (first
  |(at_make;refine wpList_make_own _ rfl (.const (I Q 0)) (.const (I Q 64)) 62 rfl (w.heap.size+1) 5 i0 (I τ 0) 1 underlying62 p a0 z .i64 Q 64 64 rfl rfl rfl (by rw[a1];omega) (by unfold maxLen;omega) Ad ?_;intro w1 t b;have T:w1.heap[w.heap.size]? =J (γ (EE x) 181 (0,0)):=(b.block w.heap.size Ad (by intro e;cases e)).trans V;have B:=Af t;have h:=Af (((Ag.refl (λ_=>False) w).alloc (γ (EE x) 181)).grown b (λk _ e=>by cases e));clear t b)
  |(refine uC rfl 181 (.tmp 1) rfl w.heap.size rfl 181 (EE x) (0,0) _ T underlying181 rfl Iv ?_))
 go_loopw [3,9] (λv i wr=> ∃k:N,k<=8/\i=I Q k/\v=K (J ⟨w.heap.size+1,0,O⟩) (8*k) 64/\χ (wr.ownsRow (w.heap.size+1) 5 1 (K (J ⟨w.heap.size+1,0,O⟩) (8*k) 64) (8*k) (Ak (Jl x (8*k))))/\χ (Al w wr)) (λ_ i _=>8- (intOf i).toNat)
 .exact ⟨0,Aa,rfl,Ad,(show w1.ownsRow _ _ _ _ _ _ by simpa [Jl,Ak] using uh B),h⟩
 obtain⟨k,hk,rfl,rfl,l,HQ⟩:=hrel;by_cases h8:k<8
 .have M:=TY x k h8;have hn:=E8.nth_lt hx k;have a5:(k:Z)<8:=Aa;have HD:=Af (MB x);have m:χ (∀j,j<8->x.nth ((8*k+j)/8)=x.nth k/\(8*k+j)%8=j):=λj hj=>⟨rI x.nth Aa,Aa⟩
  generalize W:x.nth k=n at M hn m;clear W;go_wp2;go_loopw [3,6] (λv sf wr=> ∃(j:N) (f:Z),j<=8/\v=K (J ⟨w.heap.size+1,0,O⟩) (8*k+j) 64/\sf=I Q f/\χ (f+4*(j:Z)=28)/\χ (wr.ownsRow (w.heap.size+1) 5 1 (K (J ⟨w.heap.size+1,0,O⟩) (8*k+j) 64) (8*k+j) (Ak (Jl x (8*k+j))))/\χ (Al w wr)) (λ_ sf _=>(intOf sf+4).toNat)
  .exact ⟨0,28,Aa,rfl,rfl,rfl,l,HQ⟩
  obtain⟨j,f,hj,rfl,rfl,F,l,HQ⟩:=hrel;by_cases R:j<8
  .obtain ⟨s,rfl⟩: ∃s:N,f=(s:Z):=⟨f.toNat,by have:=uh F;omega⟩;have c:s+4*j=28:=by have:=uh F;omega
   have a2:s<=28:=Aa;have hd:=oY hn c;have a:=mw n j;have H:=Af c;have g:χ (Jl x (8*k+j+1)=Jl x (8*k+j)++[b8 (OP (iH n j))]):=by
    obtain⟨e1,e2⟩:=m j R;have:=HD (8*k+j);rw[e1,e2] at this;exact this
   clear c;generalize iH n j=d at hd a g;have a4:((⟨#[48,49,50,51,52,53,54,55,56,57,97,98,99,100,101,102]⟩:Y)[d]'(show d<16 from a)).toNat=OP d:=AC (s:=Ex) (show d<16 from a);have L:OP d<256:=Bf _ _;have A:=Af (TZ (wr:=wr) (n:=OP d));have D:χ ((wr.alloc (γ #[I τ (OP d:Z)] 5)).ownsRow (w.heap.size+1) 5 1 (K (J ⟨w.heap.size+1,0,O⟩) (8*k+j) 64) (8*k+j) (Ak (Jl x (8*k+j)))):=l.alloc _;go_wp2_with (at_builtin;refine xT _ rfl (.tmp 16) (.tmp 22) 62 rfl (w.heap.size+1) 5 i0 1 underlying62 p z (w.heap.size+1) (8*k+j) 64 _ rfl (uh D) ⟨wr.heap.size,0,O⟩ 1 1 [I τ (OP d:Z)] rfl rfl (uh A) (by intro u hu;simp at hu;subst hu;rfl) Aa ?_;intro w3 y o;have C:=Af y;have HG3:=Af o;clear y o);go_roundw
   .refine ⟨j+1,(s:Z)- 4,Aa,by rw[sM],rfl, ?_, ?_, ?_⟩
    .have:=uh H;show(s:Z)- 4+4*((j+1:N):Z)=28;omega
    .have e:Ak (Jl x (8*k+(j+1)))=Ak (Jl x (8*k+j))++[I τ (OP d:Z)]:=by
      rw[<-sM,uh g];simp only[Ak,sv,sP,tB];rw[AL L]
     rw[e];exact C
    exact wn
   exact Ae
  have r :j=8:=Aa;have X:f= -4:=by have:=uh F;omega
  subst r X;go_wp2;go_roundw
  .exact ⟨k+1,Aa,by go_num,by rw[xP],by rw[xP];exact l,HQ⟩
  exact Ae
 have S:k=8:=Aa;subst S;have a3:(convert 62 9 (K (J ⟨w.heap.size+1,0,O⟩) 64 64)).run ψ wr=.ok (G ⟨(Jl x 64).toArray⟩) wr:=by
  have:=Eh (P:=ψ) wr 62 9 5 ⟨w.heap.size+1,0,O⟩ 64 (Jl x 64) underlying62 underlying5 underlying9 (l.cells rfl);rw[TW] at this;exact this
 go_wp2;go_ret;exact⟨rfl,HQ⟩
def EI(n j:N):N:=8*n/2^(56- 8*j)%256
def jk(n j:N):EI n j<256:=si _ Aa
def mx{n s j:N}(h:s+8*j=56):((n:Z)*8)/2^s%256=(EI n j:Z):=by
 rw[EI,show 56- 8*j=s by omega,uY,sR,so,sY,Int.mul_comm];rfl
def Ek(z n j:N):E UInt8:=128::(List.replicate z 0++(List.range j).map λq=>b8 (EI n q))
def OQ(z n j:N):(Ek z n j).length=1+z+j:=by simp[Ek];omega
def aC(z n j:N):Ek z n (j+1)=Ek z n j++[b8 (EI n j)]:=by simp[Ek,tA]
def aD(z n:N):Ak (Ek z n 0)=I τ 128::List.replicate z (I τ 0):=by simp[Ek,Ak]
def aE(w:U)(z C:N)(b:1+z+8=C)(c:z<64):(w.alloc (γ ((madeCells #[I τ 0] C).setIfInBounds 0 (I τ 128)) 5)).ownsRow w.heap.size 5 1 (K (J ⟨w.heap.size,0,O⟩) (1+z) C) (1+z) (I τ 128::List.replicate z (I τ 0)):=by
 have a:madeCells #[I τ 0] C=(List.replicate C (Value.int τ 0)).toArray:=by
  apply xR;intro i;by_cases h:i<C
  .simp[madeCells,h,uX]
  simp[madeCells,h]
 rw[a];refine⟨by simp;omega,.inr ⟨w.heap.size,C,_,rfl,rj _,rh w _,Aa, ?_,Ad, ?_⟩⟩
 .unfold maxLen;omega
 obtain⟨m,rfl⟩: ∃m,C=m+1:=⟨C- 1,Aa⟩;simp[vN,uL 1 z];omega
def Ua(n:N)(hn:n<=140737488355328)(w:U):
 μ ψ 224 #[I .u64 n] w λe w' =>e=ε (G ⟨(Ek (Bm n) n 8).toArray⟩)/\Al w w' :=by
 obtain⟨T,m,D,t,F⟩:=rN TX;have S:Bm n<64:=si _ Aa;have p: ∀W:U,(Instr.makeSlice 62 (I .u64 (1+(119- (n:Z))%64)) (I .u64 (1+(119- (n:Z))%64+8))).run ψ W=.ok (K (J ⟨W.heap.size,0,O⟩) (1+Bm n) (1+Bm n+8)) (W.alloc (γ (madeCells #[I τ 0] (1+Bm n+8)) 5)):=by
  intro W;have e:(1+(119- (n:Z))%64)=((1+Bm n:N):Z):=by unfold Bm;omega
  have h:=vE (P:=ψ) W 62 5 T (I τ 0) underlying62 m D .u64 .u64 ((1+Bm n:N):Z) ((1+Bm n+8:N):Z) Aa Aa (by rw[F];omega) Aa;rw[t,ug,rO,rO] at h;rw[e];exact h
 have f:=Af (aE w (Bm n) _ rfl S);generalize Bm n=z at S p f;have h0:(madeCells #[Value.int τ 0] (1+z+8))[0]? =J (I τ 0):=by simp[madeCells]
 have i:=Af ((Ag.refl (λ_=>False) w).alloc (γ ((madeCells #[I τ 0] (1+z+8)).setIfInBounds 0 (I τ 128)) 5));go_in;go_wp2_with fail;clear p h0;simp only[show(119- (n:Z)%64)%64=(119- n)%64 by omega];go_loopw [4,6] (λv H wr=> ∃(j:N) (b:Z),j<=8/\v=K (J ⟨w.heap.size,0,O⟩) (1+z+j) (1+z+8)/\H=I Q b/\χ (b+8*(j:Z)=56)/\χ (wr.ownsRow w.heap.size 5 1 (K (J ⟨w.heap.size,0,O⟩) (1+z+j) (1+z+8)) (1+z+j) (Ak (Ek z n j)))/\χ (Al w wr)) (λ_ H _=>(intOf H+8).toNat)
 .exact ⟨0,56,Aa,rfl,rfl,rfl,(show World.ownsRow _ _ _ _ _ _ _ by rw[aD];exact f),i⟩
 obtain⟨j,b,hj,rfl,rfl,A,L,HQ⟩:=hrel;by_cases a0:j<8
 .obtain ⟨s,rfl⟩: ∃s:N,b=(s:Z):=⟨b.toNat,by have:=uh A;omega⟩;have a:s+8*j=56:=by have:=uh A;omega
  have M:s<=56:=Aa;have X:=mx (n:=n) a;have k:=jk n j;have B:=Af a;have c:=Af (aC z n j);clear a;generalize EI n j=d at X k c;have x:=Af (TZ (wr:=wr) (n:=d));have g:χ ((wr.alloc (γ #[I τ (d:Z)] 5)).ownsRow w.heap.size 5 1 (K (J ⟨w.heap.size,0,O⟩) (1+z+j) (1+z+8)) (1+z+j) (Ak (Ek z n j))):=L.alloc _;go_wp2_with (at_builtin;refine xT _ rfl (.tmp 25) (.tmp 30) 62 rfl w.heap.size 5 T 1 underlying62 m t w.heap.size (1+z+j) (1+z+8) _ rfl (uh g) ⟨wr.heap.size,0,O⟩ 1 1 [I τ (d:Z)] rfl rfl (uh x) (by intro u R;simp at R;subst R;rfl) Aa ?_;intro w3 r l;have y:=Af r;have HG3:=Af l;clear r l);go_roundw
  .refine ⟨j+1,(s:Z)- 8,Aa,by rw[sM],rfl, ?_, ?_, ?_⟩
   .have:=uh B;show(s:Z)- 8+8*((j+1:N):Z)=56;omega
   .have e:Ak (Ek z n (j+1))=Ak (Ek z n j)++[I τ (d:Z)]:=by
     rw[uh c];simp only[Ak,sv,sP,tB];rw[AL k]
    rw[e];exact y
   exact wn
  exact Ae
 have o :j=8:=Aa;have C:b= -8:=by have:=uh A;omega
 subst o C;have V:(convert 62 9 (K (J ⟨w.heap.size,0,O⟩) (1+z+8) (1+z+8))).run ψ wr=.ok (G ⟨(Ek z n 8).toArray⟩) wr:=by
  have:=Eh (P:=ψ) wr 62 9 5 ⟨w.heap.size,0,O⟩ (1+z+8) (Ek z n 8) underlying62 underlying5 underlying9 (L.cells rfl);rw[OQ] at this;exact this
 go_wp2;go_ret;exact⟨rfl,HQ⟩
def Qj(v:N)(f:v<4294967296)(w:U):
 μ ψ 130 #[I σ v] w λe w' =>e=ε (I σ (EC 8 v))/\w' =w:=by
 go_in;go_wp2;go_loop [0,3] (λx i=> ∃(u n j:N),u<4294967296/\n+j=8/\x=I σ u/\i=I Q j/\χ (EC n u=EC 8 v)) (λ_ i=>8- (intOf i).toNat)
 .exact ⟨v,8,0,f,rfl,rfl,rfl,rfl⟩
 obtain⟨u,n,j,a,h,rfl,rfl,b⟩:=hrel;by_cases g:j<8
 .obtain ⟨n,rfl⟩: ∃m,n=m+1:=⟨n- 1,Aa⟩;go_wp2
  .have c:(bits .and σ (u:Z) 1==1)=true:=by assumption
   go_round
   .exact ⟨Gh u,n,j+1,GG a,Aa,by rw[Nh (iP a c),cJ a],by go_num,b⟩
   exact Ae
  have c:(bits .and σ (u:Z) 1==1)=false:=by assumption
  go_round
  .exact ⟨Gh u,n,j+1,GG a,Aa,by rw[Lx (cI a c)];rfl,by go_num,b⟩
  exact Ae
 have h0:n=0:=Aa;have d:χ (EC 8 v=u):=by rw[<-b.out,h0];rfl
 clear b h0;go_wp2;go_ret;exact⟨Bb (show Value.int σ (u:Z)=_ by rw[d.out]),rfl⟩
def Iw(s:Y)(w:U)(m:s.size<=maxLen):
 μ ψ 71 #[G s] w λe w' =>e=ε (I σ (Bz s))/\w' =w:=by
 unfold maxLen at m;go_in;go_wp2;go_loop [3,7] (λx i=> ∃(u j:N),u<4294967296/\j<=s.size/\x=I σ u/\i=I Q j/\χ (KJ (s.data.toList.take j)=u)) (λ_ i=>s.size- (intOf i).toNat)
 .exact ⟨4294967295,0,Aa,Aa,rfl,rfl,rfl⟩
 obtain⟨u,j,b,o,rfl,rfl,c⟩:=hrel;by_cases a:j<s.size
 .have n:s[j].toNat<256:=FC _;have d:=uA u s[j].toNat b Aa;have k:=Af d;clear d;have f:=Af (λ(w1:U)=>Qj (u^^^s[j].toNat) (DL b Aa) w1);have h:χ (KJ (s.data.toList.take (j+1))=EC 8 (u^^^s[j].toNat)):=by rw[Qy s j a,Ot,c.out];rfl
  have g:=Af (VJ 8 (DL b (show s[j].toNat<4294967296 by omega)));go_wp2_with (go_at_call 130;rw[uh k];refine(f _).mono ?_;rintro e w1 ⟨rfl,rfl⟩);go_round
  .exact ⟨_,j+1,g,Aa,rfl,by go_num,h⟩
  exact Ae
 have l:χ (KJ s.data.toList=u):=by have:=c.out;rw[Th s j a] at this;exact this
 go_wp2;go_ret;exact⟨Bb (show Value.int σ (bits BinOp.xor IntKind.u32 IntKind.u32.max (u:Z))=_ by rw[YM b,Bz,l.out]),rfl⟩
def NJ(s:Y)(w:U)(b:s.size<=maxLen):
 μ ψ 40 #[G s] w λe w' =>e=ε (I Q (Bz s))/\w' =w:=by
 have a:=Af (λ(w1:U)=>Iw s w1 b);have d:=EG s;generalize Bz s=c at*;go_in;go_wp2_with (go_at_call 71;refine(a _).mono ?_;rintro e w1 ⟨rfl,rfl⟩);exact yY
def Fb(s:Y)(w:U)(r:s.size<=maxLen):
 μ ψ 58 #[G s] w λe w' =>e=ε (I Q (Bz s))/\w' =w:=by
 unfold maxLen at r;go_in;go_wp2;go_loop [3,4] (λx i=> ∃(u j:N),u<4294967296/\j<=s.size/\x=I Q u/\i=I Q j/\χ (KJ (s.data.toList.take j)=u)) (λ_ i=>s.size- (intOf i).toNat)
 .exact ⟨4294967295,0,Aa,Aa,rfl,rfl,rfl⟩
 obtain⟨u,j,v,A,rfl,rfl,g⟩:=hrel;by_cases a:j<s.size
 .have z:s[j].toNat<256:=FC _;have p:=Af (BD u s[j].toNat Aa Aa);have o:χ (KJ (s.data.toList.take (j+1))=EC 8 (u^^^s[j].toNat)):=by rw[Qy s j a,Ot,g.out];rfl
  have q:=DL v (show s[j].toNat<4294967296 by omega);have l:χ (∀x:β,x=I Q (bits BinOp.xor IntKind.i64 (u:Z) (s[j].toNat:Z))->x=I Q ((u^^^s[j].toNat:N):Z)):=by intro x y;rw[y,uh p]
  go_wp2;go_loop [3,5] (λx i=> ∃(t n k:N),t<4294967296/\n+k=8/\x=I Q t/\i=I Q k/\χ (EC n t=EC 8 (u^^^s[j].toNat))) (λ_ i=>8- (intOf i).toNat)
  .exact ⟨_,8,0,q,rfl,l _ rfl,rfl,rfl⟩
  obtain⟨t,n,k,f,C,rfl,rfl,b⟩:=hrel;by_cases B:k<8
  .obtain ⟨n,rfl⟩: ∃m,n=m+1:=⟨n- 1,Aa⟩;by_cases h:t%2=1
   .have c:(((t:Z)%2)==1)=true:=(by simp;omega);go_wp2;go_round
    .exact ⟨Gh t,n,k+1,GG f,Aa,by rw[Nh h,<-cM Aa];rfl,by go_num,b⟩
    exact Ae
   have c:(((t:Z)%2)==1)=false:=by simp;omega
   go_wp2;go_round
   .exact ⟨Gh t,n,k+1,GG f,Aa,by rw[Lx h];rfl,by go_num,b⟩
   exact Ae
  have h0:n=0:=Aa;have d:χ (EC 8 (u^^^s[j].toNat)=t):=by rw[<-b.out,h0];rfl
  clear h0 b;go_wp2;go_round
  .exact ⟨t,j+1,f,Aa,rfl,by go_num,o.out.trans d.out⟩
  exact Ae
 have d:χ (KJ s.data.toList=u):=by have:=g.out;rw[Th s j a] at this;exact this
 go_wp2;go_ret;exact⟨Bb (show Value.int Q (4294967295- (u:Z))=_ by rw[Bz,d.out];congr 1;omega),rfl⟩
