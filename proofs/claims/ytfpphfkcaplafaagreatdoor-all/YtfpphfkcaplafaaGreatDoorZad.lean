import Derived.Test.YtfpphfkcaplafaaGreatDoorZaa
import Derived.WalkKit
import Derived.WalkSmall
set_option linter.all false
set_option maxHeartbeats 64000000
set_option maxRecDepth 100000
open _root_ renaming Option.some->J,Option.none->O,Int->Z,Nat->N,Go.Value.int->I,Go.Value.string->G,Go.IntKind.i64->Q,ByteArray->Y,List->E,Go.World->U,Go.Value.slice->K,Go.Value->M,Go.Obj.cells->W,Go.Value.pointer->V,Go.RowKit.Hid->C,Go.Proofs.Tryz.prog->F,Go.Ending.returned->ε,Go.Value.bool->ζ,Go.Value.tuple->η,Bool.true->θ,Bool.false->ι,absurd->κ,Go.Calls->μ,Go.TypeId->ν,Go.IntKind.u32->σ,Go.IntKind.u8->τ,UInt8->υ,Array->φ
variable{b base c cap fr g i j k n:N}{a w w' w1 w2 w3 wr:U}{q s tw u:Y}{S T:N->Prop}{v v' x:M}
namespace Go.Proofs.YtfpphfkcaplafaaGreatDoor
open Go.RowKit Go.Proofs.Tryz
def qz(n j:N):N:=n/2^(28-4*j)%16
def uQ(n j:N):qz n j<16:=wU _ A
def yK(a:n<4294967296)(h:b+4*j=28):bits BinOp.and IntKind.u32 ((n:Z)/2^b) 15=(qz n j:Z):=by
 have e:(n:Z)/2^b=((n/2^b:N):Z):=alg
 have c:n/2^b<4294967296:=aaY (ace _ _) a;have:=acE (n/2^b) 15 c A;rw[nat_mask4] at this;rw[e];refine this.trans ?_;rw[qz,show 28-4*j=b by omega]
def RS(d:N):N:=As Fu d
def KS(x:E8)(k:N):E υ:=(List.range k).map λq=>b8<|RS (qz (x.nth<|q/8)<|q%8)
def YO(x:E8)(k:N):(KS x k).length=k:=by simp[KS]
def Pb(x:E8)(k:N):KS x (k+1)=KS x k++[b8<|RS (qz (x.nth<|k/8)<|k%8)]:=by simp[KS,aaS]
def YP:(prog.info? 5).map (λi=>(i.zero,i.size,i.bytes))=J (J<|I τ 0,1,1):=B
def qX:(prog.info? 61).map (λi=>(i.zero,i.size,i.bytes))=J (J<|I σ 0,1,4):=B
def YQ(x:E8)(k:N)(c:k<8)(a:U):(Instr.index 97 (.agg<|FH x)<|I Q (k:Z)).run F a=.ok (I σ<|x.nth k) a:=by
 obtain⟨_,a,_,b,_⟩:=wi qX;have d:(FH x)[k]? =J (I σ<|x.nth k):=Ks 8 _ k c;simp[Instr.index,aaf underlying97,aaf underlying61,isAgg,asIntOf,part,sizeOf,typeInfo,a,b,d,c,go_sem]
def YR:∀j u,[Value.int τ (n:Z)][j]? =J u->(wr.alloc<|W #[I τ (n:Z)] 5).cell? ((⟨wr.heap.size,0,O⟩:Addr).add j)=J u:=ajh
def iX(x:E8)(hx:x.ok)(w:U):
 μ F 58 #[.agg<|FH x] w λe w'=>e=ε (G ⟨(KS x 64).toArray⟩)/\Am w w':=by
 obtain⟨i0,g,t,h,u⟩:=wi YP;have hA:∀i,i<8->(FH x)[i]? =J (I σ<|x.nth i):=λi b=>Ks 8 _ i b
 have c:=hA;have v:(w.alloc<|W (FH x) 97).heap[w.heap.size]? =J (W (FH x) 97 (0,0)):=WD w _;go_in;go_wp2_with (first
  |(at_make;refine wpList_make_own _ rfl (.const<|I Q 0) (.const<|I Q 64) 64 rfl (w.heap.size+1) 5 i0 (I τ 0) 1 underlying64 g t h .i64 Q 64 64 rfl rfl rfl (by rw[u];omega) (by unfold maxLen;omega) Ad ?_;intro w1 l b;have y:=(b.block w.heap.size Ad<|by intro e;cases e).trans v;have z:=l;have m:=((Ag.refl (λ_=>False) w).alloc<|W (FH x) 97).grown b (λk _ e=>by cases e);clear l b)
  |(refine abQ rfl 97 (.tmp 1) rfl w.heap.size rfl 97 (FH x) (0,0) _ y underlying97 rfl JW ?_))
 go_loopw [3,9] (λv i wr=>∃k:N,k<=8/\i=I Q k/\v=K (J ⟨w.heap.size+1,0,O⟩) (8*k) 64/\(wr.ownsRow (w.heap.size+1) 5 1 (K (J ⟨w.heap.size+1,0,O⟩) (8*k) 64) (8*k)<|Al (KS x<|8*k))/\(Am w wr)) λ_ i _=>8-(intOf i).toNat
 .exact ⟨0,A,rfl,Ad,(show w1.ownsRow _ _ _ _ _ _ by simpa [KS,Al] using z),m⟩
 obtain⟨k,_,rfl,rfl,i,a⟩:=hrel;by_cases b:k<8
 .have D:=YQ x k b;have hn:=E8.nth_lt hx k;have b:(k:Z)<8:=A;have HD:=Pb x;have o:(∀j,j<8->x.nth ((8*k+j)/8)=x.nth k/\(8*k+j)%8=j):=λj hj=>⟨hJ x.nth A,A⟩
  generalize a3:x.nth k=n at D hn o;go_wp2;go_loopw [3,6] (λv b wr=>∃(j:N) (f:Z),j<=8/\v=K (J ⟨w.heap.size+1,0,O⟩) (8*k+j) 64/\b=I Q f/\(f+4*(j:Z)=28)/\(wr.ownsRow (w.heap.size+1) 5 1 (K (J ⟨w.heap.size+1,0,O⟩) (8*k+j) 64) (8*k+j)<|Al (KS x<|8*k+j))/\(Am w wr)) λ_ b _=>(intOf b+4).toNat
  .exact ⟨0,28,A,rfl,rfl,rfl,i,a⟩
  obtain⟨j,f,hj,rfl,rfl,L,i,a⟩:=hrel;by_cases R:j<8
  .obtain ⟨s,rfl⟩:∃s:N,f=(s:Z):=⟨f.toNat,by have:=L;omega⟩;have b:s+4*j=28:=by have:=L;omega
   have l:s<=28:=A;have hd:=yK hn b;have c:=uQ n j;have S:=b;have p:(KS x (8*k+j+1)=KS x (8*k+j)++[b8<|RS (qz n j)]):=by
    obtain⟨b,l⟩:=o j R;have:=HD<|8*k+j;rw[b,l] at this;exact this
   generalize qz n j=d at hd c p;have b:((⟨#[48,49,50,51,52,53,54,55,56,57,97,98,99,100,101,102]⟩:Y)[d]'(show d<16 from c)).toNat=RS d:=AA (s:=Fu) (show d<16 from c);have T:RS d<256:=Bj _ _;have b:=YR (wr:=wr) (n:=RS d);have c:((wr.alloc<|W #[I τ (RS d:Z)] 5).ownsRow (w.heap.size+1) 5 1 (K (J ⟨w.heap.size+1,0,O⟩) (8*k+j) 64) (8*k+j)<|Al (KS x<|8*k+j)):=i.alloc _;go_wp2_with (at_builtin;refine adL _ rfl (.tmp 16) (.tmp 22) 64 rfl (w.heap.size+1) 5 i0 1 underlying64 g h (w.heap.size+1) (8*k+j) 64 _ rfl c ⟨wr.heap.size,0,O⟩ 1 1 [I τ (RS d:Z)] rfl rfl b alj A ?_;intro _ b c;have a0:=b;have J9:=c;clear b c);go_roundw
   .refine ⟨j+1,(s:Z)-4,A,by rw[aap],rfl,?_,?_,?_⟩
    .have:=S;show(s:Z)-4+4*((j+1:N):Z)=28;omega
    .have e:Al (KS x<|8*k+(j+1))=Al (KS x<|8*k+j)++[I τ (RS d:Z)]:=by
      rw[<-aap,p];simp only[Al,wV,aai,aaF];rw[AN T]
     rw[e];exact a0
    exact ahH
   exact Ae
  have r :j=8:=A;have a1:f= -4:=by have:=L;omega
  subst r a1;go_wp2;go_roundw
  .exact ⟨k+1,A,by go_num,by rw[adI],by rw[adI];exact i,a⟩
  exact Ae
 have a2:k=8:=A;subst a2;have a4:(convert 64 9<|K (J ⟨w.heap.size+1,0,O⟩) 64 64).run F wr=.ok (G ⟨(KS x 64).toArray⟩) wr:=by
  have:=EZ (P:=F) wr 64 9 5 ⟨w.heap.size+1,0,O⟩ 64 (KS x 64) underlying64 underlying5 underlying9<|i.cells rfl;rw[YO] at this;exact this
 go_wp2;go_ret;exact⟨rfl,a⟩
open Go.RowKit Go.Maps Go.Proofs.Tryz
def FI(n j:N):N:=8*n/2^(56-8*j)%256
def qY(n j:N):FI n j<256:=wU _ A
def uR{s:N}(h:s+8*j=56):((n:Z)*8)/2^s%256=(FI n j:Z):=by
 rw[FI,show 56-8*j=s by omega,acq,aax,wY,aaA,Int.mul_comm];rfl
def Fc(z n j:N):E υ:=128::(List.replicate z 0++(List.range j).map λq=>b8<|FI n q)
def RU(z n j:N):(Fc z n j).length=1+z+j:=by simp[Fc];omega
def iY(z n j:N):Fc z n (j+1)=Fc z n j++[b8<|FI n j]:=by simp[Fc,aaS]
def iZ(z n:N):Al (Fc z n 0)=I τ 128::List.replicate z (I τ 0):=by simp[Fc,Al]
def ja(w:U)(z C:N)(a:1+z+8=C)(b:z<64):(w.alloc<|W ((madeCells #[I τ 0] C).setIfInBounds 0<|I τ 128) 5).ownsRow w.heap.size 5 1 (K (J ⟨w.heap.size,0,O⟩) (1+z) C) (1+z) (I τ 128::List.replicate z (I τ 0)):=by
 have a:madeCells #[I τ 0] C=(List.replicate C<|Value.int τ 0).toArray:=by
  apply adJ;intro i;by_cases h:i<C
  .simp[madeCells,h,acn]
  simp[madeCells,h]
 rw[a];refine⟨by simp;omega,.inr ⟨w.heap.size,C,_,rfl,WF _,WD w _,A,?_,Ad,?_⟩⟩
 .unfold maxLen;omega
 obtain⟨m,rfl⟩:∃m,C=m+1:=⟨C-1,A⟩;simp[acY,acb 1 z];omega
def YS(n:N)(g:n<=140737488355328)(w:U):
 μ F 114 #[I .u64 n] w λe w'=>e=ε (G ⟨(Fc (Bv n) n 8).toArray⟩)/\Am w w':=by
 obtain⟨y,c,o,f,p⟩:=wi YP;have D:Bv n<64:=wU _ A;have r:∀g:U,(Instr.makeSlice 64 (I .u64<|1+(119-(n:Z))%64)<|I .u64 (1+(119-(n:Z))%64+8)).run F g=.ok (K (J ⟨g.heap.size,0,O⟩) (1+Bv n)<|1+Bv n+8) (g.alloc<|W (madeCells #[I τ 0]<|1+Bv n+8) 5):=by
  intro g;have e:(1+(119-(n:Z))%64)=((1+Bv n:N):Z):=by unfold Bv;omega
  have L:=acO (P:=F) g 64 5 y (I τ 0) underlying64 c o .u64 .u64 ((1+Bv n:N):Z) ((1+Bv n+8:N):Z) A A (by rw[p];omega) A;rw[f,abz,ww,ww] at L;rw[e];exact L
 have h:=ja w (Bv n) _ rfl D;generalize Bv n=z at D r h;have h0:(madeCells #[Value.int τ 0]<|1+z+8)[0]? =J (I τ 0):=by simp[madeCells]
 have i:=(Ag.refl (λ_=>False) w).alloc<|W ((madeCells #[I τ 0]<|1+z+8).setIfInBounds 0<|I τ 128) 5;go_in;go_wp2_with fail;simp only[show(119-(n:Z)%64)%64=(119-n)%64 by omega];go_loopw [4,6] (λv g wr=>∃(j:N) (b:Z),j<=8/\v=K (J ⟨w.heap.size,0,O⟩) (1+z+j) (1+z+8)/\g=I Q b/\(b+8*(j:Z)=56)/\(wr.ownsRow w.heap.size 5 1 (K (J ⟨w.heap.size,0,O⟩) (1+z+j)<|1+z+8) (1+z+j)<|Al (Fc z n j))/\(Am w wr)) λ_ g _=>(intOf g+8).toNat
 .exact ⟨0,56,A,rfl,rfl,rfl,(show World.ownsRow _ _ _ _ _ _ _ by rw[iZ];exact h),i⟩
 obtain⟨j,b,_,rfl,rfl,t,R,a⟩:=hrel;by_cases T:j<8
 .obtain ⟨s,rfl⟩:∃s:N,b=(s:Z):=⟨b.toNat,by have:=t;omega⟩;have g:s+8*j=56:=by have:=t;omega
  have h:s<=56:=A;have hd:=uR (n:=n) g;have k:=qY n j;have u:=g;have l:=iY z n j;generalize FI n j=d at hd k l;have h:=YR (wr:=wr) (n:=d);have g:((wr.alloc<|W #[I τ (d:Z)] 5).ownsRow w.heap.size 5 1 (K (J ⟨w.heap.size,0,O⟩) (1+z+j)<|1+z+8) (1+z+j)<|Al (Fc z n j)):=R.alloc _;go_wp2_with (at_builtin;refine adL _ rfl (.tmp 25) (.tmp 30) 64 rfl w.heap.size 5 y 1 underlying64 c f w.heap.size (1+z+j) (1+z+8) _ rfl g ⟨wr.heap.size,0,O⟩ 1 1 [I τ (d:Z)] rfl rfl h (by intro _ S;simp at S;subst S;rfl) A ?_;intro _ c f;have v:=c;have J9:=f;clear c f);go_roundw
  .refine ⟨j+1,(s:Z)-8,A,by rw[aap],rfl,?_,?_,?_⟩
   .have:=u;show(s:Z)-8+8*((j+1:N):Z)=56;omega
   .have e:Al (Fc z n<|j+1)=Al (Fc z n j)++[I τ (d:Z)]:=by
     rw[l];simp only[Al,wV,aai,aaF];rw[AN k]
    rw[e];exact v
   exact ahH
  exact Ae
 have m :j=8:=A;have x:b= -8:=by have:=t;omega
 subst m x;have a0:(convert 64 9<|K (J ⟨w.heap.size,0,O⟩) (1+z+8) (1+z+8)).run F wr=.ok (G ⟨(Fc z n 8).toArray⟩) wr:=by
  have:=EZ (P:=F) wr 64 9 5 ⟨w.heap.size,0,O⟩ (1+z+8) (Fc z n 8) underlying64 underlying5 underlying9<|R.cells rfl;rw[RU] at this;exact this
 go_wp2;go_ret;exact⟨rfl,a⟩
def TM(v:N)(c:v<4294967296)(w:U):
 μ F 63 #[I σ v] w λe w'=>e=ε (I σ<|FB 8 v)/\w'=w:=by
 go_in;go_wp2;go_loop [0,3] (λx i=>∃(u n j:N),u<4294967296/\n+j=8/\x=I σ u/\i=I Q j/\C (FB n u=FB 8 v)) λ_ i=>8-(intOf i).toNat
 .exact ⟨v,8,0,c,rfl,rfl,rfl,rfl⟩
 obtain⟨u,n,j,a,_,rfl,rfl,b⟩:=hrel;by_cases d:j<8
 .obtain ⟨n,rfl⟩:∃m,n=m+1:=⟨n-1,A⟩;go_wp2
  .have c:(bits .and σ (u:Z) 1==1)=true:=alt
   go_round
   .exact ⟨Iy u,n,j+1,Jc a,A,by rw[PW<|qI a c,lE a],by go_num,b⟩
   exact Ae
  have c:(bits .and σ (u:Z) 1==1)=false:=alt
  go_round
  .exact ⟨Iy u,n,j+1,Jc a,A,by rw[NQ<|lD a c];rfl,by go_num,b⟩
  exact Ae
 have h0:n=0:=A;have a:C<|FB 8 v=u:=by rw[<-b.out,h0];rfl
 go_wp2;go_ret;exact⟨AU (show Value.int σ (u:Z)=_ by rw[a.out]),rfl⟩
def JY(s:Y)(w:U)(d:s.size<=maxLen):
 μ F 27 #[G s] w λe w'=>e=ε (I σ<|BJ s)/\w'=w:=by
 unfold maxLen at d;go_in;go_wp2;go_loop [3,7] (λx i=>∃(u j:N),u<4294967296/\j<=s.size/\x=I σ u/\i=I Q j/\C (MW (s.data.toList.take j)=u)) λ_ i=>s.size-(intOf i).toNat
 .exact ⟨4294967295,0,A,A,rfl,rfl,rfl⟩
 obtain⟨u,j,b,_,rfl,rfl,c⟩:=hrel;by_cases a:j<s.size
 .have d:s[j].toNat<256:=GN _;have d:=abP u s[j].toNat b A;have f:=H d;clear d;have g:=H λ(d:U)=>TM (u^^^s[j].toNat) (EA b A) d;have h:C<|MW (s.data.toList.take<|j+1)=FB 8 (u^^^s[j].toNat):=by rw[Uj s j a,Rz,c.out];rfl
  have i:=H (bO 8 (EA b (show s[j].toNat<4294967296 by omega)));go_wp2_with (go_at_call 63;rw[X f];refine(g _).mono ?_;rintro e d ⟨rfl,rfl⟩);go_round
  .exact ⟨_,j+1,i,A,rfl,by go_num,h⟩
  exact Ae
 have d:C<|MW s.data.toList=u:=by have:=c.out;rw[Yh s j a] at this;exact this
 go_wp2;go_ret;exact⟨AU (show Value.int σ (bits BinOp.xor IntKind.u32 IntKind.u32.max (u:Z))=_ by rw[fB b,BJ,d.out]),rfl⟩
def QD(s:Y)(w:U)(b:s.size<=maxLen):
 μ F 10 #[G s] w λe w'=>e=ε (I Q<|BJ s)/\w'=w:=by
 have d:=λ(a:U)=>JY s a b
 have:=FG s;generalize BJ s=c at*;go_in;go_wp2_with (go_at_call 27;refine(d _).mono ?_;rintro e a ⟨rfl,rfl⟩);exact aez
def Gi(s:Y)(w:U)(i:s.size<=maxLen):
 μ F 11 #[G s] w λe w'=>e=ε (I Q<|BJ s)/\w'=w:=by
 unfold maxLen at i;go_in;go_wp2;go_loop [3,4] (λx i=>∃(u j:N),u<4294967296/\j<=s.size/\x=I Q u/\i=I Q j/\C (MW (s.data.toList.take j)=u)) λ_ i=>s.size-(intOf i).toNat
 .exact ⟨4294967295,0,A,A,rfl,rfl,rfl⟩
 obtain⟨u,j,l,_,rfl,rfl,g⟩:=hrel;by_cases a:j<s.size
 .have i:s[j].toNat<256:=GN _;have i:=H<|BM u s[j].toNat A A;have o:C<|MW (s.data.toList.take<|j+1)=FB 8 (u^^^s[j].toNat):=by rw[Uj s j a,Rz,g.out];rfl
  have p:=EA l (show s[j].toNat<4294967296 by omega);have q:C (∀x:M,x=I Q (bits BinOp.xor IntKind.i64 (u:Z) (s[j].toNat:Z))->x=I Q ((u^^^s[j].toNat:N):Z)):=by intro x l;rw[l,X i]
  go_wp2;go_loop [3,5] (λx i=>∃(t n k:N),t<4294967296/\n+k=8/\x=I Q t/\i=I Q k/\C (FB n t=FB 8 (u^^^s[j].toNat))) λ_ i=>8-(intOf i).toNat
  .exact ⟨_,8,0,p,rfl,q _ rfl,rfl,rfl⟩
  obtain⟨t,n,k,b,_,rfl,rfl,c⟩:=hrel;by_cases r:k<8
  .obtain ⟨n,rfl⟩:∃m,n=m+1:=⟨n-1,A⟩;by_cases h:t%2=1
   .have d:(((t:Z)%2)==1)=true:=ako;go_wp2;go_round
    .exact ⟨Iy t,n,k+1,Jc b,A,by rw[PW h,<-lG A];rfl,by go_num,c⟩
    exact Ae
   have d:(((t:Z)%2)==1)=false:=ako
   go_wp2;go_round
   .exact ⟨Iy t,n,k+1,Jc b,A,by rw[NQ h];rfl,by go_num,c⟩
   exact Ae
  have h0:n=0:=A;have f:C<|FB 8 (u^^^s[j].toNat)=t:=by rw[<-c.out,h0];rfl
  go_wp2;go_round
  .exact ⟨t,j+1,b,A,rfl,by go_num,o.out.trans f.out⟩
  exact Ae
 have f:C<|MW s.data.toList=u:=by have:=g.out;rw[Yh s j a] at this;exact this
 go_wp2;go_ret;exact⟨AU (show Value.int Q (4294967295-(u:Z))=_ by rw[BJ,f.out];congr 1;omega),rfl⟩
end Go.Proofs.YtfpphfkcaplafaaGreatDoor
namespace Go.Proofs.YtfpphfkcaplafaaGreatDoor.dk
open Go.RowKit Go.Proofs.Tryz
def EY{a b c d:M}(h:a=c)(k:b=d):Ending.returned (η #[a,b])=ε (η #[c,d]):=by rw[h,k]
def AU{a c:M}(h:a=c):Ending.returned a=ε c:=by rw[h]
def H{p:Prop}(h:p):C p:=h
def X{p:Prop}(h:C p):p:=h
structure Th where
 p:Y
 f:Bool
 d:Y
def Pc:Th:=⟨⟨#[]⟩,ι,⟨#[]⟩⟩
def nth(ts:E Th)(k:N):Th:=ts.getD k Pc
def BP:E Th->E M
 |[]=>[]
 |t::r=> G t.p:: ζ t.f:: G t.d::BP r
def FQ(ts:E Th):(BP ts).length=ts.length*3:=by
 induction ts with
 |nil=>rfl
 |cons t r a=>simp[BP,a];omega
def JI(a b:E Th):BP (a++b)=BP a++BP b:=by
 induction a with
 |nil=>rfl
 |cons t r c=>simp[BP,c]
def LI(ts:E Th)(k:N)(h:k<ts.length):(BP ts)[k*3]? =J (G (nth ts k).p)/\(BP ts)[k*3+1]? =J (ζ (nth ts k).f)/\(BP ts)[k*3+2]? =J (G (nth ts k).d):=by
 induction ts generalizing k with
 |nil=>simp at h
 |cons t r a=>
  match k with
  |0=>simp[BP,nth]
  |k+1=>
   have:=a k akW;rw[show(k+1)*3=k*3+1+1+1 by omega];simpa [BP,nth] using this
def bs(ts:E Th)(q:Y):N->N->N->N
 |0,lo,_=>lo
 |n+1,lo,hi=>if lo<hi then(if Op.bytesLess (nth ts ((lo+hi)/2)).p.toList q.toList then bs ts q n ((lo+hi)/2+1) hi else bs ts q n lo ((lo+hi)/2)) else lo
def mE(ts:E Th)(q:Y)(n a b:N)(h:b<=a):bs ts q n a b=a:=by
 cases n with
 |zero=>rfl
 |succ n=>unfold bs;rw[Wx A]
def yL(ts:E Th)(q:Y)(n:N):∀a b,a<=b->a<=bs ts q n a b/\bs ts q n a b<=b:=by
 induction n with
 |zero=>intro a b h;exact⟨WF _,h⟩
 |succ n c=>
  intro a b h;unfold bs;split
  .split
   .have:=c ((a+b)/2+1) b A;omega
   have:=c a ((a+b)/2) A;omega
  omega
def JJ(ts:E Th)(q:Y):N:=bs ts q ts.length 0 ts.length
def cr(ts:E Th)(q:Y):JJ ts q<=ts.length:=(yL ts q _ 0 _<|wH _).2
def Ji(ts:E Th)(q:Y):Bool:=decide (JJ ts q<ts.length)&&((nth ts<|JJ ts q).p.toList==q.toList)
def mF{ts:E Th}(h:c<b)(a:Op.bytesLess (nth ts ((c+b)/2)).p.toList q.toList=θ):bs ts q (n+1) c b=bs ts q n ((c+b)/2+1) b:=by
 rw[bs,Wz h,Wz a]
def fO{ts:E Th}(h:b<c)(a:Op.bytesLess (nth ts ((b+c)/2)).p.toList q.toList=ι):bs ts q (n+1) b c=bs ts q n b ((b+c)/2):=by
 rw[bs,Wz h,Wx<|by simp[a]]
open Go.RowKit Go.Proofs.Tryz
def uS(b g cap:N)(ts:E Th)(q:Y)(w:U)(l:ts.length<=1000000000000)
 (h0:w.cell? ⟨b,0,O⟩=J (K (J ⟨g,0,O⟩) ts.length cap))
 (i:∀k,k<ts.length->w.cell? ⟨g,k*3,O⟩=J (G (nth ts k).p)):
 μ F 102 #[V<|J ⟨b,0,O⟩,G q] w λe w'=>e=ε (η #[I Q<|JJ ts q,ζ<|Ji ts q])/\∃n,w'=w.drewN n:=by
 go_in;go_wp2_with fail;go_quiet (fail);go_wp2_with fail;go_loop [6,7] (λx y=>∃a c n:N,a<=c/\c<=ts.length/\c-a<=n/\x=I Q a/\y=I Q c/\C (bs ts q n a c=JJ ts q)) λx y=>(intOf y).toNat-(intOf x).toNat
 .exact ⟨0,ts.length,ts.length,wH _,WF _,WF _,rfl,rfl,rfl⟩
 obtain⟨a,c,n,_,_,_,rfl,rfl,f⟩:=hrel;by_cases d:a<c
 .obtain ⟨n,rfl⟩:∃m,n=m+1:=⟨n-1,A⟩;have j:=i ((a+c)/2) A;go_wp2
  .have h:Op.bytesLess (nth ts ((a+c)/2)).p.toList q.toList=true:=alt
   go_round
   .exact ⟨(a+c)/2+1,c,n,A,A,A,by go_num,rfl,(mF d h).symm.trans f.out⟩
   exact Ae
  have h:Op.bytesLess (nth ts ((a+c)/2)).p.toList q.toList=false:=alt
  go_round
  .exact ⟨a,(a+c)/2,n,A,A,A,rfl,by go_num,(fO d h).symm.trans f.out⟩
  exact Ae
 have c:=H<|f.out.symm.trans (mE _ _ _ _ _ A);go_wp2_with fail;by_cases d:a<ts.length
 .have j:=i a d;go_quiet (fail);go_wp2;go_ret2;exact⟨EY (show Value.int Q (a:Z)=_ by rw[c.out]) (show Value.bool ((nth ts a).p.toList==q.toList)=_ by simp[Ji,c.out,d]),_,World.drewN_drewN ..⟩
 have:decide (((a:N):Z)<(ts.length:Z))=false:=ako
 go_quiet (fail);go_wp2;go_ret2;exact⟨EY (show Value.int Q (a:Z)=_ by rw[c.out]) (show Value.bool ι=_ by simp[Ji,c.out,d]),_,World.drewN_drewN ..⟩
def uT(b:N)(q:Y)(w:U)
 (h0:w.cell? ⟨b,0,O⟩=J (K O 0 0)):
 μ F 102 #[V<|J ⟨b,0,O⟩,G q] w λe w'=>e=ε (η #[I Q 0,ζ ι])/\∃n,w'=w.drewN n:=by
 go_in;go_wp2_with fail;go_quiet (fail);go_wp2_with fail;go_loop [6,7] (λx y=>x=I Q 0/\y=I Q 0) λ_ _=>0
 .exact ⟨rfl,rfl⟩
 obtain⟨rfl,rfl⟩:=hrel;go_wp2_with fail;go_quiet (fail);go_wp2;go_ret2;exact⟨rfl,_,World.drewN_drewN ..⟩
open Go.RowKit Go.Proofs.Tryz
def TN(s:Y):N->N->N->Y->Option Y
 |0,_,_,up=>J up
 |n+1,i,fr,up=>
  if h:i<s.size then
   (if s[i].toNat=47 then(if i=fr then O else TN s n (i+1) (i+1) (s.extract 0 i)) else TN s n (i+1) fr up)
  else if i=fr then O else J up
def Uw{a:Y}(h:i<s.size)(b:s[i].toNat=47)(c:i=fr):TN s (n+1) i fr a=none:=by
 rw[TN,abB h,Wz b,Wz c]
def ct{a:Y}(h:i<s.size)(b:s[i].toNat=47)(c:¬i=fr):TN s (n+1) i fr a=TN s n (i+1) (i+1) (s.extract 0 i):=by
 rw[TN,abB h,Wz b,Wx c]
def cA{a:Y}(h:i<s.size)(b:¬s[i].toNat=47):TN s (n+1) i fr a=TN s n (i+1) fr a:=by
 rw[TN,abB h,Wx b]
def RV{a:Y}(h:¬i<s.size)(b:i=fr):TN s (n+1) i fr a=none:=by
 rw[TN,dif_neg h,Wz b]
def Xf{a:Y}(h:¬i<s.size)(b:¬i=fr):TN s (n+1) i fr a=J a:=by
 rw[TN,dif_neg h,Wx b]
def AE(s:Y):Option Y:=TN s (s.size+1) 0 0 ⟨#[]⟩
def JE(s:Y):Y:=(AE s).getD ⟨#[]⟩
def Pd(h:AE s=O):JE s=⟨#[]⟩:=by simp[JE,h]
def Kv(h:AE s=J u):JE s=u:=by simp[JE,h]
def RW(s:Y)(w:U)(o:s.size<=1000000000000):
 μ F 167 #[G s] w λe w'=>e=ε (η #[G<|JE s,ζ (AE s).isSome])/\w'=w:=by
 go_in;go_wp2;go_loop [4,5,6] (λx y z=>∃(h:Y) (c i n:N),i<=s.size+1/\c<=i/\n+i=s.size+1/\x=G h/\y=I Q c/\z=I Q i/\C (TN s n i c h=AE s)) λ_ _ i=>s.size+1-(intOf i).toNat
 .exact ⟨_,0,0,s.size+1,A,A,A,rfl,rfl,rfl,rfl⟩
 obtain⟨h,c,i,n,_,_,_,rfl,rfl,rfl,b⟩:=hrel;by_cases d:i<s.size
 .obtain ⟨n,rfl⟩:∃m,n=m+1:=⟨n-1,A⟩;by_cases a:s[i].toNat=47
  .have j:(((s[i].toNat:N):Z)==47)=true:=by rw[a];rfl
   by_cases f:i=c
   .have g :((i:Z)==c)=true:=by simp[f]
    have hq:=H<|b.out.symm.trans (Uw d a f);clear b a f;exact ahq
   have g :((i:Z)==c)=false:=ako
   have hq:=H ((ct d a f).symm.trans b.out);clear b a f;go_wp2;go_round
   .exact ⟨_,i+1,i+1,n,A,A,A,rfl,by go_num,by go_num,hq⟩
   exact Ae
  have:(((s[i].toNat:N):Z)==47)=false:=ako
  have hq:=H ((cA d a).symm.trans b.out);clear b a;go_wp2;go_round
  .exact ⟨_,c,i+1,n,A,A,A,rfl,by go_num,by go_num,hq⟩
  exact Ae
 by_cases k:i=s.size
 .obtain ⟨n,rfl⟩:∃m,n=m+1:=⟨n-1,A⟩;by_cases f:i=c
  .have g :((s.size:Z)==c)=true:=ako
   have hq:=H<|b.out.symm.trans (RV d f);clear b f;exact ahq
  have g :((s.size:Z)==c)=false:=ako
  have hq:=H<|b.out.symm.trans (Xf d f);have l:=H k;clear b f;go_wp2;go_round
  .exact ⟨h,s.size+1,s.size+1,0,A,A,A,rfl,by go_num,by go_num,hq.out.symm⟩
  have:=l.out;simp[intOf];omega
 have a:n=0:=A;have hq:C<|AE s=J h:=by rw[<-b.out,a];rfl
 clear b a;go_wp2;go_ret2;exact⟨EY (show Value.string h=_ by rw[Kv hq.out]) (show Value.bool θ=_ by rw[hq.out];rfl),rfl⟩
open Go.RowKit Go.Proofs.Tryz
def Bp(p u:Y):Bool:=
 (p.toList==u.toList)||(if h:u.size<p.size then((p.extract 0 u.size).toList==u.toList)&&((((p[u.size]'h).toNat:Z))==47) else ι)
def RX(p u:Y)(w:U)(b:u.size<=1000000000000):
 μ F 103 #[G p,G u] w λe w'=>e=ε (ζ<|Bp p u)/\w'=w:=by
 unfold Bp;by_cases h:u.size<p.size
 .rw[abB h];cases a:(p.toList==u.toList)<;>cases c:((p.extract 0 u.size).toList==u.toList)
  all_goals
   go_in;go_wp2;go_ret;exact⟨AU Ad,rfl⟩
 rw[dif_neg h];cases a:(p.toList==u.toList)
 all_goals
  go_in;go_wp2;go_ret;exact⟨AU Ad,rfl⟩
def Re(w:U):μ F 5 #[] w λe w'=>e=ε (V<|J ⟨w.heap.size,0,O⟩)/\w'=w.alloc (W #[K O 0 0,I Q (-1),I Q (-1),I Q 0,ζ ι] 46):=akH
open Go.RowKit Go.Proofs.Tryz
structure Ag (S:N->Prop) (w w':U):Prop where
 os:w'.os=w.os
 tape:w'.tape=w.tape
 output:w'.output=w.output
 size:w.heap.size<=w'.heap.size
 block:∀k,k<w.heap.size->¬S k->w'.heap[k]? =w.heap[k]?
def Ag.refl(S:N->Prop)(w:U):Ag S w w:=⟨rfl,rfl,rfl,WF _,λ_ _ _=>rfl⟩
def Ag.trans{b c:U}(h:Ag S a b)(k:Ag S b c):Ag S a c:=
 ⟨k.os.trans h.os,k.tape.trans h.tape,k.output.trans h.output,WI h.size k.size,λi d e=>(k.block i (wG d h.size) e).trans<|h.block i d e⟩
def Ag.transNew{b c:U}(h:Ag S a b)(k:Ag T b c)(f:∀i,i<a.heap.size->T i->S i):Ag S a c:=
 ⟨k.os.trans h.os,k.tape.trans h.tape,k.output.trans h.output,WI h.size k.size,λi d e=>(k.block i (wG d h.size) λg=>e<|f i d g).trans<|h.block i d e⟩
def Ag.mono{b:U}(h:Ag S a b)(d:∀i,i<a.heap.size->S i->T i):Ag T a b:=
 ⟨h.os,h.tape,h.output,h.size,λi c e=>h.block i c λx=>e<|d i c x⟩
def Ag.drewN{b:U}(h:Ag S a b)(n:N):Ag S a<|b.drewN n:=⟨h.os,h.tape,h.output,h.size,h.block⟩
def Ag.drew{b:U}(h:Ag S a b):Ag S a b.drew:=⟨h.os,h.tape,h.output,h.size,h.block⟩
def Ag.alloc(h:Ag S a w)(o:Obj):Ag S a<|w.alloc o:=
 h.trans ⟨rfl,rfl,rfl,Ad,λ_ b _=>Below.heap_alloc _ _ _ b⟩
def Ag.setCell(h:Ag S a w){p:Addr}(b:p.block<a.heap.size->S p.block)(u:M):Ag S a<|w.setCell p u:=
 h.transNew (T:=λk=>k=p.block) ⟨rfl,rfl,rfl,by simp[World.setCell],λ_ _ c=>aaK _ _ _ _ c⟩ λ_ c e=>by subst e;exact b c
def Ag.grown{b:Option N}(h:Ag S a w)(c:w.grownBy w' b)(d:∀k,k<a.heap.size->b=J k->S k):Ag S a w':=
 h.transNew (T:=λk=>b=J k) ⟨c.os,c.tape,c.output,c.size,λk b e=>c.block k b λb=>e b.symm⟩ λi b e=>d i b e
def Ag.cell(h:Ag S w w'){p:Addr}(a:p.block<w.heap.size)(b:¬S p.block):w'.cell? p=w.cell? p:=World.cell?_of_block (w:=w)<|h.block p.block a b
def Ag.frozen(h:Ag S w w'){p:Addr}(a:p.block<w.heap.size)(b:¬S p.block):w'.frozen? p=w.frozen? p:=World.frozen?_of_block (w:=w)<|h.block p.block a b
def LC(w:U)(v:M)(ts:E Th):Prop:=
 (v=K O 0 0/\ts=[])\/
 ∃g cap J0,v=K (J ⟨g,0,O⟩) ts.length cap/\w.heap[g]? =J (W J0 132 (0,0))/\ts.length<=cap/\cap<=maxLen/\cap*3<=J0.size/\J0.toList.take (ts.length*3)=BP ts
def LC.nil(w:U):LC w (K O 0 0) []:=.inl ⟨rfl,rfl⟩
def LC.lt{ts:E Th}(h:LC w v ts):∀k,v.ownBlock=J k->k<w.heap.size:=by
 intro k a;rcases h with⟨rfl,_⟩|⟨g,_,_,rfl,b,_⟩
 .simp[Value.ownBlock] at a
 simp[Value.ownBlock] at a;subst a;exact(Wt.1 b).1
def LC.kept{ts:E Th}(h:LC w v ts)(d:Ag S w w')(e:∀k,v.ownBlock=J k->¬S k):LC w' v ts:=by
 rcases h with h|⟨g,a,b,rfl,c,r⟩
 .exact .inl h
 exact .inr ⟨g,a,b,rfl,by rw[d.block g (Wt.1 c).1<|e g rfl];exact c,r⟩
def Ew{a:φ M}{ts:E Th}(b:w.heap[g]? =J (W a 132 (0,0)))(c:a.toList.take (ts.length*3)=BP ts)(k:N)(e:k<ts.length):
 w.cell? ⟨g,k*3,O⟩=J (G (nth ts k).p)/\w.cell? ⟨g,k*3+1,O⟩=J (ζ (nth ts k).f)/\w.cell? ⟨g,k*3+2,O⟩=J (G (nth ts k).d):=by
 have h:=LI ts k e;rw[<-c,aab,aab,aab,Wz A,Wz A,Wz A] at h;rw[Wu w g _ a 132 (0,0) b,Wu w g _ a 132 (0,0) b,Wu w g _ a 132 (0,0) b];simpa using h
structure AX where
 ts:E Th
 room:Z
 left:Z
 steps:Z
 down:Bool
def Ao(w:U)(b:N)(v:M)(D:AX):Prop:=
 w.heap[b]? =J (W #[v,I Q D.room,I Q D.left,I Q D.steps,ζ D.down] 46 (0,0))/\LC w v D.ts/\v.ownBlock≠J b
def Ao.lt{D:AX}(h:Ao w b v D):b<w.heap.size:=(Wt.1 h.1).1
def Ao.cells{D:AX}(h:Ao w b v D):w.cell? ⟨b,0,O⟩=J v/\w.cell? ⟨b,1,O⟩=J (I Q D.room)/\w.cell? ⟨b,2,O⟩=J (I Q D.left)/\
 w.cell? ⟨b,3,O⟩=J (I Q D.steps)/\w.cell? ⟨b,4,O⟩=J (ζ D.down):=by
 refine⟨?_,?_,?_,?_,?_⟩<;>(rw[Wu w b _ _ _ _ h.1];rfl)
def Ao.thaw{D:AX}(h:Ao w b v D):∀o,w.frozen? ⟨b,o,O⟩=false:=λo=>WK w b o _ _ h.1
def Ao.kept{D:AX}(h:Ao w b v D)(a:Ag S w w')(c:¬S b)(d:∀k,v.ownBlock=J k->¬S k):Ao w' b v D:=
 ⟨by rw[a.block b h.lt c];exact h.1,h.2.1.kept a d,h.2.2⟩
def Ao.drewN{D:AX}(h:Ao w b v D)(n:N):Ao (w.drewN n) b v D:=h
def Br(w w':U)(b:N)(v:M)(D':AX):Prop:=
 ∃v',Ao w' b v' D'/\Ag (λk=>k=b\/v.ownBlock=J k) w w'/\(v'.ownBlock=v.ownBlock\/ ∀k,v'.ownBlock=J k->w.heap.size<=k)
def Rf{D:AX}(h:Ao w b v D)(q:Y)(f:D.ts.length<=1000000000000):
 μ F 102 #[V<|J ⟨b,0,O⟩,G q] w λe w'=>e=ε (η #[I Q<|JJ D.ts q,ζ<|Ji D.ts q])/\∃n,w'=w.drewN n:=by
 have c:=h.cells;rcases h.2.1 with⟨rfl,d⟩|⟨g,a,_,rfl,i,d,_,_,h⟩
 .rw[d];exact uT b q w c.1
 exact uS b g a D.ts q w f c.1 λk a=>(Ew i h k a).1
open Go.RowKit Go.Proofs.Tryz
def BW(ts:E Th)(q:Y):Z:=if Ji ts q then(if(nth ts<|JJ ts q).f then 2 else 1) else 0
def NZ{ts:E Th}(h:Ji ts q=θ):JJ ts q<ts.length:=by
 unfold Ji at h;simp at h;exact h.1
def Oa{ts:E Th}(h:LC w v ts)(h0:0<ts.length):
 ∃g cap a,v=K (J ⟨g,0,O⟩) ts.length cap/\w.heap[g]? =J (W a 132 (0,0))/\ts.length<=cap/\cap<=maxLen/\cap*3<=a.size/\a.toList.take (ts.length*3)=BP ts:=by
 rcases h with⟨_,rfl⟩|h
 .simp at h0
 exact h
def Ct{D:AX}(h:Ao w b v D)(q:Y)(c:D.ts.length<=1000000000000):
 μ F 107 #[V<|J ⟨b,0,O⟩,G q] w λe w'=>e=ε (I Q<|BW D.ts q)/\∃n,w'=w.drewN n:=by
 have:=h.cells.1;have HA:=Rf h q c;unfold BW;by_cases a:Ji D.ts q=θ
 .obtain ⟨g,_,_,rfl,i,_,_,_,j⟩:=Oa h.2.1 (by have:=NZ a;omega);have c:=NZ a;have d:=(Ew i j _ c).2.1;rw[Wz a];rw[a] at HA;generalize JJ D.ts q=k at*;cases l:(nth D.ts k).f<;>rw[l] at d
  all_goals
   exact ahM
 have a:Ji D.ts q=false:=by simpa using a
 rw[a] at HA;rw[Wx<|by simp[a]];exact ahM
def Aq(w:U)(b i:N)(u:M):Ag (λk=>k=b) w<|w.setCell ⟨b,i,O⟩ u:=(Ag.refl (λk=>k=b) w).setCell (p:=⟨b,i,O⟩) (λ_=>rfl) u
def Ux(w:U)(b i j:N)(u x:M):Ag (λk=>k=b) w ((w.setCell ⟨b,i,O⟩ u).setCell ⟨b,j,O⟩ x):=(Aq w b i u).setCell (p:=⟨b,j,O⟩) (λ_=>rfl) x
def Ao.set{D:AX}(h:Ao w b v D)(i:N)(u:M)(a :AX)(c:a.ts=D.ts)
 (d:(#[v,I Q D.room,I Q D.left,I Q D.steps,ζ D.down]:φ M).setIfInBounds i u= #[v,I Q a.room,I Q a.left,I Q a.steps,ζ a.down]):
 Ao (w.setCell ⟨b,i,O⟩ u) b v a :=
 ⟨by rw[WL w b i _ _ u h.1,d],by rw[c];exact h.2.1.kept (Aq w b i u) λ_ a e=>h.2.2 (e ▸ a),h.2.2⟩
def Ao.setRoom{D:AX}(h:Ao w b v D)(n:Z):Ao (w.setCell ⟨b,1,O⟩<|I Q n) b v {D with room:=n}:=h.set 1 _ _ rfl rfl
def Ao.setLeft{D:AX}(h:Ao w b v D)(n:Z):Ao (w.setCell ⟨b,2,O⟩<|I Q n) b v {D with left:=n}:=h.set 2 _ _ rfl rfl
def Ao.setSteps{D:AX}(h:Ao w b v D)(n:Z):Ao (w.setCell ⟨b,3,O⟩<|I Q n) b v {D with steps:=n}:=h.set 3 _ _ rfl rfl
def Ao.setDown{D:AX}(h:Ao w b v D)(n:Bool):Ao (w.setCell ⟨b,4,O⟩<|ζ n) b v {D with down:=n}:=h.set 4 _ _ rfl rfl
def Ao.setThings{D:AX}{ts:E Th}(h:Ao w b v D)(c:LC w v' ts)(a:v'.ownBlock≠J b):Ao (w.setCell ⟨b,0,O⟩ v') b v' {D with ts:=ts}:=
 ⟨by rw[WL w b 0 _ _ v' h.1];rfl,c.kept (Aq w b 0 v') λ_ c e=>a (e ▸ c),a⟩
def Br.of{a :AX}(h:Ao w' b v a)(c:Ag (λk=>k=b) w w'):Br w w' b v a :=⟨v,h,c.mono λ_ _ e=> .inl e,.inl rfl⟩
def stepped(D:AX):AX:=
 {D with steps:=wrap64<|D.steps+1,down:=(D.left==0)||D.down,left:=if(D.left==0)||D.down then D.left else if 0<D.left then wrap64 (D.left-1) else D.left}
def JZ(D:AX):Bool:= !((D.left==0)||D.down)
def Kw{D:AX}(h:Ao w b v D):
 μ F 99 #[V<|J ⟨b,0,O⟩] w λe w'=>e=ε (ζ<|JZ D)/\Ao w' b v (stepped D)/\Ag (λk=>k=b) w w':=by
 obtain⟨h0,_,_,_,c⟩:=h.cells;have i:=h.thaw;have d:=h;unfold JZ;cases f:(D.left==0)<;>cases a:D.down
 .by_cases g:0<D.left
  .clear h;rw[a] at c;go_in;go_wp2;go_ret;refine⟨rfl,?_,Ux _ _ _ _ _ _⟩;have:=(d.setSteps<|wrap64 (D.steps+1)).setLeft<|wrap64 (D.left-1);have e:stepped D={D with steps:=wrap64<|D.steps+1,left:=wrap64 (D.left-1)}:=by simp[stepped,f,a,g]
   rw[e];exact this
  rw[a] at c;go_in;go_wp2;go_ret;refine⟨rfl,?_,Aq _ _ _ _⟩;have:=d.setSteps<|wrap64 (D.steps+1);have e:stepped D={D with steps:=wrap64 (D.steps+1)}:=by simp[stepped,f,a];omega
  rw[e];exact this
 .clear h;rw[a] at c;go_in;go_wp2;go_ret;refine⟨rfl,?_,Aq _ _ _ _⟩;have:=d.setSteps<|wrap64 (D.steps+1);have e:stepped D={D with steps:=wrap64 (D.steps+1)}:=by simp[stepped,f,a]
  rw[e];exact this
 all_goals
  rw[a] at c;go_in;go_wp2;go_ret;refine⟨rfl,?_,Ux _ _ _ _ _ _⟩;have:=(d.setSteps<|wrap64 (D.steps+1)).setDown θ;have e:stepped D={D with steps:=wrap64<|D.steps+1,down:=θ}:=by simp[stepped,f,a]
  rw[e];exact this
open Go.RowKit Go.Proofs.Tryz
def Pe(ts:E Th)(q:Y):Bool:=Ji ts q&& !(nth ts<|JJ ts q).f
def RY(ts:E Th)(q:Y):Y:=if Pe ts q then(nth ts<|JJ ts q).d else⟨#[]⟩
def Mv{D:AX}(h:Ao w b v D)(q:Y)(c:D.ts.length<=1000000000000):
 μ F 110 #[V<|J ⟨b,0,O⟩,G q] w λe w'=>e=ε (η #[G<|RY D.ts q,ζ<|Pe D.ts q])/\∃n,w'=w.drewN n:=by
 have:=h.cells.1;have HA:=H<|Rf h q c;unfold RY Pe;by_cases a:Ji D.ts q=θ
 .obtain ⟨g,_,_,rfl,i,_,_,_,j⟩:=Oa h.2.1 (by have:=NZ a;omega);have c:=NZ a;have d:=(Ew i j _ c).2.1;have:=(Ew i j _ c).2.2;rw[a] at HA ⊢;generalize JJ D.ts q=k at*;cases l:(nth D.ts k).f<;>rw[l] at d
  all_goals
   exact ahB
 have a:Ji D.ts q=false:=by simpa using a
 rw[a] at HA ⊢;exact ahB
def jb{D:AX}(h:Ao w b v D):
 μ F 233 #[V<|J ⟨b,0,O⟩] w λe w'=>e=ε (ζ D.down)/\w'=w:=by
 obtain⟨h0,_,_,_,_⟩:=h.cells;exact akH
def Dw(ts:E Th)(p:Y):Z:=
 if !(AE p).isSome||(!((JE p).toList==[])&& !(BW ts (JE p)==2)) then 1 else if BW ts p==0 then 0 else 2
def Pf{D:AX}(h:Ao w b v D)(q:Y)(g:q.size<=1000000000000)(i:D.ts.length<=1000000000000):
 μ F 100 #[V<|J ⟨b,0,O⟩,G q] w λe w'=>e=ε (I Q<|Dw D.ts q)/\∃n,w'=w.drewN n:=by
 have j:=H λ(k:U) (u:Y) (c:Ao k b v D)=>Ct c u i;have l:=H h;have a:=H λw=>RW q w g;unfold Dw;generalize JE q=u,BW D.ts=f at*;cases d:(AE q).isSome
 .rw[d] at a;go_in;go_wp2_with (go_at_call 167;refine(a _).mono ?_;rintro e w' ⟨rfl,rfl⟩);go_ret;exact⟨AU Ad,0,rfl⟩
 rw[d] at a;cases m:(u.toList==[])<;>cases c:(f u==2)<;>cases o:(f q==0)
 all_goals
  go_in;go_wp2_with (first
   |(go_at_call 167;refine(a _).mono ?_;rintro e w' ⟨rfl,rfl⟩)
   |(go_at_call 107;refine(j _ _<|by exact l).mono ?_;rintro e w' ⟨rfl,n,rfl⟩))
  go_ret;refine⟨AU Ad,?_⟩;first|exact⟨_,rfl⟩|exact⟨_,World.drewN_drewN ..⟩
open Go.RowKit Go.Proofs.Tryz
def cB:(prog.info? 132).map (λi=>(i.zero,i.size,i.bytes))=J (J (.agg #[G ⟨#[]⟩,ζ ι,G ⟨#[]⟩]),3,40):=B
def YT(ts:E Th):∀u∈BP ts,u.oneCell'=true:=by
 induction ts with
 |nil=>intro u h;simp[BP] at h
 |cons t r a=>
  intro u h;simp only[BP,wD] at h;rcases h with rfl|rfl|rfl|h
  .rfl
  .rfl
  .rfl
  exact a u h
def Qb(w:U)(x:M)(us:E Th):Prop:=
 ∃(ao:Option Addr) (c:N),x=K ao us.length c/\(ao=O->us=[])/\∀a,ao=J a-> ∀j u,(BP us)[j]? =J u->w.cell? (a.add j)=J u
def Gj{ts:E Th}(t:LC w v ts){b:E Th}(f:Qb w x b)(q:ν)(u:(ts.length+b.length)*40<=140737488355328):
 ∃v' w',(Builtin.append_ #[44,44] q #[v,x]).run F w=.ok v' w'/\LC w' v' (ts++b)/\w.grownBy w' v.ownBlock/\(v'.ownBlock=v.ownBlock\/ ∀k,v'.ownBlock=J k->w.heap.size<=k):=by
 obtain⟨r,m,n,h,o⟩:=wi cB;obtain⟨p,z,rfl,R,hc⟩:=f;have E9:=FQ b;have c:=FQ ts;have D:ts.length+b.length<=maxLen:=by unfold maxLen;omega
 cases p with
 |none=>
  obtain rfl:=R rfl;refine⟨v,w,?_,by simpa using t,World.grownBy.refl _ _,.inl rfl⟩;rcases t with⟨rfl,rfl⟩|⟨g,d,i,rfl,s,S,T,h3,L⟩
  .simp[Builtin.append_,aaf underlying44,sizeOf,typeInfo,m,Builtin.lenOf,Builtin.firstCells]
  simp[Builtin.append_,aaf underlying44,sizeOf,typeInfo,m,Builtin.lenOf,Builtin.firstCells,S,storeCells]
 |some a=>
  have e:=hc a rfl;have j:∀(f:N),f<ts.length+b.length-> ∀(p:Option N),
   LC (w.drew.alloc<|W ((BP ts).toArray++(BP b).toArray++Builtin.zeroCells (Value.agg #[G ⟨#[]⟩,ζ ι,G ⟨#[]⟩]).cells (grownCap w (ts.length+b.length) f 132-(ts.length+b.length))) 132)
    (K (J ⟨w.heap.size,0,O⟩) (ts.length+b.length)<|grownCap w (ts.length+b.length) f 132) (ts++b)/\
   w.grownBy (w.drew.alloc<|W ((BP ts).toArray++(BP b).toArray++Builtin.zeroCells (Value.agg #[G ⟨#[]⟩,ζ ι,G ⟨#[]⟩]).cells (grownCap w (ts.length+b.length) f 132-(ts.length+b.length))) 132) p:=by
   intro f _ p;have p:=grownCap_ge w (ts.length+b.length) f 132;have R:=grownCap_le_maxLen w (ts.length+b.length) f 132 D;refine⟨.inr ⟨w.heap.size,_,_,Ad,WD w.drew _,by simpa using p,R,?_,?_⟩,⟨rfl,rfl,rfl,Ad,λk hk _=>Below.heap_alloc w.drew _ k hk⟩⟩
   .simp only[acH,wK,size_zeroCells,E9,c];simp only[Value.cells,wK,wu,abc];omega
   simp only[Array.toList_append,WG,JI];rw[<-WG];exact aiz
  rcases t with⟨rfl,rfl⟩|⟨g,d,i,rfl,s,S,T,h3,L⟩
  .by_cases hm:b=[]
   .subst hm;refine⟨K O 0 0,w,?_,LC.nil w,⟨rfl,rfl,rfl,WF _,λ_ _ _=>rfl⟩,.inl rfl⟩;simp[Builtin.append_,aaf underlying44,sizeOf,typeInfo,m,Builtin.lenOf,Builtin.firstCells,loadCells,loadCellsFrom]
   have f:=List.length_pos_iff.2 hm;have y:=run_append_nil (P:=F) w 44 q 132 r _ underlying44 m n a b.length z (BP b) (by rw[E9,h]) e f (by simp at u;omega) (by rw[o];simp at u;omega);have l:=j 0 ako<|Value.ownBlock (K O 0 0);simp only[BP,abc,WQ,aan,Array.empty_append] at l ⊢;exact aiD
  by_cases f:ts.length+b.length<=d
  .have p:ts.length*r.size+(BP b).length<=i.size:=by rw[E9,h];omega
   have y:=run_append_room (P:=F) w 44 q 132 r underlying44 m g ts.length d i s a b.length z (BP b) (by rw[E9,h]) e (YT b) f p;refine⟨_,_,y,.inr ⟨g,d,_,Ad,aaa w g i _ 132 _ s,by simpa using f,T,?_,?_⟩,⟨rfl,rfl,rfl,Ad,λk _ hk=>ade w g k _ λf=>hk<|by simp[Value.ownBlock,f]⟩,.inl rfl⟩
   .simp only[wK,Ws,hY,aad,wE];omega
   rw[h,L,JI];exact aiz
  have f:∀p t,(BP ts)[p]? =J t->w.cell? ((⟨g,0,O⟩:Addr).add p)=J t:=by
   intro p t t;have:=(wW.1 t).1;rw[we,WQ,Wu w g p i 132 (0,0) s];rw[<-L,aab,Wz A] at t;simpa using t
  have y:=run_append_grow (P:=F) w 44 q 132 r _ underlying44 m n ⟨g,0,O⟩ ts.length d (BP ts) (by rw[c,h]) f a b.length z (BP b) (by rw[E9,h]) e A A (growslice_fits A<|by rw[o];exact u);have l:=j d A<|Value.ownBlock (K (J ⟨g,0,O⟩) ts.length d);exact aiD
open Go.RowKit Go.Proofs.Tryz
def Ob{ops:φ Oper}{rest:E Oper}{o:Oper}{a:Act}{Q:Exit->Act->U->Prop}(d:o.guard=O)(s x:Operand)
 (ho:o.op=.call {callee:=.builtin .append,args:= #[s,x],argTypes:= #[44,44]})
 (v g:M)(ts e:E Th)(hs:a.eval s=v)(hx:a.eval x=g)(h:LC w v ts)(f:Qb w g e)(g:(ts.length+e.length)*40<=140737488355328)
 (l:∀v' w',LC w' v' (ts++e)->w.grownBy w' v.ownBlock->(v'.ownBlock=v.ownBlock\/ ∀k,v'.ownBlock=J k->w.heap.size<=k)->wpList F ops Q rest (a.put o.dst v') w'):
 wpList F ops Q (o::rest) a w:=by
 refine acu d λ_ c =>?_
 obtain⟨v',w',b,h1,h2,h3⟩:=Gj h f o.type g;exact age
def Lt{ops:φ Oper}{o:Oper}{a:Act}{b:Act->U->Prop}{Q:Exit->Act->U->Prop}{c:Prop}(d:o.guard=O)(s x:Operand)
 (h:o.op=.call {callee:=.builtin .append,args:= #[s,x],argTypes:= #[44,44]})
 (v g:M)(ts e:E Th)(i:a.eval s=v)(j:a.eval x=g)(l:LC w v ts)(f:Qb w g e)(g:(ts.length+e.length)*40<=140737488355328)
 (m:∀v' w',LC w' v' (ts++e)->w.grownBy w' v.ownBlock->(v'.ownBlock=v.ownBlock\/ ∀k,v'.ownBlock=J k->w.heap.size<=k)->b (a.put o.dst v') w'):
 if Region.wanted o (yielded ops a.tmps)=θ then Oper.wp F o a w b Q else c:=by
 have b:Region.wanted o (yielded ops a.tmps)=true:=by simp[Region.wanted,d]
 rw[Wz b];obtain⟨v',w',b,c,d,e⟩:=Gj l f o.type g;unfold Oper.wp;simp[execOp,h,resolve,invoke,builtin,i,j,b,Result.andThen];exact m v' w' c d e
def Uy(ts:E Th)(k:N):BP (ts.drop k)=(BP ts).drop (k*3):=by
 induction k generalizing ts with
 |zero=>simp
 |succ k b=>
  exact aix
def Uz(ts:E Th)(k:N):BP (ts.take k)=(BP ts).take (k*3):=by
 induction k generalizing ts with
 |zero=>simp[BP]
 |succ k b=>
  exact aix
def mG(us:E Th)(k:N)(t:Th):(((BP us).set (k*3)<|G t.p).set (k*3+1)<|ζ t.f).set (k*3+2) (G t.d)=BP (us.set k t):=by
 induction k generalizing us with
 |zero=>cases us<;>simp[BP]
 |succ k a=>
  cases us with
  |nil=>simp[BP]
  |cons x r=>rw[show(k+1)*3=k*3+1+1+1 by omega];simpa [BP] using a r
def CG(a:E Th)(k:N)(h:k<a.length):a.take (k+1)=a.take k++[nth a k]:=by
 rw[acp h];simp[nth,h]
def RZ{b:φ M}{ts:E Th}(t:k<=ts.length)(l:w.heap[g]? =J (W b 132 (0,0)))(t:ts.length+1<=cap)(e:cap*3<=b.size)
 (c:b.toList.take ((ts.length+1)*3)=BP (ts++[Pc]))(f:Option Addr)(t u:N)(v:ν)(n:k<ts.length->f=J ⟨g,(k+1)*3,O⟩):
 ∃w' d,(Builtin.copy_ #[44,44] v #[K f (ts.length-k) t,K (J ⟨g,k*3,O⟩) (ts.length+1-k) u]).run F w=.ok (goInt ((ts.length-k:N):Z)) w'/\
  w'.heap[g]? =J (W d 132 (0,0))/\cap*3<=d.size/\d.toList.take ((ts.length+1)*3)=BP (ts.take k++nth (ts++[Pc]) k::ts.drop k)/\Ag (λi=>i=g) w w':=by
 obtain⟨i,o,_,p,_⟩:=wi cB;have d:Nat.min (ts.length+1-k) (ts.length-k)=ts.length-k:=Nat.min_eq_right A;have t:=FQ ts;by_cases q:k=ts.length
 .subst q;refine⟨w,b,?_,l,e,?_,Ag.refl _ _⟩
  .have:ts.length-ts.length=0:=A;have m:ts.length+1-ts.length=1:=A;simp only[this,m];cases f with
   |none=>simp[Builtin.copy_,aaf underlying44,Builtin.lenOf,Builtin.firstCells,sizeOf,typeInfo,o,loadCells,loadCellsFrom]
   |some a=>simp[Builtin.copy_,aaf underlying44,Builtin.lenOf,Builtin.firstCells,sizeOf,typeInfo,o,loadCells,loadCellsFrom,storeCells]
  rw[c];simp[nth]
 obtain rfl:=n A;have e:(BP<|ts.drop k).length=(ts.length-k)*3:=by rw[FQ];simp
 have f:∀j u,(BP<|ts.drop k)[j]? =J u->w.cell? ((⟨g,k*3,O⟩:Addr).add j)=J u:=by
  intro j u n;have r:=(wW.1 n).1;rw[we,Wu w g _ b 132 (0,0) l];rw[Uy,abO] at n;have m:(b.toList.take ((ts.length+1)*3))[k*3+j]? =J u:=by
   rw[c,JI,WW A];exact n
  rw[aab,Wz A] at m;simpa using m
 have s:=aca (P:=F) w ⟨g,k*3,O⟩ (BP<|ts.drop k) f;have h:=adk F g ((k+1)*3) 132 (BP<|ts.drop k) 0 b w l A<|YT _;rw[e] at s;refine⟨_,(b.toList.take ((k+1)*3+0)++BP (ts.drop k)++b.toList.drop ((k+1)*3+0+(BP<|ts.drop k).length)).toArray,?_,aaa w g b _ 132 _ l,?_,?_,?_⟩
 rotate_left
 .exact ajG
 .simp only[aaw];have f:(b.toList.take ((k+1)*3)++BP (ts.drop k)).length=(ts.length+1)*3:=by
   simp only[Ws,hY,wE,e];omega
  rw[<-f,abn];have e:b.toList.take ((k+1)*3)=BP (ts.take k++[nth (ts++[Pc]) k]):=by
   have b:(ts++[Pc]).take k=ts.take k:=by rw[List.take_append_of_le_length A]
   rw[<-b,<-CG (ts++[Pc]) k ako,Uz,<-c,List.take_take];congr 1;omega
  rw[e,<-JI];simp
 .exact ⟨rfl,rfl,rfl,by simp[World.setRow],λj _ r=>ade w g j _ r⟩
 simp[Builtin.copy_,aaf underlying44,Builtin.lenOf,Builtin.firstCells,sizeOf,typeInfo,o,p,s,d];simp at h;simp[h]
def QE{ops:φ Oper}{o:Oper}{a:Act}{c:Act->U->Prop}{Q:Exit->Act->U->Prop}{e:Prop}(j:o.guard=O)(d s:Operand)
 (v:o.op=.call {callee:=.builtin .copy,args:= #[d,s],argTypes:= #[44,44]})
 {b:φ M}{ts:E Th}(x:k<=ts.length)(y:w.heap[g]? =J (W b 132 (0,0)))(z:ts.length+1<=cap)(l:cap*3<=b.size)
 (h:b.toList.take ((ts.length+1)*3)=BP (ts++[Pc]))(m:Option Addr)(r t b u:N)(n:b=ts.length-k)(p:u=ts.length+1-k)(q:k<ts.length->m=J ⟨g,(k+1)*3,O⟩)
 (D:a.eval d=K m b r)(L:a.eval s=K (J ⟨g,k*3,O⟩) u t)
 (P:∀w' f,w'.heap[g]? =J (W f 132 (0,0))->cap*3<=f.size->f.toList.take ((ts.length+1)*3)=BP (ts.take k++nth (ts++[Pc]) k::ts.drop k)->Ag (λi=>i=g) w w'->c (a.put o.dst<|goInt ((ts.length-k:N):Z)) w'):
 if Region.wanted o (yielded ops a.tmps)=θ then Oper.wp F o a w c Q else e:=by
 have b:Region.wanted o (yielded ops a.tmps)=true:=by simp[Region.wanted,j]
 rw[Wz b];subst n p;obtain⟨w',f,b,c,e,j,n⟩:=RZ x y z l h m r t o.type q;unfold Oper.wp;simp only[execOp,v,resolve,invoke,builtin,acd,acJ,abS,ads,aai,aaF,D,L,b];exact P w' f c e j n
open Go.RowKit Go.Proofs.Tryz
def Ao.alloc{D:AX}(h:Ao w b v D)(o:Obj):Ao (w.alloc o) b v D:=
 h.kept ((Ag.refl (λ_=>False) w).alloc o) (λx=>x) λ_ _ x=>x
def Pg(b:g=w.heap.size)(t:Th):Qb (w.alloc<|W #[G t.p,ζ t.f,G t.d] 132) (K (J ⟨g,0,O⟩) 1 1) [t]:=by
 subst b;refine⟨_,_,rfl,(by intro h;cases h),?_⟩;intro a c j _ e;cases c;rw[we,WQ,Wu _ _ j _ 132 (0,0)<|WD w _];simpa [BP] using e
def qZ{D:AX}{t:Th}(m:Ao w b v D)(o:LC w1 v'<|D.ts++[Pc])
 (c:(((w.alloc<|W #[G t.p,ζ t.f,G t.d] 132).drewN n).alloc<|W #[G ⟨#[]⟩,ζ ι,G ⟨#[]⟩] 132).grownBy w1 v.ownBlock)
 (h:v'.ownBlock=v.ownBlock\/ ∀k,v'.ownBlock=J k->(((w.alloc<|W #[G t.p,ζ t.f,G t.d] 132).drewN n).alloc<|W #[G ⟨#[]⟩,ζ ι,G ⟨#[]⟩] 132).heap.size<=k):
 ∃g cap a,v'=K (J ⟨g,0,O⟩) (D.ts.length+1) cap/\w1.heap[g]? =J (W a 132 (0,0))/\D.ts.length+1<=cap/\cap<=maxLen/\cap*3<=a.size/\a.toList.take ((D.ts.length+1)*3)=BP (D.ts++[Pc])/\
  g≠b/\(v.ownBlock=J g\/w.heap.size+2<=g)/\
  w1.heap[b]? =w.heap[b]? /\w1.heap[w.heap.size]? =J (W #[G t.p,ζ t.f,G t.d] 132 (0,0))/\Ag (λj=>v.ownBlock=J j) w w1:=by
 have q:=m.lt;have i:=m.2.2;have r:=m.2.1.lt;have s:=((((Ag.refl _ w).alloc _).drewN n).alloc _).grown c λk _ e=>e;obtain⟨g,cap,a,rfl,L,u,x,y,z⟩:=Oa o Ad;simp only[Ws,wu,abc,WQ] at u x y z ⊢;have l:v.ownBlock=J g\/w.heap.size+2<=g:=by
  rcases h with e|e
  .exact .inl e.symm
  have:=e g rfl;simp at this;exact .inr A
 refine⟨g,cap,a,rfl,L,u,x,y,z,?_,l,s.block b q i,?_,s⟩
 .rintro rfl;rcases l with e|e
  .exact i e
  omega
 have:=c.block w.heap.size ako (by intro e;have:=r _ e.symm;omega);rw[this];rw[Below.heap_alloc _ _ _ Ad];exact WD w _
def re{D:AX}{t:Th}{a:φ M}(z:b<w.heap.size)(L:g≠b)(y:v.ownBlock=J g\/w.heap.size+2<=g)(r:∀k,v.ownBlock=J k->k<w.heap.size)
 (l:Ag (λj=>j=b\/v.ownBlock=J j) w w2)(m:w2.heap[w.heap.size]? =J (W #[G t.p,ζ t.f,G t.d] 132 (0,0)))
 (s:w2.heap[b]? =J (W #[K (J ⟨g,0,O⟩) (D.ts.length+1) cap,I Q D.room,I Q D.left,I Q D.steps,ζ D.down] 46 (0,0)))
 (P:w3.heap[g]? =J (W a 132 (0,0)))(z:cap*3<=a.size)(R:k<cap)(c:Ag (λi=>i=g) w2.drew w3):
 w3.cell? ⟨b,0,O⟩=J (K (J ⟨g,0,O⟩) (D.ts.length+1) cap)/\
 (w3.cell? ⟨w.heap.size,0,O⟩=J (G t.p)/\w3.cell? ⟨w.heap.size,1,O⟩=J (ζ t.f)/\w3.cell? ⟨w.heap.size,2,O⟩=J (G t.d))/\
 (∃h a1 n,w3.cell? ⟨g,k*3,O⟩=J h/\w3.cell? ⟨g,k*3+1,O⟩=J a1/\w3.cell? ⟨g,k*3+2,O⟩=J n)/\(∀o,w3.frozen? ⟨g,o,O⟩=ι)/\
 w3.heap[b]? =J (W #[K (J ⟨g,0,O⟩) (D.ts.length+1) cap,I Q D.room,I Q D.left,I Q D.steps,ζ D.down] 46 (0,0))/\
 (∃q,Ag (λj=>j=b\/v.ownBlock=J j) w q/\q=w3):=by
 have:=l.size;have u:=(Wt.1 m).1;have x:g≠w.heap.size:=by
  rintro rfl;rcases y with e|e
  .have:=r _ e;omega
  omega
 have h:=(c.block w.heap.size u λe=>x e.symm).trans m;have n:=(c.block b (by show b<w2.heap.size;omega) λe=>L e.symm).trans s;refine⟨?_,⟨?_,?_,?_⟩,⟨a[k*3]'A,a[k*3+1]'A,a[k*3+2]'A,?_,?_,?_⟩,λo=>WK _ _ _ _ _ P,n,_,?_,rfl⟩
 .rw[Wu _ _ _ _ _ _ n];rfl
 .rw[Wu _ _ _ _ _ _ h];rfl
 .rw[Wu _ _ _ _ _ _ h];rfl
 .rw[Wu _ _ _ _ _ _ h];rfl
 .exact aju
 .exact aju
 .exact aju
 refine(l.drew).transNew c ?_;intro i S e;subst e;rcases y with e|e
 .exact .inr e
 omega
def YU(b:φ M)(i:N)(a c d:M):(((b.setIfInBounds i a).setIfInBounds (i+1) c).setIfInBounds (i+2) d).toList=((b.toList.set i a).set (i+1) c).set (i+2) d:=by
 simp[Array.toList_setIfInBounds]
def jc(l:E M)(b i:N)(a c d:M):(((l.set i a).set (i+1) c).set (i+2) d).take b=(((l.take b).set i a).set (i+1) c).set (i+2) d:=by
 simp[List.take_set]
def rg(ts r:E Th)(k:N)(y t:Th)(h:k<=ts.length):(ts.take k++y::r).set k t=ts.take k++t::r:=by
 induction k generalizing ts with
 |zero=>simp
 |succ k b=>
  cases ts with
  |nil=>simp at h
  |cons a l=>simpa using b l akW
def rh{q:U}{D:AX}{t:Th}{a:φ M}(h:g≠b)(m:v.ownBlock=J g\/w.heap.size+2<=g)(i:k<=D.ts.length)
 (n:Ag (λj=>j=b\/v.ownBlock=J j) w q)
 (o:q.heap[b]? =J (W #[K (J ⟨g,0,O⟩) (D.ts.length+1) cap,I Q D.room,I Q D.left,I Q D.steps,ζ D.down] 46 (0,0)))
 (r:q.heap[g]? =J (W a 132 (0,0)))(s:D.ts.length+1<=cap)(u:cap<=maxLen)(l:cap*3<=a.size)
 (x:a.toList.take ((D.ts.length+1)*3)=BP (D.ts.take k++nth (D.ts++[Pc]) k::D.ts.drop k)):
 Br w (((q.setCell ⟨g,k*3,O⟩<|G t.p).setCell ⟨g,k*3+1,O⟩<|ζ t.f).setCell ⟨g,k*3+2,O⟩<|G t.d).drew b v {D with ts:=D.ts.take k++t::D.ts.drop k}:=by
 have c:g<w.heap.size->(g=b\/v.ownBlock=J g):=λ_=>by
  rcases m with e|e
  .exact .inr e
  omega
 have a:=WL q g (k*3) _ _ (G t.p) r;have r:=WL _ g (k*3+1) _ _ (ζ t.f) a;have y:=WL _ g (k*3+2) _ _ (G t.d) r;have a:(D.ts.take k++t::D.ts.drop k).length=D.ts.length+1:=ako
 refine⟨K (J ⟨g,0,O⟩) (D.ts.length+1) cap,⟨?_,.inr ⟨g,cap,_,by rw[a],y,by rw[a];exact s,u,by simpa using l,?_⟩,by intro e;exact h<|by simpa [Value.ownBlock] using e⟩,?_,?_⟩
 .show (((q.setCell _ _).setCell _ _).setCell _ _).heap[b]? =_;rw[aaK _ _ _ _<|Ne.symm h,aaK _ _ _ _<|Ne.symm h,aaK _ _ _ _<|Ne.symm h];exact o
 .rw[a,YU,jc,x,mG];exact hJ BP<|rg _ _ _ _ _ i
 .exact (((n.setCell (p:=⟨g,k*3,O⟩) c _).setCell (p:=⟨g,k*3+1,O⟩) c _).setCell (p:=⟨g,k*3+2,O⟩) c _).drew
 rcases m with e|e
 .exact .inl e.symm
 exact .inr λj a=>by simp[Value.ownBlock] at a;omega
def Oc{D:AX}(m:Ao w b v D)(t:Th)(hm:D.ts.length<=1000000000000):
 μ F 101 #[V<|J ⟨b,0,O⟩,.agg #[G t.p,ζ t.f,G t.d]] w λe w'=>e=ε (η #[])/\Br w w' b v {D with ts:=D.ts.take (JJ D.ts t.p)++t::D.ts.drop (JJ D.ts t.p)}:=by
 have hc:=m.cells.1;have a6:=m.lt;have hf:=m.thaw;have q:=H m;have HA:=H λ(r:U) (h1:Ao r b v D)=>Rf h1 t.p hm;have s:=cr D.ts t.p;clear m;generalize JJ D.ts t.p=k,Ji D.ts t.p=ia at*;go_in;go_wp2_with fail;apply(HA _<|by exact q.alloc _).mono;rintro e w' ⟨rfl,n,rfl⟩;have HT:=H (((q.alloc<|W #[G t.p,ζ t.f,G t.d] 132).drewN n).alloc<|W #[G ⟨#[]⟩,ζ ι,G ⟨#[]⟩] 132).2.1;have HS:=H<|Pg (w:=(w.alloc<|W #[G t.p,ζ t.f,G t.d] 132).drewN n) (g:=w.heap.size+1) Ad Pc;go_wp2_with (at_builtin;refine Ob rfl (.tmp 17) (.tmp 19) rfl v _ D.ts [Pc] rfl rfl HT HS ako ?_;intro _ r u x h;obtain⟨g,a,a7,rfl,hg,h1,h2,h3,h4,h5,h6,h7,h8,h9⟩:=qZ q u x h;clear u x h;have HG:=H hg;have H4:=H h4;have H7:=H h7;have H8:=H h8;have H9:=H h9;clear hg h4 h7 h8 h9;have a8:=(World.cell?_of_block (w:=w)<|X H7).trans hc;have a9:∀o,r.frozen? ⟨b,o,O⟩=false:=λo=>(World.frozen?_of_block (w:=w)<|X H7).trans<|hf o);have HO:=H (H9.mono (T:=λj=>j=b\/v.ownBlock=J j) λ_ _ e=> .inr e);obtain⟨i,c⟩:∃i,i=r.setCell ⟨b,0,O⟩ (K (J ⟨g,0,O⟩) (D.ts.length+1) a):=⟨_,rfl⟩;rw[<-c];have y:C (Ag (λj=>j=b\/v.ownBlock=J j) w i):=by rw[c];exact HO.setCell (p:=⟨b,0,O⟩) (λ_=> .inl rfl) _
 have z:C<|i.heap[g]? =J (W a7 132 (0,0)):=by rw[c];exact(aaK _ _ _ _ h5).trans HG
 have L:C<|i.heap[w.heap.size]? =J (W #[G t.p,ζ t.f,G t.d] 132 (0,0)):=by rw[c];exact(aaK _ _ _ _ ako).trans H8
 have j:C<|i.heap[b]? =J (W #[K (J ⟨g,0,O⟩) (D.ts.length+1) a,I Q D.room,I Q D.left,I Q D.steps,ζ D.down] 46 (0,0)):=by
  rw[c];exact(WL r b 0 _ _ _<|H7.trans q.1)
 have b0:i.cell? ⟨b,0,O⟩=J (K (J ⟨g,0,O⟩) (D.ts.length+1) a):=by rw[Wu _ _ _ _ _ _ j];rfl
 clear c HO HG H7 H8 H9 a8 a9 HT HS hc hf;have:¬a=k:=A;have b1:IntKind.i64.wrap ((k:Z)+1)=(k:Z)+1:=akR
 have b2:(0:Z)<=(k:Z)+1:=A;have b3:(k:Z)+1<=((D.ts.length:N):Z)+1:=A;have b4:((k:Z)+1).toNat=k+1:=A;have:(k:Z)<=((D.ts.length:N):Z)+1:=A;obtain⟨dp,b5,P⟩:∃dp:Option Addr,(if a=k+1 then J (⟨g,0,O⟩:Addr) else J ⟨g,(k+1)*3,O⟩)=dp/\C (k<D.ts.length->dp=J ⟨g,(k+1)*3,O⟩):=
  ⟨_,rfl,λm=>by rw[Wx A]⟩
 go_region_law (refine QE rfl (.tmp 29) (.tmp 35) rfl s z h1 h3 H4 dp (a-(k+1)) (a-k) (D.ts.length-k) (D.ts.length+1-k) rfl rfl P (by simp[Act.eval,Act.put]) (by simp[Act.eval,Act.put]) ?_;intro _ _ l R S a3)
 all_goals
  obtain⟨_,⟨_,_,_⟩,⟨_,_,_,_,_,_⟩,_,a4,_,a5,hq⟩:=re (k:=k) a6 h5 h6 q.2.1.lt y L j l R A a3;subst hq;have b6:=H a5;have HD:=H a4;have b7:=H l;have b9:=H S;clear a5 a4 l S a3 y L j z b0 H4 b1 b2 b3 b4 b5 P;have:(k:Z)<((D.ts.length:N):Z)+1:=A;go_wp2_with fail;go_region;go_wp2;go_end0;refine⟨rfl,?_⟩;exact rh h5 h6 s b6 HD b7 h1 h2 R b9
open Go.RowKit Go.Proofs.Tryz
def ins(ts:E Th)(t:Th):E Th:=ts.take (JJ ts t.p)++t::ts.drop (JJ ts t.p)
def Bz(D:AX)(p:Y):Z×AX:=
 if JZ D then(if Dw D.ts p==0 then(0,{stepped D with ts:=ins D.ts ⟨p,θ,⟨#[]⟩⟩}) else(Dw D.ts p,stepped D)) else(4,stepped D)
def EM(D:AX):(stepped D).ts=D.ts:=rfl
def Br.drewN{D:AX}(h:Br w w' b v D)(n:N):Br w (w'.drewN n) b v D:=by
 obtain⟨a,c,d,e⟩:=h;exact⟨a,c.drewN n,d.drewN n,e⟩
def Br.pre{c:U}{D:AX}(a:Ag (λk=>k=b) w w')(h:Br w' c b v D):Br w c b v D:=by
 obtain⟨c,d,e,h3⟩:=h;refine⟨c,d,(a.mono λ_ _ c=> .inl c).trans e,?_⟩;rcases h3 with h3|h3
 .exact .inl h3
 exact .inr λk c=>WI a.size<|h3 k c
def EN{D:AX}(f:Ao w b v D)(p:Y)(j:p.size<=1000000000000)(g:D.ts.length<=1000000000000):
 μ F 50 #[V<|J ⟨b,0,O⟩,G p] w λe w'=>e=ε (I Q (Bz D p).1)/\Br w w' b v (Bz D p).2:=by
 have a:=Kw f;have c:=λ(w1:U) (f:Ao w1 b v<|stepped D)=>Pf f p j g
 have d:=λ(w1:U) (f:Ao w1 b v<|stepped D)=>Oc f ⟨p,θ,⟨#[]⟩⟩ g
 simp only[EM] at c d;unfold Bz ins;cases i:JZ D
 .exact afd
 rw[i] at a;generalize Dw D.ts p=fe at*;cases k:(fe==0)
 .exact afY
 go_in;go_wp2_with (first
  |(go_at_call 99;refine a.mono ?_;rintro e w1 ⟨rfl,hd,ho⟩;have HD:=hd;have HO:=ho;clear hd ho)
  |(go_at_call 100;refine(c _ HD).mono ?_;rintro e w2 ⟨rfl,n,rfl⟩)
  |(go_at_call 101;refine(d _<|by exact HD).mono ?_;rintro e w2 ⟨rfl,h⟩;have l:=h;clear h))
 go_ret;exact⟨rfl,Br.pre (HO.drewN n) l⟩
def BX(D:AX)(p d:Y):Z×AX:=
 if JZ D then
  (if Dw D.ts p==0 then
   (if D.room<0 then(0,{stepped D with ts:=ins D.ts ⟨p,ι,d⟩})
    else if D.room<d.size then(3,stepped D) else(0,{stepped D with room:=D.room-d.size,ts:=ins D.ts ⟨p,ι,d⟩}))
   else(Dw D.ts p,stepped D))
 else(4,stepped D)
def Jj{D:AX}(o:Ao w b v D)(p d:Y)(q:p.size<=1000000000000)(l:d.size<=1000000000000)(s:D.room<=9223372036854775807)(l:D.ts.length<=1000000000000):
 μ F 51 #[V<|J ⟨b,0,O⟩,G p,G d] w λe w'=>e=ε (I Q (BX D p d).1)/\Br w w' b v (BX D p d).2:=by
 have a:=Kw o;have c:=λ(w1:U) (f:Ao w1 b v<|stepped D)=>Pf f p q l
 have g:=λ(w1:U) (f:Ao w1 b v<|stepped D)=>Oc f ⟨p,ι,d⟩ l
 have h :=λ(w1:U) (f:Ao w1 b v {stepped D with room:=D.room-d.size})=>Oc f ⟨p,ι,d⟩ l
 simp only[EM] at c g;unfold BX ins;cases i:JZ D
 .exact afd
 rw[i] at a;generalize Dw D.ts p=fe at*;cases r:(fe==0)
 .exact afY
 by_cases h0:D.room<0
 .go_in;go_wp2_with (first
   |(go_at_call 99;refine a.mono ?_;rintro e w1 ⟨rfl,hd,ho⟩;have j:w1.cell? ⟨b,1,O⟩=J (I Q D.room):=hd.cells.2.1;have HD:=hd;have HO:=ho;clear hd ho)
   |(go_at_call 100;refine(c _ HD).mono ?_;rintro e w2 ⟨rfl,n,rfl⟩)
   |(go_at_call 101;refine(g _<|by exact HD).mono ?_;rintro e w2 ⟨rfl,k⟩;have m:=k;clear k))
  go_ret;exact⟨rfl,Br.pre (HO.drewN n) m⟩
 by_cases f:D.room<d.size
 .go_in;go_wp2_with (first
   |(go_at_call 99;refine a.mono ?_;rintro e w1 ⟨rfl,hd,ho⟩;have j:w1.cell? ⟨b,1,O⟩=J (I Q D.room):=hd.cells.2.1;have HD:=hd;have HO:=ho;clear hd ho)
   |(go_at_call 100;refine(c _ HD).mono ?_;rintro e w2 ⟨rfl,n,rfl⟩))
  go_ret;exact⟨rfl,(Br.of HD HO).drewN n⟩
 go_in;go_wp2_with (first
  |(go_at_call 99;refine a.mono ?_;rintro e w1 ⟨rfl,hd,ho⟩;have:w1.cell? ⟨b,1,O⟩=J (I Q D.room):=hd.cells.2.1;have:=hd.thaw;have HD:=hd;have HO:=ho;clear hd ho)
  |(go_at_call 100;refine(c _ HD).mono ?_;rintro e w2 ⟨rfl,n,rfl⟩)
  |(go_at_call 101;refine(h _<|by exact HD.setRoom _).mono ?_;rintro e w2 ⟨rfl,k⟩;have m:=k;clear k))
 go_ret;exact⟨rfl,Br.pre ((HO.setCell (p:=⟨b,1,O⟩) (λ_=>rfl) _).drewN n) m⟩
open Go.RowKit Go.Proofs.Tryz
def LC.form{ts:E Th}(h:LC w v ts):∃ao cap,v=K ao ts.length cap:=by
 rcases h with⟨rfl,rfl⟩|⟨g,cap,_,rfl,_⟩
 .exact ⟨O,0,rfl⟩
 exact⟨_,cap,rfl⟩
open Go.RowKit Go.Proofs.Tryz
def cC(p:Y)(t:Th):Bool:= !(t.p.toList==p.toList)&&Bp t.p p
def Qc(ts:E Th)(p:Y):Bool:=ts.any<|cC p
def Bs(D:AX)(p:Y):Z×AX:=
 if JZ D then
  (if Ji D.ts p then
   (if Qc D.ts p then(2,stepped D)
    else(0,{stepped D with ts:=D.ts.take (JJ D.ts p)++D.ts.drop (JJ D.ts p+1),room:=if 0<=D.room then wrap64 (D.room+(nth D.ts<|JJ D.ts p).d.size) else D.room}))
   else(1,stepped D))
 else(4,stepped D)
def TO{ts:E Th}{f:Th->Bool}(h:k<ts.length)(h0:(ts.take k).any f=ι):(ts.take<|k+1).any f=f (nth ts k):=by
 rw[CG ts k h,List.any_append,h0];simp
def YV{ts:E Th}{f:Th->Bool}(h:k<ts.length)(a:f (nth ts k)=θ):ts.any f=true:=by
 refine wJ.2 ⟨nth ts k,?_,a⟩;simp[nth,h]
def Ao.row{D:AX}(h:Ao w b (K (J ⟨g,0,O⟩) n cap) D):∃a,w.heap[g]? =J (W a 132 (0,0))/\D.ts.length<=cap/\cap<=maxLen/\cap*3<=a.size/\a.toList.take (D.ts.length*3)=BP D.ts:=by
 rcases h.2.1 with⟨h,_⟩|⟨_,_,a,h,r⟩
 .cases h
 simp only[Value.slice.injEq,abT,Addr.mk.injEq,and_true] at h;obtain⟨rfl,_,rfl⟩:=h;exact⟨a,r⟩
def fP{a:φ M}{ts:E Th}(d:w.heap[g]? =J (W a 132 (0,0)))(b:ts.length<=cap)(c:cap<=maxLen)(e:cap*3<=a.size)(b:a.toList.take (ts.length*3)=BP ts)(c:k<=ts.length):
 LC w (K (J ⟨g,0,O⟩) k k) (ts.take k):=by
 have c:(ts.take k).length=k:=ako
 refine .inr ⟨g,k,a,by rw[c],d,by rw[c];exact WF _,A,A,?_⟩;rw[c,Uz,<-b,List.take_take];congr 1;omega
def Sa{b:φ M}{ts:E Th}{d:Option Addr}(m:w.heap[g]? =J (W b 132 (0,0)))(e:b.toList.take (ts.length*3)=BP ts)(o:n=ts.length-k)
 (f:k<ts.length->d=J ⟨g,k*3,O⟩):Qb w (K d n c)<|ts.drop k:=by
 refine⟨d,c,by simp[o],?_,?_⟩
 .intro j;by_cases h:k<ts.length
  .rw[f h] at j;cases j
  exact abK A
 intro a l _ _ i;have d:=(wW.1 i).1;rw[FQ,aad] at d;have h:k<ts.length:=A;rw[f h] at l;cases l;rw[we,Wu w g _ b 132 (0,0) m];rw[Uy,abO,<-e,aab,Wz A] at i;simpa using i
def fQ{c:U}{D d:AX}{ts:E Th}(v:Ag (λj=>j=b) w c)(q:Ao c b (K (J ⟨g,0,O⟩) n cap) d)(r:x.ownBlock=J g)(s:LC a v' ts)(t:c.drew.grownBy a x.ownBlock)
 (f:v'.ownBlock=x.ownBlock\/ ∀k,v'.ownBlock=J k->c.drew.heap.size<=k)(i:D={d with ts:=ts}):
 Br w (a.setCell ⟨b,0,O⟩ v') b (K (J ⟨g,0,O⟩) n cap) D:=by
 have l:g≠b:=λe=>q.2.2<|by rw[<-e];rfl
 have m:=((Ag.refl (λj=>j=g) c).drew).grown t (λk _ e=>by rw[r] at e;cases e;rfl);have o:v'.ownBlock≠J b:=by
  intro e;rcases f with h|h
  .rw[h,r] at e;cases e;exact l rfl
  have:c.heap.size<=b:=h b e;have:=q.lt;omega
 refine⟨v',⟨?_,?_,o⟩,?_,?_⟩
 .rw[WL a b 0 _ _ v' ((m.block b q.lt λe=>l e.symm).trans q.1),i]
  rfl
 .rw[i];exact s.kept (Aq a b 0 v') λk u e=>o (e ▸ u)
 .refine (((v.mono (T:=λk=>k=b\/(Value.slice (J ⟨g,0,O⟩) n cap).ownBlock=J k) λ_ _ e=> .inl e).transNew m ?_).setCell (p:=⟨b,0,O⟩) (λ_=> .inl rfl) _);intro _ _ e;subst e;exact .inr rfl
 rcases f with h|h
 .exact .inl<|h.trans r
 exact .inr λk u=>WI v.size<|h k u
def UA{d:U}{e:AX}{ts:E Th}(h:Ao d b (K (J ⟨g,0,O⟩) n cap) e)(l:x.ownBlock=J g)(k:LC a v' ts)(e:d.drew.grownBy a x.ownBlock):
 (∃ao m c,v'=K ao m c)/\a.cell? ⟨b,0,O⟩=J (K (J ⟨g,0,O⟩) n cap)/\(∀o,a.frozen? ⟨b,o,O⟩=ι):=by
 have i:g≠b:=λf=>h.2.2<|by rw[<-f];rfl
 have j:=((Ag.refl (λa=>a=g) d).drew).grown e (λ_ _ f=>by rw[l] at f;cases f;rfl);obtain⟨ao,c,a⟩:=k.form;refine⟨⟨ao,_,c,a⟩,(j.cell h.lt λf=>i f.symm).trans h.cells.1,λo=>(j.frozen (p:=⟨b,o,O⟩) h.lt λf=>i f.symm).trans<|h.thaw o⟩
def GV{D:AX}(T:Ao w b v D)(p:Y)(hp:p.size<=1000000000000)(hm:D.ts.length<=1000000000000):
 μ F 52 #[V<|J ⟨b,0,O⟩,G p] w λe w'=>e=ε (I Q (Bs D p).1)/\Br w w' b v (Bs D p).2:=by
 have a:=H<|Kw T;have z:=H λ(w1:U) (h1:Ao w1 b v<|stepped D)=>Rf h1 p hm;have a0:=H λ(w1:U) (q:Y)=>RX q p w1 hp;simp only[EM] at z;unfold Bs;have HV:=H T.2.1;have HB:=H T.2.2;clear T;cases i:JZ D
 .exact afd
 rw[i] at a;cases S:Ji D.ts p
 .rw[S] at z;go_in;go_wp2_with (first
   |(go_at_call 99;refine a.mono ?_;rintro e w1 ⟨rfl,hd,ho⟩;have HD:=H hd;have HO:=H ho;clear hd ho)
   |(go_at_call 102;refine(z _ HD).mono ?_;rintro e w2 ⟨rfl,n,rfl⟩))
  go_ret;exact⟨rfl,(Br.of HD HO).drewN n⟩
 rw[S] at z;have R:=NZ S;obtain⟨g,cap,a5,rfl,_⟩:=Oa HV A;generalize hk:JJ D.ts p=k at*;have HK:=H hk;clear hk;go_in;go_wp2_with (first
  |(go_at_call 99;refine a.mono ?_;rintro e w1 ⟨rfl,hd,ho⟩;have hc:=hd.cells.1;have HD:=H hd;have HO:=H ho;clear hd ho)
  |(go_at_call 102;refine(z _ HD).mono ?_;rintro e w2 ⟨rfl,n,rfl⟩))
 go_loopw [25] (λh wr=>∃P:N,P<=D.ts.length/\h=I Q P/\C ((D.ts.take P).any (cC p)=ι)/\C (Ag (λ_=>False) w1 wr)) λh _=>D.ts.length-(intOf h).toNat
 .exact ⟨0,wH _,rfl,(show((D.ts.take 0).any (cC p)=ι) by simp),(Ag.refl _ _).drewN n⟩
 obtain⟨P,hj,rfl,HN,HR⟩:=hrel;have j:=H (HD.kept HR (λh=>h) λ_ _ h=>h);obtain⟨a3,hg,o,K6,Z1,h⟩:=j.row;simp only[EM] at o h;by_cases z:P<D.ts.length
 .obtain ⟨r0,r1,r2⟩:=Ew hg h P z;have HA:=H<|TO (f:=cC p) z HN;have HI:=H<|YV (f:=cC p) z;unfold cC at HA HI;clear hg h o Z1;generalize r:nth D.ts P=t at*;clear r;cases h1:(t.p.toList==p.toList)<;>cases h2:Bp t.p p
  case false.true=>
   have hh:Qc D.ts p=true:=HI (by simp[h1,h2]);go_wp2_with (go_at_call 103;refine(a0 _ _).mono ?_;rintro e w2 ⟨rfl,rfl⟩);go_ret;refine⟨rfl,Br.of (j.alloc _) ?_⟩;exact(HO.transNew HR λ_ _ z=>z.elim).alloc _
  all_goals
   go_wp2_with (go_at_call 103;refine(a0 _ _).mono ?_;rintro e w2 ⟨rfl,rfl⟩);go_roundw
   .exact ⟨P+1,A,by go_num,HA.trans (by simp[h1,h2]),HR.alloc _⟩
   exact Ae
 have hh:Qc D.ts p=false:=by have:=X HN;rwa [wv A] at this
 have c0:=j.cells.1;have c1:wr.cell? ⟨b,1,O⟩=J (I Q D.room):=j.cells.2.1;have a1:=j.thaw;obtain⟨r0,r1,r2⟩:=Ew hg h k R;have z:(k:Z)<D.ts.length:=A;have s:=H h;have HG:=H hg;clear h hg;have a4:g≠b:=λe=>HB<|by rw[<-e];rfl
 have h:(k:Z)<=D.ts.length:=A;have z:IntKind.i64.wrap ((k:Z)+1)=(k:Z)+1:=akR
 have h:(0:Z)<=(k:Z)+1:=A;have z:(k:Z)+1<=(D.ts.length:Z):=A;have h:((k:Z)+1).toNat=k+1:=A;have:(k:Z)<=cap:=A;obtain⟨dp,h,y⟩:∃dp:Option Addr,(if cap=k+1 then J (⟨g,0,O⟩:Addr) else J ⟨g,(k+1)*3,O⟩)=dp/\C (k+1<D.ts.length->dp=J ⟨g,(k+1)*3,O⟩):=
  ⟨_,rfl,λT=>by rw[Wx A]⟩
 by_cases h0:0<=D.room
 .go_wp2_with fail;go_big_region;go_wp2_with fail;obtain⟨a2,hW⟩:∃a2,a2=(wr.setCell ⟨b,1,O⟩<|I Q (wrap64<|D.room+ ↑(nth D.ts k).d.size)).drew:=⟨_,rfl⟩;rw[<-hW];have u:C<|Ao a2 b (K (J ⟨g,0,O⟩) D.ts.length cap) {stepped D with room:=wrap64 (D.room+ ↑(nth D.ts k).d.size)}:=by rw[hW];exact(j.setRoom _)
  have J2:C (Ag (λP=>P=b) w a2):=by rw[hW];exact(((HO.transNew HR λ_ _ h=>h.elim).setCell (p:=⟨b,1,O⟩) (λ_=>rfl) _).drew)
  have J9:C<|a2.heap[g]? =J (W a3 132 (0,0)):=by rw[hW];exact(aaK _ _ _ _ a4).trans HG
  have h:=u.cells.1;clear hW c0 c1 r0 r1 r2 a1;exact aeT
 go_wp2_with fail;have u:=j;have J2:=H (HO.transNew HR λ_ _ h=>h.elim);have J9:=HG;clear c1 r0 r1 r2 a1;exact aeT
open Go.RowKit Go.Proofs.Tryz
def Ka(p:Y)(t:Th):Y:=if p.toList==[] then t.p else t.p.extract (p.size+1) t.p.size
def Jk(p:Y)(t:Th):Bool:=(JE t.p).toList==p.toList
def BD(ts:E Th)(p:Y):E Y:=(ts.filter<|Jk p).map<|Ka p
def cE(ts:E Th)(p:Y):Bool:=(p.toList==[])|| !(BW ts p !=2)
def BH(ts:E Th)(p:Y):E Y:=if cE ts p then BD ts p else []
def jd(s:Y)(n:N):∀i fr a u,TN s n i fr a=J u->u=a\/u.size<s.size:=by
 induction n with
 |zero=>intro i fr a u h;simp[TN] at h;exact .inl h.symm
 |succ n b=>
  intro i fr a u h;rw[TN] at h;split at h
  .rename_i a;split at h
   .split at h
    .cases h
    rcases b _ _ _ _ h with e|e
    .right;rw[e,WM];omega
    exact .inr e
   exact b _ _ _ _ h
  split at h
  .cases h
  simp at h;exact .inl h.symm
def cF(s:Y):(JE s).size=0\/(JE s).size<s.size:=by
 cases h:AE s with
 |none=>left;rw[Pd h];rfl
 |some u=>
  rw[Kv h];rcases jd s _ _ _ _ _ h with e|e
  .left;rw[e];rfl
  exact .inr e
def GW(s:Y):s.toList.length=s.size:=by rw[ByteArray.toList_eq];rfl
def Od{p:Y}{t:Th}(h:((JE t.p).toList==p.toList)=θ)(a:(p.toList==[])=ι):p.size+1<=t.p.size:=by
 have e:(JE t.p).toList=p.toList:=akW
 have:(JE t.p).size=p.size:=by rw[<-GW,e,GW]
 have:p.size≠0:=by
  intro h;rw[<-GW] at h;rw[wP h] at a;simp at a
 rcases cF t.p with e|e<;>omega
def Sb{ts:E Th}{p:Y}(h:k<ts.length)(a:Jk p (nth ts k)=ι):BD (ts.take<|k+1) p=BD (ts.take k) p:=by
 rw[CG ts k h];simp[BD,a]
def Qd{ts:E Th}{p:Y}(h:k<ts.length)(a:Jk p (nth ts k)=θ):BD (ts.take<|k+1) p=BD (ts.take k) p++[Ka p<|nth ts k]:=by
 rw[CG ts k h];simp[BD,a]
def Qe(ts:E Th)(p:Y):(BD ts p).length<=ts.length:=by
 simp[BD,aaU]
def yM:(prog.info? 9).map (λi=>(i.zero,i.size,i.bytes))=J (J<|G ⟨#[]⟩,1,16):=B
def fR(a:g=w.heap.size)(s:Y):∀j u,[Value.string s][j]? =J u->(w.alloc<|W #[G s] 9).cell? ((⟨g,0,O⟩:Addr).add j)=J u:=by
 subst a;intro j u a;rw[we,WQ,Wu _ _ j _ 9 (0,0)<|WD w _];simpa using a
def fS(s:Y):∀u∈[Value.string s],u.oneCell'=true:=by
 intro u a;simp at a;subst a;rfl
def YW{l:M}{a:E M}(b:Ag (λ_=>False) w w1)(c:w1.ownsRow w.heap.size 9 1 l n a)(a:w1.grownBy w2 l.ownBlock):Ag (λ_=>False) w w2:=
 b.transNew (T:=λk=>l.ownBlock=J k) ⟨a.os,a.tape,a.output,a.size,λk b d=>a.block k b λe=>d e.symm⟩ λi _ e=>by have:=(c.lt i e).1;omega
def je{D:AX}(h:Ao w b (K O 0 0) D)(d:D.ts=[])(p:Y):
 μ F 111 #[V<|J ⟨b,0,O⟩,G p] w λe w'=>∃l,e=ε (η #[l,ζ<|cE D.ts p])/\w'.ownsRow w.heap.size 9 1 l (BH D.ts p).length ((BH D.ts p).map Value.string)/\Ag (λ_=>False) w w':=by
 have c:=(λ(w1:U) (a:Ao w1 b (K O 0 0) D)=>Ct a p<|by rw[d];simp);have H:=h;have:=h.cells.1;have a:∀q,BD ([]:E Th) q=[]:=λq=>rfl
 unfold BH cE;rw[d] at c ⊢;simp only[a];generalize i:BW [] p=f at*;cases g:(p.toList==[])<;>cases j:(f !=2)
 case false.true=>
  exact agN
 all_goals
  go_in;go_wp2_with (go_at_call 107;refine(c _ H).mono ?_;rintro e w1 ⟨rfl,n,rfl⟩);go_loop [6,25] (λl i=>l=K O 0 0/\i=I Q 0) λ_ _=>0
  .exact ⟨rfl,rfl⟩
  obtain⟨rfl,rfl⟩:=hrel;go_wp2;go_ret2;exact⟨_,rfl,WZ _ _ _ _,by first|exact(Ag.refl _ _).drewN n|exact Ag.refl _ _⟩
def cG{D:AX}(a9:Ao w b (K (J ⟨g,0,O⟩) D.ts.length cap) D)(p:Y)(hp:p.size<=1000000000000)(hm:D.ts.length<=1000000000000)(P:∀k,k<D.ts.length->(nth D.ts k).p.size<=1000000000000):
 μ F 111 #[V<|J ⟨b,0,O⟩,G p] w λe w'=>∃l,e=ε (η #[l,ζ<|cE D.ts p])/\w'.ownsRow w.heap.size 9 1 l (BH D.ts p).length ((BH D.ts p).map Value.string)/\Ag (λ_=>False) w w':=by
 have c:=λ(w1:U) (h1:Ao w1 b (K (J ⟨g,0,O⟩) D.ts.length cap) D)=>Ct h1 p hm
 have m:=λ(w1:U) (q:Y) (R:q.size<=1000000000000)=>RW q w1 R
 have H:=a9;have hc:=a9.cells.1;obtain⟨i0,S,T,a0,a1⟩:=wi yM;unfold BH cE;generalize hf:BW D.ts p=f at*;cases a2:(p.toList==[])<;>cases h2:(f !=2)
 case false.true=>
  exact agN
 case false.false=>
  go_in;go_wp2_with (go_at_call 107;refine(c _ H).mono ?_;rintro e w1 ⟨rfl,n,rfl⟩);go_loopw [6,25] (λl h wr=>∃j:N,j<=D.ts.length/\h=I Q j/\(wr.ownsRow w.heap.size 9 1 l (BD (D.ts.take j) p).length ((BD (D.ts.take j) p).map Value.string))/\(Ag (λ_=>False) w wr)) λ_ h _=>D.ts.length-(intOf h).toNat
  .exact ais
  rename_i l _;obtain⟨j,hj,rfl,o,HR⟩:=hrel;by_cases h:j<D.ts.length
  .obtain ⟨a4,hg,a3,a5,a6,s⟩:=(H.kept HR (λx=>x) λ_ _ x=>x).row;obtain⟨r0,r1,r2⟩:=Ew hg s j h;have i:=P j h;have y:=Qd (p:=p) h;have HN:=Sb (p:=p) h;unfold Jk at y HN;unfold Ka at y;have z:=λ(R:((JE (nth D.ts j).p).toList==p.toList)=θ)=>Od R
   have a7:=WI (Qe (D.ts.take j) p)<|List.length_take_le _ _;have a8:=HR.size;generalize nth D.ts j=t at*;cases a:((JE t.p).toList==p.toList)
   .exact agy
   have u:=z a;rw[a2] at u y
   replace u:=u rfl
   have r :(BD (D.ts.take<|j+1) p=BD (D.ts.take j) p++[t.p.extract (p.size+1) t.p.size]):=y a;have J2:(((wr.alloc<|W #[G t.p,ζ t.f,G t.d] 132).alloc<|W #[G<|t.p.extract (p.size+1) t.p.size] 9).ownsRow w.heap.size 9 1 u6 (BD (D.ts.take j) p).length ((BD (D.ts.take j) p).map Value.string)):=(o.alloc _).alloc _;have L:=fR (w:=wr.alloc<|W #[G t.p,ζ t.f,G t.d] 132) (g:=wr.heap.size+1) Ad<|t.p.extract (p.size+1) t.p.size;generalize BD (D.ts.take j) p=ns at*;go_wp2_with (first
    |(go_at_call 167;refine(m _ _ i).mono ?_;rintro e w2 ⟨rfl,rfl⟩)
    |(at_builtin;refine wpList_append_own _ rfl (.tmp 48) (.tmp 50) 29 rfl w.heap.size 9 i0 (G ⟨#[]⟩) 1 16 underlying29 S T a0 a1 rfl Ac u6 _ _ rfl J2 ⟨wr.heap.size+1,0,O⟩ 1 1 [G<|t.p.extract (p.size+1) t.p.size] rfl rfl L (fS _) (by unfold maxLen;omega) A ako ?_;intro l' w3 v x _;have J3:=v;have J9:=x;clear v x))
   exact ahg
  exact ahJ
 all_goals
  go_in;go_wp2_with (go_at_call 107;refine(c _ H).mono ?_;rintro e w1 ⟨rfl,n,rfl⟩);go_loopw [6,25] (λl a9 wr=>∃j:N,j<=D.ts.length/\a9=I Q j/\(wr.ownsRow w.heap.size 9 1 l (BD (D.ts.take j) p).length ((BD (D.ts.take j) p).map Value.string))/\(Ag (λ_=>False) w wr)) λ_ a9 _=>D.ts.length-(intOf a9).toNat
  .exact ais
  rename_i l _;obtain⟨j,hj,rfl,o,HR⟩:=hrel;by_cases h:j<D.ts.length
  .obtain ⟨a4,hg,a3,a5,a6,s⟩:=(H.kept HR (λa3=>a3) λ_ _ a3=>a3).row;obtain⟨r0,r1,r2⟩:=Ew hg s j h;have i:=P j h;have y:=Qd (p:=p) h;have HN:=Sb (p:=p) h;unfold Jk at y HN;unfold Ka at y;have z:=λ(R:((JE (nth D.ts j).p).toList==p.toList)=θ)=>Od R
   have a7:=WI (Qe (D.ts.take j) p)<|List.length_take_le _ _;have a8:=HR.size;generalize nth D.ts j=t at*;cases a:((JE t.p).toList==p.toList)
   .exact agy
   have u:=z a;rw[a2] at u y;have r :(BD (D.ts.take<|j+1) p=BD (D.ts.take j) p++[t.p]):=y a;have J2:(((wr.alloc<|W #[G t.p,ζ t.f,G t.d] 132).alloc<|W #[G<|t.p] 9).ownsRow w.heap.size 9 1 u6 (BD (D.ts.take j) p).length ((BD (D.ts.take j) p).map Value.string)):=(o.alloc _).alloc _;have L:=fR (w:=wr.alloc<|W #[G t.p,ζ t.f,G t.d] 132) (g:=wr.heap.size+1) Ad<|t.p;generalize BD (D.ts.take j) p=ns at*;go_wp2_with (first
    |(go_at_call 167;refine(m _ _ i).mono ?_;rintro e w2 ⟨rfl,rfl⟩)
    |(at_builtin;refine wpList_append_own _ rfl (.tmp 48) (.tmp 50) 29 rfl w.heap.size 9 i0 (G ⟨#[]⟩) 1 16 underlying29 S T a0 a1 rfl Ac u6 _ _ rfl J2 ⟨wr.heap.size+1,0,O⟩ 1 1 [G<|t.p] rfl rfl L (fS _) (by unfold maxLen;omega) A ako ?_;intro l' w3 v x _;have J3:=v;have J9:=x;clear v x))
   exact ahg
  exact ahJ
def GE{D:AX}(h:Ao w b v D)(p:Y)(c:p.size<=1000000000000)(d:D.ts.length<=1000000000000)(a:∀k,k<D.ts.length->(nth D.ts k).p.size<=1000000000000):
 μ F 111 #[V<|J ⟨b,0,O⟩,G p] w λe w'=>∃l,e=ε (η #[l,ζ<|cE D.ts p])/\w'.ownsRow w.heap.size 9 1 l (BH D.ts p).length ((BH D.ts p).map Value.string)/\Ag (λ_=>False) w w':=by
 rcases h.2.1 with⟨rfl,f⟩|⟨g,_,_,rfl,_⟩
 .exact je h f p
 exact cG h p c d a
open Go.RowKit Go.Proofs.Tryz
def bK(base:N)(w:U)(v:M)(ts:E Th):Prop:=LC w v ts/\((ts=[]/\∃ao,v=K ao 0 0)\/ ∀k,v.ownBlock=J k->base<=k)
def Ph{ao:Option Addr}(l:LC w (K ao 0 0) []){t:Th}(j:Qb w x [t])(d:ν):
 ∃v' w',(Builtin.append_ #[44,44] d #[K ao 0 0,x]).run F w=.ok v' w'/\LC w' v' [t]/\w.grownBy w' O/\∀k,v'.ownBlock=J k->w.heap.size<=k:=by
 cases ao with
 |none=>
  obtain⟨v',w',m,n,o,h4⟩:=Gj l j d Ad;refine⟨v',w',m,n,o,?_⟩;rcases h4 with h4|h4
  .intro k c;rw[h4] at c;cases c
  exact h4
 |some b=>
  obtain⟨p,q,e,f,g⟩:=wi cB;obtain⟨ao,r,rfl,s,u⟩:=j;cases ao with
  |none=>have:=s rfl;cases this
  |some a=>
   have j:=run_append_grow (P:=F) w 44 d 132 p _ underlying44 q e b 0 0 [] Ad Ad a 1 r (BP [t]) (by rw[f];rfl) (u a rfl) A A (growslice_fits A<|by rw[g];omega);have h:=grownCap_ge w (0+1) 0 132;have i:=grownCap_le_maxLen w (0+1) 0 132 (by unfold maxLen;omega);refine⟨_,_,j,.inr ⟨w.heap.size,_,_,rfl,WD w.drew _,h,i,?_,?_⟩,⟨rfl,rfl,rfl,Ad,λk c _=>Below.heap_alloc w.drew _ k c⟩,λk c=>by simp[Value.ownBlock] at c;omega⟩
   .simp only[acH,wK,size_zeroCells,FQ];simp only[Value.cells,wK,wu,abc];omega
   simp[BP]
def Sc{ts:E Th}(h:bK base w v ts){t:Th}(f:Qb w x [t])(b:ν)(g:base<=w.heap.size)(j:(ts.length+1)*40<=140737488355328):
 ∃v' w',(Builtin.append_ #[44,44] b #[v,x]).run F w=.ok v' w'/\bK base w' v' (ts++[t])/\Ag (λk=>base<=k/\v.ownBlock=J k) w w'/\
  (v'.ownBlock=v.ownBlock\/ ∀k,v'.ownBlock=J k->w.heap.size<=k):=by
 obtain⟨i,h⟩:=h;rcases h with⟨rfl,_,rfl⟩|h
 .obtain ⟨v',w',c,d,e,h4⟩:=Ph i f b;exact⟨v',w',c,⟨d,.inr λk a=>WI g<|h4 k a⟩,(Ag.refl _ w).grown e (λk _ l=>by cases l),.inr h4⟩
 obtain⟨v',w',c,d,e,h4⟩:=Gj i f b (by simpa using j);refine⟨v',w',c,⟨d,.inr ?_⟩,(Ag.refl _ w).grown e λk _ e=>⟨h k e,e⟩,h4⟩;intro k a;rcases h4 with h4|h4
 .exact h k (h4 ▸ a)
 exact WI g<|h4 k a
def JK{ops:φ Oper}{rest:E Oper}{o:Oper}{a:Act}{Q:Exit->Act->U->Prop}(d:o.guard=O)(s x:Operand)
 (ho:o.op=.call {callee:=.builtin .append,args:= #[s,x],argTypes:= #[44,44]})
 (base:N)(v f:M)(ts:E Th)(t:Th)(hs:a.eval s=v)(hx:a.eval x=f)(h:bK base w v ts)(e:Qb w f [t])(f:base<=w.heap.size)(g:(ts.length+1)*40<=140737488355328)
 (l:∀v' w',bK base w' v' (ts++[t])->Ag (λk=>base<=k/\v.ownBlock=J k) w w'->(v'.ownBlock=v.ownBlock\/ ∀k,v'.ownBlock=J k->w.heap.size<=k)->wpList F ops Q rest (a.put o.dst v') w'):
 wpList F ops Q (o::rest) a w:=by
 refine acu d λ_ c =>?_
 obtain⟨v',w',b,h1,h2,h3⟩:=Sc h e o.type f g;exact age
def bK.kept{ts:E Th}(h:bK base w v ts)(a:Ag S w w')(b:∀k,v.ownBlock=J k->¬S k):bK base w' v ts:=⟨h.1.kept a b,h.2⟩
def YX{p:Y}(h:Bp p u=θ):u.size<=p.size:=by
 unfold Bp at h;rw[abt] at h;rcases h with h|h
 .have e:p.toList=u.toList:=akW
  have:=hJ List.length e;rw[GW,GW] at this;omega
 split at h
 .omega
 cases h
def JL(fr tw:Y)(t:Th):Th:={t with p:=tw++t.p.extract fr.size t.p.size}
def Ec(ts:E Th)(fr:Y):E Th:=ts.filter λt=> !Bp t.p fr
def Dq(ts:E Th)(fr tw:Y):E Th:=(ts.filter λt=>Bp t.p fr).map<|JL fr tw
def GF(ts:E Th)(us:E Th):E Th:=us.foldl ins ts
def En(D:AX)(fr tw:Y):Z×AX:=
 if JZ D then
  (if BW D.ts fr==0 then(1,stepped D)
   else if Dw D.ts tw==0 then
    (if Bp tw fr then(1,stepped D) else(0,{stepped D with ts:=GF (Ec D.ts fr) (Dq D.ts fr tw)}))
   else(Dw D.ts tw,stepped D))
 else(4,stepped D)
def mH{ts:E Th}{fr:Y}(h:k<ts.length)(a:Bp (nth ts k).p fr=ι):Ec (ts.take<|k+1) fr=Ec (ts.take k) fr++[nth ts k]:=by
 rw[CG ts k h];simp[Ec,a]
def ri{ts:E Th}{fr:Y}(h:k<ts.length)(a:Bp (nth ts k).p fr=θ):Ec (ts.take<|k+1) fr=Ec (ts.take k) fr:=by
 rw[CG ts k h];simp[Ec,a]
def jf{ts:E Th}{fr:Y}(h:k<ts.length)(a:Bp (nth ts k).p fr=θ):Dq (ts.take<|k+1) fr tw=Dq (ts.take k) fr tw++[JL fr tw<|nth ts k]:=by
 rw[CG ts k h];simp[Dq,a]
def mI{ts:E Th}{fr:Y}(h:k<ts.length)(a:Bp (nth ts k).p fr=ι):Dq (ts.take<|k+1) fr tw=Dq (ts.take k) fr tw:=by
 rw[CG ts k h];simp[Dq,a]
def LJ(ts:E Th)(fr tw:Y):(Ec ts fr).length+(Dq ts fr tw).length=ts.length:=by
 induction ts with
 |nil=>rfl
 |cons t r a=>
  simp only[Ec,Dq,wX] at a ⊢;cases h:Bp t.p fr<;>simp[h]<;>omega
def Xg(ts:E Th)(t:Th):(ins ts t).length=ts.length+1:=by
 have:=cr ts t.p;simp[ins];omega
def cH(us:E Th):∀ts,(GF ts us).length=ts.length+us.length:=by
 induction us with
 |nil=>intro ts;rfl
 |cons u r a=>intro ts;show(GF (ins ts u) r).length=_;rw[a,Xg];simp;omega
def YY(ts a:E Th)(k:N)(h:k<a.length):GF ts (a.take<|k+1)=ins (GF ts<|a.take k) (nth a k):=by
 rw[CG a k h];simp[GF]
open Go.RowKit Go.Proofs.Tryz
def fT{u:M}{b a :E Th}(i:Ag (λ_=>False) w1 wr)(c:Ag (λ_=>False) wr w2)(f:bK w1.heap.size wr u b)(g:∀k,u.ownBlock=J k->v.ownBlock≠J k)
 (j:bK w1.heap.size w3 v' a)(h:Ag (λk=>w1.heap.size<=k/\v.ownBlock=J k) w2 w3)(h3:v'.ownBlock=v.ownBlock\/ ∀k,v'.ownBlock=J k->w2.heap.size<=k):
 bK w1.heap.size w3 v' a /\bK w1.heap.size w3 u b/\Ag (λ_=>False) w1 w3/\(∀k,u.ownBlock=J k->v'.ownBlock≠J k):=by
 refine⟨j,(f.kept c λ_ _ x=>x).kept h λk d e=>g k d e.2,(i.trans c).transNew h λ_ _ e=>A,?_⟩;intro k d e;rcases h3 with h3|h3
 .exact g k d (h3 ▸ e)
 have:=h3 k e;have:=f.1.lt k d;have:=c.size;omega
def JM(wr:U)(a c:Obj):Ag (λ_=>False) wr ((wr.alloc a).alloc c):=((Ag.refl _ wr).alloc a).alloc c
def rj{a d f:M}{i:E Th}(r:Ag (λk=>k=b\/(Value.slice (J ⟨g,0,O⟩) n cap).ownBlock=J k) w wr)
 (s:a.ownBlock=J g\/ ∀k,a.ownBlock=J k->w.heap.size<=k)(t:a.ownBlock≠J c)(u:LC wr f i)(l:f.ownBlock=J c)(q:c≠b)(o:Obj)
 (m:Ag (λk=>k=b\/a.ownBlock=J k) (wr.alloc o) w3)(p:d.ownBlock=a.ownBlock\/ ∀k,d.ownBlock=J k->(wr.alloc o).heap.size<=k):
 Ag (λk=>k=b\/(Value.slice (J ⟨g,0,O⟩) n cap).ownBlock=J k) w w3/\(d.ownBlock=J g\/ ∀k,d.ownBlock=J k->w.heap.size<=k)/\d.ownBlock≠J c/\LC w3 f i:=by
 have a:=u.lt c l;refine⟨(r.alloc o).transNew m ?_,?_,?_,?_⟩
 .rintro v _ (e|e)
  .exact .inl e
  rcases s with h|h
  .rw[h] at e;cases e;exact .inr rfl
  have:=h v e;omega
 .rcases p with e|e
  .rcases s with h|h
   .exact .inl<|e.trans h
   exact .inr λk j=>h k (e ▸ j)
  exact .inr λk j=>by have:=e k j;have:=r.size;simp at*;omega
 .intro e;rcases p with h|h
  .exact t (h ▸ e)
  have:=h c e;simp at this;omega
 refine(u.kept ((Ag.refl (λ_=>False) wr).alloc o) λ_ _ x=>x).kept m ?_;rintro k j (e|e)
 .rw[l] at j;cases j;exact q e
 rw[l] at j;cases j;exact t e
def YZ{D:AX}(h:Ao w b (K (J ⟨g,0,O⟩) D.ts.length cap) D)(fr tw:Y)(c5:fr.size<=1000000000000)(c6:tw.size<=1000000000000)(hm:D.ts.length<=1000000000000)
 (c7:∀k,k<D.ts.length->(nth D.ts k).p.size<=1000000000000):
 μ F 235 #[V<|J ⟨b,0,O⟩,G fr,G tw] w λe w'=>e=ε (I Q (En D fr tw).1)/\Br w w' b (K (J ⟨g,0,O⟩) D.ts.length cap) (En D fr tw).2:=by
 have a:=H<|Kw h;have c:=H λ(w1:U) (x:Ao w1 b (K (J ⟨g,0,O⟩) D.ts.length cap)<|stepped D)=>Ct x fr hm;have y:=H λ(w1:U) (x:Ao w1 b (K (J ⟨g,0,O⟩) D.ts.length cap)<|stepped D)=>Pf x tw c6 hm;have z:=H λ(w1:U) (q:Y)=>RX q fr w1 c5;simp only[EM] at c y;unfold En;clear h;cases i:JZ D
 .exact afd
 rw[i] at a;generalize BW D.ts fr=fi,Dw D.ts tw=fe at*;cases e6:(fi==0)
 rotate_left
 .exact afT
 cases a8:(fe !=0)
 rotate_left
 .have a9 :(fe==0)=false:=by simpa [bne] using a8
  go_in;go_wp2_with (first
   |(go_at_call 99;refine a.mono ?_;rintro e w1 ⟨rfl,hd,ho⟩;have HD:=H hd;have HO:=H ho;clear hd ho)
   |(go_at_call 107;refine(c _ HD).mono ?_;rintro e w2 ⟨rfl,n,rfl⟩)
   |(go_at_call 100;refine(y _<|by exact HD).mono ?_;rintro e w2 ⟨rfl,n2,rfl⟩))
  go_ret;exact⟨rfl,(Br.of HD HO).drewN _⟩
 have a9 :(fe==0)=true:=by simpa [bne] using a8
 cases e7:Bp tw fr
 rotate_left
 .go_in;go_wp2_with (first
   |(go_at_call 99;refine a.mono ?_;rintro e w1 ⟨rfl,hd,ho⟩;have HD:=H hd;have HO:=H ho;clear hd ho)
   |(go_at_call 107;refine(c _ HD).mono ?_;rintro e w2 ⟨rfl,n,rfl⟩)
   |(go_at_call 100;refine(y _<|by exact HD).mono ?_;rintro e w2 ⟨rfl,n2,rfl⟩)
   |(go_at_call 103;refine(z _ _).mono ?_;rintro e w2 ⟨rfl,rfl⟩))
  go_ret;exact⟨rfl,(Br.of HD HO).drewN _⟩
 go_in;go_wp2_with (first
  |(go_at_call 99;refine a.mono ?_;rintro e w1 ⟨rfl,hd,ho⟩;have hc:=hd.cells.1;have c8:=hd.thaw;have HD:=H hd;have HO:=H ho;clear hd ho)
  |(go_at_call 107;refine(c _ HD).mono ?_;rintro e w2 ⟨rfl,n,rfl⟩)
  |(go_at_call 100;refine(y _<|by exact HD).mono ?_;rintro e w2 ⟨rfl,n2,rfl⟩)
  |(go_at_call 103;refine(z _ _).mono ?_;rintro e w2 ⟨rfl,rfl⟩))
 go_loopw [8,9,40] (λm l a0 wr=>∃j:N,j<=D.ts.length/\a0=I Q j/\C (bK w1.heap.size wr m<|Dq (D.ts.take j) fr tw)/\C (bK w1.heap.size wr l<|Ec (D.ts.take j) fr)/\C (Ag (λ_=>False) w1 wr)/\
  C (∀k,m.ownBlock=J k->l.ownBlock≠J k)/\C (∀k,m.ownBlock=J k->w1.heap.size<=k)/\C (l.ownBlock=J g\/ ∀k,l.ownBlock=J k->w1.heap.size<=k)) λ_ _ a0 _=>D.ts.length-(intOf a0).toNat
 .have c9:bK w1.heap.size w1 (K (J ⟨g,0,O⟩) 0 0) []:=by
   obtain⟨a1,hg,_⟩:=HD.row;exact⟨.inr ⟨g,0,a1,rfl,hg,Ad,Ad,Ad,by simp[BP]⟩,.inl ⟨rfl,_,rfl⟩⟩
  exact⟨0,wH _,rfl,⟨LC.nil _,.inl ⟨rfl,_,rfl⟩⟩,c9,(Ag.refl _ _).drewN _,(λk l=>by cases l),(λk l=>by cases l),.inl rfl⟩
 obtain⟨j,_,rfl,HM,HK,HR,HS,HB,HG⟩:=hrel;have L:=H (HD.kept HR (λm=>m) λ_ _ m=>m);by_cases m:j<D.ts.length
 .obtain ⟨a1,hg,P,a2,a3,o⟩:=L.row;obtain⟨r0,r1,r2⟩:=Ew hg o j m;have a8:=c7 j m;clear hg P a2 a3 o hc;simp only[EM] at r0 r1 r2;have d0:=H<|mH (fr:=fr) m;have d1:=H<|ri (fr:=fr) m;have d2:=H<|jf (fr:=fr) (tw:=tw) m;have d3:=H<|mI (fr:=fr) (tw:=tw) m;have s:=LJ (D.ts.take j) fr tw;rw[hY] at s;have b0:=H λh=>YX (p:=(nth D.ts j).p) (u:=fr) h;generalize nth D.ts j=t at*;cases hw:Bp t.p fr
  .have d4:=HR.size;have a4:C<|bK w1.heap.size ((wr.alloc (.cells #[G t.p,ζ t.f,G t.d] 132)).alloc (.cells #[G t.p,ζ t.f,G t.d] 132)) u9 (Ec (D.ts.take j) fr):=HK.kept (JM wr _ _) λ_ _ r=>r;have a5:=H<|Pg (w:=wr.alloc (.cells #[G t.p,ζ t.f,G t.d] 132)) (g:=wr.heap.size+1) Ad t;go_wp2_with (first
    |(go_at_call 103;refine(z _ _).mono ?_;rintro e w2 ⟨rfl,rfl⟩)
    |(at_builtin;refine JK rfl (.tmp 60) (.tmp 62) rfl w1.heap.size u9 _ (Ec (D.ts.take j) fr) t rfl rfl a4 a5 ako A ?_;intro v' w3 x h2 h3;have H1:=H x;have H2:=H h2;have H3:=H h3;clear x h2 h3))
   go_roundw
   .have R:=fT HR (JM wr _ _) HM HS H1 H2 H3;refine⟨j+1,A,by go_num,?_,?_,R.2.2.1,R.2.2.2,HB,?_⟩
    .rw[d3 hw];exact R.2.1
    .rw[d0 hw];exact R.1
    rcases X H3 with e|e
    .rcases X HG with e2|e2
     .exact .inl<|e.trans e2
     exact .inr λk l=>e2 k (e ▸ l)
    exact .inr λk l=>by have:=e k l;simp at this;omega
   exact Ae
  have a8:=b0 hw;have d4:=HR.size;have a4:C<|bK w1.heap.size ((wr.alloc (.cells #[G<|tw++t.p.extract fr.size t.p.size,ζ t.f,G t.d] 132)).alloc (.cells #[G<|tw++t.p.extract fr.size t.p.size,ζ t.f,G t.d] 132)) u8 (Dq (D.ts.take j) fr tw):=HM.kept (JM wr _ _) λ_ _ r=>r;have a5:=H<|Pg (w:=wr.alloc (.cells #[G<|tw++t.p.extract fr.size t.p.size,ζ t.f,G t.d] 132)) (g:=wr.heap.size+1) Ad (JL fr tw t);go_wp2_with (first
   |(go_at_call 103;refine(z _ _).mono ?_;rintro e w2 ⟨rfl,rfl⟩)
   |(at_builtin;refine JK rfl (.tmp 56) (.tmp 58) rfl w1.heap.size u8 _ (Dq (D.ts.take j) fr tw) (JL fr tw t) rfl rfl a4 a5 ako A ?_;intro v' w3 x h2 h3;have H1:=H x;have H2:=H h2;have H3:=H h3;clear x h2 h3))
  go_roundw
  .have R:=fT HR (JM wr _ _) HK (λk l e=>HS k e l) H1 H2 H3;refine⟨j+1,A,by go_num,?_,?_,R.2.2.1,λk l e=>R.2.2.2 k e l,?_,HG⟩
   .rw[d2 hw];exact R.1
   .rw[d1 hw];exact R.2.1
   intro k l;rcases X H3 with e|e
   .exact HB k (e ▸ l)
   have:=e k l;simp at this;omega
  exact Ae
 have hE:D.ts.take j=D.ts:=wv A;rw[hE] at HM HK;clear hE;have s:=LJ D.ts fr tw;obtain⟨v,a6⟩:∃v,Ec D.ts fr=v:=⟨_,rfl⟩;obtain⟨r,S⟩:∃r,Dq D.ts fr tw=r:=⟨_,rfl⟩;rw[a6] at HK s;rw[S] at HM s;have b1:=H a6;have b2:=H S;clear a6 S;have d5:g≠b:=λe=>HD.2.2<|by rw[<-e];rfl
 have d6:u9.ownBlock≠J b:=by
  intro e;rcases X HG with h|h
  .rw[h] at e;cases e;exact d5 rfl
  have:=h b e;have:=HD.lt;omega
 have a7:=H<|HK.1;have c0:=L.cells.1;have b3:=L.thaw;have b4:=H (HO.transNew HR λ_ _ s=>s.elim);obtain⟨T,kc,d7⟩:=a7.form;subst d7;have b5:=H<|L.setThings a7 d6;have b6:C (Ag (λk=>k=b\/(Value.slice (J ⟨g,0,O⟩) D.ts.length cap).ownBlock=J k) w<|wr.setCell ⟨b,0,O⟩ (K T v.length kc)):=(b4.setCell (p:=⟨b,0,O⟩) (λ_=>rfl) _).mono λ_ _ e=> .inl e;have b7:C ((Value.slice T v.length kc).ownBlock=J g\/ ∀k,(Value.slice T v.length kc).ownBlock=J k->w.heap.size<=k):=by
  rcases X HG with e|e
  .exact .inl e
  exact .inr λk l=>WI HO.size<|e k l
 have b9:C<|LC (wr.setCell ⟨b,0,O⟩<|K T v.length kc) u8 r:=HM.1.kept (Aq _ _ _ _) (λk l e=>by have:=HB k l;have:=HD.lt;omega);have d8:C (∀k,u8.ownBlock=J k->k≠b):=λk l e=>by have:=HB k l;have:=HD.lt;omega
 clear L HM HK a7 HR HB HO HD HG b4 a c y z;have d9:=H λ(ws:U) (vj:M) (Dj:AX) (t:Th) (x:Ao ws b vj Dj) (h2:Dj.ts.length<=1000000000000)=>Oc x t h2;rcases X b9 with⟨rfl,e0⟩|⟨mg,c1,_,e1,_⟩
 .subst e0;go_wp2_with fail;go_loop [71] (λa0=>a0=I Q 0) (λ_=>0)
  .rfl
  subst hrel;go_wp2;go_ret;rw[X b1,X b2];exact⟨rfl,_,b5,b6,b7⟩
 subst e1;go_wp2_with fail;generalize hW:wr.setCell ⟨b,0,O⟩ (K T v.length kc)=W at*;have e8:C<|GF v (r.take 0)=v:=rfl;clear hW c0 b3 hc c8;go_loopw [71] (λa0 ws=>∃(j:N) (vj:M),j<=r.length/\a0=I Q j/\C (Ao ws b vj {stepped D with ts:=GF v (r.take j)})/\
  C (Ag (λk=>k=b\/(Value.slice (J ⟨g,0,O⟩) D.ts.length cap).ownBlock=J k) w ws)/\C (vj.ownBlock=J g\/ ∀k,vj.ownBlock=J k->w.heap.size<=k)/\
  C (vj.ownBlock≠J mg)/\C (LC ws (K (J ⟨mg,0,O⟩) r.length c1) r)) λa0 _=>r.length-(intOf a0).toNat
 .exact ⟨0,_,wH _,rfl,b5,b6,b7,HS mg rfl,b9⟩
 obtain⟨j,vj,_,rfl,a0,c2,c3,e3,c4⟩:=hrel;by_cases m:j<r.length
 .rcases X c4 with⟨hx,_⟩|⟨_,_,a1,hx,hg,P,a2,a3,o⟩
  .cases hx
  simp only[Value.slice.injEq,abT,Addr.mk.injEq,and_true,true_and] at hx;obtain⟨rfl,rfl⟩:=hx;obtain⟨r0,r1,r2⟩:=Ew hg o j m;have e4:=H<|YY v r j m;have e5:(GF v<|r.take j).length<=1000000000000:=by rw[cH,hY];omega
  have l:=(Wt.1 hg).1;clear hg P a2 a3 o;generalize nth r j=t at*;go_wp2_with (go_at_call 101;refine(d9 _ _ _ t (by exact a0.alloc _) e5).mono ?_;rintro e w3 ⟨rfl,v3,l,m,o⟩;have s:=H l;have v:=H m;have x:=H o;clear l m o);go_roundw
  .have R:=rj c2 c3 e3 c4 rfl (d8 mg rfl) _ v x;refine⟨j+1,v3,A,by go_num,?_,R.1,R.2.1,R.2.2.1,R.2.2.2⟩;rw[X e4];exact s
  exact Ae
 have hE:C<|r.take j=r:=wv A;go_wp2;go_ret;rw[X b1,X b2];refine⟨rfl,vj,?_,c2,c3⟩;have:=X a0;rw[X hE] at this;exact this
def cI{D:AX}(h:Ao w b (K O 0 0) D)(d:D.ts=[])(fr tw:Y):
 μ F 235 #[V<|J ⟨b,0,O⟩,G fr,G tw] w λe w'=>e=ε (I Q (En D fr tw).1)/\Br w w' b (K O 0 0) (En D fr tw).2:=by
 have a:=H<|Kw h;have c:=H (λ(w1:U) (f:Ao w1 b (K O 0 0)<|stepped D)=>Ct f fr<|by rw[EM,d];simp);have h0:BW D.ts fr=0:=by rw[d];rfl
 simp only[EM,h0] at c;unfold En;rw[h0];cases i:JZ D
 .exact afd
 rw[i] at a;exact afT
def Za{D:AX}(h:Ao w b v D)(fr tw:Y)(a:fr.size<=1000000000000)(c:tw.size<=1000000000000)(f:D.ts.length<=1000000000000)
 (d:∀k,k<D.ts.length->(nth D.ts k).p.size<=1000000000000):
 μ F 235 #[V<|J ⟨b,0,O⟩,G fr,G tw] w λe w'=>e=ε (I Q (En D fr tw).1)/\Br w w' b v (En D fr tw).2:=by
 rcases h.2.1 with⟨rfl,i⟩|⟨g,_,_,rfl,_⟩
 .exact cI h i fr tw
 exact YZ h fr tw a c f d
open Go.RowKit Go.Proofs.Tryz
abbrev bl(s:Y):E υ:=s.data.toList
def Dx{a b:Y}(h:bl a=bl b):a=b:=aaj<|abf.1 h
def Bi(a:Y):(bl a).length=a.size:=wE
def Np(a b:Y):bl (a++b)=bl a++bl b:=Ad
def Sd(a:Y)(i:N)(h:i<a.size):(bl a)[i]? =J a[i]:=by
 rw[Wv<|by rw[Bi];exact h];simp[ByteArray.getElem_eq_getElem_data]
def FD(a:Y)(k:N):bl (a.extract 0 k)=(bl a).take k:=by
 show(a.extract 0 k).data.toList=_;rw[ByteArray.data_extract,Array.toList_extract,List.extract_eq_take_drop];simp
def Se(a:Y)(k:N):bl (a.extract k a.size)=(bl a).drop k:=by
 show(a.extract k a.size).data.toList=_;rw[ByteArray.data_extract,Array.toList_extract,List.extract_eq_take_drop];exact wv<|by rw[aad,Bi];exact WF _
def Mw{x:υ}:x.toNat=47↔x=47:=by
 constructor
 .intro h;exact acA.1<|by rw[h];rfl
 intro h;rw[h];rfl
def cJ(s u:E υ):Prop:=(u=[]/\s≠[]/\47∉s)\/ ∃r,s=u++47::r/\r≠[]/\47∉r/\u≠[]
def mJ(s:Y):∀(n i fr:N) (d u:Y),n+i=s.size+1->i<=s.size->fr<=i->(∀x∈((bl s).take i).drop fr,x≠47)->
 ((fr=0/\bl d=[])\/(1<fr/\bl d=(bl s).take (fr-1)/\(bl s)[fr-1]? =J 47))->TN s n i fr d=J u->cJ (bl s) (bl u):=by
 intro n;induction n with
 |zero=>
  intro i fr d u q l r f m h;omega
 |succ n o=>
  intro i fr d u q l r f m h;by_cases c:i<s.size
  .have l:i<(bl s).length:=by rw[Bi];exact c
   have p:(bl s)[i]? =J s[i]:=Sd s i c;by_cases a:s[i].toNat=47
   .by_cases g:i=fr
    .rw[Uw c a g] at h;cases h
    rw[ct c a g] at h;refine o (i+1) (i+1) _ u A A (WF _) (λx hx'=>?_) (.inr ⟨A,?_,?_⟩) h
    .rw[abK akY] at hx';cases hx'
    .rw[FD];rfl
    show(bl s)[i]? =J 47;rw[p,Mw.1 a]
   rw[cA c a] at h;refine o (i+1) fr d u A A A (λx hx'=>?_) m h;rw[aay,p,List.drop_append_of_le_length akY,WY] at hx';rcases hx' with hx' |hx'
   .exact f x hx'
   simp only[Option.toList_some,WN] at hx';subst hx';exact λe=>a<|Mw.2 e
  by_cases g:i=fr
  .rw[RV c g] at h;cases h
  rw[Xf c g] at h;injection h with h;subst h;have t:i=s.size:=A;have j:fr<(bl s).length:=alm
  rw[wv alm] at f;rcases m with⟨h0,b⟩|⟨_,b,k⟩
  .subst h0;rw[adE] at f;exact .inl ⟨b,(λe=>by rw[e] at j;simp at j),λa=>f 47 a rfl⟩
  refine .inr ⟨(bl s).drop fr,?_,?_,λa=>f 47 a rfl,?_⟩
  .rw[b];have v:(bl s).take (fr-1)++(bl s).drop (fr-1)=bl s:=aau _ _;have w:(bl s).drop (fr-1)=47::(bl s).drop fr:=by
    have a:fr-1<(bl s).length:=A;rw[wN a];rw[Wv a] at k;injection k with k;rw[k,show fr-1+1=fr by omega]
   rw[<-w,v]
  .intro e;have:=hJ List.length e;rw[aad,abc] at this;omega
  intro e;rw[b] at e;have:=hJ List.length e;rw[hY,abc] at this;omega
def FE(h:AE s=J u):cJ (bl s)<|bl u:=
 mJ s (s.size+1) 0 0 ⟨#[]⟩ u A A (WF _) (λ_ a=>by simp at a) (.inl ⟨rfl,rfl⟩) h
def Wi(p u:E υ):Prop:=p=u\/ ∃r,p=u++47::r
def Wi.refl(p:E υ):Wi p p:=.inl rfl
def Wi.trans{a b c:E υ}(h:Wi a b)(k:Wi b c):Wi a c:=by
 rcases h with rfl|⟨r,rfl⟩
 .exact k
 rcases k with rfl|⟨q,rfl⟩
 .exact .inr ⟨r,rfl⟩
 exact .inr ⟨q++47::r,Ad⟩
def Wi.up{t u p:E υ}(j:cJ t u)(h:Wi t p)(e:t≠p):Wi u p:=by
 rcases h with h|⟨_,h⟩
 .exact κ h e
 rcases j with⟨_,_,a⟩|⟨_,f,_,a,_⟩
 .exact κ (by rw[h];simp) a
 rw[h] at f;rcases List.append_eq_append_iff.1 f with⟨c,d,b⟩|⟨c,d,b⟩
 .cases c with
  |nil=>rw[wS] at d;exact .inl d
  |cons x c=>
   injection b with g i;subst g;exact .inr ⟨c,d⟩
 cases c with
 |nil=>rw[wS] at d;exact .inl d.symm
 |cons x c=>
  injection b with g i;exact κ (by rw[i];simp) a
def Wi.len{a b:E υ}(h:Wi a b):b.length<=a.length:=by
 rcases h with rfl|⟨_,rfl⟩<;>simp
def Sf{s u:E υ}(h:cJ s u):u.length<s.length:=by
 rcases h with⟨rfl,h,_⟩|⟨_,rfl,_⟩
 .exact List.length_pos_iff.2 h
 simp
def tQ{s u:E υ}(h:cJ s u)(a:u≠[]):Wi s u:=by
 rcases h with⟨rfl,_⟩|⟨r,rfl,_⟩
 .exact κ rfl a
 exact .inr ⟨r,rfl⟩
def BT(p u:Y):Bp p u=θ↔Wi (bl p) (bl u):=by
 unfold Bp;rw[ByteArray.toList_eq,ByteArray.toList_eq,abt,aaB];by_cases h:u.size<p.size
 .rw[abB h,wo,ByteArray.toList_eq,aaB,aaB];have a:=Sd p u.size h;have c:u.size<(bl p).length:=by rw[Bi];exact h
  show bl p=bl u\/(bl (p.extract 0 u.size)=bl u/\_)↔_;rw[FD];constructor
  .rintro (e|⟨d,_⟩)
   .exact .inl e
   refine .inr ⟨(bl p).drop<|u.size+1,?_⟩;have b:p[u.size]=47:=Mw.1 A;rw[Wv c] at a;injection a with a;rw[<-d,<-b,<-a,<-wN c,aau]
  rintro(e|⟨r,e⟩)
  .exact .inl e
  refine .inr ⟨by rw[e,<-Bi u];exact abn,?_⟩;rw[e,WU<|by rw[Bi];exact WF _] at a;have b:u.size-(bl u).length=0:=alm
  rw[b] at a;injection a with a;rw[<-a];rfl
 rw[dif_neg h];constructor
 .rintro (e|e)
  .exact .inl e
  cases e
 rintro(e|⟨r,e⟩)
 .exact .inl e
 exfalso;have:=hJ List.length e;rw[Bi,Ws,Bi,wu] at this;omega
end Go.Proofs.YtfpphfkcaplafaaGreatDoor.dk
