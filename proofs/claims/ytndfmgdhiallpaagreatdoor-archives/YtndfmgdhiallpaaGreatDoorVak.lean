import Derived.Test.YtndfmgdhiallpaaGreatDoorVaj
set_option linter.all false
set_option maxRecDepth 100000
set_option maxHeartbeats 2000000
open _root_ renaming Option.some->J,Option.none->O,Int->Z,Nat->N,Go.Value.int->I,Go.Value.string->G,Go.IntKind.i64->Q,ByteArray->Y,List->E,Go.World->U,Go.Value.slice->K,Go.Value->β,Go.Obj.cells->γ,Go.Value.pointer->δ,Go.Ending.returned->ε,Go.Value.tuple->η,absurd->κ,Go.Calls->μ,Go.TypeId->ν,Go.IntKind.u32->σ,UInt8->υ,Array->φ,Go.RowKit.Hid->χ,Go.Proofs.Tryz.prog->ψ
namespace Go.Proofs.YtndfmgdhiallpaaGreatDoor
open Go.RowKit Go.Proofs.Tryz
def pe(g:N)(t:ν)(f:t≠5)(R:φ β)(S:N->Prop)(a:S g)(B:E N)(i:LE B)(e:B.length<=1000000)(b:N)(d:b<2)(w:U)(j:Bs S w)(h:Wr w g t R S B):
 μ ψ 225 #[δ (J ⟨g,0,O⟩),I Q b] w λr w' =>r=ε (η #[])/\Ag S w w' /\Wr w' g t R S (B++[b]):=by
 by_cases c:B.length%8=0
 .exact dY g t f R S a B e c b d w j h
 exact jm g t f R S a B i e c b d w h
def LE.nil:LE []:=λx a=>by cases a
def Wr.mono{w:U}{g:N}{t:ν}{R:φ β}{S S' :N->Prop}{B:E N}(h:Wr w g t R S B)(f: ∀k,S k->S' k):Wr w g t R S' B:=by
 obtain⟨ao,cap,e,a,c⟩:=h;exact⟨ao,cap,e,a,λb d=>f _ (c b d)⟩
def Zc(v i:N)(b:v<9223372036854775808):bits .and Q (((v/2^i:N):Z)) 1=((v/2^i%2:N):Z):=by
 have a:v/2^i<9223372036854775808:=tR (uN _ _) b;have:=Dt (v/2^i) 1 a Aa;rw[Nat.and_one_is_mod] at this;exact this
def Kr(g:N)(t:ν)(H:t≠5)(R:φ β)(S:N->Prop)(o:S g)(B:E N)(A:LE B)(P:B.length+16<=1000000)(v n:N)(V:v<=1000000)(T:n<=16)(w:U)(C:Bs S w)(h:Wr w g t R S B):
 μ ψ 135 #[δ (J ⟨g,0,O⟩),I Q v,I Q n] w λr w' =>r=ε (η #[])/\Ag S w w' /\Wr w' g t R S (B++CO v n):=by
 have j:=Af h;clear h;go_in;go_wp2;go_loopw [8] (λx wr=> ∃i:N,i<=n/\x=I Q i/\χ (Wr wr g t R S (B++CO v i))/\χ (Ag S w wr)) (λx _=>n- (intOf x).toNat)
 .exact ⟨0,Aa,rfl,by rw[show CO v 0=[] from rfl,sI];exact j,Ag.refl _ w⟩
 obtain⟨i,M,rfl,j,k⟩:=hrel;by_cases F:i<n
 .have c:(i:Z)<(n:Z):=Aa;have D:(0:Z)<=(i:Z):=Aa;have z:(i:Z)<64:=Aa;have L:((i:N):Z).toNat=i:=rO i;have s:(v:Z)/2^i=((v/2^i:N):Z):=by rw[sR,so];rfl
  have e:=Zc v i Aa;have a:v/2^i%2<2:=si _ Aa;have u:=Af (pe g t H R S o (B++CO v i) (A.append (Fa _ _)) (by rw[qU,DW];omega) (v/2^i%2) a wr (C.mono k.size) (uh j));have y:χ (B++CO v i++[v/2^i%2]=B++CO v (i+1)):=by unfold χ;rw[ZZ,rm]
  generalize v/2^i%2=b at u y e a;generalize v/2^i=q at s e;go_wp2_with fail;refine u.mono ?_;rintro r w1 ⟨rfl,d,f⟩;have m:=Af f;have l:=Af d;clear f d;go_wp2;go_roundw
  .exact ⟨i+1,Aa,by go_num,by rw[<-uh y];exact m,k.trans (uh l)⟩
  exact Ae
 have c:¬(i:Z)<(n:Z):=Aa;have p:i=n:=Aa;subst p;go_wp2_with fail;go_end0;exact⟨rfl,k,j⟩
def Xt(v n i:N)(h:i<n):(EZ v n).take (i+1)=(EZ v n).take i++[v/2^(n- 1- i)%2]:=by
 rw[take_getD _ _ (by rw[DI];exact h),QI _ _ _ h]
def lD(g:N)(t:ν)(ht:t≠5)(R:φ β)(S:N->Prop)(V:S g)(B:E N)(hB:LE B)(hl:B.length+16<=1000000)(v n:N)(hv:v<=1000000)(hn:n<=15)(w:U)(hF:Bs S w)(h:Wr w g t R S B):
 μ ψ 233 #[δ (J ⟨g,0,O⟩),.agg #[I Q v,I Q n]] w λr w' =>r=ε (η #[])/\Ag S w w' /\Wr w' g t R S (B++EZ v n):=by
 have a9:g<w.heap.size:=by obtain⟨ao,cap,C,_,_⟩:=h;exact Jm C
 have A:Ag (λ_=>False) w (w.alloc (γ #[I Q (v:Z),I Q (n:Z)] 260)):=(Ag.refl _ w).alloc _;have s:(w.alloc (γ #[I Q (v:Z),I Q (n:Z)] 260)).heap[w.heap.size]? =J (γ #[I Q (v:Z),I Q (n:Z)] 260 (0,0)):=rh w _;have o:χ (Wr (w.alloc (γ #[I Q (v:Z),I Q (n:Z)] 260)) g t R (λk=>S k/\k≠w.heap.size) B):=by
  obtain⟨ao,cap,C,y,a2⟩:=h;refine⟨ao,cap,(A.block g (Jm C) (λx=>x)).trans C,CL y A,λb hb=>⟨a2 b hb, ?_⟩⟩;subst hb;obtain⟨a7,hg⟩:=CV y (b:=b.block) rfl;exact ww
 have b1:(w.alloc (γ #[I Q (v:Z),I Q (n:Z)] 260)).heap.size=w.heap.size+1:=by simp only[rr]
 have m:=Af (Ag.oldS (S:=S) A);have d:χ (Bs (λk=>S k/\k≠w.heap.size) (w.alloc (γ #[I Q (v:Z),I Q (n:Z)] 260))):=λk hk=>⟨hF k Aa,Aa⟩
 have a8: ∃w0,w0=w.alloc (γ #[I Q (v:Z),I Q (n:Z)] 260):=⟨_,rfl⟩;have c:=Af s;clear h A s;have f:IntKind.i64.wrap ((n:Z)- 1)=(n:Z)- 1:=by rw[sx];omega
 go_in;go_wp2;go_loopw [4] (λx wr=> ∃i:N,i<=n/\x=I Q ((n:Z)- 1- i)/\χ (Wr wr g t R (λk=>S k/\k≠w.heap.size) (B++(EZ v n).take i))/\χ (wr.heap[w.heap.size]? =J (γ #[I Q (v:Z),I Q (n:Z)] 260 (0,0)))/\χ (Ag S w wr)/\χ (Bs (λk=>S k/\k≠w.heap.size) wr)) (λx _=>((intOf x)+1).toNat)
 .exact ⟨0,Aa,by go_num,by rw[tZ,sI];exact o,c,m,d⟩
 obtain⟨i,hi,rfl,o,c,m,d⟩:=hrel;by_cases a1:i<n
 .obtain ⟨j,hj⟩: ∃j,j=n- 1- i:=⟨_,rfl⟩;have a0:(n:Z)- 1- i=(j:Z):=Aa;have b0:(0:Z)<=(j:Z):=Aa;have a5:(j:Z)<64:=Aa;have b2:((j:N):Z).toNat=j:=rO j;have b3:IntKind.i64.wrap ((j:Z)- 1)=(j:Z)- 1:=by rw[sx];omega
  have a3:(v:Z)/2^j=((v/2^j:N):Z):=by rw[sR,so];rfl
  have z:=Zc v j Aa;have p:v/2^j%2<2:=si _ Aa;have u:=qV wr w.heap.size 0 _ _ (0,0) (uh c);have a4:wr.cell? ⟨w.heap.size,0,O⟩=J (I Q (v:Z)):=u;have D:=Af (pe g t ht R _ ⟨V,Aa⟩ (B++(EZ v n).take i) (hB.append (λx hx=>Fq v n x (vF hx))) (by rw[qU,rY,DI];omega) (v/2^j%2) p wr (uh d) (uh o));have HN:χ (B++(EZ v n).take i++[v/2^j%2]=B++(EZ v n).take (i+1)):=by unfold χ;rw[Xt v n i a1,hj,rm]
  have HJ:χ ((j:Z)- 1=(n:Z)- 1- ((i+1:N):Z)):=by unfold χ;omega
  have W:=Jm (R:= #[]) (w:=wr) (g:=w.heap.size) (t:=260) (a:=I Q (v:Z)) (b:=I Q (n:Z)) (uh c);rw[a0];generalize v/2^j%2=b at D HN z p;generalize v/2^j=q at a3 z;clear hj u;go_wp2_with fail;refine D.mono ?_;rintro r w1 ⟨rfl,e,f⟩;have M:=Af f;have H:χ (Ag S w w1):=m.trans (e.mono (λ_ _ h=>h.1));have l:=Af ((e.block w.heap.size W (λh=>h.2 rfl)).trans (uh c));have F:=Af (d.mono e.size);clear f e D;go_wp2;go_roundw
  .exact ⟨i+1,Aa,by rw[<-uh HJ],by rw[<-uh HN];exact M,l,H,F⟩
  simp[intOf]
 have X:i=n:=Aa;have L:=Af (uh m);have T:=Af (uh o);clear m o;subst X;have a6:¬(0:Z)<=(i:Z)- 1- i:=Aa;have P:χ (Wr wr g t R S (B++EZ v i)):=by have:=uh T;rw[sE (by rw[DI];exact rj _)] at this;exact this.mono (λ_ h=>h.1)
 go_wp2_with fail;go_end0;exact⟨rfl,L,P⟩
def pg(g:N)(t:ν)(u:t≠5)(R:φ β)(S:N->Prop)(j:S g)(B:E N)(w:U)(h:Wr w g t R S B):
 μ ψ 134 #[δ (J ⟨g,0,O⟩)] w λr w' =>r=ε (η #[])/\Ag S w w' /\Wr w' g t R S (B++List.replicate (8*((B.length+7)/8)- B.length) 0):=by
 obtain⟨ao,cap,b,a,d⟩:=h;have o:=Lg b;have q:w.frozen? ⟨g,1,O⟩=false:=rp w g 1 _ _ b;have c: ∀k,(Value.slice ao (AN B).length cap).ownBlock=J k->k≠g:=λk s=>So u b a s
 have l:χ (AN (B++List.replicate (8*((B.length+7)/8)- B.length) 0)=AN B):=ZY B _ Aa;have n:χ (8*(AN B).length- (B++List.replicate (8*((B.length+7)/8)- B.length) 0).length=0):=by unfold χ;rw[Bj,qU,rP];omega
 have m:=Af b;have f:=Af a;have i:=Af d;have e:=Af c;clear b a d c;go_in;go_wp2_with fail;go_end0;refine⟨rfl,(Ag.refl S w).setCell (p:=⟨g,1,O⟩) (λ_=>j) _,ao,cap, ?_, ?_,i⟩
 .rw[uh l,uh n];exact Sn (uh m) _
 rw[uh l];exact Co (uh f) (Ap w g 1 _) (uh e)
def lE(g:N)(t:ν)(o:t≠5)(R:φ β)(S:N->Prop)(b:S g)(k:N)(p:k<4)(w:U)(n:Bs S w)(h:Wr w g t R S []):
 μ ψ 133 #[δ (J ⟨g,0,O⟩),I Q k] w λr w' =>r=ε (η #[])/\Ag S w w' /\Wr w' g t R S (1::CO k 2):=by
 have l:=Af (Kr g t o R S b [] LE.nil Ad 1 1 Aa Aa w n h);go_in;go_wp2_with fail;refine l.mono ?_;rintro r w1 ⟨rfl,a,d⟩;have m:=Af (Kr g t o R S b _ (LE.nil.append (Fa 1 1)) (by simp[DW]) k 2 Aa Aa w1 (n.mono a.size) d);have f:=Af a;clear l a d h;go_wp2_with fail;refine m.mono ?_;rintro r w2 ⟨rfl,c,e⟩;have i:=Af (f.trans c);have j:=Af e;clear m c e;go_wp2_with fail;go_end0;exact⟨rfl,i,j⟩
open Go.RowKit Go.Maps Go.Proofs.Tryz
def aQ(y:N)(a:257<=y)(b:y<=285)(w:U):
 μ ψ 305 #[I Q y] w λr w' =>r=ε (I Q (Bc y))/\w' =w:=by
 have H:=Af (KY y a b w);exact abZ
def Xu(d:N)(h:d<=29)(w:U):
 μ ψ 306 #[I Q d] w λr w' =>r=ε (I Q (AV d))/\w' =w:=by
 have H:=Af (OG d h w);exact abZ
def mL(n:N)(w:U):
 μ ψ 229 #[I Q n] w λr w' =>r=ε (I Q (Cm n))/\Al w w' :=by
 have s:=Af (λ(y:N) (t:257<=y) (u:y<=285) (W:U)=>aQ y t u W);go_in;go_wp2;go_loopw [3] (λx wr=> ∃k:N,k<=28/\x=I Q ((257+k:N):Z)/\χ (Cm n=Se n k)/\χ (Al w wr)) (λx _=>(intOf x).toNat)
 .exact ⟨28,Aa,rfl,rfl,Ag.refl _ w⟩
 obtain⟨k,v,rfl,g,HO⟩:=hrel;cases k with
 |zero=>
  have e:Cm n=257:=uh g;have hz:(((257+0:N):Z))=257:=rfl;exact acf
 |succ k=>
  have f:=Af (λW=>s (257+(k+1)) Aa Aa W);have i:(257:Z)<((257+(k+1):N):Z):=Aa;have c:((257+(k+1):N):Z)- 1=((257+k:N):Z):=Aa;have a:Cm n=if n<Bc (257+(k+1)) then Se n k else 257+(k+1):=uh g
  have l:IntKind.i64.wrap ((257+k:N):Z)=((257+k:N):Z):=Av _ Aa;have b:257+k<257+(k+1):=Aa;generalize o:Bc (257+(k+1))=q at f a;generalize p:257+(k+1)=y at f i c a b;generalize m:257+k=y2 at c l b;by_cases d:n<q
  .rw[rd d] at a;have j:(n:Z)<(q:Z):=Aa;have h:=Af a;clear g a o p;go_wp2_with (go_at_call 305;refine(f _).mono ?_;rintro r w1 ⟨rfl,rfl⟩);go_roundw
   .exact ⟨k,Aa,by rw[m],h,HO⟩
   exact Ae
  rw[rc d] at a;have j:¬(n:Z)<(q:Z):=Aa;have HE:=Af a;clear g a o p;go_wp2_with (go_at_call 305;refine(f _).mono ?_;rintro r w1 ⟨rfl,rfl⟩);exact aaf
def jE(n:N)(w:U):
 μ ψ 231 #[I Q n] w λr w' =>r=ε (I Q (Cp n))/\Al w w' :=by
 have o:=Af (λ(y:N) (p:y<=29) (W:U)=>Xu y p W);go_in;go_wp2;go_loopw [3] (λx wr=> ∃k:N,k<=29/\x=I Q (k:Z)/\χ (Cp n=Iq n k)/\χ (Al w wr)) (λx _=>(intOf x).toNat)
 .exact ⟨29,Aa,rfl,rfl,Ag.refl _ w⟩
 obtain⟨k,t,rfl,f,HO⟩:=hrel;cases k with
 |zero=>
  have e:Cp n=0:=uh f;have hz:(((0:N):Z))=0:=rfl;exact acf
 |succ k=>
  have d:=Af (λW=>o (k+1) Aa W);have i:(0:Z)<((k+1:N):Z):=Aa;have h:((k+1:N):Z)- 1=(k:Z):=Aa;have a:Cp n=if n<AV (k+1) then Iq n k else k+1:=uh f
  have s:IntKind.i64.wrap (k:Z)=(k:Z):=Av _ Aa;have c:k<k+1:=Aa;generalize l:AV (k+1)=q at d a;generalize m:k+1=y at d i h a c;by_cases b:n<q
  .rw[rd b] at a;have j:(n:Z)<(q:Z):=Aa;have g:=Af a;clear f a l m;go_wp2_with (go_at_call 306;refine(d _).mono ?_;rintro r w1 ⟨rfl,rfl⟩);go_roundw
   .exact ⟨k,Aa,rfl,g,HO⟩
   exact Ae
  rw[rc b] at a;have j:¬(n:Z)<(q:Z):=Aa;have HE:=Af a;clear f a l m;go_wp2_with (go_at_call 306;refine(d _).mono ?_;rintro r w1 ⟨rfl,rfl⟩);exact aaf
def ME{P:Program}(w:U)(g a:N)(e:ν)(b:E β)(d:TypeDesc)(h: ∀j v,b[j]? =J v->w.cell? ⟨g,a+j,O⟩=J v)
 (m:P.underlying e=J d)(o:(match d with| .struct _| .array _ _=>true|_=>false)=true)(f:(P.info? e).map (·.size)=J b.length):
 (loadVar e ⟨g,a,O⟩).run P w=.ok (.agg b.toArray) w:=by
 have k:(loadCells ⟨g,a,O⟩ b.length).run P w=.ok b.toArray w:=
  vj (P:=P) w ⟨g,a,O⟩ b (λj v n=>by rw[rH];exact h j v n)
 cases hq:P.info? e with
 |none=>simp[hq] at f
 |some i=>
  have l:i.size=b.length:=by simpa [hq] using f
  have c:(isAgg e).run P w=.ok true w:=by
   unfold isAgg;rw[vc,ta m w];cases d<;>simp_all
  simp[loadVar,vc,c,sizeOf,typeInfo,hq,l,k]
def MF{P:Program}{ops:φ Oper}{rest:E Oper}{o:Oper}{a:Act}{w:U}{Q:Exit->Act->U->Prop}(f:o.guard=O)(e:ν)(x:Operand)(n:o.op=.load e x)
 (g b:N)(q:a.eval x=δ (J ⟨g,b,O⟩))(c:E β)(d:TypeDesc)(k: ∀j v,c[j]? =J v->w.cell? ⟨g,b+j,O⟩=J v)
 (p:P.underlying e=J d)(l:(match d with| .struct _| .array _ _=>true|_=>false)=true)(m:(P.info? e).map (·.size)=J c.length)
 (h:wpList P ops Q rest (a.put o.dst (.agg c.toArray)) w):wpList P ops Q (o::rest) a w:=
 vW f λr i=>by
  unfold Oper.wp execOp;simp only[n,q,Instr.loadAt,Instr.sureAddr,vc,vV,uR,ME w g b e c d k p l m];exact i _ _ h
def mM:(prog.info? 262).map (·.size)=J 16:=Ab
def Uj(a:φ β)(i:N)(v:β)(f:i<16)(e:a[i]? =J v)(W:U):(Instr.index 262 (.agg a) (I Q (i:Z))).run ψ W=.ok v W:=by
 have d:prog.underlying 262=J (.array 16 33):=underlying262;have c:(sizeOf 33).run ψ W=.ok 1 W:=Ab;have b:¬16<=i:=Aa;simp[Instr.index,ta d,asIntOf,c,_root_.Go.part,e,b,go_sem]
def Sr{L:E N}{n r:N}(h:r<(BS L n).length):(BS L n).getD r 0<L.length/\L.getD ((BS L n).getD r 0) 0=n:=by
 have a:(BS L n).getD r 0∈BS L n:=by rw[qT,qY h,th];exact ro _
 have:=vk.1 (show _∈(List.range L.length).filter _ from a);exact⟨rJ.1 this.1,by simpa using this.2⟩
def jF{L:E N}{n r a :N}(h:r<(BS L n).length)(b :a <(BS L n).length)(e:(BS L n).getD r 0=(BS L n).getD a 0):r=a :=by
 have c:(BS L n).Nodup:=List.Nodup.sublist List.filter_sublist List.nodup_range;rw[qT,qT,qY h,qY b,th,th] at e;have hp:=ud.1 c;rcases vz r a with hl|hl|hl
 .exact κ e (hp r a h b hl)
 .exact hl
 exact κ e.symm (hp a r b h hl)
def Ea(w:U)(gl:N)(L:E N)(k j:N):Prop:=
 ∃cur:φ β,w.heap[gl]? =J (γ cur 260 (0,0))/\cur.size=2*L.length/\
  ∀n r,1<=n->(n<k\/(n=k/\r<j))->r<(BS L n).length->cur[2*(BS L n).getD r 0]? =J (I Q (AJ L n+r:N))/\cur[2*(BS L n).getD r 0+1]? =J (I Q (n:N))
def Ea.kept{w w' :U}{a:N}{L:E N}{k j:N}{S:N->Prop}(h:Ea w a L k j)(d:Ag S w w')(e:¬S a):Ea w' a L k j:=by
 obtain⟨b,c,r⟩:=h;exact⟨b,(d.block a (qW.1 c).1 e).trans c,r⟩
def Ea.cells{w:U}{b:N}{L:E N}{k j:N}(h:Ea w b L k j)(i:N)(d:i<2*L.length):(∃v,w.cell? ⟨b,i,O⟩=J v)/\w.frozen? ⟨b,i,O⟩=false:=by
 obtain⟨a,c,e,_⟩:=h;exact⟨⟨a[i]'Aa,by rw[qV w b i a _ _ c,rZ Aa]⟩,rp w b i _ _ c⟩
def Ea.next{w:U}{a:N}{L:E N}{k j:N}(h:Ea w a L k j)(i:j<(BS L k).length):
 Ea ((w.setCell ⟨a,2*(BS L k).getD j 0,O⟩ (I Q (AJ L k+j:N))).setCell ⟨a,2*(BS L k).getD j 0+1,O⟩ (I Q (k:N))) a L k (j+1):=by
 obtain⟨b,p,t,o⟩:=h;have q:=Sr i;refine⟨_,ru _ a _ _ _ _ (ru w a _ b _ _ p),by rw[tQ,tQ];exact t,λn r s d g=> ?_⟩;have f:=Sr g;rw[sg,sg,sg,sg,tQ];by_cases e:(BS L k).getD j 0=(BS L n).getD r 0
 .have l:n=k:=by rw[<-f.2,<-e,q.2]
  subst l;have m:j=r:=jF i g e;subst m;rw[rc Aa,rd rfl,rd Aa,rd rfl,rd Aa];exact⟨rfl,rfl⟩
 rw[rc Aa,rc Aa,rc Aa,rc Aa];refine o n r s ?_ g;rcases d with c|⟨c,u⟩
 .exact .inl c
 subst c
 right
 refine⟨rfl, ?_⟩;rcases sb r j with h3|h3
 .exact h3
 have:r=j:=Aa;subst this;exact κ rfl e
def Ea.turn{w:U}{c:N}{L:E N}{k j:N}(h:Ea w c L k j)(g:(Jn L k).length<=j):Ea w c L (k+1) 0:=by
 obtain⟨a,f,m,d⟩:=h;refine⟨a,f,m,λn r i b l=>d n r i ?_ l⟩;rcases b with h1|⟨_,o⟩
 .rcases sb n k with h3|h3
  .exact .inl h3
  have e:n=k:=Aa;subst e;rw[Jn,rc Aa] at g;exact .inr ⟨rfl,Aa⟩
 omega
def mN:(prog.info? 260).map (λi=>(i.zero,i.size,i.bytes))=J (J (.agg #[I Q 0,I Q 0]),2,16):=Ab
def mO(d:N)(c1:N->Prop)(L:E N)(hL:L.length<=400)(w:U)(h:CJ w d c1 L):
 μ ψ 304 #[δ (J ⟨d,0,O⟩),I Q L.length] w λr w' =>r=ε (K (J ⟨w.heap.size,0,O⟩) L.length L.length)/\Al w w' /\Ea w' w.heap.size L 16 0:=by
 have D:=h.lt;obtain⟨a,hg,hk,hf,hr⟩:=h;obtain⟨i0,q,b3,b4,b5⟩:=rN mN;have b2:(Instr.makeSlice 189 (I Q (L.length:Z)) (I Q (L.length:Z))).run ψ w=.ok (K (J ⟨w.heap.size,0,O⟩) L.length L.length) (w.alloc (γ (madeCells #[I Q 0,I Q 0] (L.length*2)) 260)):=by
  have h:=vE (P:=ψ) w 189 260 i0 _ underlying189 q b3 .i64 .i64 L.length L.length Aa Aa (by rw[b5];omega) Aa;rw[b4,rO] at h;exact h
 have C: ∀n v,((List.range 16).map (λn=>(a[16+n]?).getD undef))[n]? =J v->n<=15/\a[16+n]? =J v:=by
  intro n v s;rcases sb n 16 with h16|h16
  .obtain ⟨ao,cap,W,_⟩:=hr n Aa;simp only[tt,xM h16,uo,W,th] at s;exact⟨Aa,by rw[W];exact s⟩
  rw[rL (by simp;omega)] at s;cases s
 have B: ∀n,n<=15-> ∃ao cap,((List.range 16).map (λn=>(a[16+n]?).getD undef)).toArray[n]? =J (K ao (Jn L n).length cap)/\∀j,j<(Jn L n).length-> ∃b,ao=J ⟨b,0,O⟩/\b<w.heap.size/\w.cell? ⟨b,j,O⟩=J (I Q ((Jn L n).getD j 0:N)):=by
  intro n X;obtain⟨ao,cap,W,h2⟩:=hr n X;refine⟨ao,cap, ?_,λj hj=> ?_⟩
  .rw[tq];simp only[tt,xM (show n<16 by omega),uo,W,th]
  obtain⟨b,hb,_,hc⟩:=h2 j hj;exact⟨b,hb,Of hc,hc⟩
 have a0:=Af B;have M: ∀j v,((List.range 16).map (λn=>(a[16+n]?).getD undef))[j]? =J v->(w.alloc (γ (madeCells #[I Q 0,I Q 0] (L.length*2)) 260)).cell? ⟨d,16+j,O⟩=J v:=by
  intro j v s;rw[((Ag.refl (λ_=>False) w).alloc _).cell (p:=⟨d,16+j,O⟩) D (λx=>x),qV w d (16+j) a _ (0,0) hg];exact(C j v s).2
 have HF:χ (∀n,n<=15->w.cell? ⟨d,n,O⟩=J (I Q (AJ L n:N))):=λn X=>by rw[qV w d n a _ (0,0) hg];exact hf n X
 have a1:χ (Ea (w.alloc (γ (madeCells #[I Q 0,I Q 0] (L.length*2)) 260)) w.heap.size L 0 0):=
  ⟨_,rh w _,by simp[madeCells];omega,λn r X S hr=>Aa⟩
 have a6:χ (Al w (w.alloc (γ (madeCells #[I Q 0,I Q 0] (L.length*2)) 260))):=(Ag.refl _ w).alloc _;have R:((List.range 16).map (λn=>(a[16+n]?).getD undef)).length=16:=Ad;have t:=Af M;clear hg hk hf hr C B M;generalize(List.range 16).map (λn=>(a[16+n]?).getD undef)=A at*;have F:(prog.info? 262).map (·.size)=J A.length:=by rw[R];exact mM
 go_in;go_wp2_with (refine MF rfl 262 (.tmp 14) rfl d 16 rfl A _ (uh t) underlying262 rfl F ?_);clear b2 t R F;go_loopw [6,7,8,9,16] (λ_ _ _ _ z wr=> ∃i:N,i<=16/\z=I Q i/\χ (Ea wr w.heap.size L i 0)/\χ (Al w wr)) (λ_ _ _ _ z _=>16- (intOf z).toNat)
 .exact ⟨0,Aa,rfl,a1,a6⟩
 obtain⟨i,hi,rfl,k,m⟩:=hrel;by_cases S:i<16
 .have T:(i:Z)<16:=Aa;obtain⟨ao,cap,hA,c⟩:=a0 i Aa;have b0:=Uj A.toArray i _ S hA;have c3:(Jn L i).length<=400:=by unfold Jn;split;simp;exact rz (Ou L i) hL
  have l:=Af c;have a4:=Af (HF i Aa);have a8:χ (i≠0->Jn L i=BS L i):=λh=>rc h
  have a7:χ (i=0->(Jn L i).length=0):=λh=>by subst h;rfl
  clear c hA;go_wp2_with fail;clear b0;go_loopw [8,9,22] (λ_ _ z wr=> ∃j:N,j<=(Jn L i).length/\z=I Q j/\χ (Ea wr w.heap.size L i j)/\χ (Al w wr)) (λ_ _ z _=>(Jn L i).length- (intOf z).toNat)
  .exact ⟨0,Aa,rfl,k,m⟩
  obtain⟨j,hj,rfl,k,m⟩:=hrel;by_cases g:j<(Jn L i).length
  .have b1:(j:Z)<((Jn L i).length:Z):=Aa;obtain⟨b,hb,a9,o⟩:=l j g;subst hb;have q:i≠0:=λe=>by have:=a7 e;omega
   have V:=a8 q;rw[V] at g o;have hm:=Sr g;have b6:wr.cell? ⟨b,j,O⟩=J (I Q ((BS L i).getD j 0:N)):=(m.cell (p:=⟨b,j,O⟩) a9 (λx=>x)).trans o;have b7:wr.cell? ⟨d,i,O⟩=J (I Q (AJ L i:N)):=(m.cell (p:=⟨d,i,O⟩) D (λx=>x)).trans (uh a4);have c2:AJ L i<=52428800:=by
    have h3:=Kk L i;have hp:2^(i+1)<=2^16:=rG Aa Aa;have:2^(i+1)*L.length<=65536*400:=tY Aa hL;omega
   have u:=Af (k.next g);obtain⟨⟨v1,c4⟩,b9⟩:=k.cells (2*(BS L i).getD j 0) Aa;obtain⟨⟨v2,c5⟩,c0⟩:=k.cells (2*(BS L i).getD j 0+1) Aa;have d0:=hm.1;clear hm o;generalize(BS L i).getD j 0=y at*;generalize AJ L i=f at*;have c9:(y:Z)<(L.length:Z):=Aa;have c7:(0:Z)<=(y:Z):=Aa;have c6:IntKind.i64.wrap ((f:Z)+(j:Z))=(f:Z)+(j:Z):=by rw[sx];omega
   have c8:y*2=2*y:=tP _ _;have a5:=Af ((m.setCell (p:=⟨w.heap.size,2*y,O⟩) (λhh=>κ hh (st _)) (I Q ((f:Z)+(j:Z)))).setCell (p:=⟨w.heap.size,2*y+1,O⟩) (λhh=>κ hh (st _)) (I Q (i:Z)));rw[sO] at u;go_wp2;go_roundw
   .exact ⟨j+1,by rw[V];omega,by go_num,u,a5⟩
   exact Ae
  have b1:¬(j:Z)<((Jn L i).length:Z):=Aa;have a3:=Af (k.turn Aa);go_wp2;go_roundw
  .exact ⟨i+1,Aa,by go_num,a3,m⟩
  exact Ae
 have T:¬(i:Z)<16:=Aa;have H:i=16:=Aa;have a2:χ (Ea wr w.heap.size L 16 0):=by have:=uh k;rw[H] at this;exact this
 clear k H;go_wp2;go_ret;exact⟨rfl,m,a2⟩
def Zd(l a cap:N)(L:E N)(q:L.length<=400)(m: ∀j,L.getD j 0<=15)(w:U)(p:Bx w l a L):
 μ ψ 226 #[K (J ⟨l,a,O⟩) L.length cap] w λr w' => ∃g,r=ε (K (J ⟨g,0,O⟩) L.length L.length)/\Al w w' /\Ea w' g L 16 0/\w.heap.size<=g:=by
 have o:=Af (QS l a cap L q m w p);go_in;go_wp2_with fail;refine o.mono ?_;rintro r w1 ⟨rfl,d,f⟩;have n:=Af (mO w.heap.size _ L q w1 f);have b:=Af d;clear o d f p;go_wp2_with fail;refine n.mono ?_;rintro r w2 ⟨rfl,e,c⟩;have i:χ (Al w w2):=b.trans e;have h:=Af c;have k:=Af b.size;clear n e c;go_wp2;go_ret;exact⟨w1.heap.size,rfl,i,h,k⟩
def QU(w:U)(gS gD:N):Prop:=
 gS<w.heap.size/\gD<w.heap.size/\(∀y,y<288->w.cell? ⟨gS,2*y,O⟩=J (I Q (Qg y:N))/\w.cell? ⟨gS,2*y+1,O⟩=J (I Q (IL y:N)))/\
  ∀d,d<32->w.cell? ⟨gD,2*d,O⟩=J (I Q (d:N))/\w.cell? ⟨gD,2*d+1,O⟩=J (I Q (5:N))
def QU.kept{w w' :U}{f e:N}{S:N->Prop}(h:QU w f e)(g:Ag S w w')(j:¬S f)(k:¬S e):QU w' f e:=by
 obtain⟨a,b,c,d⟩:=h;have l:=g.size;refine⟨Aa,Aa,λy i=> ?_,λy i=> ?_⟩
 .rw[g.cell (p:=⟨f,2*y,O⟩) a j,g.cell (p:=⟨f,2*y+1,O⟩) a j];exact c y i
 rw[g.cell (p:=⟨e,2*y,O⟩) b k,g.cell (p:=⟨e,2*y+1,O⟩) b k];exact d y i
def Ea.lt{w:U}{a:N}{L:E N}{k j:N}(h:Ea w a L k j):a<w.heap.size:=wC
def Ea.get{w:U}{b:N}{L:E N}(h:Ea w b L 16 0){n r y v:N}(d:1<=n)(e:n<=15)(g:r<(BS L n).length)(j:(BS L n).getD r 0=y)(i:AJ L n+r=v):
 w.cell? ⟨b,2*y,O⟩=J (I Q (v:N))/\w.cell? ⟨b,2*y+1,O⟩=J (I Q (n:N)):=by
 obtain⟨a,c,k,f⟩:=h;have:=f n r d (.inl Aa) g;rw[j,i] at this;rw[qV w b _ a _ (0,0) c,qV w b _ a _ (0,0) c];exact this
def mP{w:U}{g f:N}(b:Ea w g BO 16 0)(h:Ea w f Cz 16 0):QU w g f:=by
 refine⟨b.lt,h.lt,λy j=> ?_,λd i=> ?_⟩
 .unfold Qg IL;by_cases a:y<144
  .rw[rd a,rd a];exact b.get (n:=8) (r:=y) Aa Aa (by rw[Qf];simp;omega) (by rw[Qf,qT,rM (by simpa using a)];simp[a]) (by rw[JL])
  rw[rc a,rc a];by_cases c:y<256
  .rw[rd c,rd c];exact b.get (n:=9) (r:=y- 144) Aa Aa (by rw[iY];simp;omega) (by rw[iY,Dj _ _ _ Aa];omega) (by rw[VY])
  rw[rc c,rc c];by_cases e:y<280
  .rw[rd e,rd e];exact b.get (n:=7) (r:=y- 256) Aa Aa (by rw[Tx];simp;omega) (by rw[Tx,Dj _ _ _ Aa];omega) (by rw[Fr 7 Aa];omega)
  rw[rc e,rc e];exact b.get (n:=8) (r:=144+(y- 280)) Aa Aa (by rw[Qf];simp;omega) (by rw[Qf,qT,rE Ad,<-qT,Dj _ _ _ (by simp;omega)];simp;omega) (by rw[JL];omega)
 exact h.get (n:=5) (r:=d) Aa Aa (by rw[YU];simp;omega) (by rw[YU,qT];simp[i]) (by rw[KZ 5 Aa];omega)
abbrev jG:ν:=191
def Xv(w:U):
 μ ψ 136 #[] w λr w' => ∃g h f,r=ε (δ (J ⟨g,0,O⟩))/\Al w w' /\w.heap.size<=h/\w.heap.size<=f/\h<g/\f<g/\w'.heap.size=g+1/\QU w' h f/\
  w'.heap[g]? =J (γ (#[K O 0 0,I Q 0]++ #[K (J ⟨h,0,O⟩) 288 288,K (J ⟨f,0,O⟩) 32 32]) jG (0,0)):=by
 have y:=Af (QT w);go_in;go_wp2_with fail;refine y.mono ?_;rintro r w1 ⟨rfl,n,p⟩;have t:=Af (Zd w.heap.size 0 288 BO (by rw[BH];omega) Za w1 n);rw[BH] at t;have b:=Af p;clear y p n;go_wp2_with fail;refine t.mono ?_;rintro r w2 ⟨h,rfl,q,l,B⟩;have z:=Af (OX w2);have k:χ (Al w w2):=b.trans q;have i:=Af l;have C:=b.size;clear t q l b;go_wp2_with fail;refine z.mono ?_;rintro r w3 ⟨rfl,o,d⟩;have u:=Af (Zd w2.heap.size 0 32 Cz (by rw[Dm];omega) Zb w3 o);rw[Dm] at u;have c:χ (Al w w3):=k.trans d;have j:=Af (i.kept d (λx=>x));clear z d o k i;go_wp2_with fail;refine u.mono ?_;rintro r s ⟨f,rfl,e,m,A⟩;have v:χ (Al w s):=c.trans e;have a:=Af (mP (j.kept e (λx=>x)) m);have D:=c.size;clear u e m c j;go_wp2;go_ret;refine⟨s.heap.size,h,f,rfl,v.alloc _,Aa,Aa,a.1,a.2.1,by simp only[rr],a.kept ((Ag.refl (λ_=>False) s).alloc _) (λx=>x) (λx=>x), ?_⟩;exact rh s _
abbrev mQ(gS gD:N):φ β:= #[K (J ⟨gS,0,O⟩) 288 288,K (J ⟨gD,0,O⟩) 32 32]
def Pk(w:U)(g gS gD:N)(S:N->Prop)(B:E N):Prop:=Wr w g jG (mQ gS gD) S B/\QU w gS gD
def Pk.c2{w:U}{g a b:N}{S:N->Prop}{B:E N}(h:Pk w g a b S B):w.cell? ⟨g,2,O⟩=J (K (J ⟨a,0,O⟩) 288 288):=by
 obtain⟨⟨ao,cap,c,_,_⟩,_⟩:=h;rw[qV w g 2 _ _ (0,0) c];rfl
def Pk.c3{w:U}{g b a:N}{S:N->Prop}{B:E N}(h:Pk w g b a S B):w.cell? ⟨g,3,O⟩=J (K (J ⟨a,0,O⟩) 32 32):=by
 obtain⟨⟨ao,cap,c,_,_⟩,_⟩:=h;rw[qV w g 3 _ _ (0,0) c];rfl
def Pa:jG≠5:=Ac
def Ss(g b f:N)(S:N->Prop)(o:S g)(x:¬S b)(z:¬S f)(B:E N)(A:LE B)(D:B.length+16<=1000000)(y:N)(H:y<288)(w:U)(C:Bs S w)(h:Pk w g b f S B):
 μ ψ 140 #[δ (J ⟨g,0,O⟩),I Q y] w λr w' =>r=ε (η #[])/\Ag S w w' /\Pk w' g b f S (B++FG y):=by
 have p:=h.c2;obtain⟨s,q⟩:=h.2.2.2.1 y H;have j:=Af h.2;have F:Qg y<=1000:=by unfold Qg;repeat (first|split|omega)
 have t:=Af (λk=>lD g jG Pa (mQ b f) S o B A D (Qg y) (IL y) Aa (rz (Sd y) Aa) (w.drewN k) C h.1);have l:χ (EZ (Qg y) (IL y)=FG y):=rfl;clear h;generalize Qg y=v at*;generalize IL y=n at*;have R:(y:Z)<288:=Aa;have M:(0:Z)<=(y:Z):=Aa;have P:y*2=2*y:=tP _ _;go_in;go_upto_region 0 with fail;have a:w.drew.cell? ⟨g,2,O⟩=J (K (J ⟨b,0,O⟩) 288 288)/\w.drew.cell? ⟨b,2*y,O⟩=J (I Q v)/\w.drew.cell? ⟨b,2*y+1,O⟩=J (I Q n):=⟨p,s,q⟩;refine Ai (S:=λW=>W.cell? ⟨g,2,O⟩=J (K (J ⟨b,0,O⟩) 288 288)/\W.cell? ⟨b,2*y,O⟩=J (I Q v)/\W.cell? ⟨b,2*y+1,O⟩=J (I Q n)) (L:=10) Ab ?_;refine tk 0 11 (δ (J ⟨g,0,O⟩)) 4 a ?_;refine tk 1 11 (δ (J ⟨g,0,O⟩)) 5 a ?_;refine tk 2 11 (δ (J ⟨g,0,O⟩)) 6 a ?_;refine tk 3 11 (δ (J ⟨g,0,O⟩)) 7 a ?_;refine tk 4 11 (δ (J ⟨g,0,O⟩)) 8 a ?_;refine tk 5 11 (δ (J ⟨g,2,O⟩)) 9 a ?_;refine tk 6 11 (K (J ⟨b,0,O⟩) 288 288) 10 a ?_;refine tk 7 11 (I Q y) 11 a ?_;refine tk 8 11 (δ (J ⟨b,2*y,O⟩)) 12 a ?_;refine tk 9 11 (.agg #[I Q v,I Q n]) 13 a ?_;refine Ah (i:=10) Ab ?_;refine ri rfl (λK' u=> ?_);go_simp;refine(t 1).mono ?_;rintro r w1 ⟨rfl,d,e⟩;refine u _ _ ⟨λh=>κ rfl h, ?_⟩;clear u;refine Am Ab ?_;have c:χ (Ag S w w1):=((Ag.refl S w).drewN 1).trans d;have m:=Af e;clear t d e a;go_wp2_with fail;go_end0;exact⟨rfl,c,by rw[<-uh l];exact uh m,j.kept (uh c) x z⟩
def ph(g l c:N)(S:N->Prop)(m:S g)(h1:¬S l)(h2:¬S c)(B:E N)(hB:LE B)(hl:B.length+80<=1000000)(len a:N)(h3:3<=len)(a3:len<=258)(c1:1<=a)(d4:a<=20000)(w:U)(hF:Bs S w)(h:Pk w g l c S B):
 μ ψ 139 #[δ (J ⟨g,0,O⟩),I Q len,I Q a] w λr w' =>r=ε (η #[])/\Ag S w w' /\Pk w' g l c S (B++FI (.inr (len,a))):=by
 obtain⟨c6,c7,d6,c8,d7⟩:=OI len h3 a3;obtain⟨b7,d2,b9⟩:=Mw a c1 Aa;have d0:=rQ (rV.1 QQ _ (rJ.2 (show Cp a<30 by omega)));have H1:=Af (mL len w);have b5:χ (B++FG (Cm len)++CO (len- Bc (Cm len)) (AK (Cm len))++EZ (Cp a) 5++CO (a- AV (Cp a)) (AZ (Cp a))=B++FI (.inr (len,a))):=by
  unfold χ;simp only[FI,aa,rm]
 have HP:=Af h;clear h;have d8:(FG (Cm len)).length<=9:=by rw[FH];exact Sd _
 have D:LE (FG (Cm len)):=Fq _ _;have H2:=Af (λW=>KY (Cm len) c6 c7 W);have H5:=Af (λW=>OG (Cp a) b7 W);have F:Cm len<288:=Aa;have b1:Cp a<32:=Aa;generalize c9:Cm len=sy at*;generalize a7:Cp a=y at*;generalize Bc sy=lb at*;generalize d1:AK sy=lk at*;generalize AV y=db at*;generalize AZ y=dk at*;have b2:=Af a7;clear c9 a7 c8 b9;have d5:IntKind.i64.wrap ((len:Z)- (lb:Z))=((len- lb:N):Z):=by rw[sx];omega
 have d3:IntKind.i64.wrap ((a:Z)- (db:Z))=((a- db:N):Z):=by rw[sx];omega
 have c5:len- lb<=1000000:=Aa;have c0:a- db<=1000000:=Aa;have c4:lk<=16:=Aa;generalize len- lb=lv at*;generalize a- db=dv at*;have e1:(y:Z)<32:=Aa;have d9:(0:Z)<=(y:Z):=Aa;have e0:y*2=2*y:=tP _ _;go_in;go_wp2_with fail;refine H1.mono ?_;rintro r w1 ⟨rfl,d⟩;have b3:=Af (Ag.oldS (S:=S) d);have j:=Af (hF.mono d.size);have a1:χ (Pk w1 g l c S B):=by
  obtain⟨⟨ao,cap,hh,z,C⟩,c2⟩:=uh HP;exact⟨⟨ao,cap,(d.block g (Jm hh) (λx=>x)).trans hh,CL z d,C⟩,c2.kept d (λx=>x) (λx=>x)⟩
 clear H1 d HP;go_wp2_with fail;refine(H2 _).mono ?_;rintro r w2 ⟨rfl,rfl⟩;have H3:=Af (Ss g l c S m h1 h2 B hB Aa sy F w2 (uh j) (uh a1));clear H2;go_wp2_with fail;refine H3.mono ?_;rintro r w3 ⟨rfl,n,A⟩;have H4:=Af (Kr g jG Pa (mQ l c) S m _ (hB.append D) (by rw[qU];omega) lv lk c5 c4 w3 (j.mono n.size) A.1);have q:=Af A.2;have T:=Af (b3.trans n);have H:=Af (j.mono n.size);clear H3 n A a1 j;go_wp2_with fail;refine H4.mono ?_;rintro r w4 ⟨rfl,o,a8⟩;have s:=Af (q.kept o h1 h2);have V:=Af (T.trans o);have M:=Af (H.mono o.size);have a2:=Af a8;have H6:=Af (jE a w4);clear H4 o a8 q H T;rw[uh b2] at H6;go_wp2_with fail;refine H6.mono ?_;rintro r w5 ⟨rfl,e⟩;have X:=Af (V.trans (Ag.oldS e));have u:=Af (M.mono e.size);have f:χ (Pk w5 g l c S (B++FG sy++CO lv lk)):=by
  obtain⟨ao,cap,hh,z,C⟩:=uh a2;exact⟨⟨ao,cap,(e.block g (Jm hh) (λx=>x)).trans hh,CL z e,C⟩,s.kept e (λx=>x) (λx=>x)⟩
 clear H6 e V M a2 s;go_wp2_with fail;refine(H5 _).mono ?_;rintro r w6 ⟨rfl,rfl⟩;go_upto_region 6 with fail;have a4:=f.c3;obtain⟨a6,a5⟩:=f.2.2.2.2 y b1;have HC:=Af (λk=>lD g jG Pa (mQ l c) S m (B++FG sy++CO lv lk) ((hB.append D).append (Fa _ _)) (by rw[qU,qU,DW];omega) y 5 Aa Aa (w6.drewN k) (uh u) f.1);have b:w6.drew.cell? ⟨g,3,O⟩=J (K (J ⟨c,0,O⟩) 32 32)/\w6.drew.cell? ⟨c,2*y,O⟩=J (I Q y)/\w6.drew.cell? ⟨c,2*y+1,O⟩=J (I Q 5):=⟨a4,a6,a5⟩;refine Ai (S:=λW=>W.cell? ⟨g,3,O⟩=J (K (J ⟨c,0,O⟩) 32 32)/\W.cell? ⟨c,2*y,O⟩=J (I Q y)/\W.cell? ⟨c,2*y+1,O⟩=J (I Q 5)) (L:=10) Ab ?_;refine tk 0 11 (δ (J ⟨g,0,O⟩)) 37 b ?_;refine tk 1 11 (δ (J ⟨g,0,O⟩)) 38 b ?_;refine tk 2 11 (δ (J ⟨g,0,O⟩)) 39 b ?_;refine tk 3 11 (δ (J ⟨g,0,O⟩)) 40 b ?_;refine tk 4 11 (δ (J ⟨g,0,O⟩)) 41 b ?_;refine tk 5 11 (δ (J ⟨g,3,O⟩)) 42 b ?_;refine tk 6 11 (K (J ⟨c,0,O⟩) 32 32) 43 b ?_;refine tk 7 11 (I Q y) 44 b ?_;refine tk 8 11 (δ (J ⟨c,2*y,O⟩)) 45 b ?_;refine tk 9 11 (.agg #[I Q y,I Q 5]) 46 b ?_;refine Ah (i:=10) Ab ?_;refine ri rfl (λK' hK=> ?_);go_simp;refine(HC 1).mono ?_;rintro r w7 ⟨rfl,p,a9⟩;refine hK _ _ ⟨λh=>κ rfl h, ?_⟩;clear hK;refine Am Ab ?_;have a0:χ (Ag S w w7):=(X.drewN 1).trans p;have P:=Af (u.mono (rz (rj _) p.size));have t:=Af (f.2.kept (((Ag.refl S w6).drewN 1).trans p) h1 h2);have H8:=Af (Kr g jG Pa (mQ l c) S m (B++FG sy++CO lv lk++EZ y 5) (((hB.append D).append (Fa _ _)).append (Fq _ _)) (by rw[qU,qU,qU,DW,DI];omega) dv dk c0 Aa w7 (uh P) a9);clear HC p a9 b a4 a6 a5 f u X;go_wp2_with fail;refine H8.mono ?_;rintro r w8 ⟨rfl,v,b0⟩;have b4:=Af (a0.trans v);have R:=Af (t.kept v h1 h2);have b6:=Af b0;clear H8 v b0 a0 t P;go_wp2_with fail;go_end0;exact⟨rfl,b4,by rw[<-uh b5];exact uh b6,R⟩
def Dh(w:U)(S:N->Prop)(v:β)(l:E υ):Prop:=
 ∃ao cap,v=K ao l.length cap/\w.ownsRow 0 5 1 (K ao l.length cap) l.length (Ak l)/\∀b:Addr,ao=J b->S b.block
def Dh.nil(w:U)(S:N->Prop):Dh w S (K O 0 0) []:=⟨O,0,rfl,rF w 0 5 1,λb a=>by cases a⟩
def Xw{w:U}{v:β}{n:N}{j:E β}(h:w.ownsRow 0 5 1 v n j){b:N}(d:v.ownBlock=J b){g:N}{c:φ β}{e:ν}{x:N×N}(i:w.heap[g]? =J (γ c e x))(f:e≠5):b≠g:=by
 obtain⟨c2,a⟩:=CV h d;rintro rfl;rw[i] at a;injection a with a;injection a with h3 h4;exact f h4
def Dh.kept{w w' :U}{S T:N->Prop}{v:β}{l:E υ}(h:Dh w S v l)(f:Ag T w w')(g: ∀k,S k->¬T k):Dh w' S v l:=by
 obtain⟨ao,cap,rfl,e,c⟩:=h;refine⟨ao,cap,rfl,Co e f (λb d=> ?_),c⟩;cases ao with
 |none=>cases d
 |some a=>injection d with d;subst d;exact g _ (c a rfl)
def Dh.old{w w' :U}{S:N->Prop}{v:β}{l:E υ}(h:Dh w S v l)(a:Al w w'):Dh w' S v l:=h.kept a (λ_ _ x=>x)
def Dh.mono{w:U}{S T:N->Prop}{v:β}{l:E υ}(h:Dh w S v l)(f: ∀k,S k->T k):Dh w T v l:=by
 obtain⟨ao,cap,e,a,c⟩:=h;exact⟨ao,cap,e,a,λb d=>f _ (c b d)⟩
def Dh.but{w:U}{S:N->Prop}{v:β}{l:E υ}(h:Dh w S v l){g:N}{c:φ β}{e:ν}{x:N×N}(j:w.heap[g]? =J (γ c e x))(i:e≠5):Dh w (λk=>S k/\k≠g) v l:=by
 obtain⟨ao,cap,rfl,a,d⟩:=h;refine⟨ao,cap,rfl,a,λb f=>⟨d b f, ?_⟩⟩;subst f;exact Xw a rfl j i
def Dh.lt{w:U}{S:N->Prop}{v:β}{l:E υ}(h:Dh w S v l):Dh w (λk=>S k/\k<w.heap.size) v l:=by
 obtain⟨ao,cap,rfl,a,c⟩:=h;refine⟨ao,cap,rfl,a,λb d=>⟨c b d, ?_⟩⟩;subst d;obtain⟨e,f⟩:=CV a (b:=b.block) rfl;exact(qW.1 f).1
def Pb(l:E υ):(Ak l).length=l.length:=by simp[Ak]
def Pc(l m:E υ):Ak (l++m)=Ak l++Ak m:=by simp only[Ak,sv]
def Dh.more{w w1 w2:U}{S:N->Prop}{l bs:E υ}{ao ao2:Option Addr}{cap cap2 H:N}(e:S H)(d:Ag S w w1)(a: ∀b:Addr,ao=J b->S b.block)
 (i:w2.ownsRow 0 5 1 (K ao2 (l.length+bs.length) cap2) (l.length+bs.length) (Ak l++Ak bs))(g:w1.grownBy w2 (Value.slice ao l.length cap).ownBlock)(h: ∀b:Addr,ao2=J b->(Value.slice ao l.length cap).ownBlock=J b.block\/b.block=H):
 Ag S w w2/\Dh w2 S (K ao2 (l.length+bs.length) cap2) (l++bs):=by
 refine⟨d.grown g (λk _ c=> ?_),ao2,cap2,by rw[qU],by rw[qU,Pc];exact i,λb f=> ?_⟩
 .cases ao with
  |none=>cases c
  |some b=>injection c with c;subst c;exact a b rfl
 rcases h b f with h5|h5
 .cases ao with
  |none=>cases h5
  |some b' =>injection h5 with h5;rw[<-h5];exact a b' rfl
 rw[h5];exact e
def leB(v n:N):E υ:=(List.range n).map λp=>b8 (v/2^(8*p)%256)
def Bq(v n:N):(leB v n).length=n:=by simp[leB]
def Uk(v n:N):leB v (n+1)=leB v n++[b8 (v/2^(8*n)%256)]:=by simp[leB,tA]
def AF(ns:E N)(n:N):E υ:=ns.flatMap λv=>leB v n
def CU(b:E N)(n:N):(AF b n).length=b.length*n:=by
 induction b with
 |nil=>simp[AF]
 |cons a r ih=>rw[AF,tc,qU,Bq,<-AF,ih,sB,Nat.succ_mul,uL]
def Xx(a:E N)(n i:N)(h:i<a.length):AF (a.take (i+1)) n=AF (a.take i) n++leB (a.getD i 0) n:=by
 rw[AF,AF,take_getD _ _ h,uq];simp
def mR(w:U)(g:N)(ns:E N):Prop:=DR w g 103 ns.length (λj=> I σ (ns.getD j 0:N))
def eo(S:N->Prop)(v:β)(l:E υ)(n:N)(hn:n<=4)(g:N)(a:E N)(cap:N)(c1:a.length<=8)(s: ∀x∈a,x<4294967296)(hl:l.length<=1000000)(w:U)(hF:Bs S w)(hv:Dh w S v l)(P:mR w g a):
 μ ψ 269 #[v,I Q n,K (J ⟨g,0,O⟩) a.length cap] w λr w' =>Ag S w w' /\∃v',r=ε v' /\Dh w' S v' (l++AF a n):=by
 obtain⟨i0,a5,a8,a9,b0⟩:=rN FU;have b7:=P.lt;have HB:χ (Dh w (λk=>S k/\k≠g) v l):=by obtain⟨b4,p,_⟩:=P;exact hv.but p Ac
 have HF:χ (Bs (λk=>S k/\k≠g) w):=λk hk=>⟨hF k hk,Aa⟩
 have HM:χ (∀w',Ag (λk=>S k/\k≠g) w w' -> ∀v' l',Dh w' (λk=>S k/\k≠g) v' l' ->Ag S w w' /\Dh w' S v' l'):=λw' ho v' l' h=>⟨ho.mono (λ_ _ h=>h.1),h.mono (λ_ h=>h.1)⟩
 have X:χ (¬(λk=>S k/\k≠g) g):=λh=>h.2 rfl
 have HG:=Af P;clear P hv hF;generalize(λk=>S k/\k≠g)=T at*;have V:χ (∀x∈a,x<4294967296):=s;clear s;go_in;go_wp2;go_loopw [0,8,9,12] (λu _ _ x wr=> ∃i:N,i<=a.length/\x=I Q i/\χ (Dh wr T u (l++AF (a.take i) n))/\χ (Ag T w wr)) (λ_ _ _ x _=>a.length- (intOf x).toNat)
 .exact ⟨0,Aa,rfl,by rw[tZ,show AF [] n=[] from rfl,sI];exact HB,Ag.refl _ w⟩
 obtain⟨i,hi,rfl,M,t⟩:=hrel;clear HB;by_cases c:i<a.length
 .have B:(i:Z)<(a.length:Z):=Aa;have hc:=(HG.kept (uh t) (uh X)).cell i c;have c2:a.getD i 0<4294967296:=by rw[qT,qY c];exact V _ (ro c)
  have a1:=Af (Xx a n i c);have W:χ ((AF (a.take i) n).length<=32):=by
   unfold χ;rw[CU,rY];have p:min i a.length<=8:=Aa;exact rz (tY p hn) Ac
  generalize a.getD i 0=x at*;generalize AF (a.take i) n=m at*;have b9:i<=8:=Aa;go_wp2;go_loopw [0,9,17] (λu2 _ y F=> ∃j:N,j<=n/\y=I Q j/\χ (Dh F T u2 (l++m++leB x j))/\χ (Ag T w F)) (λ_ _ y _=>n- (intOf y).toNat)
  .exact ⟨0,Aa,rfl,by rw[show leB x 0=[] from rfl,sI];exact M,t⟩
  obtain⟨j,hj,rfl,e,d⟩:=hrel;clear M t hc;by_cases b2:j<n
  .have C:(j:Z)<(n:Z):=Aa;have c0:=uh W;have HNJ:χ (l++m++leB x (j+1)=l++m++leB x j++[b8 (x/2^(8*j)%256)]):=by unfold χ;rw[Uk,rm (l++m)]
   have b5:(l++m++leB x j).length<=1000100:=by rw[qU,qU,Bq];omega
   have a3:x/2^(8*j)%256<256:=si _ Aa;have b6:(x:Z)/2^(8*j)%256=((x/2^(8*j)%256:N):Z):=by rw[uY,sR,so];rfl
   obtain⟨ao,cp,rfl,D,o⟩:=uh e;have hA:Al wr (wr.alloc (γ #[I .u8 ((x/2^(8*j)%256:N):Z)] 5)):=(Ag.refl _ wr).alloc _;generalize x/2^(8*j)%256=q at*;generalize l++m++leB x j=L at*;have a2:=Af (CL D hA);have a0:=Af (Fm (wr:=wr) (n:=q));have b3:=Af o;have R:=Af (λ(ao2:Option Addr) (cap2:N) (w3:U)=>Dh.more (w:=w) (w1:=wr.alloc (γ #[I .u8 (q:Z)] 5)) (w2:=w3) (l:=L) (bs:=[b8 q]) (ao:=ao) (ao2:=ao2) (cap:=cp) (cap2:=cap2) (H:=wr.heap.size+1) (HF _ (by have:=d.size;omega)) (d.transNew hA (λ_ _ x=>x.elim)) o);have a4:Ak [b8 q]=[I .u8 (q:Z)]:=by rw[Ak,sP,tB,AL a3]
   clear D o hA e;go_wp2_with (at_builtin;refine wpList_append_lies _ rfl (.tmp 20) (.tmp 26) 62 rfl 0 5 i0 (I .u8 0) 1 1 underlying62 a5 a8 a9 b0 rfl Aa (K ao L.length cp) L.length _ rfl (uh a2) ⟨wr.heap.size,0,O⟩ 1 1 [I .u8 (q:Z)] rfl rfl (uh a0) (by intro u hu;simp at hu;subst hu;rfl) Aa (by unfold maxLen;omega) Aa Aa (wr.heap.size+1) Ad ?_;intro g2 cap2 w3 f z A b1;rw[<-a4] at f;have HX:=Af (R (J ⟨g2,0,O⟩) cap2 w3 f z (λb s=>by injection s with s;subst s;exact A));clear f z A);exact aav
  have C:¬(j:Z)<(n:Z):=Aa;have a7:j=n:=Aa;subst a7;go_wp2;go_roundw
  .exact ⟨i+1,Aa,by go_num,by rw[uh a1,<-rm];exact e,d⟩
  exact Ae
 have B:¬(i:Z)<(a.length:Z):=Aa;have a6:i=a.length:=Aa;have hU:=uh M;rw[a6,sr] at hU;obtain⟨p,h2⟩:=HM _ (uh t) _ _ hU;have H1:=Af p;have H2:=Af h2;clear p h2 hU M t;go_wp2;go_ret;exact⟨H1,_,rfl,H2⟩
def sL(s:Y):E υ:=s.data.toList
def CF(s:Y):(sL s).length=s.size:=by rw[sL,sd];rfl
def Ul(s:Y):strCells s=Ak (sL s):=by simp[strCells,Ak,sL]
def ep(a b:Y):sL (a++b)=sL a++sL b:=by simp[sL,tf]
structure It where
 name:Y
 way:N
 check:N
 size:N
 packed:Y
abbrev It.v(i:It):φ β:= #[G i.name,I σ i.way,I σ i.check,I σ i.size,G i.packed]
def It.ok(i:It):Prop:=i.way<4294967296/\i.check<4294967296/\i.size<4294967296/\i.name.size<=60000/\i.packed.size<=200000
def Fv(w:U)(g:N)(i:It):Prop:=w.heap[g]? =J (γ i.v 131 (0,0))
def Fv.lt{w:U}{g:N}{i:It}(h:Fv w g i):g<w.heap.size:=(qW.1 h).1
def Fv.kept{w w' :U}{g:N}{i:It}{S:N->Prop}(h:Fv w g i)(a:Ag S w w')(b:¬S g):Fv w' g i:=(a.block g h.lt b).trans h
def Fv.cells{w:U}{g:N}{i:It}(h:Fv w g i):w.cell? ⟨g,0,O⟩=J (G i.name)/\w.cell? ⟨g,1,O⟩=J (I σ i.way)/\w.cell? ⟨g,2,O⟩=J (I σ i.check)/\w.cell? ⟨g,3,O⟩=J (I σ i.size)/\w.cell? ⟨g,4,O⟩=J (G i.packed):=by
 refine⟨?_, ?_, ?_, ?_, ?_⟩<;>(rw[qV w g _ _ _ (0,0) h];rfl)
def numV(ns:E N):φ β:=(ns.map λx:N=>Value.int σ (x:Z)).toArray
def Gk(S:N->Prop)(v:β)(l:E υ)(n:N)(o:n<=4)(a:E N)(m:N)(k:a.length=m)(b:m<=8)(f: ∀x∈a,x<4294967296)(i:l.length<=1000000)(w:U)(H:N)(e:w.heap.size=H)(d:Bs S w)(q:Dh w S v l):
 μ ψ 269 #[v,I Q n,K (J ⟨H,0,O⟩) m m] (w.alloc (γ (numV a) 103)) λr w' =>Ag S w w' /\∃v',r=ε v' /\Dh w' S v' (l++AF a n):=by
 subst k e;have c:Al w (w.alloc (γ (numV a) 103)):=(Ag.refl _ w).alloc _;refine(eo S v l n o w.heap.size a a.length b f i (w.alloc (γ (numV a) 103)) (d.mono Ad) (q.old c) ?_).mono ?_
 .refine DR.new w _ _ _ _ (by simp[numV]) (λj g=> ?_);simp only[numV,tq,tt,qT,qY g,uo,th]
 rintro r w' ⟨p,h⟩;exact⟨(Ag.oldS c).trans p,h⟩
def Dn(p:Y)(i:It):E υ:=AF [20,0,i.way,0,33] 2++AF [i.check,i.packed.size,i.size] 4++AF [p.size+i.name.size,0] 2
def El(p:Y)(i:It):(Dn p i).length=26:=by simp[Dn,CU]
def lF(S:N->Prop)(v:β)(l:E υ)(p:Y)(hp:p.size<=1000)(i:It)(hi:i.ok)(hl:l.length<=900000)(w:U)(M:Bs S w)(P:Dh w S v l):
 μ ψ 270 #[v,G p,.agg i.v] w λr w' =>Ag S w w' /\∃v',r=ε v' /\Dh w' S v' (l++Dn p i):=by
 obtain⟨h1,h2,h3,h4,h5⟩:=hi;have C:Al w (w.alloc (γ i.v 131)):=(Ag.refl _ w).alloc _;have s:χ (Fv (w.alloc (γ i.v 131)) w.heap.size i):=rh w _;have W:χ (Dh (w.alloc (γ i.v 131)) (λk=>S k/\k≠w.heap.size) v l):=(P.old C).but (uh s) Ac;have t:χ (Bs (λk=>S k/\k≠w.heap.size) (w.alloc (γ i.v 131))):=λk hk=>by rw[rr] at hk;exact⟨M k Aa,Aa⟩
 have X:χ (∀w',Ag (λk=>S k/\k≠w.heap.size) (w.alloc (γ i.v 131)) w' -> ∀v' D,Dh w' (λk=>S k/\k≠w.heap.size) v' D ->Ag S w w' /\Dh w' S v' D):=λw' ho v' D h=>⟨(Ag.oldS C).transNew ho (λ_ _ h=>h.1),h.mono (λ_ h=>h.1)⟩
 have g:χ (¬(λk=>S k/\k≠w.heap.size) w.heap.size):=λh=>h.2 rfl
 clear P M C;generalize(λk=>S k/\k≠w.heap.size)=T at*;obtain⟨z,c1,c2,A,B⟩:=s.cells;have HT:χ (l++Dn p i=l++AF [20,0,i.way,0,33] 2++AF [i.check,i.packed.size,i.size] 4++AF [p.size+i.name.size,0] 2):=by unfold χ Dn;simp only[rm]
 have u:χ ((l++AF [20,0,i.way,0,33] 2).length<=900010):=by unfold χ;rw[qU,CU];simp;omega
 have x:χ ((l++AF [20,0,i.way,0,33] 2++AF [i.check,i.packed.size,i.size] 4).length<=900030):=by unfold χ;rw[qU,qU,CU,CU];simp;omega
 obtain⟨nm,d,ck,e,pk⟩:=i;simp only[It.v] at*;have a0:IntKind.u32.wrap (pk.size:Z)=(pk.size:Z):=by rw[sG];omega
 have a1:IntKind.u32.wrap ((p.size:Z)+(nm.size:Z))=((p.size+nm.size:N):Z):=by rw[sG];omega
 have F:χ (μ ψ 269 #[v,I Q 2,K (J ⟨w.heap.size+1,0,O⟩) 5 5] ((w.alloc (γ #[G nm,I σ (d:Z),I σ (ck:Z),I σ (e:Z),G pk] 131)).alloc (γ #[I σ 20,I σ 0,I σ (d:Z),I σ 0,I σ 33] 103)) λr w' =>Ag T (w.alloc (γ #[G nm,I σ (d:Z),I σ (ck:Z),I σ (e:Z),G pk] 131)) w' /\∃v',r=ε v' /\Dh w' T v' (l++AF [20,0,d,0,33] 2)):=
  Gk T v l 2 Aa [20,0,d,0,33] 5 rfl Aa (by simp;omega) Aa _ (w.heap.size+1) (by rw[rr]) (uh t) (uh W)
 go_in;go_wp2_with fail;refine F.mono ?_;rintro r w1 ⟨a,R,rfl,n⟩;have y:=Af a;have b:=Af (s.kept a (uh g));have H:χ (μ ψ 269 #[R,I Q 4,K (J ⟨w1.heap.size,0,O⟩) 3 3] (w1.alloc (γ #[I σ (ck:Z),I σ (pk.size:Z),I σ (e:Z)] 103)) λr w' =>Ag T w1 w' /\∃v',r=ε v' /\Dh w' T v' (l++AF [20,0,d,0,33] 2++AF [ck,pk.size,e] 4)):=
  Gk T R _ 4 Aa [ck,pk.size,e] 3 rfl Aa (by simp;omega) (by have:=uh u;omega) w1 _ rfl (t.mono a.size) n
 obtain⟨d0,d1,d2,d3,d4⟩:=b.cells;clear F a n s z c1 c2 A B;go_wp2_with fail;refine H.mono ?_;rintro r w2 ⟨c,V,rfl,o⟩;have j:=Af (y.trans c);have f:=Af (b.kept c (uh g));have L:χ (μ ψ 269 #[V,I Q 2,K (J ⟨w2.heap.size,0,O⟩) 2 2] (w2.alloc (γ #[I σ ((p.size+nm.size:N):Z),I σ 0] 103)) λr w' =>Ag T w2 w' /\∃v',r=ε v' /\Dh w' T v' (l++AF [20,0,d,0,33] 2++AF [ck,pk.size,e] 4++AF [p.size+nm.size,0] 2)):=
  Gk T V _ 2 Aa [p.size+nm.size,0] 2 rfl Aa (by simp;omega) (by have:=uh x;omega) w2 _ rfl (t.mono j.size) o
 obtain⟨z,c1,c2,A,B⟩:=f.cells;clear H c o b d0 d1 d2 d3 d4;go_wp2_with fail;refine L.mono ?_;rintro r w3 ⟨m,v3,rfl,q⟩;have HX:=Af (X w3 (j.trans m) v3 _ q);clear L m q f z c1 c2 A B;go_wp2_with fail;exact abp
abbrev Iy:Y:=⟨#[80,75,3,4]⟩
abbrev JJ:Y:=⟨#[80,75,1,2]⟩
abbrev Gl:Y:=⟨#[80,75,5,6]⟩
def Dh.str{w1 w2:U}{S:N->Prop}{l:E υ}{ao ao2:Option Addr}{cap cap2:N}(c:Bs S w1)(s:Y)(a: ∀b:Addr,ao=J b->S b.block)
 (f:w2.ownsRow 0 5 1 (K ao2 (l.length+s.size) cap2) (l.length+s.size) (Ak l++strCells s))(d:w1.grownBy w2 (Value.slice ao l.length cap).ownBlock)(e: ∀b:Addr,ao2=J b->(Value.slice ao l.length cap).ownBlock=J b.block\/b.block=w1.heap.size):
 Ag S w1 w2/\Dh w2 S (K ao2 (l.length+s.size) cap2) (l++sL s):=by
 have h:=Dh.more (w:=w1) (w1:=w1) (w2:=w2) (l:=l) (bs:=sL s) (ao:=ao) (ao2:=ao2) (cap:=cap) (cap2:=cap2) (H:=w1.heap.size) (c _ (rj _)) (Ag.refl _ w1) a (by rw[CF,<-Ul];exact f) d e;rw[CF] at h;exact h
def Bg(p:Y)(i:It):E υ:=sL Iy++Dn p i++sL (p++i.name)++sL i.packed
def mS(S:N->Prop)(v:β)(l:E υ)(p:Y)(hp:p.size<=1000)(i:It)(P:i.ok)(hl:l.length<=600000)(w:U)(hF:Bs S w)(hv:Dh w S v l):
 μ ψ 170 #[v,G p,.agg i.v] w λr w' =>Ag S w w' /\∃v',r=ε v' /\Dh w' S v' (l++Bg p i):=by
 obtain⟨i0,C,H,L,M⟩:=rN FU;have HK:=Af P;have hA:Al w (w.alloc (γ i.v 131)):=(Ag.refl _ w).alloc _;have HI:χ (Fv (w.alloc (γ i.v 131)) w.heap.size i):=rh w _;have HB:χ (Dh (w.alloc (γ i.v 131)) (λk=>S k/\k≠w.heap.size) v l):=(hv.old hA).but (uh HI) Ac;have HF:χ (Bs (λk=>S k/\k≠w.heap.size) (w.alloc (γ i.v 131))):=λk hk=>by rw[rr] at hk;exact⟨hF k Aa,Aa⟩
 have HM:χ (∀w',Ag (λk=>S k/\k≠w.heap.size) (w.alloc (γ i.v 131)) w' -> ∀v' l',Dh w' (λk=>S k/\k≠w.heap.size) v' l' ->Ag S w w' /\Dh w' S v' l'):=λw' ho v' l' h=>⟨(Ag.oldS hA).transNew ho (λ_ _ h=>h.1),h.mono (λ_ h=>h.1)⟩
 have u:χ (¬(λk=>S k/\k≠w.heap.size) w.heap.size):=λh=>h.2 rfl
 have HT:χ (l++Bg p i=l++sL Iy++Dn p i++sL (p++i.name)++sL i.packed):=by unfold χ Bg;simp only[rm]
 clear hv hF hA;generalize(λk=>S k/\k≠w.heap.size)=T at*;have W:χ ((l++sL Iy).length<=600010):=by unfold χ;rw[qU,CF];simp[ByteArray.size];omega
 have X:χ ((l++sL Iy++Dn p i).length<=600050):=by unfold χ;rw[qU,El];have:=uh W;omega
 have b7:χ ((l++sL Iy++Dn p i++sL (p++i.name)).length<=700000):=by unfold χ;rw[qU,CF,rg];have:=uh X;have:=P.2.2.2.1;omega
 have d8:¬9223372036854775807<p.size+i.name.size:=by have:=P.2.2.2.1;omega
 have e8:i.packed.size<=200000:=P.2.2.2.2;have e7:(p++i.name).size<=61000:=by rw[rg];have:=P.2.2.2.1;omega
 clear P;have H2:=Af (λ(w1:U) (v1:β) (c7:Bs T w1) (d5:Dh w1 T v1 (l++sL Iy))=>lF T v1 (l++sL Iy) p hp i (uh HK) (by have:=uh W;omega) w1 c7 d5);generalize Dn p i=tl at*;obtain⟨nm,wy,ck,sz,pk⟩:=i;simp only[It.v] at*;obtain⟨ao,cp,rfl,b3,b4⟩:=uh HB;have a1:=Af b3;have a3:=Af (λao2 cap2 w2=>Dh.str (w2:=w2) (ao2:=ao2) (cap2:=cap2) (uh HF) Iy b4 (l:=l) (cap:=cp));clear b3 b4 HB;have e6:Iy.size=4:=rfl;have c8:=HI.cells;obtain⟨c0,c1,c2,c3,c4⟩:=c8;go_in;go_upto_region 2 with(at_builtin;refine BW rfl (.tmp 7) (.const (G Iy)) 62 9 rfl 0 5 i0 (I .u8 0) underlying62 underlying9 C H L M rfl (K ao l.length cp) l.length _ rfl (uh a1) Iy rfl (by unfold maxLen;omega) Aa Aa ?_;intro ao2 cap2 w2 b a7 b0;have y:=Af (a3 ao2 cap2 w2 b a7 b0);clear b a7 b0);have b:=y.1;have x:=Af b;have s:=Af (HI.kept b (uh u));have R:=Af (H2 w2 _ (HF.mono b.size) y.2);obtain⟨d0,d1,d2,d3,d4⟩:=s.cells;clear b y HI a1 a3 c0 c1 c2 c3 c4 H2;go_wp2_with fail;refine R.mono ?_;rintro r w3 ⟨f,v3,rfl,d6⟩;have t:=Af (s.kept f (uh u));have V:=Af (HF.mono (rz x.size f.size));have a0:=Af (x.trans f);obtain⟨c6,a5,rfl,m,o⟩:=d6;have g:=Af m;have j:=Af (λe a w4=>Dh.str (w2:=w4) (ao2:=e) (cap2:=a) (uh V) (p++nm) o (l:=l++sL Iy++tl) (cap:=a5));obtain⟨c0,c1,c2,c3,c4⟩:=t.cells;clear R f m o s d0 d1 d2 d3 d4 x;have e5:=uh X;have b9:=Af (uh b7);generalize l++sL Iy++tl=l3 at*;obtain⟨N5,a6⟩: ∃d9,l3.length+(p++nm).size=d9:=⟨_,rfl⟩;go_upto_region 4 with(at_builtin;refine BW rfl (.tmp 13) (.tmp 17) 62 9 rfl 0 5 i0 (I .u8 0) underlying62 underlying9 C H L M rfl (K c6 l3.length a5) l3.length _ rfl (uh g) (p++nm) rfl (by unfold maxLen;omega) Aa Aa ?_;intro e a w4 c a8 D;have F:=j e a w4 c a8 D;rw[a6] at F ⊢;have z:=Af F;clear c a8 D F);have c:=z.1;have d7:=z.2;have b6:=Af (t.kept c (uh u));have b5:=Af (V.mono c.size);have c5:=Af (a0.trans c);have D:=uh b9;obtain⟨e0,e4,c9,n,q⟩:=d7;injection c9 with e1 e2 e3;clear a6;subst e1 e2 e3;have a2:=Af n;have a4:=Af (λB d w6=>Dh.str (w2:=w6) (ao2:=B) (cap2:=d) (uh b5) pk q (l:=l3++sL (p++nm)) (cap:=a));obtain⟨d0,d1,d2,d3,d4⟩:=b6.cells;clear c n q z t c0 c1 c2 c3 c4 a0 g j;generalize l3++sL (p++nm)=l5 at*;go_wp2_with (at_builtin;refine BW rfl (.tmp 19) (.tmp 21) 62 9 rfl 0 5 i0 (I .u8 0) underlying62 underlying9 C H L M rfl (K e l5.length a) l5.length _ rfl (uh a2) pk rfl (by unfold maxLen;omega) Aa Aa ?_;intro B d w6 b2 a9 b1;have A:=Af (a4 B d w6 b2 a9 b1);clear b2 a9 b1);have HX:=Af (HM w6 (c5.trans A.1) _ _ A.2);clear A;exact abp
def Bt(p:Y)(i:It)(a:N):E υ:=sL JJ++AF [20] 2++Dn p i++AF [0,0,0] 2++AF [0,a] 4++sL (p++i.name)
def eu(S:N->Prop)(v:β)(l:E υ)(p:Y)(hp:p.size<=1000)(i:It)(hi:i.ok)(a:N)(ha:a<4294967296)(hl:l.length<=600000)(w:U)(hF:Bs S w)(hv:Dh w S v l):
 μ ψ 169 #[v,G p,.agg i.v,I Q a] w λr w' =>Ag S w w' /\∃v',r=ε v' /\Dh w' S v' (l++Bt p i a):=by
 obtain⟨i0,a9,c5,c6,c7⟩:=rN FU;have HK:=Af hi;have hA:Al w (w.alloc (γ i.v 131)):=(Ag.refl _ w).alloc _;have HI:χ (Fv (w.alloc (γ i.v 131)) w.heap.size i):=rh w _;have HB:χ (Dh (w.alloc (γ i.v 131)) (λk=>S k/\k≠w.heap.size) v l):=(hv.old hA).but (uh HI) Ac;have HF:χ (Bs (λk=>S k/\k≠w.heap.size) (w.alloc (γ i.v 131))):=λk hk=>by rw[rr] at hk;exact⟨hF k Aa,Aa⟩
 have HM:χ (∀w',Ag (λk=>S k/\k≠w.heap.size) (w.alloc (γ i.v 131)) w' -> ∀v' l',Dh w' (λk=>S k/\k≠w.heap.size) v' l' ->Ag S w w' /\Dh w' S v' l'):=λw' ho v' l' h=>⟨(Ag.oldS hA).transNew ho (λ_ _ h=>h.1),h.mono (λ_ h=>h.1)⟩
 have c:χ (¬(λk=>S k/\k≠w.heap.size) w.heap.size):=λh=>h.2 rfl
 have HT:χ (l++Bt p i a=l++sL JJ++AF [20] 2++Dn p i++AF [0,0,0] 2++AF [0,a] 4++sL (p++i.name)):=by unfold χ Bt;simp only[rm]
 clear hv hF hA;generalize(λk=>S k/\k≠w.heap.size)=T at*;have D:χ ((l++sL JJ).length<=600010):=by unfold χ;rw[qU,CF];simp[ByteArray.size];omega
 have F:χ ((l++sL JJ++AF [20] 2).length<=600020):=by unfold χ;rw[qU,CU];have:=uh D;simp at*;omega
 have H:χ ((l++sL JJ++AF [20] 2++Dn p i).length<=600060):=by unfold χ;rw[qU,El];have:=uh F;omega
 have L:χ ((l++sL JJ++AF [20] 2++Dn p i++AF [0,0,0] 2).length<=600080):=by unfold χ;rw[qU,CU];have:=uh H;simp only[sB,vu] at*;omega
 have d5:χ ((l++sL JJ++AF [20] 2++Dn p i++AF [0,0,0] 2++AF [0,a] 4).length<=600100):=by unfold χ;rw[qU,CU];have:=uh L;simp only[sB,vu] at*;omega
 have e4:¬9223372036854775807<p.size+i.name.size:=by have:=hi.2.2.2.1;omega
 have e7:(p++i.name).size<=61000:=by rw[rg];have:=hi.2.2.2.1;omega
 clear hi;have H2:=Af (λ(w1:U) (v1:β) (e0:Bs T w1) (e2:Dh w1 T v1 (l++sL JJ++AF [20] 2))=>lF T v1 (l++sL JJ++AF [20] 2) p hp i (uh HK) (by have:=uh F;omega) w1 e0 e2);generalize Dn p i=tl at*;obtain⟨nm,wy,ck,sz,pk⟩:=i;simp only[It.v] at*;obtain⟨ao,cp,rfl,b3,b4⟩:=uh HB;have a0:=Af b3;have a2:=Af (λao2 cap2 w2=>Dh.str (w2:=w2) (ao2:=ao2) (cap2:=cap2) (uh HF) JJ b4 (l:=l) (cap:=cp));clear b3 b4 HB;have e6:JJ.size=4:=rfl;have e1:=HI.cells;obtain⟨c0,c1,c2,c3,c4⟩:=e1;go_in;go_upto_region 2 with(at_builtin;refine BW rfl (.tmp 9) (.const (G JJ)) 62 9 rfl 0 5 i0 (I .u8 0) underlying62 underlying9 a9 c5 c6 c7 rfl (K ao l.length cp) l.length _ rfl (uh a0) JJ rfl (by unfold maxLen;omega) Aa Aa ?_;intro ao2 cap2 w2 b a7 b0;have u:=Af (a2 ao2 cap2 w2 b a7 b0);clear b a7 b0);have b:=u.1;have t:=Af b;have A:=Af (HI.kept b (uh c));have M:χ (μ ψ 269 #[K ao2 (l.length+JJ.size) cap2,I Q 2,K (J ⟨w2.heap.size,0,O⟩) 1 1] (w2.alloc (γ #[I σ 20] 103)) λr w' =>Ag T w2 w' /\∃v',r=ε v' /\Dh w' T v' (l++sL JJ++AF [20] 2)):=
  Gk T _ _ 2 Aa [20] 1 rfl Aa Ad (by have:=uh D;omega) w2 _ rfl (HF.mono b.size) u.2
 clear b u HI a0 a2 c0 c1 c2 c3 c4;go_wp2_with fail;refine M.mono ?_;rintro r w3 ⟨d,v3,rfl,b5⟩;have s:=Af (A.kept d (uh c));have n:=Af (HF.mono (rz t.size d.size));have V:=Af (t.trans d);have z:=Af (H2 w3 _ (uh n) b5);obtain⟨d0,d1,d2,d3,d4⟩:=s.cells;clear M d b5 A t H2;go_wp2_with fail;refine z.mono ?_;rintro r y ⟨e,v4,rfl,b6⟩;have B:=Af (s.kept e (uh c));have o:=Af (n.mono e.size);have W:=Af (V.trans e);have P:χ (μ ψ 269 #[v4,I Q 2,K (J ⟨y.heap.size,0,O⟩) 3 3] (y.alloc (γ #[I σ 0,I σ 0,I σ 0] 103)) λr w' =>Ag T y w' /\∃v',r=ε v' /\Dh w' T v' (l++sL JJ++AF [20] 2++tl++AF [0,0,0] 2)):=
  Gk T _ _ 2 Aa [0,0,0] 3 rfl Aa Ad (by have:=uh H;omega) y _ rfl (uh o) b6
 clear z e b6 s V n d0 d1 d2 d3 d4;go_wp2_with fail;refine P.mono ?_;rintro r w5 ⟨f,v5,rfl,b7⟩;have C:=Af (B.kept f (uh c));have q:=Af (o.mono f.size);have X:=Af (W.trans f);have R:χ (μ ψ 269 #[v5,I Q 4,K (J ⟨w5.heap.size,0,O⟩) 2 2] (w5.alloc (γ #[I σ 0,I σ (a:Z)] 103)) λr w' =>Ag T w5 w' /\∃v',r=ε v' /\Dh w' T v' (l++sL JJ++AF [20] 2++tl++AF [0,0,0] 2++AF [0,a] 4)):=
  Gk T _ _ 4 Aa [0,a] 2 rfl Aa (by simp;omega) (by have:=uh L;omega) w5 _ rfl (uh q) b7
 have e8:IntKind.u32.wrap (a:Z)=(a:Z):=by rw[sG];omega
 clear P f b7 B W o;go_wp2_with fail;refine R.mono ?_;rintro r w6 ⟨g,v6,rfl,e3⟩;have c9:=Af (C.kept g (uh c));have c8:=Af (q.mono g.size);have d6:=Af (X.trans g);obtain⟨d8,a6,rfl,j,m⟩:=e3;have e5:=uh d5;have a1:=Af j;have a3:=Af (λd7 a4 y=>Dh.str (w2:=y) (ao2:=d7) (cap2:=a4) (uh c8) (p++nm) m (l:=l++sL JJ++AF [20] 2++tl++AF [0,0,0] 2++AF [0,a] 4) (cap:=a6));obtain⟨c0,c1,c2,c3,c4⟩:=c9.cells;clear R g j m C X q;generalize l++sL JJ++AF [20] 2++tl++AF [0,0,0] 2++AF [0,a] 4=l7 at*;go_wp2_with (at_builtin;refine BW rfl (.tmp 26) (.tmp 30) 62 9 rfl 0 5 i0 (I .u8 0) underlying62 underlying9 a9 c5 c6 c7 rfl (K d8 l7.length a6) l7.length _ rfl (uh a1) (p++nm) rfl (by unfold maxLen;omega) Aa Aa ?_;intro d9 a5 w8 b2 a8 b1;have x:=Af (a3 d9 a5 w8 b2 a8 b1);clear b2 a8 b1);have HX:=Af (HM w8 (d6.trans x.1) _ _ x.2);clear x;go_ret;have b9:=HX.2;rw[rg] at b9;exact⟨HX.1,_,rfl,by rw[uh HT];exact b9⟩
def endL(c size a:N):E υ:=sL Gl++AF [0,0,c,c] 2++AF [size,a] 4++AF [0] 2
def pi(S:N->Prop)(v:β)(l:E υ)(c b a:N)(hc:c<4294967296)(a1:b<4294967296)(ha:a<4294967296)(hl:l.length<=900000)(w:U)(P:Bs S w)(hv:Dh w S v l):
 μ ψ 171 #[v,I Q c,I Q b,I Q a] w λr w' =>Ag S w w' /\∃v',r=ε v' /\Dh w' S v' (l++endL c b a):=by
 obtain⟨i0,R,T,V,W⟩:=rN FU;have HT:χ (l++endL c b a=l++sL Gl++AF [0,0,c,c] 2++AF [b,a] 4++AF [0] 2):=by unfold χ endL;simp only[rm]
 have h:χ ((l++sL Gl).length<=900010):=by unfold χ;rw[qU,CF];simp[ByteArray.size];omega
 have i:χ ((l++sL Gl++AF [0,0,c,c] 2).length<=900020):=by unfold χ;rw[qU,CU];have:=uh h;simp only[sB,vu] at*;omega
 have H:χ ((l++sL Gl++AF [0,0,c,c] 2++AF [b,a] 4).length<=900030):=by unfold χ;rw[qU,CU];have:=uh i;simp only[sB,vu] at*;omega
 obtain⟨ao,X,rfl,y,z⟩:=hv;have F:=Af P;have n:=Af y;have o:=Af (λao2 cap2 w2=>Dh.str (w2:=w2) (ao2:=ao2) (cap2:=cap2) P Gl z (l:=l) (cap:=X));have a0:Gl.size=4:=rfl;have a3:IntKind.u32.wrap (c:Z)=(c:Z):=by rw[sG];omega
 have a2:IntKind.u32.wrap (a:Z)=(a:Z):=by rw[sG];omega
 have a4:IntKind.u32.wrap (b:Z)=(b:Z):=by rw[sG];omega
 clear y z P;go_in;go_upto_region 2 with(at_builtin;refine BW rfl (.tmp 9) (.const (G Gl)) 62 9 rfl 0 5 i0 (I .u8 0) underlying62 underlying9 R T V W rfl (K ao l.length X) l.length _ rfl (uh n) Gl rfl (by unfold maxLen;omega) Aa Aa ?_;intro ao2 cap2 w2 s p q;have g:=Af (o ao2 cap2 w2 s p q);clear s p q);have d:=Af g.1;have j:χ (μ ψ 269 #[K ao2 (l.length+Gl.size) cap2,I Q 2,K (J ⟨w2.heap.size,0,O⟩) 4 4] (w2.alloc (γ #[I σ 0,I σ 0,I σ (c:Z),I σ (c:Z)] 103)) λr w' =>Ag S w2 w' /\∃v',r=ε v' /\Dh w' S v' (l++sL Gl++AF [0,0,c,c] 2)):=
  Gk S _ _ 2 Aa [0,0,c,c] 4 rfl Aa (by simp;omega) (by have:=uh h;omega) w2 _ rfl (F.mono d.size) g.2
 clear g n o;go_wp2_with fail;refine j.mono ?_;rintro r w3 ⟨t,v3,rfl,A⟩;have e:=Af (d.trans t);have k:χ (μ ψ 269 #[v3,I Q 4,K (J ⟨w3.heap.size,0,O⟩) 2 2] (w3.alloc (γ #[I σ (b:Z),I σ (a:Z)] 103)) λr w' =>Ag S w3 w' /\∃v',r=ε v' /\Dh w' S v' (l++sL Gl++AF [0,0,c,c] 2++AF [b,a] 4)):=
  Gk S _ _ 4 Aa [b,a] 2 rfl Aa (by simp;omega) (by have:=uh i;omega) w3 _ rfl (F.mono e.size) A
 clear j t A d;go_wp2_with fail;refine k.mono ?_;rintro r D ⟨u,v4,rfl,B⟩;have f:=Af (e.trans u);have m:χ (μ ψ 269 #[v4,I Q 2,K (J ⟨D.heap.size,0,O⟩) 1 1] (D.alloc (γ #[I σ 0] 103)) λr w' =>Ag S D w' /\∃v',r=ε v' /\Dh w' S v' (l++sL Gl++AF [0,0,c,c] 2++AF [b,a] 4++AF [0] 2)):=
  Gk S _ _ 2 Aa [0] 1 rfl Aa Ad (by have:=uh H;omega) D _ rfl (F.mono f.size) B
 clear k u B e;go_wp2_with fail;refine m.mono ?_;rintro r w5 ⟨x,v5,rfl,C⟩;have L:=Af (f.trans x);have M:=Af C;clear m x C f;go_wp2;go_ret;exact⟨L,_,rfl,by rw[uh HT];exact M⟩
def BG:It:=⟨⟨#[]⟩,0,0,0,⟨#[]⟩⟩
def AM(p:Y)(its:E It):E υ:=its.flatMap (Bg p)
def AW(p:Y)(its:E It)(n:N):E υ:=(List.range n).flatMap λj=>Bt p (its.getD j BG) (AM p (its.take j)).length
def BE(p:Y)(its:E It):E υ:=AM p its++AW p its its.length++endL its.length (AW p its its.length).length (AM p its).length
def It.take_getD(its:E It)(i:N)(h:i<its.length):its.take (i+1)=its.take i++[its.getD i BG]:=by
 rw[tu,qY h,qT,qY h];rfl
def Jp(p:Y)(its:E It)(i:N)(h:i<its.length):AM p (its.take (i+1))=AM p (its.take i)++Bg p (its.getD i BG):=by
 rw[It.take_getD its i h,AM,AM,uq];simp
def Cq(p:Y)(its:E It)(i:N):AW p its (i+1)=AW p its i++Bt p (its.getD i BG) (AM p (its.take i)).length:=by
 rw[AW,AW,tA,uq];simp
def ev(p:Y)(its:E It)(i:N):(AM p (its.take i)).length<=(AM p its).length:=by
 conv=>rhs;rw[<-ue i its]
 rw[AM,AM,uq,qU];omega
def MG(p:Y)(its:E It)(i n:N)(h:i<=n):(AW p its i).length<=(AW p its n).length:=by
 obtain⟨k,rfl⟩:=Nat.exists_eq_add_of_le h;induction k with
 |zero=>exact rj _
 |succ k ih=>rw[<-sM,Cq,qU];exact rz (ih Aa) Aa
def CX(its:E It):E β:=its.flatMap λi=>i.v.toList
def Um(its:E It):(CX its).length=its.length*5:=by
 induction its with
 |nil=>rfl
 |cons a r ih=>rw[CX,tc,qU,<-CX,ih,sB];simp;omega
def Un(its:E It)(j c:N)(b:j<its.length)(d:c<5):(CX its)[j*5+c]? =(its.getD j BG).v[c]? :=by
 induction its generalizing j with
 |nil=>simp at b
 |cons a r ih=>
  rw[CX,tc];cases j with
  |zero=>rw[yr,rx,rM (by simp;omega)];simp
  |succ j=>
   rw[rE (by simp;omega),<-CX,show(j+1)*5+c- a.v.toList.length=j*5+c by simp;omega,ih j (by simpa using b)];simp
def DO(w:U)(B:N->Prop)(v:β)(its:E It):Prop:=w.ownsRow 0 131 5 v its.length (CX its)/\∀b,v.ownBlock=J b->B b
def DO.slice{w:U}{B:N->Prop}{v:β}{its:E It}(h:DO w B v its)(o:0<its.length): ∃g cap,v=K (J ⟨g,0,O⟩) its.length cap/\B g/\∃a,w.heap[g]? =J (γ a 131 (0,0))/\∀j,j<its.length-> ∀c,c<5->w.cell? ⟨g,j*5+c,O⟩=(its.getD j BG).v[c]? :=by
 obtain⟨⟨m,⟨rfl,p⟩|⟨g,cap,a,rfl,f,e,n⟩⟩,i⟩:=h
 .omega
 refine⟨g,cap,rfl,i g rfl,a,e,λj l c k=> ?_⟩;have d:=ur (w:=w) ⟨m,.inr ⟨g,cap,a,rfl,f,e,n⟩⟩ (g:=g) rfl;rw[<-Un its j c l k];have b:j*5+c<(CX its).length:=by rw[Um];omega
 have:=d (j*5+c) _ (qY b);rw[qY b];exact aag
def QV{S:N->Prop}{w w' :U}{e:ν}{v:β}{n k:N}{i:E β}(h:w.ownsRow 0 e k v n i)(l:Ag S w w')(m: ∀b,v.ownBlock=J b->¬S b):w'.ownsRow 0 e k v n i:=by
 obtain⟨f,h|⟨g,c,a,rfl,j,d,r⟩⟩:=h
 .exact ⟨f,.inl h⟩
 exact⟨f,.inr ⟨g,c,a,rfl,j,(l.block g (qW.1 d).1 (m g rfl)).trans d,r⟩⟩
def DO.kept{w w' :U}{B S:N->Prop}{v:β}{its:E It}(h:DO w B v its)(c:Ag S w w')(d: ∀k,B k->¬S k):DO w' B v its:=⟨QV h.1 c (λb a=>d b (h.2 b a)),h.2⟩
def jH(w wr:U)(u5 u6:β)(l5 l6:E υ):Prop:=
 Al w wr/\∃B5 B6:N->Prop,(∀k,B5 k->¬B6 k)/\(∀k,B5 k->w.heap.size<=k/\k<wr.heap.size)/\(∀k,B6 k->w.heap.size<=k/\k<wr.heap.size)/\Dh wr B5 u5 l5/\Dh wr B6 u6 l6
def jH.next6{w wr W:U}{r s:β}{p q:E υ}(h:jH w wr r s p q)(d:Al wr W): ∃S:N->Prop,Bs S W/\Dh W S s q/\(∀k,wr.heap.size<=k->k<W.heap.size->¬S k)/\∀w' v' m,Ag S W w' ->Dh w' S v' m ->jH w w' r v' p m :=by
 obtain⟨j,t,n,o,c,e,g,i⟩:=h;have v:=d.size;refine⟨λk=>n k\/W.heap.size<=k,λk a=> .inr a,(i.old d).mono (λ_ h=> .inl h),λk a u h=> ?_,λw' v' m l x=> ?_⟩
 .rcases h with h|h
  .have:=e k h;omega
  omega
 refine⟨(Ag.trans j d).transNew l (λk a h=> ?_),t,λk=>(n k\/W.heap.size<=k)/\k<w'.heap.size,λk b f => ?_,λk a=>⟨(c k a).1,by have:=(c k a).2;have:=l.size;omega⟩,λk a=>⟨?_,a.2⟩,(g.old d).kept l (λk a h=> ?_),x.lt⟩
 .rcases h with h|h
  .have:=e k h;omega
  have:=j.size;omega
 .rcases f.1 with h|h
  .exact o k b h
  have:=c k b;omega
 .rcases a.1 with h|h
  .exact (e k h).1
  have:=j.size;omega
 rcases h with h|h
 .exact o k a h
 have:=c k a;omega
def jH.slices{w wr:U}{g i:β}{e f:E υ}(h:jH w wr g i e f):(∃a c,g=K a e.length c)/\∃a c,i=K a f.length c:=by
 obtain⟨_,_,_,_,_,_,⟨a,c,h,_⟩,b,d,k,_⟩:=h;exact⟨⟨a,c,h⟩,b,d,k⟩
def jH.swap{w wr:U}{g i:β}{e f:E υ}(h:jH w wr g i e f):jH w wr i g f e:=by
 obtain⟨p,j,l,o,m,n,c,d⟩:=h;exact⟨p,l,j,λk b a =>o k a b,n,m,d,c⟩
