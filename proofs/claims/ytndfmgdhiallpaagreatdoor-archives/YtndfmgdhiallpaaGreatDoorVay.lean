import Derived.Test.YtndfmgdhiallpaaGreatDoorVaq
import Derived.Test.YtndfmgdhiallpaaGreatDoorVax
set_option linter.all false
set_option maxRecDepth 100000
set_option maxHeartbeats 4000000
open _root_ renaming Option.some->J,Option.none->O,Int->Z,Nat->N,Go.Value.int->I,Go.Value.string->G,Go.IntKind.i64->Q,ByteArray->Y,List->E,Go.World->U,Go.Value.slice->K,Go.Value->β,Go.Obj.cells->γ,Go.Value.pointer->δ,Go.Ending.returned->ε,Go.Value.bool->ζ,Go.Value.tuple->η,Bool.true->θ,Bool.false->ι,Go.Calls->μ,Go.IntKind.u32->σ,UInt8->υ,Go.RowKit.Hid->χ,Go.Proofs.Tryz.prog->ψ,Decidable.decide->Γ
namespace Go.Proofs.YtndfmgdhiallpaaGreatDoor
open Go.RowKit Go.Maps Go.Proofs.Tryz
def jX(i cap:N)(T:E Bw)(o:T.length<=200)(l: ∀e∈T,e.nm.size<=2000000)(g:jW T)(d:(Eg (Aw T) T).fs.Pairwise (λa b=>a.1≠b.1))(w:U)(k:Cb w)(m:EJ w i T)(f:i<w.heap.size):
 μ ψ 25 #[K (J ⟨i,0,O⟩) T.length cap] w λr w' => ∃v u c,r=ε (η #[v,u,I Q 0])/\Al w w' /\c.Perm (Eg (Aw T) T).fs/\c.Pairwise (λa b=>a.1.data.toList<b.1.data.toList)/\Au w' v c /\Bv w' u (Eg (Aw T) T).lf/\(∀b,v.ownBlock=J b->w.heap.size<=b)/\(∀b,u.ownBlock=J b->w.heap.size<=b):=by
 have j:=Af (fw i cap T o l g d w k m f);clear l g d k m f;go_in;go_wp2_with fail;refine j.mono ?_;rintro e w1 ⟨v,u,c,rfl,h⟩;have n:=Af h;clear h j;go_wp2_with fail;go_ret3;exact⟨v,u,c,rfl,n⟩
def bD(w:U):μ ψ 78 #[K O 0 0] w λr w' =>r=ε (.map (J w.heap.size))/\w' =w.alloc (.map #[] 0):=by
 have a:= @vL ψ;go_in;go_wp2_with fail;clear a;go_loopw [5,9] (λ_ x wr=>x=I Q 0/\wr=w.alloc (.map #[] 0)) (λ_ _ _=>0)
 .exact ⟨rfl,rfl⟩
 obtain⟨rfl,rfl⟩:=hrel;exact yU
def jY(c cap:N)(T:E Bw)(o:T.length<=200)(j: ∀e∈T,e.nm.size<=2000000)(m k:N)(d:m<T.length)(b: ∀i,i<m->BM (Aw T) (T.getD i AA)=0->Dp (Eg (Aw T) (T.take i)) (T.getD i AA)=0)(n:BM (Aw T) (T.getD m AA)=0)(f:Dp (Eg (Aw T) (T.take m)) (T.getD m AA)=k)(h0:k≠0)(w:U)(g:Cb w)(l:EJ w c T)(a:c<w.heap.size):
 μ ψ 25 #[K (J ⟨c,0,O⟩) T.length cap] w λr w' =>r=ε (η #[K O 0 0,K O 0 0,I Q (k:Z)])/\Al w w' :=by
 have H1:=Af (fA c cap T o j m k d b n f h0 w g l a);clear j b g l a n f;exact Hq
def XR(a cap n:N)(b:200<n)(w:U):
 μ ψ 25 #[K (J ⟨a,0,O⟩) n cap] w λr w' =>r=ε (η #[K O 0 0,K O 0 0,I Q 6])/\Al w w' :=by
 have H1:=Af (Rl a cap n b w);exact Hq
def UI(w:U):μ ψ 44 #[K O 0 0] w λr w' =>r=ε (η #[K O 0 0,K O 0 0,I Q 0])/\Al w w' :=by
 have i:= @vL ψ;have j:=Af (bD w);have b:χ (Al w (w.alloc (.map #[] 0))):=(Ag.refl _ w).alloc _;go_in;go_wp2_with fail;refine j.mono ?_;rintro e w1 ⟨rfl,rfl⟩;generalize w.alloc (.map #[] 0)=w1 at*;have c:χ (Al w1 ((w1.alloc (.map #[] 0)).alloc (γ #[K O 0 0,.map (J w1.heap.size),I Q 0] Zi))):=((Ag.refl _ w1).alloc _).trans ((Ag.refl _ _).alloc _);have f:χ (((w1.alloc (.map #[] 0)).alloc (γ #[K O 0 0,.map (J w1.heap.size),I Q 0] Zi)).heap[w1.heap.size+1]? =J (γ #[K O 0 0,.map (J w1.heap.size),I Q 0] Zi (0,0))):=by
  have h:=rh (w1.alloc (.map #[] 0)) (γ #[K O 0 0,.map (J w1.heap.size),I Q 0] Zi);rw[rr] at h;exact h
 clear j;go_wp2_with fail;clear i;go_loopw [7,9,10,11,21] (λu _ _ _ x wr=>u=K O 0 0/\x=I Q 0/\wr=(w1.alloc (.map #[] 0)).alloc (γ #[K O 0 0,.map (J w1.heap.size),I Q 0] Zi)) (λ_ _ _ _ _ _=>0)
 .exact ⟨rfl,rfl,rfl⟩
 obtain⟨rfl,rfl,rfl⟩:=hrel;have n:=Af (b.trans (uh c));generalize(w1.alloc (.map #[] 0)).alloc (γ #[K O 0 0,.map (J w1.heap.size),I Q 0] Zi)=W at*;have d:W.cell? ⟨w1.heap.size+1,0,O⟩=J (K O 0 0):=by rw[qV W _ 0 _ _ (0,0) (uh f)];rfl
 have m:χ (w1.heap.size+1<W.heap.size):=(qW.1 (uh f)).1;have l:=Af (lI (K O 0 0) [] Ad tH W (rF _ _ _ _));clear b c f;go_wp2_with fail;refine l.mono ?_;rintro e o ⟨rfl,_,_,_,_,a⟩;have q:o.cell? ⟨w1.heap.size+1,0,O⟩=J (K O 0 0):=(a.cell (p:=⟨w1.heap.size+1,0,O⟩) (uh m) (λe=>by cases e)).trans d;have g:χ (Al w o):=n.trans (a.mono (λk _ e=>by cases e));clear l a d n m;go_wp2_with fail;go_ret3;exact⟨rfl,g⟩
def bE(w:U):μ ψ 25 #[K O 0 0] w λr w' =>r=ε (η #[K O 0 0,K O 0 0,I Q 0])/\Al w w' :=by
 have H1:=Af (UI w);exact Hq
def FQ(s:Y)(c:N):N->E Y×N
 |0=>([],0)
 |i+1=>if As s i=c then((FQ s c i).1++[s.extract (FQ s c i).2 i],i+1) else FQ s c i
def Ay(s:Y)(c:N):E Y:=(FQ s c s.size).1++[s.extract (FQ s c s.size).2 s.size]
def SG(s:Y)(c i:N):(FQ s c i).2<=i/\(FQ s c i).1.length<=i:=by
 induction i with
 |zero=>exact⟨rj _,rj _⟩
 |succ i ih=>
  rw[FQ];split
  .exact ⟨rj _,by simp;omega⟩
  exact⟨Aa,Aa⟩
def LT(s:Y)(c i:N)(h:As s i=c):FQ s c (i+1)=((FQ s c i).1++[s.extract (FQ s c i).2 i],i+1):=rd h
def JW(s:Y)(c i:N)(h:As s i≠c):FQ s c (i+1)=FQ s c i:=rc h
def Db(s:Y)(c:N):(Ay s c).length<=s.size+1:=by
 have:=(SG s c s.size).2;simp[Ay];omega
def IB(s:Y)(c:N)(hs:s.size<=2000000)(w:U):μ ψ 206 #[G s,I .u8 (c:Z)] w λr w' => ∃v,r=ε v/\Fj w w' v (Ay s c)/\Al w w' :=by
 obtain⟨i0,H,S,T,V⟩:=rN ML;have H0:χ (Fj w w (K O 0 0) (FQ s c 0).1):=⟨O,0,rfl,rF w 0 9 1,λb h=>by cases h⟩;have B:=Af (Ag.refl (λ_=>False) w);go_in;go_wp2;go_loopw [5,6,7] (λu y x wr=> ∃i:N,i<=s.size+1/\x=I Q i/\χ (Al w wr)/\χ ((i<=s.size/\y=I Q (FQ s c i).2/\Fj w wr u (FQ s c i).1)\/(i=s.size+1/\Fj w wr u (Ay s c)))) (λ_ _ x _=>s.size+1- (intOf x).toNat)
 .exact ⟨0,Aa,rfl,B,.inl ⟨Aa,rfl,H0⟩⟩
 obtain⟨i,hi,rfl,B,D⟩:=hrel;clear H0;by_cases a4:i<=s.size
 .have P:(i:Z)<=(s.size:Z):=Aa;obtain⟨_,hy,d⟩:i<=s.size/\u6=I Q (FQ s c i).2/\χ (Fj w wr u5 (FQ s c i).1):=by
   rcases uh D with h|h
   .exact h
   omega
  subst hy;clear D;obtain⟨hf,a3⟩:=SG s c i;by_cases a:i=s.size
  .have HE:χ (Ay s c=(FQ s c i).1++[s.extract (FQ s c i).2 i]):=by rw[a];rfl
   have a0:((i:Z)==(s.size:Z))=true:=by rw[tT];omega
   have a1: ∀W,(Instr.slice 9 (G s) (J (I Q ((FQ s c i).2:Z))) (J (I Q (i:Z))) O).run ψ W=.ok (G (s.extract (FQ s c i).2 i)) W:=λW=>aae
   have o:=Af (λw3 g cap=>Fj.more (w3:=w3) (x:=s.extract (FQ s c i).2 i) (g:=g) (cap:=cap) (uh d) (uh B));obtain⟨ao,cp,A,m,_⟩:=uh d;subst A;have t:=Af (CL m ((Ag.refl (λ_=>False) wr).alloc (γ #[G (s.extract (FQ s c i).2 i)] 9)));have p:=Af (AB wr [G (s.extract (FQ s c i).2 i)] 9);clear m;generalize s.extract (FQ s c i).2 i=z at*;generalize FQ s c i=q at*;obtain⟨L,fr⟩:=q;simp only at*;have X:=Af a;clear a;go_wp2_with (at_builtin;refine wpList_append_lies _ rfl (.tmp 25) (.tmp 30) 45 rfl 0 9 i0 (G ⟨#[]⟩) 1 16 underlying45 H S T V rfl Aa (K ao L.length cp) L.length _ rfl (uh t) ⟨wr.heap.size,0,O⟩ 1 1 [G z] rfl rfl (uh p) (by intro u R;simp at R;subst R;rfl) Aa (by unfold maxLen;omega) Aa Aa (wr.heap.size+1) Ad ?_;intro gb cap2 w3 l e f j;have F:=Af (o w3 gb cap2 l e f);clear l e f j);go_roundw
   .exact ⟨i+1,Aa,by go_num,F.2,.inr ⟨by rw[uh X],by rw[uh HE];exact F.1⟩⟩
   exact Ae
  have a0:((i:Z)==(s.size:Z))=false:=by rw[re];omega
  have M:i<s.size:=Aa;have hb:=AC (s:=s) (k:=i) M;by_cases n:As s i=c
  .have C:=Af (LT s c i n);have a1: ∀W,(Instr.slice 9 (G s) (J (I Q ((FQ s c i).2:Z))) (J (I Q (i:Z))) O).run ψ W=.ok (G (s.extract (FQ s c i).2 i)) W:=λW=>aae
   have o:=Af (λw3 g cap=>Fj.more (w3:=w3) (x:=s.extract (FQ s c i).2 i) (g:=g) (cap:=cap) (uh d) (uh B));obtain⟨ao,cp,A,m,_⟩:=uh d;subst A;have t:=Af (CL m ((Ag.refl (λ_=>False) wr).alloc (γ #[G (s.extract (FQ s c i).2 i)] 9)));have p:=Af (AB wr [G (s.extract (FQ s c i).2 i)] 9);rw[n] at hb;clear m n;generalize s.extract (FQ s c i).2 i=z at*;generalize FQ s c i=q at*;obtain⟨L,fr⟩:=q;simp only at*;clear a;go_wp2_with (at_builtin;refine wpList_append_lies _ rfl (.tmp 25) (.tmp 30) 45 rfl 0 9 i0 (G ⟨#[]⟩) 1 16 underlying45 H S T V rfl Aa (K ao L.length cp) L.length _ rfl (uh t) ⟨wr.heap.size,0,O⟩ 1 1 [G z] rfl rfl (uh p) (by intro u R;simp at R;subst R;rfl) Aa (by unfold maxLen;omega) Aa Aa (wr.heap.size+1) Ad ?_;intro gb cap2 w3 l e f j;have F:=Af (o w3 gb cap2 l e f);clear l e f j);go_roundw
   .exact ⟨i+1,Aa,by go_num,F.2,.inl ⟨Aa,by rw[uh C];go_num,by rw[uh C];exact F.1⟩⟩
   exact Ae
  have C:=Af (JW s c i n);have a2:((As s i:Z)==(c:Z))=false:=by rw[re];omega
  go_wp2;go_roundw
  .exact ⟨i+1,Aa,by go_num,B,.inl ⟨Aa,by rw[uh C],by rw[uh C];exact d⟩⟩
  exact Ae
 have P:¬(i:Z)<=(s.size:Z):=Aa;have D:χ (Fj w wr u5 (Ay s c)):=by
  rcases uh D with h|h
  .omega
  exact h.2
 go_wp2;go_ret;exact⟨_,rfl,D,B⟩
def KF(s:Y)(c:N):Bool:=(List.range s.size).any (λi=>As s i==c)
def Pn{s:Y}{c i:N}(h:i<s.size)(a:As s i=c):KF s c=true:=sc.2 ⟨i,rJ.2 h,by rw[a];exact beq_self_eq_true _⟩
def SH{s:Y}{c:N}(h: ∀i,i<s.size->As s i≠c):KF s c=false:=by
 rw[KF,tn];intro i a;rw[tT];exact h i (rJ.1 a)
def jZ(s:Y)(c:N)(o:s.size<=2000000)(w:U):μ ψ 294 #[G s,I .u8 (c:Z)] w λr w' =>r=ε (ζ (KF s c))/\w' =w:=by
 go_in;go_wp2_with fail;go_loop [5] (λx=> ∃i:N,i<=s.size/\x=I Q i/\χ (∀j,j<i->As s j≠c)) (λx=>s.size- (intOf x).toNat)
 .exact aaZ
 obtain⟨i,n,rfl,f⟩:=hrel;by_cases b:i<s.size
 .have d:(i:Z)<(s.size:Z):=Aa;have l:=AC (s:=s) (k:=i) b;by_cases a:As s i=c
  .have HA:=Af (Pn b a);rw[a] at l;clear a;exact abj
  have HT2:χ (∀j,j<i+1->As s j≠c):=λj m=>by
   by_cases e:j=i
   .rw[e];exact a
   exact f j Aa
  have g:¬((As s i:Z)=(c:Z)):=Aa;exact Hu
 have d:¬(i:Z)<(s.size:Z):=Aa;have HA:χ (KF s c=ι):=SH (λj m=>f j Aa);exact abj
def fB(s:Y)(D:s.size<=140737488355328)(w:U):μ ψ 201 #[G s] w λr w' =>r=ε (G (AO s))/\Al w w' :=by
 have k:=Lib.run_convert_string_bytes (P:=ψ) w 9 62 5 s underlying9 underlying62 underlying5;have HR:χ (Iz (Lib.bytesWorld w 5 s) w.heap.size (Gn s.data.toList 0)):=by rw[Rb];exact Iz.made w s
 have HO:=Af (FX w s);have HL:χ (s.data.toList.length=s.size):=by unfold χ;simp
 have m:χ (w.heap.size<=w.heap.size):=rj _;have HE:χ (∀l:E υ,l=s.data.toList->AO s=⟨(l.map Ga).toArray⟩):=by intro l e;subst e;rfl
 generalize u:s.data.toList=l at*;generalize AO s=z at*;have HE:=Af (HE l rfl);generalize s.size=n at*;generalize Lib.bytesWorld w 5 s=W at*;generalize grownCap w n 0 5=cap at*;generalize t:w.heap.size=g at*;have m:χ (w.heap.size<=g):=by unfold χ;omega
 clear t u;go_in;go_wp2_with fail;clear k;go_loopw [4] (λx wr=> ∃i:N,i<=n/\x=I Q i/\χ (Iz wr g (Gn l i))/\χ (Al w wr)) (λx _=>n- (intOf x).toNat)
 .exact ⟨0,Aa,rfl,HR,HO⟩
 obtain⟨i,C,rfl,HR,HO⟩:=hrel;by_cases v:i<n
 .have hltI:(i:Z)<(n:Z):=Aa;have hil:i<l.length:=by have:=uh HL;omega
  have hil2:i<(Gn l i).length:=by rw[JV];exact hil
  have o:=HR.cell i hil2;have B:=HR.thaw i hil2;rw[IU l i hil hil2] at o;have q:(l[i]).toNat<256:=(l[i]).toNat_lt;have HN:=Af (Rc l i hil);have a:χ (Ga l[i]=if LQ (l[i]).toNat then b8 ((l[i]).toNat+32) else l[i]):=rfl;have b:=Af (IU l i hil hil2);cases hcap:LQ (l[i]).toNat with
  |true=>
   rw[hcap] at a;simp only[vi] at a;have A:65<=(l[i]).toNat/\(l[i]).toNat<=90:=by simpa [LQ] using hcap
   have HS:=Af (HR.set i (b8 ((l[i]).toNat+32)));rw[AL Aa] at HS;rw[uh a] at HN;rw[<-uh HN] at HS;have HO2:χ (Al w (wr.setCell ⟨g,i,O⟩ (I .u8 (((l[i]).toNat+32:N):Z)))):=HO.setCell (p:=⟨g,i,O⟩) (λh=>absurd h (by have:=uh m;show ¬g<_;omega)) _;have y:((l[i]).toNat:Z)+32=(((l[i]).toNat+32:N):Z):=Aa;clear HN a b hil2;generalize(l[i]).toNat=c at*;have f:(65:Z)<=(c:Z):=Aa;have j:(c:Z)<=90:=Aa;generalize((c+32:N):Z)=c2 at*;exact aaE
  |false=>
   rw[hcap] at a;simp only[tx,uw] at a;rw[uh a] at HN;have HS:χ (Iz wr g (Gn l (i+1))):=wv;have d:¬(65<=(l[i]).toNat/\(l[i]).toNat<=90):=by simpa [LQ] using hcap
   clear HN a b hil2 hcap;generalize(l[i]).toNat=c at*;by_cases f:(65:Z)<=(c:Z)
   .have j:¬(c:Z)<=90:=Aa;clear d;exact WV
   clear d;exact WV
 exact abN
def nB:IA 292 FZ:=abL
def ka:IA 293 BR:=abM
def pA:IA 295 LR:=by
 intro c w j;unfold LR FZ LQ;by_cases d:97<=c
 .have e:(97:Z)<=(c:Z):=Aa;by_cases h:c<=122
  .have f:(c:Z)<=122:=Aa;rw[qZ d,qZ h];go_in;exact yU
  have f:¬(c:Z)<=122:=Aa;have a:(65:Z)<=(c:Z):=Aa;have b:¬(c:Z)<=90:=Aa;rw[qZ d,qX h,qZ (by omega:65<=c),qX (by omega:¬c<=90)];go_in;exact yU
 have e:¬(97:Z)<=(c:Z):=Aa;rw[qX d];by_cases g:65<=c
 .have a:(65:Z)<=(c:Z):=Aa;by_cases i:c<=90
  .have b:(c:Z)<=90:=Aa;rw[qZ g,qZ i];go_in;exact yU
  have b:¬(c:Z)<=90:=Aa;rw[qZ g,qX i];go_in;exact yU
 have a:¬(65:Z)<=(c:Z):=Aa;rw[qX g];go_in;exact yU
def KU(e:Y):Y:=(Ay (AO e) 46).getD 0 ⟨#[]⟩
def Fz(s:Y)(c:N):0<(Ay s c).length:=by simp[Ay]
def bF(s:Y)(F:s.size<=100000)(w:U):μ ψ 337 #[G s] w λr w' =>r=ε (ζ (MK (KU s)))/\Al w w' :=by
 have o:=Af (fB s Aa w);have m:=GA s;have p:=Af (λW=>IB (AO s) 46 Aa W);have t:χ (KU s=(Ay (AO s) 46).getD 0 ⟨#[]⟩):=rfl;have d:=Fz (AO s) 46;have n:=Db (AO s) 46;rw[m] at n;obtain⟨ans,HD⟩: ∃ans,χ (ans=MK (KU s)):=⟨_,rfl⟩;rw[<-uh HD];generalize Ay (AO s) 46=L at*;generalize AO s=y at*;generalize KU s=z at*;go_in;go_wp2_with fail;refine o.mono ?_;rintro e w1 ⟨rfl,a⟩;have q:=Af (p w1);have HO:=Af a;clear a p o;go_wp2_with fail;refine q.mono ?_;rintro e w2 ⟨v,rfl,f,b⟩;obtain⟨g,cap,rfl,j,l,_⟩:=f.cell 0 d;have h:L[0]=z:=by rw[uh t,qT,qY d];rfl
 rw[h] at j;have HO:=Af (HO.trans b);have u:(0:Z)<(L.length:Z):=Aa;clear q b f h t l;by_cases h1:z=nb
 .exact abT
 have f1:(z.toList==[99,111,110])=false:=by rw[EF];exact qX h1
 by_cases h2:z=nc
 .exact abS
 have f2:(z.toList==[112,114,110])=false:=by rw[EF];exact qX h2
 by_cases h3:z=nd
 .exact abR
 have f3:(z.toList==[97,117,120])=false:=by rw[EF];exact qX h3
 by_cases h4:z=ng
 .exact abP
 have f4:(z.toList==[110,117,108])=false:=by rw[EF];exact qX h4
 by_cases hz:z.size=4
 .have hzI:(z.size:Z)=4:=Aa;have C: ∀W,(Instr.slice 9 (G z) O (J (I Q 3)) O).run ψ W=.ok (G (z.extract 0 3)) W:=λW=>tz W 9 z underlying9 .i64 3 Aa Aa
  have i:3<z.size:=Aa;have D:=AC (s:=z) (k:=3) i;have B:=Bf z 3;have HD2:χ (ans=((Γ (z.extract 0 3=eQ)||decide (z.extract 0 3=eR))&&BR (As z 3)&& !Γ (As z 3=48))):=aaC;clear HD h1 h2 h3 h4 hz;generalize z.extract 0 3=x at*;generalize As z 3=c at*;by_cases hx1:x=eQ
  .have A:(x.toList==[99,111,109])=true:=by rw[EF];exact qZ hx1
   have HD3:χ (ans=(BR c&& !Γ (c=48))):=by unfold χ;rw[uh HD2,qZ hx1];simp only[Bool.true_or,tj]
   clear HD2 hx1;exact abI
  have A:(x.toList==[99,111,109])=false:=by rw[EF];exact qX hx1
  by_cases hx2:x=eR
  .have g2:(x.toList==[108,112,116])=true:=by rw[EF];exact qZ hx2
   have HD3:χ (ans=(BR c&& !Γ (c=48))):=by unfold χ;rw[uh HD2,qZ hx2];simp only[Bool.or_true,tj]
   clear HD2 hx1 hx2;exact abI
  exact abO
 exact abW
abbrev SI:Y:=⟨#[33,35,36,37,38,40,41,43,44,45,46,61,64,91,93,94,95,123,125,126,32]⟩
def JX(c:N):Bool:=LR c||BR c||KF SI c
def Ff(e:Y):Bool:= !Γ (e.size=0)&& !Γ (As e (e.size- 1)=46)&& !Γ (As e (e.size- 1)=32)&&(List.range e.size).all (λi=>JX (As e i))&& !MK (KU e)
def fC(s:Y)(T:s.size<=100000)(w:U):μ ψ 299 #[G s] w λr w' =>r=ε (ζ (Ff s))/\Al w w' :=by
 have B:(s.toList==[])=Γ (s=⟨#[]⟩):=EF s [];have S:=Af (λW=>bF s T W);by_cases y:s.size=0
 .have v:s=⟨#[]⟩:=by
   obtain⟨d⟩:=s;have:d= #[]:=uD y;rw[this]
  have a:Ff s=false:=by rw[Ff,qZ y];rfl
  rw[a];rw[qZ v] at B;clear a v;go_in;exact zI
 have g:s≠⟨#[]⟩:=λh=>y (by rw[h];rfl)
 rw[qX g] at B;have P:s.size- 1<s.size:=Aa;have D:(s.size:Z)- 1=((s.size- 1:N):Z):=Aa;have z:=AC (s:=s) (k:=s.size- 1) P;by_cases b:As s (s.size- 1)=46
 .have a:Ff s=false:=by rw[Ff,qZ b];simp
  rw[a];rw[b] at z;clear a b g;go_in;exact zI
 by_cases f:As s (s.size- 1)=32
 .have a:Ff s=false:=by rw[Ff,qZ f];simp
  rw[a];rw[f] at z;clear a b f g;go_in;exact zI
 have p:((As s (s.size- 1):Z)==46)=false:=by rw[re];omega
 have o:((As s (s.size- 1):Z)==32)=false:=by rw[re];omega
 have A:χ (Ff s=((List.range s.size).all (λi=>JX (As s i))&& !MK (KU s))):=by
  unfold χ;rw[Ff,qX y,qX b,qX f];simp
 generalize Ff s=ans at*;clear b f g;generalize C:As s (s.size- 1)=c0 at*;clear C;go_in;go_wp2_with fail;clear z p o P D B y;go_loop [3,4] (λx _=> ∃i:N,i<=s.size/\x=I Q i/\χ (∀j,j<i->JX (As s j)=θ)) (λx _=>s.size- (intOf x).toNat)
 .exact aaZ
 obtain⟨i,V,rfl,L⟩:=hrel;by_cases t:i<s.size
 .have u:(i:Z)<(s.size:Z):=Aa;have z:=AC (s:=s) (k:=i) t;have q:=Bf s i;have m:=Af (λW=>pA (As s i) W q);have n:=Af (λW=>ka (As s i) W q);have F:=Af (λW=>jZ SI (As s i) Ac W);have l:χ (JX (As s i)=(LR (As s i)||BR (As s i)||KF SI (As s i))):=rfl;have HT2:χ (JX (As s i)=θ-> ∀j,j<i+1->JX (As s j)=θ):=λh j M=>by
   by_cases e:j=i
   .rw[e];exact h
   exact L j Aa
  have H:χ (JX (As s i)=ι->ans=ι):=λh=>by
   rw[uh A,tG.2 ⟨i,rJ.2 t,by rw[h];decide⟩];rfl
  generalize JX (As s i)=fr at*;generalize As s i=c at*;generalize KF SI c=b3 at*;cases h1:LR c with
  |true=>
   rw[h1] at m l;have HT2:=Af (HT2 (by rw[uh l];rfl));go_wp2_with fail;refine(m _).mono ?_;exact ace
  |false=>
   rw[h1] at m l;cases h2:BR c with
   |true=>
    rw[h2] at n l;have HT2:=Af (HT2 (by rw[uh l];rfl));go_wp2_with fail;refine(m _).mono ?_;rintro e w1 ⟨rfl,rfl⟩;go_wp2_with fail;refine(n _).mono ?_;exact ace
   |false=>
    rw[h2] at n l;cases b3 with
    |true=>
     have HT2:=Af (HT2 (by rw[uh l];rfl));go_wp2_with fail;refine(m _).mono ?_;rintro e w1 ⟨rfl,rfl⟩;go_wp2_with fail;refine(n _).mono ?_;rintro e w1 ⟨rfl,rfl⟩;go_wp2_with fail;refine(F _).mono ?_;exact ace
    |false=>
     have a:ans=false:=H (by rw[uh l];rfl);clear H HT2;subst a;go_wp2_with fail;refine(m _).mono ?_;rintro e w1 ⟨rfl,rfl⟩;go_wp2_with fail;refine(n _).mono ?_;rintro e w1 ⟨rfl,rfl⟩;go_wp2_with fail;refine(F _).mono ?_;rintro e w1 ⟨rfl,rfl⟩;exact zI
 have u:¬(i:Z)<(s.size:Z):=Aa;have HA:χ (ans= !MK (KU s)):=by
  unfold χ;rw[uh A,rV.2 (λj M=>L j (by have:=rJ.1 M;omega))];rfl
 generalize MK (KU s)=d at*;clear A;go_wp2_with fail;refine(S _).mono ?_;rintro e w1 ⟨rfl,R⟩;have HO:=Af R;clear R;exact Hr
def ke{s:Y}{c i:N}{x:Y}(h:x∈(FQ s c i).1):x.size<=s.size:=by
 induction i with
 |zero=>cases h
 |succ i ih=>
  rw[FQ] at h;split at h
  .rcases rR.1 h with h|h
   .exact ih h
   rw[rC] at h;rw[h];exact Fe _ _ _
  exact ih h
def GU{s:Y}{c:N}{x:Y}(h:x∈Ay s c):x.size<=s.size:=by
 rcases rR.1 h with h|h
 .exact ke h
 rw[rC] at h;rw[h];exact Fe _ _ _
def JY(s:Y):Bool:=Γ (s.size<=80)&&(Ay s 47).all Ff
def MS(s:Y)(H:s.size<=2000000)(w:U):μ ψ 215 #[G s] w λr w' =>r=ε (ζ (JY s))/\Al w w' :=by
 by_cases f:s.size<=80
 .have k:¬(80:Z)<(s.size:Z):=Aa;have y:χ (JY s=(Ay s 47).all Ff):=by unfold χ;rw[JY,qZ f];rfl
  have t:=Af (IB s 47 H w);have B:χ (∀x∈Ay s 47,x.size<=100000):=λx hx=>by have:=GU hx;omega
  have F:=Db s 47;generalize JY s=ans at*;generalize Ay s 47=L at*;go_in;go_wp2_with fail;refine t.mono ?_;rintro e w1 ⟨v,rfl,m,A⟩;have n:=Af m;have HO:=Af A;obtain⟨ao,cap,q,_,_⟩:=m;subst q;clear A t;go_wp2;go_loopw [4,5] (λx _ wr=> ∃i:N,i<=L.length/\x=I Q i/\χ (Fj w wr (K ao L.length cap) L)/\χ (Al w wr)/\χ (∀j (h:j<L.length),j<i->Ff L[j]=θ)) (λx _ _=>L.length- (intOf x).toNat)
  .exact ⟨0,Aa,rfl,n,HO,λj _ h=>Aa⟩
  obtain⟨i,R,rfl,n,HO,HT⟩:=hrel;by_cases c:i<L.length
  .have l:(i:Z)<(L.length:Z):=Aa;obtain⟨g,M,q,P,_⟩:=n.cell i c;injection q with hv1 hv2 hv3;subst hv1 hv3;have u:=Af (λW=>fC L[i] (B _ (ro c)) W);have d:χ (Ff L[i]=θ-> ∀j (h:j<L.length),j<i+1->Ff L[j]=θ):=λh j hj D=>wX
   have C:χ (Ff L[i]=ι->ans=ι):=λh=>by
    rw[uh y];exact tG.2 ⟨L[i],ro c,by rw[h];decide⟩
   generalize Ff L[i]=b at*;generalize L[i]=z at*;cases b with
   |true=>
    have p:=Af (d rfl);clear d;go_wp2_with fail;refine(u _).mono ?_;rintro e w2 ⟨rfl,a⟩;have o:=Af (n.old a);have HO2:=Af (HO.trans a);clear a;go_wp2;go_roundw
    .exact ⟨i+1,Aa,by go_num,o,HO2,p⟩
    exact Ae
   |false=>
    have hans:=C rfl;subst hans;go_wp2_with fail;refine(u _).mono ?_;rintro e w2 ⟨rfl,a⟩;have HO2:=Af (HO.trans a);clear a;exact He
  have l:¬(i:Z)<(L.length:Z):=Aa;have hans:ans=true:=by
   rw[uh y,rV];exact Ho
  subst hans;exact zD
 have k:(80:Z)<(s.size:Z):=Aa;have hans:JY s=false:=by rw[JY,qX f];rfl
 exact abY
def UJ(s:Y):Bool:=((Ay s 47).take ((Ay s 47).length- 1)).any EN
def kh(s:Y)(T:s.size<=2000000)(w:U):μ ψ 289 #[G s] w λr w' =>r=ε (ζ (UJ s))/\Al w w' :=by
 have u:χ (UJ s=((Ay s 47).take ((Ay s 47).length- 1)).any EN):=rfl;have t:=Af (IB s 47 T w);have P:=Db s 47;have R:=Fz s 47;generalize UJ s=ans at*;generalize Ay s 47=L at*;go_in;go_wp2_with fail;refine t.mono ?_;rintro e w1 ⟨v,rfl,n,A⟩;have B:=Af n;have HO:=Af A;obtain⟨ao,cap,q,_,_⟩:=n;subst q;clear A t;go_wp2_with fail;go_loop [4] (λx=> ∃i:N,i<=L.length- 1/\x=I Q i/\χ (∀j (h:j<L.length),j<i->EN L[j]=ι)) (λx=>L.length- 1- (intOf x).toNat)
 .exact Wk
 obtain⟨i,hi,rfl,HT⟩:=hrel;by_cases S:i+1<L.length
 .have m:(i:Z)+1<(L.length:Z):=Aa;have p:i<L.length:=Aa;have y:(i:Z)<(L.length:Z):=Aa;obtain⟨g,W,q,X,_⟩:=B.cell i p;injection q with hv1 hv2 hv3;subst hv1 hv3;have b:χ (EN L[i]=ι-> ∀j (h:j<L.length),j<i+1->EN L[j]=ι):=λh j hj M=>wX
  have c:χ (EN L[i]=θ->ans=θ):=λh=>by
   rw[uh u];exact sc.2 ⟨L[i],tw.2 ⟨i,Aa,rfl⟩,h⟩
  generalize L[i]=z at*;by_cases d:z=eV
  .have C:(z.toList==[46,98,122,114])=true:=by rw[EF];exact qZ d
   have a:ans=true:=c (by rw[d];decide);subst a;clear d b c;exact zD
  have C:(z.toList==[46,98,122,114])=false:=by rw[EF];exact qX d
  by_cases f:z=eW
  .have D:(z.toList==[46,103,105,116])=true:=by rw[EF];exact qZ f
   have a:ans=true:=c (by rw[f];decide);subst a;clear d f b c;exact zD
  have D:(z.toList==[46,103,105,116])=false:=by rw[EF];exact qX f
  by_cases k:z=pu
  .have F:(z.toList==[46,104,103])=true:=by rw[EF];exact qZ k
   have a:ans=true:=c (by rw[k];decide);subst a;clear d f k b c;exact zD
  have F:(z.toList==[46,104,103])=false:=by rw[EF];exact qX k
  by_cases l:z=eX
  .have H:(z.toList==[46,115,118,110])=true:=by rw[EF];exact qZ l
   have a:ans=true:=c (by rw[l];decide);subst a;clear d f k l b c;exact zD
  have H:(z.toList==[46,115,118,110])=false:=by rw[EF];exact qX l
  have o:=Af (b (by rw[EN,qX d,qX f,qX k,qX l];rfl));clear d f k l b c;go_wp2_with fail;go_round
  .exact ⟨i+1,Aa,by go_num,o⟩
  exact Ae
 have m:¬(i:Z)+1<(L.length:Z):=Aa;have a:ans=false:=by
  rw[uh u,tn];intro x V;obtain⟨j,hj,rfl⟩:=tw.1 V;rw[HT j Aa Aa]
  decide
 subst a;exact zD
def Gq(s t:Y):Bool:=Γ (t.size<=s.size)&&Γ (s.extract 0 t.size=t)
def SJ(s t:Y)(w:U):μ ψ 298 #[G s,G t] w λr w' =>r=ε (ζ (Gq s t))/\w' =w:=by
 by_cases h:t.size<=s.size
 .have c:(t.size:Z)<=(s.size:Z):=Aa;have d: ∀W,(Instr.slice 9 (G s) O (J (I Q (t.size:Z))) O).run ψ W=.ok (G (s.extract 0 t.size)) W:=λW=>tz W 9 s underlying9 .i64 t.size Aa Aa
  have e:((s.extract 0 t.size).toList==t.toList)=Γ (s.extract 0 t.size=t):=Qd _ _;have a:Gq s t=Γ (s.extract 0 t.size=t):=by rw[Gq,qZ h];rfl
  rw[a];clear a;generalize Γ (s.extract 0 t.size=t)=b at*;generalize s.extract 0 t.size=z at*;go_in;exact yU
 have c:¬(t.size:Z)<=(s.size:Z):=Aa;have a:Gq s t=false:=by rw[Gq,qX h];rfl
 rw[a];clear a;go_in;exact yU
def MT(s:Y)(n:N)(w:U):μ ψ 200 #[G s,I Q (n:Z)] w λr w' =>r=ε (ζ (Γ (Bu s<n)))/\w' =w:=by
 have d:(s.toList==[103,111,46,109,111,100])=Γ (s=Ez):=EF s _;have c:(s.toList==[76,73,67,69,78,83,69])=Γ (s=eU):=EF s _;by_cases i:4000<n
 .have e:(4000:Z)<(n:Z):=Aa;have a:Γ (Bu s<n)=true:=by rw[Bu];split<;>exact qZ Aa
  rw[a];clear a d c;go_in;exact yU
 have e:¬(4000:Z)<(n:Z):=Aa;by_cases g:500<n
 .have f:(500:Z)<(n:Z):=Aa;by_cases b:s=Ez
  .have a:Γ (Bu s<n)=true:=by rw[Bu,rd (.inl b)];exact qZ g
   rw[a];rw[qZ b] at d;clear a c b;go_in;exact yU
  rw[qX b] at d;by_cases g2:s=eU
  .have a:Γ (Bu s<n)=true:=by rw[Bu,rd (.inr g2)];exact qZ g
   rw[a];rw[qZ g2] at c;clear a b g2;go_in;exact yU
  have a:Γ (Bu s<n)=false:=by rw[Bu,rc (λh=>h.elim b g2)];exact qX i
  rw[a];rw[qX g2] at c;clear a b g2;go_in;exact yU
 have f:¬(500:Z)<(n:Z):=Aa;have a:Γ (Bu s<n)=false:=by rw[Bu];split<;>exact qX Aa
 rw[a];clear a d c;go_in;exact yU
def JZ(s:Y)(i:N):Bool:=Gq (s.extract i s.size) DG
def Io(s:Y):Option N:=if Gq s KD then J 7 else((List.range s.size).find? (JZ s)).map (· +8)
def NM(s:Y):Bool:=match Io s with
 |some p=>KF (s.extract p s.size) 47
 |none=>ι
def MU{s:Y}{p:N}(h:Io s=J p):NM s=KF (s.extract p s.size) 47:=by rw[NM,h]
def Rn{s:Y}(h:Io s=O):NM s=false:=by rw[NM,h]
def Po{n i:N}{p:N->Bool}(a:i<n)(hp:p i=θ)(c: ∀j,j<i->p j=ι):(List.range n).find? p=J i:=by
 rw[List.find?_eq_some_iff_getElem];refine⟨hp,i,by simpa using a,Ad,λj b=> ?_⟩;simp[c j b]
def Zk{s t:Y}(h:Gq s t=θ):t.size<=s.size:=by
 rw[Gq,rX] at h;exact rQ h.1
def bG(s:Y)(P:s.size<=2000000)(w:U):μ ψ 291 #[G s] w λr w' =>r=ε (ζ (NM s))/\w' =w:=by
 have t:=Af (SJ s KD w);have C:χ (Gq s KD=θ->Io s=J 7/\7<=s.size):=λh=>⟨rd h,Zk h⟩
 have f:χ (Gq s KD=ι->Io s=((List.range s.size).find? (JZ s)).map (· +8)):=λh=>by rw[Io,h];rfl
 have m:χ (∀p,Io s=J p->NM s=KF (s.extract p s.size) 47):=λp h=>MU h
 have v:χ (Io s=O->NM s=ι):=λh=>Rn h
 generalize NM s=ans at*;cases hvb:Gq s KD with
 |true=>
  rw[hvb] at t;obtain⟨F,S⟩:=C hvb;have d:=Af (m 7 F);have c: ∀W,(Instr.slice 9 (G s) (J (I Q ((7:N):Z))) O O).run ψ W=.ok (G (s.extract 7 s.size)) W:=λW=>sT W 9 s underlying9 .i64 7 Aa Aa
  have R: ∀W,(Instr.slice 9 (G s) (J (I Q 7)) O O).run ψ W=.ok (G (s.extract 7 s.size)) W:=c;have g:(s.extract 7 s.size).size<=2000000:=rz (Fe _ _ _) P;have k:=Af (λW=>jZ (s.extract 7 s.size) 47 g W);rw[<-uh d] at k;clear c hvb F C f m v d;generalize s.extract 7 s.size=z at*;go_in;go_wp2_with fail;refine t.mono ?_;rintro e w1 ⟨rfl,rfl⟩;go_wp2_with fail;go_loop [3,4] (λy x=>y=I Q 7/\x=I Q 0) (λ_ _=>0)
  .exact ⟨rfl,rfl⟩
  obtain⟨rfl,rfl⟩:=hrel;have M:(0:Z)<(s.size:Z):=Aa;go_wp2_with fail;refine(k _).mono ?_;exact abH
 |false=>
  rw[hvb] at t;have f:=Af (f hvb);clear hvb C;go_in;go_wp2_with fail;refine t.mono ?_;rintro e w1 ⟨rfl,rfl⟩;go_wp2_with fail;go_loop [3,4] (λy x=> ∃i:N,i<=s.size/\x=I Q i/\χ ((y=I Q (-1)/\∀j,j<i->JZ s j=ι)\/ ∃p:N,y=I Q p/\p<=s.size/\Io s=J p)) (λ_ x=>s.size- (intOf x).toNat)
  .exact ⟨0,Aa,rfl,.inl ⟨rfl,λj h=>Aa⟩⟩
  obtain⟨i,hi,rfl,A⟩:=hrel;rcases uh A with⟨D,H⟩|⟨p,D,hp,o⟩
  .subst D;have a:=Af H;clear H A;by_cases q:i<s.size
   .have b:(i:Z)<(s.size:Z):=Aa;have c: ∀W,(Instr.slice 9 (G s) (J (I Q (i:Z))) O O).run ψ W=.ok (G (s.extract i s.size)) W:=λW=>sT W 9 s underlying9 .i64 i Aa Aa
    have u:=Af (λW=>SJ (s.extract i s.size) DG W);cases hh:JZ s i with
    |true=>
     have l:Gq (s.extract i s.size) DG=true:=hh;rw[l] at u;have T:i+8<=s.size:=by have:=Zk l;rw[rv] at this;have e8:DG.size=8:=rfl;omega
     have d:χ (Io s=J (i+8)):=by
      unfold χ;rw[uh f,Po q hh (uh a)];rfl
     clear l hh a;generalize s.extract i s.size=z at*;go_wp2_with fail;refine(u _).mono ?_;rintro e w2 ⟨rfl,rfl⟩;go_wp2_with fail;go_round
     .exact ⟨i+1,Aa,by go_num,.inr ⟨i+8,by go_num,T,d⟩⟩
     exact Ae
    |false=>
     have l:Gq (s.extract i s.size) DG=false:=hh;rw[l] at u;have B:χ (∀j,j<i+1->JZ s j=ι):=λj L=>by
      by_cases e:j=i
      .rw[e];exact hh
      exact a j Aa
     clear l hh a;generalize s.extract i s.size=z at*;go_wp2_with fail;refine(u _).mono ?_;rintro e w2 ⟨rfl,rfl⟩;go_wp2_with fail;go_round
     .exact ⟨i+1,Aa,by go_num,.inl ⟨rfl,B⟩⟩
     exact Ae
   have b:¬(i:Z)<(s.size:Z):=Aa;have n:ans=false:=by
    refine uh v ?_;rw[uh f,List.find?_eq_none.2 (λj L=>by rw[a j (by have:=rJ.1 L;omega)];decide)];rfl
   subst n;clear f m v a;exact yU
  subst D;have d:=Af (m p o);have c: ∀W,(Instr.slice 9 (G s) (J (I Q (p:Z))) O O).run ψ W=.ok (G (s.extract p s.size)) W:=λW=>sT W 9 s underlying9 .i64 p Aa Aa
  have g:(s.extract p s.size).size<=2000000:=rz (Fe _ _ _) P;have k:=Af (λW=>jZ (s.extract p s.size) 47 g W);rw[<-uh d] at k;have V:(0:Z)<=(p:Z):=Aa;have X:¬(p:Z)<0:=Aa;clear o f m v A d;generalize s.extract p s.size=z at*;by_cases q:i<s.size
  .have b:(i:Z)<(s.size:Z):=Aa;go_wp2_with fail;refine(k _).mono ?_;exact abH
  have b:¬(i:Z)<(s.size:Z):=Aa;go_wp2_with fail;refine(k _).mono ?_;exact abH
def Pp{s:Y}{c:N}: ∀i,(∀j,j<i->As s j≠c)->FQ s c i=([],0)
 |0,_=>rfl
 |i+1,h=>by rw[JW s c i (h i Aa)];exact Pp i (λj a=>h j Aa)
def Dv{s:Y}{c:N}(h: ∀j,j<s.size->As s j≠c):Ay s c=[s]:=by
 rw[Ay,Pp _ h];simp
def Ro{s:Y}{c i:N}(d:As s i=c)(h: ∀j,j<i->As s j≠c)(e: ∀n,i+1+n<s.size->As (s.extract (i+1) s.size) n=As s (i+1+n))(g: ∀f n,i+1+n<=s.size->(s.extract (i+1) s.size).extract f n=s.extract (i+1+f) (i+1+n)):
 ∀n,i+1+n<=s.size->FQ s c (i+1+n)=(s.extract 0 i::(FQ (s.extract (i+1) s.size) c n).1,i+1+(FQ (s.extract (i+1) s.size) c n).2)
 |0,_=>by
  show FQ s c (i+1)=_;rw[LT s c i d,Pp i h];rfl
 |n+1,hn=>by
  have k:=Ro d h e g n Aa;have b:=e n Aa;by_cases a:As s (i+1+n)=c
  .rw[show i+1+(n+1)=i+1+n+1 by omega,LT s c _ a,LT _ c n (b.trans a),k];simp only[vH,g _ n Aa]
   rfl
  rw[show i+1+(n+1)=i+1+n+1 by omega,JW s c _ a,JW _ c n (by rw[b];exact a),k]
def Js{s:Y}{c i:N}(g:i<s.size)(e:As s i=c)(h: ∀j,j<i->As s j≠c):Ay s c=s.extract 0 i::Ay (s.extract (i+1) s.size) c:=by
 have a:(s.extract (i+1) s.size).size=s.size- (i+1):=by rw[rv];omega
 have d: ∀f n,i+1+n<=s.size->(s.extract (i+1) s.size).extract f n=s.extract (i+1+f) (i+1+n):=λf n b=>by
  rw[ByteArray.extract_extract,uc b]
 have hp:=Ro e h (λn b=>CG Aa (rj _)) d (s.size- (i+1)) Aa;rw[show i+1+(s.size- (i+1))=s.size by omega] at hp;rw[Ay,Ay,hp,a,d _ _ Aa];rw[show i+1+(s.size- (i+1))=s.size by omega]
 rfl
def An(l:E υ):Y:=⟨l.toArray⟩
def AE(l:E υ):(An l).size=l.length:=by show l.toArray.size=_;rw[sq]
def AD(l m:E υ):An l++An m=An (l++m):=by
 apply sX;apply uV;simp[An,tf]
def Ku(s:Y):An (sL s)=s:=by
 apply sX;apply uV;simp[An,sL]
def Oh(l:E υ):sL (An l)=l:=by simp[An,sL]
def GV(p s:Y):Option (It×Y):=
 if s.size<30 then O
 else if s.size<30+BI s 26 2+BI s 18 4 then O
 else if Lib.hasPrefix (s.extract 30 (30+BI s 26 2)).data.toList p.data.toList=ι then O
 else if BI s 8 2≠0/\BI s 8 2≠8 then O
 else J (⟨⟨(Lib.trimPrefix (s.extract 30 (30+BI s 26 2)).data.toList p.data.toList).toArray⟩,BI s 8 2,BI s 14 4,BI s 22 4,s.extract (30+BI s 26 2) (30+BI s 26 2+BI s 18 4)⟩,s.extract (30+BI s 26 2+BI s 18 4) s.size)
def XS{p s:Y}{a:It}{b:Y}(h:GV p s=J (a,b))(c:s.size<=40000)(w:U):
 μ ψ 173 #[G p,G s] w λr w' =>r=ε (η #[.agg a.v,G b,ζ θ])/\Al w w' :=by
 unfold GV at h;split at h
 .cases h
 rename_i h1;split at h
 .cases h
 rename_i h2;split at h
 .cases h
 rename_i h3;split at h
 .cases h
 rename_i h4;injection h with h;injection h with ha hb;subst ha hb;exact bA p s _ _ _ _ _ _ c Aa rfl rfl Aa (by simpa using h3) rfl rfl Aa rfl rfl w
def XT{p s:Y}(h:GV p s=O)(F:s.size<=40000)(w:U):
 μ ψ 173 #[G p,G s] w λr w' =>r=ε (η #[.agg #[G ⟨#[]⟩,I σ 0,I σ 0,I σ 0,G ⟨#[]⟩],G ⟨#[]⟩,ζ ι])/\Al w w' :=by
 have m:Al w (w.alloc (γ #[G ⟨#[]⟩,I σ 0,I σ 0,I σ 0,G ⟨#[]⟩] 131)):=(Ag.refl _ w).alloc _;have HZ:χ ((w.alloc (γ #[G ⟨#[]⟩,I σ 0,I σ 0,I σ 0,G ⟨#[]⟩] 131)).heap[w.heap.size]? =J (γ #[G ⟨#[]⟩,I σ 0,I σ 0,I σ 0,G ⟨#[]⟩] 131 (0,0))):=rh w _;have HO:=Af m;clear m;by_cases i:s.size<30
 .have e:(s.size:Z)<30:=Aa;clear h;go_in;exact zV
 have e:¬(s.size:Z)<30:=Aa;have N1:=Af (λW=>Il s 26 2 Aa Aa Aa W);have N2:=Af (λW=>Il s 18 4 Aa Aa Aa W);have N3:=Af (λW=>Il s 8 2 Aa Aa Aa W);have k:=Em s 26 2;have l:=Em s 18 4;have f:=Em s 8 2;obtain⟨a,c⟩: ∃a,30+BI s 26 2=a:=⟨_,rfl⟩;obtain⟨b,d⟩: ∃b,a+BI s 18 4=b:=⟨_,rfl⟩;unfold GV at h;rw[rc i,c,d] at h;have HCP:=Af (λW=>strings_CutPrefix (s.extract 30 a) p W);generalize BI s 26 2=k1 at*;generalize BI s 18 4=k2 at*;have y:k1<65536:=k;have z:k2<4294967296:=l;clear k l;have H:(30:Z)+(k1:Z)=(a:Z):=Aa;have L:(a:Z)+(k2:Z)=(b:Z):=Aa;have B:IntKind.u64.wrap (a:Z)=(a:Z):=by rw[ux];omega
 have C:IntKind.u64.wrap (b:Z)=(b:Z):=by rw[ux];omega
 have o:a<=100000:=Aa;have t:b<=5000000000:=Aa;by_cases v:s.size<b
 .have j:(s.size:Z)<(b:Z):=Aa;clear h HCP N3 f c d;go_in;go_wp2_with fail;refine(N1 _).mono ?_;rintro r w1 ⟨rfl,rfl⟩;go_wp2_with fail;refine(N2 _).mono ?_;rintro r w2 ⟨rfl,rfl⟩;exact zV
 have j:¬(s.size:Z)<(b:Z):=Aa;rw[rc v] at h;have x:30<=a:=Aa;have q:a<=s.size:=Aa;have u: ∀W,(Instr.slice 9 (G s) (J (I Q 30)) (J (I .u64 (a:Z))) O).run ψ W=.ok (G (s.extract 30 a)) W:=λW=>uy W 9 s Q .u64 30 a underlying9 Aa Aa Aa
 generalize BI s 8 2=k3 at*;have A:k3<65536:=f;clear f;generalize(⟨(Lib.trimPrefix (s.extract 30 a).data.toList p.data.toList).toArray⟩:Y)=nm at*;cases hpf:Lib.hasPrefix (s.extract 30 a).data.toList p.data.toList with
 |false=>
  rw[hpf] at HCP;clear h hpf c d;exact zP
 |true=>
  rw[hpf] at h HCP;rw[rc Ac] at h;have g:k3≠0/\k3≠8:=by
   by_cases n:k3≠0/\k3≠8
   .exact n
   rw[rc n] at h;cases h
  have h0:((k3:Z) !=0)=true:=by rw[rS];omega
  have D:((k3:Z) !=8)=true:=by rw[rS];omega
  clear h hpf c d g;exact zP
