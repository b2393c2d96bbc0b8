import Derived.Test.YtndfmgdhiallpaaGreatDoorVai
set_option linter.all false
set_option maxRecDepth 100000
set_option maxHeartbeats 4000000
open _root_ renaming Option.some->J,Option.none->O,Int->Z,Nat->N,Go.Value.int->I,Go.Value.string->G,Go.IntKind.i64->Q,ByteArray->Y,List->E,Go.World->U,Go.Value.slice->K,Go.Value->β,Go.Obj.cells->γ,Go.Value.pointer->δ,Go.Ending.returned->ε,Go.Value.bool->ζ,Go.Value.tuple->η,Bool.true->θ,Bool.false->ι,absurd->κ,Go.Calls->μ,Go.TypeId->ν,UInt8->υ,Array->φ,Go.RowKit.Hid->χ,Decidable.decide->Γ
namespace Go.Proofs.YtndfmgdhiallpaaGreatDoor
open Go.RowKit Go.Proofs.Tryz
def Xr{s:Y}{C:E N}{many a:N}{l:E N}(h:dec s C a=O):Cy s C many a l=none:=by unfold Cy;rw[h]
def Ui{s:Y}{C:E N}{many a a1:N}{l:E N}(h:dec s C a=J (16,a1))(b:l.length=0):Cy s C many a l=none:=by unfold Cy;rw[h];simp[b]
def MC{s:Y}{C:E N}{many a a1 y:N}{l:E N}(h:dec s C a=J (y,a1))(b:8*s.size<a1+Bd y):Cy s C many a l=none:=by unfold Cy;rw[h];simp only[b,vi,ite_self]
def MD{s:Y}{C:E N}{many a a1 y t:N}{l:E N}(h:dec s C a=J (y,a1))(c:BA y+Aq s a1 (Bd y)=t)(b:many<l.length+t):Cy s C many a l=none:=by unfold Cy;rw[h];simp only[c,b,vi,ite_self]
def OY{s:Y}{C:E N}{many a a1 y t:N}{l:E N}(h:dec s C a=J (y,a1))(h0:¬(y=16/\l.length=0))(d:a1+Bd y<=8*s.size)(c:BA y+Aq s a1 (Bd y)=t)(b:¬many<l.length+t):
 Cy s C many a l=J (a1+Bd y,l++List.replicate t (EW y l)):=by
 unfold Cy;rw[h];simp only[h0,uw,c,b,rc (show ¬8*s.size<a1+Bd y by omega)]
def Ik{s:Y}{C:E N}{many a:N}{l:E N}(h:l.length<many)(b:Cy s C many a l=O):GH s C many a l=none:=by rw[BZ h,b]
def ei(s:Y)(a y:N):BA y+Aq s a (Bd y)<=140:=by
 have h:=Cf s a (Bd y);have b:Bd y<=7:=by unfold Bd;repeat (first|split|omega)
 have hp:2^Bd y<=2^7:=rG Aa b;have c:BA y<=11:=by unfold BA;repeat (first|split|omega)
 omega
def jw{w:U}{base b n cap:N}{e:ν}{f:E β}(h:w.ownsRow base e 1 (K (J ⟨b,0,O⟩) n cap) n f):n<=cap:=by
 obtain⟨_,h|⟨i,g,a,d,_,j,c,_⟩⟩:=h
 .cases h.1
 injection d with hv1 hv2 hv3;omega
def jx:β->N
 | K _ n _=>n
 |_=>0
def qk(g:N)(s:Y)(hs:s.size<=140737488355328)(a:N)(o:β)(k:N)(f0:1<=k)(hk:k<=400)(ha:a<=8*s.size)(w:U)(h:Up w g s a o)(gs:N)(d1:N->Prop)(c3:¬d1 g)(d5: ∀k,d1 k->k<w.heap.size)(C:E N)(hC:C.length=19)(hS:CJ w gs d1 C):
 μ prog 244 #[δ (J ⟨g,0,O⟩),δ (J ⟨gs,0,O⟩),I Q k] w λr w' =>Ag (λk=>k=g) w w' /\
  ((∃a' l gr cp,GH s C k a []=J (a',l)/\l.length=k/\r=ε (η #[K (J ⟨gr,0,O⟩) k cp,ζ θ])/\Up w' g s a' o/\Bx w' gr 0 l/\w.heap.size<=gr/\k<=cp)\/(GH s C k a []=O/\r=ε (η #[K O 0 0,ζ ι]))):=by
 obtain⟨i0,a4,a6,a7,a8⟩:=rN Jf;have c8: ∀W:U,(Instr.makeSlice 33 (I Q 0) (I Q (k:Z))).run prog W=.ok (K (J ⟨W.heap.size,0,O⟩) 0 k) (W.alloc (γ (madeCells #[I Q 0] k) 3)):=by
  intro W;have h:=vE (P:=prog) W 33 3 i0 (I Q 0) underlying33 a4 a6 .i64 .i64 0 k Aa Aa (by rw[a8];omega) Aa;rw[a7,rO,ug] at h;exact h
 have e8:=h.lt;have hA:Ag (λ_=>False) w (w.alloc (γ (madeCells #[I Q 0] k) 3)):=(Ag.refl _ w).alloc _;have c1:=Af (h.kept hA (λx=>x));have d4:=Af (Ag.oldS (S:=λk=>k=g) hA);have b9:χ ((w.alloc (γ (madeCells #[I Q 0] k) 3)).ownsRow w.heap.size 3 1 (K (J ⟨w.heap.size,0,O⟩) 0 k) 0 (Ar [])):=World.ownsRow_made w _ k (rj _) (by unfold maxLen;omega) (by rw[vB,ug]);have HS:=Af hS;clear h hA hS;go_in;go_wp2_with fail;refine wp_scope_jumps 0 (λa' w' =>a'.tmps.size=72/\a'.defers=[]/\Ag (λk=>k=g) w w' /\GH s C k a []=O) (λ_ _=>0) rfl ?_ ?_
 case refine_2=>
  rintro⟨tm,df⟩ w' ⟨b2,c4,hO,a9⟩;simp only at b2 c4;subst c4;have HO:=Af hO;have b6:=Af a9;clear c8 hO a9;go_wp2_with fail;simp only[Exit.jump];refine rU (v:=η #[K O 0 0,ζ ι]) ?_ rfl ⟨HO,.inr ⟨b6,rfl⟩⟩;have e:=results_tmp2 results244 ((tm.setIfInBounds 6 (K O 0 0)).setIfInBounds 7 (ζ ι)) prog w';have e1:((tm.setIfInBounds 6 (Value.slice O 0 0)).setIfInBounds 7 (Value.bool ι)).getD 6 undef=K O 0 0:=by simp[b2]
  have e2:((tm.setIfInBounds 6 (Value.slice O 0 0)).setIfInBounds 7 (Value.bool ι)).getD 7 undef=ζ false:=by simp[b2]
  rw[e1,e2] at e;exact e
 go_wp2_with fail;clear c8;go_loopw [8,9,10,11,12] (λv _ _ _ _ wr=> ∃(l:E N) (ao:Option Addr) (cap a' :N),v=K ao l.length cap/\l.length<=k/\χ (a' <=8*s.size)/\χ (wr.ownsRow w.heap.size 3 1 (K ao l.length cap) l.length (Ar l))/\χ (Up wr g s a' o)/\χ (GH s C k a []=GH s C k a' l)/\χ (Ag (λk=>k=g) w wr)) (λv _ _ _ _ _=>k- jx v)
 .exact ⟨[],_,_,a,rfl,Ad,ha,b9,c1,rfl,d4⟩
 obtain⟨l,ao,cap,a',rfl,d8,HA,c,p,HEQ,HO⟩:=hrel;generalize c6:l.length=n at d8 c;have HLN:=Af c6;clear c6;by_cases hlt:n<k
 .have c7:(n:Z)<(k:Z):=Aa;have c0:=Af (Sp g s hs a' o (uh HA) gs d1 c3 C Aa wr (λk hk=>rW (d5 k hk) HO.size) (uh p) (HS.kept (uh HO) (λk hk e=>c3 (e ▸ hk))));go_wp2_with fail;refine c0.mono ?_;rintro r w1 ⟨a5,a1,d6,R,M⟩;have X:=Af (HO.trans a5);have HOWN1:=Af (Ck (uh c) a5 (λb hb e=>by have:=BP (uh c) b hb;omega));have e3:=Af R;clear c0;rcases M with⟨y,hd,rfl⟩|⟨hd,rfl⟩
  .have e6:y<19:=by have:=(FR hd).2.2;omega
   have HD:=Af hd;have f:=Af (mE g s hs a1 o y Aa d6 w1 R);have b3:=ei s a1 y;clear a5 R hd;by_cases T:y=16
   .subst T;by_cases d9:n=0
    .subst d9;go_wp2_with fail;go_step3
     try simp only[Exit.jump]
     exact⟨rfl,rfl,rfl,X,by rw[uh HEQ];exact Ik (by rw[uh HLN];exact hlt) (Ui (uh HD) (uh HLN))⟩
    have e5:((n:Z)==0)=false:=(by rw[re];omega);obtain⟨b,c2,b4,_,_⟩:=HOWN1.form Aa;injection b4 with hv1 hv2 hv3;subst hv1 hv3;have d7:w1.cell? ⟨b,n- 1,O⟩=J (I Q (l.getD (l.length- 1) 0:N)):=wD;have e4 :(n:Z)- 1<(n:Z):=Aa;have e9:(0:Z)<=(n:Z)- 1:=Aa;have f1:((n:Z)- 1).toNat=n- 1:=Aa;have f2:(1:Z)<=(n:Z):=Aa;have HW:χ (EW 16 l=l.getD (l.length- 1) 0):=Af rfl;generalize l.getD (l.length- 1) 0=x at d7 HW;have HNZ:χ (¬l.length=0):=(by unfold χ;rw[uh HLN];omega);clear hv2;generalize L:BA 16+Aq s a1 (Bd 16)=t at f b3;have HTT:=Af L;generalize B:Bd 16=bb at f;have HBB:=Af B;clear L B;go_wp2_with fail;refine f.mono ?_;rintro r w2 ⟨z,M⟩;have HO2:=Af (X.trans z);have HOWN2:=Af (Ck (uh HOWN1) z (λb hb e=>by have:=BP (uh HOWN1) b hb;omega));clear f z;rcases M with⟨hle,hup2,rfl⟩|⟨hle,hup2,nn,rfl⟩
    .have HUP2:=Af hup2;have HLE:=Af hle;clear hup2 hle;by_cases hbig:k<n+t
     .exact zN
     have hbI:¬(k:Z)- (n:Z)<(t:Z):=Aa;have HSTP:χ (Cy s C k a' l=J (a1+bb,l++List.replicate t x)):=by
      have:=OY (many:=k) (uh HD) (λhh=>HNZ hh.2) (by rw[uh HBB];exact HLE) (uh HTT) (by rw[uh HLN];exact hbig);rw[uh HW,uh HBB] at this;exact this
     go_wp2;go_loopw [8,64] (λvv i wr=> ∃(j:N) (ao2:Option Addr) (cap2:N),j<=t/\vv=K ao2 (n+j) cap2/\i=I Q j/\χ (wr.ownsRow w.heap.size 3 1 (K ao2 (n+j) cap2) (n+j) (Ar (l++List.replicate j x)))/\χ (Up wr g s (a1+bb) o)/\χ (Ag (λk=>k=g) w wr)) (λ_ i _=>t- (intOf i).toNat)
     .exact ⟨0,J ⟨b,0,O⟩,cap,Aa,rfl,rfl,(show World.ownsRow _ _ _ _ _ _ _ by simpa using uh HOWN2),HUP2,HO2⟩
     obtain⟨j,ao2,cap2,hj,rfl,rfl,c,p,HO⟩:=hrel;by_cases c5:j<t
     .have a2:(j:Z)<(t:Z):=Aa;have V:=Af (Ej (wr:=wr) (n:=(x:N)));have d:χ ((wr.alloc (γ #[I Q (x:N)] 3)).ownsRow w.heap.size 3 1 (K ao2 (n+j) cap2) (n+j) (Ar (l++List.replicate j x))):=c.alloc _;have a0:χ (w.heap.size<=(wr.alloc (γ #[I Q (x:N)] 3)).heap.size):=by have:=HO.size;unfold χ;simp only[rr];omega
      have HRA:=Af (p.kept ((Ag.refl (λ_=>False) wr).alloc (γ #[I Q (x:N)] 3)) (λx=>x));have HB:=Af (BP (uh d));go_wp2_with (at_builtin;refine wpList_append_lies _ rfl (.tmp 66) (.tmp 68) 33 rfl w.heap.size 3 i0 (I Q 0) 1 8 underlying33 a4 a6 a7 a8 rfl Aa (K ao2 (n+j) cap2) (n+j) _ rfl (uh d) ⟨wr.heap.size,0,O⟩ 1 1 [I Q (x:N)] rfl rfl (uh V) (by intro u hu;simp at hu;subst hu;rfl) Aa (by unfold maxLen;omega) Aa (uh a0) _ rfl ?_;intro g2 A w3 H D a3 b0;have HO3:=Af H;have HG3:=Af D;clear H D a3);go_roundw
      .refine ⟨j+1,J ⟨g2,0,O⟩,A,Aa,by rw[sM],by go_num, ?_, ?_, ?_⟩
       .have e:Ar (l++List.replicate (j+1) x)=Ar (l++List.replicate j x)++[I Q (x:N)]:=(by rw[tM,<-rm];simp[Ar]);rw[e];exact HO3
       .exact Wx
       exact zt
      exact Ae
     have a2:¬(j:Z)<(t:Z):=Aa;have F:j=t:=Aa;have HJE:=Af F;clear F;have d0:1<=t:=by have:=uh HTT;have hb:0<BA 16:=(by unfold BA;repeat (first|split|omega));omega
     have m:χ ((l++List.replicate j x).length=n+j):=(by unfold χ;rw[qU,rP,uh HLN]);go_wp2;go_roundw
     .refine ⟨l++List.replicate j x,ao2,cap2,a1+bb,by rw[uh m],by rw[uh m];omega,HLE, ?_,p, ?_,HO⟩
      .rw[uh m];exact c
      exact wH
     simp[jx];omega
    exact zO
   have e0:((y:Z)==16)=false:=by rw[re];omega
   have HNZ:χ (¬y=16):=T;by_cases b1:15<y
   .have b5:(15:Z)<(y:Z):=Aa;have HW:χ (EW y l=0):=(by unfold χ EW;rw[rc T,rd b1]);generalize L:BA y+Aq s a1 (Bd y)=t at f b3;have HTT:=Af L;generalize B:Bd y=bb at f;have HBB:=Af B;clear L B;go_wp2_with fail;refine f.mono ?_;rintro r w2 ⟨z,M⟩;have HO2:=Af (X.trans z);have HOWN2:=Af (Ck (uh HOWN1) z (λb hb e=>by have:=BP (uh HOWN1) b hb;omega));clear f z;rcases M with⟨hle,hup2,rfl⟩|⟨hle,hup2,nn,rfl⟩
    .have HUP2:=Af hup2;have HLE:=Af hle;clear hup2 hle;by_cases hbig:k<n+t
     .exact zN
     have hbI:¬(k:Z)- (n:Z)<(t:Z):=Aa;have HSTP:χ (Cy s C k a' l=J (a1+bb,l++List.replicate t 0)):=WC;go_wp2;go_loopw [8,64] (λvv i wr=> ∃(j:N) (ao2:Option Addr) (cap2:N),j<=t/\vv=K ao2 (n+j) cap2/\i=I Q j/\χ (wr.ownsRow w.heap.size 3 1 (K ao2 (n+j) cap2) (n+j) (Ar (l++List.replicate j 0)))/\χ (Up wr g s (a1+bb) o)/\χ (Ag (λk=>k=g) w wr)) (λ_ i _=>t- (intOf i).toNat)
     .exact wN
     obtain⟨j,ao2,cap2,hj,rfl,rfl,c,p,HO⟩:=hrel;by_cases c5:j<t
     .have a2:(j:Z)<(t:Z):=Aa;have V:=Af (Ej (wr:=wr) (n:=0));have d:χ ((wr.alloc (γ #[I Q 0] 3)).ownsRow w.heap.size 3 1 (K ao2 (n+j) cap2) (n+j) (Ar (l++List.replicate j 0))):=c.alloc _;have a0:χ (w.heap.size<=(wr.alloc (γ #[I Q 0] 3)).heap.size):=by have:=HO.size;unfold χ;simp only[rr];omega
      have HRA:=Af (p.kept ((Ag.refl (λ_=>False) wr).alloc (γ #[I Q 0] 3)) (λx=>x));have HB:=Af (BP (uh d));go_wp2_with (at_builtin;refine wpList_append_lies _ rfl (.tmp 66) (.tmp 68) 33 rfl w.heap.size 3 i0 (I Q 0) 1 8 underlying33 a4 a6 a7 a8 rfl Aa (K ao2 (n+j) cap2) (n+j) _ rfl (uh d) ⟨wr.heap.size,0,O⟩ 1 1 [I Q 0] rfl rfl (uh V) (by intro u hu;simp at hu;subst hu;rfl) Aa (by unfold maxLen;omega) Aa (uh a0) _ rfl ?_;intro g2 A w3 H D a3 b0;have HO3:=Af H;have HG3:=Af D;clear H D a3);go_roundw
      .refine ⟨j+1,J ⟨g2,0,O⟩,A,Aa,by rw[sM],by go_num, ?_, ?_, ?_⟩
       .have e:Ar (l++List.replicate (j+1) 0)=Ar (l++List.replicate j 0)++[I Q 0]:=(by rw[tM,<-rm];simp[Ar]);rw[e];exact HO3
       .exact Wx
       exact zt
      exact Ae
     have a2:¬(j:Z)<(t:Z):=Aa;have F:j=t:=Aa;have HJE:=Af F;clear F;have d0:1<=t:=by have:=uh HTT;have hb:0<BA y:=(by unfold BA;repeat (first|split|omega));omega
     have m:χ ((l++List.replicate j 0).length=n+j):=(by unfold χ;rw[qU,rP,uh HLN]);go_wp2;go_roundw
     .refine ⟨l++List.replicate j 0,ao2,cap2,a1+bb,by rw[uh m],by rw[uh m];omega,HLE, ?_,p, ?_,HO⟩
      .rw[uh m];exact c
      exact wH
     simp[jx];omega
    exact zO
   have b5:¬(15:Z)<(y:Z):=Aa;have HW:χ (EW y l=y):=by unfold χ EW;rw[rc T,rc b1]
   generalize L:BA y+Aq s a1 (Bd y)=t at f b3;have HTT:=Af L;generalize B:Bd y=bb at f;have HBB:=Af B;clear L B;go_wp2_with fail;refine f.mono ?_;rintro r w2 ⟨z,M⟩;have HO2:=Af (X.trans z);have HOWN2:=Af (Ck (uh HOWN1) z (λb hb e=>by have:=BP (uh HOWN1) b hb;omega));clear f z;rcases M with⟨hle,hup2,rfl⟩|⟨hle,hup2,nn,rfl⟩
   .have HUP2:=Af hup2;have HLE:=Af hle;clear hup2 hle;by_cases hbig:k<n+t
    .exact zN
    have hbI:¬(k:Z)- (n:Z)<(t:Z):=Aa;have HSTP:χ (Cy s C k a' l=J (a1+bb,l++List.replicate t y)):=WC;go_wp2;go_loopw [8,64] (λvv i wr=> ∃(j:N) (ao2:Option Addr) (cap2:N),j<=t/\vv=K ao2 (n+j) cap2/\i=I Q j/\χ (wr.ownsRow w.heap.size 3 1 (K ao2 (n+j) cap2) (n+j) (Ar (l++List.replicate j y)))/\χ (Up wr g s (a1+bb) o)/\χ (Ag (λk=>k=g) w wr)) (λ_ i _=>t- (intOf i).toNat)
    .exact wN
    obtain⟨j,ao2,cap2,hj,rfl,rfl,c,p,HO⟩:=hrel;by_cases c5:j<t
    .have a2:(j:Z)<(t:Z):=Aa;have V:=Af (Ej (wr:=wr) (n:=(y:N)));have d:χ ((wr.alloc (γ #[I Q (y:N)] 3)).ownsRow w.heap.size 3 1 (K ao2 (n+j) cap2) (n+j) (Ar (l++List.replicate j y))):=c.alloc _;have a0:χ (w.heap.size<=(wr.alloc (γ #[I Q (y:N)] 3)).heap.size):=by have:=HO.size;unfold χ;simp only[rr];omega
     have HRA:=Af (p.kept ((Ag.refl (λ_=>False) wr).alloc (γ #[I Q (y:N)] 3)) (λx=>x));have HB:=Af (BP (uh d));go_wp2_with (at_builtin;refine wpList_append_lies _ rfl (.tmp 66) (.tmp 68) 33 rfl w.heap.size 3 i0 (I Q 0) 1 8 underlying33 a4 a6 a7 a8 rfl Aa (K ao2 (n+j) cap2) (n+j) _ rfl (uh d) ⟨wr.heap.size,0,O⟩ 1 1 [I Q (y:N)] rfl rfl (uh V) (by intro u hu;simp at hu;subst hu;rfl) Aa (by unfold maxLen;omega) Aa (uh a0) _ rfl ?_;intro g2 A w3 H D a3 b0;have HO3:=Af H;have HG3:=Af D;clear H D a3);go_roundw
     .refine ⟨j+1,J ⟨g2,0,O⟩,A,Aa,by rw[sM],by go_num, ?_, ?_, ?_⟩
      .exact wd
      .exact Wx
      exact zt
     exact Ae
    have a2:¬(j:Z)<(t:Z):=Aa;have F:j=t:=Aa;have HJE:=Af F;clear F;have d0:1<=t:=by have:=uh HTT;have hb:0<BA y:=(by unfold BA;repeat (first|split|omega));omega
    have m:χ ((l++List.replicate j y).length=n+j):=(by unfold χ;rw[qU,rP,uh HLN]);go_wp2;go_roundw
    .refine ⟨l++List.replicate j y,ao2,cap2,a1+bb,by rw[uh m],by rw[uh m];omega,HLE, ?_,p, ?_,HO⟩
     .rw[uh m];exact c
     exact wH
    simp[jx];omega
   exact zO
  have HD:=Af hd;clear a5 R hd;go_wp2_with fail;go_step3
  try simp only[Exit.jump]
  exact⟨rfl,rfl,rfl,X,by rw[uh HEQ];exact Ik (by rw[uh HLN];exact hlt) (Xr (uh HD))⟩
 have c7:¬(n:Z)<(k:Z):=Aa;have c9:n=k:=Aa;obtain⟨b,c2,b4,e7,_⟩:=c.form Aa;injection b4 with hv1 hv2 hv3;subst hv1 hv3;have d3:=Af (Bx.ofOwns (uh HLN) (uh c));have HBB:=Af (BP (uh c) b rfl);have b7:=Af c9;have d2:χ (k<=cap):=by have:=jw (uh c);unfold χ;omega
 clear c9 hv2;go_wp2_with fail
 try simp only[Exit.jump]
 go_ret2;refine⟨HO,.inl ⟨a',l,b,cap,by rw[uh HEQ];exact QA (by rw[uh HLN];omega),by rw[uh HLN];exact uh b7, ?_,p,d3,HBB,d2⟩⟩;rw[<-uh b7];rfl
open Go.RowKit Go.Maps Go.Proofs.Tryz
def Cl{P:Program}{a:Func}{p t:Tmp}{ty:ν}(h:a.results= #[.cell p ty,.tmp t])(tmps:φ β)(w:U)(g:N)(t0:ν)(cs:φ β)(fr:N×N)(d:TypeDesc)
 (hp:tmps.getD p undef=δ (J ⟨g,0,O⟩))(hg:w.heap[g]? =J (γ cs t0 fr))
 (hu:P.underlying ty=J d)(hd:(match d with| .struct _| .array _ _=>θ|_=>ι)=θ)(hi:(P.info? ty).map (·.size)=J cs.size):
 (results a tmps).run P w=.ok (η #[.agg cs,tmps.getD t undef]) w:=WP
def mF(s:Y)(a:N):Aq s a 14=Aq s a 5+Aq s (a+5) 5*32+Aq s (a+10) 4*1024:=by
 rw[show(14:N)=5+9 from rfl,Mq,show(9:N)=5+4 from rfl,Mq];have e:a+5+5=a+10:=rfl;rw[e];omega
def aN{α:Type}(x:N)(p q:Bool)(u v:α):(if p=θ/\q=θ/\x≠0 then u else v)=if(Γ (x≠0)&&p&&q)=θ then u else v:=by
 by_cases a:x=0<;>cases p<;>cases q<;>simp[a]
def lB(n:N)(h:n<9223372036854775808):bits .and Q (n:Z) 31=((n%32:N):Z):=by
 have:=Dt n 31 h Aa;rw[show(31:N)=2^5- 1 from rfl,vt] at this;exact this
def pb(g:N)(f0:g≠1)(s:Y)(hs:s.size<=140737488355328)(a:N)(o:β)(ha:a<=8*s.size)(w:U)(a4:De w)(h:Up w g s a o):
 μ prog 148 #[δ (J ⟨g,0,O⟩)] w λr w' =>Ag (λk=>k=g) w w' /\
  ((∃a' L D gL gD,Ca s a=J (a',L,D)/\a' <=8*s.size/\L.length<=400/\D.length<=400/\r=ε (η #[.agg #[δ (J ⟨gL,0,O⟩),δ (J ⟨gD,0,O⟩)],ζ θ])/\Up w' g s a' o/\
   CJ w' gL (λk=>w.heap.size<=k/\k<w'.heap.size) L/\CJ w' gD (λk=>w.heap.size<=k/\k<w'.heap.size) D)\/
   (Ca s a=O/\r=ε (η #[.agg #[δ O,δ O],ζ ι]))):=by
 have h8:=h.lt;have hA:Ag (λ_=>False) w (w.alloc (γ #[δ O,δ O] 112)):=(Ag.refl _ w).alloc _;have c9:=Af (Ag.oldS (S:=λk=>k=g) hA);have q:=Af (a4.kept hA (λx=>x));have d8:χ ((w.alloc (γ #[δ O,δ O] 112)).heap[w.heap.size]? =J (γ #[δ O,δ O] 112 (0,0))):=rh w _;have c4:w.heap.size<(w.alloc (γ #[δ O,δ O] 112)).heap.size:=by simp only[rr];omega
 have c8:=Af (EY g s hs a o 14 Aa ha _ (h.kept hA (λx=>x)));clear a4 hA h;go_in;go_wp2_with fail;refine c8.mono ?_;rintro r w1 ⟨C,y⟩;have HO1:=Af (c9.trans C);have b4:=Af (q.kept C (λe=>f0 e.symm));have HZ1:=Af ((C.block w.heap.size c4 Aa).trans (uh d8));have g5:w.heap.size<w1.heap.size:=rW c4 C.size;clear c8 c9 q d8 c4 C;rcases y with⟨X,rfl,P⟩|⟨X,rfl,P⟩
 .rw[mF];have b1:=Cf s a 5;have b2:=Cf s (a+5) 5;have b3:=Cf s (a+10) 4;have V:=Af X;have d4:=Af P;clear X P;generalize f2:Aq s a 5=n1 at*;generalize f3:Aq s (a+5) 5=n2 at*;generalize f4:Aq s (a+10) 4=n3 at*;have a8:=Af f2;have a9:=Af f3;have b0:=Af f4;clear f2 f3 f4;generalize hh:n1+n2*32+n3*1024=hd;have i1:hd<16384:=Aa;have q1:bits .and Q (hd:Z) 31=(n1:Z):=by rw[lB hd Aa];omega
  have q2:bits .and Q ((hd:Z)/32) 31=(n2:Z):=by rw[show(hd:Z)/32=((hd/32:N):Z) by omega,lB _ Aa];omega
  have q3:(hd:Z)/1024=(n3:Z):=Aa;obtain⟨M,hM⟩: ∃M,M=257+n1:=⟨_,rfl⟩;obtain⟨F,hF⟩: ∃F,F=1+n2:=⟨_,rfl⟩;have h5:(257:Z)+(n1:Z)=(M:Z):=Aa;have h2:(1:Z)+(n2:Z)=(F:Z):=Aa;have h4:257<=M:=Aa;have h1:1<=F:=Aa;have h6:M<=288:=by have:2^5=32:=rfl;omega
  have h3:F<=32:=by have:2^5=32:=rfl;omega
  have p:=Af hM;have T:=Af hF;clear hh hM hF;by_cases i2:286<M
  .have g3:(286:Z)<(M:Z):=Aa;have HT:χ (Ca s a=O):=Kn (.inl (by rw[uh a8];have:=uh p;omega));exact zW
  have g3:¬(286:Z)<(M:Z):=Aa;by_cases i3:30<F
  .have f1:(30:Z)<(F:Z):=Aa;have HT:χ (Ca s a=O):=Kn (.inr (by rw[uh a9];have:=uh T;omega));exact zW
  have f1:¬(30:Z)<(F:Z):=Aa;have b7:=Af (jv g f0 s hs (a+14) o (4+n3) Aa (uh V) w1 (uh b4) (uh d4));rw[show((4+n3:N):Z)=4+(n3:Z) by omega] at b7;go_wp2_with fail;refine b7.mono ?_;rintro r w2 ⟨a0,y⟩;have d0:=Af (HO1.trans a0);have d9:=Af ((a0.block w.heap.size g5 Aa).trans (uh HZ1));have i4:=a0.size;clear b7 a0;rcases y with⟨c3,e9,R,gs,rfl,c2⟩|⟨B,rfl⟩
  .have c5:=Af c3;have f7:=Af e9;have g6:=Af R;have g9:=Af c2;have b5:=Af (qk g s hs (a+14+3*(4+n3)) o (M+(F)) Aa Aa c3 w2 R gs (λk=>w1.heap.size<=k/\k<w2.heap.size) (λh=>by have:=h.1;omega) (λk h=>h.2) _ (GI s (a+14) (4+n3)) c2);rw[show((M+(F):N):Z)=(M:Z)+((F:Z)) by omega] at b5;clear c3 e9 R c2;go_wp2_with fail;refine b5.mono ?_;rintro r w3 ⟨a1,y⟩;have HO3:=Af (d0.trans a1);have c0:=Af ((a1.block w.heap.size Aa Aa).trans (uh d9));have i5:=a1.size;clear b5 a1;rcases y with⟨a',l,t,n,H,c,rfl,a5,e4,i0,h7⟩|⟨B,rfl⟩
   .have d1:=Af (Sa (GI s (a+14) (4+n3)) H (uh c5));have d2:=Af H;have d5:=Af a5;have a6:=Af e4;have c6:=Af c;clear H a5 e4 c;have b: ∀j,l.getD j 0<=15:=λj=>by
     rcases sb j l.length with h|h
     .rw[qT,qY h];exact d1.1 _ (ro h)
     rw[qT,rL h];exact sl _
    have c:=uh c6;have e6:(l.take (M)).length=M:=(by rw[rY];omega);have e5:(l.drop (M)).length=F:=(by rw[tD];omega);have a3: ∀j,(l.take (M)).getD j 0<=15:=λj=>by
     rw[qT,td];split
     .have:=b j;rwa [qT] at this
     exact sl _
    have a2: ∀j,(l.drop (M)).getD j 0<=15:=λj=>by
     rw[qT,vq];have:=b (M+j);rwa [qT] at this
    have z:(l.take (M)).getD 256 0=l.getD 256 0:=by
     rw[qT,td,rd Aa,qT]
    have b6: ∀m:N,χ (μ prog 245 #[K (J ⟨t,0,O⟩) (M) n,K (J ⟨t,M,O⟩) (F) (n- (M))] (w3.drewN m) λr w' =>r=ε (ζ (Γ (l.getD 256 0≠0)&&Ei (l.take (M))&&Gj (l.drop (M))))/\w' =w3.drewN m):=λm=>by
     have hI:=uh a6;have e0 :Bx (w3.drewN m) t 0 l:=hI;have hD:=e0.drop (M);rw[rx] at hD;have:=aL t 0 (M) n (n- (M)) (l.take (M)) (l.drop (M)) Aa Aa Aa a3 a2 (w3.drewN m) (e0.take (M)) hD;rw[e6,e5,z] at this;exact this
    have b9:χ (Ca s a=if(Γ (l.getD 256 0≠0)&&Ei (l.take (M))&&Gj (l.drop (M)))=θ then J (a',l.take (M),l.drop (M)) else O):=by
     have e1:=uh a8;have e2:=uh a9;have e3:=uh b0;have h9:=Tr (s:=s) (a:=a) (a' :=a') (l:=l) (by have:=uh V;omega) (by rw[e1,e2,<-(uh p),<-(uh T)];omega) (by rw[e3];have:=uh c5;omega) (by rw[e3];exact f7) (by rw[e1,e2,e3,<-(uh p),<-(uh T)];exact d2);rw[e1,<-(uh p)] at h9;rw[χ,h9];exact aN _ _ _ _ _
    clear c b;generalize g2:(Γ (l.getD 256 0≠0)&&Ei (l.take (M))&&Gj (l.drop (M)))=bb at b6 b9;clear g2 z;have m1:(M:Z)<=(n:Z):=Aa;have m2:(0:Z)<=(M:Z):=Aa;have m3:((M:N):Z).toNat=M:=rO M;have m4:(M:Z)<=((M+F:N):Z):=Aa;have m5:M+F- M=F:=Aa;have m7:(M:Z)<=(M:Z)+(F:Z):=Aa;have g8:¬n=M:=Aa;go_wp2_with fail;cases bb with
    |false=>
     have HT:χ (Ca s a=O):=uh b9;go_quiet (first|(go_at_call 245;exact(uh (b6 _)).mono (λ_ _ h=>⟨h.1,_,h.2⟩)));have hz:=uh c0;exact zZ
    |true=>
     have HT:χ (Ca s a=J (a',l.take (M),l.drop (M))):=uh b9;go_quiet (first|(go_at_call 245;exact(uh (b6 _)).mono (λ_ _ h=>⟨h.1,_,h.2⟩)));go_wp2_with fail;have A :=QS t 0 n (l.take M) Aa a3 (w3.drewN nq).drew (show Bx (w3.drewN nq).drew t 0 (l.take M) from a6.take M);have c1:=a6.drop M;rw[rx] at c1;have f6:=Af c1;rw[e6] at A;have c7:=Af A;clear A c1;refine DY (S:=λW=>True) (late:=λ_=>θ) Ab ?_;refine Bo (i:=0) (v:=K (J ⟨t,0,O⟩) (M+F) n) (J 67) rfl rfl Ab rfl Ab Ab (λ_ _ _ h=>h) (.inl ⟨rfl,λW _=>by go_simp⟩) ?_;simp only[Act.put,rk,rA,rB];refine Bo (i:=1) (v:=I Q M) (J 68) rfl rfl Ab rfl Ab Ab (λ_ _ _ h=>h) (.inl ⟨rfl,λW _=>by go_simp⟩) ?_;simp only[Act.put,rk,rA,rB];refine Bo (i:=2) (v:=K (J ⟨t,0,O⟩) M n) (J 69) rfl rfl Ab rfl Ab Ab (λ_ _ _ h=>h) (.inl ⟨rfl,λW _=>by go_simp⟩) ?_;simp only[Act.put,rk,rA,rB];refine Bo (i:=4) (v:=K (J ⟨t,0,O⟩) (M+F) n) (J 71) rfl rfl Ab rfl Ab Ab (λ_ _ _ h=>h) (.inl ⟨rfl,λW _=>by go_simp⟩) ?_;simp only[Act.put,rk,rA,rB];refine Bo (i:=5) (v:=I Q M) (J 72) rfl rfl Ab rfl Ab Ab (λ_ _ _ h=>h) (.inl ⟨rfl,λW _=>by go_simp⟩) ?_;simp only[Act.put,rk,rA,rB];refine Bo (i:=6) (v:=K (J ⟨t,M,O⟩) F (n- M)) (J 73) rfl rfl Ab rfl Ab Ab (λ_ _ _ h=>h) (.inl ⟨rfl,λW _=>by go_simp⟩) ?_;simp only[Act.put,rk,rA,rB];refine AY (i:=3) Ab ?_;refine ri rfl (λK' u=> ?_);go_simp;refine c7.mono ?_;rintro r w4 ⟨rfl,d,e7⟩;refine u _ _ ⟨(λh=>by cases h), ?_⟩;clear u;have i6:=d.size;have f9:=Af (((HO3.drewN nq).drew).trans (Ag.oldS d));have d6:=Af (Up.kept (w:=(w3.drewN nq).drew) (uh d5) d (λx=>x));have g1:=Af ((d.block w.heap.size (show w.heap.size<w3.heap.size by omega) (λx=>x)).trans (uh c0));have a7:=Af (QS t M (n- M) (l.drop M) Aa a2 w4 (Bx.kept (w:=(w3.drewN nq).drew) (uh f6) d (λx=>x)));rw[e5] at a7;have d3:=Af e7;have g7:(w3.drewN nq).drew.heap.size=w3.heap.size:=rfl;clear e7 d c7;refine AY (i:=7) Ab ?_;refine ri rfl (λK' u=> ?_);go_simp;refine a7.mono ?_;rintro r w5 ⟨rfl,f,e8⟩;refine u _ _ ⟨(λh=>by cases h), ?_⟩;clear u;have i7:=f.size;have g0:=Af (f9.trans (Ag.oldS f));have d7:=Af (d6.kept f (λx=>x));have hz:=(f.block w.heap.size Aa (λx=>x)).trans (uh g1);have f8:=Af (d3.old f);have f5:=Af e8;clear e8 f a7 d3;refine AY (i:=8) Ab ?_;refine ri rfl (λK' u=> ?_);go_simp;refine u _ _ ⟨(λh=>by cases h), ?_⟩;clear u;refine AY (i:=9) Ab ?_;refine CW rfl rfl (xF 112 (.tmp 2) (.tmp 75) rfl w.heap.size #[δ (J ⟨w3.heap.size,0,O⟩),δ (J ⟨w4.heap.size,0,O⟩)] rfl rfl 112 _ hz BF rfl (DZ _ _) ?_);refine⟨(λh=>by cases h), ?_⟩;simp only[Act.put];refine AY (i:=10) Ab ?_;refine ri rfl (λK' u=> ?_);go_simp;refine u _ _ ⟨(λh=>by cases h), ?_⟩;clear u;refine EM Ab ?_;go_wp2_with fail;refine rU (Cl results148 _ _ w.heap.size 112 #[δ (J ⟨w3.heap.size,0,O⟩),δ (J ⟨w4.heap.size,0,O⟩)] (0,0) _ rfl (sw w5 w.heap.size _ _ _ _ hz) underlying112 rfl BF) rfl ⟨?_,.inl ⟨a',l.take M,l.drop M,w3.heap.size,w4.heap.size,HT,d1.2.2.2,Aa,Aa,rfl, ?_, ?_, ?_⟩⟩
     .exact g0.setRow _ (λh=>κ h (st _)) _
     .exact d7.kept ((Ag.refl (λk=>k=w.heap.size) w5).setRow w.heap.size (λ_=>rfl) _) Aa
     .have hq:=(Ag.refl (λk=>k=w.heap.size) w5).setRow w.heap.size (λ_=>rfl) #[δ (J ⟨w3.heap.size,0,O⟩),δ (J ⟨w4.heap.size,0,O⟩)];have g4:=hq.size;exact(f8.kept hq (λk hk e=>Aa)).mono (λk hk=>⟨Aa,Aa⟩)
     have hq:=(Ag.refl (λk=>k=w.heap.size) w5).setRow w.heap.size (λ_=>rfl) #[δ (J ⟨w3.heap.size,0,O⟩),δ (J ⟨w4.heap.size,0,O⟩)];have g4:=hq.size;exact(f5.kept hq (λk hk e=>Aa)).mono (λk hk=>⟨Aa,Aa⟩)
   have HT:χ (Ca s a=O):=by
    have e1:=uh a8;have e2:=uh a9;have e3:=uh b0;exact Tq (by rw[e1,e2,e3,<-(uh p),<-(uh T)];exact B)
   clear B;have hz:=uh c0;go_wp2_with fail;go_quiet (fail);exact zZ
  have HT:χ (Ca s a=O):=by
   have e3:=uh b0;rcases B with h|h
   .exact Tp (by rw[e3];exact h)
   exact OD (by rw[e3];exact h)
  clear B;have hz:=uh d9;go_wp2_with (refine sF rfl 112 (.tmp 2) (.tmp 44) rfl w.heap.size #[δ O,δ O] rfl rfl 112 _ hz BF rfl (DZ _ _) ?_);refine rU (Cl results148 _ _ w.heap.size 112 _ (0,0) _ rfl (sw w2 w.heap.size _ _ _ _ hz) underlying112 rfl BF) rfl ⟨?_,.inr ⟨HT,rfl⟩⟩;exact d0.setRow _ (λh=>κ h (st _)) _
 have hz:=uh HZ1;have V:=Af X;go_wp2_with (refine sF rfl 112 (.tmp 2) (.tmp 18) rfl w.heap.size #[δ O,δ O] rfl rfl 112 _ hz BF rfl (DZ _ _) ?_);refine rU (Cl results148 _ _ w.heap.size 112 _ (0,0) _ rfl (sw w1 w.heap.size _ _ _ _ hz) underlying112 rfl BF) rfl ⟨?_,.inr ⟨Jg (uh V),rfl⟩⟩;exact HO1.setRow _ (λh=>κ h (st _)) _
def strCells(s:Y):E β:=(s.data.map λb=>Value.int .u8 (b.toNat:Z)).toList
def Dz(s:Y):(strCells s).length=s.size:=by rw[strCells,sd,Array.size_map];rfl
def Sq(s:Y): ∀u∈strCells s,u.oneCell' =true:=by
 intro u a;simp[strCells] at a;obtain⟨b,_,rfl⟩:=a
 rfl
def Ix{P:Program}(w:U)(size:N)(s:Y):(Builtin.firstCells size s.size (G s)).run P w=.ok (strCells s).toArray w:=by
 simp only[Builtin.firstCells,strCells];rw[xU]
 rfl
def KA{P:Program}(w:U)(t u p e:ν)(i:TypeInfo)(n:P.underlying t=J (.slice e))(o:P.underlying u=J .string)(m:P.info? e=J i)(b:i.size=1)
 (g a d:N)(c:φ β)(l:w.heap[g]? =J (γ c e (0,0)))(s:Y)
 (f:a+s.size<=d)(k:a+s.size<=c.size):
 (Builtin.append_ #[t,u] p #[K (J ⟨g,0,O⟩) a d,G s]).run P w=
  .ok (K (J ⟨g,0,O⟩) (a+s.size) d) (w.setRow g (c.toList.take a++strCells s++c.toList.drop (a+(strCells s).length)).toArray):=by
 have j:=Ix (P:=P) w i.size s;have h:=ye P g (a*i.size) e (strCells s) 0 c w l (by rw[b,Dz];omega) (Sq s);simp only[sS,b,ug] at h j;simp[Builtin.append_,ta n,ta o,sizeOf,typeInfo,m,Builtin.lenOf,f,j,b,rH,h]
def KB{P:Program}(w:U)(t u A e:ν)(i:TypeInfo)(z:β)(v:P.underlying t=J (.slice e))(x:P.underlying u=J .string)(q:P.info? e=J i)(y:i.zero=J z)(d:i.size=1)
 (b:Addr)(a c:N)(f:E β)(m:f.length=a)(g: ∀j u,f[j]? =J u->w.cell? (b.add j)=J u)(s:Y)
 (B:c<a+s.size)(p:((a+s.size:N):Z)<=9223372036854775807)(o:Builtin.nextslicecap (a+s.size) c*i.bytes<=281474976710656):
 (Builtin.append_ #[t,u] A #[K (J b) a c,G s]).run P w=
  .ok (K (J ⟨w.heap.size,0,O⟩) (a+s.size) (grownCap w (a+s.size) c e))
   (w.drew.alloc (γ (f.toArray++(strCells s).toArray++Builtin.zeroCells z.cells (grownCap w (a+s.size) c e- (a+s.size))) e)):=by
 have r:¬(a+s.size<=c):=Aa;have k :¬(9223372036854775807<((a:Z)+(s.size:Z))):=Aa;have h :¬(281474976710656<Builtin.nextslicecap (a+s.size) c*i.bytes):=Aa;have n:=Ix (P:=P) w.drew i.size s;have l:=run_firstCells_some (P:=P) w.drew i.size a b a c f (by rw[d,ug];exact m) (by simpa using g);rw[d] at n l;simp[Builtin.append_,ta v,ta x,sizeOf,typeInfo,zeroValue,q,y,Builtin.lenOf,r,k,h,Question.forced,n,l,d,newRow,grownCap];congr 2;apply uV;simp[rm]
def OZ{P:Program}(w:U)(base:N)(t u M e:ν)(i:TypeInfo)(z:β)(H:P.underlying t=J (.slice e))(L:P.underlying u=J .string)(F:P.info? e=J i)(hz:i.zero=J z)
 (a:i.size=1)(A:i.bytes=1)(V:z.cells.size=1)(v:β)(n:N)(m:E β)(f:w.ownsRow base e 1 v n m)(s:Y)
 (p:n+s.size<=maxLen)(D:n+s.size<=140737488355328)(q:base<=w.heap.size):
 ∃ao cap w',(Builtin.append_ #[t,u] M #[v,G s]).run P w=.ok (K ao (n+s.size) cap) w' /\w'.ownsRow base e 1 (K ao (n+s.size) cap) (n+s.size) (m++strCells s)/\w.grownBy w' v.ownBlock/\(∀b:Addr,ao=J b->v.ownBlock=J b.block\/b.block=w.heap.size):=by
 have o:m.length=n:=by rw[f.1,ug]
 have c:(m++strCells s).length=(n+s.size)*1:=by rw[qU,Dz,o,ug]
 have d: ∀(old:N),old<n+s.size-> ∀(C:Option N),
  (w.drew.alloc (γ (m.toArray++(strCells s).toArray++Builtin.zeroCells z.cells (grownCap w (n+s.size) old e- (n+s.size))) e)).ownsRow base e 1
   (K (J ⟨w.heap.size,0,O⟩) (n+s.size) (grownCap w (n+s.size) old e)) (n+s.size) (m++strCells s)/\
  w.grownBy (w.drew.alloc (γ (m.toArray++(strCells s).toArray++Builtin.zeroCells z.cells (grownCap w (n+s.size) old e- (n+s.size))) e)) C:=by
  intro old ho C;have S:=grownCap_ge w (n+s.size) old e;have r:=grownCap_le_maxLen w (n+s.size) old e p;refine⟨⟨c,.inr ⟨w.heap.size,_,_,rfl,q,heap_alloc_new w.drew _,S,r, ?_, ?_⟩⟩,⟨rfl,rfl,rfl,Ad,λk T _=>heap_alloc_old w.drew _ T⟩⟩
  .rw[yf,yf,sq,sq,size_zeroCells,V,o,Dz];omega
  rw[Array.toList_append,Array.toList_append,<-c];exact xb
 rcases f.2 with⟨rfl,rfl⟩|⟨g,cap,y,rfl,R,X,a1,r,a0,l⟩
 .have hx:m=[]:=sj o;subst hx;by_cases h0:s.size=0
  .have B:strCells s=[]:=sj (by rw[Dz];exact h0);have W:=Ix (P:=P) w 1 s;rw[h0,B] at W;rw[h0,B];refine⟨O,0,w, ?_,rF w base e 1,⟨rfl,rfl,rfl,rj _,λ_ _ _=>rfl⟩,λb hb=>by cases hb⟩;simp[Builtin.append_,ta H,ta L,sizeOf,typeInfo,F,Builtin.lenOf,h0,a,W]
  have hr:=run_append_nil_string (P:=P) w t u M e i z H L F hz s Aa (by unfold maxLen at p;omega) (by rw[A];omega);have hgr:=d 0 Aa (Value.ownBlock (K O 0 0));simp only[rx,tp,Array.empty_append] at hgr ⊢;exact aab
 by_cases h:n+s.size<=cap
 .have hr:=KA (P:=P) w t u M e i H L F a g n cap y X s h Aa;refine⟨_,_,_,hr,⟨c,.inr ⟨g,cap,_,rfl,R,sw w g y _ e _ X,h,r, ?_, ?_⟩⟩,⟨rfl,rfl,rfl,Ad,λk _ T=>yo w g k _ (λe=>T (by simp[Value.ownBlock,e]))⟩,λb hb=>by injection hb with hb;subst hb;exact .inl rfl⟩
  .simp only[sq,qU,rY,tD,sd,Dz];omega
  rw[ug] at l;rw[l,<-c];exact xb
 have x: ∀j u,m[j]? =J u->w.cell? ((⟨g,0,O⟩:Addr).add j)=J u:=f.cells (g:=g) rfl;have hr:=KB (P:=P) w t u M e i z H L F hz a ⟨g,0,O⟩ n cap m o x s Aa (by unfold maxLen at p;omega) (growslice_fits Aa (by rw[A];omega));have hgr:=d cap Aa (Value.ownBlock (K (J ⟨g,0,O⟩) n cap));exact aab
def BW{P:Program}{w:U}{ops:φ Oper}{rest:E Oper}{o:Oper}{a:Act}{Q:Exit->Act->U->Prop}(l:o.guard=O)(x y:Operand)(t u:ν)
 (D:o.op=.call {callee:=.builtin .append,args:= #[x,y],argTypes:= #[t,u]})
 (base:N)(e:ν)(i:TypeInfo)(z:β)(L:P.underlying t=J (.slice e))(M:P.underlying u=J .string)(C:P.info? e=J i)(S:i.zero=J z)
 (f:i.size=1)(k:i.bytes=1)(m:z.cells.size=1)(v:β)(n:N)(p:E β)(H:a.eval x=v)(g:w.ownsRow base e 1 v n p)(s:Y)(R:a.eval y=G s)
 (j:n+s.size<=maxLen)(c:n+s.size<=140737488355328)(d:base<=w.heap.size)
 (h: ∀ao cap w',w'.ownsRow base e 1 (K ao (n+s.size) cap) (n+s.size) (p++strCells s)->w.grownBy w' v.ownBlock->(∀b:Addr,ao=J b->v.ownBlock=J b.block\/b.block=w.heap.size)->wpList P ops Q rest (a.put o.dst (K ao (n+s.size) cap)) w'):wpList P ops Q (o::rest) a w:=by
 refine vW l λ_ B=> ?_
 obtain⟨ao,cap,w',F,q,r,A⟩:=OZ (P:=P) w base t u o.type e i z L M C S f k m v n p g s j c d;unfold Oper.wp execOp;simp only[D,resolve,invoke,builtin,vc,vV,uR,yv,sP,tB,H,R,F];exact B _ _ (h ao cap w' q r A)
def jy{s:Y}{a:N}{l:E υ}(h:8*s.size<BT a+32):Gi s a l=.inr 2:=by unfold Gi;rw[rd h]
def ej{s:Y}{a n m:N}{l:E υ}(c:Aq s (BT a) 16=n)(b:Aq s (BT a+16) 16=m)(h:n+m≠65535):Gi s a l=.inr 2:=by
 unfold Gi;rw[c,b,rd h];split<;>rfl
def aO{s:Y}{a n m:N}{l:E υ}(h0:BT a+32<=8*s.size)(d:Aq s (BT a) 16=n)(c:Aq s (BT a+16) 16=m)(h:n+m=65535)(b:20000<l.length+n):Gi s a l=.inr 1:=by
 unfold Gi;rw[d,c,rc Aa,rc Aa,rd b]
def jz{s:Y}{a n m:N}{l:E υ}(h0:BT a+32<=8*s.size)(e:Aq s (BT a) 16=n)(d:Aq s (BT a+16) 16=m)(h:n+m=65535)(b:¬20000<l.length+n)(c:8*s.size<BT a+32+8*n):Gi s a l=.inr 2:=by
 unfold Gi;rw[e,d,rc Aa,rc Aa,rc b,rd c]
def jA{s:Y}{a n m:N}{l:E υ}(h0:BT a+32<=8*s.size)(e:Aq s (BT a) 16=n)(d:Aq s (BT a+16) 16=m)(h:n+m=65535)(b:¬20000<l.length+n)(c:¬8*s.size<BT a+32+8*n):
 Gi s a l=.inl ((BT a+32+8*n),(l++JG s (BT a/8+4) n)):=by
 unfold Gi;rw[e,d,rc Aa,rc Aa,rc b,rc c]
def jB(s:Y)(q n:N)(h:q+n<=s.size):(s.extract q (q+n)).size=n/\strCells (s.extract q (q+n))=Ak (JG s q n):=by
 have a:(s.extract q (q+n)).size=n:=by rw[rv];omega
 refine⟨a, ?_⟩;apply List.ext_getElem
 .rw[Dz,a];simp[Ak,JG]
 intro i b c;rw[Dz,a] at b;have d:s.data.size=s.size:=rfl;simp[strCells,Ak,JG,As,ByteArray.data_extract];rw[uO Aa,AL (FC _)]
 rfl
def Lu.pushes{w w1 w3:U}{g:N}{S:N->Prop}(h:S g){s:Y}{a:N}{l bs:E υ}{ao ao2:Option Addr}{cap cap2 H:N}(o:S H)
 (n: ∀b:Addr,ao=J b->S b.block)(f:Ag S w w1)(c:Up w1 g s a (K ao l.length cap))(j:w1.ownsRow 0 5 1 (K ao l.length cap) l.length (Ak l))
 (ho3:w3.ownsRow 0 5 1 (K ao2 (l.length+bs.length) cap2) (l.length+bs.length) (Ak l++Ak bs))(d:w1.grownBy w3 (Value.slice ao l.length cap).ownBlock)(i: ∀b:Addr,ao2=J b->(Value.slice ao l.length cap).ownBlock=J b.block\/b.block=H):
 Up w3 g s a (K ao l.length cap)/\Ag S w (w3.setCell ⟨g,2,O⟩ (K ao2 (l.length+bs.length) cap2))/\Lu (w3.setCell ⟨g,2,O⟩ (K ao2 (l.length+bs.length) cap2)) g S s a (l++bs):=by
 have hup3:Up w3 g s a (K ao l.length cap):=(d.block g c.lt (λq=>Jo j q.symm c rfl)).trans c;have m:Ag S w w3:=f.grown d (λk _ e=>by
  cases ao with
  |none=>cases e
  |some b=>injection e with e;subst e;exact n b rfl)
 have hl4:(l++bs).length=l.length+bs.length:=qU;refine⟨hup3,m.setCell (p:=⟨g,2,O⟩) (λ_=>h) _,ao2,cap2, ?_, ?_, ?_⟩
 .rw[hl4];exact hup3.set2 _
 .have e2:Ak (l++bs)=Ak l++Ak bs:=by simp only[Ak,sv]
  exact aaM
 intro b hb;rcases i b hb with h5|h5
 .cases ao with
  |none=>cases h5
  |some b' =>injection h5 with h5;rw[<-h5];exact n b' rfl
 rw[h5];exact o
def mG(g:N)(S:N->Prop)(hSg:S g)(s:Y)(hs:s.size<=140737488355328)(a:N)(l:E υ)(hl:l.length<=20000)(ha:a<=8*s.size)(w:U)(hF:Bs S w)(h:Lu w g S s a l):
 μ prog 146 #[δ (J ⟨g,0,O⟩)] w λr w' =>Ag S w w' /\∃e:N,r=ε (I Q e)/\jq s (Gi s a l) w' g S e:=by
 obtain⟨i0,d4,d7,d8,d9⟩:=rN FU;obtain⟨ao,D,hr,c4,c5⟩:=h;have a8:=Af (oM g s hs a (K ao l.length D) ha w hr);have hp:=YO ha;have e6:=(NX a).2.2;have HR:=Af hr;have a3:=Af c4;have d1:=Af c5;have M:=Af (λh=>jy (s:=s) (a:=a) (l:=l) h);have a7:=Af (λn m A z h=>ej (s:=s) (a:=a) (l:=l) (n:=n) (m:=m) A z h);have a6:=Af (λn m h0 A z h h1=>aO (s:=s) (a:=a) (l:=l) (n:=n) (m:=m) h0 A z h h1);have a5:=Af (λn m h0 A z h h1 h2=>jz (s:=s) (a:=a) (l:=l) (n:=n) (m:=m) h0 A z h h1 h2);have a4:=Af (λn m h0 A z h h1 h2=>jA (s:=s) (a:=a) (l:=l) (n:=n) (m:=m) h0 A z h h1 h2);clear hr c4 c5;generalize BT a=p at*;generalize Gi s a l=R at*;go_in;go_wp2_with fail;refine a8.mono ?_;rintro r w1 ⟨rfl,H,b9⟩;have c8:=Af b9;have a0:=Af (EY g s hs p (K ao l.length D) 16 Aa hp w1 H);clear a8 H b9;go_wp2_with fail;refine a0.mono ?_;rintro r w2 ⟨c0,V⟩;have a2:=Af (c8.trans c0);clear a0 c0;rcases V with⟨b6,rfl,t⟩|⟨b6,rfl,t⟩
 .have a1:=Af (EY g s hs (p+16) (K ao l.length D) 16 Aa b6 w2 t);clear t;go_wp2_with fail;refine a1.mono ?_;rintro r w3 ⟨c1,V⟩;have HO3:=Af (a2.trans c1);clear a1 c1;rcases V with⟨d5,rfl,u⟩|⟨d5,rfl,u⟩
  .have b1:Aq s p 16<65536:=Cf s p 16;have b2:Aq s (p+16) 16<65536:=Cf s (p+16) 16;generalize A:Aq s p 16=n at*;generalize z:Aq s (p+16) 16=m at*;have k:=a7 n m rfl rfl;have j:=a6 n m Aa rfl rfl;have i:=a5 n m Aa rfl rfl;have f:=a4 n m Aa rfl rfl;clear A z a7 a6 a5 a4 M;have C:=Af u;clear u;by_cases ht:n+m=65535
   .have d6:((m:Z)==65535- (n:Z))=true:=(by rw[tT];omega);have e5:(m:Z)=65535- (n:Z):=Aa;have d:=Af (dw g s (p+16+16) ao l.length D n hl w3 (uh C));have d3:p+16+16=8*(p/8+4):=Aa;have b3:χ (Up w3 g s (8*(p/8+4)) (K ao l.length D)):=by have:=uh C;rw[d3] at this;exact this
    by_cases o:20000<l.length+n
    .rw[qX (show ¬l.length+n<=20000 by omega)] at d;have HB:=Af (j ht o);clear k j i f;go_wp2_with fail;refine d.mono ?_;rintro r w4 ⟨rfl,rfl⟩;go_wp2;go_ret;exact⟨HO3.of_g hSg,1,rfl,.inr ⟨HB,Aa⟩⟩
    rw[qZ (show l.length+n<=20000 by omega)] at d;by_cases F:8*s.size<p+32+8*n
    .have y:=Af (VW g s hs (p/8+4) (K ao l.length D) n Aa Aa Aa w3 (uh b3));have HB:=Af (i ht o F);clear k j i f;go_wp2_with fail;refine d.mono ?_;rintro r w4 ⟨rfl,rfl⟩;go_wp2_with fail;refine y.mono ?_;rintro r w5 ⟨rfl,rfl⟩;exact hP
    have y:=Af (ZW g s hs (p/8+4) (K ao l.length D) n Aa w3 (uh b3));have HB:=Af (f ht o F);clear k j i f;go_wp2_with fail;refine d.mono ?_;rintro r w4 ⟨rfl,rfl⟩;go_wp2_with fail;refine y.mono ?_;rintro r w5 ⟨rfl,c,c3⟩;have L:=Af (HO3.trans c3);have b0:=Af c;have e1:=c.c2;have e3:=c.thaw 2;have B:=Af (Co (uh a3) (uh L) (λb hb=>Jo (uh a3) hb (uh HR)));obtain⟨X,c6⟩:=jB s (p/8+4) n Aa;have c7:χ (S w5.heap.size):=hF _ (by have:=L.size;omega);generalize s.extract (p/8+4) (p/8+4+n)=x at X c6 ⊢;have T:=Tj s (p/8+4) n;have d0:=Af (λe0 ao2 cap2=>Lu.pushes (w:=w) (w1:=w5) (w3:=e0) (ao2:=ao2) (cap2:=cap2) (bs:=JG s (p/8+4) n) hSg (uh c7) (uh d1) (L.of_g hSg) (uh b0) (uh B));clear c c3 y d;go_wp2_with (at_builtin;refine BW rfl (.tmp 53) (.tmp 54) 62 9 rfl 0 5 i0 (I .u8 0) underlying62 underlying9 d4 d7 d8 d9 rfl (K ao l.length D) l.length _ rfl (uh B) x rfl (by unfold maxLen;omega) Aa Aa ?_;intro d2 b4 w6 W b5 b7;rw[X,c6] at W;rw[X];obtain⟨v,P,q⟩:=d0 w6 d2 b4 (by rw[T];exact W) b5 b7;rw[T] at P q;have e2:=v.c2;have e4:=v.thaw 2;have c9:=Af P;have a9:=Af q;clear W b5 b7 v P q);go_ret;exact⟨c9,0,rfl,.inl ⟨_,_,HB,rfl,Aa,by rw[qU,T];omega,by rw[show p+32+8*n=8*(p/8+4)+8*n by omega];exact uh a9⟩⟩
   have d6:((m:Z)==65535- (n:Z))=false:=by rw[re];omega
   have HB:=Af (k ht);clear k j i f;exact hP
  have HB:=Af (M Aa);exact hP
 have HB:=Af (M Aa);go_wp2;go_ret;exact⟨a2.of_g hSg,2,rfl,.inr ⟨HB,Aa⟩⟩
def pc(s:Y)(a:N):Aq s a 3=Aq s a 1+Aq s (a+1) 2*2:=by
 rw[show(3:N)=1+2 from rfl,Mq]
def aP{s:Y}{a:N}{l:E υ}(h:8*s.size<a+3):DT s a l=.inr 2:=by unfold DT;rw[rd h]
def Xs{s:Y}{a:N}{l:E υ}(h:¬8*s.size<a+3):DT s a l=Es s a l:=by unfold DT;rw[rc h]
def mH{s:Y}{a:N}{l:E υ}(h:Aq s (a+1) 2=0):Es s a l=Gi s (a+3) l:=by unfold Es;rw[h];rfl
def mI{s:Y}{a:N}{l:E υ}(h:Aq s (a+1) 2=1):Es s a l=EU s BO Cz (a+3) l:=by unfold Es;rw[h];rfl
def jC{s:Y}{a:N}{l:E υ}(h:Aq s (a+1) 2=2)(b:Ca s (a+3)=O):Es s a l=.inr 2:=by unfold Es;rw[h];simp only[b]
def jD{s:Y}{a a' :N}{l:E υ}{L D:E N}(h:Aq s (a+1) 2=2)(b:Ca s (a+3)=J (a',L,D)):Es s a l=EU s L D a' l:=by unfold Es;rw[h];simp only[b]
def mJ{s:Y}{a:N}{l:E υ}(h:Aq s (a+1) 2=3):Es s a l=.inr 2:=by unfold Es;rw[h];rfl
def Bs.more{S:N->Prop}{w w' :U}(h:Bs S w)(b:w.heap.size<=w'.heap.size):Bs S w' :=λk a=>h k (rz b a)
def mK(g:N)(c7:g≠1)(S:N->Prop)(m:S g)(s:Y)(hs:s.size<=140737488355328)(a:N)(l:E υ)(hl:l.length<=20000)(ha:a<=8*s.size)
 (X W:N)(d6:N->Prop)(a5: ∀k,d6 k->¬S k)(w:U)(hF:Bs S w)(a0:De w)(h:Lu w g S s a l)(c3:CJ w X d6 BO)(c1:CJ w W d6 Cz):
 μ prog 76 #[δ (J ⟨g,0,O⟩),.agg #[δ (J ⟨X,0,O⟩),δ (J ⟨W,0,O⟩)]] w λr w' =>
  Ag S w w' /\∃(b:Bool) (e:N),r=ε (η #[ζ b,I Q e])/\jq s (DT s a l) w' g S e/\(e=0->b=Γ (Aq s a 1=1)):=by
 have f4:g<w.heap.size:=by obtain⟨_,_,hr,_⟩:=h;exact hr.lt
 obtain⟨ao,cp,hr,d1,d4⟩:=h;have hA:Ag (λ_=>False) w (w.alloc (γ #[δ (J ⟨X,0,O⟩),δ (J ⟨W,0,O⟩)] 112)):=(Ag.refl _ w).alloc _;have HN:=Af (EY g s hs a (K ao l.length cp) 3 Aa ha _ (hr.kept hA (λx=>x)));have b5:=Af (Ag.oldS (S:=S) hA);have R:=Af (CL d1 hA);have T:=Af (hr.kept hA (λx=>x));have e7:=Af d4;have P:=Af (c3.old hA);have M:=Af (c1.old hA);have t:=Af (a0.kept hA (λx=>x));have H:χ ((w.alloc (γ #[δ (J ⟨X,0,O⟩),δ (J ⟨W,0,O⟩)] 112)).heap[w.heap.size]? =J (γ #[δ (J ⟨X,0,O⟩),δ (J ⟨W,0,O⟩)] 112 (0,0))):=rh w _;have a7:w.heap.size<(w.alloc (γ #[δ (J ⟨X,0,O⟩),δ (J ⟨W,0,O⟩)] 112)).heap.size:=by simp only[rr];omega
 clear hr d1 d4 c3 c1 a0 hA;go_in;go_wp2_with fail;refine HN.mono ?_;rintro r w1 ⟨d,a6⟩;have HO1:=Af (b5.trans (d.of_g m));have a1: ∀a',Up w1 g s a' (K ao l.length cp)->Lu w1 g S s a' l:=λa' hu=>Lu.next (uh T) (uh R) (uh e7) d hu
 have b6:=Af a1;have b0:=Af (P.kept d (λk hk e=>a5 k hk (e ▸ m)));have a8:=Af (M.kept d (λk hk e=>a5 k hk (e ▸ m)));have a4:=Af (t.kept d (λe=>c7 e.symm));have c6:=(d.block w.heap.size a7 Aa).trans (uh H);have f5:w.heap.size<w1.heap.size:=rW a7 d.size;have p:=Af (hF.more (w' :=w1) Aa);clear HN b5 R T P M t H a7 d a1;rcases a6 with⟨v,rfl,n⟩|⟨v,rfl,n⟩
 .have o:=Af (Xs (s:=s) (a:=a) (l:=l) Aa);rw[pc];have b1:=Cf s a 1;have b2:=Cf s (a+1) 2;have d7:=Af (mH (s:=s) (a:=a) (l:=l));have d8:=Af (mI (s:=s) (a:=a) (l:=l));have b3:=Af (jC (s:=s) (a:=a) (l:=l));have b4:=Af (λa' L D=>jD (s:=s) (a:=a) (l:=l) (a' :=a') (L:=L) (D:=D));have d9:=Af (mJ (s:=s) (a:=a) (l:=l));have HS:=Af (b6 _ n);have V:=Af n;clear n;generalize c9:Aq s a 1=n1 at*;have e5:=Af c9;clear c9;generalize Aq s (a+1) 2=n2 at*;generalize hh:n1+n2*2=hd;have q1:bits .and Q (hd:Z) 1=(n1:Z):=by rw[YN hd Aa];omega
  have q2:(hd:Z)/2=(n2:Z):=Aa;have C:((n1:Z)==1)=Γ (n1=1):=by
   by_cases h1:n1=1
   .subst h1;rfl
   rw[qX h1,re];omega
  clear hh;have HBL:χ (Γ (n1=1)=Γ (Aq s a 1=1)):=by unfold χ;rw[uh e5]
  generalize Γ (n1=1)=bl at C HBL;by_cases h0:n2=0
  .subst h0;have HBE:=Af (o.trans (d7 rfl));have HP:=Af (mG g S m s hs (a+3) l hl v w1 (uh p) (uh HS));go_wp2_with fail;exact Wh
  by_cases h1:n2=1
  .subst h1;have HBE:=Af (o.trans (d8 rfl));have HP:=Af (Ue g S m s hs (a+3) l hl v X W d6 a5 BO Cz (by rw[BH];omega) (by rw[Dm];omega) w1 (uh p) (uh HS) (uh b0) (uh a8));go_wp2_with (refine uC rfl 112 (.tmp 3) rfl w.heap.size rfl 112 #[δ (J ⟨X,0,O⟩),δ (J ⟨W,0,O⟩)] (0,0) _ c6 underlying112 rfl BF ?_);exact Wh
  have f1:((n2:Z)==0)=false:=by rw[re];omega
  have f2:((n2:Z)==1)=false:=by rw[re];omega
  by_cases h2:n2=2
  .subst h2;have e0:=Af (λa' L D=>b4 a' L D rfl);have e4:=Af (b3 rfl);have HT:=Af (pb g c7 s hs (a+3) (K ao l.length cp) v w1 (uh a4) (uh V));go_wp2_with fail;refine HT.mono ?_;rintro r w2 ⟨ho2,a6⟩;have d3:=ho2.size;have HO2:=Af (HO1.trans (ho2.of_g m));clear HT;rcases a6 with⟨a',L,D,gL,i,c,e8,hL,hD,rfl,B,c5,c4⟩|⟨c,rfl⟩
   .have HBE:=Af (o.trans (e0 a' L D c));have j:Ag (λk=>k=w2.heap.size) w2 ((w2.alloc (γ #[δ O,δ O] 112)).setRow w2.heap.size #[δ (J ⟨gL,0,O⟩),δ (J ⟨i,0,O⟩)]):=((Ag.refl (λk=>k=w2.heap.size) w2).alloc _).setRow w2.heap.size (λ_=>rfl) _;have F:(w2.alloc (γ #[δ O,δ O] 112)).heap[w2.heap.size]? =J (γ #[δ O,δ O] 112 (0,0)):=rh w2 _;have e9:=sw (w2.alloc (γ #[δ O,δ O] 112)) w2.heap.size _ #[δ (J ⟨gL,0,O⟩),δ (J ⟨i,0,O⟩)] _ _ F;have a3:=B.kept j Aa;obtain⟨b7,b9,y,f,A⟩:=uh HS;have z :=(uh V);have d5:Lu w2 g S s a' l:=by
     have e:=y.c2.symm.trans z.c2;injection e with e;injection e with e1 e2 e3;subst e1 e3;exact Lu.next y f A ho2 B
    have a2:Lu ((w2.alloc (γ #[δ O,δ O] 112)).setRow w2.heap.size #[δ (J ⟨gL,0,O⟩),δ (J ⟨i,0,O⟩)]) g (λk=>S k/\¬(w1.heap.size<=k/\k<w2.heap.size)) s a' l:=by
     have e:=y.c2.symm.trans z.c2;injection e with e;injection e with e1 e2 e3;subst e1 e3;have d2:=Co f ho2 (λb C=>Jo f C y);have c8: ∀b,(Value.slice b7 l.length b9).ownBlock=J b->b<w1.heap.size:=λb C=>by
      obtain⟨f0,hg⟩:=CV f C;exact(qW.1 hg).1
     refine⟨b7,b9,a3,Co d2 j (λb C e=>by have:=c8 b C;omega),λb C=>⟨A b C,λhh=> ?_⟩⟩;have:=c8 b.block (by rw[C];rfl);omega
    have c0:Bs (λk=>S k/\¬(w1.heap.size<=k/\k<w2.heap.size)) ((w2.alloc (γ #[δ O,δ O] 112)).setRow w2.heap.size #[δ (J ⟨gL,0,O⟩),δ (J ⟨i,0,O⟩)]):=λk hk=>by
     have:=j.size;exact⟨p k Aa,λhh=>Aa⟩
    have HP:=Af (Ue g (λk=>S k/\¬(w1.heap.size<=k/\k<w2.heap.size)) ⟨m,λhh=>Aa⟩ s hs a' l hl e8 gL i (λk=>w1.heap.size<=k/\k<w2.heap.size) (λk hk hh=>hh.2 hk) L D hL hD _ c0 a2 (c5.kept j (λk hk e=>Aa)) (c4.kept j (λk hk e=>Aa)));have q:=Af j;have u:S w2.heap.size:=p _ d3;clear j a3 z d5 a2 c0 B c5 c4 c ho2 y f A;go_wp2_with (first
     |(refine sF rfl 112 (.tmp 9) (.tmp 43) rfl w2.heap.size #[δ (J ⟨gL,0,O⟩),δ (J ⟨i,0,O⟩)] rfl rfl 112 _ F BF rfl (DZ _ _) ?_)
     |(refine uC rfl 112 (.tmp 9) rfl w2.heap.size rfl 112 #[δ (J ⟨gL,0,O⟩),δ (J ⟨i,0,O⟩)] (0,0) _ e9 underlying112 rfl BF ?_))
    refine HP.mono ?_;rintro r w4 ⟨d0,e,rfl,hsym⟩;have e6:=Af ((HO2.trans (q.mono (λk _ e=>e ▸ u))).trans (d0.mono (λk _ h=>h.1)));have HSY:χ (jq s (EU s L D a' l) w4 g S e):=by
     rcases hsym with⟨a9,l9,h1,h2,h3,h4,h5⟩|h
     .exact .inl ⟨a9,l9,h1,h2,h3,h4,h5.mono1 (λk h=>h.1)⟩
     exact .inr h
    clear d0 hsym HP;go_wp2;go_ret2;exact⟨e6,bl,e,rfl,by rw[uh HBE];exact uh HSY,λ_=>uh HBL⟩
   have HBD:=Af (o.trans (e4 c));have F:(w2.alloc (γ #[δ O,δ O] 112)).heap[w2.heap.size]? =J (γ #[δ O,δ O] 112 (0,0)):=rh w2 _;have q:=Af (((Ag.refl (λk=>k=w2.heap.size) w2).alloc (γ #[δ O,δ O] 112)).setRow w2.heap.size (λ_=>rfl) #[δ O,δ O]);have u:S w2.heap.size:=p _ d3;clear c ho2;go_wp2_with (refine sF rfl 112 (.tmp 9) (.tmp 43) rfl w2.heap.size #[δ O,δ O] rfl rfl 112 _ F BF rfl (DZ _ _) ?_);go_ret2;exact⟨HO2.trans (q.mono (λk _ e=>e ▸ u)),ι,2,rfl,.inr ⟨HBD,Aa⟩,λh=>by cases h⟩
  have f3:((n2:Z)==2)=false:=by rw[re];omega
  have h3:n2=3:=Aa;have HBD:=Af (o.trans (d9 h3));clear h3;exact aai
 have HBD:=Af (aP (l:=l) v);exact aai
def lC(v:β)(n:N):N:=match v with
 | ζ θ=>0
 |_=>n
def ql(s:Y)(b:Bool)(a:N)(l:E υ):Prop:=a<=8*s.size/\l.length<=20000/\((b=ι/\DV s 0 []=DV s a l)\/(b=θ/\DV s 0 []=.inl (a,l)))
def en(s:Y)(hs:s.size<=140737488355328)(w:U)(H:De w):
 μ prog 43 #[G s] w λr w' =>r=ε (η #[G (Az s).1,I Q (Az s).2.1,I Q (Az s).2.2])/\Al w w' :=by
 have hG:1<w.heap.size:=H.1;have A:Al w (w.alloc (γ #[G s,I Q 0,K O 0 0] ov)):=(Ag.refl _ w).alloc _;have y:Up (w.alloc (γ #[G s,I Q 0,K O 0 0] ov)) w.heap.size s 0 (K O 0 0):=rh w _;have c6:(w.alloc (γ #[G s,I Q 0,K O 0 0] ov)).heap.size=w.heap.size+1:=by simp only[rr]
 have c:=H.kept A (λx=>x);have P:=Af (Xq (w.alloc (γ #[G s,I Q 0,K O 0 0] ov)));generalize a9:w.alloc (γ #[G s,I Q 0,K O 0 0] ov)=w0 at A y c6 c P;have b9:=Af a9;go_in;go_wp2_with fail;clear a9 b9;refine P.mono ?_;rintro r w1 ⟨z,g2,rfl,u,a7,a8⟩;have d3:=u.size;have hz:(w1.alloc (γ #[δ O,δ O] 112)).heap[w1.heap.size]? =J (γ #[δ O,δ O] 112 (0,0)):=rh w1 _;have F:=sw (w1.alloc (γ #[δ O,δ O] 112)) w1.heap.size _ #[δ (J ⟨z,0,O⟩),δ (J ⟨g2,0,O⟩)] _ _ hz;have f:Ag (λk=>k=w1.heap.size) w1 ((w1.alloc (γ #[δ O,δ O] 112)).setRow w1.heap.size #[δ (J ⟨z,0,O⟩),δ (J ⟨g2,0,O⟩)]):=((Ag.refl (λk=>k=w1.heap.size) w1).alloc _).setRow w1.heap.size (λ_=>rfl) _;have d4:((w1.alloc (γ #[δ O,δ O] 112)).setRow w1.heap.size #[δ (J ⟨z,0,O⟩),δ (J ⟨g2,0,O⟩)]).heap.size=w1.heap.size+1:=by simp[World.setRow]
 have a6:=Af ((y.kept u (λx=>x)).kept f Aa);have p:=Af (a7.kept f (λk j e=>Aa));have q:=Af (a8.kept f (λk j e=>Aa));have m:=Af ((c.kept u (λx=>x)).kept f Aa);have b5:χ (Al w ((w1.alloc (γ #[δ O,δ O] 112)).setRow w1.heap.size #[δ (J ⟨z,0,O⟩),δ (J ⟨g2,0,O⟩)])):=(A.trans u).transNew f (λk j h=>κ j Aa);have a0:=Af F;clear f a7 a8 u P A y c F;go_wp2_with (refine sF rfl 112 (.tmp 6) (.tmp 13) rfl w1.heap.size #[δ (J ⟨z,0,O⟩),δ (J ⟨g2,0,O⟩)] rfl rfl 112 _ hz BF rfl (DZ _ _) ?_);generalize(w1.alloc (γ #[δ O,δ O] 112)).setRow w1.heap.size #[δ (J ⟨z,0,O⟩),δ (J ⟨g2,0,O⟩)]=w2 at*;go_loopw [7,8] (λx _ wr=> ∃b:Bool,x=ζ b/\χ (∃a l,ql s b a l/\Lu wr w.heap.size (λk=>w.heap.size<=k/\¬(w0.heap.size<=k/\k<w1.heap.size)/\k≠w1.heap.size) s a l)/\
  χ (CJ wr z (λk=>w0.heap.size<=k/\k<w1.heap.size) BO)/\χ (CJ wr g2 (λk=>w0.heap.size<=k/\k<w1.heap.size) Cz)/\χ (De wr)/\
  χ (wr.heap[w1.heap.size]? =J (γ #[δ (J ⟨z,0,O⟩),δ (J ⟨g2,0,O⟩)] 112 (0,0)))/\χ (Al w wr)) (λx _ wr=>lC x (8*s.size+1- JA wr w.heap.size 1))
 .exact ⟨ι,rfl,⟨0,[],⟨Aa,Ad,.inl ⟨rfl,rfl⟩⟩,O,0,a6,rF _ _ _ _,λb hb=>by cases hb⟩,p,q,m,a0,b5⟩
 obtain⟨b,rfl,HI,p,q,m,X,HO⟩:=hrel;obtain⟨a,l,D,C⟩:=uh HI;have B:=uh X;have c8:=(qW.1 B).1;cases b with
 |false=>
  obtain⟨ha,hl,t⟩:=D;have b0:DV s 0 []=DV s a l:=by
   rcases t with⟨_,h⟩|⟨h,_⟩
   .exact h
   cases h
  have M:=Af b0;have HM:χ (JA wr w.heap.size 1=a):=by obtain⟨_,_,T,_⟩:=C;exact AP T.c1
  have HB:=Af (mK w.heap.size Aa (λk=>w.heap.size<=k/\¬(w0.heap.size<=k/\k<w1.heap.size)/\k≠w1.heap.size) ⟨rj _,Aa,Aa⟩ s hs a l hl ha z g2 (λk=>w0.heap.size<=k/\k<w1.heap.size) (λk j h=>h.2.1 j) wr (λk j=>⟨Aa,Aa,Aa⟩) (uh m) C (uh p) (uh q));clear t b0 HI C;go_wp2_with (refine uC rfl 112 (.tmp 6) rfl w1.heap.size rfl 112 #[δ (J ⟨z,0,O⟩),δ (J ⟨g2,0,O⟩)] (0,0) _ B underlying112 rfl BF ?_);refine HB.mono ?_;rintro r w4 ⟨i,b4,e4,rfl,b2,R⟩;have a2:χ (Al w w4):=HO.transNew i (λk j h=>κ j Aa);have b6:=Af (p.kept i (λk j h=>h.2.1 j));have b7:=Af (q.kept i (λk j h=>h.2.1 j));have a3:=Af (m.kept i Aa);have a1:=Af ((i.block w1.heap.size c8 (λh=>h.2.2 rfl)).trans B);clear HB i p q m X B;rcases b2 with⟨a4,l4,g,rfl,c0,c4,v⟩|⟨g,c5⟩
  .have S:=R rfl;rw[ZJ] at S;have W:=Af g;have a5:=Af v;have V:=Af S;have d2:=(Fo g).1;have b3:χ (JA w4 w.heap.size 1=a4):=by obtain⟨_,_,T,_⟩:=v;exact AP T.c1
   clear g v R S;go_wp2;go_roundw
   .refine ⟨b4,rfl,⟨a4,l4,⟨c0,c4, ?_⟩,a5⟩,b6,b7,a3,a1,a2⟩;by_cases d:AU s a=1
    .exact .inr ⟨by rw[uh V];simp[d],by rw[uh M];exact Ji (uh W) d⟩
    exact .inl ⟨by rw[uh V];simp[d],by rw[uh M];exact OE (uh W) d⟩
   rw[uh HM];simp only[uh b3];cases b4<;>simp[lC]<;>omega
  have d1:((e4:Z) !=0)=true:=by rw[rS];omega
  have d0:((e4:Z)==0)=false:=by rw[re];omega
  have o:χ (Az s=(⟨#[]⟩,0,e4)):=by unfold χ Az;rw[uh M,Mt g];rfl
  clear g c5 R;go_wp2_with fail;go_ret3;rw[uh o];exact⟨rfl,a2⟩
 |true=>
  obtain⟨ha,hl,t⟩:=D;have L:DV s 0 []=.inl (a,l):=by
   rcases t with⟨h,_⟩|⟨_,h⟩
   .cases h
   exact h
  have o:χ (Az s=(⟨l.toArray⟩,(a+7)/8,0)):=by unfold χ Az;rw[L];rfl
  obtain⟨ao,cp,T,b1,c7⟩:=C;have c3: ∀n,(convert 62 9 (K ao l.length cp)).run prog (wr.drewN n)=.ok (G ⟨l.toArray⟩) (wr.drewN n):=λn=>Fp (w:=wr.drewN n) b1
  have c9:=c3 0;have HU: ∀n,χ (μ prog 77 #[δ (J ⟨w.heap.size,0,O⟩)] (wr.drewN n) λr w' =>r=ε (I Q ((a+7)/8:N))/\w' =wr.drewN n):=λn=>lh w.heap.size s hs a (K ao l.length cp) ha (wr.drewN n) (T.drewN n)
  have h2:=T.c2;clear t L T b1 c7 HI;go_wp2_with fail;go_quiet (first|(go_at_call 77;exact(uh (HU _)).mono (λ_ _ h=>⟨h.1,_,h.2⟩)));go_wp2_with fail;go_ret3;rw[uh o];exact⟨rfl,HO.drewN _⟩
def LN(s:Y)(e:s.size<=140737488355328)(w:U)(a:De w):
 μ prog 17 #[G s] w λr w' =>r=ε (η #[G (Az s).1,I Q (Az s).2.1,I Q (Az s).2.2])/\Al w w' :=by
 have b:=Af (en s e w a);go_in;go_wp2_with fail;refine b.mono ?_;rintro r w1 ⟨rfl,c⟩;have d:=Af c;clear c b;go_wp2_with fail;go_ret3;exact⟨rfl,d⟩
