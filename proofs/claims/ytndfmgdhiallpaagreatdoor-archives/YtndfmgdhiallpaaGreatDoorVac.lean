import Derived.Test.YtndfmgdhiallpaaGreatDoorVab
set_option linter.all false
set_option maxRecDepth 100000
set_option maxHeartbeats 4000000
open _root_ renaming Option.some->J,Option.none->O,Int->Z,Nat->N,Go.Value.int->I,Go.Value.string->G,Go.IntKind.i64->Q,ByteArray->Y,List->E,Go.World->U,Go.Value.slice->K,Go.Value->β,Go.Obj.cells->γ,Go.Value.pointer->δ,absurd->κ,UInt8->υ,Go.RowKit.Hid->χ
namespace Go.Proofs.YtndfmgdhiallpaaGreatDoor
open Go.RowKit Go.Proofs.Tryz
def NI:β->N| K _ n _=>n|_=>0
def Ck{S:N->Prop}{w w' :U}{base:N}{e:TypeId}{v:β}{n:N}{a:E β}(h:w.ownsRow base e 1 v n a)(ho:Ag S w w')(hs: ∀b,v.ownBlock=J b->¬S b):w'.ownsRow base e 1 v n a:=zY
def EX{w:U}{base:N}{v:β}{n:N}{i:E β}(h:w.ownsRow base 3 1 v n i){b:N}(c:v.ownBlock=J b){g:N}{s:Y}{a:N}{o:β}{e:N}(hr:Rd w g s a o e):b≠g:=by
 rintro rfl;obtain⟨l,h|⟨j,cap,d,f,k,hg,r⟩⟩:=h
 .rw[h.1] at c;cases c
 rw[f] at c;injection c with c;subst c;exact We
def ZT{s:Y}{C:E N}{many a y a1 c:N}{l:E N}(d:Ii s C a 0 y a1 c)(f:y=16)(e:l.length=0):Cy s C many a l=O/\NW c 2=2:=by
 unfold Cy;by_cases b:c=0
 .rw[d.ok b];subst b;exact⟨rd ⟨f,e⟩,rfl⟩
 rw[(d.bad b).1,(d.bad b).2];exact⟨rfl,rfl⟩
def NY{s:Y}{C:E N}{many a y a1 c v g d:N}{l:E N}(e:Ii s C a 0 y a1 c)(i:¬(y=16/\l.length=0))(f:DD s a1 c (Bd y) v g d)(h:d≠0):Cy s C many a l=O/\d=2:=by
 unfold Cy;by_cases b:c=0
 .rw[e.ok b];subst b;obtain⟨j,k⟩:=f.bad h;refine⟨?_,k⟩;show(if y=16/\l.length=0 then _ else _)=_;rw[rc i,rd j]
 rw[(e.bad b).1,f.stay b,(e.bad b).2];exact⟨rfl,rfl⟩
def RZ{s:Y}{C:E N}{many a y a1 e1 v c d:N}{l:E N}(e:Ii s C a 0 y a1 e1)(f:¬(y=16/\l.length=0))(h2:DD s a1 e1 (Bd y) v c d)(he:d=0):
 Cy s C many a l=if many<l.length+(BA y+v) then O else J (c,l++List.replicate (BA y+v) (EW y l)):=by
 have b:e1=0:=aaN;subst b;obtain⟨j,g,i⟩:=h2.ok he;unfold Cy;rw[e.ok rfl];show(if y=16/\l.length=0 then _ else _)=_;rw[rc f,rc Aa,<-g,<-i]
def iW(g:N)(s:Y)(hs:s.size<=140737488355328)(a:N)(o:β)(ha:a<=8*s.size)(gc cc:N)(C:E N)(hC:C.length=19)(many:N)(c4:many<=320)(w:U)(h:Rd w g s a o 0)(hI:Bx w gc 0 C):
 Calls prog 288 #[δ (J ⟨g,0,O⟩),K (J ⟨gc,0,O⟩) 19 cc,I Q many] w λr w' =>
  Ag (λk=>k=g) w w' /\∃a' V ao n cap,r=.returned (K ao n cap)/\a' <=8*s.size/\Rd w' g s a' o V /\((V =0/\∃l,GH s C many a []=J (a',l)/\n=l.length/\w'.ownsRow w.heap.size 3 1 (K ao n cap) n (Ar l))\/(V =2/\GH s C many a []=O)):=by
 obtain⟨i0,hi0,hz0,hz1,hz2⟩:=rN Jf;have c6:=hI.ne h;have HR:=Af h;have HI:=Af hI;clear h hI;go_in;go_wp2;go_loopw [7,8,9,10,11] (λv _ _ _ _ wr=> ∃(n:N) (ao:Option Addr) (cap V :N),n<=many/\v=K ao n cap/\wr.cell? ⟨g,3,O⟩=J (I Q V)/\χ (∃xs,wr.ownsRow w.heap.size 3 1 (K ao n cap) n xs)/\
  χ (∃a',a' <=8*s.size/\Rd wr g s a' o V /\((V =0/\∃l,l.length=n/\(wr.ownsRow w.heap.size 3 1 (K ao n cap) n (Ar l))/\GH s C many a []=GH s C many a' l)\/(V =2/\GH s C many a []=O)))/\χ (Ag (λk=>k=g) w wr))
  (λv _ _ _ _ wr=>2*(many- NI v)+if JA wr g 3=0 then 1 else 0)
 .exact ⟨0,O,0,0,Aa,rfl,HR.c3,⟨[],rF _ _ _ _⟩,⟨a,ha,HR,.inl ⟨rfl,[],rfl,rF _ _ _ _,rfl⟩⟩,Ag.refl _ w⟩
 obtain⟨n,ao,cap,V,hn,rfl,W,c0,HS,HO⟩:=hrel;obtain⟨a',ha',L,hcs⟩:=uh HS;by_cases he:V =0
 .subst he;obtain⟨_,l,a7,M,a6⟩:0=0/\∃l,l.length=n/\(wr.ownsRow w.heap.size 3 1 (K ao n cap) n (Ar l))/\GH s C many a []=GH s C many a' l:=by
   rcases hcs with h|⟨h,_⟩
   .exact h
   cases h
  have hc3z:wr.cell? ⟨g,3,O⟩=J (I Q 0):=W;have HM:=Af (AP W);clear hcs W c0 HS;by_cases hlt:n<many
  .have X:(n:Z)<(many:Z):=Aa;have a8:=Af (Oz g s hs a' o 0 ha' gc 0 cc C Aa wr L (HI.kept (uh HO) c6));rw[hC] at a8;have HOWN:=Af M;have HEQ:=Af a6;have HLN:=Af a7;have HRD:=Af L;clear M a6 a7 L;go_wp2_with fail;refine a8.mono ?_;rintro r w1 ⟨y,a1,e1,rfl,p,z,b1⟩;have d3:y<=19:=by have:=p.2.1;omega
   have R:=Af (HO.trans b1);have HOWN1:=Af (Ck (uh HOWN) b1 (λb hb=>EX (uh HOWN) hb (uh HRD)));have S:=Af z;clear b1 hc3z a8;by_cases P:y=16
   .subst P;by_cases c5:n=0
    .subst c5;have F:=Af (Cg g s a1 o e1 2 w1 z);have HNO:=Af (ZT (many:=many) (l:=l) p rfl (uh HLN));have a5:=p.1.2;clear p z;go_wp2_with fail;refine F.mono ?_;rintro r w4 ⟨rfl,d,f⟩;rw[(uh HNO).2] at d;have HR4:=Af d;have HO4:=Af (R.trans f);clear d f;go_wp2;go_ret;exact⟨HO4,a1,2,ao,0,cap,rfl,a5,HR4,.inr ⟨rfl,by rw[uh HEQ,BZ (by rw[uh HLN];exact hlt),HNO.1]⟩⟩
    have d2:((n:Z)==0)=false:=(by rw[re];omega);obtain⟨b,d1,c7,_,_⟩:=HOWN1.form Aa;injection c7 with hv1 b2 hv3;subst hv1 hv3;have c1:w1.cell? ⟨b,n- 1,O⟩=J (I Q (l.getD (l.length- 1) 0:N)):=wD;have d5:(n:Z)- 1<(n:Z):=Aa;have d4:(0:Z)<=(n:Z)- 1:=Aa;have d6:((n:Z)- 1).toNat=n- 1:=Aa;have d7:(1:Z)<=(n:Z):=Aa;generalize b7:l.getD (l.length- 1) 0=wl at c1;have b9:=Af b7;clear b7;have A:=Af (Cj g s hs a1 o e1 2 Aa p.1.2 w1 z);have H1:=Af p;have a5:=p.1.2;clear p z;go_wp2_with fail;refine A.mono ?_;rintro r w2 ⟨v,a2,e2,rfl,B,D,m⟩;have hv:v<2^2:=B.1;have b2:v<4:=hv;have ha2:=B.2.1;have HBAD:=Af (NY (many:=many) (l:=l) (uh H1) (by have:=uh HLN;omega) B);have HOK:χ (e2=0->Cy s C many a' l=if many<l.length+(3+v) then O else J (a2,l++List.replicate (3+v) wl)):=λhe=>by have:=RZ (many:=many) (l:=l) (uh H1) (by have:=uh HLN;omega) B he;rw[<-uh b9];exact this
    have HR2:=Af D;have HO2:=Af (R.trans m);have HOWN2:=Af (Ck (uh HOWN1) m (λb hb=>EX (uh HOWN1) hb (uh S)));clear B D m hv A;have c:=HR2.c3;by_cases hbig:many<n+(3+v)
    .have T:(many:Z)<(n:Z)+(3+(v:Z)):=Aa;have HNO:χ (Cy s C many a' l=O/\NW e2 2=2):=Hd;have F:=Af (Cg g s a2 o e2 2 w2 (uh HR2));go_wp2_with fail;refine F.mono ?_;rintro r w4 ⟨rfl,d,f⟩;rw[(uh HNO).2] at d;have HO4:=Af (HO2.trans f);have hc4:w4.cell? ⟨g,3,O⟩=J (I Q 2):=d.c3;have HR4:=Af d;have HOWN4:=Af (Ck (uh HOWN2) f (λb hb=>EX (uh HOWN2) hb (uh HR2)));clear f d c;go_wp2_with fail;go_loop [7,11] (λx i=>x=K (J ⟨b,0,O⟩) n cap/\i=I Q 0) (λ_ _=>0)
     .exact ⟨rfl,rfl⟩
     obtain⟨rfl,rfl⟩:=hrel;have a0:(0:Z)<(3+(v:Z)):=Aa;go_wp2;go_roundw
     .exact ⟨n,(J ⟨b,0,O⟩),cap,2,hn,rfl,hc4,⟨_,HOWN4⟩,⟨a2,ha2,HR4,.inr ⟨rfl,by rw[uh HEQ,BZ (by rw[uh HLN];exact hlt),HNO.1]⟩⟩,HO4⟩
     rw[uh HM,AP (uh HR4).c3];simp[NI]
    have T:¬(many:Z)<(n:Z)+(3+(v:Z)):=Aa;by_cases t:e2=0
    .subst t;have HSTP:=Af (HOK rfl);rw[rc (by rw[uh HLN];exact hbig)] at HSTP;have hc3z:w2.cell? ⟨g,3,O⟩=J (I Q 0):=c;clear c HBAD HOK;go_wp2;go_loopw [7,11] (λx i wr=> ∃(j:N) (ao2:Option Addr) (cap2:N),j<=(3+v)/\x=K ao2 (n+j) cap2/\i=I Q j/\χ (wr.ownsRow w.heap.size 3 1 (K ao2 (n+j) cap2) (n+j) (Ar (l++List.replicate j wl)))/\χ (Rd wr g s a2 o 0)/\χ (Ag (λk=>k=g) w wr)) (λ_ i _=>(3+v)- (intOf i).toNat)
     .exact ⟨0,(J ⟨b,0,O⟩),cap,Aa,rfl,rfl,(show World.ownsRow _ _ _ _ _ _ _ by simpa using uh HOWN2),HR2,HO2⟩
     obtain⟨j,ao2,cap2,hj,rfl,rfl,HOWN,HRD,HO⟩:=hrel;have hc3j:wr.cell? ⟨g,3,O⟩=J (I Q 0):=HRD.c3;by_cases a9:j<(3+v)
     .have H:(j:Z)<(3+(v:Z)):=Aa;have HNW:=Af (Ej (wr:=wr) (n:=(wl:N)));have HOWA:χ ((wr.alloc (γ #[I Q (wl:N)] 3)).ownsRow w.heap.size 3 1 (K ao2 (n+j) cap2) (n+j) (Ar (l++List.replicate j wl))):=HOWN.alloc _;have HSZ:χ (w.heap.size<=(wr.alloc (γ #[I Q (wl:N)] 3)).heap.size):=by have:=HO.size;unfold χ;simp only[rr];omega
      have HRA:=Af (HRD.kept ((Ag.refl (λ_=>False) wr).alloc (γ #[I Q (wl:N)] 3)) (λx=>x));have HNE:=Af (λb hb=>EX (uh HOWA) (b:=b) hb (uh HRA));go_wp2_with (at_builtin;refine wpList_append_lies _ rfl (.tmp 75) (.tmp 77) 33 rfl w.heap.size 3 i0 (I Q 0) 1 8 underlying33 hi0 hz0 hz1 hz2 rfl Aa (K ao2 (n+j) cap2) (n+j) _ rfl (uh HOWA) ⟨wr.heap.size,0,O⟩ 1 1 [I Q (wl:N)] rfl rfl (uh HNW) (by intro u hu;simp at hu;subst hu;rfl) Aa (by unfold maxLen;omega) Aa (uh HSZ) _ rfl ?_;intro g2 cap3 w3 ho3 hg3 hl3 hlt3;have HO3:=Af ho3;have HG3:=Af hg3;have HB:=Af (BP (uh HOWA));clear ho3 hg3 hl3);go_roundw
      .refine ⟨j+1,J ⟨g2,0,O⟩,cap3,Aa,by rw[sM],by go_num, ?_, ?_, ?_⟩
       .have e:Ar (l++List.replicate (j+1) wl)=Ar (l++List.replicate j wl)++[I Q (wl:N)]:=(by rw[tM,<-rm];simp[Ar]);rw[e];exact HO3
       .exact Wg
       exact zt
      exact Ae
     have H:¬(j:Z)<(3+(v:Z)):=Aa;have hje:j=(3+v):=Aa;go_wp2;go_roundw
     .refine ⟨n+j,ao2,cap2,0,Aa,rfl,hc3j,⟨_,HOWN⟩,⟨a2,ha2,HRD,.inl ⟨rfl,l++List.replicate j wl,by rw[qU,rP,uh HLN],HOWN, ?_⟩⟩,HO⟩;exact WR
     rw[uh HM,AP hc3j];simp[NI];omega
    obtain⟨k1,k2⟩:=HBAD t;have HK1:=Af k1;subst k2;have hc3z:w2.cell? ⟨g,3,O⟩=J (I Q 2):=c;clear k1 c HBAD HOK;go_wp2_with fail;go_loop [7,11] (λx i=>x=K (J ⟨b,0,O⟩) n cap/\i=I Q 0) (λ_ _=>0)
    .exact ⟨rfl,rfl⟩
    obtain⟨rfl,rfl⟩:=hrel;have a0:(0:Z)<(3+(v:Z)):=Aa;go_wp2;go_roundw
    .exact ⟨n,(J ⟨b,0,O⟩),cap,2,hn,rfl,hc3z,⟨_,HOWN2⟩,⟨a2,ha2,HR2,.inr ⟨rfl,by rw[uh HEQ,BZ (by rw[uh HLN];exact hlt),uh HK1]⟩⟩,HO2⟩
    rw[uh HM,AP hc3z];simp[NI]
   have c8:((y:Z)==16)=false:=by rw[re];omega
   by_cases a3:y=17
   .subst a3;have A:=Af (Cj g s hs a1 o e1 3 Aa p.1.2 w1 z);have H1:=Af p;have a5:=p.1.2;clear p z;go_wp2_with fail;refine A.mono ?_;rintro r w2 ⟨v,a2,e2,rfl,B,D,m⟩;have hv:v<2^3:=B.1;have b2:v<8:=hv;have ha2:=B.2.1;have HBAD:=Af (NY (many:=many) (l:=l) (uh H1) (by have:=uh HLN;omega) B);have HOK:χ (e2=0->Cy s C many a' l=if many<l.length+(3+v) then O else J (a2,l++List.replicate (3+v) (0))):=RZ (many:=many) (l:=l) (uh H1) (by have:=uh HLN;omega) B;have HR2:=Af D;have HO2:=Af (R.trans m);have HOWN2:=Af (Ck (uh HOWN1) m (λb hb=>EX (uh HOWN1) hb (uh S)));clear B D m hv A;have c:=HR2.c3;by_cases hbig:many<n+(3+v)
    .have T:(many:Z)<(n:Z)+(3+(v:Z)):=Aa;have HNO:χ (Cy s C many a' l=O/\NW e2 2=2):=Hd;have F:=Af (Cg g s a2 o e2 2 w2 (uh HR2));go_wp2_with fail;refine F.mono ?_;rintro r w4 ⟨rfl,d,f⟩;rw[(uh HNO).2] at d;have HO4:=Af (HO2.trans f);have hc4:w4.cell? ⟨g,3,O⟩=J (I Q 2):=d.c3;have HR4:=Af d;have HOWN4:=Af (Ck (uh HOWN2) f (λb hb=>EX (uh HOWN2) hb (uh HR2)));clear f d c;go_wp2_with fail;go_loop [7,11] (λx i=>x=K ao n cap/\i=I Q 0) (λ_ _=>0)
     .exact ⟨rfl,rfl⟩
     obtain⟨rfl,rfl⟩:=hrel;have a0:(0:Z)<(3+(v:Z)):=Aa;exact Wj
    have T:¬(many:Z)<(n:Z)+(3+(v:Z)):=Aa;by_cases t:e2=0
    .subst t;have HSTP:=Af (HOK rfl);rw[rc (by rw[uh HLN];exact hbig)] at HSTP;have hc3z:w2.cell? ⟨g,3,O⟩=J (I Q 0):=c;clear c HBAD HOK;go_wp2;go_loopw [7,11] (λx i wr=> ∃(j:N) (ao2:Option Addr) (cap2:N),j<=(3+v)/\x=K ao2 (n+j) cap2/\i=I Q j/\χ (wr.ownsRow w.heap.size 3 1 (K ao2 (n+j) cap2) (n+j) (Ar (l++List.replicate j 0)))/\χ (Rd wr g s a2 o 0)/\χ (Ag (λk=>k=g) w wr)) (λ_ i _=>(3+v)- (intOf i).toNat)
     .exact wR
     obtain⟨j,ao2,cap2,hj,rfl,rfl,HOWN,HRD,HO⟩:=hrel;have hc3j:wr.cell? ⟨g,3,O⟩=J (I Q 0):=HRD.c3;by_cases a9:j<(3+v)
     .have H:(j:Z)<(3+(v:Z)):=Aa;exact yZ
     have H:¬(j:Z)<(3+(v:Z)):=Aa;have hje:j=(3+v):=Aa;exact Hv
    obtain⟨k1,k2⟩:=HBAD t;have HK1:=Af k1;subst k2;have hc3z:w2.cell? ⟨g,3,O⟩=J (I Q 2):=c;clear k1 c HBAD HOK;go_wp2_with fail;go_loop [7,11] (λx i=>x=K ao n cap/\i=I Q 0) (λ_ _=>0)
    .exact ⟨rfl,rfl⟩
    obtain⟨rfl,rfl⟩:=hrel;have a0:(0:Z)<(3+(v:Z)):=Aa;exact Wl
   have c9:((y:Z)==17)=false:=by rw[re];omega
   by_cases a4:y=18
   .subst a4;have A:=Af (Cj g s hs a1 o e1 7 Aa p.1.2 w1 z);have H1:=Af p;have a5:=p.1.2;clear p z;go_wp2_with fail;refine A.mono ?_;rintro r w2 ⟨v,a2,e2,rfl,B,D,m⟩;have hv:v<2^7:=B.1;have b2:v<128:=hv;have ha2:=B.2.1;have HBAD:=Af (NY (many:=many) (l:=l) (uh H1) (by have:=uh HLN;omega) B);have HOK:χ (e2=0->Cy s C many a' l=if many<l.length+(11+v) then O else J (a2,l++List.replicate (11+v) (0))):=RZ (many:=many) (l:=l) (uh H1) (by have:=uh HLN;omega) B;have HR2:=Af D;have HO2:=Af (R.trans m);have HOWN2:=Af (Ck (uh HOWN1) m (λb hb=>EX (uh HOWN1) hb (uh S)));clear B D m hv A;have c:=HR2.c3;by_cases hbig:many<n+(11+v)
    .have T:(many:Z)<(n:Z)+(11+(v:Z)):=Aa;have HNO:χ (Cy s C many a' l=O/\NW e2 2=2):=Hd;have F:=Af (Cg g s a2 o e2 2 w2 (uh HR2));go_wp2_with fail;refine F.mono ?_;rintro r w4 ⟨rfl,d,f⟩;rw[(uh HNO).2] at d;have HO4:=Af (HO2.trans f);have hc4:w4.cell? ⟨g,3,O⟩=J (I Q 2):=d.c3;have HR4:=Af d;have HOWN4:=Af (Ck (uh HOWN2) f (λb hb=>EX (uh HOWN2) hb (uh HR2)));clear f d c;go_wp2_with fail;go_loop [7,11] (λx i=>x=K ao n cap/\i=I Q 0) (λ_ _=>0)
     .exact ⟨rfl,rfl⟩
     obtain⟨rfl,rfl⟩:=hrel;have a0:(0:Z)<(11+(v:Z)):=Aa;exact Wj
    have T:¬(many:Z)<(n:Z)+(11+(v:Z)):=Aa;by_cases t:e2=0
    .subst t;have HSTP:=Af (HOK rfl);rw[rc (by rw[uh HLN];exact hbig)] at HSTP;have hc3z:w2.cell? ⟨g,3,O⟩=J (I Q 0):=c;clear c HBAD HOK;go_wp2;go_loopw [7,11] (λx i wr=> ∃(j:N) (ao2:Option Addr) (cap2:N),j<=(11+v)/\x=K ao2 (n+j) cap2/\i=I Q j/\χ (wr.ownsRow w.heap.size 3 1 (K ao2 (n+j) cap2) (n+j) (Ar (l++List.replicate j 0)))/\χ (Rd wr g s a2 o 0)/\χ (Ag (λk=>k=g) w wr)) (λ_ i _=>(11+v)- (intOf i).toNat)
     .exact wR
     obtain⟨j,ao2,cap2,hj,rfl,rfl,HOWN,HRD,HO⟩:=hrel;have hc3j:wr.cell? ⟨g,3,O⟩=J (I Q 0):=HRD.c3;by_cases a9:j<(11+v)
     .have H:(j:Z)<(11+(v:Z)):=Aa;exact yZ
     have H:¬(j:Z)<(11+(v:Z)):=Aa;have hje:j=(11+v):=Aa;exact Hv
    obtain⟨k1,k2⟩:=HBAD t;have HK1:=Af k1;subst k2;have hc3z:w2.cell? ⟨g,3,O⟩=J (I Q 2):=c;clear k1 c HBAD HOK;go_wp2_with fail;go_loop [7,11] (λx i=>x=K ao n cap/\i=I Q 0) (λ_ _=>0)
    .exact ⟨rfl,rfl⟩
    obtain⟨rfl,rfl⟩:=hrel;have a0:(0:Z)<(11+(v:Z)):=Aa;exact Wl
   have d0:((y:Z)==18)=false:=by rw[re];omega
   have b5:Bd y=0:=by unfold Bd;rw[rc P,rc a3,rc a4]
   have b6:BA y=1:=by unfold BA;rw[rc P,rc a3,rc a4]
   have b0:DD s a1 e1 (Bd y) 0 a1 e1:=by rw[b5];exact DD.zero p.1.2
   have ha2:=p.1.2;have HBAD:=Af (NY (many:=many) (l:=l) p Aa b0);have HOK:χ (e1=0->Cy s C many a' l=if many<l.length+1 then O else J (a1,l++List.replicate 1 y)):=λhe=>by
    have c2:y<C.length:=by
     subst he;exact(FR (p.ok rfl)).2.2
    have h9:=RZ (many:=many) (l:=l) p Aa b0 he;have hw:EW y l=y:=(by unfold EW;rw[rc P,rc Aa]);rw[b6,hw] at h9;exact h9
   clear p z b0 b5 b6;have c:=S.c3;by_cases hbig:many<n+1
   .exact κ hbig Aa
   have T:¬(many:Z)<(n:Z)+1:=Aa;by_cases b3:e1=0
   .subst b3;have HSTP:=Af (HOK rfl);rw[rc (by rw[uh HLN];exact hbig)] at HSTP;have hc3z:w1.cell? ⟨g,3,O⟩=J (I Q 0):=c;clear c HBAD HOK;go_wp2;go_loopw [7,11] (λx i wr=> ∃(j:N) (ao2:Option Addr) (cap2:N),j<=1/\x=K ao2 (n+j) cap2/\i=I Q j/\χ (wr.ownsRow w.heap.size 3 1 (K ao2 (n+j) cap2) (n+j) (Ar (l++List.replicate j y)))/\χ (Rd wr g s a1 o 0)/\χ (Ag (λk=>k=g) w wr)) (λ_ i _=>1- (intOf i).toNat)
    .exact ⟨0,ao,cap,Aa,rfl,rfl,(show World.ownsRow _ _ _ _ _ _ _ by simpa using uh HOWN1),S,R⟩
    obtain⟨j,ao2,cap2,hj,rfl,rfl,HOWN,HRD,HO⟩:=hrel;have hc3j:wr.cell? ⟨g,3,O⟩=J (I Q 0):=HRD.c3;by_cases a9:j<1
    .have H:(j:Z)<1:=Aa;have HNW:=Af (Ej (wr:=wr) (n:=(y:N)));have HOWA:χ ((wr.alloc (γ #[I Q (y:N)] 3)).ownsRow w.heap.size 3 1 (K ao2 (n+j) cap2) (n+j) (Ar (l++List.replicate j y))):=HOWN.alloc _;have HSZ:χ (w.heap.size<=(wr.alloc (γ #[I Q (y:N)] 3)).heap.size):=by have:=HO.size;unfold χ;simp only[rr];omega
     have HRA:=Af (HRD.kept ((Ag.refl (λ_=>False) wr).alloc (γ #[I Q (y:N)] 3)) (λx=>x));have HNE:=Af (λb hb=>EX (uh HOWA) (b:=b) hb (uh HRA));go_wp2_with (at_builtin;refine wpList_append_lies _ rfl (.tmp 75) (.tmp 77) 33 rfl w.heap.size 3 i0 (I Q 0) 1 8 underlying33 hi0 hz0 hz1 hz2 rfl Aa (K ao2 (n+j) cap2) (n+j) _ rfl (uh HOWA) ⟨wr.heap.size,0,O⟩ 1 1 [I Q (y:N)] rfl rfl (uh HNW) (by intro u hu;simp at hu;subst hu;rfl) Aa (by unfold maxLen;omega) Aa (uh HSZ) _ rfl ?_;intro g2 cap3 w3 ho3 hg3 hl3 hlt3;have HO3:=Af ho3;have HG3:=Af hg3;have HB:=Af (BP (uh HOWA));clear ho3 hg3 hl3);go_roundw
     .refine ⟨j+1,J ⟨g2,0,O⟩,cap3,Aa,by rw[sM],by go_num, ?_, ?_, ?_⟩
      .exact wd
      .exact Wg
      exact zt
     exact Ae
    have H:¬(j:Z)<1:=Aa;have hje:j=1:=Aa;go_wp2;go_roundw
    .refine ⟨n+j,ao2,cap2,0,Aa,rfl,hc3j,⟨_,HOWN⟩,⟨a1,ha2,HRD,.inl ⟨rfl,l++List.replicate j y,by rw[qU,rP,uh HLN],HOWN, ?_⟩⟩,HO⟩;exact WR
    rw[uh HM,AP hc3j];simp[NI];omega
   obtain⟨k1,k2⟩:=HBAD b3;have HK1:=Af k1;subst k2;have hc3z:w1.cell? ⟨g,3,O⟩=J (I Q 2):=c;clear k1 c HBAD HOK;go_wp2_with fail;go_loop [7,11] (λx i=>x=K ao n cap/\i=I Q 0) (λ_ _=>0)
   .exact ⟨rfl,rfl⟩
   obtain⟨rfl,rfl⟩:=hrel;go_wp2;go_roundw
   .exact ⟨n,ao,cap,2,hn,rfl,hc3z,⟨_,HOWN1⟩,⟨a1,ha2,S,.inr ⟨rfl,by rw[uh HEQ,BZ (by rw[uh HLN];exact hlt),uh HK1]⟩⟩,R⟩
   rw[uh HM,AP hc3z];simp[NI]
  have X:¬(n:Z)<(many:Z):=Aa;have HOWN:=Af M;have HEQ:=Af a6;have HLN:=Af a7;have HRD:=Af L;clear M a6 a7 L;go_wp2;go_ret;exact⟨HO,a',0,ao,n,cap,rfl,ha',HRD,.inl ⟨rfl,l,by rw[uh HEQ];exact QA (by rw[uh HLN];exact hlt),(uh HLN).symm,HOWN⟩⟩
 obtain⟨t,b4⟩:V =2/\GH s C many a []=none:=abn;subst t;have hc3z:wr.cell? ⟨g,3,O⟩=J (I Q 2):=W;have HNO:=Af b4;have HRD:=Af L;clear hcs W b4 L HS;by_cases hlt:n<many
 .have X:(n:Z)<(many:Z):=Aa;exact aar
 have X:¬(n:Z)<(many:Z):=Aa;exact aar
open Go.RowKit Go.Maps Go.Proofs.Tryz
def NZ(g:N)(s:Y)(a:N)(o:β)(e:N)(f:e≠0)(v:β)(many:N)(w:U)(h:Rd w g s a o e):
 Calls prog 288 #[δ (J ⟨g,0,O⟩),v,I Q many] w λr w' =>r=.returned (K O 0 0)/\w' =w:=by
 have c:=h.c3;have d:((e:Z)==0)=false:=by rw[re];omega
 clear h;go_in;go_wp2_with fail;go_loop [7,8,9,10,11] (λx _ _ _ _=>x=K O 0 0) (λ_ _ _ _ _=>0)
 .rfl
 subst hrel;by_cases i:0<many
 .have b:(0:Z)<(many:Z):=Aa;exact yU
 have b:¬(0:Z)<(many:Z):=Aa;exact yU
def Jg{s:Y}{a:N}(h:8*s.size<a+14):Ca s a=none:=by unfold Ca;rw[rd h]
def Kn{s:Y}{a:N}(h:286<257+Aq s a 5\/30<1+Aq s (a+5) 5):Ca s a=none:=by
 unfold Ca;exact abx
def Tp{s:Y}{a:N}(h:8*s.size<a+14+3*(4+Aq s (a+10) 4)):Ca s a=none:=by
 unfold Ca;split
 .rfl
 exact abx
def OD{s:Y}{a:N}(h:Ei (FT s (a+14) (4+Aq s (a+10) 4))=false):Ca s a=none:=by
 unfold Ca;split
 .rfl
 split
 .rfl
 exact abx
def Tq{s:Y}{a:N}(h:GH s (FT s (a+14) (4+Aq s (a+10) 4)) (257+Aq s a 5+(1+Aq s (a+5) 5)) (a+14+3*(4+Aq s (a+10) 4)) []=O):Ca s a=none:=by
 unfold Ca;split
 .rfl
 split
 .rfl
 split
 .rfl
 split
 .rfl
 rw[h]
def Tr{s:Y}{a a' :N}{l:E N}(b:¬8*s.size<a+14)(c:¬(286<257+Aq s a 5\/30<1+Aq s (a+5) 5))(d:¬8*s.size<a+14+3*(4+Aq s (a+10) 4))
 (e:Ei (FT s (a+14) (4+Aq s (a+10) 4))=true)(f:GH s (FT s (a+14) (4+Aq s (a+10) 4)) (257+Aq s a 5+(1+Aq s (a+5) 5)) (a+14+3*(4+Aq s (a+10) 4)) []=J (a',l)):
 Ca s a=if Ei (l.take (257+Aq s a 5))=true/\Gj (l.drop (257+Aq s a 5))=true/\l.getD 256 0≠0 then J (a',l.take (257+Aq s a 5),l.drop (257+Aq s a 5)) else none:=by
 unfold Ca;rw[rc b,rc c,rc d,rc (by rw[e];decide),f]
def YP(s:Y)(a k:N): ∀j,(FT s a k).getD j 0<=15:=by
 induction k with
 |zero=>
  intro j;rw[FT,qT,tI];split<;>simp
 |succ k ih=>
  intro j;have h:=Cf s (a+3*k) 3;rw[FT,qT,vy];split
  .split
   .show Aq s (a+3*k) 3<=15;omega
   simp
  rw[<-qT];exact ih j
def dl{s:Y}{C:E N}(f:C.length=19){many a:N}{l:E N}{a' :N}{e :E N}(h:Cy s C many a l=J (a',e))(c: ∀x∈l,x<=15): ∀x∈e,x<=15:=by
 unfold Cy at h;split at h
 .cases h
 rename_i y a1 hd;have g:=(FR hd).2.2;split at h
 .cases h
 split at h
 .cases h
 split at h
 .cases h
 injection h with h;injection h with h1 h2;intro x d;rw[<-h2] at d;rcases rR.1 d with h3|h3
 .exact c x h3
 rw[(List.mem_replicate.1 h3).2];unfold EW;split
 .by_cases b:l.length- 1<l.length
  .rw[qT,qY b];exact c _ (ro b)
  rw[qT,rL Aa];simp
 split<;>omega
def Ts{s:Y}{C:E N}(e:C.length=19){many:N}: ∀{f a:N} {l:E N} {a' :N} {c :E N},KL s C many f a l=J (a',c)->(∀x∈l,x<=15)->l.length<=many->a<=8*s.size->(∀x∈c,x<=15)/\c.length=many/\a<=a' /\a' <=8*s.size
 |0,a,l,a',c,h,_,_,_=>by cases h
 |f+1,a,l,a',c,h,hl,hm,ha=>by
  rw[KL] at h;split at h
  .split at h
   .cases h
   rename_i a2 l2 hs;have d:=Ow hs;have b:=Ts e h (dl e hs hl) d.2.2.2 d.2.1;exact⟨b.1,b.2.1,Aa,b.2.2.2⟩
  injection h with h;injection h with d b;subst d b;exact⟨hl,Aa,rj _,ha⟩
def Sa{s:Y}{C:E N}(c:C.length=19){many a a' :N}{b :E N}(h:GH s C many a []=J (a',b))(d:a<=8*s.size):(∀x∈b,x<=15)/\b.length=many/\a<=a' /\a' <=8*s.size:=
 Ts c h (λ_ h=>by cases h) (sl _) d
def YQ{l:E N}(h: ∀x∈l,x<=15)(j:N):l.getD j 0<=15:=by
 by_cases a:j<l.length
 .rw[qT,qY a];exact h _ (ro a)
 rw[qT,rL Aa];simp
def Bx.take{w:U}{c a:N}{l:E N}(h:Bx w c a l)(k:N):Bx w c a (l.take k):=by
 obtain⟨b,e,d⟩:=h;refine⟨b,e,λj f=> ?_⟩;rw[rY] at f;rw[d j Aa,qT,qT,td,rd Aa]
def Bx.drop{w:U}{c a:N}{l:E N}(h:Bx w c a l)(k:N):Bx w c (a+k) (l.drop k):=by
 obtain⟨b,e,d⟩:=h;refine⟨b,e,λj f=> ?_⟩;rw[tD] at f;rw[sM,d (k+j) Aa,qT,qT,vq]
def Bx.set{w:U}{b:N}{l:E N}(h:Bx w b 0 l){i:N}(f:i<l.length)(v:N):Bx (w.setCell ⟨b,i,O⟩ (I Q v)) b 0 (l.set i v):=by
 obtain⟨a,k,d⟩:=h;have c:i<a.size:=by
  have:=d i f;rw[rx] at this;exact(qW.1 this).1
 refine⟨_,ru w b i a 3 _ k,λj g=> ?_⟩;rw[rK] at g;rw[rx,sg,qT,vy];by_cases e:i=j
 .subst e;rw[rd rfl,rd rfl,rd c,rd f];rfl
 rw[rc e,rc e,<-qT];have:=d j g;rw[rx] at this;exact this
def LD(s:Y)(a:N)(l:E υ):ZK:=match Ca s a with|none=> .inr 2|some (a2,L,D)=>EU s L D a2 l
def DU{s:Y}{a:N}(l:E υ)(h:Ca s a=O):LD s a l=.inr 2:=by unfold LD;rw[h]
def VT{s:Y}{a b:N}{L D:E N}(l:E υ)(h:Ca s a=J (b,L,D)):LD s a l=EU s L D b l:=by unfold LD;rw[h]
def ld(s:Y)(a v1 v2 v3 a3 e3:N):Prop:=v1<32/\v2<32/\v3<16/\a3<=8*s.size/\((e3=0/\a3=a+14/\v1=Aq s a 5/\v2=Aq s (a+5) 5/\v3=Aq s (a+10) 4)\/(e3=2/\Ca s a=O))
def iX{s:Y}{a p a1 h q n g r o i:N}(j:DD s a 0 5 p a1 h)(f:DD s a1 h 5 q n g)(e:DD s n g 4 r o i):ld s a p q r o i:=by
 refine⟨j.1,f.1,e.1,e.2.1, ?_⟩;by_cases b:h=0
 .obtain ⟨t,k,u⟩:=j.ok b;subst b;by_cases c:g=0
  .obtain ⟨v,l,w⟩:=f.ok c;subst c;by_cases d:i=0
   .obtain ⟨x,m,y⟩:=e.ok d;subst u w;exact .inl ⟨d,Aa,k,l,m⟩
   obtain⟨x,m⟩:=e.bad d;exact .inr ⟨m,Jg Aa⟩
  obtain⟨v,l⟩:=f.bad c;exact .inr ⟨by rw[e.stay c,l],Jg Aa⟩
 obtain⟨t,k⟩:=j.bad b;have c:g≠0:=by rw[f.stay b];exact b
 exact .inr ⟨by rw[e.stay c,f.stay b,k],Jg Aa⟩
def Tt(i:N):Cx.getD i 0<19:=by
 by_cases h:i<19
 .have: ∀i:Fin 19,Cx.getD i.val 0<19:=Ac;exact this ⟨i,h⟩
 rw[qT,rL (by simp[Cx];omega)];simp
def ZU{P:Program}{c:Code}{Q:Exit->Act->U->Prop}{a:Act}{W:U}(R:U->Prop)(d:R W)(h: ∀b,R b ->c.wp P Q a b):c.wp P Q a W:=h W d
def Bx.thaw{w:U}{b c:N}{L:E N}(h:Bx w b c L)(i:N):w.frozen? ⟨b,i,O⟩=false:=by
 obtain⟨a,d,_⟩:=h;exact rp w b i a 3 d
def Bx.new(w:U){a:Array β}{L:E N}{g:N}(b:g=w.heap.size)(h: ∀j,j<L.length->a[j]? =J (I Q (L.getD j 0:N))):Bx (w.alloc (γ a 3)) g 0 L:=by
 subst b;exact⟨a,rh w _,λj c=>by rw[rx];exact h j c⟩
def Bx.alloc{w:U}{b a:N}{L:E N}(h:Bx w b a L)(o:Obj):Bx (w.alloc o) b a L:=h.kept ((Ag.refl (λ_=>False) w).alloc o) (λx=>x)
def Bx.setOther{w:U}{c a:N}{L:E N}(h:Bx w c a L)(b i:N)(d:c≠b)(v:β):Bx (w.setCell ⟨b,i,O⟩ v) c a L:=h.kept (Ap w b i v) d
def ZV(j:N)(h:j<(List.replicate 19 0).length):(madeCells #[Value.int Q 0] 19)[j]? =J (I Q ((List.replicate 19 0).getD j 0:N)):=by
 rw[rP] at h;rw[qT,tI,rd h];simp[madeCells,h,uX]
def dm(s:Y)(a i e3:N)(C:E N)(a' e' :N):Prop:=C.length=19/\(∀j,C.getD j 0<=15)/\a' <=8*s.size/\((e' =0/\e3=0/\a' =a+14+3*i/\C=FT s (a+14) i)\/(e' =2/\Ca s a=O))
def dm.next{s:Y}{a u w k l c i:N}{C:E N}{a' g v a'' e'' :N}(p:ld s a u w k l c)(h:dm s a i c C a' g)(y:i<4+k)(b:DD s a' g 3 v a'' e''):dm s a (i+1) c (C.set (Cx.getD i 0) v) a'' e'' :=by
 obtain⟨m,n,x,o⟩:=h;have z:v<8:=b.1;refine⟨by rw[rK,m],λj=> ?_,b.2.1, ?_⟩
 .rw[qT,vy];split
  .split
   .show v<=15;omega
   simp
  rw[<-qT];exact n j
 rcases o with⟨rfl,f,r,t⟩|⟨rfl,f⟩
 .by_cases d:e'' =0
  .obtain ⟨q,e,A⟩:=b.ok d;exact .inl ⟨d,f,Aa,by rw[FT,<-t,<-r,<-e]⟩
  obtain⟨q,e⟩:=b.bad d;obtain⟨_,_,_,_,⟨_,_,_,_,r5⟩|⟨B,_⟩⟩:=p
  .exact .inr ⟨e,Tp (by rw[<-r5];omega)⟩
  omega
 exact .inr ⟨b.stay Aa,f⟩
def dn(g:N)(S:N->Prop)(hSg:S g)(s:Y)(hs:s.size<=140737488355328)(a:N)(l:E υ)(hl:l.length<=20000)(ha:a<=8*s.size)(w:U)(h:St w g S s a l 0):
 Calls prog 195 #[δ (J ⟨g,0,O⟩)] w λr w' =>
  r=.returned (.tuple #[])/\Ag S w w' /\∃a' l' e',ZP s (LD s a l) a' l' e' /\∃S' :N->Prop,St w' g S' s a' l' e' /\∀k,k<w.heap.size->S' k->S k:=by
 obtain⟨ao,cp,hr,h8,i6⟩:=h;have HR:=Af hr;have HOW:=Af h8;have HSA:=Af i6;have d6:=Af (Cj g s hs a (K ao l.length cp) 0 5 Aa ha w hr);clear hr h8 i6;obtain⟨i0,hi0,hz0,hz1,hz2⟩:=rN Jf;have k8: ∀W:U,(Instr.makeSlice 33 (I Q 19) (I Q 19)).run prog W=.ok (K (J ⟨W.heap.size,0,O⟩) 19 19) (W.alloc (γ (madeCells #[I Q 0] 19) 3)):=WT;go_in;go_wp2_with fail;refine d6.mono ?_;rintro r w1 ⟨v1,a1,e1,rfl,h1,i1,g9⟩;have d7:=Af (Cj g s hs a1 (K ao l.length cp) e1 5 Aa h1.2.1 w1 i1);have o1:v1<32:=h1.1;have H1:=Af h1;have e4:=Af g9;clear h1 i1 g9 d6;go_wp2_with fail;refine d7.mono ?_;rintro r w2 ⟨v2,a2,e2,rfl,h2,i2,h4⟩;have d8:=Af (Cj g s hs a2 (K ao l.length cp) e2 4 Aa h2.2.1 w2 i2);have o2:v2<32:=h2.1;have H2:=Af h2;have e7:=Af (e4.trans h4);clear h2 i2 h4 d7 e4;go_wp2_with fail;refine d8.mono ?_;rintro r w3 ⟨v3,a3,e3,rfl,h3,i3,h6⟩;have l1:v3<16:=h3.1;have HH:=Af (iX (uh H1) (uh H2) h3);have b6:=Af (e7.trans h6);have f3:=Af i3;clear h3 i3 h6 d8 e7 H1 H2;go_wp2_with fail;clear k8;have o3:=b6.size;refine ZU (R:=λW=>Rd W g s a3 (K ao l.length cp) e3/\Bx W w3.heap.size 0 Cx/\Bx W (w3.heap.size+1) 0 (List.replicate 19 0)/\Ag (λk=>k=g) w W) ⟨?_, ?_, ?_, ?_⟩ ?_
 .exact (f3.kept ((Ag.refl (λ_=>False) w3).alloc _) (λx=>x)).kept ((Ag.refl (λ_=>False) _).alloc _) (λx=>x)
 .refine (Bx.new w3 rfl (λj hj=> ?_)).alloc _;have: ∀j:Fin 19,(#[Value.int Q 16,I Q 17,I Q 18,I Q 0,I Q 8,I Q 7,I Q 9,I Q 6,I Q 10,I Q 5,I Q 11,I Q 4,I Q 12,I Q 3,I Q 13,I Q 2,I Q 14,I Q 1,I Q 15]:Array β)[j.val]? =J (I Q (Cx.getD j.val 0:N)):=by
   intro j
   match j with
   |⟨0,_⟩=>rfl|⟨1,_⟩=>rfl|⟨2,_⟩=>rfl|⟨3,_⟩=>rfl|⟨4,_⟩=>rfl|⟨5,_⟩=>rfl|⟨6,_⟩=>rfl|⟨7,_⟩=>rfl|⟨8,_⟩=>rfl|⟨9,_⟩=>rfl|⟨10,_⟩=>rfl|⟨11,_⟩=>rfl|⟨12,_⟩=>rfl|⟨13,_⟩=>rfl|⟨14,_⟩=>rfl|⟨15,_⟩=>rfl|⟨16,_⟩=>rfl|⟨17,_⟩=>rfl|⟨18,_⟩=>rfl
   |⟨_+19,h⟩=>exact κ h Aa
  exact this ⟨j,hj⟩
 .exact Bx.new _ Ad ZV
 .exact (b6.alloc _).alloc _
 rintro W ⟨i5,h7,g2,b5⟩;have V:=Af i5;have T:=Af h7;have j0:=Af g2;have f0:=Af b5;have n7:=HR.lt;clear i5 h7 g2 b5 b6 f3;generalize w3.heap.size=gO at*;go_wp2;go_loopw [7] (λx wr=> ∃i:N,i<=4+v3/\x=I Q i/\χ (∃C a' e',dm s a i e3 C a' e' /\Rd wr g s a' (K ao l.length cp) e' /\Bx wr (gO+1) 0 C)/\χ (Bx wr gO 0 Cx)/\χ (Ag (λk=>k=g) w wr)) (λx _=>4+v3- (intOf x).toNat)
 .refine ⟨0,Aa,rfl,⟨List.replicate 19 0,a3,e3,⟨rP,λj=> ?_,HH.2.2.2.1, ?_⟩,V,j0⟩,T,f0⟩
  .rw[qT,tI];split<;>simp
  rcases HH.2.2.2.2 with⟨r1,r2,_⟩|r
  .exact .inl ⟨r1,r1,Aa,rfl⟩
  exact .inr r
 obtain⟨i,hi,rfl,HI,T,HO⟩:=hrel;obtain⟨C,a',e',c,b2,o⟩:=uh HI;by_cases k7:i<4+v3
 .have m8:(i:Z)<4+(v3:Z):=Aa;have l8:(i:Z)<19:=Aa;have g7:i<Cx.length:=by show i<19;omega
  have c5:=T.cell g7;have c8:=Tt i;have d9:=Af (λv a'' e'' =>dm.next (v:=v) (a'' :=a'') (e'' :=e'') (uh HH) c k7);generalize Cx.getD i 0=oi at c5 c8 d9;rw[rx] at c5;have n9:(oi:Z)<19:=Aa;have j2:=Af (Cj g s hs a' (K ao l.length cp) e' 3 Aa c.2.2.1 wr.drew b2);have a0:C.length=19:=c.1;have H:=Af o;have HRD:=Af b2;clear c b2 o g7;have t:wr.drew.cell? ⟨gO,i,O⟩=J (I Q (oi:N)):=c5;go_upto_region 8 with fail;refine Ai (S:=λW=>W.cell? ⟨gO,i,O⟩=J (I Q (oi:N))) (L:=8) Ab ?_;refine AH (i:=0) (v:=K (J ⟨gO+1,0,O⟩) 19 19) (J 28) rfl rfl Ab Ab Ab Ab (λ_ _ _ h=>h) (.inl ⟨rfl,λW hW=>by go_simp⟩) t ?_;simp only[Act.put,rk,rA,rB];refine AH (i:=1) (v:=K (J ⟨gO,0,O⟩) 19 19) (J 29) rfl rfl Ab Ab Ab Ab (λ_ _ _ h=>h) (.inl ⟨rfl,λW hW=>by go_simp⟩) t ?_;simp only[Act.put,rk,rA,rB];refine AH (i:=2) (v:=I Q i) (J 30) rfl rfl Ab Ab Ab Ab (λ_ _ _ h=>h) (.inl ⟨rfl,λW hW=>by go_simp⟩) t ?_;simp only[Act.put,rk,rA,rB];refine AH (i:=3) (v:=δ (J ⟨gO,i,O⟩)) (J 31) rfl rfl Ab Ab Ab Ab (λ_ _ _ h=>h) (.inl ⟨rfl,λW hW=>by go_simp⟩) t ?_;simp only[Act.put,rk,rA,rB];refine AH (i:=4) (v:=I Q oi) (J 32) rfl rfl Ab Ab Ab Ab (λ_ _ _ h=>h) (.inl ⟨rfl,λW hW=>by go_simp⟩) t ?_;simp only[Act.put,rk,rA,rB];refine AH (i:=5) (v:=δ (J ⟨g,0,O⟩)) (J 33) rfl rfl Ab Ab Ab Ab (λ_ _ _ h=>h) (.inl ⟨rfl,λW hW=>by go_simp⟩) t ?_;simp only[Act.put,rk,rA,rB];refine Ah (i:=6) Ab ?_;refine ri rfl (λK' X=> ?_);go_simp;refine j2.mono ?_;rintro r w5 ⟨v,a5,e5,rfl,h5,i4,b0⟩;have k4:gO+1≠g:=Aa;have g6:gO≠g:=Aa;have f:=(H.kept ((Ag.refl (λk=>k=g) wr).drew.trans b0) k4);have b1:=(T.kept ((Ag.refl (λk=>k=g) wr).drew.trans b0) g6);have b3:w5.cell? ⟨gO,i,O⟩=J (I Q (oi:N)):=(b0.cell (p:=⟨gO,i,O⟩) (show gO<wr.drew.heap.size from T.lt) g6).trans t;have g3:=f.cell (j:=oi) (by rw[a0];exact c8);rw[rx] at g3;have k3:=f.thaw oi;refine X _ _ ⟨λ_=>b3, ?_⟩;clear X;refine Ah (i:=7) Ab ?_;refine ri rfl (λK' X=> ?_);go_simp;refine X _ _ ⟨λ_=>b3, ?_⟩;clear X;refine Ah (i:=8) Ab ?_;refine ri rfl (λK' X=> ?_);go_simp;refine X _ _ ⟨λh=>κ rfl h, ?_⟩;clear X;refine Am Ab ?_;have e0:=Af (d9 v a5 e5 h5);have j4:=Af (i4.kept (Ap w5 (gO+1) oi (I Q (v:N))) (show ¬g=gO+1 by omega));have i9:=Af (f.set (by rw[a0];exact c8) v);have j3:=Af ((HO.drew.trans b0).setCell (p:=⟨gO+1,oi,O⟩) (λhh=>κ hh (show ¬gO+1<w.heap.size by omega)) (I Q (v:N)));have e8:=Af (b1.setOther (gO+1) oi Aa (I Q (v:N)));clear h5 i4 b0 f b1 b3 g3 k3;go_wp2;go_roundw
  .exact ⟨i+1,Aa,by go_num,⟨_,_,_,e0,j4,i9⟩,e8,j3⟩
  exact Ae
 have k6:i=4+v3:=Aa;subst k6;obtain⟨M,hM⟩: ∃M,M=257+v1:=⟨_,rfl⟩;obtain⟨F,hF⟩: ∃F,F=1+v2:=⟨_,rfl⟩;have f8:257+(v1:Z)=(M:Z):=Aa;have f6:1+(v2:Z)=(F:Z):=Aa;rw[f8,f6];have n6:M<=288/\257<=M:=Aa;have n5:F<=32/\1<=F:=Aa;have d5:=Af hM;have d1:=Af hF;have ha' :=c.2.2.1;have HFT:=Af (OC false (gO+1) 0 19 C (by rw[c.1];omega) c.2.1 wr o);rw[c.1] at HFT;have HFA:=Af (λw1 h1=>Cg g s a' (K ao l.length cp) e' 2 w1 h1);have c6:=c.2.2.2;have d0:=Af c6;have y:χ ((286<M\/30<F\/Ei C=false)->Ca s a=O/\NW e' 2=2):=by
  intro hx;rcases c6 with⟨rfl,q2,q3,q4⟩|⟨rfl,q2⟩
  .refine ⟨?_,rfl⟩;rcases HH.2.2.2.2 with⟨_,_,r3,r4,r5⟩|⟨r1,_⟩
   .rcases hx with h|h|h
    .exact Kn (.inl (by rw[<-r3];omega))
    .exact Kn (.inr (by rw[<-r4];omega))
    exact OD (by rw[<-r5,<-q4];exact h)
   omega
  exact⟨q2,rfl⟩
 have HRD:=Af b2;have H:=Af o;have l4:=Af c;have a0:C.length=19:=c.1;clear hM hF f8 f6 c6 b2 o c;have c4:=HRD.c3;generalize g5:Ei C=fb at HFT y;have j1:=Af g5;clear g5;simp only[tx,uw] at HFT;by_cases c1:286<M
 .have j6:(286:Z)<(M:Z):=Aa;have HNN:=Af (y (.inl c1));exact za
 have j6:¬(286:Z)<(M:Z):=Aa;by_cases c2:30<F
 .have j7:(30:Z)<(F:Z):=Aa;have HNN:=Af (y (.inr (.inl c2)));exact za
 have j7:¬(30:Z)<(F:Z):=Aa;cases fb with
 |false=>
  have HNN:=Af (y (.inr (.inr rfl)));exact za
 |true=>
  rcases uh d0 with⟨j9,q2,q3,q4⟩|⟨k0,q2⟩
  .subst j9;have a4:v1=Aq s a 5/\v2=Aq s (a+5) 5/\v3=Aq s (a+10) 4/\a3=a+14:=by
    rcases HH.2.2.2.2 with⟨_,r2,r3,r4,r5⟩|⟨r1,_⟩
    .exact ⟨r3,r4,r5,r2⟩
    omega
   have d2:=Af a4;have b7:=Af q3;have b9:=Af q4;have n0:gO+1≠g:=Aa;have V:=Af (iW g s hs a' (K ao l.length cp) ha' (gO+1) 19 C a0 (M+F) Aa wr (uh HRD) (uh H));rw[sO] at V;have g0:wr.cell? ⟨g,3,O⟩=J (I Q 0):=c4;clear c4 a4 q3 q4 q2 d0;go_wp2_with (go_at_call 287;refine HFT.mono ?_;rintro r w5 ⟨rfl,rfl⟩);refine V.mono ?_;rintro r w6 ⟨ho6,a6,e6,n3,n,cap,rfl,ha6,hr6,g4⟩;have HR6:=Af hr6;have HO6:=Af (HO.trans ho6);have b4:=hr6.c3;have n1:=ho6.size;clear hr6 ho6 V g0;rcases g4 with⟨c7,q,d,k9,A⟩|⟨c7,d⟩
   .subst c7;obtain⟨u,m0,_,_⟩:=Sa a0 d ha';have m9:n=M+F:=Aa;obtain⟨D,l5,l2,l6,l7⟩:=A.form Aa;injection l2 with hv1' hv2' hv3';subst hv1' hv3';have B:=Af (Bx.ofOwns k9.symm A);have f4:=Af d;have l3:=HO.size;have m:χ (Ca s a=if Ei (q.take M)=true/\Gj (q.drop M)=true/\q.getD 256 0≠0 then J (a6,q.take M,q.drop M) else O):=by
     obtain⟨r1,r2,r3,r4⟩:=uh d2;have c0:M=257+Aq s a 5:=(by rw[<-r1];exact d5);have f7:F=1+Aq s (a+5) 5:=(by rw[<-r2];exact d1);have h9:=uh f4;rw[uh b9,uh b7,r3,c0,f7] at h9;have o0:=uh b7;have:=Tr (s:=s) (a:=a) (a' :=a6) (l:=q) Aa (by rw[<-c0,<-f7];omega) (by rw[<-r3];omega) (by rw[<-r3,<-uh b9];exact j1) h9;rw[<-c0] at this;exact this
    have HFT1:=Af (OC false D 0 cap (q.take M) (by rw[rY];omega) (λj=>YQ (λx hx=>u x (vF hx)) j) w6 (B.take M));have HFT2:=Af (OC true D (0+M) (cap- M) (q.drop M) (by rw[tD];omega) (λj=>YQ (λx hx=>u x (List.mem_of_mem_drop hx)) j) w6 (B.drop M));have a7:(q.take M).length=M:=(by rw[rY];omega);have a8:(q.drop M).length=F:=(by rw[tD];omega);rw[a7] at HFT1;rw[a8,rx] at HFT2;simp only[tx,uw] at HFT1;simp only[vi] at HFT2;have d3:=Af a7;have d4:=Af a8;have e:=B.cell (j:=256) Aa;rw[rx] at e;have g1:w6.cell? ⟨g,3,O⟩=J (I Q 0):=b4;have j8:n<=cap:=by
     obtain⟨_,h|⟨_,_,_,hv,_,_,n8,_⟩⟩:=A
     .cases h.1
     injection hv with _ _ l1;omega
    clear A d b4 a7 a8 u;have m1:(M:Z)<=(cap:Z):=Aa;have m2:(0:Z)<=(M:Z):=Aa;have m3:((M:N):Z).toNat=M:=rO M;have m4:(M:Z)<=(n:Z):=Aa;have m5:n- M=F:=Aa;have m6:(256:Z)<(n:Z):=Aa;have m7:(M:Z)<=(M:Z)+(F:Z):=Aa;have n2:¬cap=M:=Aa;generalize c9:q.getD 256 0=z at e m;generalize k1:Ei (q.take M)=f1 at HFT1 m;generalize k2:Gj (q.drop M)=f2 at HFT2 m;clear c9 k1 k2;have HFA6:=Af (Cg g s a6 (K ao l.length cp) 0 2 w6 (uh HR6));cases f1 with
    |false=>
     have HNO:χ (Ca s a=O):=(by rw[uh m];exact rc (λh=>by cases h.1));exact zw
    |true=>
     cases f2 with
     |false=>
      have HNO:χ (Ca s a=O):=(by rw[uh m];exact rc (λh=>by cases h.2.1));exact zw
     |true=>
      by_cases hz:z=0
      .subst hz;have o5:w6.cell? ⟨D,256,O⟩=J (I Q 0):=e;clear e;have HNO:χ (Ca s a=O):=(by rw[uh m];exact rc (λh=>h.2.2 rfl));exact zw
      have o4:((z:Z)==0)=false:=(by rw[re];omega);have j5:χ (Ca s a=J (a6,q.take M,q.drop M)):=(by rw[uh m];exact rd ⟨rfl,rfl,hz⟩);have k5:=B.ne (uh HR6);have g8:¬(D=g\/(S D/\D<w.heap.size)\/w6.heap.size<=D):=Aa;have f9:St w6 g (λk=>k=g\/(S k/\k<w.heap.size)\/w6.heap.size<=k) s a6 l 0:=St.next (uh HR) (uh HOW) (λb hb=> .inr (.inl ⟨HSA b hb,by
       obtain⟨n4,hg⟩:=CV (uh HOW) (b:=b.block) (by rw[hb];rfl);exact(qW.1 hg).1⟩)) (uh HO6) (uh HR6)
      have f5:=Af (Nk g (λk=>k=g\/(S k/\k<w.heap.size)\/w6.heap.size<=k) (.inl rfl) s hs a6 l hl ha6 D 0 cap (q.take M) (by have:=uh d3;omega) g8 D M (cap- M) (q.drop M) (by have:=uh d4;omega) g8 w6.drew (λk hk=> .inr (.inr hk)) f9 (B.take M) (by have:=B.drop M;rw[rx] at this;exact this));rw[uh d3,uh d4] at f5;clear m;go_wp2_with fail;refine HFT1.mono ?_;rintro r w7 ⟨rfl,rfl⟩;go_wp2_with fail;refine HFT2.mono ?_;rintro r w7 ⟨rfl,rfl⟩;go_wp2_with fail;refine Ai (S:=λ_=>True) (L:=7) Ab ?_;refine tk 0 15 (δ (J ⟨g,0,O⟩)) 83 trivial ?_;refine tk 1 15 (K (J ⟨D,0,O⟩) n cap) 84 trivial ?_;refine tk 2 15 (I Q M) 85 trivial ?_;refine tk 3 15 (K (J ⟨D,0,O⟩) M cap) 86 trivial ?_;refine tk 4 15 (K (J ⟨D,0,O⟩) n cap) 87 trivial ?_;refine tk 5 15 (I Q M) 88 trivial ?_;refine tk 6 15 (K (J ⟨D,M,O⟩) F (cap- M)) 89 trivial ?_;refine Ah (i:=7) Ab ?_;refine ri rfl (λK' X=> ?_);go_simp;refine f5.mono ?_;rintro r w9 ⟨rfl,l0,a9,l9,e9,i7,i8⟩;refine X _ _ ⟨λh=>κ rfl h, ?_⟩;clear X;refine Am Ab ?_;go_wp2_with fail;go_end0;refine⟨rfl, ?_,a9,l9,e9, ?_,_,i8, ?_⟩
      .exact (HO6.of_g hSg).drew.transNew l0 (λi hi h=>by
        rcases h with h|h|h
        .exact h ▸ hSg
        .exact h.1
        exact κ h Aa)
      .rw[VT l (uh j5)];exact i7
      intro k hk h;rcases h with h|h|h
      .exact h ▸ hSg
      .exact h.1
      exact κ h Aa
   subst c7;have g1:w6.cell? ⟨g,3,O⟩=J (I Q 2):=b4;have HNO:χ (Ca s a=O):=by
    obtain⟨r1,r2,r3,r4⟩:=uh d2;have h9:=d;rw[uh b9,uh b7,uh d5,uh d1,r1,r2,r3] at h9;exact Tq h9
   clear b4 d;go_wp2_with fail;refine rU (tW rfl _ _ _) rfl ?_;exact⟨rfl,HO6.of_g hSg,a6,l,2,⟨ha6,hl,.inr ⟨DU l HNO,Aa⟩⟩,S,St.next (uh HR) (uh HOW) (uh HSA) (uh HO6) (uh HR6),λ_ _ h=>h⟩
  subst k0;have HNO:=Af q2;clear q2 c4;have HRE:=Af (NZ g s a' (K ao l.length cp) 2 Aa (K (J ⟨gO+1,0,O⟩) 19 19) (M+F) wr (uh HRD));rw[sO] at HRE;have hce:wr.cell? ⟨g,3,O⟩=J (I Q 2):=HRD.c3;go_wp2_with (first
   |(go_at_call 287;refine HFT.mono ?_;rintro r w5 ⟨rfl,rfl⟩)
   |(go_at_call 288;refine HRE.mono ?_;rintro r w7 ⟨rfl,rfl⟩))
  refine rU (tW rfl _ _ _) rfl ?_;exact⟨rfl,HO.of_g hSg,_,l,2,⟨ha',hl,.inr ⟨DU l (uh HNO),Aa⟩⟩,S,St.next (uh HR) (uh HOW) (uh HSA) (uh HO) (uh HRD),λ_ _ h=>h⟩
def Tu{s:Y}{L D:E N}: ∀{f a:N} {o:E υ} {a' :N} {o' :E υ},Ly s L D f a o=.inl (a',o')->a<a' /\a' <=8*s.size
 |0,a,o,a',o',h=>by cases h
 |f+1,a,o,a',o',h=>by
  rw[Ly] at h;split at h
  .rename_i r hs;subst h;unfold Er at hs;split at hs
   .cases hs
   rename_i y a1 hd;have:=FR hd;split at hs
   .injection hs with hs;injection hs with hs;injection hs with b c;omega
   split at hs
   .split at hs
    .cases hs
    cases hs
   split at hs
   .cases hs
   unfold EL at hs;split at hs
   .cases hs
   split at hs
   .cases hs
   split at hs
   .cases hs
   split at hs
   .cases hs
   split at hs
   .cases hs
   split at hs
   .cases hs
   cases hs
  rename_i a2 o2 hs;have b:=Ov hs;have c:=Tu h;omega
def YR{s:Y}{L D:E N}{a:N}{o:E υ}{a' :N}{b :E υ}(h:EU s L D a o=.inl (a',b)):a<a' /\a' <=8*s.size:=Tu h
def dq{s:Y}{a a' :N}{L D:E N}(h:Ca s a=J (a',L,D)):a<=a' :=by
 unfold Ca at h;split at h
 .cases h
 split at h
 .cases h
 split at h
 .cases h
 split at h
 .cases h
 split at h
 .cases h
 rename_i a2 l2 hr;split at h
 .injection h with h;injection h with h1 h2;have:=Sa (GI _ _ _) hr Aa;omega
 cases h
def JK(s:Y)(a:N)(o:E υ):Es s a o=if Aq s (a+1) 2=0 then Gi s (a+3) o else if Aq s (a+1) 2=1 then EU s BO Cz (a+3) o else if Aq s (a+1) 2=2 then LD s (a+3) o else .inr 2:=by
 unfold Es LD;have:=Cf s (a+1) 2;generalize Aq s (a+1) 2=k at this
 match k,this with
 |0,_=>rfl
 |1,_=>rfl
 |2,_=>rfl
 |3,_=>rfl
def Fo{s:Y}{a:N}{o:E υ}{a' :N}{b :E υ}(h:DT s a o=.inl (a',b)):a<a' /\a' <=8*s.size:=by
 unfold DT at h;split at h
 .cases h
 rw[JK] at h;split at h
 .unfold Gi at h;have c:=NX (a+3);exact acb
 split at h
 .have:=YR h;omega
 split at h
 .unfold LD at h;split at h
  .cases h
  rename_i a2 L D ht;have h1:=dq ht;have h2:=YR h;omega
 cases h
def Jh(s:Y):N->N->E υ->ZK
 |0,_,_=> .inr 2
 |f+1,a,o=>match DT s a o with
  | .inr e=> .inr e
  | .inl (a',o')=>if AU s a=1 then .inl (a',o') else Jh s f a' o'
def KM{s:Y}: ∀{f b a:N} {o:E υ},8*s.size<a+f->8*s.size<a+b ->a<=8*s.size->Jh s f a o=Jh s b a o
 |0,_,a,o,h,_,ha=>by omega
 |_+1,0,a,o,_,h,ha=>by omega
 |f+1,b +1,a,o,h1,h2,ha=>by
  rw[Jh,Jh];split
  .rfl
  rename_i a' o' hs;have:=Fo hs;split
  .rfl
  exact KM Aa Aa Aa
def DV(s:Y)(a:N)(o:E υ):ZK:=Jh s (8*s.size+1) a o
def Mt{s:Y}{a:N}{o:E υ}{e:N}(h:DT s a o=.inr e):DV s a o=.inr e:=by rw[DV,Jh,h]
def Ji{s:Y}{a:N}{o:E υ}{a' :N}{b :E υ}(h:DT s a o=.inl (a',b))(c:AU s a=1):DV s a o=.inl (a',b):=by
 rw[DV,Jh,h];exact rd c
def OE{s:Y}{a:N}{o:E υ}{a' :N}{b :E υ}(h:DT s a o=.inl (a',b))(c:AU s a≠1):DV s a o=DV s a' b :=by
 have d:=Fo h;rw[DV,Jh,h];show(if AU s a=1 then _ else _)=_;rw[rc c];exact KM Aa Aa Aa
def dr:ZK->Y×N×N
 | .inl (a,o)=>(⟨o.toArray⟩,(a+7)/8,0)
 | .inr e=>(⟨#[]⟩,0,e)
def Az(s:Y):Y×N×N:=dr (DV s 0 [])
