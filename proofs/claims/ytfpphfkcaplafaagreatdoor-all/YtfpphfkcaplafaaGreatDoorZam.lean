import Derived.Test.YtfpphfkcaplafaaGreatDoorZal
import Derived.Lib.AppendZeros
set_option linter.all false
set_option maxHeartbeats 64000000
set_option maxRecDepth 100000
open _root_ renaming Option.some->J,Option.none->O,Int->Z,Nat->N,Go.Value.int->I,Go.Value.string->G,Go.IntKind.i64->Q,ByteArray->Y,List->E,Go.World->U,Go.Value.slice->K,Go.Value->M,Go.Obj.cells->W,Go.Value.pointer->V,Go.RowKit.Hid->C,Go.Proofs.Tryz.prog->F,Go.Ending.returned->ε,Go.Value.bool->ζ,Go.Value.tuple->η,Bool.true->θ,Bool.false->ι,absurd->κ,Go.Calls->μ,Go.TypeId->ν,Array->φ,Decidable.decide->Γ
variable{s:Y}{b c c1 c2 cap f g i k n:N}{a:E Y}{R RT d j o p q r:E (M×Y)}{w w' w0 w1 w3 wq:U}{S:N->Prop}{l u vf vl x:M}{e:ν}{h:φ M}
namespace Go.Proofs.YtfpphfkcaplafaaGreatDoor
open Go.RowKit Go.Maps Go.Proofs.Tryz
def gJ{b:Y}(h:b∈Ey s):b=s.extract 0 b.size:=by
 rw[Ey,WY,WN] at h;rcases h with h|rfl
 .rw[Bf] at h;obtain⟨i,a,rfl⟩:=wd.1 h;have c:=wh.1 (aaZ.1 a).1;have:(s.extract 0 i).size=i:=akS
  rw[this]
 simp
def sv{b a:Y}(h:b∈Ey s)(c :a ∈Ey s)(e:AQ b=AQ a):b=a :=by
 have d:b.size=a.size:=by rw[<-IQ b,<-IQ a,e]
 rw[gJ h,gJ c,d]
def Gq(F:E Y)(f:Iw):Prop:=(∀n,n∈F-> ∀b,b∈Ey n->f (AQ b)=J (b,Γ<|b=n))/\∀r x,f r=J x-> ∃n,n∈F/\∃b,b∈Ey n/\AQ b=r/\x=(b,Γ<|b=n)
def Gq.nil:Gq [] (λ_=>O):=⟨λ_ h=>akU,λ_ _ h=>by cases h⟩
def PG{f:Iw}(k:Gq a f)(s:Y):Dz f s=θ↔ ∃n,n∈a/\gI n s:=by
 rw[Dz,wJ];constructor
 .rintro ⟨b,h,g⟩;rw[Ir,wo] at g;obtain⟨_,e⟩:=Option.isSome_iff_exists.1 g.1;obtain⟨n,i,j,c,d,rfl⟩:=k.2 _ _ e;rw[e] at g;refine⟨n,i,j,c,b,h,d,?_⟩;have h2:=g.2;simp only[aaH,abt,aae] at h2;rcases h2 with(h2|h2)|h2
  .exact .inl h2
  .exact .inr (.inl h2)
  exact .inr (.inr h2)
 rintro⟨n,i,j,c,b,h,d,hd⟩;refine⟨b,h,?_⟩;have e:=k.1 n i j c;rw[d] at e;rw[Ir,e];simp only[Option.isSome_some,aas,aaH,abt,aae];rcases hd with hd|hd|hd
 .exact .inl (.inl hd)
 .exact .inl (.inr hd)
 exact .inr hd
def MC{f:Iw}(h:Gq a f)(s:Y):Dz f s=a.any (λn=>Lv n s):=by
 rw[adb,PG h,wJ];constructor
 .rintro ⟨n,a,b⟩;exact⟨n,a,(Ou _ n s<|WF _).2 b⟩
 rintro⟨n,a,b⟩;exact⟨n,a,(Ou _ n s<|WF _).1 b⟩
def Ld{r:Y}:∀(l:E Y) (f:Iw),(∀b,b∈l->AQ b≠r)->l.foldl (λf b=>Xu f (AQ b) (b,Γ<|b=s)) f r=f r
 |[],_,_=>rfl
 |c::l,f,h=>by
  rw[acf,Ld l _ λb a=>h b<|wQ _ a,Xu,Wx λe=>h c Ad e.symm]
def Vc:∀(l:E Y) (f:Iw),(∀b,b∈l-> ∀a,a ∈l->AQ b=AQ a ->b=a)-> ∀b,b∈l->l.foldl (λf b=>Xu f (AQ b) (b,Γ<|b=s)) f (AQ b)=J (b,Γ<|b=s)
 |[],_,_,_,h=>akU
 |c::l,f,h,b,g=>by
  rw[acf];by_cases a:b∈l
  .exact Vc l _ (λx d y i=>h x (wQ _ d) y<|wQ _ i) b a
  have d:b=c:=by
   rcases wD.1 g with e|e
   .exact e
   exact κ e a
  subst d;rw[Ld l _ λx d e=>a (h x (wQ _ d) b Ad e ▸ d),Xu,Wz rfl]
def Gq.add{f:Iw}(i:Gq a f)(l:Dz f s=ι):Gq (a++[s])<|Jq f s:=by
 have j:=Vc (s:=s) (Ey s) f λb c _ a h=>sv c a h;have k:∀b,b∈Ey s->Ir f s b=false:=by
  intro b c;rw[Dz,aar] at l;simpa using l b c
 constructor
 .intro n hn b c;rcases WY.1 hn with hn|hn
  .by_cases e:∃g,g∈Ey s/\AQ g=AQ b
   .obtain ⟨g,d,h⟩:=e;have m:=j g d;have a:=k g d;have k:=i.1 n hn b c;rw[Ir,h,k] at a;simp only[Option.isSome_some,aas,aaH,acQ,adi,Classical.not_not,ne_eq] at a;obtain⟨⟨k,l⟩,o⟩:=a;rw[Jq,<-h,m,k,Ww o];rw[k] at l;rw[Ww l]
   have:=Ld (s:=s) (Ey s) f (r:=AQ b) λg d h=>e ⟨g,d,h⟩;rw[Jq,this];exact i.1 n hn b c
  rw[WN] at hn;subst hn;exact j b c
 intro r x e;by_cases c:∃b,b∈Ey s/\AQ b=r
 .obtain ⟨b,c,rfl⟩:=c;rw[Jq,j b c] at e;injection e with e;exact⟨s,Ad,b,c,rfl,e.symm⟩
 rw[Jq,Ld (Ey s) f λg d h=>c ⟨g,d,h⟩] at e;obtain⟨n,hn,y⟩:=i.2 r x e;exact⟨n,List.mem_append_left _ hn,y⟩
def ZT(s:Y):gI s s:=⟨s,oB s,s,oB s,rfl,.inr (.inl rfl)⟩
def dfault(fs:E Fl)(all:N)(e:BF):N:=if fs.any (λf=>Lv f.1 e.nm) then 5 else if(Γ (e.nm≠Fy)&&Γ (AQ e.nm=Fy)) then 4 else if BE e.nm<e.dt.size then 1 else if 60<fs.length+1 then 6 else if 16000<all+e.dt.size then 1 else 0
def SK(T:E BF)(i:N):Prop:= ∀j,j<i->Cg (Ay T) (T.getD j AC)=0->Ef (Fg (Ay T)<|T.take j) (T.getD j AC)=0
structure dU (s:dN):Prop where
 tab:Gq (s.fs.map (·.1)) s.tb
 few:s.fs.length<=60
 dif:s.fs.Pairwise λa b=>a.1≠b.1
 small:s.all<=16000
def dU.dfault{s:dN}(h:dU s)(e:BF):dfault s.fs s.all e=Ef s e:=by
 rw[Go.Proofs.YtfpphfkcaplafaaGreatDoor.dfault,Ef,MC h.tab,List.any_map];have:=h.few;have a:(60<s.fs.length+1)=(s.fs.length=60):=by apply propext;omega
 simp only[a]
 rfl
def dU.step{s:dN}(h:dU s){L:E Y}{e:BF}(f:Cg L e=0->Ef s e=0):dU<|ET L s e:=by
 rw[ET];split
 .rename_i g;obtain⟨c,l,m,n,i⟩:=IV<|f g;have o:=h.few;refine⟨?_,by simp;omega,?_,i⟩
  .show Gq ((s.fs++[(e.nm,e.dt)]).map (·.1)) _;rw[wV];exact h.tab.add c
  show List.Pairwise _ (s.fs++[(e.nm,e.dt)]);refine aao.2 ⟨h.dif,aaW _ _,λa j b d k=>?_⟩;rw[WN] at d;subst d;have:Dz s.tb e.nm=true:=(PG h.tab _).2 ⟨a.1,wd.2 ⟨a,j,rfl⟩,by rw[k];exact ZT _⟩;rw[c] at this;cases this
 exact⟨h.tab,h.few,h.dif,h.small⟩
def Le(T:E BF):∀i,i<=T.length->SK T i->dU (Fg (Ay T)<|T.take i)
 |0,_,_=>⟨Gq.nil,wH _,aaJ,wH _⟩
 |i+1,_,h=>by
  rw[Fz _ T i A];exact(Le T i A λj _=>h j A).step (h i A)
def SL{T:E BF}(h:sb T):dU<|Fg (Ay T) T:=by
 have:=Le T T.length (WF _) h
 rwa [wL] at this
def zi{P:Program}{c:Code}{Q:Exit->Act->U->Prop}{a:Act}{b:U}(R:U->Prop)(e:R b)(h:∀d,R d ->c.wp P Q a d):c.wp P Q a b:=h b e
def oE{X:E Y}(b:i<X.length)(c:i<a.length)(h:X[i]=a[i]):dP (X.drop i) (a.drop i)=dP (X.drop<|i+1) (a.drop<|i+1):=by
 rw[wN b,wN c,dP,Wz h]
def oF{X:E Y}(b:i<X.length)(c:i<a.length)(h:X[i]≠a[i]):dP (X.drop i) (a.drop i)=Γ (AQ X[i]=AQ a[i]):=by
 rw[wN b,wN c,dP,Wx h]
def gK{X:E Y}(h:¬(i<X.length/\i<a.length)):dP (X.drop i) (a.drop i)=true:=by
 by_cases b:i<X.length
 .rw[abY (l:=a) A];cases X.drop i<;>rfl
 rw[abY (l:=X) A];rfl
def dV(a b:ByteArray)(ha:a.size<=2000000)(hb:b.size<=2000000)(w:U):μ F 77 #[G a,G b] w λr w'=>r=ε (ζ<|Lv a b)/\Am w w':=by
 have k:C<|Lv a b=dP ((Ax a 47).drop 0) ((Ax b 47).drop 0):=rfl;have H1:=H<|Jt a 47 ha w;have H2:=H λe=>Jt b 47 hb e;have a4:C (∀x∈Ax a 47,x.size<=2000000):=λx j=>WI (EV j) ha
 have a5:C (∀x∈Ax b 47,x.size<=2000000):=λx j=>WI (EV j) hb
 have:=Dm a 47;have:=Dm b 47;generalize Lv a b=J1,Ax a 47=X,Ax b 47=Y at*;go_in;go_wp2_with fail;apply H1.mono;rintro v w1 ⟨b3,rfl,f,g⟩;have z:=H f;have D:=H g;obtain⟨ao,l,q, -, -⟩:=f;subst q;clear g H1;go_wp2_with fail;apply(H2 w1).mono;rintro v w2 ⟨b3,rfl,f,g⟩;have P:=H<|z.old g;have T:=H f;have HO:=H<|D.trans g;obtain⟨bo,m,q, -, -⟩:=f;subst q;clear g H2 z D;go_wp2;go_loopw [7] (λx wr=>∃i:N,i<=X.length/\i<=Y.length/\x=I Q i/\C (J1=dP (X.drop i) (Y.drop i))/\C (Fx w wr (K ao X.length l) X)/\C (Fx w1 wr (K bo Y.length m) Y)/\C (Am w wr)) λx _=>X.length-(intOf x).toNat
 .exact ⟨0,A,A,rfl,k,P,T,HO⟩
 obtain⟨i,_,_,rfl,k,P,T,HO⟩:=hrel;by_cases j:i<X.length
 .have a6:(i:Z)<X.length:=A;by_cases hy:i<Y.length
  .have a7:(i:Z)<Y.length:=A;obtain⟨n,_,q,a0,a8, -⟩:=P.cell i j;injection q with s a9 t;subst s t;obtain⟨o,_,q,a1,b0, -⟩:=T.cell i hy;injection q with s a9 t;subst s t;have HE:=H<|oE j hy;have HF:=H<|oF j hy;have a2:=H λe=>ou X[i] (WI (a4 _<|WJ j) A) e;have a3:=H λe=>ou Y[i] (WI (a5 _<|WJ hy) A) e;have f1:=TG X[i] Y[i];generalize X[i]=x,Y[i]=y at*;by_cases f:x=y
   .rw[Wy f] at f1;have q:=H<|k.trans (HE f);clear HE HF a2 a3 k f;go_wp2_with fail;go_quiet (fail);go_wp2;go_roundw
    .exact ⟨i+1,A,A,by go_num,q,P,T,HO.drewN _⟩
    exact Ae
   rw[Ww f] at f1;have q:=TG (AQ x)<|AQ y;have d:=k.trans<|HF f;rw[<-d] at q;clear HE HF k f d;generalize AQ x=lx,AQ y=ly at*;have u:∀e c :U,(e.cell? ⟨n,i,O⟩=J (G x)/\e.cell? ⟨o,i,O⟩=J (G y)/\Am wr e)->Am e c ->(c.cell? ⟨n,i,O⟩=J (G x)/\c.cell? ⟨o,i,O⟩=J (G y)/\Am wr c):=λe c h g=>by
    have f:=h.2.2.size;exact⟨(g.cell (p:=⟨n,i,O⟩) (wG a8 f) λv=>v).trans h.1,(g.cell (p:=⟨o,i,O⟩) (wG b0 f) λv=>v).trans h.2.1,h.2.2.trans g⟩
   go_wp2_with fail;go_quiet (fail);go_wp2_with fail;refine zi (R:=λf=>f.cell? ⟨n,i,O⟩=J (G x)/\f.cell? ⟨o,i,O⟩=J (G y)/\Am wr f) ⟨a0,a1,(Ag.refl _ wr).drewN _⟩ ?_;rintro f ⟨g,q,s⟩;have c:f.drew.cell? ⟨n,i,O⟩=J (G x)/\f.drew.cell? ⟨o,i,O⟩=J (G y)/\Am wr f.drew:=⟨g,q,s.drew⟩;clear a0 a1 g q s;refine Ai (S:=λe=>e.cell? ⟨n,i,O⟩=J (G x)/\e.cell? ⟨o,i,O⟩=J (G y)/\Am wr e) (L:=11) B ?_;refine tk 0 12 (K (J ⟨n,0,O⟩) X.length l) 33 c ?_;refine tk 1 12 (I Q (i:Z)) 34 c ?_;refine tk 2 12 (V<|J ⟨n,i,O⟩) 35 c ?_;refine tk 3 12 (G x) 36 c ?_;refine tk 5 12 (K (J ⟨o,0,O⟩) Y.length m) 38 c ?_;refine tk 6 12 (I Q (i:Z)) 39 c ?_;refine tk 7 12 (V<|J ⟨o,i,O⟩) 40 c ?_;refine tk 8 12 (G y) 41 c ?_;refine Ah (i:=4) B ?_;refine WE rfl λ_ e=>?_;go_simp;apply(a2 _).mono;rintro r w2 ⟨rfl,b1⟩;have x:=u _ _ c b1;refine e _ _ ⟨λ_=>x,?_⟩;clear e;refine Ah (i:=9) B ?_;refine WE rfl λ_ e=>?_;go_simp;apply(a3 _).mono;rintro r w3 ⟨rfl,b2⟩;have f:=u _ _ x b2;refine e _ _ ⟨λ_=>f,?_⟩;clear e;refine Ah (i:=10) B ?_;refine WE rfl λ_ e=>?_;go_simp;refine e _ _ ⟨λ_=>f,?_⟩;clear e;refine Ah (i:=11) B ?_;refine WE rfl λ_ e=>?_;go_simp;refine e _ _ ⟨λh=>κ rfl h,?_⟩;clear e;refine Aj B ?_;have e:=H<|uh HO|>.trans f.2.2;clear c u f P T;go_wp2;go_ret;exact⟨rfl,e⟩
  have:¬(i:Z)<Y.length:=A;have d:J1=true:=by rw[uh k];exact gK λh=>hy h.2
  subst d;exact aeV
 have:¬(i:Z)<X.length:=A;have d:J1=true:=by rw[uh k];exact gK λh=>j h.1
 subst d;exact aeV
def DM(w:U)(a:Addr)(T:E BF):Prop:= ∀i,i<T.length->w.cell? (a.add<|i*3)=J (G (T.getD i AC).nm)/\w.cell? ⟨(a.add<|i*3).block,(a.add<|i*3).off+1,O⟩=J (ζ (T.getD i AC).ln)/\w.cell? ⟨(a.add<|i*3).block,(a.add<|i*3).off+2,O⟩=J (G (T.getD i AC).dt)
def BC{p:Addr}{v:M}(h:w.cell? p=J v):p.block<w.heap.size:=ahr
def DM.kept{a:Addr}{T:E BF}(h:DM w a T)(b:Ag S w w')(c:¬S a.block):DM w' a T:=λi d=>by
 obtain⟨e,f,g⟩:=h i d;have d:(a.add<|i*3).block=a.block:=by unfold Addr.add;split<;>rfl
 exact⟨(b.cell (BC e)<|by rw[d];exact c).trans e,(b.cell (p:=⟨(a.add<|i*3).block,(a.add<|i*3).off+1,O⟩) (BC f)<|by rw[d];exact c).trans f,(b.cell (p:=⟨(a.add<|i*3).block,(a.add<|i*3).off+2,O⟩) (BC g)<|by rw[d];exact c).trans g⟩
def DM.old{a:Addr}{T:E BF}(h:DM w a T)(b:Am w w'):DM w' a T:=h.kept b λx=>x
def Lg(s:Y)(i:N)(e:BF):Bool:= !e.ln&&Γ (e.nm=s.extract 0 i++SB)
def KD(T:E BF)(s:Y)(i:N):Bool:=Γ (As s i=47)&&T.any (Lg s i)
def oG{T:E BF}(a:i<s.size)(h:KD T s i=θ):QJ T s=true:=wJ.2 ⟨i,wh.2 a,h⟩
def sw{T:E BF}(h:∀i,i<s.size->KD T s i=ι):QJ T s=false:=by
 rw[QJ,aar];intro i a;have:=h i<|wh.1 a;rw[KD] at this;rw[abU] at this;exact this
def jZ{T:E BF}(a:k<T.length)(b:As s i=47)(h:Lg s i (T.getD k AC)=θ):KD T s i=true:=by
 rw[KD,Wy b,aas,wJ];rw[Wq,Wv a] at h;exact⟨T[k],WJ a,h⟩
def oH{T:E BF}(h:∀k,k<T.length->Lg s i (T.getD k AC)=ι):KD T s i=false:=by
 rw[KD,Bool.and_eq_false_iff]
 right
 rw[aar];intro _ b;obtain⟨k,a,rfl⟩:=wF b;have:=h k a;rw[Wq,Wv a] at this;rw[abU] at this;exact this
def sx(a:Addr)(cap:N)(T:E BF)(hT:T.length<=200)(s:Y)(hs:s.size<=2000000)(w:U)(n:DM w a T):μ F 142 #[K (J a) T.length cap,G s] w λr w'=>r=ε (ζ<|QJ T s)/\Am w w':=by
 have HT:=H n;have HO:=H (Ag.refl (λ_=>False) w);have HY:C (∀i,i<s.size->KD T s i=θ->QJ T s=θ):=λi L h=>oG L h
 have HN:C ((∀i,i<s.size->KD T s i=ι)->QJ T s=ι):=sw;generalize QJ T s=J1 at*;clear n;go_in;go_wp2;go_loopw [5,6] (λx _ wr=>∃i:N,i<=s.size/\x=I Q i/\C (∀j,j<i->KD T s j=ι)/\C (Am w wr)) λx _ _=>s.size-(intOf x).toNat
 .exact ⟨0,A,rfl,λj h=>A,HO⟩
 obtain⟨i,L,rfl,v,HO⟩:=hrel;by_cases n:i<s.size
 .have o:(i:Z)<s.size:=A;have L:=AA (s:=s) (k:=i) n;by_cases f:As s i=47
  .have p:C (∀k,k<T.length->Lg s i (T.getD k AC)=θ->J1=θ):=λk P h=>HY i n (jZ P f h)
   have:∀b,(Instr.slice 9 (G s) O (J<|I Q (i:Z)) O).run F b=.ok (G<|s.extract 0 i) b:=λb=>aaN b 9 s underlying9 .i64 i A A
   have q:C (∀e,Lg s i e=(!e.ln&&Γ (e.nm=s.extract 0 i++SB))):=λe=>rfl
   have:∀b,(Op.stringOp .add (s.extract 0 i) ⟨#[47,103,111,46,109,111,100]⟩).run F b=.ok (G<|s.extract 0 i++SB) b:=λb=>WR b _ _ (by have:=Gl s 0 i;have:(⟨#[47,103,111,46,109,111,100]⟩:Y).size=7:=rfl;omega)
   rw[f] at L;obtain⟨n,x⟩:∃n,wr=n:=⟨_,rfl⟩;subst x;clear f;generalize s.extract 0 i++SB=u at*;generalize s.extract 0 i=z at*;go_wp2;go_loopw [6] (λy wr=>∃k:N,k<=T.length/\y=I Q k/\C (∀j,j<k->Lg s i (T.getD j AC)=ι)/\C (Am w wr)) λy _=>T.length-(intOf y).toNat
   .exact ⟨0,A,rfl,λj h=>A,HO⟩
   clear HO;obtain⟨k,P,rfl,y,HO⟩:=hrel;by_cases n:k<T.length
   .have t:(k:Z)<T.length:=A;obtain⟨_,_,_⟩:=HT.old HO k n;have g:=H<|p k n;have b:C (Lg s i (T.getD k AC)=ι-> ∀j,j<k+1->Lg s i (T.getD j AC)=ι):=λh j D=>by
     by_cases e:j=k
     .rw[e];exact h
     exact y j A
    have h:=H<|q (T.getD k AC);generalize Lg s i (T.getD k AC)=eh at*;generalize T.getD k AC=e at*;obtain⟨R,ln,_⟩:=e;simp only at*;cases ln with
    |true=>
     have l:=H<|b h;clear b h g;exact agj
    |false=>
     have S:=TG R u;by_cases m:R=u
     .rw[Wy m] at S;have d:=g (by rw[X h,Wy m];rfl);subst d;clear b h g m;go_wp2_with fail;go_quiet (fail);go_wp2;go_ret;exact⟨rfl,HO.drewN _⟩
     rw[Ww m] at S;have l:=H (b<|by rw[X h,Ww m];rfl);clear b h g m;exact agj
   have:¬(k:Z)<T.length:=A;have c:C (∀j,j<i+1->KD T s j=ι):=λj D=>by
    by_cases e:j=i
    .rw[e];exact oH λu _=>y u A
    exact v j A
   clear y p q;exact aiX
  have c:C (∀j,j<i+1->KD T s j=ι):=λj D=>by
   by_cases e:j=i
   .rw[e,KD,Ww f];rfl
   exact v j A
  have:¬((As s i:Z)=47):=A;exact aiX
 have:¬(i:Z)<s.size:=A;have d:=HN λj D=>v j A;subst d;exact aeV
def Hi(ln h n v f:Bool):N:=if ln then 1 else if h then 4 else if n then 3 else if v then 2 else if f then 0 else 5
def sA(a:Addr)(cap:N)(T:E BF)(S:T.length<=200)(x:∀e∈T,e.nm.size<=2000000)(k:N)(u:k<T.length)(w:U)(v:DM w a T):μ F 76 #[K (J a) T.length cap,I Q (k:Z)] w λr w'=>r=ε (I Q (oz T (T.getD k AC):Z))/\Am w w':=by
 obtain⟨h1,h2,h3⟩:=v k u;have g:(T.getD k AC).nm.size<=2000000:=by rw[Wq,Wv u];exact x _<|WJ u
 have:(k:Z)<T.length:=A;have y:=H v;have i:C<|oz T (T.getD k AC)=Hi (T.getD k AC).ln (ZR (T.getD k AC).nm) (QJ T (T.getD k AC).nm) (QI (T.getD k AC).nm) (Ma (T.getD k AC).nm):=rfl;have z:=H λb=>sl (T.getD k AC).nm g b;have D:=H λb h=>sx a cap T S (T.getD k AC).nm g b h;have L:=H λb=>jX (T.getD k AC).nm g b;have P:=H λb=>PA (T.getD k AC).nm g b;clear v x;generalize oz T (T.getD k AC)=J1 at*;generalize ZR (T.getD k AC).nm=bh at*;generalize QJ T (T.getD k AC).nm=bn at*;generalize QI (T.getD k AC).nm=bv at*;generalize Ma (T.getD k AC).nm=bf at*;generalize T.getD k AC=e at*;obtain⟨o,j,p⟩:=e;simp only at*;have R:C<|Am w (w.alloc<|W #[G o,ζ j,G p] 35):=(Ag.refl _ w).alloc _;have l:=H<|UW.made w o j p;have g:=WD w<|W #[G o,ζ j,G p] 35;go_in;go_wp2_with fail;clear h1 h2 h3 g;generalize w.alloc (W #[G o,ζ j,G p] 35)=b at*;refine(z b).mono ?_;rintro r w1 ⟨rfl,b⟩;have d:=H<|l.old b;have h:=H<|R.trans b;have m:=H<|y.old h;obtain⟨-,q,s,t⟩:=X d;clear b z R l y;go_wp2_with fail;refine(D w1 m).mono ?_;rintro r w2 ⟨rfl,b⟩;have f:=H<|d.old b;have n:=H<|h.trans b;clear q s t;obtain⟨-,q,s,t⟩:=X f;clear b D h d m;go_wp2_with fail;refine(L w2).mono ?_;rintro r w3 ⟨rfl,rfl⟩;clear L;go_wp2_with fail;refine(P w3).mono ?_;rintro r w4 ⟨rfl,b⟩;have d:=H<|f.old b;have J8:=H<|n.trans b;clear q s t;obtain⟨-,q,s,t⟩:=X d;clear b P n f d;cases j with
 |true=>
  have c:J1=1:=X i;exact afX
 |false=>
  cases bh with
  |true=>
   have c:J1=4:=X i;exact afX
  |false=>
   cases bn with
   |true=>
    have c:J1=3:=X i;exact afX
   |false=>
    cases bv with
    |true=>
     have c:J1=2:=X i;exact afX
    |false=>
     cases bf with
     |true=>
      have c:J1=0:=X i;exact afX
     |false=>
      have c:J1=5:=X i;exact afX
def zS(w:U)(x:M)(gs:E Fl):Prop:=(x=K O 0 0/\gs=[])\/ ∃ad c,x=K (J ad) gs.length c/\∀j u,(AK gs)[j]? =J u->w.cell? (ad.add j)=J u
def oI(a:E Fl):∀u∈AK a,u.oneCell'=true:=by
 intro u a;obtain⟨_,_,h⟩:=adu.1 a;simp at h;rcases h with rfl|rfl<;>rfl
def Nx(W w:U)(v:M)(fs:E Fl):Prop:=Au w v fs/\(∀b,v.ownBlock=J b->W.heap.size<=b)/\Am W w
def Nx.start{c:U}(h:Am c w):Nx c w (K O 0 0) []:=⟨WZ _ _ _ _,λb e=>(by cases e),h⟩
def Nx.alloc{b:U}{v:M}{a:E Fl}(h:Nx b w v a)(o:Obj):Nx b (w.alloc o) v a:=⟨h.1.old ((Ag.refl _ w).alloc o),h.2.1,h.2.2.alloc o⟩
def Nx.form{b:U}{v:M}{a:E Fl}(h:Nx b w v a):∃ao cap,v=K ao a.length cap:=by
 rcases h.1.2 with⟨rfl,h0⟩|⟨g,cap,_,rfl,_⟩
 .exact ⟨O,0,by rw[h0]⟩
 exact⟨_,_,rfl⟩
def TS{d:U}{v:M}{c a:E Fl}(h:Nx d w v c)(n:zS w x a)(r:c.length+a.length<=4000000)(g:ν):
 ∃v' w',(Builtin.append_ #[39,39] g #[v,x]).run F w=.ok v' w'/\Nx d w' v' (c++a)/\Ag (λk=>v.ownBlock=J k) w w':=by
 obtain⟨m,f,i,j,l⟩:=wi Lb;rcases n with⟨rfl,rfl⟩|⟨o,p,rfl,q⟩
 .refine ⟨v,w,run_append_owned_none w 0 _ g 38 m 2 underlying39 f v _ _ h.1,?_⟩;rw[wS];exact⟨h,Ag.refl _ _⟩
 obtain⟨v',w',d,n,hg,_,hb⟩:=run_append_own_at (P:=F) w 0 39 g 38 m (.agg #[G ⟨#[]⟩,G ⟨#[]⟩]) 2 32 underlying39 f i j l rfl A v _ _ h.1 o a.length p (AK a) (Ea a) q (oI a) (by unfold maxLen;omega) A A;refine⟨v',w',d,⟨?_,λb t=>?_,?_⟩,(Ag.refl _ w).grown hg λk _ e=>e⟩
 .show w'.ownsRow 0 38 2 v' (c++a).length (AK<|c++a);rw[Ws,JQ];exact n
 .exact aiu
 exact ajw
def Ch{ops:φ Oper}{rest:E Oper}{o:Oper}{a:Act}{Q:Exit->Act->U->Prop}{b:U}(c:o.guard=O)(s x:Operand)
 (h:o.op=.call {callee:=.builtin .append,args:= #[s,x],argTypes:= #[39,39]})(v d:M)(e f:E Fl)(i:a.eval s=v)(j:a.eval x=d)(l:Nx b w v e)(g:zS w d f)(m:e.length+f.length<=4000000)
 (k:∀v' w',Nx b w' v' (e++f)->Ag (λk=>v.ownBlock=J k) w w'->wpList F ops Q rest (a.put o.dst v') w'):wpList F ops Q (o::rest) a w:=by
 obtain⟨v',w',b,e,f⟩:=TS l g m o.type;exact Lib.wpList_append_run w c s x _ _ h v d i j v' w' b<|k v' w' e f
def Au.cells{v:M}{a:E Fl}(h:Au w0 v a)(b:Am w0 w)(i:N)(c:i<a.length):∃g cap,v=K (J ⟨g,0,O⟩) a.length cap/\g<w0.heap.size/\w.cell? ⟨g,i*2,O⟩=J (G a[i].1)/\w.cell? ⟨g,i*2+1,O⟩=J (G a[i].2):=by
 obtain⟨g,cap,f,a,j⟩:=h.slice A;obtain⟨d,e⟩:=j i c;rw[Wq,Wv c] at d e;exact⟨g,cap,f,a,(b.cell (p:=⟨g,i*2,O⟩) a λx=>x).trans d,(b.cell (p:=⟨g,i*2+1,O⟩) a λx=>x).trans e⟩
def oJ(a:U):(sizeOf<|prog.elem 39).run F a=.ok 2 a:=by
 have:=Lb;rw[show prog.elem 39=38 by kernel_rfl];obtain⟨_,a,_,b,_⟩:=wi Lb;simp[sizeOf,typeInfo,a,b]
def zj{ao:Option Addr}{l:E Fl}(h:Au w (K ao l.length cap) l)(k:N)(q:k<=l.length):
 ∃c d,(∀b,(Instr.slice 39 (K ao l.length cap) O (J<|I Q (k:Z)) O).run F b=.ok c b)/\(∀b,(Instr.slice 39 (K ao l.length cap) (J<|I Q (k:Z)) O O).run F b=.ok d b)/\∀b,Am w b->zS b c (l.take k)/\zS b d (l.drop k):=by
 have x:prog.underlying 39=J (.slice<|prog.elem 39):=ajB;have r:l.length<=cap\/(ao=O/\l.length=0/\cap=0):=by
  rcases h.2 with⟨e,h0⟩|⟨g,d,s,e,_,_,L⟩
  .injection e with f p i;exact .inr ⟨f,h0,i⟩
  injection e with f p i;subst i;exact .inl L.1
 have y:l.length<=cap:=by rcases r with h|h<;>omega
 refine⟨sliced ao 0 k cap 2,sliced ao k l.length cap 2,λb=>?_,λb=>?_,λb c=>?_⟩
 .rw[run_slice_h (w:=b) (P:=F) 39 ao l.length cap x Q (k:Z) A A,oJ];rfl
 .rw[run_slice_l (w:=b) (P:=F) 39 ao l.length cap x Q (k:Z) A A,oJ];rfl
 have z:=h.old c;by_cases D:l=[]
 .subst D;have t:k=0:=by simpa using q
  subst t;rcases h.2 with⟨e,_⟩|⟨g,d,s,e,_,_,_⟩
  .injection e with f p i;subst f i;exact⟨.inl ⟨rfl,rfl⟩,.inl ⟨rfl,rfl⟩⟩
  injection e with f p i;subst f;refine⟨.inr ⟨⟨g,0,O⟩,cap,?_,λj u c=>by cases c⟩,.inr ⟨⟨g,0,O⟩,cap,?_,λj u c=>by cases c⟩⟩<;>(unfold sliced;simp[Addr.add])
 have m:0<l.length:=by cases l with|nil=>exact κ rfl D|cons a R=>simp
 obtain⟨g,d,e,_, -⟩:=z.slice m;injection e with f p i;subst f;have n:=abs (w:=b) z (g:=g) rfl;have b:AK l=AK (l.take k)++AK (l.drop k):=by rw[<-JQ,aau]
 have v:(AK<|l.take k).length=k*2:=by rw[Ea,hY,abu q]
 constructor
 .refine .inr ⟨⟨g,0,O⟩,cap,?_,λj u c=>?_⟩
  .unfold sliced;rw[hY,abu q];by_cases d:cap=0
   .simp[d]
   simp[d,Addr.add]
  refine n j u ?_;rw[b,WW<|by obtain⟨c,_⟩:=wW.1 c;exact c];exact c
 by_cases o:cap=k
 .have d:l.drop k=[]:=abY A;rw[d];refine .inr ⟨⟨g,0,O⟩,cap-k,?_,λj u c=>by cases c⟩;unfold sliced;rw[Wz o];show Value.slice _ (l.length-k) (cap-k)=_;rw[show l.length-k=0 by omega];rfl
 refine .inr ⟨⟨g,k*2,O⟩,cap-k,?_,λj u c=>?_⟩
 .unfold sliced;rw[Wx o,aad];simp only[abH];rw[we,WQ]
 have:=n (k*2+j) u (by rw[b,WU A,v,abD];exact c);rw[we,WQ] at this;rw[we];exact this
abbrev QK(l:E Fl):Prop:=l.Pairwise λa b=>a.1.data.toList<b.1.data.toList
def dW{l:E Fl}{x:Fl}(e:QK l)(m:k<=l.length)(g:∀j (h:j<l.length),j<k->l[j].1.data.toList<x.1.data.toList)(f:∀h:k<l.length,¬l[k].1.data.toList<x.1.data.toList)(i:∀y,y∈l->y.1≠x.1):QK<|l.take k++[x]++l.drop k:=by
 have b:∀y,y∈l.drop k->x.1.data.toList<y.1.data.toList:=by
  intro y hy;by_cases a:k<l.length
  .have c:x.1.data.toList<l[k].1.data.toList:=by
    rcases adZ (x.1.data.toList<l[k].1.data.toList) with h|h
    .exact h
    exact κ (GJ (f a) h)<|i _ (WJ a)
   rw[wN a] at hy;rcases wD.1 hy with rfl|hy
   .exact c
   have f:QK<|l.drop k:=e.sublist<|List.drop_sublist _ _;rw[wN a] at f;exact abA c ((List.pairwise_cons.1 f).1 y hy)
  rw[abY A] at hy;cases hy
 have d:∀y,y∈l.take k->y.1.data.toList<x.1.data.toList:=by
  intro y hy;obtain⟨j,_,rfl⟩:=aat.1 hy;exact g j A A
 rw[WG];refine aao.2 ⟨e.sublist<|List.take_sublist _ _,?_,λy hy z hz=>?_⟩
 .refine aao.2 ⟨aaW _ _,e.sublist<|List.drop_sublist _ _,λy hy z hz=>?_⟩;rw[WN] at hy;subst hy;exact b z hz
 rcases WY.1 hz with hz|hz
 .rw[WN] at hz;subst hz;exact d y hy
 exact abA (d y hy)<|b z hz
def KE{l r:E Fl}{x:Fl}(h:l.Perm r):(l.take k++[x]++l.drop k).Perm<|r++[x]:=by
 have a:(l.take k++[x]++l.drop k).Perm (x::l):=by
  rw[WG];have h0:(l.take k++([x]++l.drop k)).Perm<|[x]++(l.take k++l.drop k):=by
   rw[<-WG,<-WG];exact List.perm_append_comm.append_right _
  rw[aau] at h0;exact h0
 exact a.trans ((h.cons x).trans (List.perm_append_singleton x r).symm)
def Nx.base{v:M}{l a:E Fl}(h:Nx w0 w3 v a)(k:Nx w w0 u l):Nx w w3 v a:=
 ⟨h.1,λb e=>WI k.2.2.size<|h.2.1 b e,k.2.2.trans h.2.2⟩
def Dk{v:M}{a:E Fl}(h:Au w v a):∃ao cap,v=K ao a.length cap:=by
 rcases h.2 with⟨rfl,h0⟩|⟨g,cap,_,rfl,_⟩
 .exact ⟨O,0,by rw[h0]⟩
 exact⟨_,_,rfl⟩
def dX{a:E Fl}(h:i<a.length):a.take (i+1)=a.take i++[a[i]]:=by rw[aay,Wv h];rfl
def oK{c:E Fl}(d:c.Pairwise λa b=>a.1≠b.1)(h:i<c.length){y:Fl}(e:y∈c.take i):y.1≠c[i].1:=by
 obtain⟨j,_,rfl⟩:=aat.1 e;exact aaG.1 d j i A h A
def Eb(w:U)(a:Addr)(fs:E Fl):Prop:= ∀i,i<fs.length->w.cell? (a.add<|i*2)=J (G (fs.getD i default).1)/\w.cell? ⟨(a.add<|i*2).block,(a.add<|i*2).off+1,O⟩=J (G (fs.getD i default).2)
def Eb.kept{a:Addr}{c:E Fl}(h:Eb w a c)(b:Ag S w w')(d:¬S a.block):Eb w' a c:=λi e=>by
 obtain⟨c,g⟩:=h i e;have e:(a.add<|i*2).block=a.block:=by unfold Addr.add;split<;>rfl
 have f:=BC c;exact⟨(b.cell (p:=a.add<|i*2) f<|by rw[e];exact d).trans c,(b.cell (p:=⟨(a.add<|i*2).block,(a.add<|i*2).off+1,O⟩) f<|by rw[e];exact d).trans g⟩
def Eb.old{a:Addr}{c:E Fl}(h:Eb w a c)(b:Am w w'):Eb w' a c:=h.kept b λx=>x
def gM(D:Option Addr)(L:N)(o:Addr)(e:E Fl)(u:0<e.length->D=J o)(a3:e.length<=3000000)(hd:e.Pairwise λa b=>a.1≠b.1)(w:U)(hf:Eb w o e):μ F 80 #[K D e.length L] w λr w'=>∃v' l,r=ε v'/\Am w w'/\l.Perm e/\QK l/\Au w' v' l/\∀b,v'.ownBlock=J b->w.heap.size<=b:=by
 have HF:=hf;have HD:=hd;have S:=u;go_in;go_wp2;go_loopw [3,4,5,6] (λf x _ _ wr=>∃(i:N) (l:E Fl) (T:Option Addr) (v:N),i<=e.length/\x=I Q i/\f=K T l.length v/\(Nx w wr (K T l.length v) l)/\(l.Perm (e.take i)/\QK l)) λ_ x _ _ _=>e.length-(intOf x).toNat
 .exact ⟨0,[],O,0,A,rfl,rfl,Nx.start<|Ag.refl _ w,adF _,aaJ⟩
 obtain⟨i,l,T,v,_,rfl,rfl,m,y⟩:=hrel;have a4:l.length<=3000000:=by have:=y.1.length_eq;rw[hY] at this;omega
 by_cases g:i<e.length
 .have P:(i:Z)<e.length:=A;have HX:(∀k,k<=l.length->(∀j (h:j<l.length),j<k->l[j].1.data.toList<e[i].1.data.toList)->(∀h:k<l.length,¬l[k].1.data.toList<e[i].1.data.toList)->(l.take k++[e[i]]++l.drop k).Perm (e.take<|i+1)/\QK (l.take k++[e[i]]++l.drop k)):=λk hk f t=>by
   rw[dX g];exact⟨KE y.1,dW y.2 hk f t λ_ f=>oK HD g<|y.1.mem_iff.1 f⟩
  have u:=S A;subst u;obtain⟨R,c2⟩:=HF.old m.2.2 i g;rw[Wq,Wv g] at R c2;simp only[aaH] at R c2;generalize e[i]=x at*;obtain⟨n,d⟩:=x;simp only at*;obtain⟨w0,a0⟩:∃w0,w0=wr:=⟨_,rfl⟩;subst a0;have g:=BC R;have HC:(∀W,Am w0 W->W.cell? (o.add<|i*2)=J (G n)/\W.cell? ⟨(o.add<|i*2).block,(o.add<|i*2).off+1,O⟩=J (G d)):=λW f=>⟨(f.cell (p:=o.add<|i*2) g λx=>x).trans R,(f.cell (p:=⟨(o.add<|i*2).block,(o.add<|i*2).off+1,O⟩) g λx=>x).trans c2⟩
  have HR:(Am w0 w0):=Ag.refl _ w0;go_wp2;go_loopw [6] (λf wr=>∃k:N,k<=l.length/\f=I Q k/\(∀j (h:j<l.length),j<k->l[j].1.data.toList<n.data.toList)/\(Am w0 wr)) λf _=>l.length-(intOf f).toNat
  .exact ⟨0,A,rfl,λj _ h=>A,HR⟩
  obtain⟨k,hk,rfl,HB,HO⟩:=hrel;by_cases x:k<l.length
  .have t:(k:Z)<l.length:=A;obtain⟨d1, -⟩:=HC wr HO;obtain⟨_,_,hu, -,e1, -⟩:=m.1.cells HO k x;injection hu with a1 _ a2;subst a1 a2;have f1:=Qo l[k].1 n;have HN:(l[k].1.data.toList<n.data.toList-> ∀j (h:j<l.length),j<k+1->l[j].1.data.toList<n.data.toList):=λh j f _=>by
    by_cases a5:j=k
    .subst a5;exact h
    exact HB j f A
   by_cases f:l[k].1.data.toList<n.data.toList
   .rw[Wy f] at f1;have c:=HN f;generalize l[k].1=z at*;go_wp2_with fail;go_quiet (fail);go_wp2;go_roundw
    .exact ⟨k+1,A,by go_num,c,HO.drewN _⟩
    exact Ae
   rw[Ww f] at f1;have q:(∀h:k<l.length,¬l[k].1.data.toList<n.data.toList):=λ_=>f
   generalize hz:l[k].1=z at e1 f1;exact aeG
  have t:¬(k:Z)<l.length:=A;have f:=Ww t;have g:=Ww x;have q:(∀h:k<l.length,¬l[k].1.data.toList<n.data.toList):=λh=>κ h x
  exact aeG
 have P:¬(i:Z)<e.length:=A;have f:i=e.length:=A;have j:(l.Perm e):=by have:=y.1;rw[f,wL] at this;exact this
 go_wp2;go_ret;exact⟨_,rfl,m.2.2,l,j,y.2,m.1,m.2.1⟩
def Au.fls{v:M}{a:E Fl}(h:Au w v a):∃ao cap b,v=K ao a.length cap/\(0<a.length->ao=J b)/\Eb w b a:=by
 by_cases h0:0<a.length
 .obtain ⟨g,cap,e,_,b⟩:=h.slice h0;refine⟨_,cap,⟨g,0,O⟩,e,λ_=>rfl,λi a=>?_⟩;have:=b i a;rw[we,WQ];exact this
 obtain⟨ao,cap,e⟩:=Dk h;exact⟨ao,cap,⟨0,0,O⟩,e,A,λi a=>A⟩
def gN(v:M)(c:E Fl)(e:c.length<=100)(f:c.Pairwise λa b=>a.1≠b.1)(w:U)(g:Au w v c):μ F 80 #[v] w λr w'=>∃v' l,r=ε v'/\Am w w'/\l.Perm c/\QK l/\Au w' v' l/\∀b,v'.ownBlock=J b->w.heap.size<=b:=by
 obtain⟨h,d,i,rfl,j,e⟩:=g.fls;exact gM h d i c j A f w e
abbrev DV:M:=K O 0 0
def xf(T:E BF)(w w':U)(r:Ending):Prop:=
 (∃m k,m<T.length/\SK T m/\Cg (Ay T) (T.getD m AC)=0/\Ef (Fg (Ay T)<|T.take m) (T.getD m AC)=k/\k≠0/\r=ε (η #[DV,DV,I Q (k:Z)]))\/
 (sb T/\∃v u l,r=ε (η #[v,u,I Q 0])/\l.Perm (Fg (Ay T) T).fs/\QK l/\Au w' v l/\BZ w' u (Fg (Ay T) T).lf/\(∀b,v.ownBlock=J b->w.heap.size<=b)/\∀b,u.ownBlock=J b->w.heap.size<=b)
structure dY (w0:U) (fs:E Fl) (lf:E Lf) (i:N) (vf vl:M) (w:U):Prop where
 nf:Nx w0 w vf fs
 lfa:BZ w vl lf
 lfb:∀b,vl.ownBlock=J b->w0.heap.size<=b
 few:lf.length<=i
def dY.old{a:E Fl}{b:E Lf}(h:dY w0 a b i vf vl w)(c:Am w w'):dY w0 a b i vf vl w':=
 ⟨⟨h.nf.1.old c,h.nf.2.1,h.nf.2.2.trans c⟩,h.lfa.kept c λ_ _ x=>x,h.lfb,h.few⟩
def dY.apart{a:E Fl}{c:E Lf}(h:dY w0 a c i vf vl w)(a:vf.ownBlock=J b)(c:vl.ownBlock=J b):False:=by
 obtain⟨_,e⟩:=Ak h.nf.1 a;obtain⟨_,d⟩:=Ak h.lfa c;rw[e] at d;injection d with d;injection d with _ d;exact κ d Ac
def dY.leave{a:E Fl}{c:E Lf}{nm:Y}{y:N}(h:dY w0 a c i vf vl w)
 (d:w'.ownsRow 0 60 2 (K (J ⟨g,0,O⟩) (c.length+1) cap) (c.length+1)<|Cu c++[G nm,I Q (y:Z)])(e:w.grownBy w' vl.ownBlock)(f:vl.ownBlock=J g\/g=w.heap.size):
 dY w0 a (c++[(nm,y)]) (i+1) vf (K (J ⟨g,0,O⟩) (c.length+1) cap) w':=by
 have a:=(Ag.refl _ w).grown e λ_ _ e=>e;refine⟨⟨h.nf.1.kept a λb j k=>h.apart j k,h.nf.2.1,h.nf.2.2.transNew a λk _ e=>κ (h.lfb k e) A⟩,?_,λb e=>?_,by rw[Ws];have:=h.few;simp;omega⟩
 .show w'.ownsRow 0 60 2 _ (c++[(nm,y)]).length (Cu<|c++[(nm,y)]);rw[Qp,Ws];exact d
 have:=WX (show J g=J b from e);subst this;rcases f with h4|h4
 .exact h.lfb g h4
 rw[h4];exact h.nf.2.2.size
def dY.take{b a:E Fl}{c:E Lf}{v':M}(h:dY w0 b c i vf vl w)(b:Nx w0 w' v' a)(d:Ag (λk=>vf.ownBlock=J k) w w'):dY w0 a c (i+1) v' vl w':=
 ⟨b,h.lfa.kept d λ_ a b=>h.apart b a,h.lfb,Nat.le_succ_of_le h.few⟩
def TT(T:E BF)(w0:U)(i:N)(vf vl al:M)(w:U):Prop:=SK T i/\dY w0 (Fg (Ay T)<|T.take i).fs (Fg (Ay T)<|T.take i).lf i vf vl w/\al=I Q ((Fg (Ay T)<|T.take i).all:Z)
def TT.start(T:E BF)(w:U):TT T w 0 DV DV (I Q 0) w:=
 ⟨λ_ _=>A,⟨Nx.start<|Ag.refl _ w,WZ _ _ _ _,λb e=>(by cases e),WF _⟩,rfl⟩
def TT.leave{T:E BF}(c:i<T.length)(a:SK T i)(b:Cg (Ay T) (T.getD i AC)≠0){vl':M}
 (h:dY w0 (Fg (Ay T)<|T.take i).fs ((Fg (Ay T)<|T.take i).lf++[((T.getD i AC).nm,Cg (Ay T)<|T.getD i AC)]) (i+1) vf vl' w'):TT T w0 (i+1) vf vl' (I Q ((Fg (Ay T)<|T.take i).all:Z)) w':=by
 refine⟨λj _ d=>?_,?_,?_⟩
 .by_cases e:j=i
  .subst e;exact κ d b
  exact a j A d
 .rw[Fz _ T i c,ET,Wx b];exact h
 rw[Fz _ T i c,ET,Wx b]
def TT.take{T:E BF}(b:i<T.length)(a:SK T i)(c:Cg (Ay T) (T.getD i AC)=0)(d:dfault (Fg (Ay T)<|T.take i).fs (Fg (Ay T)<|T.take i).all (T.getD i AC)=0){vf':M}
 (h:dY w0 ((Fg (Ay T)<|T.take i).fs++[((T.getD i AC).nm,(T.getD i AC).dt)]) (Fg (Ay T)<|T.take i).lf (i+1) vf' vl w'):TT T w0 (i+1) vf' vl (I Q (((Fg (Ay T)<|T.take i).all+(T.getD i AC).dt.size:N):Z)) w':=by
 refine⟨λj _ e=>?_,?_,?_⟩
 .by_cases f:j=i
  .subst f;rw[<-(Le T j A a).dfault];exact d
  exact a j A e
 .rw[Fz _ T i b,ET,Wz c];exact h
 rw[Fz _ T i b,ET,Wz c]
def xf.fault{T:E BF}(b:i<T.length)(a:SK T i)(c:Cg (Ay T) (T.getD i AC)=0)(d:dfault (Fg (Ay T)<|T.take i).fs (Fg (Ay T)<|T.take i).all (T.getD i AC)=k)(e:k≠0)(w w':U):xf T w w'<|ε (η #[DV,DV,I Q (k:Z)]):=
 .inl ⟨i,k,b,a,c,by rw[<-(Le T i A a).dfault];exact d,e,rfl⟩
def Vd(L:E Y)(T:E BF):∀f∈(Fg L T).fs,f.1.size<=80:=by
 intro f a;rw[vZ] at a;obtain⟨_,b,rfl⟩:=wd.1 a;have:=(aaZ.1 b).2;exact Eg (MB<|by simpa using this)
def dZ(a:Addr)(cap:N)(T:E BF)(hT:T.length<=200)(hs:∀e∈T,e.nm.size<=2000000/\e.dt.size<=2000000)(w:U)(ht:DM w a T):
 μ F 36 #[K (J a) T.length cap] w λr w'=>Am w w'/\xf T w w' r:=by
 have HS:C (∀i,i<T.length->(T.getD i AC).nm.size<=2000000/\(T.getD i AC).dt.size<=2000000):=λi hi=>by rw[Wq,Wv hi];exact hs _<|WJ hi
 have HT:=H ht;have HY:C (∀i,i<T.length-> ∀l,DM l a T->μ F 76 #[K (J a) T.length cap,I Q (i:Z)] l λr w'=>r=ε (I Q (Cg (Ay T) (T.getD i AC):Z))/\Am l w'):=λi hi l u=>by
  have:=sA a cap T hT (λe h=>(hs e h).1) i hi l u;rw[st] at this;exact this
 have c7:=H<|TT.start T w;have g2:¬(200:Z)<(T.length:Z):=A;clear ht hs;go_in;go_wp2;go_loopw [5,6,7,8,9,10,11,12,13] (λc6 b0 h x _ _ _ _ _ wr=>∃i:N,i<=T.length/\x=I Q i/\C (TT T w i c6 b0 h wr)) λ_ _ _ x _ _ _ _ _ _=>T.length-(intOf x).toNat
 .exact ⟨0,A,rfl,c7⟩
 obtain⟨i,hi,rfl,HI⟩:=hrel;clear c7;obtain⟨P,b1,t⟩:=X HI;subst t;have D:=H P;have n:=H b1;have HG:=H<|Le T i hi P;have c7:=HG.few;have g3:=HG.small;have g2:=b1.few;have c8:=H<|Vd (Ay T) (T.take i);clear P b1 HI;by_cases P:i<T.length
 .have c9:(i:Z)<T.length:=A;have b2:=H<|HT.old n.nf.2.2;obtain⟨h1,h2,h3⟩:=b2 i P;obtain⟨f0,_⟩:=HS i P;have d0:=H<|HY i P;have R:=H λk h w'=>TT.leave (T:=T) (w0:=w) (w':=w') (i:=i) (vf:=u5) (vl':=h) P D k;have b3:=H λk hd h w'=>TT.take (T:=T) (w0:=w) (w':=w') (i:=i) (vf':=h) (vl:=u6) P D k hd;have b4:=H λh k w' hd hk=>xf.fault (T:=T) (i:=i) P D h (k:=k) hd hk w w';have d1:C<|Cg (Ay T) (T.getD i AC)<=5:=by unfold C Cg;split<;>(try split)<;>(try split)<;>(try split)<;>(try split)<;>omega
  have a5:C (dfault (Fg (Ay T)<|T.take i).fs (Fg (Ay T)<|T.take i).all (T.getD i AC)=if(Fg (Ay T)<|T.take i).fs.any (λc6=>Lv c6.1 (T.getD i AC).nm) then 5 else if(Γ ((T.getD i AC).nm≠Fy)&&Γ (AQ (T.getD i AC).nm=Fy)) then 4 else if BE (T.getD i AC).nm<(T.getD i AC).dt.size then 1 else if 60<(Fg (Ay T)<|T.take i).fs.length+1 then 6 else if 16000<(Fg (Ay T)<|T.take i).all+(T.getD i AC).dt.size then 1 else 0):=rfl;clear D HG;generalize dfault (Fg (Ay T)<|T.take i).fs (Fg (Ay T)<|T.take i).all (T.getD i AC)=df at*;generalize Cg (Ay T) (T.getD i AC)=a0 at*;generalize Fg (Ay T) (T.take i)=s at*;obtain⟨fs,_,all,lf⟩:=s;generalize T.getD i AC=e at*;obtain⟨h,ln,dt⟩:=e;simp only at*;have P:Am wr<|wr.alloc (W #[G h,ζ ln,G dt] 35):=(Ag.refl _ wr).alloc _;have HE:=H<|UW.made wr h ln dt;have b1:=WD wr<|W #[G h,ζ ln,G dt] 35;have a1:=H<|n.old P;have d2:=H<|b2.old P;have d3:C (∀b,u5.ownBlock=J b->b≠wr.heap.size):=λb hb e=>by
   obtain⟨f3,hc⟩:=Ak n.nf.1 hb;have:=(Wt.1 hc).1;omega
  clear P b2 n;go_wp2_with fail;clear h1 h2 h3 b1;generalize wr.alloc (W #[G h,ζ ln,G dt] 35)=l at*;refine(d0 l d2).mono ?_;rintro r w4 ⟨rfl,b5⟩;have a6:=H<|HE.old b5;have v:=H<|a1.old b5;generalize wr.heap.size=ge at*;clear HE a1 d2 d0 b5;by_cases d4:a0=0
  .subst d4;have d:=H<|b3 rfl;have f:=H<|b4 rfl;clear R d1 b3 b4;obtain⟨d5,a4,f4⟩:=v.nf.form;subst f4;have d6:C<|Am w4 w4:=Ag.refl _ w4;go_wp2;go_loopw [11,12] (λa0 _ wr=>∃k:N,k<=fs.length/\a0=I Q k/\C (∀a2 (u:a2<fs.length),a2<k->Lv fs[a2].1 h=ι)/\C (Am w4 wr)) (λa0 _ _=>fs.length-(intOf a0).toNat)
   .exact ⟨0,A,rfl,λa2 _ u=>A,d6⟩
   clear d6;obtain⟨k,hk,rfl,HB,HO⟩:=hrel;have a7:=H<|a6.old HO;have a8:=H<|v.old HO;by_cases b6:k<fs.length
   .have d7:(k:Z)<fs.length:=A;obtain⟨gf,_,hu,f5,c1, -⟩:=a8.nf.1.cells (Ag.refl _ wr) k b6;injection hu with f6 _ f7;subst f6 f7;obtain⟨f8,c0, -, -⟩:=X a7;have HC:=H λl=>dV fs[k].1 h (WI (c8 _<|WJ b6) A) f0 l;have b7:C (Lv fs[k].1 h=ι-> ∀a2 (u:a2<fs.length),a2<k+1->Lv fs[a2].1 h=ι):=λu a2 hj _=>by
     by_cases e:a2=k
     .subst e;exact u
     exact HB a2 hj A
    have b9:C<|Lv fs[k].1 h=θ->df=5:=λu=>by
     rw[X a5,Wz<|wJ.2 ⟨fs[k],WJ b6,u⟩]
    generalize Lv fs[k].1 h=cl at*;generalize fs[k].1=z at*;have d8:∀l y :U,(l.cell? ⟨gf,k*2,O⟩=J (G z)/\l.cell? ⟨ge,0,O⟩=J (G h)/\Am wr l)->Am l y ->(y.cell? ⟨gf,k*2,O⟩=J (G z)/\y.cell? ⟨ge,0,O⟩=J (G h)/\Am wr y):=λl y u ho=>by
     have hz:=u.2.2.size;exact⟨(ho.cell (p:=⟨gf,k*2,O⟩) (wG f5 hz) λe=>e).trans u.1,(ho.cell (p:=⟨ge,0,O⟩) (wG f8 hz) λe=>e).trans u.2.1,u.2.2.trans ho⟩
    have q:wr.drew.cell? ⟨gf,k*2,O⟩=J (G z)/\wr.drew.cell? ⟨ge,0,O⟩=J (G h)/\Am wr wr.drew:=⟨c1,c0,(Ag.refl _ wr).drew⟩;clear c1 c0;go_wp2_with fail;refine Ai (S:=λl=>l.cell? ⟨gf,k*2,O⟩=J (G z)/\l.cell? ⟨ge,0,O⟩=J (G h)/\Am wr l) (L:=8) B ?_;refine tk 0 9 (K (J ⟨gf,0,O⟩) fs.length a4) 45 q ?_;refine tk 1 9 (I Q (k:Z)) 46 q ?_;refine tk 2 9 (V<|J ⟨gf,k*2,O⟩) 47 q ?_;refine tk 3 9 (V<|J ⟨gf,k*2,O⟩) 48 q ?_;refine tk 4 9 (G z) 49 q ?_;refine tk 5 9 (V<|J ⟨ge,0,O⟩) 50 q ?_;refine tk 6 9 (G h) 51 q ?_;refine Ah (i:=7) B ?_;refine WE rfl λ_ x=>?_;go_simp;refine(HC _).mono ?_;rintro r w5 ⟨rfl,d9⟩;have P:=d8 _ _ q d9;refine x _ _ ⟨λ_=>P,?_⟩;clear x;refine Ah (i:=8) B ?_;refine WE rfl λ_ x=>?_;go_simp;refine x _ _ ⟨λu=>κ rfl u,?_⟩;clear x;refine Aj B ?_;have e0:=H<|HO.trans P.2.2;have f9:C<|Am w w5:=v.nf.2.2.trans e0;clear d8 q P d9 HC;cases cl with
    |true=>
     have c:=H<|f 5 w5 (b9 rfl) Ac;clear f d b9 b7;go_wp2_with fail;go_ret3;exact⟨f9,c⟩
    |false=>
     have q:=H<|b7 rfl;clear b7 b9;go_wp2;go_roundw
     .exact ⟨k+1,A,by go_num,q,e0⟩
     exact Ae
   have d7:¬(k:Z)<fs.length:=A;have e1:C (fs.any (λc6=>Lv c6.1 h)=ι):=by
    unfold C;rw[aar];intro c6 hf;obtain⟨a2,hj,rfl⟩:=wF hf;rw[HB a2 hj A];decide
   have a3:C (df=if(Γ (h≠Fy)&&Γ (AQ h=Fy)) then 4 else if BE h<dt.size then 1 else if 60<fs.length+1 then 6 else if 16000<all+dt.size then 1 else 0):=by
    unfold C;rw[X a5,X e1];rfl
   obtain⟨lg,o⟩:∃lg,Γ (BE h<dt.size)=lg:=⟨_,rfl⟩;have x:=H λl=>PB h dt.size l;rw[o] at x;have e2:=H λl=>ou h A l;have f1:((AQ h).toList==[103,111,46,109,111,100])=Γ (AQ h=Fy):=Fw _ _;have f2:(h.toList==[103,111,46,109,111,100])=Γ (h=Fy):=Fw _ _;obtain⟨-,c0, -,c2⟩:=X a7;have e3:C (∀y,Ag (λk=>(Value.slice d5 fs.length a4).ownBlock=J k) (wr.alloc<|W #[G h,G dt] 38) y ->UW y ge h ln dt):=λy ho=>(a7.old ((Ag.refl _ wr).alloc _)).kept ho λe=>d3 ge e rfl
   have e4:C (∀y v',Nx w y v' (fs++[(h,dt)])->Ag (λk=>(Value.slice d5 fs.length a4).ownBlock=J k) (wr.alloc<|W #[G h,G dt] 38) y ->dY w (fs++[(h,dt)]) lf (i+1) v' u6 y):=λy v' k ho=>(a8.old ((Ag.refl _ wr).alloc _)).take k ho
   have y:(fs++[(h,dt)]).length=fs.length+1:=Ad;clear HB a5 e1 HO a6 v;go_wp2_with (at_builtin;refine Ch rfl (.tmp 54) (.tmp 60) rfl _ _ fs [(h,dt)] rfl rfl (a8.nf.alloc _) (.inr ⟨⟨wr.heap.size,0,O⟩,1,rfl,AD wr [G h,G dt] 38⟩) ako ?_;intro _ w5 c3 c4;obtain⟨_,_,e5⟩:=c3.form;rw[y] at e5;subst e5;have e6:=H<|e4 w5 _ c3 c4;have c5:=H<|e3 w5 c4;clear c3 c4 c0 c2;obtain⟨-,c0, -,c2⟩:=X c5);clear y e4 e3 a7 a8;refine(x _).mono ?_;rintro r wt ⟨rfl,rfl⟩;clear x;go_wp2_with fail;refine(e2 _).mono ?_;rintro r w6 ⟨rfl,l⟩;have j:=H<|e6.old l;have k:=H<|c5.old l;have m:=H j.nf.2.2;clear l e2 e6 c5 c0 c2;obtain⟨-,c0, -,c2⟩:=X k;clear k;generalize AQ h=lw at*;by_cases k:lw=Fy
   .rw[Wy k] at f1;by_cases q:h=Fy
    .rw[Wy q] at f2;have hd:df=if BE h<dt.size then 1 else if 60<fs.length+1 then 6 else if 16000<all+dt.size then 1 else 0:=by
      rw[X a3,Ww (show ¬h≠Fy from λu=>u q)];rfl
     clear a3 k q;exact aeL
    rw[Ww q] at f2;have hd:df=4:=(by rw[X a3,Wy (show h≠Fy from q),Wy k];rfl);have c:=H<|f 4 w6 hd Ac;clear f d hd a3 k q o;go_wp2_with fail;go_ret3;exact⟨m,c⟩
   rw[Ww k] at f1;have hd:df=if BE h<dt.size then 1 else if 60<fs.length+1 then 6 else if 16000<all+dt.size then 1 else 0:=by
    rw[X a3,Ww k,Bool.and_false];rfl
   clear a3 k f2;exact aeL
  have a9:=H<|R d4;have q:a0<=5:=d1;clear b3 b4 R a5;have k:((a0:Z) !=0)=true:=akQ
  have q:¬(a0:Z)=0:=A;obtain⟨_,h1,h2,h3⟩:=X a6;obtain⟨ao,cp,g0⟩:∃ao cp,u6=K ao lf.length cp:=by
   obtain⟨_,⟨rfl,hz⟩|⟨b,_,f3,rfl,_⟩⟩:=v.lfa
   .exact afx
   exact⟨_,_,rfl⟩
  subst g0;have a1:=H<|v.old ((Ag.refl _ w4).alloc<|W #[G h,I Q (a0:Z)] 60);have k:=H a1.lfa;have q:=H<|AD w4 [G h,I Q (a0:Z)] 60;have e7:C ((w4.alloc<|W #[G h,I Q (a0:Z)] 60).heap.size=w4.heap.size+1):=by unfold C;rw[WP]
  have R:=H λw' g cap h1 h2 h3=>a9 (K (J ⟨g,0,O⟩) (lf.length+1) cap) w'<|a1.leave (w':=w') (nm:=h) (y:=a0) (g:=g) (cap:=cap) h1 h2 h3;rw[X e7] at R;obtain⟨i0,u,y,P,a2⟩:=wi Xy;clear v a6 a9 a1 d3;go_wp2_with (at_builtin;refine wpList_append_lies _ rfl (.tmp 32) (.tmp 37) 57 rfl 0 60 i0 (.agg #[G ⟨#[]⟩,I Q 0]) 2 24 underlying57 u y P a2 rfl A (K ao lf.length cp) lf.length (Cu lf) rfl k ⟨w4.heap.size,0,O⟩ 1 1 [G h,I Q (a0:Z)] rfl rfl q alJ A (by unfold maxLen;omega) A A (w4.heap.size+1) e7 ?_;intro v h w6 l k q u;have HX:=H<|R w6 v h l k q;clear l k q u);go_roundw
  .exact ⟨i+1,A,by go_num,HX⟩
  exact Ae
 have c9:¬(i:Z)<T.length:=A;have h:i=T.length:=A;have e8:C<|sb T:=by have:=X D;rw[h] at this;exact this
 have x:C<|Fg (Ay T) (T.take i)=Fg (Ay T) T:=by unfold C;rw[h,wL]
 have e9:=H HG.dif;clear h;have H6:=H<|gN u5 (Fg (Ay T)<|T.take i).fs A e9 wr n.nf.1;have a0:C (∀w' v' b0,Am wr w'->b0.Perm (Fg (Ay T)<|T.take i).fs->QK b0->Au w' v' b0->(∀b,v'.ownBlock=J b->wr.heap.size<=b)->Am w w'/\xf T w w' (ε<|η #[v',u6,I Q 0])):=λw' v' b0 ho hp g1 hf hb=>by
  refine⟨n.nf.2.2.trans ho,.inr ⟨e8,v',u6,b0,rfl,?_,g1,hf,?_,λb e=>WI n.nf.2.2.size<|hb b e,n.lfb⟩⟩
  .rw[<-X x];exact hp
  rw[<-X x];exact n.lfa.kept ho λ_ _ h=>h
 clear D n HG c8 x e8 e9 HS HT HY;generalize(Fg (Ay T)<|T.take i)=s at*;go_wp2_with fail;refine H6.mono ?_;rintro r w6 ⟨v6,l6,rfl,l,h,k,n,q⟩;have HX:=H<|a0 w6 v6 l6 l h k n q;clear a0 l h k n q H6;go_wp2_with fail;go_ret3;exact HX
def Md(w:U)(v:M)(T:E BF):Prop:=(v=K O 0 0/\T=[])\/ ∃a cap,v=K (J a) T.length cap/\DM w a T
def Md.old{v:M}{T:E BF}(h:Md w v T)(c:Am w w'):Md w' v T:=by
 rcases h with h|⟨a,b,e,h⟩
 .exact .inl h
 exact .inr ⟨a,b,e,h.old c⟩
def Rk(T:E BF)(w w':U)(r:Ending):Prop:=(T.length<=200/\xf T w w' r)\/(200<T.length/\r=ε (η #[DV,DV,I Q 6]))
def XF(T:E BF):∀n,n<=T.length->SK T n\/ ∃m,m<n/\SK T m/\Cg (Ay T) (T.getD m AC)=0/\Ef (Fg (Ay T)<|T.take m) (T.getD m AC)≠0
 |0,_=> .inl λj _=>A
 |n+1,_=>by
  rcases XF T n A with h|⟨m,_,b⟩
  .rcases adZ (Cg (Ay T) (T.getD n AC)=0->Ef (Fg (Ay T)<|T.take n) (T.getD n AC)=0) with h3|h3
   .refine .inl λj _ a=>?_;by_cases e:j=n
    .subst e;exact h3 a
    exact h j A a
   have a:=Classical.not_imp.1 h3;exact .inr ⟨n,A,h,a.1,a.2⟩
  exact .inr ⟨m,A,b⟩
def gP(w w':U):xf [] w w'<|ε (η #[DV,DV,I Q 0]):=
 .inr ⟨λ_ a=>(by cases a),DV,DV,[],rfl,adF _,aaJ,WZ _ _ _ _,WZ _ _ _ _,λb e=>(by cases e),λb e=>(by cases e)⟩
def eb(b cap:N)(T:E BF)(d:∀e∈T,e.nm.size<=2000000)(w:U)(g:Cf w)(i:FM w b T)(c:b<w.heap.size):
 μ F 34 #[K (J ⟨b,0,O⟩) T.length cap] w λr w'=>Am w w'/\Rk T w w' r:=by
 by_cases a:T.length<=200
 .rcases XF T T.length (WF _) with h|⟨m,h1,h2,h3,h4⟩
  .have f:sb T:=h;apply(sd b cap T a d f (SL f).dif w g i c).mono;exact air
  apply(se b cap T a d m _ h1 h2 h3 rfl h4 w g i c).mono;exact aiF
 apply(dO b cap T.length A w).mono;exact akc
def sB(w:U):μ F 34 #[K O 0 0] w λr w'=>Am w w'/\Rk [] w w' r:=by
 apply(jV w).mono;exact aiP
def sC(ao:Option Addr)(n cap:N)(a:200<n)(w:U):μ F 36 #[K ao n cap] w λr w'=>r=ε (η #[DV,DV,I Q 6])/\w'=w:=by
 have:(200:Z)<(n:Z):=A;exact agi
def xg(w:U):μ F 36 #[K O 0 0] w λr w'=>Am w w'/\Rk [] w w' r:=by
 have g:=H<|gN DV [] Ad aaJ w (WZ _ _ _ _);have h:C (∀(w':U) (a :M) (l:E Fl),Am w w'->l.Perm []->QK l->Au w' a l->(∀b,a.ownBlock=J b->w.heap.size<=b)->Am w w'/\Rk [] w w' (ε<|η #[a,DV,I Q 0])):=λw' a l c d e f i=>
  ⟨c,.inl ⟨wH _,.inr ⟨λ_ c=>(by cases c),a,DV,l,rfl,d,e,f,WZ _ _ _ _,i,λb e=>(by cases e)⟩⟩⟩
 go_in;go_wp2;go_loopw [5,6,7,8,9,10,11,12,13] (λf l _ x _ _ _ _ _ wr=>f=DV/\l=DV/\x=I Q 0/\wr=w) λ_ _ _ _ _ _ _ _ _ _=>0
 .exact ⟨rfl,rfl,rfl,rfl⟩
 obtain⟨rfl,rfl,rfl,rfl⟩:=hrel;go_wp2_with fail;apply g.mono;rintro r i ⟨j,k,rfl,a,c,d,e,f⟩;have l:=H<|h i j k a c d e f;clear h a c d e f g;go_wp2_with fail;go_ret3;exact l
def PH(v:M)(T:E BF)(d:∀e∈T,e.nm.size<=2000000/\e.dt.size<=2000000)(w:U)(c:Md w v T):μ F 36 #[v] w λr w'=>Am w w'/\Rk T w w' r:=by
 rcases c with⟨rfl,rfl⟩|⟨a,b,rfl,h⟩
 .exact xg w
 by_cases c:T.length<=200
 .apply (dZ a b T c d w h).mono;rintro r w' ⟨d,f⟩;exact⟨d,.inl ⟨c,f⟩⟩
 apply(sC (J a) T.length b A w).mono;rintro r w' ⟨e,rfl⟩;exact⟨Ag.refl _ _,.inr ⟨A,e⟩⟩
def Rk.same{T:E BF}{a w2 b:U}{c d:Ending}(u:Rk T w1 a c)(o:Rk T w2 b d):
 ∃(k:N) (fs:E Fl) (lf:E Lf) (e f l m:M),c=ε (η #[e,f,I Q (k:Z)])/\d=ε (η #[l,m,I Q (k:Z)])/\Au a e fs/\Au b l fs/\BZ a f lf/\BZ b m lf/\fs.length<=60/\lf.length<=200/\(∀g,e.ownBlock=J g->w1.heap.size<=g)/\∀g,f.ownBlock=J g->w1.heap.size<=g:=by
 have i:∀(k:N),c=ε (η #[DV,DV,I Q (k:Z)])->d=ε (η #[DV,DV,I Q (k:Z)])->_:=λk n j=>(⟨k,[],[],DV,DV,DV,DV,n,j,WZ _ _ _ _,WZ _ _ _ _,WZ _ _ _ _,WZ _ _ _ _,wH _,wH _,λg p=>(by cases p),λg p=>(by cases p)⟩:∃(k:N) (fs:E Fl) (lf:E Lf) (e f l m:M),c=ε (η #[e,f,I Q (k:Z)])/\d=ε (η #[l,m,I Q (k:Z)])/\Au a e fs/\Au b l fs/\BZ a f lf/\BZ b m lf/\fs.length<=60/\lf.length<=200/\(∀g,e.ownBlock=J g->w1.heap.size<=g)/\∀g,f.ownBlock=J g->w1.heap.size<=g)
 rcases u with⟨hT,u⟩|⟨hT,n⟩
 .rcases o with⟨-,o⟩|⟨v, -⟩
  .rcases u with⟨s,k1,a1,b1,c1,w,f1,n⟩|⟨p,e,f,l1,n,p1,s1,x,y,z,D⟩
   .rcases o with⟨q,k2,a2,b2,L,t,P,j⟩|⟨r, -⟩
    .have hm:s=q:=by
      rcases abF s q with h|h|h
      .exact κ (w.symm.trans<|b2 s h c1) f1
      .exact h
      exact κ (t.symm.trans<|b1 q h L) P
     subst hm;have hk:=w.symm.trans t;subst hk;exact i k1 n j
    exact κ (w.symm.trans<|r s a1 c1) f1
   rcases o with⟨q,k2,a2,b2,L,t,P,j⟩|⟨r,l,m,_,j,c,d,R,S,_,_⟩
   .exact κ (t.symm.trans<|p q a2 L) P
   have hl:=Pz (p1.trans c.symm) s1 d;subst hl;refine⟨0,l1,_,e,f,l,m,n,j,x,R,y,S,?_,?_,z,D⟩
   .rw[p1.length_eq];exact(SL p).few
   rw[xb,wX];exact WI (aaU _ _) hT
  omega
 rcases o with⟨v, -⟩|⟨-,j⟩
 .omega
 exact i 6 n j
abbrev wT:ν:=33
structure WS where
 m:Y
 v:Y
 ar:Y
 pd:M
 pr:M
 r5:M
 r6:M
 r7:M
 r8:M
 r9:M
 r10:M
 z:U
def WS.cs(s:WS)(c:N):φ M:= #[G s.m,G s.v,G s.ar,s.pd,s.pr,s.r5,s.r6,s.r7,s.r8,s.r9,s.r10,I Q (c:Z)]
def oM(s:WS)(c:N)(e:c<=1000000000)(b:N)(w:U)(f:w.heap[b]? =J (.cells (s.cs c) wT (0,0))):
 μ F 81 #[V<|J ⟨b,0,O⟩] w λr w'=>∃z:Y,r=ε (G z)/\Ag (λk=>k=b) w w'/\w'.heap[b]? =J (.cells (s.cs<|c+1) wT (0,0)):=by
 have:=(Wt.1 f).1;have g:w.cell? ⟨b,11,O⟩=J (I Q (c:Z)):=by rw[Wu w b 11 _ _ (0,0) f];rfl
 have h:=WK w b 11 _ _ f;have e:=WL w b 11 _ _ (I Q ((c:Z)+1)) f;have D:C ((w.setCell ⟨b,11,O⟩<|I Q ((c:Z)+1)).heap[b]? =J (.cells (s.cs<|c+1) wT (0,0))):=e;have x:C (Ag (λk=>k=b) w<|w.setCell ⟨b,11,O⟩ (I Q ((c:Z)+1))):=Aq w b 11 _;clear f e;go_in;go_wp2_with fail;generalize w.setCell ⟨b,11,O⟩ (I Q ((c:Z)+1))=W at*;have y:C<|Am W W:=Ag.refl _ W;clear g h;have a:∃q:N,q<=1000000001/\(c:Z)+1=(q:Z):=⟨c+1,A,A⟩;obtain⟨f,a,e⟩:=a;rw[e];clear e;go_loopw [3,4,5] (λt n e wr=>∃(k q:N) (z:Y),k<=7/\q<=1000000001/\z.size<=k+1/\t=G z/\n=I Q (q:Z)/\e=I Q (k:Z)/\C (Am W wr)) λ_ _ e _=>7-(intOf e).toNat
 .exact ⟨0,f,⟨#[35]⟩,A,a,WF _,rfl,rfl,rfl,y⟩
 obtain⟨k,q,z,_,_,_,rfl,rfl,rfl,m⟩:=hrel;clear y a;by_cases L:k<7
 .have i:(k:Z)<7:=A;obtain⟨j,_⟩:∃j,q/16=j:=⟨_,rfl⟩;obtain⟨d,_⟩:∃d,97+q%16=d:=⟨_,rfl⟩;have o:d<256:=A;have:(q:Z).tmod 16=(d:Z)-97:=alx
  have:(q:Z).tdiv 16=(j:Z):=by rw[adQ A];omega
  have:(97:Z)+((d:Z)-97)=(d:Z):=A;have l:j<=1000000001:=A;have p:C<|Am W (wr.alloc (.cells #[I .u8 (d:Z)] 5)):=m.alloc _;have:(convert 64 9<|K (J ⟨wr.heap.size,0,O⟩) 1 1).run F (wr.alloc (.cells #[I .u8 (d:Z)] 5))=.ok (G ⟨[b8 d].toArray⟩) (wr.alloc (.cells #[I .u8 (d:Z)] 5)):=
   abX _ 64 9 5 ⟨wr.heap.size,0,O⟩ 1 [b8 d] underlying64 underlying5 underlying9 (λa e=>by
    have u:a=0:=(by simpa using e);subst u;rw[we,Wu _ _ (0+0) _ _ (0,0)<|WD wr _];simp[AN o])
  have:∀a,(Op.stringOp .add z ⟨[b8 d].toArray⟩).run F a=.ok (G<|z++⟨[b8 d].toArray⟩) a:=λa=>WR a _ _ (by have a:(⟨[b8 d].toArray⟩:Y).size=1:=rfl;omega)
  have v:(z++⟨[b8 d].toArray⟩).size<=k+1+1:=by rw[WC];have:(⟨[b8 d].toArray⟩:Y).size=1:=rfl;omega
  generalize z++(⟨[b8 d].toArray⟩:Y)=z2 at*;generalize(⟨[b8 d].toArray⟩:Y)=z1 at*;go_wp2;go_roundw
  .exact ⟨k+1,j,z2,A,l,v,rfl,rfl,by go_num,p⟩
  exact Ae
 have:¬(k:Z)<7:=A;go_wp2;go_ret;exact⟨⟨z,rfl⟩,x.trans<|Ag.oldW m,(m.block b (by have:=x.size;omega) λx=>x).trans D⟩
abbrev tF:ν:=38
abbrev tL:ν:=60
abbrev tE:ν:=35
abbrev ec:ν:=39
abbrev ed:ν:=57
abbrev SM:ν:=36
abbrev ee:ν:=46
abbrev qA:ν:=132
def TU(m:Y):E M:=[G m,G ⟨#[]⟩]
def TV(m:Y):E M:=[G m,I Q 0]
def ZU(m:Y):E M:=[G m,ζ ι,G ⟨#[]⟩]
def Fh(w:U)(e:ν)(k:N)(el:Y->E M)(v:M)(m:Y):Prop:= ∃ao n cap,v=K ao n cap/\n<=2000000/\(n=0\/ ∃g J0,ao=J ⟨g,0,O⟩/\w.heap[g]? =J (W J0 e (0,0))/\∀i,i<n-> ∀j u,(el m)[j]? =J u->J0[i*k+j]? =J u)
def Fh.kept{el:Y->E M}{v:M}{m:Y}(h:Fh w e k el v m)(f:Ag S w w')(i:∀g a,w.heap[g]? =J (W a e (0,0))->v.ownBlock=J g->¬S g):Fh w' e k el v m:=by
 obtain⟨j,n,b,rfl,d,h|⟨g,a,rfl,c,l⟩⟩:=h
 .exact ⟨j,n,b,rfl,d,.inl h⟩
 exact⟨_,n,b,rfl,d,.inr ⟨g,a,rfl,(f.block g (Wt.1 c).1<|i g a c rfl).trans c,l⟩⟩
def JF(w:U)(e et:ν)(k:N)(el:Y->E M)(vr vm:M)(R:E<|M×Y):Prop:=w.ownsRow 0 et 1 vr R.length (R.map (·.1))/\w.ownsRow 0 9 1 vm R.length (R.map λx=>Value.string x.2)/\∀x∈R,Fh w e k el x.1 x.2
def JF.nil(w:U)(e a:ν)(k:N)(el:Y->E M):JF w e a k el DV DV []:=⟨WZ _ _ _ _,WZ _ _ _ _,λ_ h=>by cases h⟩
def JF.kept{c:ν}{el:Y->E M}{a d:M}(h:JF w e c k el a d R)(f:Ag S w w')(j:∀b,a.ownBlock=J b->¬S b)(l:∀b,d.ownBlock=J b->¬S b)
 (m:∀x,x∈R-> ∀g i,w.heap[g]? =J (W i e (0,0))->x.1.ownBlock=J g->¬S g):JF w' e c k el a d R:=
 ⟨Az h.1 f j,Az h.2.1 f l,λx a=>(h.2.2 x a).kept f<|m x a⟩
def JF.old{c:ν}{el:Y->E M}{a d:M}(h:JF w e c k el a d R)(b:Am w w'):JF w' e c k el a d R:=h.kept b (λ_ _ x=>x) (λ_ _ x=>x) λ_ _ _ _ _ _ x=>x
structure CI (w1 w:U) (b c:N) (s:WS) (RF RL RT:E<|M×Y):Prop where
 only:Ag (λk=>k=b) w1 w
 lt:b<w1.heap.size
 hp:w.heap[b]? =J (W (s.cs c) wT (0,0))
 rf:JF w tF ec 2 TU s.r5 s.r6 RF
 rl:JF w tL ed 2 TV s.r7 s.r8 RL
 rt:JF w tE SM 3 ZU s.r9 s.r10 RT
 new:∀r,r=s.r5\/r=s.r6\/r=s.r7\/r=s.r8\/r=s.r9\/r=s.r10-> ∀k,r.ownBlock=J k->w1.heap.size<=k
 ap1:∀k,s.r6.ownBlock=J k->s.r8.ownBlock≠J k
 ap2:∀k,s.r6.ownBlock=J k->s.r10.ownBlock≠J k
 ap3:∀k,s.r8.ownBlock=J k->s.r10.ownBlock≠J k
 few:RF.length<=4*c/\RL.length<=4*c/\RT.length<=4*c
 dk:∀(k:N) (cu:φ M) (e:ν),(e=ee\/e=qA)->s.z.heap[k]? =J (W cu e (0,0))->w.heap[k]? =J (W cu e (0,0))
def CI.old{s:WS}{a e:E (M×Y)}(h:CI w1 w b c s a d e)(f:Am w w'):CI w1 w' b c s a d e:=
 ⟨h.only.trans<|Ag.oldW f,h.lt,(f.block b (Wt.1 h.hp).1 λx=>x).trans h.hp,h.rf.old f,h.rl.old f,h.rt.old f,h.new,h.ap1,h.ap2,h.ap3,h.few,λk a e d g=>AH f<|h.dk k a e d g⟩
def CI.inb{s:WS}{a e:E (M×Y)}(h:CI w1 w b c s a d e):b<w.heap.size:=(Wt.1 h.hp).1
def kinds{c1 c2:φ M}{c a:ν}(e:w.heap[g]? =J (W c1 c (0,0)))(b:w.heap[g]? =J (W c2 a (0,0)))(d:c≠a):False:=by
 rw[e] at b;injection b with b;injection b with _ b;exact d b
def CI.rec_{e:N}{s s':WS}{a f:E (M×Y)}(h:CI w1 w b c s a d f)(l:Ag (λk=>k=b) w w')(D:w'.heap[b]? =J (W (s'.cs e) wT (0,0)))(p:c<=e)
 (r:s'.r5=s.r5)(m:s'.r6=s.r6)(t:s'.r7=s.r7)(o:s'.r8=s.r8)(u:s'.r9=s.r9)(i:s'.r10=s.r10)(L:s'.z=s.z:=by rfl):CI w1 w' b e s' a d f:=by
 have j:∀{e:ν} {k:N} {v:M} {n:N} {xs:E M},e≠wT->w.ownsRow 0 e k v n xs-> ∀g,v.ownBlock=J g->¬g=b:=λf q g d e=>by
  obtain⟨a,p⟩:=Ak q d;exact kinds (e ▸ p) h.hp f
 have p:∀{e:ν},e≠wT-> ∀g a,w.heap[g]? =J (W a e (0,0))->¬g=b:=λf g a d e=>kinds (e ▸ d) h.hp f
 refine⟨h.only.trans l,h.lt,D,?_,?_,?_,?_,?_,?_,?_,?_,?_⟩
 .rw[r,m];exact h.rf.kept l (j Ac h.rf.1) (j Ac h.rf.2.1) λ_ _ g a d _=>p Ac g a d
 .rw[t,o];exact h.rl.kept l (j Ac h.rl.1) (j Ac h.rl.2.1) λ_ _ g a d _=>p Ac g a d
 .rw[u,i];exact h.rt.kept l (j Ac h.rt.1) (j Ac h.rt.2.1) λ_ _ g a d _=>p Ac g a d
 .rw[r,m,t,o,u,i];exact h.new
 .rw[m,o];exact h.ap1
 .rw[m,i];exact h.ap2
 .rw[o,i];exact h.ap3
 .have:=h.few;omega
 intro k x e y a;rw[L] at a;have q:=h.dk k x e y a;exact(l.block k (Wt.1 q).1 (p (by rcases y with rfl|rfl<;>decide) k x q)).trans q
def Ap(a:Am w w'){p:Addr}{v:M}(h:w.cell? p=J v):w'.cell? p=J v:=(a.cell (BC h) λx=>x).trans h
def CN{v:M}{a:E M}(h:w.ownsRow 0 e k v n a):∃ao cap,v=K ao n cap:=by
 obtain⟨_,⟨rfl,hz⟩|⟨g,cap,_,rfl,_⟩⟩:=h
 .exact afx
 exact⟨_,_,rfl⟩
def ZV{v:M}{a:E M}(h:w.ownsRow 0 e 1 v n a)(b:a[i]? =J u)(c:i<n):∃g cap,v=K (J ⟨g,0,O⟩) n cap/\w.cell? ⟨g,i,O⟩=J u:=by
 obtain⟨g,cap,rfl,_,_⟩:=h.form A;refine⟨g,cap,rfl,?_⟩;have:=h.cells (g:=g) rfl i u b;exact ahP
def JF.row{c:ν}{el:Y->E M}{a d:M}(j:JF w e c k el a d R)(b:i<R.length):∃c g f h,a=K (J ⟨c,0,O⟩) R.length g/\d=K (J ⟨f,0,O⟩) R.length h/\w.cell? ⟨c,i,O⟩=J R[i].1/\w.cell? ⟨f,i,O⟩=J (G R[i].2):=by
 obtain⟨c,g,a,d⟩:=ZV j.1 (i:=i) (u:=R[i].1) (by simp[b]) b;obtain⟨f,h,l,m⟩:=ZV j.2.1 (i:=i) (u:=G R[i].2) (by simp[b]) b;exact⟨c,g,f,h,a,l,d,m⟩
def Fh.el{el:Y->E M}{v:M}{m:Y}(h:Fh w e k el v m):∃ao n cap,v=K ao n cap/\n<=2000000/\∀i,i<n-> ∃g,ao=J ⟨g,0,O⟩/\∀j u,(el m)[j]? =J u->w.cell? ⟨g,i*k+j,O⟩=J u:=by
 obtain⟨ao,n,cap,rfl,a,h|⟨g,_,rfl,b,c⟩⟩:=h
 .exact ⟨ao,n,cap,rfl,a,λi _=>A⟩
 exact⟨_,n,cap,rfl,a,λi d=>⟨g,rfl,λj u a=>by rw[Wu w g _ _ _ (0,0) b];exact c i d j u a⟩⟩
def zk:prog.underlying 38=J (.struct<|prog.fieldsOf 38):=B
def zm:prog.stoodInHeld 38=false:=B
def oN:prog.underlying 60=J (.struct<|prog.fieldsOf 60):=B
def oO:prog.stoodInHeld 60=false:=B
def ud:prog.underlying 35=J (.struct<|prog.fieldsOf 35):=B
def ue:prog.stoodInHeld 35=false:=B
def oP(nm d:Y)(a:U):(binOp .neq 38 (.agg #[G nm,G d]) (.agg #[G nm,G d])).run F a=.ok (ζ ι) a:=by
 rw[aeh,acD a 9999 _ _ _ zk zm];simp[go_sem,underlying38]
def zo(nm d:Y)(a:U):(binOp .eql 38 (.agg #[G nm,G d]) (.agg #[G nm,G d])).run F a=.ok (ζ θ) a:=by
 rw[aei,acD a 9999 _ _ _ zk zm];simp[go_sem,underlying38]
def zp(nm:Y)(y:Z)(a:U):(binOp .neq 60 (.agg #[G nm,I Q y]) (.agg #[G nm,I Q y])).run F a=.ok (ζ ι) a:=by
 rw[aeh,acD a 9999 _ _ _ oN oO];simp[go_sem,underlying60]
def zq(nm:Y)(y:Z)(a:U):(binOp .eql 60 (.agg #[G nm,I Q y]) (.agg #[G nm,I Q y])).run F a=.ok (ζ θ) a:=by
 rw[aei,acD a 9999 _ _ _ oN oO];simp[go_sem,underlying60]
def zr(nm d:Y)(l:Bool)(a:U):(binOp .neq 35 (.agg #[G nm,ζ l,G d]) (.agg #[G nm,ζ l,G d])).run F a=.ok (ζ ι) a:=by
 rw[aeh,acD a 9999 _ _ _ ud ue];simp[go_sem,underlying35]
def xh(nm d:Y)(l:Bool)(a:U):(binOp .eql 35 (.agg #[G nm,ζ l,G d]) (.agg #[G nm,ζ l,G d])).run F a=.ok (ζ θ) a:=by
 rw[aei,acD a 9999 _ _ _ ud ue];simp[go_sem,underlying35]
def xj{s:WS}{a f:E (M×Y)}(hc:c<=100000000)(w:U)(D:CI w1 w b c s a d f):
 μ F 7 #[V<|J ⟨b,0,O⟩] w λe w'=>e=ε (ζ θ)/\Am w w':=by
 have c5:w.cell? ⟨b,5,O⟩=J s.r5:=by rw[Wu w b 5 _ _ (0,0) D.hp];rfl
 have c6:w.cell? ⟨b,6,O⟩=J s.r6:=by rw[Wu w b 6 _ _ (0,0) D.hp];rfl
 have c7:w.cell? ⟨b,7,O⟩=J s.r7:=by rw[Wu w b 7 _ _ (0,0) D.hp];rfl
 have c8:w.cell? ⟨b,8,O⟩=J s.r8:=by rw[Wu w b 8 _ _ (0,0) D.hp];rfl
 have c9:w.cell? ⟨b,9,O⟩=J s.r9:=by rw[Wu w b 9 _ _ (0,0) D.hp];rfl
 have P:w.cell? ⟨b,10,O⟩=J s.r10:=by rw[Wu w b 10 _ _ (0,0) D.hp];rfl
 obtain⟨_,_,_⟩:=D.few;have o:=H D;obtain⟨m,_,ar,pd,_,r5,_,r7,_,r9,_⟩:=s;simp only at*;obtain⟨_,_,rfl⟩:=CN o.rf.1;obtain⟨_,_,rfl⟩:=CN o.rf.2.1;obtain⟨_,_,rfl⟩:=CN o.rl.1;obtain⟨_,_,rfl⟩:=CN o.rl.2.1;obtain⟨_,_,rfl⟩:=CN o.rt.1;obtain⟨_,_,rfl⟩:=CN o.rt.2.1;have HO:C<|Am w w:=Ag.refl _ w;go_in;go_wp2;go_loopw [3,4] (λx _ wr=>∃i:N,i<=a.length/\x=I Q i/\C (Am w wr)) λx _ _=>a.length-(intOf x).toNat
 .exact ⟨0,A,rfl,HO⟩
 obtain⟨R,_,rfl,HO⟩:=hrel;have S:=Ap HO c5;have T:=Ap HO c6;by_cases h:R<a.length
 .have i:(R:Z)<a.length:=A;obtain⟨g5,q5,g6,q6,e5,e6,L,d6⟩:=o.rf.row h;injection e5 with p a0 q;injection e6 with r a1 t;subst p q r t;obtain⟨al,n,a2,hv,hn,u⟩:=(o.rf.2.2 _<|WJ h).el;rw[hv] at L;have v:=H u;generalize a[R].2=m at*;have j:=H L;have x:=H d6;have l5:=Ap HO j;go_wp2;go_loopw [4] (λy wr=>∃k:N,k<=n/\y=I Q k/\C (Am w wr)) (λy _=>n-(intOf y).toNat)
  .exact ⟨0,A,rfl,HO⟩
  obtain⟨k,hk,rfl,HO⟩:=hrel;have S:=Ap HO c5;have T:=Ap HO c6;have l5:=Ap HO j;by_cases y:k<n
  .have l:(k:Z)<n:=A;have l6:=Ap HO x;obtain⟨gl,z,g⟩:=v k y;subst z;have m0:=Ap HO<|g 0 (G m) rfl;have m1:=Ap HO<|g 1 (G ⟨#[]⟩) rfl;rw[aaw] at m0;have a3:=oP m ⟨#[]⟩;exact agl
  have l:¬(k:Z)<n:=A;go_wp2;go_roundw
  .exact ⟨R+1,A,by go_num,HO⟩
  exact Ae
 have i:¬(R:Z)<a.length:=A;go_wp2;go_loopw [5,6] (λD _ wr=>∃a:N,a<=d.length/\D=I Q a/\C (Am w wr)) λa _ _=>d.length-(intOf a).toNat
 .exact ⟨0,A,rfl,HO⟩
 obtain⟨i2,_,rfl,HO⟩:=hrel;have S:=Ap HO c7;have T:=Ap HO c8;by_cases h:i2<d.length
 .have i:(i2:Z)<d.length:=A;obtain⟨g5,q5,g6,q6,e5,e6,L,d6⟩:=o.rl.row h;injection e5 with p a0 q;injection e6 with r a1 t;subst p q r t;obtain⟨al,n,a2,hv,hn,u⟩:=(o.rl.2.2 _<|WJ h).el;rw[hv] at L;have v:=H u;generalize d[i2].2=m at*;have j:=H L;have x:=H d6;have l5:=Ap HO j;go_wp2;go_loopw [6] (λa wr=>∃k:N,k<=n/\a=I Q k/\C (Am w wr)) (λa _=>n-(intOf a).toNat)
  .exact ⟨0,A,rfl,HO⟩
  obtain⟨k,hk,rfl,HO⟩:=hrel;have S:=Ap HO c7;have T:=Ap HO c8;have l5:=Ap HO j;by_cases y:k<n
  .have l:(k:Z)<n:=A;have l6:=Ap HO x;obtain⟨gl,z,g⟩:=v k y;subst z;have m0:=Ap HO<|g 0 (G m) rfl;have m1:=Ap HO<|g 1 (I Q 0) rfl;rw[aaw] at m0;have a3:=zp m 0;exact agl
  have l:¬(k:Z)<n:=A;go_wp2;go_roundw
  .exact ⟨i2+1,A,by go_num,HO⟩
  exact Ae
 have i:¬(i2:Z)<d.length:=A;go_wp2;go_loopw [7,8] (λd _ wr=>∃a:N,a<=f.length/\d=I Q a/\C (Am w wr)) λa _ _=>f.length-(intOf a).toNat
 .exact ⟨0,A,rfl,HO⟩
 obtain⟨i3,_,rfl,HO⟩:=hrel;have S:=Ap HO c9;have T:=Ap HO P;by_cases h:i3<f.length
 .have i:(i3:Z)<f.length:=A;obtain⟨g5,q5,g6,q6,e5,e6,L,d6⟩:=o.rt.row h;injection e5 with p a0 q;injection e6 with r a1 t;subst p q r t;obtain⟨al,n,a2,hv,hn,u⟩:=(o.rt.2.2 _<|WJ h).el;rw[hv] at L;have v:=H u;generalize f[i3].2=m at*;have j:=H L;have x:=H d6;have l5:=Ap HO j;go_wp2;go_loopw [8] (λa wr=>∃k:N,k<=n/\a=I Q k/\C (Am w wr)) (λa _=>n-(intOf a).toNat)
  .exact ⟨0,A,rfl,HO⟩
  obtain⟨k,hk,rfl,HO⟩:=hrel;have:=Ap HO c9;have:=Ap HO P;have:=Ap HO j;by_cases y:k<n
  .have l:(k:Z)<n:=A;have:=Ap HO x;obtain⟨gl,z,g⟩:=v k y;subst z;have m0:=Ap HO<|g 0 (G m) rfl;have:=Ap HO<|g 1 (ζ ι) rfl;have:=Ap HO<|g 2 (G ⟨#[]⟩) rfl;rw[aaw] at m0;have:=zr m ⟨#[]⟩ ι;exact agl
  have:¬(k:Z)<n:=A;go_wp2;go_roundw
  .exact ⟨i3+1,A,by go_num,HO⟩
  exact Ae
 have:¬(i3:Z)<f.length:=A;exact aeV
def CI.pushF{s:WS}{n v:M}{m:Y}(h:CI w1 w b c s j o p)(ho:Ag (λk=>k=b\/s.r5.ownBlock=J k\/s.r6.ownBlock=J k) w w')
 (hp:w'.heap[b]? =J (W (({s with r5:=n,r6:=l}:WS).cs c) wT (0,0)))(ha:w'.ownsRow 0 ec 1 n (j.length+1)<|j.map (·.1)++[v])(hb:w'.ownsRow 0 9 1 l (j.length+1) (j.map (λx=>Value.string x.2)++[G m]))
 (P:∀k,n.ownBlock=J k->s.r5.ownBlock=J k\/w.heap.size<=k)(y:∀k,l.ownBlock=J k->s.r6.ownBlock=J k\/w.heap.size<=k)(hf:Fh w tF 2 TU v m)(T:j.length+1<=4*c):
 CI w1 w' b c {s with r5:=n,r6:=l} (j++[(v,m)]) o p:=by
 have i:∀{e:ν} {g:N} {J0:φ M},e≠wT->e≠ec->e≠9->w.heap[g]? =J (W J0 e (0,0))->¬(g=b\/s.r5.ownBlock=J g\/s.r6.ownBlock=J g):=by
  intro e g J0 h1 q h3 hg d;rcases d with d|d|d
  .exact ajV
  .obtain ⟨f,a⟩:=Ak h.rf.1 d;exact kinds hg a q
  obtain⟨f,a⟩:=Ak h.rf.2.1 d;exact kinds hg a h3
 have D:JF w' tL ed 2 TV s.r7 s.r8 o:=by
  refine h.rl.kept ho (λk hk d=>?_) (λk hk d=>?_) λx hx g J0 hg _=>i Ac Ac Ac hg
  .obtain ⟨J0,hg⟩:=Ak h.rl.1 hk;exact aiC
  obtain⟨J0,hg⟩:=Ak h.rl.2.1 hk;rcases d with d|d|d
  .exact agq
  .exact ahS
  exact h.ap1 k d hk
 have L:JF w' tE SM 3 ZU s.r9 s.r10 p:=by
  refine h.rt.kept ho (λk hk d=>?_) (λk hk d=>?_) λx hx g J0 hg _=>i Ac Ac Ac hg
  .obtain ⟨J0,hg⟩:=Ak h.rt.1 hk;exact aiC
  obtain⟨J0,hg⟩:=Ak h.rt.2.1 hk;rcases d with d|d|d
  .exact agq
  .exact ahS
  exact h.ap2 k d hk
 have u:∀k,l.ownBlock=J k->s.r8.ownBlock=J k->False:=λk h1 q=>by
  rcases y k h1 with h3|h3
  .exact h.ap1 k h3 q
  obtain⟨J0,hg⟩:=Ak h.rl.2.1 q;exact ahE
 have t:∀k,l.ownBlock=J k->s.r10.ownBlock=J k->False:=λk h1 q=>by
  rcases y k h1 with h3|h3
  .exact h.ap2 k h3 q
  obtain⟨J0,hg⟩:=Ak h.rt.2.1 q;exact ahE
 refine⟨h.only.transNew ho λk hk d=>?_,h.lt,hp,?_,D,L,?_,λk h1 q=>u k h1 q,λk h1 q=>t k h1 q,h.ap3,?_,(λk R e z S=>(ho.block k (Wt.1<|h.dk k R e z S).1 (i (by rcases z with rfl|rfl<;>decide) (by rcases z with rfl|rfl<;>decide) (by rcases z with rfl|rfl<;>decide)<|h.dk k R e z S)).trans<|h.dk k R e z S)⟩
 .rcases d with d|d|d
  .exact d
  .have:=h.new s.r5 Ad k d;omega
  have:=h.new s.r6 Ad k d;omega
 .refine ⟨by simpa using ha,by simpa using hb,λx hx=>?_⟩;rcases WY.1 hx with hx|hx
  .exact (h.rf.2.2 x hx).kept ho λg J0 hg _=>i Ac Ac Ac hg
  exact ahf
 .intro r z k hk;have:=h.only.size;have R:r=n->w1.heap.size<=k:=λe=>by
   subst e;rcases P k hk with h3|h3
   .exact h.new s.r5 Ad k h3
   omega
  have S:r=l->w1.heap.size<=k:=λe=>by
   subst e;rcases y k hk with h3|h3
   .exact h.new s.r6 Ad k h3
   omega
  rcases z with e|e|e|e|e|e
  .exact R e
  .exact S e
  .exact afD
  .exact afD
  .exact afD
  exact afD
 have:=h.few;rw[Ws,acg];omega
def CI.pushL{s:WS}{n v:M}{m:Y}(h:CI w1 w b c s o j p)(ho:Ag (λk=>k=b\/s.r7.ownBlock=J k\/s.r8.ownBlock=J k) w w')
 (hp:w'.heap[b]? =J (W (({s with r7:=n,r8:=l}:WS).cs c) wT (0,0)))(ha:w'.ownsRow 0 ed 1 n (j.length+1)<|j.map (·.1)++[v])(hb:w'.ownsRow 0 9 1 l (j.length+1) (j.map (λx=>Value.string x.2)++[G m]))
 (P:∀k,n.ownBlock=J k->s.r7.ownBlock=J k\/w.heap.size<=k)(y:∀k,l.ownBlock=J k->s.r8.ownBlock=J k\/w.heap.size<=k)(hf:Fh w tL 2 TV v m)(T:j.length+1<=4*c):
 CI w1 w' b c {s with r7:=n,r8:=l} o (j++[(v,m)]) p:=by
 have i:∀{e:ν} {g:N} {J0:φ M},e≠wT->e≠ed->e≠9->w.heap[g]? =J (W J0 e (0,0))->¬(g=b\/s.r7.ownBlock=J g\/s.r8.ownBlock=J g):=by
  intro e g J0 h1 q h3 hg d;rcases d with d|d|d
  .exact ajV
  .obtain ⟨f,a⟩:=Ak h.rl.1 d;exact kinds hg a q
  obtain⟨f,a⟩:=Ak h.rl.2.1 d;exact kinds hg a h3
 have D:JF w' tF ec 2 TU s.r5 s.r6 o:=by
  refine h.rf.kept ho (λk hk d=>?_) (λk hk d=>?_) λx hx g J0 hg _=>i Ac Ac Ac hg
  .obtain ⟨J0,hg⟩:=Ak h.rf.1 hk;exact aiC
  obtain⟨J0,hg⟩:=Ak h.rf.2.1 hk;rcases d with d|d|d
  .exact agq
  .exact ahT
  exact h.ap1 k hk d
 have L:JF w' tE SM 3 ZU s.r9 s.r10 p:=by
  refine h.rt.kept ho (λk hk d=>?_) (λk hk d=>?_) λx hx g J0 hg _=>i Ac Ac Ac hg
  .obtain ⟨J0,hg⟩:=Ak h.rt.1 hk;exact aiC
  obtain⟨J0,hg⟩:=Ak h.rt.2.1 hk;rcases d with d|d|d
  .exact agq
  .exact ahT
  exact h.ap3 k d hk
 have u:∀k,l.ownBlock=J k->s.r6.ownBlock=J k->False:=λk h1 q=>by
  rcases y k h1 with h3|h3
  .exact h.ap1 k q h3
  obtain⟨J0,hg⟩:=Ak h.rf.2.1 q;exact ahE
 have t:∀k,l.ownBlock=J k->s.r10.ownBlock=J k->False:=λk h1 q=>by
  rcases y k h1 with h3|h3
  .exact h.ap3 k h3 q
  obtain⟨J0,hg⟩:=Ak h.rt.2.1 q;exact ahE
 refine⟨h.only.transNew ho λk hk d=>?_,h.lt,hp,D,?_,L,?_,λk h1 q=>u k q h1,h.ap2,λk h1 q=>t k h1 q,?_,(λk R e z S=>(ho.block k (Wt.1<|h.dk k R e z S).1 (i (by rcases z with rfl|rfl<;>decide) (by rcases z with rfl|rfl<;>decide) (by rcases z with rfl|rfl<;>decide)<|h.dk k R e z S)).trans<|h.dk k R e z S)⟩
 .rcases d with d|d|d
  .exact d
  .have:=h.new s.r7 Ad k d;omega
  have:=h.new s.r8 Ad k d;omega
 .refine ⟨by simpa using ha,by simpa using hb,λx hx=>?_⟩;rcases WY.1 hx with hx|hx
  .exact (h.rl.2.2 x hx).kept ho λg J0 hg _=>i Ac Ac Ac hg
  exact ahf
 .intro r z k hk;have:=h.only.size;have R:r=n->w1.heap.size<=k:=λe=>by
   subst e;rcases P k hk with h3|h3
   .exact h.new s.r7 Ad k h3
   omega
  have S:r=l->w1.heap.size<=k:=λe=>by
   subst e;rcases y k hk with h3|h3
   .exact h.new s.r8 Ad k h3
   omega
  rcases z with e|e|e|e|e|e
  .exact afD
  .exact afD
  .exact R e
  .exact S e
  .exact afD
  exact afD
 have:=h.few;rw[Ws,acg];omega
def CI.pushT{s:WS}{n v:M}{m:Y}(h:CI w1 w b c s o p j)(ho:Ag (λk=>k=b\/s.r9.ownBlock=J k\/s.r10.ownBlock=J k) w w')
 (hp:w'.heap[b]? =J (W (({s with r9:=n,r10:=l}:WS).cs c) wT (0,0)))(ha:w'.ownsRow 0 SM 1 n (j.length+1)<|j.map (·.1)++[v])(hb:w'.ownsRow 0 9 1 l (j.length+1) (j.map (λx=>Value.string x.2)++[G m]))
 (P:∀k,n.ownBlock=J k->s.r9.ownBlock=J k\/w.heap.size<=k)(y:∀k,l.ownBlock=J k->s.r10.ownBlock=J k\/w.heap.size<=k)(hf:Fh w tE 3 ZU v m)(T:j.length+1<=4*c):
 CI w1 w' b c {s with r9:=n,r10:=l} o p (j++[(v,m)]):=by
 have i:∀{e:ν} {g:N} {J0:φ M},e≠wT->e≠SM->e≠9->w.heap[g]? =J (W J0 e (0,0))->¬(g=b\/s.r9.ownBlock=J g\/s.r10.ownBlock=J g):=by
  intro e g J0 h1 q h3 hg d;rcases d with d|d|d
  .exact ajV
  .obtain ⟨f,a⟩:=Ak h.rt.1 d;exact kinds hg a q
  obtain⟨f,a⟩:=Ak h.rt.2.1 d;exact kinds hg a h3
 have D:JF w' tF ec 2 TU s.r5 s.r6 o:=by
  refine h.rf.kept ho (λk hk d=>?_) (λk hk d=>?_) λx hx g J0 hg _=>i Ac Ac Ac hg
  .obtain ⟨J0,hg⟩:=Ak h.rf.1 hk;exact aiC
  obtain⟨J0,hg⟩:=Ak h.rf.2.1 hk;rcases d with d|d|d
  .exact agq
  .exact ahU
  exact h.ap2 k hk d
 have L:JF w' tL ed 2 TV s.r7 s.r8 p:=by
  refine h.rl.kept ho (λk hk d=>?_) (λk hk d=>?_) λx hx g J0 hg _=>i Ac Ac Ac hg
  .obtain ⟨J0,hg⟩:=Ak h.rl.1 hk;exact aiC
  obtain⟨J0,hg⟩:=Ak h.rl.2.1 hk;rcases d with d|d|d
  .exact agq
  .exact ahU
  exact h.ap3 k hk d
 have t:∀k,l.ownBlock=J k->s.r6.ownBlock=J k->False:=λk h1 q=>by
  rcases y k h1 with h3|h3
  .exact h.ap2 k q h3
  obtain⟨J0,hg⟩:=Ak h.rf.2.1 q;exact ahE
 have u:∀k,l.ownBlock=J k->s.r8.ownBlock=J k->False:=λk h1 q=>by
  rcases y k h1 with h3|h3
  .exact h.ap3 k q h3
  obtain⟨J0,hg⟩:=Ak h.rl.2.1 q;exact ahE
 refine⟨h.only.transNew ho λk hk d=>?_,h.lt,hp,D,L,?_,?_,h.ap1,λk h1 q=>t k q h1,λk h1 q=>u k q h1,?_,(λk R e z S=>(ho.block k (Wt.1<|h.dk k R e z S).1 (i (by rcases z with rfl|rfl<;>decide) (by rcases z with rfl|rfl<;>decide) (by rcases z with rfl|rfl<;>decide)<|h.dk k R e z S)).trans<|h.dk k R e z S)⟩
 .rcases d with d|d|d
  .exact d
  .have:=h.new s.r9 Ad k d;omega
  have:=h.new s.r10 Ad k d;omega
 .refine ⟨by simpa using ha,by simpa using hb,λx hx=>?_⟩;rcases WY.1 hx with hx|hx
  .exact (h.rt.2.2 x hx).kept ho λg J0 hg _=>i Ac Ac Ac hg
  exact ahf
 .intro r z k hk;have:=h.only.size;have R:r=n->w1.heap.size<=k:=λe=>by
   subst e;rcases P k hk with h3|h3
   .exact h.new s.r9 Ad k h3
   omega
  have S:r=l->w1.heap.size<=k:=λe=>by
   subst e;rcases y k hk with h3|h3
   .exact h.new s.r10 Ad k h3
   omega
  rcases z with e|e|e|e|e|e
  .exact afD
  .exact afD
  .exact afD
  .exact afD
  .exact R e
  exact S e
 have:=h.few;rw[Ws,acg];omega
def CI.oneF{s:WS}{a d j:E (M×Y)}{o:Obj}(h:CI w1 w b c s a d j)(a:(w.alloc o).grownBy w3 s.r5.ownBlock):Ag (λk=>s.r5.ownBlock=J k) w w3/\w3.heap[b]? =J (W (s.cs c) wT (0,0)):=by
 have d:=((Ag.refl _ w).alloc o).grown a λk _ e=>e;refine⟨d,(d.block b h.inb λa=>?_).trans h.hp⟩;obtain⟨_,hg⟩:=Ak h.rf.1 a;exact ahu
def CI.twoF{s:WS}{j p e:E (M×Y)}(h:CI w1 w b c s j p e)(e:Ag (λk=>s.r5.ownBlock=J k) w w3)(x:M)(o:Obj):((w3.setCell ⟨b,5,O⟩ x).alloc o).ownsRow 0 9 1 s.r6 j.length (j.map λx=>Value.string x.2):=by
 refine Az h.rf.2.1 ((((e.mono (T:=λk=>k=b\/s.r5.ownBlock=J k) λ_ _ e=> .inr e)).trans ((Aq w3 b 5 x).mono λ_ _ e=> .inl e)).alloc o) λk e d=>?_;obtain⟨_,hg⟩:=Ak h.rf.2.1 e;rcases d with d|d
 .exact agq
 exact ahS
def CI.endF{i:U}{s:WS}{v:M}{m:Y}{o p:Obj}{d l:N}(h:CI w1 w b c s j q r)(hf:Fh w tF 2 TU v m)(u:j.length+1<=4*c)
 (h3:w3.ownsRow 0 ec 1 (K (J ⟨d,0,O⟩) (j.length+1) l) (j.length+1)<|j.map (·.1)++[v])(P:(w.alloc o).grownBy w3 s.r5.ownBlock)(O0:s.r5.ownBlock=J d\/d=w.heap.size+1)
 (h6:i.ownsRow 0 9 1 (K (J ⟨f,0,O⟩) (j.length+1) n) (j.length+1) (j.map (λx=>Value.string x.2)++[G m]))(R:((w3.setCell ⟨b,5,O⟩<|K (J ⟨d,0,O⟩) (j.length+1) l).alloc p).grownBy i s.r6.ownBlock)(F0:s.r6.ownBlock=J f\/f=w3.heap.size+1):
 i.heap[b]? =J (W (({s with r5:=K (J ⟨d,0,O⟩) (j.length+1) l}:WS).cs c) wT (0,0))/\CI w1 (i.setCell ⟨b,6,O⟩<|K (J ⟨f,0,O⟩) (j.length+1) n) b c {s with r5:=K (J ⟨d,0,O⟩) (j.length+1) l,r6:=K (J ⟨f,0,O⟩) (j.length+1) n} (j++[(v,m)]) q r/\Ag (λk=>k=b\/s.r5.ownBlock=J k\/s.r6.ownBlock=J k) w (i.setCell ⟨b,6,O⟩<|K (J ⟨f,0,O⟩) (j.length+1) n):=by
 obtain⟨q,r⟩:=h.oneF P;have:=q.size;have P:=h.inb;have S:=WL w3 b 5 _ _ (K (J ⟨d,0,O⟩) (j.length+1) l) r;have y:Ag (λk=>k=b\/s.r5.ownBlock=J k\/s.r6.ownBlock=J k) w ((w3.setCell ⟨b,5,O⟩<|K (J ⟨d,0,O⟩) (j.length+1) l).alloc p):=(((q.mono λ_ _ e=> .inr (.inl e))).trans ((Aq w3 b 5 _).mono λ_ _ e=> .inl e)).alloc p;have t:=(Ag.refl _ _).grown R λk _ e=>e;have g:¬s.r6.ownBlock=J b:=λL=>by
  obtain⟨J0,hg⟩:=Ak h.rf.2.1 L;exact ahu
 have q:=wG P y.size;have r:((w3.setCell ⟨b,5,O⟩<|K (J ⟨d,0,O⟩) (j.length+1) l).alloc p).heap[b]? =J (W (({s with r5:=K (J ⟨d,0,O⟩) (j.length+1) l}:WS).cs c) wT (0,0)):=Dr S;have z:=(t.block b q g).trans r;have T:=WL i b 6 _ _ (K (J ⟨f,0,O⟩) (j.length+1) n) z;have D:d≠b:=λe=>by
  subst e;rcases O0 with e|e
  .obtain ⟨J0,hg⟩:=Ak h.rf.1 e;exact ahu
  omega
 have a0:f≠b:=λe=>aiG
 have:d<w3.heap.size:=ahX;have a1:¬s.r6.ownBlock=J d:=λL=>by
  rcases O0 with e|e
  .obtain ⟨J0,hg⟩:=Ak h.rf.1 e;obtain⟨q,a⟩:=Ak h.rf.2.1 L;exact kinds hg a Ac
  obtain⟨q,a⟩:=Ak h.rf.2.1 L;exact ajJ
 have q:Ag (λk=>k=b\/s.r5.ownBlock=J k\/s.r6.ownBlock=J k) w<|i.setCell ⟨b,6,O⟩ (K (J ⟨f,0,O⟩) (j.length+1) n):=((y.trans (t.mono λ_ _ e=> .inr (.inr e)))).trans ((Aq i b 6 _).mono λ_ _ e=> .inl e);refine⟨z,h.pushF q T ?_ ?_ (λk hk=>?_) (λk hk=>?_) hf u,q⟩
 .have n:=Az h3 (Aq w3 b 5<|K (J ⟨d,0,O⟩) (j.length+1) l) (λk hk e=>D<|by rw[<-e];exact WX hk);have j:=Az n ((Ag.refl (λ_=>False) _).alloc p) λ_ _ x=>x;have l:=Az j t (λk hk e=>a1 (by have j:d=k:=WX hk;rw[j];exact e));exact Az l (Aq i b 6 _) λk hk e=>D<|by rw[<-e];exact WX hk
 .exact Az h6 (Aq i b 6 _) λk hk e=>a0<|by rw[<-e];exact WX hk
 .exact agY
 exact agZ
def CI.oneL{s:WS}{j a d:E (M×Y)}{o:Obj}(h:CI w1 w b c s j a d)(a:(w.alloc o).grownBy w3 s.r7.ownBlock):Ag (λk=>s.r7.ownBlock=J k) w w3/\w3.heap[b]? =J (W (s.cs c) wT (0,0)):=by
 have d:=((Ag.refl _ w).alloc o).grown a λk _ e=>e;refine⟨d,(d.block b h.inb λa=>?_).trans h.hp⟩;obtain⟨_,hg⟩:=Ak h.rl.1 a;exact ahu
def CI.twoL{s:WS}{p j e:E (M×Y)}(h:CI w1 w b c s p j e)(e:Ag (λk=>s.r7.ownBlock=J k) w w3)(x:M)(o:Obj):((w3.setCell ⟨b,7,O⟩ x).alloc o).ownsRow 0 9 1 s.r8 j.length (j.map λx=>Value.string x.2):=by
 refine Az h.rl.2.1 ((((e.mono (T:=λk=>k=b\/s.r7.ownBlock=J k) λ_ _ e=> .inr e)).trans ((Aq w3 b 7 x).mono λ_ _ e=> .inl e)).alloc o) λk e d=>?_;obtain⟨_,hg⟩:=Ak h.rl.2.1 e;rcases d with d|d
 .exact agq
 exact ahT
def CI.endL{i:U}{s:WS}{v:M}{m:Y}{o p:Obj}{d l:N}(h:CI w1 w b c s q j r)(hf:Fh w tL 2 TV v m)(u:j.length+1<=4*c)
 (h3:w3.ownsRow 0 ed 1 (K (J ⟨d,0,O⟩) (j.length+1) l) (j.length+1)<|j.map (·.1)++[v])(P:(w.alloc o).grownBy w3 s.r7.ownBlock)(O0:s.r7.ownBlock=J d\/d=w.heap.size+1)
 (h6:i.ownsRow 0 9 1 (K (J ⟨f,0,O⟩) (j.length+1) n) (j.length+1) (j.map (λx=>Value.string x.2)++[G m]))(R:((w3.setCell ⟨b,7,O⟩<|K (J ⟨d,0,O⟩) (j.length+1) l).alloc p).grownBy i s.r8.ownBlock)(F0:s.r8.ownBlock=J f\/f=w3.heap.size+1):
 i.heap[b]? =J (W (({s with r7:=K (J ⟨d,0,O⟩) (j.length+1) l}:WS).cs c) wT (0,0))/\CI w1 (i.setCell ⟨b,8,O⟩<|K (J ⟨f,0,O⟩) (j.length+1) n) b c {s with r7:=K (J ⟨d,0,O⟩) (j.length+1) l,r8:=K (J ⟨f,0,O⟩) (j.length+1) n} q (j++[(v,m)]) r/\Ag (λk=>k=b\/s.r7.ownBlock=J k\/s.r8.ownBlock=J k) w (i.setCell ⟨b,8,O⟩<|K (J ⟨f,0,O⟩) (j.length+1) n):=by
 obtain⟨q,r⟩:=h.oneL P;have:=q.size;have P:=h.inb;have S:=WL w3 b 7 _ _ (K (J ⟨d,0,O⟩) (j.length+1) l) r;have y:Ag (λk=>k=b\/s.r7.ownBlock=J k\/s.r8.ownBlock=J k) w ((w3.setCell ⟨b,7,O⟩<|K (J ⟨d,0,O⟩) (j.length+1) l).alloc p):=(((q.mono λ_ _ e=> .inr (.inl e))).trans ((Aq w3 b 7 _).mono λ_ _ e=> .inl e)).alloc p;have t:=(Ag.refl _ _).grown R λk _ e=>e;have g:¬s.r8.ownBlock=J b:=λL=>by
  obtain⟨J0,hg⟩:=Ak h.rl.2.1 L;exact ahu
 have q:=wG P y.size;have r:((w3.setCell ⟨b,7,O⟩<|K (J ⟨d,0,O⟩) (j.length+1) l).alloc p).heap[b]? =J (W (({s with r7:=K (J ⟨d,0,O⟩) (j.length+1) l}:WS).cs c) wT (0,0)):=Dr S;have z:=(t.block b q g).trans r;have T:=WL i b 8 _ _ (K (J ⟨f,0,O⟩) (j.length+1) n) z;have D:d≠b:=λe=>by
  subst e;rcases O0 with e|e
  .obtain ⟨J0,hg⟩:=Ak h.rl.1 e;exact ahu
  omega
 have a0:f≠b:=λe=>aiG
 have:d<w3.heap.size:=ahX;have a1:¬s.r8.ownBlock=J d:=λL=>by
  rcases O0 with e|e
  .obtain ⟨J0,hg⟩:=Ak h.rl.1 e;obtain⟨q,a⟩:=Ak h.rl.2.1 L;exact kinds hg a Ac
  obtain⟨q,a⟩:=Ak h.rl.2.1 L;exact ajJ
 have q:Ag (λk=>k=b\/s.r7.ownBlock=J k\/s.r8.ownBlock=J k) w<|i.setCell ⟨b,8,O⟩ (K (J ⟨f,0,O⟩) (j.length+1) n):=((y.trans (t.mono λ_ _ e=> .inr (.inr e)))).trans ((Aq i b 8 _).mono λ_ _ e=> .inl e);refine⟨z,h.pushL q T ?_ ?_ (λk hk=>?_) (λk hk=>?_) hf u,q⟩
 .have n:=Az h3 (Aq w3 b 7<|K (J ⟨d,0,O⟩) (j.length+1) l) (λk hk e=>D<|by rw[<-e];exact WX hk);have j:=Az n ((Ag.refl (λ_=>False) _).alloc p) λ_ _ x=>x;have l:=Az j t (λk hk e=>a1 (by have j:d=k:=WX hk;rw[j];exact e));exact Az l (Aq i b 8 _) λk hk e=>D<|by rw[<-e];exact WX hk
 .exact Az h6 (Aq i b 8 _) λk hk e=>a0<|by rw[<-e];exact WX hk
 .exact agY
 exact agZ
def CI.oneT{s:WS}{j a d:E (M×Y)}{o:Obj}(h:CI w1 w b c s j a d)(a:(w.alloc o).grownBy w3 s.r9.ownBlock):Ag (λk=>s.r9.ownBlock=J k) w w3/\w3.heap[b]? =J (W (s.cs c) wT (0,0)):=by
 have d:=((Ag.refl _ w).alloc o).grown a λk _ e=>e;refine⟨d,(d.block b h.inb λa=>?_).trans h.hp⟩;obtain⟨_,hg⟩:=Ak h.rt.1 a;exact ahu
def CI.twoT{s:WS}{p e j:E (M×Y)}(h:CI w1 w b c s p e j)(e:Ag (λk=>s.r9.ownBlock=J k) w w3)(x:M)(o:Obj):((w3.setCell ⟨b,9,O⟩ x).alloc o).ownsRow 0 9 1 s.r10 j.length (j.map λx=>Value.string x.2):=by
 refine Az h.rt.2.1 ((((e.mono (T:=λk=>k=b\/s.r9.ownBlock=J k) λ_ _ e=> .inr e)).trans ((Aq w3 b 9 x).mono λ_ _ e=> .inl e)).alloc o) λk e d=>?_;obtain⟨_,hg⟩:=Ak h.rt.2.1 e;rcases d with d|d
 .exact agq
 exact ahU
def CI.endT{i:U}{s:WS}{v:M}{m:Y}{o p:Obj}{d l:N}(h:CI w1 w b c s q r j)(hf:Fh w tE 3 ZU v m)(u:j.length+1<=4*c)
 (h3:w3.ownsRow 0 SM 1 (K (J ⟨d,0,O⟩) (j.length+1) l) (j.length+1)<|j.map (·.1)++[v])(P:(w.alloc o).grownBy w3 s.r9.ownBlock)(O0:s.r9.ownBlock=J d\/d=w.heap.size+1)
 (h6:i.ownsRow 0 9 1 (K (J ⟨f,0,O⟩) (j.length+1) n) (j.length+1) (j.map (λx=>Value.string x.2)++[G m]))(R:((w3.setCell ⟨b,9,O⟩<|K (J ⟨d,0,O⟩) (j.length+1) l).alloc p).grownBy i s.r10.ownBlock)(F0:s.r10.ownBlock=J f\/f=w3.heap.size+1):
 i.heap[b]? =J (W (({s with r9:=K (J ⟨d,0,O⟩) (j.length+1) l}:WS).cs c) wT (0,0))/\CI w1 (i.setCell ⟨b,10,O⟩<|K (J ⟨f,0,O⟩) (j.length+1) n) b c {s with r9:=K (J ⟨d,0,O⟩) (j.length+1) l,r10:=K (J ⟨f,0,O⟩) (j.length+1) n} q r (j++[(v,m)])/\Ag (λk=>k=b\/s.r9.ownBlock=J k\/s.r10.ownBlock=J k) w (i.setCell ⟨b,10,O⟩<|K (J ⟨f,0,O⟩) (j.length+1) n):=by
 obtain⟨q,r⟩:=h.oneT P;have:=q.size;have P:=h.inb;have S:=WL w3 b 9 _ _ (K (J ⟨d,0,O⟩) (j.length+1) l) r;have y:Ag (λk=>k=b\/s.r9.ownBlock=J k\/s.r10.ownBlock=J k) w ((w3.setCell ⟨b,9,O⟩<|K (J ⟨d,0,O⟩) (j.length+1) l).alloc p):=(((q.mono λ_ _ e=> .inr (.inl e))).trans ((Aq w3 b 9 _).mono λ_ _ e=> .inl e)).alloc p;have t:=(Ag.refl _ _).grown R λk _ e=>e;have g:¬s.r10.ownBlock=J b:=λL=>by
  obtain⟨J0,hg⟩:=Ak h.rt.2.1 L;exact ahu
 have q:=wG P y.size;have r:((w3.setCell ⟨b,9,O⟩<|K (J ⟨d,0,O⟩) (j.length+1) l).alloc p).heap[b]? =J (W (({s with r9:=K (J ⟨d,0,O⟩) (j.length+1) l}:WS).cs c) wT (0,0)):=Dr S;have z:=(t.block b q g).trans r;have T:=WL i b 10 _ _ (K (J ⟨f,0,O⟩) (j.length+1) n) z;have D:d≠b:=λe=>by
  subst e;rcases O0 with e|e
  .obtain ⟨J0,hg⟩:=Ak h.rt.1 e;exact ahu
  omega
 have a0:f≠b:=λe=>aiG
 have:d<w3.heap.size:=ahX;have a1:¬s.r10.ownBlock=J d:=λL=>by
  rcases O0 with e|e
  .obtain ⟨J0,hg⟩:=Ak h.rt.1 e;obtain⟨q,a⟩:=Ak h.rt.2.1 L;exact kinds hg a Ac
  obtain⟨q,a⟩:=Ak h.rt.2.1 L;exact ajJ
 have q:Ag (λk=>k=b\/s.r9.ownBlock=J k\/s.r10.ownBlock=J k) w<|i.setCell ⟨b,10,O⟩ (K (J ⟨f,0,O⟩) (j.length+1) n):=((y.trans (t.mono λ_ _ e=> .inr (.inr e)))).trans ((Aq i b 10 _).mono λ_ _ e=> .inl e);refine⟨z,h.pushT q T ?_ ?_ (λk hk=>?_) (λk hk=>?_) hf u,q⟩
 .have n:=Az h3 (Aq w3 b 9<|K (J ⟨d,0,O⟩) (j.length+1) l) (λk hk e=>D<|by rw[<-e];exact WX hk);have j:=Az n ((Ag.refl (λ_=>False) _).alloc p) λ_ _ x=>x;have l:=Az j t (λk hk e=>a1 (by have j:d=k:=WX hk;rw[j];exact e));exact Az l (Aq i b 10 _) λk hk e=>D<|by rw[<-e];exact WX hk
 .exact Az h6 (Aq i b 10 _) λk hk e=>a0<|by rw[<-e];exact WX hk
 .exact agY
 exact agZ
def Fh.keptq{el:Y->E M}{v:M}{m:Y}(h:Fh w e k el v m)(d:Fh wq e k el v m)(f:Ag (λk=>k=g) w w')(o:wq.heap.size<=g):Fh w' e k el v m:=by
 obtain⟨i,n,b,rfl,j,c⟩:=d;by_cases h0:n=0
 .exact ⟨i,n,b,rfl,j,.inl h0⟩
 rcases c with c|⟨l,_,rfl,a,_⟩
 .exact κ c h0
 refine h.kept f λb _ _ c e=>?_;have:l=b:=WX c;exact ajJ
def Kj(es:E ν)(w w':U):Prop:=Ag (λk=>∃J0 e,w.heap[k]? =J (W J0 e (0,0))/\e∈es) w w'
def Rl{a:E ν}{v:M}{c:E M}(h:w.ownsRow 0 e k v n c)(f:Kj a w w')(g:e∉a):w'.ownsRow 0 e k v n c:=by
 refine Az h f λb a c=>?_;obtain⟨_,f⟩:=Ak h a;obtain⟨_,_,d,i⟩:=c;rw[f] at d;injection d with d;injection d with _ d;exact g (d ▸ i)
def oQ(wq w1 w:U)(e:ν)(k:N)(el:Y->E M)(ao:Option Addr)(n:N)(m:Y)(i:N):Prop:=n=0\/ ∃g J0,ao=J ⟨g,0,O⟩/\w.heap[g]? =J (W J0 e (0,0))/\n*k<=J0.size/\wq.heap.size<=g/\w1.heap.size<=g/\∀p,p<i-> ∀j u,(el m)[j]? =J u->J0[p*k+j]? =J u
def oQ.full{el:Y->E M}{ao:Option Addr}{m:Y}(h:oQ wq w1 w e k el ao n m n)(b:n<=2000000):Fh w e k el (K ao n cap) m:=by
 rcases h with h|⟨g,a,c,d,_,_,_,f⟩
 .exact ⟨ao,n,cap,rfl,b,.inl h⟩
 exact⟨ao,n,cap,rfl,b,.inr ⟨g,a,c,d,f⟩⟩
def oQ.kept{el:Y->E M}{ao:Option Addr}{m:Y}(h:oQ wq w1 w e k el ao n m i)(ho:Ag S w w')(hs:∀g J0,w.heap[g]? =J (W J0 e (0,0))->¬S g):oQ wq w1 w' e k el ao n m i:=by
 rcases h with h|⟨g,J0,h1,h2,h3⟩
 .exact .inl h
 exact aiN
def ei{a:φ M}(f:w.heap[g]? =J (W a e (0,0)))(q:N)(c d:M)(h:q+2<=a.size):
 ∃b,((w.setCell ⟨g,q,O⟩ c).setCell ⟨g,q+1,O⟩ d).heap[g]? =J (W b e (0,0))/\b.size=a.size/\(∀p,p<q->b[p]? =a[p]?)/\b[q]? =J c/\b[q+1]? =J d/\Ag (λk=>k=g) w ((w.setCell ⟨g,q,O⟩ c).setCell ⟨g,q+1,O⟩ d):=by
 have a:=WL w g q _ _ c f;have b:=WL _ g (q+1) _ _ d a;refine⟨_,b,Ad,λp _=>?_,?_,?_,(Aq w g q c).trans<|Aq _ g (q+1) d⟩
 .rw[WO A,WO A]
 .rw[WO A,aak A]
 rw[aak<|by rw[abh];omega]
def xk{a:φ M}(h:w.heap[g]? =J (W a e (0,0)))(q:N)(d f c:M)(i:q+3<=a.size):
 ∃b,(((w.setCell ⟨g,q,O⟩ d).setCell ⟨g,q+1,O⟩ f).setCell ⟨g,q+2,O⟩ c).heap[g]? =J (W b e (0,0))/\b.size=a.size/\(∀p,p<q->b[p]? =a[p]?)/\b[q]? =J d/\b[q+1]? =J f/\b[q+2]? =J c/\Ag (λk=>k=g) w (((w.setCell ⟨g,q,O⟩ d).setCell ⟨g,q+1,O⟩ f).setCell ⟨g,q+2,O⟩ c):=by
 obtain⟨_,i,a,b,j,l,m⟩:=ei h q d f A;have d:=WL _ g (q+2) _ _ c i;refine⟨_,d,by simp[a],λp a=>?_,?_,?_,?_,m.trans<|Aq _ g (q+2) c⟩
 .rw[WO A];exact b p a
 .rw[WO A];exact j
 .rw[WO A];exact l
 rw[aak A]
def CI.wrF{s:WS}{h:φ M}(i:CI w1 w b c s d p o)(hg:w.heap[g]? =J (W h tF (0,0)))(h:Ag (λk=>k=g) w w')(t:∀x,x∈d->Fh wq tF 2 TU x.1 x.2)(u:wq.heap.size<=g)(q:w1.heap.size<=g):CI w1 w' b c s d p o:=by
 have d:∀{e:ν} {k:N} {v:M} {n:N} {xs:E M},tF≠e->w.ownsRow 0 e k v n xs-> ∀{q:N},v.ownBlock=J q->q=g->False:=λj y q hk e=>ahz
 refine⟨i.only.transNew h λk hk e=>A,i.lt,(h.block b i.inb λe=>kinds hg (e ▸ i.hp) Ac).trans i.hp,⟨Az i.rf.1 h λk hk e=>d Ac i.rf.1 hk e,Az i.rf.2.1 h λk hk e=>d Ac i.rf.2.1 hk e,λx l=>(i.rf.2.2 x l).keptq (t x l) h u⟩,i.rl.kept h (λk hk e=>d Ac i.rl.1 hk e) (λk hk e=>d Ac i.rl.2.1 hk e) λx _ _ f a _ e=>kinds hg (e ▸ a) Ac,i.rt.kept h (λk hk e=>d Ac i.rt.1 hk e) (λk hk e=>d Ac i.rt.2.1 hk e) λx _ _ f a _ e=>kinds hg (e ▸ a) Ac,i.new,i.ap1,i.ap2,i.ap3,i.few,(λk m e l r=>(h.block k (Wt.1<|i.dk k m e l r).1 λd=>kinds hg (d ▸ i.dk k m e l r)<|by rcases l with rfl|rfl<;>decide).trans<|i.dk k m e l r)⟩
def CI.wrL{s:WS}{h:φ M}(i:CI w1 w b c s p d o)(hg:w.heap[g]? =J (W h tL (0,0)))(h:Ag (λk=>k=g) w w')(t:∀x,x∈d->Fh wq tL 2 TV x.1 x.2)(u:wq.heap.size<=g)(q:w1.heap.size<=g):CI w1 w' b c s p d o:=by
 have d:∀{e:ν} {k:N} {v:M} {n:N} {xs:E M},tL≠e->w.ownsRow 0 e k v n xs-> ∀{q:N},v.ownBlock=J q->q=g->False:=λj y q hk e=>ahz
 refine⟨i.only.transNew h λk hk e=>A,i.lt,(h.block b i.inb λe=>kinds hg (e ▸ i.hp) Ac).trans i.hp,i.rf.kept h (λk hk e=>d Ac i.rf.1 hk e) (λk hk e=>d Ac i.rf.2.1 hk e) λx _ _ f a _ e=>kinds hg (e ▸ a) Ac,⟨Az i.rl.1 h λk hk e=>d Ac i.rl.1 hk e,Az i.rl.2.1 h λk hk e=>d Ac i.rl.2.1 hk e,λx l=>(i.rl.2.2 x l).keptq (t x l) h u⟩,i.rt.kept h (λk hk e=>d Ac i.rt.1 hk e) (λk hk e=>d Ac i.rt.2.1 hk e) λx _ _ f a _ e=>kinds hg (e ▸ a) Ac,i.new,i.ap1,i.ap2,i.ap3,i.few,(λk m e l r=>(h.block k (Wt.1<|i.dk k m e l r).1 λd=>kinds hg (d ▸ i.dk k m e l r)<|by rcases l with rfl|rfl<;>decide).trans<|i.dk k m e l r)⟩
def CI.wrT{s:WS}{h:φ M}(i:CI w1 w b c s p o d)(hg:w.heap[g]? =J (W h tE (0,0)))(h:Ag (λk=>k=g) w w')(t:∀x,x∈d->Fh wq tE 3 ZU x.1 x.2)(u:wq.heap.size<=g)(q:w1.heap.size<=g):CI w1 w' b c s p o d:=by
 have d:∀{e:ν} {k:N} {v:M} {n:N} {xs:E M},tE≠e->w.ownsRow 0 e k v n xs-> ∀{q:N},v.ownBlock=J q->q=g->False:=λj y q hk e=>ahz
 refine⟨i.only.transNew h λk hk e=>A,i.lt,(h.block b i.inb λe=>kinds hg (e ▸ i.hp) Ac).trans i.hp,i.rf.kept h (λk hk e=>d Ac i.rf.1 hk e) (λk hk e=>d Ac i.rf.2.1 hk e) λx _ _ f a _ e=>kinds hg (e ▸ a) Ac,i.rl.kept h (λk hk e=>d Ac i.rl.1 hk e) (λk hk e=>d Ac i.rl.2.1 hk e) λx _ _ f a _ e=>kinds hg (e ▸ a) Ac,⟨Az i.rt.1 h λk hk e=>d Ac i.rt.1 hk e,Az i.rt.2.1 h λk hk e=>d Ac i.rt.2.1 hk e,λx d=>(i.rt.2.2 x d).keptq (t x d) h u⟩,i.new,i.ap1,i.ap2,i.ap3,i.few,(λk m e l r=>(h.block k (Wt.1<|i.dk k m e l r).1 λd=>kinds hg (d ▸ i.dk k m e l r)<|by rcases l with rfl|rfl<;>decide).trans<|i.dk k m e l r)⟩
def ej(b:N)(ra rb:M)(e:ν)(ao:Option Addr)(w:U):N->Prop:=λk=>k=b\/ra.ownBlock=J k\/rb.ownBlock=J k\/ ∃J0,ao=J ⟨k,0,O⟩/\w.heap[k]? =J (W J0 e (0,0))
def ej.ty{a d:M}{c:ν}{ao:Option Addr}{f g:E M}(i:Ag (ej b a d e ao w) w w')(j:w.heap[b]? =J (W h wT (0,0)))(l:w.ownsRow 0 c k a n f)(m:w.ownsRow 0 9 1 d n g):Kj [wT,c,9,e] w w':=by
 refine i.mono λ_ _ hS=>?_;rcases hS with rfl|hS|hS|⟨a,_,hS⟩
 .exact ⟨_,_,j,Ad⟩
 .obtain ⟨a,c⟩:=Ak l hS;exact⟨_,_,c,Ad⟩
 .obtain ⟨a,c⟩:=Ak m hS;exact⟨_,_,c,Ad⟩
 exact⟨_,_,hS,Ad⟩
def WS.base(s:WS):Y×Y×Y×M×M×U:=(s.m,s.v,s.ar,s.pd,s.pr,s.z)
def oR(w1 w:U)(b c:N)(B:Y×Y×Y×M×M×U)(RF RL:E<|M×Y):Prop:= ∃s' RT',CI w1 w b c s' RF RL RT'/\s'.base=B
def QL(w1 w:U)(b c:N)(B:Y×Y×Y×M×M×U)(RL RT:E<|M×Y):Prop:= ∃s' RF',CI w1 w b c s' RF' RL RT/\s'.base=B
def Hj(w1 w:U)(b c:N)(B:Y×Y×Y×M×M×U)(RF RT:E<|M×Y):Prop:= ∃s' RL',CI w1 w b c s' RF RL' RT/\s'.base=B
def sD(w1 w:U)(b c:N)(B:Y×Y×Y×M×M×U):Prop:= ∃s' RF' RL' RT',CI w1 w b c s' RF' RL' RT'/\s'.base=B
def xl:(prog.info? 36).map (λi=>(i.zero,i.size,i.bytes))=J (J<|K O 0 0,1,24):=B
def xm:(prog.info? 39).map (λi=>(i.zero,i.size,i.bytes))=J (J<|K O 0 0,1,24):=B
def xq:(prog.info? 57).map (λi=>(i.zero,i.size,i.bytes))=J (J<|K O 0 0,1,24):=B
def Ia(w:U)(p:Addr)(x:M):(w.setCell p x).heap.size=w.heap.size:=by simp[World.setCell]
def oQ.next3{ao:Option Addr}{m:Y}{b a :φ M}(c:ao=J ⟨g,0,O⟩)(d:w.heap[g]? =J (W a tE (0,0)))(e:n*3<=b.size)(f:a.size=b.size)(e:wq.heap.size<=g)(f:w1.heap.size<=g)(k:∀p,p<i-> ∀j u,(ZU m)[j]? =J u->b[p*3+j]? =J u)(l:∀p,p<i*3->a[p]? =b[p]?)(o:a[i*3]? =J (G m))(q:a[i*3+1]? =J (ζ ι))(r:a[i*3+2]? =J (G ⟨#[]⟩)):oQ wq w1 w tE 3 ZU ao n m<|i+1:=by
 refine .inr ⟨g,a,c,d,A,e,f,λp _ j u hj=>?_⟩;have hj3:j<3:=by
  rcases wM j 3 with h|h
  .exact h
  rw[ZU,wj akW] at hj;cases hj
 by_cases s:p=i
 .subst s
  match j,hj3,hj with
  |0,_,hj=>rw[<-hj];exact o
  |1,_,hj=>rw[<-hj];exact q
  |2,_,hj=>rw[<-hj];exact r
 rw[l _ A];exact k p A j u hj
def gQ{s:WS}{a:E (M×Y)}(hc:c<=100000000)(w:U)(h:CI w1 w b c s d a j)(ao:Option Addr)(n cap:N)(hn:n<=2000000)(hv:∀m,oQ wq w1 w tE 3 ZU ao n m 0)(hq:∀x,x∈j->Fh wq tE 3 ZU x.1 x.2):
 μ F 75 #[V<|J ⟨b,0,O⟩,K ao n cap] w λr w'=>r=ε (η #[])/\Kj [wT,SM,9,tE] w w'/\oR w1 w' b (c+1) s.base d a:=by
 have H1:=H<|oM s c A b w h.hp;have y:=H h;have b6:=h.few.2.2;have HQ:=H hq;have HV:=H hv;have b3:C (∀w',Ag (ej b s.r9 s.r10 tE ao w) w w'->Kj [wT,SM,9,tE] w w'):=λ_ e=>ej.ty e h.hp h.rt.1 h.rt.2.1
 have a8:C (∀g,n≠0->ao=J ⟨g,0,O⟩-> ∃e,w.heap[g]? =J (W e tE (0,0))):=λg f ha=>by
  rcases hv ⟨#[]⟩ with h0|⟨_,e,o,b4,_⟩
  .exact κ h0 f
  rw[ha] at o;injection o with o;injection o with o;subst o;exact⟨e,b4⟩
 go_in;go_wp2_with fail;apply H1.mono;rintro r w2 ⟨m,rfl,a1,o⟩;have z:=H<|y.rec_ a1 o A rfl rfl rfl rfl rfl rfl;have D:=H ((HV m).kept a1 λg e hg f=>kinds (f ▸ hg) y.hp Ac);have T:C<|Ag (ej b s.r9 s.r10 tE ao w) w w2:=a1.mono λ_ _ f=> .inl f;go_wp2;go_loopw [5] (λx wr=>∃i:N,i<=n/\x=I Q i/\C (CI w1 wr b (c+1) s d a j)/\C (oQ wq w1 wr tE 3 ZU ao n m i)/\C (Ag (ej b s.r9 s.r10 tE ao w) w wr)) λx _=>n-(intOf x).toNat
 .exact ajC
 obtain⟨i,_,rfl,y,HP,HO⟩:=hrel;by_cases b7:i<n
 .have a4:(i:Z)<n:=A;obtain⟨g,e,ha,hg,b5,a5,a6,a7⟩:∃g e,ao=J ⟨g,0,O⟩/\wr.heap[g]? =J (W e tE (0,0))/\n*3<=e.size/\wq.heap.size<=g/\w1.heap.size<=g/\∀p,p<i-> ∀k a2,(ZU m)[k]? =J a2->e[p*3+k]? =J a2:=by
   rcases X HP with h|h
   .omega
   exact h
  obtain⟨o,b4⟩:=a8 g A ha;have L:i*3+3<=e.size:=A;have k0:wr.cell? ⟨g,i*3,O⟩=J (e[i*3]'A):=by rw[Wu wr g _ _ _ (0,0) hg];exact wB _
  have k1:wr.cell? ⟨g,i*3+1,O⟩=J (e[i*3+1]'A):=by rw[Wu wr g _ _ _ (0,0) hg];exact wB _
  have k2:wr.cell? ⟨g,i*3+2,O⟩=J (e[i*3+2]'A):=by rw[Wu wr g _ _ _ (0,0) hg];exact wB _
  have f0:=WK wr g (i*3) _ _ hg;have f1:=WK wr g (i*3+1) _ _ hg;have f2:=WK wr g (i*3+2) _ _ hg;obtain⟨_,b6,b7,a1,e0,e1,e2,a8⟩:=xk hg (i*3) (G m) (ζ ι) (G ⟨#[]⟩) L;have z:=H<|y.wrT hg a8 HQ a5 a6;have D:=H<|oQ.next3 (wq:=wq) (w1:=w1) ha b6 b5 b7 a5 a6 a7 a1 e0 e1 e2;have T:C<|Ag (ej b s.r9 s.r10 tE ao w) w _:=HO.transNew a8 (λ_ _ f=> .inr (.inr (.inr ⟨o,by rw[f];exact ha,by rw[f];exact b4⟩)));subst ha;generalize e[i*3]'A=y0,e[i*3+1]'A=y1,e[i*3+2]'A=y2 at*;exact agM
 have a4:¬(i:Z)<n:=A;have e:i=n:=A;have HF:C<|Fh wr tE 3 ZU (K ao n cap) m:=by rw[e] at HP;exact HP.full hn
 have c9:wr.cell? ⟨b,9,O⟩=J s.r9:=by rw[Wu wr b 9 _ _ (0,0) (X y).hp];rfl
 have f9:=WK wr b 9 _ _ y.hp;obtain⟨a9,z9,e9⟩:=CN y.rt.1;obtain⟨q,t,o⟩:=CN y.rt.2.1;have e:=H e9;have l:=H o;rw[e9] at c9;obtain⟨i0,b9,c0,c1,c2⟩:=wi xl;obtain⟨j0,c3,c4,c5,c6⟩:=wi Pv;have c7:C ((wr.alloc<|W #[K ao n cap] SM).ownsRow 0 SM 1 (K a9 j.length z9) j.length<|j.map (·.1)):=by rw[<-X e];exact Az y.rt.1 ((Ag.refl (λ_=>False) wr).alloc _) λ_ _ x=>x
 have c8:=H<|AD wr [K ao n cap] SM;have d0:C ((wr.alloc<|W #[K ao n cap] SM).heap.size=wr.heap.size+1):=by unfold C;rw[WP]
 have a1:C<|j.length+1<=4*(c+1):=by unfold C;omega
 have b0:C (∀u P f,(wr.alloc<|W #[K ao n cap] SM).grownBy f (Value.slice a9 j.length z9).ownBlock->f.cell? ⟨b,9,O⟩=J (K a9 j.length z9)/\f.cell? ⟨b,10,O⟩=J (K q j.length t)/\f.frozen? ⟨b,9,O⟩=ι/\f.frozen? ⟨b,10,O⟩=ι/\((f.setCell ⟨b,9,O⟩<|K (J ⟨u,0,O⟩) (j.length+1) P).alloc<|W #[G m] 9).ownsRow 0 9 1 (K q j.length t) j.length (j.map λx=>Value.string x.2)/\∀k a2,([G m]:E M)[k]? =J a2->((f.setCell ⟨b,9,O⟩<|K (J ⟨u,0,O⟩) (j.length+1) P).alloc<|W #[G m] 9).cell? ((⟨f.heap.size,0,O⟩:Addr).add k)=J a2):=λu P f k=>by
  rw[<-X e] at k;obtain⟨a4,o⟩:=y.oneT k;refine⟨?_,?_,WK f b 9 _ _ o,WK f b 10 _ _ o,?_,?_⟩
  .rw[Wu f b 9 _ _ (0,0) o,<-X e];rfl
  .rw[Wu f b 10 _ _ (0,0) o,<-X l];rfl
  .rw[<-X l];exact y.twoT a4 _ _
  have:=AD (f.setCell ⟨b,9,O⟩<|K (J ⟨u,0,O⟩) (j.length+1) P) [G m] 9;exact aiQ
 have b1:C (∀u P gb cb f v,f.ownsRow 0 SM 1 (K (J ⟨u,0,O⟩) (j.length+1) P) (j.length+1) (j.map (·.1)++[K ao n cap])->(wr.alloc<|W #[K ao n cap] SM).grownBy f (Value.slice a9 j.length z9).ownBlock->((Value.slice a9 j.length z9).ownBlock=J u\/u=wr.heap.size+1)->v.ownsRow 0 9 1 (K (J ⟨gb,0,O⟩) (j.length+1) cb) (j.length+1) (j.map (λx=>Value.string x.2)++[G m])->((f.setCell ⟨b,9,O⟩<|K (J ⟨u,0,O⟩) (j.length+1) P).alloc<|W #[G m] 9).grownBy v (Value.slice q j.length t).ownBlock->((Value.slice q j.length t).ownBlock=J gb\/gb=f.heap.size+1)->v.cell? ⟨b,10,O⟩=J (K q j.length t)/\v.frozen? ⟨b,10,O⟩=ι/\Kj [wT,SM,9,tE] w (v.setCell ⟨b,10,O⟩<|K (J ⟨gb,0,O⟩) (j.length+1) cb)/\oR w1 (v.setCell ⟨b,10,O⟩<|K (J ⟨gb,0,O⟩) (j.length+1) cb) b (c+1) s.base d a):=λu P gb cb f v h3 k R h6 S a0=>by
  rw[<-X e] at k R;rw[<-X l] at S a0;obtain⟨b2,a,d⟩:=y.endT HF a1 h3 k R h6 S a0;refine⟨?_,WK v b 10 _ _ b2,b3 _ (HO.transNew d λ_ _ hS=>?_),Exists.intro _<|Exists.intro _ ⟨a,rfl⟩⟩
  .rw[Wu v b 10 _ _ (0,0) b2,<-X l];rfl
  rcases hS with hS|hS|hS
  .exact .inl hS
  .exact .inr (.inl hS)
  exact .inr (.inr (.inl hS))
 go_wp2_with (at_builtin;first
  |(refine wpList_append_lies _ rfl (.tmp 23) (.tmp 25) 31 rfl 0 SM i0 (K O 0 0) 1 24 underlying31 b9 c0 c1 c2 rfl A (K a9 j.length z9) j.length (j.map (·.1)) rfl (X c7) ⟨wr.heap.size,0,O⟩ 1 1 [K ao n cap] rfl rfl c8 alu A (by unfold maxLen;omega) A A (wr.heap.size+1) d0 ?_;intro u P f h3 k R L;obtain⟨q9,d1,x9,d2,a,d⟩:=b0 u P f k;have a:=H a;have d:=H d;have a3:=H λgb cb v=>b1 u P gb cb f v h3 k R;clear h3 k R L c9 f9)
  |(refine wpList_append_lies _ rfl (.tmp 33) (.tmp 35) 29 rfl 0 9 j0 (G ⟨#[]⟩) 1 16 underlying29 c3 c4 c5 c6 rfl A (K q j.length t) j.length _ rfl a ⟨f.heap.size,0,O⟩ 1 1 [G m] rfl rfl d alu A (by unfold maxLen;omega) A A (f.heap.size+1) (by rw[WP,Ia]) ?_;intro gb cb v h6 S a0 a;obtain⟨_,_,d,e⟩:=a3 gb cb v h6 S a0;have d3:=H d;have d4:=H e;clear h6 S a0 a d e q9 d1 x9 d2))
 go_end0;exact⟨rfl,d3,d4⟩
def SN(w w':U)(v:M)(q:N):Prop:= ∀b J0 e,w.heap[b]? =J (W J0 e (0,0))-> ∃N8,w'.heap[b]? =J (W N8 e (0,0))/\∀j,(v.ownBlock=J b->j<q)->N8[j]? =J0[j]?
def QM{P:Program}(w:U)(t T:ν)(e:ν)(i:TypeInfo)(z:M)(a f:N)(ht:P.underlying t=J (.slice e))(hi:P.info? e=J i)(hz:i.zero=J z)
 (d:i.size=a)(y:i.bytes=f)(a0:z.cells.size=a)(a1:0<a)(v:M)(n:N)(D:E M)(k:w.ownsRow 0 e a v n D)
 (L:Addr)(m c:N)(Er:E M)(hl:Er.length=m*a)(h:∀j u,Er[j]? =J u->w.cell? (L.add j)=J u)(h1:∀u∈Er,u.oneCell'=θ)
 (hm:0<m)(R:n+m<=maxLen)(l:(n+m)*f<=140737488355328):
 ∃g cap w',(Builtin.append_ #[t,t] T #[v,K (J L) m c]).run P w=.ok (K (J ⟨g,0,O⟩) (n+m) cap) w'/\
  w'.ownsRow 0 e a (K (J ⟨g,0,O⟩) (n+m) cap) (n+m) (D++Er)/\w.grownBy w' v.ownBlock/\(v.ownBlock=J g\/g=w.heap.size)/\SN w w' v (n*a):=by
 obtain⟨g,cap,w',hr,h2,h3,h4,_⟩:=run_append_lies (P:=P) w t T 0 e i z a f ht hi hz d y a0 a1 v n D k L m c Er hl h h1 hm R l (wH _) w.heap.size rfl;refine⟨g,cap,w',hr,h2,h3,h4,λb f p x=>?_⟩;have s:=(Wt.1 x).1;have r:w'.heap[b]? =w.heap[b]? -> ∃o,w'.heap[b]? =J (W o p (0,0))/\∀j,(v.ownBlock=J b->j<n*a)->o[j]? =f[j]? :=λS=>⟨f,S.trans x,λ_ _=>rfl⟩
 rcases k.2 with⟨rfl,_⟩|⟨g0,o,q,rfl,_,hg,a2,_,a3,_⟩
 .exact r (h3.block b s λS=>by cases S)
 by_cases e1:b=g0
 .subst e1;rw[hg] at x;injection x with x;injection x with a4 a5;subst a4 a5;by_cases f:n+m<=o
  .have p:=run_append_room (P:=P) w t T e i ht hi b n o q hg L m c Er (by rw[d];exact hl) h h1 f (by rw[d,a3,hl,<-acV];exact aag _ f);rw[hr] at p;injection p with _ hw;rw[hw,d];refine⟨_,aaa w b q _ e (0,0) hg,λj f=>?_⟩;have x :=f rfl;have:n*a<=o*a:=aag _ a2;have f:j<(q.toList.take<|n*a).length:=by rw[hY,wE];omega
   rw[aaP,WG,WW f,aab,Wz x,aah]
  have a:D.length=n*i.size:=by rw[d];exact k.1
  have p:=run_append_grow (P:=P) w t T e i z ht hi hz ⟨b,0,O⟩ n o D a (k.cells (g:=b) rfl) L m c Er (by rw[d];exact hl) h A (by unfold maxLen at R;omega) (growslice_fits A<|by rw[y];exact l);rw[hr] at p;injection p with _ hw;exact⟨q,by rw[hw];exact(Go.heap_alloc_old w.drew _ s).trans hg,λ_ _=>rfl⟩
 exact r (h3.block b s λS=>e1<|by injection S)
def Jv{P:Program}{ops:φ Oper}{rest:E Oper}{o:Oper}{a:Act}{Q:Exit->Act->U->Prop}(q:o.guard=O)(s x:Operand)(t:ν)
 (T:o.op=.call {callee:=.builtin .append,args:= #[s,x],argTypes:= #[t,t]})(e:ν)(i:TypeInfo)(z:M)(b d:N)(ht:P.underlying t=J (.slice e))(hi:P.info? e=J i)(hz:i.zero=J z)
 (h:i.size=b)(r:i.bytes=d)(y:z.cells.size=b)(D:0<b)(v:M)(n:N)(L:E M)(hs:a.eval s=v)(p:w.ownsRow 0 e b v n L)
 (R:Addr)(m c:N)(Er:E M)(hx:a.eval x=K (J R) m c)(hl:Er.length=m*b)(l:∀j u,Er[j]? =J u->w.cell? (R.add j)=J u)(h1:∀u∈Er,u.oneCell'=θ)
 (hm:0<m)(S:n+m<=maxLen)(f:(n+m)*d<=140737488355328)
 (k:∀g cap w',w'.ownsRow 0 e b (K (J ⟨g,0,O⟩) (n+m) cap) (n+m) (L++Er)->w.grownBy w' v.ownBlock->(v.ownBlock=J g\/g=w.heap.size)->SN w w' v (n*b)->wpList P ops Q rest (a.put o.dst<|K (J ⟨g,0,O⟩) (n+m) cap) w'):wpList P ops Q (o::rest) a w:=by
 obtain⟨g,cap,w',hr,h2,h3,h4,h5⟩:=QM (P:=P) w t o.type e i z b d ht hi hz h r y D v n L p R m c Er hl l h1 hm S f;exact Lib.wpList_append_run w q s x t t T v _ hs hx _ w' hr<|k g cap w' h2 h3 h4 h5
def qB(x v:M)(n:N):Prop:= ∀ao q cap,x=K ao q cap->q≠0-> ∀g,ao=J ⟨g,0,O⟩->v.ownBlock=J g->q<=n
def Fh.stays{el:Y->E M}{v:M}{m:Y}(l:Fh w e k el x m)(o:SN w w' v<|n*k)(p:qB x v n)(r:(el m).length=k):Fh w' e k el x m:=by
 obtain⟨s,q,a,rfl,j,c⟩:=l;by_cases h0:q=0
 .exact ⟨s,q,a,rfl,j,.inl h0⟩
 rcases c with c|⟨g,d,rfl,t,u⟩
 .exact κ c h0
 obtain⟨b,f,h⟩:=o g d e t;refine⟨_,q,a,rfl,j,.inr ⟨g,b,rfl,f,λi c j d b=>?_⟩⟩;rw[h _ λf=>?_]
 .exact u i c j d b
 have h:=p _ q a rfl h0 g rfl f;have c:j<k:=by rw[<-r];exact(wW.1 b).1
 exact aka
def CI.apF{s:WS}{v:M}{g:E M}(h:CI w1 w b c s p o q)(t:w.ownsRow 0 tF 2 v n g)(R:∀k,v.ownBlock=J k->w1.heap.size<=k)(S:w.grownBy w' v.ownBlock)(z:SN w w' v<|n*2)(m:∀x,x∈p->qB x.1 v n):CI w1 w' b c s p o q:=by
 have i:=(Ag.refl _ w).grown S λk _ e=>e;have d:∀{e:ν} {q:N} {J0:φ M},tF≠e->w.heap[q]? =J (W J0 e (0,0))->v.ownBlock=J q->False:=λj a hk=>ajT
 have l:∀{e:ν} {k:N} {r:M} {n:N} {g:E M},tF≠e->w.ownsRow 0 e k r n g-> ∀{q:N},r.ownBlock=J q->v.ownBlock=J q->False:=λj y q hk e=>aki
 refine⟨h.only.transNew i (λk hk e=>by have:=R k e;omega),h.lt,(i.block b h.inb λe=>d Ac h.hp e).trans h.hp,⟨Az h.rf.1 i λk hk e=>l Ac h.rf.1 hk e,Az h.rf.2.1 i λk hk e=>l Ac h.rf.2.1 hk e,λx g=>(h.rf.2.2 x g).stays z (m x g) rfl⟩,h.rl.kept i (λk hk e=>l Ac h.rl.1 hk e) (λk hk e=>l Ac h.rl.2.1 hk e) λx _ _ f a _ e=>d Ac a e,h.rt.kept i (λk hk e=>l Ac h.rt.1 hk e) (λk hk e=>l Ac h.rt.2.1 hk e) λx _ _ f a _ e=>d Ac a e,h.new,h.ap1,h.ap2,h.ap3,h.few,(λk D e u L=>(i.block k (Wt.1<|h.dk k D e u L).1 λT=>d (by rcases u with rfl|rfl<;>decide) (h.dk k D e u L) T).trans<|h.dk k D e u L)⟩
def CI.apL{s:WS}{v:M}{g:E M}(h:CI w1 w b c s o p q)(t:w.ownsRow 0 tL 2 v n g)(R:∀k,v.ownBlock=J k->w1.heap.size<=k)(S:w.grownBy w' v.ownBlock)(z:SN w w' v<|n*2)(m:∀x,x∈p->qB x.1 v n):CI w1 w' b c s o p q:=by
 have i:=(Ag.refl _ w).grown S λk _ e=>e;have d:∀{e:ν} {q:N} {J0:φ M},tL≠e->w.heap[q]? =J (W J0 e (0,0))->v.ownBlock=J q->False:=λj a hk=>ajT
 have l:∀{e:ν} {k:N} {r:M} {n:N} {g:E M},tL≠e->w.ownsRow 0 e k r n g-> ∀{q:N},r.ownBlock=J q->v.ownBlock=J q->False:=λj y q hk e=>aki
 refine⟨h.only.transNew i (λk hk e=>by have:=R k e;omega),h.lt,(i.block b h.inb λe=>d Ac h.hp e).trans h.hp,h.rf.kept i (λk hk e=>l Ac h.rf.1 hk e) (λk hk e=>l Ac h.rf.2.1 hk e) λx _ _ f a _ e=>d Ac a e,⟨Az h.rl.1 i λk hk e=>l Ac h.rl.1 hk e,Az h.rl.2.1 i λk hk e=>l Ac h.rl.2.1 hk e,λx g=>(h.rl.2.2 x g).stays z (m x g) rfl⟩,h.rt.kept i (λk hk e=>l Ac h.rt.1 hk e) (λk hk e=>l Ac h.rt.2.1 hk e) λx _ _ f a _ e=>d Ac a e,h.new,h.ap1,h.ap2,h.ap3,h.few,(λk D e u L=>(i.block k (Wt.1<|h.dk k D e u L).1 λT=>d (by rcases u with rfl|rfl<;>decide) (h.dk k D e u L) T).trans<|h.dk k D e u L)⟩
def LI{l:E M}(a:l.length=k)(h0:0<k):∀(n q:N),q<n*k->((List.replicate n l).flatten)[q]? =l[q%k]?
 |0,q,h=>akX
 |n+1,q,h=>by
  rw[acY,List.flatten_cons];by_cases b:q<k
  .rw[WW A,abV b]
  rw[WU A,a,LI a h0 n (q-k) (by rw[acV,aef] at h;omega),Nat.mod_eq_sub_mod (show q>=k by omega)]
def SO{l:E M}(a:l.length=k):∀n,((List.replicate n l).flatten).length=n*k
 |0=>by simp
 |n+1=>by rw[acY,List.flatten_cons,Ws,SO a n,a,acV];omega
def Ve{l:E M}(n:N):(List.replicate n l).flatten++l=(List.replicate (n+1) l).flatten:=by
 rw[aba,List.flatten_append];simp
def ZW{el:Y->E M}{v:M}{m:Y}(f:(el m).length=k)(h0:0<k)(d:n<=2000000)(h:w.ownsRow 0 e k v n ((List.replicate n<|el m).flatten)):Fh w e k el v m:=by
 obtain⟨_,⟨rfl,_⟩|⟨g,b,a,rfl,_,j,_,_,_,c⟩⟩:=h
 .exact ⟨O,0,0,rfl,A,.inl rfl⟩
 refine⟨_,n,b,rfl,d,.inr ⟨g,a,rfl,j,λi _ j _ h=>?_⟩⟩;have d:j<k:=by rw[<-f];exact(wW.1 h).1
 have b:i*k+j<n*k:=aka;have l:(List.take (n*k) a.toList)[i*k+j]? =((List.replicate n<|el m).flatten)[i*k+j]? :=by rw[c]
 rw[aab,Wz b,LI f h0 n _ b,aah,abg i k,Nat.mul_add_mod,abV d,h] at l;rw[abg i k];exact l
def NE(wq w1 w:U)(e:ν)(k:N)(el:Y->E M)(ao:Option Addr)(n cap:N)(m:Y)(i:N):Prop:=(n=0/\w.ownsRow 0 e k (K ao 0 cap) 0 [])\/ ∃g J0,ao=J ⟨g,0,O⟩/\w.heap[g]? =J (W J0 e (0,0))/\n<=cap/\cap<=maxLen/\J0.size=cap*k/\wq.heap.size<=g/\w1.heap.size<=g/\∀p,p<i-> ∀j u,(el m)[j]? =J u->J0[p*k+j]? =J u
def NE.own{el:Y->E M}{ao:Option Addr}{m:Y}(h:NE wq w1 w e k el ao n cap m n)(b:(el m).length=k)(h0:0<k):w.ownsRow 0 e k (K ao n cap) n ((List.replicate n<|el m).flatten):=by
 rcases h with⟨rfl,h⟩|⟨g,c,rfl,i,a,d,f,_,_,j⟩
 .exact h
 refine⟨SO b n,.inr ⟨g,cap,c,rfl,wH _,i,a,d,f,?_⟩⟩;apply abq;intro q;have c:n*k<=cap*k:=aag _ a;by_cases c:q<n*k
 .rw[aab,Wz c,LI b h0 n q c,aah];have a:q%k<(el m).length:=by rw[b];exact wU _ h0
  have d:=Nat.div_add_mod q k;have f:=Nat.div_lt_of_lt_mul (by rw[abg];exact c);have:=j (q/k) f (q%k) _<|Wv a;rw[abg,d] at this;rw[this,Wv a]
 rw[wj (by rw[hY,wE];omega),wj<|by rw[SO b];omega]
def NE.start{el:Y->E M}{ao:Option Addr}{a:E M}(l:w.ownsRow 0 e k (K ao n cap) n a)(j:∀g,(Value.slice ao n cap).ownBlock=J g->wq.heap.size<=g/\w1.heap.size<=g)(m:Y):NE wq w1 w e k el ao n cap m 0:=by
 obtain⟨_,⟨b,o⟩|⟨g,_,c,b,_,q,d,f,h,_⟩⟩:=l
 .injection b with b r i;subst b i o;exact .inl ⟨rfl,WZ _ _ _ _⟩
 injection b with b r i;subst b i;exact .inr ⟨g,c,rfl,q,d,f,h,(j g rfl).1,(j g rfl).2,λp _=>A⟩
def NE.kept{el:Y->E M}{ao:Option Addr}{m:Y}(h:NE wq w1 w e k el ao n cap m i)(ho:Ag S w w')(hs:∀g J0,w.heap[g]? =J (W J0 e (0,0))->¬S g):NE wq w1 w' e k el ao n cap m i:=by
 rcases h with⟨h0,h⟩|⟨g,J0,h1,h2,h3⟩
 .refine .inl ⟨h0,Az h ho λb a=>?_⟩;obtain⟨J0,c⟩:=Ak h a;exact hs b J0 c
 exact aiN
def NE.next{el:Y->E M}{ao:Option Addr}{m:Y}{u0 u1:M}(hel:el m=[u0,u1]){J0 N8:φ M}(ha:ao=J ⟨g,0,O⟩)(hg:w.heap[g]? =J (W N8 e (0,0)))(hnc:n<=cap)(K6:cap<=maxLen)(Z1:J0.size=cap*2)(hs:N8.size=J0.size)(h1:wq.heap.size<=g)(h2:w1.heap.size<=g)(hf:∀p,p<i-> ∀j u,(el m)[j]? =J u->J0[p*2+j]? =J u)(hl:∀p,p<i*2->N8[p]? =J0[p]?)(e0:N8[i*2]? =J u0)(e1:N8[i*2+1]? =J u1):NE wq w1 w e 2 el ao n cap m<|i+1:=by
 refine .inr ⟨g,N8,ha,hg,hnc,K6,A,h1,h2,λp a j u hj=>?_⟩;rw[hel] at hj;have hj2:j<2:=(wW.1 hj).1;by_cases e:p=i
 .subst e
  match j,hj2,hj with
  |0,_,hj=>rw[<-hj];exact e0
  |1,_,hj=>rw[<-hj];exact e1
 rw[hl _ A];exact hf p A j u<|by rw[hel];exact hj
def LK(e:ν)(k:N)(w w':U):Prop:= ∀v n xs,w.ownsRow 0 e k v n xs->w'.ownsRow 0 e k v n xs
def LK.trans{a b c:U}(h:LK e k a b)(f:LK e k b c):LK e k a c:=λv n d g=>f v n d<|h v n d g
def LK.of(d:Ag S w w')(f:∀g a,w.heap[g]? =J (W a e (0,0))->¬S g):LK e k w w':=λ_ n _ c=>Az c d (λb d=>by
 obtain⟨a,h⟩:=Ak c d;exact f b a h)
def Vf{el:Y->E M}{v:M}(h:∀x,x∈R->Fh wq e k el x.1 x.2)(i:∀g,v.ownBlock=J g->wq.heap.size<=g)(n:N):∀x,x∈R->qB x.1 v n:=by
 intro x j _ _ _ b h0 g l m;obtain⟨_,_,_,f,_,c⟩:=h x j;rw[b] at f;injection f with o p q;subst o p;rcases c with c|⟨_,_,a,d,_⟩
 .exact κ c h0
 rw[l] at a;injection a with a;injection a with a;subst a;have:=(Wt.1 d).1;have:=i g m;omega
def ZX{v:M}{ao:Option Addr}{m:Y}(h:∀x,x∈R->qB x.1 v n)(a:v=K ao n cap):∀x,x∈R++[(v,m)]->qB x.1 v n:=by
 intro x hx;rcases WY.1 hx with hx|hx
 .exact h x hx
 rw[WN] at hx;subst hx;intro _ _ _ e _ g _ _;simp only at e;rw[a] at e;injection e with _ e _;omega
def ZY{b:U}{el:Y->E M}{v:M}(m:∀x,x∈R->qB x.1 v n)(o:∀x,x∈R->Fh b e k el x.1 x.2)(hl:v.ownBlock=J g\/g=b.heap.size):∀x,x∈R->qB x.1 (K (J ⟨g,0,O⟩) (n+1) cap) (n+1):=by
 intro x i p q c d h0 b j r;have e:g=b:=WX r;subst e;rcases hl with hl|hl
 .have:=m x i p q c d h0 g j hl;omega
 obtain⟨_,_,_,l,_,f⟩:=o x i;rw[d] at l;injection l with s t u;subst s t;rcases f with f|⟨_,_,a,h,_⟩
 .exact κ f h0
 rw[j] at a;injection a with a;injection a with a;subst a;have:=(Wt.1 h).1;omega
def oS(w1 w wr:U)(b c n j:N)(m:Y)(_RF RL RT:E<|M×Y)(l:M)(B:Y×Y×Y×M×M×U):Prop:= ∃s2 R2,CI w1 wr b (c+1) s2 R2 RL RT/\R2.length<=4*c+j/\wr.ownsRow 0 tF 2 l (n+j) ((List.replicate (n+j)<|TU m).flatten)/\(∀g,l.ownBlock=J g->w1.heap.size<=g)/\(∀x,x∈R2->qB x.1 l (n+j))/\LK tL 2 w wr/\s2.base=B
def oT(w1 w wr:U)(b c n j:N)(m:Y)(RF _RL RT:E<|M×Y)(l:M)(B:Y×Y×Y×M×M×U):Prop:= ∃s2 R2,CI w1 wr b (c+1) s2 RF R2 RT/\R2.length<=4*c+j/\wr.ownsRow 0 tL 2 l (n+j) ((List.replicate (n+j)<|TV m).flatten)/\(∀g,l.ownBlock=J g->w1.heap.size<=g)/\(∀x,x∈R2->qB x.1 l (n+j))/\LK tF 2 w wr/\s2.base=B
def Ov{s:WS}{S RL:E (M×Y)}(hc:c<=100000000)(w:U)(h:CI w1 w b c s S RL RT)(ao:Option Addr)(n cap:N)(hn:n<=1500000)(xs:E M)(hv:w.ownsRow 0 tF 2 (K ao n cap) n xs)(hb:∀g,(Value.slice ao n cap).ownBlock=J g->wq.heap.size<=g/\w1.heap.size<=g)(hq:∀x,x∈S->Fh wq tF 2 TU x.1 x.2):
 μ F 38 #[V<|J ⟨b,0,O⟩,K ao n cap] w λr w'=>r=ε (η #[])/\LK tL 2 w w'/\QL w1 w' b (c+1) s.base RL RT:=by
 have H1:=oM s c A b w h.hp;have o:=h;have b9:=h.few.1;have HQ:=hq;have HV:=λm=>NE.start (el:=TU) hv hb m
 have HB:=hb;go_in;go_wp2_with fail;apply H1.mono;rintro r w2 ⟨m,rfl,b3,b9⟩;have z:=o.rec_ b3 b9 A rfl rfl rfl rfl rfl rfl;have D:=(HV m).kept b3 λg J0 hg e=>kinds (e ▸ hg) o.hp Ac;have T:(LK tL 2 w w2):=LK.of b3 λg J0 hg e=>kinds (e ▸ hg) o.hp Ac;go_wp2;go_loopw [5] (λx wr=>∃i:N,i<=n/\x=I Q i/\(CI w1 wr b (c+1) s S RL RT)/\(NE wq w1 wr tF 2 TU ao n cap m i)/\(LK tL 2 w wr)) λx _=>n-(intOf x).toNat
 .exact ajC
 obtain⟨i,hi,rfl,o,HP,HO⟩:=hrel;by_cases d1:i<n
 .have b4:(i:Z)<n:=A;obtain⟨g,J0,ha,hg,hnc,K6,Z1,hgq,M8,F5⟩:∃g J0,ao=J ⟨g,0,O⟩/\wr.heap[g]? =J (W J0 tF (0,0))/\n<=cap/\cap<=maxLen/\J0.size=cap*2/\wq.heap.size<=g/\w1.heap.size<=g/\∀p,p<i-> ∀j a7,(TU m)[j]? =J a7->J0[p*2+j]? =J a7:=by
   rcases HP with h|h
   .omega
   exact h
  have a8:i*2+2<=J0.size:=A;obtain⟨y0,k0⟩:∃y0,wr.cell? ⟨g,i*2,O⟩=J y0:=⟨J0[i*2]'A,by rw[Wu wr g _ _ _ (0,0) hg];exact wB _⟩;obtain⟨y1,k1⟩:∃y1,wr.cell? ⟨g,i*2+1,O⟩=J y1:=⟨J0[i*2+1]'A,by rw[Wu wr g _ _ _ (0,0) hg];exact wB _⟩;have f0:=WK wr g (i*2) _ _ hg;have f1:=WK wr g (i*2+1) _ _ hg;obtain⟨b9,hg',hs',X9,e0,e1,b3⟩:=ei hg (i*2) (G m) (G ⟨#[]⟩) a8;have z:=o.wrF hg b3 HQ hgq M8;have D:=NE.next (wq:=wq) (w1:=w1) (el:=TU) (m:=m) rfl ha hg' hnc K6 Z1 hs' hgq M8 F5 X9 e0 e1;have T:(LK tL 2 w _):=HO.trans (LK.of b3 λg2 f a e=>kinds hg (e ▸ a) Ac);subst ha;exact agM
 have b4:¬(i:Z)<n:=A;have b3:i=n:=A;have HW:(wr.ownsRow 0 tF 2 (K ao n cap) n ((List.replicate n<|TU m).flatten)):=by rw[b3] at HP;exact HP.own rfl A
 have c0:(oS w1 w wr b c n 0 m S RL RT (K ao n cap) s.base):=⟨s,S,o,A,HW,λg e=>(HB g e).2,Vf HQ (λg e=>(HB g e).1) n,HO,rfl⟩;go_wp2;go_loopw [1,6] (λa2 x wr=>∃(j:N) (a1:Option Addr) (a0:N),j<=4/\x=I Q j/\a2=K a1 (n+j) a0/\(oS w1 w wr b c n j m S RL RT (K a1 (n+j) a0) s.base)) λ_ x _=>4-(intOf x).toNat
 .exact ⟨0,ao,cap,A,rfl,rfl,c0⟩
 obtain⟨j,a1,a0,hj,rfl,rfl,HI⟩:=hrel;obtain⟨s2,R2,d1,f8,b3,d2,b4,b9,c0⟩:=HI;have U5:=c0;have o:=d1;have b5:=b3;have q:=d2;have d3:=b4;have P:=b9;by_cases b3:j<4
 .have R:(j:Z)<4:=A;have HF:(Fh wr tF 2 TU (K a1 (n+j) a0) m):=ZW rfl A A b5;have c9:wr.cell? ⟨b,5,O⟩=J s2.r5:=by rw[Wu wr b 5 _ _ (0,0) o.hp];rfl
  have f9:=WK wr b 5 _ _ o.hp;obtain⟨a9,z9,e9⟩:=CN o.rf.1;obtain⟨a5,a6,b4⟩:=CN o.rf.2.1;have b3:=e9;have a3:=b4;rw[e9] at c9;obtain⟨i0,d4,d5,d6,d7⟩:=wi xm;obtain⟨j0,d8,d9,e4,e5⟩:=wi Pv;obtain⟨t0,e6,e7,e8,f2⟩:=wi Lb;have f3:((wr.alloc<|W #[K a1 (n+j) a0] ec).ownsRow 0 ec 1 (K a9 R2.length z9) R2.length<|R2.map (·.1)):=by rw[<-b3];exact Az o.rf.1 ((Ag.refl (λ_=>False) wr).alloc _) λ_ _ x=>x
  have f4:=AD wr [K a1 (n+j) a0] ec;have f5:((wr.alloc<|W #[K a1 (n+j) a0] ec).heap.size=wr.heap.size+1):=by rw[WP]
  have b9:(R2.length+1<=4*(c+1)):=A;have c1:(∀ga ca w3,(wr.alloc<|W #[K a1 (n+j) a0] ec).grownBy w3 (Value.slice a9 R2.length z9).ownBlock->w3.cell? ⟨b,5,O⟩=J (K a9 R2.length z9)/\w3.cell? ⟨b,6,O⟩=J (K a5 R2.length a6)/\w3.frozen? ⟨b,5,O⟩=ι/\w3.frozen? ⟨b,6,O⟩=ι/\((w3.setCell ⟨b,5,O⟩<|K (J ⟨ga,0,O⟩) (R2.length+1) ca).alloc<|W #[G m] 9).ownsRow 0 9 1 (K a5 R2.length a6) R2.length (R2.map λx=>Value.string x.2)/\∀j a7,([G m]:E M)[j]? =J a7->((w3.setCell ⟨b,5,O⟩<|K (J ⟨ga,0,O⟩) (R2.length+1) ca).alloc<|W #[G m] 9).cell? ((⟨w3.heap.size,0,O⟩:Addr).add j)=J a7):=λga ca w3 a2=>by
   rw[<-b3] at a2;obtain⟨c0,b4⟩:=o.oneF a2;refine⟨?_,?_,WK w3 b 5 _ _ b4,WK w3 b 6 _ _ b4,?_,?_⟩
   .rw[Wu w3 b 5 _ _ (0,0) b4,<-b3];rfl
   .rw[Wu w3 b 6 _ _ (0,0) b4,<-a3];rfl
   .rw[<-a3];exact o.twoF c0 _ _
   have:=AD (w3.setCell ⟨b,5,O⟩<|K (J ⟨ga,0,O⟩) (R2.length+1) ca) [G m] 9;exact aiQ
  have c2:(∀ga ca gb cb w3 w6,w3.ownsRow 0 ec 1 (K (J ⟨ga,0,O⟩) (R2.length+1) ca) (R2.length+1) (R2.map (·.1)++[K a1 (n+j) a0])->(wr.alloc<|W #[K a1 (n+j) a0] ec).grownBy w3 (Value.slice a9 R2.length z9).ownBlock->((Value.slice a9 R2.length z9).ownBlock=J ga\/ga=wr.heap.size+1)->w6.ownsRow 0 9 1 (K (J ⟨gb,0,O⟩) (R2.length+1) cb) (R2.length+1) (R2.map (λx=>Value.string x.2)++[G m])->((w3.setCell ⟨b,5,O⟩<|K (J ⟨ga,0,O⟩) (R2.length+1) ca).alloc<|W #[G m] 9).grownBy w6 (Value.slice a5 R2.length a6).ownBlock->((Value.slice a5 R2.length a6).ownBlock=J gb\/gb=w3.heap.size+1)->w6.cell? ⟨b,6,O⟩=J (K a5 R2.length a6)/\w6.frozen? ⟨b,6,O⟩=ι/\((w6.setCell ⟨b,6,O⟩<|K (J ⟨gb,0,O⟩) (R2.length+1) cb).alloc<|W #[G m,(G ⟨#[]⟩)] tF).ownsRow 0 tF 2 (K a1 (n+j) a0) (n+j) ((List.replicate (n+j)<|TU m).flatten)/\(∀j a7,(TU m)[j]? =J a7->((w6.setCell ⟨b,6,O⟩<|K (J ⟨gb,0,O⟩) (R2.length+1) cb).alloc<|W #[G m,(G ⟨#[]⟩)] tF).cell? ((⟨w6.heap.size,0,O⟩:Addr).add j)=J a7)/\∀y L w8,w8.ownsRow 0 tF 2 (K (J ⟨y,0,O⟩) (n+j+1) L) (n+j+1) ((List.replicate (n+j)<|TU m).flatten++TU m)->((w6.setCell ⟨b,6,O⟩<|K (J ⟨gb,0,O⟩) (R2.length+1) cb).alloc<|W #[G m,(G ⟨#[]⟩)] tF).grownBy w8 (Value.slice a1 (n+j) a0).ownBlock->((Value.slice a1 (n+j) a0).ownBlock=J y\/y=((w6.setCell ⟨b,6,O⟩<|K (J ⟨gb,0,O⟩) (R2.length+1) cb).alloc<|W #[G m,(G ⟨#[]⟩)] tF).heap.size)->SN ((w6.setCell ⟨b,6,O⟩<|K (J ⟨gb,0,O⟩) (R2.length+1) cb).alloc<|W #[G m,(G ⟨#[]⟩)] tF) w8 (K a1 (n+j) a0) ((n+j)*2)->oS w1 w w8 b c n (j+1) m S RL RT (K (J ⟨y,0,O⟩) (n+(j+1)) L) s.base):=λga ca gb cb w3 w6 h3 a2 b0 h6 b1 b2=>by
   rw[<-b3] at a2 b0;rw[<-a3] at b1 b2;obtain⟨c3,c4,c5⟩:=o.endF HF b9 h3 a2 b0 h6 b1 b2;have c6:∀{e:ν},e≠wT->e≠ec->e≠9-> ∀g J0,wr.heap[g]? =J (W J0 e (0,0))->¬(g=b\/s2.r5.ownBlock=J g\/s2.r6.ownBlock=J g):=λh1 h2 h3 g J0 hg d=>by
    rcases d with d|d|d
    .subst d;exact kinds hg o.hp h1
    .obtain ⟨f,a⟩:=Ak o.rf.1 d;exact kinds hg a h2
    obtain⟨f,a⟩:=Ak o.rf.2.1 d;exact kinds hg a h3
   have v:=Az b5 (c5.alloc<|W #[G m,(G ⟨#[]⟩)] tF) (λg hg d=>by
    obtain⟨J0,a⟩:=Ak b5 hg;exact c6 Ac Ac Ac g J0 a d)
   have b3:LK tL 2 wr ((w6.setCell ⟨b,6,O⟩<|K (J ⟨gb,0,O⟩) (R2.length+1) cb).alloc<|W #[G m,(G ⟨#[]⟩)] tF):=LK.of (c5.alloc _)<|c6 Ac Ac Ac;have l:=c4.old ((Ag.refl (λ_=>False)<|w6.setCell ⟨b,6,O⟩ (K (J ⟨gb,0,O⟩) (R2.length+1) cb)).alloc<|W #[G m,(G ⟨#[]⟩)] tF);refine⟨?_,WK w6 b 6 _ _ c3,v,?_,λy L w8 h8 t u a4=>?_⟩
   .rw[Wu w6 b 6 _ _ (0,0) c3,<-a3];rfl
   .have:=AD (w6.setCell ⟨b,6,O⟩<|K (J ⟨gb,0,O⟩) (R2.length+1) cb) (TU m) tF;exact aiQ
   have S:=ZX (m:=m) d3 rfl;have a3:=l.apF v q t a4 S;refine⟨_,_,a3,by rw[Ws,acg];omega,?_,λg e=>?_,ZY S (λx S=>l.rf.2.2 x S) u,P.trans<|b3.trans ?_,U5⟩
   .rw[Ve] at h8;exact h8
   .exact aio
   exact ahj
  go_wp2_with (at_builtin;first
   |(refine wpList_append_lies _ rfl (.tmp 28) (.tmp 30) 28 rfl 0 ec i0 (K O 0 0) 1 24 underlying28 d4 d5 d6 d7 rfl A (K a9 R2.length z9) R2.length (R2.map (·.1)) rfl f3 ⟨wr.heap.size,0,O⟩ 1 1 [K a1 (n+j) a0] rfl rfl f4 alv A (by unfold maxLen;omega) A A (wr.heap.size+1) f5 ?_;intro ga ca w3 h3 a2 b0 a8;obtain⟨q9,f6,x9,f7,S,a3⟩:=c1 ga ca w3 a2;have b3:=S;have b4:=a3;have b6:=λgb cb w6=>c2 ga ca gb cb w3 w6 h3 a2 b0;clear h3 a2 b0 a8 c9 f9 S a3)
   |(refine wpList_append_lies _ rfl (.tmp 38) (.tmp 40) 29 rfl 0 9 j0 (G ⟨#[]⟩) 1 16 underlying29 d8 d9 e4 e5 rfl A (K a5 R2.length a6) R2.length _ rfl b3 ⟨w3.heap.size,0,O⟩ 1 1 [G m] rfl rfl b4 alv A (by unfold maxLen;omega) A A (w3.heap.size+1) (by rw[WP,Ia]) ?_;intro gb cb w6 h6 b1 b2 a2;obtain⟨c7,d0,a3,a5,S⟩:=b6 gb cb w6 h6 b1 b2;have a6:=a3;have a8:=a5;have b7:=S;clear h6 b1 b2 a2 a3 a5 S q9 f6 x9 f7)
   |(refine Jv rfl (.tmp 44) (.tmp 47) 39 rfl tF t0 (.agg #[G ⟨#[]⟩,G ⟨#[]⟩]) 2 32 underlying39 e6 e7 e8 f2 rfl A (K a1 (n+j) a0) (n+j) _ rfl a6 ⟨w6.heap.size,0,O⟩ 1 1 (TU m) rfl rfl a8 (by intro a7 hu;simp[TU] at hu;rcases hu with rfl|rfl<;>rfl) A (by unfold maxLen;omega) A ?_;intro y L w8 h8 t u a4;have HX:=b7 y L w8 h8 t u a4;clear h8 t u a4 c7 d0))
  exact aiy
 exact ahD
def gR{s:WS}{RF S:E (M×Y)}(hc:c<=100000000)(w:U)(h:CI w1 w b c s RF S RT)(ao:Option Addr)(n cap:N)(hn:n<=1500000)(xs:E M)(hv:w.ownsRow 0 tL 2 (K ao n cap) n xs)(hb:∀g,(Value.slice ao n cap).ownBlock=J g->wq.heap.size<=g/\w1.heap.size<=g)(hq:∀x,x∈S->Fh wq tL 2 TV x.1 x.2):
 μ F 39 #[V<|J ⟨b,0,O⟩,K ao n cap] w λr w'=>r=ε (η #[])/\LK tF 2 w w'/\Hj w1 w' b (c+1) s.base RF RT:=by
 have H1:=oM s c A b w h.hp;have o:=h;have b9:=h.few.2.1;have HQ:=hq;have HV:=λm=>NE.start (el:=TV) hv hb m
 have HB:=hb;go_in;go_wp2_with fail;apply H1.mono;rintro r w2 ⟨m,rfl,b3,b9⟩;have z:=o.rec_ b3 b9 A rfl rfl rfl rfl rfl rfl;have D:=(HV m).kept b3 λg J0 hg e=>kinds (e ▸ hg) o.hp Ac;have T:(LK tF 2 w w2):=LK.of b3 λg J0 hg e=>kinds (e ▸ hg) o.hp Ac;go_wp2;go_loopw [5] (λx wr=>∃i:N,i<=n/\x=I Q i/\(CI w1 wr b (c+1) s RF S RT)/\(NE wq w1 wr tL 2 TV ao n cap m i)/\(LK tF 2 w wr)) λx _=>n-(intOf x).toNat
 .exact ajC
 obtain⟨i,hi,rfl,o,HP,HO⟩:=hrel;by_cases d1:i<n
 .have b4:(i:Z)<n:=A;obtain⟨g,J0,ha,hg,hnc,K6,Z1,hgq,M8,F5⟩:∃g J0,ao=J ⟨g,0,O⟩/\wr.heap[g]? =J (W J0 tL (0,0))/\n<=cap/\cap<=maxLen/\J0.size=cap*2/\wq.heap.size<=g/\w1.heap.size<=g/\∀p,p<i-> ∀j a7,(TV m)[j]? =J a7->J0[p*2+j]? =J a7:=by
   rcases HP with h|h
   .omega
   exact h
  have a8:i*2+2<=J0.size:=A;obtain⟨y0,k0⟩:∃y0,wr.cell? ⟨g,i*2,O⟩=J y0:=⟨J0[i*2]'A,by rw[Wu wr g _ _ _ (0,0) hg];exact wB _⟩;obtain⟨y1,k1⟩:∃y1,wr.cell? ⟨g,i*2+1,O⟩=J y1:=⟨J0[i*2+1]'A,by rw[Wu wr g _ _ _ (0,0) hg];exact wB _⟩;have f0:=WK wr g (i*2) _ _ hg;have f1:=WK wr g (i*2+1) _ _ hg;obtain⟨b9,hg',hs',X9,e0,e1,b3⟩:=ei hg (i*2) (G m) (I Q 0) a8;have z:=o.wrL hg b3 HQ hgq M8;have D:=NE.next (wq:=wq) (w1:=w1) (el:=TV) (m:=m) rfl ha hg' hnc K6 Z1 hs' hgq M8 F5 X9 e0 e1;have T:(LK tF 2 w _):=HO.trans (LK.of b3 λg2 f a e=>kinds hg (e ▸ a) Ac);subst ha;exact agM
 have b4:¬(i:Z)<n:=A;have b3:i=n:=A;have HW:(wr.ownsRow 0 tL 2 (K ao n cap) n ((List.replicate n<|TV m).flatten)):=by rw[b3] at HP;exact HP.own rfl A
 have c0:(oT w1 w wr b c n 0 m RF S RT (K ao n cap) s.base):=⟨s,S,o,A,HW,λg e=>(HB g e).2,Vf HQ (λg e=>(HB g e).1) n,HO,rfl⟩;go_wp2;go_loopw [1,6] (λa2 x wr=>∃(j:N) (a1:Option Addr) (a0:N),j<=4/\x=I Q j/\a2=K a1 (n+j) a0/\(oT w1 w wr b c n j m RF S RT (K a1 (n+j) a0) s.base)) λ_ x _=>4-(intOf x).toNat
 .exact ⟨0,ao,cap,A,rfl,rfl,c0⟩
 obtain⟨j,a1,a0,hj,rfl,rfl,HI⟩:=hrel;obtain⟨s2,R2,d1,f8,b3,d2,b4,b9,c0⟩:=HI;have U5:=c0;have o:=d1;have b5:=b3;have q:=d2;have d3:=b4;have P:=b9;by_cases b3:j<4
 .have R:(j:Z)<4:=A;have HF:(Fh wr tL 2 TV (K a1 (n+j) a0) m):=ZW rfl A A b5;have c9:wr.cell? ⟨b,7,O⟩=J s2.r7:=by rw[Wu wr b 7 _ _ (0,0) o.hp];rfl
  have f9:=WK wr b 7 _ _ o.hp;obtain⟨a9,z9,e9⟩:=CN o.rl.1;obtain⟨a5,a6,b4⟩:=CN o.rl.2.1;have b3:=e9;have a3:=b4;rw[e9] at c9;obtain⟨i0,d4,d5,d6,d7⟩:=wi xq;obtain⟨j0,d8,d9,e4,e5⟩:=wi Pv;obtain⟨t0,e6,e7,e8,f2⟩:=wi Xy;have f3:((wr.alloc<|W #[K a1 (n+j) a0] ed).ownsRow 0 ed 1 (K a9 R2.length z9) R2.length<|R2.map (·.1)):=by rw[<-b3];exact Az o.rl.1 ((Ag.refl (λ_=>False) wr).alloc _) λ_ _ x=>x
  have f4:=AD wr [K a1 (n+j) a0] ed;have f5:((wr.alloc<|W #[K a1 (n+j) a0] ed).heap.size=wr.heap.size+1):=by rw[WP]
  have b9:(R2.length+1<=4*(c+1)):=A;have c1:(∀ga ca w3,(wr.alloc<|W #[K a1 (n+j) a0] ed).grownBy w3 (Value.slice a9 R2.length z9).ownBlock->w3.cell? ⟨b,7,O⟩=J (K a9 R2.length z9)/\w3.cell? ⟨b,8,O⟩=J (K a5 R2.length a6)/\w3.frozen? ⟨b,7,O⟩=ι/\w3.frozen? ⟨b,8,O⟩=ι/\((w3.setCell ⟨b,7,O⟩<|K (J ⟨ga,0,O⟩) (R2.length+1) ca).alloc<|W #[G m] 9).ownsRow 0 9 1 (K a5 R2.length a6) R2.length (R2.map λx=>Value.string x.2)/\∀j a7,([G m]:E M)[j]? =J a7->((w3.setCell ⟨b,7,O⟩<|K (J ⟨ga,0,O⟩) (R2.length+1) ca).alloc<|W #[G m] 9).cell? ((⟨w3.heap.size,0,O⟩:Addr).add j)=J a7):=λga ca w3 a2=>by
   rw[<-b3] at a2;obtain⟨c0,b4⟩:=o.oneL a2;refine⟨?_,?_,WK w3 b 7 _ _ b4,WK w3 b 8 _ _ b4,?_,?_⟩
   .rw[Wu w3 b 7 _ _ (0,0) b4,<-b3];rfl
   .rw[Wu w3 b 8 _ _ (0,0) b4,<-a3];rfl
   .rw[<-a3];exact o.twoL c0 _ _
   have:=AD (w3.setCell ⟨b,7,O⟩<|K (J ⟨ga,0,O⟩) (R2.length+1) ca) [G m] 9;exact aiQ
  have c2:(∀ga ca gb cb w3 w6,w3.ownsRow 0 ed 1 (K (J ⟨ga,0,O⟩) (R2.length+1) ca) (R2.length+1) (R2.map (·.1)++[K a1 (n+j) a0])->(wr.alloc<|W #[K a1 (n+j) a0] ed).grownBy w3 (Value.slice a9 R2.length z9).ownBlock->((Value.slice a9 R2.length z9).ownBlock=J ga\/ga=wr.heap.size+1)->w6.ownsRow 0 9 1 (K (J ⟨gb,0,O⟩) (R2.length+1) cb) (R2.length+1) (R2.map (λx=>Value.string x.2)++[G m])->((w3.setCell ⟨b,7,O⟩<|K (J ⟨ga,0,O⟩) (R2.length+1) ca).alloc<|W #[G m] 9).grownBy w6 (Value.slice a5 R2.length a6).ownBlock->((Value.slice a5 R2.length a6).ownBlock=J gb\/gb=w3.heap.size+1)->w6.cell? ⟨b,8,O⟩=J (K a5 R2.length a6)/\w6.frozen? ⟨b,8,O⟩=ι/\((w6.setCell ⟨b,8,O⟩<|K (J ⟨gb,0,O⟩) (R2.length+1) cb).alloc<|W #[G m,(I Q 0)] tL).ownsRow 0 tL 2 (K a1 (n+j) a0) (n+j) ((List.replicate (n+j)<|TV m).flatten)/\(∀j a7,(TV m)[j]? =J a7->((w6.setCell ⟨b,8,O⟩<|K (J ⟨gb,0,O⟩) (R2.length+1) cb).alloc<|W #[G m,(I Q 0)] tL).cell? ((⟨w6.heap.size,0,O⟩:Addr).add j)=J a7)/\∀y L w8,w8.ownsRow 0 tL 2 (K (J ⟨y,0,O⟩) (n+j+1) L) (n+j+1) ((List.replicate (n+j)<|TV m).flatten++TV m)->((w6.setCell ⟨b,8,O⟩<|K (J ⟨gb,0,O⟩) (R2.length+1) cb).alloc<|W #[G m,(I Q 0)] tL).grownBy w8 (Value.slice a1 (n+j) a0).ownBlock->((Value.slice a1 (n+j) a0).ownBlock=J y\/y=((w6.setCell ⟨b,8,O⟩<|K (J ⟨gb,0,O⟩) (R2.length+1) cb).alloc<|W #[G m,(I Q 0)] tL).heap.size)->SN ((w6.setCell ⟨b,8,O⟩<|K (J ⟨gb,0,O⟩) (R2.length+1) cb).alloc<|W #[G m,(I Q 0)] tL) w8 (K a1 (n+j) a0) ((n+j)*2)->oT w1 w w8 b c n (j+1) m RF S RT (K (J ⟨y,0,O⟩) (n+(j+1)) L) s.base):=λga ca gb cb w3 w6 h3 a2 b0 h6 b1 b2=>by
   rw[<-b3] at a2 b0;rw[<-a3] at b1 b2;obtain⟨c3,c4,c5⟩:=o.endL HF b9 h3 a2 b0 h6 b1 b2;have c6:∀{e:ν},e≠wT->e≠ed->e≠9-> ∀g J0,wr.heap[g]? =J (W J0 e (0,0))->¬(g=b\/s2.r7.ownBlock=J g\/s2.r8.ownBlock=J g):=λh1 h2 h3 g J0 hg d=>by
    rcases d with d|d|d
    .subst d;exact kinds hg o.hp h1
    .obtain ⟨f,a⟩:=Ak o.rl.1 d;exact kinds hg a h2
    obtain⟨f,a⟩:=Ak o.rl.2.1 d;exact kinds hg a h3
   have v:=Az b5 (c5.alloc<|W #[G m,(I Q 0)] tL) (λg hg d=>by
    obtain⟨J0,a⟩:=Ak b5 hg;exact c6 Ac Ac Ac g J0 a d)
   have b3:LK tF 2 wr ((w6.setCell ⟨b,8,O⟩<|K (J ⟨gb,0,O⟩) (R2.length+1) cb).alloc<|W #[G m,(I Q 0)] tL):=LK.of (c5.alloc _)<|c6 Ac Ac Ac;have l:=c4.old ((Ag.refl (λ_=>False)<|w6.setCell ⟨b,8,O⟩ (K (J ⟨gb,0,O⟩) (R2.length+1) cb)).alloc<|W #[G m,(I Q 0)] tL);refine⟨?_,WK w6 b 8 _ _ c3,v,?_,λy L w8 h8 t u a4=>?_⟩
   .rw[Wu w6 b 8 _ _ (0,0) c3,<-a3];rfl
   .have:=AD (w6.setCell ⟨b,8,O⟩<|K (J ⟨gb,0,O⟩) (R2.length+1) cb) (TV m) tL;exact aiQ
   have S:=ZX (m:=m) d3 rfl;have a3:=l.apL v q t a4 S;refine⟨_,_,a3,by rw[Ws,acg];omega,?_,λg e=>?_,ZY S (λx S=>l.rl.2.2 x S) u,P.trans<|b3.trans ?_,U5⟩
   .rw[Ve] at h8;exact h8
   .exact aio
   exact ahj
  go_wp2_with (at_builtin;first
   |(refine wpList_append_lies _ rfl (.tmp 28) (.tmp 30) 30 rfl 0 ed i0 (K O 0 0) 1 24 underlying30 d4 d5 d6 d7 rfl A (K a9 R2.length z9) R2.length (R2.map (·.1)) rfl f3 ⟨wr.heap.size,0,O⟩ 1 1 [K a1 (n+j) a0] rfl rfl f4 alv A (by unfold maxLen;omega) A A (wr.heap.size+1) f5 ?_;intro ga ca w3 h3 a2 b0 a8;obtain⟨q9,f6,x9,f7,S,a3⟩:=c1 ga ca w3 a2;have b3:=S;have b4:=a3;have b6:=λgb cb w6=>c2 ga ca gb cb w3 w6 h3 a2 b0;clear h3 a2 b0 a8 c9 f9 S a3)
   |(refine wpList_append_lies _ rfl (.tmp 38) (.tmp 40) 29 rfl 0 9 j0 (G ⟨#[]⟩) 1 16 underlying29 d8 d9 e4 e5 rfl A (K a5 R2.length a6) R2.length _ rfl b3 ⟨w3.heap.size,0,O⟩ 1 1 [G m] rfl rfl b4 alv A (by unfold maxLen;omega) A A (w3.heap.size+1) (by rw[WP,Ia]) ?_;intro gb cb w6 h6 b1 b2 a2;obtain⟨c7,d0,a3,a5,S⟩:=b6 gb cb w6 h6 b1 b2;have a6:=a3;have a8:=a5;have b7:=S;clear h6 b1 b2 a2 a3 a5 S q9 f6 x9 f7)
   |(refine Jv rfl (.tmp 44) (.tmp 47) 57 rfl tL t0 (.agg #[G ⟨#[]⟩,I Q 0]) 2 24 underlying57 e6 e7 e8 f2 rfl A (K a1 (n+j) a0) (n+j) _ rfl a6 ⟨w6.heap.size,0,O⟩ 1 1 (TV m) rfl rfl a8 (by intro a7 hu;simp[TV] at hu;rcases hu with rfl|rfl<;>rfl) A (by unfold maxLen;omega) A ?_;intro y L w8 h8 t u a4;have HX:=b7 y L w8 h8 t u a4;clear h8 t u a4 c7 d0))
  exact aiy
 exact ahD
def oU:(prog.info? 35).map (λi=>(i.zero,i.size,i.bytes))=J (J (.agg #[G ⟨#[]⟩,ζ ι,G ⟨#[]⟩]),3,40):=B
def MQ(T:E BF):E M:=T.flatMap λe=>[G e.nm,ζ e.ln,G e.dt]
def Vg(e:BF)(T:E BF):MQ (e::T)=G e.nm:: ζ e.ln:: G e.dt::MQ T:=rfl
def SP:∀T:E BF,(MQ T).length=T.length*3
 |[]=>rfl
 |e::T=>by rw[Vg];simp only[wu,SP T];omega
def oV(T:E BF):∀u∈MQ T,u.oneCell'=true:=by
 intro u a;obtain⟨_,_,h⟩:=adu.1 a;simp at h;rcases h with rfl|rfl|rfl<;>rfl
def SQ:∀(T:E BF) (i:N),i<T.length->(MQ T)[i*3]? =J (G (T.getD i AC).nm)/\(MQ T)[i*3+1]? =J (ζ (T.getD i AC).ln)/\(MQ T)[i*3+2]? =J (G (T.getD i AC).dt)
 |[],i,h=>by simp at h
 |e::T,0,_=>⟨rfl,rfl,rfl⟩
 |e::T,i+1,h=>by
  have a:=SQ T i akW;rw[Vg,show(i+1)*3=i*3+1+1+1 by omega];exact a
def SR(J0:φ M)(T:E BF):Prop:= ∀i,i<T.length->J0[i*3]? =J (G (T.getD i AC).nm)/\J0[i*3+1]? =J (ζ (T.getD i AC).ln)/\J0[i*3+2]? =J (G (T.getD i AC).dt)
def SR.ents{a:φ M}{T:E BF}(h:SR a T)(b:w.heap[g]? =J (W a tE (0,0))):FM w g T:=λi a=>by
 obtain⟨c,d,e⟩:=h i a;rw[Wu w g _ _ _ (0,0) b,Wu w g _ _ _ (0,0) b,Wu w g _ _ _ (0,0) b];exact⟨(Wt.1 b).1,c,d,e⟩
def SR.left{a:φ M}{T U:E BF}(h:SR a<|T++U):SR a T:=λi hi=>ajj
def en:∀(T:E BF) (a:Addr),DM w a T-> ∀j u,(MQ T)[j]? =J u->w.cell? (a.add j)=J u:=by
 intro T a h j u hj;have:j<T.length*3:=by rw[<-SP];exact(wW.1 hj).1
 obtain⟨i,r,rfl,hr⟩:∃i r,j=i*3+r/\r<3:=⟨j/3,j%3,A,A⟩;have b:i<T.length:=A;obtain⟨f,g,k⟩:=h i b;obtain⟨c,d,e⟩:=SQ T i b
 match r,hr,hj with
 |0,_,hj=>rw[aaw] at hj ⊢;rw[hj] at c;rw[c];exact f
 |1,_,hj=>rw[hj] at d;rw[d,<-aby,abp];exact g
 |2,_,hj=>rw[hj] at e;rw[e,<-aby,abp];exact k
abbrev Kk:Y:=⟨#[98,101,104,105,110,100]⟩
abbrev Me:Y:=⟨#[102,97,114,32,98,101,104,105,110,100]⟩
abbrev SS:BF:=⟨Kk,ι,⟨#[]⟩⟩
abbrev ST:BF:=⟨Me,ι,⟨#[]⟩⟩
def Ow(n q:N)(h:q<n):(madeCells #[G ⟨#[]⟩,ζ ι,G ⟨#[]⟩] n)[q]? =J (#[(G ⟨#[]⟩:M),ζ ι,G ⟨#[]⟩][q%3]!):=by
 simp[madeCells,h]
def TW{b:φ M}{T:E BF}{a:Addr}(f:w.heap[g]? =J (W b tE (0,0)))(j:DM w a T)(k:T.length<=n)(o:T.length*3<=b.size)(l:ν):
 ∃w' c,(Builtin.copy_ #[36,36] l #[K (J ⟨g,0,O⟩) n c1,K (J a) T.length c2]).run F w=.ok (goInt (T.length:Z)) w'/\w'.heap[g]? =J (W c tE (0,0))/\c.size=b.size/\(∀q,q<T.length*3->c[q]? =(MQ T)[q]?)/\(∀q,T.length*3<=q->c[q]? =b[q]?)/\Ag (λi=>i=g) w w':=by
 obtain⟨i,m,_,e,_⟩:=wi oU;have c:Nat.min T.length n=T.length:=abu k;have Z1:=SP T;have h:=aca (P:=F) w a (MQ T)<|en T a j;have d:=adk F g 0 tE (MQ T) 0 b w f A<|oV T;rw[Z1] at h;refine⟨_,(b.toList.take (0+0)++MQ T++b.toList.drop (0+0+(MQ T).length)).toArray,?_,aaa w g b _ tE _ f,?_,λq hq=>?_,λq hq=>?_,⟨rfl,rfl,rfl,by simp[World.setRow],λj _ b=>ade w g j _ b⟩⟩
 .simp[Builtin.copy_,aaf underlying36,Builtin.lenOf,Builtin.firstCells,sizeOf,typeInfo,m,e,h,c];simp at d;simp[d]
 .exact ajG
 .rw[aaP,aaw,abo,aan,WW A]
 exact ajk
def PI{ops:φ Oper}{rest:E Oper}{o:Oper}{e:Act}{Q:Exit->Act->U->Prop}(c:o.guard=O)(d s:Operand)(ho:o.op=.call {callee:=.builtin .copy,args:= #[d,s],argTypes:= #[36,36]})
 {T:E BF}{a:Addr}(hd:e.eval d=.slice (J ⟨g,0,O⟩) n c1)(hs:e.eval s=.slice (J a) T.length c2)(m:w.heap[g]? =J (W h tE (0,0)))(p:DM w a T)(r:T.length<=n)(j:T.length*3<=h.size)
 (k:∀w' f,w'.heap[g]? =J (W f tE (0,0))->f.size=h.size->(∀q,q<T.length*3->f[q]? =(MQ T)[q]?)->(∀q,T.length*3<=q->f[q]? =h[q]?)->Ag (λi=>i=g) w w'->wpList F ops Q rest (e.put o.dst<|goInt (T.length:Z)) w'):wpList F ops Q (o::rest) e w:=by
 obtain⟨w',f,b,h1,h2,h3,h4,h5⟩:=TW (n:=n) (c1:=c1) (c2:=c2) m p r j o.type;exact agE
