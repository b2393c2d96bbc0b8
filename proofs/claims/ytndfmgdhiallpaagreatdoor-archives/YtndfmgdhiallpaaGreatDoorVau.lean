import Derived.Test.YtndfmgdhiallpaaGreatDoorVat
import Derived.Maps.RangeWalk
set_option linter.all false
set_option maxRecDepth 100000
set_option maxHeartbeats 2000000
open _root_ renaming Option.some->J,Option.none->O,Int->Z,Nat->N,Go.Value.int->I,Go.Value.string->G,Go.IntKind.i64->Q,ByteArray->Y,List->E,Go.World->U,Go.Value.slice->K,Go.Value->β,Go.Obj.cells->γ,Go.Value.pointer->δ,Go.Ending.returned->ε,Go.Value.bool->ζ,Bool.true->θ,Bool.false->ι,Go.Calls->μ,Go.TypeId->ν,Go.RowKit.Hid->χ,Go.Proofs.Tryz.prog->ψ,Decidable.decide->Γ
namespace Go.Proofs.YtndfmgdhiallpaaGreatDoor
open Go.RowKit Go.Maps Go.Proofs.Tryz
def ML:(prog.info? 9).map (λi=>(i.zero,i.size,i.bytes))=J (J (G ⟨#[]⟩),1,16):=Ab
def AB(wr:U)(a:E β)(e:ν): ∀j u,a[j]? =J u->(wr.alloc (γ a.toArray e)).cell? ((⟨wr.heap.size,0,O⟩:Addr).add j)=J u:=aaJ
abbrev jT:ν:=120
abbrev qM:ν:=277
def nh(w:U):(zeroValue qM).run ψ w=.ok (.agg #[G ⟨#[]⟩,ζ ι]) w:=Ab
def Fj(w0 w:U)(v:β)(l:E Y):Prop:= ∃ao cap,v=K ao l.length cap/\w.ownsRow 0 9 1 v l.length (l.map Value.string)/\∀b,v.ownBlock=J b->w0.heap.size<=b
def Fj.old{w0 w w' :U}{v:β}{l:E Y}(h:Fj w0 w v l)(c:Al w w'):Fj w0 w' v l:=by
 obtain⟨ao,cap,e,a,b⟩:=h;exact⟨ao,cap,e,CL a c,b⟩
def Fj.kept{w0 w w' :U}{v:β}{l:E Y}{S:N->Prop}(h:Fj w0 w v l)(f:Ag S w w')(d: ∀b,w0.heap.size<=b->¬S b):Fj w0 w' v l:=by
 obtain⟨ao,cap,e,a,c⟩:=h;exact⟨ao,cap,e,Co a f (λb g x=>d b (c b g) x),c⟩
def Fj.cell{w0 w:U}{v:β}{l:E Y}(h:Fj w0 w v l)(i:N)(o:i<l.length): ∃g cap,v=K (J ⟨g,0,O⟩) l.length cap/\w.cell? ⟨g,i,O⟩=J (G l[i])/\g<w.heap.size/\w0.heap.size<=g:=by
 obtain⟨ao,cap,e,d,n⟩:=h;obtain⟨p,h|⟨b,f,c,k,m,j,r⟩⟩:=d
 .obtain ⟨_,h0⟩:=h;omega
 rw[e] at k;injection k with hv1 hv2 hv3;subst hv1 hv3;have a:w.ownsRow 0 9 1 v l.length (l.map Value.string):=⟨p,.inr ⟨b,cap,c,e,m,j,r⟩⟩;refine⟨b,cap,e, ?_,(qW.1 j).1,n b (by rw[e];rfl)⟩;have:=a.cells (g:=b) (by rw[e];rfl) i (G l[i]) (by simp[o]);exact aag
def Fj.more{w0 w w3:U}{v:β}{l:E Y}{x:Y}{g cap:N}(h:Fj w0 w v l)(d:Al w0 w)(i:w3.ownsRow 0 9 1 (K (J ⟨g,0,O⟩) (l.length+1) cap) (l.length+1) (l.map Value.string++[G x]))(j:(w.alloc (γ #[G x] 9)).grownBy w3 v.ownBlock)(m:v.ownBlock=J g\/g=w.heap.size+1):
 Fj w0 w3 (K (J ⟨g,0,O⟩) (l.length+1) cap) (l++[x])/\Al w0 w3:=by
 obtain⟨ao,a,e,n,c⟩:=h;refine⟨⟨J ⟨g,0,O⟩,cap,Ad,by simpa using i,λb o=> ?_⟩, ?_⟩
 .have:g=b:=rD (show J g=J b from o);subst this;rcases m with h|h
  .exact c g h
  rw[h];have:=d.size;omega
 exact(d.alloc _).grown j (λk p f=>by have:=c k f;omega)
def IV(s:Y)(n:N):E Y:=((List.range n).filter (λi=>As s i==47)).map (λi=>s.extract 0 i)
def LS(s:Y)(i:N)(h:As s i=47):IV s (i+1)=IV s i++[s.extract 0 i]:=by
 simp[IV,tA,tK,h]
def Ks(s:Y)(i:N)(h:As s i≠47):IV s (i+1)=IV s i:=by
 simp[IV,tA,tK,h]
def Pf(s:Y)(n:N):(IV s n).length<=n:=by
 have:=vA (λi=>As s i==47) (List.range n);simp only[uS] at this;simpa [IV] using this
def Ec(s:Y):E Y:=IV s s.size++[s]
def Uz(s:Y):(Ec s).length<=s.size+1:=by have:=Pf s s.size;simp[Ec];omega
def eT(s:Y)(hs:s.size<=1000)(w:U):μ ψ 312 #[G s] w λr w' => ∃v,r=ε v/\Fj w w' v (IV s s.size)/\Al w w' :=by
 obtain⟨i0,y,D,F,H⟩:=rN ML;have M:χ (Fj w w (K O 0 0) (IV s 0)):=⟨O,0,rfl,rF w 0 9 1,λb h=>by cases h⟩;have c:=Af (Ag.refl (λ_=>False) w);go_in;go_wp2;go_loopw [3,4,7] (λu _ x wr=> ∃i:N,i<=s.size/\x=I Q i/\χ (Fj w wr u (IV s i))/\χ (Al w wr)) (λ_ _ x _=>s.size- (intOf x).toNat)
 .exact ⟨0,Aa,rfl,M,c⟩
 obtain⟨i,hi,rfl,n,c⟩:=hrel;clear M;by_cases B:i<s.size
 .have j:(i:Z)<(s.size:Z):=Aa;have X:=AC (s:=s) (k:=i) B;have a0:=Bf s i;by_cases a:As s i=47
  .have a2: ∀W,(Instr.slice 9 (G s) O (J (I Q (i:Z))) O).run ψ W=.ok (G (s.extract 0 i)) W:=λW=>tz W 9 s underlying9 .i64 i Aa Aa
   have p:=Af (LS s i a);have a1:=Pf s i;rw[a] at X;have o:=Af (λw3 g cap=>Fj.more (w3:=w3) (x:=s.extract 0 i) (g:=g) (cap:=cap) (uh n) (uh c));obtain⟨ao,T,C,m,_⟩:=uh n;subst C;have t:=Af (CL m ((Ag.refl (λ_=>False) wr).alloc (γ #[G (s.extract 0 i)] 9)));have q:=Af (AB wr [G (s.extract 0 i)] 9);clear m;generalize s.extract 0 i=z at*;generalize IV s i=L at*;go_wp2_with (at_builtin;refine wpList_append_lies _ rfl (.tmp 14) (.tmp 18) 45 rfl 0 9 i0 (G ⟨#[]⟩) 1 16 underlying45 y D F H rfl Aa (K ao L.length T) L.length _ rfl (uh t) ⟨wr.heap.size,0,O⟩ 1 1 [G z] rfl rfl (uh q) (by intro u S;simp at S;subst S;rfl) Aa (by unfold maxLen;omega) Aa Aa (wr.heap.size+1) Ad ?_;intro V cap2 w3 l d e f;have P:=Af (o w3 V cap2 l d e);clear l d e f);go_roundw
   .exact ⟨i+1,Aa,by go_num,by rw[uh p];exact P.1,P.2⟩
   exact Ae
  have p:=Af (Ks s i a);have R:¬((As s i:Z)=47):=Aa;go_wp2;go_roundw
  .exact ⟨i+1,Aa,by go_num,by rw[uh p];exact n,c⟩
  exact Ae
 have j:¬(i:Z)<(s.size:Z):=Aa;have A:i=s.size:=Aa;subst A;go_wp2;go_ret;exact⟨_,rfl,n,c⟩
def Nv(s:Y)(D:s.size<=1000)(w:U):μ ψ 249 #[G s] w λr w' => ∃v,r=ε v/\Fj w w' v (Ec s)/\Al w w' :=by
 obtain⟨F,k,m,n,o⟩:=rN ML;have C:=Pf s s.size;have z:χ (Ec s=IV s s.size++[s]):=rfl;go_in;go_wp2_with fail;refine(eT s D w).mono ?_;rintro e w1 ⟨H,rfl,t,q⟩;have h:=Af (λw3 g cap=>Fj.more (w3:=w3) (x:=s) (g:=g) (cap:=cap) t q);obtain⟨ao,A,l,f,_⟩:=t;subst l;have j:=Af (CL f ((Ag.refl (λ_=>False) w1).alloc (γ #[G s] 9)));have i:=Af (AB w1 [G s] 9);clear f q;generalize IV s s.size=L at*;go_wp2_with (at_builtin;refine wpList_append_lies _ rfl (.tmp 4) (.tmp 6) 45 rfl 0 9 F (G ⟨#[]⟩) 1 16 underlying45 k m n o rfl Aa (K ao L.length A) L.length _ rfl (uh j) ⟨w1.heap.size,0,O⟩ 1 1 [G s] rfl rfl (uh i) (by intro u y;simp at y;subst y;rfl) Aa (by unfold maxLen;omega) Aa Aa (w1.heap.size+1) Ad ?_;intro B cap2 w3 d a b c;have p:=Af (h w3 B cap2 d a b);clear d a b c);go_ret;exact⟨_,rfl,by rw[uh z];exact p.1,p.2⟩
def Pg:β->Option (DataW Unit×E MemPlace)
 | .agg a=>match a.toList with
  |[G s,ζ b]=>J (.agg [.lit (.string s.data.toList),.lit (.bool b)],[])
  |_=>O
 |_=>O
abbrev qr(s:Y)(b:Bool):DataW Unit:=.agg [.lit (.string s.data.toList),.lit (.bool b)]
def Re(s:Y)(b:Bool):Pg (.agg #[G s,ζ b])=J (qr s b,[]):=rfl
def Ph{v:β}{s:Y}{b:Bool}{f:E MemPlace}(h:Pg v=J (qr s b,f)):v=.agg #[G s,ζ b]:=by
 unfold Pg at h;split at h
 .rename_i a;split at h
  .rename_i s' b' ha;simp only[yg,uu,DataW.agg.injEq,yC,vU,Lit.string.injEq,Lit.bool.injEq] at h;obtain⟨⟨d,e,_⟩,_⟩:=h;have c:s' =s:=sX (uG.1 d);subst c e;have:a= #[G s',ζ b']:=by rw[<-uG,ha]
   rw[this]
  cases h
 cases h
abbrev Gp:=Y->Option (Y×Bool)
def SB(f:Gp)(k:Y)(x:Y×Bool):Gp:=λr=>if r=k then J x else f r
def Cc(w:U)(gm n:N)(f:Gp):Prop:= ∃D:DataW Unit,w.ownsMap ψ 9 Pg gm n D/\∀r:Y,has D (.string r.data.toList)=(f r).isSome/\∀x,f r=J x-> ∀z,D.atKey (.string r.data.toList) z=qr x.1 x.2
def Cc.lt{w:U}{gm n:N}{f:Gp}(h:Cc w gm n f):gm<w.heap.size:=by obtain⟨D,h,_⟩:=h;exact h.lt
def Cc.kept{w w' :U}{gm n:N}{f:Gp}{S:N->Prop}(h:Cc w gm n f)(ho:Ag S w w')(hs:¬S gm):Cc w' gm n f:=wu
def Cc.old{w w' :U}{gm n:N}{f:Gp}(h:Cc w gm n f)(a:Al w w'):Cc w' gm n f:=h.kept a (λx=>x)
def Cc.made(w:U):Cc (w.alloc (.map #[] 0)) w.heap.size 0 (λ_=>O):=
 ⟨_,vX w ψ 9 Pg,λ_=>⟨rfl,λ_ h=>by cases h⟩⟩
def Cc.mono{w:U}{gm n m:N}{f:Gp}(h:Cc w gm n f)(c:n<=m):Cc w gm m f:=by
 obtain⟨D,a,b⟩:=h;exact⟨D,a.mono c,b⟩
def Cc.look{w:U}{gm n:N}{f:Gp}(h:Cc w gm n f)(r:Y)(i:r.size<=maxLen):(Instr.lookup jT (.map (J gm)) (G r) θ).run ψ w=.ok (.tuple #[.agg #[G ((f r).getD (⟨#[]⟩,ι)).1,ζ ((f r).getD (⟨#[]⟩,ι)).2],ζ (f r).isSome]) w:=by
 obtain⟨D,e,g⟩:=h;obtain⟨v,j,a,d⟩:=e.look_ok Dl underlying120 (nh w) (Re ⟨#[]⟩ ι) (Qh r i);have b:=g r;cases hf:f r with
 |none=>
  rw[hf] at b;have c:has D (.string r.data.toList)=false:=b.1;rw[atKey_of_not_has c] at d;rw[a,c,Ph d]
  rfl
 |some x=>
  rw[hf] at b;have c:has D (.string r.data.toList)=true:=b.1;rw[b.2 x rfl] at d;rw[a,c,Ph d]
  rfl
def Cc.put{w:U}{gm n:N}{f:Gp}(h:Cc w gm n f)(r:Y)(o:r.size<=maxLen)(m:n<maxLen)(s:Y)(b:Bool): ∃w',(Instr.mapUpdate jT (.map (J gm)) (G r) (.agg #[G s,ζ b])).run ψ w=.ok () w' /\Cc w' gm (n+1) (SB f r (s,b))/\Ag (λk=>k=gm) w w' :=by
 obtain⟨D,i,l⟩:=h;obtain⟨w2,d,a,j⟩:=i.update Dl underlying120 m (Qh r o) (Re s b);refine⟨w2,d,⟨_,a,λq=> ?_⟩,(Ag.refl _ w).grown j (λk _ e=>(rD e).symm)⟩;unfold SB;by_cases e:q=r
 .subst e;rw[rd rfl,yt i.isMap (Xg _)];refine⟨rfl,λx g z=> ?_⟩;rw[yF i.isMap (Xg _)];injection g with g;subst g;rfl
 have c:=Mz (show q≠r from e);rw[rc e,xX c];refine⟨(l q).1,λx g z=> ?_⟩;rw[yB c];exact(l q).2 x g z
def Gb(f:Gp)(s b:Y):Bool:=(f (AO b)).isSome&&(Γ (((f (AO b)).getD (⟨#[]⟩,ι)).1≠b)||((f (AO b)).getD (⟨#[]⟩,ι)).2||decide (b=s))
def CT(f:Gp)(s:Y):Bool:=(Ec s).any (Gb f s)
def GR(f:Gp)(s:Y):Gp:=(Ec s).foldl (λf b=>SB f (AO b) (b,Γ (b=s))) f
abbrev Ez:Y:=⟨#[103,111,46,109,111,100]⟩
abbrev eU:Y:=⟨#[76,73,67,69,78,83,69]⟩
def Qd(a b:Y):(a.toList==b.toList)=Γ (a=b):=by
 rw[Lib.toList_data b];exact EF a _
def Fe(s:Y)(a b:N):(s.extract a b).size<=s.size:=by rw[rv];omega
def MM(a:Y): ∀(k:N) (s x:Y),x∈Lib.splitB a 0 k s->x.size<=s.size
 |0,s,x,h=>by
  rw[Lib.splitB_zero] at h;rw[rC] at h;subst h;exact rj _
 |k+1,s,x,h=>by
  unfold Lib.splitB at h;split at h
  .rw[rC] at h;subst h;exact rj _
  rcases sW.1 h with h|h
  .subst h;exact Fe _ _ _
  exact rz (MM a k _ x h) (Fe _ _ _)
def Rf{s x:Y}(h:x∈BJ s):x.size<=s.size:=MM _ _ _ _ h
def XM(s:Y)(c:s.size<=2000000)(w:U)(a:Cb w):μ ψ 103 #[G s,G ⟨#[47]⟩] w λr w' =>r=ε (K (J ⟨w.heap.size,0,O⟩) (BJ s).length (BJ s).length)/\Al w w' /\w.heap.size<w'.heap.size/\∀i (h:i<(BJ s).length),w'.cell? ⟨w.heap.size,i,O⟩=J (G (BJ s)[i]):=by
 obtain⟨m,a⟩:=a;refine(strings_Split s ⟨#[47]⟩ m w Aa a Ac).mono ?_;rintro e w' ⟨rfl,rfl⟩;refine⟨by rw[Fw],(Ag.refl _ w).alloc _,by rw[rr];omega,λi b=> ?_⟩;rw[qV _ _ i _ _ (0,0) (rh _ _)];have:((BJ s).map Value.string).toArray[i]? =J (G (BJ s)[i]):=by simp[b]
 exact this
def SC(s:Y)(P:s.size<=140737488355328)(w:U)(t:Cb w):μ ψ 93 #[G s] w λr w' =>r=ε (ζ (CK s))/\Al w w' :=by
 by_cases f:s.size<=80
 .have k:¬(80:Z)<(s.size:Z):=Aa;have v:=Af (XM s Aa w t);have o:=Af t;have y:χ (CK s=(BJ s).all KS):=by unfold χ;rw[CK,qZ f,tj]
  have H:(BJ s).length<=100:=ws;have D:χ (∀x∈BJ s,x.size<=100000):=λx hx=>by have:=Rf hx;omega
  generalize CK s=ans at*;generalize BJ s=L at*;clear t;go_in;go_wp2_with fail;refine v.mono ?_;rintro e W ⟨rfl,u,m,B⟩;have A:=Af u;have C:=Af B;have o:=Af (o.old u);have n:=Af m;clear u B m v;generalize w.heap.size=g at*;go_wp2;go_loopw [4,11] (λ_ x wr=> ∃i:N,i<=L.length/\x=I Q i/\χ (Al W wr)/\χ (∀j (h:j<L.length),j<i->KS L[j]=θ)) (λ_ x _=>L.length- (intOf x).toNat)
  .exact ⟨0,Aa,rfl,Ag.refl _ _,λj _ h=>Aa⟩
  obtain⟨i,M,rfl,c,HT⟩:=hrel;by_cases hil:i<L.length
  .have l:(i:Z)<(L.length:Z):=Aa;have F:wr.cell? ⟨g,i,O⟩=J (G L[i]):=(c.cell (p:=⟨g,i,O⟩) (uh n) (λx=>x)).trans (C i hil);have d:=Af (eS L[i] (D _ (ro hil)) wr (o.old (uh c)));cases hel:KS L[i] with
   |true=>
    rw[hel] at d;have q :χ (∀j (h:j<L.length),j<i+1->KS L[j]=θ):=Hh;clear hel;generalize L[i]=z at*;go_wp2_with fail;refine d.mono ?_;rintro e w' ⟨rfl,b⟩;have a :=Af (Ag.trans (uh c) b);clear b d c;go_wp2;go_roundw
    .exact ⟨i+1,Aa,by go_num,a,q⟩
    exact Ae
   |false=>
    rw[hel] at d;have hans:ans=false:=by
     rw[uh y,tG];exact Wv
    subst hans;clear hel;generalize L[i]=z at*;go_wp2_with fail;refine d.mono ?_;rintro e w' ⟨rfl,b⟩;have a :=Af (Ag.trans (uh A) (Ag.trans (uh c) b));clear b d c;go_wp2;go_ret;exact⟨rfl,a⟩
  have l:¬(i:Z)<(L.length:Z):=Aa;have hans:ans=true:=by
   rw[uh y,rV];exact Ho
  subst hans;have a :=Af (Ag.trans (uh A) (uh c));go_wp2;go_ret;exact⟨rfl,a⟩
 have k:(80:Z)<(s.size:Z):=Aa;have hans:CK s=false:=by rw[CK,qX f,xe]
 exact abY
def MN(s:Y)(g:s.size<=140737488355328)(w:U):μ ψ 155 #[G s] w λr w' =>r=ε (ζ (Γ (s≠Ez)&&Γ (AO s=Ez)))/\Al w w' :=by
 have f:(s.toList==[103,111,46,109,111,100])=Γ (s=Ez):=EF s _;by_cases h:s=Ez
 .rw[qZ h] at f;have a:(Γ (s≠Ez)&&Γ (AO s=Ez))=false:=by rw[qX (λx=>x h)];rfl
  rw[a];clear a h;go_in;exact zI
 rw[qX h] at f;have a:(Γ (s≠Ez)&&Γ (AO s=Ez))=Γ (AO s=Ez):=by rw[qZ h];rfl
 rw[a];have i:((AO s).toList==[103,111,46,109,111,100])=Γ (AO s=Ez):=EF (AO s) _;have d:=Af (SA s g w);generalize Γ (AO s=Ez)=b at*;generalize AO s=y at*;clear a h;go_in;go_wp2_with fail;refine d.mono ?_;rintro e w1 ⟨rfl,c⟩;have HO:=Af c;clear c d;exact zj
def Bu(s:Y):N:=if s=Ez\/s=eU then 500 else 4000
def UA(s:Y)(w:U):μ ψ 156 #[G s] w λr w' =>r=ε (I Q (Bu s))/\w' =w:=by
 have e:(s.toList==[103,111,46,109,111,100])=Γ (s=Ez):=EF s _;have d:(s.toList==[76,73,67,69,78,83,69])=Γ (s=eU):=EF s _;by_cases b:s=Ez
 .rw[qZ b] at e;have a:Bu s=500:=rd (.inl b);rw[a];clear a b d;go_in;exact yU
 rw[qX b] at e;by_cases c:s=eU
 .rw[qZ c] at d;have a:Bu s=500:=rd (.inr c);rw[a];clear a b c;go_in;exact yU
 rw[qX c] at d;have a:Bu s=4000:=rc (λh=>h.elim b c);rw[a];clear a b c;go_in;exact yU
def GS(s:Y)(hs:s.size<=1000)(gm n:N)(f:Gp)(w:U)(H:Cc w gm n f):μ ψ 154 #[.map (J gm),G s] w λr w' =>r=ε (ζ (CT f s))/\Al w w' :=by
 have M:=Af H;have t:=Af (Nv s hs w);have A:χ (CT f s=(Ec s).any (Gb f s)):=rfl;have l:=Uz s;have u:χ (∀x∈Ec s,x.size<=1000):=λx hx=>wJ
 generalize CT f s=ans at*;generalize Ec s=L at*;have R:L.length<=1001:=Aa;clear H l;go_in;go_wp2_with fail;refine t.mono ?_;rintro e W ⟨v,rfl,F,D⟩;have P:=Af F;have HO:=Af D;obtain⟨ao,cap,X,_⟩:=F;subst X;clear D t;go_wp2;go_loopw [6,7,8,12] (λ_ _ _ x wr=> ∃i:N,i<=L.length/\x=I Q i/\χ (Al W wr)/\χ (∀j (h:j<L.length),j<i->Gb f s L[j]=ι)) (λ_ _ _ x _=>L.length- (intOf x).toNat)
 .exact ⟨0,Aa,rfl,Ag.refl _ _,λj _ h=>Aa⟩
 obtain⟨i,hi,rfl,HW,k⟩:=hrel;by_cases b:i<L.length
 .have c:(i:Z)<(L.length:Z):=Aa;obtain⟨g,cap2,q,m,S,_⟩:=(P.old (uh HW)).cell i b;injection q with hv3 hv4 hv5;subst hv3;clear hv5 hv4;have HSm:=Af (SA L[i] (by have:=u _ (ro b);omega) wr);have HLK:χ (∀d,Al wr d ->(Instr.lookup jT (.map (J gm)) (G (AO L[i])) θ).run ψ d =.ok (.tuple #[.agg #[G ((f (AO L[i])).getD (⟨#[]⟩,ι)).1,ζ ((f (AO L[i])).getD (⟨#[]⟩,ι)).2],ζ (f (AO L[i])).isSome]) d):=λd V=>by
   refine Cc.look ((M.old (uh HO)).old (Ag.trans (uh HW) V)) _ ?_;rw[GA];have:=u _ (ro b);unfold maxLen;omega
  have HCB:χ (Gb f s L[i]=((f (AO L[i])).isSome&&(Γ (((f (AO L[i])).getD (⟨#[]⟩,ι)).1≠L[i])||((f (AO L[i])).getD (⟨#[]⟩,ι)).2||decide (L[i]=s)))):=rfl;have HANY:χ (Gb f s L[i]=θ->ans=θ):=λh=>by
   rw[uh A,sc];exact⟨_,ro b,h⟩
  have HT' :χ (Gb f s L[i]=ι-> ∀j (h:j<L.length),j<i+1->Gb f s L[j]=ι):=λp j h h2=>by
   by_cases e:j=i
   .subst e;exact p
   exact k j h Aa
  clear k;generalize Gb f s L[i]=cb at*;generalize(f (AO L[i])).isSome=b1 at*;generalize((f (AO L[i])).getD (⟨#[]⟩,ι)).2=b2 at*;generalize((f (AO L[i])).getD (⟨#[]⟩,ι)).1=z1 at*;generalize AO L[i]=y at*;generalize L[i]=z at*;have B:(z1.toList==z.toList)=Γ (z1=z):=Qd z1 z;have C:(z.toList==s.toList)=Γ (z=s):=Qd z s;cases b1 with
  |false=>
   have HT' :=Af (HT' (by rw[uh HCB];rfl));clear HCB HANY;exact Hs
  |true=>
   by_cases hz:z1=z
   .rw[qZ hz] at B;have hne:Γ (z1≠z)=false:=qX (λh=>h hz);cases b2 with
    |true=>
     exact abV
    |false=>
     by_cases a:z=s
     .rw[qZ a] at C;have hans:ans=true:=HANY (by rw[uh HCB,hne,qZ a];rfl);subst hans;clear HCB HANY HT' hne hz a;exact zL
     rw[qX a] at C;have HT' :=Af (HT' (by rw[uh HCB,hne,qX a];rfl));clear HCB HANY hne hz a;exact Hs
   rw[qX hz] at B;have hne:Γ (z1≠z)=true:=qZ hz;exact abV
 have c:¬(i:Z)<(L.length:Z):=Aa;have hans:ans=false:=by
  rw[uh A,tn];intro x hx;obtain⟨j,T,rfl⟩:=sH hx;rw[k j T Aa];exact λh=>by cases h
 subst hans;go_wp2;go_ret;exact⟨rfl,Ag.trans (uh HO) (uh HW)⟩
def UB(f:Gp)(s:Y)(l:E Y)(i:N):Gp:=(l.take i).foldl (λf b=>SB f (AO b) (b,Γ (b=s))) f
def bp(f:Gp)(s:Y)(l:E Y)(i:N)(h:i<l.length):UB f s l (i+1)=SB (UB f s l i) (AO l[i]) (l[i],Γ (l[i]=s)):=by
 unfold UB;rw[tu,List.foldl_append,qY h];rfl
def pt(s:Y)(hs:s.size<=1000)(gm n:N)(hn:n<=1000000)(f:Gp)(w:U)(R:Cc w gm n f):μ ψ 157 #[.map (J gm),G s] w λr w' =>r=ε (.tuple #[])/\Ag (λk=>k=gm) w w' /\Cc w' gm (n+1001) (GR f s):=by
 have HG:=Af R;have V:=Af (Nv s hs w);have HD:χ (GR f s=UB f s (Ec s) (Ec s).length):=by unfold χ;rw[UB,sr];rfl
 have M:=Uz s;have X:χ (∀x∈Ec s,x.size<=1000):=λx hx=>wJ
 have B:=Af R.lt;generalize GR f s=ans at*;generalize Ec s=L at*;have a1:L.length<=1001:=Aa;clear R M;go_in;go_wp2_with fail;refine V.mono ?_;rintro e W ⟨v,rfl,hS,A⟩;have HS:=Af hS;have HO:=Af A;have l:χ (Cc W gm (n+0) (UB f s L 0)):=HG.old A;have C:χ (Ag (λk=>k=gm) w W):=Ag.oldS A;have o:=Af (Ag.refl (λk=>k=gm) W);obtain⟨ao,cap,hv,_⟩:=hS;subst hv;clear A V HG;go_wp2;go_loopw [5,9] (λ_ x wr=> ∃i:N,i<=L.length/\x=I Q i/\χ (Ag (λk=>k=gm) W wr)/\χ (Cc wr gm (n+i) (UB f s L i))) (λ_ x _=>L.length- (intOf x).toNat)
 .exact ⟨0,Aa,rfl,o,l⟩
 obtain⟨i,hi,rfl,F,D⟩:=hrel;clear l o;by_cases a:i<L.length
 .have t:(i:Z)<(L.length:Z):=Aa;obtain⟨g,cap2,T,P,a2,_⟩:=(HS.kept (uh F) (λb h e=>by have:=uh B;omega)).cell i a;injection T with hv3 hv4 hv5;subst hv3;clear hv5 hv4;have p:=Af (SA L[i] (by have:=X _ (ro a);omega) wr);have m:χ (∀u,Al wr u -> ∃j,(Instr.mapUpdate jT (.map (J gm)) (G (AO L[i])) (.agg #[G L[i],ζ (Γ (L[i]=s))])).run ψ u =.ok () j /\Cc j gm (n+(i+1)) (UB f s L (i+1))/\Ag (λk=>k=gm) u j):=λu ho=>by
   rw[bp f s L i a];exact Cc.put (D.old ho) (AO L[i]) (by rw[GA];have:=X _ (ro a);unfold maxLen;omega) (by unfold maxLen;omega) _ _
  have e2:(L[i].toList==s.toList)=Γ (L[i]=s):=Qd L[i] s;clear D;generalize Γ (L[i]=s)=b at*;generalize AO L[i]=y at*;generalize L[i]=z at*;go_wp2_with fail;refine p.mono ?_;rintro e w' ⟨rfl,d⟩;obtain⟨w2,a0,hM,q⟩:=m w' d;have c:=Af hM;have H:χ (Ag (λk=>k=gm) W w2):=(F.trans (Ag.oldS d)).trans q;clear d p m hM q;go_wp2;go_roundw
  .exact ⟨i+1,Aa,by go_num,H,c⟩
  exact Ae
 have t:¬(i:Z)<(L.length:Z):=Aa;have S:i=L.length:=Aa;subst S;have c:χ (Cc wr gm (n+1001) ans):=by rw[uh HD];exact D.mono Aa
 go_wp2_with fail;go_end0;exact⟨rfl,C.trans (uh F),c⟩
abbrev eV:Y:=⟨#[46,98,122,114]⟩
abbrev eW:Y:=⟨#[46,103,105,116]⟩
abbrev pu:Y:=⟨#[46,104,103]⟩
abbrev eX:Y:=⟨#[46,115,118,110]⟩
def EN(z:Y):Bool:=Γ (z=eV)||decide (z=eW)||decide (z=pu)||decide (z=eX)
def ni(z:Y)(w:U):μ ψ 248 #[G z] w λr w' =>r=ε (ζ (EN z))/\w' =w:=by
 have c:(z.toList==[46,98,122,114])=Γ (z=eV):=EF z _;have d:(z.toList==[46,103,105,116])=Γ (z=eW):=EF z _;have e:(z.toList==[46,104,103])=Γ (z=pu):=EF z _;have f:(z.toList==[46,115,118,110])=Γ (z=eX):=EF z _;have b:χ (EN z=(Γ (z=eV)||decide (z=eW)||decide (z=pu)||decide (z=eX))):=rfl;generalize EN z=ans at*;generalize Γ (z=eV)=b1 at*;generalize Γ (z=eW)=b2 at*;generalize Γ (z=pu)=b3 at*;generalize Γ (z=eX)=b4 at*;cases b1<;>cases b2<;>cases b3<;>cases b4<;>
 (first
  |(have a:ans=false:=by rw[uh b];rfl
    subst a)
  |(have a:ans=true:=by rw[uh b];rfl
    subst a))<;>
 (go_in
  go_wp2;go_ret;exact⟨rfl,rfl⟩)
abbrev eY:β:=.func (.func 248) #[] #[]
def nj(g n cap:N)(L:E Y)(y:n<=L.length)(t:n<=3000000)(w:U)(l: ∀i (h:i<L.length),w.cell? ⟨g,i,O⟩=J (G L[i])):μ ψ 311 #[K (J ⟨g,0,O⟩) n cap,eY] w λr w' => ∃k:Z,r=ε (I Q k)/\Γ (0<=k)=(L.take n).any EN/\w' =w:=by
 have m:=Af l;clear l;go_in;go_wp2_with fail;go_loop [5,8] (λ_ x=> ∃i:N,i<=n/\x=I Q i/\χ (∀j (h:j<L.length),j<i->EN L[j]=ι)) (λ_ x=>n- (intOf x).toNat)
 .exact Wk
 obtain⟨i,u,rfl,f⟩:=hrel;by_cases p:i<n
 .have b:(i:Z)<(n:Z):=Aa;have a:i<L.length:=Aa;have o:=m i a;have c:=Af (ni L[i] w);cases hk:EN L[i] with
  |true=>
   have d:χ (Γ ((0:Z)<=(i:Z))=(L.take n).any EN):=by
    unfold χ;rw[qZ Aa]
    symm
    rw[sc];exact⟨L[i],tw.2 ⟨i,Aa,rfl⟩,hk⟩
   rw[hk] at c;clear hk;generalize L[i]=z at*;go_wp2_with fail;refine c.mono ?_;rintro e w' ⟨rfl,rfl⟩;go_wp2;go_ret;exact⟨_,rfl,d,rfl⟩
  |false=>
   have HT' :χ (∀j (h:j<L.length),j<i+1->EN L[j]=ι):=λj h s=>by
    by_cases e:j=i
    .subst e;exact hk
    exact f j h Aa
   rw[hk] at c;clear hk;generalize L[i]=z at*;go_wp2_with fail;refine c.mono ?_;rintro e w' ⟨rfl,rfl⟩;exact Hf
 have b:¬(i:Z)<(n:Z):=Aa;have d:χ (Γ ((0:Z)<= -1)=(L.take n).any EN):=by
  unfold χ;rw[qX Aa]
  symm
  rw[tn];intro x q;obtain⟨j,v,rfl⟩:=tw.1 q;rw[f j Aa Aa];exact λh=>by cases h
 go_wp2;go_ret;exact⟨_,rfl,d,rfl⟩
def bq(g n cap:N)(L:E Y)(f:n<=L.length)(d:n<=3000000)(w:U)(a: ∀i (h:i<L.length),w.cell? ⟨g,i,O⟩=J (G L[i])):μ ψ 247 #[K (J ⟨g,0,O⟩) n cap,eY] w λr w' =>r=ε (ζ ((L.take n).any EN))/\w' =w:=by
 have c:=Af (nj g n cap L f d w a);generalize(L.take n).any EN=b at*;clear a;go_in;go_wp2_with fail;refine c.mono ?_;rintro e w' ⟨k,rfl,j,rfl⟩;exact yU
def UC(s:Y):Bool:=((BJ s).take ((BJ s).length- 1)).any EN
def jU(s:Y)(y:s.size<=2000000)(w:U)(l:Cb w):μ ψ 150 #[G s] w λr w' =>r=ε (ζ (UC s))/\Al w w' :=by
 have d:=Af (XM s y w l);have j:χ (UC s=((BJ s).take ((BJ s).length- 1)).any EN):=rfl;have x:(BJ s).length<=2000001:=ws;have v:1<=(BJ s).length:=by rw[Fw];omega
 generalize UC s=ans at*;generalize BJ s=L at*;obtain⟨m,a⟩: ∃m,L.length- 1=m:=⟨_,rfl⟩;rw[a] at j;have f:χ (∀g cap W,(∀i (h:i<L.length),W.cell? ⟨g,i,O⟩=J (G L[i]))->μ ψ 247 #[K (J ⟨g,0,O⟩) m cap,eY] W λr w' =>r=ε (ζ ans)/\w' =W):=λg cap W h=>by
  rw[uh j];exact bq g m cap L Aa Aa W h
 have q:(L.length:Z)- 1=(m:Z):=Aa;have n:(m:Z)<=(L.length:Z):=Aa;have p:(0:Z)<=(m:Z):=Aa;have z:((m:N):Z).toNat=m:=rO m;have t:m<=L.length:=Aa;have u:¬L.length=m:=Aa;clear l a;go_in;go_wp2_with fail;refine d.mono ?_;rintro e W ⟨rfl,o,c,k⟩;have HO:=Af o;have b:=Af (λcap=>f w.heap.size cap W k);clear o k c d f;generalize w.heap.size=g at*;go_wp2_with fail;refine(b _).mono ?_;rintro e A ⟨rfl,rfl⟩;exact zj
abbrev KD:Y:=⟨#[118,101,110,100,111,114,47]⟩
abbrev DG:Y:=⟨#[47,118,101,110,100,111,114,47]⟩
def XN(s:Y):Y×Bool:=if Lib.hasPrefix s.data.toList KD.data.toList then(⟨(Lib.trimPrefix s.data.toList KD.data.toList).toArray⟩,θ) else(⟨(Lib.cut s.data.toList DG.data.toList).2.1.toArray⟩,(Lib.cut s.data.toList DG.data.toList).2.2)
def UD(s:Y):Bool:=(XN s).2&&Γ (0<=Lib.indexByte (XN s).1.data.toList 47)
def br(s:Y)(k:s.size<=2000000)(w:U)(j:Cb w):μ ψ 152 #[G s] w λr w' =>r=ε (ζ (UD s))/\Al w w' :=by
 obtain⟨m,j⟩:=j;have f:=Af (strings_CutPrefix s KD w);have h:=Af (strings_Cut s DG m w Aa j);have g:=Af (λz W=>strings_Contains_one z 47 W);have i:χ (UD s=((XN s).2&&Γ (0<=Lib.indexByte (XN s).1.data.toList 47))):=rfl;have d:χ (XN s=if Lib.hasPrefix s.data.toList KD.data.toList then(⟨(Lib.trimPrefix s.data.toList KD.data.toList).toArray⟩,θ) else(⟨(Lib.cut s.data.toList DG.data.toList).2.1.toArray⟩,(Lib.cut s.data.toList DG.data.toList).2.2)):=rfl;generalize UD s=ans at*;generalize XN s=rs at*;clear j;cases hpf:Lib.hasPrefix s.data.toList KD.data.toList with
 |true=>
  rw[hpf] at f d;simp only[vi] at d;have a:ans=Γ (0<=Lib.indexByte (⟨(Lib.trimPrefix s.data.toList KD.data.toList).toArray⟩:Y).data.toList 47):=by rw[uh i,uh d];rfl
  rw[a];clear a i d h hpf;have g:=Af (g ⟨(Lib.trimPrefix s.data.toList KD.data.toList).toArray⟩ w);generalize(⟨(Lib.trimPrefix s.data.toList KD.data.toList).toArray⟩:Y)=z at*;generalize Γ (0<=Lib.indexByte z.data.toList 47)=b at*;go_in;go_wp2_with fail;refine f.mono ?_;rintro e w1 ⟨rfl,rfl⟩;go_wp2_with fail;refine g.mono ?_;rintro e w2 ⟨rfl,rfl⟩;exact zI
 |false=>
  rw[hpf] at f d;simp only[tx,uw] at d;have a:ans=((Lib.cut s.data.toList DG.data.toList).2.2&&Γ (0<=Lib.indexByte (⟨(Lib.cut s.data.toList DG.data.toList).2.1.toArray⟩:Y).data.toList 47)):=by rw[uh i,uh d]
  rw[a];clear a i d hpf;have g:=Af (λW=>g ⟨(Lib.cut s.data.toList DG.data.toList).2.1.toArray⟩ W);generalize(⟨(Lib.cut s.data.toList DG.data.toList).2.1.toArray⟩:Y)=z at*;generalize Γ (0<=Lib.indexByte z.data.toList 47)=b at*;generalize(Lib.cut s.data.toList DG.data.toList).2.2=c at*;generalize(⟨(Lib.cut s.data.toList DG.data.toList).1.toArray⟩:Y)=z1 at*;generalize(⟨(Lib.trimPrefix s.data.toList KD.data.toList).toArray⟩:Y)=z2 at*;cases c with
  |true=>
   go_in;go_wp2_with fail;refine f.mono ?_;rintro e w1 ⟨rfl,rfl⟩;go_wp2_with fail;refine h.mono ?_;rintro e w2 ⟨rfl,n,rfl⟩;clear f h;go_wp2_with fail;refine(g _).mono ?_;rintro e w3 ⟨rfl,rfl⟩;go_wp2;go_ret;exact⟨by rw[tj];rfl,(Ag.refl _ _).drewN n⟩
  |false=>
   go_in;go_wp2_with fail;refine f.mono ?_;rintro e w1 ⟨rfl,rfl⟩;go_wp2_with fail;refine h.mono ?_;rintro e w2 ⟨rfl,n,rfl⟩;clear f h;go_wp2;go_ret;exact⟨rfl,(Ag.refl _ _).drewN n⟩
abbrev qN:ν:=117
def MO(s:Y)(d:s.size<=281474976710656)(w:U):μ ψ 80 #[G s] w λr w' =>r=ε (G s)/\Al w w' :=by
 have b:=Af (stringslite_Clone s w d);go_in;go_wp2_with fail;refine b.mono ?_;rintro e w1 ⟨rfl,a⟩;have HO:χ (Al w w1):=⟨a.os,a.tape,a.output,a.size,λk c _=>a.block k c⟩;clear a b;exact zj
structure Bw where
 nm:Y
 ln:Bool
 dt:Y
abbrev Bw.v(e:Bw):Array β:= #[G e.nm,ζ e.ln,G e.dt]
abbrev AA:Bw:=⟨⟨#[]⟩,ι,⟨#[]⟩⟩
def EJ(w:U)(gt:N)(T:E Bw):Prop:= ∀i,i<T.length->gt<w.heap.size/\w.cell? ⟨gt,i*3,O⟩=J (G (T.getD i AA).nm)/\w.cell? ⟨gt,i*3+1,O⟩=J (ζ (T.getD i AA).ln)/\w.cell? ⟨gt,i*3+2,O⟩=J (G (T.getD i AA).dt)
def EJ.kept{S:N->Prop}{w w' :U}{a:N}{T:E Bw}(h:EJ w a T)(b:Ag S w w')(c:¬S a):EJ w' a T:=λi g=>by
 obtain⟨h0,d,e,f⟩:=h i g;exact⟨rW h0 b.size,(b.cell (p:=⟨a,i*3,O⟩) h0 c).trans d,(b.cell (p:=⟨a,i*3+1,O⟩) h0 c).trans e,(b.cell (p:=⟨a,i*3+2,O⟩) h0 c).trans f⟩
def EJ.old{w w' :U}{a:N}{T:E Bw}(h:EJ w a T)(b:Al w w'):EJ w' a T:=h.kept b (λx=>x)
def SD(L:E Y)(r:Y):Bool:=L.any (λx=>Γ (x=r))
def Rg(L:E Y)(r q:Y):SD (L++[r]) q=(SD L q||decide (r=q)):=by simp[SD,List.any_append]
def UE{L:E Y}{r:Y}:SD L r=θ↔r∈L:=by simp[SD]
def Fx(w:U)(gm n:N)(L:E Y):Prop:=(∀x∈L,x.size<=maxLen)/\∃D:DataW Unit,w.ownsMap ψ 9 unitElem gm n D/\∀r:Y,has D (.string r.data.toList)=SD L r
def Fx.lt{w:U}{gm n:N}{L:E Y}(h:Fx w gm n L):gm<w.heap.size:=by obtain⟨_,D,h,_⟩:=h;exact h.lt
def Fx.kept{w w' :U}{gm n:N}{L:E Y}{S:N->Prop}(h:Fx w gm n L)(f:Ag S w w')(g:¬S gm):Fx w' gm n L:=by
 have d:=h.lt;obtain⟨h0,D,⟨b,a,e,r⟩,c⟩:=h;exact⟨h0,D,⟨b,a,(f.block gm d g).trans e,r⟩,c⟩
def Fx.old{w w' :U}{gm n:N}{L:E Y}(h:Fx w gm n L)(a:Al w w'):Fx w' gm n L:=h.kept a (λx=>x)
def Fx.made(w:U):Fx (w.alloc (.map #[] 0)) w.heap.size 0 []:=
 ⟨(λ_ h=>by cases h),_,vX w ψ 9 unitElem,λ_=>rfl⟩
def Fx.mono{w:U}{gm n m:N}{L:E Y}(h:Fx w gm n L)(c:n<=m):Fx w gm m L:=by
 obtain⟨h0,D,a,b⟩:=h;exact⟨h0,D,a.mono c,b⟩
def Fx.put{w:U}{gm n:N}{L:E Y}(h:Fx w gm n L)(r:Y)(i:r.size<=maxLen)(l:n<maxLen): ∃w',(Instr.mapUpdate 117 (.map (J gm)) (G r) (.agg #[])).run ψ w=.ok () w' /\Fx w' gm (n+1) (L++[r])/\Ag (λk=>k=gm) w w' :=by
 obtain⟨h0,D,g,j⟩:=h;obtain⟨w2,c,a,d⟩:=g.update Dl underlying117 l (Qh r i) unitElem_mk;refine⟨w2,c,⟨λx b=> ?_,_,a,λq=> ?_⟩,(Ag.refl _ w).grown d (λk _ e=>(rD e).symm)⟩
 .rcases rR.1 b with b|b
  .exact h0 x b
  rw[rC] at b;subst b;exact i
 by_cases e:q=r
 .subst e;rw[yt g.isMap (Xg _),Rg,qZ rfl,Bool.or_true]
 have f:=Mz (show q≠r from e);rw[xX f,j q,Rg,qX (λx=>e x.symm),xu]
abbrev Pi:Y:=⟨#[47,103,111,46,109,111,100]⟩
def XO(e:Bw):Bool:= !e.ln&&Lib.hasSuffix e.nm.data.toList Pi.data.toList
def XP(e:Bw):Y:=⟨(Lib.trimSuffix e.nm.data.toList Ez.data.toList).toArray⟩
def Aw(T:E Bw):E Y:=(T.filter XO).map XP
def bu(e:Bw):(XP e).size<=e.nm.size:=by
 show((Lib.trimSuffix e.nm.data.toList Ez.data.toList).toArray).size<=e.nm.data.size;rw[sq];unfold Lib.trimSuffix;split
 .rw[rY,sd];omega
 rw[sd];exact rj _
def GB(T:E Bw)(i:N)(h:i<T.length):T.take (i+1)=T.take i++[T.getD i AA]:=by
 rw[tu,qY h,qT,qY h];rfl
def bz(T:E Bw)(i:N)(h:i<T.length)(a:XO (T.getD i AA)=θ):Aw (T.take (i+1))=Aw (T.take i)++[XP (T.getD i AA)]:=by
 rw[GB T i h,Aw,Aw,tK,sv,vg a];rfl
def eZ(T:E Bw)(i:N)(h:i<T.length)(a:XO (T.getD i AA)=ι):Aw (T.take (i+1))=Aw (T.take i):=by
 rw[GB T i h,Aw,Aw,tK,sv,vh (by rw[a];exact λx=>by cases x)];simp
def Zg(y cap:N)(T:E Bw)(X:T.length<=1000)(C: ∀e∈T,e.nm.size<=2000000)(w:U)(D:EJ w y T)(q:y<w.heap.size):μ ψ 78 #[K (J ⟨y,0,O⟩) T.length cap] w λr w' =>r=ε (.map (J w.heap.size))/\Al w w' /\Fx w' w.heap.size T.length (Aw T):=by
 have B:= @vL ψ;have h:χ (Al w (w.alloc (.map #[] 0))):=(Ag.refl _ w).alloc _;have g:χ (Fx (w.alloc (.map #[] 0)) w.heap.size 0 (Aw (T.take 0))):=Fx.made w;have M:=Af D;have H:=Af C;have F:=Af q;clear D C q;go_in;go_wp2_with fail;clear B;go_loopw [5,9] (λ_ x wr=> ∃i:N,i<=T.length/\x=I Q i/\χ (Al w wr)/\χ (Fx wr w.heap.size i (Aw (T.take i)))) (λ_ x _=>T.length- (intOf x).toNat)
 .exact ⟨0,Aa,rfl,h,g⟩
 obtain⟨i,hi,rfl,h,g⟩:=hrel;by_cases c:i<T.length
 .have s:(i:Z)<(T.length:Z):=Aa;obtain⟨_,P,R,S⟩:=M.old (uh h) i c;have W:(T.getD i AA).nm.size<=2000000:=by rw[qT,qY c];exact H _ (ro c)
  have n:=Af (bz T i c);have f:=Af (eZ T i c);have b:χ (XO (T.getD i AA)=(!(T.getD i AA).ln&&Lib.hasSuffix (T.getD i AA).nm.data.toList Pi.data.toList)):=rfl;have m:χ (XP (T.getD i AA)=⟨(Lib.trimSuffix (T.getD i AA).nm.data.toList Ez.data.toList).toArray⟩):=rfl;have V:=bu (T.getD i AA);generalize XO (T.getD i AA)=op at*;generalize XP (T.getD i AA)=fo at*;generalize Aw (T.take i)=L at*;generalize T.getD i AA=e at*;obtain⟨nm,ln,dt⟩:=e;simp only at*;have z:Al wr (wr.alloc (γ #[G nm,ζ ln,G dt] 39)):=(Ag.refl _ wr).alloc _;have o:=rh wr (γ #[G nm,ζ ln,G dt] 39);have HOA:=Af (Ag.trans (uh h) z);have a:=Af (g.old z);have j:=Af (strings_HasSuffix nm Pi (wr.alloc (γ #[G nm,ζ ln,G dt] 39)) Aa);have l:=Af (strings_TrimSuffix nm Ez (wr.alloc (γ #[G nm,ζ ln,G dt] 39)) Aa);have d:χ (∃w2,(Instr.mapUpdate 117 (.map (J w.heap.size)) (G fo) (.agg #[])).run ψ (wr.alloc (γ #[G nm,ζ ln,G dt] 39))=.ok () w2/\Fx w2 w.heap.size (i+1) (L++[fo])/\Ag (λk=>k=w.heap.size) (wr.alloc (γ #[G nm,ζ ln,G dt] 39)) w2):=a.put fo (by unfold maxLen;omega) (by unfold maxLen;omega);rw[<-uh m] at l;clear z h g m;generalize Lib.hasSuffix nm.data.toList Pi.data.toList=hsf at*;cases ln with
  |true=>
   have f:=Af (f (by rw[uh b];rfl));clear n b d j l;have HG2:χ (Fx (wr.alloc (γ #[G nm,ζ θ,G dt] 39)) w.heap.size (i+1) (Aw (T.take (i+1)))):=by rw[uh f];exact a.mono Aa
   clear a o;exact aaB
  |false=>
   cases hsf with
   |false=>
    have f:=Af (f (by rw[uh b];rfl));clear n b d l;have HG2:χ (Fx (wr.alloc (γ #[G nm,ζ ι,G dt] 39)) w.heap.size (i+1) (Aw (T.take (i+1)))):=(by rw[uh f];exact a.mono Aa);clear a o;go_wp2_with fail;refine j.mono ?_;rintro e w' ⟨rfl,rfl⟩;clear j P R S;exact aaB
   |true=>
    have n:=Af (n (by rw[uh b];rfl));obtain⟨w2,u,p,t⟩:=uh d;have HG2:χ (Fx w2 w.heap.size (i+1) (Aw (T.take (i+1)))):=(by rw[uh n];exact p);have v:χ (Al w w2):=HOA.transNew t (λk hk e=>Aa);clear f b d a p t;go_wp2_with fail;refine j.mono ?_;rintro e w' ⟨rfl,rfl⟩;clear j;go_wp2_with fail;refine l.mono ?_;rintro e w' ⟨rfl,rfl⟩;clear l;go_wp2_with fail;clear u;go_roundw
    .exact ⟨i+1,Aa,by go_num,v,HG2⟩
    exact Ae
 have s:¬(i:Z)<(T.length:Z):=Aa;have A:i=T.length:=Aa;subst A;rw[sr] at g;go_wp2;go_ret;exact⟨rfl,h,g⟩
def KT(L:E Y)(s:Y):Bool:=L.any (λf=>Lib.hasPrefix s.data.toList f.data.toList)
def Zh{a:β}{b:Lit}(h:keyOf ψ 9 a=J b): ∃x:Y,a=G x/\b=.string x.data.toList:=by
 rw[keyOf_string underlying9] at h;unfold mapKey at h;rw[underlying9] at h;split at h<;>simp_all
def pv(gm n:N)(L:E Y)(s:Y)(w:U)(hg:Fx w gm n L):μ ψ 151 #[.map (J gm),G s] w λr w' =>r=ε (ζ (KT L s))/\Al w w' :=by
 have a5:=hg.lt;obtain⟨_,D,m,hD⟩:=hg;have a2:=Af m;have HD:=Af hD;have HA:χ (KT L s=L.any (λf=>Lib.hasPrefix s.data.toList f.data.toList)):=rfl;have p:χ (∀x∈L,Lib.hasPrefix s.data.toList x.data.toList=θ->KT L s=θ):=λx hx h=>by rw[uh HA,sc];exact⟨x,hx,h⟩
 generalize KT L s=ans at*;clear m hD;go_in;go_wp2_with (at_range;refine wpList_range_own _ rfl _ qN rfl 9 _ Dl underlying117 unitElem gm n D rfl (uh a2) ?_;intro w1 b g t;have F:=Af b;have c:=Af ((Ag.refl (λ_=>False) w).grown g (λk _ e=>by cases e));clear b g t);go_frame;generalize a6:w.heap.size=gr at*;have a0:χ (w.heap.size<=gr):=by unfold χ;omega
 have a8:χ (gm≠gr):=by unfold χ;omega
 clear a6 a5;go_loopw [5] (λ_ wr=>χ (∃a l,wr.ranges ψ 9 unitElem gm gr n D a l/\(∀i,a i=θ->has D i=θ)/\∀r:Y,SD L r=θ->a (.string r.data.toList)=ι->Lib.hasPrefix s.data.toList r.data.toList=ι)/\χ (Al w wr)) (λ_ wr=>wr.rangeLeft gm gr)
 .exact ⟨⟨_,_,F,λ_ h=>h,λr h1 h2=>by rw[HD r,h1] at h2;cases h2⟩,c⟩
 obtain⟨HR,HO⟩:=hrel;obtain⟨a,l,z,hl,hs⟩:=uh HR;have C:χ (wr.rangeLeft gm gr=l):=z.left_eq;have o:=Af hl;have j:=Af hs;clear F c hl hs HR;go_wp2_with (at_next;refine wpList_next_ranges (mkK:=λx:Y=>Value.string x) (mkV:=λ_:Unit=>Value.agg #[]) _ rfl _ rfl 9 Dl unitElem (λb0 i h=>by obtain⟨x,h,_⟩:=Zh h;exact⟨x,h⟩) (λv y h=>⟨(),(unitElem_inv h).1⟩) gm gr n D a l rfl z ?_ ?_)
 .intro a9 P;have d:ans=false:=by
   rw[uh HA,tn];intro x hx;rw[j x (UE.2 hx) (P _)];exact λh=>by cases h
  subst d;clear z P;exact zj
 intro x i yd yp w1 H W T a3 a4 b S g t M;obtain⟨x',u,a7⟩:=Zh W;injection u with u;subst u a7;have V:SD L x=true:=by rw[<-HD x];exact o _ T
 have c:χ (Al w w1):=HO.grown g (λk hk e=>by have:=rD e;have:=uh a0;omega);have X:=Af (strings_HasPrefix s x w1);have A :χ (∀i,(a i&& !i.sameKey (.string x.data.toList))=θ->has D i=θ):=λi h=>o i (by rw[rX] at h;exact h.1)
 have q:=Af b;have a1:χ (H<wr.rangeLeft gm gr):=by rw[uh C];exact S
 clear a4 a3 W T b g t S z HO C o;cases hpf:Lib.hasPrefix s.data.toList x.data.toList with
 |true=>
  rw[hpf] at X;have d:ans=true:=p x (UE.1 V) hpf;subst d;clear hpf j p q;go_wp2_with fail;refine X.mono ?_;rintro e w2 ⟨rfl,rfl⟩;clear M;go_wp2;go_ret;exact⟨rfl,c⟩
 |false=>
  rw[hpf] at X;have B :χ (∀r:Y,SD L r=θ->(a (.string r.data.toList)&& !(Lit.string r.data.toList).sameKey (.string x.data.toList))=ι->Lib.hasPrefix s.data.toList r.data.toList=ι):=λr z R=>by
   by_cases e:r=x
   .subst e;exact hpf
   rw[sameKey_ne (Mz e)] at R;exact j r z (by simpa using R)
  clear hpf j p;go_wp2_with fail;refine X.mono ?_;rintro e w2 ⟨rfl,rfl⟩;clear M;go_wp2;go_roundw
  .exact ⟨⟨_,_,q,A,B⟩,c⟩
  rw[(uh q).left_eq];exact a1
def BM(L:E Y)(e:Bw):N:=if e.ln then 1 else if UC e.nm then 4 else if KT L e.nm then 3 else if UD e.nm then 2 else if CK e.nm then 0 else 5
def Pj(e:Bw)(f:e.nm.size<=2000000)(gm n:N)(L:E Y)(w:U)(i:Cb w)(g:Fx w gm n L):μ ψ 79 #[.agg e.v,.map (J gm)] w λr w' =>r=ε (I Q (BM L e))/\Al w w' :=by
 obtain⟨nm,ln,dt⟩:=e;have b:Al w (w.alloc (γ #[G nm,ζ ln,G dt] 39)):=(Ag.refl _ w).alloc _;have a:=rh w (γ #[G nm,ζ ln,G dt] 39);have d:(w.alloc (γ #[G nm,ζ ln,G dt] 39)).cell? ⟨w.heap.size,0,O⟩=J (G nm):=by rw[qV _ _ 0 _ _ (0,0) a];rfl
 have j:(w.alloc (γ #[G nm,ζ ln,G dt] 39)).cell? ⟨w.heap.size,1,O⟩=J (ζ ln):=by rw[qV _ _ 1 _ _ (0,0) a];rfl
 have HCK:χ (∀c,Al (w.alloc (γ #[G nm,ζ ln,G dt] 39)) c ->c.cell? ⟨w.heap.size,0,O⟩=J (G nm)):=λc k=>(k.cell (p:=⟨w.heap.size,0,O⟩) (by rw[rr];exact yu _) (λx=>x)).trans d
 have HM:=Af (i.old b);have HG:=Af (g.old b);have HO:=Af b;have HD:χ (BM L ⟨nm,ln,dt⟩=if ln then 1 else if UC nm then 4 else if KT L nm then 3 else if UD nm then 2 else if CK nm then 0 else 5):=rfl;have H1:=Af (λW h=>jU nm f W h);have H2:=Af (λW h=>pv gm n L nm W h);have H3:=Af (λW h=>br nm f W h);have H4:=Af (λW h=>SC nm (by have:nm.size<=2000000:=f;omega) W h);generalize BM L ⟨nm,ln,dt⟩=ans at*;generalize UC nm=b1 at*;generalize KT L nm=b2 at*;generalize UD nm=b3 at*;generalize CK nm=b4 at*;clear b i g a;cases ln with
 |true=>
  have hans:ans=1:=by rw[uh HD];rfl
  subst hans;clear HD;go_in;exact zj
 |false=>
 cases b1 with
 |true=>
  have hans:ans=4:=by rw[uh HD];rfl
  subst hans;clear HD;go_in;go_wp2_with fail;generalize hW:w.alloc (γ #[G nm,ζ ι,G dt] 39)=W at*;have HR0:=Af (Ag.refl (λ_=>False) W);clear hW;refine(H1 W (uh HM)).mono ?_;rintro e w1 ⟨rfl,ho1⟩;have HR1:=Af (Ag.trans (uh HR0) ho1);have HM1:=Af (HM.old (uh HR1));have HG1:=Af (HG.old (uh HR1));have hcc1:=HCK w1 (uh HR1);have HF1:=Af (Ag.trans (uh HO) (uh HR1));clear ho1;go_wp2;go_ret;exact⟨rfl,HF1⟩
 |false=>
 cases b2 with
 |true=>
  have hans:ans=3:=by rw[uh HD];rfl
  subst hans;clear HD;go_in;go_wp2_with fail;generalize hW:w.alloc (γ #[G nm,ζ ι,G dt] 39)=W at*;have HR0:=Af (Ag.refl (λ_=>False) W);clear hW;refine(H1 W (uh HM)).mono ?_;rintro e w1 ⟨rfl,ho1⟩;have HR1:=Af (Ag.trans (uh HR0) ho1);have HM1:=Af (HM.old (uh HR1));have HG1:=Af (HG.old (uh HR1));have hcc1:=HCK w1 (uh HR1);have HF1:=Af (Ag.trans (uh HO) (uh HR1));clear ho1;go_wp2_with fail;refine(H2 w1 (uh HG1)).mono ?_;rintro e w2 ⟨rfl,ho2⟩;have HR2:=Af (Ag.trans (uh HR1) ho2);have HM2:=Af (HM.old (uh HR2));have HG2:=Af (HG.old (uh HR2));have hcc2:=HCK w2 (uh HR2);have HF2:=Af (Ag.trans (uh HO) (uh HR2));clear ho2;go_wp2;go_ret;exact⟨rfl,HF2⟩
 |false=>
 cases b3 with
 |true=>
  have hans:ans=2:=by rw[uh HD];rfl
  subst hans;clear HD;go_in;go_wp2_with fail;generalize hW:w.alloc (γ #[G nm,ζ ι,G dt] 39)=W at*;have HR0:=Af (Ag.refl (λ_=>False) W);clear hW;refine(H1 W (uh HM)).mono ?_;rintro e w1 ⟨rfl,ho1⟩;have HR1:=Af (Ag.trans (uh HR0) ho1);have HM1:=Af (HM.old (uh HR1));have HG1:=Af (HG.old (uh HR1));have hcc1:=HCK w1 (uh HR1);have HF1:=Af (Ag.trans (uh HO) (uh HR1));clear ho1;go_wp2_with fail;refine(H2 w1 (uh HG1)).mono ?_;rintro e w2 ⟨rfl,ho2⟩;have HR2:=Af (Ag.trans (uh HR1) ho2);have HM2:=Af (HM.old (uh HR2));have HG2:=Af (HG.old (uh HR2));have hcc2:=HCK w2 (uh HR2);have HF2:=Af (Ag.trans (uh HO) (uh HR2));clear ho2;go_wp2_with fail;refine(H3 w2 (uh HM2)).mono ?_;rintro e w3 ⟨rfl,ho3⟩;have HR3:=Af (Ag.trans (uh HR2) ho3);have HM3:=Af (HM.old (uh HR3));have HG3:=Af (HG.old (uh HR3));have hcc3:=HCK w3 (uh HR3);have HF3:=Af (Ag.trans (uh HO) (uh HR3));clear ho3;go_wp2;go_ret;exact⟨rfl,HF3⟩
 |false=>
 cases b4 with
 |true=>
  have hans:ans=0:=by rw[uh HD];rfl
  exact zd
 |false=>
  have hans:ans=5:=by rw[uh HD];rfl
  exact zd
