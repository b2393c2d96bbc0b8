import Derived.Test.YtndfmgdhiallpaaGreatDoorVaa
import Derived.OrdersHeld
set_option linter.all false
set_option maxRecDepth 100000
set_option maxHeartbeats 2000000
open _root_ renaming Option.some->J,Option.none->O,Int->Z,Nat->N,Go.Value.int->I,Go.Value.string->G,Go.IntKind.i64->Q,ByteArray->Y,List->E,Go.World->U,Go.Value.slice->K,Go.Value->β,Go.Obj.cells->γ,Go.Value.pointer->δ,Go.Ending.returned->ε,Bool.true->θ,Bool.false->ι,absurd->κ,Go.Calls->μ,UInt8->υ,Array->φ,Go.RowKit.Hid->χ
namespace Go.Proofs.YtndfmgdhiallpaaGreatDoor
open Go.RowKit Go.Proofs.Tryz
section
variable {P:Program} {ops:φ Oper} {Q:Exit->Act->U->Prop} {md:Region.Mode} {S:U->Prop} {L:N}
def CR(P:Program)(md:Region.Mode)(ops:φ Oper)(Q:Exit->Act->U->Prop)(S:U->Prop)(L:N):N->φ Bool->Act->U->Prop
 |0,ls,a,w=>Region.ready md ops ls=[]/\Q .normal a w
 |n+1,ls,a,w=>(Region.ready md ops ls=[]->Q .normal a w)/\∀i∈Region.ready md ops ls,wpOp P ops Q i (λa' w' =>(i≠L->S w')/\CR P md ops Q S L n (ls.setIfInBounds i θ) a' w') a w
def Tk(n:N): ∀(ls:φ Bool) (a:Act) (w:U),CR P md ops Q S L n ls a w->wpAny P md ops Q n ls a w:=WL
def LB(md:Region.Mode)(ops:φ Oper)(L i:N):Bool:=i !=L&&(match ops[L]? with|some o=>o.after.any (λe=>Region.binds md e&&e.on==i)|none=>ι)
def ZN{i:N}{l:Oper}{v:β}(hi:ops[i]? =J l)(t:Region.noSelect ops=θ)(o:LB md ops L i=θ)
 (x: ∀c a w,Q (.panic c) (a.put l.dst v) w->Q (.panic c) a w)(n:N): ∀(ls:φ Bool) (a:Act) (w:U),
  (∀j g,ops[j]? =J g->j≠i->ls.getD j θ=ι->(∀e∈g.after,Region.binds md e=θ->e.on≠i)->l.apart ops g=θ)->
  i∈Region.ready md ops ls->YieldsIf P ops S l v a->S w->
  CR P md ops Q S L n (ls.setIfInBounds i θ) (a.put l.dst v) w->CR P md ops Q S L (n+1) ls a w:=by
 have z:i≠L:=by simp[LB] at o;exact o.1
 induction n with
 |zero=>
  intro ls a w _ hr hy hS H;exact Ha
 |succ n ih=>
  intro ls a w hfree hr hy hS H;refine⟨λh=>κ (h ▸ hr) tC,λj hj=> ?_⟩;rcases Nat.decEq j i with hji|rfl
  .obtain ⟨hun,g,d,m⟩:=vC.1 hj;have hi0:=(vC.1 hr).1;have f: ∀e∈g.after,Region.binds md e=θ->e.on≠i:=by
    intro e y q r;have h1:=m e y q;rw[r] at h1;exact Ht
   have s:j≠L:=by
    rintro rfl;simp[LB,d] at o;obtain⟨_,k,hk,q,A⟩:=o;exact f _ (Array.getElem_mem hk) q A
   have u:=wpOp_putIf d (hfree j g d hji hun f) (λp b=>tU t i l p b hi) (λp b=>tU t j g p b d) x hy (H.2 j (uB hj hji));refine xS (λa' w' h3=>⟨h3.2.1,ih (ls.setIfInBounds j θ) a' w' ?_ (uB hr (Ne.symm hji)) h3.1 (h3.2.1 s) ?_⟩) u
   .exact zT
   exact aaH
  exact Wy
def AH{i:N}{e:Oper}{v:β}{n:N}{b:φ Bool}{a:Act}{w:U}(d:Option Tmp)(f:ops[i]? =J e)(l:e.dst=d)
 (p:Region.noSelect ops=θ)(g:LB md ops L i=θ)(m:Region.free md ops b i=θ)(o:(Region.ready md ops b).contains i=θ)
 (j: ∀c a w,Q (.panic c) (a.put d v) w->Q (.panic c) a w)(q:YieldsIf P ops S e v a)(k:S w)
 (h:CR P md ops Q S L n (b.setIfInBounds i θ) (a.put d v) w):CR P md ops Q S L (n+1) b a w:=by
 subst l;exact ZN f p g j n b a w (xA f m) (by simpa using o) q k h
def Ah{i:N}{n:N}{b:φ Bool}{a:Act}{w:U}(hr:Region.ready md ops b=[i])
 (h:wpOp P ops Q i (λa' w' =>(i≠L->S w')/\CR P md ops Q S L n (b.setIfInBounds i θ) a' w') a w):CR P md ops Q S L (n+1) b a w:=wV
def Am{b:φ Bool}{a:Act}{w:U}(c:Region.ready md ops b=[])(h:Q .normal a w):CR P md ops Q S L 0 b a w:=⟨c,h⟩
def Ai{c:N}{a:Act}{w:U}(b:P.follows .mixedOrders=θ)
 (h:CR P .any ops Q S L ops.size (Array.replicate ops.size ι) a w.drew):(Code.region c ops θ).wp P Q a w:=
 wp_region_any b (Tk _ _ _ _ h)
def CW{i:N}{o:Oper}{b:Act->U->Prop}{a:Act}{w:U}(d:ops[i]? =J o)(c:o.guard=O)(h:o.wp P a w b Q):wpOp P ops Q i b a w:=by
 unfold wpOp;simp only[d];rw[rd (by simp[Region.wanted,c])];exact .inl h
def Gv{o:Oper}{a:Act}(c:o.guard=O)(b:TypeId)(x:Operand)(d:o.op=.load b x)(p:Addr)(f:a.eval x=δ (J p))(v:β)
 (h: ∀w,S w->(loadVar b p).run P w=.ok v w):YieldsIf P ops S o v a:=by
 refine .inl ⟨by simp[Region.wanted,c],λw e=> ?_⟩;unfold execOp;simp only[d,f,Instr.loadAt,Instr.sureAddr,vc,vV,uR,h w e]
end
open Go.RowKit Go.Maps Go.Proofs.Tryz
section
variable {P:Program} {ops:φ Oper} {Q:Exit->Act->U->Prop} {md:Region.Mode} {S:U->Prop} {L:N}
def RU{α:Type}{ar:φ α}{p:α->Bool}(h:ar.any p=θ): ∃x∈ar,p x=true:=by
 obtain⟨i,a,h⟩:=Array.any_eq_true.1 h;exact⟨ar[i],Array.getElem_mem a,h⟩
def GJ(md:Region.Mode)(ops:φ Oper):N->N->N->Bool
 |0,_,_=>ι
 |f+1,k,i=>match ops[k]? with
  |some o=>o.after.any λe=>Region.binds md e&&(e.on==i||GJ md ops f e.on i)
  |none=>ι
def Mr(md:Region.Mode)(ops:φ Oper)(ls:φ Bool):Prop:= ∀k o,ops[k]? =J o->ls.getD k ι=θ-> ∀e∈o.after,Region.binds md e=θ->ls.getD e.on ι=θ
def LC(md:Region.Mode)(ops:φ Oper)(ls:φ Bool):Bool:=(List.range ops.size).all λk=> !ls.getD k ι||((ops[k]?).map (·.after.all λe=> !Region.binds md e||ls.getD e.on ι)).getD θ
def QD{c:φ Bool}(h:LC md ops c=θ):Mr md ops c:=by
 intro k o b l e j i;have a:k<ops.size:=by
  rcases sb k ops.size with h|h
  .exact h
  rw[se h] at b;cases b
 have d:=rV.1 h k (rJ.2 a);rw[l,b] at d;have g:o.after.all (λe=> !Region.binds md e||c.getD e.on ι)=true:=by simpa using d
 have f:=vd.1 g e j;rw[i] at f;simpa using f
def KW{b:φ Bool}(c:Mr md ops b): ∀(f k i:N),b.getD k ι=θ->GJ md ops f k i=θ->b.getD i ι=θ
 |0,k,i,_,h=>by cases h
 |f+1,k,i,hk,h=>by
  rw[GJ] at h;split at h
  .rename_i o ho;obtain⟨e,g,a⟩:=RU h;simp only[rX,vp,tT] at a;have d:=c k o ho hk e g a.1;rcases a.2 with h2|h2
   .rw[<-h2];exact d
   exact KW c f e.on i d h2
  cases h
def Tl{a:φ Bool}{i j:N}(h:a.getD j ι=θ):(a.setIfInBounds i θ).getD j ι=true:=by
 have b:j<a.size:=by
  rcases sb j a.size with h1|h1
  .exact h1
  rw[uk,se h1] at h;cases h
 rw[uk] at h ⊢;rw[sg];by_cases e:i=j
 .subst e;rw[rd rfl,rd b];rfl
 rw[rc e];exact h
def OA{d:φ Bool}{j:N}(l:Mr md ops d)(m:j∈Region.ready md ops d):Mr md ops (d.setIfInBounds j θ):=by
 obtain⟨_,n,c,a⟩:=vC.1 m;intro k o b i e h g;by_cases f:j=k
 .subst f;rw[c] at b;injection b with b;subst b;exact Tl (a e h g)
 refine Tl (l k o b ?_ e h g);rw[uk,sg,rc f] at i;rw[uk];exact i
def VR{i f:N}{l:Oper}{v:β}(hi:ops[i]? =J l)(r:Region.noSelect ops=θ)(u:i≠L)(q:GJ md ops (f+1) L i=θ)
 (s: ∀c a w,Q (.panic c) (a.put l.dst v) w->Q (.panic c) a w)(n:N): ∀(ls:φ Bool) (a:Act) (w:U),Mr md ops ls->
  (∀j g,ops[j]? =J g->j≠i->ls.getD j θ=ι->(∀e∈g.after,Region.binds md e=θ->e.on≠i)->l.apart ops g=θ)->
  i∈Region.ready md ops ls->YieldsIf P ops S l v a->S w->
  CR P md ops Q S L n (ls.setIfInBounds i θ) (a.put l.dst v) w->CR P md ops Q S L (n+1) ls a w:=by
 induction n with
 |zero=>
  intro ls a w _ _ hr hy hS H;exact Ha
 |succ n ih=>
  intro ls a w hcl hfree hr hy hS H;refine⟨λh=>κ (h ▸ hr) tC,λj hj=> ?_⟩;rcases Nat.decEq j i with hji|rfl
  .obtain ⟨hun,g,d,hall⟩:=vC.1 hj;have hi0:=(vC.1 hr).1;have hin:¬ls.getD i ι=true:=by
    intro h1;exact Ht
   have hnot: ∀e∈g.after,Region.binds md e=θ->e.on≠i:=λe he t o=>hin (by rw[<-o];exact hall e he t)
   have p:j≠L:=by
    rintro rfl;rw[GJ,d] at q;obtain⟨e,he,h1⟩:=RU q;exact wh
   have h2:=wpOp_putIf d (hfree j g d hji hun hnot) (λm b=>tU r i l m b hi) (λm b=>tU r j g m b d) s hy (H.2 j (uB hj hji));refine xS (λa' w' h3=>⟨h3.2.1,ih (ls.setIfInBounds j θ) a' w' (OA hcl hj) ?_ (uB hr (Ne.symm hji)) h3.1 (h3.2.1 p) ?_⟩) h2
   .exact zT
   exact aaH
  exact Wy
def RV{i f:N}{j:Oper}{v:β}{n:N}{b:φ Bool}{a:Act}{w:U}(d:Option Tmp)(k:ops[i]? =J j)(p:j.dst=d)
 (s:Region.noSelect ops=θ)(g:i≠L)(l:GJ md ops (f+1) L i=θ)(e:LC md ops b=θ)(q:Region.free md ops b i=θ)(r:(Region.ready md ops b).contains i=θ)
 (m: ∀c a w,Q (.panic c) (a.put d v) w->Q (.panic c) a w)(t:YieldsIf P ops S j v a)(o:S w)
 (h:CR P md ops Q S L n (b.setIfInBounds i θ) (a.put d v) w):CR P md ops Q S L (n+1) b a w:=by
 subst p;exact VR k s g l m n b a w (QD e) (xA k q) (by simpa using r) t o h
end
theorem tk{P:Program}{ops:Array Oper}{Q:Exit→Act→World→Prop}{md:Region.Mode}{S:World→Prop}{L:Nat}(i f:Nat)(v:Value)(k:Nat){oi:Oper}{n:Nat}{ls:Array Bool}{a:Act}{w:World}{q:Prop}(hS:S w)(g:q)(hi:ops[i]? =some oi:=by rfl)(hd:oi.dst=some k:=by rfl)(hs:Region.noSelect ops=true:=by kernel_rfl)(hne:i≠L:=by decide)(hL:GJ md ops (f+1) L i=true:=by kernel_rfl)(hcl:LC md ops ls=true:=by kernel_rfl)(hf:Region.free md ops ls i=true:=by kernel_rfl)(hr:(Region.ready md ops ls).contains i=true:=by kernel_rfl)(hQ: ∀c a w,Q (.panic c) (a.put (some k) v) w→Q (.panic c) a w:=by exact fun _ _ _ h=>h)(hy:YieldsIf P ops S oi v a:=by exact .inl ⟨rfl,fun W hW=>by (repeat obtain ⟨_,hW⟩:=hW);go_simp⟩)(h:q→CR P md ops Q S L n (ls.setIfInBounds i true) (a.put (some k) v) w:=by intro g;simp only[Act.put,List.setIfInBounds_toArray,List.set_cons_zero,List.set_cons_succ];exact g):CR P md ops Q S L (n+1) ls a w:=
 RV (some k) hi hd hs hne hL hcl hf hr hQ hy hS (h g)
def Nj(d:N):1<=AV d:=by unfold AV;split<;>omega
def DD.le{s:Y}{a e n v a' b :N}(h:DD s a e n v a' b)(f:a<=8*s.size):a<=a' /\a' <=8*s.size:=by
 obtain⟨_,d,⟨_,_,c,_⟩|⟨_,c,_⟩⟩:=h<;>omega
def DD.ok{s:Y}{a n v a' c :N}(h:DD s a 0 n v a' c)(f:c =0):a+n<=8*s.size/\v=Aq s a n/\a' =a+n:=by
 obtain⟨_,_,⟨d,e,b,_⟩|⟨_,_,b⟩⟩:=h
 .exact ⟨d,e,b⟩
 rw[f] at b;cases b
def DD.bad{s:Y}{a n v a' b :N}(h:DD s a 0 n v a' b)(e:b ≠0):8*s.size<a+n/\b =2:=by
 obtain⟨_,_,⟨_,_,_,c⟩|⟨d,_,c⟩⟩:=h
 .exact κ c e
 exact⟨d,c⟩
def DD.stay{s:Y}{a e n v a' c :N}(h:DD s a e n v a' c)(d:e≠0):c =e:=by
 obtain⟨_,_,⟨_,_,_,b⟩|⟨f,_,b⟩⟩:=h
 .exact b
 rw[b,NW,rc d]
def Ii.ok{s:Y}{L:E N}{a y a' c :N}(h:Ii s L a 0 y a' c)(d:c =0):dec s L a=J (y,a'):=by
 obtain⟨_,_,⟨b,_⟩|⟨_,⟨b,_⟩|⟨_,b⟩⟩⟩:=h
 .exact κ rfl b
 .exact b
 rw[d] at b;cases b
def Ii.bad{s:Y}{L:E N}{a y a' c :N}(h:Ii s L a 0 y a' c)(e:c ≠0):dec s L a=O/\c =2:=by
 obtain⟨_,_,⟨b,_⟩|⟨_,⟨_,b⟩|⟨d,b⟩⟩⟩:=h
 .exact κ rfl b
 .exact κ b e
 exact⟨d,b⟩
def Ii.stay{s:Y}{L:E N}{a e y a' b :N}(h:Ii s L a e y a' b)(g:e≠0):b =e/\y=0:=by
 obtain⟨_,_,⟨_,d,_,f⟩|⟨c,_⟩⟩:=h
 .exact ⟨f,d⟩
 exact κ c g
def da{s:Y}{D:E N}{y a m a1 f d h g:N}(l:E υ)(j:DD s a 0 (AK y) m a1 f)(e:Ii s D a1 f d h g)(k:29<d):EL s D y a l=.inl (.inr 2)/\NW g 2=2:=by
 unfold EL;by_cases c:f=0
 .obtain ⟨n,g2,i⟩:=j.ok c;subst c i;rw[rc Aa];by_cases b:g=0
  .rw[e.ok b];subst b;exact⟨rd k,rfl⟩
  rw[(e.bad b).1,(e.bad b).2];exact⟨rfl,rfl⟩
 have:=(e.stay c).2;omega
def dc{s:Y}{D:E N}{y a v a1 g d k e w o i:N}(l:E υ)(n:DD s a 0 (AK y) v a1 g)(f:Ii s D a1 g d k e)(q:¬29<d)(j:DD s k e (AZ d) w o i)(r:i≠0):EL s D y a l=.inl (.inr 2)/\i=2:=by
 unfold EL;by_cases c:g=0
 .obtain ⟨m,g2,p⟩:=n.ok c;subst c p;rw[rc Aa];by_cases b:e=0
  .rw[f.ok b];subst b;obtain⟨t,u⟩:=j.bad r;refine⟨?_,u⟩;show(if 29<d then _ else _)=_;rw[rc q,rd t]
  rw[(f.bad b).1,j.stay b,(f.bad b).2];exact⟨rfl,rfl⟩
 obtain⟨m,g2⟩:=n.bad c;rw[rd m];refine⟨rfl, ?_⟩;have h :=(f.stay c).1;have:e≠0:=Aa;rw[j.stay this,h,g2]
def iS{s:Y}{D:E N}{y a i a1 c d k e j m n:N}(l:E υ)(r:DD s a 0 (AK y) i a1 c)(o:Ii s D a1 c d k e)(t:¬29<d)(p:DD s k e (AZ d) j m n)(f:n=0):
 EL s D y a l=if l.length<AV d+j then .inl (.inr 2) else if 20000<l.length+(Bc y+i) then .inl (.inr 1) else .inr (m,(BN l (AV d+j) (Bc y+i))):=by
 have b:e=0:=by
  by_cases h:e=0
  .exact h
  rw[p.stay h] at f;exact κ f h
 have g:c=0:=by
  by_cases h:c=0
  .exact h
  rw[(o.stay h).1] at b;exact κ b h
 subst g b;obtain⟨w,g2,q⟩:=r.ok rfl;subst q;obtain⟨x,u,v⟩:=p.ok f;unfold EL;rw[rc Aa,o.ok rfl];show(if 29<d then _ else _)=_;rw[rc t,rc Aa,<-u,<-g2,<-v]
def Tm:(List.range 286).all (λy=>decide (Bc y<=258))=true:=by decide+kernel
def KX{y:N}(h:y<=285):Bc y<=258:=by have:=rV.1 Tm y (rJ.2 Aa);simpa using this
def iT:(List.range 30).all (λd=>decide (AV d+2^AZ d<=32769))=true:=by decide+kernel
def dh{d:N}(h:d<=29):AV d+2^AZ d<=32769:=by have:=rV.1 iT d (rJ.2 Aa);simpa using this
def qg(s:Y)(D:E N)(y a:N)(l:E υ)(a' :N)(l' :E υ)(e' :N):Prop:=(a<=a' /\a' <=8*s.size)/\((EL s D y a l=.inr (a',l')/\e' =0)\/(EL s D y a l=.inl (.inr e')/\e' ≠0/\l' =l))
def OB{w:U}{b n c:N}{l:E υ}(h:w.ownsRow 0 5 1 (K (J ⟨b,0,O⟩) n c) n (Ak l)){k:N}(d:k<l.length):w.cell? ⟨b,k,O⟩=J (I .u8 ((l.getD k 0).toNat:N)):=by
 have a:=h.cells rfl k (I .u8 ((l.getD k 0).toNat:N)) (by simp[Ak,qT,d]);rw[rH,rx] at a;exact a
def QE(b:υ):b8 b.toNat=b:=by simp[b8]
def VS(g:N)(S:N->Prop)(hSg:S g)(s:Y)(hs:s.size<=140737488355328)(a:N)(l:E υ)(hl:l.length<=20000)(y:N)(hy:257<=y)(c7:y<=285)(ha:a<=8*s.size)
 (gd a9 cap:N)(D:E N)(hD:D.length<=400)(w:U)(hF:Bs S w)(h:St w g S s a l 0)(hI:Bx w gd a9 D):
 μ prog 286 #[δ (J ⟨g,0,O⟩),I Q y,K (J ⟨gd,a9,O⟩) D.length cap] w λr w' =>
  r=ε (.tuple #[])/\Ag S w w' /\∃a' l' e',qg s D y a l a' l' e' /\St w' g S s a' l' e' :=by
 obtain⟨ao,p,M,f,B⟩:=h;have d8:=hI.ne M;have b2:=Af (VO g s hs a (K ao l.length p) 0 y hy c7 ha w M);have HR:=Af M;have HOW:=Af f;have HSA:=Af B;have HI:=Af hI;clear M f B hI;go_in;go_wp2_with fail;refine b2.mono ?_;rintro r w1 ⟨v1,a1,e1,rfl,h1,c6,a7⟩;have X:=h1.le ha;have b0:=Af (Oz g s hs a1 (K ao l.length p) e1 h1.2.1 gd a9 cap D hD w1 c6 (HI.kept a7 d8));have H1:=Af h1;have a8:v1<32:=by have:=h1.1;have h5:2^AK y<=2^5:=rG Aa (by unfold AK;repeat (first|split|omega));omega
 have d6:=KX c7;have d9:Bc y+v1<=300:=Aa;clear b2 h1 d6 a8;generalize x:Bc y+v1=nn at d9 ⊢;have b3:=Af x;clear x;go_wp2_with fail;refine b0.mono ?_;rintro r w2 ⟨d,a2,e2,rfl,F,P,c4⟩;have a5:=Af (a7.trans c4);have H2:=Af F;have d2:d<=400:=rz F.2.1 hD;clear c6 a7 c4 b0;by_cases hd:29<d
 .have t:=Af (Cg g s a2 (K ao l.length p) e2 2 w2 P);have c8:a<=a2/\a2<=8*s.size:=⟨rz X.1 F.1.1,F.1.2⟩;clear F P;go_wp2_with fail;refine t.mono ?_;rintro r w3 ⟨rfl,m,H⟩;go_wp2_with fail;refine rU (tW rfl _ _ _) rfl ?_;obtain⟨k1,k2⟩:=da l (uh H1) (uh H2) hd;rw[k2] at m;have hO:=a5.trans H;exact⟨rfl,hO.of_g hSg,a2,l,2,⟨c8,.inr ⟨k1,Aa,rfl⟩⟩,St.next (uh HR) (uh HOW) (uh HSA) hO m⟩
 have b1:=Af (RS g s hs a2 (K ao l.length p) e2 d Aa F.1.2 w2 P);have c0:a<=a2:=rz X.1 F.1.1;have c1:=F.1.2;clear F P;go_wp2_with fail;refine b1.mono ?_;rintro r w3 ⟨v3,a3,e3,rfl,h3,m,H⟩;have HO3:=Af (a5.trans H);have H3:=Af h3;have ha3:a<=a3/\a3<=8*s.size:=⟨rz c0 (h3.le c1).1,h3.2.1⟩;have a6:=m.c2;have u:=m.c3;have HR3:=Af m;have e7:AV d+v3<=32769:=by have:=dh (d:=d) Aa;have:=h3.1;omega
 have e6:1<=AV d+v3:=by have:=Nj d;omega
 have C:=Af (iS l (uh H1) (uh H2) hd (uh H3));rw[uh b3] at C;have a4:=Af (dc l (uh H1) (uh H2) hd (uh H3));clear H a5 b1 h3 m H1 H2 H3 b3;generalize AV d+v3=far at*;by_cases V:l.length<far
 .have t:=Af (Cg g s a3 (K ao l.length p) e3 2 w3 (uh HR3));have HE:χ (EL s D y a l=.inl (.inr (NW e3 2))/\NW e3 2≠0):=by
   by_cases he3:e3=0
   .have:=C he3;rw[rd V] at this;subst he3;exact⟨this,Ac⟩
   obtain⟨k1,k2⟩:=a4 he3;subst k2;exact⟨k1,Ac⟩
  have d3:(l.length:Z)<(far:Z):=Aa;go_wp2_with fail;refine t.mono ?_;rintro r w4 ⟨rfl,o,z⟩;have HO4:=Af (HO3.trans z);have d0:=o.c3;have HR4:=Af o;have hb:((NW e3 2:N)==(0:Z))=false:=by rw[re];have:=HE.2;omega
  clear z o u;generalize NW e3 2=e4 at*;go_wp2_with fail;go_loop [9] (λi=>i=I Q 0) (λ_=>0)
  .rfl
  subst hrel;by_cases x:0<nn
  .have v:(0:Z)<(nn:Z):=Aa;exact WE
  have v:¬(0:Z)<(nn:Z):=Aa;exact WE
 have d3:¬(l.length:Z)<(far:Z):=Aa;by_cases he3:e3=0
 .subst he3;have HK:=Af (C rfl);rw[rc V] at HK;clear C a4;have T :w3.cell? ⟨g,3,O⟩=J (I Q 0):=u;by_cases R:20000<l.length+nn
  .have c9:(20000:Z)<(l.length:Z)+(nn:Z):=Aa;rw[rd R] at HK;have t:=Af (Cg g s a3 (K ao l.length p) 0 1 w3 (uh HR3));clear u;go_wp2_with fail;refine t.mono ?_;rintro r w4 ⟨rfl,o,z⟩;have HO4:=Af (HO3.trans z);have A :Rd w4 g s a3 (K ao l.length p) 1:=o;have d0:w4.cell? ⟨g,3,O⟩=J (I Q 1):=A.c3;have HR4:=Af A;clear z o A T;go_wp2_with fail;go_loop [9] (λi=>i=I Q 0) (λ_=>0)
   .rfl
   subst hrel;by_cases x:0<nn
   .have v:(0:Z)<(nn:Z):=Aa;exact WI
   have v:¬(0:Z)<(nn:Z):=Aa;exact WI
  have c9:¬(20000:Z)<(l.length:Z)+(nn:Z):=Aa;rw[rc R] at HK;have n:=Af (St.next (uh HR) (uh HOW) (uh HSA) (uh HO3) (uh HR3));have b5:=Af (HO3.of_g hSg);clear HR HOW HSA HO3 HR3 u;go_wp2_with fail;clear a6 T;go_loopw [9] (λi wr=> ∃j:N,j<=nn/\i=I Q j/\χ (St wr g S s a3 (BN l far j) 0)/\χ (Ag S w wr)) (λi _=>nn- (intOf i).toNat)
  .exact ⟨0,Aa,rfl,n,b5⟩
  obtain⟨j,hj,rfl,n,HO⟩:=hrel;obtain⟨ao,p,M,f,B⟩:=uh n;have a6:=M.c2;have u:wr.cell? ⟨g,3,O⟩=J (I Q 0):=M.c3;by_cases e8:j<nn
  .have d4:(j:Z)<(nn:Z):=Aa;have d7:=Kl l far j;obtain⟨b,e5,e0,_,_⟩:=f.form Aa;injection e0 with a8 hv2 hv3;subst a8 hv3;have b4:χ (BN l far (j+1)=BN l far j++[(BN l far j).getD ((BN l far j).length- far) 0]):=Af rfl;have b7:=OB f (k:=(BN l far j).length- far) Aa;have d1:=FC ((BN l far j).getD ((BN l far j).length- far) 0);have b6:=Af (KV g S hSg s a3 (BN l far j) Aa 0 _ d1 wr.drew (show Bs S wr.drew from hF.mono HO.size) (show St wr.drew g S s a3 (BN l far j) 0 from uh n));rw[QE,<-uh b4] at b6;have f4:far<=(BN l far j).length:=Aa;have f3:(BN l far j).length<=20300:=Aa;clear d7 b4 M f B n;generalize((BN l far j).getD ((BN l far j).length- far) 0).toNat=c at*;generalize(BN l far j).length=nl at*;obtain⟨q,b9⟩: ∃q,q=nl- far:=⟨_,rfl⟩;rw[<-b9] at b7;have f1:(nl:Z)- (far:Z)=(q:Z):=Aa;have e9:(0:Z)<=(q:Z):=Aa;have f2:IntKind.i64.wrap (q:Z)=(q:Z):=Av q Aa;have f0:(q:Z)<(nl:Z):=Aa;clear b9;have e:wr.drew.cell? ⟨g,2,O⟩=J (K (J ⟨b,0,O⟩) nl p)/\wr.drew.cell? ⟨b,q,O⟩=J (I .u8 c):=⟨a6,b7⟩;go_upto_region 12 with fail;refine Ai (S:=λW=>W.cell? ⟨g,2,O⟩=J (K (J ⟨b,0,O⟩) nl p)/\W.cell? ⟨b,q,O⟩=J (I .u8 c)) (L:=14) Ab ?_;refine tk 0 15 (δ (J ⟨g,0,O⟩)) 61 e ?_;refine tk 1 15 (δ (J ⟨g,0,O⟩)) 62 e ?_;refine tk 2 15 (δ (J ⟨g,0,O⟩)) 63 e ?_;refine tk 3 15 (δ (J ⟨g,2,O⟩)) 64 e ?_;refine tk 4 15 (K (J ⟨b,0,O⟩) nl p) 65 e ?_;refine tk 5 15 (δ (J ⟨g,0,O⟩)) 66 e ?_;refine tk 6 15 (δ (J ⟨g,0,O⟩)) 67 e ?_;refine tk 7 15 (δ (J ⟨g,2,O⟩)) 68 e ?_;refine tk 8 15 (K (J ⟨b,0,O⟩) nl p) 69 e ?_;refine tk 9 15 (I Q nl) 70 e ?_;refine tk 10 15 (I Q far) 71 e ?_;refine tk 11 15 (I Q q) 72 e ?_;refine tk 12 15 (δ (J ⟨b,q,O⟩)) 73 e ?_;refine tk 13 15 (I .u8 c) 74 e ?_;refine Ah (i:=14) Ab ?_;refine ri rfl (λK' hK=> ?_);go_simp;refine b6.mono ?_;rintro r w5 ⟨rfl,c5,a0⟩;refine hK _ _ ⟨λh=>κ rfl h, ?_⟩;clear hK;refine Am Ab ?_;have HO5:=Af (HO.drew.trans c5);have HST5:=Af a0;clear c5 a0;exact aaA
  have d4:¬(j:Z)<(nn:Z):=Aa;have d5:j=nn:=Aa;clear M f B;go_wp2_with fail;go_end0;subst d5;exact⟨rfl,HO,a3,_,0,⟨ha3,.inl ⟨HK,rfl⟩⟩,n⟩
 have HE:=Af (a4 he3);have hb:((e3:Z)==0)=false:=by rw[re];omega
 go_wp2_with fail;go_loop [9] (λi=>i=I Q 0) (λ_=>0)
 .rfl
 subst hrel;by_cases x:0<nn
 .have v:(0:Z)<(nn:Z):=Aa;exact Wp
 have v:¬(0:Z)<(nn:Z):=Aa;exact Wp
def JA(w:U)(g i:N):N:=match w.cell? ⟨g,i,O⟩ with|some (I _ n)=>n.toNat|_=>0
def AP{w:U}{g i n:N}(h:w.cell? ⟨g,i,O⟩=J (I Q n)):JA w g i=n:=by unfold JA;rw[h];exact rO _
def QF{s:Y}{L D:E N}{a:N}{l:E υ}(h:dec s L a=O):Er s L D a l=.inl (.inr 2):=by unfold Er;rw[h]
def Tn{s:Y}{L D:E N}{a a1:N}{l:E υ}(h:dec s L a=J (256,a1)):Er s L D a l=.inl (.inl (a1,l)):=by unfold Er;rw[h];exact rd rfl
def QG{s:Y}{L D:E N}{a a1 y:N}{l:E υ}(h:dec s L a=J (y,a1))(b:y<256):Er s L D a l=if 20000<=l.length then .inl (.inr 1) else .inr (a1,(l++[b8 y])):=by
 unfold Er;rw[h];show(if y=256 then _ else _)=_;rw[rc Aa,rd b]
def QH{s:Y}{L D:E N}{a a1 y:N}{l:E υ}(h:dec s L a=J (y,a1))(b:285<y):Er s L D a l=.inl (.inr 2):=by
 unfold Er;rw[h];show(if y=256 then _ else _)=_;rw[rc Aa,rc Aa,rd b]
def Ms{s:Y}{L D:E N}{a a1 y:N}{l:E υ}(h:dec s L a=J (y,a1))(b:256<y)(c:y<=285):Er s L D a l=EL s D y a1 l:=by
 unfold Er;rw[h];show(if y=256 then _ else _)=_;rw[rc Aa,rc Aa,rc Aa]
def ED{s:Y}{L D:E N}{a:N}{l:E υ}{r:ZK}(h:Er s L D a l=.inl r):EU s L D a l=r:=by rw[Km,h]
def RW{s:Y}{L D:E N}{a a' :N}{l b :E υ}(h:Er s L D a l=.inr (a',b)):EU s L D a l=EU s L D a' b :=by rw[Km,h]
def ZO{s:Y}{D:E N}{y a1:N}{o:E υ}{a' :N}{a :E υ}(h:EL s D y a1 o=.inr (a',a)):a.length<=20000:=by
 unfold EL at h;split at h
 .cases h
 split at h
 .cases h
 split at h
 .cases h
 split at h
 .cases h
 split at h
 .cases h
 split at h
 .cases h
 injection h with h;injection h with h1 h2;rw[<-h2,Kl];omega
def ZP(s:Y)(r:ZK)(a' :N)(l' :E υ)(e' :N):Prop:=a' <=8*s.size/\l'.length<=20000/\((r=.inl (a',l')/\e' =0)\/(r=.inr e' /\e' ≠0))
def Nk(g:N)(S:N->Prop)(q:S g)(s:Y)(hs:s.size<=140737488355328)(a:N)(l:E υ)(hl:l.length<=20000)(ha:a<=8*s.size)
 (gl ol cl:N)(L:E N)(hL:L.length<=400)(b7:¬S gl)(gd od cd:N)(D:E N)(hD:D.length<=400)(b6:¬S gd)(w:U)(hF:Bs S w)(h:St w g S s a l 0)(a5:Bx w gl ol L)(a4:Bx w gd od D):
 μ prog 194 #[δ (J ⟨g,0,O⟩),K (J ⟨gl,ol,O⟩) L.length cl,K (J ⟨gd,od,O⟩) D.length cd] w λr w' =>
  r=ε (.tuple #[])/\Ag S w w' /\∃a' d o,ZP s (EU s L D a l) a' d o /\St w' g S s a' d o :=by
 have b5:=Af h;have b4:=Af a5;have b3:=Af a4;clear h a5 a4;go_in;go_wp2;go_loopw [6,19,29,36] (λ_ _ _ _ wr=> ∃a' d o,χ (St wr g S s a' d o /\a' <=8*s.size/\d.length<=20000/\((o =0/\EU s L D a l=EU s L D a' d)\/(o ≠0/\EU s L D a l=.inr o)))/\χ (Ag S w wr)) (λ_ _ _ _ wr=>8*s.size+1- JA wr g 1)
 .exact ⟨a,l,0,⟨b5,ha,hl,.inl ⟨rfl,rfl⟩⟩,Ag.refl _ w⟩
 obtain⟨a',d,o,HI,HO⟩:=hrel;obtain⟨c0,a6,m,v⟩:=uh HI;obtain⟨ao,cp,R,H,M⟩:=c0;have a7:=R.c3;by_cases he:o =0
 .subst he;have k:χ (EU s L D a l=EU s L D a' d):=by rcases v with⟨_,h⟩|⟨h,_⟩;exact h;exact κ rfl h
  have T:=Af (Oz g s hs a' (K ao d.length cp) 0 a6 gl ol cl L hL wr R (b4.kept (uh HO) b7));have HM:=Af (AP R.c1);have HR:=Af R;have W:=Af H;have a0:=Af M;have a8 :wr.cell? ⟨g,3,O⟩=J (I Q 0):=a7;clear v R H M a7 HI;go_wp2_with fail;refine T.mono ?_;rintro r w1 ⟨y,a1,e1,rfl,h1,t,x⟩;have A:=t.c3;have i:=Af (HO.trans (x.of_g q));have j:=Af (St.next (uh HR) (uh W) (uh a0) x t);have H1:=Af h1;have n:=h1.1.2;have V:=Af x;have c4:y<=400:=rz h1.2.1 hL;clear a8 h1 x T;by_cases F:e1=0
  .subst F;have p:=Af (H1.ok rfl);have c8:=(FR (uh p)).1;have b9 :w1.cell? ⟨g,3,O⟩=J (I Q 0):=A;have a3:Bs S w1:=hF.mono i.size;clear A;by_cases hy:y=256
   .subst hy;go_wp2_with fail;refine rU (tW rfl _ _ _) rfl ?_;exact⟨rfl,i,a1,d,0,⟨n,m,.inl ⟨by rw[uh k];exact ED (Tn (uh p)),rfl⟩⟩,j⟩
   have c9:((y:Z)==256)=false:=by rw[re];omega
   by_cases a9:y<256
   .have c5:(y:Z)<256:=Aa;have f:=Af (QG (D:=D) (l:=d) (uh p) a9);by_cases u:d.length<20000
    .have C:=Af (KV g S q s a1 d u 0 y a9 w1 a3 (uh j));rw[rc Aa] at f;go_wp2_with (go_at_call 284;refine C.mono ?_;rintro r w2 ⟨rfl,c,b⟩;have e:=Af (i.trans c);have HST2:=Af b;clear c b);go_roundw
     .exact ⟨a1,d ++[b8 y],0,⟨HST2,n,by simp;omega,.inl ⟨rfl,by rw[uh k];exact RW (uh f)⟩⟩,e⟩
     exact aaR
    have C:=Af (VQ g S q s a1 d u 0 y w1 (uh j));rw[rd Aa] at f;go_wp2_with (go_at_call 284;refine C.mono ?_;rintro r w2 ⟨rfl,c,b⟩;have e:=Af (i.trans c);have HST2:=Af b;clear c b);go_roundw
    .exact ⟨a1,d,1,⟨HST2,n,m,.inr ⟨Aa,by rw[uh k];exact ED (uh f)⟩⟩,e⟩
    exact aaR
   have c5:¬(y:Z)<256:=Aa;by_cases c2:285<y
   .have b0:(285:Z)<(y:Z):=Aa;have b2:=Af (Cg g s a1 (K ao d.length cp) 0 2 w1 t);have f:=Af (QH (D:=D) (l:=d) (uh p) c2);clear t;go_wp2_with (go_at_call 196;refine b2.mono ?_;rintro r w2 ⟨rfl,hr2,c⟩;have X:=Af hr2;have e:=Af c;clear c hr2);go_roundw
    .exact ⟨a1,d,2,⟨St.next (uh HR) (uh W) (uh a0) (V.trans (uh e)) (uh X),n,m,.inr ⟨Aa,by rw[uh k];exact ED (uh f)⟩⟩,i.trans (e.of_g q)⟩
    rw[uh HM,AP (uh X).c1];omega
   have b0:¬(285:Z)<(y:Z):=Aa;have b1:=Af (VS g S q s hs a1 d m y Aa Aa n gd od cd D hD w1 a3 (uh j) (b3.kept (uh i) b6));have f:=Af (Ms (D:=D) (l:=d) (uh p) Aa Aa);clear t;go_wp2_with (go_at_call 286;refine b1.mono ?_;rintro r w2 ⟨rfl,c,a2,l2,e2,B,b⟩;have e:=Af (i.trans c);have HST2:=Af b;have z:=Af B;clear c b B);go_roundw
   .obtain ⟨h2,P⟩:=uh z;rcases P with⟨P,rfl⟩|⟨P,h4,rfl⟩
    .exact ⟨a2,l2,0,⟨HST2,h2.2,ZO P,.inl ⟨rfl,by rw[uh k];exact RW (f.trans P)⟩⟩,e⟩
    exact⟨a2,l2,e2,⟨HST2,h2.2,m,.inr ⟨h4,by rw[uh k];exact ED (f.trans P)⟩⟩,e⟩
   obtain⟨ao2,cp2,hr2,_⟩:=uh HST2;have c7:=z.1;rw[uh HM,AP hr2.c1];omega
  obtain⟨k1,k2⟩:=H1.bad F;have c6:((e1:Z) !=0)=true:=by rw[rS];omega
  go_wp2_with fail;refine rU (tW rfl _ _ _) rfl ?_;exact⟨rfl,i,a1,d,e1,⟨n,m,.inr ⟨by rw[uh k,k2];exact ED (QF k1),F⟩⟩,j⟩
 have hb:((o :Z)==0)=false:=by rw[re];omega
 have HE:χ (EU s L D a l=.inr o):=by rcases v with⟨h,_⟩|⟨_,h⟩;exact κ h he;exact h
 clear v R H M;go_wp2_with fail;go_end0;exact⟨rfl,HO,a',d,o,⟨a6,m,.inr ⟨HE,he⟩⟩,HI.1⟩
def Gw(L:E N)(x:N):Ip (L++[x])=Ip L+if x=0 then 0 else 2^(15- x):=by simp[Ip]
def Fn(L:E N)(x:N):EV (L++[x])=EV L+if x=0 then 0 else 1:=by
 unfold EV;rw[tK,qU];by_cases h:x=0
 .subst h;simp
 simp[h]
def take_getD(L:E N)(i:N)(h:i<L.length):L.take (i+1)=L.take i++[L.getD i 0]:=by
 rw[xw h,qT,qY h];rfl
def RX(L:E N)(i:N):Ip (L.take i)<=16384*i/\EV (L.take i)<=i:=by
 induction i with
 |zero=>simp[Ip,EV]
 |succ i ih=>
  by_cases h:i<L.length
  .rw[take_getD L i h,Gw,Fn];have hp:1<=L.getD i 0->2^(15- L.getD i 0)<=16384:=λa=>rG (n:=2) Aa (show 15- L.getD i 0<=14 by omega)
   constructor
   .split
    .omega
    have:=hp Aa;omega
   split<;>omega
  rw[sE Aa] at ih ⊢;omega
def oK{l:N}(h:l<=15):(32768:Z)/2^l=((2^(15- l):N):Z):=by
 have:(32768:N)/2^l=2^(15- l):=by
  rw[show(32768:N)=2^15 from rfl,Nat.pow_div h Aa]
 rw[<-this,sR,so];rfl
def OC(b:Bool)(t g cap:N)(L:E N)(hL:L.length<=400)(k: ∀j,L.getD j 0<=15)(w:U)(T:Bx w t g L):
 μ prog 287 #[K (J ⟨t,g,O⟩) L.length cap,.bool b] w λr w' =>r=ε (.bool (if b then Gj L else Ei L))/\w' =w:=by
 have W:=Af T;have q:=Af k;clear T k;go_in;go_wp2_with fail;go_loop [5,6,7] (λx y z=> ∃su a i:N,i<=L.length/\su<=6553600/\a<=400/\x=I Q su/\y=I Q a/\z=I Q i/\χ (su=Ip (L.take i)/\a=EV (L.take i))) (λ_ _ z=>L.length- (intOf z).toNat)
 .exact abo
 obtain⟨su,a,i,hi,P,F,rfl,rfl,rfl,o⟩:=hrel;by_cases l:i<L.length
 .have f:=W.cell l;have e:=q i;have h:=Af (take_getD L i l);have s:=Af (RX L (i+1));generalize L.getD i 0=x at f e h;by_cases R:x=0
  .subst R;have V :w.cell? ⟨t,g+i,O⟩=J (I Q 0):=f;clear f;go_wp2_with fail;go_round
   .obtain ⟨h1,c⟩:=uh o;exact⟨su,a,i+1,Aa,P,F,rfl,rfl,by go_num,⟨by rw[uh h,Gw,<-h1];rfl,by rw[uh h,Fn,<-c];rfl⟩⟩
   exact Ae
  have a1:(0:Z)<(x:Z):=Aa;have a0:(0:Z)<=(x:Z):=Aa;have M:=oK e;have H:2^(15- x)<=16384:=rG (n:=2) Aa (show 15- x<=14 by omega);have S:χ (Ip (L.take (i+1))=su+2^(15- x)/\EV (L.take (i+1))=a+1):=by
   obtain⟨h1,c⟩:=uh o;exact⟨by rw[uh h,Gw,<-h1,rc R],by rw[uh h,Fn,<-c,rc R]⟩
  generalize 2^(15- x)=p at M H S;have X:((x:Z)).toNat=x:=rO x;go_wp2_with fail;go_round
  .obtain ⟨h1,c⟩:=uh S;obtain⟨u,v⟩:=uh s;exact⟨su+p,a+1,i+1,Aa,Aa,Aa,by go_num,by go_num,by go_num,⟨h1.symm,c.symm⟩⟩
  exact Ae
 have D:i=L.length:=Aa;have m:χ (Ip L=su/\EV L=a):=by
  obtain⟨h1,c⟩:=uh o;rw[D,sr] at h1 c;exact⟨h1.symm,c.symm⟩
 clear o;have HFS:χ (Ei L=(su==32768)):=by unfold χ Ei;rw[(uh m).1]
 have d:χ (Gj L=(su==32768||a==0||(a==1&&su==16384))):=by unfold χ Gj;rw[(uh m).1,(uh m).2]
 clear m;cases b with
 |false=>
  exact Hb
 |true=>
  by_cases h1:su=32768
  .have hb1:((su:Z)==32768)=true:=by rw[tT];omega
   go_wp2;go_ret;exact⟨Bb (rI Value.bool (by show θ=Gj L;rw[uh d];simp[h1])),rfl⟩
  have hb1:((su:Z)==32768)=false:=by rw[re];omega
  by_cases c:a=0
  .have A:((a:Z)==0)=true:=by rw[tT];omega
   go_wp2;go_ret;exact⟨Bb (rI Value.bool (by show θ=Gj L;rw[uh d];simp[c])),rfl⟩
  have A:((a:Z)==0)=false:=by rw[re];omega
  by_cases u:a=1
  .have B:((a:Z)==1)=true:=by rw[tT];omega
   by_cases v:su=16384
   .have C:((su:Z)==16384)=true:=(by rw[tT];omega);go_wp2;go_ret;exact⟨Bb (rI Value.bool (by show θ=Gj L;rw[uh d];simp[u,v])),rfl⟩
   have C:((su:Z)==16384)=false:=by rw[re];omega
   go_wp2;go_ret;exact⟨Bb (rI Value.bool (by show ι=Gj L;rw[uh d];simp[h1,c,v])),rfl⟩
  have B:((a:Z)==1)=false:=by rw[re];omega
  go_wp2;go_ret;exact⟨Bb (rI Value.bool (by show ι=Gj L;rw[uh d];simp[h1,c,u])),rfl⟩
def Ar(l:E N):E β:=l.map λ(n:N)=>Value.int Q (n:Z)
def RY(l:E N)(j:N)(h:j<l.length):(Ar l)[j]? =J (I Q (l.getD j 0:N)):=by
 simp[Ar,qT,h]
def Jf:(prog.info? 3).map (λi=>(i.zero,i.size,i.bytes))=J (J (I Q 0),1,8):=Ab
def Ej{wr:U}{n:Z}: ∀j u,[Value.int Q n][j]? =J u->(wr.alloc (γ #[I Q n] 3)).cell? ((⟨wr.heap.size,0,O⟩:Addr).add j)=J u:=by
 intro j u a;rw[rH,rx,qV _ _ j _ 3 (0,0) (rh wr _)];simpa using a
def BP{w:U}{base:N}{e:TypeId}{v:β}{n:N}{g:E β}(h:w.ownsRow base e 1 v n g): ∀b,v.ownBlock=J b->base<=b:=by
 intro b a;obtain⟨_,h|⟨i,cap,c,f,d,_⟩⟩:=h
 .rw[h.1] at a;cases a
 rw[f] at a;injection a with a;subst a;exact d
def Bx.ofOwns{w:U}{base b cap n:N}{l:E N}(o:l.length=n)(h:w.ownsRow base 3 1 (K (J ⟨b,0,O⟩) n cap) n (Ar l)):Bx w b 0 l:=by
 obtain⟨m,h|⟨k,i,a,g,_,c,e,_,p,f⟩⟩:=h
 .cases h.1
 injection g with hv1 hv2 hv3;injection hv1 with hv1;injection hv1 with hv1;subst hv1;refine⟨a,c,λj d=> ?_⟩;rw[<-RY l j d,<-f,td,rd Aa,sC,rx]
def BH:BO.length=288:=by rw[BO,qU,qU,qU,rP,rP,rP,rP]
def di:(List.range 288).all (λi=>decide (BO.getD i 0=if i<144 then 8 else if i<256 then 9 else if i<280 then 7 else 8))=true:=by decide+kernel
def To(i:N)(h:i<288):BO.getD i 0=if i<144 then 8 else if i<256 then 9 else if i<280 then 7 else 8:=by
 have:=rV.1 di i (rJ.2 h);simpa using this
def FF(i:N)(h:i<288){n:N}(a:(if i<144 then 8 else if i<256 then 9 else if i<280 then 7 else 8)=n):BO.getD i 0=n:=(To i h).trans a
def ZQ(i:N)(h:i<32):Cz.take (i+1)=Cz.take i++[5]:=by
 have e:Cz.getD i 0=5:=by rw[Cz,qT,tI,rd h];rfl
 rw[take_getD _ _ (by rw[Cz,rP];exact h),e]
def ZR(w:U):
 μ prog 193 #[] w λr w' => ∃d c1 g2 c2,r=ε (.tuple #[K (J ⟨d,0,O⟩) 288 c1,K (J ⟨g2,0,O⟩) 32 c2])/\Bx w' d 0 BO/\Bx w' g2 0 Cz/\w.heap.size<=d/\w.heap.size<=g2/\Al w w' :=by
 obtain⟨i0,hi0,hz0,hz1,hz2⟩:=rN Jf;go_in;go_wp2;go_loopw [2,3,4] (λv x _ wr=> ∃(i:N) (ao:Option Addr) (cap:N),i<=288/\v=K ao i cap/\x=I Q i/\χ (wr.ownsRow w.heap.size 3 1 (K ao i cap) i (Ar (BO.take i)))/\χ (Al w wr)) (λ_ x _ _=>288- (intOf x).toNat)
 .exact ⟨0,O,0,Aa,rfl,rfl,rF _ _ _ _,Ag.refl _ w⟩
 obtain⟨i,ao,cap,B,rfl,rfl,h,HO⟩:=hrel;by_cases hlt:i<288
 .by_cases o:i<144
  .have g:BO.getD i 0=8:=FF i hlt (rd o);have HNW:=Af (Ej (wr:=wr) (n:=8));have HOW:χ ((wr.alloc (γ #[I Q 8] 3)).ownsRow w.heap.size 3 1 (K ao i cap) i (Ar (BO.take i))):=h.alloc _;have HSZ:χ (w.heap.size<=(wr.alloc (γ #[I Q 8] 3)).heap.size):=by have:=HO.size;unfold χ;simp only[rr];omega
   have HV:=Af g;clear g;have y:¬(144:Z)<=(i:Z):=Aa;have z:¬(256:Z)<=(i:Z):=Aa;exact abF
  by_cases s:i<256
  .have g:BO.getD i 0=9:=FF i hlt (by rw[rc o,rd s]);have HNW:=Af (Ej (wr:=wr) (n:=9));have HOW:χ ((wr.alloc (γ #[I Q 9] 3)).ownsRow w.heap.size 3 1 (K ao i cap) i (Ar (BO.take i))):=h.alloc _;have HSZ:χ (w.heap.size<=(wr.alloc (γ #[I Q 9] 3)).heap.size):=by have:=HO.size;unfold χ;simp only[rr];omega
   have HV:=Af g;clear g;have y:(144:Z)<=(i:Z):=Aa;have z:¬(256:Z)<=(i:Z):=Aa;have C:(i:Z)<256:=Aa;go_wp2_with (at_builtin;refine wpList_append_lies _ rfl (.tmp 23) (.tmp 25) 33 rfl w.heap.size 3 i0 (I Q 0) 1 8 underlying33 hi0 hz0 hz1 hz2 rfl Aa (K ao i cap) i _ rfl (uh HOW) ⟨wr.heap.size,0,O⟩ 1 1 [I Q 9] rfl rfl (uh HNW) (by intro u hu;simp at hu;subst hu;rfl) Aa (by unfold maxLen;omega) Aa (uh HSZ) _ rfl ?_;intro g2 cap2 w3 ho3 hg3 hl3 hlt3;have HO3:=Af ho3;have HG3:=Af hg3;have HB:=Af (BP (uh HOW));clear ho3 hg3 hl3);go_roundw
   .refine ⟨i+1,J ⟨g2,0,O⟩,cap2,Aa,rfl,by go_num, ?_, ?_⟩
    .have e:Ar (BO.take (i+1))=Ar (BO.take i)++[I Q 9]:=(by rw[take_getD _ _ (by rw[BH];exact hlt),uh HV];simp[Ar]);rw[e];exact HO3
    exact zt
   exact Ae
  by_cases A:i<280
  .have g:BO.getD i 0=7:=FF i hlt (by rw[rc o,rc s,rd A]);have HNW:=Af (Ej (wr:=wr) (n:=7));have HOW:χ ((wr.alloc (γ #[I Q 7] 3)).ownsRow w.heap.size 3 1 (K ao i cap) i (Ar (BO.take i))):=h.alloc _;have HSZ:χ (w.heap.size<=(wr.alloc (γ #[I Q 7] 3)).heap.size):=by have:=HO.size;unfold χ;simp only[rr];omega
   have HV:=Af g;clear g;have y:(144:Z)<=(i:Z):=Aa;have z:(256:Z)<=(i:Z):=Aa;have C:¬(i:Z)<256:=Aa;have F:(i:Z)<280:=Aa;go_wp2_with (at_builtin;refine wpList_append_lies _ rfl (.tmp 23) (.tmp 25) 33 rfl w.heap.size 3 i0 (I Q 0) 1 8 underlying33 hi0 hz0 hz1 hz2 rfl Aa (K ao i cap) i _ rfl (uh HOW) ⟨wr.heap.size,0,O⟩ 1 1 [I Q 7] rfl rfl (uh HNW) (by intro u hu;simp at hu;subst hu;rfl) Aa (by unfold maxLen;omega) Aa (uh HSZ) _ rfl ?_;intro g2 cap2 w3 ho3 hg3 hl3 hlt3;have HO3:=Af ho3;have HG3:=Af hg3;have HB:=Af (BP (uh HOW));clear ho3 hg3 hl3);go_roundw
   .refine ⟨i+1,J ⟨g2,0,O⟩,cap2,Aa,rfl,by go_num, ?_, ?_⟩
    .have e:Ar (BO.take (i+1))=Ar (BO.take i)++[I Q 7]:=(by rw[take_getD _ _ (by rw[BH];exact hlt),uh HV];simp[Ar]);rw[e];exact HO3
    exact zt
   exact Ae
  have g:BO.getD i 0=8:=FF i hlt (by rw[rc o,rc s,rc A]);have HNW:=Af (Ej (wr:=wr) (n:=8));have HOW:χ ((wr.alloc (γ #[I Q 8] 3)).ownsRow w.heap.size 3 1 (K ao i cap) i (Ar (BO.take i))):=h.alloc _;have HSZ:χ (w.heap.size<=(wr.alloc (γ #[I Q 8] 3)).heap.size):=by have:=HO.size;unfold χ;simp only[rr];omega
  have HV:=Af g;clear g;have y:(144:Z)<=(i:Z):=Aa;have z:(256:Z)<=(i:Z):=Aa;have C:¬(i:Z)<256:=Aa;have F:¬(i:Z)<280:=Aa;exact abF
 have f:i=288:=Aa;have a:χ (wr.ownsRow w.heap.size 3 1 (K ao 288 cap) 288 (Ar BO)):=by
  have:=uh h;rw[f,sE (by rw[BH];exact rj _)] at this;exact this
 have t:(i:Z)=288:=Aa;obtain⟨d,c1,b,m,_⟩:=a.form Aa;injection b with b hv2 hv3;subst b hv3;have c:=Af (Bx.ofOwns BH (uh a));subst f;have j:((288:N):Z)=288:=rfl;rw[j];clear h a B hlt j t;go_wp2;go_loopw [5,6] (λv x wr=> ∃(i:N) (ao:Option Addr) (cap:N),i<=32/\v=K ao i cap/\x=I Q i/\χ (wr.ownsRow (d+1) 3 1 (K ao i cap) i (Ar (Cz.take i)))/\χ (Al w wr)/\χ (Bx wr d 0 BO)) (λ_ x _=>32- (intOf x).toNat)
 .exact ⟨0,O,0,Aa,rfl,rfl,rF _ _ _ _,HO,c⟩
 obtain⟨i,ao,cap,B,rfl,rfl,h,HO,c⟩:=hrel;by_cases hlt:i<32
 .have HNW:=Af (Ej (wr:=wr) (n:=5));have HOW:χ ((wr.alloc (γ #[I Q 5] 3)).ownsRow (d+1) 3 1 (K ao i cap) i (Ar (Cz.take i))):=h.alloc _;have HSZ:χ (d+1<=(wr.alloc (γ #[I Q 5] 3)).heap.size):=by have:=c.lt;unfold χ;simp only[rr];omega
  have p:=Af (c.kept ((Ag.refl (λ_=>False) wr).alloc (γ #[I Q 5] 3)) (λx=>x));go_wp2_with (at_builtin;refine wpList_append_lies _ rfl (.tmp 31) (.tmp 32) 33 rfl (d+1) 3 i0 (I Q 0) 1 8 underlying33 hi0 hz0 hz1 hz2 rfl Aa (K ao i cap) i _ rfl (uh HOW) ⟨wr.heap.size,0,O⟩ 1 1 [I Q 5] rfl rfl (uh HNW) (by intro u hu;simp at hu;subst hu;rfl) Aa (by unfold maxLen;omega) Aa (uh HSZ) _ rfl ?_;intro g2 cap2 w3 ho3 hg3 hl3 hlt3;have HO3:=Af ho3;have HG3:=Af hg3;have HB:=Af (BP (uh HOW));clear ho3 hg3 hl3);go_roundw
  .refine ⟨i+1,J ⟨g2,0,O⟩,cap2,Aa,rfl,by go_num, ?_, ?_, ?_⟩
   .have e:Ar (Cz.take (i+1))=Ar (Cz.take i)++[I Q 5]:=(by rw[ZQ i hlt];simp[Ar]);rw[e];exact HO3
   .exact zt
   exact p.kept ((Ag.refl (λk=>d<k) _).grown (uh HG3) (λq _ e=>by have:=HB q e;omega)) Aa
  exact Ae
 have f:i=32:=Aa;have a:χ (wr.ownsRow (d+1) 3 1 (K ao 32 cap) 32 (Ar Cz)):=by
  have:=uh h;rw[f,sE (by rw[Cz,rP];exact rj _)] at this;exact this
 obtain⟨g2,c2,b,D,_⟩:=a.form Aa;injection b with b hv2 hv3;subst b hv3;have l:=Af (Bx.ofOwns (by rw[Cz,rP]) (uh a));subst f;clear h a;go_wp2;go_ret2;first
  |exact⟨d,_,g2,_,rfl,c,l,m,Aa,HO⟩
  |exact⟨d,_,g2,⟨_,rfl⟩,c,l,m,Aa,HO⟩
def mg(b:N)(h:b<256):b%2+b/2%2*2+b/4%2*4+b/8%2*8+b/16%2*16+b/32%2*32+b/64%2*64+b/128%2*128=b:=Aa
def qh(s:Y)(q:N):Aq s (8*q) 8=As s q:=by
 have e: ∀j,j<8->AU s (8*q+j)=As s q/2^j%2:=λj a=>by
  unfold AU;rw[show(8*q+j)/8=q by omega,show(8*q+j)%8=j by omega]
 simp only[Aq];rw[e 0 Aa,e 1 Aa,e 2 Aa,e 3 Aa,e 4 Aa,e 5 Aa,e 6 Aa,e 7 Aa];have:=mg (As s q) (Bf s q);simp only[Nat.reducePow,Nat.div_one,ug,rx] at this ⊢;exact this
def NX(a:N):a<=BT a/\BT a<a+8/\BT a%8=0:=by unfold BT;omega
def YO{a n:N}(h:a<=8*n):BT a<=8*n:=by unfold BT;omega
def ZS{a b:N}(h:a<=b)(c:b<=BT a)(d:b%8=0):b=BT a:=by unfold BT at*;omega
def iU{a b:N}(c:b<=BT a)(d:b%8≠0):b<BT a:=by unfold BT at*;omega
def iV{s:Y}{a n a1 d m h c:N}(l:E υ)(e:DD s (BT a) 0 16 n a1 d)(f:DD s a1 d 16 m h c)(j:c≠0):Gi s a l=.inr 2/\c=2:=by
 have g:8*s.size<BT a+32/\c=2:=by
  by_cases b:d=0
  .obtain ⟨i,g2,o⟩:=e.ok b;subst b;obtain⟨p,k⟩:=f.bad j;exact⟨Aa,k⟩
  obtain⟨i,g2⟩:=e.bad b;exact⟨Aa,by rw[f.stay b,g2]⟩
 unfold Gi;exact⟨rd g.1,g.2⟩
def mh{s:Y}{a n a1 e1 m b d:N}(l:E υ)(f:DD s (BT a) 0 16 n a1 e1)(h2:DD s a1 e1 16 m b d)(he:d=0):
 b=BT a+32/\b<=8*s.size/\Gi s a l=if n+m≠65535 then .inr 2 else if 20000<l.length+n then .inr 1 else if 8*s.size<b+8*n then .inr 2 else .inl ((b+8*n),(l++JG s (BT a/8+4) n)):=by
 have c:e1=0:=aaN;obtain⟨i,g2,j⟩:=f.ok c;subst c;obtain⟨k,g,o⟩:=h2.ok he;have e:b=BT a+32:=Aa;refine⟨e,Aa, ?_⟩;unfold Gi;rw[rc Aa,<-g2,show BT a+16=a1 by omega,<-g,e]
def dj(g:N)(S:N->Prop)(hSg:S g)(s:Y)(hs:s.size<=140737488355328)(a:N)(l:E υ)(hl:l.length<=20000)(ha:a<=8*s.size)(w:U)(hF:Bs S w)(h:St w g S s a l 0):
 μ prog 192 #[δ (J ⟨g,0,O⟩)] w λr w' =>
  r=ε (.tuple #[])/\Ag S w w' /\∃a' l' u,ZP s (Gi s a l) a' l' u /\St w' g S s a' l' u :=by
 obtain⟨ao,cp,hr,c8,d0⟩:=h;have HR:=Af hr;have HOW:=Af c8;have HSA:=Af d0;clear hr c8 d0;have f2:=YO ha;go_in;go_wp2;go_loopw [] (λwr=> ∃b,a<=b/\b<=BT a/\wr.cell? ⟨g,1,O⟩=J (I Q (b:N))/\χ (Rd wr g s b (K ao l.length cp) 0)/\χ (Ag (λk=>k=g) w wr)) (λwr=>BT a- JA wr g 1)
 .exact ⟨a,rj _,(NX a).1,HR.c1,HR,Ag.refl _ w⟩
 obtain⟨b,b3,R,b4,y,HO⟩:=hrel;have e6:=y.thaw 1;by_cases hm:b%8=0
 .have e3:=ZS b3 R hm;subst e3;have c0:(((BT a:N):Z)%8 !=0)=false:=by rw[vM];omega
  have X:=Af (Cj g s hs (BT a) (K ao l.length cp) 0 16 Aa f2 wr (uh y));clear e6;go_wp2_with fail;refine X.mono ?_;rintro r w1 ⟨n,a1,e1,rfl,h1,c9,c5⟩;have a0:=Af (Cj g s hs a1 (K ao l.length cp) e1 16 Aa h1.2.1 w1 c9);have c4:=h1.1;have H1:=Af h1;have d5:=Af (HO.trans c5);clear h1 c9 c5 X b4 c0 b3 R;go_wp2_with fail;refine a0.mono ?_;rintro r w2 ⟨m,a2,e2,rfl,h2,d,c6⟩;have b9:=h2.1;have H2:=Af h2;have HO2:=Af (d5.trans c6);have c:=d.c3;have e5:=d.c2;have HR2:=Af d;have ha2:=h2.2.1;have f8:n<65536:=c4;have f7:m<65536:=b9;clear h2 d c6 a0 c4 b9;by_cases z:e2=0
  .subst z;obtain⟨b2,_,q⟩:=mh l (uh H1) (uh H2) rfl;have HRW:=Af q;have d2:=Af b2;have hc3' :w2.cell? ⟨g,3,O⟩=J (I Q 0):=c;clear q b2 c;by_cases M:n+m=65535
   .have V:((n:Z)+(m:Z) !=65535)=false:=(by rw[vM];omega);rw[rc Aa] at HRW;by_cases C:20000<l.length+n
    .have d9:(20000:Z)<(l.length:Z)+(n:Z):=Aa;rw[rd C] at HRW;have HFA:=Af (Cg g s a2 (K ao l.length cp) 0 1 w2 (uh HR2));go_wp2_with fail;refine HFA.mono ?_;rintro r w4 ⟨rfl,hr4,ho4⟩;have HO4:=Af (HO2.trans ho4);have hr4' :Rd w4 g s a2 (K ao l.length cp) 1:=hr4;have hc4:w4.cell? ⟨g,3,O⟩=J (I Q 1):=hr4'.c3;have HR4:=Af hr4';clear ho4 hr4 hr4' hc3';go_wp2_with fail;go_loop [4,5] (λi _=>i=I Q 0) (λ_ _=>0)
     .rfl
     subst hrel;by_cases hnn:0<n
     .have hnI:(0:Z)<(n:Z):=Aa;exact WH
     have hnI:¬(0:Z)<(n:Z):=Aa;exact WH
    have d9:¬(20000:Z)<(l.length:Z)+(n:Z):=Aa;rw[rc C] at HRW;have a7:=Af (St.next (uh HR) (uh HOW) (uh HSA) (uh HO2) (uh HR2));have a3:=Af (HO2.of_g hSg);have b0:a2%8=0/\a2/8=BT a/8+4:=by have:=(NX a).2.2;have:=uh d2;omega
    have d1:=Af b0;clear HR HOW HSA HO2 HR2 b0;go_wp2_with fail;clear e5 hc3';go_loopw [4,5] (λi _ wr=> ∃(j u :N),j<=n/\i=I Q j/\wr.cell? ⟨g,3,O⟩=J (I Q u)/\χ (∃a' l',St wr g S s a' l' u /\a' <=8*s.size/\l'.length<=20000/\((u =0/\a' =a2+8*j/\l' =l++JG s (BT a/8+4) j)\/(u =2/\8*s.size<a2+8*n)))/\χ (Ag S w wr)) (λi _ _=>n- (intOf i).toNat)
    .obtain ⟨a8,a9,o,_⟩:=uh a7;exact⟨0,0,Aa,rfl,o.c3,⟨a2,l,a7,ha2,hl,.inl ⟨rfl,Aa,by simp[JG]⟩⟩,a3⟩
    obtain⟨j,u,hj,rfl,c,HI,HO⟩:=hrel;obtain⟨a',l',t,ha',hl',hcs⟩:=uh HI;by_cases he:u =0
    .subst he;obtain⟨_,e,f⟩:0=0/\a' =a2+8*j/\l' =l++JG s (BT a/8+4) j:=by
      rcases hcs with h|⟨h,_⟩
      .exact h
      cases h
     have hc3' :wr.cell? ⟨g,3,O⟩=J (I Q 0):=c;clear hcs c;by_cases e7:j<n
     .have T:(j:Z)<(n:Z):=Aa;obtain⟨a8,a9,o,F,H⟩:=t;have d4:=Af (Cj g s hs a' (K a8 l'.length a9) 0 8 Aa ha' wr o);have d7:=Af o;have a5:=Af F;have a6:=Af H;have x:=Af e;have P:=Af f;have e9:l'.length<20000:=(by rw[f,qU,Tj];omega);clear o F H e f HI;go_wp2_with fail;refine d4.mono ?_;rintro r w4 ⟨v,a4,e4,rfl,h4,hr4,ho4⟩;have hc4:=hr4.c3;have hv:v<256:=h4.1;have A:=Af (St.next (uh d7) (uh a5) (uh a6) ho4 hr4);have HO4:=Af (HO.trans (ho4.of_g hSg));have H4:=Af h4;have b1:=h4.2.1;clear h4 hr4 ho4 hc3';by_cases b6:e4=0
      .subst b6;have D :w4.cell? ⟨g,3,O⟩=J (I Q 0):=hc4;have d8:=Af (KV g S hSg s a4 l' e9 0 v hv w4 (hF.mono HO4.size) (uh A));clear hc4;go_wp2_with (go_at_call 284;refine d8.mono ?_;rintro r w5 ⟨rfl,c7,L⟩;have d6:=Af (HO4.trans c7);have B:=Af L;clear c7 L);go_roundw
       .obtain ⟨k1,k2,k3⟩:=H4.ok rfl;obtain⟨q1,q2⟩:=uh d1;have e:=uh x;have e8:a' =8*(BT a/8+4+j):=Aa;have f3:v=As s (BT a/8+4+j):=(by rw[k2,e8,qh]);obtain⟨f4,f5,f1,_⟩:=uh B;refine⟨j+1,0,Aa,by go_num,f1.c3,⟨a4,l' ++[b8 v],B,b1,by simp;omega,.inl ⟨rfl,Aa, ?_⟩⟩,d6⟩;rw[ZL,<-rm,<-uh P,f3]
       exact Ae
      obtain⟨k1,k2⟩:=H4.bad b6;have d3:=Af k1;subst k2;have D :w4.cell? ⟨g,3,O⟩=J (I Q 2):=hc4;clear hc4 k1;go_wp2;go_roundw
      .exact ⟨j+1,2,Aa,by go_num,D,⟨a4,l',A,b1,Aa,.inr ⟨rfl,by have:=uh d3;have:=uh x;omega⟩⟩,HO4⟩
      exact Ae
     have T:¬(j:Z)<(n:Z):=Aa;have b7:j=n:=Aa;have HST9:=Af t;have x:=Af e;have P:=Af f;clear t e f HI;go_wp2_with fail;go_end0;have W:=uh HRW;have e:=uh x;rw[b7] at e;rw[rc Aa,<-e,<-b7,<-uh P] at W;exact⟨rfl,HO,a',l',0,⟨ha',hl',.inl ⟨W,rfl⟩⟩,HST9⟩
    obtain⟨z,e0⟩:u =2/\8*s.size<a2+8*n:=abn;subst z;have hc3' :wr.cell? ⟨g,3,O⟩=J (I Q 2):=c;have HST9:=Af t;have W:=uh HRW;rw[rd e0] at W;have H9:=Af W;clear t hcs c HI W;by_cases e7:j<n
    .have T:(j:Z)<(n:Z):=Aa;exact aad
    have T:¬(j:Z)<(n:Z):=Aa;exact aad
   have V:((n:Z)+(m:Z) !=65535)=true:=by rw[rS];omega
   rw[rd M] at HRW;have HFA:=Af (Cg g s a2 (K ao l.length cp) 0 2 w2 (uh HR2));exact zA
  obtain⟨q,b5⟩:=iV l (uh H1) (uh H2) z;have HRW:=Af q;subst b5;have hc3' :w2.cell? ⟨g,3,O⟩=J (I Q 2):=c;clear q c;by_cases M:n+m=65535
  .have V:((n:Z)+(m:Z) !=65535)=false:=by rw[vM];omega
   go_wp2_with fail;go_loop [4,5] (λi _=>i=I Q 0) (λ_ _=>0)
   .rfl
   subst hrel;by_cases hnn:0<n
   .have hnI:(0:Z)<(n:Z):=Aa;exact WG
   have hnI:¬(0:Z)<(n:Z):=Aa;exact WG
  have V:((n:Z)+(m:Z) !=65535)=true:=by rw[rS];omega
  have HFA:=Af (Cg g s a2 (K ao l.length cp) 2 2 w2 (uh HR2));exact zA
 have c0:((b:Z)%8 !=0)=true:=by rw[rS];omega
 have f0:=iU R hm;have HM:=Af (AP b4);have f6:b<=1125899906842624:=Aa;go_wp2;go_roundw
 .have d:=y.set1 (v:=I Q ((b:Z)+1)) (a' :=b+1) rfl;exact⟨b+1,Aa,f0,d.c1,d,HO.setCell (p:=⟨g,1,O⟩) (λ_=>rfl) _⟩
 have d:=y.set1 (v:=I Q ((b:Z)+1)) (a' :=b+1) rfl;rw[uh HM,AP d.c1];omega
