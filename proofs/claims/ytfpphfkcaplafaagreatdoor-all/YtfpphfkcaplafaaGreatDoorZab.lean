import Derived.Test.YtfpphfkcaplafaaGreatDoorZaa
import Derived.OrdersHeld
set_option linter.all false
set_option maxHeartbeats 64000000
set_option maxRecDepth 100000
open _root_ renaming Option.some->J,Option.none->O,Int->Z,Nat->N,Go.Value.int->I,Go.Value.string->G,Go.IntKind.i64->Q,ByteArray->Y,List->E,Go.World->U,Go.Value.slice->K,Go.Value->M,Go.Obj.cells->W,Go.Value.pointer->V,Go.RowKit.Hid->C,Go.Proofs.Tryz.prog->F,Go.Ending.returned->ε,Bool.true->θ,Bool.false->ι,absurd->κ,Go.Calls->μ,UInt8->υ,Array->φ
variable{a a' a1 b base c d e e1 f g h i j m many n y:N}{v:M}{w:U}{s:Y}{D L:E N}{l:E υ}
namespace Go.Proofs.YtfpphfkcaplafaaGreatDoor
open Go.RowKit Go.Proofs.Tryz
section
variable {P:Program} {ops:φ Oper} {Q:Exit->Act->U->Prop} {md:Region.Mode} {S:U->Prop} {L:N}
def Dv(P:Program)(md:Region.Mode)(ops:φ Oper)(Q:Exit->Act->U->Prop)(S:U->Prop)(L:N):N->φ Bool->Act->U->Prop
 |0,ls,a,w=>Region.ready md ops ls=[]/\Q .normal a w
 |n+1,ls,a,w=>(Region.ready md ops ls=[]->Q .normal a w)/\∀i∈Region.ready md ops ls,wpOp P ops Q i (λa' w'=>(i≠L->S w')/\Dv P md ops Q S L n (ls.setIfInBounds i θ) a' w') a w
def Yw(n:N):∀(g:φ Bool) (a:Act) (w:U),Dv P md ops Q S L n g a w->wpAny P md ops Q n g a w:=agR
def NU(md:Region.Mode)(ops:φ Oper)(L i:N):Bool:=i !=L&&(match ops[L]? with|some o=>o.after.any (λe=>Region.binds md e&&e.on==i)|none=>ι)
def iH{f:Oper}(hi:ops[i]? =J f)(hs:Region.noSelect ops=θ)(z:NU md ops L i=θ)
 (hQ:∀c a w,Q (.panic c) (a.put f.dst v) w->Q (.panic c) a w)(n:N):∀(g:φ Bool) (a:Act) (w:U),
  (∀j r,ops[j]? =J r->j≠i->g.getD j θ=ι->(∀e∈r.after,Region.binds md e=θ->e.on≠i)->f.apart ops r=θ)->
  i∈Region.ready md ops g->YieldsIf P ops S f v a->S w->
  Dv P md ops Q S L n (g.setIfInBounds i θ) (a.put f.dst v) w->Dv P md ops Q S L (n+1) g a w:=by
 have:i≠L:=by simp[NU] at z;exact z.1
 induction n with
 |zero=>
  intro g a w _ y R d H;exact afw
 |succ n ih=>
  intro g a w l y R d H;refine⟨λh=>κ (h ▸ y) aaT,λj hj=>?_⟩;rcases Nat.decEq j i with hji|rfl
  .obtain ⟨m,r,p,x⟩:=acL.1 hj;have N5:=(acL.1 y).1;have q:∀e∈r.after,Region.binds md e=θ->e.on≠i:=by
    intro e he D T;have h1:=x e he D;rw[T] at h1;exact afP
   have a0:j≠L:=by
    rintro rfl;simp[NU,p] at z;obtain⟨_,k,hk,D,x⟩:=z;exact q _ (Array.getElem_mem hk) D x
   have x:=wpOp_putIf p (l j r p hji m q) (λq b=>abi hs i f q b hi) (λf b=>abi hs j r f b p) hQ R<|H.2 j (abR hj hji);refine adK (λf p h3=>⟨h3.2.1,ih (g.setIfInBounds j θ) f p ?_ (abR y<|Ne.symm hji) h3.1 (h3.2.1 a0) ?_⟩) x
   .exact afl
   exact ajb
  exact agH
def AL{f:Oper}{b:φ Bool}{a:Act}(d:Option Tmp)(e:ops[i]? =J f)(g:f.dst=d)
 (h:Region.noSelect ops=θ)(j:NU md ops L i=θ)(k:Region.free md ops b i=θ)(l:(Region.ready md ops b).contains i=θ)
 (m:∀c a w,Q (.panic c) (a.put d v) w->Q (.panic c) a w)(o:YieldsIf P ops S f v a)(p:S w)
 (q:Dv P md ops Q S L n (b.setIfInBounds i θ) (a.put d v) w):Dv P md ops Q S L (n+1) b a w:=by
 subst g;exact iH e h j m n b a w (adr e k) (by simpa using l) o p q
def Ah{b:φ Bool}{a:Act}(y:Region.ready md ops b=[i])
 (h:wpOp P ops Q i (λa' w'=>(i≠L->S w')/\Dv P md ops Q S L n (b.setIfInBounds i θ) a' w') a w):Dv P md ops Q S L (n+1) b a w:=aij
def Aj{b:φ Bool}{a:Act}(c:Region.ready md ops b=[])(h:Q .normal a w):Dv P md ops Q S L 0 b a w:=⟨c,h⟩
def Ai{a:Act}(c:P.follows .mixedOrders=θ)
 (h:Dv P .any ops Q S L ops.size (Array.replicate ops.size ι) a w.drew):(Code.region b ops θ).wp P Q a w:=
 wp_region_any c (Yw _ _ _ _ h)
def DE{o:Oper}{b:Act->U->Prop}{a:Act}(c:ops[i]? =J o)(d:o.guard=O)(h:o.wp P a w b Q):wpOp P ops Q i b a w:=by
 unfold wpOp;simp only[c];rw[Wz<|by simp[Region.wanted,d]];exact .inl h
def IJ{o:Oper}{a:Act}(c:o.guard=O)(b:TypeId)(x:Operand)(d:o.op=.load b x)(p:Addr)(e:a.eval x=V (J p))(v:M)
 (h:∀w,S w->(loadVar b p).run P w=.ok v w):YieldsIf P ops S o v a:=by
 refine .inl ⟨by simp[Region.wanted,c],λw b=>?_⟩;unfold execOp;simp only[d,e,Instr.loadAt,Instr.sureAddr,acd,acJ,abS,h w b]
end
open Go.RowKit Go.Maps Go.Proofs.Tryz
section
variable {P:Program} {ops:φ Oper} {Q:Exit->Act->U->Prop} {md:Region.Mode} {S:U->Prop} {L:N}
def VS{a:Type}{ar:φ a}{p:a->Bool}(h:ar.any p=θ):∃x∈ar,p x=true:=by
 obtain⟨i,a,h⟩:=Array.any_eq_true.1 h;exact⟨ar[i],Array.getElem_mem a,h⟩
def Jf(md:Region.Mode)(ops:φ Oper):N->N->N->Bool
 |0,_,_=>ι
 |f+1,k,i=>match ops[k]? with
  |some o=>o.after.any λe=>Region.binds md e&&(e.on==i||Jf md ops f e.on i)
  |none=>ι
def OV(md:Region.Mode)(ops:φ Oper)(ls:φ Bool):Prop:= ∀k o,ops[k]? =J o->ls.getD k ι=θ-> ∀e∈o.after,Region.binds md e=θ->ls.getD e.on ι=θ
def NV(md:Region.Mode)(ops:φ Oper)(ls:φ Bool):Bool:=(List.range ops.size).all λk=> !ls.getD k ι||((ops[k]?).map (·.after.all λe=> !Region.binds md e||ls.getD e.on ι)).getD θ
def Uo{ls:φ Bool}(h:NV md ops ls=θ):OV md ops ls:=by
 intro k o a d e f g;have b:k<ops.size:=by
  rcases wM k ops.size with h|h
  .exact h
  rw[wO h] at a;cases a
 have c:=wC.1 h k<|wh.2 b;rw[d,a] at c;have b:o.after.all (λe=> !Region.binds md e||ls.getD e.on ι)=true:=by simpa using c
 have a:=acr.1 b e f;rw[g] at a;simpa using a
def Nk{b:φ Bool}(c:OV md ops b):∀(f k i:N),b.getD k ι=θ->Jf md ops f k i=θ->b.getD i ι=θ
 |0,k,i,_,h=>akU
 |f+1,k,i,g,h=>by
  rw[Jf] at h;split at h
  .rename_i o b;obtain⟨e,j,a⟩:=VS h;simp only[wo,abt,aaB] at a;have d:=c k o b g e j a.1;rcases a.2 with h2|h2
   .rw[<-h2];exact d
   exact Nk c f e.on i d h2
  cases h
def Yx{b:φ Bool}(h:b.getD j ι=θ):(b.setIfInBounds i θ).getD j ι=true:=by
 have a:j<b.size:=by
  rcases wM j b.size with h1|h1
  .exact h1
  rw[abG,wO h1] at h;cases h
 rw[abG] at h ⊢;rw[wR];by_cases e:i=j
 .subst e;rw[Wz rfl,Wz a];rfl
 rw[Wx e];exact h
def RJ{b:φ Bool}(l:OV md ops b)(m:j∈Region.ready md ops b):OV md ops<|b.setIfInBounds j θ:=by
 obtain⟨_,_,d,a⟩:=acL.1 m;intro k o c e f g h;by_cases i:j=k
 .subst i;rw[d] at c;injection c with c;subst c;exact Yx<|a f g h
 refine Yx<|l k o c ?_ f g h;rw[abG,wR,Wx i] at e;rw[abG];exact e
def cf{x:Oper}(hi:ops[i]? =J x)(hs:Region.noSelect ops=θ)(a0:i≠L)(hL:Jf md ops (f+1) L i=θ)
 (hQ:∀c a w,Q (.panic c) (a.put x.dst v) w->Q (.panic c) a w)(n:N):∀(g:φ Bool) (a:Act) (w:U),OV md ops g->
  (∀j D,ops[j]? =J D->j≠i->g.getD j θ=ι->(∀e∈D.after,Region.binds md e=θ->e.on≠i)->x.apart ops D=θ)->
  i∈Region.ready md ops g->YieldsIf P ops S x v a->S w->
  Dv P md ops Q S L n (g.setIfInBounds i θ) (a.put x.dst v) w->Dv P md ops Q S L (n+1) g a w:=by
 induction n with
 |zero=>
  intro g a w _ _ y R d H;exact afw
 |succ n ih=>
  intro g a w p l y R d H;refine⟨λh=>κ (h ▸ y) aaT,λj hj=>?_⟩;rcases Nat.decEq j i with hji|rfl
  .obtain ⟨m,D,z,q⟩:=acL.1 hj;have N5:=(acL.1 y).1;have V9:¬g.getD i ι=true:=by
    intro h1;exact afP
   have r:∀e∈D.after,Region.binds md e=θ->e.on≠i:=λe he hb T=>V9<|by rw[<-T];exact q e he hb
   have T:j≠L:=by
    rintro rfl;rw[Jf,z] at hL;obtain⟨e,he,h1⟩:=VS hL;exact ahk
   have h2:=wpOp_putIf z (l j D z hji m r) (λcs b=>abi hs i x cs b hi) (λx b=>abi hs j D x b z) hQ R<|H.2 j (abR hj hji);refine adK (λx z h3=>⟨h3.2.1,ih (g.setIfInBounds j θ) x z (RJ p hj) ?_ (abR y<|Ne.symm hji) h3.1 (h3.2.1 T) ?_⟩) h2
   .exact afl
   exact ajb
  exact agH
def VT{x:Oper}{b:φ Bool}{a:Act}(d:Option Tmp)(h:ops[i]? =J x)(j:x.dst=d)
 (k:Region.noSelect ops=θ)(e:i≠L)(l:Jf md ops (f+1) L i=θ)(g:NV md ops b=θ)(m:Region.free md ops b i=θ)(o:(Region.ready md ops b).contains i=θ)
 (p:∀c a w,Q (.panic c) (a.put d v) w->Q (.panic c) a w)(q:YieldsIf P ops S x v a)(r:S w)
 (s:Dv P md ops Q S L n (b.setIfInBounds i θ) (a.put d v) w):Dv P md ops Q S L (n+1) b a w:=by
 subst j;exact cf h k e l p n b a w (Uo g) (adr h m) (by simpa using o) q r s
end
theorem tk{P:Program}{ops:Array Oper}{Q:Exit→Act→World→Prop}{md:Region.Mode}{S:World→Prop}{L:Nat}(i f:Nat)(v:Value)(k:Nat){oi:Oper}{n:Nat}{ls:Array Bool}{a:Act}{w:World}{q:Prop}(hS:S w)(g:q)(hi:ops[i]? =some oi:=by rfl)(hd:oi.dst=some k:=by rfl)(hs:Region.noSelect ops=true:=by kernel_rfl)(hne:i≠L:=by decide)(hL:Jf md ops (f+1) L i=true:=by kernel_rfl)(hcl:NV md ops ls=true:=by kernel_rfl)(hf:Region.free md ops ls i=true:=by kernel_rfl)(hr:(Region.ready md ops ls).contains i=true:=by kernel_rfl)(hQ: ∀c a w,Q (.panic c) (a.put (some k) v) w→Q (.panic c) a w:=by exact fun _ _ _ h=>h)(hy:YieldsIf P ops S oi v a:=by exact .inl ⟨rfl,fun W hW=>by (repeat obtain ⟨_,hW⟩:=hW);go_simp⟩)(h:q→Dv P md ops Q S L n (ls.setIfInBounds i true) (a.put (some k) v) w:=by intro g;simp only[Act.put,List.setIfInBounds_toArray,List.set_cons_zero,List.set_cons_succ];exact g):Dv P md ops Q S L (n+1) ls a w:=
 VT (some k) hi hd hs hne hL hcl hf hr hQ hy hS (h g)
def PZ(d:N):1<=AY d:=by unfold AY;split<;>omega
def El.le{v:N}(h:El s a e n v a' b)(c:a<=8*s.size):a<=a'/\a'<=8*s.size:=by
 obtain⟨_,_,⟨_,_,b,_⟩|⟨_,b,_⟩⟩:=h<;>omega
def El.ok{v:N}(h:El s a 0 n v a' b)(d:b =0):a+n<=8*s.size/\v=Ar s a n/\a'=a+n:=by
 obtain⟨_,_,⟨b,e,c,_⟩|⟨_,_,c⟩⟩:=h
 .exact ⟨b,e,c⟩
 rw[d] at c;cases c
def El.bad{v:N}(h:El s a 0 n v a' b)(c:b ≠0):8*s.size<a+n/\b =2:=by
 obtain⟨_,_,⟨_,_,_,b⟩|⟨d,_,b⟩⟩:=h
 .exact κ b c
 exact⟨d,b⟩
def El.stay{v:N}(h:El s a e n v a' b)(c:e≠0):b =e:=by
 obtain⟨_,_,⟨_,_,_,b⟩|⟨_,_,b⟩⟩:=h
 .exact b
 rw[b,QV,Wx c]
def JH.ok(h:JH s L a 0 y a' b)(d:b =0):dec s L a=J (y,a'):=by
 obtain⟨_,_,⟨c,_⟩|⟨_,⟨c,_⟩|⟨_,c⟩⟩⟩:=h
 .exact κ rfl c
 .exact c
 rw[d] at c;cases c
def JH.bad(h:JH s L a 0 y a' b)(c:b ≠0):dec s L a=O/\b =2:=by
 obtain⟨_,_,⟨b,_⟩|⟨_,⟨_,b⟩|⟨d,b⟩⟩⟩:=h
 .exact κ rfl b
 .exact κ b c
 exact⟨d,b⟩
def JH.stay(h:JH s L a e y a' b)(c:e≠0):b =e/\y=0:=by
 obtain⟨_,_,⟨_,b,_,d⟩|⟨f,_⟩⟩:=h
 .exact ⟨d,b⟩
 exact κ f c
def me(l:E υ)(j:El s a 0 (AM y) e a1 b)(i:JH s D a1 b d f c)(k:29<d):FP s D y a l=.inl (.inr 2)/\QV c 2=2:=by
 unfold FP;by_cases h:b=0
 .obtain ⟨_,_,m⟩:=j.ok h;subst h m;rw[Wx A];by_cases g:c=0
  .rw[i.ok g];subst g;exact⟨Wz k,rfl⟩
  rw[(i.bad g).1,(i.bad g).2];exact⟨rfl,rfl⟩
 have:=(i.stay h).2;omega
def mf(l:E υ)(o:El s a 0 (AM y) g a1 c)(m:JH s D a1 c d f b)(r:¬29<d)(n:El s f b (Bb d) h i e)(t:e≠0):FP s D y a l=.inl (.inr 2)/\e=2:=by
 unfold FP;by_cases k:c=0
 .obtain ⟨p,q,u⟩:=o.ok k;subst k u;rw[Wx A];by_cases j:b=0
  .rw[m.ok j];subst j;obtain⟨c,e⟩:=n.bad t;refine⟨?_,e⟩;show(if 29<d then _ else _)=_;rw[Wx r,Wz c]
  rw[(m.bad j).1,n.stay j,(m.bad j).2];exact⟨rfl,rfl⟩
 obtain⟨p,q⟩:=o.bad k;rw[Wz p];refine⟨rfl,?_⟩;have c :=(m.stay k).1;have:b≠0:=A;rw[n.stay this,c,q]
def qP(l:E υ)(p:El s a 0 (AM y) e a1 b)(n:JH s D a1 b d g c)(q:¬29<d)(o:El s g c (Bb d) f h i)(k:i=0):
 FP s D y a l=if l.length<AY d+f then .inl (.inr 2) else if 20000<l.length+(Bg y+e) then .inl (.inr 1) else .inr (h,(Cc l (AY d+f)<|Bg y+e)):=by
 have j:c=0:=by
  by_cases h:c=0
  .exact h
  rw[o.stay h] at k;exact κ k h
 have m:b=0:=by
  by_cases h:b=0
  .exact h
  rw[(n.stay h).1] at j;exact κ j h
 subst m j;obtain⟨_,r,t⟩:=p.ok rfl;subst t;obtain⟨_,b,c⟩:=o.ok k;unfold FP;rw[Wx A,n.ok rfl];show(if 29<d then _ else _)=_;rw[Wx q,Wx A,<-b,<-r,<-c]
def Yy:(List.range 286).all (λy=>decide<|Bg y<=258)=true:=by decide+kernel
def Nl(h:y<=285):Bg y<=258:=by have:=wC.1 Yy y<|wh.2 A;simpa using this
def qQ:(List.range 30).all (λd=>decide<|AY d+2^Bb d<=32769)=true:=by decide+kernel
def mh(h:d<=29):AY d+2^Bb d<=32769:=by have:=wC.1 qQ d<|wh.2 A;simpa using this
def zY(s:Y)(D:E N)(y a:N)(l:E υ)(a':N)(l':E υ)(e':N):Prop:=(a<=a'/\a'<=8*s.size)/\((FP s D y a l=.inr (a',l')/\e'=0)\/(FP s D y a l=.inl (.inr e')/\e' ≠0/\l'=l))
def RK{b n c:N}(h:w.ownsRow 0 5 1 (K (J ⟨b,0,O⟩) n c) n<|Al l){k:N}(c:k<l.length):w.cell? ⟨b,k,O⟩=J (I .u8 ((l.getD k 0).toNat:N)):=by
 have a:=h.cells rfl k (I .u8 ((l.getD k 0).toNat:N)) (by simp[Al,Wq,c]);rw[we,WQ] at a;exact a
def Uq(b:υ):b8 b.toNat=b:=by simp[b8]
def cg(g:N)(S:N->Prop)(o:S g)(s:Y)(hs:s.size<=140737488355328)(a:N)(l:E υ)(hl:l.length<=20000)(y:N)(hy:257<=y)(b6:y<=285)(ha:a<=8*s.size)
 (gd b0 cap:N)(D:E N)(hD:D.length<=400)(w:U)(hF:BI S w)(d2:St w g S s a l 0)(hI:BG w gd b0 D):
 μ F 131 #[V<|J ⟨g,0,O⟩,I Q y,K (J ⟨gd,b0,O⟩) D.length cap] w λr w'=>
  r=ε (.tuple #[])/\Ag S w w'/\∃a' h m,zY s D y a l a' h m /\St w' g S s a' h m :=by
 obtain⟨ao,p,hr,m,q⟩:=d2;have d3:=hI.ne hr;have b7:=H<|bU g s hs a (K ao l.length p) 0 y hy b6 ha w hr;have HR:=H hr;have J2:=H m;have e:=H q;have HI:=H hI;clear hr m q hI;go_in;go_wp2_with fail;refine b7.mono ?_;rintro r w1 ⟨v1,a1,e1,rfl,h1,b9,b1⟩;have a6:=h1.le ha;have c0:=H<|RG g s hs a1 (K ao l.length p) e1 h1.2.1 gd b0 cap D hD w1 b9 (HI.kept b1 d3);have H1:=H h1;have b2:v1<32:=by have:=h1.1;have h5:2^AM y<=2^5:=wg A alG;omega
 have b0:=Nl b6;have d4:Bg y+v1<=300:=A;clear b7 h1 b0 b2;generalize t:Bg y+v1=nn at d4 ⊢;have c1:=H t;clear t;go_wp2_with fail;refine c0.mono ?_;rintro r w2 ⟨d,a2,e2,rfl,h2,a0,b0⟩;have b3:=H<|b1.trans b0;have H2:=H h2;have b6:=WI h2.2.1 hD;clear b9 b1 b0 c0;by_cases hd:29<d
 .have v:=H<|Cw g s a2 (K ao l.length p) e2 2 w2 a0;have d5:a<=a2/\a2<=8*s.size:=⟨WI a6.1 h2.1.1,h2.1.2⟩;clear h2 a0;go_wp2_with fail;refine v.mono ?_;rintro r w3 ⟨rfl,X4,a4⟩;go_wp2_with fail;refine wI (abk rfl _ _ _) rfl ?_;obtain⟨k1,k2⟩:=me l H1 H2 hd;rw[k2] at X4;have hO:=b3.trans a4;exact⟨rfl,hO.of_g o,a2,l,2,⟨d5,.inr ⟨k1,A,rfl⟩⟩,St.next HR J2 e hO X4⟩
 have c4:=H<|VM g s hs a2 (K ao l.length p) e2 d A h2.1.2 w2 a0;have c5:=WI a6.1 h2.1.1;have c6:=h2.1.2;clear h2 a0;go_wp2_with fail;refine c4.mono ?_;rintro r w3 ⟨v3,f,e3,rfl,h3,X4,a4⟩;have J3:=H<|b3.trans a4;have H3:=H h3;have i:a<=f/\f<=8*s.size:=⟨WI c5 (h3.le c6).1,h3.2.1⟩;have b4:=X4.c2;have x:=X4.c3;have u:=H X4;have a0:AY d+v3<=32769:=by have:=mh (d:=d) A;have:=h3.1;omega
 have a0:1<=AY d+v3:=by have:=PZ d;omega
 have a5:=H<|qP l H1 H2 hd H3;rw[X c1] at a5;have b5:=H<|mf l H1 H2 hd H3;clear a4 b3 c4 h3 X4 H1 H2 H3 c1;generalize AY d+v3=J5 at*;by_cases a7:l.length<J5
 .have v:=H<|Cw g s f (K ao l.length p) e3 2 w3 u;have HE:C<|FP s D y a l=.inl (.inr<|QV e3 2)/\QV e3 2≠0:=by
   by_cases T:e3=0
   .have:=a5 T;rw[Wz a7] at this;subst T;exact⟨this,Ac⟩
   obtain⟨k1,k2⟩:=b5 T;subst k2;exact⟨k1,Ac⟩
  have d6:(l.length:Z)<J5:=A;go_wp2_with fail;refine v.mono ?_;rintro r w4 ⟨rfl,h,z⟩;have J8:=H<|J3.trans z;have d7:=h.c3;have N1:=H h;have hb:((QV e3 2:N)==(0:Z))=false:=by rw[WA];have:=HE.2;omega
  clear z h x;generalize QV e3 2=e4 at*;go_wp2_with fail;go_loop [9] (λn=>n=I Q 0) λ_=>0
  .rfl
  subst hrel;by_cases t:0<nn
  .have P:(0:Z)<(nn:Z):=A;exact ahs
  have P:¬(0:Z)<(nn:Z):=A;exact ahs
 have:¬(l.length:Z)<J5:=A;by_cases T:e3=0
 .subst T;have HK:=H<|a5 rfl;rw[Wx a7] at HK;clear a5 b5;have a8 :w3.cell? ⟨g,3,O⟩=J (I Q 0):=x;by_cases a9:20000<l.length+nn
  .have d8:(20000:Z)<(l.length:Z)+nn:=A;rw[Wz a9] at HK;have v:=H<|Cw g s f (K ao l.length p) 0 1 w3 u;clear x;go_wp2_with fail;refine v.mono ?_;rintro r w4 ⟨rfl,h,z⟩;have J8:=H<|J3.trans z;have v :Rd w4 g s f (K ao l.length p) 1:=h;have:w4.cell? ⟨g,3,O⟩=J (I Q 1):=v.c3;have N1:=H v;clear z h v a8;go_wp2_with fail;go_loop [9] (λh=>h=I Q 0) (λ_=>0)
   .rfl
   subst hrel;by_cases t:0<nn
   .have P:(0:Z)<(nn:Z):=A;exact ahx
   have P:¬(0:Z)<(nn:Z):=A;exact ahx
  have:¬(20000:Z)<(l.length:Z)+nn:=A;rw[Wx a9] at HK;have n:=H<|St.next HR J2 e J3 u;have c7:=H<|J3.of_g o;clear HR J2 e J3 u x;go_wp2_with fail;clear b4 a8;go_loopw [9] (λh wr=>∃j:N,j<=nn/\h=I Q j/\C (St wr g S s f (Cc l J5 j) 0)/\C (Ag S w wr)) λh _=>nn-(intOf h).toNat
  .exact ⟨0,A,rfl,n,c7⟩
  obtain⟨j,hj,rfl,n,HO⟩:=hrel;obtain⟨ao,p,hr,m,q⟩:=X n;have b4:=hr.c2;have x:wr.cell? ⟨g,3,O⟩=J (I Q 0):=hr.c3;by_cases h:j<nn
  .have d9:(j:Z)<nn:=A;have e0:=Mr l J5 j;obtain⟨b,h,e5,_,_⟩:=m.form A;injection e5 with b2 e8 e6;subst b2 e6;have h:C<|Cc l J5 (j+1)=Cc l J5 j++[(Cc l J5 j).getD ((Cc l J5 j).length-J5) 0]:=H rfl;have c8:=RK m (k:=(Cc l J5 j).length-J5) A;have v:=GN ((Cc l J5 j).getD ((Cc l J5 j).length-J5) 0);have c9:=H (Ni g S o s f (Cc l J5 j) A 0 _ v wr.drew (show BI S wr.drew from hF.mono HO.size) (show St wr.drew g S s f (Cc l J5 j) 0 from X n));rw[Uq,<-X h] at c9;have v:J5<=(Cc l J5 j).length:=A;have:(Cc l J5 j).length<=20300:=A;clear e0 h hr m q n;generalize((Cc l J5 j).getD ((Cc l J5 j).length-J5) 0).toNat=c at*;generalize(Cc l J5 j).length=nl at*;obtain⟨R,d0⟩:∃R,R=nl-J5:=⟨_,rfl⟩;rw[<-d0] at c8;have:(nl:Z)-J5=(R:Z):=A;have h:(0:Z)<=(R:Z):=A;have v:=Aw R A;have h:(R:Z)<nl:=A;clear d0;have h:wr.drew.cell? ⟨g,2,O⟩=J (K (J ⟨b,0,O⟩) nl p)/\wr.drew.cell? ⟨b,R,O⟩=J (I .u8 c):=⟨b4,c8⟩;go_upto_region 12 with fail;refine Ai (S:=λv=>v.cell? ⟨g,2,O⟩=J (K (J ⟨b,0,O⟩) nl p)/\v.cell? ⟨b,R,O⟩=J (I .u8 c)) (L:=14) B ?_;refine tk 0 15 (V<|J ⟨g,0,O⟩) 61 h ?_;refine tk 1 15 (V<|J ⟨g,0,O⟩) 62 h ?_;refine tk 2 15 (V<|J ⟨g,0,O⟩) 63 h ?_;refine tk 3 15 (V<|J ⟨g,2,O⟩) 64 h ?_;refine tk 4 15 (K (J ⟨b,0,O⟩) nl p) 65 h ?_;refine tk 5 15 (V<|J ⟨g,0,O⟩) 66 h ?_;refine tk 6 15 (V<|J ⟨g,0,O⟩) 67 h ?_;refine tk 7 15 (V<|J ⟨g,2,O⟩) 68 h ?_;refine tk 8 15 (K (J ⟨b,0,O⟩) nl p) 69 h ?_;refine tk 9 15 (I Q nl) 70 h ?_;refine tk 10 15 (I Q J5) 71 h ?_;refine tk 11 15 (I Q R) 72 h ?_;refine tk 12 15 (V<|J ⟨b,R,O⟩) 73 h ?_;refine tk 13 15 (I .u8 c) 74 h ?_;refine Ah (i:=14) B ?_;refine WE rfl λh hK=>?_;go_simp;refine c9.mono ?_;rintro r w5 ⟨rfl,d1,h⟩;refine hK _ _ ⟨λd2=>κ rfl d2,?_⟩;clear hK;refine Aj B ?_;have O3:=H<|HO.drew.trans d1;have G0:=H h;clear d1 h;exact aiU
  have:¬(j:Z)<nn:=A;have e7:j=nn:=A;clear hr m q;go_wp2_with fail;go_end0;subst e7;exact⟨rfl,HO,f,_,0,⟨i,.inl ⟨HK,rfl⟩⟩,n⟩
 have HE:=H<|b5 T;have:((e3:Z)==0)=false:=act
 go_wp2_with fail;go_loop [9] (λh=>h=I Q 0) λ_=>0
 .rfl
 subst hrel;by_cases t:0<nn
 .have P:(0:Z)<(nn:Z):=A;exact agO
 have:¬(0:Z)<(nn:Z):=A;exact agO
def Ls(w:U)(g i:N):N:=match w.cell? ⟨g,i,O⟩ with|some (I _ n)=>n.toNat|_=>0
def AR(h:w.cell? ⟨g,i,O⟩=J (I Q n)):Ls w g i=n:=by unfold Ls;rw[h];exact ww _
def Ur(h:dec s L a=O):Fk s L D a l=.inl (.inr 2):=by unfold Fk;rw[h]
def Yz(h:dec s L a=J (256,a1)):Fk s L D a l=.inl (.inl (a1,l)):=by unfold Fk;rw[h];exact Wz rfl
def Us(h:dec s L a=J (y,a1))(b:y<256):Fk s L D a l=if 20000<=l.length then .inl (.inr 1) else .inr (a1,(l++[b8 y])):=by
 unfold Fk;rw[h];show(if y=256 then _ else _)=_;rw[Wx A,Wz b]
def Ut(h:dec s L a=J (y,a1))(b:285<y):Fk s L D a l=.inl (.inr 2):=by
 unfold Fk;rw[h];show(if y=256 then _ else _)=_;rw[Wx A,Wx A,Wz b]
def OW(h:dec s L a=J (y,a1))(b:256<y)(c:y<=285):Fk s L D a l=FP s D y a1 l:=by
 unfold Fk;rw[h];show(if y=256 then _ else _)=_;rw[Wx A,Wx A,Wx A]
def FC{r:iv}(h:Fk s L D a l=.inl r):Gb s L D a l=r:=by rw[Ms,h]
def VU{b:E υ}(h:Fk s L D a l=.inr (a',b)):Gb s L D a l=Gb s L D a' b :=by rw[Ms,h]
def iI{o:E υ}{b :E υ}(h:FP s D y a1 o=.inr (a',b)):b.length<=20000:=by
 unfold FP at h;split at h
 .cases h
 split at h
 .cases h
 split at h
 .cases h
 split at h
 .cases h
 split at h
 .cases h
 split at h
 .cases h
 injection h with h;injection h with c a;rw[<-a,Mr];omega
def iJ(s:Y)(r:iv)(a':N)(l':E υ)(e':N):Prop:=a'<=8*s.size/\l'.length<=20000/\((r=.inl (a',l')/\e'=0)\/(r=.inr e'/\e' ≠0))
def Qa(g:N)(S:N->Prop)(m:S g)(s:Y)(hs:s.size<=140737488355328)(a:N)(l:E υ)(hl:l.length<=20000)(ha:a<=8*s.size)
 (gl ol cl:N)(L:E N)(hL:L.length<=400)(a4:¬S gl)(gd od cd:N)(D:E N)(hD:D.length<=400)(a5:¬S gd)(w:U)(hF:BI S w)(p:St w g S s a l 0)(a6:BG w gl ol L)(a7:BG w gd od D):
 μ F 71 #[V<|J ⟨g,0,O⟩,K (J ⟨gl,ol,O⟩) L.length cl,K (J ⟨gd,od,O⟩) D.length cd] w λr w'=>
  r=ε (.tuple #[])/\Ag S w w'/\∃a' e k,iJ s (Gb s L D a l) a' e k /\St w' g S s a' e k :=by
 have a8:=H p;have a9:=H a6;have b0:=H a7;go_in;go_wp2;go_loopw [6,19,29,36] (λ_ _ _ _ wr=>∃a' e k,C (St wr g S s a' e k /\a'<=8*s.size/\e.length<=20000/\((k =0/\Gb s L D a l=Gb s L D a' e)\/(k ≠0/\Gb s L D a l=.inr k)))/\C (Ag S w wr)) λ_ _ _ _ wr=>8*s.size+1-Ls wr g 1
 .exact ⟨a,l,0,⟨a8,ha,hl,.inl ⟨rfl,rfl⟩⟩,Ag.refl _ w⟩
 obtain⟨a',e,k,HI,HO⟩:=hrel;obtain⟨a6,z,F2,P⟩:=X HI;obtain⟨ao,cp,hr,b1,b2⟩:=a6;have b3:=hr.c3;by_cases he:k =0
 .subst he;have O2:C<|Gb s L D a l=Gb s L D a' e:=by rcases P with⟨_,p⟩|⟨p,_⟩;exact p;exact κ rfl p
  have a6:=H<|RG g s hs a' (K ao e.length cp) 0 z gl ol cl L hL wr hr (a9.kept HO a4);have HM:=H<|AR hr.c1;have HR:=H hr;have J2:=H b1;have V2:=H b2;have a4 :wr.cell? ⟨g,3,O⟩=J (I Q 0):=b3;go_wp2_with fail;apply a6.mono;rintro r R ⟨y,q,e1,rfl,h1,E7,Z9⟩;have T:=E7.c3;have i:=H<|HO.trans (Z9.of_g m);have j:=H<|St.next HR J2 V2 Z9 E7;have H1:=H h1;have M9:=h1.1.2;have HO1g:=H Z9;have:=WI h1.2.1 hL;by_cases u:e1=0
  .subst u;have n:=H<|H1.ok rfl;have:=(Ih n).1;have a4 :R.cell? ⟨g,3,O⟩=J (I Q 0):=T;have a0:=hF.mono i.size;by_cases hy:y=256
   .subst hy;go_wp2_with fail;refine wI (abk rfl _ _ _) rfl ?_;exact⟨rfl,i,q,e,0,⟨M9,F2,.inl ⟨by rw[X O2];exact FC<|Yz n,rfl⟩⟩,j⟩
   have:((y:Z)==256)=false:=act
   by_cases T:y<256
   .have b4:(y:Z)<256:=A;have h:=H<|Us (D:=D) (l:=e) n T;by_cases o:e.length<20000
    .have v:=H<|Ni g S m s q e o 0 y T R a0 j;rw[Wx A] at h;go_wp2_with (go_at_call 129;refine v.mono ?_;rintro r w2 ⟨rfl,f,d⟩;have G7:=H<|i.trans f;have b:=H d;clear f d);go_roundw
     .exact ⟨q,e ++[b8 y],0,⟨b,M9,by simp;omega,.inl ⟨rfl,by rw[X O2];exact VU h⟩⟩,G7⟩
     exact ajs
    have v:=H<|bW g S m s q e o 0 y R j;rw[Wz A] at h;go_wp2_with (go_at_call 129;refine v.mono ?_;rintro r w2 ⟨rfl,f,d⟩;have G7:=H<|i.trans f;have b:=H d;clear f d);go_roundw
    .exact ⟨q,e,1,⟨b,M9,F2,.inr ⟨A,by rw[X O2];exact FC h⟩⟩,G7⟩
    exact ajs
   have:¬(y:Z)<256:=A;by_cases o:285<y
   .have a3:(285:Z)<(y:Z):=A;have v:=H<|Cw g s q (K ao e.length cp) 0 2 R E7;have h:=H<|Ut (D:=D) (l:=e) n o;go_wp2_with (go_at_call 73;refine v.mono ?_;rintro r w2 ⟨rfl,c,f⟩;have T2:=H c;have G7:=H f;clear f c);go_roundw
    .exact ⟨q,e,2,⟨St.next HR J2 V2 (HO1g.trans G7) T2,M9,F2,.inr ⟨A,by rw[X O2];exact FC h⟩⟩,i.trans<|G7.of_g m⟩
    rw[X HM,AR (X T2).c1];omega
   have:¬(285:Z)<(y:Z):=A;have o:=H<|cg g S m s hs q e F2 y A A M9 gd od cd D hD R a0 j (b0.kept i a5);have h:=H<|OW (D:=D) (l:=e) n A A;go_wp2_with (go_at_call 131;refine o.mono ?_;rintro r w2 ⟨rfl,f,a2,l2,e2,m,d⟩;have G7:=H<|i.trans f;have b:=H d;have t:=H m;clear f d m);go_roundw
   .obtain ⟨h2,x⟩:=X t;rcases x with⟨x,rfl⟩|⟨x,h4,rfl⟩
    .exact ⟨a2,l2,0,⟨b,h2.2,iI x,.inl ⟨rfl,by rw[X O2];exact VU<|h.trans x⟩⟩,G7⟩
    exact⟨a2,l2,e2,⟨b,h2.2,F2,.inr ⟨h4,by rw[X O2];exact FC<|h.trans x⟩⟩,G7⟩
   obtain⟨ao2,cp2,c,_⟩:=X b;have:=t.1;rw[X HM,AR c.c1];omega
  obtain⟨k1,k2⟩:=H1.bad u;have:((e1:Z) !=0)=true:=akQ
  go_wp2_with fail;refine wI (abk rfl _ _ _) rfl ?_;exact⟨rfl,i,q,e,e1,⟨M9,F2,.inr ⟨by rw[X O2,k2];exact FC<|Ur k1,u⟩⟩,j⟩
 have:((k :Z)==0)=false:=act
 have HE:C<|Gb s L D a l=.inr k:=by rcases P with⟨p,_⟩|⟨_,p⟩;exact κ p he;exact p
 go_wp2_with fail;go_end0;exact⟨rfl,HO,a',e,k,⟨z,F2,.inr ⟨HE,he⟩⟩,HI.1⟩
def IK(L:E N)(x:N):JV (L++[x])=JV L+if x=0 then 0 else 2^(15-x):=by simp[JV]
def Gz(L:E N)(x:N):Gc (L++[x])=Gc L+if x=0 then 0 else 1:=by
 unfold Gc;rw[aaL,Ws];by_cases h:x=0
 .subst h;simp
 simp[h]
def take_getD(L:E N)(i:N)(h:i<L.length):L.take (i+1)=L.take i++[L.getD i 0]:=by
 rw[acp h,Wq,Wv h];rfl
def VV(L:E N)(i:N):JV (L.take i)<=16384*i/\Gc (L.take i)<=i:=by
 induction i with
 |zero=>simp[JV,Gc]
 |succ i a=>
  by_cases h:i<L.length
  .rw[take_getD L i h,IK,Gz];have b:1<=L.getD i 0->2^(15-L.getD i 0)<=16384:=λ_=>wg (n:=2) A (show 15-L.getD i 0<=14 by omega)
   constructor
   .split
    .omega
    have:=b A;omega
   split<;>omega
  rw[wv A] at a ⊢;omega
def yH{l:N}(h:l<=15):(32768:Z)/2^l=((2^(15-l):N):Z):=by
 have:(32768:N)/2^l=2^(15-l):=by
  rw[show(32768:N)=2^15 from rfl,Nat.pow_div h A]
 rw[<-this,aax,wY];rfl
def RM(b:Bool)(m g cap:N)(L:E N)(hL:L.length<=400)(h:∀j,L.getD j 0<=15)(w:U)(hI:BG w m g L):
 μ F 132 #[K (J ⟨m,g,O⟩) L.length cap,.bool b] w λr w'=>r=ε (.bool (if b then IA L else Fa L))/\w'=w:=by
 have HI:=H hI;have o:=H h;go_in;go_wp2_with fail;go_loop [5,6,7] (λx y z=>∃a ma i:N,i<=L.length/\a<=6553600/\ma<=400/\x=I Q a/\y=I Q ma/\z=I Q i/\C (a=JV (L.take i)/\ma=Gc (L.take i))) λ_ _ z=>L.length-(intOf z).toNat
 .exact ajY
 obtain⟨a,ma,i,_,q,s,rfl,rfl,rfl,t⟩:=hrel;by_cases h:i<L.length
 .have k:=HI.cell h;have e:=o i;have l:=H<|take_getD L i h;have u:=H<|VV L (i+1);generalize L.getD i 0=x at k e l;by_cases v:x=0
  .subst v;have a0 :w.cell? ⟨m,g+i,O⟩=J (I Q 0):=k;go_wp2_with fail;go_round
   .obtain ⟨h1,c⟩:=X t;exact⟨a,ma,i+1,A,q,s,rfl,rfl,by go_num,⟨by rw[X l,IK,<-h1];rfl,by rw[X l,Gz,<-c];rfl⟩⟩
   exact Ae
  have:(0:Z)<(x:Z):=A;have:(0:Z)<=(x:Z):=A;have y:=yH e;have D:2^(15-x)<=16384:=wg (n:=2) A (show 15-x<=14 by omega);have HN:C<|JV (L.take<|i+1)=a+2^(15-x)/\Gc (L.take<|i+1)=ma+1:=by
   obtain⟨h1,c⟩:=X t;exact⟨by rw[X l,IK,<-h1,Wx v],by rw[X l,Gz,<-c,Wx v]⟩
  generalize 2^(15-x)=p at y D HN;have:=ww x;go_wp2_with fail;go_round
  .obtain ⟨h1,c⟩:=X HN;obtain⟨x,P⟩:=X u;exact⟨a+p,ma+1,i+1,A,A,A,by go_num,by go_num,by go_num,⟨h1.symm,c.symm⟩⟩
  exact Ae
 have e:i=L.length:=A;have g:C<|JV L=a/\Gc L=ma:=by
  obtain⟨h1,c⟩:=X t;rw[e,wL] at h1 c;exact⟨h1.symm,c.symm⟩
 have U4:C<|Fa L=(a==32768):=by unfold C Fa;rw[(X g).1]
 have d:C<|IA L=(a==32768||ma==0||(ma==1&&a==16384)):=by unfold C IA;rw[(X g).1,(X g).2]
 cases b with
 |false=>
  exact afy
 |true=>
  by_cases h1:a=32768
  .have f:((a:Z)==32768)=true:=akZ
   go_wp2;go_ret;exact⟨AU (hJ Value.bool<|by show θ=IA L;rw[X d];simp[h1]),rfl⟩
  have:((a:Z)==32768)=false:=act
  by_cases c:ma=0
  .have R:((ma:Z)==0)=true:=akZ
   go_wp2;go_ret;exact⟨AU (hJ Value.bool<|by show θ=IA L;rw[X d];simp[c]),rfl⟩
  have:((ma:Z)==0)=false:=act
  by_cases x:ma=1
  .have S:((ma:Z)==1)=true:=akZ
   by_cases P:a=16384
   .have T:((a:Z)==16384)=true:=akZ;go_wp2;go_ret;exact⟨AU (hJ Value.bool<|by show θ=IA L;rw[X d];simp[x,P]),rfl⟩
   have:((a:Z)==16384)=false:=act
   go_wp2;go_ret;exact⟨AU (hJ Value.bool<|by show ι=IA L;rw[X d];simp[h1,c,P]),rfl⟩
  have:((ma:Z)==1)=false:=act
  go_wp2;go_ret;exact⟨AU (hJ Value.bool<|by show ι=IA L;rw[X d];simp[h1,c,x]),rfl⟩
def Av(l:E N):E M:=l.map λ(n:N)=>Value.int Q (n:Z)
def VW(l:E N)(j:N)(h:j<l.length):(Av l)[j]? =J (I Q (l.getD j 0:N)):=by
 simp[Av,Wq,h]
def KO:(prog.info? 3).map (λi=>(i.zero,i.size,i.bytes))=J (J<|I Q 0,1,8):=B
def Fb{wr:U}{n:Z}:∀j u,[Value.int Q n][j]? =J u->(wr.alloc<|W #[I Q n] 3).cell? ((⟨wr.heap.size,0,O⟩:Addr).add j)=J u:=by
 intro j u a;rw[we,WQ,Wu _ _ j _ 3 (0,0)<|WD wr _];simpa using a
def Cd{e:TypeId}{a:E M}(h:w.ownsRow base e 1 v n a):∀b,v.ownBlock=J b->base<=b:=by
 intro b c;obtain⟨_,h|⟨_,_,_,d,f,_⟩⟩:=h
 .rw[h.1] at c;cases c
 rw[d] at c;injection c with c;subst c;exact f
def BG.ofOwns{cap:N}{l:E N}(i:l.length=n)(h:w.ownsRow base 3 1 (K (J ⟨b,0,O⟩) n cap) n<|Av l):BG w b 0 l:=by
 obtain⟨_,h|⟨_,_,c,d,_,e,_,_,_,f⟩⟩:=h
 .cases h.1
 injection d with a _ g;injection a with a;injection a with a;subst a;refine⟨c,e,λj a=>?_⟩;rw[<-VW l j a,<-f,aab,Wz A,aah,WQ]
def BU:CF.length=288:=by rw[CF,Ws,Ws,Ws,wA,wA,wA,wA]
def mi:(List.range 288).all (λi=>decide (CF.getD i 0=if i<144 then 8 else if i<256 then 9 else if i<280 then 7 else 8))=true:=by decide+kernel
def YA(i:N)(h:i<288):CF.getD i 0=if i<144 then 8 else if i<256 then 9 else if i<280 then 7 else 8:=by
 have:=wC.1 mi i<|wh.2 h;simpa using this
def GR(i:N)(h:i<288)(a:(if i<144 then 8 else if i<256 then 9 else if i<280 then 7 else 8)=n):CF.getD i 0=n:=(YA i h).trans a
def iK(i:N)(h:i<32):CX.take (i+1)=CX.take i++[5]:=by
 have e:CX.getD i 0=5:=by rw[CX,Wq,aaV,Wz h];rfl
 rw[take_getD _ _ (by rw[CX,wA];exact h),e]
def iL(w:U):
 μ F 70 #[] w λr w'=>∃c c1 g2 c2,r=ε (.tuple #[K (J ⟨c,0,O⟩) 288 c1,K (J ⟨g2,0,O⟩) 32 c2])/\BG w' c 0 CF/\BG w' g2 0 CX/\w.heap.size<=c/\w.heap.size<=g2/\Am w w':=by
 obtain⟨i0,N5,Q0,G9,G8⟩:=wi KO;go_in;go_wp2;go_loopw [2,3,4] (λv x _ wr=>∃(i:N) (ao:Option Addr) (cap:N),i<=288/\v=K ao i cap/\x=I Q i/\(wr.ownsRow w.heap.size 3 1 (K ao i cap) i<|Av (CF.take i))/\(Am w wr)) λ_ x _ _=>288-(intOf x).toNat
 .exact ⟨0,O,0,A,rfl,rfl,WZ _ _ _ _,Ag.refl _ w⟩
 obtain⟨i,ao,cap,L,rfl,rfl,h,HO⟩:=hrel;by_cases R:i<288
 .by_cases p:i<144
  .have j:=GR i R<|Wz p;have I6:=Fb (wr:=wr) (n:=8);have J2:((wr.alloc<|W #[I Q 8] 3).ownsRow w.heap.size 3 1 (K ao i cap) i<|Av (CF.take i)):=h.alloc _;have S:(w.heap.size<=(wr.alloc<|W #[I Q 8] 3).heap.size):=by have:=HO.size;simp only[WP];omega
   have a:=j;have s:¬(144:Z)<=(i:Z):=A;have t:¬(256:Z)<=(i:Z):=A;exact aeQ
  by_cases v:i<256
  .have j:=GR i R (by rw[Wx p,Wz v]);have I6:=Fb (wr:=wr) (n:=9);have J2:((wr.alloc<|W #[I Q 9] 3).ownsRow w.heap.size 3 1 (K ao i cap) i<|Av (CF.take i)):=h.alloc _;have S:(w.heap.size<=(wr.alloc<|W #[I Q 9] 3).heap.size):=by have:=HO.size;simp only[WP];omega
   have a:=j;have s:(144:Z)<=(i:Z):=A;have t:¬(256:Z)<=(i:Z):=A;have z:(i:Z)<256:=A;go_wp2_with (at_builtin;refine wpList_append_lies _ rfl (.tmp 23) (.tmp 25) 100 rfl w.heap.size 3 i0 (I Q 0) 1 8 underlying100 N5 Q0 G9 G8 rfl A (K ao i cap) i _ rfl J2 ⟨wr.heap.size,0,O⟩ 1 1 [I Q 9] rfl rfl I6 alk A (by unfold maxLen;omega) A S _ rfl ?_;intro g2 cap2 w3 m P O0 Q4;have J3:=m;have J9:=P;have HB:=Cd J2;clear m P O0);go_roundw
   .refine ⟨i+1,J ⟨g2,0,O⟩,cap2,A,rfl,by go_num,?_,?_⟩
    .have e:Av (CF.take<|i+1)=Av (CF.take i)++[I Q 9]:=(by rw[take_getD _ _ (by rw[BU];exact R),a];simp[Av]);rw[e];exact J3
    exact afH
   exact Ae
  by_cases D:i<280
  .have j:=GR i R (by rw[Wx p,Wx v,Wz D]);have I6:=Fb (wr:=wr) (n:=7);have J2:((wr.alloc<|W #[I Q 7] 3).ownsRow w.heap.size 3 1 (K ao i cap) i<|Av (CF.take i)):=h.alloc _;have S:(w.heap.size<=(wr.alloc<|W #[I Q 7] 3).heap.size):=by have:=HO.size;simp only[WP];omega
   have a:=j;have s:(144:Z)<=(i:Z):=A;have t:(256:Z)<=(i:Z):=A;have z:¬(i:Z)<256:=A;have T:(i:Z)<280:=A;go_wp2_with (at_builtin;refine wpList_append_lies _ rfl (.tmp 23) (.tmp 25) 100 rfl w.heap.size 3 i0 (I Q 0) 1 8 underlying100 N5 Q0 G9 G8 rfl A (K ao i cap) i _ rfl J2 ⟨wr.heap.size,0,O⟩ 1 1 [I Q 7] rfl rfl I6 alk A (by unfold maxLen;omega) A S _ rfl ?_;intro g2 cap2 w3 m P O0 Q4;have J3:=m;have J9:=P;have HB:=Cd J2;clear m P O0);go_roundw
   .refine ⟨i+1,J ⟨g2,0,O⟩,cap2,A,rfl,by go_num,?_,?_⟩
    .have e:Av (CF.take<|i+1)=Av (CF.take i)++[I Q 7]:=(by rw[take_getD _ _ (by rw[BU];exact R),a];simp[Av]);rw[e];exact J3
    exact afH
   exact Ae
  have j:=GR i R (by rw[Wx p,Wx v,Wx D]);have I6:=Fb (wr:=wr) (n:=8);have J2:((wr.alloc<|W #[I Q 8] 3).ownsRow w.heap.size 3 1 (K ao i cap) i<|Av (CF.take i)):=h.alloc _;have S:(w.heap.size<=(wr.alloc<|W #[I Q 8] 3).heap.size):=by have:=HO.size;simp only[WP];omega
  have a:=j;have s:(144:Z)<=(i:Z):=A;have t:(256:Z)<=(i:Z):=A;have z:¬(i:Z)<256:=A;have T:¬(i:Z)<280:=A;exact aeQ
 have f:i=288:=A;have g:(wr.ownsRow w.heap.size 3 1 (K ao 288 cap) 288<|Av CF):=by
  have:=h;rw[f,wv<|by rw[BU];exact WF _] at this;exact this
 have j:(i:Z)=288:=A;obtain⟨c,c1,b,l,_⟩:=g.form A;injection b with b x k;subst b k;have d:=BG.ofOwns BU g;subst f;have j:((288:N):Z)=288:=rfl;rw[j];go_wp2;go_loopw [5,6] (λv j wr=>∃(i:N) (ao:Option Addr) (cap:N),i<=32/\v=K ao i cap/\j=I Q i/\(wr.ownsRow (c+1) 3 1 (K ao i cap) i<|Av (CX.take i))/\(Am w wr)/\(BG wr c 0 CF)) λ_ j _=>32-(intOf j).toNat
 .exact ⟨0,O,0,A,rfl,rfl,WZ _ _ _ _,HO,d⟩
 obtain⟨i,ao,cap,L,rfl,rfl,h,HO,d⟩:=hrel;by_cases R:i<32
 .have I6:=Fb (wr:=wr) (n:=5);have J2:((wr.alloc<|W #[I Q 5] 3).ownsRow (c+1) 3 1 (K ao i cap) i<|Av (CX.take i)):=h.alloc _;have S:(c+1<=(wr.alloc<|W #[I Q 5] 3).heap.size):=by have:=d.lt;simp only[WP];omega
  have y:=d.kept ((Ag.refl (λ_=>False) wr).alloc<|W #[I Q 5] 3) λj=>j;go_wp2_with (at_builtin;refine wpList_append_lies _ rfl (.tmp 31) (.tmp 32) 100 rfl (c+1) 3 i0 (I Q 0) 1 8 underlying100 N5 Q0 G9 G8 rfl A (K ao i cap) i _ rfl J2 ⟨wr.heap.size,0,O⟩ 1 1 [I Q 5] rfl rfl I6 alk A (by unfold maxLen;omega) A S _ rfl ?_;intro g2 cap2 w3 m P O0 Q4;have J3:=m;have J9:=P;have HB:=Cd J2;clear m P O0);go_roundw
  .refine ⟨i+1,J ⟨g2,0,O⟩,cap2,A,rfl,by go_num,?_,?_,?_⟩
   .have e:Av (CX.take<|i+1)=Av (CX.take i)++[I Q 5]:=(by rw[iK i R];simp[Av]);rw[e];exact J3
   .exact afH
   exact y.kept ((Ag.refl (λj=>c<j) _).grown J9 λq _ e=>by have:=HB q e;omega) A
  exact Ae
 have f:i=32:=A;have g:(wr.ownsRow (c+1) 3 1 (K ao 32 cap) 32<|Av CX):=by
  have:=h;rw[f,wv<|by rw[CX,wA];exact WF _] at this;exact this
 obtain⟨g2,c2,b,_,_⟩:=g.form A;injection b with b x k;subst b k;have o:=BG.ofOwns (by rw[CX,wA]) g;subst f;go_wp2;go_ret2;first
  |exact⟨c,_,g2,_,rfl,d,o,l,A,HO⟩
  |exact⟨c,_,g2,⟨_,rfl⟩,d,o,l,A,HO⟩
def uM(b:N)(h:b<256):b%2+b/2%2*2+b/4%2*4+b/8%2*8+b/16%2*16+b/32%2*32+b/64%2*64+b/128%2*128=b:=A
def zZ(s:Y)(q:N):Ar s (8*q) 8=As s q:=by
 have e:∀j,j<8->AV s (8*q+j)=As s q/2^j%2:=λj _=>by
  unfold AV;rw[show(8*q+j)/8=q by omega,show(8*q+j)%8=j by omega]
 simp only[Ar];rw[e 0 A,e 1 A,e 2 A,e 3 A,e 4 A,e 5 A,e 6 A,e 7 A];have:=uM (As s q)<|Bj s q;simp only[Nat.reducePow,Nat.div_one,abz,WQ] at this ⊢;exact this
def Ra(a:N):a<=Ck a/\Ck a<a+8/\Ck a%8=0:=by unfold Ck;omega
def fG(h:a<=8*n):Ck a<=8*n:=by unfold Ck;omega
def iM(h:a<=b)(c:b<=Ck a)(d:b%8=0):b=Ck a:=by unfold Ck at*;omega
def qR(c:b<=Ck a)(d:b%8≠0):b<Ck a:=by unfold Ck at*;omega
def qS(l:E υ)(f:El s (Ck a) 0 16 n a1 c)(g:El s a1 c 16 m e b)(j:b≠0):Iz s a l=.inr 2/\b=2:=by
 have h:8*s.size<Ck a+32/\b=2:=by
  by_cases d:c=0
  .obtain ⟨k,i,_⟩:=f.ok d;subst d;obtain⟨_,b⟩:=g.bad j;exact⟨A,b⟩
  obtain⟨k,i⟩:=f.bad d;exact⟨A,by rw[g.stay d,i]⟩
 unfold Iz;exact⟨Wz h.1,h.2⟩
def uN(l:E υ)(e:El s (Ck a) 0 16 n a1 e1)(h2:El s a1 e1 16 m b c)(he:c=0):
 b=Ck a+32/\b<=8*s.size/\Iz s a l=if n+m≠65535 then .inr 2 else if 20000<l.length+n then .inr 1 else if 8*s.size<b+8*n then .inr 2 else .inl ((b+8*n),(l++LA s (Ck a/8+4) n)):=by
 have d:e1=0:=ajn;obtain⟨_,f,_⟩:=e.ok d;subst d;obtain⟨_,c,_⟩:=h2.ok he;have e:b=Ck a+32:=A;refine⟨e,A,?_⟩;unfold Iz;rw[Wx A,<-f,show Ck a+16=a1 by omega,<-c,e]
def mn(g:N)(S:N->Prop)(o:S g)(s:Y)(hs:s.size<=140737488355328)(a:N)(l:E υ)(q:l.length<=20000)(ha:a<=8*s.size)(w:U)(hF:BI S w)(h:St w g S s a l 0):
 μ F 69 #[V<|J ⟨g,0,O⟩] w λr w'=>
  r=ε (.tuple #[])/\Ag S w w'/\∃a' k e',iJ s (Iz s a l) a' k e'/\St w' g S s a' k e':=by
 obtain⟨ao,d,hr,b5,c6⟩:=h;have HR:=H hr;have J2:=H b5;have e:=H c6;clear hr b5 c6;have e5:=fG ha;go_in;go_wp2;go_loopw [] (λwr=>∃b,a<=b/\b<=Ck a/\wr.cell? ⟨g,1,O⟩=J (I Q (b:N))/\C (Rd wr g s b (K ao l.length d) 0)/\C (Ag (λR=>R=g) w wr)) λwr=>Ck a-Ls wr g 1
 .exact ⟨a,WF _,(Ra a).1,HR.c1,HR,Ag.refl _ w⟩
 obtain⟨b,c7,b9,c8,b0,HO⟩:=hrel;have e6:=b0.thaw 1;by_cases hm:b%8=0
 .have e7:=iM c7 b9 hm;subst e7;have c9:(((Ck a:N):Z)%8 !=0)=false:=by rw[acX];omega
  have d0:=H<|Cz g s hs (Ck a) (K ao l.length d) 0 16 A e5 wr b0;clear e6;go_wp2_with fail;apply d0.mono;rintro r w1 ⟨n,a1,e1,rfl,h1,b5,c6⟩;have d1:=H<|Cz g s hs a1 (K ao l.length d) e1 16 A h1.2.1 w1 b5;have d2:=h1.1;have H1:=H h1;have e9:=H<|HO.trans c6;clear h1 b5 c6 d0 c8 c9 c7 b9;go_wp2_with fail;apply d1.mono;rintro r w2 ⟨m,a2,e2,rfl,h2,R,b5⟩;have c6:=h2.1;have H2:=H h2;have T:=H<|e9.trans b5;have a0:=R.c3;have f0:=R.c2;have f:=H R;have I4:=h2.2.1;have:n<65536:=d2;have:m<65536:=c6;clear h2 R b5 d1 d2 c6;by_cases b1:e2=0
  .subst b1;obtain⟨b5,_,a6⟩:=uN l H1 H2 rfl;have t:=H a6;have f1:=H b5;have j :w2.cell? ⟨g,3,O⟩=J (I Q 0):=a0;clear a6 b5 a0;by_cases b3:n+m=65535
   .have c0:((n:Z)+m !=65535)=false:=(by rw[acX];omega);rw[Wx A] at t;by_cases b4:20000<l.length+n
    .have f2:(20000:Z)<(l.length:Z)+n:=A;rw[Wz b4] at t;have u:=H<|Cw g s a2 (K ao l.length d) 0 1 w2 f;go_wp2_with fail;apply u.mono;rintro r w4 ⟨rfl,v,z⟩;have J8:=H<|T.trans z;have x :Rd w4 g s a2 (K ao l.length d) 1:=v;have Q5:w4.cell? ⟨g,3,O⟩=J (I Q 1):=x.c3;have N1:=H x;clear z v x j;go_wp2_with fail;go_loop [4,5] (λi _=>i=I Q 0) (λ_ _=>0)
     .rfl
     subst hrel;by_cases D:0<n
     .have y:(0:Z)<(n:Z):=A;exact ahw
     have y:¬(0:Z)<(n:Z):=A;exact ahw
    have:¬(20000:Z)<(l.length:Z)+n:=A;rw[Wx b4] at t;have d3:=H<|St.next HR J2 e T f;have d4:=H<|T.of_g o;have b4:a2%8=0/\a2/8=Ck a/8+4:=by have:=(Ra a).2.2;have:=X f1;omega
    have f3:=H b4;clear HR J2 e T f b4;go_wp2_with fail;clear f0 j;go_loopw [4,5] (λi _ wr=>∃(a3 e':N),a3<=n/\i=I Q a3/\wr.cell? ⟨g,3,O⟩=J (I Q e')/\C (∃a' k,St wr g S s a' k e'/\a'<=8*s.size/\k.length<=20000/\((e'=0/\a'=a2+8*a3/\k =l++LA s (Ck a/8+4) a3)\/(e'=2/\8*s.size<a2+8*n)))/\C (Ag S w wr)) λi _ _=>n-(intOf i).toNat
    .obtain ⟨d5,d6,a7,_⟩:=X d3;exact⟨0,0,A,rfl,a7.c3,⟨a2,l,d3,I4,q,.inl ⟨rfl,A,by simp[LA]⟩⟩,d4⟩
    obtain⟨a3,e',hj,rfl,a0,HI,HO⟩:=hrel;obtain⟨a',k,a8,ha',L,Z1⟩:=X HI;by_cases he:e'=0
    .subst he;obtain⟨_,a5,a9⟩:0=0/\a'=a2+8*a3/\k =l++LA s (Ck a/8+4) a3:=by
      rcases Z1 with h|⟨h,_⟩
      .exact h
      cases h
     have j :wr.cell? ⟨g,3,O⟩=J (I Q 0):=a0;clear Z1 a0;by_cases f4:a3<n
     .have c4:(a3:Z)<n:=A;obtain⟨d5,d6,a7,b4,b5⟩:=a8;have c6:=H<|Cz g s hs a' (K d5 k.length d6) 0 8 A ha' wr a7;have HR3:=H a7;have HOW3:=H b4;have HSA3:=H b5;have b2:=H a5;have c5:=H a9;have f5:k.length<20000:=(by rw[a9,Ws,Yj];omega);clear a7 b4 b5 a5 a9 HI;go_wp2_with fail;apply c6.mono;rintro r w4 ⟨e3,a4,e4,rfl,h4,v,z⟩;have Q5:=v.c3;have hv:e3<256:=h4.1;have b6:=H<|St.next HR3 HOW3 HSA3 z v;have J8:=H<|HO.trans (z.of_g o);have H4:=H h4;have d7:=h4.2.1;clear h4 v z j;by_cases d8:e4=0
      .subst d8;have b7 :w4.cell? ⟨g,3,O⟩=J (I Q 0):=Q5;have a7:=H<|Ni g S o s a4 k f5 0 e3 hv w4 (hF.mono J8.size) b6;clear Q5;go_wp2_with (go_at_call 129;refine a7.mono ?_;rintro r w5 ⟨rfl,d9,a7⟩;have f6:=H<|J8.trans d9;have b4:=H a7;clear d9 a7);go_roundw
       .obtain ⟨k1,k2,k3⟩:=H4.ok rfl;obtain⟨q1,q2⟩:=X f3;have a5:=X b2;have e8:a'=8*(Ck a/8+4+a3):=A;have f7:e3=As s (Ck a/8+4+a3):=(by rw[k2,e8,zZ]);obtain⟨b5,c6,a7,_⟩:=X b4;refine⟨a3+1,0,A,by go_num,a7.c3,⟨a4,k ++[b8 e3],b4,d7,by simp;omega,.inl ⟨rfl,A,?_⟩⟩,f6⟩;rw[iw,<-WG,<-X c5,f7]
       exact Ae
      obtain⟨k1,k2⟩:=H4.bad d8;have f8:=H k1;subst k2;have b7 :w4.cell? ⟨g,3,O⟩=J (I Q 2):=Q5;clear Q5 k1;go_wp2;go_roundw
      .exact ⟨a3+1,2,A,by go_num,b7,⟨a4,k,b6,d7,A,.inr ⟨rfl,by have:=X f8;have:=X b2;omega⟩⟩,J8⟩
      exact Ae
     have c4:¬(a3:Z)<n:=A;have a7:a3=n:=A;have c:=H a8;have b2:=H a5;have c5:=H a9;clear a8 a5 a9 HI;go_wp2_with fail;go_end0;have h9:=X t;have a5:=X b2;rw[a7] at a5;rw[Wx A,<-a5,<-a7,<-X c5] at h9;exact⟨rfl,HO,a',k,0,⟨ha',L,.inl ⟨h9,rfl⟩⟩,c⟩
    obtain⟨b1,f9⟩:e'=2/\8*s.size<a2+8*n:=ajW;subst b1;have j :wr.cell? ⟨g,3,O⟩=J (I Q 2):=a0;have c:=H a8;have h9:=X t;rw[Wz f9] at h9;have P:=H h9;clear a8 Z1 a0 HI h9;by_cases f4:a3<n
    .have c4:(a3:Z)<n:=A;exact ait
    have:¬(a3:Z)<n:=A;exact ait
   have c0:((n:Z)+m !=65535)=true:=akQ
   rw[Wz b3] at t;have u:=H<|Cw g s a2 (K ao l.length d) 0 2 w2 f;exact aeU
  obtain⟨a6,e0⟩:=qS l H1 H2 b1;have t:=H a6;subst e0;have j :w2.cell? ⟨g,3,O⟩=J (I Q 2):=a0;clear a6 a0;by_cases b3:n+m=65535
  .have c0:((n:Z)+m !=65535)=false:=by rw[acX];omega
   go_wp2_with fail;go_loop [4,5] (λi _=>i=I Q 0) λ_ _=>0
   .rfl
   subst hrel;by_cases D:0<n
   .have y:(0:Z)<(n:Z):=A;exact ahv
   have y:¬(0:Z)<(n:Z):=A;exact ahv
  have:((n:Z)+m !=65535)=true:=akQ
  have u:=H<|Cw g s a2 (K ao l.length d) 2 2 w2 f;exact aeU
 have:((b:Z)%8 !=0)=true:=akQ
 have a0:=qR b9 hm;have HM:=H<|AR c8;have:b<=1125899906842624:=A;go_wp2;go_roundw
 .have R:=b0.set1 (v:=I Q ((b:Z)+1)) (a':=b+1) rfl;exact⟨b+1,A,a0,R.c1,R,HO.setCell (p:=⟨g,1,O⟩) (λ_=>rfl) _⟩
 have R:=b0.set1 (v:=I Q ((b:Z)+1)) (a':=b+1) rfl;rw[X HM,AR R.c1];omega
def QC:M->N| K _ n _=>n|_=>0
def CA{S:N->Prop}{w':U}{e:TypeId}{a:E M}(h:w.ownsRow base e 1 v n a)(ho:Ag S w w')(hs:∀b,v.ownBlock=J b->¬S b):w'.ownsRow base e 1 v n a:=aft
def Ge{c:E M}(h:w.ownsRow base 3 1 v n c)(d:v.ownBlock=J b){o:M}(y:Rd w g s a o e):b≠g:=by
 rintro rfl;obtain⟨_,h|⟨_,_,_,f,_,hg,_⟩⟩:=h
 .rw[h.1] at d;cases d
 rw[f] at d;injection d with d;subst d;exact agk
def iN{C:E N}{l:E N}(d:JH s C a 0 y a1 b)(e:y=16)(f:l.length=0):CW s C many a l=O/\QV b 2=2:=by
 unfold CW;by_cases c:b=0
 .rw[d.ok c];subst c;exact⟨Wz ⟨e,f⟩,rfl⟩
 rw[(d.bad c).1,(d.bad c).2];exact⟨rfl,rfl⟩
def Rb{C:E N}{v:N}{l:E N}(f:JH s C a 0 y a1 b)(h:¬(y=16/\l.length=0))(g:El s a1 b (Bh y) v e c)(i:c≠0):CW s C many a l=O/\c=2:=by
 unfold CW;by_cases d:b=0
 .rw[f.ok d];subst d;obtain⟨b,c⟩:=g.bad i;refine⟨?_,c⟩;show(if y=16/\l.length=0 then _ else _)=_;rw[Wx h,Wz b]
 rw[(f.bad d).1,g.stay d,(f.bad d).2];exact⟨rfl,rfl⟩
def VX{C:E N}{v:N}{l:E N}(e:JH s C a 0 y a1 e1)(f:¬(y=16/\l.length=0))(h2:El s a1 e1 (Bh y) v b c)(he:c=0):
 CW s C many a l=if many<l.length+(BK y+v) then O else J (b,l++List.replicate (BK y+v) (Gd y l)):=by
 have d:e1=0:=ajn;subst d;obtain⟨_,b,c⟩:=h2.ok he;unfold CW;rw[e.ok rfl];show(if y=16/\l.length=0 then _ else _)=_;rw[Wx f,Wx A,<-b,<-c]
def qT(g:N)(s:Y)(hs:s.size<=140737488355328)(a:N)(o:M)(ha:a<=8*s.size)(gc cc:N)(C:E N)(hC:C.length=19)(many:N)(d0:many<=320)(w:U)(h:Rd w g s a o 0)(hI:BG w gc 0 C):
 μ F 133 #[V<|J ⟨g,0,O⟩,K (J ⟨gc,0,O⟩) 19 cc,I Q many] w λr w'=>
  Ag (λk=>k=g) w w'/\∃a' e' ao n cap,r=ε (K ao n cap)/\a'<=8*s.size/\Rd w' g s a' o e'/\((e'=0/\∃l,Jd s C many a []=J (a',l)/\n=l.length/\w'.ownsRow w.heap.size 3 1 (K ao n cap) n (Av l))\/(e'=2/\Jd s C many a []=O)):=by
 obtain⟨i0,N5,Q0,G9,G8⟩:=wi KO;have d9:=hI.ne h;have HR:=H h;have HI:=H hI;clear h hI;go_in;go_wp2;go_loopw [7,8,9,10,11] (λa3 _ _ _ _ wr=>∃(n:N) (ao:Option Addr) (cap e':N),n<=many/\a3=K ao n cap/\wr.cell? ⟨g,3,O⟩=J (I Q e')/\Hid (∃xs,wr.ownsRow w.heap.size 3 1 (K ao n cap) n xs)/\
  Hid (∃a',a'<=8*s.size/\Rd wr g s a' o e'/\((e'=0/\∃l,l.length=n/\(wr.ownsRow w.heap.size 3 1 (K ao n cap) n<|Av l)/\Jd s C many a []=Jd s C many a' l)\/(e'=2/\Jd s C many a []=O)))/\Hid (Ag (λk=>k=g) w wr))
  (λa3 _ _ _ _ wr=>2*(many-QC a3)+if Ls wr g 3=0 then 1 else 0)
 .exact ⟨0,O,0,0,A,rfl,HR.c3,⟨[],WZ _ _ _ _⟩,⟨a,ha,HR,.inl ⟨rfl,[],rfl,WZ _ _ _ _,rfl⟩⟩,Ag.refl _ w⟩
 obtain⟨n,ao,cap,e',hn,rfl,c0,e0,HS,HO⟩:=hrel;obtain⟨a',ha',b1,Z1⟩:=X HS;by_cases he:e'=0
 .subst he;obtain⟨_,l,c6,b4,c7⟩:0=0/\∃l,l.length=n/\(wr.ownsRow w.heap.size 3 1 (K ao n cap) n<|Av l)/\Jd s C many a []=Jd s C many a' l:=by
   rcases Z1 with h|⟨h,_⟩
   .exact h
   cases h
  have p:wr.cell? ⟨g,3,O⟩=J (I Q 0):=c0;have HM:=H<|AR c0;clear Z1 c0 e0 HS;by_cases R:n<many
  .have c1:(n:Z)<many:=A;have c9:=H<|RG g s hs a' o 0 ha' gc 0 cc C A wr b1 (HI.kept HO d9);rw[hC] at c9;have L:=H b4;have O2:=H c7;have J4:=H c6;have t:=H b1;clear b4 c7 c6 b1;go_wp2_with fail;apply c9.mono;rintro r w1 ⟨y,a1,e1,rfl,h1,a7,d0⟩;have f0:y<=19:=by have:=h1.2.1;omega
   have b6:=H<|HO.trans d0;have c:=H (CA L d0 λb hb=>Ge L hb t);have b7:=H a7;clear d0 p c9;by_cases b5:y=16
   .subst b5;by_cases e3:n=0
    .subst e3;have b2:=H<|Cw g s a1 o e1 2 w1 a7;have N4:=H<|iN (many:=many) (l:=l) h1 rfl J4;have c8:=h1.1.2;clear h1 a7;go_wp2_with fail;apply b2.mono;rintro r w4 ⟨rfl,a4,a5⟩;rw[(X N4).2] at a4;have N1:=H a4;have J8:=H<|b6.trans a5;clear a4 a5;go_wp2;go_ret;exact⟨J8,a1,2,ao,0,cap,rfl,c8,N1,.inr ⟨rfl,by rw[X O2,Cp (by rw[X J4];exact R),N4.1]⟩⟩
    have c9:((n:Z)==0)=false:=act;obtain⟨b,_,e4,_,_⟩:=c.form A;injection e4 with e5 d1 e6;subst e5 e6;have e7:w1.cell? ⟨b,n-1,O⟩=J (I Q (l.getD (l.length-1) 0:N)):=aib;have c9:(n:Z)-1<(n:Z):=A;have d0:(0:Z)<=(n:Z)-1:=A;have c9:((n:Z)-1).toNat=n-1:=A;have d0:(1:Z)<=(n:Z):=A;generalize d4:l.getD (l.length-1) 0=wl at e7;have e8:=H d4;clear d4;have a9:=H<|Cz g s hs a1 o e1 2 A h1.1.2 w1 a7;have H1:=H h1;have c8:=h1.1.2;clear h1 a7;go_wp2_with fail;apply a9.mono;rintro r w2 ⟨a3,a2,e2,rfl,h2,b0,a6⟩;have hv:a3<2^2:=h2.1;have d1:a3<4:=hv;have I4:=h2.2.1;have i:=H (Rb (many:=many) (l:=l) H1 (by have:=X J4;omega) h2);have z:Hid (e2=0->CW s C many a' l=if many<l.length+(3+a3) then O else J (a2,l++List.replicate (3+a3) wl)):=λhe=>by have:=VX (many:=many) (l:=l) H1 (by have:=X J4;omega) h2 he;rw[<-X e8];exact this
    have f:=H b0;have T:=H<|b6.trans a6;have d:=H (CA c a6 λb hb=>Ge c hb b7);clear h2 b0 a6 hv a9;have a0:=f.c3;by_cases D:many<n+(3+a3)
    .have b9:(many:Z)<n+(3+(a3:Z)):=A;have N4:Hid<|CW s C many a' l=O/\QV e2 2=2:=afA;have b2:=H<|Cw g s a2 o e2 2 w2 f;go_wp2_with fail;apply b2.mono;rintro r w4 ⟨rfl,a4,a5⟩;rw[(X N4).2] at a4;have J8:=H<|T.trans a5;have Q5:w4.cell? ⟨g,3,O⟩=J (I Q 2):=a4.c3;have N1:=H a4;have G6:=H (CA d a5 λb hb=>Ge d hb f);clear a5 a4 a0;go_wp2_with fail;go_loop [7,11] (λx a8=>x=K (J ⟨b,0,O⟩) n cap/\a8=I Q 0) (λ_ _=>0)
     .exact ⟨rfl,rfl⟩
     obtain⟨rfl,rfl⟩:=hrel;have c2:(0:Z)<(3+(a3:Z)):=A;go_wp2;go_roundw
     .exact ⟨n,(J ⟨b,0,O⟩),cap,2,hn,rfl,Q5,⟨_,G6⟩,⟨a2,I4,N1,.inr ⟨rfl,by rw[X O2,Cp (by rw[X J4];exact R),N4.1]⟩⟩,J8⟩
     rw[X HM,AR (X N1).c3];simp[QC]
    have b9:¬(many:Z)<n+(3+(a3:Z)):=A;by_cases a8:e2=0
    .subst a8;have v:=H<|z rfl;rw[Wx<|by rw[X J4];exact D] at v;have p:w2.cell? ⟨g,3,O⟩=J (I Q 0):=a0;clear a0 i z;go_wp2;go_loopw [7,11] (λx b3 wr=>∃(j:N) (ao2:Option Addr) (cap2:N),j<=(3+a3)/\x=K ao2 (n+j) cap2/\b3=I Q j/\Hid (wr.ownsRow w.heap.size 3 1 (K ao2 (n+j) cap2) (n+j)<|Av (l++List.replicate j wl))/\Hid (Rd wr g s a2 o 0)/\Hid (Ag (λk=>k=g) w wr)) (λ_ b3 _=>(3+a3)-(intOf b3).toNat)
     .exact ⟨0,(J ⟨b,0,O⟩),cap,A,rfl,rfl,(show World.ownsRow _ _ _ _ _ _ _ by simpa using X d),f,T⟩
     obtain⟨j,ao2,cap2,hj,rfl,rfl,L,t,HO⟩:=hrel;have N7:wr.cell? ⟨g,3,O⟩=J (I Q 0):=t.c3;by_cases d2:j<(3+a3)
     .have b3:(j:Z)<(3+(a3:Z)):=A;have I6:=H<|Fb (wr:=wr) (n:=(wl:N));have Z7:Hid ((wr.alloc<|W #[I Q (wl:N)] 3).ownsRow w.heap.size 3 1 (K ao2 (n+j) cap2) (n+j)<|Av (l++List.replicate j wl)):=L.alloc _;have S:Hid<|w.heap.size<=(wr.alloc<|W #[I Q (wl:N)] 3).heap.size:=by have:=HO.size;unfold Hid;simp only[WP];omega
      have G5:=H (t.kept ((Ag.refl (λ_=>False) wr).alloc<|W #[I Q (wl:N)] 3) λx=>x);have HNE:=H λb hb=>Ge Z7 (b:=b) hb G5;go_wp2_with (at_builtin;refine wpList_append_lies _ rfl (.tmp 75) (.tmp 77) 100 rfl w.heap.size 3 i0 (I Q 0) 1 8 underlying100 N5 Q0 G9 G8 rfl A (K ao2 (n+j) cap2) (n+j) _ rfl Z7 ⟨wr.heap.size,0,O⟩ 1 1 [I Q (wl:N)] rfl rfl I6 alk A (by unfold maxLen;omega) A S _ rfl ?_;intro g2 I9 w3 m P O0 Q4;have J3:=H m;have J9:=H P;have HB:=H<|Cd Z7;clear m P O0);go_roundw
      .refine ⟨j+1,J ⟨g2,0,O⟩,I9,A,by rw[aap],by go_num,?_,?_,?_⟩
       .have e:Av (l++List.replicate (j+1) wl)=Av (l++List.replicate j wl)++[I Q (wl:N)]:=alz;rw[e];exact J3
       .exact agt
       exact afi
      exact Ae
     have b3:¬(j:Z)<(3+(a3:Z)):=A;have V8:j=(3+a3):=A;go_wp2;go_roundw
     .refine ⟨n+j,ao2,cap2,0,A,rfl,N7,⟨_,L⟩,⟨a2,I4,t,.inl ⟨rfl,l++List.replicate j wl,by rw[Ws,wA,X J4],L,?_⟩⟩,HO⟩;exact ahb
     rw[X HM,AR N7];simp[QC];omega
    obtain⟨k1,k2⟩:=i a8;have T4:=H k1;subst k2;have p:w2.cell? ⟨g,3,O⟩=J (I Q 2):=a0;clear k1 a0 i z;go_wp2_with fail;go_loop [7,11] (λx c4=>x=K (J ⟨b,0,O⟩) n cap/\c4=I Q 0) λ_ _=>0
    .exact ⟨rfl,rfl⟩
    obtain⟨rfl,rfl⟩:=hrel;have c2:(0:Z)<(3+(a3:Z)):=A;go_wp2;go_roundw
    .exact ⟨n,(J ⟨b,0,O⟩),cap,2,hn,rfl,p,⟨_,d⟩,⟨a2,I4,f,.inr ⟨rfl,by rw[X O2,Cp (by rw[X J4];exact R),X T4]⟩⟩,T⟩
    rw[X HM,AR p];simp[QC]
   have c9:((y:Z)==16)=false:=act
   by_cases c4:y=17
   .subst c4;have a9:=H<|Cz g s hs a1 o e1 3 A h1.1.2 w1 a7;have H1:=H h1;have c8:=h1.1.2;clear h1 a7;go_wp2_with fail;apply a9.mono;rintro r w2 ⟨a3,a2,e2,rfl,h2,b0,a6⟩;have hv:a3<2^3:=h2.1;have d1:a3<8:=hv;have I4:=h2.2.1;have i:=H (Rb (many:=many) (l:=l) H1 (by have:=X J4;omega) h2);have z:Hid (e2=0->CW s C many a' l=if many<l.length+(3+a3) then O else J (a2,l++List.replicate (3+a3) (0))):=VX (many:=many) (l:=l) H1 (by have:=X J4;omega) h2;have f:=H b0;have T:=H<|b6.trans a6;have d:=H (CA c a6 λb hb=>Ge c hb b7);clear h2 b0 a6 hv a9;have a0:=f.c3;by_cases D:many<n+(3+a3)
    .have b9:(many:Z)<n+(3+(a3:Z)):=A;have N4:Hid<|CW s C many a' l=O/\QV e2 2=2:=afA;have b2:=H<|Cw g s a2 o e2 2 w2 f;go_wp2_with fail;apply b2.mono;rintro r w4 ⟨rfl,a4,a5⟩;rw[(X N4).2] at a4;have J8:=H<|T.trans a5;have Q5:w4.cell? ⟨g,3,O⟩=J (I Q 2):=a4.c3;have N1:=H a4;have G6:=H (CA d a5 λb hb=>Ge d hb f);clear a5 a4 a0;go_wp2_with fail;go_loop [7,11] (λx c5=>x=K ao n cap/\c5=I Q 0) (λ_ _=>0)
     .exact ⟨rfl,rfl⟩
     obtain⟨rfl,rfl⟩:=hrel;have c2:(0:Z)<(3+(a3:Z)):=A;exact agp
    have b9:¬(many:Z)<n+(3+(a3:Z)):=A;by_cases a8:e2=0
    .subst a8;have v:=H<|z rfl;rw[Wx<|by rw[X J4];exact D] at v;have p:w2.cell? ⟨g,3,O⟩=J (I Q 0):=a0;clear a0 i z;go_wp2;go_loopw [7,11] (λx c5 wr=>∃(j:N) (ao2:Option Addr) (cap2:N),j<=(3+a3)/\x=K ao2 (n+j) cap2/\c5=I Q j/\Hid (wr.ownsRow w.heap.size 3 1 (K ao2 (n+j) cap2) (n+j)<|Av (l++List.replicate j 0))/\Hid (Rd wr g s a2 o 0)/\Hid (Ag (λk=>k=g) w wr)) (λ_ c5 _=>(3+a3)-(intOf c5).toNat)
     .exact aic
     obtain⟨j,ao2,cap2,hj,rfl,rfl,L,t,HO⟩:=hrel;have N7:wr.cell? ⟨g,3,O⟩=J (I Q 0):=t.c3;by_cases d2:j<(3+a3)
     .have b3:(j:Z)<(3+(a3:Z)):=A;exact aeB
     have b3:¬(j:Z)<(3+(a3:Z)):=A;have V8:j=(3+a3):=A;exact afS
    obtain⟨k1,k2⟩:=i a8;have T4:=H k1;subst k2;have p:w2.cell? ⟨g,3,O⟩=J (I Q 2):=a0;clear k1 a0 i z;go_wp2_with fail;go_loop [7,11] (λx c5=>x=K ao n cap/\c5=I Q 0) λ_ _=>0
    .exact ⟨rfl,rfl⟩
    obtain⟨rfl,rfl⟩:=hrel;have c2:(0:Z)<(3+(a3:Z)):=A;exact agr
   have c9:((y:Z)==17)=false:=act
   by_cases c5:y=18
   .subst c5;have a9:=H<|Cz g s hs a1 o e1 7 A h1.1.2 w1 a7;have H1:=H h1;have c8:=h1.1.2;clear h1 a7;go_wp2_with fail;apply a9.mono;rintro r w2 ⟨a3,a2,e2,rfl,h2,b0,a6⟩;have hv:a3<2^7:=h2.1;have d1:a3<128:=hv;have I4:=h2.2.1;have i:=H (Rb (many:=many) (l:=l) H1 (by have:=X J4;omega) h2);have z:Hid (e2=0->CW s C many a' l=if many<l.length+(11+a3) then O else J (a2,l++List.replicate (11+a3) (0))):=VX (many:=many) (l:=l) H1 (by have:=X J4;omega) h2;have f:=H b0;have T:=H<|b6.trans a6;have d:=H (CA c a6 λb hb=>Ge c hb b7);clear h2 b0 a6 hv a9;have a0:=f.c3;by_cases D:many<n+(11+a3)
    .have b9:(many:Z)<n+(11+(a3:Z)):=A;have N4:Hid<|CW s C many a' l=O/\QV e2 2=2:=afA;have b2:=H<|Cw g s a2 o e2 2 w2 f;go_wp2_with fail;apply b2.mono;rintro r w4 ⟨rfl,a4,a5⟩;rw[(X N4).2] at a4;have J8:=H<|T.trans a5;have Q5:w4.cell? ⟨g,3,O⟩=J (I Q 2):=a4.c3;have N1:=H a4;have G6:=H (CA d a5 λb hb=>Ge d hb f);clear a5 a4 a0;go_wp2_with fail;go_loop [7,11] (λx a4=>x=K ao n cap/\a4=I Q 0) (λ_ _=>0)
     .exact ⟨rfl,rfl⟩
     obtain⟨rfl,rfl⟩:=hrel;have c2:(0:Z)<(11+(a3:Z)):=A;exact agp
    have b9:¬(many:Z)<n+(11+(a3:Z)):=A;by_cases a8:e2=0
    .subst a8;have v:=H<|z rfl;rw[Wx<|by rw[X J4];exact D] at v;have p:w2.cell? ⟨g,3,O⟩=J (I Q 0):=a0;clear a0 i z;go_wp2;go_loopw [7,11] (λx a4 wr=>∃(j:N) (ao2:Option Addr) (cap2:N),j<=(11+a3)/\x=K ao2 (n+j) cap2/\a4=I Q j/\Hid (wr.ownsRow w.heap.size 3 1 (K ao2 (n+j) cap2) (n+j)<|Av (l++List.replicate j 0))/\Hid (Rd wr g s a2 o 0)/\Hid (Ag (λk=>k=g) w wr)) (λ_ a4 _=>(11+a3)-(intOf a4).toNat)
     .exact aic
     obtain⟨j,ao2,cap2,hj,rfl,rfl,L,t,HO⟩:=hrel;have N7:wr.cell? ⟨g,3,O⟩=J (I Q 0):=t.c3;by_cases d2:j<(11+a3)
     .have b3:(j:Z)<(11+(a3:Z)):=A;exact aeB
     have b3:¬(j:Z)<(11+(a3:Z)):=A;have V8:j=(11+a3):=A;exact afS
    obtain⟨k1,k2⟩:=i a8;have T4:=H k1;subst k2;have p:w2.cell? ⟨g,3,O⟩=J (I Q 2):=a0;clear k1 a0 i z;go_wp2_with fail;go_loop [7,11] (λx a4=>x=K ao n cap/\a4=I Q 0) λ_ _=>0
    .exact ⟨rfl,rfl⟩
    obtain⟨rfl,rfl⟩:=hrel;have:(0:Z)<(11+(a3:Z)):=A;exact agr
   have a3:((y:Z)==18)=false:=act
   have d5:Bh y=0:=by unfold Bh;rw[Wx b5,Wx c4,Wx c5]
   have d6:BK y=1:=by unfold BK;rw[Wx b5,Wx c4,Wx c5]
   have d3:El s a1 e1 (Bh y) 0 a1 e1:=by rw[d5];exact El.zero h1.1.2
   have I4:=h1.1.2;have i:=H<|Rb (many:=many) (l:=l) h1 A d3;have z:Hid (e1=0->CW s C many a' l=if many<l.length+1 then O else J (a1,l++List.replicate 1 y)):=λhe=>by
    have:y<C.length:=by
     subst he;exact(Ih<|h1.ok rfl).2.2
    have h9:=VX (many:=many) (l:=l) h1 A d3 he;have hw:Gd y l=y:=(by unfold Gd;rw[Wx b5,Wx A]);rw[d6,hw] at h9;exact h9
   clear h1 a7 d3 d5 d6;have a0:=b7.c3;by_cases D:many<n+1
   .exact κ D A
   have:¬(many:Z)<n+1:=A;by_cases d7:e1=0
   .subst d7;have v:=H<|z rfl;rw[Wx<|by rw[X J4];exact D] at v;have p:w1.cell? ⟨g,3,O⟩=J (I Q 0):=a0;clear a0 i z;go_wp2;go_loopw [7,11] (λx a3 wr=>∃(j:N) (ao2:Option Addr) (cap2:N),j<=1/\x=K ao2 (n+j) cap2/\a3=I Q j/\Hid (wr.ownsRow w.heap.size 3 1 (K ao2 (n+j) cap2) (n+j)<|Av (l++List.replicate j y))/\Hid (Rd wr g s a1 o 0)/\Hid (Ag (λk=>k=g) w wr)) (λ_ a3 _=>1-(intOf a3).toNat)
    .exact ⟨0,ao,cap,A,rfl,rfl,(show World.ownsRow _ _ _ _ _ _ _ by simpa using X c),b7,b6⟩
    obtain⟨j,ao2,cap2,hj,rfl,rfl,L,t,HO⟩:=hrel;have N7:wr.cell? ⟨g,3,O⟩=J (I Q 0):=t.c3;by_cases d2:j<1
    .have b3:(j:Z)<1:=A;have I6:=H<|Fb (wr:=wr) (n:=(y:N));have Z7:Hid ((wr.alloc<|W #[I Q (y:N)] 3).ownsRow w.heap.size 3 1 (K ao2 (n+j) cap2) (n+j)<|Av (l++List.replicate j y)):=L.alloc _;have S:Hid<|w.heap.size<=(wr.alloc<|W #[I Q (y:N)] 3).heap.size:=by have:=HO.size;unfold Hid;simp only[WP];omega
     have G5:=H (t.kept ((Ag.refl (λ_=>False) wr).alloc<|W #[I Q (y:N)] 3) λx=>x);have HNE:=H λb hb=>Ge Z7 (b:=b) hb G5;go_wp2_with (at_builtin;refine wpList_append_lies _ rfl (.tmp 75) (.tmp 77) 100 rfl w.heap.size 3 i0 (I Q 0) 1 8 underlying100 N5 Q0 G9 G8 rfl A (K ao2 (n+j) cap2) (n+j) _ rfl Z7 ⟨wr.heap.size,0,O⟩ 1 1 [I Q (y:N)] rfl rfl I6 alk A (by unfold maxLen;omega) A S _ rfl ?_;intro g2 I9 w3 m P O0 Q4;have J3:=H m;have J9:=H P;have HB:=H<|Cd Z7;clear m P O0);go_roundw
     .refine ⟨j+1,J ⟨g2,0,O⟩,I9,A,by rw[aap],by go_num,?_,?_,?_⟩
      .exact ahi
      .exact agt
      exact afi
     exact Ae
    have:¬(j:Z)<1:=A;have V8:j=1:=A;go_wp2;go_roundw
    .refine ⟨n+j,ao2,cap2,0,A,rfl,N7,⟨_,L⟩,⟨a1,I4,t,.inl ⟨rfl,l++List.replicate j y,by rw[Ws,wA,X J4],L,?_⟩⟩,HO⟩;exact ahb
    rw[X HM,AR N7];simp[QC];omega
   obtain⟨k1,k2⟩:=i d7;have T4:=H k1;subst k2;have p:w1.cell? ⟨g,3,O⟩=J (I Q 2):=a0;clear k1 a0 i z;go_wp2_with fail;go_loop [7,11] (λx a0=>x=K ao n cap/\a0=I Q 0) λ_ _=>0
   .exact ⟨rfl,rfl⟩
   obtain⟨rfl,rfl⟩:=hrel;go_wp2;go_roundw
   .exact ⟨n,ao,cap,2,hn,rfl,p,⟨_,c⟩,⟨a1,I4,b7,.inr ⟨rfl,by rw[X O2,Cp (by rw[X J4];exact R),X T4]⟩⟩,b6⟩
   rw[X HM,AR p];simp[QC]
  have c1:¬(n:Z)<many:=A;have L:=H b4;have O2:=H c7;have J4:=H c6;have t:=H b1;clear b4 c7 c6 b1;go_wp2;go_ret;exact⟨HO,a',0,ao,n,cap,rfl,ha',t,.inl ⟨rfl,l,by rw[X O2];exact Ul (by rw[X J4];exact R),(X J4).symm,L⟩⟩
 obtain⟨a8,d8⟩:e'=2/\Jd s C many a []=none:=ajW;subst a8;have p:wr.cell? ⟨g,3,O⟩=J (I Q 2):=c0;have N4:=H d8;have t:=H b1;clear Z1 c0 d8 b1 HS;by_cases R:n<many
 .have c1:(n:Z)<many:=A;exact aiJ
 have:¬(n:Z)<many:=A;exact aiJ
