import Derived.Test.YtfpphfkcaplafaaGreatDoorZad
import Derived.Sort.Walk0
set_option linter.all false
set_option maxHeartbeats 64000000
set_option maxRecDepth 100000
open _root_ renaming Option.some->J,Option.none->O,Int->Z,Nat->N,Go.Value.int->I,Go.Value.string->G,Go.IntKind.i64->Q,ByteArray->Y,List->E,Go.World->U,Go.Value.slice->K,Go.Value->M,Go.Obj.cells->W,Go.Value.pointer->V,Go.RowKit.Hid->C,Go.Proofs.Tryz.prog->F,Bool.true->θ,Bool.false->ι,absurd->κ,UInt8->υ
variable{base i n s:N}{P nm p q u:Y}{a b x:E υ}{l:E Y}{w w':U}{v:M}
namespace Go.Proofs.YtfpphfkcaplafaaGreatDoor.dk
open Go.RowKit Go.Proofs.Tryz
def uf(a b:Y):Op.bytesLess a.toList b.toList=decide (bl a<bl b):=by rw[ByteArray.toList_eq,ByteArray.toList_eq,bytesLess_eq]
def Qq(ts:E Th):Prop:=ts.Pairwise λa b=>bl a.p<bl b.p
def Qq.nth_lt{ts:E Th}(h:Qq ts){j:N}(a:i<j)(b:j<ts.length):bl (nth ts i).p<bl (nth ts j).p:=by
 have c:=aaG.1 h i j A b a;simpa [nth,Wq,Wv b,Wv (show i<ts.length by omega)] using c
def sE{ts:E Th}(j:Qq ts)(q:Y):∀(n b a:N),b<=a->a<=ts.length->a-b<=n->(∀i,i<b->bl (nth ts i).p<bl q)->(∀i,a<=i->i<ts.length->¬bl (nth ts i).p<bl q)->
 (∀i,i<bs ts q n b a->bl (nth ts i).p<bl q)/\(∀i,bs ts q n b a<=i->i<ts.length->¬bl (nth ts i).p<bl q):=by
 intro n;induction n with
 |zero=>
  intro b a c g d e f;have:b=a:=A;subst this;exact⟨e,f⟩
 |succ n h=>
  intro b a c g d e f;by_cases d:b<a
  .have c:(b+a)/2<a:=A;by_cases c:bl (nth ts ((b+a)/2)).p<bl q
   .rw[mF d<|by rw[uf];exact Wy c];refine h _ _ A g A (λi _ =>?_) f;by_cases g:i=(b+a)/2
    .rw[g];exact c
    exact abA (j.nth_lt (show i<(b+a)/2 by omega) A) c
   rw[fO d<|by rw[uf];exact Ww c];refine h _ _ A A A e λi _ d h=>?_;by_cases g:i=(b+a)/2
   .rw[g] at h;exact c h
   exact c (abA (j.nth_lt (show(b+a)/2<i by omega) d) h)
  rw[mE _ _ _ _ _ A];have:b=a:=A;subst this;exact⟨e,f⟩
def ZZ{ts:E Th}(a:Qq ts)(q:Y):(∀i,i<JJ ts q->bl (nth ts i).p<bl q)/\(∀i,JJ ts q<=i->i<ts.length->¬bl (nth ts i).p<bl q):=
 sE a q ts.length 0 ts.length (wH _) (WF _) A (λi _=>A) λi _ _=>A
def XG{ts:E Th}(h:i<ts.length):nth ts i∈ts:=by
 rw[nth,Wq,Wv h];exact WJ h
def XH{ts:E Th}{t:Th}(h:t∈ts):∃i,i<ts.length/\nth ts i=t:=by
 obtain⟨i,a,e⟩:=wF h;exact⟨i,a,by rw[nth,Wq,Wv a];exact e⟩
def Qq.one{ts:E Th}(c:Qq ts){a b:Th}(d:a∈ts)(e:b∈ts)(h:a.p=b.p):a=b:=by
 obtain⟨i,f,rfl⟩:=XH d;obtain⟨j,g,rfl⟩:=XH e;rcases abF i j with hij|hij|hij
 .have:=c.nth_lt hij g;rw[h] at this;exact κ this<|aaq _
 .rw[hij]
 have:=c.nth_lt hij f;rw[h] at this;exact κ this<|aaq _
def aa{ts:E Th}(b:Qq ts){t:Th}(c:t∈ts):Ji ts t.p=θ/\JJ ts t.p<ts.length/\nth ts (JJ ts t.p)=t:=by
 obtain⟨i,a,rfl⟩:=XH c;obtain⟨d,e⟩:=ZZ b (nth ts i).p;have f:JJ ts (nth ts i).p=i:=by
  rcases abF (JJ ts (nth ts i).p) i with h|h|h
  .exact κ (b.nth_lt h a)<|e _ (WF _) A
  .exact h
  exact κ (d i h)<|aaq _
 rw[Ji,f];exact⟨by rw[Wy a];simp,a,rfl⟩
def sF{ts:E Th}(h:∀t∈ts,t.p≠q):Ji ts q=false:=by
 rw[Ji,Bool.and_eq_false_iff];by_cases a:JJ ts q<ts.length
 .right
  rw[WA];intro e;rw[ByteArray.toList_eq,ByteArray.toList_eq] at e;exact h _ (XG a)<|Dx e
 left;exact Ww a
def Mf{ts:E Th}(a:Qq ts){t:Th}(b:t∈ts):BW ts t.p=if t.f then 2 else 1:=by
 obtain⟨c,_,d⟩:=aa a b;rw[BW,c,Wz rfl,d]
def Lh{ts:E Th}(h:∀t∈ts,t.p≠q):BW ts q=0:=by
 rw[BW,sF h];rfl
def MD{ts:E Th}(h:BW ts q≠0):∃t∈ts,t.p=q:=by
 refine Classical.byContradiction λa=>h (Lh λt b e=>a ⟨t,b,e⟩)
def KF{ts:E Th}(a:Qq ts)(h:BW ts q=0):∀t∈ts,t.p≠q:=by
 intro t b e;subst e;rw[Mf a b] at h;split at h<;>cases h
def Ox{ts:E Th}(c:Qq ts):BW ts q=2↔ ∃t∈ts,t.p=q/\t.f=true:=by
 constructor
 .intro h;obtain⟨t,a,rfl⟩:=MD (ts:=ts) (q:=q) (by rw[h];decide);rw[Mf c a] at h;cases b:t.f with
  |true=>exact⟨t,a,rfl,b⟩
  |false=>rw[b] at h;cases h
 rintro⟨t,a,rfl,b⟩;rw[Mf c a,b];rfl
def KE(ts:E Th)(t:Th):(ins ts t).Perm (t::ts):=by
 have h:=List.perm_middle (a:=t) (l₁:=ts.take<|JJ ts t.p) (l₂:=ts.drop<|JJ ts t.p);rw[aau] at h;exact h
def Qq.ins{ts:E Th}(f:Qq ts){t:Th}(k:∀x∈ts,x.p≠t.p):Qq<|ins ts t:=by
 obtain⟨l,m⟩:=ZZ f t.p;have:=cr ts t.p;refine aao.2 ⟨f.sublist<|List.take_sublist _ _,List.pairwise_cons.2 ⟨λx c=>?_,f.sublist<|List.drop_sublist _ _⟩,λa h b hb=>?_⟩
 .obtain ⟨i,d,rfl⟩:=wF c;have c:JJ ts t.p+i<ts.length:=by rw[aad] at d;omega
  have e:(ts.drop<|JJ ts t.p)[i]=nth ts (JJ ts t.p+i):=by rw[List.getElem_drop,nth,Wq,Wv c];rfl
  rw[e];have n:=m _ (Nat.le_add_right _ i) c;have m:=k _<|XG c;exact Classical.byContradiction λg=>m<|Dx (List.le_antisymm (acW.1 g)<|acW.1 n)
 have g:bl a.p<bl t.p:=by
  obtain⟨i,d,rfl⟩:=wF h;have c:i<JJ ts t.p:=by rw[hY] at d;omega
  have e:(ts.take<|JJ ts t.p)[i]=nth ts i:=by rw[acj,nth,Wq,Wv (show i<ts.length by omega)];rfl
  rw[e];exact l i c
 rcases wD.1 hb with rfl|hb
 .exact g
 obtain⟨i,d,rfl⟩:=wF hb;have c:JJ ts t.p+i<ts.length:=by rw[aad] at d;omega
 have e:(ts.drop<|JJ ts t.p)[i]=nth ts (JJ ts t.p+i):=by rw[List.getElem_drop,nth,Wq,Wv c];rfl
 rw[e];obtain⟨j,o,rfl⟩:=wF h;have:j<JJ ts t.p:=by rw[hY] at o;omega
 have d:(ts.take<|JJ ts t.p)[j]=nth ts j:=by rw[acj,nth,Wq,Wv (show j<ts.length by omega)];rfl
 rw[d];exact f.nth_lt A c
structure Wf (ts:E Th):Prop where
 srt:Qq ts
 up:∀t∈ts,∃u,AE t.p=J u/\(bl u=[]\/ ∃x∈ts,x.p=u/\x.f=θ)
def Wf.there{ts:E Th}(h:Wf ts)(hp:bl p≠[]):∀(n:N) (t:Th),t∈ts->(bl t.p).length<=n->Wi (bl t.p) (bl p)-> ∃x∈ts,x.p=p/\(t.p≠p->x.f=θ):=by
 intro n;induction n with
 |zero=>
  intro t _ e hw;exact ajA
 |succ n i=>
  intro t b e hw;by_cases e:t.p=p
  .exact ⟨t,b,e,λx=>κ e x⟩
  obtain⟨_,j,c⟩:=h.up t b;have b:=FE j;have a:=Wi.up b hw λx=>e<|Dx x;have k:=Sf b;rcases c with c|⟨x,g,rfl,d⟩
  .exfalso;rw[c] at a;have h1:=a.len;exact hp<|List.length_eq_zero_iff.1 (Nat.le_zero.1 h1)
  obtain⟨y,e,b,c⟩:=i x g A a;refine⟨y,e,b,λ_=>?_⟩;by_cases a:x.p=p
  .have:=h.srt.one g e<|a.trans b.symm;rw[<-this];exact d
  exact c a
def Wf.gone{ts:E Th}(h:Wf ts)(a:bl p≠[])(h0:∀t∈ts,t.p≠p):∀t∈ts,¬Wi (bl t.p) (bl p):=by
 intro t b c;obtain⟨x,d,e,_⟩:=h.there a _ t b (WF _) c;exact h0 x d e
open Go.RowKit Go.Proofs.Tryz
def Wf.child{ts:E Th}(i:Wf ts)(hp:bl p≠[]):∀(n:N) (t:Th),t∈ts->(bl t.p).length<=n->Wi (bl t.p) (bl p)->t.p≠p-> ∃c∈ts,AE c.p=J p/\Wi (bl t.p) (bl c.p):=by
 intro n;induction n with
 |zero=>
  intro t _ d hw _;exact ajA
 |succ n j=>
  intro t f d hw d;obtain⟨u,g,e⟩:=i.up t f;have b:=FE g;have a:=Wi.up b hw λx=>d<|Dx x;have i:=Sf b;by_cases h:u=p
  .subst h;exact⟨t,f,g,Wi.refl _⟩
  rcases e with e|⟨x,k,rfl,_⟩
  .exfalso;rw[e] at a;exact hp<|List.length_eq_zero_iff.1 (Nat.le_zero.1 a.len)
  obtain⟨c,d,e,f⟩:=j x k A a h;refine⟨c,d,e,Wi.trans (tQ b ?_) f⟩;intro b;have:=a.len;rw[b] at this;exact hp<|List.length_eq_zero_iff.1 (Nat.le_zero.1 this)
def ab:Y:=⟨#[47]⟩
def Dn(p nm:Y):Y:=p++ab++nm
def DA(p nm:Y):bl (Dn p nm)=bl p++47::bl nm:=by
 rw[Dn,Np,Np];show bl p++[47]++bl nm=_;simp
def Et(p nm:Y):(Dn p nm).size=p.size+1+nm.size:=by
 rw[Dn,WC,WC];rfl
def Qr{c:Th}(h:AE c.p=J p)(a:bl p≠[]):Dn p (Ka p c)=c.p/\(Ka p c).size<=c.p.size:=by
 have b:(p.toList==[])=false:=by rw[ByteArray.toList_eq,WA];exact a
 have d:=FE h;rcases d with⟨e,_⟩|⟨_,e,_⟩
 .exact κ e a
 unfold Ka;rw[b];refine⟨Dx ?_,?_⟩
 .show bl (Dn p<|c.p.extract (p.size+1) c.p.size)=bl c.p;rw[DA,Se,e];have:p.size+1=(bl p).length+1:=by rw[Bi]
  rw[this,List.drop_append];simp
 show(c.p.extract (p.size+1) c.p.size).size<=_;rw[WM];omega
def Oy{c:Th}(h:AE c.p=J u):Jk p c=θ↔u=p:=by
 unfold Jk;rw[Kv h,aaB,ByteArray.toList_eq,ByteArray.toList_eq];exact⟨λe=>Dx e,λe=>by rw[e]⟩
def PJ{ts:E Th}(h:Wf ts)(f:bl p≠[])(b:nm∈BH ts p):∃c∈ts,AE c.p=J p/\c.p=Dn p nm/\nm=Ka p c:=by
 unfold BH at b;split at b
 .obtain ⟨c,g,rfl⟩:=wd.1 b;obtain⟨a,d⟩:=aaZ.1 g;obtain⟨_,e,_⟩:=h.up c a;have i:=(Oy e).1 d;subst i;exact⟨c,a,e,(Qr e f).1.symm,rfl⟩
 cases b
def eo{ts:E Th}(h:Wf ts)(g:bl p≠[]){c:Th}(e:c∈ts)(f:AE c.p=J p):Ka p c∈BH ts p:=by
 unfold BH;have b:cE ts p=true:=by
  unfold cE;rw[abt]
  right
  obtain⟨_,a,d⟩:=h.up c e;rw[f] at a;injection a with a;subst a;rcases d with d|⟨x,i,rfl,j⟩
  .exact κ d g
  have:=(Ox h.srt (q:=x.p)).2 ⟨x,i,rfl,j⟩;rw[this];rfl
 rw[Wz b];exact wd.2 ⟨c,aaZ.2 ⟨e,(Oy f).2 rfl⟩,rfl⟩
def Wi.comp(i:Wi x a)(k:Wi x b):Wi a b\/Wi b a:=by
 have c:∀y,Wi x y->x++[47]=y++[47]++(x++[47]).drop (y.length+1):=by
  rintro y (rfl|⟨_,rfl⟩)
  .simp
  simp[List.drop_append]
 have h:=c a i;have f:=c b k;generalize(x++[47]).drop (a.length+1)=ra at h;generalize(x++[47]).drop (b.length+1)=rb at f;rw[h] at f;rcases List.append_eq_append_iff.1 f with⟨e,D,_⟩|⟨e,D,_⟩
 ·
  right
  rcases List.eq_nil_or_concat e with rfl|⟨d,z,rfl⟩
  .exact akd
  refine .inr ⟨d,?_⟩;have g:b++[47]=(a++47::d)++[z]:=by rw[D];simp
  exact(List.append_inj' g rfl).1
 left
 rcases List.eq_nil_or_concat e with rfl|⟨d,z,rfl⟩
 .exact akd
 refine .inr ⟨d,?_⟩;have g:a++[47]=(b++47::d)++[z]:=by rw[D];simp
 exact(List.append_inj' g rfl).1
def bM(ts:E Th):N:=(ts.map λt=>t.d.size).sum
def SU{a b:E Th}(h:a.Perm b):bM a=bM b:=(h.map _).sum_nat
structure TX (C:N) (D:AX):Prop where
 wf:Wf D.ts
 len:D.ts.length<=100000000000
 sz:∀t∈D.ts,t.p.size<=100000000000
 room:D.room<0\/(0<=D.room/\D.room+(bM D.ts:Z)=C)
 left: -1<=D.left/\D.left<=100000000000
 cap:C<=1000000000
def ep(D:AX):Prop:=D.left<0/\D.down=ι
def FA{D:AX}(h:ep D):JZ D=true:=by
 obtain⟨_,a⟩:=h;have e:(D.left==0)=false:=act
 unfold JZ;rw[e,a];rfl
def Lk(D:AX):(stepped D).down= !JZ D:=by simp[stepped,JZ]
def Fi{D:AX}(h: -1<=D.left/\D.left<=100000000000): -1<=(stepped D).left/\(stepped D).left<=100000000000:=by
 unfold stepped;simp only;split
 .exact h
 split
 .rename_i a;have e:wrap64 (D.left-1)=D.left-1:=by unfold wrap64;omega
  rw[e];omega
 exact h
def DI{D:AX}(h:ep D):ep<|stepped D:=by
 refine⟨?_,by rw[Lk,FA h];rfl⟩;obtain⟨a,b⟩:=h;have e:(D.left==0)=false:=act
 unfold stepped;simp only[e,b,Bool.or_self,aaM,abE];rw[Wx A];exact a
def TX.step{C:N}{D:AX}(h:TX C D):TX C<|stepped D:=⟨h.wf,h.len,h.sz,h.room,Fi h.left,h.cap⟩
open Go.RowKit Go.Proofs.Tryz
def xr{ts:E Th}{k:N}(h:k<ts.length):(nth ts k::(ts.take k++ts.drop (k+1))).Perm ts/\(ts.take k++ts.drop (k+1)).Sublist ts:=by
 have e:ts=ts.take k++nth ts k::ts.drop (k+1):=by
  have b:ts.drop k=nth ts k::ts.drop (k+1):=by
   rw[wN h,nth,Wq,Wv h];rfl
  rw[<-b,aau]
 constructor
 .have:=(List.perm_middle (a:=nth ts k) (l₁:=ts.take k) (l₂:=ts.drop<|k+1)).symm;rw[<-e] at this;exact this
 have b:(ts.take k++ts.drop (k+1)).Sublist (ts.take k++nth ts k::ts.drop (k+1)):=List.Sublist.append (List.Sublist.refl _)<|List.sublist_cons_self _ _;rw[<-e] at b;exact b
def oW{ts:E Th}(h:∀x∈ts,Wi (bl x.p) (bl p)->x.p=p):Qc ts p=false:=by
 unfold Qc;rw[aar];intro x b;unfold cC;rw[wo,not_and,BT];intro a c;rw[h x b c] at a;simp at a
structure Wl (C:N) (D:AX) (p:Y) (r:Z) (D':AX):Prop where
 ok:TX C D'
 sub:D'.ts.Sublist D.ts
 keep:∀x∈D.ts,x.p≠p->x∈D'.ts
 yes:r=0-> ∀x∈D'.ts,x.p≠p
 no:r≠0->D'.down=θ
 nev:ep D->ep D'
 room:D.room<0->D'.room<0
def SV{C:N}{D:AX}(h:TX C D){t:Th}(n:t∈D.ts)(s:∀x∈D.ts,Wi (bl x.p) (bl t.p)->x.p=t.p):Wl C D t.p (Bs D t.p).1 (Bs D t.p).2:=by
 obtain⟨v,w,z⟩:=aa h.wf.srt n;obtain⟨k,g⟩:=xr w;unfold Bs;rw[v,oW s];by_cases l:JZ D=θ
 .rw[Wz l,Wz rfl,Wx Ad];rw[z] at k ⊢;generalize S:D.ts.take (JJ D.ts t.p)++D.ts.drop (JJ D.ts t.p+1)=R at*;have i:∀x∈R,x.p≠t.p:=by
   intro x c e;have v:Qq (t::R)\/True:=.inr trivial;have L:=h.wf.srt.one (g.subset c) n e;subst L;have n:D.ts.Nodup:=h.wf.srt.imp (λ{a b} f e=>by rw[e] at f;exact aaq _ f);have:=(k.nodup_iff).2 n;rw[List.nodup_cons] at this;exact this.1 c
  have f:∀x∈D.ts,x.p≠t.p->x∈R:=by
   intro x c j;rcases wD.1 (k.mem_iff.2 c) with e|e
   .rw[e] at j;exact κ rfl j
   exact e
  have n:bM D.ts=t.d.size+bM R:=by rw[<-SU k];simp[bM]
  refine⟨⟨⟨h.wf.srt.sublist g,λx c=>?_⟩,WI g.length_le h.len,λx c=>h.sz x<|g.subset c,?_,Fi h.left,h.cap⟩,g,f,λ_=>i,λe=>κ rfl e,λo=>?_,λy=>?_⟩
  .obtain ⟨j,u,q⟩:=h.wf.up x<|g.subset c;refine⟨j,u,?_⟩;rcases q with q|⟨m,P,rfl,r⟩
   .exact .inl q
   by_cases e:m.p=t.p
   .by_cases j:bl m.p=[]
    .exact .inl j
    exfalso;have k:=tQ (FE u) j;rw[e] at k;exact i x c<|s x (g.subset c) k
   exact .inr ⟨m,f m P e,rfl,r⟩
  .rcases h.room with y|⟨f,_⟩
   .left
    exact ajy
   right
   have g:=h.cap;have e:wrap64 (D.room+t.d.size)=D.room+t.d.size:=by unfold wrap64;omega
   show 0<=(if 0<=D.room then wrap64 (D.room+t.d.size) else D.room)/\(if 0<=D.room then wrap64 (D.room+t.d.size) else D.room)+(bM R:Z)=C;rw[Wz f,e];omega
  .have:=DI o;exact⟨this.1,this.2⟩
  exact ajy
 rw[Wx l];refine⟨h.step,List.Sublist.refl _,λx c _=>c,(λe=>by cases e),λ_=>?_,λo=>κ (FA o) l,λy=>y⟩;show(stepped D).down=θ;rw[Lk];cases o:JZ D
 .rfl
 exact κ o l
structure Ll (C:N) (D:AX) (p:Y) (r:Bool) (D':AX):Prop where
 ok:TX C D'
 sub:D'.ts.Sublist D.ts
 keep:∀x∈D.ts,¬Wi (bl x.p) (bl p)->x∈D'.ts
 yes:r=θ-> ∀x∈D'.ts,¬Wi (bl x.p) (bl p)
 no:r=ι->D'.down=θ
 nev:ep D->ep D'
 room:D.room<0->D'.room<0
def Ll.none{C:N}{D:AX}(h:TX C D)(a:bl p≠[])(h0:BW D.ts p=0):Ll C D p θ D:=
 ⟨h,List.Sublist.refl _,λx b _=>b,λ_=>h.wf.gone a<|KF h.wf.srt h0,(λe=>by cases e),λx=>x,λx=>x⟩
structure IF (C:N) (D:AX) (p:Y) (l:E Y) (D':AX):Prop where
 ok:TX C D'
 sub:D'.ts.Sublist D.ts
 keep:∀x∈D.ts,(∀nm∈l,¬Wi (bl x.p) (bl<|Dn p nm))->x∈D'.ts
 yes:∀x∈D'.ts,∀nm∈l,¬Wi (bl x.p) (bl<|Dn p nm)
 nev:ep D->ep D'
 room:D.room<0->D'.room<0
def IF.start{C:N}{D:AX}(h:TX C D)(p:Y):IF C D p [] D:=⟨h,List.Sublist.refl _,λx a _=>a,λx _ _ a=>by simp at a,λx=>x,λx=>x⟩
def IF.next{C:N}{D D1 D2:AX}(h:IF C D p l D1)(k:Ll C D1 (Dn p nm) θ D2):IF C D p (l++[nm]) D2:=by
 refine⟨k.ok,k.sub.trans h.sub,λx a b=>?_,λx a n hm=>?_,λb=>k.nev<|h.nev b,λc=>k.room<|h.room c⟩
 .exact k.keep x (h.keep x a λn hm=>b n<|List.mem_append_left _ hm)<|b nm (List.mem_append_right _<|WN.2 rfl)
 rcases WY.1 hm with hm|hm
 .exact h.yes x (k.sub.subset a) n hm
 rw[WN.1 hm];exact k.yes rfl x a
def XI(h:Wi x<|bl (Dn p nm)):Wi x<|bl p:=Wi.trans h (.inr ⟨bl nm,DA p nm⟩)
def IF.stop{C:N}{D D1 D2:AX}(h:IF C D p l D1)(k:Ll C D1 (Dn p nm) ι D2):Ll C D p ι D2:=by
 refine⟨k.ok,k.sub.trans h.sub,λx b a=>?_,(λe=>by cases e),λ_=>k.no rfl,λa=>k.nev<|h.nev a,λc=>k.room<|h.room c⟩;exact k.keep x (h.keep x b λn _ b=>a<|XI b) λb=>a<|XI b
def IF.all{C:N}{D D1:AX}(a:bl p≠[])(d:TX C D)(h:IF C D p (BH D.ts p) D1):∀x∈D1.ts,Wi (bl x.p) (bl p)->x.p=p:=by
 intro x e g;refine Classical.byContradiction λb=>?_
 obtain⟨_,i,f,c⟩:=d.wf.child a _ x (h.sub.subset e) (WF _) g b;have g:=eo d.wf a i f;have b:=h.yes x e _ g;rw[(Qr f a).1] at b;exact b c
def IF.still{C:N}{D D1:AX}(h:IF C D p l D1){t:Th}(a:t∈D.ts)(e:t.p=p):t∈D1.ts:=by
 refine h.keep t a λ_ _ a=>?_;have:=a.len;rw[e,DA,Ws,wu] at this;omega
def IF.done{C:N}{D D1:AX}(g:bl p≠[])(i:TX C D){t:Th}(b:t∈D.ts)(e:t.p=p)(h:IF C D p (BH D.ts p) D1):Ll C D p (decide ((Bs D1 p).1=0)) (Bs D1 p).2:=by
 subst e;have a:=SV h.ok (h.still b rfl)<|h.all g i;refine⟨a.ok,a.sub.trans h.sub,λx c d=>?_,λb x c f=>?_,λb=>a.no<|abw b,λd=>a.nev<|h.nev d,λb=>a.room<|h.room b⟩
 .exact a.keep x (h.keep x c λn _ f=>d<|XI f) λe=>d<|by rw[e];exact Wi.refl _
 exact a.yes (wn b) x c<|h.all g i x (a.sub.subset c) f
def LO(ts:E Th)(p:Y):N:=ts.countP λt=>Bp t.p p
def gT{a b:E Th}(h:a.Sublist b)(p:Y):LO a p<=LO b p:=h.countP_le
def SW{ts:E Th}{t:Th}(c:t∈ts)(e:t.p=p):LO ts (Dn p nm)<LO ts p:=by
 obtain⟨a,b,rfl⟩:=List.append_of_mem c;have d:Bp t.p p=true:=by rw[BT,e];exact Wi.refl _
 have f:Bp t.p (Dn p nm)=false:=by
  rw[abU];intro h;have:=((BT _ _).1 h).len;rw[e,DA,Ws,wu] at this;omega
 have c:∀l:E Th,l.countP (λt=>Bp t.p<|Dn p nm)<=l.countP (λt=>Bp t.p p):=λl=>List.countP_mono_left λ_ _ h=>(BT _ _).2<|XI ((BT _ _).1 h)
 unfold LO;rw[List.countP_append,List.countP_append,List.countP_cons,List.countP_cons,d,f];have:=c a;have:=c b;simp;omega
def SX{ts:E Th}(h:LO ts p=0):∀t∈ts,t.p≠p:=by
 intro t a e;have:=List.countP_eq_zero.1 h t a;exact this<|by rw[BT,e];exact Wi.refl _
open Go.RowKit Go.Proofs.Tryz
def XJ{ts:E Th}(c:Qq ts)(b:AE q=J u)(a:bl u=[]\/ ∃x∈ts,x.p=u/\x.f=θ)(d:∀x∈ts,x.p≠q):Dw ts q=0:=by
 unfold Dw;have e:(!(AE q).isSome||(!((JE q).toList==[])&& !(BW ts (JE q)==2)))=false:=by
  rw[b,Kv b];rcases a with a|⟨x,g,rfl,h⟩
  .have:(u.toList==[])=true:=by rw[ByteArray.toList_eq,aaB];exact a
   rw[this];rfl
  have:=(Ox c (q:=x.p)).2 ⟨x,g,rfl,h⟩;rw[this];simp
 rw[e,Lh d];rfl
def Wf.more{ts:E Th}(h:Wf ts){t:Th}(i:AE t.p=J u)(a:bl u=[]\/ ∃x∈ts,x.p=u/\x.f=θ)(j:∀x∈ts,x.p≠t.p):Wf<|ins ts t:=by
 have b:∀x,x∈ins ts t↔x=t\/x∈ts:=λx=>by rw[(KE ts t).mem_iff,wD]
 refine⟨h.srt.ins j,λx hx=>?_⟩;rcases(b x).1 hx with rfl|hx
 .refine ⟨u,i,?_⟩;rcases a with a|⟨y,c,d,e⟩
  .exact .inl a
  exact .inr ⟨y,(b y).2 (.inr c),d,e⟩
 obtain⟨v,a,g⟩:=h.up x hx;refine⟨v,a,?_⟩;rcases g with g|⟨y,c,d,e⟩
 .exact .inl g
 exact .inr ⟨y,(b y).2 (.inr c),d,e⟩
structure zt (C:N) (D:AX) (t:Th) (r:Z) (D':AX):Prop where
 ok:TX C D'
 yes:r=0->D'.ts.Perm (t::D.ts)
 no:r≠0->D'.ts=D.ts
 why:r≠0->D'.down=θ\/(r=3/\0<=D.room/\(ep D->ep D'))
 nev:ep D->ep D'
 room:D.room<0->D'.room<0
def ac{C:N}{D:AX}(h:TX C D)(t:Th)(a:¬JZ D=θ):zt C D t 4<|stepped D:=by
 refine⟨h.step,(λe=>by cases e),λ_=>rfl,λ_=> .inl ?_,λb=>κ (FA b) a,λx=>x⟩;rw[Lk];cases b:JZ D
 .rfl
 exact κ b a
def PK{C:N}{D:AX}(h:TX C D)(c:AE q=J u)(d:bl u=[]\/ ∃x∈D.ts,x.p=u/\x.f=θ)(e:∀x∈D.ts,x.p≠q)(g:D.ts.length<100000000000)(hs:q.size<=100000000000):
 zt C D ⟨q,θ,⟨#[]⟩⟩ (Bz D q).1 (Bz D q).2:=by
 unfold Bz;by_cases b:JZ D=θ
 .rw[Wz b,XJ h.wf.srt c d e,Wz (show((0:Z)==0)=θ from rfl)];have a:=KE D.ts ⟨q,θ,⟨#[]⟩⟩;refine⟨⟨h.wf.more c d e,by rw[a.length_eq,wu];omega,λx hx=>?_,?_,Fi h.left,h.cap⟩,λ_=>a,λe=>κ rfl e,λe=>κ rfl e,λhn=>?_,λx=>x⟩
  .exact ajd
  .rcases h.room with hr|⟨c,d⟩
   .exact .inl hr
   right
   refine⟨c,?_⟩;show D.room+(bM (ins D.ts ⟨q,θ,⟨#[]⟩⟩):Z)=C;have:bM (ins D.ts ⟨q,θ,⟨#[]⟩⟩)=bM D.ts:=by rw[SU a];simp[bM];rfl
   rw[this];exact d
  exact aje
 rw[Wx b];exact ac h _ b
def Vh{C:N}{D:AX}(h:TX C D){d:Y}(l:AE q=J u)(m:bl u=[]\/ ∃x∈D.ts,x.p=u/\x.f=θ)(n:∀x∈D.ts,x.p≠q)(s:D.ts.length<100000000000)(hs:q.size<=100000000000):
 zt C D ⟨q,ι,d⟩ (BX D q d).1 (BX D q d).2:=by
 have a:=KE D.ts ⟨q,ι,d⟩;have c:=h.wf.more (t:=⟨q,ι,d⟩) l m n;have b:(ins D.ts ⟨q,ι,d⟩).length<=100000000000:=by rw[a.length_eq,wu];omega
 have e:∀x∈ins D.ts ⟨q,ι,d⟩,x.p.size<=100000000000:=λx hx=>ajd
 have g:bM (ins D.ts ⟨q,ι,d⟩)=d.size+bM D.ts:=by rw[SU a];simp[bM]
 unfold BX;by_cases j:JZ D=θ
 .rw[Wz j,XJ h.wf.srt l m n];by_cases i:D.room<0
  .rw[Wz (show((0:Z)==0)=θ from rfl),Wz i];refine⟨⟨c,b,e,.inl i,Fi h.left,h.cap⟩,λ_=>a,λk=>κ rfl k,λk=>κ rfl k,λhn=>?_,λx=>x⟩;exact aje
  rw[Wz (show((0:Z)==0)=θ from rfl),Wx i];obtain⟨k,_⟩:0<=D.room/\D.room+(bM D.ts:Z)=C:=by
   rcases h.room with h1|h1
   .exact κ h1 i
   exact h1
  by_cases o:D.room<d.size
  .rw[Wz o];refine⟨h.step,(λr=>by cases r),λ_=>rfl,λ_=> .inr ⟨rfl,k,DI⟩,DI,λx=>x⟩
  rw[Wx o];refine⟨⟨c,b,e,.inr ⟨?_,?_⟩,Fi h.left,h.cap⟩,λ_=>a,λe=>κ rfl e,λe=>κ rfl e,λhn=>?_,λx=>κ x i⟩
  .show 0<=D.room-d.size;omega
  .show D.room-(d.size:Z)+(bM (ins D.ts ⟨q,ι,d⟩):Z)=C;rw[g];omega
  exact aje
 rw[Wx j];exact ac h _ j
open Go.RowKit Go.Proofs.Tryz
def Vp(l:E υ):Prop:=l≠[]/\∀i,l[i]? =J 47->0<i/\l[i-1]? ≠J 47/\i+1<l.length
def Vp.one{l:E υ}(h:l≠[])(a:47∉l):Vp l:=⟨h,λ_ b=>κ (List.mem_of_getElem? b) a⟩
def Vp.app(f:Vp a)(k:Vp b):Vp (a++47::b):=by
 have g:=List.length_pos_iff.2 f.1;have:=List.length_pos_iff.2 k.1;have c:a[a.length-1]? ≠J 47:=λh=>by
  have:=(f.2 _ h).2.2;omega
 refine⟨Ad,λi e=>?_⟩;have d:(a++47::b).length=a.length+1+b.length:=ako
 rw[d];rcases abF i a.length with h|h|h
 .rw[WW h] at e;obtain⟨l,j,m⟩:=f.2 i e;refine⟨l,?_,A⟩;rw[WW A];exact j
 .subst h;refine⟨g,?_,A⟩;rw[WW A];exact c
 rw[WU A,show i-a.length=(i-a.length-1)+1 by omega,List.getElem?_cons_succ] at e;obtain⟨l,j,m⟩:=k.2 _ e;refine⟨A,?_,A⟩;rw[WU A,show i-1-a.length=(i-a.length-1-1)+1 by omega,List.getElem?_cons_succ];exact j
def Vp.left(h:Vp (a++47::b)):Vp a:=by
 have d:(a++47::b)[a.length]? =J 47:=Ad;obtain⟨c,f, -⟩:=h.2 _ d;rw[WW A] at f;refine⟨λe=>by rw[e] at c;simp at c,λi c=>?_⟩;have d:=(wW.1 c).1;have g:=h.2 i (by rw[WW d];exact c);refine⟨g.1,?_,?_⟩
 .have d:=g.2.1;rw[WW A] at d;exact d
 apply Decidable.byContradiction;intro _;have e:i=a.length-1:=A;rw[e] at c;exact f c
def Vp.right(h:Vp (a++47::b)):Vp b:=by
 have k:(a++47::b)[a.length]? =J 47:=Ad;have c:(a++47::b).length=a.length+1+b.length:=ako
 obtain⟨_,_,d⟩:=h.2 _ k;rw[c] at d;refine⟨λe=>by rw[e] at d;simp at d,λi d=>?_⟩;have:=(wW.1 d).1;have l:∀j,(a++47::b)[a.length+1+j]? =b[j]? :=λj=>by
  rw[WU A,show a.length+1+j-a.length=j+1 by omega,List.getElem?_cons_succ]
 have f:=h.2 (a.length+1+i) (by rw[l];exact d);rw[c] at f;have g:0<i:=by
  apply Decidable.byContradiction;intro _;have e:i=0:=A;subst e;have c:=f.2.1;rw[show a.length+1+0-1=a.length by omega] at c;exact c k
 refine⟨g,?_,A⟩;have c:=f.2.1;rw[show a.length+1+i-1=a.length+1+(i-1) by omega,l] at c;exact c
def xu(s:Y)(f:Vp<|bl s):∀(n i fr:N) (g:Y),n+i=s.size+1->i<=s.size->fr<=i->(fr=0\/(0<fr/\(bl s)[fr-1]? =J 47))->(TN s n i fr g).isSome=true:=by
 have h:=Bi s;have:0<s.size:=by rw[<-h];exact List.length_pos_iff.2 f.1
 intro n;induction n with
 |zero=>intro i fr g p q _ _;omega
 |succ n l=>
  intro i fr g p q _ c;by_cases a:i<s.size
  .have g:=Sd s i a;by_cases d:s[i].toNat=47
   .have b:(bl s)[i]? =J 47:=(by rw[g,Mw.1 d]);have e:¬i=fr:=by
     intro m;obtain⟨_,o, -⟩:=f.2 i b;rcases c with j|⟨j,k⟩
     .omega
     rw[m] at o;exact o k
    rw[ct a d e];exact l (i+1) (i+1) _ A A (WF _) (.inr ⟨A,by simpa using b⟩)
   rw[cA a d];exact l (i+1) fr _ A A A c
  have e:¬i=fr:=by
   intro m;rcases c with j|⟨j,k⟩
   .omega
   have:=(f.2 _ k).2.2;omega
  rw[Xf a e];rfl
def SY{s:Y}(a:Vp<|bl s):∃u,AE s=J u:=Option.isSome_iff_exists.1<|xu s a (s.size+1) 0 0 _ A A (WF _) (.inl rfl)
def XK{c d:E υ}(h:a++47::b=c++47::d)(i:47∉b)(j:47∉d):a=c/\b=d:=by
 rcases List.append_eq_append_iff.1 h with⟨x,f,e⟩|⟨x,f,e⟩
 .cases x with
  |nil=>simp at f e;exact⟨f.symm,e⟩
  |cons y x=>
   injection e with k g;exact κ (by rw[g];simp) i
 cases x with
 |nil=>simp at f e;exact⟨f,e.symm⟩
 |cons y x=>
  injection e with k g;exact κ (by rw[g];simp) j
def oX(a:Vp<|bl P)(c:Vp<|bl nm)(h:47∉bl nm):AE (Dn P nm)=J P:=by
 have d:Vp<|bl (Dn P nm):=by rw[DA];exact a.app c
 obtain⟨_,a⟩:=SY d;rw[a];congr 1;apply Dx;have b:=FE a;rw[DA] at b;rcases b with⟨-, -,a⟩|⟨_,a, -,b, -⟩
 .exact κ Ad a
 exact(XK a h b).1.symm
def oY{a:Y}{r:E υ}(c:Vp<|bl P)(d:Vp<|bl nm)(e:bl nm=bl a++47::r)(h:47∉r):AE (Dn P nm)=J (Dn P a):=by
 have f:Vp<|bl (Dn P nm):=by rw[DA];exact c.app d
 obtain⟨_,a⟩:=SY f;rw[a];congr 1;apply Dx;have b:=FE a;rw[DA,e] at b;rw[DA];rcases b with⟨-, -,a⟩|⟨_,a, -,b, -⟩
 .exact κ Ad a
 rw[<-abx,<-WG] at a;exact(XK a h b).1.symm
def eu(l:E υ):47∉l\/ ∃a r,l=a++47::r/\47∉r:=by
 by_cases h:47∈l
 .right
  induction l with
  |nil=>cases h
  |cons x l c=>
   by_cases b:47∈l
   .obtain ⟨a,r,d,f⟩:=c b;exact⟨x::a,r,by rw[d];rfl,f⟩
   rcases wD.1 h with e|e
   .exact ⟨[],l,by rw[<-e];rfl,b⟩
   exact κ e b
 exact .inl h
def zu(l:E υ):∃s:Y,bl s=l:=⟨⟨l.toArray⟩,rfl⟩
def oZ(c:Vp<|bl P)(d:Vp<|bl nm):(47∉bl nm/\AE (Dn P nm)=J P)\/ ∃(b:Y) (r:E υ),bl nm=bl b++47::r/\47∉r/\AE (Dn P nm)=J (Dn P b):=by
 rcases eu (bl nm) with h|⟨a,r,e,f⟩
 .exact .inl ⟨h,oX c d h⟩
 obtain⟨b,rfl⟩:=zu a;exact .inr ⟨b,r,e,f,oY c d e f⟩
def Oz{a b:Y}(h:Dn P a=Dn P b):a=b:=by
 have:=hJ bl h;rw[DA,DA,List.append_cancel_left_eq] at this;injection this with _ c;exact Dx c
def ev(P a:Y):Dn P a≠P:=by
 intro h;have:=hJ (λx=>(bl x).length) h;simp only[DA,Ws,wu] at this;omega
def pb(P a:Y):Wi (bl<|Dn P a)<|bl P:=.inr ⟨bl a,DA P a⟩
def gU{a b:E Th}(c:Qq a)(d:Qq b)(h:a.Perm b):a=b:=
 h.eq_of_pairwise (λ_ _ _ _ e f=>κ f<|List.lt_asymm e) c d
def Vi{a:E Th}(b:Qq a):a.Nodup:=b.imp λ{x _} b e=>by rw[e] at b;exact aaq _ b
def sG{a b:E Th}(c:Qq a)(d:Qq b)(h:∀x,x∈a↔x∈b):a=b:=gU c d ((List.perm_ext_iff_of_nodup (Vi c)<|Vi d).2 h)
def Vj{ts:E Th}(c:Qq ts)(h:Dw ts q=0):∃u,AE q=J u/\(bl u=[]\/ ∃x∈ts,x.p=u/\x.f=θ)/\∀x∈ts,x.p≠q:=by
 unfold Dw at h;cases a:(!(AE q).isSome||(!((JE q).toList==[])&& !(BW ts (JE q)==2))) with
 |true=>rw[a] at h;simp at h
 |false=>
  rw[a] at h;rw[acQ] at a;obtain⟨d,b⟩:=a;have e:(AE q).isSome=true:=by simpa using d
  obtain⟨u,a⟩:=Option.isSome_iff_exists.1 e;rw[Kv a] at b;refine⟨u,a,?_,?_⟩
  .by_cases a:bl u=[]
   .exact .inl a
   right
   have d:(u.toList==[])=false:=by rw[ByteArray.toList_eq,WA];exact a
   rw[d] at b;have a:BW ts u=2:=by simpa using b
   exact(Ox c).1 a
  by_cases a:BW ts q=0
  .exact KF c a
  exfalso;have b:(BW ts q==0)=false:=by rw[WA];exact a
  simp[b] at h
open Go.RowKit Go.Proofs.Tryz
def Gr{S:N->Prop}{e:TypeId}{a:E M}(h:w.ownsRow base e s v n a)(i:Ag S w w')(j:∀k,v.ownBlock=J k->¬S k):w'.ownsRow base e s v n a:=by
 obtain⟨d,l|⟨g,b,c,rfl,m,f,o⟩⟩:=h
 .exact ⟨d,.inl l⟩
 exact⟨d,.inr ⟨g,b,c,rfl,m,(i.block g (Wt.1 f).1<|j g rfl).trans f,o⟩⟩
def Jw{e:TypeId}{a:E M}(h:w.ownsRow base e s v n a):∀k,v.ownBlock=J k->base<=k/\k<w.heap.size:=by
 obtain⟨_,⟨rfl,_⟩|⟨g,_,_,rfl,c,d,_⟩⟩:=h
 .intro k b;cases b
 intro k b;injection b with b;subst b;exact⟨c,(Wt.1 d).1⟩
def LC.block_lt{ts:E Th}(h:LC w v ts):∀k,v.ownBlock=J k->k<w.heap.size:=by
 rcases h with⟨rfl,_⟩|⟨g,_,_,rfl,b,_⟩
 .intro k a;cases a
 intro k a;injection a with a;subst a;exact(Wt.1 b).1
def Lw(w w':U)(b:N)(v:M)(D:AX)(l:M):Prop:=
 ∃v',Ao w' b v' D/\Ag (λk=>k=b\/v.ownBlock=J k) w w'/\(v'.ownBlock=v.ownBlock\/ ∀k,v'.ownBlock=J k->w.heap.size<=k)/\∀k,l.ownBlock=J k->v'.ownBlock≠J k/\k≠b
def Lw.turn{b:N}{D:AX}{l:M}(h:Lw w w' b v D l):Br w w' b v D:=by
 obtain⟨a,c,d,e,_⟩:=h;exact⟨a,c,d,e⟩
def Lw.next{w1 w2:U}{b:N}{v1:M}{D2:AX}{l:M}(h2:Ag (λk=>k=b\/v.ownBlock=J k) w w1)(h3:v1.ownBlock=v.ownBlock\/ ∀k,v1.ownBlock=J k->w.heap.size<=k)(h4:∀k,l.ownBlock=J k->v1.ownBlock≠J k/\k≠b)(q:∀k,l.ownBlock=J k->k<w1.heap.size)(d:Br w1 w2 b v1 D2):Lw w w2 b v D2 l/\Ag (λk=>k=b\/v1.ownBlock=J k) w1 w2:=by
 obtain⟨f,g,c,a⟩:=d;refine⟨⟨f,g,h2.transNew c ?_,?_,λk hk=>⟨λe=>?_,(h4 k hk).2⟩⟩,c⟩
 .rintro i d (e|e)
  .exact .inl e
  rcases h3 with h3|h3
  .exact .inr (h3 ▸ e)
  have:=h3 i e;omega
 .exact afL
 exact agB
def Lm{C:N}{D:AX}(h:TX C D):∀k,k<D.ts.length->(nth D.ts k).p.size<=1000000000000:=λk a=>WI (h.sz _<|XG a) A
def Cb(l:E Y)(i:N):Y:=l.getD i ⟨#[]⟩
def KG(h:i<l.length):Cb l i∈l:=by
 rw[Cb,Wq,Wv h];exact WJ h
def PL(h:i<l.length):l.take (i+1)=l.take i++[Cb l i]:=by
 rw[aay,Wv h,Cb,Wq,Wv h];rfl
def GK{g cap:N}(h:w.ownsRow base 9 1 (K (J ⟨g,0,O⟩) l.length cap) l.length<|l.map Value.string)(i:N)(a:i<l.length):w.cell? ⟨g,i,O⟩=J (G<|Cb l i):=by
 have:=abs h (g:=g) rfl i (G<|Cb l i) (by rw[aaI,Cb,Wq,Wv a];rfl);exact ahP
def FU{a:E M}(h:w.ownsRow base 9 1 v n a):∃ao cap,v=K ao n cap/\(0<n-> ∃g,ao=J ⟨g,0,O⟩):=by
 obtain⟨_,⟨rfl,b⟩|⟨g,cap,_,rfl,_,_,_⟩⟩:=h
 .exact ⟨O,0,by rw[b],A⟩
 exact⟨_,cap,rfl,λ_=>⟨g,rfl⟩⟩
def gV(C:N):∀(n:N) (D:AX) (p:Y) (b:N) (v:M) (w:U),Ao w b v D->TX C D->bl p≠[]->p.size<=100000000000->LO D.ts p<=n->
 Calls F 174 #[V<|J ⟨b,0,O⟩,G p] w λe w'=>∃r T,e=.returned (.bool r)/\Ll C D p r T /\Br w w' b v T :=by
 intro n;induction n with
 |zero=>
  intro D p b v w hd f hp b1 hc;have h0:BW D.ts p=0:=Lh<|SX A;have y:=H (Ct hd p<|by have:=f.len;omega);rw[h0] at y;have HD:=H hd;exact agu
 |succ n ih=>
  intro D p b v w hd f hp b1 hc;have o:=f.len;have y:=H<|Ct hd p A;have HD:=H hd;have z:=H f;by_cases h0:BW D.ts p=0
  .rw[h0] at y;exact agu
  obtain⟨t,ht,b1⟩:=MD h0;have HT:Hid<|t∈D.ts/\t.p=p:=⟨ht,b1⟩;have b2:=H ih;have HC:=H hc;generalize BW D.ts p=io at*;have:(io==0)=false:=alE
  go_in;go_wp2_with fail;apply y.mono;rintro e w1 ⟨rfl,m,rfl⟩;have HN:=H<|GE (HD.drewN m) p A A (Lm z);go_wp2_with fail;apply HN.mono;rintro e w2 ⟨c3,rfl,d,P⟩;obtain⟨ao,a1,rfl,b3⟩:=FU d;have:=H<|Jw d;have T:=H d;have b4:Hid (∀nm∈BH D.ts p,∃c∈D.ts,c.p=Dn p nm):=λnm hm=>ajt
  have a0:Hid<|Lw w w2 b v D (K ao (BH D.ts p).length a1):=afJ;have:(BH D.ts p).length<=100000000000:=ajO;have a:=H<|IF.start z p;have b5:=H λD1 hx=>IF.done (D1:=D1) hp z HT.1 HT.2 hx;have:=H λa2 l' (hx:IF C D p l' a2)=>hx.still HT.1 HT.2;have R:=H λnm=>SW (nm:=nm) HT.1 HT.2;generalize BH D.ts p=L,cE D.ts p=okb at*;go_wp2;go_loopw [8,21] (λ_ x wr=>∃(i:N) (Di:AX),i<=L.length/\x=I Q i/\Hid (Lw w wr b v Di<|K ao L.length a1)/\Hid (IF C D p (L.take i) Di)/\Hid (wr.ownsRow w.heap.size 9 1 (K ao L.length a1) L.length<|L.map Value.string)) λ_ x _=>L.length-(intOf x).toNat
  .exact ⟨0,D,A,rfl,a0,a,T⟩
  obtain⟨i,Di,hi,rfl,a0,a,T⟩:=hrel;by_cases a2:i<L.length
  .have a6:(i:Z)<L.length:=A;obtain⟨g,hg⟩:=b3 A;subst hg;have:=GK T i a2;obtain⟨c,a1,b1⟩:=b4 (Cb L i)<|KG a2;have b3:(Dn p<|Cb L i).size<=100000000000:=by rw[<-b1];exact z.sz c a1
   have:=Et p<|Cb L i;obtain⟨v1,a3,Z9,Y8,Q9⟩:=X a0;have a1:LO Di.ts (Dn p<|Cb L i)<=n:=aiL;have a7:=H (b2 Di (Dn p<|Cb L i) b v1 wr a3 a.ok (by rw[DA];simp) b3 a1);have a1:=H<|PL a2;have b6:=H λw2 D2 ht=>Lw.next (w2:=w2) (D2:=D2) Z9 Y8 Q9 (λk hk=>(Jw T k hk).2) ht;have a8:=H Q9;have s:Hid (∀D2,Ll C Di (Dn p<|Cb L i) θ D2->IF C D p (L.take<|i+1) D2):=λD2 h=>by rw[X a1];exact a.next h
   have a9:Hid (∀D2,Ll C Di (Dn p<|Cb L i) ι D2->Ll C D p ι D2):=λD2 h=>a.stop h
   have:p++⟨#[47]⟩++Cb L i=Dn p (Cb L i):=rfl;generalize Dn p (Cb L i)=q,Cb L i=nm at*;go_wp2_with fail;apply a7.mono;rintro e w3 ⟨r,l,rfl,I1,a4⟩;obtain⟨b7,a1⟩:=b6 w3 l a4;have u:=H (Gr T a1 (λk hk e=>by
    rcases e with e|e
    .exact (a8 k hk).2 e
    exact(a8 k hk).1 e))
   have j:=H b7;cases r with
   |true=>
    exact ahN
   |false=>
    have S:=H<|a9 l I1;go_wp2;go_ret;exact⟨ι,l,rfl,S,j.turn⟩
  have:¬(i:Z)<L.length:=A;have b9:i=L.length:=A;subst b9;rw[wL] at a;obtain⟨v1,a3,Z9,Y8,Q9⟩:=X a0;have c0:=H (GV a3 p A<|by have:=a.ok.len;omega);have b0:=H<|b5 Di a;have c1:Hid (∀w2 D2,Br wr w2 b v1 D2->Br w w2 b v D2):=λw2 D2 ht=>(Lw.next Z9 Y8 Q9 (λk hk=>(Jw T k hk).2) ht).1.turn
  generalize(Bs Di p).1=rc,(Bs Di p).2=l at*;go_wp2_with fail;apply c0.mono;rintro e w3 ⟨rfl,a4⟩;have j:=H<|c1 w3 l a4;by_cases a5:rc=0
  .subst a5;go_wp2;go_ret;exact⟨θ,l,rfl,b0,j⟩
  have:(rc==0)=false:=by rw[WA];exact a5
  have c2:Hid<|Ll C D p ι l:=by have h:=X b0;rw[Ww a5] at h;exact h
  go_wp2;go_ret;exact⟨ι,l,rfl,c2,j⟩
end Go.Proofs.YtfpphfkcaplafaaGreatDoor.dk
