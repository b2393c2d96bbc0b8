import Derived.Test.YtndfmgdhiallpaaGreatDoorVad
import Derived.Test.YtndfmgdhiallpaaGreatDoorVae
import Derived.Maps.OwnSet
set_option linter.all false
set_option maxRecDepth 100000
set_option maxHeartbeats 2000000
open _root_ renaming Option.some->J,Option.none->O,Int->Z,Nat->N,Go.Value.int->I,Go.Value.string->G,Go.IntKind.i64->Q,ByteArray->Y,List->E,Go.World->U,Go.Value.slice->K,Go.Value->β,Go.Obj.cells->γ,Go.Value.pointer->δ,Go.Ending.returned->ε,Go.Proofs.Tryz.prog->ψ
namespace Go.Proofs.YtndfmgdhiallpaaGreatDoor
open Go.RowKit Go.Maps Go.Proofs.Tryz
abbrev jd:TypeId:=255
abbrev qD:TypeId:=138
def Dl:Keyed ψ 9:=string_keyed underlying9
def lp(w:U):(zeroValue 3).run ψ w=.ok (I Q 0) w:=Ab
def Qh(r:Y)(h:r.size<=maxLen):keyOf ψ 9 (G r)=J (.string r.data.toList):=WideMaps.keyOf_string_mk underlying9 h
def JN(D:DataW Unit)(d:Y)(n:N):Prop:=
 ∀r:Y,r.size=3->has D (.string r.data.toList)=decide (BK d r n≠0)/\∀q,BK d r n=q+1->D.atKey (.string r.data.toList) (.lit (.int Q 0))=.lit (.int Q (q:Z))
def JN.zero(d:Y):JN (.map []) d 0:=λr _=>⟨rfl,λq h=>by cases h⟩
def Xg(s:E UInt8):WideAt.IsKeyLit (.string s):=trivial
def Mz{r a :Y}(h:r≠a):(Lit.string r.data.toList)≠.string a.data.toList:=by
 intro e;injection e with e;exact h (sX (uG.1 e))
def JN.next{D:DataW Unit}{d:Y}{n:N}(h:JN D d n)(b:IsMap D):JN (D.put (.string (Be d n).data.toList) (.lit (.int Q (n:Z)))) d (n+1):=by
 intro r f;rw[BK];by_cases e:Be d n=r
 .subst e;rw[rd rfl,yt b (Xg _)];refine⟨Ad,λq c=> ?_⟩;rw[yF b (Xg _),show n=q by omega]
 have a:=Mz (λx:r=Be d n=>e x.symm);rw[rc e,xX a];refine⟨(h r f).1,λq c=> ?_⟩;rw[yB a];exact(h r f).2 q c
def JN.skip{D:DataW Unit}{d:Y}{n:N}(h:JN D d n)(b:¬n+3<=d.size):JN D d (n+1):=by
 intro r a;have e:BK d r (n+1)=BK d r n:=by
  rw[BK,rc];intro e;have:=Gx d n;rw[e,a] at this;omega
 rw[e];exact h r a
def Fd(w:U)(g gm ge:N)(d:Y)(n:N):Prop:=
 w.heap[g]? =J (γ #[G d,.map (J gm),K (J ⟨ge,0,O⟩) d.size d.size] jd (0,0))/\
 (∃D:DataW Unit,w.ownsMap ψ 9 (plainElem ψ 3) gm n D/\JN D d n)/\
 ∃f:N->Z,DR w ge 3 d.size (λj=> I Q (f j))/\∀j,j<n->j+3<=d.size->f j=(BK d (Be d j) j:Z)- 1
section
variable {w:U} {g gm ge:N} {d:Y} {n:N}
def Fd.lt(h:Fd w g gm ge d n):g<w.heap.size/\gm<w.heap.size/\ge<w.heap.size:=by
 obtain⟨a,⟨D,b,_⟩,f,c,_⟩:=h;exact⟨(qW.1 a).1,b.lt,c.lt⟩
def Fd.c0(h:Fd w g gm ge d n):w.cell? ⟨g,0,O⟩=J (G d):=by rw[qV w g 0 _ _ (0,0) h.1];rfl
def Fd.c1(h:Fd w g gm ge d n):w.cell? ⟨g,1,O⟩=J (.map (J gm)):=by rw[qV w g 1 _ _ (0,0) h.1];rfl
def Fd.c2(h:Fd w g gm ge d n):w.cell? ⟨g,2,O⟩=J (K (J ⟨ge,0,O⟩) d.size d.size):=by rw[qV w g 2 _ _ (0,0) h.1];rfl
def Fd.ne(h:Fd w g gm ge d n):g≠ge/\g≠gm/\gm≠ge:=by
 obtain⟨e,⟨D,⟨j,c,b,_⟩,_⟩,f,⟨i,a,_⟩,_⟩:=h;refine⟨?_, ?_, ?_⟩
 .rintro rfl;rw[e] at a;injection a with a;injection a with _ h4;exact absurd h4 Ac
 .rintro rfl;rw[e] at b;injection b with b;cases b
 rintro rfl;rw[b] at a;injection a with a;cases a
def Fd.kept{S:N->Prop}{w' :U}(h:Fd w g gm ge d n)(b:Ag S w w')(i:¬S g)(j:¬S gm)(k:¬S ge):Fd w' g gm ge d n:=by
 obtain⟨q,s,t⟩:=h.lt;obtain⟨c,⟨D,⟨e,a,o,r⟩,l⟩,f,m,p⟩:=h;exact⟨(b.block g q i).trans c,⟨D,⟨e,a,(b.block gm s j).trans o,r⟩,l⟩,f,m.kept b k,p⟩
end
def KP(d:Y)(q:N)(h:q+3<=d.size)(W:U):(Instr.slice 9 (G d) (J (I Q (q:Z))) (J (I Q ((q:Z)+3))) O).run ψ W=.ok (G (d.extract q (q+3))) W:=by
 have c:((q:Z)+3).toNat=q+3:=Aa;have a:(0:Z)<=(q:Z)+3/\(q:Z)+3<=(d.size:Z):=Aa;have b:(0:Z)<=(q:Z)/\(q:Z)<=((q+3:N):Z):=Aa;simp only[Instr.slice,vc,ta underlying9,uR,Instr.sliceBounds,Instr.sliceBound,asIntOf,vV,Option.isSome_none,tx,uw,rd a,c,rd b,rO]
def Ij(d:Y)(q n:N):Z:=if d.size<q+3 then -1 else(BK d (Be d q) n:Z)- 1
def lq(g gm ge:N)(d:Y)(V:d.size<=20000)(n q:N)(W:q<=d.size)(w:U)(h:Fd w g gm ge d n):
 Calls ψ 227 #[δ (J ⟨g,0,O⟩),I Q q] w λr w' =>r=ε (I Q (Ij d q n))/\∃k,w' =w.drewN k:=by
 have F:=h.c0;have H:=h.c1;by_cases C:d.size<q+3
 .have z:(d.size:Z)- (q:Z)<3:=Aa;have i:Hid (Ij d q n= -1):=rd C;clear h;go_in;go_wp2;go_ret;exact⟨by rw[uh i];rfl,0,rfl⟩
 have z:¬(d.size:Z)- (q:Z)<3:=Aa;obtain⟨_,⟨D,a,e⟩,_⟩:=h;have f:(Be d q).size=3:=by rw[Gx];omega
 obtain⟨b,l⟩:=e (Be d q) f;have i:Hid (Ij d q n=(BK d (Be d q) n:Z)- 1):=rc C;have P:=KP d q Aa;have R:IntKind.i64.wrap ((q:Z)+3)=(q:Z)+3:=by rw[sx];omega
 have L:(q:Z)+3<=(d.size:Z):=Aa;obtain⟨c,m⟩: ∃c:Z,D.atKey (.string (Be d q).data.toList) (.lit (.int Q 0))=.lit (.int Q c):=by
  obtain⟨v,S,_,A⟩:=a.look_ok Dl underlying138 (lp _) (vJ underlying3 Ac) (Qh (Be d q) (by rw[f];decide));obtain⟨c,rfl,m,_⟩:=xj underlying3 A;exact⟨c,rI Prod.fst m⟩
 have o: ∀k,(Instr.lookup qD (.map (J gm)) (G (d.extract q (q+3))) true).run ψ (w.drewN k)=.ok (.tuple #[I Q c,.bool (decide (BK d (Be d q) n≠0))]) (w.drewN k):=by
  intro k;have M:(w.drewN k).ownsMap ψ 9 (plainElem ψ 3) gm n D:=a;obtain⟨v,S,s,A⟩:=M.look_ok Dl underlying138 (lp _) (vJ underlying3 Ac) (Qh (Be d q) (by rw[f];decide));obtain⟨T,rfl,x,_⟩:=xj underlying3 A;have j:=rI Prod.fst x;rw[m] at j;injection j with j;injection j with _ j;rw[<-b,j];exact s
 have B:Hid (∀p,BK d (Be d q) n=p+1->c=(p:Z)):=λp hp=>by
  have:=l p hp;rw[m] at this;injection this with this;injection this
 clear a e b l m;by_cases t:BK d (Be d q) n=0
 .rw[t] at i;simp only[t,ne_eq,not_true_eq_false,decide_false] at o;go_in;go_wp2_with fail;go_quiet (fail);go_wp2;go_ret;exact⟨by rw[uh i];rfl,_,rfl⟩
 obtain⟨p,hp⟩: ∃p,BK d (Be d q) n=p+1:=⟨BK d (Be d q) n- 1,Aa⟩;simp only[t,ne_eq,not_false_eq_true,decide_true] at o;have y:=B p hp;subst y;have u:Hid (Ij d q n=(p:Z)):=by unfold Hid;rw[uh i,hp];omega
 clear i B hp t;go_in;go_wp2_with fail;go_quiet (fail);go_wp2;go_ret;exact⟨by rw[uh u];rfl,_,rfl⟩
def Xh{d:Y}{p q c:N}(a:CS d p q c=c)(b:c<=DE d q)(h:¬c<DE d q):Dk d p q=c:=by
 unfold Dk;rw[show DE d q=c by omega];exact a
def Xi{d:Y}{p q c:N}(a:CS d p q c=c)(b:c<=DE d q)(h:As d (p+c)≠As d (q+c)):Dk d p q=c:=Nl a h _ b
def TG{d:Y}{p q c:N}(a:CS d p q c=c)(h:As d (p+c)=As d (q+c)):CS d p q (c+1)=c+1:=by rw[CS,rd ⟨a,h⟩]
def oP(g:N)(d:Y)(L:d.size<=20000)(p q:N)(hp:p<=q)(M:q<=d.size)(w:U)(H:w.cell? ⟨g,0,O⟩=J (G d)):
 Calls ψ 228 #[δ (J ⟨g,0,O⟩),I Q p,I Q q] w λr w' =>r=ε (I Q (Dk d p q))/\∃k,w' =w.drewN k:=by
 have l:(if(d.size:Z)- (q:Z)<258 then(d.size:Z)- (q:Z) else 258)=((DE d q:N):Z):=by unfold DE;split<;>omega
 have j:DE d q<=258/\DE d q+q<=d.size:=by unfold DE;omega
 have HSD:=Af (λ(c:N) (e:CS d p q c=c)=>Xh (d:=d) (p:=p) (q:=q) (c:=c) e);have HSS:=Af (λ(c:N) (e:CS d p q c=c)=>Xi (d:=d) (p:=p) (q:=q) (c:=c) e);obtain⟨v,y⟩:=j;generalize DE d q=m at*;go_in;go_wp2;go_loopw [8] (λx wr=> ∃c k:N,c<=m/\x=I Q c/\wr=w.drewN k/\Hid (CS d p q c=c)) (λx _=>m- (intOf x).toNat)
 .exact ⟨0,0,Aa,rfl,rfl,rfl⟩
 obtain⟨c,k,u,rfl,rfl,b⟩:=hrel;by_cases i:c<m
 .have a:(c:Z)<(m:Z):=Aa;have o:=AC (s:=d) (k:=p+c) Aa;have t:=AC (s:=d) (k:=q+c) Aa;have A:(p:Z)+(c:Z)<(d.size:Z):=Aa;have C:(q:Z)+(c:Z)<(d.size:Z):=Aa;have z:(0:Z)<=(p:Z)+(c:Z):=Aa;have B:(0:Z)<=(q:Z)+(c:Z):=Aa;have D:((p:Z)+(c:Z)).toNat=p+c:=Aa;have F:((q:Z)+(c:Z)).toNat=q+c:=Aa;by_cases f:As d (p+c)=As d (q+c)
  .have n:=Af (TG (uh b) f);have h:((As d (p+c):N):Z)=((As d (q+c):N):Z):=by rw[f]
   generalize As d (p+c)=b1 at*;generalize As d (q+c)=b2 at*;clear HSD HSS;go_wp2_with fail;go_quiet (fail);go_wp2;go_roundw
   .exact ⟨c+1,_,Aa,by go_num,rfl,n⟩
   exact Ae
  have HE:=Af (HSS c (uh b) Aa f);have h:¬((As d (p+c):N):Z)=((As d (q+c):N):Z):=Aa;generalize As d (p+c)=b1 at*;generalize As d (q+c)=b2 at*;exact wL
 have a:¬(c:Z)<(m:Z):=Aa;have HE:=Af (HSD c (uh b) Aa i);exact wL
def ow(d:Y)(q f:N):Prop:=f=0\/(Be d (f- 1)=Be d q/\f- 1<q/\q+3<=d.size)
def oQ(d:Y)(q:N)(b:N×N):Prop:=b=(0,0)\/af d q b
def dJ(d:Y)(q:N):ow d q (Da d q):=by
 rcases te (Da d q) with h|h
 .exact .inl h
 obtain⟨f,a⟩: ∃f,Da d q=f+1:=⟨_,(ui h).symm⟩;have:=La a;rw[a];exact .inr this
def dK{d:Y}{q f:N}(h:ow d q (f+1)):ow d q (BK d (Be d f) f):=by
 obtain⟨a,c,b⟩:Be d f=Be d q/\f<q/\q+3<=d.size:=by rcases h with h|h;cases h;exact h
 rcases te (BK d (Be d f) f) with h0|h0
 .exact .inl h0
 obtain⟨p,hp⟩: ∃p,BK d (Be d f) f=p+1:=⟨_,(ui h0).symm⟩;have:=Ko hp;rw[hp];exact .inr ⟨this.1.trans a,by show p<q;omega,b⟩
def mo{d:Y}{q:N}{b:N×N}(e:d.size<=20000)(f:q<=d.size)(h:oQ d q b):b.1<1048576/\b.2<1048576:=by
 rcases h with rfl|⟨_,a,_,_,c,_⟩
 .exact ⟨Ac,Ac⟩
 exact⟨Aa,Aa⟩
def QR(d:Y)(q f:N)(b:N×N):N×N:=if b.1<Dk d f q then(Dk d f q,q- f) else b
def dL{d:Y}{q f:N}{b:N×N}(h:ow d q (f+1))(a:oQ d q b):oQ d q (QR d q f b):=by
 obtain⟨e,c,g⟩:Be d f=Be d q/\f<q/\q+3<=d.size:=by rcases h with h|h;cases h;exact h
 unfold QR;split
 .exact .inr (QM e c g)
 exact a
def TH(d:Y)(q k f:N)(b:N×N):DX d q (k+1) (f+1) b=DX d q k (BK d (Be d f) f) (QR d q f b):=by
 rw[DX,rc Aa];rfl
def TI(d:Y)(q k:N)(b:N×N):DX d q k 0 b=b:=by cases k<;>rfl
def TJ(d:Y)(q f:N)(b:N×N):DX d q 0 f b=b:=rfl
def dM(g gm ge:N)(d:Y)(D:d.size<=20000)(q:N)(M:q<=d.size)(w:U)(h:Fd w g gm ge d q):
 Calls ψ 138 #[δ (J ⟨g,0,O⟩),I Q q] w λr w' =>r=ε (.complex .f64 (fN (Et d q).1) (fN (Et d q).2))/\∃k,w' =w.drewN k:=by
 have C:=h.c0;have X:=h.c2;have B:=Af (lq g gm ge d D q q M w h);have y:Ij d q q=(Da d q:Z)- 1:=by unfold Ij Da;split<;>simp
 rw[y] at B;have HOF:=Af (dJ d q);have HLN:Hid (Et d q=DX d q 128 (Da d q) (0,0)):=rfl;obtain⟨_,_,f,o,P⟩:=h;have HCE:Hid (∀j,j<q->j+3<=d.size->w.cell? ⟨ge,j,O⟩=J (I Q ((BK d (Be d j) j:Z)- 1))):=λj V W=>by
  have:=o.cell j Aa;rw[this,P j V W]
 have T:Hid (fN 0=0):=Oa;clear o P y;generalize Da d q=f0 at*;generalize Et d q=res at*;have F:f0<=20001:=by rcases uh HOF with h|h<;>omega
 go_in;go_wp2_with fail;refine B.mono ?_;rintro r w1 ⟨rfl,k1,rfl⟩;clear B;go_wp2;go_loopw [5,6,7,8] (λb x t _ wr=> ∃(f k n:N) (a:N×N),f<=20001/\k<=128/\b=.complex .f64 (fN a.1) (fN a.2)/\x=I Q ((f:Z)- 1)/\t=I Q k/\wr=w.drewN n/\Hid (ow d q f/\oQ d q a/\DX d q (128- k) f a=res)) (λ_ _ t _ _=>128- (intOf t).toNat)
 .exact ⟨f0,0,k1,(0,0),F,Aa,by rw[uh T],rfl,rfl,rfl,HOF,.inl rfl,(uh HLN).symm⟩
 obtain⟨f,k,n,a,a1,hk,rfl,rfl,rfl,rfl,HS⟩:=hrel;obtain⟨hof,hob,hres⟩:=uh HS;rcases te f with h0|h0
 .subst h0;have S:¬(0:Z)<=((0:N):Z)- 1:=Aa;have HR:Hid (a=res):=by rw[TI] at hres;exact hres
  exact wZ
 obtain⟨p,rfl⟩: ∃p,f=p+1:=⟨f- 1,Aa⟩;have e:((p+1:N):Z)- 1=(p:Z):=Aa;rw[e];have a3:(0:Z)<=(p:Z):=Aa;by_cases a2:k<128
 .have H:(k:Z)<128:=Aa;obtain⟨hr,L,hs⟩:Be d p=Be d q/\p<q/\q+3<=d.size:=by rcases hof with h|h;cases h;exact h
  have l:=Af (oP g d D p q Aa M (w.drewN n) C);have a0:w.cell? ⟨ge,p,O⟩=J (I Q ((BK d (Be d p) p:Z)- 1)):=HCE p L Aa;have s:Hid (ow d q (BK d (Be d p) p)/\oQ d q (QR d q p a)/\DX d q (128- (k+1)) (BK d (Be d p) p) (QR d q p a)=res):=by
   refine⟨dK hof,dL hof hob, ?_⟩;rw[<-TH,show 128- (k+1)+1=128- k by omega];exact hres
  have u:BK d (Be d p) p<=20001:=by have:=OJ d (Be d p) p;omega
  have a5:Dk d p q<=258:=by have:=QL d p q (DE d q);unfold Dk DE at*;omega
  have R:(q:Z)- (p:Z)=((q- p:N):Z):=Aa;have v:=dI (n:=Dk d p q) (m:=a.1) Aa (mo D M hob).1;have i:QR d q p a=if a.1<Dk d p q then(Dk d p q,q- p) else a:=rfl
  have a6:IntKind.i64.wrap ((q- p:N):Z)=((q- p:N):Z):=Av _ Aa;have a4:(p:Z)<(d.size:Z):=Aa;generalize BK d (Be d p) p=f2 at*;generalize Dk d p q=c at*;generalize q- p=far at*;clear hres hof hob HS HLN HCE HOF hr;by_cases z:a.1<c
  .rw[qZ z] at v;rw[rd z] at i;have A:=Af i;clear i;go_wp2_with fail;refine l.mono ?_;rintro r w2 ⟨rfl,k2,rfl⟩;clear l;go_wp2;go_roundw
   .exact ⟨f2,k+1,_,(c,far),u,Aa,rfl,rfl,by go_num,rfl,by rw[<-uh A];exact uh s⟩
   exact Ae
  rw[qX z] at v;rw[rc z] at i;have A:=Af i;clear i;go_wp2_with fail;refine l.mono ?_;rintro r w2 ⟨rfl,k2,rfl⟩;clear l;go_wp2;go_roundw
  .exact ⟨f2,k+1,_,a,u,Aa,rfl,rfl,by go_num,rfl,by rw[<-uh A];exact uh s⟩
  exact Ae
 have H:¬(k:Z)<128:=Aa;have HR:Hid (a=res):=by rw[show 128- k=0 by omega,TJ] at hres;exact hres
 exact wZ
def je(w:U)(g gm ge:N)(d:Y)(n:N):Prop:=
 w.heap[g]? =J (γ #[G d,.map (J gm),K (J ⟨ge,0,O⟩) d.size d.size] jd (0,0))/\
 (∃D:DataW Unit,w.ownsMap ψ 9 (plainElem ψ 3) gm n D/\JN D d n)/\
 ∃f:N->Z,DR w ge 3 d.size (λj=> I Q (f j))/\∀j,j<n+1->j+3<=d.size->f j=(BK d (Be d j) j:Z)- 1
section
variable {w:U} {g gm ge:N} {d:Y} {n:N}
def Fd.lay(h:Fd w g gm ge d n)(s:n+3<=d.size):je (w.setCell ⟨ge,n,O⟩ (I Q (Ij d n n))) g gm ge d n:=by
 obtain⟨b,i,c⟩:=h.ne;obtain⟨k,⟨D,l,m⟩,f,o,p⟩:=h;refine⟨(vo _ _ _ _ b).trans k,⟨D,l.setCell (a:=⟨ge,n,O⟩) c _,m⟩,λj=>if j=n then Ij d n n else f j, ?_,λj r q=> ?_⟩
 .refine (o.set n Aa (I Q (Ij d n n))).congr (λj _=> ?_);by_cases e:j=n
  .simp[e]
  simp[e]
 show(if j=n then Ij d n n else f j)=_;by_cases e:j=n
 .subst e;rw[rd rfl];unfold Ij;rw[rc Aa]
 rw[rc e];exact p j Aa q
def je.c0(h:je w g gm ge d n):w.cell? ⟨g,0,O⟩=J (G d):=by rw[qV w g 0 _ _ (0,0) h.1];rfl
def je.c1(h:je w g gm ge d n):w.cell? ⟨g,1,O⟩=J (.map (J gm)):=by rw[qV w g 1 _ _ (0,0) h.1];rfl
def je.store(h:je w g gm ge d n)(B:n+3<=d.size)(A:d.size<=20000): ∃w',(Instr.mapUpdate qD (.map (J gm)) (G (d.extract n (n+3))) (I Q (n:Z))).run ψ w=.ok () w' /\Ag (λk=>k=gm) w w' /\Fd w' g gm ge d (n+1):=by
 obtain⟨o,⟨D,m,x⟩,f,s,y⟩:=h;have r:(Be d n).size=3:=by rw[Gx];omega
 have i:g≠gm:=by
  rintro rfl;obtain⟨v,c,b,_⟩:=m;rw[o] at b;injection b with b;cases b
 have j:ge≠gm:=by
  rintro rfl;obtain⟨v,c,b,_⟩:=m;obtain⟨t,q,_⟩:=s;rw[q] at b;injection b with b;cases b
 obtain⟨w',l,z,q⟩:=m.update Dl underlying138 (by unfold maxLen;omega) (Qh (Be d n) (by rw[r];decide)) (vJ underlying3 (a:=(n:Z)) (by
  have u:IntKind.i64.min<=(n:Z):=by rw[show IntKind.i64.min= -9223372036854775808 from rfl];omega
  simp[Lit.wf,u];omega))
 have p:Ag (λk=>k=gm) w w' :=(Ag.refl _ w).grown q (λk _ e=>(rD e).symm);refine⟨w',l,p,(p.block g (qW.1 o).1 i).trans o,⟨_,z,x.next m.isMap⟩,f,s.kept p j,y⟩
def Fd.skips(h:Fd w g gm ge d n)(p:¬n+3<=d.size){m:N}(l:n<=m):Fd w g gm ge d m:=by
 obtain⟨k,rfl⟩: ∃k,m=n+k:=⟨m- n,Aa⟩;clear l;induction k with
 |zero=>exact h
 |succ k ih=>
  obtain⟨a,⟨D,b,c⟩,f,e,i⟩:=ih;exact⟨a,⟨D,b.mono Aa,c.skip Aa⟩,f,e,λj _ o=>i j Aa o⟩
end
def dN(g gm ge:N)(d:Y)(hd:d.size<=20000)(q c:N)(hq:q+c<=d.size)(w:U)(h:Fd w g gm ge d q):
 Calls ψ 141 #[δ (J ⟨g,0,O⟩),I Q q,I Q c] w λr w' =>r=ε (.tuple #[])/\Ag (λk=>k=gm\/k=ge) w w' /\Fd w' g gm ge d (q+c):=by
 have t:=Af h;clear h;go_in;go_wp2;go_loopw [6] (λx wr=> ∃i:N,q<=i/\i<=q+c/\x=I Q i/\wr.cell? ⟨g,0,O⟩=J (G d)/\Hid (Fd wr g gm ge d i)/\Hid (Ag (λk=>k=gm\/k=ge) w wr)) (λx _=>q+c- (intOf x).toNat)
 .exact ⟨q,Aa,Aa,rfl,t.c0,t,Ag.refl _ w⟩
 obtain⟨i,a6,a1,rfl,V,b,F⟩:=hrel;by_cases a5:i<q+c
 .have A:(i:Z)<(q:Z)+(c:Z):=Aa;by_cases H:i+3<=d.size
  .have T:(i:Z)+3<=(d.size:Z):=Aa;have l:=b.c2;have u:=Af (λk=>lq g gm ge d hd i i Aa (wr.drewN k) (uh b));have a4:(i:Z)<(d.size:Z):=Aa;have a3:(0:Z)<=(i:Z):=Aa;have a0:wr.frozen? ⟨ge,i,O⟩=false:=by obtain⟨_,_,f,j,_⟩:=uh b;exact j.thaw i
   have D: ∃v,wr.cell? ⟨ge,i,O⟩=J v:=by obtain⟨_,_,f,j,_⟩:=uh b;exact⟨_,j.cell i Aa⟩
   obtain⟨v0,a2⟩:=D;have y:=Af (b.lay H);have a7:=KP d i H;go_upto_region 3 with fail;have a:wr.drew.cell? ⟨g,2,O⟩=J (K (J ⟨ge,0,O⟩) d.size d.size)/\True/\True:=⟨l,trivial,trivial⟩;refine Ai (S:=λW=>W.cell? ⟨g,2,O⟩=J (K (J ⟨ge,0,O⟩) d.size d.size)/\True/\True) (L:=9) Ab ?_;refine tk 0 10 (δ (J ⟨g,0,O⟩)) 25 a ?_;refine tk 1 10 (δ (J ⟨g,0,O⟩)) 26 a ?_;refine tk 2 10 (δ (J ⟨g,2,O⟩)) 27 a ?_;refine tk 3 10 (K (J ⟨ge,0,O⟩) d.size d.size) 28 a ?_;refine tk 4 10 (I Q i) 29 a ?_;refine tk 5 10 (δ (J ⟨g,0,O⟩)) 30 a ?_;refine tk 6 10 (I Q i) 31 a ?_;refine Ah (i:=7) Ab ?_;refine ri rfl (λK' o=> ?_);go_simp;refine(u 1).mono ?_;rintro r w1 ⟨rfl,k1,rfl⟩;refine o _ _ ⟨λ_=>⟨l,trivial,trivial⟩, ?_⟩;clear o;refine tk 8 10 (δ (J ⟨ge,i,O⟩)) 33 ⟨l,trivial,trivial⟩ ?_;refine Ah (i:=9) Ab ?_;refine ri rfl (λK' o=> ?_);go_simp;refine o _ _ ⟨λh=>absurd rfl h, ?_⟩;clear o;refine Am Ab ?_;clear a;go_upto_region 4 with fail;have m:je ((wr.drewN (1+k1)).setCell ⟨ge,i,O⟩ (I Q (Ij d i i))) g gm ge d i:=uh y;have C:Ag (λk=>k=gm\/k=ge) w ((wr.drewN (1+k1)).setCell ⟨ge,i,O⟩ (I Q (Ij d i i))):=(F.drewN _).setCell (p:=⟨ge,i,O⟩) (λ_=> .inr rfl) _;clear y u b F V l a2 a0 t;generalize(wr.drewN (1+k1)).setCell ⟨ge,i,O⟩ (I Q (Ij d i i))=w4 at*;obtain⟨w5,e,B,s⟩:=je.store (w:=w4.drew) m H hd;have a:w4.drew.cell? ⟨g,0,O⟩=J (G d)/\w4.drew.cell? ⟨g,1,O⟩=J (.map (J gm))/\True:=⟨m.c0,m.c1,trivial⟩;have R:Hid (Ag (λk=>k=gm\/k=ge) w w5):=C.drew.transNew B (λ_ _ h=> .inl h);have P:=Af s;have X:=s.c0;have a8:IntKind.i64.wrap ((i:Z)+3)=(i:Z)+3:=by rw[sx];omega
   have n:=Af e;clear e B s m C;refine Ai (S:=λW=>W.cell? ⟨g,0,O⟩=J (G d)/\W.cell? ⟨g,1,O⟩=J (.map (J gm))/\True) (L:=13) Ab ?_;refine tk 0 14 (δ (J ⟨g,0,O⟩)) 34 a ?_;refine tk 1 14 (δ (J ⟨g,0,O⟩)) 35 a ?_;refine tk 2 14 (δ (J ⟨g,1,O⟩)) 36 a ?_;refine tk 3 14 (.map (J gm)) 37 a ?_;refine tk 4 14 (δ (J ⟨g,0,O⟩)) 38 a ?_;refine tk 5 14 (δ (J ⟨g,0,O⟩)) 39 a ?_;refine tk 6 14 (δ (J ⟨g,0,O⟩)) 40 a ?_;refine tk 7 14 (G d) 41 a ?_;refine tk 8 14 (I Q i) 42 a ?_;refine tk 9 14 (I Q i) 43 a ?_;refine tk 10 14 (I Q ((i:Z)+3)) 44 a ?_;refine tk 11 14 (G (d.extract i (i+3))) 45 a ?_;refine tk 12 14 (I Q i) 46 a ?_;refine Ah (i:=13) Ab ?_;refine ri rfl (λK' o=> ?_);have e:=uh n;go_simp;refine o _ _ ⟨λh=>absurd rfl h, ?_⟩;clear o e;refine Am Ab ?_;clear a n;go_wp2;go_roundw
   .exact ⟨i+1,Aa,Aa,by go_num,X,P,R⟩
   exact Ae
  have T:¬(i:Z)+3<=(d.size:Z):=Aa;have M:=Af (b.skips H a1);clear b t;go_wp2_with fail;go_end0;exact⟨rfl,F,M⟩
 have A:¬(i:Z)<(q:Z)+(c:Z):=Aa;have z:i=q+c:=Aa;have M:Hid (Fd wr g gm ge d (q+c)):=by rw[<-z];exact b
 clear b t z;go_wp2_with fail;go_end0;exact⟨rfl,F,M⟩
