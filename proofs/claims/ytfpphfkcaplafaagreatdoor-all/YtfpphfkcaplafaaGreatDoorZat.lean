import Derived.Test.YtfpphfkcaplafaaGreatDoorZas
set_option linter.all false
set_option maxHeartbeats 64000000
set_option maxRecDepth 100000
open _root_ renaming Option.some->J,Option.none->O,Int->Z,Nat->N,Go.Value.int->I,Go.Value.string->G,Go.IntKind.i64->Q,ByteArray->Y,List->E,Go.World->U,Go.Value.slice->K,Go.Value->M,Go.Obj.cells->W,Go.Value.pointer->V,Go.RowKit.Hid->C,Go.Proofs.Tryz.prog->F,Go.Ending.returned->ε,Go.Value.bool->ζ,Go.Value.tuple->η,Bool.true->θ,absurd->κ,Go.Calls->μ,Go.TypeId->ν,UInt8->υ,Array->φ,Decidable.decide->Γ
variable{w w1:U}{b c c1 c2 g k n:N}{d j p:E (M×Y)}{v:M}{e:ν}{a:φ M}{cs:E M}
namespace Go.Proofs.YtfpphfkcaplafaaGreatDoor
open Go.RowKit Go.Maps Go.Proofs.Tryz
def DK(its:E Du)(b:its.length<=70)(a:∀x∈its,x.ok):(Cy its).size<=1000000000:=by
 obtain⟨_,_⟩:=Tr its a its.length<|WF _;have:(An<|endL its.length (NP its its.length).2.size (NP its its.length).1.size).size<=100:=alM
 rw[Cy,WC,WC];omega
def PV.at{its:E Du}(h:PV w g its){i:N}(a:i<its.length)(k:c<6):w.cell? ⟨g,i*6+c,O⟩=(EG<|its.getD i Db)[c]? :=by
 obtain⟨h0,b,d,e,f,j⟩:=h i a;have:c=0\/c=1\/c=2\/c=3\/c=4\/c=5:=A;rcases this with rfl|rfl|rfl|rfl|rfl|rfl
 .exact h0
 .exact b
 .exact d
 .exact e
 .exact f
 exact j
def PV.upd{j:N}{its:E Du}{x:Du}(p:PV w g its)(a:k<its.length)(o:j<6){a:φ M}(o:w.heap[g]? =J (W a e (0,0)))(q:∀c,c<6->(EG x)[c]? =if c=j then J v else(EG<|its.getD k Db)[c]?):PV (w.setCell ⟨g,k*6+j,O⟩ v) g<|its.set k x:=by
 have r:=WL w g (k*6+j) _ _ v o;have f:∀i,i<its.length-> ∀c,c<6->(w.setCell ⟨g,k*6+j,O⟩ v).cell? ⟨g,i*6+c,O⟩=(EG ((its.set k x).getD i Db))[c]? :=by
  intro i h c f;have b:=p.at h f;rw[Wu w g _ _ _ (0,0) o] at b;rw[Wu _ g _ _ _ (0,0) r];have o:(EG<|its.getD i Db).length=6:=rfl;have n:i*6+c<a.size:=by
   rw[Wv<|by rw[o];exact f] at b;exact(Wt.1 b).1
  by_cases l:i=k
  .subst l;have d:(its.set i x).getD i Db=x:=by rw[Wq,List.getElem?_set_self h];rfl
   rw[d,q c f];by_cases m:c=j
   .subst m;rw[Wz rfl,aak n]
   rw[Wx m,WO A,b]
  have d:(its.set k x).getD i Db=its.getD i Db:=by rw[Wq,List.getElem?_set_ne<|Ne.symm l,<-Wq]
  rw[d,WO A,b]
 intro i h;rw[wk] at h;exact⟨f i h 0 A,f i h 1 A,f i h 2 A,f i h 3 A,f i h 4 A,f i h 5 A⟩
def Kp{its:E Du}{x:Du}(h:∀y∈its,Du.ok y)(a:Du.ok x):∀y∈its.set k x,Du.ok y:=λy b=>by
 rcases List.mem_or_eq_of_mem_set b with h1|h1
 .exact h y h1
 rw[h1];exact a
def lu(x:Du):Prop:=x.nm.size<=3400000/\x.way<=100/\x.ck<=4294967296/\x.pk<=1200000/\x.ln<=1200000/\x.sp.size<=1200000
def tu{S:WS}{RF RL RT:E (M×Y)}(c4:S.m.size<=1100000)(c5:S.v.size<=1100000)(kd p q:Z)(hq1: -9223372036854775808<=q)(X5:q<=9223372036854775807)(s t:Y)(x:M)(fo:Option Addr)(fc:N)(fa:Addr)(fs:E Fl)(c4:fs.length<=1100000)(hfz:∀f∈fs,f.1.size<=1100000/\f.2.size<=1100000)(a3:0<fs.length->fo=J fa)(w:U)(h:CI w1 w b c S RF RL RT)(hf:∀W,Ag (λk=>k=b) w1 W->Eb W fa fs):
 μ F 20 #[.pointer<|J ⟨b,0,O⟩,.agg<|Ci kd p q s t x (K fo fs.length fc)] w λr w'=>r=ε (η #[])/\bu w1 w' b c S RF RL RT 1000000000:=by
 have hA:Am w<|w.alloc (.cells (Ci kd p q s t x<|K fo fs.length fc) 41):=(Ag.refl _ w).alloc _;have u:=h.old hA;have HL:=H u
 have HOP:C (EH (w.alloc (.cells (Ci kd p q s t x<|K fo fs.length fc) 41)) w.heap.size 41 7 λj=>(Ci kd p q s t x<|K fo fs.length fc).getD j undef):=EH.new w _ _ 7 _ alF (λj hj=>by
  have:j=0\/j=1\/j=2\/j=3\/j=4\/j=5\/j=6:=A;rcases this with rfl|rfl|rfl|rfl|rfl|rfl|rfl<;>rfl)
 have a7:(w.alloc (.cells (Ci kd p q s t x<|K fo fs.length fc) 41)).cell? ⟨b,0,O⟩=J (G S.m):=by rw[Wu _ b 0 _ _ (0,0) u.hp];rfl
 have a8:(w.alloc (.cells (Ci kd p q s t x<|K fo fs.length fc) 41)).cell? ⟨b,1,O⟩=J (G S.v):=by rw[Wu _ b 1 _ _ (0,0) u.hp];rfl
 have c4:=u.inb;have P:C (∀(V:U) (z:Y),Am (w.alloc (.cells (Ci kd p q s t x<|K fo fs.length fc) 41)) V->z.size<=1000000000->bu w1 (V.setCell ⟨b,2,O⟩<|G z) b c S RF RL RT 1000000000):=λV z ho hz=>agC
 have G1:C (∀V:U,Am (w.alloc (.cells (Ci kd p q s t x<|K fo fs.length fc) 41)) V->V.cell? ⟨b,2,O⟩=J (G S.ar)/\V.frozen? ⟨b,2,O⟩=false):=λV ho=>by
  have hLn:=u.old ho;exact⟨by rw[Wu _ b 2 _ _ (0,0) hLn.hp];rfl,WK _ b 2 _ _ hLn.hp⟩
 have HF:=H hf;have b5:C (∀i,i<fs.length->(fs.getD i default).1.size<=1100000/\(fs.getD i default).2.size<=1100000):=λi hi=>ajL
 have b6:=H a3;have a4:=H λW=>OG S.m S.v A A W;have a9:(((S.m++⟨#[64]⟩)++S.v)++⟨#[47]⟩).size<=2200002:=by rw[WC,WC,WC];show S.m.size+1+S.v.size+1<=_;omega
 unfold Ci at*;obtain⟨a6,hM⟩:∃a6,S.m=a6:=⟨_,rfl⟩;obtain⟨V,hV⟩:∃V,S.v=V:=⟨_,rfl⟩;rw[hM] at a7 a4 a9;rw[hV] at a8 a4 a9;generalize((a6++⟨#[64]⟩)++V)++⟨#[47]⟩=pf at*;go_in;go_wp2_with fail;generalize w.alloc (.cells #[I Q kd,I Q p,I Q q,G s,G t,x,K fo fs.length fc] 41)=W,w.heap.size=ob at*;have a0:W.drew.cell? ⟨b,0,O⟩=J (G a6)/\W.drew.cell? ⟨b,1,O⟩=J (G V)/\True:=⟨a7,a8,trivial⟩;refine Ai (S:=λa2=>a2.cell? ⟨b,0,O⟩=J (G a6)/\a2.cell? ⟨b,1,O⟩=J (G V)/\True) (L:=9) B ?_;refine tk 0 10 (.pointer<|J ⟨b,0,O⟩) 11 a0 ?_;refine tk 1 10 (.pointer<|J ⟨b,0,O⟩) 12 a0 ?_;refine tk 2 10 (.pointer<|J ⟨b,0,O⟩) 13 a0 ?_;refine tk 3 10 (G a6) 14 a0 ?_;refine tk 4 10 (.pointer<|J ⟨b,0,O⟩) 15 a0 ?_;refine tk 5 10 (.pointer<|J ⟨b,0,O⟩) 16 a0 ?_;refine tk 6 10 (.pointer<|J ⟨b,1,O⟩) 17 a0 ?_;refine tk 7 10 (G V) 18 a0 ?_;refine Ah (i:=8) B ?_;refine WE rfl λK' l=>?_;go_simp;apply(a4 _).mono;rintro r w2 ⟨rfl,rfl⟩;refine l _ _ ⟨λ_=>a0,?_⟩;refine Ah (i:=9) B ?_;refine WE rfl λK' l=>?_;go_simp;refine l _ _ ⟨λh=>κ rfl h,?_⟩;refine Aj B ?_;have b7:C<|Am W W.drew:=(Ag.refl _ W).drew;have b9:C (∀x∈([]:E Du),lu x):=λx hx=>by cases hx
 go_wp2;go_loopw [4,6,7,8,9] (λa2 xi _ _ _ wr=>∃(i:N) (its:E Du) (ao:Option Addr) (cap:N),i<=fs.length/\i<=70/\xi=I Q (i:Z)/\a2=K ao its.length cap/\C (TH W.drew wr (K ao its.length cap) its)/\C (∀x∈its,lu x)/\C (its.length=i)) λ_ a2 _ _ _ _=>70-(intOf a2).toNat
 .exact ⟨0,[],O,0,A,A,rfl,rfl,TH.start<|Ag.refl _ _,b9,rfl⟩
 obtain⟨i,its,ao,cap,hi,_,rfl,rfl,HN,HK,O9⟩:=hrel;have c6:its.length<=70:=by have:=X O9;omega
 have J2:=H<|b7.trans HN.2.2;have d6:wr.cell? ⟨ob,6,O⟩=J (K fo fs.length fc):=(HOP.old J2).cell 6 A;by_cases b0:i<fs.length
 .have b1:(i:Z)<fs.length:=A;by_cases a4:i<70
  .have b2:(i:Z)<70:=A;have a3:=b6 A;subst a3;obtain⟨c1,_⟩:=HF wr (HL.old J2).only i b0;obtain⟨_,_⟩:=b5 i b0;generalize fs.getD i default=f at*;obtain⟨nm,d⟩:=f;simp only at*;have b3:=H (λW=>Gi d W<|by unfold maxLen;omega);have c0:=FG d;generalize BJ d=ck at*;have a1:∀W,(Op.stringOp .add pf nm).run F W=.ok (G<|pf++nm) W:=λW=>WR W _ _ A
   obtain⟨a,b4⟩:∃a,pf++nm=a:=⟨_,rfl⟩;have c3:a.size<=3400000:=by rw[<-b4,WC];omega
   rw[b4] at a1;have a0:wr.drew.cell? ⟨ob,6,O⟩=J (K (J fa) fs.length fc)/\wr.drew.cell? (fa.add<|i*2)=J (G nm)/\True:=⟨d6,c1,trivial⟩;have a2:∀o,(wr.drew.alloc o).cell? ⟨ob,6,O⟩=J (K (J fa) fs.length fc)/\(wr.drew.alloc o).cell? (fa.add<|i*2)=J (G nm)/\True:=λo=>⟨Ap (((Ag.refl _ wr).drew).alloc o) d6,Ap (((Ag.refl _ wr).drew).alloc o) c1,trivial⟩
   go_wp2_with fail;refine Ai (S:=λa3=>a3.cell? ⟨ob,6,O⟩=J (K (J fa) fs.length fc)/\a3.cell? (fa.add<|i*2)=J (G nm)/\True) (L:=18) B ?_;refine tk 0 19 (G pf) 37 a0 ?_;refine tk 1 19 (.pointer<|J ⟨ob,6,O⟩) 38 a0 ?_;refine tk 2 19 (K (J fa) fs.length fc) 39 a0 ?_;refine tk 3 19 (I Q (i:Z)) 40 a0 ?_;refine tk 4 19 (.pointer<|J (fa.add<|i*2)) 41 a0 ?_;refine tk 5 19 (.pointer<|J (fa.add<|i*2)) 42 a0 ?_;refine tk 6 19 (G nm) 43 a0 ?_;refine tk 7 19 (G a) 44 a0 ?_;refine tk 8 19 (G d) 45 a0 ?_;refine tk 10 19 (G d) 47 a0 ?_;refine tk 11 19 (I Q (d.size:Z)) 48 a0 ?_;refine tk 12 19 (G d) 49 a0 ?_;refine tk 13 19 (I Q (d.size:Z)) 50 a0 ?_;refine tk 15 19 (G d) 52 a0 ?_;refine Nw (i:=9) (j:=17) B ?_ ?_
   .refine WE rfl λK' l=>?_;go_simp;apply(b3 _).mono;rintro r w3 ⟨rfl,rfl⟩;refine l _ _ ⟨λ_=>a0,?_⟩;refine tk 14 19 (.agg #[G a,I Q 0,I Q (ck:Z),I Q (d.size:Z),I Q (d.size:Z)]) 51 a0 ?_;refine tk 16 19 (.agg #[G a,I Q 0,I Q (ck:Z),I Q (d.size:Z),I Q (d.size:Z),G d]) 53 a0 ?_;refine Ah (i:=17) B ?_;refine WE rfl λK' l=>?_;go_simp;refine l _ _ ⟨λ_=>a2 _,?_⟩;exact ael
   refine WE rfl λK' l=>?_;go_simp;refine l _ _ ⟨λ_=>a2 _,?_⟩;refine Ah (i:=9) B ?_;refine WE rfl λK' l=>?_;go_simp;apply(b3 _).mono;rintro r w3 ⟨rfl,rfl⟩;refine l _ _ ⟨λ_=>a2 _,?_⟩;refine tk 14 19 (.agg #[G a,I Q 0,I Q (ck:Z),I Q (d.size:Z),I Q (d.size:Z)]) 51 (a2 _) ?_;refine tk 16 19 (.agg #[G a,I Q 0,I Q (ck:Z),I Q (d.size:Z),I Q (d.size:Z),G d]) 53 (a2 _) ?_;exact ael
  have b2:¬(i:Z)<70:=A;exact aem
 have b1:¬(i:Z)<fs.length:=A;exact aem
def ql(f:Fl)(T:E Fl):AK (f::T)=G f.1:: G f.2::AK T:=rfl
def Rw:∀(T:E Fl) (i:N),i<T.length->(AK T)[i*2]? =J (G (T.getD i default).1)/\(AK T)[i*2+1]? =J (G (T.getD i default).2)
 |[],i,h=>by simp at h
 |e::T,0,_=>⟨rfl,rfl⟩
 |e::T,i+1,h=>by
  have a:=Rw T i akW;rw[ql,show(i+1)*2=i*2+1+1 by omega];exact a
def kV(J0:φ M)(T:E Fl):Prop:= ∀i,i<T.length->J0[i*2]? =J (G (T.getD i default).1)/\J0[i*2+1]? =J (G (T.getD i default).2)
def kV.left{T U:E Fl}(h:kV a<|T++U):kV a T:=λi hi=>ajj
def kV.fls{T:E Fl}(h:kV a T)(b:w.heap[g]? =J (W a tF (0,0))):Eb w ⟨g,0,O⟩ T:=λi a=>by
 obtain⟨c,d⟩:=h i a;rw[we,WQ,Wu w g _ _ _ (0,0) b,Wu w g _ _ _ (0,0) b];exact⟨c,d⟩
def kW(T:E Fl)(a:Addr)(h:Eb w a T):∀j u,(AK T)[j]? =J u->w.cell? (a.add j)=J u:=by
 intro j u hj;have:j<T.length*2:=by rw[<-Ea];exact(wW.1 hj).1
 obtain⟨i,r,rfl,hr⟩:∃i r,j=i*2+r/\r<2:=⟨j/2,j%2,A,A⟩;have b:i<T.length:=A;obtain⟨e,f⟩:=h i b;obtain⟨c,d⟩:=Rw T i b
 match r,hr,hj with
 |0,_,hj=>rw[aaw] at hj ⊢;rw[hj] at c;rw[c];exact e
 |1,_,hj=>rw[hj] at d;rw[d,<-aby,abp];exact f
abbrev tx:Fl:=(Kk,⟨#[]⟩)
abbrev tz:Fl:=(Me,⟨#[]⟩)
def VE(n q:N)(h:q<n):(madeCells #[G ⟨#[]⟩,G ⟨#[]⟩] n)[q]? =J (#[(G ⟨#[]⟩:M),G ⟨#[]⟩][q%2]!):=by
 simp[madeCells,h]
def XX{b:φ M}{T:E Fl}{a:Addr}(f:w.heap[g]? =J (W b tF (0,0)))(j:Eb w a T)(k:T.length<=n)(o:T.length*2<=b.size)(l:ν):
 ∃w' c,(Builtin.copy_ #[39,39] l #[K (J ⟨g,0,O⟩) n c1,K (J a) T.length c2]).run F w=.ok (goInt (T.length:Z)) w'/\w'.heap[g]? =J (W c tF (0,0))/\c.size=b.size/\(∀q,q<T.length*2->c[q]? =(AK T)[q]?)/\(∀q,T.length*2<=q->c[q]? =b[q]?)/\Ag (λi=>i=g) w w':=by
 obtain⟨i,m,_,e,_⟩:=wi Lb;have c:Nat.min T.length n=T.length:=abu k;have Z1:=Ea T;have h:=aca (P:=F) w a (AK T)<|kW T a j;have d:=adk F g 0 tF (AK T) 0 b w f A<|oI T;rw[Z1] at h;refine⟨_,(b.toList.take (0+0)++AK T++b.toList.drop (0+0+(AK T).length)).toArray,?_,aaa w g b _ tF _ f,?_,λq hq=>?_,λq hq=>?_,⟨rfl,rfl,rfl,by simp[World.setRow],λj _ b=>ade w g j _ b⟩⟩
 .simp[Builtin.copy_,aaf underlying39,Builtin.lenOf,Builtin.firstCells,sizeOf,typeInfo,m,e,h,c];simp at d;simp[d]
 .exact ajG
 .rw[aaP,aaw,abo,aan,WW A]
 exact ajk
def XY{ao:Option Addr}(c:ν):
 (Builtin.copy_ #[39,39] c #[K (J ⟨g,0,O⟩) n c1,K ao 0 c2]).run F w=.ok (goInt 0) w:=by
 obtain⟨_,d,_,_,_⟩:=wi Lb;have e:=λa:Addr=>aca (P:=F) w a [] λ_ _ h=>by simp at h
 have b:(storeCells ⟨g,0,O⟩ []).run F w=.ok () w:=by first|rfl|simp[storeCells]
 cases ao with
 |none=>
  simp[Builtin.copy_,aaf underlying39,Builtin.lenOf,Builtin.firstCells];first|(rw[b];rfl)|(simp at b;rw[b];rfl)
 |some a=>
  have c:=e a
  (try simp at c)
  (try simp at b)
  simp[Builtin.copy_,aaf underlying39,Builtin.lenOf,Builtin.firstCells,sizeOf,typeInfo,d,c,b]
def XZ{b:φ M}{T:E Fl}{ao:Option Addr}{a:Addr}(d:0<T.length->ao=J a)(f:w.heap[g]? =J (W b tF (0,0)))(h:Eb w a T)(j:T.length<=n)(k:T.length*2<=b.size)(e:ν):
 ∃w' c,(Builtin.copy_ #[39,39] e #[K (J ⟨g,0,O⟩) n c1,K ao T.length c2]).run F w=.ok (goInt (T.length:Z)) w'/\w'.heap[g]? =J (W c tF (0,0))/\c.size=b.size/\(∀q,q<T.length*2->c[q]? =(AK T)[q]?)/\(∀q,T.length*2<=q->c[q]? =b[q]?)/\Ag (λi=>i=g) w w':=by
 by_cases h0:0<T.length
 .rw[d h0];exact XX f h j k e
 have c:T=[]:=wP A;subst c;exact⟨w,b,XY e,f,rfl,λq _=>A,λq _=>rfl,Ag.refl _ w⟩
def QT{ops:φ Oper}{rest:E Oper}{o:Oper}{e:Act}{Q:Exit->Act->U->Prop}(c:o.guard=O)(d s:Operand)(ho:o.op=.call {callee:=.builtin .copy,args:= #[d,s],argTypes:= #[39,39]})
 {h:φ M}{T:E Fl}{ao:Option Addr}{a:Addr}(j:0<T.length->ao=J a)(hd:e.eval d=.slice (J ⟨g,0,O⟩) n c1)(hs:e.eval s=.slice ao T.length c2)(p:w.heap[g]? =J (W h tF (0,0)))(r:Eb w a T)(t:T.length<=n)(m:T.length*2<=h.size)
 (k:∀w' f,w'.heap[g]? =J (W f tF (0,0))->f.size=h.size->(∀q,q<T.length*2->f[q]? =(AK T)[q]?)->(∀q,T.length*2<=q->f[q]? =h[q]?)->Ag (λi=>i=g) w w'->wpList F ops Q rest (e.put o.dst<|goInt (T.length:Z)) w'):wpList F ops Q (o::rest) e w:=by
 obtain⟨w',f,b,h1,h2,h3,h4,h5⟩:=XZ (n:=n) (c1:=c1) (c2:=c2) j p r t m o.type;exact agE
def kV.lent{T:E Fl}(c:a.size=(T.length+2)*2)(c:∀q,q<T.length*2->a[q]? =(AK T)[q]?)(d:∀q,T.length*2<=q->a[q]? =(madeCells #[G ⟨#[]⟩,G ⟨#[]⟩] ((T.length+2)*2))[q]?):kV ((a.setIfInBounds (T.length*2)<|G Kk).setIfInBounds ((T.length+1)*2)<|G Me)<|T++[tx,tz]:=by
 intro i a;rw[Ws] at a;have:i<T.length+2:=a;by_cases a:i<T.length
 .rw[Wq,WW a,<-Wq];obtain⟨e,f⟩:=Rw T i a;refine⟨?_,?_⟩
  .rw[WO A,WO A,c _ A];exact e
  rw[WO A,WO A,c _ A];exact f
 by_cases g:i=T.length
 .subst g;rw[Wq,WU<|WF _,abJ];have b:(T.length*2+1)%2=1:=A;refine⟨?_,?_⟩
  .rw[WO A,aak A];rfl
  rw[WO A,WO A,d _ A,VE _ _ A,b];rfl
 have h:i=T.length+1:=A;subst h;rw[Wq,WU A,abD];have b:((T.length+1)*2+1)%2=1:=A;refine⟨?_,?_⟩
 .rw[aak<|by rw[abh];omega];rfl
 rw[WO A,WO A,d _ A,VE _ _ A,b];rfl
def kV.own(f:w.heap[g]? =J (W a tF (0,0)))(l:a.size=n*2)(j:n<=maxLen)(T:E Fl)(b:T.length=n)(h:kV a T):w.ownsRow 0 tF 2 (K (J ⟨g,0,O⟩) n n) n<|AK T:=by
 refine⟨by rw[Ea,b],.inr ⟨g,n,a,rfl,wH _,f,WF _,j,l,?_⟩⟩;rw[wv<|by rw[wE];omega];apply abq;intro q;rw[aah];by_cases m:q<n*2
 .obtain ⟨i,r,rfl,k⟩:∃i r,q=i*2+r/\r<2:=⟨q/2,q%2,A,A⟩;obtain⟨d,e⟩:=h i A;obtain⟨c,g2⟩:=Rw T i A
  match r,k with
  |0,_=>rw[aaw,d,c]
  |1,_=>rw[e,g2]
 rw[wO A,wj<|by rw[Ea,b];omega]
def eZ(ao m:Option Addr)(q s:N)(a b:Addr)(c:E Fl)(o:c.length<=3000000)(e:0<c.length->ao=J a)(f:0<c.length->m=J b)(w:U)(o:Eb w a c)(p:Eb w b c):
 μ F 37 #[K ao c.length q,K m c.length s] w λr w'=>r=ε (ζ θ)/\Am w w':=by
 have t:=H o;have u:=H p;have k:=H e;have l:=H f;have HO:C<|Am w w:=Ag.refl _ w;clear o p e f;go_in;go_wp2;go_loopw [5] (λx wr=>∃i:N,i<=c.length/\x=I Q i/\C (Am w wr)) λx _=>c.length-(intOf x).toNat
 .exact ⟨0,A,rfl,HO⟩
 clear HO;obtain⟨i,_,rfl,HO⟩:=hrel;by_cases g:i<c.length
 .have h:(i:Z)<c.length:=A;have e:=k A;have f:=l A;subst e f;obtain⟨D,L⟩:=t.old HO i g;obtain⟨v,r2⟩:=u.old HO i g;generalize c.getD i default=x at*;exact agA
 have h:¬(i:Z)<c.length:=A;exact aeV
def zL(T:E Fl)(w w':U):Prop:=Am w w'/\∃J0,w'.heap[w.heap.size]? =J (W J0 tF (0,0))/\J0.size=(T.length+2)*2/\kV J0 (T++[tx,tz])
def Ht(g n:N)(b:n<=2000000)(a:U):(Instr.slice 39 (K (J ⟨g,0,O⟩) (n+2)<|n+2) O (J<|I Q (n:Z)) O).run F a=.ok (K (J ⟨g,0,O⟩) n<|n+2) a:=by
 have b:prog.underlying 39=J (.slice<|prog.elem 39):=ajB;rw[run_slice_h (w:=a) (P:=F) 39 (J ⟨g,0,O⟩) (n+2) (n+2) b Q (n:Z) A A,oJ];unfold sliced;simp[Addr.add]
def zM{s:WS}(hc:c<=99999990)(a3:s.m.size<=2000000)(a4:s.v.size<=2000000)(lo:Option Addr)(t:N)(la:Addr)(e:E Fl)(hn:e.length<=1100000)(a5:∀f∈e,f.1.size<=2000000/\f.2.size<=2000000)(a0:0<e.length->lo=J la)(w:U)(u:CI w1 w b c s p j d)(hG:∀i,Ag (λk=>k=b) w1 i->Fr i)(hf:∀i,Ag (λk=>k=b) w1 i->Eb i la e):
 μ F 21 #[V<|J ⟨b,0,O⟩,K lo e.length t] w λr w'=>r=ε (ζ θ)/\QL w1 w' b (c+1) s.base j d:=by
 obtain⟨p,b6,b7,b9,c0⟩:=wi Lb;have c3:((e.length:Z)+2).toNat=e.length+2:=A;have e0:∀i:U,(Instr.makeSlice 39 (I Q ((e.length:Z)+2))<|I Q ((e.length:Z)+2)).run F i=.ok (K (J ⟨i.heap.size,0,O⟩) (e.length+2)<|e.length+2) (i.alloc<|W (madeCells #[G ⟨#[]⟩,G ⟨#[]⟩] ((e.length+2)*2)) tF):=by
  intro i;have u:=acO (P:=F) i 39 tF p (.agg #[G ⟨#[]⟩,G ⟨#[]⟩]) underlying39 b6 b7 .i64 .i64 ((e.length:Z)+2) ((e.length:Z)+2) A A (by rw[c0];omega) A;rw[b9,c3] at u;exact u
 have HL:=H u;have c4:=H<|WD w (W (madeCells #[G ⟨#[]⟩,G ⟨#[]⟩] ((e.length+2)*2)) tF);have a6:C<|Am w (w.alloc<|W (madeCells #[G ⟨#[]⟩,G ⟨#[]⟩] ((e.length+2)*2)) tF):=(Ag.refl _ w).alloc _;have c5:=H<|hf _ (u.old a6).only;have y:C<|e.length*2<=(madeCells #[G ⟨#[]⟩,G ⟨#[]⟩] ((e.length+2)*2)).size:=by unfold C;rw[acI];omega
 have a1:C (∀w2 l,w2.heap[w.heap.size]? =J (W l tF (0,0))->l.size=(madeCells #[G ⟨#[]⟩,G ⟨#[]⟩] ((e.length+2)*2)).size->(∀q,q<e.length*2->l[q]? =(AK e)[q]?)->(∀q,e.length*2<=q->l[q]? =(madeCells #[G ⟨#[]⟩,G ⟨#[]⟩] ((e.length+2)*2))[q]?)->Ag (λh=>h=w.heap.size) (w.alloc<|W (madeCells #[G ⟨#[]⟩,G ⟨#[]⟩] ((e.length+2)*2)) tF) w2->(∃y0 y1,w2.cell? ⟨w.heap.size,e.length*2,O⟩=J y0/\w2.cell? ⟨w.heap.size,(e.length+1)*2,O⟩=J y1)/\w2.frozen? ⟨w.heap.size,e.length*2,O⟩=false/\w2.frozen? ⟨w.heap.size,(e.length+1)*2,O⟩=false/\zL e w ((w2.setCell ⟨w.heap.size,e.length*2,O⟩<|G Kk).setCell ⟨w.heap.size,(e.length+1)*2,O⟩<|G Me)):=λw2 l hg hs hl hh q=>by
  rw[acI] at hs;refine⟨⟨l[e.length*2]'A,l[(e.length+1)*2]'A,?_,?_⟩,WK w2 _ _ _ _ hg,WK w2 _ _ _ _ hg,?_,_,WL _ _ _ _ _ _<|WL w2 _ _ _ _ _ hg,by simp[hs],kV.lent hs hl hh⟩
  .exact aik
  .exact aik
  exact a6.transNew ((q.trans<|Aq w2 _ _ _).trans<|Aq _ _ _ _) λk _ e7=>A
 have e3:=H a0;have a7:C (∀i g,Am w i->g<i.heap.size->Eb i ⟨g,0,O⟩ e->μ F 46 #[G s.m,G s.v,K (J ⟨g,0,O⟩) e.length<|e.length+2] i λr w'=>Am i w'/\r=ε (η #[G (FY s.m s.v e).1,I Q ((FY s.m s.v e).2:Z)])):=λi g q hg x=>
  ur s.m s.v a3 a4 (J ⟨g,0,O⟩) (e.length+2) g e hn a5 i hg (λ_=>rfl) (λh o=>by have:=x h o;rw[we,WQ] at this;exact this) (hG i (u.old q).only).2 (hG i (u.old q).only).1.1
 have a8:C (∀i,Am w i->μ F 47 #[G s.m,G s.v,K lo e.length t] i λr w'=>Am i w'/\r=ε (η #[G (FY s.m s.v e).1,I Q ((FY s.m s.v e).2:Z)])):=λi q=>XW s.m s.v a3 a4 lo t la e hn a5 a0 i<|hf i (u.old q).only
 have c6:C (∀i g,Am w i->Eb i ⟨g,0,O⟩ e->μ F 37 #[K (J ⟨g,0,O⟩) e.length<|e.length+2,K lo e.length t] i λr w'=>r=ε (ζ θ)/\Am i w'):=λi g q x=>eZ (J ⟨g,0,O⟩) lo (e.length+2) t ⟨g,0,O⟩ la e A (λ_=>rfl) a0 i x<|hf i (u.old q).only
 have c7:w.cell? ⟨b,0,O⟩=J (G s.m):=by rw[Wu w b 0 _ _ (0,0) u.hp];rfl
 have c8:w.cell? ⟨b,1,O⟩=J (G s.v):=by rw[Wu w b 1 _ _ (0,0) u.hp];rfl
 have c9:w.cell? ⟨b,2,O⟩=J (G s.ar):=by rw[Wu w b 2 _ _ (0,0) u.hp];rfl
 have d0:=H c7;have d1:=H c8;have d2:=H c9;have p:=u.inb;obtain⟨BB,hB⟩:∃BB,s.base=BB:=⟨_,rfl⟩;rw[hB];have HB:=H hB;obtain⟨z,hM⟩:∃z,s.m=z:=⟨_,rfl⟩;obtain⟨D,hV⟩:∃D,s.v=D:=⟨_,rfl⟩;obtain⟨a2,hA⟩:∃a2,s.ar=a2:=⟨_,rfl⟩;rw[hM,hV] at a7 a8;rw[hM] at d0;rw[hV] at d1;rw[hA] at d2;obtain⟨W0,e4⟩:∃W0,W0=w:=⟨_,rfl⟩;clear u hG hf a5 a0 hB hM hV hA a3 a4 c7 c8 c9 c3 b6 b7 b9 c0;generalize FY z D e=sn at*;obtain⟨sa,sk⟩:=sn;simp only at*;have a9:∀o h :U,(o.cell? ⟨b,0,O⟩=J (G z)/\o.cell? ⟨b,1,O⟩=J (G D)/\o.cell? ⟨b,2,O⟩=J (G a2)/\Am W0 o)->Am o h ->(h.cell? ⟨b,0,O⟩=J (G z)/\h.cell? ⟨b,1,O⟩=J (G D)/\h.cell? ⟨b,2,O⟩=J (G a2)/\Am W0 h):=λo h u q=>⟨Ap q u.1,Ap q u.2.1,Ap q u.2.2.1,u.2.2.2.trans q⟩
 go_in;go_wp2_with (refine QT rfl (.tmp 18) (.tmp 19) rfl (n:=e.length+2) (c1:=e.length+2) (c2:=t) (T:=e) (ao:=lo) (a:=la) e3 rfl rfl c4 c5 A y ?_;intro w2 l hg hs hl hh q;obtain⟨⟨y0,y1,k0,k1⟩,f0,f1,p⟩:=a1 w2 l hg hs hl hh q;have d3:=H p;clear hg hs hl hh q p);generalize(w2.setCell ⟨w.heap.size,e.length*2,O⟩<|G Kk).setCell ⟨w.heap.size,(e.length+1)*2,O⟩ (G Me)=o at*;obtain⟨l,_,hg,e5,x⟩:=X d3;have b4:=H l;have e6:=H hg;have b5:=H x;have p:=(Wt.1 hg).1;have d4:=H<|x.left.fls hg;have h:o.drew.cell? ⟨b,0,O⟩=J (G z)/\o.drew.cell? ⟨b,1,O⟩=J (G D)/\o.drew.cell? ⟨b,2,O⟩=J (G a2)/\Am W0 o.drew:=⟨Ap l.drew d0,Ap l.drew d1,Ap l.drew d2,by rw[e4];exact l.drew⟩;have d5:=H<|a7 o.drew w.heap.size l.drew p (d4.old ((Ag.refl _ o).drew));have p:=λi=>Ht w.heap.size e.length A i
 have:(e.length:Z)<=e.length+2:=A;clear a7 d3 a1 c4 a6 c5 y k0 k1 f0 f1 l hg x e0;go_wp2_with fail;refine Ai (S:=λo=>o.cell? ⟨b,0,O⟩=J (G z)/\o.cell? ⟨b,1,O⟩=J (G D)/\o.cell? ⟨b,2,O⟩=J (G a2)/\Am W0 o) (L:=16) B ?_;refine tk 0 17 (V<|J ⟨b,0,O⟩) 31 h ?_;refine tk 1 17 (V<|J ⟨b,0,O⟩) 32 h ?_;refine tk 2 17 (V<|J ⟨b,0,O⟩) 33 h ?_;refine tk 3 17 (G z) 34 h ?_;refine tk 4 17 (V<|J ⟨b,0,O⟩) 35 h ?_;refine tk 5 17 (V<|J ⟨b,0,O⟩) 36 h ?_;refine tk 6 17 (V<|J ⟨b,1,O⟩) 37 h ?_;refine tk 7 17 (G D) 38 h ?_;refine tk 8 17 (K (J ⟨w.heap.size,0,O⟩) (e.length+2)<|e.length+2) 39 h ?_;refine tk 9 17 (I Q (e.length:Z)) 40 h ?_;refine tk 10 17 (K (J ⟨w.heap.size,0,O⟩) e.length<|e.length+2) 41 h ?_;refine Ah (i:=11) B ?_;refine WE rfl λ_ R=>?_;go_simp;apply d5.mono;rintro r w3 ⟨q,rfl⟩;have i:=a9 _ _ h q;refine R _ _ ⟨λ_=>i,?_⟩;clear R;refine tk 12 17 (η #[G sa,I Q (sk:Z)]) 30 i ?_;refine tk 13 17 (G sa) 43 i ?_;refine tk 14 17 (I Q (sk:Z)) 44 i ?_;refine tk 15 17 (G sa) 7 i ?_;refine Ah (i:=16) B ?_;refine WE rfl λ_ R=>?_;go_simp;refine R _ _ ⟨λu=>κ rfl u,?_⟩;clear R;refine Aj B ?_;have l:Am o w3:=(Ag.refl _ o).drew.trans q;have d6:=H l;have h:w3.drew.cell? ⟨b,0,O⟩=J (G z)/\w3.drew.cell? ⟨b,1,O⟩=J (G D)/\w3.drew.cell? ⟨b,2,O⟩=J (G a2)/\Am W0 w3.drew:=⟨i.1,i.2.1,i.2.2.1,i.2.2.2.drew⟩;have d7:=H<|a8 w3.drew (b4.trans l).drew;clear d5 i q l a8;go_wp2_with fail;refine Ai (S:=λo=>o.cell? ⟨b,0,O⟩=J (G z)/\o.cell? ⟨b,1,O⟩=J (G D)/\o.cell? ⟨b,2,O⟩=J (G a2)/\Am W0 o) (L:=14) B ?_;refine tk 0 15 (V<|J ⟨b,0,O⟩) 46 h ?_;refine tk 1 15 (V<|J ⟨b,0,O⟩) 47 h ?_;refine tk 2 15 (V<|J ⟨b,0,O⟩) 48 h ?_;refine tk 3 15 (G z) 49 h ?_;refine tk 4 15 (V<|J ⟨b,0,O⟩) 50 h ?_;refine tk 5 15 (V<|J ⟨b,0,O⟩) 51 h ?_;refine tk 6 15 (V<|J ⟨b,1,O⟩) 52 h ?_;refine tk 7 15 (G D) 53 h ?_;refine tk 8 15 (K lo e.length t) 54 h ?_;refine Ah (i:=9) B ?_;refine WE rfl λ_ R=>?_;go_simp;apply d7.mono;rintro r w4 ⟨q,rfl⟩;have i:=a9 _ _ h q;refine R _ _ ⟨λ_=>i,?_⟩;clear R;refine tk 10 15 (η #[G sa,I Q (sk:Z)]) 45 i ?_;refine tk 11 15 (G sa) 56 i ?_;refine tk 12 15 (I Q (sk:Z)) 57 i ?_;refine tk 13 15 (G sa) 9 i ?_;refine Ah (i:=14) B ?_;refine WE rfl λ_ R=>?_;go_simp;refine R _ _ ⟨λu=>κ rfl u,?_⟩;clear R;refine Aj B ?_;have l:Am o w4:=d6.trans ((Ag.refl _ w3).drew.trans q);have o:=H l;have y:=H<|c6 w4 w.heap.size (b4.trans l) (d4.old l);clear d7 i q l c6 d6 h a9;go_wp2_with fail;apply y.mono;rintro r R ⟨rfl,d8⟩;have i:=o.trans d8;have h:=AH i e6;have l:=H h;have p:=H i;obtain⟨q,t⟩:=b5 e.length (by rw[Ws];show _<_+2;omega);obtain⟨u,x⟩:=b5 (e.length+1) (by rw[Ws];show _<_+2;omega);rw[Wq,WU<|WF _,abJ] at q t;rw[Wq,WU A,abD] at u x;have z:R.cell? ⟨w.heap.size,e.length*2,O⟩=J (G Kk):=by rw[Wu _ _ _ _ _ (0,0) h];exact q
 have z:R.cell? ⟨w.heap.size,e.length*2+1,O⟩=J (G ⟨#[]⟩):=by rw[Wu _ _ _ _ _ (0,0) h];exact t
 have z:R.cell? ⟨w.heap.size,(e.length+1)*2,O⟩=J (G Me):=by rw[Wu _ _ _ _ _ (0,0) h];exact u
 have z:R.cell? ⟨w.heap.size,(e.length+1)*2+1,O⟩=J (G ⟨#[]⟩):=by rw[Wu _ _ _ _ _ (0,0) h];exact x
 have z:=zo Kk ⟨#[]⟩;have:=zo Me ⟨#[]⟩
 have d9:=H (Ov (wq:=w) A R (HL.old<|b4.trans i) (J ⟨w.heap.size,0,O⟩) (e.length+2) (e.length+2) A (AK<|e++[tx,tz]) (kV.own h e5 (by unfold maxLen;omega) (e++[tx,tz]) (by rw[Ws];rfl) b5) (λg e7=>by
  have e:w.heap.size=g:=WX e7;have:=HL.only.size;exact⟨A,A⟩) HL.rf.2.2)
 clear y d8 i h q t u x l p o;go_wp2_with fail;apply d9.mono;rintro r w6 ⟨rfl, -,e⟩;have HX:C<|QL w1 w6 b (c+1) BB j d:=by rw[<-X HB];exact e
 clear d9 e;exact aeX
def kX{s:WS}{p e a:E (Value×Y)}(g:s.m.size<=2000000)(x:s.v.size<=2000000)(R:s.ar.size<=9223372036854775807)(t:Y)(w:U)(h:CI w1 w b c s p e a)(hG:∀f,Ag (λk=>k=b) w1 f->Fr f):
 μ F 22 #[.pointer<|J ⟨b,0,O⟩,G t] w λr w'=>r=ε (ζ θ)/\QL w1 w' b c s.base e a:=by
 have o:=H h;have a1:w.cell? ⟨b,0,O⟩=J (G s.m):=by rw[Wu w b 0 _ _ (0,0) h.hp];rfl
 have a2:w.cell? ⟨b,1,O⟩=J (G s.v):=by rw[Wu w b 1 _ _ (0,0) h.hp];rfl
 have a3:w.cell? ⟨b,2,O⟩=J (G s.ar):=by rw[Wu w b 2 _ _ (0,0) h.hp];rfl
 have p:=h.inb;have y:=H λf=>FO s.m s.v s.ar g x R f;have q:C (∀t f,Am w f->μ F 48 #[G s.m,G s.v,G s.ar,G t] f λr w'=>Am f w'/\r=ε (I Q (Lz s.m s.v s.ar t:Z))):=λt f ho=>pN s.m s.v s.ar t g x R f (hG f ((h.old ho).only)).2 (hG f ((h.old ho).only)).1.2 (hG f ((h.old ho).only)).1.1
 have u:=H λt f=>eX s.m s.v s.ar t g x R f;have z:C ((Bu s.m s.v s.ar).2=0-> ∀f p,Au f p (Bu s.m s.v s.ar).1->μ F 47 #[G s.m,G s.v,p] f λr w'=>Am f w'/\∃(a7:Y) (k:Z),r=ε (η #[G a7,I Q k])):=λhz f p D=>by
  obtain⟨_,_,f3⟩:=MH hz;obtain⟨ao,a5,av,rfl,a6,p⟩:=D.fls;refine(XW s.m s.v g x ao a5 av _ Aa (λT D=>by have:=f3 T D;omega) a6 f p).mono ?_;rintro r w' ⟨ho,rfl⟩;exact⟨ho,_,_,rfl⟩
 obtain⟨d,hB⟩:∃d,s.base=d:=⟨_,rfl⟩;rw[hB];have HB:=H hB;clear hB h hG;obtain⟨M,hM⟩:∃M,s.m=M:=⟨_,rfl⟩;obtain⟨V,hV⟩:∃V,s.v=V:=⟨_,rfl⟩;obtain⟨A,hA⟩:∃A,s.ar=A:=⟨_,rfl⟩;rw[hM,hV,hA] at y q u z;rw[hM] at a1;rw[hV] at a2;rw[hA] at a3;clear hM hV hA g x R;obtain⟨W0,n⟩:∃W0,W0=w:=⟨_,rfl⟩;rw[<-n] at q;have a8:=MI M V A;generalize Bu M V A=um at*;obtain⟨_,un⟩:=um;simp only at*;have Z4:∀X g :U,(X.cell? ⟨b,0,O⟩=J (G M)/\X.cell? ⟨b,1,O⟩=J (G V)/\X.cell? ⟨b,2,O⟩=J (G A)/\Am W0 X)->Am X g ->(g.cell? ⟨b,0,O⟩=J (G M)/\g.cell? ⟨b,1,O⟩=J (G V)/\g.cell? ⟨b,2,O⟩=J (G A)/\Am W0 g):=λX g h ho=>⟨Ap ho h.1,Ap ho h.2.1,Ap ho h.2.2.1,h.2.2.2.trans ho⟩
 have j:w.drew.cell? ⟨b,0,O⟩=J (G M)/\w.drew.cell? ⟨b,1,O⟩=J (G V)/\w.drew.cell? ⟨b,2,O⟩=J (G A)/\Am W0 w.drew:=⟨a1,a2,a3,by rw[n];exact(Ag.refl _ w).drew⟩;have y:=H<|y w.drew;clear a1 a2 a3;go_in;go_wp2_with fail;refine Ai (S:=λX=>X.cell? ⟨b,0,O⟩=J (G M)/\X.cell? ⟨b,1,O⟩=J (G V)/\X.cell? ⟨b,2,O⟩=J (G A)/\Am W0 X) (L:=17) B ?_;refine tk 0 18 (.pointer<|J ⟨b,0,O⟩) 10 j ?_;refine tk 1 18 (.pointer<|J ⟨b,0,O⟩) 11 j ?_;refine tk 2 18 (.pointer<|J ⟨b,0,O⟩) 12 j ?_;refine tk 3 18 (G M) 13 j ?_;refine tk 4 18 (.pointer<|J ⟨b,0,O⟩) 14 j ?_;refine tk 5 18 (.pointer<|J ⟨b,0,O⟩) 15 j ?_;refine tk 6 18 (.pointer<|J ⟨b,1,O⟩) 16 j ?_;refine tk 7 18 (G V) 17 j ?_;refine tk 8 18 (.pointer<|J ⟨b,0,O⟩) 18 j ?_;refine tk 9 18 (.pointer<|J ⟨b,0,O⟩) 19 j ?_;refine tk 10 18 (.pointer<|J ⟨b,2,O⟩) 20 j ?_;refine tk 11 18 (G A) 21 j ?_;refine Ah (i:=12) B ?_;refine WE rfl λK' l=>?_;go_simp;apply y.mono;rintro r w2 ⟨ho,hp⟩;obtain⟨u1,_,rfl,T,g,D⟩:=hp.form;simp only at D;have O1:=Z4 _ _ j ho;refine l _ _ ⟨λ_=>O1,?_⟩;clear l;refine tk 13 18 (η #[u1,I Q (un:Z)]) 9 O1 ?_;refine tk 14 18 u1 23 O1 ?_;refine tk 15 18 (I Q (un:Z)) 24 O1 ?_;refine tk 16 18 u1 5 O1 ?_;refine Ah (i:=17) B ?_;refine WE rfl λK' l=>?_;go_simp;refine l _ _ ⟨λh=>κ rfl h,?_⟩;clear l;refine Aj B ?_;clear j g y ho hp;by_cases ht:t=⟨#[]⟩
 .subst ht;by_cases hz:un=0
  .subst hz;rw[Wz rfl] at D;subst D;have a4:=H<|z rfl w2.drew u1 (Au.old T ((Ag.refl _ w2).drew));have j:w2.drew.cell? ⟨b,0,O⟩=J (G M)/\w2.drew.cell? ⟨b,1,O⟩=J (G V)/\w2.drew.cell? ⟨b,2,O⟩=J (G A)/\Am W0 w2.drew:=⟨O1.1,O1.2.1,O1.2.2.1,O1.2.2.2.drew⟩;clear O1 z T;go_wp2_with fail;refine EP (S:=λX=>X.cell? ⟨b,0,O⟩=J (G M)/\X.cell? ⟨b,1,O⟩=J (G V)/\X.cell? ⟨b,2,O⟩=J (G A)/\Am W0 X) (late:=λi=>Γ<|11<=i) B ?_;refine tg 0 14 (.pointer<|J ⟨b,0,O⟩) 32 j ?_;refine tg 1 14 (.pointer<|J ⟨b,0,O⟩) 33 j ?_;refine tg 2 14 (.pointer<|J ⟨b,0,O⟩) 34 j ?_;refine tg 3 14 (G M) 35 j ?_;refine tg 4 14 (.pointer<|J ⟨b,0,O⟩) 36 j ?_;refine tg 5 14 (.pointer<|J ⟨b,0,O⟩) 37 j ?_;refine tg 6 14 (.pointer<|J ⟨b,1,O⟩) 38 j ?_;refine tg 7 14 (G V) 39 j ?_;refine tg 8 14 u1 40 j ?_;refine Ba (i:=9) B ?_;refine WE rfl λK' l=>?_;go_simp;apply a4.mono;rintro r w3 ⟨ho,t,kk,rfl⟩;have a0:=Z4 _ _ j ho;refine l _ _ ⟨λ_=>a0,?_⟩;clear l;refine tg 10 14 (η #[G t,I Q kk]) 31 a0 ?_;refine Bx (i:=11) (v:=G t) (J 42) rfl rfl B rfl B B (λ_ _ _ h=>h) (.inl ⟨rfl,λf _=>by go_simp⟩) ?_;simp only[Act.put,WH,WT,WV];refine Bx (i:=12) (v:=I Q kk) (J 43) rfl rfl B rfl B B (λ_ _ _ h=>h) (.inl ⟨rfl,λf _=>by go_simp⟩) ?_;simp only[Act.put,WH,WT,WV];refine Ba (i:=13) B ?_;refine WE rfl λK' l=>?_;go_simp;refine l _ _ ⟨(λh=>by cases h),?_⟩;clear l;refine FR B ?_;clear j ho a4;have O1:=a0;clear a0;have q:=H<|q t w3.drew O1.2.2.2.drew;have u:=H<|u t;have j:w3.drew.cell? ⟨b,0,O⟩=J (G M)/\w3.drew.cell? ⟨b,1,O⟩=J (G V)/\w3.drew.cell? ⟨b,2,O⟩=J (G A)/\Am W0 w3.drew:=⟨O1.1,O1.2.1,O1.2.2.1,O1.2.2.2.drew⟩;exact aep
  have f:((un:Z)==0)=false:=act
  have g:¬(un:Z)=0:=Aa;clear D T z;obtain⟨t,ht⟩:∃t:Y,t=⟨#[]⟩:=⟨_,rfl⟩;rw[<-ht];have f:(t.toList==[])=true:=by rw[show(t.toList==([]:E υ))=Γ (t=⟨([]:E υ).toArray⟩) from Fw t []];exact Wy ht
  clear ht;exact aku
 have f:(t.toList==[])=false:=by rw[show(t.toList==([]:E υ))=Γ (t=⟨([]:E υ).toArray⟩) from Fw t []];exact Ww ht
 clear ht D T z;exact aku
def bz{S:WS}{o j p:E (M×Y)}(l:n<=99999990)(f:S.m.size<=2000000)(g:S.v.size<=2000000)(i:S.ar.size<=9223372036854775807)(a c:Z)(s t:Y)(x y:M)(w:U)(h:CI w1 w b n S o j p)(d:∀o,Ag (λk=>k=b) w1 o->Fr o)(o:s.size<=9223372036854775807):
 μ F 6 #[V<|J ⟨b,0,O⟩,.agg<|Ci 7 a c s t x y] w λe w'=>e=ε (ζ θ)/\QL w1 w' b (n+1) S.base j p:=by
 have u:=h.old ((Ag.refl _ w).alloc<|W (Ci 7 a c s t x y) 41);have:(w.alloc<|W (Ci 7 a c s t x y) 41).cell? ⟨b,2,O⟩=J (G S.ar):=by rw[Wu _ b 2 _ _ (0,0) u.hp];rfl
 have:=u.inb;by_cases h0:s=⟨#[]⟩
 .have j:(s.toList==[])=true:=by rw[show(s.toList==([]:E υ))=Γ (s=⟨([]:E υ).toArray⟩) from Fw s []];exact Wy h0
  have HC:=H<|bj l f g S.ar i _ u d;exact akA
 have:(s.toList==[])=false:=by rw[show(s.toList==([]:E υ))=Γ (s=⟨([]:E υ).toArray⟩) from Fw s []];exact Ww h0
 have HC:=H<|bj l f g s o _ u d;exact akA
def bA{S:WS}(f:S.ar.size<=2000000000)(a c:Z)(s t:Y)(x y:M)(w:U)(i:CI w1 w b n S j p d)(g: -9223372036854775808<=c)(h:c<=9223372036854775807)(k:s.size<=2000000):
 μ F 6 #[V<|J ⟨b,0,O⟩,.agg<|Ci 8 a c s t x y] w λe w'=>e=ε (ζ θ)/\bu w1 w' b n S j p d (S.ar.size+100):=by
 have HC:=H<|tq 8 a c g h s t k x y f _ (i.old ((Ag.refl _ w).alloc<|W (Ci 8 a c s t x y) 41));exact aks
def Ya{S:WS}(f:S.m.size<=2000000)(g:S.v.size<=2000000)(h:S.ar.size<=9223372036854775807)(a c:Z)(s t:Y)(x y:M)(w:U)(i:CI w1 w b n S d j p)(l:∀d,Ag (λk=>k=b) w1 d->Fr d):
 μ F 6 #[V<|J ⟨b,0,O⟩,.agg<|Ci 11 a c s t x y] w λe w'=>e=ε (ζ θ)/\QL w1 w' b n S.base j p:=by
 have HC:=H<|kX f g h s _ (i.old ((Ag.refl _ w).alloc<|W (Ci 11 a c s t x y) 41)) l;exact aks
def fd{S:WS}(i:S.m.size<=1100000)(l:S.v.size<=1100000)(a c:Z)(s t:Y)(x y:M)(w:U)(R:CI w1 w b n S j p d)(o: -9223372036854775808<=c)(q:c<=9223372036854775807)(h:Option Addr)(r:N)(u:Addr)(g:E Fl)(z:g.length<=1100000)(D:∀f∈g,f.1.size<=1100000/\f.2.size<=1100000)(L:0<g.length->h=J u)(T:∀P,Ag (λk=>k=b) w1 P->Eb P u g)(P:y=K h g.length r):
 μ F 6 #[V<|J ⟨b,0,O⟩,.agg<|Ci 9 a c s t x y] w λe w'=>e=ε (ζ θ)/\bu w1 w' b n S j p d 1000000000:=by
 subst P;have HC:=H<|tu i l 9 a c o q s t x h r u g z D L _ (R.old ((Ag.refl _ w).alloc<|W (Ci 9 a c s t x<|K h g.length r) 41)) T;exact aks
def kY{S:WS}(L:n<=99999990)(i:S.m.size<=2000000)(l:S.v.size<=2000000)(a c:Z)(s t:Y)(x y:M)(w:U)(P:CI w1 w b n S d j p)(R:∀d,Ag (λk=>k=b) w1 d->Fr d)(h:Option Addr)(o:N)(q:Addr)(g:E Fl)(r:g.length<=1100000)(u:∀f∈g,f.1.size<=1100000/\f.2.size<=1100000)(z:0<g.length->h=J q)(D:∀d,Ag (λk=>k=b) w1 d->Eb d q g)(T:y=K h g.length o):
 μ F 6 #[V<|J ⟨b,0,O⟩,.agg<|Ci 10 a c s t x y] w λe w'=>e=ε (ζ θ)/\QL w1 w' b (n+1) S.base j p:=by
 subst T;have HC:=H (zM L i l h o q g r (λf D=>by have:=u f D;omega) z _ (P.old ((Ag.refl _ w).alloc<|W (Ci 10 a c s t x<|K h g.length o) 41)) R D);exact aks
open Go.ChangeShapes Go.WideShapes Go.ChangeAt Go.RowKit _root_.Go.Proofs.YtfpphfkcaplafaaGreatDoor.Rows Go.Proofs.Tryz
def Ty(P:U->Prop)(y:M):Prop:= ∃fo fc fa,∃fs:E Fl,y=K fo fs.length fc/\fs.length<=1100000/\(∀f∈fs,f.1.size<=1100000/\f.2.size<=1100000)/\(0<fs.length->fo=J fa)/\∀W,P W->Eb W fa fs
def zN(p q:Z)(s t:Y):Prop:=(-9223372036854775808<=p/\p<=9223372036854775807)/\(-9223372036854775808<=q/\q<=9223372036854775807)/\s.size<=1048576/\t.size<=1048576
def il(P:U->Prop)(a:Addr)(n:N):Prop:= ∀i,i<n-> ∃k p q s t x y,zN p q s t/\QN P x/\Ty P y/\∀W,P W-> ∀j,j<7->W.cell? (a.add<|i*7+j)=(Ci k p q s t x y)[j]?
def Wo:prog.cellsOf 38=2:=B
def Hu:prog.cellsOf 39=1:=B
def zO{H:Type}{enc:ν×M->H}{c:U}{d:DataW H}{p:E MemPlace}{a:N->Bool}{f:Bool}(hl:cs.length=2)
 (k:DataW.trod enc F c 0 a f b 38 cs=J (d,p)):
 ∃e:Fl,cs=[G e.1,G e.2]/\e.1.size<=uptoBulk d/\e.2.size<=uptoBulk d:=by
 obtain⟨xs,n,rfl,g,_,hn,a⟩:=adT underlying38 k
 match cs,hl,xs,hn with
 |[v0,v1],_,[y0,y1],_=>
  have b:=a 0 _ rfl;have c:=a 1 _ rfl;simp[xw] at b c;obtain⟨l,h,m,_⟩:=ack underlying9 b;obtain⟨o,i,q,_⟩:=ack underlying9 c;simp at h i;subst h i;simp only[abL] at g;have j:∀s:Y,s.size=s.data.toList.length:=λs=>Lib.size_eq s
  refine⟨(l,o),rfl,?_,?_⟩
  .rw[g.1,m,j];simp[uptoBulk,uptoBulkAll];omega
  rw[g.1,q,j];simp[uptoBulk,uptoBulkAll];omega
def xV{H:Type}{enc:ν×M->H}{h:U}{d:DataW H}{p:E MemPlace}{j:N->Bool}{k:Bool}
 (q:DataW.trod enc F h 0 j k g 39 [v]=J (d,p))(hb:uptoBulk d<=1048576):
 Ty (λg=>Am h g) v:=by
 rcases Go.Deep.open_slice underlying39 q with⟨o,_⟩|⟨a,len,s,m,n,D,_,o,_,_,_,t,y,r⟩
 .simp at o;subst o;exact⟨O,0,⟨0,0,O⟩,[],rfl,Ad,(λ_ q=>by cases q),(λq=>by simp at q),λ_ _ i hi=>by simp at hi⟩
 simp at o;subst o;simp only[abL] at y;have x:=y.1;have g:len<=1048576:=agI;have c:∀i,i<len-> ∃e:Fl,(∀j,j<2->h.cell? ((a.add<|i*2).add j)=([G e.1,G e.2]:E M)[j]?)/\e.1.size<=1100000/\e.2.size<=1100000:=λi hi=>by
  have g:i<m:=by rw[t];split<;>omega
  obtain⟨_,h1,z⟩:=r i g;rw[Wo] at h1;obtain⟨_,u,b⟩:=adU h1;obtain⟨e,rfl,_,_⟩:=zO u z;exact akN
 let f:N->Fl:=λi=>if hi:i<len then Classical.choose (c i hi) else default
 have hf:∀i (hi:i<len),(∀j,j<2->h.cell? ((a.add<|i*2).add j)=([G (f i).1,G (f i).2]:E M)[j]?)/\(f i).1.size<=1100000/\(f i).2.size<=1100000:=λi hi=>aid
 have g:∀i,i<len->((List.range len).map f).getD i default=f i:=λi hi=>by rw[Wq];simp[hi]
 have w:Eb h a ((List.range len).map f):=λi hi=>by
  have h:i<len:=by simpa using hi
  obtain⟨o,_⟩:=hf i h;rw[g i h];have g:=o 0 A;have h:=o 1 A;rw[abp] at h;exact⟨by rw[aby,aaw] at g;exact g,h⟩
 refine⟨J a,s,a,(List.range len).map f,Ad,by simp;omega,λe he=>?_,λ_=>rfl,λ_ g=>w.old g⟩;exact ajU
def xW{H:Type}{enc:ν×M->H}{i:U}{d:DataW H}{p:E MemPlace}{j:N->Bool}{e:Bool}(hl:cs.length=7)
 (r:DataW.trod enc F i 0 j e b 41 cs=J (d,p))(o:uptoBulk d<=1048576):
 ∃k a c s t x y,cs=(Ci k a c s t x y).toList/\zN a c s t/\QN (λb=>Am i b) x/\Ty (λb=>Am i b) y:=by
 obtain⟨xs,n,rfl,q,_,hn,b⟩:=adT underlying41 r
 match cs,hl,xs,hn with
 |[v0,v1,v2,v3,v4,v5,v6],_,[y0,y1,y2,y3,y4,y5,y6],_=>
  have e:=b 0 _ rfl;have i:=b 1 _ rfl;have j:=b 2 _ rfl;have r:=b 3 _ rfl;have u:=b 4 _ rfl;have v:=b 5 _ rfl;have w:=b 6 _ rfl;simp[Hk,xw,zv,Hu] at e i j r u v w;obtain⟨k,z,_⟩:=adh underlying3 e;obtain⟨a,D,_,T⟩:=adh underlying3 i;obtain⟨c,L,_,wc⟩:=adh underlying3 j;obtain⟨s,P,x3,_⟩:=ack underlying9 r;obtain⟨t,R,x4,_⟩:=ack underlying9 u;simp at z D L P R;subst z D L P R;simp only[abL] at q;have b:=q.1;have:=Lib.size_eq s;have:uptoBulkAll [y0.1,y1.1,y2.1,y3.1,y4.1,y5.1,y6.1]+1<=1048576:=by rw[b] at o;simpa [uptoBulk] using o
  have:=Ga (d:=y3.1) (l:=[y0.1,y1.1,y2.1,y3.1,y4.1,y5.1,y6.1]) Ad;have:=Ga (d:=y5.1) (l:=[y0.1,y1.1,y2.1,y3.1,y4.1,y5.1,y6.1]) Ad;have:=Ga (d:=y4.1) (l:=[y0.1,y1.1,y2.1,y3.1,y4.1,y5.1,y6.1]) Ad;have:=Ga (d:=y6.1) (l:=[y0.1,y1.1,y2.1,y3.1,y4.1,y5.1,y6.1]) Ad;obtain⟨_,a0,f,g,h⟩:=sH (d:=y5.1) (p:=y5.2) v A;have m:=xV (d:=y6.1) (p:=y6.2) w A;have:=Lib.size_eq t;have:uptoBulk y3.1=s.data.toList.length+1:=by rw[x3];simp[uptoBulk]
  have:uptoBulk y4.1=t.data.toList.length+1:=by rw[x4];simp[uptoBulk]
  have S:∀n:Z,(Lit.int Q n).wf=θ-> -9223372036854775808<=n/\n<=9223372036854775807:=λn hn=>by
   have b:(Γ (IntKind.i64.min<=n)&&Γ (n<=IntKind.i64.max))=true:=hn;rw[wo,aae,aae] at b;exact b
  exact⟨k,a,c,s,t,v5,v6,rfl,⟨S a T,S c wc,A,A⟩,⟨a0,f,g,λ_ b=>h.old b⟩,m⟩
def qF{H:Type}{enc:ν×M->H}{b:U}{d:DataW H}{c:E MemPlace}{j:N->Bool}{e:Bool}
 (h:DataW.Trod enc F b 0 j e 22 v d c)(R:v.oneCell'=θ)(hb:uptoBulk d<=1048576):
 ∃ao n cap,v=K ao n cap/\n<=1100000/\(n=0\/ ∃a,ao=J a/\il (λc=>Am b c) a n):=by
 obtain⟨_,h⟩:=h;rcases Go.Deep.open_slice underlying22 h with⟨b,_⟩|⟨a,len,cap,m,n,D,_,b,_,_,_,k,r,g⟩
 .exact ⟨O,0,0,by cases v<;>simp_all [Value.cells,Value.oneCell'],A,.inl rfl⟩
 simp only[abL] at r;have x:=r.1;have:len<=1048576:=agI;refine⟨J a,len,cap,by cases v<;>simp_all [Value.cells,Value.oneCell'],A,.inr ⟨a,rfl,λi hi=>?_⟩⟩;have b:i<m:=by rw[k];split<;>omega
 obtain⟨_,h1,L⟩:=g i b;rw[Wm] at h1;obtain⟨_,o,f⟩:=adU h1;have q:uptoBulk (D i)<=1048576:=agn;obtain⟨u,p,w,s,t,y,z,rfl,P,b,c⟩:=xW o L q;refine⟨u,p,w,s,t,y,z,P,b,c,λ_ g j e=>?_⟩;have b:=f j e;rw[aby] at b;have c:j<(Ci u p w s t y z).toList.length:=e;rw[Wv c] at b;rw[Ap g b,<-aah,Wv c]
end Go.Proofs.YtfpphfkcaplafaaGreatDoor
namespace Go.Proofs.YtfpphfkcaplafaaGreatDoor
open Go.RowKit Go.Maps Go.Proofs.Tryz
def Kq(P:U->Prop):Ty P DU:=⟨O,0,⟨0,0,O⟩,[],rfl,Ad,(λ_ h=>by cases h),(λh=>by simp at h),λ_ _ _ a=>by simp at a⟩
def fg{P:U->Prop}{x y:M}(c:QN P x)(d:Ty P y)(f:∀a,P a->a.heap[g]? =J (W (ZF x y) e (0,0))):il P ⟨g,0,O⟩ 11:=by
 have b:∀m a,P a->a.cell? ((⟨g,0,O⟩:Addr).add m)=(ZF x y)[m]? :=λm a h=>by rw[we,WQ,Wu a g m _ e (0,0)<|f a h]
 intro i hi
 match i,hi with
 |0,_=>exact⟨1,0,0,⟨#[109,46,120,47,121]⟩,⟨#[118,49,46,50,46,51]⟩,DU,DU,⟨A,A,by show 5<=_;omega,by show 6<=_;omega⟩,Ln P,Kq P,λa h=>LU (b _ a h) (b _ a h) (b _ a h) (b _ a h) (b _ a h) (b _ a h)<|b _ a h⟩
 |1,_=>exact⟨2,0,0,⟨#[97,98,99]⟩,⟨#[]⟩,DU,DU,⟨A,A,by show 3<=_;omega,by show 0<=_;omega⟩,Ln P,Kq P,λa h=>LU (b _ a h) (b _ a h) (b _ a h) (b _ a h) (b _ a h) (b _ a h)<|b _ a h⟩
 |2,_=>exact⟨3,0,0,⟨#[1,2,0,253,255,72,105]⟩,⟨#[]⟩,DU,DU,⟨A,A,by show 7<=_;omega,by show 0<=_;omega⟩,Ln P,Kq P,λa h=>LU (b _ a h) (b _ a h) (b _ a h) (b _ a h) (b _ a h) (b _ a h)<|b _ a h⟩
 |3,_=>exact⟨4,0,0,⟨#[72,105]⟩,⟨#[]⟩,DU,DU,⟨A,A,by show 2<=_;omega,by show 0<=_;omega⟩,Ln P,Kq P,λa h=>LU (b _ a h) (b _ a h) (b _ a h) (b _ a h) (b _ a h) (b _ a h)<|b _ a h⟩
 |4,_=>exact⟨5,0,0,⟨#[]⟩,⟨#[]⟩,x,DU,⟨A,A,by show 0<=_;omega,by show 0<=_;omega⟩,c,Kq P,λa h=>LU (b _ a h) (b _ a h) (b _ a h) (b _ a h) (b _ a h) (b _ a h)<|b _ a h⟩
 |5,_=>exact⟨6,0,0,⟨#[]⟩,⟨#[]⟩,x,DU,⟨A,A,by show 0<=_;omega,by show 0<=_;omega⟩,c,Kq P,λa h=>LU (b _ a h) (b _ a h) (b _ a h) (b _ a h) (b _ a h) (b _ a h)<|b _ a h⟩
 |6,_=>exact⟨7,0,0,⟨#[]⟩,⟨#[]⟩,DU,DU,⟨A,A,by show 0<=_;omega,by show 0<=_;omega⟩,Ln P,Kq P,λa h=>LU (b _ a h) (b _ a h) (b _ a h) (b _ a h) (b _ a h) (b _ a h)<|b _ a h⟩
 |7,_=>exact⟨10,0,0,⟨#[]⟩,⟨#[]⟩,DU,y,⟨A,A,by show 0<=_;omega,by show 0<=_;omega⟩,Ln P,d,λa h=>LU (b _ a h) (b _ a h) (b _ a h) (b _ a h) (b _ a h) (b _ a h)<|b _ a h⟩
 |8,_=>exact⟨11,0,0,⟨#[]⟩,⟨#[]⟩,DU,DU,⟨A,A,by show 0<=_;omega,by show 0<=_;omega⟩,Ln P,Kq P,λa h=>LU (b _ a h) (b _ a h) (b _ a h) (b _ a h) (b _ a h) (b _ a h)<|b _ a h⟩
 |9,_=>exact⟨13,0,0,⟨#[112]⟩,⟨#[]⟩,DU,DU,⟨A,A,by show 1<=_;omega,by show 0<=_;omega⟩,Ln P,Kq P,λa h=>LU (b _ a h) (b _ a h) (b _ a h) (b _ a h) (b _ a h) (b _ a h)<|b _ a h⟩
 |10,_=>exact⟨14,0,0,⟨#[112]⟩,⟨#[]⟩,DU,DU,⟨A,A,by show 1<=_;omega,by show 0<=_;omega⟩,Ln P,Kq P,λa h=>LU (b _ a h) (b _ a h) (b _ a h) (b _ a h) (b _ a h) (b _ a h)<|b _ a h⟩
abbrev qm:E Fl:=[(⟨#[122]⟩,⟨#[49]⟩),(⟨#[97]⟩,⟨#[50]⟩)]
def kZ{b:U}(a:b.heap[g]? =J (W #[G ⟨#[122]⟩,G ⟨#[49]⟩,G ⟨#[97]⟩,G ⟨#[50]⟩] tF (0,0))):Eb b ⟨g,0,O⟩ qm:=by
 refine kV.fls (λi b=>?_) a;have E0:i<2:=b
 match i,E0 with
 |0,_=>exact⟨rfl,rfl⟩
 |1,_=>exact⟨rfl,rfl⟩
def zP(W w:U)(b j:N)(Q:M×M×U):Prop:= ∃(n:N) (S:WS) (RF RL RT:E<|M×Y),n<=3*j/\S.m.size<=1048576/\S.v.size<=1048576/\S.ar.size<=1000000000+100*j/\(S.pd,S.pr,S.z)=Q/\CI W w b n S RF RL RT
def fh(w1 w:U)(b c:N)(S:WS):Prop:= ∃(S':WS) (RF RL RT:E<|M×Y),(∃a:Y,S'.base=({S with ar:=a}:WS).base/\(a=S.ar\/a.size<=40000))/\CI w1 w b c S' RF RL RT
def Wb:Prop:= ∀{w1:U} {b n:N} {S:WS} {RF RL RT:E (M×Y)},n<=99999990->S.m.size<=2000000->S.v.size<=2000000-> ∀(a c:Z) (s t:Y) (x y:M) (w:U),CI w1 w b n S RF RL RT->(∀W,Ag (λk=>k=b) w1 W->Fr W)->QN (λW=>Ag (λk=>k=b) w1 W) x->
 μ F 6 #[V<|J ⟨b,0,O⟩,.agg<|Ci 6 a c s t x y] w λe w'=>e=ε (ζ θ)/\fh w1 w' b (n+1) S
def Tz{S S':WS}(h:S'.base=S.base):S'.m=S.m:=hJ (λx=>x.1) h
def TA{S S':WS}(h:S'.base=S.base):S'.v=S.v:=hJ (λx=>x.2.1) h
def Yb{S S':WS}(h:S'.base=S.base):S'.ar=S.ar:=hJ (λx=>x.2.2.1) h
def fj{S S':WS}(h:S'.base=S.base):(S'.pd,S'.pr,S'.z)=(S.pd,S.pr,S.z):=hJ (λx=>x.2.2.2) h
def qo{S S':WS}(h:S'.base=S.base)(a:Y):({S' with ar:=a}:WS).base=({S with ar:=a}:WS).base:=by
 have b:=Tz h;have c:=TA h;have d:=fj h;show(S'.m,S'.v,a,S'.pd,S'.pr,S'.z)=(S.m,S.v,a,S.pd,S.pr,S.z);rw[b,c,d]
def zQ(h6:Wb){b j:Nat}{Q:M×M×U}(hj:j<=1300000)(k p q:Z)(s t:Y)(x y:M)(w:U)(hk:k<=11)(hb:zN p q s t)(a5:zP w1 w b j Q)(o:∀h,Ag (λk=>k=b) w1 h->Fr h)(hx:QN (λh=>Ag (λk=>k=b) w1 h) x)(hy:Ty (λh=>Ag (λk=>k=b) w1 h) y):
 μ F 6 #[V<|J ⟨b,0,O⟩,.agg<|Ci k p q s t x y] w λe w'=>e=ε (ζ θ)/\zP w1 w' b (j+1) Q:=by
 obtain⟨n,S,r,u,D,_,hm,hv,_,hQ,h⟩:=a5;obtain⟨⟨_,_⟩,⟨L,P⟩,_,_⟩:=hb;obtain⟨fo,fc,fa,fs,R,T,a0,a1,a2⟩:=hy;have hg:=o w h.only;have l:∀{w':U} {c:Nat} {S':WS} {r u D:E (M×Y)},c<=n+3->S'.base=S.base->CI w1 w' b c S' r u D->zP w1 w' b (j+1) Q:=λ_ a d =>⟨_,_,_,_,_,A,by rw[Tz a];exact hm,by rw[TA a];exact hv,by rw[Yb a];omega,(fj a).trans hQ,d⟩
 have g:∀{w':U} {N:Nat},N<=1000000000+100*(j+1)->bu w1 w' b n S r u D N->zP w1 w' b (j+1) Q:=λ_ hz=>by
  obtain⟨z,_,a5⟩:=hz;exact⟨n,{S with ar:=z},r,u,D,A,hm,hv,by show z.size<=_;omega,hQ,a5⟩
 by_cases a6:k=11
 .subst a6;apply(Ya A A A p q s t x y w h o).mono;exact ahn
 by_cases a7:k=10
 .subst a7;apply(kY A A A p q s t x y w h o fo fc fa fs T a0 a1 a2 R).mono;exact ahn
 by_cases e9:k=9
 .subst e9;apply(fd A A p q s t x y w h L P fo fc fa fs T a0 a1 a2 R).mono;exact akj
 by_cases e8:k=8
 .subst e8;apply(bA A p q s t x y w h L P A).mono;exact akj
 by_cases e7:k=7
 .subst e7;apply(bz A A A A p q s t x y w h o A).mono;exact ahn
 by_cases e6:k=6
 .subst e6;apply(h6 A A A p q s t x y w h o hx).mono;rintro e w' ⟨rfl,S',f,a3,a4,⟨az,a,ha'⟩,d⟩;refine⟨rfl,n+1,S',f,a3,a4,A,by rw[Tz a];exact hm,by rw[TA a];exact hv,?_,(fj a).trans hQ,d⟩;have L:S'.ar=az:=Yb a;rw[L];rcases ha' with ha' |ha'
  .rw[ha'];omega
  omega
 by_cases e5:k=5
 .subst e5;obtain⟨T,R,L,P⟩:=hx;apply(eA A p q s t x y w h T R L (λi L=>(o i L).2) P).mono;rintro e w' ⟨rfl,S',f,a3,a4,d,a⟩;exact⟨rfl,l A a d⟩
 by_cases e1:k=1
 .subst e1;apply(ki p q s t x y w h).mono;rintro e w' ⟨rfl,S',d,rfl⟩;exact⟨rfl,n,{S with m:=s,v:=t},r,u,D,A,by show s.size<=_;omega,by show t.size<=_;omega,by show S.ar.size<=_;omega,hQ,d⟩
 have i:∀e w',e=Ending.returned (ζ θ)/\Am w w'->e=ε (ζ θ)/\zP w1 w' b (j+1) Q:=λe w' ⟨o,ho⟩=>⟨o,l A rfl<|h.old ho⟩
 by_cases e4:k=4
 .subst e4;exact(ey p q s t A x y b w).mono i
 by_cases e3:k=3
 .subst e3;exact(ah p q s t A x y b w hg.1.2).mono i
 by_cases e2:k=2
 .subst e2;exact(kh p q s t A x y b w hg.1.1).mono i
 exact(ke k p q A s t x y b w).mono i
def VF(b cap:N)(T:E BF)(d:∀e∈T,e.nm.size<=2000000)(w:U)(g:Cf w)(i:FM w b T)(c:b<w.heap.size):
 μ F 74 #[K (J ⟨b,0,O⟩) T.length cap] w λr w'=>Am w w'/\Rk T w w' r:=by
 by_cases a:T.length<=200
 .rcases XF T T.length (WF _) with h|⟨m,h1,h2,h3,h4⟩
  .have f:sb T:=h;apply(oh b cap T a d f (SL f).dif w g i c).mono;exact air
  apply(oq b cap T a d m _ h1 h2 h3 rfl h4 w g i c).mono;exact aiF
 apply(UX b cap T.length A w).mono;exact akc
def OO(w:U):μ F 74 #[K O 0 0] w λr w'=>Am w w'/\Rk [] w w' r:=by
 apply(ZQ w).mono;exact aiP
def TB{u v' a:M}{k k':Z}(h:Ending.returned (η #[v,u,I Q k])=ε (η #[v',a,I Q k'])):v=v'/\u=a /\k=k':=akb
def Au.inj{a c:E Fl}(h:Au w v a)(i:Au w v c):a=c:=by
 have j:a.length=c.length:=by
  obtain⟨_,k,g⟩:=Dk h;obtain⟨_,l,e⟩:=Dk i;rw[g] at e;injection e
 by_cases h0:0<a.length
 .obtain ⟨_,k,g, -,m⟩:=h.slice h0;obtain⟨_,l,e, -,n⟩:=i.slice A;rw[g] at e;injection e with f;injection f with f;injection f with f;subst f;refine List.ext_getElem j λi e f=>?_;obtain⟨g,h⟩:=m i e;obtain⟨b,d⟩:=n i f;rw[g] at b;rw[h] at d;rw[Wq,Wv e,Wq,Wv f] at b d;injection b with b;injection b with b;injection d with d;injection d with d;exact Prod.ext b d
 rw[wP (show a.length=0 by omega),wP (show c.length=0 by omega)]
def zU(T:E BF)(k:N)(fs:E Fl):Prop:= ∀(w w':U) (r:Ending),Rk T w w' r-> ∃v u,r=ε (η #[v,u,I Q (k:Z)])/\Au w' v fs
def Rk.chp{T:E BF}{w':U}{r:Ending}(h:Rk T w w' r):∃k a v u,zU T k a/\r=ε (η #[v,u,I Q (k:Z)])/\Au w' v a/\a.length<=60:=by
 obtain⟨k,a,_,i,j,_,_,e, -,f, -, -, -,b, -⟩:=h.same h;refine⟨k,a,i,j,λ_ _ _ a=>?_,e,f,b⟩;obtain⟨l,_,_,_,_,m,n,g,o,p,q, -⟩:=h.same a;rw[e] at g;obtain⟨rfl,rfl,_⟩:=TB g;have c:k=l :=A;subst c;have d:=Au.inj f p;subst d;exact⟨m,n,o,q⟩
