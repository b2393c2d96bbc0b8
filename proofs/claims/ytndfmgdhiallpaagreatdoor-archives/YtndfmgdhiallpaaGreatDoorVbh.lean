import Derived.Test.YtndfmgdhiallpaaGreatDoorVbe
import Derived.Test.YtndfmgdhiallpaaGreatDoorVbg
set_option linter.all false
set_option maxRecDepth 100000
set_option maxHeartbeats 8000000
open _root_ renaming Option.some->J,Option.none->O,Int->Z,Nat->N,Go.Value.int->I,Go.Value.string->G,Go.IntKind.i64->Q,ByteArray->Y,List->E,Go.World->U,Go.Value.slice->K,Go.Value->β,Go.Obj.cells->γ,Go.Value.pointer->δ,Go.Ending.returned->ε,Array->φ,Go.RowKit.Hid->χ
namespace Go.Proofs.YtndfmgdhiallpaaGreatDoor
open Go.RowKit Go.Maps Go.Proofs.Tryz
def SR(s:Y)(ck:N):Y×N:=if Bz s=ck then(s,0) else(⟨#[]⟩,8)
def Vj(x:CQ):Y×N:=if x.way=0/\x.pk≠x.ln then(⟨#[]⟩,7) else if x.way=8 then(if(Az x.sp).2.2=0/\(Az x.sp).2.1=x.sp.size/\(Az x.sp).1.size=x.ln then SR (Az x.sp).1 x.ck else(⟨#[]⟩,2)) else SR x.sp x.ck
def bU(nm:Y)(way ck pk ln:N)(sp:Y)(p:sp.size<=100000000)(q:way=0\/way=8)(o:ln<=4294967296)(w:U):Calls prog 214 #[.agg #[G nm,I Q (way:Z),I Q (ck:Z),I Q (pk:Z),I Q (ln:Z),G sp]] w λr w' =>r=ε (.tuple #[G (Vj ⟨nm,way,ck,pk,ln,sp⟩).1,I Q ((Vj ⟨nm,way,ck,pk,ln,sp⟩).2:Z)])/\Al w w' :=by
 obtain⟨c,b⟩: ∃c,Vj ⟨nm,way,ck,pk,ln,sp⟩=c:=⟨_,rfl⟩;rw[b];rcases q with rfl|rfl
 .by_cases e:pk=ln
  .subst e;have HCASE:SR sp ck=c:=by rw[<-b,Vj,rc (λh=>h.2 rfl),rc Ad]
   clear b;have f:((pk:Z) !=(pk:Z))=false:=Ad;obtain⟨a1,a⟩: ∃a1,c=a1:=⟨_,rfl⟩;rw[a];have HANS:=Af a.symm;clear a;have HCK:=Af (λW=>Fb sp W (by unfold maxLen;omega));have HGOOD:χ (Bz sp=ck->c=(sp,0)):=λh=>by rw[<-HCASE,SR,rd h]
   have HBADC:χ (Bz sp≠ck->c=(⟨#[]⟩,8)):=λh=>by rw[<-HCASE,SR,rc h]
   clear HCASE;generalize Bz sp=cs at*;have hbx:=rh w (γ #[G nm,I Q 0,I Q (ck:Z),I Q (pk:Z),I Q (pk:Z),G sp] 172);have HA:χ (Al w (w.alloc (γ #[G nm,I Q 0,I Q (ck:Z),I Q (pk:Z),I Q (pk:Z),G sp] 172))):=(Ag.refl _ w).alloc _;have hc: ∀j u,(#[G nm,I Q 0,I Q (ck:Z),I Q (pk:Z),I Q (pk:Z),G sp]:φ β)[j]? =J u->(w.alloc (γ #[G nm,I Q 0,I Q (ck:Z),I Q (pk:Z),I Q (pk:Z),G sp] 172)).cell? ⟨w.heap.size,j,O⟩=J u:=λj u h=>by rw[qV _ _ j _ _ (0,0) hbx];exact h
   have d1:=hc 1 _ rfl;have d2:=hc 2 _ rfl;have d3:=hc 3 _ rfl;have d4:=hc 4 _ rfl;have d5:=hc 5 _ rfl;clear hc hbx;go_in;go_wp2_with fail;generalize w.alloc (γ #[G nm,I Q 0,I Q (ck:Z),I Q (pk:Z),I Q (pk:Z),G sp] 172)=W0 at*;have HOX:=HA;refine Ai (S:=λW=>W.cell? ⟨w.heap.size,2,O⟩=J (I Q (ck:Z))) (L:=5) Ab ?_;have hsw:W0.drew.cell? ⟨w.heap.size,2,O⟩=J (I Q (ck:Z)):=d2;refine tk 0 6 (G sp) 52 hsw ?_;exact zq
  have f:((pk:Z) !=(ln:Z))=true:=by rw[rS];omega
  have hans:c=(⟨#[]⟩,7):=by rw[<-b,Vj,rd ⟨rfl,e⟩]
  rw[hans];clear hans b;have hbx:=rh w (γ #[G nm,I Q 0,I Q (ck:Z),I Q (pk:Z),I Q (ln:Z),G sp] 172);have HA:χ (Al w (w.alloc (γ #[G nm,I Q 0,I Q (ck:Z),I Q (pk:Z),I Q (ln:Z),G sp] 172))):=(Ag.refl _ w).alloc _;have hc: ∀j u,(#[G nm,I Q 0,I Q (ck:Z),I Q (pk:Z),I Q (ln:Z),G sp]:φ β)[j]? =J u->(w.alloc (γ #[G nm,I Q 0,I Q (ck:Z),I Q (pk:Z),I Q (ln:Z),G sp] 172)).cell? ⟨w.heap.size,j,O⟩=J u:=λj u h=>by rw[qV _ _ j _ _ (0,0) hbx];exact h
  have d1:=hc 1 _ rfl;have d2:=hc 2 _ rfl;have d3:=hc 3 _ rfl;have d4:=hc 4 _ rfl;have d5:=hc 5 _ rfl;clear hc hbx;go_in;go_wp2;go_ret2;exact⟨rfl,HA⟩
 have HCASE:(if(Az sp).2.2=0/\(Az sp).2.1=sp.size/\(Az sp).1.size=ln then SR (Az sp).1 ck else(⟨#[]⟩,2))=c:=by exact Eq.trans (Eq.symm ((rc (λh=>absurd h.1 (show ¬(8:N)=0 by decide))).trans (rd rfl))) b
 clear b;obtain⟨a1,a⟩: ∃a1,c=a1:=⟨_,rfl⟩;rw[a];have HANS:=Af a.symm;clear a;have HINF:=Af (λW=>GK sp Aa W);generalize Az sp=res at*;obtain⟨z,m,k⟩:=res;simp only at*;by_cases l:k=0
 .subst l;by_cases g2:m=sp.size
  .subst g2;by_cases g:z.size=ln
   .have d:((z.size:Z) !=(ln:Z))=false:=(by rw[g];simp);rw[rd ⟨rfl,rfl,g⟩] at HCASE;have HCK:=Af (λW=>Fb z W (by unfold maxLen;omega));have HGOOD:χ (Bz z=ck->c=(z,0)):=λh=>by rw[<-HCASE,SR,rd h]
    have HBADC:χ (Bz z≠ck->c=(⟨#[]⟩,8)):=λh=>by rw[<-HCASE,SR,rc h]
    clear HCASE;generalize Bz z=cs at*;clear g;have hbx:=rh w (γ #[G nm,I Q 8,I Q (ck:Z),I Q (pk:Z),I Q (ln:Z),G sp] 172);have HA:χ (Al w (w.alloc (γ #[G nm,I Q 8,I Q (ck:Z),I Q (pk:Z),I Q (ln:Z),G sp] 172))):=(Ag.refl _ w).alloc _;have hc: ∀j u,(#[G nm,I Q 8,I Q (ck:Z),I Q (pk:Z),I Q (ln:Z),G sp]:φ β)[j]? =J u->(w.alloc (γ #[G nm,I Q 8,I Q (ck:Z),I Q (pk:Z),I Q (ln:Z),G sp] 172)).cell? ⟨w.heap.size,j,O⟩=J u:=λj u h=>by rw[qV _ _ j _ _ (0,0) hbx];exact h
    have d1:=hc 1 _ rfl;have d2:=hc 2 _ rfl;have d3:=hc 3 _ rfl;have d4:=hc 4 _ rfl;have d5:=hc 5 _ rfl;clear hc hbx;go_in;go_wp2_with fail;generalize w.alloc (γ #[G nm,I Q 8,I Q (ck:Z),I Q (pk:Z),I Q (ln:Z),G sp] 172)=W0 at*;refine(HINF _).mono ?_;rintro r w1 ⟨rfl,ho1⟩;have HOX:=Af (HA.trans ho1);have n:=Ao ho1 d2;have e4:=Ao ho1 d4;have e5:=Ao ho1 d5;clear d1 d2 d3 d4 d5 ho1 HINF;go_wp2_with fail;have d2:=n;refine Ai (S:=λW=>W.cell? ⟨w.heap.size,2,O⟩=J (I Q (ck:Z))) (L:=5) Ab ?_;have hsw:w1.drew.cell? ⟨w.heap.size,2,O⟩=J (I Q (ck:Z)):=d2;refine tk 0 6 (G z) 52 hsw ?_;exact zq
   have d:((z.size:Z) !=(ln:Z))=true:=by rw[rS];omega
   rw[rc (λh=>g h.2.2)] at HCASE;exact yW
  have d:((m:Z) !=(sp.size:Z))=true:=by rw[rS];omega
  rw[rc (λh=>g2 h.2.1)] at HCASE;exact yW
 have d:((k:Z) !=0)=true:=by rw[rS];omega
 rw[rc (λh=>l h.1)] at HCASE;exact yW
abbrev Kg(acc:E CQ):Y:=(acc.getD (acc.length- 1) Cu).nm
def Qu(s p:Y)(n a:N)(acc:E CQ):Option (CQ×N):=
 if n<a+46 then O else
 if n<a+46+vS s (a+28) 2 0 then O else
 if n<vS s (a+42) 4 0+30+vS s (a+28) 2 0+vS s (a+20) 4 0 then O else
 if vS s (a+10) 2 0≠0/\vS s (a+10) 2 0≠8 then O else
 if Gq (s.extract (a+46) (a+46+vS s (a+28) 2 0)) p=false then O else
 if 0<acc.length/\¬(Kg acc).data.toList<(s.extract (a+46) (a+46+vS s (a+28) 2 0)).data.toList then O else
 J (⟨s.extract (a+46) (a+46+vS s (a+28) 2 0),vS s (a+10) 2 0,vS s (a+16) 4 0,vS s (a+20) 4 0,vS s (a+24) 4 0,s.extract (vS s (a+42) 4 0+30+vS s (a+28) 2 0) (vS s (a+42) 4 0+30+vS s (a+28) 2 0+vS s (a+20) 4 0)⟩,a+46+vS s (a+28) 2 0)
def Fi(s p:Y)(n:N):N->N->E CQ->Option (E CQ)
 |0,_,acc=>J acc
 |m+1,a,acc=>match Qu s p n a acc with
  |none=>O
  |some (x,b)=>Fi s p n m b (acc++[x])
def EK(s p:Y):Option (E CQ):=
 if s.size<22 then O else
 if 60<vS s (s.size- 22+8) 2 0 then O else
 if s.size- 22<vS s (s.size- 22+16) 4 0 then O else
 match Fi s p (s.size- 22) (vS s (s.size- 22+8) 2 0) (vS s (s.size- 22+16) 4 0) [] with
 |none=>O
 |some l=>if Bp l=s then J l else O
def DS(x:CQ):E β:=[G x.nm,I Q (x.way:Z),I Q (x.ck:Z),I Q (x.pk:Z),I Q (x.ln:Z),G x.sp]
def BX(its:E CQ):E β:=its.flatMap DS
def SS(its:E CQ):(BX its).length=its.length*6:=by
 induction its with
 |nil=>rfl
 |cons a r ih=>simp only[BX,tc,qU,sB] at*;rw[ih];simp[DS];omega
def ST(a b:E CQ):BX (a++b)=BX a++BX b:=by simp[BX]
def SU(a:CQ):BX [a]=DS a:=by simp[BX]
def kI(its:E CQ): ∀u∈BX its,u.oneCell' =true:=by
 intro u a;obtain⟨f,_,h⟩:=xC.1 a;simp[DS] at h;rcases h with rfl|rfl|rfl|rfl|rfl|rfl<;>rfl
def SV(its:E CQ)(j c:N)(d:j<its.length)(e:c<6):(BX its)[j*6+c]? =(DS (its.getD j Cu))[c]? :=by
 induction its generalizing j with
 |nil=>simp at d
 |cons a r ih=>
  have b:(DS a).length=6:=rfl;cases j with
  |zero=>rw[show BX (a::r)=DS a++BX r by simp[BX],rM (by rw[b];omega)];simp
  |succ j=>
   rw[show BX (a::r)=DS a++BX r by simp[BX],rE (by rw[b];omega),b,show(j+1)*6+c- 6=j*6+c by omega,ih j (by simpa using d)]
   rfl
def kJ:(prog.info? 172).map (λi=>(i.zero,i.size,i.bytes))=J (J (.agg #[G ⟨#[]⟩,I Q 0,I Q 0,I Q 0,I Q 0,G ⟨#[]⟩]),6,64):=Ab
def Qe(W w:U)(v:β)(its:E CQ):Prop:=w.ownsRow 0 172 6 v its.length (BX its)/\(∀b,v.ownBlock=J b->W.heap.size<=b)/\Al W w
def Qe.start{W w:U}(h:Al W w):Qe W w (K O 0 0) []:=⟨rF _ _ _ _,λb e=>(by cases e),h⟩
def Qe.old{W w w' :U}{v:β}{its:E CQ}(h:Qe W w v its)(a:Al w w'):Qe W w' v its:=⟨QV h.1 a (λ_ _ x=>x),h.2.1,h.2.2.trans a⟩
def Qe.form{W w:U}{v:β}{its:E CQ}(h:Qe W w v its): ∃ao cap,v=K ao its.length cap:=Cr h.1
def Qe.slice{W w:U}{v:β}{its:E CQ}(h:Qe W w v its)(l:0<its.length): ∃g cap,v=K (J ⟨g,0,O⟩) its.length cap/\W.heap.size<=g/\g<w.heap.size/\Nc w g its:=by
 obtain⟨⟨f,⟨rfl,h0⟩|⟨g,cap,d,rfl,j⟩⟩,k,n⟩:=h
 .omega
 have e:=ur (w:=w) (show w.ownsRow 0 172 6 (K (J ⟨g,0,O⟩) its.length cap) its.length (BX its) from⟨f,.inr ⟨g,cap,d,rfl,j⟩⟩) (g:=g) rfl;have a: ∀i,i<its.length-> ∀c,c<6-> ∀u,(DS (its.getD i Cu))[c]? =J u->w.cell? ⟨g,i*6+c,O⟩=J u:=by
  intro i b c a u m;have:=e (i*6+c) u (by rw[SV its i c b a];exact m);exact aag
 refine⟨g,cap,rfl,k g rfl,Br (a 0 l 0 Aa _ rfl),λi b=>⟨a i b 0 Aa _ rfl,a i b 1 Aa _ rfl,a i b 2 Aa _ rfl,a i b 3 Aa _ rfl,a i b 4 Aa _ rfl,a i b 5 Aa _ rfl⟩⟩
def Ef{W w:U}{v:β}{its:E CQ}{x:CQ}(h:Qe W w v its)(a:Addr)(n: ∀j u,(DS x)[j]? =J u->w.cell? (a.add j)=J u)(p:its.length<=1000)(i:TypeId):
 ∃v' w',(Builtin.append_ #[167,167] i #[v,K (J a) 1 1]).run prog w=.ok v' w' /\Qe W w' v' (its++[x])/\Ag (λk=>v.ownBlock=J k) w w' :=by
 obtain⟨o,c,d,f,g⟩:=rN kJ;obtain⟨v',w',m,l,hg,_,hb⟩:=run_append_own_at (P:=prog) w 0 167 i 172 o (.agg #[G ⟨#[]⟩,I Q 0,I Q 0,I Q 0,I Q 0,G ⟨#[]⟩]) 6 64 underlying167 c d f g rfl Aa v _ _ h.1 a 1 1 (BX [x]) (SS [x]) (by rw[SU];exact n) (kI [x]) (by unfold maxLen;omega) Aa Aa;refine⟨v',w',m,⟨?_,λb hv=> ?_, ?_⟩,(Ag.refl _ w).grown hg (λk _ e=>e)⟩
 .rw[qU,ST];exact l
 .exact wM
 exact aaS
def AX{ops:φ Oper}{rest:E Oper}{o:Oper}{a:Act}{Q:Exit->Act->U->Prop}{W w:U}(c:o.guard=O)(s x:Operand)
 (l:o.op=.call {callee:=.builtin .append,args:= #[s,x],argTypes:= #[167,167]})(v:β)(b:Addr)(its:E CQ)(e:CQ)(n:a.eval s=v)(p:a.eval x=K (J b) 1 1)(h:Qe W w v its)(d: ∀j u,(DS e)[j]? =J u->w.cell? (b.add j)=J u)(i:its.length<=1000)
 (k: ∀v' w',Qe W w' v' (its++[e])->Ag (λk=>v.ownBlock=J k) w w' ->wpList prog ops Q rest (a.put o.dst v') w'):wpList prog ops Q (o::rest) a w:=by
 obtain⟨v',w',m,f,g⟩:=Ef h b d i o.type;exact Lib.wpList_append_run w c s x _ _ l v _ n p v' w' m (k v' w' f g)
def Qe.any{W w:U}{v:β}{its:E CQ}(h:Qe W w v its): ∃ao g cap,v=K ao its.length cap/\(0<its.length->ao=J ⟨g,0,O⟩)/\(0<its.length->Nc w g its):=by
 by_cases h0:0<its.length
 .obtain ⟨g,cap,rfl, -, -,a⟩:=h.slice h0;exact⟨_,g,cap,rfl,λ_=>rfl,λ_=>a⟩
 obtain⟨ao,cap,rfl⟩:=h.form;exact⟨ao,0,cap,rfl,Aa,Aa⟩
def bV(w w' :U)(r:Ending):Option (E CQ)->Prop
 |none=> ∃v,r=ε (.tuple #[v,.bool false])
 |some its=> ∃v,r=ε (.tuple #[v,.bool true])/\Qe w w' v its
structure iJ (s p:Y) (n many a0:N) (i a:N) (its:E CQ):Prop where
 go:Fi s p n many a0 []=Fi s p n (many- i) a its
 i_le:i<=many
 a_le:a<=n
 len:its.length=i
def iJ.fail{s p:Y}{n many b i a:N}{its:E CQ}(h:iJ s p n many b i a its)(d:i<many)(c:Qu s p n a its=O):Fi s p n many b []=none:=by
 rw[h.go,show many- i=(many- i- 1)+1 by omega,Fi,c]
def iJ.next{s p:Y}{n many c i a:N}{its:E CQ}(h:iJ s p n many c i a its)(f:i<many){x:CQ}{b:N}(e:Qu s p n a its=J (x,b))(d:b<=n):iJ s p n many c (i+1) b (its++[x]):=by
 refine⟨?_,Aa,d,by rw[qU,h.len];rfl⟩;rw[h.go,show many- i=(many- (i+1))+1 by omega,Fi,e]
def iJ.done{s p:Y}{n many b i a:N}{its:E CQ}(h:iJ s p n many b i a its)(c:¬i<many):Fi s p n many b []=J its:=by
 rw[h.go,show many- i=0 by omega,Fi]
def Vl(s:Y)(a many:N)(x y:Z)(e:x=(a:Z))(f:y=(many:Z))(d:s.size<=100000000)(c:many<=4)(b:a+many<=s.size)(w:U):Calls prog 297 #[G s,I Q x,I Q y] w λr w' =>r=ε (I Q (vS s a many 0:Z))/\w' =w:=by
 subst e f;exact nP s a many d c b w
def nS(s p:Y)(hs:s.size<=40000)(w:U):Calls prog 212 #[G s,G p] w λr w' =>Al w w' /\bV w w' r (EK s p):=by
 by_cases d:s.size<22
 .have HA:χ (EK s p=O):=by unfold χ;rw[EK,rd d]
  have a2:((s.size:Z)- 22<0)=True:=by simp;omega
  clear d;go_in;go_wp2;go_ret2;exact⟨Ag.refl _ _,by rw[uh HA];exact⟨_,rfl⟩⟩
 obtain⟨n,hn⟩: ∃n,s.size- 22=n:=⟨_,rfl⟩;have a2:(s.size:Z)- 22=(n:Z):=Aa;have c0:n<=40000:=Aa;have c1:s.size=n+22:=Aa;have b9:¬((n:Z)<0):=Aa;have HV1:=Af (λW=>Vl s (n+8) 2 ((n:Z)+8) 2 Aa rfl Aa Aa Aa W);have HV2:=Af (λW=>Vl s (n+16) 4 ((n:Z)+16) 4 Aa rfl Aa Aa Aa W);have HIT:χ (EK s p=if 60<vS s (n+8) 2 0 then O else if n<vS s (n+16) 4 0 then O else match Fi s p n (vS s (n+8) 2 0) (vS s (n+16) 4 0) [] with
  |none=>O
  |some l=>if Bp l=s then J l else O):=by unfold χ;rw[EK,rc d,hn]<;>rfl
 have b1:vS s (n+8) 2 0<65536:=GX s (n+8) 2 0;have b2:vS s (n+16) 4 0<4294967296:=GX s (n+16) 4 0;generalize vS s (n+8) 2 0=many at*;generalize vS s (n+16) 4 0=a0 at*;clear d hn;by_cases B:60<many
 .have a1:(60:Z)<(many:Z):=Aa;have HA:χ (EK s p=O):=by unfold χ;rw[uh HIT,rd B]
  exact Wa
 have a1:¬(60:Z)<(many:Z):=Aa;by_cases ha:n<a0
 .have T:(n:Z)<(a0:Z):=Aa;have HA:χ (EK s p=O):=by unfold χ;rw[uh HIT,rc B,rd ha]
  exact Wa
 have T:¬(n:Z)<(a0:Z):=Aa;have HIT:χ (EK s p=match Fi s p n many a0 [] with
  |none=>O
  |some l=>if Bp l=s then J l else O):=by unfold χ;rw[uh HIT,rc B,rc ha]
 have t:χ (iJ s p n many a0 0 a0 []):=⟨rfl,Aa,Aa,rfl⟩;clear B;go_in;go_wp2_with fail;refine(HV1 _).mono ?_;rintro r w1 ⟨rfl,rfl⟩;go_wp2_with fail;refine(HV2 _).mono ?_;rintro r w2 ⟨rfl,rfl⟩;go_wp2_with fail;clear HV1 HV2;go_loopw [8,9,10,11,12,13] (λxa v xi _ _ _ wr=> ∃(i a:N) (its:E CQ),xa=I Q (a:Z)/\xi=I Q (i:Z)/\χ (iJ s p n many a0 i a its)/\χ (Qe w2 wr v its)/\χ (∀x∈its,x.ok)) (λ_ _ xi _ _ _ _=>many- (intOf xi).toNat)
 .exact ⟨0,a0,[],rfl,rfl,t,Qe.start (Ag.refl _ _),λx f=>by cases f⟩
 clear t;obtain⟨i,a,its,rfl,rfl,m,HN,C⟩:=hrel;obtain⟨ao,cap,a3⟩:=HN.form;subst a3;have b7:=m.i_le;have b6:=m.a_le;have a6:its.length<=60:=by have:=m.len;omega
 by_cases q:i<many
 .have z:(i:Z)<(many:Z):=Aa;have HFAIL:χ (Qu s p n a its=O->EK s p=O):=λh=>by rw[uh HIT,(uh m).fail q h]
  have HNEXT:χ (∀x b,Qu s p n a its=J (x,b)->b<=n->iJ s p n many a0 (i+1) b (its++[x])):=λx b h hb=>m.next q h hb
  by_cases o:n<a+46
  .have u:(n:Z)<(a:Z)+46:=Aa;have HR:=Af (HFAIL (by rw[Qu,rd o]));clear o HFAIL HNEXT;go_wp2;go_ret2;exact⟨HN.2.2,by rw[uh HR];exact⟨_,rfl⟩⟩
  have u:¬(n:Z)<(a:Z)+46:=Aa;have Vway:=Af (λW=>Vl s (a+10) 2 ((a:Z)+10) 2 Aa rfl Aa Aa Aa W);have a5:vS s (a+10) 2 0<65536:=GX s (a+10) 2 0;have Vck:=Af (λW=>Vl s (a+16) 4 ((a:Z)+16) 4 Aa rfl Aa Aa Aa W);have a8:vS s (a+16) 4 0<4294967296:=GX s (a+16) 4 0;have Vpk:=Af (λW=>Vl s (a+20) 4 ((a:Z)+20) 4 Aa rfl Aa Aa Aa W);have b3:vS s (a+20) 4 0<4294967296:=GX s (a+20) 4 0;have Vln:=Af (λW=>Vl s (a+24) 4 ((a:Z)+24) 4 Aa rfl Aa Aa Aa W);have b0:vS s (a+24) 4 0<4294967296:=GX s (a+24) 4 0;have Vk:=Af (λW=>Vl s (a+28) 2 ((a:Z)+28) 2 Aa rfl Aa Aa Aa W);have bk:vS s (a+28) 2 0<65536:=GX s (a+28) 2 0;have Vfr:=Af (λW=>Vl s (a+42) 4 ((a:Z)+42) 4 Aa rfl Aa Aa Aa W);have a9:vS s (a+42) 4 0<4294967296:=GX s (a+42) 4 0;have HITN:Qu s p n a its=_:=rfl
  conv at HITN=>rhs;unfold Qu;rw[rc o]
  generalize vS s (a+10) 2 0=way at*;generalize vS s (a+16) 4 0=ck at*;generalize vS s (a+20) 4 0=pk at*;generalize vS s (a+24) 4 0=ln at*;generalize vS s (a+28) 2 0=k at*;generalize vS s (a+42) 4 0=fr at*;by_cases D:n<a+46+k
  .have F:(n:Z)<(a:Z)+46+(k:Z):=Aa;have HR:=Af (HFAIL (by rw[HITN,rd D]));exact zk
  have F:¬(n:Z)<(a:Z)+46+(k:Z):=Aa;rw[rc D] at HITN;by_cases H:n<fr+30+k+pk
  .have M:(n:Z)<(fr:Z)+30+(k:Z)+(pk:Z):=Aa;have HR:=Af (HFAIL (by rw[HITN,rd H]));exact zk
  have M:¬(n:Z)<(fr:Z)+30+(k:Z)+(pk:Z):=Aa;rw[rc H] at HITN;by_cases R:way≠0/\way≠8
  .have b4:((way:Z) !=0)=true:=by rw[rS];omega
   have b5:((way:Z) !=8)=true:=by rw[rS];omega
   have HR:=Af (HFAIL (by rw[HITN,rd R]));exact zk
  rw[rc R] at HITN;have hway:way=0\/way=8:=Aa;have hz:(s.extract (a+46) (a+46+k)).size=k:=by rw[rv];omega
  have hsl: ∀W,(Instr.slice 9 (G s) (J (I Q ((a:Z)+46))) (J (I Q ((a:Z)+46+(k:Z)))) O).run prog W=.ok (G (s.extract (a+46) (a+46+k))) W:=λW=>by
   have h:=uy (P:=prog) W 9 s Q Q ((a:Z)+46) ((a:Z)+46+(k:Z)) underlying9 Aa Aa Aa;rw[h,show((a:Z)+46).toNat=a+46 by omega,show((a:Z)+46+(k:Z)).toNat=a+46+k by omega]
  have a7: ∀W,(Instr.slice 9 (G s) (J (I Q ((fr:Z)+30+(k:Z)))) (J (I Q ((fr:Z)+30+(k:Z)+(pk:Z)))) O).run prog W=.ok (G (s.extract (fr+30+k) (fr+30+k+pk))) W:=λW=>by
   have h:=uy (P:=prog) W 9 s Q Q ((fr:Z)+30+(k:Z)) ((fr:Z)+30+(k:Z)+(pk:Z)) underlying9 Aa Aa Aa;rw[h,show((fr:Z)+30+(k:Z)).toNat=fr+30+k by omega,show((fr:Z)+30+(k:Z)+(pk:Z)).toNat=fr+30+k+pk by omega]
  have c3:(s.extract (fr+30+k) (fr+30+k+pk)).size=pk:=by rw[rv];omega
  generalize s.extract (a+46) (a+46+k)=nm at*;generalize s.extract (fr+30+k) (fr+30+k+pk)=sp at*;have HITN:=Af HITN;have HXK:χ (∀x∈its++[(⟨nm,way,ck,pk,ln,sp⟩:CQ)],x.ok):=λx f=>by
   rcases rR.1 f with f|f
   .exact C x f
   rw[rC] at f;subst f;exact⟨by show nm.size<=_;omega,by show way<=_;omega,by show ck<=_;omega,by show pk<=_;omega,by show ln<=_;omega,by show sp.size<=_;omega⟩
  have HBG:=Af (λW=>SJ nm p W);clear D H R C;rcases hway with hway|hway
  .have a4:((way:Z) !=0)=false:=by rw[hway];rfl
   exact yM
  have a4:((way:Z) !=0)=true:=by rw[hway];rfl
  have c2:((way:Z) !=8)=false:=by rw[hway];rfl
  exact yM
 have z:¬(i:Z)<(many:Z):=Aa;have HG:=Af (m.done q);obtain⟨ao2,g,cap2,hve,y,hits⟩:=HN.any;injection hve with hve1 hve2 hve3;subst hve1 hve3;have HJ:=Af (Di ao g cap its y Aa (uh C) wr (by
  by_cases h0:0<its.length
  .exact hits h0
  intro i hi;omega))
 have f1:=Qd (Bp its) s;have c:χ (EK s p=if Bp its=s then J its else O):=by unfold χ;rw[uh HIT,uh HG]
 clear HIT HG m y hits hve2;generalize Bp its=jr at*;go_wp2_with fail;refine HJ.mono ?_;rintro r w6 ⟨rfl,A⟩;have j:=Af (HN.old A);clear HJ A HN;by_cases he:jr=s
 .rw[qZ he] at f1;have HA:=Af (c.trans (rd he));clear he c;go_wp2;go_ret2;exact⟨j.2.2,by rw[uh HA];exact⟨_,rfl,j⟩⟩
 rw[qX he] at f1;have HA:=Af (c.trans (rc he));clear he c;go_wp2;go_ret2;exact⟨j.2.2,by rw[uh HA];exact⟨_,rfl⟩⟩
def JI(p:Y)(it:It):CQ:=⟨p++it.name,it.way,it.check,it.packed.size,it.size,it.packed⟩
def gN(p:Y)(a:It):Ke (p++a.name) a.way a.check a.packed.size a.size++a.packed=An (Bg p a):=by
 conv=>lhs;rhs;rw[<-Ku a.packed]
 rw[Ke,AD];congr 1;unfold Bg Dn AF;simp only[tc,vI,sI,rm,rg]
def Ys(p:Y)(b:It)(a:N):Mg (p++b.name) b.way b.check b.packed.size b.size a=An (Bt p b a):=by
 rw[Mg];congr 1;unfold Bt Dn AF;simp only[tc,vI,sI,rm,rg]
def Kh(p:Y)(its:E It)(i:N)(h:i<its.length):(its.map (JI p)).getD i Cu=JI p (its.getD i BG):=by
 rw[qT,qT,tt,qY h];rfl
def gP(p:Y)(its:E It): ∀i,i<=its.length->Lv (its.map (JI p)) i=(An (AM p (its.take i)),An (AW p its i))
 |0,_=>rfl
 |i+1,h=>by
  rw[Lv,gP p its i Aa,Kh p its i Aa,Jp p its i Aa,Cq];show((An _++Ke (p++(its.getD i BG).name) (its.getD i BG).way (its.getD i BG).check (its.getD i BG).packed.size (its.getD i BG).size)++(its.getD i BG).packed,An _++Mg (p++(its.getD i BG).name) (its.getD i BG).way (its.getD i BG).check (its.getD i BG).packed.size (its.getD i BG).size (An _).size)=_;rw[xm,gN,Ys,AE,AD,AD]
def PN(p:Y)(its:E It):Bp (its.map (JI p))=An (BE p its):=by
 rw[Bp,sJ,gP p its _ (rj _),sr];simp only[AE,AD]
 rfl
def qw(s:Y)(a:N):vS s a 2 0=BI s a 2:=by
 simp only[vS,BI,rx,sS];omega
def pM(s:Y)(a:N):vS s a 4 0=BI s a 4:=by
 simp only[vS,BI,rx,sS,Nat.reduceAdd];omega
def SW{p:Y}{c:It}(h:KI p c){a:N}(q:a<4294967296){pre post:E UInt8}{b:N}(d:pre.length=b){s:Y}(i:s=An (pre++Bt p c a++post)):
 vS s (b+10) 2 0=c.way/\vS s (b+16) 4 0=c.check/\vS s (b+20) 4 0=c.packed.size/\vS s (b+24) 4 0=c.size/\vS s (b+28) 2 0=p.size+c.name.size/\vS s (b+42) 4 0=a/\s.extract (b+46) (b+46+(p.size+c.name.size))=p++c.name:=by
 obtain⟨nm,g,ck,f,pk⟩:=c;obtain⟨j,k,l,m,n⟩:=h;simp only at j k l m n ⊢;have o:pre++Bt p ⟨nm,g,ck,f,pk⟩ a++post=pre++sL JJ++leB 20 2++leB 20 2++leB 0 2++leB g 2++leB 0 2++leB 33 2++leB ck 4++leB pk.size 4++leB f 4++leB (p.size+nm.size) 2++leB 0 2++leB 0 2++leB 0 2++leB 0 2++leB 0 4++leB a 4++sL (p++nm)++post:=by
  unfold Bt Dn AF;simp only[tc,vI,sI,rm]
 have e:(sL JJ).length=4:=Ac;rw[o] at i;subst i;rw[qw,qw,pM,pM,pM,pM];refine⟨?_, ?_, ?_, ?_, ?_, ?_, ?_⟩
 .exact Ep (pre:=pre++sL JJ++leB 20 2++leB 20 2++leB 0 2) (post:=leB 0 2++leB 33 2++leB ck 4++leB pk.size 4++leB f 4++leB (p.size+nm.size) 2++leB 0 2++leB 0 2++leB 0 2++leB 0 2++leB 0 4++leB a 4++sL (p++nm)++post) (by simp only[rm]) (by simp only[qU,Bq,e,d]) Aa
 .exact Ep (pre:=pre++sL JJ++leB 20 2++leB 20 2++leB 0 2++leB g 2++leB 0 2++leB 33 2) (post:=leB pk.size 4++leB f 4++leB (p.size+nm.size) 2++leB 0 2++leB 0 2++leB 0 2++leB 0 2++leB 0 4++leB a 4++sL (p++nm)++post) (by simp only[rm]) (by simp only[qU,Bq,e,d]) Aa
 .exact Ep (pre:=pre++sL JJ++leB 20 2++leB 20 2++leB 0 2++leB g 2++leB 0 2++leB 33 2++leB ck 4) (post:=leB f 4++leB (p.size+nm.size) 2++leB 0 2++leB 0 2++leB 0 2++leB 0 2++leB 0 4++leB a 4++sL (p++nm)++post) (by simp only[rm]) (by simp only[qU,Bq,e,d]) Aa
 .exact Ep (pre:=pre++sL JJ++leB 20 2++leB 20 2++leB 0 2++leB g 2++leB 0 2++leB 33 2++leB ck 4++leB pk.size 4) (post:=leB (p.size+nm.size) 2++leB 0 2++leB 0 2++leB 0 2++leB 0 2++leB 0 4++leB a 4++sL (p++nm)++post) (by simp only[rm]) (by simp only[qU,Bq,e,d]) Aa
 .exact Ep (pre:=pre++sL JJ++leB 20 2++leB 20 2++leB 0 2++leB g 2++leB 0 2++leB 33 2++leB ck 4++leB pk.size 4++leB f 4) (post:=leB 0 2++leB 0 2++leB 0 2++leB 0 2++leB 0 4++leB a 4++sL (p++nm)++post) (by simp only[rm]) (by simp only[qU,Bq,e,d]) Aa
 .exact Ep (pre:=pre++sL JJ++leB 20 2++leB 20 2++leB 0 2++leB g 2++leB 0 2++leB 33 2++leB ck 4++leB pk.size 4++leB f 4++leB (p.size+nm.size) 2++leB 0 2++leB 0 2++leB 0 2++leB 0 2++leB 0 4) (post:=sL (p++nm)++post) (by simp only[rm]) (by simp only[qU,Bq,e,d]) Aa
 rw[Fh _ (sL (p++nm)) post (b+46) _ (by simp only[qU,Bq,e,d]) (by rw[CF,rg]),Ku]
def NC(p:Y)(b:It)(a:N):(Bt p b a).length=46+(p.size+b.name.size):=by
 unfold Bt;simp only[qU,El,CF,CU,sB,vu,rg];have c:JJ.size=4:=Ac;omega
def ND(p:Y)(its:E It)(i:N): ∀n,i<n-> ∃rest,AW p its n=AW p its i++Bt p (its.getD i BG) (AM p (its.take i)).length++rest
 |0,h=>by omega
 |n+1,h=>by
  by_cases e:i=n
  .subst e;exact⟨[],by rw[Cq,sI]⟩
  obtain⟨rest,a⟩:=ND p its i n Aa;exact⟨rest++Bt p (its.getD n BG) (AM p (its.take n)).length,by rw[Cq,a,rm]⟩
def Yt(p:Y)(its:E It)(i:N)(h:i<its.length): ∃rest,AM p its=AM p (its.take i)++Bg p (its.getD i BG)++rest:=by
 refine⟨AM p (its.drop (i+1)), ?_⟩;rw[<-Jp p its i h]
 conv=>lhs;rw[<-ue (i+1) its]
 rw[AM,uq];rfl
def nT{p a b:Y}(h:a.data.toList<b.data.toList):(p++a).data.toList<(p++b).data.toList:=by
 have e: ∀x:Y,(p++x).data.toList=p.data.toList++x.data.toList:=λx=>by simp[tf]
 rw[e,e];exact List.append_left_lt h
def gQ(p a:Y):Gq (p++a) p=true:=by
 unfold Gq;rw[rX];refine⟨qZ (by rw[rg];omega),qZ ?_⟩;rw[ByteArray.extract_append_eq_left rfl]
def Yu{x p:Y}(h:Gq x p=true): ∃a,x=p++a:=by
 unfold Gq at h;rw[rX,vZ,vZ] at h;refine⟨x.extract p.size x.size, ?_⟩
 conv=>rhs;lhs;rw[<-h.2]
 rw[xB,uc Aa,Nat.max_eq_right h.1];simp
def gR(x:E UInt8)(c b a:N)(h:c<65536)(g:a<4294967296){s:Y}(e:s=An (x++endL c b a)):vS s (x.length+8) 2 0=c/\vS s (x.length+16) 4 0=a:=by
 have f:x++endL c b a=x++sL Gl++leB 0 2++leB 0 2++leB c 2++leB c 2++leB b 4++leB a 4++leB 0 2:=by
  unfold endL AF;simp only[tc,vI,sI,rm]
 have d:(sL Gl).length=4:=Ac;rw[f] at e;subst e;rw[qw,pM];refine⟨?_, ?_⟩
 .exact Ep (pre:=x++sL Gl++leB 0 2++leB 0 2) (post:=leB c 2++leB b 4++leB a 4++leB 0 2) (by simp only[rm]) (by simp only[qU,Bq,d]) Aa
 exact Ep (pre:=x++sL Gl++leB 0 2++leB 0 2++leB c 2++leB c 2++leB b 4) (post:=leB 0 2) (by simp only[rm]) (by simp only[qU,Bq,d]) Aa
def Mi(its:E It)(j:N)(h:j<its.length):its.getD j BG∈its:=by
 rw[qT,qY h];exact ro h
def PO(p:Y)(its:E It)(h:0<its.length):Kg (its.map (JI p))=p++(its.getD (its.length- 1) BG).name:=by
 unfold Kg;rw[sJ,Kh p its _ Aa];rfl
def Lp(p:Y)(a:It):Bg p a=(sL Iy++Dn p a++sL (p++a.name))++sL a.packed/\(sL Iy++Dn p a++sL (p++a.name)).length=30+(p.size+a.name.size):=by
 refine⟨rfl, ?_⟩;have b:(sL Iy).length=4:=Ac;rw[qU,qU,b,El,CF,rg]
def bW(p:Y)(a:It):(Bg p a).length=30+(p.size+a.name.size)+a.packed.size:=by
 rw[(Lp p a).1,qU,(Lp p a).2,CF]
def nU(p:Y)(its:E It):(An (BE p its)).size- 22=(AM p its).length+(AW p its its.length).length:=by
 rw[AE,Nd];omega
def gT{p:Y}{its:E It}(v: ∀i∈its,KI p i)(w:Gc its)(H:(BE p its).length<4294967296)(i:N)(f:i<its.length):
 Qu (An (BE p its)) p ((AM p its).length+(AW p its its.length).length) ((AM p its).length+(AW p its i).length) ((its.take i).map (JI p))=J (JI p (its.getD i BG),(AM p its).length+(AW p its (i+1)).length):=by
 obtain⟨rest,m⟩:=ND p its i its.length f;obtain⟨x,n⟩:=Yt p its i f;have g:=v _ (Mi its i f);have o:=Nd p its;have h:=rI List.length m;have j:=rI List.length n;rw[qU,qU,NC] at h;rw[qU,qU,bW] at j
 obtain⟨y,z,A,B,C,D,F⟩:=SW (s:=An (BE p its)) g (a:=(AM p (its.take i)).length) Aa (pre:=AM p its++AW p its i) (post:=rest++endL its.length (AW p its its.length).length (AM p its).length) (b:=(AM p its).length+(AW p its i).length) (by rw[qU]) (by
  congr 1;rw[BE]
  conv=>lhs;lhs;rhs;rw[m]
  simp only[rm])
 have d:(An (BE p its)).extract ((AM p (its.take i)).length+30+(p.size+(its.getD i BG).name.size)) ((AM p (its.take i)).length+30+(p.size+(its.getD i BG).name.size)+(its.getD i BG).packed.size)=(its.getD i BG).packed:=by
  obtain⟨q,r⟩:=Lp p (its.getD i BG);have e:BE p its=(AM p (its.take i)++(sL Iy++Dn p (its.getD i BG)++sL (p++(its.getD i BG).name)))++sL (its.getD i BG).packed++(x++(AW p its its.length++endL its.length (AW p its its.length).length (AM p its).length)):=by
   rw[Yq]
   conv=>lhs;lhs;rw[n,q]
   simp only[rm]
  rw[e,Fh _ _ _ _ _ (by rw[qU,r];omega) (by rw[CF]),Ku]
 have l:AW p its (i+1)=AW p its i++Bt p (its.getD i BG) (AM p (its.take i)).length:=Cq p its i;have k:=rI List.length l;rw[qU,NC] at k;have L:=g.way;unfold Qu;rw[y,z,A,B,C,D,F,rc Aa,rc Aa,rc Aa,rc Aa,gQ,rc Ac,rc,d]
 .congr 1;rw[uu];exact⟨rfl,Aa⟩
 rintro⟨h0,u⟩;apply u;have c:(its.take i).length=i:=by rw[rY];omega
 rw[sJ,c] at h0;rw[PO p _ (by rw[c];exact h0),c];apply nT;have t:(its.take i).getD (i- 1) BG=its[i- 1]:=by rw[qT,td,rd Aa,qY Aa];rfl
 have g2:its.getD i BG=its[i]:=by rw[qT,qY f];rfl
 rw[t,g2];exact ud.1 w (i- 1) i Aa f Aa
def PP{p:Y}{its:E It}(b: ∀i∈its,KI p i)(c:Gc its)(a:(BE p its).length<4294967296): ∀m i,i+m=its.length->
 Fi (An (BE p its)) p ((AM p its).length+(AW p its its.length).length) m ((AM p its).length+(AW p its i).length) ((its.take i).map (JI p))=J (its.map (JI p))
 |0,i,h=>by rw[Fi,sE Aa]
 |m+1,i,h=>by
  rw[Fi,gT b c a i Aa];show Fi _ _ _ m _ _=_;have e:its.take (i+1)=its.take i++[its.getD i BG]:=by
   rw[tu,qT,qY Aa];rfl
  have:=PP b c a m (i+1) Aa;rw[e,sv] at this;exact this
def Vm{p:Y}{its:E It}(g: ∀i∈its,KI p i)(h:Gc its)(j:its.length<=60)(f:(BE p its).length<4294967296):EK (An (BE p its)) p=J (its.map (JI p)):=by
 have d:=Nd p its;obtain⟨b,c⟩:=gR (s:=An (BE p its)) (AM p its++AW p its its.length) its.length (AW p its its.length).length (AM p its).length Aa Aa (by rw[BE]);rw[qU] at b c;have a:=PP g h f its.length 0 Aa;have e:(AW p its 0).length=0:=rfl;rw[e,sS,tZ,tB] at a;unfold EK;rw[nU,b,c,rc (by rw[AE];omega),rc Aa,rc Aa,a];show(if Bp (its.map (JI p))=_ then _ else _)=_;rw[PN,rd rfl]
def bX{p a b:Y}(h:(p++a).data.toList<(p++b).data.toList):a.data.toList<b.data.toList:=by
 have e: ∀x:Y,(p++x).data.toList=p.data.toList++x.data.toList:=λx=>by simp[tf]
 rw[e,e] at h;generalize p.data.toList=l at h;induction l with
 |nil=>exact h
 |cons x r ih=>
  rw[vH,vH,List.cons_lt_cons_iff] at h;rcases h with h|h
  .exact absurd h (UInt8.lt_irrefl x)
  exact ih h.2
def gU{s p:Y}{n a:N}{its:E It}{x:CQ}{b:N}(C:n<=s.size)(l:Gc its)(h:Qu s p n a (its.map (JI p))=J (x,b)): ∃i,x=JI p i/\KI p i/\Gc (its++[i]):=by
 unfold Qu at h;have B:vS s (a+10) 2 0<256^2:=GX s (a+10) 2 0;have q:vS s (a+16) 4 0<256^4:=GX s (a+16) 4 0;have r:vS s (a+20) 4 0<256^4:=GX s (a+20) 4 0;have u:vS s (a+24) 4 0<256^4:=GX s (a+24) 4 0;have v:vS s (a+28) 2 0<256^2:=GX s (a+28) 2 0;generalize vS s (a+10) 2 0=way at*;generalize vS s (a+16) 4 0=ck at*;generalize vS s (a+20) 4 0=pk at*;generalize vS s (a+24) 4 0=ln at*;generalize vS s (a+28) 2 0=k at*;generalize vS s (a+42) 4 0=fr at*;split at h
 .cases h
 rename_i h1;split at h
 .cases h
 rename_i h2;split at h
 .cases h
 rename_i h3;split at h
 .cases h
 rename_i h4;split at h
 .cases h
 rename_i h5;split at h
 .cases h
 rename_i h6;injection h with h;injection h with hx hb;have o:(s.extract (a+46) (a+46+k)).size=k:=by rw[rv];omega
 have d:(s.extract (fr+30+k) (fr+30+k+pk)).size=pk:=by rw[rv];omega
 generalize s.extract (a+46) (a+46+k)=nm at*;generalize s.extract (fr+30+k) (fr+30+k+pk)=sp at*;obtain⟨t,rfl⟩:=Yu (by simpa using h5);rw[rg] at o;refine⟨⟨t,way,ck,ln,sp⟩, ?_,⟨?_, ?_, ?_, ?_, ?_⟩, ?_⟩
 .rw[<-hx,JI,d]
 .show way=0\/way=8;omega
 .exact q
 .exact u
 .show sp.size<_;rw[d];exact r
 .show p.size+t.size<_;rw[o];exact v
 refine sZ.2 ⟨l,tS _ _, ?_⟩;intro y m z f;rw[rC] at f;subst f;show y.name.data.toList<t.data.toList;have h0:0<its.length:=List.length_pos_of_mem m;have c:(its.getD (its.length- 1) BG).name.data.toList<t.data.toList:=by
  apply bX (p:=p);rw[<-PO p its h0];have w:¬ ¬(Kg (its.map (JI p))).data.toList<(p++t).data.toList:=λA=>h6 ⟨by rw[sJ];exact h0,A⟩
  exact Decidable.of_not_not w
 have j:its.length- 1<its.length:=Aa;rw[qT,qY j] at c;obtain⟨k,g,rfl⟩:=xI.1 m;by_cases e:k=its.length- 1
 .subst e;exact c
 exact uE (ud.1 l k (its.length- 1) g j Aa) c
def PQ{s p:Y}{n:N}(e:n<=s.size): ∀(m a:N) (its:E It) (l:E CQ),(∀i∈its,KI p i)->Gc its->Fi s p n m a (its.map (JI p))=J l-> ∃c,l=c.map (JI p)/\(∀i∈c,KI p i)/\Gc c/\c.length=its.length+m
 |0,a,its,l,hk,hs,h=>by rw[Fi] at h;injection h with h;exact⟨its,h.symm,hk,hs,rfl⟩
 |m+1,a,its,l,hk,hs,h=>by
  rw[Fi] at h;cases hN:Qu s p n a (its.map (JI p)) with
  |none=>rw[hN] at h;cases h
  |some q=>
   obtain⟨x,b⟩:=q;rw[hN] at h;obtain⟨f,rfl,o,r⟩:=gU e hs hN;have t:Fi s p n m b ((its++[f]).map (JI p))=J l:=by rw[sv];exact h
   obtain⟨c,g,g2,j,k⟩:=PQ e m b (its++[f]) l (λi d=>by
    rcases rR.1 d with d|d
    .exact hk i d
    rw[rC] at d;rw[d];exact o) r t
   exact⟨c,g,g2,j,by rw[k,qU];show its.length+1+m=_;omega⟩
def PR{p s:Y}{its:E It}(hp:p.size<=1000)(d:s.size<=40000)(h:EB p s=J its):An (BE p its)=s/\(∀i∈its,KI p i)/\Gc its/\its.length<=60:=by
 obtain⟨a,b⟩:=gK h;exact⟨b,NB hp _ _ _ _ a d (λi c=>by cases c) tH Ad⟩
def gV{p s:Y}(a:0<p.size)(hp:p.size<=1000)(n:s.size<=40000):EK s p=(EB p s).map (λits=>its.map (JI p)):=by
 cases hrd:EB p s with
 |some its=>
  obtain⟨c,g,h,j⟩:=PR hp n hrd;have m:(BE p its).length<4294967296:=by rw[<-AE,c];omega
  have:=Vm g h j m;rw[c] at this;exact this
 |none=>
  cases hit:EK s p with
  |none=>rfl
  |some l=>
   exfalso;unfold EK at hit;split at hit
   .cases hit
   split at hit
   .cases hit
   rename_i h60;split at hit
   .cases hit
   split at hit
   .cases hit
   rename_i l2 hgo;split at hit
   .rename_i hj;obtain⟨b,d,g2,e,f⟩:=PQ (its:=[]) Aa _ _ _ (λi k=>by cases k) tH hgo;rw[d,PN] at hj;rw[<-hj,Yp p b g2 e (by rw[f];show 0+_<=60;omega) a] at hrd;cases hrd
   cases hit
