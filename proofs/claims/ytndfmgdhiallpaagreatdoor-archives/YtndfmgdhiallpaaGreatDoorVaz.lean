import Derived.Test.YtndfmgdhiallpaaGreatDoorVay
import Derived.Lib.IndexLaws
import Derived.Lib.CutLaws
import Derived.Lib.CountLaws
set_option linter.all false
set_option maxRecDepth 100000
set_option maxHeartbeats 4000000
open _root_ renaming Option.some->J,Option.none->O,Int->Z,Nat->N,Go.Value.int->I,Go.Value.string->G,Go.IntKind.i64->Q,ByteArray->Y,List->E,Go.World->U,Go.Value.slice->K,Go.Value->β,Go.Obj.cells->γ,Go.Value.pointer->δ,Bool.true->θ,Bool.false->ι,absurd->κ,UInt8->υ,Go.RowKit.Hid->χ,Decidable.decide->Γ
namespace Go.Proofs.YtndfmgdhiallpaaGreatDoor
open Go.RowKit Go.Maps Go.Proofs.Tryz
def DQ{s:Y}{j:N}(h:j<s.size):s.data.toList[j]? =J (b8 (As s j))/\(b8 (As s j)).toNat=As s j:=by
 have e:As s j=s[j].toNat:=by rw[As,uO h]
 have b:j<s.data.toList.length:=by simpa using h
 have a:b8 (As s j)=s[j]:=by rw[e];apply vQ.1;rw[AL s[j].toNat_lt]
 refine⟨?_,by rw[a,e]⟩;rw[a,qY b];rfl
def MV: ∀(n:N) (s:Y),s.size<=n->Ay s 47=BJ s:=by
 intro n;induction n with
 |zero=>
  intro s o;rw[Dv (λj c=>Aa),BJ];rcases Lib.indexB_cases s ⟨#[47]⟩ with h|⟨i,h,m⟩
  .rw[Lib.splitB_miss _ _ _ _ h]
  have:(⟨#[47]⟩:Y).size=1:=rfl;omega
 |succ n ih=>
  intro s o;have p:(⟨#[47]⟩:Y).size=1:=rfl;have b:Lib.indexB s ⟨#[47]⟩=Lib.indexByte s.data.toList 47:=Lib.index_one _ _;rcases Lib.indexB_cases s ⟨#[47]⟩ with h|⟨i,h,m⟩
  .rw[BJ,Lib.splitB_miss _ _ _ _ h];refine Dv (λj c e=> ?_);have g:=Lib.indexByte_none (b ▸ h) j;rw[(DQ c).1,e] at g;exact g rfl
  obtain⟨k,l⟩:=Lib.indexByte_some (b ▸ h);have a:i<s.size:=Aa;have d:As s i=47:=by
   have:=(DQ a).1;rw[k] at this;injection this with this;rw[<-(DQ a).2,<-this];rfl
  have f: ∀j,j<i->As s j≠47:=λj c e=>by
   have:=l j c;rw[(DQ Aa).1,e] at this;exact this rfl
  rw[Js a d f,BJ,Lib.countB_hit s ⟨#[47]⟩ i Ac h,uL 1 (Lib.countB _ _),Lib.splitB_hit _ _ _ _ i h,ih _ (by rw[rv];omega)]
  rfl
def GD(s:Y)(u:υ):(Lib.indexB s ⟨#[u]⟩= -1/\∀j,j<s.size->As s j≠u.toNat)\/ ∃i:N,Lib.indexB s ⟨#[u]⟩=i/\i<s.size/\As s i=u.toNat/\∀j,j<i->As s j≠u.toNat:=by
 have l:(⟨#[u]⟩:Y).size=1:=rfl;have b:Lib.indexB s ⟨#[u]⟩=Lib.indexByte s.data.toList u:=Lib.index_one _ _;have f:b8 u.toNat=u:=vQ.1 (AL u.toNat_lt);rcases Lib.indexB_cases s ⟨#[u]⟩ with h|⟨i,h,m⟩
 .refine .inl ⟨h,λj c e=> ?_⟩;have d:=Lib.indexByte_none (b ▸ h) j;rw[(DQ c).1,e,f] at d;exact d rfl
 obtain⟨g,k⟩:=Lib.indexByte_some (b ▸ h);have a:i<s.size:=Aa;refine .inr ⟨i,h,a, ?_,λj c e=> ?_⟩
 .have:=(DQ a).1;rw[g] at this;injection this with this;rw[<-(DQ a).2,<-this]
 have:=k j c;rw[(DQ Aa).1,e,f] at this;exact this rfl
def fD(e:Y):KU e=Pe e:=by
 rw[KU,Pe];generalize AO e=s;rcases GD s 46 with⟨h,a⟩|⟨i,h,d,b,a⟩
 .rw[Dv (c:=46) a];exact(Lib.cutB_miss s ⟨#[46]⟩ h).1.symm
 rw[Js (c:=46) d b a];exact(Lib.cutB_hit s ⟨#[46]⟩ i h).1.symm
def bH:(List.range 256).all (λc=>JX c==GQ c)=true:=Ab
def fE{c:N}(h:c<256):JX c=GQ c:=by
 have:=rV.1 bH c (rJ.2 h);simpa using this
def SK{s:Y}(h:s.size≠0)(u:υ):Lib.hasSuffix s.data.toList [u]=Γ (As s (s.size- 1)=u.toNat):=by
 have b:=(DQ (s:=s) (j:=s.size- 1) Aa).1;have g:s.data.toList.length=s.size:=(Lib.size_eq s).symm;by_cases e:As s (s.size- 1)=u.toNat
 .rw[qZ e];have i:b8 u.toNat=u:=vQ.1 (AL u.toNat_lt);rw[e,i] at b;refine uv.2 ⟨s.data.toList.take (s.size- 1), ?_⟩;have:=ue (s.size- 1) s.data.toList;obtain⟨a,f⟩:=sU.1 b;rw[sK a,f,uJ Aa] at this;exact this
 rw[qX e];rw[uT];intro d;obtain⟨t,c⟩:=uv.1 d;have a:t.length=s.size- 1:=by rw[<-g,<-c];simp
 rw[<-c,<-a] at b;simp at b;apply e;rw[<-a,<-(DQ (s:=s) (j:=t.length) Aa).2,<-b]
def fF(e:Y):Ff e=KS e:=by
 have f:(List.range e.size).all (λi=>JX (As e i))=(List.range e.size).all (λi=>GQ (As e i)):=by
  congr 1;funext i;exact fE (Bf e i)
 rw[Ff,KS,Ch,XL,fD,f];by_cases h:e.size=0
 .rw[qZ h,qX (show ¬0<e.size by omega)];simp
 rw[SK h,SK h,qX h,qZ (show 0<e.size by omega)];generalize(List.range e.size).all (λi=>GQ (As e i))=a;generalize MK (Pe e)=b;show(θ&& !Γ (As e (e.size- 1)=46)&& !Γ (As e (e.size- 1)=32)&&a&& !b)=(a&&θ&& !Γ (As e (e.size- 1)=46)&& !Γ (As e (e.size- 1)=32)&& !b);generalize Γ (As e (e.size- 1)=46)=c;generalize Γ (As e (e.size- 1)=32)=d;cases a<;>cases b<;>cases c<;>cases d<;>rfl
def Pq(s:Y):JY s=CK s:=by
 rw[JY,CK,MV s.size s (rj _)];congr 2
 funext e
 exact fF e
def ki(s:Y):UJ s=UC s:=by rw[UJ,UC,MV s.size s (rj _)]
def Zl(s:Y):KF s 47=Γ (0<=Lib.indexByte s.data.toList 47):=by
 have a:Lib.indexB s ⟨#[47]⟩=Lib.indexByte s.data.toList 47:=Lib.index_one _ _;rcases GD s 47 with⟨h,b⟩|⟨i,h,e,d,b⟩
 .rw[SH (c:=47) b,<-a,h];rfl
 rw[Pn (c:=47) e d,<-a,h];exact(qZ Aa).symm
def Zm{s t:Y}:Lib.hasPrefix s.data.toList t.data.toList=θ↔t.size<=s.size/\s.extract 0 t.size=t:=by
 have c:s.data.toList.length=s.size:=(Lib.size_eq s).symm;have a:t.data.toList.length=t.size:=(Lib.size_eq t).symm;refine tX.trans (List.prefix_iff_eq_take.trans ⟨λh=>⟨?_, ?_⟩,λh=> ?_⟩)
 .have:=rI List.length h;rw[rY,c,a] at this;omega
 .rw[Lib.extract_eq,yH,xE,<-a,<-h]
 have b:=rI (λx:Y=>x.data.toList) h.2;rw[Lib.extract_eq,yH,xE,<-a] at b;exact b.symm
def SL(s t:Y):Gq s t=Lib.hasPrefix s.data.toList t.data.toList:=by
 rw[vT,Zm,Gq,rX,sN,sN]
def Ka(s:Y)(n:N):(⟨(s.data.toList.drop n).toArray⟩:Y)=s.extract n s.size:=by
 rw[Lib.extract_eq,sE (by rw[tD,<-Lib.size_eq];exact rj _)]
def MW(s:Y)(i:N):JZ s i=Lib.occAt s.data.toList DG.data.toList i:=by
 rw[JZ,SL,Lib.occAt,Lib.hasPrefix,<-Ka]
def kj(s:Y):NM s=UD s:=by
 rw[UD,XN];by_cases a:Gq s KD=θ
 .rw[MU (show Io s=J 7 from rd a),Zl];rw[SL] at a;rw[rd a,Lib.trimPrefix,rd a,<-Ka];rfl
 have g:Io s=((List.range s.size).find? (JZ s)).map (· +8):=rc a;rw[SL] at a;rw[rc a];have k:s.data.toList.length=s.size:=(Lib.size_eq s).symm;rcases Lib.index_spec s.data.toList DG.data.toList with⟨h,e⟩|⟨i,h,n,l,e⟩
 .have b:=Lib.cutB_miss s DG h;have f:Io s=none:=by
   rw[g,List.find?_eq_none.2 (λj d=>by rw[MW,e j (by rw[k];exact Nat.le_of_lt (rJ.1 d))];decide)];rfl
  rw[Rn f];show ι=((Lib.cut s.data.toList DG.data.toList).2.2&&_);rw[b.2.2];rfl
 have b:=Lib.cutB_hit s DG i h;have c:i<s.size:=by
  have:=Lib.index_room s.data.toList DG.data.toList Aa;have m:DG.data.toList.length=8:=rfl;omega
 have f:Io s=J (i+8):=by
  rw[g,Po c (by rw[MW];exact l) (λj d=>by rw[MW];exact e j d)];rfl
 rw[MU f,Zl];show _=((Lib.cut s.data.toList DG.data.toList).2.2&&Γ (0<=Lib.indexByte (⟨(Lib.cut s.data.toList DG.data.toList).2.1.toArray⟩:Y).data.toList 47));rw[b.2.2,b.2.1];rfl
def NO(T:E Bw)(s:Y):Bool:=(List.range s.size).any (λi=>Γ (As s i=47)&&T.any (λe=> !e.ln&&Γ (e.nm=s.extract 0 i++Pi)))
def MX{a b:Y}(h:a.data.toList=b.data.toList):a=b:=sX (uG.1 h)
def LU(a b:Y):(a++b).data.toList=a.data.toList++b.data.toList:=Ad
def GE(s:Y)(i:N):(s.extract 0 i).data.toList=s.data.toList.take i:=by rw[Lib.extract_eq,yH,xE]
def Rp{e:Bw}{p:E υ}(h:e.nm.data.toList=p++Pi.data.toList):(XP e).data.toList=p++[47]:=by
 show(Lib.trimSuffix e.nm.data.toList Ez.data.toList)=p++[47];have a:e.nm.data.toList=(p++[47])++Ez.data.toList:=by rw[h];simp
 have b:Lib.hasSuffix e.nm.data.toList Ez.data.toList=true:=uv.2 ⟨_,a.symm⟩;rw[Lib.trimSuffix,rd b,a,qU,vs,xb]
def nC{s:Y}{p r:E υ}{u:υ}(h:s.data.toList=p++u::r):p.length<s.size/\As s p.length=u.toNat:=by
 have b:p.length<s.size:=by rw[Lib.size_eq,h];simp
 refine⟨b, ?_⟩;have a:=DQ b;rw[h] at a;simp at a;rw[<-a.2,<-a.1]
def UK{s:Y}{i:N}(h:i<s.size):s.data.toList=s.data.toList.take i++b8 (As s i)::s.data.toList.drop (i+1):=by
 obtain⟨a,b⟩:=sU.1 (DQ h).1;rw[<-b,<-sK a,ue]
def km(T:E Bw)(s:Y):NO T s=KT (Aw T) s:=by
 rw[vT,NO,KT,sc,sc];constructor
 .rintro ⟨i,m,h⟩;rw[rX,sN,sc] at h;obtain⟨d,e,b,h⟩:=h;rw[rX,sN] at h;have g:=rJ.1 m;have a:e.nm.data.toList=s.data.toList.take i++Pi.data.toList:=by rw[h.2,LU,GE]
  have c:=UK g;rw[d] at c;refine⟨XP e,rT.2 ⟨e,vk.2 ⟨b, ?_⟩,rfl⟩, ?_⟩
  .rw[XO,h.1,tj];exact uv.2 ⟨_,a.symm⟩
  rw[Rp a];refine tX.2 ⟨s.data.toList.drop (i+1), ?_⟩;rw[rm];exact c.symm
 rintro⟨f,l,h⟩;obtain⟨e,b,rfl⟩:=rT.1 l;obtain⟨b,j⟩:=vk.1 b;rw[XO,rX] at j;obtain⟨p,hp⟩:=uv.1 j.2;have a:=hp.symm;rw[Rp a] at h;obtain⟨r,k⟩:=tX.1 h;rw[rm] at k;obtain⟨n,d⟩:=nC k.symm;refine⟨p.length,rJ.2 n, ?_⟩;rw[rX,sN,sc];refine⟨d,e,b, ?_⟩;rw[rX,sN];refine⟨j.1,MX ?_⟩;rw[a,LU,GE,<-k,xb]
def fG(T:E Bw)(e:Bw):N:=if e.ln then 1 else if UJ e.nm then 4 else if NO T e.nm then 3 else if NM e.nm then 2 else if JY e.nm then 0 else 5
def kp(T:E Bw)(e:Bw):fG T e=BM (Aw T) e:=by rw[fG,BM,ki,km,kj,Pq]
def XU:E Y->E Y->Bool
 |a::x,b::y=>if a=b then XU x y else Γ (AO a=AO b)
 |[],_=>θ
 |_::_,[]=>θ
def JC(a b:Y):Bool:=XU (Ay a 47) (Ay b 47)
def LV(a:Y):Prop:= ∀j,j<a.size->As a j≠47
abbrev qt:Y:=⟨#[47]⟩
def jn(a x:Y):Y:=a++(qt++x)
def Gr(a x:Y):(jn a x).data.toList=a.data.toList++47::x.data.toList:=by rw[jn,LU,LU];rfl
def SM(a x:Y):(jn a x).size=a.size+1+x.size:=by rw[jn,rg,rg];show _+(1+_)=_;omega
def XV{a x y:Y}(h:jn a x=jn a y):x=y:=by
 have:=rI (λz:Y=>z.data.toList) h;simp only[Gr] at this;exact MX (List.cons.inj (List.append_cancel_left this)).2
def LV.mem{a:Y}(h:LV a):(47:υ)∉a.data.toList:=λf=>by
 obtain⟨j,d,e⟩:=sH f;have b:j<a.size:=by rw[Lib.size_eq];exact d
 have c:=DQ b;rw[qY d,e] at c;injection c.1 with h1;exact h j b (by rw[<-c.2,<-h1];rfl)
def Ll(s:Y):LV s\/ ∃a r,LV a/\s=jn a r:=by
 rcases GD s 47 with⟨_,d⟩|⟨i,_,e,b,d⟩
 .exact .inl d
 have b:As s i=47:=b;refine .inr ⟨s.extract 0 i,s.extract (i+1) s.size,λj f=> ?_,MX ?_⟩
 .have c:j<i:=by rw[rv] at f;omega
  rw[CG Aa Aa,rx];exact d j c
 have:=UK e;rw[b] at this;rw[Gr,GE,<-Ka];exact this
def fH(a x:Y):(∀j,j<a.size->As (jn a x) j=As a j)/\As (jn a x) a.size=47/\∀j,As (jn a x) (a.size+1+j)=As x j:=by
 refine⟨λj b=>FY b, ?_,λj=> ?_⟩
 .rw[jn,En (rj _),ut,FY (show 0<qt.size by decide)];rfl
 rw[jn,En Aa,En (show qt.size<=_ by show 1<=_;omega)];congr 1;show a.size+1+j- a.size- 1=j;omega
def XW(a x:Y):(jn a x).extract 0 a.size=a/\(jn a x).extract (a.size+1) (jn a x).size=x/\∀j,j<=x.size->(jn a x).extract 0 (a.size+1+j)=jn a (x.extract 0 j):=by
 have b:a.data.toList.length=a.size:=(Lib.size_eq a).symm;refine⟨MX ?_,MX ?_,λj c=>MX ?_⟩
 .rw[GE,Gr,<-b,xb]
 .rw[<-Ka,Gr];show List.drop (a.size+1) _=_;rw[<-b,List.drop_append];simp
 rw[GE,Gr,Gr,GE,<-b,List.take_append];rw[sE Aa,show a.data.toList.length+1+j- a.data.toList.length=j+1 by omega,List.take_succ_cons]
def LX{a:Y}(h:LV a)(x:Y):Ay (jn a x) 47=a::Ay x 47:=by
 obtain⟨f,g,_⟩:=fH a x;obtain⟨d,e,_⟩:=XW a x;have:=Js (s:=jn a x) (c:=47) (i:=a.size) (by rw[SM];omega) g (λj b=>by rw[f j b];exact h j b);rw[d,e] at this;exact this
def MY{s:Y}: ∀n,(∀j,j<n->As s j≠47)->IV s n=[]
 |0,_=>rfl
 |n+1,h=>by rw[Ks s n (h n Aa)];exact MY n (λj a=>h j Aa)
def XX{a:Y}(h:LV a):Ec a=[a]:=by rw[Ec,MY _ h];rfl
def Zn{a:Y}(h:LV a)(x:Y): ∀n,n<=x.size->IV (jn a x) (a.size+1+n)=a::(IV x n).map (jn a)
 |0,_=>by
  obtain⟨f,g,_⟩:=fH a x;show IV (jn a x) (a.size+1)=_;rw[LS _ _ g,MY _ (λj d=>by rw[f j d];exact h j d),(XW a x).1];rfl
 |n+1,hn=>by
  have e:=Zn h x n Aa;have c:=(fH a x).2.2 n;rw[show a.size+1+(n+1)=a.size+1+n+1 by omega];by_cases b:As x n=47
  .rw[LS _ _ (c.trans b),LS _ _ b,e,(XW a x).2.2 n Aa];simp
  rw[Ks _ _ (by rw[c];exact b),Ks _ _ b,e]
def Pr{a:Y}(h:LV a)(x:Y):Ec (jn a x)=a::(Ec x).map (jn a):=by
 rw[Ec,SM,Zn h x x.size (rj _),Ec,sv];rfl
def fI(s:Y):s∈Ec s:=by rw[Ec];simp
def Oi{u:υ}:Ga u=47↔u=47:=by
 constructor
 .intro h;unfold Ga at h;split at h
  .rename_i hc;have a:65<=u.toNat/\u.toNat<=90:=by simpa [LQ] using hc
   have:=rI UInt8.toNat h;rw[AL Aa] at this;have e:(47:υ).toNat=47:=rfl;omega
  exact h
 rintro rfl;rfl
def Ps: ∀(a a' x b :E υ),(47:υ)∉a->(47:υ)∉a' ->((a++47::x).map Ga=(a' ++47::b).map Ga↔a.map Ga=a'.map Ga/\x.map Ga=b.map Ga)
 |[],[],x,b,_,_=>by simp
 |[],c::a',x,b,_,h' =>by
  have d:Ga 47≠Ga c:=λe=>h' (by rw[Oi.1 (e.symm.trans rfl)];simp)
  simp[d]
 |c::a,[],x,b,h,_=>by
  have d:Ga c≠Ga 47:=λe=>h (by rw[Oi.1 (e.trans rfl)];simp)
  simp[d]
 |c::a,c' ::a',x,b,h,h' =>by
  have f:=Ps a a' x b (λe=>h (sQ _ e)) (λe=>h' (sQ _ e));rw[vH,vH,sP,sP,sP,sP,yC,yC,f,and_assoc]
def LY{a b:Y}:AO a=AO b↔a.data.toList.map Ga=b.data.toList.map Ga:=by
 constructor
 .intro h;have:=rI (λz:Y=>z.data.toList) h;exact this
 intro h;rw[AO,AO,h]
def XY{a a' :Y}(h:LV a)(c :LV a')(x b :Y):AO (jn a x)=AO (jn a' b)↔AO a=AO a' /\AO x=AO b :=by
 rw[LY,LY,LY,Gr,Gr];exact Ps _ _ _ _ h.mem c.mem
def Lm{a:Y}(h:LV a)(a' x:Y):AO a≠AO (jn a' x):=λe=>by
 rw[LY,Gr] at e;have:(47:υ)∈a.data.toList.map Ga:=by rw[e];simp;exact .inr (.inl (Oi.2 rfl).symm)
 obtain⟨u,c,b⟩:=rT.1 this;exact h.mem (Oi.1 b ▸ c)
def lJ{a:Y}(h:LV a)(a' x:Y):a≠jn a' x:=λe=>Lm h a' x (by rw[<-e])
def kq(n s:Y):Prop:= ∃b',b' ∈Ec n/\∃b,b∈Ec s/\AO b' =AO b/\(b' ≠b\/b' =n\/b=s)
def fJ{n:Y}(g:LV n)(s:Y):JC n s=θ↔kq n s:=by
 rw[JC,Dv g,kq,XX g];rcases Ll s with hs|⟨b,r,d,rfl⟩
 .rw[Dv hs,XU,XX hs];constructor
  .intro h;have a:AO n=AO s:=by
    by_cases e:n=s
    .rw[e]
    rw[rc e] at h;exact rQ h
   exact⟨n,Ad,s,Ad,a,.inr (.inl rfl)⟩
  rintro⟨f,c,b,d,a,_⟩;rw[rC] at d c;subst d c;by_cases e:f =b
  .rw[rd e];rfl
  rw[rc e];exact qZ a
 rw[LX d,XU,Pr d];constructor
 .intro h;have a:AO n=AO b:=by
   by_cases e:n=b
   .rw[e]
   rw[rc e] at h;exact rQ h
  exact⟨n,Ad,b,Ad,a,.inr (.inl rfl)⟩
 rintro⟨f,c,y,i,a,_⟩;rw[rC] at c;subst c;rcases sW.1 i with rfl|i
 .by_cases e:f =y
  .rw[rd e];rfl
  rw[rc e];exact qZ a
 obtain⟨j,_,rfl⟩:=rT.1 i;exact κ a (Lm g _ _)
def LZ: ∀(k:N) (n s:Y),n.size<=k->(JC n s=θ↔kq n s):=by
 intro k;induction k with
 |zero=>
  intro n s t;have m:LV n:=λj z=>by omega
  exact fJ m s
 |succ k i=>
  intro n s t;rcases Ll n with m|⟨a,q,ha,rfl⟩
  .exact fJ m s
  rcases Ll s with hs|⟨b,r,f,rfl⟩
  .rw[JC,LX ha,Dv hs,XU,kq,XX hs];have w:XU (Ay q 47) []=true:=by cases Ay q 47<;>rfl
   constructor
   .intro h;have hlo:AO a=AO s:=by
     by_cases e:a=s
     .rw[e]
     rw[rc e] at h;exact rQ h
    exact⟨a,by rw[Pr ha];simp,s,Ad,hlo,.inr (.inr rfl)⟩
   rintro⟨v,d,b,f,hlo,_⟩;rw[rC] at f;subst f;rw[Pr ha,sW] at d;rcases d with rfl|d
   .by_cases e:v =b
    .rw[rd e,w]
    rw[rc e];exact qZ hlo
   obtain⟨y,_,rfl⟩:=rT.1 d;exact κ hlo.symm (Lm hs _ _)
  rw[JC,LX ha,LX f,XU,kq,Pr ha,Pr f];have i:=i q r (by rw[SM] at t;omega);constructor
  .intro h;by_cases e:a=b
   .subst e;rw[rd rfl] at h;obtain⟨x,g,y,hy,hlo,c⟩:=i.1 h;refine⟨jn a x,sQ _ (rT.2 ⟨x,g,rfl⟩),jn a y,sQ _ (rT.2 ⟨y,hy,rfl⟩),(XY ha ha _ _).2 ⟨rfl,hlo⟩, ?_⟩;rcases c with c|c|c
    .exact .inl (λe=>c (XV e))
    .exact .inr (.inl (by rw[c]))
    exact .inr (.inr (by rw[c]))
   rw[rc e] at h;exact⟨a,Ad,b,Ad,rQ h,.inl e⟩
  rintro⟨x,g,y,hy,hlo,c⟩;have l:AO a=AO b:=by
   rcases sW.1 g with rfl|g
   .rcases sW.1 hy with rfl|hy
    .exact hlo
    exact aaT
   obtain⟨u,_,rfl⟩:=rT.1 g;rcases sW.1 hy with rfl|hy
   .exact κ hlo.symm (Lm f _ _)
   obtain⟨y',_,rfl⟩:=rT.1 hy;exact((XY ha f _ _).1 hlo).1
  by_cases e:a=b
  .subst e;rw[rd rfl];refine i.2 ?_;rcases sW.1 g with rfl|g
   .rcases sW.1 hy with rfl|hy
    .rcases c with c|c|c
     .exact κ rfl c
     .exact κ c (lJ ha _ _)
     exact κ c (lJ ha _ _)
    exact aaT
   obtain⟨u,o,rfl⟩:=rT.1 g;rcases sW.1 hy with rfl|hy
   .exact κ hlo.symm (Lm ha _ _)
   obtain⟨y',p,rfl⟩:=rT.1 hy;refine⟨u,o,y',p,((XY ha f _ _).1 hlo).2, ?_⟩;rcases c with c|c|c
   .exact .inl (λe=>c (by rw[e]))
   .exact .inr (.inl (XV c))
   exact .inr (.inr (XV c))
  rw[rc e];exact qZ l
def Zo{s b:Y}(h:b∈Ec s):b=s.extract 0 b.size:=by
 rw[Ec,rR,rC] at h;rcases h with h|rfl
 .rw[IV] at h;obtain⟨i,a,rfl⟩:=rT.1 h;have c:=rJ.1 (vk.1 a).1;have:(s.extract 0 i).size=i:=by rw[rv];omega
  rw[this]
 simp
def kr{s b a :Y}(h:b∈Ec s)(c :a ∈Ec s)(e:AO b=AO a):b=a :=by
 have d:b.size=a.size:=by rw[<-GA b,<-GA a,e]
 rw[Zo h,Zo c,d]
def FL(F:E Y)(f:Gp):Prop:=(∀n,n∈F-> ∀b,b∈Ec n->f (AO b)=J (b,Γ (b=n)))/\∀r x,f r=J x-> ∃n,n∈F/\∃b,b∈Ec n/\AO b=r/\x=(b,Γ (b=n))
def FL.nil:FL [] (λ_=>O):=⟨λ_ h=>(by cases h),λ_ _ h=>by cases h⟩
def Rq{F:E Y}{f:Gp}(h:FL F f)(s:Y):CT f s=θ↔ ∃n,n∈F/\kq n s:=by
 rw[CT,sc];constructor
 .rintro ⟨b,k,i⟩;rw[Gb,rX] at i;obtain⟨x,g⟩:=Option.isSome_iff_exists.1 i.1;obtain⟨n,l,j,c,e,rfl⟩:=h.2 _ _ g;rw[g] at i;refine⟨n,l,j,c,b,k,e, ?_⟩;have a:=i.2;simp only[th,vp,sN] at a;rcases a with(a|a)|a
  .exact .inl a
  .exact .inr (.inl a)
  exact .inr (.inr a)
 rintro⟨n,l,j,c,b,k,e,d⟩;refine⟨b,k, ?_⟩;have g:=h.1 n l j c;rw[e] at g;rw[Gb,g];simp only[Option.isSome_some,tj,th,vp,sN];rcases d with d|d|d
 .exact .inl (.inl d)
 .exact .inl (.inr d)
 exact .inr d
def Kv{F:E Y}{f:Gp}(h:FL F f)(s:Y):CT f s=F.any (λn=>JC n s):=by
 rw[vT,Rq h,sc];constructor
 .rintro ⟨n,b,a⟩;exact⟨n,b,(LZ _ n s (rj _)).2 a⟩
 rintro⟨n,b,a⟩;exact⟨n,b,(LZ _ n s (rj _)).1 a⟩
def Jt{s r:Y}: ∀(l:E Y) (f:Gp),(∀b,b∈l->AO b≠r)->l.foldl (λf b=>SB f (AO b) (b,Γ (b=s))) f r=f r
 |[],_,_=>rfl
 |c::l,f,h=>by
  rw[vP,Jt l _ (λb a=>h b (sQ _ a)),SB,rc (λe=>h c Ad e.symm)]
def Rr{s:Y}: ∀(l:E Y) (f:Gp),(∀b,b∈l-> ∀d,d ∈l->AO b=AO d ->b=d)-> ∀b,b∈l->l.foldl (λf b=>SB f (AO b) (b,Γ (b=s))) f (AO b)=J (b,Γ (b=s))
 |[],_,_,_,h=>by cases h
 |c::l,f,h,b,hb=>by
  rw[vP];by_cases i:b∈l
  .exact Rr l _ (λx a y j=>h x (sQ _ a) y (sQ _ j)) b i
  have g:b=c:=by
   rcases sW.1 hb with e|e
   .exact e
   exact κ e i
  subst g;rw[Jt l _ (λx a e=>i (h x (sQ _ a) b Ad e ▸ a)),SB,rd rfl]
def FL.add{F:E Y}{f:Gp}(h:FL F f){s:Y}(q:CT f s=ι):FL (F++[s]) (GR f s):=by
 have m:=Rr (s:=s) (Ec s) f (λb a w k e=>kr a k e);have l: ∀b,b∈Ec s->Gb f s b=false:=by
  intro b a;rw[CT,tn] at q;simpa using q b a
 constructor
 .intro n g b a;rcases rR.1 g with g|g
  .by_cases i: ∃d,d∈Ec s/\AO d=AO b
   .obtain ⟨d,c,e⟩:=i;have u:=m d c;have j:=l d c;have v:=h.1 n g b a;rw[Gb,e,v] at j;simp only[Option.isSome_some,tj,th,xK,xf,Classical.not_not,ne_eq] at j;obtain⟨⟨o,p⟩,t⟩:=j;rw[GR,<-e,u,o,qX t];rw[o] at p;rw[qX p]
   have:=Jt (s:=s) (Ec s) f (r:=AO b) (λd c e=>i ⟨d,c,e⟩);rw[GR,this];exact h.1 n g b a
  rw[rC] at g;subst g;exact m b a
 intro r x i;by_cases a: ∃b,b∈Ec s/\AO b=r
 .obtain ⟨b,a,rfl⟩:=a;rw[GR,m b a] at i;injection i with i;exact⟨s,Ad,b,a,rfl,i.symm⟩
 rw[GR,Jt (Ec s) f (λd c e=>a ⟨d,c,e⟩)] at i;obtain⟨n,g,y⟩:=h.2 r x i;exact⟨n,List.mem_append_left _ g,y⟩
def UL(s:Y):kq s s:=⟨s,fI s,s,fI s,rfl,.inr (.inl rfl)⟩
def dfault(fs:E Fl)(all:N)(e:Bw):N:=if fs.any (λf=>JC f.1 e.nm) then 5 else if(Γ (e.nm≠Ez)&&Γ (AO e.nm=Ez)) then 4 else if Bu e.nm<e.dt.size then 1 else if 60<fs.length+1 then 6 else if 16000<all+e.dt.size then 1 else 0
def Pt(T:E Bw)(i:N):Prop:= ∀j,j<i->BM (Aw T) (T.getD j AA)=0->Dp (Eg (Aw T) (T.take j)) (T.getD j AA)=0
structure XZ (s:XQ):Prop where
 tab:FL (s.fs.map (·.1)) s.tb
 few:s.fs.length<=60
 dif:s.fs.Pairwise (λa b=>a.1≠b.1)
 small:s.all<=16000
def XZ.dfault{s:XQ}(h:XZ s)(e:Bw):dfault s.fs s.all e=Dp s e:=by
 rw[Go.Proofs.YtndfmgdhiallpaaGreatDoor.dfault,Dp,Kv h.tab,List.any_map];have b:=h.few;have a:(60<s.fs.length+1)=(s.fs.length=60):=by apply propext;omega
 simp only[a]
 rfl
def XZ.step{s:XQ}(h:XZ s){L:E Y}{e:Bw}(j:BM L e=0->Dp s e=0):XZ (Ed L s e):=by
 rw[Ed];split
 .rename_i hw;obtain⟨c,k,l,m,g⟩:=GC (j hw);have n:=h.few;refine⟨?_,by simp;omega, ?_,g⟩
  .show FL ((s.fs++[(e.nm,e.dt)]).map (·.1)) _;rw[sv];exact h.tab.add c
  show List.Pairwise _ (s.fs++[(e.nm,e.dt)]);refine sZ.2 ⟨h.dif,tS _ _,λa i b d f=> ?_⟩;rw[rC] at d;subst d;have:CT s.tb e.nm=true:=(Rq h.tab _).2 ⟨a.1,rT.2 ⟨a,i,rfl⟩,by rw[f];exact UL _⟩;rw[c] at this;cases this
 exact⟨h.tab,h.few,h.dif,h.small⟩
def Ju(T:E Bw): ∀i,i<=T.length->Pt T i->XZ (Eg (Aw T) (T.take i))
 |0,_,_=>⟨FL.nil,sl _,tH,sl _⟩
 |i+1,hi,h=>by
  rw[EA _ T i Aa];exact(Ju T i Aa (λj a=>h j Aa)).step (h i Aa)
def Pu{T:E Bw}(h:jW T):XZ (Eg (Aw T) T):=by
 have:=Ju T T.length (rj _) h
 rwa [sr] at this
def pB{P:Program}{c:Code}{Q:Exit->Act->U->Prop}{a:Act}{W:U}(R:U->Prop)(d:R W)(h: ∀b,R b ->c.wp P Q a b):c.wp P Q a W:=h W d
def fK{X a:E Y}{i:N}(b:i<X.length)(c:i<a.length)(h:X[i]=a[i]):XU (X.drop i) (a.drop i)=XU (X.drop (i+1)) (a.drop (i+1)):=by
 rw[sK b,sK c,XU,rd h]
def fL{X a:E Y}{i:N}(b:i<X.length)(c:i<a.length)(h:X[i]≠a[i]):XU (X.drop i) (a.drop i)=Γ (AO X[i]=AO a[i]):=by
 rw[sK b,sK c,XU,rc h]
def Zp{X a:E Y}{i:N}(h:¬(i<X.length/\i<a.length)):XU (X.drop i) (a.drop i)=true:=by
 by_cases b:i<X.length
 .rw[uJ (l:=a) Aa];cases X.drop i<;>rfl
 rw[uJ (l:=X) Aa];rfl
def Ya(a b:ByteArray)(ha:a.size<=2000000)(hb:b.size<=2000000)(w:U):Calls prog 199 #[G a,G b] w λr w' =>r=.returned (.bool (JC a b))/\Al w w' :=by
 have n:χ (JC a b=XU ((Ay a 47).drop 0) ((Ay b 47).drop 0)):=rfl;have H1:=Af (IB a 47 ha w);have H2:=Af (λW=>IB b 47 hb W);have a5:χ (∀x∈Ay a 47,x.size<=2000000):=λx m=>rz (GU m) ha
 have a6:χ (∀x∈Ay b 47,x.size<=2000000):=λx m=>rz (GU m) hb
 have b6:=Db a 47;have b7:=Db b 47;generalize JC a b=ans at*;generalize Ay a 47=X at*;generalize Ay b 47=Y at*;go_in;go_wp2_with fail;refine H1.mono ?_;rintro e w1 ⟨v,rfl,j,k⟩;have D:=Af j;have C:=Af k;obtain⟨ao,o,z, -, -⟩:=j;subst z;clear k H1;go_wp2_with fail;refine(H2 w1).mono ?_;rintro e w2 ⟨v,rfl,j,k⟩;have F:=Af (D.old k);have H:=Af j;have HO:=Af (C.trans k);obtain⟨bo,q,z, -, -⟩:=j;subst z;clear k H2 D C;go_wp2;go_loopw [7] (λx wr=> ∃i:N,i<=X.length/\i<=Y.length/\x=I Q i/\χ (ans=XU (X.drop i) (Y.drop i))/\χ (Fj w wr (K ao X.length o) X)/\χ (Fj w1 wr (K bo Y.length q) Y)/\χ (Al w wr)) (λx _=>X.length- (intOf x).toNat)
 .exact ⟨0,Aa,Aa,rfl,n,F,H,HO⟩
 obtain⟨i,b4,b5,rfl,n,F,H,HO⟩:=hrel;by_cases m:i<X.length
 .have b2:(i:Z)<(X.length:Z):=Aa;by_cases hy:i<Y.length
  .have b3:(i:Z)<(Y.length:Z):=Aa;obtain⟨s,cx,z,P,a8, -⟩:=F.cell i m;injection z with hv1 hv2 hv3;subst hv1 hv3;obtain⟨t,cy,z,T,a9, -⟩:=H.cell i hy;injection z with hv1 hv2 hv3;subst hv1 hv3;have HE:=Af (fK m hy);have HF:=Af (fL m hy);have A:=Af (λW=>fB X[i] (rz (a5 _ (ro m)) Aa) W);have B:=Af (λW=>fB Y[i] (rz (a6 _ (ro hy)) Aa) W);have f1:=Qd X[i] Y[i];generalize X[i]=x at*;generalize Y[i]=y at*;by_cases f:x=y
   .rw[qZ f] at f1;have a4:=Af (n.trans (HE f));clear HE HF A B n f;go_wp2_with fail;go_quiet (fail);go_wp2;go_roundw
    .exact ⟨i+1,Aa,Aa,by go_num,a4,F,H,HO.drewN _⟩
    exact Ae
   rw[qX f] at f1;have f2:=Qd (AO x) (AO y);have d:ans=Γ (AO x=AO y):=n.trans (HF f);rw[<-d] at f2;clear HE HF n f d;generalize AO x=lx at*;generalize AO y=ly at*;have u: ∀W M :U,(W.cell? ⟨s,i,O⟩=J (G x)/\W.cell? ⟨t,i,O⟩=J (G y)/\Al wr W)->Al W M ->(M.cell? ⟨s,i,O⟩=J (G x)/\M.cell? ⟨t,i,O⟩=J (G y)/\Al wr M):=λW M h k=>by
    have hz:=h.2.2.size;exact⟨(k.cell (p:=⟨s,i,O⟩) (rW a8 hz) (λe=>e)).trans h.1,(k.cell (p:=⟨t,i,O⟩) (rW a9 hz) (λe=>e)).trans h.2.1,h.2.2.trans k⟩
   go_wp2_with fail;go_quiet (fail);go_wp2_with fail;refine pB (R:=λV=>V.cell? ⟨s,i,O⟩=J (G x)/\V.cell? ⟨t,i,O⟩=J (G y)/\Al wr V) ⟨P,T,(Ag.refl _ wr).drewN _⟩ ?_;rintro V ⟨a2,a3,a1⟩;have c:V.drew.cell? ⟨s,i,O⟩=J (G x)/\V.drew.cell? ⟨t,i,O⟩=J (G y)/\Al wr V.drew:=⟨a2,a3,a1.drew⟩;clear P T a2 a3 a1;refine Ai (S:=λW=>W.cell? ⟨s,i,O⟩=J (G x)/\W.cell? ⟨t,i,O⟩=J (G y)/\Al wr W) (L:=11) Ab ?_;refine tk 0 12 (K (J ⟨s,0,O⟩) X.length o) 33 c ?_;refine tk 1 12 (I Q (i:Z)) 34 c ?_;refine tk 2 12 (δ (J ⟨s,i,O⟩)) 35 c ?_;refine tk 3 12 (G x) 36 c ?_;refine tk 5 12 (K (J ⟨t,0,O⟩) Y.length q) 38 c ?_;refine tk 6 12 (I Q (i:Z)) 39 c ?_;refine tk 7 12 (δ (J ⟨t,i,O⟩)) 40 c ?_;refine tk 8 12 (G y) 41 c ?_;refine Ah (i:=4) Ab ?_;refine ri rfl (λK' g=> ?_);go_simp;refine(A _).mono ?_;rintro r w2 ⟨rfl,b0⟩;have a0:=u _ _ c b0;refine g _ _ ⟨λ_=>a0, ?_⟩;clear g;refine Ah (i:=9) Ab ?_;refine ri rfl (λK' g=> ?_);go_simp;refine(B _).mono ?_;rintro r w3 ⟨rfl,b1⟩;have l:=u _ _ a0 b1;refine g _ _ ⟨λ_=>l, ?_⟩;clear g;refine Ah (i:=10) Ab ?_;refine ri rfl (λK' g=> ?_);go_simp;refine g _ _ ⟨λ_=>l, ?_⟩;clear g;refine Ah (i:=11) Ab ?_;refine ri rfl (λK' g=> ?_);go_simp;refine g _ _ ⟨λh=>κ rfl h, ?_⟩;clear g;refine Am Ab ?_;have a7:=Af (uh HO|>.trans l.2.2);clear c u l F H;go_wp2;go_ret;exact⟨rfl,a7⟩
  have b3:¬(i:Z)<(Y.length:Z):=Aa;have d:ans=true:=by rw[uh n];exact Zp (λh=>hy h.2)
  subst d;exact zD
 have b2:¬(i:Z)<(X.length:Z):=Aa;have d:ans=true:=by rw[uh n];exact Zp (λh=>m h.1)
 subst d;exact zD
def Dc(w:U)(a:Addr)(T:E Bw):Prop:= ∀i,i<T.length->w.cell? (a.add (i*3))=J (G (T.getD i AA).nm)/\w.cell? ⟨(a.add (i*3)).block,(a.add (i*3)).off+1,O⟩=J (.bool (T.getD i AA).ln)/\w.cell? ⟨(a.add (i*3)).block,(a.add (i*3)).off+2,O⟩=J (G (T.getD i AA).dt)
def Br{w:U}{p:Addr}{v:β}(h:w.cell? p=J v):p.block<w.heap.size:=by
 rcases sb p.block w.heap.size with hlt|hge
 .exact hlt
 have:w.cell? p=none:=by simp[World.cell?,se hge]
 rw[this] at h;cases h
def Dc.kept{S:N->Prop}{w w' :U}{a:Addr}{T:E Bw}(h:Dc w a T)(c:Ag S w w')(d:¬S a.block):Dc w' a T:=λi j=>by
 obtain⟨e,f,g⟩:=h i j;have b:(a.add (i*3)).block=a.block:=by unfold Addr.add;split<;>rfl
 exact⟨(c.cell (Br e) (by rw[b];exact d)).trans e,(c.cell (p:=⟨(a.add (i*3)).block,(a.add (i*3)).off+1,O⟩) (Br f) (by rw[b];exact d)).trans f,(c.cell (p:=⟨(a.add (i*3)).block,(a.add (i*3)).off+2,O⟩) (Br g) (by rw[b];exact d)).trans g⟩
def Dc.old{w w' :U}{a:Addr}{T:E Bw}(h:Dc w a T)(b:Al w w'):Dc w' a T:=h.kept b (λx=>x)
def Jv(s:Y)(i:N)(e:Bw):Bool:= !e.ln&&Γ (e.nm=s.extract 0 i++Pi)
def IW(T:E Bw)(s:Y)(i:N):Bool:=Γ (As s i=47)&&T.any (Jv s i)
def fM{T:E Bw}{s:Y}{i:N}(a:i<s.size)(h:IW T s i=θ):NO T s=true:=sc.2 ⟨i,rJ.2 a,h⟩
def ks{T:E Bw}{s:Y}(h: ∀i,i<s.size->IW T s i=ι):NO T s=false:=by
 rw[NO,tn];intro i a;have:=h i (rJ.1 a);rw[IW] at this;rw[uT] at this;exact this
def bI{T:E Bw}{s:Y}{i k:N}(a:k<T.length)(b:As s i=47)(h:Jv s i (T.getD k AA)=θ):IW T s i=true:=by
 rw[IW,qZ b,tj,sc];rw[qT,qY a] at h;exact⟨T[k],ro a,h⟩
def fO{T:E Bw}{s:Y}{i:N}(h: ∀k,k<T.length->Jv s i (T.getD k AA)=ι):IW T s i=false:=by
 rw[IW,Bool.and_eq_false_iff]
 right
 rw[tn];intro e b;obtain⟨k,a,rfl⟩:=sH b;have:=h k a;rw[qT,qY a] at this;rw[uT] at this;exact this
def ku(a:Addr)(cap:N)(T:E Bw)(hT:T.length<=200)(s:Y)(hs:s.size<=2000000)(w:U)(P:Dc w a T):Calls prog 290 #[K (J a) T.length cap,G s] w λr w' =>r=.returned (.bool (NO T s))/\Al w w' :=by
 have S:=Af P;have HO:=Af (Ag.refl (λ_=>False) w);have V:χ (∀i,i<s.size->IW T s i=θ->NO T s=θ):=λi L h=>fM L h
 have R:χ ((∀i,i<s.size->IW T s i=ι)->NO T s=ι):=ks;generalize NO T s=ans at*;clear P;go_in;go_wp2;go_loopw [5,6] (λx _ wr=> ∃i:N,i<=s.size/\x=I Q i/\χ (∀j,j<i->IW T s j=ι)/\χ (Al w wr)) (λx _ _=>s.size- (intOf x).toNat)
 .exact ⟨0,Aa,rfl,λj h=>Aa,HO⟩
 obtain⟨i,L,rfl,v,HO⟩:=hrel;by_cases t:i<s.size
 .have u:(i:Z)<(s.size:Z):=Aa;have X:=AC (s:=s) (k:=i) t;by_cases f:As s i=47
  .have n:χ (∀k,k<T.length->Jv s i (T.getD k AA)=θ->ans=θ):=λk M h=>V i t (bI M f h)
   have a0: ∀W,(Instr.slice 9 (G s) O (J (I Q (i:Z))) O).run prog W=.ok (G (s.extract 0 i)) W:=λW=>tz W 9 s underlying9 .i64 i Aa Aa
   have m:χ (∀e,Jv s i e=(!e.ln&&Γ (e.nm=s.extract 0 i++Pi))):=λe=>rfl
   have H: ∀W,(Op.stringOp .add (s.extract 0 i) ⟨#[47,103,111,46,109,111,100]⟩).run prog W=.ok (G (s.extract 0 i++Pi)) W:=λW=>ry W _ _ (by have:=Fe s 0 i;have e7:(⟨#[47,103,111,46,109,111,100]⟩:Y).size=7:=rfl;omega)
   rw[f] at X;obtain⟨w0,C⟩: ∃w0,wr=w0:=⟨_,rfl⟩;subst C;clear f;generalize s.extract 0 i++Pi=q at*;generalize s.extract 0 i=z at*;go_wp2;go_loopw [6] (λy wr=> ∃k:N,k<=T.length/\y=I Q k/\χ (∀j,j<k->Jv s i (T.getD j AA)=ι)/\χ (Al w wr)) (λy _=>T.length- (intOf y).toNat)
   .exact ⟨0,Aa,rfl,λj h=>Aa,HO⟩
   clear HO;obtain⟨k,M,rfl,A,HO⟩:=hrel;by_cases o:k<T.length
   .have p:(k:Z)<(T.length:Z):=Aa;obtain⟨h1,h2,h3⟩:=S.old (uh HO) k o;have d:=Af (n k o);have b:χ (Jv s i (T.getD k AA)=ι-> ∀j,j<k+1->Jv s i (T.getD j AA)=ι):=λh j B=>by
     by_cases e:j=k
     .rw[e];exact h
     exact A j Aa
    have g:=Af (m (T.getD k AA));generalize Jv s i (T.getD k AA)=eh at*;generalize T.getD k AA=e at*;obtain⟨nm,ln,dt⟩:=e;simp only at*;cases ln with
    |true=>
     have HB3:=Af (b (uh g));clear b g d;exact Wd
    |false=>
     have D:=Qd nm q;by_cases l:nm=q
     .rw[qZ l] at D;have c:ans=true:=d (by rw[uh g,qZ l];rfl);subst c;clear b g d l;go_wp2_with fail;go_quiet (fail);go_wp2;go_ret;exact⟨rfl,HO.drewN _⟩
     rw[qX l] at D;have HB3:=Af (b (by rw[uh g,qX l];rfl));clear b g d l;exact Wd
   have p:¬(k:Z)<(T.length:Z):=Aa;have HA2:χ (∀j,j<i+1->IW T s j=ι):=λj B=>by
    by_cases e:j=i
    .rw[e];exact fO (λq hq=>A q Aa)
    exact v j Aa
   clear A n m;exact aaD
  have HA2:χ (∀j,j<i+1->IW T s j=ι):=λj B=>by
   by_cases e:j=i
   .rw[e,IW,qX f];rfl
   exact v j Aa
  have F:¬((As s i:Z)=47):=Aa;exact aaD
 have u:¬(i:Z)<(s.size:Z):=Aa;have c:ans=false:=R (λj B=>v j Aa);subst c;exact zD
def qu(ln h n v f:Bool):N:=if ln then 1 else if h then 4 else if n then 3 else if v then 2 else if f then 0 else 5
def kw(a:Addr)(cap:N)(T:E Bw)(F:T.length<=200)(A: ∀e∈T,e.nm.size<=2000000)(k:N)(q:k<T.length)(w:U)(s:Dc w a T):Calls prog 198 #[K (J a) T.length cap,I Q (k:Z)] w λr w' =>r=.returned (I Q (fG T (T.getD k AA):Z))/\Al w w' :=by
 obtain⟨B,C,D⟩:=s k q;have f:(T.getD k AA).nm.size<=2000000:=by rw[qT,qY q];exact A _ (ro q)
 have H:(k:Z)<(T.length:Z):=Aa;have z:=Af s;have j:χ (fG T (T.getD k AA)=qu (T.getD k AA).ln (UJ (T.getD k AA).nm) (NO T (T.getD k AA).nm) (NM (T.getD k AA).nm) (JY (T.getD k AA).nm)):=rfl;have t:=Af (λW=>kh (T.getD k AA).nm f W);have u:=Af (λW h=>ku a cap T F (T.getD k AA).nm f W h);have v:=Af (λW=>bG (T.getD k AA).nm f W);have x:=Af (λW=>MS (T.getD k AA).nm f W);clear s A;generalize fG T (T.getD k AA)=ans at*;generalize UJ (T.getD k AA).nm=bh at*;generalize NO T (T.getD k AA).nm=bn at*;generalize NM (T.getD k AA).nm=bv at*;generalize JY (T.getD k AA).nm=bf at*;generalize T.getD k AA=e at*;obtain⟨nm,ln,dt⟩:=e;simp only at*;have y:χ (Al w (w.alloc (γ #[G nm,.bool ln,G dt] 39))):=(Ag.refl _ w).alloc _;have l:=Af (Rh.made w nm ln dt);have p:=rh w (γ #[G nm,.bool ln,G dt] 39);go_in;go_wp2_with fail;clear B C D p;generalize w.alloc (γ #[G nm,.bool ln,G dt] 39)=W at*;refine(t W).mono ?_;rintro r w1 ⟨rfl,d⟩;have b:=Af (l.old d);have i:=Af (y.trans d);have n:=Af (z.old (uh i));obtain⟨-,o,c1,c2⟩:=uh b;clear d t y l z;go_wp2_with fail;refine(u w1 (uh n)).mono ?_;rintro r w2 ⟨rfl,d⟩;have c:=Af (b.old d);have m:=Af (i.trans d);clear o c1 c2;obtain⟨-,o,c1,c2⟩:=uh c;clear d u i b n;go_wp2_with fail;refine(v w2).mono ?_;rintro r w3 ⟨rfl,rfl⟩;clear v;go_wp2_with fail;refine(x w3).mono ?_;rintro r L ⟨rfl,d⟩;have g:=Af (c.old d);have HO4:=Af (m.trans d);clear o c1 c2;obtain⟨-,o,c1,c2⟩:=uh g;clear d x m c g;cases ln with
 |true=>
  have ha:ans=1:=uh j;exact Hy
 |false=>
  cases bh with
  |true=>
   have ha:ans=4:=uh j;exact Hy
  |false=>
   cases bn with
   |true=>
    have ha:ans=3:=uh j;exact Hy
   |false=>
    cases bv with
    |true=>
     have ha:ans=2:=uh j;exact Hy
    |false=>
     cases bf with
     |true=>
      have ha:ans=0:=uh j;exact Hy
     |false=>
      have ha:ans=5:=uh j;exact Hy
