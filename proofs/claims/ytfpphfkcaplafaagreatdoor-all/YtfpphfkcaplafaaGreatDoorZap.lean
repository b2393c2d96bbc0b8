import Derived.Test.YtfpphfkcaplafaaGreatDoorZao
set_option linter.all false
set_option maxHeartbeats 64000000
set_option maxRecDepth 100000
open _root_ renaming Option.some->J,Option.none->O,Int->Z,Nat->N,Go.Value.int->I,Go.Value.string->G,Go.IntKind.i64->Q,ByteArray->Y,List->E,Go.World->U,Go.Value.slice->K,Go.Value->M,Go.Obj.cells->W,Go.Value.pointer->V,Go.RowKit.Hid->C,Go.Proofs.Tryz.prog->F,Go.Ending.returned->ε,Go.Value.bool->ζ,Go.Value.tuple->η,Bool.true->θ,Bool.false->ι,Go.Calls->μ,UInt8->υ,Decidable.decide->Γ
variable{p s v:Y}{w w':U}
namespace Go.Proofs.YtfpphfkcaplafaaGreatDoor
open Go.RowKit Go.Maps Go.Proofs.Tryz
def xB:Kh 279 Gk:=by
 intro c w j;have y:=H<|yX c w j;have o:=H<|nM c w j;have b:C<|Gk c=(((On c||Cj c)||decide (c=46))||decide (c=45)):=rfl;generalize Gk c=J1 at*;cases d:On c with
 |true=>
  rw[d] at y b;have a:J1=true:=by rw[X b];rfl
  subst a;exact akl
 |false=>
  rw[d] at y b;cases f:Cj c with
  |true=>
   rw[f] at o b;have a:J1=true:=by rw[X b];rfl
   subst a;exact akp
  |false=>
   rw[f] at o b;by_cases g:c=46
   .have a:J1=true:=(by rw[X b,Wy g];rfl);subst a g;clear b d f;exact akp
   have i:((c:Z)==46)=false:=act
   by_cases h:c=45
   .have a:J1=true:=(by rw[X b,Wy h];simp);subst a h;clear b d f i g;exact akp
   have:((c:Z)==45)=false:=act
   have a:J1=false:=by rw[X b,Ww g,Ww h];rfl
   subst a;clear b d f h g;exact akp
def pm(s:Y)(d:s.size<=140737488355328)(w:U):
 μ F 278 #[G s,.func (.func 279) #[] #[]] w λr w'=>r=ε (ζ<|Cq Gk s)/\w'=w:=by
 have D:=H xB;have HB:=H λi (d:i<s.size) h=>KA (p:=Gk) (s:=s) d h;have c:=H<|IP (p:=Gk) (s:=s);go_in;go_wp2_with fail;go_loop [5,8] (λ_ x=>∃i:N,i<=s.size/\x=I Q i/\C (∀j,j<i->Gk (As s j)=θ)) λ_ x=>s.size-(intOf x).toNat
 .exact ahc
 obtain⟨i,d,rfl,g⟩:=hrel;by_cases R:i<s.size
 .have a:(i:Z)<s.size:=A;have d:=AA (s:=s) (k:=i) R;have d:=Bj s i;have HC:=H<|D (As s i) w d;cases hp:Gk (As s i) with
  |true=>
   rw[hp] at HC;have HN:C (∀j,j<i+1->Gk (As s j)=θ):=λj hj=>afF
   clear hp HB c D;exact aeZ
  |false=>
   exact akK
 exact akB
def QQ(e:Y):Bool:=Cq Nz e&& !Lib.hasPrefix e.data.toList (⟨#[46]⟩:Y).data.toList&& !Lib.hasSuffix e.data.toList (⟨#[46]⟩:Y).data.toList
def po(s:Y)(d:s.size<=2000000)(w:U):μ F 213 #[G s] w λr w'=>r=ε (ζ<|QQ s)/\w'=w:=by
 have y:=H<|rX s A w;have o:=H<|strings_HasPrefix s ⟨#[46]⟩ w;have c:=H<|strings_HasSuffix s ⟨#[46]⟩ w A;have b:C<|QQ s=(Cq Nz s&& !Lib.hasPrefix s.data.toList (⟨#[46]⟩:Y).data.toList&& !Lib.hasSuffix s.data.toList (⟨#[46]⟩:Y).data.toList):=rfl;generalize QQ s=J1,Cq Nz s=b1,Lib.hasPrefix s.data.toList (⟨#[46]⟩:Y).data.toList=b2,Lib.hasSuffix s.data.toList (⟨#[46]⟩:Y).data.toList=b3 at*;cases b1 with
 |false=>
  have a:J1=false:=by rw[X b];rfl
  subst a;exact akl
 |true=>
 cases b2 with
 |true=>
  have a:J1=false:=by rw[X b];rfl
  subst a;exact akp
 |false=>
  have a:J1= !b3:=by rw[X b];rfl
  subst a;clear b;go_in;go_wp2_with fail;apply y.mono;rintro e w1 ⟨rfl,rfl⟩;go_wp2_with fail;apply o.mono;rintro e w2 ⟨rfl,rfl⟩;go_wp2_with fail;apply c.mono;rintro e f ⟨rfl,rfl⟩;exact aet
def Ez(s:Y):Bool:=Cq Cj s&&Γ (s.size<=5)&&(Γ (s=⟨#[48]⟩)|| !Γ (As s 0=48))
def MR(s:Y):Bool:=Cq Gk s&&Γ (s.size<=20)
def Vo{p:N->Bool}(h:Cq p s=θ):0<s.size:=by
 rw[Cq,wo] at h;exact wn h.2
def Vq(s:Y)(a:s.size<=2000000)(w:U):μ F 212 #[G s] w λr w'=>r=ε (ζ<|Ez s)/\w'=w:=by
 have y:=H<|gv s A w;exact akk
def sM(s:Y)(f:s.size<=2000000)(w:U):μ F 211 #[G s] w λr w'=>r=ε (ζ<|MR s)/\w'=w:=by
 have y:=H<|pm s A w;have d:C<|MR s=(Cq Gk s&&Γ (s.size<=20)):=rfl;generalize MR s=J1,Cq Gk s=b1 at*;by_cases b:s.size<=20
 .have c:(s.size:Z)<=20:=A;have a:J1=b1:=by rw[X d,Wy b,Bool.and_true]
  subst a;cases J1 with
  |true=>
   exact akl
  |false=>
   exact akl
 have:Γ ((s.size:Z)<=20)=false:=Ww A;have a:J1=false:=by rw[X d,Ww b,Bool.and_false]
 subst a;cases b1 with
 |true=>
  exact akl
 |false=>
  exact akl
def NG(s:Y):Bool:=Γ (s.size<=80)&&((Bt s).all QQ&&Γ (0<=Lib.indexByte ((Bt s).getD 0 ⟨#[]⟩).data.toList 46))
def ku(s:Y)(w:U)(n:Cf w):μ F 145 #[G s] w λr w'=>r=ε (ζ<|NG s)/\Am w w':=by
 by_cases c:s.size<=80
 .have f:¬(80:Z)<(s.size:Z):=A;have q:=H<|Xv s A w n;have t:C<|NG s=((Bt s).all QQ&&Γ (0<=Lib.indexByte ((Bt s).getD 0 ⟨#[]⟩).data.toList 46)):=by unfold C;rw[NG,Wy c,aas]
  have v:(Bt s).length<=100:=agz;have k:0<(Bt s).length:=by rw[FK];omega
  have P:C (∀x∈Bt s,x.size<=100000):=λx hx=>by have:=UV hx;omega
  generalize NG s=J1,Bt s=L at*;clear n;go_in;go_wp2_with fail;apply q.mono;rintro e m ⟨rfl,u,n,v⟩;have HO:=H u;have y:=H v;clear u v n q;generalize w.heap.size=g at*;go_wp2_with fail;go_loop [5,13] (λ_ x=>∃i:N,i<=L.length/\x=I Q i/\C (∀j (h:j<L.length),j<i->QQ L[j]=θ)) λ_ x=>L.length-(intOf x).toNat
  .exact agc
  obtain⟨i,_,rfl,HT⟩:=hrel;by_cases o:i<L.length
  .have l:(i:Z)<L.length:=A;have n:=y i o;have a:=H<|po L[i] (WI (P _<|WJ o) A) m;cases b:QQ L[i] with
   |true=>
    rw[b] at a;have p :C (∀j (h:j<L.length),j<i+1->QQ L[j]=θ):=afC;clear b;generalize L[i]=z at*;go_wp2_with fail;apply a.mono;rintro e w' ⟨rfl,rfl⟩;clear a;exact afk
   |false=>
    rw[b] at a;have d:J1=false:=by
     have:L.all QQ=false:=by
      rw[aaR];exact agF
     rw[X t,this];rfl
    subst d;clear b;generalize L[i]=z at*;go_wp2_with fail;apply a.mono;rintro e w' ⟨rfl,rfl⟩;clear a;exact aeV
  have l:¬(i:Z)<L.length:=A;have a:(0:Z)<(L.length:Z):=A;have a:L.all QQ=true:=by
   rw[wC];exact afM
  have:=y 0 k;have l:L.getD 0 ⟨#[]⟩=L[0]:=by rw[Wq,Wv k];rfl
  have d:J1=Γ (0<=Lib.indexByte L[0].data.toList 46):=by rw[X t,a,l];rfl
  have D:=H<|strings_Contains_one L[0] 46 m;clear a l;generalize L[0]=z at*;have a:Γ (0<=Lib.indexByte z.data.toList 46)=J1:=d.symm;have k:C (μ F 214 #[G z,G ⟨#[46]⟩] m λr w'=>r=ε (ζ J1)/\w'=m):=by rw[<-a];exact D
  clear d a D;go_wp2_with fail;apply k.mono;rintro e w' ⟨rfl,rfl⟩;exact aeV
 have:(80:Z)<(s.size:Z):=A;have d:NG s=false:=by rw[NG,Ww c,aco]
 exact akP
def CS(s:Y):E Y:=Lib.splitB ⟨#[46]⟩ 0 (Lib.countB s ⟨#[46]⟩) s
def Vr(s:Y):(CS s).length=Lib.countB s ⟨#[46]⟩+1:=Lib.splitB_all _ Ac _ _ _ rfl
def aq{x:Y}(h:x∈CS s):x.size<=s.size:=Pw _ _ _ _ h
def pp(s:Y)(b:s.size<=2000000)(w:U)(a:Cf w):μ F 170 #[G s,G ⟨#[46]⟩] w λr w'=>r=ε (K (J ⟨w.heap.size,0,O⟩) (CS s).length (CS s).length)/\Am w w'/\w.heap.size<w'.heap.size/\∀i (h:i<(CS s).length),w'.cell? ⟨w.heap.size,i,O⟩=J (G (CS s)[i]):=by
 obtain⟨m,a⟩:=a;apply(strings_Split s ⟨#[46]⟩ m w A a Ac).mono;rintro _ w' ⟨rfl,rfl⟩;refine⟨by rw[Vr],(Ag.refl _ w).alloc _,by rw[WP];omega,λi a=>?_⟩;rw[Wu _ _ i _ _ (0,0)<|WD _ _];have:((CS s).map Value.string).toArray[i]? =J (G (CS s)[i]):=by simp[a]
 exact this
abbrev sV:Y:=⟨#[118]⟩
abbrev KH:Y:=⟨#[45]⟩
def DO(v:Y):Y:=⟨(Lib.trimPrefix v.data.toList sV.data.toList).toArray⟩
def Eh(v:Y):Y:=⟨(Lib.cut (DO v).data.toList KH.data.toList).1.toArray⟩
def MS(v:Y):Y:=⟨(Lib.cut (DO v).data.toList KH.data.toList).2.1.toArray⟩
def eG(v:Y):Bool:=(Lib.cut (DO v).data.toList KH.data.toList).2.2
def IG(v:Y):Option Y:=if Lib.hasPrefix v.data.toList sV.data.toList then(if eG v&& !MR (MS v) then O else if(CS<|Eh v).length=3/\(CS<|Eh v).all Ez=θ then J ((CS<|Eh v).getD 0 ⟨#[]⟩) else O) else O
def OD(v:Y):(DO v).size<=v.size:=by
 show((Lib.trimPrefix v.data.toList sV.data.toList).toArray).size<=v.data.size;rw[wK];unfold Lib.trimPrefix;split
 .rw[aad,wE];omega
 rw[wE];exact WF _
def pq(l a:E υ):(Lib.cut l a).1.length<=l.length/\(Lib.cut l a).2.1.length<=l.length:=by
 unfold Lib.cut;split
 .constructor
  .rw[hY];omega
  rw[aad];omega
 exact⟨WF _,wH _⟩
def XL(v:Y):(Eh v).size<=v.size:=by
 have a:=(pq (DO v).data.toList KH.data.toList).1;have:=OD v;have:(Eh v).size=(Lib.cut (DO v).data.toList KH.data.toList).1.length:=by show((Lib.cut (DO v).data.toList KH.data.toList).1.toArray).size=_;rw[wK]
 rw[<-Lib.size_eq] at a;omega
def gZ(v:Y):(MS v).size<=v.size:=by
 have a:=(pq (DO v).data.toList KH.data.toList).2;have:=OD v;have:(MS v).size=(Lib.cut (DO v).data.toList KH.data.toList).2.1.length:=by show((Lib.cut (DO v).data.toList KH.data.toList).2.1.toArray).size=_;rw[wK]
 rw[<-Lib.size_eq] at a;omega
def Ua(o:Option Y):Y:=o.getD ⟨#[]⟩
def pt(v:Y)(u:v.size<=2000000)(w:U)(y:Cf w):μ F 144 #[G v] w λr w'=>r=ε (η #[G<|Ua (IG v),ζ (IG v).isSome])/\Am w w':=by
 have H1:=H<|strings_CutPrefix v sV w;have HM:=H y;obtain⟨m,u⟩:=y;have y:=H (strings_Cut (DO v) KH m w (by have:=OD v;omega) u);have P:=H (λW=>sM (MS v) (by have:=gZ v;omega) W);have u:=XL v;have t:C (IG v=if Lib.hasPrefix v.data.toList sV.data.toList then(if eG v&& !MR (MS v) then O else if(CS<|Eh v).length=3/\(CS<|Eh v).all Ez=θ then J ((CS<|Eh v).getD 0 ⟨#[]⟩) else O) else O):=rfl;have O9:C (∀x∈CS (Eh v),x.size<=2000000):=λx hx=>by have:=aq hx;omega
 have u:(CS<|Eh v).length<=2000001:=by
  rw[Vr];have:=Lib.countB_le ⟨#[46]⟩ Ac (Eh v).size (Eh v)<|WF _;omega
 have s :C (μ F 210 #[G<|DO v,G KH] w λe w'=>e=ε (η #[G<|Eh v,G<|MS v,ζ<|eG v])/\∃n,w'=w.drewN n):=X y;have l :C (μ F 209 #[G v,G sV] w λe w'=>e=ε (η #[G<|DO v,ζ<|Lib.hasPrefix v.data.toList sV.data.toList])/\w'=w):=X H1;generalize IG v=J1,Lib.hasPrefix v.data.toList sV.data.toList=pf,DO v=r0,Eh v=a,MS v=mk,eG v=c at*;generalize MR mk=mb at*;cases pf with
 |false=>
  have d:J1=none:=by rw[X t];rfl
  subst d;go_in;go_wp2_with fail;apply l.mono;rintro e w1 ⟨rfl,rfl⟩;go_wp2;go_ret2;exact⟨rfl,Ag.refl _ _⟩
 |true=>
  cases c with
  |true=>
   cases mb with
   |false=>
    have d:J1=none:=(by rw[X t];rfl);subst d;go_in;go_wp2_with fail;apply l.mono;rintro e w1 ⟨rfl,rfl⟩;go_wp2_with fail;apply s.mono;rintro e T ⟨rfl,f,rfl⟩;go_wp2_with fail;apply(P _).mono;rintro e w3 ⟨rfl,rfl⟩;go_wp2;go_ret2;exact⟨rfl,(Ag.refl _ _).drewN f⟩
   |true=>
    have k:C (J1=if(CS a).length=3/\(CS a).all Ez=θ then J ((CS a).getD 0 ⟨#[]⟩) else O):=X t;go_in;go_wp2_with fail;apply l.mono;rintro e w1 ⟨rfl,rfl⟩;go_wp2_with fail;apply s.mono;rintro e T ⟨rfl,f,rfl⟩;go_wp2_with fail;apply(P _).mono;rintro e w3 ⟨rfl,rfl⟩;exact aex
  |false=>
   have k:C (J1=if(CS a).length=3/\(CS a).all Ez=θ then J ((CS a).getD 0 ⟨#[]⟩) else O):=X t;go_in;go_wp2_with fail;apply l.mono;rintro e w1 ⟨rfl,rfl⟩;go_wp2_with fail;apply s.mono;rintro e T ⟨rfl,f,rfl⟩;exact aex
def QR(l:Y):Bool:=Lib.hasPrefix l.data.toList sV.data.toList&&Cq Cj (DO l)
def kw(l:Y)(g:l.size<=2000000)(w:U):μ F 216 #[G l] w λr w'=>r=ε (ζ<|QR l)/\w'=w:=by
 have d:C (μ F 209 #[G l,G sV] w λe w'=>e=ε (η #[G<|DO l,ζ<|Lib.hasPrefix l.data.toList sV.data.toList])/\w'=w):=strings_CutPrefix l sV w;have f:=H (gv (DO l) (by have:=OD l;omega) w);have c:C<|QR l=(Lib.hasPrefix l.data.toList sV.data.toList&&Cq Cj (DO l)):=rfl;generalize QR l=J1 at*;generalize Lib.hasPrefix l.data.toList sV.data.toList=pf at*;generalize Cq Cj (DO l)=b at*;generalize DO l=z at*;cases pf with
 |false=>
  have a:J1=false:=by rw[X c];rfl
  subst a;go_in;go_wp2_with fail;refine d.mono ?_;exact akn
 |true=>
  have a:J1=b:=by rw[X c];rfl
  subst a;clear c;go_in;go_wp2_with fail;refine d.mono ?_;rintro e w1 ⟨rfl,rfl⟩;go_wp2_with fail;refine f.mono ?_;exact akr
def Ca(s:Y):Y:=s.extract (Lib.lastIndexByte s 47+1).toNat s.size
def au(s:Y):∃p:N,Lib.lastIndexByte s 47+1=(p:Z)/\p<=s.size:=by
 rcases Lib.lastIndexByte_spec s 47 with⟨h,_⟩|⟨i,h,_,_⟩
 .exact ⟨0,A,wH _⟩
 exact⟨i+1,A,A⟩
def MT(s m:Y):Bool:=if m=⟨#[48]⟩\/m=⟨#[49]⟩ then !QR (Ca s) else Γ (Ca s=sV++m)
def pu(s m:Y)(k:s.size<=2000000)(f:m.size<=2000000)(w:U):μ F 146 #[G s,G m] w λr w'=>r=ε (ζ<|MT s m)/\w'=w:=by
 have d:=H<|strings_LastIndexByte s 47 A w;obtain⟨p,f,_⟩:=au s;have:∀a,(Instr.slice 9 (G s) (J<|I Q (p:Z)) O O).run F a=.ok (G<|Ca s) a:=λa=>by
  have h:=aaz a 9 s underlying9 .i64 p A A;rw[Ca,f,ww];exact h
 have f:(Ca s).size<=2000000:=WI (Gl _ _ _) k;have g:=H<|kw (Ca s) f w;have b:C (MT s m=if m=⟨#[48]⟩\/m=⟨#[49]⟩ then !QR (Ca s) else Γ (Ca s=sV++m)):=rfl;have i:(m.toList==[48])=Γ (m=⟨#[48]⟩):=Fw m _;have j:(m.toList==[49])=Γ (m=⟨#[49]⟩):=Fw m _;have:∀a,(Op.stringOp .add ⟨#[118]⟩ m).run F a=.ok (G<|sV++m) a:=λa=>WR a _ _ (by have:(⟨#[118]⟩:Y).size=1:=rfl;omega)
 have n:=TG (Ca s)<|sV++m;generalize MT s m=J1 at*;generalize sV++m=vm at*;generalize QR (Ca s)=ew at*;generalize Ca s=l at*;generalize Lib.lastIndexByte s 47=ix at*;by_cases h0:m=⟨#[48]⟩
 .rw[Wy h0] at i;have a:J1= !ew:=by rw[X b,Wz (.inl h0)]
  subst a;clear b h0;go_in;go_wp2_with fail;refine d.mono ?_;rintro e w1 ⟨rfl,rfl⟩;go_wp2_with fail;refine g.mono ?_;exact akr
 rw[Ww h0] at i;by_cases c:m=⟨#[49]⟩
 .rw[Wy c] at j;have a:J1= !ew:=by rw[X b,Wz (.inr c)]
  subst a;clear b h0 c;go_in;go_wp2_with fail;refine d.mono ?_;rintro e w1 ⟨rfl,rfl⟩;go_wp2_with fail;refine g.mono ?_;exact akr
 rw[Ww c] at j;have a:J1=Γ (l=vm):=by rw[X b,Wx λh=>h.elim h0 c]
 rw[<-a] at n;clear b h0 c a;go_in;go_wp2_with fail;refine d.mono ?_;exact akn
def GL(s v:Y):Option Y:=if(IG v).isSome&&NG s&&MT s (Ua<|IG v) then J (((s++⟨#[64]⟩)++v)++⟨#[47]⟩) else O
def sN(v:Y):(Ua<|IG v).size<=v.size:=by
 unfold IG;split
 .split
  .exact wH _
  split
  .rename_i h;have a:0<(CS<|Eh v).length:=A;show((CS<|Eh v).getD 0 ⟨#[]⟩).size<=_;rw[Wq,Wv a];exact WI (aq<|WJ a)<|XL v
  exact wH _
 exact wH _
def XM(s v:Y)(f:s.size<=2000000)(c:v.size<=2000000)(w:U)(b:Cf w):μ F 82 #[G s,G v] w λr w'=>r=ε (η #[G<|Ua (GL s v),ζ (GL s v).isSome])/\Am w w':=by
 have y:=H<|pt v c w b;have HM:=H b;have o:=H λa h=>ku s a h;have H3:=H λa=>pu s (Ua<|IG v) f (WI (sN v) c) a;have HD:C (GL s v=if(IG v).isSome&&NG s&&MT s (Ua<|IG v) then J (((s++⟨#[64]⟩)++v)++⟨#[47]⟩) else O):=rfl;have c:(⟨#[64]⟩:Y).size=1:=rfl;have f:(⟨#[47]⟩:Y).size=1:=rfl;have:∀a,(Op.stringOp .add s ⟨#[64]⟩).run F a=.ok (G<|s++⟨#[64]⟩) a:=λa=>WR a _ _ A
 have:∀a,(Op.stringOp .add (s++⟨#[64]⟩) v).run F a=.ok (G ((s++⟨#[64]⟩)++v)) a:=λa=>WR a _ _ akV
 have:∀a,(Op.stringOp .add ((s++⟨#[64]⟩)++v) ⟨#[47]⟩).run F a=.ok (G (((s++⟨#[64]⟩)++v)++⟨#[47]⟩)) a:=λa=>WR a _ _<|by rw[WC,WC];omega
 clear b c f;generalize(((s++⟨#[64]⟩)++v)++(⟨#[47]⟩:Y))=q3 at*;generalize((s++⟨#[64]⟩)++v:Y)=q2 at*;generalize(s++⟨#[64]⟩:Y)=q1 at*;generalize GL s v=J1 at*;generalize MT s (Ua<|IG v)=ef at*;generalize(IG v).isSome=mj at*;generalize Ua (IG v)=mm at*;generalize NG s=md at*;cases mj with
 |false=>
  have d:J1=none:=by rw[X HD];rfl
  subst d;clear HD;go_in;go_wp2_with fail;refine y.mono ?_;rintro e w1 ⟨rfl,q⟩;have u:=H q;clear q;go_wp2;go_ret2;exact⟨rfl,u⟩
 |true=>
  cases md with
  |false=>
   have d:J1=none:=by rw[X HD];rfl
   subst d;clear HD;go_in;go_wp2_with fail;refine y.mono ?_;rintro e w1 ⟨rfl,q⟩;have u:=H q;clear q;go_wp2_with fail;refine(o w1<|HM.old u).mono ?_;rintro e w2 ⟨rfl,P⟩;have T:=H<|u.trans P;clear P;go_wp2;go_ret2;exact⟨rfl,T⟩
  |true=>
   cases ef with
   |false=>
    have d:J1=none:=(by rw[X HD];rfl);exact afu
   |true=>
    have d:J1=J q3:=(by rw[X HD];rfl);exact afu
def XN(s:Y)(d:s.size<=2000000)(w:U):μ F 88 #[G s] w λr w'=>r=ε (ζ<|Cq Cj s)/\w'=w:=by
 have D:=H si;have HB:=H λi (d:i<s.size) h=>KA (p:=Cj) (s:=s) d h;have c:=H<|IP (p:=Cj) (s:=s);go_in;go_wp2_with fail;go_loop [3,4] (λx _=>∃i:N,i<=s.size/\x=I Q i/\C (∀j,j<i->Cj (As s j)=θ)) λx _=>s.size-(intOf x).toNat
 .exact ahc
 obtain⟨i,d,rfl,g⟩:=hrel;by_cases R:i<s.size
 .have a:(i:Z)<s.size:=A;have d:=AA (s:=s) (k:=i) R;have d:=Bj s i;have HC:=H<|D (As s i) w d;cases hp:Cj (As s i) with
  |true=>
   rw[hp] at HC;have HN:C (∀j,j<i+1->Cj (As s j)=θ):=λj hj=>afF
   clear hp HB c D;exact aeZ
  |false=>
   exact akK
 exact akB
def aw(s:Y)(a:s.size<=2000000)(w:U):μ F 87 #[G s] w λr w'=>r=ε (ζ<|Ez s)/\w'=w:=by
 have y:=H<|XN s a w;exact akk
def xC(s:Y)(P:s.size<=2000000)(w:U):μ F 85 #[G s] w λr w'=>r=ε (ζ<|MR s)/\w'=w:=by
 have x:=H zh;have y:=H si;have HB:=H λi (D:i<s.size) h=>KA (p:=Gk) (s:=s) D h;have HG:=H<|IP (p:=Gk) (s:=s);have t:C<|MR s=(Cq Gk s&&Γ (s.size<=20)):=rfl;generalize MR s=J1 at*;go_in;go_wp2_with fail;go_loop [3,4] (λa _=>∃i:N,i<=s.size/\a=I Q i/\C (∀j,j<i->Gk (As s j)=θ)) λa _=>s.size-(intOf a).toNat
 .exact ahc
 obtain⟨i,D,rfl,g⟩:=hrel;by_cases D:i<s.size
 .have L:(i:Z)<s.size:=A;have P:=AA (s:=s) (k:=i) D;have P:=Bj s i;have o:=H<|x (As s i) w P;have b:=H<|y (As s i) w P;have l:C (Gk (As s i)=θ-> ∀j,j<i+1->Gk (As s j)=θ):=λhp j hj=>afF
  have d:C<|Gk (As s i)=(((On (As s i)||Cj (As s i))||decide (As s i=46))||decide (As s i=45)):=rfl;have f:=H<|HB i D;clear HB HG x y g;cases q:On (As s i) with
  |true=>
   have HN:=H (l<|by rw[X d,q];rfl);rw[q] at o;clear l d f q;generalize As s i=c at*;go_wp2_with fail;apply o.mono;rintro e w1 ⟨rfl,rfl⟩;exact afe
  |false=>
   rw[q] at o;cases v:Cj (As s i) with
   |true=>
    have HN:=H (l<|by rw[X d,q,v];rfl);rw[v] at b;clear l d f q v;exact akv
   |false=>
    rw[v] at b;by_cases m:As s i=46
    .have HN:=H (l<|by rw[X d,Wy m];simp);have D:((As s i:Z) !=46)=false:=(by rw[m];rfl);clear l d f q v m;exact akv
    have D:((As s i:Z) !=46)=true:=akQ;by_cases n:As s i=45
    .have HN:=H (l<|by rw[X d,Wy n];simp);have D:((As s i:Z) !=45)=false:=(by rw[n];rfl);clear l d f q v m n;exact akv
    have:((As s i:Z) !=45)=true:=akQ;have a:J1=false:=by
     rw[X t,f<|by rw[X d,q,v,Ww m,Ww n];rfl];rfl
    subst a;clear l d f q v m n;generalize As s i=c at*;go_wp2_with fail;apply o.mono;rintro e w1 ⟨rfl,rfl⟩;go_wp2_with fail;apply b.mono;exact akr
 have:¬(i:Z)<s.size:=A;have d:=H (HG λj hj=>g j A);have u:=DH s;rw[X d] at t;clear HB HG x y g d;by_cases h0:s.size=0
 .have a:J1=false:=by rw[X t,Ww (show ¬0<s.size by omega)];rfl
  have R:Γ (0<s.size)=false:=Ww A;have S:s.toList.isEmpty=true:=by rw[u,R];rfl
  subst a;clear u R t;exact aet
 have:s.toList.isEmpty=false:=by rw[u,Wy (show 0<s.size by omega)];rfl
 rw[Wy (show 0<s.size by omega),aas] at t;clear u;by_cases z:s.size<=20
 .have T:(s.size:Z)<=20:=A;have a:J1=true:=by rw[X t];exact Wy z
  subst a;clear t;exact aet
 have:Γ ((s.size:Z)<=20)=false:=Ww A;have a:J1=false:=by rw[X t];exact Ww z
 subst a;clear t z;exact aet
def Td(c:N):Bool:=(Ip c||Cj c)||(Γ (c=46)||decide (c=45)||decide (c=95)||decide (c=126))
def PN(e:Y):Bool:= !Γ (e.size=0)&& !Γ (As e 0=46)&& !Γ (As e (e.size-1)=46)&&(List.range e.size).all λi=>Td<|As e i
def Te(s:Y):Bool:=Γ (s.size<=80)&&((Ax s 47).all PN&&NB ((Ax s 47).getD 0 ⟨#[]⟩) 46)
def pv:(List.range 256).all (λc=>Td c==Nz c)=true:=B
def sO{c:N}(h:c<256):Td c=Nz c:=by
 have:=wC.1 pv c<|wh.2 h;simpa using this
def Rp(h:s.size≠0)(u:υ):Lib.hasPrefix s.data.toList [u]=Γ (As s 0=u.toNat):=by
 have a:=EF (s:=s) (j:=0) A;have hl:0<s.data.toList.length:=by rw[<-Lib.size_eq];omega
 have c:=acA.1<|AN u.toNat_lt
 match hd:s.data.toList,hl with
 |x::r,_=>
  rw[hd] at a;have b:x=b8 (As s 0):=by have:=a.1;simpa using this
  by_cases e:As s 0=u.toNat
  .rw[Wy e,b,e,c];simp[Lib.hasPrefix]
  rw[Ww e];have:u≠x:=λc=>e<|by rw[<-a.2,<-b,<-c]
  rw[abU];intro a;exact this (List.cons_prefix_cons.1<|abl.1 a).1
def sP(e:Y):PN e=QQ e:=by
 have b:(List.range e.size).all (λi=>Td<|As e i)=(List.range e.size).all (λi=>Nz<|As e i):=by
  congr 1;funext i;exact sO<|Bj e i
 rw[PN,QQ,Cq,b];by_cases h:e.size=0
 .rw[Wy h,Ww (show ¬0<e.size by omega)];simp
 have b:Lib.hasPrefix e.data.toList (⟨#[46]⟩:Y).data.toList=Γ (As e 0=46):=Rp h 46;have f:Lib.hasSuffix e.data.toList (⟨#[46]⟩:Y).data.toList=Γ (As e (e.size-1)=46):=XD h 46;rw[b,f,Ww h,Wy (show 0<e.size by omega)];generalize(List.range e.size).all (λi=>Nz<|As e i)=a;generalize Γ (As e (e.size-1)=46)=c;generalize Γ (As e 0=46)=d;cases a<;>cases c<;>cases d<;>rfl
def xD(s:Y):NB s 46=Γ (0<=Lib.indexByte s.data.toList 46):=by
 have a:Lib.indexB s ⟨#[46]⟩=Lib.indexByte s.data.toList 46:=Lib.index_one _ _;rcases IX s 46 with⟨h,b⟩|⟨_,h,d,e,b⟩
 .rw[XA (c:=46) b,<-a,h];rfl
 rw[SE (c:=46) d e,<-a,h];exact(Wy A).symm
def sQ(s:Y):Te s=NG s:=by
 rw[Te,NG,IW s.size s<|WF _,xD];have:=funext sP;rw[this]
def ax(s:Y)(w:U):μ F 84 #[G s] w λr w'=>r=ε (ζ<|Te s)/\Am w w':=by
 by_cases a4:s.size<=80
 .have a5:¬(80:Z)<(s.size:Z):=A;have HD:C<|Te s=((Ax s 47).all PN&&NB ((Ax s 47).getD 0 ⟨#[]⟩) 46):=by unfold C;rw[Te,Wy a4];rfl
  have H1:=H<|Jt s 47 A w;have a6:C (∀x∈Ax s 47,x.size<=80):=λx hx=>by have:=EV hx;omega
  have b6:=Dm s 47;have a0:=EU s 47;generalize Te s=J1 at*;generalize Ax s 47=L at*;go_in;go_wp2_with fail;refine H1.mono ?_;rintro e w1 ⟨_,rfl,a7,ho⟩;have HS:=H a7;have HO:=H ho;obtain⟨_,_,hv, -, -⟩:=a7;subst hv;clear ho H1;go_wp2_with fail;go_loop [4,5,6,7] (λx _ _ _=>∃i:N,i<=L.length/\x=I Q i/\C (∀j (h:j<L.length),j<i->PN L[j]=θ)) λx _ _ _=>L.length-(intOf x).toNat
  .exact agc
  obtain⟨i,_,rfl,HT⟩:=hrel;by_cases a1:i<L.length
  .have a8:(i:Z)<L.length:=A;obtain⟨g,cp,hv,hc, -⟩:=HS.cell i a1;injection hv with a2 b4 a3;subst a2 a3;have b5:=a6 _<|WJ a1;have q:C<|PN L[i]=ι->J1=ι:=λh=>by
    have:L.all PN=false:=(by rw[aaR];exact⟨L[i],WJ a1,by rw[h];decide⟩);rw[X HD,this];rfl
   have p:C (PN L[i]=θ-> ∀j (h:j<L.length),j<i+1->PN L[j]=θ):=λh j hj _=>agX
   have T:C (PN L[i]=(!Γ (L[i].size=0)&& !Γ (As L[i] 0=46)&& !Γ (As L[i] (L[i].size-1)=46)&&(List.range L[i].size).all λj=>Td<|As L[i] j)):=rfl;generalize PN L[i]=mz at*;generalize L[i]=z at*;have f0:=DH z;by_cases a9:z.size=0
   .have f1:z.toList.isEmpty=true:=(by rw[f0,Ww (show ¬0<z.size by omega)];rfl);have d:=q (by rw[X T,Wy a9];rfl);subst d;clear f0 T q p;exact aeV
   have f1:z.toList.isEmpty=false:=by rw[f0,Wy (show 0<z.size by omega)];rfl
   have a1:0<z.size:=A;have a7:(0:Z)<(z.size:Z):=A;have b0:=AA (s:=z) (k:=0) a1;clear f0;by_cases f:As z 0=46
   .have d:=q (by rw[X T,Wy f];simp);subst d;rw[f] at b0;clear T q p f;exact aeV
   have D:((As z 0:Z)==46)=false:=act
   have a1:z.size-1<z.size:=A;have a7:(z.size:Z)-1=((z.size-1:N):Z):=A;have b1:=AA (s:=z) (k:=z.size-1) a1;by_cases P:As z (z.size-1)=46
   .have d:=q (by rw[X T,Wy P];simp);subst d;rw[P] at b1;clear T q p f P;exact aeV
   have a1:((As z (z.size-1):Z)==46)=false:=act
   have S:C (mz=(List.range z.size).all λj=>Td<|As z j):=by
    unfold C;rw[X T,Ww a9,Ww f,Ww P];simp
   clear T f P;go_wp2_with fail;clear b0 b1 D a1;go_loop [6,7] (λx _=>∃k:N,k<=z.size/\x=I Q k/\C (∀j,j<k->Td (As z j)=θ)) λx _=>z.size-(intOf x).toNat
   .exact ajD
   obtain⟨k,_,rfl,HI⟩:=hrel;by_cases b2:k<z.size
   .have b3:(k:Z)<z.size:=A;have P:=AA (s:=z) (k:=k) b2;have P:=Bj z k;have l:=H<|xc (As z k) w1 P;have b:=H<|si (As z k) w1 P;have n:C (Td (As z k)=θ-> ∀j,j<k+1->Td (As z j)=θ):=λm j hj=>by
     by_cases e:j<k
     .exact HI j e
     have:j=k:=A;subst this;exact m
    have m:C<|Td (As z k)=((Ip (As z k)||Cj (As z k))||(Γ (As z k=46)||decide (As z k=45)||decide (As z k=95)||decide (As z k=126))):=rfl;have o:C<|Td (As z k)=ι->J1=ι:=λh=>q (by
     rw[X S,aaR];exact⟨k,wh.2 b2,by rw[h];decide⟩)
    clear HI q p S;cases y:Ip (As z k) with
    |true=>
     have HN:=H (n<|by rw[X m,y];rfl);rw[y] at l;clear n m o y;generalize As z k=c at*;go_wp2_with fail;refine l.mono ?_;rintro e w2 ⟨rfl,rfl⟩;go_wp2_with fail;go_round
     .exact ⟨k+1,A,by go_num,HN⟩
     exact Ae
    |false=>
     rw[y] at l;cases R:Cj (As z k) with
     |true=>
      have HN:=H (n<|by rw[X m,y,R];rfl);rw[R] at b;clear n m o y R;exact aeM
     |false=>
      rw[R] at b;by_cases f:As z k=46
      .have HN:=H (n<|by rw[X m,Wy f];simp);have D:((As z k:Z) !=46)=false:=(by rw[f];rfl);clear n m o y R f;exact aeM
      have D:((As z k:Z) !=46)=true:=akQ;by_cases u:As z k=45
      .have HN:=H (n<|by rw[X m,Wy u];simp);have D:((As z k:Z) !=45)=false:=(by rw[u];rfl);clear n m o y R f u;exact aeM
      have D:((As z k:Z) !=45)=true:=akQ;by_cases v:As z k=95
      .have HN:=H (n<|by rw[X m,Wy v];simp);have D:((As z k:Z) !=95)=false:=(by rw[v];rfl);clear n m o y R f u v;exact aeM
      have D:((As z k:Z) !=95)=true:=akQ;by_cases t:As z k=126
      .have HN:=H (n<|by rw[X m,Wy t];simp);have D:((As z k:Z) !=126)=false:=(by rw[t];rfl);clear n m o y R f u v t;exact aeM
      have:((As z k:Z) !=126)=true:=akQ;have d:=o (by rw[X m,y,R,Ww f,Ww u,Ww v,Ww t];rfl);subst d;clear n m o y R f u v t;generalize As z k=c at*;go_wp2_with fail;refine l.mono ?_;rintro e w2 ⟨rfl,rfl⟩;go_wp2_with fail;refine b.mono ?_;rintro e w3 ⟨rfl,rfl⟩;exact aeV
   have:¬(k:Z)<z.size:=A;have a:=H (p<|by rw[X S,wC];intro j hj;exact HI j<|by have:=wh.1 hj;omega);clear q p S HI;exact afR
  have:¬(i:Z)<L.length:=A;have f:(0:Z)<(L.length:Z):=A;obtain⟨g,cp,hv,hc, -⟩:=HS.cell 0 a0;injection hv with a2 b4 a3;subst a2 a3;have f:L.all PN=true:=by
   rw[wC];exact afM
  have m:L.getD 0 ⟨#[]⟩=L[0]:=by rw[Wq,Wv a0];rfl
  have d:NB L[0] 46=J1:=by rw[X HD,f,m];rfl
  have H3:=H (sg L[0] 46 (by have:=a6 _<|WJ a0;omega) w1);rw[d] at H3;clear f m d HD;generalize L[0]=z at*;go_wp2_with fail;refine H3.mono ?_;rintro e w' ⟨rfl,rfl⟩;exact aeV
 have:(80:Z)<(s.size:Z):=A;have d:Te s=false:=by rw[Te,Ww a4];rfl
 exact akP
def ay:∀(n:N) (s:Y),s.size<=n->Ax s 46=CS s:=by
 intro n;induction n with
 |zero=>
  intro s a;rw[CM λ_ _=>A,CS];rcases Lib.indexB_cases s ⟨#[46]⟩ with h|⟨i,h,_⟩
  .rw[Lib.splitB_miss _ _ _ _ h]
  have:(⟨#[46]⟩:Y).size=1:=rfl;omega
 |succ n f=>
  intro s a;rcases IX s 46 with⟨h,a⟩|⟨i,h,b,d,e⟩
  .rw[CS,Lib.splitB_miss _ _ _ _ h];exact CM a
  have a:As s i=46:=d;rw[Lc (c:=46) b a e,CS,Lib.countB_hit s ⟨#[46]⟩ i Ac h,acb 1<|Lib.countB _ _,Lib.splitB_hit _ _ _ _ i h,f _ akS]
  rfl
def OE(h:Lib.hasPrefix v.data.toList sV.data.toList=θ):DO v=v.extract 1 v.size:=by
 rw[DO,Lib.trimPrefix,Wz h];exact Mc v 1
def Vs(v:Y):(eG v=ι/\Eh v=DO v/\∀j,j<(DO v).size->As (DO v) j≠45)\/ ∃i,i<(DO v).size/\As (DO v) i=45/\(∀j,j<i->As (DO v) j≠45)/\eG v=θ/\Eh v=(DO v).extract 0 i/\MS v=(DO v).extract (i+1) (DO v).size:=by
 rcases IX (DO v) 45 with⟨h,b⟩|⟨i,h,c,d,b⟩
 .have a:=Lib.cutB_miss (DO v) KH h;exact .inl ⟨a.2.2,a.1,b⟩
 have a:=Lib.cutB_hit (DO v) KH i h;exact .inr ⟨i,c,d,b,a.2.2,a.1,a.2.1⟩
def sR{k:N}(h:k<s.size):((s.data[k]!).toNat:Z)=(As s k:Z):=by
 have e:As s k=s[k].toNat:=by rw[As,abB h]
 have a:k<s.data.size:=h;rw[e,acK s.data k a]
 rfl
def aA(s:Y):∀n,n<=s.size->((Ig s 47 n).2:Z)=Lib.lastIdx s 47 n+1
 |0,_=>rfl
 |n+1,_=>by
  have c:=aA s n A;have b:=sR (s:=s) (k:=n) A;by_cases a:As s n=47
  .rw[Oo s 47 n a,Lib.lastIdx_hit s 47 n<|by rw[b,a];rfl];simp only;omega
  rw[LY s 47 n a,Lib.lastIdx_miss s 47 n<|by rw[b];omega];exact c
def PO(s:Y):(Ax s 47).getD ((Ax s 47).length-1) ⟨#[]⟩=Ca s:=by
 have h:=aA s s.size<|WF _;have a:(Ax s 47).length=(Ig s 47 s.size).1.length+1:=by simp[Ax]
 rw[a,acB,Wq,Ax,WU<|WF _,abJ];show s.extract (Ig s 47 s.size).2 s.size=Ca s;rw[Ca,Lib.lastIndexByte,<-h,ww]
def pw(h:Te s=θ):0<(Ca s).size:=by
 rw[Te,wo,wo] at h;have a:=wC.1 h.2.1;have:=EU s 47;have b:=a ((Ax s 47)[(Ax s 47).length-1]'A)<|WJ _;have e:=PO s;rw[Wq,Wv A] at e;have a:(Ax s 47)[(Ax s 47).length-1]'A=Ca s:=e;rw[a,PN] at b;rcases aaD (Ca s).size with h0|h0
 .rw[Wy h0] at b;cases b
 exact h0
def Tf(s v:Y)(hs:s.size<=2000000)(hv:v.size<=2000000)(w:U):μ F 41 #[G s,G v] w λr w'=>r=ε (ζ (GL s v).isSome)/\Am w w':=by
 have y:=H<|ax s w;have b1:C<|Te s=θ->0<(Ca s).size:=pw;rw[sQ] at y b1;have HA:C ((GL s v).isSome=((IG v).isSome&&NG s&&MT s (Ua<|IG v))):=by
  unfold C GL;cases(IG v).isSome&&NG s&&MT s (Ua<|IG v)<;>rfl
 have b2:C<|Lib.hasPrefix v.data.toList sV.data.toList=ι->IG v=O:=λh=>by rw[IG,h];rfl
 have a0:C (Lib.hasPrefix v.data.toList sV.data.toList=θ->IG v=if eG v&& !MR (MS v) then O else if(CS<|Eh v).length=3/\(CS<|Eh v).all Ez=θ then J ((CS<|Eh v).getD 0 ⟨#[]⟩) else O):=λh=>by rw[IG,h];rfl
 generalize(GL s v).isSome=J1 at*;cases c0:NG s with
 |false=>
  have d:J1=false:=by rw[X HA,c0];simp
  rw[c0] at y;subst d;clear HA b2 a0 b1;exact afK
 |true=>
  have hlp:=b1 c0;rw[c0] at y HA;have c1:=DH v;by_cases e2:v.size=0
  .have f1:v.toList.isEmpty=true:=by rw[c1,Ww (show ¬0<v.size by omega)];rfl
   have b4:Lib.hasPrefix v.data.toList sV.data.toList=false:=by
    rw[abU];intro h;have:=(gG.1 h).1;have e:sV.size=1:=rfl;omega
   have d:J1=false:=by rw[X HA,b2 b4];rfl
   subst d;clear HA b2 a0 b1 c1 b4;exact afK
  have f1:v.toList.isEmpty=false:=by rw[c1,Wy (show 0<v.size by omega)];rfl
  have c0:=AA (s:=v) (k:=0) A;have e9:(0:Z)<(v.size:Z):=A;have b0:Lib.hasPrefix v.data.toList sV.data.toList=Γ (As v 0=118):=Rp e2 118;clear c1;by_cases a3:As v 0=118
  .rw[a3] at c0;have M4:Lib.hasPrefix v.data.toList sV.data.toList=true:=by rw[b0];exact Wy a3
   have a4:=H<|a0 M4;have f:∀W,(Instr.slice 9 (G v) (J<|I Q ((1:N):Z)) O O).run F W=.ok (G<|v.extract 1 v.size) W:=λW=>aaz W 9 v underlying9 .i64 1 A A
   have P:∀W,(Instr.slice 9 (G v) (J<|I Q 1) O O).run F W=.ok (G<|v.extract 1 v.size) W:=f;rw[<-OE M4] at P;have c0:=XL v;have c1:=OD v;have c5:=H<|Vs v;have c6:=H (λW=>xC (MS v) (by have:=gZ v;omega) W);have c2:C (∀x∈Ax (Eh v) 46,x.size<=2000000):=λx hx=>by have:=EV hx;omega
   rw[<-ay _ (Eh v) (WF _)] at a4;clear f b0 M4 b2 a0 b1 a3;rcases X c5 with⟨hB,hN,c0⟩|⟨i0,_,c4,d0,hB,hN,d1⟩
   .have a5:C (¬((Ax (Eh v) 46).length=3/\(Ax (Eh v) 46).all Ez=θ)->J1=ι):=λh=>by rw[X HA,X a4,hB,Wx Ad,Wx h];rfl
    have a1:C (((Ax (Eh v) 46).length=3/\(Ax (Eh v) 46).all Ez=θ)->J1=MT s ((Ax (Eh v) 46).getD 0 ⟨#[]⟩)):=λh=>by rw[X HA,X a4,hB,Wx Ad,Wz h];rfl
    have d2:=H c0;rw[<-hN] at P d2;clear c5 a4 HA hB hN c0 c6;generalize Eh v=n0 at*;go_in;go_wp2_with fail;refine y.mono ?_;rintro e w1 ⟨rfl,q⟩;have u:=H q;clear q y;go_wp2_with fail;go_loop [5,6,7] (λ_ a2 x=>∃i:N,i<=n0.size/\a2=G n0/\x=I Q i) λ_ _ x=>n0.size-(intOf x).toNat
    .exact ⟨0,A,rfl,rfl⟩
    obtain⟨i,hi,rfl,rfl⟩:=hrel;by_cases b3:i<n0.size
    .have a2:(i:Z)<n0.size:=A;have d3:=AA (s:=n0) (k:=i) b3;have e3:((As n0 i:Z)==45)=false:=(by rw[WA];have:=d2 i b3;omega);generalize As n0 i=c at*;go_wp2_with fail;go_round
     .exact ⟨i+1,A,rfl,by go_num⟩
     exact Ae
    have a2:¬(i:Z)<n0.size:=A;have a0:=H<|Jt n0 46 A w1;have e4:=Dm n0 46;go_wp2_with fail;refine a0.mono ?_;rintro e w2 ⟨vv,rfl,a,b5⟩;have D:=H a;have T:=H<|u.trans b5;obtain⟨ao,e5,n, -, -⟩:=a;subst n;clear b5 a0;generalize Ax n0 46=L at*;by_cases h3:L.length=3
    .have c7:(L.length:Z)=3:=A;have t:=H h3;clear h3;go_wp2_with fail;go_loop [5,9] (λ_ x=>∃i:N,i<=3/\x=I Q i/\C (∀j (h:j<L.length),j<i->Ez L[j]=θ)) (λ_ x=>3-(intOf x).toNat)
     .exact agc
     obtain⟨i,hi,rfl,HT⟩:=hrel;by_cases b3:i<3
     .have a2:(i:Z)<3:=A;have o:i<L.length:=by have:=X t;omega
      have d4:(i:Z)<L.length:=A;obtain⟨g,cp,n,hc, -⟩:=D.cell i o;injection n with a7 c8 a8;subst a7 a8;have HE:=H<|aw L[i] (WI (c2 _<|WJ o) A) w2;cases b:Ez L[i] with
      |true=>
       exact aky
      |false=>
       rw[b] at HE;have d:J1=false:=by
        have:L.all Ez=false:=ajg;exact a5 λh=>by rw[this] at h;cases h.2
       exact akC
     have a2:¬(i:Z)<3:=A;have a9:0<L.length:=by have:=X t;omega
     have d5:(0:Z)<(L.length:Z):=A;have a6:L.all Ez=true:=aiA;obtain⟨g,cp,n,S, -⟩:=D.cell 0 a9;injection n with a7 c8 a8;subst a7 a8;have hz:L.getD 0 ⟨#[]⟩=L[0]:=(by rw[Wq,Wv a9];rfl);have HAN:C<|J1=MT s L[0]:=by have:=a1 ⟨t,a6⟩;rw[hz] at this;exact this
     have d6:=c2 _<|WJ a9;have HPS:=H<|Jt s 47 hs w2;have d7:=Dm s 47;have d8:=EU s 47;have R:=H<|PO s;have HEF:C (MT s L[0]=if L[0]=⟨#[48]⟩\/L[0]=⟨#[49]⟩ then !QR (Ca s) else Γ (Ca s=sV++L[0])):=rfl;have e6:=BC S;clear a6 hz HT a5 a1;exact aes
    have c7:¬(L.length:Z)=3:=A;have d:=a5 λh=>h3 h.1;subst d;exact aga
   have b6:=c6;have a5:C<|MR (MS v)=θ->¬((Ax (Eh v) 46).length=3/\(Ax (Eh v) 46).all Ez=θ)->J1=ι:=λb7 h=>by rw[X HA,X a4,hB,b7,Wx Ac,Wx h];rfl
   have a1:C<|MR (MS v)=θ->((Ax (Eh v) 46).length=3/\(Ax (Eh v) 46).all Ez=θ)->J1=MT s ((Ax (Eh v) 46).getD 0 ⟨#[]⟩):=λb7 h=>by rw[X HA,X a4,hB,b7,Wx Ac,Wz h];rfl
   have c3:C<|MR (MS v)=ι->J1=ι:=λb7=>by rw[X HA,X a4,hB,b7];rfl
   have d9:∀W,(Instr.slice 9 (G<|DO v) (J<|I Q ((i0:Z)+1)) O O).run F W=.ok (G<|MS v) W:=λW=>by
    have h:=aaz W 9 (DO v) underlying9 .i64 ((i0+1:N):Z) A A;rw[d1];simpa using h
   have e0:∀W,(Instr.slice 9 (G<|DO v) O (J<|I Q (i0:Z)) O).run F W=.ok (G<|Eh v) W:=λW=>by
    have h:=aaN W 9 (DO v) underlying9 .i64 i0 A A;rw[hN];exact h
   have c0:(Eh v).size=i0:=by rw[hN,WM];omega
   have e1:=H d0;clear c5 a4 HA hB hN d1 d0 c6;generalize MR (MS v)=mb at*;generalize MS v=mk at*;generalize Eh v=n0 at*;generalize DO v=r0 at*;go_in;go_wp2_with fail;refine y.mono ?_;rintro e w1 ⟨rfl,q⟩;have u:=H q;clear q y;go_wp2_with fail;go_loop [5,6,7] (λ_ a4 x=>∃i:N,x=I Q i/\C ((a4=G r0/\i<=i0)\/(a4=G n0/\i=i0+1/\mb=θ))) λ_ _ x=>i0+1-(intOf x).toNat
   .exact ⟨0,rfl,.inl ⟨rfl,A⟩⟩
   obtain⟨i,rfl,HI⟩:=hrel;rcases X HI with⟨hy,a4⟩|⟨hy,a4,c9⟩
   .subst hy;have b3:i<r0.size:=A;have a2:(i:Z)<r0.size:=A;have d3:=AA (s:=r0) (k:=i) b3;by_cases e8:i=i0
    .subst e8;rw[c4] at d3;cases mb with
     |true=>
      clear HI c3 a5 a1;go_wp2_with fail;refine(b6 _).mono ?_;rintro e w' ⟨rfl,rfl⟩;go_wp2_with fail;go_round
      .exact ⟨i+1,by go_num,.inr ⟨rfl,rfl,trivial⟩⟩
      simp[intOf]
     |false=>
      have d:=c3 rfl;subst d;clear HI c3 a5 a1;go_wp2_with fail;refine(b6 _).mono ?_;rintro e w' ⟨rfl,rfl⟩;exact ago
    have e3:((As r0 i:Z)==45)=false:=(by rw[WA];have:=e1 i A;omega);clear HI;generalize As r0 i=c at*;go_wp2_with fail;go_round
    .exact ⟨i+1,by go_num,.inl ⟨rfl,A⟩⟩
    exact Ae
   subst hy;have b7:=H<|a5 c9;have b9:=H<|a1 c9;clear a5 a1;have a2:¬(i:Z)<n0.size:=A;clear HI c9 b6 c3 d9 e0 e1 c4;have a0:=H<|Jt n0 46 A w1;have e4:=Dm n0 46;go_wp2_with fail;refine a0.mono ?_;rintro e w2 ⟨vv,rfl,a,b5⟩;have D:=H a;have T:=H<|u.trans b5;obtain⟨ao,e5,n, -, -⟩:=a;subst n;clear b5 a0;generalize Ax n0 46=L at*;by_cases h3:L.length=3
   .have c7:(L.length:Z)=3:=A;have t:=H h3;clear h3;go_wp2_with fail;go_loop [5,9] (λ_ x=>∃i:N,i<=3/\x=I Q i/\C (∀j (h:j<L.length),j<i->Ez L[j]=θ)) (λ_ x=>3-(intOf x).toNat)
    .exact agc
    obtain⟨i,hi,rfl,HT⟩:=hrel;by_cases b3:i<3
    .have a2:(i:Z)<3:=A;have o:i<L.length:=by have:=X t;omega
     have d4:(i:Z)<L.length:=A;obtain⟨g,cp,n,hc, -⟩:=D.cell i o;injection n with a7 c8 a8;subst a7 a8;have HE:=H<|aw L[i] (WI (c2 _<|WJ o) A) w2;cases b:Ez L[i] with
     |true=>
      exact aky
     |false=>
      rw[b] at HE;have d:J1=false:=by
       have:L.all Ez=false:=ajg;exact b7 λh=>by rw[this] at h;cases h.2
      exact akC
    have a2:¬(i:Z)<3:=A;have a9:0<L.length:=by have:=X t;omega
    have d5:(0:Z)<(L.length:Z):=A;have a6:L.all Ez=true:=aiA;obtain⟨g,cp,n,S, -⟩:=D.cell 0 a9;injection n with a7 c8 a8;subst a7 a8;have hz:L.getD 0 ⟨#[]⟩=L[0]:=(by rw[Wq,Wv a9];rfl);have HAN:C<|J1=MT s L[0]:=by have:=b9 ⟨t,a6⟩;rw[hz] at this;exact this
    have d6:=c2 _<|WJ a9;have HPS:=H<|Jt s 47 hs w2;have d7:=Dm s 47;have d8:=EU s 47;have R:=H<|PO s;have HEF:C (MT s L[0]=if L[0]=⟨#[48]⟩\/L[0]=⟨#[49]⟩ then !QR (Ca s) else Γ (Ca s=sV++L[0])):=rfl;have e6:=BC S;clear a6 hz HT b7 b9;exact aes
   have:¬(L.length:Z)=3:=A;have d:=b7 λh=>h3 h.1;subst d;exact aga
  have b4:Lib.hasPrefix v.data.toList sV.data.toList=false:=by rw[b0];exact Ww a3
  have d:J1=false:=by rw[X HA,b2 b4];rfl
  have:((As v 0:Z) !=118)=true:=akQ
  subst d;clear HA b2 a0 b1 b4 b0 a3;generalize As v 0=c at*;exact afK
def OG(s v:Y)(a:s.size<=2000000)(b:v.size<=2000000)(w:U):μ F 42 #[G s,G v] w λr w'=>r=ε (G (((s++⟨#[64]⟩)++v)++⟨#[47]⟩))/\w'=w:=by
 have:(⟨#[64]⟩:Y).size=1:=rfl;have:(⟨#[47]⟩:Y).size=1:=rfl;have:∀a,(Op.stringOp .add s ⟨#[64]⟩).run F a=.ok (G<|s++⟨#[64]⟩) a:=λa=>WR a _ _ A
 have:∀a,(Op.stringOp .add (s++⟨#[64]⟩) v).run F a=.ok (G ((s++⟨#[64]⟩)++v)) a:=λa=>WR a _ _ akV
 have:∀a,(Op.stringOp .add ((s++⟨#[64]⟩)++v) ⟨#[47]⟩).run F a=.ok (G (((s++⟨#[64]⟩)++v)++⟨#[47]⟩)) a:=λa=>WR a _ _<|by rw[WC,WC];omega
 generalize(((s++⟨#[64]⟩)++v)++(⟨#[47]⟩:Y))=q3,((s++⟨#[64]⟩)++v:Y)=q2,(s++⟨#[64]⟩:Y)=q1 at*;go_in;exact aet
def Bq(n many:N)(hn:n<=4611686018427387904)(hm:many<=1000)(w:U):μ F 153 #[I Q (n:Z),I Q (many:Z)] w λr w'=>r=ε (G<|An (leB n many))/\Am w w':=by
 have v:C<|Am w w:=Ag.refl _ w;go_in;go_wp2;go_loopw [0,5,6] (λnv t x wr=>∃(k q:N) (z:Y),k<=many/\q<=4611686018427387904/\z.size<=k/\nv=I Q (q:Z)/\t=G z/\x=I Q (k:Z)/\C (q=n/2^(8*k)/\z=An (leB n k))/\C (Am w wr)) λ_ _ x _=>many-(intOf x).toNat
 .exact ⟨0,n,⟨#[]⟩,A,hn,WF _,rfl,rfl,rfl,⟨Ad,rfl⟩,v⟩
 obtain⟨k,q,z,hk,hq,hz,rfl,rfl,rfl,h,y⟩:=hrel;clear v;by_cases a0:k<many
 .have e:(k:Z)<many:=A;obtain⟨a,f⟩:∃a,q/256=a:=⟨_,rfl⟩;obtain⟨d,L⟩:∃d,q%256=d:=⟨_,rfl⟩;have p:d<256:=A;have:(q:Z).tmod 256=(d:Z):=alx
  have:(q:Z).tdiv 256=(a:Z):=by rw[adQ A];omega
  have g:a<=4611686018427387904:=A;have l:C<|a=n/2^(8*(k+1))/\z++⟨[b8 d].toArray⟩=An (leB n<|k+1):=by
   obtain⟨P,i2⟩:=X h;refine⟨?_,?_⟩
   .have b:2^(8*k)*256=2^(8*(k+1)):=(by rw[show 8*(k+1)=8*k+8 by omega,acm]);rw[<-f,P,Nat.div_div_eq_div_mul,b]
   rw[Zu,<-AF,i2,<-L,P];rfl
  have m:C<|Am w (wr.alloc<|W #[I .u8 (d:Z)] 5):=y.alloc _;have:(convert 64 9<|K (J ⟨wr.heap.size,0,O⟩) 1 1).run F (wr.alloc<|W #[I .u8 (d:Z)] 5)=.ok (G ⟨[b8 d].toArray⟩) (wr.alloc<|W #[I .u8 (d:Z)] 5):=
   abX _ 64 9 5 ⟨wr.heap.size,0,O⟩ 1 [b8 d] underlying64 underlying5 underlying9 (λj T=>by
    have s:j=0:=(by simpa using T);subst s;rw[we,Wu _ _ (0+0) _ _ (0,0)<|WD wr _];simp[AN p])
  have:∀i,(Op.stringOp .add z ⟨[b8 d].toArray⟩).run F i=.ok (G<|z++⟨[b8 d].toArray⟩) i:=λi=>WR i _ _ (by have S:(⟨[b8 d].toArray⟩:Y).size=1:=rfl;omega)
  have u:(z++⟨[b8 d].toArray⟩).size<=k+1:=by rw[WC];have:(⟨[b8 d].toArray⟩:Y).size=1:=rfl;omega
  clear h f L;generalize z++(⟨[b8 d].toArray⟩:Y)=z2 at*;generalize(⟨[b8 d].toArray⟩:Y)=z1 at*;go_wp2;go_roundw
  .exact ⟨k+1,a,z2,A,g,u,rfl,rfl,by go_num,l,m⟩
  exact Ae
 have:¬(k:Z)<many:=A;have c:k=many:=A;have R:C<|z=An (leB n many):=by rw[<-c];exact h.2
 clear c h;go_wp2;go_ret;exact⟨by rw[<-X R];rfl,y⟩
def vS(s:Y)(at_:N):N->N->N
 |0,_=>0
 |m+1,k=>As s (at_+k)+256*vS s at_ m (k+1)
def Jz(s:Y)(a:N):∀m k,vS s a m k<256^m
 |0,k=>by simp[vS]
 |m+1,k=>by
  have:=Jz s a m<|k+1;have:=Bj s<|a+k;rw[vS,abj];omega
def xE(s:Y)(a many:N)(o:s.size<=100000000)(q:many<=4)(t:a+many<=s.size)(w:U):μ F 157 #[G s,I Q (a:Z),I Q (many:Z)] w λr w'=>r=ε (I Q (vS s a many 0:Z))/\w'=w:=by
 go_in;go_wp2_with fail;go_loop [7,8] (λb x=>∃(k n:N),k<=many/\n<4294967296/\b=I Q (n:Z)/\x=I Q ((k:Z)-1)/\C (n=vS s a (many-k) k)) λ_ x=>((intOf x)+1).toNat
 .exact ⟨many,0,WF _,A,rfl,by go_num,by unfold C;rw[abJ];rfl⟩
 obtain⟨k,n,_,_,rfl,rfl,i⟩:=hrel;by_cases e:0<k
 .have:(0:Z)<=(k:Z)-1:=A;obtain⟨j,rfl⟩:∃j,k=j+1:=⟨k-1,A⟩;have f:((j+1:N):Z)-1=(j:Z):=A;have e:a+j<s.size:=A;have:=AA (s:=s) (k:=a+j) e;have g:=Bj s<|a+j;have b:C<|As s (a+j)+256*n=vS s a (many-j) j:=by
   unfold C;rw[X i,show many-j=many-(j+1)+1 by omega,vS]
  have d:As s (a+j)+256*n<4294967296:=by
   have e:=Jz s a (many-j) j;rw[<-X b] at e;have:256^(many-j)<=256^4:=wg A A;have:(256:N)^4=4294967296:=Ac;omega
  obtain⟨p,l⟩:∃p,a+j=p:=⟨_,rfl⟩;have:(a:Z)+j=(p:Z):=A;have:(p:Z)<s.size:=A;have:p<100000000:=A;rw[l] at g b d;have e:p<s.size:=A;have:=AA (s:=s) (k:=p) e;rw[f];generalize As s p=c at*;generalize m:c+256*n=n2 at*;have:(256:Z)*(n:Z)+c=(n2:Z):=A;have:(256:Z)*(n:Z)<4294967296:=A;go_wp2_with fail;go_round
  .exact ⟨j,n2,A,d,rfl,by go_num,b⟩
  simp[intOf]
 have h:k=0:=A;subst h;have b:C<|n=vS s a many 0:=X i;have:¬(0:Z)<=((0:N):Z)-1:=A;go_wp2;go_ret;exact⟨by rw[<-X b];rfl,rfl⟩
def Hm(h:Ez s=θ):s.size<=5:=by
 unfold Ez at h;rw[wo,wo] at h;exact wn h.1.2
def zB(h:MR s=θ):s.size<=20:=by
 unfold MR at h;rw[wo] at h;exact wn h.2
def Lx(l:E Y):N:=(l.map ByteArray.size).sum
def Vt(a b:E Y):Lx (a++b)=Lx a+Lx b:=by simp[Lx]
def Vu(a:Y):Lx [a]=a.size:=by simp[Lx]
def aB(n:N):∀l:E Y,(∀x∈l,x.size<=n)->Lx l<=n*l.length
 |[],_=>wH _
 |a::r,h=>by
  have:=aB n r λx b=>h x<|wQ _ b;have:=h a<|aaO ..;have e:Lx (a::r)=a.size+Lx r:=by simp[Lx]
  rw[e,wu,adI];omega
def Vv(s:Y)(c:N):∀n,n<=s.size->Lx (Ig s c n).1+(Ig s c n).1.length=(Ig s c n).2
 |0,_=>rfl
 |n+1,_=>by
  have a:=Vv s c n A;have:=(Xz s c n).1;rw[Ig];split
  .rw[Vt,Vu,Ws,WM];show _+((Ig s c n).1.length+1)=n+1;omega
  exact a
def aC(s:Y)(c:N):Lx (Ax s c)+(Ax s c).length=s.size+1:=by
 have:=Vv s c s.size<|WF _;have:=(Xz s c s.size).1;unfold Ax;rw[Vt,Vu,Ws,WM];show _+((Ig s c s.size).1.length+1)=_;omega
def kx(h:(IG v).isSome=θ):v.size<=40:=by
 unfold IG at h;split at h
 .rename_i b;split at h
  .cases h
  rename_i c;split at h
  .rename_i a;have d:=OE b;have:(DO v).size=v.size-1:=by rw[d,WM];omega
   have b:=aC (Eh v) 46;rw[ay _ _<|WF _,a.1] at b;have b:=aB 5 (CS<|Eh v) λx d=>Hm<|wC.1 a.2 x d;rw[a.1] at b;rcases Vs v with⟨_,b,_⟩|⟨i,a,_,_,d,b,e⟩
   .have a:=hJ ByteArray.size b;omega
   have:=zB (by rw[d] at c;simpa using c);have c:=hJ ByteArray.size e;have a:=hJ ByteArray.size b;rw[WM,Nat.min_self] at c;rw[WM,abu A] at a;omega
  cases h
 cases h
def IZ(h:GL s v=J p):p.size<=1000:=by
 unfold GL at h;split at h
 .rename_i a;rw[wo,wo] at a;have b:=kx a.1.1;have c:s.size<=80:=by
   have:=a.1.2;unfold NG at this;rw[wo] at this;exact wn this.1
  injection h with h;rw[<-h,WC,WC,WC];show s.size+1+v.size+1<=1000;omega
 cases h
def py(h:GL s v=J p):0<p.size:=by
 unfold GL at h;split at h
 .injection h with h;rw[<-h,WC];show 0<_+1;omega
 cases h
def JS(p:Y)(fs:E Fl):Y×N:=if 40000<(BQ p<|Bd fs).length then(⟨#[]⟩,1) else(An<|BQ p (Bd fs),0)
def zC(p:Y)(v:M)(a:E Fl)(t:a.length<=1000)(a2:∀f∈a,f.2.size<=20000)(hk:0<a.length->Xp p (Bd a))(w:U)(hv:Au w v a):
 μ F 83 #[G p,v] w λr w'=>Am w w'/\r=ε (η #[G (JS p a).1,I Q ((JS p a).2:Z)]):=by
 obtain⟨i0,a3,a4,a5,a6⟩:=wi UO;have t:(Bd a).length=a.length:=by simp[Bd]
 have a7:C (0<a.length-> ∃g t,v=K (J ⟨g,0,O⟩) a.length t/\g<w.heap.size/\∀j,j<a.length->w.cell? ⟨g,j*2,O⟩=J (G (a.getD j default).1)/\w.cell? ⟨g,j*2+1,O⟩=J (G (a.getD j default).2)):=λh=>hv.slice h
 obtain⟨_,t,rfl⟩:=Dk hv;have HK:=H hk;have a8:=H a2;go_in;go_wp2;go_loopw [6,8,12] (λu _ x wr=>∃i:N,i<=a.length/\x=I Q i/\C (ED wr (λk=>w.heap.size<=k) u<|Bd (a.take i))/\C (Am w wr)/\C (i=0->u=K O 0 0)) λ_ _ x _=>a.length-(intOf x).toNat
 .exact ⟨0,A,rfl,⟨WZ w 0 _ 5,λb x=>by cases x⟩,Ag.refl _ w,λ_=>rfl⟩
 obtain⟨i,_,rfl,HI,HO,HZ⟩:=hrel;by_cases e:i<a.length
 .have y:(i:Z)<a.length:=A;obtain⟨g,_,a9,D,L⟩:=a7 A;injection a9 with P _ R;subst P R;have c4:=(HO.cell (p:=⟨g,i*2,O⟩) D λc=>c).trans (L i e).1;have t:=(HO.cell (p:=⟨g,i*2+1,O⟩) D λc=>c).trans (L i e).2;have b0:(a.getD i default).2.size<=20000:=by rw[Wq,Wv e];exact a8 _ (WJ e)
  have HS:=H<|Qk a i e;have b1:(Bd<|a.take i).length=i:=by simp[Bd];omega
  have S:(Bd<|a.take (i+1)).length=i+1:=by simp[Bd];omega
  generalize Bd (a.take i)=its,a.getD i default=f at*;obtain⟨n,d⟩:=f;have c5:i<=1000:=A;have b2:Am wr<|wr.alloc (W #[G n,G d] 38):=(Ag.refl _ wr).alloc _;have e:=WD wr<|W #[G n,G d] 38;have t:(wr.alloc<|W #[G n,G d] 38).cell? ⟨wr.heap.size,0,O⟩=J (G n):=by rw[Wu _ _ 0 _ _ (0,0) e];rfl
  have t:(wr.alloc<|W #[G n,G d] 38).cell? ⟨wr.heap.size,1,O⟩=J (G d):=by rw[Wu _ _ 1 _ _ (0,0) e];rfl
  have H1:=H<|rO n d b0 (wr.alloc<|W #[G n,G d] 38);generalize GX n d=it at*;have b3:=H b2;go_wp2_with fail;apply H1.mono;rintro r j ⟨rfl,b4⟩;have e:Am wr j:=Ag.trans b3 b4;have n:Am j<|j.alloc (W it.v 190):=(Ag.refl _ j).alloc _;have b5:=H ((HI.kept e λ_ _ c=>c).kept n λ_ _ c=>c);have b6:=H<|dA (wr:=j) it;have T:=H<|Ag.trans (Ag.trans HO e) n;have b7:∀u∈it.v.toList,u.oneCell'=true:=by intro u hu;simp at hu;rcases hu with rfl|rfl|rfl|rfl|rfl<;>rfl
  have b9:=T.size;obtain⟨o,wy,ck,sz,pk⟩:=it;obtain⟨e,n⟩:=X b5;rw[b1] at e;have a0:=H e;have a1:=H n;have c0:C (∀(q c:N) (s:U),s.ownsRow 0 190 5 (K (J ⟨q,0,O⟩) (i+1) c) (i+1) (DG its++(It.v ⟨o,wy,ck,sz,pk⟩).toList)->(j.alloc<|W (It.v ⟨o,wy,ck,sz,pk⟩) 190).grownBy s u6.ownBlock->(u6.ownBlock=J q\/q=j.heap.size+1)->ED s (λk=>w.heap.size<=k) (K (J ⟨q,0,O⟩) (i+1) c) (Bd<|a.take (i+1))/\Am w s):=by
   intro q c s k l m;refine⟨⟨?_,λb x=>?_⟩,T.grown l λe hk c1=>absurd (a1 e c1) A⟩
   .rw[S,X HS,Ql,LT];exact k
   injection x with x;subst x;rcases m with h|h
   .exact a1 _ h
   have:=b9;rw[WP] at this;simp only;omega
  go_wp2_with (at_builtin;refine wpList_append_lies _ rfl (.tmp 16) (.tmp 19) 188 rfl 0 190 i0 (.agg #[G ⟨#[]⟩,I .u32 0,I .u32 0,I .u32 0,G ⟨#[]⟩]) 5 48 underlying188 a3 a4 a5 a6 rfl A u6 i _ rfl a0 ⟨j.heap.size,0,O⟩ 1 1 (It.v ⟨o,wy,ck,sz,pk⟩).toList rfl rfl b6 b7 A (by unfold maxLen;omega) A A (j.heap.size+1) Ad ?_;intro q c s k l m e;have j:=H<|c0 q c s k l m;clear k l m);go_roundw
  .exact ⟨i+1,A,by go_num,j.1,j.2,λh=>A⟩
  exact Ae
 have:¬(i:Z)<a.length:=A;have c2:i=a.length:=A;subst c2;rw[wL] at HI;have H2:C (μ F 148 #[G p,u6] wr λr w'=>Am wr w'/\r=ε (G<|An (BQ p<|Bd a))):=by
  by_cases h0:0<a.length
  .exact tZ _ p u6 (Bd a) (HK h0) wr HI
  have c1:a=[]:=wP A;have hu:=HZ A;subst c1 hu;exact gW p wr
 have HP:C (JS p a=if 40000<(An<|BQ p (Bd a)).size then(⟨#[]⟩,1) else(An<|BQ p (Bd a),0)):=by unfold C JS;rw[AG]
 generalize An (BQ p<|Bd a)=z at*;go_wp2_with fail;apply H2.mono;rintro r w2 ⟨c3,rfl⟩;have T:=H<|Ag.trans HO c3;by_cases c:40000<z.size
 .have a:(40000:Z)<(z.size:Z):=A;have HA:=H<|HP.trans (Wz c);exact ajI
 have:¬(40000:Z)<(z.size:Z):=A;have HA:=H<|HP.trans (Wx c);exact ajI
def Bu(s v a:Y):E Fl×N:=match GL s v with
 |none=>([],3)
 |some p=>Kl p a
def PP(h:GL s v=J p):p=((s++⟨#[64]⟩)++v)++⟨#[47]⟩:=by
 unfold GL at h;split at h
 .injection h with h;exact h.symm
 cases h
def Tg(s v a:Y)(l:s.size<=2000000)(n:v.size<=2000000)(o:a.size<=9223372036854775807)(w:U)(k:Cf w)(d:DF w):μ F 44 #[G s,G v,G a] w λr w'=>Am w w'/\Lo w w' r (Bu s v a):=by
 have y:=H<|XM s v l n w k;cases c:GL s v with
 |none=>
  exact agb
 |some p=>
  have m:C<|Bu s v a=Kl p a:=by unfold C Bu;rw[c]
  have f:=H λe g h=>sK p a (IZ c) o e g h;have t:=H k;have g:=H d;rw[c] at y;rw[X m];generalize Kl p a=Z2 at*;go_in;go_wp2_with fail;apply y.mono;rintro r w1 ⟨rfl,q⟩;have u:=H q;have x:=H q.size;have f:=H (f w1 (t.old q) (DF.kept g q λd=>d));go_wp2_with fail;apply f.mono;rintro r g ⟨d,h⟩;have e:=H<|Ag.trans u d;rcases h with⟨z,D,rfl,L,i⟩|⟨P,rfl⟩
  .have R:=H L;have S:=H i;have j:=H z;go_wp2;go_ret2;exact⟨e,.inl ⟨j,D,rfl,R,λb i=>WI x<|S b i⟩⟩
  have j:=H P;go_wp2;go_ret2;exact⟨e,.inr ⟨j,rfl⟩⟩
def pA(l:E υ)(i:N)(h:i<l.length):As (An l) i=(l[i]).toNat:=by
 have a:i<(An l).size:=by rw[AG];exact h
 unfold As;rw[abB a]
 rfl
def sS(v n k:N)(h:k<n):(leB v n)[k]? =J (b8<|v/2^(8*k)%256):=by simp[leB,h]
def aD(l pre post:E υ)(v n:N)(b:l=pre++leB v n++post):∀k,k<=n->BV (An l) pre.length k=v%2^(8*k)
 |0,_=>by rw[BV,Nat.mul_zero,Nat.pow_zero,acn]
 |k+1,_=>by
  have d:=aD l pre post v n b k A;have a:pre.length+k<l.length:=by rw[b];simp only[Ws,BA];omega
  have c:l[pre.length+k]? =J (b8<|v/2^(8*k)%256):=by
   rw[b,WG,WU A,abD,WW (by rw[BA];omega),sS v n k A]
  rw[Wv a] at c;have b:As (An l) (pre.length+k)=v/2^(8*k)%256:=by
   rw[pA l _ a,WX c,AN<|wU _ A]
  rw[BV,d,b,show 8*(k+1)=8*k+8 by omega,acm,Nat.mod_mul,abg (2^(8*k))<|v/2^(8*k)%2^8]
def Fj{l pre post:E υ}{v n a:N}(b:l=pre++leB v n++post)(c:pre.length=a)(d:v<2^(8*n)):BV (An l) a n=v:=by
 rw[<-c,aD l pre post v n b n<|WF _,abV d]
def Gu(pre c post:E υ)(a b:N)(d:pre.length=a)(e:a+c.length=b):(An<|pre++c++post).extract a b=An c:=by
 apply aaj;apply acl;simp[An,ByteArray.data_extract,<-d,<-e,WG]
def Km(p t:E υ):Lib.hasPrefix (p++t) p=true:=by
 unfold Lib.hasPrefix;exact abl.2<|List.prefix_append p t
def Ti(p t:E υ):Lib.trimPrefix (p++t) p=t:=by
 unfold Lib.trimPrefix;rw[Wz<|Km p t];simp
structure MU (p:Y) (it:It):Prop where
 way:it.way=0\/it.way=8
 check:it.check<4294967296
 size:it.size<4294967296
 packed:it.packed.size<4294967296
 name:p.size+it.name.size<65536
def aE(p:Y)(f:It)(h:MU p f)(t:E υ):Jx p (An<|Bk p f++t)=J (f,An t):=by
 obtain⟨a,c,d,e,b⟩:=f;obtain⟨f,g,i,j,k⟩:=h;simp only at f g i j k;have g:Bk p ⟨a,c,d,e,b⟩++t=sL Kf++leB 20 2++leB 0 2++leB c 2++leB 0 2++leB 33 2++leB d 4++leB b.size 4++leB e 4++leB (p.size+a.size) 2++leB 0 2++(sL p++sL a)++sL b++t:=by
  unfold Bk DT AJ;simp only[aaC,acR,wS,WG,nu]
 have f:(sL Kf).length=4:=Ac;have i:BV (An<|Bk p ⟨a,c,d,e,b⟩++t) 8 2=c:=Fj (pre:=sL Kf++leB 20 2++leB 0 2) (post:=leB 0 2++leB 33 2++leB d 4++leB b.size 4++leB e 4++leB (p.size+a.size) 2++leB 0 2++(sL p++sL a)++sL b++t) (by rw[g];simp only[WG]) (by simp only[Ws,BA,f]) A;have j:BV (An<|Bk p ⟨a,c,d,e,b⟩++t) 14 4=d:=Fj (pre:=sL Kf++leB 20 2++leB 0 2++leB c 2++leB 0 2++leB 33 2) (post:=leB b.size 4++leB e 4++leB (p.size+a.size) 2++leB 0 2++(sL p++sL a)++sL b++t) (by rw[g];simp only[WG]) (by simp only[Ws,BA,f]) A;have k:BV (An<|Bk p ⟨a,c,d,e,b⟩++t) 18 4=b.size:=Fj (pre:=sL Kf++leB 20 2++leB 0 2++leB c 2++leB 0 2++leB 33 2++leB d 4) (post:=leB e 4++leB (p.size+a.size) 2++leB 0 2++(sL p++sL a)++sL b++t) (by rw[g];simp only[WG]) (by simp only[Ws,BA,f]) A;have l:BV (An<|Bk p ⟨a,c,d,e,b⟩++t) 22 4=e:=Fj (pre:=sL Kf++leB 20 2++leB 0 2++leB c 2++leB 0 2++leB 33 2++leB d 4++leB b.size 4) (post:=leB (p.size+a.size) 2++leB 0 2++(sL p++sL a)++sL b++t) (by rw[g];simp only[WG]) (by simp only[Ws,BA,f]) A;have m:BV (An<|Bk p ⟨a,c,d,e,b⟩++t) 26 2=p.size+a.size:=Fj (pre:=sL Kf++leB 20 2++leB 0 2++leB c 2++leB 0 2++leB 33 2++leB d 4++leB b.size 4++leB e 4) (post:=leB 0 2++(sL p++sL a)++sL b++t) (by rw[g];simp only[WG]) (by simp only[Ws,BA,f]) A;have n:(An<|Bk p ⟨a,c,d,e,b⟩++t).size=30+(p.size+a.size)+b.size+t.length:=by rw[AG,Ws,Jy]
 have g:Bk p ⟨a,c,d,e,b⟩++t=(sL Kf++DT p ⟨a,c,d,e,b⟩)++(sL p++sL a)++(sL b++t):=by unfold Bk;simp only[WG,nu]
 have h:(sL Kf++DT p ⟨a,c,d,e,b⟩).length=30:=by rw[Ws,Fe,f]
 have o:(An<|Bk p ⟨a,c,d,e,b⟩++t).extract 30 (30+(p.size+a.size))=An (sL p++sL a):=by rw[g];exact Gu _ _ _ _ _ h<|by rw[Ws,Dd,Dd]
 have q:(An<|Bk p ⟨a,c,d,e,b⟩++t).extract (30+(p.size+a.size)) (30+(p.size+a.size)+b.size)=b:=by
  have f:Bk p ⟨a,c,d,e,b⟩++t=((sL Kf++DT p ⟨a,c,d,e,b⟩)++(sL p++sL a))++sL b++t:=by rw[g];simp only[WG]
  rw[f,Gu _ _ _ (30+(p.size+a.size)) _ (by rw[Ws,h,Ws,Dd,Dd]) (by rw[Dd]),ME]
 have g:(An<|Bk p ⟨a,c,d,e,b⟩++t).extract (30+(p.size+a.size)+b.size) (30+(p.size+a.size)+b.size+t.length)=An t:=by
  have f:Bk p ⟨a,c,d,e,b⟩++t=Bk p ⟨a,c,d,e,b⟩++t++[]:=by rw[wS]
  rw[f];exact Gu _ _ _ _ _ (Jy p a b c d e) rfl
 unfold Jx;rw[i,j,k,l,m,n,o,q,g];have b:Lib.hasPrefix (An<|sL p++sL a).data.toList p.data.toList=true:=by
  have:(An<|sL p++sL a).data.toList=sL p++sL a:=Ro _;rw[this];exact Km _ _
 have c:Lib.trimPrefix (An<|sL p++sL a).data.toList p.data.toList=sL a:=by
  have:(An<|sL p++sL a).data.toList=sL p++sL a:=Ro _;rw[this];exact Ti _ _
 rw[Wx A,Wx A,b,Wx Ac,Wx A,c];have:(⟨(sL a).toArray⟩:Y)=a:=ME a;rw[this]
def Is(its:E It):Prop:=its.Pairwise λa b=>a.name.data.toList<b.name.data.toList
def Qu(p:Y)(t:E υ)(c:Lib.hasPrefix t Kf.data.toList=ι):∀(its a:E It) (n:N),(∀i∈its,MU p i)->Is (a++its)->(a++its).length<=60->its.length<n->Fq p n (An<|AP p its++t) a=J (a++its)
 |[],a,n+1,_,_,_,_=>by
  have e:AP p []++t=t:=rfl;rw[e,Fq,Wz (by show Lib.hasPrefix (sL<|An t) _=_;rw[Ro];exact c),wS]
 |it::r,a,n+1,d,f,g,j=>by
  have e:AP p (it::r)++t=Bk p it++(AP p r++t):=by simp[AP]
  have k:Lib.hasPrefix (An<|Bk p it++(AP p r++t)).data.toList Kf.data.toList=true:=by
   have b:(An<|Bk p it++(AP p r++t)).data.toList=Bk p it++(AP p r++t):=Ro _;rw[b];unfold Bk;simp only[WG];exact Km _ _
  have l:QP a it=false:=by
   unfold QP;have b:a.length≠60:=by
    rw[Ws,wu] at g;omega
   rw[show(a.length==60)=ι from by rw[WA];exact b,acU];by_cases h0:0<a.length
   .rw[Wy h0,aas];have b:(a.getD (a.length-1) BS).name.data.toList<it.name.data.toList:=by
     have h:a.length-1<a.length:=A;rw[Wq,Wv h];exact(aao.1 f).2.2 _ (WJ h) _ (aaO ..)
    rw[Wy b];rfl
   rw[Ww h0,aco]
  rw[e,Fq,Wx (by rw[k];decide),aE p it<|d it (aaO ..)];simp only[l,aaM,abE];have b:a++it::r=a++[it]++r:=Ad;rw[Qu p t c r (a++[it]) n (λi a=>d i<|wQ _ a) (by rw[<-b];exact f) (by rw[<-b];exact g) (by simp at j;omega),<-b]
def ky(p:Y)(its:E It)(c a b:N):Lib.hasPrefix (Bc p its its.length++endL c a b) Kf.data.toList=false:=by
 cases its with
 |nil=>
  show Lib.hasPrefix ([]++endL c a b) _=ι;unfold endL
  rfl
 |cons d r=>
  have h:∃x,Bc p (d::r) (d::r).length=sL LD++x:=by
   have f:∀n,∃x,Bc p (d::r) (n+1)=sL LD++x:=by
    intro n;induction n with
    |zero=>
     refine⟨AJ [20] 2++DT p d++AJ [0,0,0] 2++AJ [0,0] 4++sL (p++d.name),?_⟩;have:Bc p (d::r) (0+1)=BN p d 0:=(by rw[CL];rfl);rw[this,BN];simp only[WG]
    |succ n g=>
     obtain⟨x,e⟩:=g;exact⟨x++BN p ((d::r).getD (n+1) BS) (AP p ((d::r).take<|n+1)).length,by rw[CL,e,WG]⟩
   exact f r.length
  obtain⟨x,e⟩:=h;rw[e]
  rfl
def eH(p:Y)(its:E It)(b:∀i∈its,MU p i)(c:Is its)(d:its.length<=60)(e:0<p.size):Fo p (An<|BQ p its)=J its:=by
 have f:its.length<(An<|BQ p its).size+1:=by
  have e:its.length<=(AP p its).length:=by
   clear b c d;induction its with
   |nil=>simp
   |cons a r _=>
    have e:AP p (a::r)=Bk p a++AP p r:=(by simp[AP]);rw[e,Ws,wu];have g:30<=(Bk p a).length:=by obtain⟨_,_,_,_,_⟩:=a;rw[Jy];omega
    omega
  rw[AG,BQ,Ws,Ws];omega
 have e:BQ p its=AP p its++(Bc p its its.length++endL its.length (Bc p its its.length).length (AP p its).length):=by rw[BQ,WG]
 unfold Fo;rw[show Fq p ((An<|BQ p its).size+1) (An<|BQ p its) []=J its from by
  have:=Qu p _ (ky p its its.length (Bc p its its.length).length (AP p its).length) its [] ((An<|BQ p its).size+1) b (by rw[aan];exact c) (by rw[aan];exact d) f;rw[aan,<-e] at this;exact this]
 simp
def pB(c z a:N):(endL c z a).length=22:=by simp[endL,AJ,leB,sL]
def pC{its:E It}(h:Fo p s=J its):Fq p (s.size+1) s []=J its/\An (BQ p its)=s:=by
 unfold Fo at h;split at h
 .cases h
 rename_i a b;split at h
 .rename_i e;injection h with h;rw[<-h];exact⟨b,e⟩
 cases h
def eI(p:Y)(its:E It):BQ p its=AP p its++(Bc p its its.length++endL its.length (Bc p its its.length).length (AP p its).length):=by rw[BQ,WG]
def PQ(p:Y)(its:E It):(BQ p its).length=(AP p its).length+(Bc p its its.length).length+22:=by
 rw[BQ,Ws,Ws,pB]
def pD{a:It}{b:Y}(h:Jx p s=J (a,b))(c:s.size<=40000)(f:p.size<=1000):MU p a/\b.size<=s.size:=by
 have d:a.way=0\/a.way=8:=by
  unfold Jx at h;split at h
  .cases h
  split at h
  .cases h
  split at h
  .cases h
  split at h
  .cases h
  rename_i e;injection h with h;injection h with a g;rw[<-a];show BV s 8 2=0\/BV s 8 2=8;omega
 obtain⟨⟨g,a,f,e,i⟩,j,_⟩:=Mg h c;exact⟨⟨d,a,f,A,A⟩,A⟩
def Qv(k:p.size<=1000):∀(n:N) (rest:Y) (its a:E It),Fq p n rest its=J a->rest.size<=40000->(∀i∈its,MU p i)->Is its->its.length<=60->(∀i∈a,MU p i)/\Is a/\a.length<=60
 |0,rest,its,a,h,_,_,_,_=>akU
 |n+1,rest,its,a,h,r,l,g,f=>by
  unfold Fq at h;split at h
  .injection h with h;rw[<-h];exact⟨l,g,f⟩
  split at h
  .cases h
  rename_i s b d;split at h
  .cases h
  rename_i f;obtain⟨t,v⟩:=pD d r k;have d:QP its s=false:=by simpa using f
  unfold QP at d;rw[acQ] at d;obtain⟨f,c⟩:=d;have f:its.length≠60:=by simpa using f
  refine Qv k n b _ a h A ?_ ?_<|by rw[Ws];show its.length+1<=60;omega
  .intro i hi;rcases WY.1 hi with hi|hi
   .exact l i hi
   rw[WN] at hi;rw[hi];exact t
  refine aao.2 ⟨g,aaW _ _,?_⟩;intro x m y o;rw[WN] at o;subst o;have h0:0<its.length:=List.length_pos_of_mem m;rw[Wy h0,aas] at c;have e:(its.getD (its.length-1) BS).name.data.toList<y.name.data.toList:=by simpa using c
  have hi:its.length-1<its.length:=A;rw[Wq,Wv hi] at e;obtain⟨q,j,rfl⟩:=adC.1 m;by_cases u:q=its.length-1
  .subst u;exact e
  exact abA ((aaG.1 g) q (its.length-1) j hi A) e
def aF{p:Addr}{v:M}(h:w.cell? p=J v):p.block<w.heap.size:=ahr
def Ds(T:E BF):E M:=T.flatMap λe=>e.v.toList
def aG(T:E BF):(Ds T).length=T.length*3:=by
 induction T with
 |nil=>rfl
 |cons a r b=>rw[Ds,aaC,Ws,<-Ds,b,wu];simp;omega
def aH(a b:E BF):Ds (a++b)=Ds a++Ds b:=by simp[Ds]
def aI(T:E BF)(j:N)(b:j<T.length):(Ds T)[j*3]? =J (G (T.getD j AC).nm)/\(Ds T)[j*3+1]? =J (ζ (T.getD j AC).ln)/\(Ds T)[j*3+2]? =J (G (T.getD j AC).dt):=by
 induction T generalizing j with
 |nil=>simp at b
 |cons a r c=>
  rw[Ds,aaC,<-Ds];cases j with
  |zero=>simp
  |succ j=>
   obtain⟨d,e,f⟩:=c j (by simpa using b);rw[show(j+1)*3=j*3+3 by omega];refine⟨?_,?_,?_⟩
   .simpa using d
   .simpa using e
   simpa using f
def Ei(w:U)(v:M)(T:E BF):Prop:=w.ownsRow 0 35 3 v T.length<|Ds T
def Ei.kept{S:N->Prop}{v:M}{T:E BF}(h:Ei w v T)(a:Ag S w w')(c:∀b,v.ownBlock=J b->¬S b):Ei w' v T:=Az h a c
def Ei.old{v:M}{T:E BF}(h:Ei w v T)(a:Am w w'):Ei w' v T:=h.kept a λ_ _ x=>x
def Ei.slice{v:M}{T:E BF}(h:Ei w v T)(k:0<T.length):∃g cap,v=K (J ⟨g,0,O⟩) T.length cap/\FM w g T:=by
 obtain⟨d,⟨rfl,_⟩|⟨g,cap,b,rfl,e,c,f⟩⟩:=h
 .omega
 refine⟨g,cap,rfl,λj i=>?_⟩;have a:=abs (w:=w) ⟨d,.inr ⟨g,cap,b,rfl,e,c,f⟩⟩ (g:=g) rfl;obtain⟨b,d,e⟩:=aI T j i;refine⟨(Wt.1 c).1,?_,?_,?_⟩
 .have:=a (j*3) _ b;rw[we,WQ] at this;exact this
 .have:=a (j*3+1) _ d;rw[we,WQ] at this;exact this
 have:=a (j*3+2) _ e;rw[we,WQ] at this;exact this
def xF:(prog.info? 35).map (λi=>(i.zero,i.size,i.bytes))=J (J (.agg #[G ⟨#[]⟩,ζ ι,G ⟨#[]⟩]),3,40):=B
def eJ(w:World)(x:M)(U:E BF):Prop:=
 ∃(ao:Option Addr) (c:N),x=K ao U.length c/\(ao=O->U=[])/\∀a,ao=J a-> ∀j u,(Ds U)[j]? =J u->w.cell? (a.add j)=J u
def aJ(T:E BF):∀u∈Ds T,u.oneCell'=true:=by
 intro u b;obtain⟨_,_,a⟩:=adu.1 b;simp at a;rcases a with rfl|rfl|rfl<;>rfl
def Tj{w:World}{v:M}{T:E BF}(h:Ei w v T){x:M}{U:E BF}(o:eJ w x U)(m:TypeId)(p:(T.length+U.length)*40<=140737488355328):
 ∃v' w',(Builtin.append_ #[36,36] m #[v,x]).run F w=.ok v' w'/\Ei w' v' (T++U)/\w.grownBy w' v.ownBlock/\(v'.ownBlock=v.ownBlock\/ ∀k,v'.ownBlock=J k->w.heap.size<=k):=by
 obtain⟨q,b,c,d,e⟩:=wi xF;obtain⟨f,r,rfl,s,t⟩:=o;by_cases i:U=[]
 .subst i;refine⟨v,w,?_,by rw[wS];exact h,⟨rfl,rfl,rfl,WF _,λ_ _ _=>rfl⟩,.inl rfl⟩;obtain⟨_,⟨rfl,_⟩|⟨g,j,_,rfl,n,_,l,_⟩⟩:=h
  .cases f<;>simp[Builtin.append_,aaf underlying36,sizeOf,typeInfo,b,Builtin.lenOf,Builtin.firstCells,loadCells,loadCellsFrom]
  cases f<;>simp[Builtin.append_,aaf underlying36,sizeOf,typeInfo,b,Builtin.lenOf,Builtin.firstCells,l,storeCells,loadCells,loadCellsFrom]
 cases f with
 |none=>exact absurd (s rfl) i
 |some a=>
  obtain⟨g,j,w',n,l,f,h4,_⟩:=run_append_lies (P:=F) (w:=w) 36 m 0 35 q (.agg #[G ⟨#[]⟩,ζ ι,G ⟨#[]⟩]) 3 40 underlying36 b c d e rfl A v T.length (Ds T) h a U.length r (Ds U) (aG U) (t a rfl) (aJ U) (List.length_pos_iff.2 i) (by unfold maxLen;omega) p (wH _) w.heap.size rfl;refine⟨_,w',n,?_,f,?_⟩
  .show w'.ownsRow 0 35 3 _ (T++U).length (Ds<|T++U);rw[aH,Ws];exact l
  rcases h4 with h4|h4
  .exact .inl h4.symm
  refine .inr λk b=>?_
  have:=WX (show J g=J k from b);omega
def OH{ops:Array Oper}{rest:E Oper}{o:Oper}{a:Act}{Q:Exit->Act->U->Prop}(d:o.guard=O)(s x:Operand)
 (ho:o.op=.call {callee:=.builtin .append,args:= #[s,x],argTypes:= #[36,36]})
 (v g:M)(ts e:E BF)(hs:a.eval s=v)(hx:a.eval x=g)(h:Ei w v ts)(f:eJ w g e)(g:(ts.length+e.length)*40<=140737488355328)
 (l:∀v' w',Ei w' v' (ts++e)->w.grownBy w' v.ownBlock->(v'.ownBlock=v.ownBlock\/ ∀k,v'.ownBlock=J k->w.heap.size<=k)->wpList F ops Q rest (a.put o.dst v') w'):
 wpList F ops Q (o::rest) a w:=by
 refine acu d λ_ c =>?_
 obtain⟨v',w',b,h1,h2,h3⟩:=Tj h f o.type g;exact age
