import Derived.Test.YtndfmgdhiallpaaGreatDoorVaw
set_option linter.all false
set_option maxRecDepth 100000
set_option maxHeartbeats 4000000
open _root_ renaming Option.some->J,Option.none->O,Int->Z,Nat->N,Go.Value.int->I,Go.Value.string->G,Go.IntKind.i64->Q,ByteArray->Y,List->E,Go.World->U,Go.Value.slice->K,Go.Value->β,Go.Obj.cells->γ,Go.Value.pointer->δ,Go.Ending.returned->ε,Go.Value.bool->ζ,Go.Calls->μ
namespace Go.Proofs.YtndfmgdhiallpaaGreatDoor
open Go.RowKit Go.Maps Go.Proofs.Tryz
abbrev sV:Y:=⟨#[118]⟩
abbrev IX:Y:=⟨#[45]⟩
def Dg(v:Y):Y:=⟨(Lib.trimPrefix v.data.toList sV.data.toList).toArray⟩
def DA(v:Y):Y:=⟨(Lib.cut (Dg v).data.toList IX.data.toList).1.toArray⟩
def Kb(v:Y):Y:=⟨(Lib.cut (Dg v).data.toList IX.data.toList).2.1.toArray⟩
def Yb(v:Y):Bool:=(Lib.cut (Dg v).data.toList IX.data.toList).2.2
def Gs(v:Y):Option Y:=if Lib.hasPrefix v.data.toList sV.data.toList then(if Yb v&& !KE (Kb v) then O else if(Cw (DA v)).length=3/\(Cw (DA v)).all DK=true then J ((Cw (DA v)).getD 0 ⟨#[]⟩) else O) else O
def Ma(v:Y):(Dg v).size<=v.size:=by
 show((Lib.trimPrefix v.data.toList sV.data.toList).toArray).size<=v.data.size;rw[sq];unfold Lib.trimPrefix;split
 .rw[tD,sd];omega
 rw[sd];exact rj _
def fP(l a:E UInt8):(Lib.cut l a).1.length<=l.length/\(Lib.cut l a).2.1.length<=l.length:=by
 unfold Lib.cut;split
 .constructor
  .rw[rY];omega
  rw[tD];omega
 exact⟨rj _,sl _⟩
def SN(v:Y):(DA v).size<=v.size:=by
 have a:=(fP (Dg v).data.toList IX.data.toList).1;have b:=Ma v;have e:(DA v).size=(Lib.cut (Dg v).data.toList IX.data.toList).1.length:=by show((Lib.cut (Dg v).data.toList IX.data.toList).1.toArray).size=_;rw[sq]
 rw[<-Lib.size_eq] at a;omega
def Zq(v:Y):(Kb v).size<=v.size:=by
 have a:=(fP (Dg v).data.toList IX.data.toList).2;have b:=Ma v;have e:(Kb v).size=(Lib.cut (Dg v).data.toList IX.data.toList).2.1.length:=by show((Lib.cut (Dg v).data.toList IX.data.toList).2.1.toArray).size=_;rw[sq]
 rw[<-Lib.size_eq] at a;omega
def Qn(o:Option Y):Y:=o.getD ⟨#[]⟩
def fQ(v:Y)(q:v.size<=2000000)(w:U)(l:Cb w):μ prog 85 #[G v] w λr w' =>r=ε (.tuple #[G (Qn (Gs v)),ζ (Gs v).isSome])/\Al w w' :=by
 have f:=Af (strings_CutPrefix v sV w);have HM:=Af l;obtain⟨m,d⟩:=l;have k:=Af (strings_Cut (Dg v) IX m w (by have:=Ma v;omega) d);have H3:=Af (λW=>jV (Kb v) (by have:=Zq v;omega) W);have o:=SN v;have b:Hid (Gs v=if Lib.hasPrefix v.data.toList sV.data.toList then(if Yb v&& !KE (Kb v) then O else if(Cw (DA v)).length=3/\(Cw (DA v)).all DK=true then J ((Cw (DA v)).getD 0 ⟨#[]⟩) else O) else O):=rfl;have HLE:Hid (∀x∈Cw (DA v),x.size<=2000000):=λx hx=>by have:=UF hx;omega
 have p:(Cw (DA v)).length<=2000001:=by
  rw[Rk];have:=Lib.countB_le ⟨#[46]⟩ Ac (DA v).size (DA v) (rj _);omega
 have H2' :Hid (μ prog 162 #[G (Dg v),G IX] w λe w' =>e=ε (.tuple #[G (DA v),G (Kb v),ζ (Yb v)])/\∃n,w' =w.drewN n):=uh k;have H1' :Hid (μ prog 161 #[G v,G sV] w λe w' =>e=ε (.tuple #[G (Dg v),ζ (Lib.hasPrefix v.data.toList sV.data.toList)])/\w' =w):=uh f;clear d f k;generalize Gs v=ans at*;generalize Lib.hasPrefix v.data.toList sV.data.toList=pf at*;generalize Dg v=r0 at*;generalize DA v=a at*;generalize Kb v=mk at*;generalize Yb v=c at*;generalize KE mk=mb at*;cases pf with
 |false=>
  have hans:ans=none:=by rw[uh b];rfl
  subst hans;clear b;go_in;go_wp2_with fail;refine H1'.mono ?_;rintro e w1 ⟨rfl,rfl⟩;go_wp2;go_ret2;exact⟨rfl,Ag.refl _ _⟩
 |true=>
  cases c with
  |true=>
   cases mb with
   |false=>
    have hans:ans=none:=(by rw[uh b];rfl);subst hans;clear b;go_in;go_wp2_with fail;refine H1'.mono ?_;rintro e w1 ⟨rfl,rfl⟩;go_wp2_with fail;refine H2'.mono ?_;rintro e w2 ⟨rfl,nn,rfl⟩;go_wp2_with fail;refine(H3 _).mono ?_;rintro e w3 ⟨rfl,rfl⟩;go_wp2;go_ret2;exact⟨rfl,(Ag.refl _ _).drewN nn⟩
   |true=>
    have HD2:Hid (ans=if(Cw a).length=3/\(Cw a).all DK=true then J ((Cw a).getD 0 ⟨#[]⟩) else O):=uh b;clear b;go_in;go_wp2_with fail;refine H1'.mono ?_;rintro e w1 ⟨rfl,rfl⟩;go_wp2_with fail;refine H2'.mono ?_;rintro e w2 ⟨rfl,nn,rfl⟩;go_wp2_with fail;refine(H3 _).mono ?_;rintro e w3 ⟨rfl,rfl⟩;exact yX
  |false=>
   have HD2:Hid (ans=if(Cw a).length=3/\(Cw a).all DK=true then J ((Cw a).getD 0 ⟨#[]⟩) else O):=uh b;clear b;go_in;go_wp2_with fail;refine H1'.mono ?_;rintro e w1 ⟨rfl,rfl⟩;go_wp2_with fail;refine H2'.mono ?_;rintro e w2 ⟨rfl,nn,rfl⟩;exact yX
def NP(l:Y):Bool:=Lib.hasPrefix l.data.toList sV.data.toList&&Ch BR (Dg l)
def bJ(l:Y)(d:l.size<=2000000)(w:U):μ prog 168 #[G l] w λr w' =>r=ε (ζ (NP l))/\w' =w:=by
 have H1:Hid (μ prog 161 #[G l,G sV] w λe w' =>e=ε (.tuple #[G (Dg l),ζ (Lib.hasPrefix l.data.toList sV.data.toList)])/\w' =w):=strings_CutPrefix l sV w;have H2:=Af (Zf (Dg l) (by have:=Ma l;omega) w);have c:Hid (NP l=(Lib.hasPrefix l.data.toList sV.data.toList&&Ch BR (Dg l))):=rfl;generalize NP l=ans at*;generalize Lib.hasPrefix l.data.toList sV.data.toList=pf at*;generalize Ch BR (Dg l)=b at*;generalize Dg l=z at*;cases pf with
 |false=>
  have a:ans=false:=by rw[uh c];rfl
  subst a;exact abC
 |true=>
  have a:ans=b:=by rw[uh c];rfl
  subst a;clear c;exact abD
def BL(s:Y):Y:=s.extract (Lib.lastIndexByte s 47+1).toNat s.size
def UM(s:Y): ∃p:N,Lib.lastIndexByte s 47+1=(p:Z)/\p<=s.size:=by
 rcases Lib.lastIndexByte_spec s 47 with⟨h,_⟩|⟨i,h,a,_⟩
 .exact ⟨0,Aa,sl _⟩
 exact⟨i+1,Aa,Aa⟩
def KG(s m:Y):Bool:=if m=⟨#[48]⟩\/m=⟨#[49]⟩ then !NP (BL s) else decide (BL s=sV++m)
def fR(s m:Y)(n:s.size<=2000000)(t:m.size<=2000000)(w:U):μ prog 87 #[G s,G m] w λr w' =>r=ε (ζ (KG s m))/\w' =w:=by
 have H1:=Af (strings_LastIndexByte s 47 Aa w);obtain⟨p,hp,k⟩:=UM s;have o: ∀W,(Instr.slice 9 (G s) (J (I Q (p:Z))) O O).run prog W=.ok (G (BL s)) W:=λW=>by
  have h:=sT W 9 s underlying9 .i64 p Aa Aa;rw[BL,hp,rO];exact h
 have d:(BL s).size<=2000000:=rz (Fe _ _ _) n;have H2:=Af (bJ (BL s) d w);have b:Hid (KG s m=if m=⟨#[48]⟩\/m=⟨#[49]⟩ then !NP (BL s) else decide (BL s=sV++m)):=rfl;have f:(m.toList==[48])=decide (m=⟨#[48]⟩):=EF m _;have g:(m.toList==[49])=decide (m=⟨#[49]⟩):=EF m _;have i: ∀W,(Op.stringOp .add ⟨#[118]⟩ m).run prog W=.ok (G (sV++m)) W:=λW=>ry W _ _ (by have q:(⟨#[118]⟩:Y).size=1:=rfl;omega)
 have j:=Qd (BL s) (sV++m);generalize KG s m=ans at*;generalize sV++m=vm at*;generalize NP (BL s)=ew at*;generalize BL s=l at*;generalize Lib.lastIndexByte s 47=ix at*;by_cases h0:m=⟨#[48]⟩
 .rw[qZ h0] at f;have a:ans= !ew:=by rw[uh b,rd (.inl h0)]
  subst a;clear b h0;exact abD
 rw[qX h0] at f;by_cases c:m=⟨#[49]⟩
 .rw[qZ c] at g;have a:ans= !ew:=by rw[uh b,rd (.inr c)]
  subst a;clear b h0 c;exact abD
 rw[qX c] at g;have a:ans=decide (l=vm):=by rw[uh b,rc (λh=>h.elim h0 c)]
 rw[<-a] at j;clear b h0 c a;exact abC
def FM(s v:Y):Option Y:=if(Gs v).isSome&&Lk s&&KG s (Qn (Gs v)) then J (((s++⟨#[64]⟩)++v)++⟨#[47]⟩) else O
def kx(v:Y):(Qn (Gs v)).size<=v.size:=by
 unfold Gs;split
 .split
  .exact sl _
  split
  .rename_i h;have hp:0<(Cw (DA v)).length:=Aa;show((Cw (DA v)).getD 0 ⟨#[]⟩).size<=_;rw[qT,qY hp];exact rz (UF (ro hp)) (SN v)
  exact sl _
 exact sl _
def SO(s v:Y)(f:s.size<=2000000)(b:v.size<=2000000)(w:U)(a:Cb w):μ prog 45 #[G s,G v] w λr w' =>r=ε (.tuple #[G (Qn (FM s v)),ζ (FM s v).isSome])/\Al w w' :=by
 have H1:=Af (fQ v b w a);have HM:=Af a;have H2:=Af (λW h=>bB s W h);have H3:=Af (λW=>fR s (Qn (Gs v)) f (rz (kx v) b) W);have HD:Hid (FM s v=if(Gs v).isSome&&Lk s&&KG s (Qn (Gs v)) then J (((s++⟨#[64]⟩)++v)++⟨#[47]⟩) else O):=rfl;have c:(⟨#[64]⟩:Y).size=1:=rfl;have d:(⟨#[47]⟩:Y).size=1:=rfl;have a1: ∀W,(Op.stringOp .add s ⟨#[64]⟩).run prog W=.ok (G (s++⟨#[64]⟩)) W:=λW=>ry W _ _ Aa
 have g: ∀W,(Op.stringOp .add (s++⟨#[64]⟩) v).run prog W=.ok (G ((s++⟨#[64]⟩)++v)) W:=λW=>ry W _ _ (by rw[rg];omega)
 have i: ∀W,(Op.stringOp .add ((s++⟨#[64]⟩)++v) ⟨#[47]⟩).run prog W=.ok (G (((s++⟨#[64]⟩)++v)++⟨#[47]⟩)) W:=λW=>ry W _ _ (by rw[rg,rg];omega)
 clear a c d;generalize(((s++⟨#[64]⟩)++v)++(⟨#[47]⟩:Y))=q3 at*;generalize((s++⟨#[64]⟩)++v:Y)=q2 at*;generalize(s++⟨#[64]⟩:Y)=q1 at*;generalize FM s v=ans at*;generalize KG s (Qn (Gs v))=ef at*;generalize(Gs v).isSome=mj at*;generalize Qn (Gs v)=mm at*;generalize Lk s=md at*;cases mj with
 |false=>
  have hans:ans=none:=by rw[uh HD];rfl
  subst hans;clear HD;go_in;go_wp2_with fail;refine H1.mono ?_;rintro e w1 ⟨rfl,ho1⟩;have HO1:=Af ho1;clear ho1;go_wp2;go_ret2;exact⟨rfl,HO1⟩
 |true=>
  cases md with
  |false=>
   have hans:ans=none:=by rw[uh HD];rfl
   subst hans;clear HD;go_in;go_wp2_with fail;refine H1.mono ?_;rintro e w1 ⟨rfl,ho1⟩;have HO1:=Af ho1;clear ho1;go_wp2_with fail;refine(H2 w1 (HM.old (uh HO1))).mono ?_;rintro e w2 ⟨rfl,ho2⟩;have HO2:=Af (HO1.trans ho2);clear ho2;go_wp2;go_ret2;exact⟨rfl,HO2⟩
  |true=>
   cases ef with
   |false=>
    have hans:ans=none:=(by rw[uh HD];rfl);exact zX
   |true=>
    have hans:ans=J q3:=(by rw[uh HD];rfl);exact zX
