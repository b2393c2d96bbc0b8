import Derived.Test.YtndfmgdhiallpaaGreatDoorVas
import Derived.Test.YtndfmgdhiallpaaGreatDoorVan
set_option linter.all false
set_option maxRecDepth 100000
set_option maxHeartbeats 2000000
open _root_ renaming Option.some->J,Option.none->O,Int->Z,Nat->N,Go.Value.int->I,Go.Value.string->G,Go.IntKind.i64->Q,ByteArray->Y,List->E,Go.World->U,Go.Value.slice->K,Go.Value->β,Go.Obj.cells->γ,Go.Value.pointer->δ,Go.Ending.returned->ε,UInt8->υ,Go.RowKit.Hid->χ,Decidable.decide->Γ
namespace Go.Proofs.YtndfmgdhiallpaaGreatDoor
open Go.RowKit Go.Proofs.Tryz
def Ga(c:υ):υ:=if LQ c.toNat then b8 (c.toNat+32) else c
def AO(s:Y):Y:=⟨(s.data.toList.map Ga).toArray⟩
def GA(s:Y):(AO s).size=s.size:=by
 show((s.data.toList.map Ga).toArray).size=s.data.size;rw[sq,sJ,sd]
def Gn(l:E υ)(i:N):E υ:=(l.take i).map Ga++l.drop i
def JV(l:E υ)(i:N):(Gn l i).length=l.length:=by simp[Gn];omega
def Rb(l:E υ):Gn l 0=l:=by simp[Gn]
def Uy(l:E υ)(n:N)(h:n=l.length):Gn l n=l.map Ga:=by subst h;simp[Gn]
def XK(l:E υ)(i j:N)(h:i<=l.length):(Gn l i)[j]? =if j<i then(l[j]?).map Ga else l[j]? :=by
 unfold Gn;rw[List.getElem?_append,sJ,rY,uc h,tt,vq];by_cases e:j<i
 .rw[rd e,rd e,td,rd e]
 rw[rc e,rc e,show i+(j- i)=j by omega]
def IU(l:E υ)(i:N)(h:i<l.length)(a:i<(Gn l i).length):(Gn l i)[i]=l[i]:=by
 have:=XK l i i Aa;rw[rc Aa,qY a,qY h] at this;exact rD this
def Rc(l:E υ)(i:N)(h:i<l.length):Gn l (i+1)=(Gn l i).set i (Ga l[i]):=by
 apply ub;intro j;rw[XK l (i+1) j Aa,vy,JV,XK l i j Aa];by_cases e:i=j
 .subst e;rw[rd Aa,rd rfl,rd h,qY h];rfl
 rw[rc e];by_cases a:j<i
 .rw[rd Aa,rd a]
 rw[rc Aa,rc a]
def SA(s:Y)(D:s.size<=140737488355328)(w:U):Calls prog 250 #[G s] w λr w' =>r=ε (G (AO s))/\Al w w' :=by
 have j:=Lib.run_convert_string_bytes (P:=prog) w 9 62 5 s underlying9 underlying62 underlying5;have HR:χ (Iz (Lib.bytesWorld w 5 s) w.heap.size (Gn s.data.toList 0)):=by rw[Rb];exact Iz.made w s
 have HO:=Af (FX w s);have HL:χ (s.data.toList.length=s.size):=by unfold χ;simp
 have k:χ (w.heap.size<=w.heap.size):=rj _;have HE:χ (∀l:E υ,l=s.data.toList->AO s=⟨(l.map Ga).toArray⟩):=by intro l e;subst e;rfl
 generalize u:s.data.toList=l at*;generalize AO s=z at*;have HE:=Af (HE l rfl);generalize s.size=n at*;generalize Lib.bytesWorld w 5 s=W at*;generalize grownCap w n 0 5=cap at*;generalize t:w.heap.size=g at*;have k:χ (w.heap.size<=g):=by unfold χ;omega
 clear t u;go_in;go_wp2_with fail;clear j;go_loopw [4,5,10] (λ_ _ x wr=> ∃i:N,i<=n/\x=I Q i/\χ (Iz wr g (Gn l i))/\χ (Al w wr)) (λ_ _ x _=>n- (intOf x).toNat)
 .exact ⟨0,Aa,rfl,HR,HO⟩
 obtain⟨i,C,rfl,HR,HO⟩:=hrel;by_cases v:i<n
 .have hltI:(i:Z)<(n:Z):=Aa;have hil:i<l.length:=by have:=uh HL;omega
  have hil2:i<(Gn l i).length:=by rw[JV];exact hil
  have m:=HR.cell i hil2;have B:=HR.thaw i hil2;rw[IU l i hil hil2] at m;have f:(l[i]).toNat<256:=(l[i]).toNat_lt;have HN:=Af (Rc l i hil);have d:=Af (pm (l[i]).toNat wr f);have a:χ (Ga l[i]=if LQ (l[i]).toNat then b8 ((l[i]).toNat+32) else l[i]):=rfl;have b:=Af (IU l i hil hil2);cases hcap:LQ (l[i]).toNat with
  |true=>
   rw[hcap] at d a;simp only[vi] at a;have A:65<=(l[i]).toNat/\(l[i]).toNat<=90:=by simpa [LQ] using hcap
   have HS:=Af (HR.set i (b8 ((l[i]).toNat+32)));rw[AL Aa] at HS;rw[uh a] at HN;rw[<-uh HN] at HS;have HO2:χ (Al w (wr.setCell ⟨g,i,O⟩ (I .u8 (((l[i]).toNat+32:N):Z)))):=HO.setCell (p:=⟨g,i,O⟩) (λh=>absurd h (by have:=uh k;show ¬g<_;omega)) _;have y:((l[i]).toNat:Z)- 65+97=(((l[i]).toNat+32:N):Z):=Aa;clear HN a b hil2;generalize(l[i]).toNat=c at*;have o:(65:Z)<=(c:Z):=Aa;have q:(c:Z)<=90:=Aa;generalize((c+32:N):Z)=c2 at*;go_wp2_with fail;refine d.mono ?_;rintro e w' ⟨rfl,rfl⟩;exact aaE
  |false=>
   rw[hcap] at d a;simp only[tx,uw] at a;rw[uh a] at HN;have HS:χ (Iz wr g (Gn l (i+1))):=wv;clear HN a b hil2;generalize(l[i]).toNat=c at*;go_wp2_with fail;refine d.mono ?_;rintro e w' ⟨rfl,rfl⟩;exact WV
 exact abN
open Go.RowKit Go.Maps Go.Proofs.Tryz
abbrev nb:Y:=⟨#[99,111,110]⟩
abbrev nc:Y:=⟨#[112,114,110]⟩
abbrev nd:Y:=⟨#[97,117,120]⟩
abbrev ng:Y:=⟨#[110,117,108]⟩
abbrev eQ:Y:=⟨#[99,111,109]⟩
abbrev eR:Y:=⟨#[108,112,116]⟩
def Pe(e:Y):Y:=⟨(Lib.cut (AO e).data.toList [46]).1.toArray⟩
def MK(z:Y):Bool:=(Γ (z=nb)||decide (z=nc)||decide (z=nd)||decide (z=ng))||(Γ (z.size=4)&&(Γ (z.extract 0 3=eQ)||decide (z.extract 0 3=eR))&&BR (As z 3)&& !Γ (As z 3=48))
def XL(e:Y):Bool:=MK (Pe e)
def KS(e:Y):Bool:=Ch GQ e&& !Lib.hasSuffix e.data.toList [46]&& !Lib.hasSuffix e.data.toList [32]&& !XL e
def BJ(s:Y):E Y:=Lib.splitB ⟨#[47]⟩ 0 (Lib.countB s ⟨#[47]⟩) s
def CK(s:Y):Bool:=Γ (s.size<=80)&&(BJ s).all KS
def EF(z:Y)(l:E υ):(z.toList==l)=Γ (z=⟨l.toArray⟩):=by
 rw[Lib.toList_data];by_cases h:z=⟨l.toArray⟩
 .subst h;simp
 rw[qX h];simp only[re,ne_eq];intro e;exact h (sX (uG.1 (by simpa using e)))
def bj(s:Y)(u:s.size<=100000)(w:U)(l:Cb w):Calls prog 275 #[G s] w λr w' =>r=ε (.bool (XL s))/\Al w w' :=by
 have i:=Af (SA s Aa w);have h:=GA s;have HD:χ (XL s=MK (Pe s)):=rfl;have j:χ (∀W,Cb W-> ∃y b,Calls prog 162 #[G (AO s),G ⟨#[46]⟩] W λe w' =>e=ε (.tuple #[G (Pe s),G y,.bool b])/\∃n,w' =W.drewN n):=by
  intro W ⟨m,hW⟩;exact⟨_,_,strings_Cut (AO s) ⟨#[46]⟩ m W Aa hW⟩
 generalize XL s=ans at*;generalize AO s=y at*;generalize Pe s=z at*;go_in;go_wp2_with fail;refine i.mono ?_;rintro e w1 ⟨rfl,a⟩;obtain⟨v,q,d⟩:=j w1 (l.old a);have d:=Af d;have HO:=Af a;clear a j i l h;go_wp2_with fail;refine d.mono ?_;rintro e w2 ⟨rfl,n,rfl⟩;have HO:=Af (HO.drewN n);clear d;by_cases h1:z=nb
 .exact abT
 have f1:(z.toList==[99,111,110])=false:=by rw[EF];exact qX h1
 by_cases h2:z=nc
 .exact abS
 have f2:(z.toList==[112,114,110])=false:=by rw[EF];exact qX h2
 by_cases h3:z=nd
 .exact abR
 have f3:(z.toList==[97,117,120])=false:=by rw[EF];exact qX h3
 by_cases h4:z=ng
 .exact abP
 have f4:(z.toList==[110,117,108])=false:=by rw[EF];exact qX h4
 by_cases hz:z.size=4
 .have hzI:(z.size:Z)=4:=Aa;have p: ∀W,(Instr.slice 9 (G z) O (J (I Q 3)) O).run prog W=.ok (G (z.extract 0 3)) W:=λW=>tz W 9 z underlying9 .i64 3 Aa Aa
  have f:3<z.size:=Aa;have t:=AC (s:=z) (k:=3) f;have g:=Bf z 3;have HC:=Af (λW=>eO (As z 3) W g);have HD2:χ (ans=((Γ (z.extract 0 3=eQ)||decide (z.extract 0 3=eR))&&BR (As z 3)&& !Γ (As z 3=48))):=aaC;clear HD h1 h2 h3 h4 hz;generalize z.extract 0 3=x at*;generalize As z 3=c at*;by_cases hx1:x=eQ
  .have o:(x.toList==[99,111,109])=true:=by rw[EF];exact qZ hx1
   have HD3:χ (ans=(BR c&& !Γ (c=48))):=by unfold χ;rw[uh HD2,qZ hx1];simp only[Bool.true_or,tj]
   clear HD2 hx1;exact abE
  have o:(x.toList==[99,111,109])=false:=by rw[EF];exact qX hx1
  by_cases hx2:x=eR
  .have g2:(x.toList==[108,112,116])=true:=by rw[EF];exact qZ hx2
   have HD3:χ (ans=(BR c&& !Γ (c=48))):=by unfold χ;rw[uh HD2,qZ hx2];simp only[Bool.or_true,tj]
   clear HD2 hx1 hx2;exact abE
  exact abO
 exact abW
def eS(s:Y)(j:s.size<=100000)(w:U)(i:Cb w):Calls prog 175 #[G s] w λr w' =>r=ε (.bool (KS s))/\Al w w' :=by
 have d:=Af (eP s Aa w);have f:=Af (strings_HasSuffix s ⟨#[46]⟩ w Aa);have g:=Af (strings_HasSuffix s ⟨#[32]⟩ w Aa);have h:=Af (bj s j w i);have b:χ (KS s=(Ch GQ s&& !Lib.hasSuffix s.data.toList (⟨#[46]⟩:Y).data.toList&& !Lib.hasSuffix s.data.toList (⟨#[32]⟩:Y).data.toList&& !XL s)):=rfl;generalize KS s=ans at*;generalize Ch GQ s=b1 at*;generalize Lib.hasSuffix s.data.toList (⟨#[46]⟩:Y).data.toList=b2 at*;generalize Lib.hasSuffix s.data.toList (⟨#[32]⟩:Y).data.toList=b3 at*;generalize XL s=b4 at*;clear i;cases b1 with
 |false=>
  have a:ans=false:=by rw[uh b];rfl
  subst a;go_in;go_wp2_with fail;refine d.mono ?_;rintro e w1 ⟨rfl,rfl⟩;exact zI
 |true=>
 cases b2 with
 |true=>
  have a:ans=false:=by rw[uh b];rfl
  subst a;go_in;go_wp2_with fail;refine d.mono ?_;rintro e w1 ⟨rfl,rfl⟩;go_wp2_with fail;refine f.mono ?_;rintro e w2 ⟨rfl,rfl⟩;exact zI
 |false=>
 cases b3 with
 |true=>
  have a:ans=false:=by rw[uh b];rfl
  subst a;go_in;go_wp2_with fail;refine d.mono ?_;rintro e w1 ⟨rfl,rfl⟩;go_wp2_with fail;refine f.mono ?_;rintro e w2 ⟨rfl,rfl⟩;go_wp2_with fail;refine g.mono ?_;rintro e w3 ⟨rfl,rfl⟩;exact zI
 |false=>
  have a:ans= !b4:=by rw[uh b];rfl
  subst a;clear b;go_in;go_wp2_with fail;refine d.mono ?_;rintro e w1 ⟨rfl,rfl⟩;go_wp2_with fail;refine f.mono ?_;rintro e w2 ⟨rfl,rfl⟩;go_wp2_with fail;refine g.mono ?_;rintro e w3 ⟨rfl,rfl⟩;go_wp2_with fail;refine h.mono ?_;rintro e k ⟨rfl,c⟩;have HO:=Af c;clear c h;exact zj
def Fw(s:Y):(BJ s).length=Lib.countB s ⟨#[47]⟩+1:=Lib.splitB_all _ Ac _ _ _ rfl
