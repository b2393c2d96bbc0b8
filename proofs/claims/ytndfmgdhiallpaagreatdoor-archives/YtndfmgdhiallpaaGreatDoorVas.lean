import Derived.Test.YtndfmgdhiallpaaGreatDoorVaa
import Derived.Test.YtndfmgdhiallpaaGreatDoorSh
set_option linter.all false
set_option maxRecDepth 100000
set_option maxHeartbeats 400000
open _root_ renaming Option.some->J,Option.none->O,Int->Z,Nat->N,Go.Value.int->I,Go.Value.string->G,Go.IntKind.i64->Q,ByteArray->Y,List->E,Go.World->U,Go.Value.slice->K,Go.Value->β,Go.Obj.cells->γ,Go.Value.pointer->δ,Go.Ending.returned->ε,Decidable.decide->Γ
namespace Go.Proofs.YtndfmgdhiallpaaGreatDoor
open Go.RowKit Go.Proofs.Tryz
def FZ(c:N):Bool:=Γ (97<=c)&&Γ (c<=122)
def LQ(c:N):Bool:=Γ (65<=c)&&Γ (c<=90)
def BR(c:N):Bool:=Γ (48<=c)&&Γ (c<=57)
def LR(c:N):Bool:=FZ c||LQ c
def oz(m:Y)(c:N):Bool:=Γ (0<=Lib.indexByte m.data.toList c.toUInt8)
def Lj(c:N):Bool:=(FZ c||BR c)||oz ⟨#[46,45,95,126]⟩ c
def Fc(c:N):Bool:=((LR c||BR c)||decide (c=46))||decide (c=45)
def GQ(c:N):Bool:=(LR c||BR c)||oz ⟨#[33,35,36,37,38,40,41,43,44,45,46,61,64,91,93,94,95,123,125,126,32]⟩ c
def IA(f:N)(p:N->Bool):Prop:= ∀(c:N) (w:U),c<256->Calls prog f #[I .u8 (c:Z)] w λr w' =>r=ε (.bool (p c))/\w' =w
def eN:IA 321 FZ:=abL
def pm:IA 313 LQ:=by
 intro c w f;unfold LQ;by_cases a:65<=c
 .have b:(65:Z)<=(c:Z):=Aa;by_cases e:c<=90
  .have d:(c:Z)<=90:=Aa;rw[qZ a,qZ e];go_in;exact yU
  have d:¬(c:Z)<=90:=Aa;rw[qZ a,qX e];go_in;exact yU
 have b:¬(65:Z)<=(c:Z):=Aa;rw[qX a];go_in;exact yU
def eO:IA 265 BR:=abM
def po:IA 320 LR:=by
 intro c w d;have a:=Af (eN c w d);have f:=Af (pm c w d);unfold LR;cases h1:FZ c with
 |true=>
  rw[h1] at a;go_in;go_wp2_with (go_at_call 321;refine a.mono ?_;rintro e w' ⟨rfl,rfl⟩);exact yY
 |false=>
  rw[h1] at a;generalize LQ c=b at*;go_in;go_wp2_with fail;refine a.mono ?_;rintro e w' ⟨rfl,rfl⟩;go_wp2_with fail;refine f.mono ?_;rintro e g ⟨rfl,rfl⟩;exact yU
open Go.RowKit Go.Maps Go.Proofs.Tryz
def pp(c:N):(c:Z).toNat.toUInt8=c.toUInt8:=by rw[rO]
def qp:IA 266 Lj:=by
 intro c w d;have H1:=Af (eN c w d);have H2:=Af (eO c w d);have H3:=Af (strings_IndexByte ⟨#[46,45,95,126]⟩ (c:Z) w);rw[pp] at H3;have b:Hid (oz ⟨#[46,45,95,126]⟩ c=Γ (0<=Lib.indexByte (⟨#[46,45,95,126]⟩:Y).data.toList c.toUInt8)):=rfl;unfold Lj;generalize Lib.indexByte (⟨#[46,45,95,126]⟩:Y).data.toList c.toUInt8=ix at*;generalize oz ⟨#[46,45,95,126]⟩ c=bi at*;have a:=uh b;subst a;clear b;generalize FZ c=b1 at*;exact abG
def pq:IA 274 GQ:=by
 intro c w d;have H1:=Af (po c w d);have H2:=Af (eO c w d);have H3:=Af (strings_IndexByte ⟨#[33,35,36,37,38,40,41,43,44,45,46,61,64,91,93,94,95,123,125,126,32]⟩ (c:Z) w);rw[pp] at H3;have b:Hid (oz ⟨#[33,35,36,37,38,40,41,43,44,45,46,61,64,91,93,94,95,123,125,126,32]⟩ c=Γ (0<=Lib.indexByte (⟨#[33,35,36,37,38,40,41,43,44,45,46,61,64,91,93,94,95,123,125,126,32]⟩:Y).data.toList c.toUInt8)):=rfl;unfold GQ;generalize Lib.indexByte (⟨#[33,35,36,37,38,40,41,43,44,45,46,61,64,91,93,94,95,123,125,126,32]⟩:Y).data.toList c.toUInt8=ix at*;generalize oz ⟨#[33,35,36,37,38,40,41,43,44,45,46,61,64,91,93,94,95,123,125,126,32]⟩ c=bi at*;have a:=uh b;subst a;clear b;generalize LR c=b1 at*;exact abG
def Ch(p:N->Bool)(s:Y):Bool:=(List.range s.size).all (λi=>p (As s i))&&Γ (0<s.size)
def IR{p:N->Bool}{s:Y}{i:N}(a:i<s.size)(h:p (As s i)=false):Ch p s=false:=by
 unfold Ch;rw[Bool.and_eq_false_iff]
 left
 rw[tG];exact⟨i,rJ.2 a,by simp[h]⟩
def Gz{p:N->Bool}{s:Y}(h: ∀i,i<s.size->p (As s i)=true):Ch p s=Γ (0<s.size):=by
 unfold Ch;have e:(List.range s.size).all (λi=>p (As s i))=true:=rV.2 (λi a=>h i (rJ.1 a));rw[e];rfl
def CY(s:Y):s.toList.isEmpty= !Γ (0<s.size):=by
 rcases te s.size with h|h
 .rw[h];unfold ByteArray.toList ByteArray.toList.loop;rw[rc Aa];rfl
 rw[qZ h];unfold ByteArray.toList ByteArray.toList.loop;rw[rd h];have b: ∀(n i:N) (r:E UInt8),s.size- i=n->r≠[]->(ByteArray.toList.loop s i r).isEmpty=false:=by
  intro n;induction n with
  |zero=>
   intro i r d c;unfold ByteArray.toList.loop;rw[rc Aa];cases r with
   |nil=>exact absurd rfl c
   |cons a l=>simp
  |succ n ih=>
   intro i r d c;unfold ByteArray.toList.loop;rw[rd Aa];exact ih (i+1) _ Aa Ad
 exact b _ 1 _ rfl Ad
def Zf(s:Y)(a:s.size<=140737488355328)(w:U):
 Calls prog 263 #[G s,.func (.func 265) #[] #[]] w λr w' =>r=ε (.bool (Ch BR s))/\w' =w:=by
 have HF:=Af eO;have HB:=Af (λi (hi:i<s.size) h=>IR (p:=BR) (s:=s) hi h);have HG:=Af (Gz (p:=BR) (s:=s));go_in;go_wp2_with fail;go_loop [5,8] (λ_ x=> ∃i:N,i<=s.size/\x=I Q i/\Hid (∀j,j<i->BR (As s j)=true)) (λ_ x=>s.size- (intOf x).toNat)
 .exact WU
 exact zo
def jS(s:Y)(f:s.size<=140737488355328)(w:U):
 Calls prog 263 #[G s,.func (.func 266) #[] #[]] w λr w' =>r=ε (.bool (Ch Lj s))/\w' =w:=by
 have HF:=Af qp;have HB:=Af (λi (c:i<s.size) h=>IR (p:=Lj) (s:=s) c h);have HG:=Af (Gz (p:=Lj) (s:=s));go_in;go_wp2_with fail;go_loop [5,8] (λ_ x=> ∃i:N,i<=s.size/\x=I Q i/\Hid (∀j,j<i->Lj (As s j)=true)) (λ_ x=>s.size- (intOf x).toNat)
 .exact WU
 obtain⟨i,c,rfl,HI⟩:=hrel;by_cases hlt:i<s.size
 .have hltI:(i:Z)<(s.size:Z):=Aa;have d:=AC (s:=s) (k:=i) hlt;have a:=Bf s i;have HC:=Af (HF (As s i) w a);cases hp:Lj (As s i) with
  |true=>
   rw[hp] at HC;have HN:Hid (∀j,j<i+1->Lj (As s j)=true):=λj hj=>Hk
   exact zB
  |false=>
   exact zx
 exact zC
def eP(s:Y)(f:s.size<=140737488355328)(w:U):
 Calls prog 263 #[G s,.func (.func 274) #[] #[]] w λr w' =>r=ε (.bool (Ch GQ s))/\w' =w:=by
 have HF:=Af pq;have HB:=Af (λi (c:i<s.size) h=>IR (p:=GQ) (s:=s) c h);have HG:=Af (Gz (p:=GQ) (s:=s));go_in;go_wp2_with fail;go_loop [5,8] (λ_ x=> ∃i:N,i<=s.size/\x=I Q i/\Hid (∀j,j<i->GQ (As s j)=true)) (λ_ x=>s.size- (intOf x).toNat)
 .exact WU
 obtain⟨i,c,rfl,HI⟩:=hrel;by_cases hlt:i<s.size
 .have hltI:(i:Z)<(s.size:Z):=Aa;have d:=AC (s:=s) (k:=i) hlt;have a:=Bf s i;have HC:=Af (HF (As s i) w a);cases hp:GQ (As s i) with
  |true=>
   rw[hp] at HC;have HN:Hid (∀j,j<i+1->GQ (As s j)=true):=λj hj=>Hk
   exact zB
  |false=>
   exact zx
 exact zC
def Cb(w:U):Prop:= ∃m:Z,w.cell? ⟨2,0,O⟩=J (I Q m)
def Cb.old{w w' :U}(h:Cb w)(b:Al w w'):Cb w' :=by
 obtain⟨m,h⟩:=h;have a:2<w.heap.size:=by
  rcases sb 2 w.heap.size with h1|h1
  .exact h1
  simp[World.cell?,se h1] at h
 exact⟨m,by rw[b.cell (p:=⟨2,0,O⟩) a (λx=>x)];exact h⟩
