import Derived.Test.YtfpphfkcaplafaaGreatDoorZaj
import Derived.Test.YtfpphfkcaplafaaGreatDoorRows
import Derived.WalkKit
import Derived.ProofKit
import Derived.OpenShut
import Derived.LaidMore
import Derived.Stop.Joined
import Derived.SizedLaws
import Derived.Test.YtfpphfkcaplafaaGreatDoorZai
import Derived.Test.YtfpphfkcaplafaaGreatDoorSh
import Derived.Maps.RangeWalk
import Derived.Sort.Walk0
import Derived.Laws.Cover1
set_option linter.all false
set_option maxHeartbeats 64000000
set_option maxRecDepth 100000
open _root_ renaming Option.some->J,Option.none->O,Int->Z,Nat->N,Go.Value.int->I,Go.Value.string->G,Go.IntKind.i64->Q,ByteArray->Y,List->E,Go.World->U,Go.Value.slice->K,Go.Value->M,Go.Obj.cells->W,Go.Value.pointer->V,Go.RowKit.Hid->C,Go.Proofs.Tryz.prog->F,Go.Ending.returned->ε,Go.Value.bool->ζ,Bool.true->θ,Bool.false->ι,absurd->κ,Go.Calls->μ,Go.TypeId->ν,UInt8->υ,Decidable.decide->Γ
variable{b c gm k m n:N}{a:E M}{e:Bool}{L l:E Y}{w w' w0:U}{p:N->Bool}{s x:Y}{S:N->Prop}
namespace Go.Proofs.YtfpphfkcaplafaaGreatDoor
open Go.ChangeShapes Go.WideShapes Go.ChangeAt Go.RowKit Go.Proofs.Tryz
def own:ownKnob prog.godebug=none:=B
def qH:laidOutB F=true:=B
def vG:prog.globalNamed "valise/digest.startWords" =J 0:=B
def vH:(prog.globals[0]?).map (·.type)=J 97:=B
def Hd:prog.cellsOf 61=1:=B
def Wg:prog.cellsOf 97=8:=B
def nK{H:Type}{enc:ν×M->H}{c:U}{p:E MemPlace}{d:N->Bool}{l:E Z}
 (h:DataW.trod enc F c 0 d e b 97 a=J (.agg (l.map λn=> .lit (.int .u32 n)),p)):a=l.map λn=>Value.int .u32 n:=by
 obtain⟨g,m,rfl,f,b,d,c⟩:=DataW.trod_array underlying97 h;rw[Wg] at b;rw[Hd] at c;simp only[abL,DataW.agg.injEq] at f;obtain⟨f,_⟩:=f;have b:l.length=8:=by have:=hJ List.length f;simpa [d] using this
 apply abq;intro i;by_cases b:i<8
 .have d:=c i b;have b:i<g.length:=A;rw[Wv b] at d;obtain⟨k,e,h,_⟩:=adh underlying61 d;have c:(l.map λn=>(DataW.lit (.int .u32 n):DataW H))[i]? =J (g[i].1):=by rw[f];simp[b]
  rw[h] at c;rw[aaI,Wv (by omega:i<l.length)] at c ⊢;simp only[abH,abT,adc,adP,true_and] at c;have d:a[i]? =J (I .u32 k):=by
   have b:i<a.length:=A;have f:(a.drop<|i*1).take 1=[a[i]]:=by rw[abz,wN b];rfl
   rw[f] at e;rw[Wv b];simpa using e
  rw[d,abH,c]
 rw[wj A,wj ako]
abbrev Ui:E<|String×DataW Unit:=[("unicode/utf8.acceptRanges",Rows.laid_unicode_utf8_acceptRanges),("valise/inflate.order",Rows.laid_valise_inflate_order),("valise/digest.startWords",Rows.laid_valise_digest_startWords),("unicode/utf8.first",Rows.laid_unicode_utf8_first)]
def qG{b:U}(h:laidMetH F Ui b):MO b:=by
 rw[MakeChecks.laidMetH_plain _ _ _ B] at h;obtain⟨i,⟨g,t,j,k,p,m,_,_,_,_,⟨r,s,b,u,v,w,i,j,k,m,⟨x,y,d,z,r,s,c,e,a,f,_,_⟩,_⟩,_⟩,_,_⟩:=h;obtain rfl:=WX<|vG.symm.trans c;obtain rfl:=WX<|vH.symm.trans e;have b:=nK (l:=[1779033703,3144134277,1013904242,2773480762,1359893119,2600822924,528734635,1541459225]) f;have n:d=FH h0:=by apply acl;rw[b];rfl
 subst n;simp only[World.var?,c,Option.bind_some] at a;split at a
 .rename_i D t o q;injection a with a;subst a;exact⟨t,o,q⟩
 cases a
open Go.RowKit Go.Maps Go.Proofs.Tryz
def DF.old(h:DF w)(a:Am w w'):DF w':=h.kept a λx=>x
def gj(w:U):Prop:=MO w/\DF w
def gj.old(h:gj w)(a:Am w w'):gj w':=⟨h.1.old a,h.2.old a⟩
def vI:prog.globalNamed "valise/inflate.order" =J 1:=B
def vJ:(prog.globals[1]?).map (·.type)=J 307:=B
def Wh:prog.cellsOf 3=1:=B
def ux{b:U}(h:laidMetH F Ui b):DF b:=by
 rw[MakeChecks.laidMetH_plain _ _ _ B] at h;obtain⟨_,⟨g,t,_,_,p,_,_,_,_,_,⟨_,_,a,_,_,_,c,d,e,f,_,_⟩,_⟩,_,_⟩:=h;obtain rfl:=WX<|vI.symm.trans c;obtain rfl:=WX<|vJ.symm.trans d;obtain⟨i,m,_,d,_,_,j⟩:=DataW.trod_array underlying307 f;have k:(i.map (·.1))=CT.map λn:N=>(DataW.lit (.int Q (n:Z)):DataW Unit):=(DataW.agg.inj (Prod.mk.inj d).1).symm
 have f:CT.length=19:=rfl;have d:∀f,f<19->b.cell? ⟨1,f,O⟩=J (I Q (CT.getD f 0:N)):=by
  intro r l;have f:=j r l;rw[Wh,abz,Wv A] at f;obtain⟨z,j,l,_⟩:=adh underlying3 f;have f:(i.map (·.1))[r]? =(CT.map λn:N=>(DataW.lit (.int Q (n:Z)):DataW Unit))[r]? :=by rw[k]
  rw[aaI,aaI,Wv (by omega:r<i.length),Wv (by omega:r<CT.length),l] at f;have i:z=(CT.getD r 0:N):=by
   simp only[abH,abT,adc,adP,true_and] at f;rw[f,List.getD,Wv (by omega:r<CT.length)];rfl
  rw[World.var?_cell c e r,<-i];have:a.toList[r]? =J (I Q z):=by
   have h0:((a.toList.drop r).take 1)[0]? =J (I Q z):=by rw[j];rfl
   simpa using h0
  simpa using this
 refine⟨?_,d⟩;have:=d 0 A;rcases wM 1 b.heap.size with h|h
 .exact h
 simp[World.cell?,wO h] at this
def Ip(c:N):Bool:=Γ (97<=c)&&Γ (c<=122)
def Om(c:N):Bool:=Γ (65<=c)&&Γ (c<=90)
def Cj(c:N):Bool:=Γ (48<=c)&&Γ (c<=57)
def On(c:N):Bool:=Ip c||Om c
def cC(m:Y)(c:N):Bool:=Γ<|0<=Lib.indexByte m.data.toList c.toUInt8
def Nz(c:N):Bool:=(Ip c||Cj c)||cC ⟨#[46,45,95,126]⟩ c
def Gk(c:N):Bool:=((On c||Cj c)||decide (c=46))||decide (c=45)
def Jp(c:N):Bool:=(On c||Cj c)||cC ⟨#[33,35,36,37,38,40,41,43,44,45,46,61,64,91,93,94,95,123,125,126,32]⟩ c
def Kh(f:N)(p:N->Bool):Prop:= ∀(c:N) (w:U),c<256->μ F f #[I .u8 (c:Z)] w λr w'=>r=ε (ζ<|p c)/\w'=w
def nL:Kh 313 Ip:=akw
def yW:Kh 305 Om:=by
 intro c w b;unfold Om;by_cases a:65<=c
 .have b:(65:Z)<=(c:Z):=A;by_cases e:c<=90
  .have d:(c:Z)<=90:=A;rw[Wy a,Wy e];go_in;exact aet
  have:¬(c:Z)<=90:=A;rw[Wy a,Ww e];go_in;exact aet
 have:¬(65:Z)<=(c:Z):=A;rw[Ww a];go_in;exact aet
def nM:Kh 280 Cj:=akx
def yX:Kh 312 On:=by
 intro c w d;have a:=H<|nL c w d;have g:=H<|yW c w d;unfold On;cases e:Ip c with
 |true=>
  rw[e] at a;go_in;go_wp2_with (go_at_call 313;refine a.mono ?_;rintro f h ⟨rfl,rfl⟩);exact aez
 |false=>
  rw[e] at a;generalize Om c=b at*;go_in;go_wp2_with fail;apply a.mono;rintro f h ⟨rfl,rfl⟩;go_wp2_with fail;apply g.mono;rintro f _ ⟨rfl,rfl⟩;exact aet
def yY(c:N):(c:Z).toNat.toUInt8=c.toUInt8:=by rw[ww]
def He:Kh 281 Nz:=by
 intro c w b;have y:=H<|nL c w b;have o:=H<|nM c w b;have H3:=H<|strings_IndexByte ⟨#[46,45,95,126]⟩ (c:Z) w;rw[yY] at H3;have d:C<|cC ⟨#[46,45,95,126]⟩ c=Γ (0<=Lib.indexByte (⟨#[46,45,95,126]⟩:Y).data.toList c.toUInt8):=rfl;unfold Nz;generalize Lib.indexByte (⟨#[46,45,95,126]⟩:Y).data.toList c.toUInt8=ix,cC ⟨#[46,45,95,126]⟩ c=bi at*;have a:=X d;subst a;generalize Ip c=b1,Cj c=b2 at*;exact akq
def yZ:Kh 289 Jp:=by
 intro c w b;have y:=H<|yX c w b;have o:=H<|nM c w b;have H3:=H<|strings_IndexByte ⟨#[33,35,36,37,38,40,41,43,44,45,46,61,64,91,93,94,95,123,125,126,32]⟩ (c:Z) w;rw[yY] at H3;have d:C<|cC ⟨#[33,35,36,37,38,40,41,43,44,45,46,61,64,91,93,94,95,123,125,126,32]⟩ c=Γ (0<=Lib.indexByte (⟨#[33,35,36,37,38,40,41,43,44,45,46,61,64,91,93,94,95,123,125,126,32]⟩:Y).data.toList c.toUInt8):=rfl;unfold Jp;generalize Lib.indexByte (⟨#[33,35,36,37,38,40,41,43,44,45,46,61,64,91,93,94,95,123,125,126,32]⟩:Y).data.toList c.toUInt8=ix,cC ⟨#[33,35,36,37,38,40,41,43,44,45,46,61,64,91,93,94,95,123,125,126,32]⟩ c=bi at*;have a:=X d;subst a;generalize On c=b1,Cj c=b2 at*;exact akq
def Cq(p:N->Bool)(s:Y):Bool:=(List.range s.size).all (λi=>p<|As s i)&&Γ (0<s.size)
def KA{i:N}(a:i<s.size)(h:p (As s i)=ι):Cq p s=false:=by
 unfold Cq;rw[Bool.and_eq_false_iff]
 left
 rw[aaR];exact⟨i,wh.2 a,by simp[h]⟩
def IP(h:∀i,i<s.size->p (As s i)=θ):Cq p s=Γ (0<s.size):=by
 unfold Cq;have e:=wC.2 λi a=>h i<|wh.1 a;rw[e];rfl
def DH(s:Y):s.toList.isEmpty= !Γ (0<s.size):=by
 rcases aaD s.size with h|h
 .rw[h];unfold ByteArray.toList ByteArray.toList.loop;rw[Wx A];rfl
 rw[Wy h];unfold ByteArray.toList ByteArray.toList.loop;rw[Wz h];have b:∀(n i:N) (r:E υ),s.size-i=n->r≠[]->(ByteArray.toList.loop s i r).isEmpty=false:=by
  intro n;induction n with
  |zero=>
   intro i r d c;unfold ByteArray.toList.loop;rw[Wx A];cases r with
   |nil=>exact κ rfl c
   |cons a l=>simp
  |succ n e=>
   intro i r d c;unfold ByteArray.toList.loop;rw[Wz A];exact e (i+1) _ A Ad
 exact b _ 1 _ rfl Ad
def gv(s:Y)(d:s.size<=140737488355328)(w:U):
 μ F 278 #[G s,.func (.func 280) #[] #[]] w λr w'=>r=ε (ζ<|Cq Cj s)/\w'=w:=by
 have f:=H nM;have HB:=H λi (d:i<s.size) h=>KA (p:=Cj) (s:=s) d h;have c:=H<|IP (p:=Cj) (s:=s);go_in;go_wp2_with fail;go_loop [5,8] (λ_ x=>∃i:N,i<=s.size/\x=I Q i/\C (∀j,j<i->Cj (As s j)=θ)) λ_ x=>s.size-(intOf x).toNat
 .exact ahc
 obtain⟨i,d,rfl,g⟩:=hrel;by_cases R:i<s.size
 .have a:(i:Z)<s.size:=A;have d:=AA (s:=s) (k:=i) R;have d:=Bj s i;have HC:=H<|f (As s i) w d;cases hp:Cj (As s i) with
  |true=>
   rw[hp] at HC;have HN:C (∀j,j<i+1->Cj (As s j)=θ):=λj hj=>afF
   exact aeZ
  |false=>
   exact akE
 exact afE
def rX(s:Y)(d:s.size<=140737488355328)(w:U):
 μ F 278 #[G s,.func (.func 281) #[] #[]] w λr w'=>r=ε (ζ<|Cq Nz s)/\w'=w:=by
 have f:=H He;have HB:=H λi (d:i<s.size) h=>KA (p:=Nz) (s:=s) d h;have c:=H<|IP (p:=Nz) (s:=s);go_in;go_wp2_with fail;go_loop [5,8] (λ_ x=>∃i:N,i<=s.size/\x=I Q i/\C (∀j,j<i->Nz (As s j)=θ)) λ_ x=>s.size-(intOf x).toNat
 .exact ahc
 obtain⟨i,d,rfl,g⟩:=hrel;by_cases R:i<s.size
 .have a:(i:Z)<s.size:=A;have d:=AA (s:=s) (k:=i) R;have d:=Bj s i;have HC:=H<|f (As s i) w d;cases hp:Nz (As s i) with
  |true=>
   rw[hp] at HC;have HN:C (∀j,j<i+1->Nz (As s j)=θ):=λj hj=>afF
   exact aeZ
  |false=>
   exact akE
 exact afE
def nN(s:Y)(d:s.size<=140737488355328)(w:U):
 μ F 278 #[G s,.func (.func 289) #[] #[]] w λr w'=>r=ε (ζ<|Cq Jp s)/\w'=w:=by
 have f:=H yZ;have HB:=H λi (d:i<s.size) h=>KA (p:=Jp) (s:=s) d h;have c:=H<|IP (p:=Jp) (s:=s);go_in;go_wp2_with fail;go_loop [5,8] (λ_ x=>∃i:N,i<=s.size/\x=I Q i/\C (∀j,j<i->Jp (As s j)=θ)) λ_ x=>s.size-(intOf x).toNat
 .exact ahc
 obtain⟨i,d,rfl,g⟩:=hrel;by_cases R:i<s.size
 .have a:(i:Z)<s.size:=A;have d:=AA (s:=s) (k:=i) R;have d:=Bj s i;have HC:=H<|f (As s i) w d;cases hp:Jp (As s i) with
  |true=>
   rw[hp] at HC;have HN:C (∀j,j<i+1->Jp (As s j)=θ):=λj hj=>afF
   exact aeZ
  |false=>
   exact akE
 exact afE
def Cf(w:U):Prop:= ∃m:Z,w.cell? ⟨2,0,O⟩=J (I Q m)
def Cf.old(h:Cf w)(a:Am w w'):Cf w':=by
 obtain⟨m,h⟩:=h;have b:2<w.heap.size:=by
  rcases wM 2 w.heap.size with h1|h1
  .exact h1
  simp[World.cell?,wO h1] at h
 exact⟨m,by rw[a.cell (p:=⟨2,0,O⟩) b λx=>x];exact h⟩
def Iq(c:υ):υ:=if Om c.toNat then b8 (c.toNat+32) else c
def AQ(s:Y):Y:=⟨(s.data.toList.map Iq).toArray⟩
def IQ(s:Y):(AQ s).size=s.size:=by
 show((s.data.toList.map Iq).toArray).size=s.data.size;rw[wK,wX,wE]
def ID(l:E υ)(i:N):E υ:=(l.take i).map Iq++l.drop i
def LV(l:E υ)(i:N):(ID l i).length=l.length:=by simp[ID];omega
def US(l:E υ):ID l 0=l:=by simp[ID]
def ZH(l:E υ)(n:N)(h:n=l.length):ID l n=l.map Iq:=by subst h;simp[ID]
def dI(l:E υ)(i j:N)(h:i<=l.length):(ID l i)[j]? =if j<i then(l[j]?).map Iq else l[j]? :=by
 unfold ID;rw[List.getElem?_append,wX,hY,abu h,aaI,abO];by_cases e:j<i
 .rw[Wz e,Wz e,aab,Wz e]
 rw[Wx e,Wx e,show i+(j-i)=j by omega]
def KB(l:E υ)(i:N)(h:i<l.length)(a:i<(ID l i).length):(ID l i)[i]=l[i]:=by
 have:=dI l i i A;rw[Wx A,Wv a,Wv h] at this;exact WX this
def UT(l:E υ)(i:N)(h:i<l.length):ID l (i+1)=(ID l i).set i (Iq l[i]):=by
 apply abq;intro j;rw[dI l (i+1) j A,acG,LV,dI l i j A];by_cases e:i=j
 .subst e;rw[Wz A,Wz rfl,Wz h,Wv h];rfl
 rw[Wx e];by_cases a:j<i
 .rw[Wz A,Wz a]
 rw[Wx A,Wx a]
def Xt(s:Y)(t:s.size<=140737488355328)(w:U):μ F 265 #[G s] w λr w'=>r=ε (G<|AQ s)/\Am w w':=by
 have t:=Lib.run_convert_string_bytes (P:=F) w 9 64 5 s underlying9 underlying64 underlying5;have HR:C<|Kg (Lib.bytesWorld w 5 s) w.heap.size (ID s.data.toList 0):=by rw[US];exact Kg.made w s
 have HO:=H<|Il w s;have k:C<|s.data.toList.length=s.size:=by unfold C;simp
 have y:C<|w.heap.size<=w.heap.size:=WF _;have m:C (∀l:E υ,l=s.data.toList->AQ s=⟨(l.map Iq).toArray⟩):=by intro l q;subst q;rfl
 generalize S:s.data.toList=l,AQ s=z at*;have m:=H<|m l rfl;generalize s.size=n,Lib.bytesWorld w 5 s=W at*;generalize grownCap w n 0 5=cap,hg:w.heap.size=g at*;have y:C<|w.heap.size<=g:=by unfold C;omega
 go_in;go_wp2;go_loopw [4,5,10] (λ_ _ b wr=>∃i:N,i<=n/\b=I Q i/\C (Kg wr g<|ID l i)/\C (Am w wr)) λ_ _ b _=>n-(intOf b).toNat
 .exact ⟨0,A,rfl,HR,HO⟩
 obtain⟨i,_,rfl,HR,HO⟩:=hrel;by_cases D:i<n
 .have e:(i:Z)<n:=A;have o:i<l.length:=by have:=X k;omega
  have a:i<(ID l i).length:=by rw[LV];exact o
  have t:=HR.cell i a;have D:=HR.thaw i a;rw[KB l i o a] at t;have t:(l[i]).toNat<256:=(l[i]).toNat_lt;have f:=H<|UT l i o;have h:=H<|yW (l[i]).toNat wr t;have d:C (Iq l[i]=if Om (l[i]).toNat then b8 ((l[i]).toNat+32) else l[i]):=rfl;have t:=H<|KB l i o a;cases b:Om (l[i]).toNat with
  |true=>
   rw[b] at h d;simp only[acz] at d;have t:65<=(l[i]).toNat/\(l[i]).toNat<=90:=by simpa [Om] using b
   have x:=H<|HR.set i (b8 ((l[i]).toNat+32));rw[AN A] at x;rw[X d] at f;rw[<-X f] at x;have T:C<|Am w (wr.setCell ⟨g,i,O⟩<|I .u8 (((l[i]).toNat+32:N):Z)):=HO.setCell (p:=⟨g,i,O⟩) (λj=>κ j<|by have:=X y;show ¬g<_;omega) _;have t:((l[i]).toNat:Z)-65+97=(((l[i]).toNat+32:N):Z):=A;generalize(l[i]).toNat=c at*;have L:(65:Z)<=(c:Z):=A;have R:(c:Z)<=90:=A;generalize((c+32:N):Z)=c2 at*;go_wp2_with fail;apply h.mono;rintro q w' ⟨rfl,rfl⟩;exact aiY
  |false=>
   rw[b] at h d;simp only[aaM,abE] at d;rw[X d] at f;have x:C<|Kg wr g (ID l<|i+1):=by
    rw[X f];exact ahR
   generalize(l[i]).toNat=c at*;go_wp2_with fail;apply h.mono;rintro q w' ⟨rfl,rfl⟩;exact ahd
 have:¬(i:Z)<n:=A;have u:i=n:=A;subst u;have:(convert 64 9<|K (J ⟨g,0,O⟩) i cap).run F wr=.ok (G z) wr:=by
  have j:=HR.back (cap:=cap);rw[LV,X k,ZH l i (X k).symm] at j;rw[X m];exact j
 exact aeF
abbrev vK:Y:=⟨#[99,111,110]⟩
abbrev vL:Y:=⟨#[112,114,110]⟩
abbrev vM:Y:=⟨#[97,117,120]⟩
abbrev vN:Y:=⟨#[110,117,108]⟩
abbrev nO:Y:=⟨#[99,111,109]⟩
abbrev nP:Y:=⟨#[108,112,116]⟩
def Sy(e:Y):Y:=⟨(Lib.cut (AQ e).data.toList [46]).1.toArray⟩
def Pu(z:Y):Bool:=(Γ (z=vK)||decide (z=vL)||decide (z=vM)||decide (z=vN))||(Γ (z.size=4)&&(Γ (z.extract 0 3=nO)||decide (z.extract 0 3=nP))&&Cj (As z 3)&& !Γ (As z 3=48))
def dJ(e:Y):Bool:=Pu<|Sy e
def LX(e:Y):Bool:=Cq Jp e&& !Lib.hasSuffix e.data.toList [46]&& !Lib.hasSuffix e.data.toList [32]&& !dJ e
def Bt(s:Y):E Y:=Lib.splitB ⟨#[47]⟩ 0 (Lib.countB s ⟨#[47]⟩) s
def CE(s:Y):Bool:=Γ (s.size<=80)&&(Bt s).all LX
def Fw(z:Y)(l:E υ):(z.toList==l)=Γ (z=⟨l.toArray⟩):=by
 rw[Lib.toList_data];by_cases h:z=⟨l.toArray⟩
 .subst h;simp
 rw[Ww h];simp only[WA,ne_eq];intro e;exact h (aaj (abf.1<|by simpa using e))
def jL(s:Y)(D:s.size<=100000)(w:U)(l:Cf w):μ F 290 #[G s] w λr w'=>r=ε (ζ<|dJ s)/\Am w w':=by
 have i:=H<|Xt s A w;have:=IQ s;have HD:C<|dJ s=Pu (Sy s):=rfl;have o:C (∀f,Cf f-> ∃y b,μ F 210 #[G<|AQ s,G ⟨#[46]⟩] f λe w'=>e=ε (.tuple #[G<|Sy s,G y,ζ b])/\∃n,w'=f.drewN n):=by
  intro f ⟨m,hW⟩;exact⟨_,_,strings_Cut (AQ s) ⟨#[46]⟩ m f A hW⟩
 generalize dJ s=J1,AQ s=y,Sy s=z at*;go_in;go_wp2_with fail;apply i.mono;rintro e p ⟨rfl,g⟩;obtain⟨_,_,i⟩:=o p<|l.old g;have i:=H i;have HO:=H g;go_wp2_with fail;apply i.mono;rintro e y ⟨rfl,n,rfl⟩;have HO:=H<|HO.drewN n;by_cases h1:z=vK
 .have q:(z.toList==[99,111,110])=true:=by rw[Fw];exact Wy h1
  have d:J1=true:=by rw[X HD,h1];decide
  subst d;exact aeF
 have:(z.toList==[99,111,110])=false:=by rw[Fw];exact Ww h1
 by_cases h2:z=vL
 .have t:(z.toList==[112,114,110])=true:=by rw[Fw];exact Wy h2
  have d:J1=true:=by rw[X HD,h2];decide
  subst d;exact aeF
 have:(z.toList==[112,114,110])=false:=by rw[Fw];exact Ww h2
 by_cases h3:z=vM
 .have u:(z.toList==[97,117,120])=true:=by rw[Fw];exact Wy h3
  have d:J1=true:=by rw[X HD,h3];decide
  subst d;exact aeF
 have:(z.toList==[97,117,120])=false:=by rw[Fw];exact Ww h3
 by_cases h4:z=vN
 .have v:(z.toList==[110,117,108])=true:=by rw[Fw];exact Wy h4
  have d:J1=true:=by rw[X HD,h4];decide
  subst d;exact aeF
 have:(z.toList==[110,117,108])=false:=by rw[Fw];exact Ww h4
 by_cases hz:z.size=4
 .have j:(z.size:Z)=4:=A;have:∀f,(Instr.slice 9 (G z) O (J<|I Q 3) O).run F f=.ok (G<|z.extract 0 3) f:=λf=>aaN f 9 z underlying9 .i64 3 A A
  have g:3<z.size:=A;have:=AA (s:=z) (k:=3) g;have g:=Bj z 3;have HC:=H λf=>nM (As z 3) f g;have h:C<|J1=((Γ (z.extract 0 3=nO)||decide (z.extract 0 3=nP))&&Cj (As z 3)&& !Γ (As z 3=48)):=aiS;generalize z.extract 0 3=x,As z 3=c at*;by_cases f:x=nO
  .have g:(x.toList==[99,111,109])=true:=by rw[Fw];exact Wy f
   have a:C<|J1=(Cj c&& !Γ (c=48)):=by unfold C;rw[X h,Wy f];simp only[Bool.true_or,aas]
   exact akm
  have g:(x.toList==[99,111,109])=false:=by rw[Fw];exact Ww f
  by_cases g:x=nP
  .have i:(x.toList==[108,112,116])=true:=by rw[Fw];exact Wy g
   have a:C<|J1=(Cj c&& !Γ (c=48)):=by unfold C;rw[X h,Wy g];simp only[Bool.or_true,aas]
   exact akm
  have:(x.toList==[108,112,116])=false:=by rw[Fw];exact Ww g
  have d:J1=false:=by rw[X h,Ww f,Ww g];rfl
  subst d;exact aeF
 have:¬(z.size:Z)=4:=A;have d:J1=false:=ajv;subst d;exact aeF
def nQ(s:Y)(j:s.size<=100000)(w:U)(k:Cf w):μ F 223 #[G s] w λr w'=>r=ε (ζ<|LX s)/\Am w w':=by
 have b:=H<|nN s A w;have d:=H<|strings_HasSuffix s ⟨#[46]⟩ w A;have h:=H<|strings_HasSuffix s ⟨#[32]⟩ w A;have l:=H<|jL s j w k;have c:C<|LX s=(Cq Jp s&& !Lib.hasSuffix s.data.toList (⟨#[46]⟩:Y).data.toList&& !Lib.hasSuffix s.data.toList (⟨#[32]⟩:Y).data.toList&& !dJ s):=rfl;generalize LX s=J1,Cq Jp s=b1,Lib.hasSuffix s.data.toList (⟨#[46]⟩:Y).data.toList=b2,Lib.hasSuffix s.data.toList (⟨#[32]⟩:Y).data.toList=b3,dJ s=b4 at*;cases b1 with
 |false=>
  have a:J1=false:=by rw[X c];rfl
  subst a;go_in;go_wp2_with fail;apply b.mono;rintro e f ⟨rfl,rfl⟩;exact afb
 |true=>
 cases b2 with
 |true=>
  have a:J1=false:=by rw[X c];rfl
  subst a;go_in;go_wp2_with fail;apply b.mono;rintro e f ⟨rfl,rfl⟩;go_wp2_with fail;apply d.mono;rintro e i ⟨rfl,rfl⟩;exact afb
 |false=>
 cases b3 with
 |true=>
  have a:J1=false:=by rw[X c];rfl
  subst a;go_in;go_wp2_with fail;apply b.mono;rintro e f ⟨rfl,rfl⟩;go_wp2_with fail;apply d.mono;rintro e i ⟨rfl,rfl⟩;go_wp2_with fail;apply h.mono;rintro e m ⟨rfl,rfl⟩;exact afb
 |false=>
  have a:J1= !b4:=by rw[X c];rfl
  subst a;go_in;go_wp2_with fail;apply b.mono;rintro e f ⟨rfl,rfl⟩;go_wp2_with fail;apply d.mono;rintro e i ⟨rfl,rfl⟩;go_wp2_with fail;apply h.mono;rintro e m ⟨rfl,rfl⟩;go_wp2_with fail;apply l.mono;rintro e _ ⟨rfl,g⟩;have HO:=H g;exact aeF
def FK(s:Y):(Bt s).length=Lib.countB s ⟨#[47]⟩+1:=Lib.splitB_all _ Ac _ _ _ rfl
def Pv:(prog.info? 9).map (λi=>(i.zero,i.size,i.bytes))=J (J<|G ⟨#[]⟩,1,16):=B
def AD(wr:U)(Er:E M)(e:ν):∀j u,Er[j]? =J u->(wr.alloc<|W Er.toArray e).cell? ((⟨wr.heap.size,0,O⟩:Addr).add j)=J u:=aji
abbrev rY:ν:=179
abbrev Wj:ν:=282
def vO(w:U):(zeroValue Wj).run F w=.ok (.agg #[G ⟨#[]⟩,ζ ι]) w:=B
def Fx(w0 w:U)(v:M)(l:E Y):Prop:= ∃ao cap,v=K ao l.length cap/\w.ownsRow 0 9 1 v l.length (l.map Value.string)/\∀b,v.ownBlock=J b->w0.heap.size<=b
def Fx.old{v:M}(h:Fx w0 w v l)(c:Am w w'):Fx w0 w' v l:=by
 obtain⟨d,a,e,b,f⟩:=h;exact⟨d,a,e,Dp b c,f⟩
def Fx.kept{v:M}(h:Fx w0 w v l)(e:Ag S w w')(f:∀b,w0.heap.size<=b->¬S b):Fx w0 w' v l:=by
 obtain⟨g,a,i,c,d⟩:=h;exact⟨g,a,i,CJ c e λb a x=>f b (d b a) x,d⟩
def Fx.cell{v:M}(h:Fx w0 w v l)(i:N)(m:i<l.length):∃g cap,v=K (J ⟨g,0,O⟩) l.length cap/\w.cell? ⟨g,i,O⟩=J (G l[i])/\g<w.heap.size/\w0.heap.size<=g:=by
 obtain⟨_,cap,e,a,n⟩:=h;obtain⟨o,h|⟨b,_,c,j,p,k,r⟩⟩:=a
 .obtain ⟨_,h0⟩:=h;omega
 rw[e] at j;injection j with d _ f;subst d f;have a:w.ownsRow 0 9 1 v l.length<|l.map Value.string:=⟨o,.inr ⟨b,cap,c,e,p,k,r⟩⟩;refine⟨b,cap,e,?_,(Wt.1 k).1,n b<|by rw[e];rfl⟩;have:=a.cells (g:=b) (by rw[e];rfl) i (G l[i]) (by simp[m]);exact ahP
def Fx.more{w3:U}{v:M}{g cap:N}(h:Fx w0 w v l)(a:Am w0 w)(d:w3.ownsRow 0 9 1 (K (J ⟨g,0,O⟩) (l.length+1) cap) (l.length+1)<|l.map Value.string++[G x])(e:(w.alloc<|W #[G x] 9).grownBy w3 v.ownBlock)(f:v.ownBlock=J g\/g=w.heap.size+1):
 Fx w0 w3 (K (J ⟨g,0,O⟩) (l.length+1) cap) (l++[x])/\Am w0 w3:=by
 obtain⟨_,_,_,_,c⟩:=h;refine⟨⟨J ⟨g,0,O⟩,cap,Ad,by simpa using d,λb d=>?_⟩,?_⟩
 .have:=WX (show J g=J b from d);subst this;rcases f with h|h
  .exact c g h
  rw[h];have:=a.size;omega
 exact(a.alloc _).grown e λk _ a=>by have:=c k a;omega
def Bf(s:Y)(n:N):E Y:=((List.range n).filter λi=>As s i==47).map λi=>s.extract 0 i
def GY(s:Y)(i:N)(h:As s i=47):Bf s (i+1)=Bf s i++[s.extract 0 i]:=by
 simp[Bf,aaS,aaL,h]
def IR(s:Y)(i:N)(h:As s i≠47):Bf s (i+1)=Bf s i:=by
 simp[Bf,aaS,aaL,h]
def GZ(s:Y)(n:N):(Bf s n).length<=n:=by
 have:=aaU (λi=>As s i==47)<|List.range n;simp only[aci] at this;simpa [Bf] using this
def Ey(s:Y):E Y:=Bf s s.size++[s]
def ZI(s:Y):(Ey s).length<=s.size+1:=by have:=GZ s s.size;simp[Ey];omega
def ZJ(s:Y)(S:s.size<=1000)(w:U):μ F 304 #[G s] w λr w'=>∃v,r=ε v/\Fx w w' v (Bf s s.size)/\Am w w':=by
 obtain⟨R,f,h,j,l⟩:=wi Pv;have e:C<|Fx w w (K O 0 0) (Bf s 0):=⟨O,0,rfl,WZ w 0 9 1,λb a=>by cases a⟩;have c:=H (Ag.refl (λ_=>False) w);go_in;go_wp2;go_loopw [3,4,7] (λD _ x wr=>∃i:N,i<=s.size/\x=I Q i/\C (Fx w wr D<|Bf s i)/\C (Am w wr)) λ_ _ x _=>s.size-(intOf x).toNat
 .exact ⟨0,A,rfl,e,c⟩
 obtain⟨i,_,rfl,m,c⟩:=hrel;by_cases e:i<s.size
 .have d:(i:Z)<s.size:=A;have S:=AA (s:=s) (k:=i) e;have:=Bj s i;by_cases a:As s i=47
  .have:∀e,(Instr.slice 9 (G s) O (J<|I Q (i:Z)) O).run F e=.ok (G<|s.extract 0 i) e:=λe=>aaN e 9 s underlying9 .i64 i A A
   have n:=H<|GY s i a;have:=GZ s i;rw[a] at S;have o:=H λp g e=>Fx.more (w3:=p) (x:=s.extract 0 i) (g:=g) (cap:=e) m c;obtain⟨T,cp,q,t,_⟩:=X m;subst q;have u:=H (Dp t ((Ag.refl (λ_=>False) wr).alloc<|W #[G<|s.extract 0 i] 9));have x:=H<|AD wr [G<|s.extract 0 i] 9;generalize s.extract 0 i=z,Bf s i=L at*;go_wp2_with (at_builtin;refine wpList_append_lies _ rfl (.tmp 14) (.tmp 18) 29 rfl 0 9 R (G ⟨#[]⟩) 1 16 underlying29 f h j l rfl A (K T L.length cp) L.length _ rfl u ⟨wr.heap.size,0,O⟩ 1 1 [G z] rfl rfl x (by intro D P;simp at P;subst P;rfl) A (by unfold maxLen;omega) A A (wr.heap.size+1) Ad ?_;intro t e p f h j l;have q:=H<|o p t e f h j;clear f h j l);go_roundw
   .exact ⟨i+1,A,by go_num,by rw[X n];exact q.1,q.2⟩
   exact Ae
  have n:=H<|IR s i a;have:¬((As s i:Z)=47):=A;go_wp2;go_roundw
  .exact ⟨i+1,A,by go_num,by rw[X n];exact m,c⟩
  exact Ae
 have:¬(i:Z)<s.size:=A;have y:i=s.size:=A;subst y;go_wp2;go_ret;exact⟨_,rfl,m,c⟩
def Qn(s:Y)(p:s.size<=1000)(w:U):μ F 264 #[G s] w λr w'=>∃v,r=ε v/\Fx w w' v (Ey s)/\Am w w':=by
 obtain⟨q,b,c,d,e⟩:=wi Pv;have:=GZ s s.size;have t:C<|Ey s=Bf s s.size++[s]:=rfl;go_in;go_wp2_with fail;apply(ZJ s p w).mono;rintro _ a ⟨_,rfl,m,p⟩;have f:=H λh g i=>Fx.more (w3:=h) (x:=s) (g:=g) (cap:=i) m p;obtain⟨u,y,i,j,_⟩:=m;subst i;have k:=H (Dp j ((Ag.refl (λ_=>False) a).alloc<|W #[G s] 9));have l:=H<|AD a [G s] 9;generalize Bf s s.size=L at*;go_wp2_with (at_builtin;refine wpList_append_lies _ rfl (.tmp 4) (.tmp 6) 29 rfl 0 9 q (G ⟨#[]⟩) 1 16 underlying29 b c d e rfl A (K u L.length y) L.length _ rfl k ⟨a.heap.size,0,O⟩ 1 1 [G s] rfl rfl l (by intro _ n;simp at n;subst n;rfl) A (by unfold maxLen;omega) A A (a.heap.size+1) Ad ?_;intro i a h b c d e;have o:=H<|f h i a b c d;clear b c d e);go_ret;exact⟨_,rfl,by rw[X t];exact o.1,o.2⟩
def Sz:M->Option (DataW Unit×E MemPlace)
 | .agg a=>match a.toList with
  |[G s,ζ b]=>J (.agg [.lit (.string s.data.toList),.lit (.bool b)],[])
  |_=>O
 |_=>O
abbrev Hf(s:Y)(b:Bool):DataW Unit:=.agg [.lit (.string s.data.toList),.lit (.bool b)]
def UU(s:Y)(b:Bool):Sz (.agg #[G s,ζ b])=J (Hf s b,[]):=rfl
def SA{v:M}{b:Bool}{c:E MemPlace}(h:Sz v=J (Hf s b,c)):v=.agg #[G s,ζ b]:=by
 unfold Sz at h;split at h
 .rename_i a;split at h
  .rename_i d e f;simp only[abT,abL,DataW.agg.injEq,aed,adc,Lit.string.injEq,Lit.bool.injEq] at h;obtain⟨⟨c,g,_⟩,_⟩:=h;have i:=aaj<|abf.1 c;subst i g;have:a= #[G d,ζ e]:=by rw[<-abf,f]
   rw[this]
  cases h
 cases h
abbrev Iw:=Y->Option (Y×Bool)
def Xu(f:Iw)(k:Y)(x:Y×Bool):Iw:=λr=>if r=k then J x else f r
def Cx(w:U)(gm n:N)(f:Iw):Prop:= ∃D:DataW Unit,w.ownsMap F 9 Sz gm n D/\∀r:Y,has D (.string r.data.toList)=(f r).isSome/\∀x,f r=J x-> ∀z,D.atKey (.string r.data.toList) z=Hf x.1 x.2
def Cx.lt{f:Iw}(h:Cx w gm n f):gm<w.heap.size:=by obtain⟨_,h,_⟩:=h;exact h.lt
def Cx.kept{f:Iw}(h:Cx w gm n f)(ho:Ag S w w')(hs:¬S gm):Cx w' gm n f:=ahy
def Cx.old{f:Iw}(h:Cx w gm n f)(a:Am w w'):Cx w' gm n f:=h.kept a λx=>x
def Cx.made(w:U):Cx (w.alloc (.map #[] 0)) w.heap.size 0 (λ_=>O):=
 ⟨_,adf w F 9 Sz,λ_=>⟨rfl,λ_ h=>by cases h⟩⟩
def Cx.mono{f:Iw}(h:Cx w gm n f)(a:n<=m):Cx w gm m f:=by
 obtain⟨D,b,c⟩:=h;exact⟨D,b.mono a,c⟩
def Cx.look{f:Iw}(h:Cx w gm n f)(r:Y)(g:r.size<=maxLen):(Instr.lookup rY (.map<|J gm) (G r) θ).run F w=.ok (.tuple #[.agg #[G ((f r).getD (⟨#[]⟩,ι)).1,ζ ((f r).getD (⟨#[]⟩,ι)).2],ζ (f r).isSome]) w:=by
 obtain⟨D,i,j⟩:=h;obtain⟨_,_,a,c⟩:=i.look_ok Dl underlying179 (vO w) (UU ⟨#[]⟩ ι)<|QF r g;have b:=j r;cases e:f r with
 |none=>
  rw[e] at b;have d:has D (.string r.data.toList)=false:=b.1;rw[atKey_of_not_has d] at c;rw[a,d,SA c]
  rfl
 |some x=>
  rw[e] at b;have d:has D (.string r.data.toList)=true:=b.1;rw[b.2 x rfl] at c;rw[a,d,SA c]
  rfl
def Cx.put{f:Iw}(h:Cx w gm n f)(r:Y)(j:r.size<=maxLen)(l:n<maxLen)(s:Y)(b:Bool):∃w',(Instr.mapUpdate rY (.map<|J gm) (G r) (.agg #[G s,ζ b])).run F w=.ok () w'/\Cx w' gm (n+1) (Xu f r (s,b))/\Ag (λk=>k=gm) w w':=by
 obtain⟨_,g,i⟩:=h;obtain⟨m,c,a,h⟩:=g.update Dl underlying179 l (QF r j)<|UU s b;refine⟨m,c,⟨_,a,λq=>?_⟩,(Ag.refl _ w).grown h λk _ e=>(WX e).symm⟩;unfold Xu;by_cases e:q=r
 .subst e;rw[Wz rfl,adz g.isMap<|Zj _];refine⟨rfl,λx d z=>?_⟩;rw[aeg g.isMap<|Zj _];injection d with d;subst d;rfl
 have a:=Nv (show q≠r from e);rw[Wx e,adq a];refine⟨(i q).1,λx d z=>?_⟩;rw[aec a];exact(i q).2 x d z
def Ir(f:Iw)(s b:Y):Bool:=(f<|AQ b).isSome&&(Γ (((f<|AQ b).getD (⟨#[]⟩,ι)).1≠b)||((f<|AQ b).getD (⟨#[]⟩,ι)).2||decide (b=s))
def Dz(f:Iw)(s:Y):Bool:=(Ey s).any<|Ir f s
def Jq(f:Iw)(s:Y):Iw:=(Ey s).foldl (λf b=>Xu f (AQ b) (b,Γ<|b=s)) f
abbrev Fy:Y:=⟨#[103,111,46,109,111,100]⟩
abbrev nR:Y:=⟨#[76,73,67,69,78,83,69]⟩
def TG(a b:Y):(a.toList==b.toList)=Γ (a=b):=by
 rw[Lib.toList_data b];exact Fw a _
def Gl(s:Y)(a b:N):(s.extract a b).size<=s.size:=akS
def Pw(a:Y):∀(k:N) (s x:Y),x∈Lib.splitB a 0 k s->x.size<=s.size
 |0,s,x,h=>by
  rw[Lib.splitB_zero] at h;rw[WN] at h;subst h;exact WF _
 |k+1,s,x,h=>by
  unfold Lib.splitB at h;split at h
  .rw[WN] at h;subst h;exact WF _
  rcases wD.1 h with h|h
  .subst h;exact Gl _ _ _
  exact WI (Pw a k _ x h)<|Gl _ _ _
def UV(h:x∈Bt s):x.size<=s.size:=Pw _ _ _ _ h
def Xv(s:Y)(b:s.size<=2000000)(w:U)(a:Cf w):μ F 170 #[G s,G ⟨#[47]⟩] w λr w'=>r=ε (K (J ⟨w.heap.size,0,O⟩) (Bt s).length (Bt s).length)/\Am w w'/\w.heap.size<w'.heap.size/\∀i (h:i<(Bt s).length),w'.cell? ⟨w.heap.size,i,O⟩=J (G (Bt s)[i]):=by
 obtain⟨m,a⟩:=a;apply(strings_Split s ⟨#[47]⟩ m w A a Ac).mono;rintro _ w' ⟨rfl,rfl⟩;refine⟨by rw[FK],(Ag.refl _ w).alloc _,by rw[WP];omega,λi a=>?_⟩;rw[Wu _ _ i _ _ (0,0)<|WD _ _];have:((Bt s).map Value.string).toArray[i]? =J (G (Bt s)[i]):=by simp[a]
 exact this
def Xw(s:Y)(hs:s.size<=140737488355328)(w:U)(t:Cf w):μ F 159 #[G s] w λr w'=>r=ε (ζ<|CE s)/\Am w w':=by
 by_cases f:s.size<=80
 .have k:¬(80:Z)<(s.size:Z):=A;have R:=H<|Xv s A w t;have q:=H t;have y:C<|CE s=(Bt s).all LX:=by unfold C;rw[CE,Wy f,aas]
  have:(Bt s).length<=100:=agz;have S:C (∀x∈Bt s,x.size<=100000):=λx hx=>by have:=UV hx;omega
  generalize CE s=J1,Bt s=L at*;go_in;go_wp2_with fail;apply R.mono;rintro e T ⟨rfl,D,t,R⟩;have P:=H D;have HC:=H R;have q:=H<|q.old D;have u:=H t;generalize w.heap.size=g at*;go_wp2;go_loopw [4,11] (λ_ x wr=>∃i:N,i<=L.length/\x=I Q i/\C (Am T wr)/\C (∀j (h:j<L.length),j<i->LX L[j]=θ)) λ_ x _=>L.length-(intOf x).toNat
  .exact ⟨0,A,rfl,Ag.refl _ _,λj _ h=>A⟩
  obtain⟨i,_,rfl,l,HT⟩:=hrel;by_cases o:i<L.length
  .have m:(i:Z)<L.length:=A;have:=(l.cell (p:=⟨g,i,O⟩) u λx=>x).trans<|HC i o;have n:=H<|nQ L[i] (S _<|WJ o) wr (q.old l);cases b:LX L[i] with
   |true=>
    rw[b] at n;have v :C (∀j (h:j<L.length),j<i+1->LX L[j]=θ):=afC;generalize L[i]=z at*;go_wp2_with fail;apply n.mono;rintro e w' ⟨rfl,d⟩;have c :=H<|Ag.trans l d;go_wp2;go_roundw
    .exact ⟨i+1,A,by go_num,c,v⟩
    exact Ae
   |false=>
    rw[b] at n;have a:J1=false:=by
     rw[X y,aaR];exact agF
    subst a;generalize L[i]=z at*;go_wp2_with fail;apply n.mono;rintro e w' ⟨rfl,d⟩;have c :=H<|Ag.trans P (Ag.trans l d);go_wp2;go_ret;exact⟨rfl,c⟩
  have:¬(i:Z)<L.length:=A;have a:J1=true:=by
   rw[X y,wC];exact afM
  subst a;have c :=H<|Ag.trans P l;go_wp2;go_ret;exact⟨rfl,c⟩
 have:(80:Z)<(s.size:Z):=A;have a:CE s=false:=by rw[CE,Ww f,aco]
 rw[a];go_in;exact afb
def Px(s:Y)(e:s.size<=140737488355328)(w:U):μ F 203 #[G s] w λr w'=>r=ε (ζ<|Γ (s≠Fy)&&Γ (AQ s=Fy))/\Am w w':=by
 have d:(s.toList==[103,111,46,109,111,100])=Γ (s=Fy):=Fw s _;by_cases h:s=Fy
 .rw[Wy h] at d;have a:(Γ (s≠Fy)&&Γ (AQ s=Fy))=false:=by rw[Ww λx=>x h];rfl
  rw[a];go_in;exact afb
 rw[Ww h] at d;have a:(Γ (s≠Fy)&&Γ (AQ s=Fy))=Γ (AQ s=Fy):=by rw[Wy h];rfl
 rw[a];have:((AQ s).toList==[103,111,46,109,111,100])=Γ (AQ s=Fy):=Fw (AQ s) _;have f:=H<|Xt s e w;generalize Γ (AQ s=Fy)=b,AQ s=y at*;go_in;go_wp2_with fail;apply f.mono;rintro _ _ ⟨rfl,c⟩;have HO:=H c;exact aeF
def BE(s:Y):N:=if s=Fy\/s=nR then 500 else 4000
def ZK(s:Y)(w:U):μ F 204 #[G s] w λr w'=>r=ε (I Q<|BE s)/\w'=w:=by
 have c:(s.toList==[103,111,46,109,111,100])=Γ (s=Fy):=Fw s _;have d:(s.toList==[76,73,67,69,78,83,69])=Γ (s=nR):=Fw s _;by_cases b:s=Fy
 .rw[Wy b] at c;have a:BE s=500:=Wz (.inl b);rw[a];clear a b d;go_in;exact aet
 rw[Ww b] at c;by_cases c:s=nR
 .rw[Wy c] at d;have a:BE s=500:=Wz (.inr c);rw[a];clear a b c;go_in;exact aet
 rw[Ww c] at d;have a:BE s=4000:=Wx λh=>h.elim b c;rw[a];clear a b c;go_in;exact aet
def Jr(s:Y)(hs:s.size<=1000)(gm n:N)(f:Iw)(w:U)(hg:Cx w gm n f):μ F 202 #[.map<|J gm,G s] w λr w'=>r=ε (ζ<|Dz f s)/\Am w w':=by
 have HG:=H hg;have H1:=H<|Qn s hs w;have HD:C<|Dz f s=(Ey s).any (Ir f s):=rfl;have v:=ZI s;have HB:C (∀x∈Ey s,x.size<=1000):=λx hx=>ahW
 generalize Dz f s=J1 at*;generalize Ey s=L at*;have:L.length<=1001:=A;clear hg v;go_in;go_wp2_with fail;refine H1.mono ?_;rintro e W ⟨_,rfl,hS,hO⟩;have HS:=H hS;have HO:=H hO;obtain⟨_,_,hv,_⟩:=hS;subst hv;clear hO H1;go_wp2;go_loopw [6,7,8,12] (λ_ _ _ x wr=>∃i:N,i<=L.length/\x=I Q i/\C (Am W wr)/\C (∀k (h:k<L.length),k<i->Ir f s L[k]=ι)) λ_ _ _ x _=>L.length-(intOf x).toNat
 .exact ⟨0,A,rfl,Ag.refl _ _,λk _ h=>A⟩
 obtain⟨i,_,rfl,u,D⟩:=hrel;by_cases q:i<L.length
 .have t:(i:Z)<L.length:=A;obtain⟨g,_,R,_,_,_⟩:=(HS.old u).cell i q;injection R with S T a0;subst S;clear a0 T;have l:=H (Xt L[i] (by have:=HB _<|WJ q;omega) wr);have P:C (∀m,Am wr m ->(Instr.lookup rY (.map<|J gm) (G<|AQ L[i]) θ).run F m =.ok (.tuple #[.agg #[G ((f<|AQ L[i]).getD (⟨#[]⟩,ι)).1,ζ ((f<|AQ L[i]).getD (⟨#[]⟩,ι)).2],ζ (f<|AQ L[i]).isSome]) m):=λm m=>by
   refine Cx.look ((HG.old HO).old<|Ag.trans u m) _ ?_;rw[IQ];have:=HB _<|WJ q;unfold maxLen;omega
  have a:C<|Ir f s L[i]=((f<|AQ L[i]).isSome&&(Γ (((f<|AQ L[i]).getD (⟨#[]⟩,ι)).1≠L[i])||((f<|AQ L[i]).getD (⟨#[]⟩,ι)).2||decide (L[i]=s))):=rfl;have b:C<|Ir f s L[i]=θ->J1=θ:=λh=>by
   rw[X HD,wJ];exact⟨_,WJ q,h⟩
  have p :C (Ir f s L[i]=ι-> ∀k (h:k<L.length),k<i+1->Ir f s L[k]=ι):=λm k h _=>by
   by_cases e:k=i
   .subst e;exact m
   exact D k h A
  clear D;generalize Ir f s L[i]=cb at*;generalize(f<|AQ L[i]).isSome=b1 at*;generalize((f<|AQ L[i]).getD (⟨#[]⟩,ι)).2=b2 at*;generalize((f<|AQ L[i]).getD (⟨#[]⟩,ι)).1=z1 at*;generalize AQ L[i]=y at*;generalize L[i]=z at*;have e1:=TG z1 z;have e2:=TG z s;cases b1 with
  |false=>
   have p :=H (p<|by rw[X a];rfl);clear a b;exact afV
  |true=>
   by_cases hz:z1=z
   .rw[Wy hz] at e1;have j:Γ (z1≠z)=false:=Ww λh=>h hz;cases b2 with
    |true=>
     exact akF
    |false=>
     by_cases m:z=s
     .rw[Wy m] at e2;have d:=b (by rw[X a,j,Wy m];rfl);subst d;clear a b p j hz m;exact afh
     rw[Ww m] at e2;have p :=H (p<|by rw[X a,j,Ww m];rfl);clear a b j hz m;exact afV
   rw[Ww hz] at e1;have j:Γ (z1≠z)=true:=Wy hz;exact akF
 have:¬(i:Z)<L.length:=A;have d:J1=false:=by
  rw[X HD,aar];intro x hx;obtain⟨k,hj,rfl⟩:=wF hx;rw[D k hj A];exact λh=>akU
 subst d;go_wp2;go_ret;exact⟨rfl,Ag.trans HO u⟩
def ZL(f:Iw)(s:Y)(l:E Y)(i:N):Iw:=(l.take i).foldl (λf b=>Xu f (AQ b) (b,Γ<|b=s)) f
def jM(f:Iw)(s:Y)(l:E Y)(i:N)(h:i<l.length):ZL f s l (i+1)=Xu (ZL f s l i) (AQ l[i]) (l[i],Γ<|l[i]=s):=by
 unfold ZL;rw[aay,List.foldl_append,Wv h];rfl
def za(s:Y)(hs:s.size<=1000)(gm n:N)(hn:n<=1000000)(f:Iw)(w:U)(t:Cx w gm n f):μ F 205 #[.map<|J gm,G s] w λr w'=>r=ε (.tuple #[])/\Ag (λk=>k=gm) w w'/\Cx w' gm (n+1001) (Jq f s):=by
 have HG:=H t;have H1:=H<|Qn s hs w;have HD:C<|Jq f s=ZL f s (Ey s) (Ey s).length:=by unfold C;rw[ZL,wL];rfl
 have u:=ZI s;have HB:C (∀x∈Ey s,x.size<=1000):=λx hx=>ahW
 have v:=H t.lt;generalize Jq f s=J1,Ey s=L at*;have:L.length<=1001:=A;clear t u;go_in;go_wp2_with fail;apply H1.mono;rintro a2 p ⟨_,rfl,hS,q⟩;have HS:=H hS;have:=H q;have e:C<|Cx p gm (n+0) (ZL f s L 0):=HG.old q;have D:C (Ag (λk=>k=gm) w p):=Ag.oldS q;have j:=H (Ag.refl (λk=>k=gm) p);obtain⟨_,_,hv,_⟩:=hS;subst hv;clear q H1 HG;go_wp2;go_loopw [5,9] (λ_ x wr=>∃i:N,i<=L.length/\x=I Q i/\C (Ag (λk=>k=gm) p wr)/\C (Cx wr gm (n+i)<|ZL f s L i)) λ_ x _=>L.length-(intOf x).toNat
 .exact ⟨0,A,rfl,j,e⟩
 obtain⟨i,_,rfl,x,P⟩:=hrel;clear e j;by_cases a:i<L.length
 .have l:(i:Z)<L.length:=A;obtain⟨g,_,R,_,_,_⟩:=(HS.kept x λb h a2=>by have:=X v;omega).cell i a;injection R with S T a0;subst S;clear a0 T;have m:=H (Xt L[i] (by have:=HB _<|WJ a;omega) wr);have o:C (∀d,Am wr d -> ∃c,(Instr.mapUpdate rY (.map<|J gm) (G<|AQ L[i]) (.agg #[G L[i],ζ<|Γ (L[i]=s)])).run F d =.ok () c /\Cx c gm (n+(i+1)) (ZL f s L<|i+1)/\Ag (λk=>k=gm) d c):=λd c=>by
   rw[jM f s L i a];exact Cx.put (P.old c) (AQ L[i]) (by rw[IQ];have:=HB _<|WJ a;unfold maxLen;omega) (by unfold maxLen;omega) _ _
  have:=TG L[i] s;clear P;generalize Γ (L[i]=s)=b,AQ L[i]=y,L[i]=z at*;go_wp2_with fail;apply m.mono;rintro a2 w' ⟨rfl,c⟩;obtain⟨_,_,j,a⟩:=o w' c;have d:=H j;have e:=H ((x.trans<|Ag.oldS c).trans a);clear c m o j a;go_wp2;go_roundw
  .exact ⟨i+1,A,by go_num,e,d⟩
  exact Ae
 have:¬(i:Z)<L.length:=A;have a1:i=L.length:=A;subst a1;have d:C<|Cx wr gm (n+1001) J1:=by rw[X HD];exact P.mono A
 go_wp2_with fail;go_end0;exact⟨rfl,D.trans x,d⟩
abbrev nS:Y:=⟨#[46,98,122,114]⟩
abbrev nT:Y:=⟨#[46,103,105,116]⟩
abbrev zb:Y:=⟨#[46,104,103]⟩
abbrev nU:Y:=⟨#[46,115,118,110]⟩
def FT(z:Y):Bool:=Γ (z=nS)||decide (z=nT)||decide (z=zb)||decide (z=nU)
def vP(z:Y)(w:U):μ F 263 #[G z] w λr w'=>r=ε (ζ<|FT z)/\w'=w:=by
 have:(z.toList==[46,98,122,114])=Γ (z=nS):=Fw z _;have:(z.toList==[46,103,105,116])=Γ (z=nT):=Fw z _;have:(z.toList==[46,104,103])=Γ (z=zb):=Fw z _;have:(z.toList==[46,115,118,110])=Γ (z=nU):=Fw z _;have b:C<|FT z=(Γ (z=nS)||decide (z=nT)||decide (z=zb)||decide (z=nU)):=rfl;generalize FT z=J1,Γ (z=nS)=b1,Γ (z=nT)=b2,Γ (z=zb)=b3,Γ (z=nU)=b4 at*;cases b1<;>cases b2<;>cases b3<;>cases b4<;>
 (first
  |(have a:J1=false:=by rw[X b];rfl
    subst a)
  |(have a:J1=true:=by rw[X b];rfl
    subst a))<;>
 (go_in
  go_wp2;go_ret;exact⟨rfl,rfl⟩)
abbrev nV:M:=.func (.func 263) #[] #[]
def vQ(g n cap:N)(L:E Y)(b:n<=L.length)(l:n<=3000000)(w:U)(b:∀i (h:i<L.length),w.cell? ⟨g,i,O⟩=J (G L[i])):μ F 303 #[K (J ⟨g,0,O⟩) n cap,nV] w λr w'=>∃k:Z,r=ε (I Q k)/\Γ (0<=k)=(L.take n).any FT/\w'=w:=by
 have d:=H b;clear b;go_in;go_wp2_with fail;go_loop [5,8] (λ_ x=>∃i:N,i<=n/\x=I Q i/\C (∀j (h:j<L.length),j<i->FT L[j]=ι)) λ_ x=>n-(intOf x).toNat
 .exact agc
 obtain⟨i,_,rfl,HT⟩:=hrel;by_cases f:i<n
 .have a:(i:Z)<n:=A;have b:i<L.length:=A;have:=d i b;have c:=H<|vP L[i] w;cases hk:FT L[i] with
  |true=>
   have HA:C<|Γ ((0:Z)<=(i:Z))=(L.take n).any FT:=aiZ;rw[hk] at c;clear hk;generalize L[i]=z at*;go_wp2_with fail;apply c.mono;rintro e w' ⟨rfl,rfl⟩;exact aho
  |false=>
   have p :C (∀j (h:j<L.length),j<i+1->FT L[j]=ι):=λj h _=>ake
   rw[hk] at c;clear hk;generalize L[i]=z at*;go_wp2_with fail;apply c.mono;rintro e w' ⟨rfl,rfl⟩;exact afk
 have:¬(i:Z)<n:=A;have HA:C<|Γ ((0:Z)<= -1)=(L.take n).any FT:=ahF;exact aho
def jN(g n cap:N)(L:E Y)(a:n<=L.length)(c:n<=3000000)(w:U)(d:∀i (h:i<L.length),w.cell? ⟨g,i,O⟩=J (G L[i])):μ F 262 #[K (J ⟨g,0,O⟩) n cap,nV] w λr w'=>r=ε (ζ ((L.take n).any FT))/\w'=w:=by
 have y:=H<|vQ g n cap L a c w d;generalize(L.take n).any FT=b at*;exact akI
def ZM(s:Y):Bool:=((Bt s).take ((Bt s).length-1)).any FT
def rZ(s:Y)(f:s.size<=2000000)(w:U)(h:Cf w):μ F 198 #[G s] w λr w'=>r=ε (ζ<|ZM s)/\Am w w':=by
 have j:=H<|Xv s f w h;have e:C<|ZM s=((Bt s).take ((Bt s).length-1)).any FT:=rfl;have:(Bt s).length<=2000001:=agz;have:1<=(Bt s).length:=by rw[FK];omega
 generalize ZM s=J1,Bt s=L at*;obtain⟨m,c⟩:∃m,L.length-1=m:=⟨_,rfl⟩;rw[c] at e;have k:C (∀g a b,(∀i (h:i<L.length),b.cell? ⟨g,i,O⟩=J (G L[i]))->μ F 262 #[K (J ⟨g,0,O⟩) m a,nV] b λr w'=>r=ε (ζ J1)/\w'=b):=λg a b h=>by
  rw[X e];exact jN g m a L A A b h
 have:(L.length:Z)-1=(m:Z):=A;have:(m:Z)<=L.length:=A;have:(0:Z)<=(m:Z):=A;have:=ww m;have:m<=L.length:=A;have:¬L.length=m:=A;go_in;go_wp2_with fail;apply j.mono;rintro i b ⟨rfl,l,_,c⟩;have HO:=H l;have d:=H λa=>k w.heap.size a b c;generalize w.heap.size=g at*;go_wp2_with fail;apply(d _).mono;rintro i _ ⟨rfl,rfl⟩;exact aeF
abbrev MP:Y:=⟨#[118,101,110,100,111,114,47]⟩
abbrev Es:Y:=⟨#[47,118,101,110,100,111,114,47]⟩
def dK(s:Y):Y×Bool:=if Lib.hasPrefix s.data.toList MP.data.toList then(⟨(Lib.trimPrefix s.data.toList MP.data.toList).toArray⟩,θ) else(⟨(Lib.cut s.data.toList Es.data.toList).2.1.toArray⟩,(Lib.cut s.data.toList Es.data.toList).2.2)
def ZN(s:Y):Bool:=(dK s).2&&Γ (0<=Lib.indexByte (dK s).1.data.toList 47)
def jO(s:Y)(p:s.size<=2000000)(w:U)(i:Cf w):μ F 200 #[G s] w λr w'=>r=ε (ζ<|ZN s)/\Am w w':=by
 obtain⟨m,i⟩:=i;have g:=H<|strings_CutPrefix s MP w;have j:=H<|strings_Cut s Es m w A i;have d:=H λz a=>strings_Contains_one z 47 a;have k:C<|ZN s=((dK s).2&&Γ (0<=Lib.indexByte (dK s).1.data.toList 47)):=rfl;have e:C (dK s=if Lib.hasPrefix s.data.toList MP.data.toList then(⟨(Lib.trimPrefix s.data.toList MP.data.toList).toArray⟩,θ) else(⟨(Lib.cut s.data.toList Es.data.toList).2.1.toArray⟩,(Lib.cut s.data.toList Es.data.toList).2.2)):=rfl;generalize ZN s=J1,dK s=rs at*;cases h:Lib.hasPrefix s.data.toList MP.data.toList with
 |true=>
  rw[h] at g e;simp only[acz] at e;have a:J1=Γ (0<=Lib.indexByte (⟨(Lib.trimPrefix s.data.toList MP.data.toList).toArray⟩:Y).data.toList 47):=by rw[X k,X e];rfl
  rw[a];have d:=H<|d ⟨(Lib.trimPrefix s.data.toList MP.data.toList).toArray⟩ w;generalize(⟨(Lib.trimPrefix s.data.toList MP.data.toList).toArray⟩:Y)=z at*;generalize Γ (0<=Lib.indexByte z.data.toList 47)=b at*;go_in;go_wp2_with fail;apply g.mono;rintro f l ⟨rfl,rfl⟩;go_wp2_with fail;apply d.mono;rintro f o ⟨rfl,rfl⟩;exact afb
 |false=>
  rw[h] at g e;simp only[aaM,abE] at e;have a:J1=((Lib.cut s.data.toList Es.data.toList).2.2&&Γ (0<=Lib.indexByte (⟨(Lib.cut s.data.toList Es.data.toList).2.1.toArray⟩:Y).data.toList 47)):=by rw[X k,X e]
  rw[a];have d:=H λa=>d ⟨(Lib.cut s.data.toList Es.data.toList).2.1.toArray⟩ a;generalize(⟨(Lib.cut s.data.toList Es.data.toList).2.1.toArray⟩:Y)=z at*;generalize Γ (0<=Lib.indexByte z.data.toList 47)=b,(Lib.cut s.data.toList Es.data.toList).2.2=c,(⟨(Lib.cut s.data.toList Es.data.toList).1.toArray⟩:Y)=z1,(⟨(Lib.trimPrefix s.data.toList MP.data.toList).toArray⟩:Y)=z2 at*;cases c with
  |true=>
   go_in;go_wp2_with fail;apply g.mono;rintro f l ⟨rfl,rfl⟩;go_wp2_with fail;apply j.mono;rintro f o ⟨rfl,n,rfl⟩;go_wp2_with fail;apply(d _).mono;rintro f _ ⟨rfl,rfl⟩;go_wp2;go_ret;exact⟨by rw[aas];rfl,(Ag.refl _ _).drewN n⟩
  |false=>
   go_in;go_wp2_with fail;apply g.mono;rintro f l ⟨rfl,rfl⟩;go_wp2_with fail;apply j.mono;rintro f o ⟨rfl,n,rfl⟩;go_wp2;go_ret;exact⟨rfl,(Ag.refl _ _).drewN n⟩
abbrev Wk:ν:=176
def NA(s:Y)(b:s.size<=281474976710656)(w:U):μ F 136 #[G s] w λr w'=>r=ε (G s)/\Am w w':=by
 have c:=H<|stringslite_Clone s w b;go_in;go_wp2_with fail;apply c.mono;rintro _ d ⟨rfl,a⟩;have HO:C<|Am w d:=⟨a.os,a.tape,a.output,a.size,λk b _=>a.block k b⟩;exact aeF
structure BF where
 nm:Y
 ln:Bool
 dt:Y
abbrev BF.v(e:BF):Array M:= #[G e.nm,ζ e.ln,G e.dt]
abbrev AC:BF:=⟨⟨#[]⟩,ι,⟨#[]⟩⟩
def FM(w:U)(gt:N)(T:E BF):Prop:= ∀i,i<T.length->gt<w.heap.size/\w.cell? ⟨gt,i*3,O⟩=J (G (T.getD i AC).nm)/\w.cell? ⟨gt,i*3+1,O⟩=J (ζ (T.getD i AC).ln)/\w.cell? ⟨gt,i*3+2,O⟩=J (G (T.getD i AC).dt)
def FM.kept{T:E BF}(h:FM w b T)(a:Ag S w w')(c:¬S b):FM w' b T:=λi d=>by
 obtain⟨h0,e,f,g⟩:=h i d;exact⟨wG h0 a.size,(a.cell (p:=⟨b,i*3,O⟩) h0 c).trans e,(a.cell (p:=⟨b,i*3+1,O⟩) h0 c).trans f,(a.cell (p:=⟨b,i*3+2,O⟩) h0 c).trans g⟩
def FM.old{T:E BF}(h:FM w b T)(a:Am w w'):FM w' b T:=h.kept a λx=>x
def Ki(L:E Y)(r:Y):Bool:=L.any λx=>Γ<|x=r
def MA(L:E Y)(r q:Y):Ki (L++[r]) q=(Ki L q||decide (r=q)):=by simp[Ki,List.any_append]
def Gm{r:Y}:Ki L r=θ↔r∈L:=by simp[Ki]
def Ee(w:U)(gm n:N)(L:E Y):Prop:=(∀x∈L,x.size<=maxLen)/\∃D:DataW Unit,w.ownsMap F 9 unitElem gm n D/\∀r:Y,has D (.string r.data.toList)=Ki L r
def Ee.lt(h:Ee w gm n L):gm<w.heap.size:=by obtain⟨_,_,h,_⟩:=h;exact h.lt
def Ee.kept(h:Ee w gm n L)(b:Ag S w w')(c:¬S gm):Ee w' gm n L:=by
 have d:=h.lt;obtain⟨h0,D,⟨e,a,f,r⟩,g⟩:=h;exact⟨h0,D,⟨e,a,(b.block gm d c).trans f,r⟩,g⟩
def Ee.old(h:Ee w gm n L)(a:Am w w'):Ee w' gm n L:=h.kept a λx=>x
def Ee.made(w:U):Ee (w.alloc (.map #[] 0)) w.heap.size 0 []:=
 ⟨(λ_ h=>by cases h),_,adf w F 9 unitElem,λ_=>rfl⟩
def Ee.mono(h:Ee w gm n L)(a:n<=m):Ee w gm m L:=by
 obtain⟨h0,D,b,c⟩:=h;exact⟨h0,D,b.mono a,c⟩
def Ee.put(h:Ee w gm n L)(r:Y)(y:r.size<=maxLen)(d:n<maxLen):∃w',(Instr.mapUpdate 176 (.map<|J gm) (G r) (.agg #[])).run F w=.ok () w'/\Ee w' gm (n+1) (L++[r])/\Ag (λk=>k=gm) w w':=by
 obtain⟨h0,_,h1,h2⟩:=h;obtain⟨w2,b,c,a⟩:=h1.update Dl underlying176 d (QF r y) unitElem_mk;exact afv
abbrev SB:Y:=⟨#[47,103,111,46,109,111,100]⟩
def dL(e:BF):Bool:= !e.ln&&Lib.hasSuffix e.nm.data.toList SB.data.toList
def dM(e:BF):Y:=⟨(Lib.trimSuffix e.nm.data.toList Fy.data.toList).toArray⟩
def Ay(T:E BF):E Y:=(T.filter dL).map dM
def jP(e:BF):(dM e).size<=e.nm.size:=by
 show((Lib.trimSuffix e.nm.data.toList Fy.data.toList).toArray).size<=e.nm.data.size;rw[wK];unfold Lib.trimSuffix;split
 .rw[hY,wE];omega
 rw[wE];exact WF _
def IU(T:E BF)(i:N)(h:i<T.length):T.take (i+1)=T.take i++[T.getD i AC]:=by
 rw[aay,Wv h,Wq,Wv h];rfl
def jQ(T:E BF)(i:N)(h:i<T.length)(a:dL (T.getD i AC)=θ):Ay (T.take<|i+1)=Ay (T.take i)++[dM<|T.getD i AC]:=by
 rw[IU T i h,Ay,Ay,aaL,wV,acx a];rfl
def nW(T:E BF)(i:N)(h:i<T.length)(a:dL (T.getD i AC)=ι):Ay (T.take<|i+1)=Ay (T.take i):=by
 rw[IU T i h,Ay,Ay,aaL,wV,acy<|by rw[a];exact λx=>by cases x];simp
def gz(x cap:N)(T:E BF)(d:T.length<=1000)(D:∀e∈T,e.nm.size<=2000000)(w:U)(P:FM w x T)(d:x<w.heap.size):μ F 134 #[K (J ⟨x,0,O⟩) T.length cap] w λr w'=>r=ε (.map<|J w.heap.size)/\Am w w'/\Ee w' w.heap.size T.length (Ay T):=by
 have x:= @acF F;have k:C<|Am w (w.alloc (.map #[] 0)):=(Ag.refl _ w).alloc _;have l:C<|Ee (w.alloc (.map #[] 0)) w.heap.size 0 (Ay<|T.take 0):=Ee.made w;have R:=H P;have S:=H D;have:=H d;clear P D d;go_in;go_wp2_with fail;clear x;go_loopw [5,9] (λ_ x wr=>∃i:N,i<=T.length/\x=I Q i/\C (Am w wr)/\C (Ee wr w.heap.size i<|Ay (T.take i))) λ_ x _=>T.length-(intOf x).toNat
 .exact ⟨0,A,rfl,k,l⟩
 obtain⟨i,_,rfl,k,l⟩:=hrel;by_cases d:i<T.length
 .have n:(i:Z)<T.length:=A;obtain⟨_,h1,h2,h3⟩:=R.old k i d;have:(T.getD i AC).nm.size<=2000000:=by rw[Wq,Wv d];exact S _ (WJ d)
  have o:=H<|jQ T i d;have h:=H<|nW T i d;have a:C<|dL (T.getD i AC)=(!(T.getD i AC).ln&&Lib.hasSuffix (T.getD i AC).nm.data.toList SB.data.toList):=rfl;have p:C<|dM (T.getD i AC)=⟨(Lib.trimSuffix (T.getD i AC).nm.data.toList Fy.data.toList).toArray⟩:=rfl;have:=jP<|T.getD i AC;generalize dL (T.getD i AC)=op at*;generalize dM (T.getD i AC)=fo at*;generalize Ay (T.take i)=L at*;generalize T.getD i AC=e at*;obtain⟨f,q,m⟩:=e;simp only at*;have d:Am wr<|wr.alloc (W #[G f,ζ q,G m] 35):=(Ag.refl _ wr).alloc _;have s:=WD wr<|W #[G f,ζ q,G m] 35;have c:=H<|Ag.trans k d;have b:=H<|l.old d;have t:=H<|strings_HasSuffix f SB (wr.alloc<|W #[G f,ζ q,G m] 35) A;have u:=H<|strings_TrimSuffix f Fy (wr.alloc<|W #[G f,ζ q,G m] 35) A;have g:=H (b.put fo (by unfold maxLen;omega)<|by unfold maxLen;omega);rw[<-X p] at u;clear d k l p;generalize Lib.hasSuffix f.data.toList SB.data.toList=hsf at*;cases q with
  |true=>
   have h:=H (h<|by rw[X a];rfl);clear o a g t u;have j:C<|Ee (wr.alloc<|W #[G f,ζ θ,G m] 35) w.heap.size (i+1) (Ay<|T.take (i+1)):=by rw[X h];exact b.mono A
   clear b s;exact aiW
  |false=>
   cases hsf with
   |false=>
    have h:=H (h<|by rw[X a];rfl);clear o a g u;have j:C<|Ee (wr.alloc<|W #[G f,ζ ι,G m] 35) w.heap.size (i+1) (Ay<|T.take (i+1)):=(by rw[X h];exact b.mono A);clear b s;go_wp2_with fail;refine t.mono ?_;rintro e w' ⟨rfl,rfl⟩;clear t h1 h2 h3;exact aiW
   |true=>
    have o:=H (o<|by rw[X a];rfl);obtain⟨m,v,d,f⟩:=X g;have j:C<|Ee m w.heap.size (i+1) (Ay<|T.take (i+1)):=(by rw[X o];exact d);have y:C<|Am w m:=c.transNew f λ_ _ e=>A;clear h a g b d f;go_wp2_with fail;refine t.mono ?_;rintro e w' ⟨rfl,rfl⟩;clear t;go_wp2_with fail;refine u.mono ?_;rintro e w' ⟨rfl,rfl⟩;clear u;go_wp2_with fail;clear v;go_roundw
    .exact ⟨i+1,A,by go_num,y,j⟩
    exact Ae
 have:¬(i:Z)<T.length:=A;have z:i=T.length:=A;subst z;rw[wL] at l;go_wp2;go_ret;exact⟨rfl,k,l⟩
def Ng(L:E Y)(s:Y):Bool:=L.any λf=>Lib.hasPrefix s.data.toList f.data.toList
def gA{a:M}{b:Lit}(h:keyOf F 9 a=J b):∃x:Y,a=G x/\b=.string x.data.toList:=by
 rw[keyOf_string underlying9] at h;unfold mapKey at h;rw[underlying9] at h;split at h<;>simp_all
def zd(gm n:N)(L:E Y)(s:Y)(w:U)(hg:Ee w gm n L):μ F 199 #[.map<|J gm,G s] w λr w'=>r=ε (ζ<|Ng L s)/\Am w w':=by
 have:=hg.lt;obtain⟨_,D,i,hD⟩:=hg;have P:=H i;have HD:=H hD;have HA:C (Ng L s=L.any λf=>Lib.hasPrefix s.data.toList f.data.toList):=rfl;have R:C (∀x∈L,Lib.hasPrefix s.data.toList x.data.toList=θ->Ng L s=θ):=λx S h=>by rw[X HA,wJ];exact⟨x,S,h⟩
 generalize Ng L s=J1 at*;go_in;go_wp2_with (at_range;refine wpList_range_own _ rfl _ Wk rfl 9 _ Dl underlying176 unitElem gm n D rfl P ?_;intro T a d j;have a0:=H a;have u:=H ((Ag.refl (λ_=>False) w).grown d λ_ _ f=>by cases f);clear a d j);go_frame;generalize a7:w.heap.size=gr at*;have a1:C<|w.heap.size<=gr:=by unfold C;omega
 have:C<|gm≠gr:=by unfold C;omega
 go_loopw [5] (λ_ wr=>C (∃left LO,wr.ranges F 9 unitElem gm gr n D left LO/\(∀c,left c=θ->has D c=θ)/\∀r:Y,Ki L r=θ->left (.string r.data.toList)=ι->Lib.hasPrefix s.data.toList r.data.toList=ι)/\C (Am w wr)) λ_ wr=>wr.rangeLeft gm gr
 .exact ⟨⟨_,_,a0,λ_ h=>h,λr e b=>by rw[HD r,e] at b;cases b⟩,u⟩
 obtain⟨i,HO⟩:=hrel;obtain⟨left,LO,y,P,hs⟩:=X i;have a2:=H y.left_eq;have k:=H P;have l:=H hs;go_wp2_with (at_next;refine wpList_next_ranges (mkK:=λx:Y=>Value.string x) (mkV:=λ_:Unit=>Value.agg #[]) _ rfl _ rfl 9 Dl unitElem (λ_ c h=>by obtain⟨x,h,_⟩:=gA h;exact⟨x,h⟩) (λ_ _ h=>⟨(),(unitElem_inv h).1⟩) gm gr n D left LO rfl y ?_ ?_)
 .intro _ i;have b:J1=false:=by
   rw[X HA,aar];intro x S;rw[l x (Gm.2 S)<|i _];exact λh=>akU
  subst b;exact aeF
 intro x c _ _ T m i a3 _ _ a a4 d j P;obtain⟨_,g,a5⟩:=gA i;injection g with g;subst g a5;have o:Ki L x=true:=by rw[<-HD x];exact k _ a3
 have u:C<|Am w T:=HO.grown d (λ_ _ f=>by have:=WX f;have:=X a1;omega);have z:=H<|strings_HasPrefix s x T;have p :C (∀c,(left c&& !c.sameKey (.string x.data.toList))=θ->has D c=θ):=λc h=>k c<|by rw[wo] at h;exact h.1
 have q:=H a;have a6:C<|m<wr.rangeLeft gm gr:=by rw[X a2];exact a4
 cases e:Lib.hasPrefix s.data.toList x.data.toList with
 |true=>
  rw[e] at z;have b:=R x (Gm.1 o) e;subst b;go_wp2_with fail;apply z.mono;rintro f w2 ⟨rfl,rfl⟩;exact aiO
 |false=>
  rw[e] at z;have t :C (∀r:Y,Ki L r=θ->(left (.string r.data.toList)&& !(Lit.string r.data.toList).sameKey (.string x.data.toList))=ι->Lib.hasPrefix s.data.toList r.data.toList=ι):=λr y v=>by
   by_cases f:r=x
   .subst f;exact e
   rw[sameKey_ne<|Nv f] at v;exact l r y<|by simpa using v
  go_wp2_with fail;apply z.mono;rintro f w2 ⟨rfl,rfl⟩;go_wp2;go_roundw
  .exact ⟨⟨_,_,q,p,t⟩,u⟩
  rw[(X q).left_eq];exact a6
def Cg(L:E Y)(e:BF):N:=if e.ln then 1 else if ZM e.nm then 4 else if Ng L e.nm then 3 else if ZN e.nm then 2 else if CE e.nm then 0 else 5
def SC(e:BF)(hs:e.nm.size<=2000000)(gm n:N)(L:E Y)(w:U)(hm:Cf w)(hg:Ee w gm n L):μ F 135 #[.agg e.v,.map<|J gm] w λr w'=>r=ε (I Q<|Cg L e)/\Am w w':=by
 obtain⟨nm,h,dt⟩:=e;have hA:Am w<|w.alloc (.cells #[G nm,ζ h,G dt] 35):=(Ag.refl _ w).alloc _;have a0:=WD w (.cells #[G nm,ζ h,G dt] 35);have a1:(w.alloc (.cells #[G nm,ζ h,G dt] 35)).cell? ⟨w.heap.size,0,O⟩=J (G nm):=by rw[Wu _ _ 0 _ _ (0,0) a0];rfl
 have:(w.alloc (.cells #[G nm,ζ h,G dt] 35)).cell? ⟨w.heap.size,1,O⟩=J (ζ h):=by rw[Wu _ _ 1 _ _ (0,0) a0];rfl
 have t:C (∀W',Am (w.alloc (.cells #[G nm,ζ h,G dt] 35)) W'->W'.cell? ⟨w.heap.size,0,O⟩=J (G nm)):=λW' ho=>(ho.cell (p:=⟨w.heap.size,0,O⟩) (by rw[WP];exact adX _) λa0=>a0).trans a1
 have HM:=H<|hm.old hA;have c:=H<|hg.old hA;have HO:=H hA;have HD:C (Cg L ⟨nm,h,dt⟩=if h then 1 else if ZM nm then 4 else if Ng L nm then 3 else if ZN nm then 2 else if CE nm then 0 else 5):=rfl;have y:=H λW a0=>rZ nm hs W a0;have o:=H λW a0=>zd gm n L nm W a0;have H3:=H λW a0=>jO nm hs W a0;have H4:=H (λW a0=>Xw nm (by have:nm.size<=2000000:=hs;omega) W a0);generalize Cg L ⟨nm,h,dt⟩=J1,ZM nm=b1,Ng L nm=b2,ZN nm=b3,CE nm=b4 at*;cases h with
 |true=>
  have d:J1=1:=by rw[X HD];rfl
  subst d;go_in;exact aeF
 |false=>
 cases b1 with
 |true=>
  have d:J1=4:=by rw[X HD];rfl
  subst d;go_in;go_wp2_with fail;generalize g:w.alloc (.cells #[G nm,ζ ι,G dt] 35)=W at*;have a:=H (Ag.refl (λ_=>False) W);apply(y W HM).mono;rintro e w1 ⟨rfl,q⟩;have b:=H<|Ag.trans a q;have l:=H<|HM.old b;have i:=H<|c.old b;have k:=t w1 b;have x:=H<|Ag.trans HO b;go_wp2;go_ret;exact⟨rfl,x⟩
 |false=>
 cases b2 with
 |true=>
  have d:J1=3:=by rw[X HD];rfl
  subst d;go_in;go_wp2_with fail;generalize g:w.alloc (.cells #[G nm,ζ ι,G dt] 35)=W at*;have a:=H (Ag.refl (λ_=>False) W);apply(y W HM).mono;rintro e w1 ⟨rfl,q⟩;have b:=H<|Ag.trans a q;have l:=H<|HM.old b;have i:=H<|c.old b;have k:=t w1 b;have x:=H<|Ag.trans HO b;go_wp2_with fail;apply(o w1 i).mono;rintro e w2 ⟨rfl,P⟩;have f:=H<|Ag.trans b P;have D:=H<|HM.old f;have j:=H<|c.old f;have S:=t w2 f;have R:=H<|Ag.trans HO f;go_wp2;go_ret;exact⟨rfl,R⟩
 |false=>
 cases b3 with
 |true=>
  have d:J1=2:=by rw[X HD];rfl
  subst d;go_in;go_wp2_with fail;generalize g:w.alloc (.cells #[G nm,ζ ι,G dt] 35)=W at*;have a:=H (Ag.refl (λ_=>False) W);apply(y W HM).mono;rintro e w1 ⟨rfl,q⟩;have b:=H<|Ag.trans a q;have l:=H<|HM.old b;have i:=H<|c.old b;have k:=t w1 b;have x:=H<|Ag.trans HO b;go_wp2_with fail;apply(o w1 i).mono;rintro e w2 ⟨rfl,P⟩;have f:=H<|Ag.trans b P;have D:=H<|HM.old f;have j:=H<|c.old f;have S:=t w2 f;have R:=H<|Ag.trans HO f;go_wp2_with fail;apply(H3 w2 D).mono;rintro e w3 ⟨rfl,m⟩;have u:=H<|Ag.trans f m;have T:=H<|HM.old u;have J9:=H<|c.old u;have hcc3:=t w3 u;have Y6:=H<|Ag.trans HO u;go_wp2;go_ret;exact⟨rfl,Y6⟩
 |false=>
 cases b4 with
 |true=>
  have d:J1=0:=by rw[X HD];rfl
  exact aeH
 |false=>
  have d:J1=5:=by rw[X HD];rfl
  exact aeH
abbrev jR:ν:=181
def Lb:(prog.info? 38).map (λi=>(i.zero,i.size,i.bytes))=J (J (.agg #[G ⟨#[]⟩,G ⟨#[]⟩]),2,32):=B
def UW(w:U)(gt:N)(nm:Y)(ln:Bool)(dt:Y):Prop:=gt<w.heap.size/\w.cell? ⟨gt,0,O⟩=J (G nm)/\w.cell? ⟨gt,1,O⟩=J (ζ ln)/\w.cell? ⟨gt,2,O⟩=J (G dt)
def UW.kept{nm:Y}{a:Y}(h:UW w b nm e a)(c:Ag S w w')(d:¬S b):UW w' b nm e a:=by
 obtain⟨h0,a,e,f⟩:=h;exact⟨wG h0 c.size,(c.cell (p:=⟨b,0,O⟩) h0 d).trans a,(c.cell (p:=⟨b,1,O⟩) h0 d).trans e,(c.cell (p:=⟨b,2,O⟩) h0 d).trans f⟩
def UW.old{nm:Y}{a:Y}(h:UW w b nm e a)(c:Am w w'):UW w' b nm e a:=h.kept c λx=>x
def UW.made(w:U)(nm:Y)(a:Bool)(b:Y):UW (w.alloc<|W #[G nm,ζ a,G b] 35) w.heap.size nm a b:=
 ⟨by rw[WP];omega,by rw[Wu _ _ 0 _ _ (0,0)<|WD _ _];rfl,by rw[Wu _ _ 1 _ _ (0,0)<|WD _ _];rfl,by rw[Wu _ _ 2 _ _ (0,0)<|WD _ _];rfl⟩
def Az{e:ν}{v:M}(h:w.ownsRow 0 e k v n a)(ho:Ag S w w')(hs:∀b,v.ownBlock=J b->¬S b):w'.ownsRow 0 e k v n a:=aft
def Ak{e:ν}{v:M}(h:w.ownsRow 0 e k v n a)(hb:v.ownBlock=J b):∃J0,w.heap[b]? =J (W J0 e (0,0)):=ahe
def Au.kept{v:M}{a:E Fl}(h:Au w v a)(c:Ag S w w')(d:∀b,v.ownBlock=J b->¬S b):Au w' v a:=Az h c d
def Au.old{v:M}{a:E Fl}(h:Au w v a)(b:Am w w'):Au w' v a:=h.kept b λ_ _ x=>x
def JQ(a b:E Fl):AK (a++b)=AK a++AK b:=by simp[AK]
def Js(w:U)(gc gm n:N)(v:M)(fs:E Fl)(f:Iw)(all:N):Prop:=w.heap[gc]? =J (W #[v,.map<|J gm,I Q all] jR (0,0))/\Au w v fs/\Cx w gm n f
def Js.lt{e:N}{v:M}{a:E Fl}{f:Iw}(h:Js w e gm n v a f c):e<w.heap.size/\gm<w.heap.size/\∀b,v.ownBlock=J b->b<w.heap.size:=by
 obtain⟨a,c,d⟩:=h;refine⟨(Wt.1 a).1,d.lt,λb a=>?_⟩;obtain⟨_,d⟩:=Ak c a;exact(Wt.1 d).1
def Js.apart{v:M}{a:E Fl}{f:Iw}{e:N}(j:Js w c gm n v a f e):c≠gm/\∀b,v.ownBlock=J b->b≠c/\b≠gm:=by
 obtain⟨i,k,_,⟨_,_,h,_⟩,_⟩:=j;refine⟨λg=>?_,λb l=>?_⟩
 .rw[<-g,i] at h;cases h
 obtain⟨_,d⟩:=Ak k l;refine⟨λg=>?_,λg=>?_⟩
 .rw[g,i] at d;injection d with d;injection d with _ d;exact κ d Ac
 rw[g,h] at d;cases d
def Js.kept{e:N}{v:M}{a:E Fl}{f:Iw}(h:Js w e gm n v a f c)(d:Ag S w w')(g:¬S e)(i:¬S gm)(j:∀b,v.ownBlock=J b->¬S b):Js w' e gm n v a f c:=
 ⟨(d.block e h.lt.1 g).trans h.1,h.2.1.kept d j,h.2.2.kept d i⟩
def Js.old{v:M}{a:E Fl}{f:Iw}(h:Js w c gm n v a f b)(d:Am w w'):Js w' c gm n v a f b:=h.kept d (λx=>x) (λx=>x) λ_ _ x=>x
def ua(nm g:Y)(ln:Bool)(e gm n:N)(v:Value)(l:E Fl)(f:Iw)(m:N)(u:nm.size<=1000)(c2:Dz f nm=ι)(c3:(Γ (nm≠Fy)&&Γ (AQ nm=Fy))=ι)(c4:g.size<=BE nm)(c5:l.length<60)(e8:m+g.size<=16000)(hn:n<=1000000)(w:U)(a:Js w e gm n v l f m):
 μ F 137 #[V<|J ⟨e,0,O⟩,.agg #[G nm,ζ ln,G g]] w λr w'=>r=ε (I Q 0)/\∃v',Js w' e gm (n+1001) v' (l++[(nm,g)]) (Jq f nm) (m+g.size)/\Ag (λk=>k=e\/k=gm\/v.ownBlock=J k) w w'/\∀b,v'.ownBlock=J b->v.ownBlock=J b\/w.heap.size<=b:=by
 obtain⟨_,_,c4⟩:=a.lt;obtain⟨a0,c5⟩:=a.apart;have c6:=c4;have x:=c5;obtain⟨p,j,rfl⟩:∃p j,v=K p l.length j:=aeW;have hA:Am w<|w.alloc (W #[G nm,ζ ln,G g] 35):=(Ag.refl _ w).alloc _;have HE:=UW.made w nm ln g;have a1:=a.old hA;have HO:=hA;have c7:(¬((BE nm:N):Z)<(g.size:Z)):=A;have H4:=λo=>ZK nm o
 have H1:=λo h=>Jr nm u gm n f o h
 have H2:=λo=>Px nm A o
 have H3:=λo h=>za nm u gm n hn f o h
 rw[c2] at H1;rw[c3] at H2;have e9:g.size<=16000:=A;generalize BE nm=M,Jq f nm=f2 at*;go_in;go_upto_region 2 with fail;generalize w.alloc (W #[G nm,ζ ln,G g] 35)=o at*;have u:o.cell? ⟨e,1,O⟩=J (.map<|J gm):=by rw[Wu o e 1 _ _ (0,0) a1.1];rfl
 have d:o.drew.cell? ⟨e,1,O⟩=J (.map<|J gm)/\o.drew.cell? ⟨w.heap.size,0,O⟩=J (G nm)/\True:=⟨u,HE.2.1,trivial⟩;have H1:=H1 o.drew a1.2.2;refine Ai (S:=λo=>o.cell? ⟨e,1,O⟩=J (.map<|J gm)/\o.cell? ⟨w.heap.size,0,O⟩=J (G nm)/\True) (L:=7) B ?_;refine tk 0 8 (V<|J ⟨e,0,O⟩) 10 d ?_;refine tk 1 8 (V<|J ⟨e,0,O⟩) 11 d ?_;refine tk 2 8 (V<|J ⟨e,1,O⟩) 12 d ?_;refine tk 3 8 (.map<|J gm) 13 d ?_;refine tk 4 8 (V<|J ⟨w.heap.size,0,O⟩) 14 d ?_;refine tk 5 8 (G nm) 15 d ?_;refine Ah (i:=6) B ?_;refine WE rfl λ_ q=>?_;go_simp;apply H1.mono;rintro r w1 ⟨rfl,c8⟩;have u :Am o w1:=((Ag.refl _ o).drew).trans c8;have a2:=HE.old u;have b1:=a1.old u;have c9:=Ag.trans HO u;have u:w1.cell? ⟨e,1,O⟩=J (.map<|J gm):=by rw[Wu w1 e 1 _ _ (0,0) b1.1];rfl
 refine q _ _ ⟨λ_=>⟨u,a2.2.1,trivial⟩,?_⟩;refine Ah (i:=7) B ?_;refine WE rfl λ_ q=>?_;go_simp;refine q _ _ ⟨λh=>κ rfl h,?_⟩;refine Aj B ?_;have u:=a2.2.1;go_wp2_with fail;apply(H2 w1).mono;rintro r w2 ⟨rfl,a3⟩;have a4:=a2.old a3;have s:=b1.old a3;have d0:=Ag.trans c9 a3;have d1:=a4.2.1;have a1:=a4.2.2.2;have u:w2.cell? ⟨e,0,O⟩=J (Value.slice p l.length j):=by rw[Wu w2 e 0 _ _ (0,0) s.1];rfl
 have b2:w2.cell? ⟨e,1,O⟩=J (.map<|J gm):=by rw[Wu w2 e 1 _ _ (0,0) s.1];rfl
 have u:w2.cell? ⟨e,2,O⟩=J (I Q (m:Z)):=by rw[Wu w2 e 2 _ _ (0,0) s.1];rfl
 have u:¬(l.length:Z)=60:=A;have a1:¬(16000:Z)-(m:Z)<g.size:=A;have u:m<=16000:=A;have a1:=c7;go_wp2_with fail;apply(H4 _).mono;rintro r w3 ⟨rfl,rfl⟩;go_upto_region 12 with fail;have d:w3.drew.cell? ⟨e,1,O⟩=J (.map<|J gm)/\w3.drew.cell? ⟨w.heap.size,0,O⟩=J (G nm)/\True:=⟨b2,d1,trivial⟩;have H3:=H3 w3.drew s.2.2;refine Ai (S:=λo=>o.cell? ⟨e,1,O⟩=J (.map<|J gm)/\o.cell? ⟨w.heap.size,0,O⟩=J (G nm)/\True) (L:=6) B ?_;refine tk 0 7 (V<|J ⟨e,0,O⟩) 42 d ?_;refine tk 1 7 (V<|J ⟨e,0,O⟩) 43 d ?_;refine tk 2 7 (V<|J ⟨e,1,O⟩) 44 d ?_;refine tk 3 7 (.map<|J gm) 45 d ?_;refine tk 4 7 (V<|J ⟨w.heap.size,0,O⟩) 46 d ?_;refine tk 5 7 (G nm) 47 d ?_;refine Ah (i:=6) B ?_;refine WE rfl λ_ q=>?_;go_simp;apply H3.mono;rintro r t ⟨rfl,d2,a1⟩;have u :Ag (λk=>k=gm) w3 t:=((Ag.refl _ w3).drew).trans d2;refine q _ _ ⟨λh=>κ rfl h,?_⟩;refine Aj B ?_;have a2:w.heap.size≠gm:=A;have b3:=a4.kept u a2;have z:(Js t e gm (n+1001) (Value.slice p l.length j) l f2 m):=⟨(u.block e s.lt.1 a0).trans s.1,s.2.1.kept u λb hb=>(x b hb).2,a1⟩;have d3:(Ag (λk=>k=e\/k=gm\/(Value.slice p l.length j).ownBlock=J k) w t):=(Ag.oldS d0).transNew u λ_ _ h=> .inr (.inl h);have s:t.cell? ⟨e,2,O⟩=J (I Q (m:Z)):=by rw[Wu t e 2 _ _ (0,0) z.1];rfl
 have u:=WK t e 2 _ _ z.1;have d:t.drew.cell? ⟨e,2,O⟩=J (I Q (m:Z))/\t.drew.cell? ⟨w.heap.size,2,O⟩=J (G g)/\True:=⟨s,b3.2.2.2,trivial⟩;obtain⟨T,hN⟩:∃T,m+g.size=T:=⟨_,rfl⟩;have e7:IntKind.i64.wrap ((m:Z)+g.size)=(T:Z):=by rw[show(m:Z)+g.size=(T:Z) by omega];exact Aw T A
 go_upto_region 13 with fail;refine Ai (S:=λo=>o.cell? ⟨e,2,O⟩=J (I Q (m:Z))/\o.cell? ⟨w.heap.size,2,O⟩=J (G g)/\True) (L:=10) B ?_;refine tk 0 11 (V<|J ⟨e,0,O⟩) 49 d ?_;refine tk 1 11 (V<|J ⟨e,0,O⟩) 50 d ?_;refine tk 2 11 (V<|J ⟨e,2,O⟩) 51 d ?_;refine tk 3 11 (I Q (m:Z)) 52 d ?_;refine tk 4 11 (V<|J ⟨w.heap.size,2,O⟩) 53 d ?_;refine tk 5 11 (G g) 54 d ?_;refine tk 6 11 (I Q (g.size:Z)) 55 d ?_;refine tk 7 11 (I Q (T:Z)) 56 d ?_;refine tk 8 11 (V<|J ⟨e,0,O⟩) 57 d ?_;refine tk 9 11 (V<|J ⟨e,2,O⟩) 58 d ?_;refine Ah (i:=10) B ?_;refine WE rfl λ_ q=>?_;go_simp;refine q _ _ ⟨λh=>κ rfl h,?_⟩;refine Aj B ?_;have m:Ag (λk=>k=e) t (t.setCell ⟨e,2,O⟩<|I Q (T:Z)).drew:=(Aq t e 2 _).drew;have b4:(Js (t.setCell ⟨e,2,O⟩<|I Q (T:Z)).drew e gm (n+1001) (Value.slice p l.length j) l f2 T):=⟨WL t e 2 _ _ _ z.1,z.2.1.kept m λb hb=>(x b hb).1,z.2.2.kept m λh=>a0 h.symm⟩;have a5:=b3.kept m A;have d4:=d3.transNew m λ_ _ h=> .inl h;generalize(t.setCell ⟨e,2,O⟩<|I Q (T:Z)).drew=w5 at*;have m:w5.cell? ⟨e,0,O⟩=J (Value.slice p l.length j):=by rw[Wu w5 e 0 _ _ (0,0) b4.1];rfl
 have d:w5.drew.cell? ⟨e,0,O⟩=J (Value.slice p l.length j)/\w5.drew.cell? ⟨w.heap.size,0,O⟩=J (G nm)/\w5.drew.cell? ⟨w.heap.size,2,O⟩=J (G g):=⟨m,a5.2.1,a5.2.2.2⟩;go_upto_region 14 with fail;refine Ai (S:=λo=>o.cell? ⟨e,0,O⟩=J (Value.slice p l.length j)/\o.cell? ⟨w.heap.size,0,O⟩=J (G nm)/\o.cell? ⟨w.heap.size,2,O⟩=J (G g)) (L:=16) B ?_;refine tk 0 17 (V<|J ⟨e,0,O⟩) 59 d ?_;refine tk 1 17 (V<|J ⟨e,0,O⟩) 60 d ?_;refine tk 2 17 (V<|J ⟨e,0,O⟩) 61 d ?_;refine tk 3 17 (V<|J ⟨e,0,O⟩) 62 d ?_;refine tk 4 17 ((Value.slice p l.length j)) 63 d ?_;refine tk 5 17 (V<|J ⟨w.heap.size,0,O⟩) 64 d ?_;refine tk 6 17 (G nm) 65 d ?_;refine tk 8 17 (V<|J ⟨w.heap.size,2,O⟩) 67 d ?_;refine tk 9 17 (G g) 68 d ?_;refine Ah (i:=7) B ?_;refine WE rfl λ_ q=>?_;go_simp;apply(NA nm A _).mono;rintro r w6 ⟨rfl,d5⟩;have m :Am w5 w6:=((Ag.refl _ w5).drew).trans d5;have a6:=a5.old m;have b5:=b4.old m;have d6:=d4.trans<|Ag.oldS m;have d7:w6.cell? ⟨e,0,O⟩=J (Value.slice p l.length j)/\w6.cell? ⟨w.heap.size,0,O⟩=J (G nm)/\w6.cell? ⟨w.heap.size,2,O⟩=J (G g):=⟨by rw[Wu w6 e 0 _ _ (0,0) b5.1];rfl,a6.2.1,a6.2.2.2⟩;refine q _ _ ⟨λ_=>d7,?_⟩;refine Ah (i:=10) B ?_;refine WE rfl λ_ q=>?_;go_simp;apply(NA g A _).mono;rintro r o ⟨rfl,a7⟩;have a8:=a6.old a7;have b6:=b5.old a7;have d8:=d6.trans<|Ag.oldS a7;have d:o.cell? ⟨e,0,O⟩=J (Value.slice p l.length j)/\o.cell? ⟨w.heap.size,0,O⟩=J (G nm)/\o.cell? ⟨w.heap.size,2,O⟩=J (G g):=⟨by rw[Wu o e 0 _ _ (0,0) b6.1];rfl,a8.2.1,a8.2.2.2⟩;refine q _ _ ⟨λ_=>d,?_⟩;refine tk 11 17 (.agg #[G nm,G g]) 70 d ?_;refine Ah (i:=12) B ?_;refine WE rfl λ_ q=>?_;go_simp;have m:Am o<|o.alloc (W #[G nm,G g] 38):=(Ag.refl _ o).alloc _;have d9:=AD o [G nm,G g] 38;have a9:=a8.old m;have y:=b6.old m;have b7:=d8.trans<|Ag.oldS m;have b9:((o.alloc<|W #[G nm,G g] 38).heap.size=o.heap.size+1):=by rw[WP]
 have e0:(o.alloc<|W #[G nm,G g] 38).cell? ⟨e,0,O⟩=J (Value.slice p l.length j)/\(o.alloc<|W #[G nm,G g] 38).cell? ⟨w.heap.size,0,O⟩=J (G nm)/\(o.alloc<|W #[G nm,G g] 38).cell? ⟨w.heap.size,2,O⟩=J (G g):=⟨by rw[Wu _ e 0 _ _ (0,0) y.1];rfl,a9.2.1,a9.2.2.2⟩;refine q _ _ ⟨λ_=>e0,?_⟩;obtain⟨T,m,s,t,u⟩:=wi Lb;have z:=y.2.1;refine Ah (i:=13) B ?_;refine DE rfl rfl (wp_append_lies _ (.tmp 63) (.tmp 71) 39 rfl 0 38 T (.agg #[G ⟨#[]⟩,G ⟨#[]⟩]) 2 32 underlying39 m s t u rfl A (Value.slice p l.length j) l.length (AK l) rfl z ⟨o.heap.size,0,O⟩ 1 1 [G nm,G g] rfl rfl d9 alJ A (by unfold maxLen;omega) A A (o.heap.size+1) b9 ?_);intro D P R s t e1 u;have m:Ag (λk=>(Value.slice p l.length j).ownBlock=J k) (o.alloc<|W #[G nm,G g] 38) R:=(Ag.refl _ _).grown t λk _ o=>o;have o:(∀b,(Value.slice p l.length j).ownBlock=J b->b≠w.heap.size):=λb hb _=>by have:=c6 b hb;omega
 have c0:=a9.kept m λt=>o _ t rfl;have b0:=(m.block e y.lt.1 λo=>(x e o).1 rfl).trans y.1;have e2:=y.2.2.kept m λo=>(x gm o).2 rfl;have e3:=b7.transNew m λ_ _ h=> .inr (.inr h);have c1:=s;have e4:(D≠e/\D≠gm/\((Value.slice p l.length j).ownBlock=J D\/w.heap.size<=D)):=by
  rcases e1 with h|h
  .exact ⟨(x D h).1,(x D h).2,.inl h⟩
  have h1:=y.lt;have m:=b9;have o:=b7.size;exact⟨A,A,.inr A⟩
 have d:R.cell? ⟨e,0,O⟩=J (Value.slice p l.length j)/\R.cell? ⟨w.heap.size,0,O⟩=J (G nm)/\R.cell? ⟨w.heap.size,2,O⟩=J (G g):=⟨by rw[Wu R e 0 _ _ (0,0) b0];rfl,c0.2.1,c0.2.2.2⟩;have j:=WK R e 0 _ _ b0;refine⟨λ_=>d,?_⟩;simp only[Act.put,List.getElem_toArray,List.getElem_cons_succ,List.getElem_cons_zero,WH,WT,WV];refine tk 14 17 (V<|J ⟨e,0,O⟩) 73 d ?_;refine tk 15 17 (V<|J ⟨e,0,O⟩) 74 d ?_;refine Ah (i:=16) B ?_;refine WE rfl λ_ q=>?_;have j:=d.1;go_simp;refine q _ _ ⟨λh=>κ rfl h,?_⟩;refine Aj B ?_;go_wp2;go_ret;obtain⟨e5,_,e6⟩:=e4;have q:Ag (λk=>k=e) R<|R.setCell ⟨e,0,O⟩ (K (J ⟨D,0,O⟩) (l.length+1) P):=Aq R e 0 _;refine⟨rfl,K (J ⟨D,0,O⟩) (l.length+1) P,⟨?_,?_,e2.kept q λh=>a0 h.symm⟩,e3.transNew q λ_ _ h=> .inl h,λb hb=>?_⟩
 .rw[hN];exact WL R e 0 _ _ _ b0
 .have h1:R.ownsRow 0 38 2 (K (J ⟨D,0,O⟩) (l.length+1) P) (l++[(nm,g)]).length<|AK (l++[(nm,g)]):=by
   rw[JQ,Ws];exact c1
  exact Az h1 q λb hb e=>e5 ((WX (show J D=J b from hb)).trans e)
 have:=WX (show J D=J b from hb);subst this;exact e6
abbrev vR:M:=.func (.func 139) #[] #[]
def Xx(a b:Y):Z:=if a.data.toList<b.data.toList then -1 else if b.data.toList<a.data.toList then 1 else 0
def jS(a:Y)(w:U):μ F 208 #[G a] w λr w'=>r=ε (ζ ι)/\w'=w:=by
 go_in;exact aet
def Qo(a b:Y):Op.bytesLess a.toList b.toList=Γ (a.data.toList<b.data.toList):=by rw[Lib.toList_data,Lib.toList_data,bytesLess_eq]
def GJ{a b:Y}(c:¬a.data.toList<b.data.toList)(d:¬b.data.toList<a.data.toList):a=b:=
 aaj (abf.1<|List.le_antisymm (acW.1 d) (acW.1 c))
def nX(a b:Y)(w:U):μ F 140 #[G a,G b] w λr w'=>r=ε (I Q<|Xx a b)/\w'=w:=by
 have h:=Qo a b;have i:=TG a b;by_cases d:a.data.toList<b.data.toList
 .have c:Xx a b= -1:=Wz d;rw[c];rw[Wy d] at h;go_in;go_wp2_with fail;apply(jS a w).mono;rintro e f ⟨rfl,rfl⟩;go_wp2_with fail;apply(jS b f).mono;exact akr
 rw[Ww d] at h;by_cases g:b.data.toList<a.data.toList
 .have c:Xx a b=1:=by rw[Xx,Wx d,Wz g]
  rw[c];rw[Ww λe=>by subst e;exact d g] at i;go_in;go_wp2_with fail;apply(jS a w).mono;rintro e f ⟨rfl,rfl⟩;go_wp2_with fail;apply(jS b f).mono;exact akr
 have c:Xx a b=0:=by rw[Xx,Wx d,Wx g]
 rw[c];rw[Wy<|GJ d g] at i;go_in;go_wp2_with fail;apply(jS a w).mono;rintro e f ⟨rfl,rfl⟩;go_wp2_with fail;apply(jS b f).mono;exact akr
def nY(x y:Fl)(w:U):μ F 139 #[.agg #[G x.1,G x.2],.agg #[G y.1,G y.2]] w λr w'=>r=ε (I Q<|Xx x.1 y.1)/\w'=(w.alloc<|W #[G x.1,G x.2] 38).alloc (W #[G y.1,G y.2] 38):=by
 obtain⟨a,b⟩:=x;obtain⟨c,f⟩:=y;simp only;have g:=WD w<|W #[G a,G b] 38;have d:=WD (w.alloc<|W #[G a,G b] 38)<|W #[G c,G f] 38;have h:Am (w.alloc<|W #[G a,G b] 38) ((w.alloc<|W #[G a,G b] 38).alloc<|W #[G c,G f] 38):=(Ag.refl _ _).alloc _;have:((w.alloc<|W #[G a,G b] 38).alloc<|W #[G c,G f] 38).cell? ⟨w.heap.size,0,O⟩=J (G a):=by
  rw[h.cell (p:=⟨w.heap.size,0,O⟩) (by rw[WP];exact adX _) λx=>x,Wu _ _ 0 _ _ (0,0) g];rfl
 have:((w.alloc<|W #[G a,G b] 38).alloc<|W #[G c,G f] 38).cell? ⟨w.heap.size+1,0,O⟩=J (G c):=by
  rw[WP] at d;rw[Wu _ _ 0 _ _ (0,0) d];rfl
 have b:=λd=>nX a c d
 go_in;go_wp2_with fail;apply(b _).mono;exact akn
