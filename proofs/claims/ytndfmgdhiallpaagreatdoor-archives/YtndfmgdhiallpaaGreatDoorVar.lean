import Derived.Test.YtndfmgdhiallpaaGreatDoorVaq
import Derived.Test.YtndfmgdhiallpaaGreatDoorRows
import Derived.WalkKit
import Derived.ProofKit
import Derived.OpenShut
import Derived.LaidMore
import Derived.Stop.Joined
import Derived.SizedLaws
set_option linter.all false
open _root_ renaming Option.some->J,Option.none->O,Int->Z,Nat->N,Go.Value.int->I,Go.Value.string->G,Go.IntKind.i64->Q,ByteArray->Y,List->E,Go.World->U,Go.Value.slice->K,Go.Value->β,Go.Obj.cells->γ,Go.Value.pointer->δ
namespace Go.Proofs.YtndfmgdhiallpaaGreatDoor
open Go.ChangeShapes Go.WideShapes Go.ChangeAt Go.RowKit Go.Proofs.Tryz
def own:ownKnob prog.godebug=none:=Ab
def iO:laidOutB prog=true:=Ab
def mY:prog.globalNamed "valise/digest.startWords" =J 0:=Ab
def mZ:(prog.globals[0]?).map (·.type)=J 181:=Ab
def qm:prog.cellsOf 103=1:=Ab
def qK:prog.cellsOf 181=8:=Ab
def eM{H:Type}{enc:TypeId×β->H}{W:U}{fuel:N}{a:E β}{p:E MemPlace}{sp:N->Bool}{u:Bool}{l:E Z}
 (h:DataW.trod enc prog W 0 sp u fuel 181 a=J (.agg (l.map λn=> .lit (.int .u32 n)),p)):a=l.map λn=>Value.int .u32 n:=by
 obtain⟨q,m,rfl,e,d,x,b⟩:=DataW.trod_array underlying181 h;rw[qK] at d;rw[qm] at b;simp only[uu,DataW.agg.injEq] at e;obtain⟨e,_⟩:=e;have w:l.length=8:=by have:=rI List.length e;simpa [x] using this
 apply ub;intro i;by_cases v:i<8
 .have o:=b i v;have f:i<q.length:=Aa;rw[qY f] at o;obtain⟨k,j,r,_⟩:=xc underlying103 o;have g:(l.map λn=>(DataW.lit (.int .u32 n):DataW H))[i]? =J (q[i].1):=by rw[e];simp[f]
  rw[r] at g;rw[tt,qY (by omega:i<l.length)] at g ⊢;simp only[uo,yg,vU,xY,true_and] at g;have s:a[i]? =J (I .u32 k):=by
   have c:i<a.length:=Aa;have t:(a.drop (i*1)).take 1=[a[i]]:=by rw[ug,sK c];rfl
   rw[t] at j;rw[qY c];simpa using j
  rw[s,uo,g]
 rw[rL Aa,rL (by simp;omega)]
abbrev Qx:E (String×DataW Unit):=[("unicode/utf8.acceptRanges",Rows.laid_unicode_utf8_acceptRanges),("valise/inflate.order",Rows.laid_valise_inflate_order),("valise/digest.startWords",Rows.laid_valise_digest_startWords),("unicode/utf8.first",Rows.laid_unicode_utf8_first)]
def iN{W:U}(h:laidMetH prog Qx W):KC W:=by
 rw[MakeChecks.laidMetH_plain _ _ _ Ab] at h;obtain⟨B,⟨g,t,u,f,p,q,_,_,_,_,⟨x,F,j,v,z,C,n,o,r,m,⟨y,H,d,w,A,D,b,i,a,e,_,_⟩,_⟩,_⟩,_,_⟩:=h;obtain rfl:=rD (mY.symm.trans b);obtain rfl:=rD (mZ.symm.trans i);have s:=eM (l:=[1779033703,3144134277,1013904242,2773480762,1359893119,2600822924,528734635,1541459225]) e;have k:d=EE h0:=by apply uV;rw[s];rfl
 subst k;simp only[World.var?,b,Option.bind_some] at a;split at a
 .rename_i c t fr hh;injection a with a;subst a;exact⟨t,fr,hh⟩
 cases a
open Go.RowKit Go.Maps Go.Proofs.Tryz
open Go.ChangeShapes Go.WideShapes Go.ChangeAt Go.RowKit Go.Proofs.Tryz
def qL:prog.cellsOf 79=7:=Ab
def qo:prog.cellsOf 3=1:=Ab
def na:prog.cellsOf 9=1:=Ab
def pj:prog.cellsOf 40=1:=Ab
