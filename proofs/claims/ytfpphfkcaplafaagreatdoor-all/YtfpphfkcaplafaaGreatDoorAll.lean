/- Proved: valiselaw.All, called with any script of bulk at most 1048576, in any world and on any tape, returns true (every call tells what the document tells, Extract and Recover among them, to disks on which anything is, which are left with the same things; lists that came out, and those that were handed in, are left as their owners wrote them), and the script reads afterwards as it did; the tables digest.startWords, inflate.order, utf8.first and utf8.acceptRanges start as the program's text lays them (the card ties that). -/
import Derived.Test.YtfpphfkcaplafaaGreatDoorZau
import Derived.Test.YtfpphfkcaplafaaGreatDoorAllF
import Derived.Test.YtfpphfkcaplafaaGreatDoorAllG
import Derived.Test.YtfpphfkcaplafaaGreatDoorTie
import Derived.SevenTiedAt
import Derived.Lay
set_option linter.all false
set_option maxHeartbeats 64000000
set_option maxRecDepth 100000
open _root_ renaming Option.some->J,Option.none->O,Int->Z,Nat->N,Go.Value.int->I,Go.Value.string->G,Go.IntKind.i64->Q,ByteArray->Y,List->E,Go.World->U,Go.Value.slice->K,Go.Value->M,Go.Obj.cells->W,Go.Value.pointer->V,Go.RowKit.Hid->C,Go.Proofs.Tryz.prog->F,Bool.false->ι
variable{v:M}
namespace Go.Proofs.YtfpphfkcaplafaaGreatDoor.all
open Go.ChangeShapes Go.WideShapes Go.ChangeAt Go.WideMaps Go.WideElems Go.RowKit Go.Proofs.Tryz
def zW{b:U}(c:Fr b)(h:∃ao n cap,v=K ao n cap/\n<=1100000/\(n=0\/ ∃a,ao=J a/\il (λd=>Am b d) a n)):
 Calls F 3 #[v] b λe d =>e=.returned (.bool true)/\Am b d :=by
 obtain⟨ao,n,cap,rfl,f,d⟩:=h;have g:=H<|qE ao n cap b c d f;clear d c;go_in;go_wp2_with fail;refine g.mono ?_;exact ajF
def im{c:U}{r:Reach}{b:N}(h:Value.okWide F c r b 22 v):v.oneCell'=true:=by
 obtain⟨a,n,_,rfl⟩:=okWide_slice underlying22 h
 rfl
def uw(os:Os)(a:os.Started)(H:Type)(enc:TypeId×M->H)(q:Stop.Interp):
 ReturnsInHanded {} checked os 3 .any (λw args=>((Rows.OpenSpec.upto Rows.allSpec).pre enc F Tryz.f3 [] ι w args/\laidMetH F Ui w)/\sizedMet enc F Tryz.f3 (Rows.OpenSpec.upto Rows.allSpec) ι w args)
  (((Rows.OpenSpec.upto Rows.allSpec).at q).post enc F Tryz.f3 ι true ι ι):=by
 refine Yf (C:=checked) (s:=Rows.OpenSpec.upto Rows.allSpec) (k:=Rows.uptoSmall) rfl (X:=λw _=>laidMetH F Ui w) (λ_ _ _ b h=>h.of_heap b) own a B func3
  (VJ (enc:=enc) (C:=checked) (os:=os) (s:=Rows.OpenSpec.upto Rows.allSpec) (k:=Rows.uptoSmall) rfl (X:=λw _=>laidMetH F Ui w) ι (World.laidAll F os Ui) #[K O 0 0] 8 (World.laidAll_os _ _ _) (World.shaped_of_ZipB B B) B B B
   (by rw[MakeChecks.laidMetH_plain _ _ _ B];exact laidMet_laidAll _ B B)) ?_
 intro f a args x _ _ b n i o j;have c:∀(q:N) t v,Tryz.f3.params[q]? =J t->args[q]? =J v->Value.okWide F f .any a t v:=b;have e :=n;obtain⟨p,_,g,y,rfl,_,_⟩:=n;have r:DataW.TrodAll enc F f 0 (λ_=>true) true Tryz.f3.params.toList args.toList x p:=g;rw[params3] at r c;obtain⟨z,h,rfl,rfl,h0⟩:=trodAll_one r;obtain⟨rfl,rfl⟩:=trodVars_none y;clear g b;have m:∀x∈p,x.block<f.heap.size:=λx a=>by simpa using e.lt x (by simpa using a)
 have:Rows.uptoBulkAll [h]<=1048576:=wn i;have b:Rows.uptoBulk h<=1048576:=by
  have:=Ga (d:=h) (l:=[h]) Ad;omega
 have a:=qF h0 (im<|c 0 22 z rfl rfl) b;simp only[wS] at e;refine(zW ⟨⟨qG o,ux o⟩,uy j⟩ a).mono λ_ D ⟨L,ho⟩=>?_
 subst L;have u:Below f.heap.size f D :=ho.below f.heap.size (WF _) λ_ _ h=>h;refine⟨_,rfl,_,_,_,[],p,[],e,trodAll_cons_mk (shut_bool underlying4 _) trodAll_mk0,?_,?_,u.frame _,λD=>by cases D⟩
 .exact trodAll_mk1<|Below.trod qH B (wn B) h0 u m
 rfl
def zX:Rows.allUptoRow.holds Tryz.pinned<|Rows.OpenSpec.upto Rows.allSpec:=
 OpenClaim.holds_of_cond 3 Tryz.f3 rfl rfl rfl rfl rfl rfl rfl ⟨rfl,rfl,rfl,rfl,rfl⟩ rfl rfl rfl rfl rfl lA func3 uz
  (wn B) (by unfold Func.isWrapper;first|(rw[Wz<|by decide+kernel];kernel_rfl)|(rw[Wx<|by decide+kernel];exact⟨rfl,rfl⟩))
  (λc a d b _ e=>uw c a d b e)
def card:Rows.AllUptoCardSaid:=
 Claim7.holds_tied_plain_at .later [] [.data,.data,.data,.pinned] true Rows.allUptoCard.stood.harness ι
  zX (λ_ h=>by cases h) B (λ_ h=>by cases h) allUpto_row_tie rfl ⟨rfl,rfl⟩ yo rfl
  (λf b c a=>by
   obtain rfl:f=3:=(WX<|lA.symm.trans c).symm;obtain rfl:b=Tryz.f3:=(WX (func3.symm.trans a)).symm;exact⟨uA,λ_ t a=>by
    rw[params3] at a;have b:t∈[22]:=(by simpa using Array.mem_of_getElem? a);have a:([22].all λu=> !prog.wantsStandIn u)=true:=B;exact(show prog.wantsStandIn t=ι by simpa using wC.1 a t b)⟩)
  yq
end Go.Proofs.YtfpphfkcaplafaaGreatDoor.all
namespace Go.Proofs.YtfpphfkcaplafaaGreatDoor
theorem all_holds:Rows.AllUptoCardSaid:=all.card
#print axioms all_holds
end Go.Proofs.YtfpphfkcaplafaaGreatDoor
