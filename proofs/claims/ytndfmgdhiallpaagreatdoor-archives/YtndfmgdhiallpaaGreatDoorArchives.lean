/- Proved: valiselaw.Archives, called with any script of bulk at most 1048576, in any world and on any tape, returns true (and every Pack, Unpack, Sum and Verify tells what the document tells, of archives that were packed, spoilt, put together, and of any bytes; lists are left as their owners wrote them), and the script reads afterwards as it did; the tables digest.startWords, inflate.order, utf8.first and utf8.acceptRanges start as the program's text lays them (the card ties that). -/
import Derived.Test.YtndfmgdhiallpaaGreatDoorVbk
import Derived.Test.YtndfmgdhiallpaaGreatDoorVbr
import Derived.Test.YtndfmgdhiallpaaGreatDoorArchivesF
import Derived.Test.YtndfmgdhiallpaaGreatDoorArchivesG
import Derived.Test.YtndfmgdhiallpaaGreatDoorTie
import Derived.SevenTiedAt
import Derived.Lay
set_option linter.all false
set_option maxRecDepth 100000
set_option maxHeartbeats 400000
open _root_ renaming Option.some->J,Option.none->O,Int->Z,Nat->N,Go.Value.int->I,Go.Value.string->G,Go.IntKind.i64->Q,ByteArray->Y,List->E,Go.World->U,Go.Value.slice->K,Go.Value->β,Go.Obj.cells->γ,Go.Value.pointer->δ,Bool.false->ι
namespace Go.Proofs.YtndfmgdhiallpaaGreatDoor.archives
open Go.ChangeShapes Go.WideShapes Go.ChangeAt Go.WideMaps Go.WideElems Go.RowKit Go.Proofs.Tryz
def qe{v:β}{W:U}(b:Ge W)(h: ∃ao n cap,v=K ao n cap/\n<=1100000/\(n=0\/ ∃a,ao=J a/\ZE (λV=>Al W V) a n)):
 Calls prog 6 #[v] W λe f =>e=.returned (.bool true)/\Al W f :=by
 obtain⟨ao,n,cap,rfl,g,c⟩:=h;have d:=Af (iL qH ao n cap W b c g);clear c b;go_in;go_wp2_with fail;refine d.mono ?_;exact aba
def ZF{W:U}{r:Reach}{b:N}{v:β}(h:Value.okWide prog W r b 22 v):v.oneCell' =true:=by
 obtain⟨a,n,c,rfl⟩:=okWide_slice underlying22 h
 rfl
def lU(os:Os)(b:os.Started)(H:Type)(enc:TypeId×β->H)(F:Stop.Interp):
 ReturnsInHanded {} checked os 6 .any (λw args=>((Rows.OpenSpec.upto Rows.archivesSpec).pre enc prog f6 [] ι w args/\laidMetH prog Qx w)/\sizedMet enc prog f6 (Rows.OpenSpec.upto Rows.archivesSpec) ι w args)
  (((Rows.OpenSpec.upto Rows.archivesSpec).at F).post enc prog f6 ι true ι ι):=by
 refine Tf (C:=checked) (s:=Rows.OpenSpec.upto Rows.archivesSpec) (k:=Rows.uptoSmall) rfl (X:=λw _=>laidMetH prog Qx w) (λ_ _ _ V h=>h.of_heap V) own b Ab func6
  (RP (enc:=enc) (C:=checked) (os:=os) (s:=Rows.OpenSpec.upto Rows.archivesSpec) (k:=Rows.uptoSmall) rfl (X:=λw _=>laidMetH prog Qx w) ι (World.laidAll prog os Qx) #[K O 0 0] 8 (World.laidAll_os _ _ _) (World.shaped_of_ZipB Ab Ab) Ab Ab Ab
   (by rw[MakeChecks.laidMetH_plain _ _ _ Ab];exact laidMet_laidAll _ Ab Ab)) ?_
 intro W base args M gs m a B r A y;have c: ∀(j:N) t v,f6.params[j]? =J t->args[j]? =J v->Value.okWide prog W .any base t v:=a;have f :=B;obtain⟨p,q,g,P,rfl,T,a0⟩:=B;have z:DataW.TrodAll enc prog W 0 (λ_=>true) true f6.params.toList args.toList M p:=g;rw[params6] at z c;obtain⟨v0,n,rfl,rfl,h0⟩:=trodAll_one z;obtain⟨rfl,rfl⟩:=trodVars_none P;clear g a;have u: ∀x∈p,x.block<W.heap.size:=λx hx=>by simpa using f.lt x (by simpa using hx)
 have R:Rows.uptoBulkAll [n]<=1048576:=rQ r;have o:Rows.uptoBulk n<=1048576:=by
  have:=ET (d:=n) (l:=[n]) Ad;omega
 have i:=iM h0 (ZF (c 0 22 v0 rfl rfl)) o;simp only[sI] at f;refine(qe ⟨⟨iN A,lV A⟩,lW y⟩ i).mono λe L ⟨S,ho⟩=> ?_
 subst S;have D:Below W.heap.size W L :=ho.below W.heap.size (rj _) (λ_ _ h=>h);refine⟨_,rfl,_,_,_,[],p,[],f,trodAll_cons_mk (shut_bool underlying4 _) trodAll_mk0, ?_, ?_,D.frame _,λh=>by cases h⟩
 .exact trodAll_mk1 (Below.trod iO Ab (rQ Ab) h0 D u)
 rfl
def qf:Rows.archivesUptoRow.holds Tryz.pinned (Rows.OpenSpec.upto Rows.archivesSpec):=
 OpenClaim.holds_of_cond 6 f6 rfl rfl rfl rfl rfl rfl rfl ⟨rfl,rfl,rfl,rfl,rfl⟩ rfl rfl rfl rfl rfl cF func6 lX
  (rQ Ab) (by unfold Func.isWrapper;first|(rw[rd (by decide+kernel)];kernel_rfl)|(rw[rc (by decide+kernel)];exact⟨rfl,rfl⟩))
  (λos a H enc _ F=>lU os a H enc F)
def card:Rows.ArchivesUptoCardSaid:=
 Claim7.holds_tied_plain_at .later [] [.data,.data,.data,.pinned] true Rows.archivesUptoCard.stood.harness ι
  qf (λ_ h=>by cases h) Ab (λ_ h=>by cases h) archivesUpto_row_tie rfl ⟨rfl,rfl⟩ oB rfl
  (λf d e b=>by
   obtain rfl:f=6:=(rD (cF.symm.trans e)).symm;obtain rfl:d=f6:=(rD (func6.symm.trans b)).symm;exact⟨lY,λj t c=>by
    rw[params6] at c;have g:t∈[22]:=(by simpa using Array.mem_of_getElem? c);have a:([22].all λu=> !prog.wantsStandIn u)=true:=Ab;exact(show prog.wantsStandIn t=ι by simpa using rV.1 a t g)⟩)
  oC
end Go.Proofs.YtndfmgdhiallpaaGreatDoor.archives
namespace Go.Proofs.YtndfmgdhiallpaaGreatDoor
theorem archives_holds:Rows.ArchivesUptoCardSaid:=archives.card
#print axioms archives_holds
end Go.Proofs.YtndfmgdhiallpaaGreatDoor
