import Derived.Test.YtndfmgdhiallpaaGreatDoorVbj
import Derived.Lay
set_option linter.all false
open _root_ renaming Option.some->J,Option.none->O,Int->Z,Nat->N,Go.Value.int->I,Go.Value.string->G,Go.IntKind.i64->Q,ByteArray->Y,List->E,Go.World->U,Go.Value.slice->K,Go.Value->β,Go.Obj.cells->γ,Go.Value.pointer->δ,Array->φ
namespace Go.Proofs.YtndfmgdhiallpaaGreatDoor
open Go.ChangeShapes Go.WideShapes Go.ChangeAt Go.RowKit
def Tf{H:Type}{enc:TypeId×β->H}{a:Assume}{C:Checked}{os:Os}{f:FuncId}{o:Func}{s:OpenSpec}{k:(H:Type)->E (DataW H)->Bool}(S:s.cond=J k){F:Stop.Interp}{d:E PathCond}{apart l c h:Bool}{X:U->φ β->Prop}
 (R: ∀(w w' :U) (args:φ β),w.heap=w'.heap->X w args->X w' args)
 (own:ownKnob C.prog.godebug=O)(m:os.Started)(p:C.prog.inits.idxOf? f=O)(A:C.prog.funcs[f]? =J o)
 (n: ∃(w:U) (tape:Tape) (i:Input),w.os=os/\(w.forCall tape i).Shaped C.prog/\i.vars=[]/\Input.okWide C.prog (w.forCall tape i) .any w.heap.size f i/\
  ((s.pre enc C.prog o d apart (w.forCall tape i).memory i.args/\X (w.forCall tape i).memory i.args)/\sizedMet enc C.prog o s apart (w.forCall tape i).memory i.args)/\a.holds C.prog (lone (Frame.enter C.prog f i.args .normal) [] (w.forCall tape i)))
 (g: ∀(W:U) (base:N) (args:φ β) (x y:E (DataW H)) (b:E MemPlace),
  (∀(j:N) t v,o.params[j]? =J t->args[j]? =J v->Value.okWide C.prog W .any base t v)->
  DataW.Whole enc C.prog o.params.toList s.vars apart W args.toList x y b->k H (x++y)=true->X W args->W.ShapedOpen C.prog->
  Calls C.prog f args W λe P => ∃v,e=.returned v/\(s.at F).post enc C.prog o apart l c h W args v P):
 ReturnsInHanded a C os f .any (λw args=>(s.pre enc C.prog o d apart w args/\X w args)/\sizedMet enc C.prog o s apart w args) ((s.at F).post enc C.prog o apart l c h):=by
 refine returnsInHanded_of_calls own m p n ?_;intro w tape i _ M _ D r _;obtain⟨_,_,_,z,q,_,_,_,_,u⟩:=D;obtain rfl:z =o:=rD (q.symm.trans A);obtain⟨⟨L,V⟩,_⟩:=r;obtain⟨x,y,b,T,_,B⟩:=(OpenSpec.pre_some S d apart _ _).1 L;refine(g (w.forCall tape i) w.heap.size i.args x y b u (DataW.Whole.of_heap (w' :=w.forCall tape i) (by rfl) T) B (R _ _ _ (by rfl) V) M).mono λe P ⟨v,he,hp⟩=> ?_
 subst he;exact ChangeSpec.post_blind hp
def RP{H:Type}{enc:TypeId×β->H}{C:Checked}{os:Os}{f:FuncId}{c:Func}{s:OpenSpec}{k:(H:Type)->E (DataW H)->Bool}(h:s.cond=J k){apart:Bool}{X:U->φ β->Prop}(modest:Bool)(w0:U)(args:φ β)(fuel:N)(d:w0.os=os)
 (e:(w0.forCall (λ_ _=>0) ⟨#[],args,[]⟩).Shaped C.prog)
 (b:Input.okWideB C.prog (w0.forCall (λ_ _=>0) ⟨#[],args,[]⟩) f ⟨#[],args,[]⟩=true)
 (a:(match DataW.whole enc C.prog (w0.forCall (λ_ _=>0) ⟨#[],args,[]⟩).memory c.params.toList s.vars apart args.toList fuel with|some x=>k H (x.1++x.2.1)|none=>false)=true)
 (g:s.bare.sizedB enc C.prog c apart (w0.forCall (λ_ _=>0) ⟨#[],args,[]⟩).memory args fuel=true)
 (j:X (w0.forCall (λ_ _=>0) ⟨#[],args,[]⟩).memory args):
 ∃(w:U) (tape:Tape) (i:Input),w.os=os/\(w.forCall tape i).Shaped C.prog/\i.vars=[]/\Input.okWide C.prog (w.forCall tape i) .any w.heap.size f i/\
  ((s.pre enc C.prog c [] apart (w.forCall tape i).memory i.args/\X (w.forCall tape i).memory i.args)/\sizedMet enc C.prog c s apart (w.forCall tape i).memory i.args)/\({modest:=modest}:Assume).holds C.prog (lone (Frame.enter C.prog f i.args .normal) [] (w.forCall tape i)):=by
 split at a
 .rename_i x hwh;refine⟨w0,λ_ _=>0,⟨#[],args,[]⟩,d,e,(Input.okWide_of_okWideB (base:=0) b).1,(Input.okWide_of_okWideB b).2,⟨⟨(OpenSpec.pre_some h [] apart _ _).2 ⟨x.1,x.2.1,x.2.2,DataW.Whole_of_whole hwh,rfl,a⟩,j⟩,sizedMet_of_sizedB g⟩, ?_⟩;simp only[Assume.holds];exact⟨Ad,Ad,λ_=>Modest.zero,Ad,Ad⟩
 cases a
