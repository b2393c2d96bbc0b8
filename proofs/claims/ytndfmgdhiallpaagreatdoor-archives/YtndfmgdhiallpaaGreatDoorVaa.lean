import Derived.WalkMore
import Derived.Deep.Slices
import Derived.Deep.RegionHeld3
import Derived.WalkKit
import Derived.WalkSmall
import Derived.Test.YtndfmgdhiallpaaGreatDoorChecked
import Derived.Deep.QuietTactic
import Derived.BigQuiet
import Derived.BigRegion
import Derived.Deep.OwnRows
import Derived.Deep.RegionWith
import Derived.Deep.CutRange
import Derived.Deep.AppendLies
set_option linter.all false
set_option maxRecDepth 100000
set_option maxHeartbeats 1000000
open _root_ renaming Option.some->J,Option.none->O,Int->Z,Nat->N,Go.Value.int->I,Go.Value.string->G,Go.IntKind.i64->Q,ByteArray->Y,List->E,Go.World->U,Go.Value.slice->K,Go.Value->β,Go.Obj.cells->γ,Go.Value.pointer->δ,Go.Ending.returned->ε,Go.Calls->μ,Go.TypeId->ν,UInt8->υ,Array->φ,Go.RowKit.Hid->χ
namespace Go.Proofs.YtndfmgdhiallpaaGreatDoor
open Go.RowKit Go.Proofs.Tryz
section
open Go.RowKit Go.Maps Go.Proofs.Tryz
def Aa{p:Prop}(h:p:=by omega):p:=h
def Ab{p:Prop}(h:p:=by kernel_rfl):p:=h
def Ac{p:Prop}(h:p:=by decide):p:=h
def Ad{p:Prop}(h:p:=by simp):p:=h
def Ae{p:Prop}(h:p:=by simp[intOf];omega):p:=h
abbrev qT:=@List.getD_eq_getElem?_getD
abbrev qU:=@List.length_append
abbrev qV:=@cell_of_row
abbrev qW:=@Array.getElem?_eq_some_iff
abbrev qX:=@decide_eq_false
abbrev qY:=@List.getElem?_eq_getElem
abbrev qZ:=@decide_eq_true
abbrev rc:=@if_neg
abbrev rd:=@if_pos
abbrev re:=@beq_eq_false_iff_ne
abbrev rg:=@ByteArray.size_append
abbrev rh:=@Go.heap_alloc_new
abbrev ri:=@wpOp_step
abbrev rj:=@Nat.le_refl
abbrev rk:=@List.setIfInBounds_toArray
abbrev rm:=@List.append_assoc
abbrev ro:=@List.getElem_mem
abbrev rp:=@frozen_of_row
abbrev rq:=@Array.getElem?_setIfInBounds_ne
abbrev rr:=@World.size_alloc
abbrev ru:=@heap_setCell_same
abbrev rv:=@ByteArray.size_extract
abbrev rx:=@Nat.zero_add
abbrev ry:=@run_string_add_sum
abbrev rz:=@Nat.le_trans
abbrev rA:=@List.set_cons_zero
abbrev rB:=@List.set_cons_succ
abbrev rC:=@List.mem_singleton
abbrev rD:=@Option.some.inj
abbrev rE:=@List.getElem?_append_right
abbrev rF:=@World.ownsRow_nil
abbrev rG:=@Nat.pow_le_pow_right
abbrev rH:=@Addr.add_lit
abbrev rI:=@congrArg
abbrev rJ:=@List.mem_range
abbrev rK:=@List.length_set
abbrev rL:=@List.getElem?_eq_none
abbrev rM:=@List.getElem?_append_left
abbrev rN:=@info_parts
abbrev rO:=@Int.toNat_natCast
abbrev rP:=@List.length_replicate
abbrev rQ:=@of_decide_eq_true
abbrev rR:=@List.mem_append
abbrev rS:=@bne_iff_ne
abbrev rT:=@List.mem_map
abbrev rU:=@bodyPost_ret
abbrev rV:=@List.all_eq_true
abbrev rW:=@Nat.lt_of_lt_of_le
abbrev rX:=@Bool.and_eq_true
abbrev rY:=@List.length_take
abbrev rZ:=@Array.getElem?_eq_getElem
abbrev sb:=@Nat.lt_or_ge
abbrev sc:=@List.any_eq_true
abbrev sd:=@Array.length_toList
abbrev se:=@Array.getElem?_eq_none
abbrev sg:=@Array.getElem?_setIfInBounds
abbrev si:=@Nat.mod_lt
abbrev sj:=@List.eq_nil_of_length_eq_zero
abbrev sl:=@Nat.zero_le
abbrev so:=@Int.natCast_pow
abbrev sq:=@List.size_toArray
abbrev sr:=@List.take_length
abbrev st:=@Nat.lt_irrefl
abbrev sv:=@List.map_append
abbrev sw:=@setRow_heap
abbrev sx:=@IntKind.wrap_i64
abbrev sA:=@Nat.mul_le_mul_right
abbrev sB:=@List.length_cons
abbrev sC:=@Array.getElem?_toList
abbrev sD:=@Array.getElem?_setIfInBounds_self_of_lt
abbrev sE:=@List.take_of_length_le
abbrev sF:=@wpList_store_row
abbrev sG:=@IntKind.wrap_u32
abbrev sH:=@List.getElem_of_mem
abbrev sI:=@List.append_nil
abbrev sJ:=@List.length_map
abbrev sK:=@List.drop_eq_getElem_cons
abbrev sM:=@Nat.add_assoc
abbrev sN:=@decide_eq_true_eq
abbrev sO:=@Int.natCast_add
abbrev sP:=@List.map_cons
abbrev sQ:=@List.mem_cons_of_mem
abbrev sR:=@Int.natCast_ediv
abbrev sS:=@Nat.add_zero
abbrev sT:=@run_slice_string_l
abbrev sU:=@List.getElem?_eq_some_iff
abbrev sW:=@List.mem_cons
abbrev sX:=@ByteArray.ext
abbrev sY:=@Int.natCast_mul
abbrev sZ:=@List.pairwise_append
abbrev ta:=@run_underlying
abbrev tc:=@List.flatMap_cons
abbrev td:=@List.getElem?_take
abbrev te:=@Nat.eq_zero_or_pos
abbrev tf:=@ByteArray.data_append
abbrev th:=@Option.getD_some
abbrev ti:=@List.lt_irrefl
abbrev tj:=@Bool.true_and
abbrev tn:=@List.any_eq_false
abbrev tp:=@List.nil_append
abbrev tq:=@List.getElem?_toArray
abbrev tt:=@List.getElem?_map
abbrev tu:=@List.take_add_one
abbrev tw:=@List.mem_take_iff_getElem
abbrev tx:=@Bool.false_eq_true
abbrev tz:=@run_slice_string_h
abbrev tA:=@List.range_succ
abbrev tB:=@List.map_nil
abbrev tC:=@List.not_mem_nil
abbrev tD:=@List.length_drop
abbrev tG:=@List.all_eq_false
abbrev tH:=@List.Pairwise.nil
abbrev tI:=@List.getElem?_replicate
abbrev tJ:=@Int.tmod_eq_emod_of_nonneg
abbrev tK:=@List.filter_append
abbrev tM:=@List.replicate_succ'
abbrev tN:=@IntKind.wrap_u8
abbrev tO:=@results_cell_row
abbrev tP:=@Nat.mul_comm
abbrev tQ:=@Array.size_setIfInBounds
abbrev tR:=@Nat.lt_of_le_of_lt
abbrev tS:=@List.pairwise_singleton
abbrev tT:=@beq_iff_eq
abbrev tU:=@Region.noSelect_spec
abbrev tV:=@Nat.pow_succ
abbrev tW:=@results_none
abbrev tX:=@List.isPrefixOf_iff_prefix
abbrev tY:=@Nat.mul_le_mul
abbrev tZ:=@List.take_zero
abbrev ua:=@Addr.add_succ'
abbrev ub:=@List.ext_getElem?
abbrev uc:=@Nat.min_eq_left
abbrev ud:=@List.pairwise_iff_getElem
abbrev ue:=@List.take_append_drop
abbrev uf:=@Addr.add_add
abbrev ug:=@Nat.mul_one
abbrev ui:=@Nat.succ_pred_eq_of_pos
abbrev uj:=@Nat.add_sub_cancel_left
abbrev uk:=@Array.getD_eq_getD_getElem?
abbrev uo:=@Option.map_some
abbrev uq:=@List.flatMap_append
abbrev ur:=@World.ownsRow.cells
abbrev ut:=@Nat.sub_self
abbrev uu:=@Prod.mk.injEq
abbrev uv:=@List.isSuffixOf_iff_suffix
abbrev uw:=@if_false
abbrev ux:=@IntKind.wrap_u64
abbrev uy:=@run_slice_string
abbrev uz:=@of_decide_eq_false
abbrev uA:=@u32_xor_nat
abbrev uB:=@ready_mono
abbrev uC:=@wpList_load_row
abbrev uD:=@Array.eq_empty_of_size_eq_zero
abbrev uE:=@List.lt_trans
abbrev uF:=@Nat.mod_eq_of_lt
abbrev uG:=@Array.toList_inj
abbrev uH:=@u32_or_nat
abbrev uI:=@run_convert_bytes_back
abbrev uJ:=@List.drop_of_length_le
abbrev uK:=@Nat.xor_lt_two_pow
abbrev uL:=@Nat.add_comm
abbrev uM:=@List.mem_cons_self
abbrev uN:=@Nat.div_le_self
abbrev uO:=@dif_pos
abbrev uP:=@List.length_singleton
abbrev uQ:=@Array.getElem?_append_left
abbrev uR:=@Result.andThen_ok
abbrev uS:=@List.length_range
abbrev uT:=@Bool.eq_false_iff
abbrev uU:=@DataW.trod_string
abbrev uV:=@Array.ext'
abbrev uW:=@Nat.pow_add
abbrev uX:=@Nat.mod_one
abbrev uY:=@Int.natCast_emod
abbrev uZ:=@Array.setIfInBounds_comm
abbrev vc:=@Sem.run_bind
abbrev vd:=@Array.all_eq_true_iff_forall_mem
abbrev ve:=@Nat.mul_le_mul_left
abbrev vg:=@List.filter_cons_of_pos
abbrev vh:=@List.filter_cons_of_neg
abbrev vi:=@if_true
abbrev vj:=@run_loadCells_list
abbrev vk:=@List.mem_filter
abbrev vo:=@Below.heap_setCell
abbrev vp:=@Bool.or_eq_true
abbrev vq:=@List.getElem?_drop
abbrev vs:=@Nat.add_sub_cancel
abbrev vt:=@Nat.and_two_pow_sub_one_eq_mod
abbrev vu:=@List.length_nil
abbrev vw:=@run_equalIn_agg
abbrev vx:=@u32_and_nat
abbrev vy:=@List.getElem?_set
abbrev vz:=@Nat.lt_trichotomy
abbrev vA:=@List.length_filter_le
abbrev vB:=@size_madeCells
abbrev vC:=@mem_ready
abbrev vD:=@Nat.mul_lt_mul_of_pos_right
abbrev vE:=@run_make
abbrev vF:=@List.mem_of_mem_take
abbrev vG:=@Nat.shiftLeft_eq
abbrev vH:=@List.cons_append
abbrev vI:=@List.flatMap_nil
abbrev vJ:=@plainElem_int
abbrev vK:=@Nat.add_mul
abbrev vL:=@run_makeMap
abbrev vM:=@bne_eq_false_iff_eq
abbrev vN:=@List.replicate_succ
abbrev vO:=@List.length_reverse
abbrev vP:=@List.foldl_cons
abbrev vQ:=@UInt8.toNat_inj
abbrev vR:=@run_loadVar_row
abbrev vT:=@Bool.eq_iff_iff
abbrev vU:=@DataW.lit.injEq
abbrev vV:=@Sem.run_pure
abbrev vW:=@wpList_plain
abbrev vX:=@World.ownsMap_made
abbrev vY:=@getElem!_pos
abbrev vZ:=@decide_eq_true_iff
abbrev xb:=@List.take_left
abbrev xc:=@DataW.trod_int
abbrev xe:=@Bool.false_and
abbrev xf:=@decide_eq_false_iff_not
abbrev xg:=@Nat.or_lt_two_pow
abbrev xh:=@Nat.compare_eq_gt
abbrev xj:=@plainElem_int_inv
abbrev xk:=@List.pairwise_map
abbrev xl:=@Nat.pow_pos
abbrev xm:=@ByteArray.append_assoc
abbrev xq:=@List.drop_eq_nil_of_le
abbrev xr:=@Nat.mul_assoc
abbrev xu:=@Bool.or_false
abbrev xw:=@List.take_succ_eq_append_getElem
abbrev xz:=@Nat.le_of_not_lt
abbrev xA:=@Region.free_spec
abbrev xB:=@ByteArray.extract_append_extract
abbrev xC:=@List.mem_flatMap
abbrev xD:=@Array.getElem?_modify
abbrev xE:=@Nat.sub_zero
abbrev xF:=@wp_store_row
abbrev xG:=@Nat.not_lt
abbrev xH:=@Int.emod_nonneg
abbrev xI:=@List.mem_iff_getElem
abbrev xJ:=@ByteArray.extract_eq_empty_iff
abbrev xK:=@Bool.or_eq_false_iff
abbrev xL:=@List.map_congr_left
abbrev xM:=@List.getElem?_range
abbrev xN:=@Nat.one_pos
abbrev xO:=@getD_set_ne
abbrev xP:=@Nat.mul_add
abbrev xQ:=@List.not_lt
abbrev xR:=@Array.ext_getElem?
abbrev xS:=@wpOp_mono
abbrev xT:=@wpList_append_fits
abbrev xU:=@ByteArray.extract_zero_size
abbrev xV:=@Nat.two_pow_add_eq_or_of_lt
abbrev xW:=@Array.extract_eq_self_of_le
abbrev xX:=@has_put_other
abbrev xY:=@Lit.int.injEq
abbrev xZ:=@Bool.false_or
abbrev ya:=@Int.tdiv_eq_ediv_of_nonneg
abbrev yb:=@Nat.compare_eq_lt
abbrev ye:=@run_storeCells_at
abbrev yf:=@Array.size_append
abbrev yg:=@Option.some.injEq
abbrev yh:=@Array.size_modify
abbrev yi:=@List.getElem_take
abbrev yj:=@DataW.trod_struct
abbrev yk:=@World.cells?_some
abbrev ym:=@BitVec.toNat_xor
abbrev yo:=@setRow_other
abbrev yq:=@Nat.div_eq_of_lt
abbrev yr:=@Nat.zero_mul
abbrev yt:=@has_put_same
abbrev yu:=@Nat.lt_succ_self
abbrev yv:=@List.map_toArray
abbrev yx:=@Classical.em
abbrev yz:=@Lib.cell_of_heap
abbrev yA:=@callsIn_wide
abbrev yB:=@atKey_put_other
abbrev yC:=@List.cons.injEq
abbrev yD:=@Nat.or_comm
abbrev yE:=@Nat.one_mul
abbrev yF:=@atKey_put_same
abbrev yG:=@List.Perm.refl
abbrev yH:=@List.drop_zero
abbrev yI:=@run_neq_struct
abbrev yJ:=@run_eql_struct
abbrev yK:=@nat_join
def yL{p:Prop}(h:p:=by
 refine Ah (i:=18) Ab ?_;refine ri rfl (λK' hK=> ?_);go_simp;refine hK _ _ ⟨λh=>absurd rfl h, ?_⟩;clear hK;refine Am Ab ?_;have hbx:=rh wr (γ #[G pn,I Q 0,I Q (ck:Z),I Q (d.size:Z),I Q (d.size:Z),G d] 172);have HOV:Hid (Al wr (wr.alloc (γ #[G pn,I Q 0,I Q (ck:Z),I Q (d.size:Z),I Q (d.size:Z),G d] 172)).drew):=((Ag.refl _ wr).alloc _).drew;have HX:Hid ((wr.alloc (γ #[G pn,I Q 0,I Q (ck:Z),I Q (d.size:Z),I Q (d.size:Z),G d] 172)).drew.heap[wr.heap.size]? =J (γ #[G pn,I Q 0,I Q (ck:Z),I Q (d.size:Z),I Q (d.size:Z),G d] 172 (0,0))):=hbx;have HNB:Hid (∀g,(Value.slice ao its.length cap).ownBlock=J g->g≠wr.heap.size):=λg hb e=>by
  obtain⟨cur,hc⟩:=Aj HN.1 hb;have:=(qW.1 hc).1;omega
 have e1:(wr.alloc (γ #[G pn,I Q 0,I Q (ck:Z),I Q (d.size:Z),I Q (d.size:Z),G d] 172)).drew.cell? ⟨ob,1,O⟩=J (I Q p):=(HOP.old (HOW.trans (uh HOV))).cell 1 Aa;have HOX:Hid (∀V,Ag (λk=>k=wr.heap.size) (wr.alloc (γ #[G pn,I Q 0,I Q (ck:Z),I Q (d.size:Z),I Q (d.size:Z),G d] 172)).drew V->Al wr V):=λV ho=>HOV.transNew ho (λk hk e=>Aa)
 clear hbx HSW hS2 HCK a1 c1 c2 d6;generalize(wr.alloc (γ #[G pn,I Q 0,I Q (ck:Z),I Q (d.size:Z),I Q (d.size:Z),G d] 172)).drew=V0 at*;generalize wr.heap.size=gx at*;obtain⟨P2,hP2⟩: ∃P2:Z,p/2^i=P2:=⟨_,rfl⟩;obtain⟨Q2,hQ2⟩: ∃Q2:Z,bits BinOp.and IntKind.i64 P2 1=Q2:=⟨_,rfl⟩;by_cases hi6:i<6
 .have hi6I:(i:Z)<6:=Aa;by_cases hQ:Q2=1
  .have hQb:(Q2==1)=true:=by rw[tT];exact hQ
   clear hQ;by_cases hd6:d.size<65536
   .have hd6I:(d.size:Z)<65536:=Aa;obtain⟨q0,hq0⟩: ∃q0,d.size%256=q0:=⟨_,rfl⟩;obtain⟨q1,hq1⟩: ∃q1,d.size/256=q1:=⟨_,rfl⟩;have hq0b:q0<256:=Aa;have hq1b:q1<256:=Aa;have hq0I:(d.size:Z)%256=(q0:Z):=Aa;have hq1I:(d.size:Z)/256=(q1:Z):=Aa;obtain⟨q2,hq2⟩: ∃q2,255- q0=q2:=⟨_,rfl⟩;obtain⟨q3,hq3⟩: ∃q3,255- q1=q3:=⟨_,rfl⟩;have hq2I:(255:Z)- (q0:Z)=(q2:Z):=Aa;have hq3I:(255:Z)- (q1:Z)=(q3:Z):=Aa;have hq2b:q2<256:=Aa;have hq3b:q3<256:=Aa;have w0:IntKind.u8.wrap (q0:Z)=(q0:Z):=(by rw[tN];omega);have w1' :IntKind.u8.wrap (q1:Z)=(q1:Z):=by rw[tN];omega
    have w2' :IntKind.u8.wrap (q2:Z)=(q2:Z):=by rw[tN];omega
    have w3' :IntKind.u8.wrap (q3:Z)=(q3:Z):=by rw[tN];omega
    have hf1:=rp V0 gx 1 _ _ (uh HX);have hf3:=rp V0 gx 3 _ _ (uh HX);have hf5:=rp V0 gx 5 _ _ (uh HX);have x1:V0.cell? ⟨gx,1,O⟩=J (I Q 0):=(by rw[qV _ _ 1 _ _ (0,0) (uh HX)];rfl);have x3:V0.cell? ⟨gx,3,O⟩=J (I Q (d.size:Z)):=(by rw[qV _ _ 3 _ _ (0,0) (uh HX)];rfl);have x5:V0.cell? ⟨gx,5,O⟩=J (G d):=(by rw[qV _ _ 5 _ _ (0,0) (uh HX)];rfl);clear hq0 hq1 hq2 hq3;go_upto_region 11 with fail;have h1:=ru V0 gx 1 _ _ (I Q 8) (uh HX);have HX1:Hid ((V0.setCell ⟨gx,1,O⟩ (I Q 8)).heap[gx]? =J (γ #[G pn,I Q 8,I Q (ck:Z),I Q (d.size:Z),I Q (d.size:Z),G d] 172 (0,0))):=h1;have HON:Hid (Ag (λk=>k=gx) V0 (V0.setCell ⟨gx,1,O⟩ (I Q 8))):=Ap V0 gx 1 _;clear h1 x1 x3 x5 hf1 hf3 hf5 HX;generalize V0.setCell ⟨gx,1,O⟩ (I Q 8)=V1 at*;have HA1:Hid (Al V1 (V1.alloc (γ #[I .u8 1,I .u8 (q0:Z),I .u8 (q1:Z),I .u8 (q2:Z),I .u8 (q3:Z)] 5))):=(Ag.refl _ V1).alloc _;have hbx:=rh V1 (γ #[I .u8 1,I .u8 (q0:Z),I .u8 (q1:Z),I .u8 (q2:Z),I .u8 (q3:Z)] 5);have hback:(convert 62 9 (K (J ⟨V1.heap.size,0,O⟩) 5 5)).run prog (V1.alloc (γ #[I .u8 1,I .u8 (q0:Z),I .u8 (q1:Z),I .u8 (q2:Z),I .u8 (q3:Z)] 5))=.ok (G ⟨[b8 1,b8 q0,b8 q1,b8 q2,b8 q3].toArray⟩) (V1.alloc (γ #[I .u8 1,I .u8 (q0:Z),I .u8 (q1:Z),I .u8 (q2:Z),I .u8 (q3:Z)] 5)):=
     uI _ 62 9 5 ⟨V1.heap.size,0,O⟩ 5 [b8 1,b8 q0,b8 q1,b8 q2,b8 q3] underlying62 underlying5 underlying9 (λj hj=>by
      rw[rH,rx,qV _ _ j _ _ (0,0) hbx];have hj5:j=0\/j=1\/j=2\/j=3\/j=4:=(by simp at hj;omega);rcases hj5 with rfl|rfl|rfl|rfl|rfl
      .rfl
      .simp[AL hq0b]
      .simp[AL hq1b]
      .simp[AL hq2b]
      simp[AL hq3b])
    have h5:(⟨[b8 1,b8 q0,b8 q1,b8 q2,b8 q3].toArray⟩:Y).size=5:=rfl;obtain⟨y5,hy5⟩: ∃y5:Y,⟨[b8 1,b8 q0,b8 q1,b8 q2,b8 q3].toArray⟩=y5:=⟨_,rfl⟩;rw[hy5] at hback h5;have a5: ∀W,(Op.stringOp .add y5 d).run prog W=.ok (G (y5++d)) W:=λW=>ry W _ _ Aa
    obtain⟨sp,hsp⟩: ∃sp,y5++d=sp:=⟨_,rfl⟩;have hspz:sp.size<=1100010:=(by rw[<-hsp,rg];omega);rw[hsp] at a5;have hf3:=rp V1 gx 3 _ _ (uh HX1);have hf5:=rp V1 gx 5 _ _ (uh HX1);have x3:V1.cell? ⟨gx,3,O⟩=J (I Q (d.size:Z)):=(by rw[qV _ _ 3 _ _ (0,0) (uh HX1)];rfl);have x5:V1.cell? ⟨gx,5,O⟩=J (G d):=(by rw[qV _ _ 5 _ _ (0,0) (uh HX1)];rfl);have hg1:gx<V1.heap.size:=(qW.1 (uh HX1)).1;clear hy5 hsp hbx;go_upto_region 13 with fail;have s5:=ru V1 gx 5 _ _ (G sp) (uh HX1);have s3:=ru _ gx 3 _ _ (I Q (sp.size:Z)) s5;have hO5:Ag (λk=>k=gx) V0 (((V1.setCell ⟨gx,5,O⟩ (G sp)).setCell ⟨gx,3,O⟩ (I Q (sp.size:Z))).alloc (γ #[I .u8 1,I .u8 (q0:Z),I .u8 (q1:Z),I .u8 (q2:Z),I .u8 (q3:Z)] 5)):=((HON.trans (Ap V1 gx 5 _)).trans (Ap _ gx 3 _)).alloc _;have HX5:Hid ((((V1.setCell ⟨gx,5,O⟩ (G sp)).setCell ⟨gx,3,O⟩ (I Q (sp.size:Z))).alloc (γ #[I .u8 1,I .u8 (q0:Z),I .u8 (q1:Z),I .u8 (q2:Z),I .u8 (q3:Z)] 5)).heap[gx]? =J (γ #[G pn,I Q 8,I Q (ck:Z),I Q (sp.size:Z),I Q (d.size:Z),G sp] 172 (0,0))):=AQ ((Ag.refl _ _).alloc _) s3;have HO5:=Af (HOX _ hO5);clear s5 s3 hO5 HX1 HON HA1 HOV HOX hback a5 x3 x5 hf3 hf5 hg1;generalize((V1.setCell ⟨gx,5,O⟩ (G sp)).setCell ⟨gx,3,O⟩ (I Q (sp.size:Z))).alloc (γ #[I .u8 1,I .u8 (q0:Z),I .u8 (q1:Z),I .u8 (q2:Z),I .u8 (q3:Z)] 5)=V5 at*;have x0:V5.cell? ⟨gx,0,O⟩=J (G pn):=(by rw[qV _ _ 0 _ _ (0,0) (uh HX5)];rfl);have x1:V5.cell? ⟨gx,1,O⟩=J (I Q 8):=(by rw[qV _ _ 1 _ _ (0,0) (uh HX5)];rfl);have x2:V5.cell? ⟨gx,2,O⟩=J (I Q (ck:Z)):=(by rw[qV _ _ 2 _ _ (0,0) (uh HX5)];rfl);have x3:V5.cell? ⟨gx,3,O⟩=J (I Q (sp.size:Z)):=(by rw[qV _ _ 3 _ _ (0,0) (uh HX5)];rfl);have x4:V5.cell? ⟨gx,4,O⟩=J (I Q (d.size:Z)):=(by rw[qV _ _ 4 _ _ (0,0) (uh HX5)];rfl);have x5:V5.cell? ⟨gx,5,O⟩=J (G sp):=(by rw[qV _ _ 5 _ _ (0,0) (uh HX5)];rfl);have HK9:Hid (∀x∈its++[(⟨pn,8,ck,sp.size,d.size,sp⟩:CQ)],cE x):=λx hx=>by
     rcases rR.1 hx with hx|hx
     .exact HK x hx
     rw[rC] at hx;subst hx;exact⟨by show pn.size<=_;omega,by show 8<=_;omega,by show ck<=_;omega,by show sp.size<=_;omega,by show d.size<=_;omega,by show sp.size<=_;omega⟩
    have HLE9:Hid ((its++[(⟨pn,8,ck,sp.size,d.size,sp⟩:CQ)]).length=i+1):=by have:=uh HLE;unfold Hid;rw[qU,this];rfl
    have HNV:=Af (HN.old (HO5.alloc (γ #[G pn,I Q 8,I Q (ck:Z),I Q (sp.size:Z),I Q (d.size:Z),G sp] 172)));clear HX5 HO5 HN HK HLE HNB;go_wp2_with (at_builtin;refine AX rfl (.tmp 97) (.tmp 99) rfl _ ⟨V5.heap.size,0,O⟩ its ⟨pn,8,ck,sp.size,d.size,sp⟩ rfl rfl (uh HNV) (AB V5 [G pn,I Q 8,I Q (ck:Z),I Q (sp.size:Z),I Q (d.size:Z),G sp] 172) Aa ?_;intro v9 w9 hn9 hq9;obtain⟨ao9,cap9,hv9⟩:=hn9.form;subst hv9;have HN9:=Af hn9;clear hn9 hq9);go_roundw
    .exact ⟨i+1,_,ao9,cap9,Aa,Aa,by go_num,by first|rfl|simp,HN9,HK9,HLE9⟩
    exact Ae
   have hd6I:¬(d.size:Z)<65536:=Aa;go_upto_region 13 with fail;have x0:V0.cell? ⟨gx,0,O⟩=J (G pn):=by rw[qV _ _ 0 _ _ (0,0) (uh HX)];rfl
   have x1:V0.cell? ⟨gx,1,O⟩=J (I Q 0):=by rw[qV _ _ 1 _ _ (0,0) (uh HX)];rfl
   have x2:V0.cell? ⟨gx,2,O⟩=J (I Q (ck:Z)):=by rw[qV _ _ 2 _ _ (0,0) (uh HX)];rfl
   have x3:V0.cell? ⟨gx,3,O⟩=J (I Q (d.size:Z)):=by rw[qV _ _ 3 _ _ (0,0) (uh HX)];rfl
   have x4:V0.cell? ⟨gx,4,O⟩=J (I Q (d.size:Z)):=by rw[qV _ _ 4 _ _ (0,0) (uh HX)];rfl
   have x5:V0.cell? ⟨gx,5,O⟩=J (G d):=by rw[qV _ _ 5 _ _ (0,0) (uh HX)];rfl
   have HK9:Hid (∀x∈its++[(⟨pn,0,ck,d.size,d.size,d⟩:CQ)],cE x):=λx hx=>by
    rcases rR.1 hx with hx|hx
    .exact HK x hx
    rw[rC] at hx;subst hx;exact⟨by show pn.size<=_;omega,by show 0<=_;omega,by show ck<=_;omega,by show d.size<=_;omega,by show d.size<=_;omega,by show d.size<=_;omega⟩
   have HLE9:Hid ((its++[(⟨pn,0,ck,d.size,d.size,d⟩:CQ)]).length=i+1):=by have:=uh HLE;unfold Hid;rw[qU,this];rfl
   have HNV:=Af (HN.old (HOV.alloc (γ #[G pn,I Q 0,I Q (ck:Z),I Q (d.size:Z),I Q (d.size:Z),G d] 172)));clear HX HOV HN HK HLE HNB;go_wp2_with (at_builtin;refine AX rfl (.tmp 97) (.tmp 99) rfl _ ⟨V0.heap.size,0,O⟩ its ⟨pn,0,ck,d.size,d.size,d⟩ rfl rfl (uh HNV) (AB V0 [G pn,I Q 0,I Q (ck:Z),I Q (d.size:Z),I Q (d.size:Z),G d] 172) Aa ?_;intro v9 w9 hn9 hq9;obtain⟨ao9,cap9,hv9⟩:=hn9.form;subst hv9;have HN9:=Af hn9;clear hn9 hq9);go_roundw
   .exact ⟨i+1,_,ao9,cap9,Aa,Aa,by go_num,by first|rfl|simp,HN9,HK9,HLE9⟩
   exact Ae
  have hQb:(Q2==1)=false:=by rw[re];exact hQ
  clear hQ;go_upto_region 13 with fail;have x0:V0.cell? ⟨gx,0,O⟩=J (G pn):=by rw[qV _ _ 0 _ _ (0,0) (uh HX)];rfl
  have x1:V0.cell? ⟨gx,1,O⟩=J (I Q 0):=by rw[qV _ _ 1 _ _ (0,0) (uh HX)];rfl
  have x2:V0.cell? ⟨gx,2,O⟩=J (I Q (ck:Z)):=by rw[qV _ _ 2 _ _ (0,0) (uh HX)];rfl
  have x3:V0.cell? ⟨gx,3,O⟩=J (I Q (d.size:Z)):=by rw[qV _ _ 3 _ _ (0,0) (uh HX)];rfl
  have x4:V0.cell? ⟨gx,4,O⟩=J (I Q (d.size:Z)):=by rw[qV _ _ 4 _ _ (0,0) (uh HX)];rfl
  have x5:V0.cell? ⟨gx,5,O⟩=J (G d):=by rw[qV _ _ 5 _ _ (0,0) (uh HX)];rfl
  have HK9:Hid (∀x∈its++[(⟨pn,0,ck,d.size,d.size,d⟩:CQ)],cE x):=λx hx=>by
   rcases rR.1 hx with hx|hx
   .exact HK x hx
   rw[rC] at hx;subst hx;exact⟨by show pn.size<=_;omega,by show 0<=_;omega,by show ck<=_;omega,by show d.size<=_;omega,by show d.size<=_;omega,by show d.size<=_;omega⟩
  have HLE9:Hid ((its++[(⟨pn,0,ck,d.size,d.size,d⟩:CQ)]).length=i+1):=by have:=uh HLE;unfold Hid;rw[qU,this];rfl
  have HNV:=Af (HN.old (HOV.alloc (γ #[G pn,I Q 0,I Q (ck:Z),I Q (d.size:Z),I Q (d.size:Z),G d] 172)));clear HX HOV HN HK HLE HNB;go_wp2_with (at_builtin;refine AX rfl (.tmp 97) (.tmp 99) rfl _ ⟨V0.heap.size,0,O⟩ its ⟨pn,0,ck,d.size,d.size,d⟩ rfl rfl (uh HNV) (AB V0 [G pn,I Q 0,I Q (ck:Z),I Q (d.size:Z),I Q (d.size:Z),G d] 172) Aa ?_;intro v9 w9 hn9 hq9;obtain⟨ao9,cap9,hv9⟩:=hn9.form;subst hv9;have HN9:=Af hn9;clear hn9 hq9);go_roundw
  .exact ⟨i+1,_,ao9,cap9,Aa,Aa,by go_num,by first|rfl|simp,HN9,HK9,HLE9⟩
  exact Ae
 have hi6I:¬(i:Z)<6:=Aa;go_upto_region 13 with fail;have x0:V0.cell? ⟨gx,0,O⟩=J (G pn):=by rw[qV _ _ 0 _ _ (0,0) (uh HX)];rfl
 have x1:V0.cell? ⟨gx,1,O⟩=J (I Q 0):=by rw[qV _ _ 1 _ _ (0,0) (uh HX)];rfl
 have x2:V0.cell? ⟨gx,2,O⟩=J (I Q (ck:Z)):=by rw[qV _ _ 2 _ _ (0,0) (uh HX)];rfl
 have x3:V0.cell? ⟨gx,3,O⟩=J (I Q (d.size:Z)):=by rw[qV _ _ 3 _ _ (0,0) (uh HX)];rfl
 have x4:V0.cell? ⟨gx,4,O⟩=J (I Q (d.size:Z)):=by rw[qV _ _ 4 _ _ (0,0) (uh HX)];rfl
 have x5:V0.cell? ⟨gx,5,O⟩=J (G d):=by rw[qV _ _ 5 _ _ (0,0) (uh HX)];rfl
 have HK9:Hid (∀x∈its++[(⟨pn,0,ck,d.size,d.size,d⟩:CQ)],cE x):=λx hx=>by
  rcases rR.1 hx with hx|hx
  .exact HK x hx
  rw[rC] at hx;subst hx;exact⟨by show pn.size<=_;omega,by show 0<=_;omega,by show ck<=_;omega,by show d.size<=_;omega,by show d.size<=_;omega,by show d.size<=_;omega⟩
 have HLE9:Hid ((its++[(⟨pn,0,ck,d.size,d.size,d⟩:CQ)]).length=i+1):=by have:=uh HLE;unfold Hid;rw[qU,this];rfl
 have HNV:=Af (HN.old (HOV.alloc (γ #[G pn,I Q 0,I Q (ck:Z),I Q (d.size:Z),I Q (d.size:Z),G d] 172)));clear HX HOV HN HK HLE HNB;go_wp2_with (at_builtin;refine AX rfl (.tmp 97) (.tmp 99) rfl _ ⟨V0.heap.size,0,O⟩ its ⟨pn,0,ck,d.size,d.size,d⟩ rfl rfl (uh HNV) (AB V0 [G pn,I Q 0,I Q (ck:Z),I Q (d.size:Z),I Q (d.size:Z),G d] 172) Aa ?_;intro v9 w9 hn9 hq9;obtain⟨ao9,cap9,hv9⟩:=hn9.form;subst hv9;have HN9:=Af hn9;clear hn9 hq9);go_roundw
 .exact ⟨i+1,_,ao9,cap9,Aa,Aa,by go_num,by first|rfl|simp,HN9,HK9,HLE9⟩
 exact Ae):p:=h
def yM{p:Prop}(h:p:=by
 clear hway;go_wp2_with fail;refine(Vway _).mono ?_;rintro r w1 ⟨rfl,rfl⟩;go_wp2_with fail;refine(Vck _).mono ?_;rintro r w1 ⟨rfl,rfl⟩;go_wp2_with fail;refine(Vpk _).mono ?_;rintro r w1 ⟨rfl,rfl⟩;go_wp2_with fail;refine(Vln _).mono ?_;rintro r w1 ⟨rfl,rfl⟩;go_wp2_with fail;refine(Vk _).mono ?_;rintro r w5 ⟨rfl,rfl⟩;go_wp2_with fail;refine(Vfr _).mono ?_;rintro r w6 ⟨rfl,rfl⟩;go_wp2_with fail;have hwr:IntKind.i64.wrap ((fr:Z)+30+(k:Z)+(pk:Z))=(fr:Z)+30+(k:Z)+(pk:Z):=by rw[show(fr:Z)+30+(k:Z)+(pk:Z)=((fr+30+k+pk:N):Z) by omega];exact Av _ Aa
 clear Vway Vck Vpk Vln Vk Vfr hsl;have hbx:=rh w1 (γ #[G nm,I Q (way:Z),I Q (ck:Z),I Q (pk:Z),I Q (ln:Z)] 170);have HOW:Hid (Al w1 (w1.alloc (γ #[G nm,I Q (way:Z),I Q (ck:Z),I Q (pk:Z),I Q (ln:Z)] 170))):=(Ag.refl _ w1).alloc _;have d0:(w1.alloc (γ #[G nm,I Q (way:Z),I Q (ck:Z),I Q (pk:Z),I Q (ln:Z)] 170)).cell? ⟨w1.heap.size,0,O⟩=J (G nm):=by rw[qV _ _ 0 _ _ (0,0) hbx];rfl
 have d1:(w1.alloc (γ #[G nm,I Q (way:Z),I Q (ck:Z),I Q (pk:Z),I Q (ln:Z)] 170)).cell? ⟨w1.heap.size,1,O⟩=J (I Q (way:Z)):=by rw[qV _ _ 1 _ _ (0,0) hbx];rfl
 have d2:(w1.alloc (γ #[G nm,I Q (way:Z),I Q (ck:Z),I Q (pk:Z),I Q (ln:Z)] 170)).cell? ⟨w1.heap.size,2,O⟩=J (I Q (ck:Z)):=by rw[qV _ _ 2 _ _ (0,0) hbx];rfl
 have d3:(w1.alloc (γ #[G nm,I Q (way:Z),I Q (ck:Z),I Q (pk:Z),I Q (ln:Z)] 170)).cell? ⟨w1.heap.size,3,O⟩=J (I Q (pk:Z)):=by rw[qV _ _ 3 _ _ (0,0) hbx];rfl
 have d4:(w1.alloc (γ #[G nm,I Q (way:Z),I Q (ck:Z),I Q (pk:Z),I Q (ln:Z)] 170)).cell? ⟨w1.heap.size,4,O⟩=J (I Q (ln:Z)):=by rw[qV _ _ 4 _ _ (0,0) hbx];rfl
 have HNB:Hid (∀b,(Value.slice ao its.length cap).ownBlock=J b->b≠w1.heap.size):=λb hb e=>by
  obtain⟨cur,hc⟩:=Aj HN.1 hb;have:=(qW.1 hc).1;omega
 clear hbx;generalize w1.alloc (γ #[G nm,I Q (way:Z),I Q (ck:Z),I Q (pk:Z),I Q (ln:Z)] 170)=W at*;generalize w1.heap.size=gh at*;cases hbg:Gq nm p with
 |false=>
  have HIS:Qu s p n a its=none:=by rw[uh HITN,hbg];rfl
  rw[hbg] at HBG;have HR:=Af (HFAIL HIS);clear HFAIL HNEXT HITN;go_quiet ((go_at_call 298;exact Calls.quiet_of_same (HBG _)));go_wp2;go_ret2;exact⟨HN.2.2.trans (HOW.drewN _),by rw[uh HR];exact⟨_,rfl⟩⟩
 |true=>
  rw[hbg] at HBG;by_cases h0:its.length=0
  .have h0I:¬(0:Z)<(its.length:Z):=Aa;have HIS:Qu s p n a its=J (⟨nm,way,ck,pk,ln,sp⟩,a+46+k):=by rw[uh HITN,hbg,rc Ac,rc (λh=>absurd h.1 Aa)]
   clear hbg;go_quiet ((go_at_call 298;exact Calls.quiet_of_same (HBG _)));have e0:(W.drewN nq).cell? ⟨gh,0,O⟩=J (G nm):=d0;have e1:(W.drewN nq).cell? ⟨gh,1,O⟩=J (I Q (way:Z)):=d1;have e2:(W.drewN nq).cell? ⟨gh,2,O⟩=J (I Q (ck:Z)):=d2;have e3:(W.drewN nq).cell? ⟨gh,3,O⟩=J (I Q (pk:Z)):=d3;have e4:(W.drewN nq).cell? ⟨gh,4,O⟩=J (I Q (ln:Z)):=d4;have HOV:Hid (Al w1 (W.drewN nq)):=HOW.drewN _;clear d0 d1 d2 d3 d4 HOW;generalize W.drewN nq=V at*;have HXN:=Af (HNEXT _ _ HIS Aa);clear HFAIL HNEXT HITN HBG;go_wp2_with fail;have HSV:V.drew.cell? ⟨gh,0,O⟩=J (G nm)/\V.drew.cell? ⟨gh,1,O⟩=J (I Q (way:Z))/\V.drew.cell? ⟨gh,2,O⟩=J (I Q (ck:Z))/\V.drew.cell? ⟨gh,3,O⟩=J (I Q (pk:Z))/\V.drew.cell? ⟨gh,4,O⟩=J (I Q (ln:Z)):=⟨e0,e1,e2,e3,e4⟩;have HS3: ∀(S:N->Prop) (X X' :U),(X.cell? ⟨gh,0,O⟩=J (G nm)/\X.cell? ⟨gh,1,O⟩=J (I Q (way:Z))/\X.cell? ⟨gh,2,O⟩=J (I Q (ck:Z))/\X.cell? ⟨gh,3,O⟩=J (I Q (pk:Z))/\X.cell? ⟨gh,4,O⟩=J (I Q (ln:Z)))->Ag S X X' ->¬S gh->(X'.cell? ⟨gh,0,O⟩=J (G nm)/\X'.cell? ⟨gh,1,O⟩=J (I Q (way:Z))/\X'.cell? ⟨gh,2,O⟩=J (I Q (ck:Z))/\X'.cell? ⟨gh,3,O⟩=J (I Q (pk:Z))/\X'.cell? ⟨gh,4,O⟩=J (I Q (ln:Z))):=λS X X' h ho hs=>⟨(ho.cell (p:=⟨gh,0,O⟩) (show gh<X.heap.size from Br h.1) hs).trans h.1,(ho.cell (p:=⟨gh,1,O⟩) (show gh<X.heap.size from Br h.1) hs).trans h.2.1,(ho.cell (p:=⟨gh,2,O⟩) (show gh<X.heap.size from Br h.1) hs).trans h.2.2.1,(ho.cell (p:=⟨gh,3,O⟩) (show gh<X.heap.size from Br h.1) hs).trans h.2.2.2.1,(ho.cell (p:=⟨gh,4,O⟩) (show gh<X.heap.size from Br h.1) hs).trans h.2.2.2.2⟩
   clear e0 e1 e2 e3 e4;refine Ai (S:=λX=>X.cell? ⟨gh,0,O⟩=J (G nm)/\X.cell? ⟨gh,1,O⟩=J (I Q (way:Z))/\X.cell? ⟨gh,2,O⟩=J (I Q (ck:Z))/\X.cell? ⟨gh,3,O⟩=J (I Q (pk:Z))/\X.cell? ⟨gh,4,O⟩=J (I Q (ln:Z))) (L:=12) Ab ?_;refine tk 0 13 (K ao 0 cap) 127 HSV ?_;refine tk 1 13 (.agg #[G nm,I Q (way:Z),I Q (ck:Z),I Q (pk:Z),I Q (ln:Z)]) 128 HSV ?_;refine tk 2 13 (G s) 129 HSV ?_;refine tk 3 13 (I Q ((fr:Z)+30+(k:Z))) 130 HSV ?_;refine tk 4 13 (I Q ((fr:Z)+30+(k:Z))) 131 HSV ?_;refine tk 5 13 (δ (J ⟨gh,3,O⟩)) 132 HSV ?_;refine tk 6 13 (I Q (pk:Z)) 133 HSV ?_;refine tk 7 13 (I Q ((fr:Z)+30+(k:Z)+(pk:Z))) 134 HSV ?_;refine tk 8 13 (G sp) 135 HSV ?_;refine tk 9 13 (.agg #[G nm,I Q (way:Z),I Q (ck:Z),I Q (pk:Z),I Q (ln:Z),G sp]) 136 HSV ?_;have hA2:Al V.drew (V.drew.alloc (γ #[G nm,I Q (way:Z),I Q (ck:Z),I Q (pk:Z),I Q (ln:Z),G sp] 172)):=(Ag.refl _ _).alloc _;have hS2:=HS3 _ _ _ HSV hA2 (λx=>x);obtain⟨v9,w9,hr9,hn9,hq9⟩:=Ef (HN.old (HOV.drew.trans hA2)) ⟨V.drew.heap.size,0,O⟩ (x:=⟨nm,way,ck,pk,ln,sp⟩) (AB V.drew [G nm,I Q (way:Z),I Q (ck:Z),I Q (pk:Z),I Q (ln:Z),G sp] 172) Aa 167;rw[h0] at hr9;refine Ah (i:=10) Ab ?_;refine ri rfl (λK' hK=> ?_);go_simp;refine hK _ _ ⟨λ_=>hS2, ?_⟩;clear hK;refine Ah (i:=11) Ab ?_;refine CW rfl rfl (Lib.wp_append_run _ (.tmp 127) (.tmp 137) _ _ rfl _ _ rfl rfl v9 w9 hr9 ⟨λ_=>HS3 _ _ _ hS2 hq9 (λe=>HNB gh e rfl), ?_⟩);refine Ah (i:=12) Ab ?_;refine ri rfl (λK' hK=> ?_);go_simp;refine hK _ _ ⟨λh=>absurd rfl h, ?_⟩;clear hK;refine Am Ab ?_;have HN9:=Af hn9;clear hn9 hq9 hr9 hS2 hA2 HS3 HSV HOV HN HNB;go_wp2;go_roundw
   .exact ⟨i+1,a+46+k,its++[(⟨nm,way,ck,pk,ln,sp⟩:CQ)],rI (Value.int IntKind.i64) Aa,by go_num,HXN,HN9,HXK⟩
   exact Ae
  obtain⟨g,cap',hve,hgb,hgl,hits⟩:=HN.slice Aa;injection hve with hve1 hve2 hve3;subst hve1 hve3;obtain⟨m0,hm0⟩: ∃m0,its.length- 1=m0:=⟨_,rfl⟩;have hm1:m0<its.length:=Aa;have hm0I:(its.length:Z)- 1=(m0:Z):=Aa;have hm1I:(m0:Z)<(its.length:Z):=Aa;have hm00:(0:Z)<=(m0:Z):=Aa;have hm0b:m0<=100:=Aa;have hm0w:IntKind.i64.wrap (m0:Z)=(m0:Z):=Av m0 Aa;have h0I:(0:Z)<(its.length:Z):=Aa;have h0N:0<its.length:=Aa;have h0D:decide ((0:Z)<(its.length:Z))=true:=qZ h0I;clear h0;have hlc:W.cell? ⟨g,m0*6,O⟩=J (G (its.getD m0 Cu).nm):=Ao (uh HOW) (hits m0 hm1).1;have HLN:Hid (Kg its=(its.getD m0 Cu).nm):=by unfold Hid Kg;rw[hm0]
  clear hits hve2 hgl hgb hm0;generalize(its.getD m0 Cu).nm=lm at*;have l1:=Nw lm nm;have l2:=Qd lm nm;have l3:=Nw nm lm;have l4:=Qd nm lm;by_cases hlt:lm.data.toList<nm.data.toList
  .have HIS:Qu s p n a its=J (⟨nm,way,ck,pk,ln,sp⟩,a+46+k):=by rw[uh HITN,hbg,rc Ac,rc (λh=>h.2 (by rw[uh HLN];exact hlt))]
   rw[qZ hlt] at l1;rw[qX (λh=>by rw[h] at hlt;exact ti _ hlt)] at l2;rw[qX (λh=>absurd (uE h hlt) (ti _))] at l3;rw[qX (λh=>by rw[h] at hlt;exact ti _ hlt)] at l4;clear hbg hlt;go_quiet ((go_at_call 298;exact Calls.quiet_of_same (HBG _)));have e0:(W.drewN nq).cell? ⟨gh,0,O⟩=J (G nm):=d0;have e1:(W.drewN nq).cell? ⟨gh,1,O⟩=J (I Q (way:Z)):=d1;have e2:(W.drewN nq).cell? ⟨gh,2,O⟩=J (I Q (ck:Z)):=d2;have e3:(W.drewN nq).cell? ⟨gh,3,O⟩=J (I Q (pk:Z)):=d3;have e4:(W.drewN nq).cell? ⟨gh,4,O⟩=J (I Q (ln:Z)):=d4;have HOV:Hid (Al w1 (W.drewN nq)):=HOW.drewN _;clear d0 d1 d2 d3 d4 HOW;generalize W.drewN nq=V at*;have HXN:=Af (HNEXT _ _ HIS Aa);clear HFAIL HNEXT HITN HBG;go_wp2_with fail;have HSV:V.drew.cell? ⟨gh,0,O⟩=J (G nm)/\V.drew.cell? ⟨gh,1,O⟩=J (I Q (way:Z))/\V.drew.cell? ⟨gh,2,O⟩=J (I Q (ck:Z))/\V.drew.cell? ⟨gh,3,O⟩=J (I Q (pk:Z))/\V.drew.cell? ⟨gh,4,O⟩=J (I Q (ln:Z)):=⟨e0,e1,e2,e3,e4⟩;have HS3: ∀(S:N->Prop) (X X' :U),(X.cell? ⟨gh,0,O⟩=J (G nm)/\X.cell? ⟨gh,1,O⟩=J (I Q (way:Z))/\X.cell? ⟨gh,2,O⟩=J (I Q (ck:Z))/\X.cell? ⟨gh,3,O⟩=J (I Q (pk:Z))/\X.cell? ⟨gh,4,O⟩=J (I Q (ln:Z)))->Ag S X X' ->¬S gh->(X'.cell? ⟨gh,0,O⟩=J (G nm)/\X'.cell? ⟨gh,1,O⟩=J (I Q (way:Z))/\X'.cell? ⟨gh,2,O⟩=J (I Q (ck:Z))/\X'.cell? ⟨gh,3,O⟩=J (I Q (pk:Z))/\X'.cell? ⟨gh,4,O⟩=J (I Q (ln:Z))):=λS X X' h ho hs=>⟨(ho.cell (p:=⟨gh,0,O⟩) (show gh<X.heap.size from Br h.1) hs).trans h.1,(ho.cell (p:=⟨gh,1,O⟩) (show gh<X.heap.size from Br h.1) hs).trans h.2.1,(ho.cell (p:=⟨gh,2,O⟩) (show gh<X.heap.size from Br h.1) hs).trans h.2.2.1,(ho.cell (p:=⟨gh,3,O⟩) (show gh<X.heap.size from Br h.1) hs).trans h.2.2.2.1,(ho.cell (p:=⟨gh,4,O⟩) (show gh<X.heap.size from Br h.1) hs).trans h.2.2.2.2⟩
   clear e0 e1 e2 e3 e4;refine Ai (S:=λX=>X.cell? ⟨gh,0,O⟩=J (G nm)/\X.cell? ⟨gh,1,O⟩=J (I Q (way:Z))/\X.cell? ⟨gh,2,O⟩=J (I Q (ck:Z))/\X.cell? ⟨gh,3,O⟩=J (I Q (pk:Z))/\X.cell? ⟨gh,4,O⟩=J (I Q (ln:Z))) (L:=12) Ab ?_;refine tk 0 13 (K (J ⟨g,0,O⟩) its.length cap) 127 HSV ?_;refine tk 1 13 (.agg #[G nm,I Q (way:Z),I Q (ck:Z),I Q (pk:Z),I Q (ln:Z)]) 128 HSV ?_;refine tk 2 13 (G s) 129 HSV ?_;refine tk 3 13 (I Q ((fr:Z)+30+(k:Z))) 130 HSV ?_;refine tk 4 13 (I Q ((fr:Z)+30+(k:Z))) 131 HSV ?_;refine tk 5 13 (δ (J ⟨gh,3,O⟩)) 132 HSV ?_;refine tk 6 13 (I Q (pk:Z)) 133 HSV ?_;refine tk 7 13 (I Q ((fr:Z)+30+(k:Z)+(pk:Z))) 134 HSV ?_;refine tk 8 13 (G sp) 135 HSV ?_;refine tk 9 13 (.agg #[G nm,I Q (way:Z),I Q (ck:Z),I Q (pk:Z),I Q (ln:Z),G sp]) 136 HSV ?_;have hA2:Al V.drew (V.drew.alloc (γ #[G nm,I Q (way:Z),I Q (ck:Z),I Q (pk:Z),I Q (ln:Z),G sp] 172)):=(Ag.refl _ _).alloc _;have hS2:=HS3 _ _ _ HSV hA2 (λx=>x);obtain⟨v9,w9,hr9,hn9,hq9⟩:=Ef (HN.old (HOV.drew.trans hA2)) ⟨V.drew.heap.size,0,O⟩ (x:=⟨nm,way,ck,pk,ln,sp⟩) (AB V.drew [G nm,I Q (way:Z),I Q (ck:Z),I Q (pk:Z),I Q (ln:Z),G sp] 172) Aa 167;refine Ah (i:=10) Ab ?_;refine ri rfl (λK' hK=> ?_);go_simp;refine hK _ _ ⟨λ_=>hS2, ?_⟩;clear hK;refine Ah (i:=11) Ab ?_;refine CW rfl rfl (Lib.wp_append_run _ (.tmp 127) (.tmp 137) _ _ rfl _ _ rfl rfl v9 w9 hr9 ⟨λ_=>HS3 _ _ _ hS2 hq9 (λe=>HNB gh e rfl), ?_⟩);refine Ah (i:=12) Ab ?_;refine ri rfl (λK' hK=> ?_);go_simp;refine hK _ _ ⟨λh=>absurd rfl h, ?_⟩;clear hK;refine Am Ab ?_;have HN9:=Af hn9;clear hn9 hq9 hr9 hS2 hA2 HS3 HSV HOV HN HNB;go_wp2;go_roundw
   .exact ⟨i+1,a+46+k,its++[(⟨nm,way,ck,pk,ln,sp⟩:CQ)],rI (Value.int IntKind.i64) Aa,by go_num,HXN,HN9,HXK⟩
   exact Ae
  have HIS:Qu s p n a its=none:=by rw[uh HITN,hbg,rc Ac,rd ⟨Aa,by rw[uh HLN];exact hlt⟩]
  rw[qX hlt] at l1;have HR:=Af (HFAIL HIS);clear HFAIL HNEXT HITN;by_cases heq:nm.data.toList<lm.data.toList
  .rw[qZ heq] at l3;rw[qX (λh=>by rw[h] at heq;exact ti _ heq)] at l4;rw[qX (λh=>by rw[h] at heq;exact ti _ heq)] at l2;clear hbg hlt heq;go_quiet ((go_at_call 298;exact Calls.quiet_of_same (HBG _)));go_wp2;go_ret2;exact⟨HN.2.2.trans (HOW.drewN _),by rw[uh HR];exact⟨_,rfl⟩⟩
  have he:=Fy heq hlt;rw[qX heq] at l3;rw[qZ he] at l4;rw[qZ he.symm] at l2;clear hbg hlt heq he;go_quiet ((go_at_call 298;exact Calls.quiet_of_same (HBG _)));go_wp2;go_ret2;exact⟨HN.2.2.trans (HOW.drewN _),by rw[uh HR];exact⟨_,rfl⟩⟩):p:=h
def yN{p:Prop}(h:p:=by
 by_cases h0:its.length=0
 .have hn0:¬(0:Z)<(its.length:Z):=Aa;have e0:its=[]:=sj h0;subst e0;have HJ:=Af (Di ao 0 cap [] (λh=>by simp at h) Ad (λx hx=>by cases hx) wr (λi hi=>by simp at hi));have HJZ:Hid ((Bp []).size<=1000000000):=CZ [] Ad (λx hx=>by cases hx);clear h0;go_wp2_with fail;refine HJ.mono ?_;rintro r w6 ⟨rfl,ho6⟩;obtain⟨k2,kf2⟩:=HREC w6 (Ag.trans (uh HOW) ho6);have HFI:=Af (HFIN w6 (Bp []) (Ag.trans (uh HOW) ho6) (uh HJZ));generalize Bp []=jr at*;clear HJ ho6 HJZ HFIN;go_wp2_with fail;go_end0;exact⟨rfl,HFI⟩
 have hn0:(0:Z)<(its.length:Z):=Aa;obtain⟨g,cap',hve,hgb,hgl,hits⟩:=HN.slice Aa;injection hve with hve1 hve2 hve3;subst hve1 hve3;obtain⟨cur,hcur⟩:=Aj HN.1 (b:=g) rfl;have d1:wr.cell? ⟨ob,1,O⟩=J (I Q p):=(HOP.old (uh HOW)).cell 1 Aa;have d2:wr.cell? ⟨ob,2,O⟩=J (I Q q):=(HOP.old (uh HOW)).cell 2 Aa;have HP:=Af (λV=>Pd q hq1 hq2 its.length Aa Aa V);have hkl:=GP q (show 0<its.length by omega);generalize Eb q its.length=k at*;have hklI:(k:Z)<(its.length:Z):=Aa;obtain⟨P3,hP3⟩: ∃P3:Z,p/64=P3:=⟨_,rfl⟩;obtain⟨Q3,hQ3⟩: ∃Q3:Z,bits BinOp.and IntKind.i64 P3 7=Q3:=⟨_,rfl⟩;have hitb:cE (its.getD k Cu):=by rw[qT,qY hkl];exact HK _ (ro hkl)
 obtain⟨o1,o2,o3,o4,o5,o6⟩:=hitb;have hoks: ∀x∈its,CQ.ok x:=λx hx=>by
  obtain⟨o1,o2,o3,o4,o5,o6⟩:=HK x hx;exact⟨Aa,Aa,Aa,Aa,Aa,Aa⟩
 obtain⟨y0,y1,y2,y3,y4,y5⟩:=hits k hkl;obtain⟨y,hy⟩: ∃y,its.getD k Cu=y:=⟨_,rfl⟩;rw[hy] at o1 o2 o3 o4 o5 o6 y0 y1 y2 y3 y4 y5;obtain⟨yn,yw,yc,yp,yl,ys⟩:=y;simp only at o1 o2 o3 o4 o5 o6 y0 y1 y2 y3 y4 y5;have z1:=rp wr g (k*6+1) _ _ hcur;have z2:=rp wr g (k*6+2) _ _ hcur;have z3:=rp wr g (k*6+3) _ _ hcur;have z4:=rp wr g (k*6+4) _ _ hcur;clear hve2 h0;by_cases hQ:Q3=1
 .have hQ1:(Q3==1)=true:=by rw[hQ];rfl
  have hQ2' :(Q3==2)=false:=by rw[hQ];rfl
  have hQ3' :(Q3==3)=false:=by rw[hQ];rfl
  have hQ4:(Q3==4)=false:=by rw[hQ];rfl
  have hQ5:(Q3==5)=false:=by rw[hQ];rfl
  have hi2:=hits.upd (j:=1) (v:=I Q ((yw:Z)+1)) (x:=⟨yn,yw+1,yc,yp,yl,ys⟩) hkl Aa hcur (λc hc=>by
   rw[hy];have:c=0\/c=1\/c=2\/c=3\/c=4\/c=5:=Aa;rcases this with rfl|rfl|rfl|rfl|rfl|rfl<;>first|rfl|(simp[DS];done)|(simp[DS];omega))
  have hO2:Al W (wr.setCell ⟨g,k*6+1,O⟩ (I Q ((yw:Z)+1))):=HOW.transNew (Ap wr g _ _) (λz hz e=>by have h1:W.heap.size<=g:=hgb;omega);have HO2:=Af hO2;have hok2:=IH (k:=k) (x:=⟨yn,yw+1,yc,yp,yl,ys⟩) hoks ⟨by show yn.size<=_;omega,by show yw+1<=_;omega,by show yc<=_;omega,by show yp<=_;omega,by show yl<=_;omega,by show ys.size<=_;omega⟩;have HJ:=Af (Di (J ⟨g,0,O⟩) g cap (its.set k ⟨yn,yw+1,yc,yp,yl,ys⟩) (λ_=>rfl) (by rw[rK];omega) hok2 _ hi2);rw[rK] at HJ;have HJZ:Hid ((Bp (its.set k ⟨yn,yw+1,yc,yp,yl,ys⟩)).size<=1000000000):=CZ _ (by rw[rK];omega) hok2;generalize Bp (its.set k ⟨yn,yw+1,yc,yp,yl,ys⟩)=jr at*;clear hi2 hO2 hits hoks hok2 hy;go_wp2_with fail;refine(HP _).mono ?_;rintro r w3 ⟨rfl,rfl⟩;go_wp2_with fail;refine HJ.mono ?_;rintro r w6 ⟨rfl,ho6⟩;obtain⟨k2,kf2⟩:=HREC w6 (Ag.trans (uh HO2) ho6);have HFI:=Af (HFIN w6 jr (Ag.trans (uh HO2) ho6) (uh HJZ));clear HJ ho6 HJZ HFIN;go_wp2_with fail;go_end0;exact⟨rfl,HFI⟩
 have nQ1:=hQ;clear hQ;by_cases hQ:Q3=2
 .have hQ1:(Q3==1)=false:=by rw[hQ];rfl
  have hQ2' :(Q3==2)=true:=by rw[hQ];rfl
  have hQ3' :(Q3==3)=false:=by rw[hQ];rfl
  have hQ4:(Q3==4)=false:=by rw[hQ];rfl
  have hQ5:(Q3==5)=false:=by rw[hQ];rfl
  have hxo:bits BinOp.xor IntKind.i64 (yc:Z) 1=((yc^^^1:N):Z):=BD yc 1 Aa Aa;have hxz:yc^^^1<8589934592:=uK (n:=33) Aa Aa;have hi2:=hits.upd (j:=2) (v:=I Q ((yc^^^1:N):Z)) (x:=⟨yn,yw,yc^^^1,yp,yl,ys⟩) hkl Aa hcur (λc hc=>by
   rw[hy];have:c=0\/c=1\/c=2\/c=3\/c=4\/c=5:=Aa;rcases this with rfl|rfl|rfl|rfl|rfl|rfl<;>first|rfl|(simp[DS];done)|(simp[DS];omega))
  have hO2:Al W (wr.setCell ⟨g,k*6+2,O⟩ (I Q ((yc^^^1:N):Z))):=HOW.transNew (Ap wr g _ _) (λz hz e=>by have h1:W.heap.size<=g:=hgb;omega);have HO2:=Af hO2;have hok2:=IH (k:=k) (x:=⟨yn,yw,yc^^^1,yp,yl,ys⟩) hoks ⟨by show yn.size<=_;omega,by show yw<=_;omega,by show yc^^^1<=_;omega,by show yp<=_;omega,by show yl<=_;omega,by show ys.size<=_;omega⟩;have HJ:=Af (Di (J ⟨g,0,O⟩) g cap (its.set k ⟨yn,yw,yc^^^1,yp,yl,ys⟩) (λ_=>rfl) (by rw[rK];omega) hok2 _ hi2);rw[rK] at HJ;have HJZ:Hid ((Bp (its.set k ⟨yn,yw,yc^^^1,yp,yl,ys⟩)).size<=1000000000):=CZ _ (by rw[rK];omega) hok2;generalize Bp (its.set k ⟨yn,yw,yc^^^1,yp,yl,ys⟩)=jr at*;clear hi2 hO2 hits hoks hok2 hy;go_wp2_with fail;refine(HP _).mono ?_;rintro r w3 ⟨rfl,rfl⟩;go_wp2_with fail;refine HJ.mono ?_;rintro r w6 ⟨rfl,ho6⟩;obtain⟨k2,kf2⟩:=HREC w6 (Ag.trans (uh HO2) ho6);have HFI:=Af (HFIN w6 jr (Ag.trans (uh HO2) ho6) (uh HJZ));clear HJ ho6 HJZ HFIN;go_wp2_with fail;go_end0;exact⟨rfl,HFI⟩
 have nQ2:=hQ;clear hQ;by_cases hQ:Q3=3
 .have hQ1:(Q3==1)=false:=by rw[hQ];rfl
  have hQ2' :(Q3==2)=false:=by rw[hQ];rfl
  have hQ3' :(Q3==3)=true:=by rw[hQ];rfl
  have hQ4:(Q3==4)=false:=by rw[hQ];rfl
  have hQ5:(Q3==5)=false:=by rw[hQ];rfl
  have hi2:=hits.upd (j:=4) (v:=I Q ((yl:Z)+1)) (x:=⟨yn,yw,yc,yp,yl+1,ys⟩) hkl Aa hcur (λc hc=>by
   rw[hy];have:c=0\/c=1\/c=2\/c=3\/c=4\/c=5:=Aa;rcases this with rfl|rfl|rfl|rfl|rfl|rfl<;>first|rfl|(simp[DS];done)|(simp[DS];omega))
  have hO2:Al W (wr.setCell ⟨g,k*6+4,O⟩ (I Q ((yl:Z)+1))):=HOW.transNew (Ap wr g _ _) (λz hz e=>by have h1:W.heap.size<=g:=hgb;omega);have HO2:=Af hO2;have hok2:=IH (k:=k) (x:=⟨yn,yw,yc,yp,yl+1,ys⟩) hoks ⟨by show yn.size<=_;omega,by show yw<=_;omega,by show yc<=_;omega,by show yp<=_;omega,by show yl+1<=_;omega,by show ys.size<=_;omega⟩;have HJ:=Af (Di (J ⟨g,0,O⟩) g cap (its.set k ⟨yn,yw,yc,yp,yl+1,ys⟩) (λ_=>rfl) (by rw[rK];omega) hok2 _ hi2);rw[rK] at HJ;have HJZ:Hid ((Bp (its.set k ⟨yn,yw,yc,yp,yl+1,ys⟩)).size<=1000000000):=CZ _ (by rw[rK];omega) hok2;generalize Bp (its.set k ⟨yn,yw,yc,yp,yl+1,ys⟩)=jr at*;clear hi2 hO2 hits hoks hok2 hy;go_wp2_with fail;refine(HP _).mono ?_;rintro r w3 ⟨rfl,rfl⟩;go_wp2_with fail;refine HJ.mono ?_;rintro r w6 ⟨rfl,ho6⟩;obtain⟨k2,kf2⟩:=HREC w6 (Ag.trans (uh HO2) ho6);have HFI:=Af (HFIN w6 jr (Ag.trans (uh HO2) ho6) (uh HJZ));clear HJ ho6 HJZ HFIN;go_wp2_with fail;go_end0;exact⟨rfl,HFI⟩
 have nQ3:=hQ;clear hQ;by_cases hQ:Q3=4
 .have hQ1:(Q3==1)=false:=by rw[hQ];rfl
  have hQ2' :(Q3==2)=false:=by rw[hQ];rfl
  have hQ3' :(Q3==3)=false:=by rw[hQ];rfl
  have hQ4:(Q3==4)=true:=by rw[hQ];rfl
  have hQ5:(Q3==5)=false:=by rw[hQ];rfl
  have hi2:=hits.upd (j:=3) (v:=I Q ((yp:Z)+1)) (x:=⟨yn,yw,yc,yp+1,yl,ys⟩) hkl Aa hcur (λc hc=>by
   rw[hy];have:c=0\/c=1\/c=2\/c=3\/c=4\/c=5:=Aa;rcases this with rfl|rfl|rfl|rfl|rfl|rfl<;>first|rfl|(simp[DS];done)|(simp[DS];omega))
  have hO2:Al W (wr.setCell ⟨g,k*6+3,O⟩ (I Q ((yp:Z)+1))):=HOW.transNew (Ap wr g _ _) (λz hz e=>by have h1:W.heap.size<=g:=hgb;omega);have HO2:=Af hO2;have hok2:=IH (k:=k) (x:=⟨yn,yw,yc,yp+1,yl,ys⟩) hoks ⟨by show yn.size<=_;omega,by show yw<=_;omega,by show yc<=_;omega,by show yp+1<=_;omega,by show yl<=_;omega,by show ys.size<=_;omega⟩;have HJ:=Af (Di (J ⟨g,0,O⟩) g cap (its.set k ⟨yn,yw,yc,yp+1,yl,ys⟩) (λ_=>rfl) (by rw[rK];omega) hok2 _ hi2);rw[rK] at HJ;have HJZ:Hid ((Bp (its.set k ⟨yn,yw,yc,yp+1,yl,ys⟩)).size<=1000000000):=CZ _ (by rw[rK];omega) hok2;generalize Bp (its.set k ⟨yn,yw,yc,yp+1,yl,ys⟩)=jr at*;clear hi2 hO2 hits hoks hok2 hy;go_wp2_with fail;refine(HP _).mono ?_;rintro r w3 ⟨rfl,rfl⟩;go_wp2_with fail;refine HJ.mono ?_;rintro r w6 ⟨rfl,ho6⟩;obtain⟨k2,kf2⟩:=HREC w6 (Ag.trans (uh HO2) ho6);have HFI:=Af (HFIN w6 jr (Ag.trans (uh HO2) ho6) (uh HJZ));clear HJ ho6 HJZ HFIN;go_wp2_with fail;go_end0;exact⟨rfl,HFI⟩
 have nQ4:=hQ;clear hQ;by_cases hQ:Q3=5
 .have hQ1:(Q3==1)=false:=by rw[hQ];rfl
  have hQ2' :(Q3==2)=false:=by rw[hQ];rfl
  have hQ3' :(Q3==3)=false:=by rw[hQ];rfl
  have hQ4:(Q3==4)=false:=by rw[hQ];rfl
  have hQ5:(Q3==5)=true:=by rw[hQ];rfl
  have hi2:=hits.upd (j:=4) (v:=I Q ((yl:Z)+4000)) (x:=⟨yn,yw,yc,yp,yl+4000,ys⟩) hkl Aa hcur (λc hc=>by
   rw[hy];have:c=0\/c=1\/c=2\/c=3\/c=4\/c=5:=Aa;rcases this with rfl|rfl|rfl|rfl|rfl|rfl<;>first|rfl|(simp[DS];done)|(simp[DS];omega))
  have hO2:Al W (wr.setCell ⟨g,k*6+4,O⟩ (I Q ((yl:Z)+4000))):=HOW.transNew (Ap wr g _ _) (λz hz e=>by have h1:W.heap.size<=g:=hgb;omega);have HO2:=Af hO2;have hok2:=IH (k:=k) (x:=⟨yn,yw,yc,yp,yl+4000,ys⟩) hoks ⟨by show yn.size<=_;omega,by show yw<=_;omega,by show yc<=_;omega,by show yp<=_;omega,by show yl+4000<=_;omega,by show ys.size<=_;omega⟩;have HJ:=Af (Di (J ⟨g,0,O⟩) g cap (its.set k ⟨yn,yw,yc,yp,yl+4000,ys⟩) (λ_=>rfl) (by rw[rK];omega) hok2 _ hi2);rw[rK] at HJ;have HJZ:Hid ((Bp (its.set k ⟨yn,yw,yc,yp,yl+4000,ys⟩)).size<=1000000000):=CZ _ (by rw[rK];omega) hok2;generalize Bp (its.set k ⟨yn,yw,yc,yp,yl+4000,ys⟩)=jr at*;clear hi2 hO2 hits hoks hok2 hy;go_wp2_with fail;refine(HP _).mono ?_;rintro r w3 ⟨rfl,rfl⟩;go_wp2_with fail;refine HJ.mono ?_;rintro r w6 ⟨rfl,ho6⟩;obtain⟨k2,kf2⟩:=HREC w6 (Ag.trans (uh HO2) ho6);have HFI:=Af (HFIN w6 jr (Ag.trans (uh HO2) ho6) (uh HJZ));clear HJ ho6 HJZ HFIN;go_wp2_with fail;go_end0;exact⟨rfl,HFI⟩
 have nQ5:=hQ;clear hQ;have hQ1:(Q3==1)=false:=by rw[re];assumption
 have hQ2' :(Q3==2)=false:=by rw[re];assumption
 have hQ3' :(Q3==3)=false:=by rw[re];assumption
 have hQ4:(Q3==4)=false:=by rw[re];assumption
 have hQ5:(Q3==5)=false:=by rw[re];assumption
 have HJ:=Af (Di (J ⟨g,0,O⟩) g cap its (λ_=>rfl) Aa hoks wr hits);have HJZ:Hid ((Bp its).size<=1000000000):=CZ its Aa hoks;clear hits hoks hy;go_wp2_with fail;refine(HP _).mono ?_;rintro r w3 ⟨rfl,rfl⟩;go_wp2_with fail;refine HJ.mono ?_;rintro r w6 ⟨rfl,ho6⟩;obtain⟨k2,kf2⟩:=HREC w6 (Ag.trans (uh HOW) ho6);have HFI:=Af (HFIN w6 (Bp its) (Ag.trans (uh HOW) ho6) (uh HJZ));generalize Bp its=jr at*;clear HJ ho6 HJZ HFIN;go_wp2_with fail;go_end0;exact⟨rfl,HFI⟩):p:=h
def yO{p:Prop}(h:p:=by
 refine Ah (i:=17) Ab ?_;refine ri rfl (λK' hK=> ?_);go_simp;refine hK _ _ ⟨λh=>absurd rfl h, ?_⟩;clear hK;refine Am Ab ?_;have hbx:=rh wr (γ #[G qn,I Q 0,I Q (ck:Z),I Q (d.size:Z),I Q (d.size:Z),G d] 172);have HOV:Hid (Al wr (wr.alloc (γ #[G qn,I Q 0,I Q (ck:Z),I Q (d.size:Z),I Q (d.size:Z),G d] 172)).drew):=((Ag.refl _ wr).alloc _).drew;have HX:Hid ((wr.alloc (γ #[G qn,I Q 0,I Q (ck:Z),I Q (d.size:Z),I Q (d.size:Z),G d] 172)).drew.heap[wr.heap.size]? =J (γ #[G qn,I Q 0,I Q (ck:Z),I Q (d.size:Z),I Q (d.size:Z),G d] 172 (0,0))):=hbx;have HOX:Hid (∀V,Ag (λk=>k=wr.heap.size) (wr.alloc (γ #[G qn,I Q 0,I Q (ck:Z),I Q (d.size:Z),I Q (d.size:Z),G d] 172)).drew V->Al wr V):=λV ho=>HOV.transNew ho (λk hk e=>Aa)
 clear hbx HSW hS2 HCK a1 c1 c2;generalize(wr.alloc (γ #[G qn,I Q 0,I Q (ck:Z),I Q (d.size:Z),I Q (d.size:Z),G d] 172)).drew=V0 at*;generalize wr.heap.size=gx at*;have HDF:=Af (DP d Aa V0);obtain⟨dp,hdp⟩: ∃dp,CA d=dp:=⟨_,rfl⟩;rw[hdp] at HDF;have HDPE:=Af hdp;clear hdp;go_wp2_with fail;refine HDF.mono ?_;rintro r V1 ⟨hr,ho1⟩;rcases hr with⟨-,rfl⟩|⟨hbig, -⟩
 rotate_left
 .exact absurd hbig Aa
 have HX1:=Af (AQ ho1 (uh HX));have HO1:=Af (HOV.trans ho1);have HOX1:Hid (∀V,Ag (λk=>k=gx) V1 V->Al wr V):=λV h=>HOX V ((Ag.oldW ho1).trans h)
 clear HX HOV HOX ho1 HDF;by_cases hsh:dp.size<d.size
 .have hshI:(dp.size:Z)<(d.size:Z):=Aa;have hf1:=rp V1 gx 1 _ _ (uh HX1);have hf3:=rp V1 gx 3 _ _ (uh HX1);have hf5:=rp V1 gx 5 _ _ (uh HX1);have x1:V1.cell? ⟨gx,1,O⟩=J (I Q 0):=by rw[qV _ _ 1 _ _ (0,0) (uh HX1)];rfl
  have x3:V1.cell? ⟨gx,3,O⟩=J (I Q (d.size:Z)):=by rw[qV _ _ 3 _ _ (0,0) (uh HX1)];rfl
  have x5:V1.cell? ⟨gx,5,O⟩=J (G d):=by rw[qV _ _ 5 _ _ (0,0) (uh HX1)];rfl
  go_upto_region 22 with fail;have s1:=ru V1 gx 1 _ _ (I Q 8) (uh HX1);have s3:=ru _ gx 3 _ _ (I Q (dp.size:Z)) s1;have s5:=ru _ gx 5 _ _ (G dp) s3;have HX5:Hid ((((V1.setCell ⟨gx,1,O⟩ (I Q 8)).setCell ⟨gx,3,O⟩ (I Q (dp.size:Z))).setCell ⟨gx,5,O⟩ (G dp)).heap[gx]? =J (γ #[G qn,I Q 8,I Q (ck:Z),I Q (dp.size:Z),I Q (d.size:Z),G dp] 172 (0,0))):=s5;have HO5:=Af (HOX1 (((V1.setCell ⟨gx,1,O⟩ (I Q 8)).setCell ⟨gx,3,O⟩ (I Q (dp.size:Z))).setCell ⟨gx,5,O⟩ (G dp)) (((Ap V1 gx 1 _).trans (Ap _ gx 3 _)).trans (Ap _ gx 5 _)));clear s1 s3 s5 x1 x3 x5 hf1 hf3 hf5 HX1 HO1 HOX1;generalize((V1.setCell ⟨gx,1,O⟩ (I Q 8)).setCell ⟨gx,3,O⟩ (I Q (dp.size:Z))).setCell ⟨gx,5,O⟩ (G dp)=V5 at*;have x0:V5.cell? ⟨gx,0,O⟩=J (G qn):=by rw[qV _ _ 0 _ _ (0,0) (uh HX5)];rfl
  have x1:V5.cell? ⟨gx,1,O⟩=J (I Q 8):=by rw[qV _ _ 1 _ _ (0,0) (uh HX5)];rfl
  have x2:V5.cell? ⟨gx,2,O⟩=J (I Q (ck:Z)):=by rw[qV _ _ 2 _ _ (0,0) (uh HX5)];rfl
  have x3:V5.cell? ⟨gx,3,O⟩=J (I Q (dp.size:Z)):=by rw[qV _ _ 3 _ _ (0,0) (uh HX5)];rfl
  have x4:V5.cell? ⟨gx,4,O⟩=J (I Q (d.size:Z)):=by rw[qV _ _ 4 _ _ (0,0) (uh HX5)];rfl
  have x5:V5.cell? ⟨gx,5,O⟩=J (G dp):=by rw[qV _ _ 5 _ _ (0,0) (uh HX5)];rfl
  have HK9:Hid (its++[(⟨qn,8,ck,dp.size,d.size,dp⟩:CQ)]=(Ba (fs.take (i+1))).map (JI p)):=by
   have h1:=uh HK;have h2:=uh HIT;have h3:=uh HCKE;have h4:=uh HQN;have h5:=uh HDPE;unfold Hid;rw[h2,sv,<-h1,sP,tB,JR (by rw[h5];exact hsh),JI];show _=its++[(⟨p++nm,_,_,_,_,_⟩:CQ)];simp only[h3,h4,h5]
  have HLE9:Hid ((its++[(⟨qn,8,ck,dp.size,d.size,dp⟩:CQ)]).length=i+1):=by have:=uh HLE;unfold Hid;rw[qU,this];rfl
  have HNV:=Af (HN.old (HO5.alloc (γ #[G qn,I Q 8,I Q (ck:Z),I Q (dp.size:Z),I Q (d.size:Z),G dp] 172)));clear HX5 HO5 HN HK HLE HIT HCKE HQN HDPE hsh;go_wp2_with (at_builtin;refine AX rfl (.tmp 140) (.tmp 142) rfl _ ⟨V5.heap.size,0,O⟩ its ⟨qn,8,ck,dp.size,d.size,dp⟩ rfl rfl (uh HNV) (AB V5 [G qn,I Q 8,I Q (ck:Z),I Q (dp.size:Z),I Q (d.size:Z),G dp] 172) Aa ?_;intro v9 w9 hn9 hq9;obtain⟨ao9,cap9,hv9⟩:=hn9.form;subst hv9;have HN9:=Af hn9;clear hn9 hq9);go_roundw
  .exact ⟨i+1,_,ao9,cap9,Aa,by go_num,by first|rfl|simp,HN9,HK9,HLE9⟩
  exact Ae
 have hshI:¬(dp.size:Z)<(d.size:Z):=Aa;clear HOX1;go_upto_region 22 with fail;have x0:V1.cell? ⟨gx,0,O⟩=J (G qn):=by rw[qV _ _ 0 _ _ (0,0) (uh HX1)];rfl
 have x1:V1.cell? ⟨gx,1,O⟩=J (I Q 0):=by rw[qV _ _ 1 _ _ (0,0) (uh HX1)];rfl
 have x2:V1.cell? ⟨gx,2,O⟩=J (I Q (ck:Z)):=by rw[qV _ _ 2 _ _ (0,0) (uh HX1)];rfl
 have x3:V1.cell? ⟨gx,3,O⟩=J (I Q (d.size:Z)):=by rw[qV _ _ 3 _ _ (0,0) (uh HX1)];rfl
 have x4:V1.cell? ⟨gx,4,O⟩=J (I Q (d.size:Z)):=by rw[qV _ _ 4 _ _ (0,0) (uh HX1)];rfl
 have x5:V1.cell? ⟨gx,5,O⟩=J (G d):=by rw[qV _ _ 5 _ _ (0,0) (uh HX1)];rfl
 have HK9:Hid (its++[(⟨qn,0,ck,d.size,d.size,d⟩:CQ)]=(Ba (fs.take (i+1))).map (JI p)):=by
  have h1:=uh HK;have h2:=uh HIT;have h3:=uh HCKE;have h4:=uh HQN;have h5:=uh HDPE;unfold Hid;rw[h2,sv,<-h1,sP,tB,JS (by rw[h5];exact hsh),JI];show _=its++[(⟨p++nm,_,_,_,_,_⟩:CQ)];simp only[h3,h4]
 have HLE9:Hid ((its++[(⟨qn,0,ck,d.size,d.size,d⟩:CQ)]).length=i+1):=by have:=uh HLE;unfold Hid;rw[qU,this];rfl
 have HNV:=Af (HN.old (HO1.alloc (γ #[G qn,I Q 0,I Q (ck:Z),I Q (d.size:Z),I Q (d.size:Z),G d] 172)));clear HX1 HO1 HN HK HLE HIT HCKE HQN HDPE hsh;go_wp2_with (at_builtin;refine AX rfl (.tmp 140) (.tmp 142) rfl _ ⟨V1.heap.size,0,O⟩ its ⟨qn,0,ck,d.size,d.size,d⟩ rfl rfl (uh HNV) (AB V1 [G qn,I Q 0,I Q (ck:Z),I Q (d.size:Z),I Q (d.size:Z),G d] 172) Aa ?_;intro v9 w9 hn9 hq9;obtain⟨ao9,cap9,hv9⟩:=hn9.form;subst hv9;have HN9:=Af hn9;clear hn9 hq9);go_roundw
 .exact ⟨i+1,_,ao9,cap9,Aa,by go_num,by first|rfl|simp,HN9,HK9,HLE9⟩
 exact Ae):p:=h
def yP{p:Prop}(h:p:=by
 clear hs2;go_wp2_with fail;refine Ai (S:=λX=>X.cell? ⟨b,0,O⟩=J (G M)/\X.cell? ⟨b,1,O⟩=J (G V)/\X.cell? ⟨b,2,O⟩=J (G A)/\Al W0 X) (L:=14) Ab ?_;refine tk 0 15 (δ (J ⟨b,0,O⟩)) 44 HSW ?_;refine tk 1 15 (δ (J ⟨b,0,O⟩)) 45 HSW ?_;refine tk 2 15 (δ (J ⟨b,0,O⟩)) 46 HSW ?_;refine tk 3 15 (G M) 47 HSW ?_;refine tk 4 15 (δ (J ⟨b,0,O⟩)) 48 HSW ?_;refine tk 5 15 (δ (J ⟨b,0,O⟩)) 49 HSW ?_;refine tk 6 15 (δ (J ⟨b,1,O⟩)) 50 HSW ?_;refine tk 7 15 (G V) 51 HSW ?_;refine tk 8 15 (δ (J ⟨b,0,O⟩)) 52 HSW ?_;refine tk 9 15 (δ (J ⟨b,0,O⟩)) 53 HSW ?_;refine tk 10 15 (δ (J ⟨b,2,O⟩)) 54 HSW ?_;refine tk 11 15 (G A) 55 HSW ?_;refine tk 12 15 (G t) 56 HSW ?_;refine Ah (i:=13) Ab ?_;refine ri rfl (λK' hK=> ?_);go_simp;refine HV1.mono ?_;rintro r w6 ⟨ho,rfl⟩;have hs6:=HS3 _ _ HSW ho;refine hK _ _ ⟨λ_=>hs6, ?_⟩;clear hK;refine Ah (i:=14) Ab ?_;refine ri rfl (λK' hK=> ?_);go_simp;refine hK _ _ ⟨λh=>absurd rfl h, ?_⟩;clear hK;refine Am Ab ?_;have HSW:w6.drew.cell? ⟨b,0,O⟩=J (G M)/\w6.drew.cell? ⟨b,1,O⟩=J (G V)/\w6.drew.cell? ⟨b,2,O⟩=J (G A)/\Al W0 w6.drew:=⟨hs6.1,hs6.2.1,hs6.2.2.1,hs6.2.2.2.drew⟩;clear hs6 ho HV1;go_wp2_with fail;refine Ai (S:=λX=>X.cell? ⟨b,0,O⟩=J (G M)/\X.cell? ⟨b,1,O⟩=J (G V)/\X.cell? ⟨b,2,O⟩=J (G A)/\Al W0 X) (L:=14) Ab ?_;refine tk 0 15 (δ (J ⟨b,0,O⟩)) 58 HSW ?_;refine tk 1 15 (δ (J ⟨b,0,O⟩)) 59 HSW ?_;refine tk 2 15 (δ (J ⟨b,0,O⟩)) 60 HSW ?_;refine tk 3 15 (G M) 61 HSW ?_;refine tk 4 15 (δ (J ⟨b,0,O⟩)) 62 HSW ?_;refine tk 5 15 (δ (J ⟨b,0,O⟩)) 63 HSW ?_;refine tk 6 15 (δ (J ⟨b,1,O⟩)) 64 HSW ?_;refine tk 7 15 (G V) 65 HSW ?_;refine tk 8 15 (δ (J ⟨b,0,O⟩)) 66 HSW ?_;refine tk 9 15 (δ (J ⟨b,0,O⟩)) 67 HSW ?_;refine tk 10 15 (δ (J ⟨b,2,O⟩)) 68 HSW ?_;refine tk 11 15 (G A) 69 HSW ?_;refine tk 12 15 (G t) 70 HSW ?_;refine Ah (i:=13) Ab ?_;refine ri rfl (λK' hK=> ?_);go_simp;refine(HV2 w6.drew).mono ?_;rintro r w7 ⟨ho,rfl⟩;have hs7:=HS3 _ _ HSW ho;refine hK _ _ ⟨λ_=>hs7, ?_⟩;clear hK;refine Ah (i:=14) Ab ?_;refine ri rfl (λK' hK=> ?_);go_simp;refine hK _ _ ⟨λh=>absurd rfl h, ?_⟩;clear hK;refine Am Ab ?_;have HX:Hid (NR w1 w7 b c BB RL RT):=Exists.intro _ (Exists.intro _ ⟨HL.old (by have:=hs7.2.2.2;rw[hW0] at this;exact this),HB⟩);generalize JF M V A t=vn at*;clear hs7 ho HV2 HSW HS3;go_wp2;go_ret;exact⟨rfl,HX⟩):p:=h
def yQ{p:Prop}(h:p:=by
 have H4:=Af (λW=>UA nm W);generalize Bu nm=M at*;clear hA hch hvb;go_in;go_upto_region 2 with fail;generalize w.alloc (γ #[G nm,.bool ln,G dt] 39)=W at*;have hc1:W.cell? ⟨gc,1,O⟩=J (.map (J gm)):=by rw[qV W gc 1 _ _ (0,0) (uh HCH).1];rfl
 have HSW:W.drew.cell? ⟨gc,1,O⟩=J (.map (J gm))/\W.drew.cell? ⟨w.heap.size,0,O⟩=J (G nm)/\True:=⟨hc1,HE.2.1,trivial⟩;have H1:=Af (H1 W.drew HCH.2.2);refine Ai (S:=λW=>W.cell? ⟨gc,1,O⟩=J (.map (J gm))/\W.cell? ⟨w.heap.size,0,O⟩=J (G nm)/\True) (L:=7) Ab ?_;refine tk 0 8 (δ (J ⟨gc,0,O⟩)) 10 HSW ?_;refine tk 1 8 (δ (J ⟨gc,0,O⟩)) 11 HSW ?_;refine tk 2 8 (δ (J ⟨gc,1,O⟩)) 12 HSW ?_;refine tk 3 8 (.map (J gm)) 13 HSW ?_;refine tk 4 8 (δ (J ⟨w.heap.size,0,O⟩)) 14 HSW ?_;refine tk 5 8 (G nm) 15 HSW ?_;refine Ah (i:=6) Ab ?_;refine ri rfl (λK' hK=> ?_);go_simp;refine H1.mono ?_;rintro r w1 ⟨rfl,ho1⟩;have ho1' :Al W w1:=((Ag.refl _ W).drew).trans ho1;have HE1:=Af (HE.old ho1');have HC1:=Af (HCH.old ho1');have HO1:=Af (Ag.trans (uh HO) ho1');have hc11:w1.cell? ⟨gc,1,O⟩=J (.map (J gm)):=by rw[qV w1 gc 1 _ _ (0,0) (uh HC1).1];rfl
 refine hK _ _ ⟨λ_=>⟨hc11,HE1.2.1,trivial⟩, ?_⟩;clear hK H1 ho1 ho1' HSW HE HCH HO;refine Ah (i:=7) Ab ?_;refine ri rfl (λK' hK=> ?_);go_simp;refine hK _ _ ⟨λh=>absurd rfl h, ?_⟩;clear hK;refine Am Ab ?_;have hn1:=HE1.2.1;go_wp2_with fail;refine(H2 w1).mono ?_;rintro r w2 ⟨rfl,ho2⟩;have HE2:=Af (HE1.old ho2);have HC2:=Af (HC1.old ho2);have HO2:=Af (Ag.trans (uh HO1) ho2);have hn2:=HE2.2.1;have hd2:=HE2.2.2.2;have hc20:w2.cell? ⟨gc,0,O⟩=J (Value.slice ao fs.length cap):=by rw[qV w2 gc 0 _ _ (0,0) (uh HC2).1];rfl
 have hc22:w2.cell? ⟨gc,2,O⟩=J (I Q (all:Z)):=by rw[qV w2 gc 2 _ _ (0,0) (uh HC2).1];rfl
 clear H2 ho2 HE1 HC1 HO1 hn1 hc11 hc1;go_wp2_with fail;refine(H4 _).mono ?_;rintro r w3 ⟨rfl,rfl⟩;go_wp2;go_ret;exact⟨rfl,HO2⟩):p:=h
def yR{p:Prop}(h:p:=by
 refine Ah (i:=13) Ab ?_;refine ri rfl (λK' hK=> ?_);go_simp;refine hK _ _ ⟨λh=>absurd rfl h, ?_⟩;clear hK;refine Am Ab ?_;have hV:Al W (W.alloc (γ #[G nm,I .u32 0,I .u32 (ck:Z),I .u32 (d.size:Z),G d] 131)).drew:=((Ag.refl _ W).alloc _).drew;have HI:Hid ((W.alloc (γ #[G nm,I .u32 0,I .u32 (ck:Z),I .u32 (d.size:Z),G d] 131)).drew.heap[w.heap.size+2]? =J (γ #[G nm,I .u32 0,I .u32 (ck:Z),I .u32 (d.size:Z),G d] 131 (0,0))):=by
  have h:=rh W (γ #[G nm,I .u32 0,I .u32 (ck:Z),I .u32 (d.size:Z),G d] 131);rw[hsz] at h;exact h
 have HXV:=Af (FW hV (uh HX));have HTV:=Af (FW hV (uh HT));have HOV:=Af (Ag.trans (uh HA) hV);have hc1V:(W.alloc (γ #[G nm,I .u32 0,I .u32 (ck:Z),I .u32 (d.size:Z),G d] 131)).drew.cell? ⟨w.heap.size,1,O⟩=J (G d):=by rw[qV _ _ 1 _ _ (0,0) (uh HXV)];rfl
 clear hV HC hS2 HSW;generalize(W.alloc (γ #[G nm,I .u32 0,I .u32 (ck:Z),I .u32 (d.size:Z),G d] 131)).drew=V at*;go_wp2_with fail;refine(HD _).mono ?_;rintro r w1 ⟨rfl,ho1⟩;have HO1:=Af (Ag.trans (uh HOV) ho1);have HI1:=Af (FW ho1 (uh HI));have hx1:=FW ho1 (uh HXV);have HR1:=Af (FW ho1 (uh HTV));have hd1:w1.cell? ⟨w.heap.size,1,O⟩=J (G d):=by rw[qV _ _ 1 _ _ (0,0) hx1];rfl
 clear ho1 hx1 HX HT HA HXV HTV HOV HI hc1V hc0 hc1;by_cases hsh:z.size<d.size
 .have hshI:(z.size:Z)<(d.size:Z):=Aa;have hit:=HSH hsh;have hf1:w1.frozen? ⟨w.heap.size+2,1,O⟩=false:=rp w1 _ 1 _ _ (uh HI1);have hf4:w1.frozen? ⟨w.heap.size+2,4,O⟩=false:=rp w1 _ 4 _ _ (uh HI1);have hk1:w1.cell? ⟨w.heap.size+2,1,O⟩=J (I .u32 0):=by rw[qV _ _ 1 _ _ (0,0) (uh HI1)];rfl
  have hk4:w1.cell? ⟨w.heap.size+2,4,O⟩=J (G d):=by rw[qV _ _ 4 _ _ (0,0) (uh HI1)];rfl
  have hs1:=ru w1 (w.heap.size+2) 1 _ _ (I .u32 8) (uh HI1);have hs2:=ru _ (w.heap.size+2) 4 _ _ (G z) hs1;have HI2:Hid (((w1.setCell ⟨w.heap.size+2,1,O⟩ (I .u32 8)).setCell ⟨w.heap.size+2,4,O⟩ (G z)).heap[w.heap.size+2]? =J (γ #[G nm,I .u32 8,I .u32 (ck:Z),I .u32 (d.size:Z),G z] 131 (0,0))):=hs2;have hO2:Ag (λk=>k=w.heap.size+2) w1 ((w1.setCell ⟨w.heap.size+2,1,O⟩ (I .u32 8)).setCell ⟨w.heap.size+2,4,O⟩ (G z)):=(Ap w1 _ 1 _).trans (Ap _ _ 4 _);have HR2:=Af ((hO2.block (w.heap.size+1) (qW.1 (uh HR1)).1 Aa).trans (uh HR1));have HO2:Hid (Al w _):=HO1.transNew hO2 (λk hk h=>Aa);clear hs1 hs2 hO2 HI1 HR1 HO1;go_upto_region 5 with fail;generalize(w1.setCell ⟨w.heap.size+2,1,O⟩ (I .u32 8)).setCell ⟨w.heap.size+2,4,O⟩ (G z)=w2 at*;clear hf1 hf4 hk1 hk4;obtain⟨e0,e1,e2,e3,e4⟩:=Fv.cells (i:=⟨nm,8,ck,d.size,z⟩) (uh HI2);have hr2:=uh HR2;simp only at e0 e1 e2 e3 e4;go_wp2_with (refine sF rfl 131 (.tmp 2) (.tmp 29) rfl (w.heap.size+1) #[G nm,I .u32 8,I .u32 (ck:Z),I .u32 (d.size:Z),G z] rfl rfl 131 _ hr2 CC rfl (MH _ _ _ _ _) ?_);refine rU (v:=.agg #[G nm,I .u32 8,I .u32 (ck:Z),I .u32 (d.size:Z),G z]) (tO results88 _ _ (w.heap.size+1) 131 _ (0,0) _ rfl (sw w2 (w.heap.size+1) _ _ _ _ hr2) underlying131 rfl CC) rfl ⟨?_,HO2.setRow _ (λh=>absurd h Aa) _⟩;rw[hit]
  rfl
 have hshI:¬(z.size:Z)<(d.size:Z):=Aa;have hit:=HPL hsh;obtain⟨e0,e1,e2,e3,e4⟩:=Fv.cells (i:=⟨nm,0,ck,d.size,d⟩) (uh HI1);simp only at e0 e1 e2 e3 e4;have hr2:=uh HR1;go_wp2_with (refine sF rfl 131 (.tmp 2) (.tmp 29) rfl (w.heap.size+1) #[G nm,I .u32 0,I .u32 (ck:Z),I .u32 (d.size:Z),G d] rfl rfl 131 _ hr2 CC rfl (MH _ _ _ _ _) ?_);refine rU (v:=.agg #[G nm,I .u32 0,I .u32 (ck:Z),I .u32 (d.size:Z),G d]) (tO results88 _ _ (w.heap.size+1) 131 _ (0,0) _ rfl (sw w1 (w.heap.size+1) _ _ _ _ hr2) underlying131 rfl CC) rfl ⟨?_,HO1.setRow _ (λh=>absurd h Aa) _⟩;rw[hit]
 rfl):p:=h
def yS{p:Prop}(h:p:=by
 have HWF:Hid (BM L (T.getD i AA)=0->(T.getD i AA).nm.size<=80):=λh=>Ee (Kt h)
 have HWB:Hid (BM L (T.getD i AA)<=5):=by unfold Hid BM;split<;>(try split)<;>(try split)<;>(try split)<;>(try split)<;>omega
 have HYL:=Af (λn W hm hg=>Pj (T.getD i AA) hns w.heap.size n L W hm hg);generalize Eg L (T.take i)=s at*;generalize T.getD i AA=e at*;obtain⟨nm,ln,dt⟩:=e;simp only at*;have hA:Al wr (wr.alloc (γ #[G nm,.bool ln,G dt] 39)):=(Ag.refl _ wr).alloc _;have HE:=Af (Rh.made wr nm ln dt);have HF3:=Af (HF.after hA);obtain⟨nfo,hfo⟩:=HF3.fo;have H2:=Af (HYL nfo _ (HM.old HF3.old) hfo);clear hA HF HYL hfo;go_wp2_with fail;clear h1 h2 h3;refine H2.mono ?_;rintro e w4 ⟨rfl,ho4⟩;have HE4:=Af (HE.old ho4);have HF4:=Af (HF3.after ho4);clear H2 HE HF3;generalize wr.alloc (γ #[G nm,.bool ln,G dt] 39)=W at*;clear ho4;by_cases hw0:BM L ⟨nm,ln,dt⟩=0
 .obtain ⟨v,hv,hvb⟩:=HF4.ch;have hcf:=GC (HCF hw0);have hnm:=HWF hw0;have hfl:s.fs.length<60:=by have:=hcf.2.2.2.1;have:=HF4.few.1;omega
  have H3:=Af (lH nm dt ln gc gm (i*1001) v s.fs s.tb s.all Aa hcf.1 hcf.2.1 hcf.2.2.1 hfl hcf.2.2.2.2 Aa w4 hv);have HTK:=Af (λw' v' =>HF4.take (w' :=w') (v:=v) (v' :=v') (e:=⟨nm,ln,dt⟩) hw0 hfl (uh HGC2) (uh HGC) hvb hv);obtain⟨_,h1,h2,h3⟩:=uh HE4;rw[hw0];clear hcf hv hvb hw0 HCF HWF HWB hnm hfl HE4;go_wp2_with fail;clear h1 h2 h3;refine H3.mono ?_;rintro e w5 ⟨rfl,v',hc5,ho5,hb5⟩;have HF5:=Af (HTK w5 v' hc5 ho5 hb5);clear H3 HTK hc5 ho5 hb5;go_wp2;go_roundw
  .exact ⟨i+1,Aa,by go_num,by rw[uh HNX];exact HF5⟩
  exact Ae
 have hwN:=hw0;obtain⟨y,hy⟩: ∃y,BM L ⟨nm,ln,dt⟩=y:=⟨_,rfl⟩;have hy5:y<=5:=by rw[<-hy];exact HWB
 have HLV:Hid (∀W' w' g cap,UH w gc gm w.heap.size i L s u7 W' ->w'.ownsRow 0 48 2 (K (J ⟨g,0,O⟩) (s.lf.length+1) cap) (s.lf.length+1) (Ce s.lf++[G nm,I Q (y:Z)])->W'.grownBy w' u7.ownBlock->(u7.ownBlock=J g\/g=W'.heap.size)->UH w gc gm w.heap.size (i+1) L (Ed L s ⟨nm,ln,dt⟩) (K (J ⟨g,0,O⟩) (s.lf.length+1) cap) w'):=λW' w' g cap hF h1 h2 h3=>by
  refine hF.leave (e:=⟨nm,ln,dt⟩) hwN (by rw[hy];exact h1) ((Ag.refl _ _).grown h2 (λk _ e=>e)) ?_;rcases h3 with h|h
  .exact .inl h
  exact .inr (by rw[h];exact hF.old.size)
 rw[hy] at hw0 ⊢;have hw0I:((y:Z) !=0)=true:=by rw[rS];omega
 have hw0J:¬(y:Z)=0:=Aa;have H5:=Af (MO nm Aa w4);obtain⟨_,h1,h2,h3⟩:=uh HE4;have hfew:=HF4.few.2;obtain⟨ao,cp,rfl⟩: ∃ao cp,u7=K ao s.lf.length cp:=by
  obtain⟨_,⟨rfl,hz⟩|⟨b,c,cur,rfl,_⟩⟩:=HF4.lf
  .rw[hz];exact⟨O,0,rfl⟩
  exact⟨_,_,rfl⟩
 clear hy hwN HCF HWF HWB HE4;go_wp2_with fail;clear h1 h2 h3;refine H5.mono ?_;rintro e w5 ⟨rfl,ho5⟩;have hA5:Al w5 (w5.alloc (γ #[G nm,I Q (y:Z)] 48)):=(Ag.refl _ w5).alloc _;have HF6:=Af ((HF4.after ho5).after hA5);have HOW:=Af HF6.lf;have HNW:=Af (AB w5 [G nm,I Q (y:Z)] 48);have HLV:=Af (λw' g cap=>HLV _ w' g cap (uh HF6));obtain⟨i0,hi0,hz0,hz1,hz2⟩:=rN SF;have HSZ:Hid ((w5.alloc (γ #[G nm,I Q (y:Z)] 48)).heap.size=w5.heap.size+1):=by unfold Hid;rw[rr]
 rw[uh HSZ] at HLV;clear ho5 hA5 H5 HF4 HF6;go_wp2_with (at_builtin;refine wpList_append_lies _ rfl (.tmp 30) (.tmp 36) 42 rfl 0 48 i0 (.agg #[G ⟨#[]⟩,I Q 0]) 2 24 underlying42 hi0 hz0 hz1 hz2 rfl Aa (K ao s.lf.length cp) s.lf.length (Ce s.lf) rfl (uh HOW) ⟨w5.heap.size,0,O⟩ 1 1 [G nm,I Q (y:Z)] rfl rfl (uh HNW) (by intro u hu;simp at hu;rcases hu with rfl|rfl<;>rfl) Aa (by unfold maxLen;omega) Aa Aa (w5.heap.size+1) (uh HSZ) ?_;intro gb cap2 w6 ho6 hg6 hl6 hlt6;have HX:=Af (HLV w6 gb cap2 ho6 hg6 hl6);clear ho6 hg6 hl6 hlt6);go_roundw
 .exact ⟨i+1,Aa,by go_num,by rw[uh HNX];exact HX⟩
 exact Ae):p:=h
def yT{p:Prop}(h:p:=by
 generalize L[0]=z0 at*;go_wp2_with fail;refine HPS.mono ?_;rintro e w3 ⟨vv,rfl,hst,ho3⟩;have HO3:=Af (HO2.trans ho3);have hc0:=Ao ho3 hc0;generalize Ay s 47=M at*;have hml:M.length- 1<M.length:=Aa;obtain⟨g2,cp2,hvv,hcm, -⟩:=hst.cell (M.length- 1) hml;subst hvv;have hmI:(M.length:Z)- 1=((M.length- 1:N):Z):=Aa;have hmJ:((M.length- 1:N):Z)<(M.length:Z):=Aa;have hlast:M[M.length- 1]=BL s:=by
  have:=uh HLAST;rw[qT,qY hml] at this;exact this
 rw[hlast] at hcm;clear hst ho3 hlast HLAST HPS HS2;have f0:(z0.toList==[48])=decide (z0=⟨#[48]⟩):=EF z0 _;have f1:(z0.toList==[49])=decide (z0=⟨#[49]⟩):=EF z0 _;have hadd: ∀W,(Op.stringOp .add ⟨#[118]⟩ z0).run prog W=.ok (G (sV++z0)) W:=λW=>ry W _ _ (by have e7:(⟨#[118]⟩:Y).size=1:=rfl;omega)
 have f2:=Qd (BL s) (sV++z0);have hls:(BL s).size<=2000000:=rz (Fe _ _ _) hs;have HEW:Hid (NP (BL s)=(Lib.hasPrefix (BL s).data.toList sV.data.toList&&Ch BR (Dg (BL s)))):=rfl;have HPR:=Af (Ok (s:=BL s) Aa 118);have HVE:=Af (Mc (v:=BL s));generalize KG s z0=efz at*;generalize NP (BL s)=ew at*;generalize BL s=l at*;generalize sV++z0=vm at*;generalize M.length- 1=ml at*;by_cases h01:z0=⟨#[48]⟩\/z0=⟨#[49]⟩
 .have hans:ans= !ew:=by rw[uh HAN,uh HEF,rd h01]
  have hb:=AC (s:=l) (k:=0) hlp;have hlpI:(1:Z)<=(l.size:Z):=Aa;have hlpJ:(0:Z)<(l.size:Z):=Aa;have hsl: ∀W,(Instr.slice 9 (G l) (J (I Q ((1:N):Z))) O O).run prog W=.ok (G (l.extract 1 l.size)) W:=λW=>sT W 9 l underlying9 .i64 1 Aa Aa
  have hsl1: ∀W,(Instr.slice 9 (G l) (J (I Q 1)) O O).run prog W=.ok (G (l.extract 1 l.size)) W:=hsl;have HDG:=Af (λW=>SQ (l.extract 1 l.size) (rz (Fe _ _ _) hls) W);have HFE:Hid (ans=((!decide (As l 0=118))|| !Ch BR (l.extract 1 l.size))):=by
   unfold Hid;rw[hans,uh HEW];have hp:Lib.hasPrefix l.data.toList sV.data.toList=decide (As l 0=118):=uh HPR;by_cases hv8:As l 0=118
   .have hpt:Lib.hasPrefix l.data.toList sV.data.toList=true:=(by rw[hp];exact qZ hv8);rw[hpt,HVE hpt,qZ hv8];rfl
   rw[hp,qX hv8];rfl
  clear hsl hans HAN HEF HEW HPR HVE f2 hadd;generalize Ch BR (l.extract 1 l.size)=od at*;generalize l.extract 1 l.size=l1 at*;have hor:(z0.toList==[48])=true\/((z0.toList==[48])=false/\(z0.toList==[49])=true):=by
   by_cases h0:z0=⟨#[48]⟩
   .exact .inl (by rw[f0];exact qZ h0)
   exact .inr ⟨by rw[f0];exact qX h0,by rw[f1];exact qZ (h01.resolve_left h0)⟩
  clear f0 f1 h01;by_cases hv8:As l 0=118
  .have hans:ans= !od:=by rw[uh HFE,qZ hv8];rfl
   rw[hv8] at hb;subst hans;clear HFE hv8;rcases hor with h0|⟨h0,h1⟩
   .go_wp2_with fail;refine(HDG _).mono ?_;rintro e w' ⟨rfl,rfl⟩;go_wp2;go_ret;exact⟨rfl,HO3⟩
   go_wp2_with fail;refine(HDG _).mono ?_;rintro e w' ⟨rfl,rfl⟩;go_wp2;go_ret;exact⟨rfl,HO3⟩
  have hans:ans=true:=by rw[uh HFE,qX hv8];rfl
  have hvI:((As l 0:Z) !=118)=true:=by rw[rS];omega
  subst hans;clear HFE hv8;generalize As l 0=c at*;rcases hor with h0|⟨h0,h1⟩
  .go_wp2_with fail;refine(HDG _).mono ?_;rintro e w' ⟨rfl,rfl⟩;go_wp2;go_ret;exact⟨rfl,HO3⟩
  go_wp2_with fail;refine(HDG _).mono ?_;rintro e w' ⟨rfl,rfl⟩;go_wp2;go_ret;exact⟨rfl,HO3⟩
 have hans:decide (l=vm)=ans:=by rw[uh HAN,uh HEF,rc h01]
 rw[hans] at f2;rw[qX (λh=>h01 (.inl h))] at f0;rw[qX (λh=>h01 (.inr h))] at f1;clear hans HAN HEF HEW HPR HVE h01;go_wp2;go_ret;exact⟨rfl,HO3⟩):p:=h
def yU{p:Prop}(h:p:=by
 go_wp2;go_ret;exact⟨rfl,rfl⟩):p:=h
def yV{p:Prop}(h:p:=by
 go_wp2_with fail;refine(HLO _).mono ?_;rintro r w6 ⟨rfl,ho6⟩;have HO6:=Af (Ag.trans (uh HO5) ho6);clear HLO ho6 HO5;go_wp2;go_loopw [9,10] (λy _ wx=> ∃k:N,k<=i/\y=I Q k/\Hid (∀j,j<k->JC (its.getD j BG).name nm=false)/\Hid (Al w wx)) (λy _ _=>i- (intOf y).toNat)
 .exact ⟨0,Aa,rfl,λj h=>Aa,HO6⟩
 obtain⟨k,hk,rfl,HB,HO⟩:=hrel;clear HO6;have HCW:=Af (HCELL wr (uh HO));by_cases hkl:k<i
 .have hklI:(k:Z)<(i:Z):=Aa;obtain⟨hck,hslk,hzk⟩:=HKC k Aa wr (uh HO);have HC:=Af (λW=>Ya (its.getD k BG).name nm Aa Aa W);have HB2:Hid (JC (its.getD k BG).name nm=false-> ∀j,j<k+1->JC (its.getD j BG).name nm=false):=λh j hjk=>by
   by_cases e:j=k
   .subst e;exact h
   exact HB j Aa
  have HF5:Hid (JC (its.getD k BG).name nm=true->Dx f all it=5):=λh=>by
   rw[uh HDE,rd];rw[sc];exact⟨(its.getD k BG).name,rT.2 ⟨its.getD k BG,RC its i k hkl Aa,rfl⟩,h⟩
  generalize JC (its.getD k BG).name nm=cl at*;generalize(its.getD k BG).name=z at*;generalize p++z=pz at*;clear HDE;go_wp2_with fail;refine(HC _).mono ?_;rintro r w5 ⟨rfl,ho5⟩;have HO5:=Af (HO.trans ho5);clear HC ho5 hck hslk HCW HO;cases cl with
  |true=>
   have hd:=HF5 rfl;have HA:=Af ((HFT (by rw[hd];decide)).trans hd);clear HFT HNX HF5 HB2 hd;go_wp2;go_ret;exact⟨by rw[uh HA];rfl,HO5⟩
  |false=>
   have HB3:=Af (HB2 rfl);clear HB2 HF5;go_wp2;go_roundw
   .exact ⟨k+1,Aa,by go_num,HB3,HO5⟩
   exact Ae
 have hklI:¬(k:Z)<(i:Z):=Aa;have hke:k=i:=Aa;subst hke;have HNC:Hid (((its.take k).map It.name).any (λn=>JC n nm)=false):=by
  unfold Hid;rw[tn];intro x hx;obtain⟨y,hy,rfl⟩:=rT.1 hx;obtain⟨j,hj,rfl⟩:=sH hy;rw[rY] at hj;have:=HB j Aa;rw[qT,qY Aa] at this;rw[yi];show ¬JC its[j].name nm=true;rw[show JC its[j].name nm=false from this];decide
 have HDN:Hid (Dx f all it=if Bu nm<sz then 1 else if 16000- all<sz then 1 else 0):=by
  unfold Hid;rw[uh HDE,uh HNC];rfl
 obtain⟨lg,hlg⟩: ∃lg,decide (Bu nm<sz)=lg:=⟨_,rfl⟩;have HTL:=Af (λW=>MT nm sz W);rw[hlg] at HTL;clear HB HDE HNC;have hc4:=HCW.2;go_wp2_with fail;refine(HTL _).mono ?_;rintro r wt ⟨rfl,rfl⟩;clear HTL;cases lg with
 |true=>
  have hd:=uh HDN;rw[rd (rQ hlg)] at hd;have HA:=Af ((HFT (by rw[hd];decide)).trans hd);clear HFT HNX hd hlg HDN;go_wp2;go_ret;exact⟨by rw[uh HA];rfl,HO⟩
 |false=>
  have hd:=uh HDN;rw[rc (uz hlg)] at hd;clear hlg HDN;by_cases hal:16000- all<sz
  .rw[rd hal] at hd;have HA:=Af ((HFT (by rw[hd];decide)).trans hd);have halI:(16000:Z)<(all:Z)+(sz:Z):=Aa;clear HFT HNX hd;go_wp2;go_ret;exact⟨by rw[uh HA];rfl,HO⟩
  rw[rc hal] at hd;have halI:¬(16000:Z)<(all:Z)+(sz:Z):=Aa;obtain⟨hn1,hn2⟩:=HNX hd;have HN1:=Af hn1;have HN2:=Af hn2;clear HFT HNX hd hn1 hn2;go_wp2;go_roundw
  .exact ⟨k+1,all+sz,GR f nm,Aa,by rw[sO],by go_num,HN1,HN2,HO⟩
  exact Ae):p:=h
def yW{p:Prop}(h:p:=by
 have HCASE:=Af HCASE;have hbx:=rh w (γ #[G nm,I Q 8,I Q (ck:Z),I Q (pk:Z),I Q (ln:Z),G sp] 172);have HA:Hid (Al w (w.alloc (γ #[G nm,I Q 8,I Q (ck:Z),I Q (pk:Z),I Q (ln:Z),G sp] 172))):=(Ag.refl _ w).alloc _;have hc: ∀j u,(#[G nm,I Q 8,I Q (ck:Z),I Q (pk:Z),I Q (ln:Z),G sp]:Array β)[j]? =J u->(w.alloc (γ #[G nm,I Q 8,I Q (ck:Z),I Q (pk:Z),I Q (ln:Z),G sp] 172)).cell? ⟨w.heap.size,j,O⟩=J u:=λj u h=>by rw[qV _ _ j _ _ (0,0) hbx];exact h
 have d1:=hc 1 _ rfl;have d2:=hc 2 _ rfl;have d3:=hc 3 _ rfl;have d4:=hc 4 _ rfl;have d5:=hc 5 _ rfl;clear hc hbx;go_in;go_wp2_with fail;generalize w.alloc (γ #[G nm,I Q 8,I Q (ck:Z),I Q (pk:Z),I Q (ln:Z),G sp] 172)=W0 at*;refine(HINF _).mono ?_;rintro r w1 ⟨rfl,ho1⟩;have HOX:=Af (HA.trans ho1);have e4:=Ao ho1 d4;have e5:=Ao ho1 d5;clear d1 d2 d3 d4 d5 ho1 HINF;go_wp2;go_ret2;exact⟨by rw[uh HANS,<-uh HCASE];rfl,HOX⟩):p:=h
def yX{p:Prop}(h:p:=by
 clear H1' H2' H3;have HSP:=Af (fg a Aa (w1.drewN nn) (HM.old ((Ag.refl _ w1).drewN nn)));go_wp2_with fail;refine HSP.mono ?_;rintro e W ⟨rfl,ho,hlt,hc⟩;have HO:Hid (Al w1 W):=((Ag.refl _ w1).drewN nn).trans ho;have HC:=Af hc;clear ho hc hlt HSP;generalize(w1.drewN nn).heap.size=g at*;generalize Cw a=L at*;by_cases h3:L.length=3
 .have h3I:(L.length:Z)=3:=Aa;have HN3:=Af h3;have hp1:0<L.length:=Aa;have hc0:=HC 0 hp1;have hz:L.getD 0 ⟨#[]⟩=L[0]:=by rw[qT,qY hp1];rfl
  rw[hz] at HD2;clear hz;generalize hL0:L[0]=z0 at*;clear hL0;clear h3;go_wp2_with fail;go_loop [10,37] (λ_ x=> ∃i:N,i<=L.length/\x=I Q i/\Hid (∀j (h:j<L.length),j<i->DK L[j]=true)) (λ_ x=>L.length- (intOf x).toNat)
  .exact ⟨0,Aa,rfl,λj _ h=>Aa⟩
  obtain⟨i,hi,rfl,HT⟩:=hrel;by_cases hil:i<L.length
  .have hilI:(i:Z)<(L.length:Z):=Aa;have hcr:=HC i hil;have HE:=Af (Rj L[i] (rz (HLE _ (ro hil)) Aa) W);cases hel:DK L[i] with
   |true=>
    rw[hel] at HE;have HT' :Hid (∀j (h:j<L.length),j<i+1->DK L[j]=true):=by
     intro j h h2;by_cases e:j=i
     .subst e;exact hel
     exact HT j h Aa
    clear hel;generalize L[i]=z at*;go_wp2_with fail;refine HE.mono ?_;rintro e w' ⟨rfl,rfl⟩;clear HE;go_wp2_with fail;go_round
    .exact ⟨i+1,Aa,by go_num,HT'⟩
    exact Ae
   |false=>
    rw[hel] at HE;have hans:ans=none:=by
     have:L.all DK=false:=by
      rw[tG];exact⟨L[i],ro hil,by rw[hel];exact λh=>by cases h⟩
     rw[uh HD2,rc (λh=>by rw[this] at h;cases h.2)]
    subst hans;clear hel;generalize L[i]=z at*;go_wp2_with fail;refine HE.mono ?_;rintro e w' ⟨rfl,rfl⟩;clear HE;go_wp2;go_ret2;exact⟨rfl,HO⟩
  have hilI:¬(i:Z)<(L.length:Z):=Aa;have hall:L.all DK=true:=by
   rw[rV];intro x hx;obtain⟨j,hj,rfl⟩:=sH hx;exact HT j hj Aa
  have hans:ans=J z0:=by rw[uh HD2,rd ⟨HN3,hall⟩]
  subst hans;clear hall;go_wp2;go_ret2;exact⟨rfl,HO⟩
 have h3I:¬(L.length:Z)=3:=Aa;have hans:ans=none:=by rw[uh HD2,rc (λh=>h3 h.1)]
 subst hans;go_wp2;go_ret2;exact⟨rfl,HO⟩):p:=h
def yY{p:Prop}(h:p:=by
 go_ret;exact⟨rfl,rfl⟩):p:=h
def yZ{p:Prop}(h:p:=by
 have HNW:=Af (Ej (wr:=wr) (n:=0));have HOWA:Hid ((wr.alloc (γ #[I Q 0] 3)).ownsRow w.heap.size 3 1 (K ao2 (n+j) cap2) (n+j) (Ar (l++List.replicate j 0))):=HOWN.alloc _;have HSZ:Hid (w.heap.size<=(wr.alloc (γ #[I Q 0] 3)).heap.size):=by have:=HO.size;unfold Hid;simp only[rr];omega
 have HRA:=Af (HRD.kept ((Ag.refl (λ_=>False) wr).alloc (γ #[I Q 0] 3)) (λx=>x));have HNE:=Af (λb hb=>EX (uh HOWA) (b:=b) hb (uh HRA));go_wp2_with (at_builtin;refine wpList_append_lies _ rfl (.tmp 75) (.tmp 77) 33 rfl w.heap.size 3 i0 (I Q 0) 1 8 underlying33 hi0 hz0 hz1 hz2 rfl Aa (K ao2 (n+j) cap2) (n+j) _ rfl (uh HOWA) ⟨wr.heap.size,0,O⟩ 1 1 [I Q 0] rfl rfl (uh HNW) (by intro u hu;simp at hu;subst hu;rfl) Aa (by unfold maxLen;omega) Aa (uh HSZ) _ rfl ?_;intro g2 cap3 w3 ho3 hg3 hl3 hlt3;have HO3:=Af ho3;have HG3:=Af hg3;have HB:=Af (BP (uh HOWA));clear ho3 hg3 hl3);go_roundw
 .refine ⟨j+1,J ⟨g2,0,O⟩,cap3,Aa,by rw[sM],by go_num, ?_, ?_, ?_⟩
  .have e:Ar (l++List.replicate (j+1) 0)=Ar (l++List.replicate j 0)++[I Q 0]:=by rw[tM,<-rm];simp[Ar]
   rw[e];exact HO3
  .exact (HG3.block g HRA.lt (λhh=>HNE g hh.symm rfl)).trans (uh HRA)
  exact(HO.alloc _).grown (uh HG3) (λq hq e=>absurd hq (by have:=HB q e;omega))
 exact Ae):p:=h
def za{p:Prop}(h:p:=by
 go_wp2_with (go_at_call 287;refine HFT.mono ?_;rintro r w5 ⟨rfl,rfl⟩);refine(HFA _ (uh HRD)).mono ?_;rintro r w6 ⟨rfl,hr6,ho6⟩;rw[(uh HNN).2] at hr6;have HR6:=Af hr6;have HO6:=Af (HO.trans ho6);clear hr6 ho6;have HRE:=Af (NZ g s a' (K ao l.length cp) 2 Aa (K (J ⟨gO+1,0,O⟩) 19 19) (M+F) w6 (uh HR6));rw[sO] at HRE;have hce:w6.cell? ⟨g,3,O⟩=J (I Q 2):=HR6.c3;go_wp2_with (go_at_call 288;refine HRE.mono ?_;rintro r w7 ⟨rfl,rfl⟩);refine rU (tW rfl _ _ _) rfl ?_;exact⟨rfl,HO6.of_g hSg,_,l,2,⟨ha',hl,.inr ⟨DU l HNN.1,Aa⟩⟩,S,St.next (uh HR) (uh HOW) (uh HSA) (uh HO6) (uh HR6),λ_ _ h=>h⟩):p:=h
def zb{p:Prop}(h:p:=by
 go_roundw
 .obtain ⟨ao9,cp9,hr9,_⟩:=uh HST9;exact⟨AU s a,e9,rfl,hr9.c3,⟨a9,l9,VU.next (uh HEQ) hroom (by rw[uh HKR];exact HSR9),HST9⟩,HO9⟩
 obtain⟨ao9,cp9,hr9,_⟩:=uh HST9;rw[uh HM3,uh HM1,AP hr9.c3,AP hr9.c1,rd rfl];have hle9:=HSR9.1;split
 .rename_i he9;have hgt:a<a9:=by
   rcases HSR9.2.2 with⟨h1,_⟩|⟨_,h⟩
   .exact (Fo ((rc hroom).trans (HKR.trans h1))).1
   exact absurd he9 h
  omega
 omega):p:=h
def zd{p:Prop}(h:p:=by
 subst hans;clear HD;go_in;go_wp2_with fail;generalize hW:w.alloc (γ #[G nm,.bool false,G dt] 39)=W at*;have HR0:=Af (Ag.refl (λ_=>False) W);clear hW;refine(H1 W (uh HM)).mono ?_;rintro e w1 ⟨rfl,ho1⟩;have HR1:=Af (Ag.trans (uh HR0) ho1);have HM1:=Af (HM.old (uh HR1));have HG1:=Af (HG.old (uh HR1));have hcc1:=HCK w1 (uh HR1);have HF1:=Af (Ag.trans (uh HO) (uh HR1));clear ho1;go_wp2_with fail;refine(H2 w1 (uh HG1)).mono ?_;rintro e w2 ⟨rfl,ho2⟩;have HR2:=Af (Ag.trans (uh HR1) ho2);have HM2:=Af (HM.old (uh HR2));have HG2:=Af (HG.old (uh HR2));have hcc2:=HCK w2 (uh HR2);have HF2:=Af (Ag.trans (uh HO) (uh HR2));clear ho2;go_wp2_with fail;refine(H3 w2 (uh HM2)).mono ?_;rintro e w3 ⟨rfl,ho3⟩;have HR3:=Af (Ag.trans (uh HR2) ho3);have HM3:=Af (HM.old (uh HR3));have HG3:=Af (HG.old (uh HR3));have hcc3:=HCK w3 (uh HR3);have HF3:=Af (Ag.trans (uh HO) (uh HR3));clear ho3;go_wp2_with fail;refine(H4 w3 (uh HM3)).mono ?_;rintro e w4 ⟨rfl,ho4⟩;have HR4:=Af (Ag.trans (uh HR3) ho4);have HM4:=Af (HM.old (uh HR4));have HG4:=Af (HG.old (uh HR4));have hcc4:=HCK w4 (uh HR4);have HF4:=Af (Ag.trans (uh HO) (uh HR4));clear ho4;go_wp2;go_ret;exact⟨rfl,HF4⟩):p:=h
def zf{p:Prop}(h:p:=by
 go_wp2_with fail;refine Ai (S:=λX=>X.cell? ⟨b,0,O⟩=J (G M)/\X.cell? ⟨b,1,O⟩=J (G V)/\X.cell? ⟨b,2,O⟩=J (G A)/\Al W0 X) (L:=9) Ab ?_;refine tk 0 10 (δ (J ⟨b,0,O⟩)) 54 HSW ?_;refine tk 1 10 (δ (J ⟨b,0,O⟩)) 55 HSW ?_;refine tk 2 10 (δ (J ⟨b,0,O⟩)) 56 HSW ?_;refine tk 3 10 (G M) 57 HSW ?_;refine tk 4 10 (δ (J ⟨b,0,O⟩)) 58 HSW ?_;refine tk 5 10 (δ (J ⟨b,0,O⟩)) 59 HSW ?_;refine tk 6 10 (δ (J ⟨b,1,O⟩)) 60 HSW ?_;refine tk 7 10 (G V) 61 HSW ?_;refine Ah (i:=8) Ab ?_;refine ri rfl (λK' hK=> ?_);go_simp;refine HM5.mono ?_;rintro r w6 ⟨rfl,ho⟩;have hs6:=HS3 _ _ HSW ho;refine hK _ _ ⟨λ_=>hs6, ?_⟩;clear hK;refine Ah (i:=9) Ab ?_;refine ri rfl (λK' hK=> ?_);go_simp;refine hK _ _ ⟨λh=>absurd rfl h, ?_⟩;clear hK;refine Am Ab ?_;have HX:Hid (YH w1 w6 b (c+1) s):=Exists.intro s4 (Exists.intro _ (Exists.intro _ (Exists.intro _ ⟨⟨s.ar,HB4,.inl rfl⟩,HL5.old (by have:=hs6.2.2.2;rw[hW0] at this;exact this)⟩)));clear hs6 ho HM5 HSW HS3;go_wp2;go_ret;exact⟨rfl,HX⟩):p:=h
def zg{p:Prop}(h:p:=by
 have HOW:Hid (Al w0 (wr.drewN nq)):=HO.drewN _;clear HO;generalize wr.drewN nq=W at*;obtain⟨x1,x2,hs1,hs2,hsh⟩:=pC HU.1 k hk;have HSH:=Af hsh;have HF3:=Af (HX k hk (uh HB) (uh HB2));clear hsh HX HB HB2;go_wp2_with (at_builtin;first
  |(refine BQ rfl (.tmp 32) (.tmp 35) rfl _ _ [] (l.take k) rfl rfl (Nx.start (uh HOW)) (HSH W (uh HOW)).1 (by simp;omega) ?_;intro v1 w1 hn1 hq;clear hq;obtain⟨d1,d2⟩:=HC w1 hn1.2.2;have HN1:=Af hn1;clear hn1)
  |(refine BQ rfl (.tmp 37) (.tmp 42) rfl _ _ (l.take k) [(xn,xd)] rfl rfl (HN1.alloc _) (.inr ⟨⟨w1.heap.size,0,O⟩,1,rfl,AB w1 [G xn,G xd] 50⟩) (by simp;omega) ?_;intro v2 w2 hn2 hq;clear hq;have HN2:=Af hn2;clear hn2 d1 d2)
  |(refine BQ rfl (.tmp 44) (.tmp 47) rfl _ _ (l.take k++[(xn,xd)]) (l.drop k) rfl rfl (uh HN2) (HSH w2 HN2.2.2).2 (by simp;omega) ?_;intro v3 w3 hn3 hq;clear hq;obtain⟨ao3,cap3,hv3⟩:=hn3.form;subst hv3;have HN3:=Af hn3;clear hn3))
 go_roundw
 .exact ⟨i+1,l.take k++[(xn,xd)]++l.drop k,ao3,cap3,Aa,by go_num,by congr 1;simp;omega,HN3.base (uh HU),HF3⟩
 exact Ae):p:=h
def zh{p:Prop}(h:p:=by
 clear HDF HFT HNX;go_upto_region 6 with fail;generalize wr.alloc (γ #[G nm,I .u32 (wy:Z),I .u32 (ck:Z),I .u32 (sz:Z),G pk] 131)=W at*;clear q0 q1 q2 q3 q4;have n0:=HI2.cells.1;have HFW:=Af (H1 W (HM.old (uh HO2)));go_wp2_with fail;refine HFW.mono ?_;rintro r w1 ⟨rfl,ho1⟩;have HI3:=Af (HI2.kept ho1 (λx=>x));have HG3:=Af (HG2.old ho1);have HO3:=Af (Ag.trans (uh HO2) ho1);have n1:=HI3.cells.1;clear HFW ho1 n0 HI2 HG2 HO2;go_wp2_with fail;refine(H2 w1).mono ?_;rintro r w2 ⟨rfl,ho2⟩;have HI4:=Af (HI3.kept ho2 (λx=>x));have HG4:=Af (HG3.old ho2);have HO4:=Af (Ag.trans (uh HO3) ho2);have n2:=HI4.cells.1;clear ho2 n1 HI3 HG3 HO3;go_wp2_with fail;refine(H3 (HSZ trivial) w2 (uh HG4)).mono ?_;rintro r w3 ⟨rfl,ho3⟩;have HI5:=Af (HI4.kept ho3 (λx=>x));have HG5:=Af (HG4.old ho3);have HO5:=Af (Ag.trans (uh HO4) ho3);have n3:=HI5.cells.1;have m3:=HI5.cells.2.2.2.1;clear ho3 n2 HI4 HG4 HO4;go_wp2_with fail;go_quiet ((go_at_call 156;exact Calls.quiet_of_same (H4 _)));go_wp2;go_ret;exact⟨by rw[uh HANS];rfl,HO5.drewN _⟩):p:=h
def zi{p:Prop}(h:p:=by
 have HO2:=Af ho2;clear ho2 HNC;rcases hcs with⟨hle,rfl,hup⟩|⟨hle,rfl,hup⟩
 .have HUP:=Af hup;have HLE:=Af hle;clear hup hle;go_wp2;go_ret2;exact⟨HO2,.inl ⟨HLE,HUP,Lw (rI (Value.int Q) (by rw[hnn];omega)) rfl⟩⟩
 have HUP:=Af hup;have HLE:=Af hle;clear hup hle;go_wp2;go_ret2;exact⟨HO2,.inr ⟨HLE,HUP,_,rfl⟩⟩):p:=h
def zj{p:Prop}(h:p:=by
 go_wp2;go_ret;exact⟨rfl,HO⟩):p:=h
def zk{p:Prop}(h:p:=by
 clear HFAIL HNEXT HITN;go_wp2_with fail;refine(Vway _).mono ?_;rintro r w1 ⟨rfl,rfl⟩;go_wp2_with fail;refine(Vck _).mono ?_;rintro r w1 ⟨rfl,rfl⟩;go_wp2_with fail;refine(Vpk _).mono ?_;rintro r w1 ⟨rfl,rfl⟩;go_wp2_with fail;refine(Vln _).mono ?_;rintro r w1 ⟨rfl,rfl⟩;go_wp2_with fail;refine(Vk _).mono ?_;rintro r w5 ⟨rfl,rfl⟩;go_wp2_with fail;refine(Vfr _).mono ?_;rintro r w6 ⟨rfl,rfl⟩;go_wp2;go_ret2;exact⟨HN.2.2.alloc _,by rw[uh HR];exact⟨_,rfl⟩⟩):p:=h
def zm{p:Prop}(h:p:=by
 rw[hel] at HE;have HT' :Hid (∀j (h:j<L.length),j<i+1->DK L[j]=true):=by
  intro j h h2;by_cases e:j=i
  .subst e;exact hel
  exact HT j h Aa
 clear hel;generalize L[i]=z at*;go_wp2_with fail;refine HE.mono ?_;rintro e w' ⟨rfl,rfl⟩;clear HE;go_wp2_with fail;go_round
 .exact ⟨i+1,Aa,by go_num,HT'⟩
 exact Ae):p:=h
def zo{p:Prop}(h:p:=by
 obtain⟨i,hi,rfl,HI⟩:=hrel;by_cases hlt:i<s.size
 .have hltI:(i:Z)<(s.size:Z):=Aa;have hbt:=AC (s:=s) (k:=i) hlt;have hbl:=Bf s i;have HC:=Af (HF (As s i) w hbl);cases hp:BR (As s i) with
  |true=>
   rw[hp] at HC;have HN:Hid (∀j,j<i+1->BR (As s j)=true):=λj hj=>by
    by_cases e:j<i
    .exact HI j e
    have:j=i:=Aa;subst this;exact hp
   clear hp HB HG HF;generalize As s i=b at*;go_wp2_with fail;refine HC.mono ?_;rintro e w' ⟨rfl,rfl⟩;go_wp2_with fail;go_round
   .exact ⟨i+1,Aa,by go_num,HN⟩
   exact Ae
  |false=>
   rw[hp] at HC;have HR:=Af (HB i hlt hp);clear hp HB HG HF;generalize As s i=b at*;go_wp2_with fail;refine HC.mono ?_;rintro e w' ⟨rfl,rfl⟩;go_wp2;go_ret;exact⟨by rw[uh HR];rfl,rfl⟩
 have hltI:¬(i:Z)<(s.size:Z):=Aa;have HR:=Af (HG (λj hj=>HI j Aa));have hte:=CY s;clear HB HG HF HI;go_wp2;go_ret;exact⟨by rw[uh HR];simp,rfl⟩):p:=h
def zp{p:Prop}(h:p:=by
 unfold Df at*;go_in;go_wp2_with fail;refine HC.mono ?_;rintro e w2 ⟨rfl,hex⟩;have HX:=Af hex;clear hex HC;go_wp2;go_ret;exact⟨rfl,HX⟩):p:=h
def zq{p:Prop}(h:p:=by
 refine tk 2 6 (δ (J ⟨w.heap.size,0,O⟩)) 54 hsw ?_;refine tk 3 6 (δ (J ⟨w.heap.size,2,O⟩)) 55 hsw ?_;refine tk 4 6 (I Q (ck:Z)) 56 hsw ?_;refine Ah (i:=1) Ab ?_;refine ri rfl (λK' hK=> ?_);go_simp;refine(HCK _).mono ?_;rintro r wz ⟨rfl,rfl⟩;refine hK _ _ ⟨λ_=>hsw, ?_⟩;clear hK;refine Ah (i:=5) Ab ?_;refine ri rfl (λK' hK=> ?_);by_cases hcc:cs=ck
 .have hccI:((cs:Z) !=(ck:Z))=false:=by rw[hcc];simp
  have hans:=Af (HGOOD hcc);clear hcc;go_simp;refine hK _ _ ⟨λh=>absurd rfl h, ?_⟩;clear hK;refine Am Ab ?_;go_wp2;go_ret2;exact⟨by rw[uh HANS,uh hans];rfl,HOX.drew⟩
 have hccI:((cs:Z) !=(ck:Z))=true:=by rw[rS];omega
 have hans:=Af (HBADC hcc);clear hcc;go_simp;refine hK _ _ ⟨λh=>absurd rfl h, ?_⟩;clear hK;refine Am Ab ?_;go_wp2;go_ret2;exact⟨by rw[uh HANS,uh hans];rfl,HOX.drew⟩):p:=h
def zr{p:Prop}(h:p:=by
 cases lg with
 |true=>
  rw[rd (rQ hlg)] at hd;have ha:=Af (HFT2 1 w6 hd Ac);clear HFT2 HTK2 hd hlg;go_wp2_with fail;go_ret3;exact⟨HO6,ha⟩
 |false=>
  rw[rc (uz hlg)] at hd;clear hlg;by_cases h60:60<fs.length+1
  .rw[rd h60] at hd;have ha:=Af (HFT2 6 w6 hd Ac);have h60I:(60:Z)<(fs.length:Z)+1:=Aa;clear HFT2 HTK2 hd;go_wp2_with fail;go_ret3;exact⟨HO6,ha⟩
  rw[rc h60] at hd;have h60I:¬(60:Z)<(fs.length:Z)+1:=Aa;by_cases hal:16000<all+dt.size
  .rw[rd hal] at hd;have ha:=Af (HFT2 1 w6 hd Ac);have halI:(16000:Z)<(all:Z)+(dt.size:Z):=Aa;clear HFT2 HTK2 hd;go_wp2_with fail;go_ret3;exact⟨HO6,ha⟩
  rw[rc hal] at hd;have halI:¬(16000:Z)<(all:Z)+(dt.size:Z):=Aa;have HR:=Af (HTK2 hd _ _ (uh HD6));clear HFT2 HTK2 hd;go_wp2;go_roundw
  .exact ⟨i+1,Aa,by go_num,by rw[sO] at HR;exact HR⟩
  exact Ae):p:=h
def zt{p:Prop}(h:p:=by exact(HO.alloc _).grown (uh HG3) (λq hq e=>absurd hq (by have:=HB q e;omega))):p:=h
def zu{p:Prop}(h:p:=by
 go_in;go_wp2_with fail;refine HB.mono ?_;rintro r w1 ⟨rfl,ho1⟩;have HI1:=Af (HI.kept ho1 (λx=>x));have HO1:=Af (Ag.trans (uh HO) ho1);obtain⟨d0,d1,d2,d3,d4⟩:=HI1.cells;simp only at d0 d1 d2 d3 d4;clear ho1 HB c0 c1 c2 c3 c4 HI HO;go_wp2;go_ret2;exact⟨rfl,HO1⟩):p:=h
def zv{p:Prop}(h:p:=by
 generalize As z k=c at*;go_wp2_with fail;refine HSm.mono ?_;rintro e w2 ⟨rfl,rfl⟩;go_wp2_with fail;refine HDg.mono ?_;rintro e w3 ⟨rfl,rfl⟩;go_wp2_with fail;go_round
 .exact ⟨k+1,Aa,by go_num,HN⟩
 exact Ae):p:=h
def zw{p:Prop}(h:p:=by
 go_wp2_with fail;refine HFT1.mono ?_;rintro r w7 ⟨rfl,rfl⟩;go_wp2_with fail;refine HFT2.mono ?_;rintro r w7 ⟨rfl,rfl⟩;go_wp2_with fail;refine HFA6.mono ?_;rintro r w8 ⟨rfl,hr8,ho8⟩;have hO8:=HO6.trans ho8;go_wp2_with fail;refine rU (tW rfl _ _ _) rfl ?_;exact⟨rfl,hO8.of_g hSg,a6,l,2,⟨ha6,hl,.inr ⟨DU l (uh HNO),Aa⟩⟩,S,St.next (uh HR) (uh HOW) (uh HSA) hO8 hr8,λ_ _ h=>h⟩):p:=h
def zx{p:Prop}(h:p:=by
 rw[hp] at HC;have HR:=Af (HB i hlt hp);clear hp HB HG HF;generalize As s i=b at*;go_wp2_with fail;refine HC.mono ?_;rintro e w' ⟨rfl,rfl⟩;go_wp2;go_ret;exact⟨by rw[uh HR];rfl,rfl⟩):p:=h
def zy{p:Prop}(h:p:=by
 go_wp2_with fail;refine(HP1 _).mono ?_;rintro r w1 ⟨rfl,rfl⟩;go_wp2_with fail;refine H1.mono ?_;rintro r w2 ⟨rfl,ho2⟩;have hA:Al w2 (w2.alloc (γ #[G nm,I .u32 (wy:Z),I .u32 (ck:Z),I .u32 (sz:Z),G pk] 131)):=(Ag.refl _ w2).alloc _;have HI2:Hid (Fv (w2.alloc (γ #[G nm,I .u32 (wy:Z),I .u32 (ck:Z),I .u32 (sz:Z),G pk] 131)) w2.heap.size ⟨nm,wy,ck,sz,pk⟩):=rh w2 _;have HOW2:=Af (Ag.trans ho2 hA);clear hA ho2;have hlc:=HCL _ (uh HOW2);have hnc:=HI2.cells.1;go_wp2_with fail;generalize w2.alloc (γ #[G nm,I .u32 (wy:Z),I .u32 (ck:Z),I .u32 (sz:Z),G pk] 131)=W at*;go_quiet (fail);go_wp2;go_ret2;exact⟨(Ag.trans (uh HO) (uh HOW2)).drewN _,by rw[uh HRF];rfl⟩):p:=h
def zA{p:Prop}(h:p:=by
 go_wp2_with fail;refine HFA.mono ?_;rintro r w4 ⟨rfl,hr4,ho4⟩;have HO4:=Af (HO2.trans ho4);have hr4' :Rd w4 g s a2 (K ao l.length cp) 2:=hr4;have hc4:w4.cell? ⟨g,3,O⟩=J (I Q 2):=hr4'.c3;have HR4:=Af hr4';clear ho4 hr4 hr4' hc3';go_wp2_with fail;go_loop [4,5] (λi _=>i=I Q 0) (λ_ _=>0)
 .rfl
 subst hrel;by_cases hnn:0<n
 .have hnI:(0:Z)<(n:Z):=Aa;go_wp2_with fail;go_end0;exact⟨rfl,HO4.of_g hSg,a2,l,2,⟨ha2,hl,.inr ⟨HRW,Aa⟩⟩,St.next (uh HR) (uh HOW) (uh HSA) (uh HO4) (uh HR4)⟩
 have hnI:¬(0:Z)<(n:Z):=Aa;go_wp2_with fail;go_end0;exact⟨rfl,HO4.of_g hSg,a2,l,2,⟨ha2,hl,.inr ⟨HRW,Aa⟩⟩,St.next (uh HR) (uh HOW) (uh HSA) (uh HO4) (uh HR4)⟩):p:=h
def zB{p:Prop}(h:p:=by
 clear hp HB HG HF;generalize As s i=b at*;go_wp2_with fail;refine HC.mono ?_;rintro e w' ⟨rfl,rfl⟩;go_wp2_with fail;go_round
 .exact ⟨i+1,Aa,by go_num,HN⟩
 exact Ae):p:=h
def zC{p:Prop}(h:p:=by
 have hltI:¬(i:Z)<(s.size:Z):=Aa;have HR:=Af (HG (λj hj=>HI j Aa));have hte:=CY s;clear HB HG HF HI;go_wp2;go_ret;exact⟨by rw[uh HR];simp,rfl⟩):p:=h
def zD{p:Prop}(h:p:=by
 go_wp2;go_ret;exact⟨rfl,HO⟩):p:=h
def zE{p:Prop}(h:p:=by
 obtain⟨_,hF,_⟩:=hch;obtain⟨_,⟨rfl,hz⟩|⟨b,c,cur,rfl,_⟩⟩:=hF
 .rw[hz];exact⟨O,0,rfl⟩
 exact⟨_,_,rfl⟩):p:=h
def zF{p:Prop}(h:p:=by
 go_wp2;go_ret;exact⟨rfl,HX⟩):p:=h
def zG{p:Prop}(h:p:=by
 have hA1:Al w1 (w1.alloc (.map #[] 0)):=(Ag.refl _ w1).alloc _;have hA2:Al (w1.alloc (.map #[] 0)) ((w1.alloc (.map #[] 0)).alloc (γ #[K O 0 0,.map (J w1.heap.size),I Q 0] Zi)):=(Ag.refl _ _).alloc _;have h:=rh (w1.alloc (.map #[] 0)) (γ #[K O 0 0,.map (J w1.heap.size),I Q 0] Zi);rw[rr] at h;exact⟨(ho1.trans hA1).trans hA2,⟨K O 0 0,⟨h,rF _ _ _ _,(Cc.made w1).old hA2⟩,(λb hb=>by cases hb)⟩,rF _ _ _ _,(λb hb=>by cases hb),⟨_,(hn1.old hA1).old hA2⟩,⟨by show(0:N)<=60;omega,rj _⟩,by have:=hn1.lt;omega⟩):p:=h
def zH{p:Prop}(h:p:=by
 have hilI:(i:Z)<(lf.length:Z):=Aa;obtain⟨g1,c1,e1, -,hc1⟩:=Bv.slice (HLA6.kept (uh HO) (λ_ _ x=>x)) Aa;obtain⟨g2,c2,e2, -,hc2⟩:=Bv.slice (HLB6.kept (uh HO) (λ_ _ x=>x)) Aa;injection e1 with e11 e12 e13;injection e2 with e21 e22 e23;subst e11 e13 e21 e23;obtain⟨p1,p2⟩:=hc1 i hil;obtain⟨r1,r2⟩:=hc2 i hil;clear hc1 hc2;generalize lf.getD i default=x at*;obtain⟨xn,xy⟩:=x;simp only at p1 p2 r1 r2;have hne:=pH xn (xy:Z);go_wp2_with fail;go_quiet (fail);go_wp2;go_roundw
 .exact ⟨i+1,Aa,by go_num,rfl,HO.drewN _⟩
 exact Ae):p:=h
def zI{p:Prop}(h:p:=by
 go_wp2;go_ret;exact⟨rfl,Ag.refl _ _⟩):p:=h
def zJ{p:Prop}(h:p:=by
 go_in;go_wp2_with fail;generalize w.alloc (γ #[I Q kd,I Q p,I Q q,G s,G t,x,y] 79)=W at*;generalize w.heap.size=ob at*;refine(HP _).mono ?_;rintro r w3 ⟨rfl,rfl⟩;clear HP;go_wp2_with fail;go_end0;exact⟨rfl,HNON⟩):p:=h
def zK{p:Prop}(h:p:=by
 go_wp2_with fail;go_round
 .exact ⟨i+1,Aa,by go_num,HN⟩
 exact Ae):p:=h
def zL{p:Prop}(h:p:=by
 go_wp2_with fail;refine HSm.mono ?_;rintro e w' ⟨rfl,ho'⟩;have hlk:=HLK w' ho';have HOA:Hid (∀o,Al W (w'.alloc o)):=λo=>(Ag.trans (uh HW) ho').alloc o
 clear ho' HSm HLK;go_wp2;go_ret;exact⟨rfl,Ag.trans (uh HO) (HOA _)⟩):p:=h
def zM{p:Prop}(h:p:=by
 refine ri rfl (λK' hK=> ?_);obtain⟨hx1,hx2,hx3⟩:=HSW;go_simp;refine hK _ _ ⟨λh=>absurd rfl h, ?_⟩;clear hK;refine Am Ab ?_;have HX:=Af (HFIN _ z ((Ag.refl _ w3).drew) hzb);clear HFIN;go_wp2_with fail;go_end0;exact⟨rfl,HX⟩):p:=h
def zN{p:Prop}(h:p:=by
 have hbI:(k:Z)- (n:Z)<(t:Z):=Aa;go_wp2_with fail;go_step3
 try simp only[Exit.jump]
 exact⟨rfl,rfl,rfl,HO2,by rw[uh HEQ];exact Ik (by rw[uh HLN];exact hlt) (MD (uh HD) (uh HTT) (by rw[uh HLN];exact hbig))⟩):p:=h
def zO{p:Prop}(h:p:=by
 have HCUT:=Af hle;clear hup2 hle;go_wp2_with fail;go_step3
 try simp only[Exit.jump]
 exact⟨rfl,rfl,rfl,HO2,by rw[uh HEQ];exact Ik (by rw[uh HLN];exact hlt) (MC (uh HD) (by rw[uh HBB];exact HCUT))⟩):p:=h
def zP{p:Prop}(h:p:=by
 go_in;go_wp2_with fail;refine(N1 _).mono ?_;rintro r w1 ⟨rfl,rfl⟩;go_wp2_with fail;refine(N2 _).mono ?_;rintro r w2 ⟨rfl,rfl⟩;go_wp2_with fail;refine(HCP _).mono ?_;rintro r w3 ⟨rfl,rfl⟩;go_wp2_with fail;refine(N3 _).mono ?_;rintro r w4 ⟨rfl,rfl⟩;go_wp2_with fail;refine rU (Cv results173 _ _ w.heap.size 131 _ (0,0) _ rfl (uh HZ) underlying131 rfl CC) rfl ⟨rfl,HO⟩):p:=h
def zQ{p:Prop}(h:p:=by
 rw[<-hqq];clear hqq;go_in;go_wp2_with fail;refine(HNM _ (uh HR)).mono ?_;rintro r w1 ⟨v,a',e',rfl,hnum,hr1,ho1⟩;have hvl:v<2^n:=hnum.1;rw[uh HPX] at hvl;have HN1:=Af hnum;have HR1:=Af hr1;have HO1:=Af ho1;clear hnum hr1 ho1;go_wp2_with (go_at_call 356;refine(HPW _).mono ?_;rintro r w2 ⟨rfl,rfl⟩);go_ret;exact⟨v,a',e',Bb (rI (Value.int Q) Aa),HN1,HR1,HO1⟩):p:=h
def zR{p:Prop}(h:p:=by
 generalize JF s v a t=ans at*;generalize Ci s v a=um at*;obtain⟨ul,un⟩:=um;simp only at*;have hzI:((un:Z) !=0)=true:=by rw[rS];omega
 have hzJ:¬(un:Z)=0:=Aa;go_in;go_wp2_with fail;refine H1.mono ?_;rintro r w1 ⟨ho1,hr1⟩;rcases hr1 with⟨e0, -⟩|⟨-,rfl⟩
 .exact absurd e0 hz
 have HO1:=Af ho1;clear H1 ho1;go_wp2;go_ret;exact⟨HO1,by rw[uh HE];rfl⟩):p:=h
def zS{p:Prop}(h:p:=by
 have hlt:=GP c hn;have hw3:IntKind.i64.wrap ((Eb c n:N):Z)=((Eb c n:N):Z):=Av _ Aa;have HP:=Af e1;generalize Eb c n=p at*;go_in;go_wp2;go_ret;refine⟨?_,rfl⟩;congr 2):p:=h
def zT{p:Prop}(h:p:=by
 intro k ok hk hki hu hno;refine hfree k ok hk hki ?_ hno;by_cases hjk:j=k
 .subst hjk;exact hun
 rw[xO true hjk] at hu;exact hu):p:=h
def zU{p:Prop}(h:p:=by
 go_in;go_wp2_with fail;refine H1.mono ?_;rintro r w1 ⟨rfl,ho1⟩;have HI1:=Af (HI.kept ho1 (λx=>x));have HO1:=Af (Ag.trans (uh HO) ho1);have d2:=HI1.cells.2.2.1;simp only at d2;clear H1 ho1 c0 c1 c2 c3 c4 HI HO;go_wp2_with fail;go_quiet ((go_at_call 71;exact Calls.quiet_of_same (HC _)));have HO2:=Af (HO1.drewN nq);go_wp2;go_ret2;exact⟨rfl,HO2⟩):p:=h
def zV{p:Prop}(h:p:=by
 go_wp2_with fail;refine rU (Cv results173 _ _ w.heap.size 131 _ (0,0) _ rfl (uh HZ) underlying131 rfl CC) rfl ⟨rfl,HO⟩):p:=h
def zW{p:Prop}(h:p:=by
 have hz:=uh HZ1;go_wp2_with (refine sF rfl 112 (.tmp 2) (.tmp 35) rfl w.heap.size #[δ O,δ O] rfl rfl 112 _ hz BF rfl (DZ _ _) ?_);refine rU (Cl results148 _ _ w.heap.size 112 _ (0,0) _ rfl (sw w1 w.heap.size _ _ _ _ hz) underlying112 rfl BF) rfl ⟨?_,.inr ⟨HT,rfl⟩⟩;exact HO1.setRow _ (λh=>absurd h (st _)) _):p:=h
def zX{p:Prop}(h:p:=by
 subst hans;clear HD;go_in;go_wp2_with fail;refine H1.mono ?_;rintro e w1 ⟨rfl,ho1⟩;have HO1:=Af ho1;clear ho1;go_wp2_with fail;refine(H2 w1 (HM.old (uh HO1))).mono ?_;rintro e w2 ⟨rfl,ho2⟩;have HO2:=Af (HO1.trans ho2);clear ho2;go_wp2_with fail;refine(H3 w2).mono ?_;rintro e w3 ⟨rfl,rfl⟩;go_wp2;go_ret2;exact⟨rfl,HO2⟩):p:=h
def zY{p:Prop}(h:p:=by
 obtain⟨hl,h|⟨b,cap,cur,hv,h1,hg,r⟩⟩:=h
 .exact ⟨hl,.inl h⟩
 exact⟨hl,.inr ⟨b,cap,cur,hv,h1,(ho.block b (qW.1 hg).1 (hs b (by rw[hv];rfl))).trans hg,r⟩⟩):p:=h
def zZ{p:Prop}(h:p:=by
 go_wp2_with (refine sF rfl 112 (.tmp 2) (.tmp 66) rfl w.heap.size #[δ O,δ O] rfl rfl 112 _ hz BF rfl (DZ _ _) ?_);refine rU (Cl results148 _ _ w.heap.size 112 _ (0,0) _ rfl (sw w3 w.heap.size _ _ _ _ hz) underlying112 rfl BF) rfl ⟨?_,.inr ⟨HT,rfl⟩⟩;exact(HO3.drewN _).setRow _ (λh=>absurd h (st _)) _):p:=h
def Ha{p:Prop}(h:p:=by
 refine⟨λh=>absurd (h ▸ hr) tC,λj hj=> ?_⟩;rcases Nat.decEq j i with hji|rfl
 .exact absurd (H.1 ▸ uB hj hji) tC
 exact hy.wpOp hi hS ⟨λ_=>hS,H⟩):p:=h
def Hb{p:Prop}(h:p:=by
 by_cases h1:su=32768
 .have hb1:((su:Z)==32768)=true:=by rw[tT];omega
  go_wp2;go_ret;exact⟨Bb (rI Value.bool (by show true=Ei L;rw[uh HFS];simp[h1])),rfl⟩
 have hb1:((su:Z)==32768)=false:=by rw[re];omega
 go_wp2;go_ret;exact⟨Bb (rI Value.bool (by show false=Ei L;rw[uh HFS];simp[h1])),rfl⟩):p:=h
def Hc{p:Prop}(h:p:=by
 have hz:=h.2.2.2.2.2.size;have hk: ∀j u,W.cell? ⟨w.heap.size,j,O⟩=J u->W'.cell? ⟨w.heap.size,j,O⟩=J u:=λj u hu=>(ho.cell (p:=⟨w.heap.size,j,O⟩) (rW hgl hz) (λe=>e)).trans hu
 exact⟨hk 0 _ h.1,hk 1 _ h.2.1,hk 2 _ h.2.2.1,hk 3 _ h.2.2.2.1,hk 4 _ h.2.2.2.2.1,h.2.2.2.2.2.trans ho⟩):p:=h
def Hd{p:Prop}(h:p:=by
 by_cases h:e2=0
 .have:=HOK h;rw[rd (by rw[uh HLN];exact hbig)] at this;subst h;exact⟨this,rfl⟩
 obtain⟨k1,k2⟩:=HBAD h;subst k2;exact⟨k1,rfl⟩):p:=h
def He{p:Prop}(h:p:=by
 go_wp2;go_ret;exact⟨rfl,HO2⟩):p:=h
def Hf{p:Prop}(h:p:=by
 go_wp2_with fail;go_round
 .exact ⟨i+1,Aa,by go_num,HT'⟩
 exact Ae):p:=h
def Hg{p:Prop}(h:p:=by
 obtain⟨k,fs,lf,a1,b1,a2,b2,e1,e2,f1,f2,l1,l2,hf,hl,g1,g2⟩:=HCQ.same hq2;obtain⟨rfl,rfl,rfl⟩:=Om e1;obtain⟨rfl,rfl,rfl⟩:=Om e2;refine⟨fs,lf,hf,hl,rfl,Au.old (Ol f1 (uh HTY) Ac) ho5,f2,Bv.kept (Ol l1 (uh HTY) Ac) ho5 (λ_ _ x=>x),l2,λg e=>rz (uh HSZ) (g1 g e),λg e=>rz (uh HSZ) (g2 g e)⟩):p:=h
def Hh{p:Prop}(h:p:=by
 intro j h h2;by_cases e:j=i
 .subst e;exact hel
 exact HT j h Aa):p:=h
def Hi{p:Prop}(h:p:=by exact h.new r (by rw[e];simp) k hk):p:=h
def Hj{p:Prop}(h:p:=by
 clear HFO hlk hl7 HLW;go_wp2_with fail;refine HLO.mono ?_;rintro r w8 ⟨rfl, -,s8,R8,hl8,hba8⟩;have HX:=Af hl8;have HBX:=Af (hba8.trans (hba7.trans (uh HBA4)));clear HLO hl8;go_wp2;go_ret;exact⟨rfl,Exists.intro _ (Exists.intro _ (Exists.intro _ (Exists.intro _ ⟨HX,HBX⟩)))⟩):p:=h
def Hk{p:Prop}(h:p:=by
 by_cases e:j<i
 .exact HI j e
 have:j=i:=Aa;subst this;exact hp):p:=h
def Hl{p:Prop}(h:p:=by rw[hz];exact⟨O,0,rfl⟩):p:=h
def Hm{p:Prop}(h:p:=by
 by_cases h:j=t
 .subst h;rw[rd rfl,rd Aa]
 rw[rc h];by_cases h2:j<t
 .rw[rd h2,rd Aa]
 rw[rc h2,rc Aa]):p:=h
def Hn{p:Prop}(h:p:=by
 go_in;go_wp2_with fail;refine H1.mono ?_;rintro e w1 ⟨rfl,ho1⟩;have HO1:=Af ho1;clear ho1;go_wp2;go_ret;exact⟨rfl,HO1⟩):p:=h
def Ho{p:Prop}(h:p:=by
 intro x hx;obtain⟨j,hj,rfl⟩:=sH hx;exact HT j hj Aa):p:=h
def Hp{p:Prop}(h:p:=by
 have h57I:decide ((c:Z)<=57)=false:=qX Aa;have hans:ans=false:=by rw[uh HD3,BR,qZ (by omega:48<=c),qX h57];rfl
 subst hans;have H57:=Af h57I;clear h57I;go_wp2;go_ret;exact⟨by show Ending.returned (Value.bool (decide ((c:Z)<=57)))=_;rw[uh H57],HO⟩):p:=h
def Hq{p:Prop}(h:p:=by
 go_in;go_wp2_with fail;refine H1.mono ?_;rintro e w1 ⟨rfl,h⟩;have HH:=Af h;clear h H1;go_wp2_with fail;go_ret3;exact⟨rfl,HH⟩):p:=h
def Hr{p:Prop}(h:p:=by
 go_wp2;go_ret;exact⟨by rw[uh HA];rfl,HO⟩):p:=h
def Hs{p:Prop}(h:p:=by
 go_wp2_with fail;refine HSm.mono ?_;rintro e w' ⟨rfl,ho'⟩;have hlk:=HLK w' ho';have HOA:Hid (∀o,Al W (w'.alloc o)):=λo=>(Ag.trans (uh HW) ho').alloc o
 clear ho' HSm HLK;go_wp2;go_roundw
 .exact ⟨i+1,Aa,by go_num,HOA _,HT'⟩
 exact Ae):p:=h
def Ht{p:Prop}(h:p:=by
 by_cases h' :i<ls.size
 .simp[h'] at hi0 h1;rw[hi0] at h1;cases h1
 simp[se (xz h')] at h1):p:=h
def Hu{p:Prop}(h:p:=by
 go_wp2_with fail;go_round
 .exact ⟨i+1,Aa,by go_num,HT2⟩
 exact Ae):p:=h
def Hv{p:Prop}(h:p:=by
 go_wp2;go_roundw
 .refine ⟨n+j,ao2,cap2,0,Aa,rfl,hc3j,⟨_,HOWN⟩,⟨a2,ha2,HRD,.inl ⟨rfl,l++List.replicate j 0,by rw[qU,rP,uh HLN],HOWN, ?_⟩⟩,HO⟩;rw[uh HEQ,BZ (by rw[uh HLN];exact hlt),uh HSTP,hje]
 rw[uh HM,AP hc3j];simp[NI];omega):p:=h
def Hw{p:Prop}(h:p:=by
 have HU:Hid (Ci s v a=([],3)):=by unfold Hid Ci;rw[hpre]
 rw[hpre] at H1;clear hpre;go_in;go_wp2_with fail;refine H1.mono ?_;rintro r w1 ⟨rfl,ho1⟩;have HO1:=Af ho1;clear H1 ho1;go_wp2;go_ret2;exact⟨HO1,by rw[uh HU];exact .inr ⟨Ac,rfl⟩⟩):p:=h
def Hx{p:Prop}(h:p:=by
 by_cases he:sm=t
 .rw[qZ he] at f1;have HA:=Af (HE.trans (rd he));clear he HE;go_wp2;go_ret;exact⟨HO2,by rw[uh HA];rfl⟩
 rw[qX he] at f1;have HA:=Af (HE.trans (rc he));clear he HE;go_wp2;go_ret;exact⟨HO2,by rw[uh HA];rfl⟩):p:=h
def Hy{p:Prop}(h:p:=by
 subst ha;go_wp2;go_ret;exact⟨rfl,HO4⟩):p:=h
def Hz{p:Prop}(h:p:=by
 go_wp2;go_ret;exact⟨rfl,HO1⟩):p:=h
def Wa{p:Prop}(h:p:=by
 clear HIT;go_in;go_wp2_with fail;refine(HV1 _).mono ?_;rintro r w1 ⟨rfl,rfl⟩;go_wp2_with fail;refine(HV2 _).mono ?_;rintro r w2 ⟨rfl,rfl⟩;go_wp2;go_ret2;exact⟨Ag.refl _ _,by rw[uh HA];exact⟨_,rfl⟩⟩):p:=h
def Wb{p:Prop}(h:p:=by
 go_wp2_with fail;refine HFA.mono ?_;rintro r w1 ⟨rfl,hr1,ho1⟩;go_wp2;go_ret;obtain⟨h1,h2⟩:=uh HEND;rw[h2] at hr1;exact⟨0,a',2,rfl,⟨⟨haa,ha'⟩,Aa,.inr ⟨rfl,.inr ⟨h1,rfl⟩⟩⟩,hr1,HO.trans ho1⟩):p:=h
def Wc{p:Prop}(h:p:=by
 go_in;go_wp2_with fail;go_ret3;exact⟨rfl,rfl⟩):p:=h
def Wd{p:Prop}(h:p:=by
 go_wp2_with fail;go_quiet (fail);go_wp2;go_roundw
 .exact ⟨k+1,Aa,by go_num,HB3,HO.drewN _⟩
 exact Ae):p:=h
def We{p:Prop}(h:p:=by
 rw[hr] at hg;injection hg with hg;injection hg with _ h2;exact absurd h2 Ac):p:=h
def Wf{p:Prop}(h:p:=by
 go_wp2_with fail;go_quiet (fail);go_wp2;go_roundw
 .exact ⟨k+1,Aa,by go_num,HO.drewN _⟩
 exact Ae):p:=h
def Wg{p:Prop}(h:p:=by exact(HG3.block g HRA.lt (λhh=>HNE g hh.symm rfl)).trans (uh HRA)):p:=h
def Wh{p:Prop}(h:p:=by
 refine HP.mono ?_;rintro r w2 ⟨ho2,e,rfl,hsym⟩;have HO2:=Af (HO1.trans ho2);have HSY:=Af hsym;clear ho2 hsym HP;go_wp2;go_ret2;exact⟨HO2,bl,e,rfl,by rw[uh HBE];exact uh HSY,λ_=>uh HBL⟩):p:=h
def Wi{p:Prop}(h:p:=by
 have h3:=ET (d:=D i) (l:=(List.range len).map D) (rT.2 ⟨i,rJ.2 hi,rfl⟩);rw[hd1,uptoBulk] at hb;omega):p:=h
def Wj{p:Prop}(h:p:=by
 go_wp2;go_roundw
 .exact ⟨n,ao,cap,2,hn,rfl,hc4,⟨_,HOWN4⟩,⟨a2,ha2,HR4,.inr ⟨rfl,by rw[uh HEQ,BZ (by rw[uh HLN];exact hlt),HNO.1]⟩⟩,HO4⟩
 rw[uh HM,AP (uh HR4).c3];simp[NI]):p:=h
def Wk{p:Prop}(h:p:=by exact⟨0,Aa,rfl,λj _ h=>Aa⟩):p:=h
def Wl{p:Prop}(h:p:=by
 go_wp2;go_roundw
 .exact ⟨n,ao,cap,2,hn,rfl,hc3z,⟨_,HOWN2⟩,⟨a2,ha2,HR2,.inr ⟨rfl,by rw[uh HEQ,BZ (by rw[uh HLN];exact hlt),uh HK1]⟩⟩,HO2⟩
 rw[uh HM,AP hc3z];simp[NI]):p:=h
def Wm{p:Prop}(h:p:=by
 have h1:=HFT (by rw[hsf];decide);unfold Hid;rw[uh HSU,h1,hsf];rfl):p:=h
def Wn{p:Prop}(h:p:=by
 go_quiet (fail);go_wp2;go_roundw
 .exact ⟨i+1,Aa,by go_num,rfl,HWB.drewN _⟩
 exact Ae):p:=h
def Wo{p:Prop}(h:p:=by
 go_wp2_with fail;go_quiet (fail);go_wp2_with fail;go_ret3;rw[uh HRES];exact⟨rfl,HO.drewN _⟩):p:=h
def Wp{p:Prop}(h:p:=by
 go_wp2_with fail;go_end0;exact⟨rfl,HO3.of_g hSg,a3,l,e3,⟨ha3,.inr ⟨by rw[(uh HE).2];exact HE.1,he3,rfl⟩⟩,St.next (uh HR) (uh HOW) (uh HSA) (uh HO3) (uh HR3)⟩):p:=h
def Wq{p:Prop}(h:p:=by
 obtain⟨xn,xd⟩:=x;simp only at p1 p2 r1 r2;have hne:=gi xn xd;go_wp2_with fail;go_quiet (fail);go_wp2;go_roundw
 .exact ⟨i+1,Aa,by go_num,HO.drewN _⟩
 exact Ae):p:=h
def Ws{p:Prop}(h:p:=by subst hS;exact AR hg h.hp Ac):p:=h
def Wt{p:Prop}(h:p:=by
 have hLn:=hL.old ho;have h1:=ru _ b 2 _ _ (G z) hLn.hp;exact Exists.intro z ⟨hz,hLn.rec_ (s' :={S with ar:=z}) (Ap _ b 2 _) h1 (rj _) rfl rfl rfl rfl rfl rfl⟩):p:=h
def Wu{p:Prop}(h:p:=by
 have hn64:(n:Z)<64:=Aa;have htn:((n:N):Z).toNat=n:=rO n;rw[<-hqq];clear hqq hpw;go_in;go_wp2_with fail;go_ret3;exact⟨Sb (rI (Value.int Q) Aa) rfl rfl,rfl⟩):p:=h
def Wv{p:Prop}(h:p:=by exact⟨L[i],ro hil,by rw[hel];exact λh=>by cases h⟩):p:=h
def Ww{p:Prop}(h:p:=by
 have HZ:=Af (DD.zero (s:=s) (e:=e) ha);rw[e1,e2];clear e1 e2;go_in;go_wp2;go_ret;exact⟨0,a,e,Bb (rI (Value.int Q) (uh HE).symm),HZ,h,Ag.refl _ w⟩):p:=h
def Wx{p:Prop}(h:p:=by exact(HG3.block g HRA.lt (λhh=>by have:=HB g hh.symm;omega)).trans (uh HRA)):p:=h
def Wy{p:Prop}(h:p:=by exact hy.wpOp hi hS ⟨λ_=>hS,H⟩):p:=h
def Wz{p:Prop}(h:p:=by
 refine vW hgd λK hK=> ?_
 unfold Oper.wp;simp only[execOp,ho,resolve,invoke,builtin,vc,vV,uR,yv,sP,tB,hd,hs,hrun];exact hK _ _ (k w' cur' h1 h2 h3 h4 h5)):p:=h
def WA{p:Prop}(h:p:=by
 have h1:=Mj ((List.range len).map D);rw[sJ,uS] at h1;rw[hd1,uptoBulk] at hb;omega):p:=h
def WC{p:Prop}(h:p:=by
 have:=OY (many:=k) (uh HD) (λhh=>HNZ hh.1) (by rw[uh HBB];exact HLE) (uh HTT) (by rw[uh HLN];exact hbig);rw[uh HW,uh HBB] at this;exact this):p:=h
def WD{p:Prop}(h:p:=by
 go_in;go_wp2_with fail;refine H1.mono ?_;rintro r w1 ⟨rfl,ho1⟩;have HO1:=Af ho1;clear H1 ho1;go_wp2;go_ret2;exact⟨HO1,by rw[uh HU];rfl⟩):p:=h
def WE{p:Prop}(h:p:=by
 go_wp2_with fail;go_end0;exact⟨rfl,HO4.of_g hSg,a3,l,e4,⟨ha3,.inr ⟨HE.1,HE.2,rfl⟩⟩,St.next (uh HR) (uh HOW) (uh HSA) (uh HO4) (uh HR4)⟩):p:=h
def WF{p:Prop}(h:p:=by
 go_wp2;go_roundw
 .exact ⟨i+1,Aa,by go_num,HL2,HP2,HO2⟩
 exact Ae):p:=h
def WG{p:Prop}(h:p:=by
 go_wp2_with fail;go_end0;exact⟨rfl,HO2.of_g hSg,a2,l,2,⟨ha2,hl,.inr ⟨HRW,Aa⟩⟩,St.next (uh HR) (uh HOW) (uh HSA) (uh HO2) (uh HR2)⟩):p:=h
def WH{p:Prop}(h:p:=by
 go_wp2_with fail;go_end0;exact⟨rfl,HO4.of_g hSg,a2,l,1,⟨ha2,hl,.inr ⟨HRW,Aa⟩⟩,St.next (uh HR) (uh HOW) (uh HSA) (uh HO4) (uh HR4)⟩):p:=h
def WI{p:Prop}(h:p:=by
 go_wp2_with fail;go_end0;exact⟨rfl,HO4.of_g hSg,a3,l,1,⟨ha3,.inr ⟨HK,Aa,rfl⟩⟩,St.next (uh HR) (uh HOW) (uh HSA) (uh HO4) (uh HR4)⟩):p:=h
def WJ{p:Prop}(h:p:=by
 rcases ht W hW with⟨_,e2⟩|⟨ad2,cp2,e2,h3⟩
 .exact absurd e2 h0
 rw[e] at e2;injection e2 with e3 e4 e5;injection e3 with e3;subst e3;exact h3):p:=h
def WK{p:Prop}(h:p:=by
 go_in;go_wp2_with fail;go_quiet (fail);go_wp2_with fail;go_quiet (fail);go_wp2;go_ret2;exact⟨(HOld.drewN _).drewN _,.inr ⟨Aa,rfl⟩⟩):p:=h
def WL{p:Prop}(h:p:=by
 induction n with
 |zero=>intro ls a w h;exact h
 |succ n ih=>intro ls a w h;exact⟨h.1,λi hi=>xS (λa' w' k=>ih _ a' w' k.2) (h.2 i hi)⟩):p:=h
def WM{p:Prop}(h:p:=by unfold Hid;rw[HFT (by rw[e];decide),e]):p:=h
def WN{p:Prop}(h:p:=by
 have e:ga=k:=rD hk;subst e;rcases hl3 with e|e
 .exact .inl e
 exact .inr Aa):p:=h
def WO{p:Prop}(h:p:=by
 have e:gb=k:=rD hk;subst e;rcases hl6 with e|e
 .exact .inl e
 exact .inr Aa):p:=h
def WP{p:Prop}(h:p:=by
 have hp' :tmps[p]?.getD undef=δ (J ⟨g,0,O⟩):=by simpa using hp
 simp[results,h,hp',asAddr,vR w g t0 ty cs fr d hg hu hd hi]):p:=h
def WQ{p:Prop}(h:p:=by
 rw[tu,qY hil] at hf;rcases rR.1 hf with hf|hf
 .exact HFI f hf
 have e:f=fs.getD i default:=by
  rw[qT,qY hil];simpa using hf
 rw[e];exact Ee h):p:=h
def WR{p:Prop}(h:p:=by rw[uh HEQ,BZ (by rw[uh HLN];exact hlt),uh HSTP,hje]):p:=h
def WT{p:Prop}(h:p:=by
 intro W;have h:=vE (P:=prog) W 33 3 i0 (I Q 0) underlying33 hi0 hz0 .i64 .i64 19 19 Aa Aa (by rw[hz2];decide) Ac;rw[hz1] at h;exact h):p:=h
def WU{p:Prop}(h:p:=by exact⟨0,Aa,rfl,λj hj=>Aa⟩):p:=h
def WV{p:Prop}(h:p:=by
 go_wp2;go_roundw
 .exact ⟨i+1,Aa,by go_num,HS,HO⟩
 exact Ae):p:=h
def WW{p:Prop}(h:p:=by
 obtain⟨hl,h|⟨b',cap,cur,hv,h1,hg,r⟩⟩:=h
 .rw[h.1] at hb;cases hb
 rw[hv] at hb;injection hb with hb;subst hb;exact⟨cur,hg⟩):p:=h
def WX{p:Prop}(h:p:=by
 rw[rC] at hx;subst hx;exact hf.kept ho (λg cur hg _=>ns Ac Ac Ac hg)):p:=h
def WY{p:Prop}(h:p:=by
 generalize Ds.extract q (q+1)=ex at*;unfold Ds at hsl;go_wp2_with fail;go_round
 .exact ⟨1,Aa,rfl,by rw[uh HLL,<-rm,hl]⟩
 simp[intOf]):p:=h
def WZ{p:Prop}(h:p:=by
 generalize Ds.extract q (q+1)=ex at*;unfold Ds at hsl;go_wp2_with fail;go_round
 .exact ⟨2,Aa,rfl,by rw[uh HLL,<-rm,hl]⟩
 simp[intOf]):p:=h
def hJ{p:Prop}(h:p:=by
 generalize Ds.extract q (q+1)=ex at*;unfold Ds at hsl;go_wp2_with fail;go_round
 .exact ⟨3,Aa,rfl,by rw[uh HLL,<-rm,hl]⟩
 simp[intOf]):p:=h
def hP{p:Prop}(h:p:=by
 go_wp2;go_ret;exact⟨HO3.of_g hSg,2,rfl,.inr ⟨HB,Aa⟩⟩):p:=h
def hY{p:Prop}(h:p:=by
 have e:Ar (BO.take (i+1))=Ar (BO.take i)++[I Q 8]:=by rw[take_getD _ _ (by rw[BH];exact hlt),uh HV];simp[Ar]
 rw[e];exact HO3):p:=h
def wd{p:Prop}(h:p:=by
 have e:Ar (l++List.replicate (j+1) y)=Ar (l++List.replicate j y)++[I Q (y:N)]:=by rw[tM,<-rm];simp[Ar]
 rw[e];exact HO3):p:=h
def we{p:Prop}(h:p:=by
 rcases sb m 7 with h7|h7
 .rw[LF m h7];intro hh;have:=hh.2;have:=hh.1;simp at*;omega
 have e:m=7:=Aa;subst e;rw[Tx,Fr 7 Aa];simp;omega):p:=h
def wg{p:Prop}(h:p:=by
 refine⟨λh0=> ?_,λm hm=> ?_⟩
 .rw[hr] at h0;cases h0
 rw[hr] at hm;rcases sW.1 hm with rfl|hm
 .exact h
 cases rC.1 hm;exact k):p:=h
def wh{p:Prop}(h:p:=by
 simp only[rX,vp,tT] at h1;have hd:=hall e he h1.1;rcases h1.2 with h2|h2
 .exact hnot e he h1.1 h2
 exact hin (KW hcl f e.on i hd h2)):p:=h
def wi{p:Prop}(h:p:=by
 refine LK.of ((Ag.refl _ _).grown hg8 (λk _ e=>e)) (λg cur hg hS=> ?_);obtain⟨cur2,hg2⟩:=Aj howV hS;exact AR hg hg2 Ac):p:=h
def wj{p:Prop}(h:p:=by
 rintro e w' ⟨rfl,S',RF',hw',hbs⟩;exact⟨rfl,same Aa hbs hw'⟩):p:=h
def wk{p:Prop}(h:p:=by
 split at h
 .cases h
 injection h with h;injection h with h1 h2;omega):p:=h
def wm{p:Prop}(h:p:=by
 have hj4I:¬(j:Z)<4:=Aa;go_wp2_with fail;go_end0;exact⟨rfl,HLK,Exists.intro _ (Exists.intro _ ⟨HL,HBA⟩)⟩):p:=h
def wn{p:Prop}(h:p:=by exact(HQ.alloc _).grown (uh HG3) (λq hq e=>by cases e;omega)):p:=h
def wo{p:Prop}(h:p:=by
 go_wp2_with fail;go_step3
 try simp only[Exit.jump]
 exact⟨rfl,rfl,rfl,HO1,by rw[uh HEQ];exact ED (HSC2.trans (uh HCD))⟩):p:=h
def ws{p:Prop}(h:p:=by
 rw[Fw];have:=Lib.countB_le ⟨#[47]⟩ Ac s.size s (rj _);omega):p:=h
def wu{p:Prop}(h:p:=by
 have hl:=h.lt;obtain⟨D,⟨es,clock,hm,r⟩,h2⟩:=h;exact⟨D,⟨es,clock,(ho.block gm hl hs).trans hm,r⟩,h2⟩):p:=h
def wv{p:Prop}(h:p:=by
 rw[uh HN];have:(Gn l i).set i l[i]=Gn l i:=by rw[<-IU l i hil hil2];exact List.set_getElem_self _
 rw[this];exact HR):p:=h
def ww{p:Prop}(h:p:=by
 have:=(qW.1 hg).1;omega):p:=h
def wA{p:Prop}(h:p:=by
 cases j with
 |zero=>simp
 |succ j=>
  have h:=ih j (by simpa using hj);rw[show(j+1)*2=j*2+2 by omega];simpa using h):p:=h
def wB{p:Prop}(h:p:=by
 clear HH hcI hc;go_wp2;go_ret;exact⟨d.size+5*(d.size/16000)+6,by simp only[sO,sY,sR];rfl,HM,nn,rfl⟩):p:=h
def wC{p:Prop}(h:p:=by obtain⟨cur,hg,_⟩:=h;exact(qW.1 hg).1):p:=h
def wD{p:Prop}(h:p:=by
 have:=(Bx.ofOwns (uh HLN) (uh HOWN1)).cell (j:=n- 1) (by rw[uh HLN];omega);rw[rx] at this;rw[uh HLN];exact this):p:=h
def wE{p:Prop}(h:p:=by
 injection hb with hb;subst hb;rcases hl3 with h|h
 .exact HIV.2 _ h
 have:=HO5.size;rw[rr] at this;simp only;omega):p:=h
def wF{p:Prop}(h:p:=by
 obtain⟨cur2,hg2⟩:=Aj hr hk;exact AR hg (e ▸ hg2) hne):p:=h
def wG{p:Prop}(h:p:=by
 have h3:=sT (P:=prog) W 9 (p++(its.getD i BG).name) underlying9 .i64 p.size Aa (by rw[rg];omega);rw[h3,rO,Vn]):p:=h
def wH{p:Prop}(h:p:=by rw[Hid,uh HEQ,BZ (by rw[uh HLN];exact hlt),uh HSTP,uh HJE]):p:=h
def wI{p:Prop}(h:p:=by
 go_roundw
 .exact ⟨j+1,Aa,rfl,by go_num,HW2⟩
 exact Ae):p:=h
def wJ{p:Prop}(h:p:=by
 rcases rR.1 hx with h|h
 .obtain ⟨i,_,rfl⟩:=rT.1 h;exact rz (Fe _ _ _) hs
 rw[rC] at h;subst h;exact hs):p:=h
def wK{p:Prop}(h:p:=by
 obtain⟨cur,hg⟩:=Aj h3 (b:=ga) rfl;exact(qW.1 hg).1):p:=h
def wL{p:Prop}(h:p:=by
 clear HSD HSS;go_wp2_with fail;go_quiet (fail);go_wp2;go_ret;exact⟨by rw[uh HE];rfl,k+nq,Ad⟩):p:=h
def wM{p:Prop}(h:p:=by
 rcases hb with e|e
 .exact h.2.1 b (e ▸ hv)
 rw[e] at hv;have:w.heap.size=b:=rD hv;have:=h.2.2.size;omega):p:=h
def wN{p:Prop}(h:p:=by exact⟨0,ao,cap,Aa,rfl,rfl,(show World.ownsRow _ _ _ _ _ _ _ by simpa using uh HOWN2),HUP2,HO2⟩):p:=h
def wO{p:Prop}(h:p:=by
 obtain⟨cur2,hg2⟩:=Aj h.rf.1 hS;exact AR hg hg2 Ac):p:=h
def wP{p:Prop}(h:p:=by
 obtain⟨cur2,hg2⟩:=Aj h.rl.1 hS;exact AR hg hg2 Ac):p:=h
def wQ{p:Prop}(h:p:=by
 obtain⟨cur2,hg2⟩:=Aj h.rt.1 hS;exact AR hg hg2 Ac):p:=h
def wR{p:Prop}(h:p:=by exact⟨0,ao,cap,Aa,rfl,rfl,(show World.ownsRow _ _ _ _ _ _ _ by simpa using uh HOWN2),HR2,HO2⟩):p:=h
def wS{p:Prop}(h:p:=by
 have:=Classical.choose_spec (hE i hi);have e:f i=Classical.choose (hE i hi):=uO hi;rw[e];exact this):p:=h
def wU{p:Prop}(h:p:=by
 rcases ht w1 (Ag.refl _ _) with⟨_,e⟩|⟨ad,cp,e,_⟩
 .exact absurd e h0
 exact⟨ad,cp,e⟩):p:=h
def wV{p:Prop}(h:p:=by
 refine⟨λh0=> ?_,λj hj=> ?_⟩
 .rw[hr] at h0;cases h0
 rw[hr] at hj;cases rC.1 hj;exact h):p:=h
def wW{p:Prop}(h:p:=by rw[qV w2 _ _ _ _ (0,0) hg];exact rZ _):p:=h
def wX{p:Prop}(h:p:=by
 by_cases e:j=i
 .subst e;exact h
 exact HT j hj Aa):p:=h
def wY{p:Prop}(h:p:=by
 have e2:g8=g:=rD e;subst e2;rcases hl8 with e3|e3
 .exact HB2 _ e3
 have:=hfinA.only.size;omega):p:=h
def wZ{p:Prop}(h:p:=by
 clear hres hof hob HS HLN HCE HOF;go_wp2;go_ret;exact⟨by rw[<-uh HR];rfl,n,rfl⟩):p:=h
def aaa{p:Prop}(h:p:=by
 go_wp2;go_ret;exact⟨Bb (rI Value.bool (by show true=Gj L;rw[uh HE];simp)),rfl⟩):p:=h
def aab{p:Prop}(h:p:=by exact⟨_,_,_,hr,hgr.1,hgr.2,λb hb=>by injection hb with hb;subst hb;exact .inr rfl⟩):p:=h
def aac{p:Prop}(h:p:=by
 rintro r w' ⟨v,u,fs',e,ho,h5⟩;exact⟨ho,.inl ⟨hT,.inr ⟨hok,v,u,fs',e,h5⟩⟩⟩):p:=h
def aad{p:Prop}(h:p:=by
 go_wp2_with fail;go_end0;exact⟨rfl,HO,a',l',2,⟨ha',hl',.inr ⟨H9,Aa⟩⟩,HST9⟩):p:=h
def aae{p:Prop}(h:p:=by
 have:=uy W 9 s Q Q ((FQ s c i).2:Z) (i:Z) underlying9 Aa Aa Aa;simpa using this):p:=h
def aaf{p:Prop}(h:p:=by
 go_ret;rw[uh HE];exact⟨rfl,HO⟩):p:=h
def aag{p:Prop}(h:p:=by
 rw[rH,rx] at this;exact this):p:=h
def aah{p:Prop}(h:p:=by
 cases ao with
 |none=>cases h5
 |some b=>injection h5 with h5;rw[<-h5];exact HSA b rfl):p:=h
def aai{p:Prop}(h:p:=by
 go_wp2;go_ret2;exact⟨HO1,false,2,rfl,.inr ⟨HBD,Aa⟩,λh=>by cases h⟩):p:=h
def aaj{p:Prop}(h:p:=by
 go_roundw
 .exact ⟨j+1,J ⟨g8,0,O⟩,c8,Aa,by go_num,by congr 1,HX⟩
 exact Ae):p:=h
def aak{p:Prop}(h:p:=by
 rw[rV];intro x hx;obtain⟨j,hj,rfl⟩:=sH hx;exact HT j hj (by have:=uh HH3;omega)):p:=h
def aal{p:Prop}(h:p:=by exact((Ag.refl (λk=>k=g) w).drewN _).setCell (p:=⟨g,1,O⟩) (λ_=>rfl) _):p:=h
def aam{p:Prop}(h:p:=by exact ns Ac Ac Ac hg hS):p:=h
def aan{p:Prop}(h:p:=by
 have h1:=hcl (j*2) _ ha;have h2:=hcl (j*2+1) _ hb;rw[rH,rx] at h1 h2;exact⟨h1,h2⟩):p:=h
def aao{p:Prop}(h:p:=by
 rintro r w' ⟨e,ho⟩;exact⟨ho,.inl ⟨hT,.inl ⟨m,_,h1,h2,h3,rfl,h4,e⟩⟩⟩):p:=h
def aap{p:Prop}(h:p:=by
 subst e;rcases hl6 with e|e
 .exact hnb e
 omega):p:=h
def aaq{p:Prop}(h:p:=by
 rw[uh HD3,BR];by_cases h48:48<=c
 .rw[qZ h48,qZ (by omega:c=48)];simp
 rw[qX h48];rfl):p:=h
def aar{p:Prop}(h:p:=by
 go_wp2;go_ret;exact⟨HO,a',2,ao,n,cap,rfl,ha',HRD,.inr ⟨rfl,HNO⟩⟩):p:=h
def aas{p:Prop}(h:p:=by exact HO.setRow _ (λh=>absurd h (st _)) _):p:=h
def aat{p:Prop}(h:p:=by
 have h:=HR.back (cap:=cap);rw[JV,uh HL,Uy l i (uh HL).symm] at h;rw[uh HE];exact h):p:=h
def aau{p:Prop}(h:p:=by rw[x,hch] at hc;injection hc with hc;injection hc with _ hc;exact absurd hc Ac):p:=h
def aav{p:Prop}(h:p:=by
 go_roundw
 .exact ⟨j+1,Aa,by go_num,by rw[uh HNJ];exact HX.2,HX.1⟩
 exact Ae):p:=h
def aaw{p:Prop}(h:p:=by exact .inr ⟨g,cur,h1,(ho.block g (qW.1 h2).1 (hs g cur h2)).trans h2,h3⟩):p:=h
def aax{p:Prop}(h:p:=by
 rintro r w' ⟨e,ho⟩;exact⟨ho,.inl ⟨sl _,by rw[e];exact Zt w w'⟩⟩):p:=h
def aay{p:Prop}(h:p:=by
 rw[FN] at this;exact this):p:=h
def aaz{p:Prop}(h:p:=by
 obtain⟨cur,hg⟩:=CV how (b:=b.block) (by rw[hb];rfl);exact(qW.1 hg).1):p:=h
def aaA{p:Prop}(h:p:=by
 go_wp2;go_roundw
 .exact ⟨j+1,Aa,by go_num,HST5,HO5⟩
 exact Ae):p:=h
def aaB{p:Prop}(h:p:=by
 go_wp2;go_roundw
 .exact ⟨i+1,Aa,by go_num,HOA,HG2⟩
 exact Ae):p:=h
def aaC{p:Prop}(h:p:=by
 unfold Hid;rw[uh HD,MK,qX h1,qX h2,qX h3,qX h4,qZ hz];simp only[xu,xZ,tj]):p:=h
def aaD{p:Prop}(h:p:=by
 go_wp2;go_roundw
 .exact ⟨i+1,Aa,by go_num,HA2,HO⟩
 exact Ae):p:=h
def aaE{p:Prop}(h:p:=by
 go_wp2;go_roundw
 .exact ⟨i+1,Aa,by go_num,HS,HO2⟩
 exact Ae):p:=h
def aaF{p:Prop}(h:p:=by
 rw[uA _ _ (Bh _ h) (Bh _ h),uA _ _ (DL (Bh _ h) (Bh _ h)) (Bh _ h)]
 rfl):p:=h
def aaG{p:Prop}(h:p:=by
 rw[tG];exact⟨L[i],ro hilL,by rw[hel];exact λh=>by cases h⟩):p:=h
def aaH{p:Prop}(h:p:=by rw[uZ _ _ hji];exact h3.2.2):p:=h
def aaI{p:Prop}(h:p:=by
 intro j u hu;rw[rH,rx,qV _ _ j _ 5 (0,0) (rh wr _)];simpa using hu):p:=h
def aaJ{p:Prop}(h:p:=by
 intro j u hu;rw[rH,rx,qV _ _ j _ e (0,0) (rh wr _)];simpa using hu):p:=h
def aaK{p:Prop}(h:p:=by
 rcases uh HP with h|h
 .omega
 exact h):p:=h
def aaL{p:Prop}(h:p:=by
 have:=h i (by rw[qU];omega);rw[qT,rM hi,<-qT] at this;exact this):p:=h
def aaM{p:Prop}(h:p:=by
 rw[hl4,e2];exact Co ho3 (Ap w3 g 2 _) (λb hb=>Jo ho3 hb hup3)):p:=h
def aaN{p:Prop}(h:p:=by
 by_cases h:e1=0
 .exact h
 rw[h2.stay h] at he;exact absurd he h):p:=h
def aaO{p:Prop}(h:p:=by
 split
 .omega
 split
 .omega
 split
 .omega
 split
 .omega
 split<;>omega):p:=h
def aaP{p:Prop}(h:p:=by
 go_in;go_wp2;go_ret;exact⟨s,rfl,rfl,Ag.refl _ w⟩):p:=h
def aaQ{p:Prop}(h:p:=by
 go_wp2;go_ret;exact⟨by rw[<-uh HE];rfl,HOF⟩):p:=h
def aaR{p:Prop}(h:p:=by
 obtain⟨ao2,cp2,hr2,_⟩:=uh HST2;rw[uh HM,AP hr2.c1];omega):p:=h
def aaS{p:Prop}(h:p:=by exact h.2.2.grown hg (λk hk e=>by have:=h.2.1 k e;omega)):p:=h
def aaT{p:Prop}(h:p:=by
 obtain⟨y',_,rfl⟩:=rT.1 hy;exact absurd hlo (Lm ha _ _)):p:=h
def aaU{p:Prop}(h:p:=by
 rw[uh HD,MK,qX h1,qX h2,qX h3,qX h4,qX hz];simp only[xu,xe]):p:=h
def aaV{p:Prop}(h:p:=by rw[show prog.elem 41=50 by kernel_rfl];exact underlying41):p:=h
def aaW{p:Prop}(h:p:=by rw[tq,sS,tZ,tp,rE Aa,vq,hcs,rx,Nat.add_sub_cancel' hq,sC]):p:=h
def aaX{p:Prop}(h:p:=by
 clear hie HR;go_wp2;go_ret;exact⟨rfl,HR2,HO⟩):p:=h
def aaY{p:Prop}(h:p:=by exact⟨0,Aa,rfl,HL2,HP2,HO2⟩):p:=h
def aaZ{p:Prop}(h:p:=by exact⟨0,Aa,rfl,λj h=>Aa⟩):p:=h
def aba{p:Prop}(h:p:=by
 rintro e w1 ⟨rfl,ho1⟩;go_wp2;go_ret;exact⟨rfl,ho1⟩):p:=h
def abb{p:Prop}(h:p:=by
 go_wp2;go_ret2;exact⟨HO1,by rw[uh HA];rfl⟩):p:=h
def abc{p:Prop}(h:p:=by
 go_wp2;go_ret2;exact⟨HO2,by rw[uh HA];rfl⟩):p:=h
def abd{p:Prop}(h:p:=by
 have:=(qW.1 hg2).1;omega):p:=h
def abe{p:Prop}(h:p:=by
 rw[BD _ _ Aa Aa,BD _ _ (by have:=DL h1 h2;omega) Aa]
 rfl):p:=h
def abf{p:Prop}(h:p:=by
 rw[qT,qY hi];exact hfz _ (ro hi)):p:=h
def abg{p:Prop}(h:p:=by
 split
 .rfl
 rename_i a' l' hs;have:=Ow hs;exact LA Aa Aa Aa):p:=h
def abh{p:Prop}(h:p:=by
 split
 .rfl
 rename_i a' o' hs;have:=Ov hs;exact Lz Aa Aa Aa):p:=h
def abi{p:Prop}(h:p:=by
 go_wp2;go_ret;exact⟨by rw[uh HA];rfl,HO6⟩):p:=h
def abj{p:Prop}(h:p:=by
 go_wp2;go_ret;exact⟨by rw[uh HA];rfl,rfl⟩):p:=h
def abk{p:Prop}(h:p:=by intro x hx;obtain⟨i,_,rfl⟩:=rT.1 hx;exact si _ Aa):p:=h
def abl{p:Prop}(h:p:=by
 obtain⟨i,hi,rfl⟩:=rT.1 he;exact(hf i (rJ.1 hi)).2):p:=h
def abm{p:Prop}(h:p:=by
 go_wp2;go_ret;exact⟨by rw[uh HE];rfl,HO⟩):p:=h
def abn{p:Prop}(h:p:=by
 rcases hcs with⟨h,_⟩|h
 .exact absurd h he
 exact h):p:=h
def abo{p:Prop}(h:p:=by exact⟨0,0,0,Aa,Aa,Aa,rfl,rfl,rfl,⟨rfl,rfl⟩⟩):p:=h
def abp{p:Prop}(h:p:=by
 go_ret;exact⟨HX.1,_,rfl,by rw[uh HT];exact HX.2⟩):p:=h
def abq{p:Prop}(h:p:=by
 go_wp2;go_ret;exact⟨rfl,HTY2,HEX⟩):p:=h
def abr{p:Prop}(h:p:=by
 injection h with h;injection h with h;simp at h;exact h):p:=h
def abs{p:Prop}(h:p:=by
 rintro r w' ⟨e,ho⟩;exact⟨ho,.inr ⟨Aa,e⟩⟩):p:=h
def abt{p:Prop}(h:p:=by
 obtain⟨cur3,hg3⟩:=Aj hv hk;exact AR hg3 hg2 hne):p:=h
def abu{p:Prop}(h:p:=by
 rw[rc h0] at h;injection h with _ h;exact absurd h h0):p:=h
def abv{p:Prop}(h:p:=by
 by_cases e:j=k
 .subst e;exact h
 exact HB j hj Aa):p:=h
def abw{p:Prop}(h:p:=by rw[rc b];show(⟨#[]⟩:Y).size<=_;omega):p:=h
def abx{p:Prop}(h:p:=by
 split
 .rfl
 first|rfl|rw[rd h]):p:=h
def aby{p:Prop}(h:p:=by
 have:(i+1)*k<=n*k:=sA _ Aa;rw[vK,yE] at this;omega):p:=h
def abz{p:Prop}(h:p:=by
 obtain⟨cur2,hg2⟩:=Aj hr hk;exact nl hne hg2 e):p:=h
def abA{p:Prop}(h:p:=by
 rintro e w' ⟨rfl,hz⟩;exact⟨rfl,arc Aa hz⟩):p:=h
def abB{p:Prop}(h:p:=by
 have f1:(s.toList==[48])=decide (s=⟨#[48]⟩):=EF s _;have HD:Hid (DK s=(Ch BR s&&decide (s.size<=5)&&(decide (s=⟨#[48]⟩)|| !decide (As s 0=48)))):=rfl;generalize DK s=ans at*;cases hb1:Ch BR s with
 |false=>
  rw[hb1] at H1 HD;have hans:ans=false:=by rw[uh HD];rfl
  subst hans;go_in;go_wp2_with fail;refine H1.mono ?_;rintro e w1 ⟨rfl,rfl⟩;exact yU
 |true=>
  have hpos:=Ri hb1;rw[hb1] at H1 HD;by_cases h5:s.size<=5
  .have h5I:(s.size:Z)<=5:=Aa;by_cases h0:s=⟨#[48]⟩
   .rw[qZ h0] at f1;have hans:ans=true:=(by rw[uh HD,qZ h5,qZ h0];rfl);subst hans;clear HD h0 hb1;go_in;go_wp2_with fail;refine H1.mono ?_;rintro e w1 ⟨rfl,rfl⟩;exact yU
   rw[qX h0] at f1;have hb:=AC (s:=s) (k:=0) hpos;have hposI:(0:Z)<(s.size:Z):=Aa;by_cases h48:As s 0=48
   .have hans:ans=false:=(by rw[uh HD,qZ h5,qX h0,qZ h48];rfl);subst hans;rw[h48] at hb;clear HD h0 hb1 h48;go_in;go_wp2_with fail;refine H1.mono ?_;rintro e w1 ⟨rfl,rfl⟩;exact yU
   have hans:ans=true:=by rw[uh HD,qZ h5,qX h0,qX h48];rfl
   have h48I:¬((As s 0:Z)=48):=Aa;have h48J:((As s 0:Z) !=48)=true:=by rw[rS];exact h48I
   subst hans;clear HD h0 hb1 h48;generalize As s 0=c at*;go_in;go_wp2_with fail;refine H1.mono ?_;rintro e w1 ⟨rfl,rfl⟩;exact yU
  have h5I:¬(s.size:Z)<=5:=Aa;have hans:ans=false:=by rw[uh HD,qX h5];rfl
  subst hans;clear HD hb1;go_in;go_wp2_with fail;refine H1.mono ?_;rintro e w1 ⟨rfl,rfl⟩;exact yU):p:=h
def abC{p:Prop}(h:p:=by
 go_in;go_wp2_with fail;refine H1.mono ?_;rintro e w1 ⟨rfl,rfl⟩;exact yU):p:=h
def abD{p:Prop}(h:p:=by
 go_in;go_wp2_with fail;refine H1.mono ?_;rintro e w1 ⟨rfl,rfl⟩;go_wp2_with fail;refine H2.mono ?_;rintro e w2 ⟨rfl,rfl⟩;exact yU):p:=h
def abE{p:Prop}(h:p:=by
 cases hdg:BR c with
 |false=>
  have hans:ans=false:=by rw[uh HD3,hdg];rfl
  subst hans;rw[hdg] at HC;go_wp2_with fail;refine(HC _).mono ?_;rintro e w3 ⟨rfl,rfl⟩;exact zj
 |true=>
  rw[hdg] at HC;have HA:Hid (ans= !decide (c=48)):=by unfold Hid;rw[uh HD3,hdg];rfl
  clear HD3;by_cases h48:c=48
  .have hans:ans=false:=by rw[uh HA,qZ h48];rfl
   subst hans;clear HA;subst h48;go_wp2_with fail;refine(HC _).mono ?_;rintro e w3 ⟨rfl,rfl⟩;exact zj
  have hans:ans=true:=by rw[uh HA,qX h48];rfl
  subst hans;clear HA;have h48I:((c:Z) !=48)=true:=by rw[rS];omega
  go_wp2_with fail;refine(HC _).mono ?_;rintro e w3 ⟨rfl,rfl⟩;exact zj):p:=h
def abF{p:Prop}(h:p:=by
 go_wp2_with (at_builtin;refine wpList_append_lies _ rfl (.tmp 23) (.tmp 25) 33 rfl w.heap.size 3 i0 (I Q 0) 1 8 underlying33 hi0 hz0 hz1 hz2 rfl Aa (K ao i cap) i _ rfl (uh HOW) ⟨wr.heap.size,0,O⟩ 1 1 [I Q 8] rfl rfl (uh HNW) (by intro u hu;simp at hu;subst hu;rfl) Aa (by unfold maxLen;omega) Aa (uh HSZ) _ rfl ?_;intro g2 cap2 w3 ho3 hg3 hl3 hlt3;have HO3:=Af ho3;have HG3:=Af hg3;have HB:=Af (BP (uh HOW));clear ho3 hg3 hl3);go_roundw
 .refine ⟨i+1,J ⟨g2,0,O⟩,cap2,Aa,rfl,by go_num, ?_, ?_⟩
  .exact hY
  exact zt
 exact Ae):p:=h
def abG{p:Prop}(h:p:=by
 generalize BR c=b2 at*;cases b1 with
 |true=>
  go_in;go_wp2_with fail;refine H1.mono ?_;rintro e w' ⟨rfl,rfl⟩;exact yU
 |false=>
  cases b2 with
  |true=>
   go_in;go_wp2_with fail;refine H1.mono ?_;rintro e w' ⟨rfl,rfl⟩;go_wp2_with fail;refine H2.mono ?_;rintro e w'' ⟨rfl,rfl⟩;exact yU
  |false=>
   go_in;go_wp2_with fail;refine H1.mono ?_;rintro e w' ⟨rfl,rfl⟩;go_wp2_with fail;refine H2.mono ?_;rintro e w'' ⟨rfl,rfl⟩;go_wp2_with fail;refine H3.mono ?_;rintro e w''' ⟨rfl,rfl⟩;exact yU):p:=h
def abH{p:Prop}(h:p:=by
 rintro e w2 ⟨rfl,rfl⟩;exact yU):p:=h
def abI{p:Prop}(h:p:=by
 by_cases h49:49<=c
 .have h49I:(49:Z)<=(c:Z):=Aa;by_cases h57:c<=57
  .have h57I:(c:Z)<=57:=Aa;have hans:ans=true:=by rw[uh HD3,BR,qZ (by omega:48<=c),qZ h57,qX (by omega:¬c=48)];rfl
   subst hans;exact zj
  exact Hp
 have h49I:¬(49:Z)<=(c:Z):=Aa;have hans:ans=false:=aaq;subst hans;exact zj):p:=h
def abJ{p:Prop}(h:p:=by
 generalize As s i=c at*;go_wp2_with fail;refine HL.mono ?_;rintro e w1 ⟨rfl,rfl⟩;go_wp2_with fail;refine HDg.mono ?_;rintro e w2 ⟨rfl,rfl⟩;exact zK):p:=h
def abK{p:Prop}(h:p:=by
 have HV1:=Af (HV1 t w2.drew hs2.2.2.2.drew);have HV2:=Af (HV2 t);have HSW:w2.drew.cell? ⟨b,0,O⟩=J (G M)/\w2.drew.cell? ⟨b,1,O⟩=J (G V)/\w2.drew.cell? ⟨b,2,O⟩=J (G A)/\Al W0 w2.drew:=⟨hs2.1,hs2.2.1,hs2.2.2.1,hs2.2.2.2.drew⟩;exact yP):p:=h
def abL{p:Prop}(h:p:=by
 intro c w hc;unfold FZ;by_cases h1:97<=c
 .have h1I:(97:Z)<=(c:Z):=Aa;by_cases h2:c<=122
  .have h2I:(c:Z)<=122:=Aa;rw[qZ h1,qZ h2];go_in;exact yU
  have h2I:¬(c:Z)<=122:=Aa;rw[qZ h1,qX h2];go_in;exact yU
 have h1I:¬(97:Z)<=(c:Z):=Aa;rw[qX h1];go_in;exact yU):p:=h
def abM{p:Prop}(h:p:=by
 intro c w hc;unfold BR;by_cases h1:48<=c
 .have h1I:(48:Z)<=(c:Z):=Aa;by_cases h2:c<=57
  .have h2I:(c:Z)<=57:=Aa;rw[qZ h1,qZ h2];go_in;exact yU
  have h2I:¬(c:Z)<=57:=Aa;rw[qZ h1,qX h2];go_in;exact yU
 have h1I:¬(48:Z)<=(c:Z):=Aa;rw[qX h1];go_in;exact yU):p:=h
def abN{p:Prop}(h:p:=by
 have hltI:¬(i:Z)<(n:Z):=Aa;have hin:i=n:=Aa;subst hin;have hback:(convert 62 9 (K (J ⟨g,0,O⟩) i cap)).run prog wr=.ok (G z) wr:=aat;exact zj):p:=h
def abO{p:Prop}(h:p:=by
 have g2:(x.toList==[108,112,116])=false:=by rw[EF];exact qX hx2
 have hans:ans=false:=by rw[uh HD2,qX hx1,qX hx2];rfl
 subst hans;clear hx1 hx2 HD2;exact zj):p:=h
def abP{p:Prop}(h:p:=by
 have f4:(z.toList==[110,117,108])=true:=by rw[EF];exact qZ h4
 have hans:ans=true:=by rw[uh HD,h4];decide
 subst hans;clear h1 h2 h3 h4;exact zj):p:=h
def abQ{p:Prop}(h:p:=by
 rintro e w1 ⟨rfl,rfl⟩;go_wp2;exact yY):p:=h
def abR{p:Prop}(h:p:=by
 have f3:(z.toList==[97,117,120])=true:=by rw[EF];exact qZ h3
 have hans:ans=true:=by rw[uh HD,h3];decide
 subst hans;clear h1 h2 h3;exact zj):p:=h
def abS{p:Prop}(h:p:=by
 have f2:(z.toList==[112,114,110])=true:=by rw[EF];exact qZ h2
 have hans:ans=true:=by rw[uh HD,h2];decide
 subst hans;clear h1 h2;exact zj):p:=h
def abT{p:Prop}(h:p:=by
 have f1:(z.toList==[99,111,110])=true:=by rw[EF];exact qZ h1
 have hans:ans=true:=by rw[uh HD,h1];decide
 subst hans;clear h1;exact zj):p:=h
def abU{p:Prop}(h:p:=by
 subst hans;clear hel;generalize L[i]=z at*;go_wp2_with fail;refine HE.mono ?_;rintro e w' ⟨rfl,rfl⟩;clear HE;exact He):p:=h
def abV{p:Prop}(h:p:=by
 have hans:ans=true:=HANY (by rw[uh HCB,hne];rfl);subst hans;clear HCB HANY HT' hne hz;exact zL):p:=h
def abW{p:Prop}(h:p:=by
 have hzI:¬(z.size:Z)=4:=Aa;have hans:ans=false:=aaU;subst hans;clear h1 h2 h3 h4 HD hz;exact zj):p:=h
def abX{p:Prop}(h:p:=by
 obtain⟨⟨_,⟨rfl,hz⟩|⟨b',c',cur',rfl,_⟩⟩,_⟩:=hv
 .exact Hl
 exact⟨_,_,rfl⟩):p:=h
def abY{p:Prop}(h:p:=by
 rw[hans];clear hans;go_in;exact zI):p:=h
def abZ{p:Prop}(h:p:=by
 go_in;go_wp2_with fail;refine H.mono ?_;rintro r w1 ⟨rfl,rfl⟩;clear H;exact yU):p:=h
def aca{p:Prop}(h:p:=by
 subst ha;clear hfil hg hg' hs' hlow e0 e1 hon hnc hcm hcs HL HP HO;exact WF):p:=h
def acb{p:Prop}(h:p:=by
 split at h
 .cases h
 split at h
 .cases h
 split at h
 .cases h
 exact wk):p:=h
def acd{p:Prop}(h:p:=by
 have hbi:uptoBulk (D i)<=1048576:=Wi;exact⟨e,hcell,Aa,Aa⟩):p:=h
def ace{p:Prop}(h:p:=by
 rintro e w1 ⟨rfl,rfl⟩;exact Hu):p:=h
def acf{p:Prop}(h:p:=by
 have HE:=Af e;rw[hz];clear e;go_wp2_with fail;exact aaf):p:=h
end
def Bb{a c:β}(h:a=c):Ending.returned a=ε c:=by rw[h]
def Lw{a b c d:β}(h:a=c)(k:b=d):Ending.returned (.tuple #[a,b])=ε (.tuple #[c,d]):=by rw[h,k]
def Af{p:Prop}(h:p):χ p:=h
def uh{p:Prop}(h:χ p):p:=h
def Gt(a:N)(b:a<9223372036854775808):(BitVec.ofInt 64 (a:Z)).toNat=a:=ofInt_u64 a Aa
def Av(a:N)(b:a<9223372036854775808):IntKind.i64.wrap (a:Z)=(a:Z):=by rw[sx];omega
def BD(a b:N)(c:a<9223372036854775808)(d:b<9223372036854775808):bits .xor Q (a:Z) (b:Z)=((a^^^b:N):Z):=by
 have e:a^^^b<2^63:=uK Aa Aa;show IntKind.i64.wrap ((BitVec.ofInt 64 (a:Z)^^^BitVec.ofInt 64 (b:Z)).toNat:Z)=_;rw[ym,Gt a c,Gt b d,Av _ Aa]
def Or(a b:N)(c:a<9223372036854775808)(d:b<9223372036854775808):bits .or Q (a:Z) (b:Z)=((a|||b:N):Z):=by
 have e:a|||b<2^63:=xg Aa Aa
 show IntKind.i64.wrap ((BitVec.ofInt 64 (a:Z)|||BitVec.ofInt 64 (b:Z)).toNat:Z)=_;rw[BitVec.toNat_or,Gt a c,Gt b d,Av _ Aa]
def Dt(a b:N)(c:a<9223372036854775808)(d:b<9223372036854775808):bits .and Q (a:Z) (b:Z)=((a&&&b:N):Z):=by
 have e:a&&&b<=a:=Nat.and_le_left;show IntKind.i64.wrap ((BitVec.ofInt 64 (a:Z)&&&BitVec.ofInt 64 (b:Z)).toNat:Z)=_;rw[BitVec.toNat_and,Gt a c,Gt b d,Av _ Aa]
def DL{a b:N}(c:a<4294967296)(d:b<4294967296):a^^^b<4294967296:=uK (n:=32) c d
def cH{a b:N}(c:a<4294967296)(d:b<4294967296):a|||b<4294967296:=xg (n:=32) c d
def FD{a:N}(b:N)(c:a<4294967296):a&&&b<4294967296:=tR Nat.and_le_left c
def Gh(v:N):N:=if v%2=1 then(v/2)^^^3988292384 else v/2
def EC:N->N->N
 |0,v=>v
 |n+1,v=>EC n (Gh v)
def GG{v:N}(h:v<4294967296):Gh v<4294967296:=by
 unfold Gh;split
 .exact DL Aa Aa
 omega
def VJ(n:N): ∀{v:N},v<4294967296->EC n v<4294967296:=by
 induction n with
 |zero=>intro v h;exact h
 |succ n ih=>intro v h;exact ih (GG h)
def Nh{v:N}(h:v%2=1):Gh v=(v/2)^^^3988292384:=rd h
def Lx{v:N}(h:¬v%2=1):Gh v=v/2:=rc h
def YK(v:N)(b:υ):N:=EC 8 (v^^^b.toNat)
def KJ(l:E υ):N:=l.foldl YK 4294967295
def Ot(l:E υ)(b:υ):KJ (l++[b])=YK (KJ l) b:=by simp[KJ]
def Bz(s:Y):N:=4294967295- KJ s.data.toList
def EG(s:Y):Bz s<4294967296:=by unfold Bz;omega
def Qy(s:Y)(k:N)(h:k<s.size):s.data.toList.take (k+1)=s.data.toList.take k++[s[k]]:=by
 rw[xw (by simpa using h)];rfl
def Th(s:Y)(k:N)(h:¬k<s.size):s.data.toList.take k=s.data.toList:=sE (by simp;omega)
def FC(b:υ):b.toNat<256:=b.toNat_lt
def YL{u:N}(a:u<4294967296):bits .and .u32 (u:Z) 1=((u%2:N):Z):=by
 have:=vx u 1 a Aa;rw[nat_mask1] at this;exact this
def iP{u:N}(a:u<4294967296)(h:(bits .and .u32 (u:Z) 1==1)=true):u%2=1:=by
 rw[YL a] at h;simp at h;omega
def cI{u:N}(a:u<4294967296)(h:(bits .and .u32 (u:Z) 1==1)=false):¬u%2=1:=by
 rw[YL a] at h;simp at h;omega
def cJ{u:N}(a:u<4294967296):bits .xor .u32 ((u:Z)/2) 3988292384=((u/2^^^3988292384:N):Z):=by
 have:=uA (u/2) 3988292384 Aa Aa;rw[sR] at this;exact this
def cK{u:N}(a:u<4294967296):4294967295^^^u=4294967295- u:=by
 have h:=rI BitVec.toNat (BitVec.allOnes_xor (w:=32) (x:=BitVec.ofNat 32 u));rw[ym,BitVec.toNat_allOnes,BitVec.toNat_not,BitVec.toNat_ofNat,uF Aa] at h;exact h
def YM{u:N}(a:u<4294967296):bits .xor .u32 IntKind.u32.max (u:Z)=((4294967295- u:N):Z):=by
 have:=uA 4294967295 u Aa a;rw[cK a] at this;exact this
def cM{u:N}(a:u<4294967296):bits .xor Q (u:Z) 3988292384=((u^^^3988292384:N):Z):=BD u 3988292384 Aa Aa
open Go.RowKit Go.Maps Go.Proofs.Tryz
def DC(w n:N):N:=w/2^n|||w*2^(32- n)%4294967296
def Bh{w:N}(n:N)(h:w<4294967296):DC w n<4294967296:=cH (tR (uN _ _) h) (si _ Aa)
def VK(a:N)(h:a<9223372036854775808):wrap64 (a:Z)=(a:Z):=by rw[<-IntWalk.i64_left];exact Av a h
def mc{v n:N}(b:v<4294967296)(a:1<=n):v*2^(32- n)<9223372036854775808:=by
 have h:2^(32- n)<=2^31:=rG Aa Aa
 calc v*2^(32- n)<=v*2^31:=ve _ h
  _<9223372036854775808:=Aa
def ZH{v n:N}(a:v<4294967296)(e:1<=n):bits BinOp.or IntKind.i64 ((v:Z)/2^n) ((wrap64 ((v:Z)*2^(32- n))).tmod 4294967296)=(DC v n:Z):=by
 have f:=mc a e;have b:(v:Z)*2^(32- n)=((v*2^(32- n):N):Z):=by push_cast;rfl
 have c:(v:Z)/2^n=((v/2^n:N):Z):=by push_cast;rfl
 have d:((v*2^(32- n):N):Z).tmod 4294967296=((v*2^(32- n)%4294967296:N):Z):=by rw[tJ Aa];omega
 have g:v/2^n<4294967296:=tR (uN _ _) a;have h:v*2^(32- n)%4294967296<4294967296:=si _ Aa;rw[b,VK _ f,c,d,Or _ _ Aa Aa]
 rfl
def Ak(bs:E υ):E β:=bs.map λb=> I .u8 b.toNat
def VL(a:E υ): ∀s:Y,(a.map λb=>((b.toNat:N):Z)).foldl (λr n=>r.push (UInt8.ofNat n.toNat)) s=⟨(s.data.toList++a).toArray⟩:=by
 induction a with
 |nil=>intro s;simp
 |cons b r ih=>
  intro s;simp only[sP,vP];rw[ih];simp[ByteArray.push]
def Eh{P:Program}(w:U)(f d e:ν)(a:Addr)(c:N)(bs:E υ)(n:P.underlying f=J (.slice e))(m:P.underlying e=J (.int .u8))(l:P.underlying d=J .string)
 (h: ∀j v,(Ak bs)[j]? =J v->w.cell? (a.add j)=J v):
 (convert f d (K (J a) bs.length c)).run P w=.ok (G ⟨bs.toArray⟩) w:=by
 have g:=vj (P:=P) w a (Ak bs) h;have i:Ak bs=(bs.map λb=>((b.toNat:N):Z)).map (Value.int .u8):=by simp[Ak]
 have k:(Ak bs).length=bs.length:=by simp[Ak]
 rw[k,i] at g;rw[run_convert_bytes_string w f d e (J a) bs.length c n m l,run_bytesToString w a bs.length c _ g,VL]
 rfl
def b8(n:N):υ:=UInt8.ofNat n
def AL{n:N}(h:n<256):(b8 n).toNat=n:=by simp[b8,UInt8.toNat_ofNat'];omega
def Qz(n:N):E υ:=[b8 (n/16777216%256),b8 (n/65536%256),b8 (n/256%256),b8 (n%256)]
def kY(a:N):N:=(DC a 7^^^DC a 18)^^^a/8
def kZ(a:N):N:=(DC a 17^^^DC a 19)^^^a/1024
def iQ(a:N):N:=(DC a 2^^^DC a 13)^^^DC a 22
def cN(a:N):N:=(DC a 6^^^DC a 11)^^^DC a 25
def ZI(e f g:N):N:=(e&&&f)^^^((4294967295- e)&&&g)
def cO(a b c:N):N:=((a&&&b)^^^(a&&&c))^^^(b&&&c)
def cP{a:N}(h:a<4294967296):kY a<4294967296:=DL (DL (Bh _ h) (Bh _ h)) Aa
def cQ{a:N}(h:a<4294967296):kZ a<4294967296:=DL (DL (Bh _ h) (Bh _ h)) Aa
def cR{a:N}(h:a<4294967296):iQ a<4294967296:=DL (DL (Bh _ h) (Bh _ h)) (Bh _ h)
def cS{a:N}(h:a<4294967296):cN a<4294967296:=DL (DL (Bh _ h) (Bh _ h)) (Bh _ h)
def cT{e f g:N}(h:e<4294967296):ZI e f g<4294967296:=DL (FD _ h) (FD _ Aa)
def cU{a b c:N}(h:a<4294967296)(d:b<4294967296):cO a b c<4294967296:=DL (DL (FD _ h) (FD _ h)) (FD _ d)
def As(s:Y)(k:N):N:=if h:k<s.size then s[k].toNat else 0
def Bf(s:Y)(k:N):As s k<256:=by unfold As;split;exact FC _;omega
def AC{s:Y}{k:N}(h:k<s.size):s[k].toNat=As s k:=by unfold As;rw[uO h]
def CG{s:Y}{a b k:N}(h:a+k<b)(d:b<=s.size):As (s.extract a b) k=As s (a+k):=by
 have c:k<(s.extract a b).size:=by rw[rv];omega
 unfold As;rw[uO c,uO (show a+k<s.size by omega),ByteArray.getElem_extract]
def cC(s:Y)(k:N):N:=As s k*16777216+As s (k+1)*65536+As s (k+2)*256+As s (k+3)
def me(s:Y)(k:N):cC s k<4294967296:=by
 have:=Bf s k;have:=Bf s (k+1);have:=Bf s (k+2);have:=Bf s (k+3);unfold cC;omega
def Jz(s:Y):N->E N
 |0=>[]
 |t+1=>Jz s t++[if t<16 then cC s (4*t) else(kZ ((Jz s t).getD (t- 2) 0)+(Jz s t).getD (t- 7) 0+kY ((Jz s t).getD (t- 15) 0)+(Jz s t).getD (t- 16) 0)%4294967296]
def II(s:Y)(t:N):(Jz s t).length=t:=by
 induction t with
 |zero=>rfl
 |succ t ih=>simp[Jz,ih]
def wt(s:Y)(t:N):N:=(Jz s (t+1)).getD t 0
def Kj(s:Y)(n j:N)(h:j<n):(Jz s n).getD j 0=wt s j:=by
 induction n with
 |zero=>omega
 |succ n ih=>
  by_cases e:j=n
  .subst e;rfl
  rw[Jz,qT,rM (by rw[II];omega),<-qT];exact ih Aa
def VM(s:Y)(t:N)(h:t<16):wt s t=cC s (4*t):=by
 unfold wt;rw[Jz,qT,rE (by rw[II];omega),II];simp[h]
def RQ(s:Y)(t:N)(h:16<=t):wt s t=(kZ (wt s (t- 2))+wt s (t- 7)+kY (wt s (t- 15))+wt s (t- 16))%4294967296:=by
 conv=>lhs;unfold wt
 rw[Jz,qT,rE (by rw[II];omega),II];simp only[ut,List.getElem?_cons_zero,th];rw[rc Aa,Kj _ _ _ Aa,Kj _ _ _ Aa,Kj _ _ _ Aa,Kj _ _ _ Aa]
def KK(s:Y)(t:N):wt s t<4294967296:=by
 by_cases h:t<16
 .rw[VM s t h];exact me _ _
 rw[RQ s t Aa];exact si _ Aa
structure E8 where
 a:N
 b:N
 c:N
 d:N
 e:N
 f:N
 g:N
 h:N
def E8.ok(x:E8):Prop:=x.a<4294967296/\x.b<4294967296/\x.c<4294967296/\x.d<4294967296/\x.e<4294967296/\x.f<4294967296/\x.g<4294967296/\x.h<4294967296
def E8.xx(x:E8)(k w:N):N:=x.h+cN x.e+ZI x.e x.f x.g+k+w
def E8.yy(x:E8):N:=iQ x.a+cO x.a x.b x.c
def E8.round(x:E8)(k w:N):E8:=⟨(x.xx k w+x.yy)%4294967296,x.a,x.b,x.c,(x.d+x.xx k w)%4294967296,x.e,x.f,x.g⟩
def Cd(kf wf:N->N):N->E8->E8
 |0,x=>x
 |t+1,x=>(Cd kf wf t x).round (kf t) (wf t)
def E8.round_ok{x:E8}(h:x.ok)(k w:N):(x.round k w).ok:=⟨si _ Aa,h.1,h.2.1,h.2.2.1,si _ Aa,h.2.2.2.2.1,h.2.2.2.2.2.1,h.2.2.2.2.2.2.1⟩
def Mp(a b:N->N)(t:N){x:E8}(h:x.ok):(Cd a b t x).ok:=by
 induction t with
 |zero=>exact h
 |succ t ih=>exact E8.round_ok ih _ _
def E8.plus(x y:E8):E8:=⟨(x.a+y.a)%4294967296,(x.b+y.b)%4294967296,(x.c+y.c)%4294967296,(x.d+y.d)%4294967296,(x.e+y.e)%4294967296,(x.f+y.f)%4294967296,(x.g+y.g)%4294967296,(x.h+y.h)%4294967296⟩
def E8.plus_ok(x y:E8):(x.plus y).ok:=⟨si _ Aa,si _ Aa,si _ Aa,si _ Aa,si _ Aa,si _ Aa,si _ Aa,si _ Aa⟩
def Ni(kf:N->N)(x:E8)(s:Y):E8:=(Cd kf (wt s) 64 x).plus x
def cV(a:N->N)(x:E8)(s:Y):(Ni a x s).ok:=E8.plus_ok _ _
def E8.nth(x:E8):N->N
 |0=>x.a
 |1=>x.b
 |2=>x.c
 |3=>x.d
 |4=>x.e
 |5=>x.f
 |6=>x.g
 |_=>x.h
def E8.nth_lt{x:E8}(h:x.ok)(j:N):x.nth j<4294967296:=by
 obtain⟨h0,a,b,c,d,e,f,g⟩:=h
 match j with
 |0=>exact h0
 |1=>exact a
 |2=>exact b
 |3=>exact c
 |4=>exact d
 |5=>exact e
 |6=>exact f
 |_+7=>exact g
def E8.plus_nth(x y:E8)(j:N):(x.plus y).nth j=(x.nth j+y.nth j)%4294967296:=by
 match j with
 |0=>rfl
 |1=>rfl
 |2=>rfl
 |3=>rfl
 |4=>rfl
 |5=>rfl
 |6=>rfl
 |_+7=>rfl
def E8.cells_get(x:E8)(g:N->β)(j:N)(h:j<8):(#[g x.a,g x.b,g x.c,g x.d,g x.e,g x.f,g x.g,g x.h]:φ β)[j]? =J (g (x.nth j)):=by
 match j with
 |0=>rfl
 |1=>rfl
 |2=>rfl
 |3=>rfl
 |4=>rfl
 |5=>rfl
 |6=>rfl
 |7=>rfl
 |_+8=>omega
def oE{a:N}(h:a<4294967296):bits BinOp.xor IntKind.i64 (bits BinOp.xor IntKind.i64 (DC a 7) (DC a 18)) ((a:Z)/8)=(kY a:Z):=by
 have b:=Bh 7 h;have c:=Bh 18 h;rw[BD _ _ Aa Aa];exact BD _ (a/8) (by have:=DL b c;omega) Aa
def oF{a:N}(h:a<4294967296):bits BinOp.xor IntKind.i64 (bits BinOp.xor IntKind.i64 (DC a 17) (DC a 19)) ((a:Z)/1024)=(kZ a:Z):=by
 have b:=Bh 17 h;have c:=Bh 19 h;rw[BD _ _ Aa Aa];exact BD _ (a/1024) (by have:=DL b c;omega) Aa
def oG{a:N}(h:a<4294967296):bits BinOp.xor IntKind.i64 (bits BinOp.xor IntKind.i64 (DC a 2) (DC a 13)) (DC a 22)=(iQ a:Z):=by
 have h1:=Bh 2 h;have h2:=Bh 13 h;have b:=Bh 22 h;exact abe
def oH{a:N}(h:a<4294967296):bits BinOp.xor IntKind.i64 (bits BinOp.xor IntKind.i64 (DC a 6) (DC a 11)) (DC a 25)=(cN a:Z):=by
 have h1:=Bh 6 h;have h2:=Bh 11 h;have b:=Bh 25 h;exact abe
def oI{e f g:N}(b:e<4294967296)(h:f<4294967296)(i:g<4294967296):
 bits BinOp.xor IntKind.i64 (bits BinOp.and IntKind.i64 e f) (bits BinOp.and IntKind.i64 (4294967295- (e:Z)) g)=(ZI e f g:Z):=by
 have a:(4294967295- (e:Z))=((4294967295- e:N):Z):=Aa;have c:=FD f b;have d:=FD g (show 4294967295- e<4294967296 by omega);rw[a,Dt _ _ Aa Aa,Dt _ _ Aa Aa,BD _ _ Aa Aa]
 rfl
def oJ{a b c:N}(d:a<4294967296)(g:b<4294967296)(j:c<4294967296):
 bits BinOp.xor IntKind.i64 (bits BinOp.xor IntKind.i64 (bits BinOp.and IntKind.i64 a b) (bits BinOp.and IntKind.i64 a c)) (bits BinOp.and IntKind.i64 b c)=(cO a b c:Z):=by
 have e:=FD b d;have f:=FD c d;have h:=FD c g;have i:=DL e f;rw[Dt _ _ Aa Aa,Dt _ _ Aa Aa,Dt _ _ Aa Aa,BD _ _ Aa Aa,BD _ _ Aa Aa]
 rfl
def AU(s:Y)(i:N):N:=As s (i/8)/2^(i%8)%2
def FE(s:Y)(i:N):AU s i<2:=si _ Aa
def Aq(s:Y)(a:N):N->N
 |0=>0
 |n+1=>Aq s a n+AU s (a+n)*2^n
def Cf(s:Y)(a n:N):Aq s a n<2^n:=by
 induction n with
 |zero=>exact xN
 |succ n ih=>
  have h:=FE s (a+n);have b:AU s (a+n)*2^n<=1*2^n:=sA _ Aa;rw[Aq,tV];omega
def Mq(s:Y)(a m n:N):Aq s a (m+n)=Aq s a m+Aq s (a+m) n*2^m:=by
 induction n with
 |zero=>simp[Aq]
 |succ n ih=>rw[<-sM,Aq,Aq,ih,vK,sM a m n,xr,<-uW,uL n m];omega
def ZJ(s:Y)(a:N):Aq s a 1=AU s a:=by simp[Aq]
def BS(L:E N)(n:N):E N:=(List.range L.length).filter λi=>L.getD i 0==n
def AJ(L:E N):N->N
 |0=>0
 |n+1=>2*(AJ L n+if n=0 then 0 else(BS L n).length)
def Ou(L:E N)(n:N):(BS L n).length<=L.length:=by
 unfold BS;exact rz (vA _ _) Ad
def Kk(L:E N)(n:N):AJ L n+2*L.length<=2^(n+1)*L.length:=by
 induction n with
 |zero=>rw[AJ];omega
 |succ n ih=>
  rw[AJ,tV];have a:=Ou L n;have b:(if n=0 then 0 else(BS L n).length)<=L.length:=by split<;>omega
  have e:2^(n+1)*2*L.length=2*(2^(n+1)*L.length):=by rw[tP (2^(n+1)) 2,xr]
  omega
def DM(s:Y)(L:E N):N->N->N->Option (N×N)
 |0,_,_=>O
 |k+1,v,a=>
  if a<8*s.size then
   if AJ L (15- k)<=2*v+AU s a/\2*v+AU s a<AJ L (15- k)+(BS L (15- k)).length then J ((BS L (15- k)).getD (2*v+AU s a- AJ L (15- k)) 0,a+1)
   else DM s L k (2*v+AU s a) (a+1)
  else O
def dec(s:Y)(L:E N)(a:N):Option (N×N):=DM s L 15 0 a
def Ti{s:Y}{L:E N}: ∀{k v a y a' :N},DM s L k v a=J (y,a')->a<a' /\a' <=8*s.size/\y<L.length
 |0,v,a,y,a',h=>by cases h
 |k+1,v,a,y,a',h=>by
  rw[DM] at h;split at h
  .split at h
   .rename_i h1 h2;injection h with h;injection h with h3 h4;refine⟨Aa,Aa, ?_⟩;have b:y∈BS L (15- k):=by
     rw[<-h3,qT,qY Aa,th];exact ro _
    unfold BS at b;exact rJ.1 (vk.1 b).1
   have:=Ti h;omega
  cases h
def FR{s:Y}{L:E N}{a y a' :N}(h:dec s L a=J (y,a')):a<a' /\a' <=8*s.size/\y<L.length:=Ti h
def AK(y:N):N:=if y<=264 then 0 else if y=285 then 0 else(y- 261)/4
def Bc(y:N):N:=if y<=264 then y- 254 else if y=285 then 258 else 3+2^((y- 261)/4)*(4+(y- 261)%4)
def AZ(d:N):N:=if d<4 then 0 else d/2- 1
def AV(d:N):N:=if d<4 then d+1 else 1+2^(d/2- 1)*(2+d%2)
def BN(o:E υ)(far:N):N->E υ
 |0=>o
 |n+1=>BN o far n++[(BN o far n).getD ((BN o far n).length- far) 0]
def Kl(o:E υ)(a n:N):(BN o a n).length=o.length+n:=by
 induction n with
 |zero=>rfl
 |succ n ih=>rw[BN,qU,ih];rfl
abbrev ZK:=(N×E υ) ⊕ N
abbrev qB:=ZK ⊕ (N×E υ)
def EL(s:Y)(D:E N)(y a1:N)(o:E υ):qB:=
 if 8*s.size<a1+AK y then .inl (.inr 2)
 else match dec s D (a1+AK y) with
  |none=> .inl (.inr 2)
  |some (d,a3)=>
   if 29<d then .inl (.inr 2)
   else if 8*s.size<a3+AZ d then .inl (.inr 2)
   else if o.length<AV d+Aq s a3 (AZ d) then .inl (.inr 2)
   else if 20000<o.length+(Bc y+Aq s a1 (AK y)) then .inl (.inr 1)
   else .inr ((a3+AZ d),(BN o (AV d+Aq s a3 (AZ d)) (Bc y+Aq s a1 (AK y))))
def Er(s:Y)(L D:E N)(a:N)(o:E υ):qB:=
 match dec s L a with
 |none=> .inl (.inr 2)
 |some (y,a1)=>
  if y=256 then .inl (.inl (a1,o))
  else if y<256 then(if 20000<=o.length then .inl (.inr 1) else .inr (a1,(o++[b8 y])))
  else if 285<y then .inl (.inr 2)
  else EL s D y a1 o
def cW{s:Y}{D:E N}{y a1:N}{o:E υ}{a' :N}{a :E υ}(h:EL s D y a1 o=.inr (a',a)):a1<a' /\a' <=8*s.size:=by
 unfold EL at h;split at h
 .cases h
 split at h
 .cases h
 rename_i d a3 hd;have:=FR hd;exact acb
def Ov{s:Y}{L D:E N}{a:N}{o:E υ}{a' :N}{b :E υ}(h:Er s L D a o=.inr (a',b)):a<a' /\a' <=8*s.size:=by
 unfold Er at h;split at h
 .cases h
 rename_i y a1 hd;have:=FR hd;split at h
 .cases h
 split at h
 .exact wk
 split at h
 .cases h
 have:=cW h;omega
def Ly(s:Y)(L D:E N):N->N->E υ->ZK
 |0,_,_=> .inr 2
 |f+1,a,o=>match Er s L D a o with
  | .inl r=>r
  | .inr (a',o')=>Ly s L D f a' o'
def Lz{s:Y}{L D:E N}: ∀{f b a:N} {o:E υ},8*s.size<a+f->8*s.size<a+b ->a<=8*s.size->Ly s L D f a o=Ly s L D b a o
 |0,_,a,o,h,_,ha=>by omega
 |_+1,0,a,o,_,h,ha=>by omega
 |f+1,b +1,a,o,h1,h2,ha=>by
  rw[Ly,Ly];exact abh
def EU(s:Y)(L D:E N)(a:N)(o:E υ):ZK:=Ly s L D (8*s.size+1) a o
def Km{s:Y}{L D:E N}{a:N}{o:E υ}:EU s L D a o=match Er s L D a o with| .inl r=>r| .inr (a',o')=>EU s L D a' o' :=by
 rw[EU,Ly];exact abh
def JG(s:Y)(b n:N):E υ:=(List.range n).map λi=>b8 (As s (b+i))
def Tj(s:Y)(b n:N):(JG s b n).length=n:=by simp[JG]
def ZL(s:Y)(b n:N):JG s b (n+1)=JG s b n++[b8 (As s (b+n))]:=by simp[JG,tA]
def BT(a:N):N:=(a+7)/8*8
def Gi(s:Y)(a:N)(o:E υ):ZK:=
 if 8*s.size<BT a+32 then .inr 2
 else if Aq s (BT a) 16+Aq s (BT a+16) 16≠65535 then .inr 2
 else if 20000<o.length+Aq s (BT a) 16 then .inr 1
 else if 8*s.size<BT a+32+8*Aq s (BT a) 16 then .inr 2
 else .inl ((BT a+32+8*Aq s (BT a) 16),(o++JG s (BT a/8+4) (Aq s (BT a) 16)))
def Ip(L:E N):N:=(L.map λl=>if l=0 then 0 else 2^(15- l)).sum
def EV(L:E N):N:=(L.filter λl=>l !=0).length
def Ei(L:E N):Bool:=Ip L==32768
def Gj(L:E N):Bool:=Ip L==32768||EV L==0||(EV L==1&&Ip L==16384)
def Bd(y:N):N:=if y=16 then 2 else if y=17 then 3 else if y=18 then 7 else 0
def BA(y:N):N:=if y=16 then 3 else if y=17 then 3 else if y=18 then 11 else 1
def EW(y:N)(l:E N):N:=if y=16 then l.getD (l.length- 1) 0 else if 15<y then 0 else y
def Cy(s:Y)(C:E N)(many a:N)(l:E N):Option (N×E N):=
 match dec s C a with
 |none=>O
 |some (y,a1)=>
  if y=16/\l.length=0 then O
  else if 8*s.size<a1+Bd y then O
  else if many<l.length+(BA y+Aq s a1 (Bd y)) then O
  else J (a1+Bd y,l++List.replicate (BA y+Aq s a1 (Bd y)) (EW y l))
def Ow{s:Y}{C:E N}{many a:N}{l:E N}{a' :N}{b :E N}(h:Cy s C many a l=J (a',b)):a<a' /\a' <=8*s.size/\l.length<b.length/\b.length<=many:=by
 unfold Cy at h;split at h
 .cases h
 rename_i y a1 hd;have:=FR hd;split at h
 .cases h
 split at h
 .cases h
 split at h
 .cases h
 injection h with h;injection h with h1 h2;have c:0<BA y:=by unfold BA;repeat (first|split|omega)
 rw[<-h2,qU,rP];omega
def KL(s:Y)(C:E N)(many:N):N->N->E N->Option (N×E N)
 |0,_,_=>O
 |f+1,a,l=>if l.length<many then(match Cy s C many a l with
  |none=>O
  |some (a',l')=>KL s C many f a' l') else J (a,l)
def LA{s:Y}{C:E N}{many:N}: ∀{f b a:N} {l:E N},many<l.length+f->many<l.length+b ->l.length<=many->KL s C many f a l=KL s C many b a l
 |0,_,a,l,h,_,ha=>by omega
 |_+1,0,a,l,_,h,ha=>by omega
 |f+1,b +1,a,l,h1,h2,ha=>by
  rw[KL,KL];split
  .exact abg
  rfl
def GH(s:Y)(C:E N)(many a:N)(l:E N):Option (N×E N):=KL s C many (many+1) a l
def BZ{s:Y}{C:E N}{many a:N}{l:E N}(h:l.length<many):GH s C many a l=match Cy s C many a l with|none=>O|some (a',l')=>GH s C many a' l' :=by
 rw[GH,KL,rd h];exact abg
def QA{s:Y}{C:E N}{many a:N}{l:E N}(h:¬l.length<many):GH s C many a l=J (a,l):=by
 rw[GH,KL,rc h]
def Cx:E N:=[16,17,18,0,8,7,9,6,10,5,11,4,12,3,13,2,14,1,15]
def FT(s:Y)(a:N):N->E N
 |0=>List.replicate 19 0
 |k+1=>(FT s a k).set (Cx.getD k 0) (Aq s (a+3*k) 3)
def GI(s:Y)(a k:N):(FT s a k).length=19:=by
 induction k with
 |zero=>rfl
 |succ k ih=>rw[FT,rK,ih]
def Ca(s:Y)(a:N):Option (N×E N×E N):=
 if 8*s.size<a+14 then O
 else if 286<257+Aq s a 5\/30<1+Aq s (a+5) 5 then O
 else if 8*s.size<a+14+3*(4+Aq s (a+10) 4) then O
 else if Ei (FT s (a+14) (4+Aq s (a+10) 4))=false then O
 else match GH s (FT s (a+14) (4+Aq s (a+10) 4)) (257+Aq s a 5+(1+Aq s (a+5) 5)) (a+14+3*(4+Aq s (a+10) 4)) [] with
  |none=>O
  |some (a',l)=>
   if Ei (l.take (257+Aq s a 5))=true/\Gj (l.drop (257+Aq s a 5))=true/\l.getD 256 0≠0 then J (a',l.take (257+Aq s a 5),l.drop (257+Aq s a 5)) else O
def BO:E N:=List.replicate 144 8++List.replicate 112 9++List.replicate 24 7++List.replicate 8 8
def Cz:E N:=List.replicate 32 5
def Es(s:Y)(a:N)(o:E υ):ZK:=
 match Aq s (a+1) 2 with
 |0=>Gi s (a+3) o
 |1=>EU s BO Cz (a+3) o
 |2=>match Ca s (a+3) with
  |none=> .inr 2
  |some (a',L,D)=>EU s L D a' o
 |_=> .inr 2
def DT(s:Y)(a:N)(o:E υ):ZK:=if 8*s.size<a+3 then .inr 2 else Es s a o
structure Ag (S:N->Prop) (w w' :U):Prop where
 os:w'.os=w.os
 tape:w'.tape=w.tape
 output:w'.output=w.output
 size:w.heap.size<=w'.heap.size
 block: ∀k,k<w.heap.size->¬S k->w'.heap[k]? =w.heap[k]?
def Al(w w' :U):Prop:=Ag (λ_=>False) w w'
def Ag.refl(S:N->Prop)(w:U):Ag S w w:=⟨rfl,rfl,rfl,rj _,λ_ _ _=>rfl⟩
def Ag.trans{S:N->Prop}{a b c:U}(h:Ag S a b)(k:Ag S b c):Ag S a c:=
 ⟨k.os.trans h.os,k.tape.trans h.tape,k.output.trans h.output,rz h.size k.size,λi d e=>(k.block i (rW d h.size) e).trans (h.block i d e)⟩
def Ag.transNew{S T:N->Prop}{a b c:U}(h:Ag S a b)(k:Ag T b c)(f: ∀i,i<a.heap.size->T i->S i):Ag S a c:=
 ⟨k.os.trans h.os,k.tape.trans h.tape,k.output.trans h.output,rz h.size k.size,λi d e=>(k.block i (rW d h.size) (λg=>e (f i d g))).trans (h.block i d e)⟩
def Ag.mono{S T:N->Prop}{a b:U}(h:Ag S a b)(d: ∀i,i<a.heap.size->S i->T i):Ag T a b:=
 ⟨h.os,h.tape,h.output,h.size,λi c e=>h.block i c (λx=>e (d i c x))⟩
def Ag.drewN{S:N->Prop}{a b:U}(h:Ag S a b)(n:N):Ag S a (b.drewN n):=⟨h.os,h.tape,h.output,h.size,h.block⟩
def Ag.drew{S:N->Prop}{a b:U}(h:Ag S a b):Ag S a b.drew:=⟨h.os,h.tape,h.output,h.size,h.block⟩
def Ag.alloc{S:N->Prop}{a w:U}(h:Ag S a w)(o:Obj):Ag S a (w.alloc o):=
 h.trans ⟨rfl,rfl,rfl,Ad,λk b _=>Below.heap_alloc _ _ _ b⟩
def Ag.setCell{S:N->Prop}{a w:U}(h:Ag S a w){p:Addr}(hp:p.block<a.heap.size->S p.block)(u:β):Ag S a (w.setCell p u):=
 h.transNew (T:=λk=>k=p.block) ⟨rfl,rfl,rfl,by simp[World.setCell],λk _ c=>vo _ _ _ _ c⟩ (λi b e=>by subst e;exact hp b)
def Ag.grown{S:N->Prop}{a w w' :U}{b:Option N}(h:Ag S a w)(c:w.grownBy w' b)(g: ∀k,k<a.heap.size->b=J k->S k):Ag S a w' :=
 h.transNew (T:=λk=>b=J k) ⟨c.os,c.tape,c.output,c.size,λk f j=>c.block k f (λe=>j e.symm)⟩ (λi d e=>g i d e)
def Ag.cell{S:N->Prop}{w w' :U}(h:Ag S w w'){p:Addr}(hp:p.block<w.heap.size)(a:¬S p.block):w'.cell? p=w.cell? p:=World.cell?_of_block (w:=w) (h.block p.block hp a)
def Ag.below{S:N->Prop}{w w' :U}(h:Ag S w w')(B:N)(c:B<=w.heap.size)(b: ∀k,k<B->¬S k):Below B w w' :=⟨h.os,h.tape,h.output,h.size,λk a=>h.block k Aa (b k a)⟩
def Ap(w:U)(b i:N)(u:β):Ag (λk=>k=b) w (w.setCell ⟨b,i,O⟩ u):=(Ag.refl (λk=>k=b) w).setCell (p:=⟨b,i,O⟩) (λ_=>rfl) u
def DR(w:U)(g:N)(e:ν)(n:N)(f:N->β):Prop:=
 ∃cur:φ β,w.heap[g]? =J (γ cur e (0,0))/\n<=cur.size/\∀j,j<n->cur[j]? =J (f j)
def DR.lt{w:U}{g n:N}{e:ν}{f:N->β}(h:DR w g e n f):g<w.heap.size:=wC
def DR.cell{w:U}{g n:N}{e:ν}{f:N->β}(h:DR w g e n f)(j:N)(d:j<n):w.cell? ⟨g,j,O⟩=J (f j):=by
 obtain⟨a,c,_,b⟩:=h;rw[qV w g j a e (0,0) c];exact b j d
def DR.thaw{w:U}{g n:N}{e:ν}{f:N->β}(h:DR w g e n f)(o:N):w.frozen? ⟨g,o,O⟩=false:=by
 obtain⟨a,b,_⟩:=h;exact rp w g o a e b
def DR.kept{w w' :U}{g n:N}{e:ν}{f:N->β}{S:N->Prop}(h:DR w g e n f)(d:Ag S w w')(i:¬S g):DR w' g e n f:=by
 have c:=h.lt;obtain⟨a,b,r⟩:=h;exact⟨a,(d.block g c i).trans b,r⟩
def DR.old{w w' :U}{g n:N}{e:ν}{f:N->β}(h:DR w g e n f)(a:Al w w'):DR w' g e n f:=h.kept a (λx=>x)
def DR.drewN{w:U}{g n:N}{e:ν}{f:N->β}(h:DR w g e n f)(m:N):DR (w.drewN m) g e n f:=h
def DR.drew{w:U}{g n:N}{e:ν}{f:N->β}(h:DR w g e n f):DR w.drew g e n f:=h
def DR.alloc{w:U}{g n:N}{e:ν}{f:N->β}(h:DR w g e n f)(o:Obj):DR (w.alloc o) g e n f:=h.kept ((Ag.refl (λ_=>False) w).alloc o) (λx=>x)
def DR.congr{w:U}{g n:N}{e:ν}{f b :N->β}(h:DR w g e n f)(i: ∀j,j<n->f j=b j):DR w g e n b :=by
 obtain⟨a,k,l,d⟩:=h;exact⟨a,k,l,λj c=>(d j c).trans (by rw[i j c])⟩
def DR.set{w:U}{g n:N}{e:ν}{f:N->β}(h:DR w g e n f)(i:N)(m:i<n)(v:β):DR (w.setCell ⟨g,i,O⟩ v) g e n (λj=>if j=i then v else f j):=by
 obtain⟨a,d,l,c⟩:=h;refine⟨_,ru w g i a e v d,by simpa using l,λj k=> ?_⟩;rw[sg];by_cases b:i=j
 .subst b;rw[rd rfl,rd Aa];exact rI J (rd rfl).symm
 rw[rc b,c j k];exact rI J (rc (λh:j=i=>b h.symm)).symm
def DR.setOther{w:U}{g n:N}{e:ν}{f:N->β}(h:DR w g e n f)(b i:N)(a:g≠b)(v:β):DR (w.setCell ⟨b,i,O⟩ v) g e n f:=h.kept (Ap w b i v) a
def DR.new(w:U)(a:φ β)(e:ν)(n:N)(f:N->β)(c:n<=a.size)(b: ∀j,j<n->a[j]? =J (f j)):DR (w.alloc (γ a e)) w.heap.size e n f:=
 ⟨a,rh w _,c,b⟩
def Ag.setRow{S:N->Prop}{a w:U}(h:Ag S a w)(g:N)(hp:g<a.heap.size->S g)(b:φ β):Ag S a (w.setRow g b):=
 h.transNew (T:=λk=>k=g) ⟨rfl,rfl,rfl,by simp[World.setRow],λk _ d=>yo w g k b d⟩ (λi c e=>by subst e;exact hp c)
def CE(n:N)(f:N->β):φ β:=((List.range n).map f).toArray
def Bi(n:N)(f:N->β):(CE n f).size=n:=by simp[CE]
def IJ(n:N)(f:N->β)(j:N)(h:j<n):(CE n f)[j]? =J (f j):=by simp[CE,h]
def Je{n:N}{f a :N->β}(h: ∀j,j<n->f j=a j):CE n f=CE n a :=by
 unfold CE;rw[xL (λj b=>h j (rJ.1 b))]
def cX(n:N)(f:N->β)(i:N)(v:β):(CE n f).setIfInBounds i v=CE n (λj=>if j=i then v else f j):=by
 apply xR;intro j;rw[sg];by_cases a:j<n
 .rw[IJ n (λj=>if j=i then v else f j) j a,IJ n f j a,Bi];by_cases e:i=j
  .subst e;rw[rd rfl,rd a,rd rfl]
  rw[rc e,rc (λh:j=i=>e h.symm)]
 rw[se (by rw[Bi];omega),Bi];by_cases e:i=j
 .subst e;rw[rd rfl,rc a];exact(se (by rw[Bi];omega)).symm
 rw[rc e];exact(se (by rw[Bi];omega)).symm
def ES(w:U)(g:N)(t:ν)(n:N)(f:N->β):Prop:=w.heap[g]? =J (γ (CE n f) t (0,0))
def ES.row{w:U}{g n:N}{t:ν}{f:N->β}(h:ES w g t n f):DR w g t n f:=⟨_,h,by rw[Bi];exact rj _,λj a=>IJ n f j a⟩
def ES.lt{w:U}{g n:N}{t:ν}{f:N->β}(h:ES w g t n f):g<w.heap.size:=h.row.lt
def ES.kept{w w' :U}{g n:N}{t:ν}{f:N->β}{S:N->Prop}(h:ES w g t n f)(a:Ag S w w')(b:¬S g):ES w' g t n f:=(a.block g h.lt b).trans h
def ES.old{w w' :U}{g n:N}{t:ν}{f:N->β}(h:ES w g t n f)(a:Al w w'):ES w' g t n f:=h.kept a (λx=>x)
def ES.set{w:U}{g n:N}{t:ν}{f:N->β}(h:ES w g t n f)(i:N)(v:β):ES (w.setCell ⟨g,i,O⟩ v) g t n (λj=>if j=i then v else f j):=by
 unfold ES;rw[ru w g i _ _ v h,cX]
def ES.setOther{w:U}{g n:N}{t:ν}{f:N->β}(h:ES w g t n f)(b i:N)(a:g≠b)(v:β):ES (w.setCell ⟨b,i,O⟩ v) g t n f:=h.kept (Ap w b i v) a
def ES.congr{w:U}{g n:N}{t:ν}{f a :N->β}(h:ES w g t n f)(b: ∀j,j<n->f j=a j):ES w g t n a :=by unfold ES;rw[<-Je b];exact h
def ES.drewN{w:U}{g n:N}{t:ν}{f:N->β}(h:ES w g t n f)(m:N):ES (w.drewN m) g t n f:=h
def ES.alloc{w:U}{g n:N}{t:ν}{f:N->β}(h:ES w g t n f)(o:Obj):ES (w.alloc o) g t n f:=h.kept ((Ag.refl (λ_=>False) w).alloc o) (λx=>x)
def ES.mk'{w:U}{g:N}{a:φ β}{t:ν}{n:N}{f:N->β}(b:g=w.heap.size)(h:a=CE n f):ES (w.alloc (γ a t)) g t n f:=by subst h b;exact rh w _
abbrev qC:ν:=228
def qI(s:Y)(a:N)(o:β)(e:N):φ β:= #[G s,I Q a,o,I Q e]
def Rd(w:U)(g:N)(s:Y)(a:N)(o:β)(e:N):Prop:=w.heap[g]? =J (γ (qI s a o e) qC (0,0))
def NW(e n:N):N:=if e=0 then n else e
def Rd.lt{w:U}{g:N}{s:Y}{a:N}{o:β}{e:N}(h:Rd w g s a o e):g<w.heap.size:=(qW.1 h).1
def Rd.c0{w:U}{g:N}{s:Y}{a:N}{o:β}{e:N}(h:Rd w g s a o e):w.cell? ⟨g,0,O⟩=J (G s):=by rw[qV w g 0 _ _ (0,0) h];rfl
def Rd.c1{w:U}{g:N}{s:Y}{a:N}{o:β}{e:N}(h:Rd w g s a o e):w.cell? ⟨g,1,O⟩=J (I Q a):=by rw[qV w g 1 _ _ (0,0) h];rfl
def Rd.c2{w:U}{g:N}{s:Y}{a:N}{o:β}{e:N}(h:Rd w g s a o e):w.cell? ⟨g,2,O⟩=J o:=by rw[qV w g 2 _ _ (0,0) h];rfl
def Rd.c3{w:U}{g:N}{s:Y}{a:N}{o:β}{e:N}(h:Rd w g s a o e):w.cell? ⟨g,3,O⟩=J (I Q e):=by rw[qV w g 3 _ _ (0,0) h];rfl
def Rd.thaw{w:U}{g:N}{s:Y}{a:N}{o:β}{e:N}(h:Rd w g s a o e)(i:N):w.frozen? ⟨g,i,O⟩=false:=rp w g i _ _ h
def Rd.set1{w:U}{g:N}{s:Y}{a:N}{o:β}{e:N}(h:Rd w g s a o e){v:β}{a' :N}(b:v=I Q a'):Rd (w.setCell ⟨g,1,O⟩ v) g s a' o e:=by subst b;exact ru w g 1 _ _ _ h
def Rd.set2{w:U}{g:N}{s:Y}{a:N}{o:β}{e:N}(h:Rd w g s a o e)(b :β):Rd (w.setCell ⟨g,2,O⟩ b) g s a b e:=ru w g 2 _ _ _ h
def Rd.set3{w:U}{g:N}{s:Y}{a:N}{o:β}{e:N}(h:Rd w g s a o e){v:β}{b :N}(c:v=I Q b):Rd (w.setCell ⟨g,3,O⟩ v) g s a o b :=by subst c;exact ru w g 3 _ _ _ h
def Rd.kept{S:N->Prop}{w w' :U}{g:N}{s:Y}{a:N}{o:β}{e:N}(h:Rd w g s a o e)(b:Ag S w w')(c:¬S g):Rd w' g s a o e:=(b.block g h.lt c).trans h
def Rd.drewN{w:U}{g:N}{s:Y}{a:N}{o:β}{e:N}(h:Rd w g s a o e)(n:N):Rd (w.drewN n) g s a o e:=h
def YN(n:N)(h:n<9223372036854775808):bits .and Q (n:Z) 1=((n%2:N):Z):=by
 have:=Dt n 1 h Aa;rw[nat_mask1] at this;exact this
def cY{b i:N}(c:b<256):bits .and Q ((b:Z)/2^i) 1=((b/2^i%2:N):Z):=by
 have e:(b:Z)/2^i=((b/2^i:N):Z):=by rw[sR,so];rfl
 have a:b/2^i<9223372036854775808:=tR (uN _ _) Aa;rw[e,YN _ a]
def Cg(g:N)(s:Y)(a:N)(o:β)(e n:N)(w:U)(h:Rd w g s a o e):
 μ prog 196 #[δ (J ⟨g,0,O⟩),I Q n] w λr w' =>r=ε (.tuple #[])/\Rd w' g s a o (NW e n)/\Ag (λk=>k=g) w w' :=by
 have f:=h.c3;have i:=h.thaw 3;have b:=Af h;clear h;by_cases c:e=0
 .subst c;go_in;go_wp2_with fail;go_end0;exact⟨rfl,b.set3 rfl,(Ag.refl (λk=>k=g) w).setCell (p:=⟨g,3,O⟩) (λ_=>rfl) _⟩
 have d:((e:Z)==0)=false:=by rw[re];omega
 go_in;go_wp2_with fail;go_end0;exact⟨rfl,by rw[NW,rc c];exact b,Ag.refl _ w⟩
def RR(g:N)(s:Y)(F:s.size<=140737488355328)(a:N)(o:β)(e:N)(B:a<=8*s.size)(w:U)(h:Rd w g s a o e):
 μ prog 190 #[δ (J ⟨g,0,O⟩)] w λr w' =>
  r=ε (I Q (if a<8*s.size then AU s a else 0:N))/\Rd w' g s (if a<8*s.size then a+1 else a) o (if a<8*s.size then e else NW e 2)/\Ag (λk=>k=g) w w' :=by
 have h0:=h.c0;have m:=h.c1;have D:=h.thaw 1;have l:=Af h;have c:=Af (λw1 (m:Rd w1 g s a o e)=>Cg g s a o e 2 w1 m);clear h;by_cases x:a<8*s.size
 .have t:a/8<s.size:=Aa;have v:(a:Z)/8<(s.size:Z):=Aa;have u:(0:Z)<=(a:Z)/8:=Aa;have A:((a:Z)/8).toNat=a/8:=Aa;have y:(0:Z)<=(a:Z)%8:=Aa;have z:((a:Z)%8).toNat=a%8:=Aa;have C:=AC (s:=s) (k:=a/8) t;have d:=Bf s (a/8);have n:χ (AU s a=As s (a/8)/2^(a%8)%2):=rfl;have q:=cY (i:=a%8) d;generalize As s (a/8)=b at*;go_in;go_wp2_with fail;go_quiet (fail);go_wp2_with fail;go_quiet (fail);go_wp2;go_ret;refine⟨Bb (rI (Value.int Q) ?_), ?_, ?_⟩
  .rw[uh n,uY,sR,so];rfl
  .exact (l.drewN _).set1 (by congr 1)
  exact aal
 go_in;go_wp2_with fail;go_quiet (fail);go_wp2_with fail;refine(c _ (l.drewN _)).mono ?_;rintro r w1 ⟨rfl,j,f⟩;go_wp2;go_ret;exact⟨rfl,j,((Ag.refl _ w).drewN _).trans f⟩
def iR(e n:N)(h:n≠0):NW (NW e n) n=NW e n:=by unfold NW;split<;>simp_all
def DD(s:Y)(a e n v a' e' :N):Prop:=v<2^n/\a' <=8*s.size/\((a+n<=8*s.size/\v=Aq s a n/\a' =a+n/\e' =e)\/(8*s.size<a+n/\a' =8*s.size/\e' =NW e 2))
def DD.next{s:Y}{a e n v a' c :N}(h:DD s a e n v a' c):
 DD s a e (n+1) (v+(if a' <8*s.size then AU s a' else 0)*2^n) (if a' <8*s.size then a' +1 else a') (if a' <8*s.size then c else NW c 2):=by
 obtain⟨g,i,d⟩:=h;have j:=FE s a';rcases d with⟨d,f,rfl,rfl⟩|⟨d,rfl,rfl⟩
 .by_cases b:a+n<8*s.size
  .rw[rd b,rd b,rd b];refine⟨?_,Aa,.inl ⟨Aa,by rw[Aq,f],Aa,rfl⟩⟩;have:AU s (a+n)*2^n<=1*2^n:=sA _ Aa;rw[tV];omega
  rw[rc b,rc b,rc b];refine⟨by rw[tV];omega,Aa,.inr ⟨Aa,Aa,rfl⟩⟩
 rw[rc Aa,rc Aa,rc Aa,iR _ _ Aa];exact⟨by rw[tV];omega,Aa,.inr ⟨Aa,rfl,rfl⟩⟩
def Cj(g:N)(s:Y)(W:s.size<=140737488355328)(a:N)(o:β)(e n:N)(hn:n<=16)(R:a<=8*s.size)(w:U)(h:Rd w g s a o e):
 μ prog 191 #[δ (J ⟨g,0,O⟩),I Q n] w λr w' =>
  ∃v a' d :N,r=ε (I Q v)/\DD s a e n v a' d /\Rd w' g s a' o d /\Ag (λk=>k=g) w w' :=by
 have M:=Af h;have L:χ (DD s a e 0 0 a e):=⟨xN,R,.inl ⟨Aa,rfl,rfl,rfl⟩⟩;clear h;go_in;go_wp2;go_loopw [5,6,7,8] (λx y z _ wr=> ∃v u i:N,i<=n/\x=I Q v/\y=I Q u/\z=I Q i/\χ (∃a' d,DD s a e i v a' d /\Rd wr g s a' o d /\u=2^i)/\χ (Ag (λk=>k=g) w wr)) (λ_ _ z _ _=>n- (intOf z).toNat)
 .exact ⟨0,1,0,Aa,rfl,rfl,rfl,⟨a,e,L,M,rfl⟩,Ag.refl _ w⟩
 obtain⟨v,u,i,hi,rfl,rfl,rfl,F,H⟩:=hrel;by_cases S:i<n
 .obtain ⟨a',d,b,f,C⟩:=uh F;have D:=Af (RR g s W a' o d b.2.1 wr f);have c:=Af b.next;have B:2^i<=32768:=rG (n:=2) Aa (show i<=15 by omega);have X:u<=32768:=Aa;have a0:v<65536:=by have:=b.1;omega
  have t:(if a' <8*s.size then AU s a' else 0)<2:=by split;exact FE _ _;omega
  rw[<-C] at c;have P:χ (2*u=2^(i+1)):=by unfold χ;rw[tV,C];omega
  generalize(if a' <8*s.size then AU s a' else 0)=bv at D c t;obtain⟨p,hp⟩: ∃p,p=bv*u:=⟨_,rfl⟩;have T:(bv:Z)*(u:Z)=(p:Z):=by rw[hp];exact(sY _ _).symm
  have V:p<=32768:=by have:bv*u<=1*u:=sA _ Aa;omega
  rw[<-hp] at c;clear hp C b f B;go_wp2_with (go_at_call 190;refine D.mono ?_;rintro r w1 ⟨rfl,l,j⟩;have q:=Af l;have m:=Af j;clear l j);go_roundw
  .exact ⟨v+p,2*u,i+1,Aa,by go_num,by go_num,by go_num,⟨_,_,c,q,P⟩,H.trans (uh m)⟩
  exact Ae
 have A:i=n:=Aa;subst A;go_wp2;go_ret;obtain⟨a',d,b,f,_⟩:=uh F;exact⟨v,a',d,rfl,b,f,H⟩
def Bx(w:U)(gl off:N)(L:E N):Prop:= ∃cur:φ β,w.heap[gl]? =J (γ cur 3 (0,0))/\∀j,j<L.length->cur[off+j]? =J (I Q (L.getD j 0:N))
def Bx.lt{w:U}{b a:N}{L:E N}(h:Bx w b a L):b<w.heap.size:=wC
def Bx.cell{w:U}{c a:N}{L:E N}(h:Bx w c a L){j:N}(f:j<L.length):w.cell? ⟨c,a+j,O⟩=J (I Q (L.getD j 0:N)):=by
 obtain⟨b,e,d⟩:=h;rw[qV w c (a+j) b 3 (0,0) e];exact d j f
def Bx.kept{S:N->Prop}{w w' :U}{b a:N}{L:E N}(h:Bx w b a L)(g:Ag S w w')(i:¬S b):Bx w' b a L:=by
 have f:=h.lt;obtain⟨c,e,d⟩:=h;exact⟨c,(g.block b f i).trans e,d⟩
def Bx.ne{w:U}{c b:N}{L:E N}(h:Bx w c b L){g:N}{s:Y}{a:N}{o:β}{e:N}(hr:Rd w g s a o e):c≠g:=by
 rintro rfl;obtain⟨d,hg,_⟩:=h;exact We
def Dy(L:E N)(n i:N):E N:=(List.range i).filter λj=>L.getD j 0==n
def Gu(L:E N)(n i:N):Dy L n (i+1)=if L.getD i 0=n then Dy L n i++[i] else Dy L n i:=by
 unfold Dy;rw[tA,tK];by_cases h:L.getD i 0=n
 .rw[rd h,vg (by rw[h];simp)];simp
 rw[rc h,vh (by simpa using h)];simp
def Ox(L:E N)(n:N):Dy L n L.length=BS L n:=rfl
def Oy(L:E N)(n i:N):(Dy L n i).length<=i:=by unfold Dy;exact rz (vA _ _) Ad
def cZ(L:E N)(n:N){i j:N}(h:i<=j): ∃r,Dy L n j=Dy L n i++r:=by
 induction j with
 |zero=>rw[show i=0 by omega];exact⟨[],Ad⟩
 |succ j ih=>
  rcases sb j i with h1|h1
  .rw[show i=j+1 by omega];exact⟨[],Ad⟩
  obtain⟨r,a⟩:=ih h1;rw[Gu];split
  .exact ⟨r++[j],by rw[a,rm]⟩
  exact⟨r,a⟩
def mf{L:E N}{n i:N}(b:i<L.length)(h:L.getD i 0=n):(Dy L n i).length<(BS L n).length/\(BS L n).getD (Dy L n i).length 0=i:=by
 obtain⟨r,a⟩:=cZ L n (show i+1<=L.length by omega);rw[Gu,rd h,Ox,rm] at a;rw[a];constructor
 .simp
 rw[qT,rE (rj _)];simp
def Ii(s:Y)(L:E N)(a e y a' e' :N):Prop:=(a<=a' /\a' <=8*s.size)/\y<=L.length/\((e≠0/\y=0/\a' =a/\e' =e)\/(e=0/\((dec s L a=J (y,a')/\e' =0)\/(dec s L a=O/\e' =2))))
def ZM{s:Y}{L:E N}{n v a' i:N}(g:1<=n)(a:n<=15)(c:a' <8*s.size)(d:i<L.length)(h:L.getD i 0=n)(f:AJ L n+(Dy L n i).length=2*v+AU s a'):
 DM s L (16- n) v a' =J (i,a' +1):=by
 obtain⟨e,b⟩:=mf d h;rw[show 16- n=(15- n)+1 by omega,DM,rd c,show 15- (15- n)=n by omega,rd Aa,show 2*v+AU s a' - AJ L n=(Dy L n i).length by omega,b]
def VN{s:Y}{L:E N}{n v a' :N}(c:1<=n)(a:n<=15)(b:a' <8*s.size)(h:¬(AJ L n<=2*v+AU s a' /\2*v+AU s a' <AJ L n+(BS L n).length)):
 DM s L (16- n) v a' =DM s L (16- (n+1)) (2*v+AU s a') (a' +1):=by
 rw[show 16- n=(15- n)+1 by omega,DM,rd b,show 15- (15- n)=n by omega,rc h,show 16- (n+1)=15- n by omega]
def QB{s:Y}{L:E N}{n v a' :N}(a:n<=15)(b:¬a' <8*s.size):DM s L (16- n) v a' =none:=by
 rw[show 16- n=(15- n)+1 by omega,DM,rc b]
def Oz(g:N)(s:Y)(hs:s.size<=140737488355328)(a:N)(o:β)(e:N)(ha:a<=8*s.size)(gl a5 cap:N)(L:E N)(hL:L.length<=400)(w:U)(h:Rd w g s a o e)(hI:Bx w gl a5 L):
 μ prog 285 #[δ (J ⟨g,0,O⟩),K (J ⟨gl,a5,O⟩) L.length cap] w λr w' =>
  ∃y a' d :N,r=ε (I Q y)/\Ii s L a e y a' d /\Rd w' g s a' o d /\Ag (λk=>k=g) w w' :=by
 have a1:=hI.ne h;by_cases he:e=0
 .subst he;have HR:=Af h;have HI:=Af hI;clear h hI;go_in;go_wp2;go_loopw [5,6,7,8,9,10] (λx f z _ _ _ wr=> ∃v t n d :N,n<=16/\v<65536/\t<=52428800/\x=I Q v/\f=I Q t/\z=I Q n/\wr.cell? ⟨g,3,O⟩=J (I Q d)/\
   χ (∃a',1<=n/\(a<=a' /\a' <=8*s.size)/\Rd wr g s a' o d /\((d =0/\v<2^(n- 1)/\t=AJ L n/\dec s L a=DM s L (16- n) v a')\/(d =2/\dec s L a=O)))/\χ (Ag (λk=>k=g) w wr))
   (λ_ _ z _ _ _ _=>16- (intOf z).toNat)
  .exact ⟨0,0,1,0,Aa,Aa,Aa,rfl,rfl,rfl,HR.c3,⟨a,Aa,⟨rj _,ha⟩,HR,.inl ⟨rfl,Ac,rfl,rfl⟩⟩,Ag.refl _ w⟩
  obtain⟨v,t,n,d,hn,hv,c1,rfl,rfl,rfl,M,HS,HO⟩:=hrel;by_cases b5:n<=15/\d =0
  .obtain ⟨c,rfl⟩:=b5;obtain⟨a',P,⟨haa,ha'⟩,l,m⟩:=uh HS;obtain⟨_,R,V,T⟩:0=0/\v<2^(n- 1)/\t=AJ L n/\dec s L a=DM s L (16- n) v a' :=by
    rcases m with h|⟨h,_⟩
    .exact h
    cases h
   have a2:2^(n- 1)<=16384:=rG (n:=2) Aa (show n- 1<=14 by omega);have a4:2*2^(n- 1)=2^n:=by rw[tP,<-tV,Nat.succ_eq_add_one,show n- 1+1=n by omega]
   have HB:=Af (RR g s hs a' o 0 ha' wr l);have b2:(if a' <8*s.size then AU s a' else 0)<2:=by split;exact FE _ _;omega
   have B:χ (a' <8*s.size->(if a' <8*s.size then AU s a' else 0)=AU s a'):=λh=>rd h
   generalize(if a' <8*s.size then AU s a' else 0)=bv at HB b2 B;have a7:=Af (HI.kept (uh HO) a1);have a8:=Af a4;have a9:=Af R;have D:=Af V;have p:=Af T;have c6:v<16384:=Aa;have b9 :wr.cell? ⟨g,3,O⟩=J (I Q 0):=M;have a0:(n:Z)<=15:=Aa;clear a4 R V T m a2 M HS l;go_wp2_with (go_at_call 190;refine HB.mono ?_;rintro r w1 ⟨rfl,hr1,ho1⟩;have q:=Af hr1;have S:=Af ho1;clear hr1 ho1);have a6:=Af (a7.kept (uh S) a1);have F:=Af (HO.trans (uh S));go_loop [9,10] (λx z=> ∃j i:N,i<=L.length/\j<=52429200/\x=I Q j/\z=I Q i/\χ (j=t+(Dy L n i).length/\¬(t<=2*v+bv/\2*v+bv<j))) (λ_ z=>L.length- (intOf z).toNat)
   .exact ⟨t,0,Aa,Aa,rfl,rfl,⟨by simp[Dy],Aa⟩⟩
   obtain⟨j,i,hi,b7,rfl,rfl,HK⟩:=hrel;by_cases X:i<L.length
   .have b3:=a6.cell X;have C:=Af (Gu L n i);have u:χ (L.getD i 0=n->t+(Dy L n i).length=2*v+bv-> ∃y a'' e'',i=y/\Ii s L a 0 y a'' e'' /\Rd w1 g s a'' o e''):=λhl hk=>by
     by_cases b:a' <8*s.size
     .have hr:=uh q;rw[rd b,rd b] at hr;rw[B b] at hk;have hd:=ZM (s:=s) (a' :=a') P c b X hl (by rw[<-uh D];exact hk);exact⟨i,a' +1,0,rfl,⟨⟨Aa,Aa⟩,Aa,.inr ⟨rfl,.inl ⟨by rw[uh p];exact hd,rfl⟩⟩⟩,hr⟩
     have hr:=uh q;rw[rc b,rc b] at hr;exact⟨i,a',2,rfl,⟨⟨haa,ha'⟩,Aa,.inr ⟨rfl,.inr ⟨by rw[uh p];exact QB c b,rfl⟩⟩⟩,hr⟩
    generalize L.getD i 0=li at b3 C u;by_cases W:li=n
    .subst W;have b0:((li:Z)==(li:Z))=true:=beq_self_eq_true _;by_cases c4:j=2*v+bv
     .have b1:((j:Z)==2*(v:Z)+(bv:Z))=true:=(by rw[tT];omega);go_wp2;go_ret;obtain⟨y,a'',e'',rfl,h1,h2⟩:=u (by first|rfl|trivial) (by have:=HK.1;omega);first
       |exact⟨i,a'',e'',rfl,h1,h2,F⟩
       |exact⟨i,rfl,a'',e'',h1,h2,F⟩
     have b1:((j:Z)==2*(v:Z)+(bv:Z))=false:=(by rw[re];omega);go_wp2_with fail;go_round
     .obtain ⟨h1,h2⟩:=uh HK;have H:=uh C;rw[rd rfl] at H;have h4:=Oy L li i;exact⟨j+1,i+1,Aa,Aa,by go_num,by go_num,⟨by rw[H,qU,h1];simp;omega,Aa⟩⟩
     exact Ae
    have b0:((li:Z)==(n:Z))=false:=(by rw[re];omega);go_wp2_with fail;go_round
    .obtain ⟨h1,h2⟩:=uh HK;have H:=uh C;rw[rc W] at H;exact⟨j,i+1,Aa,b7,rfl,by go_num,⟨by rw[H,h1],h2⟩⟩
    exact Ae
   have b6:i=L.length:=Aa;subst b6;go_wp2;go_roundw
   .obtain ⟨h1,h2⟩:=uh HK;rw[Ox] at h1;have b4:2*j=AJ L (n+1):=(by rw[AJ,rc Aa,h1,uh D]);have c2:=Kk L (n+1);have a3:2^(n+1+1)<=131072:=rG (n:=2) Aa (show n+1+1<=17 by omega);have c5:2^(n+1+1)*L.length<=131072*400:=tY a3 hL;have c0:=uh a8;have R:=uh a9;refine⟨2*v+bv,2*j,n+1,if a' <8*s.size then 0 else NW 0 2,Aa,Aa,Aa,by go_num,by go_num,by go_num,q.c3,⟨if a' <8*s.size then a' +1 else a',Aa,⟨by split<;>omega,by split<;>omega⟩,q, ?_⟩,F⟩;by_cases b:a' <8*s.size
    .rw[rd b,rd b];have A :=B b;refine .inl ⟨rfl,by rw[show n+1- 1=n by omega];omega,b4, ?_⟩;rw[uh p,A];exact VN P c b (by rw[<-uh D,<-A,<-h1];exact h2)
    rw[rc b];exact .inr ⟨rfl,by rw[uh p];exact QB c b⟩
   exact Ae
  obtain⟨a',P,⟨haa,ha'⟩,l,m⟩:=uh HS;have HEND:χ (dec s L a=O/\NW d 2=2):=by
   rcases m with⟨rfl,h1,h2,H⟩|⟨rfl,h1⟩
   .have:n=16:=Aa;subst this;exact⟨H,rfl⟩
   exact⟨h1,rfl⟩
  have HFA:=Af (Cg g s a' o d 2 wr l);clear m HS l;by_cases c:n<=15
  .have hb:((d :Z)==0)=false:=by rw[re];omega
   have a0:(n:Z)<=15:=Aa;exact Wb
  have a0:¬(n:Z)<=15:=Aa;exact Wb
 have hb:((e:Z)==0)=false:=by rw[re];omega
 have M:=h.c3;have HR:=Af h;have HFA:=Af (Cg g s a o e 2 w h);clear h hI;go_in;go_wp2_with fail;go_loop [5,6,7,8,9,10] (λ_ _ z _ _ _=>z=I Q 1) (λ_ _ _ _ _ _=>0)
 .rfl
 subst hrel;go_wp2_with fail;refine HFA.mono ?_;rintro r w1 ⟨rfl,hr1,ho1⟩;go_wp2;go_ret;have h2:NW e 2=e:=rc he;rw[h2] at hr1;exact⟨0,a,e,rfl,⟨⟨rj _,ha⟩,Aa,.inl ⟨he,rfl,rfl,rfl⟩⟩,hr1,ho1⟩
def QC(n:N)(c:n<=20)(w:U):μ prog 356 #[I Q n] w λr w' =>r=ε (I Q ((2^n:N):Z))/\w' =w:=by
 have hp:(2:Z)^n<=1048576:=by
  have:2^n<=2^20:=rG Aa c;have e:(2:Z)^n=((2^n:N):Z):=by rw[so];rfl
  rw[e];omega
 have d:(0:Z)<=(2:Z)^n:=by
  have e:(2:Z)^n=((2^n:N):Z):=by rw[so];rfl
  rw[e];exact Int.natCast_nonneg _
 have b:χ (((2^n:N):Z)=(2:Z)^n):=by unfold χ;rw[so];rfl
 have a:(n:Z)<64:=Aa;rw[uh b];generalize g:(2:Z)^n=x at*;have f:IntKind.i64.wrap x=x:=by rw[sx];omega
 go_in;go_wp2;exact yY
def DD.zero{s:Y}{a e:N}(b:a<=8*s.size):DD s a e 0 0 a e:=⟨xN,b,.inl ⟨Aa,rfl,rfl,rfl⟩⟩
def VO(g:N)(s:Y)(u:s.size<=140737488355328)(a:N)(o:β)(e y:N)(C:257<=y)(x:y<=285)(ha:a<=8*s.size)(w:U)(h:Rd w g s a o e):
 μ prog 335 #[δ (J ⟨g,0,O⟩),I Q y] w λr w' =>
  ∃v a' e' :N,r=ε (I Q ((Bc y+v:N):Z))/\DD s a e (AK y) v a' e' /\Rd w' g s a' o e' /\Ag (λk=>k=g) w w' :=by
 have HR:=Af h;by_cases b:y<=264
 .have e1:AK y=0:=rd b;have e2:Bc y=y- 254:=rd b;have HE:χ (((y- 254+0:N):Z)=(y:Z)- 254):=by unfold χ;omega
  exact Ww
 by_cases c:y=285
 .subst c;have HZ:=Af (DD.zero (s:=s) (e:=e) ha);go_in;go_wp2;go_ret;exact⟨0,a,e,rfl,HZ,h,Ag.refl _ w⟩
 have e1:AK y=(y- 261)/4:=by unfold AK;rw[rc b,rc c]
 have e2:Bc y=3+2^((y- 261)/4)*(4+(y- 261)%4):=by unfold Bc;rw[rc b,rc c]
 rw[e1,e2];clear e1 e2;have z:((y:Z)==285)=false:=by rw[re];omega
 have B:((y:Z)- 261)/4=(((y- 261)/4:N):Z):=Aa;have A:((y:Z)- 261)%4=(((y- 261)%4:N):Z):=Aa;have f:(y- 261)/4<=5:=Aa;have t:(y- 261)%4<4:=si _ Aa;have h0:(0:Z)<=(y:Z)- 261:=Aa;have HNM:=Af (λw1 (i:Rd w1 g s a o e)=>Cj g s u a o e ((y- 261)/4) Aa ha w1 i);have HPW:=Af (λw1=>QC ((y- 261)/4) Aa w1);have j:2^((y- 261)/4)<=2^5:=rG Aa f;generalize(y- 261)/4=n at*;generalize(y- 261)%4=m at*;generalize d:2^n=px at*;have HPX:=Af d;clear d;obtain⟨q,hqq⟩: ∃q,q=px*(4+m):=⟨_,rfl⟩;have l:(px:Z)*(4+(m:Z))=(q:Z):=by rw[hqq,sY];rfl
 have p:q<=224:=by have:px*(4+m)<=32*7:=tY Aa Aa;omega
 exact zQ
def RS(g:N)(s:Y)(u:s.size<=140737488355328)(a:N)(o:β)(e d:N)(x:d<=29)(ha:a<=8*s.size)(w:U)(h:Rd w g s a o e):
 μ prog 336 #[δ (J ⟨g,0,O⟩),I Q d] w λr w' =>
  ∃v a' e' :N,r=ε (I Q ((AV d+v:N):Z))/\DD s a e (AZ d) v a' e' /\Rd w' g s a' o e' /\Ag (λk=>k=g) w w' :=by
 have HR:=Af h;by_cases f:d<4
 .have e1:AZ d=0:=rd f;have e2:AV d=d+1:=rd f;have HE:χ (((d+1+0:N):Z)=(d:Z)+1):=by unfold χ;omega
  exact Ww
 have e1:AZ d=d/2- 1:=rc f;have e2:AV d=1+2^(d/2- 1)*(2+d%2):=rc f;rw[e1,e2];clear e1 e2;have z:(d:Z)/2- 1=((d/2- 1:N):Z):=Aa;have y:(d:Z)%2=((d%2:N):Z):=Aa;have b:d/2- 1<=13:=Aa;have t:d%2<2:=si _ Aa;have HNM:=Af (λw1 (i:Rd w1 g s a o e)=>Cj g s u a o e (d/2- 1) Aa ha w1 i);have HPW:=Af (λw1=>QC (d/2- 1) Aa w1);have j:2^(d/2- 1)<=2^13:=rG Aa b;generalize d/2- 1=n at*;generalize d%2=m at*;generalize c:2^n=px at*;have HPX:=Af c;clear c;obtain⟨q,hqq⟩: ∃q,q=px*(2+m):=⟨_,rfl⟩;have l:(px:Z)*(2+(m:Z))=(q:Z):=by rw[hqq,sY];rfl
 have p:q<=24576:=by have:px*(2+m)<=8192*3:=tY Aa Aa;omega
 exact zQ
def Co{S:N->Prop}{w w' :U}{e:ν}{v:β}{n:N}{a:E β}(h:w.ownsRow 0 e 1 v n a)(ho:Ag S w w')(hs: ∀b,v.ownBlock=J b->¬S b):w'.ownsRow 0 e 1 v n a:=zY
def CL{w w' :U}{e:ν}{v:β}{n:N}{a:E β}(h:w.ownsRow 0 e 1 v n a)(b:Al w w'):w'.ownsRow 0 e 1 v n a:=Co h b (λ_ _ x=>x)
def CV{w:U}{e:ν}{v:β}{n:N}{a:E β}(h:w.ownsRow 0 e 1 v n a){b:N}(hb:v.ownBlock=J b): ∃cur,w.heap[b]? =J (γ cur e (0,0)):=WW
def VP{w:U}{v:β}{n:N}{f:E β}(h:w.ownsRow 0 5 1 v n f){b:N}(d:v.ownBlock=J b){g:N}{s:Y}{a:N}{o:β}{e:N}(hr:Rd w g s a o e):b≠g:=by
 rintro rfl;obtain⟨c,hg⟩:=CV h d;exact We
def Bs(S:N->Prop)(w:U):Prop:= ∀k,w.heap.size<=k->S k
def Bs.mono{S:N->Prop}{w w' :U}(h:Bs S w)(b:w.heap.size<=w'.heap.size):Bs S w' :=λk a=>h k Aa
def St(w:U)(g:N)(S:N->Prop)(s:Y)(a:N)(l:E υ)(e:N):Prop:=
 ∃ao cap,Rd w g s a (K ao l.length cap) e/\w.ownsRow 0 5 1 (K ao l.length cap) l.length (Ak l)/\∀b:Addr,ao=J b->S b.block
def St.next{w w' :U}{g:N}{S:N->Prop}{s:Y}{a a' :N}{l:E υ}{e d :N}{ao:Option Addr}{cap:N}(j:Rd w g s a (K ao l.length cap) e)
 (f:w.ownsRow 0 5 1 (K ao l.length cap) l.length (Ak l))(m: ∀b:Addr,ao=J b->S b.block)(h:Ag (λk=>k=g) w w')(c :Rd w' g s a' (K ao l.length cap) d):St w' g S s a' l d :=
 ⟨ao,cap,c,Co f h (λ_ i=>VP f i j),m⟩
def Ag.of_g{S:N->Prop}{g:N}(a:S g){w w' :U}(h:Ag (λk=>k=g) w w'):Ag S w w' :=h.mono (λ_ _ b=>b ▸ a)
def FU:(prog.info? 5).map (λi=>(i.zero,i.size,i.bytes))=J (J (I .u8 0),1,1):=Ab
def Fm{wr:U}{n:N}: ∀j u,[Value.int .u8 (n:Z)][j]? =J u->(wr.alloc (γ #[I .u8 (n:Z)] 5)).cell? ((⟨wr.heap.size,0,O⟩:Addr).add j)=J u:=aaI
def KV(g:N)(S:N->Prop)(P:S g)(s:Y)(a:N)(l:E υ)(a7:l.length<20000)(e c:N)(hc:c<256)(w:U)(hF:Bs S w)(h:St w g S s a l e):
 μ prog 284 #[δ (J ⟨g,0,O⟩),I .u8 c] w λr w' =>
  r=ε (.tuple #[])/\Ag S w w' /\St w' g S s a (l++[b8 c]) e:=by
 obtain⟨ao,cap,C,q,A⟩:=h;have a4:=C.c2;have HR:=Af C;have a3:=Af q;have HSA:=Af A;obtain⟨i0,R,W,X,a0⟩:=rN FU;have j:Rd (w.alloc (γ #[I .u8 (c:Z)] 5)) g s a (K ao l.length cap) e:=C.kept ((Ag.refl (λ_=>False) w).alloc _) (λx=>x);have f:=Af (CL q ((Ag.refl _ w).alloc (γ #[I .u8 (c:Z)] 5)));have L:=Af (Fm (wr:=w) (n:=c));have H:=Af (λb m=>VP (uh f) (b:=b) m j);have t:=Af j;have a1 :(l.length:Z)<20000:=Aa;clear C q A j;go_in;go_wp2_with (at_builtin;refine wpList_append_lies _ rfl (.tmp 16) (.tmp 18) 62 rfl 0 5 i0 (I .u8 0) 1 1 underlying62 R W X a0 rfl Aa (K ao l.length cap) l.length _ rfl (uh f) ⟨w.heap.size,0,O⟩ 1 1 [I .u8 (c:Z)] rfl rfl (uh L) (by intro u hu;simp at hu;subst hu;rfl) Aa (by unfold maxLen;omega) Aa Aa (w.heap.size+1) Ad ?_;intro g2 cap2 w3 z o v a2;have d:Rd w3 g s a (K ao l.length cap) e:=(o.block g (by exact t.lt) (λhh=>H g hh.symm rfl)).trans (uh t);have a5:=d.c2;have a6:=d.thaw 2;have i:=Af d;have M:=Af z;have D:=Af o;have F:=Af v;clear z o v d);go_end0;have T:Ag S w w3:=(Ag.refl S w|>.alloc (γ #[I .u8 (c:Z)] 5)).grown (uh D) (λk _ B=>by
  cases ao with
  |none=>cases B
  |some b=>injection B with B;subst B;exact HSA b rfl)
 have y:(l++[b8 c]).length=l.length+1:=Ad;have V:=T.setCell (p:=⟨g,2,O⟩) (λ_=>P) (K (J ⟨g2,0,O⟩) (l.length+1) cap2);refine⟨rfl,V,⟨J ⟨g2,0,O⟩,cap2, ?_, ?_, ?_⟩⟩
 .rw[y];exact i.set2 _
 .have h2:=uh M;have e2:Ak (l++[b8 c])=Ak l++[I .u8 (c:Z)]:=by simp only[Ak,sv,sP,tB];rw[AL hc]
  rw[y,e2];exact Co h2 (Ap w3 g 2 _) (λb m=>VP h2 m (uh i))
 intro b m;injection m with m;subst m;rcases uh F with h5|h5
 .exact aah
 show S g2;rw[h5];exact hF _ Aa
def VQ(g:N)(S:N->Prop)(m:S g)(s:Y)(a:N)(l:E υ)(v:¬l.length<20000)(e c:N)(w:U)(h:St w g S s a l e):
 μ prog 284 #[δ (J ⟨g,0,O⟩),I .u8 c] w λr w' =>
  r=ε (.tuple #[])/\Ag S w w' /\St w' g S s a l (NW e 1):=by
 obtain⟨ao,cap,n,d,f⟩:=h;have u:=n.c2;have p:=Af n;have j:=Af d;have k:=Af f;have i:=Af (λw1 t=>Cg g s a (K ao l.length cap) e 1 w1 t);have q :¬(l.length:Z)<20000:=Aa;clear n d f;go_in;go_wp2_with fail;refine(i _ (uh p)).mono ?_;rintro r w1 ⟨rfl,o,b⟩;go_wp2_with fail;refine rU (tW rfl _ _ _) rfl ?_;exact⟨rfl,b.of_g m,St.next (uh p) (uh j) (uh k) b o⟩
