import Derived.WalkMore
import Derived.Deep.Slices
import Derived.Deep.RegionLaw
import Derived.WalkKit
import Derived.WalkSmall
import Derived.Test.YtfpphfkcaplafaaGreatDoorChecked
import Derived.Deep.QuietTactic
import Derived.BigQuiet
import Derived.BigRegion
import Derived.Deep.OwnRows
import Derived.Deep.RegionWith
import Derived.Deep.CutRange
import Derived.Deep.AppendLies
import Derived.Deep.RegionHeld3
set_option linter.all false
set_option maxHeartbeats 64000000
set_option maxRecDepth 100000
open _root_ renaming Option.some->J,Option.none->O,Int->Z,Nat->N,Go.Value.int->I,Go.Value.string->G,Go.IntKind.i64->Q,ByteArray->Y,List->E,Go.World->U,Go.Value.slice->K,Go.Value->M,Go.Obj.cells->W,Go.Value.pointer->V,Go.RowKit.Hid->C,Go.Proofs.Tryz.prog->F,Go.Ending.returned->ε,absurd->κ,Go.Calls->μ,Go.TypeId->ν,Go.IntKind.u32->σ,Go.IntKind.u8->τ,UInt8->υ,Array->φ
variable{p:Prop}{a' e' i j k m many n u v y:N}{w w':U}{s:Y}{D L l:E N}{o:M}{S T:N->Prop}{t:ν}{args:φ M}
namespace Go.Proofs.YtfpphfkcaplafaaGreatDoor
open Go.RowKit Go.Proofs.Tryz
section
open Go.RowKit Go.Maps Go.Proofs.Tryz
def Aa(h:p:=by omega):p:=h
def A(h:p:=by omega):p:=h
def B(h:p:=by kernel_rfl):p:=h
def Ab(h:p:=by kernel_rfl):p:=h
def Ac(h:p:=by decide):p:=h
def Ad(h:p:=by simp):p:=h
def Ae(h:p:=by simp[intOf];omega):p:=h
abbrev Wq:=@List.getD_eq_getElem?_getD
abbrev Ws:=@List.length_append
abbrev Wt:=@Array.getElem?_eq_some_iff
abbrev Wu:=@cell_of_row
abbrev Wv:=@List.getElem?_eq_getElem
abbrev Ww:=@decide_eq_false
abbrev Wx:=@if_neg
abbrev Wy:=@decide_eq_true
abbrev Wz:=@if_pos
abbrev WA:=@beq_eq_false_iff_ne
abbrev WC:=@ByteArray.size_append
abbrev WD:=@Go.heap_alloc_new
abbrev WE:=@wpOp_step
abbrev WF:=@Nat.le_refl
abbrev WG:=@List.append_assoc
abbrev WH:=@List.setIfInBounds_toArray
abbrev WI:=@Nat.le_trans
abbrev WJ:=@List.getElem_mem
abbrev WK:=@frozen_of_row
abbrev WL:=@heap_setCell_same
abbrev WM:=@ByteArray.size_extract
abbrev WN:=@List.mem_singleton
abbrev WO:=@Array.getElem?_setIfInBounds_ne
abbrev WP:=@World.size_alloc
abbrev WQ:=@Nat.zero_add
abbrev WR:=@run_string_add_sum
abbrev WT:=@List.set_cons_zero
abbrev WU:=@List.getElem?_append_right
abbrev WV:=@List.set_cons_succ
abbrev WW:=@List.getElem?_append_left
abbrev WX:=@Option.some.inj
abbrev WY:=@List.mem_append
abbrev WZ:=@World.ownsRow_nil
abbrev hJ:=@congrArg
abbrev hY:=@List.length_take
abbrev wd:=@List.mem_map
abbrev we:=@Addr.add_lit
abbrev wg:=@Nat.pow_le_pow_right
abbrev wh:=@List.mem_range
abbrev wi:=@info_parts
abbrev wj:=@List.getElem?_eq_none
abbrev wk:=@List.length_set
abbrev wm:=@bne_iff_ne
abbrev wn:=@of_decide_eq_true
abbrev wo:=@Bool.and_eq_true
abbrev wu:=@List.length_cons
abbrev wv:=@List.take_of_length_le
abbrev ww:=@Int.toNat_natCast
abbrev wA:=@List.length_replicate
abbrev wB:=@Array.getElem?_eq_getElem
abbrev wC:=@List.all_eq_true
abbrev wD:=@List.mem_cons
abbrev wE:=@Array.length_toList
abbrev wF:=@List.getElem_of_mem
abbrev wG:=@Nat.lt_of_lt_of_le
abbrev wH:=@Nat.zero_le
abbrev wI:=@bodyPost_ret
abbrev wJ:=@List.any_eq_true
abbrev wK:=@List.size_toArray
abbrev wL:=@List.take_length
abbrev wM:=@Nat.lt_or_ge
abbrev wN:=@List.drop_eq_getElem_cons
abbrev wO:=@Array.getElem?_eq_none
abbrev wP:=@List.eq_nil_of_length_eq_zero
abbrev wQ:=@List.mem_cons_of_mem
abbrev wR:=@Array.getElem?_setIfInBounds
abbrev wS:=@List.append_nil
abbrev wU:=@Nat.mod_lt
abbrev wV:=@List.map_append
abbrev wW:=@List.getElem?_eq_some_iff
abbrev wX:=@List.length_map
abbrev wY:=@Int.natCast_pow
abbrev wZ:=@IntKind.wrap_i64
abbrev aaa:=@setRow_heap
abbrev aab:=@List.getElem?_take
abbrev aac:=@Nat.lt_irrefl
abbrev aad:=@List.length_drop
abbrev aae:=@decide_eq_true_eq
abbrev aaf:=@run_underlying
abbrev aag:=@Nat.mul_le_mul_right
abbrev aah:=@Array.getElem?_toList
abbrev aai:=@List.map_cons
abbrev aaj:=@ByteArray.ext
abbrev aak:=@Array.getElem?_setIfInBounds_self_of_lt
abbrev aal:=@wpList_store_row
abbrev aam:=@IntKind.wrap_u32
abbrev aan:=@List.nil_append
abbrev aao:=@List.pairwise_append
abbrev aap:=@Nat.add_assoc
abbrev aaq:=@List.lt_irrefl
abbrev aar:=@List.any_eq_false
abbrev aas:=@Bool.true_and
abbrev aat:=@List.mem_take_iff_getElem
abbrev aau:=@List.take_append_drop
abbrev aav:=@Int.natCast_add
abbrev aaw:=@Nat.add_zero
abbrev aax:=@Int.natCast_ediv
abbrev aay:=@List.take_add_one
abbrev aaz:=@run_slice_string_l
abbrev aaA:=@Int.natCast_mul
abbrev aaB:=@beq_iff_eq
abbrev aaC:=@List.flatMap_cons
abbrev aaD:=@Nat.eq_zero_or_pos
abbrev aaE:=@ByteArray.data_append
abbrev aaF:=@List.map_nil
abbrev aaG:=@List.pairwise_iff_getElem
abbrev aaH:=@Option.getD_some
abbrev aaI:=@List.getElem?_map
abbrev aaJ:=@List.Pairwise.nil
abbrev aaK:=@Below.heap_setCell
abbrev aaL:=@List.filter_append
abbrev aaM:=@Bool.false_eq_true
abbrev aaN:=@run_slice_string_h
abbrev aaO:=@List.mem_cons_self
abbrev aaP:=@List.getElem?_toArray
abbrev aaQ:=@List.isSuffixOf_iff_suffix
abbrev aaR:=@List.all_eq_false
abbrev aaS:=@List.range_succ
abbrev aaT:=@List.not_mem_nil
abbrev aaU:=@List.length_filter_le
abbrev aaV:=@List.getElem?_replicate
abbrev aaW:=@List.pairwise_singleton
abbrev aaX:=@Int.tmod_eq_emod_of_nonneg
abbrev aaY:=@Nat.lt_of_le_of_lt
abbrev aaZ:=@List.mem_filter
abbrev aba:=@List.replicate_succ'
abbrev abb:=@List.mem_of_mem_take
abbrev abc:=@List.length_nil
abbrev abd:=@IntKind.wrap_u8
abbrev abe:=@results_cell_row
abbrev abf:=@Array.toList_inj
abbrev abg:=@Nat.mul_comm
abbrev abh:=@Array.size_setIfInBounds
abbrev abi:=@Region.noSelect_spec
abbrev abj:=@Nat.pow_succ
abbrev abk:=@results_none
abbrev abl:=@List.isPrefixOf_iff_prefix
abbrev abm:=@Nat.mul_le_mul
abbrev abn:=@List.take_left
abbrev abo:=@List.take_zero
abbrev abp:=@Addr.add_succ'
abbrev abq:=@List.ext_getElem?
abbrev abr:=@List.pairwise_map
abbrev abs:=@World.ownsRow.cells
abbrev abt:=@Bool.or_eq_true
abbrev abu:=@Nat.min_eq_left
abbrev abv:=@Array.eq_empty_of_size_eq_zero
abbrev abw:=@of_decide_eq_false
abbrev abx:=@List.cons_append
abbrev aby:=@Addr.add_add
abbrev abz:=@Nat.mul_one
abbrev abA:=@List.lt_trans
abbrev abB:=@dif_pos
abbrev abC:=@Nat.succ_pred_eq_of_pos
abbrev abD:=@Nat.add_sub_cancel_left
abbrev abE:=@if_false
abbrev abF:=@Nat.lt_trichotomy
abbrev abG:=@Array.getD_eq_getD_getElem?
abbrev abH:=@Option.map_some
abbrev abI:=@List.flatMap_append
abbrev abJ:=@Nat.sub_self
abbrev abK:=@List.drop_eq_nil_of_le
abbrev abL:=@Prod.mk.injEq
abbrev abM:=@IntKind.wrap_u64
abbrev abN:=@run_slice_string
abbrev abO:=@List.getElem?_drop
abbrev abP:=@u32_xor_nat
abbrev abQ:=@wpList_load_row
abbrev abR:=@ready_mono
abbrev abS:=@Result.andThen_ok
abbrev abT:=@Option.some.injEq
abbrev abU:=@Bool.eq_false_iff
abbrev abV:=@Nat.mod_eq_of_lt
abbrev abW:=@u32_or_nat
abbrev abX:=@run_convert_bytes_back
abbrev abY:=@List.drop_of_length_le
abbrev abZ:=@Nat.xor_lt_two_pow
abbrev aca:=@run_loadCells_list
abbrev acb:=@Nat.add_comm
abbrev acd:=@Sem.run_bind
abbrev ace:=@Nat.div_le_self
abbrev acf:=@List.foldl_cons
abbrev acg:=@List.length_singleton
abbrev ach:=@Array.getElem?_append_left
abbrev aci:=@List.length_range
abbrev acj:=@List.getElem_take
abbrev ack:=@DataW.trod_string
abbrev acl:=@Array.ext'
abbrev acm:=@Nat.pow_add
abbrev acn:=@Nat.mod_one
abbrev aco:=@Bool.false_and
abbrev acp:=@List.take_succ_eq_append_getElem
abbrev acq:=@Int.natCast_emod
abbrev acr:=@Array.all_eq_true_iff_forall_mem
abbrev acs:=@Array.setIfInBounds_comm
abbrev acu:=@wpList_plain
abbrev acv:=@Nat.mul_le_mul_left
abbrev acw:=@List.map_congr_left
abbrev acx:=@List.filter_cons_of_pos
abbrev acy:=@List.filter_cons_of_neg
abbrev acz:=@if_true
abbrev acA:=@UInt8.toNat_inj
abbrev acB:=@Nat.add_sub_cancel
abbrev acC:=@Nat.and_two_pow_sub_one_eq_mod
abbrev acD:=@run_equalIn_agg
abbrev acE:=@u32_and_nat
abbrev acF:=@run_makeMap
abbrev acG:=@List.getElem?_set
abbrev acH:=@Array.size_append
abbrev acI:=@size_madeCells
abbrev acJ:=@Sem.run_pure
abbrev acK:=@getElem!_pos
abbrev acL:=@mem_ready
abbrev acM:=@Nat.mul_lt_mul_of_pos_right
abbrev acN:=@Nat.le_of_not_lt
abbrev acO:=@run_make
abbrev acP:=@Nat.shiftLeft_eq
abbrev acQ:=@Bool.or_eq_false_iff
abbrev acR:=@List.flatMap_nil
abbrev acS:=@plainElem_int
abbrev acT:=@Bool.or_false
abbrev acU:=@Bool.false_or
abbrev acV:=@Nat.add_mul
abbrev acW:=@List.not_lt
abbrev acX:=@bne_eq_false_iff_eq
abbrev acY:=@List.replicate_succ
abbrev acZ:=@List.length_reverse
abbrev ada:=@run_loadVar_row
abbrev adb:=@Bool.eq_iff_iff
abbrev adc:=@DataW.lit.injEq
abbrev ade:=@setRow_other
abbrev adf:=@World.ownsMap_made
abbrev adg:=@decide_eq_true_iff
abbrev adh:=@DataW.trod_int
abbrev adi:=@decide_eq_false_iff_not
abbrev adj:=@Nat.or_lt_two_pow
abbrev adk:=@run_storeCells_at
abbrev adl:=@Nat.compare_eq_gt
abbrev adm:=@plainElem_int_inv
abbrev adn:=@Nat.pow_pos
abbrev ado:=@ByteArray.append_assoc
abbrev adp:=@Nat.mul_assoc
abbrev adq:=@has_put_other
abbrev adr:=@Region.free_spec
abbrev ads:=@List.map_toArray
abbrev adt:=@ByteArray.extract_append_extract
abbrev adu:=@List.mem_flatMap
abbrev adv:=@Array.getElem?_modify
abbrev adw:=@Nat.sub_zero
abbrev adx:=@wp_store_row
abbrev ady:=@ByteArray.extract_eq_empty_iff
abbrev adz:=@has_put_same
abbrev adA:=@Nat.not_lt
abbrev adB:=@Int.emod_nonneg
abbrev adC:=@List.mem_iff_getElem
abbrev adD:=@List.getElem?_range
abbrev adE:=@List.drop_zero
abbrev adF:=@List.Perm.refl
abbrev adG:=@Nat.one_pos
abbrev adH:=@getD_set_ne
abbrev adI:=@Nat.mul_add
abbrev adJ:=@Array.ext_getElem?
abbrev adK:=@wpOp_mono
abbrev adL:=@wpList_append_fits
abbrev adM:=@ByteArray.extract_zero_size
abbrev adN:=@Nat.two_pow_add_eq_or_of_lt
abbrev adO:=@Array.extract_eq_self_of_le
abbrev adP:=@Lit.int.injEq
abbrev adQ:=@Int.tdiv_eq_ediv_of_nonneg
abbrev adR:=@Nat.compare_eq_lt
abbrev adS:=@Array.size_modify
abbrev adT:=@DataW.trod_struct
abbrev adU:=@World.cells?_some
abbrev adV:=@BitVec.toNat_xor
abbrev adW:=@Nat.div_eq_of_lt
abbrev adX:=@Nat.lt_succ_self
abbrev adY:=@Nat.zero_mul
abbrev adZ:=@Classical.em
abbrev aea:=@Lib.cell_of_heap
abbrev aeb:=@callsIn_wide
abbrev aec:=@atKey_put_other
abbrev aed:=@List.cons.injEq
abbrev aee:=@Nat.or_comm
abbrev aef:=@Nat.one_mul
abbrev aeg:=@atKey_put_same
abbrev aeh:=@run_neq_struct
abbrev aei:=@run_eql_struct
abbrev aej:=@nat_join
def aek(h:p:=by
 clear j;go_wp2_with fail;apply(v _).mono;rintro r w1 ⟨rfl,rfl⟩;go_wp2_with fail;apply(z _).mono;rintro r w1 ⟨rfl,rfl⟩;go_wp2_with fail;apply(Vpk _).mono;rintro r w1 ⟨rfl,rfl⟩;go_wp2_with fail;apply(Vln _).mono;rintro r w1 ⟨rfl,rfl⟩;go_wp2_with fail;apply(Vk _).mono;rintro r w5 ⟨rfl,rfl⟩;go_wp2_with fail;apply(Vfr _).mono;rintro r w6 ⟨rfl,rfl⟩;go_wp2_with fail;have hwr:IntKind.i64.wrap ((fr:Z)+30+(k:Z)+pk)=(fr:Z)+30+(k:Z)+pk:=by rw[show(fr:Z)+30+(k:Z)+pk=((fr+30+k+pk:N):Z) by omega];exact Aw _ A
 clear v z Vpk Vln Vk Vfr f;have N2:=WD w1 (.cells #[G nm,I Q (way:Z),I Q (ck:Z),I Q (pk:Z),I Q (ln:Z)] 80);have J2:C (Am w1 (w1.alloc (.cells #[G nm,I Q (way:Z),I Q (ck:Z),I Q (pk:Z),I Q (ln:Z)] 80))):=(Ag.refl _ w1).alloc _;have d0:(w1.alloc (.cells #[G nm,I Q (way:Z),I Q (ck:Z),I Q (pk:Z),I Q (ln:Z)] 80)).cell? ⟨w1.heap.size,0,O⟩=J (G nm):=by rw[Wu _ _ 0 _ _ (0,0) N2];rfl
 have d1:(w1.alloc (.cells #[G nm,I Q (way:Z),I Q (ck:Z),I Q (pk:Z),I Q (ln:Z)] 80)).cell? ⟨w1.heap.size,1,O⟩=J (I Q (way:Z)):=by rw[Wu _ _ 1 _ _ (0,0) N2];rfl
 have d2:(w1.alloc (.cells #[G nm,I Q (way:Z),I Q (ck:Z),I Q (pk:Z),I Q (ln:Z)] 80)).cell? ⟨w1.heap.size,2,O⟩=J (I Q (ck:Z)):=by rw[Wu _ _ 2 _ _ (0,0) N2];rfl
 have T:(w1.alloc (.cells #[G nm,I Q (way:Z),I Q (ck:Z),I Q (pk:Z),I Q (ln:Z)] 80)).cell? ⟨w1.heap.size,3,O⟩=J (I Q (pk:Z)):=by rw[Wu _ _ 3 _ _ (0,0) N2];rfl
 have y:(w1.alloc (.cells #[G nm,I Q (way:Z),I Q (ck:Z),I Q (pk:Z),I Q (ln:Z)] 80)).cell? ⟨w1.heap.size,4,O⟩=J (I Q (ln:Z)):=by rw[Wu _ _ 4 _ _ (0,0) N2];rfl
 have HNB:C (∀b,(Value.slice ao its.length cap).ownBlock=J b->b≠w1.heap.size):=λb hb e=>by
  obtain⟨J0,D⟩:=Ak HN.1 hb;have:=(Wt.1 D).1;omega
 clear N2;generalize w1.alloc (.cells #[G nm,I Q (way:Z),I Q (ck:Z),I Q (pk:Z),I Q (ln:Z)] 80)=W,w1.heap.size=gh at*;cases hbg:IE nm p with
 |false=>
  have t:Ue s p n a its=none:=by rw[uh c,hbg];rfl
  rw[hbg] at V6;have HR:=H (d t);clear d m c;go_quiet ((go_at_call 158;exact Calls.quiet_of_same (V6 _)));go_wp2;go_ret2;exact⟨HN.2.2.trans (J2.drewN _),by rw[uh HR];exact⟨_,rfl⟩⟩
 |true=>
  rw[hbg] at V6;by_cases h0:its.length=0
  .have h0I:¬(0:Z)<(its.length:Z):=A;have t:Ue s p n a its=J (⟨nm,way,ck,pk,ln,sp⟩,a+46+k):=by rw[uh c,hbg,Wx Ac,Wx (λh=>absurd h.1 A)]
   clear hbg;go_quiet ((go_at_call 158;exact Calls.quiet_of_same (V6 _)));have e0:(W.drewN nq).cell? ⟨gh,0,O⟩=J (G nm):=d0;have e1:(W.drewN nq).cell? ⟨gh,1,O⟩=J (I Q (way:Z)):=d1;have e2:(W.drewN nq).cell? ⟨gh,2,O⟩=J (I Q (ck:Z)):=d2;have e3:(W.drewN nq).cell? ⟨gh,3,O⟩=J (I Q (pk:Z)):=T;have e4:(W.drewN nq).cell? ⟨gh,4,O⟩=J (I Q (ln:Z)):=y;have I5:C (Am w1 (W.drewN nq)):=J2.drewN _;clear d0 d1 d2 T y J2;generalize W.drewN nq=V at*;have HXN:=H (m _ _ t A);clear d m c V6;go_wp2_with fail;have Z3:V.drew.cell? ⟨gh,0,O⟩=J (G nm)/\V.drew.cell? ⟨gh,1,O⟩=J (I Q (way:Z))/\V.drew.cell? ⟨gh,2,O⟩=J (I Q (ck:Z))/\V.drew.cell? ⟨gh,3,O⟩=J (I Q (pk:Z))/\V.drew.cell? ⟨gh,4,O⟩=J (I Q (ln:Z)):=⟨e0,e1,e2,e3,e4⟩;have Z4:∀(S:N->Prop) (X X':U),(X.cell? ⟨gh,0,O⟩=J (G nm)/\X.cell? ⟨gh,1,O⟩=J (I Q (way:Z))/\X.cell? ⟨gh,2,O⟩=J (I Q (ck:Z))/\X.cell? ⟨gh,3,O⟩=J (I Q (pk:Z))/\X.cell? ⟨gh,4,O⟩=J (I Q (ln:Z)))->Ag S X X'->¬S gh->(X'.cell? ⟨gh,0,O⟩=J (G nm)/\X'.cell? ⟨gh,1,O⟩=J (I Q (way:Z))/\X'.cell? ⟨gh,2,O⟩=J (I Q (ck:Z))/\X'.cell? ⟨gh,3,O⟩=J (I Q (pk:Z))/\X'.cell? ⟨gh,4,O⟩=J (I Q (ln:Z))):=λS X X' h ho hs=>⟨(ho.cell (p:=⟨gh,0,O⟩) (show gh<X.heap.size from BC h.1) hs).trans h.1,(ho.cell (p:=⟨gh,1,O⟩) (show gh<X.heap.size from BC h.1) hs).trans h.2.1,(ho.cell (p:=⟨gh,2,O⟩) (show gh<X.heap.size from BC h.1) hs).trans h.2.2.1,(ho.cell (p:=⟨gh,3,O⟩) (show gh<X.heap.size from BC h.1) hs).trans h.2.2.2.1,(ho.cell (p:=⟨gh,4,O⟩) (show gh<X.heap.size from BC h.1) hs).trans h.2.2.2.2⟩
   clear e0 e1 e2 e3 e4;refine Ai (S:=λX=>X.cell? ⟨gh,0,O⟩=J (G nm)/\X.cell? ⟨gh,1,O⟩=J (I Q (way:Z))/\X.cell? ⟨gh,2,O⟩=J (I Q (ck:Z))/\X.cell? ⟨gh,3,O⟩=J (I Q (pk:Z))/\X.cell? ⟨gh,4,O⟩=J (I Q (ln:Z))) (L:=12) B ?_;refine tk 0 13 (K ao 0 cap) 127 Z3 ?_;refine tk 1 13 (.agg #[G nm,I Q (way:Z),I Q (ck:Z),I Q (pk:Z),I Q (ln:Z)]) 128 Z3 ?_;refine tk 2 13 (G s) 129 Z3 ?_;refine tk 3 13 (I Q ((fr:Z)+30+(k:Z))) 130 Z3 ?_;refine tk 4 13 (I Q ((fr:Z)+30+(k:Z))) 131 Z3 ?_;refine tk 5 13 (.pointer (J ⟨gh,3,O⟩)) 132 Z3 ?_;refine tk 6 13 (I Q (pk:Z)) 133 Z3 ?_;refine tk 7 13 (I Q ((fr:Z)+30+(k:Z)+pk)) 134 Z3 ?_;refine tk 8 13 (G sp) 135 Z3 ?_;refine tk 9 13 (.agg #[G nm,I Q (way:Z),I Q (ck:Z),I Q (pk:Z),I Q (ln:Z),G sp]) 136 Z3 ?_;have E3:Am V.drew (V.drew.alloc (.cells #[G nm,I Q (way:Z),I Q (ck:Z),I Q (pk:Z),I Q (ln:Z),G sp] 82)):=(Ag.refl _ _).alloc _;have G3:=Z4 _ _ _ Z3 E3 (λx=>x);obtain⟨v9,w9,o,O8,I2⟩:=EX (HN.old (I5.drew.trans E3)) ⟨V.drew.heap.size,0,O⟩ (x:=⟨nm,way,ck,pk,ln,sp⟩) (AD V.drew [G nm,I Q (way:Z),I Q (ck:Z),I Q (pk:Z),I Q (ln:Z),G sp] 82) A 77;rw[h0] at o;refine Ah (i:=10) B ?_;refine WE rfl (λK' l=>?_);go_simp;refine l _ _ ⟨λ_=>G3,?_⟩;clear l;refine Ah (i:=11) B ?_;refine DE rfl rfl (Lib.wp_append_run _ (.tmp 127) (.tmp 137) _ _ rfl _ _ rfl rfl v9 w9 o ⟨λ_=>Z4 _ _ _ G3 I2 (λe=>HNB gh e rfl),?_⟩);refine Ah (i:=12) B ?_;refine WE rfl (λK' l=>?_);go_simp;refine l _ _ ⟨λh=>absurd rfl h,?_⟩;clear l;refine Aj B ?_;have G2:=H O8;clear O8 I2 o G3 E3 Z4 Z3 I5 HN HNB;go_wp2;go_roundw
   .exact ⟨i+1,a+46+k,its++[(⟨nm,way,ck,pk,ln,sp⟩:Du)],hJ (Value.int IntKind.i64) A,by go_num,HXN,G2,HXK⟩
   exact Ae
  obtain⟨g,cap',X1,F4,M7,Z0⟩:=HN.slice A;injection X1 with hve1 hve2 hve3;subst hve1 hve3;obtain⟨m0,hm0⟩:∃m0,its.length-1=m0:=⟨_,rfl⟩;have hm1:m0<its.length:=A;have hm0I:(its.length:Z)-1=(m0:Z):=A;have hm1I:(m0:Z)<its.length:=A;have hm00:(0:Z)<=(m0:Z):=A;have hm0b:m0<=100:=A;have hm0w:=Aw m0 A;have h0I:(0:Z)<(its.length:Z):=A;have h0N:0<its.length:=A;have h0D:=Wy h0I;clear h0;have hlc:=Ap J2 (Z0 m0 hm1).1;have J4:C (Mn its=(its.getD m0 Db).nm):=by unfold C Mn;rw[hm0]
  clear Z0 hve2 M7 F4 hm0;generalize(its.getD m0 Db).nm=lm at*;have l1:=Qo lm nm;have l2:=TG lm nm;have l3:=Qo nm lm;have l4:=TG nm lm;by_cases R:lm.data.toList<nm.data.toList
  .have t:Ue s p n a its=J (⟨nm,way,ck,pk,ln,sp⟩,a+46+k):=by rw[uh c,hbg,Wx Ac,Wx (λh=>h.2 (by rw[uh J4];exact R))]
   rw[Wy R] at l1;rw[Ww (λh=>by rw[h] at R;exact aaq _ R)] at l2;rw[Ww (λh=>absurd (abA h R) (aaq _))] at l3;rw[Ww (λh=>by rw[h] at R;exact aaq _ R)] at l4;clear hbg R;go_quiet ((go_at_call 158;exact Calls.quiet_of_same (V6 _)));have e0:(W.drewN nq).cell? ⟨gh,0,O⟩=J (G nm):=d0;have e1:(W.drewN nq).cell? ⟨gh,1,O⟩=J (I Q (way:Z)):=d1;have e2:(W.drewN nq).cell? ⟨gh,2,O⟩=J (I Q (ck:Z)):=d2;have e3:(W.drewN nq).cell? ⟨gh,3,O⟩=J (I Q (pk:Z)):=T;have e4:(W.drewN nq).cell? ⟨gh,4,O⟩=J (I Q (ln:Z)):=y;have I5:C (Am w1 (W.drewN nq)):=J2.drewN _;clear d0 d1 d2 T y J2;generalize W.drewN nq=V at*;have HXN:=H (m _ _ t A);clear d m c V6;go_wp2_with fail;have Z3:V.drew.cell? ⟨gh,0,O⟩=J (G nm)/\V.drew.cell? ⟨gh,1,O⟩=J (I Q (way:Z))/\V.drew.cell? ⟨gh,2,O⟩=J (I Q (ck:Z))/\V.drew.cell? ⟨gh,3,O⟩=J (I Q (pk:Z))/\V.drew.cell? ⟨gh,4,O⟩=J (I Q (ln:Z)):=⟨e0,e1,e2,e3,e4⟩;have Z4:∀(S:N->Prop) (X X':U),(X.cell? ⟨gh,0,O⟩=J (G nm)/\X.cell? ⟨gh,1,O⟩=J (I Q (way:Z))/\X.cell? ⟨gh,2,O⟩=J (I Q (ck:Z))/\X.cell? ⟨gh,3,O⟩=J (I Q (pk:Z))/\X.cell? ⟨gh,4,O⟩=J (I Q (ln:Z)))->Ag S X X'->¬S gh->(X'.cell? ⟨gh,0,O⟩=J (G nm)/\X'.cell? ⟨gh,1,O⟩=J (I Q (way:Z))/\X'.cell? ⟨gh,2,O⟩=J (I Q (ck:Z))/\X'.cell? ⟨gh,3,O⟩=J (I Q (pk:Z))/\X'.cell? ⟨gh,4,O⟩=J (I Q (ln:Z))):=λS X X' h ho hs=>⟨(ho.cell (p:=⟨gh,0,O⟩) (show gh<X.heap.size from BC h.1) hs).trans h.1,(ho.cell (p:=⟨gh,1,O⟩) (show gh<X.heap.size from BC h.1) hs).trans h.2.1,(ho.cell (p:=⟨gh,2,O⟩) (show gh<X.heap.size from BC h.1) hs).trans h.2.2.1,(ho.cell (p:=⟨gh,3,O⟩) (show gh<X.heap.size from BC h.1) hs).trans h.2.2.2.1,(ho.cell (p:=⟨gh,4,O⟩) (show gh<X.heap.size from BC h.1) hs).trans h.2.2.2.2⟩
   clear e0 e1 e2 e3 e4;refine Ai (S:=λX=>X.cell? ⟨gh,0,O⟩=J (G nm)/\X.cell? ⟨gh,1,O⟩=J (I Q (way:Z))/\X.cell? ⟨gh,2,O⟩=J (I Q (ck:Z))/\X.cell? ⟨gh,3,O⟩=J (I Q (pk:Z))/\X.cell? ⟨gh,4,O⟩=J (I Q (ln:Z))) (L:=12) B ?_;refine tk 0 13 (K (J ⟨g,0,O⟩) its.length cap) 127 Z3 ?_;refine tk 1 13 (.agg #[G nm,I Q (way:Z),I Q (ck:Z),I Q (pk:Z),I Q (ln:Z)]) 128 Z3 ?_;refine tk 2 13 (G s) 129 Z3 ?_;refine tk 3 13 (I Q ((fr:Z)+30+(k:Z))) 130 Z3 ?_;refine tk 4 13 (I Q ((fr:Z)+30+(k:Z))) 131 Z3 ?_;refine tk 5 13 (.pointer (J ⟨gh,3,O⟩)) 132 Z3 ?_;refine tk 6 13 (I Q (pk:Z)) 133 Z3 ?_;refine tk 7 13 (I Q ((fr:Z)+30+(k:Z)+pk)) 134 Z3 ?_;refine tk 8 13 (G sp) 135 Z3 ?_;refine tk 9 13 (.agg #[G nm,I Q (way:Z),I Q (ck:Z),I Q (pk:Z),I Q (ln:Z),G sp]) 136 Z3 ?_;have E3:Am V.drew (V.drew.alloc (.cells #[G nm,I Q (way:Z),I Q (ck:Z),I Q (pk:Z),I Q (ln:Z),G sp] 82)):=(Ag.refl _ _).alloc _;have G3:=Z4 _ _ _ Z3 E3 (λx=>x);obtain⟨v9,w9,o,O8,I2⟩:=EX (HN.old (I5.drew.trans E3)) ⟨V.drew.heap.size,0,O⟩ (x:=⟨nm,way,ck,pk,ln,sp⟩) (AD V.drew [G nm,I Q (way:Z),I Q (ck:Z),I Q (pk:Z),I Q (ln:Z),G sp] 82) A 77;refine Ah (i:=10) B ?_;refine WE rfl (λK' l=>?_);go_simp;refine l _ _ ⟨λ_=>G3,?_⟩;clear l;refine Ah (i:=11) B ?_;refine DE rfl rfl (Lib.wp_append_run _ (.tmp 127) (.tmp 137) _ _ rfl _ _ rfl rfl v9 w9 o ⟨λ_=>Z4 _ _ _ G3 I2 (λe=>HNB gh e rfl),?_⟩);refine Ah (i:=12) B ?_;refine WE rfl (λK' l=>?_);go_simp;refine l _ _ ⟨λh=>absurd rfl h,?_⟩;clear l;refine Aj B ?_;have G2:=H O8;clear O8 I2 o G3 E3 Z4 Z3 I5 HN HNB;go_wp2;go_roundw
   .exact ⟨i+1,a+46+k,its++[(⟨nm,way,ck,pk,ln,sp⟩:Du)],hJ (Value.int IntKind.i64) A,by go_num,HXN,G2,HXK⟩
   exact Ae
  have t:Ue s p n a its=none:=by rw[uh c,hbg,Wx Ac,Wz ⟨A,by rw[uh J4];exact R⟩]
  rw[Ww R] at l1;have HR:=H (d t);clear d m c;by_cases heq:nm.data.toList<lm.data.toList
  .rw[Wy heq] at l3;rw[Ww (λh=>by rw[h] at heq;exact aaq _ heq)] at l4;rw[Ww (λh=>by rw[h] at heq;exact aaq _ heq)] at l2;clear hbg R heq;go_quiet ((go_at_call 158;exact Calls.quiet_of_same (V6 _)));go_wp2;go_ret2;exact⟨HN.2.2.trans (J2.drewN _),by rw[uh HR];exact⟨_,rfl⟩⟩
  have he:=GJ heq R;rw[Ww heq] at l3;rw[Wy he] at l4;rw[Wy he.symm] at l2;clear hbg R heq he;go_quiet ((go_at_call 158;exact Calls.quiet_of_same (V6 _)));go_wp2;go_ret2;exact⟨HN.2.2.trans (J2.drewN _),by rw[uh HR];exact⟨_,rfl⟩⟩):p:=h
def ael(h:p:=by
 refine Ah (i:=18) B ?_;refine WE rfl (λK' l=>?_);go_simp;refine l _ _ ⟨λh=>absurd rfl h,?_⟩;refine Aj B ?_;have N2:=WD wr (.cells #[G a,I Q 0,I Q (ck:Z),I Q (d.size:Z),I Q (d.size:Z),G d] 82);have I5:C (Am wr (wr.alloc (.cells #[G a,I Q 0,I Q (ck:Z),I Q (d.size:Z),I Q (d.size:Z),G d] 82)).drew):=((Ag.refl _ wr).alloc _).drew;have HX:C ((wr.alloc (.cells #[G a,I Q 0,I Q (ck:Z),I Q (d.size:Z),I Q (d.size:Z),G d] 82)).drew.heap[wr.heap.size]? =J (.cells #[G a,I Q 0,I Q (ck:Z),I Q (d.size:Z),I Q (d.size:Z),G d] 82 (0,0))):=N2;have HNB:C (∀g,(Value.slice ao its.length cap).ownBlock=J g->g≠wr.heap.size):=λg hb e=>by
  obtain⟨J0,D⟩:=Ak HN.1 hb;have:=(Wt.1 D).1;omega
 have e1:(wr.alloc (.cells #[G a,I Q 0,I Q (ck:Z),I Q (d.size:Z),I Q (d.size:Z),G d] 82)).drew.cell? ⟨ob,1,O⟩=J (I Q p):=(HOP.old (J2.trans I5)).cell 1 A;have U1:C (∀V,Ag (λk=>k=wr.heap.size) (wr.alloc (.cells #[G a,I Q 0,I Q (ck:Z),I Q (d.size:Z),I Q (d.size:Z),G d] 82)).drew V->Am wr V):=λV ho=>I5.transNew ho (λk hk e=>A)
 generalize(wr.alloc (.cells #[G a,I Q 0,I Q (ck:Z),I Q (d.size:Z),I Q (d.size:Z),G d] 82)).drew=V0,wr.heap.size=gx at*;obtain⟨P2,hP2⟩:∃P2:Z,p/2^i=P2:=⟨_,rfl⟩;obtain⟨Q2,hQ2⟩:∃Q2:Z,bits BinOp.and IntKind.i64 P2 1=Q2:=⟨_,rfl⟩;by_cases hi6:i<6
 .have hi6I:(i:Z)<6:=A;by_cases hQ:Q2=1
  .have hQb:(Q2==1)=true:=by rw[aaB];exact hQ
   by_cases hd6:d.size<65536
   .have hd6I:(d.size:Z)<65536:=A;obtain⟨q0,hq0⟩:∃q0,d.size%256=q0:=⟨_,rfl⟩;obtain⟨q1,hq1⟩:∃q1,d.size/256=q1:=⟨_,rfl⟩;have hq0b:q0<256:=A;have hq1b:q1<256:=A;have hq0I:(d.size:Z)%256=(q0:Z):=A;have hq1I:(d.size:Z)/256=(q1:Z):=A;obtain⟨q2,X5⟩:∃q2,255-q0=q2:=⟨_,rfl⟩;obtain⟨q3,hq3⟩:∃q3,255-q1=q3:=⟨_,rfl⟩;have hq2I:(255:Z)-(q0:Z)=q2:=A;have hq3I:(255:Z)-(q1:Z)=q3:=A;have hq2b:q2<256:=A;have hq3b:q3<256:=A;have w0:IntKind.u8.wrap (q0:Z)=q0:=(by rw[abd];omega);have w1':IntKind.u8.wrap (q1:Z)=q1:=by rw[abd];omega
    have w2':IntKind.u8.wrap (q2:Z)=q2:=by rw[abd];omega
    have w3':IntKind.u8.wrap (q3:Z)=q3:=by rw[abd];omega
    have hf1:=WK V0 gx 1 _ _ HX;have hf3:=WK V0 gx 3 _ _ HX;have hf5:=WK V0 gx 5 _ _ HX;have x1:V0.cell? ⟨gx,1,O⟩=J (I Q 0):=(by rw[Wu _ _ 1 _ _ (0,0) HX];rfl);have x3:V0.cell? ⟨gx,3,O⟩=J (I Q (d.size:Z)):=(by rw[Wu _ _ 3 _ _ (0,0) HX];rfl);have x5:V0.cell? ⟨gx,5,O⟩=J (G d):=(by rw[Wu _ _ 5 _ _ (0,0) HX];rfl);go_upto_region 11 with fail;have h1:=WL V0 gx 1 _ _ (I Q 8) HX;have N0:C ((V0.setCell ⟨gx,1,O⟩ (I Q 8)).heap[gx]? =J (.cells #[G a,I Q 8,I Q (ck:Z),I Q (d.size:Z),I Q (d.size:Z),G d] 82 (0,0))):=h1;have HON:C (Ag (λk=>k=gx) V0 (V0.setCell ⟨gx,1,O⟩ (I Q 8))):=Aq V0 gx 1 _;generalize V0.setCell ⟨gx,1,O⟩ (I Q 8)=V1 at*;have U6:C (Am V1 (V1.alloc (.cells #[I .u8 1,I .u8 (q0:Z),I .u8 (q1:Z),I .u8 (q2:Z),I .u8 (q3:Z)] 5))):=(Ag.refl _ V1).alloc _;have N2:=WD V1 (.cells #[I .u8 1,I .u8 (q0:Z),I .u8 (q1:Z),I .u8 (q2:Z),I .u8 (q3:Z)] 5);have hback:(convert 64 9 (K (J ⟨V1.heap.size,0,O⟩) 5 5)).run F (V1.alloc (.cells #[I .u8 1,I .u8 (q0:Z),I .u8 (q1:Z),I .u8 (q2:Z),I .u8 (q3:Z)] 5))=.ok (G ⟨[b8 1,b8 q0,b8 q1,b8 q2,b8 q3].toArray⟩) (V1.alloc (.cells #[I .u8 1,I .u8 (q0:Z),I .u8 (q1:Z),I .u8 (q2:Z),I .u8 (q3:Z)] 5)):=
     abX _ 64 9 5 ⟨V1.heap.size,0,O⟩ 5 [b8 1,b8 q0,b8 q1,b8 q2,b8 q3] underlying64 underlying5 underlying9 (λj hj=>by
      rw[we,WQ,Wu _ _ j _ _ (0,0) N2];have hj5:j=0\/j=1\/j=2\/j=3\/j=4:=(by simp at hj;omega);rcases hj5 with rfl|rfl|rfl|rfl|rfl
      .rfl
      .simp[AN hq0b]
      .simp[AN hq1b]
      .simp[AN hq2b]
      simp[AN hq3b])
    have h5:(⟨[b8 1,b8 q0,b8 q1,b8 q2,b8 q3].toArray⟩:Y).size=5:=rfl;obtain⟨y5,hy5⟩:∃y5:Y,⟨[b8 1,b8 q0,b8 q1,b8 q2,b8 q3].toArray⟩=y5:=⟨_,rfl⟩;rw[hy5] at hback h5;have a5:∀W,(Op.stringOp .add y5 d).run F W=.ok (G (y5++d)) W:=λW=>WR W _ _ A
    obtain⟨sp,hsp⟩:∃sp,y5++d=sp:=⟨_,rfl⟩;have hspz:sp.size<=1100010:=(by rw[<-hsp,WC];omega);rw[hsp] at a5;have hf3:=WK V1 gx 3 _ _ N0;have hf5:=WK V1 gx 5 _ _ N0;have x3:V1.cell? ⟨gx,3,O⟩=J (I Q (d.size:Z)):=(by rw[Wu _ _ 3 _ _ (0,0) N0];rfl);have x5:V1.cell? ⟨gx,5,O⟩=J (G d):=(by rw[Wu _ _ 5 _ _ (0,0) N0];rfl);have M8:=(Wt.1 N0).1;go_upto_region 13 with fail;have s5:=WL V1 gx 5 _ _ (G sp) N0;have s3:=WL _ gx 3 _ _ (I Q (sp.size:Z)) s5;have hO5:Ag (λk=>k=gx) V0 (((V1.setCell ⟨gx,5,O⟩ (G sp)).setCell ⟨gx,3,O⟩ (I Q (sp.size:Z))).alloc (.cells #[I .u8 1,I .u8 (q0:Z),I .u8 (q1:Z),I .u8 (q2:Z),I .u8 (q3:Z)] 5)):=((HON.trans (Aq V1 gx 5 _)).trans (Aq _ gx 3 _)).alloc _;have G4:C ((((V1.setCell ⟨gx,5,O⟩ (G sp)).setCell ⟨gx,3,O⟩ (I Q (sp.size:Z))).alloc (.cells #[I .u8 1,I .u8 (q0:Z),I .u8 (q1:Z),I .u8 (q2:Z),I .u8 (q3:Z)] 5)).heap[gx]? =J (.cells #[G a,I Q 8,I Q (ck:Z),I Q (sp.size:Z),I Q (d.size:Z),G sp] 82 (0,0))):=AH ((Ag.refl _ _).alloc _) s3;have O3:=H (U1 _ hO5);generalize((V1.setCell ⟨gx,5,O⟩ (G sp)).setCell ⟨gx,3,O⟩ (I Q (sp.size:Z))).alloc (.cells #[I .u8 1,I .u8 (q0:Z),I .u8 (q1:Z),I .u8 (q2:Z),I .u8 (q3:Z)] 5)=V5 at*;have x0:V5.cell? ⟨gx,0,O⟩=J (G a):=(by rw[Wu _ _ 0 _ _ (0,0) G4];rfl);have x1:V5.cell? ⟨gx,1,O⟩=J (I Q 8):=(by rw[Wu _ _ 1 _ _ (0,0) G4];rfl);have x2:V5.cell? ⟨gx,2,O⟩=J (I Q (ck:Z)):=(by rw[Wu _ _ 2 _ _ (0,0) G4];rfl);have x3:V5.cell? ⟨gx,3,O⟩=J (I Q (sp.size:Z)):=(by rw[Wu _ _ 3 _ _ (0,0) G4];rfl);have x4:V5.cell? ⟨gx,4,O⟩=J (I Q (d.size:Z)):=(by rw[Wu _ _ 4 _ _ (0,0) G4];rfl);have x5:V5.cell? ⟨gx,5,O⟩=J (G sp):=(by rw[Wu _ _ 5 _ _ (0,0) G4];rfl);have E6:C (∀x∈its++[(⟨a,8,ck,sp.size,d.size,sp⟩:Du)],lu x):=λx hx=>by
     rcases WY.1 hx with hx|hx
     .exact HK x hx
     rw[WN] at hx;subst hx;exact⟨by show a.size<=_;omega,by show 8<=_;omega,by show ck<=_;omega,by show sp.size<=_;omega,by show d.size<=_;omega,by show sp.size<=_;omega⟩
    have Z8:C ((its++[(⟨a,8,ck,sp.size,d.size,sp⟩:Du)]).length=i+1):=by have:=X O9;unfold C;rw[Ws,this];rfl
    have E5:=H (HN.old (O3.alloc (.cells #[G a,I Q 8,I Q (ck:Z),I Q (sp.size:Z),I Q (d.size:Z),G sp] 82)));go_wp2_with (at_builtin;refine AZ rfl (.tmp 97) (.tmp 99) rfl _ ⟨V5.heap.size,0,O⟩ its ⟨a,8,ck,sp.size,d.size,sp⟩ rfl rfl E5 (AD V5 [G a,I Q 8,I Q (ck:Z),I Q (sp.size:Z),I Q (d.size:Z),G sp] 82) A ?_;intro v9 w9 O8 I2;obtain⟨Q6,Z6,Y7⟩:=O8.form;subst Y7;have G2:=H O8;clear O8 I2);go_roundw
    .exact ⟨i+1,_,Q6,Z6,A,A,by go_num,by first|rfl|simp,G2,E6,Z8⟩
    exact Ae
   have hd6I:¬(d.size:Z)<65536:=A;go_upto_region 13 with fail;have x0:V0.cell? ⟨gx,0,O⟩=J (G a):=by rw[Wu _ _ 0 _ _ (0,0) HX];rfl
   have x1:V0.cell? ⟨gx,1,O⟩=J (I Q 0):=by rw[Wu _ _ 1 _ _ (0,0) HX];rfl
   have x2:V0.cell? ⟨gx,2,O⟩=J (I Q (ck:Z)):=by rw[Wu _ _ 2 _ _ (0,0) HX];rfl
   have x3:V0.cell? ⟨gx,3,O⟩=J (I Q (d.size:Z)):=by rw[Wu _ _ 3 _ _ (0,0) HX];rfl
   have x4:V0.cell? ⟨gx,4,O⟩=J (I Q (d.size:Z)):=by rw[Wu _ _ 4 _ _ (0,0) HX];rfl
   have x5:V0.cell? ⟨gx,5,O⟩=J (G d):=by rw[Wu _ _ 5 _ _ (0,0) HX];rfl
   have E6:C (∀x∈its++[(⟨a,0,ck,d.size,d.size,d⟩:Du)],lu x):=λx hx=>by
    rcases WY.1 hx with hx|hx
    .exact HK x hx
    rw[WN] at hx;subst hx;exact⟨by show a.size<=_;omega,by show 0<=_;omega,by show ck<=_;omega,by show d.size<=_;omega,by show d.size<=_;omega,by show d.size<=_;omega⟩
   have Z8:C ((its++[(⟨a,0,ck,d.size,d.size,d⟩:Du)]).length=i+1):=by have:=X O9;unfold C;rw[Ws,this];rfl
   have E5:=H (HN.old (I5.alloc (.cells #[G a,I Q 0,I Q (ck:Z),I Q (d.size:Z),I Q (d.size:Z),G d] 82)));go_wp2_with (at_builtin;refine AZ rfl (.tmp 97) (.tmp 99) rfl _ ⟨V0.heap.size,0,O⟩ its ⟨a,0,ck,d.size,d.size,d⟩ rfl rfl E5 (AD V0 [G a,I Q 0,I Q (ck:Z),I Q (d.size:Z),I Q (d.size:Z),G d] 82) A ?_;intro v9 w9 O8 I2;obtain⟨Q6,Z6,Y7⟩:=O8.form;subst Y7;have G2:=H O8;clear O8 I2);go_roundw
   .exact ⟨i+1,_,Q6,Z6,A,A,by go_num,by first|rfl|simp,G2,E6,Z8⟩
   exact Ae
  have hQb:(Q2==1)=false:=by rw[WA];exact hQ
  go_upto_region 13 with fail;have x0:V0.cell? ⟨gx,0,O⟩=J (G a):=by rw[Wu _ _ 0 _ _ (0,0) HX];rfl
  have x1:V0.cell? ⟨gx,1,O⟩=J (I Q 0):=by rw[Wu _ _ 1 _ _ (0,0) HX];rfl
  have x2:V0.cell? ⟨gx,2,O⟩=J (I Q (ck:Z)):=by rw[Wu _ _ 2 _ _ (0,0) HX];rfl
  have x3:V0.cell? ⟨gx,3,O⟩=J (I Q (d.size:Z)):=by rw[Wu _ _ 3 _ _ (0,0) HX];rfl
  have x4:V0.cell? ⟨gx,4,O⟩=J (I Q (d.size:Z)):=by rw[Wu _ _ 4 _ _ (0,0) HX];rfl
  have x5:V0.cell? ⟨gx,5,O⟩=J (G d):=by rw[Wu _ _ 5 _ _ (0,0) HX];rfl
  have E6:C (∀x∈its++[(⟨a,0,ck,d.size,d.size,d⟩:Du)],lu x):=λx hx=>by
   rcases WY.1 hx with hx|hx
   .exact HK x hx
   rw[WN] at hx;subst hx;exact⟨by show a.size<=_;omega,by show 0<=_;omega,by show ck<=_;omega,by show d.size<=_;omega,by show d.size<=_;omega,by show d.size<=_;omega⟩
  have Z8:C ((its++[(⟨a,0,ck,d.size,d.size,d⟩:Du)]).length=i+1):=by have:=X O9;unfold C;rw[Ws,this];rfl
  have E5:=H (HN.old (I5.alloc (.cells #[G a,I Q 0,I Q (ck:Z),I Q (d.size:Z),I Q (d.size:Z),G d] 82)));go_wp2_with (at_builtin;refine AZ rfl (.tmp 97) (.tmp 99) rfl _ ⟨V0.heap.size,0,O⟩ its ⟨a,0,ck,d.size,d.size,d⟩ rfl rfl E5 (AD V0 [G a,I Q 0,I Q (ck:Z),I Q (d.size:Z),I Q (d.size:Z),G d] 82) A ?_;intro v9 w9 O8 I2;obtain⟨Q6,Z6,Y7⟩:=O8.form;subst Y7;have G2:=H O8;clear O8 I2);go_roundw
  .exact ⟨i+1,_,Q6,Z6,A,A,by go_num,by first|rfl|simp,G2,E6,Z8⟩
  exact Ae
 have hi6I:¬(i:Z)<6:=A;go_upto_region 13 with fail;have x0:V0.cell? ⟨gx,0,O⟩=J (G a):=by rw[Wu _ _ 0 _ _ (0,0) HX];rfl
 have x1:V0.cell? ⟨gx,1,O⟩=J (I Q 0):=by rw[Wu _ _ 1 _ _ (0,0) HX];rfl
 have x2:V0.cell? ⟨gx,2,O⟩=J (I Q (ck:Z)):=by rw[Wu _ _ 2 _ _ (0,0) HX];rfl
 have x3:V0.cell? ⟨gx,3,O⟩=J (I Q (d.size:Z)):=by rw[Wu _ _ 3 _ _ (0,0) HX];rfl
 have x4:V0.cell? ⟨gx,4,O⟩=J (I Q (d.size:Z)):=by rw[Wu _ _ 4 _ _ (0,0) HX];rfl
 have x5:V0.cell? ⟨gx,5,O⟩=J (G d):=by rw[Wu _ _ 5 _ _ (0,0) HX];rfl
 have E6:C (∀x∈its++[(⟨a,0,ck,d.size,d.size,d⟩:Du)],lu x):=λx hx=>by
  rcases WY.1 hx with hx|hx
  .exact HK x hx
  rw[WN] at hx;subst hx;exact⟨by show a.size<=_;omega,by show 0<=_;omega,by show ck<=_;omega,by show d.size<=_;omega,by show d.size<=_;omega,by show d.size<=_;omega⟩
 have Z8:C ((its++[(⟨a,0,ck,d.size,d.size,d⟩:Du)]).length=i+1):=by have:=X O9;unfold C;rw[Ws,this];rfl
 have E5:=H (HN.old (I5.alloc (.cells #[G a,I Q 0,I Q (ck:Z),I Q (d.size:Z),I Q (d.size:Z),G d] 82)));go_wp2_with (at_builtin;refine AZ rfl (.tmp 97) (.tmp 99) rfl _ ⟨V0.heap.size,0,O⟩ its ⟨a,0,ck,d.size,d.size,d⟩ rfl rfl E5 (AD V0 [G a,I Q 0,I Q (ck:Z),I Q (d.size:Z),I Q (d.size:Z),G d] 82) A ?_;intro v9 w9 O8 I2;obtain⟨Q6,Z6,Y7⟩:=O8.form;subst Y7;have G2:=H O8;clear O8 I2);go_roundw
 .exact ⟨i+1,_,Q6,Z6,A,A,by go_num,by first|rfl|simp,G2,E6,Z8⟩
 exact Ae):p:=h
def aem(h:p:=by
 by_cases h0:its.length=0
 .have hn0:¬(0:Z)<(its.length:Z):=A;have e0:=wP h0;subst e0;have HJ:=H (DP ao 0 cap [] (λh=>by simp at h) Ad (λx hx=>by cases hx) wr (λi hi=>by simp at hi));have Q7:=H (DK [] Ad (λx hx=>by cases hx));go_wp2_with fail;apply HJ.mono;rintro r w6 ⟨rfl,J6⟩;obtain⟨k2,M2⟩:=G1 w6 (Ag.trans J2 J6);have O4:=H (P w6 (Cy []) (Ag.trans J2 J6) Q7);generalize Cy []=jr at*;go_wp2_with fail;go_end0;exact⟨rfl,O4⟩
 have hn0:(0:Z)<(its.length:Z):=A;obtain⟨g,cap',X1,F4,M7,Z0⟩:=HN.slice A;injection X1 with hve1 hve2 hve3;subst hve1 hve3;obtain⟨J0,N6⟩:=Ak HN.1 (b:=g) rfl;have d1:wr.cell? ⟨ob,1,O⟩=J (I Q p):=(HOP.old J2).cell 1 A;have d2:wr.cell? ⟨ob,2,O⟩=J (I Q q):=(HOP.old J2).cell 2 A;have HP:=H (λV=>Sx q hq1 X5 its.length A A V);have Y1:=Jo q (show 0<its.length by omega);generalize ES q its.length=k at*;have hklI:(k:Z)<its.length:=A;obtain⟨P3,hP3⟩:∃P3:Z,p/64=P3:=⟨_,rfl⟩;obtain⟨Q3,hQ3⟩:∃Q3:Z,bits BinOp.and IntKind.i64 P3 7=Q3:=⟨_,rfl⟩;have hitb:lu (its.getD k Db):=by rw[Wq,Wv Y1];exact HK _ (WJ Y1)
 obtain⟨o1,o2,o3,o4,o5,o6⟩:=hitb;have I7:∀x∈its,Du.ok x:=λx hx=>by
  obtain⟨o1,o2,o3,o4,o5,o6⟩:=HK x hx;exact⟨A,A,A,A,A,A⟩
 obtain⟨y0,y1,y2,y3,y4,y5⟩:=Z0 k Y1;obtain⟨y,R⟩:∃y,its.getD k Db=y:=⟨_,rfl⟩;rw[R] at o1 o2 o3 o4 o5 o6 y0 y1 y2 y3 y4 y5;obtain⟨yn,yw,yc,yp,yl,ys⟩:=y;simp only at o1 o2 o3 o4 o5 o6 y0 y1 y2 y3 y4 y5;have z1:=WK wr g (k*6+1) _ _ N6;have z2:=WK wr g (k*6+2) _ _ N6;have z3:=WK wr g (k*6+3) _ _ N6;have z4:=WK wr g (k*6+4) _ _ N6;by_cases hQ:Q3=1
 .have hQ1:(Q3==1)=true:=by rw[hQ];rfl
  have E2:(Q3==2)=false:=by rw[hQ];rfl
  have E1:(Q3==3)=false:=by rw[hQ];rfl
  have hQ4:(Q3==4)=false:=by rw[hQ];rfl
  have hQ5:(Q3==5)=false:=by rw[hQ];rfl
  have E0:=Z0.upd (j:=1) (v:=I Q ((yw:Z)+1)) (x:=⟨yn,yw+1,yc,yp,yl,ys⟩) Y1 A N6 (λc D=>by
   rw[R];have:c=0\/c=1\/c=2\/c=3\/c=4\/c=5:=A;rcases this with rfl|rfl|rfl|rfl|rfl|rfl<;>first|rfl|(simp[EG];done)|(simp[EG];omega))
  have Y2:Am W (wr.setCell ⟨g,k*6+1,O⟩ (I Q ((yw:Z)+1))):=J2.transNew (Aq wr g _ _) (λz hz e=>by have h1:W.heap.size<=g:=F4;omega);have T:=H Y2;have O7:=Kp (k:=k) (x:=⟨yn,yw+1,yc,yp,yl,ys⟩) I7 ⟨by show yn.size<=_;omega,by show yw+1<=_;omega,by show yc<=_;omega,by show yp<=_;omega,by show yl<=_;omega,by show ys.size<=_;omega⟩;have HJ:=H (DP (J ⟨g,0,O⟩) g cap (its.set k ⟨yn,yw+1,yc,yp,yl,ys⟩) (λ_=>rfl) (by rw[wk];omega) O7 _ E0);rw[wk] at HJ;have Q7:=H (DK _ (by rw[wk];omega) O7);generalize Cy (its.set k ⟨yn,yw+1,yc,yp,yl,ys⟩)=jr at*;go_wp2_with fail;apply(HP _).mono;rintro r w3 ⟨rfl,rfl⟩;go_wp2_with fail;apply HJ.mono;rintro r w6 ⟨rfl,J6⟩;obtain⟨k2,M2⟩:=G1 w6 (Ag.trans T J6);have O4:=H (P w6 jr (Ag.trans T J6) Q7);go_wp2_with fail;go_end0;exact⟨rfl,O4⟩
 have nQ1:=hQ;by_cases hQ:Q3=2
 .have hQ1:(Q3==1)=false:=by rw[hQ];rfl
  have E2:(Q3==2)=true:=by rw[hQ];rfl
  have E1:(Q3==3)=false:=by rw[hQ];rfl
  have hQ4:(Q3==4)=false:=by rw[hQ];rfl
  have hQ5:(Q3==5)=false:=by rw[hQ];rfl
  have hxo:bits BinOp.xor IntKind.i64 (yc:Z) 1=((yc^^^1:N):Z):=BM yc 1 A A;have hxz:yc^^^1<8589934592:=abZ (n:=33) A A;have E0:=Z0.upd (j:=2) (v:=I Q ((yc^^^1:N):Z)) (x:=⟨yn,yw,yc^^^1,yp,yl,ys⟩) Y1 A N6 (λc D=>by
   rw[R];have:c=0\/c=1\/c=2\/c=3\/c=4\/c=5:=A;rcases this with rfl|rfl|rfl|rfl|rfl|rfl<;>first|rfl|(simp[EG];done)|(simp[EG];omega))
  have Y2:Am W (wr.setCell ⟨g,k*6+2,O⟩ (I Q ((yc^^^1:N):Z))):=J2.transNew (Aq wr g _ _) (λz hz e=>by have h1:W.heap.size<=g:=F4;omega);have T:=H Y2;have O7:=Kp (k:=k) (x:=⟨yn,yw,yc^^^1,yp,yl,ys⟩) I7 ⟨by show yn.size<=_;omega,by show yw<=_;omega,by show yc^^^1<=_;omega,by show yp<=_;omega,by show yl<=_;omega,by show ys.size<=_;omega⟩;have HJ:=H (DP (J ⟨g,0,O⟩) g cap (its.set k ⟨yn,yw,yc^^^1,yp,yl,ys⟩) (λ_=>rfl) (by rw[wk];omega) O7 _ E0);rw[wk] at HJ;have Q7:=H (DK _ (by rw[wk];omega) O7);generalize Cy (its.set k ⟨yn,yw,yc^^^1,yp,yl,ys⟩)=jr at*;go_wp2_with fail;apply(HP _).mono;rintro r w3 ⟨rfl,rfl⟩;go_wp2_with fail;apply HJ.mono;rintro r w6 ⟨rfl,J6⟩;obtain⟨k2,M2⟩:=G1 w6 (Ag.trans T J6);have O4:=H (P w6 jr (Ag.trans T J6) Q7);go_wp2_with fail;go_end0;exact⟨rfl,O4⟩
 have nQ2:=hQ;by_cases hQ:Q3=3
 .have hQ1:(Q3==1)=false:=by rw[hQ];rfl
  have E2:(Q3==2)=false:=by rw[hQ];rfl
  have E1:(Q3==3)=true:=by rw[hQ];rfl
  have hQ4:(Q3==4)=false:=by rw[hQ];rfl
  have hQ5:(Q3==5)=false:=by rw[hQ];rfl
  have E0:=Z0.upd (j:=4) (v:=I Q ((yl:Z)+1)) (x:=⟨yn,yw,yc,yp,yl+1,ys⟩) Y1 A N6 (λc D=>by
   rw[R];have:c=0\/c=1\/c=2\/c=3\/c=4\/c=5:=A;rcases this with rfl|rfl|rfl|rfl|rfl|rfl<;>first|rfl|(simp[EG];done)|(simp[EG];omega))
  have Y2:Am W (wr.setCell ⟨g,k*6+4,O⟩ (I Q ((yl:Z)+1))):=J2.transNew (Aq wr g _ _) (λz hz e=>by have h1:W.heap.size<=g:=F4;omega);have T:=H Y2;have O7:=Kp (k:=k) (x:=⟨yn,yw,yc,yp,yl+1,ys⟩) I7 ⟨by show yn.size<=_;omega,by show yw<=_;omega,by show yc<=_;omega,by show yp<=_;omega,by show yl+1<=_;omega,by show ys.size<=_;omega⟩;have HJ:=H (DP (J ⟨g,0,O⟩) g cap (its.set k ⟨yn,yw,yc,yp,yl+1,ys⟩) (λ_=>rfl) (by rw[wk];omega) O7 _ E0);rw[wk] at HJ;have Q7:=H (DK _ (by rw[wk];omega) O7);generalize Cy (its.set k ⟨yn,yw,yc,yp,yl+1,ys⟩)=jr at*;go_wp2_with fail;apply(HP _).mono;rintro r w3 ⟨rfl,rfl⟩;go_wp2_with fail;apply HJ.mono;rintro r w6 ⟨rfl,J6⟩;obtain⟨k2,M2⟩:=G1 w6 (Ag.trans T J6);have O4:=H (P w6 jr (Ag.trans T J6) Q7);go_wp2_with fail;go_end0;exact⟨rfl,O4⟩
 have nQ3:=hQ;by_cases hQ:Q3=4
 .have hQ1:(Q3==1)=false:=by rw[hQ];rfl
  have E2:(Q3==2)=false:=by rw[hQ];rfl
  have E1:(Q3==3)=false:=by rw[hQ];rfl
  have hQ4:(Q3==4)=true:=by rw[hQ];rfl
  have hQ5:(Q3==5)=false:=by rw[hQ];rfl
  have E0:=Z0.upd (j:=3) (v:=I Q ((yp:Z)+1)) (x:=⟨yn,yw,yc,yp+1,yl,ys⟩) Y1 A N6 (λc D=>by
   rw[R];have:c=0\/c=1\/c=2\/c=3\/c=4\/c=5:=A;rcases this with rfl|rfl|rfl|rfl|rfl|rfl<;>first|rfl|(simp[EG];done)|(simp[EG];omega))
  have Y2:Am W (wr.setCell ⟨g,k*6+3,O⟩ (I Q ((yp:Z)+1))):=J2.transNew (Aq wr g _ _) (λz hz e=>by have h1:W.heap.size<=g:=F4;omega);have T:=H Y2;have O7:=Kp (k:=k) (x:=⟨yn,yw,yc,yp+1,yl,ys⟩) I7 ⟨by show yn.size<=_;omega,by show yw<=_;omega,by show yc<=_;omega,by show yp+1<=_;omega,by show yl<=_;omega,by show ys.size<=_;omega⟩;have HJ:=H (DP (J ⟨g,0,O⟩) g cap (its.set k ⟨yn,yw,yc,yp+1,yl,ys⟩) (λ_=>rfl) (by rw[wk];omega) O7 _ E0);rw[wk] at HJ;have Q7:=H (DK _ (by rw[wk];omega) O7);generalize Cy (its.set k ⟨yn,yw,yc,yp+1,yl,ys⟩)=jr at*;go_wp2_with fail;apply(HP _).mono;rintro r w3 ⟨rfl,rfl⟩;go_wp2_with fail;apply HJ.mono;rintro r w6 ⟨rfl,J6⟩;obtain⟨k2,M2⟩:=G1 w6 (Ag.trans T J6);have O4:=H (P w6 jr (Ag.trans T J6) Q7);go_wp2_with fail;go_end0;exact⟨rfl,O4⟩
 have nQ4:=hQ;by_cases hQ:Q3=5
 .have hQ1:(Q3==1)=false:=by rw[hQ];rfl
  have E2:(Q3==2)=false:=by rw[hQ];rfl
  have E1:(Q3==3)=false:=by rw[hQ];rfl
  have hQ4:(Q3==4)=false:=by rw[hQ];rfl
  have hQ5:(Q3==5)=true:=by rw[hQ];rfl
  have E0:=Z0.upd (j:=4) (v:=I Q ((yl:Z)+4000)) (x:=⟨yn,yw,yc,yp,yl+4000,ys⟩) Y1 A N6 (λc D=>by
   rw[R];have:c=0\/c=1\/c=2\/c=3\/c=4\/c=5:=A;rcases this with rfl|rfl|rfl|rfl|rfl|rfl<;>first|rfl|(simp[EG];done)|(simp[EG];omega))
  have Y2:Am W (wr.setCell ⟨g,k*6+4,O⟩ (I Q ((yl:Z)+4000))):=J2.transNew (Aq wr g _ _) (λz hz e=>by have h1:W.heap.size<=g:=F4;omega);have T:=H Y2;have O7:=Kp (k:=k) (x:=⟨yn,yw,yc,yp,yl+4000,ys⟩) I7 ⟨by show yn.size<=_;omega,by show yw<=_;omega,by show yc<=_;omega,by show yp<=_;omega,by show yl+4000<=_;omega,by show ys.size<=_;omega⟩;have HJ:=H (DP (J ⟨g,0,O⟩) g cap (its.set k ⟨yn,yw,yc,yp,yl+4000,ys⟩) (λ_=>rfl) (by rw[wk];omega) O7 _ E0);rw[wk] at HJ;have Q7:=H (DK _ (by rw[wk];omega) O7);generalize Cy (its.set k ⟨yn,yw,yc,yp,yl+4000,ys⟩)=jr at*;go_wp2_with fail;apply(HP _).mono;rintro r w3 ⟨rfl,rfl⟩;go_wp2_with fail;apply HJ.mono;rintro r w6 ⟨rfl,J6⟩;obtain⟨k2,M2⟩:=G1 w6 (Ag.trans T J6);have O4:=H (P w6 jr (Ag.trans T J6) Q7);go_wp2_with fail;go_end0;exact⟨rfl,O4⟩
 have nQ5:=hQ;have hQ1:(Q3==1)=false:=by rw[WA];assumption
 have E2:(Q3==2)=false:=by rw[WA];assumption
 have E1:(Q3==3)=false:=by rw[WA];assumption
 have hQ4:(Q3==4)=false:=by rw[WA];assumption
 have hQ5:(Q3==5)=false:=by rw[WA];assumption
 have HJ:=H (DP (J ⟨g,0,O⟩) g cap its (λ_=>rfl) A I7 wr Z0);have Q7:=H (DK its A I7);go_wp2_with fail;apply(HP _).mono;rintro r w3 ⟨rfl,rfl⟩;go_wp2_with fail;apply HJ.mono;rintro r w6 ⟨rfl,J6⟩;obtain⟨k2,M2⟩:=G1 w6 (Ag.trans J2 J6);have O4:=H (P w6 (Cy its) (Ag.trans J2 J6) Q7);generalize Cy its=jr at*;go_wp2_with fail;go_end0;exact⟨rfl,O4⟩):p:=h
def aen(h:p:=by
 obtain⟨v5,d5, -, -,t5⟩:=X G0;have HAW:=H (dk.pV _ R (BO P) b v5 W5 d5 L.go OL A (WF _));have HT5:=H (λw2 D2 l=>G0.turn d5 (w2:=w2) (D2:=D2) l);clear d5 t5;go_wp2_with fail;refine HAW.mono ?_;rintro e w6 ⟨rfl,T,I1,K0⟩;have F9:=H (HT5 w6 T K0);have HRM:=H I1;have U5:=H (L.bare I1).1;have hl1:=L.len1 I1;obtain⟨hr0,U8⟩:=dk.Wr.start U5 A;obtain⟨v6,d6, -, -, -⟩:=X F9;have HMK:=H (dk.EN d6 P A A);have Hw3:=H U8;have HT6:=H (λw2 D2 l=>F9.turn d6 (w2:=w2) (D2:=D2) l);clear I1 K0 HAW HT5 d6 hr0 U8 G0 hps;generalize(dk.Bz T P).1=rc1 at*;generalize(dk.Bz T P).2=R2 at*;go_wp2_with fail;refine HMK.mono ?_;rintro e w7 ⟨rfl,K0⟩;have HST7:=H (HT6 w7 R2 K0);clear K0 HMK HT6 F9;go_wp2;go_loopw [15,16,17] (λx _ _ wr=>∃(i:N) (Li:E Y) (Di:dk.AX),i<=fs.length/\x=I Q i/\C (Li=Rs (fs.take i))/\C (dk.Wr T P Li (fs.take i) Di)/\C (Rv w3 wr b v (K ao fs.length cap) fs Di)) (λx _ _ _=>fs.length-(intOf x).toNat)
 .exact ⟨0,[],R2,A,rfl,rfl,Hw3,HST7⟩
 obtain⟨i,Li,Di,hi,rfl,M1,u,HST⟩:=hrel;clear Hw3 HST7;by_cases o:i<fs.length
 .have I8:(i:Z)<fs.length:=A;obtain⟨g,cap',X1,M7,p⟩:=HST.files.slice A;injection X1 with hve1 hve2 hve3;subst hve1 hve3;obtain⟨c0,c1⟩:=p i o;have V9:=OK fs i o;obtain⟨hnv,Y9⟩:=JT (U4.file _ V9);have hdz:=U4.data _ V9;have HNEW:=H (U4.new i o);obtain⟨n,U7⟩:=U4.next i o;have HTK:=H (XP fs i o);have htl:(fs.take i).length=i:=by rw[hY];omega
  have hLl:Li.length<=4800:=by
   have h:=Rt (fs.take i) (λf hf=>(JT (U4.file f (abb hf))).2);rw[X M1];omega
  rw[<-X M1] at U7;have J4:C (Rs (fs.take (i+1))=dk.CV Li (Bf (fs.getD i default).1 (fs.getD i default).1.size)):=by
   have h:=X M1;unfold C;rw[X HTK,Tq,<-h]
  have HDC:C (∀W D,Rv w3 W b v (K (J ⟨g,0,O⟩) fs.length cap) fs D->W.cell? ⟨g,i*2+1,O⟩=J (G (fs.getD i default).2)):=λW D h=>by
   obtain⟨g2,cap2,e2, -,h2⟩:=h.files.slice A;injection e2 with e3;injection e3 with e3;injection e3 with e3;subst e3;exact(h2 i o).2
  have htlH:=H htl;clear V9 M1 p hve2;generalize fs.take i=ft at*;generalize fs.getD i default=ff at*;obtain⟨nm,d⟩:=ff;simp only at Y9 hnv hdz c0 c1 HNEW n U7 J4 HDC;obtain⟨q,hq⟩:∃q,dk.Dn P nm=q:=⟨_,rfl⟩;have hqz:q.size=P.size+1+nm.size:=by rw[<-hq];exact dk.Et P nm
  have hpn:P++⟨#[47]⟩++nm=q:=hq;have HBT:C (∀j,j<nm.size->As q (P.size+1+j)=As nm j):=λj hj=>by
   have h1:=Dh (a:=P++dk.ab) (b:=nm) (k:=P.size+1+j) (by rw[WC];show P.size+1<=_;omega);have h2:(P++dk.ab).size=P.size+1:=by rw[WC];rfl
   rw[h2,show P.size+1+j-(P.size+1)=j by omega] at h1;rw[<-hq];exact h1
  have c:C (∀j,j<=nm.size->q.extract 0 (P.size+1+j)=dk.Dn P (nm.extract 0 j)):=λj hj=>by
   apply dk.Dx;rw[dk.FD,<-hq,dk.DA,dk.DA,dk.FD,List.take_append,<-dk.Bi P,wv A,show(dk.bl P).length+1+j-(dk.bl P).length=j+1 by omega,List.take_succ_cons]
  have HFO:C (∀j,j<nm.size->As nm j=47->dk.Vp (dk.bl (nm.extract 0 j))/\(nm.extract 0 j).size<=80/\(∀f∈ft,f.1≠nm.extract 0 j)/\∀(g:Y) (r:E UInt8),dk.bl (nm.extract 0 j)=dk.bl g++47::r->g∈dk.CV Li (Bf nm j)):=λj hj U0=>by
   have hm:nm.extract 0 j∈Bf nm nm.size:=by
    have h1:=GY nm j U0;have h2:nm.extract 0 j∈Bf nm (j+1):=(by rw[h1];simp);obtain⟨r,h3,h4⟩:=(dk.OB A).1 h2;exact dk.FF.2 ⟨r,h3⟩
   obtain⟨r,y⟩:=dk.FF.1 hm;have hz:(nm.extract 0 j).size=j:=by rw[WM];omega
   refine⟨?_,A,λf hf e=>n f hf (e ▸ hm),λg r2 e2=>(dk.Gs _ _ _).2 (.inr ?_)⟩
   .have h:=hnv;rw[y] at h;exact h.left
   refine(dk.OB A).2 ⟨r2++47::r,by rw[y,e2];simp,?_⟩;have:=hJ List.length e2;rw[Ws,wu,dk.Bi,dk.Bi] at this;omega
  have HW1:C (dk.Wr T P (dk.CV Li (Bf nm 0)) ft Di):=u;have O4:C (∀D,dk.Wr T P (dk.CV Li (Bf nm nm.size)) ft D->dk.Wr T P (dk.CV Li (Bf nm nm.size)) (fs.take (i+1)) (dk.BX D q d).2):=λD h=>by
   have S:=h.len;have hll:=dk.EW (Bf nm nm.size) Li;have E9:=KL nm;have htl:=X htlH;rw[X HTK,<-hq];exact(h.file U5 A (nm,d) hnv Y9 U7 HNEW (λg r e=>(dk.Gs _ _ _).2 (.inr (dk.FF.2 ⟨r,e⟩)))).2
  have hti:ft.length<=60:=by have:=X htlH;omega
  clear hq hnv n U7 htl u;go_wp2_with fail;obtain⟨w8,hw8⟩:∃w8,w8=wr:=⟨_,rfl⟩;subst hw8;clear c0 c1 hpn;go_loopw [17] (λx wr=>∃(j:N) (Lj:E Y) (Dj:dk.AX),j<=nm.size/\x=I Q ((P.size+1+j:N):Z)/\C (Lj=dk.CV Li (Bf nm j))/\C (dk.Wr T P Lj ft Dj)/\C (Rv w3 wr b v (K (J ⟨g,0,O⟩) fs.length cap) fs Dj)) (λx _=>q.size-(intOf x).toNat)
  .exact ⟨0,_,Di,A,by go_num,rfl,HW1,HST⟩
  obtain⟨j,Lj,Dj,hj,rfl,U2,Y4,K9⟩:=hrel;clear HW1 HST;by_cases F3:j<nm.size
  .have hjI:((P.size+1+j:N):Z)<(q.size:Z):=A;have Y1:P.size+1+j<q.size:=A;have hb:=AA (s:=q) (k:=P.size+1+j) Y1;rw[HBT j F3] at hb;have hLjl:Lj.length<=4900:=by
    have h:=dk.EW (Bf nm j) Li;have h2:=GZ nm j;rw[X U2];omega
   by_cases U0:As nm j=47
   .obtain ⟨Y8,hv2,M3,hv4⟩:=HFO j F3 U0;have K8:((As nm j:Z)==47)=true:=(by rw[aaB];omega);have K7:(As nm j:Z)=47:=A;have K5:=c j A;have N9:C (dk.CV Li (Bf nm (j+1))=if Ki Lj (nm.extract 0 j)=true then Lj else Lj++[nm.extract 0 j]):=by
     have h:=X U2;unfold C;rw[GY nm j U0,dk.PM,<-h]
    rw[<-X U2] at hv4;obtain⟨vj,dj, -, -, -⟩:=X K9;have S:=Y4.len;have hzi:=dk.Et P (nm.extract 0 j);have t:=H (dk.Ct dj (dk.Dn P (nm.extract 0 j)) A);cases hmm:Ki Lj (nm.extract 0 j) with
    |true=>
     have h2:dk.BW Dj.ts (dk.Dn P (nm.extract 0 j))=2:=by
      have:=dk.Mf Y4.go.ok.wf.srt (Y4.has (dk.Gm.1 hmm));exact this
     rw[h2] at t;have T3:=H ((N9.trans (Wz hmm)).symm);have T1:=H (λw2 (ho:Am _ w2)=>K9.old ho);clear hmm h2 Y8 hv2 M3 hv4 N9 U2 dj S U0 hzi;generalize dk.Dn P (nm.extract 0 j)=qf at*;go_wp2_with fail;refine t.mono ?_;rintro e w9 ⟨rfl,m,hw9⟩;have HS9:=H (T1 w9 (by rw[hw9];exact(Ag.refl _ _).drewN m));clear hw9 t T1 K5;clear m;go_wp2;go_roundw
     .exact ⟨j+1,Lj,Dj,A,by go_num,T3,Y4,HS9⟩
     exact Ae
    |false=>
     have hnm:nm.extract 0 j∉Lj:=λh=>by rw[dk.Gm.2 h] at hmm;cases hmm
     have h0:=dk.Lh (Y4.free U5 hnm M3);rw[h0] at t;have T3:=H ((N9.trans (Wx (by rw[hmm];simp))).symm);have HWF:=H (Y4.folder U5 A Y8 hv2 hnm M3 hv4).2;have HMD:C (∀w2 (_:Am wr w2),∃v2,dk.Ao w2 b v2 Dj/\Calls F 50 #[V (J ⟨b,0,O⟩),G (dk.Dn P (nm.extract 0 j))] w2 λe w'=>e=.returned (I Q (dk.Bz Dj (dk.Dn P (nm.extract 0 j))).1)/\Rv w3 w' b v (K (J ⟨g,0,O⟩) fs.length cap) fs (dk.Bz Dj (dk.Dn P (nm.extract 0 j))).2):=λw2 ho=>by
      have O1:=K9.old ho;obtain⟨v2,d2, -, -, -⟩:=O1;refine⟨v2,d2,(dk.EN d2 _ A A).mono ?_⟩;rintro e w3 ⟨rfl,l⟩;exact⟨rfl,(K9.old ho).turn d2 l⟩
     clear hmm h0 Y8 hv2 M3 hv4 N9 U2 dj S U0 hzi Y4 hnm;generalize(dk.Bz Dj (dk.Dn P (nm.extract 0 j))).1=rcm at*;generalize(dk.Bz Dj (dk.Dn P (nm.extract 0 j))).2=D9 at*;generalize dk.Dn P (nm.extract 0 j)=qf at*;generalize nm.extract 0 j=fo at*;go_wp2_with fail;refine t.mono ?_;rintro e w9 ⟨rfl,m,hw9⟩;obtain⟨v9, -,HM9⟩:=HMD w9 (by rw[hw9];exact(Ag.refl _ _).drewN m);have HM9:=H HM9;clear hw9 t HMD;clear m;go_wp2_with fail;refine HM9.mono ?_;rintro e w10 ⟨rfl,hs10⟩;have HS10:=H hs10;clear hs10 HM9 K5;go_wp2;go_roundw
     .exact ⟨j+1,Lj++[fo],D9,A,by go_num,T3,HWF,HS10⟩
     exact Ae
   have K8:((As nm j:Z)==47)=false:=by rw[WA];omega
   have K7:¬(As nm j:Z)=47:=A;have T3:C (Lj=dk.CV Li (Bf nm (j+1))):=by
    have h:=X U2;unfold C;rw[IR nm j U0,<-h]
   clear U2 U0;go_wp2;go_roundw
   .exact ⟨j+1,Lj,Dj,A,by go_num,T3,Y4,K9⟩
   exact Ae
  have hjI:¬((P.size+1+j:N):Z)<(q.size:Z):=A;have V8:j=nm.size:=A;have HWN:C (dk.Wr T P (dk.CV Li (Bf nm nm.size)) ft Dj):=by
   have h:=X U2;rw[V8] at h;rw[<-h];exact Y4
  have c1:=HDC wr Dj K9;obtain⟨vj,dj, -, -, -⟩:=X K9;have S:=Y4.len;have hLjl:Lj.length<=4900:=by
   have h:=dk.EW (Bf nm j) Li;have h2:=GZ nm j;rw[X U2];omega
  have hrm:Dj.room<=9223372036854775807:=by have:=Y4.go.room;omega
  have HWT:=H (dk.Jj dj q d A A hrm A);have HTU:=H (λw2 D2 l=>K9.turn dj (w2:=w2) (D2:=D2) l);have HW9:=H (O4 Dj HWN);clear dj S hrm HWN O4 Y4 U2 HFO HBT c HDC V8;generalize(dk.BX Dj q d).1=rcw at*;generalize(dk.BX Dj q d).2=D9 at*;go_wp2_with fail;refine HWT.mono ?_;rintro e w9 ⟨rfl,K0⟩;have HS9:=H (HTU w9 D9 K0);have HL9:=H ((X J4).symm);clear K0 HWT HTU K9 c1;go_wp2;go_roundw
  .exact ⟨i+1,_,D9,A,by go_num,HL9,HW9,HS9⟩
  exact Ae
 have I8:¬(i:Z)<fs.length:=A;have hie:i=fs.length:=A;subst hie;rw[wL] at u M1;have HWL:C (dk.Wr T P (Rs fs) fs Di):=by rw[<-X M1];exact u
 have HX:=H (HA T Di HRM HWL);have HTE:=H HST.fin;clear HA u M1 HWL HST HRM U5;go_wp2;go_ret;exact⟨0,rfl,Di,HX,HTF _ _ HTE⟩):p:=h
def aeo(h:p:=by
 refine Ah (i:=17) B ?_;refine WE rfl (λK' l=>?_);go_simp;refine l _ _ ⟨λh=>absurd rfl h,?_⟩;clear l;refine Aj B ?_;have N2:=WD wr (W #[G R,I Q 0,I Q (ck:Z),I Q (d.size:Z),I Q (d.size:Z),G d] 82);have I5:C (Am wr (wr.alloc (W #[G R,I Q 0,I Q (ck:Z),I Q (d.size:Z),I Q (d.size:Z),G d] 82)).drew):=((Ag.refl _ wr).alloc _).drew;have HX:C ((wr.alloc (W #[G R,I Q 0,I Q (ck:Z),I Q (d.size:Z),I Q (d.size:Z),G d] 82)).drew.heap[wr.heap.size]? =J (W #[G R,I Q 0,I Q (ck:Z),I Q (d.size:Z),I Q (d.size:Z),G d] 82 (0,0))):=N2;have U1:C (∀V,Ag (λk=>k=wr.heap.size) (wr.alloc (W #[G R,I Q 0,I Q (ck:Z),I Q (d.size:Z),I Q (d.size:Z),G d] 82)).drew V->Am wr V):=λV ho=>I5.transNew ho (λk hk e=>Aa)
 clear N2 j G3 t a1 c1 c2;generalize(wr.alloc (W #[G R,I Q 0,I Q (ck:Z),I Q (d.size:Z),I Q (d.size:Z),G d] 82)).drew=V0,wr.heap.size=gx at*;have HDF:=H (EE d Aa V0);obtain⟨dp,hdp⟩:∃dp,CZ d=dp:=⟨_,rfl⟩;rw[hdp] at HDF;have V3:=H hdp;clear hdp;go_wp2_with fail;apply HDF.mono;rintro r V1 ⟨y,q⟩;rcases y with⟨-,rfl⟩|⟨D, -⟩
 rotate_left
 .exact absurd D Aa
 have N0:=H (AH q HX);have u:=H (I5.trans q);have M0:C (∀V,Ag (λk=>k=gx) V1 V->Am wr V):=λV h=>U1 V ((Ag.oldW q).trans h)
 clear HX I5 U1 q HDF;by_cases K2:dp.size<d.size
 .have X3:(dp.size:Z)<d.size:=Aa;have hf1:=WK V1 gx 1 _ _ N0;have hf3:=WK V1 gx 3 _ _ N0;have hf5:=WK V1 gx 5 _ _ N0;have x1:V1.cell? ⟨gx,1,O⟩=J (I Q 0):=by rw[Wu _ _ 1 _ _ (0,0) N0];rfl
  have x3:V1.cell? ⟨gx,3,O⟩=J (I Q (d.size:Z)):=by rw[Wu _ _ 3 _ _ (0,0) N0];rfl
  have x5:V1.cell? ⟨gx,5,O⟩=J (G d):=by rw[Wu _ _ 5 _ _ (0,0) N0];rfl
  go_upto_region 22 with fail;have s1:=WL V1 gx 1 _ _ (I Q 8) N0;have s3:=WL _ gx 3 _ _ (I Q (dp.size:Z)) s1;have s5:=WL _ gx 5 _ _ (G dp) s3;have G4:C ((((V1.setCell ⟨gx,1,O⟩ (I Q 8)).setCell ⟨gx,3,O⟩ (I Q (dp.size:Z))).setCell ⟨gx,5,O⟩ (G dp)).heap[gx]? =J (W #[G R,I Q 8,I Q (ck:Z),I Q (dp.size:Z),I Q (d.size:Z),G dp] 82 (0,0))):=s5;have O3:=H (M0 (((V1.setCell ⟨gx,1,O⟩ (I Q 8)).setCell ⟨gx,3,O⟩ (I Q (dp.size:Z))).setCell ⟨gx,5,O⟩ (G dp)) (((Aq V1 gx 1 _).trans (Aq _ gx 3 _)).trans (Aq _ gx 5 _)));clear s1 s3 s5 x1 x3 x5 hf1 hf3 hf5 N0 u M0;generalize((V1.setCell ⟨gx,1,O⟩ (I Q 8)).setCell ⟨gx,3,O⟩ (I Q (dp.size:Z))).setCell ⟨gx,5,O⟩ (G dp)=V5 at*;have x0:V5.cell? ⟨gx,0,O⟩=J (G R):=by rw[Wu _ _ 0 _ _ (0,0) G4];rfl
  have x1:V5.cell? ⟨gx,1,O⟩=J (I Q 8):=by rw[Wu _ _ 1 _ _ (0,0) G4];rfl
  have x2:V5.cell? ⟨gx,2,O⟩=J (I Q (ck:Z)):=by rw[Wu _ _ 2 _ _ (0,0) G4];rfl
  have x3:V5.cell? ⟨gx,3,O⟩=J (I Q (dp.size:Z)):=by rw[Wu _ _ 3 _ _ (0,0) G4];rfl
  have x4:V5.cell? ⟨gx,4,O⟩=J (I Q (d.size:Z)):=by rw[Wu _ _ 4 _ _ (0,0) G4];rfl
  have x5:V5.cell? ⟨gx,5,O⟩=J (G dp):=by rw[Wu _ _ 5 _ _ (0,0) G4];rfl
  have E6:C (its++[(⟨R,8,ck,dp.size,d.size,dp⟩:Du)]=(Bd (fs.take (i+1))).map (LB p)):=by
   have h1:=uh HK;have h2:=uh Q8;have h3:=uh V4;have h4:=uh HQN;have h5:=uh V3;unfold C;rw[h2,wV,<-h1,aai,aaF,LQ (by rw[h5];exact K2),LB];show _=its++[(⟨p++nm,_,_,_,_,_⟩:Du)];simp only[h3,h4,h5]
  have Z8:C ((its++[(⟨R,8,ck,dp.size,d.size,dp⟩:Du)]).length=i+1):=by have:=uh O9;unfold C;rw[Ws,this];rfl
  have E5:=H (HN.old (O3.alloc (W #[G R,I Q 8,I Q (ck:Z),I Q (dp.size:Z),I Q (d.size:Z),G dp] 82)));clear G4 O3 HN HK O9 Q8 V4 HQN V3 K2;go_wp2_with (at_builtin;refine AZ rfl (.tmp 140) (.tmp 142) rfl _ ⟨V5.heap.size,0,O⟩ its ⟨R,8,ck,dp.size,d.size,dp⟩ rfl rfl E5 (AD V5 [G R,I Q 8,I Q (ck:Z),I Q (dp.size:Z),I Q (d.size:Z),G dp] 82) Aa ?_;intro v9 w9 O8 I2;obtain⟨Q6,Z6,Y7⟩:=O8.form;subst Y7;have G2:=H O8;clear O8 I2);go_roundw
  .exact ⟨i+1,_,Q6,Z6,Aa,by go_num,by first|rfl|simp,G2,E6,Z8⟩
  exact Ae
 have X3:¬(dp.size:Z)<d.size:=Aa;clear M0;go_upto_region 22 with fail;have x0:V1.cell? ⟨gx,0,O⟩=J (G R):=by rw[Wu _ _ 0 _ _ (0,0) N0];rfl
 have x1:V1.cell? ⟨gx,1,O⟩=J (I Q 0):=by rw[Wu _ _ 1 _ _ (0,0) N0];rfl
 have x2:V1.cell? ⟨gx,2,O⟩=J (I Q (ck:Z)):=by rw[Wu _ _ 2 _ _ (0,0) N0];rfl
 have x3:V1.cell? ⟨gx,3,O⟩=J (I Q (d.size:Z)):=by rw[Wu _ _ 3 _ _ (0,0) N0];rfl
 have x4:V1.cell? ⟨gx,4,O⟩=J (I Q (d.size:Z)):=by rw[Wu _ _ 4 _ _ (0,0) N0];rfl
 have x5:V1.cell? ⟨gx,5,O⟩=J (G d):=by rw[Wu _ _ 5 _ _ (0,0) N0];rfl
 have E6:C (its++[(⟨R,0,ck,d.size,d.size,d⟩:Du)]=(Bd (fs.take (i+1))).map (LB p)):=by
  have h1:=uh HK;have h2:=uh Q8;have h3:=uh V4;have h4:=uh HQN;have h5:=uh V3;unfold C;rw[h2,wV,<-h1,aai,aaF,LR (by rw[h5];exact K2),LB];show _=its++[(⟨p++nm,_,_,_,_,_⟩:Du)];simp only[h3,h4]
 have Z8:C ((its++[(⟨R,0,ck,d.size,d.size,d⟩:Du)]).length=i+1):=by have:=uh O9;unfold C;rw[Ws,this];rfl
 have E5:=H (HN.old (u.alloc (W #[G R,I Q 0,I Q (ck:Z),I Q (d.size:Z),I Q (d.size:Z),G d] 82)));clear N0 u HN HK O9 Q8 V4 HQN V3 K2;go_wp2_with (at_builtin;refine AZ rfl (.tmp 140) (.tmp 142) rfl _ ⟨V1.heap.size,0,O⟩ its ⟨R,0,ck,d.size,d.size,d⟩ rfl rfl E5 (AD V1 [G R,I Q 0,I Q (ck:Z),I Q (d.size:Z),I Q (d.size:Z),G d] 82) Aa ?_;intro v9 w9 O8 I2;obtain⟨Q6,Z6,Y7⟩:=O8.form;subst Y7;have G2:=H O8;clear O8 I2);go_roundw
 .exact ⟨i+1,_,Q6,Z6,Aa,by go_num,by first|rfl|simp,G2,E6,Z8⟩
 exact Ae):p:=h
def aep(h:p:=by
 clear O1;go_wp2_with fail;refine Ai (S:=λX=>X.cell? ⟨b,0,O⟩=J (G M)/\X.cell? ⟨b,1,O⟩=J (G V)/\X.cell? ⟨b,2,O⟩=J (G A)/\Am W0 X) (L:=14) B ?_;refine tk 0 15 (.pointer (J ⟨b,0,O⟩)) 44 j ?_;refine tk 1 15 (.pointer (J ⟨b,0,O⟩)) 45 j ?_;refine tk 2 15 (.pointer (J ⟨b,0,O⟩)) 46 j ?_;refine tk 3 15 (G M) 47 j ?_;refine tk 4 15 (.pointer (J ⟨b,0,O⟩)) 48 j ?_;refine tk 5 15 (.pointer (J ⟨b,0,O⟩)) 49 j ?_;refine tk 6 15 (.pointer (J ⟨b,1,O⟩)) 50 j ?_;refine tk 7 15 (G V) 51 j ?_;refine tk 8 15 (.pointer (J ⟨b,0,O⟩)) 52 j ?_;refine tk 9 15 (.pointer (J ⟨b,0,O⟩)) 53 j ?_;refine tk 10 15 (.pointer (J ⟨b,2,O⟩)) 54 j ?_;refine tk 11 15 (G A) 55 j ?_;refine tk 12 15 (G t) 56 j ?_;refine Ah (i:=13) B ?_;refine WE rfl (λK' l=>?_);go_simp;apply q.mono;rintro r w6 ⟨ho,rfl⟩;have P:=Z4 _ _ j ho;refine l _ _ ⟨λ_=>P,?_⟩;clear l;refine Ah (i:=14) B ?_;refine WE rfl (λK' l=>?_);go_simp;refine l _ _ ⟨λh=>absurd rfl h,?_⟩;clear l;refine Aj B ?_;have j:w6.drew.cell? ⟨b,0,O⟩=J (G M)/\w6.drew.cell? ⟨b,1,O⟩=J (G V)/\w6.drew.cell? ⟨b,2,O⟩=J (G A)/\Am W0 w6.drew:=⟨P.1,P.2.1,P.2.2.1,P.2.2.2.drew⟩;clear P ho q;go_wp2_with fail;refine Ai (S:=λX=>X.cell? ⟨b,0,O⟩=J (G M)/\X.cell? ⟨b,1,O⟩=J (G V)/\X.cell? ⟨b,2,O⟩=J (G A)/\Am W0 X) (L:=14) B ?_;refine tk 0 15 (.pointer (J ⟨b,0,O⟩)) 58 j ?_;refine tk 1 15 (.pointer (J ⟨b,0,O⟩)) 59 j ?_;refine tk 2 15 (.pointer (J ⟨b,0,O⟩)) 60 j ?_;refine tk 3 15 (G M) 61 j ?_;refine tk 4 15 (.pointer (J ⟨b,0,O⟩)) 62 j ?_;refine tk 5 15 (.pointer (J ⟨b,0,O⟩)) 63 j ?_;refine tk 6 15 (.pointer (J ⟨b,1,O⟩)) 64 j ?_;refine tk 7 15 (G V) 65 j ?_;refine tk 8 15 (.pointer (J ⟨b,0,O⟩)) 66 j ?_;refine tk 9 15 (.pointer (J ⟨b,0,O⟩)) 67 j ?_;refine tk 10 15 (.pointer (J ⟨b,2,O⟩)) 68 j ?_;refine tk 11 15 (G A) 69 j ?_;refine tk 12 15 (G t) 70 j ?_;refine Ah (i:=13) B ?_;refine WE rfl (λK' l=>?_);go_simp;apply(u w6.drew).mono;rintro r w7 ⟨ho,rfl⟩;have hs7:=Z4 _ _ j ho;refine l _ _ ⟨λ_=>hs7,?_⟩;clear l;refine Ah (i:=14) B ?_;refine WE rfl (λK' l=>?_);go_simp;refine l _ _ ⟨λh=>absurd rfl h,?_⟩;clear l;refine Aj B ?_;have HX:C (QL w1 w7 b c d e a):=Exists.intro _ (Exists.intro _ ⟨o.old (by have:=hs7.2.2.2;rw[n] at this;exact this),HB⟩);generalize Lz M V A t=vn at*;clear hs7 ho u j Z4;go_wp2;go_ret;exact⟨rfl,HX⟩):p:=h
def aeq(h:p:=by
 refine Ah (i:=13) B ?_;refine WE rfl (λK' l=>?_);go_simp;refine l _ _ ⟨λh=>absurd rfl h,?_⟩;refine Aj B ?_;have hV:Am W (W.alloc (.cells #[G nm,I .u32 0,I .u32 (ck:Z),I .u32 (d.size:Z),G d] 190)).drew:=((Ag.refl _ W).alloc _).drew;have g:C ((W.alloc (.cells #[G nm,I .u32 0,I .u32 (ck:Z),I .u32 (d.size:Z),G d] 190)).drew.heap[w.heap.size+2]? =J (.cells #[G nm,I .u32 0,I .u32 (ck:Z),I .u32 (d.size:Z),G d] 190 (0,0))):=by
  have h:=WD W (.cells #[G nm,I .u32 0,I .u32 (ck:Z),I .u32 (d.size:Z),G d] 190);rw[e] at h;exact h
 have HXV:=H (Im hV HX);have HTV:=H (Im hV HT);have I5:=H (Ag.trans HA hV);have hc1V:(W.alloc (.cells #[G nm,I .u32 0,I .u32 (ck:Z),I .u32 (d.size:Z),G d] 190)).drew.cell? ⟨w.heap.size,1,O⟩=J (G d):=by rw[Wu _ _ 1 _ _ (0,0) HXV];rfl
 generalize(W.alloc (.cells #[G nm,I .u32 0,I .u32 (ck:Z),I .u32 (d.size:Z),G d] 190)).drew=V at*;go_wp2_with fail;apply(HD _).mono;rintro r w1 ⟨rfl,q⟩;have u:=H (Ag.trans I5 q);have U3:=H (Im q g);have n:=Im q HXV;have b:=H (Im q HTV);have x:w1.cell? ⟨w.heap.size,1,O⟩=J (G d):=by rw[Wu _ _ 1 _ _ (0,0) n];rfl
 by_cases K2:z.size<d.size
 .have X3:(z.size:Z)<d.size:=A;have a:=s K2;have hf1:=WK w1 _ 1 _ _ U3;have hf4:=WK w1 _ 4 _ _ U3;have hk1:w1.cell? ⟨w.heap.size+2,1,O⟩=J (I .u32 0):=by rw[Wu _ _ 1 _ _ (0,0) U3];rfl
  have hk4:w1.cell? ⟨w.heap.size+2,4,O⟩=J (G d):=by rw[Wu _ _ 4 _ _ (0,0) U3];rfl
  have Q9:=WL w1 (w.heap.size+2) 1 _ _ (I .u32 8) U3;have O1:=WL _ (w.heap.size+2) 4 _ _ (G z) Q9;have Z5:C (((w1.setCell ⟨w.heap.size+2,1,O⟩ (I .u32 8)).setCell ⟨w.heap.size+2,4,O⟩ (G z)).heap[w.heap.size+2]? =J (.cells #[G nm,I .u32 8,I .u32 (ck:Z),I .u32 (d.size:Z),G z] 190 (0,0))):=O1;have Y2:Ag (λk=>k=w.heap.size+2) w1 ((w1.setCell ⟨w.heap.size+2,1,O⟩ (I .u32 8)).setCell ⟨w.heap.size+2,4,O⟩ (G z)):=(Aq w1 _ 1 _).trans (Aq _ _ 4 _);have f:=H ((Y2.block (w.heap.size+1) (Wt.1 b).1 A).trans b);have T:C (Am w _):=u.transNew Y2 (λk hk h=>A);go_upto_region 5 with fail;generalize(w1.setCell ⟨w.heap.size+2,1,O⟩ (I .u32 8)).setCell ⟨w.heap.size+2,4,O⟩ (G z)=w2 at*;obtain⟨e0,e1,e2,e3,e4⟩:=GI.cells (i:=⟨nm,8,ck,d.size,z⟩) Z5;have c:=X f;simp only at e0 e1 e2 e3 e4;go_wp2_with (refine aal rfl 190 (.tmp 2) (.tmp 29) rfl (w.heap.size+1) #[G nm,I .u32 8,I .u32 (ck:Z),I .u32 (d.size:Z),G z] rfl rfl 190 _ c Da rfl (Pr _ _ _ _ _) ?_);refine wI (v:=.agg #[G nm,I .u32 8,I .u32 (ck:Z),I .u32 (d.size:Z),G z]) (abe results147 _ _ (w.heap.size+1) 190 _ (0,0) _ rfl (aaa w2 (w.heap.size+1) _ _ _ _ c) underlying190 rfl Da) rfl ⟨?_,T.setRow _ (λh=>absurd h A) _⟩;rw[a]
  rfl
 have X3:¬(z.size:Z)<d.size:=A;have a:=m K2;obtain⟨e0,e1,e2,e3,e4⟩:=GI.cells (i:=⟨nm,0,ck,d.size,d⟩) U3;simp only at e0 e1 e2 e3 e4;have c:=X b;go_wp2_with (refine aal rfl 190 (.tmp 2) (.tmp 29) rfl (w.heap.size+1) #[G nm,I .u32 0,I .u32 (ck:Z),I .u32 (d.size:Z),G d] rfl rfl 190 _ c Da rfl (Pr _ _ _ _ _) ?_);refine wI (v:=.agg #[G nm,I .u32 0,I .u32 (ck:Z),I .u32 (d.size:Z),G d]) (abe results147 _ _ (w.heap.size+1) 190 _ (0,0) _ rfl (aaa w1 (w.heap.size+1) _ _ _ _ c) underlying190 rfl Da) rfl ⟨?_,u.setRow _ (λh=>absurd h A) _⟩;rw[a]
 rfl):p:=h
def aer(h:p:=by
 have HWF:C (Cg L (T.getD i AC)=0->(T.getD i AC).nm.size<=80):=λh=>Eg (MB h)
 have j:C (Cg L (T.getD i AC)<=5):=by unfold C Cg;split<;>(try split)<;>(try split)<;>(try split)<;>(try split)<;>omega
 have HYL:=H (λn W hm hg=>SC (T.getD i AC) Y9 w.heap.size n L W hm hg);generalize Fg L (T.take i)=s,T.getD i AC=e at*;obtain⟨nm,ln,dt⟩:=e;simp only at*;have hA:Am wr (wr.alloc (.cells #[G nm,.bool ln,G dt] 35)):=(Ag.refl _ wr).alloc _;have HE:=H (UW.made wr nm ln dt);have Y6:=H (D.after hA);obtain⟨nfo,hfo⟩:=Y6.fo;have o:=H (HYL nfo _ (HM.old Y6.old) hfo);go_wp2_with fail;apply o.mono;rintro e w4 ⟨rfl,z⟩;have HE4:=H (HE.old z);have Y5:=H (Y6.after z);generalize wr.alloc (.cells #[G nm,.bool ln,G dt] 35)=W at*;by_cases U8:Cg L ⟨nm,ln,dt⟩=0
 .obtain ⟨v,t,X2⟩:=Y5.ch;have hcf:=IV (HCF U8);have hnm:=HWF U8;have E9:s.fs.length<60:=by have:=hcf.2.2.2.1;have:=Y5.few.1;omega
  have H3:=H (ua nm dt ln x gm (i*1001) v s.fs s.tb s.all A hcf.1 hcf.2.1 hcf.2.2.1 E9 hcf.2.2.2.2 A w4 t);have HTK:=H (λw' v'=>Y5.take (w':=w') (v:=v) (v':=v') (e:=⟨nm,ln,dt⟩) U8 E9 HGC2 P X2 t);obtain⟨_,h1,h2,h3⟩:=X HE4;rw[U8];go_wp2_with fail;apply H3.mono;rintro e w5 ⟨rfl,v',hc5,I3,hb5⟩;have HF5:=H (HTK w5 v' hc5 I3 hb5);go_wp2;go_roundw
  .exact ⟨i+1,A,by go_num,by rw[X N9];exact HF5⟩
  exact Ae
 have hwN:=U8;obtain⟨y,R⟩:∃y,Cg L ⟨nm,ln,dt⟩=y:=⟨_,rfl⟩;have hy5:y<=5:=by rw[<-R];exact j
 have HLV:C (∀l w' g cap,ZP w x gm w.heap.size i L s u7 l ->w'.ownsRow 0 60 2 (K (J ⟨g,0,O⟩) (s.lf.length+1) cap) (s.lf.length+1) (Cu s.lf++[G nm,I Q (y:Z)])->l.grownBy w' u7.ownBlock->(u7.ownBlock=J g\/g=l.heap.size)->ZP w x gm w.heap.size (i+1) L (ET L s ⟨nm,ln,dt⟩) (K (J ⟨g,0,O⟩) (s.lf.length+1) cap) w'):=λl w' g cap hF h1 h2 h3=>by
  refine hF.leave (e:=⟨nm,ln,dt⟩) hwN (by rw[R];exact h1) ((Ag.refl _ _).grown h2 (λk _ e=>e)) ?_;rcases h3 with h|h
  .exact .inl h
  exact .inr (by rw[h];exact hF.old.size)
 rw[R] at U8 ⊢;have hw0I:((y:Z) !=0)=true:=by rw[wm];omega
 have hw0J:¬(y:Z)=0:=A;have H5:=H (NA nm A w4);obtain⟨_,h1,h2,h3⟩:=X HE4;have hfew:=Y5.few.2;obtain⟨ao,d,rfl⟩:∃ao d,u7=K ao s.lf.length d:=by
  obtain⟨_,⟨rfl,hz⟩|⟨b,c,J0,rfl,_⟩⟩:=Y5.lf
  .rw[hz];exact⟨O,0,rfl⟩
  exact⟨_,_,rfl⟩
 go_wp2_with fail;apply H5.mono;rintro e w5 ⟨rfl,I3⟩;have hA5:Am w5 (w5.alloc (.cells #[G nm,I Q (y:Z)] 60)):=(Ag.refl _ w5).alloc _;have HF6:=H ((Y5.after I3).after hA5);have J2:=H HF6.lf;have I6:=H (AD w5 [G nm,I Q (y:Z)] 60);have HLV:=H (λw' g cap=>HLV _ w' g cap HF6);obtain⟨i0,N5,Q0,G9,G8⟩:=wi Xy;have S:C ((w5.alloc (.cells #[G nm,I Q (y:Z)] 60)).heap.size=w5.heap.size+1):=by unfold C;rw[WP]
 rw[X S] at HLV;go_wp2_with (at_builtin;refine wpList_append_lies _ rfl (.tmp 30) (.tmp 36) 57 rfl 0 60 i0 (.agg #[G ⟨#[]⟩,I Q 0]) 2 24 underlying57 N5 Q0 G9 G8 rfl A (K ao s.lf.length d) s.lf.length (Cu s.lf) rfl J2 ⟨w5.heap.size,0,O⟩ 1 1 [G nm,I Q (y:Z)] rfl rfl I6 (by intro u hu;simp at hu;rcases hu with rfl|rfl<;>rfl) A (by unfold maxLen;omega) A A (w5.heap.size+1) S ?_;intro f cap2 w6 J6 hg6 F0 hlt6;have HX:=H (HLV w6 f cap2 J6 hg6 F0);clear J6 hg6 F0 hlt6);go_roundw
 .exact ⟨i+1,A,by go_num,by rw[X N9];exact HX⟩
 exact Ae):p:=h
def aes(h:p:=by
 generalize L[0]=z0 at*;go_wp2_with fail;refine HPS.mono ?_;rintro e w3 ⟨vv,rfl,a,m⟩;have J3:=H (T.trans m);have S:=Ap m S;generalize Ax s 47=M at*;have hml:M.length-1<M.length:=A;obtain⟨g2,cp2,n,K6, -⟩:=a.cell (M.length-1) hml;subst n;have hmI:(M.length:Z)-1=((M.length-1:N):Z):=A;have hmJ:((M.length-1:N):Z)<(M.length:Z):=A;have V7:M[M.length-1]=Ca s:=by
  have:=X R;rw[Wq,Wv hml] at this;exact this
 rw[V7] at K6;clear a m V7 R HPS D;have f0:(z0.toList==[48])=decide (z0=⟨#[48]⟩):=Fw z0 _;have f1:(z0.toList==[49])=decide (z0=⟨#[49]⟩):=Fw z0 _;have hadd:∀W,(Op.stringOp .add ⟨#[118]⟩ z0).run F W=.ok (G (sV++z0)) W:=λW=>WR W _ _ (by have e7:(⟨#[118]⟩:Y).size=1:=rfl;omega)
 have f2:=TG (Ca s) (sV++z0);have hls:(Ca s).size<=2000000:=WI (Gl _ _ _) hs;have HEW:C (QR (Ca s)=(Lib.hasPrefix (Ca s).data.toList sV.data.toList&&Cq Cj (DO (Ca s)))):=rfl;have HPR:=H (Rp (s:=Ca s) A 118);have HVE:=H (OE (v:=Ca s));generalize MT s z0=efz at*;generalize QR (Ca s)=ew at*;generalize Ca s=l at*;generalize sV++z0=vm at*;generalize M.length-1=ml at*;by_cases F8:z0=⟨#[48]⟩\/z0=⟨#[49]⟩
 .have d:J1= !ew:=by rw[X HAN,X HEF,Wz F8]
  have hb:=AA (s:=l) (k:=0) hlp;have hlpI:(1:Z)<=(l.size:Z):=A;have hlpJ:(0:Z)<(l.size:Z):=A;have f:∀W,(Instr.slice 9 (G l) (J (I Q ((1:N):Z))) O O).run F W=.ok (G (l.extract 1 l.size)) W:=λW=>aaz W 9 l underlying9 .i64 1 A A
  have P:∀W,(Instr.slice 9 (G l) (J (I Q 1)) O O).run F W=.ok (G (l.extract 1 l.size)) W:=f;have HDG:=H (λW=>XN (l.extract 1 l.size) (WI (Gl _ _ _) hls) W);have HFE:C (J1=((!decide (As l 0=118))|| !Cq Cj (l.extract 1 l.size))):=by
   unfold C;rw[d,X HEW];have hp:Lib.hasPrefix l.data.toList sV.data.toList=decide (As l 0=118):=X HPR;by_cases U9:As l 0=118
   .have M4:Lib.hasPrefix l.data.toList sV.data.toList=true:=(by rw[hp];exact Wy U9);rw[M4,HVE M4,Wy U9];rfl
   rw[hp,Ww U9];rfl
  clear f d HAN HEF HEW HPR HVE f2 hadd;generalize Cq Cj (l.extract 1 l.size)=od at*;generalize l.extract 1 l.size=l1 at*;have hor:(z0.toList==[48])=true\/((z0.toList==[48])=false/\(z0.toList==[49])=true):=by
   by_cases h0:z0=⟨#[48]⟩
   .exact .inl (by rw[f0];exact Wy h0)
   exact .inr ⟨by rw[f0];exact Ww h0,by rw[f1];exact Wy (F8.resolve_left h0)⟩
  clear f0 f1 F8;by_cases U9:As l 0=118
  .have d:J1= !od:=by rw[X HFE,Wy U9];rfl
   rw[U9] at hb;subst d;clear HFE U9;rcases hor with h0|⟨h0,h1⟩
   .go_wp2_with fail;refine(HDG _).mono ?_;rintro e w' ⟨rfl,rfl⟩;go_wp2;go_ret;exact⟨rfl,J3⟩
   go_wp2_with fail;refine(HDG _).mono ?_;rintro e w' ⟨rfl,rfl⟩;go_wp2;go_ret;exact⟨rfl,J3⟩
  have d:J1=true:=by rw[X HFE,Ww U9];rfl
  have hvI:((As l 0:Z) !=118)=true:=by rw[wm];omega
  subst d;clear HFE U9;generalize As l 0=c at*;rcases hor with h0|⟨h0,h1⟩
  .go_wp2_with fail;refine(HDG _).mono ?_;rintro e w' ⟨rfl,rfl⟩;go_wp2;go_ret;exact⟨rfl,J3⟩
  go_wp2_with fail;refine(HDG _).mono ?_;rintro e w' ⟨rfl,rfl⟩;go_wp2;go_ret;exact⟨rfl,J3⟩
 have d:decide (l=vm)=J1:=by rw[X HAN,X HEF,Wx F8]
 rw[d] at f2;rw[Ww (λh=>F8 (.inl h))] at f0;rw[Ww (λh=>F8 (.inr h))] at f1;clear d HAN HEF HEW HPR HVE F8;go_wp2;go_ret;exact⟨rfl,J3⟩):p:=h
def aet(h:p:=by
 go_wp2;go_ret;exact⟨rfl,rfl⟩):p:=h
def aeu(h:p:=by
 go_wp2_with fail;refine(d _).mono ?_;rintro r w6 ⟨rfl,J6⟩;have m:=H (Ag.trans O3 J6);clear d J6 O3;go_wp2;go_loopw [9,10] (λy _ wx=>∃k:N,k<=i/\y=I Q k/\C (∀j,j<k->Lv (its.getD j BS).name nm=false)/\C (Am w wx)) (λy _ _=>i-(intOf y).toNat)
 .exact ⟨0,A,rfl,λj h=>A,m⟩
 obtain⟨k,hk,rfl,HB,HO⟩:=hrel;clear m;have HCW:=H (a wr HO);by_cases Y1:k<i
 .have hklI:(k:Z)<i:=A;obtain⟨hck,hslk,hzk⟩:=v k A wr HO;have HC:=H (λW=>dV (its.getD k BS).name nm A A W);have q:C (Lv (its.getD k BS).name nm=false-> ∀j,j<k+1->Lv (its.getD j BS).name nm=false):=λh j s=>by
   by_cases e:j=k
   .subst e;exact h
   exact HB j A
  have HF5:C (Lv (its.getD k BS).name nm=true->DW f all b=5):=λh=>by
   rw[X u,Wz];rw[wJ];exact⟨(its.getD k BS).name,wd.2 ⟨its.getD k BS,VD its i k Y1 A,rfl⟩,h⟩
  generalize Lv (its.getD k BS).name nm=cl at*;generalize(its.getD k BS).name=z at*;generalize p++z=pz at*;clear u;go_wp2_with fail;refine(HC _).mono ?_;rintro r w5 ⟨rfl,I3⟩;have O3:=H (HO.trans I3);clear HC I3 hck hslk HCW HO;cases cl with
  |true=>
   have hd:=HF5 rfl;have HA:=H ((D (by rw[hd];decide)).trans hd);clear D N9 HF5 q hd;go_wp2;go_ret;exact⟨by rw[X HA];rfl,O3⟩
  |false=>
   have l:=H (q rfl);clear q HF5;go_wp2;go_roundw
   .exact ⟨k+1,A,by go_num,l,O3⟩
   exact Ae
 have hklI:¬(k:Z)<i:=A;have hke:k=i:=A;subst hke;have HNC:C (((its.take k).map It.name).any (λn=>Lv n nm)=false):=by
  unfold C;rw[aar];intro x hx;obtain⟨y,R,rfl⟩:=wd.1 hx;obtain⟨j,hj,rfl⟩:=wF R;rw[hY] at hj;have:=HB j A;rw[Wq,Wv A] at this;rw[acj];show ¬Lv its[j].name nm=true;rw[show Lv its[j].name nm=false from this];decide
 have HDN:C (DW f all b=if BE nm<sz then 1 else if 16000-all<sz then 1 else 0):=by
  unfold C;rw[X u,X HNC];rfl
 obtain⟨lg,o⟩:∃lg,decide (BE nm<sz)=lg:=⟨_,rfl⟩;have HTL:=H (λW=>PB nm sz W);rw[o] at HTL;clear HB u HNC;have Q5:=HCW.2;go_wp2_with fail;refine(HTL _).mono ?_;rintro r wt ⟨rfl,rfl⟩;clear HTL;cases lg with
 |true=>
  have hd:=X HDN;rw[Wz (wn o)] at hd;have HA:=H ((D (by rw[hd];decide)).trans hd);clear D N9 hd o HDN;go_wp2;go_ret;exact⟨by rw[X HA];rfl,HO⟩
 |false=>
  have hd:=X HDN;rw[Wx (abw o)] at hd;clear o HDN;by_cases t:16000-all<sz
  .rw[Wz t] at hd;have HA:=H ((D (by rw[hd];decide)).trans hd);have F6:(16000:Z)<(all:Z)+sz:=A;clear D N9 hd;go_wp2;go_ret;exact⟨by rw[X HA];rfl,HO⟩
  rw[Wx t] at hd;have F6:¬(16000:Z)<(all:Z)+sz:=A;obtain⟨Q1,K4⟩:=N9 hd;have HN1:=H Q1;have c:=H K4;clear D N9 hd Q1 K4;go_wp2;go_roundw
  .exact ⟨k+1,all+sz,Jq f nm,A,by rw[aav],by go_num,HN1,c,HO⟩
  exact Ae):p:=h
def aev(h:p:=by
 refine WE rfl (λK' l=>?_);go_simp;refine l _ _ ⟨λh=>absurd rfl h,?_⟩;refine Aj B ?_;obtain⟨vr3,O0⟩:=T0.turnR K1;obtain⟨hkk,T,P,hg4,hz3⟩:=HSM kA kB D2 R3 HXA hxB;subst hkk;have T3:=O0;have F1:=O0.old (Ag.refl (λ_=>False) w3).drew;have HSC:=dk.fW T P.ok f g X0 vr3 (D2.ts.length+1) ⟨#[]⟩ w3.drew F1.dks.d F1.dks.r (.inl ⟨rfl,WF _⟩) Ac;have HFX:=λ(w4:U) (ho:dk.Ag (λ_=>False) w3.drew w4)=>O4 w4 X0 vr3 _ D2 R3 (by rfl) (by rfl) (by rfl) (by rfl) (by rfl) (F1.old (kH ho)) T P hg4 hz3
 have hob:=(Wt.1 E4).1;have hbw:=(Wt.1 u).1;have j:w3.drew.cell? ⟨b,3,O⟩=J (V (J ⟨f,0,O⟩))/\w3.drew.cell? ⟨b,4,O⟩=J (V (J ⟨g,0,O⟩))/\True:=⟨(by show w3.cell? _=_;exact a 3 _ c w3 u),(by show w3.cell? _=_;exact a 4 _ o w3 u),trivial⟩;go_wp2_with fail;refine Ai (S:=λX=>X.cell? ⟨b,3,O⟩=J (V (J ⟨f,0,O⟩))/\X.cell? ⟨b,4,O⟩=J (V (J ⟨g,0,O⟩))/\True) (L:=9) B ?_;refine tk 0 10 (V (J ⟨b,0,O⟩)) 63 j ?_;refine tk 1 10 (V (J ⟨b,0,O⟩)) 64 j ?_;refine tk 2 10 (V (J ⟨b,3,O⟩)) 65 j ?_;refine tk 3 10 (V (J ⟨f,0,O⟩)) 66 j ?_;refine tk 4 10 (V (J ⟨b,0,O⟩)) 67 j ?_;refine tk 5 10 (V (J ⟨b,0,O⟩)) 68 j ?_;refine tk 6 10 (V (J ⟨b,4,O⟩)) 69 j ?_;refine tk 7 10 (V (J ⟨g,0,O⟩)) 70 j ?_;refine Ah (i:=8) B ?_;refine WE rfl (λK' l=>?_);go_simp;apply HSC.mono;rintro e w4 ⟨rfl,z⟩;have HBw4:=AH (kH ((dk.Ag.refl (λ_=>False) w3).drew.trans z)) u;have HQw4:=AH (kH ((dk.Ag.refl (λ_=>False) w3).drew.trans z)) E4;have O1:w4.cell? ⟨b,3,O⟩=J (V (J ⟨f,0,O⟩))/\w4.cell? ⟨b,4,O⟩=J (V (J ⟨g,0,O⟩))/\True:=⟨a 3 _ c w4 HBw4,a 4 _ o w4 HBw4,trivial⟩;refine l _ _ ⟨λ_=>O1,?_⟩;refine Ah (i:=9) B ?_;refine WE rfl (λK' l=>?_);go_simp;refine l _ _ ⟨λh=>absurd rfl h,?_⟩;refine Aj B ?_;have HX:=HFX w4 z;go_wp2;go_ret;exact⟨rfl,HX⟩):p:=h
def aew(h:p:=by
 have a:=a;have N2:=WD w (W #[G nm,I Q 8,I Q (ck:Z),I Q (pk:Z),I Q (ln:Z),G sp] 82);have HA:(Am w (w.alloc (W #[G nm,I Q 8,I Q (ck:Z),I Q (pk:Z),I Q (ln:Z),G sp] 82))):=(Ag.refl _ w).alloc _;have D:∀j u,(#[G nm,I Q 8,I Q (ck:Z),I Q (pk:Z),I Q (ln:Z),G sp]:Array M)[j]? =J u->(w.alloc (W #[G nm,I Q 8,I Q (ck:Z),I Q (pk:Z),I Q (ln:Z),G sp] 82)).cell? ⟨w.heap.size,j,O⟩=J u:=λj u h=>by rw[Wu _ _ j _ _ (0,0) N2];exact h
 have d1:=D 1 _ rfl;have d2:=D 2 _ rfl;have T:=D 3 _ rfl;have y:=D 4 _ rfl;have d5:=D 5 _ rfl;go_in;go_wp2_with fail;generalize w.alloc (W #[G nm,I Q 8,I Q (ck:Z),I Q (pk:Z),I Q (ln:Z),G sp] 82)=W0 at*;apply(g _).mono;rintro r w1 ⟨rfl,q⟩;have U1:=HA.trans q;have e4:=Ap q y;have o:=Ap q d5;go_wp2;go_ret2;exact⟨by rw[b,<-a];rfl,U1⟩):p:=h
def aex(h:p:=by
 have HSP:=H (pp a A (w1.drewN f) (HM.old ((Ag.refl _ w1).drewN f)));go_wp2_with fail;apply HSP.mono;rintro e W ⟨rfl,ho,R,D⟩;have HO:C (Am w1 W):=((Ag.refl _ w1).drewN f).trans ho;have HC:=H D;generalize(w1.drewN f).heap.size=g,CS a=L at*;by_cases h3:L.length=3
 .have h3I:(L.length:Z)=3:=A;have HN3:=H h3;have hp1:0<L.length:=A;have S:=HC 0 hp1;have hz:L.getD 0 ⟨#[]⟩=L[0]:=by rw[Wq,Wv hp1];rfl
  rw[hz] at k;generalize hL0:L[0]=z0 at*;go_wp2_with fail;go_loop [10,37] (λ_ x=>∃i:N,i<=L.length/\x=I Q i/\C (∀j (h:j<L.length),j<i->Ez L[j]=true)) (λ_ x=>L.length-(intOf x).toNat)
  .exact ⟨0,A,rfl,λj _ h=>A⟩
  obtain⟨i,hi,rfl,HT⟩:=hrel;by_cases o:i<L.length
  .have I8:(i:Z)<L.length:=A;have hcr:=HC i o;have HE:=H (Vq L[i] (WI (O9 _ (WJ o)) A) W);cases b:Ez L[i] with
   |true=>
    rw[b] at HE;have p :C (∀j (h:j<L.length),j<i+1->Ez L[j]=true):=by
     intro j h h2;by_cases e:j=i
     .subst e;exact b
     exact HT j h A
    generalize L[i]=z at*;go_wp2_with fail;apply HE.mono;rintro e w' ⟨rfl,rfl⟩;go_wp2_with fail;go_round
    .exact ⟨i+1,A,by go_num,p⟩
    exact Ae
   |false=>
    rw[b] at HE;have d:J1=none:=by
     have:L.all Ez=false:=by
      rw[aaR];exact⟨L[i],WJ o,by rw[b];exact λh=>by cases h⟩
     rw[X k,Wx (λh=>by rw[this] at h;cases h.2)]
    subst d;generalize L[i]=z at*;go_wp2_with fail;apply HE.mono;rintro e w' ⟨rfl,rfl⟩;go_wp2;go_ret2;exact⟨rfl,HO⟩
  have I8:¬(i:Z)<L.length:=A;have q:L.all Ez=true:=by
   rw[wC];intro x hx;obtain⟨j,hj,rfl⟩:=wF hx;exact HT j hj A
  have d:J1=J z0:=by rw[X k,Wz ⟨HN3,q⟩]
  subst d;go_wp2;go_ret2;exact⟨rfl,HO⟩
 have h3I:¬(L.length:Z)=3:=A;have d:J1=none:=by rw[X k,Wx (λh=>h3 h.1)]
 subst d;go_wp2;go_ret2;exact⟨rfl,HO⟩):p:=h
def aey(h:p:=by
 have H4:=H (λW=>ZK nm W);generalize BE nm=M at*;go_in;go_upto_region 2 with fail;generalize w.alloc (.cells #[G nm,.bool ln,G dt] 35)=W at*;have hc1:W.cell? ⟨x,1,O⟩=J (.map (J gm)):=by rw[Wu W x 1 _ _ (0,0) (X d).1];rfl
 have j:W.drew.cell? ⟨x,1,O⟩=J (.map (J gm))/\W.drew.cell? ⟨w.heap.size,0,O⟩=J (G nm)/\True:=⟨hc1,HE.2.1,trivial⟩;have y:=H (y W.drew d.2.2);refine Ai (S:=λW=>W.cell? ⟨x,1,O⟩=J (.map (J gm))/\W.cell? ⟨w.heap.size,0,O⟩=J (G nm)/\True) (L:=7) B ?_;refine tk 0 8 (V (J ⟨x,0,O⟩)) 10 j ?_;refine tk 1 8 (V (J ⟨x,0,O⟩)) 11 j ?_;refine tk 2 8 (V (J ⟨x,1,O⟩)) 12 j ?_;refine tk 3 8 (.map (J gm)) 13 j ?_;refine tk 4 8 (V (J ⟨w.heap.size,0,O⟩)) 14 j ?_;refine tk 5 8 (G nm) 15 j ?_;refine Ah (i:=6) B ?_;refine WE rfl (λK' l=>?_);go_simp;apply y.mono;rintro r w1 ⟨rfl,q⟩;have X6:Am W w1:=((Ag.refl _ W).drew).trans q;have HE1:=H (HE.old X6);have HC1:=H (d.old X6);have u:=H (Ag.trans HO X6);have hc11:w1.cell? ⟨x,1,O⟩=J (.map (J gm)):=by rw[Wu w1 x 1 _ _ (0,0) (X HC1).1];rfl
 refine l _ _ ⟨λ_=>⟨hc11,HE1.2.1,trivial⟩,?_⟩;refine Ah (i:=7) B ?_;refine WE rfl (λK' l=>?_);go_simp;refine l _ _ ⟨λh=>absurd rfl h,?_⟩;refine Aj B ?_;have Q1:=HE1.2.1;go_wp2_with fail;apply(o w1).mono;rintro r w2 ⟨rfl,P⟩;have HE2:=H (HE1.old P);have HC2:=H (HC1.old P);have T:=H (Ag.trans u P);have K4:=HE2.2.1;have hd2:=HE2.2.2.2;have hc20:w2.cell? ⟨x,0,O⟩=J (Value.slice ao fs.length cap):=by rw[Wu w2 x 0 _ _ (0,0) (X HC2).1];rfl
 have hc22:w2.cell? ⟨x,2,O⟩=J (I Q (all:Z)):=by rw[Wu w2 x 2 _ _ (0,0) (X HC2).1];rfl
 go_wp2_with fail;apply(H4 _).mono;rintro r w3 ⟨rfl,rfl⟩;go_wp2;go_ret;exact⟨rfl,T⟩):p:=h
def aez(h:p:=by
 go_ret;exact⟨rfl,rfl⟩):p:=h
def aeA(h:p:=by
 generalize Pe D.ts p=fi,RY D.ts p=rd at*;have r:=HA;have z:=HB;have HO0:=H (Ag.refl (λ_=>False) w);clear HA HB;go_in;go_wp2_with fail;apply(y w r).mono;rintro e w1 ⟨rfl,m,hw⟩;have U6:C (Ao w1 a f D):=by rw[hw];exact r.drewN m
 have j:C (Ao w1 b d R):=by rw[hw];exact z.drewN m
 have u:C (Ag (λ_=>False) w w1):=by rw[hw];exact HO0.drewN m
 clear hw r z HO0;clear m;go_wp2_with fail;apply(o w1 j).mono;rintro e w2 ⟨rfl,m,hw⟩;have c:C (Ao w2 a f D):=by rw[hw];exact U6.drewN m
 have q:C (Ao w2 b d R):=by rw[hw];exact j.drewN m
 have T:C (Ag (λ_=>False) w w2):=by rw[hw];exact u.drewN m
 clear hw U6 j u;clear m;go_wp2_with fail;apply(H3 w2 c).mono;rintro e w3 ⟨rfl,m,hw⟩;have k:C (Ao w3 a f D):=by rw[hw];exact c.drewN m
 have l:C (Ao w3 b d R):=by rw[hw];exact q.drewN m
 have J3:C (Ag (λ_=>False) w w3):=by rw[hw];exact T.drewN m
 clear hw c q T;clear m;go_wp2_with fail;apply(H4 w3 l).mono;rintro e w4 ⟨rfl,m,hw⟩;have s:C (Ao w4 a f D):=by rw[hw];exact k.drewN m
 have x:C (Ao w4 b d R):=by rw[hw];exact l.drewN m
 have J8:C (Ag (λ_=>False) w w4):=by rw[hw];exact J3.drewN m
 clear hw k l J3;clear m;go_wp2_with fail;apply(H3 w4 s).mono;rintro e w5 ⟨rfl,m,hw⟩;have HA5:C (Ao w5 a f D):=by rw[hw];exact s.drewN m
 have P:C (Ao w5 b d R):=by rw[hw];exact x.drewN m
 have O3:C (Ag (λ_=>False) w w5):=by rw[hw];exact J8.drewN m
 clear hw s x J8;clear m;go_wp2;go_ret;exact⟨rfl,O3⟩):p:=h
def aeB(h:p:=by
 have I6:=H (Fb (wr:=wr) (n:=0));have Z7:Hid ((wr.alloc (W #[I Q 0] 3)).ownsRow w.heap.size 3 1 (K ao2 (n+j) cap2) (n+j) (Av (l++List.replicate j 0))):=L.alloc _;have S:Hid (w.heap.size<=(wr.alloc (W #[I Q 0] 3)).heap.size):=by have:=HO.size;unfold Hid;simp only[WP];omega
 have G5:=H (t.kept ((Ag.refl (λ_=>False) wr).alloc (W #[I Q 0] 3)) (λx=>x));have HNE:=H (λb hb=>Ge Z7 (b:=b) hb G5);go_wp2_with (at_builtin;refine wpList_append_lies _ rfl (.tmp 75) (.tmp 77) 100 rfl w.heap.size 3 i0 (I Q 0) 1 8 underlying100 N5 Q0 G9 G8 rfl A (K ao2 (n+j) cap2) (n+j) _ rfl Z7 ⟨wr.heap.size,0,O⟩ 1 1 [I Q 0] rfl rfl I6 (by intro u hu;simp at hu;subst hu;rfl) A (by unfold maxLen;omega) A S _ rfl ?_;intro g2 I9 w3 m P O0 Q4;have J3:=H m;have J9:=H P;have HB:=H (Cd Z7);clear m P O0);go_roundw
 .refine ⟨j+1,J ⟨g2,0,O⟩,I9,A,by rw[aap],by go_num,?_,?_,?_⟩
  .have e:Av (l++List.replicate (j+1) 0)=Av (l++List.replicate j 0)++[I Q 0]:=by rw[aba,<-WG];simp[Av]
   rw[e];exact J3
  .exact (J9.block g G5.lt (λhh=>HNE g hh.symm rfl)).trans G5
  exact(HO.alloc _).grown J9 (λq hq e=>absurd hq (by have:=HB q e;omega))
 exact Ae):p:=h
def aeC(h:p:=by
 go_roundw
 .obtain ⟨Q6,cp9,o,_⟩:=X c;exact⟨AV s a,k,rfl,o.c3,⟨m,j,cj.next O2 i (by rw[X f];exact d),c⟩,g⟩
 obtain⟨Q6,cp9,o,_⟩:=X c;rw[X T,X l,AR o.c3,AR o.c1,Wz rfl];have hle9:=d.1;split
 .rename_i he9;have hgt:a<m:=by
   rcases d.2.2 with⟨h1,_⟩|⟨_,h⟩
   .exact (GA ((Wx i).trans (f.trans h1))).1
   exact absurd he9 h
  omega
 omega):p:=h
def aeD(h:p:=by
 go_wp2_with (go_at_call 132;refine D.mono ?_;rintro r w5 ⟨rfl,rfl⟩);apply(u _ t).mono;rintro r w6 ⟨rfl,x,J6⟩;rw[(X HNN).2] at x;have i:=H x;have m:=H (HO.trans J6);clear x J6;have HRE:=H (Rc g s a' (K ao l.length d) 2 A (K (J ⟨gO+1,0,O⟩) 19 19) (M+F) w6 i);rw[aav] at HRE;have hce:w6.cell? ⟨g,3,O⟩=J (I Q 2):=i.c3;go_wp2_with (go_at_call 133;refine HRE.mono ?_;rintro r w7 ⟨rfl,rfl⟩);refine wI (abk rfl _ _ _) rfl ?_;exact⟨rfl,m.of_g o,_,l,2,⟨ha',q,.inr ⟨EJ l HNN.1,A⟩⟩,S,St.next HR J2 e m i,λ_ _ h=>h⟩):p:=h
def aeE(h:p:=by
 go_wp2_with fail;refine Ai (S:=λX=>X.cell? ⟨b,0,O⟩=J (G M)/\X.cell? ⟨b,1,O⟩=J (G V)/\X.cell? ⟨b,2,O⟩=J (G A)/\Am W0 X) (L:=9) B ?_;refine tk 0 10 (.pointer (J ⟨b,0,O⟩)) 54 j ?_;refine tk 1 10 (.pointer (J ⟨b,0,O⟩)) 55 j ?_;refine tk 2 10 (.pointer (J ⟨b,0,O⟩)) 56 j ?_;refine tk 3 10 (G M) 57 j ?_;refine tk 4 10 (.pointer (J ⟨b,0,O⟩)) 58 j ?_;refine tk 5 10 (.pointer (J ⟨b,0,O⟩)) 59 j ?_;refine tk 6 10 (.pointer (J ⟨b,1,O⟩)) 60 j ?_;refine tk 7 10 (G V) 61 j ?_;refine Ah (i:=8) B ?_;refine WE rfl (λK' l=>?_);go_simp;apply HM5.mono;rintro r w6 ⟨rfl,ho⟩;have P:=Z4 _ _ j ho;refine l _ _ ⟨λ_=>P,?_⟩;clear l;refine Ah (i:=9) B ?_;refine WE rfl (λK' l=>?_);go_simp;refine l _ _ ⟨λh=>absurd rfl h,?_⟩;clear l;refine Aj B ?_;have HX:C (fh w1 w6 b (c+1) s):=Exists.intro s4 (Exists.intro _ (Exists.intro _ (Exists.intro _ ⟨⟨s.ar,x,.inl rfl⟩,HL5.old (by have:=P.2.2.2;rw[n] at this;exact this)⟩)));clear P ho HM5 j Z4;go_wp2;go_ret;exact⟨rfl,HX⟩):p:=h
def aeF(h:p:=by
 go_wp2;go_ret;exact⟨rfl,HO⟩):p:=h
def aeG(h:p:=by
 go_wp2_with fail;go_quiet (fail);have J2:(Am w0 (wr.drewN nq)):=HO.drewN _;generalize wr.drewN nq=W at*;obtain⟨x1,x2,Q9,O1,K2⟩:=zj m.1 k hk;have s:=K2;have Y6:=HX k hk HB q;go_wp2_with (at_builtin;first
  |(refine Ch rfl (.tmp 32) (.tmp 35) rfl _ _ [] (l.take k) rfl rfl (Nx.start J2) (s W J2).1 (by simp;omega) ?_;intro v1 w1 Q1 hq;obtain⟨d1,d2⟩:=HC w1 Q1.2.2;have HN1:=Q1;clear Q1)
  |(refine Ch rfl (.tmp 37) (.tmp 42) rfl _ _ (l.take k) [(n,d)] rfl rfl (HN1.alloc _) (.inr ⟨⟨w1.heap.size,0,O⟩,1,rfl,AD w1 [G n,G d] 38⟩) (by simp;omega) ?_;intro v2 w2 K4 hq;have c:=K4;clear K4 d1 d2)
  |(refine Ch rfl (.tmp 44) (.tmp 47) rfl _ _ (l.take k++[(n,d)]) (l.drop k) rfl rfl c (s w2 c.2.2).2 (by simp;omega) ?_;intro v3 w3 M5 hq;obtain⟨ao3,I9,M3⟩:=M5.form;subst M3;have HN3:=M5;clear M5))
 go_roundw
 .exact ⟨i+1,l.take k++[(n,d)]++l.drop k,ao3,I9,A,by go_num,by congr 1;simp;omega,HN3.base m,Y6⟩
 exact Ae):p:=h
def aeH(h:p:=by
 subst d;go_in;go_wp2_with fail;generalize g:w.alloc (.cells #[G nm,.bool false,G dt] 35)=W at*;have a:=H (Ag.refl (λ_=>False) W);apply(y W HM).mono;rintro e w1 ⟨rfl,q⟩;have b:=H (Ag.trans a q);have l:=H (HM.old b);have i:=H (c.old b);have k:=t w1 b;have x:=H (Ag.trans HO b);go_wp2_with fail;apply(o w1 i).mono;rintro e w2 ⟨rfl,P⟩;have f:=H (Ag.trans b P);have D:=H (HM.old f);have j:=H (c.old f);have S:=t w2 f;have R:=H (Ag.trans HO f);go_wp2_with fail;apply(H3 w2 D).mono;rintro e w3 ⟨rfl,m⟩;have u:=H (Ag.trans f m);have T:=H (HM.old u);have J9:=H (c.old u);have hcc3:=t w3 u;have Y6:=H (Ag.trans HO u);go_wp2_with fail;apply(H4 w3 T).mono;rintro e w4 ⟨rfl,z⟩;have N1:=H (Ag.trans u z);have HM4:=H (HM.old N1);have s:=H (c.old N1);have hcc4:=t w4 N1;have Y5:=H (Ag.trans HO N1);go_wp2;go_ret;exact⟨rfl,Y5⟩):p:=h
def aeI(h:p:=by
 clear d m c;go_wp2_with fail;apply(v _).mono;rintro r w1 ⟨rfl,rfl⟩;go_wp2_with fail;apply(z _).mono;rintro r w1 ⟨rfl,rfl⟩;go_wp2_with fail;apply(Vpk _).mono;rintro r w1 ⟨rfl,rfl⟩;go_wp2_with fail;apply(Vln _).mono;rintro r w1 ⟨rfl,rfl⟩;go_wp2_with fail;apply(Vk _).mono;rintro r w5 ⟨rfl,rfl⟩;go_wp2_with fail;apply(Vfr _).mono;rintro r w6 ⟨rfl,rfl⟩;go_wp2;go_ret2;exact⟨HN.2.2.alloc _,by rw[uh HR];exact⟨_,rfl⟩⟩):p:=h
def aeJ(h:p:=by
 have T:=H P;rcases Z1 with⟨f,rfl,hup⟩|⟨f,rfl,hup⟩
 .have HUP:=H hup;have O9:=H f;go_wp2;go_ret2;exact⟨T,.inl ⟨O9,HUP,EY (hJ (Value.int Q) (by rw[D];omega)) rfl⟩⟩
 have HUP:=H hup;have O9:=H f;go_wp2;go_ret2;exact⟨T,.inr ⟨O9,HUP,_,rfl⟩⟩):p:=h
def aeK(h:p:=by
 go_upto_region 6 with fail;generalize wr.alloc (.cells #[G nm,I .u32 (c:Z),I .u32 (ck:Z),I .u32 (sz:Z),G pk] 190)=W at*;have L:=Z5.cells.1;have l:=H (y W (HM.old T));go_wp2_with fail;apply l.mono;rintro r w1 ⟨rfl,q⟩;have d:=H (Z5.kept q (λx=>x));have J9:=H (j.old q);have J3:=H (Ag.trans T q);have u:=d.cells.1;go_wp2_with fail;apply(o w1).mono;rintro r w2 ⟨rfl,P⟩;have k:=H (d.kept P (λx=>x));have s:=H (J9.old P);have J8:=H (Ag.trans J3 P);have n2:=k.cells.1;go_wp2_with fail;apply(H3 (S trivial) w2 s).mono;rintro r w3 ⟨rfl,m⟩;have n:=H (k.kept m (λx=>x));have z:=H (s.old m);have O3:=H (Ag.trans J8 m);have n3:=n.cells.1;have m3:=n.cells.2.2.2.1;go_wp2_with fail;go_quiet ((go_at_call 204;exact Calls.quiet_of_same (H4 _)));go_wp2;go_ret;exact⟨by rw[X b];rfl,O3.drewN _⟩):p:=h
def aeL(h:p:=by
 cases lg with
 |true=>
  rw[Wz (wn o)] at hd;have c:=H (f 1 w6 hd Ac);clear f d hd o;go_wp2_with fail;go_ret3;exact⟨m,c⟩
 |false=>
  rw[Wx (abw o)] at hd;clear o;by_cases h60:60<fs.length+1
  .rw[Wz h60] at hd;have c:=H (f 6 w6 hd Ac);have h60I:(60:Z)<(fs.length:Z)+1:=A;clear f d hd;go_wp2_with fail;go_ret3;exact⟨m,c⟩
  rw[Wx h60] at hd;have h60I:¬(60:Z)<(fs.length:Z)+1:=A;by_cases t:16000<all+dt.size
  .rw[Wz t] at hd;have c:=H (f 1 w6 hd Ac);have F6:(16000:Z)<(all:Z)+dt.size:=A;clear f d hd;go_wp2_with fail;go_ret3;exact⟨m,c⟩
  rw[Wx t] at hd;have F6:¬(16000:Z)<(all:Z)+dt.size:=A;have HR:=H (d hd _ _ j);clear f d hd;go_wp2;go_roundw
  .exact ⟨i+1,A,by go_num,by rw[aav] at HR;exact HR⟩
  exact Ae):p:=h
def aeM(h:p:=by
 generalize As z k=c at*;go_wp2_with fail;refine l.mono ?_;rintro e w2 ⟨rfl,rfl⟩;go_wp2_with fail;refine b.mono ?_;rintro e w3 ⟨rfl,rfl⟩;go_wp2_with fail;go_round
 .exact ⟨k+1,A,by go_num,HN⟩
 exact Ae):p:=h
def aeN(h:p:=by
 refine tk 2 6 (V (J ⟨w.heap.size,0,O⟩)) 54 f ?_;refine tk 3 6 (V (J ⟨w.heap.size,2,O⟩)) 55 f ?_;refine tk 4 6 (I Q (ck:Z)) 56 f ?_;refine Ah (i:=1) B ?_;refine WE rfl (λK' l=>?_);go_simp;apply(t _).mono;rintro r wz ⟨rfl,rfl⟩;refine l _ _ ⟨λ_=>f,?_⟩;refine Ah (i:=5) B ?_;refine WE rfl (λK' l=>?_);by_cases hcc:cs=ck
 .have hccI:((cs:Z) !=(ck:Z))=false:=by rw[hcc];simp
  have d:=e hcc;go_simp;refine l _ _ ⟨λh=>absurd rfl h,?_⟩;refine Aj B ?_;go_wp2;go_ret2;exact⟨by rw[b,d];rfl,U1.drew⟩
 have hccI:((cs:Z) !=(ck:Z))=true:=by rw[wm];omega
 have d:=c hcc;go_simp;refine l _ _ ⟨λh=>absurd rfl h,?_⟩;refine Aj B ?_;go_wp2;go_ret2;exact⟨by rw[b,d];rfl,U1.drew⟩):p:=h
def aeO(h:p:=by
 refine WE rfl (λK' l=>?_);go_simp;apply a.mono;rintro e w3 ⟨rfl,K1⟩;refine l _ _ ⟨λh=>absurd rfl h,?_⟩;clear l;refine Aj B ?_;clear j;obtain⟨vr3,O0⟩:=(z.old (Ag.refl (λ_=>False) w2).drew).turnR K1;have HX:=H (O4 w3 X0 vr3 _ (by rfl) (by rfl) (by rfl) (by rfl) (by rfl) O0);clear O0 K1 a z O4;go_wp2_with fail;go_end0;exact⟨rfl,HX⟩):p:=h
def aeP(h:p:=by
 go_wp2_with fail;apply(d _).mono;rintro r w1 ⟨rfl,rfl⟩;go_wp2_with fail;apply y.mono;rintro r w2 ⟨rfl,P⟩;have hA:Am w2 (w2.alloc (.cells #[G nm,I .u32 (c:Z),I .u32 (ck:Z),I .u32 (sz:Z),G pk] 190)):=(Ag.refl _ w2).alloc _;have Z5:C (GI (w2.alloc (.cells #[G nm,I .u32 (c:Z),I .u32 (ck:Z),I .u32 (sz:Z),G pk] 190)) w2.heap.size ⟨nm,c,ck,sz,pk⟩):=WD w2 _;have a:=H (Ag.trans P hA);clear hA P;have hlc:=R _ a;have i:=Z5.cells.1;go_wp2_with fail;generalize w2.alloc (.cells #[G nm,I .u32 (c:Z),I .u32 (ck:Z),I .u32 (sz:Z),G pk] 190)=W at*;go_quiet (fail);go_wp2;go_ret2;exact⟨(Ag.trans HO a).drewN _,by rw[X f];rfl⟩):p:=h
def aeQ(h:p:=by
 go_wp2_with (at_builtin;refine wpList_append_lies _ rfl (.tmp 23) (.tmp 25) 100 rfl w.heap.size 3 i0 (I Q 0) 1 8 underlying100 N5 Q0 G9 G8 rfl A (K ao i cap) i _ rfl J2 ⟨wr.heap.size,0,O⟩ 1 1 [I Q 8] rfl rfl I6 (by intro u hu;simp at hu;subst hu;rfl) A (by unfold maxLen;omega) A S _ rfl ?_;intro g2 cap2 w3 m P O0 Q4;have J3:=m;have J9:=P;have HB:=Cd J2;clear m P O0);go_roundw
 .refine ⟨i+1,J ⟨g2,0,O⟩,cap2,A,rfl,by go_num,?_,?_⟩
  .have e:Av (CF.take (i+1))=Av (CF.take i)++[I Q 8]:=by rw[take_getD _ _ (by rw[BU];exact R),a];simp[Av]
   rw[e];exact J3
  exact(HO.alloc _).grown J9 (λq hq e=>absurd hq (by have:=HB q e;omega))
 exact Ae):p:=h
def aeR(h:p:=by
 go_wp2_with fail;apply c.mono;rintro r w7 ⟨rfl,rfl⟩;go_wp2_with fail;apply f.mono;rintro r w7 ⟨rfl,rfl⟩;go_wp2_with fail;apply HFA6.mono;rintro r w8 ⟨rfl,hr8,ho8⟩;have hO8:=m.trans ho8;go_wp2_with fail;refine wI (abk rfl _ _ _) rfl ?_;exact⟨rfl,hO8.of_g o,y,l,2,⟨T,q,.inr ⟨EJ l N4,A⟩⟩,S,St.next HR J2 e hO8 hr8,λ_ _ h=>h⟩):p:=h
def aeS(h:p:=by
 go_in;go_wp2_with fail;apply HB.mono;rintro r w1 ⟨rfl,q⟩;have U3:=H (g.kept q (λx=>x));have u:=H (Ag.trans HO q);obtain⟨d0,d1,d2,T,y⟩:=U3.cells;simp only at d0 d1 d2 T y;go_wp2;go_ret2;exact⟨rfl,u⟩):p:=h
def aeT(h:p:=by
 have HT:=H (fP J9 o K6 Z1 s (Nat.le_of_lt R));have x:=H (Sa (n:=D.ts.length-(k+1)) (c:=cap-(k+1)) J9 s rfl y);clear j;go_region_law (refine Lt rfl (.tmp 68) (.tmp 75) rfl (K (J ⟨g,0,O⟩) k k) (K dp (D.ts.length-(k+1)) (cap-(k+1))) (D.ts.take k) (D.ts.drop (k+1)) (by simp[Act.eval,Act.put]) (by simp[Act.eval,Act.put]) (by exact HT) (by exact x) (by simp;omega) ?_;intro v' w4 r l O5;obtain⟨⟨ao,m,c,hf⟩,Q5,hf4⟩:=UA u rfl r l;subst hf;have HTH:=H r;have HGR:=H l;have L:=H O5;clear r l O5)
 all_goals
  go_wp2;go_ret;refine⟨rfl,?_⟩;exact fQ J2 u rfl HTH HGR L rfl):p:=h
def aeU(h:p:=by
 go_wp2_with fail;apply u.mono;rintro r w4 ⟨rfl,v,z⟩;have J8:=H (T.trans z);have x :Rd w4 g s a2 (K ao l.length d) 2:=v;have Q5:w4.cell? ⟨g,3,O⟩=J (I Q 2):=x.c3;have N1:=H x;clear z v x j;go_wp2_with fail;go_loop [4,5] (λi _=>i=I Q 0) (λ_ _=>0)
 .rfl
 subst hrel;by_cases D:0<n
 .have y:(0:Z)<(n:Z):=A;go_wp2_with fail;go_end0;exact⟨rfl,J8.of_g o,a2,l,2,⟨I4,q,.inr ⟨t,A⟩⟩,St.next HR J2 e J8 N1⟩
 have y:¬(0:Z)<(n:Z):=A;go_wp2_with fail;go_end0;exact⟨rfl,J8.of_g o,a2,l,2,⟨I4,q,.inr ⟨t,A⟩⟩,St.next HR J2 e J8 N1⟩):p:=h
def aeV(h:p:=by
 go_wp2;go_ret;exact⟨rfl,HO⟩):p:=h
def aeW(h:p:=by
 obtain⟨_,hF,_⟩:=a;obtain⟨_,⟨rfl,hz⟩|⟨b,c,J0,rfl,_⟩⟩:=hF
 .rw[hz];exact⟨O,0,rfl⟩
 exact⟨_,_,rfl⟩):p:=h
def aeX(h:p:=by
 go_wp2;go_ret;exact⟨rfl,HX⟩):p:=h
def aeY(h:p:=by
 have hA1:Am w1 (w1.alloc (.map #[] 0)):=(Ag.refl _ w1).alloc _;have E3:Am (w1.alloc (.map #[] 0)) ((w1.alloc (.map #[] 0)).alloc (.cells #[K O 0 0,.map (J w1.heap.size),I Q 0] jR)):=(Ag.refl _ _).alloc _;have h:=WD (w1.alloc (.map #[] 0)) (.cells #[K O 0 0,.map (J w1.heap.size),I Q 0] jR);rw[WP] at h;exact⟨(q.trans hA1).trans E3,⟨K O 0 0,⟨h,WZ _ _ _ _,(Cx.made w1).old E3⟩,(λb hb=>by cases hb)⟩,WZ _ _ _ _,(λb hb=>by cases hb),⟨_,(Q1.old hA1).old E3⟩,⟨by show(0:N)<=60;omega,WF _⟩,by have:=Q1.lt;omega⟩):p:=h
def aeZ(h:p:=by
 generalize As s i=b at*;go_wp2_with fail;apply HC.mono;rintro e w' ⟨rfl,rfl⟩;go_wp2_with fail;go_round
 .exact ⟨i+1,A,by go_num,HN⟩
 exact Ae):p:=h
def afa(h:p:=by
 have I8:(i:Z)<lf.length:=A;obtain⟨g1,c1,e1, -,hc1⟩:=BZ.slice (f.kept HO (λ_ _ x=>x)) A;obtain⟨g2,c2,e2, -,hc2⟩:=BZ.slice (t.kept HO (λ_ _ x=>x)) A;injection e1 with e11 e12 e13;injection e2 with e21 e22 e23;subst e11 e13 e21 e23;obtain⟨D,L⟩:=hc1 i o;obtain⟨v,r2⟩:=hc2 i o;generalize lf.getD i default=x at*;obtain⟨n,xy⟩:=x;simp only at D L v r2;have j:=zq n (xy:Z);go_wp2_with fail;go_quiet (fail);go_wp2;go_roundw
 .exact ⟨i+1,A,by go_num,rfl,HO.drewN _⟩
 exact Ae):p:=h
def afb(h:p:=by
 go_wp2;go_ret;exact⟨rfl,Ag.refl _ _⟩):p:=h
def afc(h:p:=by
 generalize As s i=b at*;go_wp2_with fail;apply HC.mono;rintro e w' ⟨rfl,rfl⟩;go_wp2;go_ret;exact⟨by rw[X HR];rfl,rfl⟩):p:=h
def afd(h:p:=by
 rw[i] at a;go_in;go_wp2_with (go_at_call 99;refine a.mono ?_;rintro e w1 ⟨rfl,hd,ho⟩);go_ret;exact⟨rfl,Br.of hd ho⟩):p:=h
def afe(h:p:=by
 go_wp2_with fail;go_round
 .exact ⟨i+1,A,by go_num,HN⟩
 exact Ae):p:=h
def aff(h:p:=by
 refine WE rfl (λK' l=>?_);obtain⟨n,U7,a⟩:=j;go_simp;refine l _ _ ⟨λh=>absurd rfl h,?_⟩;clear l;refine Aj B ?_;have HX:=H (P _ z ((Ag.refl _ w3).drew) e);clear P;go_wp2_with fail;go_end0;exact⟨rfl,HX⟩):p:=h
def afg(h:p:=by
 go_in;go_wp2_with fail;generalize w.alloc (.cells #[I Q d,I Q p,I Q q,G s,G t,x,y] 41)=W,w.heap.size=ob at*;apply(HP _).mono;rintro r w3 ⟨rfl,rfl⟩;clear HP;go_wp2_with fail;go_end0;exact⟨rfl,f⟩):p:=h
def afh(h:p:=by
 go_wp2_with fail;refine l.mono ?_;rintro e w' ⟨rfl,X7⟩;have hlk:=P w' X7;have c:C (∀o,Am W (w'.alloc o)):=λo=>(Ag.trans u X7).alloc o
 clear X7 l P;go_wp2;go_ret;exact⟨rfl,Ag.trans HO (c _)⟩):p:=h
def afi(h:p:=by exact(HO.alloc _).grown J9 (λq hq e=>absurd hq (by have:=HB q e;omega))):p:=h
def afj(h:p:=by
 have x:(k:Z)-n<(t:Z):=A;go_wp2_with fail;go_step3
 try simp only[Exit.jump]
 exact⟨rfl,rfl,rfl,T,by rw[X O2];exact JO (by rw[X J4];exact R) (Pn HD i (by rw[X J4];exact D))⟩):p:=h
def afk(h:p:=by
 go_wp2_with fail;go_round
 .exact ⟨i+1,A,by go_num,p⟩
 exact Ae):p:=h
def afl(h:p:=by
 intro k ok hk u hu t;refine l k ok hk u ?_ t;by_cases s:j=k
 .subst s;exact m
 rw[adH true s] at hu;exact hu):p:=h
def afm(h:p:=by
 have R:=Jo c hn;have hw3:IntKind.i64.wrap ((ES c n:N):Z)=((ES c n:N):Z):=Aw _ A;have HP:=H e1;generalize ES c n=p at*;go_in;go_wp2;go_ret;refine⟨?_,rfl⟩;congr 2):p:=h
def afn(h:p:=by
 rw[<-f];clear f;go_in;go_wp2_with fail;apply(l _ HR).mono;rintro r w1 ⟨v,a',j,rfl,X8,i,q⟩;have hvl:v<2^n:=X8.1;rw[X t] at hvl;have HN1:=H X8;have b:=H i;have u:=H q;clear X8 i q;go_wp2_with (go_at_call 260;refine(p _).mono ?_;rintro r w2 ⟨rfl,rfl⟩);go_ret;exact⟨v,a',j,AU (hJ (Value.int Q) A),HN1,b,u⟩):p:=h
def afo(h:p:=by
 go_in;go_wp2_with fail;apply(c _).mono;rintro r w1 ⟨rfl,rfl⟩;go_wp2_with fail;apply(b _).mono;rintro r w2 ⟨rfl,rfl⟩;go_wp2_with fail;apply(a _).mono;rintro r w3 ⟨rfl,rfl⟩;go_wp2_with fail;apply(d _).mono;rintro r w4 ⟨rfl,rfl⟩;go_wp2_with fail;refine wI (CR results221 _ _ w.heap.size 190 _ (0,0) _ rfl x underlying190 rfl Da) rfl ⟨rfl,HO⟩):p:=h
def afp(h:p:=by
 have HCUT:=H f;go_wp2_with fail;go_step3
 try simp only[Exit.jump]
 exact⟨rfl,rfl,rfl,T,by rw[X O2];exact JO (by rw[X J4];exact R) (Pm HD (by rw[X m];exact HCUT))⟩):p:=h
def afq(h:p:=by
 have hz:=X b;go_wp2_with (refine aal rfl 166 (.tmp 2) (.tmp 35) rfl w.heap.size #[V O,V O] rfl rfl 166 _ hz BR rfl (EQ _ _) ?_);refine wI (CB results194 _ _ w.heap.size 166 _ (0,0) _ rfl (aaa w1 w.heap.size _ _ _ _ hz) underlying166 rfl BR) rfl ⟨?_,.inr ⟨HT,rfl⟩⟩;exact u.setRow _ (λh=>absurd h (aac _)) _):p:=h
def afr(h:p:=by
 go_wp2_with (refine aal rfl 166 (.tmp 2) (.tmp 66) rfl w.heap.size #[V O,V O] rfl rfl 166 _ hz BR rfl (EQ _ _) ?_);refine wI (CB results194 _ _ w.heap.size 166 _ (0,0) _ rfl (aaa w3 w.heap.size _ _ _ _ hz) underlying166 rfl BR) rfl ⟨?_,.inr ⟨HT,rfl⟩⟩;exact(J3.drewN _).setRow _ (λh=>absurd h (aac _)) _):p:=h
def afs(h:p:=by
 go_wp2_with fail;refine wI (CR results221 _ _ w.heap.size 190 _ (0,0) _ rfl x underlying190 rfl Da) rfl ⟨rfl,HO⟩):p:=h
def aft(h:p:=by
 obtain⟨q,h|⟨b,cap,J0,t,h1,hg,r⟩⟩:=h
 .exact ⟨q,.inl h⟩
 exact⟨q,.inr ⟨b,cap,J0,t,h1,(ho.block b (Wt.1 hg).1 (hs b (by rw[t];rfl))).trans hg,r⟩⟩):p:=h
def afu(h:p:=by
 subst d;clear HD;go_in;go_wp2_with fail;refine y.mono ?_;rintro e w1 ⟨rfl,q⟩;have u:=H q;clear q;go_wp2_with fail;refine(o w1 (HM.old u)).mono ?_;rintro e w2 ⟨rfl,P⟩;have T:=H (u.trans P);clear P;go_wp2_with fail;refine(H3 w2).mono ?_;rintro e w3 ⟨rfl,rfl⟩;go_wp2;go_ret2;exact⟨rfl,T⟩):p:=h
def afv(h:p:=by
 refine⟨w2,b,⟨λx hx=>?_,_,c,λq=>?_⟩,(Ag.refl _ w).grown a (λk _ e=>(WX e).symm)⟩
 .rcases WY.1 hx with hx|hx
  .exact h0 x hx
  rw[WN] at hx;subst hx;exact y
 by_cases e:q=r
 .subst e;rw[adz h1.isMap (Zj _),MA,Wy rfl,Bool.or_true]
 have j:=Nv (show q≠r from e);rw[adq j,h2 q,MA,Ww (λx=>e x.symm),acT]):p:=h
def afw(h:p:=by
 refine⟨λh=>absurd (h ▸ y) aaT,λj hj=>?_⟩;rcases Nat.decEq j i with hji|rfl
 .exact absurd (H.1 ▸ abR hj hji) aaT
 exact R.wpOp hi d ⟨λ_=>d,H⟩):p:=h
def afx(h:p:=by rw[hz];exact⟨O,0,rfl⟩):p:=h
def afy(h:p:=by
 by_cases h1:a=32768
 .have f:((a:Z)==32768)=true:=by rw[aaB];omega
  go_wp2;go_ret;exact⟨AU (hJ Value.bool (by show true=Fa L;rw[X U4];simp[h1])),rfl⟩
 have f:((a:Z)==32768)=false:=by rw[WA];omega
 go_wp2;go_ret;exact⟨AU (hJ Value.bool (by show false=Fa L;rw[X U4];simp[h1])),rfl⟩):p:=h
def afz(h:p:=by
 have hz:=h.2.2.2.2.2.size;have hk:∀j u,W.cell? ⟨w.heap.size,j,O⟩=J u->l.cell? ⟨w.heap.size,j,O⟩=J u:=λj u hu=>(ho.cell (p:=⟨w.heap.size,j,O⟩) (wG M7 hz) (λe=>e)).trans hu
 exact⟨hk 0 _ h.1,hk 1 _ h.2.1,hk 2 _ h.2.2.1,hk 3 _ h.2.2.2.1,hk 4 _ h.2.2.2.2.1,h.2.2.2.2.2.trans ho⟩):p:=h
def afA(h:p:=by
 by_cases h:e2=0
 .have:=z h;rw[Wz (by rw[X J4];exact D)] at this;subst h;exact⟨this,rfl⟩
 obtain⟨k1,k2⟩:=i h;subst k2;exact⟨k1,rfl⟩):p:=h
def afB(h:p:=by
 go_in;go_wp2_with fail;apply y.mono;rintro r w1 ⟨rfl,q⟩;have U3:=H (g.kept q (λx=>x));have u:=H (Ag.trans HO q);have d2:=U3.cells.2.2.1;simp only at d2;go_wp2_with fail;go_quiet ((go_at_call 27;exact Calls.quiet_of_same (HC _)));have T:=H (u.drewN nq);go_wp2;go_ret2;exact⟨rfl,T⟩):p:=h
def afC(h:p:=by
 intro j h h2;by_cases e:j=i
 .subst e;exact b
 exact HT j h A):p:=h
def afD(h:p:=by exact h.new r (by rw[e];simp) k hk):p:=h
def afE(h:p:=by
 have a:¬(i:Z)<s.size:=A;have HR:=H (c (λj hj=>g j A));have hte:=DH s;go_wp2;go_ret;exact⟨by rw[X HR];simp,rfl⟩):p:=h
def afF(h:p:=by
 by_cases e:j<i
 .exact g j e
 have:j=i:=A;subst this;exact hp):p:=h
def afG(h:p:=by
 obtain⟨k,fs,lf,a1,b1,a2,b2,e1,e2,f1,f2,l1,l2,hf,q,g1,g2⟩:=z.same X5;obtain⟨rfl,rfl,rfl⟩:=Rm e1;obtain⟨rfl,rfl,rfl⟩:=Rm e2;refine⟨fs,lf,hf,q,rfl,Au.old (Rl f1 y Ac) I3,f2,BZ.kept (Rl l1 y Ac) I3 (λ_ _ x=>x),l2,λg e=>WI S (g1 g e),λg e=>WI S (g2 g e)⟩):p:=h
def afH(h:p:=by exact(HO.alloc _).grown J9 (λq hq e=>absurd hq (by have:=HB q e;omega))):p:=h
def afI(h:p:=by
 by_cases h:j=t
 .subst h;rw[Wz rfl,Wz A]
 rw[Wx h];by_cases h2:j<t
 .rw[Wz h2,Wz A]
 rw[Wx h2,Wx A]):p:=h
def afJ(h:p:=by
 have hb:=HD.lt;have X2:=HD.2.1.block_lt;refine⟨v,(HD.drewN m).kept P (λx=>x) (λ_ _ x=>x),((Ag.refl _ w).drewN m).transNew P (λ_ _ x=>x.elim),.inl rfl,λk hk=>?_⟩;have h5:=(Jw d k hk).1;have h6:w.heap.size<=k:=h5;exact⟨λe=>by have:=X2 k e;omega,A⟩):p:=h
def afK(h:p:=by
 go_in;go_wp2_with fail;refine y.mono ?_;rintro e w1 ⟨rfl,q⟩;have u:=H q;clear q;go_wp2;go_ret;exact⟨rfl,u⟩):p:=h
def afL(h:p:=by
 rcases a with a|a
 .rcases h3 with h3|h3
  .exact .inl (a.trans h3)
  exact .inr (a ▸ h3)
 exact .inr λk hk=>WI h2.size (a k hk)):p:=h
def afM(h:p:=by
 intro x hx;obtain⟨j,hj,rfl⟩:=wF hx;exact HT j hj A):p:=h
def afN(h:p:=by
 have F7:decide ((c:Z)<=57)=false:=Ww A;have d:J1=false:=by rw[X a,Cj,Wy (by omega:48<=c),Ww h57];rfl
 subst d;have H57:=H F7;clear F7;go_wp2;go_ret;exact⟨by show Ending.returned (Value.bool (decide ((c:Z)<=57)))=_;rw[X H57],HO⟩):p:=h
def afO(h:p:=by
 go_wp2;go_ret;exact⟨by rw[X HA];rfl,HO⟩):p:=h
def afP(h:p:=by
 by_cases o :i<g.size
 .simp[o] at N5 h1;rw[N5] at h1;cases h1
 simp[wO (acN o)] at h1):p:=h
def afQ(h:p:=by
 by_cases h0:0<fs.length
 .obtain ⟨g,cap,rfl,h1,h2⟩:=h.slice h0;exact⟨_,cap,g,rfl,h1,λ_=>rfl,h2⟩
 have e:fs.length=0:=A;obtain⟨_,⟨rfl,_⟩|⟨g,cap,J0,rfl,_⟩⟩:=h
 .exact ⟨O,0,0,by rw[e],hp,A,A⟩
 exact⟨_,cap,0,rfl,hp,A,A⟩):p:=h
def afR(h:p:=by
 go_wp2_with fail;go_round
 .exact ⟨i+1,A,by go_num,a⟩
 exact Ae):p:=h
def afS(h:p:=by
 go_wp2;go_roundw
 .refine ⟨n+j,ao2,cap2,0,A,rfl,N7,⟨_,L⟩,⟨a2,I4,t,.inl ⟨rfl,l++List.replicate j 0,by rw[Ws,wA,X J4],L,?_⟩⟩,HO⟩;rw[X O2,Cp (by rw[X J4];exact R),X v,V8]
 rw[X HM,AR N7];simp[QC];omega):p:=h
def afT(h:p:=by
 go_in;go_wp2_with (first
  |(go_at_call 99;refine a.mono ?_;rintro e w1 ⟨rfl,hd,ho⟩;have HD:=H hd;have HO:=H ho;clear hd ho)
  |(go_at_call 107;refine(c _ HD).mono ?_;rintro e w2 ⟨rfl,n,rfl⟩))
 go_ret;exact⟨rfl,(Br.of HD HO).drewN n⟩):p:=h
def afU(h:p:=by
 unfold Ci at*;go_in;go_wp2_with fail;apply HC.mono;rintro e w2 ⟨rfl,K5⟩;have HX:=K5;go_wp2;go_ret;exact⟨rfl,HX⟩):p:=h
def afV(h:p:=by
 go_wp2_with fail;refine l.mono ?_;rintro e w' ⟨rfl,X7⟩;have hlk:=P w' X7;have c:C (∀o,Am W (w'.alloc o)):=λo=>(Ag.trans u X7).alloc o
 clear X7 l P;go_wp2;go_roundw
 .exact ⟨i+1,A,by go_num,c _,p⟩
 exact Ae):p:=h
def afW(h:p:=by
 obtain⟨h1,h2⟩:=h;obtain⟨h3,h4⟩:=o;rw[h1,h2,h3,h4];exact⟨rfl,e,b,c,A⟩):p:=h
def afX(h:p:=by
 subst c;go_wp2;go_ret;exact⟨rfl,J8⟩):p:=h
def afY(h:p:=by
 go_in;go_wp2_with (first
  |(go_at_call 99;refine a.mono ?_;rintro e w1 ⟨rfl,hd,ho⟩;have HD:=hd;have HO:=ho;clear hd ho)
  |(go_at_call 100;refine(c _ HD).mono ?_;rintro e w2 ⟨rfl,n,rfl⟩))
 go_ret;exact⟨rfl,(Br.of HD HO).drewN n⟩):p:=h
def afZ(h:p:=by
 go_wp2_with fail;apply d.mono;rintro r w8 ⟨rfl, -,s8,R8,u,hba8⟩;have HX:=u;have HBX:=hba8.trans (m.trans p);go_wp2;go_ret;exact⟨rfl,Exists.intro _ (Exists.intro _ (Exists.intro _ (Exists.intro _ ⟨HX,HBX⟩)))⟩):p:=h
def aga(h:p:=by
 go_wp2;go_ret;exact⟨rfl,T⟩):p:=h
def agb(h:p:=by
 have m:C (Bu s v a=([],3)):=by unfold C Bu;rw[c]
 rw[c] at y;go_in;go_wp2_with fail;apply y.mono;rintro r w1 ⟨rfl,q⟩;have u:=H q;go_wp2;go_ret2;exact⟨u,by rw[X m];exact .inr ⟨Ac,rfl⟩⟩):p:=h
def agc(h:p:=by exact⟨0,A,rfl,λj _ h=>A⟩):p:=h
def agd(h:p:=by
 go_wp2_with fail;apply u.mono;rintro r w1 ⟨rfl,i,q⟩;go_wp2;go_ret;obtain⟨h1,h2⟩:=X c;rw[h2] at i;exact⟨0,a',2,rfl,⟨⟨b,ha'⟩,A,.inr ⟨rfl,.inr ⟨h1,rfl⟩⟩⟩,i,HO.trans q⟩):p:=h
def age(h:p:=by
 unfold Oper.wp;simp[execOp,ho,resolve,invoke,builtin,hs,hx,b,Result.andThen];exact c _ _ (l v' w' h1 h2 h3)):p:=h
def agf(h:p:=by
 clear Q8;go_in;go_wp2_with fail;apply(q _).mono;rintro r w1 ⟨rfl,rfl⟩;go_wp2_with fail;apply(u _).mono;rintro r w2 ⟨rfl,rfl⟩;go_wp2;go_ret2;exact⟨Ag.refl _ _,by rw[uh HA];exact⟨_,rfl⟩⟩):p:=h
def agh(h:p:=by
 go_in;go_wp2_with fail;apply y.mono;rintro e w1 ⟨rfl,h⟩;have c:=h;go_wp2_with fail;go_ret3;exact⟨rfl,c⟩):p:=h
def agi(h:p:=by
 go_in;go_wp2_with fail;go_ret3;exact⟨rfl,rfl⟩):p:=h
def agj(h:p:=by
 go_wp2_with fail;go_quiet (fail);go_wp2;go_roundw
 .exact ⟨k+1,A,by go_num,l,HO.drewN _⟩
 exact Ae):p:=h
def agk(h:p:=by
 rw[y] at hg;injection hg with hg;injection hg with _ h2;exact absurd h2 Ac):p:=h
def agl(h:p:=by
 go_wp2_with fail;go_quiet (fail);go_wp2;go_roundw
 .exact ⟨k+1,A,by go_num,HO.drewN _⟩
 exact Ae):p:=h
def agm(h:p:=by
 go_wp2;go_ret;exact⟨by rw[X HR];simp,rfl⟩):p:=h
def agn(h:p:=by
 have h3:=Ga (d:=D i) (l:=(List.range len).map D) (wd.2 ⟨i,wh.2 hi,rfl⟩);rw[x,uptoBulk] at hb;omega):p:=h
def ago(h:p:=by
 go_wp2;go_ret;exact⟨rfl,u⟩):p:=h
def agp(h:p:=by
 go_wp2;go_roundw
 .exact ⟨n,ao,cap,2,hn,rfl,Q5,⟨_,G6⟩,⟨a2,I4,N1,.inr ⟨rfl,by rw[X O2,Cp (by rw[X J4];exact R),N4.1]⟩⟩,J8⟩
 rw[X HM,AR (X N1).c3];simp[QC]):p:=h
def agq(h:p:=by subst d;exact kinds hg h.hp Ac):p:=h
def agr(h:p:=by
 go_wp2;go_roundw
 .exact ⟨n,ao,cap,2,hn,rfl,p,⟨_,d⟩,⟨a2,I4,f,.inr ⟨rfl,by rw[X O2,Cp (by rw[X J4];exact R),X T4]⟩⟩,T⟩
 rw[X HM,AR p];simp[QC]):p:=h
def ags(h:p:=by
 have h1:=D (by rw[a];decide);unfold C;rw[X b,h1,a];rfl):p:=h
def agt(h:p:=by exact(J9.block g G5.lt (λhh=>HNE g hh.symm rfl)).trans G5):p:=h
def agu(h:p:=by
 have HR:=H (Ll.none f hp h0);go_in;go_wp2_with fail;apply y.mono;rintro e w1 ⟨rfl,m,rfl⟩;go_wp2;go_ret;exact⟨true,D,rfl,HR,v,HD.drewN m,((Ag.refl _ w).drewN m),.inl rfl⟩):p:=h
def agv(h:p:=by
 go_quiet (fail);go_wp2;go_roundw
 .exact ⟨i+1,A,by go_num,rfl,j.drewN _⟩
 exact Ae):p:=h
def agw(h:p:=by
 go_wp2_with fail;go_quiet (fail);go_wp2_with fail;go_ret3;rw[X e];exact⟨rfl,HO.drewN _⟩):p:=h
def agx(h:p:=by
 apply HP.mono;rintro r w2 ⟨P,e,rfl,i⟩;have T:=H (u.trans P);have j:=H i;go_wp2;go_ret2;exact⟨T,bl,e,rfl,by rw[X c];exact X j,λ_=>X f⟩):p:=h
def agy(h:p:=by
 go_wp2_with (go_at_call 167;refine(m _ _ i).mono ?_;rintro e w2 ⟨rfl,rfl⟩);go_roundw
 .exact ⟨j+1,A,by go_num,by rw[HN a];exact o.alloc _,HR.alloc _⟩
 exact Ae):p:=h
def agz(h:p:=by
 rw[FK];have:=Lib.countB_le ⟨#[47]⟩ Ac s.size s (WF _);omega):p:=h
def agA(h:p:=by
 obtain⟨n,d⟩:=x;simp only at D L v r2;have j:=oP n d;go_wp2_with fail;go_quiet (fail);go_wp2;go_roundw
 .exact ⟨i+1,A,by go_num,HO.drewN _⟩
 exact Ae):p:=h
def agB(h:p:=by
 rcases a with a|a
 .exact (h4 k hk).1 (a ▸ e)
 have h5:=a k e;have h6:=q k hk;omega):p:=h
def agC(h:p:=by
 have hLn:=u.old ho;have h1:=WL _ b 2 _ _ (G z) hLn.hp;exact Exists.intro z ⟨hz,hLn.rec_ (s':={S with ar:=z}) (Aq _ b 2 _) h1 (WF _) rfl rfl rfl rfl rfl rfl⟩):p:=h
def agD(h:p:=by
 clear hm c hd hg;go_in;go_wp2_with fail;apply y.mono;rintro r w1 ⟨rfl,q⟩;have HT:=H (Ie HD q);clear q y;go_wp2;go_ret;exact⟨10,D,rfl,HA,HT⟩):p:=h
def agE(h:p:=by
 refine acu c λK l=>?_
 unfold Oper.wp;simp only[execOp,ho,resolve,invoke,builtin,acd,acJ,abS,ads,aai,aaF,hd,hs,b];exact l _ _ (k w' f h1 h2 h3 h4 h5)):p:=h
def agF(h:p:=by exact⟨L[i],WJ o,by rw[b];exact λh=>by cases h⟩):p:=h
def agG(h:p:=by
 have x:=H (El.zero (s:=s) (e:=e) c);rw[e1,e2];clear e1 e2;go_in;go_wp2;go_ret;exact⟨0,a,e,AU (hJ (Value.int Q) (X HE).symm),x,h,Ag.refl _ w⟩):p:=h
def agH(h:p:=by exact R.wpOp hi d ⟨λ_=>d,H⟩):p:=h
def agI(h:p:=by
 have h1:=OA ((List.range len).map D);rw[wX,aci] at h1;rw[x,uptoBulk] at hb;omega):p:=h
def agJ(h:p:=by
 go_wp2;go_ret;exact⟨T,by rw[X HA];rfl⟩):p:=h
def agK(h:p:=by exact(J9.block g G5.lt (λhh=>by have:=HB g hh.symm;omega)).trans G5):p:=h
def agL(h:p:=by
 go_in;go_wp2_with fail;refine y.mono ?_;rintro r w1 ⟨rfl,q⟩;have u:=H q;clear y q;go_wp2;go_ret2;exact⟨u,by rw[X m];rfl⟩):p:=h
def agM(h:p:=by
 go_wp2;go_roundw
 .exact ⟨i+1,A,by go_num,z,D,T⟩
 exact Ae):p:=h
def agN(h:p:=by
 go_in;go_wp2_with (go_at_call 107;refine(c _ H).mono ?_;rintro e w1 ⟨rfl,n,rfl⟩);go_ret2;exact⟨_,rfl,WZ _ _ _ _,(Ag.refl _ _).drewN n⟩):p:=h
def agO(h:p:=by
 go_wp2_with fail;go_end0;exact⟨rfl,J3.of_g o,f,l,e3,⟨i,.inr ⟨by rw[(X HE).2];exact HE.1,T,rfl⟩⟩,St.next HR J2 e J3 u⟩):p:=h
def agP(h:p:=by
 rcases l W g with⟨_,e2⟩|⟨ad2,cp2,e2,h3⟩
 .exact absurd e2 h0
 rw[e] at e2;injection e2 with e3 e4 o;injection e3 with e3;subst e3;exact h3):p:=h
def agQ(h:p:=by
 go_in;go_wp2_with fail;go_quiet (fail);go_wp2_with fail;go_quiet (fail);go_wp2;go_ret2;exact⟨(a.drewN _).drewN _,.inr ⟨A,rfl⟩⟩):p:=h
def agR(h:p:=by
 induction n with
 |zero=>intro g a w h;exact h
 |succ n b=>intro g a w h;exact⟨h.1,λi hi=>adK (λa' w' k=>b _ a' w' k.2) (h.2 i hi)⟩):p:=h
def agS(h:p:=by
 have hn64:(n:Z)<64:=A;have K0:=ww n;rw[<-f];clear f a;go_in;go_wp2_with fail;go_ret3;exact⟨VZ (hJ (Value.int Q) A) rfl rfl,rfl⟩):p:=h
def agT(h:p:=by unfold C;rw[D (by rw[e];decide),e]):p:=h
def agU(h:p:=by
 have hp':a[p]?.getD undef=V (J ⟨g,0,O⟩):=by simpa using hp
 simp[results,h,hp',asAddr,ada w g c b cs fr d hg hu hd hi]):p:=h
def agV(h:p:=by
 intro W;have h:=acO (P:=prog) W 100 3 i0 (I Q 0) underlying100 N5 Q0 .i64 .i64 19 19 A A (by rw[G8];decide) Ac;rw[G9] at h;exact h):p:=h
def agW(h:p:=by
 rw[aay,Wv o] at hf;rcases WY.1 hf with hf|hf
 .exact O4 f hf
 have e:f=fs.getD i default:=by
  rw[Wq,Wv o];simpa using hf
 rw[e];exact Eg h):p:=h
def agX(h:p:=by
 by_cases e:j=i
 .subst e;exact h
 exact HT j hj A):p:=h
def agY(h:p:=by
 have e:d=k:=WX hk;subst e;rcases O0 with e|e
 .exact .inl e
 exact .inr A):p:=h
def agZ(h:p:=by
 have e:f=k:=WX hk;subst e;rcases F0 with e|e
 .exact .inl e
 exact .inr A):p:=h
def aha(h:p:=by
 have:=Sr (many:=k) HD (λhh=>z hh.1) (by rw[X m];exact O9) i (by rw[X J4];exact D);rw[X u,X m] at this;exact this):p:=h
def ahb(h:p:=by rw[X O2,Cp (by rw[X J4];exact R),X v,V8]):p:=h
def ahc(h:p:=by exact⟨0,A,rfl,λj hj=>A⟩):p:=h
def ahd(h:p:=by
 go_wp2;go_roundw
 .exact ⟨i+1,A,by go_num,x,HO⟩
 exact Ae):p:=h
def ahe(h:p:=by
 obtain⟨q,h|⟨b',cap,J0,t,h1,hg,r⟩⟩:=h
 .rw[h.1] at hb;cases hb
 rw[t] at hb;injection hb with hb;subst hb;exact⟨J0,hg⟩):p:=h
def ahf(h:p:=by
 rw[WN] at hx;subst hx;exact hf.kept ho (λg J0 hg _=>i Ac Ac Ac hg)):p:=h
def ahg(h:p:=by
 go_roundw
 .refine ⟨j+1,A,by go_num,?_,?_⟩
  .rw[r];refine ?_;simpa using J3
  exact YW ((HR.alloc _).alloc _) J2 J9
 exact Ae):p:=h
def ahh(h:p:=by
 go_wp2;go_ret;exact⟨J3.of_g o,2,rfl,.inr ⟨HB,A⟩⟩):p:=h
def ahi(h:p:=by
 have e:Av (l++List.replicate (j+1) y)=Av (l++List.replicate j y)++[I Q (y:N)]:=by rw[aba,<-WG];simp[Av]
 rw[e];exact J3):p:=h
def ahj(h:p:=by
 refine LK.of ((Ag.refl _ _).grown t (λk _ e=>e)) (λg J0 hg d=>?_);obtain⟨f,a⟩:=Ak v d;exact kinds hg a Ac):p:=h
def ahk(h:p:=by
 simp only[wo,abt,aaB] at h1;have hd:=q e he h1.1;rcases h1.2 with h2|h2
 .exact r e he h1.1 h2
 exact V9 (Nk p f e.on i hd h2)):p:=h
def ahl(h:p:=by
 rcases wM m 7 with h7|h7
 .rw[NY m h7];intro hh;have:=hh.2;have:=hh.1;simp at*;omega
 have e:m=7:=A;subst e;rw[YJ,GD 7 A];simp;omega):p:=h
def ahm(h:p:=by
 refine⟨λh0=>?_,λm hm=>?_⟩
 .rw[y] at h0;cases h0
 rw[y] at hm;rcases wD.1 hm with rfl|hm
 .exact h
 cases WN.1 hm;exact k):p:=h
def ahn(h:p:=by
 rintro e w' ⟨rfl,S',f,d,a⟩;exact⟨rfl,l A a d⟩):p:=h
def aho(h:p:=by
 go_wp2;go_ret;exact⟨_,rfl,HA,rfl⟩):p:=h
def ahp(h:p:=by
 split at h
 .cases h
 injection h with h;injection h with h1 h2;omega):p:=h
def ahq(h:p:=by
 go_wp2;go_ret2;exact⟨EY (show Value.string ⟨#[]⟩=_ by rw[Pd hq.out]) (show Value.bool false=_ by rw[hq.out];rfl),rfl⟩):p:=h
def ahr(h:p:=by
 rcases wM p.block w.heap.size with R|hge
 .exact R
 have:w.cell? p=none:=by simp[World.cell?,wO hge]
 rw[this] at h;cases h):p:=h
def ahs(h:p:=by
 go_wp2_with fail;go_end0;exact⟨rfl,J8.of_g o,f,l,e4,⟨i,.inr ⟨HE.1,HE.2,rfl⟩⟩,St.next HR J2 e J8 N1⟩):p:=h
def aht(h:p:=by
 refine⟨λx hx=>?_,by rw[WG] at b2;exact b2⟩;rcases wD.1 hx with e|e
 .rw[e];exact⟨a1,WI c (Tn _)⟩
 exact b1 x e):p:=h
def ahu(h:p:=by exact kinds hg h.hp Ac):p:=h
def ahv(h:p:=by
 go_wp2_with fail;go_end0;exact⟨rfl,T.of_g o,a2,l,2,⟨I4,q,.inr ⟨t,A⟩⟩,St.next HR J2 e T f⟩):p:=h
def ahw(h:p:=by
 go_wp2_with fail;go_end0;exact⟨rfl,J8.of_g o,a2,l,1,⟨I4,q,.inr ⟨t,A⟩⟩,St.next HR J2 e J8 N1⟩):p:=h
def ahx(h:p:=by
 go_wp2_with fail;go_end0;exact⟨rfl,J8.of_g o,f,l,1,⟨i,.inr ⟨HK,A,rfl⟩⟩,St.next HR J2 e J8 N1⟩):p:=h
def ahy(h:p:=by
 have q:=h.lt;obtain⟨D,⟨es,clock,hm,r⟩,h2⟩:=h;exact⟨D,⟨es,clock,(ho.block gm q hs).trans hm,r⟩,h2⟩):p:=h
def ahz(h:p:=by
 obtain⟨f,a⟩:=Ak y hk;exact kinds hg (e ▸ a) j):p:=h
def ahA(h:p:=by
 clear c e D;go_wp2;go_ret;exact⟨d.size+5*(d.size/16000)+6,by simp only[aav,aaA,aax];rfl,HM,f,rfl⟩):p:=h
def ahB(h:p:=by
 go_in;go_wp2_with (go_at_call 102;refine HA.mono ?_;rintro e w' ⟨rfl,n,rfl⟩);go_ret2;exact⟨EY Ad Ad,_,rfl⟩):p:=h
def ahC(h:p:=by
 go_wp2_with fail;go_step3
 try simp only[Exit.jump]
 exact⟨rfl,rfl,rfl,u,by rw[O2];exact FC (f.trans d)⟩):p:=h
def ahD(h:p:=by
 have R:¬(j:Z)<4:=A;go_wp2_with fail;go_end0;exact⟨rfl,P,Exists.intro _ (Exists.intro _ ⟨o,U5⟩)⟩):p:=h
def ahE(h:p:=by
 have:=(Wt.1 hg).1;omega):p:=h
def ahF(h:p:=by
 unfold C;rw[Ww A]
 symm
 rw[aar];intro x hx;obtain⟨j,hj,rfl⟩:=aat.1 hx;rw[HT j A A];exact λh=>by cases h):p:=h
def ahG(h:p:=by
 cases j with
 |zero=>simp
 |succ j=>
  have h:=b j (by simpa using hj);rw[show(j+1)*2=j*2+2 by omega];simpa using h):p:=h
def ahH(h:p:=by exact(a.alloc _).grown J9 (λq hq e=>by cases e;omega)):p:=h
def ahI(h:p:=by obtain⟨J0,hg,_⟩:=h;exact(Wt.1 hg).1):p:=h
def ahJ(h:p:=by
 have HE:(D.ts.take j=D.ts):=wv A;go_wp2;go_ret2;refine⟨_,rfl,?_,HR⟩;have:=o;rw[HE] at this;simpa using this):p:=h
def ahK(h:p:=by
 have h3:=aaz (P:=F) W 9 (p++(its.getD i BS).name) underlying9 .i64 p.size A (by rw[WC];omega);rw[h3,ww,aY]):p:=h
def ahL(h:p:=by
 injection hb with hb;subst hb;rcases O0 with h|h
 .exact e.2 _ h
 have:=O3.size;rw[WP] at this;simp only;omega):p:=h
def ahM(h:p:=by
 go_in;go_wp2_with (go_at_call 102;refine HA.mono ?_;rintro e w' ⟨rfl,n,rfl⟩);go_ret;exact⟨AU Ad,_,rfl⟩):p:=h
def ahN(h:p:=by
 have S:=H (s l I1);go_wp2;go_roundw
 .exact ⟨i+1,l,A,by go_num,j,S,u⟩
 exact Ae):p:=h
def ahO(h:p:=by rw[Hid,X O2,Cp (by rw[X J4];exact R),X v,X L]):p:=h
def ahP(h:p:=by
 rw[we,WQ] at this;exact this):p:=h
def ahQ(h:p:=by
 have I8:¬(i:Z)<L.length:=A;have HX:=H (J3.trans J2);go_wp2;go_ret;exact⟨rfl,HX⟩):p:=h
def ahR(h:p:=by
 have:(ID l i).set i l[i]=ID l i:=by rw[<-KB l i o a];exact List.set_getElem_self _
 rw[this];exact HR):p:=h
def ahS(h:p:=by
 obtain⟨f,a⟩:=Ak h.rf.1 d;exact kinds hg a Ac):p:=h
def ahT(h:p:=by
 obtain⟨f,a⟩:=Ak h.rl.1 d;exact kinds hg a Ac):p:=h
def ahU(h:p:=by
 obtain⟨f,a⟩:=Ak h.rt.1 d;exact kinds hg a Ac):p:=h
def ahV(h:p:=by
 go_roundw
 .exact ⟨j+1,A,rfl,by go_num,b⟩
 exact Ae):p:=h
def ahW(h:p:=by
 rcases WY.1 hx with h|h
 .obtain ⟨i,_,rfl⟩:=wd.1 h;exact WI (Gl _ _ _) hs
 rw[WN] at h;subst h;exact hs):p:=h
def ahX(h:p:=by
 obtain⟨J0,hg⟩:=Ak h3 (b:=d) rfl;exact(Wt.1 hg).1):p:=h
def ahY(h:p:=by
 clear T1 a;go_wp2_with fail;go_quiet (fail);go_wp2;go_ret;exact⟨by rw[X HE];rfl,k+nq,Ad⟩):p:=h
def ahZ(h:p:=by
 go_wp2;go_ret;exact⟨by rw[X HE];rfl,HO⟩):p:=h
def aia(h:p:=by exact⟨0,ao,cap,A,rfl,rfl,(show World.ownsRow _ _ _ _ _ _ _ by simpa using X d),p,T⟩):p:=h
def aib(h:p:=by
 have:=(BG.ofOwns J4 c).cell (j:=n-1) (by rw[X J4];omega);rw[WQ] at this;rw[X J4];exact this):p:=h
def aic(h:p:=by exact⟨0,ao,cap,A,rfl,rfl,(show World.ownsRow _ _ _ _ _ _ _ by simpa using X d),f,T⟩):p:=h
def aid(h:p:=by
 have:=Classical.choose_spec (c i hi);have e:f i=Classical.choose (c i hi):=abB hi;rw[e];exact this):p:=h
def aie(h:p:=by
 rw[Wx h0] at h;injection h with _ h;exact absurd h h0):p:=h
def aif(h:p:=by
 unfold DX at f;go_wp2_with fail;go_round
 .exact ⟨1,A,rfl,by rw[X a,<-WG,q]⟩
 simp[intOf]):p:=h
def aig(h:p:=by
 unfold DX at f;go_wp2_with fail;go_round
 .exact ⟨2,A,rfl,by rw[X a,<-WG,q]⟩
 simp[intOf]):p:=h
def aih(h:p:=by
 unfold DX at f;go_wp2_with fail;go_round
 .exact ⟨3,A,rfl,by rw[X a,<-WG,q]⟩
 simp[intOf]):p:=h
def aii(h:p:=by
 rcases l w1 (Ag.refl _ _) with⟨_,e⟩|⟨f,d,e,_⟩
 .exact absurd e h0
 exact⟨f,d,e⟩):p:=h
def aij(h:p:=by
 refine⟨λh0=>?_,λj hj=>?_⟩
 .rw[y] at h0;cases h0
 rw[y] at hj;cases WN.1 hj;exact h):p:=h
def aik(h:p:=by rw[Wu w2 _ _ _ _ (0,0) hg];exact wB _):p:=h
def ail(h:p:=by
 go_wp2;go_ret;exact⟨0,d,rfl,HX,a⟩):p:=h
def aim(h:p:=by
 go_wp2;go_ret;exact⟨AU (hJ Value.bool (by show true=IA L;rw[X HE];simp)),rfl⟩):p:=h
def ain(h:p:=by exact⟨_,_,_,y,l.1,l.2,λb hb=>by injection hb with hb;subst hb;exact .inr rfl⟩):p:=h
def aio(h:p:=by
 have e2:y=g:=WX e;subst e2;rcases u with e3|e3
 .exact q _ e3
 have:=l.only.size;omega):p:=h
def aip(h:p:=by
 have h0:((⟨#[]⟩:Y).toList==[])=true:=by rw[ByteArray.toList_eq];rfl
 rw[h0];rfl):p:=h
def aiq(h:p:=by
 have:=abN W 9 s Q Q ((Ig s c i).2:Z) (i:Z) underlying9 A A A;simpa using this):p:=h
def air(h:p:=by
 rintro r w' ⟨v,u,fs',e,ho,h5⟩;exact⟨ho,.inl ⟨a,.inr ⟨f,v,u,fs',e,h5⟩⟩⟩):p:=h
def ais(h:p:=by exact⟨0,wH _,rfl,WZ _ _ _ _,by first|exact(Ag.refl _ _).drewN n|exact Ag.refl _ _⟩):p:=h
def ait(h:p:=by
 go_wp2_with fail;go_end0;exact⟨rfl,HO,a',k,2,⟨ha',L,.inr ⟨P,A⟩⟩,c⟩):p:=h
def aiu(h:p:=by
 rcases hb with e|e
 .exact h.2.1 b (e ▸ t)
 rw[e] at t;have:=WX t;have:=h.2.2.size;omega):p:=h
def aiv(h:p:=by exact⟨λe=>by have:=HVB k e;omega,A⟩):p:=h
def aiw(h:p:=by
 go_wp2;go_ret2;exact⟨u,false,2,rfl,.inr ⟨d,A⟩,λh=>by cases h⟩):p:=h
def aix(h:p:=by
 cases ts with
 |nil=>simp[BP]
 |cons t r=>rw[show(k+1)*3=k*3+1+1+1 by omega];simp[BP,b]):p:=h
def aiy(h:p:=by
 go_roundw
 .exact ⟨j+1,J ⟨y,0,O⟩,L,A,by go_num,by congr 1,HX⟩
 exact Ae):p:=h
def aiz(h:p:=by
 have:(ts++b).length*3=(BP ts++BP b).length:=by simp[E9,c];omega
 rw[this];exact abn):p:=h
def aiA(h:p:=by
 rw[wC];intro x hx;obtain⟨j,hj,rfl⟩:=wF hx;exact HT j hj (by have:=X t;omega)):p:=h
def aiB(h:p:=by exact((Ag.refl (λk=>k=g) w).drewN _).setCell (p:=⟨g,1,O⟩) (λ_=>rfl) _):p:=h
def aiC(h:p:=by exact i Ac Ac Ac hg d):p:=h
def aiD(h:p:=by exact⟨_,_,y,l.1,l.2,.inr (λk hk=>by simp[Value.ownBlock] at hk;omega)⟩):p:=h
def aiE(h:p:=by
 have h1:=p (j*2) _ c;have h2:=p (j*2+1) _ hb;rw[we,WQ] at h1 h2;exact⟨h1,h2⟩):p:=h
def aiF(h:p:=by
 rintro r w' ⟨e,ho⟩;exact⟨ho,.inl ⟨a,.inl ⟨m,_,h1,h2,h3,rfl,h4,e⟩⟩⟩):p:=h
def aiG(h:p:=by
 subst e;rcases F0 with e|e
 .exact g e
 omega):p:=h
def aiH(h:p:=by exact HO.setRow _ (λh=>absurd h (aac _)) _):p:=h
def aiI(h:p:=by
 rw[X a,Cj];by_cases Y3:48<=c
 .rw[Wy Y3,Wy (by omega:c=48)];simp
 rw[Ww Y3];rfl):p:=h
def aiJ(h:p:=by
 go_wp2;go_ret;exact⟨HO,a',2,ao,n,cap,rfl,ha',t,.inr ⟨rfl,N4⟩⟩):p:=h
def aiK(h:p:=by
 go_ret;rw[HE];exact⟨rfl,HO⟩):p:=h
def aiL(h:p:=by
 have h1:=gT a.sub (Dn p (Cb L i));have h2:=R (Cb L i);have h3:=X HC;omega):p:=h
def aiM(h:p:=by rw[x,a] at D;injection D with D;injection D with _ D;exact absurd D Ac):p:=h
def aiN(h:p:=by exact .inr ⟨g,J0,h1,(ho.block g (Wt.1 h2).1 (hs g J0 h2)).trans h2,h3⟩):p:=h
def aiO(h:p:=by
 go_wp2;go_ret;exact⟨rfl,u⟩):p:=h
def aiP(h:p:=by
 rintro r w' ⟨e,ho⟩;exact⟨ho,.inl ⟨wH _,by rw[e];exact gP w w'⟩⟩):p:=h
def aiQ(h:p:=by
 rw[Ia] at this;exact this):p:=h
def aiR(h:p:=by
 apply Decidable.byContradiction;intro D;unfold Kl at h;rw[Wz A] at h;cases h):p:=h
def aiS(h:p:=by
 unfold C;rw[X HD,Pu,Ww h1,Ww h2,Ww h3,Ww h4,Wy hz];simp only[acT,acU,aas]):p:=h
def aiT(h:p:=by
 obtain⟨J0,hg⟩:=DD c (b:=b.block) (by rw[hb];rfl);exact(Wt.1 hg).1):p:=h
def aiU(h:p:=by
 go_wp2;go_roundw
 .exact ⟨j+1,A,by go_num,G0,O3⟩
 exact Ae):p:=h
def aiV(h:p:=by
 rw[abP _ _ (Bl _ h) (Bl _ h),abP _ _ (EA (Bl _ h) (Bl _ h)) (Bl _ h)]
 rfl):p:=h
def aiW(h:p:=by
 go_wp2;go_roundw
 .exact ⟨i+1,A,by go_num,c,j⟩
 exact Ae):p:=h
def aiX(h:p:=by
 go_wp2;go_roundw
 .exact ⟨i+1,A,by go_num,c,HO⟩
 exact Ae):p:=h
def aiY(h:p:=by
 go_wp2;go_roundw
 .exact ⟨i+1,A,by go_num,x,T⟩
 exact Ae):p:=h
def aiZ(h:p:=by
 unfold C;rw[Wy A]
 symm
 rw[wJ];exact⟨L[i],aat.2 ⟨i,A,rfl⟩,hk⟩):p:=h
def aja(h:p:=by
 rcases h3 with h3|h3
 .exact .inl (.inr (h3 ▸ e))
 have:=h3 i e;omega):p:=h
def ajb(h:p:=by rw[acs _ _ hji];exact h3.2.2):p:=h
def ajc(h:p:=by
 go_wp2;go_roundw
 .exact ⟨i+1,A,by go_num,O3⟩
 exact Ae):p:=h
def ajd(h:p:=by
 rcases wD.1 (a.mem_iff.1 hx) with rfl|hx
 .exact hs
 exact h.sz x hx):p:=h
def aje(h:p:=by have:=DI hn;exact⟨this.1,this.2⟩):p:=h
def ajf(h:p:=by
 rcases he with rfl|rfl
 .exact kinds hg a h1
 exact kinds hg a h2):p:=h
def ajg(h:p:=by
 rw[aaR];exact⟨L[i],WJ o,by rw[b];exact λh=>by cases h⟩):p:=h
def ajh(h:p:=by
 intro j u hu;rw[we,WQ,Wu _ _ j _ 5 (0,0) (WD wr _)];simpa using hu):p:=h
def aji(h:p:=by
 intro j u hu;rw[we,WQ,Wu _ _ j _ e (0,0) (WD wr _)];simpa using hu):p:=h
def ajj(h:p:=by
 have:=h i (by rw[Ws];omega);rw[Wq,WW hi,<-Wq] at this;exact this):p:=h
def ajk(h:p:=by rw[aaP,aaw,abo,aan,WU A,abO,Z1,WQ,Nat.add_sub_cancel' hq,aah]):p:=h
def ajl(h:p:=by
 rw[e,e2];exact CJ m (Aq w3 g 2 _) (λb hb=>KX m hb d)):p:=h
def ajm(h:p:=by
 go_wp2;go_ret;exact⟨by rw[X HE];rfl,Ag.refl _ _⟩):p:=h
def ajn(h:p:=by
 by_cases h:e1=0
 .exact h
 rw[h2.stay h] at he;exact absurd he h):p:=h
def ajo(h:p:=by
 rw[u] at hf;obtain⟨b,hi,rfl⟩:=wd.1 hf;exact(f1 b hi).1):p:=h
def ajp(h:p:=by
 split
 .omega
 split
 .omega
 split
 .omega
 split
 .omega
 split<;>omega):p:=h
def ajq(h:p:=by
 go_in;go_wp2;go_ret;exact⟨s,rfl,rfl,Ag.refl _ w⟩):p:=h
def ajr(h:p:=by
 go_wp2;go_ret;exact⟨by rw[<-X HE];rfl,b⟩):p:=h
def ajs(h:p:=by
 obtain⟨ao2,cp2,c,_⟩:=X b;rw[X HM,AR c.c1];omega):p:=h
def ajt(h:p:=by
 obtain⟨c,h1,_,h3,_⟩:=PJ z.wf hp hm;exact⟨c,h1,h3⟩):p:=h
def aju(h:p:=by rw[Wu _ _ _ _ _ _ P];exact wB A):p:=h
def ajv(h:p:=by
 rw[X HD,Pu,Ww h1,Ww h2,Ww h3,Ww h4,Ww hz];simp only[acT,aco]):p:=h
def ajw(h:p:=by exact h.2.2.grown hg (λk hk e=>by have:=h.2.1 k e;omega)):p:=h
def ajx(h:p:=by
 go_wp2;go_ret;exact⟨by rw[<-X HR];rfl,n,rfl⟩):p:=h
def ajy(h:p:=by
 show(if 0<=D.room then _ else D.room)<0;rw[Wx A];exact y):p:=h
def ajz(h:p:=by
 obtain⟨e,_,rfl⟩:=wd.1 R;exact absurd d (ND c _ _)):p:=h
def ajA(h:p:=by
 exfalso;have h1:=hw.len;have:=List.length_pos_iff.2 hp;omega):p:=h
def ajB(h:p:=by rw[show prog.elem 39=38 by kernel_rfl];exact underlying39):p:=h
def ajC(h:p:=by exact⟨0,A,rfl,z,D,T⟩):p:=h
def ajD(h:p:=by exact⟨0,A,rfl,λj h=>A⟩):p:=h
def ajE(h:p:=by
 rcases WY.1 hm with hm|hm
 .exact h3 hm
 exact absurd hm Ac):p:=h
def ajF(h:p:=by
 rintro e w1 ⟨rfl,q⟩;go_wp2;go_ret;exact⟨rfl,q⟩):p:=h
def ajG(h:p:=by simp only[wK,Ws,hY,aad,wE];omega):p:=h
def ajH(h:p:=by
 go_wp2;go_ret2;exact⟨u,by rw[X HA];rfl⟩):p:=h
def ajI(h:p:=by
 go_wp2;go_ret2;exact⟨T,by rw[X HA];rfl⟩):p:=h
def ajJ(h:p:=by
 have:=(Wt.1 a).1;omega):p:=h
def ajK(h:p:=by
 rw[BM _ _ A A,BM _ _ (by have:=EA h1 h2;omega) A]
 rfl):p:=h
def ajL(h:p:=by
 rw[Wq,Wv hi];exact hfz _ (WJ hi)):p:=h
def ajM(h:p:=by
 split
 .rfl
 rename_i a' k hs;have:=RC hs;exact NT A A A):p:=h
def ajN(h:p:=by
 split
 .rfl
 rename_i a' b hs;have:=RB hs;exact NS A A A):p:=h
def ajO(h:p:=by
 unfold BH;split
 .rw[BD,wX];exact WI (aaU _ _) o
 simp):p:=h
def ajP(h:p:=by
 go_wp2;go_ret;exact⟨u,by rw[X HE];rfl⟩):p:=h
def ajQ(h:p:=by
 go_wp2;go_ret;exact⟨by rw[X HA];rfl,m⟩):p:=h
def ajR(h:p:=by
 go_wp2;go_ret;exact⟨by rw[X HA];rfl,rfl⟩):p:=h
def ajS(h:p:=by intro x hx;obtain⟨i,_,rfl⟩:=wd.1 hx;exact wU _ A):p:=h
def ajT(h:p:=by
 obtain⟨cur3,P⟩:=Ak t hk;exact kinds P a j):p:=h
def ajU(h:p:=by
 obtain⟨i,hi,rfl⟩:=wd.1 he;exact(hf i (wh.1 hi)).2):p:=h
def ajV(h:p:=by subst d;exact kinds hg h.hp h1):p:=h
def ajW(h:p:=by
 rcases Z1 with⟨h,_⟩|h
 .exact absurd h he
 exact h):p:=h
def ajX(h:p:=by
 unfold BH;split
 .rw[BD,wX];exact WI (aaU _ _) S
 simp):p:=h
def ajY(h:p:=by exact⟨0,0,0,A,A,A,rfl,rfl,rfl,⟨rfl,rfl⟩⟩):p:=h
def ajZ(h:p:=by
 go_ret;exact⟨HX.1,_,rfl,by rw[X HT];exact HX.2⟩):p:=h
def aka(h:p:=by
 have:(i+1)*k<=n*k:=aag _ A;rw[acV,aef] at this;omega):p:=h
def akb(h:p:=by
 injection h with h;injection h with h;simp at h;exact h):p:=h
def akc(h:p:=by
 rintro r w' ⟨e,ho⟩;exact⟨ho,.inr ⟨A,e⟩⟩):p:=h
def akd(h:p:=by
 rw[wS] at D;exact .inl (List.append_cancel_right D)):p:=h
def ake(h:p:=by
 by_cases e:j=i
 .subst e;exact hk
 exact HT j h A):p:=h
def akf(h:p:=by
 go_wp2;go_ret;exact⟨by rw[HE];rfl,HO⟩):p:=h
def akg(h:p:=by rw[Wx b];show(⟨#[]⟩:Y).size<=_;omega):p:=h
def akh(h:p:=by
 split
 .rfl
 first|rfl|rw[Wz h]):p:=h
def aki(h:p:=by
 obtain⟨f,a⟩:=Ak y hk;exact d j a e):p:=h
def akj(h:p:=by
 rintro e w' ⟨rfl,hz⟩;exact⟨rfl,g A hz⟩):p:=h
def akk(h:p:=by
 have f1:(s.toList==[48])=decide (s=⟨#[48]⟩):=Fw s _;have HD:C (Ez s=(Cq Cj s&&decide (s.size<=5)&&(decide (s=⟨#[48]⟩)|| !decide (As s 0=48)))):=rfl;generalize Ez s=J1 at*;cases f:Cq Cj s with
 |false=>
  rw[f] at y HD;have d:J1=false:=by rw[X HD];rfl
  subst d;go_in;go_wp2_with fail;apply y.mono;rintro e w1 ⟨rfl,rfl⟩;exact aet
 |true=>
  have hpos:=Vo f;rw[f] at y HD;by_cases h5:s.size<=5
  .have h5I:(s.size:Z)<=5:=A;by_cases h0:s=⟨#[48]⟩
   .rw[Wy h0] at f1;have d:J1=true:=(by rw[X HD,Wy h5,Wy h0];rfl);subst d;clear HD h0 f;go_in;go_wp2_with fail;apply y.mono;rintro e w1 ⟨rfl,rfl⟩;exact aet
   rw[Ww h0] at f1;have hb:=AA (s:=s) (k:=0) hpos;have hposI:(0:Z)<(s.size:Z):=A;by_cases Y3:As s 0=48
   .have d:J1=false:=(by rw[X HD,Wy h5,Ww h0,Wy Y3];rfl);subst d;rw[Y3] at hb;clear HD h0 f Y3;go_in;go_wp2_with fail;apply y.mono;rintro e w1 ⟨rfl,rfl⟩;exact aet
   have d:J1=true:=by rw[X HD,Wy h5,Ww h0,Ww Y3];rfl
   have h48I:¬((As s 0:Z)=48):=A;have h48J:((As s 0:Z) !=48)=true:=by rw[wm];exact h48I
   subst d;clear HD h0 f Y3;generalize As s 0=c at*;go_in;go_wp2_with fail;apply y.mono;rintro e w1 ⟨rfl,rfl⟩;exact aet
  have h5I:¬(s.size:Z)<=5:=A;have d:J1=false:=by rw[X HD,Ww h5];rfl
  subst d;clear HD f;go_in;go_wp2_with fail;apply y.mono;rintro e w1 ⟨rfl,rfl⟩;exact aet):p:=h
def akl(h:p:=by
 go_in;go_wp2_with fail;apply y.mono;rintro e w1 ⟨rfl,rfl⟩;exact aet):p:=h
def akm(h:p:=by
 cases hdg:Cj c with
 |false=>
  have d:J1=false:=by rw[X a,hdg];rfl
  subst d;rw[hdg] at HC;go_wp2_with fail;apply(HC _).mono;rintro e w3 ⟨rfl,rfl⟩;exact aeF
 |true=>
  rw[hdg] at HC;have HA:C (J1= !decide (c=48)):=by unfold C;rw[X a,hdg];rfl
  by_cases Y3:c=48
  .have d:J1=false:=by rw[X HA,Wy Y3];rfl
   subst d;subst Y3;go_wp2_with fail;apply(HC _).mono;rintro e w3 ⟨rfl,rfl⟩;exact aeF
  have d:J1=true:=by rw[X HA,Ww Y3];rfl
  subst d;have h48I:((c:Z) !=48)=true:=by rw[wm];omega
  go_wp2_with fail;apply(HC _).mono;rintro e w3 ⟨rfl,rfl⟩;exact aeF):p:=h
def akn(h:p:=by
 rintro e w1 ⟨rfl,rfl⟩;exact aet):p:=h
def akp(h:p:=by
 go_in;go_wp2_with fail;apply y.mono;rintro e w1 ⟨rfl,rfl⟩;go_wp2_with fail;apply o.mono;rintro e w2 ⟨rfl,rfl⟩;exact aet):p:=h
def akq(h:p:=by
 cases b1 with
 |true=>
  go_in;go_wp2_with fail;apply y.mono;rintro e w' ⟨rfl,rfl⟩;exact aet
 |false=>
  cases b2 with
  |true=>
   go_in;go_wp2_with fail;apply y.mono;rintro e w' ⟨rfl,rfl⟩;go_wp2_with fail;apply o.mono;rintro e w'' ⟨rfl,rfl⟩;exact aet
  |false=>
   go_in;go_wp2_with fail;apply y.mono;rintro e w' ⟨rfl,rfl⟩;go_wp2_with fail;apply o.mono;rintro e w'' ⟨rfl,rfl⟩;go_wp2_with fail;apply H3.mono;rintro e w''' ⟨rfl,rfl⟩;exact aet):p:=h
def akr(h:p:=by
 rintro e w2 ⟨rfl,rfl⟩;exact aet):p:=h
def aks(h:p:=by
 unfold Ci at*;go_in;go_wp2_with fail;apply HC.mono;rintro e w2 ⟨rfl,K5⟩;have HX:=H K5;exact aeX):p:=h
def akt(h:p:=by
 by_cases h49:49<=c
 .have h49I:(49:Z)<=(c:Z):=A;by_cases h57:c<=57
  .have F7:(c:Z)<=57:=A;have d:J1=true:=by rw[X a,Cj,Wy (by omega:48<=c),Wy h57,Ww (by omega:¬c=48)];rfl
   subst d;exact aeF
  exact afN
 have h49I:¬(49:Z)<=(c:Z):=A;have d:J1=false:=aiI;subst d;exact aeF):p:=h
def aku(h:p:=by
 have q:=H (q t w2.drew O1.2.2.2.drew);have u:=H (u t);have j:w2.drew.cell? ⟨b,0,O⟩=J (G M)/\w2.drew.cell? ⟨b,1,O⟩=J (G V)/\w2.drew.cell? ⟨b,2,O⟩=J (G A)/\Am W0 w2.drew:=⟨O1.1,O1.2.1,O1.2.2.1,O1.2.2.2.drew⟩;exact aep):p:=h
def akv(h:p:=by
 generalize As s i=c at*;go_wp2_with fail;apply o.mono;rintro e w1 ⟨rfl,rfl⟩;go_wp2_with fail;apply b.mono;rintro e w2 ⟨rfl,rfl⟩;exact afe):p:=h
def akw(h:p:=by
 intro c w D;unfold Ip;by_cases h1:97<=c
 .have h1I:(97:Z)<=(c:Z):=A;by_cases h2:c<=122
  .have h2I:(c:Z)<=122:=A;rw[Wy h1,Wy h2];go_in;exact aet
  have h2I:¬(c:Z)<=122:=A;rw[Wy h1,Ww h2];go_in;exact aet
 have h1I:¬(97:Z)<=(c:Z):=A;rw[Ww h1];go_in;exact aet):p:=h
def akx(h:p:=by
 intro c w D;unfold Cj;by_cases h1:48<=c
 .have h1I:(48:Z)<=(c:Z):=A;by_cases h2:c<=57
  .have h2I:(c:Z)<=57:=A;rw[Wy h1,Wy h2];go_in;exact aet
  have h2I:¬(c:Z)<=57:=A;rw[Wy h1,Ww h2];go_in;exact aet
 have h1I:¬(48:Z)<=(c:Z):=A;rw[Ww h1];go_in;exact aet):p:=h
def aky(h:p:=by
 rw[b] at HE;have p :C (∀j (h:j<L.length),j<i+1->Ez L[j]=true):=afC;clear b;generalize L[i]=z at*;go_wp2_with fail;refine HE.mono ?_;rintro e w' ⟨rfl,rfl⟩;clear HE;exact afk):p:=h
def akz(h:p:=by
 rintro e w1 ⟨rfl,rfl⟩;go_wp2;exact aez):p:=h
def akA(h:p:=by
 clear h d h0 u;unfold Ci at*;go_in;go_wp2_with fail;apply HC.mono;rintro e w2 ⟨rfl,K5⟩;have HX:=H K5;clear K5 HC;exact aeX):p:=h
def akB(h:p:=by
 have a:¬(i:Z)<s.size:=A;have HR:=H (c (λj hj=>g j A));have hte:=DH s;clear HB c D g;exact agm):p:=h
def akC(h:p:=by
 subst d;clear b;generalize L[i]=z at*;go_wp2_with fail;refine HE.mono ?_;rintro e w' ⟨rfl,rfl⟩;clear HE;exact aga):p:=h
def akD(h:p:=by
 obtain⟨⟨_,⟨rfl,hz⟩|⟨b',c',f,rfl,_⟩⟩,_⟩:=t
 .exact afx
 exact⟨_,_,rfl⟩):p:=h
def akE(h:p:=by
 rw[hp] at HC;have HR:=H (HB i R hp);exact afc):p:=h
def akF(h:p:=by
 have d:=b (by rw[X a,j];rfl);subst d;clear a b p j hz;exact afh):p:=h
def akG(h:p:=by
 obtain⟨_,⟨rfl,hz⟩|⟨g,cap,J0,rfl,_⟩⟩:=t
 .exact afx
 exact⟨_,_,rfl⟩):p:=h
def akH(h:p:=by
 go_in;go_wp2;exact aez):p:=h
def akI(h:p:=by
 go_in;go_wp2_with fail;apply y.mono;rintro e w' ⟨k,rfl,hk,rfl⟩;exact aet):p:=h
def akJ(h:p:=by
 go_in;go_wp2_with fail;apply H.mono;rintro r w1 ⟨rfl,rfl⟩;exact aet):p:=h
def akK(h:p:=by
 rw[hp] at HC;have HR:=H (HB i R hp);clear hp HB c D;exact afc):p:=h
def akL(h:p:=by
 split at h
 .cases h
 split at h
 .cases h
 split at h
 .cases h
 exact ahp):p:=h
def akM(h:p:=by
 rintro e w1 ⟨rfl,q⟩;have u:=H (Ag.trans d q);exact ago):p:=h
def akN(h:p:=by
 have hbi:uptoBulk (D i)<=1048576:=agn;exact⟨e,b,A,A⟩):p:=h
def akO(h:p:=by
 rintro e w1 ⟨rfl,rfl⟩;exact afR):p:=h
def akP(h:p:=by
 rw[d];clear d;go_in;exact afb):p:=h
def act(h:p:=by rw[WA];omega):p:=h
def ako(h:p:=by simp;omega):p:=h
def akQ(h:p:=by rw[wm];omega):p:=h
def akR(h:p:=by rw[wZ];omega):p:=h
def akS(h:p:=by rw[WM];omega):p:=h
def akT(h:p:=by rw[aam];omega):p:=h
def akU(h:p:=by cases h):p:=h
def akV(h:p:=by rw[WC];omega):p:=h
def akW(h:p:=by simpa using h):p:=h
def akX(h:p:=by omega):p:=h
def akY(h:p:=by rw[hY];omega):p:=h
def akZ(h:p:=by rw[aaB];omega):p:=h
def ala(h:p:=by rw[AG];omega):p:=h
def alb(h:p:=by rw[abM];omega):p:=h
def alc(h:p:=by simp only[FI];omega):p:=h
def ald(h:p:=by rw[AG,BA]):p:=h
def ale(h:p:=by simp only[WG]):p:=h
def alf(h:p:=by rw[WM,FX];omega):p:=h
def alg(h:p:=by rw[aax,wY];rfl):p:=h
def alh(h:p:=by rw[BU];omega):p:=h
def ali(h:p:=by simp[Al]):p:=h
def alj(h:p:=by intro _ hu;simp at hu;subst hu;rfl):p:=h
def alk(h:p:=by intro u hu;simp at hu;subst hu;rfl):p:=h
def alm(h:p:=by rw[Bi];omega):p:=h
def aln(h:p:=by rw[DS];omega):p:=h
def alo(h:p:=by rw[h0];simp):p:=h
def alp(h:p:=by rw[wY];rfl):p:=h
def alq(h:p:=by rw[aaA,wY];rfl):p:=h
def alr(h:p:=by rw[Ws];simp;omega):p:=h
def als(h:p:=by rw[Bn];omega):p:=h
def alt(h:p:=by assumption):p:=h
def alu(h:p:=by intro a2 hu;simp at hu;subst hu;rfl):p:=h
def alv(h:p:=by intro a7 hu;simp at hu;subst hu;rfl):p:=h
def alw(h:p:=by rw[KJ];omega):p:=h
def alx(h:p:=by rw[aaX A];omega):p:=h
def aly(h:p:=by split;exact GP _ _;omega):p:=h
def alz(h:p:=by rw[aba,<-WG];simp[Av]):p:=h
def alA(h:p:=by simp only[WP];omega):p:=h
def alB(h:p:=by intro g1 hu;simp at hu;subst hu;rfl):p:=h
def alC(h:p:=by unfold BK;repeat (first|split|omega)):p:=h
def alD(h:p:=by unfold Fm;rw[h];rfl):p:=h
def alE(h:p:=by rw[WA];exact h0):p:=h
def alF(h:p:=by rw[Ci];exact WF _):p:=h
def alG(h:p:=by unfold AM;repeat (first|split|omega)):p:=h
def alH(h:p:=by rcases h with h|h;cases h;exact h):p:=h
def alI(h:p:=by intro e3 hu;simp at hu;subst hu;rfl):p:=h
def alJ(h:p:=by intro _ hu;simp at hu;rcases hu with rfl|rfl<;>rfl):p:=h
def alK(h:p:=by unfold BN;simp only[Ws,Fe];omega):p:=h
def alL(h:p:=by intro b1 hu;simp at hu;rcases hu with rfl|rfl|rfl|rfl|rfl<;>rfl):p:=h
def alM(h:p:=by rw[AG];simp[endL,AJ,BA,Dd];decide):p:=h
end
def AU{a c:M}(h:a=c):Ending.returned a=ε c:=by rw[h]
def EY{a b c d:M}(h:a=c)(k:b=d):Ending.returned (.tuple #[a,b])=ε (.tuple #[c,d]):=by rw[h,k]
def H(h:p):C p:=h
def Af(h:p):C p:=h
def X(h:C p):p:=h
def uh(h:C p):p:=h
def IH(a:N)(b:a<9223372036854775808):(BitVec.ofInt 64 (a:Z)).toNat=a:=ofInt_u64 a A
def Aw(a:N)(b:a<9223372036854775808):IntKind.i64.wrap (a:Z)=a:=akR
def BM(a b:N)(c:a<9223372036854775808)(d:b<9223372036854775808):bits .xor Q (a:Z) (b:Z)=((a^^^b:N):Z):=by
 have:a^^^b<2^63:=abZ A A;show IntKind.i64.wrap ((BitVec.ofInt 64 (a:Z)^^^BitVec.ofInt 64 (b:Z)).toNat:Z)=_;rw[adV,IH a c,IH b d,Aw _ A]
def Ry(a b:N)(c:a<9223372036854775808)(d:b<9223372036854775808):bits .or Q (a:Z) (b:Z)=((a|||b:N):Z):=by
 have:a|||b<2^63:=adj A A
 show IntKind.i64.wrap ((BitVec.ofInt 64 (a:Z)|||BitVec.ofInt 64 (b:Z)).toNat:Z)=_;rw[BitVec.toNat_or,IH a c,IH b d,Aw _ A]
def DZ(a b:N)(c:a<9223372036854775808)(d:b<9223372036854775808):bits .and Q (a:Z) (b:Z)=((a&&&b:N):Z):=by
 have:a&&&b<=a:=Nat.and_le_left;show IntKind.i64.wrap ((BitVec.ofInt 64 (a:Z)&&&BitVec.ofInt 64 (b:Z)).toNat:Z)=_;rw[BitVec.toNat_and,IH a c,IH b d,Aw _ A]
def EA{a b:N}(c:a<4294967296)(d:b<4294967296):a^^^b<4294967296:=abZ (n:=32) c d
def lC{a b:N}(c:a<4294967296)(d:b<4294967296):a|||b<4294967296:=adj (n:=32) c d
def GO{a:N}(b:N)(c:a<4294967296):a&&&b<4294967296:=aaY Nat.and_le_left c
def Iy(v:N):N:=if v%2=1 then(v/2)^^^3988292384 else v/2
def FB:N->N->N
 |0,v=>v
 |n+1,v=>FB n<|Iy v
def Jc(h:v<4294967296):Iy v<4294967296:=by
 unfold Iy;split
 .exact EA A A
 omega
def bO(n:N):∀{v:N},v<4294967296->FB n v<4294967296:=by
 induction n with
 |zero=>intro v h;exact h
 |succ n a=>intro v h;exact a<|Jc h
def PW(h:v%2=1):Iy v=(v/2)^^^3988292384:=Wz h
def NQ(h:¬v%2=1):Iy v=v/2:=Wx h
def fy(v:N)(b:υ):N:=FB 8<|v^^^b.toNat
def MW(l:E υ):N:=l.foldl fy 4294967295
def Rz(l:E υ)(b:υ):MW (l++[b])=fy (MW l) b:=by simp[MW]
def BJ(s:Y):N:=4294967295-MW s.data.toList
def FG(s:Y):BJ s<4294967296:=by unfold BJ;omega
def Uj(s:Y)(k:N)(h:k<s.size):s.data.toList.take (k+1)=s.data.toList.take k++[s[k]]:=by
 rw[acp akW];rfl
def Yh(s:Y)(k:N)(h:¬k<s.size):s.data.toList.take k=s.data.toList:=wv ako
def GN(b:υ):b.toNat<256:=b.toNat_lt
def fA(a:u<4294967296):bits .and σ (u:Z) 1=((u%2:N):Z):=by
 have:=acE u 1 a A;rw[nat_mask1] at this;exact this
def qI(a:u<4294967296)(h:(bits .and σ (u:Z) 1==1)=true):u%2=1:=by
 rw[fA a] at h;simp at h;omega
def lD(a:u<4294967296)(h:(bits .and σ (u:Z) 1==1)=false):¬u%2=1:=by
 rw[fA a] at h;simp at h;omega
def lE(a:u<4294967296):bits .xor σ ((u:Z)/2) 3988292384=((u/2^^^3988292384:N):Z):=by
 have:=abP (u/2) 3988292384 A A;rw[aax] at this;exact this
def lF(a:u<4294967296):4294967295^^^u=4294967295-u:=by
 have h:=hJ BitVec.toNat<|BitVec.allOnes_xor (w:=32) (x:=BitVec.ofNat 32 u);rw[adV,BitVec.toNat_allOnes,BitVec.toNat_not,BitVec.toNat_ofNat,abV A] at h;exact h
def fB(a:u<4294967296):bits .xor σ IntKind.u32.max (u:Z)=((4294967295-u:N):Z):=by
 have:=abP 4294967295 u A a;rw[lF a] at this;exact this
def lG(a:u<4294967296):bits .xor Q (u:Z) 3988292384=((u^^^3988292384:N):Z):=BM u 3988292384 A A
open Go.RowKit Go.Maps Go.Proofs.Tryz
def Ek(w n:N):N:=w/2^n|||w*2^(32-n)%4294967296
def Bl{w:N}(n:N)(h:w<4294967296):Ek w n<4294967296:=lC (aaY (ace _ _) h)<|wU _ A
def bP(a:N)(h:a<9223372036854775808):wrap64 (a:Z)=a:=by rw[<-IntWalk.i64_left];exact Aw a h
def uC(a:v<4294967296)(b:1<=n):v*2^(32-n)<9223372036854775808:=by
 have h:2^(32-n)<=2^31:=wg A A
 calc v*2^(32-n)<=v*2^31:=acv _ h
  _<9223372036854775808:=A
def iq(a:v<4294967296)(b:1<=n):bits BinOp.or IntKind.i64 ((v:Z)/2^n) ((wrap64 ((v:Z)*2^(32-n))).tmod 4294967296)=(Ek v n:Z):=by
 have c:=uC a b;have b:(v:Z)*2^(32-n)=((v*2^(32-n):N):Z):=by push_cast;rfl
 have d:(v:Z)/2^n=((v/2^n:N):Z):=by push_cast;rfl
 have e:((v*2^(32-n):N):Z).tmod 4294967296=((v*2^(32-n)%4294967296:N):Z):=alx
 have:v/2^n<4294967296:=aaY (ace _ _) a;have:v*2^(32-n)%4294967296<4294967296:=wU _ A;rw[b,bP _ c,d,e,Ry _ _ A A]
 rfl
def Al(bs:E υ):E M:=bs.map λb=> I τ b.toNat
def bQ(ns:E υ):∀s:Y,(ns.map λb=>((b.toNat:N):Z)).foldl (λr n=>r.push<|UInt8.ofNat n.toNat) s=⟨(s.data.toList++ns).toArray⟩:=by
 induction ns with
 |nil=>intro s;simp
 |cons b r a=>
  intro s;simp only[aai,acf];rw[a];simp[ByteArray.push]
def EZ{P:Program}(w:U)(d f e:ν)(a:Addr)(c:N)(bs:E υ)(h:P.underlying d=J (.slice e))(i:P.underlying e=J (.int τ))(k:P.underlying f=J .string)
 (l:∀j v,(Al bs)[j]? =J v->w.cell? (a.add j)=J v):
 (convert d f<|K (J a) bs.length c).run P w=.ok (G ⟨bs.toArray⟩) w:=by
 have g:=aca (P:=P) w a (Al bs) l;have l:Al bs=(bs.map λb=>((b.toNat:N):Z)).map (Value.int τ):=ali
 have m:(Al bs).length=bs.length:=ali
 rw[m,l] at g;rw[run_convert_bytes_string w d f e (J a) bs.length c h i k,run_bytesToString w a bs.length c _ g,bQ]
 rfl
def b8(n:N):υ:=UInt8.ofNat n
def AN(h:n<256):(b8 n).toNat=n:=by simp[b8,UInt8.toNat_ofNat'];omega
def Uk(n:N):E υ:=[b8<|n/16777216%256,b8<|n/65536%256,b8<|n/256%256,b8<|n%256]
def tK(a:N):N:=(Ek a 7^^^Ek a 18)^^^a/8
def tM(a:N):N:=(Ek a 17^^^Ek a 19)^^^a/1024
def qJ(a:N):N:=(Ek a 2^^^Ek a 13)^^^Ek a 22
def lH(a:N):N:=(Ek a 6^^^Ek a 11)^^^Ek a 25
def ir(e f g:N):N:=(e&&&f)^^^((4294967295-e)&&&g)
def lI(a b c:N):N:=((a&&&b)^^^(a&&&c))^^^(b&&&c)
def lJ{a:N}(h:a<4294967296):tK a<4294967296:=EA (EA (Bl _ h)<|Bl _ h) A
def lK{a:N}(h:a<4294967296):tM a<4294967296:=EA (EA (Bl _ h)<|Bl _ h) A
def lL{a:N}(h:a<4294967296):qJ a<4294967296:=EA (EA (Bl _ h)<|Bl _ h)<|Bl _ h
def lM{a:N}(h:a<4294967296):lH a<4294967296:=EA (EA (Bl _ h)<|Bl _ h)<|Bl _ h
def lN{e f g:N}(h:e<4294967296):ir e f g<4294967296:=EA (GO _ h)<|GO _ A
def lO{a b c:N}(h:a<4294967296)(d:b<4294967296):lI a b c<4294967296:=EA (EA (GO _ h)<|GO _ h)<|GO _ d
def As(s:Y)(k:N):N:=if h:k<s.size then s[k].toNat else 0
def Bj(s:Y)(k:N):As s k<256:=by unfold As;split;exact GN _;omega
def AA(h:k<s.size):s[k].toNat=As s k:=by unfold As;rw[abB h]
def De{a b:N}(h:a+k<b)(c:b<=s.size):As (s.extract a b) k=As s (a+k):=by
 have c:k<(s.extract a b).size:=akS
 unfold As;rw[abB c,abB (show a+k<s.size by omega),ByteArray.getElem_extract]
def lP(s:Y)(k:N):N:=As s k*16777216+As s (k+1)*65536+As s (k+2)*256+As s (k+3)
def uD(s:Y)(k:N):lP s k<4294967296:=by
 have:=Bj s k;have:=Bj s<|k+1;have:=Bj s<|k+2;have:=Bj s<|k+3;unfold lP;omega
def Lr(s:Y):N->E N
 |0=>[]
 |t+1=>Lr s t++[if t<16 then lP s (4*t) else(tM ((Lr s t).getD (t-2) 0)+(Lr s t).getD (t-7) 0+tK ((Lr s t).getD (t-15) 0)+(Lr s t).getD (t-16) 0)%4294967296]
def Kr(s:Y)(t:N):(Lr s t).length=t:=by
 induction t with
 |zero=>rfl
 |succ t a=>simp[Lr,a]
def wt(s:Y)(t:N):N:=(Lr s<|t+1).getD t 0
def Mp(s:Y)(n j:N)(h:j<n):(Lr s n).getD j 0=wt s j:=by
 induction n with
 |zero=>omega
 |succ n a=>
  by_cases e:j=n
  .subst e;rfl
  rw[Lr,Wq,WW (by rw[Kr];omega),<-Wq];exact a A
def bR(s:Y)(t:N)(h:t<16):wt s t=lP s (4*t):=by
 unfold wt;rw[Lr,Wq,WU (by rw[Kr];omega),Kr];simp[h]
def VK(s:Y)(t:N)(h:16<=t):wt s t=(tM (wt s<|t-2)+wt s (t-7)+tK (wt s<|t-15)+wt s (t-16))%4294967296:=by
 conv=>lhs;unfold wt
 rw[Lr,Wq,WU (by rw[Kr];omega),Kr];simp only[abJ,List.getElem?_cons_zero,aaH];rw[Wx A,Mp _ _ _ A,Mp _ _ _ A,Mp _ _ _ A,Mp _ _ _ A]
def MX(s:Y)(t:N):wt s t<4294967296:=by
 by_cases h:t<16
 .rw[bR s t h];exact uD _ _
 rw[VK s t A];exact wU _ A
structure E8 where
 a:N
 b:N
 c:N
 d:N
 e:N
 f:N
 g:N
 h:N
def E8.ok(x:E8):Prop:=x.a<4294967296/\x.b<4294967296/\x.c<4294967296/\x.d<4294967296/\x.e<4294967296/\x.f<4294967296/\x.g<4294967296/\x.h<4294967296
def E8.xx(x:E8)(k w:N):N:=x.h+lH x.e+ir x.e x.f x.g+k+w
def E8.yy(x:E8):N:=qJ x.a+lI x.a x.b x.c
def E8.round(x:E8)(k w:N):E8:=⟨(x.xx k w+x.yy)%4294967296,x.a,x.b,x.c,(x.d+x.xx k w)%4294967296,x.e,x.f,x.g⟩
def Cr(kf wf:N->N):N->E8->E8
 |0,x=>x
 |t+1,x=>(Cr kf wf t x).round (kf t)<|wf t
def E8.round_ok{x:E8}(h:x.ok)(k w:N):(x.round k w).ok:=⟨wU _ A,h.1,h.2.1,h.2.2.1,wU _ A,h.2.2.2.2.1,h.2.2.2.2.2.1,h.2.2.2.2.2.2.1⟩
def OS(a b:N->N)(t:N){x:E8}(h:x.ok):(Cr a b t x).ok:=by
 induction t with
 |zero=>exact h
 |succ t c=>exact E8.round_ok c _ _
def E8.plus(x y:E8):E8:=⟨(x.a+y.a)%4294967296,(x.b+y.b)%4294967296,(x.c+y.c)%4294967296,(x.d+y.d)%4294967296,(x.e+y.e)%4294967296,(x.f+y.f)%4294967296,(x.g+y.g)%4294967296,(x.h+y.h)%4294967296⟩
def E8.plus_ok(x y:E8):(x.plus y).ok:=⟨wU _ A,wU _ A,wU _ A,wU _ A,wU _ A,wU _ A,wU _ A,wU _ A⟩
def PX(kf:N->N)(x:E8)(s:Y):E8:=(Cr kf (wt s) 64 x).plus x
def lQ(a:N->N)(x:E8)(s:Y):(PX a x s).ok:=E8.plus_ok _ _
def E8.nth(x:E8):N->N
 |0=>x.a
 |1=>x.b
 |2=>x.c
 |3=>x.d
 |4=>x.e
 |5=>x.f
 |6=>x.g
 |_=>x.h
def E8.nth_lt{x:E8}(h:x.ok)(j:N):x.nth j<4294967296:=by
 obtain⟨h0,a,b,c,d,e,f,g⟩:=h
 match j with
 |0=>exact h0
 |1=>exact a
 |2=>exact b
 |3=>exact c
 |4=>exact d
 |5=>exact e
 |6=>exact f
 |_+7=>exact g
def E8.plus_nth(x y:E8)(j:N):(x.plus y).nth j=(x.nth j+y.nth j)%4294967296:=by
 match j with
 |0=>rfl
 |1=>rfl
 |2=>rfl
 |3=>rfl
 |4=>rfl
 |5=>rfl
 |6=>rfl
 |_+7=>rfl
def E8.cells_get(x:E8)(g:N->M)(j:N)(h:j<8):(#[g x.a,g x.b,g x.c,g x.d,g x.e,g x.f,g x.g,g x.h]:φ M)[j]? =J (g<|x.nth j):=by
 match j with
 |0=>rfl
 |1=>rfl
 |2=>rfl
 |3=>rfl
 |4=>rfl
 |5=>rfl
 |6=>rfl
 |7=>rfl
 |_+8=>omega
def yr{a:N}(h:a<4294967296):bits BinOp.xor IntKind.i64 (bits BinOp.xor IntKind.i64 (Ek a 7)<|Ek a 18) ((a:Z)/8)=(tK a:Z):=by
 have b:=Bl 7 h;have c:=Bl 18 h;rw[BM _ _ A A];exact BM _ (a/8) (by have:=EA b c;omega) A
def yt{a:N}(h:a<4294967296):bits BinOp.xor IntKind.i64 (bits BinOp.xor IntKind.i64 (Ek a 17)<|Ek a 19) ((a:Z)/1024)=(tM a:Z):=by
 have b:=Bl 17 h;have c:=Bl 19 h;rw[BM _ _ A A];exact BM _ (a/1024) (by have:=EA b c;omega) A
def yu{a:N}(h:a<4294967296):bits BinOp.xor IntKind.i64 (bits BinOp.xor IntKind.i64 (Ek a 2)<|Ek a 13) (Ek a 22)=(qJ a:Z):=by
 have h1:=Bl 2 h;have h2:=Bl 13 h;have:=Bl 22 h;exact ajK
def yv{a:N}(h:a<4294967296):bits BinOp.xor IntKind.i64 (bits BinOp.xor IntKind.i64 (Ek a 6)<|Ek a 11) (Ek a 25)=(lH a:Z):=by
 have h1:=Bl 6 h;have h2:=Bl 11 h;have:=Bl 25 h;exact ajK
def yx{e f g:N}(a:e<4294967296)(b:f<4294967296)(c:g<4294967296):
 bits BinOp.xor IntKind.i64 (bits BinOp.and IntKind.i64 e f) (bits BinOp.and IntKind.i64 (4294967295-(e:Z)) g)=(ir e f g:Z):=by
 have b:(4294967295-(e:Z))=((4294967295-e:N):Z):=A;have:=GO f a;have:=GO g (show 4294967295-e<4294967296 by omega);rw[b,DZ _ _ A A,DZ _ _ A A,BM _ _ A A]
 rfl
def yz{a b c:N}(d:a<4294967296)(e:b<4294967296)(f:c<4294967296):
 bits BinOp.xor IntKind.i64 (bits BinOp.xor IntKind.i64 (bits BinOp.and IntKind.i64 a b)<|bits BinOp.and IntKind.i64 a c) (bits BinOp.and IntKind.i64 b c)=(lI a b c:Z):=by
 have f:=GO b d;have g:=GO c d;have:=GO c e;have:=EA f g;rw[DZ _ _ A A,DZ _ _ A A,DZ _ _ A A,BM _ _ A A,BM _ _ A A]
 rfl
def AV(s:Y)(i:N):N:=As s (i/8)/2^(i%8)%2
def GP(s:Y)(i:N):AV s i<2:=wU _ A
def Ar(s:Y)(a:N):N->N
 |0=>0
 |n+1=>Ar s a n+AV s (a+n)*2^n
def Cv(s:Y)(a n:N):Ar s a n<2^n:=by
 induction n with
 |zero=>exact adG
 |succ n b=>
  have:=GP s<|a+n;have:AV s (a+n)*2^n<=1*2^n:=aag _ A;rw[Ar,abj];omega
def OT(s:Y)(a m n:N):Ar s a (m+n)=Ar s a m+Ar s (a+m) n*2^m:=by
 induction n with
 |zero=>simp[Ar]
 |succ n b=>rw[<-aap,Ar,Ar,b,acV,aap a m n,adp,<-acm,acb n m];omega
def iu(s:Y)(a:N):Ar s a 1=AV s a:=by simp[Ar]
def Cs(L:E N)(n:N):E N:=(List.range L.length).filter λi=>L.getD i 0==n
def AO(L:E N):N->N
 |0=>0
 |n+1=>2*(AO L n+if n=0 then 0 else(Cs L n).length)
def RA(L:E N)(n:N):(Cs L n).length<=L.length:=by
 unfold Cs;exact WI (aaU _ _) Ad
def Mq(L:E N)(n:N):AO L n+2*L.length<=2^(n+1)*L.length:=by
 induction n with
 |zero=>rw[AO];omega
 |succ n a=>
  rw[AO,abj];have:=RA L n;have:(if n=0 then 0 else(Cs L n).length)<=L.length:=by split<;>omega
  have:2^(n+1)*2*L.length=2*(2^(n+1)*L.length):=by rw[abg (2^(n+1)) 2,adp]
  omega
def EB(s:Y)(L:E N):N->N->N->Option (N×N)
 |0,_,_=>O
 |k+1,v,a=>
  if a<8*s.size then
   if AO L (15-k)<=2*v+AV s a/\2*v+AV s a<AO L (15-k)+(Cs L<|15-k).length then J ((Cs L<|15-k).getD (2*v+AV s a-AO L (15-k)) 0,a+1)
   else EB s L k (2*v+AV s a) (a+1)
  else O
def dec(s:Y)(L:E N)(a:N):Option<|N×N:=EB s L 15 0 a
def Yi:∀{k v a y a':N},EB s L k v a=J (y,a')->a<a'/\a'<=8*s.size/\y<L.length
 |0,v,a,y,a',h=>akU
 |k+1,v,a,y,a',h=>by
  rw[EB] at h;split at h
  .split at h
   .rename_i b c;injection h with h;injection h with c d;refine⟨A,A,?_⟩;have b:y∈Cs L (15-k):=by
     rw[<-c,Wq,Wv A,aaH];exact WJ _
    unfold Cs at b;exact wh.1 (aaZ.1 b).1
   have:=Yi h;omega
  cases h
def Ih{a:N}(h:dec s L a=J (y,a')):a<a'/\a'<=8*s.size/\y<L.length:=Yi h
def AM(y:N):N:=if y<=264 then 0 else if y=285 then 0 else(y-261)/4
def Bg(y:N):N:=if y<=264 then y-254 else if y=285 then 258 else 3+2^((y-261)/4)*(4+(y-261)%4)
def Bb(d:N):N:=if d<4 then 0 else d/2-1
def AY(d:N):N:=if d<4 then d+1 else 1+2^(d/2-1)*(2+d%2)
def Cc(o:E υ)(J5:N):N->E υ
 |0=>o
 |n+1=>Cc o J5 n++[(Cc o J5 n).getD ((Cc o J5 n).length-J5) 0]
def Mr(o:E υ)(a n:N):(Cc o a n).length=o.length+n:=by
 induction n with
 |zero=>rfl
 |succ n b=>rw[Cc,Ws,b];rfl
abbrev iv:=(N×E υ) ⊕ N
abbrev Hv:=iv ⊕ (N×E υ)
def FP(s:Y)(D:E N)(y a1:N)(o:E υ):Hv:=
 if 8*s.size<a1+AM y then .inl (.inr 2)
 else match dec s D (a1+AM y) with
  |none=> .inl (.inr 2)
  |some (d,a3)=>
   if 29<d then .inl (.inr 2)
   else if 8*s.size<a3+Bb d then .inl (.inr 2)
   else if o.length<AY d+Ar s a3 (Bb d) then .inl (.inr 2)
   else if 20000<o.length+(Bg y+Ar s a1 (AM y)) then .inl (.inr 1)
   else .inr ((a3+Bb d),(Cc o (AY d+Ar s a3 (Bb d))<|Bg y+Ar s a1 (AM y)))
def Fk(s:Y)(L D:E N)(a:N)(o:E υ):Hv:=
 match dec s L a with
 |none=> .inl (.inr 2)
 |some (y,a1)=>
  if y=256 then .inl (.inl (a1,o))
  else if y<256 then(if 20000<=o.length then .inl (.inr 1) else .inr (a1,(o++[b8 y])))
  else if 285<y then .inl (.inr 2)
  else FP s D y a1 o
def lR{a1:N}{o:E υ}{a :E υ}(h:FP s D y a1 o=.inr (a',a)):a1<a'/\a'<=8*s.size:=by
 unfold FP at h;split at h
 .cases h
 split at h
 .cases h
 rename_i d b a;have:=Ih a;exact akL
def RB{a:N}{o:E υ}{b :E υ}(h:Fk s L D a o=.inr (a',b)):a<a'/\a'<=8*s.size:=by
 unfold Fk at h;split at h
 .cases h
 rename_i y c b;have:=Ih b;split at h
 .cases h
 split at h
 .exact ahp
 split at h
 .cases h
 have:=lR h;omega
def NR(s:Y)(L D:E N):N->N->E υ->iv
 |0,_,_=> .inr 2
 |f+1,a,o=>match Fk s L D a o with
  | .inl r=>r
  | .inr (a',o')=>NR s L D f a' o'
def NS:∀{f c a:N} {o:E υ},8*s.size<a+f->8*s.size<a+c ->a<=8*s.size->NR s L D f a o=NR s L D c a o
 |0,_,a,o,h,_,d=>akX
 |_+1,0,a,o,_,h,d=>akX
 |f+1,c +1,a,o,_,_,d=>by
  rw[NR,NR];exact ajN
def Gb(s:Y)(L D:E N)(a:N)(o:E υ):iv:=NR s L D (8*s.size+1) a o
def Ms{a:N}{o:E υ}:Gb s L D a o=match Fk s L D a o with| .inl r=>r| .inr (a',b)=>Gb s L D a' b :=by
 rw[Gb,NR];exact ajN
def LA(s:Y)(b n:N):E υ:=(List.range n).map λi=>b8<|As s (b+i)
def Yj(s:Y)(b n:N):(LA s b n).length=n:=by simp[LA]
def iw(s:Y)(b n:N):LA s b (n+1)=LA s b n++[b8<|As s (b+n)]:=by simp[LA,aaS]
def Ck(a:N):N:=(a+7)/8*8
def Iz(s:Y)(a:N)(o:E υ):iv:=
 if 8*s.size<Ck a+32 then .inr 2
 else if Ar s (Ck a) 16+Ar s (Ck a+16) 16≠65535 then .inr 2
 else if 20000<o.length+Ar s (Ck a) 16 then .inr 1
 else if 8*s.size<Ck a+32+8*Ar s (Ck a) 16 then .inr 2
 else .inl ((Ck a+32+8*Ar s (Ck a) 16),(o++LA s (Ck a/8+4) (Ar s (Ck a) 16)))
def JV(L:E N):N:=(L.map λl=>if l=0 then 0 else 2^(15-l)).sum
def Gc(L:E N):N:=(L.filter λl=>l !=0).length
def Fa(L:E N):Bool:=JV L==32768
def IA(L:E N):Bool:=JV L==32768||Gc L==0||(Gc L==1&&JV L==16384)
def Bh(y:N):N:=if y=16 then 2 else if y=17 then 3 else if y=18 then 7 else 0
def BK(y:N):N:=if y=16 then 3 else if y=17 then 3 else if y=18 then 11 else 1
def Gd(y:N)(l:E N):N:=if y=16 then l.getD (l.length-1) 0 else if 15<y then 0 else y
def CW(s:Y)(C:E N)(many a:N)(l:E N):Option<|N×E N:=
 match dec s C a with
 |none=>O
 |some (y,a1)=>
  if y=16/\l.length=0 then O
  else if 8*s.size<a1+Bh y then O
  else if many<l.length+(BK y+Ar s a1 (Bh y)) then O
  else J (a1+Bh y,l++List.replicate (BK y+Ar s a1 (Bh y)) (Gd y l))
def RC{C:E N}{a:N}{b :E N}(h:CW s C many a l=J (a',b)):a<a'/\a'<=8*s.size/\l.length<b.length/\b.length<=many:=by
 unfold CW at h;split at h
 .cases h
 rename_i y c b;have:=Ih b;split at h
 .cases h
 split at h
 .cases h
 split at h
 .cases h
 injection h with h;injection h with d b;have:0<BK y:=by unfold BK;repeat (first|split|omega)
 rw[<-b,Ws,wA];omega
def MY(s:Y)(C:E N)(many:N):N->N->E N->Option (N×E N)
 |0,_,_=>O
 |f+1,a,l=>if l.length<many then(match CW s C many a l with
  |none=>O
  |some (a',l')=>MY s C many f a' l') else J (a,l)
def NT{C:E N}:∀{f b a:N} {l:E N},many<l.length+f->many<l.length+b ->l.length<=many->MY s C many f a l=MY s C many b a l
 |0,_,a,l,h,_,c=>akX
 |_+1,0,a,l,_,h,c=>akX
 |f+1,b +1,a,l,_,_,c=>by
  rw[MY,MY];split
  .exact ajM
  rfl
def Jd(s:Y)(C:E N)(many a:N)(l:E N):Option<|N×E N:=MY s C many (many+1) a l
def Cp{C:E N}{a:N}(h:l.length<many):Jd s C many a l=match CW s C many a l with|none=>O|some (a',k)=>Jd s C many a' k :=by
 rw[Jd,MY,Wz h];exact ajM
def Ul{C:E N}{a:N}(h:¬l.length<many):Jd s C many a l=J (a,l):=by
 rw[Jd,MY,Wx h]
def CT:E N:=[16,17,18,0,8,7,9,6,10,5,11,4,12,3,13,2,14,1,15]
def Ii(s:Y)(a:N):N->E N
 |0=>List.replicate 19 0
 |k+1=>(Ii s a k).set (CT.getD k 0)<|Ar s (a+3*k) 3
def Je(s:Y)(a k:N):(Ii s a k).length=19:=by
 induction k with
 |zero=>rfl
 |succ k b=>rw[Ii,wk,b]
def CC(s:Y)(a:N):Option<|N×E N×E N:=
 if 8*s.size<a+14 then O
 else if 286<257+Ar s a 5\/30<1+Ar s (a+5) 5 then O
 else if 8*s.size<a+14+3*(4+Ar s (a+10) 4) then O
 else if Fa (Ii s (a+14)<|4+Ar s (a+10) 4)=false then O
 else match Jd s (Ii s (a+14)<|4+Ar s (a+10) 4) (257+Ar s a 5+(1+Ar s (a+5) 5)) (a+14+3*(4+Ar s (a+10) 4)) [] with
  |none=>O
  |some (a',l)=>
   if Fa (l.take<|257+Ar s a 5)=true/\IA (l.drop<|257+Ar s a 5)=true/\l.getD 256 0≠0 then J (a',l.take<|257+Ar s a 5,l.drop<|257+Ar s a 5) else O
def CF:E N:=List.replicate 144 8++List.replicate 112 9++List.replicate 24 7++List.replicate 8 8
def CX:E N:=List.replicate 32 5
def Fm(s:Y)(a:N)(o:E υ):iv:=
 match Ar s (a+1) 2 with
 |0=>Iz s (a+3) o
 |1=>Gb s CF CX (a+3) o
 |2=>match CC s (a+3) with
  |none=> .inr 2
  |some (a',L,D)=>Gb s L D a' o
 |_=> .inr 2
def EI(s:Y)(a:N)(o:E υ):iv:=if 8*s.size<a+3 then .inr 2 else Fm s a o
structure Ag (S:N->Prop) (w w':U):Prop where
 os:w'.os=w.os
 tape:w'.tape=w.tape
 output:w'.output=w.output
 size:w.heap.size<=w'.heap.size
 block:∀k,k<w.heap.size->¬S k->w'.heap[k]? =w.heap[k]?
def Am(w w':U):Prop:=Ag (λ_=>False) w w'
def Ag.refl(S:N->Prop)(w:U):Ag S w w:=⟨rfl,rfl,rfl,WF _,λ_ _ _=>rfl⟩
def Ag.trans{a b c:U}(h:Ag S a b)(k:Ag S b c):Ag S a c:=
 ⟨k.os.trans h.os,k.tape.trans h.tape,k.output.trans h.output,WI h.size k.size,λi d e=>(k.block i (wG d h.size) e).trans<|h.block i d e⟩
def Ag.transNew{a b c:U}(h:Ag S a b)(k:Ag T b c)(f:∀i,i<a.heap.size->T i->S i):Ag S a c:=
 ⟨k.os.trans h.os,k.tape.trans h.tape,k.output.trans h.output,WI h.size k.size,λi d e=>(k.block i (wG d h.size) λg=>e<|f i d g).trans<|h.block i d e⟩
def Ag.mono{a b:U}(h:Ag S a b)(d:∀i,i<a.heap.size->S i->T i):Ag T a b:=
 ⟨h.os,h.tape,h.output,h.size,λi c e=>h.block i c λx=>e<|d i c x⟩
def Ag.drewN{a b:U}(h:Ag S a b)(n:N):Ag S a<|b.drewN n:=⟨h.os,h.tape,h.output,h.size,h.block⟩
def Ag.drew{a b:U}(h:Ag S a b):Ag S a b.drew:=⟨h.os,h.tape,h.output,h.size,h.block⟩
def Ag.alloc{a:U}(h:Ag S a w)(o:Obj):Ag S a<|w.alloc o:=
 h.trans ⟨rfl,rfl,rfl,Ad,λ_ b _=>Below.heap_alloc _ _ _ b⟩
def Ag.setCell{a:U}(h:Ag S a w){p:Addr}(b:p.block<a.heap.size->S p.block)(u:M):Ag S a<|w.setCell p u:=
 h.transNew (T:=λk=>k=p.block) ⟨rfl,rfl,rfl,by simp[World.setCell],λ_ _ c=>aaK _ _ _ _ c⟩ λ_ c e=>by subst e;exact b c
def Ag.grown{a:U}{b:Option N}(h:Ag S a w)(c:w.grownBy w' b)(d:∀k,k<a.heap.size->b=J k->S k):Ag S a w':=
 h.transNew (T:=λk=>b=J k) ⟨c.os,c.tape,c.output,c.size,λk b e=>c.block k b λb=>e b.symm⟩ λi b e=>d i b e
def Ag.cell(h:Ag S w w'){p:Addr}(a:p.block<w.heap.size)(b:¬S p.block):w'.cell? p=w.cell? p:=World.cell?_of_block (w:=w)<|h.block p.block a b
def Ag.below(h:Ag S w w')(a:N)(c:a<=w.heap.size)(b:∀k,k<a->¬S k):Below a w w':=⟨h.os,h.tape,h.output,h.size,λk a=>h.block k A<|b k a⟩
def Aq(w:U)(b i:N)(u:M):Ag (λk=>k=b) w<|w.setCell ⟨b,i,O⟩ u:=(Ag.refl (λk=>k=b) w).setCell (p:=⟨b,i,O⟩) (λ_=>rfl) u
def EH(w:U)(g:N)(e:ν)(n:N)(f:N->M):Prop:=
 ∃J0:φ M,w.heap[g]? =J (W J0 e (0,0))/\n<=J0.size/\∀j,j<n->J0[j]? =J (f j)
def EH.lt{g:N}{e:ν}{f:N->M}(h:EH w g e n f):g<w.heap.size:=ahI
def EH.cell{g:N}{e:ν}{f:N->M}(h:EH w g e n f)(j:N)(b:j<n):w.cell? ⟨g,j,O⟩=J (f j):=by
 obtain⟨a,c,_,d⟩:=h;rw[Wu w g j a e (0,0) c];exact d j b
def EH.thaw{g:N}{e:ν}{f:N->M}(h:EH w g e n f)(o:N):w.frozen? ⟨g,o,O⟩=false:=by
 obtain⟨a,b,_⟩:=h;exact WK w g o a e b
def EH.kept{g:N}{e:ν}{f:N->M}(h:EH w g e n f)(b:Ag S w w')(c:¬S g):EH w' g e n f:=by
 have d:=h.lt;obtain⟨a,i,r⟩:=h;exact⟨a,(b.block g d c).trans i,r⟩
def EH.old{g:N}{e:ν}{f:N->M}(h:EH w g e n f)(a:Am w w'):EH w' g e n f:=h.kept a λx=>x
def EH.drewN{g:N}{e:ν}{f:N->M}(h:EH w g e n f)(m:N):EH (w.drewN m) g e n f:=h
def EH.drew{g:N}{e:ν}{f:N->M}(h:EH w g e n f):EH w.drew g e n f:=h
def EH.alloc{g:N}{e:ν}{f:N->M}(h:EH w g e n f)(o:Obj):EH (w.alloc o) g e n f:=h.kept ((Ag.refl (λ_=>False) w).alloc o) λx=>x
def EH.congr{g:N}{e:ν}{f a :N->M}(h:EH w g e n f)(b:∀j,j<n->f j=a j):EH w g e n a :=by
 obtain⟨a,c,d,i⟩:=h;exact⟨a,c,d,λj a=>(i j a).trans<|by rw[b j a]⟩
def EH.set{g:N}{e:ν}{f:N->M}(h:EH w g e n f)(i:N)(a:i<n)(v:M):EH (w.setCell ⟨g,i,O⟩ v) g e n (λj=>if j=i then v else f j):=by
 obtain⟨a,c,d,k⟩:=h;refine⟨_,WL w g i a e v c,by simpa using d,λj l=>?_⟩;rw[wR];by_cases b:i=j
 .subst b;rw[Wz rfl,Wz A];exact hJ J (Wz rfl).symm
 rw[Wx b,k j l];exact hJ J (Wx λh:j=i=>b h.symm).symm
def EH.setOther{g:N}{e:ν}{f:N->M}(h:EH w g e n f)(b i:N)(a:g≠b)(v:M):EH (w.setCell ⟨b,i,O⟩ v) g e n f:=h.kept (Aq w b i v) a
def EH.new(w:U)(a:φ M)(e:ν)(n:N)(f:N->M)(b:n<=a.size)(c:∀j,j<n->a[j]? =J (f j)):EH (w.alloc<|W a e) w.heap.size e n f:=
 ⟨a,WD w _,b,c⟩
def Ag.setRow{a:U}(h:Ag S a w)(g:N)(c:g<a.heap.size->S g)(b:φ M):Ag S a<|w.setRow g b:=
 h.transNew (T:=λk=>k=g) ⟨rfl,rfl,rfl,by simp[World.setRow],λk _ d=>ade w g k b d⟩ λ_ d e=>by subst e;exact c d
def Dc(n:N)(f:N->M):φ M:=((List.range n).map f).toArray
def Bm(n:N)(f:N->M):(Dc n f).size=n:=by simp[Dc]
def Ks(n:N)(f:N->M)(j:N)(h:j<n):(Dc n f)[j]? =J (f j):=by simp[Dc,h]
def KN{f a :N->M}(h:∀j,j<n->f j=a j):Dc n f=Dc n a :=by
 unfold Dc;rw[acw λj a=>h j<|wh.1 a]
def lS(n:N)(f:N->M)(i:N)(v:M):(Dc n f).setIfInBounds i v=Dc n (λj=>if j=i then v else f j):=by
 apply adJ;intro j;rw[wR];by_cases a:j<n
 .rw[Ks n (λj=>if j=i then v else f j) j a,Ks n f j a,Bm];by_cases e:i=j
  .subst e;rw[Wz rfl,Wz a,Wz rfl]
  rw[Wx e,Wx λh:j=i=>e h.symm]
 rw[wO (by rw[Bm];omega),Bm];by_cases e:i=j
 .subst e;rw[Wz rfl,Wx a];exact(wO<|by rw[Bm];omega).symm
 rw[Wx e];exact(wO<|by rw[Bm];omega).symm
def FZ(w:U)(g:N)(t:ν)(n:N)(f:N->M):Prop:=w.heap[g]? =J (W (Dc n f) t (0,0))
def FZ.row{g:N}{f:N->M}(h:FZ w g t n f):EH w g t n f:=⟨_,h,by rw[Bm];exact WF _,λj a=>Ks n f j a⟩
def FZ.lt{g:N}{f:N->M}(h:FZ w g t n f):g<w.heap.size:=h.row.lt
def FZ.kept{g:N}{f:N->M}(h:FZ w g t n f)(a:Ag S w w')(b:¬S g):FZ w' g t n f:=(a.block g h.lt b).trans h
def FZ.old{g:N}{f:N->M}(h:FZ w g t n f)(a:Am w w'):FZ w' g t n f:=h.kept a λx=>x
def FZ.set{g:N}{f:N->M}(h:FZ w g t n f)(i:N)(v:M):FZ (w.setCell ⟨g,i,O⟩ v) g t n (λj=>if j=i then v else f j):=by
 unfold FZ;rw[WL w g i _ _ v h,lS]
def FZ.setOther{g:N}{f:N->M}(h:FZ w g t n f)(b i:N)(a:g≠b)(v:M):FZ (w.setCell ⟨b,i,O⟩ v) g t n f:=h.kept (Aq w b i v) a
def FZ.congr{g:N}{f a :N->M}(h:FZ w g t n f)(b:∀j,j<n->f j=a j):FZ w g t n a :=by unfold FZ;rw[<-KN b];exact h
def FZ.drewN{g:N}{f:N->M}(h:FZ w g t n f)(m:N):FZ (w.drewN m) g t n f:=h
def FZ.alloc{g:N}{f:N->M}(h:FZ w g t n f)(o:Obj):FZ (w.alloc o) g t n f:=h.kept ((Ag.refl (λ_=>False) w).alloc o) λx=>x
def FZ.mk'{g:N}{a:φ M}{f:N->M}(b:g=w.heap.size)(h:a=Dc n f):FZ (w.alloc<|W a t) g t n f:=by subst h b;exact WD w _
abbrev Hw:ν:=106
def Wd(s:Y)(a:N)(o:M)(e:N):φ M:= #[G s,I Q a,o,I Q e]
def Rd(w:U)(g:N)(s:Y)(a:N)(o:M)(e:N):Prop:=w.heap[g]? =J (W (Wd s a o e) Hw (0,0))
def QV(e n:N):N:=if e=0 then n else e
def Rd.lt{g:N}{a:N}{e:N}(h:Rd w g s a o e):g<w.heap.size:=(Wt.1 h).1
def Rd.c0{g:N}{a:N}{e:N}(h:Rd w g s a o e):w.cell? ⟨g,0,O⟩=J (G s):=by rw[Wu w g 0 _ _ (0,0) h];rfl
def Rd.c1{g:N}{a:N}{e:N}(h:Rd w g s a o e):w.cell? ⟨g,1,O⟩=J (I Q a):=by rw[Wu w g 1 _ _ (0,0) h];rfl
def Rd.c2{g:N}{a:N}{e:N}(h:Rd w g s a o e):w.cell? ⟨g,2,O⟩=J o:=by rw[Wu w g 2 _ _ (0,0) h];rfl
def Rd.c3{g:N}{a:N}{e:N}(h:Rd w g s a o e):w.cell? ⟨g,3,O⟩=J (I Q e):=by rw[Wu w g 3 _ _ (0,0) h];rfl
def Rd.thaw{g:N}{a:N}{e:N}(h:Rd w g s a o e)(i:N):w.frozen? ⟨g,i,O⟩=false:=WK w g i _ _ h
def Rd.set1{g:N}{a:N}{e:N}(h:Rd w g s a o e){v:M}(b:v=I Q a'):Rd (w.setCell ⟨g,1,O⟩ v) g s a' o e:=by subst b;exact WL w g 1 _ _ _ h
def Rd.set2{g:N}{a:N}{e:N}(h:Rd w g s a o e)(b :M):Rd (w.setCell ⟨g,2,O⟩ b) g s a b e:=WL w g 2 _ _ _ h
def Rd.set3{g:N}{a:N}{e:N}(h:Rd w g s a o e){v:M}{b :N}(c:v=I Q b):Rd (w.setCell ⟨g,3,O⟩ v) g s a o b :=by subst c;exact WL w g 3 _ _ _ h
def Rd.kept{g:N}{a:N}{e:N}(h:Rd w g s a o e)(b:Ag S w w')(c:¬S g):Rd w' g s a o e:=(b.block g h.lt c).trans h
def Rd.drewN{g:N}{a:N}{e:N}(h:Rd w g s a o e)(n:N):Rd (w.drewN n) g s a o e:=h
def fC(n:N)(h:n<9223372036854775808):bits .and Q (n:Z) 1=((n%2:N):Z):=by
 have:=DZ n 1 h A;rw[nat_mask1] at this;exact this
def lT{b:N}(a:b<256):bits .and Q ((b:Z)/2^i) 1=((b/2^i%2:N):Z):=by
 have e:(b:Z)/2^i=((b/2^i:N):Z):=alg
 have a:b/2^i<9223372036854775808:=aaY (ace _ _) A;rw[e,fC _ a]
def Cw(g:N)(s:Y)(a:N)(o:M)(e n:N)(w:U)(h:Rd w g s a o e):
 μ F 73 #[V<|J ⟨g,0,O⟩,I Q n] w λr w'=>r=ε (.tuple #[])/\Rd w' g s a o (QV e n)/\Ag (λk=>k=g) w w':=by
 have:=h.c3;have:=h.thaw 3;have b:=h;by_cases c:e=0
 .subst c;go_in;go_wp2_with fail;go_end0;exact⟨rfl,b.set3 rfl,(Ag.refl (λk=>k=g) w).setCell (p:=⟨g,3,O⟩) (λ_=>rfl) _⟩
 have:((e:Z)==0)=false:=act
 go_in;go_wp2_with fail;go_end0;exact⟨rfl,by rw[QV,Wx c];exact b,Ag.refl _ w⟩
def VL(g:N)(s:Y)(f:s.size<=140737488355328)(a:N)(o:M)(e:N)(h:a<=8*s.size)(w:U)(h:Rd w g s a o e):
 μ F 67 #[V<|J ⟨g,0,O⟩] w λr w'=>
  r=ε (I Q (if a<8*s.size then AV s a else 0:N))/\Rd w' g s (if a<8*s.size then a+1 else a) o (if a<8*s.size then e else QV e 2)/\Ag (λk=>k=g) w w':=by
 have:=h.c0;have f:=h.c1;have:=h.thaw 1;have m:=H h;have c:=H λd (f:Rd d g s a o e)=>Cw g s a o e 2 d f;by_cases h:a<8*s.size
 .have f:a/8<s.size:=A;have:(a:Z)/8<(s.size:Z):=A;have:(0:Z)<=(a:Z)/8:=A;have:((a:Z)/8).toNat=a/8:=A;have:(0:Z)<=(a:Z)%8:=A;have:((a:Z)%8).toNat=a%8:=A;have:=AA (s:=s) (k:=a/8) f;have f:=Bj s<|a/8;have n:C<|AV s a=As s (a/8)/2^(a%8)%2:=rfl;have:=lT (i:=a%8) f;generalize As s (a/8)=b at*;go_in;go_wp2_with fail;go_quiet (fail);go_wp2_with fail;go_quiet (fail);go_wp2;go_ret;refine⟨AU<|hJ (Value.int Q) ?_,?_,?_⟩
  .rw[X n,acq,aax,wY];rfl
  .exact (m.drewN _).set1<|by congr 1
  exact aiB
 go_in;go_wp2_with fail;go_quiet (fail);go_wp2_with fail;apply(c _<|m.drewN _).mono;rintro r d ⟨rfl,j,l⟩;go_wp2;go_ret;exact⟨rfl,j,((Ag.refl _ w).drewN _).trans l⟩
def qK(e n:N)(h:n≠0):QV (QV e n) n=QV e n:=by unfold QV;split<;>simp_all
def El(s:Y)(a e n v a' e':N):Prop:=v<2^n/\a'<=8*s.size/\((a+n<=8*s.size/\v=Ar s a n/\a'=a+n/\e'=e)\/(8*s.size<a+n/\a'=8*s.size/\e'=QV e 2))
def El.next{a e:N}(h:El s a e n v a' e'):
 El s a e (n+1) (v+(if a'<8*s.size then AV s a' else 0)*2^n) (if a'<8*s.size then a'+1 else a') (if a'<8*s.size then e' else QV e' 2):=by
 obtain⟨f,g,c⟩:=h;have:=GP s a';rcases c with⟨c,d,rfl,rfl⟩|⟨c,rfl,rfl⟩
 .by_cases b:a+n<8*s.size
  .rw[Wz b,Wz b,Wz b];refine⟨?_,A,.inl ⟨A,by rw[Ar,d],A,rfl⟩⟩;have:AV s (a+n)*2^n<=1*2^n:=aag _ A;rw[abj];omega
  rw[Wx b,Wx b,Wx b];refine⟨by rw[abj];omega,A,.inr ⟨A,A,rfl⟩⟩
 rw[Wx A,Wx A,Wx A,qK _ _ A];exact⟨by rw[abj];omega,A,.inr ⟨A,rfl,rfl⟩⟩
def Cz(g:N)(s:Y)(P:s.size<=140737488355328)(a:N)(o:M)(e n:N)(hn:n<=16)(R:a<=8*s.size)(w:U)(x:Rd w g s a o e):
 μ F 68 #[V<|J ⟨g,0,O⟩,I Q n] w λr w'=>
  ∃v a' c :N,r=ε (I Q v)/\El s a e n v a' c /\Rd w' g s a' o c /\Ag (λk=>k=g) w w':=by
 have S:=H x;have T:C<|El s a e 0 0 a e:=⟨adG,R,.inl ⟨A,rfl,rfl,rfl⟩⟩;clear x;go_in;go_wp2;go_loopw [5,6,7,8] (λx y z _ wr=>∃v u i:N,i<=n/\x=I Q v/\y=I Q u/\z=I Q i/\C (∃a' c,El s a e i v a' c /\Rd wr g s a' o c /\u=2^i)/\C (Ag (λk=>k=g) w wr)) λ_ _ z _ _=>n-(intOf z).toNat
 .exact ⟨0,1,0,A,rfl,rfl,rfl,⟨a,e,T,S,rfl⟩,Ag.refl _ w⟩
 obtain⟨v,u,i,hi,rfl,rfl,rfl,y,D⟩:=hrel;by_cases a0:i<n
 .obtain ⟨a',c,b,d,j⟩:=X y;have L:=H<|VL g s P a' o c b.2.1 wr d;have f:=H b.next;have l:2^i<=32768:=wg (n:=2) A (show i<=15 by omega);have:u<=32768:=A;have:v<65536:=by have:=b.1;omega
  have m:(if a'<8*s.size then AV s a' else 0)<2:=aly
  rw[<-j] at f;have HU:C<|2*u=2^(i+1):=by unfold C;rw[abj,j];omega
  generalize(if a'<8*s.size then AV s a' else 0)=bv at L f m;obtain⟨p,q⟩:∃p,p=bv*u:=⟨_,rfl⟩;have:(bv:Z)*u=(p:Z):=by rw[q];exact(aaA _ _).symm
  have:p<=32768:=by have:bv*u<=1*u:=aag _ A;omega
  rw[<-q] at f;clear q j b d l;go_wp2_with (go_at_call 67;refine L.mono ?_;rintro r w1 ⟨rfl,h,j⟩;have l:=H h;have m:=H j;clear h j);go_roundw
  .exact ⟨v+p,2*u,i+1,A,by go_num,by go_num,by go_num,⟨_,_,f,l,HU⟩,D.trans m⟩
  exact Ae
 have t:i=n:=A;subst t;go_wp2;go_ret;obtain⟨a',c,b,d,_⟩:=X y;exact⟨v,a',c,rfl,b,d,D⟩
def BG(w:U)(gl off:N)(L:E N):Prop:= ∃J0:φ M,w.heap[gl]? =J (W J0 3 (0,0))/\∀j,j<L.length->J0[off+j]? =J (I Q (L.getD j 0:N))
def BG.lt{a b:N}(h:BG w a b L):a<w.heap.size:=ahI
def BG.cell{a b:N}(h:BG w a b L)(d:j<L.length):w.cell? ⟨a,b+j,O⟩=J (I Q (L.getD j 0:N)):=by
 obtain⟨c,e,f⟩:=h;rw[Wu w a (b+j) c 3 (0,0) e];exact f j d
def BG.kept{a b:N}(h:BG w a b L)(c:Ag S w w')(d:¬S a):BG w' a b L:=by
 have e:=h.lt;obtain⟨b,f,g⟩:=h;exact⟨b,(c.block a e d).trans f,g⟩
def BG.ne{c b:N}(h:BG w c b L){g:N}{a:N}{e:N}(y:Rd w g s a o e):c≠g:=by
 rintro rfl;obtain⟨_,hg,_⟩:=h;exact agk
def Em(L:E N)(n i:N):E N:=(List.range i).filter λj=>L.getD j 0==n
def II(L:E N)(n i:N):Em L n (i+1)=if L.getD i 0=n then Em L n i++[i] else Em L n i:=by
 unfold Em;rw[aaS,aaL];by_cases h:L.getD i 0=n
 .rw[Wz h,acx<|by rw[h];simp];simp
 rw[Wx h,acy akW];simp
def RD(L:E N)(n:N):Em L n L.length=Cs L n:=rfl
def RE(L:E N)(n i:N):(Em L n i).length<=i:=by unfold Em;exact WI (aaU _ _) Ad
def lU(L:E N)(n:N)(h:i<=j):∃r,Em L n j=Em L n i++r:=by
 induction j with
 |zero=>rw[show i=0 by omega];exact⟨[],Ad⟩
 |succ j b=>
  rcases wM j i with h1|h1
  .rw[show i=j+1 by omega];exact⟨[],Ad⟩
  obtain⟨r,a⟩:=b h1;rw[II];split
  .exact ⟨r++[j],by rw[a,WG]⟩
  exact⟨r,a⟩
def uE(a:i<L.length)(h:L.getD i 0=n):(Em L n i).length<(Cs L n).length/\(Cs L n).getD (Em L n i).length 0=i:=by
 obtain⟨_,a⟩:=lU L n (show i+1<=L.length by omega);rw[II,Wz h,RD,WG] at a;rw[a];constructor
 .simp
 rw[Wq,WU<|WF _];simp
def JH(s:Y)(L:E N)(a e y a' e':N):Prop:=(a<=a'/\a'<=8*s.size)/\y<=L.length/\((e≠0/\y=0/\a'=a/\e'=e)\/(e=0/\((dec s L a=J (y,a')/\e'=0)\/(dec s L a=O/\e'=2))))
def iy(c:1<=n)(a:n<=15)(b:a'<8*s.size)(a:i<L.length)(h:L.getD i 0=n)(c:AO L n+(Em L n i).length=2*v+AV s a'):
 EB s L (16-n) v a'=J (i,a'+1):=by
 obtain⟨_,c⟩:=uE a h;rw[show 16-n=(15-n)+1 by omega,EB,Wz b,show 15-(15-n)=n by omega,Wz A,show 2*v+AV s a'-AO L n=(Em L n i).length by omega,c]
def bS(c:1<=n)(a:n<=15)(b:a'<8*s.size)(h:¬(AO L n<=2*v+AV s a'/\2*v+AV s a'<AO L n+(Cs L n).length)):
 EB s L (16-n) v a'=EB s L (16-(n+1)) (2*v+AV s a') (a'+1):=by
 rw[show 16-n=(15-n)+1 by omega,EB,Wz b,show 15-(15-n)=n by omega,Wx h,show 16-(n+1)=15-n by omega]
def Um(a:n<=15)(b:¬a'<8*s.size):EB s L (16-n) v a'=none:=by
 rw[show 16-n=(15-n)+1 by omega,EB,Wx b]
def RG(g:N)(s:Y)(hs:s.size<=140737488355328)(a:N)(o:M)(e:N)(ha:a<=8*s.size)(gl a8 cap:N)(L:E N)(hL:L.length<=400)(w:U)(j:Rd w g s a o e)(hI:BG w gl a8 L):
 μ F 130 #[V<|J ⟨g,0,O⟩,K (J ⟨gl,a8,O⟩) L.length cap] w λr w'=>
  ∃y a' l :N,r=ε (I Q y)/\JH s L a e y a' l /\Rd w' g s a' o l /\Ag (λk=>k=g) w w':=by
 have a9:=hI.ne j;by_cases he:e=0
 .subst he;have HR:=H j;have HI:=H hI;clear j hI;go_in;go_wp2;go_loopw [5,6,7,8,9,10] (λx f z _ _ _ wr=>∃v P n l :N,n<=16/\v<65536/\P<=52428800/\x=I Q v/\f=I Q P/\z=I Q n/\wr.cell? ⟨g,3,O⟩=J (I Q l)/\
   C (∃a',1<=n/\(a<=a'/\a'<=8*s.size)/\Rd wr g s a' o l /\((l =0/\v<2^(n-1)/\P=AO L n/\dec s L a=EB s L (16-n) v a')\/(l =2/\dec s L a=O)))/\C (Ag (λk=>k=g) w wr))
   (λ_ _ z _ _ _ _=>16-(intOf z).toNat)
  .exact ⟨0,0,1,0,A,A,A,rfl,rfl,rfl,HR.c3,⟨a,A,⟨WF _,ha⟩,HR,.inl ⟨rfl,Ac,rfl,rfl⟩⟩,Ag.refl _ w⟩
  obtain⟨v,P,n,l,_,_,_,rfl,rfl,rfl,a1,HS,HO⟩:=hrel;by_cases b6:n<=15/\l =0
  .obtain ⟨h,rfl⟩:=b6;obtain⟨a',a2,⟨b,ha'⟩,p,t⟩:=X HS;obtain⟨_,a3,b0,b1⟩:0=0/\v<2^(n-1)/\P=AO L n/\dec s L a=EB s L (16-n) v a':=by
    rcases t with j|⟨j,_⟩
    .exact j
    cases j
   have b2:2^(n-1)<=16384:=wg (n:=2) A (show n-1<=14 by omega);have b3:2*2^(n-1)=2^n:=by rw[abg,<-abj,Nat.succ_eq_add_one,show n-1+1=n by omega]
   have HB:=H<|VL g s hs a' o 0 ha' wr p;have b7:(if a'<8*s.size then AV s a' else 0)<2:=aly
   have a4:C (a'<8*s.size->(if a'<8*s.size then AV s a' else 0)=AV s a'):=λj=>Wz j
   generalize(if a'<8*s.size then AV s a' else 0)=bv at HB b7 a4;have b9:=H<|HI.kept HO a9;have c0:=H b3;have c1:=H a3;have a5:=H b0;have R:=H b1;have b6:v<16384:=A;have a8 :wr.cell? ⟨g,3,O⟩=J (I Q 0):=a1;have b4:(n:Z)<=15:=A;clear b3 a3 b0 b1 t b2 a1 HS p;go_wp2_with (go_at_call 67;refine HB.mono ?_;rintro r w1 ⟨rfl,i,q⟩;have S:=H i;have a8:=H q;clear i q);have c2:=H<|b9.kept a8 a9;have a6:=H<|HO.trans a8;go_loop [9,10] (λx z=>∃m f:N,f<=L.length/\m<=52429200/\x=I Q m/\z=I Q f/\C (m=P+(Em L n f).length/\¬(P<=2*v+bv/\2*v+bv<m))) λ_ z=>L.length-(intOf z).toNat
   .exact ⟨P,0,A,A,rfl,rfl,⟨by simp[Em],A⟩⟩
   obtain⟨m,f,_,c4,rfl,rfl,HK⟩:=hrel;by_cases a8:f<L.length
   .have c5:=c2.cell a8;have a7:=H<|II L n f;have T:C (L.getD f 0=n->P+(Em L n f).length=2*v+bv-> ∃y x D,f=y/\JH s L a 0 y x D /\Rd w1 g s x o D):=λhl P=>by
     by_cases d:a'<8*s.size
     .have hr:=X S;rw[Wz d,Wz d] at hr;rw[a4 d] at P;have hd:=iy (s:=s) (a':=a') a2 h d a8 hl (by rw[<-X a5];exact P);exact⟨f,a'+1,0,rfl,⟨⟨A,A⟩,A,.inr ⟨rfl,.inl ⟨by rw[X R];exact hd,rfl⟩⟩⟩,hr⟩
     have hr:=X S;rw[Wx d,Wx d] at hr;exact⟨f,a',2,rfl,⟨⟨b,ha'⟩,A,.inr ⟨rfl,.inr ⟨by rw[X R];exact Um h d,rfl⟩⟩⟩,hr⟩
    generalize L.getD f 0=li at c5 a7 T;by_cases b5:li=n
    .subst b5;have c6:((li:Z)==li)=true:=beq_self_eq_true _;by_cases P:m=2*v+bv
     .have c7:((m:Z)==2*(v:Z)+bv)=true:=akZ;go_wp2;go_ret;obtain⟨y,x,D,rfl,h1,h2⟩:=T (by first|rfl|trivial) (by have:=HK.1;omega);first
       |exact⟨f,x,D,rfl,h1,h2,a6⟩
       |exact⟨f,rfl,x,D,h1,h2,a6⟩
     have c7:((m:Z)==2*(v:Z)+bv)=false:=act;go_wp2_with fail;go_round
     .obtain ⟨h1,h2⟩:=X HK;have h3:=X a7;rw[Wz rfl] at h3;have x:=RE L li f;exact⟨m+1,f+1,A,A,by go_num,by go_num,⟨by rw[h3,Ws,h1];simp;omega,A⟩⟩
     exact Ae
    have c6:((li:Z)==n)=false:=act;go_wp2_with fail;go_round
    .obtain ⟨h1,h2⟩:=X HK;have h3:=X a7;rw[Wx b5] at h3;exact⟨m,f+1,A,c4,rfl,by go_num,⟨by rw[h3,h1],h2⟩⟩
    exact Ae
   have c8:f=L.length:=A;subst c8;go_wp2;go_roundw
   .obtain ⟨h1,h2⟩:=X HK;rw[RD] at h1;have c9:2*m=AO L (n+1):=(by rw[AO,Wx A,h1,X a5]);have f:=Mq L<|n+1;have f:2^(n+1+1)<=131072:=wg (n:=2) A (show n+1+1<=17 by omega);have x:=abm f hL;have D:=X c0;have a3:=X c1;refine⟨2*v+bv,2*m,n+1,if a'<8*s.size then 0 else QV 0 2,A,A,A,by go_num,by go_num,by go_num,S.c3,⟨if a'<8*s.size then a'+1 else a',A,⟨by split<;>omega,by split<;>omega⟩,S,?_⟩,a6⟩;by_cases d:a'<8*s.size
    .rw[Wz d,Wz d];have a0 :=a4 d;refine .inl ⟨rfl,by rw[show n+1-1=n by omega];omega,c9,?_⟩;rw[X R,a0];exact bS a2 h d<|by rw[<-X a5,<-a0,<-h1];exact h2
    rw[Wx d];exact .inr ⟨rfl,by rw[X R];exact Um h d⟩
   exact Ae
  obtain⟨a',a2,⟨b,ha'⟩,p,t⟩:=X HS;have c:C<|dec s L a=O/\QV l 2=2:=by
   rcases t with⟨rfl,h1,h2,h3⟩|⟨rfl,h1⟩
   .have:n=16:=A;subst this;exact⟨h3,rfl⟩
   exact⟨h1,rfl⟩
  have u:=H<|Cw g s a' o l 2 wr p;clear t HS p;by_cases h:n<=15
  .have d:((l :Z)==0)=false:=act
   have b4:(n:Z)<=15:=A;exact agd
  have:¬(n:Z)<=15:=A;exact agd
 have:((e:Z)==0)=false:=act
 have:=j.c3;have:=H j;have u:=H<|Cw g s a o e 2 w j;clear j hI;go_in;go_wp2_with fail;go_loop [5,6,7,8,9,10] (λ_ _ z _ _ _=>z=I Q 1) λ_ _ _ _ _ _=>0
 .rfl
 subst hrel;go_wp2_with fail;apply u.mono;rintro r w1 ⟨rfl,i,q⟩;go_wp2;go_ret;have h2:QV e 2=e:=Wx he;rw[h2] at i;exact⟨0,a,e,rfl,⟨⟨WF _,ha⟩,A,.inl ⟨he,rfl,rfl,rfl⟩⟩,i,q⟩
def Un(n:N)(a:n<=20)(w:U):μ F 260 #[I Q n] w λr w'=>r=ε (I Q ((2^n:N):Z))/\w'=w:=by
 have:(2:Z)^n<=1048576:=by
  have:2^n<=2^20:=wg A a;have e:(2:Z)^n=((2^n:N):Z):=alp
  rw[e];omega
 have:(0:Z)<=(2:Z)^n:=by
  have e:(2:Z)^n=((2^n:N):Z):=alp
  rw[e];exact Int.natCast_nonneg _
 have a:(((2^n:N):Z)=(2:Z)^n):=alp
 have:(n:Z)<64:=A;rw[a];generalize b:(2:Z)^n=x at*;have:IntKind.i64.wrap x=x:=akR
 exact akH
def El.zero{a e:N}(b:a<=8*s.size):El s a e 0 0 a e:=⟨adG,b,.inl ⟨A,rfl,rfl,rfl⟩⟩
def bU(g:N)(s:Y)(P:s.size<=140737488355328)(a:N)(o:M)(e y:N)(S:257<=y)(R:y<=285)(c:a<=8*s.size)(w:U)(h:Rd w g s a o e):
 μ F 195 #[V<|J ⟨g,0,O⟩,I Q y] w λr w'=>
  ∃v a' j :N,r=ε (I Q ((Bg y+v:N):Z))/\El s a e (AM y) v a' j /\Rd w' g s a' o j /\Ag (λk=>k=g) w w':=by
 have HR:=H h;by_cases d:y<=264
 .have e1:AM y=0:=Wz d;have e2:Bg y=y-254:=Wz d;have HE:C (((y-254+0:N):Z)=(y:Z)-254):=by unfold C;omega
  exact agG
 by_cases z:y=285
 .subst z;have x:=H<|El.zero (s:=s) (e:=e) c;go_in;go_wp2;go_ret;exact⟨0,a,e,rfl,x,h,Ag.refl _ w⟩
 have e1:AM y=(y-261)/4:=by unfold AM;rw[Wx d,Wx z]
 have e2:Bg y=3+2^((y-261)/4)*(4+(y-261)%4):=by unfold Bg;rw[Wx d,Wx z]
 rw[e1,e2];clear e1 e2;have:((y:Z)==285)=false:=act
 have:((y:Z)-261)/4=(((y-261)/4:N):Z):=A;have:((y:Z)-261)%4=(((y-261)%4:N):Z):=A;have d:(y-261)/4<=5:=A;have:(y-261)%4<4:=wU _ A;have:(0:Z)<=(y:Z)-261:=A;have l:=H λw1 (z:Rd w1 g s a o e)=>Cz g s P a o e ((y-261)/4) A c w1 z;have p:=H λw1=>Un ((y-261)/4) A w1;have:2^((y-261)/4)<=2^5:=wg A d;generalize(y-261)/4=n,(y-261)%4=m at*;generalize D:2^n=px at*;have t:=H D;clear D;obtain⟨L,f⟩:∃L,L=px*(4+m):=⟨_,rfl⟩;have:(px:Z)*(4+(m:Z))=(L:Z):=by rw[f,aaA];rfl
 have:L<=224:=by have:px*(4+m)<=32*7:=abm A A;omega
 exact afn
def VM(g:N)(s:Y)(L:s.size<=140737488355328)(a:N)(o:M)(e d:N)(y:d<=29)(c:a<=8*s.size)(w:U)(h:Rd w g s a o e):
 μ F 196 #[V<|J ⟨g,0,O⟩,I Q d] w λr w'=>
  ∃v a' j :N,r=ε (I Q ((AY d+v:N):Z))/\El s a e (Bb d) v a' j /\Rd w' g s a' o j /\Ag (λk=>k=g) w w':=by
 have HR:=H h;by_cases y:d<4
 .have e1:Bb d=0:=Wz y;have e2:AY d=d+1:=Wz y;have HE:C (((d+1+0:N):Z)=(d:Z)+1):=by unfold C;omega
  exact agG
 have e1:Bb d=d/2-1:=Wx y;have e2:AY d=1+2^(d/2-1)*(2+d%2):=Wx y;rw[e1,e2];clear e1 e2;have:(d:Z)/2-1=((d/2-1:N):Z):=A;have:(d:Z)%2=((d%2:N):Z):=A;have y:d/2-1<=13:=A;have:d%2<2:=wU _ A;have l:=H λw1 (P:Rd w1 g s a o e)=>Cz g s L a o e (d/2-1) A c w1 P;have p:=H λw1=>Un (d/2-1) A w1;have:2^(d/2-1)<=2^13:=wg A y;generalize d/2-1=n,d%2=m at*;generalize z:2^n=px at*;have t:=H z;clear z;obtain⟨D,f⟩:∃D,D=px*(2+m):=⟨_,rfl⟩;have:(px:Z)*(2+(m:Z))=(D:Z):=by rw[f,aaA];rfl
 have:D<=24576:=by have:px*(2+m)<=8192*3:=abm A A;omega
 exact afn
def CJ{e:ν}{v:M}{a:E M}(h:w.ownsRow 0 e 1 v n a)(ho:Ag S w w')(hs:∀b,v.ownBlock=J b->¬S b):w'.ownsRow 0 e 1 v n a:=aft
def Dp{e:ν}{v:M}{a:E M}(h:w.ownsRow 0 e 1 v n a)(b:Am w w'):w'.ownsRow 0 e 1 v n a:=CJ h b λ_ _ x=>x
def DD{e:ν}{v:M}{a:E M}(h:w.ownsRow 0 e 1 v n a){b:N}(hb:v.ownBlock=J b):∃J0,w.heap[b]? =J (W J0 e (0,0)):=ahe
def bV{v:M}{c:E M}(h:w.ownsRow 0 5 1 v n c){b:N}(d:v.ownBlock=J b){g:N}{a:N}{e:N}(y:Rd w g s a o e):b≠g:=by
 rintro rfl;obtain⟨_,hg⟩:=DD h d;exact agk
def BI(S:N->Prop)(w:U):Prop:= ∀k,w.heap.size<=k->S k
def BI.mono(h:BI S w)(a:w.heap.size<=w'.heap.size):BI S w':=λk _=>h k A
def St(w:U)(g:N)(S:N->Prop)(s:Y)(a:N)(l:E υ)(e:N):Prop:=
 ∃ao cap,Rd w g s a (K ao l.length cap) e/\w.ownsRow 0 5 1 (K ao l.length cap) l.length (Al l)/\∀b:Addr,ao=J b->S b.block
def St.next{g:N}{a:N}{l:E υ}{e:N}{ao:Option Addr}{cap:N}(hr:Rd w g s a (K ao l.length cap) e)
 (d:w.ownsRow 0 5 1 (K ao l.length cap) l.length<|Al l)(f:∀b:Addr,ao=J b->S b.block)(h:Ag (λk=>k=g) w w')(c :Rd w' g s a' (K ao l.length cap) e'):St w' g S s a' l e':=
 ⟨ao,cap,c,CJ d h λ_ c=>bV d c hr,f⟩
def Ag.of_g{g:N}(a:S g)(h:Ag (λk=>k=g) w w'):Ag S w w':=h.mono λ_ _ b=>b ▸ a
def Ij:(prog.info? 5).map (λi=>(i.zero,i.size,i.bytes))=J (J<|I τ 0,1,1):=B
def Gy{wr:U}:∀j u,[Value.int τ (n:Z)][j]? =J u->(wr.alloc<|W #[I τ (n:Z)] 5).cell? ((⟨wr.heap.size,0,O⟩:Addr).add j)=J u:=ajh
def Ni(g:N)(S:N->Prop)(y:S g)(s:Y)(a:N)(l:E υ)(d:l.length<20000)(e c:N)(hc:c<256)(w:U)(hF:BI S w)(u:St w g S s a l e):
 μ F 129 #[V<|J ⟨g,0,O⟩,I τ c] w λr w'=>
  r=ε (.tuple #[])/\Ag S w w'/\St w' g S s a (l++[b8 c]) e:=by
 obtain⟨m,i,d,k,q⟩:=u;have:=d.c2;have:=d;have:=k;have o:=q;obtain⟨i0,u,z,D,L⟩:=wi Ij;have q:Rd (w.alloc<|W #[I τ (c:Z)] 5) g s a (K m l.length i) e:=d.kept ((Ag.refl (λ_=>False) w).alloc _) λx=>x;have d:=Dp k ((Ag.refl _ w).alloc<|W #[I τ (c:Z)] 5);have k:=Gy (wr:=w) (n:=c);have P:=λb j=>bV d (b:=b) j q
 have t:=q;have a4 :(l.length:Z)<20000:=A;go_in;go_wp2_with (at_builtin;refine wpList_append_lies _ rfl (.tmp 16) (.tmp 18) 64 rfl 0 5 i0 (I τ 0) 1 1 underlying64 u z D L rfl A (K m l.length i) l.length _ rfl d ⟨w.heap.size,0,O⟩ 1 1 [I τ (c:Z)] rfl rfl k alj A (by unfold maxLen;omega) A A (w.heap.size+1) Ad ?_;intro R f T q k u z;have d:Rd T g s a (K m l.length i) e:=(k.block g (by exact t.lt) λh=>P g h.symm rfl).trans t;have:=d.c2;have:=d.thaw 2;have h:=d;have a0:=q;have i:=k;have a1:=u;clear q k u d);go_end0;have a2:Ag S w T:=(Ag.refl S w|>.alloc (W #[I τ (c:Z)] 5)).grown i (λ_ _ x=>by
  cases m with
  |none=>cases x
  |some b=>injection x with x;subst x;exact o b rfl)
 have v:(l++[b8 c]).length=l.length+1:=Ad;have a3:=a2.setCell (p:=⟨g,2,O⟩) (λ_=>y)<|K (J ⟨R,0,O⟩) (l.length+1) f;refine⟨rfl,a3,⟨J ⟨R,0,O⟩,f,?_,?_,?_⟩⟩
 .rw[v];exact h.set2 _
 .have d:=a0;have f:Al (l++[b8 c])=Al l++[I τ (c:Z)]:=by simp only[Al,wV,aai,aaF];rw[AN hc]
  rw[v,f];exact CJ d (Aq T g 2 _) λb j=>bV d j h
 intro b j;injection j with j;subst j;rcases a1 with h5|h5
 .cases m with
  |none=>cases h5
  |some b=>injection h5 with h5;rw[<-h5];exact o b rfl
 show S R;rw[h5];exact hF _ A
def bW(g:N)(S:N->Prop)(b:S g)(s:Y)(a:N)(l:E υ)(d:¬l.length<20000)(e c:N)(w:U)(j:St w g S s a l e):
 μ F 129 #[V<|J ⟨g,0,O⟩,I τ c] w λr w'=>
  r=ε (.tuple #[])/\Ag S w w'/\St w' g S s a l (QV e 1):=by
 obtain⟨k,d,i,f,h⟩:=j;have:=i.c2;have HR:=i;have J2:=f;have V2:=h;have f:=λh j=>Cw g s a (K k l.length d) e 1 h j
 have i :¬(l.length:Z)<20000:=A;go_in;go_wp2_with fail;apply(f _ HR).mono;rintro r h ⟨rfl,E7,Z9⟩;go_wp2_with fail;refine wI (abk rfl _ _ _) rfl ?_;exact⟨rfl,Z9.of_g b,St.next HR J2 V2 Z9 E7⟩
def uF(a:1<=n)(b:n<=31):bits BinOp.and IntKind.u64 (IntKind.u64.wrap (-(n:Z))) 31=((32-n:N):Z):=by
 have a:IntKind.u64.wrap (-(n:Z))=((18446744073709551616-n:N):Z):=alb
 have:=u64_and_nat (18446744073709551616-n) 31 A A;rw[nat_mask5] at this;rw[a];refine this.trans ?_;omega
def qL(a:v<4294967296)(b:m+n=32):bits BinOp.or IntKind.u32 ((v*2^m%4294967296:N):Z) ((v/2^n:N):Z)=(Ek v n:Z):=by
 have b:v*2^m%4294967296<4294967296:=wU _ A;have c:v/2^n<4294967296:=aaY (ace _ _) a;rw[abW _ _ b c,aee,show m=32-n by omega]
 rfl
def lV(v n:N)(b:v<4294967296)(c:1<=n)(d:n<=31)(w:U):
 μ F 327 #[I σ v,I Q (-(n:Z))] w λe w'=>e=ε (I σ<|Ek v n)/\w'=w:=by
 have a:=uF c d;obtain⟨m,c⟩:∃m,m+n=32:=⟨32-n,A⟩;rw[show 32-n=m by omega] at a;have:1<=m:=A;have:m<=31:=A;have f:=c;go_in;go_wp2;go_ret;refine⟨AU (show Value.int σ (bits BinOp.or IntKind.u32 ((v:Z)*2^m%4294967296) ((v:Z)/2^(32-m)))=_ from ?_),rfl⟩;have a:=f;have c:(v:Z)*2^m%4294967296=((v*2^m%4294967296:N):Z):=by rw[acq,aaA,wY];rfl
 have d:(v:Z)/2^n=((v/2^n:N):Z):=alg
 rw[show 32-m=n by omega,c,d,qL b a]
def uG(v n:N)(c:Z)(a:c= -(n:Z))(b:v<4294967296)(d:1<=n)(f:n<=31)(w:U):
 μ F 327 #[I σ v,I Q c] w λe w'=>e=ε (I σ<|Ek v n)/\w'=w:=by
 subst a;exact lV v n b d f w
def Df(v n:N)(c:Z)(a:c=(n:Z))(b:v<4294967296)(d:1<=n)(f:n<=31)(w:U):
 μ F 298 #[I σ v,I Q c] w λe w'=>e=ε (I σ<|Ek v n)/\w'=w:=by
 subst a;go_in;go_wp2_with fail;apply(uG v n _ A b d f _).mono;exact akz
def yA{a:N}(h:a<4294967296):bits BinOp.xor IntKind.u32 (bits BinOp.xor IntKind.u32 (Ek a 7)<|Ek a 18) ((a:Z)/8)=(tK a:Z):=by
 have b:=Bl 7 h;have c:=Bl 18 h;rw[abP _ _ b c];exact abP _ (a/8) (EA b c) A
def yB{a:N}(h:a<4294967296):bits BinOp.xor IntKind.u32 (bits BinOp.xor IntKind.u32 (Ek a 17)<|Ek a 19) ((a:Z)/1024)=(tM a:Z):=by
 have b:=Bl 17 h;have c:=Bl 19 h;rw[abP _ _ b c];exact abP _ (a/1024) (EA b c) A
def yC{a:N}(h:a<4294967296):bits BinOp.xor IntKind.u32 (bits BinOp.xor IntKind.u32 (Ek a 2)<|Ek a 13) (Ek a 22)=(qJ a:Z):=aiV
def yD{a:N}(h:a<4294967296):bits BinOp.xor IntKind.u32 (bits BinOp.xor IntKind.u32 (Ek a 6)<|Ek a 11) (Ek a 25)=(lH a:Z):=aiV
def uH{e:N}(f g:N)(h:e<4294967296):(e&&&f)|||((4294967295-e)&&&g)=ir e f g:=by
 unfold ir;apply Nat.eq_of_testBit_eq;intro i;have a:(4294967295-e).testBit i=(decide (i<32)&& !e.testBit i):=by
  rw[show 4294967295-e=2^32-(e+1) by omega];exact Nat.testBit_two_pow_sub_succ A i
 simp only[Nat.testBit_or,Nat.testBit_xor,Nat.testBit_and,a];cases e.testBit i<;>cases f.testBit i<;>cases g.testBit i<;>cases decide (i<32)<;>rfl
def uI(a b c:N):((a&&&b)|||(a&&&c))|||(b&&&c)=lI a b c:=by
 unfold lI;apply Nat.eq_of_testBit_eq;intro i;simp only[Nat.testBit_or,Nat.testBit_xor,Nat.testBit_and];cases a.testBit i<;>cases b.testBit i<;>cases c.testBit i<;>rfl
def yE{e f g:N}(a:e<4294967296)(b:f<4294967296)(c:g<4294967296):
 bits BinOp.or IntKind.u32 (bits BinOp.and IntKind.u32 e f) (bits BinOp.and IntKind.u32 (bits BinOp.xor IntKind.u32 IntKind.u32.max e) g)=(ir e f g:Z):=by
 rw[fB a,acE _ _ a b,acE _ _ A c,abW _ _ (GO _ a)<|GO _ A,uH _ _ a]
def yF{a b c:N}(d:a<4294967296)(e:b<4294967296)(f:c<4294967296):
 bits BinOp.or IntKind.u32 (bits BinOp.or IntKind.u32 (bits BinOp.and IntKind.u32 a b)<|bits BinOp.and IntKind.u32 a c) (bits BinOp.and IntKind.u32 b c)=(lI a b c:Z):=by
 rw[acE _ _ d e,acE _ _ d f,acE _ _ e f,abW _ _ (GO _ d)<|GO _ d,abW _ _ (lC (GO _ d)<|GO _ d)<|GO _ e,uI]
def Yk(v:N)(a:v<4294967296)(w:U):μ F 244 #[I σ v] w λe w'=>e=ε (I σ<|tK v)/\w'=w:=by
 have:=yA a;go_in;go_wp2_with fail;apply(Df v 7 7 rfl a A A _).mono;rintro e w1 ⟨rfl,rfl⟩;go_wp2_with fail;apply(Df v 18 18 rfl a A A _).mono;exact akz
def Yl(v:N)(a:v<4294967296)(w:U):μ F 243 #[I σ v] w λe w'=>e=ε (I σ<|tM v)/\w'=w:=by
 have:=yB a;go_in;go_wp2_with fail;apply(Df v 17 17 rfl a A A _).mono;rintro e w1 ⟨rfl,rfl⟩;go_wp2_with fail;apply(Df v 19 19 rfl a A A _).mono;exact akz
def iz(v:N)(a:v<4294967296)(w:U):μ F 240 #[I σ v] w λe w'=>e=ε (I σ<|qJ v)/\w'=w:=by
 have:=yC a;go_in;go_wp2_with fail;apply(Df v 2 2 rfl a A A _).mono;rintro e w1 ⟨rfl,rfl⟩;go_wp2_with fail;apply(Df v 13 13 rfl a A A _).mono;rintro e w1 ⟨rfl,rfl⟩;go_wp2_with fail;apply(Df v 22 22 rfl a A A _).mono;exact akz
def iA(v:N)(a:v<4294967296)(w:U):μ F 238 #[I σ v] w λe w'=>e=ε (I σ<|lH v)/\w'=w:=by
 have:=yD a;go_in;go_wp2_with fail;apply(Df v 6 6 rfl a A A _).mono;rintro e w1 ⟨rfl,rfl⟩;go_wp2_with fail;apply(Df v 11 11 rfl a A A _).mono;rintro e w1 ⟨rfl,rfl⟩;go_wp2_with fail;apply(Df v 25 25 rfl a A A _).mono;exact akz
def bX(e f g:N)(a:e<4294967296)(b:f<4294967296)(c:g<4294967296)(w:U):μ F 239 #[I σ e,I σ f,I σ g] w λr w'=>r=ε (I σ<|ir e f g)/\w'=w:=by
 have:=yE a b c;exact akH
def VN(a b c:N)(d:a<4294967296)(e:b<4294967296)(f:c<4294967296)(w:U):μ F 241 #[I σ a,I σ b,I σ c] w λr w'=>r=ε (I σ<|lI a b c)/\w'=w:=by
 have:=yF d e f;exact akH
def We{a b c d:N}(e:a<256)(f:b<256)(g:c<256)(h:d<256):
 bits BinOp.or IntKind.u32 (bits BinOp.or IntKind.u32 (bits BinOp.or IntKind.u32 ((a:Z)*16777216) ((b:Z)*65536)) ((c:Z)*256)) (d:Z)=((a*16777216+b*65536+c*256+d:N):Z):=by
 have e:(a:Z)*16777216=((a*16777216:N):Z):=A;have f:(b:Z)*65536=((b*65536:N):Z):=A;have g:(c:Z)*256=((c*256:N):Z):=A;rw[e,f,g,abW _ _ A A,aej 24 (a*16777216) (b*65536) A A,abW _ _ A A,
  aej 16 (a*16777216+b*65536) (c*256) A A,abW _ _ A A,aej 8 (a*16777216+b*65536+c*256) d A A]
def bY(s:Y)(k:N)(h:k+4<=s.size)(a:s.size<=64)(w:U):
 μ F 242 #[G s,I Q k] w λe w'=>e=ε (I σ<|lP s k)/\∃m,w'=w.drewN m:=by
 have:(k:Z)<s.size:=A;have:(k:Z)+1<(s.size:Z):=A;have:(k:Z)+2<(s.size:Z):=A;have:(k:Z)+3<(s.size:Z):=A;have:(0:Z)<=(k:Z):=A;have:(0:Z)<=(k:Z)+1:=A;have:(0:Z)<=(k:Z)+2:=A;have:(0:Z)<=(k:Z)+3:=A;have:((k:Z)+1).toNat=k+1:=A;have:((k:Z)+2).toNat=k+2:=A;have:((k:Z)+3).toNat=k+3:=A;have:=AA (s:=s) (k:=k) A;have:=AA (s:=s) (k:=k+1) A;have:=AA (s:=s) (k:=k+2) A;have:=AA (s:=s) (k:=k+3) A;have a:=Bj s k;have b:=Bj s<|k+1;have c:=Bj s<|k+2;have d:=Bj s<|k+3;go_in;go_wp2_with fail;go_quiet (fail);go_wp2;go_ret;have f:=We a b c d;exact⟨AU (show Value.int σ (bits BinOp.or IntKind.u32 (bits BinOp.or IntKind.u32 (bits BinOp.or IntKind.u32 ((As s k:Z)*16777216) ((As s (k+1):Z)*65536)) ((As s (k+2):Z)*256)) (As s (k+3):Z))=_ by rw[f];rfl),_,rfl⟩
def QW{b:U}{g t:N}{u v:M}(h:b.cell? ⟨g,i,O⟩=J v)(a:¬t=i):(b.setCell ⟨g,t,O⟩ u).drew.cell? ⟨g,i,O⟩=J v:=
 (World.cell?_setCell_other b ⟨g,t,O⟩ ⟨g,i,O⟩ u<|by intro e;injection e;exact a ‹_›).trans h
def QX:(prog.info? 140).map (·.size)=J 64:=B
def QY(n:N)(f:N->M)(h:∀j,(f j).oneCell'=true):(Dc n f).all (·.oneCell')=true:=by
 rw[acr];intro _ a;simp[Dc] at a;obtain⟨j,_,rfl⟩:=a;exact h j
def qM{a b c d:N}(h:n=(a+b+c+d)%4294967296):Value.int σ (((((a:Z)+b)%4294967296+c)%4294967296+d)%4294967296)=I σ (n:Z):=by
 rw[h];congr 1;omega
def Ye(s:Y)(t j:N):M:=if j<t then I σ (wt s j) else I σ 0
def qN(s:Y)(t j:N):(Ye s t j).oneCell'=true:=by unfold Ye;split<;>rfl
def lW{t:N}(h:j<t):Ye s t j=I σ (wt s j):=Wz h
def Ym(s:Y)(t:N):∀j,j<64->(if j=t then Value.int σ (wt s t) else Ye s t j)=Ye s (t+1) j:=by
 intro j _;unfold Ye;exact afI
def bZ(s:Y)(k:s.size=64)(w:U):
 μ F 178 #[G s] w λe w'=>e=ε (.agg (Dc 64 λj=> I σ<|wt s j))/\Am w w':=by
 go_in;go_wp2;go_loopw [6] (λi wr=>∃t:N,t<=16/\i=I Q t/\C (FZ wr (w.heap.size+1) 140 64<|Ye s t)/\C (FZ wr w.heap.size 140 64<|Ye s 0)/\C (Am w wr)) λi _=>16-(intOf i).toNat
 .refine ⟨0,Aa,rfl,?_,?_,((Ag.refl _ w).alloc _).alloc _⟩
  .refine H (FZ.mk' Ad ?_)
   kernel_rfl
  refine H ((FZ.mk' rfl ?_).alloc _)
  kernel_rfl
 obtain⟨t,ht,rfl,f,q,HO⟩:=hrel;by_cases k:t<16
 .have HB:=H λ(i:U)=>bY s (4*t) Aa Aa i;rw[show((4*t:N):Z)=4*(t:Z) by omega] at HB;have y:=f.row.thaw;have z:=f.row.cell t Aa;have HE:=H (bR s t k).symm;have g:(t:Z)<64:=Aa;go_wp2_with (go_at_call 242;refine(HB _).mono ?_;rintro e i ⟨rfl,m,rfl⟩;rw[X HE]);go_roundw
  .refine ⟨t+1,Aa,by go_num,?_,?_,?_⟩
   .exact ((f.drewN m).set t _).congr<|Ym s t
   .exact (q.drewN m).setOther _ _ Aa _
   exact((HO.drewN m).setCell (p:=⟨w.heap.size+1,t,O⟩) (λh=>κ (show w.heap.size+1<w.heap.size from h) Aa) _)
  exact Ae
 have k:t=16:=Aa;rw[k] at f;clear k;go_wp2;go_loopw [5] (λk wr=>∃t:N,16<=t/\t<=64/\k=I Q t/\C (FZ wr (w.heap.size+1) 140 64<|Ye s t)/\C (FZ wr w.heap.size 140 64<|Ye s 0)/\C (Am w wr)) λk _=>64-(intOf k).toNat
 .exact ⟨16,Aa,Aa,rfl,f,q,HO⟩
 obtain⟨t,_,ht,rfl,f,q,HO⟩:=hrel;by_cases k:t<64
 .have y:=f.row.thaw;have:=f.row.cell t k;have D:=f.row.cell (t-15) Aa;have l:=f.row.cell (t-2) Aa;have L:=f.row.cell (t-7) Aa;have P:=f.row.cell (t-16) Aa;rw[lW Aa] at D l L P;have:((t:Z)-15).toNat=t-15:=Aa;have:((t:Z)-2).toNat=t-2:=Aa;have:((t:Z)-7).toNat=t-7:=Aa;have:((t:Z)-16).toNat=t-16:=Aa;have:(0:Z)<=(t:Z)-15:=Aa;have:(0:Z)<=(t:Z)-2:=Aa;have:(0:Z)<=(t:Z)-7:=Aa;have:(0:Z)<=(t:Z)-16:=Aa;have i:IntKind.i64.wrap ((t:Z)-15)=(t:Z)-15:=akR
  have:IntKind.i64.wrap ((t:Z)-2)=(t:Z)-2:=akR
  have:IntKind.i64.wrap ((t:Z)-7)=(t:Z)-7:=akR
  have:IntKind.i64.wrap ((t:Z)-16)=(t:Z)-16:=akR
  have:(15:Z)<=(t:Z):=Aa;have:(2:Z)<=(t:Z):=Aa;have:(7:Z)<=(t:Z):=Aa;have:(16:Z)<=(t:Z):=Aa;have:(t:Z)<64:=Aa;have:(t:Z)-15<64:=Aa;have:(t:Z)-2<64:=Aa;have:(t:Z)-7<64:=Aa;have:(t:Z)-16<64:=Aa;have d1:¬t=t-15:=Aa;have d2:¬t=t-2:=Aa;have d3:¬t=t-7:=Aa;have d4:¬t=t-16:=Aa;have n:=H<|VK s t Aa;have R:=MX s<|t-15;have o:=MX s<|t-2;have b9:=MX s<|t-7;have b0:=MX s<|t-16;generalize wt s (t-15)=a at D R n;generalize wt s (t-2)=b at l o n;generalize wt s (t-7)=c at L b9 n;generalize wt s (t-16)=d at P b0 n;have l0:=lJ R;have l1:=lK o;have r:=H λ(i:U)=>Yk a R i;have u:=H λ(i:U)=>Yl b o i;generalize tK a=A at r l0 n;generalize tM b=B at u l1 n;go_wp2_with fail;go_region_held3 (λw'=>w'.cell? ⟨w.heap.size+1,t-2,O⟩=J (I σ b)/\w'.cell? ⟨w.heap.size+1,t-7,O⟩=J (I σ c)/\w'.cell? ⟨w.heap.size+1,t-15,O⟩=J (I σ a)/\w'.cell? ⟨w.heap.size+1,t-16,O⟩=J (I σ d)) (first|exact⟨QW l d2,QW L d3,QW D d1,QW P d4⟩|go_keep)
   (first
    |(go_at_call 243;refine(u _).mono ?_;rintro e i ⟨rfl,rfl⟩)
    |(go_at_call 244;refine(r _).mono ?_;rintro e i ⟨rfl,rfl⟩))
  go_wp2;go_roundw
  .refine ⟨t+1,Aa,Aa,by go_num,?_,?_,?_⟩
   .rw[qM n];exact((f.set t _).drewN 1).congr (Ym s t)
   .exact (q.setOther _ _ Aa _).drewN 1
   exact((HO.setCell (p:=⟨w.heap.size+1,t,O⟩) (λh=>κ (show w.heap.size+1<w.heap.size from h) Aa) _).drew)
  exact Ae
 have g:t=64:=Aa;rw[g] at f;clear g;have hW:wr.heap[w.heap.size+1]? =J (W (Dc 64<|Ye s 64) 140 (0,0)):=X f;have hZ:wr.heap[w.heap.size]? =J (W (Dc 64<|Ye s 0) 140 (0,0)):=X q;have S:(prog.info? 140).map (·.size)=J (Dc 64<|Ye s 64).size:=by rw[Bm];exact QX
 have h1:(Dc 64<|Ye s 64).all (·.oneCell')=true:=QY _ _<|qN s 64;have x:C (Dc 64 (Ye s 64)=Dc 64 λj=> I σ<|wt s j):=KN λj f=>lW f;have T:(Dc 64<|Ye s 0).size=(Dc 64<|Ye s 64).size:=by rw[Bm,Bm]
 generalize hA:Dc 64 (Ye s 64)=A at*;have:=H hA;clear hA;go_wp2_with (first
  |(refine abQ rfl 140 (.tmp 3) rfl (w.heap.size+1) rfl 140 A (0,0) _ hW underlying140 rfl S ?_)
  |(refine aal rfl 140 (.tmp 2) (.tmp 43) rfl w.heap.size A rfl rfl 140 _ hZ S T h1 ?_))
 refine wI (v:=.agg A) (abe results178 _ _ w.heap.size 140 A (0,0) _ rfl (aaa wr w.heap.size _ A _ _ hZ) underlying140 rfl S) rfl ⟨?_,?_⟩
 .rw[X x]
 exact aiH
def FH(x:E8):φ M:=Dc 8 λj=> I σ<|x.nth j
def CQ(f:N->N):φ M:=Dc 64 λj=> I σ<|f j
def RH{P:Program}{f:FuncId}{v:M}
 (h:μ P f args (w.drewN<|k+n) λe w'=>e=ε v/\w'=w.drewN (k+n)):μ P f args (w.drewN<|k+n) λe a =>e=ε v/\∃m,a =w.drewN (k+m):=
 h.mono λ_ _ ⟨a,hm⟩=>⟨a,n,hm⟩
def JW:(prog.info? 97).map (·.size)=J 8:=B
def tN(a b c d e f g i:Z):(#[I σ a,I σ b,I σ c,I σ d,I σ e,I σ f,I σ g,I σ i]:φ M).all (·.oneCell')=true:=by
 rw[acr];intro _ h;simp at h;rcases h with rfl|rfl|rfl|rfl|rfl|rfl|rfl|rfl<;>rfl
def Yn(x y:E8):φ M:= #[I σ (((x.a:Z)+y.a)%4294967296),I σ (((x.b:Z)+y.b)%4294967296),I σ (((x.c:Z)+y.c)%4294967296),I σ (((x.d:Z)+y.d)%4294967296),I σ (((x.e:Z)+y.e)%4294967296),I σ (((x.f:Z)+y.f)%4294967296),I σ (((x.g:Z)+y.g)%4294967296),I σ (((x.h:Z)+y.h)%4294967296)]
def PY(a b:N):((a:Z)+b)%4294967296=(((b+a)%4294967296:N):Z):=A
def lX(x y:E8):Yn x y=FH (y.plus x):=by
 unfold Yn;rw[PY,PY,PY,PY,PY,PY,PY,PY]
 rfl
def RI(x:E8)(c d:N->N)(w:U)(z:φ M)(b a:ν):
 FZ ((((w.alloc<|W (FH x) b).alloc<|W (CQ c) a).alloc<|W (CQ d) a).alloc<|W z b) w.heap.size b 8 (λj=> I σ<|x.nth j)/\
 FZ ((((w.alloc<|W (FH x) b).alloc<|W (CQ c) a).alloc<|W (CQ d) a).alloc<|W z b) (w.heap.size+1) a 64 (λj=> I σ<|c j)/\
 FZ ((((w.alloc<|W (FH x) b).alloc<|W (CQ c) a).alloc<|W (CQ d) a).alloc<|W z b) (w.heap.size+2) a 64 (λj=> I σ<|d j)/\
 ((((w.alloc<|W (FH x) b).alloc<|W (CQ c) a).alloc<|W (CQ d) a).alloc<|W z b).heap[w.heap.size+3]? =J (W z b (0,0))/\
 Am w ((((w.alloc<|W (FH x) b).alloc<|W (CQ c) a).alloc<|W (CQ d) a).alloc<|W z b):=by
 refine⟨(((FZ.mk' rfl rfl).alloc _).alloc _).alloc _,((FZ.mk' Ad rfl).alloc _).alloc _,(FZ.mk' Ad rfl).alloc _,?_,((((Ag.refl _ w).alloc _).alloc _).alloc _).alloc _⟩;have:=WD (((w.alloc<|W (FH x) b).alloc<|W (CQ c) a).alloc<|W (CQ d) a)<|W z b;simpa using this
def VO(x:E8)(r:x.ok)(c f:N->N)(P:∀j,c j<4294967296)(R:∀j,f j<4294967296)(w:U):
 μ F 177 #[.agg<|FH x,.agg<|CQ c,.agg<|CQ f] w λe w'=>e=ε (.agg<|FH ((Cr c f 64 x).plus x))/\Am w w':=by
 go_in;go_wp2_with fail;obtain⟨k,S,T,L,hO⟩:=RI x c f w #[I σ 0,I σ 0,I σ 0,I σ 0,I σ 0,I σ 0,I σ 0,I σ 0] 97 140;generalize(((w.alloc (.cells (FH x) 97)).alloc (.cells (CQ c) 140)).alloc (.cells (CQ f) 140)).alloc (.cells #[I σ 0,I σ 0,I σ 0,I σ 0,I σ 0,I σ 0,I σ 0,I σ 0] 97)=W at*;have:W.cell? ⟨w.heap.size,0,O⟩=J (I σ x.a):=k.row.cell 0 A;have:W.cell? ⟨w.heap.size,1,O⟩=J (I σ x.b):=k.row.cell 1 A;have:W.cell? ⟨w.heap.size,2,O⟩=J (I σ x.c):=k.row.cell 2 A;have:W.cell? ⟨w.heap.size,3,O⟩=J (I σ x.d):=k.row.cell 3 A;have:W.cell? ⟨w.heap.size,4,O⟩=J (I σ x.e):=k.row.cell 4 A;have:W.cell? ⟨w.heap.size,5,O⟩=J (I σ x.f):=k.row.cell 5 A;have:W.cell? ⟨w.heap.size,6,O⟩=J (I σ x.g):=k.row.cell 6 A;have:W.cell? ⟨w.heap.size,7,O⟩=J (I σ x.h):=k.row.cell 7 A;have HK:=H S;have HW:=H T;have HZ:=H L;have HO:=H hO;go_quiet (fail);go_wp2_with fail;go_quiet (fail);go_wp2;go_loopw [7,8,9,10,11,12,13,14,34] (λa b o d e l g m i wr=>∃t n:N,t<=64/\i=I Q t/\wr=W.drewN n/\a=I σ (Cr c f t x).a/\b=I σ (Cr c f t x).b/\o=I σ (Cr c f t x).c/\d=I σ (Cr c f t x).d/\e=I σ (Cr c f t x).e/\l=I σ (Cr c f t x).f/\g=I σ (Cr c f t x).g/\m=I σ (Cr c f t x).h) λ_ _ _ _ _ _ _ _ i _=>64-(intOf i).toNat
 .exact ⟨0,_,A,rfl,(by first|rfl|exact World.drewN_drewN ..),rfl,rfl,rfl,rfl,rfl,rfl,rfl,rfl⟩
 obtain⟨t,n,_,rfl,rfl,rfl,rfl,rfl,rfl,rfl,rfl,rfl,rfl⟩:=hrel;by_cases k:t<64
 .have p:C<|Cr c f (t+1) x=(Cr c f t x).round (c t) (f t):=rfl;have q:=OS c f t r;have bk:=P t;have bw:=R t;have ck:=HK.row.cell t k;have cw:=HW.row.cell t k;have:(0:Z)<=(t:Z):=A;have:(t:Z)<64:=A;generalize Cr c f t x=y at p q ⊢;obtain⟨a,b,o,d,e,l,g,m⟩:=y;obtain⟨k,P,R,bd,r,S,T,bh⟩:=q;simp only at k P R bd r S T bh;have l0:=lL k;have l1:=lM r;have lc:=lN (f:=l) (g:=g) r;have lm:=lO (c:=o) k P;have s:=H λ(i:U)=>iA e r i;have u:=H λ(i:U)=>iz a k i;have z:=H λ(i:U)=>bX e l g r S T i;have D:=H λ(i:U)=>VN a b o k P R i;have h:C<|Cr c f (t+1) x=⟨(m+lH e+ir e l g+c t+f t+(qJ a+lI a b o))%4294967296,a,b,o,(d+(m+lH e+ir e l g+c t+f t))%4294967296,e,l,g⟩:=X p;generalize ir e l g=CH at z lc h;generalize lI a b o=MJ at D lm h;generalize qJ a=B0 at u l0 h;generalize lH e=B1 at s l1 h;generalize c t=kt at ck bk h;generalize f t=wtt at cw bw h;go_wp2_with fail;go_quiet (first
   |(go_at_call 238;exact RH<|s _)
   |(go_at_call 239;exact RH<|z _))
  go_wp2_with (first
   |(go_at_call 240;refine(u _).mono ?_;rintro e i ⟨rfl,rfl⟩)
   |(go_at_call 241;refine(D _).mono ?_;rintro e i ⟨rfl,rfl⟩))
  go_roundw
  .refine ⟨t+1,n+nq,A,by go_num,rfl,?_,?_,?_,?_,?_,?_,?_,?_⟩<;>rw[X h]
   .exact hJ (Value.int σ) (by show _=(((m+B1+CH+kt+wtt+(B0+MJ))%4294967296:N):Z);omega)
   exact hJ (Value.int σ) (by show _=(((d+(m+B1+CH+kt+wtt))%4294967296:N):Z);omega)
  exact Ae
 have h:t=64:=A;have L:(W.drewN n).heap[w.heap.size+3]? =J (.cells #[I σ 0,I σ 0,I σ 0,I σ 0,I σ 0,I σ 0,I σ 0,I σ 0] 97 (0,0)):=X HZ;have HY:C ((Cr c f 64 x)=Cr c f t x):=by rw[h];rfl
 generalize Cr c f t x=y at HY ⊢;go_wp2_with (refine aal rfl 97 (.tmp 6) (.tmp 106) rfl (w.heap.size+3) _ rfl rfl 97 _ L JW rfl (tN _ _ _ _ _ _ _ _) ?_);refine wI (v:=.agg<|Yn x y) (abe results177 _ _ (w.heap.size+3) 97 (Yn x y) (0,0) _ rfl (aaa (W.drewN n) (w.heap.size+3) _ (Yn x y) _ _ L) underlying97 rfl JW) rfl ⟨?_,?_⟩
 .rw[lX,X HY]
 exact(HO.drewN n).setRow _ (λm=>κ m A) _
def ce(v n:N)(a:v<4294967296)(b:1<=n)(c:n<=31)(w:U):
 μ F 116 #[I Q v,I Q n] w λe w'=>e=ε (I Q<|Ek v n)/\∃m,w'=w.drewN m:=by
 go_in;go_wp2_with fail;go_quiet (fail);go_wp2;go_ret;exact⟨AU (show Value.int Q (bits BinOp.or IntKind.i64 ((v:Z)/2^n) ((wrap64 ((v:Z)*2^(32-n))).tmod 4294967296))=_ by rw[iq a b]),_,rfl⟩
def iB(s:Y)(w:U)(h:s.size=4):
 μ F 115 #[G s] w λe w'=>e=ε (I Q ((s[0]'A).toNat*16777216+(s[1]'A).toNat*65536+(s[2]'A).toNat*256+(s[3]'A).toNat))/\∃m,w'=w.drewN m:=by
 have:(0:Z)<(s.size:Z):=A;have:0<s.size:=A;have:(1:Z)<(s.size:Z):=A;have:(2:Z)<(s.size:Z):=A;have:(3:Z)<(s.size:Z):=A;have:=GN<|s[0]'A;have:=GN<|s[1]'A;have:=GN<|s[2]'A;have:=GN<|s[3]'A;go_in;go_wp2_with fail;go_quiet (fail);go_wp2;go_ret;exact⟨rfl,_,rfl⟩
def yG(w:U)(n:N):(convert 64 9<|K (J ⟨w.heap.size,0,O⟩) 4 4).run F
 (w.alloc<|W #[I τ ((n:Z)/16777216%256),I τ ((n:Z)/65536%256),I τ ((n:Z)/256%256),I τ ((n:Z)%256)] 5)=
 .ok (G ⟨(Uk n).toArray⟩) (w.alloc<|W #[I τ ((n:Z)/16777216%256),I τ ((n:Z)/65536%256),I τ ((n:Z)/256%256),I τ ((n:Z)%256)] 5):=by
 refine EZ (P:=F) _ 64 9 5 ⟨w.heap.size,0,O⟩ 4 (Uk n) underlying64 underlying5 underlying9 ?_;intro j _ a;rw[we,WQ,Wu _ _ j _ 5 (0,0)<|WD w _];rw[<-a];simp only[Al,Uk,aai,aaF];rw[AN A,AN A,AN A,AN A];rw[show(n:Z)/16777216%256=((n/16777216%256:N):Z) by omega,show(n:Z)/65536%256=((n/65536%256:N):Z) by omega,show(n:Z)/256%256=((n/256%256:N):Z) by omega,show(n:Z)%256=((n%256:N):Z) by omega];rw[aaP]
def Yo(n:N)(w:U)(h:n<9223372036854775808):
 μ F 60 #[I Q n] w λe w'=>e=ε (G ⟨(Uk n).toArray⟩)/\∃o,w'=w.alloc o:=by
 have:=yG w n;go_in;go_wp2;go_ret;exact⟨rfl,_,rfl⟩
def Nj{P:Program}{f:FuncId}{v:M}
 (h:μ P f args (w.drewN<|k+n) λe w'=>e=ε v/\∃m,w'=(w.drewN<|k+n).drewN m):μ P f args (w.drewN<|k+n) λe a =>e=ε v/\∃m,a =w.drewN (k+m):=
 h.mono λ_ _ ⟨a,m,hm⟩=>⟨a,n+m,by rw[hm,World.drewN_drewN,aap]⟩
def Fs(v n:N)(c:Z)(a:c=(n:Z))(b:v<4294967296)(d:1<=n)(f:n<=31)(w:U):
 μ F 116 #[I Q v,I Q c] w λe w'=>e=ε (I Q<|Ek v n)/\∃m,w'=w.drewN m:=by
 subst a;exact ce v n b d f w
def qO(s:Y)(w:U)(h:s.size=4):
 μ F 115 #[G s] w λe w'=>e=ε (I Q<|lP s 0)/\∃m,w'=w.drewN m:=by
 apply(iB s w h).mono;rintro e w' ⟨rfl,a⟩;refine⟨AU<|hJ (Value.int Q) ?_,a⟩;rw[AA,AA,AA,AA];simp[lP]
def fD:(prog.info? 3).map (λi=>(i.zero,i.size,i.bytes))=J (J<|I Q 0,1,8):=B
def QZ:φ M:=madeCells #[I Q 0] 64
def VP:QZ.size=64:=acI _ _
def Yp(j:N)(h:j<64):QZ[j]? =J (I Q 0):=by simp[QZ,madeCells,h,acn]
def uJ(w:U):(Instr.makeSlice 100 (I Q 64)<|I Q 64).run F w=.ok (K (J ⟨w.heap.size,0,O⟩) 64 64) (w.alloc<|W QZ 3):=
 run_make_row' 100 3 (I Q 0) 8 underlying100 fD rfl .i64 .i64 64 A A w
def Yq(h:k+4<=s.size):lP (s.extract k<|k+4) 0=lP s k:=by
 unfold lP;rw[De A h,De A h,De A h,De A h];simp only[aaw,WQ]
def yg(s:Y)(t j:N):M:=if j<t then I Q (wt s j) else I Q 0
def lY{t:N}(h:j<t):yg s t j=I Q (wt s j):=Wz h
def Yr(s:Y)(t:N):∀j,j<64->(if j=t then Value.int Q (wt s t) else yg s t j)=yg s (t+1) j:=by
 intro j _;unfold yg;exact afI
def Ys{base:N}{e:ν}{v:M}{f:N->M}{a:E M}(h:w.ownsRow base e 1 v (m+n) a)(l:0<n)(c:a=[]++(List.range n).map f)(i:m=0:=by rfl):
 ∃g cap,v=K (J ⟨g,0,O⟩) n cap/\EH w g e n f/\base<=g:=by
 subst i;rw[WQ] at h;rw[aan] at c;rcases h.2 with⟨_,h0⟩|⟨g,cap,b,rfl,k,j,_,_,_,d⟩
 .omega
 refine⟨g,cap,rfl,⟨b,j,A,λj h=>?_⟩,k⟩;rw[c] at d;have a:(b.toList.take<|n*1)[j]? =J (f j):=by rw[d];simp[h]
 rw[aab,Wz A] at a;simpa using a
def iC(i:U)(k l:N){d h:Z}{a b c e f g:N}(m:d=(k:Z))(o:h=(l:Z)):
 EH (i.alloc<|W #[I Q d,I Q a,I Q b,I Q c,I Q h,I Q e,I Q f,I Q g] 3) i.heap.size 3 8 (λj=> I Q ((E8.mk k a b c l e f g).nth j)):=by
 subst m o;exact EH.new i _ 3 8 _ Ad λj d=>E8.cells_get (E8.mk k a b c l e f g) (λn=> I Q (n:Z)) j d
def yh(x y:E8)(k j:N):M:=if j<k then I Q (((y.nth j+x.nth j)%4294967296:N):Z) else I Q (y.nth j)
def uK(x y:E8)(k:N):yh x y k k=I Q (y.nth k):=Wx<|aac _
def uL{x y:E8}(h:j<k):yh x y k j=I Q (((y.nth j+x.nth j)%4294967296:N):Z):=Wz h
def lZ(x y:E8)(k:N):∀j,j<8->(if j=k then Value.int Q (((y.nth k+x.nth k)%4294967296:N):Z) else yh x y k j)=yh x y (k+1) j:=by
 intro j _;unfold yh;by_cases h:j=k
 .subst h;rw[Wz rfl,Wz A]
 rw[Wx h];by_cases a:j<k
 .rw[Wz a,Wz A]
 rw[Wx a,Wx A]
def iD(x:E8)(hx:x.ok)(c:N->N)(hk:∀j,c j<4294967296)(s:Y)(hs:s.size=64)(gh hc gk kc:N)(w:U)
 (hH:EH w gh 3 8 λj=> I Q<|x.nth j)(hK:EH w gk 3 64 λj=> I Q<|c j):
 μ F 62 #[K (J ⟨gh,0,O⟩) 8 hc,G s,K (J ⟨gk,0,O⟩) 64 kc] w λe w'=>
  ∃g,e=ε (K (J ⟨g,0,O⟩) 8 8)/\EH w' g 3 8 (λj=> I Q ((PX c x s).nth j))/\Am w w'/\w.heap.size<=g:=by
 have a9:=uJ;have HH:=H hH;have HK:=H hK;go_in;go_wp2;go_loopw [8] (λi wr=>∃t:N,t<=64/\i=I Q t/\C (EH wr w.heap.size 3 64<|yg s t)/\C (Am w wr)) λi _=>64-(intOf i).toNat
 .exact ⟨0,Aa,rfl,EH.new w _ 3 64 _ (by rw[VP];omega) λj hj=>Yp j hj,(Ag.refl _ w).alloc _⟩
 obtain⟨t,ht,rfl,h,r⟩:=hrel;by_cases f:t<64
 .by_cases a9:t<16
  .have b2:(s.extract (4*t)<|4*t+4).size=4:=akS
   have HB:=H λ(u:U)=>qO (s.extract (4*t)<|4*t+4) u b2;have b3:=h.thaw;have b4:=h.cell t f;have b2:(4:Z)*(t:Z)+4<=64:=Aa;have d8:(0:Z)<=4*(t:Z):=Aa;have b2:(4:Z)*(t:Z)<=4*(t:Z)+4:=Aa;have b2:((4:Z)*(t:Z)).toNat=4*t:=Aa;have d8:((4:Z)*(t:Z)+4).toNat=4*t+4:=Aa;have HE:C<|lP (s.extract (4*t)<|4*t+4) 0=wt s t:=by rw[bR s t a9];exact Yq Aa
   go_wp2_with (go_at_call 115;refine(HB _).mono ?_;rintro e u ⟨rfl,m,rfl⟩;rw[X HE]);go_roundw
   .refine ⟨t+1,Aa,by go_num,?_,?_⟩
    .exact ((h.drewN m).set t f _).congr<|Yr s t
    exact((r.drewN m).setCell (p:=⟨w.heap.size,t,O⟩) (λi=>κ i<|aac _) _)
   exact Ae
  have b3:=h.thaw;have b4:=h.cell t f;have c1:=h.cell (t-15) Aa;have a0:=h.cell (t-2) Aa;have c9:=h.cell (t-7) Aa;have c0:=h.cell (t-16) Aa;rw[lY Aa] at c1 a0 c9 c0;have i1:((t:Z)-15).toNat=t-15:=Aa;have i2:((t:Z)-2).toNat=t-2:=Aa;have i3:((t:Z)-7).toNat=t-7:=Aa;have i4:((t:Z)-16).toNat=t-16:=Aa;have n1:(0:Z)<=(t:Z)-15:=Aa;have n2:(0:Z)<=(t:Z)-2:=Aa;have n3:(0:Z)<=(t:Z)-7:=Aa;have n4:(0:Z)<=(t:Z)-16:=Aa;have m1:(t:Z)-15<64:=Aa;have m2:(t:Z)-2<64:=Aa;have m3:(t:Z)-7<64:=Aa;have m4:(t:Z)-16<64:=Aa;have L:=H<|VK s t Aa;have b1:=MX s<|t-15;have n:=MX s<|t-2;have b9:=MX s<|t-7;have b0:=MX s<|t-16;generalize wt s (t-15)=a at c1 b1 L;generalize wt s (t-2)=b at a0 n L;generalize wt s (t-7)=v at c9 b9 L;generalize wt s (t-16)=d at c0 b0 L;have e0:=yr b1;have e1:=yt n;have l0:=lJ b1;have l1:=lK n;generalize tK a=A at e0 l0 L;generalize tM b=B at e1 l1 L;go_wp2_with fail;apply(Fs a 7 7 rfl b1 Aa Aa _).mono;rintro e u ⟨rfl,m,rfl⟩;go_wp2_with fail;apply(Fs a 18 18 rfl b1 Aa Aa _).mono;rintro e u ⟨rfl,m2,rfl⟩;go_wp2_with fail;apply(Fs b 17 17 rfl n Aa Aa _).mono;rintro e u ⟨rfl,m3,rfl⟩;go_wp2_with fail;apply(Fs b 19 19 rfl n Aa Aa _).mono;rintro e u ⟨rfl,m4,rfl⟩;go_wp2_with fail;generalize m+m2+m3+m4=mm;go_big_region;go_wp2;go_roundw
  .have hv:Value.int Q (((B:Z)+v+A+d)%4294967296)=I Q (wt s t):=by rw[X L];congr 1
   refine⟨t+1,Aa,by go_num,?_,?_⟩
   .rw[hv];exact((h.drewN<|mm+1).set t f _).congr (Yr s t)
   exact((r.drewN<|mm+1).setCell (p:=⟨w.heap.size,t,O⟩) (λi=>κ i<|aac _) _)
  exact Ae
 have o:t=64:=Aa;rw[o] at h;have a1:=H<|HH.old r;obtain⟨i0,L,a0,a9,b2⟩:=wi fD;have n:=r.size;have HN:C (∀j n,((List.range 8).map λj=>Value.int Q<|x.nth j)[j]? =J n->wr.cell? ((⟨gh,0,O⟩:Addr).add j)=J n):=by
  intro j n hu;have hj:j<8:=by have:=(wW.1 hu).1;simpa using this
  rw[we,WQ,(X a1).cell j hj];simpa [hj] using hu
 go_wp2_with (at_builtin;refine wpList_append_own _ rfl (.tmp 85) (.tmp 86) 100 rfl wr.heap.size 3 i0 (I Q 0) 1 8 underlying100 L a0 a9 b2 rfl Ac (K O 0 0) 0 [] rfl (WZ _ _ _ _) ⟨gh,0,O⟩ 8 hc ((List.range 8).map λj=>Value.int Q<|x.nth j) rfl Ad HN (by intro n hu;simp at hu;obtain⟨_,_,rfl⟩:=hu;rfl) (by unfold maxLen;omega) Aa (WF _) ?_;intro _ u a2 P _;obtain⟨g1,a3,b5,a4,_⟩:=Ys a2 Aa rfl;subst b5;have a5:=H ((r.grown P λk _ e=>by cases e):Am w u);have b6:=H (h.kept ((Ag.refl (λ_=>False) wr).grown P λk _ e=>by cases e) λx=>x);have b7:=H a4;clear a2 P a4);have c8:=H<|HK.old a5;have a6:w.heap.size<g1:=by have:=h.lt;omega
 go_loopw [13,14] (λi l wr=>∃t g R:N,t<=64/\l=I Q t/\i=K (J ⟨g,0,O⟩) 8 R/\C (EH wr g 3 8 λj=> I Q ((Cr c (wt s) t x).nth j))/\C (EH wr w.heap.size 3 64<|yg s 64)/\C (EH wr gk 3 64 λj=> I Q<|c j)/\C (Am w wr)/\w.heap.size<g/\C (0<t->R=8)) λ_ i _=>64-(intOf i).toNat
 .exact ⟨0,g1,a3,Aa,rfl,rfl,b7,b6,c8,a5,a6,(λi=>κ i Aa)⟩
 obtain⟨t,g,R,ht,rfl,rfl,l,h,HK,r,_,HC⟩:=hrel;by_cases f:t<64
 .have a7:C<|Cr c (wt s) (t+1) x=(Cr c (wt s) t x).round (c t) (wt s t):=rfl;have q:=OS c (wt s) t hx;have bk:=hk t;have bw:=MX s t;have ck:=HK.cell t f;have cw:=h.cell t f;rw[lY f] at cw;generalize Cr c (wt s) t x=y at l a7 q;obtain⟨a,b,v,d,e,S,T,h8⟩:=y;obtain⟨z,f,n,P,D,u,L,R⟩:=q;have:wr.cell? ⟨g,0,O⟩=J (I Q a):=l.cell 0 Aa;have:wr.cell? ⟨g,1,O⟩=J (I Q b):=l.cell 1 Aa;have:wr.cell? ⟨g,2,O⟩=J (I Q v):=l.cell 2 Aa;have:wr.cell? ⟨g,3,O⟩=J (I Q d):=l.cell 3 Aa;have:wr.cell? ⟨g,4,O⟩=J (I Q e):=l.cell 4 Aa;have:wr.cell? ⟨g,5,O⟩=J (I Q S):=l.cell 5 Aa;have:wr.cell? ⟨g,6,O⟩=J (I Q T):=l.cell 6 Aa;have:wr.cell? ⟨g,7,O⟩=J (I Q h8):=l.cell 7 Aa;simp only at z f n P D u L R;have d0:=yx D u L;have d1:=yz z f n;have e0:=yu z;have e1:=yv D;have d2:=lN (f:=S) (g:=T) D;have d3:=lO (c:=v) z f;have l0:=lL z;have l1:=lM D;have i:C<|Cr c (wt s) (t+1) x=⟨(h8+lH e+ir e S T+c t+wt s t+(qJ a+lI a b v))%4294967296,a,b,v,(d+(h8+lH e+ir e S T+c t+wt s t))%4294967296,e,S,T⟩:=X a7;generalize ir e S T=CH at d0 d2 i;generalize lI a b v=MJ at d1 d3 i;generalize qJ a=B0 at e0 l0 i;generalize lH e=B1 at e1 l1 i;generalize c t=kt at ck bk i;generalize wt s t=wtt at cw bw i;go_wp2_with fail;go_quiet (fail);go_wp2_with fail;go_quiet (fail);go_wp2_with fail;go_quiet (first
   |(go_at_call_of 116 (Value.int IntKind.i64 6);exact Nj<|Fs e 6 6 rfl D Aa Aa _)
   |(go_at_call_of 116 (Value.int IntKind.i64 11);exact Nj<|Fs e 11 11 rfl D Aa Aa _)
   |(go_at_call_of 116 (Value.int IntKind.i64 25);exact Nj<|Fs e 25 25 rfl D Aa Aa _))
  go_wp2_with fail;apply(Fs a 2 2 rfl z Aa Aa _).mono;rintro e w2 ⟨rfl,m2,rfl⟩;go_wp2_with fail;apply(Fs a 13 13 rfl z Aa Aa _).mono;rintro e w2 ⟨rfl,m3,rfl⟩;go_wp2_with fail;apply(Fs a 22 22 rfl z Aa Aa _).mono;rintro e w2 ⟨rfl,m4,rfl⟩;go_wp2_with fail;go_region_held3 (λw'=>w'.cell? ⟨g,0,O⟩=J (I Q a)/\w'.cell? ⟨g,1,O⟩=J (I Q b)/\w'.cell? ⟨g,2,O⟩=J (I Q v)/\w'.cell? ⟨g,3,O⟩=J (I Q d)/\w'.cell? ⟨g,4,O⟩=J (I Q e)/\w'.cell? ⟨g,5,O⟩=J (I Q S)/\w'.cell? ⟨g,6,O⟩=J (I Q T)) (go_keep) (fail);go_wp2;go_roundw
  .refine ⟨t+1,wr.heap.size,8,Aa,by go_num,rfl,?_,(h.drewN _).alloc _,(HK.drewN _).alloc _,((r.drewN _).alloc _),by have:=l.lt;omega,λ_=>rfl⟩;rw[X i];exact iC _ _ _ (by congr 2)<|by congr 2
  exact Ae
 have o:t=64:=Aa;have a8:=HC Aa;subst a8;rw[o] at l;have:=H<|HH.old r;have q:=OS c (wt s) 64 hx;have HM:C (∀j,(PX c x s).nth j=((Cr c (wt s) 64 x).nth j+x.nth j)%4294967296):=λj=>E8.plus_nth _ _ j
 have:=HH.lt;generalize Cr c (wt s) 64 x=y at l q HM;have c:=r;go_wp2;go_loopw [21] (λi wr=>∃k:N,k<=8/\i=I Q k/\C (EH wr g 3 8<|yh x y k)/\C (Am w wr)) λi _=>8-(intOf i).toNat
 .exact ⟨0,Aa,rfl,l.congr λj _=>rfl,r⟩
 obtain⟨k,_,rfl,HP,HQ⟩:=hrel;by_cases h8:k<8
 .have cx:=(HH.old HQ).cell k h8;have cv:=HP.cell k h8;have c:=HP.thaw;rw[uK] at cv;have bx:=E8.nth_lt hx k;have d4:=E8.nth_lt q k;have c:(0:Z)<=(k:Z):=Aa;have:(k:Z)<8:=Aa;generalize d5:x.nth k=xn at cx bx;generalize d6:y.nth k=yn at cv d4;have c:=H d5;have f:=H d6;go_wp2_with fail;go_big_region;go_wp2;go_roundw
  .have hv:Value.int Q (((yn:Z)+xn)%4294967296)=I Q (((y.nth k+x.nth k)%4294967296:N):Z):=by rw[X c,X f];congr 1
   refine⟨k+1,Aa,by go_num,?_,?_⟩
   .rw[hv];exact((HP.set k h8 _).drew).congr (lZ x y k)
   exact((HQ.setCell (p:=⟨g,k,O⟩) (λh=>κ (show g<w.heap.size from h) Aa) _).drew)
  exact Ae
 have d7:k=8:=Aa;go_wp2;go_ret;refine⟨g,rfl,?_,HQ,Aa⟩;rw[d7] at HP;exact HP.congr λj hj=>by rw[uL hj,HM j]
def Yt:E N:=[
 0x428a2f98,0x71374491,0xb5c0fbcf,0xe9b5dba5,0x3956c25b,0x59f111f1,0x923f82a4,0xab1c5ed5,
 0xd807aa98,0x12835b01,0x243185be,0x550c7dc3,0x72be5d74,0x80deb1fe,0x9bdc06a7,0xc19bf174,
 0xe49b69c1,0xefbe4786,0x0fc19dc6,0x240ca1cc,0x2de92c6f,0x4a7484aa,0x5cb0a9dc,0x76f988da,
 0x983e5152,0xa831c66d,0xb00327c8,0xbf597fc7,0xc6e00bf3,0xd5a79147,0x06ca6351,0x14292967,
 0x27b70a85,0x2e1b2138,0x4d2c6dfc,0x53380d13,0x650a7354,0x766a0abb,0x81c2c92e,0x92722c85,
 0xa2bfe8a1,0xa81a664b,0xc24b8b70,0xc76c51a3,0xd192e819,0xd6990624,0xf40e3585,0x106aa070,
 0x19a4c116,0x1e376c08,0x2748774c,0x34b0bcb5,0x391c0cb3,0x4ed8aa4a,0x5b9cca4f,0x682e6ff3,
 0x748f82ee,0x78a5636f,0x84c87814,0x8cc70208,0x90befffa,0xa4506ceb,0xbef9a3f7,0xc67178f2]
def CU(j:N):N:=Yt.getD j 0
def mc:(List.range 64).all (λj=>decide<|CU j<4294967296)=true:=by decide+kernel
def VQ(j:N):CU j<4294967296:=by
 by_cases h:j<64
 .have:=wC.1 mc j<|wh.2 h;simpa using this
 unfold CU;rw[Wq,wj<|by simp[Yt];omega];simp
def iE{a:φ M}(h:a=(Yt.map λn:N=>Value.int Q (n:Z)).toArray)(j:N)(b:j<64):a[j]? =J (I Q<|CU j):=by
 have a:j<Yt.length:=b;rw[h,aaP,aaI,CU,Wq,Wv a]
 rfl
def iF(w:U):
 μ F 61 #[] w λe w'=>e=ε (K (J ⟨w.heap.size,0,O⟩) 64 64)/\EH w' w.heap.size 3 64 (λj=> I Q<|CU j)/\Am w w':=by
 go_in;go_wp2;go_ret;refine⟨rfl,EH.new w _ 3 64 _ Ad λj a=>?_,(Ag.refl _ w).alloc _⟩;exact iE B j a
def pz(s:Y):N->Y
 |0=>s
 |z+1=>pz s z++⟨#[0]⟩
def fE(s:Y)(z:N):(pz s z).size=s.size+z:=by
 induction z with
 |zero=>rfl
 |succ z a=>rw[pz,WC,a];rfl
def Bv(n:N):N:=(119-n%64)%64
def Ex(s:Y):Y:=(pz (s++⟨#[128]⟩) (Bv s.size)++⟨(Uk<|s.size/536870912).toArray⟩)++⟨(Uk<|8*s.size%4294967296).toArray⟩
def LE(s:Y):(Ex s).size=s.size+9+Bv s.size:=by
 unfold Ex;rw[WC,WC,fE,WC];show s.size+1+Bv s.size+4+4=_;omega
def VR(s:Y):(Ex s).size%64=0:=by rw[LE];unfold Bv;omega
def h0:E8:=⟨0x6a09e667,0xbb67ae85,0x3c6ef372,0xa54ff53a,0x510e527f,0x9b05688c,0x1f83d9ab,0x5be0cd19⟩
def Yu:h0.ok:=by refine⟨?_,?_,?_,?_,?_,?_,?_,?_⟩<;>decide
def GQ(p:Y):N->E8
 |0=>h0
 |m+1=>PX CU (GQ p m)<|p.extract (64*m) (64*m+64)
def Yv(p:Y)(m:N):(GQ p m).ok:=by
 cases m with
 |zero=>exact Yu
 |succ m=>exact lQ _ _ _
def LF(x:E8):N->Y
 |0=>⟨#[]⟩
 |k+1=>LF x k++⟨(Uk<|x.nth k).toArray⟩
def Mt(x:E8)(k:N):(LF x k).size=4*k:=by
 induction k with
 |zero=>rfl
 |succ k a=>rw[LF,WC,a];show 4*k+4=_;omega
def OU(n:N)(c:Z)(a:c=(n:Z))(w:U)(h:n<9223372036854775808):
 μ F 60 #[I Q c] w λe w'=>e=ε (G ⟨(Uk n).toArray⟩)/\Am w w':=by
 subst a;apply(Yo n w h).mono;rintro e w' ⟨rfl,o,rfl⟩;exact⟨rfl,(Ag.refl _ w).alloc o⟩
def fF(s:Y)(w:U)(f:s.size<=140737488355328):
 μ F 26 #[G s] w λe w'=>e=ε (G<|LF (GQ (Ex s) ((Ex s).size/64)) 8)/\Am w w':=by
 go_in;go_wp2;go_loop [0] (λx=>∃z:N,z<=Bv s.size/\x=G (pz (s++⟨#[128]⟩) z)) λx=>match x with| G p=>s.size+1000-p.size|_=>0
 .exact ⟨0,A,rfl⟩
 obtain⟨z,hz,rfl⟩:=hrel;have d:(pz (s++⟨#[128]⟩) z).size=s.size+1+z:=by rw[fE,WC];rfl
 have c:Bv s.size<64:=wU _ A;have:z<64:=A;by_cases a:z<Bv s.size
 .have hb:((((s.size:Z)+1+(z:Z))%64) !=56)=true:=by rw[wm];unfold Bv at a hz;omega
  have f:z+1<=Bv s.size:=a;clear a hz c;go_wp2;go_round
  .exact ⟨z+1,f,rfl⟩
  show s.size+1000-(pz (s++⟨#[128]⟩) z++⟨#[0]⟩).size<s.size+1000-(pz (s++⟨#[128]⟩) z).size;rw[WC,d];show s.size+1000-(s.size+1+z+1)<_;omega
 have f:z=Bv s.size:=A;have:((((s.size:Z)+1+(z:Z))%64) !=56)=false:=by rw[acX];rw[f];unfold Bv;omega
 have HP:C<|Ex s=(pz (s++⟨#[128]⟩) z++⟨(Uk<|s.size/536870912).toArray⟩)++⟨(Uk<|8*s.size%4294967296).toArray⟩:=by rw[f];rfl
 clear f a hz c;generalize hq:pz (s++⟨#[128]⟩) z=q at*;clear hq;go_wp2_with fail;apply(OU (s.size/536870912) _ A _ A).mono;rintro e w1 ⟨rfl,j⟩;have l:=H j;clear j;generalize r:(⟨(Uk<|s.size/536870912).toArray⟩:Y)=q1 at*;have s1:q1.size=4:=by rw[<-r];rfl
 clear r;go_wp2_with fail;apply(OU (8*s.size%4294967296) _ A _ A).mono;rintro e w2 ⟨rfl,t⟩;have u:=H<|l.trans t;clear t l;generalize v:(⟨(Uk<|8*s.size%4294967296).toArray⟩:Y)=q2 at*;have s2:q2.size=4:=by rw[<-v];rfl
 clear v;go_wp2_with fail;apply(iF _).mono;rintro e w3 ⟨rfl,h,y⟩;have D:=H<|u.trans y;have L:=H h;have:=h.lt;generalize w2.heap.size=gk at*;clear h y u;have P:(q++q1++q2).size=s.size+9+z:=by rw[WC,WC,d,s1,s2];omega
 have R:(q++q1++q2).size%64=0:=by rw[<-X HP];exact VR s
 generalize q++q1++q2=p at*;have HR:C (EH (w3.alloc<|W #[I Q 1779033703,I Q 3144134277,I Q 1013904242,I Q 2773480762,I Q 1359893119,I Q 2600822924,I Q 528734635,I Q 1541459225] 3) w3.heap.size 3 8 λj=> I Q ((GQ p 0).nth j)):=
  EH.new w3 _ 3 8 _ Ad λj b=>E8.cells_get h0 (λn=> I Q (n:Z)) j b
 have a6:=H P;have S:=H R;have:p.size<=140737488356000:=A;clear P R s1 s2 d;go_wp2;go_loopw [5,6] (λh i wr=>∃m k g a7:N,k<=p.size/\i=I Q k/\h=K (J ⟨g,0,O⟩) 8 a7/\C (k=64*m)/\C (EH wr g 3 8 λj=> I Q ((GQ p m).nth j))/\C (EH wr gk 3 64 λj=> I Q<|CU j)/\C (Am w wr)) λ_ i _=>p.size-(intOf i).toNat
 .exact ⟨0,0,_,_,A,rfl,rfl,rfl,HR,L.alloc _,D.alloc _⟩
 obtain⟨m,k,g,a7,_,rfl,rfl,b,i,HK,T⟩:=hrel;by_cases a:k<p.size
 .have a0:k+64<=p.size:=by have:=X b;have:=X S;omega
  have a:(p.extract k<|k+64).size=64:=akS
  have c:=H<|iD (GQ p m) (Yv p m) CU VQ (p.extract k<|k+64) a g a7 gk 64 wr i HK;have HN:C<|GQ p (m+1)=PX CU (GQ p m) (p.extract k<|k+64):=by rw[X b];rfl
  have:(k:Z)+64<=(p.size:Z):=A;have:(0:Z)<=(k:Z):=A;have:(k:Z)<=k+64:=A;have:((k:Z)+64).toNat=k+64:=A;clear a;go_wp2_with (go_at_call 62;refine c.mono ?_;rintro e w5 ⟨g5,rfl,a1,a,_⟩;have a8:=H a1;have a2:=H a;clear a1 a);go_roundw
  .exact ⟨m+1,k+64,g5,8,a0,by go_num,rfl,(show k+64=64*(m+1) by have:=X b;omega),by rw[X HN];exact a8,HK.old a2,T.trans a2⟩
  exact Ae
 have a:p.size/64=m:=by have:=X b;omega
 have HX:C<|GQ (Ex s) ((Ex s).size/64)=GQ p m:=H (by rw[X HP,a]);have a3:=Yv p m;clear a a6 S b HK HR L D;generalize GQ p m=x at i HX a3;go_wp2;go_loopw [7,8] (λo a wr=>∃k:N,k<=8/\a=I Q k/\o=G (LF x k)/\C (EH wr g 3 8 λj=> I Q<|x.nth j)/\C (Am w wr)) λ_ a _=>8-(intOf a).toNat
 .exact ⟨0,A,rfl,rfl,i,T⟩
 obtain⟨k,_,rfl,rfl,i,T⟩:=hrel;by_cases a:k<8
 .have:=i.cell k a;have:=E8.nth_lt a3 k;have HG:=H λ(w1:U)=>OU (x.nth k) _ rfl w1 A;have:(LF x k).size<=32:=by rw[Mt];omega
  have HS:C<|LF x (k+1)=LF x k++⟨(Uk<|x.nth k).toArray⟩:=rfl;have:(k:Z)<8:=A;generalize a4:(⟨(Uk<|x.nth k).toArray⟩:Y)=q4 at HG HS;have:q4.size=4:=by rw[<-a4];rfl
  clear a4;go_wp2_with (go_at_call 60;refine(HG _).mono ?_;rintro e w6 ⟨rfl,a5⟩;have a:=H a5;clear a5);go_roundw
  .exact ⟨k+1,A,by go_num,by rw[X HS],i.old a,T.trans a⟩
  exact Ae
 have a:k=8:=A;go_wp2;go_ret;exact⟨AU (show Value.string (LF x k)=_ by rw[X HX,a]),T⟩
def Fu:Y:=⟨#[48,49,50,51,52,53,54,55,56,57,97,98,99,100,101,102]⟩
def TJ(I0:Y):N->Y
 |0=>⟨#[]⟩
 |k+1=>TJ I0 k++Fu.extract (As I0 k/16) (As I0 k/16+1)++Fu.extract (As I0 k%16) (As I0 k%16+1)
def iG(a:Y)(k:N):(TJ a k).size=2*k:=by
 induction k with
 |zero=>rfl
 |succ k b=>
  have:=Bj a k;have a:Fu.size=16:=rfl;rw[TJ,WC,WC,b,WM,WM,a];omega
def CY(s:Y):Y:=TJ (LF (GQ (Ex s) ((Ex s).size/64)) 8) 32
def MZ(s:Y)(w:U)(g:s.size<=140737488355328):
 μ F 9 #[G s] w λe w'=>e=ε (G<|CY s)/\Am w w':=by
 have h:=λ(a:U)=>fF s a g
 unfold CY;have:(LF (GQ (Ex s) ((Ex s).size/64)) 8).size=32:=Mt _ 8;generalize LF (GQ (Ex s) ((Ex s).size/64)) 8=I0 at*;go_in;go_wp2_with (go_at_call 26;refine(h _).mono ?_;rintro e a ⟨rfl,d⟩;have i:=d;clear d);go_loopw [5,6] (λo a wr=>∃k:N,k<=32/\a=I Q k/\o=G (TJ I0 k)/\(Am w wr)) λ_ a _=>32-(intOf a).toNat
 .exact ⟨0,A,rfl,rfl,i⟩
 obtain⟨k,_,rfl,rfl,f⟩:=hrel;by_cases j:k<32
 .have l:=Bj I0 k;have a:k<I0.size:=A;have m:=AA a;have:=iG I0 k;have b:(TJ I0 (k+1)=TJ I0 k++Fu.extract (As I0 k/16) (As I0 k/16+1)++Fu.extract (As I0 k%16) (As I0 k%16+1)):=rfl;unfold Fu at b;generalize As I0 k=c at l m b;have:(0:Z)<=(c:Z)/16:=A;have:(c:Z)/16+1<=16:=A;have:(c:Z)/16<=(c:Z)/16+1:=A;have:(0:Z)<=(c:Z)%16:=A;have:(c:Z)%16+1<=16:=A;have:(c:Z)%16<=(c:Z)%16+1:=A;have:((c:Z)/16).toNat=c/16:=A;have:((c:Z)/16+1).toNat=c/16+1:=A;have:((c:Z)%16).toNat=c%16:=A;have:((c:Z)%16+1).toNat=c%16+1:=A;go_wp2_with fail;go_quiet (fail);go_wp2;go_roundw
  .exact ⟨k+1,A,by go_num,by rw[b],f.drewN _⟩
  exact Ae
 have a:k=32:=A;go_wp2;go_ret;exact⟨AU (show Value.string (TJ I0 k)=_ by rw[a]),f⟩
