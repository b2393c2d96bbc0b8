import Derived.Test.YtfbgamknfommpaaGreatDoorMm
import Derived.Test.YtfbgamknfommpaaGreatDoorMi
import Derived.Deep.RegionHeld3
import Derived.Deep.AppendLies
import Derived.Test.YtfbgamknfommpaaGreatDoorMl
set_option maxRecDepth 100000
set_option maxHeartbeats 2000000
namespace Go.Proofs.YtfbgamknfommpaaGreatDoor
open Go.RowKit
theorem own_set{w:World}{b n cp i:Nat}{xs:List Value}{u:Value}(h:w.ownsRow 0 5 1 (.slice (some ⟨b,0,none⟩) n cp) n xs):(w.setCell ⟨b,i,none⟩ u).ownsRow 0 5 1 (.slice (some ⟨b,0,none⟩) n cp) n (xs.set i u):=by
 obtain ⟨hl,hc⟩:=h
 refine ⟨by rw[List.length_set];exact hl, ?_⟩
 rcases hc with ⟨h1,_⟩|⟨g,cap,cur,hv,hb,hg,hn,hm,hs,ht⟩
 ·cases h1
 injection hv with h1 h2 h3
 injection h1 with h1;injection h1 with h1
 subst h1 h3
 refine .inr ⟨b,cp,cur.setIfInBounds i u,rfl,hb,heap_setCell_same w b i cur 5 u hg,hn,hm,by rw[Array.size_setIfInBounds];exact hs, ?_⟩
 rw[Array.toList_setIfInBounds,List.take_set,ht]
def Wr(w:World)(g:Nat)(t:TypeId)(R:Array Value)(S:Nat→Prop)(B:List Nat):Prop:=
 ∃ao cap,w.heap[g]? =some (.cells (#[.slice ao (packB B).length cap,.int .i64 ((8*(packB B).length- B.length:Nat):Int)]++R) t (0,0))∧
  w.ownsRow 0 5 1 (.slice ao (packB B).length cap) (packB B).length (byteCells8 (packB B))∧ ∀b:Addr,ao=some b→S b.block
theorem two_get0(a b:Value)(R:Array Value):(#[a,b]++R)[0]? =some a:=by rw[Array.getElem?_append_left (show 0< #[a,b].size from Nat.two_pos)];rfl
theorem two_get1(a b:Value)(R:Array Value):(#[a,b]++R)[1]? =some b:=by rw[Array.getElem?_append_left (show 1< #[a,b].size from Nat.lt_succ_self 1)];rfl
theorem two_set0(a b v:Value)(R:Array Value):(#[a,b]++R).setIfInBounds 0 v= #[v,b]++R:=by
 apply Array.ext';simp
theorem two_set1(a b v:Value)(R:Array Value):(#[a,b]++R).setIfInBounds 1 v= #[a,v]++R:=by
 apply Array.ext';simp
section
variable {w:World} {g:Nat} {t:TypeId} {R:Array Value} {a b:Value}
theorem two_c0(h:w.heap[g]? =some (.cells (#[a,b]++R) t (0,0))):w.cell? ⟨g,0,none⟩=some a:=by rw[cell_of_row w g 0 _ _ (0,0) h];exact two_get0 _ _ _
theorem two_c1(h:w.heap[g]? =some (.cells (#[a,b]++R) t (0,0))):w.cell? ⟨g,1,none⟩=some b:=by rw[cell_of_row w g 1 _ _ (0,0) h];exact two_get1 _ _ _
theorem two_s0(h:w.heap[g]? =some (.cells (#[a,b]++R) t (0,0)))(v:Value):(w.setCell ⟨g,0,none⟩ v).heap[g]? =some (.cells (#[v,b]++R) t (0,0)):=by
 rw[heap_setCell_same w g 0 _ _ v h,two_set0]
theorem two_s1(h:w.heap[g]? =some (.cells (#[a,b]++R) t (0,0)))(v:Value):(w.setCell ⟨g,1,none⟩ v).heap[g]? =some (.cells (#[a,v]++R) t (0,0)):=by
 rw[heap_setCell_same w g 1 _ _ v h,two_set1]
theorem two_lt(h:w.heap[g]? =some (.cells (#[a,b]++R) t (0,0))):g<w.heap.size:=(Array.getElem?_eq_some_iff.1 h).1
theorem two_ne(ht:t≠5)(h:w.heap[g]? =some (.cells (#[a,b]++R) t (0,0))){v:Value}{n:Nat}{xs:List Value}(ho:w.ownsRow 0 5 1 v n xs){k:Nat}(hk:v.ownBlock=some k):k≠g:=by
 rintro rfl
 obtain ⟨cur,hg⟩:=own_heap ho hk
 rw[h] at hg
 injection hg with hg;injection hg with _ h2;exact ht h2
end
theorem or_byte{c b f:Nat}(hc:c<2^f)(hb:b<2)(hf:f<8):bits .or .u8 (c:Int) ((b*2^f:Nat):Int)=((c+b*2^f:Nat):Int):=by
 have hp:2^f≤2^7:=Nat.pow_le_pow_right (by omega) (by omega)
 have hbp:b*2^f≤1*2^f:=Nat.mul_le_mul_right _ (by omega)
 rw[u8_or_nat _ _ (by omega) (by omega),Nat.or_comm,nat_join f (b*2^f) c (by simp) hc,Nat.add_comm]
theorem oct_top{B:List Nat}:oct B (B.length/8) 8=oct B (B.length/8) (B.length%8):=by
 have g: ∀m,oct B (B.length/8) (B.length%8+m)=oct B (B.length/8) (B.length%8):=by
  intro m
  induction m with
  |zero=>rfl
  |succ m ih=>rw[←Nat.add_assoc,oct,ih,getD_none B _ (by omega)];omega
 have:=g (8- B.length%8)
 rw[show B.length%8+(8- B.length%8)=8 by omega] at this
 exact this
theorem pack_last{B:List Nat}(h:B.length%8≠0):(packB B).getD ((packB B).length- 1) 0=b8 (oct B (B.length/8) 8):=by
 rw[List.getD_eq_getElem?_getD,packB_len,packB_get B _ (by omega),show (B.length+7)/8- 1=B.length/8 by omega];rfl
theorem bitW_in(g:Nat)(t:TypeId)(ht:t≠5)(R:Array Value)(S:Nat→Prop)(hSg:S g)(B:List Nat)(hB:Bin B)(hl:B.length≤1000000)(h8:B.length%8≠0)(b:Nat)(hb:b<2)(w:World)(h:Wr w g t R S B):
 Calls Tryz.prog 211 #[.pointer (some ⟨g,0,none⟩),.int .i64 b] w fun r w' =>r=.returned (.tuple #[])∧Only S w w' ∧Wr w' g t R S (B++[b]):=by
 obtain ⟨ao,cap,hh,how,hsa⟩:=h
 have hpl:=packB_len B
 obtain ⟨gb,cp,hvv,_,_⟩:=how.form (by omega)
 injection hvv with hv1 hv2 hv3
 subst hv1 hv3
 clear hv2
 have hne:gb≠g:=two_ne ht hh how rfl
 have hc0:=two_c0 hh
 have hc1:=two_c1 hh
 have hce:=own_cell how (k:=(packB B).length- 1) (by omega)
 have hgl:=two_lt hh
 rw[pack_last h8,oct_top,b8_toNat (Nat.lt_of_lt_of_le (oct_lt hB _ _) (show 2^(B.length%8)≤2^8 from Nat.pow_le_pow_right (by omega) (by omega)))] at hce
 have hcl:=oct_lt hB (B.length/8) (B.length%8)
 have HNX:Hid (packB (B++[b])=(packB B).set ((packB B).length- 1) (b8 (oct B (B.length/8) (B.length%8)+b*2^(B.length%8)))):=by
  unfold Hid;rw[packB_in b h8,oct_top]
 have hf2:w.frozen? ⟨g,1,none⟩=false:=frozen_of_row w g 1 _ _ hh
 have hfb:w.frozen? ⟨gb,(packB B).length- 1,none⟩=false:=by obtain ⟨cur,hg⟩:=own_heap how (b:=gb) rfl;exact frozen_of_row w gb _ _ _ hg
 have HH:=hide hh
 have HOW:=hide how
 have HSA:=hide hsa
 generalize hnn:(packB B).length=n at*
 generalize hff:8*n- B.length=f at*
 generalize hkk:n- 1=k at*
 generalize hmm:B.length%8=m at*
 generalize hoc:oct B (B.length/8) m=c at*
 have hnk:(n:Int)- 1=(k:Int):=by omega
 have hfm:(8:Int)- (f:Int)=(m:Int):=by omega
 have hkI:(k:Int)<(n:Int):=by omega
 have hk0:(0:Int)≤(k:Int):=by omega
 have hm0:(0:Int)≤(m:Int):=by omega
 have hm64:(m:Int)<64:=by omega
 have htn:((m:Nat):Int).toNat=m:=Int.toNat_natCast m
 have htk:((k:Nat):Int).toNat=k:=Int.toNat_natCast k
 have hwm:IntKind.i64.wrap (m:Int)=(m:Int):=i64_wrap_nat m (by omega)
 have hwk:IntKind.i64.wrap (k:Int)=(k:Int):=i64_wrap_nat k (by omega)
 have hp:2^m≤2^7:=Nat.pow_le_pow_right (by omega) (by omega)
 have hbp:b*2^m≤1*2^m:=Nat.mul_le_mul_right _ (by omega)
 have he:(b:Int)*2^m=((b*2^m:Nat):Int):=by rw[Int.natCast_mul,Int.natCast_pow];rfl
 have hw1:IntKind.i64.wrap ((b:Int)*2^m)=((b*2^m:Nat):Int):=by rw[he];exact i64_wrap_nat _ (by omega)
 have hw8:IntKind.u8.wrap ((b*2^m:Nat):Int)=((b*2^m:Nat):Int):=by rw[IntKind.wrap_u8];omega
 have hor:=or_byte hcl hb (show m<8 by omega)
 have hf0:((f:Int)==0)=false:=by rw[beq_eq_false_iff_ne];omega
 generalize hbb:b*2^m=bm at*
 have hql:c+bm<256:=by omega
 generalize hqq:c+bm=q at*
 have HQ:=hide hql
 have HPL:=hide hpl
 have HE1:Hid ((packB (B++[b])).length=n):=by unfold Hid;rw[packB_len,List.length_append,show ([b]:List Nat).length=1 from rfl];omega
 have HFF:Hid (8*n- (B.length+1)=f- 1):=by unfold Hid;omega
 have hf1:(f:Int)- 1=((f- 1:Nat):Int):=by omega
 have hwf:IntKind.i64.wrap ((f:Int)- 1)=(f:Int)- 1:=by rw[IntKind.wrap_i64];omega
 have HF1:=hide hf1
 clear hh how hsa he hmm hoc hkk hff hnn hpl hqq hql hf1 hcl hbb hbp hp
 go_in
 go_upto_region 3 with fail
 have HSW:w.drew.cell? ⟨g,0,none⟩=some (.slice (some ⟨gb,0,none⟩) n cap)∧w.drew.cell? ⟨g,1,none⟩=some (.int .i64 f)∧w.drew.cell? ⟨gb,k,none⟩=some (.int .u8 c):=⟨hc0,hc1,hce⟩
 refine wp_region_last (S:=fun W=>W.cell? ⟨g,0,none⟩=some (.slice (some ⟨gb,0,none⟩) n cap)∧W.cell? ⟨g,1,none⟩=some (.int .i64 f)∧W.cell? ⟨gb,k,none⟩=some (.int .u8 c)) (L:=22) (by kernel_rfl) ?_
 refine tk 0 23 (.pointer (some ⟨g,0,none⟩)) 21 HSW ?_
 refine tk 1 23 (.pointer (some ⟨g,0,none⟩)) 22 HSW ?_
 refine tk 2 23 (.pointer (some ⟨g,0,none⟩)) 23 HSW ?_
 refine tk 3 23 (.slice (some ⟨gb,0,none⟩) n cap) 24 HSW ?_
 refine tk 4 23 (.pointer (some ⟨g,0,none⟩)) 25 HSW ?_
 refine tk 5 23 (.pointer (some ⟨g,0,none⟩)) 26 HSW ?_
 refine tk 6 23 (.pointer (some ⟨g,0,none⟩)) 27 HSW ?_
 refine tk 7 23 (.slice (some ⟨gb,0,none⟩) n cap) 28 HSW ?_
 refine tk 8 23 (.int .i64 n) 29 HSW ?_
 refine tk 9 23 (.int .i64 k) 30 HSW ?_
 refine tk 10 23 (.pointer (some ⟨gb,k,none⟩)) 31 HSW ?_
 refine tk 11 23 (.int .u8 c) 32 HSW ?_
 refine tk 12 23 (.int .i64 b) 33 HSW ?_
 refine tk 13 23 (.pointer (some ⟨g,0,none⟩)) 34 HSW ?_
 refine tk 14 23 (.pointer (some ⟨g,0,none⟩)) 35 HSW ?_
 refine tk 15 23 (.pointer (some ⟨g,1,none⟩)) 36 HSW ?_
 refine tk 16 23 (.int .i64 f) 37 HSW ?_
 refine tk 17 23 (.int .i64 m) 38 HSW ?_
 refine tk 18 23 (.int .i64 bm) 39 HSW ?_
 refine tk 19 23 (.int .u8 bm) 40 HSW ?_
 refine tk 20 23 (.int .u8 q) 41 HSW ?_
 refine tk 21 23 (.pointer (some ⟨gb,k,none⟩)) 42 HSW ?_
 refine wpAnyL_one (i:=22) (by kernel_rfl) ?_
 refine wpOp_step rfl (fun K' hK=> ?_)
 go_simp
 refine hK _ _ ⟨fun h=>absurd rfl h, ?_⟩
 clear hK
 refine wpAnyL_done (by kernel_rfl) ?_
 have hst:(w.setCell ⟨gb,k,none⟩ (.int .u8 (q:Int))).drew.heap[g]? =some (.cells (#[.slice (some ⟨gb,0,none⟩) n cap,.int .i64 f]++R) t (0,0)):=(Below.heap_setCell _ _ _ _ (fun e=>hne e.symm)).trans (uh HH)
 have how3:(w.setCell ⟨gb,k,none⟩ (.int .u8 (q:Int))).drew.ownsRow 0 5 1 (.slice (some ⟨gb,0,none⟩) n cap) n ((byteCells8 (packB B)).set k (.int .u8 (q:Int))):=own_set (uh HOW)
 have hO3:Only S w (w.setCell ⟨gb,k,none⟩ (.int .u8 (q:Int))).drew:=((Only.refl S w).setCell (p:=⟨gb,k,none⟩) (fun _=>uh HSA ⟨gb,0,none⟩ rfl) _).drew
 generalize (w.setCell ⟨gb,k,none⟩ (.int .u8 (q:Int))).drew=w3 at*
 have hc13:=two_c1 hst
 have hf13:w3.frozen? ⟨g,1,none⟩=false:=frozen_of_row w3 g 1 _ _ hst
 have HST:=hide hst
 have HOW3:=hide how3
 have HO3:=hide hO3
 clear hst how3 hO3 HSW hc0 hc1 hce hf2 hfb
 go_wp2_with fail
 go_end0
 refine ⟨rfl,(uh HO3).setCell (p:=⟨g,1,none⟩) (fun _=>hSg) _,some ⟨gb,0,none⟩,cap, ?_, ?_,uh HSA⟩
 ·have e1:(packB (B++[b])).length=n:=uh HE1
  rw[e1,List.length_append,show ([b]:List Nat).length=1 from rfl,uh HFF,←uh HF1]
  exact two_s1 (uh HST) _
 have e1:(packB (B++[b])).length=n:=uh HE1
 have e2:byteCells8 (packB (B++[b]))=(byteCells8 (packB B)).set k (.int .u8 (q:Int)):=by rw[uh HNX,byteCells8,byteCells8,List.map_set,b8_toNat (uh HQ)]
 rw[e1,e2]
 exact own_kept (uh HOW3) (only_set w3 g 1 _) (fun b' hb' e=>by injection hb' with hb';exact hne (hb'.trans e))
theorem bitW_new(g:Nat)(t:TypeId)(ht:t≠5)(R:Array Value)(S:Nat→Prop)(hSg:S g)(B:List Nat)(hl:B.length≤1000000)(h8:B.length%8=0)(b:Nat)(hb:b<2)(w:World)(hF:Fresh S w)(h:Wr w g t R S B):
 Calls Tryz.prog 211 #[.pointer (some ⟨g,0,none⟩),.int .i64 b] w fun r w' =>r=.returned (.tuple #[])∧Only S w w' ∧Wr w' g t R S (B++[b]):=by
 obtain ⟨ao,cap,hh,how,hsa⟩:=h
 obtain ⟨i0,hi0,hz0,hz1,hz2⟩:=info_parts infoB5
 have hpl:=packB_len B
 have HNX:Hid (packB (B++[b])=packB B++[b8 b]):=packB_new b h8
 have hz:8*(packB B).length- B.length=0:=by omega
 rw[hz] at hh
 have hA:Only (fun _=>False) w (w.alloc (.cells #[.int .u8 (0:Int)] 5)):=(Only.refl _ w).alloc _
 have hc0:=two_c0 hh
 have hc1:=two_c1 hh
 have hgl:=two_lt hh
 have hh1:(w.alloc (.cells #[.int .u8 (0:Int)] 5)).heap[g]? =some (.cells (#[.slice ao (packB B).length cap,.int .i64 (0:Nat)]++R) t (0,0)):=(hA.block g hgl (fun x=>x)).trans hh
 have HH1:=hide hh1
 have HOW1:=hide (own_old how hA)
 have HSA:=hide hsa
 have HNW:=hide (byte_new5 (wr:=w) (n:=0))
 have HLEN:Hid ((packB (B++[b])).length=(packB B).length+1∧8*((packB B).length+1)- (B.length+1)=7):=⟨by rw[packB_len,packB_len,List.length_append];simp;omega,by omega⟩
 have HBC:Hid (byteCells8 (packB (B++[b]))=(byteCells8 (packB B)++[Value.int .u8 ((0:Nat):Int)]).set (packB B).length (.int .u8 (b:Int))):=by
  unfold Hid
  have e:(byteCells8 (packB B)).length=(packB B).length:=by simp[byteCells8]
  rw[uh HNX,byteCells8,List.map_append,List.map_cons,List.map_nil,b8_toNat (by omega),←e,List.set_append_right _ _ (Nat.le_refl _),Nat.sub_self];rfl
 have hnb:(packB B).length≤1000000:=by omega
 have hbl:((byteCells8 (packB B)).length)=(packB B).length:=by simp[byteCells8]
 generalize byteCells8 (packB B)=xs at*
 generalize (packB B).length=n at*
 have hn1:IntKind.i64.wrap ((n:Int)+1- 1)=(n:Int):=by rw[IntKind.wrap_i64];omega
 have hw8:IntKind.u8.wrap (b:Int)=(b:Int):=by rw[IntKind.wrap_u8];omega
 have hwb:IntKind.i64.wrap (b:Int)=(b:Int):=i64_wrap_nat b (by omega)
 have hw0:IntKind.i64.wrap 0=0:=i64_wrap_nat 0 (by omega)
 have hor:bits .or .u8 (0:Int) (b:Int)=(b:Int):=by have:=u8_or_nat 0 b (by omega) (by omega);rw[Nat.zero_or] at this;exact this
 have HHS:=hide (fun (k:Nat) (hk:k<w.heap.size)=>hk)
 clear hh how hsa hpl hz hA hh1 HHS
 go_in
 go_upto_region 3 with (at_builtin;refine wpList_append_lies _ rfl (.tmp 13) (.tmp 14) 64 rfl 0 5 i0 (.int .u8 0) 1 1 Tryz.underlying64 hi0 hz0 hz1 hz2 rfl (by omega) (.slice ao n cap) n _ rfl (uh HOW1) ⟨w.heap.size,0,none⟩ 1 1 [.int .u8 ((0:Nat):Int)] rfl rfl (uh HNW) (by intro u hu;simp at hu;subst hu;rfl) (by omega) (by unfold maxLen;omega) (by omega) (by omega) (w.heap.size+1) (by simp) ?_;intro gb cap2 w3 ho3 hg3 hl3 hlt3;have hne3:(Value.slice ao n cap).ownBlock≠some g:=(fun e=>two_ne ht (uh HH1) (uh HOW1) e rfl);have hst3:w3.heap[g]? =some (.cells (#[.slice ao n cap,.int .i64 (0:Nat)]++R) t (0,0)):=(hg3.block g (two_lt (uh HH1)) (fun e=>hne3 e.symm)).trans (uh HH1);have hcc:=two_c0 hst3;have hcc1:=two_c1 hst3;have hff:=frozen_of_row w3 g 0 _ _ hst3;have hff1:=frozen_of_row w3 g 1 _ _ hst3;have HST3:=hide hst3;have HO3:=hide ho3;have HG3:=hide hg3;have HL3:=hide hl3;clear ho3 hg3 hl3 hst3 hne3)
 have hst4:((w3.setCell ⟨g,0,none⟩ (.slice (some ⟨gb,0,none⟩) (n+1) cap2)).setCell ⟨g,1,none⟩ (.int .i64 8)).heap[g]? =some (.cells (#[.slice (some ⟨gb,0,none⟩) (n+1) cap2,.int .i64 8]++R) t (0,0)):=two_s1 (two_s0 (uh HST3) _) _
 have hne:gb≠g:=two_ne ht (uh HST3) (uh HO3) rfl
 have how4:((w3.setCell ⟨g,0,none⟩ (.slice (some ⟨gb,0,none⟩) (n+1) cap2)).setCell ⟨g,1,none⟩ (.int .i64 8)).ownsRow 0 5 1 (.slice (some ⟨gb,0,none⟩) (n+1) cap2) (n+1) (xs++[.int .u8 ((0:Nat):Int)]):=
  own_kept (own_kept (uh HO3) (only_set w3 g 0 _) (fun b' hb' e=>by injection hb' with hb';exact hne (hb'.trans e))) (only_set _ g 1 _) (fun b' hb' e=>by injection hb' with hb';exact hne (hb'.trans e))
 have hO4:Only S w ((w3.setCell ⟨g,0,none⟩ (.slice (some ⟨gb,0,none⟩) (n+1) cap2)).setCell ⟨g,1,none⟩ (.int .i64 8)):=by
  have hw4:Only S w w3:=(Only.refl S w|>.alloc (.cells #[.int .u8 (0:Int)] 5)).grown (uh HG3) (fun k _ hk=>by
   cases ao with
   |none=>cases hk
   |some b=>injection hk with hk;subst hk;exact uh HSA b rfl)
  exact (hw4.setCell (p:=⟨g,0,none⟩) (fun _=>hSg) _).setCell (p:=⟨g,1,none⟩) (fun _=>hSg) _
 have hSb:S gb:=by
  rcases uh HL3 with h5|h5
  ·cases ao with
   |none=>cases h5
   |some b=>injection h5 with h5;rw[←h5];exact uh HSA b rfl
  rw[h5];exact hF _ (by omega)
 have hxn:(xs++[Value.int .u8 ((0:Nat):Int)])[n]? =some (.int .u8 ((0:Nat):Int)):=by rw[←hbl];simp
 have hce:((w3.setCell ⟨g,0,none⟩ (.slice (some ⟨gb,0,none⟩) (n+1) cap2)).setCell ⟨g,1,none⟩ (.int .i64 8)).cell? ⟨gb,n,none⟩=some (.int .u8 ((0:Nat):Int)):=by
  have h1:=how4.cells rfl n _ hxn
  rw[Addr.add_lit,Nat.zero_add] at h1
  exact h1
 generalize (w3.setCell ⟨g,0,none⟩ (.slice (some ⟨gb,0,none⟩) (n+1) cap2)).setCell ⟨g,1,none⟩ (.int .i64 8)=w4 at*
 have hc40:=two_c0 hst4
 have hc41:=two_c1 hst4
 have hfb:w4.frozen? ⟨gb,n,none⟩=false:=by obtain ⟨cur,hg⟩:=own_heap how4 (b:=gb) rfl;exact frozen_of_row w4 gb _ _ _ hg
 have HST4:=hide hst4
 have HOW4:=hide how4
 have HO4:=hide hO4
 have hn0:(0:Int)≤(n:Int):=by omega
 have hnn:(n:Int)<(n:Int)+1:=by omega
 clear hst4 how4 hO4 hcc hcc1 hff hff1 HST3 HO3 HG3 HL3 HH1 HOW1 hc0 hc1 hxn
 generalize hn1e:n+1=n1 at*
 have hn1I:(n1:Int)- 1=(n:Int):=by omega
 have hnlt:(n:Int)<(n1:Int):=by omega
 have hwn:IntKind.i64.wrap (n:Int)=(n:Int):=i64_wrap_nat n (by omega)
 clear hn1 hnn hn1e
 have HSW:w4.drew.cell? ⟨g,0,none⟩=some (.slice (some ⟨gb,0,none⟩) n1 cap2)∧w4.drew.cell? ⟨g,1,none⟩=some (.int .i64 8)∧w4.drew.cell? ⟨gb,n,none⟩=some (.int .u8 0):=⟨hc40,hc41,hce⟩
 refine wp_region_last (S:=fun W=>W.cell? ⟨g,0,none⟩=some (.slice (some ⟨gb,0,none⟩) n1 cap2)∧W.cell? ⟨g,1,none⟩=some (.int .i64 8)∧W.cell? ⟨gb,n,none⟩=some (.int .u8 0)) (L:=22) (by kernel_rfl) ?_
 refine tk 0 23 (.pointer (some ⟨g,0,none⟩)) 21 HSW ?_
 refine tk 1 23 (.pointer (some ⟨g,0,none⟩)) 22 HSW ?_
 refine tk 2 23 (.pointer (some ⟨g,0,none⟩)) 23 HSW ?_
 refine tk 3 23 (.slice (some ⟨gb,0,none⟩) n1 cap2) 24 HSW ?_
 refine tk 4 23 (.pointer (some ⟨g,0,none⟩)) 25 HSW ?_
 refine tk 5 23 (.pointer (some ⟨g,0,none⟩)) 26 HSW ?_
 refine tk 6 23 (.pointer (some ⟨g,0,none⟩)) 27 HSW ?_
 refine tk 7 23 (.slice (some ⟨gb,0,none⟩) n1 cap2) 28 HSW ?_
 refine tk 8 23 (.int .i64 n1) 29 HSW ?_
 refine tk 9 23 (.int .i64 n) 30 HSW ?_
 refine tk 10 23 (.pointer (some ⟨gb,n,none⟩)) 31 HSW ?_
 refine tk 11 23 (.int .u8 0) 32 HSW ?_
 refine tk 12 23 (.int .i64 b) 33 HSW ?_
 refine tk 13 23 (.pointer (some ⟨g,0,none⟩)) 34 HSW ?_
 refine tk 14 23 (.pointer (some ⟨g,0,none⟩)) 35 HSW ?_
 refine tk 15 23 (.pointer (some ⟨g,1,none⟩)) 36 HSW ?_
 refine tk 16 23 (.int .i64 8) 37 HSW ?_
 refine tk 17 23 (.int .i64 0) 38 HSW ?_
 refine tk 18 23 (.int .i64 b) 39 HSW ?_
 refine tk 19 23 (.int .u8 b) 40 HSW ?_
 refine tk 20 23 (.int .u8 b) 41 HSW ?_
 refine tk 21 23 (.pointer (some ⟨gb,n,none⟩)) 42 HSW ?_
 refine wpAnyL_one (i:=22) (by kernel_rfl) ?_
 refine wpOp_step rfl (fun K' hK=> ?_)
 go_simp
 refine hK _ _ ⟨fun h=>absurd rfl h, ?_⟩
 clear hK
 refine wpAnyL_done (by kernel_rfl) ?_
 have hst:(w4.setCell ⟨gb,n,none⟩ (.int .u8 (b:Int))).drew.heap[g]? =some (.cells (#[.slice (some ⟨gb,0,none⟩) n1 cap2,.int .i64 8]++R) t (0,0)):=(Below.heap_setCell _ _ _ _ (fun e=>hne e.symm)).trans (uh HST4)
 have how5:(w4.setCell ⟨gb,n,none⟩ (.int .u8 (b:Int))).drew.ownsRow 0 5 1 (.slice (some ⟨gb,0,none⟩) n1 cap2) n1 ((xs++[Value.int .u8 ((0:Nat):Int)]).set n (.int .u8 (b:Int))):=own_set (uh HOW4)
 have hO5:Only S w (w4.setCell ⟨gb,n,none⟩ (.int .u8 (b:Int))).drew:=((uh HO4).setCell (p:=⟨gb,n,none⟩) (fun _=>hSb) _).drew
 generalize (w4.setCell ⟨gb,n,none⟩ (.int .u8 (b:Int))).drew=w5 at*
 have hc13:=two_c1 hst
 have hf13:w5.frozen? ⟨g,1,none⟩=false:=frozen_of_row w5 g 1 _ _ hst
 have HST:=hide hst
 have HOW5:=hide how5
 have HO5:=hide hO5
 clear hst how5 hO5 HSW hc40 hc41 hce hfb
 go_wp2_with fail
 go_end0
 refine ⟨rfl,(uh HO5).setCell (p:=⟨g,1,none⟩) (fun _=>hSg) _,some ⟨gb,0,none⟩,cap2, ?_, ?_,fun b' hb' =>by injection hb' with hb';subst hb';exact hSb⟩
 ·rw[(uh HLEN).1,List.length_append,show ([b]:List Nat).length=1 from rfl,(uh HLEN).2]
  exact two_s1 (uh HST) _
 rw[(uh HLEN).1,uh HBC]
 exact own_kept (uh HOW5) (only_set w5 g 1 _) (fun b' hb' e=>by injection hb' with hb';exact hne (hb'.trans e))
open Go.RowKit Go.Maps
theorem bitW(g:Nat)(t:TypeId)(ht:t≠5)(R:Array Value)(S:Nat→Prop)(hSg:S g)(B:List Nat)(hB:Bin B)(hl:B.length≤1000000)(b:Nat)(hb:b<2)(w:World)(hF:Fresh S w)(h:Wr w g t R S B):
 Calls Tryz.prog 211 #[.pointer (some ⟨g,0,none⟩),.int .i64 b] w fun r w' =>r=.returned (.tuple #[])∧Only S w w' ∧Wr w' g t R S (B++[b]):=by
 by_cases h8:B.length%8=0
 ·exact bitW_new g t ht R S hSg B hl h8 b hb w hF h
 exact bitW_in g t ht R S hSg B hB hl h8 b hb w h
theorem Bin.nil:Bin []:=fun x hx=>by cases hx
theorem Wr.mono{w:World}{g:Nat}{t:TypeId}{R:Array Value}{S S' :Nat→Prop}{B:List Nat}(h:Wr w g t R S B)(hs: ∀k,S k→S' k):Wr w g t R S' B:=by
 obtain ⟨ao,cap,hh,how,hsa⟩:=h
 exact ⟨ao,cap,hh,how,fun b hb=>hs _ (hsa b hb)⟩
theorem shr_bit(v i:Nat)(hv:v<9223372036854775808):bits .and .i64 (((v/2^i:Nat):Int)) 1=((v/2^i%2:Nat):Int):=by
 have h1:v/2^i<9223372036854775808:=Nat.lt_of_le_of_lt (Nat.div_le_self _ _) hv
 have:=i64_and_nat (v/2^i) 1 h1 (by omega)
 rw[Nat.and_one_is_mod] at this
 exact this
theorem numberW(g:Nat)(t:TypeId)(ht:t≠5)(R:Array Value)(S:Nat→Prop)(hSg:S g)(B:List Nat)(hB:Bin B)(hl:B.length+16≤1000000)(v n:Nat)(hv:v≤1000000)(hn:n≤16)(w:World)(hF:Fresh S w)(h:Wr w g t R S B):
 Calls Tryz.prog 181 #[.pointer (some ⟨g,0,none⟩),.int .i64 v,.int .i64 n] w fun r w' =>r=.returned (.tuple #[])∧Only S w w' ∧Wr w' g t R S (B++numB v n):=by
 have HW:=hide h
 clear h
 go_in
 go_wp2_with fail
 go_loopw [8] (fun x wr=> ∃i:Nat,i≤n∧x=.int .i64 i∧Hid (Wr wr g t R S (B++numB v i))∧Hid (Only S w wr)) (fun x _=>n- (intOf x).toNat)
 ·exact ⟨0,by omega,rfl,by rw[show numB v 0=[] from rfl,List.append_nil];exact HW,Only.refl _ w⟩
 obtain ⟨i,hi,rfl,HW,HO⟩:=hrel
 by_cases hlt:i<n
 ·have hltI:(i:Int)<(n:Int):=by omega
  have hi0:(0:Int)≤(i:Int):=by omega
  have hi64:(i:Int)<64:=by omega
  have htn:((i:Nat):Int).toNat=i:=Int.toNat_natCast i
  have hsh:(v:Int)/2^i=((v/2^i:Nat):Int):=by rw[Int.natCast_ediv,Int.natCast_pow];rfl
  have hsb:=shr_bit v i (by omega)
  have hbl:v/2^i%2<2:=Nat.mod_lt _ (by omega)
  have HB:=hide (bitW g t ht R S hSg (B++numB v i) (hB.append (numB_bin _ _)) (by rw[List.length_append,numB_len];omega) (v/2^i%2) hbl wr (hF.mono (uh HO).size) (uh HW))
  have HN:Hid (B++numB v i++[v/2^i%2]=B++numB v (i+1)):=by unfold Hid;rw[numB_succ,List.append_assoc]
  generalize v/2^i%2=b at HB HN hsb hbl
  generalize v/2^i=q at hsh hsb
  go_wp2_with fail
  refine (uh HB).mono ?_
  rintro r w1 ⟨rfl,ho1,hw1⟩
  have HW1:=hide hw1
  have HO1:=hide ho1
  clear hw1 ho1
  go_wp2_with fail
  go_roundw
  ·exact ⟨i+1,by omega,by go_num,by rw[←uh HN];exact HW1,(uh HO).trans (uh HO1)⟩
  case measure=>simp[intOf];omega
 have hltI:¬(i:Int)<(n:Int):=by omega
 have hie:i=n:=by omega
 subst hie
 go_wp2_with fail
 go_end0
 exact ⟨rfl,HO,HW⟩
theorem codeB_succ(v n i:Nat)(h:i<n):(codeB v n).take (i+1)=(codeB v n).take i++[v/2^(n- 1- i)%2]:=by
 rw[take_getD _ _ (by rw[codeB_len];exact h),codeB_get _ _ _ h]
theorem codeW(g:Nat)(t:TypeId)(ht:t≠5)(R:Array Value)(S:Nat→Prop)(hSg:S g)(B:List Nat)(hB:Bin B)(hl:B.length+16≤1000000)(v n:Nat)(hv:v≤1000000)(hn:n≤15)(w:World)(hF:Fresh S w)(h:Wr w g t R S B):
 Calls Tryz.prog 217 #[.pointer (some ⟨g,0,none⟩),.agg #[.int .i64 v,.int .i64 n]] w fun r w' =>r=.returned (.tuple #[])∧Only S w w' ∧Wr w' g t R S (B++codeB v n):=by
 have hgl:g<w.heap.size:=by obtain ⟨ao,cap,hh,_,_⟩:=h;exact two_lt hh
 have hA:Only (fun _=>False) w (w.alloc (.cells #[.int .i64 (v:Int),.int .i64 (n:Int)] 225)):=(Only.refl _ w).alloc _
 have hbx:(w.alloc (.cells #[.int .i64 (v:Int),.int .i64 (n:Int)] 225)).heap[w.heap.size]? =some (.cells #[.int .i64 (v:Int),.int .i64 (n:Int)] 225 (0,0)):=Go.heap_alloc_new w _
 have HW:Hid (Wr (w.alloc (.cells #[.int .i64 (v:Int),.int .i64 (n:Int)] 225)) g t R (fun k=>S k∧k≠w.heap.size) B):=by
  obtain ⟨ao,cap,hh,how,hsa⟩:=h
  refine ⟨ao,cap,(hA.block g (two_lt hh) (fun x=>x)).trans hh,own_old how hA,fun b hb=>⟨hsa b hb, ?_⟩⟩
  subst hb
  obtain ⟨cur,hg⟩:=own_heap how (b:=b.block) rfl
  have:=(Array.getElem?_eq_some_iff.1 hg).1
  omega
 have hs0:(w.alloc (.cells #[.int .i64 (v:Int),.int .i64 (n:Int)] 225)).heap.size=w.heap.size+1:=by simp only[World.size_alloc]
 have HO:=hide (Only.oldS (S:=S) hA)
 have HF2:Hid (Fresh (fun k=>S k∧k≠w.heap.size) (w.alloc (.cells #[.int .i64 (v:Int),.int .i64 (n:Int)] 225))):=fun k hk=>⟨hF k (by omega),by omega⟩
 have hW0: ∃w0,w0=w.alloc (.cells #[.int .i64 (v:Int),.int .i64 (n:Int)] 225):=⟨_,rfl⟩
 have HBX:=hide hbx
 clear h hA hbx
 have hw1:IntKind.i64.wrap ((n:Int)- 1)=(n:Int)- 1:=by rw[IntKind.wrap_i64];omega
 go_in
 go_wp2_with fail
 go_loopw [4] (fun x wr=> ∃i:Nat,i≤n∧x=.int .i64 ((n:Int)- 1- i)∧Hid (Wr wr g t R (fun k=>S k∧k≠w.heap.size) (B++(codeB v n).take i))∧Hid (wr.heap[w.heap.size]? =some (.cells #[.int .i64 (v:Int),.int .i64 (n:Int)] 225 (0,0)))∧Hid (Only S w wr)∧Hid (Fresh (fun k=>S k∧k≠w.heap.size) wr)) (fun x _=>((intOf x)+1).toNat)
 ·exact ⟨0,by omega,by go_num,by rw[List.take_zero,List.append_nil];exact HW,HBX,HO,HF2⟩
 obtain ⟨i,hi,rfl,HW,HBX,HO,HF2⟩:=hrel
 by_cases hlt:i<n
 ·obtain ⟨j,hj⟩: ∃j,j=n- 1- i:=⟨_,rfl⟩
  have hjI:(n:Int)- 1- i=(j:Int):=by omega
  have hj0:(0:Int)≤(j:Int):=by omega
  have hj64:(j:Int)<64:=by omega
  have htn:((j:Nat):Int).toNat=j:=Int.toNat_natCast j
  have hwj:IntKind.i64.wrap ((j:Int)- 1)=(j:Int)- 1:=by rw[IntKind.wrap_i64];omega
  have hsh:(v:Int)/2^j=((v/2^j:Nat):Int):=by rw[Int.natCast_ediv,Int.natCast_pow];rfl
  have hsb:=shr_bit v j (by omega)
  have hbl:v/2^j%2<2:=Nat.mod_lt _ (by omega)
  have hcv:=cell_of_row wr w.heap.size 0 _ _ (0,0) (uh HBX)
  have hcv1:wr.cell? ⟨w.heap.size,0,none⟩=some (.int .i64 (v:Int)):=hcv
  have HB:=hide (bitW g t ht R _ ⟨hSg,by omega⟩ (B++(codeB v n).take i) (hB.append (fun x hx=>codeB_bin v n x (List.mem_of_mem_take hx))) (by rw[List.length_append,List.length_take,codeB_len];omega) (v/2^j%2) hbl wr (uh HF2) (uh HW))
  have HN:Hid (B++(codeB v n).take i++[v/2^j%2]=B++(codeB v n).take (i+1)):=by unfold Hid;rw[codeB_succ v n i hlt,hj,List.append_assoc]
  have HJ:Hid ((j:Int)- 1=(n:Int)- 1- ((i+1:Nat):Int)):=by unfold Hid;omega
  have hbk:=two_lt (R:= #[]) (w:=wr) (g:=w.heap.size) (t:=225) (a:=.int .i64 (v:Int)) (b:=.int .i64 (n:Int)) (uh HBX)
  rw[hjI]
  generalize v/2^j%2=b at HB HN hsb hbl
  generalize v/2^j=q at hsh hsb
  clear hj hcv
  go_wp2_with fail
  refine (uh HB).mono ?_
  rintro r w1 ⟨rfl,ho1,hw1⟩
  have HW1:=hide hw1
  have HO1:Hid (Only S w w1):=(uh HO).trans (ho1.mono (fun _ _ h=>h.1))
  have HBX1:=hide ((ho1.block w.heap.size hbk (fun h=>h.2 rfl)).trans (uh HBX))
  have HF3:=hide ((uh HF2).mono ho1.size)
  clear hw1 ho1 HB
  go_wp2_with fail
  go_roundw
  ·exact ⟨i+1,by omega,by rw[←uh HJ],by rw[←uh HN];exact HW1,HBX1,HO1,HF3⟩
  simp[intOf]
 have hie:i=n:=by omega
 have HOE:=hide (uh HO)
 have HWQ:=hide (uh HW)
 clear HO HW
 subst hie
 have hneg:¬(0:Int)≤(i:Int)- 1- i:=by omega
 have HWE:Hid (Wr wr g t R S (B++codeB v i)):=by have:=uh HWQ;rw[List.take_of_length_le (by rw[codeB_len];exact Nat.le_refl _)] at this;exact this.mono (fun _ h=>h.1)
 go_wp2_with fail
 go_end0
 exact ⟨rfl,HOE,HWE⟩
theorem skipW(g:Nat)(t:TypeId)(ht:t≠5)(R:Array Value)(S:Nat→Prop)(hSg:S g)(B:List Nat)(w:World)(h:Wr w g t R S B):
 Calls Tryz.prog 180 #[.pointer (some ⟨g,0,none⟩)] w fun r w' =>r=.returned (.tuple #[])∧Only S w w' ∧Wr w' g t R S (B++List.replicate (8*((B.length+7)/8)- B.length) 0):=by
 obtain ⟨ao,cap,hh,how,hsa⟩:=h
 have hc1:=two_c1 hh
 have hf1:w.frozen? ⟨g,1,none⟩=false:=frozen_of_row w g 1 _ _ hh
 have hne: ∀k,(Value.slice ao (packB B).length cap).ownBlock=some k→k≠g:=fun k hk=>two_ne ht hh how hk
 have HP:Hid (packB (B++List.replicate (8*((B.length+7)/8)- B.length) 0)=packB B):=packB_pad B _ (by omega)
 have HZ:Hid (8*(packB B).length- (B++List.replicate (8*((B.length+7)/8)- B.length) 0).length=0):=by unfold Hid;rw[packB_len,List.length_append,List.length_replicate];omega
 have HH:=hide hh
 have HOW:=hide how
 have HSA:=hide hsa
 have HNE:=hide hne
 clear hh how hsa hne
 go_in
 go_wp2_with fail
 go_end0
 refine ⟨rfl,(Only.refl S w).setCell (p:=⟨g,1,none⟩) (fun _=>hSg) _,ao,cap, ?_, ?_,uh HSA⟩
 ·rw[uh HP,uh HZ];exact two_s1 (uh HH) _
 rw[uh HP];exact own_kept (uh HOW) (only_set w g 1 _) (uh HNE)
theorem headW(g:Nat)(t:TypeId)(ht:t≠5)(R:Array Value)(S:Nat→Prop)(hSg:S g)(k:Nat)(hk:k<4)(w:World)(hF:Fresh S w)(h:Wr w g t R S []):
 Calls Tryz.prog 179 #[.pointer (some ⟨g,0,none⟩),.int .i64 k] w fun r w' =>r=.returned (.tuple #[])∧Only S w w' ∧Wr w' g t R S (1::numB k 2):=by
 have H1:=hide (numberW g t ht R S hSg [] Bin.nil (by simp) 1 1 (by omega) (by omega) w hF h)
 go_in
 go_wp2_with fail
 refine (uh H1).mono ?_
 rintro r w1 ⟨rfl,ho1,hw1⟩
 have H2:=hide (numberW g t ht R S hSg _ (Bin.nil.append (numB_bin 1 1)) (by simp[numB_len]) k 2 (by omega) (by omega) w1 (hF.mono ho1.size) hw1)
 have HO1:=hide ho1
 clear H1 ho1 hw1 h
 go_wp2_with fail
 refine (uh H2).mono ?_
 rintro r w2 ⟨rfl,ho2,hw2⟩
 have HO2:=hide ((uh HO1).trans ho2)
 have HW2:=hide hw2
 clear H2 ho2 hw2
 go_wp2_with fail
 go_end0
 exact ⟨rfl,HO2,HW2⟩
theorem leastLenC(y:Nat)(h1:257≤y)(h2:y≤285)(w:World):
 Calls Tryz.prog 224 #[.int .i64 y] w fun r w' =>r=.returned (.int .i64 (lenBase y))∧w' =w:=by
 have H:=hide (lengthC_ok y h1 h2 w)
 go_in
 go_wp2_with fail
 refine (uh H).mono ?_
 rintro r w1 ⟨rfl,rfl⟩
 clear H
 go_wp2_with fail
 go_ret
 exact ⟨rfl,rfl⟩
theorem leastDistC(d:Nat)(h:d≤29)(w:World):
 Calls Tryz.prog 225 #[.int .i64 d] w fun r w' =>r=.returned (.int .i64 (dstBase d))∧w' =w:=by
 have H:=hide (distC_ok d h w)
 go_in
 go_wp2_with fail
 refine (uh H).mono ?_
 rintro r w1 ⟨rfl,rfl⟩
 clear H
 go_wp2_with fail
 go_ret
 exact ⟨rfl,rfl⟩
theorem ofLenC(n:Nat)(w:World):
 Calls Tryz.prog 215 #[.int .i64 n] w fun r w' =>r=.returned (.int .i64 (symOf n))∧Old w w' :=by
 have HL:=hide (fun (y:Nat) (h1:257≤y) (h2:y≤285) (W:World)=>leastLenC y h1 h2 W)
 go_in
 go_wp2_with fail
 go_loopw [3] (fun x wr=> ∃k:Nat,k≤28∧x=.int .i64 ((257+k:Nat):Int)∧Hid (symOf n=symGoN n k)∧Hid (Old w wr)) (fun x _=>(intOf x).toNat)
 ·exact ⟨28,by omega,rfl,rfl,Only.refl _ w⟩
 obtain ⟨k,hk,rfl,HS,HO⟩:=hrel
 cases k with
 |zero=>
  have e:symOf n=257:=uh HS
  have hz:(((257+0:Nat):Int))=257:=rfl
  have HE:=hide e
  rw[hz]
  clear e
  go_wp2_with fail
  go_ret
  rw[uh HE]
  exact ⟨rfl,HO⟩
 |succ k=>
  have HC:=hide (fun W=>uh HL (257+(k+1)) (by omega) (by omega) W)
  have hgt:(257:Int)<((257+(k+1):Nat):Int):=by omega
  have hdn:((257+(k+1):Nat):Int)- 1=((257+k:Nat):Int):=by omega
  have hstep:symOf n=if n<lenBase (257+(k+1)) then symGoN n k else 257+(k+1):=uh HS
  have hwr:IntKind.i64.wrap ((257+k:Nat):Int)=((257+k:Nat):Int):=i64_wrap_nat _ (by omega)
  have hlt1:257+k<257+(k+1):=by omega
  generalize hq:lenBase (257+(k+1))=q at HC hstep
  generalize hy:257+(k+1)=y at HC hgt hdn hstep hlt1
  generalize hy2:257+k=y2 at hdn hwr hlt1
  by_cases hlt:n<q
  ·rw[if_pos hlt] at hstep
   have hqI:(n:Int)<(q:Int):=by omega
   have HST:=hide hstep
   clear HS hstep hq hy
   go_wp2_with (go_at_call 224;refine (uh HC _).mono ?_;rintro r w1 ⟨rfl,rfl⟩)
   go_roundw
   ·exact ⟨k,by omega,by rw[hy2],HST,HO⟩
   case measure=>simp[intOf];omega
  rw[if_neg hlt] at hstep
  have hqI:¬(n:Int)<(q:Int):=by omega
  have HE:=hide hstep
  clear HS hstep hq hy
  go_wp2_with (go_at_call 224;refine (uh HC _).mono ?_;rintro r w1 ⟨rfl,rfl⟩)
  go_ret
  rw[uh HE]
  exact ⟨rfl,HO⟩
theorem ofDistC(n:Nat)(w:World):
 Calls Tryz.prog 216 #[.int .i64 n] w fun r w' =>r=.returned (.int .i64 (dsymOf n))∧Old w w' :=by
 have HL:=hide (fun (y:Nat) (h1:y≤29) (W:World)=>leastDistC y h1 W)
 go_in
 go_wp2_with fail
 go_loopw [3] (fun x wr=> ∃k:Nat,k≤29∧x=.int .i64 (k:Int)∧Hid (dsymOf n=dsymGo n k)∧Hid (Old w wr)) (fun x _=>(intOf x).toNat)
 ·exact ⟨29,by omega,rfl,rfl,Only.refl _ w⟩
 obtain ⟨k,hk,rfl,HS,HO⟩:=hrel
 cases k with
 |zero=>
  have e:dsymOf n=0:=uh HS
  have hz:(((0:Nat):Int))=0:=rfl
  have HE:=hide e
  rw[hz]
  clear e
  go_wp2_with fail
  go_ret
  rw[uh HE]
  exact ⟨rfl,HO⟩
 |succ k=>
  have HC:=hide (fun W=>uh HL (k+1) (by omega) W)
  have hgt:(0:Int)<((k+1:Nat):Int):=by omega
  have hdn:((k+1:Nat):Int)- 1=(k:Int):=by omega
  have hstep:dsymOf n=if n<dstBase (k+1) then dsymGo n k else k+1:=uh HS
  have hwr:IntKind.i64.wrap (k:Int)=(k:Int):=i64_wrap_nat _ (by omega)
  have hlt1:k<k+1:=by omega
  generalize hq:dstBase (k+1)=q at HC hstep
  generalize hy:k+1=y at HC hgt hdn hstep hlt1
  by_cases hlt:n<q
  ·rw[if_pos hlt] at hstep
   have hqI:(n:Int)<(q:Int):=by omega
   have HST:=hide hstep
   clear HS hstep hq hy
   go_wp2_with (go_at_call 225;refine (uh HC _).mono ?_;rintro r w1 ⟨rfl,rfl⟩)
   go_roundw
   ·exact ⟨k,by omega,rfl,HST,HO⟩
   case measure=>simp[intOf];omega
  rw[if_neg hlt] at hstep
  have hqI:¬(n:Int)<(q:Int):=by omega
  have HE:=hide hstep
  clear HS hstep hq hy
  go_wp2_with (go_at_call 225;refine (uh HC _).mono ?_;rintro r w1 ⟨rfl,rfl⟩)
  go_ret
  rw[uh HE]
  exact ⟨rfl,HO⟩
theorem run_loadVar_part{P:Program}(w:World)(g off:Nat)(ty:TypeId)(cs:List Value)(d:TypeDesc)(hc: ∀j v,cs[j]? =some v→w.cell? ⟨g,off+j,none⟩=some v)
 (hu:P.underlying ty=some d)(hd:(match d with| .struct _| .array _ _=>true|_=>false)=true)(hi:(P.info? ty).map (·.size)=some cs.length):
 (loadVar ty ⟨g,off,none⟩).run P w=.ok (.agg cs.toArray) w:=by
 have hl:(loadCells ⟨g,off,none⟩ cs.length).run P w=.ok cs.toArray w:=
  run_loadCells_list (P:=P) w ⟨g,off,none⟩ cs (fun j v hv=>by rw[Addr.add_lit];exact hc j v hv)
 cases hq:P.info? ty with
 |none=>simp[hq] at hi
 |some i=>
  have hs:i.size=cs.length:=by simpa [hq] using hi
  have hagg:(isAgg ty).run P w=.ok true w:=by
   unfold isAgg
   rw[Sem.run_bind,run_underlying hu w]
   cases d<;>simp_all
  simp[loadVar,Sem.run_bind,hagg,sizeOf,typeInfo,hq,hs,hl]
theorem wpList_load_part{P:Program}{ops:Array Oper}{rest:List Oper}{o:Oper}{a:Act}{w:World}{Q:Exit→Act→World→Prop}(hgd:o.guard=none)(ty:TypeId)(x:Operand)(ho:o.op=.load ty x)
 (g off:Nat)(hx:a.eval x=.pointer (some ⟨g,off,none⟩))(cs:List Value)(d:TypeDesc)(hc: ∀j v,cs[j]? =some v→w.cell? ⟨g,off+j,none⟩=some v)
 (hu:P.underlying ty=some d)(hd:(match d with| .struct _| .array _ _=>true|_=>false)=true)(hi:(P.info? ty).map (·.size)=some cs.length)
 (h:wpList P ops Q rest (a.put o.dst (.agg cs.toArray)) w):wpList P ops Q (o::rest) a w:=
 wpList_plain hgd fun K hK=>by
  unfold Oper.wp execOp
  simp only[ho,hx,Instr.loadAt,Instr.sureAddr,Sem.run_bind,Sem.run_pure,Result.andThen_ok,run_loadVar_part w g off ty cs d hc hu hd hi]
  exact hK _ _ h
theorem info16:(Tryz.prog.info? 183).map (·.size)=some 16:=by kernel_rfl
theorem run_index16(cs:Array Value)(i:Nat)(v:Value)(hi:i<16)(hv:cs[i]? =some v)(W:World):(Instr.index 183 (.agg cs) (.int .i64 (i:Int))).run Tryz.prog W=.ok v W:=by
 have hu:Tryz.prog.underlying 183=some (.array 16 147):=Tryz.underlying183
 have hs:(sizeOf 147).run Tryz.prog W=.ok 1 W:=by kernel_rfl
 have hg:¬16≤i:=by omega
 simp[Instr.index,run_underlying hu,asIntOf,hs,_root_.Go.part,hv,hg,go_sem]
theorem run_mem{L:List Nat}{n r:Nat}(h:r<(runL L n).length):(runL L n).getD r 0<L.length∧L.getD ((runL L n).getD r 0) 0=n:=by
 have hm:(runL L n).getD r 0∈runL L n:=by rw[List.getD_eq_getElem?_getD,List.getElem?_eq_getElem h,Option.getD_some];exact List.getElem_mem _
 have:=List.mem_filter.1 (show _∈(List.range L.length).filter _ from hm)
 exact ⟨List.mem_range.1 this.1,by simpa using this.2⟩
theorem run_inj{L:List Nat}{n r r' :Nat}(h:r<(runL L n).length)(h' :r' <(runL L n).length)(e:(runL L n).getD r 0=(runL L n).getD r' 0):r=r' :=by
 have hn:(runL L n).Nodup:=List.Nodup.sublist List.filter_sublist List.nodup_range
 rw[List.getD_eq_getElem?_getD,List.getD_eq_getElem?_getD,List.getElem?_eq_getElem h,List.getElem?_eq_getElem h',Option.getD_some,Option.getD_some] at e
 have hp:=List.pairwise_iff_getElem.1 hn
 rcases Nat.lt_trichotomy r r' with hl|hl|hl
 ·exact absurd e (hp r r' h h' hl)
 ·exact hl
 exact absurd e.symm (hp r' r h' h hl)
def CodAt(w:World)(gl:Nat)(L:List Nat)(k j:Nat):Prop:=
 ∃cur:Array Value,w.heap[gl]? =some (.cells cur 225 (0,0))∧cur.size=2*L.length∧
  ∀n r,1≤n→(n<k∨(n=k∧r<j))→r<(runL L n).length→cur[2*(runL L n).getD r 0]? =some (.int .i64 (firstL L n+r:Nat))∧cur[2*(runL L n).getD r 0+1]? =some (.int .i64 (n:Nat))
theorem CodAt.kept{w w' :World}{gl:Nat}{L:List Nat}{k j:Nat}{S:Nat→Prop}(h:CodAt w gl L k j)(ho:Only S w w')(hs:¬S gl):CodAt w' gl L k j:=by
 obtain ⟨cur,hg,r⟩:=h
 exact ⟨cur,(ho.block gl (Array.getElem?_eq_some_iff.1 hg).1 hs).trans hg,r⟩
theorem CodAt.cells{w:World}{gl:Nat}{L:List Nat}{k j:Nat}(h:CodAt w gl L k j)(i:Nat)(hi:i<2*L.length):(∃v,w.cell? ⟨gl,i,none⟩=some v)∧w.frozen? ⟨gl,i,none⟩=false:=by
 obtain ⟨cur,hg,hs,_⟩:=h
 exact ⟨⟨cur[i]'(by omega),by rw[cell_of_row w gl i cur _ _ hg,Array.getElem?_eq_getElem (by omega)]⟩,frozen_of_row w gl i _ _ hg⟩
theorem CodAt.next{w:World}{gl:Nat}{L:List Nat}{k j:Nat}(h:CodAt w gl L k j)(hj:j<(runL L k).length):
 CodAt ((w.setCell ⟨gl,2*(runL L k).getD j 0,none⟩ (.int .i64 (firstL L k+j:Nat))).setCell ⟨gl,2*(runL L k).getD j 0+1,none⟩ (.int .i64 (k:Nat))) gl L k (j+1):=by
 obtain ⟨cur,hg,hs,hc⟩:=h
 have hm:=run_mem hj
 refine ⟨_,heap_setCell_same _ gl _ _ _ _ (heap_setCell_same w gl _ cur _ _ hg),by rw[Array.size_setIfInBounds,Array.size_setIfInBounds];exact hs,fun n r hn hlt hr=> ?_⟩
 have hmr:=run_mem hr
 rw[Array.getElem?_setIfInBounds,Array.getElem?_setIfInBounds,Array.getElem?_setIfInBounds,Array.getElem?_setIfInBounds,Array.size_setIfInBounds]
 by_cases e:(runL L k).getD j 0=(runL L n).getD r 0
 ·have ek:n=k:=by rw[←hmr.2,←e,hm.2]
  subst ek
  have er:j=r:=run_inj hj hr e
  subst er
  rw[if_neg (by omega),if_pos rfl,if_pos (by omega),if_pos rfl,if_pos (by omega)]
  exact ⟨rfl,rfl⟩
 rw[if_neg (by omega),if_neg (by omega),if_neg (by omega),if_neg (by omega)]
 refine hc n r hn ?_ hr
 rcases hlt with h1|⟨h1,h2⟩
 ·exact .inl h1
 subst h1
 right
 refine ⟨rfl, ?_⟩
 rcases Nat.lt_or_ge r j with h3|h3
 ·exact h3
 have:r=j:=by omega
 subst this
 exact absurd rfl e
theorem CodAt.turn{w:World}{gl:Nat}{L:List Nat}{k j:Nat}(h:CodAt w gl L k j)(hj:(runC L k).length≤j):CodAt w gl L (k+1) 0:=by
 obtain ⟨cur,hg,hs,hc⟩:=h
 refine ⟨cur,hg,hs,fun n r hn hlt hr=>hc n r hn ?_ hr⟩
 rcases hlt with h1|⟨_,h2⟩
 ·rcases Nat.lt_or_ge n k with h3|h3
  ·exact .inl h3
  have e:n=k:=by omega
  subst e
  rw[runC,if_neg (by omega)] at hj
  exact .inr ⟨rfl,by omega⟩
 omega
theorem infoC2:(Tryz.prog.info? 225).map (fun i=>(i.zero,i.size,i.bytes))=some (some (.agg #[.int .i64 0,.int .i64 0]),2,16):=by kernel_rfl
theorem codesC(gs:Nat)(K:Nat→Prop)(L:List Nat)(hL:L.length≤400)(w:World)(h:SetAt w gs K L):
 Calls Tryz.prog 223 #[.pointer (some ⟨gs,0,none⟩),.int .i64 L.length] w fun r w' =>r=.returned (.slice (some ⟨w.heap.size,0,none⟩) L.length L.length)∧Old w w' ∧CodAt w' w.heap.size L 16 0:=by
 have hgl:=h.lt
 obtain ⟨cur,hg,hk,hf,hr⟩:=h
 obtain ⟨i0,hi0,hz0,hz1,hz2⟩:=info_parts infoC2
 have hmk:(Instr.makeSlice 208 (.int .i64 (L.length:Int)) (.int .i64 (L.length:Int))).run Tryz.prog w=.ok (.slice (some ⟨w.heap.size,0,none⟩) L.length L.length) (w.alloc (.cells (madeCells #[.int .i64 0,.int .i64 0] (L.length*2)) 225)):=by
  have h:=run_make (P:=Tryz.prog) w 208 225 i0 _ Tryz.underlying208 hi0 hz0 .i64 .i64 L.length L.length (by omega) (by omega) (by rw[hz2];omega) (by omega)
  rw[hz1,Int.toNat_natCast] at h
  exact h
 have hcs: ∀n v,((List.range 16).map (fun n=>(cur[16+n]?).getD undef))[n]? =some v→n≤15∧cur[16+n]? =some v:=by
  intro n v hv
  rcases Nat.lt_or_ge n 16 with h16|h16
  ·obtain ⟨ao,cap,h1,_⟩:=hr n (by omega)
   simp only[List.getElem?_map,List.getElem?_range h16,Option.map_some,h1,Option.getD_some] at hv
   exact ⟨by omega,by rw[h1];exact hv⟩
  rw[List.getElem?_eq_none (by simp;omega)] at hv;cases hv
 have hAg: ∀n,n≤15→ ∃ao cap,((List.range 16).map (fun n=>(cur[16+n]?).getD undef)).toArray[n]? =some (.slice ao (runC L n).length cap)∧ ∀j,j<(runC L n).length→ ∃b,ao=some ⟨b,0,none⟩∧b<w.heap.size∧w.cell? ⟨b,j,none⟩=some (.int .i64 ((runC L n).getD j 0:Nat)):=by
  intro n hn
  obtain ⟨ao,cap,h1,h2⟩:=hr n hn
  refine ⟨ao,cap, ?_,fun j hj=> ?_⟩
  ·rw[List.getElem?_toArray]
   simp only[List.getElem?_map,List.getElem?_range (show n<16 by omega),Option.map_some,h1,Option.getD_some]
  obtain ⟨b,hb,_,hc⟩:=h2 j hj
  exact ⟨b,hb,cell_lt hc,hc⟩
 have HAG:=hide hAg
 have hld: ∀j v,((List.range 16).map (fun n=>(cur[16+n]?).getD undef))[j]? =some v→(w.alloc (.cells (madeCells #[.int .i64 0,.int .i64 0] (L.length*2)) 225)).cell? ⟨gs,16+j,none⟩=some v:=by
  intro j v hv
  rw[((Only.refl (fun _=>False) w).alloc _).cell (p:=⟨gs,16+j,none⟩) hgl (fun x=>x),cell_of_row w gs (16+j) cur _ (0,0) hg]
  exact (hcs j v hv).2
 have HF:Hid (∀n,n≤15→w.cell? ⟨gs,n,none⟩=some (.int .i64 (firstL L n:Nat))):=fun n hn=>by rw[cell_of_row w gs n cur _ (0,0) hg];exact hf n hn
 have HC0:Hid (CodAt (w.alloc (.cells (madeCells #[.int .i64 0,.int .i64 0] (L.length*2)) 225)) w.heap.size L 0 0):=
  ⟨_,Go.heap_alloc_new w _,by simp[madeCells];omega,fun n r hn hlt hr=>by omega⟩
 have HO0:Hid (Old w (w.alloc (.cells (madeCells #[.int .i64 0,.int .i64 0] (L.length*2)) 225))):=(Only.refl _ w).alloc _
 have hln:((List.range 16).map (fun n=>(cur[16+n]?).getD undef)).length=16:=by simp
 have HLD:=hide hld
 clear hg hk hf hr hcs hAg hld
 generalize (List.range 16).map (fun n=>(cur[16+n]?).getD undef)=A at*
 have hiA:(Tryz.prog.info? 183).map (·.size)=some A.length:=by rw[hln];exact info16
 go_in
 go_wp2_with (refine wpList_load_part rfl 183 (.tmp 14) rfl gs 16 rfl A _ (uh HLD) Tryz.underlying183 rfl hiA ?_)
 clear hmk HLD hln hiA
 go_loopw [6,7,8,9,16] (fun _ _ _ _ z wr=> ∃i:Nat,i≤16∧z=.int .i64 i∧Hid (CodAt wr w.heap.size L i 0)∧Hid (Old w wr)) (fun _ _ _ _ z _=>16- (intOf z).toNat)
 ·exact ⟨0,by omega,rfl,HC0,HO0⟩
 obtain ⟨i,hi,rfl,HC,HO⟩:=hrel
 by_cases hlt:i<16
 ·have hltI:(i:Int)<16:=by omega
  obtain ⟨ao,cap,hA,hcell⟩:=uh HAG i (by omega)
  have hix:=run_index16 A.toArray i _ hlt hA
  have hrl:(runC L i).length≤400:=by unfold runC;split;simp;exact Nat.le_trans (runL_len L i) hL
  have HCELL:=hide hcell
  have HFI:=hide (uh HF i (by omega))
  have HRC:Hid (i≠0→runC L i=runL L i):=fun h=>if_neg h
  have HR0:Hid (i=0→(runC L i).length=0):=fun h=>by subst h;rfl
  clear hcell hA
  go_wp2_with fail
  clear hix
  go_loopw [8,9,22] (fun _ _ z wr=> ∃j:Nat,j≤(runC L i).length∧z=.int .i64 j∧Hid (CodAt wr w.heap.size L i j)∧Hid (Old w wr)) (fun _ _ z _=>(runC L i).length- (intOf z).toNat)
  ·exact ⟨0,by omega,rfl,HC,HO⟩
  obtain ⟨j,hj,rfl,HC,HO⟩:=hrel
  by_cases hjl:j<(runC L i).length
  ·have hjI:(j:Int)<((runC L i).length:Int):=by omega
   obtain ⟨b,hb,hbl,hcb⟩:=uh HCELL j hjl
   subst hb
   have hi0:i≠0:=fun e=>by have:=uh HR0 e;omega
   have hrc:=uh HRC hi0
   rw[hrc] at hjl hcb
   have hm:=run_mem hjl
   have hcb2:wr.cell? ⟨b,j,none⟩=some (.int .i64 ((runL L i).getD j 0:Nat)):=((uh HO).cell (p:=⟨b,j,none⟩) hbl (fun x=>x)).trans hcb
   have hcf2:wr.cell? ⟨gs,i,none⟩=some (.int .i64 (firstL L i:Nat)):=((uh HO).cell (p:=⟨gs,i,none⟩) hgl (fun x=>x)).trans (uh HFI)
   have hfl:firstL L i≤52428800:=by
    have h3:=firstL_le L i
    have hp:2^(i+1)≤2^16:=Nat.pow_le_pow_right (by omega) (by omega)
    have:2^(i+1)*L.length≤65536*400:=Nat.mul_le_mul (by omega) hL
    omega
   have HNX:=hide ((uh HC).next hjl)
   obtain ⟨⟨v1,hv1⟩,hfz1⟩:=(uh HC).cells (2*(runL L i).getD j 0) (by omega)
   obtain ⟨⟨v2,hv2⟩,hfz2⟩:=(uh HC).cells (2*(runL L i).getD j 0+1) (by omega)
   have hyl:=hm.1
   clear hm hcb
   generalize (runL L i).getD j 0=y at*
   generalize firstL L i=f at*
   have hyI:(y:Int)<(L.length:Int):=by omega
   have hy0:(0:Int)≤(y:Int):=by omega
   have hwf:IntKind.i64.wrap ((f:Int)+(j:Int))=(f:Int)+(j:Int):=by rw[IntKind.wrap_i64];omega
   have hy2:y*2=2*y:=Nat.mul_comm _ _
   have HNO:=hide (((uh HO).setCell (p:=⟨w.heap.size,2*y,none⟩) (fun hh=>absurd hh (Nat.lt_irrefl _)) (.int .i64 ((f:Int)+(j:Int)))).setCell (p:=⟨w.heap.size,2*y+1,none⟩) (fun hh=>absurd hh (Nat.lt_irrefl _)) (.int .i64 (i:Int)))
   rw[Int.natCast_add] at HNX
   go_wp2_with fail
   go_roundw
   ·exact ⟨j+1,by rw[hrc];omega,by go_num,HNX,HNO⟩
   case measure=>simp[intOf];omega
  have hjI:¬(j:Int)<((runC L i).length:Int):=by omega
  have HCT:=hide ((uh HC).turn (by omega))
  go_wp2_with fail
  go_roundw
  ·exact ⟨i+1,by omega,by go_num,HCT,HO⟩
  case measure=>simp[intOf];omega
 have hltI:¬(i:Int)<16:=by omega
 have hie:i=16:=by omega
 have HCE:Hid (CodAt wr w.heap.size L 16 0):=by have:=uh HC;rw[hie] at this;exact this
 clear HC hie
 go_wp2_with fail
 go_ret
 exact ⟨rfl,HO,HCE⟩
theorem listedC(gl off cap:Nat)(L:List Nat)(hL:L.length≤400)(h15: ∀j,L.getD j 0≤15)(w:World)(hI:Ints w gl off L):
 Calls Tryz.prog 212 #[.slice (some ⟨gl,off,none⟩) L.length cap] w fun r w' => ∃g,r=.returned (.slice (some ⟨g,0,none⟩) L.length L.length)∧Old w w' ∧CodAt w' g L 16 0∧w.heap.size≤g:=by
 have HM:=hide (makeC gl off cap L hL h15 w hI)
 go_in
 go_wp2_with fail
 refine (uh HM).mono ?_
 rintro r w1 ⟨rfl,ho1,hs1⟩
 have HC:=hide (codesC w.heap.size _ L hL w1 hs1)
 have HO1:=hide ho1
 clear HM ho1 hs1 hI
 go_wp2_with fail
 refine (uh HC).mono ?_
 rintro r w2 ⟨rfl,ho2,hc2⟩
 have HO2:Hid (Old w w2):=(uh HO1).trans ho2
 have HC2:=hide hc2
 have HSZ:=hide (uh HO1).size
 clear HC ho2 hc2
 go_wp2_with fail
 go_ret
 exact ⟨w1.heap.size,rfl,HO2,HC2,HSZ⟩
def FixAt(w:World)(gS gD:Nat):Prop:=
 gS<w.heap.size∧gD<w.heap.size∧(∀y,y<288→w.cell? ⟨gS,2*y,none⟩=some (.int .i64 (fixV y:Nat))∧w.cell? ⟨gS,2*y+1,none⟩=some (.int .i64 (fixN y:Nat)))∧
  ∀d,d<32→w.cell? ⟨gD,2*d,none⟩=some (.int .i64 (d:Nat))∧w.cell? ⟨gD,2*d+1,none⟩=some (.int .i64 (5:Nat))
theorem FixAt.kept{w w' :World}{gS gD:Nat}{S:Nat→Prop}(h:FixAt w gS gD)(ho:Only S w w')(h1:¬S gS)(h2:¬S gD):FixAt w' gS gD:=by
 obtain ⟨a,b,c,d⟩:=h
 have hs:=ho.size
 refine ⟨by omega,by omega,fun y hy=> ?_,fun y hy=> ?_⟩
 ·rw[ho.cell (p:=⟨gS,2*y,none⟩) a h1,ho.cell (p:=⟨gS,2*y+1,none⟩) a h1];exact c y hy
 rw[ho.cell (p:=⟨gD,2*y,none⟩) b h2,ho.cell (p:=⟨gD,2*y+1,none⟩) b h2];exact d y hy
theorem CodAt.lt{w:World}{gl:Nat}{L:List Nat}{k j:Nat}(h:CodAt w gl L k j):gl<w.heap.size:=by
 obtain ⟨cur,hg,_⟩:=h;exact (Array.getElem?_eq_some_iff.1 hg).1
theorem CodAt.get{w:World}{gl:Nat}{L:List Nat}(h:CodAt w gl L 16 0){n r y v:Nat}(h1:1≤n)(h15:n≤15)(hr:r<(runL L n).length)(hy:(runL L n).getD r 0=y)(hv:firstL L n+r=v):
 w.cell? ⟨gl,2*y,none⟩=some (.int .i64 (v:Nat))∧w.cell? ⟨gl,2*y+1,none⟩=some (.int .i64 (n:Nat)):=by
 obtain ⟨cur,hg,hs,hc⟩:=h
 have:=hc n r h1 (.inl (by omega)) hr
 rw[hy,hv] at this
 rw[cell_of_row w gl _ cur _ (0,0) hg,cell_of_row w gl _ cur _ (0,0) hg]
 exact this
theorem fix_of{w:World}{gS gD:Nat}(hS:CodAt w gS fixL 16 0)(hD:CodAt w gD fixD 16 0):FixAt w gS gD:=by
 refine ⟨hS.lt,hD.lt,fun y hy=> ?_,fun d hd=> ?_⟩
 ·unfold fixV fixN
  by_cases h1:y<144
  ·rw[if_pos h1,if_pos h1]
   exact hS.get (n:=8) (r:=y) (by omega) (by omega) (by rw[run8];simp;omega) (by rw[run8,List.getD_eq_getElem?_getD,List.getElem?_append_left (by simpa using h1)];simp[h1]) (by rw[first8])
  rw[if_neg h1,if_neg h1]
  by_cases h2:y<256
  ·rw[if_pos h2,if_pos h2]
   exact hS.get (n:=9) (r:=y- 144) (by omega) (by omega) (by rw[run9];simp;omega) (by rw[run9,getD_map_range _ _ _ (by omega)];omega) (by rw[first9])
  rw[if_neg h2,if_neg h2]
  by_cases h3:y<280
  ·rw[if_pos h3,if_pos h3]
   exact hS.get (n:=7) (r:=y- 256) (by omega) (by omega) (by rw[run7];simp;omega) (by rw[run7,getD_map_range _ _ _ (by omega)];omega) (by rw[first_low 7 (by omega)];omega)
  rw[if_neg h3,if_neg h3]
  exact hS.get (n:=8) (r:=144+(y- 280)) (by omega) (by omega) (by rw[run8];simp;omega) (by rw[run8,List.getD_eq_getElem?_getD,List.getElem?_append_right (by simp),←List.getD_eq_getElem?_getD,getD_map_range _ _ _ (by simp;omega)];simp;omega) (by rw[first8];omega)
 exact hD.get (n:=5) (r:=d) (by omega) (by omega) (by rw[runD5];simp;omega) (by rw[runD5,List.getD_eq_getElem?_getD];simp[hd]) (by rw[firstD_low 5 (by omega)];omega)
abbrev pkT:TypeId:=210
theorem newPackerC(w:World):
 Calls Tryz.prog 182 #[] w fun r w' => ∃g gS gD,r=.returned (.pointer (some ⟨g,0,none⟩))∧Old w w' ∧w.heap.size≤gS∧w.heap.size≤gD∧gS<g∧gD<g∧w'.heap.size=g+1∧FixAt w' gS gD∧
  w'.heap[g]? =some (.cells (#[.slice none 0 0,.int .i64 0]++ #[.slice (some ⟨gS,0,none⟩) 288 288,.slice (some ⟨gD,0,none⟩) 32 32]) pkT (0,0)):=by
 have H1:=hide (fixedSymC w)
 go_in
 go_wp2_with fail
 refine (uh H1).mono ?_
 rintro r w1 ⟨rfl,hi1,ho1⟩
 have H2:=hide (listedC w.heap.size 0 288 fixL (by rw[fixL_len];omega) fixL_15 w1 hi1)
 rw[fixL_len] at H2
 have HO1:=hide ho1
 clear H1 ho1 hi1
 go_wp2_with fail
 refine (uh H2).mono ?_
 rintro r w2 ⟨gS,rfl,ho2,hc2,hgS⟩
 have H3:=hide (fixedDistC w2)
 have HO2:Hid (Old w w2):=(uh HO1).trans ho2
 have HC2:=hide hc2
 have hs1:=(uh HO1).size
 clear H2 ho2 hc2 HO1
 go_wp2_with fail
 refine (uh H3).mono ?_
 rintro r w3 ⟨rfl,hi3,ho3⟩
 have H4:=hide (listedC w2.heap.size 0 32 fixD (by rw[fixD_len];omega) fixD_15 w3 hi3)
 rw[fixD_len] at H4
 have HO3:Hid (Old w w3):=(uh HO2).trans ho3
 have HC3:=hide ((uh HC2).kept ho3 (fun x=>x))
 clear H3 ho3 hi3 HO2 HC2
 go_wp2_with fail
 refine (uh H4).mono ?_
 rintro r w4 ⟨gD,rfl,ho4,hc4,hgD⟩
 have HO4:Hid (Old w w4):=(uh HO3).trans ho4
 have HF4:=hide (fix_of ((uh HC3).kept ho4 (fun x=>x)) hc4)
 have hs3:=(uh HO3).size
 clear H4 ho4 hc4 HO3 HC3
 go_wp2_with fail
 go_ret
 refine ⟨w4.heap.size,gS,gD,rfl,(uh HO4).alloc _,by omega,by omega,(uh HF4).1,(uh HF4).2.1,by simp only[World.size_alloc],(uh HF4).kept ((Only.refl (fun _=>False) w4).alloc _) (fun x=>x) (fun x=>x), ?_⟩
 exact Go.heap_alloc_new w4 _
abbrev pkR(gS gD:Nat):Array Value:= #[.slice (some ⟨gS,0,none⟩) 288 288,.slice (some ⟨gD,0,none⟩) 32 32]
def Pk(w:World)(g gS gD:Nat)(S:Nat→Prop)(B:List Nat):Prop:=Wr w g pkT (pkR gS gD) S B∧FixAt w gS gD
theorem Pk.c2{w:World}{g gS gD:Nat}{S:Nat→Prop}{B:List Nat}(h:Pk w g gS gD S B):w.cell? ⟨g,2,none⟩=some (.slice (some ⟨gS,0,none⟩) 288 288):=by
 obtain ⟨⟨ao,cap,hh,_,_⟩,_⟩:=h
 rw[cell_of_row w g 2 _ _ (0,0) hh];rfl
theorem Pk.c3{w:World}{g gS gD:Nat}{S:Nat→Prop}{B:List Nat}(h:Pk w g gS gD S B):w.cell? ⟨g,3,none⟩=some (.slice (some ⟨gD,0,none⟩) 32 32):=by
 obtain ⟨⟨ao,cap,hh,_,_⟩,_⟩:=h
 rw[cell_of_row w g 3 _ _ (0,0) hh];rfl
theorem pkT_ne:pkT≠5:=by decide
theorem symbolP(g gS gD:Nat)(S:Nat→Prop)(hSg:S g)(h1:¬S gS)(h2:¬S gD)(B:List Nat)(hB:Bin B)(hl:B.length+16≤1000000)(y:Nat)(hy:y<288)(w:World)(hF:Fresh S w)(h:Pk w g gS gD S B):
 Calls Tryz.prog 186 #[.pointer (some ⟨g,0,none⟩),.int .i64 y] w fun r w' =>r=.returned (.tuple #[])∧Only S w w' ∧Pk w' g gS gD S (B++symB y):=by
 have hc2:=h.c2
 obtain ⟨hcv,hcn⟩:=h.2.2.2.1 y hy
 have HFX:=hide h.2
 have hvl:fixV y≤1000:=by unfold fixV;repeat (first|split|omega)
 have HC:=hide (fun k=>codeW g pkT pkT_ne (pkR gS gD) S hSg B hB hl (fixV y) (fixN y) (by omega) (Nat.le_trans (fixN_le y) (by omega)) (w.drewN k) hF h.1)
 have HSB:Hid (codeB (fixV y) (fixN y)=symB y):=rfl
 clear h
 generalize fixV y=v at*
 generalize fixN y=n at*
 have hyI:(y:Int)<288:=by omega
 have hy0:(0:Int)≤(y:Int):=by omega
 have hy2:y*2=2*y:=Nat.mul_comm _ _
 go_in
 go_upto_region 0 with fail
 have HSW:w.drew.cell? ⟨g,2,none⟩=some (.slice (some ⟨gS,0,none⟩) 288 288)∧w.drew.cell? ⟨gS,2*y,none⟩=some (.int .i64 v)∧w.drew.cell? ⟨gS,2*y+1,none⟩=some (.int .i64 n):=⟨hc2,hcv,hcn⟩
 refine wp_region_last (S:=fun W=>W.cell? ⟨g,2,none⟩=some (.slice (some ⟨gS,0,none⟩) 288 288)∧W.cell? ⟨gS,2*y,none⟩=some (.int .i64 v)∧W.cell? ⟨gS,2*y+1,none⟩=some (.int .i64 n)) (L:=10) (by kernel_rfl) ?_
 refine tk 0 11 (.pointer (some ⟨g,0,none⟩)) 4 HSW ?_
 refine tk 1 11 (.pointer (some ⟨g,0,none⟩)) 5 HSW ?_
 refine tk 2 11 (.pointer (some ⟨g,0,none⟩)) 6 HSW ?_
 refine tk 3 11 (.pointer (some ⟨g,0,none⟩)) 7 HSW ?_
 refine tk 4 11 (.pointer (some ⟨g,0,none⟩)) 8 HSW ?_
 refine tk 5 11 (.pointer (some ⟨g,2,none⟩)) 9 HSW ?_
 refine tk 6 11 (.slice (some ⟨gS,0,none⟩) 288 288) 10 HSW ?_
 refine tk 7 11 (.int .i64 y) 11 HSW ?_
 refine tk 8 11 (.pointer (some ⟨gS,2*y,none⟩)) 12 HSW ?_
 refine tk 9 11 (.agg #[.int .i64 v,.int .i64 n]) 13 HSW ?_
 refine wpAnyL_one (i:=10) (by kernel_rfl) ?_
 refine wpOp_step rfl (fun K' hK=> ?_)
 go_simp
 refine (uh HC 1).mono ?_
 rintro r w1 ⟨rfl,ho1,hw1⟩
 refine hK _ _ ⟨fun h=>absurd rfl h, ?_⟩
 clear hK
 refine wpAnyL_done (by kernel_rfl) ?_
 have HO1:Hid (Only S w w1):=((Only.refl S w).drewN 1).trans ho1
 have HW1:=hide hw1
 clear HC ho1 hw1 HSW
 go_wp2_with fail
 go_end0
 exact ⟨rfl,HO1,by rw[←uh HSB];exact uh HW1,(uh HFX).kept (uh HO1) h1 h2⟩
theorem copyP(g gS gD:Nat)(S:Nat→Prop)(hSg:S g)(h1:¬S gS)(h2:¬S gD)(B:List Nat)(hB:Bin B)(hl:B.length+80≤1000000)(len far:Nat)(h3:3≤len)(h258:len≤258)(hf1:1≤far)(hf2:far≤20000)(w:World)(hF:Fresh S w)(h:Pk w g gS gD S B):
 Calls Tryz.prog 185 #[.pointer (some ⟨g,0,none⟩),.int .i64 len,.int .i64 far] w fun r w' =>r=.returned (.tuple #[])∧Only S w w' ∧Pk w' g gS gD S (B++tokB (.inr (len,far))):=by
 obtain ⟨hs1,hs2,hs3,hs4,hs5⟩:=symOf_ok len h3 h258
 obtain ⟨hd1,hd2,hd3⟩:=dsymOf_ok far hf1 (by omega)
 have hd13:=of_decide_eq_true (List.all_eq_true.1 dst13_all _ (List.mem_range.2 (show dsymOf far<30 by omega)))
 have H1:=hide (ofLenC len w)
 have HTB:Hid (B++symB (symOf len)++numB (len- lenBase (symOf len)) (lenBits (symOf len))++codeB (dsymOf far) 5++numB (far- dstBase (dsymOf far)) (dstBits (dsymOf far))=B++tokB (.inr (len,far))):=by
  unfold Hid;simp only[tokB,dstB,List.append_assoc]
 have HP:=hide h
 clear h
 have hsl:(symB (symOf len)).length≤9:=by rw[symB_len];exact fixN_le _
 have hsb:Bin (symB (symOf len)):=codeB_bin _ _
 have H2:=hide (fun W=>lengthC_ok (symOf len) hs1 hs2 W)
 have H5:=hide (fun W=>distC_ok (dsymOf far) hd1 W)
 have hy288:symOf len<288:=by omega
 have hy30:dsymOf far<32:=by omega
 generalize hss:symOf len=sy at*
 generalize hdd:dsymOf far=y at*
 generalize lenBase sy=lb at*
 generalize hlbb:lenBits sy=lk at*
 generalize dstBase y=db at*
 generalize dstBits y=dk at*
 have HDD:=hide hdd
 clear hss hdd hs4 hd3
 have hlb:IntKind.i64.wrap ((len:Int)- (lb:Int))=((len- lb:Nat):Int):=by rw[IntKind.wrap_i64];omega
 have hdb:IntKind.i64.wrap ((far:Int)- (db:Int))=((far- db:Nat):Int):=by rw[IntKind.wrap_i64];omega
 have hlv:len- lb≤1000000:=by omega
 have hdv:far- db≤1000000:=by omega
 have hlk:lk≤16:=by omega
 generalize len- lb=lv at*
 generalize far- db=dv at*
 have hyI:(y:Int)<32:=by omega
 have hy0:(0:Int)≤(y:Int):=by omega
 have hy2:y*2=2*y:=Nat.mul_comm _ _
 go_in
 go_wp2_with fail
 refine (uh H1).mono ?_
 rintro r w1 ⟨rfl,ho1⟩
 have HO1:=hide (Only.oldS (S:=S) ho1)
 have HF1:=hide (hF.mono ho1.size)
 have HP1:Hid (Pk w1 g gS gD S B):=by
  obtain ⟨⟨ao,cap,hh,how,hsa⟩,hfx⟩:=uh HP
  exact ⟨⟨ao,cap,(ho1.block g (two_lt hh) (fun x=>x)).trans hh,own_old how ho1,hsa⟩,hfx.kept ho1 (fun x=>x) (fun x=>x)⟩
 clear H1 ho1 HP
 go_wp2_with fail
 refine (uh H2 _).mono ?_
 rintro r w2 ⟨rfl,rfl⟩
 have H3:=hide (symbolP g gS gD S hSg h1 h2 B hB (by omega) sy hy288 w2 (uh HF1) (uh HP1))
 clear H2
 go_wp2_with fail
 refine (uh H3).mono ?_
 rintro r w3 ⟨rfl,ho3,hp3⟩
 have H4:=hide (numberW g pkT pkT_ne (pkR gS gD) S hSg _ (hB.append hsb) (by rw[List.length_append];omega) lv lk hlv hlk w3 ((uh HF1).mono ho3.size) hp3.1)
 have HFX3:=hide hp3.2
 have HO3:=hide ((uh HO1).trans ho3)
 have HF3:=hide ((uh HF1).mono ho3.size)
 clear H3 ho3 hp3 HP1 HF1
 go_wp2_with fail
 refine (uh H4).mono ?_
 rintro r w4 ⟨rfl,ho4,hw4⟩
 have HFX4:=hide ((uh HFX3).kept ho4 h1 h2)
 have HO4:=hide ((uh HO3).trans ho4)
 have HF4:=hide ((uh HF3).mono ho4.size)
 have HW4:=hide hw4
 have H6:=hide (ofDistC far w4)
 clear H4 ho4 hw4 HFX3 HF3 HO3
 rw[uh HDD] at H6
 go_wp2_with fail
 refine (uh H6).mono ?_
 rintro r w5 ⟨rfl,ho5⟩
 have HO5:=hide ((uh HO4).trans (Only.oldS ho5))
 have HF5:=hide ((uh HF4).mono ho5.size)
 have HP5:Hid (Pk w5 g gS gD S (B++symB sy++numB lv lk)):=by
  obtain ⟨ao,cap,hh,how,hsa⟩:=uh HW4
  exact ⟨⟨ao,cap,(ho5.block g (two_lt hh) (fun x=>x)).trans hh,own_old how ho5,hsa⟩,(uh HFX4).kept ho5 (fun x=>x) (fun x=>x)⟩
 clear H6 ho5 HO4 HF4 HW4 HFX4
 go_wp2_with fail
 refine (uh H5 _).mono ?_
 rintro r w6 ⟨rfl,rfl⟩
 go_upto_region 6 with fail
 have hc3:=(uh HP5).c3
 obtain ⟨hcv,hcn⟩:=(uh HP5).2.2.2.2 y hy30
 have HC:=hide (fun k=>codeW g pkT pkT_ne (pkR gS gD) S hSg (B++symB sy++numB lv lk) ((hB.append hsb).append (numB_bin _ _)) (by rw[List.length_append,List.length_append,numB_len];omega) y 5 (by omega) (by omega) (w6.drewN k) (uh HF5) (uh HP5).1)
 have HSW:w6.drew.cell? ⟨g,3,none⟩=some (.slice (some ⟨gD,0,none⟩) 32 32)∧w6.drew.cell? ⟨gD,2*y,none⟩=some (.int .i64 y)∧w6.drew.cell? ⟨gD,2*y+1,none⟩=some (.int .i64 5):=⟨hc3,hcv,hcn⟩
 refine wp_region_last (S:=fun W=>W.cell? ⟨g,3,none⟩=some (.slice (some ⟨gD,0,none⟩) 32 32)∧W.cell? ⟨gD,2*y,none⟩=some (.int .i64 y)∧W.cell? ⟨gD,2*y+1,none⟩=some (.int .i64 5)) (L:=10) (by kernel_rfl) ?_
 refine tk 0 11 (.pointer (some ⟨g,0,none⟩)) 37 HSW ?_
 refine tk 1 11 (.pointer (some ⟨g,0,none⟩)) 38 HSW ?_
 refine tk 2 11 (.pointer (some ⟨g,0,none⟩)) 39 HSW ?_
 refine tk 3 11 (.pointer (some ⟨g,0,none⟩)) 40 HSW ?_
 refine tk 4 11 (.pointer (some ⟨g,0,none⟩)) 41 HSW ?_
 refine tk 5 11 (.pointer (some ⟨g,3,none⟩)) 42 HSW ?_
 refine tk 6 11 (.slice (some ⟨gD,0,none⟩) 32 32) 43 HSW ?_
 refine tk 7 11 (.int .i64 y) 44 HSW ?_
 refine tk 8 11 (.pointer (some ⟨gD,2*y,none⟩)) 45 HSW ?_
 refine tk 9 11 (.agg #[.int .i64 y,.int .i64 5]) 46 HSW ?_
 refine wpAnyL_one (i:=10) (by kernel_rfl) ?_
 refine wpOp_step rfl (fun K' hK=> ?_)
 go_simp
 refine (uh HC 1).mono ?_
 rintro r w7 ⟨rfl,ho7,hw7⟩
 refine hK _ _ ⟨fun h=>absurd rfl h, ?_⟩
 clear hK
 refine wpAnyL_done (by kernel_rfl) ?_
 have HO7:Hid (Only S w w7):=((uh HO5).drewN 1).trans ho7
 have HF7:=hide ((uh HF5).mono (Nat.le_trans (Nat.le_refl _) ho7.size))
 have HFX7:=hide ((uh HP5).2.kept (((Only.refl S w6).drewN 1).trans ho7) h1 h2)
 have H8:=hide (numberW g pkT pkT_ne (pkR gS gD) S hSg (B++symB sy++numB lv lk++codeB y 5) (((hB.append hsb).append (numB_bin _ _)).append (codeB_bin _ _)) (by rw[List.length_append,List.length_append,List.length_append,numB_len,codeB_len];omega) dv dk hdv (by omega) w7 (uh HF7) hw7)
 clear HC ho7 hw7 HSW hc3 hcv hcn HP5 HF5 HO5
 go_wp2_with fail
 refine (uh H8).mono ?_
 rintro r w8 ⟨rfl,ho8,hw8⟩
 have HO8:=hide ((uh HO7).trans ho8)
 have HFX8:=hide ((uh HFX7).kept ho8 h1 h2)
 have HW8:=hide hw8
 clear H8 ho8 hw8 HO7 HFX7 HF7
 go_wp2_with fail
 go_end0
 exact ⟨rfl,HO8,by rw[←uh HTB];exact uh HW8,HFX8⟩
end Go.Proofs.YtfbgamknfommpaaGreatDoor
