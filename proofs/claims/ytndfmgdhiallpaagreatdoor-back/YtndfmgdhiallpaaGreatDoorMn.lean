import Derived.Test.YtndfmgdhiallpaaGreatDoorMm
import Derived.Test.YtndfmgdhiallpaaGreatDoorMi
import Derived.Deep.RegionHeld3
import Derived.Deep.AppendLies
import Derived.Test.YtndfmgdhiallpaaGreatDoorMl
set_option maxRecDepth 100000
set_option maxHeartbeats 2000000
namespace Go.Proofs.YtndfmgdhiallpaaGreatDoor
open Go.RowKit
theorem own_set{w:World}{b n cp i:Nat}{xs:List Value}{u:Value}(h:w.ownsRow 0 5 1 (.slice (some ⟨b,0,none⟩) n cp) n xs):(w.setCell ⟨b,i,none⟩ u).ownsRow 0 5 1 (.slice (some ⟨b,0,none⟩) n cp) n (xs.set i u):=by
 obtain ⟨hl,hc⟩:=h
 refine ⟨by rw[List.length_set];exact hl, ?_⟩
 rcases hc with ⟨h1,_⟩|⟨g,cap,cur,hv,hb,hg,hn,hm,hs,ht⟩
 ·cases h1
 injection hv with h1 h2 h3
 injection h1 with h1;injection h1 with h1
 subst h1 h3
 refine .inr ⟨b,cp,cur.setIfInBounds i u,rfl,hb,heap_setCell_same w b i cur 5 u hg,hn,hm,by rw[Array.size_setIfInBounds];exact hs, ?_⟩
 rw[Array.toList_setIfInBounds,List.take_set,ht]
def Wr(w:World)(g:Nat)(t:TypeId)(R:Array Value)(S:Nat→Prop)(B:List Nat):Prop:=
 ∃ao cap,w.heap[g]? =some (.cells (#[.slice ao (packB B).length cap,.int .i64 ((8*(packB B).length- B.length:Nat):Int)]++R) t (0,0))∧
  w.ownsRow 0 5 1 (.slice ao (packB B).length cap) (packB B).length (byteCells8 (packB B))∧ ∀b:Addr,ao=some b→S b.block
theorem two_get0(a b:Value)(R:Array Value):(#[a,b]++R)[0]? =some a:=by rw[Array.getElem?_append_left (show 0< #[a,b].size from Nat.two_pos)];rfl
theorem two_get1(a b:Value)(R:Array Value):(#[a,b]++R)[1]? =some b:=by rw[Array.getElem?_append_left (show 1< #[a,b].size from Nat.lt_succ_self 1)];rfl
theorem two_set0(a b v:Value)(R:Array Value):(#[a,b]++R).setIfInBounds 0 v= #[v,b]++R:=by
 apply Array.ext';simp
theorem two_set1(a b v:Value)(R:Array Value):(#[a,b]++R).setIfInBounds 1 v= #[a,v]++R:=by
 apply Array.ext';simp
section
variable {w:World} {g:Nat} {t:TypeId} {R:Array Value} {a b:Value}
theorem two_c0(h:w.heap[g]? =some (.cells (#[a,b]++R) t (0,0))):w.cell? ⟨g,0,none⟩=some a:=by rw[cell_of_row w g 0 _ _ (0,0) h];exact two_get0 _ _ _
theorem two_c1(h:w.heap[g]? =some (.cells (#[a,b]++R) t (0,0))):w.cell? ⟨g,1,none⟩=some b:=by rw[cell_of_row w g 1 _ _ (0,0) h];exact two_get1 _ _ _
theorem two_s0(h:w.heap[g]? =some (.cells (#[a,b]++R) t (0,0)))(v:Value):(w.setCell ⟨g,0,none⟩ v).heap[g]? =some (.cells (#[v,b]++R) t (0,0)):=by
 rw[heap_setCell_same w g 0 _ _ v h,two_set0]
theorem two_s1(h:w.heap[g]? =some (.cells (#[a,b]++R) t (0,0)))(v:Value):(w.setCell ⟨g,1,none⟩ v).heap[g]? =some (.cells (#[a,v]++R) t (0,0)):=by
 rw[heap_setCell_same w g 1 _ _ v h,two_set1]
theorem two_lt(h:w.heap[g]? =some (.cells (#[a,b]++R) t (0,0))):g<w.heap.size:=(Array.getElem?_eq_some_iff.1 h).1
theorem two_ne(ht:t≠5)(h:w.heap[g]? =some (.cells (#[a,b]++R) t (0,0))){v:Value}{n:Nat}{xs:List Value}(ho:w.ownsRow 0 5 1 v n xs){k:Nat}(hk:v.ownBlock=some k):k≠g:=by
 rintro rfl
 obtain ⟨cur,hg⟩:=own_heap ho hk
 rw[h] at hg
 injection hg with hg;injection hg with _ h2;exact ht h2
end
theorem or_byte{c b f:Nat}(hc:c<2^f)(hb:b<2)(hf:f<8):bits .or .u8 (c:Int) ((b*2^f:Nat):Int)=((c+b*2^f:Nat):Int):=by
 have hp:2^f≤2^7:=Nat.pow_le_pow_right (by omega) (by omega)
 have hbp:b*2^f≤1*2^f:=Nat.mul_le_mul_right _ (by omega)
 rw[u8_or_nat _ _ (by omega) (by omega),Nat.or_comm,nat_join f (b*2^f) c (by simp) hc,Nat.add_comm]
theorem oct_top{B:List Nat}:oct B (B.length/8) 8=oct B (B.length/8) (B.length%8):=by
 have g: ∀m,oct B (B.length/8) (B.length%8+m)=oct B (B.length/8) (B.length%8):=by
  intro m
  induction m with
  |zero=>rfl
  |succ m ih=>rw[←Nat.add_assoc,oct,ih,getD_none B _ (by omega)];omega
 have:=g (8- B.length%8)
 rw[show B.length%8+(8- B.length%8)=8 by omega] at this
 exact this
theorem pack_last{B:List Nat}(h:B.length%8≠0):(packB B).getD ((packB B).length- 1) 0=b8 (oct B (B.length/8) 8):=by
 rw[List.getD_eq_getElem?_getD,packB_len,packB_get B _ (by omega),show (B.length+7)/8- 1=B.length/8 by omega];rfl
theorem bitW_in(g:Nat)(t:TypeId)(ht:t≠5)(R:Array Value)(S:Nat→Prop)(hSg:S g)(B:List Nat)(hB:Bin B)(hl:B.length≤1000000)(h8:B.length%8≠0)(b:Nat)(hb:b<2)(w:World)(h:Wr w g t R S B):
 Calls Tryz.prog 225 #[.pointer (some ⟨g,0,none⟩),.int .i64 b] w fun r w' =>r=.returned (.tuple #[])∧Only S w w' ∧Wr w' g t R S (B++[b]):=by
 obtain ⟨ao,cap,hh,how,hsa⟩:=h
 have hpl:=packB_len B
 obtain ⟨gb,cp,hvv,_,_⟩:=how.form (by omega)
 injection hvv with hv1 hv2 hv3
 subst hv1 hv3
 clear hv2
 have hne:gb≠g:=two_ne ht hh how rfl
 have hc0:=two_c0 hh
 have hc1:=two_c1 hh
 have hce:=own_cell how (k:=(packB B).length- 1) (by omega)
 have hgl:=two_lt hh
 rw[pack_last h8,oct_top,b8_toNat (Nat.lt_of_lt_of_le (oct_lt hB _ _) (show 2^(B.length%8)≤2^8 from Nat.pow_le_pow_right (by omega) (by omega)))] at hce
 have hcl:=oct_lt hB (B.length/8) (B.length%8)
 have HNX:Hid (packB (B++[b])=(packB B).set ((packB B).length- 1) (b8 (oct B (B.length/8) (B.length%8)+b*2^(B.length%8)))):=by
  unfold Hid;rw[packB_in b h8,oct_top]
 have hf2:w.frozen? ⟨g,1,none⟩=false:=frozen_of_row w g 1 _ _ hh
 have hfb:w.frozen? ⟨gb,(packB B).length- 1,none⟩=false:=by obtain ⟨cur,hg⟩:=own_heap how (b:=gb) rfl;exact frozen_of_row w gb _ _ _ hg
 have HH:=hide hh
 have HOW:=hide how
 have HSA:=hide hsa
 generalize hnn:(packB B).length=n at*
 generalize hff:8*n- B.length=f at*
 generalize hkk:n- 1=k at*
 generalize hmm:B.length%8=m at*
 generalize hoc:oct B (B.length/8) m=c at*
 have hnk:(n:Int)- 1=(k:Int):=by omega
 have hfm:(8:Int)- (f:Int)=(m:Int):=by omega
 have hkI:(k:Int)<(n:Int):=by omega
 have hk0:(0:Int)≤(k:Int):=by omega
 have hm0:(0:Int)≤(m:Int):=by omega
 have hm64:(m:Int)<64:=by omega
 have htn:((m:Nat):Int).toNat=m:=Int.toNat_natCast m
 have htk:((k:Nat):Int).toNat=k:=Int.toNat_natCast k
 have hwm:IntKind.i64.wrap (m:Int)=(m:Int):=i64_wrap_nat m (by omega)
 have hwk:IntKind.i64.wrap (k:Int)=(k:Int):=i64_wrap_nat k (by omega)
 have hp:2^m≤2^7:=Nat.pow_le_pow_right (by omega) (by omega)
 have hbp:b*2^m≤1*2^m:=Nat.mul_le_mul_right _ (by omega)
 have he:(b:Int)*2^m=((b*2^m:Nat):Int):=by rw[Int.natCast_mul,Int.natCast_pow];rfl
 have hw1:IntKind.i64.wrap ((b:Int)*2^m)=((b*2^m:Nat):Int):=by rw[he];exact i64_wrap_nat _ (by omega)
 have hw8:IntKind.u8.wrap ((b*2^m:Nat):Int)=((b*2^m:Nat):Int):=by rw[IntKind.wrap_u8];omega
 have hor:=or_byte hcl hb (show m<8 by omega)
 have hf0:((f:Int)==0)=false:=by rw[beq_eq_false_iff_ne];omega
 generalize hbb:b*2^m=bm at*
 have hql:c+bm<256:=by omega
 generalize hqq:c+bm=q at*
 have HQ:=hide hql
 have HPL:=hide hpl
 have HE1:Hid ((packB (B++[b])).length=n):=by unfold Hid;rw[packB_len,List.length_append,show ([b]:List Nat).length=1 from rfl];omega
 have HFF:Hid (8*n- (B.length+1)=f- 1):=by unfold Hid;omega
 have hf1:(f:Int)- 1=((f- 1:Nat):Int):=by omega
 have hwf:IntKind.i64.wrap ((f:Int)- 1)=(f:Int)- 1:=by rw[IntKind.wrap_i64];omega
 have HF1:=hide hf1
 clear hh how hsa he hmm hoc hkk hff hnn hpl hqq hql hf1 hcl hbb hbp hp
 go_in
 go_upto_region 3 with fail
 have HSW:w.drew.cell? ⟨g,0,none⟩=some (.slice (some ⟨gb,0,none⟩) n cap)∧w.drew.cell? ⟨g,1,none⟩=some (.int .i64 f)∧w.drew.cell? ⟨gb,k,none⟩=some (.int .u8 c):=⟨hc0,hc1,hce⟩
 refine wp_region_last (S:=fun W=>W.cell? ⟨g,0,none⟩=some (.slice (some ⟨gb,0,none⟩) n cap)∧W.cell? ⟨g,1,none⟩=some (.int .i64 f)∧W.cell? ⟨gb,k,none⟩=some (.int .u8 c)) (L:=22) (by kernel_rfl) ?_
 refine tk 0 23 (.pointer (some ⟨g,0,none⟩)) 21 HSW ?_
 refine tk 1 23 (.pointer (some ⟨g,0,none⟩)) 22 HSW ?_
 refine tk 2 23 (.pointer (some ⟨g,0,none⟩)) 23 HSW ?_
 refine tk 3 23 (.slice (some ⟨gb,0,none⟩) n cap) 24 HSW ?_
 refine tk 4 23 (.pointer (some ⟨g,0,none⟩)) 25 HSW ?_
 refine tk 5 23 (.pointer (some ⟨g,0,none⟩)) 26 HSW ?_
 refine tk 6 23 (.pointer (some ⟨g,0,none⟩)) 27 HSW ?_
 refine tk 7 23 (.slice (some ⟨gb,0,none⟩) n cap) 28 HSW ?_
 refine tk 8 23 (.int .i64 n) 29 HSW ?_
 refine tk 9 23 (.int .i64 k) 30 HSW ?_
 refine tk 10 23 (.pointer (some ⟨gb,k,none⟩)) 31 HSW ?_
 refine tk 11 23 (.int .u8 c) 32 HSW ?_
 refine tk 12 23 (.int .i64 b) 33 HSW ?_
 refine tk 13 23 (.pointer (some ⟨g,0,none⟩)) 34 HSW ?_
 refine tk 14 23 (.pointer (some ⟨g,0,none⟩)) 35 HSW ?_
 refine tk 15 23 (.pointer (some ⟨g,1,none⟩)) 36 HSW ?_
 refine tk 16 23 (.int .i64 f) 37 HSW ?_
 refine tk 17 23 (.int .i64 m) 38 HSW ?_
 refine tk 18 23 (.int .i64 bm) 39 HSW ?_
 refine tk 19 23 (.int .u8 bm) 40 HSW ?_
 refine tk 20 23 (.int .u8 q) 41 HSW ?_
 refine tk 21 23 (.pointer (some ⟨gb,k,none⟩)) 42 HSW ?_
 refine wpAnyL_one (i:=22) (by kernel_rfl) ?_
 refine wpOp_step rfl (fun K' hK=> ?_)
 go_simp
 refine hK _ _ ⟨fun h=>absurd rfl h, ?_⟩
 clear hK
 refine wpAnyL_done (by kernel_rfl) ?_
 have hst:(w.setCell ⟨gb,k,none⟩ (.int .u8 (q:Int))).drew.heap[g]? =some (.cells (#[.slice (some ⟨gb,0,none⟩) n cap,.int .i64 f]++R) t (0,0)):=(Below.heap_setCell _ _ _ _ (fun e=>hne e.symm)).trans (uh HH)
 have how3:(w.setCell ⟨gb,k,none⟩ (.int .u8 (q:Int))).drew.ownsRow 0 5 1 (.slice (some ⟨gb,0,none⟩) n cap) n ((byteCells8 (packB B)).set k (.int .u8 (q:Int))):=own_set (uh HOW)
 have hO3:Only S w (w.setCell ⟨gb,k,none⟩ (.int .u8 (q:Int))).drew:=((Only.refl S w).setCell (p:=⟨gb,k,none⟩) (fun _=>uh HSA ⟨gb,0,none⟩ rfl) _).drew
 generalize (w.setCell ⟨gb,k,none⟩ (.int .u8 (q:Int))).drew=w3 at*
 have hc13:=two_c1 hst
 have hf13:w3.frozen? ⟨g,1,none⟩=false:=frozen_of_row w3 g 1 _ _ hst
 have HST:=hide hst
 have HOW3:=hide how3
 have HO3:=hide hO3
 clear hst how3 hO3 HSW hc0 hc1 hce hf2 hfb
 go_wp2_with fail
 go_end0
 refine ⟨rfl,(uh HO3).setCell (p:=⟨g,1,none⟩) (fun _=>hSg) _,some ⟨gb,0,none⟩,cap, ?_, ?_,uh HSA⟩
 ·have e1:(packB (B++[b])).length=n:=uh HE1
  rw[e1,List.length_append,show ([b]:List Nat).length=1 from rfl,uh HFF,←uh HF1]
  exact two_s1 (uh HST) _
 have e1:(packB (B++[b])).length=n:=uh HE1
 have e2:byteCells8 (packB (B++[b]))=(byteCells8 (packB B)).set k (.int .u8 (q:Int)):=by rw[uh HNX,byteCells8,byteCells8,List.map_set,b8_toNat (uh HQ)]
 rw[e1,e2]
 exact own_kept (uh HOW3) (only_set w3 g 1 _) (fun b' hb' e=>by injection hb' with hb';exact hne (hb'.trans e))
theorem bitW_new(g:Nat)(t:TypeId)(ht:t≠5)(R:Array Value)(S:Nat→Prop)(hSg:S g)(B:List Nat)(hl:B.length≤1000000)(h8:B.length%8=0)(b:Nat)(hb:b<2)(w:World)(hF:Fresh S w)(h:Wr w g t R S B):
 Calls Tryz.prog 225 #[.pointer (some ⟨g,0,none⟩),.int .i64 b] w fun r w' =>r=.returned (.tuple #[])∧Only S w w' ∧Wr w' g t R S (B++[b]):=by
 obtain ⟨ao,cap,hh,how,hsa⟩:=h
 obtain ⟨i0,hi0,hz0,hz1,hz2⟩:=info_parts infoB5
 have hpl:=packB_len B
 have HNX:Hid (packB (B++[b])=packB B++[b8 b]):=packB_new b h8
 have hz:8*(packB B).length- B.length=0:=by omega
 rw[hz] at hh
 have hA:Only (fun _=>False) w (w.alloc (.cells #[.int .u8 (0:Int)] 5)):=(Only.refl _ w).alloc _
 have hc0:=two_c0 hh
 have hc1:=two_c1 hh
 have hgl:=two_lt hh
 have hh1:(w.alloc (.cells #[.int .u8 (0:Int)] 5)).heap[g]? =some (.cells (#[.slice ao (packB B).length cap,.int .i64 (0:Nat)]++R) t (0,0)):=(hA.block g hgl (fun x=>x)).trans hh
 have HH1:=hide hh1
 have HOW1:=hide (own_old how hA)
 have HSA:=hide hsa
 have HNW:=hide (byte_new5 (wr:=w) (n:=0))
 have HLEN:Hid ((packB (B++[b])).length=(packB B).length+1∧8*((packB B).length+1)- (B.length+1)=7):=⟨by rw[packB_len,packB_len,List.length_append];simp;omega,by omega⟩
 have HBC:Hid (byteCells8 (packB (B++[b]))=(byteCells8 (packB B)++[Value.int .u8 ((0:Nat):Int)]).set (packB B).length (.int .u8 (b:Int))):=by
  unfold Hid
  have e:(byteCells8 (packB B)).length=(packB B).length:=by simp[byteCells8]
  rw[uh HNX,byteCells8,List.map_append,List.map_cons,List.map_nil,b8_toNat (by omega),←e,List.set_append_right _ _ (Nat.le_refl _),Nat.sub_self];rfl
 have hnb:(packB B).length≤1000000:=by omega
 have hbl:((byteCells8 (packB B)).length)=(packB B).length:=by simp[byteCells8]
 generalize byteCells8 (packB B)=xs at*
 generalize (packB B).length=n at*
 have hn1:IntKind.i64.wrap ((n:Int)+1- 1)=(n:Int):=by rw[IntKind.wrap_i64];omega
 have hw8:IntKind.u8.wrap (b:Int)=(b:Int):=by rw[IntKind.wrap_u8];omega
 have hwb:IntKind.i64.wrap (b:Int)=(b:Int):=i64_wrap_nat b (by omega)
 have hw0:IntKind.i64.wrap 0=0:=i64_wrap_nat 0 (by omega)
 have hor:bits .or .u8 (0:Int) (b:Int)=(b:Int):=by have:=u8_or_nat 0 b (by omega) (by omega);rw[Nat.zero_or] at this;exact this
 have HHS:=hide (fun (k:Nat) (hk:k<w.heap.size)=>hk)
 clear hh how hsa hpl hz hA hh1 HHS
 go_in
 go_upto_region 3 with (at_builtin;refine wpList_append_lies _ rfl (.tmp 13) (.tmp 14) 62 rfl 0 5 i0 (.int .u8 0) 1 1 Tryz.underlying62 hi0 hz0 hz1 hz2 rfl (by omega) (.slice ao n cap) n _ rfl (uh HOW1) ⟨w.heap.size,0,none⟩ 1 1 [.int .u8 ((0:Nat):Int)] rfl rfl (uh HNW) (by intro u hu;simp at hu;subst hu;rfl) (by omega) (by unfold maxLen;omega) (by omega) (by omega) (w.heap.size+1) (by simp) ?_;intro gb cap2 w3 ho3 hg3 hl3 hlt3;have hne3:(Value.slice ao n cap).ownBlock≠some g:=(fun e=>two_ne ht (uh HH1) (uh HOW1) e rfl);have hst3:w3.heap[g]? =some (.cells (#[.slice ao n cap,.int .i64 (0:Nat)]++R) t (0,0)):=(hg3.block g (two_lt (uh HH1)) (fun e=>hne3 e.symm)).trans (uh HH1);have hcc:=two_c0 hst3;have hcc1:=two_c1 hst3;have hff:=frozen_of_row w3 g 0 _ _ hst3;have hff1:=frozen_of_row w3 g 1 _ _ hst3;have HST3:=hide hst3;have HO3:=hide ho3;have HG3:=hide hg3;have HL3:=hide hl3;clear ho3 hg3 hl3 hst3 hne3)
 have hst4:((w3.setCell ⟨g,0,none⟩ (.slice (some ⟨gb,0,none⟩) (n+1) cap2)).setCell ⟨g,1,none⟩ (.int .i64 8)).heap[g]? =some (.cells (#[.slice (some ⟨gb,0,none⟩) (n+1) cap2,.int .i64 8]++R) t (0,0)):=two_s1 (two_s0 (uh HST3) _) _
 have hne:gb≠g:=two_ne ht (uh HST3) (uh HO3) rfl
 have how4:((w3.setCell ⟨g,0,none⟩ (.slice (some ⟨gb,0,none⟩) (n+1) cap2)).setCell ⟨g,1,none⟩ (.int .i64 8)).ownsRow 0 5 1 (.slice (some ⟨gb,0,none⟩) (n+1) cap2) (n+1) (xs++[.int .u8 ((0:Nat):Int)]):=
  own_kept (own_kept (uh HO3) (only_set w3 g 0 _) (fun b' hb' e=>by injection hb' with hb';exact hne (hb'.trans e))) (only_set _ g 1 _) (fun b' hb' e=>by injection hb' with hb';exact hne (hb'.trans e))
 have hO4:Only S w ((w3.setCell ⟨g,0,none⟩ (.slice (some ⟨gb,0,none⟩) (n+1) cap2)).setCell ⟨g,1,none⟩ (.int .i64 8)):=by
  have hw4:Only S w w3:=(Only.refl S w|>.alloc (.cells #[.int .u8 (0:Int)] 5)).grown (uh HG3) (fun k _ hk=>by
   cases ao with
   |none=>cases hk
   |some b=>injection hk with hk;subst hk;exact uh HSA b rfl)
  exact (hw4.setCell (p:=⟨g,0,none⟩) (fun _=>hSg) _).setCell (p:=⟨g,1,none⟩) (fun _=>hSg) _
 have hSb:S gb:=by
  rcases uh HL3 with h5|h5
  ·cases ao with
   |none=>cases h5
   |some b=>injection h5 with h5;rw[←h5];exact uh HSA b rfl
  rw[h5];exact hF _ (by omega)
 have hxn:(xs++[Value.int .u8 ((0:Nat):Int)])[n]? =some (.int .u8 ((0:Nat):Int)):=by rw[←hbl];simp
 have hce:((w3.setCell ⟨g,0,none⟩ (.slice (some ⟨gb,0,none⟩) (n+1) cap2)).setCell ⟨g,1,none⟩ (.int .i64 8)).cell? ⟨gb,n,none⟩=some (.int .u8 ((0:Nat):Int)):=by
  have h1:=how4.cells rfl n _ hxn
  rw[Addr.add_lit,Nat.zero_add] at h1
  exact h1
 generalize (w3.setCell ⟨g,0,none⟩ (.slice (some ⟨gb,0,none⟩) (n+1) cap2)).setCell ⟨g,1,none⟩ (.int .i64 8)=w4 at*
 have hc40:=two_c0 hst4
 have hc41:=two_c1 hst4
 have hfb:w4.frozen? ⟨gb,n,none⟩=false:=by obtain ⟨cur,hg⟩:=own_heap how4 (b:=gb) rfl;exact frozen_of_row w4 gb _ _ _ hg
 have HST4:=hide hst4
 have HOW4:=hide how4
 have HO4:=hide hO4
 have hn0:(0:Int)≤(n:Int):=by omega
 have hnn:(n:Int)<(n:Int)+1:=by omega
 clear hst4 how4 hO4 hcc hcc1 hff hff1 HST3 HO3 HG3 HL3 HH1 HOW1 hc0 hc1 hxn
 generalize hn1e:n+1=n1 at*
 have hn1I:(n1:Int)- 1=(n:Int):=by omega
 have hnlt:(n:Int)<(n1:Int):=by omega
 have hwn:IntKind.i64.wrap (n:Int)=(n:Int):=i64_wrap_nat n (by omega)
 clear hn1 hnn hn1e
 have HSW:w4.drew.cell? ⟨g,0,none⟩=some (.slice (some ⟨gb,0,none⟩) n1 cap2)∧w4.drew.cell? ⟨g,1,none⟩=some (.int .i64 8)∧w4.drew.cell? ⟨gb,n,none⟩=some (.int .u8 0):=⟨hc40,hc41,hce⟩
 refine wp_region_last (S:=fun W=>W.cell? ⟨g,0,none⟩=some (.slice (some ⟨gb,0,none⟩) n1 cap2)∧W.cell? ⟨g,1,none⟩=some (.int .i64 8)∧W.cell? ⟨gb,n,none⟩=some (.int .u8 0)) (L:=22) (by kernel_rfl) ?_
 refine tk 0 23 (.pointer (some ⟨g,0,none⟩)) 21 HSW ?_
 refine tk 1 23 (.pointer (some ⟨g,0,none⟩)) 22 HSW ?_
 refine tk 2 23 (.pointer (some ⟨g,0,none⟩)) 23 HSW ?_
 refine tk 3 23 (.slice (some ⟨gb,0,none⟩) n1 cap2) 24 HSW ?_
 refine tk 4 23 (.pointer (some ⟨g,0,none⟩)) 25 HSW ?_
 refine tk 5 23 (.pointer (some ⟨g,0,none⟩)) 26 HSW ?_
 refine tk 6 23 (.pointer (some ⟨g,0,none⟩)) 27 HSW ?_
 refine tk 7 23 (.slice (some ⟨gb,0,none⟩) n1 cap2) 28 HSW ?_
 refine tk 8 23 (.int .i64 n1) 29 HSW ?_
 refine tk 9 23 (.int .i64 n) 30 HSW ?_
 refine tk 10 23 (.pointer (some ⟨gb,n,none⟩)) 31 HSW ?_
 refine tk 11 23 (.int .u8 0) 32 HSW ?_
 refine tk 12 23 (.int .i64 b) 33 HSW ?_
 refine tk 13 23 (.pointer (some ⟨g,0,none⟩)) 34 HSW ?_
 refine tk 14 23 (.pointer (some ⟨g,0,none⟩)) 35 HSW ?_
 refine tk 15 23 (.pointer (some ⟨g,1,none⟩)) 36 HSW ?_
 refine tk 16 23 (.int .i64 8) 37 HSW ?_
 refine tk 17 23 (.int .i64 0) 38 HSW ?_
 refine tk 18 23 (.int .i64 b) 39 HSW ?_
 refine tk 19 23 (.int .u8 b) 40 HSW ?_
 refine tk 20 23 (.int .u8 b) 41 HSW ?_
 refine tk 21 23 (.pointer (some ⟨gb,n,none⟩)) 42 HSW ?_
 refine wpAnyL_one (i:=22) (by kernel_rfl) ?_
 refine wpOp_step rfl (fun K' hK=> ?_)
 go_simp
 refine hK _ _ ⟨fun h=>absurd rfl h, ?_⟩
 clear hK
 refine wpAnyL_done (by kernel_rfl) ?_
 have hst:(w4.setCell ⟨gb,n,none⟩ (.int .u8 (b:Int))).drew.heap[g]? =some (.cells (#[.slice (some ⟨gb,0,none⟩) n1 cap2,.int .i64 8]++R) t (0,0)):=(Below.heap_setCell _ _ _ _ (fun e=>hne e.symm)).trans (uh HST4)
 have how5:(w4.setCell ⟨gb,n,none⟩ (.int .u8 (b:Int))).drew.ownsRow 0 5 1 (.slice (some ⟨gb,0,none⟩) n1 cap2) n1 ((xs++[Value.int .u8 ((0:Nat):Int)]).set n (.int .u8 (b:Int))):=own_set (uh HOW4)
 have hO5:Only S w (w4.setCell ⟨gb,n,none⟩ (.int .u8 (b:Int))).drew:=((uh HO4).setCell (p:=⟨gb,n,none⟩) (fun _=>hSb) _).drew
 generalize (w4.setCell ⟨gb,n,none⟩ (.int .u8 (b:Int))).drew=w5 at*
 have hc13:=two_c1 hst
 have hf13:w5.frozen? ⟨g,1,none⟩=false:=frozen_of_row w5 g 1 _ _ hst
 have HST:=hide hst
 have HOW5:=hide how5
 have HO5:=hide hO5
 clear hst how5 hO5 HSW hc40 hc41 hce hfb
 go_wp2_with fail
 go_end0
 refine ⟨rfl,(uh HO5).setCell (p:=⟨g,1,none⟩) (fun _=>hSg) _,some ⟨gb,0,none⟩,cap2, ?_, ?_,fun b' hb' =>by injection hb' with hb';subst hb';exact hSb⟩
 ·rw[(uh HLEN).1,List.length_append,show ([b]:List Nat).length=1 from rfl,(uh HLEN).2]
  exact two_s1 (uh HST) _
 rw[(uh HLEN).1,uh HBC]
 exact own_kept (uh HOW5) (only_set w5 g 1 _) (fun b' hb' e=>by injection hb' with hb';exact hne (hb'.trans e))
open Go.RowKit Go.Maps
theorem bitW(g:Nat)(t:TypeId)(ht:t≠5)(R:Array Value)(S:Nat→Prop)(hSg:S g)(B:List Nat)(hB:Bin B)(hl:B.length≤1000000)(b:Nat)(hb:b<2)(w:World)(hF:Fresh S w)(h:Wr w g t R S B):
 Calls Tryz.prog 225 #[.pointer (some ⟨g,0,none⟩),.int .i64 b] w fun r w' =>r=.returned (.tuple #[])∧Only S w w' ∧Wr w' g t R S (B++[b]):=by
 by_cases h8:B.length%8=0
 ·exact bitW_new g t ht R S hSg B hl h8 b hb w hF h
 exact bitW_in g t ht R S hSg B hB hl h8 b hb w h
theorem Bin.nil:Bin []:=fun x hx=>by cases hx
theorem Wr.mono{w:World}{g:Nat}{t:TypeId}{R:Array Value}{S S' :Nat→Prop}{B:List Nat}(h:Wr w g t R S B)(hs: ∀k,S k→S' k):Wr w g t R S' B:=by
 obtain ⟨ao,cap,hh,how,hsa⟩:=h
 exact ⟨ao,cap,hh,how,fun b hb=>hs _ (hsa b hb)⟩
theorem Bin.snoc{B:List Nat}(hB:Bin B){b:Nat}(hb:b<2):Bin (B++[b]):=hB.append (fun x hx=>by rw[List.mem_singleton.1 hx];exact hb)
theorem shr_bit(v i:Nat)(hv:v<9223372036854775808):bits .and .i64 (((v/2^i:Nat):Int)) 1=((v/2^i%2:Nat):Int):=by
 have h1:v/2^i<9223372036854775808:=Nat.lt_of_le_of_lt (Nat.div_le_self _ _) hv
 have:=i64_and_nat (v/2^i) 1 h1 (by omega)
 rw[Nat.and_one_is_mod] at this
 exact this
theorem numberW(g:Nat)(t:TypeId)(ht:t≠5)(R:Array Value)(S:Nat→Prop)(hSg:S g)(B:List Nat)(hB:Bin B)(hl:B.length+16≤1000000)(v n:Nat)(hv:v≤1000000)(hn:n≤16)(w:World)(hF:Fresh S w)(h:Wr w g t R S B):
 Calls Tryz.prog 135 #[.pointer (some ⟨g,0,none⟩),.int .i64 v,.int .i64 n] w fun r w' =>r=.returned (.tuple #[])∧Only S w w' ∧Wr w' g t R S (B++numB v n):=by
 have HW:=hide h
 clear h
 go_in
 go_wp2_with fail
 go_loopw [8] (fun x wr=> ∃i:Nat,i≤n∧x=.int .i64 i∧Hid (Wr wr g t R S (B++numB v i))∧Hid (Only S w wr)) (fun x _=>n- (intOf x).toNat)
 ·exact ⟨0,by omega,rfl,by rw[show numB v 0=[] from rfl,List.append_nil];exact HW,Only.refl _ w⟩
 obtain ⟨i,hi,rfl,HW,HO⟩:=hrel
 by_cases hlt:i<n
 ·have hltI:(i:Int)<(n:Int):=by omega
  have hi0:(0:Int)≤(i:Int):=by omega
  have hi64:(i:Int)<64:=by omega
  have htn:((i:Nat):Int).toNat=i:=Int.toNat_natCast i
  have hsh:(v:Int)/2^i=((v/2^i:Nat):Int):=by rw[Int.natCast_ediv,Int.natCast_pow];rfl
  have hsb:=shr_bit v i (by omega)
  have hbl:v/2^i%2<2:=Nat.mod_lt _ (by omega)
  have HB:=hide (bitW g t ht R S hSg (B++numB v i) (hB.append (numB_bin _ _)) (by rw[List.length_append,numB_len];omega) (v/2^i%2) hbl wr (hF.mono (uh HO).size) (uh HW))
  have HN:Hid (B++numB v i++[v/2^i%2]=B++numB v (i+1)):=by unfold Hid;rw[numB_succ,List.append_assoc]
  generalize v/2^i%2=b at HB HN hsb hbl
  generalize v/2^i=q at hsh hsb
  go_wp2_with fail
  refine (uh HB).mono ?_
  rintro r w1 ⟨rfl,ho1,hw1⟩
  have HW1:=hide hw1
  have HO1:=hide ho1
  clear hw1 ho1
  go_wp2_with fail
  go_roundw
  ·exact ⟨i+1,by omega,by go_num,by rw[←uh HN];exact HW1,(uh HO).trans (uh HO1)⟩
  case measure=>simp[intOf];omega
 have hltI:¬(i:Int)<(n:Int):=by omega
 have hie:i=n:=by omega
 subst hie
 go_wp2_with fail
 go_end0
 exact ⟨rfl,HO,HW⟩
theorem codeB_succ(v n i:Nat)(h:i<n):(codeB v n).take (i+1)=(codeB v n).take i++[v/2^(n- 1- i)%2]:=by
 rw[take_getD _ _ (by rw[codeB_len];exact h),codeB_get _ _ _ h]
theorem codeW(g:Nat)(t:TypeId)(ht:t≠5)(R:Array Value)(S:Nat→Prop)(hSg:S g)(B:List Nat)(hB:Bin B)(hl:B.length+16≤1000000)(v n:Nat)(hv:v≤1000000)(hn:n≤15)(w:World)(hF:Fresh S w)(h:Wr w g t R S B):
 Calls Tryz.prog 233 #[.pointer (some ⟨g,0,none⟩),.agg #[.int .i64 v,.int .i64 n]] w fun r w' =>r=.returned (.tuple #[])∧Only S w w' ∧Wr w' g t R S (B++codeB v n):=by
 have hgl:g<w.heap.size:=by obtain ⟨ao,cap,hh,_,_⟩:=h;exact two_lt hh
 have hA:Only (fun _=>False) w (w.alloc (.cells #[.int .i64 (v:Int),.int .i64 (n:Int)] 260)):=(Only.refl _ w).alloc _
 have hbx:(w.alloc (.cells #[.int .i64 (v:Int),.int .i64 (n:Int)] 260)).heap[w.heap.size]? =some (.cells #[.int .i64 (v:Int),.int .i64 (n:Int)] 260 (0,0)):=Go.heap_alloc_new w _
 have HW:Hid (Wr (w.alloc (.cells #[.int .i64 (v:Int),.int .i64 (n:Int)] 260)) g t R (fun k=>S k∧k≠w.heap.size) B):=by
  obtain ⟨ao,cap,hh,how,hsa⟩:=h
  refine ⟨ao,cap,(hA.block g (two_lt hh) (fun x=>x)).trans hh,own_old how hA,fun b hb=>⟨hsa b hb, ?_⟩⟩
  subst hb
  obtain ⟨cur,hg⟩:=own_heap how (b:=b.block) rfl
  have:=(Array.getElem?_eq_some_iff.1 hg).1
  omega
 have hs0:(w.alloc (.cells #[.int .i64 (v:Int),.int .i64 (n:Int)] 260)).heap.size=w.heap.size+1:=by simp only[World.size_alloc]
 have HO:=hide (Only.oldS (S:=S) hA)
 have HF2:Hid (Fresh (fun k=>S k∧k≠w.heap.size) (w.alloc (.cells #[.int .i64 (v:Int),.int .i64 (n:Int)] 260))):=fun k hk=>⟨hF k (by omega),by omega⟩
 have hW0: ∃w0,w0=w.alloc (.cells #[.int .i64 (v:Int),.int .i64 (n:Int)] 260):=⟨_,rfl⟩
 have HBX:=hide hbx
 clear h hA hbx
 have hw1:IntKind.i64.wrap ((n:Int)- 1)=(n:Int)- 1:=by rw[IntKind.wrap_i64];omega
 go_in
 go_wp2_with fail
 go_loopw [4] (fun x wr=> ∃i:Nat,i≤n∧x=.int .i64 ((n:Int)- 1- i)∧Hid (Wr wr g t R (fun k=>S k∧k≠w.heap.size) (B++(codeB v n).take i))∧Hid (wr.heap[w.heap.size]? =some (.cells #[.int .i64 (v:Int),.int .i64 (n:Int)] 260 (0,0)))∧Hid (Only S w wr)∧Hid (Fresh (fun k=>S k∧k≠w.heap.size) wr)) (fun x _=>((intOf x)+1).toNat)
 ·exact ⟨0,by omega,by go_num,by rw[List.take_zero,List.append_nil];exact HW,HBX,HO,HF2⟩
 obtain ⟨i,hi,rfl,HW,HBX,HO,HF2⟩:=hrel
 by_cases hlt:i<n
 ·obtain ⟨j,hj⟩: ∃j,j=n- 1- i:=⟨_,rfl⟩
  have hjI:(n:Int)- 1- i=(j:Int):=by omega
  have hj0:(0:Int)≤(j:Int):=by omega
  have hj64:(j:Int)<64:=by omega
  have htn:((j:Nat):Int).toNat=j:=Int.toNat_natCast j
  have hwj:IntKind.i64.wrap ((j:Int)- 1)=(j:Int)- 1:=by rw[IntKind.wrap_i64];omega
  have hsh:(v:Int)/2^j=((v/2^j:Nat):Int):=by rw[Int.natCast_ediv,Int.natCast_pow];rfl
  have hsb:=shr_bit v j (by omega)
  have hbl:v/2^j%2<2:=Nat.mod_lt _ (by omega)
  have hcv:=cell_of_row wr w.heap.size 0 _ _ (0,0) (uh HBX)
  have hcv1:wr.cell? ⟨w.heap.size,0,none⟩=some (.int .i64 (v:Int)):=hcv
  have HB:=hide (bitW g t ht R _ ⟨hSg,by omega⟩ (B++(codeB v n).take i) (hB.append (fun x hx=>codeB_bin v n x (List.mem_of_mem_take hx))) (by rw[List.length_append,List.length_take,codeB_len];omega) (v/2^j%2) hbl wr (uh HF2) (uh HW))
  have HN:Hid (B++(codeB v n).take i++[v/2^j%2]=B++(codeB v n).take (i+1)):=by unfold Hid;rw[codeB_succ v n i hlt,hj,List.append_assoc]
  have HJ:Hid ((j:Int)- 1=(n:Int)- 1- ((i+1:Nat):Int)):=by unfold Hid;omega
  have hbk:=two_lt (R:= #[]) (w:=wr) (g:=w.heap.size) (t:=260) (a:=.int .i64 (v:Int)) (b:=.int .i64 (n:Int)) (uh HBX)
  rw[hjI]
  generalize v/2^j%2=b at HB HN hsb hbl
  generalize v/2^j=q at hsh hsb
  clear hj hcv
  go_wp2_with fail
  refine (uh HB).mono ?_
  rintro r w1 ⟨rfl,ho1,hw1⟩
  have HW1:=hide hw1
  have HO1:Hid (Only S w w1):=(uh HO).trans (ho1.mono (fun _ _ h=>h.1))
  have HBX1:=hide ((ho1.block w.heap.size hbk (fun h=>h.2 rfl)).trans (uh HBX))
  have HF3:=hide ((uh HF2).mono ho1.size)
  clear hw1 ho1 HB
  go_wp2_with fail
  go_roundw
  ·exact ⟨i+1,by omega,by rw[←uh HJ],by rw[←uh HN];exact HW1,HBX1,HO1,HF3⟩
  simp[intOf]
 have hie:i=n:=by omega
 have HOE:=hide (uh HO)
 have HWQ:=hide (uh HW)
 clear HO HW
 subst hie
 have hneg:¬(0:Int)≤(i:Int)- 1- i:=by omega
 have HWE:Hid (Wr wr g t R S (B++codeB v i)):=by have:=uh HWQ;rw[List.take_of_length_le (by rw[codeB_len];exact Nat.le_refl _)] at this;exact this.mono (fun _ h=>h.1)
 go_wp2_with fail
 go_end0
 exact ⟨rfl,HOE,HWE⟩
theorem skipW(g:Nat)(t:TypeId)(ht:t≠5)(R:Array Value)(S:Nat→Prop)(hSg:S g)(B:List Nat)(w:World)(h:Wr w g t R S B):
 Calls Tryz.prog 134 #[.pointer (some ⟨g,0,none⟩)] w fun r w' =>r=.returned (.tuple #[])∧Only S w w' ∧Wr w' g t R S (B++List.replicate (8*((B.length+7)/8)- B.length) 0):=by
 obtain ⟨ao,cap,hh,how,hsa⟩:=h
 have hc1:=two_c1 hh
 have hf1:w.frozen? ⟨g,1,none⟩=false:=frozen_of_row w g 1 _ _ hh
 have hne: ∀k,(Value.slice ao (packB B).length cap).ownBlock=some k→k≠g:=fun k hk=>two_ne ht hh how hk
 have HP:Hid (packB (B++List.replicate (8*((B.length+7)/8)- B.length) 0)=packB B):=packB_pad B _ (by omega)
 have HZ:Hid (8*(packB B).length- (B++List.replicate (8*((B.length+7)/8)- B.length) 0).length=0):=by unfold Hid;rw[packB_len,List.length_append,List.length_replicate];omega
 have HH:=hide hh
 have HOW:=hide how
 have HSA:=hide hsa
 have HNE:=hide hne
 clear hh how hsa hne
 go_in
 go_wp2_with fail
 go_end0
 refine ⟨rfl,(Only.refl S w).setCell (p:=⟨g,1,none⟩) (fun _=>hSg) _,ao,cap, ?_, ?_,uh HSA⟩
 ·rw[uh HP,uh HZ];exact two_s1 (uh HH) _
 rw[uh HP];exact own_kept (uh HOW) (only_set w g 1 _) (uh HNE)
theorem headW(g:Nat)(t:TypeId)(ht:t≠5)(R:Array Value)(S:Nat→Prop)(hSg:S g)(k:Nat)(hk:k<4)(w:World)(hF:Fresh S w)(h:Wr w g t R S []):
 Calls Tryz.prog 133 #[.pointer (some ⟨g,0,none⟩),.int .i64 k] w fun r w' =>r=.returned (.tuple #[])∧Only S w w' ∧Wr w' g t R S (1::numB k 2):=by
 have H1:=hide (numberW g t ht R S hSg [] Bin.nil (by simp) 1 1 (by omega) (by omega) w hF h)
 go_in
 go_wp2_with fail
 refine (uh H1).mono ?_
 rintro r w1 ⟨rfl,ho1,hw1⟩
 have H2:=hide (numberW g t ht R S hSg _ (Bin.nil.append (numB_bin 1 1)) (by simp[numB_len]) k 2 (by omega) (by omega) w1 (hF.mono ho1.size) hw1)
 have HO1:=hide ho1
 clear H1 ho1 hw1 h
 go_wp2_with fail
 refine (uh H2).mono ?_
 rintro r w2 ⟨rfl,ho2,hw2⟩
 have HO2:=hide ((uh HO1).trans ho2)
 have HW2:=hide hw2
 clear H2 ho2 hw2
 go_wp2_with fail
 go_end0
 exact ⟨rfl,HO2,HW2⟩
theorem leastLenC(y:Nat)(h1:257≤y)(h2:y≤285)(w:World):
 Calls Tryz.prog 305 #[.int .i64 y] w fun r w' =>r=.returned (.int .i64 (lenBase y))∧w' =w:=by
 have H:=hide (lengthC_ok y h1 h2 w)
 go_in
 go_wp2_with fail
 refine (uh H).mono ?_
 rintro r w1 ⟨rfl,rfl⟩
 clear H
 go_wp2_with fail
 go_ret
 exact ⟨rfl,rfl⟩
theorem leastDistC(d:Nat)(h:d≤29)(w:World):
 Calls Tryz.prog 306 #[.int .i64 d] w fun r w' =>r=.returned (.int .i64 (dstBase d))∧w' =w:=by
 have H:=hide (distC_ok d h w)
 go_in
 go_wp2_with fail
 refine (uh H).mono ?_
 rintro r w1 ⟨rfl,rfl⟩
 clear H
 go_wp2_with fail
 go_ret
 exact ⟨rfl,rfl⟩
theorem ofLenC(n:Nat)(w:World):
 Calls Tryz.prog 229 #[.int .i64 n] w fun r w' =>r=.returned (.int .i64 (symOf n))∧Old w w' :=by
 have HL:=hide (fun (y:Nat) (h1:257≤y) (h2:y≤285) (W:World)=>leastLenC y h1 h2 W)
 go_in
 go_wp2_with fail
 go_loopw [3] (fun x wr=> ∃k:Nat,k≤28∧x=.int .i64 ((257+k:Nat):Int)∧Hid (symOf n=symGoN n k)∧Hid (Old w wr)) (fun x _=>(intOf x).toNat)
 ·exact ⟨28,by omega,rfl,rfl,Only.refl _ w⟩
 obtain ⟨k,hk,rfl,HS,HO⟩:=hrel
 cases k with
 |zero=>
  have e:symOf n=257:=uh HS
  have hz:(((257+0:Nat):Int))=257:=rfl
  have HE:=hide e
  rw[hz]
  clear e
  go_wp2_with fail
  go_ret
  rw[uh HE]
  exact ⟨rfl,HO⟩
 |succ k=>
  have HC:=hide (fun W=>uh HL (257+(k+1)) (by omega) (by omega) W)
  have hgt:(257:Int)<((257+(k+1):Nat):Int):=by omega
  have hdn:((257+(k+1):Nat):Int)- 1=((257+k:Nat):Int):=by omega
  have hstep:symOf n=if n<lenBase (257+(k+1)) then symGoN n k else 257+(k+1):=uh HS
  have hwr:IntKind.i64.wrap ((257+k:Nat):Int)=((257+k:Nat):Int):=i64_wrap_nat _ (by omega)
  have hlt1:257+k<257+(k+1):=by omega
  generalize hq:lenBase (257+(k+1))=q at HC hstep
  generalize hy:257+(k+1)=y at HC hgt hdn hstep hlt1
  generalize hy2:257+k=y2 at hdn hwr hlt1
  by_cases hlt:n<q
  ·rw[if_pos hlt] at hstep
   have hqI:(n:Int)<(q:Int):=by omega
   have HST:=hide hstep
   clear HS hstep hq hy
   go_wp2_with (go_at_call 305;refine (uh HC _).mono ?_;rintro r w1 ⟨rfl,rfl⟩)
   go_roundw
   ·exact ⟨k,by omega,by rw[hy2],HST,HO⟩
   case measure=>simp[intOf];omega
  rw[if_neg hlt] at hstep
  have hqI:¬(n:Int)<(q:Int):=by omega
  have HE:=hide hstep
  clear HS hstep hq hy
  go_wp2_with (go_at_call 305;refine (uh HC _).mono ?_;rintro r w1 ⟨rfl,rfl⟩)
  go_ret
  rw[uh HE]
  exact ⟨rfl,HO⟩
theorem ofDistC(n:Nat)(w:World):
 Calls Tryz.prog 231 #[.int .i64 n] w fun r w' =>r=.returned (.int .i64 (dsymOf n))∧Old w w' :=by
 have HL:=hide (fun (y:Nat) (h1:y≤29) (W:World)=>leastDistC y h1 W)
 go_in
 go_wp2_with fail
 go_loopw [3] (fun x wr=> ∃k:Nat,k≤29∧x=.int .i64 (k:Int)∧Hid (dsymOf n=dsymGo n k)∧Hid (Old w wr)) (fun x _=>(intOf x).toNat)
 ·exact ⟨29,by omega,rfl,rfl,Only.refl _ w⟩
 obtain ⟨k,hk,rfl,HS,HO⟩:=hrel
 cases k with
 |zero=>
  have e:dsymOf n=0:=uh HS
  have hz:(((0:Nat):Int))=0:=rfl
  have HE:=hide e
  rw[hz]
  clear e
  go_wp2_with fail
  go_ret
  rw[uh HE]
  exact ⟨rfl,HO⟩
 |succ k=>
  have HC:=hide (fun W=>uh HL (k+1) (by omega) W)
  have hgt:(0:Int)<((k+1:Nat):Int):=by omega
  have hdn:((k+1:Nat):Int)- 1=(k:Int):=by omega
  have hstep:dsymOf n=if n<dstBase (k+1) then dsymGo n k else k+1:=uh HS
  have hwr:IntKind.i64.wrap (k:Int)=(k:Int):=i64_wrap_nat _ (by omega)
  have hlt1:k<k+1:=by omega
  generalize hq:dstBase (k+1)=q at HC hstep
  generalize hy:k+1=y at HC hgt hdn hstep hlt1
  by_cases hlt:n<q
  ·rw[if_pos hlt] at hstep
   have hqI:(n:Int)<(q:Int):=by omega
   have HST:=hide hstep
   clear HS hstep hq hy
   go_wp2_with (go_at_call 306;refine (uh HC _).mono ?_;rintro r w1 ⟨rfl,rfl⟩)
   go_roundw
   ·exact ⟨k,by omega,rfl,HST,HO⟩
   case measure=>simp[intOf];omega
  rw[if_neg hlt] at hstep
  have hqI:¬(n:Int)<(q:Int):=by omega
  have HE:=hide hstep
  clear HS hstep hq hy
  go_wp2_with (go_at_call 306;refine (uh HC _).mono ?_;rintro r w1 ⟨rfl,rfl⟩)
  go_ret
  rw[uh HE]
  exact ⟨rfl,HO⟩
end Go.Proofs.YtndfmgdhiallpaaGreatDoor
