import Derived.Test.YtfbgamknfommpaaGreatDoorJh
import Derived.Test.YtfbgamknfommpaaGreatDoorSh
import Derived.BigQuiet
import Derived.Test.YtfbgamknfommpaaGreatDoorJe
import Derived.Deep.QuietTactic
set_option maxRecDepth 100000
set_option maxHeartbeats 4000000
namespace Go.Proofs.YtfbgamknfommpaaGreatDoor
open Go.RowKit
def numL(s:ByteArray)(a:Nat):Nat→Nat
 |0=>0
 |n+1=>numL s a n+btN s (a+n)*2^(8*n)
theorem numL_lt(s:ByteArray)(a n:Nat):numL s a n<2^(8*n):=by
 induction n with
 |zero=>simp[numL]
 |succ n ih=>
  have hb:=btN_lt s (a+n)
  rw[numL,show 8*(n+1)=8*n+8 by omega,Nat.pow_add]
  have:btN s (a+n)*2^(8*n)≤255*2^(8*n):=Nat.mul_le_mul_right _ (by omega)
  omega
theorem numL_or(s:ByteArray)(a n:Nat):numL s a n|||btN s (a+n)*2^(8*n)=numL s a (n+1):=by
 have h:=Nat.two_pow_add_eq_or_of_lt (numL_lt s a n) (btN s (a+n))
 rw[numL,Nat.or_comm,Nat.mul_comm,←h,Nat.add_comm,Nat.mul_comm]
theorem numberR(s:ByteArray)(a n:Nat)(hn:n≤4)(ha:a+n≤s.size)(hs:s.size≤1000000)(w:World):
 Calls Tryz.prog 144 #[.string s,.int .i64 a,.int .i64 n] w fun r w' =>r=.returned (.int .u32 (numL s a n))∧w' =w:=by
 go_in
 go_wp2_with fail
 go_loop [7,8,10] (fun u _ x=> ∃j:Nat,j≤n∧x=.int .i64 j∧u=.int .u32 (numL s a j)) (fun _ _ x=>n- (intOf x).toNat)
 ·exact ⟨0,by omega,rfl,rfl⟩
 obtain ⟨j,hj,rfl,rfl⟩:=hrel
 by_cases hlt:j<n
 ·have hltI:(j:Int)<(n:Int):=by omega
  have hk:a+j<s.size:=by omega
  have hb:=btN_get (s:=s) (k:=a+j) hk
  have hbl:=btN_lt s (a+j)
  have hll:=numL_lt s a j
  have hp:2^(8*j)≤2^24:=Nat.pow_le_pow_right (by omega) (by omega)
  have hp2:2^(8*(j+1))≤2^32:=Nat.pow_le_pow_right (by omega) (by omega)
  have hq:btN s (a+j)*2^(8*j)<4294967296:=by
   have:btN s (a+j)*2^(8*j)≤255*2^24:=Nat.mul_le_mul (by omega) hp
   omega
  have hor:=numL_or s a j
  have hll2:numL s a j<4294967296:=by omega
  have hx:=u32_or_nat (numL s a j) (btN s (a+j)*2^(8*j)) hll2 hq
  have hmu:(btN s (a+j):Int)*2^(8*j)=((btN s (a+j)*2^(8*j):Nat):Int):=by rw[Int.natCast_mul,Int.natCast_pow];rfl
  rw[hor] at hx
  clear hp hp2 hll hor
  generalize btN s (a+j)*2^(8*j)=q at*
  generalize btN s (a+j)=b at*
  generalize numL s a j=m at*
  have hnx:numL s a (j+1)<4294967296:=by
   have:=numL_lt s a (j+1)
   have hp2:2^(8*(j+1))≤2^32:=Nat.pow_le_pow_right (by omega) (by omega)
   omega
  have HE:Hid (∃M,numL s a (j+1)=M):=⟨_,rfl⟩
  obtain ⟨M,hM⟩:=uh HE
  rw[hM] at hx hnx
  have HM:=hide hM
  clear hM HE
  go_wp2_with fail
  go_round
  ·exact ⟨j+1,by omega,by go_num,by rw[uh HM]⟩
  case measure=>simp[intOf];omega
 have hltI:¬(j:Int)<(n:Int):=by omega
 have hje:j=n:=by omega
 subst hje
 go_wp2_with fail
 go_ret
 exact ⟨rfl,rfl⟩
open Go.RowKit Go.Maps
theorem results_cell_tmp2{P:Program}{fn:Func}{p t u:Tmp}{ty:TypeId}(h:fn.results= #[.cell p ty,.tmp t,.tmp u])(tmps:Array Value)(w:World)(g:Nat)(t0:TypeId)(cs:Array Value)(fr:Nat×Nat)(d:TypeDesc)
 (hp:tmps.getD p undef=.pointer (some ⟨g,0,none⟩))(hg:w.heap[g]? =some (.cells cs t0 fr))
 (hu:P.underlying ty=some d)(hd:(match d with| .struct _| .array _ _=>true|_=>false)=true)(hi:(P.info? ty).map (·.size)=some cs.size):
 (results fn tmps).run P w=.ok (.tuple #[.agg cs,tmps.getD t undef,tmps.getD u undef]) w:=by
 have hp' :tmps[p]?.getD undef=.pointer (some ⟨g,0,none⟩):=by simpa using hp
 simp[results,h,hp',asAddr,run_loadVar_row w g t0 ty cs fr d hg hu hd hi]
theorem readItemR(p s nm:ByteArray)(e1 e2 wy ck sz:Nat)(hs:s.size≤40000)(h30:30≤s.size)(hE1:30+numL s 26 2=e1)(hE2:e1+numL s 18 4=e2)(he:e2≤s.size)
 (hpr:Lib.hasPrefix (s.extract 30 e1).data.toList p.data.toList=true)(hnm:ByteArray.mk (Lib.trimPrefix (s.extract 30 e1).data.toList p.data.toList).toArray=nm)(hwy:numL s 8 2=wy)(hw8:wy=0∨wy=8)(hck:numL s 14 4=ck)(hsz:numL s 22 4=sz)(w:World):
 Calls Tryz.prog 98 #[.string p,.string s] w fun r w' =>r=.returned (.tuple #[.agg #[.string nm,.int .u32 wy,.int .u32 ck,.int .u32 sz,.string (s.extract e1 e2)],.string (s.extract e2 s.size),.bool true])∧Old w w' :=by
 have b1:=numL_lt s 26 2
 have b2:=numL_lt s 18 4
 have N1:=hide (fun W=>numberR s 26 2 (by omega) (by omega) (by omega) W)
 have N2:=hide (fun W=>numberR s 18 4 (by omega) (by omega) (by omega) W)
 have N3:=hide (fun W=>numberR s 8 2 (by omega) (by omega) (by omega) W)
 have N4:=hide (fun W=>numberR s 14 4 (by omega) (by omega) (by omega) W)
 have N5:=hide (fun W=>numberR s 22 4 (by omega) (by omega) (by omega) W)
 have HCP:=hide (fun W=>Tryz.strings_CutPrefix (s.extract 30 e1) p W)
 rw[hpr,hnm] at HCP
 rw[hwy] at N3
 rw[hck] at N4
 rw[hsz] at N5
 clear hpr hnm hwy hck hsz
 generalize numL s 26 2=k1 at*
 generalize numL s 18 4=k2 at*
 have hA:Old w (w.alloc (.cells #[.string ⟨#[]⟩,.int .u32 0,.int .u32 0,.int .u32 0,.string ⟨#[]⟩] 97)):=(Only.refl _ w).alloc _
 have HZ:Hid ((w.alloc (.cells #[.string ⟨#[]⟩,.int .u32 0,.int .u32 0,.int .u32 0,.string ⟨#[]⟩] 97)).heap[w.heap.size]? =some (.cells #[.string ⟨#[]⟩,.int .u32 0,.int .u32 0,.int .u32 0,.string ⟨#[]⟩] 97 (0,0))):=Go.heap_alloc_new w _
 have HO:=hide hA
 clear hA
 have hk1:k1<65536:=b1
 have hk2:k2≤40000:=by omega
 clear b1 b2
 have q1:(30:Int)+(k1:Int)=(e1:Int):=by omega
 have q2:(e1:Int)+(k2:Int)=(e2:Int):=by omega
 have hsI:¬(s.size:Int)<30:=by omega
 have heI:¬(s.size:Int)<(e2:Int):=by omega
 have he1:30≤e1:=by omega
 have he12:e1≤e2:=by omega
 have he1s:e1≤s.size:=by omega
 have hu1:IntKind.u64.wrap (e1:Int)=(e1:Int):=by rw[IntKind.wrap_u64];omega
 have hu2:IntKind.u64.wrap (e2:Int)=(e2:Int):=by rw[IntKind.wrap_u64];omega
 have hsl1: ∀W,(Instr.slice 9 (.string s) (some (.int .i64 30)) (some (.int .u64 (e1:Int))) none).run Tryz.prog W=.ok (.string (s.extract 30 e1)) W:=fun W=>run_slice_string W 9 s .i64 .u64 30 e1 Tryz.underlying9 (by omega) (by omega) (by omega)
 have hsl2: ∀W,(Instr.slice 9 (.string s) (some (.int .u64 (e1:Int))) (some (.int .u64 (e2:Int))) none).run Tryz.prog W=.ok (.string (s.extract e1 e2)) W:=fun W=>run_slice_string W 9 s .u64 .u64 e1 e2 Tryz.underlying9 (by omega) (by omega) (by omega)
 have hsl3: ∀W,(Instr.slice 9 (.string s) (some (.int .u64 (e2:Int))) none none).run Tryz.prog W=.ok (.string (s.extract e2 s.size)) W:=fun W=>run_slice_string_l W 9 s Tryz.underlying9 .u64 e2 (by omega) (by omega)
 clear hE1 hE2
 go_in
 go_wp2_with fail
 generalize w.alloc (.cells #[.string ⟨#[]⟩,.int .u32 0,.int .u32 0,.int .u32 0,.string ⟨#[]⟩] 97)=W at*
 refine (uh N1 _).mono ?_
 rintro r w1 ⟨rfl,rfl⟩
 go_wp2_with fail
 refine (uh N2 _).mono ?_
 rintro r w2 ⟨rfl,rfl⟩
 go_wp2_with fail
 refine (uh HCP _).mono ?_
 rintro r w3 ⟨rfl,rfl⟩
 go_wp2_with fail
 refine (uh N3 _).mono ?_
 rintro r w4 ⟨rfl,rfl⟩
 rcases hw8 with rfl|rfl
 ·have hwz:((0:Nat):Int)=0:=rfl
  simp only[hwz] at*
  go_upto_region 11 with fail
  refine wp_region_last (S:=fun _=>True) (L:=16) (by kernel_rfl) ?_
  refine tk 0 17 (.string nm) 52 trivial ?_
  refine tk 1 17 (.int .u32 0) 53 trivial ?_
  refine tk 2 17 (.string s) 54 trivial ?_
  refine tk 4 17 (.string s) 56 trivial ?_
  refine tk 6 17 (.string s) 58 trivial ?_
  refine tk 7 17 (.int .u64 (e1:Int)) 59 trivial ?_
  refine tk 8 17 (.int .u64 (e2:Int)) 60 trivial ?_
  refine tk 9 17 (.string (s.extract e1 e2)) 61 trivial ?_
  refine tk 11 17 (.string s) 63 trivial ?_
  refine tk 12 17 (.int .u64 (e2:Int)) 64 trivial ?_
  refine tk 13 17 (.string (s.extract e2 s.size)) 65 trivial ?_
  refine wpAnyL_one (i:=3) (by kernel_rfl) ?_
  refine wpOp_step rfl (fun K' hK=> ?_)
  go_simp
  refine (uh N4 _).mono ?_
  rintro r w5 ⟨rfl,rfl⟩
  refine hK _ _ ⟨fun _=>trivial, ?_⟩
  clear hK
  refine wpAnyL_one (i:=5) (by kernel_rfl) ?_
  refine wpOp_step rfl (fun K' hK=> ?_)
  go_simp
  refine (uh N5 _).mono ?_
  rintro r w6 ⟨rfl,rfl⟩
  refine hK _ _ ⟨fun _=>trivial, ?_⟩
  clear hK
  refine tk 10 17 (.agg #[.string nm,.int .u32 0,.int .u32 (ck:Int),.int .u32 (sz:Int),.string (s.extract e1 e2)]) 62 trivial ?_
  refine wpAnyL_one (i:=14) (by kernel_rfl) ?_
  refine op_plain rfl rfl (wp_store_row 97 (.tmp 4) (.tmp 62) rfl w.heap.size #[.string nm,.int .u32 0,.int .u32 (ck:Int),.int .u32 (sz:Int),.string (s.extract e1 e2)] rfl rfl 97 _ (show w4.drew.heap[w.heap.size]? =_ from uh HZ) infoItem rfl (it_one _ _ _ _ _) ?_)
  refine ⟨fun _=>trivial, ?_⟩
  simp only[Act.put]
  refine wpAnyL_one (i:=15) (by kernel_rfl) ?_
  refine wpOp_step rfl (fun K' hK=> ?_)
  go_simp
  refine hK _ _ ⟨fun _=>trivial, ?_⟩
  clear hK
  refine wpAnyL_one (i:=16) (by kernel_rfl) ?_
  refine wpOp_step rfl (fun K' hK=> ?_)
  go_simp
  refine hK _ _ ⟨fun _=>trivial, ?_⟩
  clear hK
  refine wpAnyL_done (by kernel_rfl) ?_
  go_wp2_with fail
  refine bodyPost_ret (results_cell_tmp2 Tryz.results98 _ _ w.heap.size 97 _ (0,0) _ rfl (setRow_heap w4.drew w.heap.size _ #[.string nm,.int .u32 0,.int .u32 (ck:Int),.int .u32 (sz:Int),.string (s.extract e1 e2)] _ _ (uh HZ)) Tryz.underlying97 rfl infoItem) rfl ⟨?_,((uh HO).drew).setRow _ (fun h=>absurd h (Nat.lt_irrefl _)) _⟩
  rfl
 have hwz:((8:Nat):Int)=8:=rfl
 simp only[hwz] at*
 go_upto_region 11 with fail
 refine wp_region_last (S:=fun _=>True) (L:=16) (by kernel_rfl) ?_
 refine tk 0 17 (.string nm) 52 trivial ?_
 refine tk 1 17 (.int .u32 8) 53 trivial ?_
 refine tk 2 17 (.string s) 54 trivial ?_
 refine tk 4 17 (.string s) 56 trivial ?_
 refine tk 6 17 (.string s) 58 trivial ?_
 refine tk 7 17 (.int .u64 (e1:Int)) 59 trivial ?_
 refine tk 8 17 (.int .u64 (e2:Int)) 60 trivial ?_
 refine tk 9 17 (.string (s.extract e1 e2)) 61 trivial ?_
 refine tk 11 17 (.string s) 63 trivial ?_
 refine tk 12 17 (.int .u64 (e2:Int)) 64 trivial ?_
 refine tk 13 17 (.string (s.extract e2 s.size)) 65 trivial ?_
 refine wpAnyL_one (i:=3) (by kernel_rfl) ?_
 refine wpOp_step rfl (fun K' hK=> ?_)
 go_simp
 refine (uh N4 _).mono ?_
 rintro r w5 ⟨rfl,rfl⟩
 refine hK _ _ ⟨fun _=>trivial, ?_⟩
 clear hK
 refine wpAnyL_one (i:=5) (by kernel_rfl) ?_
 refine wpOp_step rfl (fun K' hK=> ?_)
 go_simp
 refine (uh N5 _).mono ?_
 rintro r w6 ⟨rfl,rfl⟩
 refine hK _ _ ⟨fun _=>trivial, ?_⟩
 clear hK
 refine tk 10 17 (.agg #[.string nm,.int .u32 8,.int .u32 (ck:Int),.int .u32 (sz:Int),.string (s.extract e1 e2)]) 62 trivial ?_
 refine wpAnyL_one (i:=14) (by kernel_rfl) ?_
 refine op_plain rfl rfl (wp_store_row 97 (.tmp 4) (.tmp 62) rfl w.heap.size #[.string nm,.int .u32 8,.int .u32 (ck:Int),.int .u32 (sz:Int),.string (s.extract e1 e2)] rfl rfl 97 _ (show w4.drew.heap[w.heap.size]? =_ from uh HZ) infoItem rfl (it_one _ _ _ _ _) ?_)
 refine ⟨fun _=>trivial, ?_⟩
 simp only[Act.put]
 refine wpAnyL_one (i:=15) (by kernel_rfl) ?_
 refine wpOp_step rfl (fun K' hK=> ?_)
 go_simp
 refine hK _ _ ⟨fun _=>trivial, ?_⟩
 clear hK
 refine wpAnyL_one (i:=16) (by kernel_rfl) ?_
 refine wpOp_step rfl (fun K' hK=> ?_)
 go_simp
 refine hK _ _ ⟨fun _=>trivial, ?_⟩
 clear hK
 refine wpAnyL_done (by kernel_rfl) ?_
 go_wp2_with fail
 refine bodyPost_ret (results_cell_tmp2 Tryz.results98 _ _ w.heap.size 97 _ (0,0) _ rfl (setRow_heap w4.drew w.heap.size _ #[.string nm,.int .u32 8,.int .u32 (ck:Int),.int .u32 (sz:Int),.string (s.extract e1 e2)] _ _ (uh HZ)) Tryz.underlying97 rfl infoItem) rfl ⟨?_,((uh HO).drew).setRow _ (fun h=>absurd h (Nat.lt_irrefl _)) _⟩
 rfl
def strSz(v:Value):Nat:=match v with| .string s=>s.size|_=>0
theorem readOne(p s nm rest:ByteArray)(e1 e2 wy ck sz:Nat)(pk:ByteArray)(hs:s.size≤40000)(h30:30≤s.size)(hE1:30+numL s 26 2=e1)(hE2:e1+numL s 18 4=e2)(he:e2≤s.size)
 (hpr:Lib.hasPrefix (s.extract 30 e1).data.toList p.data.toList=true)(hnm:ByteArray.mk (Lib.trimPrefix (s.extract 30 e1).data.toList p.data.toList).toArray=nm)(hwy:numL s 8 2=wy)(hw8:wy=0∨wy=8)(hck:numL s 14 4=ck)(hsz:numL s 22 4=sz)
 (hpk:s.extract e1 e2=pk)(hrest:s.extract e2 s.size=rest)
 (hm1:Lib.hasPrefix s.data.toList mkL.data.toList=true)(hm2:Lib.hasPrefix rest.data.toList mkL.data.toList=false)(hk:LaidOk p [⟨nm,wy,ck,sz,pk⟩])(hA:ByteArray.mk (laidL p [⟨nm,wy,ck,sz,pk⟩]).toArray=s)(w:World):
 Calls Tryz.prog 55 #[.string p,.string s] w fun r w' =>Old w w' ∧ ∃v,r=.returned (.tuple #[v,.bool true])∧ItemsAt w' (fun k=>w.heap.size≤k) v [⟨nm,wy,ck,sz,pk⟩]:=by
 obtain ⟨i0,hi0,hz0,hz1,hz2⟩:=info_parts infoItems
 have H1:=hide (fun W=>readItemR p s nm e1 e2 wy ck sz hs h30 hE1 hE2 he hpr hnm hwy hw8 hck hsz W)
 rw[hpk,hrest] at H1
 have hrs:rest.size<s.size:=by rw[←hrest,ByteArray.size_extract];omega
 have HP1:=hide (fun W=>Tryz.strings_HasPrefix s mkL W)
 have HP2:=hide (fun W=>Tryz.strings_HasPrefix rest mkL W)
 rw[hm1] at HP1
 rw[hm2] at HP2
 have HL:=hide (fun v W hv=>laidA (fun k=>w.heap.size≤k) p v [⟨nm,wy,ck,sz,pk⟩] hk W hv)
 rw[hA] at HL
 clear hE1 hE2 he hpr hnm hwy hw8 hck hsz hpk hrest hm1 hm2 hk hA
 go_in
 go_wp2_with fail
 go_loopw [6,7,8,9,10] (fun u t _ _ _ wr=>Hid (Old w wr)∧((u=.slice none 0 0∧t=.string s)∨(Hid (ItemsAt wr (fun k=>w.heap.size≤k) u [⟨nm,wy,ck,sz,pk⟩])∧t=.string rest))) (fun _ t _ _ _ _=>strSz t)
 ·exact ⟨Only.refl _ w,.inl ⟨rfl,rfl⟩⟩
 obtain ⟨HO,⟨rfl,rfl⟩|⟨HI,rfl⟩⟩:=hrel
 ·go_wp2_with fail
  refine (uh HP1 _).mono ?_
  rintro r w1 ⟨rfl,rfl⟩
  go_wp2_with fail
  refine (uh H1 _).mono ?_
  rintro r w2 ⟨rfl,ho2⟩
  have HO2:=hide (Only.trans (uh HO) ho2)
  clear ho2 HO
  have hA:Old w2 (w2.alloc (.cells #[.string nm,.int .u32 (wy:Int),.int .u32 (ck:Int),.int .u32 (sz:Int),.string pk] 97)):=(Only.refl _ w2).alloc _
  have HI2:Hid (ItAt (w2.alloc (.cells #[.string nm,.int .u32 (wy:Int),.int .u32 (ck:Int),.int .u32 (sz:Int),.string pk] 97)) w2.heap.size ⟨nm,wy,ck,sz,pk⟩):=Go.heap_alloc_new w2 _
  have HO3:=hide (Only.trans (uh HO2) hA)
  clear hA
  go_wp2_with fail
  generalize w2.alloc (.cells #[.string nm,.int .u32 (wy:Int),.int .u32 (ck:Int),.int .u32 (sz:Int),.string pk] 97)=W at*
  go_quiet (fail)
  have HI3:Hid (ItAt (W.drewN nq) w2.heap.size ⟨nm,wy,ck,sz,pk⟩):=uh HI2
  have HO4:=hide ((uh HO3).drewN nq)
  clear HI2 HO3 HO2
  generalize W.drewN nq=V at*
  obtain ⟨c0,c1,c2,c3,c4⟩:=(uh HI3).cells
  have hA2:Old V (V.alloc (.cells (It.v ⟨nm,wy,ck,sz,pk⟩) 97)):=(Only.refl _ V).alloc _
  have HOWN:=hide (World.ownsRow_nil (V.alloc (.cells (It.v ⟨nm,wy,ck,sz,pk⟩) 97)) 0 97 5)
  have HNW:=hide (it_new (wr:=V) ⟨nm,wy,ck,sz,pk⟩)
  have hoc: ∀u∈(It.v ⟨nm,wy,ck,sz,pk⟩).toList,u.oneCell' =true:=by intro u hu;simp at hu;rcases hu with rfl|rfl|rfl|rfl|rfl<;>rfl
  have HO5:=hide (Only.trans (uh HO4) hA2)
  have HFN:Hid (∀(g2 cap2:Nat) (w3:World),w3.ownsRow 0 97 5 (.slice (some ⟨g2,0,none⟩) (0+1) cap2) (0+1) ([]++(It.v ⟨nm,wy,ck,sz,pk⟩).toList)→(V.alloc (.cells (It.v ⟨nm,wy,ck,sz,pk⟩) 97)).grownBy w3 (Value.slice none 0 0).ownBlock→((Value.slice none 0 0).ownBlock=some g2∨g2=V.heap.size+1)→ItemsAt w3 (fun k=>w.heap.size≤k) (.slice (some ⟨g2,0,none⟩) 1 cap2) [⟨nm,wy,ck,sz,pk⟩]∧Old w w3):=by
   intro g2 cap2 w3 ho3 hg3 hl3
   refine ⟨⟨?_,fun b hb=> ?_⟩,(uh HO5).grown hg3 (fun k hk e=>by cases e)⟩
   ·rw[itCells_one];exact ho3
   injection hb with hb
   subst hb
   rcases hl3 with h|h
   ·cases h
   have:=(uh HO4).size;simp only;omega
  clear hA2
  go_wp2_with (at_builtin;refine wpList_append_lies _ rfl (.tmp 45) (.tmp 47) 95 rfl 0 97 i0 (.agg #[.string ⟨#[]⟩,.int .u32 0,.int .u32 0,.int .u32 0,.string ⟨#[]⟩]) 5 48 Tryz.underlying95 hi0 hz0 hz1 hz2 rfl (by omega) (.slice none 0 0) 0 _ rfl (uh HOWN) ⟨V.heap.size,0,none⟩ 1 1 (It.v ⟨nm,wy,ck,sz,pk⟩).toList rfl rfl (uh HNW) hoc (by omega) (by unfold maxLen;omega) (by omega) (by omega) (V.heap.size+1) (by simp) ?_;intro g2 cap2 w3 ho3 hg3 hl3 hlt3;have HX:=hide (uh HFN g2 cap2 w3 ho3 hg3 hl3);clear ho3 hg3 hl3)
  go_roundw
  ·exact ⟨(uh HX).2,.inr ⟨(uh HX).1,rfl⟩⟩
  simp[strSz];omega
 go_wp2_with fail
 refine (uh HP2 _).mono ?_
 rintro r w1 ⟨rfl,rfl⟩
 go_wp2_with fail
 refine (uh HL _ _ (uh HI)).mono ?_
 rintro r w2 ⟨ho2,rfl⟩
 have HO2:=hide (Only.trans (uh HO) ho2)
 have HI2:=hide ((uh HI).kept ho2 (fun _ _ x=>x))
 clear ho2 HO HI
 go_wp2_with fail
 go_ret2
 exact ⟨HO2,_,rfl,HI2⟩
theorem headsX(v:Value)(wy ck sz:Nat)(pk:ByteArray)(hsz:sz≤4000)(B:Nat→Prop)(w:World)(hm:MaxAt w)(hv:ItemsAt w B v [⟨sX,wy,ck,sz,pk⟩]):
 Calls Tryz.prog 56 #[v] w fun r w' =>r=.returned (.int .i64 0)∧Old w w' :=by
 obtain ⟨g,cap,rfl,_,cur,hg,hcl⟩:=hv.slice (by simp)
 have hgl:g<w.heap.size:=(Array.getElem?_eq_some_iff.1 hg).1
 have q0:w.cell? ⟨g,0,none⟩=some (.string sX):=hcl 0 (by simp) 0 (by omega)
 have q1:w.cell? ⟨g,1,none⟩=some (.int .u32 wy):=hcl 0 (by simp) 1 (by omega)
 have q2:w.cell? ⟨g,2,none⟩=some (.int .u32 ck):=hcl 0 (by simp) 2 (by omega)
 have q3:w.cell? ⟨g,3,none⟩=some (.int .u32 sz):=hcl 0 (by simp) 3 (by omega)
 have q4:w.cell? ⟨g,4,none⟩=some (.string pk):=hcl 0 (by simp) 4 (by omega)
 have hA:Old w (w.alloc (.map #[] 0)):=(Only.refl _ w).alloc _
 have HG:Hid ((w.alloc (.map #[] 0)).heap[w.heap.size]? =some (.map #[] 0)):=Go.heap_alloc_new w _
 have HM:=hide (hm.old hA)
 have HC:Hid (∀c x,w.cell? ⟨g,c,none⟩=some x→(w.alloc (.map #[] 0)).cell? ⟨g,c,none⟩=some x):=fun c x h=>(hA.cell (p:=⟨g,c,none⟩) hgl (fun x=>x)).trans h
 have r0:=uh HC 0 _ q0
 have r1:=uh HC 1 _ q1
 have r2:=uh HC 2 _ q2
 have r3:=uh HC 3 _ q3
 have r4:=uh HC 4 _ q4
 have HO:=hide hA
 clear hA hm hcl hv hg q0 q1 q2 q3 q4 HC
 have hmm:= @run_makeMap Tryz.prog
 go_in
 go_wp2_with fail
 clear hmm
 generalize w.alloc (.map #[] 0)=W0 at*
 go_loopw [4,6,10] (fun a _ x wr=> ∃i:Nat,i≤1∧x=.int .i64 i∧Hid (Old w wr)∧Hid (i=0→wr=W0∧a=.int .u32 0)) (fun _ _ x _=>1- (intOf x).toNat)
 ·exact ⟨0,by omega,rfl,HO,fun _=>⟨rfl,rfl⟩⟩
 obtain ⟨i,hi,rfl,HO1,HX⟩:=hrel
 have hcs:i=0∨i=1:=by omega
 rcases hcs with rfl|rfl
 ·obtain ⟨rfl,rfl⟩:=uh HX rfl
  clear HX HO1
  have hA:Old wr (wr.alloc (.cells #[.string sX,.int .u32 (wy:Int),.int .u32 (ck:Int),.int .u32 (sz:Int),.string pk] 97)):=(Only.refl _ wr).alloc _
  have HI2:Hid (ItAt (wr.alloc (.cells #[.string sX,.int .u32 (wy:Int),.int .u32 (ck:Int),.int .u32 (sz:Int),.string pk] 97)) wr.heap.size ⟨sX,wy,ck,sz,pk⟩):=Go.heap_alloc_new wr _
  have HG2:=hide (old_heap hA (uh HG))
  have HM2:=hide ((uh HM).old hA)
  have HO2:=hide (Only.trans (uh HO) hA)
  have hlt2:wr.heap.size≠w.heap.size:=by have:=(Array.getElem?_eq_some_iff.1 (uh HG)).1;omega
  clear hA HG HM HO
  go_upto_region 6 with fail
  generalize wr.alloc (.cells #[.string sX,.int .u32 (wy:Int),.int .u32 (ck:Int),.int .u32 (sz:Int),.string pk] 97)=W at*
  clear r0 r1 r2 r3 r4
  have n0:=(uh HI2).cells.1
  have H1:=hide (isFileX W (uh HM2))
  go_wp2_with fail
  refine (uh H1).mono ?_
  rintro r w1 ⟨rfl,ho1⟩
  have HI3:=hide ((uh HI2).kept ho1 (fun x=>x))
  have HG3:=hide (old_heap ho1 (uh HG2))
  have HO3:=hide (Only.trans (uh HO2) ho1)
  have n1:=(uh HI3).cells.1
  have H2:=hide (otherX w1)
  clear H1 ho1 n0 HI2 HG2 HO2 HM2
  go_wp2_with fail
  refine (uh H2).mono ?_
  rintro r w2 ⟨rfl,ho2⟩
  have HI4:=hide ((uh HI3).kept ho2 (fun x=>x))
  have HG4:=hide (old_heap ho2 (uh HG3))
  have HO4:=hide (Only.trans (uh HO3) ho2)
  have n2:=(uh HI4).cells.1
  have H3:=hide (clashesX w.heap.size w2 (uh HG4))
  clear H2 ho2 n1 HI3 HG3 HO3
  go_wp2_with fail
  refine (uh H3).mono ?_
  rintro r w3 ⟨rfl,ho3⟩
  have HI5:=hide ((uh HI4).kept ho3 (fun x=>x))
  have HG5:=hide (old_heap ho3 (uh HG4))
  have HO5:=hide (Only.trans (uh HO4) ho3)
  have n3:=(uh HI5).cells.1
  have m3:=(uh HI5).cells.2.2.2.1
  clear H3 ho3 n2 HI4 HG4 HO4
  have hzI:¬(4000:Int)<(sz:Int):=by omega
  have hzI2:¬(16000:Int)<(sz:Int):=by omega
  have hw4:IntKind.u32.wrap 4000=4000:=by decide
  have hd4:decide ((4000:Int)<(sz:Int))=false:=by simpa using hzI
  have hd5:decide ((16000:Int)<(sz:Int))=false:=by simpa using hzI2
  have hd6:decide (4000<sz)=false:=by simpa using hsz
  have hd7:decide (16000<sz)=false:=by rw[decide_eq_false_iff_not];omega
  go_wp2_with fail
  go_quiet ((go_at_call 88;exact Calls.quiet_of_same (mostX _)))
  have HI6:Hid (ItAt (w3.drewN nq) wr.heap.size ⟨sX,wy,ck,sz,pk⟩):=uh HI5
  have HG6:Hid ((w3.drewN nq).heap[w.heap.size]? =some (.map #[] 0)):=uh HG5
  have HO6:=hide ((uh HO5).drewN nq)
  clear HI5 HG5 HO5 n3 m3
  generalize w3.drewN nq=V at*
  have n4:=(uh HI6).cells.1
  have H4:=hide (addX w.heap.size V (uh HG6))
  go_wp2_with fail
  refine (uh H4).mono ?_
  rintro r w5 ⟨rfl,ho5⟩
  have HI7:=hide ((uh HI6).kept ho5 hlt2)
  have HO7:Hid (Old w w5):=(uh HO6).transNew ho5 (fun k hk h=>by omega)
  have m5:=(uh HI7).cells.2.2.2.1
  clear H4 ho5 n4 HI6 HG6 HO6
  go_wp2_with fail
  go_roundw
  ·exact ⟨1,by omega,by go_num,HO7,fun h=>by cases h⟩
  simp[intOf]
 go_wp2_with fail
 go_ret
 exact ⟨rfl,HO1⟩
end Go.Proofs.YtfbgamknfommpaaGreatDoor
