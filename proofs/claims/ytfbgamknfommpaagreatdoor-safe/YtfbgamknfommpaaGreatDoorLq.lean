import Derived.Test.YtfbgamknfommpaaGreatDoorLo
import Derived.Test.YtfbgamknfommpaaGreatDoorJk
import Derived.Test.YtfbgamknfommpaaGreatDoorMr
import Derived.Test.YtfbgamknfommpaaGreatDoorJo
set_option maxRecDepth 100000
set_option maxHeartbeats 400000
namespace Go.Proofs.YtfbgamknfommpaaGreatDoor
open Go.RowKit Go.Maps
open Go.ChangeShapes Go.WideShapes Go.ChangeAt Go.RowKit
theorem cRaw:Tryz.prog.cellsOf 63=3:=by kernel_rfl
theorem rawone_of{H:Type}{enc:TypeId×Value→H}{W:World}{fuel:Nat}{cs:List Value}{d:DataW H}{p:List MemPlace}{sp:Nat→Bool}{hd:Bool}(hl:cs.length=3)
 (h:DataW.trod enc Tryz.prog W 0 sp hd fuel 63 cs=some (d,p)):
 ∃(k a:Int) (s:ByteArray),cs=[.int .i64 k,.int .i64 a,.string s]∧(-9223372036854775808≤k∧k≤9223372036854775807)∧(-9223372036854775808≤a∧a≤9223372036854775807)∧s.data.toList.length∈d.weights Tryz.prog 63:=by
 obtain ⟨xs,n,rfl,hx,hlen,hn,hf⟩:=DataW.trod_struct Tryz.underlying63 h
 match cs,hl,xs,hn with
 |[v0,v1,v2],_,[y0,y1,y2],_=>
  have g0:=hf 0 _ rfl
  have g1:=hf 1 _ rfl
  have g2:=hf 2 _ rfl
  simp[cInt,cStr] at g0 g1 g2
  obtain ⟨k,e0,k0⟩:=DataW.trod_int Tryz.underlying3 g0
  obtain ⟨a,e1,k1⟩:=DataW.trod_int Tryz.underlying3 g1
  obtain ⟨s,e2,x2,_⟩:=DataW.trod_string Tryz.underlying9 g2
  simp at e0 e1 e2
  subst e0 e1 e2
  refine ⟨k,a,s,rfl, ?_, ?_, ?_⟩
  ·have:=k0.2
   simp only[Lit.wf,Bool.and_eq_true,decide_eq_true_eq] at this
   exact this
  ·have:=k1.2
   simp only[Lit.wf,Bool.and_eq_true,decide_eq_true_eq] at this
   exact this
  simp only[Prod.mk.injEq] at hx
  rw[hx.1]
  unfold DataW.weights
  rw[Tryz.underlying63]
  refine DataW.weights_mem_each (j:=2) (t:=9) (d:=y2.1) rfl rfl _ ?_
  rw[x2]
  simp[DataW.weights]
theorem raw_of{H:Type}{enc:TypeId×Value→H}{W:World}{v:Value}{d:DataW H}{ps:List MemPlace}{sp:Nat→Bool}{hd:Bool}{ts:List TypeId}{ds:List (DataW H)}
 (h:DataW.Trod enc Tryz.prog W 0 sp hd 22 v d ps)(hv:v.oneCell' =true)(hw:(DataW.weightsEach Tryz.prog ts ds).all (· ≤reachBytes)=true)(ht:ts[0]? =some 22)(hd0:ds[0]? =some d):
 ∃n,n≤maxLen∧RawAt W v n:=by
 obtain ⟨fuel,h⟩:=h
 rcases Go.Deep.open_slice Tryz.underlying22 h with ⟨hc,_⟩|⟨a,len,cap,m,n,D,Pl,hc,hb,hl,hm,hmm,hx,hall⟩
 ·refine ⟨0,Nat.zero_le _,.inl ⟨?_,rfl⟩⟩
  cases v<;>simp_all [Value.cells,Value.oneCell']
 refine ⟨len,by omega,.inr ⟨a,cap, ?_,fun i hi=> ?_⟩⟩
 ·cases v<;>simp_all [Value.cells,Value.oneCell']
 have him:i<m:=by rw[hmm];split<;>omega
 obtain ⟨cs',h1,h2⟩:=hall i him
 rw[cRaw] at h1
 obtain ⟨_,hlen,hcell⟩:=World.cells?_some h1
 obtain ⟨k,p,s,rfl,h5,h6,hmem⟩:=rawone_of hlen h2
 have hsz:s.data.toList.length≤reachBytes:=by
  have h3:=DataW.weights_mem_each (P:=Tryz.prog) ht hd0 (s.data.toList.length) (by
   simp only[Prod.mk.injEq] at hx
   rw[hx.1]
   unfold DataW.weights
   rw[Tryz.underlying22]
   refine List.mem_cons_of_mem _ (List.mem_append.2 (.inl (weights_mem_all (d:=D i) ?_ _ hmem)))
   exact List.mem_map.2 ⟨i,List.mem_range.2 hi,rfl⟩)
  have:=List.all_eq_true.1 hw _ h3
  simpa using this
 have c0:=hcell 0 (by omega)
 have c1:=hcell 1 (by omega)
 have c2:=hcell 2 (by omega)
 refine ⟨k,p,s,h5,h6, ?_, ?_, ?_, ?_⟩
 ·have e:s.size=s.data.toList.length:=rfl
  rw[e];exact Nat.le_trans hsz (by decide)
 ·rw[Addr.add_add,Nat.add_zero] at c0;simpa using c0
 ·exact (congrArg W.cell? (Addr.add_succ' (a.add (i*3)) 0).symm).trans (by simpa using c1)
 exact (congrArg W.cell? (Addr.add_succ' (a.add (i*3)) 1).symm).trans (by simpa using c2)
end Go.Proofs.YtfbgamknfommpaaGreatDoor
