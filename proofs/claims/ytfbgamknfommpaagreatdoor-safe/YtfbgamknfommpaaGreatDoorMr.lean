import Derived.Test.YtfbgamknfommpaaGreatDoorMq
import Derived.Test.YtfbgamknfommpaaGreatDoorMl
import Derived.Lib.ConvBytes
import Derived.Laws.IdiomStrings
import Derived.Test.YtfbgamknfommpaaGreatDoorMf
namespace Go.Proofs.YtfbgamknfommpaaGreatDoor
open Go.RowKit
def pickN(c:Int)(n:Nat):Nat:=((if c<0 then -(c+1) else c)%(n:Int)).toNat
theorem pickN_lt(c:Int){n:Nat}(h:0<n):pickN c n<n:=by
 unfold pickN
 have h1:=Int.emod_lt_of_pos (if c<0 then -(c+1) else c) (show (0:Int)<(n:Int) by omega)
 have h2:=Int.emod_nonneg (if c<0 then -(c+1) else c) (show (n:Int)≠0 by omega)
 omega
open Go.RowKit Go.Maps
theorem ofInt_u8(a:Nat)(ha:a<256):(BitVec.ofInt 8 (a:Int)).toNat=a:=by
 rw[BitVec.toNat_ofInt]
 omega
theorem u8_xor_nat(a b:Nat)(ha:a<256)(hb:b<256):bits .xor .u8 (a:Int) (b:Int)=((a^^^b:Nat):Int):=by
 have hx:a^^^b<2^8:=Nat.xor_lt_two_pow (by omega) (by omega)
 show IntKind.u8.wrap ((BitVec.ofInt 8 (a:Int)^^^BitVec.ofInt 8 (b:Int)).toNat:Int)=_
 rw[BitVec.toNat_xor,ofInt_u8 a ha,ofInt_u8 b hb,IntKind.wrap_u8]
 omega
def SRow(w:World)(g:Nat)(l:List UInt8):Prop:= ∃cur fr,w.heap[g]? =some (.cells cur 5 fr)∧l.length≤fr.1∧ ∀j (h:j<l.length),cur[j]? =some (.int .u8 (l[j].toNat:Int))
theorem SRow.lt{w:World}{g:Nat}{l:List UInt8}(h:SRow w g l):g<w.heap.size:=by obtain ⟨cur,fr,h,_⟩:=h;exact (Array.getElem?_eq_some_iff.1 h).1
theorem SRow.cell{w:World}{g:Nat}{l:List UInt8}(h:SRow w g l)(j:Nat)(hj:j<l.length):w.cell? ⟨g,j,none⟩=some (.int .u8 (l[j].toNat:Int)):=by
 obtain ⟨cur,fr,hg,_,hc⟩:=h
 rw[cell_of_row w g j cur _ fr hg];exact hc j hj
theorem SRow.thaw{w:World}{g:Nat}{l:List UInt8}(h:SRow w g l)(j:Nat)(hj:j<l.length):w.frozen? ⟨g,j,none⟩=false:=by
 obtain ⟨cur,fr,hg,hf,_⟩:=h
 simp only[World.frozen?,hg]
 simp
 omega
theorem setCell_fr(w:World)(g i:Nat)(cs:Array Value)(t:TypeId)(fr:Nat×Nat)(v:Value)(hg:w.heap[g]? =some (.cells cs t fr)):(w.setCell ⟨g,i,none⟩ v).heap[g]? =some (.cells (cs.setIfInBounds i v) t fr):=by
 simp only[World.setCell,Array.getElem?_modify,hg]
 simp
theorem SRow.set{w:World}{g:Nat}{l:List UInt8}(h:SRow w g l)(j:Nat)(v:UInt8):SRow (w.setCell ⟨g,j,none⟩ (.int .u8 (v.toNat:Int))) g (l.set j v):=by
 obtain ⟨cur,fr,hg,hf,hc⟩:=h
 refine ⟨_,fr,setCell_fr w g j cur 5 fr _ hg,by rw[List.length_set];exact hf,fun i hi=> ?_⟩
 rw[List.length_set] at hi
 rw[Array.getElem?_setIfInBounds]
 have hs:i<cur.size:=by
  rcases Nat.lt_or_ge i cur.size with h|h
  ·exact h
  have:=hc i hi;rw[Array.getElem?_eq_none h] at this;cases this
 by_cases e:j=i
 ·subst e;rw[if_pos rfl,if_pos hs,List.getElem_set_self]
 rw[if_neg e,hc i hi,List.getElem_set_ne e]
theorem SRow.made(w:World)(s:ByteArray):SRow (Lib.bytesWorld w 5 s) w.heap.size s.data.toList:=by
 refine ⟨_,_,Lib.bytesWorld_at_new w 5 s, ?_,fun j hj=> ?_⟩
 ·simp[Lib.bytesCells]
 simp only[Array.length_toList] at hj
 have hj2:j<s.size:=hj
 simp[Lib.bytesCells,Array.getElem?_append,hj2]
theorem bytesWorld_only(w:World)(s:ByteArray):Old w (Lib.bytesWorld w 5 s):=
 ⟨rfl,rfl,rfl,by rw[Lib.bytesWorld_size];omega,fun k hk _=>Lib.bytesWorld_at_old w 5 s k hk⟩
theorem SRow.back{w:World}{g cap:Nat}{l:List UInt8}(h:SRow w g l):(convert 64 9 (.slice (some ⟨g,0,none⟩) l.length cap)).run Tryz.prog w=.ok (.string ⟨l.toArray⟩) w:=
 run_convert_bytes_back w 64 9 5 ⟨g,0,none⟩ cap l Tryz.underlying64 Tryz.underlying5 Tryz.underlying9 (fun j hj=>by rw[Addr.add_lit,Nat.zero_add];exact h.cell j hj)
end Go.Proofs.YtfbgamknfommpaaGreatDoor
