import Derived.Test.YtfbgamknfommpaaGreatDoorChecked
import Derived.WalkKit
import Derived.Deep.QuietTactic
import Derived.BigQuiet
import Derived.WalkSmall
set_option maxRecDepth 100000
set_option maxHeartbeats 400000
namespace Go.Proofs.YtfbgamknfommpaaGreatDoor.dk
open Go.RowKit
theorem ret2_eq{a b c d:Value}(h:a=c)(k:b=d):Ending.returned (.tuple #[a,b])=.returned (.tuple #[c,d]):=by rw[h,k]
theorem ret1_eq{a c:Value}(h:a=c):Ending.returned a=.returned c:=by rw[h]
theorem hide{p:Prop}(h:p):Hid p:=h
theorem uh{p:Prop}(h:Hid p):p:=h
structure Th where
 p:ByteArray
 f:Bool
 d:ByteArray
def noTh:Th:=⟨⟨#[]⟩,false,⟨#[]⟩⟩
def nth(ts:List Th)(k:Nat):Th:=ts.getD k noTh
def flat:List Th→List Value
 |[]=>[]
 |t::r=> .string t.p:: .bool t.f:: .string t.d::flat r
theorem flat_length(ts:List Th):(flat ts).length=ts.length*3:=by
 induction ts with
 |nil=>rfl
 |cons t r ih=>simp[flat,ih];omega
theorem flat_append(a b:List Th):flat (a++b)=flat a++flat b:=by
 induction a with
 |nil=>rfl
 |cons t r ih=>simp[flat,ih]
theorem flat_get(ts:List Th)(k:Nat)(h:k<ts.length):(flat ts)[k*3]? =some (.string (nth ts k).p)∧(flat ts)[k*3+1]? =some (.bool (nth ts k).f)∧(flat ts)[k*3+2]? =some (.string (nth ts k).d):=by
 induction ts generalizing k with
 |nil=>simp at h
 |cons t r ih=>
  match k with
  |0=>simp[flat,nth]
  |k+1=>
   have:=ih k (by simpa using h)
   rw[show (k+1)*3=k*3+1+1+1 by omega]
   simpa [flat,nth] using this
def bs(ts:List Th)(q:ByteArray):Nat→Nat→Nat→Nat
 |0,lo,_=>lo
 |n+1,lo,hi=>if lo<hi then (if Op.bytesLess (nth ts ((lo+hi)/2)).p.toList q.toList then bs ts q n ((lo+hi)/2+1) hi else bs ts q n lo ((lo+hi)/2)) else lo
theorem bs_end(ts:List Th)(q:ByteArray)(n lo hi:Nat)(h:hi≤lo):bs ts q n lo hi=lo:=by
 cases n with
 |zero=>rfl
 |succ n=>unfold bs;rw[if_neg (by omega)]
theorem bs_le(ts:List Th)(q:ByteArray)(n:Nat): ∀lo hi,lo≤hi→lo≤bs ts q n lo hi∧bs ts q n lo hi≤hi:=by
 induction n with
 |zero=>intro lo hi h;exact ⟨Nat.le_refl _,h⟩
 |succ n ih=>
  intro lo hi h
  unfold bs
  split
  ·split
   ·have:=ih ((lo+hi)/2+1) hi (by omega);omega
   have:=ih lo ((lo+hi)/2) (by omega);omega
  omega
def low(ts:List Th)(q:ByteArray):Nat:=bs ts q ts.length 0 ts.length
theorem low_le(ts:List Th)(q:ByteArray):low ts q≤ts.length:=(bs_le ts q _ 0 _ (Nat.zero_le _)).2
def isAt(ts:List Th)(q:ByteArray):Bool:=decide (low ts q<ts.length)&&((nth ts (low ts q)).p.toList==q.toList)
theorem bs_hit{ts:List Th}{q:ByteArray}{n lo hi:Nat}(h:lo<hi)(hl:Op.bytesLess (nth ts ((lo+hi)/2)).p.toList q.toList=true):bs ts q (n+1) lo hi=bs ts q n ((lo+hi)/2+1) hi:=by
 rw[bs,if_pos h,if_pos hl]
theorem bs_miss{ts:List Th}{q:ByteArray}{n lo hi:Nat}(h:lo<hi)(hl:Op.bytesLess (nth ts ((lo+hi)/2)).p.toList q.toList=false):bs ts q (n+1) lo hi=bs ts q n lo ((lo+hi)/2):=by
 rw[bs,if_pos h,if_neg (by simp[hl])]
end Go.Proofs.YtfbgamknfommpaaGreatDoor.dk
namespace Go.Proofs.YtfbgamknfommpaaGreatDoor.dk
open Go.RowKit
theorem at_any(b g cap:Nat)(ts:List Th)(q:ByteArray)(w:World)(hm:ts.length≤1000000000000)
 (h0:w.cell? ⟨b,0,none⟩=some (.slice (some ⟨g,0,none⟩) ts.length cap))
 (hp: ∀k,k<ts.length→w.cell? ⟨g,k*3,none⟩=some (.string (nth ts k).p)):
 Calls Tryz.prog 35 #[.pointer (some ⟨b,0,none⟩),.string q] w fun e w' =>e=.returned (.tuple #[.int .i64 (low ts q),.bool (isAt ts q)])∧ ∃n,w' =w.drewN n:=by
 go_in
 go_wp2_with fail
 go_quiet (fail)
 go_wp2_with fail
 go_loop [6,7] (fun x y=> ∃lo hi n:Nat,lo≤hi∧hi≤ts.length∧hi- lo≤n∧x=.int .i64 lo∧y=.int .i64 hi∧Hid (bs ts q n lo hi=low ts q)) (fun x y=>(intOf y).toNat- (intOf x).toNat)
 ·exact ⟨0,ts.length,ts.length,Nat.zero_le _,Nat.le_refl _,Nat.le_refl _,rfl,rfl,rfl⟩
 obtain ⟨lo,hi,n,h1,h2,h3,rfl,rfl,hb⟩:=hrel
 by_cases hlt:lo<hi
 ·obtain ⟨n,rfl⟩: ∃m,n=m+1:=⟨n- 1,by omega⟩
  have hc:=hp ((lo+hi)/2) (by omega)
  go_wp2
  ·have hl:Op.bytesLess (nth ts ((lo+hi)/2)).p.toList q.toList=true:=by assumption
   go_round
   ·exact ⟨(lo+hi)/2+1,hi,n,by omega,by omega,by omega,by go_num,rfl,(bs_hit hlt hl).symm.trans hb.out⟩
   case measure=>simp[intOf];omega
  have hl:Op.bytesLess (nth ts ((lo+hi)/2)).p.toList q.toList=false:=by assumption
  go_round
  ·exact ⟨lo,(lo+hi)/2,n,by omega,by omega,by omega,rfl,by go_num,(bs_miss hlt hl).symm.trans hb.out⟩
  case measure=>simp[intOf];omega
 have hlow:Hid (low ts q=lo):=hb.out.symm.trans (bs_end _ _ _ _ _ (by omega))
 clear hb
 go_wp2_with fail
 by_cases hz:lo<ts.length
 ·have hc:=hp lo hz
  go_quiet (fail)
  go_wp2
  go_ret2
  exact ⟨ret2_eq (show Value.int .i64 (lo:Int)=_ by rw[hlow.out]) (show Value.bool ((nth ts lo).p.toList==q.toList)=_ by simp[isAt,hlow.out,hz]),_,World.drewN_drewN ..⟩
 have hd:decide (((lo:Nat):Int)<(ts.length:Int))=false:=by simp;omega
 go_quiet (fail)
 go_wp2
 go_ret2
 exact ⟨ret2_eq (show Value.int .i64 (lo:Int)=_ by rw[hlow.out]) (show Value.bool false=_ by simp[isAt,hlow.out,hz]),_,World.drewN_drewN ..⟩
theorem at_nil(b:Nat)(q:ByteArray)(w:World)
 (h0:w.cell? ⟨b,0,none⟩=some (.slice none 0 0)):
 Calls Tryz.prog 35 #[.pointer (some ⟨b,0,none⟩),.string q] w fun e w' =>e=.returned (.tuple #[.int .i64 0,.bool false])∧ ∃n,w' =w.drewN n:=by
 go_in
 go_wp2_with fail
 go_quiet (fail)
 go_wp2_with fail
 go_loop [6,7] (fun x y=>x=.int .i64 0∧y=.int .i64 0) (fun x y=>0)
 ·exact ⟨rfl,rfl⟩
 obtain ⟨rfl,rfl⟩:=hrel
 go_wp2_with fail
 go_quiet (fail)
 go_wp2
 go_ret2
 exact ⟨rfl,_,World.drewN_drewN ..⟩
end Go.Proofs.YtfbgamknfommpaaGreatDoor.dk
namespace Go.Proofs.YtfbgamknfommpaaGreatDoor.dk
open Go.RowKit
def par(s:ByteArray):Nat→Nat→Nat→ByteArray→Option ByteArray
 |0,_,_,up=>some up
 |n+1,i,fr,up=>
  if h:i<s.size then
   (if s[i].toNat=47 then (if i=fr then none else par s n (i+1) (i+1) (s.extract 0 i)) else par s n (i+1) fr up)
  else if i=fr then none else some up
theorem par_sl_no{s:ByteArray}{n i fr:Nat}{up:ByteArray}(h:i<s.size)(h1:s[i].toNat=47)(h2:i=fr):par s (n+1) i fr up=none:=by
 rw[par,dif_pos h,if_pos h1,if_pos h2]
theorem par_sl{s:ByteArray}{n i fr:Nat}{up:ByteArray}(h:i<s.size)(h1:s[i].toNat=47)(h2:¬i=fr):par s (n+1) i fr up=par s n (i+1) (i+1) (s.extract 0 i):=by
 rw[par,dif_pos h,if_pos h1,if_neg h2]
theorem par_no{s:ByteArray}{n i fr:Nat}{up:ByteArray}(h:i<s.size)(h1:¬s[i].toNat=47):par s (n+1) i fr up=par s n (i+1) fr up:=by
 rw[par,dif_pos h,if_neg h1]
theorem par_end_no{s:ByteArray}{n i fr:Nat}{up:ByteArray}(h:¬i<s.size)(h2:i=fr):par s (n+1) i fr up=none:=by
 rw[par,dif_neg h,if_pos h2]
theorem par_end{s:ByteArray}{n i fr:Nat}{up:ByteArray}(h:¬i<s.size)(h2:¬i=fr):par s (n+1) i fr up=some up:=by
 rw[par,dif_neg h,if_neg h2]
def parentOf(s:ByteArray):Option ByteArray:=par s (s.size+1) 0 0 ⟨#[]⟩
def upOf(s:ByteArray):ByteArray:=(parentOf s).getD ⟨#[]⟩
theorem upOf_none{s:ByteArray}(h:parentOf s=none):upOf s=⟨#[]⟩:=by simp[upOf,h]
theorem upOf_some{s u:ByteArray}(h:parentOf s=some u):upOf s=u:=by simp[upOf,h]
theorem parent_any(s:ByteArray)(w:World)(hs:s.size≤1000000000000):
 Calls Tryz.prog 36 #[.string s] w fun e w' =>e=.returned (.tuple #[.string (upOf s),.bool (parentOf s).isSome])∧w' =w:=by
 go_in
 go_wp2
 go_loop [4,5,6] (fun x y z=> ∃(up:ByteArray) (fr i n:Nat),i≤s.size+1∧fr≤i∧n+i=s.size+1∧x=.string up∧y=.int .i64 fr∧z=.int .i64 i∧Hid (par s n i fr up=parentOf s)) (fun _ _ i=>s.size+1- (intOf i).toNat)
 ·exact ⟨_,0,0,s.size+1,by omega,by omega,by omega,rfl,rfl,rfl,rfl⟩
 obtain ⟨up,fr,i,n,h1,h2,h3,rfl,rfl,rfl,hp⟩:=hrel
 by_cases hlt:i<s.size
 ·obtain ⟨n,rfl⟩: ∃m,n=m+1:=⟨n- 1,by omega⟩
  by_cases hsl:s[i].toNat=47
  ·have hb:(((s[i].toNat:Nat):Int)==47)=true:=by rw[hsl];rfl
   by_cases hf:i=fr
   ·have hf' :((i:Int)==(fr:Int))=true:=by simp[hf]
    have hq:Hid (parentOf s=none):=hp.out.symm.trans (par_sl_no hlt hsl hf)
    clear hp hsl hf
    go_wp2
    go_ret2
    exact ⟨ret2_eq (show Value.string ⟨#[]⟩=_ by rw[upOf_none hq.out]) (show Value.bool false=_ by rw[hq.out];rfl),rfl⟩
   have hf' :((i:Int)==(fr:Int))=false:=by simp;omega
   have hq:Hid (par s n (i+1) (i+1) (s.extract 0 i)=parentOf s):=(par_sl hlt hsl hf).symm.trans hp.out
   clear hp hsl hf
   go_wp2
   go_round
   ·exact ⟨_,i+1,i+1,n,by omega,by omega,by omega,rfl,by go_num,by go_num,hq⟩
   case measure=>simp[intOf];omega
  have hb:(((s[i].toNat:Nat):Int)==47)=false:=by simp;omega
  have hq:Hid (par s n (i+1) fr up=parentOf s):=(par_no hlt hsl).symm.trans hp.out
  clear hp hsl
  go_wp2
  go_round
  ·exact ⟨_,fr,i+1,n,by omega,by omega,by omega,rfl,by go_num,by go_num,hq⟩
  case measure=>simp[intOf];omega
 by_cases he:i=s.size
 ·obtain ⟨n,rfl⟩: ∃m,n=m+1:=⟨n- 1,by omega⟩
  by_cases hf:i=fr
  ·have hf' :((s.size:Int)==(fr:Int))=true:=by simp;omega
   have hq:Hid (parentOf s=none):=hp.out.symm.trans (par_end_no hlt hf)
   clear hp hf
   go_wp2
   go_ret2
   exact ⟨ret2_eq (show Value.string ⟨#[]⟩=_ by rw[upOf_none hq.out]) (show Value.bool false=_ by rw[hq.out];rfl),rfl⟩
  have hf' :((s.size:Int)==(fr:Int))=false:=by simp;omega
  have hq:Hid (parentOf s=some up):=hp.out.symm.trans (par_end hlt hf)
  have HE:Hid (i=s.size):=he
  clear hp hf
  go_wp2
  go_round
  ·exact ⟨up,s.size+1,s.size+1,0,by omega,by omega,by omega,rfl,by go_num,by go_num,hq.out.symm⟩
  have:=HE.out;simp[intOf];omega
 have hn:n=0:=by omega
 have hq:Hid (parentOf s=some up):=by rw[←hp.out,hn];rfl
 clear hp hn
 go_wp2
 go_ret2
 exact ⟨ret2_eq (show Value.string up=_ by rw[upOf_some hq.out]) (show Value.bool true=_ by rw[hq.out];rfl),rfl⟩
end Go.Proofs.YtfbgamknfommpaaGreatDoor.dk
namespace Go.Proofs.YtfbgamknfommpaaGreatDoor.dk
open Go.RowKit
def withinB(p u:ByteArray):Bool:=
 (p.toList==u.toList)||(if h:u.size<p.size then ((p.extract 0 u.size).toList==u.toList)&&((((p[u.size]'h).toNat:Int))==47) else false)
theorem within_any(p u:ByteArray)(w:World)(hs:u.size≤1000000000000):
 Calls Tryz.prog 65 #[.string p,.string u] w fun e w' =>e=.returned (.bool (withinB p u))∧w' =w:=by
 unfold withinB
 by_cases h:u.size<p.size
 ·rw[dif_pos h]
  cases h1:(p.toList==u.toList)<;>cases h2:((p.extract 0 u.size).toList==u.toList)
  all_goals
   go_in
   go_wp2
   go_ret
   exact ⟨ret1_eq (by simp),rfl⟩
 rw[dif_neg h]
 cases h1:(p.toList==u.toList)
 all_goals
  go_in
  go_wp2
  go_ret
  exact ⟨ret1_eq (by simp),rfl⟩
theorem new_any(w:World):Calls Tryz.prog 8 #[] w fun e w' =>e=.returned (.pointer (some ⟨w.heap.size,0,none⟩))∧w' =w.alloc (.cells #[.slice none 0 0,.int .i64 (-1),.int .i64 (-1),.int .i64 0,.bool false] 68):=by
 go_in
 go_wp2
 go_ret
 exact ⟨rfl,rfl⟩
end Go.Proofs.YtfbgamknfommpaaGreatDoor.dk
namespace Go.Proofs.YtfbgamknfommpaaGreatDoor.dk
open Go.RowKit
structure Only (S:Nat→Prop) (w w' :World):Prop where
 os:w'.os=w.os
 tape:w'.tape=w.tape
 output:w'.output=w.output
 size:w.heap.size≤w'.heap.size
 block: ∀k,k<w.heap.size→¬S k→w'.heap[k]? =w.heap[k]?
theorem Only.refl(S:Nat→Prop)(w:World):Only S w w:=⟨rfl,rfl,rfl,Nat.le_refl _,fun _ _ _=>rfl⟩
theorem Only.trans{S:Nat→Prop}{a b c:World}(h:Only S a b)(k:Only S b c):Only S a c:=
 ⟨k.os.trans h.os,k.tape.trans h.tape,k.output.trans h.output,Nat.le_trans h.size k.size,fun i hi hs=>(k.block i (Nat.lt_of_lt_of_le hi h.size) hs).trans (h.block i hi hs)⟩
theorem Only.transNew{S T:Nat→Prop}{a b c:World}(h:Only S a b)(k:Only T b c)(hT: ∀i,i<a.heap.size→T i→S i):Only S a c:=
 ⟨k.os.trans h.os,k.tape.trans h.tape,k.output.trans h.output,Nat.le_trans h.size k.size,fun i hi hs=>(k.block i (Nat.lt_of_lt_of_le hi h.size) (fun ht=>hs (hT i hi ht))).trans (h.block i hi hs)⟩
theorem Only.mono{S T:Nat→Prop}{a b:World}(h:Only S a b)(hT: ∀i,i<a.heap.size→S i→T i):Only T a b:=
 ⟨h.os,h.tape,h.output,h.size,fun i hi hs=>h.block i hi (fun x=>hs (hT i hi x))⟩
theorem Only.drewN{S:Nat→Prop}{a b:World}(h:Only S a b)(n:Nat):Only S a (b.drewN n):=⟨h.os,h.tape,h.output,h.size,h.block⟩
theorem Only.drew{S:Nat→Prop}{a b:World}(h:Only S a b):Only S a b.drew:=⟨h.os,h.tape,h.output,h.size,h.block⟩
theorem Only.alloc{S:Nat→Prop}{a w:World}(h:Only S a w)(o:Obj):Only S a (w.alloc o):=
 h.trans ⟨rfl,rfl,rfl,by simp,fun k hk _=>Below.heap_alloc _ _ _ hk⟩
theorem Only.setCell{S:Nat→Prop}{a w:World}(h:Only S a w){p:Addr}(hp:p.block<a.heap.size→S p.block)(u:Value):Only S a (w.setCell p u):=
 h.transNew (T:=fun k=>k=p.block) ⟨rfl,rfl,rfl,by simp[World.setCell],fun k _ hk=>Below.heap_setCell _ _ _ _ hk⟩ (fun i hi e=>by subst e;exact hp hi)
theorem Only.grown{S:Nat→Prop}{a w w' :World}{row:Option Nat}(h:Only S a w)(hg:w.grownBy w' row)(hr: ∀k,k<a.heap.size→row=some k→S k):Only S a w' :=
 h.transNew (T:=fun k=>row=some k) ⟨hg.os,hg.tape,hg.output,hg.size,fun k hk hs=>hg.block k hk (fun e=>hs e.symm)⟩ (fun i hi e=>hr i hi e)
theorem Only.cell{S:Nat→Prop}{w w' :World}(h:Only S w w'){p:Addr}(hp:p.block<w.heap.size)(hs:¬S p.block):w'.cell? p=w.cell? p:=World.cell?_of_block (w:=w) (h.block p.block hp hs)
theorem Only.frozen{S:Nat→Prop}{w w' :World}(h:Only S w w'){p:Addr}(hp:p.block<w.heap.size)(hs:¬S p.block):w'.frozen? p=w.frozen? p:=World.frozen?_of_block (w:=w) (h.block p.block hp hs)
theorem Only.below{S:Nat→Prop}{w w' :World}(h:Only S w w')(B:Nat)(hB:B≤w.heap.size)(hs: ∀k,k<B→¬S k):Below B w w' :=⟨h.os,h.tape,h.output,h.size,fun k hk=>h.block k (by omega) (hs k hk)⟩
def Thg(w:World)(v:Value)(ts:List Th):Prop:=
 (v=.slice none 0 0∧ts=[])∨
 ∃g cap cur,v=.slice (some ⟨g,0,none⟩) ts.length cap∧w.heap[g]? =some (.cells cur 71 (0,0))∧ts.length≤cap∧cap≤maxLen∧cap*3≤cur.size∧cur.toList.take (ts.length*3)=flat ts
theorem Thg.nil(w:World):Thg w (.slice none 0 0) []:=.inl ⟨rfl,rfl⟩
theorem Thg.lt{w:World}{v:Value}{ts:List Th}(h:Thg w v ts): ∀k,v.ownBlock=some k→k<w.heap.size:=by
 intro k hk
 rcases h with ⟨rfl,_⟩|⟨g,cap,cur,rfl,hg,_⟩
 ·simp[Value.ownBlock] at hk
 simp[Value.ownBlock] at hk;subst hk;exact (Array.getElem?_eq_some_iff.1 hg).1
theorem Thg.kept{w w' :World}{v:Value}{ts:List Th}{S:Nat→Prop}(h:Thg w v ts)(ho:Only S w w')(hs: ∀k,v.ownBlock=some k→¬S k):Thg w' v ts:=by
 rcases h with h|⟨g,cap,cur,rfl,hg,r⟩
 ·exact .inl h
 exact .inr ⟨g,cap,cur,rfl,by rw[ho.block g (Array.getElem?_eq_some_iff.1 hg).1 (hs g rfl)];exact hg,r⟩
theorem row_cells{w:World}{g:Nat}{cur:Array Value}{ts:List Th}(hg:w.heap[g]? =some (.cells cur 71 (0,0)))(hc:cur.toList.take (ts.length*3)=flat ts)(k:Nat)(hk:k<ts.length):
 w.cell? ⟨g,k*3,none⟩=some (.string (nth ts k).p)∧w.cell? ⟨g,k*3+1,none⟩=some (.bool (nth ts k).f)∧w.cell? ⟨g,k*3+2,none⟩=some (.string (nth ts k).d):=by
 have h:=flat_get ts k hk
 rw[←hc,List.getElem?_take,List.getElem?_take,List.getElem?_take,if_pos (by omega),if_pos (by omega),if_pos (by omega)] at h
 rw[cell_of_row w g _ cur 71 (0,0) hg,cell_of_row w g _ cur 71 (0,0) hg,cell_of_row w g _ cur 71 (0,0) hg]
 simpa using h
structure Dsk where
 ts:List Th
 room:Int
 left:Int
 steps:Int
 down:Bool
def DiskAt(w:World)(b:Nat)(v:Value)(D:Dsk):Prop:=
 w.heap[b]? =some (.cells #[v,.int .i64 D.room,.int .i64 D.left,.int .i64 D.steps,.bool D.down] 68 (0,0))∧Thg w v D.ts∧v.ownBlock≠some b
theorem DiskAt.lt{w:World}{b:Nat}{v:Value}{D:Dsk}(h:DiskAt w b v D):b<w.heap.size:=(Array.getElem?_eq_some_iff.1 h.1).1
theorem DiskAt.cells{w:World}{b:Nat}{v:Value}{D:Dsk}(h:DiskAt w b v D):w.cell? ⟨b,0,none⟩=some v∧w.cell? ⟨b,1,none⟩=some (.int .i64 D.room)∧w.cell? ⟨b,2,none⟩=some (.int .i64 D.left)∧
 w.cell? ⟨b,3,none⟩=some (.int .i64 D.steps)∧w.cell? ⟨b,4,none⟩=some (.bool D.down):=by
 refine ⟨?_, ?_, ?_, ?_, ?_⟩<;>(rw[cell_of_row w b _ _ _ _ h.1];rfl)
theorem DiskAt.thaw{w:World}{b:Nat}{v:Value}{D:Dsk}(h:DiskAt w b v D): ∀o,w.frozen? ⟨b,o,none⟩=false:=fun o=>frozen_of_row w b o _ _ h.1
theorem DiskAt.kept{w w' :World}{b:Nat}{v:Value}{D:Dsk}{S:Nat→Prop}(h:DiskAt w b v D)(ho:Only S w w')(hb:¬S b)(hs: ∀k,v.ownBlock=some k→¬S k):DiskAt w' b v D:=
 ⟨by rw[ho.block b h.lt hb];exact h.1,h.2.1.kept ho hs,h.2.2⟩
theorem DiskAt.drewN{w:World}{b:Nat}{v:Value}{D:Dsk}(h:DiskAt w b v D)(n:Nat):DiskAt (w.drewN n) b v D:=h
def Turn(w w' :World)(b:Nat)(v:Value)(D' :Dsk):Prop:=
 ∃v',DiskAt w' b v' D' ∧Only (fun k=>k=b∨v.ownBlock=some k) w w' ∧(v'.ownBlock=v.ownBlock∨ ∀k,v'.ownBlock=some k→w.heap.size≤k)
theorem Turn.next{w w' w'' :World}{b:Nat}{v:Value}{D' D'' :Dsk}(h:Turn w w' b v D')(hn: ∀v',DiskAt w' b v' D' →Turn w' w'' b v' D''):Turn w w'' b v D'' :=by
 obtain ⟨v',hd,ho,hv⟩:=h
 obtain ⟨v'',hd',ho',hv'⟩:=hn v' hd
 refine ⟨v'',hd',ho.transNew ho' ?_, ?_⟩
 ·rintro i hi (e|e)
  ·exact .inl e
  rcases hv with hv|hv
  ·exact .inr (hv ▸ e)
  have:=hv i e;omega
 rcases hv' with hv' |hv'
 ·rcases hv with hv|hv
  ·exact .inl (hv'.trans hv)
  exact .inr (hv' ▸ hv)
 exact .inr fun k hk=>Nat.le_trans ho.size (hv' k hk)
theorem at_disk{w:World}{b:Nat}{v:Value}{D:Dsk}(h:DiskAt w b v D)(q:ByteArray)(hm:D.ts.length≤1000000000000):
 Calls Tryz.prog 35 #[.pointer (some ⟨b,0,none⟩),.string q] w fun e w' =>e=.returned (.tuple #[.int .i64 (low D.ts q),.bool (isAt D.ts q)])∧ ∃n,w' =w.drewN n:=by
 have hc:=h.cells
 rcases h.2.1 with ⟨rfl,h1⟩|⟨g,cap,cur,rfl,hg,h1,h2,h3,h4⟩
 ·rw[h1];exact at_nil b q w hc.1
 exact at_any b g cap D.ts q w hm hc.1 (fun k hk=>(row_cells hg h4 k hk).1)
end Go.Proofs.YtfbgamknfommpaaGreatDoor.dk
