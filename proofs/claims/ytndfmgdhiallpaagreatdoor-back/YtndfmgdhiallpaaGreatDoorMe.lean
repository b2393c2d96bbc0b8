import Derived.Test.YtndfmgdhiallpaaGreatDoorMa
import Derived.Test.YtndfmgdhiallpaaGreatDoorChecked
import Derived.Deep.QuietTactic
import Derived.BigQuiet
import Derived.BigRegion
import Derived.Deep.OwnRows
import Derived.Deep.RegionWith
import Derived.Deep.CutRange
import Derived.Deep.AppendLies
set_option maxRecDepth 100000
set_option maxHeartbeats 1000000
namespace Go.Proofs.YtndfmgdhiallpaaGreatDoor
open Go.RowKit
def bitAt(s:ByteArray)(i:Nat):Nat:=btN s (i/8)/2^(i%8)%2
theorem bitAt_lt(s:ByteArray)(i:Nat):bitAt s i<2:=Nat.mod_lt _ (by omega)
def numAt(s:ByteArray)(a:Nat):Nat→Nat
 |0=>0
 |n+1=>numAt s a n+bitAt s (a+n)*2^n
theorem numAt_lt(s:ByteArray)(a n:Nat):numAt s a n<2^n:=by
 induction n with
 |zero=>exact Nat.one_pos
 |succ n ih=>
  have h:=bitAt_lt s (a+n)
  have h2:bitAt s (a+n)*2^n≤1*2^n:=Nat.mul_le_mul_right _ (by omega)
  rw[numAt,Nat.pow_succ];omega
theorem numAt_add(s:ByteArray)(a m n:Nat):numAt s a (m+n)=numAt s a m+numAt s (a+m) n*2^m:=by
 induction n with
 |zero=>simp[numAt]
 |succ n ih=>rw[←Nat.add_assoc,numAt,numAt,ih,Nat.add_mul,Nat.add_assoc a m n,Nat.mul_assoc,←Nat.pow_add,Nat.add_comm n m];omega
theorem numAt_one(s:ByteArray)(a:Nat):numAt s a 1=bitAt s a:=by simp[numAt]
def runL(L:List Nat)(n:Nat):List Nat:=(List.range L.length).filter fun i=>L.getD i 0==n
def firstL(L:List Nat):Nat→Nat
 |0=>0
 |n+1=>2*(firstL L n+if n=0 then 0 else (runL L n).length)
theorem runL_len(L:List Nat)(n:Nat):(runL L n).length≤L.length:=by
 unfold runL;exact Nat.le_trans (List.length_filter_le _ _) (by simp)
theorem firstL_le(L:List Nat)(n:Nat):firstL L n+2*L.length≤2^(n+1)*L.length:=by
 induction n with
 |zero=>rw[firstL];omega
 |succ n ih=>
  rw[firstL,Nat.pow_succ]
  have h1:=runL_len L n
  have h2:(if n=0 then 0 else (runL L n).length)≤L.length:=by split<;>omega
  have e:2^(n+1)*2*L.length=2*(2^(n+1)*L.length):=by rw[Nat.mul_comm (2^(n+1)) 2,Nat.mul_assoc]
  omega
def decGo(s:ByteArray)(L:List Nat):Nat→Nat→Nat→Option (Nat×Nat)
 |0,_,_=>none
 |k+1,v,a=>
  if a<8*s.size then
   if firstL L (15- k)≤2*v+bitAt s a∧2*v+bitAt s a<firstL L (15- k)+(runL L (15- k)).length then some ((runL L (15- k)).getD (2*v+bitAt s a- firstL L (15- k)) 0,a+1)
   else decGo s L k (2*v+bitAt s a) (a+1)
  else none
def dec(s:ByteArray)(L:List Nat)(a:Nat):Option (Nat×Nat):=decGo s L 15 0 a
theorem decGo_lt{s:ByteArray}{L:List Nat}: ∀{k v a y a' :Nat},decGo s L k v a=some (y,a')→a<a' ∧a' ≤8*s.size∧y<L.length
 |0,v,a,y,a',h=>by cases h
 |k+1,v,a,y,a',h=>by
  rw[decGo] at h
  split at h
  ·split at h
   ·rename_i h1 h2
    injection h with h;injection h with h3 h4
    refine ⟨by omega,by omega, ?_⟩
    have hm:y∈runL L (15- k):=by
     rw[←h3,List.getD_eq_getElem?_getD,List.getElem?_eq_getElem (by omega),Option.getD_some];exact List.getElem_mem _
    unfold runL at hm
    exact List.mem_range.1 (List.mem_filter.1 hm).1
   have:=decGo_lt h;omega
  cases h
theorem dec_lt{s:ByteArray}{L:List Nat}{a y a' :Nat}(h:dec s L a=some (y,a')):a<a' ∧a' ≤8*s.size∧y<L.length:=decGo_lt h
def lenBits(y:Nat):Nat:=if y≤264 then 0 else if y=285 then 0 else (y- 261)/4
def lenBase(y:Nat):Nat:=if y≤264 then y- 254 else if y=285 then 258 else 3+2^((y- 261)/4)*(4+(y- 261)%4)
def dstBits(d:Nat):Nat:=if d<4 then 0 else d/2- 1
def dstBase(d:Nat):Nat:=if d<4 then d+1 else 1+2^(d/2- 1)*(2+d%2)
def copyL(o:List UInt8)(far:Nat):Nat→List UInt8
 |0=>o
 |n+1=>copyL o far n++[(copyL o far n).getD ((copyL o far n).length- far) 0]
theorem copyL_len(o:List UInt8)(far n:Nat):(copyL o far n).length=o.length+n:=by
 induction n with
 |zero=>rfl
 |succ n ih=>rw[copyL,List.length_append,ih];rfl
abbrev Res:=(Nat×List UInt8) ⊕ Nat
abbrev Nxt:=Res ⊕ (Nat×List UInt8)
def copyS(s:ByteArray)(D:List Nat)(y a1:Nat)(o:List UInt8):Nxt:=
 if 8*s.size<a1+lenBits y then .inl (.inr 2)
 else match dec s D (a1+lenBits y) with
  |none=> .inl (.inr 2)
  |some (d,a3)=>
   if 29<d then .inl (.inr 2)
   else if 8*s.size<a3+dstBits d then .inl (.inr 2)
   else if o.length<dstBase d+numAt s a3 (dstBits d) then .inl (.inr 2)
   else if 20000<o.length+(lenBase y+numAt s a1 (lenBits y)) then .inl (.inr 1)
   else .inr ((a3+dstBits d),(copyL o (dstBase d+numAt s a3 (dstBits d)) (lenBase y+numAt s a1 (lenBits y))))
def stepS(s:ByteArray)(L D:List Nat)(a:Nat)(o:List UInt8):Nxt:=
 match dec s L a with
 |none=> .inl (.inr 2)
 |some (y,a1)=>
  if y=256 then .inl (.inl (a1,o))
  else if y<256 then (if 20000≤o.length then .inl (.inr 1) else .inr (a1,(o++[b8 y])))
  else if 285<y then .inl (.inr 2)
  else copyS s D y a1 o
theorem copyS_lt{s:ByteArray}{D:List Nat}{y a1:Nat}{o:List UInt8}{a' :Nat}{o' :List UInt8}(h:copyS s D y a1 o=.inr (a',o')):a1<a' ∧a' ≤8*s.size:=by
 unfold copyS at h
 split at h
 ·cases h
 split at h
 ·cases h
 rename_i d a3 hd
 have:=dec_lt hd
 split at h
 ·cases h
 split at h
 ·cases h
 split at h
 ·cases h
 split at h
 ·cases h
 injection h with h;injection h with h1 h2;omega
theorem stepS_lt{s:ByteArray}{L D:List Nat}{a:Nat}{o:List UInt8}{a' :Nat}{o' :List UInt8}(h:stepS s L D a o=.inr (a',o')):a<a' ∧a' ≤8*s.size:=by
 unfold stepS at h
 split at h
 ·cases h
 rename_i y a1 hd
 have:=dec_lt hd
 split at h
 ·cases h
 split at h
 ·split at h
  ·cases h
  injection h with h;injection h with h1 h2;omega
 split at h
 ·cases h
 have:=copyS_lt h;omega
def symGo(s:ByteArray)(L D:List Nat):Nat→Nat→List UInt8→Res
 |0,_,_=> .inr 2
 |f+1,a,o=>match stepS s L D a o with
  | .inl r=>r
  | .inr (a',o')=>symGo s L D f a' o'
theorem symGo_enough{s:ByteArray}{L D:List Nat}: ∀{f f' a:Nat} {o:List UInt8},8*s.size<a+f→8*s.size<a+f' →a≤8*s.size→symGo s L D f a o=symGo s L D f' a o
 |0,_,a,o,h,_,ha=>by omega
 |_+1,0,a,o,_,h,ha=>by omega
 |f+1,f' +1,a,o,h1,h2,ha=>by
  rw[symGo,symGo]
  split
  ·rfl
  rename_i a' o' hs
  have:=stepS_lt hs
  exact symGo_enough (by omega) (by omega) (by omega)
def symS(s:ByteArray)(L D:List Nat)(a:Nat)(o:List UInt8):Res:=symGo s L D (8*s.size+1) a o
theorem symS_step{s:ByteArray}{L D:List Nat}{a:Nat}{o:List UInt8}:symS s L D a o=match stepS s L D a o with| .inl r=>r| .inr (a',o')=>symS s L D a' o' :=by
 rw[symS,symGo]
 split
 ·rfl
 rename_i a' o' hs
 have:=stepS_lt hs
 exact symGo_enough (by omega) (by omega) (by omega)
def rawB(s:ByteArray)(b n:Nat):List UInt8:=(List.range n).map fun i=>b8 (btN s (b+i))
theorem rawB_len(s:ByteArray)(b n:Nat):(rawB s b n).length=n:=by simp[rawB]
theorem rawB_succ(s:ByteArray)(b n:Nat):rawB s b (n+1)=rawB s b n++[b8 (btN s (b+n))]:=by simp[rawB,List.range_succ]
def upTo(a:Nat):Nat:=(a+7)/8*8
def rawS(s:ByteArray)(a:Nat)(o:List UInt8):Res:=
 if 8*s.size<upTo a+32 then .inr 2
 else if numAt s (upTo a) 16+numAt s (upTo a+16) 16≠65535 then .inr 2
 else if 20000<o.length+numAt s (upTo a) 16 then .inr 1
 else if 8*s.size<upTo a+32+8*numAt s (upTo a) 16 then .inr 2
 else .inl ((upTo a+32+8*numAt s (upTo a) 16),(o++rawB s (upTo a/8+4) (numAt s (upTo a) 16)))
def fitN(L:List Nat):Nat:=(L.map fun l=>if l=0 then 0 else 2^(15- l)).sum
def manyN(L:List Nat):Nat:=(L.filter fun l=>l !=0).length
def fitS(L:List Nat):Bool:=fitN L==32768
def fitD(L:List Nat):Bool:=fitN L==32768||manyN L==0||(manyN L==1&&fitN L==16384)
def rowBits(y:Nat):Nat:=if y=16 then 2 else if y=17 then 3 else if y=18 then 7 else 0
def rowBase(y:Nat):Nat:=if y=16 then 3 else if y=17 then 3 else if y=18 then 11 else 1
def rowWhat(y:Nat)(l:List Nat):Nat:=if y=16 then l.getD (l.length- 1) 0 else if 15<y then 0 else y
def stepR(s:ByteArray)(C:List Nat)(many a:Nat)(l:List Nat):Option (Nat×List Nat):=
 match dec s C a with
 |none=>none
 |some (y,a1)=>
  if y=16∧l.length=0 then none
  else if 8*s.size<a1+rowBits y then none
  else if many<l.length+(rowBase y+numAt s a1 (rowBits y)) then none
  else some (a1+rowBits y,l++List.replicate (rowBase y+numAt s a1 (rowBits y)) (rowWhat y l))
theorem stepR_lt{s:ByteArray}{C:List Nat}{many a:Nat}{l:List Nat}{a' :Nat}{l' :List Nat}(h:stepR s C many a l=some (a',l')):a<a' ∧a' ≤8*s.size∧l.length<l'.length∧l'.length≤many:=by
 unfold stepR at h
 split at h
 ·cases h
 rename_i y a1 hd
 have:=dec_lt hd
 split at h
 ·cases h
 split at h
 ·cases h
 split at h
 ·cases h
 injection h with h;injection h with h1 h2
 have hb:0<rowBase y:=by unfold rowBase;repeat (first|split|omega)
 rw[←h2,List.length_append,List.length_replicate]
 omega
def rowGo(s:ByteArray)(C:List Nat)(many:Nat):Nat→Nat→List Nat→Option (Nat×List Nat)
 |0,_,_=>none
 |f+1,a,l=>if l.length<many then (match stepR s C many a l with
  |none=>none
  |some (a',l')=>rowGo s C many f a' l') else some (a,l)
theorem rowGo_enough{s:ByteArray}{C:List Nat}{many:Nat}: ∀{f f' a:Nat} {l:List Nat},many<l.length+f→many<l.length+f' →l.length≤many→rowGo s C many f a l=rowGo s C many f' a l
 |0,_,a,l,h,_,ha=>by omega
 |_+1,0,a,l,_,h,ha=>by omega
 |f+1,f' +1,a,l,h1,h2,ha=>by
  rw[rowGo,rowGo]
  split
  ·split
   ·rfl
   rename_i a' l' hs
   have:=stepR_lt hs
   exact rowGo_enough (by omega) (by omega) (by omega)
  rfl
def rowS(s:ByteArray)(C:List Nat)(many a:Nat)(l:List Nat):Option (Nat×List Nat):=rowGo s C many (many+1) a l
theorem rowS_step{s:ByteArray}{C:List Nat}{many a:Nat}{l:List Nat}(h:l.length<many):rowS s C many a l=match stepR s C many a l with|none=>none|some (a',l')=>rowS s C many a' l' :=by
 rw[rowS,rowGo,if_pos h]
 split
 ·rfl
 rename_i a' l' hs
 have:=stepR_lt hs
 exact rowGo_enough (by omega) (by omega) (by omega)
theorem rowS_done{s:ByteArray}{C:List Nat}{many a:Nat}{l:List Nat}(h:¬l.length<many):rowS s C many a l=some (a,l):=by
 rw[rowS,rowGo,if_neg h]
def orderL:List Nat:=[16,17,18,0,8,7,9,6,10,5,11,4,12,3,13,2,14,1,15]
def ownL(s:ByteArray)(a:Nat):Nat→List Nat
 |0=>List.replicate 19 0
 |k+1=>(ownL s a k).set (orderL.getD k 0) (numAt s (a+3*k) 3)
theorem ownL_len(s:ByteArray)(a k:Nat):(ownL s a k).length=19:=by
 induction k with
 |zero=>rfl
 |succ k ih=>rw[ownL,List.length_set,ih]
def toldS(s:ByteArray)(a:Nat):Option (Nat×List Nat×List Nat):=
 if 8*s.size<a+14 then none
 else if 286<257+numAt s a 5∨30<1+numAt s (a+5) 5 then none
 else if 8*s.size<a+14+3*(4+numAt s (a+10) 4) then none
 else if fitS (ownL s (a+14) (4+numAt s (a+10) 4))=false then none
 else match rowS s (ownL s (a+14) (4+numAt s (a+10) 4)) (257+numAt s a 5+(1+numAt s (a+5) 5)) (a+14+3*(4+numAt s (a+10) 4)) [] with
  |none=>none
  |some (a',l)=>
   if fitS (l.take (257+numAt s a 5))=true∧fitD (l.drop (257+numAt s a 5))=true∧l.getD 256 0≠0 then some (a',l.take (257+numAt s a 5),l.drop (257+numAt s a 5)) else none
def fixL:List Nat:=List.replicate 144 8++List.replicate 112 9++List.replicate 24 7++List.replicate 8 8
def fixD:List Nat:=List.replicate 32 5
def kindS(s:ByteArray)(a:Nat)(o:List UInt8):Res:=
 match numAt s (a+1) 2 with
 |0=>rawS s (a+3) o
 |1=>symS s fixL fixD (a+3) o
 |2=>match toldS s (a+3) with
  |none=> .inr 2
  |some (a',L,D)=>symS s L D a' o
 |_=> .inr 2
def blockS(s:ByteArray)(a:Nat)(o:List UInt8):Res:=if 8*s.size<a+3 then .inr 2 else kindS s a o
open Go.RowKit Go.Maps
abbrev rdT:TypeId:=228
def RdC(s:ByteArray)(a:Nat)(o:Value)(e:Nat):Array Value:= #[.string s,.int .i64 a,o,.int .i64 e]
def Rd(w:World)(g:Nat)(s:ByteArray)(a:Nat)(o:Value)(e:Nat):Prop:=w.heap[g]? =some (.cells (RdC s a o e) rdT (0,0))
def orE(e n:Nat):Nat:=if e=0 then n else e
theorem Rd.lt{w:World}{g:Nat}{s:ByteArray}{a:Nat}{o:Value}{e:Nat}(h:Rd w g s a o e):g<w.heap.size:=(Array.getElem?_eq_some_iff.1 h).1
theorem Rd.c0{w:World}{g:Nat}{s:ByteArray}{a:Nat}{o:Value}{e:Nat}(h:Rd w g s a o e):w.cell? ⟨g,0,none⟩=some (.string s):=by rw[cell_of_row w g 0 _ _ (0,0) h];rfl
theorem Rd.c1{w:World}{g:Nat}{s:ByteArray}{a:Nat}{o:Value}{e:Nat}(h:Rd w g s a o e):w.cell? ⟨g,1,none⟩=some (.int .i64 a):=by rw[cell_of_row w g 1 _ _ (0,0) h];rfl
theorem Rd.c2{w:World}{g:Nat}{s:ByteArray}{a:Nat}{o:Value}{e:Nat}(h:Rd w g s a o e):w.cell? ⟨g,2,none⟩=some o:=by rw[cell_of_row w g 2 _ _ (0,0) h];rfl
theorem Rd.c3{w:World}{g:Nat}{s:ByteArray}{a:Nat}{o:Value}{e:Nat}(h:Rd w g s a o e):w.cell? ⟨g,3,none⟩=some (.int .i64 e):=by rw[cell_of_row w g 3 _ _ (0,0) h];rfl
theorem Rd.thaw{w:World}{g:Nat}{s:ByteArray}{a:Nat}{o:Value}{e:Nat}(h:Rd w g s a o e)(i:Nat):w.frozen? ⟨g,i,none⟩=false:=frozen_of_row w g i _ _ h
theorem Rd.set1{w:World}{g:Nat}{s:ByteArray}{a:Nat}{o:Value}{e:Nat}(h:Rd w g s a o e){v:Value}{a' :Nat}(hv:v=.int .i64 a'):Rd (w.setCell ⟨g,1,none⟩ v) g s a' o e:=by subst hv;exact heap_setCell_same w g 1 _ _ _ h
theorem Rd.set2{w:World}{g:Nat}{s:ByteArray}{a:Nat}{o:Value}{e:Nat}(h:Rd w g s a o e)(o' :Value):Rd (w.setCell ⟨g,2,none⟩ o') g s a o' e:=heap_setCell_same w g 2 _ _ _ h
theorem Rd.set3{w:World}{g:Nat}{s:ByteArray}{a:Nat}{o:Value}{e:Nat}(h:Rd w g s a o e){v:Value}{e' :Nat}(hv:v=.int .i64 e'):Rd (w.setCell ⟨g,3,none⟩ v) g s a o e' :=by subst hv;exact heap_setCell_same w g 3 _ _ _ h
theorem Rd.kept{S:Nat→Prop}{w w' :World}{g:Nat}{s:ByteArray}{a:Nat}{o:Value}{e:Nat}(h:Rd w g s a o e)(ho:Only S w w')(hs:¬S g):Rd w' g s a o e:=(ho.block g h.lt hs).trans h
theorem Rd.drewN{w:World}{g:Nat}{s:ByteArray}{a:Nat}{o:Value}{e:Nat}(h:Rd w g s a o e)(n:Nat):Rd (w.drewN n) g s a o e:=h
theorem i64_low(n:Nat)(h:n<9223372036854775808):bits .and .i64 (n:Int) 1=((n%2:Nat):Int):=by
 have:=i64_and_nat n 1 h (by omega);rw[nat_mask1] at this;exact this
theorem bit_eq{b i:Nat}(hb:b<256):bits .and .i64 ((b:Int)/2^i) 1=((b/2^i%2:Nat):Int):=by
 have e:(b:Int)/2^i=((b/2^i:Nat):Int):=by rw[Int.natCast_ediv,Int.natCast_pow];rfl
 have hl:b/2^i<9223372036854775808:=Nat.lt_of_le_of_lt (Nat.div_le_self _ _) (by omega)
 rw[e,i64_low _ hl]
theorem fail_any(g:Nat)(s:ByteArray)(a:Nat)(o:Value)(e n:Nat)(w:World)(h:Rd w g s a o e):
 Calls Tryz.prog 196 #[.pointer (some ⟨g,0,none⟩),.int .i64 n] w fun r w' =>r=.returned (.tuple #[])∧Rd w' g s a o (orE e n)∧Only (fun k=>k=g) w w' :=by
 have hc:=h.c3
 have hf:=h.thaw 3
 have HR:=hide h
 clear h
 by_cases he:e=0
 ·subst he
  go_in
  go_wp2_with fail
  go_end0
  exact ⟨rfl,(uh HR).set3 rfl,(Only.refl (fun k=>k=g) w).setCell (p:=⟨g,3,none⟩) (fun _=>rfl) _⟩
 have hb:((e:Int)==0)=false:=by rw[beq_eq_false_iff_ne];omega
 go_in
 go_wp2_with fail
 go_end0
 exact ⟨rfl,by rw[orE,if_neg he];exact HR,Only.refl _ w⟩
theorem bit_any(g:Nat)(s:ByteArray)(hs:s.size≤140737488355328)(a:Nat)(o:Value)(e:Nat)(ha:a≤8*s.size)(w:World)(h:Rd w g s a o e):
 Calls Tryz.prog 190 #[.pointer (some ⟨g,0,none⟩)] w fun r w' =>
  r=.returned (.int .i64 (if a<8*s.size then bitAt s a else 0:Nat))∧Rd w' g s (if a<8*s.size then a+1 else a) o (if a<8*s.size then e else orE e 2)∧Only (fun k=>k=g) w w' :=by
 have h0:=h.c0
 have h1:=h.c1
 have hf:=h.thaw 1
 have HR:=hide h
 have HFA:=hide (fun w1 (h1:Rd w1 g s a o e)=>fail_any g s a o e 2 w1 h1)
 clear h
 by_cases hlt:a<8*s.size
 ·have hk:a/8<s.size:=by omega
  have hkI:(a:Int)/8<(s.size:Int):=by omega
  have hk0:(0:Int)≤(a:Int)/8:=by omega
  have htn:((a:Int)/8).toNat=a/8:=by omega
  have hm0:(0:Int)≤(a:Int)%8:=by omega
  have htm:((a:Int)%8).toNat=a%8:=by omega
  have hb:=btN_get (s:=s) (k:=a/8) hk
  have hbl:=btN_lt s (a/8)
  have HB:Hid (bitAt s a=btN s (a/8)/2^(a%8)%2):=rfl
  have hbe:=bit_eq (i:=a%8) hbl
  generalize btN s (a/8)=b at*
  go_in
  go_wp2_with fail
  go_quiet (fail)
  go_wp2_with fail
  go_quiet (fail)
  go_wp2_with fail
  go_ret
  refine ⟨ret1_eq (congrArg (Value.int .i64) ?_), ?_, ?_⟩
  ·rw[uh HB,Int.natCast_emod,Int.natCast_ediv,Int.natCast_pow];rfl
  ·exact ((uh HR).drewN _).set1 (by congr 1)
  exact ((Only.refl (fun k=>k=g) w).drewN _).setCell (p:=⟨g,1,none⟩) (fun _=>rfl) _
 go_in
 go_wp2_with fail
 go_quiet (fail)
 go_wp2_with fail
 refine (uh HFA _ ((uh HR).drewN _)).mono ?_
 rintro r w1 ⟨rfl,hr1,ho1⟩
 go_wp2_with fail
 go_ret
 exact ⟨rfl,hr1,((Only.refl _ w).drewN _).trans ho1⟩
theorem orE_orE(e n:Nat)(h:n≠0):orE (orE e n) n=orE e n:=by unfold orE;split<;>simp_all
def NumR(s:ByteArray)(a e n v a' e' :Nat):Prop:=v<2^n∧a' ≤8*s.size∧((a+n≤8*s.size∧v=numAt s a n∧a' =a+n∧e' =e)∨(8*s.size<a+n∧a' =8*s.size∧e' =orE e 2))
theorem NumR.next{s:ByteArray}{a e n v a' e' :Nat}(h:NumR s a e n v a' e'):
 NumR s a e (n+1) (v+(if a' <8*s.size then bitAt s a' else 0)*2^n) (if a' <8*s.size then a' +1 else a') (if a' <8*s.size then e' else orE e' 2):=by
 obtain ⟨h1,h2,h3⟩:=h
 have hb:=bitAt_lt s a'
 rcases h3 with ⟨h3,h4,rfl,rfl⟩|⟨h3,rfl,rfl⟩
 ·by_cases hl:a+n<8*s.size
  ·rw[if_pos hl,if_pos hl,if_pos hl]
   refine ⟨?_,by omega,.inl ⟨by omega,by rw[numAt,h4],by omega,rfl⟩⟩
   have:bitAt s (a+n)*2^n≤1*2^n:=Nat.mul_le_mul_right _ (by omega)
   rw[Nat.pow_succ];omega
  rw[if_neg hl,if_neg hl,if_neg hl]
  refine ⟨by rw[Nat.pow_succ];omega,by omega,.inr ⟨by omega,by omega,rfl⟩⟩
 rw[if_neg (by omega),if_neg (by omega),if_neg (by omega),orE_orE _ _ (by omega)]
 exact ⟨by rw[Nat.pow_succ];omega,by omega,.inr ⟨by omega,rfl,rfl⟩⟩
theorem number_any(g:Nat)(s:ByteArray)(hs:s.size≤140737488355328)(a:Nat)(o:Value)(e n:Nat)(hn:n≤16)(ha:a≤8*s.size)(w:World)(h:Rd w g s a o e):
 Calls Tryz.prog 191 #[.pointer (some ⟨g,0,none⟩),.int .i64 n] w fun r w' =>
  ∃v a' e' :Nat,r=.returned (.int .i64 v)∧NumR s a e n v a' e' ∧Rd w' g s a' o e' ∧Only (fun k=>k=g) w w' :=by
 have HR:=hide h
 have HN:Hid (NumR s a e 0 0 a e):=⟨Nat.one_pos,ha,.inl ⟨by omega,rfl,rfl,rfl⟩⟩
 clear h
 go_in
 go_wp2_with fail
 go_loopw [5,6,7,8] (fun x y z _ wr=> ∃v u i:Nat,i≤n∧x=.int .i64 v∧y=.int .i64 u∧z=.int .i64 i∧Hid (∃a' e',NumR s a e i v a' e' ∧Rd wr g s a' o e' ∧u=2^i)∧Hid (Only (fun k=>k=g) w wr)) (fun _ _ z _ _=>n- (intOf z).toNat)
 ·exact ⟨0,1,0,by omega,rfl,rfl,rfl,⟨a,e,HN,HR,rfl⟩,Only.refl _ w⟩
 obtain ⟨v,u,i,hi,rfl,rfl,rfl,HI,HO⟩:=hrel
 by_cases hlt:i<n
 ·obtain ⟨a',e',hnum,hrd,hu⟩:=uh HI
  have HB:=hide (bit_any g s hs a' o e' hnum.2.1 wr hrd)
  have HNX:=hide hnum.next
  have hpw:2^i≤32768:=Nat.pow_le_pow_right (n:=2) (by omega) (show i≤15 by omega)
  have hul:u≤32768:=by omega
  have hvl:v<65536:=by have:=hnum.1;omega
  have hbv:(if a' <8*s.size then bitAt s a' else 0)<2:=by split;exact bitAt_lt _ _;omega
  rw[←hu] at HNX
  have HU:Hid (2*u=2^(i+1)):=by unfold Hid;rw[Nat.pow_succ,hu];omega
  generalize (if a' <8*s.size then bitAt s a' else 0)=bv at HB HNX hbv
  obtain ⟨p,hp⟩: ∃p,p=bv*u:=⟨_,rfl⟩
  have hpI:(bv:Int)*(u:Int)=(p:Int):=by rw[hp];exact (Int.natCast_mul _ _).symm
  have hpl:p≤32768:=by have:bv*u≤1*u:=Nat.mul_le_mul_right _ (by omega);omega
  rw[←hp] at HNX
  clear hp hu hnum hrd hpw
  go_wp2_with (go_at_call 190;refine (uh HB).mono ?_;rintro r w1 ⟨rfl,hr1,ho1⟩;have HR1:=hide hr1;have HO1:=hide ho1;clear hr1 ho1)
  go_roundw
  ·exact ⟨v+p,2*u,i+1,by omega,by go_num,by go_num,by go_num,⟨_,_,HNX,HR1,HU⟩,(uh HO).trans (uh HO1)⟩
  case measure=>simp[intOf];omega
 have hin:i=n:=by omega
 subst hin
 go_wp2_with fail
 go_ret
 obtain ⟨a',e',hnum,hrd,_⟩:=uh HI
 exact ⟨v,a',e',rfl,hnum,hrd,HO⟩
def Ints(w:World)(gl off:Nat)(L:List Nat):Prop:= ∃cur:Array Value,w.heap[gl]? =some (.cells cur 3 (0,0))∧ ∀j,j<L.length→cur[off+j]? =some (.int .i64 (L.getD j 0:Nat))
theorem Ints.lt{w:World}{gl off:Nat}{L:List Nat}(h:Ints w gl off L):gl<w.heap.size:=by
 obtain ⟨cur,hg,_⟩:=h;exact (Array.getElem?_eq_some_iff.1 hg).1
theorem Ints.cell{w:World}{gl off:Nat}{L:List Nat}(h:Ints w gl off L){j:Nat}(hj:j<L.length):w.cell? ⟨gl,off+j,none⟩=some (.int .i64 (L.getD j 0:Nat)):=by
 obtain ⟨cur,hg,hc⟩:=h;rw[cell_of_row w gl (off+j) cur 3 (0,0) hg];exact hc j hj
theorem Ints.kept{S:Nat→Prop}{w w' :World}{gl off:Nat}{L:List Nat}(h:Ints w gl off L)(ho:Only S w w')(hs:¬S gl):Ints w' gl off L:=by
 have hl:=h.lt
 obtain ⟨cur,hg,hc⟩:=h;exact ⟨cur,(ho.block gl hl hs).trans hg,hc⟩
theorem Ints.ne{w:World}{gl off:Nat}{L:List Nat}(h:Ints w gl off L){g:Nat}{s:ByteArray}{a:Nat}{o:Value}{e:Nat}(hr:Rd w g s a o e):gl≠g:=by
 rintro rfl
 obtain ⟨cur,hg,_⟩:=h
 rw[hr] at hg
 injection hg with hg;injection hg with _ h2;exact absurd h2 (by decide)
def cntL(L:List Nat)(n i:Nat):List Nat:=(List.range i).filter fun j=>L.getD j 0==n
theorem cntL_succ(L:List Nat)(n i:Nat):cntL L n (i+1)=if L.getD i 0=n then cntL L n i++[i] else cntL L n i:=by
 unfold cntL
 rw[List.range_succ,List.filter_append]
 by_cases h:L.getD i 0=n
 ·rw[if_pos h,List.filter_cons_of_pos (by rw[h];simp)];simp
 rw[if_neg h,List.filter_cons_of_neg (by simpa using h)];simp
theorem cntL_all(L:List Nat)(n:Nat):cntL L n L.length=runL L n:=rfl
theorem cntL_len(L:List Nat)(n i:Nat):(cntL L n i).length≤i:=by unfold cntL;exact Nat.le_trans (List.length_filter_le _ _) (by simp)
theorem cntL_pre(L:List Nat)(n:Nat){i j:Nat}(h:i≤j): ∃r,cntL L n j=cntL L n i++r:=by
 induction j with
 |zero=>rw[show i=0 by omega];exact ⟨[],by simp⟩
 |succ j ih=>
  rcases Nat.lt_or_ge j i with h1|h1
  ·rw[show i=j+1 by omega];exact ⟨[],by simp⟩
  obtain ⟨r,hr⟩:=ih h1
  rw[cntL_succ]
  split
  ·exact ⟨r++[j],by rw[hr,List.append_assoc]⟩
  exact ⟨r,hr⟩
theorem run_at{L:List Nat}{n i:Nat}(hi:i<L.length)(h:L.getD i 0=n):(cntL L n i).length<(runL L n).length∧(runL L n).getD (cntL L n i).length 0=i:=by
 obtain ⟨r,hr⟩:=cntL_pre L n (show i+1≤L.length by omega)
 rw[cntL_succ,if_pos h,cntL_all,List.append_assoc] at hr
 rw[hr]
 constructor
 ·simp
 rw[List.getD_eq_getElem?_getD,List.getElem?_append_right (Nat.le_refl _)];simp
def CodeR(s:ByteArray)(L:List Nat)(a e y a' e' :Nat):Prop:=(a≤a' ∧a' ≤8*s.size)∧y≤L.length∧((e≠0∧y=0∧a' =a∧e' =e)∨(e=0∧((dec s L a=some (y,a')∧e' =0)∨(dec s L a=none∧e' =2))))
theorem decGo_hit{s:ByteArray}{L:List Nat}{n v a' i:Nat}(hn:1≤n)(hn15:n≤15)(ha:a' <8*s.size)(hi:i<L.length)(h:L.getD i 0=n)(hk:firstL L n+(cntL L n i).length=2*v+bitAt s a'):
 decGo s L (16- n) v a' =some (i,a' +1):=by
 obtain ⟨h1,h2⟩:=run_at hi h
 rw[show 16- n=(15- n)+1 by omega,decGo,if_pos ha,show 15- (15- n)=n by omega,if_pos (by omega),show 2*v+bitAt s a' - firstL L n=(cntL L n i).length by omega,h2]
theorem decGo_miss{s:ByteArray}{L:List Nat}{n v a' :Nat}(hn:1≤n)(hn15:n≤15)(ha:a' <8*s.size)(h:¬(firstL L n≤2*v+bitAt s a' ∧2*v+bitAt s a' <firstL L n+(runL L n).length)):
 decGo s L (16- n) v a' =decGo s L (16- (n+1)) (2*v+bitAt s a') (a' +1):=by
 rw[show 16- n=(15- n)+1 by omega,decGo,if_pos ha,show 15- (15- n)=n by omega,if_neg h,show 16- (n+1)=15- n by omega]
theorem decGo_end{s:ByteArray}{L:List Nat}{n v a' :Nat}(hn15:n≤15)(ha:¬a' <8*s.size):decGo s L (16- n) v a' =none:=by
 rw[show 16- n=(15- n)+1 by omega,decGo,if_neg ha]
theorem code_any(g:Nat)(s:ByteArray)(hs:s.size≤140737488355328)(a:Nat)(o:Value)(e:Nat)(ha:a≤8*s.size)(gl off cap:Nat)(L:List Nat)(hL:L.length≤400)(w:World)(h:Rd w g s a o e)(hI:Ints w gl off L):
 Calls Tryz.prog 285 #[.pointer (some ⟨g,0,none⟩),.slice (some ⟨gl,off,none⟩) L.length cap] w fun r w' =>
  ∃y a' e' :Nat,r=.returned (.int .i64 y)∧CodeR s L a e y a' e' ∧Rd w' g s a' o e' ∧Only (fun k=>k=g) w w' :=by
 have hne:=hI.ne h
 by_cases he:e=0
 ·subst he
  have HR:=hide h
  have HI:=hide hI
  clear h hI
  go_in
  go_wp2_with fail
  go_loopw [5,6,7,8,9,10] (fun x f z _ _ _ wr=> ∃v fi n e' :Nat,n≤16∧v<65536∧fi≤52428800∧x=.int .i64 v∧f=.int .i64 fi∧z=.int .i64 n∧wr.cell? ⟨g,3,none⟩=some (.int .i64 e')∧
   Hid (∃a',1≤n∧(a≤a' ∧a' ≤8*s.size)∧Rd wr g s a' o e' ∧((e' =0∧v<2^(n- 1)∧fi=firstL L n∧dec s L a=decGo s L (16- n) v a')∨(e' =2∧dec s L a=none)))∧Hid (Only (fun k=>k=g) w wr))
   (fun _ _ z _ _ _ _=>16- (intOf z).toNat)
  ·exact ⟨0,0,1,0,by omega,by omega,by omega,rfl,rfl,rfl,(uh HR).c3,⟨a,by omega,⟨Nat.le_refl _,ha⟩,HR,.inl ⟨rfl,by decide,rfl,rfl⟩⟩,Only.refl _ w⟩
  obtain ⟨v,fi,n,e',hn,hv,hfi,rfl,rfl,rfl,hc3,HS,HO⟩:=hrel
  by_cases hgo:n≤15∧e' =0
  ·obtain ⟨hn15,rfl⟩:=hgo
   obtain ⟨a',hn1,⟨haa,ha'⟩,hrd,hst⟩:=uh HS
   obtain ⟨_,hv2,hfe,hde⟩:0=0∧v<2^(n- 1)∧fi=firstL L n∧dec s L a=decGo s L (16- n) v a' :=by
    rcases hst with h|⟨h,_⟩
    ·exact h
    cases h
   have hp14:2^(n- 1)≤16384:=Nat.pow_le_pow_right (n:=2) (by omega) (show n- 1≤14 by omega)
   have hpn:2*2^(n- 1)=2^n:=by rw[Nat.mul_comm,←Nat.pow_succ,Nat.succ_eq_add_one,show n- 1+1=n by omega]
   have HB:=hide (bit_any g s hs a' o 0 ha' wr hrd)
   have hbv:(if a' <8*s.size then bitAt s a' else 0)<2:=by split;exact bitAt_lt _ _;omega
   have HBV:Hid (a' <8*s.size→(if a' <8*s.size then bitAt s a' else 0)=bitAt s a'):=fun h=>if_pos h
   generalize (if a' <8*s.size then bitAt s a' else 0)=bv at HB hbv HBV
   have HIW:=hide ((uh HI).kept (uh HO) hne)
   have HPN:=hide hpn
   have HV2:=hide hv2
   have HFE:=hide hfe
   have HDE:=hide hde
   have hvs:v<16384:=by omega
   have hc3' :wr.cell? ⟨g,3,none⟩=some (.int .i64 0):=hc3
   have hnI:(n:Int)≤15:=by omega
   clear hpn hv2 hfe hde hst hp14 hc3 HS hrd
   go_wp2_with (go_at_call 190;refine (uh HB).mono ?_;rintro r w1 ⟨rfl,hr1,ho1⟩;have HR1:=hide hr1;have HO1:=hide ho1;clear hr1 ho1)
   have HI1:=hide ((uh HIW).kept (uh HO1) hne)
   have HOW:=hide ((uh HO).trans (uh HO1))
   go_loop [9,10] (fun x z=> ∃kn i:Nat,i≤L.length∧kn≤52429200∧x=.int .i64 kn∧z=.int .i64 i∧Hid (kn=fi+(cntL L n i).length∧¬(fi≤2*v+bv∧2*v+bv<kn))) (fun _ z=>L.length- (intOf z).toNat)
   ·exact ⟨fi,0,by omega,by omega,rfl,rfl,⟨by simp[cntL],by omega⟩⟩
   obtain ⟨kn,i,hi,hkn,rfl,rfl,HK⟩:=hrel
   by_cases hlt:i<L.length
   ·have hce:=(uh HI1).cell hlt
    have HCS:=hide (cntL_succ L n i)
    have HHIT:Hid (L.getD i 0=n→fi+(cntL L n i).length=2*v+bv→ ∃y a'' e'',i=y∧CodeR s L a 0 y a'' e'' ∧Rd w1 g s a'' o e''):=fun hl hk=>by
     by_cases hat:a' <8*s.size
     ·have hr:=uh HR1
      rw[if_pos hat,if_pos hat] at hr
      rw[uh HBV hat] at hk
      have hd:=decGo_hit (s:=s) (a' :=a') hn1 hn15 hat hlt hl (by rw[←uh HFE];exact hk)
      exact ⟨i,a' +1,0,rfl,⟨⟨by omega,by omega⟩,by omega,.inr ⟨rfl,.inl ⟨by rw[uh HDE];exact hd,rfl⟩⟩⟩,hr⟩
     have hr:=uh HR1
     rw[if_neg hat,if_neg hat] at hr
     exact ⟨i,a',2,rfl,⟨⟨haa,ha'⟩,by omega,.inr ⟨rfl,.inr ⟨by rw[uh HDE];exact decGo_end hn15 hat,rfl⟩⟩⟩,hr⟩
    generalize L.getD i 0=li at hce HCS HHIT
    by_cases hli:li=n
    ·subst hli
     have hb1:((li:Int)==(li:Int))=true:=beq_self_eq_true _
     by_cases hkv:kn=2*v+bv
     ·have hb2:((kn:Int)==2*(v:Int)+(bv:Int))=true:=by rw[beq_iff_eq];omega
      go_wp2_with fail
      go_ret
      obtain ⟨y,a'',e'',rfl,h1,h2⟩:=uh HHIT (by first|rfl|trivial) (by have:=(uh HK).1;omega)
      first
       |exact ⟨i,a'',e'',rfl,h1,h2,HOW⟩
       |exact ⟨i,rfl,a'',e'',h1,h2,HOW⟩
     have hb2:((kn:Int)==2*(v:Int)+(bv:Int))=false:=by rw[beq_eq_false_iff_ne];omega
     go_wp2_with fail
     go_round
     ·obtain ⟨h1,h2⟩:=uh HK
      have h3:=uh HCS
      rw[if_pos rfl] at h3
      have h4:=cntL_len L li i
      exact ⟨kn+1,i+1,by omega,by omega,by go_num,by go_num,⟨by rw[h3,List.length_append,h1];simp;omega,by omega⟩⟩
     case measure=>simp[intOf];omega
    have hb1:((li:Int)==(n:Int))=false:=by rw[beq_eq_false_iff_ne];omega
    go_wp2_with fail
    go_round
    ·obtain ⟨h1,h2⟩:=uh HK
     have h3:=uh HCS
     rw[if_neg hli] at h3
     exact ⟨kn,i+1,by omega,hkn,rfl,by go_num,⟨by rw[h3,h1],h2⟩⟩
    case measure=>simp[intOf];omega
   have hil:i=L.length:=by omega
   subst hil
   go_wp2_with fail
   go_roundw
   ·obtain ⟨h1,h2⟩:=uh HK
    rw[cntL_all] at h1
    have hfn:2*kn=firstL L (n+1):=by rw[firstL,if_neg (by omega),h1,uh HFE]
    have hfl:=firstL_le L (n+1)
    have hp17:2^(n+1+1)≤131072:=Nat.pow_le_pow_right (n:=2) (by omega) (show n+1+1≤17 by omega)
    have hpl:2^(n+1+1)*L.length≤131072*400:=Nat.mul_le_mul hp17 hL
    have h2n:=uh HPN
    have hv2:=uh HV2
    refine ⟨2*v+bv,2*kn,n+1,if a' <8*s.size then 0 else orE 0 2,by omega,by omega,by omega,by go_num,by go_num,by go_num,(uh HR1).c3,⟨if a' <8*s.size then a' +1 else a',by omega,⟨by split<;>omega,by split<;>omega⟩,HR1, ?_⟩,HOW⟩
    by_cases hat:a' <8*s.size
    ·rw[if_pos hat,if_pos hat]
     have hbv' :=uh HBV hat
     refine .inl ⟨rfl,by rw[show n+1- 1=n by omega];omega,hfn, ?_⟩
     rw[uh HDE,hbv']
     exact decGo_miss hn1 hn15 hat (by rw[←uh HFE,←hbv',←h1];exact h2)
    rw[if_neg hat]
    exact .inr ⟨rfl,by rw[uh HDE];exact decGo_end hn15 hat⟩
   case measure=>simp[intOf];omega
  obtain ⟨a',hn1,⟨haa,ha'⟩,hrd,hst⟩:=uh HS
  have HEND:Hid (dec s L a=none∧orE e' 2=2):=by
   rcases hst with ⟨rfl,h1,h2,h3⟩|⟨rfl,h1⟩
   ·have:n=16:=by omega
    subst this
    exact ⟨h3,rfl⟩
   exact ⟨h1,rfl⟩
  have HFA:=hide (fail_any g s a' o e' 2 wr hrd)
  clear hst HS hrd
  by_cases hn15:n≤15
  ·have hb:((e' :Int)==0)=false:=by rw[beq_eq_false_iff_ne];omega
   have hnI:(n:Int)≤15:=by omega
   go_wp2_with fail
   refine (uh HFA).mono ?_
   rintro r w1 ⟨rfl,hr1,ho1⟩
   go_wp2_with fail
   go_ret
   obtain ⟨h1,h2⟩:=uh HEND
   rw[h2] at hr1
   exact ⟨0,a',2,rfl,⟨⟨haa,ha'⟩,by omega,.inr ⟨rfl,.inr ⟨h1,rfl⟩⟩⟩,hr1,(uh HO).trans ho1⟩
  have hnI:¬(n:Int)≤15:=by omega
  go_wp2_with fail
  refine (uh HFA).mono ?_
  rintro r w1 ⟨rfl,hr1,ho1⟩
  go_wp2_with fail
  go_ret
  obtain ⟨h1,h2⟩:=uh HEND
  rw[h2] at hr1
  exact ⟨0,a',2,rfl,⟨⟨haa,ha'⟩,by omega,.inr ⟨rfl,.inr ⟨h1,rfl⟩⟩⟩,hr1,(uh HO).trans ho1⟩
 have hb:((e:Int)==0)=false:=by rw[beq_eq_false_iff_ne];omega
 have hc3:=h.c3
 have HR:=hide h
 have HFA:=hide (fail_any g s a o e 2 w h)
 clear h hI
 go_in
 go_wp2_with fail
 go_loop [5,6,7,8,9,10] (fun _ _ z _ _ _=>z=.int .i64 1) (fun _ _ _ _ _ _=>0)
 ·rfl
 subst hrel
 go_wp2_with fail
 refine (uh HFA).mono ?_
 rintro r w1 ⟨rfl,hr1,ho1⟩
 go_wp2_with fail
 go_ret
 have h2:orE e 2=e:=if_neg he
 rw[h2] at hr1
 exact ⟨0,a,e,rfl,⟨⟨Nat.le_refl _,ha⟩,by omega,.inl ⟨he,rfl,rfl,rfl⟩⟩,hr1,ho1⟩
theorem power_any(n:Nat)(hn:n≤20)(w:World):Calls Tryz.prog 356 #[.int .i64 n] w fun r w' =>r=.returned (.int .i64 ((2^n:Nat):Int))∧w' =w:=by
 have hp:(2:Int)^n≤1048576:=by
  have:2^n≤2^20:=Nat.pow_le_pow_right (by omega) hn
  have e:(2:Int)^n=((2^n:Nat):Int):=by rw[Int.natCast_pow];rfl
  rw[e];omega
 have hp0:(0:Int)≤(2:Int)^n:=by
  have e:(2:Int)^n=((2^n:Nat):Int):=by rw[Int.natCast_pow];rfl
  rw[e];exact Int.natCast_nonneg _
 have HC:Hid (((2^n:Nat):Int)=(2:Int)^n):=by unfold Hid;rw[Int.natCast_pow];rfl
 have hn64:(n:Int)<64:=by omega
 rw[uh HC]
 generalize hx:(2:Int)^n=x at*
 have hw:IntKind.i64.wrap x=x:=by rw[IntKind.wrap_i64];omega
 go_in
 go_wp2
 go_ret
 exact ⟨rfl,rfl⟩
theorem NumR.zero{s:ByteArray}{a e:Nat}(ha:a≤8*s.size):NumR s a e 0 0 a e:=⟨Nat.one_pos,ha,.inl ⟨by omega,rfl,rfl,rfl⟩⟩
theorem length_any(g:Nat)(s:ByteArray)(hs:s.size≤140737488355328)(a:Nat)(o:Value)(e y:Nat)(hy:257≤y)(hy2:y≤285)(ha:a≤8*s.size)(w:World)(h:Rd w g s a o e):
 Calls Tryz.prog 335 #[.pointer (some ⟨g,0,none⟩),.int .i64 y] w fun r w' =>
  ∃v a' e' :Nat,r=.returned (.int .i64 ((lenBase y+v:Nat):Int))∧NumR s a e (lenBits y) v a' e' ∧Rd w' g s a' o e' ∧Only (fun k=>k=g) w w' :=by
 have HR:=hide h
 by_cases h264:y≤264
 ·have e1:lenBits y=0:=if_pos h264
  have e2:lenBase y=y- 254:=if_pos h264
  have HE:Hid (((y- 254+0:Nat):Int)=(y:Int)- 254):=by unfold Hid;omega
  have HZ:=hide (NumR.zero (s:=s) (e:=e) ha)
  rw[e1,e2]
  clear e1 e2
  go_in
  go_wp2_with fail
  go_ret
  exact ⟨0,a,e,ret1_eq (congrArg (Value.int .i64) (uh HE).symm),HZ,h,Only.refl _ w⟩
 by_cases h285:y=285
 ·subst h285
  have HZ:=hide (NumR.zero (s:=s) (e:=e) ha)
  go_in
  go_wp2_with fail
  go_ret
  exact ⟨0,a,e,rfl,HZ,h,Only.refl _ w⟩
 have e1:lenBits y=(y- 261)/4:=by unfold lenBits;rw[if_neg h264,if_neg h285]
 have e2:lenBase y=3+2^((y- 261)/4)*(4+(y- 261)%4):=by unfold lenBase;rw[if_neg h264,if_neg h285]
 rw[e1,e2]
 clear e1 e2
 have hb:((y:Int)==285)=false:=by rw[beq_eq_false_iff_ne];omega
 have hq:((y:Int)- 261)/4=(((y- 261)/4:Nat):Int):=by omega
 have hm:((y:Int)- 261)%4=(((y- 261)%4:Nat):Int):=by omega
 have hn5:(y- 261)/4≤5:=by omega
 have hr4:(y- 261)%4<4:=Nat.mod_lt _ (by omega)
 have h0:(0:Int)≤(y:Int)- 261:=by omega
 have HNM:=hide (fun w1 (h1:Rd w1 g s a o e)=>number_any g s hs a o e ((y- 261)/4) (by omega) ha w1 h1)
 have HPW:=hide (fun w1=>power_any ((y- 261)/4) (by omega) w1)
 have hpw:2^((y- 261)/4)≤2^5:=Nat.pow_le_pow_right (by omega) hn5
 generalize (y- 261)/4=n at*
 generalize (y- 261)%4=m at*
 generalize hpx:2^n=px at*
 have HPX:=hide hpx
 clear hpx
 obtain ⟨q,hqq⟩: ∃q,q=px*(4+m):=⟨_,rfl⟩
 have hqI:(px:Int)*(4+(m:Int))=(q:Int):=by rw[hqq,Int.natCast_mul];rfl
 have hql:q≤224:=by have:px*(4+m)≤32*7:=Nat.mul_le_mul (by omega) (by omega);omega
 rw[←hqq]
 clear hqq
 go_in
 go_wp2_with fail
 refine (uh HNM _ (uh HR)).mono ?_
 rintro r w1 ⟨v,a',e',rfl,hnum,hr1,ho1⟩
 have hvl:v<2^n:=hnum.1
 rw[uh HPX] at hvl
 have HN1:=hide hnum
 have HR1:=hide hr1
 have HO1:=hide ho1
 clear hnum hr1 ho1
 go_wp2_with (go_at_call 356;refine (uh HPW _).mono ?_;rintro r w2 ⟨rfl,rfl⟩)
 go_ret
 exact ⟨v,a',e',ret1_eq (congrArg (Value.int .i64) (by omega)),HN1,HR1,HO1⟩
theorem distance_any(g:Nat)(s:ByteArray)(hs:s.size≤140737488355328)(a:Nat)(o:Value)(e d:Nat)(hd:d≤29)(ha:a≤8*s.size)(w:World)(h:Rd w g s a o e):
 Calls Tryz.prog 336 #[.pointer (some ⟨g,0,none⟩),.int .i64 d] w fun r w' =>
  ∃v a' e' :Nat,r=.returned (.int .i64 ((dstBase d+v:Nat):Int))∧NumR s a e (dstBits d) v a' e' ∧Rd w' g s a' o e' ∧Only (fun k=>k=g) w w' :=by
 have HR:=hide h
 by_cases h4:d<4
 ·have e1:dstBits d=0:=if_pos h4
  have e2:dstBase d=d+1:=if_pos h4
  have HE:Hid (((d+1+0:Nat):Int)=(d:Int)+1):=by unfold Hid;omega
  have HZ:=hide (NumR.zero (s:=s) (e:=e) ha)
  rw[e1,e2]
  clear e1 e2
  go_in
  go_wp2_with fail
  go_ret
  exact ⟨0,a,e,ret1_eq (congrArg (Value.int .i64) (uh HE).symm),HZ,h,Only.refl _ w⟩
 have e1:dstBits d=d/2- 1:=if_neg h4
 have e2:dstBase d=1+2^(d/2- 1)*(2+d%2):=if_neg h4
 rw[e1,e2]
 clear e1 e2
 have hq:(d:Int)/2- 1=((d/2- 1:Nat):Int):=by omega
 have hm:(d:Int)%2=((d%2:Nat):Int):=by omega
 have hn13:d/2- 1≤13:=by omega
 have hr2:d%2<2:=Nat.mod_lt _ (by omega)
 have HNM:=hide (fun w1 (h1:Rd w1 g s a o e)=>number_any g s hs a o e (d/2- 1) (by omega) ha w1 h1)
 have HPW:=hide (fun w1=>power_any (d/2- 1) (by omega) w1)
 have hpw:2^(d/2- 1)≤2^13:=Nat.pow_le_pow_right (by omega) hn13
 generalize d/2- 1=n at*
 generalize d%2=m at*
 generalize hpx:2^n=px at*
 have HPX:=hide hpx
 clear hpx
 obtain ⟨q,hqq⟩: ∃q,q=px*(2+m):=⟨_,rfl⟩
 have hqI:(px:Int)*(2+(m:Int))=(q:Int):=by rw[hqq,Int.natCast_mul];rfl
 have hql:q≤24576:=by have:px*(2+m)≤8192*3:=Nat.mul_le_mul (by omega) (by omega);omega
 rw[←hqq]
 clear hqq
 go_in
 go_wp2_with fail
 refine (uh HNM _ (uh HR)).mono ?_
 rintro r w1 ⟨v,a',e',rfl,hnum,hr1,ho1⟩
 have hvl:v<2^n:=hnum.1
 rw[uh HPX] at hvl
 have HN1:=hide hnum
 have HR1:=hide hr1
 have HO1:=hide ho1
 clear hnum hr1 ho1
 go_wp2_with (go_at_call 356;refine (uh HPW _).mono ?_;rintro r w2 ⟨rfl,rfl⟩)
 go_ret
 exact ⟨v,a',e',ret1_eq (congrArg (Value.int .i64) (by omega)),HN1,HR1,HO1⟩
theorem own_kept{S:Nat→Prop}{w w' :World}{e:TypeId}{v:Value}{n:Nat}{xs:List Value}(h:w.ownsRow 0 e 1 v n xs)(ho:Only S w w')(hs: ∀b,v.ownBlock=some b→¬S b):w'.ownsRow 0 e 1 v n xs:=by
 obtain ⟨hl,h|⟨b,cap,cur,hv,h1,hg,r⟩⟩:=h
 ·exact ⟨hl,.inl h⟩
 exact ⟨hl,.inr ⟨b,cap,cur,hv,h1,(ho.block b (Array.getElem?_eq_some_iff.1 hg).1 (hs b (by rw[hv];rfl))).trans hg,r⟩⟩
theorem own_old{w w' :World}{e:TypeId}{v:Value}{n:Nat}{xs:List Value}(h:w.ownsRow 0 e 1 v n xs)(ho:Old w w'):w'.ownsRow 0 e 1 v n xs:=own_kept h ho (fun _ _ x=>x)
theorem own_heap{w:World}{e:TypeId}{v:Value}{n:Nat}{xs:List Value}(h:w.ownsRow 0 e 1 v n xs){b:Nat}(hb:v.ownBlock=some b): ∃cur,w.heap[b]? =some (.cells cur e (0,0)):=by
 obtain ⟨hl,h|⟨b',cap,cur,hv,h1,hg,r⟩⟩:=h
 ·rw[h.1] at hb;cases hb
 rw[hv] at hb;injection hb with hb;subst hb;exact ⟨cur,hg⟩
theorem own_ne{w:World}{v:Value}{n:Nat}{xs:List Value}(h:w.ownsRow 0 5 1 v n xs){b:Nat}(hb:v.ownBlock=some b){g:Nat}{s:ByteArray}{a:Nat}{o:Value}{e:Nat}(hr:Rd w g s a o e):b≠g:=by
 rintro rfl
 obtain ⟨cur,hg⟩:=own_heap h hb
 rw[hr] at hg
 injection hg with hg;injection hg with _ h2;exact absurd h2 (by decide)
def Fresh(S:Nat→Prop)(w:World):Prop:= ∀k,w.heap.size≤k→S k
theorem Fresh.mono{S:Nat→Prop}{w w' :World}(h:Fresh S w)(hl:w.heap.size≤w'.heap.size):Fresh S w' :=fun k hk=>h k (by omega)
def St(w:World)(g:Nat)(S:Nat→Prop)(s:ByteArray)(a:Nat)(l:List UInt8)(e:Nat):Prop:=
 ∃ao cap,Rd w g s a (.slice ao l.length cap) e∧w.ownsRow 0 5 1 (.slice ao l.length cap) l.length (byteCells8 l)∧ ∀b:Addr,ao=some b→S b.block
theorem St.next{w w' :World}{g:Nat}{S:Nat→Prop}{s:ByteArray}{a a' :Nat}{l:List UInt8}{e e' :Nat}{ao:Option Addr}{cap:Nat}(hr:Rd w g s a (.slice ao l.length cap) e)
 (ho:w.ownsRow 0 5 1 (.slice ao l.length cap) l.length (byteCells8 l))(hs: ∀b:Addr,ao=some b→S b.block)(hO:Only (fun k=>k=g) w w')(hr' :Rd w' g s a' (.slice ao l.length cap) e'):St w' g S s a' l e' :=
 ⟨ao,cap,hr',own_kept ho hO (fun _ hb=>own_ne ho hb hr),hs⟩
theorem Only.of_g{S:Nat→Prop}{g:Nat}(hg:S g){w w' :World}(h:Only (fun k=>k=g) w w'):Only S w w' :=h.mono (fun _ _ hk=>hk ▸ hg)
theorem infoB5:(Tryz.prog.info? 5).map (fun i=>(i.zero,i.size,i.bytes))=some (some (.int .u8 0),1,1):=by kernel_rfl
theorem byte_new5{wr:World}{n:Nat}: ∀j u,[Value.int .u8 (n:Int)][j]? =some u→(wr.alloc (.cells #[.int .u8 (n:Int)] 5)).cell? ((⟨wr.heap.size,0,none⟩:Addr).add j)=some u:=by
 intro j u hu
 rw[Addr.add_lit,Nat.zero_add,cell_of_row _ _ j _ 5 (0,0) (Go.heap_alloc_new wr _)]
 simpa using hu
theorem write_room(g:Nat)(S:Nat→Prop)(hSg:S g)(s:ByteArray)(a:Nat)(l:List UInt8)(hlt:l.length<20000)(e c:Nat)(hc:c<256)(w:World)(hF:Fresh S w)(h:St w g S s a l e):
 Calls Tryz.prog 284 #[.pointer (some ⟨g,0,none⟩),.int .u8 c] w fun r w' =>
  r=.returned (.tuple #[])∧Only S w w' ∧St w' g S s a (l++[b8 c]) e:=by
 obtain ⟨ao,cap,hr,how,hsa⟩:=h
 have hc2:=hr.c2
 have HR:=hide hr
 have HOW:=hide how
 have HSA:=hide hsa
 obtain ⟨i0,hi0,hz0,hz1,hz2⟩:=info_parts infoB5
 have hR1:Rd (w.alloc (.cells #[.int .u8 (c:Int)] 5)) g s a (.slice ao l.length cap) e:=hr.kept ((Only.refl (fun _=>False) w).alloc _) (fun x=>x)
 have HOW1:=hide (own_old how ((Only.refl _ w).alloc (.cells #[.int .u8 (c:Int)] 5)))
 have HNW:=hide (byte_new5 (wr:=w) (n:=c))
 have HNE:=hide (fun b hb=>own_ne (uh HOW1) (b:=b) hb hR1)
 have HR1:=hide hR1
 have hlt' :(l.length:Int)<20000:=by omega
 clear hr how hsa hR1
 go_in
 go_wp2_with (at_builtin;refine wpList_append_lies _ rfl (.tmp 16) (.tmp 18) 62 rfl 0 5 i0 (.int .u8 0) 1 1 Tryz.underlying62 hi0 hz0 hz1 hz2 rfl (by omega) (.slice ao l.length cap) l.length _ rfl (uh HOW1) ⟨w.heap.size,0,none⟩ 1 1 [.int .u8 (c:Int)] rfl rfl (uh HNW) (by intro u hu;simp at hu;subst hu;rfl) (by omega) (by unfold maxLen;omega) (by omega) (by omega) (w.heap.size+1) (by simp) ?_;intro g2 cap2 w3 ho3 hg3 hl3 hlt3;have hrd3:Rd w3 g s a (.slice ao l.length cap) e:=(hg3.block g (by exact (uh HR1).lt) (fun hh=>uh HNE g hh.symm rfl)).trans (uh HR1);have hcc:=hrd3.c2;have hff:=hrd3.thaw 2;have HRD3:=hide hrd3;have HO3:=hide ho3;have HG3:=hide hg3;have HL3:=hide hl3;clear ho3 hg3 hl3 hrd3)
 go_end0
 have hw4:Only S w w3:=(Only.refl S w|>.alloc (.cells #[.int .u8 (c:Int)] 5)).grown (uh HG3) (fun k _ hk=>by
  cases ao with
  |none=>cases hk
  |some b=>injection hk with hk;subst hk;exact uh HSA b rfl)
 have hl4:(l++[b8 c]).length=l.length+1:=by simp
 have hw5:=hw4.setCell (p:=⟨g,2,none⟩) (fun _=>hSg) (.slice (some ⟨g2,0,none⟩) (l.length+1) cap2)
 refine ⟨rfl,hw5,⟨some ⟨g2,0,none⟩,cap2, ?_, ?_, ?_⟩⟩
 ·rw[hl4];exact (uh HRD3).set2 _
 ·have h2:=uh HO3
  have e2:byteCells8 (l++[b8 c])=byteCells8 l++[.int .u8 (c:Int)]:=by simp only[byteCells8,List.map_append,List.map_cons,List.map_nil];rw[b8_toNat hc]
  rw[hl4,e2]
  exact own_kept h2 (only_set w3 g 2 _) (fun b hb=>own_ne h2 hb (uh HRD3))
 intro b hb
 injection hb with hb
 subst hb
 rcases uh HL3 with h5|h5
 ·cases ao with
  |none=>cases h5
  |some b=>injection h5 with h5;rw[←h5];exact uh HSA b rfl
 show S g2
 rw[h5];exact hF _ (by omega)
theorem write_full(g:Nat)(S:Nat→Prop)(hSg:S g)(s:ByteArray)(a:Nat)(l:List UInt8)(hlt:¬l.length<20000)(e c:Nat)(w:World)(h:St w g S s a l e):
 Calls Tryz.prog 284 #[.pointer (some ⟨g,0,none⟩),.int .u8 c] w fun r w' =>
  r=.returned (.tuple #[])∧Only S w w' ∧St w' g S s a l (orE e 1):=by
 obtain ⟨ao,cap,hr,how,hsa⟩:=h
 have hc2:=hr.c2
 have HR:=hide hr
 have HOW:=hide how
 have HSA:=hide hsa
 have HFA:=hide (fun w1 h1=>fail_any g s a (.slice ao l.length cap) e 1 w1 h1)
 have hlt' :¬(l.length:Int)<20000:=by omega
 clear hr how hsa
 go_in
 go_wp2_with fail
 refine (uh HFA _ (uh HR)).mono ?_
 rintro r w1 ⟨rfl,hr1,ho1⟩
 go_wp2_with fail
 refine bodyPost_ret (results_none rfl _ _ _) rfl ?_
 exact ⟨rfl,ho1.of_g hSg,St.next (uh HR) (uh HOW) (uh HSA) ho1 hr1⟩
end Go.Proofs.YtndfmgdhiallpaaGreatDoor
