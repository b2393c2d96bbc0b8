import Derived.Test.YtfbgamknfommpaaGreatDoorMa
import Derived.Test.YtfbgamknfommpaaGreatDoorChecked
import Derived.Deep.QuietTactic
import Derived.BigQuiet
import Derived.BigRegion
import Derived.Deep.OwnRows
import Derived.Deep.RegionWith
import Derived.Deep.CutRange
import Derived.Deep.AppendLies
namespace Go.Proofs.YtfbgamknfommpaaGreatDoor
open Go.RowKit
def bitAt(s:ByteArray)(i:Nat):Nat:=btN s (i/8)/2^(i%8)%2
theorem bitAt_lt(s:ByteArray)(i:Nat):bitAt s i<2:=Nat.mod_lt _ (by omega)
def numAt(s:ByteArray)(a:Nat):Nat→Nat
 |0=>0
 |n+1=>numAt s a n+bitAt s (a+n)*2^n
theorem numAt_lt(s:ByteArray)(a n:Nat):numAt s a n<2^n:=by
 induction n with
 |zero=>exact Nat.one_pos
 |succ n ih=>
  have h:=bitAt_lt s (a+n)
  have h2:bitAt s (a+n)*2^n≤1*2^n:=Nat.mul_le_mul_right _ (by omega)
  rw[numAt,Nat.pow_succ];omega
theorem numAt_add(s:ByteArray)(a m n:Nat):numAt s a (m+n)=numAt s a m+numAt s (a+m) n*2^m:=by
 induction n with
 |zero=>simp[numAt]
 |succ n ih=>rw[←Nat.add_assoc,numAt,numAt,ih,Nat.add_mul,Nat.add_assoc a m n,Nat.mul_assoc,←Nat.pow_add,Nat.add_comm n m];omega
theorem numAt_one(s:ByteArray)(a:Nat):numAt s a 1=bitAt s a:=by simp[numAt]
def runL(L:List Nat)(n:Nat):List Nat:=(List.range L.length).filter fun i=>L.getD i 0==n
def firstL(L:List Nat):Nat→Nat
 |0=>0
 |n+1=>2*(firstL L n+if n=0 then 0 else (runL L n).length)
theorem runL_len(L:List Nat)(n:Nat):(runL L n).length≤L.length:=by
 unfold runL;exact Nat.le_trans (List.length_filter_le _ _) (by simp)
theorem firstL_le(L:List Nat)(n:Nat):firstL L n+2*L.length≤2^(n+1)*L.length:=by
 induction n with
 |zero=>rw[firstL];omega
 |succ n ih=>
  rw[firstL,Nat.pow_succ]
  have h1:=runL_len L n
  have h2:(if n=0 then 0 else (runL L n).length)≤L.length:=by split<;>omega
  have e:2^(n+1)*2*L.length=2*(2^(n+1)*L.length):=by rw[Nat.mul_comm (2^(n+1)) 2,Nat.mul_assoc]
  omega
def decGo(s:ByteArray)(L:List Nat):Nat→Nat→Nat→Option (Nat×Nat)
 |0,_,_=>none
 |k+1,v,a=>
  if a<8*s.size then
   if firstL L (15- k)≤2*v+bitAt s a∧2*v+bitAt s a<firstL L (15- k)+(runL L (15- k)).length then some ((runL L (15- k)).getD (2*v+bitAt s a- firstL L (15- k)) 0,a+1)
   else decGo s L k (2*v+bitAt s a) (a+1)
  else none
def dec(s:ByteArray)(L:List Nat)(a:Nat):Option (Nat×Nat):=decGo s L 15 0 a
theorem decGo_lt{s:ByteArray}{L:List Nat}: ∀{k v a y a' :Nat},decGo s L k v a=some (y,a')→a<a' ∧a' ≤8*s.size∧y<L.length
 |0,v,a,y,a',h=>by cases h
 |k+1,v,a,y,a',h=>by
  rw[decGo] at h
  split at h
  ·split at h
   ·rename_i h1 h2
    injection h with h;injection h with h3 h4
    refine ⟨by omega,by omega, ?_⟩
    have hm:y∈runL L (15- k):=by
     rw[←h3,List.getD_eq_getElem?_getD,List.getElem?_eq_getElem (by omega),Option.getD_some];exact List.getElem_mem _
    unfold runL at hm
    exact List.mem_range.1 (List.mem_filter.1 hm).1
   have:=decGo_lt h;omega
  cases h
theorem dec_lt{s:ByteArray}{L:List Nat}{a y a' :Nat}(h:dec s L a=some (y,a')):a<a' ∧a' ≤8*s.size∧y<L.length:=decGo_lt h
def lenBits(y:Nat):Nat:=if y≤264 then 0 else if y=285 then 0 else (y- 261)/4
def lenBase(y:Nat):Nat:=if y≤264 then y- 254 else if y=285 then 258 else 3+2^((y- 261)/4)*(4+(y- 261)%4)
def dstBits(d:Nat):Nat:=if d<4 then 0 else d/2- 1
def dstBase(d:Nat):Nat:=if d<4 then d+1 else 1+2^(d/2- 1)*(2+d%2)
def copyL(o:List UInt8)(far:Nat):Nat→List UInt8
 |0=>o
 |n+1=>copyL o far n++[(copyL o far n).getD ((copyL o far n).length- far) 0]
theorem copyL_len(o:List UInt8)(far n:Nat):(copyL o far n).length=o.length+n:=by
 induction n with
 |zero=>rfl
 |succ n ih=>rw[copyL,List.length_append,ih];rfl
abbrev Res:=(Nat×List UInt8) ⊕ Nat
abbrev Nxt:=Res ⊕ (Nat×List UInt8)
def copyS(s:ByteArray)(D:List Nat)(y a1:Nat)(o:List UInt8):Nxt:=
 if 8*s.size<a1+lenBits y then .inl (.inr 2)
 else match dec s D (a1+lenBits y) with
  |none=> .inl (.inr 2)
  |some (d,a3)=>
   if 29<d then .inl (.inr 2)
   else if 8*s.size<a3+dstBits d then .inl (.inr 2)
   else if o.length<dstBase d+numAt s a3 (dstBits d) then .inl (.inr 2)
   else if 20000<o.length+(lenBase y+numAt s a1 (lenBits y)) then .inl (.inr 1)
   else .inr ((a3+dstBits d),(copyL o (dstBase d+numAt s a3 (dstBits d)) (lenBase y+numAt s a1 (lenBits y))))
def stepS(s:ByteArray)(L D:List Nat)(a:Nat)(o:List UInt8):Nxt:=
 match dec s L a with
 |none=> .inl (.inr 2)
 |some (y,a1)=>
  if y=256 then .inl (.inl (a1,o))
  else if y<256 then (if 20000≤o.length then .inl (.inr 1) else .inr (a1,(o++[b8 y])))
  else if 285<y then .inl (.inr 2)
  else copyS s D y a1 o
theorem copyS_lt{s:ByteArray}{D:List Nat}{y a1:Nat}{o:List UInt8}{a' :Nat}{o' :List UInt8}(h:copyS s D y a1 o=.inr (a',o')):a1<a' ∧a' ≤8*s.size:=by
 unfold copyS at h
 split at h
 ·cases h
 split at h
 ·cases h
 rename_i d a3 hd
 have:=dec_lt hd
 split at h
 ·cases h
 split at h
 ·cases h
 split at h
 ·cases h
 split at h
 ·cases h
 injection h with h;injection h with h1 h2;omega
theorem stepS_lt{s:ByteArray}{L D:List Nat}{a:Nat}{o:List UInt8}{a' :Nat}{o' :List UInt8}(h:stepS s L D a o=.inr (a',o')):a<a' ∧a' ≤8*s.size:=by
 unfold stepS at h
 split at h
 ·cases h
 rename_i y a1 hd
 have:=dec_lt hd
 split at h
 ·cases h
 split at h
 ·split at h
  ·cases h
  injection h with h;injection h with h1 h2;omega
 split at h
 ·cases h
 have:=copyS_lt h;omega
def symGo(s:ByteArray)(L D:List Nat):Nat→Nat→List UInt8→Res
 |0,_,_=> .inr 2
 |f+1,a,o=>match stepS s L D a o with
  | .inl r=>r
  | .inr (a',o')=>symGo s L D f a' o'
theorem symGo_enough{s:ByteArray}{L D:List Nat}: ∀{f f' a:Nat} {o:List UInt8},8*s.size<a+f→8*s.size<a+f' →a≤8*s.size→symGo s L D f a o=symGo s L D f' a o
 |0,_,a,o,h,_,ha=>by omega
 |_+1,0,a,o,_,h,ha=>by omega
 |f+1,f' +1,a,o,h1,h2,ha=>by
  rw[symGo,symGo]
  split
  ·rfl
  rename_i a' o' hs
  have:=stepS_lt hs
  exact symGo_enough (by omega) (by omega) (by omega)
def symS(s:ByteArray)(L D:List Nat)(a:Nat)(o:List UInt8):Res:=symGo s L D (8*s.size+1) a o
theorem symS_step{s:ByteArray}{L D:List Nat}{a:Nat}{o:List UInt8}:symS s L D a o=match stepS s L D a o with| .inl r=>r| .inr (a',o')=>symS s L D a' o' :=by
 rw[symS,symGo]
 split
 ·rfl
 rename_i a' o' hs
 have:=stepS_lt hs
 exact symGo_enough (by omega) (by omega) (by omega)
def rawB(s:ByteArray)(b n:Nat):List UInt8:=(List.range n).map fun i=>b8 (btN s (b+i))
theorem rawB_len(s:ByteArray)(b n:Nat):(rawB s b n).length=n:=by simp[rawB]
def upTo(a:Nat):Nat:=(a+7)/8*8
def rawS(s:ByteArray)(a:Nat)(o:List UInt8):Res:=
 if 8*s.size<upTo a+32 then .inr 2
 else if numAt s (upTo a) 16+numAt s (upTo a+16) 16≠65535 then .inr 2
 else if 20000<o.length+numAt s (upTo a) 16 then .inr 1
 else if 8*s.size<upTo a+32+8*numAt s (upTo a) 16 then .inr 2
 else .inl ((upTo a+32+8*numAt s (upTo a) 16),(o++rawB s (upTo a/8+4) (numAt s (upTo a) 16)))
def fitN(L:List Nat):Nat:=(L.map fun l=>if l=0 then 0 else 2^(15- l)).sum
def manyN(L:List Nat):Nat:=(L.filter fun l=>l !=0).length
def fitS(L:List Nat):Bool:=fitN L==32768
def fitD(L:List Nat):Bool:=fitN L==32768||manyN L==0||(manyN L==1&&fitN L==16384)
def rowBits(y:Nat):Nat:=if y=16 then 2 else if y=17 then 3 else if y=18 then 7 else 0
def rowBase(y:Nat):Nat:=if y=16 then 3 else if y=17 then 3 else if y=18 then 11 else 1
def rowWhat(y:Nat)(l:List Nat):Nat:=if y=16 then l.getD (l.length- 1) 0 else if 15<y then 0 else y
def stepR(s:ByteArray)(C:List Nat)(many a:Nat)(l:List Nat):Option (Nat×List Nat):=
 match dec s C a with
 |none=>none
 |some (y,a1)=>
  if y=16∧l.length=0 then none
  else if 8*s.size<a1+rowBits y then none
  else if many<l.length+(rowBase y+numAt s a1 (rowBits y)) then none
  else some (a1+rowBits y,l++List.replicate (rowBase y+numAt s a1 (rowBits y)) (rowWhat y l))
theorem stepR_lt{s:ByteArray}{C:List Nat}{many a:Nat}{l:List Nat}{a' :Nat}{l' :List Nat}(h:stepR s C many a l=some (a',l')):a<a' ∧a' ≤8*s.size∧l.length<l'.length∧l'.length≤many:=by
 unfold stepR at h
 split at h
 ·cases h
 rename_i y a1 hd
 have:=dec_lt hd
 split at h
 ·cases h
 split at h
 ·cases h
 split at h
 ·cases h
 injection h with h;injection h with h1 h2
 have hb:0<rowBase y:=by unfold rowBase;repeat (first|split|omega)
 rw[←h2,List.length_append,List.length_replicate]
 omega
def rowGo(s:ByteArray)(C:List Nat)(many:Nat):Nat→Nat→List Nat→Option (Nat×List Nat)
 |0,_,_=>none
 |f+1,a,l=>if l.length<many then (match stepR s C many a l with
  |none=>none
  |some (a',l')=>rowGo s C many f a' l') else some (a,l)
theorem rowGo_enough{s:ByteArray}{C:List Nat}{many:Nat}: ∀{f f' a:Nat} {l:List Nat},many<l.length+f→many<l.length+f' →l.length≤many→rowGo s C many f a l=rowGo s C many f' a l
 |0,_,a,l,h,_,ha=>by omega
 |_+1,0,a,l,_,h,ha=>by omega
 |f+1,f' +1,a,l,h1,h2,ha=>by
  rw[rowGo,rowGo]
  split
  ·split
   ·rfl
   rename_i a' l' hs
   have:=stepR_lt hs
   exact rowGo_enough (by omega) (by omega) (by omega)
  rfl
def rowS(s:ByteArray)(C:List Nat)(many a:Nat)(l:List Nat):Option (Nat×List Nat):=rowGo s C many (many+1) a l
theorem rowS_step{s:ByteArray}{C:List Nat}{many a:Nat}{l:List Nat}(h:l.length<many):rowS s C many a l=match stepR s C many a l with|none=>none|some (a',l')=>rowS s C many a' l' :=by
 rw[rowS,rowGo,if_pos h]
 split
 ·rfl
 rename_i a' l' hs
 have:=stepR_lt hs
 exact rowGo_enough (by omega) (by omega) (by omega)
theorem rowS_done{s:ByteArray}{C:List Nat}{many a:Nat}{l:List Nat}(h:¬l.length<many):rowS s C many a l=some (a,l):=by
 rw[rowS,rowGo,if_neg h]
def orderL:List Nat:=[16,17,18,0,8,7,9,6,10,5,11,4,12,3,13,2,14,1,15]
def ownL(s:ByteArray)(a:Nat):Nat→List Nat
 |0=>List.replicate 19 0
 |k+1=>(ownL s a k).set (orderL.getD k 0) (numAt s (a+3*k) 3)
theorem ownL_len(s:ByteArray)(a k:Nat):(ownL s a k).length=19:=by
 induction k with
 |zero=>rfl
 |succ k ih=>rw[ownL,List.length_set,ih]
def toldS(s:ByteArray)(a:Nat):Option (Nat×List Nat×List Nat):=
 if 8*s.size<a+14 then none
 else if 286<257+numAt s a 5∨30<1+numAt s (a+5) 5 then none
 else if 8*s.size<a+14+3*(4+numAt s (a+10) 4) then none
 else if fitS (ownL s (a+14) (4+numAt s (a+10) 4))=false then none
 else match rowS s (ownL s (a+14) (4+numAt s (a+10) 4)) (257+numAt s a 5+(1+numAt s (a+5) 5)) (a+14+3*(4+numAt s (a+10) 4)) [] with
  |none=>none
  |some (a',l)=>
   if fitS (l.take (257+numAt s a 5))=true∧fitD (l.drop (257+numAt s a 5))=true∧l.getD 256 0≠0 then some (a',l.take (257+numAt s a 5),l.drop (257+numAt s a 5)) else none
def fixL:List Nat:=List.replicate 144 8++List.replicate 112 9++List.replicate 24 7++List.replicate 8 8
def fixD:List Nat:=List.replicate 32 5
def kindS(s:ByteArray)(a:Nat)(o:List UInt8):Res:=
 match numAt s (a+1) 2 with
 |0=>rawS s (a+3) o
 |1=>symS s fixL fixD (a+3) o
 |2=>match toldS s (a+3) with
  |none=> .inr 2
  |some (a',L,D)=>symS s L D a' o
 |_=> .inr 2
def blockS(s:ByteArray)(a:Nat)(o:List UInt8):Res:=if 8*s.size<a+3 then .inr 2 else kindS s a o
open Go.RowKit Go.Maps
def orE(e n:Nat):Nat:=if e=0 then n else e
theorem i64_low(n:Nat)(h:n<9223372036854775808):bits .and .i64 (n:Int) 1=((n%2:Nat):Int):=by
 have:=i64_and_nat n 1 h (by omega);rw[nat_mask1] at this;exact this
theorem bit_eq{b i:Nat}(hb:b<256):bits .and .i64 ((b:Int)/2^i) 1=((b/2^i%2:Nat):Int):=by
 have e:(b:Int)/2^i=((b/2^i:Nat):Int):=by rw[Int.natCast_ediv,Int.natCast_pow];rfl
 have hl:b/2^i<9223372036854775808:=Nat.lt_of_le_of_lt (Nat.div_le_self _ _) (by omega)
 rw[e,i64_low _ hl]
theorem orE_orE(e n:Nat)(h:n≠0):orE (orE e n) n=orE e n:=by unfold orE;split<;>simp_all
def NumR(s:ByteArray)(a e n v a' e' :Nat):Prop:=v<2^n∧a' ≤8*s.size∧((a+n≤8*s.size∧v=numAt s a n∧a' =a+n∧e' =e)∨(8*s.size<a+n∧a' =8*s.size∧e' =orE e 2))
theorem NumR.next{s:ByteArray}{a e n v a' e' :Nat}(h:NumR s a e n v a' e'):
 NumR s a e (n+1) (v+(if a' <8*s.size then bitAt s a' else 0)*2^n) (if a' <8*s.size then a' +1 else a') (if a' <8*s.size then e' else orE e' 2):=by
 obtain ⟨h1,h2,h3⟩:=h
 have hb:=bitAt_lt s a'
 rcases h3 with ⟨h3,h4,rfl,rfl⟩|⟨h3,rfl,rfl⟩
 ·by_cases hl:a+n<8*s.size
  ·rw[if_pos hl,if_pos hl,if_pos hl]
   refine ⟨?_,by omega,.inl ⟨by omega,by rw[numAt,h4],by omega,rfl⟩⟩
   have:bitAt s (a+n)*2^n≤1*2^n:=Nat.mul_le_mul_right _ (by omega)
   rw[Nat.pow_succ];omega
  rw[if_neg hl,if_neg hl,if_neg hl]
  refine ⟨by rw[Nat.pow_succ];omega,by omega,.inr ⟨by omega,by omega,rfl⟩⟩
 rw[if_neg (by omega),if_neg (by omega),if_neg (by omega),orE_orE _ _ (by omega)]
 exact ⟨by rw[Nat.pow_succ];omega,by omega,.inr ⟨by omega,rfl,rfl⟩⟩
def Ints(w:World)(gl off:Nat)(L:List Nat):Prop:= ∃cur:Array Value,w.heap[gl]? =some (.cells cur 3 (0,0))∧ ∀j,j<L.length→cur[off+j]? =some (.int .i64 (L.getD j 0:Nat))
theorem Ints.lt{w:World}{gl off:Nat}{L:List Nat}(h:Ints w gl off L):gl<w.heap.size:=by
 obtain ⟨cur,hg,_⟩:=h;exact (Array.getElem?_eq_some_iff.1 hg).1
theorem Ints.cell{w:World}{gl off:Nat}{L:List Nat}(h:Ints w gl off L){j:Nat}(hj:j<L.length):w.cell? ⟨gl,off+j,none⟩=some (.int .i64 (L.getD j 0:Nat)):=by
 obtain ⟨cur,hg,hc⟩:=h;rw[cell_of_row w gl (off+j) cur 3 (0,0) hg];exact hc j hj
theorem Ints.kept{S:Nat→Prop}{w w' :World}{gl off:Nat}{L:List Nat}(h:Ints w gl off L)(ho:Only S w w')(hs:¬S gl):Ints w' gl off L:=by
 have hl:=h.lt
 obtain ⟨cur,hg,hc⟩:=h;exact ⟨cur,(ho.block gl hl hs).trans hg,hc⟩
def cntL(L:List Nat)(n i:Nat):List Nat:=(List.range i).filter fun j=>L.getD j 0==n
theorem cntL_succ(L:List Nat)(n i:Nat):cntL L n (i+1)=if L.getD i 0=n then cntL L n i++[i] else cntL L n i:=by
 unfold cntL
 rw[List.range_succ,List.filter_append]
 by_cases h:L.getD i 0=n
 ·rw[if_pos h,List.filter_cons_of_pos (by rw[h];simp)];simp
 rw[if_neg h,List.filter_cons_of_neg (by simpa using h)];simp
theorem cntL_all(L:List Nat)(n:Nat):cntL L n L.length=runL L n:=rfl
theorem cntL_len(L:List Nat)(n i:Nat):(cntL L n i).length≤i:=by unfold cntL;exact Nat.le_trans (List.length_filter_le _ _) (by simp)
def CodeR(s:ByteArray)(L:List Nat)(a e y a' e' :Nat):Prop:=(a≤a' ∧a' ≤8*s.size)∧y≤L.length∧((e≠0∧y=0∧a' =a∧e' =e)∨(e=0∧((dec s L a=some (y,a')∧e' =0)∨(dec s L a=none∧e' =2))))
theorem NumR.zero{s:ByteArray}{a e:Nat}(ha:a≤8*s.size):NumR s a e 0 0 a e:=⟨Nat.one_pos,ha,.inl ⟨by omega,rfl,rfl,rfl⟩⟩
theorem own_kept{S:Nat→Prop}{w w' :World}{e:TypeId}{v:Value}{n:Nat}{xs:List Value}(h:w.ownsRow 0 e 1 v n xs)(ho:Only S w w')(hs: ∀b,v.ownBlock=some b→¬S b):w'.ownsRow 0 e 1 v n xs:=by
 obtain ⟨hl,h|⟨b,cap,cur,hv,h1,hg,r⟩⟩:=h
 ·exact ⟨hl,.inl h⟩
 exact ⟨hl,.inr ⟨b,cap,cur,hv,h1,(ho.block b (Array.getElem?_eq_some_iff.1 hg).1 (hs b (by rw[hv];rfl))).trans hg,r⟩⟩
theorem own_old{w w' :World}{e:TypeId}{v:Value}{n:Nat}{xs:List Value}(h:w.ownsRow 0 e 1 v n xs)(ho:Old w w'):w'.ownsRow 0 e 1 v n xs:=own_kept h ho (fun _ _ x=>x)
theorem own_heap{w:World}{e:TypeId}{v:Value}{n:Nat}{xs:List Value}(h:w.ownsRow 0 e 1 v n xs){b:Nat}(hb:v.ownBlock=some b): ∃cur,w.heap[b]? =some (.cells cur e (0,0)):=by
 obtain ⟨hl,h|⟨b',cap,cur,hv,h1,hg,r⟩⟩:=h
 ·rw[h.1] at hb;cases hb
 rw[hv] at hb;injection hb with hb;subst hb;exact ⟨cur,hg⟩
def Fresh(S:Nat→Prop)(w:World):Prop:= ∀k,w.heap.size≤k→S k
theorem Fresh.mono{S:Nat→Prop}{w w' :World}(h:Fresh S w)(hl:w.heap.size≤w'.heap.size):Fresh S w' :=fun k hk=>h k (by omega)
theorem Only.of_g{S:Nat→Prop}{g:Nat}(hg:S g){w w' :World}(h:Only (fun k=>k=g) w w'):Only S w w' :=h.mono (fun _ _ hk=>hk ▸ hg)
theorem infoB5:(Tryz.prog.info? 5).map (fun i=>(i.zero,i.size,i.bytes))=some (some (.int .u8 0),1,1):=by kernel_rfl
theorem byte_new5{wr:World}{n:Nat}: ∀j u,[Value.int .u8 (n:Int)][j]? =some u→(wr.alloc (.cells #[.int .u8 (n:Int)] 5)).cell? ((⟨wr.heap.size,0,none⟩:Addr).add j)=some u:=by
 intro j u hu
 rw[Addr.add_lit,Nat.zero_add,cell_of_row _ _ j _ 5 (0,0) (Go.heap_alloc_new wr _)]
 simpa using hu
end Go.Proofs.YtfbgamknfommpaaGreatDoor
