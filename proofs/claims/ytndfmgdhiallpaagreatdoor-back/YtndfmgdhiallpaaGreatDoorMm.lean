import Derived.Test.YtndfmgdhiallpaaGreatDoorMh
namespace Go.Proofs.YtndfmgdhiallpaaGreatDoor
open Go.RowKit
def oct(B:List Nat)(k:Nat):Nat→Nat
 |0=>0
 |n+1=>oct B k n+B.getD (8*k+n) 0*2^n
def Bin(B:List Nat):Prop:= ∀x∈B,x<2
theorem Bin.get{B:List Nat}(hB:Bin B)(i:Nat):B.getD i 0<2:=by
 rw[List.getD_eq_getElem?_getD]
 rcases Nat.lt_or_ge i B.length with hl|hl
 ·rw[List.getElem?_eq_getElem hl];exact hB _ (List.getElem_mem _)
 rw[List.getElem?_eq_none hl];decide
theorem Bin.append{A B:List Nat}(hA:Bin A)(hB:Bin B):Bin (A++B):=fun x hx=>(List.mem_append.1 hx).elim (hA x) (hB x)
theorem oct_lt{B:List Nat}(hB:Bin B)(k n:Nat):oct B k n<2^n:=by
 induction n with
 |zero=>exact Nat.one_pos
 |succ n ih=>
  have h:=hB.get (8*k+n)
  have h2:B.getD (8*k+n) 0*2^n≤1*2^n:=Nat.mul_le_mul_right _ (by omega)
  rw[oct,Nat.pow_succ];omega
def packB(B:List Nat):List UInt8:=(List.range ((B.length+7)/8)).map fun k=>b8 (oct B k 8)
theorem packB_len(B:List Nat):(packB B).length=(B.length+7)/8:=by simp[packB]
theorem packB_nil:packB []=[]:=rfl
theorem oct_bit{B:List Nat}(hB:Bin B)(k:Nat): ∀(n i:Nat),i<n→oct B k n/2^i%2=B.getD (8*k+i) 0
 |n+1,i,hi=>by
  have hb:=hB.get (8*k+n)
  have hlt:=oct_lt hB k n
  rw[oct]
  rcases Nat.lt_or_ge i n with h|h
  ·have e:2^n=2^i*(2*2^(n- i- 1)):=by rw[←Nat.pow_succ',←Nat.pow_add];congr 1;omega
   rw[e,Nat.mul_left_comm,Nat.add_mul_div_left _ _ (Nat.two_pow_pos i),Nat.mul_left_comm,Nat.add_mul_mod_self_left]
   exact oct_bit hB k n i h
  have e:i=n:=by omega
  subst e
  rw[Nat.add_mul_div_right _ _ (Nat.two_pow_pos i),Nat.div_eq_of_lt hlt,Nat.zero_add,Nat.mod_eq_of_lt hb]
theorem oct_congr{A B:List Nat}{k n:Nat}(h: ∀i,i<n→A.getD (8*k+i) 0=B.getD (8*k+i) 0):oct A k n=oct B k n:=by
 induction n with
 |zero=>rfl
 |succ n ih=>rw[oct,oct,ih (fun i hi=>h i (by omega)),h n (by omega)]
theorem packB_get(B:List Nat)(k:Nat)(h:k<(B.length+7)/8):(packB B)[k]? =some (b8 (oct B k 8)):=by simp[packB,h]
theorem getD_snoc(B:List Nat)(b i:Nat):(B++[b]).getD i 0=if i<B.length then B.getD i 0 else if i=B.length then b else 0:=by
 rw[List.getD_eq_getElem?_getD,List.getD_eq_getElem?_getD]
 by_cases h:i<B.length
 ·rw[if_pos h,List.getElem?_append_left h]
 rw[if_neg h,List.getElem?_append_right (by omega)]
 by_cases h2:i=B.length
 ·subst h2;simp
 rw[if_neg h2]
 obtain ⟨j,hj⟩: ∃j,i- B.length=j+1:=⟨i- B.length- 1,by omega⟩
 rw[hj];rfl
theorem getD_none(B:List Nat)(i:Nat)(h:B.length≤i):B.getD i 0=0:=by
 rw[List.getD_eq_getElem?_getD,List.getElem?_eq_none h];rfl
theorem packB_new{B:List Nat}(b:Nat)(h:B.length%8=0):packB (B++[b])=packB B++[b8 b]:=by
 apply List.ext_getElem?
 intro k
 rw[List.getElem?_append]
 rcases Nat.lt_or_ge k ((B.length+7)/8) with hk|hk
 ·rw[if_pos (by rw[packB_len];exact hk),packB_get B k hk,packB_get _ k (by rw[List.length_append];simp;omega)]
  congr 2
  exact oct_congr (fun i hi=>by rw[getD_snoc,if_pos (by omega)])
 rw[if_neg (by rw[packB_len];omega),packB_len]
 by_cases e:k=B.length/8
 ·rw[packB_get _ k (by rw[List.length_append];simp;omega),show k- (B.length+7)/8=0 by omega]
  show some _=some _
  congr 2
  have z: ∀n,n≤7→oct (B++[b]) k (n+1)=b:=by
   intro n
   induction n with
   |zero=>intro _;rw[oct,oct,getD_snoc,if_neg (by omega),if_pos (by omega)];omega
   |succ n ih=>intro hn;rw[oct,ih (by omega),getD_snoc,if_neg (by omega),if_neg (by omega)];omega
  exact z 7 (by omega)
 rw[List.getElem?_eq_none (by rw[packB_len,List.length_append];simp;omega),List.getElem?_eq_none (by simp;omega)]
theorem packB_in{B:List Nat}(b:Nat)(h:B.length%8≠0):packB (B++[b])=(packB B).set ((packB B).length- 1) (b8 (oct B (B.length/8) 8+b*2^(B.length%8))):=by
 apply List.ext_getElem?
 intro k
 rw[List.getElem?_set,packB_len]
 by_cases e:(B.length+7)/8- 1=k
 ·rw[if_pos e,if_pos (by omega),packB_get _ k (by rw[List.length_append];simp;omega)]
  have hk:k=B.length/8:=by omega
  congr 2
  subst hk
  have z: ∀n,oct (B++[b]) (B.length/8) n=oct B (B.length/8) n+if B.length%8<n then b*2^(B.length%8) else 0:=by
   intro n
   induction n with
   |zero=>rw[oct,oct,if_neg (by omega)]
   |succ n ih=>
    rw[oct,oct,ih,getD_snoc]
    rcases Nat.lt_trichotomy n (B.length%8) with h1|h1|h1
    ·rw[if_pos (show 8*(B.length/8)+n<B.length by omega),if_neg (show ¬B.length%8<n by omega),if_neg (show ¬B.length%8<n+1 by omega)];omega
    ·rw[if_neg (show ¬8*(B.length/8)+n<B.length by omega),if_pos (show 8*(B.length/8)+n=B.length by omega),if_neg (show ¬B.length%8<n by omega),if_pos (show B.length%8<n+1 by omega),getD_none B _ (by omega),h1];omega
    rw[if_neg (show ¬8*(B.length/8)+n<B.length by omega),if_neg (show ¬8*(B.length/8)+n=B.length by omega),if_pos (show B.length%8<n by omega),if_pos (show B.length%8<n+1 by omega),getD_none B _ (by omega)];omega
  rw[z 8,if_pos (by omega)]
 rw[if_neg e]
 rcases Nat.lt_or_ge k ((B.length+7)/8) with hk|hk
 ·rw[packB_get B k hk,packB_get _ k (by rw[List.length_append];simp;omega)]
  congr 2
  exact oct_congr (fun i hi=>by rw[getD_snoc,if_pos (by omega)])
 rw[List.getElem?_eq_none (by rw[packB_len,List.length_append];simp;omega),List.getElem?_eq_none (by rw[packB_len];omega)]
theorem packB_pad(B:List Nat)(n:Nat)(h:(B.length+7)/8=(B.length+n+7)/8):packB (B++List.replicate n 0)=packB B:=by
 apply List.ext_getElem?
 intro k
 rcases Nat.lt_or_ge k ((B.length+7)/8) with hk|hk
 ·rw[packB_get B k hk,packB_get _ k (by rw[List.length_append,List.length_replicate];omega)]
  congr 2
  refine oct_congr (fun i hi=> ?_)
  rw[List.getD_eq_getElem?_getD,List.getD_eq_getElem?_getD]
  rcases Nat.lt_or_ge (8*k+i) B.length with hl|hl
  ·rw[List.getElem?_append_left hl]
  rw[List.getElem?_append_right hl,List.getElem?_eq_none (l:=B) hl,List.getElem?_replicate];split<;>rfl
 rw[List.getElem?_eq_none (by rw[packB_len,List.length_append,List.length_replicate];omega),List.getElem?_eq_none (by rw[packB_len];omega)]
def Bits(s:ByteArray)(B:List Nat):Prop:=B.length≤8*s.size∧ ∀i,i<B.length→bitAt s i=B.getD i 0
theorem btN_list(l:List UInt8)(k:Nat)(u:UInt8)(h:l[k]? =some u):btN ⟨l.toArray⟩ k=u.toNat:=by
 obtain ⟨hl,hu⟩:=List.getElem?_eq_some_iff.1 h
 have hs:k<(⟨l.toArray⟩:ByteArray).size:=by show k<l.toArray.size;rw[List.size_toArray];exact hl
 unfold btN
 rw[dif_pos hs,←hu]
 rfl
theorem bits_packB{B:List Nat}(hB:Bin B)(rest:List UInt8):Bits ⟨(packB B++rest).toArray⟩ B:=by
 refine ⟨?_,fun i hi=> ?_⟩
 ·show B.length≤8*(packB B++rest).toArray.size
  rw[List.size_toArray,List.length_append,packB_len];omega
 have hk:i/8<(packB B).length:=by rw[packB_len];omega
 have e:btN ⟨(packB B++rest).toArray⟩ (i/8)=oct B (i/8) 8:=by
  rw[btN_list _ _ (b8 (oct B (i/8) 8)) (by rw[List.getElem?_append_left hk];exact packB_get B _ (by rw[packB_len] at hk;exact hk))]
  exact b8_toNat (oct_lt hB _ 8)
 rw[bitAt,e,oct_bit hB _ 8 _ (Nat.mod_lt _ (by omega))]
 congr 1;omega
def At(s:ByteArray)(a:Nat)(B:List Nat):Prop:=a+B.length≤8*s.size∧ ∀i,i<B.length→bitAt s (a+i)=B.getD i 0
theorem Bits.all{s:ByteArray}{B:List Nat}(h:Bits s B):At s 0 B:=⟨by have:=h.1;omega,fun i hi=>by rw[Nat.zero_add];exact h.2 i hi⟩
theorem At.left{s:ByteArray}{a:Nat}{A B:List Nat}(h:At s a (A++B)):At s a A:=by
 obtain ⟨h1,h2⟩:=h
 rw[List.length_append] at h1 h2
 refine ⟨by omega,fun i hi=> ?_⟩
 rw[h2 i (by omega),List.getD_eq_getElem?_getD,List.getD_eq_getElem?_getD,List.getElem?_append_left hi]
theorem At.right{s:ByteArray}{a:Nat}{A B:List Nat}(h:At s a (A++B)):At s (a+A.length) B:=by
 obtain ⟨h1,h2⟩:=h
 rw[List.length_append] at h1 h2
 refine ⟨by omega,fun i hi=> ?_⟩
 rw[Nat.add_assoc,h2 (A.length+i) (by omega),List.getD_eq_getElem?_getD,List.getD_eq_getElem?_getD,List.getElem?_append_right (by omega),show A.length+i- A.length=i by omega]
def numB(v n:Nat):List Nat:=(List.range n).map fun i=>v/2^i%2
def codeB(v n:Nat):List Nat:=(List.range n).map fun i=>v/2^(n- 1- i)%2
theorem numB_len(v n:Nat):(numB v n).length=n:=by simp[numB]
theorem codeB_len(v n:Nat):(codeB v n).length=n:=by simp[codeB]
theorem numB_bin(v n:Nat):Bin (numB v n):=by
 intro x hx;obtain ⟨i,_,rfl⟩:=List.mem_map.1 hx;exact Nat.mod_lt _ (by omega)
theorem codeB_bin(v n:Nat):Bin (codeB v n):=by
 intro x hx;obtain ⟨i,_,rfl⟩:=List.mem_map.1 hx;exact Nat.mod_lt _ (by omega)
theorem numB_get(v n i:Nat)(h:i<n):(numB v n).getD i 0=v/2^i%2:=by
 rw[List.getD_eq_getElem?_getD];simp[numB,h]
theorem codeB_get(v n i:Nat)(h:i<n):(codeB v n).getD i 0=v/2^(n- 1- i)%2:=by
 rw[List.getD_eq_getElem?_getD];simp[codeB,h]
theorem numB_succ(v n:Nat):numB v (n+1)=numB v n++[v/2^n%2]:=by simp[numB,List.range_succ]
theorem At.num{s:ByteArray}{a v n:Nat}(h:At s a (numB v n)):numAt s a n=v%2^n:=by
 have g: ∀m,m≤n→numAt s a m=v%2^m:=by
  intro m
  induction m with
  |zero=>intro _;rw[numAt,Nat.pow_zero,Nat.mod_one]
  |succ m ih=>
   intro hm
   rw[numAt,ih (by omega),h.2 m (by rw[numB_len];omega),numB_get _ _ _ (by omega),Nat.pow_succ,Nat.mod_mul,Nat.mul_comm]
 exact g n (Nat.le_refl _)
theorem At.numV{s:ByteArray}{a v n:Nat}(h:At s a (numB v n))(hv:v<2^n):numAt s a n=v:=by rw[h.num,Nat.mod_eq_of_lt hv]
theorem At.dec{s:ByteArray}{L:List Nat}{a v n y:Nat}(h:At s a (codeB v n))(hv:v<2^n)(hn:1≤n)(hn15:n≤15)
 (hno: ∀m,1≤m→m<n→¬(firstL L m≤v/2^(n- m)∧v/2^(n- m)<firstL L m+(runL L m).length))
 (hyes:firstL L n≤v∧v<firstL L n+(runL L n).length)(hy:(runL L n).getD (v- firstL L n) 0=y):dec s L a=some (y,a+n):=by
 have hle:=h.1
 rw[codeB_len] at hle
 have hb: ∀i,i<n→bitAt s (a+i)=v/2^(n- 1- i)%2:=fun i hi=>by rw[h.2 i (by rw[codeB_len];exact hi),codeB_get _ _ _ hi]
 have hstep: ∀m,m<n→2*(v/2^(n- m))+bitAt s (a+m)=v/2^(n- (m+1)):=by
  intro m hm
  rw[hb m hm,show n- (m+1)=n- 1- m by omega,show n- m=(n- 1- m)+1 by omega,Nat.pow_succ,←Nat.div_div_eq_div_mul]
  exact Nat.div_add_mod _ 2
 have g: ∀m,m<n→decGo s L (15- m) (v/2^(n- m)) (a+m)=some (y,a+n):=by
  intro m hm
  obtain ⟨k,hk⟩: ∃k,k=n- 1- m:=⟨_,rfl⟩
  induction k generalizing m with
  |zero=>
   have e:n=m+1:=by omega
   rw[show 15- m=(15- n)+1 by omega,decGo,if_pos (by omega),hstep m hm,show 15- (15- n)=n by omega,show n- (m+1)=0 by omega,Nat.pow_zero,Nat.div_one,if_pos hyes,hy]
   rw[e,Nat.add_assoc]
  |succ k ih=>
   rw[show 15- m=(15- (m+1))+1 by omega,decGo,if_pos (by omega),hstep m hm,show 15- (15- (m+1))=m+1 by omega,if_neg (hno (m+1) (by omega) (by omega)),Nat.add_assoc]
   exact ih (m+1) (by omega) (by omega)
 have:=g 0 (by omega)
 rw[Nat.sub_zero,Nat.sub_zero,Nat.add_zero,Nat.div_eq_of_lt hv] at this
 exact this
open Go.RowKit Go.Maps
theorem run7:runL fixL 7=(List.range 24).map (fun i=>256+i):=by decide+kernel
theorem run8:runL fixL 8=List.range 144++(List.range 8).map (fun i=>280+i):=by decide+kernel
theorem run9:runL fixL 9=(List.range 112).map (fun i=>144+i):=by decide+kernel
theorem run06:(List.range 7).all (fun m=>(runL fixL m).isEmpty)=true:=by decide+kernel
theorem run_low(m:Nat)(h:m<7):runL fixL m=[]:=by
 have:=List.all_eq_true.1 run06 m (List.mem_range.2 h)
 exact List.isEmpty_iff.1 this
theorem first_low(m:Nat)(h:m≤7):firstL fixL m=0:=by
 induction m with
 |zero=>rfl
 |succ m ih=>rw[firstL,ih (by omega),run_low m (by omega)];split<;>rfl
theorem first8:firstL fixL 8=48:=by rw[firstL,first_low 7 (by omega),run7];rfl
theorem first9:firstL fixL 9=400:=by rw[firstL,first8,run8,List.length_append,List.length_range,List.length_map,List.length_range,if_neg (by decide)]
theorem runD5:runL fixD 5=List.range 32:=by decide+kernel
theorem runD04:(List.range 5).all (fun m=>(runL fixD m).isEmpty)=true:=by decide+kernel
theorem runD_low(m:Nat)(h:m<5):runL fixD m=[]:=List.isEmpty_iff.1 (List.all_eq_true.1 runD04 m (List.mem_range.2 h))
theorem firstD_low(m:Nat)(h:m≤5):firstL fixD m=0:=by
 induction m with
 |zero=>rfl
 |succ m ih=>rw[firstL,ih (by omega),runD_low m (by omega)];split<;>rfl
def fixV(y:Nat):Nat:=if y<144 then 48+y else if y<256 then 400+(y- 144) else if y<280 then y- 256 else 192+(y- 280)
def fixN(y:Nat):Nat:=if y<144 then 8 else if y<256 then 9 else if y<280 then 7 else 8
def symB(y:Nat):List Nat:=codeB (fixV y) (fixN y)
def dstB(d:Nat):List Nat:=codeB d 5
theorem symB_len(y:Nat):(symB y).length=fixN y:=codeB_len _ _
theorem fixN_le(y:Nat):fixN y≤9:=by unfold fixN;repeat (first|split|omega)
theorem getD_map_range(n c j:Nat)(h:j<n):((List.range n).map (fun i=>c+i)).getD j 0=c+j:=by
 rw[List.getD_eq_getElem?_getD];simp[h]
theorem At.sym{s:ByteArray}{a y:Nat}(h:At s a (symB y))(hy:y<288):Go.Proofs.YtndfmgdhiallpaaGreatDoor.dec s fixL a=some (y,a+fixN y):=by
 unfold symB fixV fixN at*
 by_cases h1:y<144
 ·rw[if_pos h1,if_pos h1] at h
  rw[if_pos h1]
  refine h.dec (by omega) (by omega) (by omega) (fun m hm hm8=> ?_) ?_ ?_
  ·rcases Nat.lt_or_ge m 7 with h7|h7
   ·rw[run_low m h7];intro hh;have:=hh.2;have:=hh.1;simp at*;omega
   have e:m=7:=by omega
   subst e
   rw[run7,first_low 7 (by omega)];simp;omega
  ·rw[first8,run8];simp;omega
  rw[first8,run8,show 48+y- 48=y by omega,List.getD_eq_getElem?_getD,List.getElem?_append_left (by simpa using h1)];simp[h1]
 rw[if_neg h1,if_neg h1] at h
 rw[if_neg h1]
 by_cases h2:y<256
 ·rw[if_pos h2,if_pos h2] at h
  rw[if_pos h2]
  refine h.dec (by omega) (by omega) (by omega) (fun m hm hm8=> ?_) ?_ ?_
  ·rcases Nat.lt_or_ge m 7 with h7|h7
   ·rw[run_low m h7];intro hh;have:=hh.2;have:=hh.1;simp at*;omega
   by_cases e:m=7
   ·subst e
    rw[run7,first_low 7 (by omega)];simp;omega
   have e:m=8:=by omega
   subst e
   rw[run8,first8];simp;omega
  ·rw[first9,run9];simp;omega
  rw[first9,run9,getD_map_range _ _ _ (by omega)];omega
 rw[if_neg h2,if_neg h2] at h
 rw[if_neg h2]
 by_cases h3:y<280
 ·rw[if_pos h3,if_pos h3] at h
  rw[if_pos h3]
  refine h.dec (by omega) (by omega) (by omega) (fun m hm hm8=> ?_) ?_ ?_
  ·rw[run_low m hm8];intro hh;have:=hh.2;have:=hh.1;simp at*;omega
  ·rw[first_low 7 (by omega),run7];simp;omega
  rw[first_low 7 (by omega),run7,getD_map_range _ _ _ (by omega)];omega
 rw[if_neg h3,if_neg h3] at h
 rw[if_neg h3]
 refine h.dec (by omega) (by omega) (by omega) (fun m hm hm8=> ?_) ?_ ?_
 ·rcases Nat.lt_or_ge m 7 with h7|h7
  ·rw[run_low m h7];intro hh;have:=hh.2;have:=hh.1;simp at*;omega
  have e:m=7:=by omega
  subst e
  rw[run7,first_low 7 (by omega)];simp;omega
 ·rw[first8,run8];simp;omega
 rw[first8,run8,List.getD_eq_getElem?_getD,List.getElem?_append_right (by simp;omega),←List.getD_eq_getElem?_getD,getD_map_range _ _ _ (by simp;omega)];simp;omega
theorem At.dst{s:ByteArray}{a d:Nat}(h:At s a (dstB d))(hd:d<32):Go.Proofs.YtndfmgdhiallpaaGreatDoor.dec s fixD a=some (d,a+5):=by
 refine At.dec h (by omega) (by omega) (by omega) (fun m hm hm8=> ?_) ?_ ?_
 ·rw[runD_low m hm8];intro hh;have:=hh.2;have:=hh.1;simp at*;omega
 ·rw[firstD_low 5 (by omega),runD5];simp;omega
 rw[firstD_low 5 (by omega),runD5,List.getD_eq_getElem?_getD];simp[hd]
def symGoN(len:Nat):Nat→Nat
 |0=>257
 |k+1=>if len<lenBase (257+(k+1)) then symGoN len k else 257+(k+1)
def symOf(len:Nat):Nat:=symGoN len 28
def dsymGo(far:Nat):Nat→Nat
 |0=>0
 |k+1=>if far<dstBase (k+1) then dsymGo far k else k+1
def dsymOf(far:Nat):Nat:=dsymGo far 29
theorem symOf_all:(List.range 259).all (fun n=>decide (3≤n→257≤symOf n∧symOf n≤285∧lenBase (symOf n)≤n∧n<lenBase (symOf n)+2^lenBits (symOf n)∧fixN (symOf n)+lenBits (symOf n)≤13))=true:=by decide+kernel
theorem symOf_ok(n:Nat)(h:3≤n)(h2:n≤258):257≤symOf n∧symOf n≤285∧lenBase (symOf n)≤n∧n<lenBase (symOf n)+2^lenBits (symOf n)∧fixN (symOf n)+lenBits (symOf n)≤13:=
 of_decide_eq_true (List.all_eq_true.1 symOf_all n (List.mem_range.2 (by omega))) h
theorem dstBase_next:(List.range 30).all (fun y=>decide (dstBase (y+1)=dstBase y+2^dstBits y))=true:=by decide+kernel
theorem dsymGo_ok(far:Nat)(h:1≤far): ∀k,k≤29→far<dstBase (k+1)→dsymGo far k≤k∧dstBase (dsymGo far k)≤far∧far<dstBase (dsymGo far k)+2^dstBits (dsymGo far k)
 |0,_,h2=>by
  rw[dsymGo]
  have:dstBase (0+1)=2:=rfl
  have e0:dstBase 0=1:=rfl
  exact ⟨Nat.le_refl _,by omega,by rw[e0];have:dstBits 0=0:=rfl;rw[this];omega⟩
 |k+1,hk,h2=>by
  rw[dsymGo]
  split
  ·rename_i hlt
   have:=dsymGo_ok far h k (by omega) hlt
   exact ⟨by omega,this.2⟩
  rename_i hge
  have e:=of_decide_eq_true (List.all_eq_true.1 dstBase_next (k+1) (List.mem_range.2 (by omega)))
  exact ⟨Nat.le_refl _,by omega,by omega⟩
theorem dsymOf_ok(far:Nat)(h:1≤far)(h2:far≤32768):dsymOf far≤29∧dstBase (dsymOf far)≤far∧far<dstBase (dsymOf far)+2^dstBits (dsymOf far):=
 dsymGo_ok far h 29 (by omega) (by have:dstBase (29+1)=32769:=rfl;omega)
theorem dstBits_le:(List.range 30).all (fun y=>decide (dstBits y≤13))=true:=by decide+kernel
abbrev Tok:=Nat ⊕ (Nat×Nat)
def tokB:Tok→List Nat
 | .inl c=>symB c
 | .inr (len,far)=>symB (symOf len)++(numB (len- lenBase (symOf len)) (lenBits (symOf len))++(dstB (dsymOf far)++numB (far- dstBase (dsymOf far)) (dstBits (dsymOf far))))
def toksB(T:List Tok):List Nat:=(T.map tokB).flatten
theorem toksB_cons(t:Tok)(T:List Tok):toksB (t::T)=tokB t++toksB T:=by simp[toksB]
theorem toksB_snoc(t:Tok)(T:List Tok):toksB (T++[t])=toksB T++tokB t:=by simp[toksB]
theorem tokB_bin(t:Tok):Bin (tokB t):=by
 cases t with
 |inl c=>exact codeB_bin _ _
 |inr p=>obtain ⟨len,far⟩:=p;exact (codeB_bin _ _).append ((numB_bin _ _).append ((codeB_bin _ _).append (numB_bin _ _)))
theorem toksB_bin(T:List Tok):Bin (toksB T):=by
 induction T with
 |nil=>intro x hx;cases hx
 |cons t T ih=>rw[toksB_cons];exact (tokB_bin t).append ih
def runT(o:List UInt8):Tok→List UInt8
 | .inl c=>o++[b8 c]
 | .inr (len,far)=>copyL o far len
def okT(o:List UInt8):Tok→Prop
 | .inl c=>c<256∧o.length<20000
 | .inr (len,far)=>3≤len∧len≤258∧1≤far∧far≤o.length∧o.length+len≤20000
def okTs:List UInt8→List Tok→Prop
 |_,[]=>True
 |o,t::T=>okT o t∧okTs (runT o t) T
theorem step_tok{s:ByteArray}{a:Nat}{o:List UInt8}{t:Tok}(h:At s a (tokB t))(hok:okT o t):stepS s fixL fixD a o=.inr ((a+(tokB t).length),(runT o t)):=by
 cases t with
 |inl c=>
  obtain ⟨hc,ho⟩:=hok
  have hd:=At.sym (y:=c) h (by omega)
  rw[stepS,hd]
  show (if c=256 then _ else _)=_
  rw[if_neg (by omega),if_pos hc,if_neg (by omega)]
  show Sum.inr ((a+fixN c),_)=Sum.inr ((a+(symB c).length),_)
  rw[symB_len];rfl
 |inr p=>
  obtain ⟨len,far⟩:=p
  obtain ⟨h3,h258,hf1,hfo,ho⟩:=hok
  obtain ⟨hs1,hs2,hs3,hs4,_⟩:=symOf_ok len h3 h258
  obtain ⟨hd1,hd2,hd3⟩:=dsymOf_ok far hf1 (by omega)
  have hle:=h.1
  have hA:=h.left
  have hB:=h.right.left
  have hC:=h.right.right.left
  have hD:=h.right.right.right
  have hlen:(tokB (.inr (len,far))).length=fixN (symOf len)+(lenBits (symOf len)+(5+dstBits (dsymOf far))):=by
   simp only[tokB,List.length_append,symB_len,numB_len,dstB,codeB_len]
  rw[symB_len] at hB hC hD
  rw[numB_len] at hC hD
  have e5:(dstB (dsymOf far)).length=5:=codeB_len _ _
  rw[e5] at hD
  rw[hlen] at hle
  have hd:=hA.sym (by omega)
  have hn1:=hB.numV (by omega)
  have hdd:=hC.dst (by omega)
  have hn2:=hD.numV (by omega)
  rw[stepS,hd]
  show (if symOf len=256 then _ else _)=_
  rw[if_neg (by omega),if_neg (by omega),if_neg (by omega),copyS,if_neg (by omega),hdd]
  show (if 29<dsymOf far then _ else _)=_
  rw[if_neg (by omega),if_neg (by omega),hn2,hn1,show dstBase (dsymOf far)+(far- dstBase (dsymOf far))=far by omega,show lenBase (symOf len)+(len- lenBase (symOf len))=len by omega,if_neg (by omega),if_neg (by omega),hlen]
  show Sum.inr (_,_)=Sum.inr (_,_)
  congr 2;omega
theorem sym_toks{s:ByteArray}: ∀{T:List Tok} {a:Nat} {o:List UInt8},At s a (toksB T++symB 256)→okTs o T→symS s fixL fixD a o=.inl ((a+(toksB T++symB 256).length),(T.foldl runT o))
 |[],a,o,h,_=>by
  have hd:=At.sym (y:=256) h (by omega)
  rw[symS_step,stepS,hd]
  show Sum.inl ((a+fixN 256),o)=_
  rw[show (toksB []++symB 256).length=fixN 256 by rw[show toksB []=[] from rfl,List.nil_append,symB_len]];rfl
 |t::T,a,o,h,hok=>by
  rw[toksB_cons,List.append_assoc] at h
  rw[symS_step,step_tok h.left hok.1]
  show symS s fixL fixD (a+(tokB t).length) (runT o t)=_
  rw[sym_toks h.right hok.2,toksB_cons,List.append_assoc,show (tokB t++(toksB T++symB 256)).length=(tokB t).length+(toksB T++symB 256).length from List.length_append,Nat.add_assoc];rfl
def fixB(T:List Tok):List Nat:=1::1::0::(toksB T++symB 256)
theorem fixB_bin(T:List Tok):Bin (fixB T):=by
 have h:=(toksB_bin T).append (codeB_bin (fixV 256) (fixN 256))
 intro x hx
 rcases List.mem_cons.1 hx with rfl|hx
 ·omega
 rcases List.mem_cons.1 hx with rfl|hx
 ·omega
 rcases List.mem_cons.1 hx with rfl|hx
 ·omega
 exact h x hx
theorem infl_fix{T:List Tok}{rest:List UInt8}(hok:okTs [] T):inflate ⟨(packB (fixB T)++rest).toArray⟩=(⟨(T.foldl runT []).toArray⟩,(packB (fixB T)).length,0):=by
 have hb:=(bits_packB (fixB_bin T) rest).all
 generalize hs:(⟨(packB (fixB T)++rest).toArray⟩:ByteArray)=s at hb
 have hle:=hb.1
 have hlen:(fixB T).length=3+(toksB T++symB 256).length:=by simp only[fixB,List.length_cons];omega
 have h0:=hb.2 0 (by omega)
 have h1:=hb.2 1 (by omega)
 have h2:=hb.2 2 (by omega)
 have hr:At s 3 (toksB T++symB 256):=(show At s 0 ([1,1,0]++(toksB T++symB 256)) from hb).right
 have hk:numAt s (0+1) 2=1:=by
  have z:numAt s 1 2=numAt s 1 0+bitAt s (1+0)*2^0+bitAt s (1+1)*2^1:=rfl
  have h1' :bitAt s (1+0)=1:=h1
  have h2' :bitAt s (1+1)=0:=h2
  rw[Nat.zero_add,z,h1',h2'];rfl
 have hblk:blockS s 0 []=.inl ((3+(toksB T++symB 256).length),(T.foldl runT [])):=by
  rw[blockS,if_neg (by omega),kindS,hk]
  exact sym_toks hr hok
 have h0' :bitAt s 0=1:=h0
 rw[inflate,inflS_last hblk h0',outOf,packB_len,hlen]
def row3(d:ByteArray)(p:Nat):ByteArray:=d.extract p (p+3)
theorem row3_size(d:ByteArray)(p:Nat):(row3 d p).size=min (p+3) d.size- p:=by rw[row3,ByteArray.size_extract]
def lastN(d r:ByteArray):Nat→Nat
 |0=>0
 |n+1=>if row3 d n=r then n+1 else lastN d r n
theorem lastN_le(d r:ByteArray)(n:Nat):lastN d r n≤n:=by
 induction n with
 |zero=>exact Nat.le_refl _
 |succ n ih=>rw[lastN];split<;>omega
theorem lastN_row{d r:ByteArray}{n q:Nat}(h:lastN d r n=q+1):row3 d q=r∧q<n:=by
 induction n with
 |zero=>cases h
 |succ n ih=>
  rw[lastN] at h
  split at h
  ·rename_i hr
   have e:q=n:=by omega
   subst e
   exact ⟨hr,by omega⟩
  have:=ih h;exact ⟨this.1,by omega⟩
theorem lastN_top{d r:ByteArray}{n q:Nat}(hr:row3 d q=r)(hq:q<n):q+1≤lastN d r n:=by
 induction n with
 |zero=>omega
 |succ n ih=>
  rw[lastN]
  split
  ·omega
  rename_i hn
  exact ih (by rcases Nat.lt_or_ge q n with h|h;exact h;have e:q=n:=by omega
               subst e;exact absurd hr hn)
def sameGo(d:ByteArray)(p q:Nat):Nat→Nat
 |0=>0
 |k+1=>if sameGo d p q k=k∧btN d (p+k)=btN d (q+k) then k+1 else sameGo d p q k
theorem sameGo_le(d:ByteArray)(p q k:Nat):sameGo d p q k≤k:=by
 induction k with
 |zero=>exact Nat.le_refl _
 |succ k ih=>rw[sameGo];split<;>omega
theorem sameGo_eq{d:ByteArray}{p q:Nat}: ∀{k i:Nat},i<sameGo d p q k→btN d (p+i)=btN d (q+i)
 |k+1,i,h=>by
  rw[sameGo] at h
  split at h
  ·rename_i hk
   rcases Nat.lt_or_ge i k with hi|hi
   ·exact sameGo_eq (k:=k) (by omega)
   have e:i=k:=by omega
   subst e;exact hk.2
  exact sameGo_eq h
theorem sameGo_all{d:ByteArray}{p q:Nat}{k:Nat}(h: ∀i,i<k→btN d (p+i)=btN d (q+i)):sameGo d p q k=k:=by
 induction k with
 |zero=>rfl
 |succ k ih=>rw[sameGo,if_pos ⟨ih (fun i hi=>h i (by omega)),h k (by omega)⟩]
theorem sameGo_stop{d:ByteArray}{p q c:Nat}(hc:sameGo d p q c=c)(hne:btN d (p+c)≠btN d (q+c)): ∀k,c≤k→sameGo d p q k=c
 |0,h=>by rw[show c=0 by omega];rfl
 |k+1,h=>by
  rcases Nat.lt_or_ge c (k+1) with hl|hl
  ·have:=sameGo_stop hc hne k (by omega)
   rw[sameGo,this]
   split
   ·rename_i hh;obtain ⟨h1,h2⟩:=hh;subst h1;exact absurd h2 hne
   rfl
  have e:c=k+1:=by omega
  rw[←e];exact hc
theorem sameGo_mono{d:ByteArray}{p q k c:Nat}(h:c≤sameGo d p q k):sameGo d p q c=c:=sameGo_all (fun i hi=>sameGo_eq (k:=k) (by omega))
def mostN(d:ByteArray)(at_:Nat):Nat:=min 258 (d.size- at_)
def sameN(d:ByteArray)(p q:Nat):Nat:=sameGo d p q (mostN d q)
def bestGo(d:ByteArray)(q:Nat):Nat→Nat→Nat×Nat→Nat×Nat
 |0,_,b=>b
 |k+1,f,b=>if f=0 then b else bestGo d q k (lastN d (row3 d (f- 1)) (f- 1)) (if b.1<sameN d (f- 1) q then (sameN d (f- 1) q,q- (f- 1)) else b)
def lastAt(d:ByteArray)(q:Nat):Nat:=if d.size<q+3 then 0 else lastN d (row3 d q) q
def longN(d:ByteArray)(q:Nat):Nat×Nat:=bestGo d q 128 (lastAt d q) (0,0)
theorem lastAt_row{d:ByteArray}{q f:Nat}(h:lastAt d q=f+1):row3 d f=row3 d q∧f<q∧q+3≤d.size:=by
 unfold lastAt at h
 split at h
 ·cases h
 have:=lastN_row h;exact ⟨this.1,this.2,by omega⟩
theorem row3_same{d:ByteArray}{p q:Nat}(h:row3 d p=row3 d q)(hp:p+3≤d.size)(hq:q+3≤d.size): ∀i,i<3→btN d (p+i)=btN d (q+i):=by
 intro i hi
 rw[←btN_extract (s:=d) (a:=p) (b:=p+3) (k:=i) (by omega) hp,←btN_extract (s:=d) (a:=q) (b:=q+3) (k:=i) (by omega) hq]
 exact congrArg (fun r=>btN r i) h
theorem sameN_three{d:ByteArray}{p q:Nat}(h:row3 d p=row3 d q)(hpq:p≤q)(hq:q+3≤d.size):3≤sameN d p q:=by
 have h3:=sameGo_all (k:=3) (row3_same h (by omega) hq)
 unfold sameN mostN
 have hm:3≤min 258 (d.size- q):=by omega
 have mono: ∀k,3≤k→3≤sameGo d p q k:=by
  intro k hk
  induction k with
  |zero=>omega
  |succ k ih=>
   rcases Nat.lt_or_ge 2 k with h5|h5
   ·rw[sameGo];split
    ·omega
    exact ih (by omega)
   rw[show k+1=3 by omega,h3];exact Nat.le_refl _
 exact mono _ hm
def Copy(d:ByteArray)(q:Nat)(b:Nat×Nat):Prop:=3≤b.1∧b.1≤258∧q+b.1≤d.size∧1≤b.2∧b.2≤q∧ ∀i,i<b.1→btN d (q- b.2+i)=btN d (q+i)
theorem copy_same{d:ByteArray}{p q:Nat}(h:row3 d p=row3 d q)(hpq:p<q)(hq:q+3≤d.size):Copy d q (sameN d p q,q- p):=by
 have h3:=sameN_three h (by omega) hq
 have hl:sameN d p q≤mostN d q:=sameGo_le _ _ _ _
 unfold mostN at hl
 refine ⟨h3,by omega,by show q+sameN d p q≤d.size;omega,by show 1≤q- p;omega,by show q- p≤q;omega,fun i hi=> ?_⟩
 show btN d (q- (q- p)+i)=_
 rw[show q- (q- p)=p by omega]
 exact sameGo_eq (k:=mostN d q) hi
theorem bestGo_ok{d:ByteArray}{q:Nat}(hq:q+3≤d.size): ∀{k f:Nat} {b:Nat×Nat},(f=0∨(row3 d (f- 1)=row3 d q∧f- 1<q))→(b=(0,0)∨Copy d q b)→(bestGo d q k f b=(0,0)∧b=(0,0)∧(k=0∨f=0))∨Copy d q (bestGo d q k f b)
 |0,f,b,_,hb=>by
  rw[bestGo]
  rcases hb with rfl|hb
  ·exact .inl ⟨rfl,rfl,.inl rfl⟩
  exact .inr hb
 |k+1,f,b,hf,hb=>by
  rw[bestGo]
  by_cases h0:f=0
  ·rw[if_pos h0]
   rcases hb with rfl|hb
   ·exact .inl ⟨rfl,rfl,.inr h0⟩
   exact .inr hb
  rw[if_neg h0]
  obtain ⟨hr,hlt⟩:row3 d (f- 1)=row3 d q∧f- 1<q:=hf.resolve_left h0
  have hc:=copy_same hr hlt hq
  have hnew:Copy d q (if b.1<sameN d (f- 1) q then (sameN d (f- 1) q,q- (f- 1)) else b):=by
   split
   ·exact hc
   rename_i hge
   rcases hb with rfl|hb
   ·exact absurd (show (0:Nat)<sameN d (f- 1) q from Nat.lt_of_lt_of_le (by omega) hc.1) hge
   exact hb
  have hf2:lastN d (row3 d (f- 1)) (f- 1)=0∨(row3 d (lastN d (row3 d (f- 1)) (f- 1)- 1)=row3 d q∧lastN d (row3 d (f- 1)) (f- 1)- 1<q):=by
   rcases Nat.eq_zero_or_pos (lastN d (row3 d (f- 1)) (f- 1)) with h|h
   ·exact .inl h
   obtain ⟨g,hg⟩: ∃g,lastN d (row3 d (f- 1)) (f- 1)=g+1:=⟨_,(Nat.succ_pred_eq_of_pos h).symm⟩
   have:=lastN_row hg
   rw[hg]
   exact .inr ⟨by rw[Nat.add_sub_cancel,this.1,hr],by omega⟩
  rcases bestGo_ok hq (k:=k) hf2 (.inr hnew) with ⟨h1,h2,_⟩|h1
  ·rw[h2] at hnew;exact absurd hnew.1 (by decide)
  exact .inr h1
theorem longN_ok(d:ByteArray)(q:Nat):longN d q=(0,0)∨Copy d q (longN d q):=by
 unfold longN
 by_cases h:d.size<q+3
 ·left;rw[lastAt,if_pos h];rfl
 have hf:lastAt d q=0∨(row3 d (lastAt d q- 1)=row3 d q∧lastAt d q- 1<q):=by
  rcases Nat.eq_zero_or_pos (lastAt d q) with h0|h0
  ·exact .inl h0
  obtain ⟨g,hg⟩: ∃g,lastAt d q=g+1:=⟨_,(Nat.succ_pred_eq_of_pos h0).symm⟩
  have:=lastAt_row hg
  rw[hg];exact .inr ⟨this.1,by omega⟩
 rcases bestGo_ok (by omega) (k:=128) hf (.inl rfl) with h1|h1
 ·exact .inl h1.1
 exact .inr h1
theorem bestGo_max{d:ByteArray}{q p:Nat}(hr:row3 d p=row3 d q): ∀{k f:Nat} {b:Nat×Nat},(f=0∨(row3 d (f- 1)=row3 d q∧f- 1<q))→(sameN d p q≤b.1∨(p<f∧f≤p+k))→sameN d p q≤(bestGo d q k f b).1
 |0,f,b,_,h=>by
  rw[bestGo]
  rcases h with h|h
  ·exact h
  omega
 |k+1,f,b,hf,h=>by
  rw[bestGo]
  by_cases h0:f=0
  ·rw[if_pos h0]
   rcases h with h|h
   ·exact h
   omega
  rw[if_neg h0]
  obtain ⟨hrf,hlt⟩:row3 d (f- 1)=row3 d q∧f- 1<q:=hf.resolve_left h0
  have hl:=lastN_le d (row3 d (f- 1)) (f- 1)
  refine bestGo_max hr (k:=k) ?_ ?_
  ·rcases Nat.eq_zero_or_pos (lastN d (row3 d (f- 1)) (f- 1)) with h1|h1
   ·exact .inl h1
   obtain ⟨g,hg⟩: ∃g,lastN d (row3 d (f- 1)) (f- 1)=g+1:=⟨_,(Nat.succ_pred_eq_of_pos h1).symm⟩
   have:=lastN_row hg
   rw[hg]
   exact .inr ⟨by rw[Nat.add_sub_cancel,this.1,hrf],by omega⟩
  rcases h with h|⟨h1,h2⟩
  ·left;split
   ·show _≤sameN d (f- 1) q;omega
   exact h
  by_cases e:p=f- 1
  ·left;subst e;split
   ·exact Nat.le_refl _
   omega
  right
  have:=lastN_top (d:=d) (r:=row3 d (f- 1)) (n:=f- 1) (q:=p) (hr.trans hrf.symm) (by omega)
  omega
theorem longN_max{d:ByteArray}{q p:Nat}(hr:row3 d p=row3 d q)(hp:p<q)(hq:q+3≤d.size)(h:q≤p+128):sameN d p q≤(longN d q).1:=by
 unfold longN
 have hl:=lastN_le d (row3 d q) q
 have ht:=lastN_top (d:=d) (r:=row3 d q) (n:=q) (q:=p) hr hp
 have e:lastAt d q=lastN d (row3 d q) q:=by rw[lastAt,if_neg (by omega)]
 refine bestGo_max hr ?_ (.inr ⟨by omega,by omega⟩)
 rcases Nat.eq_zero_or_pos (lastAt d q) with h1|h1
 ·exact .inl h1
 obtain ⟨g,hg⟩: ∃g,lastAt d q=g+1:=⟨_,(Nat.succ_pred_eq_of_pos h1).symm⟩
 have:=lastAt_row hg
 rw[hg];exact .inr ⟨this.1,by omega⟩
def tokAt(d:ByteArray)(q:Nat):Tok:=if (longN d q).1=0 then .inl (btN d q) else .inr ((longN d q).1,(longN d q).2)
def cntAt(d:ByteArray)(q:Nat):Nat:=if (longN d q).1=0 then 1 else (longN d q).1
theorem cntAt_pos(d:ByteArray)(q:Nat):1≤cntAt d q:=by unfold cntAt;split<;>omega
def toksGo(d:ByteArray):Nat→Nat→List Tok
 |0,_=>[]
 |k+1,q=>if q<d.size then tokAt d q::toksGo d k (q+cntAt d q) else []
theorem toksGo_enough(d:ByteArray): ∀{k k' q:Nat},d.size≤q+k→d.size≤q+k' →toksGo d k q=toksGo d k' q
 |0,0,_,_,_=>rfl
 |0,k' +1,q,h,_=>by rw[toksGo,toksGo,if_neg (by omega)]
 |k+1,0,q,_,h=>by rw[toksGo,toksGo,if_neg (by omega)]
 |k+1,k' +1,q,h,h' =>by
  rw[toksGo,toksGo]
  have:=cntAt_pos d q
  split
  ·rw[toksGo_enough d (k:=k) (k' :=k') (by omega) (by omega)]
  rfl
def toksFrom(d:ByteArray)(q:Nat):List Tok:=toksGo d d.size q
theorem toksFrom_step{d:ByteArray}{q:Nat}(h:q<d.size):toksFrom d q=tokAt d q::toksFrom d (q+cntAt d q):=by
 have:=cntAt_pos d q
 unfold toksFrom
 obtain ⟨k,hk⟩: ∃k,d.size=k+1:=⟨d.size- 1,by omega⟩
 rw[hk,toksGo,hk,if_pos (by omega),toksGo_enough d (k:=k) (k' :=k+1) (by omega) (by omega)]
theorem toksFrom_done{d:ByteArray}{q:Nat}(h:¬q<d.size):toksFrom d q=[]:=by
 unfold toksFrom
 rw[toksGo_enough d (k:=d.size) (k' :=0) (by omega) (by omega)];rfl
def headL(d:ByteArray)(q:Nat):List UInt8:=(List.range q).map fun i=>b8 (btN d i)
theorem headL_len(d:ByteArray)(q:Nat):(headL d q).length=q:=by simp[headL]
theorem headL_succ(d:ByteArray)(q:Nat):headL d (q+1)=headL d q++[b8 (btN d q)]:=by simp[headL,List.range_succ]
theorem headL_get(d:ByteArray)(q i:Nat)(h:i<q):(headL d q).getD i 0=b8 (btN d i):=by
 rw[List.getD_eq_getElem?_getD];simp[headL,h]
theorem headL_all(d:ByteArray):(⟨(headL d d.size).toArray⟩:ByteArray)=d:=by
 apply ByteArray.ext
 apply Array.ext_getElem?
 intro i
 show (headL d d.size).toArray[i]? =_
 rw[List.getElem?_toArray]
 rcases Nat.lt_or_ge i d.size with h|h
 ·have e:d.data[i]? =some d.data[i]:=Array.getElem?_eq_getElem h
  rw[e]
  simp only[headL,List.getElem?_map,List.getElem?_range h,Option.map_some]
  congr 1
  unfold btN
  rw[dif_pos h]
  show b8 (d.data[i]).toNat=_
  simp[b8]
 rw[List.getElem?_eq_none (by rw[headL_len];exact h),Array.getElem?_eq_none h]
theorem copy_head{d:ByteArray}{q far:Nat}(h1:1≤far)(hq:far≤q): ∀n,(∀i,i<n→btN d (q- far+i)=btN d (q+i))→copyL (headL d q) far n=headL d (q+n)
 |0,_=>rfl
 |n+1,h=>by
  rw[copyL,copy_head h1 hq n (fun i hi=>h i (by omega)),headL_len,headL_get _ _ _ (by omega),show q+n- far=q- far+n by omega,h n (by omega),←Nat.add_assoc,headL_succ]
theorem run_tok(d:ByteArray)(q:Nat)(hq:q<d.size)(hd:d.size≤20000):okT (headL d q) (tokAt d q)∧runT (headL d q) (tokAt d q)=headL d (q+cntAt d q)∧q+cntAt d q≤d.size:=by
 unfold tokAt cntAt
 rcases longN_ok d q with h|h
 ·rw[h]
  refine ⟨⟨btN_lt _ _,by rw[headL_len];omega⟩, ?_,by show q+1≤_;omega⟩
  exact (headL_succ d q).symm
 have h3:=h.1
 rw[if_neg (by omega),if_neg (by omega)]
 obtain ⟨_,h258,hsz,hf1,hfq,hcp⟩:=h
 refine ⟨⟨h3,h258,hf1,by rw[headL_len];exact hfq,by rw[headL_len];omega⟩, ?_,hsz⟩
 exact copy_head hf1 hfq _ hcp
theorem toks_run(d:ByteArray)(hd:d.size≤20000): ∀k q,d.size- q=k→q≤d.size→okTs (headL d q) (toksFrom d q)∧(toksFrom d q).foldl runT (headL d q)=headL d d.size:=by
 intro k
 induction k using Nat.strongRecOn with
 |ind k ih=>
  intro q hk hq
  by_cases hlt:q<d.size
  ·obtain ⟨h1,h2,h3⟩:=run_tok d q hlt hd
   have hp:=cntAt_pos d q
   obtain ⟨h4,h5⟩:=ih (d.size- (q+cntAt d q)) (by omega) (q+cntAt d q) rfl h3
   rw[toksFrom_step hlt]
   exact ⟨⟨h1,by rw[h2];exact h4⟩,by rw[List.foldl_cons,h2];exact h5⟩
  rw[toksFrom_done hlt]
  exact ⟨trivial,by rw[show q=d.size by omega];rfl⟩
def fixedP(d:ByteArray):ByteArray:=⟨(packB (fixB (toksFrom d 0))).toArray⟩
theorem fixedP_size(d:ByteArray):(fixedP d).size=(packB (fixB (toksFrom d 0))).length:=by show (packB _).toArray.size=_;rw[List.size_toArray]
theorem infl_fixed(d:ByteArray)(hd:d.size≤20000)(rest:List UInt8):inflate ⟨(packB (fixB (toksFrom d 0))++rest).toArray⟩=(d,(fixedP d).size,0):=by
 obtain ⟨h1,h2⟩:=toks_run d hd d.size 0 (by omega) (by omega)
 rw[infl_fix (T:=toksFrom d 0) h1,fixedP_size]
 have e:(toksFrom d 0).foldl runT []=headL d d.size:=h2
 rw[e,headL_all]
def plainH(n:Nat):List Nat:=[1,0,0,0,0,0,0,0]++(numB n 16++numB (65535- n) 16)
theorem plainH_len(n:Nat):(plainH n).length=40:=by simp[plainH,numB_len]
theorem plainH_bin(n:Nat):Bin (plainH n):=by
 refine Bin.append (fun x hx=> ?_) ((numB_bin _ _).append (numB_bin _ _))
 simp at hx;omega
def plainL(d:ByteArray):List UInt8:=packB (plainH d.size)++headL d d.size
def plainP(d:ByteArray):ByteArray:=⟨(plainL d).toArray⟩
theorem plainL_len(d:ByteArray):(plainL d).length=d.size+5:=by rw[plainL,List.length_append,packB_len,plainH_len,headL_len];omega
theorem plainP_size(d:ByteArray):(plainP d).size=d.size+5:=by show (plainL d).toArray.size=_;rw[List.size_toArray,plainL_len]
theorem infl_plain(d:ByteArray)(hd:d.size≤20000)(rest:List UInt8):inflate ⟨(plainL d++rest).toArray⟩=(d,(plainP d).size,0):=by
 have hb:=(bits_packB (plainH_bin d.size) (headL d d.size++rest)).all
 rw[plainP_size]
 rw[←List.append_assoc] at hb
 change At ⟨(plainL d++rest).toArray⟩ 0 (plainH d.size) at hb
 have hby: ∀i,i<d.size→btN ⟨(plainL d++rest).toArray⟩ (5+i)=btN d i:=by
  intro i hi
  have h5:(packB (plainH d.size)).length=5:=by rw[packB_len,plainH_len]
  rw[btN_list _ (5+i) (b8 (btN d i)) (by
   rw[List.getElem?_append_left (by rw[plainL_len];omega),plainL,List.getElem?_append_right (by omega),h5,show 5+i- 5=i by omega]
   simp[headL,hi])]
  exact b8_toNat (btN_lt _ _)
 have hsz:(⟨(plainL d++rest).toArray⟩:ByteArray).size=d.size+5+rest.length:=by
  show (plainL d++rest).toArray.size=_
  rw[List.size_toArray,List.length_append,plainL_len]
 generalize (⟨(plainL d++rest).toArray⟩:ByteArray)=s at hb hby hsz
 have hr1:At s 8 (numB d.size 16++numB (65535- d.size) 16):=hb.right
 have hn1:=hr1.left.numV (by omega)
 have hr2:At s 24 (numB (65535- d.size) 16):=by have:=hr1.right;rw[numB_len] at this;exact this
 have hn2:=hr2.numV (by omega)
 have h0:bitAt s 0=1:=hb.2 0 (by rw[plainH_len];omega)
 have h1:bitAt s (1+0)=0:=hb.2 1 (by rw[plainH_len];omega)
 have h2:bitAt s (1+1)=0:=hb.2 2 (by rw[plainH_len];omega)
 have hk:numAt s (0+1) 2=0:=by
  have z:numAt s 1 2=numAt s 1 0+bitAt s (1+0)*2^0+bitAt s (1+1)*2^1:=rfl
  rw[Nat.zero_add,z,h1,h2];rfl
 have hu:upTo (0+3)=8:=rfl
 have hraw:rawB s 5 d.size=headL d d.size:=by
  unfold rawB headL
  exact List.map_congr_left (fun i hi=>by rw[hby i (List.mem_range.1 hi)])
 have hblk:blockS s 0 []=.inl ((40+8*d.size),(headL d d.size)):=by
  rw[blockS,if_neg (by omega),kindS,hk]
  show rawS s (0+3) []=_
  rw[rawS,hu,if_neg (by omega),hn1,hn2,if_neg (by omega),if_neg (by simp;omega),if_neg (by omega)]
  show Sum.inl (_,(rawB s 5 d.size))=_
  rw[hraw]
 rw[inflate,inflS_last hblk h0,outOf,headL_all]
 congr 2;omega
def deflP(d:ByteArray):ByteArray:=if (plainP d).size<(fixedP d).size then plainP d else fixedP d
theorem deflP_size(d:ByteArray):(deflP d).size≤d.size+5∧(deflP d).size≤(fixedP d).size:=by
 have:=plainP_size d
 unfold deflP
 split<;>omega
theorem bytes_append(a:List UInt8)(b:ByteArray):(⟨a.toArray⟩:ByteArray)++b=⟨(a++b.data.toList).toArray⟩:=by
 apply ByteArray.ext;simp
theorem infl_defl(d:ByteArray)(hd:d.size≤20000)(b:ByteArray):inflate (deflP d++b)=(d,(deflP d).size,0):=by
 unfold deflP
 split
 ·rw[plainP,bytes_append];exact infl_plain d hd _
 rw[fixedP,bytes_append];exact infl_fixed d hd _
def Again(d:ByteArray)(p:Nat):Prop:= ∀i,i+p<d.size→btN d (i+p)=btN d i
theorem row3_of{d:ByteArray}{p q:Nat}(hp:p+3≤d.size)(hq:q+3≤d.size)(h: ∀i,i<3→btN d (p+i)=btN d (q+i)):row3 d p=row3 d q:=by
 apply ByteArray.ext_getElem
 ·rw[row3_size,row3_size];omega
 intro i h1 h2
 have hi:i<3:=by rw[row3_size] at h1;omega
 have e1:btN (row3 d p) i=btN (row3 d q) i:=by
  rw[row3,row3,btN_extract (by omega) hp,btN_extract (by omega) hq];exact h i hi
 rw[←btN_get h1,←btN_get h2] at e1
 exact UInt8.toNat_inj.1 e1
theorem again_long{d:ByteArray}{p q:Nat}(ha:Again d p)(h1:1≤p)(h100:p≤100)(hp:p≤q)(hq:q+3≤d.size):cntAt d q=mostN d q:=by
 have hs: ∀i,q+i<d.size→btN d (q- p+i)=btN d (q+i):=fun i hi=>by
  have:=ha (q- p+i) (by omega)
  rw[show q- p+i+p=q+i by omega] at this
  exact this.symm
 have hr:row3 d (q- p)=row3 d q:=row3_of (by omega) hq (fun i hi=>hs i (by omega))
 have hm:=longN_max hr (by omega) hq (by omega)
 have hsm:sameN d (q- p) q=mostN d q:=sameGo_all (fun i hi=>hs i (by unfold mostN at hi;omega))
 rw[hsm] at hm
 have h3:3≤mostN d q:=by unfold mostN;omega
 unfold cntAt
 rw[if_neg (by omega)]
 rcases longN_ok d q with h|h
 ·rw[h] at hm;have hz:mostN d q≤0:=hm;omega
 obtain ⟨_,h258,hsz,_⟩:=h
 unfold mostN at*
 omega
theorem dst5_all:(List.range 129).all (fun far=>decide (1≤far→dstBits (dsymOf far)≤5))=true:=by decide+kernel
theorem dst13_all:(List.range 30).all (fun y=>decide (dstBits y≤13))=true:=by decide+kernel
theorem tok_lit_len(c:Nat):(tokB (.inl c)).length≤9:=by rw[tokB,symB_len];exact fixN_le c
theorem tok_cpy_len(len far:Nat):(tokB (.inr (len,far))).length=fixN (symOf len)+lenBits (symOf len)+5+dstBits (dsymOf far):=by
 simp only[tokB,List.length_append,symB_len,numB_len,dstB,codeB_len];omega
theorem tok_len{d:ByteArray}{q:Nat}(hd:d.size≤20000):(tokB (tokAt d q)).length≤31∧(q≤128→(tokB (tokAt d q)).length≤23∧(tokB (tokAt d q)).length≤9*cntAt d q):=by
 unfold tokAt cntAt
 rcases longN_ok d q with h|h
 ·rw[h]
  have:=tok_lit_len (btN d q)
  exact ⟨by show (tokB (.inl _)).length≤31;omega,fun _=>⟨by show (tokB (.inl _)).length≤23;omega,by show (tokB (.inl _)).length≤9;omega⟩⟩
 obtain ⟨h3,h258,hsz,hf1,hfq,_⟩:=h
 rw[if_neg (by omega),if_neg (by omega),tok_cpy_len]
 have h5:=(symOf_ok _ h3 h258).2.2.2.2
 have hd2:=(dsymOf_ok _ hf1 (by omega)).1
 have h13:=of_decide_eq_true (List.all_eq_true.1 dst13_all _ (List.mem_range.2 (show dsymOf (longN d q).2<30 by omega)))
 refine ⟨by omega,fun hq=> ?_⟩
 have h6:=of_decide_eq_true (List.all_eq_true.1 dst5_all _ (List.mem_range.2 (show (longN d q).2<129 by omega))) hf1
 omega
def costN(d:ByteArray)(q:Nat):Nat:=(toksB (toksFrom d q)).length
theorem costN_step{d:ByteArray}{q:Nat}(h:q<d.size):costN d q=(tokB (tokAt d q)).length+costN d (q+cntAt d q):=by
 unfold costN;rw[toksFrom_step h,toksB_cons,List.length_append]
theorem costN_done{d:ByteArray}{q:Nat}(h:¬q<d.size):costN d q=0:=by unfold costN;rw[toksFrom_done h];rfl
theorem longN_short{d:ByteArray}{q:Nat}(h:d.size<q+3):longN d q=(0,0):=by unfold longN;rw[lastAt,if_pos h];rfl
theorem cost_short{d:ByteArray}{q:Nat}(h:d.size<q+3):costN d q≤9*(d.size- q):=by
 have one: ∀r,d.size<r+3→r<d.size→costN d r=(tokB (.inl (btN d r))).length+costN d (r+1):=by
  intro r hr hl
  rw[costN_step hl]
  unfold tokAt cntAt
  rw[longN_short hr];rfl
 by_cases h0:q<d.size
 ·have:=one q h h0
  have hl:=tok_lit_len (btN d q)
  by_cases h1:q+1<d.size
  ·have h2:=one (q+1) (by omega) h1
   have hl2:=tok_lit_len (btN d (q+1))
   have h3:=costN_done (d:=d) (q:=q+1+1) (by omega)
   omega
  have h3:=costN_done (d:=d) (q:=q+1) h1
  omega
 have:=costN_done h0;omega
theorem cost_late{d:ByteArray}{p:Nat}(hd:d.size≤20000)(ha:Again d p)(h1:1≤p)(h100:p≤100): ∀k q,d.size- q=k→p≤q→costN d q≤31*((d.size- q)/258+1):=by
 intro k
 induction k using Nat.strongRecOn with
 |ind k ih=>
  intro q hk hq
  by_cases hs:d.size<q+3
  ·have:=cost_short hs;omega
  have hc:=again_long ha h1 h100 hq (by omega)
  have ht:=(tok_len (d:=d) (q:=q) hd).1
  rw[costN_step (by omega),hc]
  unfold mostN
  by_cases h258:d.size- q≤258
  ·rw[show min 258 (d.size- q)=d.size- q by omega]
   have:=costN_done (d:=d) (q:=q+(d.size- q)) (by omega)
   omega
  rw[show min 258 (d.size- q)=258 by omega]
  have:=ih (d.size- (q+258)) (by omega) (q+258) rfl (by omega)
  omega
theorem cost_early{d:ByteArray}{p:Nat}(hd:d.size≤20000)(ha:Again d p)(h1:1≤p)(h100:p≤100)(hp:p≤d.size): ∀k q,p- q=k→q<p→costN d q≤9*(p- q)+23+31*((d.size- p)/258+1):=by
 intro k
 induction k using Nat.strongRecOn with
 |ind k ih=>
  intro q hk hq
  obtain ⟨h23,h9⟩:=(tok_len (d:=d) (q:=q) hd).2 (by omega)
  have hpos:=cntAt_pos d q
  rw[costN_step (by omega)]
  by_cases hlt:q+cntAt d q<p
  ·have:=ih (p- (q+cntAt d q)) (by omega) _ rfl hlt
   omega
  have:=cost_late hd ha h1 h100 _ (q+cntAt d q) rfl (by omega)
  have hm:(d.size- (q+cntAt d q))/258≤(d.size- p)/258:=Nat.div_le_div_right (by omega)
  omega
theorem half_fixed{d:ByteArray}{p:Nat}(hd:d.size≤20000)(ha:Again d p)(h1:1≤p)(h100:p≤100)(h20:20*p≤d.size):2*(fixedP d).size≤d.size:=by
 have hc:=cost_early hd ha h1 h100 (by omega) p 0 (by omega) (by omega)
 rw[fixedP_size,packB_len]
 have hl:(fixB (toksFrom d 0)).length=3+(costN d 0+7):=by
  simp only[fixB,List.length_cons,List.length_append,symB_len,costN]
  have:fixN 256=7:=rfl
  omega
 rw[hl]
 omega
theorem half_defl{d:ByteArray}{p:Nat}(hd:d.size≤20000)(ha:Again d p)(h1:1≤p)(h100:p≤100)(h20:20*p≤d.size):2*(deflP d).size≤d.size:=by
 have:=half_fixed hd ha h1 h100 h20
 have:=(deflP_size d).2
 omega
end Go.Proofs.YtndfmgdhiallpaaGreatDoor
