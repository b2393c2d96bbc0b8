import Derived.Test.YtfbgamknfommpaaGreatDoorMg
set_option maxRecDepth 100000
set_option maxHeartbeats 2000000
namespace Go.Proofs.YtfbgamknfommpaaGreatDoor
open Go.RowKit
abbrev upT:TypeId:=115
def Up(w:World)(g:Nat)(s:ByteArray)(a:Nat)(o:Value):Prop:=w.heap[g]? =some (.cells #[.string s,.int .i64 a,o] upT (0,0))
section
variable {w:World} {g:Nat} {s:ByteArray} {a:Nat} {o:Value}
theorem Up.lt(h:Up w g s a o):g<w.heap.size:=(Array.getElem?_eq_some_iff.1 h).1
theorem Up.c0(h:Up w g s a o):w.cell? ⟨g,0,none⟩=some (.string s):=by rw[cell_of_row w g 0 _ _ (0,0) h];rfl
theorem Up.c1(h:Up w g s a o):w.cell? ⟨g,1,none⟩=some (.int .i64 a):=by rw[cell_of_row w g 1 _ _ (0,0) h];rfl
theorem Up.c2(h:Up w g s a o):w.cell? ⟨g,2,none⟩=some o:=by rw[cell_of_row w g 2 _ _ (0,0) h];rfl
theorem Up.thaw(h:Up w g s a o)(i:Nat):w.frozen? ⟨g,i,none⟩=false:=frozen_of_row w g i _ _ h
theorem Up.set1(h:Up w g s a o){v:Value}{a' :Nat}(hv:v=.int .i64 a'):Up (w.setCell ⟨g,1,none⟩ v) g s a' o:=by subst hv;exact heap_setCell_same w g 1 _ _ _ h
theorem Up.set2(h:Up w g s a o)(o' :Value):Up (w.setCell ⟨g,2,none⟩ o') g s a o' :=heap_setCell_same w g 2 _ _ _ h
theorem Up.kept{S:Nat→Prop}{w' :World}(h:Up w g s a o)(ho:Only S w w')(hs:¬S g):Up w' g s a o:=(ho.block g h.lt hs).trans h
theorem Up.drewN(h:Up w g s a o)(n:Nat):Up (w.drewN n) g s a o:=h
end
theorem bitC_ok(g:Nat)(s:ByteArray)(hs:s.size≤140737488355328)(a:Nat)(o:Value)(ha:a<8*s.size)(w:World)(h:Up w g s a o):
 Calls Tryz.prog 154 #[.pointer (some ⟨g,0,none⟩)] w fun r w' =>r=.returned (.tuple #[.int .i64 (bitAt s a),.bool true])∧Up w' g s (a+1) o∧Only (fun k=>k=g) w w' :=by
 have h0:=h.c0
 have h1:=h.c1
 have hf:=h.thaw 1
 have HR:=hide h
 clear h
 have hk:a/8<s.size:=by omega
 have hkI:(a:Int)/8<(s.size:Int):=by omega
 have hk0:(0:Int)≤(a:Int)/8:=by omega
 have htn:((a:Int)/8).toNat=a/8:=by omega
 have hm0:(0:Int)≤(a:Int)%8:=by omega
 have htm:((a:Int)%8).toNat=a%8:=by omega
 have hb:=btN_get (s:=s) (k:=a/8) hk
 have hbl:=btN_lt s (a/8)
 have HB:Hid (bitAt s a=btN s (a/8)/2^(a%8)%2):=rfl
 have hbe:=bit_eq (i:=a%8) hbl
 generalize btN s (a/8)=b at*
 go_in
 go_wp2_with fail
 go_quiet (fail)
 go_wp2_with fail
 go_quiet (fail)
 go_wp2_with fail
 go_ret2
 refine ⟨ret2_eq (congrArg (Value.int .i64) ?_) rfl, ?_, ?_⟩
 ·rw[uh HB,Int.natCast_emod,Int.natCast_ediv,Int.natCast_pow];rfl
 ·exact ((uh HR).drewN _).set1 (by congr 1)
 exact ((Only.refl (fun k=>k=g) w).drewN _).setCell (p:=⟨g,1,none⟩) (fun _=>rfl) _
theorem bitC_end(g:Nat)(s:ByteArray)(hs:s.size≤140737488355328)(a:Nat)(o:Value)(ha:¬a<8*s.size)(ha2:a≤8*s.size)(w:World)(h:Up w g s a o):
 Calls Tryz.prog 154 #[.pointer (some ⟨g,0,none⟩)] w fun r w' =>r=.returned (.tuple #[.int .i64 0,.bool false])∧Up w' g s a o∧Only (fun k=>k=g) w w' :=by
 have h0:=h.c0
 have h1:=h.c1
 have HR:=hide h
 clear h
 have hkI:¬(a:Int)/8<(s.size:Int):=by omega
 go_in
 go_wp2_with fail
 go_quiet (fail)
 go_wp2_with fail
 go_ret2
 exact ⟨rfl,(uh HR).drewN _,(Only.refl (fun k=>k=g) w).drewN _⟩
theorem or_shift{v b i:Nat}(hv:v<2^i)(hb:b<2)(hi:i≤16):bits .or .i64 (v:Int) ((b:Int)*2^i)=((v+b*2^i:Nat):Int):=by
 have hp:2^i≤2^16:=Nat.pow_le_pow_right (by omega) hi
 have hbp:b*2^i≤1*2^i:=Nat.mul_le_mul_right _ (by omega)
 have e:(b:Int)*2^i=((b*2^i:Nat):Int):=by rw[Int.natCast_mul,Int.natCast_pow];rfl
 rw[e,i64_or_nat _ _ (by omega) (by omega),Nat.or_comm,nat_join i (b*2^i) v (by simp) hv,Nat.add_comm]
theorem numberC(g:Nat)(s:ByteArray)(hs:s.size≤140737488355328)(a:Nat)(o:Value)(n:Nat)(hn:n≤16)(ha:a≤8*s.size)(w:World)(h:Up w g s a o):
 Calls Tryz.prog 111 #[.pointer (some ⟨g,0,none⟩),.int .i64 n] w fun r w' =>Only (fun k=>k=g) w w' ∧
  ((a+n≤8*s.size∧r=.returned (.tuple #[.int .i64 (numAt s a n),.bool true])∧Up w' g s (a+n) o)∨(8*s.size<a+n∧r=.returned (.tuple #[.int .i64 0,.bool false])∧Up w' g s (8*s.size) o)):=by
 have HR:=hide h
 clear h
 go_in
 go_wp2_with fail
 go_loopw [6,7,8,9,11] (fun x _ _ _ z wr=> ∃v i:Nat,i≤n∧x=.int .i64 v∧z=.int .i64 i∧Hid (v=numAt s a i∧a+i≤8*s.size∧Up wr g s (a+i) o)∧Hid (Only (fun k=>k=g) w wr)) (fun _ _ _ _ z _=>n- (intOf z).toNat)
 ·exact ⟨0,0,by omega,rfl,rfl,⟨rfl,by omega,HR⟩,Only.refl _ w⟩
 obtain ⟨v,i,hi,rfl,rfl,HI,HO⟩:=hrel
 by_cases hlt:i<n
 ·obtain ⟨hv,hai,hup⟩:=uh HI
  have hltI:(i:Int)<(n:Int):=by omega
  by_cases hat:a+i<8*s.size
  ·have HB:=hide (bitC_ok g s hs (a+i) o hat wr hup)
   have hbl:=bitAt_lt s (a+i)
   have hvl:v<2^i:=by rw[hv];exact numAt_lt s a i
   have HN:Hid (numAt s a (i+1)=v+bitAt s (a+i)*2^i):=by unfold Hid;rw[numAt,hv]
   have hos:=or_shift hvl hbl (show i≤16 by omega)
   have hpw:2^i≤2^15:=Nat.pow_le_pow_right (by omega) (by omega)
   generalize bitAt s (a+i)=b at HB hbl HN hos
   have hbp:b*2^i≤1*2^i:=Nat.mul_le_mul_right _ (by omega)
   have hi0:(0:Int)≤(i:Int):=by omega
   have hi64:(i:Int)<64:=by omega
   have htn:((i:Nat):Int).toNat=i:=Int.toNat_natCast i
   have hwrap:IntKind.i64.wrap ((b:Int)*2^i)=(b:Int)*2^i:=by
    have e:(b:Int)*2^i=((b*2^i:Nat):Int):=by rw[Int.natCast_mul,Int.natCast_pow];rfl
    rw[e];exact i64_wrap_nat _ (by omega)
   generalize hq:v+b*2^i=q at hos HN
   clear hv hup hq
   go_wp2_with (go_at_call 154;refine (uh HB).mono ?_;rintro r w1 ⟨rfl,hr1,ho1⟩;have HR1:=hide hr1;have HO1:=hide ho1;clear hr1 ho1)
   go_roundw
   ·exact ⟨q,i+1,by omega,rfl,by go_num,⟨(uh HN).symm,by omega,uh HR1⟩,(uh HO).trans (uh HO1)⟩
   case measure=>simp[intOf];omega
  have HB:=hide (bitC_end g s hs (a+i) o hat hai wr hup)
  have hae:a+i=8*s.size:=by omega
  clear hv hup
  go_wp2_with (go_at_call 154;refine (uh HB).mono ?_;rintro r w1 ⟨rfl,hr1,ho1⟩;have HR1:=hide hr1;have HO1:=hide ho1;clear hr1 ho1)
  go_ret2
  refine ⟨(uh HO).trans (uh HO1),.inr ⟨by omega,rfl, ?_⟩⟩
  have:=uh HR1
  rw[hae] at this
  exact this
 have hin:i=n:=by omega
 subst hin
 go_wp2_with fail
 go_ret2
 obtain ⟨hv,hai,hup⟩:=uh HI
 exact ⟨HO,.inl ⟨hai,by rw[hv];rfl,hup⟩⟩
theorem usedC(g:Nat)(s:ByteArray)(hs:s.size≤140737488355328)(a:Nat)(o:Value)(ha:a≤8*s.size)(w:World)(h:Up w g s a o):
 Calls Tryz.prog 71 #[.pointer (some ⟨g,0,none⟩)] w fun r w' =>r=.returned (.int .i64 ((a+7)/8:Nat))∧w' =w:=by
 have h1:=h.c1
 clear h
 go_in
 go_wp2_with fail
 go_ret
 exact ⟨ret1_eq (congrArg (Value.int .i64) (by omega)),rfl⟩
theorem skipC(g:Nat)(s:ByteArray)(hs:s.size≤140737488355328)(a:Nat)(o:Value)(ha:a≤8*s.size)(w:World)(h:Up w g s a o):
 Calls Tryz.prog 155 #[.pointer (some ⟨g,0,none⟩)] w fun r w' =>r=.returned (.tuple #[])∧Up w' g s (upTo a) o∧Only (fun k=>k=g) w w' :=by
 have h1:=h.c1
 have hf:=h.thaw 1
 have HU:=hide (usedC g s hs a o ha w h)
 have HR:=hide h
 have hb:(a+7)/8≤140737488355329:=by omega
 have HE:Hid (8*((a+7)/8)=upTo a):=by unfold Hid upTo;omega
 clear h
 generalize (a+7)/8=u at*
 go_in
 go_wp2_with (go_at_call 71;refine (uh HU).mono ?_;rintro r w1 ⟨rfl,rfl⟩)
 go_end0
 exact ⟨rfl,(uh HR).set1 (by rw[←uh HE,Int.natCast_mul];rfl),(Only.refl (fun k=>k=g) _).setCell (p:=⟨g,1,none⟩) (fun _=>rfl) _⟩
theorem bytesC_ok(g:Nat)(s:ByteArray)(hs:s.size≤140737488355328)(q:Nat)(o:Value)(c:Nat)(hq:q+c≤s.size)(w:World)(h:Up w g s (8*q) o):
 Calls Tryz.prog 157 #[.pointer (some ⟨g,0,none⟩),.int .i64 c] w fun r w' =>r=.returned (.tuple #[.string (s.extract q (q+c)),.bool true])∧Up w' g s (8*q+8*c) o∧Only (fun k=>k=g) w w' :=by
 have h0:=h.c0
 have h1:=h.c1
 have hf:=h.thaw 1
 have HR:=hide h
 rw[show ((8*q:Nat):Int)=8*(q:Int) by omega] at h1
 clear h
 have e1:(8*(q:Int))/8=(q:Int):=by omega
 have e2:¬(s.size:Int)- (q:Int)<(c:Int):=by omega
 have e3:(q:Int)+(c:Int)≤(s.size:Int):=by omega
 have e4:((q:Int)+(c:Int)).toNat=q+c:=by omega
 have e5:(q:Int)≤(q:Int)+(c:Int):=by omega
 have e6:(0:Int)≤(q:Int):=by omega
 go_in
 go_wp2_with fail
 go_ret2
 exact ⟨rfl,(uh HR).set1 (by congr 1),(Only.refl (fun k=>k=g) _).setCell (p:=⟨g,1,none⟩) (fun _=>rfl) _⟩
theorem bytesC_end(g:Nat)(s:ByteArray)(hs:s.size≤140737488355328)(q:Nat)(o:Value)(c:Nat)(hq0:q≤s.size)(hc:c≤65535)(hq:¬q+c≤s.size)(w:World)(h:Up w g s (8*q) o):
 Calls Tryz.prog 157 #[.pointer (some ⟨g,0,none⟩),.int .i64 c] w fun r w' =>r=.returned (.tuple #[.string ⟨#[]⟩,.bool false])∧w' =w:=by
 have h0:=h.c0
 have h1:=h.c1
 rw[show ((8*q:Nat):Int)=8*(q:Int) by omega] at h1
 clear h
 have e1:(8*(q:Int))/8=(q:Int):=by omega
 have e2:(s.size:Int)- (q:Int)<(c:Int):=by omega
 go_in
 go_wp2_with fail
 go_ret2
 exact ⟨rfl,rfl⟩
theorem roomC(g:Nat)(s:ByteArray)(a:Nat)(ao:Option Addr)(n cp m:Nat)(hn:n≤20000)(w:World)(h:Up w g s a (.slice ao n cp)):
 Calls Tryz.prog 156 #[.pointer (some ⟨g,0,none⟩),.int .i64 m] w fun r w' =>r=.returned (.bool (decide (n+m≤20000)))∧w' =w:=by
 have h2:=h.c2
 clear h
 go_in
 go_wp2_with fail
 go_ret
 exact ⟨ret1_eq (congrArg Value.bool (by rw[decide_eq_decide];omega)),rfl⟩
theorem lengthC_no(y:Nat)(hy:¬(257≤y∧y≤285))(w:World):
 Calls Tryz.prog 201 #[.int .i64 y] w fun r w' =>r=.returned (.tuple #[.int .i64 0,.int .i64 0,.bool false])∧w' =w:=by
 by_cases h1:y<257
 ·have i1:(y:Int)<257:=by omega
  clear hy
  go_in
  go_wp2_with fail
  go_ret3
  exact ⟨rfl,rfl⟩
 have i1:¬(y:Int)<257:=by omega
 have i2:(285:Int)<(y:Int):=by omega
 clear hy
 go_in
 go_wp2_with fail
 go_ret3
 exact ⟨rfl,rfl⟩
theorem ret3_eq{a b c d e f:Value}(h:a=d)(k:b=e)(m:c=f):Ending.returned (.tuple #[a,b,c])=.returned (.tuple #[d,e,f]):=by rw[h,k,m]
theorem lengthC_ok(y:Nat)(h1:257≤y)(h2:y≤285)(w:World):
 Calls Tryz.prog 201 #[.int .i64 y] w fun r w' =>r=.returned (.tuple #[.int .i64 (lenBase y),.int .i64 (lenBits y),.bool true])∧w' =w:=by
 have i1:¬(y:Int)<257:=by omega
 have i2:¬(285:Int)<(y:Int):=by omega
 by_cases h260:y≤260
 ·have e1:lenBits y=0:=if_pos (by omega)
  have e2:lenBase y=y- 254:=if_pos (by omega)
  have i3:(y:Int)<261:=by omega
  have HE:Hid (((y- 254:Nat):Int)=(y:Int)- 257+3):=by unfold Hid;omega
  rw[e1,e2]
  clear e1 e2
  go_in
  go_wp2_with fail
  go_ret3
  exact ⟨ret3_eq (congrArg (Value.int .i64) (uh HE).symm) rfl rfl,rfl⟩
 have i3:¬(y:Int)<261:=by omega
 by_cases h285:y=285
 ·subst h285
  go_in
  go_wp2_with fail
  go_ret3
  exact ⟨rfl,rfl⟩
 have hb:((y:Int)==285)=false:=by rw[beq_eq_false_iff_ne];omega
 have e1:lenBits y=(y- 261)/4:=by
  unfold lenBits
  by_cases h:y≤264
  ·rw[if_pos h];omega
  rw[if_neg h,if_neg h285]
 have e2:lenBase y=3+2^((y- 261)/4)*(4+(y- 261)%4):=by
  unfold lenBase
  by_cases h:y≤264
  ·rw[if_pos h,show (y- 261)/4=0 by omega,show (y- 261)%4=y- 261 by omega];omega
  rw[if_neg h,if_neg h285]
 rw[e1,e2]
 clear e1 e2
 have hq:((y:Int)- 261)/4=(((y- 261)/4:Nat):Int):=by omega
 have hm:((y:Int)- 261)%4=(((y- 261)%4:Nat):Int):=by omega
 have hn5:(y- 261)/4≤5:=by omega
 have hr4:(y- 261)%4<4:=Nat.mod_lt _ (by omega)
 have h0:(0:Int)≤(y:Int)- 261:=by omega
 generalize (y- 261)/4=n at*
 generalize (y- 261)%4=m at*
 have hpw:2^n≤2^5:=Nat.pow_le_pow_right (by omega) hn5
 obtain ⟨q,hqq⟩: ∃q,q=2^n*(4+m):=⟨_,rfl⟩
 have hqI:(4+(m:Int))*2^n=(q:Int):=by rw[hqq,Int.natCast_mul,Int.natCast_pow,Int.mul_comm];rfl
 have hql:q≤224:=by have:2^n*(4+m)≤32*7:=Nat.mul_le_mul (by omega) (by omega);omega
 have hn64:(n:Int)<64:=by omega
 have htn:((n:Nat):Int).toNat=n:=Int.toNat_natCast n
 rw[←hqq]
 clear hqq hpw
 go_in
 go_wp2_with fail
 go_ret3
 exact ⟨ret3_eq (congrArg (Value.int .i64) (by omega)) rfl rfl,rfl⟩
theorem distC_no(d:Nat)(hd:29<d)(w:World):
 Calls Tryz.prog 202 #[.int .i64 d] w fun r w' =>r=.returned (.tuple #[.int .i64 0,.int .i64 0,.bool false])∧w' =w:=by
 have i1:¬(d:Int)<0:=by omega
 have i2:(30:Int)≤(d:Int):=by omega
 go_in
 go_wp2_with fail
 go_ret3
 exact ⟨rfl,rfl⟩
theorem distC_ok(d:Nat)(hd:d≤29)(w:World):
 Calls Tryz.prog 202 #[.int .i64 d] w fun r w' =>r=.returned (.tuple #[.int .i64 (dstBase d),.int .i64 (dstBits d),.bool true])∧w' =w:=by
 have i1:¬(d:Int)<0:=by omega
 have i2:¬(30:Int)≤(d:Int):=by omega
 by_cases h4:d<4
 ·have e1:dstBits d=0:=if_pos h4
  have e2:dstBase d=d+1:=if_pos h4
  have i3:(d:Int)<4:=by omega
  rw[e1,e2]
  clear e1 e2
  go_in
  go_wp2_with fail
  go_ret3
  exact ⟨rfl,rfl⟩
 have i3:¬(d:Int)<4:=by omega
 have e1:dstBits d=d/2- 1:=if_neg h4
 have e2:dstBase d=1+2^(d/2- 1)*(2+d%2):=if_neg h4
 rw[e1,e2]
 clear e1 e2
 have hq:(d:Int)/2- 1=((d/2- 1:Nat):Int):=by omega
 have hm:(d:Int)%2=((d%2:Nat):Int):=by omega
 have hn13:d/2- 1≤13:=by omega
 have hr2:d%2<2:=Nat.mod_lt _ (by omega)
 generalize d/2- 1=n at*
 generalize d%2=m at*
 have hpw:2^n≤2^13:=Nat.pow_le_pow_right (by omega) hn13
 obtain ⟨q,hqq⟩: ∃q,q=2^n*(2+m):=⟨_,rfl⟩
 have hqI:(2+(m:Int))*2^n=(q:Int):=by rw[hqq,Int.natCast_mul,Int.natCast_pow,Int.mul_comm];rfl
 have hql:q≤24576:=by have:2^n*(2+m)≤8192*3:=Nat.mul_le_mul (by omega) (by omega);omega
 have hn64:(n:Int)<64:=by omega
 have htn:((n:Nat):Int).toNat=n:=Int.toNat_natCast n
 rw[←hqq]
 clear hqq hpw
 go_in
 go_wp2_with fail
 go_ret3
 exact ⟨ret3_eq (congrArg (Value.int .i64) (by omega)) rfl rfl,rfl⟩
open Go.RowKit Go.Maps
abbrev setT:TypeId:=185
def runC(L:List Nat)(n:Nat):List Nat:=if n=0 then [] else runL L n
def SetAt(w:World)(gs:Nat)(K:Nat→Prop)(L:List Nat):Prop:=
 ∃cur:Array Value,w.heap[gs]? =some (.cells cur setT (0,0))∧K gs∧(∀n,n≤15→cur[n]? =some (.int .i64 (firstL L n:Nat)))∧
  ∀n,n≤15→ ∃ao cap,cur[16+n]? =some (.slice ao (runC L n).length cap)∧ ∀j,j<(runC L n).length→ ∃b,ao=some ⟨b,0,none⟩∧K b∧w.cell? ⟨b,j,none⟩=some (.int .i64 ((runC L n).getD j 0:Nat))
theorem Only.oldS{S:Nat→Prop}{w w' :World}(h:Old w w'):Only S w w' :=h.mono (fun _ _ x=>x.elim)
theorem cell_lt{w:World}{b j:Nat}{v:Value}(h:w.cell? ⟨b,j,none⟩=some v):b<w.heap.size:=by
 rcases Nat.lt_or_ge b w.heap.size with hl|hl
 ·exact hl
 have:w.cell? ⟨b,j,none⟩=none:=by simp[World.cell?,Array.getElem?_eq_none hl]
 rw[this] at h;cases h
theorem SetAt.kept{S:Nat→Prop}{w w' :World}{gs:Nat}{K:Nat→Prop}{L:List Nat}(h:SetAt w gs K L)(ho:Only S w w')(hs: ∀k,K k→¬S k):SetAt w' gs K L:=by
 obtain ⟨cur,hg,hk,hf,hr⟩:=h
 refine ⟨cur,(ho.block gs (Array.getElem?_eq_some_iff.1 hg).1 (hs gs hk)).trans hg,hk,hf,fun n hn=> ?_⟩
 obtain ⟨ao,cap,h1,h2⟩:=hr n hn
 refine ⟨ao,cap,h1,fun j hj=> ?_⟩
 obtain ⟨b,hb,hkb,hc⟩:=h2 j hj
 exact ⟨b,hb,hkb,(ho.cell (p:=⟨b,j,none⟩) (cell_lt hc) (hs b hkb)).trans hc⟩
theorem SetAt.old{w w' :World}{gs:Nat}{K:Nat→Prop}{L:List Nat}(h:SetAt w gs K L)(ho:Old w w'):SetAt w' gs K L:=h.kept ho (fun _ _ x=>x)
theorem SetAt.lt{w:World}{gs:Nat}{K:Nat→Prop}{L:List Nat}(h:SetAt w gs K L):gs<w.heap.size:=by
 obtain ⟨cur,hg,_⟩:=h;exact (Array.getElem?_eq_some_iff.1 hg).1
theorem symbolOf(gs:Nat)(K:Nat→Prop)(L:List Nat)(hL:L.length≤400)(n v:Nat)(hn:1≤n)(hn15:n≤15)(hv:v<65536)(w:World)(h:SetAt w gs K L):
 Calls Tryz.prog 200 #[.pointer (some ⟨gs,0,none⟩),.agg #[.int .i64 v,.int .i64 n]] w fun r w' =>Old w w' ∧
  ((firstL L n≤v∧v<firstL L n+(runL L n).length∧r=.returned (.tuple #[.int .i64 ((runL L n).getD (v- firstL L n) 0:Nat),.bool true]))∨(¬(firstL L n≤v∧v<firstL L n+(runL L n).length)∧r=.returned (.tuple #[.int .i64 0,.bool false]))):=by
 have hlt:=h.lt
 obtain ⟨cur,hg,hk,hf,hr⟩:=h
 have hc1:w.cell? ⟨gs,n,none⟩=some (.int .i64 (firstL L n:Nat)):=by rw[cell_of_row w gs n cur _ (0,0) hg];exact hf n hn15
 obtain ⟨ao,cap,h1,h2⟩:=hr n hn15
 have hrc:runC L n=runL L n:=if_neg (by omega)
 rw[hrc] at h1 h2
 have hc2:w.cell? ⟨gs,16+n,none⟩=some (.slice ao (runL L n).length cap):=by rw[cell_of_row w gs (16+n) cur _ (0,0) hg];exact h1
 have hfl:firstL L n≤52428800:=by
  have h3:=firstL_le L n
  have hp:2^(n+1)≤2^16:=Nat.pow_le_pow_right (by omega) (by omega)
  have:2^(n+1)*L.length≤65536*400:=Nat.mul_le_mul (by omega) hL
  omega
 have hrl:(runL L n).length≤400:=Nat.le_trans (runL_len L n) hL
 have H2:=hide h2
 have hnI:(n:Int)<16:=by omega
 have hn0:(0:Int)≤(n:Int):=by omega
 clear hg hf hr h1 h2 hrc
 generalize hF:firstL L n=f at*
 generalize hR:runL L n=R at*
 have HOld:Hid (Old w (w.alloc (.cells #[.int .i64 (v:Int),.int .i64 (n:Int)] 225))):=(Only.refl _ w).alloc _
 clear hF hR
 by_cases hlo:f≤v
 ·by_cases hhi:v<f+R.length
  ·obtain ⟨b,hb,hkb,hcb⟩:=uh H2 (v- f) (by omega)
   subst hb
   have hbl:=cell_lt hcb
   obtain ⟨d,hd⟩: ∃d,d=v- f:=⟨_,rfl⟩
   rw[←hd] at hcb
   have hdI:(v:Int)- (f:Int)=(d:Int):=by omega
   have hdl:(d:Int)<(R.length:Int):=by omega
   have hd0:¬(d:Int)<0:=by omega
   have hd00:(0:Int)≤(d:Int):=by omega
   have HD:=hide hd
   clear hd
   go_in
   go_wp2_with fail
   go_quiet (fail)
   go_wp2_with fail
   go_quiet (fail)
   go_wp2_with fail
   go_quiet (fail)
   go_wp2_with fail
   go_ret2
   exact ⟨(((uh HOld).drewN _).drewN _).drewN _,.inl ⟨hlo,hhi,by rw[←uh HD];rfl⟩⟩
  have hdl:¬(v:Int)- (f:Int)<(R.length:Int):=by omega
  have hd0:¬(v:Int)- (f:Int)<0:=by omega
  have hd1:¬(v:Int)<(f:Int):=by omega
  go_in
  go_wp2_with fail
  go_quiet (fail)
  go_wp2_with fail
  go_quiet (fail)
  go_wp2_with fail
  go_ret2
  exact ⟨((uh HOld).drewN _).drewN _,.inr ⟨by omega,rfl⟩⟩
 have hd0:(v:Int)- (f:Int)<0:=by omega
 have hd1:(v:Int)<(f:Int):=by omega
 go_in
 go_wp2_with fail
 go_quiet (fail)
 go_wp2_with fail
 go_quiet (fail)
 go_wp2_with fail
 go_ret2
 exact ⟨((uh HOld).drewN _).drewN _,.inr ⟨by omega,rfl⟩⟩
theorem decGo_found{s:ByteArray}{L:List Nat}{n v a' :Nat}(hn15:n+1≤15)(ha:a' <8*s.size)(h1:firstL L (n+1)≤2*v+bitAt s a')(h2:2*v+bitAt s a' <firstL L (n+1)+(runL L (n+1)).length):
 decGo s L (15- n) v a' =some ((runL L (n+1)).getD (2*v+bitAt s a' - firstL L (n+1)) 0,a' +1):=by
 rw[show 15- n=(14- n)+1 by omega,decGo,if_pos ha,show 15- (14- n)=n+1 by omega,if_pos ⟨h1,h2⟩]
theorem decGo_next{s:ByteArray}{L:List Nat}{n v a' :Nat}(hn15:n+1≤15)(ha:a' <8*s.size)(h:¬(firstL L (n+1)≤2*v+bitAt s a' ∧2*v+bitAt s a' <firstL L (n+1)+(runL L (n+1)).length)):
 decGo s L (15- n) v a' =decGo s L (15- (n+1)) (2*v+bitAt s a') (a' +1):=by
 rw[show 15- n=(14- n)+1 by omega,decGo,if_pos ha,show 15- (14- n)=n+1 by omega,if_neg h,show 15- (n+1)=14- n by omega]
theorem decGo_out{s:ByteArray}{L:List Nat}{n v a' :Nat}(hn15:n+1≤15)(ha:¬a' <8*s.size):decGo s L (15- n) v a' =none:=by
 rw[show 15- n=(14- n)+1 by omega,decGo,if_neg ha]
def CodeAt(w:World)(cb v n:Nat):Prop:=w.heap[cb]? =some (.cells #[.int .i64 (v:Nat),.int .i64 (n:Nat)] 225 (0,0))
theorem symbolC(g:Nat)(s:ByteArray)(hs:s.size≤140737488355328)(a:Nat)(o:Value)(ha:a≤8*s.size)(gs:Nat)(K:Nat→Prop)(hKg:¬K g)(L:List Nat)(hL:L.length≤400)(w:World)(hKw: ∀k,K k→k<w.heap.size)(h:Up w g s a o)(hS:SetAt w gs K L):
 Calls Tryz.prog 158 #[.pointer (some ⟨g,0,none⟩),.pointer (some ⟨gs,0,none⟩)] w fun r w' =>Only (fun k=>k=g) w w' ∧ ∃a',a' ≤8*s.size∧Up w' g s a' o∧
  ((∃y,dec s L a=some (y,a')∧r=.returned (.tuple #[.int .i64 (y:Nat),.bool true]))∨(dec s L a=none∧r=.returned (.tuple #[.int .i64 0,.bool false]))):=by
 have hgl:=h.lt
 have HUP0:Hid (Up (w.alloc (.cells #[.int .i64 0,.int .i64 0] 225)) g s a o):=h.kept ((Only.refl (fun _=>False) w).alloc _) (fun x=>x)
 have HSA0:=hide (hS.old ((Only.refl _ w).alloc (.cells #[.int .i64 0,.int .i64 0] 225)))
 have HCA0:Hid (CodeAt (w.alloc (.cells #[.int .i64 0,.int .i64 0] 225)) w.heap.size 0 0):=Go.heap_alloc_new w _
 clear h hS
 go_in
 go_wp2_with fail
 go_loopw [7,8,9,10] (fun _ _ _ _ wr=> ∃v n:Nat,n≤15∧v<32768∧wr.cell? ⟨w.heap.size,0,none⟩=some (.int .i64 (v:Nat))∧wr.cell? ⟨w.heap.size,1,none⟩=some (.int .i64 (n:Nat))∧Hid (CodeAt wr w.heap.size v n)∧Hid (v<2^n)∧
  Hid (SetAt wr gs K L)∧Hid (∃a',a' ≤8*s.size∧Up wr g s a' o∧dec s L a=decGo s L (15- n) v a')∧Hid (Only (fun k=>k=g) w wr)) (fun _ _ _ _ wr=>15- cellN wr w.heap.size 1)
 ·exact ⟨0,0,by omega,by omega,by rw[cell_of_row _ _ 0 _ _ (0,0) (uh HCA0)];rfl,by rw[cell_of_row _ _ 1 _ _ (0,0) (uh HCA0)];rfl,HCA0,Nat.one_pos,HSA0,⟨a,ha,HUP0,rfl⟩,(Only.refl _ w).alloc _⟩
 obtain ⟨v,n,hn,hv,hc0,hc1,HCA,HVN,HSA,HST,HO⟩:=hrel
 obtain ⟨a',ha',hup,hde⟩:=uh HST
 have hf0:=frozen_of_row wr w.heap.size 0 _ _ (uh HCA)
 have hf1:=frozen_of_row wr w.heap.size 1 _ _ (uh HCA)
 have HM:=hide (cellN_of hc1)
 by_cases hlt:n<15
 ·have hltI:(n:Int)<15:=by omega
  have hgne:g≠w.heap.size:=by omega
  by_cases hat:a' <8*s.size
  ·have HB:=hide (bitC_ok g s hs a' o hat wr hup)
   have hbl:=bitAt_lt s a'
   have hp:2^n≤2^14:=Nat.pow_le_pow_right (by omega) (by omega)
   have hv2:v<16384:=by have:=uh HVN;omega
   have HV2:Hid (2*v+bitAt s a' <2^(n+1)):=by have:=uh HVN;unfold Hid;rw[Nat.pow_succ];omega
   have HDE:=hide hde
   have HF:=hide (decGo_found (s:=s) (L:=L) (v:=v) (show n+1≤15 by omega) hat)
   have HN:=hide (decGo_next (s:=s) (L:=L) (v:=v) (show n+1≤15 by omega) hat)
   have HSY:=hide (fun w1 h1=>symbolOf gs K L hL (n+1) (2*v+bitAt s a') (by omega) (by omega) (by omega) w1 h1)
   rw[show ((2*v+bitAt s a' :Nat):Int)=2*(v:Int)+(bitAt s a' :Int) by omega,show ((n+1:Nat):Int)=(n:Int)+1 by omega] at HSY
   generalize bitAt s a' =b at*
   clear hup hde HST
   go_wp2_with fail
   refine (uh HB).mono ?_
   rintro r w1 ⟨rfl,hup1,ho1⟩
   have hca1:CodeAt w1 w.heap.size v n:=(ho1.block w.heap.size (Array.getElem?_eq_some_iff.1 (uh HCA)).1 (by omega)).trans (uh HCA)
   have hd0:w1.cell? ⟨w.heap.size,0,none⟩=some (.int .i64 (v:Nat)):=by rw[cell_of_row _ _ 0 _ _ (0,0) hca1];rfl
   have hd1:w1.cell? ⟨w.heap.size,1,none⟩=some (.int .i64 (n:Nat)):=by rw[cell_of_row _ _ 1 _ _ (0,0) hca1];rfl
   have hg0:=frozen_of_row w1 w.heap.size 0 _ _ hca1
   have hg1:=frozen_of_row w1 w.heap.size 1 _ _ hca1
   have hca2:CodeAt ((w1.setCell ⟨w.heap.size,0,none⟩ (.int .i64 (2*(v:Int)+(b:Int)))).setCell ⟨w.heap.size,1,none⟩ (.int .i64 ((n:Int)+1))) w.heap.size (2*v+b) (n+1):=by
    have e1:=heap_setCell_same w1 w.heap.size 0 _ _ (.int .i64 (2*(v:Int)+(b:Int))) hca1
    have e2:=heap_setCell_same _ w.heap.size 1 _ _ (.int .i64 ((n:Int)+1)) e1
    exact e2
   have hO2:Only (fun k=>k=w.heap.size) w1 ((w1.setCell ⟨w.heap.size,0,none⟩ (.int .i64 (2*(v:Int)+(b:Int)))).setCell ⟨w.heap.size,1,none⟩ (.int .i64 ((n:Int)+1))):=((Only.refl (fun k=>k=w.heap.size) w1).setCell (p:=⟨w.heap.size,0,none⟩) (fun _=>rfl) _).setCell (p:=⟨w.heap.size,1,none⟩) (fun _=>rfl) _
   have HSA2:=hide (((uh HSA).kept ho1 (fun k hk e=>hKg (e ▸ hk))).kept hO2 (fun k hk e=>by have:=hKw k hk;omega))
   have HUP2:=hide (hup1.kept hO2 hgne)
   have HO2:=hide (((uh HO).trans ho1).transNew hO2 (fun i hi e=>absurd hi (by omega)))
   have HCA2:=hide hca2
   clear hup1 ho1 hca1 hca2 hO2 HB hc0 hc1 hf0 hf1
   go_wp2_with fail
   generalize (w1.setCell ⟨w.heap.size,0,none⟩ (.int .i64 (2*(v:Int)+(b:Int)))).setCell ⟨w.heap.size,1,none⟩ (.int .i64 ((n:Int)+1))=w2 at*
   refine (uh HSY _ (uh HSA2)).mono ?_
   rintro r w3 ⟨ho3,hcs⟩
   have HUP3:=hide ((uh HUP2).kept ho3 (fun x=>x))
   have HO3:=hide ((uh HO2).trans (Only.oldS ho3))
   have HCA3:Hid (CodeAt w3 w.heap.size (2*v+b) (n+1)):=(ho3.block w.heap.size (Array.getElem?_eq_some_iff.1 (uh HCA2)).1 (fun x=>x)).trans (uh HCA2)
   have HSA3:=hide ((uh HSA2).old ho3)
   clear ho3
   rcases hcs with ⟨k1,k2,rfl⟩|⟨k1,rfl⟩
   ·go_wp2_with fail
    go_ret2
    exact ⟨HO3,a' +1,by omega,HUP3,.inl ⟨_,by rw[uh HDE];exact uh HF k1 k2,rfl⟩⟩
   go_wp2_with fail
   go_roundw
   ·exact ⟨2*v+b,n+1,by omega,by omega,by rw[cell_of_row _ _ 0 _ _ (0,0) (uh HCA3)];rfl,by rw[cell_of_row _ _ 1 _ _ (0,0) (uh HCA3)];rfl,HCA3,HV2,HSA3,⟨a' +1,by omega,HUP3,by rw[uh HDE];exact uh HN k1⟩,HO3⟩
   rw[uh HM,cellN_of (show w3.cell? ⟨w.heap.size,1,none⟩=some (.int .i64 ((n+1:Nat):Int)) by rw[cell_of_row _ _ 1 _ _ (0,0) (uh HCA3)];rfl)];omega
  have HB:=hide (bitC_end g s hs a' o hat ha' wr hup)
  have HDE:=hide hde
  clear hup hde HST
  go_wp2_with (go_at_call 154;refine (uh HB).mono ?_;rintro r w1 ⟨rfl,hr1,ho1⟩;have HR1:=hide hr1;have HO1:=hide ho1;clear hr1 ho1)
  go_ret2
  exact ⟨(uh HO).trans (uh HO1),a',ha',HR1,.inr ⟨by rw[uh HDE];exact decGo_out (by omega) hat,rfl⟩⟩
 have hltI:¬(n:Int)<15:=by omega
 have hne:n=15:=by omega
 have HUP:=hide hup
 have HDE:=hide hde
 clear hup hde HST
 go_wp2_with fail
 go_ret2
 exact ⟨HO,a',ha',HUP,.inr ⟨by rw[uh HDE,hne];rfl,rfl⟩⟩
theorem lengthU(g:Nat)(s:ByteArray)(hs:s.size≤140737488355328)(a:Nat)(o:Value)(y:Nat)(ha:a≤8*s.size)(w:World)(h:Up w g s a o):
 Calls Tryz.prog 159 #[.pointer (some ⟨g,0,none⟩),.int .i64 y] w fun r w' =>Only (fun k=>k=g) w w' ∧ ∃a',a' ≤8*s.size∧Up w' g s a' o∧
  ((257≤y∧y≤285∧a+lenBits y≤8*s.size∧a' =a+lenBits y∧r=.returned (.tuple #[.int .i64 ((lenBase y+numAt s a (lenBits y):Nat):Int),.bool true]))∨
   (¬(257≤y∧y≤285∧a+lenBits y≤8*s.size)∧ ∃n:Int,r=.returned (.tuple #[.int .i64 n,.bool false]))):=by
 by_cases hy:257≤y∧y≤285
 ·have HLC:=hide (fun w1=>lengthC_ok y hy.1 hy.2 w1)
  have hb5:lenBits y≤5:=by unfold lenBits;repeat (first|split|omega)
  have hlb:=lenBase_le hy.2
  have HNC:=hide (numberC g s hs a o (lenBits y) (by omega) ha w h)
  have hnl:=numAt_lt s a (lenBits y)
  have hp:2^lenBits y≤2^5:=Nat.pow_le_pow_right (by omega) hb5
  have HY:=hide hy
  clear h hy
  generalize hbb:lenBits y=bb at*
  generalize lenBase y=lb at*
  clear hbb
  go_in
  go_wp2_with fail
  refine (uh HLC _).mono ?_
  rintro r w1 ⟨rfl,rfl⟩
  go_wp2_with fail
  refine (uh HNC).mono ?_
  rintro r w2 ⟨ho2,hcs⟩
  rcases hcs with ⟨k1,rfl,hup⟩|⟨k1,rfl,hup⟩
  ·have HUP:=hide hup
   have HO2:=hide ho2
   clear hup ho2
   generalize hvv:numAt s a bb=v at*
   have HVV:=hide hvv
   clear hvv
   go_wp2_with fail
   go_ret2
   exact ⟨HO2,a+bb,k1,HUP,.inl ⟨(uh HY).1,(uh HY).2,k1,rfl,by rw[Int.natCast_add,uh HVV];rfl⟩⟩
  have HUP:=hide hup
  have HO2:=hide ho2
  clear hup ho2
  go_wp2_with fail
  go_ret2
  exact ⟨HO2,8*s.size,Nat.le_refl _,HUP,.inr ⟨by omega,_,rfl⟩⟩
 have HLC:=hide (fun w1=>lengthC_no y hy w1)
 have HUP:=hide h
 clear h
 go_in
 go_wp2_with fail
 refine (uh HLC _).mono ?_
 rintro r w1 ⟨rfl,rfl⟩
 go_wp2_with fail
 go_ret2
 exact ⟨Only.refl _ _,a,ha,HUP,.inr ⟨by omega,_,rfl⟩⟩
def distS(s:ByteArray)(D:List Nat)(a:Nat):Option (Nat×Nat):=match dec s D a with
 |none=>none
 |some (d,a3)=>if 29<d then none else if 8*s.size<a3+dstBits d then none else some (dstBase d+numAt s a3 (dstBits d),a3+dstBits d)
theorem distanceU(g:Nat)(s:ByteArray)(hs:s.size≤140737488355328)(a:Nat)(o:Value)(ha:a≤8*s.size)(gs:Nat)(K:Nat→Prop)(hKg:¬K g)(D:List Nat)(hD:D.length≤400)(w:World)(hKw: ∀k,K k→k<w.heap.size)(h:Up w g s a o)(hS:SetAt w gs K D):
 Calls Tryz.prog 160 #[.pointer (some ⟨g,0,none⟩),.pointer (some ⟨gs,0,none⟩)] w fun r w' =>Only (fun k=>k=g) w w' ∧ ∃a',a' ≤8*s.size∧Up w' g s a' o∧
  ((∃f,f≤32769∧distS s D a=some (f,a')∧r=.returned (.tuple #[.int .i64 (f:Nat),.bool true]))∨(distS s D a=none∧ ∃n:Int,r=.returned (.tuple #[.int .i64 n,.bool false]))):=by
 have HSC:=hide (symbolC g s hs a o ha gs K hKg D hD w hKw h hS)
 clear h hS
 go_in
 go_wp2_with fail
 refine (uh HSC).mono ?_
 rintro r w1 ⟨ho1,a1,ha1,hup1,hcs⟩
 rcases hcs with ⟨d,hd,rfl⟩|⟨hd,rfl⟩
 ·have HD1:=hide hd
  have hd400:d<400:=by have:=(dec_lt hd).2.2;omega
  clear hd
  by_cases h29:29<d
  ·have HDC:=hide (fun w2=>distC_no d h29 w2)
   have HUP1:=hide hup1
   have HO1:=hide ho1
   clear hup1 ho1
   go_wp2_with fail
   refine (uh HDC _).mono ?_
   rintro r w2 ⟨rfl,rfl⟩
   go_wp2_with fail
   go_ret2
   exact ⟨HO1,a1,ha1,HUP1,.inr ⟨by unfold distS;rw[uh HD1];exact if_pos h29,_,rfl⟩⟩
  have HDC:=hide (fun w2=>distC_ok d (by omega) w2)
  have hdl:=dst_le (d:=d) (by omega)
  have hb13:dstBits d≤16:=by unfold dstBits;split<;>omega
  have HNC:=hide (numberC g s hs a1 o (dstBits d) hb13 ha1 w1 hup1)
  have hnl:=numAt_lt s a1 (dstBits d)
  have HDS:Hid (distS s D a=if 8*s.size<a1+dstBits d then none else some (dstBase d+numAt s a1 (dstBits d),a1+dstBits d)):=by unfold Hid distS;rw[uh HD1];exact if_neg h29
  have HO1:=hide ho1
  clear hup1 ho1 HD1
  generalize dstBits d=bb at*
  generalize dstBase d=db at*
  go_wp2_with fail
  refine (uh HDC _).mono ?_
  rintro r w2 ⟨rfl,rfl⟩
  go_wp2_with fail
  refine (uh HNC).mono ?_
  rintro r w3 ⟨ho3,hcs⟩
  have HO3:=hide ((uh HO1).trans ho3)
  clear ho3
  rcases hcs with ⟨k1,rfl,hup⟩|⟨k1,rfl,hup⟩
  ·have HUP:=hide hup
   clear hup
   generalize numAt s a1 bb=v at*
   go_wp2_with fail
   go_ret2
   exact ⟨HO3,a1+bb,k1,HUP,.inl ⟨db+v,by omega,by rw[uh HDS,if_neg (by omega)],by rw[Int.natCast_add];rfl⟩⟩
  have HUP:=hide hup
  clear hup
  go_wp2_with fail
  go_ret2
  exact ⟨HO3,8*s.size,Nat.le_refl _,HUP,.inr ⟨by rw[uh HDS,if_pos k1],_,rfl⟩⟩
 have HUP1:=hide hup1
 have HO1:=hide ho1
 have HD1:=hide hd
 clear hup1 ho1 hd
 go_wp2_with fail
 go_ret2
 exact ⟨HO1,a1,ha1,HUP1,.inr ⟨by unfold distS;rw[uh HD1],_,rfl⟩⟩
end Go.Proofs.YtfbgamknfommpaaGreatDoor
