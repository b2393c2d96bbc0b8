import Derived.Laws.ComplexArith
import Derived.Test.YtndfmgdhiallpaaGreatDoorMi
import Derived.Test.YtndfmgdhiallpaaGreatDoorMm
import Derived.Maps.OwnSet
import Derived.Deep.QuietTactic
import Derived.BigQuiet
import Derived.Test.YtndfmgdhiallpaaGreatDoorMf
set_option maxRecDepth 100000
set_option maxHeartbeats 2000000
namespace Go.Proofs.YtndfmgdhiallpaaGreatDoor
open Ieee
abbrev fN(n:Nat):Nat:=floatOfInt .f64 (n:Int)
theorem fN_zero:fN 0=0:=by decide
def sigN(n:Nat):Nat:=n*2^(52- n.log2)
theorem sigN_b{n:Nat}(h0:n≠0)(h:n<1048576):n.log2≤19∧2^52≤sigN n∧sigN n<2^53:=by
 have hl:n.log2<20:=(Nat.log2_lt h0).2 h
 have h1:=Nat.log2_self_le h0
 have h2:n<2^(n.log2+1):=Nat.lt_log2_self
 have e1:2^n.log2*2^(52- n.log2)=2^52:=by rw[←Nat.pow_add];congr 1;omega
 have e2:2^(n.log2+1)*2^(52- n.log2)=2^53:=by rw[←Nat.pow_add];congr 1;omega
 have hp:0<2^(52- n.log2):=Nat.pow_pos (by decide)
 refine ⟨by omega, ?_, ?_⟩
 ·rw[←e1];exact Nat.mul_le_mul_right _ h1
 rw[←e2];exact Nat.mul_lt_mul_of_pos_right h2 hp
theorem cut_none(way:Toward)(neg:Bool)(n:Nat):way.cut neg n 0=n:=by
 unfold Toward.cut
 simp[Nat.mod_one]
 cases way<;>simp
theorem fN_eq{n:Nat}(h0:n≠0)(h:n<1048576):fN n=(n.log2+1022)*2^52+sigN n:=by
 obtain ⟨hl,hb1,hb2⟩:=sigN_b h0 h
 have hd:decide ((n:Int)<0)=false:=by simp
 show double.nearest (decide ((n:Int)<0)) n 0=_
 rw[hd]
 unfold Format.nearest
 rw[if_neg h0]
 have hlast:max ((0:Int)+(n.log2:Int)- ((double.fractionBits:Nat):Int)) double.leastPlace=(n.log2:Int)- 52:=by
  rw[show double.fractionBits=52 from rfl,show double.leastPlace= -1074 from rfl];omega
 simp only[hlast]
 have e1:((0:Int)- ((n.log2:Int)- 52)).toNat=52- n.log2:=by omega
 have e2:(((n.log2:Int)- 52)- 0).toNat=0:=by omega
 have e3:(((n.log2:Int)- 52)- double.leastPlace).toNat=n.log2+1022:=by
  rw[show double.leastPlace= -1074 from rfl];omega
 rw[e1,e2,e3,cut_none,Nat.shiftLeft_eq,show double.binade=2^52 from rfl,show double.infRung=2047*2^52 from rfl]
 unfold Format.word
 rw[if_neg (by simp)]
 show min ((n.log2+1022)*2^52+sigN n) _=_
 omega
theorem read_fN{n:Nat}(h0:n≠0)(h:n<1048576):double.read (fN n)=.number false (sigN n) ((n.log2:Int)- 52):=by
 obtain ⟨hl,hb1,hb2⟩:=sigN_b h0 h
 rw[fN_eq h0 h]
 unfold Format.read
 rw[show double.signWeight=2^63 from rfl,show double.binade=2^52 from rfl,show double.infRung=2047*2^52 from rfl,show double.leastPlace= -1074 from rfl]
 generalize hL:n.log2=L at*
 generalize sigN n=s at*
 have hq:(L+1022)*2^52+s<2^63:=by omega
 have e0:((L+1022)*2^52+s)%2^63=(L+1022)*2^52+s:=Nat.mod_eq_of_lt hq
 have e1:((L+1022)*2^52+s)/2^63=0:=Nat.div_eq_of_lt hq
 simp only[e0,e1]
 rw[if_neg (by omega),if_pos (by omega)]
 have e2:((L+1022)*2^52+s)%2^52=s- 2^52:=by omega
 have e3:((L+1022)*2^52+s)/2^52- 1=L+1022:=by omega
 rw[e2,e3]
 rw[show 2^52+(s- 2^52)=s by omega,show ((-1074:Int)+((L+1022:Nat):Int))=(L:Int)- 52 by omega]
 rfl
theorem back_fN{n:Nat}(h:n<1048576):(FloatKind.f64.decode (fN n)).toInt .zero=some (n:Int):=by
 by_cases h0:n=0
 ·subst h0;decide
 obtain ⟨hl,hb1,hb2⟩:=sigN_b h0 h
 unfold FloatKind.decode
 rw[show FloatKind.f64.format=double from rfl,read_fN h0 h]
 unfold Datum.toInt Datum.integral
 simp only
 have e1:((n.log2:Int)- 52).toNat=0:=by omega
 have e2:(-((n.log2:Int)- 52)).toNat=52- n.log2:=by omega
 rw[e1,e2,Nat.shiftLeft_zero]
 have e3:Toward.zero.cut false (sigN n) (52- n.log2)=n:=by
  unfold Toward.cut
  simp only[Bool.toNat_false,Nat.add_zero]
  have hlg:(sigN n).log2=52:=by
   rw[Nat.log2_eq_iff (by omega)];omega
  rw[hlg,show min (52- n.log2) (52+2)=52- n.log2 by omega,Nat.shiftLeft_eq,Nat.one_mul]
  exact Nat.mul_div_cancel _ (Nat.pow_pos (by decide))
 rw[e3]
 simp[signed]
theorem cmp_lt{a b:Int}(h:a<b):compare a b=.lt:=by
 show compareOfLessAndEq a b=.lt
 unfold compareOfLessAndEq;rw[if_pos h]
theorem cmp_gt{a b:Int}(h:b<a):compare a b=.gt:=by
 show compareOfLessAndEq a b=.gt
 unfold compareOfLessAndEq;rw[if_neg (by omega),if_neg (by omega)]
theorem order_fN{n m:Nat}(hn:n<1048576)(hm:m<1048576):FloatKind.f64.format.order (fN n) (fN m)=some (compare n m):=by
 have key: ∀{n m:Nat},n≠0→m≠0→n<1048576→m<1048576→double.order (fN n) (fN m)=some (compare n m):=by
  intro n m n0 m0 hn hm
  obtain ⟨hl,_,_⟩:=sigN_b n0 hn
  obtain ⟨hl',_,_⟩:=sigN_b m0 hm
  unfold Format.order
  rw[read_fN n0 hn,read_fN m0 hm]
  unfold Datum.order
  simp only[signed,Bool.false_eq_true,if_false,Nat.shiftLeft_eq]
  have e1:sigN n*2^((n.log2:Int)- 52- min ((n.log2:Int)- 52) ((m.log2:Int)- 52)).toNat=n*2^(52- min n.log2 m.log2):=by
   unfold sigN
   rw[Nat.mul_assoc,←Nat.pow_add]
   congr 2
   omega
  have e2:sigN m*2^((m.log2:Int)- 52- min ((n.log2:Int)- 52) ((m.log2:Int)- 52)).toNat=m*2^(52- min n.log2 m.log2):=by
   unfold sigN
   rw[Nat.mul_assoc,←Nat.pow_add]
   congr 2
   omega
  rw[e1,e2]
  have hp:0<2^(52- min n.log2 m.log2):=Nat.pow_pos (by decide)
  generalize 2^(52- min n.log2 m.log2)=q at*
  congr 1
  rcases Nat.lt_trichotomy n m with h|h|h
  ·have h3:n*q<m*q:=Nat.mul_lt_mul_of_pos_right h hp
   rw[Nat.compare_eq_lt.2 h]
   exact cmp_lt (by exact_mod_cast h3)
  ·subst h
   rw[Nat.compare_eq_eq.2 rfl]
   simp
  have h3:m*q<n*q:=Nat.mul_lt_mul_of_pos_right h hp
  rw[Nat.compare_eq_gt.2 h]
  exact cmp_gt (by exact_mod_cast h3)
 rw[show FloatKind.f64.format=double from rfl]
 by_cases n0:n=0
 ·subst n0
  by_cases m0:m=0
  ·subst m0;decide
  obtain ⟨hl,hb1,_⟩:=sigN_b m0 hm
  unfold Format.order
  rw[read_fN m0 hm,fN_zero,show double.read 0=.number false 0 (-1074) from rfl]
  unfold Datum.order
  simp only[signed,Bool.false_eq_true,if_false,Nat.shiftLeft_eq,Nat.zero_mul]
  have hp:0<sigN m*2^((m.log2:Int)- 52- min (-1074) ((m.log2:Int)- 52)).toNat:=Nat.mul_pos (by omega) (Nat.pow_pos (by decide))
  rw[Nat.compare_eq_lt.2 (by omega)]
  congr 1
  exact cmp_lt (Int.ofNat_lt.2 hp)
 by_cases m0:m=0
 ·subst m0
  obtain ⟨hl,hb1,_⟩:=sigN_b n0 hn
  unfold Format.order
  rw[read_fN n0 hn,fN_zero,show double.read 0=.number false 0 (-1074) from rfl]
  unfold Datum.order
  simp only[signed,Bool.false_eq_true,if_false,Nat.shiftLeft_eq,Nat.zero_mul]
  have hp:0<sigN n*2^((n.log2:Int)- 52- min ((n.log2:Int)- 52) (-1074)).toNat:=Nat.mul_pos (by omega) (Nat.pow_pos (by decide))
  rw[Nat.compare_eq_gt.2 (by omega)]
  congr 1
  exact cmp_gt (Int.ofNat_lt.2 hp)
 exact key n0 m0 hn hm
theorem order_gt{n m:Nat}(hn:n<1048576)(hm:m<1048576):(FloatKind.f64.format.order (fN n) (fN m)==some Ordering.gt)=decide (m<n):=by
 rw[order_fN hn hm]
 rcases Nat.lt_trichotomy n m with h|h|h
 ·rw[Nat.compare_eq_lt.2 h,decide_eq_false (by omega)];rfl
 ·subst h;rw[Nat.compare_eq_eq.2 rfl,decide_eq_false (by omega)];rfl
 rw[Nat.compare_eq_gt.2 h,decide_eq_true h];rfl
section
variable {P:Program}
theorem run_gtr_float{n m:Nat}(hn:n<1048576)(hm:m<1048576)(t:TypeId)(W:World):(binOp .gtr t (.float .f64 (fN n)) (.float .f64 (fN m))).run P W=.ok (.bool (decide (m<n))) W:=by
 simp only[binOp,Op.floatCmp,order_fN hn hm,ne_eq,not_true_eq_false,if_false,Sem.run_pure]
 congr 2
 rcases Nat.lt_trichotomy n m with h|h|h
 ·rw[Nat.compare_eq_lt.2 h,decide_eq_false (by omega)];rfl
 ·subst h;rw[Nat.compare_eq_eq.2 rfl,decide_eq_false (by omega)];rfl
 rw[Nat.compare_eq_gt.2 h,decide_eq_true h];rfl
theorem eql_float{n:Nat}(hn:n<1048576)(W:World):(Op.Complex.cmp .eql .f64 (fN n) 0).run P W=.ok (decide (n=0)) W:=by
 have h:=order_fN hn (show 0<1048576 by omega)
 rw[fN_zero] at h
 have e:(compare n 0==Ordering.eq)=decide (n=0):=by
  by_cases h0:n=0
  ·subst h0;rfl
  rw[Nat.compare_eq_gt.2 (Nat.pos_of_ne_zero h0),decide_eq_false h0];rfl
 unfold Op.Complex.cmp Op.floatCmp
 rw[h]
 simp only[Sem.run_bind,Sem.run_pure,Result.andThen_ok,asBool]
 congr 1
theorem run_neq_complex{n m:Nat}(hn:n<1048576)(hm:m<1048576)(t:TypeId)(W:World):(binOp .neq t (.complex .f64 (fN n) (fN m)) (.complex .f64 0 0)).run P W=.ok (.bool (!(decide (n=0)&&decide (m=0)))) W:=by
 simp only[binOp,ne_eq,not_true_eq_false,if_false,Op.complexOp,Sem.run_bind,eql_float hn,eql_float hm,Result.andThen_ok,Sem.run_pure]
theorem run_int_float{n:Nat}(hn:n<1048576)(src dst:TypeId)(hs:(P.underlying src).isSome=true)(hd:P.underlying dst=some (.int .i64))(W:World):(convert src dst (.float .f64 (fN n))).run P W=.ok (.int .i64 (n:Int)) W:=by
 refine run_convert_float_int W src dst .f64 .i64 _ _ hs hd ?_
 unfold floatToIntVal
 rw[back_fN hn]
 have h1:IntKind.i64.min≤(n:Int):=by rw[show IntKind.i64.min= -9223372036854775808 from rfl];omega
 have h2:(n:Int)≤IntKind.i64.max:=by rw[show IntKind.i64.max=9223372036854775807 from rfl];omega
 simp only[h1,h2,and_self,if_true]
end
open Go.RowKit Go.Maps
abbrev fdT:TypeId:=255
abbrev mpT:TypeId:=138
theorem strKeyed:Keyed Tryz.prog 9:=string_keyed Tryz.underlying9
theorem zero3(w:World):(zeroValue 3).run Tryz.prog w=.ok (.int .i64 0) w:=by kernel_rfl
theorem key9(r:ByteArray)(h:r.size≤maxLen):keyOf Tryz.prog 9 (.string r)=some (.string r.data.toList):=WideMaps.keyOf_string_mk Tryz.underlying9 h
def MapOf(D:DataW Unit)(d:ByteArray)(n:Nat):Prop:=
 ∀r:ByteArray,r.size=3→has D (.string r.data.toList)=decide (lastN d r n≠0)∧ ∀q,lastN d r n=q+1→D.atKey (.string r.data.toList) (.lit (.int .i64 0))=.lit (.int .i64 (q:Int))
theorem MapOf.zero(d:ByteArray):MapOf (.map []) d 0:=fun r _=>⟨rfl,fun q h=>by cases h⟩
theorem keyL(s:List UInt8):WideAt.IsKeyLit (.string s):=trivial
theorem lit_ne{r r' :ByteArray}(h:r≠r'):(Lit.string r.data.toList)≠.string r'.data.toList:=by
 intro e
 injection e with e
 exact h (ByteArray.ext (Array.toList_inj.1 e))
theorem MapOf.next{D:DataW Unit}{d:ByteArray}{n:Nat}(h:MapOf D d n)(hD:IsMap D):MapOf (D.put (.string (row3 d n).data.toList) (.lit (.int .i64 (n:Int)))) d (n+1):=by
 intro r hr
 rw[lastN]
 by_cases e:row3 d n=r
 ·subst e
  rw[if_pos rfl,has_put_same hD (keyL _)]
  refine ⟨by simp,fun q hq=> ?_⟩
  rw[atKey_put_same hD (keyL _),show n=q by omega]
 have hne:=lit_ne (fun x:r=row3 d n=>e x.symm)
 rw[if_neg e,has_put_other hne]
 refine ⟨(h r hr).1,fun q hq=> ?_⟩
 rw[atKey_put_other hne]
 exact (h r hr).2 q hq
theorem MapOf.skip{D:DataW Unit}{d:ByteArray}{n:Nat}(h:MapOf D d n)(hn:¬n+3≤d.size):MapOf D d (n+1):=by
 intro r hr
 have e:lastN d r (n+1)=lastN d r n:=by
  rw[lastN,if_neg]
  intro e
  have:=row3_size d n
  rw[e,hr] at this
  omega
 rw[e]
 exact h r hr
def Fd(w:World)(g gm ge:Nat)(d:ByteArray)(n:Nat):Prop:=
 w.heap[g]? =some (.cells #[.string d,.map (some gm),.slice (some ⟨ge,0,none⟩) d.size d.size] fdT (0,0))∧
 (∃D:DataW Unit,w.ownsMap Tryz.prog 9 (plainElem Tryz.prog 3) gm n D∧MapOf D d n)∧
 ∃f:Nat→Int,Row w ge 3 d.size (fun j=> .int .i64 (f j))∧ ∀j,j<n→j+3≤d.size→f j=(lastN d (row3 d j) j:Int)- 1
section
variable {w:World} {g gm ge:Nat} {d:ByteArray} {n:Nat}
theorem Fd.lt(h:Fd w g gm ge d n):g<w.heap.size∧gm<w.heap.size∧ge<w.heap.size:=by
 obtain ⟨h1,⟨D,h2,_⟩,f,h3,_⟩:=h
 exact ⟨(Array.getElem?_eq_some_iff.1 h1).1,h2.lt,h3.lt⟩
theorem Fd.c0(h:Fd w g gm ge d n):w.cell? ⟨g,0,none⟩=some (.string d):=by rw[cell_of_row w g 0 _ _ (0,0) h.1];rfl
theorem Fd.c1(h:Fd w g gm ge d n):w.cell? ⟨g,1,none⟩=some (.map (some gm)):=by rw[cell_of_row w g 1 _ _ (0,0) h.1];rfl
theorem Fd.c2(h:Fd w g gm ge d n):w.cell? ⟨g,2,none⟩=some (.slice (some ⟨ge,0,none⟩) d.size d.size):=by rw[cell_of_row w g 2 _ _ (0,0) h.1];rfl
theorem Fd.ne(h:Fd w g gm ge d n):g≠ge∧g≠gm∧gm≠ge:=by
 obtain ⟨h1,⟨D,⟨es,clock,hm,_⟩,_⟩,f,⟨cur,h3,_⟩,_⟩:=h
 refine ⟨?_, ?_, ?_⟩
 ·rintro rfl;rw[h1] at h3;injection h3 with h3;injection h3 with _ h4;exact absurd h4 (by decide)
 ·rintro rfl;rw[h1] at hm;injection hm with hm;cases hm
 rintro rfl;rw[hm] at h3;injection h3 with h3;cases h3
theorem Fd.kept{S:Nat→Prop}{w' :World}(h:Fd w g gm ge d n)(ho:Only S w w')(h1:¬S g)(h2:¬S gm)(h3:¬S ge):Fd w' g gm ge d n:=by
 obtain ⟨l1,l2,l3⟩:=h.lt
 obtain ⟨e1,⟨D,⟨es,clock,hm,r⟩,hD⟩,f,hf,hv⟩:=h
 exact ⟨(ho.block g l1 h1).trans e1,⟨D,⟨es,clock,(ho.block gm l2 h2).trans hm,r⟩,hD⟩,f,hf.kept ho h3,hv⟩
theorem Fd.old{w' :World}(h:Fd w g gm ge d n)(ho:Old w w'):Fd w' g gm ge d n:=h.kept ho (fun x=>x) (fun x=>x) (fun x=>x)
end
theorem run_slice_row(d:ByteArray)(q:Nat)(h:q+3≤d.size)(W:World):(Instr.slice 9 (.string d) (some (.int .i64 (q:Int))) (some (.int .i64 ((q:Int)+3))) none).run Tryz.prog W=.ok (.string (d.extract q (q+3))) W:=by
 have hq:((q:Int)+3).toNat=q+3:=by omega
 have h1:(0:Int)≤(q:Int)+3∧(q:Int)+3≤(d.size:Int):=by omega
 have h2:(0:Int)≤(q:Int)∧(q:Int)≤((q+3:Nat):Int):=by omega
 simp only[Instr.slice,Sem.run_bind,run_underlying Tryz.underlying9,Result.andThen_ok,Instr.sliceBounds,Instr.sliceBound,asIntOf,Sem.run_pure,Option.isSome_none,Bool.false_eq_true,if_false,if_pos h1,hq,if_pos h2,Int.toNat_natCast]
def lastI(d:ByteArray)(q n:Nat):Int:=if d.size<q+3 then -1 else (lastN d (row3 d q) n:Int)- 1
theorem lastC(g gm ge:Nat)(d:ByteArray)(hd:d.size≤20000)(n q:Nat)(hq:q≤d.size)(w:World)(h:Fd w g gm ge d n):
 Calls Tryz.prog 227 #[.pointer (some ⟨g,0,none⟩),.int .i64 q] w fun r w' =>r=.returned (.int .i64 (lastI d q n))∧ ∃k,w' =w.drewN k:=by
 have hc0:=h.c0
 have hc1:=h.c1
 by_cases hs:d.size<q+3
 ·have hsI:(d.size:Int)- (q:Int)<3:=by omega
  have HR:Hid (lastI d q n= -1):=if_pos hs
  clear h
  go_in
  go_wp2_with fail
  go_ret
  exact ⟨by rw[uh HR];rfl,0,rfl⟩
 have hsI:¬(d.size:Int)- (q:Int)<3:=by omega
 obtain ⟨_,⟨D,hown,hmap⟩,_⟩:=h
 have hr3:(row3 d q).size=3:=by rw[row3_size];omega
 obtain ⟨hhas,hat⟩:=hmap (row3 d q) hr3
 have HR:Hid (lastI d q n=(lastN d (row3 d q) n:Int)- 1):=if_neg hs
 have hsl:=run_slice_row d q (by omega)
 have hw3:IntKind.i64.wrap ((q:Int)+3)=(q:Int)+3:=by rw[IntKind.wrap_i64];omega
 have hle:(q:Int)+3≤(d.size:Int):=by omega
 obtain ⟨c,hc⟩: ∃c:Int,D.atKey (.string (row3 d q).data.toList) (.lit (.int .i64 0))=.lit (.int .i64 c):=by
  obtain ⟨v,ps,_,hv⟩:=hown.look_ok strKeyed Tryz.underlying138 (zero3 _) (plainElem_int Tryz.underlying3 (by decide)) (key9 (row3 d q) (by rw[hr3];decide))
  obtain ⟨c,rfl,hc,_⟩:=plainElem_int_inv Tryz.underlying3 hv
  exact ⟨c,congrArg Prod.fst hc⟩
 have hlk: ∀k,(Instr.lookup mpT (.map (some gm)) (.string (d.extract q (q+3))) true).run Tryz.prog (w.drewN k)=.ok (.tuple #[.int .i64 c,.bool (decide (lastN d (row3 d q) n≠0))]) (w.drewN k):=by
  intro k
  have ho:(w.drewN k).ownsMap Tryz.prog 9 (plainElem Tryz.prog 3) gm n D:=hown
  obtain ⟨v,ps,hrun,hv⟩:=ho.look_ok strKeyed Tryz.underlying138 (zero3 _) (plainElem_int Tryz.underlying3 (by decide)) (key9 (row3 d q) (by rw[hr3];decide))
  obtain ⟨c',rfl,hc',_⟩:=plainElem_int_inv Tryz.underlying3 hv
  have h1:=congrArg Prod.fst hc'
  rw[hc] at h1
  injection h1 with h1
  injection h1 with _ h1
  rw[←hhas,h1]
  exact hrun
 have HC:Hid (∀p,lastN d (row3 d q) n=p+1→c=(p:Int)):=fun p hp=>by
  have:=hat p hp
  rw[hc] at this
  injection this with this
  injection this
 clear hown hmap hhas hat hc
 by_cases hl:lastN d (row3 d q) n=0
 ·rw[hl] at HR
  simp only[hl,ne_eq,not_true_eq_false,decide_false] at hlk
  go_in
  go_wp2_with fail
  go_quiet (fail)
  go_wp2_with fail
  go_ret
  exact ⟨by rw[uh HR];rfl,_,rfl⟩
 obtain ⟨p,hp⟩: ∃p,lastN d (row3 d q) n=p+1:=⟨lastN d (row3 d q) n- 1,by omega⟩
 simp only[hl,ne_eq,not_false_eq_true,decide_true] at hlk
 have hcp:=uh HC p hp
 subst hcp
 have HR2:Hid (lastI d q n=(p:Int)):=by unfold Hid;rw[uh HR,hp];omega
 clear HR HC hp hl
 go_in
 go_wp2_with fail
 go_quiet (fail)
 go_wp2_with fail
 go_ret
 exact ⟨by rw[uh HR2];rfl,_,rfl⟩
theorem sameN_done{d:ByteArray}{p q c:Nat}(hc:sameGo d p q c=c)(hm:c≤mostN d q)(h:¬c<mostN d q):sameN d p q=c:=by
 unfold sameN
 rw[show mostN d q=c by omega];exact hc
theorem sameN_stop{d:ByteArray}{p q c:Nat}(hc:sameGo d p q c=c)(hm:c≤mostN d q)(h:btN d (p+c)≠btN d (q+c)):sameN d p q=c:=sameGo_stop hc h _ hm
theorem sameGo_next{d:ByteArray}{p q c:Nat}(hc:sameGo d p q c=c)(h:btN d (p+c)=btN d (q+c)):sameGo d p q (c+1)=c+1:=by rw[sameGo,if_pos ⟨hc,h⟩]
theorem sameC(g:Nat)(d:ByteArray)(hd:d.size≤20000)(p q:Nat)(hp:p≤q)(hq:q≤d.size)(w:World)(hc:w.cell? ⟨g,0,none⟩=some (.string d)):
 Calls Tryz.prog 228 #[.pointer (some ⟨g,0,none⟩),.int .i64 p,.int .i64 q] w fun r w' =>r=.returned (.int .i64 (sameN d p q))∧ ∃k,w' =w.drewN k:=by
 have hmin:(if (d.size:Int)- (q:Int)<258 then (d.size:Int)- (q:Int) else 258)=((mostN d q:Nat):Int):=by unfold mostN;split<;>omega
 have hml:mostN d q≤258∧mostN d q+q≤d.size:=by unfold mostN;omega
 have HSD:=hide (fun (c:Nat) (h1:sameGo d p q c=c)=>sameN_done (d:=d) (p:=p) (q:=q) (c:=c) h1)
 have HSS:=hide (fun (c:Nat) (h1:sameGo d p q c=c)=>sameN_stop (d:=d) (p:=p) (q:=q) (c:=c) h1)
 obtain ⟨hm1,hm2⟩:=hml
 generalize mostN d q=m at*
 go_in
 go_wp2_with fail
 go_loopw [8] (fun x wr=> ∃c k:Nat,c≤m∧x=.int .i64 c∧wr=w.drewN k∧Hid (sameGo d p q c=c)) (fun x _=>m- (intOf x).toNat)
 ·exact ⟨0,0,by omega,rfl,rfl,rfl⟩
 obtain ⟨c,k,hcm,rfl,rfl,HS⟩:=hrel
 by_cases hlt:c<m
 ·have hltI:(c:Int)<(m:Int):=by omega
  have hb1:=btN_get (s:=d) (k:=p+c) (by omega)
  have hb2:=btN_get (s:=d) (k:=q+c) (by omega)
  have hpI:(p:Int)+(c:Int)<(d.size:Int):=by omega
  have hqI:(q:Int)+(c:Int)<(d.size:Int):=by omega
  have hp0:(0:Int)≤(p:Int)+(c:Int):=by omega
  have hq0:(0:Int)≤(q:Int)+(c:Int):=by omega
  have htp:((p:Int)+(c:Int)).toNat=p+c:=by omega
  have htq:((q:Int)+(c:Int)).toNat=q+c:=by omega
  by_cases he:btN d (p+c)=btN d (q+c)
  ·have HN:=hide (sameGo_next (uh HS) he)
   have heI:((btN d (p+c):Nat):Int)=((btN d (q+c):Nat):Int):=by rw[he]
   generalize btN d (p+c)=b1 at*
   generalize btN d (q+c)=b2 at*
   clear HSD HSS
   go_wp2_with fail
   go_quiet (fail)
   go_wp2_with fail
   go_roundw
   ·exact ⟨c+1,_,by omega,by go_num,rfl,HN⟩
   case measure=>simp[intOf];omega
  have HE:=hide (uh HSS c (uh HS) (by omega) he)
  have heI:¬((btN d (p+c):Nat):Int)=((btN d (q+c):Nat):Int):=by omega
  generalize btN d (p+c)=b1 at*
  generalize btN d (q+c)=b2 at*
  clear HSD HSS
  go_wp2_with fail
  go_quiet (fail)
  go_wp2_with fail
  go_ret
  exact ⟨by rw[uh HE];rfl,k+nq,by simp⟩
 have hltI:¬(c:Int)<(m:Int):=by omega
 have HE:=hide (uh HSD c (uh HS) (by omega) hlt)
 clear HSD HSS
 go_wp2_with fail
 go_quiet (fail)
 go_wp2_with fail
 go_ret
 exact ⟨by rw[uh HE];rfl,k+nq,by simp⟩
def OkF(d:ByteArray)(q f:Nat):Prop:=f=0∨(row3 d (f- 1)=row3 d q∧f- 1<q∧q+3≤d.size)
def OkB(d:ByteArray)(q:Nat)(b:Nat×Nat):Prop:=b=(0,0)∨Copy d q b
theorem okF_last(d:ByteArray)(q:Nat):OkF d q (lastAt d q):=by
 rcases Nat.eq_zero_or_pos (lastAt d q) with h|h
 ·exact .inl h
 obtain ⟨f,hf⟩: ∃f,lastAt d q=f+1:=⟨_,(Nat.succ_pred_eq_of_pos h).symm⟩
 have:=lastAt_row hf
 rw[hf];exact .inr this
theorem okF_next{d:ByteArray}{q f:Nat}(h:OkF d q (f+1)):OkF d q (lastN d (row3 d f) f):=by
 obtain ⟨hr,hl,hs⟩:row3 d f=row3 d q∧f<q∧q+3≤d.size:=by rcases h with h|h;cases h;exact h
 rcases Nat.eq_zero_or_pos (lastN d (row3 d f) f) with h0|h0
 ·exact .inl h0
 obtain ⟨p,hp⟩: ∃p,lastN d (row3 d f) f=p+1:=⟨_,(Nat.succ_pred_eq_of_pos h0).symm⟩
 have:=lastN_row hp
 rw[hp];exact .inr ⟨this.1.trans hr,by show p<q;omega,hs⟩
theorem okB_lt{d:ByteArray}{q:Nat}{b:Nat×Nat}(hd:d.size≤20000)(hq:q≤d.size)(h:OkB d q b):b.1<1048576∧b.2<1048576:=by
 rcases h with rfl|⟨_,h1,_,_,h2,_⟩
 ·exact ⟨by decide,by decide⟩
 exact ⟨by omega,by omega⟩
def bestN(d:ByteArray)(q f:Nat)(b:Nat×Nat):Nat×Nat:=if b.1<sameN d f q then (sameN d f q,q- f) else b
theorem okB_next{d:ByteArray}{q f:Nat}{b:Nat×Nat}(h:OkF d q (f+1))(hb:OkB d q b):OkB d q (bestN d q f b):=by
 obtain ⟨hr,hl,hs⟩:row3 d f=row3 d q∧f<q∧q+3≤d.size:=by rcases h with h|h;cases h;exact h
 unfold bestN
 split
 ·exact .inr (copy_same hr hl hs)
 exact hb
theorem bestGo_next(d:ByteArray)(q k f:Nat)(b:Nat×Nat):bestGo d q (k+1) (f+1) b=bestGo d q k (lastN d (row3 d f) f) (bestN d q f b):=by
 rw[bestGo,if_neg (by omega)];rfl
theorem bestGo_none(d:ByteArray)(q k:Nat)(b:Nat×Nat):bestGo d q k 0 b=b:=by cases k<;>rfl
theorem bestGo_zero(d:ByteArray)(q f:Nat)(b:Nat×Nat):bestGo d q 0 f b=b:=rfl
theorem longestC(g gm ge:Nat)(d:ByteArray)(hd:d.size≤20000)(q:Nat)(hq:q≤d.size)(w:World)(h:Fd w g gm ge d q):
 Calls Tryz.prog 138 #[.pointer (some ⟨g,0,none⟩),.int .i64 q] w fun r w' =>r=.returned (.complex .f64 (fN (longN d q).1) (fN (longN d q).2))∧ ∃k,w' =w.drewN k:=by
 have hc0:=h.c0
 have hc2:=h.c2
 have HL:=hide (lastC g gm ge d hd q q hq w h)
 have hli:lastI d q q=(lastAt d q:Int)- 1:=by unfold lastI lastAt;split<;>simp
 rw[hli] at HL
 have HOF:=hide (okF_last d q)
 have HLN:Hid (longN d q=bestGo d q 128 (lastAt d q) (0,0)):=rfl
 obtain ⟨_,_,f,hrow,hf⟩:=h
 have HCE:Hid (∀j,j<q→j+3≤d.size→w.cell? ⟨ge,j,none⟩=some (.int .i64 ((lastN d (row3 d j) j:Int)- 1))):=fun j h1 h2=>by
  have:=hrow.cell j (by omega)
  rw[this,hf j h1 h2]
 have HZ:Hid (fN 0=0):=fN_zero
 clear hrow hf hli
 generalize lastAt d q=f0 at*
 generalize longN d q=res at*
 have hf0:f0≤20001:=by rcases uh HOF with h|h<;>omega
 go_in
 go_wp2_with fail
 refine (uh HL).mono ?_
 rintro r w1 ⟨rfl,k1,rfl⟩
 clear HL
 go_wp2_with fail
 go_loopw [5,6,7,8] (fun b x t _ wr=> ∃(f k n:Nat) (bb:Nat×Nat),f≤20001∧k≤128∧b=.complex .f64 (fN bb.1) (fN bb.2)∧x=.int .i64 ((f:Int)- 1)∧t=.int .i64 k∧wr=w.drewN n∧Hid (OkF d q f∧OkB d q bb∧bestGo d q (128- k) f bb=res)) (fun _ _ t _ _=>128- (intOf t).toNat)
 ·exact ⟨f0,0,k1,(0,0),hf0,by omega,by rw[uh HZ],rfl,rfl,rfl,uh HOF,.inl rfl,(uh HLN).symm⟩
 obtain ⟨f,k,n,bb,hfl,hk,rfl,rfl,rfl,rfl,HS⟩:=hrel
 obtain ⟨hof,hob,hres⟩:=uh HS
 rcases Nat.eq_zero_or_pos f with h0|h0
 ·subst h0
  have hneg:¬(0:Int)≤((0:Nat):Int)- 1:=by omega
  have HR:Hid (bb=res):=by rw[bestGo_none] at hres;exact hres
  clear hres hof hob HS HLN HCE HOF
  go_wp2_with fail
  go_ret
  exact ⟨by rw[←uh HR];rfl,n,rfl⟩
 obtain ⟨p,rfl⟩: ∃p,f=p+1:=⟨f- 1,by omega⟩
 have e:((p+1:Nat):Int)- 1=(p:Int):=by omega
 rw[e]
 have hp0:(0:Int)≤(p:Int):=by omega
 by_cases hk2:k<128
 ·have hkI:(k:Int)<128:=by omega
  obtain ⟨hr,hpq,hs⟩:row3 d p=row3 d q∧p<q∧q+3≤d.size:=by rcases hof with h|h;cases h;exact h
  have HSM:=hide (sameC g d hd p q (by omega) hq (w.drewN n) hc0)
  have hce:w.cell? ⟨ge,p,none⟩=some (.int .i64 ((lastN d (row3 d p) p:Int)- 1)):=uh HCE p hpq (by omega)
  have HNX:Hid (OkF d q (lastN d (row3 d p) p)∧OkB d q (bestN d q p bb)∧bestGo d q (128- (k+1)) (lastN d (row3 d p) p) (bestN d q p bb)=res):=by
   refine ⟨okF_next hof,okB_next hof hob, ?_⟩
   rw[←bestGo_next,show 128- (k+1)+1=128- k by omega];exact hres
  have hfp:lastN d (row3 d p) p≤20001:=by have:=lastN_le d (row3 d p) p;omega
  have hsl:sameN d p q≤258:=by have:=sameGo_le d p q (mostN d q);unfold sameN mostN at*;omega
  have hfar:(q:Int)- (p:Int)=((q- p:Nat):Int):=by omega
  have hgt:=order_gt (n:=sameN d p q) (m:=bb.1) (by omega) (okB_lt hd hq hob).1
  have hBN:bestN d q p bb=if bb.1<sameN d p q then (sameN d p q,q- p) else bb:=rfl
  have hwf:IntKind.i64.wrap ((q- p:Nat):Int)=((q- p:Nat):Int):=i64_wrap_nat _ (by omega)
  have hpI:(p:Int)<(d.size:Int):=by omega
  generalize lastN d (row3 d p) p=f2 at*
  generalize sameN d p q=c at*
  generalize q- p=far at*
  clear hres hof hob HS HLN HCE HOF hr
  by_cases hb:bb.1<c
  ·rw[decide_eq_true hb] at hgt
   rw[if_pos hb] at hBN
   have HB:=hide hBN
   clear hBN
   go_wp2_with fail
   refine (uh HSM).mono ?_
   rintro r w2 ⟨rfl,k2,rfl⟩
   clear HSM
   go_wp2_with fail
   go_roundw
   ·exact ⟨f2,k+1,_,(c,far),hfp,by omega,rfl,rfl,by go_num,rfl,by rw[←uh HB];exact uh HNX⟩
   case measure=>simp[intOf];omega
  rw[decide_eq_false hb] at hgt
  rw[if_neg hb] at hBN
  have HB:=hide hBN
  clear hBN
  go_wp2_with fail
  refine (uh HSM).mono ?_
  rintro r w2 ⟨rfl,k2,rfl⟩
  clear HSM
  go_wp2_with fail
  go_roundw
  ·exact ⟨f2,k+1,_,bb,hfp,by omega,rfl,rfl,by go_num,rfl,by rw[←uh HB];exact uh HNX⟩
  case measure=>simp[intOf];omega
 have hkI:¬(k:Int)<128:=by omega
 have HR:Hid (bb=res):=by rw[show 128- k=0 by omega,bestGo_zero] at hres;exact hres
 clear hres hof hob HS HLN HCE HOF
 go_wp2_with fail
 go_ret
 exact ⟨by rw[←uh HR];rfl,n,rfl⟩
def FdR(w:World)(g gm ge:Nat)(d:ByteArray)(n:Nat):Prop:=
 w.heap[g]? =some (.cells #[.string d,.map (some gm),.slice (some ⟨ge,0,none⟩) d.size d.size] fdT (0,0))∧
 (∃D:DataW Unit,w.ownsMap Tryz.prog 9 (plainElem Tryz.prog 3) gm n D∧MapOf D d n)∧
 ∃f:Nat→Int,Row w ge 3 d.size (fun j=> .int .i64 (f j))∧ ∀j,j<n+1→j+3≤d.size→f j=(lastN d (row3 d j) j:Int)- 1
section
variable {w:World} {g gm ge:Nat} {d:ByteArray} {n:Nat}
theorem Fd.lay(h:Fd w g gm ge d n)(hn:n+3≤d.size):FdR (w.setCell ⟨ge,n,none⟩ (.int .i64 (lastI d n n))) g gm ge d n:=by
 obtain ⟨hne1,hne2,hne3⟩:=h.ne
 obtain ⟨h1,⟨D,h2,h3⟩,f,h4,h5⟩:=h
 refine ⟨(Below.heap_setCell _ _ _ _ hne1).trans h1,⟨D,h2.setCell (a:=⟨ge,n,none⟩) hne3 _,h3⟩,fun j=>if j=n then lastI d n n else f j, ?_,fun j hj hs=> ?_⟩
 ·refine (h4.set n (by omega) (.int .i64 (lastI d n n))).congr (fun j _=> ?_)
  by_cases e:j=n
  ·simp[e]
  simp[e]
 show (if j=n then lastI d n n else f j)=_
 by_cases e:j=n
 ·subst e;rw[if_pos rfl];unfold lastI;rw[if_neg (by omega)]
 rw[if_neg e];exact h5 j (by omega) hs
theorem FdR.c0(h:FdR w g gm ge d n):w.cell? ⟨g,0,none⟩=some (.string d):=by rw[cell_of_row w g 0 _ _ (0,0) h.1];rfl
theorem FdR.c1(h:FdR w g gm ge d n):w.cell? ⟨g,1,none⟩=some (.map (some gm)):=by rw[cell_of_row w g 1 _ _ (0,0) h.1];rfl
theorem FdR.store(h:FdR w g gm ge d n)(hn:n+3≤d.size)(hd:d.size≤20000): ∃w',(Instr.mapUpdate mpT (.map (some gm)) (.string (d.extract n (n+3))) (.int .i64 (n:Int))).run Tryz.prog w=.ok () w' ∧Only (fun k=>k=gm) w w' ∧Fd w' g gm ge d (n+1):=by
 obtain ⟨h1,⟨D,h2,h3⟩,f,h4,h5⟩:=h
 have hr3:(row3 d n).size=3:=by rw[row3_size];omega
 have hne1:g≠gm:=by
  rintro rfl
  obtain ⟨es,clock,hm,_⟩:=h2
  rw[h1] at hm;injection hm with hm;cases hm
 have hne2:ge≠gm:=by
  rintro rfl
  obtain ⟨es,clock,hm,_⟩:=h2
  obtain ⟨cur,hg,_⟩:=h4
  rw[hg] at hm;injection hm with hm;cases hm
 obtain ⟨w',hrun,ho,hg⟩:=h2.update strKeyed Tryz.underlying138 (by unfold maxLen;omega) (key9 (row3 d n) (by rw[hr3];decide)) (plainElem_int Tryz.underlying3 (a:=(n:Int)) (by
  have e1:IntKind.i64.min≤(n:Int):=by rw[show IntKind.i64.min= -9223372036854775808 from rfl];omega
  simp[Lit.wf,e1];omega))
 have hO:Only (fun k=>k=gm) w w' :=(Only.refl _ w).grown hg (fun k _ e=>(Option.some.inj e).symm)
 refine ⟨w',hrun,hO,(hO.block g (Array.getElem?_eq_some_iff.1 h1).1 hne1).trans h1,⟨_,ho,h3.next h2.isMap⟩,f,h4.kept hO hne2,h5⟩
theorem Fd.skips(h:Fd w g gm ge d n)(hn:¬n+3≤d.size){m:Nat}(hm:n≤m):Fd w g gm ge d m:=by
 obtain ⟨k,rfl⟩: ∃k,m=n+k:=⟨m- n,by omega⟩
 clear hm
 induction k with
 |zero=>exact h
 |succ k ih=>
  obtain ⟨h1,⟨D,h2,h3⟩,f,h4,h5⟩:=ih
  exact ⟨h1,⟨D,h2.mono (by omega),h3.skip (by omega)⟩,f,h4,fun j _ hs=>h5 j (by omega) hs⟩
end
theorem learnC(g gm ge:Nat)(d:ByteArray)(hd:d.size≤20000)(q cnt:Nat)(hq:q+cnt≤d.size)(w:World)(h:Fd w g gm ge d q):
 Calls Tryz.prog 141 #[.pointer (some ⟨g,0,none⟩),.int .i64 q,.int .i64 cnt] w fun r w' =>r=.returned (.tuple #[])∧Only (fun k=>k=gm∨k=ge) w w' ∧Fd w' g gm ge d (q+cnt):=by
 have HF:=hide h
 clear h
 go_in
 go_wp2_with fail
 go_loopw [6] (fun x wr=> ∃i:Nat,q≤i∧i≤q+cnt∧x=.int .i64 i∧wr.cell? ⟨g,0,none⟩=some (.string d)∧Hid (Fd wr g gm ge d i)∧Hid (Only (fun k=>k=gm∨k=ge) w wr)) (fun x _=>q+cnt- (intOf x).toNat)
 ·exact ⟨q,by omega,by omega,rfl,(uh HF).c0,HF,Only.refl _ w⟩
 obtain ⟨i,hqi,hic,rfl,hc0,HFI,HO⟩:=hrel
 by_cases hlt:i<q+cnt
 ·have hltI:(i:Int)<(q:Int)+(cnt:Int):=by omega
  by_cases h3:i+3≤d.size
  ·have h3I:(i:Int)+3≤(d.size:Int):=by omega
   have hc2:=(uh HFI).c2
   have HLC:=hide (fun k=>lastC g gm ge d hd i i (by omega) (wr.drewN k) (uh HFI))
   have hiI:(i:Int)<(d.size:Int):=by omega
   have hi0:(0:Int)≤(i:Int):=by omega
   have hfz:wr.frozen? ⟨ge,i,none⟩=false:=by obtain ⟨_,_,f,hrow,_⟩:=uh HFI;exact hrow.thaw i
   have hold: ∃v,wr.cell? ⟨ge,i,none⟩=some v:=by obtain ⟨_,_,f,hrow,_⟩:=uh HFI;exact ⟨_,hrow.cell i (by omega)⟩
   obtain ⟨v0,hv0⟩:=hold
   have HLY:=hide ((uh HFI).lay h3)
   have hsl:=run_slice_row d i h3
   go_upto_region 3 with fail
   have HSW:wr.drew.cell? ⟨g,2,none⟩=some (.slice (some ⟨ge,0,none⟩) d.size d.size)∧True∧True:=⟨hc2,trivial,trivial⟩
   refine wp_region_last (S:=fun W=>W.cell? ⟨g,2,none⟩=some (.slice (some ⟨ge,0,none⟩) d.size d.size)∧True∧True) (L:=9) (by kernel_rfl) ?_
   refine tk 0 10 (.pointer (some ⟨g,0,none⟩)) 25 HSW ?_
   refine tk 1 10 (.pointer (some ⟨g,0,none⟩)) 26 HSW ?_
   refine tk 2 10 (.pointer (some ⟨g,2,none⟩)) 27 HSW ?_
   refine tk 3 10 (.slice (some ⟨ge,0,none⟩) d.size d.size) 28 HSW ?_
   refine tk 4 10 (.int .i64 i) 29 HSW ?_
   refine tk 5 10 (.pointer (some ⟨g,0,none⟩)) 30 HSW ?_
   refine tk 6 10 (.int .i64 i) 31 HSW ?_
   refine wpAnyL_one (i:=7) (by kernel_rfl) ?_
   refine wpOp_step rfl (fun K' hK=> ?_)
   go_simp
   refine (uh HLC 1).mono ?_
   rintro r w1 ⟨rfl,k1,rfl⟩
   refine hK _ _ ⟨fun _=>⟨hc2,trivial,trivial⟩, ?_⟩
   clear hK
   refine tk 8 10 (.pointer (some ⟨ge,i,none⟩)) 33 ⟨hc2,trivial,trivial⟩ ?_
   refine wpAnyL_one (i:=9) (by kernel_rfl) ?_
   refine wpOp_step rfl (fun K' hK=> ?_)
   go_simp
   refine hK _ _ ⟨fun h=>absurd rfl h, ?_⟩
   clear hK
   refine wpAnyL_done (by kernel_rfl) ?_
   clear HSW
   go_upto_region 4 with fail
   have hfr:FdR ((wr.drewN (1+k1)).setCell ⟨ge,i,none⟩ (.int .i64 (lastI d i i))) g gm ge d i:=uh HLY
   have hoW:Only (fun k=>k=gm∨k=ge) w ((wr.drewN (1+k1)).setCell ⟨ge,i,none⟩ (.int .i64 (lastI d i i))):=((uh HO).drewN _).setCell (p:=⟨ge,i,none⟩) (fun _=> .inr rfl) _
   clear HLY HLC HFI HO hc0 hc2 hv0 hfz HF
   generalize (wr.drewN (1+k1)).setCell ⟨ge,i,none⟩ (.int .i64 (lastI d i i))=w4 at*
   obtain ⟨w5,hrun,ho5,hf5⟩:=FdR.store (w:=w4.drew) hfr h3 hd
   have HSW:w4.drew.cell? ⟨g,0,none⟩=some (.string d)∧w4.drew.cell? ⟨g,1,none⟩=some (.map (some gm))∧True:=⟨hfr.c0,hfr.c1,trivial⟩
   have HO5:Hid (Only (fun k=>k=gm∨k=ge) w w5):=hoW.drew.transNew ho5 (fun _ _ h=> .inl h)
   have HF5:=hide hf5
   have hc5:=hf5.c0
   have hw3:IntKind.i64.wrap ((i:Int)+3)=(i:Int)+3:=by rw[IntKind.wrap_i64];omega
   have HRUN:=hide hrun
   clear hrun ho5 hf5 hfr hoW
   refine wp_region_last (S:=fun W=>W.cell? ⟨g,0,none⟩=some (.string d)∧W.cell? ⟨g,1,none⟩=some (.map (some gm))∧True) (L:=13) (by kernel_rfl) ?_
   refine tk 0 14 (.pointer (some ⟨g,0,none⟩)) 34 HSW ?_
   refine tk 1 14 (.pointer (some ⟨g,0,none⟩)) 35 HSW ?_
   refine tk 2 14 (.pointer (some ⟨g,1,none⟩)) 36 HSW ?_
   refine tk 3 14 (.map (some gm)) 37 HSW ?_
   refine tk 4 14 (.pointer (some ⟨g,0,none⟩)) 38 HSW ?_
   refine tk 5 14 (.pointer (some ⟨g,0,none⟩)) 39 HSW ?_
   refine tk 6 14 (.pointer (some ⟨g,0,none⟩)) 40 HSW ?_
   refine tk 7 14 (.string d) 41 HSW ?_
   refine tk 8 14 (.int .i64 i) 42 HSW ?_
   refine tk 9 14 (.int .i64 i) 43 HSW ?_
   refine tk 10 14 (.int .i64 ((i:Int)+3)) 44 HSW ?_
   refine tk 11 14 (.string (d.extract i (i+3))) 45 HSW ?_
   refine tk 12 14 (.int .i64 i) 46 HSW ?_
   refine wpAnyL_one (i:=13) (by kernel_rfl) ?_
   refine wpOp_step rfl (fun K' hK=> ?_)
   have hrun:=uh HRUN
   go_simp
   refine hK _ _ ⟨fun h=>absurd rfl h, ?_⟩
   clear hK hrun
   refine wpAnyL_done (by kernel_rfl) ?_
   clear HSW HRUN
   go_wp2_with fail
   go_roundw
   ·exact ⟨i+1,by omega,by omega,by go_num,hc5,HF5,HO5⟩
   case measure=>simp[intOf];omega
  have h3I:¬(i:Int)+3≤(d.size:Int):=by omega
  have HE:=hide ((uh HFI).skips h3 hic)
  clear HFI HF
  go_wp2_with fail
  go_end0
  exact ⟨rfl,HO,HE⟩
 have hltI:¬(i:Int)<(q:Int)+(cnt:Int):=by omega
 have hie:i=q+cnt:=by omega
 have HE:Hid (Fd wr g gm ge d (q+cnt)):=by rw[←hie];exact HFI
 clear HFI HF hie
 go_wp2_with fail
 go_end0
 exact ⟨rfl,HO,HE⟩
end Go.Proofs.YtndfmgdhiallpaaGreatDoor
