import Derived.Test.YtfbgamknfommpaaGreatDoorChecked
import Derived.Test.YtfbgamknfommpaaGreatDoorMa
import Derived.Deep.QuietTactic
import Derived.BigQuiet
import Derived.BigRegion
import Derived.Deep.OwnRows
import Derived.Deep.RegionWith
import Derived.Deep.RegionHeld3
import Derived.Test.YtfbgamknfommpaaGreatDoorMb
import Derived.OrdersHeld
import Derived.Deep.CutRange
set_option maxRecDepth 100000
set_option maxHeartbeats 1000000
namespace Go.Proofs.YtfbgamknfommpaaGreatDoor
open Go.RowKit
theorem mask31{n:Nat}(h1:1≤n)(h2:n≤31):bits BinOp.and IntKind.u64 (IntKind.u64.wrap (-(n:Int))) 31=((32- n:Nat):Int):=by
 have e1:IntKind.u64.wrap (-(n:Int))=((18446744073709551616- n:Nat):Int):=by rw[IntKind.wrap_u64];omega
 have:=u64_and_nat (18446744073709551616- n) 31 (by omega) (by omega)
 rw[nat_mask5] at this
 rw[e1]
 refine this.trans ?_
 omega
theorem rotl_eq{v m n:Nat}(hv:v<4294967296)(hm:m+n=32):bits BinOp.or IntKind.u32 ((v*2^m%4294967296:Nat):Int) ((v/2^n:Nat):Int)=(rotr v n:Int):=by
 have h1:v*2^m%4294967296<4294967296:=Nat.mod_lt _ (by omega)
 have h2:v/2^n<4294967296:=Nat.lt_of_le_of_lt (Nat.div_le_self _ _) hv
 rw[u32_or_nat _ _ h1 h2,Nat.or_comm,show m=32- n by omega]
 rfl
theorem rotl_any(v n:Nat)(hv:v<4294967296)(h1:1≤n)(h2:n≤31)(w:World):
 Calls Tryz.prog 226 #[.int .u32 v,.int .i64 (-(n:Int))] w fun e w' =>e=.returned (.int .u32 (rotr v n))∧w' =w:=by
 have hmk:=mask31 h1 h2
 obtain ⟨m,hm⟩: ∃m,m+n=32:=⟨32- n,by omega⟩
 rw[show 32- n=m by omega] at hmk
 have hm1:1≤m:=by omega
 have hm2:m≤31:=by omega
 have HM:=hide hm
 clear hm
 go_in
 go_wp2
 go_ret
 refine ⟨ret1_eq (show Value.int .u32 (bits BinOp.or IntKind.u32 ((v:Int)*2^m%4294967296) ((v:Int)/2^(32- m)))=_ from ?_),rfl⟩
 have hmm:=uh HM
 have e1:(v:Int)*2^m%4294967296=((v*2^m%4294967296:Nat):Int):=by rw[Int.natCast_emod,Int.natCast_mul,Int.natCast_pow];rfl
 have e2:(v:Int)/2^n=((v/2^n:Nat):Int):=by rw[Int.natCast_ediv,Int.natCast_pow];rfl
 rw[show 32- m=n by omega,e1,e2,rotl_eq hv hmm]
theorem rotl_c(v n:Nat)(c:Int)(hc:c= -(n:Int))(hv:v<4294967296)(h1:1≤n)(h2:n≤31)(w:World):
 Calls Tryz.prog 226 #[.int .u32 v,.int .i64 c] w fun e w' =>e=.returned (.int .u32 (rotr v n))∧w' =w:=by
 subst hc;exact rotl_any v n hv h1 h2 w
theorem turnRight_c(v n:Nat)(c:Int)(hc:c=(n:Int))(hv:v<4294967296)(h1:1≤n)(h2:n≤31)(w:World):
 Calls Tryz.prog 220 #[.int .u32 v,.int .i64 c] w fun e w' =>e=.returned (.int .u32 (rotr v n))∧w' =w:=by
 subst hc
 go_in
 go_wp2_with fail
 refine (rotl_c v n _ (by omega) hv h1 h2 _).mono ?_
 rintro e w1 ⟨rfl,rfl⟩
 go_wp2
 go_ret
 exact ⟨rfl,rfl⟩
theorem sm0_u{a:Nat}(h:a<4294967296):bits BinOp.xor IntKind.u32 (bits BinOp.xor IntKind.u32 (rotr a 7) (rotr a 18)) ((a:Int)/8)=(sm0 a:Int):=by
 have h1:=rotr_lt 7 h;have h2:=rotr_lt 18 h
 rw[u32_xor_nat _ _ h1 h2]
 exact u32_xor_nat _ (a/8) (xor32 h1 h2) (by omega)
theorem sm1_u{a:Nat}(h:a<4294967296):bits BinOp.xor IntKind.u32 (bits BinOp.xor IntKind.u32 (rotr a 17) (rotr a 19)) ((a:Int)/1024)=(sm1 a:Int):=by
 have h1:=rotr_lt 17 h;have h2:=rotr_lt 19 h
 rw[u32_xor_nat _ _ h1 h2]
 exact u32_xor_nat _ (a/1024) (xor32 h1 h2) (by omega)
theorem bg0_u{a:Nat}(h:a<4294967296):bits BinOp.xor IntKind.u32 (bits BinOp.xor IntKind.u32 (rotr a 2) (rotr a 13)) (rotr a 22)=(bg0 a:Int):=by
 rw[u32_xor_nat _ _ (rotr_lt _ h) (rotr_lt _ h),u32_xor_nat _ _ (xor32 (rotr_lt _ h) (rotr_lt _ h)) (rotr_lt _ h)]
 rfl
theorem bg1_u{a:Nat}(h:a<4294967296):bits BinOp.xor IntKind.u32 (bits BinOp.xor IntKind.u32 (rotr a 6) (rotr a 11)) (rotr a 25)=(bg1 a:Int):=by
 rw[u32_xor_nat _ _ (rotr_lt _ h) (rotr_lt _ h),u32_xor_nat _ _ (xor32 (rotr_lt _ h) (rotr_lt _ h)) (rotr_lt _ h)]
 rfl
theorem chs_or{e:Nat}(f g:Nat)(h:e<4294967296):(e&&&f)|||((4294967295- e)&&&g)=chs e f g:=by
 unfold chs
 apply Nat.eq_of_testBit_eq
 intro i
 have hn:(4294967295- e).testBit i=(decide (i<32)&& !e.testBit i):=by
  rw[show 4294967295- e=2^32- (e+1) by omega];exact Nat.testBit_two_pow_sub_succ (by omega) i
 simp only[Nat.testBit_or,Nat.testBit_xor,Nat.testBit_and,hn]
 cases e.testBit i<;>cases f.testBit i<;>cases g.testBit i<;>cases decide (i<32)<;>rfl
theorem mjr_or(a b c:Nat):((a&&&b)|||(a&&&c))|||(b&&&c)=mjr a b c:=by
 unfold mjr
 apply Nat.eq_of_testBit_eq
 intro i
 simp only[Nat.testBit_or,Nat.testBit_xor,Nat.testBit_and]
 cases a.testBit i<;>cases b.testBit i<;>cases c.testBit i<;>rfl
theorem chs_u{e f g:Nat}(he:e<4294967296)(hf:f<4294967296)(hg:g<4294967296):
 bits BinOp.or IntKind.u32 (bits BinOp.and IntKind.u32 e f) (bits BinOp.and IntKind.u32 (bits BinOp.xor IntKind.u32 IntKind.u32.max e) g)=(chs e f g:Int):=by
 rw[u32_not he,u32_and_nat _ _ he hf,u32_and_nat _ _ (by omega) hg,u32_or_nat _ _ (and32 _ he) (and32 _ (by omega)),chs_or _ _ he]
theorem mjr_u{a b c:Nat}(ha:a<4294967296)(hb:b<4294967296)(hc:c<4294967296):
 bits BinOp.or IntKind.u32 (bits BinOp.or IntKind.u32 (bits BinOp.and IntKind.u32 a b) (bits BinOp.and IntKind.u32 a c)) (bits BinOp.and IntKind.u32 b c)=(mjr a b c:Int):=by
 rw[u32_and_nat _ _ ha hb,u32_and_nat _ _ ha hc,u32_and_nat _ _ hb hc,u32_or_nat _ _ (and32 _ ha) (and32 _ ha),u32_or_nat _ _ (or32 (and32 _ ha) (and32 _ ha)) (and32 _ hb),mjr_or]
theorem smallS0_any(v:Nat)(hv:v<4294967296)(w:World):Calls Tryz.prog 199 #[.int .u32 v] w fun e w' =>e=.returned (.int .u32 (sm0 v))∧w' =w:=by
 have hx:=sm0_u hv
 go_in
 go_wp2_with fail
 refine (turnRight_c v 7 7 rfl hv (by omega) (by omega) _).mono ?_
 rintro e w1 ⟨rfl,rfl⟩
 go_wp2_with fail
 refine (turnRight_c v 18 18 rfl hv (by omega) (by omega) _).mono ?_
 rintro e w1 ⟨rfl,rfl⟩
 go_wp2
 go_ret
 exact ⟨rfl,rfl⟩
theorem smallS1_any(v:Nat)(hv:v<4294967296)(w:World):Calls Tryz.prog 198 #[.int .u32 v] w fun e w' =>e=.returned (.int .u32 (sm1 v))∧w' =w:=by
 have hx:=sm1_u hv
 go_in
 go_wp2_with fail
 refine (turnRight_c v 17 17 rfl hv (by omega) (by omega) _).mono ?_
 rintro e w1 ⟨rfl,rfl⟩
 go_wp2_with fail
 refine (turnRight_c v 19 19 rfl hv (by omega) (by omega) _).mono ?_
 rintro e w1 ⟨rfl,rfl⟩
 go_wp2
 go_ret
 exact ⟨rfl,rfl⟩
theorem bigS0_any(v:Nat)(hv:v<4294967296)(w:World):Calls Tryz.prog 195 #[.int .u32 v] w fun e w' =>e=.returned (.int .u32 (bg0 v))∧w' =w:=by
 have hx:=bg0_u hv
 go_in
 go_wp2_with fail
 refine (turnRight_c v 2 2 rfl hv (by omega) (by omega) _).mono ?_
 rintro e w1 ⟨rfl,rfl⟩
 go_wp2_with fail
 refine (turnRight_c v 13 13 rfl hv (by omega) (by omega) _).mono ?_
 rintro e w1 ⟨rfl,rfl⟩
 go_wp2_with fail
 refine (turnRight_c v 22 22 rfl hv (by omega) (by omega) _).mono ?_
 rintro e w1 ⟨rfl,rfl⟩
 go_wp2
 go_ret
 exact ⟨rfl,rfl⟩
theorem bigS1_any(v:Nat)(hv:v<4294967296)(w:World):Calls Tryz.prog 193 #[.int .u32 v] w fun e w' =>e=.returned (.int .u32 (bg1 v))∧w' =w:=by
 have hx:=bg1_u hv
 go_in
 go_wp2_with fail
 refine (turnRight_c v 6 6 rfl hv (by omega) (by omega) _).mono ?_
 rintro e w1 ⟨rfl,rfl⟩
 go_wp2_with fail
 refine (turnRight_c v 11 11 rfl hv (by omega) (by omega) _).mono ?_
 rintro e w1 ⟨rfl,rfl⟩
 go_wp2_with fail
 refine (turnRight_c v 25 25 rfl hv (by omega) (by omega) _).mono ?_
 rintro e w1 ⟨rfl,rfl⟩
 go_wp2
 go_ret
 exact ⟨rfl,rfl⟩
theorem choice_any(e f g:Nat)(he:e<4294967296)(hf:f<4294967296)(hg:g<4294967296)(w:World):Calls Tryz.prog 194 #[.int .u32 e,.int .u32 f,.int .u32 g] w fun r w' =>r=.returned (.int .u32 (chs e f g))∧w' =w:=by
 have hx:=chs_u he hf hg
 go_in
 go_wp2
 go_ret
 exact ⟨rfl,rfl⟩
theorem majority_any(a b c:Nat)(ha:a<4294967296)(hb:b<4294967296)(hc:c<4294967296)(w:World):Calls Tryz.prog 196 #[.int .u32 a,.int .u32 b,.int .u32 c] w fun r w' =>r=.returned (.int .u32 (mjr a b c))∧w' =w:=by
 have hx:=mjr_u ha hb hc
 go_in
 go_wp2
 go_ret
 exact ⟨rfl,rfl⟩
open Go.RowKit Go.Maps
theorem or4{a b c d:Nat}(ha:a<256)(hb:b<256)(hc:c<256)(hd:d<256):
 bits BinOp.or IntKind.u32 (bits BinOp.or IntKind.u32 (bits BinOp.or IntKind.u32 ((a:Int)*16777216) ((b:Int)*65536)) ((c:Int)*256)) (d:Int)=((a*16777216+b*65536+c*256+d:Nat):Int):=by
 have e1:(a:Int)*16777216=((a*16777216:Nat):Int):=by omega
 have e2:(b:Int)*65536=((b*65536:Nat):Int):=by omega
 have e3:(c:Int)*256=((c*256:Nat):Int):=by omega
 rw[e1,e2,e3,u32_or_nat _ _ (by omega) (by omega),nat_join 24 (a*16777216) (b*65536) (by omega) (by omega),u32_or_nat _ _ (by omega) (by omega),
  nat_join 16 (a*16777216+b*65536) (c*256) (by omega) (by omega),u32_or_nat _ _ (by omega) (by omega),nat_join 8 (a*16777216+b*65536+c*256) d (by omega) (by omega)]
theorem wordAt_any(s:ByteArray)(k:Nat)(h:k+4≤s.size)(hs:s.size≤64)(w:World):
 Calls Tryz.prog 197 #[.string s,.int .i64 k] w fun e w' =>e=.returned (.int .u32 (wrd s k))∧ ∃m,w' =w.drewN m:=by
 have g0:(k:Int)<(s.size:Int):=by omega
 have g1:(k:Int)+1<(s.size:Int):=by omega
 have g2:(k:Int)+2<(s.size:Int):=by omega
 have g3:(k:Int)+3<(s.size:Int):=by omega
 have n0:(0:Int)≤(k:Int):=by omega
 have n1:(0:Int)≤(k:Int)+1:=by omega
 have n2:(0:Int)≤(k:Int)+2:=by omega
 have n3:(0:Int)≤(k:Int)+3:=by omega
 have t1:((k:Int)+1).toNat=k+1:=by omega
 have t2:((k:Int)+2).toNat=k+2:=by omega
 have t3:((k:Int)+3).toNat=k+3:=by omega
 have b0:=btN_get (s:=s) (k:=k) (by omega)
 have b1:=btN_get (s:=s) (k:=k+1) (by omega)
 have b2:=btN_get (s:=s) (k:=k+2) (by omega)
 have b3:=btN_get (s:=s) (k:=k+3) (by omega)
 have l0:=btN_lt s k
 have l1:=btN_lt s (k+1)
 have l2:=btN_lt s (k+2)
 have l3:=btN_lt s (k+3)
 go_in
 go_wp2_with fail
 go_quiet (fail)
 go_wp2
 go_ret
 have hx:=or4 l0 l1 l2 l3
 exact ⟨ret1_eq (show Value.int .u32 (bits BinOp.or IntKind.u32 (bits BinOp.or IntKind.u32 (bits BinOp.or IntKind.u32 ((btN s k:Int)*16777216) ((btN s (k+1):Int)*65536)) ((btN s (k+2):Int)*256)) (btN s (k+3):Int))=_ by rw[hx];rfl),_,rfl⟩
theorem keepOne{W:World}{g t i:Nat}{u v:Value}(h:W.cell? ⟨g,i,none⟩=some v)(hn:¬t=i):(W.setCell ⟨g,t,none⟩ u).drew.cell? ⟨g,i,none⟩=some v:=
 (World.cell?_setCell_other W ⟨g,t,none⟩ ⟨g,i,none⟩ u (by intro e;injection e;exact hn ‹_›)).trans h
theorem infoA64:(Tryz.prog.info? 141).map (·.size)=some 64:=by kernel_rfl
theorem arr_one(n:Nat)(f:Nat→Value)(h: ∀j,(f j).oneCell' =true):(arrF n f).all (·.oneCell')=true:=by
 rw[Array.all_eq_true_iff_forall_mem]
 intro v hv
 simp[arrF] at hv
 obtain ⟨j,_,rfl⟩:=hv
 exact h j
theorem u32sum4{a b c d n:Nat}(h:n=(a+b+c+d)%4294967296):Value.int .u32 (((((a:Int)+b)%4294967296+c)%4294967296+d)%4294967296)=.int .u32 (n:Int):=by
 rw[h];congr 1;omega
def wsU(s:ByteArray)(t j:Nat):Value:=if j<t then .int .u32 (wt s j) else .int .u32 0
theorem wsU_one(s:ByteArray)(t j:Nat):(wsU s t j).oneCell' =true:=by unfold wsU;split<;>rfl
theorem wsU_lt{s:ByteArray}{t j:Nat}(h:j<t):wsU s t j=.int .u32 (wt s j):=if_pos h
theorem wsU_step(s:ByteArray)(t:Nat): ∀j,j<64→(if j=t then Value.int .u32 (wt s t) else wsU s t j)=wsU s (t+1) j:=by
 intro j _
 unfold wsU
 by_cases h:j=t
 ·subst h;rw[if_pos rfl,if_pos (by omega)]
 rw[if_neg h]
 by_cases h2:j<t
 ·rw[if_pos h2,if_pos (by omega)]
 rw[if_neg h2,if_neg (by omega)]
theorem spread_any(s:ByteArray)(hs:s.size=64)(w:World):
 Calls Tryz.prog 152 #[.string s] w fun e w' =>e=.returned (.agg (arrF 64 (fun j=> .int .u32 (wt s j))))∧Old w w' :=by
 go_in
 go_wp2_with fail
 go_loopw [6] (fun i wr=> ∃t:Nat,t≤16∧i=.int .i64 t∧Hid (Arr wr (w.heap.size+1) 141 64 (wsU s t))∧Hid (Arr wr w.heap.size 141 64 (wsU s 0))∧Hid (Old w wr)) (fun i _=>16- (intOf i).toNat)
 ·refine ⟨0,by omega,rfl, ?_, ?_,((Only.refl _ w).alloc _).alloc _⟩
  ·refine hide (Arr.mk' (by simp) ?_)
   kernel_rfl
  refine hide ((Arr.mk' rfl ?_).alloc _)
  kernel_rfl
 obtain ⟨t,ht,rfl,HW,HZ,HO⟩:=hrel
 by_cases h16:t<16
 ·have HB:=hide (fun (w1:World)=>wordAt_any s (4*t) (by omega) (by omega) w1)
  rw[show ((4*t:Nat):Int)=4*(t:Int) by omega] at HB
  have hfr:=(uh HW).row.thaw
  have hce:=(uh HW).row.cell t (by omega)
  have HE:Hid (wrd s (4*t)=wt s t):=hide (wt_low s t h16).symm
  have ht64:(t:Int)<64:=by omega
  go_wp2_with (go_at_call 197;refine (uh HB _).mono ?_;rintro e w1 ⟨rfl,m,rfl⟩;rw[uh HE])
  go_roundw
  ·refine ⟨t+1,by omega,by go_num, ?_, ?_, ?_⟩
   ·exact (((uh HW).drewN m).set t _).congr (wsU_step s t)
   ·exact ((uh HZ).drewN m).setOther _ _ (by omega) _
   exact (((uh HO).drewN m).setCell (p:=⟨w.heap.size+1,t,none⟩) (fun h=>absurd (show w.heap.size+1<w.heap.size from h) (by omega)) _)
  case measure=>simp[intOf];omega
 have ht16:t=16:=by omega
 rw[ht16] at HW
 clear ht16
 go_wp2_with fail
 go_loopw [5] (fun i wr=> ∃t:Nat,16≤t∧t≤64∧i=.int .i64 t∧Hid (Arr wr (w.heap.size+1) 141 64 (wsU s t))∧Hid (Arr wr w.heap.size 141 64 (wsU s 0))∧Hid (Old w wr)) (fun i _=>64- (intOf i).toNat)
 ·exact ⟨16,by omega,by omega,rfl,HW,HZ,HO⟩
 obtain ⟨t,hl16,ht,rfl,HW,HZ,HO⟩:=hrel
 by_cases h64:t<64
 ·have hfr:=(uh HW).row.thaw
  have hce:=(uh HW).row.cell t h64
  have c1:=(uh HW).row.cell (t- 15) (by omega)
  have c14:=(uh HW).row.cell (t- 2) (by omega)
  have c9:=(uh HW).row.cell (t- 7) (by omega)
  have c0:=(uh HW).row.cell (t- 16) (by omega)
  rw[wsU_lt (by omega)] at c1 c14 c9 c0
  have i1:((t:Int)- 15).toNat=t- 15:=by omega
  have i2:((t:Int)- 2).toNat=t- 2:=by omega
  have i3:((t:Int)- 7).toNat=t- 7:=by omega
  have i4:((t:Int)- 16).toNat=t- 16:=by omega
  have n1:(0:Int)≤(t:Int)- 15:=by omega
  have n2:(0:Int)≤(t:Int)- 2:=by omega
  have n3:(0:Int)≤(t:Int)- 7:=by omega
  have n4:(0:Int)≤(t:Int)- 16:=by omega
  have w1:IntKind.i64.wrap ((t:Int)- 15)=(t:Int)- 15:=by rw[IntKind.wrap_i64];omega
  have w2:IntKind.i64.wrap ((t:Int)- 2)=(t:Int)- 2:=by rw[IntKind.wrap_i64];omega
  have w3:IntKind.i64.wrap ((t:Int)- 7)=(t:Int)- 7:=by rw[IntKind.wrap_i64];omega
  have w4:IntKind.i64.wrap ((t:Int)- 16)=(t:Int)- 16:=by rw[IntKind.wrap_i64];omega
  have p1:(15:Int)≤(t:Int):=by omega
  have p2:(2:Int)≤(t:Int):=by omega
  have p3:(7:Int)≤(t:Int):=by omega
  have p4:(16:Int)≤(t:Int):=by omega
  have m0:(t:Int)<64:=by omega
  have m1:(t:Int)- 15<64:=by omega
  have m2:(t:Int)- 2<64:=by omega
  have m3:(t:Int)- 7<64:=by omega
  have m4:(t:Int)- 16<64:=by omega
  have d1:¬t=t- 15:=by omega
  have d2:¬t=t- 2:=by omega
  have d3:¬t=t- 7:=by omega
  have d4:¬t=t- 16:=by omega
  have HF:=hide (wt_high s t (by omega))
  have b1:=wt_lt s (t- 15)
  have b14:=wt_lt s (t- 2)
  have b9:=wt_lt s (t- 7)
  have b0:=wt_lt s (t- 16)
  generalize wt s (t- 15)=a at c1 b1 HF
  generalize wt s (t- 2)=b at c14 b14 HF
  generalize wt s (t- 7)=c at c9 b9 HF
  generalize wt s (t- 16)=d at c0 b0 HF
  have l0:=sm0_lt b1
  have l1:=sm1_lt b14
  have HS0:=hide (fun (w1:World)=>smallS0_any a b1 w1)
  have HS1:=hide (fun (w1:World)=>smallS1_any b b14 w1)
  generalize sm0 a=A at HS0 l0 HF
  generalize sm1 b=B at HS1 l1 HF
  go_wp2_with fail
  go_region_held3 (fun w' =>w'.cell? ⟨w.heap.size+1,t- 2,none⟩=some (.int .u32 b)∧w'.cell? ⟨w.heap.size+1,t- 7,none⟩=some (.int .u32 c)∧w'.cell? ⟨w.heap.size+1,t- 15,none⟩=some (.int .u32 a)∧w'.cell? ⟨w.heap.size+1,t- 16,none⟩=some (.int .u32 d)) (first|exact ⟨keepOne c14 d2,keepOne c9 d3,keepOne c1 d1,keepOne c0 d4⟩|go_keep)
   (first
    |(go_at_call 198;refine (uh HS1 _).mono ?_;rintro e w1 ⟨rfl,rfl⟩)
    |(go_at_call 199;refine (uh HS0 _).mono ?_;rintro e w1 ⟨rfl,rfl⟩))
  go_wp2
  go_roundw
  ·refine ⟨t+1,by omega,by omega,by go_num, ?_, ?_, ?_⟩
   ·rw[u32sum4 (uh HF)];exact (((uh HW).set t _).drewN 1).congr (wsU_step s t)
   ·exact ((uh HZ).setOther _ _ (by omega) _).drewN 1
   exact (((uh HO).setCell (p:=⟨w.heap.size+1,t,none⟩) (fun h=>absurd (show w.heap.size+1<w.heap.size from h) (by omega)) _).drew)
  case measure=>simp[intOf];omega
 have ht64:t=64:=by omega
 rw[ht64] at HW
 clear ht64
 have hW:wr.heap[w.heap.size+1]? =some (.cells (arrF 64 (wsU s 64)) 141 (0,0)):=uh HW
 have hZ:wr.heap[w.heap.size]? =some (.cells (arrF 64 (wsU s 0)) 141 (0,0)):=uh HZ
 have hi:(Tryz.prog.info? 141).map (·.size)=some (arrF 64 (wsU s 64)).size:=by rw[arrF_size];exact infoA64
 have h1:(arrF 64 (wsU s 64)).all (·.oneCell')=true:=arr_one _ _ (wsU_one s 64)
 have HFin:Hid (arrF 64 (wsU s 64)=arrF 64 (fun j=> .int .u32 (wt s j))):=arrF_congr (fun j hj=>wsU_lt hj)
 have hsz:(arrF 64 (wsU s 0)).size=(arrF 64 (wsU s 64)).size:=by rw[arrF_size,arrF_size]
 generalize hA:arrF 64 (wsU s 64)=A at*
 have HH:=hide hA
 clear hA
 go_wp2_with (first
  |(refine wpList_load_row rfl 141 (.tmp 3) rfl (w.heap.size+1) rfl 141 A (0,0) _ hW Tryz.underlying141 rfl hi ?_)
  |(refine wpList_store_row rfl 141 (.tmp 2) (.tmp 43) rfl w.heap.size A rfl rfl 141 _ hZ hi hsz h1 ?_))
 refine bodyPost_ret (v:=.agg A) (results_cell_row Tryz.results152 _ _ w.heap.size 141 A (0,0) _ rfl (setRow_heap wr w.heap.size _ A _ _ hZ) Tryz.underlying141 rfl hi) rfl ⟨?_, ?_⟩
 ·rw[uh HFin]
 exact (uh HO).setRow _ (fun h=>absurd h (Nat.lt_irrefl _)) _
def u8A(x:E8):Array Value:=arrF 8 (fun j=> .int .u32 (x.nth j))
def u64A(f:Nat→Nat):Array Value:=arrF 64 (fun j=> .int .u32 (f j))
theorem quiet_same{P:Program}{f:FuncId}{args:Array Value}{w:World}{k n:Nat}{v:Value}
 (h:Calls P f args (w.drewN (k+n)) fun e w' =>e=.returned v∧w' =w.drewN (k+n)):Calls P f args (w.drewN (k+n)) fun e w'' =>e=.returned v∧ ∃m,w'' =w.drewN (k+m):=
 h.mono fun _ _ ⟨he,hm⟩=>⟨he,n,hm⟩
theorem infoA8:(Tryz.prog.info? 109).map (·.size)=some 8:=by kernel_rfl
theorem ints8(a b c d e f g h:Int):(#[.int .u32 a,.int .u32 b,.int .u32 c,.int .u32 d,.int .u32 e,.int .u32 f,.int .u32 g,.int .u32 h]:Array Value).all (·.oneCell')=true:=by
 rw[Array.all_eq_true_iff_forall_mem]
 intro v hv
 simp at hv
 rcases hv with rfl|rfl|rfl|rfl|rfl|rfl|rfl|rfl<;>rfl
def plus8(x y:E8):Array Value:= #[.int .u32 (((x.a:Int)+y.a)%4294967296),.int .u32 (((x.b:Int)+y.b)%4294967296),.int .u32 (((x.c:Int)+y.c)%4294967296),.int .u32 (((x.d:Int)+y.d)%4294967296),.int .u32 (((x.e:Int)+y.e)%4294967296),.int .u32 (((x.f:Int)+y.f)%4294967296),.int .u32 (((x.g:Int)+y.g)%4294967296),.int .u32 (((x.h:Int)+y.h)%4294967296)]
theorem plus1(a b:Nat):((a:Int)+b)%4294967296=(((b+a)%4294967296:Nat):Int):=by omega
theorem plus8_eq(x y:E8):plus8 x y=u8A (y.plus x):=by
 unfold plus8
 rw[plus1,plus1,plus1,plus1,plus1,plus1,plus1,plus1]
 rfl
theorem compress_start(x:E8)(kf wf:Nat→Nat)(w:World)(z:Array Value)(t8 t64:TypeId):
 Arr ((((w.alloc (.cells (u8A x) t8)).alloc (.cells (u64A kf) t64)).alloc (.cells (u64A wf) t64)).alloc (.cells z t8)) w.heap.size t8 8 (fun j=> .int .u32 (x.nth j))∧
 Arr ((((w.alloc (.cells (u8A x) t8)).alloc (.cells (u64A kf) t64)).alloc (.cells (u64A wf) t64)).alloc (.cells z t8)) (w.heap.size+1) t64 64 (fun j=> .int .u32 (kf j))∧
 Arr ((((w.alloc (.cells (u8A x) t8)).alloc (.cells (u64A kf) t64)).alloc (.cells (u64A wf) t64)).alloc (.cells z t8)) (w.heap.size+2) t64 64 (fun j=> .int .u32 (wf j))∧
 ((((w.alloc (.cells (u8A x) t8)).alloc (.cells (u64A kf) t64)).alloc (.cells (u64A wf) t64)).alloc (.cells z t8)).heap[w.heap.size+3]? =some (.cells z t8 (0,0))∧
 Old w ((((w.alloc (.cells (u8A x) t8)).alloc (.cells (u64A kf) t64)).alloc (.cells (u64A wf) t64)).alloc (.cells z t8)):=by
 refine ⟨(((Arr.mk' rfl rfl).alloc _).alloc _).alloc _,((Arr.mk' (by simp) rfl).alloc _).alloc _,(Arr.mk' (by simp) rfl).alloc _, ?_,((((Only.refl _ w).alloc _).alloc _).alloc _).alloc _⟩
 have:=Go.heap_alloc_new (((w.alloc (.cells (u8A x) t8)).alloc (.cells (u64A kf) t64)).alloc (.cells (u64A wf) t64)) (.cells z t8)
 simpa using this
theorem compress_any(x:E8)(hx:x.ok)(kf wf:Nat→Nat)(hk: ∀j,kf j<4294967296)(hw: ∀j,wf j<4294967296)(w:World):
 Calls Tryz.prog 151 #[.agg (u8A x),.agg (u64A kf),.agg (u64A wf)] w fun e w' =>e=.returned (.agg (u8A ((rounds kf wf 64 x).plus x)))∧Old w w' :=by
 go_in
 go_wp2_with fail
 obtain ⟨hA,hK,hW,hZ,hO⟩:=compress_start x kf wf w #[.int .u32 0,.int .u32 0,.int .u32 0,.int .u32 0,.int .u32 0,.int .u32 0,.int .u32 0,.int .u32 0] 109 141
 generalize (((w.alloc (.cells (u8A x) 109)).alloc (.cells (u64A kf) 141)).alloc (.cells (u64A wf) 141)).alloc (.cells #[.int .u32 0,.int .u32 0,.int .u32 0,.int .u32 0,.int .u32 0,.int .u32 0,.int .u32 0,.int .u32 0] 109)=W at*
 have s0:W.cell? ⟨w.heap.size,0,none⟩=some (.int .u32 x.a):=hA.row.cell 0 (by omega)
 have s1:W.cell? ⟨w.heap.size,1,none⟩=some (.int .u32 x.b):=hA.row.cell 1 (by omega)
 have s2:W.cell? ⟨w.heap.size,2,none⟩=some (.int .u32 x.c):=hA.row.cell 2 (by omega)
 have s3:W.cell? ⟨w.heap.size,3,none⟩=some (.int .u32 x.d):=hA.row.cell 3 (by omega)
 have s4:W.cell? ⟨w.heap.size,4,none⟩=some (.int .u32 x.e):=hA.row.cell 4 (by omega)
 have s5:W.cell? ⟨w.heap.size,5,none⟩=some (.int .u32 x.f):=hA.row.cell 5 (by omega)
 have s6:W.cell? ⟨w.heap.size,6,none⟩=some (.int .u32 x.g):=hA.row.cell 6 (by omega)
 have s7:W.cell? ⟨w.heap.size,7,none⟩=some (.int .u32 x.h):=hA.row.cell 7 (by omega)
 have HK:=hide hK
 have HW:=hide hW
 have HZ:=hide hZ
 have HO:=hide hO
 clear hA hK hW hZ hO
 go_quiet (fail)
 go_wp2_with fail
 go_quiet (fail)
 go_wp2_with fail
 go_loopw [7,8,9,10,11,12,13,14,34] (fun a b c d e f g h i wr=> ∃t n:Nat,t≤64∧i=.int .i64 t∧wr=W.drewN n∧a=.int .u32 (rounds kf wf t x).a∧b=.int .u32 (rounds kf wf t x).b∧c=.int .u32 (rounds kf wf t x).c∧d=.int .u32 (rounds kf wf t x).d∧e=.int .u32 (rounds kf wf t x).e∧f=.int .u32 (rounds kf wf t x).f∧g=.int .u32 (rounds kf wf t x).g∧h=.int .u32 (rounds kf wf t x).h) (fun _ _ _ _ _ _ _ _ i _=>64- (intOf i).toNat)
 ·exact ⟨0,_,by omega,rfl,(by first|rfl|exact World.drewN_drewN ..),rfl,rfl,rfl,rfl,rfl,rfl,rfl,rfl⟩
 obtain ⟨t,n,ht,rfl,rfl,rfl,rfl,rfl,rfl,rfl,rfl,rfl,rfl⟩:=hrel
 by_cases h64:t<64
 ·have HRD:Hid (rounds kf wf (t+1) x=(rounds kf wf t x).round (kf t) (wf t)):=rfl
  have hok:=rounds_ok kf wf t hx
  have bk:=hk t
  have bw:=hw t
  have ck:=(uh HK).row.cell t h64
  have cw:=(uh HW).row.cell t h64
  have ht0:(0:Int)≤(t:Int):=by omega
  have ht1:(t:Int)<64:=by omega
  generalize rounds kf wf t x=y at HRD hok ⊢
  obtain ⟨a,b,c,d,e,f,g,h⟩:=y
  obtain ⟨ba,bb,bc,bd,be,bf,bg,bh⟩:=hok
  simp only at ba bb bc bd be bf bg bh
  have l0:=bg0_lt ba
  have l1:=bg1_lt be
  have lc:=chs_lt (f:=f) (g:=g) be
  have lm:=mjr_lt (c:=c) ba bb
  have HS1:=hide (fun (w1:World)=>bigS1_any e be w1)
  have HS0:=hide (fun (w1:World)=>bigS0_any a ba w1)
  have HCH:=hide (fun (w1:World)=>choice_any e f g be bf bg w1)
  have HMJ:=hide (fun (w1:World)=>majority_any a b c ba bb bc w1)
  have HR2:Hid (rounds kf wf (t+1) x=⟨(h+bg1 e+chs e f g+kf t+wf t+(bg0 a+mjr a b c))%4294967296,a,b,c,(d+(h+bg1 e+chs e f g+kf t+wf t))%4294967296,e,f,g⟩):=uh HRD
  clear HRD
  generalize chs e f g=CH at HCH lc HR2
  generalize mjr a b c=MJ at HMJ lm HR2
  generalize bg0 a=B0 at HS0 l0 HR2
  generalize bg1 e=B1 at HS1 l1 HR2
  generalize kf t=kt at ck bk HR2
  generalize wf t=wtt at cw bw HR2
  go_wp2_with fail
  go_quiet (first
   |(go_at_call 193;exact quiet_same (uh HS1 _))
   |(go_at_call 194;exact quiet_same (uh HCH _)))
  go_wp2_with (first
   |(go_at_call 195;refine (uh HS0 _).mono ?_;rintro e w1 ⟨rfl,rfl⟩)
   |(go_at_call 196;refine (uh HMJ _).mono ?_;rintro e w1 ⟨rfl,rfl⟩))
  go_roundw
  ·refine ⟨t+1,n+nq,by omega,by go_num,rfl, ?_, ?_, ?_, ?_, ?_, ?_, ?_, ?_⟩<;>rw[uh HR2]
   ·exact congrArg (Value.int .u32) (by show _=(((h+B1+CH+kt+wtt+(B0+MJ))%4294967296:Nat):Int);omega)
   exact congrArg (Value.int .u32) (by show _=(((d+(h+B1+CH+kt+wtt))%4294967296:Nat):Int);omega)
  case measure=>simp[intOf];omega
 have ht64:t=64:=by omega
 have hZ:(W.drewN n).heap[w.heap.size+3]? =some (.cells #[.int .u32 0,.int .u32 0,.int .u32 0,.int .u32 0,.int .u32 0,.int .u32 0,.int .u32 0,.int .u32 0] 109 (0,0)):=uh HZ
 have HY:Hid ((rounds kf wf 64 x)=rounds kf wf t x):=by rw[ht64];rfl
 clear HZ HK HW ht64
 generalize rounds kf wf t x=y at HY ⊢
 go_wp2_with (refine wpList_store_row rfl 109 (.tmp 6) (.tmp 106) rfl (w.heap.size+3) _ rfl rfl 109 _ hZ infoA8 rfl (ints8 _ _ _ _ _ _ _ _) ?_)
 refine bodyPost_ret (v:=.agg (plus8 x y)) (results_cell_row Tryz.results151 _ _ (w.heap.size+3) 109 (plus8 x y) (0,0) _ rfl (setRow_heap (W.drewN n) (w.heap.size+3) _ (plus8 x y) _ _ hZ) Tryz.underlying109 rfl infoA8) rfl ⟨?_, ?_⟩
 ·rw[plus8_eq,uh HY]
 exact ((uh HO).drewN n).setRow _ (fun h=>absurd h (by omega)) _
def dgt(n j:Nat):Nat:=n/2^(28- 4*j)%16
theorem dgt_lt(n j:Nat):dgt n j<16:=Nat.mod_lt _ (by omega)
theorem dgt_u{n sh j:Nat}(hn:n<4294967296)(h:sh+4*j=28):bits BinOp.and IntKind.u32 ((n:Int)/2^sh) 15=(dgt n j:Int):=by
 have e:(n:Int)/2^sh=((n/2^sh:Nat):Int):=by rw[Int.natCast_ediv,Int.natCast_pow];rfl
 have hl:n/2^sh<4294967296:=Nat.lt_of_le_of_lt (Nat.div_le_self _ _) hn
 have:=u32_and_nat (n/2^sh) 15 hl (by omega)
 rw[nat_mask4] at this
 rw[e]
 refine this.trans ?_
 rw[dgt,show 28- 4*j=sh by omega]
def digB(d:Nat):Nat:=btN digits16 d
def digL(x:E8)(k:Nat):List UInt8:=(List.range k).map fun q=>b8 (digB (dgt (x.nth (q/8)) (q%8)))
theorem digL_len(x:E8)(k:Nat):(digL x k).length=k:=by simp[digL]
theorem digL_succ(x:E8)(k:Nat):digL x (k+1)=digL x k++[b8 (digB (dgt (x.nth (k/8)) (k%8)))]:=by simp[digL,List.range_succ]
theorem infoByte:(Tryz.prog.info? 5).map (fun i=>(i.zero,i.size,i.bytes))=some (some (.int .u8 0),1,1):=by kernel_rfl
theorem infoU32:(Tryz.prog.info? 77).map (fun i=>(i.zero,i.size,i.bytes))=some (some (.int .u32 0),1,4):=by kernel_rfl
theorem run_idx8(x:E8)(k:Nat)(hk:k<8)(W:World):(Instr.index 109 (.agg (u8A x)) (.int .i64 (k:Int))).run Tryz.prog W=.ok (.int .u32 (x.nth k)) W:=by
 obtain ⟨i0,hi0,hz0,hz1,hz2⟩:=info_parts infoU32
 have hA:(u8A x)[k]? =some (.int .u32 (x.nth k)):=arrF_get 8 _ k hk
 simp[Instr.index,run_underlying Tryz.underlying109,run_underlying Tryz.underlying77,isAgg,asIntOf,part,sizeOf,typeInfo,hi0,hz1,hA,hk,go_sem]
theorem byte_new{wr:World}{n:Nat}: ∀j u,[Value.int .u8 (n:Int)][j]? =some u→(wr.alloc (.cells #[.int .u8 (n:Int)] 5)).cell? ((⟨wr.heap.size,0,none⟩:Addr).add j)=some u:=by
 intro j u hu
 rw[Addr.add_lit,Nat.zero_add,cell_of_row _ _ j _ 5 (0,0) (Go.heap_alloc_new wr _)]
 simpa using hu
theorem inHex_any(x:E8)(hx:x.ok)(w:World):
 Calls Tryz.prog 67 #[.agg (u8A x)] w fun e w' =>e=.returned (.string ⟨(digL x 64).toArray⟩)∧Old w w' :=by
 obtain ⟨i0,hi0,hz0,hz1,hz2⟩:=info_parts infoByte
 have hA: ∀i,i<8→(u8A x)[i]? =some (.int .u32 (x.nth i)):=fun i hi=>arrF_get 8 _ i hi
 have HA:=hide hA
 have hld:(w.alloc (.cells (u8A x) 109)).heap[w.heap.size]? =some (.cells (u8A x) 109 (0,0)):=Go.heap_alloc_new w _
 clear hA
 go_in
 go_wp2_with (first
  |(at_make;refine wpList_make_own _ rfl (.const (.int .i64 0)) (.const (.int .i64 64)) 64 rfl (w.heap.size+1) 5 i0 (.int .u8 0) 1 Tryz.underlying64 hi0 hz0 hz1 .i64 .i64 64 64 rfl rfl rfl (by rw[hz2];omega) (by unfold maxLen;omega) (by simp) ?_;intro w1 ho1 hg1;have hl1:w1.heap[w.heap.size]? =some (.cells (u8A x) 109 (0,0)):=(hg1.block w.heap.size (by simp) (by intro e;cases e)).trans hld;have HO1:=hide ho1;have HOld:=hide (((Only.refl (fun _=>False) w).alloc (.cells (u8A x) 109)).grown hg1 (fun k _ e=>by cases e));clear ho1 hg1)
  |(refine wpList_load_row rfl 109 (.tmp 1) rfl w.heap.size rfl 109 (u8A x) (0,0) _ hl1 Tryz.underlying109 rfl infoA8 ?_))
 go_loopw [3,9] (fun v i wr=> ∃k:Nat,k≤8∧i=.int .i64 k∧v=.slice (some ⟨w.heap.size+1,0,none⟩) (8*k) 64∧Hid (wr.ownsRow (w.heap.size+1) 5 1 (.slice (some ⟨w.heap.size+1,0,none⟩) (8*k) 64) (8*k) (byteCells8 (digL x (8*k))))∧Hid (Old w wr)) (fun _ i _=>8- (intOf i).toNat)
 ·exact ⟨0,by omega,rfl,by simp,(show w1.ownsRow _ _ _ _ _ _ by simpa [digL,byteCells8] using uh HO1),HOld⟩
 obtain ⟨k,hk,rfl,rfl,HR,HQ⟩:=hrel
 by_cases h8:k<8
 ·have hix:=run_idx8 x k h8
  have hn:=E8.nth_lt hx k
  have hk1:(k:Int)<8:=by omega
  have HD:=hide (digL_succ x)
  have HXK:Hid (∀j,j<8→x.nth ((8*k+j)/8)=x.nth k∧(8*k+j)%8=j):=fun j hj=>⟨congrArg x.nth (by omega),by omega⟩
  generalize hnn:x.nth k=n at hix hn HXK
  clear hnn
  go_wp2_with fail
  go_loopw [3,6] (fun v sf wr=> ∃(j:Nat) (sh:Int),j≤8∧v=.slice (some ⟨w.heap.size+1,0,none⟩) (8*k+j) 64∧sf=.int .i64 sh∧Hid (sh+4*(j:Int)=28)∧Hid (wr.ownsRow (w.heap.size+1) 5 1 (.slice (some ⟨w.heap.size+1,0,none⟩) (8*k+j) 64) (8*k+j) (byteCells8 (digL x (8*k+j))))∧Hid (Old w wr)) (fun _ sf _=>(intOf sf+4).toNat)
  ·exact ⟨0,28,by omega,rfl,rfl,rfl,HR,HQ⟩
  obtain ⟨j,sh,hj,rfl,rfl,HS,HR,HQ⟩:=hrel
  by_cases hj8:j<8
  ·obtain ⟨s,rfl⟩: ∃s:Nat,sh=(s:Int):=⟨sh.toNat,by have:=uh HS;omega⟩
   have hs4:s+4*j=28:=by have:=uh HS;omega
   have hs28:s≤28:=by omega
   have hd:=dgt_u hn hs4
   have hdl:=dgt_lt n j
   have HSS:=hide hs4
   have HNX:Hid (digL x (8*k+j+1)=digL x (8*k+j)++[b8 (digB (dgt n j))]):=by
    obtain ⟨e1,e2⟩:=uh HXK j hj8
    have:=uh HD (8*k+j)
    rw[e1,e2] at this;exact this
   clear hs4
   generalize dgt n j=d at hd hdl HNX
   have hdd:((⟨#[48,49,50,51,52,53,54,55,56,57,97,98,99,100,101,102]⟩:ByteArray)[d]'(show d<16 from hdl)).toNat=digB d:=btN_get (s:=digits16) (show d<16 from hdl)
   have hdb:digB d<256:=btN_lt _ _
   have HNW:=hide (byte_new (wr:=wr) (n:=digB d))
   have HOW:Hid ((wr.alloc (.cells #[.int .u8 (digB d:Int)] 5)).ownsRow (w.heap.size+1) 5 1 (.slice (some ⟨w.heap.size+1,0,none⟩) (8*k+j) 64) (8*k+j) (byteCells8 (digL x (8*k+j)))):=(uh HR).alloc _
   go_wp2_with (at_builtin;refine wpList_append_fits _ rfl (.tmp 16) (.tmp 22) 64 rfl (w.heap.size+1) 5 i0 1 Tryz.underlying64 hi0 hz1 (w.heap.size+1) (8*k+j) 64 _ rfl (uh HOW) ⟨wr.heap.size,0,none⟩ 1 1 [.int .u8 (digB d:Int)] rfl rfl (uh HNW) (by intro u hu;simp at hu;subst hu;rfl) (by omega) ?_;intro w3 ho3 hg3;have HO3:=hide ho3;have HG3:=hide hg3;clear ho3 hg3)
   go_roundw
   ·refine ⟨j+1,(s:Int)- 4,by omega,by rw[Nat.add_assoc],rfl, ?_, ?_, ?_⟩
    ·have:=uh HSS;show (s:Int)- 4+4*((j+1:Nat):Int)=28;omega
    ·have e:byteCells8 (digL x (8*k+(j+1)))=byteCells8 (digL x (8*k+j))++[.int .u8 (digB d:Int)]:=by
      rw[←Nat.add_assoc,uh HNX];simp only[byteCells8,List.map_append,List.map_cons,List.map_nil];rw[b8_toNat hdb]
     rw[e];exact uh HO3
    exact ((uh HQ).alloc _).grown (uh HG3) (fun q hq e=>by cases e;omega)
   case measure=>simp[intOf];omega
  have hj8' :j=8:=by omega
  have hsn:sh= -4:=by have:=uh HS;omega
  subst hj8' hsn
  go_wp2
  go_roundw
  ·exact ⟨k+1,by omega,by go_num,by rw[Nat.mul_add],by rw[Nat.mul_add];exact HR,HQ⟩
  case measure=>simp[intOf];omega
 have hk8:k=8:=by omega
 subst hk8
 have hcv:(convert 64 9 (.slice (some ⟨w.heap.size+1,0,none⟩) 64 64)).run Tryz.prog wr=.ok (.string ⟨(digL x 64).toArray⟩) wr:=by
  have:=run_bytes_string (P:=Tryz.prog) wr 64 9 5 ⟨w.heap.size+1,0,none⟩ 64 (digL x 64) Tryz.underlying64 Tryz.underlying5 Tryz.underlying9 ((uh HR).cells rfl)
  rw[digL_len] at this;exact this
 go_wp2
 go_ret
 exact ⟨rfl,uh HQ⟩
def bitB(n j:Nat):Nat:=8*n/2^(56- 8*j)%256
theorem bitB_lt(n j:Nat):bitB n j<256:=Nat.mod_lt _ (by omega)
theorem bitB_i{n s j:Nat}(h:s+8*j=56):((n:Int)*8)/2^s%256=(bitB n j:Int):=by
 rw[bitB,show 56- 8*j=s by omega,Int.natCast_emod,Int.natCast_ediv,Int.natCast_pow,Int.natCast_mul,Int.mul_comm];rfl
def padZ(z n j:Nat):List UInt8:=128::(List.replicate z 0++(List.range j).map fun q=>b8 (bitB n q))
theorem padZ_len(z n j:Nat):(padZ z n j).length=1+z+j:=by simp[padZ];omega
theorem padZ_succ(z n j:Nat):padZ z n (j+1)=padZ z n j++[b8 (bitB n j)]:=by simp[padZ,List.range_succ]
theorem padZ_zero(z n:Nat):byteCells8 (padZ z n 0)=.int .u8 128::List.replicate z (.int .u8 0):=by simp[padZ,byteCells8]
theorem made_owns(w:World)(z C:Nat)(hC:1+z+8=C)(hz:z<64):(w.alloc (.cells ((madeCells #[.int .u8 0] C).setIfInBounds 0 (.int .u8 128)) 5)).ownsRow w.heap.size 5 1 (.slice (some ⟨w.heap.size,0,none⟩) (1+z) C) (1+z) (.int .u8 128::List.replicate z (.int .u8 0)):=by
 have hm:madeCells #[.int .u8 0] C=(List.replicate C (Value.int .u8 0)).toArray:=by
  apply Array.ext_getElem?
  intro i
  by_cases h:i<C
  ·simp[madeCells,h,Nat.mod_one]
  simp[madeCells,h]
 rw[hm]
 refine ⟨by simp;omega,.inr ⟨w.heap.size,C,_,rfl,Nat.le_refl _,Go.heap_alloc_new w _,by omega, ?_,by simp, ?_⟩⟩
 ·unfold maxLen;omega
 obtain ⟨m,rfl⟩: ∃m,C=m+1:=⟨C- 1,by omega⟩
 simp[List.replicate_succ,Nat.add_comm 1 z]
 omega
theorem padding_any(n:Nat)(hn:n≤140737488355328)(w:World):
 Calls Tryz.prog 107 #[.int .u64 n] w fun e w' =>e=.returned (.string ⟨(padZ (zeroN n) n 8).toArray⟩)∧Old w w' :=by
 obtain ⟨i0,hi0,hz0,hz1,hz2⟩:=info_parts infoByte
 have hz:zeroN n<64:=Nat.mod_lt _ (by omega)
 have hmk: ∀W:World,(Instr.makeSlice 64 (.int .u64 (1+(119- (n:Int))%64)) (.int .u64 (1+(119- (n:Int))%64+8))).run Tryz.prog W=.ok (.slice (some ⟨W.heap.size,0,none⟩) (1+zeroN n) (1+zeroN n+8)) (W.alloc (.cells (madeCells #[.int .u8 0] (1+zeroN n+8)) 5)):=by
  intro W
  have e:(1+(119- (n:Int))%64)=((1+zeroN n:Nat):Int):=by unfold zeroN;omega
  have h:=run_make (P:=Tryz.prog) W 64 5 i0 (.int .u8 0) Tryz.underlying64 hi0 hz0 .u64 .u64 ((1+zeroN n:Nat):Int) ((1+zeroN n+8:Nat):Int) (by omega) (by omega) (by rw[hz2];omega) (by omega)
  rw[hz1,Nat.mul_one,Int.toNat_natCast,Int.toNat_natCast] at h
  rw[e]
  exact h
 have HOW:=hide (made_owns w (zeroN n) _ rfl hz)
 generalize zeroN n=z at hz hmk HOW
 have h0:(madeCells #[Value.int .u8 0] (1+z+8))[0]? =some (.int .u8 0):=by simp[madeCells]
 have HOld:=hide ((Only.refl (fun _=>False) w).alloc (.cells ((madeCells #[.int .u8 0] (1+z+8)).setIfInBounds 0 (.int .u8 128)) 5))
 go_in
 go_wp2_with fail
 clear hmk h0
 simp only[show (119- (n:Int)%64)%64=(119- n)%64 by omega]
 go_loopw [4,6] (fun v sf wr=> ∃(j:Nat) (sh:Int),j≤8∧v=.slice (some ⟨w.heap.size,0,none⟩) (1+z+j) (1+z+8)∧sf=.int .i64 sh∧Hid (sh+8*(j:Int)=56)∧Hid (wr.ownsRow w.heap.size 5 1 (.slice (some ⟨w.heap.size,0,none⟩) (1+z+j) (1+z+8)) (1+z+j) (byteCells8 (padZ z n j)))∧Hid (Old w wr)) (fun _ sf _=>(intOf sf+8).toNat)
 ·exact ⟨0,56,by omega,rfl,rfl,rfl,(show World.ownsRow _ _ _ _ _ _ _ by rw[padZ_zero];exact uh HOW),HOld⟩
 obtain ⟨j,sh,hj,rfl,rfl,HS,HR,HQ⟩:=hrel
 by_cases hj8:j<8
 ·obtain ⟨s,rfl⟩: ∃s:Nat,sh=(s:Int):=⟨sh.toNat,by have:=uh HS;omega⟩
  have hs4:s+8*j=56:=by have:=uh HS;omega
  have hs56:s≤56:=by omega
  have hd:=bitB_i (n:=n) hs4
  have hdb:=bitB_lt n j
  have HSS:=hide hs4
  have HNX:=hide (padZ_succ z n j)
  clear hs4
  generalize bitB n j=d at hd hdb HNX
  have HNW:=hide (byte_new (wr:=wr) (n:=d))
  have HOW2:Hid ((wr.alloc (.cells #[.int .u8 (d:Int)] 5)).ownsRow w.heap.size 5 1 (.slice (some ⟨w.heap.size,0,none⟩) (1+z+j) (1+z+8)) (1+z+j) (byteCells8 (padZ z n j))):=(uh HR).alloc _
  go_wp2_with (at_builtin;refine wpList_append_fits _ rfl (.tmp 25) (.tmp 30) 64 rfl w.heap.size 5 i0 1 Tryz.underlying64 hi0 hz1 w.heap.size (1+z+j) (1+z+8) _ rfl (uh HOW2) ⟨wr.heap.size,0,none⟩ 1 1 [.int .u8 (d:Int)] rfl rfl (uh HNW) (by intro u hu;simp at hu;subst hu;rfl) (by omega) ?_;intro w3 ho3 hg3;have HO3:=hide ho3;have HG3:=hide hg3;clear ho3 hg3)
  go_roundw
  ·refine ⟨j+1,(s:Int)- 8,by omega,by rw[Nat.add_assoc],rfl, ?_, ?_, ?_⟩
   ·have:=uh HSS;show (s:Int)- 8+8*((j+1:Nat):Int)=56;omega
   ·have e:byteCells8 (padZ z n (j+1))=byteCells8 (padZ z n j)++[.int .u8 (d:Int)]:=by
     rw[uh HNX];simp only[byteCells8,List.map_append,List.map_cons,List.map_nil];rw[b8_toNat hdb]
    rw[e];exact uh HO3
   exact ((uh HQ).alloc _).grown (uh HG3) (fun q hq e=>by cases e;omega)
  case measure=>simp[intOf];omega
 have hj8' :j=8:=by omega
 have hsn:sh= -8:=by have:=uh HS;omega
 subst hj8' hsn
 have hcv:(convert 64 9 (.slice (some ⟨w.heap.size,0,none⟩) (1+z+8) (1+z+8))).run Tryz.prog wr=.ok (.string ⟨(padZ z n 8).toArray⟩) wr:=by
  have:=run_bytes_string (P:=Tryz.prog) wr 64 9 5 ⟨w.heap.size,0,none⟩ (1+z+8) (padZ z n 8) Tryz.underlying64 Tryz.underlying5 Tryz.underlying9 ((uh HR).cells rfl)
  rw[padZ_len] at this;exact this
 go_wp2
 go_ret
 exact ⟨rfl,uh HQ⟩
section
variable {P:Program} {ops:Array Oper} {Q:Exit→Act→World→Prop} {md:Region.Mode} {S:World→Prop} {L:Nat}
def wpAnyL(P:Program)(md:Region.Mode)(ops:Array Oper)(Q:Exit→Act→World→Prop)(S:World→Prop)(L:Nat):Nat→Array Bool→Act→World→Prop
 |0,ls,a,w=>Region.ready md ops ls=[]∧Q .normal a w
 |n+1,ls,a,w=>(Region.ready md ops ls=[]→Q .normal a w)∧ ∀i∈Region.ready md ops ls,wpOp P ops Q i (fun a' w' =>(i≠L→S w')∧wpAnyL P md ops Q S L n (ls.setIfInBounds i true) a' w') a w
theorem any_of_last(n:Nat): ∀(ls:Array Bool) (a:Act) (w:World),wpAnyL P md ops Q S L n ls a w→wpAny P md ops Q n ls a w:=by
 induction n with
 |zero=>intro ls a w h;exact h
 |succ n ih=>intro ls a w h;exact ⟨h.1,fun i hi=>wpOp_mono (fun a' w' k=>ih _ a' w' k.2) (h.2 i hi)⟩
def waitsFor(md:Region.Mode)(ops:Array Oper)(L i:Nat):Bool:=i !=L&&(match ops[L]? with|some o=>o.after.any (fun e=>Region.binds md e&&e.on==i)|none=>false)
theorem last_take{i:Nat}{oi:Oper}{v:Value}(hi:ops[i]? =some oi)(hs:Region.noSelect ops=true)(hL:waitsFor md ops L i=true)
 (hQ: ∀c a w,Q (.panic c) (a.put oi.dst v) w→Q (.panic c) a w)(n:Nat): ∀(ls:Array Bool) (a:Act) (w:World),
  (∀j oj,ops[j]? =some oj→j≠i→ls.getD j true=false→(∀e∈oj.after,Region.binds md e=true→e.on≠i)→oi.apart ops oj=true)→
  i∈Region.ready md ops ls→YieldsIf P ops S oi v a→S w→
  wpAnyL P md ops Q S L n (ls.setIfInBounds i true) (a.put oi.dst v) w→wpAnyL P md ops Q S L (n+1) ls a w:=by
 have hne:i≠L:=by simp[waitsFor] at hL;exact hL.1
 induction n with
 |zero=>
  intro ls a w _ hr hy hS H
  refine ⟨fun h=>absurd (h ▸ hr) List.not_mem_nil,fun j hj=> ?_⟩
  rcases Nat.decEq j i with hji|rfl
  ·exact absurd (H.1 ▸ ready_mono hj hji) List.not_mem_nil
  exact hy.wpOp hi hS ⟨fun _=>hS,H⟩
 |succ n ih=>
  intro ls a w hfree hr hy hS H
  refine ⟨fun h=>absurd (h ▸ hr) List.not_mem_nil,fun j hj=> ?_⟩
  rcases Nat.decEq j i with hji|rfl
  ·obtain ⟨hun,oj,hoj,hall⟩:=mem_ready.1 hj
   have hi0:=(mem_ready.1 hr).1
   have hnot: ∀e∈oj.after,Region.binds md e=true→e.on≠i:=by
    intro e he hb heq
    have h1:=hall e he hb
    rw[heq] at h1
    by_cases h' :i<ls.size
    ·simp[h'] at hi0 h1;rw[hi0] at h1;cases h1
    simp[Array.getElem?_eq_none (Nat.le_of_not_lt h')] at h1
   have hjL:j≠L:=by
    rintro rfl
    simp[waitsFor,hoj] at hL
    obtain ⟨_,k,hk,hb,ho⟩:=hL
    exact hnot _ (Array.getElem_mem hk) hb ho
   have h2:=wpOp_putIf hoj (hfree j oj hoj hji hun hnot) (fun cs b=>Region.noSelect_spec hs i oi cs b hi) (fun cs b=>Region.noSelect_spec hs j oj cs b hoj) hQ hy (H.2 j (ready_mono hj hji))
   refine wpOp_mono (fun a' w' h3=>⟨h3.2.1,ih (ls.setIfInBounds j true) a' w' ?_ (ready_mono hr (Ne.symm hji)) h3.1 (h3.2.1 hjL) ?_⟩) h2
   ·intro k ok hk hki hu hno
    refine hfree k ok hk hki ?_ hno
    by_cases hjk:j=k
    ·subst hjk;exact hun
    rw[getD_set_ne true hjk] at hu;exact hu
   rw[Array.setIfInBounds_comm _ _ hji];exact h3.2.2
  exact hy.wpOp hi hS ⟨fun _=>hS,H⟩
theorem wpAnyL_take{i:Nat}{oi:Oper}{v:Value}{n:Nat}{ls:Array Bool}{a:Act}{w:World}(d:Option Tmp)(hi:ops[i]? =some oi)(hd:oi.dst=d)
 (hs:Region.noSelect ops=true)(hL:waitsFor md ops L i=true)(hf:Region.free md ops ls i=true)(hr:(Region.ready md ops ls).contains i=true)
 (hQ: ∀c a w,Q (.panic c) (a.put d v) w→Q (.panic c) a w)(hy:YieldsIf P ops S oi v a)(hS:S w)
 (h:wpAnyL P md ops Q S L n (ls.setIfInBounds i true) (a.put d v) w):wpAnyL P md ops Q S L (n+1) ls a w:=by
 subst hd
 exact last_take hi hs hL hQ n ls a w (Region.free_spec hi hf) (by simpa using hr) hy hS h
theorem wpAnyL_one{i:Nat}{n:Nat}{ls:Array Bool}{a:Act}{w:World}(hr:Region.ready md ops ls=[i])
 (h:wpOp P ops Q i (fun a' w' =>(i≠L→S w')∧wpAnyL P md ops Q S L n (ls.setIfInBounds i true) a' w') a w):wpAnyL P md ops Q S L (n+1) ls a w:=by
 refine ⟨fun h0=> ?_,fun j hj=> ?_⟩
 ·rw[hr] at h0;cases h0
 rw[hr] at hj;cases List.mem_singleton.1 hj;exact h
theorem wpAnyL_done{ls:Array Bool}{a:Act}{w:World}(hr:Region.ready md ops ls=[])(h:Q .normal a w):wpAnyL P md ops Q S L 0 ls a w:=⟨hr,h⟩
theorem wp_region_last{id:Nat}{a:Act}{w:World}(hm:P.follows .mixedOrders=true)
 (h:wpAnyL P .any ops Q S L ops.size (Array.replicate ops.size false) a w.drew):(Code.region id ops true).wp P Q a w:=
 wp_region_any hm (any_of_last _ _ _ _ h)
theorem op_plain{i:Nat}{o:Oper}{K:Act→World→Prop}{a:Act}{w:World}(ho:ops[i]? =some o)(hg:o.guard=none)(h:o.wp P a w K Q):wpOp P ops Q i K a w:=by
 unfold wpOp
 simp only[ho]
 rw[if_pos (by simp[Region.wanted,hg])]
 exact .inl h
theorem held_load{o:Oper}{a:Act}(hg:o.guard=none)(ty:TypeId)(x:Operand)(ho:o.op=.load ty x)(p:Addr)(hx:a.eval x=.pointer (some p))(v:Value)
 (h: ∀w,S w→(loadVar ty p).run P w=.ok v w):YieldsIf P ops S o v a:=by
 refine .inl ⟨by simp[Region.wanted,hg],fun w hw=> ?_⟩
 unfold execOp
 simp only[ho,hx,Instr.loadAt,Instr.sureAddr,Sem.run_bind,Sem.run_pure,Result.andThen_ok,h w hw]
end
def foldX(kf:Nat→Nat)(x:E8)(p:ByteArray):Nat→E8
 |0=>x
 |m+1=>mixOf kf (foldX kf x p m) (p.extract (64*m) (64*m+64))
theorem foldX_ok{kf:Nat→Nat}{x:E8}(hx:x.ok)(p:ByteArray)(m:Nat):(foldX kf x p m).ok:=by
 cases m with
 |zero=>exact hx
 |succ m=>exact E8.plus_ok _ _
theorem old_heap{w w' :World}(h:Old w w'){g:Nat}{o:Obj}(hg:w.heap[g]? =some o):w'.heap[g]? =some o:=
 (h.block g (Array.getElem?_eq_some_iff.1 hg).1 (fun x=>x)).trans hg
theorem only_row(w:World)(g:Nat)(cs:Array Value):Only (fun k=>k=g) w (w.setRow g cs):=(Only.refl (fun k=>k=g) w).setRow g (fun _=>rfl) cs
theorem u8A_ok(x:E8):(u8A x).all (·.oneCell')=true:=ints8 _ _ _ _ _ _ _ _
theorem load8{w:World}{g:Nat}{x:E8}(h:w.heap[g]? =some (.cells (u8A x) 109 (0,0))):(loadVar 109 ⟨g,0,none⟩).run Tryz.prog w=.ok (.agg (u8A x)) w:=
 run_loadVar_row w g _ _ _ _ _ h Tryz.underlying109 rfl infoA8
theorem load64{w:World}{g:Nat}{f:Nat→Nat}(h:w.heap[g]? =some (.cells (u64A f) 141 (0,0))):(loadVar 141 ⟨g,0,none⟩).run Tryz.prog w=.ok (.agg (u64A f)) w:=
 run_loadVar_row w g _ _ _ _ _ h Tryz.underlying141 rfl (by rw[u64A,arrF_size];exact infoA64)
theorem wp_store8{o:Oper}{a:Act}{w:World}{K:Act→World→Prop}{Q:Exit→Act→World→Prop}(x y:Operand)(ho:o.op=.store 109 x y)(hd:o.dst=none)(g:Nat)(z:E8)
 (hx:a.eval x=.pointer (some ⟨g,0,none⟩))(hy:a.eval y=.agg (u8A z)){y0:E8}(hg:w.heap[g]? =some (.cells (u8A y0) 109 (0,0)))
 (h:K a (w.setRow g (u8A z))):o.wp Tryz.prog a w K Q:=
 wp_store_row _ x y ho g (u8A z) hx hy _ _ hg (by rw[u8A,arrF_size];exact infoA8) (by rw[u8A,u8A,arrF_size,arrF_size]) (u8A_ok z) (by rw[hd];exact h)
theorem absorb_any(x:E8)(hx:x.ok)(kf:Nat→Nat)(hk: ∀t,kf t<4294967296)(s:ByteArray)(hs:s.size%64=0)(hl:s.size≤140737488355328)(w:World):
 Calls Tryz.prog 106 #[.agg (u8A x),.agg (u64A kf),.string s] w fun e w' =>e=.returned (.agg (u8A (foldX kf x s (s.size/64))))∧Old w w' :=by
 have HS:=hide hs
 clear hs
 go_in
 go_wp2_with fail
 go_loopw [7] (fun i wr=> ∃m k:Nat,k≤s.size∧i=.int .i64 k∧Hid (k=64*m)∧Hid (wr.heap[w.heap.size]? =some (.cells (u8A (foldX kf x s m)) 109 (0,0)))∧Hid (wr.heap[w.heap.size+1]? =some (.cells (u64A kf) 141 (0,0)))∧Hid (wr.heap[w.heap.size+2]? =some (.cells (u8A ⟨0,0,0,0,0,0,0,0⟩) 109 (0,0)))∧Hid (Old w wr)) (fun i _=>s.size- (intOf i).toNat)
 ·exact ⟨0,0,by omega,rfl,rfl,((Arr.mk' (n:=8) (f:=fun j=> .int .u32 (x.nth j)) rfl rfl).alloc _).alloc _,(Arr.mk' (n:=64) (f:=fun j=> .int .u32 (kf j)) (by simp) rfl).alloc _,Arr.mk' (n:=8) (f:=fun j=> .int .u32 (E8.nth ⟨0,0,0,0,0,0,0,0⟩ j)) (by simp) rfl,(((Only.refl _ w).alloc _).alloc _).alloc _⟩
 obtain ⟨m,k,hks,rfl,HKM,HA,HB,HC,HO⟩:=hrel
 by_cases hlt:k<s.size
 ·have hk64:k+64≤s.size:=by have:=uh HKM;have:=uh HS;omega
  have hex:(s.extract k (k+64)).size=64:=by rw[ByteArray.size_extract];omega
  have HSP:=hide (fun w1=>spread_any (s.extract k (k+64)) hex w1)
  have HCP:=hide (fun w1=>compress_any (foldX kf x s m) (foldX_ok hx s m) kf (wt (s.extract k (k+64))) hk (wt_lt _) w1)
  generalize hy:foldX kf x s m=y at HA HCP
  have HY:=hide hy
  clear hy
  have HWF:Hid (mixOf kf y (s.extract k (k+64))=(rounds kf (wt (s.extract k (k+64))) 64 y).plus y):=by unfold Hid;rw[mixOf]
  generalize wt (s.extract k (k+64))=wf at HSP HCP HWF
  generalize (rounds kf wf 64 y).plus y=z at HCP HWF
  have h1:(k:Int)+64≤(s.size:Int):=by omega
  have h2:(0:Int)≤(k:Int):=by omega
  have h3:(k:Int)≤(k:Int)+64:=by omega
  have h4:((k:Int)+64).toNat=k+64:=by omega
  have hwr:IntKind.i64.wrap ((k:Int)+64)=(k:Int)+64:=by rw[IntKind.wrap_i64];omega
  clear hex
  go_upto_region 4 with fail
  refine wp_region_last (S:=fun W=>W.heap[w.heap.size]? =some (.cells (u8A y) 109 (0,0))∧W.heap[w.heap.size+1]? =some (.cells (u64A kf) 141 (0,0))) (L:=9) (by kernel_rfl) ?_
  refine wpAnyL_take (i:=0) (v:=.agg (u8A y)) (some 14) rfl rfl (by kernel_rfl) (by kernel_rfl) (by kernel_rfl) (by kernel_rfl) (fun _ _ _ h=>h) (held_load rfl _ _ rfl ⟨w.heap.size,0,none⟩ rfl _ (fun W hW=>load8 hW.1)) ⟨uh HA,uh HB⟩ ?_
  simp only[Act.put,List.setIfInBounds_toArray,List.set_cons_zero,List.set_cons_succ]
  refine wpAnyL_take (i:=1) (v:=.agg (u64A kf)) (some 15) rfl rfl (by kernel_rfl) (by kernel_rfl) (by kernel_rfl) (by kernel_rfl) (fun _ _ _ h=>h) (held_load rfl _ _ rfl ⟨w.heap.size+1,0,none⟩ rfl _ (fun W hW=>load64 hW.2)) ⟨uh HA,uh HB⟩ ?_
  simp only[Act.put,List.setIfInBounds_toArray,List.set_cons_zero,List.set_cons_succ]
  refine wpAnyL_take (i:=2) (v:=.string s) (some 16) rfl rfl (by kernel_rfl) (by kernel_rfl) (by kernel_rfl) (by kernel_rfl) (fun _ _ _ h=>h) (.inl ⟨rfl,fun W _=>by go_simp⟩) ⟨uh HA,uh HB⟩ ?_
  simp only[Act.put,List.setIfInBounds_toArray,List.set_cons_zero,List.set_cons_succ]
  refine wpAnyL_take (i:=3) (v:=.int .i64 k) (some 17) rfl rfl (by kernel_rfl) (by kernel_rfl) (by kernel_rfl) (by kernel_rfl) (fun _ _ _ h=>h) (.inl ⟨rfl,fun W _=>by go_simp⟩) ⟨uh HA,uh HB⟩ ?_
  simp only[Act.put,List.setIfInBounds_toArray,List.set_cons_zero,List.set_cons_succ]
  refine wpAnyL_take (i:=4) (v:=.int .i64 k) (some 18) rfl rfl (by kernel_rfl) (by kernel_rfl) (by kernel_rfl) (by kernel_rfl) (fun _ _ _ h=>h) (.inl ⟨rfl,fun W _=>by go_simp⟩) ⟨uh HA,uh HB⟩ ?_
  simp only[Act.put,List.setIfInBounds_toArray,List.set_cons_zero,List.set_cons_succ]
  refine wpAnyL_take (i:=5) (v:=.int .i64 (k+64)) (some 19) rfl rfl (by kernel_rfl) (by kernel_rfl) (by kernel_rfl) (by kernel_rfl) (fun _ _ _ h=>h) (.inl ⟨rfl,fun W _=>by go_simp⟩) ⟨uh HA,uh HB⟩ ?_
  simp only[Act.put,List.setIfInBounds_toArray,List.set_cons_zero,List.set_cons_succ]
  refine wpAnyL_take (i:=6) (v:=.string (s.extract k (k+64))) (some 20) rfl rfl (by kernel_rfl) (by kernel_rfl) (by kernel_rfl) (by kernel_rfl) (fun _ _ _ h=>h) (.inl ⟨rfl,fun W _=>by go_simp⟩) ⟨uh HA,uh HB⟩ ?_
  simp only[Act.put,List.setIfInBounds_toArray,List.set_cons_zero,List.set_cons_succ]
  refine wpAnyL_one (i:=7) (by kernel_rfl) ?_
  refine wpOp_step rfl (fun K' hK=> ?_)
  go_simp
  refine (uh HSP _).mono ?_
  rintro e w5 ⟨rfl,ho5⟩
  have ha5:=old_heap ho5 (uh HA)
  have hb5:=old_heap ho5 (uh HB)
  have hc5:=old_heap ho5 (uh HC)
  have HO5:Hid (Old w w5):=Only.trans (uh HO).drew ho5
  refine hK _ _ ⟨fun _=>⟨ha5,hb5⟩, ?_⟩
  clear hK
  refine wpAnyL_one (i:=8) (by kernel_rfl) ?_
  refine wpOp_step rfl (fun K' hK=> ?_)
  go_simp
  refine (uh HCP _).mono ?_
  rintro e w6 ⟨rfl,ho6⟩
  have ha6:=old_heap ho6 ha5
  have hb6:=old_heap ho6 hb5
  have hc6:=old_heap ho6 hc5
  have HO6:Hid (Old w w6):=Only.trans (uh HO5) ho6
  refine hK _ _ ⟨fun _=>⟨ha6,hb6⟩, ?_⟩
  clear hK
  refine wpAnyL_one (i:=9) (by kernel_rfl) ?_
  refine op_plain rfl rfl (wp_store8 (.tmp 3) (.tmp 22) rfl rfl w.heap.size z rfl rfl ha6 ?_)
  refine ⟨fun h=>absurd rfl h,wpAnyL_done (by kernel_rfl) ?_⟩
  go_wp2_with fail
  go_roundw
  ·refine ⟨m+1,k+64,hk64,by go_num,(show k+64=64*(m+1) by have:=uh HKM;omega), ?_, ?_, ?_,(uh HO6).setRow _ (fun h=>absurd h (Nat.lt_irrefl _)) _⟩
   ·have e:foldX kf x s (m+1)=z:=by rw[foldX,uh HY,←uh HKM];exact uh HWF
    rw[e]
    exact setRow_heap w6 w.heap.size _ _ _ _ ha6
   ·exact ((only_row w6 w.heap.size _).block _ (Array.getElem?_eq_some_iff.1 hb6).1 (by omega)).trans hb6
   exact ((only_row w6 w.heap.size _).block _ (Array.getElem?_eq_some_iff.1 hc6).1 (by omega)).trans hc6
  case measure=>simp[intOf];omega
 have hm:s.size/64=m:=by have:=uh HKM;omega
 have HX:Hid (foldX kf x s (s.size/64)=foldX kf x s m):=hide (by rw[hm])
 have ha:=uh HA
 have hc:=uh HC
 clear hm HKM HB
 generalize foldX kf x s m=y at ha HA HX
 go_wp2_with (first
  |(refine wpList_load_row rfl 109 (.tmp 3) rfl w.heap.size rfl 109 (u8A y) (0,0) _ ha Tryz.underlying109 rfl infoA8 ?_)
  |(refine wpList_store_row rfl 109 (.tmp 6) (.tmp 23) rfl (w.heap.size+2) (u8A y) rfl rfl 109 _ hc infoA8 (by rw[u8A,u8A,arrF_size,arrF_size]) (u8A_ok y) ?_))
 refine bodyPost_ret (v:=.agg (u8A y)) (results_cell_row Tryz.results106 _ _ (w.heap.size+2) 109 (u8A y) (0,0) _ rfl (setRow_heap wr (w.heap.size+2) _ (u8A y) _ _ hc) Tryz.underlying109 rfl infoA8) rfl ⟨?_, ?_⟩
 ·rw[uh HX]
 exact (uh HO).setRow _ (fun h=>absurd h (by omega)) _
theorem foldB_foldX(p:ByteArray)(m:Nat):foldB p m=foldX kNum h0 p m:=by
 induction m with
 |zero=>rfl
 |succ m ih=>rw[foldB,foldX,ih]
theorem foldX_congr(kf:Nat→Nat)(x:E8)(p p' :ByteArray)(m:Nat)(h: ∀i,i<m→p.extract (64*i) (64*i+64)=p'.extract (64*i) (64*i+64)):foldX kf x p m=foldX kf x p' m:=by
 induction m with
 |zero=>rfl
 |succ m ih=>rw[foldX,foldX,ih (fun i hi=>h i (by omega)),h m (by omega)]
theorem foldX_add(kf:Nat→Nat)(x:E8)(p p' :ByteArray)(q r:Nat)(h: ∀i,i<r→p.extract (64*(q+i)) (64*(q+i)+64)=p'.extract (64*i) (64*i+64)):foldX kf x p (q+r)=foldX kf (foldX kf x p q) p' r:=by
 induction r with
 |zero=>rfl
 |succ r ih=>rw[←Nat.add_assoc,foldX,foldX,ih (fun i hi=>h i (by omega)),h r (by omega)]
theorem foldX_append(kf:Nat→Nat)(x:E8)(a b:ByteArray)(q r:Nat)(ha:a.size=64*q)(_hb:b.size=64*r):foldX kf x (a++b) (q+r)=foldX kf (foldX kf x a q) b r:=by
 rw[foldX_add kf x (a++b) b q r,foldX_congr kf x (a++b) a q]
 ·intro i hi
  rw[ByteArray.extract_append,show b.extract (64*i- a.size) (64*i+64- a.size)=ByteArray.empty by rw[show 64*i+64- a.size=0 by omega,ByteArray.extract_eq_empty_iff];omega]
  simp
 intro i hi
 rw[ByteArray.extract_append,show a.extract (64*(q+i)) (64*(q+i)+64)=ByteArray.empty by rw[ByteArray.extract_eq_empty_iff];omega,show 64*(q+i)- a.size=64*i by omega,show 64*(q+i)+64- a.size=64*i+64 by omega]
 simp
theorem padZ_be4(z n:Nat):padZ z n 8=128::(List.replicate z 0++(be4 (n/536870912)++be4 (8*n%4294967296))):=by
 have e:(List.range 8).map (fun q=>b8 (bitB n q))=be4 (n/536870912)++be4 (8*n%4294967296):=by
  show [b8 (bitB n 0),b8 (bitB n 1),b8 (bitB n 2),b8 (bitB n 3),b8 (bitB n 4),b8 (bitB n 5),b8 (bitB n 6),b8 (bitB n 7)]=_
  have h0:bitB n 0=n/536870912/16777216%256:=by simp only[bitB];omega
  have h1:bitB n 1=n/536870912/65536%256:=by simp only[bitB];omega
  have h2:bitB n 2=n/536870912/256%256:=by simp only[bitB];omega
  have h3:bitB n 3=n/536870912%256:=by simp only[bitB];omega
  have h4:bitB n 4=8*n%4294967296/16777216%256:=by simp only[bitB];omega
  have h5:bitB n 5=8*n%4294967296/65536%256:=by simp only[bitB];omega
  have h6:bitB n 6=8*n%4294967296/256%256:=by simp only[bitB];omega
  have h7:bitB n 7=8*n%4294967296%256:=by simp only[bitB];omega
  rw[h0,h1,h2,h3,h4,h5,h6,h7];rfl
 rw[padZ,e]
theorem pz_data(s:ByteArray)(z:Nat):(pz s z).data=s.data++(List.replicate z 0).toArray:=by
 induction z with
 |zero=>simp[pz]
 |succ z ih=>rw[pz,ByteArray.data_append,ih,List.replicate_succ'];exact Array.ext' (by simp)
theorem padRef_eq(s:ByteArray):padRef s=s++⟨(padZ (zeroN s.size) s.size 8).toArray⟩:=by
 apply ByteArray.ext
 rw[padZ_be4]
 unfold padRef
 rw[ByteArray.data_append,ByteArray.data_append,pz_data,ByteArray.data_append,ByteArray.data_append]
 apply Array.ext'
 simp
theorem btN_append_left{a b:ByteArray}{k:Nat}(h:k<a.size):btN (a++b) k=btN a k:=by
 unfold btN
 rw[dif_pos h,dif_pos (by rw[ByteArray.size_append];omega),ByteArray.getElem_append_left h]
theorem btN_append_right{a b:ByteArray}{k:Nat}(h:a.size≤k):btN (a++b) k=btN b (k- a.size):=by
 unfold btN
 by_cases hb:k- a.size<b.size
 ·rw[dif_pos hb,dif_pos (by rw[ByteArray.size_append];omega),ByteArray.getElem_append_right h]
 rw[dif_neg hb,dif_neg (by rw[ByteArray.size_append];omega)]
theorem btN_be4(n k:Nat)(hk:k<4):btN ⟨(be4 n).toArray⟩ k=n/2^(24- 8*k)%256:=by
 have hs:(⟨(be4 n).toArray⟩:ByteArray).size=4:=rfl
 rw[←btN_get (by omega)]
 match k,hk with
 |0,_=>exact b8_toNat (Nat.mod_lt _ (by omega))
 |1,_=>exact b8_toNat (Nat.mod_lt _ (by omega))
 |2,_=>exact b8_toNat (Nat.mod_lt _ (by omega))
 |3,_=>exact (b8_toNat (Nat.mod_lt _ (by omega))).trans (by simp)
theorem btN_outB(x:E8)(m k:Nat)(hk:k<4*m):btN (outB x m) k=x.nth (k/4)/2^(24- 8*(k%4))%256:=by
 induction m with
 |zero=>omega
 |succ m ih=>
  rw[outB]
  have hs:=outB_size x m
  by_cases h:k<4*m
  ·rw[btN_append_left (by omega),ih h]
  rw[btN_append_right (by omega),hs,btN_be4 _ _ (by omega),show k/4=m by omega,show k%4=k- 4*m by omega]
theorem two_digits(n k:Nat)(hk:k<4):dgt n (2*k)=n/2^(24- 8*k)%256/16∧dgt n (2*k+1)=n/2^(24- 8*k)%256%16:=by
 unfold dgt
 match k,hk with
 |0,_=>constructor<;>simp<;>omega
 |1,_=>constructor<;>simp<;>omega
 |2,_=>constructor<;>simp<;>omega
 |3,_=>constructor<;>simp<;>omega
theorem digit_at(d:Nat)(hd:d<16):digits16.extract d (d+1)=⟨#[b8 (digB d)]⟩:=by
 have: ∀d:Fin 16,(digits16.extract d.val (d.val+1)).data= #[b8 (digB d.val)]:=by decide
 exact ByteArray.ext (this ⟨d,hd⟩)
theorem hexB_digL(x:E8)(k:Nat)(hk:k≤32):hexB (outB x 8) k=⟨(digL x (2*k)).toArray⟩:=by
 induction k with
 |zero=>rfl
 |succ k ih=>
  have hb:=btN_outB x 8 k (by omega)
  have h2:=two_digits (x.nth (k/4)) (k%4) (by omega)
  have hl:=btN_lt (outB x 8) k
  rw[hexB,ih (by omega),digit_at _ (by omega),digit_at _ (by omega),show 2*(k+1)=2*k+1+1 by omega,digL_succ,digL_succ,hb,
   show 2*k/8=k/4 by omega,show (2*k+1)/8=k/4 by omega,show 2*k%8=2*(k%4) by omega,show (2*k+1)%8=2*(k%4)+1 by omega,h2.1,h2.2]
  apply ByteArray.ext
  rw[ByteArray.data_append,ByteArray.data_append]
  exact Array.ext' (by simp)
theorem digest_digL(s:ByteArray):digestOf s=⟨(digL (foldX kNum h0 (s++⟨(padZ (zeroN s.size) s.size 8).toArray⟩) ((s.size+9+zeroN s.size)/64)) 64).toArray⟩:=by
 rw[digestOf,padRef_size,padRef_eq,foldB_foldX,hexB_digL _ 32 (by omega)]
end Go.Proofs.YtfbgamknfommpaaGreatDoor
