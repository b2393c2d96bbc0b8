import Derived.Test.YtndfmgdhiallpaaGreatDoorChecked
import Derived.Test.YtndfmgdhiallpaaGreatDoorMa
import Derived.Deep.QuietTactic
import Derived.BigQuiet
import Derived.BigRegion
import Derived.Deep.OwnRows
import Derived.Deep.RegionWith
import Derived.Deep.RegionHeld3
set_option maxRecDepth 100000
set_option maxHeartbeats 1000000
namespace Go.Proofs.YtndfmgdhiallpaaGreatDoor
open Go.RowKit
theorem turned_any(v n:Nat)(hv:v<4294967296)(h1:1≤n)(h2:n≤31)(w:World):
 Calls Tryz.prog 283 #[.int .i64 v,.int .i64 n] w fun e w' =>e=.returned (.int .i64 (rotr v n))∧ ∃m,w' =w.drewN m:=by
 go_in
 go_wp2_with fail
 go_quiet (fail)
 go_wp2
 go_ret
 exact ⟨ret1_eq (show Value.int .i64 (bits BinOp.or IntKind.i64 ((v:Int)/2^n) ((wrap64 ((v:Int)*2^(32- n))).tmod 4294967296))=_ by rw[turned_eq hv h1]),_,rfl⟩
theorem byte4_any(s:ByteArray)(w:World)(h:s.size=4):
 Calls Tryz.prog 282 #[.string s] w fun e w' =>e=.returned (.int .i64 ((s[0]'(by omega)).toNat*16777216+(s[1]'(by omega)).toNat*65536+(s[2]'(by omega)).toNat*256+(s[3]'(by omega)).toNat))∧ ∃m,w' =w.drewN m:=by
 have h0:(0:Int)<(s.size:Int):=by omega
 have h0n:0<s.size:=by omega
 have h1:(1:Int)<(s.size:Int):=by omega
 have h2:(2:Int)<(s.size:Int):=by omega
 have h3:(3:Int)<(s.size:Int):=by omega
 have b0:=byte_lt (s[0]'(by omega))
 have b1:=byte_lt (s[1]'(by omega))
 have b2:=byte_lt (s[2]'(by omega))
 have b3:=byte_lt (s[3]'(by omega))
 go_in
 go_wp2_with fail
 go_quiet (fail)
 go_wp2
 go_ret
 exact ⟨rfl,_,rfl⟩
theorem conv4(w:World)(n:Nat):(convert 62 9 (.slice (some ⟨w.heap.size,0,none⟩) 4 4)).run Tryz.prog
 (w.alloc (.cells #[.int .u8 ((n:Int)/16777216%256),.int .u8 ((n:Int)/65536%256),.int .u8 ((n:Int)/256%256),.int .u8 ((n:Int)%256)] 5))=
 .ok (.string ⟨(be4 n).toArray⟩) (w.alloc (.cells #[.int .u8 ((n:Int)/16777216%256),.int .u8 ((n:Int)/65536%256),.int .u8 ((n:Int)/256%256),.int .u8 ((n:Int)%256)] 5)):=by
 refine run_bytes_string (P:=Tryz.prog) _ 62 9 5 ⟨w.heap.size,0,none⟩ 4 (be4 n) Tryz.underlying62 Tryz.underlying5 Tryz.underlying9 ?_
 intro j v hv
 rw[Addr.add_lit,Nat.zero_add,cell_of_row _ _ j _ 5 (0,0) (Go.heap_alloc_new w _)]
 rw[←hv]
 simp only[byteCells8,be4,List.map_cons,List.map_nil]
 rw[b8_toNat (by omega),b8_toNat (by omega),b8_toNat (by omega),b8_toNat (by omega)]
 rw[show (n:Int)/16777216%256=((n/16777216%256:Nat):Int) by omega,show (n:Int)/65536%256=((n/65536%256:Nat):Int) by omega,show (n:Int)/256%256=((n/256%256:Nat):Int) by omega,show (n:Int)%256=((n%256:Nat):Int) by omega]
 rw[List.getElem?_toArray]
theorem highest_any(n:Nat)(w:World)(h:n<9223372036854775808):
 Calls Tryz.prog 187 #[.int .i64 n] w fun e w' =>e=.returned (.string ⟨(be4 n).toArray⟩)∧ ∃o,w' =w.alloc o:=by
 have hcv:=conv4 w n
 go_in
 go_wp2
 go_ret
 exact ⟨rfl,_,rfl⟩
open Go.RowKit Go.Maps
theorem quiet_more{P:Program}{f:FuncId}{args:Array Value}{w:World}{k n:Nat}{v:Value}
 (h:Calls P f args (w.drewN (k+n)) fun e w' =>e=.returned v∧ ∃m,w' =(w.drewN (k+n)).drewN m):Calls P f args (w.drewN (k+n)) fun e w'' =>e=.returned v∧ ∃m,w'' =w.drewN (k+m):=
 h.mono fun _ _ ⟨he,m,hm⟩=>⟨he,n+m,by rw[hm,World.drewN_drewN,Nat.add_assoc]⟩
theorem turned_c(v n:Nat)(c:Int)(hc:c=(n:Int))(hv:v<4294967296)(h1:1≤n)(h2:n≤31)(w:World):
 Calls Tryz.prog 283 #[.int .i64 v,.int .i64 c] w fun e w' =>e=.returned (.int .i64 (rotr v n))∧ ∃m,w' =w.drewN m:=by
 subst hc;exact turned_any v n hv h1 h2 w
theorem byte4_w(s:ByteArray)(w:World)(h:s.size=4):
 Calls Tryz.prog 282 #[.string s] w fun e w' =>e=.returned (.int .i64 (wrd s 0))∧ ∃m,w' =w.drewN m:=by
 refine (byte4_any s w h).mono ?_
 rintro e w' ⟨rfl,hw⟩
 refine ⟨ret1_eq (congrArg (Value.int .i64) ?_),hw⟩
 rw[btN_get,btN_get,btN_get,btN_get]
 simp[wrd]
theorem infoInt:(Tryz.prog.info? 3).map (fun i=>(i.zero,i.size,i.bytes))=some (some (.int .i64 0),1,8):=by kernel_rfl
def zeros64:Array Value:=madeCells #[.int .i64 0] 64
theorem zeros64_size:zeros64.size=64:=size_madeCells _ _
theorem zeros64_get(j:Nat)(h:j<64):zeros64[j]? =some (.int .i64 0):=by simp[zeros64,madeCells,h,Nat.mod_one]
theorem make64(w:World):(Instr.makeSlice 33 (.int .i64 64) (.int .i64 64)).run Tryz.prog w=.ok (.slice (some ⟨w.heap.size,0,none⟩) 64 64) (w.alloc (.cells zeros64 3)):=
 run_make_row' 33 3 (.int .i64 0) 8 Tryz.underlying33 infoInt rfl .i64 .i64 64 (by omega) (by omega) w
theorem wrd_extract{s:ByteArray}{k:Nat}(h:k+4≤s.size):wrd (s.extract k (k+4)) 0=wrd s k:=by
 unfold wrd
 rw[btN_extract (by omega) h,btN_extract (by omega) h,btN_extract (by omega) h,btN_extract (by omega) h]
 simp only[Nat.add_zero,Nat.zero_add]
def wsF(s:ByteArray)(t j:Nat):Value:=if j<t then .int .i64 (wt s j) else .int .i64 0
theorem wsF_lt{s:ByteArray}{t j:Nat}(h:j<t):wsF s t j=.int .i64 (wt s j):=if_pos h
theorem wsF_step(s:ByteArray)(t:Nat): ∀j,j<64→(if j=t then Value.int .i64 (wt s t) else wsF s t j)=wsF s (t+1) j:=by
 intro j _
 unfold wsF
 by_cases h:j=t
 ·subst h;rw[if_pos rfl,if_pos (by omega)]
 rw[if_neg h]
 by_cases h2:j<t
 ·rw[if_pos h2,if_pos (by omega)]
 rw[if_neg h2,if_neg (by omega)]
theorem row_of_owns{w:World}{base:Nat}{e:TypeId}{v:Value}{n m:Nat}{f:Nat→Value}{xs:List Value}(h:w.ownsRow base e 1 v (m+n) xs)(hn:0<n)(hx:xs=[]++(List.range n).map f)(hm:m=0:=by rfl):
 ∃g cap,v=.slice (some ⟨g,0,none⟩) n cap∧Row w g e n f∧base≤g:=by
 subst hm
 rw[Nat.zero_add] at h
 rw[List.nil_append] at hx
 rcases h.2 with ⟨_,h0⟩|⟨g,cap,cur,rfl,hb,hg,h1,h2,h3,h4⟩
 ·omega
 refine ⟨g,cap,rfl,⟨cur,hg,by omega,fun j hj=> ?_⟩,hb⟩
 rw[hx] at h4
 have e1:(cur.toList.take (n*1))[j]? =some (f j):=by rw[h4];simp[hj]
 rw[List.getElem?_take,if_pos (by omega)] at e1
 simpa using e1
theorem mixed_row(W:World)(n1 n2:Nat){i1 i2:Int}{a b c e f g:Nat}(h1:i1=(n1:Int))(h2:i2=(n2:Int)):
 Row (W.alloc (.cells #[.int .i64 i1,.int .i64 a,.int .i64 b,.int .i64 c,.int .i64 i2,.int .i64 e,.int .i64 f,.int .i64 g] 3)) W.heap.size 3 8 (fun j=> .int .i64 ((E8.mk n1 a b c n2 e f g).nth j)):=by
 subst h1 h2
 exact Row.new W _ 3 8 _ (by simp) (fun j hj=>E8.cells_get (E8.mk n1 a b c n2 e f g) (fun n=> .int .i64 (n:Int)) j hj)
def plF(x y:E8)(k j:Nat):Value:=if j<k then .int .i64 (((y.nth j+x.nth j)%4294967296:Nat):Int) else .int .i64 (y.nth j)
theorem plF_at(x y:E8)(k:Nat):plF x y k k=.int .i64 (y.nth k):=if_neg (Nat.lt_irrefl _)
theorem plF_lt{x y:E8}{k j:Nat}(h:j<k):plF x y k j=.int .i64 (((y.nth j+x.nth j)%4294967296:Nat):Int):=if_pos h
theorem plF_step(x y:E8)(k:Nat): ∀j,j<8→(if j=k then Value.int .i64 (((y.nth k+x.nth k)%4294967296:Nat):Int) else plF x y k j)=plF x y (k+1) j:=by
 intro j _
 unfold plF
 by_cases h:j=k
 ·subst h;rw[if_pos rfl,if_pos (by omega)]
 rw[if_neg h]
 by_cases h2:j<k
 ·rw[if_pos h2,if_pos (by omega)]
 rw[if_neg h2,if_neg (by omega)]
theorem mixed_any(x:E8)(hx:x.ok)(kf:Nat→Nat)(hk: ∀j,kf j<4294967296)(s:ByteArray)(hs:s.size=64)(gh hc gk kc:Nat)(w:World)
 (hH:Row w gh 3 8 (fun j=> .int .i64 (x.nth j)))(hK:Row w gk 3 64 (fun j=> .int .i64 (kf j))):
 Calls Tryz.prog 189 #[.slice (some ⟨gh,0,none⟩) 8 hc,.string s,.slice (some ⟨gk,0,none⟩) 64 kc] w fun e w' =>
  ∃g,e=.returned (.slice (some ⟨g,0,none⟩) 8 8)∧Row w' g 3 8 (fun j=> .int .i64 ((mixOf kf x s).nth j))∧Old w w' ∧w.heap.size≤g:=by
 have hmk:=make64
 have HH:=hide hH
 have HK:=hide hK
 clear hH hK
 go_in
 go_wp2_with fail
 go_loopw [8] (fun i wr=> ∃t:Nat,t≤64∧i=.int .i64 t∧Hid (Row wr w.heap.size 3 64 (wsF s t))∧Hid (Old w wr)) (fun i _=>64- (intOf i).toNat)
 ·exact ⟨0,by omega,rfl,Row.new w _ 3 64 _ (by rw[zeros64_size];omega) (fun j hj=>zeros64_get j hj),(Only.refl _ w).alloc _⟩
 obtain ⟨t,ht,rfl,HW,HO⟩:=hrel
 by_cases h64:t<64
 ·by_cases h16:t<16
  ·have hsz:(s.extract (4*t) (4*t+4)).size=4:=by rw[ByteArray.size_extract];omega
   have HB:=hide (fun (w1:World)=>byte4_w (s.extract (4*t) (4*t+4)) w1 hsz)
   have hfr:=(uh HW).thaw
   have hce:=(uh HW).cell t h64
   have hsb:(4:Int)*(t:Int)+4≤64:=by omega
   have hs0:(0:Int)≤4*(t:Int):=by omega
   have hs1:(4:Int)*(t:Int)≤4*(t:Int)+4:=by omega
   have hs2:((4:Int)*(t:Int)).toNat=4*t:=by omega
   have hs3:((4:Int)*(t:Int)+4).toNat=4*t+4:=by omega
   have HE:Hid (wrd (s.extract (4*t) (4*t+4)) 0=wt s t):=by rw[wt_low s t h16];exact wrd_extract (by omega)
   clear hsz
   go_wp2_with (go_at_call 282;refine (uh HB _).mono ?_;rintro e w1 ⟨rfl,m,rfl⟩;rw[uh HE])
   go_roundw
   ·refine ⟨t+1,by omega,by go_num, ?_, ?_⟩
    ·exact (((uh HW).drewN m).set t h64 _).congr (wsF_step s t)
    exact (((uh HO).drewN m).setCell (p:=⟨w.heap.size,t,none⟩) (fun h=>absurd h (Nat.lt_irrefl _)) _)
   case measure=>simp[intOf];omega
  have hfr:=(uh HW).thaw
  have hce:=(uh HW).cell t h64
  have c1:=(uh HW).cell (t- 15) (by omega)
  have c14:=(uh HW).cell (t- 2) (by omega)
  have c9:=(uh HW).cell (t- 7) (by omega)
  have c0:=(uh HW).cell (t- 16) (by omega)
  rw[wsF_lt (by omega)] at c1 c14 c9 c0
  have i1:((t:Int)- 15).toNat=t- 15:=by omega
  have i2:((t:Int)- 2).toNat=t- 2:=by omega
  have i3:((t:Int)- 7).toNat=t- 7:=by omega
  have i4:((t:Int)- 16).toNat=t- 16:=by omega
  have n1:(0:Int)≤(t:Int)- 15:=by omega
  have n2:(0:Int)≤(t:Int)- 2:=by omega
  have n3:(0:Int)≤(t:Int)- 7:=by omega
  have n4:(0:Int)≤(t:Int)- 16:=by omega
  have m1:(t:Int)- 15<64:=by omega
  have m2:(t:Int)- 2<64:=by omega
  have m3:(t:Int)- 7<64:=by omega
  have m4:(t:Int)- 16<64:=by omega
  have HF:=hide (wt_high s t (by omega))
  have b1:=wt_lt s (t- 15)
  have b14:=wt_lt s (t- 2)
  have b9:=wt_lt s (t- 7)
  have b0:=wt_lt s (t- 16)
  generalize wt s (t- 15)=a at c1 b1 HF
  generalize wt s (t- 2)=b at c14 b14 HF
  generalize wt s (t- 7)=c at c9 b9 HF
  generalize wt s (t- 16)=d at c0 b0 HF
  have e0:=sm0_i b1
  have e1:=sm1_i b14
  have l0:=sm0_lt b1
  have l1:=sm1_lt b14
  generalize sm0 a=A at e0 l0 HF
  generalize sm1 b=B at e1 l1 HF
  go_wp2_with fail
  refine (turned_c a 7 7 rfl b1 (by omega) (by omega) _).mono ?_
  rintro e w1 ⟨rfl,m,rfl⟩
  go_wp2_with fail
  refine (turned_c a 18 18 rfl b1 (by omega) (by omega) _).mono ?_
  rintro e w1 ⟨rfl,m2,rfl⟩
  go_wp2_with fail
  refine (turned_c b 17 17 rfl b14 (by omega) (by omega) _).mono ?_
  rintro e w1 ⟨rfl,m3,rfl⟩
  go_wp2_with fail
  refine (turned_c b 19 19 rfl b14 (by omega) (by omega) _).mono ?_
  rintro e w1 ⟨rfl,m4,rfl⟩
  go_wp2_with fail
  generalize m+m2+m3+m4=mm
  go_big_region
  go_wp2
  go_roundw
  ·have hv:Value.int .i64 (((B:Int)+c+A+d)%4294967296)=.int .i64 (wt s t):=by rw[uh HF];congr 1
   refine ⟨t+1,by omega,by go_num, ?_, ?_⟩
   ·rw[hv];exact (((uh HW).drewN (mm+1)).set t h64 _).congr (wsF_step s t)
   exact (((uh HO).drewN (mm+1)).setCell (p:=⟨w.heap.size,t,none⟩) (fun h=>absurd h (Nat.lt_irrefl _)) _)
  case measure=>simp[intOf];omega
 have ht64:t=64:=by omega
 rw[ht64] at HW
 clear ht64
 have HHr:=hide ((uh HH).old (uh HO))
 obtain ⟨i0,hi0,hz0,hz1,hz2⟩:=info_parts infoInt
 have hbs:=(uh HO).size
 have HN:Hid (∀j u,((List.range 8).map (fun j=>Value.int .i64 (x.nth j)))[j]? =some u→wr.cell? ((⟨gh,0,none⟩:Addr).add j)=some u):=by
  intro j u hu
  have hj:j<8:=by have:=(List.getElem?_eq_some_iff.1 hu).1;simpa using this
  rw[Addr.add_lit,Nat.zero_add,(uh HHr).cell j hj]
  simpa [hj] using hu
 go_wp2_with (at_builtin;refine wpList_append_own _ rfl (.tmp 85) (.tmp 86) 33 rfl wr.heap.size 3 i0 (.int .i64 0) 1 8 Tryz.underlying33 hi0 hz0 hz1 hz2 rfl (by decide) (.slice none 0 0) 0 [] rfl (World.ownsRow_nil _ _ _ _) ⟨gh,0,none⟩ 8 hc ((List.range 8).map (fun j=>Value.int .i64 (x.nth j))) rfl (by simp) (uh HN) (by intro u hu;simp at hu;obtain ⟨_,_,rfl⟩:=hu;rfl) (by unfold maxLen;omega) (by omega) (Nat.le_refl _) ?_;intro v1 w1 ho1 hg1 _;obtain ⟨g1,cap1,hv1,hR1,hb1⟩:=row_of_owns ho1 (by omega) rfl;subst hv1;have HO1:=hide (((uh HO).grown hg1 (fun k _ e=>by cases e)):Old w w1);have HW1:=hide ((uh HW).kept ((Only.refl (fun _=>False) wr).grown hg1 (fun k _ e=>by cases e)) (fun x=>x));have HV1:=hide hR1;clear ho1 hg1 hR1)
 have HK1:=hide ((uh HK).old (uh HO1))
 have hg1s:w.heap.size<g1:=by have:=(uh HW).lt;omega
 clear HHr HN HO HW HK
 go_loopw [13,14] (fun v i wr=> ∃t g cap:Nat,t≤64∧i=.int .i64 t∧v=.slice (some ⟨g,0,none⟩) 8 cap∧Hid (Row wr g 3 8 (fun j=> .int .i64 ((rounds kf (wt s) t x).nth j)))∧Hid (Row wr w.heap.size 3 64 (wsF s 64))∧Hid (Row wr gk 3 64 (fun j=> .int .i64 (kf j)))∧Hid (Old w wr)∧w.heap.size<g∧Hid (0<t→cap=8)) (fun _ i _=>64- (intOf i).toNat)
 ·exact ⟨0,g1,cap1,by omega,rfl,rfl,HV1,HW1,HK1,HO1,hg1s,(fun h=>absurd h (by omega))⟩
 obtain ⟨t,g,cap,ht,rfl,rfl,HV,HW,HK,HO,hgs,HC⟩:=hrel
 by_cases h64:t<64
 ·have HRD:Hid (rounds kf (wt s) (t+1) x=(rounds kf (wt s) t x).round (kf t) (wt s t)):=rfl
  have hok:=rounds_ok kf (wt s) t hx
  have bk:=hk t
  have bw:=wt_lt s t
  have ck:=(uh HK).cell t h64
  have cw:=(uh HW).cell t h64
  rw[wsF_lt h64] at cw
  generalize rounds kf (wt s) t x=y at HV HRD hok
  obtain ⟨a,b,c,d,e,f,g8,h8⟩:=y
  obtain ⟨ba,bb,bc,bd,be,bf,bg,bh⟩:=hok
  have c0:wr.cell? ⟨g,0,none⟩=some (.int .i64 a):=(uh HV).cell 0 (by omega)
  have c1:wr.cell? ⟨g,1,none⟩=some (.int .i64 b):=(uh HV).cell 1 (by omega)
  have c2:wr.cell? ⟨g,2,none⟩=some (.int .i64 c):=(uh HV).cell 2 (by omega)
  have c3:wr.cell? ⟨g,3,none⟩=some (.int .i64 d):=(uh HV).cell 3 (by omega)
  have c4:wr.cell? ⟨g,4,none⟩=some (.int .i64 e):=(uh HV).cell 4 (by omega)
  have c5:wr.cell? ⟨g,5,none⟩=some (.int .i64 f):=(uh HV).cell 5 (by omega)
  have c6:wr.cell? ⟨g,6,none⟩=some (.int .i64 g8):=(uh HV).cell 6 (by omega)
  have c7:wr.cell? ⟨g,7,none⟩=some (.int .i64 h8):=(uh HV).cell 7 (by omega)
  simp only at ba bb bc bd be bf bg bh
  have ech:=chs_i be bf bg
  have emj:=mjr_i ba bb bc
  have e0:=bg0_i ba
  have e1:=bg1_i be
  have lch:=chs_lt (f:=f) (g:=g8) be
  have lmj:=mjr_lt (c:=c) ba bb
  have l0:=bg0_lt ba
  have l1:=bg1_lt be
  have HR2:Hid (rounds kf (wt s) (t+1) x=⟨(h8+bg1 e+chs e f g8+kf t+wt s t+(bg0 a+mjr a b c))%4294967296,a,b,c,(d+(h8+bg1 e+chs e f g8+kf t+wt s t))%4294967296,e,f,g8⟩):=uh HRD
  clear HRD
  generalize chs e f g8=CH at ech lch HR2
  generalize mjr a b c=MJ at emj lmj HR2
  generalize bg0 a=B0 at e0 l0 HR2
  generalize bg1 e=B1 at e1 l1 HR2
  generalize kf t=kt at ck bk HR2
  generalize wt s t=wtt at cw bw HR2
  go_wp2_with fail
  go_quiet (fail)
  go_wp2_with fail
  go_quiet (fail)
  go_wp2_with fail
  go_quiet (first
   |(go_at_call_of 283 (Value.int IntKind.i64 6);exact quiet_more (turned_c e 6 6 rfl be (by omega) (by omega) _))
   |(go_at_call_of 283 (Value.int IntKind.i64 11);exact quiet_more (turned_c e 11 11 rfl be (by omega) (by omega) _))
   |(go_at_call_of 283 (Value.int IntKind.i64 25);exact quiet_more (turned_c e 25 25 rfl be (by omega) (by omega) _)))
  go_wp2_with fail
  refine (turned_c a 2 2 rfl ba (by omega) (by omega) _).mono ?_
  rintro e w2 ⟨rfl,m2,rfl⟩
  go_wp2_with fail
  refine (turned_c a 13 13 rfl ba (by omega) (by omega) _).mono ?_
  rintro e w2 ⟨rfl,m3,rfl⟩
  go_wp2_with fail
  refine (turned_c a 22 22 rfl ba (by omega) (by omega) _).mono ?_
  rintro e w2 ⟨rfl,m4,rfl⟩
  go_wp2_with fail
  go_region_held3 (fun w' =>w'.cell? ⟨g,0,none⟩=some (.int .i64 a)∧w'.cell? ⟨g,1,none⟩=some (.int .i64 b)∧w'.cell? ⟨g,2,none⟩=some (.int .i64 c)∧w'.cell? ⟨g,3,none⟩=some (.int .i64 d)∧w'.cell? ⟨g,4,none⟩=some (.int .i64 e)∧w'.cell? ⟨g,5,none⟩=some (.int .i64 f)∧w'.cell? ⟨g,6,none⟩=some (.int .i64 g8)) (go_keep) (fail)
  go_wp2
  go_roundw
  ·refine ⟨t+1,wr.heap.size,8,by omega,by go_num,rfl, ?_,((uh HW).drewN _).alloc _,((uh HK).drewN _).alloc _,(((uh HO).drewN _).alloc _),by have:=(uh HV).lt;omega,fun _=>rfl⟩
   rw[uh HR2]
   exact mixed_row _ _ _ (by congr 2) (by congr 2)
  case measure=>simp[intOf];omega
 have ht64:t=64:=by omega
 have hcap:cap=8:=uh HC (by omega)
 subst hcap
 rw[ht64] at HV
 have HHr:=hide ((uh HH).old (uh HO))
 have hok:=rounds_ok kf (wt s) 64 hx
 have HM:Hid (∀j,(mixOf kf x s).nth j=((rounds kf (wt s) 64 x).nth j+x.nth j)%4294967296):=fun j=>E8.plus_nth _ _ j
 have hgl:=(uh HH).lt
 clear HC ht64 HW HK
 generalize rounds kf (wt s) 64 x=y at HV hok HM
 have HHO:=HO
 go_wp2_with fail
 go_loopw [21] (fun i wr=> ∃k:Nat,k≤8∧i=.int .i64 k∧Hid (Row wr g 3 8 (plF x y k))∧Hid (Old w wr)) (fun i _=>8- (intOf i).toNat)
 ·exact ⟨0,by omega,rfl,(uh HV).congr (fun j _=>rfl),HO⟩
 obtain ⟨k,hk8,rfl,HP,HQ⟩:=hrel
 by_cases h8:k<8
 ·have cx:=((uh HH).old (uh HQ)).cell k h8
  have cv:=(uh HP).cell k h8
  have hfz:=(uh HP).thaw
  rw[plF_at] at cv
  have bx:=E8.nth_lt hx k
  have by8:=E8.nth_lt hok k
  have hk0:(0:Int)≤(k:Int):=by omega
  have hk1:(k:Int)<8:=by omega
  generalize hxn:x.nth k=xn at cx bx
  generalize hyn:y.nth k=yn at cv by8
  have HXN:=hide hxn
  have HYN:=hide hyn
  clear hxn hyn
  go_wp2_with fail
  go_big_region
  go_wp2
  go_roundw
  ·have hv:Value.int .i64 (((yn:Int)+xn)%4294967296)=.int .i64 (((y.nth k+x.nth k)%4294967296:Nat):Int):=by rw[uh HXN,uh HYN];congr 1
   refine ⟨k+1,by omega,by go_num, ?_, ?_⟩
   ·rw[hv];exact (((uh HP).set k h8 _).drew).congr (plF_step x y k)
   exact (((uh HQ).setCell (p:=⟨g,k,none⟩) (fun h=>absurd (show g<w.heap.size from h) (by omega)) _).drew)
  case measure=>simp[intOf];omega
 have hkk:k=8:=by omega
 go_wp2
 go_ret
 refine ⟨g,rfl, ?_,uh HQ,by omega⟩
 rw[hkk] at HP
 exact (uh HP).congr (fun j hj=>by rw[plF_lt hj,uh HM j])
def kList:List Nat:=[
 0x428a2f98,0x71374491,0xb5c0fbcf,0xe9b5dba5,0x3956c25b,0x59f111f1,0x923f82a4,0xab1c5ed5,
 0xd807aa98,0x12835b01,0x243185be,0x550c7dc3,0x72be5d74,0x80deb1fe,0x9bdc06a7,0xc19bf174,
 0xe49b69c1,0xefbe4786,0x0fc19dc6,0x240ca1cc,0x2de92c6f,0x4a7484aa,0x5cb0a9dc,0x76f988da,
 0x983e5152,0xa831c66d,0xb00327c8,0xbf597fc7,0xc6e00bf3,0xd5a79147,0x06ca6351,0x14292967,
 0x27b70a85,0x2e1b2138,0x4d2c6dfc,0x53380d13,0x650a7354,0x766a0abb,0x81c2c92e,0x92722c85,
 0xa2bfe8a1,0xa81a664b,0xc24b8b70,0xc76c51a3,0xd192e819,0xd6990624,0xf40e3585,0x106aa070,
 0x19a4c116,0x1e376c08,0x2748774c,0x34b0bcb5,0x391c0cb3,0x4ed8aa4a,0x5b9cca4f,0x682e6ff3,
 0x748f82ee,0x78a5636f,0x84c87814,0x8cc70208,0x90befffa,0xa4506ceb,0xbef9a3f7,0xc67178f2]
def kNum(j:Nat):Nat:=kList.getD j 0
theorem kNum_all:(List.range 64).all (fun j=>decide (kNum j<4294967296))=true:=by decide+kernel
theorem kNum_lt(j:Nat):kNum j<4294967296:=by
 by_cases h:j<64
 ·have:=List.all_eq_true.1 kNum_all j (List.mem_range.2 h);simpa using this
 unfold kNum;rw[List.getD_eq_getElem?_getD,List.getElem?_eq_none (by simp[kList];omega)];simp
theorem klist_get{arr:Array Value}(h:arr=(kList.map (fun n:Nat=>Value.int .i64 (n:Int))).toArray)(j:Nat)(hj:j<64):arr[j]? =some (.int .i64 (kNum j)):=by
 have hl:j<kList.length:=hj
 rw[h,List.getElem?_toArray,List.getElem?_map,kNum,List.getD_eq_getElem?_getD,List.getElem?_eq_getElem hl]
 rfl
theorem roots_any(w:World):
 Calls Tryz.prog 188 #[] w fun e w' =>e=.returned (.slice (some ⟨w.heap.size,0,none⟩) 64 64)∧Row w' w.heap.size 3 64 (fun j=> .int .i64 (kNum j))∧Old w w' :=by
 go_in
 go_wp2
 go_ret
 refine ⟨rfl,Row.new w _ 3 64 _ (by simp) (fun j hj=> ?_),(Only.refl _ w).alloc _⟩
 exact klist_get (by kernel_rfl) j hj
def pz(s:ByteArray):Nat→ByteArray
 |0=>s
 |z+1=>pz s z++⟨#[0]⟩
theorem pz_size(s:ByteArray)(z:Nat):(pz s z).size=s.size+z:=by
 induction z with
 |zero=>rfl
 |succ z ih=>rw[pz,ByteArray.size_append,ih];rfl
def zeroN(n:Nat):Nat:=(119- n%64)%64
def padRef(s:ByteArray):ByteArray:=(pz (s++⟨#[128]⟩) (zeroN s.size)++⟨(be4 (s.size/536870912)).toArray⟩)++⟨(be4 (8*s.size%4294967296)).toArray⟩
theorem padRef_size(s:ByteArray):(padRef s).size=s.size+9+zeroN s.size:=by
 unfold padRef
 rw[ByteArray.size_append,ByteArray.size_append,pz_size,ByteArray.size_append]
 show s.size+1+zeroN s.size+4+4=_
 omega
theorem padRef_whole(s:ByteArray):(padRef s).size%64=0:=by rw[padRef_size];unfold zeroN;omega
def h0:E8:=⟨0x6a09e667,0xbb67ae85,0x3c6ef372,0xa54ff53a,0x510e527f,0x9b05688c,0x1f83d9ab,0x5be0cd19⟩
theorem h0_ok:h0.ok:=by refine ⟨?_, ?_, ?_, ?_, ?_, ?_, ?_, ?_⟩<;>decide
def foldB(p:ByteArray):Nat→E8
 |0=>h0
 |m+1=>mixOf kNum (foldB p m) (p.extract (64*m) (64*m+64))
theorem foldB_ok(p:ByteArray)(m:Nat):(foldB p m).ok:=by
 cases m with
 |zero=>exact h0_ok
 |succ m=>exact mixOf_ok _ _ _
def outB(x:E8):Nat→ByteArray
 |0=>⟨#[]⟩
 |k+1=>outB x k++⟨(be4 (x.nth k)).toArray⟩
theorem outB_size(x:E8)(k:Nat):(outB x k).size=4*k:=by
 induction k with
 |zero=>rfl
 |succ k ih=>rw[outB,ByteArray.size_append,ih];show 4*k+4=_;omega
theorem highest_c(n:Nat)(c:Int)(hc:c=(n:Int))(w:World)(h:n<9223372036854775808):
 Calls Tryz.prog 187 #[.int .i64 c] w fun e w' =>e=.returned (.string ⟨(be4 n).toArray⟩)∧Old w w' :=by
 subst hc
 refine (highest_any n w h).mono ?_
 rintro e w' ⟨rfl,o,rfl⟩
 exact ⟨rfl,(Only.refl _ w).alloc o⟩
theorem raw_any(s:ByteArray)(w:World)(hs:s.size≤140737488355328):
 Calls Tryz.prog 108 #[.string s] w fun e w' =>e=.returned (.string (outB (foldB (padRef s) ((padRef s).size/64)) 8))∧Old w w' :=by
 go_in
 go_wp2
 go_loop [0] (fun x=> ∃z:Nat,z≤zeroN s.size∧x=.string (pz (s++⟨#[128]⟩) z)) (fun x=>match x with| .string p=>s.size+1000- p.size|_=>0)
 ·exact ⟨0,by omega,rfl⟩
 obtain ⟨z,hz,rfl⟩:=hrel
 have hsz:(pz (s++⟨#[128]⟩) z).size=s.size+1+z:=by rw[pz_size,ByteArray.size_append];rfl
 have hz64:zeroN s.size<64:=Nat.mod_lt _ (by omega)
 have hzz:z<64:=by omega
 by_cases hlt:z<zeroN s.size
 ·have hb:((((s.size:Int)+1+(z:Int))%64) !=56)=true:=by rw[bne_iff_ne];unfold zeroN at hlt hz;omega
  have hlt2:z+1≤zeroN s.size:=hlt
  clear hlt hz hz64
  go_wp2
  go_round
  ·exact ⟨z+1,hlt2,rfl⟩
  show s.size+1000- (pz (s++⟨#[128]⟩) z++⟨#[0]⟩).size<s.size+1000- (pz (s++⟨#[128]⟩) z).size
  rw[ByteArray.size_append,hsz]
  show s.size+1000- (s.size+1+z+1)<_
  omega
 have hze:z=zeroN s.size:=by omega
 have hb:((((s.size:Int)+1+(z:Int))%64) !=56)=false:=by rw[bne_eq_false_iff_eq];rw[hze];unfold zeroN;omega
 have HP:Hid (padRef s=(pz (s++⟨#[128]⟩) z++⟨(be4 (s.size/536870912)).toArray⟩)++⟨(be4 (8*s.size%4294967296)).toArray⟩):=by rw[hze];rfl
 clear hze hlt hz hz64
 generalize hq:pz (s++⟨#[128]⟩) z=q at*
 clear hq
 go_wp2_with fail
 refine (highest_c (s.size/536870912) _ (by omega) _ (by omega)).mono ?_
 rintro e w1 ⟨rfl,ho1⟩
 have HO1:=hide ho1
 clear ho1
 generalize hb1:(⟨(be4 (s.size/536870912)).toArray⟩:ByteArray)=q1 at*
 have s1:q1.size=4:=by rw[←hb1];rfl
 clear hb1
 go_wp2_with fail
 refine (highest_c (8*s.size%4294967296) _ (by omega) _ (by omega)).mono ?_
 rintro e w2 ⟨rfl,ho2⟩
 have HO2:=hide ((uh HO1).trans ho2)
 clear ho2 HO1
 generalize hb2:(⟨(be4 (8*s.size%4294967296)).toArray⟩:ByteArray)=q2 at*
 have s2:q2.size=4:=by rw[←hb2];rfl
 clear hb2
 go_wp2_with fail
 refine (roots_any _).mono ?_
 rintro e w3 ⟨rfl,hk3,ho3⟩
 have HO3:=hide ((uh HO2).trans ho3)
 have HK3:=hide hk3
 have hkl:=hk3.lt
 generalize w2.heap.size=gk at*
 clear hk3 ho3 HO2
 have hps:(q++q1++q2).size=s.size+9+z:=by rw[ByteArray.size_append,ByteArray.size_append,hsz,s1,s2];omega
 have hpw:(q++q1++q2).size%64=0:=by rw[←uh HP];exact padRef_whole s
 generalize q++q1++q2=p at*
 have HR:Hid (Row (w3.alloc (.cells #[.int .i64 1779033703,.int .i64 3144134277,.int .i64 1013904242,.int .i64 2773480762,.int .i64 1359893119,.int .i64 2600822924,.int .i64 528734635,.int .i64 1541459225] 3)) w3.heap.size 3 8 (fun j=> .int .i64 ((foldB p 0).nth j))):=
  Row.new w3 _ 3 8 _ (by simp) (fun j hj=>E8.cells_get h0 (fun n=> .int .i64 (n:Int)) j hj)
 have HPS:=hide hps
 have HPW:=hide hpw
 have hpb:p.size≤140737488356000:=by omega
 clear hps hpw s1 s2 hsz
 go_wp2_with fail
 go_loopw [5,6] (fun h i wr=> ∃m k g c:Nat,k≤p.size∧i=.int .i64 k∧h=.slice (some ⟨g,0,none⟩) 8 c∧Hid (k=64*m)∧Hid (Row wr g 3 8 (fun j=> .int .i64 ((foldB p m).nth j)))∧Hid (Row wr gk 3 64 (fun j=> .int .i64 (kNum j)))∧Hid (Old w wr)) (fun _ i _=>p.size- (intOf i).toNat)
 ·exact ⟨0,0,_,_,by omega,rfl,rfl,rfl,HR,(uh HK3).alloc _,(uh HO3).alloc _⟩
 obtain ⟨m,k,g,c,hkp,rfl,rfl,HKM,HV,HK,HO⟩:=hrel
 by_cases hlt:k<p.size
 ·have hk64:k+64≤p.size:=by have:=uh HKM;have:=uh HPW;omega
  have hex:(p.extract k (k+64)).size=64:=by rw[ByteArray.size_extract];omega
  have HM:=hide (mixed_any (foldB p m) (foldB_ok p m) kNum kNum_lt (p.extract k (k+64)) hex g c gk 64 wr (uh HV) (uh HK))
  have HN:Hid (foldB p (m+1)=mixOf kNum (foldB p m) (p.extract k (k+64))):=by rw[uh HKM];rfl
  have h1:(k:Int)+64≤(p.size:Int):=by omega
  have h2:(0:Int)≤(k:Int):=by omega
  have h3:(k:Int)≤(k:Int)+64:=by omega
  have h4:((k:Int)+64).toNat=k+64:=by omega
  clear hex
  go_wp2_with (go_at_call 189;refine (uh HM).mono ?_;rintro e w5 ⟨g5,rfl,hr5,ho5,hg5⟩;have HR5:=hide hr5;have HO5:=hide ho5;clear hr5 ho5)
  go_roundw
  ·exact ⟨m+1,k+64,g5,8,hk64,by go_num,rfl,(show k+64=64*(m+1) by have:=uh HKM;omega),by rw[uh HN];exact HR5,(uh HK).old (uh HO5),(uh HO).trans (uh HO5)⟩
  case measure=>simp[intOf];omega
 have hm:p.size/64=m:=by have:=uh HKM;omega
 have HX:Hid (foldB (padRef s) ((padRef s).size/64)=foldB p m):=hide (by rw[uh HP,hm])
 have hok:=foldB_ok p m
 clear hm HPS HPW HKM HK HR HK3 HO3
 generalize foldB p m=x at HV HX hok
 go_wp2_with fail
 go_loopw [7,8] (fun o i wr=> ∃k:Nat,k≤8∧i=.int .i64 k∧o=.string (outB x k)∧Hid (Row wr g 3 8 (fun j=> .int .i64 (x.nth j)))∧Hid (Old w wr)) (fun _ i _=>8- (intOf i).toNat)
 ·exact ⟨0,by omega,rfl,rfl,HV,HO⟩
 obtain ⟨k,hk8,rfl,rfl,HV,HO⟩:=hrel
 by_cases h8:k<8
 ·have cv:=(uh HV).cell k h8
  have hxl:=E8.nth_lt hok k
  have HG:=hide (fun (w1:World)=>highest_c (x.nth k) _ rfl w1 (by omega))
  have hol:(outB x k).size≤32:=by rw[outB_size];omega
  have HS:Hid (outB x (k+1)=outB x k++⟨(be4 (x.nth k)).toArray⟩):=rfl
  have hk1:(k:Int)<8:=by omega
  generalize hb4:(⟨(be4 (x.nth k)).toArray⟩:ByteArray)=q4 at HG HS
  have hq4:q4.size=4:=by rw[←hb4];rfl
  clear hb4
  go_wp2_with (go_at_call 187;refine (uh HG _).mono ?_;rintro e w6 ⟨rfl,ho6⟩;have HO6:=hide ho6;clear ho6)
  go_roundw
  ·exact ⟨k+1,by omega,by go_num,by rw[uh HS],(uh HV).old (uh HO6),(uh HO).trans (uh HO6)⟩
  case measure=>simp[intOf];omega
 have hkk:k=8:=by omega
 go_wp2
 go_ret
 exact ⟨ret1_eq (show Value.string (outB x k)=_ by rw[uh HX,hkk]),uh HO⟩
def digits16:ByteArray:=⟨#[48,49,50,51,52,53,54,55,56,57,97,98,99,100,101,102]⟩
def hexB(raw:ByteArray):Nat→ByteArray
 |0=>⟨#[]⟩
 |k+1=>hexB raw k++digits16.extract (btN raw k/16) (btN raw k/16+1)++digits16.extract (btN raw k%16) (btN raw k%16+1)
theorem hexB_size(raw:ByteArray)(k:Nat):(hexB raw k).size=2*k:=by
 induction k with
 |zero=>rfl
 |succ k ih=>
  have:=btN_lt raw k
  have h16:digits16.size=16:=rfl
  rw[hexB,ByteArray.size_append,ByteArray.size_append,ih,ByteArray.size_extract,ByteArray.size_extract,h16]
  omega
def digestOf(s:ByteArray):ByteArray:=hexB (outB (foldB (padRef s) ((padRef s).size/64)) 8) 32
theorem refDigest_any(s:ByteArray)(w:World)(hs:s.size≤140737488355328):
 Calls Tryz.prog 57 #[.string s] w fun e w' =>e=.returned (.string (digestOf s))∧Old w w' :=by
 have HR:=hide (fun (w1:World)=>raw_any s w1 hs)
 unfold digestOf
 have hrs:(outB (foldB (padRef s) ((padRef s).size/64)) 8).size=32:=outB_size _ 8
 generalize outB (foldB (padRef s) ((padRef s).size/64)) 8=raw at*
 go_in
 go_wp2_with (go_at_call 108;refine (uh HR _).mono ?_;rintro e w1 ⟨rfl,ho⟩;have HO:=hide ho;clear ho)
 go_loopw [5,6] (fun o i wr=> ∃k:Nat,k≤32∧i=.int .i64 k∧o=.string (hexB raw k)∧Hid (Old w wr)) (fun _ i _=>32- (intOf i).toNat)
 ·exact ⟨0,by omega,rfl,rfl,HO⟩
 obtain ⟨k,hk,rfl,rfl,HQ⟩:=hrel
 by_cases hlt:k<32
 ·have hb:=btN_lt raw k
  have hkr:k<raw.size:=by omega
  have hg:=btN_get hkr
  have hsz:=hexB_size raw k
  have HS:Hid (hexB raw (k+1)=hexB raw k++digits16.extract (btN raw k/16) (btN raw k/16+1)++digits16.extract (btN raw k%16) (btN raw k%16+1)):=rfl
  unfold digits16 at HS
  generalize btN raw k=c at hb hg HS
  have h1:(0:Int)≤(c:Int)/16:=by omega
  have h2:(c:Int)/16+1≤16:=by omega
  have h3:(c:Int)/16≤(c:Int)/16+1:=by omega
  have h4:(0:Int)≤(c:Int)%16:=by omega
  have h5:(c:Int)%16+1≤16:=by omega
  have h6:(c:Int)%16≤(c:Int)%16+1:=by omega
  have t1:((c:Int)/16).toNat=c/16:=by omega
  have t2:((c:Int)/16+1).toNat=c/16+1:=by omega
  have t3:((c:Int)%16).toNat=c%16:=by omega
  have t4:((c:Int)%16+1).toNat=c%16+1:=by omega
  go_wp2_with fail
  go_quiet (fail)
  go_wp2
  go_roundw
  ·exact ⟨k+1,by omega,by go_num,by rw[uh HS],(uh HQ).drewN _⟩
  case measure=>simp[intOf];omega
 have hkk:k=32:=by omega
 go_wp2
 go_ret
 exact ⟨ret1_eq (show Value.string (hexB raw k)=_ by rw[hkk]),uh HQ⟩
end Go.Proofs.YtndfmgdhiallpaaGreatDoor
