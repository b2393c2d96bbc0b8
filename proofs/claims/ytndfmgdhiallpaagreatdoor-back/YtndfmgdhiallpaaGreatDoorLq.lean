import Derived.Test.YtndfmgdhiallpaaGreatDoorLo
import Derived.Test.YtndfmgdhiallpaaGreatDoorJi
import Derived.Test.YtndfmgdhiallpaaGreatDoorMr
import Derived.Test.YtndfmgdhiallpaaGreatDoorMy
set_option maxRecDepth 100000
set_option maxHeartbeats 4000000
namespace Go.Proofs.YtndfmgdhiallpaaGreatDoor
open Go.RowKit Go.Maps
theorem bit_low(P i k:Nat)(h:P/2^i%2=0)(a:Nat):a^^^(P%2^(i+1)*2^k)=a^^^(P%2^i*2^k):=by
 rw[Nat.mod_pow_succ,h,Nat.mul_zero,Nat.add_zero]
theorem bit_high(P i k:Nat)(h:P/2^i%2=1)(a:Nat):a^^^(P%2^(i+1)*2^k)=a^^^(P%2^i*2^k)^^^2^(k+i):=by
 have h1:P%2^i*2^k<2^(k+i):=by
  rw[Nat.pow_add,Nat.mul_comm]
  exact Nat.mul_lt_mul_of_pos_left (Nat.mod_lt _ (Nat.two_pow_pos i)) (Nat.two_pow_pos k)
 have h2:=xor_parts (k+i) (P%2^i*2^k) 0 0 1 h1 (Nat.two_pow_pos _)
 rw[Nat.mul_zero,Nat.add_zero,Nat.zero_add,Nat.mul_one,Nat.xor_zero,Nat.zero_xor,Nat.mul_one] at h2
 rw[Nat.xor_assoc,h2,Nat.mod_pow_succ,h,Nat.mul_one,Nat.add_mul,Nat.pow_add,Nat.mul_comm (2^i)]
theorem set_bit(l:List UInt8)(q r:Nat)(hq:q<l.length)(hr:r<8):numX (l.set q (UInt8.ofNat ((l[q]).toNat^^^2^r)))=numX l^^^2^(8*q+r):=by
 have h1:(l[q]).toNat^^^2^r<2^8:=Nat.xor_lt_two_pow (l[q]).toNat_lt (Nat.pow_lt_pow_right (by omega) hr)
 rw[numX_set l q _ hq,UInt8.toNat_ofNat_of_lt' h1,←Nat.xor_assoc (l[q]).toNat,Nat.xor_self,Nat.zero_xor,Nat.add_comm (8*q),Nat.pow_add]
theorem turnedW(v:Value)(n:Nat)(hn:n≤maxLen)(at' pt ct:Int)(hat: -9223372036854775808≤at' ∧at' ≤9223372036854775807)(hpt: -9223372036854775808≤pt∧pt≤9223372036854775807)(hct: -9223372036854775808≤ct∧ct≤9223372036854775807)(mo:ByteArray)(hmo:mo.size≤140737488351232)(w:World)(hv:RawAt w v n)(hw:Awk w):
 Calls Tryz.prog 12 #[v,.int .i64 at',.int .i64 pt,.int .i64 ct,.string mo] w fun r w' =>r=.returned (.bool true)∧Old w w' :=by
 have H1:=hide (awakeX w hw)
 have HW:=hide hw
 have HWW:=hide hw
 have HV:=hide hv
 have HAT:=hide hat
 have HPT:=hide hpt
 have HCT:=hide hct
 obtain ⟨ao,cp,rfl⟩:=hv.len
 clear hw hv hat hpt hct
 go_in
 go_wp2_with fail
 refine (uh H1).mono ?_
 rintro r w1 ⟨rfl,ho1⟩
 have HO1:=hide ho1
 have HW1:=hide ((uh HW).old ho1)
 have HV1:=hide ((uh HV).old ho1)
 clear ho1 H1 HW HV
 go_wp2_with fail
 refine (entriesA _ n hn w1 (uh HV1)).mono ?_
 rintro r w2 ⟨u,T,rfl,ho2,her,hmd,hTl,_⟩
 have HO2:=hide (Only.trans (uh HO1) ho2)
 have HW2:=hide ((uh HW1).old ho2)
 have HE2:=hide her
 have HMD:=hide hmd
 have HTL:=hide hTl
 clear ho2 her hmd hTl HO1 HW1 HV1
 go_wp2_with fail
 refine (risingA u T (by have:=uh HTL;omega) w2 (uh HE2)).mono ?_
 rintro r w3 ⟨y,R,rfl,ho3,her3,hpm,hso,_⟩
 have HO3:=hide (Only.trans (uh HO2) ho3)
 have HW3:=hide ((uh HW2).old ho3)
 have HE3:=hide her3
 have HR:=hide (ris_of (uh HMD) (uh HTL) hpm hso)
 clear ho3 her3 hpm hso HO2 HW2 HE2 HMD HTL
 go_wp2_with fail
 refine (madeE (uh HE3) (uh HR)).mono ?_
 rintro r w4 ⟨rfl,ho4⟩
 have HO4:=hide (Only.trans (uh HO3) ho4)
 have HW4:=hide ((uh HW3).old ho4)
 have HE4:=hide ((uh HE3).old ho4)
 clear ho4 HO3 HW3 HE3
 have HU:=hide (uh HR).unp
 have HPL:=hide (uh HR).plain
 have hR20:=(uh HR).len
 have HLN:Hid (22≤(laidL sPre (R.map plainIt)).length∧(laidL sPre (R.map plainIt)).length≤40000):=by
  have h1:=(uh HR).laid.2.2
  have h2:=laidL_len sPre (R.map plainIt)
  unfold Hid;omega
 clear HR
 generalize hLL:laidL sPre (R.map plainIt)=L at*
 have HLL:=hide hLL
 clear hLL
 have hzs:=strB_size L
 have hzl:(strB L).size≤40000:=by rw[hzs];exact (uh HLN).2
 have hz22:22≤(strB L).size:=by rw[hzs];exact (uh HLN).1
 have HZS:=hide hzs
 clear hzs
 obtain ⟨z,hz⟩: ∃z,z=strB L:=⟨_,rfl⟩
 rw[←hz] at hzl hz22 HZS HU ⊢
 have HZ:=hide hz
 clear hz
 go_wp2_with fail
 refine (vUnpackA z (by omega) w4 (uh HW4).1 (uh HW4).2.1).mono ?_
 rintro r w5 ⟨ho5,hr5⟩
 have HO5:=hide (Only.trans (uh HO4) ho5)
 have HW5:=hide ((uh HW4).old ho5)
 have HE5:=hide ((uh HE4).old ho5)
 clear ho5 HO4 HW4 HE4
 rw[uh HU] at hr5
 clear HU
 rcases hr5 with ⟨_,q,rfl,hf,_⟩|⟨e1,_⟩
 case inr=>exact absurd rfl e1
 have HF:=hide hf
 clear hf
 obtain ⟨yo,yc,rfl⟩:=(uh HE5).shape
 obtain ⟨qo,qc,rfl⟩: ∃qo qc,q=.slice qo R.length qc:=by
  obtain ⟨_,⟨rfl,hz⟩|⟨b',c',cur',rfl,_⟩⟩:=uh HF
  ·rw[List.length_map] at hz;rw[hz];exact ⟨none,0,rfl⟩
  rw[List.length_map];exact ⟨_,_,rfl⟩
 go_wp2_with fail
 go_loopw [16] (fun x W=> ∃i:Nat,i≤R.length∧x=.int .i64 i∧Hid (Old w5 W)) (fun x _=>R.length- (intOf x).toNat)
 ·exact ⟨0,by omega,rfl,Only.refl _ _⟩
 obtain ⟨i,hi,rfl,HOI⟩:=hrel
 by_cases hil:i<R.length
 ·have hilI:(i:Int)<(R.length:Int):=by omega
  obtain ⟨g1,c1,hve,hent⟩:=((uh HE5).old (uh HOI)).slice (by omega)
  obtain ⟨_,a1,_,a3⟩:=hent i hil
  obtain ⟨g2,c2,hvf,_,hfil⟩:=((uh HF).old (uh HOI)).slice (by rw[List.length_map];omega)
  obtain ⟨b1,b2⟩:=hfil i (by rw[List.length_map];exact hil)
  have eg:(R.map (fun e=>(e.nm,e.dt))).getD i default=((R.getD i ent0).nm,(R.getD i ent0).dt):=by
   rw[List.getD_eq_getElem?_getD,List.getElem?_map,List.getElem?_eq_getElem hil,List.getD_eq_getElem?_getD,List.getElem?_eq_getElem hil];rfl
  rw[eg] at b1 b2
  rw[List.length_map] at hvf
  injection hve with hq1 hq2 hq3
  injection hvf with hp1 hp2 hp3
  subst hq1 hq3 hp1 hp3
  clear hent hfil eg hq2 hp2
  simp only at b1 b2
  generalize (R.getD i ent0).nm=nm at*
  generalize (R.getD i ent0).dt=dt at*
  have eb1:(nm.toList !=nm.toList)=false:=by simp
  have eb2:(dt.toList !=dt.toList)=false:=by simp
  go_wp2_with fail
  go_quiet (fail)
  go_wp2_with fail
  go_roundw
  ·exact ⟨i+1,by omega,by go_num,(uh HOI).drewN _⟩
  case measure=>simp[intOf];omega
 have hilI:¬(i:Int)<(R.length:Int):=by omega
 have HO6:=hide (Only.trans (uh HO5) (uh HOI))
 have HW6:=hide ((uh HW5).old (uh HOI))
 have hcb:=Lib.run_convert_string_bytes (P:=Tryz.prog) wr 9 62 5 z Tryz.underlying9 Tryz.underlying62 Tryz.underlying5
 have HSR:=hide (SRow.made wr z)
 have HOB:=hide (bytesWorld_only wr z)
 have HOBW:Hid (w.heap.size≤wr.heap.size):=(uh HO6).size
 have HP1:=hide (fun W=>kpick_any at' (uh HAT).1 (uh HAT).2 (8*z.size- 31) (by omega) (by omega) W)
 have hk1:=pickN_lt at' (show 0<8*z.size- 31 by omega)
 have HP2:=hide (fun W=>kpick_any pt (uh HPT).1 (uh HPT).2 4294967295 (by omega) (by omega) W)
 have hk2:=pickN_lt pt (show 0<4294967295 by omega)
 rw[show ((8*z.size- 31:Nat):Int)=8*(z.size:Int)- 31 by omega] at HP1
 generalize pickN at' (8*z.size- 31)=k at*
 generalize pickN pt 4294967295=pp at*
 clear HO5 HW5 HE5 HF HOI HAT HPT
 go_wp2_with fail
 refine (uh HP1 _).mono ?_
 rintro r w7 ⟨rfl,rfl⟩
 have HO8:=hide (Only.trans (uh HO6) (uh HOB))
 have HW8:=hide ((uh HW6).old (uh HOB))
 clear hcb HP1 HO6 HW6 HOB
 have HZL:Hid (z.data.toList=L):=by
  unfold Hid;rw[uh HZ];exact sL_strB L
 rw[uh HZL] at HSR
 generalize Lib.bytesWorld wr 5 z=W at*
 generalize wr.heap.size=gb at*
 generalize grownCap wr z.size 0 5=cap at*
 go_wp2_with fail
 refine (uh HP2 _).mono ?_
 rintro r w8 ⟨rfl,rfl⟩
 obtain ⟨P,hP⟩: ∃P,1+pp=P:=⟨_,rfl⟩
 have hPI:(1:Int)+(pp:Int)=(P:Int):=by omega
 have hP0:P≠0:=by omega
 have hP32:P<4294967296:=by omega
 clear hP HP2
 go_wp2_with fail
 clear hPI
 go_loopw [19] (fun x W=> ∃(i:Nat) (l:List UInt8),i≤32∧x=.int .i64 i∧Hid (l.length=z.size)∧Hid (SRow W gb l)∧Hid (numX l=numX L^^^(P%2^i*2^k))∧Hid (Old w W)) (fun x _=>32- (intOf x).toNat)
 ·exact ⟨0,L,by omega,rfl,(uh HZS).symm,HSR,by unfold Hid;rw[Nat.pow_zero,Nat.mod_one,Nat.zero_mul,Nat.xor_zero],HO8⟩
 obtain ⟨i,l,hi32,rfl,HLEN,HSL,HNX,HOW⟩:=hrel
 clear HSR HO8
 by_cases hil32:i<32
 ·have hi32I:(i:Int)<32:=by omega
  have hi0' :(0:Int)≤(i:Int):=by omega
  have hi64:(i:Int)<64:=by omega
  have htn:((i:Nat):Int).toNat=i:=Int.toNat_natCast i
  have hsh:(P:Int)/2^i=((P/2^i:Nat):Int):=by rw[Int.natCast_ediv,Int.natCast_pow];rfl
  have hsb:=shr_bit P i (by omega)
  have hbl:P/2^i%2<2:=Nat.mod_lt _ (by omega)
  have HB0:Hid (P/2^i%2=0→numX l=numX L^^^(P%2^(i+1)*2^k)):=fun h=>by rw[bit_low P i k h];exact uh HNX
  have HB1:Hid (P/2^i%2=1→ ∀(q m:Nat) (hq:q<l.length),m<8→k+i=8*q+m→numX (l.set q (UInt8.ofNat ((l[q]).toNat^^^2^m)))=numX L^^^(P%2^(i+1)*2^k)):=fun h q m hq hm e=>by
   rw[set_bit l q m hq hm,bit_high P i k h,uh HNX,e]
  clear HNX
  generalize P/2^i%2=bt at HB0 HB1 hsb hbl
  generalize P/2^i=qq at hsh hsb
  by_cases hb0:bt=0
  ·subst hb0
   have HNY:=hide (uh HB0 rfl)
   go_wp2_with fail
   go_roundw
   ·exact ⟨i+1,l,by omega,by go_num,HLEN,HSL,HNY,HOW⟩
   case measure=>simp[intOf];omega
  have hb1:bt=1:=by omega
  subst hb1
  have HNY:=hide (uh HB1 rfl)
  clear HB0 HB1
  obtain ⟨p,hp⟩: ∃p,k+i=p:=⟨_,rfl⟩
  have hpI:(k:Int)+(i:Int)=(p:Int):=by omega
  obtain ⟨q,hq⟩: ∃q,q=p/8:=⟨_,rfl⟩
  obtain ⟨m,hm⟩: ∃m,m=p%8:=⟨_,rfl⟩
  have hqz:q<z.size:=by omega
  have hql:q<l.length:=by rw[uh HLEN];exact hqz
  have hqI:(p:Int)/8=(q:Int):=by omega
  have hmI:(p:Int)%8=(m:Int):=by omega
  have hm8:m<8:=by omega
  have HNZ:=hide (uh HNY q m hql hm8 (by omega))
  have hmT:(p:Int).tmod 8=(m:Int):=by rw[Int.tmod_eq_emod_of_nonneg (by omega)];exact hmI
  have hwp:IntKind.i64.wrap (p:Int)=(p:Int):=i64_wrap_nat _ (by omega)
  have hwk:IntKind.i64.wrap (q:Int)=(q:Int):=i64_wrap_nat _ (by omega)
  have hwm:IntKind.i64.wrap (m:Int)=(m:Int):=i64_wrap_nat _ (by omega)
  have hp0:(0:Int)≤(p:Int):=by omega
  have hq0:(0:Int)≤(q:Int):=by omega
  have hqzI:(q:Int)<(z.size:Int):=by omega
  have hm0:(0:Int)≤(m:Int):=by omega
  have hcell:=(uh HSL).cell q hql
  have hfz:=(uh HSL).thaw q hql
  have hb:(l[q]).toNat<256:=l[q].toNat_lt
  obtain ⟨tm,htm⟩: ∃tm,tm=2^m:=⟨_,rfl⟩
  rw[←htm] at HNZ
  have hp2:tm≤128:=by rw[htm];exact (Nat.pow_le_pow_right (by omega) (by omega):2^m≤2^7)
  have h2m:(2:Int)^m=(tm:Int):=by rw[htm,Int.natCast_pow];rfl
  have hxo:=u8_xor_nat (l[q]).toNat tm hb (by omega)
  have hxl:(l[q]).toNat^^^tm<2^8:=Nat.xor_lt_two_pow (by omega) (by omega)
  have HN:=hide ((uh HSL).set q (UInt8.ofNat ((l[q]).toNat^^^tm)))
  rw[UInt8.toNat_ofNat_of_lt' (by omega)] at HN
  generalize (l[q]).toNat=b at*
  generalize b^^^tm=x at*
  have hw2:IntKind.u8.wrap (tm:Int)=(tm:Int):=by rw[IntKind.wrap_u8];omega
  clear htm hq hm hp HNY
  go_upto_region 19 with fail
  have HSW:wr.drew.cell? ⟨gb,q,none⟩=some (.int .u8 b)∧True∧True:=⟨hcell,trivial,trivial⟩
  refine wp_region_last (S:=fun W=>W.cell? ⟨gb,q,none⟩=some (.int .u8 b)∧True∧True) (L:=19) (by kernel_rfl) ?_
  refine tk 0 20 (.slice (some ⟨gb,0,none⟩) z.size cap) 100 HSW ?_
  refine tk 1 20 (.int .i64 k) 101 HSW ?_
  refine tk 2 20 (.int .i64 i) 102 HSW ?_
  refine tk 3 20 (.int .i64 p) 103 HSW ?_
  refine tk 4 20 (.int .i64 q) 104 HSW ?_
  refine tk 5 20 (.slice (some ⟨gb,0,none⟩) z.size cap) 105 HSW ?_
  refine tk 6 20 (.int .i64 k) 106 HSW ?_
  refine tk 7 20 (.int .i64 i) 107 HSW ?_
  refine tk 8 20 (.int .i64 p) 108 HSW ?_
  refine tk 9 20 (.int .i64 q) 109 HSW ?_
  refine tk 10 20 (.pointer (some ⟨gb,q,none⟩)) 110 HSW ?_
  refine tk 11 20 (.int .u8 b) 111 HSW ?_
  refine tk 12 20 (.int .i64 k) 112 HSW ?_
  refine tk 13 20 (.int .i64 i) 113 HSW ?_
  refine tk 14 20 (.int .i64 p) 114 HSW ?_
  refine tk 15 20 (.int .i64 m) 115 HSW ?_
  refine tk 16 20 (.int .u8 tm) 116 HSW ?_
  refine tk 17 20 (.int .u8 x) 117 HSW ?_
  refine tk 18 20 (.pointer (some ⟨gb,q,none⟩)) 118 HSW ?_
  refine wpAnyL_one (i:=19) (by kernel_rfl) ?_
  refine wpOp_step rfl (fun K' hK=> ?_)
  go_simp
  refine hK _ _ ⟨fun h=>absurd rfl h, ?_⟩
  clear hK
  refine wpAnyL_done (by kernel_rfl) ?_
  have HRW:Hid (SRow (wr.setCell ⟨gb,q,none⟩ (.int .u8 (x:Int))).drew gb (l.set q (UInt8.ofNat x))):=uh HN
  have HOX:Hid (Old w (wr.setCell ⟨gb,q,none⟩ (.int .u8 (x:Int))).drew):=((uh HOW).setCell (p:=⟨gb,q,none⟩) (fun h=>absurd h (Nat.not_lt.2 (uh HOBW))) _).drew
  have HLX:Hid ((l.set q (UInt8.ofNat x)).length=z.size):=by unfold Hid;rw[List.length_set];exact uh HLEN
  generalize (wr.setCell ⟨gb,q,none⟩ (.int .u8 (x:Int))).drew=W2 at*
  generalize l.set q (UInt8.ofNat x)=l2 at*
  clear HN HSL HOW HSW hcell hfz HLEN
  go_wp2_with fail
  go_roundw
  ·exact ⟨i+1,l2,by omega,by go_num,HLX,HRW,HNZ,HOX⟩
  case measure=>simp[intOf];omega
 have hi32I:¬(i:Int)<32:=by omega
 have hie:i=32:=by omega
 subst hie
 have HPL2:=hide (uh HPL)
 have hBu:Burst (numX l^^^numX L):=by
  refine ⟨P,k, ?_,hP0,hP32⟩
  rw[uh HNX,Nat.mod_eq_of_lt hP32,Nat.xor_comm (numX L),Nat.xor_assoc,Nat.xor_self,Nat.xor_zero]
 have HBAD:Hid ((unpP sPre (strB l)).2≠0):=by
  refine (uh HPL).turned (by decide) l ?_ ?_
  ·rw[uh HLL,uh HLEN];exact uh HZS
  rw[uh HLL];exact hBu
 have hcv:=(uh HSL).back (cap:=cap)
 rw[uh HLEN] at hcv
 have hsl:(⟨l.toArray⟩:ByteArray)=strB l:=rfl
 rw[hsl] at hcv
 have hlz:(strB l).size≤40000:=by rw[strB_size,uh HLEN];exact hzl
 have HW9:=hide ((uh HWW).old (uh HOW))
 have HP3:=hide (fun W=>kpick_any ct (uh HCT).1 (uh HCT).2 z.size (by omega) (by omega) W)
 have hk3:=pickN_lt ct (show 0<z.size by omega)
 generalize pickN ct z.size=kc at*
 have HCUT:Hid ((unpP sPre (z.extract 0 kc)).2=7):=by
  have e1:z.extract 0 kc=strB (L.take kc):=by
   have h1:=strB_extract [] (L.take kc) (L.drop kc) 0 kc rfl (by rw[List.length_take,Nat.min_eq_left (by rw[←uh HZS];omega)];omega)
   rw[List.nil_append,List.take_append_drop,←uh HZ] at h1
   exact h1
  unfold Hid
  rw[e1]
  refine (uh HPL).cut (by decide) (L.take kc) (L.drop kc) (by rw[List.take_append_drop];exact (uh HLL).symm) ?_
  intro e
  have:=congrArg List.length e
  rw[List.length_drop,List.length_nil,←uh HZS] at this
  omega
 have hslc: ∀W,(Instr.slice 9 (.string z) none (some (.int .i64 (kc:Int))) none).run Tryz.prog W=.ok (.string (z.extract 0 kc)) W:=fun W=>run_slice_string_h W 9 z Tryz.underlying9 .i64 (kc:Int) (by omega) (by omega)
 have hcz:(z.extract 0 kc).size≤40000:=by rw[ByteArray.size_extract];omega
 have HMORE:Hid (mo.toList.isEmpty=true∨(unpP sPre (z++mo)).2≠0):=by
  by_cases h0:mo.size=0
  ·left
   have e:mo=⟨#[]⟩:=ByteArray.ext (by show mo.data= #[];exact Array.eq_empty_of_size_eq_zero h0)
   rw[e,Lib.toList_data];rfl
  right
  have e1:z++mo=strB (L++sL mo):=by rw[←strB_app,strB_sL,uh HZ]
  rw[e1,←uh HLL]
  refine (uh HPL).more (sL mo) ?_
  intro e
  have:=congrArg List.length e
  rw[sL_len] at this
  exact h0 this
 have hmz:(z++mo).size≤9223372036854775807:=by rw[ByteArray.size_append];omega
 have hcat:¬9223372036854775807<z.size+mo.size:=by omega
 generalize z.extract 0 kc=zc at*
 generalize hzm:z++mo=zm at*
 generalize strB l=zl at*
 have HU1:=hide (fun W h1 h2=>vUnpackA zl (by omega) W h1 h2)
 have HU2:=hide (fun W h1 h2=>vUnpackA zc (by omega) W h1 h2)
 have HU3:=hide (fun W h1 h2=>vUnpackA zm hmz W h1 h2)
 generalize unpP sPre zl=r1 at*
 generalize unpP sPre zc=r2 at*
 generalize unpP sPre zm=r3 at*
 clear HPL HPL2 hBu HNX HSL HLEN HZ HZL HZS HLL HLN hsl
 go_wp2_with fail
 refine (uh HU1 _ (uh HW9).1 (uh HW9).2.1).mono ?_
 rintro r wa ⟨hoa,hra⟩
 have HOa:=hide (Only.trans (uh HOW) hoa)
 have HWa:=hide ((uh HW9).old hoa)
 clear hoa HOW HW9 HU1 hcv
 rcases hra with ⟨e0,_⟩|⟨_,rfl⟩
 case inl=>exact absurd e0 (uh HBAD)
 have hfI:((r1.2:Int) !=0)=true:=by rw[bne_iff_ne];have:=uh HBAD;omega
 have hfJ:¬(r1.2:Int)=0:=by have:=uh HBAD;omega
 go_wp2_with fail
 refine (uh HP3 _).mono ?_
 rintro r wb ⟨rfl,rfl⟩
 go_wp2_with fail
 refine (uh HU2 _ (uh HWa).1 (uh HWa).2.1).mono ?_
 rintro r wc ⟨hoc,hrc⟩
 have HOc:=hide (Only.trans (uh HOa) hoc)
 have HWc:=hide ((uh HWa).old hoc)
 clear hoc HOa HWa HU2 hslc HP3
 rcases hrc with ⟨e0,_⟩|⟨_,rfl⟩
 case inl=>rw[uh HCUT] at e0;cases e0
 have e7:=uh HCUT
 rw[e7]
 go_wp2_with fail
 refine (uh HU3 _ (uh HWc).1 (uh HWc).2.1).mono ?_
 rintro r wd ⟨hod,hrd⟩
 have HOd:=hide (Only.trans (uh HOc) hod)
 clear hod HOc HWc HU3
 obtain ⟨vv,h3,rfl,h3c⟩: ∃vv,∃h3:Nat,r=.returned (.tuple #[vv,.int .i64 (h3:Int)])∧(mo.toList.isEmpty=true∨h3≠0):=by
  rcases hrd with ⟨e0,vv,rfl,_⟩|⟨e0,rfl⟩
  ·refine ⟨vv,0,rfl, ?_⟩
   rcases uh HMORE with h|h
   ·exact .inl h
   exact absurd e0 h
  exact ⟨_,r3.2,rfl,.inr e0⟩
 clear hrd HMORE hzm hcat hmz
 cases hmt:mo.toList.isEmpty with
 |true=>
  clear h3c
  go_wp2_with fail
  go_ret
  exact ⟨rfl,HOd⟩
 |false=>
  have h30:h3≠0:=by
   rcases h3c with h|h
   ·rw[hmt] at h;cases h
   exact h
  have h3I:((h3:Int) !=0)=true:=by rw[bne_iff_ne];omega
  have h3J:¬(h3:Int)=0:=by omega
  clear h3c
  go_wp2_with fail
  go_ret
  exact ⟨rfl,HOd⟩
open Go.ChangeShapes Go.WideShapes Go.ChangeAt Go.RowKit
theorem cRaw:Tryz.prog.cellsOf 84=3:=by kernel_rfl
theorem rawone_of{H:Type}{enc:TypeId×Value→H}{W:World}{fuel:Nat}{cs:List Value}{d:DataW H}{p:List MemPlace}{sp:Nat→Bool}{hd:Bool}(hl:cs.length=3)
 (h:DataW.trod enc Tryz.prog W 0 sp hd fuel 84 cs=some (d,p)):
 ∃(k a:Int) (s:ByteArray),cs=[.int .i64 k,.int .i64 a,.string s]∧(-9223372036854775808≤k∧k≤9223372036854775807)∧(-9223372036854775808≤a∧a≤9223372036854775807)∧s.data.toList.length∈d.weights Tryz.prog 84:=by
 obtain ⟨xs,n,rfl,hx,hlen,hn,hf⟩:=DataW.trod_struct Tryz.underlying84 h
 match cs,hl,xs,hn with
 |[v0,v1,v2],_,[y0,y1,y2],_=>
  have g0:=hf 0 _ rfl
  have g1:=hf 1 _ rfl
  have g2:=hf 2 _ rfl
  simp[cInt,cStr] at g0 g1 g2
  obtain ⟨k,e0,k0⟩:=DataW.trod_int Tryz.underlying3 g0
  obtain ⟨a,e1,k1⟩:=DataW.trod_int Tryz.underlying3 g1
  obtain ⟨s,e2,x2,_⟩:=DataW.trod_string Tryz.underlying9 g2
  simp at e0 e1 e2
  subst e0 e1 e2
  refine ⟨k,a,s,rfl, ?_, ?_, ?_⟩
  ·have:=k0.2
   simp only[Lit.wf,Bool.and_eq_true,decide_eq_true_eq] at this
   exact this
  ·have:=k1.2
   simp only[Lit.wf,Bool.and_eq_true,decide_eq_true_eq] at this
   exact this
  simp only[Prod.mk.injEq] at hx
  rw[hx.1]
  unfold DataW.weights
  rw[Tryz.underlying84]
  refine DataW.weights_mem_each (j:=2) (t:=9) (d:=y2.1) rfl rfl _ ?_
  rw[x2]
  simp[DataW.weights]
theorem raw_of{H:Type}{enc:TypeId×Value→H}{W:World}{v:Value}{d:DataW H}{ps:List MemPlace}{sp:Nat→Bool}{hd:Bool}{ts:List TypeId}{ds:List (DataW H)}
 (h:DataW.Trod enc Tryz.prog W 0 sp hd 52 v d ps)(hv:v.oneCell' =true)(hw:(DataW.weightsEach Tryz.prog ts ds).all (· ≤reachBytes)=true)(ht:ts[0]? =some 52)(hd0:ds[0]? =some d):
 ∃n,n≤maxLen∧RawAt W v n:=by
 obtain ⟨fuel,h⟩:=h
 rcases Go.Deep.open_slice Tryz.underlying52 h with ⟨hc,_⟩|⟨a,len,cap,m,n,D,Pl,hc,hb,hl,hm,hmm,hx,hall⟩
 ·refine ⟨0,Nat.zero_le _,.inl ⟨?_,rfl⟩⟩
  cases v<;>simp_all [Value.cells,Value.oneCell']
 refine ⟨len,by omega,.inr ⟨a,cap, ?_,fun i hi=> ?_⟩⟩
 ·cases v<;>simp_all [Value.cells,Value.oneCell']
 have him:i<m:=by rw[hmm];split<;>omega
 obtain ⟨cs',h1,h2⟩:=hall i him
 rw[cRaw] at h1
 obtain ⟨_,hlen,hcell⟩:=World.cells?_some h1
 obtain ⟨k,p,s,rfl,h5,h6,hmem⟩:=rawone_of hlen h2
 have hsz:s.data.toList.length≤reachBytes:=by
  have h3:=DataW.weights_mem_each (P:=Tryz.prog) ht hd0 (s.data.toList.length) (by
   simp only[Prod.mk.injEq] at hx
   rw[hx.1]
   unfold DataW.weights
   rw[Tryz.underlying52]
   refine List.mem_cons_of_mem _ (List.mem_append.2 (.inl (weights_mem_all (d:=D i) ?_ _ hmem)))
   exact List.mem_map.2 ⟨i,List.mem_range.2 hi,rfl⟩)
  have:=List.all_eq_true.1 hw _ h3
  simpa using this
 have c0:=hcell 0 (by omega)
 have c1:=hcell 1 (by omega)
 have c2:=hcell 2 (by omega)
 refine ⟨k,p,s,h5,h6, ?_, ?_, ?_, ?_⟩
 ·have e:s.size=s.data.toList.length:=rfl
  rw[e];exact Nat.le_trans hsz (by decide)
 ·rw[Addr.add_add,Nat.add_zero] at c0;simpa using c0
 ·exact (congrArg W.cell? (Addr.add_succ' (a.add (i*3)) 0).symm).trans (by simpa using c1)
 exact (congrArg W.cell? (Addr.add_succ' (a.add (i*3)) 1).symm).trans (by simpa using c2)
end Go.Proofs.YtndfmgdhiallpaaGreatDoor
