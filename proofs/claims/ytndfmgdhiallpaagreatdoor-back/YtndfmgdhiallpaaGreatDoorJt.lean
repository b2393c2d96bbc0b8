import Derived.Test.YtndfmgdhiallpaaGreatDoorJs
set_option maxRecDepth 100000
set_option maxHeartbeats 4000000
namespace Go.Proofs.YtndfmgdhiallpaaGreatDoor
open Go.RowKit Go.Maps
def numS(n k:Nat):ByteArray:=⟨(leB n k).toArray⟩
theorem numS_size(n k:Nat):(numS n k).size=k:=by
 show ((leB n k).toArray).size=k
 rw[List.size_toArray,leB_len]
theorem numS_succ(n k:Nat):numS n (k+1)=numS n k++(⟨#[b8 (n/2^(8*k)%256)]⟩:ByteArray):=by
 apply ByteArray.ext
 apply Array.ext'
 simp[numS,leB_succ,ByteArray.data_append]
theorem one_back(w:World)(b:Nat)(hb:b<256):(convert 62 9 (.slice (some ⟨w.heap.size,0,none⟩) 1 1)).run Tryz.prog (w.alloc (.cells #[.int .u8 (b:Int)] 5))=.ok (.string ⟨#[b8 b]⟩) (w.alloc (.cells #[.int .u8 (b:Int)] 5)):=by
 have h:=run_convert_bytes_back (w.alloc (.cells #[.int .u8 (b:Int)] 5)) 62 9 5 ⟨w.heap.size,0,none⟩ 1 [b8 b] Tryz.underlying62 Tryz.underlying5 Tryz.underlying9 (fun j hj=>by
  have:j=0:=by simpa using hj
  subst this
  rw[Addr.add_lit,Nat.zero_add,cell_of_row _ _ 0 _ _ (0,0) (Go.heap_alloc_new w _)]
  simp[b8_toNat hb])
 exact h
theorem numberK(n k:Nat)(hn:n<9223372036854775808)(hk:k≤10)(w:World):Calls Tryz.prog 49 #[.int .i64 n,.int .i64 k] w fun r w' =>r=.returned (.string (numS n k))∧Old w w' :=by
 have HO:=hide (Only.refl (fun _=>False) w)
 go_in
 go_wp2_with fail
 go_loopw [0,5,6] (fun y s x wr=> ∃i:Nat,i≤k∧x=.int .i64 i∧y=.int .i64 ((n/2^(8*i):Nat):Int)∧s=.string (numS n i)∧Hid (Old w wr)) (fun _ _ x _=>k- (intOf x).toNat)
 ·exact ⟨0,by omega,rfl,by simp,rfl,HO⟩
 obtain ⟨i,hi,rfl,rfl,rfl,HO⟩:=hrel
 by_cases hik:i<k
 ·have hikI:(i:Int)<(k:Int):=by omega
  have HS:=hide (numS_succ n i)
  have hsz:=numS_size n i
  have hq:n/2^(8*(i+1))=n/2^(8*i)/256:=by rw[Nat.div_div_eq_div_mul,show 8*(i+1)=8*i+8 by omega,Nat.pow_add]
  have hml:n/2^(8*i)≤n:=Nat.div_le_self _ _
  have HQ:=hide hq
  generalize n/2^(8*i)=m at*
  generalize numS n i=s at*
  have hb:m%256<256:=Nat.mod_lt _ (by omega)
  have hrem:(m:Int).tmod 256=((m%256:Nat):Int):=by rw[Int.tmod_eq_emod_of_nonneg (by omega)];omega
  have hdiv:(m:Int).tdiv 256=((m/256:Nat):Int):=by rw[Int.tdiv_eq_ediv_of_nonneg (by omega)];omega
  have hm0:(0:Int)≤(m:Int):=by omega
  have hback:=one_back wr (m%256) hb
  have HA:Hid (Old w (wr.alloc (.cells #[.int .u8 ((m%256:Nat):Int)] 5))):=(uh HO).alloc _
  have hcat:¬9223372036854775807<s.size+1:=by omega
  have HM:Hid (n/2^(8*(i+1))=m/256):=uh HQ
  generalize m%256=b at*
  clear hq HQ
  go_wp2_with fail
  go_roundw
  ·exact ⟨i+1,by omega,by go_num,by rw[uh HM];rfl,by rw[uh HS],HA⟩
  case measure=>simp[intOf];omega
 have hikI:¬(i:Int)<(k:Int):=by omega
 have hie:i=k:=by omega
 subst hie
 go_wp2_with fail
 go_ret
 exact ⟨rfl,HO⟩
def plainIt(e:Ent):It:=⟨e.nm,0,checkOf e.dt,e.dt.size,e.dt⟩
def strB(l:List UInt8):ByteArray:=⟨l.toArray⟩
theorem strB_size(l:List UInt8):(strB l).size=l.length:=by show l.toArray.size=_;rw[List.size_toArray]
theorem strB_app(l m:List UInt8):strB l++strB m=strB (l++m):=by
 apply ByteArray.ext
 apply Array.ext'
 simp[strB,ByteArray.data_append]
theorem strB_sL(s:ByteArray):strB (sL s)=s:=by
 apply ByteArray.ext
 apply Array.ext'
 simp[strB,sL]
theorem sL_strB(l:List UInt8):sL (strB l)=l:=by simp[strB,sL]
theorem numS_strB(n k:Nat):numS n k=strB (leB n k):=rfl
theorem zeros10:numS 0 10=strB (leAll [0,0,0] 2++leB 0 4):=by decide
theorem madeA(gt cap:Nat)(T:List Ent)(hT:T.length≤1000)(hs: ∀e∈T,e.nm.size≤140737488355328∧e.dt.size≤140737488355328)(hL:(locsL sPre (T.map plainIt)).length≤1152921504606846976)(hC:(centsN sPre (T.map plainIt) T.length).length≤1152921504606846976)(w:World)(ht:EntsAt w gt T):
 Calls Tryz.prog 32 #[.slice (some ⟨gt,0,none⟩) T.length cap] w fun r w' =>r=.returned (.string (strB (laidL sPre (T.map plainIt))))∧Old w w' :=by
 have HT:=hide ht
 have HS:Hid (∀i,i<T.length→(T.getD i ent0).nm.size≤140737488355328∧(T.getD i ent0).dt.size≤140737488355328):=fun i hi=>by rw[List.getD_eq_getElem?_getD,List.getElem?_eq_getElem hi];exact hs _ (List.getElem_mem hi)
 obtain ⟨its,hits⟩: ∃its,T.map plainIt=its:=⟨_,rfl⟩
 have hil:its.length=T.length:=by rw[←hits,List.length_map]
 have HG:Hid (∀i,i<T.length→its.getD i itD=plainIt (T.getD i ent0)):=fun i hi=>by
  rw[←hits,List.getD_eq_getElem?_getD,List.getD_eq_getElem?_getD,List.getElem?_map,List.getElem?_eq_getElem hi];rfl
 rw[hits] at hL hC ⊢
 have HLB:Hid (∀i,(locsL sPre (its.take i)).length≤1152921504606846976):=fun i=>Nat.le_trans (locsL_le sPre its i) hL
 have HCB:Hid (∀i,i≤T.length→(centsN sPre its i).length≤1152921504606846976):=fun i hi=>Nat.le_trans (centsN_le sPre its i _ hi) hC
 have HLS:Hid (∀i,i<T.length→locsL sPre (its.take (i+1))=locsL sPre (its.take i)++localL sPre (its.getD i itD)):=fun i hi=>locsL_succ sPre its i (by omega)
 have HCS:Hid (∀i,centsN sPre its (i+1)=centsN sPre its i++centralL sPre (its.getD i itD) (locsL sPre (its.take i)).length):=fun i=>centsN_succ sPre its i
 have HEND:Hid (laidL sPre its=locsL sPre (its.take T.length)++centsN sPre its T.length++endL T.length (centsN sPre its T.length).length (locsL sPre (its.take T.length)).length):=by unfold Hid;rw[laidL,hil,←hil,List.take_length]
 have N1:=hide (fun W=>numberK 20 2 (by omega) (by omega) W)
 have N2:=hide (fun W=>numberK 0 2 (by omega) (by omega) W)
 have N3:=hide (fun W=>numberK 33 2 (by omega) (by omega) W)
 have HO:=hide (Only.refl (fun _=>False) w)
 have z1:=numS_size 20 2
 have z2:=numS_size 0 2
 have z3:=numS_size 33 2
 clear ht hs hits hL hC
 go_in
 go_wp2_with fail
 go_loopw [3,4,5,6,7,8] (fun s c x _ _ _ wr=> ∃i:Nat,i≤T.length∧x=.int .i64 i∧s=.string (strB (locsL sPre (its.take i)))∧c=.string (strB (centsN sPre its i))∧Hid (Old w wr)) (fun _ _ x _ _ _ _=>T.length- (intOf x).toNat)
 ·exact ⟨0,by omega,rfl,rfl,rfl,HO⟩
 obtain ⟨i,hi,rfl,rfl,rfl,HOwr⟩:=hrel
 clear HO
 by_cases hit:i<T.length
 ·have hitI:(i:Int)<(T.length:Int):=by omega
  obtain ⟨_,h1,h2,h3⟩:=(uh HT).old (uh HOwr) i hit
  obtain ⟨hs1,hs2⟩:=uh HS i hit
  have HG1:=hide (uh HG i hit)
  have HL1:=hide (uh HLS i hit)
  have HC1:=hide (uh HCS i)
  rw[uh HG1] at HL1 HC1
  have hlb:=uh HLB i
  have hcb:=uh HCB i (by omega)
  have hls:=strB_size (locsL sPre (its.take i))
  have hcs:=strB_size (centsN sPre its i)
  generalize T.getD i ent0=e at*
  obtain ⟨nm,ln,dt⟩:=e
  simp only[plainIt] at*
  have HCK:=hide (fun W=>valiseCheck_any dt W (by unfold maxLen;omega))
  have hckl:=checkOf_lt dt
  generalize checkOf dt=ck at*
  have hpre:sPre.size=13:=by decide
  have hcatP:¬9223372036854775807<13+nm.size:=by omega
  have hnz:(sPre++nm).size=13+nm.size:=by rw[ByteArray.size_append,hpre]
  have N4:=hide (fun W=>numberK ck 4 (by omega) (by omega) W)
  have N5:=hide (fun W=>numberK dt.size 4 (by omega) (by omega) W)
  have N6:=hide (fun W=>numberK (13+nm.size) 2 (by omega) (by omega) W)
  have N7:=hide (fun W=>numberK 0 10 (by omega) (by omega) W)
  have N8:=hide (fun W=>numberK (strB (locsL sPre (its.take i))).size 4 (by omega) (by omega) W)
  have z4:=numS_size ck 4
  have z5:=numS_size dt.size 4
  have z6:=numS_size (13+nm.size) 2
  have z7:=numS_size 0 10
  have z8:=numS_size (strB (locsL sPre (its.take i))).size 4
  have HTL:Hid (toldL sPre ⟨nm,0,ck,dt.size,dt⟩=leB 20 2++leB 0 2++leB 0 2++leB 0 2++leB 33 2++leB ck 4++leB dt.size 4++leB dt.size 4++leB (13+nm.size) 2++leB 0 2):=by
   unfold Hid toldL leAll
   simp only[List.flatMap_cons,List.flatMap_nil,List.append_nil,List.append_assoc]
   rfl
  have HCOM:Hid ((((((((((numS 20 2++numS 0 2)++numS 0 2)++numS 0 2)++numS 33 2)++numS ck 4)++numS dt.size 4)++numS dt.size 4)++numS (13+nm.size) 2)++numS 0 2)=strB (toldL sPre ⟨nm,0,ck,dt.size,dt⟩)):=by
   unfold Hid
   rw[uh HTL]
   simp only[numS_strB,strB_app]
  have HLL:Hid (strB (locsL sPre (its.take (i+1)))=(((strB (locsL sPre (its.take i))++mkL)++strB (toldL sPre ⟨nm,0,ck,dt.size,dt⟩))++(sPre++nm))++dt):=by
   unfold Hid
   rw[uh HL1,localL,←strB_app,←strB_app,←strB_app,←strB_app,strB_sL,strB_sL,strB_sL]
   simp only[ByteArray.append_assoc]
  have HCC:Hid (strB (centsN sPre its (i+1))=(((((strB (centsN sPre its i)++mkC)++numS 20 2)++strB (toldL sPre ⟨nm,0,ck,dt.size,dt⟩))++numS 0 10)++numS (strB (locsL sPre (its.take i))).size 4)++(sPre++nm)):=by
   unfold Hid
   have e1:leAll [0,(locsL sPre (its.take i)).length] 4=leB 0 4++leB (locsL sPre (its.take i)).length 4:=by simp[leAll]
   have e2:leAll [20] 2=leB 20 2:=by simp[leAll]
   rw[uh HC1,centralL,←strB_app,←strB_app,←strB_app,←strB_app,←strB_app,←strB_app,strB_sL,strB_sL,e1,e2,zeros10,hls,numS_strB,numS_strB,←strB_app,←strB_app]
   simp only[ByteArray.append_assoc]
  have htz:(strB (toldL sPre ⟨nm,0,ck,dt.size,dt⟩)).size=26:=by rw[strB_size,toldL_len]
  have hlsz:(strB (locsL sPre (its.take i))).size≤1152921504606846976:=by rw[hls];exact hlb
  have hcsz:(strB (centsN sPre its i)).size≤1152921504606846976:=by rw[hcs];exact hcb
  clear HTL HL1 HC1 HG1 hls hcs hlb hcb hckl hpre
  generalize numS 20 2=a1 at*
  generalize numS 0 2=a2 at*
  generalize numS 33 2=a3 at*
  generalize numS ck 4=a4 at*
  generalize numS dt.size 4=a5 at*
  generalize numS (13+nm.size) 2=a6 at*
  generalize numS 0 10=a7 at*
  generalize numS (strB (locsL sPre (its.take i))).size 4=a8 at*
  generalize strB (toldL sPre ⟨nm,0,ck,dt.size,dt⟩)=tl at*
  generalize hs0:strB (locsL sPre (its.take i))=s0 at*
  generalize hc0:strB (centsN sPre its i)=c0 at*
  clear hs0 hc0
  have hm1:mkC.size=4:=by decide
  have hm2:mkL.size=4:=by decide
  have hp13:sPre.size=13:=by decide
  have hk1:¬9223372036854775807<(a1).size+a2.size:=by have e:(a1).size=_:=rfl;clear e;(repeat rw[ByteArray.size_append]);omega
  have hk2:¬9223372036854775807<((a1++a2)).size+a2.size:=by have e:((a1++a2)).size=_:=rfl;clear e;(repeat rw[ByteArray.size_append]);omega
  have hk3:¬9223372036854775807<(((a1++a2)++a2)).size+a2.size:=by have e:(((a1++a2)++a2)).size=_:=rfl;clear e;(repeat rw[ByteArray.size_append]);omega
  have hk4:¬9223372036854775807<((((a1++a2)++a2)++a2)).size+a3.size:=by have e:((((a1++a2)++a2)++a2)).size=_:=rfl;clear e;(repeat rw[ByteArray.size_append]);omega
  have hk5:¬9223372036854775807<(((((a1++a2)++a2)++a2)++a3)).size+a4.size:=by have e:(((((a1++a2)++a2)++a2)++a3)).size=_:=rfl;clear e;(repeat rw[ByteArray.size_append]);omega
  have hk6:¬9223372036854775807<((((((a1++a2)++a2)++a2)++a3)++a4)).size+a5.size:=by have e:((((((a1++a2)++a2)++a2)++a3)++a4)).size=_:=rfl;clear e;(repeat rw[ByteArray.size_append]);omega
  have hk7:¬9223372036854775807<(((((((a1++a2)++a2)++a2)++a3)++a4)++a5)).size+a5.size:=by have e:(((((((a1++a2)++a2)++a2)++a3)++a4)++a5)).size=_:=rfl;clear e;(repeat rw[ByteArray.size_append]);omega
  have hk8:¬9223372036854775807<((((((((a1++a2)++a2)++a2)++a3)++a4)++a5)++a5)).size+a6.size:=by have e:((((((((a1++a2)++a2)++a2)++a3)++a4)++a5)++a5)).size=_:=rfl;clear e;(repeat rw[ByteArray.size_append]);omega
  have hk9:¬9223372036854775807<(((((((((a1++a2)++a2)++a2)++a3)++a4)++a5)++a5)++a6)).size+a2.size:=by have e:(((((((((a1++a2)++a2)++a2)++a3)++a4)++a5)++a5)++a6)).size=_:=rfl;clear e;(repeat rw[ByteArray.size_append]);omega
  have hj0:¬9223372036854775807<(c0).size+4:=by have e:(c0).size=_:=rfl;clear e;(repeat rw[ByteArray.size_append]);omega
  have hj1:¬9223372036854775807<((c0++mkC)).size+a1.size:=by have e:((c0++mkC)).size=_:=rfl;clear e;(repeat rw[ByteArray.size_append]);omega
  have hj2:¬9223372036854775807<(((c0++mkC)++a1)).size+tl.size:=by have e:(((c0++mkC)++a1)).size=_:=rfl;clear e;(repeat rw[ByteArray.size_append]);omega
  have hj3:¬9223372036854775807<((((c0++mkC)++a1)++tl)).size+a7.size:=by have e:((((c0++mkC)++a1)++tl)).size=_:=rfl;clear e;(repeat rw[ByteArray.size_append]);omega
  have hj4:¬9223372036854775807<(((((c0++mkC)++a1)++tl)++a7)).size+a8.size:=by have e:(((((c0++mkC)++a1)++tl)++a7)).size=_:=rfl;clear e;(repeat rw[ByteArray.size_append]);omega
  have hj5:¬9223372036854775807<((((((c0++mkC)++a1)++tl)++a7)++a8)).size+(sPre++nm).size:=by have e:((((((c0++mkC)++a1)++tl)++a7)++a8)).size=_:=rfl;clear e;(repeat rw[ByteArray.size_append]);omega
  have hi0:¬9223372036854775807<(s0).size+4:=by have e:(s0).size=_:=rfl;clear e;(repeat rw[ByteArray.size_append]);omega
  have hi1:¬9223372036854775807<((s0++mkL)).size+tl.size:=by have e:((s0++mkL)).size=_:=rfl;clear e;(repeat rw[ByteArray.size_append]);omega
  have hi2:¬9223372036854775807<(((s0++mkL)++tl)).size+(sPre++nm).size:=by have e:(((s0++mkL)++tl)).size=_:=rfl;clear e;(repeat rw[ByteArray.size_append]);omega
  have hi3:¬9223372036854775807<((((s0++mkL)++tl)++(sPre++nm))).size+dt.size:=by have e:((((s0++mkL)++tl)++(sPre++nm))).size=_:=rfl;clear e;(repeat rw[ByteArray.size_append]);omega
  clear hm1 hm2 hp13
  go_wp2_with fail
  refine (uh N1 _).mono ?_
  rintro r v1 ⟨rfl,hov1⟩
  have HOv1:=hide (Only.trans (uh HOwr) hov1)
  clear hov1 HOwr
  go_wp2_with fail
  refine (uh N2 _).mono ?_
  rintro r v2 ⟨rfl,hov2⟩
  have HOv2:=hide (Only.trans (uh HOv1) hov2)
  clear hov2 HOv1
  go_wp2_with fail
  refine (uh N2 _).mono ?_
  rintro r v3 ⟨rfl,hov3⟩
  have HOv3:=hide (Only.trans (uh HOv2) hov3)
  clear hov3 HOv2
  go_wp2_with fail
  refine (uh N2 _).mono ?_
  rintro r v4 ⟨rfl,hov4⟩
  have HOv4:=hide (Only.trans (uh HOv3) hov4)
  clear hov4 HOv3
  go_wp2_with fail
  refine (uh N3 _).mono ?_
  rintro r v5 ⟨rfl,hov5⟩
  have HOv5:=hide (Only.trans (uh HOv4) hov5)
  clear hov5 HOv4
  go_wp2_with fail
  refine (uh HCK _).mono ?_
  rintro r wc ⟨rfl,rfl⟩
  go_wp2_with fail
  refine (uh N4 _).mono ?_
  rintro r v6 ⟨rfl,hov6⟩
  have HOv6:=hide (Only.trans (uh HOv5) hov6)
  clear hov6 HOv5
  go_wp2_with fail
  refine (uh N5 _).mono ?_
  rintro r v7 ⟨rfl,hov7⟩
  have HOv7:=hide (Only.trans (uh HOv6) hov7)
  clear hov7 HOv6
  go_wp2_with fail
  refine (uh N5 _).mono ?_
  rintro r v8 ⟨rfl,hov8⟩
  have HOv8:=hide (Only.trans (uh HOv7) hov8)
  clear hov8 HOv7
  go_wp2_with fail
  refine (uh N6 _).mono ?_
  rintro r v9 ⟨rfl,hov9⟩
  have HOv9:=hide (Only.trans (uh HOv8) hov9)
  clear hov9 HOv8
  go_wp2_with fail
  refine (uh N2 _).mono ?_
  rintro r v10 ⟨rfl,hov10⟩
  have HOv10:=hide (Only.trans (uh HOv9) hov10)
  clear hov10 HOv9
  have hcom:=uh HCOM
  go_wp2_with fail
  clear hcom HCOM
  refine (uh N1 _).mono ?_
  rintro r v11 ⟨rfl,hov11⟩
  have HOv11:=hide (Only.trans (uh HOv10) hov11)
  clear hov11 HOv10
  go_wp2_with fail
  refine (uh N7 _).mono ?_
  rintro r v12 ⟨rfl,hov12⟩
  have HOv12:=hide (Only.trans (uh HOv11) hov12)
  clear hov12 HOv11
  go_wp2_with fail
  refine (uh N8 _).mono ?_
  rintro r v13 ⟨rfl,hov13⟩
  have HOv13:=hide (Only.trans (uh HOv12) hov13)
  clear hov13 HOv12
  go_wp2_with fail
  go_roundw
  ·exact ⟨i+1,by omega,by go_num,by rw[uh HLL],by rw[uh HCC],HOv13⟩
  case measure=>simp[intOf];omega
 have hitI:¬(i:Int)<(T.length:Int):=by omega
 have hie:i=T.length:=by omega
 subst hie
 have hlb:=uh HLB T.length
 have hcb:=uh HCB T.length (Nat.le_refl _)
 have hls:=strB_size (locsL sPre (its.take T.length))
 have hcs:=strB_size (centsN sPre its T.length)
 have hlsz:(strB (locsL sPre (its.take T.length))).size≤1152921504606846976:=by rw[hls];exact hlb
 have hcsz:(strB (centsN sPre its T.length)).size≤1152921504606846976:=by rw[hcs];exact hcb
 have M1:=hide (fun W=>numberK 0 4 (by omega) (by omega) W)
 have M2:=hide (fun W=>numberK T.length 2 (by omega) (by omega) W)
 have M3:=hide (fun W=>numberK (strB (centsN sPre its T.length)).size 4 (by omega) (by omega) W)
 have M4:=hide (fun W=>numberK (strB (locsL sPre (its.take T.length))).size 4 (by omega) (by omega) W)
 have y1:=numS_size 0 4
 have y2:=numS_size T.length 2
 have y3:=numS_size (strB (centsN sPre its T.length)).size 4
 have y4:=numS_size (strB (locsL sPre (its.take T.length))).size 4
 have HFIN:Hid (strB (laidL sPre its)=(((((((strB (locsL sPre (its.take T.length))++strB (centsN sPre its T.length))++mkE)++numS 0 4)++numS T.length 2)++numS T.length 2)++numS (strB (centsN sPre its T.length)).size 4)++numS (strB (locsL sPre (its.take T.length))).size 4)++numS 0 2):=by
  unfold Hid
  have e1:leAll [0,0,T.length,T.length] 2=leB 0 4++leB T.length 2++leB T.length 2:=by
   have h0:leB 0 2++leB 0 2=leB 0 4:=by decide
   rw[←h0];simp[leAll]
  have e2:leAll [(centsN sPre its T.length).length,(locsL sPre (its.take T.length)).length] 4=leB (centsN sPre its T.length).length 4++leB (locsL sPre (its.take T.length)).length 4:=by simp[leAll]
  have e3:leAll [0] 2=leB 0 2:=by simp[leAll]
  rw[uh HEND,endL,e1,e2,e3,hls,hcs,numS_strB,numS_strB,numS_strB,numS_strB,numS_strB]
  simp only[←strB_app,strB_sL,ByteArray.append_assoc]
 clear hls hcs hlb hcb
 generalize numS 0 4=b1 at*
 generalize numS T.length 2=b2 at*
 generalize numS (strB (centsN sPre its T.length)).size 4=b3 at*
 generalize numS (strB (locsL sPre (its.take T.length))).size 4=b4 at*
 generalize numS 0 2=a2 at*
 generalize strB (locsL sPre (its.take T.length))=s0 at*
 generalize strB (centsN sPre its T.length)=c0 at*
 have hm1:mkE.size=4:=by decide
 have hq0:¬9223372036854775807<(s0).size+c0.size:=by have e:(s0).size=_:=rfl;clear e;(repeat rw[ByteArray.size_append]);omega
 have hq1:¬9223372036854775807<((s0++c0)).size+4:=by have e:((s0++c0)).size=_:=rfl;clear e;(repeat rw[ByteArray.size_append]);omega
 have hq2:¬9223372036854775807<(((s0++c0)++mkE)).size+b1.size:=by have e:(((s0++c0)++mkE)).size=_:=rfl;clear e;(repeat rw[ByteArray.size_append]);omega
 have hq3:¬9223372036854775807<((((s0++c0)++mkE)++b1)).size+b2.size:=by have e:((((s0++c0)++mkE)++b1)).size=_:=rfl;clear e;(repeat rw[ByteArray.size_append]);omega
 have hq4:¬9223372036854775807<(((((s0++c0)++mkE)++b1)++b2)).size+b2.size:=by have e:(((((s0++c0)++mkE)++b1)++b2)).size=_:=rfl;clear e;(repeat rw[ByteArray.size_append]);omega
 have hq5:¬9223372036854775807<((((((s0++c0)++mkE)++b1)++b2)++b2)).size+b3.size:=by have e:((((((s0++c0)++mkE)++b1)++b2)++b2)).size=_:=rfl;clear e;(repeat rw[ByteArray.size_append]);omega
 have hq6:¬9223372036854775807<(((((((s0++c0)++mkE)++b1)++b2)++b2)++b3)).size+b4.size:=by have e:(((((((s0++c0)++mkE)++b1)++b2)++b2)++b3)).size=_:=rfl;clear e;(repeat rw[ByteArray.size_append]);omega
 have hq7:¬9223372036854775807<((((((((s0++c0)++mkE)++b1)++b2)++b2)++b3)++b4)).size+a2.size:=by have e:((((((((s0++c0)++mkE)++b1)++b2)++b2)++b3)++b4)).size=_:=rfl;clear e;(repeat rw[ByteArray.size_append]);omega
 clear hm1
 go_wp2_with fail
 refine (uh M1 _).mono ?_
 rintro r x1 ⟨rfl,hox1⟩
 have HOx1:=hide (Only.trans (uh HOwr) hox1)
 clear hox1 HOwr
 go_wp2_with fail
 refine (uh M2 _).mono ?_
 rintro r x2 ⟨rfl,hox2⟩
 have HOx2:=hide (Only.trans (uh HOx1) hox2)
 clear hox2 HOx1
 go_wp2_with fail
 refine (uh M2 _).mono ?_
 rintro r x3 ⟨rfl,hox3⟩
 have HOx3:=hide (Only.trans (uh HOx2) hox3)
 clear hox3 HOx2
 go_wp2_with fail
 refine (uh M3 _).mono ?_
 rintro r x4 ⟨rfl,hox4⟩
 have HOx4:=hide (Only.trans (uh HOx3) hox4)
 clear hox4 HOx3
 go_wp2_with fail
 refine (uh M4 _).mono ?_
 rintro r x5 ⟨rfl,hox5⟩
 have HOx5:=hide (Only.trans (uh HOx4) hox5)
 clear hox5 HOx4
 go_wp2_with fail
 refine (uh N2 _).mono ?_
 rintro r x6 ⟨rfl,hox6⟩
 have HOx6:=hide (Only.trans (uh HOx5) hox6)
 clear hox6 HOx5
 go_wp2_with fail
 go_ret
 exact ⟨by rw[uh HFIN];rfl,HOx6⟩
def itemR(p s:ByteArray):Option (It×ByteArray):=
 if s.size<30 then none
 else if s.size<30+numL s 26 2+numL s 18 4 then none
 else if Lib.hasPrefix (s.extract 30 (30+numL s 26 2)).data.toList p.data.toList=false then none
 else if numL s 8 2≠0∧numL s 8 2≠8 then none
 else some (⟨⟨(Lib.trimPrefix (s.extract 30 (30+numL s 26 2)).data.toList p.data.toList).toArray⟩,numL s 8 2,numL s 14 4,numL s 22 4,s.extract (30+numL s 26 2) (30+numL s 26 2+numL s 18 4)⟩,s.extract (30+numL s 26 2+numL s 18 4) s.size)
theorem itemR_some{p s:ByteArray}{it:It}{b:ByteArray}(h:itemR p s=some (it,b))(hs:s.size≤40000)(w:World):
 Calls Tryz.prog 173 #[.string p,.string s] w fun r w' =>r=.returned (.tuple #[.agg it.v,.string b,.bool true])∧Old w w' :=by
 unfold itemR at h
 split at h
 ·cases h
 rename_i h1
 split at h
 ·cases h
 rename_i h2
 split at h
 ·cases h
 rename_i h3
 split at h
 ·cases h
 rename_i h4
 injection h with h
 injection h with ha hb
 subst ha hb
 exact readItemR p s _ _ _ _ _ _ hs (by omega) rfl rfl (by omega) (by simpa using h3) rfl rfl (by omega) rfl rfl w
theorem itemR_none{p s:ByteArray}(h:itemR p s=none)(hs:s.size≤40000)(w:World):
 Calls Tryz.prog 173 #[.string p,.string s] w fun r w' =>r=.returned (.tuple #[.agg #[.string ⟨#[]⟩,.int .u32 0,.int .u32 0,.int .u32 0,.string ⟨#[]⟩],.string ⟨#[]⟩,.bool false])∧Old w w' :=by
 have hA:Old w (w.alloc (.cells #[.string ⟨#[]⟩,.int .u32 0,.int .u32 0,.int .u32 0,.string ⟨#[]⟩] 131)):=(Only.refl _ w).alloc _
 have HZ:Hid ((w.alloc (.cells #[.string ⟨#[]⟩,.int .u32 0,.int .u32 0,.int .u32 0,.string ⟨#[]⟩] 131)).heap[w.heap.size]? =some (.cells #[.string ⟨#[]⟩,.int .u32 0,.int .u32 0,.int .u32 0,.string ⟨#[]⟩] 131 (0,0))):=Go.heap_alloc_new w _
 have HO:=hide hA
 clear hA
 by_cases h30:s.size<30
 ·have h30I:(s.size:Int)<30:=by omega
  clear h
  go_in
  go_wp2_with fail
  refine bodyPost_ret (results_cell_tmp2 Tryz.results173 _ _ w.heap.size 131 _ (0,0) _ rfl (uh HZ) Tryz.underlying131 rfl infoItem) rfl ⟨rfl,HO⟩
 have h30I:¬(s.size:Int)<30:=by omega
 have N1:=hide (fun W=>numberR s 26 2 (by omega) (by omega) (by omega) W)
 have N2:=hide (fun W=>numberR s 18 4 (by omega) (by omega) (by omega) W)
 have N3:=hide (fun W=>numberR s 8 2 (by omega) (by omega) (by omega) W)
 have b1:=numL_lt s 26 2
 have b2:=numL_lt s 18 4
 have b3:=numL_lt s 8 2
 obtain ⟨e1,hE1⟩: ∃e1,30+numL s 26 2=e1:=⟨_,rfl⟩
 obtain ⟨e2,hE2⟩: ∃e2,e1+numL s 18 4=e2:=⟨_,rfl⟩
 unfold itemR at h
 rw[if_neg h30,hE1,hE2] at h
 have HCP:=hide (fun W=>Tryz.strings_CutPrefix (s.extract 30 e1) p W)
 generalize numL s 26 2=k1 at*
 generalize numL s 18 4=k2 at*
 have hk1:k1<65536:=b1
 have hk2:k2<4294967296:=b2
 clear b1 b2
 have q1:(30:Int)+(k1:Int)=(e1:Int):=by omega
 have q2:(e1:Int)+(k2:Int)=(e2:Int):=by omega
 have hu1:IntKind.u64.wrap (e1:Int)=(e1:Int):=by rw[IntKind.wrap_u64];omega
 have hu2:IntKind.u64.wrap (e2:Int)=(e2:Int):=by rw[IntKind.wrap_u64];omega
 have he1b:e1≤100000:=by omega
 have he2b:e2≤5000000000:=by omega
 by_cases he:s.size<e2
 ·have heI:(s.size:Int)<(e2:Int):=by omega
  clear h HCP N3 b3 hE1 hE2
  go_in
  go_wp2_with fail
  refine (uh N1 _).mono ?_
  rintro r w1 ⟨rfl,rfl⟩
  go_wp2_with fail
  refine (uh N2 _).mono ?_
  rintro r w2 ⟨rfl,rfl⟩
  go_wp2_with fail
  refine bodyPost_ret (results_cell_tmp2 Tryz.results173 _ _ w.heap.size 131 _ (0,0) _ rfl (uh HZ) Tryz.underlying131 rfl infoItem) rfl ⟨rfl,HO⟩
 have heI:¬(s.size:Int)<(e2:Int):=by omega
 rw[if_neg he] at h
 have he1:30≤e1:=by omega
 have he1s:e1≤s.size:=by omega
 have hsl1: ∀W,(Instr.slice 9 (.string s) (some (.int .i64 30)) (some (.int .u64 (e1:Int))) none).run Tryz.prog W=.ok (.string (s.extract 30 e1)) W:=fun W=>run_slice_string W 9 s .i64 .u64 30 e1 Tryz.underlying9 (by omega) (by omega) (by omega)
 generalize numL s 8 2=k3 at*
 have hk3:k3<65536:=b3
 clear b3
 generalize (⟨(Lib.trimPrefix (s.extract 30 e1).data.toList p.data.toList).toArray⟩:ByteArray)=nm at*
 cases hpf:Lib.hasPrefix (s.extract 30 e1).data.toList p.data.toList with
 |false=>
  rw[hpf] at HCP
  clear h hpf hE1 hE2
  go_in
  go_wp2_with fail
  refine (uh N1 _).mono ?_
  rintro r w1 ⟨rfl,rfl⟩
  go_wp2_with fail
  refine (uh N2 _).mono ?_
  rintro r w2 ⟨rfl,rfl⟩
  go_wp2_with fail
  refine (uh HCP _).mono ?_
  rintro r w3 ⟨rfl,rfl⟩
  go_wp2_with fail
  refine (uh N3 _).mono ?_
  rintro r w4 ⟨rfl,rfl⟩
  go_wp2_with fail
  refine bodyPost_ret (results_cell_tmp2 Tryz.results173 _ _ w.heap.size 131 _ (0,0) _ rfl (uh HZ) Tryz.underlying131 rfl infoItem) rfl ⟨rfl,HO⟩
 |true=>
  rw[hpf] at h HCP
  rw[if_neg (by decide)] at h
  have h08:k3≠0∧k3≠8:=by
   by_cases hc:k3≠0∧k3≠8
   ·exact hc
   rw[if_neg hc] at h;cases h
  have h0:((k3:Int) !=0)=true:=by rw[bne_iff_ne];omega
  have h8:((k3:Int) !=8)=true:=by rw[bne_iff_ne];omega
  clear h hpf hE1 hE2 h08
  go_in
  go_wp2_with fail
  refine (uh N1 _).mono ?_
  rintro r w1 ⟨rfl,rfl⟩
  go_wp2_with fail
  refine (uh N2 _).mono ?_
  rintro r w2 ⟨rfl,rfl⟩
  go_wp2_with fail
  refine (uh HCP _).mono ?_
  rintro r w3 ⟨rfl,rfl⟩
  go_wp2_with fail
  refine (uh N3 _).mono ?_
  rintro r w4 ⟨rfl,rfl⟩
  go_wp2_with fail
  refine bodyPost_ret (results_cell_tmp2 Tryz.results173 _ _ w.heap.size 131 _ (0,0) _ rfl (uh HZ) Tryz.underlying131 rfl infoItem) rfl ⟨rfl,HO⟩
def badB(its:List It)(it:It):Bool:=its.length==60||(decide (0<its.length)&& !decide ((its.getD (its.length- 1) itD).name.data.toList<it.name.data.toList))
def readGo(p:ByteArray):Nat→ByteArray→List It→Option (List It)
 |0,_,_=>none
 |n+1,rest,its=>if Lib.hasPrefix rest.data.toList mkL.data.toList=false then some its else
  match itemR p rest with
  |none=>none
  |some (it,b)=>if badB its it then none else readGo p n b (its++[it])
def readP(p s:ByteArray):Option (List It):=match readGo p (s.size+1) s [] with
 |none=>none
 |some its=>if strB (laidL p its)=s then some its else none
theorem trimP_len(l p:List UInt8)(h:Lib.hasPrefix l p=true):(Lib.trimPrefix l p).length+p.length=l.length:=by
 have h1:p<+:l:=by
  unfold Lib.hasPrefix at h
  exact List.isPrefixOf_iff_prefix.1 h
 obtain ⟨t,rfl⟩:=h1
 unfold Lib.trimPrefix
 rw[if_pos h]
 simp;omega
theorem localL_len(p nm pk:ByteArray)(wy ck sz:Nat):(localL p ⟨nm,wy,ck,sz,pk⟩).length=30+(p.size+nm.size)+pk.size:=by
 unfold localL
 rw[List.length_append,List.length_append,List.length_append,toldL_len,sL_len,sL_len,sL_len,ByteArray.size_append]
 have:mkL.size=4:=by decide
 rw[this]
theorem itemR_facts{p s:ByteArray}{it:It}{b:ByteArray}(h:itemR p s=some (it,b))(hs:s.size≤40000):it.ok∧(localL p it).length+b.size=s.size∧30≤(localL p it).length:=by
 unfold itemR at h
 have b1:numL s 26 2<65536:=numL_lt s 26 2
 have b2:numL s 18 4<4294967296:=numL_lt s 18 4
 have b3:numL s 8 2<65536:=numL_lt s 8 2
 have b4:numL s 14 4<4294967296:=numL_lt s 14 4
 have b5:numL s 22 4<4294967296:=numL_lt s 22 4
 generalize numL s 26 2=k1 at*
 generalize numL s 18 4=k2 at*
 generalize numL s 8 2=k3 at*
 generalize numL s 14 4=k4 at*
 generalize numL s 22 4=k5 at*
 split at h
 ·cases h
 rename_i h1
 split at h
 ·cases h
 rename_i h2
 split at h
 ·cases h
 rename_i h3
 split at h
 ·cases h
 injection h with h
 injection h with ha hb
 have ht:=trimP_len (s.extract 30 (30+k1)).data.toList p.data.toList (by simpa using h3)
 have hl:(s.extract 30 (30+k1)).data.toList.length=k1:=by
  rw[Array.length_toList]
  show (s.extract 30 (30+k1)).size=_
  rw[ByteArray.size_extract];omega
 rw[hl] at ht
 have hp:p.data.toList.length=p.size:=by rw[Array.length_toList];rfl
 have hn:(ByteArray.mk (Lib.trimPrefix (s.extract 30 (30+k1)).data.toList p.data.toList).toArray).size=(Lib.trimPrefix (s.extract 30 (30+k1)).data.toList p.data.toList).length:=strB_size _
 have hz:(s.extract (30+k1) (30+k1+k2)).size=k2:=by rw[ByteArray.size_extract];omega
 have hb2:b.size=s.size- (30+k1+k2):=by rw[←hb,ByteArray.size_extract];omega
 generalize ByteArray.mk (Lib.trimPrefix (s.extract 30 (30+k1)).data.toList p.data.toList).toArray=nm at*
 generalize Lib.trimPrefix (s.extract 30 (30+k1)).data.toList p.data.toList=tl at*
 generalize s.extract (30+k1) (30+k1+k2)=pk at*
 clear hb h3
 subst ha
 have hll:=localL_len p nm pk k3 k4 k5
 refine ⟨⟨?_, ?_, ?_, ?_, ?_⟩, ?_, ?_⟩
 ·show k3<_;omega
 ·show k4<_;omega
 ·show k5<_;omega
 ·show nm.size≤_;omega
 ·show pk.size≤_;omega
 ·rw[hll];omega
 rw[hll];omega
theorem localL_cent(p:ByteArray)(it:It)(a:Nat):(centralL p it a).length≤(localL p it).length+16:=by
 unfold localL centralL
 simp only[List.length_append,toldL_len,sL_len,leAll_len,List.length_cons,List.length_nil]
 have h1:mkL.size=4:=by decide
 have h2:mkC.size=4:=by decide
 omega
theorem cents_le(p:ByteArray)(its:List It): ∀n,n≤its.length→(centsN p its n).length≤(locsL p (its.take n)).length+16*n
 |0,_=>by simp[centsN]
 |n+1,h=>by
  rw[centsN_succ,locsL_succ p its n (by omega),List.length_append,List.length_append]
  have h1:=cents_le p its n (by omega)
  have h2:=localL_cent p (its.getD n itD) (locsL p (its.take n)).length
  omega
theorem laidOk_of{p:ByteArray}{its:List It}(hp:p.size≤1000)(hok: ∀i∈its,i.ok)(h0:0<its.length)(h60:its.length≤60)(hl:(locsL p its).length≤40000):LaidOk p its:=by
 have hc:=cents_le p its its.length (Nat.le_refl _)
 rw[List.take_length] at hc
 refine ⟨hp,hok,h0,by omega,by omega,by omega, ?_⟩
 have h1:=centsN_le p its 1 its.length (by omega)
 have h2:0<(centsN p its 1).length:=by
  rw[centsN_succ,List.length_append]
  have:0<(centralL p (its.getD 0 itD) (locsL p (its.take 0)).length).length:=by unfold centralL;simp only[List.length_append,toldL_len];omega
  omega
 omega
end Go.Proofs.YtndfmgdhiallpaaGreatDoor
