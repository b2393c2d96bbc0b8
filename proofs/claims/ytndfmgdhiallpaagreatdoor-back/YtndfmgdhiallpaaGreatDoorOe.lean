import Derived.Test.YtndfmgdhiallpaaGreatDoorOd
set_option maxRecDepth 100000
set_option maxHeartbeats 4000000
namespace Go.Proofs.YtndfmgdhiallpaaGreatDoor
open Go.RowKit Go.Maps
theorem ofA(p:ByteArray)(hp:p.size≤1000)(v:Value)(fs:List Fl)(h:Fine fs)(w:World)(hv:FilesAt w v fs)(hm:MaxAt w)(hg:Glob w):
 Calls Tryz.prog 48 #[.string p,v] w fun r w' =>Old w w' ∧r=.returned (.tuple #[.string (sumP p fs),.int .i64 0]):=by
 obtain ⟨ao,cap,g,rfl,hgl,hao,hcl⟩:=hv.any hm.pos
 have hn20:=h.len
 have HFO:Hid (∀i,i<fs.length→fileP (fs.getD i default).1=true∧(fs.getD i default).1.size≤12∧(fs.getD i default).2.size≤600):=fun i hi=>by
  have hf:=h.form _ (List.getElem_mem hi)
  rw[List.getD_eq_getElem?_getD,List.getElem?_eq_getElem hi]
  exact ⟨(nmOk_facts hf.1).1,(nmOk_facts hf.1).2.2.2.2.1,hf.2⟩
 have HRI:=hide h.rise
 have HNL:Hid (∀f∈fs,f.1.size≤12):=fun f hf=>(nmOk_facts (h.form f hf).1).2.2.2.2.1
 have HCL:=hide hcl
 have HAO:=hide hao
 have HM:=hide hm
 have HG:=hide hg
 have hmm:(Instr.makeMap plT (some (.int .i64 (fs.length:Int)))).run Tryz.prog w=.ok (.map (some w.heap.size)) (w.alloc (.map #[] 0)):=by
  simp[Instr.makeMap,asIntOf,newObj,go_sem]
  rfl
 have HO0:Hid (Old w (w.alloc (.map #[] 0))):=(Only.refl _ w).alloc _
 have HP0:Hid (PlAt (w.alloc (.map #[] 0)) w.heap.size (nmsP (fs.take 0))):=PlAt.made w
 clear hcl hao hm hg h hv
 go_in
 go_wp2_with fail
 clear hmm
 go_loopw [7,8,9,10,19] (fun _ _ _ _ x wr=> ∃i:Nat,i≤fs.length∧x=.int .i64 i∧Hid (Old w wr)∧Hid (PlAt wr w.heap.size (nmsP (fs.take i)))) (fun _ _ _ _ x _=>fs.length- (intOf x).toNat)
 ·exact ⟨0,by omega,rfl,HO0,HP0⟩
 obtain ⟨i,hi,rfl,HO,HP⟩:=hrel
 clear HO0 HP0
 by_cases hil:i<fs.length
 ·have hilI:(i:Int)<(fs.length:Int):=by omega
  have hao:=uh HAO (by omega)
  subst hao
  have hc0:=((uh HO).cell (p:=⟨g,i*2,none⟩) hgl (fun x=>x)).trans (uh HCL i hil).1
  have hc1:=((uh HO).cell (p:=⟨g,i*2+1,none⟩) hgl (fun x=>x)).trans (uh HCL i hil).2
  obtain ⟨hf1,hf2,hf3⟩:=uh HFO i hil
  have HS:=hide (nmsP_succ fs i hil)
  have HNW:=hide (nmsP_new (uh HRI) i hil)
  have hnl:(nmsP (fs.take i)).length=i:=by simp[nmsP];omega
  generalize nmsP (fs.take i)=L at*
  generalize fs.getD i default=f at*
  obtain ⟨nm,d⟩:=f
  simp only at*
  have hA:Old wr (wr.alloc (.cells #[.string nm,.string d] 50)):=(Only.refl _ wr).alloc _
  have hbx:=Go.heap_alloc_new wr (.cells #[.string nm,.string d] 50)
  have HIF:=hide (isFileA nm (by omega) (wr.alloc (.cells #[.string nm,.string d] 50)) (((uh HM).old (uh HO)).old hA))
  have HOA:=hide (Only.trans (uh HO) hA)
  have HPA:=hide ((uh HP).old hA)
  rw[hf1] at HIF
  clear hA HO HP
  go_wp2_with fail
  refine (uh HIF).mono ?_
  rintro e w1 ⟨rfl,ho1⟩
  have HO1:=hide (Only.trans (uh HOA) ho1)
  have HP1:=hide ((uh HPA).old ho1)
  have hb1:=old_heap ho1 hbx
  have hq0:w1.cell? ⟨wr.heap.size,0,none⟩=some (.string nm):=by rw[cell_of_row _ _ 0 _ _ (0,0) hb1];rfl
  have hlk:=(uh HP1).look nm (by unfold maxLen;omega) (uh HNW)
  obtain ⟨w2,hup,hp2,hon⟩:=(uh HP1).put nm (by unfold maxLen;omega) (uh HNW) (by omega)
  rw[hnl] at hup
  have HP2:Hid (PlAt w2 w.heap.size (nmsP (fs.take (i+1)))):=by rw[uh HS];exact hp2
  have HO2:Hid (Old w w2):=(uh HO1).transNew hon (fun k hk e=>by omega)
  clear HIF ho1 HOA HPA hbx hb1 hc0 hc1 HP1 HO1 hp2 hon HNW
  go_wp2_with fail
  clear hup hlk hq0
  go_roundw
  ·exact ⟨i+1,by omega,by go_num,HO2,HP2⟩
  case measure=>simp[intOf];omega
 have hilI:¬(i:Int)<(fs.length:Int):=by omega
 have hie:i=fs.length:=by omega
 subst hie
 rw[List.take_length] at HP
 have hA:Old wr (wr.alloc (.cells #[.pointer none,.slice none 0 0] 142)):=(Only.refl _ wr).alloc _
 have HB0:=hide (builder_new wr)
 have hnl:(nmsP fs).length=fs.length:=by simp[nmsP]
 have HK1:=hide (((uh HP).old hA).keys (by
  have h:=uh HRI
  rw[nmsP]
  exact List.pairwise_map.2 h) (by omega))
 have HPB:=hide ((uh HP).old hA)
 have HOB:=hide (Only.trans (uh HO) hA)
 have HWB:Hid (w.heap.size≤wr.heap.size):=(uh HO).size
 have HGB:Hid (w.heap.size<wr.heap.size):=(uh HP).lt
 have hBs:(wr.alloc (.cells #[.pointer none,.slice none 0 0] 142)).heap.size=wr.heap.size+1:=World.size_alloc _ _
 have HBS:=hide hBs
 clear hA HO HP hBs
 go_wp2_with fail
 refine (uh HK1).mono ?_
 rintro e w1 ⟨kb,rfl,ho1,hc2⟩
 have HC2:=hide hc2
 have HB1:=hide (builder_old (uh HB0) ho1)
 have HP1:=hide ((uh HPB).old ho1)
 have HO1:=hide (Only.trans (uh HOB) ho1)
 have HS1:Hid (wr.heap.size<w1.heap.size):=by have h1:=ho1.size;have h2:=uh HBS;unfold Hid;omega
 clear hc2 ho1 HK1 HB0 HPB HOB HBS
 go_wp2_with fail
 refine (uh HC2).mono ?_
 rintro e w2 ⟨kv,rfl,ho2,hrow⟩
 have HK2:Hid (KeysAt w2 w1.heap.size kv (nmsP fs)):=hrow
 have HB2:=hide (builder_old (uh HB1) ho2)
 have HP2:=hide ((uh HP1).old ho2)
 have HO2:=hide (Only.trans (uh HO1) ho2)
 have HZ2:Hid (wr.heap.size≤w2.heap.size):=by have h1:=ho2.size;have h2:=uh HS1;unfold Hid;omega
 obtain ⟨ko,kc,kg,rfl,hko⟩:=(uh HK2).shape
 have HKO:=hide hko
 rw[hnl] at HKO HK2 ⊢
 clear ho2 hrow HC2 HB1 HP1 HO1 hko
 generalize wr.heap.size=B at*
 generalize w1.heap.size=B1 at*
 go_wp2_with fail
 go_loopw [13,45] (fun _ x wx=> ∃i:Nat,i≤fs.length∧x=.int .i64 i∧Hid (Lib.IsBuilderF 142 5 B B (Lib.byteCells (linesP p (fs.take i))) wx)∧Hid (KeysAt wx B1 (.slice ko fs.length kc) (nmsP fs))∧Hid (PlAt wx w.heap.size (nmsP fs))∧Hid (Old w wx)∧Hid (B≤wx.heap.size)) (fun _ x _=>fs.length- (intOf x).toNat)
 ·exact ⟨0,by omega,rfl,HB2,HK2,HP2,HO2,HZ2⟩
 obtain ⟨i,hi,rfl,HBX,HKX,HPX,HOX,HZX⟩:=hrel
 clear HB2 HK2 HP2 HO2 HZ2
 by_cases hil:i<fs.length
 ·have hilI:(i:Int)<(fs.length:Int):=by omega
  have hao:=uh HAO (by omega)
  subst hao
  have hko:=uh HKO (by omega)
  subst hko
  have hkc:wr.cell? ⟨kg,i,none⟩=some (.string (fs.getD i default).1):=by
   have h:=uh HKX
   rw[←hnl] at h
   have h2:=h.cell i (by omega)
   rw[nmsP_get fs i hil] at h2
   exact h2
  have hlk:=(uh HPX).at i (by omega) (by rw[nmsP_get fs i hil];have:=(uh HFO i hil).2.1;unfold maxLen;omega)
  rw[nmsP_get fs i hil] at hlk
  have hc1:=((uh HOX).cell (p:=⟨g,i*2+1,none⟩) hgl (fun x=>x)).trans (uh HCL i hil).2
  obtain ⟨_,hf2,hf3⟩:=uh HFO i hil
  have HLS:=hide (linesP_succ p fs i hil)
  have HLL:Hid ((linesP p (fs.take i)).length≤21580):=by
   have h1:=linesP_len p (fs.take i) (fun f hf=>uh HNL f (List.mem_of_mem_take hf))
   have h2:(fs.take i).length≤20:=by rw[List.length_take];omega
   have h3:(79+p.size)*(fs.take i).length≤(79+p.size)*20:=Nat.mul_le_mul_left _ h2
   unfold Hid;omega
  have HLI:Hid (lineP p (fs.getD i default)=digestOf (fs.getD i default).2++⟨#[32,32]⟩++p++(fs.getD i default).1++⟨#[10]⟩):=rfl
  have HLZ:=hide (lineP_size p (fs.getD i default))
  have hdz:=digestOf_size (fs.getD i default).2
  have HOF:=hide (of_any (fs.getD i default).2 (by omega) wr ((uh HG).old (uh HOX)))
  generalize linesP p (fs.take i)=LL at*
  generalize lineP p (fs.getD i default)=li at*
  generalize fs.getD i default=f at*
  obtain ⟨nm,d⟩:=f
  simp only at*
  generalize digestOf d=dg at*
  go_wp2_with fail
  refine (uh HOF).mono ?_
  rintro e w3 ⟨rfl,ho3⟩
  have HB3:=hide (builder_old (uh HBX) ho3)
  have HK3:=hide ((uh HKX).old ho3)
  have HP3:=hide ((uh HPX).old ho3)
  have HO3:=hide (Only.trans (uh HOX) ho3)
  have HZ3:Hid (B≤w3.heap.size):=Nat.le_trans (uh HZX) ho3.size
  clear ho3 HOF HBX HKX HPX HOX HZX hkc hlk hc1
  go_wp2_with fail
  have hli:=uh HLI
  rw[←hli]
  have HWS:=hide (writeStrA B B (Lib.byteCells LL) li w3 (uh HB3) (by have h1:=uh HLZ;have h2:=uh HLL;rw[Lib.byteCells,List.length_map];omega) (uh HZ3))
  refine (uh HWS).mono ?_
  rintro e w4 ⟨⟨x,rfl⟩,hb4,hbl4,hot4⟩
  have HB4:Hid (Lib.IsBuilderF 142 5 B B (Lib.byteCells (linesP p (fs.take (i+1)))) w4):=by
   unfold Hid
   rw[uh HLS,Lib.byteCells_append,←Lib.strCells_eq];exact hb4
  have HK4:=hide ((uh HK3).others (uh HS1) hot4)
  have HP4:=hide ((uh HP3).kept (below_only hbl4) (by have:=uh HGB;omega))
  have HO4:Hid (Old w w4):=(uh HO3).transNew (below_only hbl4) (fun k hk e=>by have:=uh HWB;omega)
  have HZ4:Hid (B≤w4.heap.size):=Nat.le_trans (uh HZ3) hbl4.size
  clear hb4 hbl4 hot4 HWS HB3 HK3 HP3 HO3 HZ3
  go_wp2_with fail
  go_roundw
  ·exact ⟨i+1,by omega,by go_num,HB4,HK4,HP4,HO4,HZ4⟩
  case measure=>simp[intOf];omega
 have hilI:¬(i:Int)<(fs.length:Int):=by omega
 have hie:i=fs.length:=by omega
 subst hie
 rw[List.take_length] at HBX
 have HLL:Hid ((linesP p fs).length≤21580):=by
  have h1:=linesP_len p fs (uh HNL)
  have h3:(79+p.size)*fs.length≤(79+p.size)*20:=Nat.mul_le_mul_left _ hn20
  unfold Hid;omega
 have HSM:Hid (sumP p fs=⟨#[104,49,58]⟩++strB (sumL (byN (wordsOf (strB (linesP p fs)))))):=rfl
 have HST:=hide (Tryz.Builder_String_any_k B B (linesP p fs) wr (uh HBX) (uh HZX))
 have hss:(⟨(linesP p fs).toArray⟩:ByteArray)=strB (linesP p fs):=rfl
 rw[hss] at HST
 have hsz:(strB (linesP p fs)).size≤140737488355328:=by rw[strB_size];have:=uh HLL;omega
 have HBY:=hide (fun W hgW=>bytesA (strB (linesP p fs)) hsz W hgW)
 clear hss hsz HLL HBX HKX HPX
 generalize strB (linesP p fs)=lines at*
 have HIL:Hid (∀W,Calls Tryz.prog 97 #[.agg (sumA (byN (wordsOf lines)))] W fun r w' =>r=.returned (.string (strB (sumL (byN (wordsOf lines)))))∧Old W w'):=fun W=>inLettersA _ (fun i=>byN_lt _ i) W
 have hs44:(strB (sumL (byN (wordsOf lines)))).size=44:=by rw[strB_size,sumL,List.length_append,List.length_append,lets_len,letL_len];rfl
 generalize strB (sumL (byN (wordsOf lines)))=su at*
 generalize sumA (byN (wordsOf lines))=sa at*
 go_wp2_with fail
 refine (uh HST).mono ?_
 rintro e w5 ⟨rfl,_,hbl5,_⟩
 have HO5:Hid (Old w w5):=(uh HOX).transNew (below_only hbl5) (fun k hk e=>by have:=uh HWB;omega)
 clear HST hbl5 HOX
 go_wp2_with fail
 refine (uh HBY w5 ((uh HG).old (uh HO5))).mono ?_
 rintro e w6 ⟨rfl,ho6⟩
 have HO6:=hide (Only.trans (uh HO5) ho6)
 clear HBY ho6 HO5
 go_wp2_with fail
 refine (uh HIL w6).mono ?_
 rintro e w7 ⟨rfl,ho7⟩
 have HO7:=hide (Only.trans (uh HO6) ho7)
 clear HIL ho7 HO6
 go_wp2_with fail
 go_ret2
 exact ⟨HO7,by rw[uh HSM];rfl⟩
theorem vSumA(v:Value)(fs:List Fl)(h:Fine fs)(w:World)(hv:FilesAt w v fs)(hm:MaxAt w)(hg:Glob w):
 Calls Tryz.prog 29 #[.string sMod,.string sVer,v] w fun r w' =>Old w w' ∧r=.returned (.tuple #[.string (sumP sPre fs),.int .i64 0]):=by
 have H1:=hide (prefixC w hm)
 have H2:=hide (fun W hv' hm' hg' =>ofA sPre (by decide) v fs h W hv' hm' hg')
 have HM:=hide hm
 have HG:=hide hg
 have HV:=hide hv
 clear hm hg hv h
 generalize sumP sPre fs=z at*
 go_in
 go_wp2_with fail
 refine (uh H1).mono ?_
 rintro r w1 ⟨rfl,ho1⟩
 have HO1:=hide ho1
 have H3:=hide (uh H2 w1 ((uh HV).old ho1) ((uh HM).old ho1) ((uh HG).old ho1))
 clear ho1 H1 H2 HM HG HV
 go_wp2_with fail
 refine (uh H3).mono ?_
 rintro r w3 ⟨ho3,rfl⟩
 have HO3:=hide (Only.trans (uh HO1) ho3)
 clear ho3 H3 HO1
 go_wp2_with fail
 go_ret2
 exact ⟨HO3,rfl⟩
theorem beq_of{a b:ByteArray}(h:a≠b):(a.toList==b.toList)=false:=by
 rw[beq_eq_false_iff_ne]
 intro e
 rw[Lib.toList_data,Lib.toList_data] at e
 exact h (data_inj e)
theorem vVerifyA(s a:ByteArray)(hs:s.size≤40000)(fs:List Fl)(h:Fine fs)(hu:unpP sPre s=(fs,0))(k:Nat)(hk:(a=sumP sPre fs∧k=0)∨(a≠sumP sPre fs∧k=9))(w:World)(hw:Awk w):
 Calls Tryz.prog 30 #[.string sMod,.string sVer,.string s,.string a] w fun r w' =>Old w w' ∧r=.returned (.int .i64 (k:Int)):=by
 have H1:=hide (vUnpackA s (by omega) w hw.1 hw.2.1)
 rw[hu] at H1
 have H2:=hide (fun W v hv' hm' hg' =>vSumA v fs h W hv' hm' hg')
 have HW:=hide hw
 clear hw h hu
 generalize sumP sPre fs=z at*
 go_in
 go_wp2_with fail
 refine (uh H1).mono ?_
 rintro r w1 ⟨ho1,hr1⟩
 rcases hr1 with ⟨_,q,rfl,hf,_⟩|⟨e1,_⟩
 case inr=>exact absurd rfl e1
 have HO1:=hide ho1
 have HW1:=(uh HW).old ho1
 have H3:=hide (uh H2 w1 q hf HW1.1 HW1.2.2)
 clear ho1 H1 H2 HW HW1 hf
 go_wp2_with fail
 refine (uh H3).mono ?_
 rintro r w3 ⟨ho3,rfl⟩
 have HO3:=hide (Only.trans (uh HO1) ho3)
 clear ho3 H3 HO1
 rcases hk with ⟨e,rfl⟩|⟨e,rfl⟩
 ·subst e
  have hb:(a.toList==a.toList)=true:=by simp
  go_wp2_with fail
  go_ret
  exact ⟨HO3,rfl⟩
 have hb:(z.toList==a.toList)=false:=beq_of (fun x=>e x.symm)
 go_wp2_with fail
 go_ret
 exact ⟨HO3,rfl⟩
end Go.Proofs.YtndfmgdhiallpaaGreatDoor
