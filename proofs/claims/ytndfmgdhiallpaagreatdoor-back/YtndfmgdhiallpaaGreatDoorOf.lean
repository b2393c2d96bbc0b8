import Derived.Test.YtndfmgdhiallpaaGreatDoorOe
import Derived.Test.YtndfmgdhiallpaaGreatDoorLo
import Derived.Test.YtndfmgdhiallpaaGreatDoorJi
set_option maxRecDepth 100000
set_option maxHeartbeats 4000000
namespace Go.Proofs.YtndfmgdhiallpaaGreatDoor
open Go.RowKit Go.Maps
theorem sumP_head(p:ByteArray)(fs:List Fl):(sumP p fs).extract 0 3=⟨#[104,49,58]⟩:=by
 unfold sumP
 have e:(⟨#[104,49,58]⟩:ByteArray)=strB [104,49,58]:=rfl
 rw[e,strB_app]
 have h:=strB_extract [] [104,49,58] (sumL (byN (wordsOf (strB (linesP p fs))))) 0 3 rfl rfl
 rw[List.nil_append] at h
 exact h
theorem turn_perm(T:List Ent)(k:Nat):(T.drop k++T.take k).Perm T:=by
 have h:=List.perm_append_comm (l₁:=T.drop k) (l₂:=T.take k)
 rw[List.take_append_drop] at h
 exact h
theorem FilesAt.len{w:World}{v:Value}{fs:List Fl}(h:FilesAt w v fs): ∃ao cap,v=.slice ao fs.length cap:=by
 obtain ⟨_,⟨rfl,hz⟩|⟨g,cap,cur,rfl,_⟩⟩:=h
 ·rw[hz];exact ⟨none,0,rfl⟩
 exact ⟨_,_,rfl⟩
theorem LeftsAt.none{w:World}{v:Value}(h:LeftsAt w v []): ∃ao cap,v=.slice ao 0 cap:=by
 obtain ⟨_,⟨rfl,hz⟩|⟨g,cap,cur,rfl,_⟩⟩:=h
 ·exact ⟨_,_,rfl⟩
 exact ⟨_,_,rfl⟩
theorem stFile:Tryz.prog.underlying 50=some (.struct (Tryz.prog.fieldsOf 50)):=by kernel_rfl
theorem shFile:Tryz.prog.stoodInHeld 50=false:=by kernel_rfl
theorem neqFile(nm d:ByteArray)(W:World):(binOp .neq 50 (.agg #[.string nm,.string d]) (.agg #[.string nm,.string d])).run Tryz.prog W=.ok (.bool false) W:=by
 rw[run_neq_struct,run_equalIn_agg W 9999 _ _ _ stFile shFile]
 simp[go_sem,Tryz.underlying50]
theorem sum_more(a:ByteArray):a++⟨#[61]⟩≠a:=by
 intro e
 have:=congrArg ByteArray.size e
 rw[ByteArray.size_append] at this
 have h1:(⟨#[61]⟩:ByteArray).size=1:=rfl
 omega
theorem backW(v:Value)(n:Nat)(hn:n≤maxLen)(tn:Int)(htn: -9223372036854775808≤tn∧tn≤9223372036854775807)(w:World)(hv:RawAt w v n)(hw:Awk w):
 Calls Tryz.prog 11 #[v,.int .i64 tn] w fun r w' =>r=.returned (.bool true)∧Old w w' :=by
 have H1:=hide (awakeX w hw)
 have HW:=hide hw
 have HV:=hide hv
 have HTN:=hide htn
 obtain ⟨ao,cp,rfl⟩:=hv.len
 clear hw hv htn
 go_in
 go_wp2_with fail
 refine (uh H1).mono ?_
 rintro r w1 ⟨rfl,ho1⟩
 have HO1:=hide ho1
 have HW1:=hide ((uh HW).old ho1)
 have HV1:=hide ((uh HV).old ho1)
 clear ho1 H1 HW HV
 go_wp2_with fail
 refine (entriesA _ n hn w1 (uh HV1)).mono ?_
 rintro r w2 ⟨u,T,rfl,ho2,her,hmd,hTl, -⟩
 have HO2:=hide (Only.trans (uh HO1) ho2)
 have HW2:=hide ((uh HW1).old ho2)
 have HFR:=hide (free_of hmd hTl)
 have HPK:=hide (fun W=>kpick_any tn (uh HTN).1 (uh HTN).2 (T.length+1) (by omega) (by omega) W)
 have hk:=pickN_lt tn (show 0<T.length+1 by omega)
 rw[show ((T.length+1:Nat):Int)=(T.length:Int)+1 by omega] at HPK
 generalize pickN tn (T.length+1)=k at*
 obtain ⟨x1,hx1,hs1, -⟩:=her.high k (by omega)
 obtain ⟨x2,hx2,hs2, -⟩:=her.low k (by omega)
 have HE2:=hide her
 have HS1:=hide hs1
 have HS2:=hide hs2
 obtain ⟨uo,uc,rfl⟩:=her.shape
 clear ho2 her hmd HO1 HW1 HV1 HTN hs1 hs2
 go_wp2_with fail
 refine (uh HPK _).mono ?_
 rintro r w3 ⟨rfl,rfl⟩
 clear HPK
 have HE0:Hid (EntRow w3 (.slice none 0 0) []):=World.ownsRow_nil w3 0 _ 3
 have HR0:=hide (Only.refl (fun _=>False) w3)
 go_upto_region 6 with (at_builtin;refine wpList_append_ent rfl (.tmp 35) (.tmp 38) rfl (.slice none 0 0) x1 [] (T.drop k) rfl rfl (uh HE0) (uh HS1) (by simp;omega) ?_;intro v1 wq hr1 hg1 hb1;have HQ1:=hide (step_ent (uh HR0) (v:=.slice none 0 0) (fun b h=>by cases h) hg1 hb1);have HE1:=hide hr1;clear hr1 hg1 hb1)
 have HS3:=hide ((uh HS2).old (uh HQ1).1)
 go_upto_region 7 with (at_builtin;refine wpList_append_ent rfl (.tmp 40) (.tmp 43) rfl v1 x2 ([]++T.drop k) (T.take k) rfl rfl (uh HE1) (uh HS3) (by simp;omega) ?_;intro v2 w4 hr2 hg2 hb2;have HQ2:=hide (step_ent (uh HQ1).1 (uh HQ1).2 hg2 hb2);have HE3:=hide hr2;clear hr2 hg2 hb2)
 have HOA:Hid (Old w w4):=Only.trans (uh HO2) (uh HQ2).1
 have HWA:=hide ((uh HW2).old (uh HQ2).1)
 have HEA:=hide ((uh HE2).old (uh HQ2).1)
 have HMA:Hid (EntRow w4 v2 (T.drop k++T.take k)):=by have h:=uh HE3;rw[List.nil_append] at h;exact h
 have HFM:=hide ((uh HFR).perm (turn_perm T k))
 have HPM:=hide (turn_perm T k)
 generalize T.drop k++T.take k=U at*
 clear HO2 HW2 HE2 HS1 HS2 HS3 HE0 HR0 HQ1 HE1 HQ2 HE3 hx1 hx2
 go_wp2_with fail
 refine (chooseFe (uh HEA) (uh HFR) (uh HWA).1).mono ?_
 rintro r w5 ⟨vf,yl,fs,rfl,ho5,hfs,hfa,hla, -⟩
 have HO5:=hide (Only.trans (uh HOA) ho5)
 have HW5:=hide ((uh HWA).old ho5)
 have HE5:=hide ((uh HEA).old ho5)
 have HM5:=hide ((uh HMA).old ho5)
 have HFS:=hide hfs
 have HFA:=hide hfa
 have HFN:=hide (fine_of (uh HFR) hfs)
 obtain ⟨lo,lc,rfl⟩:=hla.none
 clear ho5 hfs hfa hla HOA HWA HEA HMA
 go_wp2_with fail
 refine (vPackF (uh HE5) (uh HFR) (uh HW5).1).mono ?_
 rintro r w6 ⟨fs1,hfs1,ho6,rfl⟩
 have e1:=FsOf.same (List.Perm.refl T) (uh HFS) hfs1
 subst e1
 have HO6:=hide (Only.trans (uh HO5) ho6)
 have HW6:=hide ((uh HW5).old ho6)
 have HE6:=hide ((uh HE5).old ho6)
 have HM6:=hide ((uh HM5).old ho6)
 have HF6:Hid (FilesAt w6 vf fs1):=(uh HFA).kept ho6 (fun _ _ x=>x)
 clear ho6 hfs1 HO5 HW5 HE5 HM5 HFA
 go_wp2_with fail
 refine (vPackF (uh HM6) (uh HFM) (uh HW6).1).mono ?_
 rintro r w7 ⟨fs2,hfs2,ho7,rfl⟩
 have e2:=FsOf.same (uh HPM) (uh HFS) hfs2
 subst e2
 have HO7:=hide (Only.trans (uh HO6) ho7)
 have HW7:=hide ((uh HW6).old ho7)
 have HE7:=hide ((uh HE6).old ho7)
 have HF7:Hid (FilesAt w7 vf fs2):=(uh HF6).kept ho7 (fun _ _ x=>x)
 have HU:=hide (uh HFN).unp
 have hzs:(strB (laidL sPre (itemsP fs2))).size≤40000:=by rw[strB_size];exact (uh HFN).size
 generalize strB (laidL sPre (itemsP fs2))=z at*
 clear ho7 hfs2 HO6 HW6 HE6 HM6 HF6 HFM HPM
 go_wp2_with fail
 refine (vUnpackA z (by omega) w7 (uh HW7).1 (uh HW7).2.1).mono ?_
 rintro r w8 ⟨ho8,hr8⟩
 rw[uh HU] at hr8
 rcases hr8 with ⟨-,vg,rfl,hfg, -⟩|⟨e1,_⟩
 case inr=>exact absurd rfl e1
 have HO8:=hide (Only.trans (uh HO7) ho8)
 have HW8:=hide ((uh HW7).old ho8)
 have HE8:=hide ((uh HE7).old ho8)
 have HF8:Hid (FilesAt w8 vf fs2):=(uh HF7).kept ho8 (fun _ _ x=>x)
 have HG8:Hid (FilesAt w8 vg fs2):=hfg
 clear ho8 hfg HO7 HW7 HE7 HF7
 go_wp2_with fail
 refine (vSumA vf fs2 (uh HFN) w8 (uh HF8) (uh HW8).1 (uh HW8).2.2).mono ?_
 rintro r w9 ⟨ho9,rfl⟩
 have HO9:=hide (Only.trans (uh HO8) ho9)
 have HW9:=hide ((uh HW8).old ho9)
 have HE9:=hide ((uh HE8).old ho9)
 have HF9:Hid (FilesAt w9 vf fs2):=(uh HF8).kept ho9 (fun _ _ x=>x)
 have HG9:Hid (FilesAt w9 vg fs2):=(uh HG8).kept ho9 (fun _ _ x=>x)
 clear ho9 HO8 HW8 HE8 HF8 HG8
 go_wp2_with fail
 refine (vSumA vg fs2 (uh HFN) w9 (uh HG9) (uh HW9).1 (uh HW9).2.2).mono ?_
 rintro r wa ⟨hoa,rfl⟩
 have HOa:=hide (Only.trans (uh HO9) hoa)
 have HWa:=hide ((uh HW9).old hoa)
 have HEa:=hide ((uh HE9).old hoa)
 have HFa:Hid (FilesAt wa vf fs2):=(uh HF9).kept hoa (fun _ _ x=>x)
 have HGa:Hid (FilesAt wa vg fs2):=(uh HG9).kept hoa (fun _ _ x=>x)
 have HV0:=hide (fun W hW=>vVerifyA z (sumP sPre fs2) hzs fs2 (uh HFN) (uh HU) 0 (.inl ⟨rfl,rfl⟩) W hW)
 have HV9:=hide (fun W hW=>vVerifyA z (sumP sPre fs2++⟨#[61]⟩) hzs fs2 (uh HFN) (uh HU) 9 (.inr ⟨sum_more _,rfl⟩) W hW)
 have hs47:=sumP_size sPre fs2
 have hsl: ∀W,(Instr.slice 9 (.string (sumP sPre fs2)) none (some (.int .i64 3)) none).run Tryz.prog W=.ok (.string ⟨#[104,49,58]⟩) W:=fun W=>by
  have h:=run_slice_string_h (P:=Tryz.prog) W 9 (sumP sPre fs2) Tryz.underlying9 .i64 3 (by omega) (by omega)
  rw[show (3:Int).toNat=3 from rfl,sumP_head] at h
  exact h
 clear hoa HO9 HW9 HE9 HF9 HG9 HU
 generalize sumP sPre fs2=a at*
 go_wp2_with fail
 refine (uh HV0 wa (uh HWa)).mono ?_
 rintro r wb ⟨hob,rfl⟩
 have HOb:=hide (Only.trans (uh HOa) hob)
 have HWb:=hide ((uh HWa).old hob)
 have HEb:=hide ((uh HEa).old hob)
 have HFb:Hid (FilesAt wb vf fs2):=(uh HFa).kept hob (fun _ _ x=>x)
 have HGb:Hid (FilesAt wb vg fs2):=(uh HGa).kept hob (fun _ _ x=>x)
 clear hob HOa HWa HEa HFa HGa HV0
 go_wp2_with fail
 refine (uh HV9 wb (uh HWb)).mono ?_
 rintro r wc ⟨hoc,rfl⟩
 have HOc:=hide (Only.trans (uh HOb) hoc)
 have HEc:=hide ((uh HEb).old hoc)
 have HFc:Hid (FilesAt wc vf fs2):=(uh HFb).kept hoc (fun _ _ x=>x)
 have HGc:Hid (FilesAt wc vg fs2):=(uh HGb).kept hoc (fun _ _ x=>x)
 clear hoc HOb HWb HEb HFb HGb HV9
 have hlen:fs2.length=T.length:=by rw[(uh HFS).1.length_eq,flsE,List.length_map]
 obtain ⟨fo,fc,hvf⟩:=(uh HFc).len
 obtain ⟨go,gc,hvg⟩:=(uh HGc).len
 rw[hlen] at hvf hvg
 subst hvf hvg
 have hez:(z.toList==z.toList)=true:=by simp
 have hea:(a.toList==a.toList)=true:=by simp
 have hs47I:(a.size:Int)=47:=by omega
 go_wp2_with fail
 have HRI:Hid (∀i,i+1<T.length→(fs2.getD i default).1.data.toList<(fs2.getD (i+1) default).1.data.toList):=fun i hi=>by
  have h:=List.pairwise_iff_getElem.1 (uh HFS).2 i (i+1) (by omega) (by omega) (by omega)
  simpa [List.getD_eq_getElem?_getD,List.getElem?_eq_getElem (show i<fs2.length by omega),List.getElem?_eq_getElem (show i+1<fs2.length by omega)] using h
 have HIN:Hid (∀i,i<T.length→ ∃j,j<T.length∧(T.getD j ent0).nm=(fs2.getD i default).1∧(T.getD j ent0).dt=(fs2.getD i default).2):=fun i hi=>by
  have hm:fs2.getD i default∈flsE T:=(uh HFS).1.mem_iff.1 (by rw[List.getD_eq_getElem?_getD,List.getElem?_eq_getElem (show i<fs2.length by omega)];exact List.getElem_mem _)
  obtain ⟨e,he,hee⟩:=List.mem_map.1 hm
  obtain ⟨j,hj,rfl⟩:=List.getElem_of_mem he
  refine ⟨j,hj, ?_, ?_⟩<;>(rw[←hee,List.getD_eq_getElem?_getD,List.getElem?_eq_getElem hj];rfl)
 clear HFS HFN HFR hzs hez hea hs47 hsl hs47I
 go_loopw [24,25,26] (fun x _ _ W=> ∃i:Nat,i≤T.length∧x=.int .i64 i∧Hid (Old wc W)) (fun x _ _ _=>T.length- (intOf x).toNat)
 ·exact ⟨0,by omega,rfl,Only.refl _ _⟩
 obtain ⟨i,hi,rfl,HOI⟩:=hrel
 by_cases hil:i<T.length
 ·have hilI:(i:Int)<(T.length:Int):=by omega
  obtain ⟨g1,c1,hv1, -,hf1⟩:=((uh HFc).old (uh HOI)).slice (by omega)
  obtain ⟨g2,c2,hv2, -,hf2⟩:=((uh HGc).old (uh HOI)).slice (by omega)
  injection hv1 with hq1 hq2 hq3
  injection hv2 with hp1 hp2 hp3
  subst hq1 hq3 hp1 hp3
  obtain ⟨a1,a2⟩:=hf1 i (by omega)
  obtain ⟨b1,b2⟩:=hf2 i (by omega)
  have HPV:Hid (0<i→wr.cell? ⟨g2,(i- 1)*2,none⟩=some (.string (fs2.getD (i- 1) default).1)∧(Op.bytesLess (fs2.getD (i- 1) default).1.toList (fs2.getD i default).1.toList)=true):=fun h0=>⟨(hf2 (i- 1) (by omega)).1,by
   rw[lessL]
   have h:=uh HRI (i- 1) (by omega)
   rw[show i- 1+1=i by omega] at h
   exact decide_eq_true h⟩
  obtain ⟨jj,hjj,hj1,hj2⟩:=uh HIN i hil
  have HJ:Hid ((T.getD jj ent0).nm=(fs2.getD i default).1∧(T.getD jj ent0).dt=(fs2.getD i default).2):=⟨hj1,hj2⟩
  clear hf1 hf2 hq2 hp2 hj1 hj2
  obtain ⟨f,hf⟩: ∃f,fs2.getD i default=f:=⟨_,rfl⟩
  rw[hf] at HPV HJ a1 a2 b1 b2
  obtain ⟨nm,d⟩:=f
  have HFI:=hide hf
  clear hf
  simp only at*
  have hne:=neqFile nm d
  rcases Nat.eq_zero_or_pos i with h0|h0
  ·have h0I:¬(0:Int)<(i:Int):=by omega
   have h0N:¬0<i:=by omega
   have h0D:decide ((0:Int)<(i:Int))=false:=decide_eq_false h0I
   have h0E:decide (0<i)=false:=decide_eq_false h0N
   clear HPV h0
   go_wp2_with fail
   go_quiet (fail)
   go_wp2_with fail
   clear a1 a2 b1 b2 hne
   go_loopw [25,26] (fun y x W=> ∃(o:Nat) (fnd:Bool),o≤T.length∧x=.int .i64 o∧y=.bool fnd∧Hid (jj<o→fnd=true)∧Hid (Old wc W)) (fun _ x _=>T.length- (intOf x).toNat)
   ·exact ⟨0,false,by omega,rfl,rfl,(fun h=>absurd h (by omega)),(uh HOI).drewN _⟩
   obtain ⟨o,fnd,ho,rfl,rfl,HFD,HOO⟩:=hrel
   by_cases hol:o<T.length
   ·have holI:(o:Int)<(T.length:Int):=by omega
    obtain ⟨g3,c3,hve,hent⟩:=((uh HEc).old (uh HOO)).slice (by omega)
    obtain ⟨-,e1, -,e3⟩:=hent o hol
    injection hve with hr1 hr2 hr3
    subst hr1 hr3
    obtain ⟨g4,c4,hv4, -,hf4⟩:=((uh HGc).old (uh HOO)).slice (by omega)
    injection hv4 with hs1 hs2 hs3
    injection hs1 with hs1
    injection hs1 with hs1
    subst hs1
    obtain ⟨b1,b2⟩:=hf4 i (by omega)
    rw[uh HFI] at b1 b2
    simp only at b1 b2
    have HNX:Hid (∀nf:Bool,(jj<o→nf=true)→((T.getD o ent0).nm=nm→(T.getD o ent0).dt=d→nf=true)→jj<o+1→nf=true):=by
     intro nf h1 h2 h3
     rcases Nat.lt_or_ge jj o with h4|h4
     ·exact h1 h4
     have h5:jj=o:=by omega
     have h6:=uh HJ
     rw[h5] at h6
     exact h2 h6.1 h6.2
    clear hent hf4 hr2 hs2 hs3
    generalize (T.getD o ent0).nm=nmo at*
    generalize (T.getD o ent0).dt=dto at*
    cases fnd with
    |true=>
     go_wp2_with fail
     go_quiet (fail)
     go_wp2_with fail
     go_roundw
     ·exact ⟨o+1,true,by omega,by go_num,rfl,fun _=>rfl,(uh HOO).drewN _⟩
     case measure=>simp[intOf];omega
    |false=>
     by_cases q1:nmo=nm
     ·subst q1
      have t1:(nmo.toList==nmo.toList)=true:=by simp
      by_cases q2:dto=d
      ·subst q2
       have t2:(dto.toList==dto.toList)=true:=by simp
       go_wp2_with fail
       go_quiet (fail)
       go_wp2_with fail
       go_roundw
       ·exact ⟨o+1,true,by omega,by go_num,rfl,fun _=>rfl,(uh HOO).drewN _⟩
       case measure=>simp[intOf];omega
      have t2:(dto.toList==d.toList)=false:=beq_of q2
      have HN2:=hide (uh HNX false (uh HFD) (fun _ e=>absurd e q2))
      clear q2
      go_wp2_with fail
      go_quiet (fail)
      go_wp2_with fail
      go_roundw
      ·exact ⟨o+1,false,by omega,by go_num,rfl,HN2,(uh HOO).drewN _⟩
      case measure=>simp[intOf];omega
     have t1:(nmo.toList==nm.toList)=false:=beq_of q1
     have HN2:=hide (uh HNX false (uh HFD) (fun e=>absurd e q1))
     clear q1
     go_wp2_with fail
     go_quiet (fail)
     go_wp2_with fail
     go_roundw
     ·exact ⟨o+1,false,by omega,by go_num,rfl,HN2,(uh HOO).drewN _⟩
     case measure=>simp[intOf];omega
   have holI:¬(o:Int)<(T.length:Int):=by omega
   have hfd:=uh HFD (by omega)
   subst hfd
   go_wp2_with fail
   go_roundw
   ·exact ⟨i+1,by omega,by go_num,HOO⟩
   case measure=>simp[intOf];omega
  obtain ⟨p1,p2⟩:=uh HPV h0
  obtain ⟨q,hq⟩: ∃q,q=i- 1:=⟨_,rfl⟩
  rw[←hq] at p1 p2
  have hqI:(i:Int)- 1=(q:Int):=by omega
  have h0I:(0:Int)<(i:Int):=by omega
  have hqw:IntKind.i64.wrap (q:Int)=(q:Int):=i64_wrap_nat _ (by omega)
  have hq0:(0:Int)≤(q:Int):=by omega
  have hqT:(q:Int)<(T.length:Int):=by omega
  have hilQ:i≤20:=by omega
  have HQQ:=hide hq
  clear hq HPV
  generalize (fs2.getD q default).1=nmq at*
  go_wp2_with fail
  go_quiet (fail)
  clear p1 p2
  go_wp2_with fail
  clear a1 a2 b1 b2 hne
  go_loopw [25,26] (fun y x W=> ∃(o:Nat) (fnd:Bool),o≤T.length∧x=.int .i64 o∧y=.bool fnd∧Hid (jj<o→fnd=true)∧Hid (Old wc W)) (fun _ x _=>T.length- (intOf x).toNat)
  ·exact ⟨0,false,by omega,rfl,rfl,(fun h=>absurd h (by omega)),(uh HOI).drewN _⟩
  obtain ⟨o,fnd,ho,rfl,rfl,HFD,HOO⟩:=hrel
  by_cases hol:o<T.length
  ·have holI:(o:Int)<(T.length:Int):=by omega
   obtain ⟨g3,c3,hve,hent⟩:=((uh HEc).old (uh HOO)).slice (by omega)
   obtain ⟨-,e1, -,e3⟩:=hent o hol
   injection hve with hr1 hr2 hr3
   subst hr1 hr3
   obtain ⟨g4,c4,hv4, -,hf4⟩:=((uh HGc).old (uh HOO)).slice (by omega)
   injection hv4 with hs1 hs2 hs3
   injection hs1 with hs1
   injection hs1 with hs1
   subst hs1
   obtain ⟨b1,b2⟩:=hf4 i (by omega)
   rw[uh HFI] at b1 b2
   simp only at b1 b2
   have HNX:Hid (∀nf:Bool,(jj<o→nf=true)→((T.getD o ent0).nm=nm→(T.getD o ent0).dt=d→nf=true)→jj<o+1→nf=true):=by
    intro nf h1 h2 h3
    rcases Nat.lt_or_ge jj o with h4|h4
    ·exact h1 h4
    have h5:jj=o:=by omega
    have h6:=uh HJ
    rw[h5] at h6
    exact h2 h6.1 h6.2
   clear hent hf4 hr2 hs2 hs3
   generalize (T.getD o ent0).nm=nmo at*
   generalize (T.getD o ent0).dt=dto at*
   cases fnd with
   |true=>
    go_wp2_with fail
    go_quiet (fail)
    go_wp2_with fail
    go_roundw
    ·exact ⟨o+1,true,by omega,by go_num,rfl,fun _=>rfl,(uh HOO).drewN _⟩
    case measure=>simp[intOf];omega
   |false=>
    by_cases q1:nmo=nm
    ·subst q1
     have t1:(nmo.toList==nmo.toList)=true:=by simp
     by_cases q2:dto=d
     ·subst q2
      have t2:(dto.toList==dto.toList)=true:=by simp
      go_wp2_with fail
      go_quiet (fail)
      go_wp2_with fail
      go_roundw
      ·exact ⟨o+1,true,by omega,by go_num,rfl,fun _=>rfl,(uh HOO).drewN _⟩
      case measure=>simp[intOf];omega
     have t2:(dto.toList==d.toList)=false:=beq_of q2
     have HN2:=hide (uh HNX false (uh HFD) (fun _ e=>absurd e q2))
     clear q2
     go_wp2_with fail
     go_quiet (fail)
     go_wp2_with fail
     go_roundw
     ·exact ⟨o+1,false,by omega,by go_num,rfl,HN2,(uh HOO).drewN _⟩
     case measure=>simp[intOf];omega
    have t1:(nmo.toList==nm.toList)=false:=beq_of q1
    have HN2:=hide (uh HNX false (uh HFD) (fun e=>absurd e q1))
    clear q1
    go_wp2_with fail
    go_quiet (fail)
    go_wp2_with fail
    go_roundw
    ·exact ⟨o+1,false,by omega,by go_num,rfl,HN2,(uh HOO).drewN _⟩
    case measure=>simp[intOf];omega
  have holI:¬(o:Int)<(T.length:Int):=by omega
  have hfd:=uh HFD (by omega)
  subst hfd
  go_wp2_with fail
  go_roundw
  ·exact ⟨i+1,by omega,by go_num,HOO⟩
  case measure=>simp[intOf];omega
 have hilI:¬(i:Int)<(T.length:Int):=by omega
 go_wp2_with fail
 go_ret
 exact ⟨rfl,Only.trans (uh HOc) (uh HOI)⟩
end Go.Proofs.YtndfmgdhiallpaaGreatDoor
