import Derived.Test.YtndfmgdhiallpaaGreatDoorRl
set_option maxRecDepth 100000
set_option maxHeartbeats 16000000
namespace Go.Proofs.YtndfmgdhiallpaaGreatDoor
open Go.RowKit Go.Maps
theorem backNone{w1 wq:World}{b c:Nat}{s:WS}{RF RL RT:List (Value×ByteArray)}(hc:c≤100000000)(w:World)(h:WLs w1 w b c s RF RL RT)(ao:Option Addr)(cap:Nat)(hq: ∀x,x∈RT→Full wq tE 3 elE x.1 x.2):
 Calls Tryz.prog 113 #[.pointer (some ⟨b,0,none⟩),.slice none 0 0,.slice ao 0 cap] w fun r w' =>r=.returned (.bool true)∧TyOnly [wT,tEs,9,tE] w w' ∧PosT w1 w' b (c+1) s.base RF RL:=by
 have HTO:=hide (treeOfC (wq:=wq) hc w h none 0 0 (by omega) (fun _=> .inl rfl) hq)
 clear h hq
 go_in
 go_wp2_with fail
 go_loopw [7,9,10] (fun ok x _ wr=>x=.int .i64 0∧ok=.bool true∧wr=w) (fun _ _ _ _=>0)
 ·exact ⟨rfl,rfl,rfl⟩
 obtain ⟨rfl,rfl,rfl⟩:=hrel
 go_wp2_with fail
 refine (uh HTO).mono ?_
 rintro r w6 ⟨rfl,hty,hex⟩
 have HTY2:=hide hty
 have HEX:=hide hex
 clear hty hex HTO
 go_wp2_with fail
 go_ret
 exact ⟨rfl,uh HTY2,uh HEX⟩
theorem sameFilesC(va vb:Value)(fs:List Fl)(hfs:fs.length≤3000000)(w:World)(ha:FilesAt w va fs)(hb:FilesAt w vb fs):
 Calls Tryz.prog 115 #[va,vb] w fun r w' =>r=.returned (.bool true)∧Old w w' :=by
 obtain ⟨ao,ca,rfl⟩:=filesForm ha
 obtain ⟨bo,cb,rfl⟩:=filesForm hb
 have HA:=hide ha
 have HB:=hide hb
 have HO:Hid (Old w w):=Only.refl _ w
 clear ha hb
 go_in
 go_wp2_with fail
 go_loopw [5] (fun x wr=> ∃i:Nat,i≤fs.length∧x=.int .i64 i∧Hid (Old w wr)) (fun x _=>fs.length- (intOf x).toNat)
 ·exact ⟨0,by omega,rfl,HO⟩
 clear HO
 obtain ⟨i,hi,rfl,HO⟩:=hrel
 by_cases hil:i<fs.length
 ·have hilI:(i:Int)<(fs.length:Int):=by omega
  obtain ⟨g1,c1,e1, -,p1,p2⟩:=(uh HA).cells (uh HO) i hil
  obtain ⟨g2,c2,e2, -,r1,r2⟩:=(uh HB).cells (uh HO) i hil
  injection e1 with e11 e12 e13
  injection e2 with e21 e22 e23
  subst e11 e13 e21 e23
  generalize fs[i]=x at*
  obtain ⟨xn,xd⟩:=x
  simp only at p1 p2 r1 r2
  have hne:=neqFF xn xd
  go_wp2_with fail
  go_quiet (fail)
  go_wp2_with fail
  go_roundw
  ·exact ⟨i+1,by omega,by go_num,(uh HO).drewN _⟩
  case measure=>simp[intOf];omega
 have hilI:¬(i:Int)<(fs.length:Int):=by omega
 go_wp2_with fail
 go_ret
 exact ⟨rfl,uh HO⟩
theorem ChQ.form{T:List Ent}{w w' :World}{r:Ending}(h:ChQ T w w' r): ∃v u k,r=.returned (.tuple #[v,u,.int .i64 k]):=by
 rcases h with ⟨_,⟨_,k,_,_,_,_,_,e⟩|⟨_,v,u,_,e,_⟩⟩|⟨_,e⟩
 ·exact ⟨_,_,_,e⟩
 ·exact ⟨_,_,_,e⟩
 exact ⟨_,_,_,e⟩
theorem tup_inj{v u v' u' :Value}{k k' :Int}(h:Ending.returned (.tuple #[v,u,.int .i64 k])=.returned (.tuple #[v',u',.int .i64 k'])):v=v' ∧u=u' ∧k=k' :=by
 injection h with h
 injection h with h
 simp at h
 exact h
theorem choosesSome{w1:World}{b c:Nat}{s:WS}{RF RL RT:List (Value×ByteArray)}(hc:c≤99999990)(w:World)(h:WLs w1 w b c s RF RL RT)(a:Addr)(cap:Nat)(T:List Ent)(hN:0<T.length)(hT:T.length≤1100000)(hs: ∀e∈T,e.nm.size≤2000000∧e.dt.size≤2000000)(hm: ∀W,Only (fun k=>k=b) w1 W→MaxAt W)(ht: ∀W,Only (fun k=>k=b) w1 W→TreeAt W a T):
 Calls Tryz.prog 62 #[.pointer (some ⟨b,0,none⟩),.slice (some a) T.length cap] w fun r w' =>r=.returned (.bool true)∧PosA w1 w' b (c+3) s.base:=by
 have HL:=hide h
 have HS:=hide hs
 have HM:=hide hm
 have HTV:=hide ht
 have H1:=hide (lentC a cap T hN hT w (ht w h.only))
 have HQT:=hide h.rt.2.2
 clear h hs hm ht
 go_in
 go_wp2_with fail
 refine (uh H1).mono ?_
 rintro r w2 ⟨rfl,ho2,cur,hg2,hsz2,hE2⟩
 have hwl2:=(uh HL).old ho2
 have HSZ:Hid (w.heap.size≤w2.heap.size):=ho2.size
 have hgl:w.heap.size<w2.heap.size:=(Array.getElem?_eq_some_iff.1 hg2).1
 have HCH:=hide (codeChoose w.heap.size (T.length+2) T (fun e he=>(uh HS e he).1) w2 (uh HM w2 hwl2.only) (hE2.left.ents hg2) hgl)
 have HL2:=hide hwl2
 have HG2:=hide hg2
 have HE2:=hide hE2
 clear H1 ho2 hwl2 hg2 hE2
 go_wp2_with fail
 refine (uh HCH).mono ?_
 rintro r1 w3 ⟨ho3,hq1⟩
 obtain ⟨v1,u1,k1,hr1⟩:=hq1.form
 subst hr1
 have HCQ:=hide hq1
 have hwl3:=(uh HL2).old ho3
 have HBK:=hide (backC (wq:=w) (by omega) w3 hwl3 w.heap.size cur T a cap hT ((ho3.block w.heap.size hgl (fun x=>x)).trans (uh HG2)) hsz2 (uh HE2) (uh HTV w3 hwl3.only) (Nat.le_refl _) (uh HL).only.size (uh HQT))
 clear HCH ho3 hq1 hwl3 HL2 HG2 HE2 hsz2 hgl HM HQT
 go_wp2_with fail
 refine (uh HBK).mono ?_
 rintro r w4 ⟨rfl,hty,s4,R4,hwl4,hba4⟩
 have HBA4:=hide hba4
 clear hba4
 have HTY:=hide hty
 have HL4:=hide hwl4
 clear HBK hty
 go_wp2_with fail
 have HWR:=hide (uh HTV _ hwl4.only)
 have HREF2:=hide (refChoose (.slice (some a) T.length cap) T (uh HS) w4 (.inr ⟨a,cap,rfl,uh HWR⟩))
 refine (uh HREF2).mono ?_
 rintro r2 w5 ⟨ho5,hq2⟩
 obtain ⟨v2,u2,k2,hr2⟩:=hq2.form
 subst hr2
 have HFI:Hid (∃(fs:List Fl) (lf:List Lf),fs.length≤60∧lf.length≤200∧k2=k1∧FilesAt w5 v1 fs∧FilesAt w5 v2 fs∧LeftsAt w5 u1 lf∧LeftsAt w5 u2 lf∧(∀g,v1.ownBlock=some g→w.heap.size≤g)∧ ∀g,u1.ownBlock=some g→w.heap.size≤g):=by
  obtain ⟨k,fs,lf,a1,b1,a2,b2,e1,e2,f1,f2,l1,l2,hf,hl,g1,g2⟩:=(uh HCQ).same hq2
  obtain ⟨rfl,rfl,rfl⟩:=tup_inj e1
  obtain ⟨rfl,rfl,rfl⟩:=tup_inj e2
  refine ⟨fs,lf,hf,hl,rfl,FilesAt.old (ownk_ty f1 (uh HTY) (by decide)) ho5,f2,LeftsAt.kept (ownk_ty l1 (uh HTY) (by decide)) ho5 (fun _ _ x=>x),l2,fun g e=>Nat.le_trans (uh HSZ) (g1 g e),fun g e=>Nat.le_trans (uh HSZ) (g2 g e)⟩
 obtain ⟨fs,lf,hf60,hl200,hkk,fa1,fa2,la1,la2,hb1,hb2⟩:=uh HFI
 subst hkk
 have HL5:=hide ((uh HL4).old ho5)
 have HFA1:=hide fa1
 have HLA1:=hide la1
 have HLA2:=hide la2
 have HB1:=hide hb1
 have HB2:=hide hb2
 have HSAME:=hide (sameFilesC v1 v2 fs (by omega) w5 fa1 fa2)
 obtain ⟨ao1,cp1,hv1⟩:=filesForm fa1
 subst hv1
 obtain ⟨bo1,cq1,hu1⟩:=row_form la1
 obtain ⟨bo2,cq2,hu2⟩:=row_form la2
 subst hu1 hu2
 clear HFI HTY HCQ HL4 HREF2 HWR ho5 hq2 fa1 fa2 la1 la2 hb1 hb2 hwl4
 go_wp2_with fail
 refine (uh HSAME).mono ?_
 rintro r w6 ⟨rfl,ho6⟩
 have HL6:=hide ((uh HL5).old ho6)
 have HFA6:=hide (FilesAt.old (uh HFA1) ho6)
 have HLA6:Hid (LeftsAt w6 (.slice bo1 lf.length cq1) lf):=(uh HLA1).kept ho6 (fun _ _ x=>x)
 have HLB6:Hid (LeftsAt w6 (.slice bo2 lf.length cq2) lf):=(uh HLA2).kept ho6 (fun _ _ x=>x)
 have HO6:Hid (Old w6 w6):=Only.refl _ w6
 clear HSAME ho6 HL5 HFA1 HLA1 HLA2
 go_wp2_with fail
 go_loopw [14,15] (fun ok x wr=> ∃i:Nat,i≤lf.length∧x=.int .i64 i∧ok=.bool true∧Hid (Old w6 wr)) (fun _ x _=>lf.length- (intOf x).toNat)
 ·exact ⟨0,by omega,rfl,rfl,HO6⟩
 clear HO6
 obtain ⟨i,hi,rfl,rfl,HO⟩:=hrel
 by_cases hil:i<lf.length
 ·have hilI:(i:Int)<(lf.length:Int):=by omega
  obtain ⟨g1,c1,e1, -,hc1⟩:=LeftsAt.slice ((uh HLA6).kept (uh HO) (fun _ _ x=>x)) (by omega)
  obtain ⟨g2,c2,e2, -,hc2⟩:=LeftsAt.slice ((uh HLB6).kept (uh HO) (fun _ _ x=>x)) (by omega)
  injection e1 with e11 e12 e13
  injection e2 with e21 e22 e23
  subst e11 e13 e21 e23
  obtain ⟨p1,p2⟩:=hc1 i hil
  obtain ⟨r1,r2⟩:=hc2 i hil
  clear hc1 hc2
  generalize lf.getD i default=x at*
  obtain ⟨xn,xy⟩:=x
  simp only at p1 p2 r1 r2
  have hne:=eqLL xn (xy:Int)
  go_wp2_with fail
  go_quiet (fail)
  go_wp2_with fail
  go_roundw
  ·exact ⟨i+1,by omega,by go_num,rfl,(uh HO).drewN _⟩
  case measure=>simp[intOf];omega
 have hilI:¬(i:Int)<(lf.length:Int):=by omega
 have HFO:=hide (filesOfC (wq:=w) (by omega) wr ((uh HL6).old (uh HO)) ao1 fs.length cp1 (by omega) (flCells fs) (FilesAt.old (uh HFA6) (uh HO)) (fun g e=>⟨uh HB1 g e,Nat.le_trans (uh HL).only.size (uh HB1 g e)⟩) (uh HL).rf.2.2)
 have HLW:Hid (wr.ownsRow 0 tL 2 (.slice bo1 lf.length cq1) lf.length (lfCells lf)):=(uh HLA6).kept (uh HO) (fun _ _ x=>x)
 clear HL6 HFA6 HLA6 HLB6 HO
 go_wp2_with fail
 refine (uh HFO).mono ?_
 rintro r w7 ⟨rfl,hlk,s7,R7,hl7,hba7⟩
 have HLO:=hide (leftOfC (wq:=w) (by omega) w7 hl7 bo1 lf.length cq1 (by omega) (lfCells lf) (hlk _ _ _ (uh HLW)) (fun g e=>⟨uh HB2 g e,Nat.le_trans (uh HL).only.size (uh HB2 g e)⟩) (uh HL).rl.2.2)
 clear HFO hlk hl7 HLW
 go_wp2_with fail
 refine (uh HLO).mono ?_
 rintro r w8 ⟨rfl, -,s8,R8,hl8,hba8⟩
 have HX:=hide hl8
 have HBX:=hide (hba8.trans (hba7.trans (uh HBA4)))
 clear HLO hl8
 go_wp2_with fail
 go_ret
 exact ⟨rfl,Exists.intro _ (Exists.intro _ (Exists.intro _ (Exists.intro _ ⟨uh HX,uh HBX⟩)))⟩
theorem choosesNone{w1:World}{b c:Nat}{s:WS}{RF RL RT:List (Value×ByteArray)}(hc:c≤99999990)(w:World)(h:WLs w1 w b c s RF RL RT)(ao:Option Addr)(cap:Nat)(hao:TreeV w1 (.slice ao 0 cap) []):
 Calls Tryz.prog 62 #[.pointer (some ⟨b,0,none⟩),.slice ao 0 cap] w fun r w' =>r=.returned (.bool true)∧PosA w1 w' b (c+3) s.base:=by
 have HL:=hide h
 have hz: ∀W,TreeV W (.slice ao 0 cap) []:=fun W=>by
  rcases hao with ⟨e,_⟩|⟨a,cp,e,_⟩
  ·exact .inl ⟨e,rfl⟩
  exact .inr ⟨a,cp,e,fun i hi=>by cases hi⟩
 have HTV:=hide (fun (W:World) (_:Only (fun k=>k=b) w1 W)=>hz W)
 have H1:=hide (lentNone (.slice ao 0 cap) w (by
  rcases hao with ⟨e,_⟩|⟨a,cp,e,_⟩
  ·exact .inl e
  exact .inr ⟨a,cp,e⟩))
 have HQT:=hide h.rt.2.2
 have HSZ:Hid (w.heap.size≤w.heap.size):=Nat.le_refl _
 clear h hz hao
 go_in
 go_wp2_with fail
 refine (uh H1).mono ?_
 rintro r w2 ⟨rfl,rfl⟩
 have HCH:=hide (codeNil w2)
 clear H1
 go_wp2_with fail
 refine (uh HCH).mono ?_
 rintro r1 w3 ⟨ho3,hq1⟩
 obtain ⟨v1,u1,k1,hr1⟩:=hq1.form
 subst hr1
 have HCQ:=hide hq1
 have HBK:=hide (backNone (wq:=w2) (by omega) w3 ((uh HL).old ho3) ao cap (uh HQT))
 clear HCH ho3 hq1 HQT
 go_wp2_with fail
 refine (uh HBK).mono ?_
 rintro r w4 ⟨rfl,hty,s4,R4,hwl4,hba4⟩
 have HBA4:=hide hba4
 clear hba4
 have HTY:=hide hty
 have HL4:=hide hwl4
 clear HBK hty
 go_wp2_with fail
 have HWR:=hide (uh HTV _ hwl4.only)
 have HREF2:=hide (refChoose (.slice ao 0 cap) [] (fun _ h=>by cases h) w4 (uh HWR))
 refine (uh HREF2).mono ?_
 rintro r2 w5 ⟨ho5,hq2⟩
 obtain ⟨v2,u2,k2,hr2⟩:=hq2.form
 subst hr2
 have HFI:Hid (∃(fs:List Fl) (lf:List Lf),fs.length≤60∧lf.length≤200∧k2=k1∧FilesAt w5 v1 fs∧FilesAt w5 v2 fs∧LeftsAt w5 u1 lf∧LeftsAt w5 u2 lf∧(∀g,v1.ownBlock=some g→w2.heap.size≤g)∧ ∀g,u1.ownBlock=some g→w2.heap.size≤g):=by
  obtain ⟨k,fs,lf,a1,b1,a2,b2,e1,e2,f1,f2,l1,l2,hf,hl,g1,g2⟩:=(uh HCQ).same hq2
  obtain ⟨rfl,rfl,rfl⟩:=tup_inj e1
  obtain ⟨rfl,rfl,rfl⟩:=tup_inj e2
  refine ⟨fs,lf,hf,hl,rfl,FilesAt.old (ownk_ty f1 (uh HTY) (by decide)) ho5,f2,LeftsAt.kept (ownk_ty l1 (uh HTY) (by decide)) ho5 (fun _ _ x=>x),l2,fun g e=>Nat.le_trans (uh HSZ) (g1 g e),fun g e=>Nat.le_trans (uh HSZ) (g2 g e)⟩
 obtain ⟨fs,lf,hf60,hl200,hkk,fa1,fa2,la1,la2,hb1,hb2⟩:=uh HFI
 subst hkk
 have HL5:=hide ((uh HL4).old ho5)
 have HFA1:=hide fa1
 have HLA1:=hide la1
 have HLA2:=hide la2
 have HB1:=hide hb1
 have HB2:=hide hb2
 have HSAME:=hide (sameFilesC v1 v2 fs (by omega) w5 fa1 fa2)
 obtain ⟨ao1,cp1,hv1⟩:=filesForm fa1
 subst hv1
 obtain ⟨bo1,cq1,hu1⟩:=row_form la1
 obtain ⟨bo2,cq2,hu2⟩:=row_form la2
 subst hu1 hu2
 clear HFI HTY HCQ HL4 HREF2 HWR ho5 hq2 fa1 fa2 la1 la2 hb1 hb2 hwl4
 go_wp2_with fail
 refine (uh HSAME).mono ?_
 rintro r w6 ⟨rfl,ho6⟩
 have HL6:=hide ((uh HL5).old ho6)
 have HFA6:=hide (FilesAt.old (uh HFA1) ho6)
 have HLA6:Hid (LeftsAt w6 (.slice bo1 lf.length cq1) lf):=(uh HLA1).kept ho6 (fun _ _ x=>x)
 have HLB6:Hid (LeftsAt w6 (.slice bo2 lf.length cq2) lf):=(uh HLA2).kept ho6 (fun _ _ x=>x)
 have HO6:Hid (Old w6 w6):=Only.refl _ w6
 clear HSAME ho6 HL5 HFA1 HLA1 HLA2
 go_wp2_with fail
 go_loopw [14,15] (fun ok x wr=> ∃i:Nat,i≤lf.length∧x=.int .i64 i∧ok=.bool true∧Hid (Old w6 wr)) (fun _ x _=>lf.length- (intOf x).toNat)
 ·exact ⟨0,by omega,rfl,rfl,HO6⟩
 clear HO6
 obtain ⟨i,hi,rfl,rfl,HO⟩:=hrel
 by_cases hil:i<lf.length
 ·have hilI:(i:Int)<(lf.length:Int):=by omega
  obtain ⟨g1,c1,e1, -,hc1⟩:=LeftsAt.slice ((uh HLA6).kept (uh HO) (fun _ _ x=>x)) (by omega)
  obtain ⟨g2,c2,e2, -,hc2⟩:=LeftsAt.slice ((uh HLB6).kept (uh HO) (fun _ _ x=>x)) (by omega)
  injection e1 with e11 e12 e13
  injection e2 with e21 e22 e23
  subst e11 e13 e21 e23
  obtain ⟨p1,p2⟩:=hc1 i hil
  obtain ⟨r1,r2⟩:=hc2 i hil
  clear hc1 hc2
  generalize lf.getD i default=x at*
  obtain ⟨xn,xy⟩:=x
  simp only at p1 p2 r1 r2
  have hne:=eqLL xn (xy:Int)
  go_wp2_with fail
  go_quiet (fail)
  go_wp2_with fail
  go_roundw
  ·exact ⟨i+1,by omega,by go_num,rfl,(uh HO).drewN _⟩
  case measure=>simp[intOf];omega
 have hilI:¬(i:Int)<(lf.length:Int):=by omega
 have HFO:=hide (filesOfC (wq:=w2) (by omega) wr ((uh HL6).old (uh HO)) ao1 fs.length cp1 (by omega) (flCells fs) (FilesAt.old (uh HFA6) (uh HO)) (fun g e=>⟨uh HB1 g e,Nat.le_trans (uh HL).only.size (uh HB1 g e)⟩) (uh HL).rf.2.2)
 have HLW:Hid (wr.ownsRow 0 tL 2 (.slice bo1 lf.length cq1) lf.length (lfCells lf)):=(uh HLA6).kept (uh HO) (fun _ _ x=>x)
 clear HL6 HFA6 HLA6 HLB6 HO
 go_wp2_with fail
 refine (uh HFO).mono ?_
 rintro r w7 ⟨rfl,hlk,s7,R7,hl7,hba7⟩
 have HLO:=hide (leftOfC (wq:=w2) (by omega) w7 hl7 bo1 lf.length cq1 (by omega) (lfCells lf) (hlk _ _ _ (uh HLW)) (fun g e=>⟨uh HB2 g e,Nat.le_trans (uh HL).only.size (uh HB2 g e)⟩) (uh HL).rl.2.2)
 clear HFO hlk hl7 HLW
 go_wp2_with fail
 refine (uh HLO).mono ?_
 rintro r w8 ⟨rfl, -,s8,R8,hl8,hba8⟩
 have HX:=hide hl8
 have HBX:=hide (hba8.trans (hba7.trans (uh HBA4)))
 clear HLO hl8
 go_wp2_with fail
 go_ret
 exact ⟨rfl,Exists.intro _ (Exists.intro _ (Exists.intro _ (Exists.intro _ ⟨uh HX,uh HBX⟩)))⟩
end Go.Proofs.YtndfmgdhiallpaaGreatDoor
