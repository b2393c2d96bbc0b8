import Derived.Test.YtfbgamknfommpaaGreatDoorOe
import Derived.Test.YtfbgamknfommpaaGreatDoorOb
import Derived.Test.YtfbgamknfommpaaGreatDoorJk
set_option maxRecDepth 100000
set_option maxHeartbeats 4000000
namespace Go.Proofs.YtfbgamknfommpaaGreatDoor
open Go.RowKit Go.Maps
theorem fils_of{T:List Ent}{fs:List Fl}(h:Made T)(hl:T.length≤20)(hf:FsOf T fs):Fils fs:=by
 refine ⟨fun f hm=> ?_,hf.2.imp (fun {a b} hab e=>by rw[e] at hab;exact List.lt_irrefl _ hab),by rw[hf.1.length_eq,flsE,List.length_map];exact hl⟩
 obtain ⟨e,he,rfl⟩:=List.mem_map.1 (hf.1.mem_iff.1 hm)
 obtain ⟨n,f,hn,hf',e1,_,e3⟩:=h.form e he
 exact ⟨⟨n,f,hn,hf',e1⟩,e3⟩
theorem arc_of{fs:List Fl}(h:Fine fs):Arc (strB (laidL sPre (itemsP fs))) fs:=⟨by rw[strB_size];exact h.size,h.unp⟩
theorem newDS(w:World):Calls Tryz.prog 8 #[] w fun e w' =>e=.returned (.pointer (some ⟨w.heap.size,0,none⟩))∧DS w w' w.heap.size (.slice none 0 0) dk.dN0:=by
 refine (dk.new_any w).mono ?_
 rintro e w' ⟨rfl,rfl⟩
 exact ⟨rfl,⟨Go.heap_alloc_new w _,dk.Thg.nil _,by intro e;cases e⟩,(Only.refl _ w).alloc _,Nat.le_refl _,by intro k hk;cases hk⟩
theorem mkDS{w0 w:World}{b:Nat}{v:Value}{D D' :dk.Dsk}{p:ByteArray}(h:DS w0 w b v D)(hl:D.ts.length≤1000)(hp:p.size≤1000)(he:dk.mkdirOf D p=(0,D')):Calls Tryz.prog 9 #[.pointer (some ⟨b,0,none⟩),.string p] w fun e w' =>e=.returned (.int .i64 0)∧ ∃v',DS w0 w' b v' D' :=by
 refine (dk.mkdir_disk h.disk p (by omega) (by omega)).mono ?_
 rintro e w' ⟨rfl,ht⟩
 rw[he] at ht ⊢
 exact ⟨rfl,h.turn ht⟩
theorem wrDS{w0 w:World}{b:Nat}{v:Value}{D D' :dk.Dsk}{p d:ByteArray}(h:DS w0 w b v D)(hl:D.ts.length≤1000)(hp:p.size≤1000)(hd:d.size≤1000)(hr:D.room≤1000000)(he:dk.writeOf D p d=(0,D')):Calls Tryz.prog 10 #[.pointer (some ⟨b,0,none⟩),.string p,.string d] w fun e w' =>e=.returned (.int .i64 0)∧ ∃v',DS w0 w' b v' D' :=by
 refine (dk.write_disk h.disk p d (by omega) (by omega) (by omega) (by omega)).mono ?_
 rintro e w' ⟨rfl,ht⟩
 rw[he] at ht ⊢
 exact ⟨rfl,h.turn ht⟩
def Ahead(w0 w:World)(b:Nat):Prop:= ∃v D,DS w0 w b v D∧dk.Init D.ts∧D.left= -1∧D.down=false∧D.room= -1
def Ready(w0 w:World)(b:Nat):Prop:= ∃v D C,DS w0 w b v D∧dk.Start C D∧dk.Base D.ts∧D.down=false
theorem extDS{w0 w:World}{b C:Nat}{v:Value}{D:dk.Dsk}{fs:List Fl}{s:ByteArray}(h:DS w0 w b v D)(hst:dk.Start C D)(hdn:D.down=false)(hfs:Fils fs)(ha:Arc s fs)(hw:Awk w0):
 Calls Tryz.prog 14 #[.pointer (some ⟨b,0,none⟩),.string dk.sPlace,.string sMod,.string sVer,.string s] w fun e w' => ∃x,e=.returned x∧ ∃v' D',DS w0 w' b v' D' ∧((x=.int .i64 0∧dk.Laid C D fs D')∨(x=.int .i64 12∧dk.Lost C D D')):=by
 have hwk:=hw.old h.old
 refine extA _ dk.sPlace s fs ha (by decide) plPlace w hwk.1 hwk.2.1 _ (fun W vf ho hv hb=> ?_)
 have hds:=h.keep ho
 have hsep: ∀k,vf.ownBlock=some k→v.ownBlock≠some k∧k≠b:=fun k hk=>by
  have h1:=hb k hk
  have h2:=h.disk.2.1.block_lt
  have h3:=h.disk.lt
  exact ⟨fun e=>by have:=h2 k e;omega,by omega⟩
 refine (layOk hst hdn hfs hds.disk hv hsep).mono ?_
 rintro e w' ⟨D',ht,hres⟩
 obtain ⟨v',hds'⟩:=hds.turn ht
 rcases hres with ⟨rfl,hl⟩|⟨rfl,hl⟩
 ·exact ⟨_,rfl,v',D',hds',.inl ⟨rfl,hl⟩⟩
 exact ⟨_,rfl,v',D',hds',.inr ⟨rfl,hl⟩⟩
theorem takenDS{w0 w:World}{b:Nat}{v:Value}{D:dk.Dsk}{fs:List Fl}{s:ByteArray}(h:DS w0 w b v D)(hl:D.ts.length≤1000)(hdn:D.down=false)(hp:dk.isOf D.ts dk.sPlace≠0)(ha:Arc s fs)(hw:Awk w0):
 Calls Tryz.prog 14 #[.pointer (some ⟨b,0,none⟩),.string dk.sPlace,.string sMod,.string sVer,.string s] w fun e w' => ∃x,e=.returned x∧(x=.int .i64 11∧DS w0 w' b v D):=by
 have hwk:=hw.old h.old
 refine extA _ dk.sPlace s fs ha (by decide) plPlace w hwk.1 hwk.2.1 (fun x w' =>x=.int .i64 11∧DS w0 w' b v D) (fun W vf ho _ _=> ?_)
 have hds:=h.keep ho
 refine (layTaken hds.disk hdn hl dk.sPlace hp vf).mono ?_
 rintro e w' ⟨rfl,n,rfl⟩
 exact ⟨_,rfl,rfl,hds.keep ((Only.refl _ W).drewN n)⟩
theorem recDS{w0 w:World}{b C:Nat}{v:Value}{D:dk.Dsk}(h:DS w0 w b v D)(hok:dk.Dok C D)(hn:dk.Nev D)(hw:Awk w0):
 Calls Tryz.prog 22 #[.pointer (some ⟨b,0,none⟩),.string dk.sPlace] w fun e w' => ∃x,e=.returned x∧(x=.int .i64 0∧ ∃v' D',DS w0 w' b v' D' ∧dk.Rem C D dk.sSide true D'):=by
 have hwk:=hw.old h.old
 refine recA _ dk.sPlace (by decide) plPlace w hwk.1 (fun x w' =>x=.int .i64 0∧ ∃v' D',DS w0 w' b v' D' ∧dk.Rem C D dk.sSide true D') (fun W ho=> ?_)
 have hds:=h.keep ho
 refine (clearOk hok hn hds.disk).mono ?_
 rintro e w' ⟨rfl,D',hr,ht⟩
 obtain ⟨v',hds'⟩:=hds.turn ht
 exact ⟨_,rfl,rfl,v',D',hds',hr⟩
theorem copyDS{w0 w:World}{b:Nat}{v:Value}{D:dk.Dsk}(h:DS w0 w b v D)(hl:D.ts.length≤1000):Calls Tryz.prog 15 #[.pointer (some ⟨b,0,none⟩)] w fun e w' => ∃b' v',e=.returned (.pointer (some ⟨b',0,none⟩))∧DS w w' b' v' (dk.cpy D):=by
 refine (dk.copy_disk h.disk (by omega)).mono ?_
 rintro e w' ⟨b',v',rfl,h1,h2,h3,h4⟩
 exact ⟨b',v',rfl,h2,toM h4,h1,h3⟩
theorem DS.below{w0 w1 w:World}{b:Nat}{v:Value}{D:dk.Dsk}(h:DS w1 w b v D)(ho:Old w0 w1):DS w0 w b v D:=
 ⟨h.disk,Only.trans ho h.old,Nat.le_trans ho.size h.hb,fun k hk=>Nat.le_trans ho.size (h.own k hk)⟩
theorem safeW(v:Value)(n:Nat)(hn:n≤maxLen)(st ro:Int)(hst: -9223372036854775808≤st∧st≤9223372036854775807)(hro: -9223372036854775808≤ro∧ro≤9223372036854775807)(lf:Bool)(w:World)(hv:RawAt w v n)(hw:Awk w):
 Calls Tryz.prog 3 #[v,.int .i64 st,.int .i64 ro,.bool lf] w fun r w' =>r=.returned (.bool true)∧Old w w' :=by
 have H1:=hide (awakeX w hw)
 have HW:=hide hw
 have HV:=hide hv
 have HSTP:=hide hst
 have HRO:=hide hro
 obtain ⟨ao,cp,rfl⟩:=hv.len
 clear hw hv hst hro
 go_in
 go_wp2_with fail
 refine (uh H1).mono ?_
 rintro r w1 ⟨rfl,ho1⟩
 have HO1:=hide ho1
 have HW1:=hide ((uh HW).old ho1)
 have HV1:=hide ((uh HV).old ho1)
 clear ho1 H1 HW HV
 go_wp2_with fail
 refine (entriesA _ n hn w1 (uh HV1)).mono ?_
 rintro r w2 ⟨u,T,rfl,ho2,her,hmd,hTl, -⟩
 have HO2:=hide (Only.trans (uh HO1) ho2)
 have HW2:=hide ((uh HW1).old ho2)
 have HFR:=hide (free_of hmd hTl)
 have HFI:=hide (fun fs (h:FsOf T fs)=>fils_of hmd hTl h)
 have HE2:=hide her
 obtain ⟨uo,uc,rfl⟩:=her.shape
 clear ho2 her hmd HO1 HW1 HV1
 go_wp2_with fail
 refine (vPackF (uh HE2) (uh HFR) (uh HW2).1).mono ?_
 rintro r w3 ⟨fs,hfs,ho3,rfl⟩
 have HO3:=hide (Only.trans (uh HO2) ho3)
 have HW3:=hide ((uh HW2).old ho3)
 have HFN:=hide (fine_of (uh HFR) hfs)
 have HFL:=hide (uh HFI fs hfs)
 have HAR:=hide (arc_of (uh HFN))
 have HMO:Hid ((unpP sPre (strB (laidL sPre (itemsP fs))++⟨#[120]⟩)).2≠0∧(unpP sPre (strB (laidL sPre (itemsP fs))++⟨#[120]⟩)).2≠12):=by
  have h:=(uh HFN).more [120] (by simp)
  rw[←strB_app] at h
  exact h
 have hlen:fs.length≤20:=(uh HFL).len
 generalize strB (laidL sPre (itemsP fs))=z at*
 clear ho3 hfs HO2 HW2 HE2 HFR HFI HFN
 have hzs:=(uh HAR).size
 go_wp2_with fail
 refine (vUnpackA z (by omega) w3 (uh HW3).1 (uh HW3).2.1).mono ?_
 rintro r w4 ⟨ho4,hr4⟩
 rw[(uh HAR).unp] at hr4
 rcases hr4 with ⟨-,vl,rfl,hfl, -⟩|⟨e1, -⟩
 case inr=>exact absurd rfl e1
 have HO4:=hide (Only.trans (uh HO3) ho4)
 have HW4:=hide ((uh HW3).old ho4)
 have HVL:Hid (FilesAt w4 vl fs):=hfl
 obtain ⟨lo,lc,hvl⟩: ∃ao cap,vl=.slice ao fs.length cap:=by
  obtain ⟨_,⟨rfl,hz⟩|⟨g,cap,cur,rfl,_⟩⟩:=hfl
  ·rw[hz];exact ⟨none,0,rfl⟩
  exact ⟨_,_,rfl⟩
 subst hvl
 clear ho4 hfl HO3 HW3
 go_wp2_with fail
 refine (newDS w4).mono ?_
 rintro r w5 ⟨rfl,hd5⟩
 have HD5:=hide hd5
 clear hd5
 generalize hb:w4.heap.size=b at*
 clear hb
 go_wp2_with fail
 refine (mkDS (uh HD5) (by decide) (by decide) dk.mkN1).mono ?_
 rintro r w6 ⟨rfl,v6,hd6⟩
 have HD6:=hide hd6
 clear hd6 HD5
 go_wp2_with fail
 refine (wrDS (uh HD6) (by decide) (by decide) (by decide) (by decide) dk.wrS0).mono ?_
 rintro r w7 ⟨rfl,v7,hd7⟩
 have HD7:=hide hd7
 clear hd7 HD6
 go_upto_if 49 with fail
 go_cut [] from 50 to 55 (fun wx=>Hid (Ahead w4 wx b))
 case first=>
  cases lf with
  |false=>
   go_wp2_with fail
   go_meet
   case rel=>exact ⟨v7,dk.dS0,uh HD7,dk.init0,rfl,rfl,rfl⟩
  |true=>
   go_wp2_with fail
   refine (mkDS (uh HD7) (by decide) (by decide) dk.mkM1).mono ?_
   rintro r w8 ⟨rfl,v8,hd8⟩
   have HD8:=hide hd8
   clear hd8 HD7
   go_wp2_with fail
   refine (mkDS (uh HD8) (by decide) (by decide) dk.mkM2).mono ?_
   rintro r w9 ⟨rfl,v9,hd9⟩
   have HD9:=hide hd9
   clear hd9 HD8
   go_wp2_with fail
   refine (wrDS (uh HD9) (by decide) (by decide) (by decide) (by decide) dk.wrS1).mono ?_
   rintro r wa ⟨rfl,va,hda⟩
   have HDa:=hide hda
   clear hda HD9
   go_wp2_with fail
   go_meet
   case rel=>exact ⟨va,dk.dS1,uh HDa,dk.init1,rfl,rfl,rfl⟩
 case rest=>
  have HAH:Hid (Ahead w4 wc b):=hcut
  clear hcut HD7
  go_upto_if 76 with fail
  go_cut [76] from 77 to 84 (fun _ wx=>Hid (Ready w4 wx b))
  case first=>
   obtain ⟨v1,D,hds,hin,hlf,hdn,hrm⟩:=uh HAH
   have HDS:=hide hds
   have HIN:=hide hin
   have HPR:=hide (fun W=>kpick_any ro (uh HRO).1 (uh HRO).2 3000 (by omega) (by omega) W)
   have hk1:=pickN_lt ro (show 0<3000 by omega)
   have HPS:=hide (fun W=>kpick_any st (uh HSTP).1 (uh HSTP).2 60 (by omega) (by omega) W)
   have hk2:=pickN_lt st (show 0<60 by omega)
   generalize pickN ro 3000=k1 at*
   generalize pickN st 60=k2 at*
   have HLF:Hid (D.left= -1∧D.down=false∧D.room= -1):=⟨hlf,hdn,hrm⟩
   clear hds hin hlf hdn hrm HAH
   go_wp2_with fail
   ·refine (uh HPR _).mono ?_
    rintro r we ⟨rfl,rfl⟩
    have H2:=hide (dk.room_disk (uh HDS).disk (k1:Int))
    rw[show max (k1:Int) 0=(k1:Int) by omega] at H2
    go_wp2_with fail
    refine (uh H2).mono ?_
    rintro r wf ⟨rfl,hd2,ho2⟩
    have HRD:Hid (Ready w4 wf b):=by
     obtain ⟨h1,h2,h3⟩:=uh HLF
     obtain ⟨h4,h5⟩:=(uh HIN).room h1 h2 k1 (by omega)
     exact ⟨v1,_,_,(uh HDS).set hd2 ho2,h4,(uh HIN).base,h2⟩
    clear H2 hd2 ho2
    go_wp2_with fail
    go_meet
    case rel=>exact HRD
   refine (uh HPS _).mono ?_
   rintro r we ⟨rfl,rfl⟩
   have H2:=hide (dk.stop_disk (uh HDS).disk (k2:Int))
   rw[show max (k2:Int) 0=(k2:Int) by omega] at H2
   go_wp2_with fail
   refine (uh H2).mono ?_
   rintro r wf ⟨rfl,hd2,ho2⟩
   have HRD:Hid (Ready w4 wf b):=by
    obtain ⟨h1,h2,h3⟩:=uh HLF
    exact ⟨v1,_,0,(uh HDS).set hd2 ho2,(uh HIN).stop (by omega) k2 (by omega),(uh HIN).base,h2⟩
   clear H2 hd2 ho2
   go_wp2_with fail
   go_meet
   case rel=>exact HRD
  case rest=>
   obtain ⟨v1,D,C,hds,hst,hbs,hdn⟩:=uh hcut
   have HST:=hide hst
   have HBS:=hide hbs
   have H1:=hide (extDS hds hst hdn (uh HFL) (uh HAR) (uh HW4))
   clear hds hst hbs hdn hcut HAH
   go_wp2_with fail
   refine (uh H1).mono ?_
   rintro r wd ⟨x,rfl,v2,D2,hd2,hres⟩
   have HD2:=hide hd2
   clear hd2 H1
   rcases hres with ⟨rfl,hl⟩|⟨rfl,hl⟩
   ·have HLA:=hide hl
    have HB2:=hide ((uh HBS).laid hl)
    obtain ⟨hheld,hnos⟩:=hl.held
    have HHE:=hide hheld
    have HNS:=hide hnos
    have HOK:Hid (∃C',dk.Dok C' D2):=by obtain ⟨_,_,_,_,_,h⟩:=hl;exact ⟨_,h.ok⟩
    obtain ⟨C',hok'⟩:=uh HOK
    clear HOK
    have HOK:=hide hok'
    have HSI:Hid (dk.isOf D2.ts dk.sSide=0):=dk.isOf_no (fun t ht e=>hnos t ht (by rw[e];exact dk.Wi.refl _))
    have HPI:Hid (dk.isOf D2.ts dk.sPlace=2):=(dk.isOf_two hok'.wf.srt (q:=dk.sPlace)).2 ⟨_,hheld.top,rfl,rfl⟩
    have HHR:Hid ((dk.namesL D2.ts dk.sCache).length=2):=by
     have h:=(uh HB2).here hok'.wf
     rw[uh HSI,uh HPI] at h
     exact h
    clear hl hheld hnos hok'
    have hl1000:=(uh HOK).len
    have hcts:(dk.cpy D2).ts=D2.ts:=rfl
    have H2:=hide (copyDS (uh HD2) hl1000)
    go_wp2_with fail
    refine (uh H2).mono ?_
    rintro r we ⟨bx,vx,rfl,hde⟩
    have HX:=hide (hde.below (uh HD2).old)
    have HD3:=hide ((uh HD2).keep hde.old)
    have H3:=hide (dk.read_disk hde.disk dk.sOther (by rw[hcts];omega))
    rw[hcts,(uh HB2).read (uh HOK).wf|>.1,(uh HB2).read (uh HOK).wf|>.2] at H3
    clear hde H2 HD2
    go_wp2_with fail
    refine (uh H3).mono ?_
    rintro r wf ⟨rfl,m1,rfl⟩
    have HX:=hide ((uh HX).keep ((Only.refl _ we).drewN m1))
    have HD3:=hide ((uh HD3).keep ((Only.refl _ we).drewN m1))
    have H4:=hide (dk.names_disk (uh HX).disk ⟨#[]⟩ (by decide) (by rw[hcts];omega) (dk.nth_sz (dk.cpy_ok (uh HOK)).1))
    rw[hcts,(uh HB2).root (uh HOK).wf] at H4
    clear H3
    generalize we.drewN m1=wg at*
    go_wp2_with fail
    refine (uh H4).mono ?_
    rintro r wh ⟨l1,rfl,hr1,ho1⟩
    obtain ⟨a1,c1,rfl, -⟩:=dk.names_shape hr1
    have HX:=hide ((uh HX).keep (toM ho1))
    have HD3:=hide ((uh HD3).keep (toM ho1))
    have H5:=hide (dk.names_disk (uh HX).disk dk.sCache (by decide) (by rw[hcts];omega) (dk.nth_sz (dk.cpy_ok (uh HOK)).1))
    rw[hcts,uh HHR] at H5
    clear H4 hr1 ho1
    go_wp2_with fail
    refine (uh H5).mono ?_
    rintro r wi ⟨l2,rfl,hr2,ho2⟩
    obtain ⟨a2,c2,rfl, -⟩:=dk.names_shape hr2
    have HX:=hide ((uh HX).keep (toM ho2))
    have HD3:=hide ((uh HD3).keep (toM ho2))
    have H6:=hide (dk.is_disk (uh HX).disk dk.sSide (by rw[hcts];omega))
    rw[hcts,uh HSI] at H6
    clear H5 hr2 ho2
    go_wp2_with fail
    refine (uh H6).mono ?_
    rintro r wj ⟨rfl,m2,rfl⟩
    have HX:=hide ((uh HX).keep ((Only.refl _ wi).drewN m2))
    have HD3:=hide ((uh HD3).keep ((Only.refl _ wi).drewN m2))
    have H7:=hide (dk.is_disk (uh HX).disk dk.sPlace (by rw[hcts];omega))
    rw[hcts,uh HPI] at H7
    clear H6
    generalize wi.drewN m2=wk at*
    go_wp2_with fail
    refine (uh H7).mono ?_
    rintro r wl ⟨rfl,m3,rfl⟩
    have HX:=hide ((uh HX).keep ((Only.refl _ wk).drewN m3))
    have HD3:=hide ((uh HD3).keep ((Only.refl _ wk).drewN m3))
    clear H7
    generalize wk.drewN m3=wm at*
    have H8:=hide (heldA (dk.cpy_ok (uh HOK)).1 (uh HHE) (uh HFL) (uh HX).disk ((uh HVL).old (uh HX).old))
    go_wp2_with fail
    refine (uh H8).mono ?_
    rintro r wn ⟨rfl,hon⟩
    have HX:=hide ((uh HX).keep hon)
    have H9:=hide (dk.is_disk (uh HX).disk dk.sSide (by rw[hcts];omega))
    rw[hcts,uh HSI] at H9
    clear hon H8
    go_wp2_with fail
    refine (uh H9).mono ?_
    rintro r wo ⟨rfl,m5,rfl⟩
    have HXO:=hide ((uh HX).keep ((Only.refl _ wn).drewN m5))
    clear H9 HX
    generalize wn.drewN m5=wo at*
    have HX:=HXO
    clear HD3
    have hwx:=(uh HW4).old (uh HX).old
    have H10:=hide (copyDS (uh HX) (by rw[hcts];omega))
    clear hwx
    go_wp2_with fail
    refine (uh H10).mono ?_
    rintro r wp ⟨bz,vz,rfl,hdz⟩
    have HX:=hide ((uh HX).keep hdz.old)
    have H11:=hide (refusedA (D:=dk.cpy (dk.cpy D2)) (by show D2.ts.length≤1000;omega) (uh HAR) _ ⟨rfl,(uh HMO).1,(uh HMO).2⟩ hdz ((uh HW4).old (uh HXO).old))
    have HZO:=hide hdz.old
    clear H10 hdz
    go_wp2_with fail
    refine (uh H11).mono ?_
    rintro r wq ⟨rfl,hoq⟩
    have HX:=hide ((uh HXO).keep hoq)
    have hck:=dk.cpy_ok (uh HOK)
    have H12:=hide (recDS (uh HX) hck.1 hck.2.1 (uh HW4))
    clear hoq H11 HXO HZO
    go_wp2_with fail
    refine (uh H12).mono ?_
    rintro r wr ⟨x,rfl,rfl,v3,D3,hd3,hrm3⟩
    have HX:=hide hd3
    have HR3:=hide hrm3
    have H13:=hide (recDS hd3 hrm3.ok (hrm3.nev hck.2.1) (uh HW4))
    clear hd3 hrm3 H12
    go_wp2_with fail
    refine (uh H13).mono ?_
    rintro r ws ⟨x,rfl,rfl,v4,D4,hd4,hrm4⟩
    have HX:=hide hd4
    have HR4:=hide hrm4
    have HN4:=hide (hrm4.nev ((uh HR3).nev hck.2.1))
    have HRM4:=hide (hrm4.room ((uh HR3).room hck.2.2))
    have hl4:=hrm4.ok.len
    have H14:=hide (dk.is_disk hd4.disk dk.sSide (by omega))
    rw[dk.isOf_no (fun t ht e=>hrm4.yes rfl t ht (by rw[e];exact dk.Wi.refl _))] at H14
    clear hd4 hrm4 H13 hck
    go_wp2_with fail
    refine (uh H14).mono ?_
    rintro r wt ⟨rfl,m4,rfl⟩
    have HX:=hide ((uh HX).keep ((Only.refl _ ws).drewN m4))
    clear H14
    generalize ws.drewN m4=wu at*
    have HHX:Hid (dk.Held D4.ts fs):=by
     have p3:=(uh HR3).same (uh HOK).wf (uh HNS)
     have n3: ∀t∈D3.ts,¬dk.Wi (dk.bl t.p) (dk.bl dk.sSide):=(uh HR3).yes rfl
     have p4:=(uh HR4).same (uh HR3).ok.wf n3
     exact (uh HHE).perm (uh HR4).ok.wf (p4.trans p3)
    have hpl:dk.isOf D4.ts dk.sPlace≠0:=fun e=>dk.isOf_zero (uh HR4).ok.wf.srt e _ (uh HHX).top rfl
    have H15:=hide (takenDS (uh HX) hl4 (uh HN4).2 hpl (uh HAR) (uh HW4))
    clear hpl
    go_wp2_with fail
    refine (uh H15).mono ?_
    rintro r wv ⟨x,rfl,rfl,hdv⟩
    have H16:=hide (heldA (uh HR4).ok (uh HHX) (uh HFL) hdv.disk ((uh HVL).old hdv.old))
    have HXV:=hide hdv
    clear hdv H15
    go_wp2_with fail
    refine (uh H16).mono ?_
    rintro r ww ⟨rfl,how⟩
    have HOE:=hide (Only.trans (uh HO4) (Only.trans (uh HXV).old how))
    clear how H16
    go_wp2_with fail
    go_ret
    exact ⟨rfl,HOE⟩
   have HLO:=hide hl
   have HB2:=hide ((uh HBS).lost hl)
   have HOK:=hide hl.half.ok
   have HPI:Hid (dk.isOf D2.ts dk.sPlace=0):=dk.isOf_no (fun t ht e=>by
    rcases hl.half.only t ht with h|h
    ·exact (uh HST).none t h (by rw[e];exact dk.Wi.refl _)
    exact dk.side_not_place h (by rw[e];exact dk.Wi.refl _))
   obtain ⟨sd,hsd⟩: ∃sd,dk.isOf D2.ts dk.sSide=sd:=⟨_,rfl⟩
   have HSI:Hid (dk.isOf D2.ts dk.sSide=sd):=hsd
   have HCLN:Hid (D2.down=true∨sd=0):=by
    rcases hl.clean with h|h
    ·exact .inl h
    right
    rw[←hsd]
    exact dk.isOf_no (fun t ht e=>h t ht (by rw[e];exact dk.Wi.refl _))
   obtain ⟨ms,hms⟩: ∃ms:Nat,ms=1+(if sd=0 then 0 else 1):=⟨_,rfl⟩
   have HHR:Hid ((dk.namesL D2.ts dk.sCache).length=ms):=by
    have h:=(uh HB2).here (uh HOK).wf
    rw[hsd,uh HPI] at h
    rw[hms]
    exact h
   clear hl hsd
   by_cases hs0:sd=0
   ·have hms1:ms=1:=by rw[hms,if_pos hs0]
    subst hs0
    subst hms1
    clear hms
    have hl1000:=(uh HOK).len
    have hcts:(dk.cpy D2).ts=D2.ts:=rfl
    have H2:=hide (copyDS (uh HD2) hl1000)
    go_wp2_with fail
    refine (uh H2).mono ?_
    rintro r we ⟨bx,vx,rfl,hde⟩
    have HX:=hide (hde.below (uh HD2).old)
    have HD3:=hide ((uh HD2).keep hde.old)
    have H3:=hide (dk.read_disk hde.disk dk.sOther (by rw[hcts];omega))
    rw[hcts,(uh HB2).read (uh HOK).wf|>.1,(uh HB2).read (uh HOK).wf|>.2] at H3
    clear hde H2 HD2
    go_wp2_with fail
    refine (uh H3).mono ?_
    rintro r wf ⟨rfl,m1,rfl⟩
    have HX:=hide ((uh HX).keep ((Only.refl _ we).drewN m1))
    have HD3:=hide ((uh HD3).keep ((Only.refl _ we).drewN m1))
    have H4:=hide (dk.names_disk (uh HX).disk ⟨#[]⟩ (by decide) (by rw[hcts];omega) (dk.nth_sz (dk.cpy_ok (uh HOK)).1))
    rw[hcts,(uh HB2).root (uh HOK).wf] at H4
    clear H3
    generalize we.drewN m1=wg at*
    go_wp2_with fail
    refine (uh H4).mono ?_
    rintro r wh ⟨l1,rfl,hr1,ho1⟩
    obtain ⟨a1,c1,rfl, -⟩:=dk.names_shape hr1
    have HX:=hide ((uh HX).keep (toM ho1))
    have HD3:=hide ((uh HD3).keep (toM ho1))
    have H5:=hide (dk.names_disk (uh HX).disk dk.sCache (by decide) (by rw[hcts];omega) (dk.nth_sz (dk.cpy_ok (uh HOK)).1))
    rw[hcts,uh HHR] at H5
    clear H4 hr1 ho1
    go_wp2_with fail
    refine (uh H5).mono ?_
    rintro r wi ⟨l2,rfl,hr2,ho2⟩
    obtain ⟨a2,c2,rfl, -⟩:=dk.names_shape hr2
    have HX:=hide ((uh HX).keep (toM ho2))
    have HD3:=hide ((uh HD3).keep (toM ho2))
    have H6:=hide (dk.is_disk (uh HX).disk dk.sSide (by rw[hcts];omega))
    rw[hcts,uh HSI] at H6
    clear H5 hr2 ho2
    go_wp2_with fail
    refine (uh H6).mono ?_
    rintro r wj ⟨rfl,m2,rfl⟩
    have HX:=hide ((uh HX).keep ((Only.refl _ wi).drewN m2))
    have HD3:=hide ((uh HD3).keep ((Only.refl _ wi).drewN m2))
    have H7:=hide (dk.is_disk (uh HX).disk dk.sPlace (by rw[hcts];omega))
    rw[hcts,uh HPI] at H7
    clear H6
    generalize wi.drewN m2=wk at*
    go_wp2_with fail
    refine (uh H7).mono ?_
    rintro r wl ⟨rfl,m3,rfl⟩
    have HX:=hide ((uh HX).keep ((Only.refl _ wk).drewN m3))
    have HD3:=hide ((uh HD3).keep ((Only.refl _ wk).drewN m3))
    clear H7
    generalize wk.drewN m3=wm at*
    go_upto_region 32 with fail
    have HP9:=hide (dk.is_disk (uh HX).disk dk.sPlace (by rw[hcts];omega))
    rw[hcts,uh HPI] at HP9
    go_cut [164] from 152 to 163 (fun t wx=>t=.bool false∧Hid (DS w4 wx bx vx (dk.cpy D2)))
    case first=>
     go_wp2_with fail
     refine (uh HP9).mono ?_
     rintro r wn ⟨rfl,m5,rfl⟩
     have HX:=hide ((uh HX).keep ((Only.refl _ wm).drewN m5))
     have HD3:=hide ((uh HD3).keep ((Only.refl _ wm).drewN m5))
     have H9:=hide (dk.down_disk (uh HD3).disk)
     clear HP9
     generalize wm.drewN m5=wn at*
     cases hdw:D2.down with
     |true=>
      rw[hdw] at H9
      clear hdw
      go_wp2_with fail
      refine (uh H9).mono ?_
      rintro r wo ⟨rfl,rfl⟩
      go_wp2_with fail
      go_meet
      case rel=>exact ⟨rfl,HX⟩
     |false=>
      rw[hdw] at H9
      clear hdw
      have HS9:=hide (dk.is_disk (uh HX).disk dk.sSide (by rw[hcts];omega))
      rw[hcts,uh HSI] at HS9
      go_wp2_with fail
      refine (uh H9).mono ?_
      rintro r wo ⟨rfl,rfl⟩
      go_wp2_with fail
      refine (uh HS9).mono ?_
      rintro r wo ⟨rfl,m6,rfl⟩
      have HX:=hide ((uh HX).keep ((Only.refl _ _).drewN m6))
      go_wp2_with fail
      go_meet
      case rel=>exact ⟨rfl,HX⟩
    case rest=>
     obtain ⟨rfl,hx9⟩:=hcut
     have HXO:=hx9
     have HX:=hx9
     clear hx9 HD3 HP9
     have hwx:=(uh HW4).old (uh HX).old
     have H10:=hide (copyDS (uh HX) (by rw[hcts];omega))
     clear hwx
     go_wp2_with fail
     refine (uh H10).mono ?_
     rintro r wp ⟨bz,vz,rfl,hdz⟩
     have HX:=hide ((uh HX).keep hdz.old)
     have H11:=hide (refusedA (D:=dk.cpy (dk.cpy D2)) (by show D2.ts.length≤1000;omega) (uh HAR) _ ⟨rfl,(uh HMO).1,(uh HMO).2⟩ hdz ((uh HW4).old (uh HXO).old))
     have HZO:=hide hdz.old
     clear H10 hdz
     go_wp2_with fail
     refine (uh H11).mono ?_
     rintro r wq ⟨rfl,hoq⟩
     have HX:=hide ((uh HXO).keep hoq)
     have hck:=dk.cpy_ok (uh HOK)
     have H12:=hide (recDS (uh HX) hck.1 hck.2.1 (uh HW4))
     clear hoq H11 HXO HZO
     go_wp2_with fail
     refine (uh H12).mono ?_
     rintro r wr ⟨x,rfl,rfl,v3,D3,hd3,hrm3⟩
     have HX:=hide hd3
     have HR3:=hide hrm3
     have H13:=hide (recDS hd3 hrm3.ok (hrm3.nev hck.2.1) (uh HW4))
     clear hd3 hrm3 H12
     go_wp2_with fail
     refine (uh H13).mono ?_
     rintro r ws ⟨x,rfl,rfl,v4,D4,hd4,hrm4⟩
     have HX:=hide hd4
     have HR4:=hide hrm4
     have HN4:=hide (hrm4.nev ((uh HR3).nev hck.2.1))
     have HRM4:=hide (hrm4.room ((uh HR3).room hck.2.2))
     have hl4:=hrm4.ok.len
     have H14:=hide (dk.is_disk hd4.disk dk.sSide (by omega))
     rw[dk.isOf_no (fun t ht e=>hrm4.yes rfl t ht (by rw[e];exact dk.Wi.refl _))] at H14
     clear hd4 hrm4 H13 hck
     go_wp2_with fail
     refine (uh H14).mono ?_
     rintro r wt ⟨rfl,m4,rfl⟩
     have HX:=hide ((uh HX).keep ((Only.refl _ ws).drewN m4))
     clear H14
     generalize ws.drewN m4=wu at*
     have HSUB:Hid (∀t∈D4.ts,t∈D.ts):=fun t ht=>by
      have h2:t∈D2.ts:=(uh HR3).sub.subset ((uh HR4).sub.subset ht)
      rcases (uh HLO).half.only t h2 with h|h
      ·exact h
      exact absurd h ((uh HR4).yes rfl t ht)
     have HST4:Hid (dk.Start 0 D4):=by
      refine ⟨(uh HR4).ok,Nat.le_trans (dk.nodupTh _ _ (uh HR4).ok.wf (uh HSUB)) (uh HST).len, ?_,fun t ht=>(uh HST).none t (uh HSUB t ht)⟩
      exact ⟨dk.cTh,((dk.Base.rem (D:=dk.cpy D2) (uh HB2) (uh HR3)).rem (uh HR4)).c,rfl,rfl⟩
     have H15:=hide (extDS (uh HX) (uh HST4) (uh HN4).2 (uh HFL) (uh HAR) (uh HW4))
     go_wp2_with fail
     refine (uh H15).mono ?_
     rintro r wv ⟨x,rfl,v5,D5,hd5,hres⟩
     rcases hres with ⟨rfl,hl5⟩|⟨rfl,hl5⟩
     case inr=>exact absurd ⟨uh HN4,uh HRM4⟩ hl5.half.why
     obtain ⟨C5,hok5⟩: ∃C',dk.Dok C' D5:=by obtain ⟨_,_,_,_,_,h⟩:=hl5;exact ⟨_,h.ok⟩
     have H16:=hide (heldA hok5 hl5.held.1 (uh HFL) hd5.disk ((uh HVL).old hd5.old))
     have HXV:=hide hd5
     clear hd5 hl5 hok5 H15
     go_wp2_with fail
     refine (uh H16).mono ?_
     rintro r ww ⟨rfl,how⟩
     have HOE:=hide (Only.trans (uh HO4) (Only.trans (uh HXV).old how))
     clear how H16
     go_wp2_with fail
     go_ret
     exact ⟨rfl,HOE⟩
   have hms2:ms=2:=by rw[hms,if_neg hs0]
   subst hms2
   have hsb:(sd !=0)=true:=by rw[bne_iff_ne];exact hs0
   have hsc:(sd==0)=false:=by rw[beq_eq_false_iff_ne];exact hs0
   clear hms
   have hl1000:=(uh HOK).len
   have hcts:(dk.cpy D2).ts=D2.ts:=rfl
   have H2:=hide (copyDS (uh HD2) hl1000)
   go_wp2_with fail
   refine (uh H2).mono ?_
   rintro r we ⟨bx,vx,rfl,hde⟩
   have HX:=hide (hde.below (uh HD2).old)
   have HD3:=hide ((uh HD2).keep hde.old)
   have H3:=hide (dk.read_disk hde.disk dk.sOther (by rw[hcts];omega))
   rw[hcts,(uh HB2).read (uh HOK).wf|>.1,(uh HB2).read (uh HOK).wf|>.2] at H3
   clear hde H2 HD2
   go_wp2_with fail
   refine (uh H3).mono ?_
   rintro r wf ⟨rfl,m1,rfl⟩
   have HX:=hide ((uh HX).keep ((Only.refl _ we).drewN m1))
   have HD3:=hide ((uh HD3).keep ((Only.refl _ we).drewN m1))
   have H4:=hide (dk.names_disk (uh HX).disk ⟨#[]⟩ (by decide) (by rw[hcts];omega) (dk.nth_sz (dk.cpy_ok (uh HOK)).1))
   rw[hcts,(uh HB2).root (uh HOK).wf] at H4
   clear H3
   generalize we.drewN m1=wg at*
   go_wp2_with fail
   refine (uh H4).mono ?_
   rintro r wh ⟨l1,rfl,hr1,ho1⟩
   obtain ⟨a1,c1,rfl, -⟩:=dk.names_shape hr1
   have HX:=hide ((uh HX).keep (toM ho1))
   have HD3:=hide ((uh HD3).keep (toM ho1))
   have H5:=hide (dk.names_disk (uh HX).disk dk.sCache (by decide) (by rw[hcts];omega) (dk.nth_sz (dk.cpy_ok (uh HOK)).1))
   rw[hcts,uh HHR] at H5
   clear H4 hr1 ho1
   go_wp2_with fail
   refine (uh H5).mono ?_
   rintro r wi ⟨l2,rfl,hr2,ho2⟩
   obtain ⟨a2,c2,rfl, -⟩:=dk.names_shape hr2
   have HX:=hide ((uh HX).keep (toM ho2))
   have HD3:=hide ((uh HD3).keep (toM ho2))
   have H6:=hide (dk.is_disk (uh HX).disk dk.sSide (by rw[hcts];omega))
   rw[hcts,uh HSI] at H6
   clear H5 hr2 ho2
   go_wp2_with fail
   refine (uh H6).mono ?_
   rintro r wj ⟨rfl,m2,rfl⟩
   have HX:=hide ((uh HX).keep ((Only.refl _ wi).drewN m2))
   have HD3:=hide ((uh HD3).keep ((Only.refl _ wi).drewN m2))
   have H7:=hide (dk.is_disk (uh HX).disk dk.sPlace (by rw[hcts];omega))
   rw[hcts,uh HPI] at H7
   clear H6
   generalize wi.drewN m2=wk at*
   go_wp2_with fail
   refine (uh H7).mono ?_
   rintro r wl ⟨rfl,m3,rfl⟩
   have HX:=hide ((uh HX).keep ((Only.refl _ wk).drewN m3))
   have HD3:=hide ((uh HD3).keep ((Only.refl _ wk).drewN m3))
   clear H7
   generalize wk.drewN m3=wm at*
   go_upto_region 32 with fail
   have HP9:=hide (dk.is_disk (uh HX).disk dk.sPlace (by rw[hcts];omega))
   rw[hcts,uh HPI] at HP9
   go_cut [164] from 152 to 163 (fun t wx=>t=.bool false∧Hid (DS w4 wx bx vx (dk.cpy D2)))
   case first=>
    go_wp2_with fail
    refine (uh HP9).mono ?_
    rintro r wn ⟨rfl,m5,rfl⟩
    have HX:=hide ((uh HX).keep ((Only.refl _ wm).drewN m5))
    have HD3:=hide ((uh HD3).keep ((Only.refl _ wm).drewN m5))
    have H9:=hide (dk.down_disk (uh HD3).disk)
    clear HP9
    generalize wm.drewN m5=wn at*
    cases hdw:D2.down with
    |true=>
     rw[hdw] at H9
     clear hdw
     go_wp2_with fail
     refine (uh H9).mono ?_
     rintro r wo ⟨rfl,rfl⟩
     go_wp2_with fail
     go_meet
     case rel=>exact ⟨rfl,HX⟩
    |false=>
     exfalso
     rcases uh HCLN with h|h
     ·rw[hdw] at h;cases h
     exact hs0 h
   case rest=>
    obtain ⟨rfl,hx9⟩:=hcut
    have HXO:=hx9
    have HX:=hx9
    clear hx9 HD3 HP9
    have hwx:=(uh HW4).old (uh HX).old
    have H10:=hide (copyDS (uh HX) (by rw[hcts];omega))
    clear hwx
    go_wp2_with fail
    refine (uh H10).mono ?_
    rintro r wp ⟨bz,vz,rfl,hdz⟩
    have HX:=hide ((uh HX).keep hdz.old)
    have H11:=hide (refusedA (D:=dk.cpy (dk.cpy D2)) (by show D2.ts.length≤1000;omega) (uh HAR) _ ⟨rfl,(uh HMO).1,(uh HMO).2⟩ hdz ((uh HW4).old (uh HXO).old))
    have HZO:=hide hdz.old
    clear H10 hdz
    go_wp2_with fail
    refine (uh H11).mono ?_
    rintro r wq ⟨rfl,hoq⟩
    have HX:=hide ((uh HXO).keep hoq)
    have hck:=dk.cpy_ok (uh HOK)
    have H12:=hide (recDS (uh HX) hck.1 hck.2.1 (uh HW4))
    clear hoq H11 HXO HZO
    go_wp2_with fail
    refine (uh H12).mono ?_
    rintro r wr ⟨x,rfl,rfl,v3,D3,hd3,hrm3⟩
    have HX:=hide hd3
    have HR3:=hide hrm3
    have H13:=hide (recDS hd3 hrm3.ok (hrm3.nev hck.2.1) (uh HW4))
    clear hd3 hrm3 H12
    go_wp2_with fail
    refine (uh H13).mono ?_
    rintro r ws ⟨x,rfl,rfl,v4,D4,hd4,hrm4⟩
    have HX:=hide hd4
    have HR4:=hide hrm4
    have HN4:=hide (hrm4.nev ((uh HR3).nev hck.2.1))
    have HRM4:=hide (hrm4.room ((uh HR3).room hck.2.2))
    have hl4:=hrm4.ok.len
    have H14:=hide (dk.is_disk hd4.disk dk.sSide (by omega))
    rw[dk.isOf_no (fun t ht e=>hrm4.yes rfl t ht (by rw[e];exact dk.Wi.refl _))] at H14
    clear hd4 hrm4 H13 hck
    go_wp2_with fail
    refine (uh H14).mono ?_
    rintro r wt ⟨rfl,m4,rfl⟩
    have HX:=hide ((uh HX).keep ((Only.refl _ ws).drewN m4))
    clear H14
    generalize ws.drewN m4=wu at*
    have HSUB:Hid (∀t∈D4.ts,t∈D.ts):=fun t ht=>by
     have h2:t∈D2.ts:=(uh HR3).sub.subset ((uh HR4).sub.subset ht)
     rcases (uh HLO).half.only t h2 with h|h
     ·exact h
     exact absurd h ((uh HR4).yes rfl t ht)
    have HST4:Hid (dk.Start 0 D4):=by
     refine ⟨(uh HR4).ok,Nat.le_trans (dk.nodupTh _ _ (uh HR4).ok.wf (uh HSUB)) (uh HST).len, ?_,fun t ht=>(uh HST).none t (uh HSUB t ht)⟩
     exact ⟨dk.cTh,((dk.Base.rem (D:=dk.cpy D2) (uh HB2) (uh HR3)).rem (uh HR4)).c,rfl,rfl⟩
    have H15:=hide (extDS (uh HX) (uh HST4) (uh HN4).2 (uh HFL) (uh HAR) (uh HW4))
    go_wp2_with fail
    refine (uh H15).mono ?_
    rintro r wv ⟨x,rfl,v5,D5,hd5,hres⟩
    rcases hres with ⟨rfl,hl5⟩|⟨rfl,hl5⟩
    case inr=>exact absurd ⟨uh HN4,uh HRM4⟩ hl5.half.why
    obtain ⟨C5,hok5⟩: ∃C',dk.Dok C' D5:=by obtain ⟨_,_,_,_,_,h⟩:=hl5;exact ⟨_,h.ok⟩
    have H16:=hide (heldA hok5 hl5.held.1 (uh HFL) hd5.disk ((uh HVL).old hd5.old))
    have HXV:=hide hd5
    clear hd5 hl5 hok5 H15
    go_wp2_with fail
    refine (uh H16).mono ?_
    rintro r ww ⟨rfl,how⟩
    have HOE:=hide (Only.trans (uh HO4) (Only.trans (uh HXV).old how))
    clear how H16
    go_wp2_with fail
    go_ret
    exact ⟨rfl,HOE⟩
end Go.Proofs.YtfbgamknfommpaaGreatDoor
