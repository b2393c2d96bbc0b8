import Derived.Test.YtfbgamknfommpaaGreatDoorOd
import Derived.Test.YtfbgamknfommpaaGreatDoorOb
import Derived.Test.YtfbgamknfommpaaGreatDoorKe
import Derived.Test.YtfbgamknfommpaaGreatDoorOa
import Derived.Test.YtfbgamknfommpaaGreatDoorJk
set_option maxRecDepth 100000
set_option maxHeartbeats 2000000
namespace Go.Proofs.YtfbgamknfommpaaGreatDoor
open Go.RowKit Go.Maps
def fsum(ts:List dk.Th)(p:ByteArray)(l:List ByteArray):Nat:=(l.map (fun nm=>dk.fcnt ts (dk.inP p nm))).sum
theorem fsum_snoc(ts:List dk.Th)(p:ByteArray)(l:List ByteArray)(x:ByteArray):fsum ts p (l++[x])=fsum ts p l+dk.fcnt ts (dk.inP p x):=by simp[fsum]
theorem fsum_take(ts:List dk.Th)(p:ByteArray)(l:List ByteArray)(i:Nat):fsum ts p (l.take i)≤fsum ts p l:=by
 have h:fsum ts p (l.take i++l.drop i)=fsum ts p (l.take i)+fsum ts p (l.drop i):=by unfold fsum;rw[List.map_append,List.sum_append]
 rw[List.take_append_drop] at h
 omega
theorem fcnt_le(ts:List dk.Th)(p:ByteArray):dk.fcnt ts p≤ts.length:=List.countP_le_length
theorem filesC(C:Nat): ∀(n:Nat) (D:dk.Dsk) (p:ByteArray) (b:Nat) (v:Value) (w:World),dk.DiskAt w b v D→dk.Dok C D→dk.bl p≠[]→p.size≤1000→dk.cnt D.ts p≤n→
 Calls Tryz.prog 37 #[.pointer (some ⟨b,0,none⟩),.string p] w fun e w' =>e=.returned (.int .i64 (dk.fcnt D.ts p:Int))∧Old w w' :=by
 intro n
 induction n using Nat.strongRecOn with
 |ind n ih=>
  intro D p b v w hd hok hp hps hc
  have hl1000:=hok.len
  have H1:=hide (dk.is_disk hd p (by omega))
  have HD:=hide hd
  have HOK:=hide hok
  by_cases h1:dk.isOf D.ts p=1
  ·rw[h1] at H1
   have HE:=hide (dk.fcnt_file hok.wf hp h1)
   clear hd hok h1 ih hc
   generalize dk.fcnt D.ts p=fc at*
   go_in
   go_wp2_with fail
   refine (uh H1).mono ?_
   rintro e w1 ⟨rfl,m,rfl⟩
   go_wp2_with fail
   go_ret
   exact ⟨by rw[uh HE];rfl,(Only.refl _ w).drewN m⟩
  have HCH:=hide (dk.fcnt_children hok.wf hp h1)
  have HIH:=hide ih
  have HC:=hide hc
  have HNM:Hid (∀nm∈dk.namesL D.ts p,(dk.inP p nm).size≤1000∧dk.cnt D.ts (dk.inP p nm)<dk.cnt D.ts p):=fun nm hm=>by
   obtain ⟨c,k1,k2,k3,_⟩:=dk.names_mem hok.wf hp hm
   refine ⟨by rw[←k3];exact hok.sz c k1, ?_⟩
   obtain ⟨u,hu,h2⟩:=hok.wf.up c k1
   rw[k2] at hu
   injection hu with hu
   subst hu
   rcases h2 with h2|⟨x,hx,hxp,_⟩
   ·exact absurd h2 hp
   exact dk.cnt_less hx hxp
  have h1b:(dk.isOf D.ts p==1)=false:=by rw[beq_eq_false_iff_ne];exact h1
  clear hd hok ih hc h1
  generalize dk.isOf D.ts p=io at*
  go_in
  go_wp2_with fail
  refine (uh H1).mono ?_
  rintro e w1 ⟨rfl,m,rfl⟩
  clear H1
  have HN:=hide (dk.names_disk ((uh HD).drewN m) p (by omega) (by omega) (dk.nth_sz (uh HOK)))
  go_wp2_with fail
  refine (uh HN).mono ?_
  rintro e w2 ⟨l,rfl,hrow,ho2⟩
  clear HN
  obtain ⟨ao,cap,rfl,hao⟩:=dk.names_shape hrow
  have HROW:=hide hrow
  have HO2:Hid (Old w w2):=((Only.refl (fun _=>False) w).drewN m).trans (toM ho2)
  have hnl:(dk.namesL D.ts p).length≤1000:=by
   unfold dk.namesL
   split
   ·rw[dk.namesOf,List.length_map];exact Nat.le_trans (List.length_filter_le _ _) hl1000
   simp
  have HTOT:Hid (∀i,fsum D.ts p ((dk.namesL D.ts p).take i)≤1000):=fun i=>by
   have h2:=fsum_take D.ts p (dk.namesL D.ts p) i
   have h3:fsum D.ts p (dk.namesL D.ts p)=dk.fcnt D.ts p:=(uh HCH).symm
   have h4:=fcnt_le D.ts p
   omega
  have HEND:Hid (fsum D.ts p (dk.namesL D.ts p)=dk.fcnt D.ts p):=(uh HCH).symm
  clear hrow ho2
  generalize dk.namesL D.ts p=L at*
  generalize dk.okN D.ts p=okb at*
  go_wp2_with fail
  go_loopw [5,8] (fun y x wr=> ∃i:Nat,i≤L.length∧x=.int .i64 i∧y=.int .i64 (fsum D.ts p (L.take i):Int)∧Hid (Old w2 wr)) (fun _ x _=>L.length- (intOf x).toNat)
  ·exact ⟨0,by omega,rfl,rfl,Only.refl _ _⟩
  obtain ⟨i,hi,rfl,rfl,HO⟩:=hrel
  by_cases hil:i<L.length
  ·have hilI:(i:Int)<(L.length:Int):=by omega
   obtain ⟨g,hg⟩:=hao (by omega)
   subst hg
   have hcell:=dk.names_cell (dk.row_kept (uh HROW) (toD (uh HO)) (fun _ _ x=>x)) i hil
   obtain ⟨hcs,hcn⟩:=uh HNM _ (dk.nmAt_mem hil)
   have hcs2:=dk.inP_size p (dk.nmAt L i)
   have hdr:=(uh HD).kept (toD (Only.trans (uh HO2) (uh HO))) (fun x=>x) (fun _ _ x=>x)
   have HREC:=hide (uh HIH (dk.cnt D.ts (dk.inP p (dk.nmAt L i))) (by have:=uh HC;omega) D (dk.inP p (dk.nmAt L i)) b v wr hdr (uh HOK) (by rw[dk.bl_inP];simp) hcs (Nat.le_refl _))
   have HTK:Hid (fsum D.ts p (L.take (i+1))=fsum D.ts p (L.take i)+dk.fcnt D.ts (dk.inP p (dk.nmAt L i))):=by unfold Hid;rw[dk.nmAt_take hil,fsum_snoc]
   have hb1:=uh HTOT i
   have hb2:=uh HTOT (i+1)
   rw[uh HTK] at hb2
   have hpn:p++⟨#[47]⟩++dk.nmAt L i=dk.inP p (dk.nmAt L i):=rfl
   clear hdr hcn
   generalize dk.fcnt D.ts (dk.inP p (dk.nmAt L i))=fx at*
   generalize dk.inP p (dk.nmAt L i)=q at*
   generalize dk.nmAt L i=nm at*
   generalize fsum D.ts p (L.take i)=fa at*
   go_wp2_with fail
   refine (uh HREC).mono ?_
   rintro e w3 ⟨rfl,ho3⟩
   have HO3:=hide (Only.trans (uh HO) ho3)
   have hwr:IntKind.i64.wrap ((fa:Int)+(fx:Int))=(fa:Int)+(fx:Int):=by rw[IntKind.wrap_i64];omega
   clear ho3 HREC hcell hpn
   go_wp2_with fail
   go_roundw
   ·exact ⟨i+1,by omega,by go_num,by rw[uh HTK];go_num,HO3⟩
   case measure=>simp[intOf];omega
  have hilI:¬(i:Int)<(L.length:Int):=by omega
  have hie:i=L.length:=by omega
  subst hie
  rw[List.take_length,uh HEND]
  go_wp2_with fail
  go_ret
  exact ⟨rfl,Only.trans (uh HO2) (uh HO)⟩
theorem read_mem{ts:List dk.Th}(hs:dk.Srt ts){t:dk.Th}(ht:t∈ts)(hf:t.f=false):dk.readOf ts t.p=t.d∧dk.isFile ts t.p=true:=by
 obtain ⟨h1,_,h3⟩:=dk.isAt_mem hs ht
 have h4:dk.isFile ts t.p=true:=by
  unfold dk.isFile
  rw[h1,h3,hf];rfl
 unfold dk.readOf
 rw[h4,if_pos rfl,h3]
 exact ⟨rfl,rfl⟩
theorem heldA{C:Nat}{D:dk.Dsk}{fs:List Fl}(hok:dk.Dok C D)(hh:dk.Held D.ts fs)(hfs:Fils fs){w:World}{b:Nat}{v vf:Value}(hd:dk.DiskAt w b v D)(hv:FilesAt w vf fs):
 Calls Tryz.prog 19 #[.pointer (some ⟨b,0,none⟩),.string dk.sPlace,vf] w fun e w' =>e=.returned (.bool true)∧Old w w' :=by
 obtain ⟨ao,cap,g,rfl,hgl,hao,hcl⟩:=hv.row (Nat.lt_of_le_of_lt (Nat.zero_le _) hd.lt)
 have hl20:=hfs.len
 have hl1000:=hok.len
 have HD:=hide hd
 have HOK:=hide hok
 have HAO:=hide hao
 have HCL:=hide hcl
 have HRD:Hid (∀i,i<fs.length→dk.readOf D.ts (dk.inP dk.sPlace (fs.getD i default).1)=(fs.getD i default).2∧dk.isFile D.ts (dk.inP dk.sPlace (fs.getD i default).1)=true∧(fs.getD i default).1.size≤12):=fun i hi=>by
  have hm:fs.getD i default∈fs:=by rw[List.getD_eq_getElem?_getD,List.getElem?_eq_getElem hi];exact List.getElem_mem hi
  have h1:=read_mem hok.wf.srt (hh.fi _ hm) rfl
  exact ⟨h1.1,h1.2,((hfs.form _ hm).1).size⟩
 have HIS:Hid (dk.isOf D.ts dk.sPlace=2):=(dk.isOf_two hok.wf.srt (q:=dk.sPlace)).2 ⟨_,hh.top,rfl,rfl⟩
 have HFC:=hide hh.cnt
 clear hd hok hao hcl hh hfs hv
 go_in
 go_wp2_with fail
 go_loopw [7,8,9] (fun x _ _ wr=> ∃i:Nat,i≤fs.length∧x=.int .i64 i∧Hid (Old w wr)) (fun x _ _ _=>fs.length- (intOf x).toNat)
 ·exact ⟨0,by omega,rfl,Only.refl _ _⟩
 obtain ⟨i,hi,rfl,HO⟩:=hrel
 have hdr:=(uh HD).kept (toD (uh HO)) (fun x=>x) (fun _ _ x=>x)
 by_cases hil:i<fs.length
 ·have hilI:(i:Int)<(fs.length:Int):=by omega
  have hao:=uh HAO (by omega)
  subst hao
  have hc0:=((uh HO).cell (p:=⟨g,i*2,none⟩) hgl (fun x=>x)).trans (uh HCL i hil).1
  have hc1:=((uh HO).cell (p:=⟨g,i*2+1,none⟩) hgl (fun x=>x)).trans (uh HCL i hil).2
  obtain ⟨r1,r2,r3⟩:=uh HRD i hil
  have HRE:=hide (dk.read_disk hdr (dk.inP dk.sPlace (fs.getD i default).1) (by omega))
  rw[r1,r2] at HRE
  have hpn:dk.sPlace++⟨#[47]⟩++(fs.getD i default).1=dk.inP dk.sPlace (fs.getD i default).1:=rfl
  have hsz:dk.sPlace.size=7:=rfl
  clear r1 r2 hdr
  generalize dk.inP dk.sPlace (fs.getD i default).1=q at*
  generalize fs.getD i default=f at*
  obtain ⟨nm,d⟩:=f
  simp only at*
  have heq:(d.toList==d.toList)=true:=by simp
  go_wp2_with fail
  refine (uh HRE).mono ?_
  rintro e w1 ⟨rfl,m,rfl⟩
  have HO1:=hide ((uh HO).drewN m)
  have hc2:(wr.drewN m).cell? ⟨g,i*2+1,none⟩=some (.string d):=hc1
  clear HRE hpn
  go_wp2_with fail
  go_roundw
  ·exact ⟨i+1,by omega,by go_num,HO1⟩
  case measure=>simp[intOf];omega
 have hilI:¬(i:Int)<(fs.length:Int):=by omega
 have H1:=hide (dk.is_disk hdr dk.sPlace (by omega))
 rw[uh HIS] at H1
 have H2:=hide (fun m=>filesC C _ D dk.sPlace b v (wr.drewN m) (hdr.drewN m) (uh HOK) (by decide) (by decide) (Nat.le_refl _))
 rw[uh HFC] at H2
 clear hdr
 go_wp2_with fail
 refine (uh H1).mono ?_
 rintro e w1 ⟨rfl,m,rfl⟩
 clear H1
 go_wp2_with fail
 refine (uh H2 m).mono ?_
 rintro e w2 ⟨rfl,ho2⟩
 have HO2:Hid (Old w w2):=Only.trans ((uh HO).drewN m) ho2
 clear H2 ho2
 go_wp2_with fail
 go_ret
 exact ⟨rfl,HO2⟩
theorem Fine.more{fs:List Fl}(h:Fine fs)(u:List UInt8)(hu:u≠[]):(unpP sPre (strB (laidL sPre (itemsP fs)++u))).2≠0∧(unpP sPre (strB (laidL sPre (itemsP fs)++u))).2≠12:=by
 have hnm: ∀f∈fs,(itemP f.1 f.2).name=f.1:=fun f _=>by unfold itemP;split<;>rfl
 have hrise:Rising (itemsP fs):=by
  refine List.pairwise_map.2 (h.rise.imp_of_mem (fun {a b} ha hb hab=> ?_))
  rw[hnm a ha,hnm b hb];exact hab
 have hrd: ∀i∈itemsP fs,ItRd sPre i:=by
  intro i hi
  obtain ⟨f,hf,rfl⟩:=List.mem_map.1 hi
  obtain ⟨g1,g2⟩:=h.form f hf
  have g5:=(nmOk_facts g1).2.2.2.2.1
  obtain ⟨k1,k2,k3,_,_,k6⟩:=itemP_facts f.1 f.2 g5 g2
  obtain ⟨o1,o2,o3,o4,o5⟩:=k1
  exact ⟨k3,o2,o3,by omega,by rw[k6];show 13+f.1.size<_;omega⟩
 have hlen:(itemsP fs).length≤60:=by have:=h.len;simp[itemsP];omega
 generalize itemsP fs=its at*
 have go: ∀t:List UInt8,Lib.hasPrefix t mkL.data.toList=false→readGo sPre ((strB (locsL sPre its++t)).size+1) (strB (locsL sPre its++t)) []=some its:=fun t ht=>by
  have h1:=locs_len sPre its
  have:=readGo_locs sPre t ht its [] ((strB (locsL sPre its++t)).size+1) hrd (by rw[List.nil_append];exact hrise) (by rw[List.nil_append];exact hlen) (by rw[strB_size,List.length_append];omega)
  rw[List.nil_append] at this
  exact this
 unfold unpP
 split
 ·exact ⟨by simp,by simp⟩
 split
 ·exact ⟨by simp,by simp⟩
 rename_i jts hj
 exfalso
 obtain ⟨hgo,hlaid⟩:=readP_of hj
 have h1:=go ((centsN sPre its its.length++endL its.length (centsN sPre its its.length).length (locsL sPre its).length)++u) (noL_app u (cents_noL sPre its _ _ _) (by rw[List.length_append,endL_len];omega))
 have e:locsL sPre its++((centsN sPre its its.length++endL its.length (centsN sPre its its.length).length (locsL sPre its).length)++u)=laidL sPre its++u:=by rw[laidL_form];simp only[List.append_assoc]
 rw[e,hgo] at h1
 injection h1 with h1
 have hbj:laidL sPre jts=laidL sPre its++u:=by have:=congrArg sL hlaid;rw[sL_strB,sL_strB] at this;exact this
 rw[h1] at hbj
 have:=congrArg List.length hbj
 rw[List.length_append] at this
 have:0<u.length:=List.length_pos_iff.2 hu
 omega
abbrev sNot:ByteArray:=⟨#[110,111,116,104,105,110,103]⟩
abbrev sCsl:ByteArray:=⟨#[99,97,99,104,101,47]⟩
abbrev sMt:ByteArray:=⟨#[109,46,116,109,112]⟩
theorem plOther:placeP dk.sOther=true:=by kernel_rfl
theorem plSl:placeP sCsl=false:=by kernel_rfl
theorem plMt:placeP sMt=false:=by kernel_rfl
theorem plPlace:placeP dk.sPlace=true:=by kernel_rfl
theorem stop_goes(D:dk.Dsk):¬dk.goes {D with left:=max 0 0}=true:=by simp[dk.goes]
structure DS (w0 w:World) (b:Nat) (v:Value) (D:dk.Dsk):Prop where
 disk:dk.DiskAt w b v D
 old:Old w0 w
 hb:w0.heap.size≤b
 own: ∀k,v.ownBlock=some k→w0.heap.size≤k
theorem DS.keep{w0 w w' :World}{b:Nat}{v:Value}{D:dk.Dsk}(h:DS w0 w b v D)(ho:Old w w'):DS w0 w' b v D:=
 ⟨h.disk.kept (toD ho) (fun x=>x) (fun _ _ x=>x),Only.trans h.old ho,h.hb,h.own⟩
theorem DS.turn{w0 w w' :World}{b:Nat}{v:Value}{D D' :dk.Dsk}(h:DS w0 w b v D)(ht:dk.Turn w w' b v D'): ∃v',DS w0 w' b v' D' :=by
 obtain ⟨v',k1,k2,k3⟩:=ht
 refine ⟨v',k1,h.old.transNew (toM k2) (fun i hi e=> ?_),h.hb,fun k hk=> ?_⟩
 ·have hbb:=h.hb
  rcases e with e|e
  ·omega
  have:=h.own i e;omega
 rcases k3 with k3|k3
 ·exact h.own k (k3 ▸ hk)
 exact Nat.le_trans h.old.size (k3 k hk)
theorem DS.set{w0 w w' :World}{b:Nat}{v:Value}{D D' :dk.Dsk}(h:DS w0 w b v D)(h1:dk.DiskAt w' b v D')(h2:dk.Only (fun k=>k=b) w w'):DS w0 w' b v D' :=
 ⟨h1,h.old.transNew (toM h2) (fun i hi e=>by have:=h.hb;omega),h.hb,h.own⟩
theorem extDown{w0 w:World}{b:Nat}{v:Value}{D:dk.Dsk}(h:DS w0 w b v D)(hw:Awk w0)(hd:D.down=true){fs:List Fl}{s:ByteArray}(ha:Arc s fs)(p:ByteArray)(hp:p.size≤1000)(hpl:placeP p=true):
 Calls Tryz.prog 14 #[.pointer (some ⟨b,0,none⟩),.string p,.string sMod,.string sVer,.string s] w fun e w' => ∃x,e=.returned x∧(x=.int .i64 12∧Old w w'):=by
 have hwk:=hw.old h.old
 refine extA _ p s fs ha hp hpl w hwk.1 hwk.2.1 (fun x w' =>x=.int .i64 12∧Old w w') (fun W vf ho _ _=> ?_)
 refine (layDown (h.disk.kept (toD ho) (fun x=>x) (fun _ _ x=>x)) hd p vf).mono ?_
 rintro e w' ⟨rfl,rfl⟩
 exact ⟨_,rfl,rfl,ho⟩
theorem extNil{w:World}(hw:Awk w){fs:List Fl}{s:ByteArray}(ha:Arc s fs)(p:ByteArray)(hp:p.size≤1000)(hpl:placeP p=true):
 Calls Tryz.prog 14 #[.pointer none,.string p,.string sMod,.string sVer,.string s] w fun e w' => ∃x,e=.returned x∧(x=.int .i64 12∧Old w w'):=by
 refine extA _ p s fs ha hp hpl w hw.1 hw.2.1 (fun x w' =>x=.int .i64 12∧Old w w') (fun W vf ho _ _=> ?_)
 refine (layNil p vf W).mono ?_
 rintro e w' ⟨rfl,rfl⟩
 exact ⟨_,rfl,rfl,ho⟩
theorem refusedA{D:dk.Dsk}{fs:List Fl}{s:ByteArray}(hl:D.ts.length≤1000)(ha:Arc s fs)(ex:Nat)(hex:(unpP sPre (s++⟨#[120]⟩)).2=ex∧ex≠0∧ex≠12){w0 w:World}{b:Nat}{v:Value}(hd:DS w0 w b v D)(hw:Awk w0):
 Calls Tryz.prog 21 #[.pointer (some ⟨b,0,none⟩),.string s] w fun e w' =>e=.returned (.bool true)∧Old w0 w' :=by
 have H1:=hide (dk.stop_disk hd.disk 0)
 have HD:=hide hd
 have HW:=hide hw
 have HA:=hide ha
 have HEX:=hide hex
 have hsz:=ha.size
 clear hd hw ha hex
 go_in
 go_wp2_with fail
 refine (uh H1).mono ?_
 rintro e w1 ⟨rfl,hd1,ho1⟩
 have HD1:=hide ((uh HD).set hd1 ho1)
 have H2:=hide (dk.remove_disk hd1 sNot (by decide) (by show D.ts.length≤_;omega))
 have hrm:dk.removeOf {D with left:=max 0 0} sNot=(4,dk.stepped {D with left:=max 0 0}):=by unfold dk.removeOf;rw[if_neg (stop_goes D)]
 rw[hrm] at H2
 have HDN:Hid ((dk.stepped {D with left:=max 0 0}).down=true):=by unfold Hid;rw[dk.stepped_down];simp[dk.goes]
 generalize dk.stepped {D with left:=max 0 0}=D2 at*
 clear hrm hd1 ho1 H1 HD
 go_wp2_with fail
 refine (uh H2).mono ?_
 rintro e w2 ⟨rfl,ht2⟩
 obtain ⟨v2,hds⟩:=(uh HD1).turn ht2
 have HD2:=hide hds
 have H3:=hide (extDown hds (uh HW) (uh HDN) (uh HA) dk.sPlace (by decide) plPlace)
 clear ht2 hds H2 HD1
 go_wp2_with fail
 refine (uh H3).mono ?_
 rintro e w3 ⟨x,rfl,rfl,ho3⟩
 have HD3:=hide ((uh HD2).keep ho3)
 have H4:=hide (extDown (uh HD3) (uh HW) (uh HDN) (uh HA) dk.sOther (by decide) plOther)
 clear ho3 H3 HD2
 go_wp2_with fail
 refine (uh H4).mono ?_
 rintro e w4 ⟨x,rfl,rfl,ho4⟩
 have HD4:=hide ((uh HD3).keep ho4)
 have H5:=hide (recA (.pointer (some ⟨b,0,none⟩)) dk.sPlace (by decide) plPlace w4 ((uh HW).old (uh HD4).old).1 (fun x w' =>x=.int .i64 12∧Old w4 w') (fun W ho=>(clearDown ((uh HD4).disk.kept (toD ho) (fun x=>x) (fun _ _ x=>x)) (uh HDN) dk.sPlace).mono (fun e w' h=>⟨_,h.1,rfl,by rw[h.2];exact ho⟩)))
 clear ho4 H4 HD3
 go_wp2_with fail
 refine (uh H5).mono ?_
 rintro e w5 ⟨x,rfl,rfl,ho5⟩
 have HD5:=hide ((uh HD4).keep ho5)
 have H6:=hide (extNil ((uh HW).old (uh HD5).old) (uh HA) dk.sPlace (by decide) plPlace)
 clear ho5 H5 HD4
 go_wp2_with fail
 refine (uh H6).mono ?_
 rintro e w6 ⟨x,rfl,rfl,ho6⟩
 have HD6:=hide ((uh HD5).keep ho6)
 have H7:=hide (recA (.pointer none) dk.sPlace (by decide) plPlace w6 ((uh HW).old (uh HD6).old).1 (fun x w' =>x=.int .i64 12∧Old w6 w') (fun W ho=>(clearNil dk.sPlace W).mono (fun e w' h=>⟨_,h.1,rfl,by rw[h.2];exact ho⟩)))
 clear ho6 H6 HD5
 go_wp2_with fail
 refine (uh H7).mono ?_
 rintro e w7 ⟨x,rfl,rfl,ho7⟩
 have HD7:=hide ((uh HD6).keep ho7)
 have H8:=hide (extNo (.pointer (some ⟨b,0,none⟩)) sCsl s (by decide) plSl w7 ((uh HW).old (uh HD7).old).1)
 clear ho7 H7 HD6
 go_wp2_with fail
 refine (uh H8).mono ?_
 rintro e w8 ⟨rfl,ho8⟩
 have HD8:=hide ((uh HD7).keep ho8)
 have hxs:(s++⟨#[120]⟩:ByteArray).size≤40001:=by rw[ByteArray.size_append];show s.size+1≤_;omega
 have hw8:=(uh HW).old (uh HD8).old
 have H9:=hide (extractBad (.pointer none) (s++⟨#[120]⟩) (by omega) ex (uh HEX).2.1 (uh HEX).1 w8 hw8.1 hw8.2.1)
 have hcat:¬9223372036854775807<s.size+1:=by omega
 clear ho8 H8 HD7 hxs hw8
 go_wp2_with fail
 refine (uh H9).mono ?_
 rintro e w9 ⟨rfl,ho9⟩
 have HD9:=hide ((uh HD8).keep ho9)
 have H10:=hide (recNo (.pointer none) sMt (by decide) plMt w9 ((uh HW).old (uh HD9).old).1)
 clear ho9 H9 HD8
 go_wp2_with fail
 refine (uh H10).mono ?_
 rintro e wa ⟨rfl,hoa⟩
 have HOE:=hide (Only.trans (uh HD9).old hoa)
 have he0:((ex:Int) !=0)=true:=by rw[bne_iff_ne];have:=(uh HEX).2.1;omega
 have he1:¬(ex:Int)=0:=by have:=(uh HEX).2.1;omega
 have he2:((ex:Int) !=12)=true:=by rw[bne_iff_ne];have:=(uh HEX).2.2;omega
 have he3:¬(ex:Int)=12:=by have:=(uh HEX).2.2;omega
 have he4:((ex:Int)==0)=false:=by rw[beq_eq_false_iff_ne];exact he1
 have he5:((ex:Int)==12)=false:=by rw[beq_eq_false_iff_ne];exact he3
 clear hoa H10 HD9
 go_wp2_with fail
 go_ret
 exact ⟨rfl,HOE⟩
end Go.Proofs.YtfbgamknfommpaaGreatDoor
