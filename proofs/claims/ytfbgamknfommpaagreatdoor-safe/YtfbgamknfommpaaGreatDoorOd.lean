import Derived.Test.YtfbgamknfommpaaGreatDoorOc
import Derived.Test.YtfbgamknfommpaaGreatDoorOb
import Derived.Test.YtfbgamknfommpaaGreatDoorJd
import Derived.Test.YtfbgamknfommpaaGreatDoorJv
set_option maxRecDepth 100000
set_option maxHeartbeats 2000000
namespace Go.Proofs.YtfbgamknfommpaaGreatDoor
open Go.RowKit Go.Maps
theorem files_turn{w w1:World}{b:Nat}{v vf:Value}{D1:dk.Dsk}{fs:List Fl}(h:dk.Turn w w1 b v D1)(hv:FilesAt w vf fs)(hsep: ∀k,vf.ownBlock=some k→v.ownBlock≠some k∧k≠b):
 ∃v1,dk.DiskAt w1 b v1 D1∧FilesAt w1 vf fs∧(∀k,vf.ownBlock=some k→v1.ownBlock≠some k∧k≠b)∧ ∀w2 D2,dk.Turn w1 w2 b v1 D2→dk.Turn w w2 b v D2:=by
 have hl:=dk.row_lt hv
 obtain ⟨v1,k1,k2,k3⟩:=h
 refine ⟨v1,k1,hv.kept (toM k2) (fun k hk e=> ?_),fun k hk=>⟨fun e=> ?_,(hsep k hk).2⟩,fun w2 D2 ht=> ?_⟩
 ·rcases e with e|e
  ·exact (hsep k hk).2 e
  exact (hsep k hk).1 e
 ·rcases k3 with k3|k3
  ·exact (hsep k hk).1 (k3 ▸ e)
  have h1:=k3 k e;have h2:=(hl k hk).2;omega
 obtain ⟨v2,q1,q2,q3⟩:=ht
 refine ⟨v2,q1,k2.transNew q2 ?_, ?_⟩
 ·rintro i hi (e|e)
  ·exact .inl e
  rcases k3 with k3|k3
  ·exact .inr (k3 ▸ e)
  have:=k3 i e;omega
 rcases q3 with q3|q3
 ·rcases k3 with k3|k3
  ·exact .inl (q3.trans k3)
  exact .inr (q3 ▸ k3)
 exact .inr fun k hk=>Nat.le_trans k2.size (q3 k hk)
def SideP(C:Nat)(D:dk.Dsk)(fs:List Fl)(w w' :World)(b:Nat)(v:Value)(e:Ending):Prop:=
 ∃D',dk.Turn w w' b v D' ∧((e=.returned (.bool true)∧dk.Laid C D fs D')∨(e=.returned (.bool false)∧dk.Half C D D'))
theorem sideN:dk.bl dk.sSide≠[]:=by decide
theorem sideZ:dk.sSide.size≤1000:=by decide
theorem layA{C:Nat}{D:dk.Dsk}{fs:List Fl}(hst:dk.Start C D)(hfs:Fils fs){w:World}{b:Nat}{v vf:Value}(hd:dk.DiskAt w b v D)(hv:FilesAt w vf fs)(hsep: ∀k,vf.ownBlock=some k→v.ownBlock≠some k∧k≠b):
 Calls Tryz.prog 63 #[.pointer (some ⟨b,0,none⟩),.string dk.sPlace,vf] w fun e w' =>SideP C D fs w w' b v e:=by
 have HR:=hide (dk.removeA C _ D dk.sSide b v w hd hst.ok sideN sideZ (Nat.le_refl _))
 have HST:=hide hst
 have HFS:=hide hfs
 have HV:=hide hv
 have HSP:=hide hsep
 obtain ⟨ao,cap,hvf⟩: ∃ao cap,vf=.slice ao fs.length cap:=by
  obtain ⟨_,⟨rfl,hz⟩|⟨g,cap,cur,rfl,_⟩⟩:=hv
  ·rw[hz];exact ⟨none,0,rfl⟩
  exact ⟨_,_,rfl⟩
 subst hvf
 clear hst hfs hv hsep hd
 go_in
 go_wp2_with fail
 refine (uh HR).mono ?_
 rintro e w1 ⟨r,D1,rfl,hrem,htn⟩
 cases r with
 |false=>
  have HT1:=hide htn
  have HH:=hide (dk.half_rem hrem)
  clear htn hrem HR
  go_wp2_with fail
  go_ret
  exact ⟨D1,HT1,.inr ⟨rfl,HH⟩⟩
 |true=>
  obtain ⟨v1,k1,k2,k3,k4⟩:=files_turn htn (uh HV) (uh HSP)
  have HRM:=hide hrem
  have HBA:=hide ((uh HST).bare hrem)
  have HPL:=hide ((uh HST).place hrem)
  have HWA:=hide (writeAllA dk.siteS (uh HBA) (uh HFS) k1 k2 k3)
  have HV1:=hide k2
  have HS1:=hide k3
  have HK1:=hide k4
  clear htn hrem HR k1 k2 k3 k4 HV HSP
  go_wp2_with fail
  refine (uh HWA).mono ?_
  rintro e w2 ⟨D2,htn,hres⟩
  rcases hres with ⟨rfl,L,hwr⟩|⟨rfl,hfl⟩
  ·obtain ⟨v2,k1,_,_,k4⟩:=files_turn htn (uh HV1) (uh HS1)
   have HWR:=hide hwr
   have HCL:=hide (cloneX dk.sPlace (by decide) w2)
   have HD2:=hide k1
   have HK2:Hid (∀w3 D3,dk.Turn w2 w3 b v2 D3→dk.Turn w w3 b v D3):=fun w3 D3 h=>uh HK1 w3 D3 (k4 w3 D3 h)
   clear htn hwr HWA k1 k4 HV1 HS1 HK1
   go_wp2_with fail
   refine (uh HCL).mono ?_
   rintro e w3 ⟨rfl,ho3⟩
   have hd3:=(uh HD2).kept (toD ho3) (fun x=>x) (fun _ _ x=>x)
   have hln:=(uh HWR).ok.len
   have HRN:=hide (dk.rename_disk hd3 dk.sSide dk.sPlace (by decide) (by decide) (by omega) (dk.nth_sz (uh HWR).ok))
   have HK3:Hid (∀w4 D4,dk.Turn w3 w4 b v2 D4→dk.Turn w w4 b v D4):=fun w4 D4 h=>by
    refine uh HK2 w4 D4 ?_
    obtain ⟨v4,q1,q2,q3⟩:=h
    exact ⟨v4,q1,toD (((ho3).mono (fun _ _ x=>x.elim)).trans (toM q2)),q3.imp id (fun h k hk=>Nat.le_trans ho3.size (h k hk))⟩
   clear HCL ho3 hd3 HD2 HK2
   by_cases hg:dk.goes D2=true
   ·obtain ⟨r1,r2⟩:=dk.rename_done (uh HBA) (uh HPL) (uh HWR) (uh HFS).apart (fun f hf=>((uh HFS).form f hf).1) hg
    rw[r1] at HRN
    have HLD:Hid (dk.Laid C D fs (dk.renameOf D2 dk.sSide dk.sPlace).2):=⟨D1,L,uh HRM,uh HBA,uh HPL,r2⟩
    clear r1 r2
    generalize (dk.renameOf D2 dk.sSide dk.sPlace).2=D4 at*
    go_wp2_with fail
    refine (uh HRN).mono ?_
    rintro e w4 ⟨rfl,ht4⟩
    have HT4:=hide (uh HK3 w4 D4 ht4)
    clear ht4 HRN
    go_wp2_with fail
    go_ret
    exact ⟨D4,HT4,.inl ⟨rfl,HLD⟩⟩
   rw[dk.rename_down hg] at HRN
   have HHF:=hide (dk.half_down (uh HRM) (uh HWR) hg)
   generalize dk.stepped D2=D4 at*
   clear hg
   go_wp2_with fail
   refine (uh HRN).mono ?_
   rintro e w4 ⟨rfl,ht4⟩
   have HT4:=hide (uh HK3 w4 D4 ht4)
   clear ht4 HRN
   go_wp2_with fail
   go_ret
   exact ⟨D4,HT4,.inr ⟨rfl,HHF⟩⟩
  have HT2:=hide (uh HK1 w2 D2 htn)
  have HHF:=hide (dk.half_fail (uh HRM) hfl)
  clear htn hfl HWA
  go_wp2_with fail
  go_ret
  exact ⟨D2,HT2,.inr ⟨rfl,HHF⟩⟩
theorem stopNil(w:World):Calls Tryz.prog 61 #[.pointer none] w fun e w' =>e=.returned (.bool true)∧w' =w:=by
 go_in
 go_wp2_with fail
 go_ret
 exact ⟨rfl,rfl⟩
theorem stopA{w:World}{b:Nat}{v:Value}{D:dk.Dsk}(h:dk.DiskAt w b v D):Calls Tryz.prog 61 #[.pointer (some ⟨b,0,none⟩)] w fun e w' =>e=.returned (.bool D.down)∧w' =w:=by
 have H1:=hide (dk.down_disk h)
 clear h
 generalize D.down=dn at*
 go_in
 go_wp2_with fail
 refine (uh H1).mono ?_
 rintro e w1 ⟨rfl,rfl⟩
 go_wp2_with fail
 go_ret
 exact ⟨rfl,rfl⟩
theorem lastSl:Lib.lastIndexByte dk.sPlace 47=5:=by kernel_rfl
theorem cutSl:dk.sPlace.extract 0 5=dk.sCache:=by kernel_rfl
theorem standsA{w:World}{b:Nat}{v:Value}{D:dk.Dsk}(h:dk.DiskAt w b v D)(hl:D.ts.length≤1000)(hc:dk.isOf D.ts dk.sCache=2):Calls Tryz.prog 62 #[.pointer (some ⟨b,0,none⟩),.string dk.sPlace] w fun e w' =>e=.returned (.bool true)∧ ∃n,w' =w.drewN n:=by
 have H1:=hide (Tryz.strings_LastIndexByte dk.sPlace 47 (by decide) w)
 rw[lastSl] at H1
 have H2:=hide (dk.is_disk h dk.sCache (by omega))
 rw[hc] at H2
 have hsl: ∀W,(Instr.slice 9 (.string dk.sPlace) none (some (.int .i64 5)) none).run Tryz.prog W=.ok (.string dk.sCache) W:=fun W=>by
  have h:=run_slice_string_h (P:=Tryz.prog) W 9 dk.sPlace Tryz.underlying9 .i64 5 (by omega) (by decide)
  rw[show (5:Int).toNat=5 from rfl,cutSl] at h
  exact h
 clear h hc
 go_in
 go_wp2_with fail
 refine (uh H1).mono ?_
 rintro e w1 ⟨rfl,rfl⟩
 clear H1
 go_wp2_with fail
 refine (uh H2).mono ?_
 rintro e w1 ⟨rfl,n,rfl⟩
 clear H2
 go_wp2_with fail
 go_ret
 exact ⟨rfl,n,rfl⟩
theorem layNil(p:ByteArray)(vf:Value)(w:World):Calls Tryz.prog 34 #[.pointer none,.string p,vf] w fun e w' =>e=.returned (.int .i64 12)∧w' =w:=by
 have H1:=hide (stopNil w)
 go_in
 go_wp2_with fail
 refine (uh H1).mono ?_
 rintro e w1 ⟨rfl,rfl⟩
 go_wp2_with fail
 go_ret
 exact ⟨rfl,rfl⟩
theorem layDown{w:World}{b:Nat}{v:Value}{D:dk.Dsk}(h:dk.DiskAt w b v D)(hd:D.down=true)(p:ByteArray)(vf:Value):Calls Tryz.prog 34 #[.pointer (some ⟨b,0,none⟩),.string p,vf] w fun e w' =>e=.returned (.int .i64 12)∧w' =w:=by
 have H1:=hide (stopA h)
 rw[hd] at H1
 clear h hd
 go_in
 go_wp2_with fail
 refine (uh H1).mono ?_
 rintro e w1 ⟨rfl,rfl⟩
 go_wp2_with fail
 go_ret
 exact ⟨rfl,rfl⟩
theorem layTaken{w:World}{b:Nat}{v:Value}{D:dk.Dsk}(h:dk.DiskAt w b v D)(hd:D.down=false)(hl:D.ts.length≤1000)(p:ByteArray)(hp:dk.isOf D.ts p≠0)(vf:Value):Calls Tryz.prog 34 #[.pointer (some ⟨b,0,none⟩),.string p,vf] w fun e w' =>e=.returned (.int .i64 11)∧ ∃n,w' =w.drewN n:=by
 have H1:=hide (stopA h)
 rw[hd] at H1
 have H2:=hide (dk.is_disk h p (by omega))
 generalize dk.isOf D.ts p=io at*
 have hpb:(io !=0)=true:=by rw[bne_iff_ne];exact hp
 have hpc:(io==0)=false:=by rw[beq_eq_false_iff_ne];exact hp
 clear h hd
 go_in
 go_wp2_with fail
 refine (uh H1).mono ?_
 rintro e w1 ⟨rfl,rfl⟩
 go_wp2_with fail
 refine (uh H2).mono ?_
 rintro e w1 ⟨rfl,n,rfl⟩
 go_wp2_with fail
 go_ret
 exact ⟨rfl,n,rfl⟩
def LayP(C:Nat)(D:dk.Dsk)(fs:List Fl)(w w' :World)(b:Nat)(v:Value)(e:Ending):Prop:=
 ∃D',dk.Turn w w' b v D' ∧((e=.returned (.int .i64 0)∧dk.Laid C D fs D')∨(e=.returned (.int .i64 12)∧dk.Lost C D D'))
theorem turn_drew{w w' :World}{b:Nat}{v:Value}{D:dk.Dsk}(n:Nat)(h:dk.Turn (w.drewN n) w' b v D):dk.Turn w w' b v D:=by
 obtain ⟨v',h1,h2,h3⟩:=h
 exact ⟨v',h1,⟨h2.os,h2.tape,h2.output,h2.size,h2.block⟩,h3⟩
theorem layOk{C:Nat}{D:dk.Dsk}{fs:List Fl}(hst:dk.Start C D)(hdn:D.down=false)(hfs:Fils fs){w:World}{b:Nat}{v vf:Value}(hd:dk.DiskAt w b v D)(hv:FilesAt w vf fs)(hsep: ∀k,vf.ownBlock=some k→v.ownBlock≠some k∧k≠b):
 Calls Tryz.prog 34 #[.pointer (some ⟨b,0,none⟩),.string dk.sPlace,vf] w fun e w' =>LayP C D fs w w' b v e:=by
 have hl:=hst.len
 have H1:=hide (stopA hd)
 rw[hdn] at H1
 have H2:=hide (dk.is_disk hd dk.sPlace (by omega))
 rw[dk.isOf_no (fun x hx e=>hst.none x hx (by rw[e];exact dk.Wi.refl _))] at H2
 have HC2:=hide ((dk.isOf_two hst.ok.wf.srt (q:=dk.sCache)).2 hst.cache)
 have HD:=hide hd
 have HV:=hide hv
 have HSP:=hide hsep
 have HST:=hide hst
 have HFS:=hide hfs
 clear hst hdn hfs hd hsep
 obtain ⟨ao,cap,hvf⟩: ∃ao cap,vf=.slice ao fs.length cap:=by
  obtain ⟨_,⟨rfl,hz⟩|⟨g,cap,cur,rfl,_⟩⟩:=hv
  ·rw[hz];exact ⟨none,0,rfl⟩
  exact ⟨_,_,rfl⟩
 subst hvf
 clear hv
 go_in
 go_wp2_with fail
 refine (uh H1).mono ?_
 rintro e w1 ⟨rfl,rfl⟩
 clear H1
 go_wp2_with fail
 refine (uh H2).mono ?_
 rintro e w2 ⟨rfl,n,rfl⟩
 clear H2
 have H3:=hide (standsA ((uh HD).drewN n) (by omega) (uh HC2))
 go_wp2_with fail
 refine (uh H3).mono ?_
 rintro e w3 ⟨rfl,m,rfl⟩
 clear H3
 have hdr:Old w1 (w1.drewN (n+m)):=(Only.refl _ w1).drewN (n+m)
 have H4:=hide (layA (uh HST) (uh HFS) ((uh HD).drewN (n+m)) ((uh HV).old hdr) (uh HSP))
 have HSZ:Hid (dk.bl dk.sSide≠[]):=sideN
 clear hdr
 go_wp2_with fail
 refine (uh H4).mono ?_
 rintro e w4 ⟨D4,ht4,hres⟩
 have HT4:=hide (turn_drew (n+m) ht4)
 clear ht4 H4
 rcases hres with ⟨rfl,hld⟩|⟨rfl,hhf⟩
 ·have HLD:=hide hld
  clear hld
  go_wp2_with fail
  go_ret
  exact ⟨D4,HT4,.inl ⟨rfl,HLD⟩⟩
 obtain ⟨v4,q1,q2,q3⟩:=uh HT4
 have H5:=hide (dk.removeA C _ D4 dk.sSide b v4 w4 q1 hhf.ok sideN sideZ (Nat.le_refl _))
 have HHF:=hide hhf
 have HNX:Hid (∀w5 D5,dk.Turn w4 w5 b v4 D5→dk.Turn w1 w5 b v D5):=fun w5 D5 h5=>by
  obtain ⟨v5,p1,p2,p3⟩:=h5
  refine ⟨v5,p1,q2.transNew p2 ?_, ?_⟩
  ·rintro i hi (e|e)
   ·exact .inl e
   rcases q3 with q3|q3
   ·exact .inr (q3 ▸ e)
   have:=q3 i e;omega
  rcases p3 with p3|p3
  ·rcases q3 with q3|q3
   ·exact .inl (p3.trans q3)
   exact .inr (p3 ▸ q3)
  exact .inr fun k hk=>Nat.le_trans q2.size (p3 k hk)
 clear hhf q1 q2 q3
 go_wp2_with fail
 refine (uh H5).mono ?_
 rintro e w5 ⟨r,D5,rfl,hrem,ht5⟩
 have HT5:=hide (uh HNX w5 D5 ht5)
 have HLS:=hide ((uh HHF).lost hrem)
 clear hrem ht5 H5
 go_wp2_with fail
 go_ret
 exact ⟨D5,HT5,.inr ⟨rfl,HLS⟩⟩
theorem clearNil(p:ByteArray)(w:World):Calls Tryz.prog 39 #[.pointer none,.string p] w fun e w' =>e=.returned (.int .i64 12)∧w' =w:=by
 have H1:=hide (stopNil w)
 go_in
 go_wp2_with fail
 refine (uh H1).mono ?_
 rintro e w1 ⟨rfl,rfl⟩
 go_wp2_with fail
 go_ret
 exact ⟨rfl,rfl⟩
theorem clearDown{w:World}{b:Nat}{v:Value}{D:dk.Dsk}(h:dk.DiskAt w b v D)(hd:D.down=true)(p:ByteArray):Calls Tryz.prog 39 #[.pointer (some ⟨b,0,none⟩),.string p] w fun e w' =>e=.returned (.int .i64 12)∧w' =w:=by
 have H1:=hide (stopA h)
 rw[hd] at H1
 clear h hd
 go_in
 go_wp2_with fail
 refine (uh H1).mono ?_
 rintro e w1 ⟨rfl,rfl⟩
 go_wp2_with fail
 go_ret
 exact ⟨rfl,rfl⟩
theorem clearOk{C:Nat}{D:dk.Dsk}(hok:dk.Dok C D)(hn:dk.Nev D){w:World}{b:Nat}{v:Value}(hd:dk.DiskAt w b v D):Calls Tryz.prog 39 #[.pointer (some ⟨b,0,none⟩),.string dk.sPlace] w fun e w' =>e=.returned (.int .i64 0)∧ ∃D',dk.Rem C D dk.sSide true D' ∧dk.Turn w w' b v D' :=by
 have H1:=hide (stopA hd)
 rw[hn.2] at H1
 have H2:=hide (dk.removeA C _ D dk.sSide b v w hd hok sideN sideZ (Nat.le_refl _))
 have HN:=hide hn
 clear hok hn hd
 go_in
 go_wp2_with fail
 refine (uh H1).mono ?_
 rintro e w1 ⟨rfl,rfl⟩
 clear H1
 go_wp2_with fail
 refine (uh H2).mono ?_
 rintro e w2 ⟨r,D2,rfl,hrem,ht⟩
 have hr:r=true:=by
  cases r with
  |true=>rfl
  |false=>
   have h1:=(hrem.nev (uh HN)).2
   rw[hrem.no rfl] at h1;cases h1
 subst hr
 have HR:=hide hrem
 have HT:=hide ht
 clear hrem ht H2
 go_wp2_with fail
 go_ret
 exact ⟨rfl,D2,HR,HT⟩
theorem indexV(g n cap:Nat)(L:List ByteArray)(v:ByteArray)(hn:n≤L.length)(hb:n≤3000000)(w:World)(hc: ∀i (h:i<L.length),w.cell? ⟨g,i,none⟩=some (.string L[i])):Calls Tryz.prog 101 #[.slice (some ⟨g,0,none⟩) n cap,.string v] w fun r w' => ∃k:Int,r=.returned (.int .i64 k)∧decide (0≤k)=(L.take n).any (fun z=>v.toList==z.toList)∧w' =w:=by
 have HC:=hide hc
 clear hc
 go_in
 go_wp2_with fail
 go_loop [5,8] (fun _ x=> ∃i:Nat,i≤n∧x=.int .i64 i∧Hid (∀j (h:j<L.length),j<i→(v.toList==(L[j]).toList)=false)) (fun _ x=>n- (intOf x).toNat)
 ·exact ⟨0,by omega,rfl,fun j _ h=>by omega⟩
 obtain ⟨i,hi,rfl,HT⟩:=hrel
 by_cases hil:i<n
 ·have hilI:(i:Int)<(n:Int):=by omega
  have hil2:i<L.length:=by omega
  have hcr:=uh HC i hil2
  cases hk:(v.toList==(L[i]).toList) with
  |true=>
   have HA:Hid (decide ((0:Int)≤(i:Int))=(L.take n).any (fun z=>v.toList==z.toList)):=by
    unfold Hid
    rw[decide_eq_true (by omega)]
    symm
    rw[List.any_eq_true]
    exact ⟨L[i],List.mem_take_iff_getElem.2 ⟨i,by omega,rfl⟩,hk⟩
   generalize L[i]=z at*
   go_wp2_with fail
   go_ret
   exact ⟨_,rfl,HA,rfl⟩
  |false=>
   have HT' :Hid (∀j (h:j<L.length),j<i+1→(v.toList==(L[j]).toList)=false):=fun j h h2=>by
    by_cases e:j=i
    ·subst e;exact hk
    exact uh HT j h (by omega)
   generalize L[i]=z at*
   go_wp2_with fail
   go_round
   ·exact ⟨i+1,by omega,by go_num,HT'⟩
   case measure=>simp[intOf];omega
 have hilI:¬(i:Int)<(n:Int):=by omega
 have HA:Hid (decide ((0:Int)≤ -1)=(L.take n).any (fun z=>v.toList==z.toList)):=by
  unfold Hid
  rw[decide_eq_false (by omega)]
  symm
  rw[List.any_eq_false]
  intro x hx
  obtain ⟨j,hj,rfl⟩:=List.mem_take_iff_getElem.1 hx
  rw[uh HT j (by omega) (by omega)];exact fun h=>by cases h
 go_wp2_with fail
 go_ret
 exact ⟨_,rfl,HA,rfl⟩
theorem containsV(g n cap:Nat)(L:List ByteArray)(v:ByteArray)(hn:n≤L.length)(hb:n≤3000000)(w:World)(hc: ∀i (h:i<L.length),w.cell? ⟨g,i,none⟩=some (.string L[i])):Calls Tryz.prog 59 #[.slice (some ⟨g,0,none⟩) n cap,.string v] w fun r w' =>r=.returned (.bool ((L.take n).any (fun z=>v.toList==z.toList)))∧w' =w:=by
 have H1:=hide (indexV g n cap L v hn hb w hc)
 generalize (L.take n).any (fun z=>v.toList==z.toList)=b at*
 clear hc
 go_in
 go_wp2_with fail
 refine (uh H1).mono ?_
 rintro e w' ⟨k,rfl,hk,rfl⟩
 go_wp2_with fail
 go_ret
 exact ⟨rfl,rfl⟩
abbrev sTmp:ByteArray:=⟨#[46,116,109,112]⟩
def placeP(s:ByteArray):Bool:=decide (s.size≤80)&& !Lib.hasSuffix s.data.toList sTmp.data.toList&& !(partsP s).any (fun z=>(⟨#[]⟩:ByteArray).toList==z.toList)
theorem placeA(s:ByteArray)(hs:s.size≤140737488355328)(w:World)(hm:MaxAt w):Calls Tryz.prog 33 #[.string s] w fun r w' =>r=.returned (.bool (placeP s))∧Old w w' :=by
 by_cases h80:s.size≤80
 ·have h80I:¬(80:Int)<(s.size:Int):=by omega
  have hpl:(partsP s).length≤100:=by
   rw[partsP_len]
   have:=Lib.countB_le ⟨#[47]⟩ (by decide) s.size s (Nat.le_refl _)
   omega
  have H1:=hide (Tryz.strings_HasSuffix s sTmp w (by omega))
  have H2:=hide (splitA s (by omega) w hm)
  have H3:=hide (fun g (W:World) h=>containsV g (partsP s).length (partsP s).length (partsP s) ⟨#[]⟩ (Nat.le_refl _) (by omega) W h)
  rw[List.take_length] at H3
  have HD:Hid (placeP s=(!Lib.hasSuffix s.data.toList sTmp.data.toList&& !(partsP s).any (fun z=>(⟨#[]⟩:ByteArray).toList==z.toList))):=by unfold Hid;rw[placeP,decide_eq_true h80,Bool.true_and]
  generalize placeP s=res at*
  generalize (partsP s).any (fun z=>(⟨#[]⟩:ByteArray).toList==z.toList)=b2 at*
  generalize partsP s=L at*
  cases h1:Lib.hasSuffix s.data.toList sTmp.data.toList with
  |true=>
   rw[h1] at H1 HD
   clear h1 hm H2 H3
   have HE:Hid (res=false):=by rw[uh HD];rfl
   clear HD
   go_in
   go_wp2_with fail
   refine (uh H1).mono ?_
   rintro e w' ⟨rfl,rfl⟩
   go_wp2_with fail
   go_ret
   exact ⟨by rw[uh HE];rfl,Only.refl _ _⟩
  |false=>
   rw[h1] at H1 HD
   clear h1 hm
   have HE:Hid (res= !b2):=by rw[uh HD];rfl
   clear HD
   go_in
   go_wp2_with fail
   refine (uh H1).mono ?_
   rintro e w' ⟨rfl,rfl⟩
   go_wp2_with fail
   refine (uh H2).mono ?_
   rintro e w2 ⟨rfl,ho,_,hc⟩
   have HO:=hide ho
   have H3:=hide (uh H3 _ w2 hc)
   clear ho hc H2
   go_wp2_with fail
   refine (uh H3).mono ?_
   rintro e w3 ⟨rfl,rfl⟩
   go_wp2_with fail
   go_ret
   exact ⟨by rw[uh HE];rfl,HO⟩
 have h80I:(80:Int)<(s.size:Int):=by omega
 have HE:Hid (placeP s=false):=by unfold Hid;rw[placeP,decide_eq_false h80];rfl
 generalize placeP s=res at*
 go_in
 go_wp2_with fail
 go_ret
 exact ⟨by rw[uh HE];rfl,Only.refl _ _⟩
abbrev sCm:ByteArray:=⟨#[99,97,99,104,101,47,109]⟩
theorem placeP_cm:placeP sCm=true:=by kernel_rfl
theorem extractBad(d:Value)(s:ByteArray)(hs:s.size≤9223372036854775807)(e:Nat)(he:e≠0)(hu:(unpP sPre s).2=e)(w:World)(hm:MaxAt w)(hord:OrdAt w):Calls Tryz.prog 14 #[d,.string sCm,.string sMod,.string sVer,.string s] w fun r w' =>r=.returned (.int .i64 e)∧Old w w' :=by
 have H1:=hide (placeA sCm (by decide) w hm)
 rw[placeP_cm] at H1
 have H2:=hide (fun W h1 h2=>vUnpackA s hs W h1 h2)
 have HM:=hide hm
 have HOR:=hide hord
 clear hm hord
 generalize unpP sPre s=res at*
 subst hu
 have heI:((res.2:Int) !=0)=true:=by rw[bne_iff_ne];omega
 have heJ:¬(res.2:Int)=0:=by omega
 go_in
 go_wp2_with fail
 refine (uh H1).mono ?_
 rintro r w1 ⟨rfl,ho1⟩
 have HO1:=hide ho1
 have H2:=hide (uh H2 w1 ((uh HM).old ho1) (OrdAt.kept (uh HOR) ho1 (fun x=>x)))
 clear ho1 H1
 go_wp2_with fail
 refine (uh H2).mono ?_
 rintro r w3 ⟨ho3,hr3⟩
 have HO3:=hide (Only.trans (uh HO1) ho3)
 clear ho3 H2
 rcases hr3 with ⟨e0,u,rfl,hf,hb⟩|⟨e1,rfl⟩
 ·exact absurd e0 he
 clear e1
 go_wp2_with fail
 go_ret
 exact ⟨rfl,HO3⟩
structure Arc (s:ByteArray) (fs:List Fl):Prop where
 size:s.size≤40000
 unp:unpP sPre s=(fs,0)
theorem extNo(d:Value)(p s:ByteArray)(hp:p.size≤1000)(hn:placeP p=false)(w:World)(hm:MaxAt w):Calls Tryz.prog 14 #[d,.string p,.string sMod,.string sVer,.string s] w fun r w' =>r=.returned (.int .i64 10)∧Old w w' :=by
 have H1:=hide (placeA p (by omega) w hm)
 rw[hn] at H1
 clear hm hn
 go_in
 go_wp2_with fail
 refine (uh H1).mono ?_
 rintro r w1 ⟨rfl,ho1⟩
 have HO1:=hide ho1
 clear ho1 H1
 go_wp2_with fail
 go_ret
 exact ⟨rfl,HO1⟩
theorem extA(d:Value)(p s:ByteArray)(fs:List Fl)(ha:Arc s fs)(hp:p.size≤1000)(hpl:placeP p=true)(w:World)(hm:MaxAt w)(hord:OrdAt w)(Q:Value→World→Prop)
 (hQ: ∀W vf,Old w W→FilesAt W vf fs→(∀k,vf.ownBlock=some k→w.heap.size≤k)→Calls Tryz.prog 34 #[d,.string p,vf] W fun e w' => ∃x,e=.returned x∧Q x w'):
 Calls Tryz.prog 14 #[d,.string p,.string sMod,.string sVer,.string s] w fun e w' => ∃x,e=.returned x∧Q x w' :=by
 have H1:=hide (placeA p (by omega) w hm)
 rw[hpl] at H1
 have H2:=hide (fun W h1 h2=>vUnpackA s (by have:=ha.size;omega) W h1 h2)
 rw[ha.unp] at H2
 have HM:=hide hm
 have HOR:=hide hord
 have HQ:=hide hQ
 clear hm hord hpl ha hQ
 go_in
 go_wp2_with fail
 refine (uh H1).mono ?_
 rintro r w1 ⟨rfl,ho1⟩
 have HO1:=hide ho1
 have H3:=hide (uh H2 w1 ((uh HM).old ho1) (OrdAt.kept (uh HOR) ho1 (fun x=>x)))
 clear ho1 H1 H2
 go_wp2_with fail
 refine (uh H3).mono ?_
 rintro r w3 ⟨ho3,hr3⟩
 rcases hr3 with ⟨_,u,rfl,hf,hb⟩|⟨e1,_⟩
 case inr=>exact absurd rfl e1
 have H4:=hide (uh HQ w3 u (Only.trans (uh HO1) ho3) hf (fun k hk=>Nat.le_trans (uh HO1).size (hb k hk)))
 clear ho3 hf hb H3 HQ
 go_wp2_with fail
 refine (uh H4).mono ?_
 rintro r w4 ⟨x,rfl,hq⟩
 have HQ4:=hide hq
 clear hq H4
 go_wp2_with fail
 go_ret
 exact ⟨x,rfl,HQ4⟩
theorem recNo(d:Value)(p:ByteArray)(hp:p.size≤1000)(hn:placeP p=false)(w:World)(hm:MaxAt w):Calls Tryz.prog 22 #[d,.string p] w fun r w' =>r=.returned (.int .i64 10)∧Old w w' :=by
 have H1:=hide (placeA p (by omega) w hm)
 rw[hn] at H1
 clear hm hn
 go_in
 go_wp2_with fail
 refine (uh H1).mono ?_
 rintro r w1 ⟨rfl,ho1⟩
 have HO1:=hide ho1
 clear ho1 H1
 go_wp2_with fail
 go_ret
 exact ⟨rfl,HO1⟩
theorem recA(d:Value)(p:ByteArray)(hp:p.size≤1000)(hpl:placeP p=true)(w:World)(hm:MaxAt w)(Q:Value→World→Prop)
 (hQ: ∀W,Old w W→Calls Tryz.prog 39 #[d,.string p] W fun e w' => ∃x,e=.returned x∧Q x w'):
 Calls Tryz.prog 22 #[d,.string p] w fun e w' => ∃x,e=.returned x∧Q x w' :=by
 have H1:=hide (placeA p (by omega) w hm)
 rw[hpl] at H1
 have HQ:=hide hQ
 clear hm hpl hQ
 go_in
 go_wp2_with fail
 refine (uh H1).mono ?_
 rintro r w1 ⟨rfl,ho1⟩
 have H4:=hide (uh HQ w1 ho1)
 clear ho1 H1 HQ
 go_wp2_with fail
 refine (uh H4).mono ?_
 rintro r w4 ⟨x,rfl,hq⟩
 have HQ4:=hide hq
 clear hq H4
 go_wp2_with fail
 go_ret
 exact ⟨x,rfl,HQ4⟩
end Go.Proofs.YtfbgamknfommpaaGreatDoor
