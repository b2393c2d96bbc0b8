import Derived.Test.YtndfmgdhiallpaaGreatDoorRf
set_option maxRecDepth 100000
set_option maxHeartbeats 16000000
namespace Go.Proofs.YtndfmgdhiallpaaGreatDoor
open Go.RowKit Go.Maps
abbrev nilV:Value:=.slice none 0 0
def ChR(T:List Ent)(w w' :World)(r:Ending):Prop:=
 (∃m k,m<T.length∧OkTo T m∧whyP (nestL T) (T.getD m ent0)=0∧cfault (cgo (nestL T) (T.take m)) (T.getD m ent0)=k∧k≠0∧r=.returned (.tuple #[nilV,nilV,.int .i64 (k:Int)]))∨
 (COk T∧ ∃v u l,r=.returned (.tuple #[v,u,.int .i64 0])∧l.Perm (cgo (nestL T) T).fs∧SrtF l∧FilesAt w' v l∧LeftsAt w' u (cgo (nestL T) T).lf∧(∀b,v.ownBlock=some b→w.heap.size≤b)∧ ∀b,u.ownBlock=some b→w.heap.size≤b)
structure DSt (w0:World) (fs:List Fl) (lf:List Lf) (i:Nat) (vf vl:Value) (w:World):Prop where
 nf:Nx w0 w vf fs
 lfa:LeftsAt w vl lf
 lfb: ∀b,vl.ownBlock=some b→w0.heap.size≤b
 few:lf.length≤i
theorem DSt.old{w0 w w' :World}{fs:List Fl}{lf:List Lf}{i:Nat}{vf vl:Value}(h:DSt w0 fs lf i vf vl w)(ho:Old w w'):DSt w0 fs lf i vf vl w' :=
 ⟨⟨h.nf.1.old ho,h.nf.2.1,h.nf.2.2.trans ho⟩,h.lfa.kept ho (fun _ _ x=>x),h.lfb,h.few⟩
theorem DSt.apart{w0 w:World}{fs:List Fl}{lf:List Lf}{i:Nat}{vf vl:Value}(h:DSt w0 fs lf i vf vl w){b:Nat}(h1:vf.ownBlock=some b)(h2:vl.ownBlock=some b):False:=by
 obtain ⟨c1,e1⟩:=ownk_heap h.nf.1 h1
 obtain ⟨c2,e2⟩:=ownk_heap h.lfa h2
 rw[e1] at e2;injection e2 with e2;injection e2 with _ e2;exact absurd e2 (by decide)
theorem DSt.leave{w0 w w' :World}{fs:List Fl}{lf:List Lf}{i:Nat}{vf vl:Value}{nm:ByteArray}{y g cap:Nat}(h:DSt w0 fs lf i vf vl w)
 (h3:w'.ownsRow 0 48 2 (.slice (some ⟨g,0,none⟩) (lf.length+1) cap) (lf.length+1) (lfCells lf++[.string nm,.int .i64 (y:Int)]))(hg:w.grownBy w' vl.ownBlock)(hl:vl.ownBlock=some g∨g=w.heap.size):
 DSt w0 fs (lf++[(nm,y)]) (i+1) vf (.slice (some ⟨g,0,none⟩) (lf.length+1) cap) w' :=by
 have ho:Only (fun k=>vl.ownBlock=some k) w w' :=(Only.refl _ w).grown hg (fun k _ e=>e)
 refine ⟨⟨h.nf.1.kept ho (fun b h1 h2=>h.apart h1 h2),h.nf.2.1,h.nf.2.2.transNew ho (fun k hk e=>absurd (h.lfb k e) (by omega))⟩, ?_,fun b e=> ?_,by rw[List.length_append];have:=h.few;simp;omega⟩
 ·show w'.ownsRow 0 48 2 _ (lf++[(nm,y)]).length (lfCells (lf++[(nm,y)]))
  rw[lfCells_app,List.length_append];exact h3
 have:g=b:=Option.some.inj (show some g=some b from e)
 subst this
 rcases hl with h4|h4
 ·exact h.lfb g h4
 rw[h4];exact h.nf.2.2.size
theorem DSt.take{w0 w w' :World}{fs gs:List Fl}{lf:List Lf}{i:Nat}{vf vl v' :Value}(h:DSt w0 fs lf i vf vl w)(hn:Nx w0 w' v' gs)(ho:Only (fun k=>vf.ownBlock=some k) w w'):DSt w0 gs lf (i+1) v' vl w' :=
 ⟨hn,h.lfa.kept ho (fun _ h1 h2=>h.apart h2 h1),h.lfb,Nat.le_succ_of_le h.few⟩
def DInv(T:List Ent)(w0:World)(i:Nat)(vf vl al:Value)(w:World):Prop:=OkTo T i∧DSt w0 (cgo (nestL T) (T.take i)).fs (cgo (nestL T) (T.take i)).lf i vf vl w∧al=.int .i64 ((cgo (nestL T) (T.take i)).all:Int)
theorem DInv.start(T:List Ent)(w:World):DInv T w 0 nilV nilV (.int .i64 0) w:=
 ⟨fun j hj=>by omega,⟨Nx.start (Only.refl _ w),World.ownsRow_nil _ _ _ _,fun b e=>(by cases e),Nat.le_refl _⟩,rfl⟩
theorem DInv.leave{T:List Ent}{w0 w' :World}{i:Nat}(hi:i<T.length)(hok:OkTo T i)(hw:whyP (nestL T) (T.getD i ent0)≠0){vf vl' :Value}
 (h:DSt w0 (cgo (nestL T) (T.take i)).fs ((cgo (nestL T) (T.take i)).lf++[((T.getD i ent0).nm,whyP (nestL T) (T.getD i ent0))]) (i+1) vf vl' w'):DInv T w0 (i+1) vf vl' (.int .i64 ((cgo (nestL T) (T.take i)).all:Int)) w' :=by
 refine ⟨fun j hj hz=> ?_, ?_, ?_⟩
 ·by_cases e:j=i
  ·subst e;exact absurd hz hw
  exact hok j (by omega) hz
 ·rw[cgo_next _ T i hi,cstep,if_neg hw];exact h
 rw[cgo_next _ T i hi,cstep,if_neg hw]
theorem DInv.take{T:List Ent}{w0 w' :World}{i:Nat}(hi:i<T.length)(hok:OkTo T i)(hw:whyP (nestL T) (T.getD i ent0)=0)(hd:dfault (cgo (nestL T) (T.take i)).fs (cgo (nestL T) (T.take i)).all (T.getD i ent0)=0){vf' vl:Value}
 (h:DSt w0 ((cgo (nestL T) (T.take i)).fs++[((T.getD i ent0).nm,(T.getD i ent0).dt)]) (cgo (nestL T) (T.take i)).lf (i+1) vf' vl w'):DInv T w0 (i+1) vf' vl (.int .i64 (((cgo (nestL T) (T.take i)).all+(T.getD i ent0).dt.size:Nat):Int)) w' :=by
 refine ⟨fun j hj hz=> ?_, ?_, ?_⟩
 ·by_cases e:j=i
  ·subst e;rw[←(good_to T j (by omega) hok).dfault];exact hd
  exact hok j (by omega) hz
 ·rw[cgo_next _ T i hi,cstep,if_pos hw];exact h
 rw[cgo_next _ T i hi,cstep,if_pos hw]
theorem ChR.fault{T:List Ent}{i:Nat}(hi:i<T.length)(hok:OkTo T i)(hw:whyP (nestL T) (T.getD i ent0)=0){k:Nat}(hd:dfault (cgo (nestL T) (T.take i)).fs (cgo (nestL T) (T.take i)).all (T.getD i ent0)=k)(hk:k≠0)(w w' :World):ChR T w w' (.returned (.tuple #[nilV,nilV,.int .i64 (k:Int)])):=
 .inl ⟨i,k,hi,hok,hw,by rw[←(good_to T i (by omega) hok).dfault];exact hd,hk,rfl⟩
theorem cgo_short(L:List ByteArray)(T:List Ent): ∀f∈(cgo L T).fs,f.1.size≤80:=by
 intro f hf
 rw[cgo_fs] at hf
 obtain ⟨e,he,rfl⟩:=List.mem_map.1 hf
 have:=(List.mem_filter.1 he).2
 exact fileP_size (whyP_file (by simpa using this))
theorem refChooseC(a:Addr)(cap:Nat)(T:List Ent)(hT:T.length≤200)(hs: ∀e∈T,e.nm.size≤2000000∧e.dt.size≤2000000)(w:World)(ht:TreeAt w a T):
 Calls Tryz.prog 114 #[.slice (some a) T.length cap] w fun r w' =>Old w w' ∧ChR T w w' r:=by
 have HS:Hid (∀i,i<T.length→(T.getD i ent0).nm.size≤2000000∧(T.getD i ent0).dt.size≤2000000):=fun i hi=>by rw[List.getD_eq_getElem?_getD,List.getElem?_eq_getElem hi];exact hs _ (List.getElem_mem hi)
 have HT:=hide ht
 have HY:Hid (∀i,i<T.length→ ∀W,TreeAt W a T→Calls Tryz.prog 198 #[.slice (some a) T.length cap,.int .i64 (i:Int)] W fun r w' =>r=.returned (.int .i64 (whyP (nestL T) (T.getD i ent0):Int))∧Old W w'):=fun i hi W h=>by
  have:=reasonC a cap T hT (fun e he=>(hs e he).1) i hi W h
  rw[whyR_eq] at this
  exact this
 have HST:=hide (DInv.start T w)
 have hTI:¬(200:Int)<(T.length:Int):=by omega
 clear ht hs
 go_in
 go_wp2_with fail
 go_loopw [5,6,7,8,9,10,11,12,13] (fun f l al x _ _ _ _ _ wr=> ∃i:Nat,i≤T.length∧x=.int .i64 i∧Hid (DInv T w i f l al wr)) (fun _ _ _ x _ _ _ _ _ _=>T.length- (intOf x).toNat)
 ·exact ⟨0,by omega,rfl,HST⟩
 obtain ⟨i,hi,rfl,HI⟩:=hrel
 clear HST
 obtain ⟨hok,hst,hal⟩:=uh HI
 subst hal
 have HOK:=hide hok
 have HD0:=hide hst
 have HG:=hide (good_to T i hi hok)
 have hfew:=(uh HG).few
 have hsm:=(uh HG).small
 have hlfl:=hst.few
 have HSH:=hide (cgo_short (nestL T) (T.take i))
 clear hok hst HI
 by_cases hil:i<T.length
 ·have hilI:(i:Int)<(T.length:Int):=by omega
  have HTW:=hide ((uh HT).old (uh HD0).nf.2.2)
  obtain ⟨h1,h2,h3⟩:=uh HTW i hil
  obtain ⟨hns,hds⟩:=uh HS i hil
  have HYW:=hide (uh HY i hil)
  have HLV:=hide (fun hw vl' w' =>DInv.leave (T:=T) (w0:=w) (w' :=w') (i:=i) (vf:=u5) (vl' :=vl') hil (uh HOK) hw)
  have HTK:=hide (fun hw hd vf' w' =>DInv.take (T:=T) (w0:=w) (w' :=w') (i:=i) (vf' :=vf') (vl:=u6) hil (uh HOK) hw hd)
  have HFT:=hide (fun hw k w' hd hk=>ChR.fault (T:=T) (i:=i) hil (uh HOK) hw (k:=k) hd hk w w')
  have HWB:Hid (whyP (nestL T) (T.getD i ent0)≤5):=by unfold Hid whyP;split<;>(try split)<;>(try split)<;>(try split)<;>(try split)<;>omega
  have HDF:Hid (dfault (cgo (nestL T) (T.take i)).fs (cgo (nestL T) (T.take i)).all (T.getD i ent0)=if (cgo (nestL T) (T.take i)).fs.any (fun f=>clR f.1 (T.getD i ent0).nm) then 5 else if (decide ((T.getD i ent0).nm≠sGo)&&decide (lowP (T.getD i ent0).nm=sGo)) then 4 else if mostP (T.getD i ent0).nm<(T.getD i ent0).dt.size then 1 else if 60<(cgo (nestL T) (T.take i)).fs.length+1 then 6 else if 16000<(cgo (nestL T) (T.take i)).all+(T.getD i ent0).dt.size then 1 else 0):=rfl
  clear HOK HG
  generalize dfault (cgo (nestL T) (T.take i)).fs (cgo (nestL T) (T.take i)).all (T.getD i ent0)=df at*
  generalize whyP (nestL T) (T.getD i ent0)=y at*
  generalize cgo (nestL T) (T.take i)=s at*
  obtain ⟨fs,tb,all,lf⟩:=s
  generalize T.getD i ent0=e at*
  obtain ⟨nm,ln,dt⟩:=e
  simp only at*
  have hA:Old wr (wr.alloc (.cells #[.string nm,.bool ln,.string dt] 39)):=(Only.refl _ wr).alloc _
  have HE:=hide (EnA.made wr nm ln dt)
  have hbx:=Go.heap_alloc_new wr (.cells #[.string nm,.bool ln,.string dt] 39)
  have HDA:=hide ((uh HD0).old hA)
  have HTA:=hide ((uh HTW).old hA)
  have HB5:Hid (∀b,u5.ownBlock=some b→b≠wr.heap.size):=fun b hb e=>by
   obtain ⟨cur,hc⟩:=ownk_heap (uh HD0).nf.1 hb
   have:=(Array.getElem?_eq_some_iff.1 hc).1
   omega
  clear hA HTW HD0
  go_wp2_with fail
  clear h1 h2 h3 hbx
  generalize wr.alloc (.cells #[.string nm,.bool ln,.string dt] 39)=W at*
  refine (uh HYW W (uh HTA)).mono ?_
  rintro r w4 ⟨rfl,ho4⟩
  have HE4:=hide ((uh HE).old ho4)
  have HD4:=hide ((uh HDA).old ho4)
  generalize wr.heap.size=ge at*
  clear HE HDA HTA HYW ho4
  by_cases hw0:y=0
  ·subst hw0
   have HTK2:=hide (uh HTK rfl)
   have HFT2:=hide (uh HFT rfl)
   clear HLV HWB HTK HFT
   obtain ⟨aof,capf,hvf⟩:=(uh HD4).nf.form
   subst hvf
   have HR4:Hid (Old w4 w4):=Only.refl _ w4
   go_wp2_with fail
   go_loopw [11,12] (fun y _ wr=> ∃k:Nat,k≤fs.length∧y=.int .i64 k∧Hid (∀j (h:j<fs.length),j<k→clR fs[j].1 nm=false)∧Hid (Old w4 wr)) (fun y _ _=>fs.length- (intOf y).toNat)
   ·exact ⟨0,by omega,rfl,fun j _ h=>by omega,HR4⟩
   clear HR4
   obtain ⟨k,hk,rfl,HB,HO⟩:=hrel
   have HEW:=hide ((uh HE4).old (uh HO))
   have HDW:=hide ((uh HD4).old (uh HO))
   by_cases hkl:k<fs.length
   ·have hklI:(k:Int)<(fs.length:Int):=by omega
    obtain ⟨gf,cu,hu,hgf,c1, -⟩:=(uh HDW).nf.1.cells (Only.refl _ wr) k hkl
    injection hu with hu1 hu2 hu3
    subst hu1 hu3
    obtain ⟨hge,c0, -, -⟩:=uh HEW
    have HC:=hide (fun W=>clashC fs[k].1 nm (Nat.le_trans (uh HSH _ (List.getElem_mem hkl)) (by omega)) hns W)
    have HB2:Hid (clR fs[k].1 nm=false→ ∀j (h:j<fs.length),j<k+1→clR fs[j].1 nm=false):=fun h j hj hjk=>by
     by_cases e:j=k
     ·subst e;exact h
     exact uh HB j hj (by omega)
    have HF5:Hid (clR fs[k].1 nm=true→df=5):=fun h=>by
     rw[uh HDF,if_pos (List.any_eq_true.2 ⟨fs[k],List.getElem_mem hkl,h⟩)]
    generalize clR fs[k].1 nm=cl at*
    generalize fs[k].1=z at*
    have HS3: ∀W W' :World,(W.cell? ⟨gf,k*2,none⟩=some (.string z)∧W.cell? ⟨ge,0,none⟩=some (.string nm)∧Old wr W)→Old W W' →(W'.cell? ⟨gf,k*2,none⟩=some (.string z)∧W'.cell? ⟨ge,0,none⟩=some (.string nm)∧Old wr W'):=fun W W' h ho=>by
     have hz:=h.2.2.size
     exact ⟨(ho.cell (p:=⟨gf,k*2,none⟩) (Nat.lt_of_lt_of_le hgf hz) (fun e=>e)).trans h.1,(ho.cell (p:=⟨ge,0,none⟩) (Nat.lt_of_lt_of_le hge hz) (fun e=>e)).trans h.2.1,h.2.2.trans ho⟩
    have HSW:wr.drew.cell? ⟨gf,k*2,none⟩=some (.string z)∧wr.drew.cell? ⟨ge,0,none⟩=some (.string nm)∧Old wr wr.drew:=⟨c1,c0,(Only.refl _ wr).drew⟩
    clear c1 c0
    go_wp2_with fail
    refine wp_region_last (S:=fun W=>W.cell? ⟨gf,k*2,none⟩=some (.string z)∧W.cell? ⟨ge,0,none⟩=some (.string nm)∧Old wr W) (L:=8) (by kernel_rfl) ?_
    refine tk 0 9 (.slice (some ⟨gf,0,none⟩) fs.length capf) 45 HSW ?_
    refine tk 1 9 (.int .i64 (k:Int)) 46 HSW ?_
    refine tk 2 9 (.pointer (some ⟨gf,k*2,none⟩)) 47 HSW ?_
    refine tk 3 9 (.pointer (some ⟨gf,k*2,none⟩)) 48 HSW ?_
    refine tk 4 9 (.string z) 49 HSW ?_
    refine tk 5 9 (.pointer (some ⟨ge,0,none⟩)) 50 HSW ?_
    refine tk 6 9 (.string nm) 51 HSW ?_
    refine wpAnyL_one (i:=7) (by kernel_rfl) ?_
    refine wpOp_step rfl (fun K' hK=> ?_)
    go_simp
    refine (uh HC _).mono ?_
    rintro r w5 ⟨rfl,ho5⟩
    have hs5:=HS3 _ _ HSW ho5
    refine hK _ _ ⟨fun _=>hs5, ?_⟩
    clear hK
    refine wpAnyL_one (i:=8) (by kernel_rfl) ?_
    refine wpOp_step rfl (fun K' hK=> ?_)
    go_simp
    refine hK _ _ ⟨fun h=>absurd rfl h, ?_⟩
    clear hK
    refine wpAnyL_done (by kernel_rfl) ?_
    have HO5:=hide ((uh HO).trans hs5.2.2)
    have HOF:Hid (Old w w5):=(uh HD4).nf.2.2.trans (uh HO5)
    clear HS3 HSW hs5 ho5 HC
    cases cl with
    |true=>
     have ha:=hide (uh HFT2 5 w5 (uh HF5 rfl) (by decide))
     clear HFT2 HTK2 HF5 HB2
     go_wp2_with fail
     go_ret3
     exact ⟨uh HOF,uh ha⟩
    |false=>
     have HB3:=hide (uh HB2 rfl)
     clear HB2 HF5
     go_wp2_with fail
     go_roundw
     ·exact ⟨k+1,by omega,by go_num,HB3,HO5⟩
     case measure=>simp[intOf];omega
   have hklI:¬(k:Int)<(fs.length:Int):=by omega
   have HNC:Hid (fs.any (fun f=>clR f.1 nm)=false):=by
    unfold Hid
    rw[List.any_eq_false]
    intro f hf
    obtain ⟨j,hj,rfl⟩:=List.getElem_of_mem hf
    rw[uh HB j hj (by omega)];decide
   have HDN:Hid (df=if (decide (nm≠sGo)&&decide (lowP nm=sGo)) then 4 else if mostP nm<dt.size then 1 else if 60<fs.length+1 then 6 else if 16000<all+dt.size then 1 else 0):=by
    unfold Hid
    rw[uh HDF,uh HNC];rfl
   obtain ⟨lg,hlg⟩: ∃lg,decide (mostP nm<dt.size)=lg:=⟨_,rfl⟩
   have HTL:=hide (fun W=>tooLargeC nm dt.size W)
   rw[hlg] at HTL
   have HLO:=hide (fun W=>lowC nm (by omega) W)
   have f1:((lowP nm).toList==[103,111,46,109,111,100])=decide (lowP nm=sGo):=eqL _ _
   have f2:(nm.toList==[103,111,46,109,111,100])=decide (nm=sGo):=eqL _ _
   obtain ⟨-,c0, -,c2⟩:=uh HEW
   have HEK:Hid (∀W',Only (fun k=>(Value.slice aof fs.length capf).ownBlock=some k) (wr.alloc (.cells #[.string nm,.string dt] 50)) W' →EnA W' ge nm ln dt):=fun W' ho=>((uh HEW).old ((Only.refl _ wr).alloc _)).kept ho (fun e=>uh HB5 ge e rfl)
   have HDT:Hid (∀W' v',Nx w W' v' (fs++[(nm,dt)])→Only (fun k=>(Value.slice aof fs.length capf).ownBlock=some k) (wr.alloc (.cells #[.string nm,.string dt] 50)) W' →DSt w (fs++[(nm,dt)]) lf (i+1) v' u6 W'):=fun W' v' hn ho=>((uh HDW).old ((Only.refl _ wr).alloc _)).take hn ho
   have hfl1:(fs++[(nm,dt)]).length=fs.length+1:=by simp
   clear HB HDF HNC HO HE4 HD4
   go_wp2_with (at_builtin;refine wpList_append_nx rfl (.tmp 54) (.tmp 60) rfl _ _ fs [(nm,dt)] rfl rfl ((uh HDW).nf.alloc _) (.inr ⟨⟨wr.heap.size,0,none⟩,1,rfl,new_cells wr [.string nm,.string dt] 50⟩) (by simp;omega) ?_;intro v5 w5 hn5 hq5;obtain ⟨ao5,cap5,hv5⟩:=hn5.form;rw[hfl1] at hv5;subst hv5;have HD5:=hide (uh HDT w5 _ hn5 hq5);have HE5:=hide (uh HEK w5 hq5);clear hn5 hq5 c0 c2;obtain ⟨-,c0, -,c2⟩:=uh HE5)
   clear hfl1 HDT HEK HEW HDW
   refine (uh HTL _).mono ?_
   rintro r wt ⟨rfl,rfl⟩
   clear HTL
   go_wp2_with fail
   refine (uh HLO _).mono ?_
   rintro r w6 ⟨rfl,ho6⟩
   have HD6:=hide ((uh HD5).old ho6)
   have HE6:=hide ((uh HE5).old ho6)
   have HO6:=hide (uh HD6).nf.2.2
   clear ho6 HLO HD5 HE5 c0 c2
   obtain ⟨-,c0, -,c2⟩:=uh HE6
   clear HE6
   generalize lowP nm=lw at*
   by_cases hlo:lw=sGo
   ·rw[decide_eq_true hlo] at f1
    by_cases hgo:nm=sGo
    ·rw[decide_eq_true hgo] at f2
     have hd:df=if mostP nm<dt.size then 1 else if 60<fs.length+1 then 6 else if 16000<all+dt.size then 1 else 0:=by
      rw[uh HDN,decide_eq_false (show ¬nm≠sGo from fun h=>h hgo)];rfl
     clear HDN hlo hgo
     cases lg with
     |true=>
      rw[if_pos (of_decide_eq_true hlg)] at hd
      have ha:=hide (uh HFT2 1 w6 hd (by decide))
      clear HFT2 HTK2 hd hlg
      go_wp2_with fail
      go_ret3
      exact ⟨uh HO6,uh ha⟩
     |false=>
      rw[if_neg (of_decide_eq_false hlg)] at hd
      clear hlg
      by_cases h60:60<fs.length+1
      ·rw[if_pos h60] at hd
       have ha:=hide (uh HFT2 6 w6 hd (by decide))
       have h60I:(60:Int)<(fs.length:Int)+1:=by omega
       clear HFT2 HTK2 hd
       go_wp2_with fail
       go_ret3
       exact ⟨uh HO6,uh ha⟩
      rw[if_neg h60] at hd
      have h60I:¬(60:Int)<(fs.length:Int)+1:=by omega
      by_cases hal:16000<all+dt.size
      ·rw[if_pos hal] at hd
       have ha:=hide (uh HFT2 1 w6 hd (by decide))
       have halI:(16000:Int)<(all:Int)+(dt.size:Int):=by omega
       clear HFT2 HTK2 hd
       go_wp2_with fail
       go_ret3
       exact ⟨uh HO6,uh ha⟩
      rw[if_neg hal] at hd
      have halI:¬(16000:Int)<(all:Int)+(dt.size:Int):=by omega
      have HR:=hide (uh HTK2 hd _ _ (uh HD6))
      clear HFT2 HTK2 hd
      go_wp2_with fail
      go_roundw
      ·exact ⟨i+1,by omega,by go_num,by rw[Int.natCast_add] at HR;exact HR⟩
      case measure=>simp[intOf];omega
    rw[decide_eq_false hgo] at f2
    have hd:df=4:=by rw[uh HDN,decide_eq_true (show nm≠sGo from hgo),decide_eq_true hlo];rfl
    have ha:=hide (uh HFT2 4 w6 hd (by decide))
    clear HFT2 HTK2 hd HDN hlo hgo hlg
    go_wp2_with fail
    go_ret3
    exact ⟨uh HO6,uh ha⟩
   rw[decide_eq_false hlo] at f1
   have hd:df=if mostP nm<dt.size then 1 else if 60<fs.length+1 then 6 else if 16000<all+dt.size then 1 else 0:=by
    rw[uh HDN,decide_eq_false hlo,Bool.and_false];rfl
   clear HDN hlo f2
   cases lg with
   |true=>
    rw[if_pos (of_decide_eq_true hlg)] at hd
    have ha:=hide (uh HFT2 1 w6 hd (by decide))
    clear HFT2 HTK2 hd hlg
    go_wp2_with fail
    go_ret3
    exact ⟨uh HO6,uh ha⟩
   |false=>
    rw[if_neg (of_decide_eq_false hlg)] at hd
    clear hlg
    by_cases h60:60<fs.length+1
    ·rw[if_pos h60] at hd
     have ha:=hide (uh HFT2 6 w6 hd (by decide))
     have h60I:(60:Int)<(fs.length:Int)+1:=by omega
     clear HFT2 HTK2 hd
     go_wp2_with fail
     go_ret3
     exact ⟨uh HO6,uh ha⟩
    rw[if_neg h60] at hd
    have h60I:¬(60:Int)<(fs.length:Int)+1:=by omega
    by_cases hal:16000<all+dt.size
    ·rw[if_pos hal] at hd
     have ha:=hide (uh HFT2 1 w6 hd (by decide))
     have halI:(16000:Int)<(all:Int)+(dt.size:Int):=by omega
     clear HFT2 HTK2 hd
     go_wp2_with fail
     go_ret3
     exact ⟨uh HO6,uh ha⟩
    rw[if_neg hal] at hd
    have halI:¬(16000:Int)<(all:Int)+(dt.size:Int):=by omega
    have HR:=hide (uh HTK2 hd _ _ (uh HD6))
    clear HFT2 HTK2 hd
    go_wp2_with fail
    go_roundw
    ·exact ⟨i+1,by omega,by go_num,by rw[Int.natCast_add] at HR;exact HR⟩
    case measure=>simp[intOf];omega
  have HLV2:=hide (uh HLV hw0)
  have hy5:y≤5:=HWB
  clear HTK HFT HLV HDF
  have hw0I:((y:Int) !=0)=true:=by rw[bne_iff_ne];omega
  have hw0J:¬(y:Int)=0:=by omega
  obtain ⟨_,h1,h2,h3⟩:=uh HE4
  obtain ⟨ao,cp,hu6⟩: ∃ao cp,u6=.slice ao lf.length cp:=by
   obtain ⟨_,⟨rfl,hz⟩|⟨b,c,cur,rfl,_⟩⟩:=(uh HD4).lfa
   ·rw[hz];exact ⟨none,0,rfl⟩
   exact ⟨_,_,rfl⟩
  subst hu6
  have HDA:=hide ((uh HD4).old ((Only.refl _ w4).alloc (.cells #[.string nm,.int .i64 (y:Int)] 48)))
  have HOW:=hide (uh HDA).lfa
  have HNW:=hide (new_cells w4 [.string nm,.int .i64 (y:Int)] 48)
  have HSZ:Hid ((w4.alloc (.cells #[.string nm,.int .i64 (y:Int)] 48)).heap.size=w4.heap.size+1):=by unfold Hid;rw[World.size_alloc]
  have HLV:=hide (fun w' g cap h1 h2 h3=>uh HLV2 (.slice (some ⟨g,0,none⟩) (lf.length+1) cap) w' ((uh HDA).leave (w' :=w') (nm:=nm) (y:=y) (g:=g) (cap:=cap) h1 h2 h3))
  rw[uh HSZ] at HLV
  obtain ⟨i0,hi0,hz0,hz1,hz2⟩:=info_parts infoL2
  clear HD4 HE4 HLV2 HDA HB5
  go_wp2_with (at_builtin;refine wpList_append_lies _ rfl (.tmp 32) (.tmp 37) 42 rfl 0 48 i0 (.agg #[.string ⟨#[]⟩,.int .i64 0]) 2 24 Tryz.underlying42 hi0 hz0 hz1 hz2 rfl (by omega) (.slice ao lf.length cp) lf.length (lfCells lf) rfl (uh HOW) ⟨w4.heap.size,0,none⟩ 1 1 [.string nm,.int .i64 (y:Int)] rfl rfl (uh HNW) (by intro u hu;simp at hu;rcases hu with rfl|rfl<;>rfl) (by omega) (by unfold maxLen;omega) (by omega) (by omega) (w4.heap.size+1) (uh HSZ) ?_;intro gb cap2 w6 ho6 hg6 hl6 hlt6;have HX:=hide (uh HLV w6 gb cap2 ho6 hg6 hl6);clear ho6 hg6 hl6 hlt6)
  go_roundw
  ·exact ⟨i+1,by omega,by go_num,HX⟩
  case measure=>simp[intOf];omega
 have hilI:¬(i:Int)<(T.length:Int):=by omega
 have hie:i=T.length:=by omega
 have HCO:Hid (COk T):=by have:=uh HOK;rw[hie] at this;exact this
 have HTL:Hid (cgo (nestL T) (T.take i)=cgo (nestL T) T):=by unfold Hid;rw[hie,List.take_length]
 have HGD:=hide (uh HG).dif
 clear hie
 have H6:=hide (sortedC u5 (cgo (nestL T) (T.take i)).fs (by omega) (uh HGD) wr (uh HD0).nf.1)
 have HFIN:Hid (∀w' v' l,Old wr w' →l.Perm (cgo (nestL T) (T.take i)).fs→SrtF l→FilesAt w' v' l→(∀b,v'.ownBlock=some b→wr.heap.size≤b)→Old w w' ∧ChR T w w' (.returned (.tuple #[v',u6,.int .i64 0]))):=fun w' v' l ho hp hso hf hb=>by
  refine ⟨(uh HD0).nf.2.2.trans ho,.inr ⟨uh HCO,v',u6,l,rfl, ?_,hso,hf, ?_,fun b e=>Nat.le_trans (uh HD0).nf.2.2.size (hb b e),(uh HD0).lfb⟩⟩
  ·rw[←uh HTL];exact hp
  rw[←uh HTL];exact (uh HD0).lfa.kept ho (fun _ _ x=>x)
 clear HOK HD0 HG HSH HTL HCO HGD HS HT HY
 generalize (cgo (nestL T) (T.take i))=s at*
 go_wp2_with fail
 refine (uh H6).mono ?_
 rintro r w6 ⟨v6,l6,rfl,ho6,hp6,hs6,hf6,hb6⟩
 have HX:=hide (uh HFIN w6 v6 l6 ho6 hp6 hs6 hf6 hb6)
 clear HFIN ho6 hp6 hs6 hf6 hb6 H6
 go_wp2_with fail
 go_ret3
 exact uh HX
def TreeV(w:World)(v:Value)(T:List Ent):Prop:=(v=.slice none 0 0∧T=[])∨ ∃a cap,v=.slice (some a) T.length cap∧TreeAt w a T
theorem TreeV.old{w w' :World}{v:Value}{T:List Ent}(h:TreeV w v T)(ho:Old w w'):TreeV w' v T:=by
 rcases h with h|⟨a,cap,e,h⟩
 ·exact .inl h
 exact .inr ⟨a,cap,e,h.old ho⟩
def ChQ(T:List Ent)(w w' :World)(r:Ending):Prop:=(T.length≤200∧ChR T w w' r)∨(200<T.length∧r=.returned (.tuple #[nilV,nilV,.int .i64 6]))
theorem okTo_or(T:List Ent): ∀n,n≤T.length→OkTo T n∨ ∃m,m<n∧OkTo T m∧whyP (nestL T) (T.getD m ent0)=0∧cfault (cgo (nestL T) (T.take m)) (T.getD m ent0)≠0
 |0,_=> .inl (fun j hj=>by omega)
 |n+1,hn=>by
  rcases okTo_or T n (by omega) with h|⟨m,h1,h2⟩
  ·rcases Classical.em (whyP (nestL T) (T.getD n ent0)=0→cfault (cgo (nestL T) (T.take n)) (T.getD n ent0)=0) with h3|h3
   ·refine .inl (fun j hj hw=> ?_)
    by_cases e:j=n
    ·subst e;exact h3 hw
    exact h j (by omega) hw
   have h4:=Classical.not_imp.1 h3
   exact .inr ⟨n,by omega,h,h4.1,h4.2⟩
  exact .inr ⟨m,by omega,h2⟩
theorem chr_nil(w w' :World):ChR [] w w' (.returned (.tuple #[nilV,nilV,.int .i64 0])):=
 .inr ⟨fun i hi=>(by cases hi),nilV,nilV,[],rfl,List.Perm.refl _,List.Pairwise.nil,World.ownsRow_nil _ _ _ _,World.ownsRow_nil _ _ _ _,fun b e=>(by cases e),fun b e=>(by cases e)⟩
theorem codeChoose(gt cap:Nat)(T:List Ent)(hs: ∀e∈T,e.nm.size≤2000000)(w:World)(hm:MaxAt w)(ht:EntsAt w gt T)(hgt:gt<w.heap.size):
 Calls Tryz.prog 25 #[.slice (some ⟨gt,0,none⟩) T.length cap] w fun r w' =>Old w w' ∧ChQ T w w' r:=by
 by_cases hT:T.length≤200
 ·rcases okTo_or T T.length (Nat.le_refl _) with h|⟨m,h1,h2,h3,h4⟩
  ·have hok:COk T:=h
   refine (chooseA gt cap T hT hs hok (cok_good hok).dif w hm ht hgt).mono ?_
   rintro r w' ⟨v,u,fs',e,ho,h5⟩
   exact ⟨ho,.inl ⟨hT,.inr ⟨hok,v,u,fs',e,h5⟩⟩⟩
  refine (chooseF gt cap T hT hs m _ h1 h2 h3 rfl h4 w hm ht hgt).mono ?_
  rintro r w' ⟨e,ho⟩
  exact ⟨ho,.inl ⟨hT,.inl ⟨m,_,h1,h2,h3,rfl,h4,e⟩⟩⟩
 refine (chooseMany gt cap T.length (by omega) w).mono ?_
 rintro r w' ⟨e,ho⟩
 exact ⟨ho,.inr ⟨by omega,e⟩⟩
theorem codeNil(w:World):Calls Tryz.prog 25 #[.slice none 0 0] w fun r w' =>Old w w' ∧ChQ [] w w' r:=by
 refine (chooseNil w).mono ?_
 rintro r w' ⟨e,ho⟩
 exact ⟨ho,.inl ⟨Nat.zero_le _,by rw[e];exact chr_nil w w'⟩⟩
theorem refMany(ao:Option Addr)(n cap:Nat)(hn:200<n)(w:World):Calls Tryz.prog 114 #[.slice ao n cap] w fun r w' =>r=.returned (.tuple #[nilV,nilV,.int .i64 6])∧w' =w:=by
 have hI:(200:Int)<(n:Int):=by omega
 go_in
 go_wp2_with fail
 go_ret3
 exact ⟨rfl,rfl⟩
theorem refNil(w:World):Calls Tryz.prog 114 #[.slice none 0 0] w fun r w' =>Old w w' ∧ChQ [] w w' r:=by
 have H6:=hide (sortedC nilV [] (by simp) List.Pairwise.nil w (World.ownsRow_nil _ _ _ _))
 have HF:Hid (∀(w' :World) (v' :Value) (l:List Fl),Old w w' →l.Perm []→SrtF l→FilesAt w' v' l→(∀b,v'.ownBlock=some b→w.heap.size≤b)→Old w w' ∧ChQ [] w w' (.returned (.tuple #[v',nilV,.int .i64 0]))):=fun w' v' l ho hp hs hf hb=>
  ⟨ho,.inl ⟨Nat.zero_le _,.inr ⟨fun i hi=>(by cases hi),v',nilV,l,rfl,hp,hs,hf,World.ownsRow_nil _ _ _ _,hb,fun b e=>(by cases e)⟩⟩⟩
 go_in
 go_wp2_with fail
 go_loopw [5,6,7,8,9,10,11,12,13] (fun f l _ x _ _ _ _ _ wr=>f=nilV∧l=nilV∧x=.int .i64 0∧wr=w) (fun _ _ _ _ _ _ _ _ _ _=>0)
 ·exact ⟨rfl,rfl,rfl,rfl⟩
 obtain ⟨rfl,rfl,rfl,rfl⟩:=hrel
 go_wp2_with fail
 refine (uh H6).mono ?_
 rintro r w6 ⟨v6,l6,rfl,ho6,hp6,hs6,hf6,hb6⟩
 have HX:=hide (uh HF w6 v6 l6 ho6 hp6 hs6 hf6 hb6)
 clear HF ho6 hp6 hs6 hf6 hb6 H6
 go_wp2_with fail
 go_ret3
 exact uh HX
theorem refChoose(v:Value)(T:List Ent)(hs: ∀e∈T,e.nm.size≤2000000∧e.dt.size≤2000000)(w:World)(ht:TreeV w v T):Calls Tryz.prog 114 #[v] w fun r w' =>Old w w' ∧ChQ T w w' r:=by
 rcases ht with ⟨rfl,rfl⟩|⟨a,cap,rfl,h⟩
 ·exact refNil w
 by_cases hT:T.length≤200
 ·refine (refChooseC a cap T hT hs w h).mono ?_
  rintro r w' ⟨ho,hr⟩
  exact ⟨ho,.inl ⟨hT,hr⟩⟩
 refine (refMany (some a) T.length cap (by omega) w).mono ?_
 rintro r w' ⟨e,rfl⟩
 exact ⟨Only.refl _ _,.inr ⟨by omega,e⟩⟩
theorem ChQ.same{T:List Ent}{w1 a w2 b:World}{r1 r2:Ending}(h1:ChQ T w1 a r1)(h2:ChQ T w2 b r2):
 ∃(k:Nat) (fs:List Fl) (lf:List Lf) (v1 u1 v2 u2:Value),r1=.returned (.tuple #[v1,u1,.int .i64 (k:Int)])∧r2=.returned (.tuple #[v2,u2,.int .i64 (k:Int)])∧FilesAt a v1 fs∧FilesAt b v2 fs∧LeftsAt a u1 lf∧LeftsAt b u2 lf∧fs.length≤60∧lf.length≤200∧(∀g,v1.ownBlock=some g→w1.heap.size≤g)∧ ∀g,u1.ownBlock=some g→w1.heap.size≤g:=by
 have hnil: ∀(k:Nat),r1=.returned (.tuple #[nilV,nilV,.int .i64 (k:Int)])→r2=.returned (.tuple #[nilV,nilV,.int .i64 (k:Int)])→_:=fun k e1 e2=>(⟨k,[],[],nilV,nilV,nilV,nilV,e1,e2,World.ownsRow_nil _ _ _ _,World.ownsRow_nil _ _ _ _,World.ownsRow_nil _ _ _ _,World.ownsRow_nil _ _ _ _,Nat.zero_le _,Nat.zero_le _,fun g e=>(by cases e),fun g e=>(by cases e)⟩: ∃(k:Nat) (fs:List Fl) (lf:List Lf) (v1 u1 v2 u2:Value),r1=.returned (.tuple #[v1,u1,.int .i64 (k:Int)])∧r2=.returned (.tuple #[v2,u2,.int .i64 (k:Int)])∧FilesAt a v1 fs∧FilesAt b v2 fs∧LeftsAt a u1 lf∧LeftsAt b u2 lf∧fs.length≤60∧lf.length≤200∧(∀g,v1.ownBlock=some g→w1.heap.size≤g)∧ ∀g,u1.ownBlock=some g→w1.heap.size≤g)
 rcases h1 with ⟨hT,h1⟩|⟨hT,e1⟩
 ·rcases h2 with ⟨-,h2⟩|⟨hT2, -⟩
  ·rcases h1 with ⟨m1,k1,a1,b1,c1,d1,f1,e1⟩|⟨ok1,v1,u1,l1,e1,p1,s1,fa1,la1,bv1,bu1⟩
   ·rcases h2 with ⟨m2,k2,a2,b2,c2,d2,f2,e2⟩|⟨ok2, -⟩
    ·have hm:m1=m2:=by
      rcases Nat.lt_trichotomy m1 m2 with h|h|h
      ·exact absurd (d1.symm.trans (b2 m1 h c1)) f1
      ·exact h
      exact absurd (d2.symm.trans (b1 m2 h c2)) f2
     subst hm
     have hk:k1=k2:=d1.symm.trans d2
     subst hk
     exact hnil k1 e1 e2
    exact absurd (d1.symm.trans (ok2 m1 a1 c1)) f1
   rcases h2 with ⟨m2,k2,a2,b2,c2,d2,f2,e2⟩|⟨ok2,v2,u2,l2,e2,p2,s2,fa2,la2,bv2,bu2⟩
   ·exact absurd (d2.symm.trans (ok1 m2 a2 c2)) f2
   have hl:l1=l2:=sorted_eq (p1.trans p2.symm) s1 s2
   subst hl
   refine ⟨0,l1,_,v1,u1,v2,u2,e1,e2,fa1,fa2,la1,la2, ?_, ?_,bv1,bu1⟩
   ·rw[p1.length_eq];exact (cok_good ok1).few
   rw[cgo_lf,List.length_map];exact Nat.le_trans (List.length_filter_le _ _) hT
  omega
 rcases h2 with ⟨hT2, -⟩|⟨-,e2⟩
 ·omega
 exact hnil 6 e1 e2
end Go.Proofs.YtndfmgdhiallpaaGreatDoor
