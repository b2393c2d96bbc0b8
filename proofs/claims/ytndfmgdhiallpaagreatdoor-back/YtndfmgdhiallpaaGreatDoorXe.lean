import Derived.Test.YtndfmgdhiallpaaGreatDoorJq
import Derived.Test.YtndfmgdhiallpaaGreatDoorJd
import Derived.Test.YtndfmgdhiallpaaGreatDoorJh
set_option maxRecDepth 100000
set_option maxHeartbeats 4000000
namespace Go.Proofs.YtndfmgdhiallpaaGreatDoor
open Go.RowKit Go.Maps
def EnA(w:World)(gt:Nat)(nm:ByteArray)(ln:Bool)(dt:ByteArray):Prop:=gt<w.heap.size∧w.cell? ⟨gt,0,none⟩=some (.string nm)∧w.cell? ⟨gt,1,none⟩=some (.bool ln)∧w.cell? ⟨gt,2,none⟩=some (.string dt)
theorem EnA.kept{S:Nat→Prop}{w w' :World}{gt:Nat}{nm:ByteArray}{ln:Bool}{dt:ByteArray}(h:EnA w gt nm ln dt)(ho:Only S w w')(hs:¬S gt):EnA w' gt nm ln dt:=by
 obtain ⟨h0,h1,h2,h3⟩:=h
 exact ⟨Nat.lt_of_lt_of_le h0 ho.size,(ho.cell (p:=⟨gt,0,none⟩) h0 hs).trans h1,(ho.cell (p:=⟨gt,1,none⟩) h0 hs).trans h2,(ho.cell (p:=⟨gt,2,none⟩) h0 hs).trans h3⟩
theorem EnA.old{w w' :World}{gt:Nat}{nm:ByteArray}{ln:Bool}{dt:ByteArray}(h:EnA w gt nm ln dt)(ho:Old w w'):EnA w' gt nm ln dt:=h.kept ho (fun x=>x)
theorem EnA.made(w:World)(nm:ByteArray)(ln:Bool)(dt:ByteArray):EnA (w.alloc (.cells #[.string nm,.bool ln,.string dt] 39)) w.heap.size nm ln dt:=
 ⟨by rw[World.size_alloc];omega,by rw[cell_of_row _ _ 0 _ _ (0,0) (Go.heap_alloc_new _ _)];rfl,by rw[cell_of_row _ _ 1 _ _ (0,0) (Go.heap_alloc_new _ _)];rfl,by rw[cell_of_row _ _ 2 _ _ (0,0) (Go.heap_alloc_new _ _)];rfl⟩
theorem ownk_kept{S:Nat→Prop}{w w' :World}{e:TypeId}{k:Nat}{v:Value}{n:Nat}{xs:List Value}(h:w.ownsRow 0 e k v n xs)(ho:Only S w w')(hs: ∀b,v.ownBlock=some b→¬S b):w'.ownsRow 0 e k v n xs:=by
 obtain ⟨hl,h|⟨b,cap,cur,hv,h1,hg,r⟩⟩:=h
 ·exact ⟨hl,.inl h⟩
 exact ⟨hl,.inr ⟨b,cap,cur,hv,h1,(ho.block b (Array.getElem?_eq_some_iff.1 hg).1 (hs b (by rw[hv];rfl))).trans hg,r⟩⟩
theorem ownk_heap{w:World}{e:TypeId}{k:Nat}{v:Value}{n:Nat}{xs:List Value}(h:w.ownsRow 0 e k v n xs){b:Nat}(hb:v.ownBlock=some b): ∃cur,w.heap[b]? =some (.cells cur e (0,0)):=by
 obtain ⟨hl,h|⟨b',cap,cur,hv,h1,hg,r⟩⟩:=h
 ·rw[h.1] at hb;cases hb
 rw[hv] at hb;injection hb with hb;subst hb;exact ⟨cur,hg⟩
theorem FilesAt.kept{S:Nat→Prop}{w w' :World}{v:Value}{fs:List Fl}(h:FilesAt w v fs)(ho:Only S w w')(hs: ∀b,v.ownBlock=some b→¬S b):FilesAt w' v fs:=ownk_kept h ho hs
theorem FilesAt.old{w w' :World}{v:Value}{fs:List Fl}(h:FilesAt w v fs)(ho:Old w w'):FilesAt w' v fs:=h.kept ho (fun _ _ x=>x)
theorem flCells_app(a b:List Fl):flCells (a++b)=flCells a++flCells b:=by simp[flCells]
def ChAt(w:World)(gc gm n:Nat)(v:Value)(fs:List Fl)(f:Tab)(all:Nat):Prop:=w.heap[gc]? =some (.cells #[v,.map (some gm),.int .i64 all] chT (0,0))∧FilesAt w v fs∧MetAt w gm n f
theorem ChAt.lt{w:World}{gc gm n:Nat}{v:Value}{fs:List Fl}{f:Tab}{all:Nat}(h:ChAt w gc gm n v fs f all):gc<w.heap.size∧gm<w.heap.size∧ ∀b,v.ownBlock=some b→b<w.heap.size:=by
 obtain ⟨h1,h2,h3⟩:=h
 refine ⟨(Array.getElem?_eq_some_iff.1 h1).1,h3.lt,fun b hb=> ?_⟩
 obtain ⟨cur,hc⟩:=ownk_heap h2 hb
 exact (Array.getElem?_eq_some_iff.1 hc).1
theorem ChAt.apart{w:World}{gc gm n:Nat}{v:Value}{fs:List Fl}{f:Tab}{all:Nat}(h:ChAt w gc gm n v fs f all):gc≠gm∧ ∀b,v.ownBlock=some b→b≠gc∧b≠gm:=by
 obtain ⟨h1,h2,D,⟨es,clock,hm,_⟩,_⟩:=h
 refine ⟨fun e=> ?_,fun b hb=> ?_⟩
 ·rw[←e,h1] at hm;cases hm
 obtain ⟨cur,hc⟩:=ownk_heap h2 hb
 refine ⟨fun e=> ?_,fun e=> ?_⟩
 ·rw[e,h1] at hc;injection hc with hc;injection hc with _ hc;exact absurd hc (by decide)
 rw[e,hm] at hc;cases hc
theorem ChAt.kept{S:Nat→Prop}{w w' :World}{gc gm n:Nat}{v:Value}{fs:List Fl}{f:Tab}{all:Nat}(h:ChAt w gc gm n v fs f all)(ho:Only S w w')(h1:¬S gc)(h2:¬S gm)(h3: ∀b,v.ownBlock=some b→¬S b):ChAt w' gc gm n v fs f all:=
 ⟨(ho.block gc h.lt.1 h1).trans h.1,h.2.1.kept ho h3,h.2.2.kept ho h2⟩
theorem ChAt.old{w w' :World}{gc gm n:Nat}{v:Value}{fs:List Fl}{f:Tab}{all:Nat}(h:ChAt w gc gm n v fs f all)(ho:Old w w'):ChAt w' gc gm n v fs f all:=h.kept ho (fun x=>x) (fun x=>x) (fun _ _ x=>x)
theorem takeA(nm dt:ByteArray)(ln:Bool)(gc gm n:Nat)(v:Value)(fs:List Fl)(f:Tab)(all:Nat)(hnm:nm.size≤1000)(hcl:clashP f nm=false)(hot:(decide (nm≠sGo)&&decide (lowP nm=sGo))=false)(hmo:dt.size≤mostP nm)(hfe:fs.length<60)(hal:all+dt.size≤16000)(hn:n≤1000000)(w:World)(hch:ChAt w gc gm n v fs f all):
 Calls Tryz.prog 81 #[.pointer (some ⟨gc,0,none⟩),.agg #[.string nm,.bool ln,.string dt]] w fun r w' =>r=.returned (.int .i64 0)∧ ∃v',ChAt w' gc gm (n+1001) v' (fs++[(nm,dt)]) (addP f nm) (all+dt.size)∧Only (fun k=>k=gc∨k=gm∨v.ownBlock=some k) w w' ∧ ∀b,v'.ownBlock=some b→v.ownBlock=some b∨w.heap.size≤b:=by
 obtain ⟨hgc,hgm,hvb⟩:=hch.lt
 obtain ⟨hne,hva⟩:=hch.apart
 have HVB:=hide hvb
 have HVA:=hide hva
 obtain ⟨ao,cap,rfl⟩: ∃ao cap,v=.slice ao fs.length cap:=by
  obtain ⟨_,hF,_⟩:=hch
  obtain ⟨_,⟨rfl,hz⟩|⟨b,c,cur,rfl,_⟩⟩:=hF
  ·rw[hz];exact ⟨none,0,rfl⟩
  exact ⟨_,_,rfl⟩
 have hA:Old w (w.alloc (.cells #[.string nm,.bool ln,.string dt] 39)):=(Only.refl _ w).alloc _
 have HE:=hide (EnA.made w nm ln dt)
 have HCH:=hide (hch.old hA)
 have HO:=hide hA
 have HMO:Hid (¬((mostP nm:Nat):Int)<(dt.size:Int)):=by unfold Hid;omega
 have H4:=hide (fun W=>mostA nm W)
 have H1:=hide (fun W h=>clashesA nm hnm gm n f W h)
 have H2:=hide (fun W=>otherA nm (by omega) W)
 have H3:=hide (fun W h=>addA nm hnm gm n hn f W h)
 rw[hcl] at H1
 rw[hot] at H2
 have hdz:dt.size≤16000:=by omega
 generalize mostP nm=M at*
 generalize addP f nm=f2 at*
 clear hA hch hvb hva hcl hot hmo
 go_in
 go_upto_region 2 with fail
 generalize w.alloc (.cells #[.string nm,.bool ln,.string dt] 39)=W at*
 have hc1:W.cell? ⟨gc,1,none⟩=some (.map (some gm)):=by rw[cell_of_row W gc 1 _ _ (0,0) (uh HCH).1];rfl
 have HSW:W.drew.cell? ⟨gc,1,none⟩=some (.map (some gm))∧W.drew.cell? ⟨w.heap.size,0,none⟩=some (.string nm)∧True:=⟨hc1,(uh HE).2.1,trivial⟩
 have H1:=hide (uh H1 W.drew (uh HCH).2.2)
 refine wp_region_last (S:=fun W=>W.cell? ⟨gc,1,none⟩=some (.map (some gm))∧W.cell? ⟨w.heap.size,0,none⟩=some (.string nm)∧True) (L:=7) (by kernel_rfl) ?_
 refine tk 0 8 (.pointer (some ⟨gc,0,none⟩)) 10 HSW ?_
 refine tk 1 8 (.pointer (some ⟨gc,0,none⟩)) 11 HSW ?_
 refine tk 2 8 (.pointer (some ⟨gc,1,none⟩)) 12 HSW ?_
 refine tk 3 8 (.map (some gm)) 13 HSW ?_
 refine tk 4 8 (.pointer (some ⟨w.heap.size,0,none⟩)) 14 HSW ?_
 refine tk 5 8 (.string nm) 15 HSW ?_
 refine wpAnyL_one (i:=6) (by kernel_rfl) ?_
 refine wpOp_step rfl (fun K' hK=> ?_)
 go_simp
 refine (uh H1).mono ?_
 rintro r w1 ⟨rfl,ho1⟩
 have ho1' :Old W w1:=((Only.refl _ W).drew).trans ho1
 have HE1:=hide ((uh HE).old ho1')
 have HC1:=hide ((uh HCH).old ho1')
 have HO1:=hide (Only.trans (uh HO) ho1')
 have hc11:w1.cell? ⟨gc,1,none⟩=some (.map (some gm)):=by rw[cell_of_row w1 gc 1 _ _ (0,0) (uh HC1).1];rfl
 refine hK _ _ ⟨fun _=>⟨hc11,(uh HE1).2.1,trivial⟩, ?_⟩
 clear hK H1 ho1 ho1' HSW HE HCH HO
 refine wpAnyL_one (i:=7) (by kernel_rfl) ?_
 refine wpOp_step rfl (fun K' hK=> ?_)
 go_simp
 refine hK _ _ ⟨fun h=>absurd rfl h, ?_⟩
 clear hK
 refine wpAnyL_done (by kernel_rfl) ?_
 have hn1:=(uh HE1).2.1
 go_wp2_with fail
 refine (uh H2 w1).mono ?_
 rintro r w2 ⟨rfl,ho2⟩
 have HE2:=hide ((uh HE1).old ho2)
 have HC2:=hide ((uh HC1).old ho2)
 have HO2:=hide (Only.trans (uh HO1) ho2)
 have hn2:=(uh HE2).2.1
 have hd2:=(uh HE2).2.2.2
 have hc20:w2.cell? ⟨gc,0,none⟩=some (Value.slice ao fs.length cap):=by rw[cell_of_row w2 gc 0 _ _ (0,0) (uh HC2).1];rfl
 have hc21:w2.cell? ⟨gc,1,none⟩=some (.map (some gm)):=by rw[cell_of_row w2 gc 1 _ _ (0,0) (uh HC2).1];rfl
 have hc22:w2.cell? ⟨gc,2,none⟩=some (.int .i64 (all:Int)):=by rw[cell_of_row w2 gc 2 _ _ (0,0) (uh HC2).1];rfl
 clear H2 ho2 HE1 HC1 HO1 hn1 hc11 hc1
 have hfeI:¬(fs.length:Int)=60:=by omega
 have halI:¬(16000:Int)- (all:Int)<(dt.size:Int):=by omega
 have hal2:all≤16000:=by omega
 have hmoI:=uh HMO
 go_wp2_with fail
 refine (uh H4 _).mono ?_
 rintro r w3 ⟨rfl,rfl⟩
 go_upto_region 12 with fail
 have HSW:w3.drew.cell? ⟨gc,1,none⟩=some (.map (some gm))∧w3.drew.cell? ⟨w.heap.size,0,none⟩=some (.string nm)∧True:=⟨hc21,hn2,trivial⟩
 have H3:=hide (uh H3 w3.drew (uh HC2).2.2)
 refine wp_region_last (S:=fun W=>W.cell? ⟨gc,1,none⟩=some (.map (some gm))∧W.cell? ⟨w.heap.size,0,none⟩=some (.string nm)∧True) (L:=6) (by kernel_rfl) ?_
 refine tk 0 7 (.pointer (some ⟨gc,0,none⟩)) 42 HSW ?_
 refine tk 1 7 (.pointer (some ⟨gc,0,none⟩)) 43 HSW ?_
 refine tk 2 7 (.pointer (some ⟨gc,1,none⟩)) 44 HSW ?_
 refine tk 3 7 (.map (some gm)) 45 HSW ?_
 refine tk 4 7 (.pointer (some ⟨w.heap.size,0,none⟩)) 46 HSW ?_
 refine tk 5 7 (.string nm) 47 HSW ?_
 refine wpAnyL_one (i:=6) (by kernel_rfl) ?_
 refine wpOp_step rfl (fun K' hK=> ?_)
 go_simp
 refine (uh H3).mono ?_
 rintro r w4 ⟨rfl,ho4,hmet⟩
 have ho4' :Only (fun k=>k=gm) w3 w4:=((Only.refl _ w3).drew).trans ho4
 refine hK _ _ ⟨fun h=>absurd rfl h, ?_⟩
 clear hK
 refine wpAnyL_done (by kernel_rfl) ?_
 have hneE:w.heap.size≠gm:=by omega
 have HE4:=hide ((uh HE2).kept ho4' hneE)
 have HC4:Hid (ChAt w4 gc gm (n+1001) (Value.slice ao fs.length cap) fs f2 all):=⟨(ho4'.block gc (uh HC2).lt.1 hne).trans (uh HC2).1,(uh HC2).2.1.kept ho4' (fun b hb=>(uh HVA b hb).2),hmet⟩
 have HO4:Hid (Only (fun k=>k=gc∨k=gm∨(Value.slice ao fs.length cap).ownBlock=some k) w w4):=(Only.oldS (uh HO2)).transNew ho4' (fun _ _ h=> .inr (.inl h))
 clear H3 ho4 ho4' HSW HE2 HC2 HO2 hn2 hd2 hc20 hc21 hc22 hmet
 have hc42:w4.cell? ⟨gc,2,none⟩=some (.int .i64 (all:Int)):=by rw[cell_of_row w4 gc 2 _ _ (0,0) (uh HC4).1];rfl
 have hf42:w4.frozen? ⟨gc,2,none⟩=false:=frozen_of_row w4 gc 2 _ _ (uh HC4).1
 have HSW:w4.drew.cell? ⟨gc,2,none⟩=some (.int .i64 (all:Int))∧w4.drew.cell? ⟨w.heap.size,2,none⟩=some (.string dt)∧True:=⟨hc42,(uh HE4).2.2.2,trivial⟩
 obtain ⟨N,hN⟩: ∃N,all+dt.size=N:=⟨_,rfl⟩
 have hwr1:IntKind.i64.wrap ((all:Int)+(dt.size:Int))=(N:Int):=by rw[show (all:Int)+(dt.size:Int)=(N:Int) by omega];exact i64_wrap_nat N (by omega)
 go_upto_region 13 with fail
 refine wp_region_last (S:=fun W=>W.cell? ⟨gc,2,none⟩=some (.int .i64 (all:Int))∧W.cell? ⟨w.heap.size,2,none⟩=some (.string dt)∧True) (L:=10) (by kernel_rfl) ?_
 refine tk 0 11 (.pointer (some ⟨gc,0,none⟩)) 49 HSW ?_
 refine tk 1 11 (.pointer (some ⟨gc,0,none⟩)) 50 HSW ?_
 refine tk 2 11 (.pointer (some ⟨gc,2,none⟩)) 51 HSW ?_
 refine tk 3 11 (.int .i64 (all:Int)) 52 HSW ?_
 refine tk 4 11 (.pointer (some ⟨w.heap.size,2,none⟩)) 53 HSW ?_
 refine tk 5 11 (.string dt) 54 HSW ?_
 refine tk 6 11 (.int .i64 (dt.size:Int)) 55 HSW ?_
 refine tk 7 11 (.int .i64 (N:Int)) 56 HSW ?_
 refine tk 8 11 (.pointer (some ⟨gc,0,none⟩)) 57 HSW ?_
 refine tk 9 11 (.pointer (some ⟨gc,2,none⟩)) 58 HSW ?_
 refine wpAnyL_one (i:=10) (by kernel_rfl) ?_
 refine wpOp_step rfl (fun K' hK=> ?_)
 go_simp
 refine hK _ _ ⟨fun h=>absurd rfl h, ?_⟩
 clear hK
 refine wpAnyL_done (by kernel_rfl) ?_
 have ho5:Only (fun k=>k=gc) w4 (w4.setCell ⟨gc,2,none⟩ (.int .i64 (N:Int))).drew:=(only_set w4 gc 2 _).drew
 have HC5:Hid (ChAt (w4.setCell ⟨gc,2,none⟩ (.int .i64 (N:Int))).drew gc gm (n+1001) (Value.slice ao fs.length cap) fs f2 N):=⟨heap_setCell_same w4 gc 2 _ _ _ (uh HC4).1,(uh HC4).2.1.kept ho5 (fun b hb=>(uh HVA b hb).1),(uh HC4).2.2.kept ho5 (fun h=>hne h.symm)⟩
 have HE5:=hide ((uh HE4).kept ho5 (by omega))
 have HO5:Hid (Only (fun k=>k=gc∨k=gm∨(Value.slice ao fs.length cap).ownBlock=some k) w (w4.setCell ⟨gc,2,none⟩ (.int .i64 (N:Int))).drew):=(uh HO4).transNew ho5 (fun _ _ h=> .inl h)
 clear HSW HC4 HE4 HO4 hc42 hf42 ho5 hwr1
 generalize (w4.setCell ⟨gc,2,none⟩ (.int .i64 (N:Int))).drew=w5 at*
 have hc50:w5.cell? ⟨gc,0,none⟩=some (Value.slice ao fs.length cap):=by rw[cell_of_row w5 gc 0 _ _ (0,0) (uh HC5).1];rfl
 have HSW:w5.drew.cell? ⟨gc,0,none⟩=some (Value.slice ao fs.length cap)∧w5.drew.cell? ⟨w.heap.size,0,none⟩=some (.string nm)∧w5.drew.cell? ⟨w.heap.size,2,none⟩=some (.string dt):=⟨hc50,(uh HE5).2.1,(uh HE5).2.2.2⟩
 go_upto_region 14 with fail
 refine wp_region_last (S:=fun W=>W.cell? ⟨gc,0,none⟩=some (Value.slice ao fs.length cap)∧W.cell? ⟨w.heap.size,0,none⟩=some (.string nm)∧W.cell? ⟨w.heap.size,2,none⟩=some (.string dt)) (L:=16) (by kernel_rfl) ?_
 refine tk 0 17 (.pointer (some ⟨gc,0,none⟩)) 59 HSW ?_
 refine tk 1 17 (.pointer (some ⟨gc,0,none⟩)) 60 HSW ?_
 refine tk 2 17 (.pointer (some ⟨gc,0,none⟩)) 61 HSW ?_
 refine tk 3 17 (.pointer (some ⟨gc,0,none⟩)) 62 HSW ?_
 refine tk 4 17 ((Value.slice ao fs.length cap)) 63 HSW ?_
 refine tk 5 17 (.pointer (some ⟨w.heap.size,0,none⟩)) 64 HSW ?_
 refine tk 6 17 (.string nm) 65 HSW ?_
 refine tk 8 17 (.pointer (some ⟨w.heap.size,2,none⟩)) 67 HSW ?_
 refine tk 9 17 (.string dt) 68 HSW ?_
 refine wpAnyL_one (i:=7) (by kernel_rfl) ?_
 refine wpOp_step rfl (fun K' hK=> ?_)
 go_simp
 refine (cloneX nm (by omega) _).mono ?_
 rintro r w6 ⟨rfl,ho6⟩
 have ho6' :Old w5 w6:=((Only.refl _ w5).drew).trans ho6
 have HE6:=hide ((uh HE5).old ho6')
 have HC6:=hide ((uh HC5).old ho6')
 have HO6:Hid (Only (fun k=>k=gc∨k=gm∨(Value.slice ao fs.length cap).ownBlock=some k) w w6):=(uh HO5).trans (Only.oldS ho6')
 have hs6:w6.cell? ⟨gc,0,none⟩=some (Value.slice ao fs.length cap)∧w6.cell? ⟨w.heap.size,0,none⟩=some (.string nm)∧w6.cell? ⟨w.heap.size,2,none⟩=some (.string dt):=⟨by rw[cell_of_row w6 gc 0 _ _ (0,0) (uh HC6).1];rfl,(uh HE6).2.1,(uh HE6).2.2.2⟩
 refine hK _ _ ⟨fun _=>hs6, ?_⟩
 clear hK HSW ho6 ho6' HE5 HC5 HO5 hc50 hs6
 refine wpAnyL_one (i:=10) (by kernel_rfl) ?_
 refine wpOp_step rfl (fun K' hK=> ?_)
 go_simp
 refine (cloneX dt (by omega) _).mono ?_
 rintro r w7 ⟨rfl,ho7⟩
 have HE7:=hide ((uh HE6).old ho7)
 have HC7:=hide ((uh HC6).old ho7)
 have HO7:Hid (Only (fun k=>k=gc∨k=gm∨(Value.slice ao fs.length cap).ownBlock=some k) w w7):=(uh HO6).trans (Only.oldS ho7)
 have HSW:w7.cell? ⟨gc,0,none⟩=some (Value.slice ao fs.length cap)∧w7.cell? ⟨w.heap.size,0,none⟩=some (.string nm)∧w7.cell? ⟨w.heap.size,2,none⟩=some (.string dt):=⟨by rw[cell_of_row w7 gc 0 _ _ (0,0) (uh HC7).1];rfl,(uh HE7).2.1,(uh HE7).2.2.2⟩
 refine hK _ _ ⟨fun _=>HSW, ?_⟩
 clear hK ho7 HE6 HC6 HO6
 refine tk 11 17 (.agg #[.string nm,.string dt]) 70 HSW ?_
 refine wpAnyL_one (i:=12) (by kernel_rfl) ?_
 refine wpOp_step rfl (fun K' hK=> ?_)
 go_simp
 have hA8:Old w7 (w7.alloc (.cells #[.string nm,.string dt] 50)):=(Only.refl _ w7).alloc _
 have HNW:=hide (new_cells w7 [.string nm,.string dt] 50)
 have HE8:=hide ((uh HE7).old hA8)
 have HC8:=hide ((uh HC7).old hA8)
 have HO8:Hid (Only (fun k=>k=gc∨k=gm∨(Value.slice ao fs.length cap).ownBlock=some k) w (w7.alloc (.cells #[.string nm,.string dt] 50))):=(uh HO7).trans (Only.oldS hA8)
 have HSZ:Hid ((w7.alloc (.cells #[.string nm,.string dt] 50)).heap.size=w7.heap.size+1):=by unfold Hid;rw[World.size_alloc]
 have hs8:(w7.alloc (.cells #[.string nm,.string dt] 50)).cell? ⟨gc,0,none⟩=some (Value.slice ao fs.length cap)∧(w7.alloc (.cells #[.string nm,.string dt] 50)).cell? ⟨w.heap.size,0,none⟩=some (.string nm)∧(w7.alloc (.cells #[.string nm,.string dt] 50)).cell? ⟨w.heap.size,2,none⟩=some (.string dt):=⟨by rw[cell_of_row _ gc 0 _ _ (0,0) (uh HC8).1];rfl,(uh HE8).2.1,(uh HE8).2.2.2⟩
 refine hK _ _ ⟨fun _=>hs8, ?_⟩
 clear hK HSW hA8 hs8 HE7 HC7 HO7
 obtain ⟨i0,hi0,hz0,hz1,hz2⟩:=info_parts infoF2
 have HOW:=hide (uh HC8).2.1
 refine wpAnyL_one (i:=13) (by kernel_rfl) ?_
 refine op_plain rfl rfl (wp_append_lies _ (.tmp 63) (.tmp 71) 41 rfl 0 50 i0 (.agg #[.string ⟨#[]⟩,.string ⟨#[]⟩]) 2 32 Tryz.underlying41 hi0 hz0 hz1 hz2 rfl (by omega) (Value.slice ao fs.length cap) fs.length (flCells fs) rfl (uh HOW) ⟨w7.heap.size,0,none⟩ 1 1 [.string nm,.string dt] rfl rfl (uh HNW) (by intro u hu;simp at hu;rcases hu with rfl|rfl<;>rfl) (by omega) (by unfold maxLen;omega) (by omega) (by omega) (w7.heap.size+1) (uh HSZ) ?_)
 intro gb cap2 w9 ho9 hg9 hl9 hlt9
 have ho89:Only (fun k=>(Value.slice ao fs.length cap).ownBlock=some k) (w7.alloc (.cells #[.string nm,.string dt] 50)) w9:=(Only.refl _ _).grown hg9 (fun k _ e=>e)
 have HNEB:Hid (∀b,(Value.slice ao fs.length cap).ownBlock=some b→b≠w.heap.size):=fun b hb e=>by have:=uh HVB b hb;omega
 have HE9:=hide ((uh HE8).kept ho89 (fun e=>uh HNEB _ e rfl))
 have HC9:Hid (w9.heap[gc]? =some (.cells #[(Value.slice ao fs.length cap),.map (some gm),.int .i64 N] chT (0,0))):=(ho89.block gc (uh HC8).lt.1 (fun e=>(uh HVA gc e).1 rfl)).trans (uh HC8).1
 have HM9:=hide ((uh HC8).2.2.kept ho89 (fun e=>(uh HVA gm e).2 rfl))
 have HO9:Hid (Only (fun k=>k=gc∨k=gm∨(Value.slice ao fs.length cap).ownBlock=some k) w w9):=(uh HO8).transNew ho89 (fun _ _ h=> .inr (.inr h))
 have HOW9:=hide ho9
 have HGB:Hid (gb≠gc∧gb≠gm∧((Value.slice ao fs.length cap).ownBlock=some gb∨w.heap.size≤gb)):=by
  unfold Hid
  rcases hl9 with h|h
  ·exact ⟨(uh HVA gb h).1,(uh HVA gb h).2,.inl h⟩
  have h1:=(uh HC8).lt
  have h2:=uh HSZ
  have h3:=(uh HO8).size
  exact ⟨by omega,by omega,.inr (by omega)⟩
 have HSW:w9.cell? ⟨gc,0,none⟩=some (Value.slice ao fs.length cap)∧w9.cell? ⟨w.heap.size,0,none⟩=some (.string nm)∧w9.cell? ⟨w.heap.size,2,none⟩=some (.string dt):=⟨by rw[cell_of_row w9 gc 0 _ _ (0,0) (uh HC9)];rfl,(uh HE9).2.1,(uh HE9).2.2.2⟩
 have hf9:w9.frozen? ⟨gc,0,none⟩=false:=frozen_of_row w9 gc 0 _ _ (uh HC9)
 refine ⟨fun _=>HSW, ?_⟩
 simp only[Act.put,List.getElem_toArray,List.getElem_cons_succ,List.getElem_cons_zero,List.setIfInBounds_toArray,List.set_cons_zero,List.set_cons_succ]
 clear ho89 ho9 hg9 hl9 hlt9 HE8 HC8 HO8 HNW HSZ HOW
 refine tk 14 17 (.pointer (some ⟨gc,0,none⟩)) 73 HSW ?_
 refine tk 15 17 (.pointer (some ⟨gc,0,none⟩)) 74 HSW ?_
 refine wpAnyL_one (i:=16) (by kernel_rfl) ?_
 refine wpOp_step rfl (fun K' hK=> ?_)
 have hc90:=HSW.1
 go_simp
 refine hK _ _ ⟨fun h=>absurd rfl h, ?_⟩
 clear hK
 refine wpAnyL_done (by kernel_rfl) ?_
 go_wp2_with fail
 go_ret
 obtain ⟨hb1,hb2,hb3⟩:=uh HGB
 have hos:Only (fun k=>k=gc) w9 (w9.setCell ⟨gc,0,none⟩ (.slice (some ⟨gb,0,none⟩) (fs.length+1) cap2)):=only_set w9 gc 0 _
 refine ⟨rfl,.slice (some ⟨gb,0,none⟩) (fs.length+1) cap2,⟨?_, ?_,(uh HM9).kept hos (fun h=>hne h.symm)⟩,(uh HO9).transNew hos (fun _ _ h=> .inl h),fun b hb=> ?_⟩
 ·rw[hN];exact heap_setCell_same w9 gc 0 _ _ _ (uh HC9)
 ·have h1:w9.ownsRow 0 50 2 (.slice (some ⟨gb,0,none⟩) (fs.length+1) cap2) (fs++[(nm,dt)]).length (flCells (fs++[(nm,dt)])):=by
   rw[flCells_app,List.length_append];exact uh HOW9
  exact ownk_kept h1 hos (fun b hb e=>hb1 ((Option.some.inj (show some gb=some b from hb)).trans e))
 have:gb=b:=Option.some.inj (show some gb=some b from hb)
 subst this;exact hb3
end Go.Proofs.YtndfmgdhiallpaaGreatDoor
