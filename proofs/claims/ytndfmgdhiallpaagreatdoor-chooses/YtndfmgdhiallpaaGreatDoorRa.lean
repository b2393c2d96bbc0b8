import Derived.Test.YtndfmgdhiallpaaGreatDoorJr
set_option maxRecDepth 100000
set_option maxHeartbeats 4000000
namespace Go.Proofs.YtndfmgdhiallpaaGreatDoor
open Go.RowKit Go.Maps
theorem takeF1(nm dt:ByteArray)(ln:Bool)(gc gm n:Nat)(v:Value)(fs:List Fl)(f:Tab)(all:Nat)(hnm:nm.size≤1000)(hcl:clashP f nm=true)(w:World)(hch:ChAt w gc gm n v fs f all):
 Calls Tryz.prog 81 #[.pointer (some ⟨gc,0,none⟩),.agg #[.string nm,.bool ln,.string dt]] w fun r w' =>r=.returned (.int .i64 5)∧Old w w' :=by
 obtain ⟨hgc,hgm,hvb⟩:=hch.lt
 obtain ⟨ao,cap,rfl⟩: ∃ao cap,v=.slice ao fs.length cap:=by
  obtain ⟨_,hF,_⟩:=hch
  obtain ⟨_,⟨rfl,hz⟩|⟨b,c,cur,rfl,_⟩⟩:=hF
  ·rw[hz];exact ⟨none,0,rfl⟩
  exact ⟨_,_,rfl⟩
 have hA:Old w (w.alloc (.cells #[.string nm,.bool ln,.string dt] 39)):=(Only.refl _ w).alloc _
 have HE:=hide (EnA.made w nm ln dt)
 have HCH:=hide (hch.old hA)
 have HO:=hide hA
 have H1:=hide (fun W h=>clashesA nm hnm gm n f W h)
 rw[hcl] at H1
 clear hA hch hvb
 go_in
 go_upto_region 2 with fail
 generalize w.alloc (.cells #[.string nm,.bool ln,.string dt] 39)=W at*
 have hc1:W.cell? ⟨gc,1,none⟩=some (.map (some gm)):=by rw[cell_of_row W gc 1 _ _ (0,0) (uh HCH).1];rfl
 have HSW:W.drew.cell? ⟨gc,1,none⟩=some (.map (some gm))∧W.drew.cell? ⟨w.heap.size,0,none⟩=some (.string nm)∧True:=⟨hc1,(uh HE).2.1,trivial⟩
 have H1:=hide (uh H1 W.drew (uh HCH).2.2)
 refine wp_region_last (S:=fun W=>W.cell? ⟨gc,1,none⟩=some (.map (some gm))∧W.cell? ⟨w.heap.size,0,none⟩=some (.string nm)∧True) (L:=7) (by kernel_rfl) ?_
 refine tk 0 8 (.pointer (some ⟨gc,0,none⟩)) 10 HSW ?_
 refine tk 1 8 (.pointer (some ⟨gc,0,none⟩)) 11 HSW ?_
 refine tk 2 8 (.pointer (some ⟨gc,1,none⟩)) 12 HSW ?_
 refine tk 3 8 (.map (some gm)) 13 HSW ?_
 refine tk 4 8 (.pointer (some ⟨w.heap.size,0,none⟩)) 14 HSW ?_
 refine tk 5 8 (.string nm) 15 HSW ?_
 refine wpAnyL_one (i:=6) (by kernel_rfl) ?_
 refine wpOp_step rfl (fun K' hK=> ?_)
 go_simp
 refine (uh H1).mono ?_
 rintro r w1 ⟨rfl,ho1⟩
 have ho1' :Old W w1:=((Only.refl _ W).drew).trans ho1
 have HE1:=hide ((uh HE).old ho1')
 have HC1:=hide ((uh HCH).old ho1')
 have HO1:=hide (Only.trans (uh HO) ho1')
 have hc11:w1.cell? ⟨gc,1,none⟩=some (.map (some gm)):=by rw[cell_of_row w1 gc 1 _ _ (0,0) (uh HC1).1];rfl
 refine hK _ _ ⟨fun _=>⟨hc11,(uh HE1).2.1,trivial⟩, ?_⟩
 clear hK H1 ho1 ho1' HSW HE HCH HO
 refine wpAnyL_one (i:=7) (by kernel_rfl) ?_
 refine wpOp_step rfl (fun K' hK=> ?_)
 go_simp
 refine hK _ _ ⟨fun h=>absurd rfl h, ?_⟩
 clear hK
 refine wpAnyL_done (by kernel_rfl) ?_
 have hn1:=(uh HE1).2.1
 go_wp2_with fail
 go_ret
 exact ⟨rfl,uh HO1⟩
theorem takeF2(nm dt:ByteArray)(ln:Bool)(gc gm n:Nat)(v:Value)(fs:List Fl)(f:Tab)(all:Nat)(hnm:nm.size≤1000)(hcl:clashP f nm=false)(hot:(decide (nm≠sGo)&&decide (lowP nm=sGo))=true)(w:World)(hch:ChAt w gc gm n v fs f all):
 Calls Tryz.prog 81 #[.pointer (some ⟨gc,0,none⟩),.agg #[.string nm,.bool ln,.string dt]] w fun r w' =>r=.returned (.int .i64 4)∧Old w w' :=by
 obtain ⟨hgc,hgm,hvb⟩:=hch.lt
 obtain ⟨ao,cap,rfl⟩: ∃ao cap,v=.slice ao fs.length cap:=by
  obtain ⟨_,hF,_⟩:=hch
  obtain ⟨_,⟨rfl,hz⟩|⟨b,c,cur,rfl,_⟩⟩:=hF
  ·rw[hz];exact ⟨none,0,rfl⟩
  exact ⟨_,_,rfl⟩
 have hA:Old w (w.alloc (.cells #[.string nm,.bool ln,.string dt] 39)):=(Only.refl _ w).alloc _
 have HE:=hide (EnA.made w nm ln dt)
 have HCH:=hide (hch.old hA)
 have HO:=hide hA
 have H1:=hide (fun W h=>clashesA nm hnm gm n f W h)
 rw[hcl] at H1
 have H2:=hide (fun W=>otherA nm (by omega) W)
 rw[hot] at H2
 clear hA hch hvb
 go_in
 go_upto_region 2 with fail
 generalize w.alloc (.cells #[.string nm,.bool ln,.string dt] 39)=W at*
 have hc1:W.cell? ⟨gc,1,none⟩=some (.map (some gm)):=by rw[cell_of_row W gc 1 _ _ (0,0) (uh HCH).1];rfl
 have HSW:W.drew.cell? ⟨gc,1,none⟩=some (.map (some gm))∧W.drew.cell? ⟨w.heap.size,0,none⟩=some (.string nm)∧True:=⟨hc1,(uh HE).2.1,trivial⟩
 have H1:=hide (uh H1 W.drew (uh HCH).2.2)
 refine wp_region_last (S:=fun W=>W.cell? ⟨gc,1,none⟩=some (.map (some gm))∧W.cell? ⟨w.heap.size,0,none⟩=some (.string nm)∧True) (L:=7) (by kernel_rfl) ?_
 refine tk 0 8 (.pointer (some ⟨gc,0,none⟩)) 10 HSW ?_
 refine tk 1 8 (.pointer (some ⟨gc,0,none⟩)) 11 HSW ?_
 refine tk 2 8 (.pointer (some ⟨gc,1,none⟩)) 12 HSW ?_
 refine tk 3 8 (.map (some gm)) 13 HSW ?_
 refine tk 4 8 (.pointer (some ⟨w.heap.size,0,none⟩)) 14 HSW ?_
 refine tk 5 8 (.string nm) 15 HSW ?_
 refine wpAnyL_one (i:=6) (by kernel_rfl) ?_
 refine wpOp_step rfl (fun K' hK=> ?_)
 go_simp
 refine (uh H1).mono ?_
 rintro r w1 ⟨rfl,ho1⟩
 have ho1' :Old W w1:=((Only.refl _ W).drew).trans ho1
 have HE1:=hide ((uh HE).old ho1')
 have HC1:=hide ((uh HCH).old ho1')
 have HO1:=hide (Only.trans (uh HO) ho1')
 have hc11:w1.cell? ⟨gc,1,none⟩=some (.map (some gm)):=by rw[cell_of_row w1 gc 1 _ _ (0,0) (uh HC1).1];rfl
 refine hK _ _ ⟨fun _=>⟨hc11,(uh HE1).2.1,trivial⟩, ?_⟩
 clear hK H1 ho1 ho1' HSW HE HCH HO
 refine wpAnyL_one (i:=7) (by kernel_rfl) ?_
 refine wpOp_step rfl (fun K' hK=> ?_)
 go_simp
 refine hK _ _ ⟨fun h=>absurd rfl h, ?_⟩
 clear hK
 refine wpAnyL_done (by kernel_rfl) ?_
 have hn1:=(uh HE1).2.1
 go_wp2_with fail
 refine (uh H2 w1).mono ?_
 rintro r w2 ⟨rfl,ho2⟩
 have HE2:=hide ((uh HE1).old ho2)
 have HC2:=hide ((uh HC1).old ho2)
 have HO2:=hide (Only.trans (uh HO1) ho2)
 have hn2:=(uh HE2).2.1
 have hd2:=(uh HE2).2.2.2
 have hc20:w2.cell? ⟨gc,0,none⟩=some (Value.slice ao fs.length cap):=by rw[cell_of_row w2 gc 0 _ _ (0,0) (uh HC2).1];rfl
 have hc22:w2.cell? ⟨gc,2,none⟩=some (.int .i64 (all:Int)):=by rw[cell_of_row w2 gc 2 _ _ (0,0) (uh HC2).1];rfl
 clear H2 ho2 HE1 HC1 HO1 hn1 hc11 hc1
 go_wp2_with fail
 go_ret
 exact ⟨rfl,uh HO2⟩
theorem takeF3(nm dt:ByteArray)(ln:Bool)(gc gm n:Nat)(v:Value)(fs:List Fl)(f:Tab)(all:Nat)(hnm:nm.size≤1000)(hcl:clashP f nm=false)(hot:(decide (nm≠sGo)&&decide (lowP nm=sGo))=false)(hmo:mostP nm<dt.size)(w:World)(hch:ChAt w gc gm n v fs f all):
 Calls Tryz.prog 81 #[.pointer (some ⟨gc,0,none⟩),.agg #[.string nm,.bool ln,.string dt]] w fun r w' =>r=.returned (.int .i64 1)∧Old w w' :=by
 obtain ⟨hgc,hgm,hvb⟩:=hch.lt
 obtain ⟨ao,cap,rfl⟩: ∃ao cap,v=.slice ao fs.length cap:=by
  obtain ⟨_,hF,_⟩:=hch
  obtain ⟨_,⟨rfl,hz⟩|⟨b,c,cur,rfl,_⟩⟩:=hF
  ·rw[hz];exact ⟨none,0,rfl⟩
  exact ⟨_,_,rfl⟩
 have hA:Old w (w.alloc (.cells #[.string nm,.bool ln,.string dt] 39)):=(Only.refl _ w).alloc _
 have HE:=hide (EnA.made w nm ln dt)
 have HCH:=hide (hch.old hA)
 have HO:=hide hA
 have H1:=hide (fun W h=>clashesA nm hnm gm n f W h)
 rw[hcl] at H1
 have H2:=hide (fun W=>otherA nm (by omega) W)
 rw[hot] at H2
 have hmoI:((mostP nm:Nat):Int)<(dt.size:Int):=by omega
 have H4:=hide (fun W=>mostA nm W)
 generalize mostP nm=M at*
 clear hA hch hvb
 go_in
 go_upto_region 2 with fail
 generalize w.alloc (.cells #[.string nm,.bool ln,.string dt] 39)=W at*
 have hc1:W.cell? ⟨gc,1,none⟩=some (.map (some gm)):=by rw[cell_of_row W gc 1 _ _ (0,0) (uh HCH).1];rfl
 have HSW:W.drew.cell? ⟨gc,1,none⟩=some (.map (some gm))∧W.drew.cell? ⟨w.heap.size,0,none⟩=some (.string nm)∧True:=⟨hc1,(uh HE).2.1,trivial⟩
 have H1:=hide (uh H1 W.drew (uh HCH).2.2)
 refine wp_region_last (S:=fun W=>W.cell? ⟨gc,1,none⟩=some (.map (some gm))∧W.cell? ⟨w.heap.size,0,none⟩=some (.string nm)∧True) (L:=7) (by kernel_rfl) ?_
 refine tk 0 8 (.pointer (some ⟨gc,0,none⟩)) 10 HSW ?_
 refine tk 1 8 (.pointer (some ⟨gc,0,none⟩)) 11 HSW ?_
 refine tk 2 8 (.pointer (some ⟨gc,1,none⟩)) 12 HSW ?_
 refine tk 3 8 (.map (some gm)) 13 HSW ?_
 refine tk 4 8 (.pointer (some ⟨w.heap.size,0,none⟩)) 14 HSW ?_
 refine tk 5 8 (.string nm) 15 HSW ?_
 refine wpAnyL_one (i:=6) (by kernel_rfl) ?_
 refine wpOp_step rfl (fun K' hK=> ?_)
 go_simp
 refine (uh H1).mono ?_
 rintro r w1 ⟨rfl,ho1⟩
 have ho1' :Old W w1:=((Only.refl _ W).drew).trans ho1
 have HE1:=hide ((uh HE).old ho1')
 have HC1:=hide ((uh HCH).old ho1')
 have HO1:=hide (Only.trans (uh HO) ho1')
 have hc11:w1.cell? ⟨gc,1,none⟩=some (.map (some gm)):=by rw[cell_of_row w1 gc 1 _ _ (0,0) (uh HC1).1];rfl
 refine hK _ _ ⟨fun _=>⟨hc11,(uh HE1).2.1,trivial⟩, ?_⟩
 clear hK H1 ho1 ho1' HSW HE HCH HO
 refine wpAnyL_one (i:=7) (by kernel_rfl) ?_
 refine wpOp_step rfl (fun K' hK=> ?_)
 go_simp
 refine hK _ _ ⟨fun h=>absurd rfl h, ?_⟩
 clear hK
 refine wpAnyL_done (by kernel_rfl) ?_
 have hn1:=(uh HE1).2.1
 go_wp2_with fail
 refine (uh H2 w1).mono ?_
 rintro r w2 ⟨rfl,ho2⟩
 have HE2:=hide ((uh HE1).old ho2)
 have HC2:=hide ((uh HC1).old ho2)
 have HO2:=hide (Only.trans (uh HO1) ho2)
 have hn2:=(uh HE2).2.1
 have hd2:=(uh HE2).2.2.2
 have hc20:w2.cell? ⟨gc,0,none⟩=some (Value.slice ao fs.length cap):=by rw[cell_of_row w2 gc 0 _ _ (0,0) (uh HC2).1];rfl
 have hc22:w2.cell? ⟨gc,2,none⟩=some (.int .i64 (all:Int)):=by rw[cell_of_row w2 gc 2 _ _ (0,0) (uh HC2).1];rfl
 clear H2 ho2 HE1 HC1 HO1 hn1 hc11 hc1
 go_wp2_with fail
 refine (uh H4 _).mono ?_
 rintro r w3 ⟨rfl,rfl⟩
 go_wp2_with fail
 go_ret
 exact ⟨rfl,uh HO2⟩
theorem takeF4(nm dt:ByteArray)(ln:Bool)(gc gm n:Nat)(v:Value)(fs:List Fl)(f:Tab)(all:Nat)(hnm:nm.size≤1000)(hcl:clashP f nm=false)(hot:(decide (nm≠sGo)&&decide (lowP nm=sGo))=false)(hmo:dt.size≤mostP nm)(hfe:fs.length=60)(w:World)(hch:ChAt w gc gm n v fs f all):
 Calls Tryz.prog 81 #[.pointer (some ⟨gc,0,none⟩),.agg #[.string nm,.bool ln,.string dt]] w fun r w' =>r=.returned (.int .i64 6)∧Old w w' :=by
 obtain ⟨hgc,hgm,hvb⟩:=hch.lt
 obtain ⟨ao,cap,rfl⟩: ∃ao cap,v=.slice ao fs.length cap:=by
  obtain ⟨_,hF,_⟩:=hch
  obtain ⟨_,⟨rfl,hz⟩|⟨b,c,cur,rfl,_⟩⟩:=hF
  ·rw[hz];exact ⟨none,0,rfl⟩
  exact ⟨_,_,rfl⟩
 have hA:Old w (w.alloc (.cells #[.string nm,.bool ln,.string dt] 39)):=(Only.refl _ w).alloc _
 have HE:=hide (EnA.made w nm ln dt)
 have HCH:=hide (hch.old hA)
 have HO:=hide hA
 have H1:=hide (fun W h=>clashesA nm hnm gm n f W h)
 rw[hcl] at H1
 have H2:=hide (fun W=>otherA nm (by omega) W)
 rw[hot] at H2
 have hmoI:¬((mostP nm:Nat):Int)<(dt.size:Int):=by omega
 have hfeI:(fs.length:Int)=60:=by omega
 have H4:=hide (fun W=>mostA nm W)
 generalize mostP nm=M at*
 clear hA hch hvb
 go_in
 go_upto_region 2 with fail
 generalize w.alloc (.cells #[.string nm,.bool ln,.string dt] 39)=W at*
 have hc1:W.cell? ⟨gc,1,none⟩=some (.map (some gm)):=by rw[cell_of_row W gc 1 _ _ (0,0) (uh HCH).1];rfl
 have HSW:W.drew.cell? ⟨gc,1,none⟩=some (.map (some gm))∧W.drew.cell? ⟨w.heap.size,0,none⟩=some (.string nm)∧True:=⟨hc1,(uh HE).2.1,trivial⟩
 have H1:=hide (uh H1 W.drew (uh HCH).2.2)
 refine wp_region_last (S:=fun W=>W.cell? ⟨gc,1,none⟩=some (.map (some gm))∧W.cell? ⟨w.heap.size,0,none⟩=some (.string nm)∧True) (L:=7) (by kernel_rfl) ?_
 refine tk 0 8 (.pointer (some ⟨gc,0,none⟩)) 10 HSW ?_
 refine tk 1 8 (.pointer (some ⟨gc,0,none⟩)) 11 HSW ?_
 refine tk 2 8 (.pointer (some ⟨gc,1,none⟩)) 12 HSW ?_
 refine tk 3 8 (.map (some gm)) 13 HSW ?_
 refine tk 4 8 (.pointer (some ⟨w.heap.size,0,none⟩)) 14 HSW ?_
 refine tk 5 8 (.string nm) 15 HSW ?_
 refine wpAnyL_one (i:=6) (by kernel_rfl) ?_
 refine wpOp_step rfl (fun K' hK=> ?_)
 go_simp
 refine (uh H1).mono ?_
 rintro r w1 ⟨rfl,ho1⟩
 have ho1' :Old W w1:=((Only.refl _ W).drew).trans ho1
 have HE1:=hide ((uh HE).old ho1')
 have HC1:=hide ((uh HCH).old ho1')
 have HO1:=hide (Only.trans (uh HO) ho1')
 have hc11:w1.cell? ⟨gc,1,none⟩=some (.map (some gm)):=by rw[cell_of_row w1 gc 1 _ _ (0,0) (uh HC1).1];rfl
 refine hK _ _ ⟨fun _=>⟨hc11,(uh HE1).2.1,trivial⟩, ?_⟩
 clear hK H1 ho1 ho1' HSW HE HCH HO
 refine wpAnyL_one (i:=7) (by kernel_rfl) ?_
 refine wpOp_step rfl (fun K' hK=> ?_)
 go_simp
 refine hK _ _ ⟨fun h=>absurd rfl h, ?_⟩
 clear hK
 refine wpAnyL_done (by kernel_rfl) ?_
 have hn1:=(uh HE1).2.1
 go_wp2_with fail
 refine (uh H2 w1).mono ?_
 rintro r w2 ⟨rfl,ho2⟩
 have HE2:=hide ((uh HE1).old ho2)
 have HC2:=hide ((uh HC1).old ho2)
 have HO2:=hide (Only.trans (uh HO1) ho2)
 have hn2:=(uh HE2).2.1
 have hd2:=(uh HE2).2.2.2
 have hc20:w2.cell? ⟨gc,0,none⟩=some (Value.slice ao fs.length cap):=by rw[cell_of_row w2 gc 0 _ _ (0,0) (uh HC2).1];rfl
 have hc22:w2.cell? ⟨gc,2,none⟩=some (.int .i64 (all:Int)):=by rw[cell_of_row w2 gc 2 _ _ (0,0) (uh HC2).1];rfl
 clear H2 ho2 HE1 HC1 HO1 hn1 hc11 hc1
 go_wp2_with fail
 refine (uh H4 _).mono ?_
 rintro r w3 ⟨rfl,rfl⟩
 go_wp2_with fail
 go_ret
 exact ⟨rfl,uh HO2⟩
theorem takeF5(nm dt:ByteArray)(ln:Bool)(gc gm n:Nat)(v:Value)(fs:List Fl)(f:Tab)(all:Nat)(hnm:nm.size≤1000)(hcl:clashP f nm=false)(hot:(decide (nm≠sGo)&&decide (lowP nm=sGo))=false)(hmo:dt.size≤mostP nm)(hfe:fs.length<60)(hal:16000<all+dt.size)(hal2:all≤16000)(w:World)(hch:ChAt w gc gm n v fs f all):
 Calls Tryz.prog 81 #[.pointer (some ⟨gc,0,none⟩),.agg #[.string nm,.bool ln,.string dt]] w fun r w' =>r=.returned (.int .i64 1)∧Old w w' :=by
 obtain ⟨hgc,hgm,hvb⟩:=hch.lt
 obtain ⟨ao,cap,rfl⟩: ∃ao cap,v=.slice ao fs.length cap:=by
  obtain ⟨_,hF,_⟩:=hch
  obtain ⟨_,⟨rfl,hz⟩|⟨b,c,cur,rfl,_⟩⟩:=hF
  ·rw[hz];exact ⟨none,0,rfl⟩
  exact ⟨_,_,rfl⟩
 have hA:Old w (w.alloc (.cells #[.string nm,.bool ln,.string dt] 39)):=(Only.refl _ w).alloc _
 have HE:=hide (EnA.made w nm ln dt)
 have HCH:=hide (hch.old hA)
 have HO:=hide hA
 have H1:=hide (fun W h=>clashesA nm hnm gm n f W h)
 rw[hcl] at H1
 have H2:=hide (fun W=>otherA nm (by omega) W)
 rw[hot] at H2
 have hmoI:¬((mostP nm:Nat):Int)<(dt.size:Int):=by omega
 have hfeI:¬(fs.length:Int)=60:=by omega
 have halI:(16000:Int)- (all:Int)<(dt.size:Int):=by omega
 have H4:=hide (fun W=>mostA nm W)
 generalize mostP nm=M at*
 clear hA hch hvb
 go_in
 go_upto_region 2 with fail
 generalize w.alloc (.cells #[.string nm,.bool ln,.string dt] 39)=W at*
 have hc1:W.cell? ⟨gc,1,none⟩=some (.map (some gm)):=by rw[cell_of_row W gc 1 _ _ (0,0) (uh HCH).1];rfl
 have HSW:W.drew.cell? ⟨gc,1,none⟩=some (.map (some gm))∧W.drew.cell? ⟨w.heap.size,0,none⟩=some (.string nm)∧True:=⟨hc1,(uh HE).2.1,trivial⟩
 have H1:=hide (uh H1 W.drew (uh HCH).2.2)
 refine wp_region_last (S:=fun W=>W.cell? ⟨gc,1,none⟩=some (.map (some gm))∧W.cell? ⟨w.heap.size,0,none⟩=some (.string nm)∧True) (L:=7) (by kernel_rfl) ?_
 refine tk 0 8 (.pointer (some ⟨gc,0,none⟩)) 10 HSW ?_
 refine tk 1 8 (.pointer (some ⟨gc,0,none⟩)) 11 HSW ?_
 refine tk 2 8 (.pointer (some ⟨gc,1,none⟩)) 12 HSW ?_
 refine tk 3 8 (.map (some gm)) 13 HSW ?_
 refine tk 4 8 (.pointer (some ⟨w.heap.size,0,none⟩)) 14 HSW ?_
 refine tk 5 8 (.string nm) 15 HSW ?_
 refine wpAnyL_one (i:=6) (by kernel_rfl) ?_
 refine wpOp_step rfl (fun K' hK=> ?_)
 go_simp
 refine (uh H1).mono ?_
 rintro r w1 ⟨rfl,ho1⟩
 have ho1' :Old W w1:=((Only.refl _ W).drew).trans ho1
 have HE1:=hide ((uh HE).old ho1')
 have HC1:=hide ((uh HCH).old ho1')
 have HO1:=hide (Only.trans (uh HO) ho1')
 have hc11:w1.cell? ⟨gc,1,none⟩=some (.map (some gm)):=by rw[cell_of_row w1 gc 1 _ _ (0,0) (uh HC1).1];rfl
 refine hK _ _ ⟨fun _=>⟨hc11,(uh HE1).2.1,trivial⟩, ?_⟩
 clear hK H1 ho1 ho1' HSW HE HCH HO
 refine wpAnyL_one (i:=7) (by kernel_rfl) ?_
 refine wpOp_step rfl (fun K' hK=> ?_)
 go_simp
 refine hK _ _ ⟨fun h=>absurd rfl h, ?_⟩
 clear hK
 refine wpAnyL_done (by kernel_rfl) ?_
 have hn1:=(uh HE1).2.1
 go_wp2_with fail
 refine (uh H2 w1).mono ?_
 rintro r w2 ⟨rfl,ho2⟩
 have HE2:=hide ((uh HE1).old ho2)
 have HC2:=hide ((uh HC1).old ho2)
 have HO2:=hide (Only.trans (uh HO1) ho2)
 have hn2:=(uh HE2).2.1
 have hd2:=(uh HE2).2.2.2
 have hc20:w2.cell? ⟨gc,0,none⟩=some (Value.slice ao fs.length cap):=by rw[cell_of_row w2 gc 0 _ _ (0,0) (uh HC2).1];rfl
 have hc22:w2.cell? ⟨gc,2,none⟩=some (.int .i64 (all:Int)):=by rw[cell_of_row w2 gc 2 _ _ (0,0) (uh HC2).1];rfl
 clear H2 ho2 HE1 HC1 HO1 hn1 hc11 hc1
 go_wp2_with fail
 refine (uh H4 _).mono ?_
 rintro r w3 ⟨rfl,rfl⟩
 go_wp2_with fail
 go_ret
 exact ⟨rfl,uh HO2⟩
theorem takeF(nm dt:ByteArray)(ln:Bool)(gc gm n:Nat)(v:Value)(s:CSt)(hnm:nm.size≤1000)(hfe:s.fs.length≤60)(hal:s.all≤16000)(k:Nat)(hk:cfault s ⟨nm,ln,dt⟩=k)(h0:k≠0)(w:World)(hch:ChAt w gc gm n v s.fs s.tb s.all):
 Calls Tryz.prog 81 #[.pointer (some ⟨gc,0,none⟩),.agg #[.string nm,.bool ln,.string dt]] w fun r w' =>r=.returned (.int .i64 (k:Int))∧Old w w' :=by
 unfold cfault at hk
 split at hk
 ·rename_i h1
  subst hk
  exact takeF1 nm dt ln gc gm n v s.fs s.tb s.all hnm h1 w hch
 rename_i h1
 rw[Bool.not_eq_true] at h1
 split at hk
 ·rename_i h2
  subst hk
  exact takeF2 nm dt ln gc gm n v s.fs s.tb s.all hnm h1 h2 w hch
 rename_i h2
 rw[Bool.not_eq_true] at h2
 split at hk
 ·rename_i h3
  subst hk
  exact takeF3 nm dt ln gc gm n v s.fs s.tb s.all hnm h1 h2 h3 w hch
 rename_i h3
 split at hk
 ·rename_i h4
  subst hk
  exact takeF4 nm dt ln gc gm n v s.fs s.tb s.all hnm h1 h2 (Nat.not_lt.1 h3) h4 w hch
 rename_i h4
 split at hk
 ·rename_i h5
  subst hk
  exact takeF5 nm dt ln gc gm n v s.fs s.tb s.all hnm h1 h2 (Nat.not_lt.1 h3) (by omega) h5 hal w hch
 exact absurd hk.symm h0
theorem cgo_most(L:List ByteArray)(T:List Ent): ∀i,i≤T.length→(∀j,j<i→whyP L (T.getD j ent0)=0→cfault (cgo L (T.take j)) (T.getD j ent0)=0)→(cgo L (T.take i)).all≤16000:=by
 intro i
 induction i with
 |zero=>intro _ _;exact Nat.zero_le _
 |succ i ih=>
  intro hi h
  have h1:=ih (by omega) (fun j hj=>h j (by omega))
  rw[cgo_next L T i (by omega),cstep]
  split
  ·rename_i hw
   exact (cfault_ok (h i (by omega) hw)).2.2.2.2
  exact h1
theorem filesMany(gt cap:Nat)(n:Nat)(hT:200<n)(w:World):
 Calls Tryz.prog 44 #[.slice (some ⟨gt,0,none⟩) n cap] w fun r w' =>r=.returned (.tuple #[.slice none 0 0,.slice none 0 0,.int .i64 6])∧Old w w' :=by
 have hTI:(200:Int)<(n:Int):=by omega
 go_in
 go_wp2_with fail
 go_ret3
 exact ⟨rfl,Only.refl _ _⟩
theorem filesF(gt cap:Nat)(T:List Ent)(hT:T.length≤200)(hs: ∀e∈T,e.nm.size≤2000000)(m k:Nat)(hm0:m<T.length)(hok: ∀i,i<m→whyP (nestL T) (T.getD i ent0)=0→cfault (cgo (nestL T) (T.take i)) (T.getD i ent0)=0)(hw:whyP (nestL T) (T.getD m ent0)=0)(hk:cfault (cgo (nestL T) (T.take m)) (T.getD m ent0)=k)(h0:k≠0)(w:World)(hm:MaxAt w)(ht:EntsAt w gt T)(hgt:gt<w.heap.size):
 Calls Tryz.prog 44 #[.slice (some ⟨gt,0,none⟩) T.length cap] w fun r w' =>r=.returned (.tuple #[.slice none 0 0,.slice none 0 0,.int .i64 (k:Int)])∧Old w w' :=by
 have HAL:=hide (cgo_most (nestL T) T m (by omega) hok)
 have hmm:= @run_makeMap Tryz.prog
 have H1:=hide (nestedA gt cap T (by omega) hs w ht hgt)
 have HS:Hid (∀i,i<T.length→(T.getD i ent0).nm.size≤2000000):=fun i hi=>by rw[List.getD_eq_getElem?_getD,List.getElem?_eq_getElem hi];exact hs _ (List.getElem_mem hi)
 have HT:=hide ht
 have HM:=hide hm
 have hTI:¬(200:Int)<(T.length:Int):=by omega
 obtain ⟨L,hL⟩: ∃L,nestL T=L:=⟨_,rfl⟩
 rw[hL] at H1 hok hw hk HAL
 have HOK:Hid (∀i,i<m→whyP L (T.getD i ent0)=0→cfault (cgo L (T.take i)) (T.getD i ent0)=0):=hok
 have HW:=hide hw
 have HK:=hide hk
 clear ht hok hm hL hs hgt hw hk
 go_in
 go_wp2_with fail
 refine (uh H1).mono ?_
 rintro e w1 ⟨rfl,ho1,hn1⟩
 have hlt1:=ho1.size
 have HNL:=hide hn1.lt
 have HF2:Hid (FSt w (w1.heap.size+1) w1.heap.size w.heap.size 0 L (cgo L (T.take 0)) (.slice none 0 0) ((w1.alloc (.map #[] 0)).alloc (.cells #[.slice none 0 0,.map (some w1.heap.size),.int .i64 0] chT))):=by
  have hA1:Old w1 (w1.alloc (.map #[] 0)):=(Only.refl _ w1).alloc _
  have hA2:Old (w1.alloc (.map #[] 0)) ((w1.alloc (.map #[] 0)).alloc (.cells #[.slice none 0 0,.map (some w1.heap.size),.int .i64 0] chT)):=(Only.refl _ _).alloc _
  have h:=Go.heap_alloc_new (w1.alloc (.map #[] 0)) (.cells #[.slice none 0 0,.map (some w1.heap.size),.int .i64 0] chT)
  rw[World.size_alloc] at h
  exact ⟨(ho1.trans hA1).trans hA2,⟨.slice none 0 0,⟨h,World.ownsRow_nil _ _ _ _,(MetAt.made w1).old hA2⟩,(fun b hb=>by cases hb)⟩,World.ownsRow_nil _ _ _ _,(fun b hb=>by cases hb),⟨_,(hn1.old hA1).old hA2⟩,⟨by show (0:Nat)≤60;omega,Nat.le_refl _⟩,by have:=hn1.lt;omega⟩
 have HGC:Hid (w.heap.size≤w1.heap.size):=hlt1
 clear H1 ho1 hn1 hlt1
 go_wp2_with fail
 clear hmm
 generalize w1.heap.size=gm at*
 obtain ⟨gc,hgc⟩: ∃gc,gm+1=gc:=⟨_,rfl⟩
 have HGC2:Hid (w.heap.size≤gc):=by have:=uh HGC;unfold Hid;omega
 rw[hgc] at HF2 ⊢
 clear hgc
 go_loopw [7,9,10,11,21] (fun u _ _ _ x wr=> ∃i:Nat,i≤m∧x=.int .i64 i∧Hid (FSt w gc gm w.heap.size i L (cgo L (T.take i)) u wr)) (fun _ _ _ _ x _=>T.length- (intOf x).toNat)
 ·exact ⟨0,by omega,rfl,HF2⟩
 obtain ⟨i,hi,rfl,HF⟩:=hrel
 clear HF2
 have hil:i<T.length:=by omega
 by_cases him:i<m
 ·clear HW HK
  have hilI:(i:Int)<(T.length:Int):=by omega
  obtain ⟨_,h1,h2,h3⟩:=(uh HT).old (uh HF).old i hil
  have hns:=uh HS i hil
  have HNX:=hide (cgo_next L T i hil)
  have HCF:=hide (uh HOK i him)
  have HWF:Hid (whyP L (T.getD i ent0)=0→(T.getD i ent0).nm.size≤80):=fun h=>fileP_size (whyP_file h)
  have HWB:Hid (whyP L (T.getD i ent0)≤5):=by unfold Hid whyP;split<;>(try split)<;>(try split)<;>(try split)<;>(try split)<;>omega
  have HYL:=hide (fun n W hm hg=>whyLeftA (T.getD i ent0) hns w.heap.size n L W hm hg)
  generalize cgo L (T.take i)=s at*
  generalize T.getD i ent0=e at*
  obtain ⟨nm,ln,dt⟩:=e
  simp only at*
  have hA:Old wr (wr.alloc (.cells #[.string nm,.bool ln,.string dt] 39)):=(Only.refl _ wr).alloc _
  have HE:=hide (EnA.made wr nm ln dt)
  have HF3:=hide ((uh HF).after hA)
  obtain ⟨nfo,hfo⟩:=(uh HF3).fo
  have H2:=hide (uh HYL nfo _ ((uh HM).old (uh HF3).old) hfo)
  clear hA HF HYL hfo
  go_wp2_with fail
  clear h1 h2 h3
  refine (uh H2).mono ?_
  rintro e w4 ⟨rfl,ho4⟩
  have HE4:=hide ((uh HE).old ho4)
  have HF4:=hide ((uh HF3).after ho4)
  clear H2 HE HF3
  generalize wr.alloc (.cells #[.string nm,.bool ln,.string dt] 39)=W at*
  clear ho4
  by_cases hw0:whyP L ⟨nm,ln,dt⟩=0
  ·obtain ⟨v,hv,hvb⟩:=(uh HF4).ch
   have hcf:=cfault_ok (uh HCF hw0)
   have hnm:=uh HWF hw0
   have hfl:s.fs.length<60:=by have:=hcf.2.2.2.1;have:=(uh HF4).few.1;omega
   have H3:=hide (takeA nm dt ln gc gm (i*1001) v s.fs s.tb s.all (by omega) hcf.1 hcf.2.1 hcf.2.2.1 hfl hcf.2.2.2.2 (by omega) w4 hv)
   have HTK:=hide (fun w' v' =>(uh HF4).take (w' :=w') (v:=v) (v' :=v') (e:=⟨nm,ln,dt⟩) hw0 hfl (uh HGC2) (uh HGC) hvb hv)
   obtain ⟨_,h1,h2,h3⟩:=uh HE4
   rw[hw0]
   clear hcf hv hvb hw0 HCF HWF HWB hnm hfl HE4
   go_wp2_with fail
   clear h1 h2 h3
   refine (uh H3).mono ?_
   rintro e w5 ⟨rfl,v',hc5,ho5,hb5⟩
   have HF5:=hide (uh HTK w5 v' hc5 ho5 hb5)
   clear H3 HTK hc5 ho5 hb5
   go_wp2_with fail
   go_roundw
   ·exact ⟨i+1,by omega,by go_num,by rw[uh HNX];exact HF5⟩
   case measure=>simp[intOf];omega
  have hwN:=hw0
  obtain ⟨y,hy⟩: ∃y,whyP L ⟨nm,ln,dt⟩=y:=⟨_,rfl⟩
  have hy5:y≤5:=by rw[←hy];exact HWB
  have HLV:Hid (∀W' w' g cap,FSt w gc gm w.heap.size i L s u7 W' →w'.ownsRow 0 48 2 (.slice (some ⟨g,0,none⟩) (s.lf.length+1) cap) (s.lf.length+1) (lfCells s.lf++[.string nm,.int .i64 (y:Int)])→W'.grownBy w' u7.ownBlock→(u7.ownBlock=some g∨g=W'.heap.size)→FSt w gc gm w.heap.size (i+1) L (cstep L s ⟨nm,ln,dt⟩) (.slice (some ⟨g,0,none⟩) (s.lf.length+1) cap) w'):=fun W' w' g cap hF h1 h2 h3=>by
   refine hF.leave (e:=⟨nm,ln,dt⟩) hwN (by rw[hy];exact h1) ((Only.refl _ _).grown h2 (fun k _ e=>e)) ?_
   rcases h3 with h|h
   ·exact .inl h
   exact .inr (by rw[h];exact hF.old.size)
  rw[hy] at hw0 ⊢
  have hw0I:((y:Int) !=0)=true:=by rw[bne_iff_ne];omega
  have hw0J:¬(y:Int)=0:=by omega
  have H5:=hide (cloneX nm (by omega) w4)
  obtain ⟨_,h1,h2,h3⟩:=uh HE4
  have hfew:=(uh HF4).few.2
  obtain ⟨ao,cp,rfl⟩: ∃ao cp,u7=.slice ao s.lf.length cp:=by
   obtain ⟨_,⟨rfl,hz⟩|⟨b,c,cur,rfl,_⟩⟩:=(uh HF4).lf
   ·rw[hz];exact ⟨none,0,rfl⟩
   exact ⟨_,_,rfl⟩
  clear hy hwN HCF HWF HWB HE4
  go_wp2_with fail
  clear h1 h2 h3
  refine (uh H5).mono ?_
  rintro e w5 ⟨rfl,ho5⟩
  have hA5:Old w5 (w5.alloc (.cells #[.string nm,.int .i64 (y:Int)] 48)):=(Only.refl _ w5).alloc _
  have HF6:=hide (((uh HF4).after ho5).after hA5)
  have HOW:=hide (uh HF6).lf
  have HNW:=hide (new_cells w5 [.string nm,.int .i64 (y:Int)] 48)
  have HLV:=hide (fun w' g cap=>uh HLV _ w' g cap (uh HF6))
  obtain ⟨i0,hi0,hz0,hz1,hz2⟩:=info_parts infoL2
  have HSZ:Hid ((w5.alloc (.cells #[.string nm,.int .i64 (y:Int)] 48)).heap.size=w5.heap.size+1):=by unfold Hid;rw[World.size_alloc]
  rw[uh HSZ] at HLV
  clear ho5 hA5 H5 HF4 HF6
  go_wp2_with (at_builtin;refine wpList_append_lies _ rfl (.tmp 30) (.tmp 36) 42 rfl 0 48 i0 (.agg #[.string ⟨#[]⟩,.int .i64 0]) 2 24 Tryz.underlying42 hi0 hz0 hz1 hz2 rfl (by omega) (.slice ao s.lf.length cp) s.lf.length (lfCells s.lf) rfl (uh HOW) ⟨w5.heap.size,0,none⟩ 1 1 [.string nm,.int .i64 (y:Int)] rfl rfl (uh HNW) (by intro u hu;simp at hu;rcases hu with rfl|rfl<;>rfl) (by omega) (by unfold maxLen;omega) (by omega) (by omega) (w5.heap.size+1) (uh HSZ) ?_;intro gb cap2 w6 ho6 hg6 hl6 hlt6;have HX:=hide (uh HLV w6 gb cap2 ho6 hg6 hl6);clear ho6 hg6 hl6 hlt6)
  go_roundw
  ·exact ⟨i+1,by omega,by go_num,by rw[uh HNX];exact HX⟩
  case measure=>simp[intOf];omega
 obtain rfl:i=m:=by omega
 have hilI:(i:Int)<(T.length:Int):=by omega
 obtain ⟨_,h1,h2,h3⟩:=(uh HT).old (uh HF).old i hil
 have hns:=uh HS i hil
 have HYL:=hide (fun n W hm hg=>whyLeftA (T.getD i ent0) hns w.heap.size n L W hm hg)
 have hnm:(T.getD i ent0).nm.size≤80:=fileP_size (whyP_file (uh HW))
 rw[uh HW] at HYL
 generalize cgo L (T.take i)=s at*
 generalize T.getD i ent0=e at*
 obtain ⟨nm,ln,dt⟩:=e
 simp only at*
 have hA:Old wr (wr.alloc (.cells #[.string nm,.bool ln,.string dt] 39)):=(Only.refl _ wr).alloc _
 have HE:=hide (EnA.made wr nm ln dt)
 have HF3:=hide ((uh HF).after hA)
 obtain ⟨nfo,hfo⟩:=(uh HF3).fo
 have H2:=hide (uh HYL nfo _ ((uh HM).old (uh HF3).old) hfo)
 clear hA HF HYL hfo HOK HW
 go_wp2_with fail
 clear h1 h2 h3
 refine (uh H2).mono ?_
 rintro e w4 ⟨rfl,ho4⟩
 have HE4:=hide ((uh HE).old ho4)
 have HF4:=hide ((uh HF3).after ho4)
 clear H2 HE HF3
 generalize wr.alloc (.cells #[.string nm,.bool ln,.string dt] 39)=W at*
 clear ho4
 obtain ⟨v,hv,hvb⟩:=(uh HF4).ch
 have H3:=hide (takeF nm dt ln gc gm (i*1001) v s (by omega) (uh HF4).few.1 (uh HAL) k (uh HK) h0 w4 hv)
 obtain ⟨_,h1,h2,h3⟩:=uh HE4
 have hkI:((k:Int) !=0)=true:=by rw[bne_iff_ne];omega
 have hkJ:¬(k:Int)=0:=by omega
 have HO4:=hide (uh HF4).old
 clear hv hvb HE4 HF4 HK HAL
 go_wp2_with fail
 clear h1 h2 h3
 refine (uh H3).mono ?_
 rintro e w5 ⟨rfl,ho5⟩
 have HO5:=hide ((uh HO4).trans ho5)
 clear H3 ho5 HO4
 go_wp2_with fail
 go_ret3
 exact ⟨rfl,uh HO5⟩
end Go.Proofs.YtndfmgdhiallpaaGreatDoor
