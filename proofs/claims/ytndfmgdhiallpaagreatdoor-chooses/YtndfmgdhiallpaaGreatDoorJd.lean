import Derived.Test.YtndfmgdhiallpaaGreatDoorJc
import Derived.Test.YtndfmgdhiallpaaGreatDoorMf
set_option maxRecDepth 100000
set_option maxHeartbeats 2000000
namespace Go.Proofs.YtndfmgdhiallpaaGreatDoor
open Go.RowKit Go.Maps
abbrev enV:Array Value:= #[.string sX,.bool false,.string sY]
theorem indexNone(a:Option Addr)(cap:Nat)(f:Value)(w:World):Calls Tryz.prog 311 #[.slice a 0 cap,f] w fun r w' =>r=.returned (.int .i64 (-1))∧w' =w:=by
 go_in
 go_wp2_with fail
 go_loop [5,8] (fun _ x=>x=.int .i64 0) (fun _ _=>0)
 ·rfl
 subst hrel
 go_wp2_with fail
 go_ret
 exact ⟨rfl,rfl⟩
theorem hiddenX(w:World)(hm:MaxAt w):Calls Tryz.prog 150 #[.string sX] w fun r w' =>r=.returned (.bool false)∧Old w w' :=by
 obtain ⟨m,hm⟩:=hm
 have H3:=hide (Tryz.strings_Split sX ⟨#[47]⟩ m w (by decide) hm (by decide))
 have e4:Lib.countB sX ⟨#[47]⟩=0:=by decide
 have e5:((Lib.splitB ⟨#[47]⟩ 0 0 sX).map Value.string).toArray= #[.string sX]:=by rfl
 simp only[e4,e5] at H3
 clear e5 e4 hm
 have HCF:Hid (∀(a:Option Addr) (cap:Nat) (W:World),Calls Tryz.prog 247 #[.slice a 0 cap,.func (.func 248) #[] #[]] W fun r w' =>r=.returned (.bool false)∧w' =W):=by
  intro a cap W
  go_in
  go_wp2_with fail
  refine (indexNone _ _ _ _).mono ?_
  rintro e w' ⟨rfl,rfl⟩
  go_wp2_with fail
  go_ret
  exact ⟨rfl,rfl⟩
 go_in
 go_wp2_with fail
 refine (uh H3).mono ?_
 rintro e w3 ⟨rfl,rfl⟩
 have HO:Hid (Old w (w.alloc (.cells #[.string sX] 9))):=(Only.refl _ w).alloc _
 clear H3
 generalize w.alloc (.cells #[.string sX] 9)=W at*
 go_wp2_with fail
 refine (uh HCF _ _ _).mono ?_
 rintro e w4 ⟨rfl,rfl⟩
 go_wp2_with fail
 go_ret
 exact ⟨rfl,HO⟩
abbrev foT:TypeId:=117
theorem haveX(gm:Nat)(w:World)(hg:w.heap[gm]? =some (.map #[] 0)):Calls Tryz.prog 151 #[.map (some gm),.string sX] w fun r w' =>r=.returned (.bool false)∧Old w w' :=by
 have HOW:Hid (w.ownsMap Tryz.prog 9 anyElem gm 0 (.map [])):=⟨#[],0,hg,fit_empty,Nat.le_refl _,rfl⟩
 clear hg
 go_in
 go_wp2_with (at_range;refine wpList_range_own _ rfl _ foT rfl 9 _ strKeyed Tryz.underlying117 anyElem gm 0 (.map []) rfl (uh HOW) ?_;intro w1 hrg1 hg1 hs1;have HR1:=hide hrg1;have HO1:=hide ((Only.refl (fun _=>False) w).grown hg1 (fun k _ e=>by cases e));clear hrg1 hg1 hs1)
 go_frame
 go_loopw [5] (fun _ wr=>Hid (∃left cnt,wr.ranges Tryz.prog 9 anyElem gm w.heap.size 0 (.map []) left cnt∧ ∀kl,left kl=false)∧Hid (Old w wr)) (fun _ _=>0)
 ·exact ⟨⟨_,_,HR1,fun _=>rfl⟩,HO1⟩
 obtain ⟨HR,HO⟩:=hrel
 obtain ⟨left,cnt,hr,hl⟩:=uh HR
 go_wp2_with (at_next;refine wpList_next_ranges (mkK:=fun x:Value=>x) (mkV:=fun x:Value=>x) _ rfl _ rfl 9 strKeyed anyElem (fun key _ _=>⟨key,rfl⟩) (fun v _ _=>⟨v,rfl⟩) gm w.heap.size 0 (.map []) left cnt rfl hr ?_ (fun x c kl y w' cnt' _ hlk=>absurd ((hl kl).symm.trans hlk) (by decide));intro _ _;clear hr hl HR)
 go_ret
 exact ⟨rfl,HO⟩
theorem vendoredX(w:World)(hm:MaxAt w):Calls Tryz.prog 152 #[.string sX] w fun r w' =>r=.returned (.bool false)∧Old w w' :=by
 obtain ⟨m,hm⟩:=hm
 have H1:=hide (Tryz.strings_CutPrefix sX ⟨#[118,101,110,100,111,114,47]⟩ w)
 have e1:Lib.hasPrefix sX.data.toList (⟨#[118,101,110,100,111,114,47]⟩:ByteArray).data.toList=false:=by decide
 rw[e1] at H1
 have H2:=hide (Tryz.strings_Cut sX ⟨#[47,118,101,110,100,111,114,47]⟩ m w (by decide) hm)
 have e3:Lib.cut sX.data.toList (⟨#[47,118,101,110,100,111,114,47]⟩:ByteArray).data.toList=([120],[],false):=by decide
 rw[e3] at H2
 clear e1 e3 hm
 go_in
 go_wp2_with fail
 refine (uh H1).mono ?_
 rintro e w1 ⟨rfl,rfl⟩
 go_wp2_with fail
 refine (uh H2).mono ?_
 rintro e w2 ⟨rfl,n,rfl⟩
 clear H1 H2
 go_wp2_with fail
 go_ret
 exact ⟨rfl,(Only.refl _ _).drewN n⟩
theorem whyLeftX(gm:Nat)(w:World)(hm:MaxAt w)(hg:w.heap[gm]? =some (.map #[] 0)):Calls Tryz.prog 79 #[.agg enV,.map (some gm)] w fun r w' =>r=.returned (.int .i64 0)∧Old w w' :=by
 have hA:Old w (w.alloc (.cells enV 39)):=(Only.refl _ w).alloc _
 have HR:Hid (Row (w.alloc (.cells enV 39)) w.heap.size 39 3 (fun j=>enV.getD j undef)):=Row.new w _ _ 3 _ (by decide) (fun j hj=>by
  have:j=0∨j=1∨j=2:=by omega
  rcases this with rfl|rfl|rfl<;>rfl)
 have HM:=hide (hm.old hA)
 have HG:=hide (old_heap hA hg)
 have HO:=hide hA
 have H1:=hide (fun W h=>hiddenX W h)
 clear hA hm hg
 go_in
 go_wp2_with fail
 generalize w.alloc (.cells #[.string sX,.bool false,.string sY] 39)=W at*
 refine (uh H1 W (uh HM)).mono ?_
 rintro e w1 ⟨rfl,ho1⟩
 have HO1:=hide (Only.trans (uh HO) ho1)
 have HM1:=hide ((uh HM).old ho1)
 have HR1:=hide ((uh HR).old ho1)
 have H2:=hide (haveX gm w1 (old_heap ho1 (uh HG)))
 have hc1:w1.cell? ⟨w.heap.size,0,none⟩=some (.string sX):=(uh HR1).cell 0 (by omega)
 clear ho1 HO HM HR HG H1
 go_wp2_with fail
 refine (uh H2).mono ?_
 rintro e w2 ⟨rfl,ho2⟩
 have HO2:=hide (Only.trans (uh HO1) ho2)
 have HM2:=hide ((uh HM1).old ho2)
 have HR2:=hide ((uh HR1).old ho2)
 have H3:=hide (vendoredX w2 (uh HM2))
 have hc2:w2.cell? ⟨w.heap.size,0,none⟩=some (.string sX):=(uh HR2).cell 0 (by omega)
 clear ho2 HO1 HM1 HR1 H2 hc1
 go_wp2_with fail
 refine (uh H3).mono ?_
 rintro e w3 ⟨rfl,ho3⟩
 have HO3:=hide (Only.trans (uh HO2) ho3)
 have HM3:=hide ((uh HM2).old ho3)
 have HR3:=hide ((uh HR2).old ho3)
 have H4:=hide (isFileX w3 (uh HM3))
 have hc3:w3.cell? ⟨w.heap.size,0,none⟩=some (.string sX):=(uh HR3).cell 0 (by omega)
 clear ho3 HO2 HM2 HR2 H3 hc2
 go_wp2_with fail
 refine (uh H4).mono ?_
 rintro e w4 ⟨rfl,ho4⟩
 have HO4:=hide (Only.trans (uh HO3) ho4)
 clear ho4 HO3 HM3 HR3 H4 hc3
 go_wp2_with fail
 go_ret
 exact ⟨rfl,HO4⟩
def EnAt(w:World)(gt:Nat):Prop:=gt<w.heap.size∧w.cell? ⟨gt,0,none⟩=some (.string sX)∧w.cell? ⟨gt,1,none⟩=some (.bool false)∧w.cell? ⟨gt,2,none⟩=some (.string sY)
theorem EnAt.kept{S:Nat→Prop}{w w' :World}{gt:Nat}(h:EnAt w gt)(ho:Only S w w')(hs:¬S gt):EnAt w' gt:=by
 obtain ⟨h0,h1,h2,h3⟩:=h
 exact ⟨Nat.lt_of_lt_of_le h0 ho.size,(ho.cell (p:=⟨gt,0,none⟩) h0 hs).trans h1,(ho.cell (p:=⟨gt,1,none⟩) h0 hs).trans h2,(ho.cell (p:=⟨gt,2,none⟩) h0 hs).trans h3⟩
theorem EnAt.old{w w' :World}{gt:Nat}(h:EnAt w gt)(ho:Old w w'):EnAt w' gt:=h.kept ho (fun x=>x)
theorem nestedX(gt:Nat)(w:World)(ht:EnAt w gt):Calls Tryz.prog 78 #[.slice (some ⟨gt,0,none⟩) 1 1] w fun r w' =>r=.returned (.map (some w.heap.size))∧Old w w' ∧w'.heap[w.heap.size]? =some (.map #[] 0):=by
 have hmm:= @run_makeMap Tryz.prog
 have HO:Hid (Old w (w.alloc (.map #[] 0))):=(Only.refl _ w).alloc _
 have HG:Hid ((w.alloc (.map #[] 0)).heap[w.heap.size]? =some (.map #[] 0)):=Go.heap_alloc_new w _
 have HT:=hide (ht.old (uh HO))
 clear ht
 go_in
 go_wp2_with fail
 clear hmm
 go_loopw [5,9] (fun _ x wr=> ∃i:Nat,i≤1∧x=.int .i64 i∧Hid (EnAt wr gt)∧Hid (Old w wr)∧Hid (wr.heap[w.heap.size]? =some (.map #[] 0))) (fun _ x _=>1- (intOf x).toNat)
 ·exact ⟨0,by omega,rfl,HT,HO,HG⟩
 obtain ⟨i,hi,rfl,HT,HO,HG⟩:=hrel
 have hcs:i=0∨i=1:=by omega
 rcases hcs with rfl|rfl
 ·obtain ⟨hl,h1,h2,h3⟩:=uh HT
  have H1:=hide (Tryz.strings_HasSuffix sX ⟨#[47,103,111,46,109,111,100]⟩ (wr.alloc (.cells enV 39)) (by decide))
  have e1:Lib.hasSuffix sX.data.toList (⟨#[47,103,111,46,109,111,100]⟩:ByteArray).data.toList=false:=by decide
  rw[e1] at H1
  have hA:Old wr (wr.alloc (.cells enV 39)):=(Only.refl _ wr).alloc _
  have HT' :=hide ((uh HT).old hA)
  have HO' :=hide (Only.trans (uh HO) hA)
  have HG' :=hide (old_heap hA (uh HG))
  clear hA HT HO HG e1
  go_wp2_with fail
  refine (uh H1).mono ?_
  rintro e w' ⟨rfl,rfl⟩
  clear H1 h1 h2 h3
  go_wp2_with fail
  go_roundw
  ·exact ⟨1,by omega,by go_num,HT',HO',HG'⟩
  simp[intOf]
 go_wp2_with fail
 go_ret
 exact ⟨rfl,HO,HG⟩
theorem cloneX(s:ByteArray)(hs:s.size≤281474976710656)(w:World):Calls Tryz.prog 80 #[.string s] w fun r w' =>r=.returned (.string s)∧Old w w' :=by
 have H1:=hide (Tryz.stringslite_Clone s w hs)
 go_in
 go_wp2_with fail
 refine (uh H1).mono ?_
 rintro e w1 ⟨rfl,hb⟩
 have HO:Hid (Old w w1):=⟨hb.os,hb.tape,hb.output,hb.size,fun k hk _=>hb.block k hk⟩
 clear hb H1
 go_wp2_with fail
 go_ret
 exact ⟨rfl,HO⟩
def OneF(w:World)(v:Value)(s d:ByteArray):Prop:= ∃cap,w.ownsRow 0 50 2 v 1 [.string s,.string d]∧ ∃g,v=.slice (some ⟨g,0,none⟩) 1 cap
abbrev chT:TypeId:=122
theorem infoF2:(Tryz.prog.info? 50).map (fun i=>(i.zero,i.size,i.bytes))=some (some (.agg #[.string ⟨#[]⟩,.string ⟨#[]⟩]),2,32):=by kernel_rfl
theorem own_two{w:World}{gb cap gc:Nat}{e:TypeId}{n size:Nat}{xs:List Value}{i:Nat}{u:Value}(h:w.ownsRow 0 e size (.slice (some ⟨gb,0,none⟩) n cap) n xs)(hne:gb≠gc):(w.setCell ⟨gc,i,none⟩ u).ownsRow 0 e size (.slice (some ⟨gb,0,none⟩) n cap) n xs:=by
 obtain ⟨hl,h|⟨g,c,cur,hv,h1,hg,r⟩⟩:=h
 ·exact ⟨hl,.inl h⟩
 have hgb:g=gb:=by injection hv with hv;injection hv with hv;injection hv with hv;exact hv.symm
 exact ⟨hl,.inr ⟨g,c,cur,hv,h1,(Below.heap_setCell _ _ _ _ (by rw[hgb];exact hne)).trans hg,r⟩⟩
theorem takeX(gc gm:Nat)(w:World)(hc:w.heap[gc]? =some (.cells #[.slice none 0 0,.map (some gm),.int .i64 0] chT (0,0)))(hg:w.heap[gm]? =some (.map #[] 0)):
 Calls Tryz.prog 81 #[.pointer (some ⟨gc,0,none⟩),.agg enV] w fun r w' =>r=.returned (.int .i64 0)∧Only (fun k=>k=gc∨k=gm) w w' ∧ ∃v,OneF w' v sX sY∧w'.heap[gc]? =some (.cells #[v,.map (some gm),.int .i64 1] chT (0,0)):=by
 have hgc:=(Array.getElem?_eq_some_iff.1 hc).1
 have hgm:=(Array.getElem?_eq_some_iff.1 hg).1
 have hne:gc≠gm:=by rintro rfl;rw[hc] at hg;injection hg with hg;cases hg
 have hA:Old w (w.alloc (.cells enV 39)):=(Only.refl _ w).alloc _
 have HE:Hid (EnAt (w.alloc (.cells enV 39)) w.heap.size):=⟨by rw[World.size_alloc];omega,by rw[cell_of_row _ _ 0 _ _ (0,0) (Go.heap_alloc_new _ _)];rfl,by rw[cell_of_row _ _ 1 _ _ (0,0) (Go.heap_alloc_new _ _)];rfl,by rw[cell_of_row _ _ 2 _ _ (0,0) (Go.heap_alloc_new _ _)];rfl⟩
 have HC:=hide (old_heap hA hc)
 have HG:=hide (old_heap hA hg)
 have HO:=hide hA
 clear hA hc hg
 go_in
 go_upto_region 2 with fail
 generalize w.alloc (.cells #[.string sX,.bool false,.string sY] 39)=W at*
 have hc1:W.cell? ⟨gc,1,none⟩=some (.map (some gm)):=by rw[cell_of_row W gc 1 _ _ (0,0) (uh HC)];rfl
 have HSW:W.drew.cell? ⟨gc,1,none⟩=some (.map (some gm))∧W.drew.cell? ⟨w.heap.size,0,none⟩=some (.string sX)∧True:=⟨hc1,(uh HE).2.1,trivial⟩
 have H1:=hide (clashesX gm W.drew (uh HG))
 refine wp_region_last (S:=fun W=>W.cell? ⟨gc,1,none⟩=some (.map (some gm))∧W.cell? ⟨w.heap.size,0,none⟩=some (.string sX)∧True) (L:=7) (by kernel_rfl) ?_
 refine tk 0 8 (.pointer (some ⟨gc,0,none⟩)) 10 HSW ?_
 refine tk 1 8 (.pointer (some ⟨gc,0,none⟩)) 11 HSW ?_
 refine tk 2 8 (.pointer (some ⟨gc,1,none⟩)) 12 HSW ?_
 refine tk 3 8 (.map (some gm)) 13 HSW ?_
 refine tk 4 8 (.pointer (some ⟨w.heap.size,0,none⟩)) 14 HSW ?_
 refine tk 5 8 (.string sX) 15 HSW ?_
 refine wpAnyL_one (i:=6) (by kernel_rfl) ?_
 refine wpOp_step rfl (fun K' hK=> ?_)
 go_simp
 refine (uh H1).mono ?_
 rintro r w1 ⟨rfl,ho1⟩
 have ho1' :Old W w1:=((Only.refl _ W).drew).trans ho1
 have HE1:=hide ((uh HE).old ho1')
 have HC1:=hide (old_heap ho1' (uh HC))
 have HG1:=hide (old_heap ho1' (uh HG))
 have HO1:=hide (Only.trans (uh HO) ho1')
 have hc11:w1.cell? ⟨gc,1,none⟩=some (.map (some gm)):=by rw[cell_of_row w1 gc 1 _ _ (0,0) (uh HC1)];rfl
 refine hK _ _ ⟨fun _=>⟨hc11,(uh HE1).2.1,trivial⟩, ?_⟩
 clear hK H1 ho1 ho1' HSW HE HC HG HO
 refine wpAnyL_one (i:=7) (by kernel_rfl) ?_
 refine wpOp_step rfl (fun K' hK=> ?_)
 go_simp
 refine hK _ _ ⟨fun h=>absurd rfl h, ?_⟩
 clear hK
 refine wpAnyL_done (by kernel_rfl) ?_
 have hn1:=(uh HE1).2.1
 have H2:=hide (otherX w1)
 go_wp2_with fail
 refine (uh H2).mono ?_
 rintro r w2 ⟨rfl,ho2⟩
 have HE2:=hide ((uh HE1).old ho2)
 have HC2:=hide (old_heap ho2 (uh HC1))
 have HG2:=hide (old_heap ho2 (uh HG1))
 have HO2:=hide (Only.trans (uh HO1) ho2)
 have hn2:=(uh HE2).2.1
 have hd2:=(uh HE2).2.2.2
 have hc20:w2.cell? ⟨gc,0,none⟩=some (.slice none 0 0):=by rw[cell_of_row w2 gc 0 _ _ (0,0) (uh HC2)];rfl
 have hc21:w2.cell? ⟨gc,1,none⟩=some (.map (some gm)):=by rw[cell_of_row w2 gc 1 _ _ (0,0) (uh HC2)];rfl
 have hc22:w2.cell? ⟨gc,2,none⟩=some (.int .i64 0):=by rw[cell_of_row w2 gc 2 _ _ (0,0) (uh HC2)];rfl
 clear H2 ho2 HE1 HC1 HG1 HO1 hn1 hc11 hc1
 go_wp2_with fail
 refine (mostX _).mono ?_
 rintro r w3 ⟨rfl,rfl⟩
 go_upto_region 12 with fail
 have HSW:w3.drew.cell? ⟨gc,1,none⟩=some (.map (some gm))∧w3.drew.cell? ⟨w.heap.size,0,none⟩=some (.string sX)∧True:=⟨hc21,hn2,trivial⟩
 have H3:=hide (addX gm w3.drew (uh HG2))
 refine wp_region_last (S:=fun W=>W.cell? ⟨gc,1,none⟩=some (.map (some gm))∧W.cell? ⟨w.heap.size,0,none⟩=some (.string sX)∧True) (L:=6) (by kernel_rfl) ?_
 refine tk 0 7 (.pointer (some ⟨gc,0,none⟩)) 42 HSW ?_
 refine tk 1 7 (.pointer (some ⟨gc,0,none⟩)) 43 HSW ?_
 refine tk 2 7 (.pointer (some ⟨gc,1,none⟩)) 44 HSW ?_
 refine tk 3 7 (.map (some gm)) 45 HSW ?_
 refine tk 4 7 (.pointer (some ⟨w.heap.size,0,none⟩)) 46 HSW ?_
 refine tk 5 7 (.string sX) 47 HSW ?_
 refine wpAnyL_one (i:=6) (by kernel_rfl) ?_
 refine wpOp_step rfl (fun K' hK=> ?_)
 go_simp
 refine (uh H3).mono ?_
 rintro r w4 ⟨rfl,ho4⟩
 have ho4' :Only (fun k=>k=gm) w3 w4:=((Only.refl _ w3).drew).trans ho4
 refine hK _ _ ⟨fun h=>absurd rfl h, ?_⟩
 clear hK
 refine wpAnyL_done (by kernel_rfl) ?_
 have hneE:w.heap.size≠gm:=by omega
 have HE4:=hide ((uh HE2).kept ho4' hneE)
 have HC4:=hide ((ho4'.block gc (Array.getElem?_eq_some_iff.1 (uh HC2)).1 hne).trans (uh HC2))
 have HO4:Hid (Only (fun k=>k=gc∨k=gm) w w4):=(Only.oldS (uh HO2)).transNew ho4' (fun _ _ h=> .inr h)
 clear H3 ho4 ho4' HSW HE2 HC2 HG2 HO2 hn2 hd2 hc20 hc21 hc22
 have hc42:w4.cell? ⟨gc,2,none⟩=some (.int .i64 0):=by rw[cell_of_row w4 gc 2 _ _ (0,0) (uh HC4)];rfl
 have hf42:w4.frozen? ⟨gc,2,none⟩=false:=frozen_of_row w4 gc 2 _ _ (uh HC4)
 have HSW:w4.drew.cell? ⟨gc,2,none⟩=some (.int .i64 0)∧w4.drew.cell? ⟨w.heap.size,2,none⟩=some (.string sY)∧True:=⟨hc42,(uh HE4).2.2.2,trivial⟩
 have hwr1:IntKind.i64.wrap 1=1:=by decide
 go_upto_region 13 with fail
 refine wp_region_last (S:=fun W=>W.cell? ⟨gc,2,none⟩=some (.int .i64 0)∧W.cell? ⟨w.heap.size,2,none⟩=some (.string sY)∧True) (L:=10) (by kernel_rfl) ?_
 refine tk 0 11 (.pointer (some ⟨gc,0,none⟩)) 49 HSW ?_
 refine tk 1 11 (.pointer (some ⟨gc,0,none⟩)) 50 HSW ?_
 refine tk 2 11 (.pointer (some ⟨gc,2,none⟩)) 51 HSW ?_
 refine tk 3 11 (.int .i64 0) 52 HSW ?_
 refine tk 4 11 (.pointer (some ⟨w.heap.size,2,none⟩)) 53 HSW ?_
 refine tk 5 11 (.string sY) 54 HSW ?_
 refine tk 6 11 (.int .i64 1) 55 HSW ?_
 refine tk 7 11 (.int .i64 1) 56 HSW ?_
 refine tk 8 11 (.pointer (some ⟨gc,0,none⟩)) 57 HSW ?_
 refine tk 9 11 (.pointer (some ⟨gc,2,none⟩)) 58 HSW ?_
 refine wpAnyL_one (i:=10) (by kernel_rfl) ?_
 refine wpOp_step rfl (fun K' hK=> ?_)
 go_simp
 refine hK _ _ ⟨fun h=>absurd rfl h, ?_⟩
 clear hK
 refine wpAnyL_done (by kernel_rfl) ?_
 have HC5:Hid ((w4.setCell ⟨gc,2,none⟩ (.int .i64 1)).drew.heap[gc]? =some (.cells #[.slice none 0 0,.map (some gm),.int .i64 1] chT (0,0))):=heap_setCell_same w4 gc 2 _ _ _ (uh HC4)
 have ho5:Only (fun k=>k=gc) w4 (w4.setCell ⟨gc,2,none⟩ (.int .i64 1)).drew:=(only_set w4 gc 2 _).drew
 have HE5:=hide ((uh HE4).kept ho5 (by omega))
 have HO5:Hid (Only (fun k=>k=gc∨k=gm) w (w4.setCell ⟨gc,2,none⟩ (.int .i64 1)).drew):=(uh HO4).transNew ho5 (fun _ _ h=> .inl h)
 clear HSW HC4 HE4 HO4 hc42 hf42 ho5
 generalize (w4.setCell ⟨gc,2,none⟩ (.int .i64 1)).drew=w5 at*
 have hc50:w5.cell? ⟨gc,0,none⟩=some (.slice none 0 0):=by rw[cell_of_row w5 gc 0 _ _ (0,0) (uh HC5)];rfl
 have HSW:w5.drew.cell? ⟨gc,0,none⟩=some (.slice none 0 0)∧w5.drew.cell? ⟨w.heap.size,0,none⟩=some (.string sX)∧w5.drew.cell? ⟨w.heap.size,2,none⟩=some (.string sY):=⟨hc50,(uh HE5).2.1,(uh HE5).2.2.2⟩
 go_upto_region 14 with fail
 refine wp_region_last (S:=fun W=>W.cell? ⟨gc,0,none⟩=some (.slice none 0 0)∧W.cell? ⟨w.heap.size,0,none⟩=some (.string sX)∧W.cell? ⟨w.heap.size,2,none⟩=some (.string sY)) (L:=16) (by kernel_rfl) ?_
 refine tk 0 17 (.pointer (some ⟨gc,0,none⟩)) 59 HSW ?_
 refine tk 1 17 (.pointer (some ⟨gc,0,none⟩)) 60 HSW ?_
 refine tk 2 17 (.pointer (some ⟨gc,0,none⟩)) 61 HSW ?_
 refine tk 3 17 (.pointer (some ⟨gc,0,none⟩)) 62 HSW ?_
 refine tk 4 17 (.slice none 0 0) 63 HSW ?_
 refine tk 5 17 (.pointer (some ⟨w.heap.size,0,none⟩)) 64 HSW ?_
 refine tk 6 17 (.string sX) 65 HSW ?_
 refine tk 8 17 (.pointer (some ⟨w.heap.size,2,none⟩)) 67 HSW ?_
 refine tk 9 17 (.string sY) 68 HSW ?_
 refine wpAnyL_one (i:=7) (by kernel_rfl) ?_
 refine wpOp_step rfl (fun K' hK=> ?_)
 go_simp
 refine (cloneX sX (by decide) _).mono ?_
 rintro r w6 ⟨rfl,ho6⟩
 have ho6' :Old w5 w6:=((Only.refl _ w5).drew).trans ho6
 have HE6:=hide ((uh HE5).old ho6')
 have HC6:=hide (old_heap ho6' (uh HC5))
 have HO6:Hid (Only (fun k=>k=gc∨k=gm) w w6):=(uh HO5).trans (Only.oldS ho6')
 have hs6:w6.cell? ⟨gc,0,none⟩=some (.slice none 0 0)∧w6.cell? ⟨w.heap.size,0,none⟩=some (.string sX)∧w6.cell? ⟨w.heap.size,2,none⟩=some (.string sY):=⟨by rw[cell_of_row w6 gc 0 _ _ (0,0) (uh HC6)];rfl,(uh HE6).2.1,(uh HE6).2.2.2⟩
 refine hK _ _ ⟨fun _=>hs6, ?_⟩
 clear hK HSW ho6 ho6' HE5 HC5 HO5 hc50 hs6
 refine wpAnyL_one (i:=10) (by kernel_rfl) ?_
 refine wpOp_step rfl (fun K' hK=> ?_)
 go_simp
 refine (cloneX sY (by decide) _).mono ?_
 rintro r w7 ⟨rfl,ho7⟩
 have HE7:=hide ((uh HE6).old ho7)
 have HC7:=hide (old_heap ho7 (uh HC6))
 have HO7:Hid (Only (fun k=>k=gc∨k=gm) w w7):=(uh HO6).trans (Only.oldS ho7)
 have HSW:w7.cell? ⟨gc,0,none⟩=some (.slice none 0 0)∧w7.cell? ⟨w.heap.size,0,none⟩=some (.string sX)∧w7.cell? ⟨w.heap.size,2,none⟩=some (.string sY):=⟨by rw[cell_of_row w7 gc 0 _ _ (0,0) (uh HC7)];rfl,(uh HE7).2.1,(uh HE7).2.2.2⟩
 refine hK _ _ ⟨fun _=>HSW, ?_⟩
 clear hK ho7 HE6 HC6 HO6
 refine tk 11 17 (.agg #[.string sX,.string sY]) 70 HSW ?_
 refine wpAnyL_one (i:=12) (by kernel_rfl) ?_
 refine wpOp_step rfl (fun K' hK=> ?_)
 go_simp
 have hA8:Old w7 (w7.alloc (.cells #[.string sX,.string sY] 50)):=(Only.refl _ w7).alloc _
 have HNW:=hide (new_cells w7 [.string sX,.string sY] 50)
 have HE8:=hide ((uh HE7).old hA8)
 have HC8:=hide (old_heap hA8 (uh HC7))
 have HO8:Hid (Only (fun k=>k=gc∨k=gm) w (w7.alloc (.cells #[.string sX,.string sY] 50))):=(uh HO7).trans (Only.oldS hA8)
 have HSZ:Hid ((w7.alloc (.cells #[.string sX,.string sY] 50)).heap.size=w7.heap.size+1):=by unfold Hid;rw[World.size_alloc]
 have hs8:(w7.alloc (.cells #[.string sX,.string sY] 50)).cell? ⟨gc,0,none⟩=some (.slice none 0 0)∧(w7.alloc (.cells #[.string sX,.string sY] 50)).cell? ⟨w.heap.size,0,none⟩=some (.string sX)∧(w7.alloc (.cells #[.string sX,.string sY] 50)).cell? ⟨w.heap.size,2,none⟩=some (.string sY):=⟨by rw[cell_of_row _ gc 0 _ _ (0,0) (uh HC8)];rfl,(uh HE8).2.1,(uh HE8).2.2.2⟩
 refine hK _ _ ⟨fun _=>hs8, ?_⟩
 clear hK HSW hA8 hs8 HE7 HC7 HO7
 obtain ⟨i0,hi0,hz0,hz1,hz2⟩:=info_parts infoF2
 refine wpAnyL_one (i:=13) (by kernel_rfl) ?_
 refine op_plain rfl rfl (wp_append_lies _ (.tmp 63) (.tmp 71) 41 rfl 0 50 i0 (.agg #[.string ⟨#[]⟩,.string ⟨#[]⟩]) 2 32 Tryz.underlying41 hi0 hz0 hz1 hz2 rfl (by omega) (.slice none 0 0) 0 [] rfl (World.ownsRow_nil _ _ _ _) ⟨w7.heap.size,0,none⟩ 1 1 [.string sX,.string sY] rfl rfl (uh HNW) (by intro u hu;simp at hu;rcases hu with rfl|rfl<;>rfl) (by omega) (by unfold maxLen;omega) (by omega) (by omega) (w7.heap.size+1) (uh HSZ) ?_)
 intro gb cap2 w9 ho9 hg9 hl9 hlt9
 have ho89:Old (w7.alloc (.cells #[.string sX,.string sY] 50)) w9:=(Only.refl _ _).grown hg9 (fun k _ e=>by cases e)
 have HE9:=hide ((uh HE8).old ho89)
 have HC9:=hide (old_heap ho89 (uh HC8))
 have HO9:Hid (Only (fun k=>k=gc∨k=gm) w w9):=(uh HO8).trans (Only.oldS ho89)
 have HOW9:=hide ho9
 have HGB:Hid (gb≠gc):=by
  unfold Hid
  rcases hl9 with h|h
  ·cases h
  have:=(Array.getElem?_eq_some_iff.1 (uh HC8)).1
  have hz:=uh HSZ
  omega
 have HSW:w9.cell? ⟨gc,0,none⟩=some (.slice none 0 0)∧w9.cell? ⟨w.heap.size,0,none⟩=some (.string sX)∧w9.cell? ⟨w.heap.size,2,none⟩=some (.string sY):=⟨by rw[cell_of_row w9 gc 0 _ _ (0,0) (uh HC9)];rfl,(uh HE9).2.1,(uh HE9).2.2.2⟩
 have hf9:w9.frozen? ⟨gc,0,none⟩=false:=frozen_of_row w9 gc 0 _ _ (uh HC9)
 refine ⟨fun _=>HSW, ?_⟩
 simp only[Act.put,List.getElem_toArray,List.getElem_cons_succ,List.getElem_cons_zero,List.setIfInBounds_toArray,List.set_cons_zero,List.set_cons_succ,Nat.zero_add]
 clear ho89 ho9 hg9 hl9 hlt9 HE8 HC8 HO8 HNW HSZ
 refine tk 14 17 (.pointer (some ⟨gc,0,none⟩)) 73 HSW ?_
 refine tk 15 17 (.pointer (some ⟨gc,0,none⟩)) 74 HSW ?_
 refine wpAnyL_one (i:=16) (by kernel_rfl) ?_
 refine wpOp_step rfl (fun K' hK=> ?_)
 have hc90:=HSW.1
 go_simp
 refine hK _ _ ⟨fun h=>absurd rfl h, ?_⟩
 clear hK
 refine wpAnyL_done (by kernel_rfl) ?_
 go_wp2_with fail
 go_ret
 refine ⟨rfl,(uh HO9).setCell (p:=⟨gc,0,none⟩) (fun _=> .inl rfl) _,.slice (some ⟨gb,0,none⟩) 1 cap2,⟨cap2, ?_,gb,rfl⟩,heap_setCell_same w9 gc 0 _ _ _ (uh HC9)⟩
 exact own_two (uh HOW9) (uh HGB)
end Go.Proofs.YtndfmgdhiallpaaGreatDoor
