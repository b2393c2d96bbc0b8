import Derived.Test.YtndfmgdhiallpaaGreatDoorJa
import Derived.Test.YtndfmgdhiallpaaGreatDoorMr
import Derived.Test.YtndfmgdhiallpaaGreatDoorMp
import Derived.Test.YtndfmgdhiallpaaGreatDoorMc
import Derived.Maps.RangeWalk
import Derived.Deep.AppendLies
set_option maxRecDepth 100000
set_option maxHeartbeats 400000
namespace Go.Proofs.YtndfmgdhiallpaaGreatDoor
open Go.RowKit
abbrev sX:ByteArray:=⟨#[120]⟩
abbrev sY:ByteArray:=⟨#[121]⟩
theorem smallX(w:World):Calls Tryz.prog 250 #[.string sX] w fun r w' =>r=.returned (.string sX)∧Old w w' :=by
 have hcb:=Lib.run_convert_string_bytes (P:=Tryz.prog) w 9 62 5 sX Tryz.underlying9 Tryz.underlying62 Tryz.underlying5
 have hR:SRow (Lib.bytesWorld w 5 sX) w.heap.size [120]:=SRow.made w sX
 have HO:=hide (bytesWorld_only w sX)
 have hc0:=hR.cell 0 (by decide)
 have hcv:(convert 62 9 (.slice (some ⟨w.heap.size,0,none⟩) 1 (grownCap w sX.size 0 5))).run Tryz.prog (Lib.bytesWorld w 5 sX)=.ok (.string sX) (Lib.bytesWorld w 5 sX):=hR.back
 have hsz:sX.size=1:=rfl
 rw[hsz] at hcb hcv
 clear hR
 generalize Lib.bytesWorld w 5 sX=W at*
 generalize grownCap w 1 0 5=cap at*
 go_in
 go_wp2_with fail
 clear hcb
 go_loop [4,5,10] (fun _ _ x=> ∃i:Nat,i≤1∧x=.int .i64 i) (fun _ _ x=>1- (intOf x).toNat)
 ·exact ⟨0,by omega,rfl⟩
 obtain ⟨i,hi,rfl⟩:=hrel
 have hcs:i=0∨i=1:=by omega
 rcases hcs with rfl|rfl
 ·have HC:=hide (capC 120 W (by omega))
  have e:capB 120=false:=by decide
  rw[e] at HC
  go_wp2_with fail
  refine (uh HC).mono ?_
  rintro e w' ⟨rfl,rfl⟩
  go_wp2_with fail
  go_round
  ·exact ⟨1,by omega,by go_num⟩
  simp[intOf]
 go_wp2_with fail
 go_ret
 exact ⟨rfl,HO⟩
theorem reservedX(w:World)(hm:MaxAt w):Calls Tryz.prog 275 #[.string sX] w fun r w' =>r=.returned (.bool false)∧Old w w' :=by
 go_in
 go_wp2_with fail
 refine (smallX w).mono ?_
 rintro e w1 ⟨rfl,ho1⟩
 obtain ⟨m,hm1⟩:=hm.old ho1
 have H2:=hide (Tryz.strings_Cut sX ⟨#[46]⟩ m w1 (by decide) hm1)
 have e3:Lib.cut sX.data.toList (⟨#[46]⟩:ByteArray).data.toList=([120],[],false):=by decide
 rw[e3] at H2
 have HO1:=hide ho1
 clear ho1 hm hm1
 go_wp2_with fail
 refine (uh H2).mono ?_
 rintro e w2 ⟨rfl,n,rfl⟩
 clear H2
 go_wp2_with fail
 go_ret
 exact ⟨rfl,(uh HO1).drewN n⟩
theorem elementX(w:World)(hm:MaxAt w):Calls Tryz.prog 175 #[.string sX] w fun r w' =>r=.returned (.bool true)∧Old w w' :=by
 have H1:=hide (onlyFile sX (by decide) w)
 have e:onlyB fileB sX=true:=by decide
 rw[e] at H1
 have H2:=hide (Tryz.strings_HasSuffix sX ⟨#[46]⟩ w (by decide))
 have e2:Lib.hasSuffix sX.data.toList (⟨#[46]⟩:ByteArray).data.toList=false:=by decide
 rw[e2] at H2
 have H3:=hide (Tryz.strings_HasSuffix sX ⟨#[32]⟩ w (by decide))
 have e3:Lib.hasSuffix sX.data.toList (⟨#[32]⟩:ByteArray).data.toList=false:=by decide
 rw[e3] at H3
 have H4:=hide (reservedX w hm)
 clear hm
 go_in
 go_wp2_with fail
 refine (uh H1).mono ?_
 rintro e w1 ⟨rfl,rfl⟩
 go_wp2_with fail
 refine (uh H2).mono ?_
 rintro e w2 ⟨rfl,rfl⟩
 go_wp2_with fail
 refine (uh H3).mono ?_
 rintro e w3 ⟨rfl,rfl⟩
 go_wp2_with fail
 refine (uh H4).mono ?_
 rintro e w4 ⟨rfl,ho4⟩
 have HO:=hide ho4
 clear ho4 H4
 go_wp2_with fail
 go_ret
 exact ⟨rfl,HO⟩
theorem isFileX(w:World)(hm:MaxAt w):Calls Tryz.prog 93 #[.string sX] w fun r w' =>r=.returned (.bool true)∧Old w w' :=by
 have HM:Hid (MaxAt (w.alloc (.cells #[.string sX] 9))):=hm.old ((Only.refl _ w).alloc _)
 obtain ⟨m,hm⟩:=hm
 have H3:=hide (Tryz.strings_Split sX ⟨#[47]⟩ m w (by decide) hm (by decide))
 have e4:Lib.countB sX ⟨#[47]⟩=0:=by decide
 have e5:((Lib.splitB ⟨#[47]⟩ 0 0 sX).map Value.string).toArray= #[.string sX]:=by rfl
 simp only[e4,e5] at H3
 clear e5 e4 hm
 go_in
 go_wp2_with fail
 refine (uh H3).mono ?_
 rintro e w3 ⟨rfl,rfl⟩
 have HO:Hid (Old w (w.alloc (.cells #[.string sX] 9))):=(Only.refl _ w).alloc _
 have hc0:(w.alloc (.cells #[.string sX] 9)).cell? ⟨w.heap.size,0,none⟩=some (.string sX):=by rw[cell_of_row _ _ 0 _ _ (0,0) (Go.heap_alloc_new _ _)];rfl
 have hlt:w.heap.size<(w.alloc (.cells #[.string sX] 9)).heap.size:=by rw[World.size_alloc];omega
 clear H3
 generalize w.alloc (.cells #[.string sX] 9)=W at*
 generalize hgw:w.heap.size=gW at*
 clear hgw
 go_wp2_with fail
 go_loopw [4,11] (fun _ x wr=> ∃i:Nat,i≤1∧x=.int .i64 i∧wr.cell? ⟨gW,0,none⟩=some (.string sX)∧Hid (MaxAt wr)∧Hid (Old w wr)∧Hid (gW<wr.heap.size)) (fun _ x _=>1- (intOf x).toNat)
 ·exact ⟨0,by omega,rfl,hc0,HM,HO,hlt⟩
 obtain ⟨i,hi,rfl,hcr,HM,HO,HL⟩:=hrel
 have hcs:i=0∨i=1:=by omega
 rcases hcs with rfl|rfl
 ·have HE:=hide (elementX wr (uh HM))
  go_wp2_with fail
  refine (uh HE).mono ?_
  rintro e w' ⟨rfl,ho'⟩
  have hcr' :w'.cell? ⟨gW,0,none⟩=some (.string sX):=(ho'.cell (p:=⟨gW,0,none⟩) (uh HL) (fun x=>x)).trans hcr
  have HM' :=hide ((uh HM).old ho')
  have HO' :=hide (Only.trans (uh HO) ho')
  have HL' :Hid (gW<w'.heap.size):=Nat.lt_of_lt_of_le (uh HL) ho'.size
  clear ho' HE HM HO HL
  go_wp2_with fail
  go_roundw
  ·exact ⟨1,by omega,by go_num,hcr',HM',HO',HL'⟩
  simp[intOf]
 go_wp2_with fail
 go_ret
 exact ⟨rfl,HO⟩
theorem otherX(w:World):Calls Tryz.prog 155 #[.string sX] w fun r w' =>r=.returned (.bool false)∧Old w w' :=by
 go_in
 go_wp2_with fail
 refine (smallX w).mono ?_
 rintro e w1 ⟨rfl,ho1⟩
 have HO:=hide ho1
 clear ho1
 go_wp2_with fail
 go_ret
 exact ⟨rfl,HO⟩
theorem mostX(w:World):Calls Tryz.prog 156 #[.string sX] w fun r w' =>r=.returned (.int .i64 4000)∧w' =w:=by
 go_in
 go_wp2_with fail
 go_ret
 exact ⟨rfl,rfl⟩
open Go.RowKit Go.Maps
theorem infoS9:(Tryz.prog.info? 9).map (fun i=>(i.zero,i.size,i.bytes))=some (some (.string ⟨#[]⟩),1,16):=by kernel_rfl
theorem new_cells(wr:World)(news:List Value)(e:TypeId): ∀j u,news[j]? =some u→(wr.alloc (.cells news.toArray e)).cell? ((⟨wr.heap.size,0,none⟩:Addr).add j)=some u:=by
 intro j u hu
 rw[Addr.add_lit,Nat.zero_add,cell_of_row _ _ j _ e (0,0) (Go.heap_alloc_new wr _)]
 simpa using hu
theorem foldersX(w:World):Calls Tryz.prog 312 #[.string sX] w fun r w' =>r=.returned (.slice none 0 0)∧w' =w:=by
 go_in
 go_wp2_with fail
 go_loop [3,4,7] (fun l _ x=>l=.slice none 0 0∧ ∃i:Nat,i≤1∧x=.int .i64 i) (fun _ _ x=>1- (intOf x).toNat)
 ·exact ⟨rfl,0,by omega,rfl⟩
 obtain ⟨rfl,i,hi,rfl⟩:=hrel
 have hcs:i=0∨i=1:=by omega
 rcases hcs with rfl|rfl
 ·go_wp2_with fail
  go_round
  ·exact ⟨rfl,1,by omega,by go_num⟩
  simp[intOf]
 go_wp2_with fail
 go_ret
 exact ⟨rfl,rfl⟩
theorem beginningsX(w:World):Calls Tryz.prog 249 #[.string sX] w fun r w' => ∃g cap,r=.returned (.slice (some ⟨g,0,none⟩) 1 cap)∧Old w w' ∧w'.cell? ⟨g,0,none⟩=some (.string sX)∧g<w'.heap.size:=by
 obtain ⟨i0,hi0,hz0,hz1,hz2⟩:=info_parts infoS9
 have HOW:Hid ((w.alloc (.cells #[.string sX] 9)).ownsRow 0 9 1 (.slice none 0 0) 0 []):=World.ownsRow_nil _ _ _ _
 have HNW:=hide (new_cells w [.string sX] 9)
 have HO:Hid (Old w (w.alloc (.cells #[.string sX] 9))):=(Only.refl _ w).alloc _
 go_in
 go_wp2_with fail
 refine (foldersX w).mono ?_
 rintro e w1 ⟨rfl,rfl⟩
 go_wp2_with (at_builtin;refine wpList_append_lies _ rfl (.tmp 4) (.tmp 6) 45 rfl 0 9 i0 (.string ⟨#[]⟩) 1 16 Tryz.underlying45 hi0 hz0 hz1 hz2 rfl (by omega) (.slice none 0 0) 0 _ rfl (uh HOW) ⟨w1.heap.size,0,none⟩ 1 1 [.string sX] rfl rfl (uh HNW) (by intro u hu;simp at hu;subst hu;rfl) (by omega) (by unfold maxLen;omega) (by omega) (by omega) (w1.heap.size+1) (by simp) ?_;intro gb cap2 w3 ho3 hg3 hl3 hlt3;have HO3:=hide ho3;have HG3:=hide hg3;have HLT:=hide hlt3;clear ho3 hg3 hl3 hlt3)
 go_ret
 refine ⟨gb,cap2,rfl,(uh HO).grown (uh HG3) (fun k _ e=>by cases e), ?_,uh HLT⟩
 have h1:=(uh HO3).cells rfl 0 (.string sX) rfl
 rw[Addr.add_lit,Nat.zero_add] at h1
 exact h1
abbrev metT:TypeId:=120
abbrev spT:TypeId:=277
theorem zeroSp(w:World):(zeroValue spT).run Tryz.prog w=.ok (.agg #[.string ⟨#[]⟩,.bool false]) w:=by kernel_rfl
def anyElem:Value→Option (DataW Unit×List MemPlace):=fun _=>some (.nil,[])
theorem fit_empty:WideElems.Fit Tryz.prog 9 anyElem #[] 0:=⟨by simp,MapKept.stamped_empty 0,by simp⟩
theorem look_empty{w:World}{gm:Nat}(hg:w.heap[gm]? =some (.map #[] 0))(s:ByteArray)(hs:s.size≤maxLen):(Instr.lookup metT (.map (some gm)) (.string s) true).run Tryz.prog w=.ok (.tuple #[.agg #[.string ⟨#[]⟩,.bool false],.bool false]) w:=by
 rcases Maps.fit_look true strKeyed Tryz.underlying120 (zeroSp w) hg fit_empty (key9 s hs) with ⟨hrun,_,_⟩|⟨e0,y,h1,_⟩
 ·exact hrun
 simp at h1
theorem clashesX(gm:Nat)(w:World)(hg:w.heap[gm]? =some (.map #[] 0)):Calls Tryz.prog 154 #[.map (some gm),.string sX] w fun r w' =>r=.returned (.bool false)∧Old w w' :=by
 have HG:=hide hg
 have hgl:=(Array.getElem?_eq_some_iff.1 hg).1
 clear hg
 go_in
 go_wp2_with fail
 refine (beginningsX w).mono ?_
 rintro e w1 ⟨g,cap,rfl,ho1,hc1,hl1⟩
 have HO1:=hide ho1
 have HL1:=hide hl1
 have HG1:=hide (old_heap ho1 (uh HG))
 clear ho1 hl1
 go_wp2_with fail
 go_loopw [6,7,8,12] (fun _ _ _ x wr=> ∃i:Nat,i≤1∧x=.int .i64 i∧wr.cell? ⟨g,0,none⟩=some (.string sX)∧Hid (wr.heap[gm]? =some (.map #[] 0))∧Hid (Old w wr)∧Hid (g<wr.heap.size)) (fun _ _ _ x _=>1- (intOf x).toNat)
 ·exact ⟨0,by omega,rfl,hc1,HG1,HO1,HL1⟩
 obtain ⟨i,hi,rfl,hcr,HGR,HO,HL⟩:=hrel
 have hcs:i=0∨i=1:=by omega
 rcases hcs with rfl|rfl
 ·have HE:=hide (smallX wr)
  go_wp2_with fail
  refine (uh HE).mono ?_
  rintro e w' ⟨rfl,ho'⟩
  have hgr' :=old_heap ho' (uh HGR)
  have hlk:=look_empty hgr' sX (by decide)
  have hcr' :(w'.alloc (.cells #[.string ⟨#[]⟩,.bool false] spT)).cell? ⟨g,0,none⟩=some (.string sX):=(((Only.refl (fun _=>False) w').alloc _).cell (p:=⟨g,0,none⟩) (Nat.lt_of_lt_of_le (uh HL) ho'.size) (fun x=>x)).trans ((ho'.cell (p:=⟨g,0,none⟩) (uh HL) (fun x=>x)).trans hcr)
  have HG' :Hid ((w'.alloc (.cells #[.string ⟨#[]⟩,.bool false] spT)).heap[gm]? =some (.map #[] 0)):=old_heap ((Only.refl _ w').alloc _) hgr'
  have HO' :Hid (Old w (w'.alloc (.cells #[.string ⟨#[]⟩,.bool false] spT))):=(Only.trans (uh HO) ho').alloc _
  have HL' :Hid (g<(w'.alloc (.cells #[.string ⟨#[]⟩,.bool false] spT)).heap.size):=by unfold Hid;rw[World.size_alloc];exact Nat.lt_of_lt_of_le (Nat.lt_of_lt_of_le (uh HL) ho'.size) (by omega)
  clear ho' HE HGR HO HL hgr'
  go_wp2_with fail
  clear hlk
  go_roundw
  ·exact ⟨1,by omega,by go_num,hcr',HG',HO',HL'⟩
  simp[intOf]
 go_wp2_with fail
 go_ret
 exact ⟨rfl,HO⟩
theorem addX(gm:Nat)(w:World)(hg:w.heap[gm]? =some (.map #[] 0)):Calls Tryz.prog 157 #[.map (some gm),.string sX] w fun r w' =>r=.returned (.tuple #[])∧Only (fun k=>k=gm) w w' :=by
 have HG:=hide hg
 clear hg
 go_in
 go_wp2_with fail
 refine (beginningsX w).mono ?_
 rintro e w1 ⟨g,cap,rfl,ho1,hc1,hl1⟩
 have HO1:Hid (Only (fun k=>k=gm) w w1):=Only.oldS ho1
 have hG1:=old_heap ho1 (uh HG)
 have HW1:Hid (∃n D,w1.ownsMap Tryz.prog 9 anyElem gm n D∧n≤0):=⟨0,_,⟨#[],0,hG1,fit_empty,Nat.le_refl _,rfl⟩,Nat.le_refl _⟩
 have HL1:=hide hl1
 have HNE:Hid (g≠gm):=by
  rintro rfl
  simp[World.cell?,hG1] at hc1
 clear ho1 hl1 hG1 HG
 go_wp2_with fail
 go_loopw [5,9] (fun _ x wr=> ∃i:Nat,i≤1∧x=.int .i64 i∧wr.cell? ⟨g,0,none⟩=some (.string sX)∧Hid (∃n D,wr.ownsMap Tryz.prog 9 anyElem gm n D∧n≤i)∧Hid (Only (fun k=>k=gm) w wr)∧Hid (g<wr.heap.size)) (fun _ x _=>1- (intOf x).toNat)
 ·exact ⟨0,by omega,rfl,hc1,HW1,HO1,HL1⟩
 obtain ⟨i,hi,rfl,hcr,HMR,HO,HL⟩:=hrel
 have hcs:i=0∨i=1:=by omega
 rcases hcs with rfl|rfl
 ·have HE:=hide (smallX wr)
  go_wp2_with fail
  refine (uh HE).mono ?_
  rintro e w' ⟨rfl,ho'⟩
  obtain ⟨n,D,hown,hn⟩:=uh HMR
  have hown' :w'.ownsMap Tryz.prog 9 anyElem gm n D:=by
   obtain ⟨es,clock,hm,r⟩:=hown
   exact ⟨es,clock,old_heap ho' hm,r⟩
  obtain ⟨w2,hrun,hown2,hg2⟩:=hown'.update strKeyed Tryz.underlying120 (by unfold maxLen;omega) (key9 sX (by decide)) (show anyElem (.agg #[.string sX,.bool true])=some (.nil,[]) from rfl)
  have ho2:Only (fun k=>k=gm) w' w2:=(Only.refl _ w').grown hg2 (fun k _ e=>(Option.some.inj e).symm)
  have hcr' :w2.cell? ⟨g,0,none⟩=some (.string sX):=(ho2.cell (p:=⟨g,0,none⟩) (Nat.lt_of_lt_of_le (uh HL) ho'.size) (uh HNE)).trans ((ho'.cell (p:=⟨g,0,none⟩) (uh HL) (fun x=>x)).trans hcr)
  have HM' :Hid (∃n D,w2.ownsMap Tryz.prog 9 anyElem gm n D∧n≤1):=⟨_,_,hown2,by omega⟩
  have HO' :Hid (Only (fun k=>k=gm) w w2):=((uh HO).trans (Only.oldS ho')).trans ho2
  have HL' :Hid (g<w2.heap.size):=Nat.lt_of_lt_of_le (Nat.lt_of_lt_of_le (uh HL) ho'.size) ho2.size
  clear ho' HE HMR HO HL hown hown' hown2 hg2 ho2
  go_wp2_with fail
  clear hrun
  go_roundw
  ·exact ⟨1,by omega,by go_num,hcr',HM',HO',HL'⟩
  simp[intOf]
 go_wp2_with fail
 go_end0
 exact ⟨rfl,HO⟩
end Go.Proofs.YtndfmgdhiallpaaGreatDoor
