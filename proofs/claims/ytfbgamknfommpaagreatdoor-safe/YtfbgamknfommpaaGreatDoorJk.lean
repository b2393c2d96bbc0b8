import Derived.Test.YtfbgamknfommpaaGreatDoorJi
import Derived.Test.YtfbgamknfommpaaGreatDoorMd
import Derived.Test.YtfbgamknfommpaaGreatDoorMr
set_option maxRecDepth 100000
set_option maxHeartbeats 4000000
namespace Go.Proofs.YtfbgamknfommpaaGreatDoor
open Go.RowKit Go.Maps
theorem unpackedP(nm pk:ByteArray)(ck:Nat)(hp:pk.size≤40000)(w:World):
 Calls Tryz.prog 145 #[.agg (It.v ⟨nm,0,ck,pk.size,pk⟩)] w fun r w' =>r=.returned (.tuple #[.string pk,.int .i64 0])∧Old w w' :=by
 have hA:Old w (w.alloc (.cells (It.v ⟨nm,0,ck,pk.size,pk⟩) 97)):=(Only.refl _ w).alloc _
 have HI:Hid (ItAt (w.alloc (.cells (It.v ⟨nm,0,ck,pk.size,pk⟩) 97)) w.heap.size ⟨nm,0,ck,pk.size,pk⟩):=Go.heap_alloc_new w _
 have HO:=hide hA
 clear hA
 obtain ⟨c0,c1,c2,c3,c4⟩:=(uh HI).cells
 simp only[It.v] at*
 go_in
 go_wp2_with fail
 go_ret2
 exact ⟨rfl,HO⟩
theorem dataP(nm pk:ByteArray)(hp:pk.size≤20000)(w:World):
 Calls Tryz.prog 99 #[.agg (It.v ⟨nm,0,checkOf pk,pk.size,pk⟩)] w fun r w' =>r=.returned (.tuple #[.string pk,.int .i64 0])∧Old w w' :=by
 have hA:Old w (w.alloc (.cells (It.v ⟨nm,0,checkOf pk,pk.size,pk⟩) 97)):=(Only.refl _ w).alloc _
 have HI:Hid (ItAt (w.alloc (.cells (It.v ⟨nm,0,checkOf pk,pk.size,pk⟩) 97)) w.heap.size ⟨nm,0,checkOf pk,pk.size,pk⟩):=Go.heap_alloc_new w _
 have HO:=hide hA
 have H1:=hide (unpackedP nm pk (checkOf pk) (by omega) (w.alloc (.cells (It.v ⟨nm,0,checkOf pk,pk.size,pk⟩) 97)))
 have HC:=hide (fun W=>checkCode_any pk W (by unfold maxLen;omega))
 clear hA
 generalize checkOf pk=ck at*
 obtain ⟨c0,c1,c2,c3,c4⟩:=(uh HI).cells
 simp only[It.v] at*
 go_in
 go_wp2_with fail
 refine (uh H1).mono ?_
 rintro r w1 ⟨rfl,ho1⟩
 have HI1:=hide ((uh HI).kept ho1 (fun x=>x))
 have HO1:=hide (Only.trans (uh HO) ho1)
 have d2:=(uh HI1).cells.2.2.1
 simp only at d2
 clear H1 ho1 c0 c1 c2 c3 c4 HI HO
 go_wp2_with fail
 go_quiet ((go_at_call 40;exact Calls.quiet_of_same (uh HC _)))
 have HO2:=hide ((uh HO1).drewN nq)
 go_wp2_with fail
 go_ret2
 exact ⟨rfl,HO2⟩
theorem unpackAllX(v:Value)(nm pk:ByteArray)(hn:nm.size≤20000)(hp:pk.size≤20000)(B:Nat→Prop)(w:World)(hv:ItemsAt w B v [⟨nm,0,checkOf pk,pk.size,pk⟩]):
 Calls Tryz.prog 57 #[v] w fun r w' =>Old w w' ∧ ∃u,r=.returned (.tuple #[u,.int .i64 0])∧OneF w' u nm pk:=by
 obtain ⟨i0,hi0,hz0,hz1,hz2⟩:=info_parts infoF2
 obtain ⟨g,cap,rfl,_,cur,hg,hcl⟩:=hv.slice (by simp)
 have hgl:g<w.heap.size:=(Array.getElem?_eq_some_iff.1 hg).1
 have HD:=hide (fun W=>dataP nm pk hp W)
 have r0:w.cell? ⟨g,0,none⟩=some (.string nm):=hcl 0 (by simp) 0 (by omega)
 have r1:w.cell? ⟨g,1,none⟩=some (.int .u32 0):=hcl 0 (by simp) 1 (by omega)
 have r2:w.cell? ⟨g,2,none⟩=some (.int .u32 (checkOf pk)):=hcl 0 (by simp) 2 (by omega)
 have r3:w.cell? ⟨g,3,none⟩=some (.int .u32 pk.size):=hcl 0 (by simp) 3 (by omega)
 have r4:w.cell? ⟨g,4,none⟩=some (.string pk):=hcl 0 (by simp) 4 (by omega)
 generalize checkOf pk=ck at*
 clear hcl hv hg
 go_in
 go_wp2_with fail
 go_loopw [4,6,7,8,11] (fun u _ _ _ x wr=> ∃i:Nat,i≤1∧x=.int .i64 i∧Hid (Old w wr)∧Hid (i=0→wr=w∧u=.slice none 0 0)∧Hid (i=1→OneF wr u nm pk)) (fun _ _ _ _ x _=>1- (intOf x).toNat)
 ·exact ⟨0,by omega,rfl,Only.refl _ w,fun _=>⟨rfl,rfl⟩,fun h=>by cases h⟩
 obtain ⟨i,hi,rfl,HO1,HX,HY⟩:=hrel
 have hcs:i=0∨i=1:=by omega
 rcases hcs with rfl|rfl
 ·obtain ⟨hh,rfl⟩:=uh HX rfl
  subst hh
  clear HX HO1 HY
  have hA:Old wr (wr.alloc (.cells #[.string nm,.int .u32 0,.int .u32 (ck:Int),.int .u32 (pk.size:Int),.string pk] 97)):=(Only.refl _ wr).alloc _
  have HI2:Hid (ItAt (wr.alloc (.cells #[.string nm,.int .u32 0,.int .u32 (ck:Int),.int .u32 (pk.size:Int),.string pk] 97)) wr.heap.size ⟨nm,0,ck,pk.size,pk⟩):=Go.heap_alloc_new wr _
  have HO2:=hide hA
  clear hA
  go_upto_region 5 with fail
  generalize wr.alloc (.cells #[.string nm,.int .u32 0,.int .u32 (ck:Int),.int .u32 (pk.size:Int),.string pk] 97)=W at*
  clear r0 r1 r2 r3 r4
  obtain ⟨c0,c1,c2,c3,c4⟩:=(uh HI2).cells
  simp only at c0 c1 c2 c3 c4
  have H1:=hide (uh HD W)
  simp only[It.v] at H1
  go_wp2_with fail
  refine (uh H1).mono ?_
  rintro r w1 ⟨rfl,ho1⟩
  have HI3:=hide ((uh HI2).kept ho1 (fun x=>x))
  have HO3:=hide (Only.trans (uh HO2) ho1)
  have n1:=(uh HI3).cells.1
  simp only at n1
  have H2:=hide (cloneX nm (by omega) w1)
  clear H1 ho1 HI2 HO2 c0 c1 c2 c3 c4 HD
  go_wp2_with fail
  refine (uh H2).mono ?_
  rintro r w2 ⟨rfl,ho2⟩
  have HO4:=hide (Only.trans (uh HO3) ho2)
  have H3:=hide (cloneX pk (by omega) w2)
  clear H2 ho2 HO3 HI3 n1
  go_wp2_with fail
  refine (uh H3).mono ?_
  rintro r w3 ⟨rfl,ho3⟩
  have HO5:=hide (Only.trans (uh HO4) ho3)
  clear H3 ho3 HO4
  have hA2:Old w3 (w3.alloc (.cells #[.string nm,.string pk] 56)):=(Only.refl _ w3).alloc _
  have HOWN:=hide (World.ownsRow_nil (w3.alloc (.cells #[.string nm,.string pk] 56)) 0 56 2)
  have HNW:=hide (new_cells w3 [.string nm,.string pk] 56)
  have hoc: ∀u∈[Value.string nm,.string pk],u.oneCell' =true:=by intro u hu;simp at hu;rcases hu with rfl|rfl<;>rfl
  have HO6:=hide (Only.trans (uh HO5) hA2)
  have HFN:Hid (∀(g2 cap2:Nat) (w4:World),w4.ownsRow 0 56 2 (.slice (some ⟨g2,0,none⟩) (0+1) cap2) (0+1) ([]++[.string nm,.string pk])→(w3.alloc (.cells #[.string nm,.string pk] 56)).grownBy w4 (Value.slice none 0 0).ownBlock→OneF w4 (.slice (some ⟨g2,0,none⟩) 1 cap2) nm pk∧Old wr w4):=fun g2 cap2 w4 ho hg=>⟨⟨cap2,ho,g2,rfl⟩,(uh HO6).grown hg (fun k hk e=>by cases e)⟩
  clear hA2
  go_wp2_with (at_builtin;refine wpList_append_lies _ rfl (.tmp 23) (.tmp 30) 29 rfl 0 56 i0 (.agg #[.string ⟨#[]⟩,.string ⟨#[]⟩]) 2 32 Tryz.underlying29 hi0 hz0 hz1 hz2 rfl (by omega) (.slice none 0 0) 0 _ rfl (uh HOWN) ⟨w3.heap.size,0,none⟩ 1 1 [.string nm,.string pk] rfl rfl (uh HNW) hoc (by omega) (by unfold maxLen;omega) (by omega) (by omega) (w3.heap.size+1) (by simp) ?_;intro g2 cap2 w4 ho4 hg4 hl4 hlt4;have HX:=hide (uh HFN g2 cap2 w4 ho4 hg4);clear ho4 hg4 hl4)
  go_roundw
  ·exact ⟨1,by omega,by go_num,(uh HX).2,(fun h=>by cases h),fun _=>(uh HX).1⟩
  simp[intOf]
 have hF:=uh HY rfl
 have HF:=hide hF
 clear HX HY hF
 go_wp2_with fail
 go_ret2
 exact ⟨HO1,_,rfl,HF⟩
abbrev itX:It:=⟨sX,0,checkOf sY,1,sY⟩
def arcX:ByteArray:=⟨(laidL sPre [itX]).toArray⟩
theorem deflX:(deflP sY).size=3:=by kernel_rfl
theorem itemX:itemP sX sY=itX:=itemP_plain (by rw[deflX];decide)
theorem locsX:(locsL sPre [itX]).length=45:=by kernel_rfl
theorem centsX:(centsN sPre [itX] 1).length=60:=by kernel_rfl
theorem laidX:(laidL sPre [itX]).length=127:=by kernel_rfl
theorem okX:LaidOk sPre [itX] where
 pre:=by decide
 oks:=by
  intro i hi
  rw[List.mem_singleton.1 hi]
  refine ⟨by decide,checkOf_lt _,by decide,by decide,by decide⟩
 any:=by decide
 few:=by decide
 locs:=by rw[locsX];decide
 cents:=by rw[show [itX].length=1 from rfl,centsX];decide
 pos:=by rw[show [itX].length=1 from rfl,centsX];decide
theorem arcX_size:arcX.size=127:=by kernel_rfl
theorem arcX_n1:numL arcX 26 2=14:=by kernel_rfl
theorem arcX_n2:numL arcX 18 4=1:=by kernel_rfl
theorem arcX_n3:numL arcX 8 2=0:=by kernel_rfl
theorem arcX_n4:numL arcX 14 4=checkOf sY:=by kernel_rfl
theorem arcX_n5:numL arcX 22 4=1:=by kernel_rfl
theorem arcX_pre:Lib.hasPrefix (arcX.extract 30 44).data.toList sPre.data.toList=true:=by kernel_rfl
theorem arcX_nm:ByteArray.mk (Lib.trimPrefix (arcX.extract 30 44).data.toList sPre.data.toList).toArray=sX:=by kernel_rfl
theorem arcX_pk:arcX.extract 44 45=sY:=by kernel_rfl
theorem arcX_m1:Lib.hasPrefix arcX.data.toList mkL.data.toList=true:=by kernel_rfl
theorem arcX_m2:Lib.hasPrefix (arcX.extract 45 arcX.size).data.toList mkL.data.toList=false:=by kernel_rfl
theorem readX(w:World):Calls Tryz.prog 55 #[.string sPre,.string arcX] w fun r w' =>Old w w' ∧ ∃v,r=.returned (.tuple #[v,.bool true])∧ItemsAt w' (fun k=>w.heap.size≤k) v [itX]:=
 readOne sPre arcX sX _ 44 45 0 (checkOf sY) 1 sY (by rw[arcX_size];decide) (by rw[arcX_size];decide) (by rw[arcX_n1]) (by rw[arcX_n2]) (by rw[arcX_size];decide) arcX_pre arcX_nm arcX_n3 (.inl rfl) arcX_n4 arcX_n5 arcX_pk rfl arcX_m1 arcX_m2 okX rfl w
theorem unpackX(w:World)(hm:MaxAt w):Calls Tryz.prog 29 #[.string sPre,.string arcX] w fun r w' =>Old w w' ∧ ∃u,r=.returned (.tuple #[u,.int .i64 0])∧OneF w' u sX sY:=by
 have H1:=hide (readX w)
 have HM:=hide hm
 have hsz:=arcX_size
 generalize arcX=z at*
 have hzI:¬(40000:Int)<(z.size:Int):=by omega
 clear hm
 go_in
 go_wp2_with fail
 refine (uh H1).mono ?_
 rintro r w1 ⟨ho1,v,rfl,hv1⟩
 have HO1:=hide ho1
 have H2:=hide (headsX v 0 (checkOf sY) 1 sY (by decide) _ w1 ((uh HM).old ho1) hv1)
 have HV1:=hide hv1
 clear H1 ho1 hv1 HM
 go_wp2_with fail
 refine (uh H2).mono ?_
 rintro r w2 ⟨rfl,ho2⟩
 have HO2:=hide (Only.trans (uh HO1) ho2)
 have H3:=hide (unpackAllX v sX sY (by decide) (by decide) _ w2 ((uh HV1).kept ho2 (fun _ _ x=>x)))
 clear H2 ho2 HV1 HO1
 go_wp2_with fail
 refine (uh H3).mono ?_
 rintro r w3 ⟨ho3,u,rfl,hu3⟩
 have HO3:=hide (Only.trans (uh HO2) ho3)
 have HU3:=hide hu3
 clear H3 ho3 hu3 HO2
 go_wp2_with fail
 go_ret2
 exact ⟨HO3,_,rfl,HU3⟩
theorem vUnpackX(w:World)(hm:MaxAt w):Calls Tryz.prog 7 #[.string sMod,.string sVer,.string arcX] w fun r w' =>Old w w' ∧ ∃u,r=.returned (.tuple #[u,.int .i64 0])∧OneF w' u sX sY:=by
 have H1:=hide (prefixC w hm)
 have H2:=hide (fun W h=>unpackX W h)
 have HM:=hide hm
 generalize arcX=z at*
 clear hm
 go_in
 go_wp2_with fail
 refine (uh H1).mono ?_
 rintro r w1 ⟨rfl,ho1⟩
 have HO1:=hide ho1
 have H3:=hide (uh H2 w1 ((uh HM).old ho1))
 clear H1 ho1 H2 HM
 go_wp2_with fail
 refine (uh H3).mono ?_
 rintro r w3 ⟨ho3,u,rfl,hu3⟩
 have HO3:=hide (Only.trans (uh HO1) ho3)
 have HU3:=hide hu3
 clear H3 ho3 hu3 HO1
 go_wp2_with fail
 go_ret2
 exact ⟨HO3,_,rfl,HU3⟩
theorem vPackX(gt:Nat)(w:World)(hm:MaxAt w)(ht:EnAt w gt):Calls Tryz.prog 5 #[.string sMod,.string sVer,.slice (some ⟨gt,0,none⟩) 1 1] w fun r w' =>Old w w' ∧r=.returned (.tuple #[.string arcX,.int .i64 0]):=by
 have H1:=hide (prefixC w hm)
 have H3:Hid (∀v W,FilesAt W v [(sX,sY)]→Calls Tryz.prog 28 #[.string sPre,v] W fun r w' =>Old W w' ∧r=.returned (.tuple #[.string arcX,.int .i64 0])):=by
  intro v W hv
  have hi:itemsP [(sX,sY)]=[itX]:=by rw[itemsP,List.map_cons,List.map_nil,itemX]
  have h:=packA sPre v [(sX,sY)] (by intro f hf;rw[List.mem_singleton.1 hf];decide) (by rw[hi];exact okX) (by rw[hi,laidX];decide) W hv
  rw[hi] at h
  exact h
 have HM:=hide hm
 have HT:=hide ht
 generalize arcX=z at*
 clear hm ht
 go_in
 go_wp2_with fail
 refine (uh H1).mono ?_
 rintro r w1 ⟨rfl,ho1⟩
 have HO1:=hide ho1
 have H2:=hide (filesX gt w1 ((uh HM).old ho1) ((uh HT).old ho1))
 clear H1 ho1 HM HT
 go_wp2_with fail
 refine (uh H2).mono ?_
 rintro r w2 ⟨v,rfl,ho2,hv2⟩
 have HO2:=hide (Only.trans (uh HO1) ho2)
 have H4:=hide (uh H3 v w2 (by obtain ⟨cap,h,_⟩:=hv2;exact h))
 clear H2 ho2 H3 HO1 hv2
 go_wp2_with fail
 refine (uh H4).mono ?_
 rintro r w3 ⟨ho3,rfl⟩
 have HO3:=hide (Only.trans (uh HO2) ho3)
 clear H4 ho3 HO2
 go_wp2_with fail
 go_ret2
 exact ⟨HO3,rfl⟩
abbrev sNine:ByteArray:=⟨#[49,50,51,52,53,54,55,56,57]⟩
abbrev sAbc:ByteArray:=⟨#[97,98,99]⟩
abbrev sRaw:ByteArray:=⟨#[1,2,0,253,255,72,105]⟩
abbrev sDig:ByteArray:=⟨#[98,97,55,56,49,54,98,102,56,102,48,49,99,102,101,97,52,49,52,49,52,48,100,101,53,100,97,101,50,50,50,51,98,48,48,51,54,49,97,51,57,54,49,55,55,97,57,99,98,52,49,48,102,102,54,49,102,50,48,48,49,53,97,100]⟩
theorem nineX:checkOf sNine=3421780262:=by kernel_rfl
theorem rawX:inflate sRaw=(⟨#[72,105]⟩,7,0):=by kernel_rfl
theorem abcX:digestOf sAbc=sDig:=by kernel_rfl
def Awk(w:World):Prop:=MaxAt w∧OrdAt w∧Glob w
theorem Awk.old{w w' :World}(h:Awk w)(ho:Old w w'):Awk w' :=⟨h.1.old ho,h.2.1.kept ho (fun x=>x),h.2.2.old ho⟩
theorem awakeX(w:World)(hw:Awk w):Calls Tryz.prog 4 #[] w fun r w' =>r=.returned (.bool true)∧Old w w' :=by
 have H1:=hide (valiseCheck_any sNine w (by decide))
 have H2:=hide (valiseDigest_any sAbc (by decide) w hw.2.2)
 have H3:=hide (fun W (h:Awk W)=>valiseInflate_any sRaw (by decide) W h.2.1)
 have H4:=hide (fun gt W (h:Awk W)=>vPackX gt W h.1)
 have H5:=hide (fun W (h:Awk W)=>vUnpackX W h.1)
 rw[nineX] at H1
 rw[abcX] at H2
 rw[rawX] at H3
 generalize arcX=z at*
 have HW:=hide hw
 clear hw
 go_in
 go_wp2_with fail
 refine (uh H1).mono ?_
 rintro r w1 ⟨rfl,rfl⟩
 go_wp2_with fail
 refine (uh H2).mono ?_
 rintro r w2 ⟨rfl,ho2⟩
 have HW2:=hide ((uh HW).old ho2)
 have HO2:=hide ho2
 clear ho2 H1 H2 HW
 go_wp2_with fail
 refine (uh H3 w2 (uh HW2)).mono ?_
 rintro r w3 ⟨rfl,ho3⟩
 have HW3:=hide ((uh HW2).old ho3)
 have HO3:=hide (Only.trans (uh HO2) ho3)
 clear ho3 H3 HW2 HO2
 have hA:Old w3 (w3.alloc (.cells #[.string sX,.bool false,.string sY] 54)):=(Only.refl _ w3).alloc _
 have HE:Hid (EnAt (w3.alloc (.cells #[.string sX,.bool false,.string sY] 54)) w3.heap.size):=⟨by rw[World.size_alloc];omega,by rw[cell_of_row _ _ 0 _ _ (0,0) (Go.heap_alloc_new _ _)];rfl,by rw[cell_of_row _ _ 1 _ _ (0,0) (Go.heap_alloc_new _ _)];rfl,by rw[cell_of_row _ _ 2 _ _ (0,0) (Go.heap_alloc_new _ _)];rfl⟩
 have HW4:=hide ((uh HW3).old hA)
 have HO4:=hide (Only.trans (uh HO3) hA)
 have H6:=hide (uh H4 _ _ (uh HW4) (uh HE))
 clear hA H4
 go_wp2_with fail
 refine (uh H6).mono ?_
 rintro r w5 ⟨ho5,rfl⟩
 have HW5:=hide ((uh HW4).old ho5)
 have HO5:=hide (Only.trans (uh HO4) ho5)
 clear ho5 H6 HW4 HO4 HW3 HO3 HE
 go_wp2_with fail
 refine (uh H5 w5 (uh HW5)).mono ?_
 rintro r w6 ⟨ho6,u,rfl,cap,hown,g,rfl⟩
 have HO6:=hide (Only.trans (uh HO5) ho6)
 have hcl:=hown.cells (g:=g) rfl
 have c0:w6.cell? ⟨g,0,none⟩=some (.string sX):=hcl 0 _ rfl
 have c1:w6.cell? ⟨g,1,none⟩=some (.string sY):=hcl 1 _ rfl
 clear ho6 H5 HW5 HO5 hcl hown
 go_wp2_with fail
 go_ret
 exact ⟨rfl,HO6⟩
theorem kpick_any(c:Int)(hc1: -9223372036854775808≤c)(hc2:c≤9223372036854775807)(n:Nat)(hn:0<n)(hn2:n≤9223372036854775807)(w:World):
 Calls Tryz.prog 12 #[.int .i64 c,.int .i64 n] w fun r w' =>r=.returned (.int .i64 (pickN c n))∧w' =w:=by
 have hn0:¬(n:Int)=0:=by omega
 have hn1:((n:Int)==0)=false:=by rw[beq_eq_false_iff_ne];omega
 by_cases h:c<0
 ·have hw:IntKind.i64.wrap (c+1)=c+1:=by rw[IntKind.wrap_i64];omega
  have hw2:IntKind.i64.wrap (-(c+1))= -(c+1):=by rw[IntKind.wrap_i64];omega
  have hm0:0≤ -(c+1):=by omega
  have e1:(-(c+1)).tmod (n:Int)=((pickN c n:Nat):Int):=by
   rw[Int.tmod_eq_emod_of_nonneg hm0];unfold pickN;rw[if_pos h]
   have:=Int.emod_nonneg (-(c+1)) (show (n:Int)≠0 by omega);omega
  have hlt:=pickN_lt c hn
  have hw3:IntKind.i64.wrap ((pickN c n:Nat):Int)=((pickN c n:Nat):Int):=i64_wrap_nat _ (by omega)
  have HP:=hide e1
  generalize pickN c n=p at*
  go_in
  go_wp2_with fail
  go_ret
  refine ⟨?_,rfl⟩
  congr 2
 have e1:c.tmod (n:Int)=((pickN c n:Nat):Int):=by
  rw[Int.tmod_eq_emod_of_nonneg (by omega)];unfold pickN;rw[if_neg h]
  have:=Int.emod_nonneg c (show (n:Int)≠0 by omega);omega
 have hlt:=pickN_lt c hn
 have hw3:IntKind.i64.wrap ((pickN c n:Nat):Int)=((pickN c n:Nat):Int):=i64_wrap_nat _ (by omega)
 have HP:=hide e1
 generalize pickN c n=p at*
 go_in
 go_wp2_with fail
 go_ret
 refine ⟨?_,rfl⟩
 congr 2
end Go.Proofs.YtfbgamknfommpaaGreatDoor
