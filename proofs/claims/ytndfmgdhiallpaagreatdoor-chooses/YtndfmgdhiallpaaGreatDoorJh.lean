import Derived.Test.YtndfmgdhiallpaaGreatDoorJg
import Derived.Test.YtndfmgdhiallpaaGreatDoorMa
import Derived.Test.YtndfmgdhiallpaaGreatDoorMq
set_option maxRecDepth 100000
set_option maxHeartbeats 4000000
namespace Go.Proofs.YtndfmgdhiallpaaGreatDoor
open Go.RowKit
section
variable {P:Program} {ops:Array Oper} {Q:Exit→Act→World→Prop} {md:Region.Mode} {S:World→Prop} {L:Nat}
theorem wpAnyL_two{i j:Nat}{n:Nat}{ls:Array Bool}{a:Act}{w:World}(hr:Region.ready md ops ls=[i,j])
 (h:wpOp P ops Q i (fun a' w' =>(i≠L→S w')∧wpAnyL P md ops Q S L n (ls.setIfInBounds i true) a' w') a w)
 (k:wpOp P ops Q j (fun a' w' =>(j≠L→S w')∧wpAnyL P md ops Q S L n (ls.setIfInBounds j true) a' w') a w):wpAnyL P md ops Q S L (n+1) ls a w:=by
 refine ⟨fun h0=> ?_,fun m hm=> ?_⟩
 ·rw[hr] at h0;cases h0
 rw[hr] at hm
 rcases List.mem_cons.1 hm with rfl|hm
 ·exact h
 cases List.mem_singleton.1 hm;exact k
end
theorem old_at{w w' :World}{k:Nat}{o:Obj}(ho:Old w w')(h:w.heap[k]? =some o):w'.heap[k]? =some o:=(ho.block k (Array.getElem?_eq_some_iff.1 h).1 (fun x=>x)).trans h
theorem infoItem:(Tryz.prog.info? 131).map (·.size)=some 5:=by kernel_rfl
theorem it_one(a e:ByteArray)(b c d:Int):(#[.string a,.int .u32 b,.int .u32 c,.int .u32 d,.string e]:Array Value).all (·.oneCell')=true:=by simp[Value.oneCell']
def itemP(nm d:ByteArray):It:=if (deflP d).size<d.size then ⟨nm,8,checkOf d,d.size,deflP d⟩ else ⟨nm,0,checkOf d,d.size,d⟩
theorem itemP_short{nm d:ByteArray}(h:(deflP d).size<d.size):itemP nm d=⟨nm,8,checkOf d,d.size,deflP d⟩:=if_pos h
theorem itemP_plain{nm d:ByteArray}(h:¬(deflP d).size<d.size):itemP nm d=⟨nm,0,checkOf d,d.size,d⟩:=if_neg h
theorem itemOfA(nm d:ByteArray)(hd:d.size≤20000)(w:World):
 Calls Tryz.prog 88 #[.agg #[.string nm,.string d]] w fun r w' =>r=.returned (.agg (itemP nm d).v)∧Old w w' :=by
 have HD:=hide (fun W=>bytesD d hd W)
 have HC:=hide (fun W=>checkCode_any d W (by unfold maxLen;omega))
 have HSH:=hide (fun h=>itemP_short (nm:=nm) (d:=d) h)
 have HPL:=hide (fun h=>itemP_plain (nm:=nm) (d:=d) h)
 generalize itemP nm d=it at*
 have hck:=checkOf_lt d
 have hdp:(deflP d).size≤1000000:=by have:=deflP_size d;omega
 generalize checkOf d=ck at*
 generalize deflP d=z at*
 have hw:IntKind.u32.wrap (d.size:Int)=(d.size:Int):=by rw[IntKind.wrap_u32];omega
 have hA:Old w ((w.alloc (.cells #[.string nm,.string d] 50)).alloc (.cells #[.string ⟨#[]⟩,.int .u32 0,.int .u32 0,.int .u32 0,.string ⟨#[]⟩] 131)):=((Only.refl _ w).alloc _).alloc _
 have hB:Old (w.alloc (.cells #[.string nm,.string d] 50)) ((w.alloc (.cells #[.string nm,.string d] 50)).alloc (.cells #[.string ⟨#[]⟩,.int .u32 0,.int .u32 0,.int .u32 0,.string ⟨#[]⟩] 131)):=(Only.refl _ _).alloc _
 have hbx:=old_at hB (Go.heap_alloc_new w (.cells #[.string nm,.string d] 50))
 have hit:=Go.heap_alloc_new (w.alloc (.cells #[.string nm,.string d] 50)) (.cells #[.string ⟨#[]⟩,.int .u32 0,.int .u32 0,.int .u32 0,.string ⟨#[]⟩] 131)
 have hsz:((w.alloc (.cells #[.string nm,.string d] 50)).alloc (.cells #[.string ⟨#[]⟩,.int .u32 0,.int .u32 0,.int .u32 0,.string ⟨#[]⟩] 131)).heap.size=w.heap.size+2:=by rw[World.size_alloc,World.size_alloc]
 rw[World.size_alloc] at hit
 have HA:=hide hA
 have HX:=hide hbx
 have HT:=hide hit
 clear hA hB hbx hit
 go_in
 go_upto_region 1 with fail
 generalize (w.alloc (.cells #[.string nm,.string d] 50)).alloc (.cells #[.string ⟨#[]⟩,.int .u32 0,.int .u32 0,.int .u32 0,.string ⟨#[]⟩] 131)=W at*
 have hc0:W.cell? ⟨w.heap.size,0,none⟩=some (.string nm):=by rw[cell_of_row W _ 0 _ _ (0,0) (uh HX)];rfl
 have hc1:W.cell? ⟨w.heap.size,1,none⟩=some (.string d):=by rw[cell_of_row W _ 1 _ _ (0,0) (uh HX)];rfl
 have HSW:W.drew.cell? ⟨w.heap.size,0,none⟩=some (.string nm)∧W.drew.cell? ⟨w.heap.size,1,none⟩=some (.string d)∧True:=⟨hc0,hc1,trivial⟩
 refine wp_region_last (S:=fun W=>W.cell? ⟨w.heap.size,0,none⟩=some (.string nm)∧W.cell? ⟨w.heap.size,1,none⟩=some (.string d)∧True) (L:=13) (by kernel_rfl) ?_
 refine tk 0 14 (.pointer (some ⟨w.heap.size,0,none⟩)) 5 HSW ?_
 refine tk 1 14 (.string nm) 6 HSW ?_
 refine tk 2 14 (.pointer (some ⟨w.heap.size,1,none⟩)) 7 HSW ?_
 refine tk 3 14 (.string d) 8 HSW ?_
 refine tk 5 14 (.pointer (some ⟨w.heap.size,1,none⟩)) 10 HSW ?_
 refine tk 6 14 (.string d) 11 HSW ?_
 refine tk 7 14 (.int .i64 (d.size:Int)) 12 HSW ?_
 refine tk 8 14 (.int .u32 (d.size:Int)) 13 HSW ?_
 refine tk 9 14 (.pointer (some ⟨w.heap.size,1,none⟩)) 14 HSW ?_
 refine tk 10 14 (.string d) 15 HSW ?_
 have hS2: ∀o,(W.drew.alloc o).cell? ⟨w.heap.size,0,none⟩=some (.string nm)∧(W.drew.alloc o).cell? ⟨w.heap.size,1,none⟩=some (.string d)∧True:=by
  intro o
  have hh:(W.drew.alloc o).heap[w.heap.size]? =some (.cells #[.string nm,.string d] 50 (0,0)):=old_at (((Only.refl _ W).drew).alloc o) (uh HX)
  refine ⟨?_, ?_,trivial⟩<;>(rw[cell_of_row _ _ _ _ _ (0,0) hh];rfl)
 have hWd:W.drew.heap.size=w.heap.size+2:=hsz
 refine wpAnyL_two (i:=4) (j:=12) (by kernel_rfl) ?_ ?_
 ·refine wpOp_step rfl (fun K' hK=> ?_)
  go_simp
  refine (uh HC _).mono ?_
  rintro r w1 ⟨rfl,rfl⟩
  refine hK _ _ ⟨fun _=>HSW, ?_⟩
  clear hK
  refine tk 11 14 (.agg #[.string nm,.int .u32 0,.int .u32 (ck:Int),.int .u32 (d.size:Int),.string d]) 16 HSW ?_
  refine wpAnyL_one (i:=12) (by kernel_rfl) ?_
  refine wpOp_step rfl (fun K' hK=> ?_)
  go_simp
  refine hK _ _ ⟨fun _=>hS2 _, ?_⟩
  clear hK
  refine wpAnyL_one (i:=13) (by kernel_rfl) ?_
  refine wpOp_step rfl (fun K' hK=> ?_)
  go_simp
  refine hK _ _ ⟨fun h=>absurd rfl h, ?_⟩
  clear hK
  refine wpAnyL_done (by kernel_rfl) ?_
  have hV:Old W (W.alloc (.cells #[.string nm,.int .u32 0,.int .u32 (ck:Int),.int .u32 (d.size:Int),.string d] 131)).drew:=((Only.refl _ W).alloc _).drew
  have HI:Hid ((W.alloc (.cells #[.string nm,.int .u32 0,.int .u32 (ck:Int),.int .u32 (d.size:Int),.string d] 131)).drew.heap[w.heap.size+2]? =some (.cells #[.string nm,.int .u32 0,.int .u32 (ck:Int),.int .u32 (d.size:Int),.string d] 131 (0,0))):=by
   have h:=Go.heap_alloc_new W (.cells #[.string nm,.int .u32 0,.int .u32 (ck:Int),.int .u32 (d.size:Int),.string d] 131)
   rw[hsz] at h
   exact h
  have HXV:=hide (old_at hV (uh HX))
  have HTV:=hide (old_at hV (uh HT))
  have HOV:=hide (Only.trans (uh HA) hV)
  have hc1V:(W.alloc (.cells #[.string nm,.int .u32 0,.int .u32 (ck:Int),.int .u32 (d.size:Int),.string d] 131)).drew.cell? ⟨w.heap.size,1,none⟩=some (.string d):=by rw[cell_of_row _ _ 1 _ _ (0,0) (uh HXV)];rfl
  clear hV HC hS2 HSW
  generalize (W.alloc (.cells #[.string nm,.int .u32 0,.int .u32 (ck:Int),.int .u32 (d.size:Int),.string d] 131)).drew=V at*
  go_wp2_with fail
  refine (uh HD _).mono ?_
  rintro r w1 ⟨rfl,ho1⟩
  have HO1:=hide (Only.trans (uh HOV) ho1)
  have HI1:=hide (old_at ho1 (uh HI))
  have hx1:=old_at ho1 (uh HXV)
  have HR1:=hide (old_at ho1 (uh HTV))
  have hd1:w1.cell? ⟨w.heap.size,1,none⟩=some (.string d):=by rw[cell_of_row _ _ 1 _ _ (0,0) hx1];rfl
  clear ho1 hx1 HX HT HA HXV HTV HOV HI hc1V hc0 hc1
  by_cases hsh:z.size<d.size
  ·have hshI:(z.size:Int)<(d.size:Int):=by omega
   have hit:=uh HSH hsh
   have hf1:w1.frozen? ⟨w.heap.size+2,1,none⟩=false:=frozen_of_row w1 _ 1 _ _ (uh HI1)
   have hf4:w1.frozen? ⟨w.heap.size+2,4,none⟩=false:=frozen_of_row w1 _ 4 _ _ (uh HI1)
   have hk1:w1.cell? ⟨w.heap.size+2,1,none⟩=some (.int .u32 0):=by rw[cell_of_row _ _ 1 _ _ (0,0) (uh HI1)];rfl
   have hk4:w1.cell? ⟨w.heap.size+2,4,none⟩=some (.string d):=by rw[cell_of_row _ _ 4 _ _ (0,0) (uh HI1)];rfl
   have hs1:=heap_setCell_same w1 (w.heap.size+2) 1 _ _ (.int .u32 8) (uh HI1)
   have hs2:=heap_setCell_same _ (w.heap.size+2) 4 _ _ (.string z) hs1
   have HI2:Hid (((w1.setCell ⟨w.heap.size+2,1,none⟩ (.int .u32 8)).setCell ⟨w.heap.size+2,4,none⟩ (.string z)).heap[w.heap.size+2]? =some (.cells #[.string nm,.int .u32 8,.int .u32 (ck:Int),.int .u32 (d.size:Int),.string z] 131 (0,0))):=hs2
   have hO2:Only (fun k=>k=w.heap.size+2) w1 ((w1.setCell ⟨w.heap.size+2,1,none⟩ (.int .u32 8)).setCell ⟨w.heap.size+2,4,none⟩ (.string z)):=(only_set w1 _ 1 _).trans (only_set _ _ 4 _)
   have HR2:=hide ((hO2.block (w.heap.size+1) (Array.getElem?_eq_some_iff.1 (uh HR1)).1 (by omega)).trans (uh HR1))
   have HO2:Hid (Old w _):=(uh HO1).transNew hO2 (fun k hk h=>by omega)
   clear hs1 hs2 hO2 HI1 HR1 HO1
   go_upto_region 5 with fail
   generalize (w1.setCell ⟨w.heap.size+2,1,none⟩ (.int .u32 8)).setCell ⟨w.heap.size+2,4,none⟩ (.string z)=w2 at*
   clear hf1 hf4 hk1 hk4
   obtain ⟨e0,e1,e2,e3,e4⟩:=ItAt.cells (i:=⟨nm,8,ck,d.size,z⟩) (uh HI2)
   have hr2:=uh HR2
   simp only at e0 e1 e2 e3 e4
   go_wp2_with (refine wpList_store_row rfl 131 (.tmp 2) (.tmp 29) rfl (w.heap.size+1) #[.string nm,.int .u32 8,.int .u32 (ck:Int),.int .u32 (d.size:Int),.string z] rfl rfl 131 _ hr2 infoItem rfl (it_one _ _ _ _ _) ?_)
   refine bodyPost_ret (v:=.agg #[.string nm,.int .u32 8,.int .u32 (ck:Int),.int .u32 (d.size:Int),.string z]) (results_cell_row Tryz.results88 _ _ (w.heap.size+1) 131 _ (0,0) _ rfl (setRow_heap w2 (w.heap.size+1) _ _ _ _ hr2) Tryz.underlying131 rfl infoItem) rfl ⟨?_,(uh HO2).setRow _ (fun h=>absurd h (by omega)) _⟩
   rw[hit]
   rfl
  have hshI:¬(z.size:Int)<(d.size:Int):=by omega
  have hit:=uh HPL hsh
  obtain ⟨e0,e1,e2,e3,e4⟩:=ItAt.cells (i:=⟨nm,0,ck,d.size,d⟩) (uh HI1)
  simp only at e0 e1 e2 e3 e4
  have hr2:=uh HR1
  go_wp2_with (refine wpList_store_row rfl 131 (.tmp 2) (.tmp 29) rfl (w.heap.size+1) #[.string nm,.int .u32 0,.int .u32 (ck:Int),.int .u32 (d.size:Int),.string d] rfl rfl 131 _ hr2 infoItem rfl (it_one _ _ _ _ _) ?_)
  refine bodyPost_ret (v:=.agg #[.string nm,.int .u32 0,.int .u32 (ck:Int),.int .u32 (d.size:Int),.string d]) (results_cell_row Tryz.results88 _ _ (w.heap.size+1) 131 _ (0,0) _ rfl (setRow_heap w1 (w.heap.size+1) _ _ _ _ hr2) Tryz.underlying131 rfl infoItem) rfl ⟨?_,(uh HO1).setRow _ (fun h=>absurd h (by omega)) _⟩
  rw[hit]
  rfl
 refine wpOp_step rfl (fun K' hK=> ?_)
 go_simp
 refine hK _ _ ⟨fun _=>hS2 _, ?_⟩
 clear hK
 refine wpAnyL_one (i:=4) (by kernel_rfl) ?_
 refine wpOp_step rfl (fun K' hK=> ?_)
 go_simp
 refine (uh HC _).mono ?_
 rintro r w1 ⟨rfl,rfl⟩
 refine hK _ _ ⟨fun _=>hS2 _, ?_⟩
 clear hK
 refine tk 11 14 (.agg #[.string nm,.int .u32 0,.int .u32 (ck:Int),.int .u32 (d.size:Int),.string d]) 16 (hS2 _) ?_
 refine wpAnyL_one (i:=13) (by kernel_rfl) ?_
 refine wpOp_step rfl (fun K' hK=> ?_)
 go_simp
 refine hK _ _ ⟨fun h=>absurd rfl h, ?_⟩
 clear hK
 refine wpAnyL_done (by kernel_rfl) ?_
 have hV:Old W (W.alloc (.cells #[.string nm,.int .u32 0,.int .u32 (ck:Int),.int .u32 (d.size:Int),.string d] 131)).drew:=((Only.refl _ W).alloc _).drew
 have HI:Hid ((W.alloc (.cells #[.string nm,.int .u32 0,.int .u32 (ck:Int),.int .u32 (d.size:Int),.string d] 131)).drew.heap[w.heap.size+2]? =some (.cells #[.string nm,.int .u32 0,.int .u32 (ck:Int),.int .u32 (d.size:Int),.string d] 131 (0,0))):=by
  have h:=Go.heap_alloc_new W (.cells #[.string nm,.int .u32 0,.int .u32 (ck:Int),.int .u32 (d.size:Int),.string d] 131)
  rw[hsz] at h
  exact h
 have HXV:=hide (old_at hV (uh HX))
 have HTV:=hide (old_at hV (uh HT))
 have HOV:=hide (Only.trans (uh HA) hV)
 have hc1V:(W.alloc (.cells #[.string nm,.int .u32 0,.int .u32 (ck:Int),.int .u32 (d.size:Int),.string d] 131)).drew.cell? ⟨w.heap.size,1,none⟩=some (.string d):=by rw[cell_of_row _ _ 1 _ _ (0,0) (uh HXV)];rfl
 clear hV HC hS2 HSW
 generalize (W.alloc (.cells #[.string nm,.int .u32 0,.int .u32 (ck:Int),.int .u32 (d.size:Int),.string d] 131)).drew=V at*
 go_wp2_with fail
 refine (uh HD _).mono ?_
 rintro r w1 ⟨rfl,ho1⟩
 have HO1:=hide (Only.trans (uh HOV) ho1)
 have HI1:=hide (old_at ho1 (uh HI))
 have hx1:=old_at ho1 (uh HXV)
 have HR1:=hide (old_at ho1 (uh HTV))
 have hd1:w1.cell? ⟨w.heap.size,1,none⟩=some (.string d):=by rw[cell_of_row _ _ 1 _ _ (0,0) hx1];rfl
 clear ho1 hx1 HX HT HA HXV HTV HOV HI hc1V hc0 hc1
 by_cases hsh:z.size<d.size
 ·have hshI:(z.size:Int)<(d.size:Int):=by omega
  have hit:=uh HSH hsh
  have hf1:w1.frozen? ⟨w.heap.size+2,1,none⟩=false:=frozen_of_row w1 _ 1 _ _ (uh HI1)
  have hf4:w1.frozen? ⟨w.heap.size+2,4,none⟩=false:=frozen_of_row w1 _ 4 _ _ (uh HI1)
  have hk1:w1.cell? ⟨w.heap.size+2,1,none⟩=some (.int .u32 0):=by rw[cell_of_row _ _ 1 _ _ (0,0) (uh HI1)];rfl
  have hk4:w1.cell? ⟨w.heap.size+2,4,none⟩=some (.string d):=by rw[cell_of_row _ _ 4 _ _ (0,0) (uh HI1)];rfl
  have hs1:=heap_setCell_same w1 (w.heap.size+2) 1 _ _ (.int .u32 8) (uh HI1)
  have hs2:=heap_setCell_same _ (w.heap.size+2) 4 _ _ (.string z) hs1
  have HI2:Hid (((w1.setCell ⟨w.heap.size+2,1,none⟩ (.int .u32 8)).setCell ⟨w.heap.size+2,4,none⟩ (.string z)).heap[w.heap.size+2]? =some (.cells #[.string nm,.int .u32 8,.int .u32 (ck:Int),.int .u32 (d.size:Int),.string z] 131 (0,0))):=hs2
  have hO2:Only (fun k=>k=w.heap.size+2) w1 ((w1.setCell ⟨w.heap.size+2,1,none⟩ (.int .u32 8)).setCell ⟨w.heap.size+2,4,none⟩ (.string z)):=(only_set w1 _ 1 _).trans (only_set _ _ 4 _)
  have HR2:=hide ((hO2.block (w.heap.size+1) (Array.getElem?_eq_some_iff.1 (uh HR1)).1 (by omega)).trans (uh HR1))
  have HO2:Hid (Old w _):=(uh HO1).transNew hO2 (fun k hk h=>by omega)
  clear hs1 hs2 hO2 HI1 HR1 HO1
  go_upto_region 5 with fail
  generalize (w1.setCell ⟨w.heap.size+2,1,none⟩ (.int .u32 8)).setCell ⟨w.heap.size+2,4,none⟩ (.string z)=w2 at*
  clear hf1 hf4 hk1 hk4
  obtain ⟨e0,e1,e2,e3,e4⟩:=ItAt.cells (i:=⟨nm,8,ck,d.size,z⟩) (uh HI2)
  have hr2:=uh HR2
  simp only at e0 e1 e2 e3 e4
  go_wp2_with (refine wpList_store_row rfl 131 (.tmp 2) (.tmp 29) rfl (w.heap.size+1) #[.string nm,.int .u32 8,.int .u32 (ck:Int),.int .u32 (d.size:Int),.string z] rfl rfl 131 _ hr2 infoItem rfl (it_one _ _ _ _ _) ?_)
  refine bodyPost_ret (v:=.agg #[.string nm,.int .u32 8,.int .u32 (ck:Int),.int .u32 (d.size:Int),.string z]) (results_cell_row Tryz.results88 _ _ (w.heap.size+1) 131 _ (0,0) _ rfl (setRow_heap w2 (w.heap.size+1) _ _ _ _ hr2) Tryz.underlying131 rfl infoItem) rfl ⟨?_,(uh HO2).setRow _ (fun h=>absurd h (by omega)) _⟩
  rw[hit]
  rfl
 have hshI:¬(z.size:Int)<(d.size:Int):=by omega
 have hit:=uh HPL hsh
 obtain ⟨e0,e1,e2,e3,e4⟩:=ItAt.cells (i:=⟨nm,0,ck,d.size,d⟩) (uh HI1)
 simp only at e0 e1 e2 e3 e4
 have hr2:=uh HR1
 go_wp2_with (refine wpList_store_row rfl 131 (.tmp 2) (.tmp 29) rfl (w.heap.size+1) #[.string nm,.int .u32 0,.int .u32 (ck:Int),.int .u32 (d.size:Int),.string d] rfl rfl 131 _ hr2 infoItem rfl (it_one _ _ _ _ _) ?_)
 refine bodyPost_ret (v:=.agg #[.string nm,.int .u32 0,.int .u32 (ck:Int),.int .u32 (d.size:Int),.string d]) (results_cell_row Tryz.results88 _ _ (w.heap.size+1) 131 _ (0,0) _ rfl (setRow_heap w1 (w.heap.size+1) _ _ _ _ hr2) Tryz.underlying131 rfl infoItem) rfl ⟨?_,(uh HO1).setRow _ (fun h=>absurd h (by omega)) _⟩
 rw[hit]
 rfl
open Go.RowKit Go.Maps
theorem infoItems:(Tryz.prog.info? 131).map (fun i=>(i.zero,i.size,i.bytes))=some (some (.agg #[.string ⟨#[]⟩,.int .u32 0,.int .u32 0,.int .u32 0,.string ⟨#[]⟩]),5,48):=by kernel_rfl
abbrev Fl:=ByteArray×ByteArray
def flCells(fs:List Fl):List Value:=fs.flatMap fun f=>[.string f.1,.string f.2]
theorem flCells_len(fs:List Fl):(flCells fs).length=fs.length*2:=by
 induction fs with
 |nil=>rfl
 |cons a r ih=>rw[flCells,List.flatMap_cons,List.length_append,←flCells,ih,List.length_cons];simp;omega
theorem flCells_get(fs:List Fl)(j:Nat)(hj:j<fs.length):(flCells fs)[j*2]? =some (.string (fs.getD j default).1)∧(flCells fs)[j*2+1]? =some (.string (fs.getD j default).2):=by
 induction fs generalizing j with
 |nil=>simp at hj
 |cons a r ih=>
  rw[flCells,List.flatMap_cons,←flCells]
  cases j with
  |zero=>simp
  |succ j=>
   have h:=ih j (by simpa using hj)
   rw[show (j+1)*2=j*2+2 by omega]
   simpa using h
def FilesAt(w:World)(v:Value)(fs:List Fl):Prop:=w.ownsRow 0 50 2 v fs.length (flCells fs)
theorem FilesAt.slice{w:World}{v:Value}{fs:List Fl}(h:FilesAt w v fs)(hn:0<fs.length): ∃g cap,v=.slice (some ⟨g,0,none⟩) fs.length cap∧g<w.heap.size∧ ∀j,j<fs.length→w.cell? ⟨g,j*2,none⟩=some (.string (fs.getD j default).1)∧w.cell? ⟨g,j*2+1,none⟩=some (.string (fs.getD j default).2):=by
 obtain ⟨hl,⟨rfl,hz⟩|⟨g,cap,cur,rfl,h1,hg,hr⟩⟩:=h
 ·omega
 refine ⟨g,cap,rfl,(Array.getElem?_eq_some_iff.1 hg).1,fun j hj=> ?_⟩
 have hcl:=World.ownsRow.cells (w:=w) ⟨hl,.inr ⟨g,cap,cur,rfl,h1,hg,hr⟩⟩ (g:=g) rfl
 obtain ⟨ha,hb⟩:=flCells_get fs j hj
 have h1:=hcl (j*2) _ ha
 have h2:=hcl (j*2+1) _ hb
 rw[Addr.add_lit,Nat.zero_add] at h1 h2
 exact ⟨h1,h2⟩
theorem it_new{wr:World}(i:It): ∀j u,i.v.toList[j]? =some u→(wr.alloc (.cells i.v 131)).cell? ((⟨wr.heap.size,0,none⟩:Addr).add j)=some u:=by
 intro j u h
 rw[Addr.add_lit,Nat.zero_add,cell_of_row _ _ _ _ _ (0,0) (Go.heap_alloc_new wr _)]
 rw[Array.getElem?_toList] at h
 exact h
def itemsP(fs:List Fl):List It:=fs.map fun f=>itemP f.1 f.2
theorem itemsP_succ(fs:List Fl)(i:Nat)(h:i<fs.length):itemsP (fs.take (i+1))=itemsP (fs.take i)++[itemP (fs.getD i default).1 (fs.getD i default).2]:=by
 rw[itemsP,itemsP,List.take_add_one,List.getElem?_eq_getElem h,List.getD_eq_getElem?_getD,List.getElem?_eq_getElem h,List.map_append];rfl
theorem itCells_app(a b:List It):itCells (a++b)=itCells a++itCells b:=by simp[itCells]
theorem itCells_one(i:It):itCells [i]=i.v.toList:=by simp[itCells]
theorem packA(p:ByteArray)(v:Value)(fs:List Fl)(hfs: ∀f∈fs,f.2.size≤20000)(hk:LaidOk p (itemsP fs))(hA:(laidL p (itemsP fs)).length≤40000)(w:World)(hv:FilesAt w v fs):
 Calls Tryz.prog 46 #[.string p,v] w fun r w' =>Old w w' ∧r=.returned (.tuple #[.string ⟨(laidL p (itemsP fs)).toArray⟩,.int .i64 0]):=by
 obtain ⟨i0,hi0,hz0,hz1,hz2⟩:=info_parts infoItems
 have hln:(itemsP fs).length=fs.length:=by simp[itemsP]
 have hn:0<fs.length:=by have:=hk.any;omega
 have hn2:fs.length≤1000:=by have:=hk.few;omega
 obtain ⟨g,cap,rfl,hgl,hcl⟩:=hv.slice hn
 have HCL:=hide hcl
 have HK:=hide hk
 have HFS:=hide hfs
 clear hcl hk hv hfs
 go_in
 go_wp2_with fail
 go_loopw [6,8,12] (fun u _ x wr=> ∃i:Nat,i≤fs.length∧x=.int .i64 i∧Hid (ItemsAt wr (fun k=>w.heap.size≤k) u (itemsP (fs.take i)))∧Hid (Old w wr)) (fun _ _ x _=>fs.length- (intOf x).toNat)
 ·exact ⟨0,by omega,rfl,⟨World.ownsRow_nil w 0 _ 5,fun b hb=>by cases hb⟩,Only.refl _ w⟩
 obtain ⟨i,hi,rfl,HI,HO⟩:=hrel
 by_cases hlt:i<fs.length
 ·have hltI:(i:Int)<(fs.length:Int):=by omega
  have hc0:=((uh HO).cell (p:=⟨g,i*2,none⟩) hgl (fun x=>x)).trans (uh HCL i hlt).1
  have hc1:=((uh HO).cell (p:=⟨g,i*2+1,none⟩) hgl (fun x=>x)).trans (uh HCL i hlt).2
  have hds:(fs.getD i default).2.size≤20000:=by rw[List.getD_eq_getElem?_getD,List.getElem?_eq_getElem hlt];exact uh HFS _ (List.getElem_mem hlt)
  have HS:=hide (itemsP_succ fs i hlt)
  have hil:(itemsP (fs.take i)).length=i:=by simp[itemsP];omega
  have hil2:(itemsP (fs.take (i+1))).length=i+1:=by simp[itemsP];omega
  generalize itemsP (fs.take i)=its at*
  generalize fs.getD i default=f at*
  obtain ⟨nm,d⟩:=f
  have hi9:i≤1000:=by omega
  have hA1:Old wr (wr.alloc (.cells #[.string nm,.string d] 50)):=(Only.refl _ wr).alloc _
  have hbx:=Go.heap_alloc_new wr (.cells #[.string nm,.string d] 50)
  have hb0:(wr.alloc (.cells #[.string nm,.string d] 50)).cell? ⟨wr.heap.size,0,none⟩=some (.string nm):=by rw[cell_of_row _ _ 0 _ _ (0,0) hbx];rfl
  have hb1:(wr.alloc (.cells #[.string nm,.string d] 50)).cell? ⟨wr.heap.size,1,none⟩=some (.string d):=by rw[cell_of_row _ _ 1 _ _ (0,0) hbx];rfl
  have H1:=hide (itemOfA nm d hds (wr.alloc (.cells #[.string nm,.string d] 50)))
  generalize itemP nm d=it at*
  have HA1:=hide hA1
  clear hA1 hbx
  go_wp2_with fail
  refine (uh H1).mono ?_
  rintro r w1 ⟨rfl,ho1⟩
  have hO1:Old wr w1:=Only.trans (uh HA1) ho1
  have hA2:Old w1 (w1.alloc (.cells it.v 131)):=(Only.refl _ w1).alloc _
  have HOW:=hide (((uh HI).kept hO1 (fun _ _ x=>x)).kept hA2 (fun _ _ x=>x))
  have HNW:=hide (it_new (wr:=w1) it)
  have HO2:=hide (Only.trans (Only.trans (uh HO) hO1) hA2)
  have hoc: ∀u∈it.v.toList,u.oneCell' =true:=by intro u hu;simp at hu;rcases hu with rfl|rfl|rfl|rfl|rfl<;>rfl
  have hsw:w.heap.size≤(w1.alloc (.cells it.v 131)).heap.size:=(uh HO2).size
  obtain ⟨nm',wy,ck,sz,pk⟩:=it
  clear hA2 ho1 hO1 HI HO H1 HA1 hb0 hb1 hc0 hc1
  obtain ⟨how,hbs⟩:=uh HOW
  rw[hil] at how
  have HOWN:=hide how
  have HBS:=hide hbs
  clear how hbs
  have HFN:Hid (∀(g2 cap2:Nat) (w3:World),w3.ownsRow 0 131 5 (.slice (some ⟨g2,0,none⟩) (i+1) cap2) (i+1) (itCells its++(It.v ⟨nm',wy,ck,sz,pk⟩).toList)→(w1.alloc (.cells (It.v ⟨nm',wy,ck,sz,pk⟩) 131)).grownBy w3 u6.ownBlock→(u6.ownBlock=some g2∨g2=w1.heap.size+1)→ItemsAt w3 (fun k=>w.heap.size≤k) (.slice (some ⟨g2,0,none⟩) (i+1) cap2) (itemsP (fs.take (i+1)))∧Old w w3):=by
   intro g2 cap2 w3 ho3 hg3 hl3
   refine ⟨⟨?_,fun b hb=> ?_⟩,(uh HO2).grown hg3 (fun k hk e=>absurd (uh HBS k e) (by omega))⟩
   ·rw[hil2,uh HS,itCells_app,itCells_one];exact ho3
   injection hb with hb
   subst hb
   rcases hl3 with h|h
   ·exact uh HBS _ h
   have:=hsw;rw[World.size_alloc] at this;simp only;omega
  go_wp2_with (at_builtin;refine wpList_append_lies _ rfl (.tmp 16) (.tmp 19) 129 rfl 0 131 i0 (.agg #[.string ⟨#[]⟩,.int .u32 0,.int .u32 0,.int .u32 0,.string ⟨#[]⟩]) 5 48 Tryz.underlying129 hi0 hz0 hz1 hz2 rfl (by omega) u6 i _ rfl (uh HOWN) ⟨w1.heap.size,0,none⟩ 1 1 (It.v ⟨nm',wy,ck,sz,pk⟩).toList rfl rfl (uh HNW) hoc (by omega) (by unfold maxLen;omega) (by omega) (by omega) (w1.heap.size+1) (by simp) ?_;intro g2 cap2 w3 ho3 hg3 hl3 hlt3;have HX:=hide (uh HFN g2 cap2 w3 ho3 hg3 hl3);clear ho3 hg3 hl3)
  go_roundw
  ·exact ⟨i+1,by omega,by go_num,(uh HX).1,(uh HX).2⟩
  case measure=>simp[intOf];omega
 have hltI:¬(i:Int)<(fs.length:Int):=by omega
 have hie:i=fs.length:=by omega
 subst hie
 rw[List.take_length] at HI
 have H2:=hide (laidA _ p u6 (itemsP fs) (uh HK) wr (uh HI))
 have hsz:(ByteArray.mk (laidL p (itemsP fs)).toArray).size=(laidL p (itemsP fs)).length:=by simp[ByteArray.size]
 have HE:Hid (∀z,z=ByteArray.mk (laidL p (itemsP fs)).toArray→z.size≤40000):=fun z h=>by rw[h,hsz];exact hA
 clear HCL HK HFS HI
 go_wp2_with fail
 refine (uh H2).mono ?_
 rintro r w2 ⟨ho2,rfl⟩
 have HO2:=hide (Only.trans (uh HO) ho2)
 generalize hz:ByteArray.mk (laidL p (itemsP fs)).toArray=z
 have hzs:=uh HE z hz.symm
 have HZ:=hide hz
 have hzI:¬(40000:Int)<(z.size:Int):=by omega
 clear H2 ho2 hz hA hsz
 go_wp2_with fail
 go_ret2
 exact ⟨HO2,by rw[uh HZ];rfl⟩
end Go.Proofs.YtndfmgdhiallpaaGreatDoor
