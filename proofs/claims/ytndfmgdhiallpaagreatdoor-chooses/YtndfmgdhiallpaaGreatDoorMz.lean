import Derived.Test.YtndfmgdhiallpaaGreatDoorMd
set_option maxRecDepth 100000
set_option maxHeartbeats 1000000
namespace Go.Proofs.YtndfmgdhiallpaaGreatDoor
open Go.RowKit
abbrev nilS:Value:=.slice none 0 0
def WCells(m v ar:ByteArray)(pd pr:Value)(c:Int):Array Value:= #[.string m,.string v,.string ar,pd,pr,nilS,nilS,nilS,nilS,nilS,nilS,.int .i64 c]
def WAt(w:World)(b:Nat):Prop:= ∃m v ar pd pr c,w.heap[b]? =some (.cells (WCells m v ar pd pr c) 77 (0,0))
theorem WAt.lt{w:World}{b:Nat}(h:WAt w b):b<w.heap.size:=by
 obtain ⟨_,_,_,_,_,_,h⟩:=h
 exact (Array.getElem?_eq_some_iff.1 h).1
theorem WAt.old{w w' :World}{b:Nat}(h:WAt w b)(ho:Old w w'):WAt w' b:=by
 obtain ⟨m,v,ar,pd,pr,c,h⟩:=h
 exact ⟨m,v,ar,pd,pr,c,old_heap ho h⟩
theorem Only.oldW{S:Nat→Prop}{w w' :World}(h:Old w w'):Only S w w' :=h.mono (fun _ _ x=>x.elim)
def opV(k a c:Int)(s t:ByteArray)(tr fi:Value):Array Value:= #[.int .i64 k,.int .i64 a,.int .i64 c,.string s,.string t,tr,fi]
theorem step_one(a c:Int)(s t:ByteArray)(tr fi:Value)(b:Nat)(w:World)(hw:WAt w b):
 Calls Tryz.prog 38 #[.pointer (some ⟨b,0,none⟩),.agg (opV 1 a c s t tr fi)] w fun e w' =>e=.returned (.bool true)∧WAt w' b∧Only (fun i=>i=b) w w' :=by
 have hb:=hw.lt
 obtain ⟨m,v,ar,pd,pr,cn,hg⟩:=hw
 have hc0:w.cell? ⟨b,0,none⟩=some (.string m):=by rw[cell_of_row w b 0 _ _ (0,0) hg];rfl
 have hc1:w.cell? ⟨b,1,none⟩=some (.string v):=by rw[cell_of_row w b 1 _ _ (0,0) hg];rfl
 have hf0:=frozen_of_row w b 0 _ _ hg
 have hf1:=frozen_of_row w b 1 _ _ hg
 have HG:=hide hg
 clear hg
 unfold opV
 go_in
 go_wp2_with fail
 go_ret
 refine ⟨rfl,⟨s,t,ar,pd,pr,cn, ?_⟩, ?_⟩
 ·have h1:=heap_setCell_same w b 0 _ _ (.string s) (uh HG)
  have h2:=heap_setCell_same _ b 1 _ _ (.string t) h1
  exact (Below.heap_alloc _ _ _ (by simpa [World.setCell] using hb)).trans h2
 exact (((Only.refl (fun i=>i=b) w).setCell (p:=⟨b,0,none⟩) (fun _=>rfl) _).setCell (p:=⟨b,1,none⟩) (fun _=>rfl) _).alloc _
theorem step_two(a c:Int)(s t:ByteArray)(hs:s.size≤140737488355328)(tr fi:Value)(b:Nat)(w:World)(hw:WAt w b)(hgl:Glob w):
 Calls Tryz.prog 38 #[.pointer (some ⟨b,0,none⟩),.agg (opV 2 a c s t tr fi)] w fun e w' =>e=.returned (.bool true)∧WAt w' b∧Only (fun i=>i=b) w w' :=by
 have hsm:s.size≤maxLen:=by unfold maxLen;omega
 have H9:=hide (fun w1 h=>valiseDigest_any s hs w1 h)
 have H10:=hide (fun w1=>refDigest_any s w1 hs)
 have H11:=hide (fun w1=>valiseCheck_any s w1 hsm)
 have H12:=hide (fun w1=>refCheck_any s w1 hsm)
 generalize digestOf s=d at H9 H10
 have HOp:Hid (Row (w.alloc (.cells (opV 2 a c s t tr fi) 79)) w.heap.size 79 7 (fun j=>(opV 2 a c s t tr fi).getD j undef)):=Row.new w _ _ 7 _ (by rw[opV];exact Nat.le_refl _) (fun j hj=>by
  have:j=0∨j=1∨j=2∨j=3∨j=4∨j=5∨j=6:=by omega
  rcases this with rfl|rfl|rfl|rfl|rfl|rfl|rfl<;>rfl)
 have HWA:=hide (hw.old ((Only.refl _ w).alloc (.cells (opV 2 a c s t tr fi) 79)))
 have HGL:=hide (hgl.old ((Only.refl _ w).alloc (.cells (opV 2 a c s t tr fi) 79)))
 have HOL:Hid (Old w (w.alloc (.cells (opV 2 a c s t tr fi) 79))):=(Only.refl _ w).alloc _
 clear hw hgl hs hsm
 unfold opV at*
 go_in
 go_wp2_with fail
 generalize w.alloc (.cells #[.int .i64 2,.int .i64 a,.int .i64 c,.string s,.string t,tr,fi] 79)=W at*
 refine (uh H9 _ (uh HGL)).mono ?_
 rintro e w1 ⟨rfl,ho1⟩
 have HO1:=hide (Only.trans (uh HOL) ho1)
 have HW1:=hide ((uh HWA).old ho1)
 have HR1:=hide ((uh HOp).old ho1)
 have hc1:w1.cell? ⟨w.heap.size,3,none⟩=some (.string s):=(uh HR1).cell 3 (by omega)
 clear ho1 HOL HWA HOp
 go_wp2_with fail
 refine (uh H10 _).mono ?_
 rintro e w2 ⟨rfl,ho2⟩
 have HO2:=hide (Only.trans (uh HO1) ho2)
 have HW2:=hide ((uh HW1).old ho2)
 have hc2:w2.cell? ⟨w.heap.size,3,none⟩=some (.string s):=((uh HR1).old ho2).cell 3 (by omega)
 clear ho2 hc1
 go_wp2_with (first
  |(go_at_call 40;refine (uh H11 _).mono ?_;rintro e w3 ⟨rfl,rfl⟩)
  |(go_at_call 58;refine (uh H12 _).mono ?_;rintro e w3 ⟨rfl,rfl⟩))
 go_ret
 exact ⟨rfl,HW2,Only.oldW (uh HO2)⟩
theorem step_low(k a c:Int)(hk:k≤0)(s t:ByteArray)(tr fi:Value)(b:Nat)(w:World)(hw:WAt w b):
 Calls Tryz.prog 38 #[.pointer (some ⟨b,0,none⟩),.agg (opV k a c s t tr fi)] w fun e w' =>e=.returned (.bool true)∧WAt w' b∧Only (fun i=>i=b) w w' :=by
 have h1:(k==1)=false:=by rw[beq_eq_false_iff_ne];omega
 have h2:(k==2)=false:=by rw[beq_eq_false_iff_ne];omega
 have h3:(k==3)=false:=by rw[beq_eq_false_iff_ne];omega
 have h4:(k==4)=false:=by rw[beq_eq_false_iff_ne];omega
 have h5:(k==5)=false:=by rw[beq_eq_false_iff_ne];omega
 have h6:(k==6)=false:=by rw[beq_eq_false_iff_ne];omega
 have h7:(k==7)=false:=by rw[beq_eq_false_iff_ne];omega
 have h8:(k==8)=false:=by rw[beq_eq_false_iff_ne];omega
 have h9:(k==9)=false:=by rw[beq_eq_false_iff_ne];omega
 have h10:(k==10)=false:=by rw[beq_eq_false_iff_ne];omega
 have h11:(k==11)=false:=by rw[beq_eq_false_iff_ne];omega
 have h12:(k==12)=false:=by rw[beq_eq_false_iff_ne];omega
 have h13:(k==13)=false:=by rw[beq_eq_false_iff_ne];omega
 have h14:(k==14)=false:=by rw[beq_eq_false_iff_ne];omega
 have HW:=hide hw
 clear hw hk
 unfold opV
 go_in
 go_wp2_with fail
 go_ret
 exact ⟨rfl,(uh HW).old ((Only.refl _ w).alloc _),(Only.refl _ w).alloc _⟩
theorem still_any(b:Nat)(w:World)(hw:WAt w b):
 Calls Tryz.prog 39 #[.pointer (some ⟨b,0,none⟩)] w fun e w' =>e=.returned (.bool true)∧w' =w:=by
 obtain ⟨m,v,ar,pd,pr,cn,hg⟩:=hw
 have hc5:w.cell? ⟨b,5,none⟩=some nilS:=by rw[cell_of_row w b 5 _ _ (0,0) hg];rfl
 have hc7:w.cell? ⟨b,7,none⟩=some nilS:=by rw[cell_of_row w b 7 _ _ (0,0) hg];rfl
 have hc9:w.cell? ⟨b,9,none⟩=some nilS:=by rw[cell_of_row w b 9 _ _ (0,0) hg];rfl
 clear hg
 go_in
 go_wp2_with fail
 go_loop [3] (fun i=>i=.int .i64 0) (fun _=>0)
 ·rfl
 subst hrel
 go_wp2_with fail
 go_loop [5] (fun i=>i=.int .i64 0) (fun _=>0)
 ·rfl
 subst hrel
 go_wp2_with fail
 go_loop [7] (fun i=>i=.int .i64 0) (fun _=>0)
 ·rfl
 subst hrel
 go_wp2_with fail
 go_ret
 exact ⟨rfl,rfl⟩
open Go.RowKit Go.Maps
def OpsAt(w:World)(a:Addr)(n:Nat):Prop:= ∀i,i<n→ ∃k p q s t x y,s.size≤140737488355328∧(opV k p q s t x y).all (·.oneCell')=true∧ ∀j,j<7→w.cell? (a.add (i*7+j))=(opV k p q s t x y)[j]?
def StepOk(G:World→Prop)(L:Int):Prop:= ∀(k p q:Int) (s t:ByteArray) (x y:Value) (b:Nat) (w:World),k≤L→s.size≤140737488355328→WAt w b→G w→
 Calls Tryz.prog 38 #[.pointer (some ⟨b,0,none⟩),.agg (opV k p q s t x y)] w fun e w' =>e=.returned (.bool true)∧WAt w' b∧Only (fun i=>i=b) w w'
def firstArr(x y:Value):Array Value:= #[.int .i64 1,.int .i64 0,.int .i64 0,.string ⟨#[109,46,120,47,121]⟩,.string ⟨#[118,49,46,50,46,51]⟩,nilS,nilS,.int .i64 2,.int .i64 0,.int .i64 0,.string ⟨#[97,98,99]⟩,.string ⟨#[]⟩,nilS,nilS,.int .i64 3,.int .i64 0,.int .i64 0,.string ⟨#[1,2,0,253,255,72,105]⟩,.string ⟨#[]⟩,nilS,nilS,.int .i64 4,.int .i64 0,.int .i64 0,.string ⟨#[72,105]⟩,.string ⟨#[]⟩,nilS,nilS,.int .i64 5,.int .i64 0,.int .i64 0,.string ⟨#[]⟩,.string ⟨#[]⟩,x,nilS,.int .i64 6,.int .i64 0,.int .i64 0,.string ⟨#[]⟩,.string ⟨#[]⟩,x,nilS,.int .i64 7,.int .i64 0,.int .i64 0,.string ⟨#[]⟩,.string ⟨#[]⟩,nilS,nilS,.int .i64 10,.int .i64 0,.int .i64 0,.string ⟨#[]⟩,.string ⟨#[]⟩,nilS,y,.int .i64 11,.int .i64 0,.int .i64 0,.string ⟨#[]⟩,.string ⟨#[]⟩,nilS,nilS,.int .i64 13,.int .i64 0,.int .i64 0,.string ⟨#[112]⟩,.string ⟨#[]⟩,nilS,nilS,.int .i64 14,.int .i64 0,.int .i64 0,.string ⟨#[112]⟩,.string ⟨#[]⟩,nilS,nilS]
theorem seven{P:Nat→Prop}(h0:P 0)(h1:P 1)(h2:P 2)(h3:P 3)(h4:P 4)(h5:P 5)(h6:P 6): ∀j,j<7→P j:=by
 intro j hj
 match j,hj with
 |0,_=>exact h0
 |1,_=>exact h1
 |2,_=>exact h2
 |3,_=>exact h3
 |4,_=>exact h4
 |5,_=>exact h5
 |6,_=>exact h6
theorem op_one{k p q:Int}{s t:ByteArray}{x y:Value}(hx:x.oneCell' =true)(hy:y.oneCell' =true):(opV k p q s t x y).all (·.oneCell')=true:=by
 rw[Array.all_eq_true_iff_forall_mem]
 intro v hv
 simp[opV] at hv
 rcases hv with rfl|rfl|rfl|rfl|rfl|rfl|rfl
 ·rfl
 ·rfl
 ·rfl
 ·rfl
 ·rfl
 ·exact hx
 exact hy
theorem first_ops{w:World}{g:Nat}{e:TypeId}{x y:Value}(hx:x.oneCell' =true)(hy:y.oneCell' =true)(hg:w.heap[g]? =some (.cells (firstArr x y) e (0,0))):OpsAt w ⟨g,0,none⟩ 11:=by
 have hc: ∀m,w.cell? ((⟨g,0,none⟩:Addr).add m)=(firstArr x y)[m]? :=fun m=>by rw[Addr.add_lit,Nat.zero_add,cell_of_row w g m _ e (0,0) hg]
 intro i hi
 match i,hi with
 |0,_=>exact ⟨1,0,0,⟨#[109,46,120,47,121]⟩,⟨#[118,49,46,50,46,51]⟩,nilS,nilS,by show 5≤_;omega,op_one rfl rfl,seven (hc _) (hc _) (hc _) (hc _) (hc _) (hc _) (hc _)⟩
 |1,_=>exact ⟨2,0,0,⟨#[97,98,99]⟩,⟨#[]⟩,nilS,nilS,by show 3≤_;omega,op_one rfl rfl,seven (hc _) (hc _) (hc _) (hc _) (hc _) (hc _) (hc _)⟩
 |2,_=>exact ⟨3,0,0,⟨#[1,2,0,253,255,72,105]⟩,⟨#[]⟩,nilS,nilS,by show 7≤_;omega,op_one rfl rfl,seven (hc _) (hc _) (hc _) (hc _) (hc _) (hc _) (hc _)⟩
 |3,_=>exact ⟨4,0,0,⟨#[72,105]⟩,⟨#[]⟩,nilS,nilS,by show 2≤_;omega,op_one rfl rfl,seven (hc _) (hc _) (hc _) (hc _) (hc _) (hc _) (hc _)⟩
 |4,_=>exact ⟨5,0,0,⟨#[]⟩,⟨#[]⟩,x,nilS,by show 0≤_;omega,op_one hx rfl,seven (hc _) (hc _) (hc _) (hc _) (hc _) (hc _) (hc _)⟩
 |5,_=>exact ⟨6,0,0,⟨#[]⟩,⟨#[]⟩,x,nilS,by show 0≤_;omega,op_one hx rfl,seven (hc _) (hc _) (hc _) (hc _) (hc _) (hc _) (hc _)⟩
 |6,_=>exact ⟨7,0,0,⟨#[]⟩,⟨#[]⟩,nilS,nilS,by show 0≤_;omega,op_one rfl rfl,seven (hc _) (hc _) (hc _) (hc _) (hc _) (hc _) (hc _)⟩
 |7,_=>exact ⟨10,0,0,⟨#[]⟩,⟨#[]⟩,nilS,y,by show 0≤_;omega,op_one rfl hy,seven (hc _) (hc _) (hc _) (hc _) (hc _) (hc _) (hc _)⟩
 |8,_=>exact ⟨11,0,0,⟨#[]⟩,⟨#[]⟩,nilS,nilS,by show 0≤_;omega,op_one rfl rfl,seven (hc _) (hc _) (hc _) (hc _) (hc _) (hc _) (hc _)⟩
 |9,_=>exact ⟨13,0,0,⟨#[112]⟩,⟨#[]⟩,nilS,nilS,by show 1≤_;omega,op_one rfl rfl,seven (hc _) (hc _) (hc _) (hc _) (hc _) (hc _) (hc _)⟩
 |10,_=>exact ⟨14,0,0,⟨#[112]⟩,⟨#[]⟩,nilS,nilS,by show 1≤_;omega,op_one rfl rfl,seven (hc _) (hc _) (hc _) (hc _) (hc _) (hc _) (hc _)⟩
theorem at_new{w:World}{o:Obj}{g:Nat}(hg:g=w.heap.size):(w.alloc o).heap[g]? =some o:=by subst hg;exact Go.heap_alloc_new w o
theorem at_keep{w:World}{o o' :Obj}{g:Nat}(h:w.heap[g]? =some o):(w.alloc o').heap[g]? =some o:=old_heap ((Only.refl _ w).alloc o') h
theorem wp_world{P:Program}{c:Code}{Q:Exit→Act→World→Prop}{a:Act}{W:World}(R:World→Prop)(hR:R W)(h: ∀W',R W' →c.wp P Q a W'):c.wp P Q a W:=h W hR
theorem OpsAt.old{w w' :World}{a:Addr}{n:Nat}(h:OpsAt w a n)(ho:Old w w'):OpsAt w' a n:=by
 intro i hi
 obtain ⟨k,p,q,s,t,x,y,h1,h2,h3⟩:=h i hi
 refine ⟨k,p,q,s,t,x,y,h1,h2,fun j hj=> ?_⟩
 have h4:=h3 j hj
 have hl:(a.add (i*7+j)).block<w.heap.size:=by
  rcases Nat.lt_or_ge (a.add (i*7+j)).block w.heap.size with hlt|hge
  ·exact hlt
  have:w.cell? (a.add (i*7+j))=none:=by simp[World.cell?,Array.getElem?_eq_none hge]
  rw[this] at h4
  have:j<(opV k p q s t x y).size:=hj
  rw[Array.getElem?_eq_getElem this] at h4
  cases h4
 rw[ho.cell hl (fun x=>x)]
 exact h4
theorem OpsAt.only{S:Nat→Prop}{w w' :World}{g n:Nat}(h:OpsAt w ⟨g,0,none⟩ n)(ho:Only S w w')(hs:¬S g):OpsAt w' ⟨g,0,none⟩ n:=by
 intro i hi
 obtain ⟨k,p,q,s,t,x,y,h1,h2,h3⟩:=h i hi
 refine ⟨k,p,q,s,t,x,y,h1,h2,fun j hj=> ?_⟩
 have h4:=h3 j hj
 rw[Addr.add_lit] at h4 ⊢
 have hl:g<w.heap.size:=by
  rcases Nat.lt_or_ge g w.heap.size with hlt|hge
  ·exact hlt
  have:w.cell? ⟨g,0+(i*7+j),none⟩=none:=by simp[World.cell?,Array.getElem?_eq_none hge]
  rw[this] at h4
  have:j<(opV k p q s t x y).size:=hj
  rw[Array.getElem?_eq_getElem this] at h4
  cases h4
 rw[ho.cell (p:=⟨g,0+(i*7+j),none⟩) hl hs]
 exact h4
theorem new_any(w:World):Calls Tryz.prog 33 #[] w fun e w' =>e=.returned (.pointer (some ⟨w.heap.size,0,none⟩))∧w' =w.alloc (.cells #[nilS,.int .i64 (-1),.int .i64 (-1),.int .i64 0,.bool false] 92):=by
 go_in
 go_wp2
 go_ret
 exact ⟨rfl,rfl⟩
theorem played_any{G:World→Prop}(hGO: ∀{w w' :World},G w→Old w w' →G w')(L:Int)(hL:StepOk G L)(a:Addr)(n cap:Nat)(w:World)(hg:G w)(ho:OpsAt w a n)(hn:n≤maxLen):
 Calls Tryz.prog 14 #[.slice (some a) n cap,.int .i64 L] w fun e w' =>e=.returned (.bool true)∧Old w w' :=by
 unfold maxLen at hn
 have HL:=hide hL
 have HG:=hide hg
 have HGO:Hid (∀{w w' :World},G w→Old w w' →G w'):=hGO
 have HOp:=hide ho
 clear hL hg ho hGO
 go_in
 go_wp2_with (go_at_call 33;refine (new_any _).mono ?_;rintro e w' ⟨rfl,rfl⟩)
 refine wp_world (R:=fun W=>WAt W (w.heap.size+2)∧OpsAt W ⟨w.heap.size+5,0,none⟩ 11∧Old w W) ⟨?_, ?_, ?_⟩ ?_
 ·exact ⟨_,_,_,_,_,_,at_keep (at_keep (at_keep (at_new (by simp))))⟩
 ·exact first_ops rfl rfl (at_new (by simp))
 ·exact ((((((Only.refl _ w).alloc _).alloc _).alloc _).alloc _).alloc _).alloc _
 rintro W ⟨hw,hf,hold⟩
 have HW:=hide hw
 have HF:=hide hf
 have HO:=hide hold
 clear hw hf hold
 go_wp2_with fail
 go_loopw [9,10] (fun ok i wr=> ∃j:Nat,j≤11∧ok=.bool true∧i=.int .i64 j∧Hid (WAt wr (w.heap.size+2))∧Hid (Old w wr)∧Hid (OpsAt wr ⟨w.heap.size+5,0,none⟩ 11)) (fun _ i _=>11- (intOf i).toNat)
 ·exact ⟨0,by omega,rfl,rfl,HW,HO,HF⟩
 obtain ⟨j,hj,rfl,rfl,HW,HO,HF⟩:=hrel
 by_cases hlt:j<11
 ·obtain ⟨k,p,q,s,t,x,y,hs,hall,hcs⟩:=uh HF j hlt
  have hc0:wr.cell? ⟨w.heap.size+5,j*7+0,none⟩=(opV k p q s t x y)[0]? :=by have:=hcs 0 (by omega);rw[Addr.add_lit,Nat.zero_add] at this;exact this
  have hc1:wr.cell? ⟨w.heap.size+5,j*7+1,none⟩=(opV k p q s t x y)[1]? :=by have:=hcs 1 (by omega);rw[Addr.add_lit,Nat.zero_add] at this;exact this
  have hc2:wr.cell? ⟨w.heap.size+5,j*7+2,none⟩=(opV k p q s t x y)[2]? :=by have:=hcs 2 (by omega);rw[Addr.add_lit,Nat.zero_add] at this;exact this
  have hc3:wr.cell? ⟨w.heap.size+5,j*7+3,none⟩=(opV k p q s t x y)[3]? :=by have:=hcs 3 (by omega);rw[Addr.add_lit,Nat.zero_add] at this;exact this
  have hc4:wr.cell? ⟨w.heap.size+5,j*7+4,none⟩=(opV k p q s t x y)[4]? :=by have:=hcs 4 (by omega);rw[Addr.add_lit,Nat.zero_add] at this;exact this
  have hc5:wr.cell? ⟨w.heap.size+5,j*7+5,none⟩=(opV k p q s t x y)[5]? :=by have:=hcs 5 (by omega);rw[Addr.add_lit,Nat.zero_add] at this;exact this
  have hc6:wr.cell? ⟨w.heap.size+5,j*7+6,none⟩=(opV k p q s t x y)[6]? :=by have:=hcs 6 (by omega);rw[Addr.add_lit,Nat.zero_add] at this;exact this
  simp only[Nat.add_zero] at hc0
  have HST:=hide (fun h=>uh HL k p q s t x y (w.heap.size+2) wr h hs (uh HW) (uh HGO (uh HG) (uh HO)))
  have HSZ:=hide hs
  clear hcs hall hs
  unfold opV at hc0 hc1 hc2 hc3 hc4 hc5 hc6 HST
  by_cases hkl:k≤L
  ·have HST2:=hide (uh HST hkl)
   clear HST
   go_wp2_with (go_at_call 38;refine (uh HST2).mono ?_;rintro e w1 ⟨rfl,hw1,ho1⟩;have HW1:=hide hw1;have HO1:=hide ho1;clear hw1 ho1)
   go_roundw
   ·refine ⟨j+1,by omega,rfl,by go_num,HW1, ?_, ?_⟩
    ·exact (uh HO).transNew (uh HO1) (fun i hi e=>absurd hi (by omega))
    exact (uh HF).only (uh HO1) (by omega)
   case measure=>simp[intOf];omega
  go_wp2_with fail
  go_roundw
  ·exact ⟨j+1,by omega,rfl,by go_num,HW,HO,HF⟩
  case measure=>simp[intOf];omega
 have hji:(j:Int)=11:=by omega
 rw[hji]
 clear HF hj hlt hji
 go_wp2_with fail
 go_loopw [9,11,12,13] (fun ok i _ _ wr=> ∃j:Nat,j≤n∧ok=.bool true∧i=.int .i64 j∧Hid (WAt wr (w.heap.size+2))∧Hid (Old w wr)) (fun _ i _ _ _=>n- (intOf i).toNat)
 ·exact ⟨0,by omega,rfl,rfl,HW,HO⟩
 obtain ⟨j,hj,rfl,rfl,HW,HO⟩:=hrel
 by_cases hlt:j<n
 ·obtain ⟨k,p,q,s,t,x,y,hs,hall,hcs⟩:=(uh HOp).old (uh HO) j hlt
  have hc1:wr.cell? ⟨(a.add (j*7)).block,(a.add (j*7)).off+1,none⟩=(opV k p q s t x y)[1]? :=by have:=hcs 1 (by omega);rw[←Addr.add_add] at this;exact (congrArg wr.cell? (Addr.add_succ' (a.add (j*7)) 0).symm).trans this
  have hc2:wr.cell? ⟨(a.add (j*7)).block,(a.add (j*7)).off+2,none⟩=(opV k p q s t x y)[2]? :=by have:=hcs 2 (by omega);rw[←Addr.add_add] at this;exact (congrArg wr.cell? (Addr.add_succ' (a.add (j*7)) 1).symm).trans this
  have hc3:wr.cell? ⟨(a.add (j*7)).block,(a.add (j*7)).off+3,none⟩=(opV k p q s t x y)[3]? :=by have:=hcs 3 (by omega);rw[←Addr.add_add] at this;exact (congrArg wr.cell? (Addr.add_succ' (a.add (j*7)) 2).symm).trans this
  have hc4:wr.cell? ⟨(a.add (j*7)).block,(a.add (j*7)).off+4,none⟩=(opV k p q s t x y)[4]? :=by have:=hcs 4 (by omega);rw[←Addr.add_add] at this;exact (congrArg wr.cell? (Addr.add_succ' (a.add (j*7)) 3).symm).trans this
  have hc5:wr.cell? ⟨(a.add (j*7)).block,(a.add (j*7)).off+5,none⟩=(opV k p q s t x y)[5]? :=by have:=hcs 5 (by omega);rw[←Addr.add_add] at this;exact (congrArg wr.cell? (Addr.add_succ' (a.add (j*7)) 4).symm).trans this
  have hc6:wr.cell? ⟨(a.add (j*7)).block,(a.add (j*7)).off+6,none⟩=(opV k p q s t x y)[6]? :=by have:=hcs 6 (by omega);rw[←Addr.add_add] at this;exact (congrArg wr.cell? (Addr.add_succ' (a.add (j*7)) 5).symm).trans this
  have hc0:wr.cell? (a.add (j*7))=(opV k p q s t x y)[0]? :=hcs 0 (by omega)
  have HST:=hide (fun h=>uh HL k p q s t x y (w.heap.size+2) wr h hs (uh HW) (uh HGO (uh HG) (uh HO)))
  have HSZ:=hide hs
  clear hcs hall hs
  unfold opV at hc0 hc1 hc2 hc3 hc4 hc5 hc6 HST
  by_cases hkl:k≤L
  ·have HST2:=hide (uh HST hkl)
   clear HST
   go_wp2_with (first
    |(go_at_call 38;refine (uh HST2).mono ?_;rintro e w1 ⟨rfl,hw1,ho1⟩;have HW1:=hide hw1;have HO1:=hide ho1;have HSL:=hide (still_any _ w1 hw1);clear hw1 ho1)
    |(go_at_call 39;refine (uh HSL).mono ?_;rintro e w2 ⟨rfl,rfl⟩))
   go_roundw
   ·exact ⟨j+1,by omega,rfl,by go_num,HW1,(uh HO).transNew (uh HO1) (fun i hi e=>absurd hi (by omega))⟩
   case measure=>simp[intOf];omega
  go_wp2_with fail
  go_roundw
  ·exact ⟨j+1,by omega,rfl,by go_num,HW,HO⟩
  case measure=>simp[intOf];omega
 have hjn:j=n:=by omega
 subst hjn
 go_wp2_with fail
 go_ret
 exact ⟨rfl,HO⟩
theorem played_nil{G:World→Prop}(hGO: ∀{w w' :World},G w→Old w w' →G w')(L:Int)(hL:StepOk G L)(w:World)(hg:G w):
 Calls Tryz.prog 14 #[.slice none 0 0,.int .i64 L] w fun e w' =>e=.returned (.bool true)∧Old w w' :=by
 have HL:=hide hL
 have HG:=hide hg
 have HGO:Hid (∀{w w' :World},G w→Old w w' →G w'):=hGO
 clear hL hg hGO
 go_in
 go_wp2_with (go_at_call 33;refine (new_any _).mono ?_;rintro e w' ⟨rfl,rfl⟩)
 refine wp_world (R:=fun W=>WAt W (w.heap.size+2)∧OpsAt W ⟨w.heap.size+5,0,none⟩ 11∧Old w W) ⟨?_, ?_, ?_⟩ ?_
 ·exact ⟨_,_,_,_,_,_,at_keep (at_keep (at_keep (at_new (by simp))))⟩
 ·exact first_ops rfl rfl (at_new (by simp))
 ·exact ((((((Only.refl _ w).alloc _).alloc _).alloc _).alloc _).alloc _).alloc _
 rintro W ⟨hw,hf,hold⟩
 have HW:=hide hw
 have HF:=hide hf
 have HO:=hide hold
 clear hw hf hold
 go_wp2_with fail
 go_loopw [9,10] (fun ok i wr=> ∃j:Nat,j≤11∧ok=.bool true∧i=.int .i64 j∧Hid (WAt wr (w.heap.size+2))∧Hid (Old w wr)∧Hid (OpsAt wr ⟨w.heap.size+5,0,none⟩ 11)) (fun _ i _=>11- (intOf i).toNat)
 ·exact ⟨0,by omega,rfl,rfl,HW,HO,HF⟩
 obtain ⟨j,hj,rfl,rfl,HW,HO,HF⟩:=hrel
 by_cases hlt:j<11
 ·obtain ⟨k,p,q,s,t,x,y,hs,hall,hcs⟩:=uh HF j hlt
  have hc0:wr.cell? ⟨w.heap.size+5,j*7+0,none⟩=(opV k p q s t x y)[0]? :=by have:=hcs 0 (by omega);rw[Addr.add_lit,Nat.zero_add] at this;exact this
  have hc1:wr.cell? ⟨w.heap.size+5,j*7+1,none⟩=(opV k p q s t x y)[1]? :=by have:=hcs 1 (by omega);rw[Addr.add_lit,Nat.zero_add] at this;exact this
  have hc2:wr.cell? ⟨w.heap.size+5,j*7+2,none⟩=(opV k p q s t x y)[2]? :=by have:=hcs 2 (by omega);rw[Addr.add_lit,Nat.zero_add] at this;exact this
  have hc3:wr.cell? ⟨w.heap.size+5,j*7+3,none⟩=(opV k p q s t x y)[3]? :=by have:=hcs 3 (by omega);rw[Addr.add_lit,Nat.zero_add] at this;exact this
  have hc4:wr.cell? ⟨w.heap.size+5,j*7+4,none⟩=(opV k p q s t x y)[4]? :=by have:=hcs 4 (by omega);rw[Addr.add_lit,Nat.zero_add] at this;exact this
  have hc5:wr.cell? ⟨w.heap.size+5,j*7+5,none⟩=(opV k p q s t x y)[5]? :=by have:=hcs 5 (by omega);rw[Addr.add_lit,Nat.zero_add] at this;exact this
  have hc6:wr.cell? ⟨w.heap.size+5,j*7+6,none⟩=(opV k p q s t x y)[6]? :=by have:=hcs 6 (by omega);rw[Addr.add_lit,Nat.zero_add] at this;exact this
  simp only[Nat.add_zero] at hc0
  have HST:=hide (fun h=>uh HL k p q s t x y (w.heap.size+2) wr h hs (uh HW) (uh HGO (uh HG) (uh HO)))
  have HSZ:=hide hs
  clear hcs hall hs
  unfold opV at hc0 hc1 hc2 hc3 hc4 hc5 hc6 HST
  by_cases hkl:k≤L
  ·have HST2:=hide (uh HST hkl)
   clear HST
   go_wp2_with (go_at_call 38;refine (uh HST2).mono ?_;rintro e w1 ⟨rfl,hw1,ho1⟩;have HW1:=hide hw1;have HO1:=hide ho1;clear hw1 ho1)
   go_roundw
   ·refine ⟨j+1,by omega,rfl,by go_num,HW1, ?_, ?_⟩
    ·exact (uh HO).transNew (uh HO1) (fun i hi e=>absurd hi (by omega))
    exact (uh HF).only (uh HO1) (by omega)
   case measure=>simp[intOf];omega
  go_wp2_with fail
  go_roundw
  ·exact ⟨j+1,by omega,rfl,by go_num,HW,HO,HF⟩
  case measure=>simp[intOf];omega
 have hji:(j:Int)=11:=by omega
 rw[hji]
 clear HF hj hlt hji
 go_wp2_with fail
 go_loopw [9,11,12,13] (fun ok i _ _ wr=>ok=.bool true∧i=.int .i64 0∧Hid (Old w wr)) (fun _ _ _ _ _=>0)
 ·exact ⟨rfl,rfl,HO⟩
 obtain ⟨rfl,rfl,HO⟩:=hrel
 go_wp2_with fail
 go_ret
 exact ⟨rfl,HO⟩
end Go.Proofs.YtndfmgdhiallpaaGreatDoor
