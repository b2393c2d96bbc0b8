import Derived.Test.YtndfmgdhiallpaaGreatDoorJd
set_option maxRecDepth 100000
set_option maxHeartbeats 2000000
namespace Go.Proofs.YtndfmgdhiallpaaGreatDoor
open Go.RowKit Go.Maps
abbrev cmpF:Value:=.func (.func 83) #[] #[]
theorem insertX(a:Option Addr)(cap:Nat)(w:World):Calls Tryz.prog 251 #[.slice a 1 cap,.int .i64 0,.int .i64 1,cmpF] w fun r w' =>r=.returned (.tuple #[])∧w' =w:=by
 go_in
 go_wp2_with fail
 go_loop [8,9] (fun x _=>x=.int .i64 1) (fun _ _=>0)
 ·rfl
 subst hrel
 go_wp2_with fail
 go_end0
 exact ⟨rfl,rfl⟩
theorem sortX(a:Option Addr)(cap:Nat)(w:World):Calls Tryz.prog 82 #[.slice a 1 cap,cmpF] w fun r w' =>r=.returned (.tuple #[])∧w' =w:=by
 have HP:Hid (∀(l:Int) (W:World),Calls Tryz.prog 158 #[.slice a 1 cap,.int .i64 0,.int .i64 1,.int .i64 l,cmpF] W fun r w' =>r=.returned (.tuple #[])∧w' =W):=by
  intro l W
  go_in
  go_wp2_with fail
  go_loop [1,2,3,10,11,12,13,14,15,16,17,18,19,20] (fun a1 b1 _ _ _ _ _ _ _ _ _ _ _ _=>a1=.int .i64 0∧b1=.int .i64 1) (fun _ _ _ _ _ _ _ _ _ _ _ _ _ _=>0)
  ·exact ⟨rfl,rfl⟩
  obtain ⟨rfl,rfl⟩:=hrel
  go_wp2_with fail
  refine (insertX _ _ _).mono ?_
  rintro e w' ⟨rfl,rfl⟩
  go_wp2_with fail
  refine bodyPost_ret (results_none rfl _ _ _) rfl ⟨rfl,rfl⟩
 have HB:=hide (Tryz.bits_Len 1 w (by decide) (by decide))
 go_in
 go_wp2_with fail
 refine (uh HB).mono ?_
 rintro e w1 ⟨rfl,rfl⟩
 go_wp2_with fail
 refine (uh HP _ _).mono ?_
 rintro e w2 ⟨rfl,rfl⟩
 go_wp2_with fail
 go_end0
 exact ⟨rfl,rfl⟩
def Taken(w:World)(gc gm i:Nat):Prop:=
 (i=0∧w.heap[gc]? =some (.cells #[.slice none 0 0,.map (some gm),.int .i64 0] chT (0,0))∧w.heap[gm]? =some (.map #[] 0))∨
 (i=1∧ ∃v,OneF w v sX sY∧w.heap[gc]? =some (.cells #[v,.map (some gm),.int .i64 1] chT (0,0)))
theorem filesX(gt:Nat)(w:World)(hm:MaxAt w)(ht:EnAt w gt):Calls Tryz.prog 44 #[.slice (some ⟨gt,0,none⟩) 1 1] w fun r w' => ∃v,r=.returned (.tuple #[v,.slice none 0 0,.int .i64 0])∧Old w w' ∧OneF w' v sX sY:=by
 have hmm:= @run_makeMap Tryz.prog
 have H1:=hide (nestedX gt w ht)
 go_in
 go_wp2_with fail
 refine (uh H1).mono ?_
 rintro e w1 ⟨rfl,ho1,hn1⟩
 have hA:Old w1 ((w1.alloc (.map #[] 0)).alloc (.cells #[.slice none 0 0,.map (some w1.heap.size),.int .i64 0] chT)):=((Only.refl _ w1).alloc _).alloc _
 have HT2:=hide ((ht.old ho1).old hA)
 have HM2:=hide ((hm.old ho1).old hA)
 have HN2:=hide (old_heap hA hn1)
 have HO2:=hide (Only.trans ho1 hA)
 have hlt1:=ho1.size
 have HG2:Hid (Taken ((w1.alloc (.map #[] 0)).alloc (.cells #[.slice none 0 0,.map (some w1.heap.size),.int .i64 0] chT)) (w1.heap.size+1) w1.heap.size 0):=by
  refine .inl ⟨rfl, ?_,old_heap ((Only.refl _ _).alloc _) (Go.heap_alloc_new w1 _)⟩
  have h:=Go.heap_alloc_new (w1.alloc (.map #[] 0)) (.cells #[.slice none 0 0,.map (some w1.heap.size),.int .i64 0] chT)
  rw[World.size_alloc] at h
  exact h
 clear H1 hA ho1 hn1 ht hm
 go_wp2_with fail
 clear hmm
 go_loopw [7,9,10,11,21] (fun l _ _ _ x wr=>l=.slice none 0 0∧ ∃i:Nat,i≤1∧x=.int .i64 i∧Hid (i=0→EnAt wr gt∧MaxAt wr∧wr.heap[w.heap.size]? =some (.map #[] 0))∧Hid (Taken wr (w1.heap.size+1) w1.heap.size i)∧Hid (Old w wr)) (fun _ _ _ _ x _=>1- (intOf x).toNat)
 ·exact ⟨rfl,0,by omega,rfl,fun _=>⟨uh HT2,uh HM2,uh HN2⟩,HG2,HO2⟩
 obtain ⟨rfl,i,hi,rfl,HX,HG,HO⟩:=hrel
 clear HT2 HM2 HN2 HG2 HO2
 have hcs:i=0∨i=1:=by omega
 rcases hcs with rfl|rfl
 ·obtain ⟨hT,hM,hN⟩:=uh HX rfl
  obtain ⟨hl,h1,h2,h3⟩:=hT
  have hA:Old wr (wr.alloc (.cells enV 39)):=(Only.refl _ wr).alloc _
  have HE3:Hid (EnAt (wr.alloc (.cells enV 39)) wr.heap.size):=⟨by rw[World.size_alloc];omega,by rw[cell_of_row _ _ 0 _ _ (0,0) (Go.heap_alloc_new _ _)];rfl,by rw[cell_of_row _ _ 1 _ _ (0,0) (Go.heap_alloc_new _ _)];rfl,by rw[cell_of_row _ _ 2 _ _ (0,0) (Go.heap_alloc_new _ _)];rfl⟩
  have HM3:=hide (hM.old hA)
  have HO3:=hide (Only.trans (uh HO) hA)
  obtain ⟨hc3,hg3⟩:(wr.alloc (.cells enV 39)).heap[w1.heap.size+1]? =some (.cells #[.slice none 0 0,.map (some w1.heap.size),.int .i64 0] chT (0,0))∧(wr.alloc (.cells enV 39)).heap[w1.heap.size]? =some (.map #[] 0):=by
   rcases uh HG with ⟨_,a,b⟩|⟨a,_⟩
   ·exact ⟨old_heap hA a,old_heap hA b⟩
   cases a
  have HC3:=hide hc3
  have HG3:=hide hg3
  have H2:=hide (whyLeftX w.heap.size (wr.alloc (.cells enV 39)) (uh HM3) (old_heap hA hN))
  clear hA HX HG HO hc3 hg3 hM hN
  go_wp2_with fail
  generalize wr.alloc (.cells #[.string sX,.bool false,.string sY] 39)=W at*
  clear h1 h2 h3 hl
  refine (uh H2).mono ?_
  rintro e w4 ⟨rfl,ho4⟩
  have HE4:=hide ((uh HE3).old ho4)
  have HO4:=hide (Only.trans (uh HO3) ho4)
  have H3:=hide (takeX (w1.heap.size+1) w1.heap.size w4 (old_heap ho4 (uh HC3)) (old_heap ho4 (uh HG3)))
  obtain ⟨_,h1,h2,h3⟩:=uh HE4
  clear H2 ho4 HE3 HM3 HO3 HC3 HG3 HE4
  go_wp2_with fail
  clear h1 h2 h3
  refine (uh H3).mono ?_
  rintro e w5 ⟨rfl,ho5,v,hv5,hc5⟩
  have HO5:Hid (Old w w5):=(uh HO4).transNew ho5 (fun k hk h=>by omega)
  have HG5:Hid (Taken w5 (w1.heap.size+1) w1.heap.size 1):=.inr ⟨rfl,v,hv5,hc5⟩
  clear H3 ho5 hv5 hc5 HO4
  go_wp2_with fail
  go_roundw
  ·exact ⟨rfl,1,by omega,by go_num,(fun h=>by cases h),HG5,HO5⟩
  simp[intOf]
 obtain ⟨v,hv,hc⟩: ∃v,OneF wr v sX sY∧wr.heap[w1.heap.size+1]? =some (.cells #[v,.map (some w1.heap.size),.int .i64 1] chT (0,0)):=by
  rcases uh HG with ⟨a,_⟩|⟨_,v,a,b⟩
  ·cases a
  exact ⟨v,a,b⟩
 have hc0:wr.cell? ⟨w1.heap.size+1,0,none⟩=some v:=by rw[cell_of_row wr _ 0 _ _ (0,0) hc];rfl
 have HV:=hide hv
 obtain ⟨cap,_,g,rfl⟩:=hv
 clear HG HX hc
 go_wp2_with fail
 refine (sortX _ _ _).mono ?_
 rintro e w5 ⟨rfl,rfl⟩
 go_wp2_with fail
 go_ret3
 exact ⟨_,rfl,HO,HV⟩
end Go.Proofs.YtndfmgdhiallpaaGreatDoor
