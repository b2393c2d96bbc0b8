import Derived.Test.YtndfmgdhiallpaaGreatDoorMp
import Derived.Test.YtndfmgdhiallpaaGreatDoorMn
import Derived.Test.YtndfmgdhiallpaaGreatDoorMh
import Derived.Test.YtndfmgdhiallpaaGreatDoorMo
set_option maxRecDepth 100000
set_option maxHeartbeats 2000000
namespace Go.Proofs.YtndfmgdhiallpaaGreatDoor
open Go.RowKit Go.Maps
theorem newFinderC(d:ByteArray)(hd:d.size≤20000)(w:World):
 Calls Tryz.prog 137 #[.string d] w fun r w' =>r=.returned (.pointer (some ⟨w.heap.size+2,0,none⟩))∧Old w w' ∧Fd w' (w.heap.size+2) w.heap.size (w.heap.size+1) d 0∧w'.heap.size=w.heap.size+3:=by
 have hmm:= @run_makeMap Tryz.prog
 obtain ⟨i0,hi0,hz0,hz1,hz2⟩:=info_parts infoI3
 have hmk: ∀W:World,(Instr.makeSlice 33 (.int .i64 (d.size:Int)) (.int .i64 (d.size:Int))).run Tryz.prog W=.ok (.slice (some ⟨W.heap.size,0,none⟩) d.size d.size) (W.alloc (.cells (madeCells #[.int .i64 0] d.size) 3)):=by
  intro W
  have h:=run_make (P:=Tryz.prog) W 33 3 i0 _ Tryz.underlying33 hi0 hz0 .i64 .i64 d.size d.size (by omega) (by omega) (by rw[hz2];omega) (by omega)
  rw[hz1,Int.toNat_natCast,Nat.mul_one] at h
  exact h
 have HO:Hid (Old w (((w.alloc (.map #[] 0)).alloc (.cells (madeCells #[.int .i64 0] d.size) 3)).alloc (.cells #[.string d,.map (some w.heap.size),.slice (some ⟨w.heap.size+1,0,none⟩) d.size d.size] fdT))):=(((Only.refl _ w).alloc _).alloc _).alloc _
 have hown:(((w.alloc (.map #[] 0)).alloc (.cells (madeCells #[.int .i64 0] d.size) 3)).alloc (.cells #[.string d,.map (some w.heap.size),.slice (some ⟨w.heap.size+1,0,none⟩) d.size d.size] fdT)).ownsMap Tryz.prog 9 (plainElem (H:=Unit) Tryz.prog 3) w.heap.size 0 (.map []):=
  ((World.ownsMap_made w Tryz.prog 9 (plainElem Tryz.prog 3)).alloc _).alloc _
 have hrow:Row (((w.alloc (.map #[] 0)).alloc (.cells (madeCells #[.int .i64 0] d.size) 3)).alloc (.cells #[.string d,.map (some w.heap.size),.slice (some ⟨w.heap.size+1,0,none⟩) d.size d.size] fdT)) (w.heap.size+1) 3 d.size (fun _=> .int .i64 ((0:Nat):Int)):=by
  have h:=(Row.new (w.alloc (.map #[] 0)) (madeCells #[.int .i64 0] d.size) 3 d.size (fun _=> .int .i64 ((0:Nat):Int)) (by simp[madeCells]) (fun j hj=>by simp[madeCells,hj,Nat.mod_one])).alloc (.cells #[.string d,.map (some w.heap.size),.slice (some ⟨w.heap.size+1,0,none⟩) d.size d.size] fdT)
  rw[World.size_alloc] at h
  exact h
 have HF:Hid (Fd (((w.alloc (.map #[] 0)).alloc (.cells (madeCells #[.int .i64 0] d.size) 3)).alloc (.cells #[.string d,.map (some w.heap.size),.slice (some ⟨w.heap.size+1,0,none⟩) d.size d.size] fdT)) (w.heap.size+2) w.heap.size (w.heap.size+1) d 0):=by
  refine ⟨?_,⟨_,hown,MapOf.zero d⟩,fun _=>0,hrow,fun j hj _=>by omega⟩
  have h:=Go.heap_alloc_new ((w.alloc (.map #[] 0)).alloc (.cells (madeCells #[.int .i64 0] d.size) 3)) (.cells #[.string d,.map (some w.heap.size),.slice (some ⟨w.heap.size+1,0,none⟩) d.size d.size] fdT)
  rw[World.size_alloc,World.size_alloc] at h
  exact h
 have HSZ:Hid ((((w.alloc (.map #[] 0)).alloc (.cells (madeCells #[.int .i64 0] d.size) 3)).alloc (.cells #[.string d,.map (some w.heap.size),.slice (some ⟨w.heap.size+1,0,none⟩) d.size d.size] fdT)).heap.size=w.heap.size+3):=by
  unfold Hid;rw[World.size_alloc,World.size_alloc,World.size_alloc]
 clear hown hrow
 go_in
 go_wp2_with fail
 go_ret
 exact ⟨rfl,HO,HF,HSZ⟩
abbrev wrT:TypeId:=184
theorem wrT_ne:wrT≠5:=by decide
theorem Wr.slice{w:World}{g:Nat}{t:TypeId}{R:Array Value}{S:Nat→Prop}{B:List Nat}(h:Wr w g t R S B): ∃ao cap,w.cell? ⟨g,0,none⟩=some (.slice ao (packB B).length cap)∧ ∀n,(convert 62 9 (.slice ao (packB B).length cap)).run Tryz.prog (w.drewN n)=.ok (.string ⟨(packB B).toArray⟩) (w.drewN n):=by
 obtain ⟨ao,cap,hh,how,_⟩:=h
 exact ⟨ao,cap,two_c0 hh,fun n=>out_string (w:=w.drewN n) how⟩
theorem plainH_eq(n:Nat):(1::numB 0 2)++List.replicate (8*(((1::numB 0 2).length+7)/8)- (1::numB 0 2).length) 0++numB n 16++numB (65535- n) 16=plainH n:=by
 have e:(1::numB 0 2)++List.replicate (8*(((1::numB 0 2).length+7)/8)- (1::numB 0 2).length) 0=[1,0,0,0,0,0,0,0]:=by decide
 rw[e,plainH,List.append_assoc]
theorem plainC(d:ByteArray)(hd:d.size≤20000)(w:World):
 Calls Tryz.prog 73 #[.string d] w fun r w' =>r=.returned (.string (plainP d))∧Old w w' :=by
 have hal:Old w (w.alloc (.cells #[.slice none 0 0,.int .i64 0] wrT)):=(Only.refl _ w).alloc _
 have HW0:Hid (Wr (w.alloc (.cells #[.slice none 0 0,.int .i64 0] wrT)) w.heap.size wrT #[] (fun k=>w.heap.size≤k) []):=
  ⟨none,0,Go.heap_alloc_new w _,⟨rfl,.inl ⟨rfl,rfl⟩⟩,fun b hb=>by cases hb⟩
 have HF0:Hid (Fresh (fun k=>w.heap.size≤k) (w.alloc (.cells #[.slice none 0 0,.int .i64 0] wrT))):=fun k hk=>by rw[World.size_alloc] at hk;show w.heap.size≤k;omega
 have H1:=hide (headW w.heap.size wrT wrT_ne #[] (fun k=>w.heap.size≤k) (Nat.le_refl _) 0 (by omega) _ (uh HF0) (uh HW0))
 have HO0:Hid (Old w (w.alloc (.cells #[.slice none 0 0,.int .i64 0] wrT))):=hal
 clear hal HW0
 go_in
 go_wp2_with fail
 refine (uh H1).mono ?_
 rintro r w1 ⟨rfl,ho1,hw1⟩
 have HO1:Hid (Old w w1):=(uh HO0).transNew ho1 (fun k hk h=>absurd hk (Nat.not_lt.2 h))
 have HF1:=hide ((uh HF0).mono ho1.size)
 have H2:=hide (skipW w.heap.size wrT wrT_ne #[] (fun k=>w.heap.size≤k) (Nat.le_refl _) _ w1 hw1)
 clear H1 ho1 hw1 HO0 HF0
 go_wp2_with fail
 refine (uh H2).mono ?_
 rintro r w2 ⟨rfl,ho2,hw2⟩
 have HO2:Hid (Old w w2):=(uh HO1).transNew ho2 (fun k hk h=>absurd hk (Nat.not_lt.2 h))
 have HF2:=hide ((uh HF1).mono ho2.size)
 have hb2:Bin ((1::numB 0 2)++List.replicate (8*(((1::numB 0 2).length+7)/8)- (1::numB 0 2).length) 0):=by
  have e:(1::numB 0 2)++List.replicate (8*(((1::numB 0 2).length+7)/8)- (1::numB 0 2).length) 0=[1,0,0,0,0,0,0,0]:=by decide
  rw[e]
  intro x hx
  simp at hx
  omega
 have H3:=hide (numberW w.heap.size wrT wrT_ne #[] (fun k=>w.heap.size≤k) (Nat.le_refl _) _ hb2 (by decide) d.size 16 (by omega) (by omega) w2 (uh HF2) hw2)
 clear H2 ho2 hw2 HO1 HF1
 go_wp2_with fail
 refine (uh H3).mono ?_
 rintro r w3 ⟨rfl,ho3,hw3⟩
 have HO3:Hid (Old w w3):=(uh HO2).transNew ho3 (fun k hk h=>absurd hk (Nat.not_lt.2 h))
 have HF3:=hide ((uh HF2).mono ho3.size)
 have H4:=hide (numberW w.heap.size wrT wrT_ne #[] (fun k=>w.heap.size≤k) (Nat.le_refl _) _ (hb2.append (numB_bin _ _)) (by rw[List.length_append,numB_len];decide) (65535- d.size) 16 (by omega) (by omega) w3 (uh HF3) hw3)
 have hsub:(65535:Int)- (d.size:Int)=((65535- d.size:Nat):Int):=by omega
 rw[plainH_eq] at H4
 clear H3 ho3 hw3 HO2 HF2 hb2
 go_wp2_with fail
 refine (uh H4).mono ?_
 rintro r w4 ⟨rfl,ho4,hw4⟩
 have HO4:Hid (Old w w4):=(uh HO3).transNew ho4 (fun k hk h=>absurd hk (Nat.not_lt.2 h))
 obtain ⟨ao,cap,hc0,hcv⟩:=hw4.slice
 have hcv0:(convert 62 9 (.slice ao (packB (plainH d.size)).length cap)).run Tryz.prog w4=.ok (.string ⟨(packB (plainH d.size)).toArray⟩) w4:=hcv 0
 have hsz:(⟨(packB (plainH d.size)).toArray⟩:ByteArray).size=5:=by show (packB (plainH d.size)).toArray.size=5;rw[List.size_toArray,packB_len,plainH_len]
 have HRES:Hid ((⟨(packB (plainH d.size)).toArray⟩:ByteArray)++d=plainP d):=by
  unfold Hid
  rw[bytes_append,plainP,plainL]
  congr 3
  have h:=congrArg (fun x:ByteArray=>x.data.toList) (headL_all d)
  exact h.symm
 clear H4 ho4 hw4 HO3 HF3 hcv
 generalize (packB (plainH d.size)).length=n at*
 generalize (⟨(packB (plainH d.size)).toArray⟩:ByteArray)=pk at*
 have hle:¬maxLen<pk.size+d.size:=by unfold maxLen;omega
 go_wp2_with fail
 go_ret
 exact ⟨by rw[←uh HRES];rfl,HO4⟩
theorem Wr.to{w:World}{g:Nat}{t:TypeId}{R:Array Value}{S T:Nat→Prop}{B:List Nat}(h:Wr w g t R S B)(hT: ∀k,k<w.heap.size→S k→T k):Wr w g t R T B:=by
 obtain ⟨ao,cap,hh,how,hsa⟩:=h
 refine ⟨ao,cap,hh,how,fun b hb=>hT b.block ?_ (hsa b hb)⟩
 obtain ⟨cur,hg⟩:=own_heap how (b:=b.block) (by rw[hb];rfl)
 exact (Array.getElem?_eq_some_iff.1 hg).1
theorem Wr.kept{w w' :World}{g:Nat}{t:TypeId}{R:Array Value}{S T:Nat→Prop}{B:List Nat}(h:Wr w g t R S B)(ho:Only T w w')(hg:¬T g)(hT: ∀k,S k→¬T k):Wr w' g t R S B:=by
 obtain ⟨ao,cap,hh,how,hsa⟩:=h
 refine ⟨ao,cap,(ho.block g (two_lt hh) hg).trans hh,own_kept how ho (fun b hb=> ?_),hsa⟩
 cases ao with
 |none=>cases hb
 |some a=>injection hb with hb;subst hb;exact hT _ (hsa a rfl)
theorem Pk.kept{w w' :World}{g gS gD:Nat}{S T:Nat→Prop}{B:List Nat}(h:Pk w g gS gD S B)(ho:Only T w w')(hg:¬T g)(h1:¬T gS)(h2:¬T gD)(hT: ∀k,S k→¬T k):Pk w' g gS gD S B:=
 ⟨h.1.kept ho hg hT,h.2.kept ho h1 h2⟩
def LaidTo(d:ByteArray)(q:Nat)(B:List Nat):Prop:=B++toksB (toksFrom d q)++symB 256=fixB (toksFrom d 0)∧B.length≤3+31*q∧Bin B
theorem LaidTo.start(d:ByteArray):LaidTo d 0 (1::numB 1 2):=by
 have e:(1::numB 1 2)=[1,1,0]:=by decide
 rw[e]
 exact ⟨by simp[fixB],by simp,by intro x hx;simp at hx;omega⟩
theorem LaidTo.next{d:ByteArray}{q:Nat}{B:List Nat}(h:LaidTo d q B)(hd:d.size≤20000)(hq:q<d.size):LaidTo d (q+cntAt d q) (B++tokB (tokAt d q)):=by
 obtain ⟨h1,h2,h3⟩:=h
 have ht:=(tok_len (d:=d) (q:=q) hd).1
 have hc:=cntAt_pos d q
 refine ⟨?_,by rw[List.length_append];omega,h3.append (tokB_bin _)⟩
 rw[toksFrom_step hq,toksB_cons] at h1
 rw[←h1];simp only[List.append_assoc]
theorem LaidTo.done{d:ByteArray}{q:Nat}{B:List Nat}(h:LaidTo d q B)(hq:¬q<d.size):B++symB 256=fixB (toksFrom d 0):=by
 obtain ⟨h1,_,_⟩:=h
 rw[toksFrom_done hq] at h1
 simpa [toksB] using h1
theorem long_cases(d:ByteArray)(q:Nat)(hd:d.size≤20000)(hq:q<d.size):(longN d q=(0,0)∧tokAt d q=.inl (btN d q)∧cntAt d q=1)∨
 ∃len far,longN d q=(len,far)∧3≤len∧len≤258∧1≤far∧far≤20000∧q+len≤d.size∧tokAt d q=.inr (len,far)∧cntAt d q=len:=by
 rcases longN_ok d q with h|h
 ·left;unfold tokAt cntAt;rw[h];exact ⟨rfl,rfl,rfl⟩
 right
 obtain ⟨h1,h2,h3,h4,h5,_⟩:=h
 refine ⟨(longN d q).1,(longN d q).2,rfl,h1,h2,h4,by omega,h3, ?_, ?_⟩
 ·unfold tokAt;rw[if_neg (by omega)]
 unfold cntAt;rw[if_neg (by omega)]
theorem order_eq0{n:Nat}(hn:n<1048576):(FloatKind.f64.format.order (fN n) 0==some Ordering.eq)=decide (n=0):=by
 have h:=order_fN hn (show 0<1048576 by omega)
 rw[fN_zero] at h
 rw[h]
 by_cases h0:n=0
 ·subst h0;rfl
 rw[Nat.compare_eq_gt.2 (Nat.pos_of_ne_zero h0),decide_eq_false h0];rfl
theorem fixedC(d:ByteArray)(hd:d.size≤20000)(w:World):
 Calls Tryz.prog 74 #[.string d] w fun r w' =>r=.returned (.string (fixedP d))∧Old w w' :=by
 have H1:=hide (newPackerC w)
 go_in
 go_wp2_with fail
 refine (uh H1).mono ?_
 rintro r w1 ⟨gp,gS,gD,rfl,ho1,hs1,hd1,hsp,hdp,hsz1,hfx1,hp1⟩
 have hW1:Wr w1 gp pkT (pkR gS gD) (fun k=>k=gp∨w1.heap.size≤k) []:=⟨none,0,hp1,⟨rfl,.inl ⟨rfl,rfl⟩⟩,fun b hb=>by cases hb⟩
 have H2:=hide (headW gp pkT pkT_ne (pkR gS gD) (fun k=>k=gp∨w1.heap.size≤k) (.inl rfl) 1 (by omega) w1 (fun k hk=> .inr hk) hW1)
 have HFX1:=hide hfx1
 have HO1:=hide ho1
 clear H1 hfx1 hp1 hW1 ho1
 go_wp2_with fail
 refine (uh H2).mono ?_
 rintro r w2 ⟨rfl,ho2,hw2⟩
 have hz2:=ho2.size
 have HFX2:=hide ((uh HFX1).kept ho2 (by omega) (by omega))
 have HO2:Hid (Old w w2):=(uh HO1).transNew ho2 (fun k hk h=>by have:=(uh HO1).size;omega)
 have HW2:=hide hw2
 have H3:=hide (newFinderC d hd w2)
 have HSZ1:=hide hsz1
 clear H2 ho2 hw2 HFX1 HO1 hsz1
 go_wp2_with fail
 refine (uh H3).mono ?_
 rintro r w3 ⟨rfl,ho3,hf3,hsz3⟩
 have HFX3:=hide ((uh HFX2).kept ho3 (fun x=>x) (fun x=>x))
 have HO3:Hid (Old w w3):=(uh HO2).trans ho3
 have hsz1:=uh HSZ1
 obtain ⟨S,hS⟩: ∃S:Nat→Prop,S=fun k=>k=gp∨(w1.heap.size≤k∧k<w2.heap.size)∨w3.heap.size≤k:=⟨_,rfl⟩
 have HP3:Hid (Pk w3 gp gS gD S (1::numB 1 2)):=
  ⟨((uh HW2).to (fun k hk h=>by rw[hS];rcases h with h|h;exact .inl h;exact .inr (.inl ⟨h,hk⟩))).kept ho3 (fun x=>x) (fun _ _ x=>x),uh HFX3⟩
 have hw1:=(uh HO2).size
 have hSg:S gp:=by rw[hS];exact .inl rfl
 have hSS:¬S gS:=by rw[hS];simp only[];omega
 have hSD:¬S gD:=by rw[hS];simp only[];omega
 have hSm:¬S w2.heap.size:=by rw[hS];simp only[];omega
 have hSe:¬S (w2.heap.size+1):=by rw[hS];simp only[];omega
 have hSf:¬S (w2.heap.size+2):=by rw[hS];simp only[];omega
 have HFR3:Hid (Fresh S w3):=fun k hk=>by rw[hS];exact .inr (.inr hk)
 have hSw: ∀k,k<w.heap.size→¬S k:=fun k hk=>by rw[hS];simp only[];omega
 have hme: ∀k,k<w.heap.size→¬(k=w2.heap.size∨k=w2.heap.size+1):=fun k hk=>by omega
 have hgp:¬(gp=w2.heap.size∨gp=w2.heap.size+1):=by omega
 have hgS:¬(gS=w2.heap.size∨gS=w2.heap.size+1):=by omega
 have hgD:¬(gD=w2.heap.size∨gD=w2.heap.size+1):=by omega
 have hSme: ∀k,S k→¬(k=w2.heap.size∨k=w2.heap.size+1):=fun k hk h=>by rcases h with rfl|rfl;exact hSm hk;exact hSe hk
 have HF3:=hide hf3
 have HSme:=hide hSme
 have HSw:=hide hSw
 have Hme:=hide hme
 clear hS H3 HFX2 HW2 HO2 ho3 hf3 HFX3 HSZ1 hsz1 hz2 hs1 hd1 hsp hdp hsz3 hw1 hSme hSw hme
 generalize w2.heap.size=gm at*
 go_wp2_with fail
 go_loopw [5,6,7] (fun x _ _ wr=> ∃(q:Nat) (B:List Nat),q≤d.size∧x=.int .i64 q∧Hid (LaidTo d q B)∧Hid (Pk wr gp gS gD S B)∧Hid (Fd wr (gm+2) gm (gm+1) d q)∧Hid (Fresh S wr)∧Hid (Old w wr)) (fun x _ _ _=>d.size- (intOf x).toNat)
 ·exact ⟨0,_,by omega,rfl,LaidTo.start d,HP3,HF3,HFR3,HO3⟩
 obtain ⟨q,B,hqd,rfl,HL,HP,HF,HFR,HO⟩:=hrel
 clear HP3 HF3 HFR3 HO3
 have hBl:=(uh HL).2.1
 have hBb:=(uh HL).2.2
 by_cases hlt:q<d.size
 ·have hltI:(q:Int)<(d.size:Int):=by omega
  have HLG:=hide (longestC (gm+2) gm (gm+1) d hd q hqd wr (uh HF))
  have HNX:=hide ((uh HL).next hd hlt)
  rcases long_cases d q hd hlt with ⟨e1,e2,e3⟩|⟨len,far,e1,h3,h258,hf1,hf2,hql,e2,e3⟩
  ·rw[e1] at HLG
   rw[e2,e3] at HNX
   have hbt:=btN_get (s:=d) (k:=q) hlt
   have hbl:=btN_lt d q
   have HSY:=hide (fun k=>symbolP gp gS gD S hSg hSS hSD B hBb (by omega) (btN d q) (by omega) (wr.drewN k) (uh HFR) (uh HP))
   generalize btN d q=b at*
   have h00:(FloatKind.f64.format.order (fN 0) 0==some Ordering.eq)=true:=order_eq0 (n:=0) (by omega)
   clear e1 e2 e3
   go_wp2_with fail
   refine (uh HLG).mono ?_
   rintro r w4 ⟨rfl,k4,rfl⟩
   clear HLG
   go_wp2_with fail
   refine (uh HSY k4).mono ?_
   rintro r w5 ⟨rfl,ho5,hp5⟩
   have HF5:=hide ((uh HF).kept (((Only.refl S wr).drewN k4).trans ho5) hSf hSm hSe)
   have HFR5:=hide ((uh HFR).mono (w' :=w5) ho5.size)
   have HO5:Hid (Old w w5):=((uh HO).drewN k4).transNew ho5 (fun k hk h=>absurd h (uh HSw k hk))
   have HLN:=hide (learnC (gm+2) gm (gm+1) d hd q 1 (by omega) w5 (uh HF5))
   have HP5:=hide hp5
   clear HSY ho5 hp5 HF HFR HO HP
   go_wp2_with fail
   refine (uh HLN).mono ?_
   rintro r w6 ⟨rfl,ho6,hf6⟩
   have HP6:=hide ((uh HP5).kept ho6 hgp hgS hgD (uh HSme))
   have HFR6:=hide ((uh HFR5).mono ho6.size)
   have HO6:Hid (Old w w6):=(uh HO5).transNew ho6 (fun k hk h=>absurd h (uh Hme k hk))
   have HF6:=hide hf6
   clear HLN ho6 hf6 HP5 HF5 HFR5 HO5
   go_wp2_with fail
   go_roundw
   ·exact ⟨q+1,_,by omega,by go_num,HNX,HP6,HF6,HFR6,HO6⟩
   case measure=>simp[intOf];omega
  rw[e1] at HLG
  rw[e2,e3] at HNX
  have HCP:=hide (fun k=>copyP gp gS gD S hSg hSS hSD B hBb (by omega) len far h3 h258 hf1 hf2 (wr.drewN k) (uh HFR) (uh HP))
  have h00:(FloatKind.f64.format.order (fN len) 0==some Ordering.eq)=false:=by rw[order_eq0 (by omega),decide_eq_false (by omega)]
  have hcl:=run_int_float (P:=Tryz.prog) (n:=len) (by omega) 196 3 (by rw[Tryz.underlying196];rfl) Tryz.underlying3
  have hcf:=run_int_float (P:=Tryz.prog) (n:=far) (by omega) 196 3 (by rw[Tryz.underlying196];rfl) Tryz.underlying3
  clear e1 e2 e3
  go_wp2_with fail
  refine (uh HLG).mono ?_
  rintro r w4 ⟨rfl,k4,rfl⟩
  clear HLG
  go_wp2_with fail
  refine (uh HCP k4).mono ?_
  rintro r w5 ⟨rfl,ho5,hp5⟩
  have HF5:=hide ((uh HF).kept (((Only.refl S wr).drewN k4).trans ho5) hSf hSm hSe)
  have HFR5:=hide ((uh HFR).mono (w' :=w5) ho5.size)
  have HO5:Hid (Old w w5):=((uh HO).drewN k4).transNew ho5 (fun k hk h=>absurd h (uh HSw k hk))
  have HLN:=hide (learnC (gm+2) gm (gm+1) d hd q len hql w5 (uh HF5))
  have HP5:=hide hp5
  clear HCP ho5 hp5 HF HFR HO HP
  go_wp2_with fail
  refine (uh HLN).mono ?_
  rintro r w6 ⟨rfl,ho6,hf6⟩
  have HP6:=hide ((uh HP5).kept ho6 hgp hgS hgD (uh HSme))
  have HFR6:=hide ((uh HFR5).mono ho6.size)
  have HO6:Hid (Old w w6):=(uh HO5).transNew ho6 (fun k hk h=>absurd h (uh Hme k hk))
  have HF6:=hide hf6
  clear HLN ho6 hf6 HP5 HF5 HFR5 HO5
  go_wp2_with fail
  go_roundw
  ·exact ⟨q+len,_,by omega,by go_num,HNX,HP6,HF6,HFR6,HO6⟩
  case measure=>simp[intOf];omega
 have hltI:¬(q:Int)<(d.size:Int):=by omega
 have HD:=hide ((uh HL).done hlt)
 have HSY:=hide (symbolP gp gS gD S hSg hSS hSD B hBb (by omega) 256 (by omega) wr (uh HFR) (uh HP))
 rw[uh HD] at HSY
 clear HF HL HP HD
 go_wp2_with fail
 refine (uh HSY).mono ?_
 rintro r w5 ⟨rfl,ho5,hp5⟩
 obtain ⟨ao,cap,hc0,hcv⟩:=hp5.1.slice
 have hcv0:(convert 62 9 (.slice ao (packB (fixB (toksFrom d 0))).length cap)).run Tryz.prog w5=.ok (.string (fixedP d)) w5:=hcv 0
 have HO5:Hid (Old w w5):=(uh HO).transNew ho5 (fun k hk h=>absurd h (uh HSw k hk))
 clear HSY ho5 hp5 HO HFR hcv
 generalize (packB (fixB (toksFrom d 0))).length=n at*
 generalize hres:fixedP d=res at*
 have HRES:=hide hres
 clear hres
 go_wp2_with fail
 go_ret
 exact ⟨by rw[uh HRES];rfl,HO5⟩
theorem bytesD(d:ByteArray)(hd:d.size≤20000)(w:World):
 Calls Tryz.prog 42 #[.string d] w fun r w' =>r=.returned (.string (deflP d))∧Old w w' :=by
 have H1:=hide (plainC d hd w)
 have H2:=hide (fun W=>fixedC d hd W)
 have HR:Hid (deflP d=if (plainP d).size<(fixedP d).size then plainP d else fixedP d):=rfl
 generalize deflP d=res at*
 generalize plainP d=a at*
 generalize fixedP d=b at*
 go_in
 go_wp2_with fail
 refine (uh H1).mono ?_
 rintro r w1 ⟨rfl,ho1⟩
 clear H1
 go_wp2_with fail
 refine (uh H2 w1).mono ?_
 rintro r w2 ⟨rfl,ho2⟩
 have HO:Hid (Old w w2):=Only.trans ho1 ho2
 clear H2 ho1 ho2
 by_cases hl:a.size<b.size
 ·have hlI:(a.size:Int)<(b.size:Int):=by omega
  have HE:Hid (res=a):=by unfold Hid;rw[uh HR,if_pos hl]
  go_wp2_with fail
  go_ret
  exact ⟨by rw[uh HE];rfl,HO⟩
 have hlI:¬(a.size:Int)<(b.size:Int):=by omega
 have HE:Hid (res=b):=by unfold Hid;rw[uh HR,if_neg hl]
 go_wp2_with fail
 go_ret
 exact ⟨by rw[uh HE];rfl,HO⟩
theorem valiseDeflate_any(d:ByteArray)(hs:d.size≤140737488355328)(w:World):
 Calls Tryz.prog 16 #[.string d] w fun r w' =>(d.size≤20000∧r=.returned (.tuple #[.string (deflP d),.int .i64 0])∨20000<d.size∧r=.returned (.tuple #[.string ⟨#[]⟩,.int .i64 1]))∧Old w w' :=by
 by_cases hd:d.size≤20000
 ·have H1:=hide (bytesD d hd w)
  have hdI:¬(20000:Int)<(d.size:Int):=by omega
  generalize deflP d=res at*
  go_in
  go_wp2_with fail
  refine (uh H1).mono ?_
  rintro r w1 ⟨rfl,ho1⟩
  go_wp2_with fail
  go_ret2
  exact ⟨.inl ⟨hd,rfl⟩,ho1⟩
 have hdI:(20000:Int)<(d.size:Int):=by omega
 go_in
 go_wp2_with fail
 go_ret2
 exact ⟨.inr ⟨by omega,rfl⟩,Only.refl _ w⟩
end Go.Proofs.YtndfmgdhiallpaaGreatDoor
