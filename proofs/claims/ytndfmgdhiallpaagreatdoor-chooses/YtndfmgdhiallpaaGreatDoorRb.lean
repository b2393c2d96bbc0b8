import Derived.Test.YtndfmgdhiallpaaGreatDoorRa
import Derived.Test.YtndfmgdhiallpaaGreatDoorJs
set_option maxRecDepth 100000
set_option maxHeartbeats 4000000
namespace Go.Proofs.YtndfmgdhiallpaaGreatDoor
open Go.RowKit Go.Maps
theorem nestedNil(w:World):Calls Tryz.prog 78 #[.slice none 0 0] w fun r w' =>r=.returned (.map (some w.heap.size))∧w' =w.alloc (.map #[] 0):=by
 have hmm:= @run_makeMap Tryz.prog
 go_in
 go_wp2_with fail
 clear hmm
 go_loopw [5,9] (fun _ x wr=>x=.int .i64 0∧wr=w.alloc (.map #[] 0)) (fun _ _ _=>0)
 ·exact ⟨rfl,rfl⟩
 obtain ⟨rfl,rfl⟩:=hrel
 go_wp2_with fail
 go_ret
 exact ⟨rfl,rfl⟩
theorem chooseF(gt cap:Nat)(T:List Ent)(hT:T.length≤200)(hs: ∀e∈T,e.nm.size≤2000000)(m k:Nat)(hm0:m<T.length)(hok: ∀i,i<m→whyP (nestL T) (T.getD i ent0)=0→cfault (cgo (nestL T) (T.take i)) (T.getD i ent0)=0)(hw:whyP (nestL T) (T.getD m ent0)=0)(hk:cfault (cgo (nestL T) (T.take m)) (T.getD m ent0)=k)(h0:k≠0)(w:World)(hm:MaxAt w)(ht:EntsAt w gt T)(hgt:gt<w.heap.size):
 Calls Tryz.prog 25 #[.slice (some ⟨gt,0,none⟩) T.length cap] w fun r w' =>r=.returned (.tuple #[.slice none 0 0,.slice none 0 0,.int .i64 (k:Int)])∧Old w w' :=by
 have H1:=hide (filesF gt cap T hT hs m k hm0 hok hw hk h0 w hm ht hgt)
 clear hs hok hm ht hgt hw hk
 go_in
 go_wp2_with fail
 refine (uh H1).mono ?_
 rintro e w1 ⟨rfl,h⟩
 have HH:=hide h
 clear h H1
 go_wp2_with fail
 go_ret3
 exact ⟨rfl,uh HH⟩
theorem chooseMany(gt cap n:Nat)(hT:200<n)(w:World):
 Calls Tryz.prog 25 #[.slice (some ⟨gt,0,none⟩) n cap] w fun r w' =>r=.returned (.tuple #[.slice none 0 0,.slice none 0 0,.int .i64 6])∧Old w w' :=by
 have H1:=hide (filesMany gt cap n hT w)
 go_in
 go_wp2_with fail
 refine (uh H1).mono ?_
 rintro e w1 ⟨rfl,h⟩
 have HH:=hide h
 clear h H1
 go_wp2_with fail
 go_ret3
 exact ⟨rfl,uh HH⟩
theorem filesNil(w:World):Calls Tryz.prog 44 #[.slice none 0 0] w fun r w' =>r=.returned (.tuple #[.slice none 0 0,.slice none 0 0,.int .i64 0])∧Old w w' :=by
 have hmm:= @run_makeMap Tryz.prog
 have H1:=hide (nestedNil w)
 have HO1:Hid (Old w (w.alloc (.map #[] 0))):=(Only.refl _ w).alloc _
 go_in
 go_wp2_with fail
 refine (uh H1).mono ?_
 rintro e w1 ⟨rfl,rfl⟩
 generalize w.alloc (.map #[] 0)=w1 at*
 have HO2:Hid (Old w1 ((w1.alloc (.map #[] 0)).alloc (.cells #[.slice none 0 0,.map (some w1.heap.size),.int .i64 0] chT))):=((Only.refl _ w1).alloc _).trans ((Only.refl _ _).alloc _)
 have HB:Hid (((w1.alloc (.map #[] 0)).alloc (.cells #[.slice none 0 0,.map (some w1.heap.size),.int .i64 0] chT)).heap[w1.heap.size+1]? =some (.cells #[.slice none 0 0,.map (some w1.heap.size),.int .i64 0] chT (0,0))):=by
  have h:=Go.heap_alloc_new (w1.alloc (.map #[] 0)) (.cells #[.slice none 0 0,.map (some w1.heap.size),.int .i64 0] chT)
  rw[World.size_alloc] at h
  exact h
 clear H1
 go_wp2_with fail
 clear hmm
 go_loopw [7,9,10,11,21] (fun u _ _ _ x wr=>u=.slice none 0 0∧x=.int .i64 0∧wr=(w1.alloc (.map #[] 0)).alloc (.cells #[.slice none 0 0,.map (some w1.heap.size),.int .i64 0] chT)) (fun _ _ _ _ _ _=>0)
 ·exact ⟨rfl,rfl,rfl⟩
 obtain ⟨rfl,rfl,rfl⟩:=hrel
 have HO:=hide ((uh HO1).trans (uh HO2))
 generalize (w1.alloc (.map #[] 0)).alloc (.cells #[.slice none 0 0,.map (some w1.heap.size),.int .i64 0] chT)=W at*
 have hc0:W.cell? ⟨w1.heap.size+1,0,none⟩=some (.slice none 0 0):=by rw[cell_of_row W _ 0 _ _ (0,0) (uh HB)];rfl
 have HL:Hid (w1.heap.size+1<W.heap.size):=(Array.getElem?_eq_some_iff.1 (uh HB)).1
 have H6:=hide (sortA (.slice none 0 0) [] (by simp) List.Pairwise.nil W (World.ownsRow_nil _ _ _ _))
 clear HO1 HO2 HB
 go_wp2_with fail
 refine (uh H6).mono ?_
 rintro e w6 ⟨rfl,_,_,_,_,ho6⟩
 have hc6:w6.cell? ⟨w1.heap.size+1,0,none⟩=some (.slice none 0 0):=(ho6.cell (p:=⟨w1.heap.size+1,0,none⟩) (uh HL) (fun e=>by cases e)).trans hc0
 have HO6:Hid (Old w w6):=(uh HO).trans (ho6.mono (fun k _ e=>by cases e))
 clear H6 ho6 hc0 HO HL
 go_wp2_with fail
 go_ret3
 exact ⟨rfl,uh HO6⟩
theorem chooseNil(w:World):Calls Tryz.prog 25 #[.slice none 0 0] w fun r w' =>r=.returned (.tuple #[.slice none 0 0,.slice none 0 0,.int .i64 0])∧Old w w' :=by
 have H1:=hide (filesNil w)
 go_in
 go_wp2_with fail
 refine (uh H1).mono ?_
 rintro e w1 ⟨rfl,h⟩
 have HH:=hide h
 clear h H1
 go_wp2_with fail
 go_ret3
 exact ⟨rfl,uh HH⟩
def pst(s:ByteArray)(c:Nat):Nat→List ByteArray×Nat
 |0=>([],0)
 |i+1=>if btN s i=c then ((pst s c i).1++[s.extract (pst s c i).2 i],i+1) else pst s c i
def partsR(s:ByteArray)(c:Nat):List ByteArray:=(pst s c s.size).1++[s.extract (pst s c s.size).2 s.size]
theorem pst_le(s:ByteArray)(c i:Nat):(pst s c i).2≤i∧(pst s c i).1.length≤i:=by
 induction i with
 |zero=>exact ⟨Nat.le_refl _,Nat.le_refl _⟩
 |succ i ih=>
  rw[pst]
  split
  ·exact ⟨Nat.le_refl _,by simp;omega⟩
  exact ⟨by omega,by omega⟩
theorem pst_hit(s:ByteArray)(c i:Nat)(h:btN s i=c):pst s c (i+1)=((pst s c i).1++[s.extract (pst s c i).2 i],i+1):=if_pos h
theorem pst_miss(s:ByteArray)(c i:Nat)(h:btN s i≠c):pst s c (i+1)=pst s c i:=if_neg h
theorem partsR_len(s:ByteArray)(c:Nat):(partsR s c).length≤s.size+1:=by
 have:=(pst_le s c s.size).2
 simp[partsR];omega
theorem partsC(s:ByteArray)(c:Nat)(hs:s.size≤2000000)(w:World):Calls Tryz.prog 206 #[.string s,.int .u8 (c:Int)] w fun r w' => ∃v,r=.returned v∧Strs w w' v (partsR s c)∧Old w w' :=by
 obtain ⟨i0,hi0,hz0,hz1,hz2⟩:=info_parts infoS9
 have H0:Hid (Strs w w (.slice none 0 0) (pst s c 0).1):=⟨none,0,rfl,World.ownsRow_nil w 0 9 1,fun b h=>by cases h⟩
 have HO:=hide (Only.refl (fun _=>False) w)
 go_in
 go_wp2_with fail
 go_loopw [5,6,7] (fun u y x wr=> ∃i:Nat,i≤s.size+1∧x=.int .i64 i∧Hid (Old w wr)∧Hid ((i≤s.size∧y=.int .i64 (pst s c i).2∧Strs w wr u (pst s c i).1)∨(i=s.size+1∧Strs w wr u (partsR s c)))) (fun _ _ x _=>s.size+1- (intOf x).toNat)
 ·exact ⟨0,by omega,rfl,HO,.inl ⟨by omega,rfl,H0⟩⟩
 obtain ⟨i,hi,rfl,HO,HS⟩:=hrel
 clear H0
 by_cases hlt:i≤s.size
 ·have hltI:(i:Int)≤(s.size:Int):=by omega
  obtain ⟨_,hy,HS2⟩:i≤s.size∧u6=.int .i64 (pst s c i).2∧Hid (Strs w wr u5 (pst s c i).1):=by
   rcases uh HS with h|h
   ·exact h
   omega
  subst hy
  clear HS
  obtain ⟨hf,hfl⟩:=pst_le s c i
  by_cases hend:i=s.size
  ·have HE:Hid (partsR s c=(pst s c i).1++[s.extract (pst s c i).2 i]):=by rw[hend];rfl
   have heI:((i:Int)==(s.size:Int))=true:=by rw[beq_iff_eq];omega
   have hsl: ∀W,(Instr.slice 9 (.string s) (some (.int .i64 ((pst s c i).2:Int))) (some (.int .i64 (i:Int))) none).run Tryz.prog W=.ok (.string (s.extract (pst s c i).2 i)) W:=fun W=>by
    have:=run_slice_string W 9 s .i64 .i64 ((pst s c i).2:Int) (i:Int) Tryz.underlying9 (by omega) (by omega) (by omega)
    simpa using this
   have HMO:=hide (fun w3 g cap=>Strs.more (w3:=w3) (x:=s.extract (pst s c i).2 i) (g:=g) (cap:=cap) (uh HS2) (uh HO))
   obtain ⟨ao,cp,hue,how,_⟩:=uh HS2
   subst hue
   have HOW:=hide (own_old how ((Only.refl (fun _=>False) wr).alloc (.cells #[.string (s.extract (pst s c i).2 i)] 9)))
   have HNW:=hide (new_cells wr [.string (s.extract (pst s c i).2 i)] 9)
   clear how
   generalize s.extract (pst s c i).2 i=z at*
   generalize pst s c i=q at*
   obtain ⟨L,fr⟩:=q
   simp only at*
   have HEN:=hide hend
   clear hend
   go_wp2_with (at_builtin;refine wpList_append_lies _ rfl (.tmp 25) (.tmp 30) 45 rfl 0 9 i0 (.string ⟨#[]⟩) 1 16 Tryz.underlying45 hi0 hz0 hz1 hz2 rfl (by omega) (.slice ao L.length cp) L.length _ rfl (uh HOW) ⟨wr.heap.size,0,none⟩ 1 1 [.string z] rfl rfl (uh HNW) (by intro u hu;simp at hu;subst hu;rfl) (by omega) (by unfold maxLen;omega) (by omega) (by omega) (wr.heap.size+1) (by simp) ?_;intro gb cap2 w3 ho3 hg3 hl3 hlt3;have HX:=hide (uh HMO w3 gb cap2 ho3 hg3 hl3);clear ho3 hg3 hl3 hlt3)
   go_roundw
   ·exact ⟨i+1,by omega,by go_num,(uh HX).2,.inr ⟨by rw[uh HEN],by rw[uh HE];exact (uh HX).1⟩⟩
   case measure=>simp[intOf];omega
  have heI:((i:Int)==(s.size:Int))=false:=by rw[beq_eq_false_iff_ne];omega
  have hlt2:i<s.size:=by omega
  have hb:=btN_get (s:=s) (k:=i) hlt2
  by_cases h47:btN s i=c
  ·have HN:=hide (pst_hit s c i h47)
   have hsl: ∀W,(Instr.slice 9 (.string s) (some (.int .i64 ((pst s c i).2:Int))) (some (.int .i64 (i:Int))) none).run Tryz.prog W=.ok (.string (s.extract (pst s c i).2 i)) W:=fun W=>by
    have:=run_slice_string W 9 s .i64 .i64 ((pst s c i).2:Int) (i:Int) Tryz.underlying9 (by omega) (by omega) (by omega)
    simpa using this
   have HMO:=hide (fun w3 g cap=>Strs.more (w3:=w3) (x:=s.extract (pst s c i).2 i) (g:=g) (cap:=cap) (uh HS2) (uh HO))
   obtain ⟨ao,cp,hue,how,_⟩:=uh HS2
   subst hue
   have HOW:=hide (own_old how ((Only.refl (fun _=>False) wr).alloc (.cells #[.string (s.extract (pst s c i).2 i)] 9)))
   have HNW:=hide (new_cells wr [.string (s.extract (pst s c i).2 i)] 9)
   rw[h47] at hb
   clear how h47
   generalize s.extract (pst s c i).2 i=z at*
   generalize pst s c i=q at*
   obtain ⟨L,fr⟩:=q
   simp only at*
   clear hend
   go_wp2_with (at_builtin;refine wpList_append_lies _ rfl (.tmp 25) (.tmp 30) 45 rfl 0 9 i0 (.string ⟨#[]⟩) 1 16 Tryz.underlying45 hi0 hz0 hz1 hz2 rfl (by omega) (.slice ao L.length cp) L.length _ rfl (uh HOW) ⟨wr.heap.size,0,none⟩ 1 1 [.string z] rfl rfl (uh HNW) (by intro u hu;simp at hu;subst hu;rfl) (by omega) (by unfold maxLen;omega) (by omega) (by omega) (wr.heap.size+1) (by simp) ?_;intro gb cap2 w3 ho3 hg3 hl3 hlt3;have HX:=hide (uh HMO w3 gb cap2 ho3 hg3 hl3);clear ho3 hg3 hl3 hlt3)
   go_roundw
   ·exact ⟨i+1,by omega,by go_num,(uh HX).2,.inl ⟨by omega,by rw[uh HN];go_num,by rw[uh HN];exact (uh HX).1⟩⟩
   case measure=>simp[intOf];omega
  have HN:=hide (pst_miss s c i h47)
  have h47I:((btN s i:Int)==(c:Int))=false:=by rw[beq_eq_false_iff_ne];omega
  go_wp2_with fail
  go_roundw
  ·exact ⟨i+1,by omega,by go_num,HO,.inl ⟨by omega,by rw[uh HN],by rw[uh HN];exact HS2⟩⟩
  case measure=>simp[intOf];omega
 have hltI:¬(i:Int)≤(s.size:Int):=by omega
 have HS:Hid (Strs w wr u5 (partsR s c)):=by
  rcases uh HS with h|h
  ·omega
  exact h.2
 go_wp2_with fail
 go_ret
 exact ⟨_,rfl,HS,HO⟩
def hasR(s:ByteArray)(c:Nat):Bool:=(List.range s.size).any (fun i=>btN s i==c)
theorem hasR_yes{s:ByteArray}{c i:Nat}(h:i<s.size)(hb:btN s i=c):hasR s c=true:=List.any_eq_true.2 ⟨i,List.mem_range.2 h,by rw[hb];exact beq_self_eq_true _⟩
theorem hasR_no{s:ByteArray}{c:Nat}(h: ∀i,i<s.size→btN s i≠c):hasR s c=false:=by
 rw[hasR,List.any_eq_false]
 intro i hi
 rw[beq_iff_eq]
 exact h i (List.mem_range.1 hi)
theorem hasC(s:ByteArray)(c:Nat)(hs:s.size≤2000000)(w:World):Calls Tryz.prog 294 #[.string s,.int .u8 (c:Int)] w fun r w' =>r=.returned (.bool (hasR s c))∧w' =w:=by
 go_in
 go_wp2_with fail
 go_loop [5] (fun x=> ∃i:Nat,i≤s.size∧x=.int .i64 i∧Hid (∀j,j<i→btN s j≠c)) (fun x=>s.size- (intOf x).toNat)
 ·exact ⟨0,by omega,rfl,fun j h=>by omega⟩
 obtain ⟨i,hi,rfl,HT⟩:=hrel
 by_cases hlt:i<s.size
 ·have hltI:(i:Int)<(s.size:Int):=by omega
  have hb:=btN_get (s:=s) (k:=i) hlt
  by_cases h47:btN s i=c
  ·have HA:=hide (hasR_yes hlt h47)
   rw[h47] at hb
   clear h47
   go_wp2_with fail
   go_ret
   exact ⟨by rw[uh HA];rfl,rfl⟩
  have HT2:Hid (∀j,j<i+1→btN s j≠c):=fun j hj=>by
   by_cases e:j=i
   ·rw[e];exact h47
   exact uh HT j (by omega)
  have h47I:¬((btN s i:Int)=(c:Int)):=by omega
  go_wp2_with fail
  go_round
  ·exact ⟨i+1,by omega,by go_num,HT2⟩
  case measure=>simp[intOf];omega
 have hltI:¬(i:Int)<(s.size:Int):=by omega
 have HA:Hid (hasR s c=false):=hasR_no (fun j hj=>uh HT j (by omega))
 go_wp2_with fail
 go_ret
 exact ⟨by rw[uh HA];rfl,rfl⟩
theorem lowC(s:ByteArray)(hs:s.size≤140737488355328)(w:World):Calls Tryz.prog 201 #[.string s] w fun r w' =>r=.returned (.string (lowP s))∧Old w w' :=by
 have hcb:=Lib.run_convert_string_bytes (P:=Tryz.prog) w 9 62 5 s Tryz.underlying9 Tryz.underlying62 Tryz.underlying5
 have HR:Hid (SRow (Lib.bytesWorld w 5 s) w.heap.size (mixL s.data.toList 0)):=by rw[mixL_zero];exact SRow.made w s
 have HO:=hide (bytesWorld_only w s)
 have HL:Hid (s.data.toList.length=s.size):=by unfold Hid;simp
 have HG:Hid (w.heap.size≤w.heap.size):=Nat.le_refl _
 have HE:Hid (∀l:List UInt8,l=s.data.toList→lowP s=⟨(l.map lowU).toArray⟩):=by intro l e;subst e;rfl
 generalize hl:s.data.toList=l at*
 generalize lowP s=z at*
 have HE:=hide (uh HE l rfl)
 generalize s.size=n at*
 generalize Lib.bytesWorld w 5 s=W at*
 generalize grownCap w n 0 5=cap at*
 generalize hg:w.heap.size=g at*
 have HG:Hid (w.heap.size≤g):=by unfold Hid;omega
 clear hg hl
 go_in
 go_wp2_with fail
 clear hcb
 go_loopw [4] (fun x wr=> ∃i:Nat,i≤n∧x=.int .i64 i∧Hid (SRow wr g (mixL l i))∧Hid (Old w wr)) (fun x _=>n- (intOf x).toNat)
 ·exact ⟨0,by omega,rfl,HR,HO⟩
 obtain ⟨i,hi,rfl,HR,HO⟩:=hrel
 by_cases hlt:i<n
 ·have hltI:(i:Int)<(n:Int):=by omega
  have hil:i<l.length:=by have:=uh HL;omega
  have hil2:i<(mixL l i).length:=by rw[mixL_len];exact hil
  have hc:=(uh HR).cell i hil2
  have hf:=(uh HR).thaw i hil2
  rw[mixL_get l i hil hil2] at hc
  have hc8:(l[i]).toNat<256:=(l[i]).toNat_lt
  have HN:=hide (mixL_succ l i hil)
  have HD:Hid (lowU l[i]=if capB (l[i]).toNat then b8 ((l[i]).toNat+32) else l[i]):=rfl
  have HGet:=hide (mixL_get l i hil hil2)
  cases hcap:capB (l[i]).toNat with
  |true=>
   rw[hcap] at HD
   simp only[if_true] at HD
   have hb:65≤(l[i]).toNat∧(l[i]).toNat≤90:=by simpa [capB] using hcap
   have HS:=hide ((uh HR).set i (b8 ((l[i]).toNat+32)))
   rw[b8_toNat (by omega)] at HS
   rw[uh HD] at HN
   rw[←uh HN] at HS
   have HO2:Hid (Old w (wr.setCell ⟨g,i,none⟩ (.int .u8 (((l[i]).toNat+32:Nat):Int)))):=(uh HO).setCell (p:=⟨g,i,none⟩) (fun h=>absurd h (by have:=uh HG;show ¬g<_;omega)) _
   have e3:((l[i]).toNat:Int)+32=(((l[i]).toNat+32:Nat):Int):=by omega
   clear HN HD HGet hil2
   generalize (l[i]).toNat=c at*
   have hcI:(65:Int)≤(c:Int):=by omega
   have hcJ:(c:Int)≤90:=by omega
   generalize ((c+32:Nat):Int)=c2 at*
   go_wp2_with fail
   go_roundw
   ·exact ⟨i+1,by omega,by go_num,HS,HO2⟩
   case measure=>simp[intOf];omega
  |false=>
   rw[hcap] at HD
   simp only[Bool.false_eq_true,if_false] at HD
   rw[uh HD] at HN
   have HS:Hid (SRow wr g (mixL l (i+1))):=by
    rw[uh HN]
    have:(mixL l i).set i l[i]=mixL l i:=by rw[←mixL_get l i hil hil2];exact List.set_getElem_self _
    rw[this];exact HR
   have hcB:¬(65≤(l[i]).toNat∧(l[i]).toNat≤90):=by simpa [capB] using hcap
   clear HN HD HGet hil2 hcap
   generalize (l[i]).toNat=c at*
   by_cases hcI:(65:Int)≤(c:Int)
   ·have hcJ:¬(c:Int)≤90:=by omega
    clear hcB
    go_wp2_with fail
    go_roundw
    ·exact ⟨i+1,by omega,by go_num,HS,HO⟩
    case measure=>simp[intOf];omega
   clear hcB
   go_wp2_with fail
   go_roundw
   ·exact ⟨i+1,by omega,by go_num,HS,HO⟩
   case measure=>simp[intOf];omega
 have hltI:¬(i:Int)<(n:Int):=by omega
 have hin:i=n:=by omega
 subst hin
 have hback:(convert 62 9 (.slice (some ⟨g,0,none⟩) i cap)).run Tryz.prog wr=.ok (.string z) wr:=by
  have h:=(uh HR).back (cap:=cap)
  rw[mixL_len,uh HL,mixL_all l i (uh HL).symm] at h
  rw[uh HE];exact h
 go_wp2_with fail
 go_ret
 exact ⟨rfl,HO⟩
theorem smallR:ByteFn 292 smallB:=by
 intro c w hc
 unfold smallB
 by_cases h1:97≤c
 ·have h1I:(97:Int)≤(c:Int):=by omega
  by_cases h2:c≤122
  ·have h2I:(c:Int)≤122:=by omega
   rw[decide_eq_true h1,decide_eq_true h2]
   go_in
   go_wp2_with fail
   go_ret
   exact ⟨rfl,rfl⟩
  have h2I:¬(c:Int)≤122:=by omega
  rw[decide_eq_true h1,decide_eq_false h2]
  go_in
  go_wp2_with fail
  go_ret
  exact ⟨rfl,rfl⟩
 have h1I:¬(97:Int)≤(c:Int):=by omega
 rw[decide_eq_false h1]
 go_in
 go_wp2_with fail
 go_ret
 exact ⟨rfl,rfl⟩
theorem digR:ByteFn 293 dgtB:=by
 intro c w hc
 unfold dgtB
 by_cases h1:48≤c
 ·have h1I:(48:Int)≤(c:Int):=by omega
  by_cases h2:c≤57
  ·have h2I:(c:Int)≤57:=by omega
   rw[decide_eq_true h1,decide_eq_true h2]
   go_in
   go_wp2_with fail
   go_ret
   exact ⟨rfl,rfl⟩
  have h2I:¬(c:Int)≤57:=by omega
  rw[decide_eq_true h1,decide_eq_false h2]
  go_in
  go_wp2_with fail
  go_ret
  exact ⟨rfl,rfl⟩
 have h1I:¬(48:Int)≤(c:Int):=by omega
 rw[decide_eq_false h1]
 go_in
 go_wp2_with fail
 go_ret
 exact ⟨rfl,rfl⟩
theorem letR:ByteFn 295 letB:=by
 intro c w hc
 unfold letB smallB capB
 by_cases h1:97≤c
 ·have h1I:(97:Int)≤(c:Int):=by omega
  by_cases h2:c≤122
  ·have h2I:(c:Int)≤122:=by omega
   rw[decide_eq_true h1,decide_eq_true h2]
   go_in
   go_wp2_with fail
   go_ret
   exact ⟨rfl,rfl⟩
  have h2I:¬(c:Int)≤122:=by omega
  have h3I:(65:Int)≤(c:Int):=by omega
  have h4I:¬(c:Int)≤90:=by omega
  rw[decide_eq_true h1,decide_eq_false h2,decide_eq_true (by omega:65≤c),decide_eq_false (by omega:¬c≤90)]
  go_in
  go_wp2_with fail
  go_ret
  exact ⟨rfl,rfl⟩
 have h1I:¬(97:Int)≤(c:Int):=by omega
 rw[decide_eq_false h1]
 by_cases h3:65≤c
 ·have h3I:(65:Int)≤(c:Int):=by omega
  by_cases h4:c≤90
  ·have h4I:(c:Int)≤90:=by omega
   rw[decide_eq_true h3,decide_eq_true h4]
   go_in
   go_wp2_with fail
   go_ret
   exact ⟨rfl,rfl⟩
  have h4I:¬(c:Int)≤90:=by omega
  rw[decide_eq_true h3,decide_eq_false h4]
  go_in
  go_wp2_with fail
  go_ret
  exact ⟨rfl,rfl⟩
 have h3I:¬(65:Int)≤(c:Int):=by omega
 rw[decide_eq_false h3]
 go_in
 go_wp2_with fail
 go_ret
 exact ⟨rfl,rfl⟩
end Go.Proofs.YtndfmgdhiallpaaGreatDoor
