import Derived.Test.YtndfmgdhiallpaaGreatDoorRc
import Derived.Lib.IndexLaws
import Derived.Lib.CutLaws
import Derived.Lib.CountLaws
set_option maxRecDepth 100000
set_option maxHeartbeats 2000000
namespace Go.Proofs.YtndfmgdhiallpaaGreatDoor
open Go.RowKit Go.Maps
def begR(s t:ByteArray):Bool:=decide (t.size≤s.size)&&decide (s.extract 0 t.size=t)
theorem beginsC(s t:ByteArray)(w:World):Calls Tryz.prog 298 #[.string s,.string t] w fun r w' =>r=.returned (.bool (begR s t))∧w' =w:=by
 by_cases h:t.size≤s.size
 ·have hI:(t.size:Int)≤(s.size:Int):=by omega
  have hsl: ∀W,(Instr.slice 9 (.string s) none (some (.int .i64 (t.size:Int))) none).run Tryz.prog W=.ok (.string (s.extract 0 t.size)) W:=fun W=>run_slice_string_h W 9 s Tryz.underlying9 .i64 t.size (by omega) (by omega)
  have f1:((s.extract 0 t.size).toList==t.toList)=decide (s.extract 0 t.size=t):=eqS _ _
  have hans:begR s t=decide (s.extract 0 t.size=t):=by rw[begR,decide_eq_true h];rfl
  rw[hans]
  clear hans
  generalize decide (s.extract 0 t.size=t)=b at*
  generalize s.extract 0 t.size=z at*
  go_in
  go_wp2_with fail
  go_ret
  exact ⟨rfl,rfl⟩
 have hI:¬(t.size:Int)≤(s.size:Int):=by omega
 have hans:begR s t=false:=by rw[begR,decide_eq_false h];rfl
 rw[hans]
 clear hans
 go_in
 go_wp2_with fail
 go_ret
 exact ⟨rfl,rfl⟩
theorem tooLargeC(s:ByteArray)(n:Nat)(w:World):Calls Tryz.prog 200 #[.string s,.int .i64 (n:Int)] w fun r w' =>r=.returned (.bool (decide (mostP s<n)))∧w' =w:=by
 have f1:(s.toList==[103,111,46,109,111,100])=decide (s=sGo):=eqL s _
 have f2:(s.toList==[76,73,67,69,78,83,69])=decide (s=sLic):=eqL s _
 by_cases h4:4000<n
 ·have h4I:(4000:Int)<(n:Int):=by omega
  have hans:decide (mostP s<n)=true:=by rw[mostP];split<;>exact decide_eq_true (by omega)
  rw[hans]
  clear hans f1 f2
  go_in
  go_wp2_with fail
  go_ret
  exact ⟨rfl,rfl⟩
 have h4I:¬(4000:Int)<(n:Int):=by omega
 by_cases h5:500<n
 ·have h5I:(500:Int)<(n:Int):=by omega
  by_cases g1:s=sGo
  ·have hans:decide (mostP s<n)=true:=by rw[mostP,if_pos (.inl g1)];exact decide_eq_true h5
   rw[hans]
   rw[decide_eq_true g1] at f1
   clear hans f2 g1
   go_in
   go_wp2_with fail
   go_ret
   exact ⟨rfl,rfl⟩
  rw[decide_eq_false g1] at f1
  by_cases g2:s=sLic
  ·have hans:decide (mostP s<n)=true:=by rw[mostP,if_pos (.inr g2)];exact decide_eq_true h5
   rw[hans]
   rw[decide_eq_true g2] at f2
   clear hans g1 g2
   go_in
   go_wp2_with fail
   go_ret
   exact ⟨rfl,rfl⟩
  have hans:decide (mostP s<n)=false:=by rw[mostP,if_neg (fun h=>h.elim g1 g2)];exact decide_eq_false h4
  rw[hans]
  rw[decide_eq_false g2] at f2
  clear hans g1 g2
  go_in
  go_wp2_with fail
  go_ret
  exact ⟨rfl,rfl⟩
 have h5I:¬(500:Int)<(n:Int):=by omega
 have hans:decide (mostP s<n)=false:=by rw[mostP];split<;>exact decide_eq_false (by omega)
 rw[hans]
 clear hans f1 f2
 go_in
 go_wp2_with fail
 go_ret
 exact ⟨rfl,rfl⟩
def venHit(s:ByteArray)(i:Nat):Bool:=begR (s.extract i s.size) sVen2
def venAt(s:ByteArray):Option Nat:=if begR s sVen then some 7 else ((List.range s.size).find? (venHit s)).map (· +8)
def venD(s:ByteArray):Bool:=match venAt s with
 |some p=>hasR (s.extract p s.size) 47
 |none=>false
theorem venD_some{s:ByteArray}{p:Nat}(h:venAt s=some p):venD s=hasR (s.extract p s.size) 47:=by rw[venD,h]
theorem venD_none{s:ByteArray}(h:venAt s=none):venD s=false:=by rw[venD,h]
theorem find_range{n i:Nat}{p:Nat→Bool}(hi:i<n)(hp:p i=true)(hn: ∀j,j<i→p j=false):(List.range n).find? p=some i:=by
 rw[List.find?_eq_some_iff_getElem]
 refine ⟨hp,i,by simpa using hi,by simp,fun j hj=> ?_⟩
 simp[hn j hj]
theorem begR_le{s t:ByteArray}(h:begR s t=true):t.size≤s.size:=by
 rw[begR,Bool.and_eq_true] at h
 exact of_decide_eq_true h.1
theorem vendoredC(s:ByteArray)(hs:s.size≤2000000)(w:World):Calls Tryz.prog 291 #[.string s] w fun r w' =>r=.returned (.bool (venD s))∧w' =w:=by
 have H1:=hide (beginsC s sVen w)
 have HY:Hid (begR s sVen=true→venAt s=some 7∧7≤s.size):=fun h=>⟨if_pos h,begR_le h⟩
 have HN:Hid (begR s sVen=false→venAt s=((List.range s.size).find? (venHit s)).map (· +8)):=fun h=>by rw[venAt,h];rfl
 have HS:Hid (∀p,venAt s=some p→venD s=hasR (s.extract p s.size) 47):=fun p h=>venD_some h
 have HE:Hid (venAt s=none→venD s=false):=fun h=>venD_none h
 generalize venD s=ans at*
 cases hvb:begR s sVen with
 |true=>
  rw[hvb] at H1
  obtain ⟨h7,h7s⟩:=uh HY hvb
  have HA:=hide (uh HS 7 h7)
  have hsl: ∀W,(Instr.slice 9 (.string s) (some (.int .i64 ((7:Nat):Int))) none none).run Tryz.prog W=.ok (.string (s.extract 7 s.size)) W:=fun W=>run_slice_string_l W 9 s Tryz.underlying9 .i64 7 (by omega) (by omega)
  have hsl7: ∀W,(Instr.slice 9 (.string s) (some (.int .i64 7)) none none).run Tryz.prog W=.ok (.string (s.extract 7 s.size)) W:=hsl
  have hes:(s.extract 7 s.size).size≤2000000:=Nat.le_trans (ext_le _ _ _) hs
  have H3:=hide (fun W=>hasC (s.extract 7 s.size) 47 hes W)
  rw[←uh HA] at H3
  clear hsl hvb h7 HY HN HS HE HA
  generalize s.extract 7 s.size=z at*
  go_in
  go_wp2_with fail
  refine (uh H1).mono ?_
  rintro e w1 ⟨rfl,rfl⟩
  go_wp2_with fail
  go_loop [3,4] (fun y x=>y=.int .i64 7∧x=.int .i64 0) (fun _ _=>0)
  ·exact ⟨rfl,rfl⟩
  obtain ⟨rfl,rfl⟩:=hrel
  have hpos:(0:Int)<(s.size:Int):=by omega
  go_wp2_with fail
  refine (uh H3 _).mono ?_
  rintro e w2 ⟨rfl,rfl⟩
  go_wp2_with fail
  go_ret
  exact ⟨rfl,rfl⟩
 |false=>
  rw[hvb] at H1
  have HN:=hide (uh HN hvb)
  clear hvb HY
  go_in
  go_wp2_with fail
  refine (uh H1).mono ?_
  rintro e w1 ⟨rfl,rfl⟩
  go_wp2_with fail
  go_loop [3,4] (fun y x=> ∃i:Nat,i≤s.size∧x=.int .i64 i∧Hid ((y=.int .i64 (-1)∧ ∀j,j<i→venHit s j=false)∨ ∃p:Nat,y=.int .i64 p∧p≤s.size∧venAt s=some p)) (fun _ x=>s.size- (intOf x).toNat)
  ·exact ⟨0,by omega,rfl,.inl ⟨rfl,fun j h=>by omega⟩⟩
  obtain ⟨i,hi,rfl,HT⟩:=hrel
  rcases uh HT with ⟨hy,hT⟩|⟨p,hy,hp,hat⟩
  ·subst hy
   have HT2:=hide hT
   clear hT HT
   by_cases hlt:i<s.size
   ·have hltI:(i:Int)<(s.size:Int):=by omega
    have hsl: ∀W,(Instr.slice 9 (.string s) (some (.int .i64 (i:Int))) none none).run Tryz.prog W=.ok (.string (s.extract i s.size)) W:=fun W=>run_slice_string_l W 9 s Tryz.underlying9 .i64 i (by omega) (by omega)
    have H2:=hide (fun W=>beginsC (s.extract i s.size) sVen2 W)
    cases hh:venHit s i with
    |true=>
     have hb:begR (s.extract i s.size) sVen2=true:=hh
     rw[hb] at H2
     have h8:i+8≤s.size:=by have:=begR_le hb;rw[ByteArray.size_extract] at this;have e8:sVen2.size=8:=rfl;omega
     have HA:Hid (venAt s=some (i+8)):=by
      unfold Hid;rw[uh HN,find_range hlt hh (uh HT2)];rfl
     clear hb hh HT2
     generalize s.extract i s.size=z at*
     go_wp2_with fail
     refine (uh H2 _).mono ?_
     rintro e w2 ⟨rfl,rfl⟩
     go_wp2_with fail
     go_round
     ·exact ⟨i+1,by omega,by go_num,.inr ⟨i+8,by go_num,h8,uh HA⟩⟩
     case measure=>simp[intOf];omega
    |false=>
     have hb:begR (s.extract i s.size) sVen2=false:=hh
     rw[hb] at H2
     have HT3:Hid (∀j,j<i+1→venHit s j=false):=fun j hj=>by
      by_cases e:j=i
      ·rw[e];exact hh
      exact uh HT2 j (by omega)
     clear hb hh HT2
     generalize s.extract i s.size=z at*
     go_wp2_with fail
     refine (uh H2 _).mono ?_
     rintro e w2 ⟨rfl,rfl⟩
     go_wp2_with fail
     go_round
     ·exact ⟨i+1,by omega,by go_num,.inl ⟨rfl,uh HT3⟩⟩
     case measure=>simp[intOf];omega
   have hltI:¬(i:Int)<(s.size:Int):=by omega
   have hans:ans=false:=by
    refine uh HE ?_
    rw[uh HN,List.find?_eq_none.2 (fun j hj=>by rw[uh HT2 j (by have:=List.mem_range.1 hj;omega)];decide)];rfl
   subst hans
   clear HN HS HE HT2
   go_wp2_with fail
   go_ret
   exact ⟨rfl,rfl⟩
  subst hy
  have HA:=hide (uh HS p hat)
  have hsl: ∀W,(Instr.slice 9 (.string s) (some (.int .i64 (p:Int))) none none).run Tryz.prog W=.ok (.string (s.extract p s.size)) W:=fun W=>run_slice_string_l W 9 s Tryz.underlying9 .i64 p (by omega) (by omega)
  have hes:(s.extract p s.size).size≤2000000:=Nat.le_trans (ext_le _ _ _) hs
  have H3:=hide (fun W=>hasC (s.extract p s.size) 47 hes W)
  rw[←uh HA] at H3
  have hpI:(0:Int)≤(p:Int):=by omega
  have hpJ:¬(p:Int)<0:=by omega
  clear hat HN HS HE HT HA
  generalize s.extract p s.size=z at*
  by_cases hlt:i<s.size
  ·have hltI:(i:Int)<(s.size:Int):=by omega
   go_wp2_with fail
   refine (uh H3 _).mono ?_
   rintro e w2 ⟨rfl,rfl⟩
   go_wp2_with fail
   go_ret
   exact ⟨rfl,rfl⟩
  have hltI:¬(i:Int)<(s.size:Int):=by omega
  go_wp2_with fail
  refine (uh H3 _).mono ?_
  rintro e w2 ⟨rfl,rfl⟩
  go_wp2_with fail
  go_ret
  exact ⟨rfl,rfl⟩
theorem pst_none{s:ByteArray}{c:Nat}: ∀i,(∀j,j<i→btN s j≠c)→pst s c i=([],0)
 |0,_=>rfl
 |i+1,h=>by rw[pst_miss s c i (h i (by omega))];exact pst_none i (fun j hj=>h j (by omega))
theorem partsR_miss{s:ByteArray}{c:Nat}(h: ∀j,j<s.size→btN s j≠c):partsR s c=[s]:=by
 rw[partsR,pst_none _ h]
 simp
theorem pst_shift{s:ByteArray}{c i:Nat}(hb:btN s i=c)(h: ∀j,j<i→btN s j≠c)(he: ∀n,i+1+n<s.size→btN (s.extract (i+1) s.size) n=btN s (i+1+n))(hx: ∀f n,i+1+n≤s.size→(s.extract (i+1) s.size).extract f n=s.extract (i+1+f) (i+1+n)):
 ∀n,i+1+n≤s.size→pst s c (i+1+n)=(s.extract 0 i::(pst (s.extract (i+1) s.size) c n).1,i+1+(pst (s.extract (i+1) s.size) c n).2)
 |0,_=>by
  show pst s c (i+1)=_
  rw[pst_hit s c i hb,pst_none i h];rfl
 |n+1,hn=>by
  have ih:=pst_shift hb h he hx n (by omega)
  have e1:=he n (by omega)
  by_cases hc:btN s (i+1+n)=c
  ·rw[show i+1+(n+1)=i+1+n+1 by omega,pst_hit s c _ hc,pst_hit _ c n (e1.trans hc),ih]
   simp only[List.cons_append,hx _ n (by omega)]
   rfl
  rw[show i+1+(n+1)=i+1+n+1 by omega,pst_miss s c _ hc,pst_miss _ c n (by rw[e1];exact hc),ih]
theorem partsR_hit{s:ByteArray}{c i:Nat}(hi:i<s.size)(hb:btN s i=c)(h: ∀j,j<i→btN s j≠c):partsR s c=s.extract 0 i::partsR (s.extract (i+1) s.size) c:=by
 have hsz:(s.extract (i+1) s.size).size=s.size- (i+1):=by rw[ByteArray.size_extract];omega
 have hx: ∀f n,i+1+n≤s.size→(s.extract (i+1) s.size).extract f n=s.extract (i+1+f) (i+1+n):=fun f n hn=>by
  rw[ByteArray.extract_extract,Nat.min_eq_left hn]
 have hp:=pst_shift hb h (fun n hn=>btN_extract (by omega) (Nat.le_refl _)) hx (s.size- (i+1)) (by omega)
 rw[show i+1+(s.size- (i+1))=s.size by omega] at hp
 rw[partsR,partsR,hp,hsz,hx _ _ (by omega)]
 rw[show i+1+(s.size- (i+1))=s.size by omega]
 rfl
theorem bt_list{s:ByteArray}{j:Nat}(h:j<s.size):s.data.toList[j]? =some (b8 (btN s j))∧(b8 (btN s j)).toNat=btN s j:=by
 have e:btN s j=s[j].toNat:=by rw[btN,dif_pos h]
 have hl:j<s.data.toList.length:=by simpa using h
 have e2:b8 (btN s j)=s[j]:=by rw[e];apply UInt8.toNat_inj.1;rw[b8_toNat s[j].toNat_lt]
 refine ⟨?_,by rw[e2,e]⟩
 rw[e2,List.getElem?_eq_getElem hl];rfl
theorem partsR_eq: ∀(n:Nat) (s:ByteArray),s.size≤n→partsR s 47=partsP s:=by
 intro n
 induction n with
 |zero=>
  intro s hs
  rw[partsR_miss (fun j hj=>by omega),partsP]
  rcases Lib.indexB_cases s ⟨#[47]⟩ with h|⟨i,h,hi⟩
  ·rw[Lib.splitB_miss _ _ _ _ h]
  have:(⟨#[47]⟩:ByteArray).size=1:=rfl
  omega
 |succ n ih=>
  intro s hs
  have h1:(⟨#[47]⟩:ByteArray).size=1:=rfl
  have hix:Lib.indexB s ⟨#[47]⟩=Lib.indexByte s.data.toList 47:=Lib.index_one _ _
  rcases Lib.indexB_cases s ⟨#[47]⟩ with h|⟨i,h,hi⟩
  ·rw[partsP,Lib.splitB_miss _ _ _ _ h]
   refine partsR_miss (fun j hj e=> ?_)
   have hn:=Lib.indexByte_none (hix ▸ h) j
   rw[(bt_list hj).1,e] at hn
   exact hn rfl
  obtain ⟨ha,hb⟩:=Lib.indexByte_some (hix ▸ h)
  have hil:i<s.size:=by omega
  have hbi:btN s i=47:=by
   have:=(bt_list hil).1
   rw[ha] at this
   injection this with this
   rw[←(bt_list hil).2,←this];rfl
  have hbj: ∀j,j<i→btN s j≠47:=fun j hj e=>by
   have:=hb j hj
   rw[(bt_list (by omega)).1,e] at this
   exact this rfl
  rw[partsR_hit hil hbi hbj,partsP,Lib.countB_hit s ⟨#[47]⟩ i (by decide) h,Nat.add_comm 1 (Lib.countB _ _),Lib.splitB_hit _ _ _ _ i h,ih _ (by rw[ByteArray.size_extract];omega)]
  rfl
theorem idx_cases(s:ByteArray)(u:UInt8):(Lib.indexB s ⟨#[u]⟩= -1∧ ∀j,j<s.size→btN s j≠u.toNat)∨ ∃i:Nat,Lib.indexB s ⟨#[u]⟩=i∧i<s.size∧btN s i=u.toNat∧ ∀j,j<i→btN s j≠u.toNat:=by
 have h1:(⟨#[u]⟩:ByteArray).size=1:=rfl
 have hix:Lib.indexB s ⟨#[u]⟩=Lib.indexByte s.data.toList u:=Lib.index_one _ _
 have hu:b8 u.toNat=u:=UInt8.toNat_inj.1 (b8_toNat u.toNat_lt)
 rcases Lib.indexB_cases s ⟨#[u]⟩ with h|⟨i,h,hi⟩
 ·refine .inl ⟨h,fun j hj e=> ?_⟩
  have hn:=Lib.indexByte_none (hix ▸ h) j
  rw[(bt_list hj).1,e,hu] at hn
  exact hn rfl
 obtain ⟨ha,hb⟩:=Lib.indexByte_some (hix ▸ h)
 have hil:i<s.size:=by omega
 refine .inr ⟨i,h,hil, ?_,fun j hj e=> ?_⟩
 ·have:=(bt_list hil).1
  rw[ha] at this
  injection this with this
  rw[←(bt_list hil).2,←this]
 have:=hb j hj
 rw[(bt_list (by omega)).1,e,hu] at this
 exact this rfl
theorem stemR_eq(e:ByteArray):stemR e=stemP e:=by
 rw[stemR,stemP]
 generalize lowP e=s
 rcases idx_cases s 46 with ⟨h,hn⟩|⟨i,h,hi,hb,hn⟩
 ·rw[partsR_miss (c:=46) hn]
  exact (Lib.cutB_miss s ⟨#[46]⟩ h).1.symm
 rw[partsR_hit (c:=46) hi hb hn]
 exact (Lib.cutB_hit s ⟨#[46]⟩ i h).1.symm
theorem fileR_all:(List.range 256).all (fun c=>fileR c==fileB c)=true:=by kernel_rfl
theorem fileR_eq{c:Nat}(h:c<256):fileR c=fileB c:=by
 have:=List.all_eq_true.1 fileR_all c (List.mem_range.2 h)
 simpa using this
theorem suf_one{s:ByteArray}(h:s.size≠0)(u:UInt8):Lib.hasSuffix s.data.toList [u]=decide (btN s (s.size- 1)=u.toNat):=by
 have hb:=(bt_list (s:=s) (j:=s.size- 1) (by omega)).1
 have hl:s.data.toList.length=s.size:=(Lib.size_eq s).symm
 by_cases e:btN s (s.size- 1)=u.toNat
 ·rw[decide_eq_true e]
  have hu:b8 u.toNat=u:=UInt8.toNat_inj.1 (b8_toNat u.toNat_lt)
  rw[e,hu] at hb
  refine List.isSuffixOf_iff_suffix.2 ⟨s.data.toList.take (s.size- 1), ?_⟩
  have:=List.take_append_drop (s.size- 1) s.data.toList
  obtain ⟨hlt,hg⟩:=List.getElem?_eq_some_iff.1 hb
  rw[List.drop_eq_getElem_cons hlt,hg,List.drop_of_length_le (by omega)] at this
  exact this
 rw[decide_eq_false e]
 rw[Bool.eq_false_iff]
 intro h2
 obtain ⟨t,ht⟩:=List.isSuffixOf_iff_suffix.1 h2
 have hlt:t.length=s.size- 1:=by rw[←hl,←ht];simp
 rw[←ht,←hlt] at hb
 simp at hb
 apply e
 rw[←hlt,←(bt_list (s:=s) (j:=t.length) (by omega)).2,←hb]
theorem elemR_eq(e:ByteArray):elemR e=elemP e:=by
 have hf:(List.range e.size).all (fun i=>fileR (btN e i))=(List.range e.size).all (fun i=>fileB (btN e i)):=by
  congr 1;funext i;exact fileR_eq (btN_lt e i)
 rw[elemR,elemP,onlyB,resP,stemR_eq,hf]
 by_cases h:e.size=0
 ·rw[decide_eq_true h,decide_eq_false (show ¬0<e.size by omega)];simp
 rw[suf_one h,suf_one h,decide_eq_false h,decide_eq_true (show 0<e.size by omega)]
 generalize (List.range e.size).all (fun i=>fileB (btN e i))=a
 generalize devP (stemP e)=b
 show (true&& !decide (btN e (e.size- 1)=46)&& !decide (btN e (e.size- 1)=32)&&a&& !b)=(a&&true&& !decide (btN e (e.size- 1)=46)&& !decide (btN e (e.size- 1)=32)&& !b)
 generalize decide (btN e (e.size- 1)=46)=c
 generalize decide (btN e (e.size- 1)=32)=d
 cases a<;>cases b<;>cases c<;>cases d<;>rfl
theorem nameR_eq(s:ByteArray):nameR s=fileP s:=by
 rw[nameR,fileP,partsR_eq s.size s (Nat.le_refl _)]
 congr 2
 funext e
 exact elemR_eq e
theorem hidR_eq(s:ByteArray):hidR s=hidP s:=by rw[hidR,hidP,partsR_eq s.size s (Nat.le_refl _)]
theorem hasR_eq(s:ByteArray):hasR s 47=decide (0≤Lib.indexByte s.data.toList 47):=by
 have hix:Lib.indexB s ⟨#[47]⟩=Lib.indexByte s.data.toList 47:=Lib.index_one _ _
 rcases idx_cases s 47 with ⟨h,hn⟩|⟨i,h,hi,hb,hn⟩
 ·rw[hasR_no (c:=47) hn,←hix,h];rfl
 rw[hasR_yes (c:=47) hi hb,←hix,h];exact (decide_eq_true (by omega)).symm
theorem pre_iff{s t:ByteArray}:Lib.hasPrefix s.data.toList t.data.toList=true↔t.size≤s.size∧s.extract 0 t.size=t:=by
 have hl:s.data.toList.length=s.size:=(Lib.size_eq s).symm
 have ht:t.data.toList.length=t.size:=(Lib.size_eq t).symm
 refine List.isPrefixOf_iff_prefix.trans (List.prefix_iff_eq_take.trans ⟨fun h=>⟨?_, ?_⟩,fun h=> ?_⟩)
 ·have:=congrArg List.length h
  rw[List.length_take,hl,ht] at this;omega
 ·rw[Lib.extract_eq,List.drop_zero,Nat.sub_zero,←ht,←h]
 have h2:=congrArg (fun x:ByteArray=>x.data.toList) h.2
 rw[Lib.extract_eq,List.drop_zero,Nat.sub_zero,←ht] at h2
 exact h2.symm
theorem begR_eq(s t:ByteArray):begR s t=Lib.hasPrefix s.data.toList t.data.toList:=by
 rw[Bool.eq_iff_iff,pre_iff,begR,Bool.and_eq_true,decide_eq_true_eq,decide_eq_true_eq]
theorem drop_ext(s:ByteArray)(n:Nat):(⟨(s.data.toList.drop n).toArray⟩:ByteArray)=s.extract n s.size:=by
 rw[Lib.extract_eq,List.take_of_length_le (by rw[List.length_drop,←Lib.size_eq];exact Nat.le_refl _)]
theorem venHit_eq(s:ByteArray)(i:Nat):venHit s i=Lib.occAt s.data.toList sVen2.data.toList i:=by
 rw[venHit,begR_eq,Lib.occAt,Lib.hasPrefix,←drop_ext]
theorem venD_eq(s:ByteArray):venD s=venP s:=by
 rw[venP,venR]
 by_cases hb:begR s sVen=true
 ·rw[venD_some (show venAt s=some 7 from if_pos hb),hasR_eq]
  rw[begR_eq] at hb
  rw[if_pos hb,Lib.trimPrefix,if_pos hb,←drop_ext];rfl
 have ha:venAt s=((List.range s.size).find? (venHit s)).map (· +8):=if_neg hb
 rw[begR_eq] at hb
 rw[if_neg hb]
 have hl:s.data.toList.length=s.size:=(Lib.size_eq s).symm
 rcases Lib.index_spec s.data.toList sVen2.data.toList with ⟨h,hn⟩|⟨i,h,hi,ho,hn⟩
 ·have hc:=Lib.cutB_miss s sVen2 h
  have hv:venAt s=none:=by
   rw[ha,List.find?_eq_none.2 (fun j hj=>by rw[venHit_eq,hn j (by rw[hl];exact Nat.le_of_lt (List.mem_range.1 hj))];decide)];rfl
  rw[venD_none hv]
  show false=((Lib.cut s.data.toList sVen2.data.toList).2.2&&_)
  rw[hc.2.2];rfl
 have hc:=Lib.cutB_hit s sVen2 i h
 have hi2:i<s.size:=by
  have:=Lib.index_room s.data.toList sVen2.data.toList (by omega)
  have h8:sVen2.data.toList.length=8:=rfl
  omega
 have hv:venAt s=some (i+8):=by
  rw[ha,find_range hi2 (by rw[venHit_eq];exact ho) (fun j hj=>by rw[venHit_eq];exact hn j hj)];rfl
 rw[venD_some hv,hasR_eq]
 show _=((Lib.cut s.data.toList sVen2.data.toList).2.2&&decide (0≤Lib.indexByte (⟨(Lib.cut s.data.toList sVen2.data.toList).2.1.toArray⟩:ByteArray).data.toList 47))
 rw[hc.2.2,hc.2.1];rfl
def nesR(T:List Ent)(s:ByteArray):Bool:=(List.range s.size).any (fun i=>decide (btN s i=47)&&T.any (fun e=> !e.ln&&decide (e.nm=s.extract 0 i++sGoS)))
theorem ba_ext{a b:ByteArray}(h:a.data.toList=b.data.toList):a=b:=ByteArray.ext (Array.toList_inj.1 h)
theorem app_list(a b:ByteArray):(a++b).data.toList=a.data.toList++b.data.toList:=by simp
theorem ext0_list(s:ByteArray)(i:Nat):(s.extract 0 i).data.toList=s.data.toList.take i:=by rw[Lib.extract_eq,List.drop_zero,Nat.sub_zero]
theorem foOf_list{e:Ent}{p:List UInt8}(h:e.nm.data.toList=p++sGoS.data.toList):(foOf e).data.toList=p++[47]:=by
 show (Lib.trimSuffix e.nm.data.toList sGo.data.toList)=p++[47]
 have h2:e.nm.data.toList=(p++[47])++sGo.data.toList:=by rw[h];simp
 have hs:Lib.hasSuffix e.nm.data.toList sGo.data.toList=true:=List.isSuffixOf_iff_suffix.2 ⟨_,h2.symm⟩
 rw[Lib.trimSuffix,if_pos hs,h2,List.length_append,Nat.add_sub_cancel,List.take_left]
theorem btN_at{s:ByteArray}{p r:List UInt8}{u:UInt8}(h:s.data.toList=p++u::r):p.length<s.size∧btN s p.length=u.toNat:=by
 have hl:p.length<s.size:=by rw[Lib.size_eq,h];simp
 refine ⟨hl, ?_⟩
 have hb:=bt_list hl
 rw[h] at hb
 simp at hb
 rw[←hb.2,←hb.1]
theorem bt_split{s:ByteArray}{i:Nat}(h:i<s.size):s.data.toList=s.data.toList.take i++b8 (btN s i)::s.data.toList.drop (i+1):=by
 obtain ⟨hlt,hg⟩:=List.getElem?_eq_some_iff.1 (bt_list h).1
 rw[←hg,←List.drop_eq_getElem_cons hlt,List.take_append_drop]
theorem nesR_eq(T:List Ent)(s:ByteArray):nesR T s=haveP (nestL T) s:=by
 rw[Bool.eq_iff_iff,nesR,haveP,List.any_eq_true,List.any_eq_true]
 constructor
 ·rintro ⟨i,hi,h⟩
  rw[Bool.and_eq_true,decide_eq_true_eq,List.any_eq_true] at h
  obtain ⟨hb,e,he,h⟩:=h
  rw[Bool.and_eq_true,decide_eq_true_eq] at h
  have hi2:=List.mem_range.1 hi
  have hL:e.nm.data.toList=s.data.toList.take i++sGoS.data.toList:=by rw[h.2,app_list,ext0_list]
  have hsp:=bt_split hi2
  rw[hb] at hsp
  refine ⟨foOf e,List.mem_map.2 ⟨e,List.mem_filter.2 ⟨he, ?_⟩,rfl⟩, ?_⟩
  ·rw[ownP,h.1,Bool.true_and];exact List.isSuffixOf_iff_suffix.2 ⟨_,hL.symm⟩
  rw[foOf_list hL]
  refine List.isPrefixOf_iff_prefix.2 ⟨s.data.toList.drop (i+1), ?_⟩
  rw[List.append_assoc];exact hsp.symm
 rintro ⟨f,hf,h⟩
 obtain ⟨e,he,rfl⟩:=List.mem_map.1 hf
 obtain ⟨he,ho⟩:=List.mem_filter.1 he
 rw[ownP,Bool.and_eq_true] at ho
 obtain ⟨p,hp⟩:=List.isSuffixOf_iff_suffix.1 ho.2
 have hL:=hp.symm
 rw[foOf_list hL] at h
 obtain ⟨r,hr⟩:=List.isPrefixOf_iff_prefix.1 h
 rw[List.append_assoc] at hr
 obtain ⟨hl,hb⟩:=btN_at hr.symm
 refine ⟨p.length,List.mem_range.2 hl, ?_⟩
 rw[Bool.and_eq_true,decide_eq_true_eq,List.any_eq_true]
 refine ⟨hb,e,he, ?_⟩
 rw[Bool.and_eq_true,decide_eq_true_eq]
 refine ⟨ho.1,ba_ext ?_⟩
 rw[hL,app_list,ext0_list,←hr,List.take_left]
def whyR(T:List Ent)(e:Ent):Nat:=if e.ln then 1 else if hidR e.nm then 4 else if nesR T e.nm then 3 else if venD e.nm then 2 else if nameR e.nm then 0 else 5
theorem whyR_eq(T:List Ent)(e:Ent):whyR T e=whyP (nestL T) e:=by rw[whyR,whyP,hidR_eq,nesR_eq,venD_eq,nameR_eq]
end Go.Proofs.YtndfmgdhiallpaaGreatDoor
