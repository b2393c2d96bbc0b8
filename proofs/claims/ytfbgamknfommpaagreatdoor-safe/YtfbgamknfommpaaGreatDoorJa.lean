import Derived.Test.YtfbgamknfommpaaGreatDoorMe
import Derived.Test.YtfbgamknfommpaaGreatDoorMa
import Derived.Test.YtfbgamknfommpaaGreatDoorSh
import Derived.Test.YtfbgamknfommpaaGreatDoorChecked
import Derived.Deep.QuietTactic
import Derived.BigQuiet
set_option maxRecDepth 100000
set_option maxHeartbeats 1000000
namespace Go.Proofs.YtfbgamknfommpaaGreatDoor
open Go.RowKit
def smallB(c:Nat):Bool:=decide (97≤c)&&decide (c≤122)
def capB(c:Nat):Bool:=decide (65≤c)&&decide (c≤90)
def dgtB(c:Nat):Bool:=decide (48≤c)&&decide (c≤57)
def letB(c:Nat):Bool:=smallB c||capB c
def inB(m:ByteArray)(c:Nat):Bool:=decide (0≤Lib.indexByte m.data.toList c.toUInt8)
def modB(c:Nat):Bool:=(smallB c||dgtB c)||inB ⟨#[46,45,95,126]⟩ c
def fileB(c:Nat):Bool:=(letB c||dgtB c)||inB ⟨#[33,35,36,37,38,40,41,43,44,45,46,61,64,91,93,94,95,123,125,126,32]⟩ c
def ByteFn(f:Nat)(p:Nat→Bool):Prop:= ∀(c:Nat) (w:World),c<256→Calls Tryz.prog f #[.int .u8 (c:Int)] w fun r w' =>r=.returned (.bool (p c))∧w' =w
theorem smallC:ByteFn 167 smallB:=by
 intro c w hc
 unfold smallB
 by_cases h1:97≤c
 ·have h1I:(97:Int)≤(c:Int):=by omega
  by_cases h2:c≤122
  ·have h2I:(c:Int)≤122:=by omega
   rw[decide_eq_true h1,decide_eq_true h2]
   go_in
   go_wp2_with fail
   go_ret
   exact ⟨rfl,rfl⟩
  have h2I:¬(c:Int)≤122:=by omega
  rw[decide_eq_true h1,decide_eq_false h2]
  go_in
  go_wp2_with fail
  go_ret
  exact ⟨rfl,rfl⟩
 have h1I:¬(97:Int)≤(c:Int):=by omega
 rw[decide_eq_false h1]
 go_in
 go_wp2_with fail
 go_ret
 exact ⟨rfl,rfl⟩
theorem capC:ByteFn 173 capB:=by
 intro c w hc
 unfold capB
 by_cases h1:65≤c
 ·have h1I:(65:Int)≤(c:Int):=by omega
  by_cases h2:c≤90
  ·have h2I:(c:Int)≤90:=by omega
   rw[decide_eq_true h1,decide_eq_true h2]
   go_in
   go_wp2_with fail
   go_ret
   exact ⟨rfl,rfl⟩
  have h2I:¬(c:Int)≤90:=by omega
  rw[decide_eq_true h1,decide_eq_false h2]
  go_in
  go_wp2_with fail
  go_ret
  exact ⟨rfl,rfl⟩
 have h1I:¬(65:Int)≤(c:Int):=by omega
 rw[decide_eq_false h1]
 go_in
 go_wp2_with fail
 go_ret
 exact ⟨rfl,rfl⟩
theorem digC:ByteFn 119 dgtB:=by
 intro c w hc
 unfold dgtB
 by_cases h1:48≤c
 ·have h1I:(48:Int)≤(c:Int):=by omega
  by_cases h2:c≤57
  ·have h2I:(c:Int)≤57:=by omega
   rw[decide_eq_true h1,decide_eq_true h2]
   go_in
   go_wp2_with fail
   go_ret
   exact ⟨rfl,rfl⟩
  have h2I:¬(c:Int)≤57:=by omega
  rw[decide_eq_true h1,decide_eq_false h2]
  go_in
  go_wp2_with fail
  go_ret
  exact ⟨rfl,rfl⟩
 have h1I:¬(48:Int)≤(c:Int):=by omega
 rw[decide_eq_false h1]
 go_in
 go_wp2_with fail
 go_ret
 exact ⟨rfl,rfl⟩
theorem letC:ByteFn 166 letB:=by
 intro c w hc
 have H1:=hide (smallC c w hc)
 have H2:=hide (capC c w hc)
 unfold letB
 cases h1:smallB c with
 |true=>
  rw[h1] at H1
  go_in
  go_wp2_with (go_at_call 167;refine (uh H1).mono ?_;rintro e w' ⟨rfl,rfl⟩)
  go_ret
  exact ⟨rfl,rfl⟩
 |false=>
  rw[h1] at H1
  generalize capB c=b at*
  go_in
  go_wp2_with fail
  refine (uh H1).mono ?_
  rintro e w' ⟨rfl,rfl⟩
  go_wp2_with fail
  refine (uh H2).mono ?_
  rintro e w'' ⟨rfl,rfl⟩
  go_wp2_with fail
  go_ret
  exact ⟨rfl,rfl⟩
open Go.RowKit Go.Maps
theorem toU8(c:Nat):(c:Int).toNat.toUInt8=c.toUInt8:=by rw[Int.toNat_natCast]
theorem modC:ByteFn 120 modB:=by
 intro c w hc
 have H1:=hide (smallC c w hc)
 have H2:=hide (digC c w hc)
 have H3:=hide (Tryz.strings_IndexByte ⟨#[46,45,95,126]⟩ (c:Int) w)
 rw[toU8] at H3
 have HI:Hid (inB ⟨#[46,45,95,126]⟩ c=decide (0≤Lib.indexByte (⟨#[46,45,95,126]⟩:ByteArray).data.toList c.toUInt8)):=rfl
 unfold modB
 generalize Lib.indexByte (⟨#[46,45,95,126]⟩:ByteArray).data.toList c.toUInt8=ix at*
 generalize inB ⟨#[46,45,95,126]⟩ c=bi at*
 have hbi:=uh HI
 subst hbi
 clear HI
 generalize smallB c=b1 at*
 generalize dgtB c=b2 at*
 cases b1 with
 |true=>
  go_in
  go_wp2_with fail
  refine (uh H1).mono ?_
  rintro e w' ⟨rfl,rfl⟩
  go_wp2_with fail
  go_ret
  exact ⟨rfl,rfl⟩
 |false=>
  cases b2 with
  |true=>
   go_in
   go_wp2_with fail
   refine (uh H1).mono ?_
   rintro e w' ⟨rfl,rfl⟩
   go_wp2_with fail
   refine (uh H2).mono ?_
   rintro e w'' ⟨rfl,rfl⟩
   go_wp2_with fail
   go_ret
   exact ⟨rfl,rfl⟩
  |false=>
   go_in
   go_wp2_with fail
   refine (uh H1).mono ?_
   rintro e w' ⟨rfl,rfl⟩
   go_wp2_with fail
   refine (uh H2).mono ?_
   rintro e w'' ⟨rfl,rfl⟩
   go_wp2_with fail
   refine (uh H3).mono ?_
   rintro e w''' ⟨rfl,rfl⟩
   go_wp2_with fail
   go_ret
   exact ⟨rfl,rfl⟩
theorem fileC:ByteFn 170 fileB:=by
 intro c w hc
 have H1:=hide (letC c w hc)
 have H2:=hide (digC c w hc)
 have H3:=hide (Tryz.strings_IndexByte ⟨#[33,35,36,37,38,40,41,43,44,45,46,61,64,91,93,94,95,123,125,126,32]⟩ (c:Int) w)
 rw[toU8] at H3
 have HI:Hid (inB ⟨#[33,35,36,37,38,40,41,43,44,45,46,61,64,91,93,94,95,123,125,126,32]⟩ c=decide (0≤Lib.indexByte (⟨#[33,35,36,37,38,40,41,43,44,45,46,61,64,91,93,94,95,123,125,126,32]⟩:ByteArray).data.toList c.toUInt8)):=rfl
 unfold fileB
 generalize Lib.indexByte (⟨#[33,35,36,37,38,40,41,43,44,45,46,61,64,91,93,94,95,123,125,126,32]⟩:ByteArray).data.toList c.toUInt8=ix at*
 generalize inB ⟨#[33,35,36,37,38,40,41,43,44,45,46,61,64,91,93,94,95,123,125,126,32]⟩ c=bi at*
 have hbi:=uh HI
 subst hbi
 clear HI
 generalize letB c=b1 at*
 generalize dgtB c=b2 at*
 cases b1 with
 |true=>
  go_in
  go_wp2_with fail
  refine (uh H1).mono ?_
  rintro e w' ⟨rfl,rfl⟩
  go_wp2_with fail
  go_ret
  exact ⟨rfl,rfl⟩
 |false=>
  cases b2 with
  |true=>
   go_in
   go_wp2_with fail
   refine (uh H1).mono ?_
   rintro e w' ⟨rfl,rfl⟩
   go_wp2_with fail
   refine (uh H2).mono ?_
   rintro e w'' ⟨rfl,rfl⟩
   go_wp2_with fail
   go_ret
   exact ⟨rfl,rfl⟩
  |false=>
   go_in
   go_wp2_with fail
   refine (uh H1).mono ?_
   rintro e w' ⟨rfl,rfl⟩
   go_wp2_with fail
   refine (uh H2).mono ?_
   rintro e w'' ⟨rfl,rfl⟩
   go_wp2_with fail
   refine (uh H3).mono ?_
   rintro e w''' ⟨rfl,rfl⟩
   go_wp2_with fail
   go_ret
   exact ⟨rfl,rfl⟩
def onlyB(p:Nat→Bool)(s:ByteArray):Bool:=(List.range s.size).all (fun i=>p (btN s i))&&decide (0<s.size)
theorem only_bad{p:Nat→Bool}{s:ByteArray}{i:Nat}(hi:i<s.size)(h:p (btN s i)=false):onlyB p s=false:=by
 unfold onlyB
 rw[Bool.and_eq_false_iff]
 left
 rw[List.all_eq_false]
 exact ⟨i,List.mem_range.2 hi,by simp[h]⟩
theorem only_good{p:Nat→Bool}{s:ByteArray}(h: ∀i,i<s.size→p (btN s i)=true):onlyB p s=decide (0<s.size):=by
 unfold onlyB
 have e:(List.range s.size).all (fun i=>p (btN s i))=true:=List.all_eq_true.2 (fun i hi=>h i (List.mem_range.1 hi))
 rw[e];rfl
theorem toList_empty(s:ByteArray):s.toList.isEmpty= !decide (0<s.size):=by
 rcases Nat.eq_zero_or_pos s.size with h|h
 ·rw[h]
  unfold ByteArray.toList ByteArray.toList.loop
  rw[if_neg (by omega)];rfl
 rw[decide_eq_true h]
 unfold ByteArray.toList ByteArray.toList.loop
 rw[if_pos h]
 have key: ∀(n i:Nat) (r:List UInt8),s.size- i=n→r≠[]→(ByteArray.toList.loop s i r).isEmpty=false:=by
  intro n
  induction n with
  |zero=>
   intro i r hn hr
   unfold ByteArray.toList.loop
   rw[if_neg (by omega)]
   cases r with
   |nil=>exact absurd rfl hr
   |cons a l=>simp
  |succ n ih=>
   intro i r hn hr
   unfold ByteArray.toList.loop
   rw[if_pos (by omega)]
   exact ih (i+1) _ (by omega) (by simp)
 exact key _ 1 _ rfl (by simp)
theorem onlyDig(s:ByteArray)(hs:s.size≤140737488355328)(w:World):
 Calls Tryz.prog 117 #[.string s,.func (.func 119) #[] #[]] w fun r w' =>r=.returned (.bool (onlyB dgtB s))∧w' =w:=by
 have HF:=hide digC
 have HB:=hide (fun i (hi:i<s.size) h=>only_bad (p:=dgtB) (s:=s) hi h)
 have HG:=hide (only_good (p:=dgtB) (s:=s))
 go_in
 go_wp2_with fail
 go_loop [5,8] (fun _ x=> ∃i:Nat,i≤s.size∧x=.int .i64 i∧Hid (∀j,j<i→dgtB (btN s j)=true)) (fun _ x=>s.size- (intOf x).toNat)
 ·exact ⟨0,by omega,rfl,fun j hj=>by omega⟩
 obtain ⟨i,hi,rfl,HI⟩:=hrel
 by_cases hlt:i<s.size
 ·have hltI:(i:Int)<(s.size:Int):=by omega
  have hbt:=btN_get (s:=s) (k:=i) hlt
  have hbl:=btN_lt s i
  have HC:=hide (uh HF (btN s i) w hbl)
  cases hp:dgtB (btN s i) with
  |true=>
   rw[hp] at HC
   have HN:Hid (∀j,j<i+1→dgtB (btN s j)=true):=fun j hj=>by
    by_cases e:j<i
    ·exact uh HI j e
    have:j=i:=by omega
    subst this;exact hp
   clear hp HB HG HF
   generalize btN s i=b at*
   go_wp2_with fail
   refine (uh HC).mono ?_
   rintro e w' ⟨rfl,rfl⟩
   go_wp2_with fail
   go_round
   ·exact ⟨i+1,by omega,by go_num,HN⟩
   case measure=>simp[intOf];omega
  |false=>
   rw[hp] at HC
   have HR:=hide (uh HB i hlt hp)
   clear hp HB HG HF
   generalize btN s i=b at*
   go_wp2_with fail
   refine (uh HC).mono ?_
   rintro e w' ⟨rfl,rfl⟩
   go_wp2_with fail
   go_ret
   exact ⟨by rw[uh HR];rfl,rfl⟩
 have hltI:¬(i:Int)<(s.size:Int):=by omega
 have HR:=hide (uh HG (fun j hj=>uh HI j (by omega)))
 have hte:=toList_empty s
 clear HB HG HF HI
 go_wp2_with fail
 go_ret
 exact ⟨by rw[uh HR];simp,rfl⟩
theorem onlyMod(s:ByteArray)(hs:s.size≤140737488355328)(w:World):
 Calls Tryz.prog 117 #[.string s,.func (.func 120) #[] #[]] w fun r w' =>r=.returned (.bool (onlyB modB s))∧w' =w:=by
 have HF:=hide modC
 have HB:=hide (fun i (hi:i<s.size) h=>only_bad (p:=modB) (s:=s) hi h)
 have HG:=hide (only_good (p:=modB) (s:=s))
 go_in
 go_wp2_with fail
 go_loop [5,8] (fun _ x=> ∃i:Nat,i≤s.size∧x=.int .i64 i∧Hid (∀j,j<i→modB (btN s j)=true)) (fun _ x=>s.size- (intOf x).toNat)
 ·exact ⟨0,by omega,rfl,fun j hj=>by omega⟩
 obtain ⟨i,hi,rfl,HI⟩:=hrel
 by_cases hlt:i<s.size
 ·have hltI:(i:Int)<(s.size:Int):=by omega
  have hbt:=btN_get (s:=s) (k:=i) hlt
  have hbl:=btN_lt s i
  have HC:=hide (uh HF (btN s i) w hbl)
  cases hp:modB (btN s i) with
  |true=>
   rw[hp] at HC
   have HN:Hid (∀j,j<i+1→modB (btN s j)=true):=fun j hj=>by
    by_cases e:j<i
    ·exact uh HI j e
    have:j=i:=by omega
    subst this;exact hp
   clear hp HB HG HF
   generalize btN s i=b at*
   go_wp2_with fail
   refine (uh HC).mono ?_
   rintro e w' ⟨rfl,rfl⟩
   go_wp2_with fail
   go_round
   ·exact ⟨i+1,by omega,by go_num,HN⟩
   case measure=>simp[intOf];omega
  |false=>
   rw[hp] at HC
   have HR:=hide (uh HB i hlt hp)
   clear hp HB HG HF
   generalize btN s i=b at*
   go_wp2_with fail
   refine (uh HC).mono ?_
   rintro e w' ⟨rfl,rfl⟩
   go_wp2_with fail
   go_ret
   exact ⟨by rw[uh HR];rfl,rfl⟩
 have hltI:¬(i:Int)<(s.size:Int):=by omega
 have HR:=hide (uh HG (fun j hj=>uh HI j (by omega)))
 have hte:=toList_empty s
 clear HB HG HF HI
 go_wp2_with fail
 go_ret
 exact ⟨by rw[uh HR];simp,rfl⟩
theorem onlyFile(s:ByteArray)(hs:s.size≤140737488355328)(w:World):
 Calls Tryz.prog 117 #[.string s,.func (.func 170) #[] #[]] w fun r w' =>r=.returned (.bool (onlyB fileB s))∧w' =w:=by
 have HF:=hide fileC
 have HB:=hide (fun i (hi:i<s.size) h=>only_bad (p:=fileB) (s:=s) hi h)
 have HG:=hide (only_good (p:=fileB) (s:=s))
 go_in
 go_wp2_with fail
 go_loop [5,8] (fun _ x=> ∃i:Nat,i≤s.size∧x=.int .i64 i∧Hid (∀j,j<i→fileB (btN s j)=true)) (fun _ x=>s.size- (intOf x).toNat)
 ·exact ⟨0,by omega,rfl,fun j hj=>by omega⟩
 obtain ⟨i,hi,rfl,HI⟩:=hrel
 by_cases hlt:i<s.size
 ·have hltI:(i:Int)<(s.size:Int):=by omega
  have hbt:=btN_get (s:=s) (k:=i) hlt
  have hbl:=btN_lt s i
  have HC:=hide (uh HF (btN s i) w hbl)
  cases hp:fileB (btN s i) with
  |true=>
   rw[hp] at HC
   have HN:Hid (∀j,j<i+1→fileB (btN s j)=true):=fun j hj=>by
    by_cases e:j<i
    ·exact uh HI j e
    have:j=i:=by omega
    subst this;exact hp
   clear hp HB HG HF
   generalize btN s i=b at*
   go_wp2_with fail
   refine (uh HC).mono ?_
   rintro e w' ⟨rfl,rfl⟩
   go_wp2_with fail
   go_round
   ·exact ⟨i+1,by omega,by go_num,HN⟩
   case measure=>simp[intOf];omega
  |false=>
   rw[hp] at HC
   have HR:=hide (uh HB i hlt hp)
   clear hp HB HG HF
   generalize btN s i=b at*
   go_wp2_with fail
   refine (uh HC).mono ?_
   rintro e w' ⟨rfl,rfl⟩
   go_wp2_with fail
   go_ret
   exact ⟨by rw[uh HR];rfl,rfl⟩
 have hltI:¬(i:Int)<(s.size:Int):=by omega
 have HR:=hide (uh HG (fun j hj=>uh HI j (by omega)))
 have hte:=toList_empty s
 clear HB HG HF HI
 go_wp2_with fail
 go_ret
 exact ⟨by rw[uh HR];simp,rfl⟩
abbrev sMod:ByteArray:=⟨#[109,46,120,47,121]⟩
abbrev sVer:ByteArray:=⟨#[118,49,46,50,46,51]⟩
abbrev sPre:ByteArray:=⟨#[109,46,120,47,121,64,118,49,46,50,46,51,47]⟩
def MaxAt(w:World):Prop:= ∃m:Int,w.cell? ⟨1,0,none⟩=some (.int .i64 m)
theorem MaxAt.old{w w' :World}(h:MaxAt w)(ho:Old w w'):MaxAt w' :=by
 obtain ⟨m,h⟩:=h
 have hl:1<w.heap.size:=by
  rcases Nat.lt_or_ge 1 w.heap.size with h1|h1
  ·exact h1
  simp[World.cell?,Array.getElem?_eq_none h1] at h
 exact ⟨m,by rw[ho.cell (p:=⟨1,0,none⟩) hl (fun x=>x)];exact h⟩
theorem isNum49(w:World):Calls Tryz.prog 75 #[.string ⟨#[49]⟩] w fun r w' =>r=.returned (.bool true)∧w' =w:=by
 have H1:=hide (onlyDig ⟨#[49]⟩ (by decide) w)
 have e:onlyB dgtB ⟨#[49]⟩=true:=by decide
 rw[e] at H1
 go_in
 go_wp2_with fail
 refine (uh H1).mono ?_
 rintro e w' ⟨rfl,rfl⟩
 go_wp2_with fail
 go_ret
 exact ⟨rfl,rfl⟩
theorem isNum50(w:World):Calls Tryz.prog 75 #[.string ⟨#[50]⟩] w fun r w' =>r=.returned (.bool true)∧w' =w:=by
 have H1:=hide (onlyDig ⟨#[50]⟩ (by decide) w)
 have e:onlyB dgtB ⟨#[50]⟩=true:=by decide
 rw[e] at H1
 go_in
 go_wp2_with fail
 refine (uh H1).mono ?_
 rintro e w' ⟨rfl,rfl⟩
 go_wp2_with fail
 go_ret
 exact ⟨rfl,rfl⟩
theorem isNum51(w:World):Calls Tryz.prog 75 #[.string ⟨#[51]⟩] w fun r w' =>r=.returned (.bool true)∧w' =w:=by
 have H1:=hide (onlyDig ⟨#[51]⟩ (by decide) w)
 have e:onlyB dgtB ⟨#[51]⟩=true:=by decide
 rw[e] at H1
 go_in
 go_wp2_with fail
 refine (uh H1).mono ?_
 rintro e w' ⟨rfl,rfl⟩
 go_wp2_with fail
 go_ret
 exact ⟨rfl,rfl⟩
theorem majorC(w:World)(hm:MaxAt w):Calls Tryz.prog 43 #[.string sVer] w fun r w' =>r=.returned (.tuple #[.string ⟨#[49]⟩,.bool true])∧Old w w' :=by
 have H1:=hide (Tryz.strings_CutPrefix sVer ⟨#[118]⟩ w)
 have e1:(⟨(Lib.trimPrefix sVer.data.toList (⟨#[118]⟩:ByteArray).data.toList).toArray⟩:ByteArray)=⟨#[49,46,50,46,51]⟩:=by decide
 have e2:Lib.hasPrefix sVer.data.toList (⟨#[118]⟩:ByteArray).data.toList=true:=by decide
 rw[e1,e2] at H1
 obtain ⟨m,hm⟩:=hm
 have H2:=hide (Tryz.strings_Cut ⟨#[49,46,50,46,51]⟩ ⟨#[45]⟩ m w (by decide) hm)
 have e3:Lib.cut (⟨#[49,46,50,46,51]⟩:ByteArray).data.toList (⟨#[45]⟩:ByteArray).data.toList=([49,46,50,46,51],[],false):=by decide
 rw[e3] at H2
 have H3:=hide (fun n=>Tryz.strings_Split ⟨#[49,46,50,46,51]⟩ ⟨#[46]⟩ m (w.drewN n) (by decide) hm (by decide))
 have e4:Lib.countB ⟨#[49,46,50,46,51]⟩ ⟨#[46]⟩=2:=by decide
 have e5:((Lib.splitB ⟨#[46]⟩ 0 2 ⟨#[49,46,50,46,51]⟩).map Value.string).toArray= #[.string ⟨#[49]⟩,.string ⟨#[50]⟩,.string ⟨#[51]⟩]:=by rfl
 simp only[e4,e5] at H3
 go_in
 go_wp2_with fail
 refine (uh H1).mono ?_
 rintro e w1 ⟨rfl,rfl⟩
 go_wp2_with fail
 refine (uh H2).mono ?_
 rintro e w2 ⟨rfl,n,rfl⟩
 go_wp2_with fail
 refine (uh H3 n).mono ?_
 rintro e w3 ⟨rfl,rfl⟩
 clear H1 H2 H3
 have HO:Hid (Old w1 ((w1.drewN n).alloc (.cells #[.string ⟨#[49]⟩,.string ⟨#[50]⟩,.string ⟨#[51]⟩] 9))):=((Only.refl _ w1).drewN n).alloc _
 have hc0:((w1.drewN n).alloc (.cells #[.string ⟨#[49]⟩,.string ⟨#[50]⟩,.string ⟨#[51]⟩] 9)).cell? ⟨(w1.drewN n).heap.size,0,none⟩=some (.string ⟨#[49]⟩):=by rw[cell_of_row _ _ 0 _ _ (0,0) (Go.heap_alloc_new _ _)];rfl
 have hc1:((w1.drewN n).alloc (.cells #[.string ⟨#[49]⟩,.string ⟨#[50]⟩,.string ⟨#[51]⟩] 9)).cell? ⟨(w1.drewN n).heap.size,1,none⟩=some (.string ⟨#[50]⟩):=by rw[cell_of_row _ _ 1 _ _ (0,0) (Go.heap_alloc_new _ _)];rfl
 have hc2:((w1.drewN n).alloc (.cells #[.string ⟨#[49]⟩,.string ⟨#[50]⟩,.string ⟨#[51]⟩] 9)).cell? ⟨(w1.drewN n).heap.size,2,none⟩=some (.string ⟨#[51]⟩):=by rw[cell_of_row _ _ 2 _ _ (0,0) (Go.heap_alloc_new _ _)];rfl
 generalize (w1.drewN n).alloc (.cells #[.string ⟨#[49]⟩,.string ⟨#[50]⟩,.string ⟨#[51]⟩] 9)=W at*
 generalize (w1.drewN n).heap.size=gW at*
 go_wp2_with fail
 go_loop [10,37] (fun _ x=> ∃i:Nat,i≤3∧x=.int .i64 i) (fun _ x=>3- (intOf x).toNat)
 ·exact ⟨0,by omega,rfl⟩
 obtain ⟨i,hi,rfl⟩:=hrel
 have hcs:i=0∨i=1∨i=2∨i=3:=by omega
 rcases hcs with rfl|rfl|rfl|rfl
 ·go_wp2_with fail
  refine (isNum49 _).mono ?_
  rintro e w' ⟨rfl,rfl⟩
  go_wp2_with fail
  go_round
  ·exact ⟨1,by omega,by go_num⟩
  simp[intOf]
 ·go_wp2_with fail
  refine (isNum50 _).mono ?_
  rintro e w' ⟨rfl,rfl⟩
  go_wp2_with fail
  go_round
  ·exact ⟨2,by omega,by go_num⟩
  simp[intOf]
 ·go_wp2_with fail
  refine (isNum51 _).mono ?_
  rintro e w' ⟨rfl,rfl⟩
  go_wp2_with fail
  go_round
  ·exact ⟨3,by omega,by go_num⟩
  simp[intOf]
 go_wp2_with fail
 go_ret2
 exact ⟨rfl,HO⟩
theorem modElem1(w:World):Calls Tryz.prog 76 #[.string ⟨#[109,46,120]⟩] w fun r w' =>r=.returned (.bool true)∧w' =w:=by
 have H1:=hide (onlyMod ⟨#[109,46,120]⟩ (by decide) w)
 have e:onlyB modB ⟨#[109,46,120]⟩=true:=by decide
 rw[e] at H1
 have H2:=hide (Tryz.strings_HasPrefix ⟨#[109,46,120]⟩ ⟨#[46]⟩ w)
 have e2:Lib.hasPrefix (⟨#[109,46,120]⟩:ByteArray).data.toList (⟨#[46]⟩:ByteArray).data.toList=false:=by decide
 rw[e2] at H2
 have H3:=hide (Tryz.strings_HasSuffix ⟨#[109,46,120]⟩ ⟨#[46]⟩ w (by decide))
 have e3:Lib.hasSuffix (⟨#[109,46,120]⟩:ByteArray).data.toList (⟨#[46]⟩:ByteArray).data.toList=false:=by decide
 rw[e3] at H3
 go_in
 go_wp2_with fail
 refine (uh H1).mono ?_
 rintro e w1 ⟨rfl,rfl⟩
 go_wp2_with fail
 refine (uh H2).mono ?_
 rintro e w2 ⟨rfl,rfl⟩
 go_wp2_with fail
 refine (uh H3).mono ?_
 rintro e w3 ⟨rfl,rfl⟩
 go_wp2_with fail
 go_ret
 exact ⟨rfl,rfl⟩
theorem modElem2(w:World):Calls Tryz.prog 76 #[.string ⟨#[121]⟩] w fun r w' =>r=.returned (.bool true)∧w' =w:=by
 have H1:=hide (onlyMod ⟨#[121]⟩ (by decide) w)
 have e:onlyB modB ⟨#[121]⟩=true:=by decide
 rw[e] at H1
 have H2:=hide (Tryz.strings_HasPrefix ⟨#[121]⟩ ⟨#[46]⟩ w)
 have e2:Lib.hasPrefix (⟨#[121]⟩:ByteArray).data.toList (⟨#[46]⟩:ByteArray).data.toList=false:=by decide
 rw[e2] at H2
 have H3:=hide (Tryz.strings_HasSuffix ⟨#[121]⟩ ⟨#[46]⟩ w (by decide))
 have e3:Lib.hasSuffix (⟨#[121]⟩:ByteArray).data.toList (⟨#[46]⟩:ByteArray).data.toList=false:=by decide
 rw[e3] at H3
 go_in
 go_wp2_with fail
 refine (uh H1).mono ?_
 rintro e w1 ⟨rfl,rfl⟩
 go_wp2_with fail
 refine (uh H2).mono ?_
 rintro e w2 ⟨rfl,rfl⟩
 go_wp2_with fail
 refine (uh H3).mono ?_
 rintro e w3 ⟨rfl,rfl⟩
 go_wp2_with fail
 go_ret
 exact ⟨rfl,rfl⟩
theorem moduleC(w:World)(hm:MaxAt w):Calls Tryz.prog 44 #[.string sMod] w fun r w' =>r=.returned (.bool true)∧Old w w' :=by
 obtain ⟨m,hm⟩:=hm
 have H3:=hide (Tryz.strings_Split sMod ⟨#[47]⟩ m w (by decide) hm (by decide))
 have e4:Lib.countB sMod ⟨#[47]⟩=1:=by decide
 have e5:((Lib.splitB ⟨#[47]⟩ 0 1 sMod).map Value.string).toArray= #[.string ⟨#[109,46,120]⟩,.string ⟨#[121]⟩]:=by rfl
 simp only[e4,e5] at H3
 have H4:=hide (fun W=>Tryz.strings_Contains_one ⟨#[109,46,120]⟩ 46 W)
 have e6:decide (0≤Lib.indexByte (⟨#[109,46,120]⟩:ByteArray).data.toList 46)=true:=by decide
 rw[e6] at H4
 clear e6 e5 e4 hm
 go_in
 go_wp2_with fail
 refine (uh H3).mono ?_
 rintro e w3 ⟨rfl,rfl⟩
 have HO:Hid (Old w (w.alloc (.cells #[.string ⟨#[109,46,120]⟩,.string ⟨#[121]⟩] 9))):=(Only.refl _ w).alloc _
 have hc0:(w.alloc (.cells #[.string ⟨#[109,46,120]⟩,.string ⟨#[121]⟩] 9)).cell? ⟨w.heap.size,0,none⟩=some (.string ⟨#[109,46,120]⟩):=by rw[cell_of_row _ _ 0 _ _ (0,0) (Go.heap_alloc_new _ _)];rfl
 have hc1:(w.alloc (.cells #[.string ⟨#[109,46,120]⟩,.string ⟨#[121]⟩] 9)).cell? ⟨w.heap.size,1,none⟩=some (.string ⟨#[121]⟩):=by rw[cell_of_row _ _ 1 _ _ (0,0) (Go.heap_alloc_new _ _)];rfl
 clear H3
 generalize w.alloc (.cells #[.string ⟨#[109,46,120]⟩,.string ⟨#[121]⟩] 9)=W at*
 generalize w.heap.size=gW at*
 go_wp2_with fail
 go_loop [5,13] (fun _ x=> ∃i:Nat,i≤2∧x=.int .i64 i) (fun _ x=>2- (intOf x).toNat)
 ·exact ⟨0,by omega,rfl⟩
 obtain ⟨i,hi,rfl⟩:=hrel
 have hcs:i=0∨i=1∨i=2:=by omega
 rcases hcs with rfl|rfl|rfl
 ·go_wp2_with fail
  refine (modElem1 _).mono ?_
  rintro e w' ⟨rfl,rfl⟩
  go_wp2_with fail
  go_round
  ·exact ⟨1,by omega,by go_num⟩
  simp[intOf]
 ·go_wp2_with fail
  refine (modElem2 _).mono ?_
  rintro e w' ⟨rfl,rfl⟩
  go_wp2_with fail
  go_round
  ·exact ⟨2,by omega,by go_num⟩
  simp[intOf]
 go_wp2_with fail
 refine (uh H4 _).mono ?_
 rintro e w' ⟨rfl,rfl⟩
 go_wp2_with fail
 go_ret
 exact ⟨rfl,HO⟩
theorem endsC(w:World):Calls Tryz.prog 45 #[.string sMod,.string ⟨#[49]⟩] w fun r w' =>r=.returned (.bool true)∧w' =w:=by
 have H1:=hide (Tryz.strings_LastIndexByte sMod 47 (by decide) w)
 have e1:Lib.lastIndexByte sMod 47=3:=by decide
 rw[e1] at H1
 have H2:Hid (Calls Tryz.prog 79 #[.string ⟨#[121]⟩] w fun r w' =>r=.returned (.bool false)∧w' =w):=by
  unfold Hid
  have H2:=hide (Tryz.strings_CutPrefix ⟨#[121]⟩ ⟨#[118]⟩ w)
  have e2:Lib.hasPrefix (⟨#[121]⟩:ByteArray).data.toList (⟨#[118]⟩:ByteArray).data.toList=false:=by decide
  rw[e2] at H2
  go_in
  go_wp2_with fail
  refine (uh H2).mono ?_
  rintro e w1 ⟨rfl,rfl⟩
  go_wp2_with fail
  go_ret
  exact ⟨rfl,rfl⟩
 have hsl: ∀W,(Instr.slice 9 (.string sMod) (some (.int .i64 4)) none none).run Tryz.prog W=.ok (.string ⟨#[121]⟩) W:=fun W=>by
  simp only[Instr.slice,Sem.run_bind,run_underlying Tryz.underlying9,Result.andThen_ok,Instr.sliceBounds,Instr.sliceBound,asIntOf,Sem.run_pure,Option.isSome_none,Bool.false_eq_true,if_false]
  rfl
 go_in
 go_wp2_with fail
 refine (uh H1).mono ?_
 rintro e w1 ⟨rfl,rfl⟩
 go_wp2_with fail
 refine (uh H2).mono ?_
 rintro e w2 ⟨rfl,rfl⟩
 go_wp2_with fail
 go_ret
 exact ⟨rfl,rfl⟩
theorem prefixC(w:World)(hm:MaxAt w):Calls Tryz.prog 26 #[.string sMod,.string sVer] w fun r w' =>r=.returned (.tuple #[.string sPre,.bool true])∧Old w w' :=by
 have H1:=hide (majorC w hm)
 have HM:=hide hm
 clear hm
 go_in
 go_wp2_with fail
 refine (uh H1).mono ?_
 rintro e w1 ⟨rfl,ho1⟩
 have H2:=hide (moduleC w1 ((uh HM).old ho1))
 have HO1:=hide ho1
 clear H1 ho1
 go_wp2_with fail
 refine (uh H2).mono ?_
 rintro e w2 ⟨rfl,ho2⟩
 have HO2:=hide (Only.trans (uh HO1) ho2)
 clear H2 ho2 HO1
 go_wp2_with fail
 refine (endsC w2).mono ?_
 rintro e w3 ⟨rfl,rfl⟩
 go_wp2_with fail
 go_ret2
 exact ⟨rfl,HO2⟩
end Go.Proofs.YtfbgamknfommpaaGreatDoor
