import Derived.Test.YtndfmgdhiallpaaGreatDoorRb
set_option maxRecDepth 100000
set_option maxHeartbeats 2000000
namespace Go.Proofs.YtndfmgdhiallpaaGreatDoor
open Go.RowKit Go.Maps
def stemR(e:ByteArray):ByteArray:=(partsR (lowP e) 46).getD 0 ⟨#[]⟩
theorem partsR_pos(s:ByteArray)(c:Nat):0<(partsR s c).length:=by simp[partsR]
theorem reservedC(s:ByteArray)(hs:s.size≤100000)(w:World):Calls Tryz.prog 337 #[.string s] w fun r w' =>r=.returned (.bool (devP (stemR s)))∧Old w w' :=by
 have H1:=hide (lowC s (by omega) w)
 have hls:=lowP_size s
 have H2:=hide (fun W=>partsC (lowP s) 46 (by omega) W)
 have HZ:Hid (stemR s=(partsR (lowP s) 46).getD 0 ⟨#[]⟩):=rfl
 have hpl:=partsR_pos (lowP s) 46
 have hpm:=partsR_len (lowP s) 46
 rw[hls] at hpm
 obtain ⟨ans,HD⟩: ∃ans,Hid (ans=devP (stemR s)):=⟨_,rfl⟩
 rw[←uh HD]
 generalize partsR (lowP s) 46=L at*
 generalize lowP s=y at*
 generalize stemR s=z at*
 go_in
 go_wp2_with fail
 refine (uh H1).mono ?_
 rintro e w1 ⟨rfl,ho1⟩
 have H3:=hide (uh H2 w1)
 have HO:=hide ho1
 clear ho1 H2 H1
 go_wp2_with fail
 refine (uh H3).mono ?_
 rintro e w2 ⟨v,rfl,hst,ho2⟩
 obtain ⟨g,cap,rfl,hc0,hgl,_⟩:=hst.cell 0 hpl
 have hzL:L[0]=z:=by rw[uh HZ,List.getD_eq_getElem?_getD,List.getElem?_eq_getElem hpl];rfl
 rw[hzL] at hc0
 have HO:=hide ((uh HO).trans ho2)
 have hplI:(0:Int)<(L.length:Int):=by omega
 clear H3 ho2 hst hzL HZ hgl
 by_cases h1:z=sCon
 ·have f1:(z.toList==[99,111,110])=true:=by rw[eqL];exact decide_eq_true h1
  have hans:ans=true:=by rw[uh HD,h1];decide
  subst hans
  clear h1
  go_wp2_with fail
  go_ret
  exact ⟨rfl,HO⟩
 have f1:(z.toList==[99,111,110])=false:=by rw[eqL];exact decide_eq_false h1
 by_cases h2:z=sPrn
 ·have f2:(z.toList==[112,114,110])=true:=by rw[eqL];exact decide_eq_true h2
  have hans:ans=true:=by rw[uh HD,h2];decide
  subst hans
  clear h1 h2
  go_wp2_with fail
  go_ret
  exact ⟨rfl,HO⟩
 have f2:(z.toList==[112,114,110])=false:=by rw[eqL];exact decide_eq_false h2
 by_cases h3:z=sAux
 ·have f3:(z.toList==[97,117,120])=true:=by rw[eqL];exact decide_eq_true h3
  have hans:ans=true:=by rw[uh HD,h3];decide
  subst hans
  clear h1 h2 h3
  go_wp2_with fail
  go_ret
  exact ⟨rfl,HO⟩
 have f3:(z.toList==[97,117,120])=false:=by rw[eqL];exact decide_eq_false h3
 by_cases h4:z=sNul
 ·have f4:(z.toList==[110,117,108])=true:=by rw[eqL];exact decide_eq_true h4
  have hans:ans=true:=by rw[uh HD,h4];decide
  subst hans
  clear h1 h2 h3 h4
  go_wp2_with fail
  go_ret
  exact ⟨rfl,HO⟩
 have f4:(z.toList==[110,117,108])=false:=by rw[eqL];exact decide_eq_false h4
 by_cases hz:z.size=4
 ·have hzI:(z.size:Int)=4:=by omega
  have hsl: ∀W,(Instr.slice 9 (.string z) none (some (.int .i64 3)) none).run Tryz.prog W=.ok (.string (z.extract 0 3)) W:=fun W=>run_slice_string_h W 9 z Tryz.underlying9 .i64 3 (by omega) (by omega)
  have h3z:3<z.size:=by omega
  have hb:=btN_get (s:=z) (k:=3) h3z
  have hbl:=btN_lt z 3
  have HD2:Hid (ans=((decide (z.extract 0 3=sCom)||decide (z.extract 0 3=sLpt))&&dgtB (btN z 3)&& !decide (btN z 3=48))):=by
   unfold Hid
   rw[uh HD,devP,decide_eq_false h1,decide_eq_false h2,decide_eq_false h3,decide_eq_false h4,decide_eq_true hz]
   simp only[Bool.or_false,Bool.false_or,Bool.true_and]
  clear HD h1 h2 h3 h4 hz
  generalize z.extract 0 3=x at*
  generalize btN z 3=c at*
  by_cases hx1:x=sCom
  ·have g1:(x.toList==[99,111,109])=true:=by rw[eqL];exact decide_eq_true hx1
   have HD3:Hid (ans=(dgtB c&& !decide (c=48))):=by unfold Hid;rw[uh HD2,decide_eq_true hx1];simp only[Bool.true_or,Bool.true_and]
   clear HD2 hx1
   by_cases h49:49≤c
   ·have h49I:(49:Int)≤(c:Int):=by omega
    by_cases h57:c≤57
    ·have h57I:(c:Int)≤57:=by omega
     have hans:ans=true:=by rw[uh HD3,dgtB,decide_eq_true (by omega:48≤c),decide_eq_true h57,decide_eq_false (by omega:¬c=48)];rfl
     subst hans
     go_wp2_with fail
     go_ret
     exact ⟨rfl,HO⟩
    have h57I:decide ((c:Int)≤57)=false:=decide_eq_false (by omega)
    have hans:ans=false:=by rw[uh HD3,dgtB,decide_eq_true (by omega:48≤c),decide_eq_false h57];rfl
    subst hans
    have H57:=hide h57I
    clear h57I
    go_wp2_with fail
    go_ret
    exact ⟨by show Ending.returned (Value.bool (decide ((c:Int)≤57)))=_;rw[uh H57],HO⟩
   have h49I:¬(49:Int)≤(c:Int):=by omega
   have hans:ans=false:=by
    rw[uh HD3,dgtB]
    by_cases h48:48≤c
    ·rw[decide_eq_true h48,decide_eq_true (by omega:c=48)];simp
    rw[decide_eq_false h48];rfl
   subst hans
   go_wp2_with fail
   go_ret
   exact ⟨rfl,HO⟩
  have g1:(x.toList==[99,111,109])=false:=by rw[eqL];exact decide_eq_false hx1
  by_cases hx2:x=sLpt
  ·have g2:(x.toList==[108,112,116])=true:=by rw[eqL];exact decide_eq_true hx2
   have HD3:Hid (ans=(dgtB c&& !decide (c=48))):=by unfold Hid;rw[uh HD2,decide_eq_true hx2];simp only[Bool.or_true,Bool.true_and]
   clear HD2 hx1 hx2
   by_cases h49:49≤c
   ·have h49I:(49:Int)≤(c:Int):=by omega
    by_cases h57:c≤57
    ·have h57I:(c:Int)≤57:=by omega
     have hans:ans=true:=by rw[uh HD3,dgtB,decide_eq_true (by omega:48≤c),decide_eq_true h57,decide_eq_false (by omega:¬c=48)];rfl
     subst hans
     go_wp2_with fail
     go_ret
     exact ⟨rfl,HO⟩
    have h57I:decide ((c:Int)≤57)=false:=decide_eq_false (by omega)
    have hans:ans=false:=by rw[uh HD3,dgtB,decide_eq_true (by omega:48≤c),decide_eq_false h57];rfl
    subst hans
    have H57:=hide h57I
    clear h57I
    go_wp2_with fail
    go_ret
    exact ⟨by show Ending.returned (Value.bool (decide ((c:Int)≤57)))=_;rw[uh H57],HO⟩
   have h49I:¬(49:Int)≤(c:Int):=by omega
   have hans:ans=false:=by
    rw[uh HD3,dgtB]
    by_cases h48:48≤c
    ·rw[decide_eq_true h48,decide_eq_true (by omega:c=48)];simp
    rw[decide_eq_false h48];rfl
   subst hans
   go_wp2_with fail
   go_ret
   exact ⟨rfl,HO⟩
  have g2:(x.toList==[108,112,116])=false:=by rw[eqL];exact decide_eq_false hx2
  have hans:ans=false:=by rw[uh HD2,decide_eq_false hx1,decide_eq_false hx2];rfl
  subst hans
  clear hx1 hx2 HD2
  go_wp2_with fail
  go_ret
  exact ⟨rfl,HO⟩
 have hzI:¬(z.size:Int)=4:=by omega
 have hans:ans=false:=by
  rw[uh HD,devP,decide_eq_false h1,decide_eq_false h2,decide_eq_false h3,decide_eq_false h4,decide_eq_false hz]
  simp only[Bool.or_false,Bool.false_and]
 subst hans
 clear h1 h2 h3 h4 HD hz
 go_wp2_with fail
 go_ret
 exact ⟨rfl,HO⟩
abbrev sMarks:ByteArray:=⟨#[33,35,36,37,38,40,41,43,44,45,46,61,64,91,93,94,95,123,125,126,32]⟩
def fileR(c:Nat):Bool:=letB c||dgtB c||hasR sMarks c
def elemR(e:ByteArray):Bool:= !decide (e.size=0)&& !decide (btN e (e.size- 1)=46)&& !decide (btN e (e.size- 1)=32)&&(List.range e.size).all (fun i=>fileR (btN e i))&& !devP (stemR e)
theorem elementC(s:ByteArray)(hs:s.size≤100000)(w:World):Calls Tryz.prog 299 #[.string s] w fun r w' =>r=.returned (.bool (elemR s))∧Old w w' :=by
 have f0:(s.toList==[])=decide (s=⟨#[]⟩):=eqL s []
 have HR:=hide (fun W=>reservedC s hs W)
 by_cases hz:s.size=0
 ·have hse:s=⟨#[]⟩:=by
   obtain ⟨d⟩:=s
   have:d= #[]:=Array.eq_empty_of_size_eq_zero hz
   rw[this]
  have hans:elemR s=false:=by rw[elemR,decide_eq_true hz];rfl
  rw[hans]
  rw[decide_eq_true hse] at f0
  clear hans hse
  go_in
  go_wp2_with fail
  go_ret
  exact ⟨rfl,Only.refl _ _⟩
 have hne:s≠⟨#[]⟩:=fun h=>hz (by rw[h];rfl)
 rw[decide_eq_false hne] at f0
 have hl:s.size- 1<s.size:=by omega
 have hlI:(s.size:Int)- 1=((s.size- 1:Nat):Int):=by omega
 have hb:=btN_get (s:=s) (k:=s.size- 1) hl
 by_cases h46:btN s (s.size- 1)=46
 ·have hans:elemR s=false:=by rw[elemR,decide_eq_true h46];simp
  rw[hans]
  rw[h46] at hb
  clear hans h46 hne
  go_in
  go_wp2_with fail
  go_ret
  exact ⟨rfl,Only.refl _ _⟩
 by_cases h32:btN s (s.size- 1)=32
 ·have hans:elemR s=false:=by rw[elemR,decide_eq_true h32];simp
  rw[hans]
  rw[h32] at hb
  clear hans h46 h32 hne
  go_in
  go_wp2_with fail
  go_ret
  exact ⟨rfl,Only.refl _ _⟩
 have h46I:((btN s (s.size- 1):Int)==46)=false:=by rw[beq_eq_false_iff_ne];omega
 have h32I:((btN s (s.size- 1):Int)==32)=false:=by rw[beq_eq_false_iff_ne];omega
 have HD:Hid (elemR s=((List.range s.size).all (fun i=>fileR (btN s i))&& !devP (stemR s))):=by
  unfold Hid
  rw[elemR,decide_eq_false hz,decide_eq_false h46,decide_eq_false h32];simp
 generalize elemR s=ans at*
 clear h46 h32 hne
 generalize hc0:btN s (s.size- 1)=c0 at*
 clear hc0
 go_in
 go_wp2_with fail
 clear hb h46I h32I hl hlI f0 hz
 go_loop [3,4] (fun x _=> ∃i:Nat,i≤s.size∧x=.int .i64 i∧Hid (∀j,j<i→fileR (btN s j)=true)) (fun x _=>s.size- (intOf x).toNat)
 ·exact ⟨0,by omega,rfl,fun j h=>by omega⟩
 obtain ⟨i,hi,rfl,HT⟩:=hrel
 by_cases hlt:i<s.size
 ·have hltI:(i:Int)<(s.size:Int):=by omega
  have hb:=btN_get (s:=s) (k:=i) hlt
  have hbl:=btN_lt s i
  have H1:=hide (fun W=>letR (btN s i) W hbl)
  have H2:=hide (fun W=>digR (btN s i) W hbl)
  have H3:=hide (fun W=>hasC sMarks (btN s i) (by decide) W)
  have HF:Hid (fileR (btN s i)=(letB (btN s i)||dgtB (btN s i)||hasR sMarks (btN s i))):=rfl
  have HT2:Hid (fileR (btN s i)=true→ ∀j,j<i+1→fileR (btN s j)=true):=fun h j hj=>by
   by_cases e:j=i
   ·rw[e];exact h
   exact uh HT j (by omega)
  have HN:Hid (fileR (btN s i)=false→ans=false):=fun h=>by
   rw[uh HD,List.all_eq_false.2 ⟨i,List.mem_range.2 hlt,by rw[h];decide⟩];rfl
  generalize fileR (btN s i)=fr at*
  generalize btN s i=c at*
  generalize hasR sMarks c=b3 at*
  cases h1:letB c with
  |true=>
   rw[h1] at H1 HF
   have HT2:=hide (uh HT2 (by rw[uh HF];rfl))
   go_wp2_with fail
   refine (uh H1 _).mono ?_
   rintro e w1 ⟨rfl,rfl⟩
   go_wp2_with fail
   go_round
   ·exact ⟨i+1,by omega,by go_num,HT2⟩
   case measure=>simp[intOf];omega
  |false=>
   rw[h1] at H1 HF
   cases h2:dgtB c with
   |true=>
    rw[h2] at H2 HF
    have HT2:=hide (uh HT2 (by rw[uh HF];rfl))
    go_wp2_with fail
    refine (uh H1 _).mono ?_
    rintro e w1 ⟨rfl,rfl⟩
    go_wp2_with fail
    refine (uh H2 _).mono ?_
    rintro e w1 ⟨rfl,rfl⟩
    go_wp2_with fail
    go_round
    ·exact ⟨i+1,by omega,by go_num,HT2⟩
    case measure=>simp[intOf];omega
   |false=>
    rw[h2] at H2 HF
    cases b3 with
    |true=>
     have HT2:=hide (uh HT2 (by rw[uh HF];rfl))
     go_wp2_with fail
     refine (uh H1 _).mono ?_
     rintro e w1 ⟨rfl,rfl⟩
     go_wp2_with fail
     refine (uh H2 _).mono ?_
     rintro e w1 ⟨rfl,rfl⟩
     go_wp2_with fail
     refine (uh H3 _).mono ?_
     rintro e w1 ⟨rfl,rfl⟩
     go_wp2_with fail
     go_round
     ·exact ⟨i+1,by omega,by go_num,HT2⟩
     case measure=>simp[intOf];omega
    |false=>
     have hans:ans=false:=uh HN (by rw[uh HF];rfl)
     clear HN HT2
     subst hans
     go_wp2_with fail
     refine (uh H1 _).mono ?_
     rintro e w1 ⟨rfl,rfl⟩
     go_wp2_with fail
     refine (uh H2 _).mono ?_
     rintro e w1 ⟨rfl,rfl⟩
     go_wp2_with fail
     refine (uh H3 _).mono ?_
     rintro e w1 ⟨rfl,rfl⟩
     go_wp2_with fail
     go_ret
     exact ⟨rfl,Only.refl _ _⟩
 have hltI:¬(i:Int)<(s.size:Int):=by omega
 have HA:Hid (ans= !devP (stemR s)):=by
  unfold Hid
  rw[uh HD,List.all_eq_true.2 (fun j hj=>uh HT j (by have:=List.mem_range.1 hj;omega))];rfl
 generalize devP (stemR s)=d at*
 clear HD
 go_wp2_with fail
 refine (uh HR _).mono ?_
 rintro e w1 ⟨rfl,ho⟩
 have HO:=hide ho
 clear ho
 go_wp2_with fail
 go_ret
 exact ⟨by rw[uh HA];rfl,uh HO⟩
theorem pst_mem{s:ByteArray}{c i:Nat}{x:ByteArray}(h:x∈(pst s c i).1):x.size≤s.size:=by
 induction i with
 |zero=>cases h
 |succ i ih=>
  rw[pst] at h
  split at h
  ·rcases List.mem_append.1 h with h|h
   ·exact ih h
   rw[List.mem_singleton] at h;rw[h];exact ext_le _ _ _
  exact ih h
theorem partsR_mem{s:ByteArray}{c:Nat}{x:ByteArray}(h:x∈partsR s c):x.size≤s.size:=by
 rcases List.mem_append.1 h with h|h
 ·exact pst_mem h
 rw[List.mem_singleton] at h;rw[h];exact ext_le _ _ _
def nameR(s:ByteArray):Bool:=decide (s.size≤80)&&(partsR s 47).all elemR
theorem fileNameC(s:ByteArray)(hs:s.size≤2000000)(w:World):Calls Tryz.prog 215 #[.string s] w fun r w' =>r=.returned (.bool (nameR s))∧Old w w' :=by
 by_cases h80:s.size≤80
 ·have h80I:¬(80:Int)<(s.size:Int):=by omega
  have HD:Hid (nameR s=(partsR s 47).all elemR):=by unfold Hid;rw[nameR,decide_eq_true h80];rfl
  have H1:=hide (partsC s 47 hs w)
  have HM:Hid (∀x∈partsR s 47,x.size≤100000):=fun x hx=>by have:=partsR_mem hx;omega
  have hll:=partsR_len s 47
  generalize nameR s=ans at*
  generalize partsR s 47=L at*
  go_in
  go_wp2_with fail
  refine (uh H1).mono ?_
  rintro e w1 ⟨v,rfl,hst,ho⟩
  have HS:=hide hst
  have HO:=hide ho
  obtain ⟨ao,cap,hv,_,_⟩:=hst
  subst hv
  clear ho H1
  go_wp2_with fail
  go_loopw [4,5] (fun x _ wr=> ∃i:Nat,i≤L.length∧x=.int .i64 i∧Hid (Strs w wr (.slice ao L.length cap) L)∧Hid (Old w wr)∧Hid (∀j (h:j<L.length),j<i→elemR L[j]=true)) (fun x _ _=>L.length- (intOf x).toNat)
  ·exact ⟨0,by omega,rfl,HS,HO,fun j _ h=>by omega⟩
  obtain ⟨i,hi,rfl,HS,HO,HT⟩:=hrel
  by_cases hlt:i<L.length
  ·have hltI:(i:Int)<(L.length:Int):=by omega
   obtain ⟨g,cp,hv,hc,_⟩:=(uh HS).cell i hlt
   injection hv with hv1 hv2 hv3
   subst hv1 hv3
   have H2:=hide (fun W=>elementC L[i] (uh HM _ (List.getElem_mem hlt)) W)
   have HT2:Hid (elemR L[i]=true→ ∀j (h:j<L.length),j<i+1→elemR L[j]=true):=fun h j hj hji=>by
    by_cases e:j=i
    ·subst e;exact h
    exact uh HT j hj (by omega)
   have HN:Hid (elemR L[i]=false→ans=false):=fun h=>by
    rw[uh HD];exact List.all_eq_false.2 ⟨L[i],List.getElem_mem hlt,by rw[h];decide⟩
   generalize elemR L[i]=b at*
   generalize L[i]=z at*
   cases b with
   |true=>
    have HT3:=hide (uh HT2 rfl)
    clear HT2
    go_wp2_with fail
    refine (uh H2 _).mono ?_
    rintro e w2 ⟨rfl,ho2⟩
    have HS2:=hide ((uh HS).old ho2)
    have HO2:=hide ((uh HO).trans ho2)
    clear ho2
    go_wp2_with fail
    go_roundw
    ·exact ⟨i+1,by omega,by go_num,HS2,HO2,HT3⟩
    case measure=>simp[intOf];omega
   |false=>
    have hans:=uh HN rfl
    subst hans
    go_wp2_with fail
    refine (uh H2 _).mono ?_
    rintro e w2 ⟨rfl,ho2⟩
    have HO2:=hide ((uh HO).trans ho2)
    clear ho2
    go_wp2_with fail
    go_ret
    exact ⟨rfl,uh HO2⟩
  have hltI:¬(i:Int)<(L.length:Int):=by omega
  have hans:ans=true:=by
   rw[uh HD,List.all_eq_true]
   intro x hx
   obtain ⟨j,hj,rfl⟩:=List.getElem_of_mem hx
   exact uh HT j hj (by omega)
  subst hans
  go_wp2_with fail
  go_ret
  exact ⟨rfl,uh HO⟩
 have h80I:(80:Int)<(s.size:Int):=by omega
 have hans:nameR s=false:=by rw[nameR,decide_eq_false h80];rfl
 rw[hans]
 clear hans
 go_in
 go_wp2_with fail
 go_ret
 exact ⟨rfl,Only.refl _ _⟩
def hidR(s:ByteArray):Bool:=((partsR s 47).take ((partsR s 47).length- 1)).any keepP
theorem hiddenC(s:ByteArray)(hs:s.size≤2000000)(w:World):Calls Tryz.prog 289 #[.string s] w fun r w' =>r=.returned (.bool (hidR s))∧Old w w' :=by
 have HD:Hid (hidR s=((partsR s 47).take ((partsR s 47).length- 1)).any keepP):=rfl
 have H1:=hide (partsC s 47 hs w)
 have hll:=partsR_len s 47
 have hlp:=partsR_pos s 47
 generalize hidR s=ans at*
 generalize partsR s 47=L at*
 go_in
 go_wp2_with fail
 refine (uh H1).mono ?_
 rintro e w1 ⟨v,rfl,hst,ho⟩
 have HS:=hide hst
 have HO:=hide ho
 obtain ⟨ao,cap,hv,_,_⟩:=hst
 subst hv
 clear ho H1
 go_wp2_with fail
 go_loop [4] (fun x=> ∃i:Nat,i≤L.length- 1∧x=.int .i64 i∧Hid (∀j (h:j<L.length),j<i→keepP L[j]=false)) (fun x=>L.length- 1- (intOf x).toNat)
 ·exact ⟨0,by omega,rfl,fun j _ h=>by omega⟩
 obtain ⟨i,hi,rfl,HT⟩:=hrel
 by_cases hlt:i+1<L.length
 ·have hltI:(i:Int)+1<(L.length:Int):=by omega
  have hil:i<L.length:=by omega
  have hilI:(i:Int)<(L.length:Int):=by omega
  obtain ⟨g,cp,hv,hc,_⟩:=(uh HS).cell i hil
  injection hv with hv1 hv2 hv3
  subst hv1 hv3
  have HT2:Hid (keepP L[i]=false→ ∀j (h:j<L.length),j<i+1→keepP L[j]=false):=fun h j hj hji=>by
   by_cases e:j=i
   ·subst e;exact h
   exact uh HT j hj (by omega)
  have HN:Hid (keepP L[i]=true→ans=true):=fun h=>by
   rw[uh HD];exact List.any_eq_true.2 ⟨L[i],List.mem_take_iff_getElem.2 ⟨i,by omega,rfl⟩,h⟩
  generalize L[i]=z at*
  by_cases h1:z=sBzr
  ·have f1:(z.toList==[46,98,122,114])=true:=by rw[eqL];exact decide_eq_true h1
   have hans:ans=true:=uh HN (by rw[h1];decide)
   subst hans
   clear h1 HT2 HN
   go_wp2_with fail
   go_ret
   exact ⟨rfl,uh HO⟩
  have f1:(z.toList==[46,98,122,114])=false:=by rw[eqL];exact decide_eq_false h1
  by_cases h2:z=sGit
  ·have f2:(z.toList==[46,103,105,116])=true:=by rw[eqL];exact decide_eq_true h2
   have hans:ans=true:=uh HN (by rw[h2];decide)
   subst hans
   clear h1 h2 HT2 HN
   go_wp2_with fail
   go_ret
   exact ⟨rfl,uh HO⟩
  have f2:(z.toList==[46,103,105,116])=false:=by rw[eqL];exact decide_eq_false h2
  by_cases h3:z=sHg
  ·have f3:(z.toList==[46,104,103])=true:=by rw[eqL];exact decide_eq_true h3
   have hans:ans=true:=uh HN (by rw[h3];decide)
   subst hans
   clear h1 h2 h3 HT2 HN
   go_wp2_with fail
   go_ret
   exact ⟨rfl,uh HO⟩
  have f3:(z.toList==[46,104,103])=false:=by rw[eqL];exact decide_eq_false h3
  by_cases h4:z=sSvn
  ·have f4:(z.toList==[46,115,118,110])=true:=by rw[eqL];exact decide_eq_true h4
   have hans:ans=true:=uh HN (by rw[h4];decide)
   subst hans
   clear h1 h2 h3 h4 HT2 HN
   go_wp2_with fail
   go_ret
   exact ⟨rfl,uh HO⟩
  have f4:(z.toList==[46,115,118,110])=false:=by rw[eqL];exact decide_eq_false h4
  have HT3:=hide (uh HT2 (by rw[keepP,decide_eq_false h1,decide_eq_false h2,decide_eq_false h3,decide_eq_false h4];rfl))
  clear h1 h2 h3 h4 HT2 HN
  go_wp2_with fail
  go_round
  ·exact ⟨i+1,by omega,by go_num,HT3⟩
  case measure=>simp[intOf];omega
 have hltI:¬(i:Int)+1<(L.length:Int):=by omega
 have hans:ans=false:=by
  rw[uh HD,List.any_eq_false]
  intro x hx
  obtain ⟨j,hj,rfl⟩:=List.mem_take_iff_getElem.1 hx
  rw[uh HT j (by omega) (by omega)]
  decide
 subst hans
 go_wp2_with fail
 go_ret
 exact ⟨rfl,uh HO⟩
end Go.Proofs.YtndfmgdhiallpaaGreatDoor
