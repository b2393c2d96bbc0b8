import Derived.Test.YtndfmgdhiallpaaGreatDoorJa
import Derived.Test.YtndfmgdhiallpaaGreatDoorMr
import Derived.Test.YtndfmgdhiallpaaGreatDoorJc
set_option maxRecDepth 100000
set_option maxHeartbeats 2000000
namespace Go.Proofs.YtndfmgdhiallpaaGreatDoor
open Go.RowKit
def lowU(c:UInt8):UInt8:=if capB c.toNat then b8 (c.toNat+32) else c
def lowP(s:ByteArray):ByteArray:=⟨(s.data.toList.map lowU).toArray⟩
theorem lowP_size(s:ByteArray):(lowP s).size=s.size:=by
 show ((s.data.toList.map lowU).toArray).size=s.data.size
 rw[List.size_toArray,List.length_map,Array.length_toList]
def mixL(l:List UInt8)(i:Nat):List UInt8:=(l.take i).map lowU++l.drop i
theorem mixL_len(l:List UInt8)(i:Nat):(mixL l i).length=l.length:=by simp[mixL];omega
theorem mixL_zero(l:List UInt8):mixL l 0=l:=by simp[mixL]
theorem mixL_all(l:List UInt8)(n:Nat)(h:n=l.length):mixL l n=l.map lowU:=by subst h;simp[mixL]
theorem mixL_q(l:List UInt8)(i j:Nat)(h:i≤l.length):(mixL l i)[j]? =if j<i then (l[j]?).map lowU else l[j]? :=by
 unfold mixL
 rw[List.getElem?_append,List.length_map,List.length_take,Nat.min_eq_left h,List.getElem?_map,List.getElem?_drop]
 by_cases e:j<i
 ·rw[if_pos e,if_pos e,List.getElem?_take,if_pos e]
 rw[if_neg e,if_neg e,show i+(j- i)=j by omega]
theorem mixL_get(l:List UInt8)(i:Nat)(h:i<l.length)(h2:i<(mixL l i).length):(mixL l i)[i]=l[i]:=by
 have:=mixL_q l i i (by omega)
 rw[if_neg (by omega),List.getElem?_eq_getElem h2,List.getElem?_eq_getElem h] at this
 exact Option.some.inj this
theorem mixL_succ(l:List UInt8)(i:Nat)(h:i<l.length):mixL l (i+1)=(mixL l i).set i (lowU l[i]):=by
 apply List.ext_getElem?
 intro j
 rw[mixL_q l (i+1) j (by omega),List.getElem?_set,mixL_len,mixL_q l i j (by omega)]
 by_cases e:i=j
 ·subst e
  rw[if_pos (by omega),if_pos rfl,if_pos h,List.getElem?_eq_getElem h];rfl
 rw[if_neg e]
 by_cases e2:j<i
 ·rw[if_pos (by omega),if_pos e2]
 rw[if_neg (by omega),if_neg e2]
theorem smallA(s:ByteArray)(hs:s.size≤140737488355328)(w:World):Calls Tryz.prog 250 #[.string s] w fun r w' =>r=.returned (.string (lowP s))∧Old w w' :=by
 have hcb:=Lib.run_convert_string_bytes (P:=Tryz.prog) w 9 62 5 s Tryz.underlying9 Tryz.underlying62 Tryz.underlying5
 have HR:Hid (SRow (Lib.bytesWorld w 5 s) w.heap.size (mixL s.data.toList 0)):=by rw[mixL_zero];exact SRow.made w s
 have HO:=hide (bytesWorld_only w s)
 have HL:Hid (s.data.toList.length=s.size):=by unfold Hid;simp
 have HG:Hid (w.heap.size≤w.heap.size):=Nat.le_refl _
 have HE:Hid (∀l:List UInt8,l=s.data.toList→lowP s=⟨(l.map lowU).toArray⟩):=by intro l e;subst e;rfl
 generalize hl:s.data.toList=l at*
 generalize lowP s=z at*
 have HE:=hide (uh HE l rfl)
 generalize s.size=n at*
 generalize Lib.bytesWorld w 5 s=W at*
 generalize grownCap w n 0 5=cap at*
 generalize hg:w.heap.size=g at*
 have HG:Hid (w.heap.size≤g):=by unfold Hid;omega
 clear hg hl
 go_in
 go_wp2_with fail
 clear hcb
 go_loopw [4,5,10] (fun _ _ x wr=> ∃i:Nat,i≤n∧x=.int .i64 i∧Hid (SRow wr g (mixL l i))∧Hid (Old w wr)) (fun _ _ x _=>n- (intOf x).toNat)
 ·exact ⟨0,by omega,rfl,HR,HO⟩
 obtain ⟨i,hi,rfl,HR,HO⟩:=hrel
 by_cases hlt:i<n
 ·have hltI:(i:Int)<(n:Int):=by omega
  have hil:i<l.length:=by have:=uh HL;omega
  have hil2:i<(mixL l i).length:=by rw[mixL_len];exact hil
  have hc:=(uh HR).cell i hil2
  have hf:=(uh HR).thaw i hil2
  rw[mixL_get l i hil hil2] at hc
  have hc8:(l[i]).toNat<256:=(l[i]).toNat_lt
  have HN:=hide (mixL_succ l i hil)
  have HC:=hide (capC (l[i]).toNat wr hc8)
  have HD:Hid (lowU l[i]=if capB (l[i]).toNat then b8 ((l[i]).toNat+32) else l[i]):=rfl
  have HGet:=hide (mixL_get l i hil hil2)
  cases hcap:capB (l[i]).toNat with
  |true=>
   rw[hcap] at HC HD
   simp only[if_true] at HD
   have hb:65≤(l[i]).toNat∧(l[i]).toNat≤90:=by simpa [capB] using hcap
   have HS:=hide ((uh HR).set i (b8 ((l[i]).toNat+32)))
   rw[b8_toNat (by omega)] at HS
   rw[uh HD] at HN
   rw[←uh HN] at HS
   have HO2:Hid (Old w (wr.setCell ⟨g,i,none⟩ (.int .u8 (((l[i]).toNat+32:Nat):Int)))):=(uh HO).setCell (p:=⟨g,i,none⟩) (fun h=>absurd h (by have:=uh HG;show ¬g<_;omega)) _
   have e3:((l[i]).toNat:Int)- 65+97=(((l[i]).toNat+32:Nat):Int):=by omega
   clear HN HD HGet hil2
   generalize (l[i]).toNat=c at*
   have hcI:(65:Int)≤(c:Int):=by omega
   have hcJ:(c:Int)≤90:=by omega
   generalize ((c+32:Nat):Int)=c2 at*
   go_wp2_with fail
   refine (uh HC).mono ?_
   rintro e w' ⟨rfl,rfl⟩
   go_wp2_with fail
   go_roundw
   ·exact ⟨i+1,by omega,by go_num,HS,HO2⟩
   case measure=>simp[intOf];omega
  |false=>
   rw[hcap] at HC HD
   simp only[Bool.false_eq_true,if_false] at HD
   rw[uh HD] at HN
   have HS:Hid (SRow wr g (mixL l (i+1))):=by
    rw[uh HN]
    have:(mixL l i).set i l[i]=mixL l i:=by rw[←mixL_get l i hil hil2];exact List.set_getElem_self _
    rw[this];exact HR
   clear HN HD HGet hil2
   generalize (l[i]).toNat=c at*
   go_wp2_with fail
   refine (uh HC).mono ?_
   rintro e w' ⟨rfl,rfl⟩
   go_wp2_with fail
   go_roundw
   ·exact ⟨i+1,by omega,by go_num,HS,HO⟩
   case measure=>simp[intOf];omega
 have hltI:¬(i:Int)<(n:Int):=by omega
 have hin:i=n:=by omega
 subst hin
 have hback:(convert 62 9 (.slice (some ⟨g,0,none⟩) i cap)).run Tryz.prog wr=.ok (.string z) wr:=by
  have h:=(uh HR).back (cap:=cap)
  rw[mixL_len,uh HL,mixL_all l i (uh HL).symm] at h
  rw[uh HE];exact h
 go_wp2_with fail
 go_ret
 exact ⟨rfl,HO⟩
open Go.RowKit Go.Maps
abbrev sCon:ByteArray:=⟨#[99,111,110]⟩
abbrev sPrn:ByteArray:=⟨#[112,114,110]⟩
abbrev sAux:ByteArray:=⟨#[97,117,120]⟩
abbrev sNul:ByteArray:=⟨#[110,117,108]⟩
abbrev sCom:ByteArray:=⟨#[99,111,109]⟩
abbrev sLpt:ByteArray:=⟨#[108,112,116]⟩
def stemP(e:ByteArray):ByteArray:=⟨(Lib.cut (lowP e).data.toList [46]).1.toArray⟩
def devP(z:ByteArray):Bool:=(decide (z=sCon)||decide (z=sPrn)||decide (z=sAux)||decide (z=sNul))||(decide (z.size=4)&&(decide (z.extract 0 3=sCom)||decide (z.extract 0 3=sLpt))&&dgtB (btN z 3)&& !decide (btN z 3=48))
def resP(e:ByteArray):Bool:=devP (stemP e)
def elemP(e:ByteArray):Bool:=onlyB fileB e&& !Lib.hasSuffix e.data.toList [46]&& !Lib.hasSuffix e.data.toList [32]&& !resP e
def partsP(s:ByteArray):List ByteArray:=Lib.splitB ⟨#[47]⟩ 0 (Lib.countB s ⟨#[47]⟩) s
def fileP(s:ByteArray):Bool:=decide (s.size≤80)&&(partsP s).all elemP
theorem eqL(z:ByteArray)(l:List UInt8):(z.toList==l)=decide (z=⟨l.toArray⟩):=by
 rw[Lib.toList_data]
 by_cases h:z=⟨l.toArray⟩
 ·subst h;simp
 rw[decide_eq_false h]
 simp only[beq_eq_false_iff_ne,ne_eq]
 intro e
 exact h (ByteArray.ext (Array.toList_inj.1 (by simpa using e)))
theorem reservedA(s:ByteArray)(hs:s.size≤100000)(w:World)(hm:MaxAt w):Calls Tryz.prog 275 #[.string s] w fun r w' =>r=.returned (.bool (resP s))∧Old w w' :=by
 have H1:=hide (smallA s (by omega) w)
 have hls:=lowP_size s
 have HD:Hid (resP s=devP (stemP s)):=rfl
 have H2:Hid (∀W,MaxAt W→ ∃y b,Calls Tryz.prog 162 #[.string (lowP s),.string ⟨#[46]⟩] W fun e w' =>e=.returned (.tuple #[.string (stemP s),.string y,.bool b])∧ ∃n,w' =W.drewN n):=by
  intro W ⟨m,hW⟩
  exact ⟨_,_,Tryz.strings_Cut (lowP s) ⟨#[46]⟩ m W (by omega) hW⟩
 generalize resP s=ans at*
 generalize lowP s=y at*
 generalize stemP s=z at*
 go_in
 go_wp2_with fail
 refine (uh H1).mono ?_
 rintro e w1 ⟨rfl,ho1⟩
 obtain ⟨y2,b2,H3⟩:=uh H2 w1 (hm.old ho1)
 have H3:=hide H3
 have HO:=hide ho1
 clear ho1 H2 H1 hm hls
 go_wp2_with fail
 refine (uh H3).mono ?_
 rintro e w2 ⟨rfl,n,rfl⟩
 have HO:=hide ((uh HO).drewN n)
 clear H3
 by_cases h1:z=sCon
 ·have f1:(z.toList==[99,111,110])=true:=by rw[eqL];exact decide_eq_true h1
  have hans:ans=true:=by rw[uh HD,h1];decide
  subst hans
  clear h1
  go_wp2_with fail
  go_ret
  exact ⟨rfl,HO⟩
 have f1:(z.toList==[99,111,110])=false:=by rw[eqL];exact decide_eq_false h1
 by_cases h2:z=sPrn
 ·have f2:(z.toList==[112,114,110])=true:=by rw[eqL];exact decide_eq_true h2
  have hans:ans=true:=by rw[uh HD,h2];decide
  subst hans
  clear h1 h2
  go_wp2_with fail
  go_ret
  exact ⟨rfl,HO⟩
 have f2:(z.toList==[112,114,110])=false:=by rw[eqL];exact decide_eq_false h2
 by_cases h3:z=sAux
 ·have f3:(z.toList==[97,117,120])=true:=by rw[eqL];exact decide_eq_true h3
  have hans:ans=true:=by rw[uh HD,h3];decide
  subst hans
  clear h1 h2 h3
  go_wp2_with fail
  go_ret
  exact ⟨rfl,HO⟩
 have f3:(z.toList==[97,117,120])=false:=by rw[eqL];exact decide_eq_false h3
 by_cases h4:z=sNul
 ·have f4:(z.toList==[110,117,108])=true:=by rw[eqL];exact decide_eq_true h4
  have hans:ans=true:=by rw[uh HD,h4];decide
  subst hans
  clear h1 h2 h3 h4
  go_wp2_with fail
  go_ret
  exact ⟨rfl,HO⟩
 have f4:(z.toList==[110,117,108])=false:=by rw[eqL];exact decide_eq_false h4
 by_cases hz:z.size=4
 ·have hzI:(z.size:Int)=4:=by omega
  have hsl: ∀W,(Instr.slice 9 (.string z) none (some (.int .i64 3)) none).run Tryz.prog W=.ok (.string (z.extract 0 3)) W:=fun W=>run_slice_string_h W 9 z Tryz.underlying9 .i64 3 (by omega) (by omega)
  have h3z:3<z.size:=by omega
  have hb:=btN_get (s:=z) (k:=3) h3z
  have hbl:=btN_lt z 3
  have HC:=hide (fun W=>digC (btN z 3) W hbl)
  have HD2:Hid (ans=((decide (z.extract 0 3=sCom)||decide (z.extract 0 3=sLpt))&&dgtB (btN z 3)&& !decide (btN z 3=48))):=by
   unfold Hid
   rw[uh HD,devP,decide_eq_false h1,decide_eq_false h2,decide_eq_false h3,decide_eq_false h4,decide_eq_true hz]
   simp only[Bool.or_false,Bool.false_or,Bool.true_and]
  clear HD h1 h2 h3 h4 hz
  generalize z.extract 0 3=x at*
  generalize btN z 3=c at*
  by_cases hx1:x=sCom
  ·have g1:(x.toList==[99,111,109])=true:=by rw[eqL];exact decide_eq_true hx1
   have HD3:Hid (ans=(dgtB c&& !decide (c=48))):=by unfold Hid;rw[uh HD2,decide_eq_true hx1];simp only[Bool.true_or,Bool.true_and]
   clear HD2 hx1
   cases hdg:dgtB c with
   |false=>
    have hans:ans=false:=by rw[uh HD3,hdg];rfl
    subst hans
    rw[hdg] at HC
    go_wp2_with fail
    refine (uh HC _).mono ?_
    rintro e w3 ⟨rfl,rfl⟩
    go_wp2_with fail
    go_ret
    exact ⟨rfl,HO⟩
   |true=>
    rw[hdg] at HC
    have HA:Hid (ans= !decide (c=48)):=by unfold Hid;rw[uh HD3,hdg];rfl
    clear HD3
    by_cases h48:c=48
    ·have hans:ans=false:=by rw[uh HA,decide_eq_true h48];rfl
     subst hans
     clear HA
     subst h48
     go_wp2_with fail
     refine (uh HC _).mono ?_
     rintro e w3 ⟨rfl,rfl⟩
     go_wp2_with fail
     go_ret
     exact ⟨rfl,HO⟩
    have hans:ans=true:=by rw[uh HA,decide_eq_false h48];rfl
    subst hans
    clear HA
    have h48I:((c:Int) !=48)=true:=by rw[bne_iff_ne];omega
    go_wp2_with fail
    refine (uh HC _).mono ?_
    rintro e w3 ⟨rfl,rfl⟩
    go_wp2_with fail
    go_ret
    exact ⟨rfl,HO⟩
  have g1:(x.toList==[99,111,109])=false:=by rw[eqL];exact decide_eq_false hx1
  by_cases hx2:x=sLpt
  ·have g2:(x.toList==[108,112,116])=true:=by rw[eqL];exact decide_eq_true hx2
   have HD3:Hid (ans=(dgtB c&& !decide (c=48))):=by unfold Hid;rw[uh HD2,decide_eq_true hx2];simp only[Bool.or_true,Bool.true_and]
   clear HD2 hx1 hx2
   cases hdg:dgtB c with
   |false=>
    have hans:ans=false:=by rw[uh HD3,hdg];rfl
    subst hans
    rw[hdg] at HC
    go_wp2_with fail
    refine (uh HC _).mono ?_
    rintro e w3 ⟨rfl,rfl⟩
    go_wp2_with fail
    go_ret
    exact ⟨rfl,HO⟩
   |true=>
    rw[hdg] at HC
    have HA:Hid (ans= !decide (c=48)):=by unfold Hid;rw[uh HD3,hdg];rfl
    clear HD3
    by_cases h48:c=48
    ·have hans:ans=false:=by rw[uh HA,decide_eq_true h48];rfl
     subst hans
     clear HA
     subst h48
     go_wp2_with fail
     refine (uh HC _).mono ?_
     rintro e w3 ⟨rfl,rfl⟩
     go_wp2_with fail
     go_ret
     exact ⟨rfl,HO⟩
    have hans:ans=true:=by rw[uh HA,decide_eq_false h48];rfl
    subst hans
    clear HA
    have h48I:((c:Int) !=48)=true:=by rw[bne_iff_ne];omega
    go_wp2_with fail
    refine (uh HC _).mono ?_
    rintro e w3 ⟨rfl,rfl⟩
    go_wp2_with fail
    go_ret
    exact ⟨rfl,HO⟩
  have g2:(x.toList==[108,112,116])=false:=by rw[eqL];exact decide_eq_false hx2
  have hans:ans=false:=by rw[uh HD2,decide_eq_false hx1,decide_eq_false hx2];rfl
  subst hans
  clear hx1 hx2 HD2
  go_wp2_with fail
  go_ret
  exact ⟨rfl,HO⟩
 have hzI:¬(z.size:Int)=4:=by omega
 have hans:ans=false:=by
  rw[uh HD,devP,decide_eq_false h1,decide_eq_false h2,decide_eq_false h3,decide_eq_false h4,decide_eq_false hz]
  simp only[Bool.or_false,Bool.false_and]
 subst hans
 clear h1 h2 h3 h4 HD hz
 go_wp2_with fail
 go_ret
 exact ⟨rfl,HO⟩
theorem elementA(s:ByteArray)(hs:s.size≤100000)(w:World)(hm:MaxAt w):Calls Tryz.prog 175 #[.string s] w fun r w' =>r=.returned (.bool (elemP s))∧Old w w' :=by
 have H1:=hide (onlyFile s (by omega) w)
 have H2:=hide (Tryz.strings_HasSuffix s ⟨#[46]⟩ w (by omega))
 have H3:=hide (Tryz.strings_HasSuffix s ⟨#[32]⟩ w (by omega))
 have H4:=hide (reservedA s hs w hm)
 have HD:Hid (elemP s=(onlyB fileB s&& !Lib.hasSuffix s.data.toList (⟨#[46]⟩:ByteArray).data.toList&& !Lib.hasSuffix s.data.toList (⟨#[32]⟩:ByteArray).data.toList&& !resP s)):=rfl
 generalize elemP s=ans at*
 generalize onlyB fileB s=b1 at*
 generalize Lib.hasSuffix s.data.toList (⟨#[46]⟩:ByteArray).data.toList=b2 at*
 generalize Lib.hasSuffix s.data.toList (⟨#[32]⟩:ByteArray).data.toList=b3 at*
 generalize resP s=b4 at*
 clear hm
 cases b1 with
 |false=>
  have hans:ans=false:=by rw[uh HD];rfl
  subst hans
  go_in
  go_wp2_with fail
  refine (uh H1).mono ?_
  rintro e w1 ⟨rfl,rfl⟩
  go_wp2_with fail
  go_ret
  exact ⟨rfl,Only.refl _ _⟩
 |true=>
 cases b2 with
 |true=>
  have hans:ans=false:=by rw[uh HD];rfl
  subst hans
  go_in
  go_wp2_with fail
  refine (uh H1).mono ?_
  rintro e w1 ⟨rfl,rfl⟩
  go_wp2_with fail
  refine (uh H2).mono ?_
  rintro e w2 ⟨rfl,rfl⟩
  go_wp2_with fail
  go_ret
  exact ⟨rfl,Only.refl _ _⟩
 |false=>
 cases b3 with
 |true=>
  have hans:ans=false:=by rw[uh HD];rfl
  subst hans
  go_in
  go_wp2_with fail
  refine (uh H1).mono ?_
  rintro e w1 ⟨rfl,rfl⟩
  go_wp2_with fail
  refine (uh H2).mono ?_
  rintro e w2 ⟨rfl,rfl⟩
  go_wp2_with fail
  refine (uh H3).mono ?_
  rintro e w3 ⟨rfl,rfl⟩
  go_wp2_with fail
  go_ret
  exact ⟨rfl,Only.refl _ _⟩
 |false=>
  have hans:ans= !b4:=by rw[uh HD];rfl
  subst hans
  clear HD
  go_in
  go_wp2_with fail
  refine (uh H1).mono ?_
  rintro e w1 ⟨rfl,rfl⟩
  go_wp2_with fail
  refine (uh H2).mono ?_
  rintro e w2 ⟨rfl,rfl⟩
  go_wp2_with fail
  refine (uh H3).mono ?_
  rintro e w3 ⟨rfl,rfl⟩
  go_wp2_with fail
  refine (uh H4).mono ?_
  rintro e w4 ⟨rfl,ho4⟩
  have HO:=hide ho4
  clear ho4 H4
  go_wp2_with fail
  go_ret
  exact ⟨rfl,HO⟩
theorem partsP_len(s:ByteArray):(partsP s).length=Lib.countB s ⟨#[47]⟩+1:=Lib.splitB_all _ (by decide) _ _ _ rfl
def Strs(w0 w:World)(v:Value)(l:List ByteArray):Prop:= ∃ao cap,v=.slice ao l.length cap∧w.ownsRow 0 9 1 v l.length (l.map Value.string)∧ ∀b,v.ownBlock=some b→w0.heap.size≤b
theorem Strs.old{w0 w w' :World}{v:Value}{l:List ByteArray}(h:Strs w0 w v l)(ho:Old w w'):Strs w0 w' v l:=by
 obtain ⟨ao,cap,e,how,hb⟩:=h
 exact ⟨ao,cap,e,own_old how ho,hb⟩
theorem Strs.kept{w0 w w' :World}{v:Value}{l:List ByteArray}{S:Nat→Prop}(h:Strs w0 w v l)(ho:Only S w w')(hS: ∀b,w0.heap.size≤b→¬S b):Strs w0 w' v l:=by
 obtain ⟨ao,cap,e,how,hb⟩:=h
 exact ⟨ao,cap,e,own_kept how ho (fun b hv x=>hS b (hb b hv) x),hb⟩
theorem Strs.cell{w0 w:World}{v:Value}{l:List ByteArray}(h:Strs w0 w v l)(i:Nat)(hi:i<l.length): ∃g cap,v=.slice (some ⟨g,0,none⟩) l.length cap∧w.cell? ⟨g,i,none⟩=some (.string l[i])∧g<w.heap.size∧w0.heap.size≤g:=by
 obtain ⟨ao,cap,e,how,hb⟩:=h
 obtain ⟨hl,h|⟨b',cap',cur,hv,h1,hg,r⟩⟩:=how
 ·obtain ⟨_,h0⟩:=h;omega
 rw[e] at hv
 injection hv with hv1 hv2 hv3
 subst hv1 hv3
 have how2:w.ownsRow 0 9 1 v l.length (l.map Value.string):=⟨hl,.inr ⟨b',cap,cur,e,h1,hg,r⟩⟩
 refine ⟨b',cap,e, ?_,(Array.getElem?_eq_some_iff.1 hg).1,hb b' (by rw[e];rfl)⟩
 have:=how2.cells (g:=b') (by rw[e];rfl) i (.string l[i]) (by simp[hi])
 rw[Addr.add_lit,Nat.zero_add] at this
 exact this
theorem Strs.more{w0 w w3:World}{v:Value}{l:List ByteArray}{x:ByteArray}{g cap:Nat}(h:Strs w0 w v l)(ho:Old w0 w)(h3:w3.ownsRow 0 9 1 (.slice (some ⟨g,0,none⟩) (l.length+1) cap) (l.length+1) (l.map Value.string++[.string x]))(hg:(w.alloc (.cells #[.string x] 9)).grownBy w3 v.ownBlock)(hl:v.ownBlock=some g∨g=w.heap.size+1):
 Strs w0 w3 (.slice (some ⟨g,0,none⟩) (l.length+1) cap) (l++[x])∧Old w0 w3:=by
 obtain ⟨ao,cap0,e,how,hb⟩:=h
 refine ⟨⟨some ⟨g,0,none⟩,cap,by simp,by simpa using h3,fun b hv=> ?_⟩, ?_⟩
 ·have:g=b:=Option.some.inj (show some g=some b from hv)
  subst this
  rcases hl with h|h
  ·exact hb g h
  rw[h];have:=ho.size;omega
 exact (ho.alloc _).grown hg (fun k hk e2=>by have:=hb k e2;omega)
def folP(s:ByteArray)(n:Nat):List ByteArray:=((List.range n).filter (fun i=>btN s i==47)).map (fun i=>s.extract 0 i)
theorem folP_hit(s:ByteArray)(i:Nat)(h:btN s i=47):folP s (i+1)=folP s i++[s.extract 0 i]:=by
 simp[folP,List.range_succ,List.filter_append,h]
theorem folP_miss(s:ByteArray)(i:Nat)(h:btN s i≠47):folP s (i+1)=folP s i:=by
 simp[folP,List.range_succ,List.filter_append,h]
theorem folP_len(s:ByteArray)(n:Nat):(folP s n).length≤n:=by
 have:=List.length_filter_le (fun i=>btN s i==47) (List.range n)
 simp only[List.length_range] at this
 simpa [folP] using this
def begP(s:ByteArray):List ByteArray:=folP s s.size++[s]
theorem begP_len(s:ByteArray):(begP s).length≤s.size+1:=by have:=folP_len s s.size;simp[begP];omega
theorem foldersA(s:ByteArray)(hs:s.size≤1000)(w:World):Calls Tryz.prog 312 #[.string s] w fun r w' => ∃v,r=.returned v∧Strs w w' v (folP s s.size)∧Old w w' :=by
 obtain ⟨i0,hi0,hz0,hz1,hz2⟩:=info_parts infoS9
 have H0:Hid (Strs w w (.slice none 0 0) (folP s 0)):=⟨none,0,rfl,World.ownsRow_nil w 0 9 1,fun b h=>by cases h⟩
 have HO:=hide (Only.refl (fun _=>False) w)
 go_in
 go_wp2_with fail
 go_loopw [3,4,7] (fun u _ x wr=> ∃i:Nat,i≤s.size∧x=.int .i64 i∧Hid (Strs w wr u (folP s i))∧Hid (Old w wr)) (fun _ _ x _=>s.size- (intOf x).toNat)
 ·exact ⟨0,by omega,rfl,H0,HO⟩
 obtain ⟨i,hi,rfl,HS,HO⟩:=hrel
 clear H0
 by_cases hlt:i<s.size
 ·have hltI:(i:Int)<(s.size:Int):=by omega
  have hb:=btN_get (s:=s) (k:=i) hlt
  have hbl:=btN_lt s i
  by_cases h47:btN s i=47
  ·have hsl: ∀W,(Instr.slice 9 (.string s) none (some (.int .i64 (i:Int))) none).run Tryz.prog W=.ok (.string (s.extract 0 i)) W:=fun W=>run_slice_string_h W 9 s Tryz.underlying9 .i64 i (by omega) (by omega)
   have HN:=hide (folP_hit s i h47)
   have hfl:=folP_len s i
   rw[h47] at hb
   have HMO:=hide (fun w3 g cap=>Strs.more (w3:=w3) (x:=s.extract 0 i) (g:=g) (cap:=cap) (uh HS) (uh HO))
   obtain ⟨ao,cp,hue,how,_⟩:=uh HS
   subst hue
   have HOW:=hide (own_old how ((Only.refl (fun _=>False) wr).alloc (.cells #[.string (s.extract 0 i)] 9)))
   have HNW:=hide (new_cells wr [.string (s.extract 0 i)] 9)
   clear how
   generalize s.extract 0 i=z at*
   generalize folP s i=L at*
   go_wp2_with (at_builtin;refine wpList_append_lies _ rfl (.tmp 14) (.tmp 18) 45 rfl 0 9 i0 (.string ⟨#[]⟩) 1 16 Tryz.underlying45 hi0 hz0 hz1 hz2 rfl (by omega) (.slice ao L.length cp) L.length _ rfl (uh HOW) ⟨wr.heap.size,0,none⟩ 1 1 [.string z] rfl rfl (uh HNW) (by intro u hu;simp at hu;subst hu;rfl) (by omega) (by unfold maxLen;omega) (by omega) (by omega) (wr.heap.size+1) (by simp) ?_;intro gb cap2 w3 ho3 hg3 hl3 hlt3;have HX:=hide (uh HMO w3 gb cap2 ho3 hg3 hl3);clear ho3 hg3 hl3 hlt3)
   go_roundw
   ·exact ⟨i+1,by omega,by go_num,by rw[uh HN];exact (uh HX).1,(uh HX).2⟩
   case measure=>simp[intOf];omega
  have HN:=hide (folP_miss s i h47)
  have h47I:¬((btN s i:Int)=47):=by omega
  go_wp2_with fail
  go_roundw
  ·exact ⟨i+1,by omega,by go_num,by rw[uh HN];exact HS,HO⟩
  case measure=>simp[intOf];omega
 have hltI:¬(i:Int)<(s.size:Int):=by omega
 have hie:i=s.size:=by omega
 subst hie
 go_wp2_with fail
 go_ret
 exact ⟨_,rfl,HS,HO⟩
theorem beginningsA(s:ByteArray)(hs:s.size≤1000)(w:World):Calls Tryz.prog 249 #[.string s] w fun r w' => ∃v,r=.returned v∧Strs w w' v (begP s)∧Old w w' :=by
 obtain ⟨i0,hi0,hz0,hz1,hz2⟩:=info_parts infoS9
 have hfl:=folP_len s s.size
 have HB:Hid (begP s=folP s s.size++[s]):=rfl
 go_in
 go_wp2_with fail
 refine (foldersA s hs w).mono ?_
 rintro e w1 ⟨v1,rfl,hS,hO⟩
 have HMO:=hide (fun w3 g cap=>Strs.more (w3:=w3) (x:=s) (g:=g) (cap:=cap) hS hO)
 obtain ⟨ao,cp,hue,how,_⟩:=hS
 subst hue
 have HOW:=hide (own_old how ((Only.refl (fun _=>False) w1).alloc (.cells #[.string s] 9)))
 have HNW:=hide (new_cells w1 [.string s] 9)
 clear how hO
 generalize folP s s.size=L at*
 go_wp2_with (at_builtin;refine wpList_append_lies _ rfl (.tmp 4) (.tmp 6) 45 rfl 0 9 i0 (.string ⟨#[]⟩) 1 16 Tryz.underlying45 hi0 hz0 hz1 hz2 rfl (by omega) (.slice ao L.length cp) L.length _ rfl (uh HOW) ⟨w1.heap.size,0,none⟩ 1 1 [.string s] rfl rfl (uh HNW) (by intro u hu;simp at hu;subst hu;rfl) (by omega) (by unfold maxLen;omega) (by omega) (by omega) (w1.heap.size+1) (by simp) ?_;intro gb cap2 w3 ho3 hg3 hl3 hlt3;have HX:=hide (uh HMO w3 gb cap2 ho3 hg3 hl3);clear ho3 hg3 hl3 hlt3)
 go_ret
 exact ⟨_,rfl,by rw[uh HB];exact (uh HX).1,(uh HX).2⟩
def spElem:Value→Option (DataW Unit×List MemPlace)
 | .agg a=>match a.toList with
  |[.string s,.bool b]=>some (.agg [.lit (.string s.data.toList),.lit (.bool b)],[])
  |_=>none
 |_=>none
abbrev spD(s:ByteArray)(b:Bool):DataW Unit:=.agg [.lit (.string s.data.toList),.lit (.bool b)]
theorem spElem_mk(s:ByteArray)(b:Bool):spElem (.agg #[.string s,.bool b])=some (spD s b,[]):=rfl
theorem spElem_inv{v:Value}{s:ByteArray}{b:Bool}{ps:List MemPlace}(h:spElem v=some (spD s b,ps)):v=.agg #[.string s,.bool b]:=by
 unfold spElem at h
 split at h
 ·rename_i a
  split at h
  ·rename_i s' b' ha
   simp only[Option.some.injEq,Prod.mk.injEq,DataW.agg.injEq,List.cons.injEq,DataW.lit.injEq,Lit.string.injEq,Lit.bool.injEq] at h
   obtain ⟨⟨h1,h2,_⟩,_⟩:=h
   have e1:s' =s:=ByteArray.ext (Array.toList_inj.1 h1)
   subst e1 h2
   have:a= #[.string s',.bool b']:=by rw[←Array.toList_inj,ha]
   rw[this]
  cases h
 cases h
abbrev Tab:=ByteArray→Option (ByteArray×Bool)
def putT(f:Tab)(k:ByteArray)(x:ByteArray×Bool):Tab:=fun r=>if r=k then some x else f r
def MetAt(w:World)(gm n:Nat)(f:Tab):Prop:= ∃D:DataW Unit,w.ownsMap Tryz.prog 9 spElem gm n D∧ ∀r:ByteArray,has D (.string r.data.toList)=(f r).isSome∧ ∀x,f r=some x→ ∀z,D.atKey (.string r.data.toList) z=spD x.1 x.2
theorem MetAt.lt{w:World}{gm n:Nat}{f:Tab}(h:MetAt w gm n f):gm<w.heap.size:=by obtain ⟨D,h,_⟩:=h;exact h.lt
theorem MetAt.kept{w w' :World}{gm n:Nat}{f:Tab}{S:Nat→Prop}(h:MetAt w gm n f)(ho:Only S w w')(hs:¬S gm):MetAt w' gm n f:=by
 have hl:=h.lt
 obtain ⟨D,⟨es,clock,hm,r⟩,h2⟩:=h
 exact ⟨D,⟨es,clock,(ho.block gm hl hs).trans hm,r⟩,h2⟩
theorem MetAt.old{w w' :World}{gm n:Nat}{f:Tab}(h:MetAt w gm n f)(ho:Old w w'):MetAt w' gm n f:=h.kept ho (fun x=>x)
theorem MetAt.made(w:World):MetAt (w.alloc (.map #[] 0)) w.heap.size 0 (fun _=>none):=
 ⟨_,World.ownsMap_made w Tryz.prog 9 spElem,fun _=>⟨rfl,fun _ h=>by cases h⟩⟩
theorem MetAt.mono{w:World}{gm n m:Nat}{f:Tab}(h:MetAt w gm n f)(hn:n≤m):MetAt w gm m f:=by
 obtain ⟨D,h1,h2⟩:=h
 exact ⟨D,h1.mono hn,h2⟩
theorem MetAt.look{w:World}{gm n:Nat}{f:Tab}(h:MetAt w gm n f)(r:ByteArray)(hr:r.size≤maxLen):(Instr.lookup metT (.map (some gm)) (.string r) true).run Tryz.prog w=.ok (.tuple #[.agg #[.string ((f r).getD (⟨#[]⟩,false)).1,.bool ((f r).getD (⟨#[]⟩,false)).2],.bool (f r).isSome]) w:=by
 obtain ⟨D,h1,h2⟩:=h
 obtain ⟨v,ps,hrun,hv⟩:=h1.look_ok strKeyed Tryz.underlying120 (zeroSp w) (spElem_mk ⟨#[]⟩ false) (key9 r hr)
 have h3:=h2 r
 cases hf:f r with
 |none=>
  rw[hf] at h3
  have h4:has D (.string r.data.toList)=false:=h3.1
  rw[atKey_of_not_has h4] at hv
  rw[hrun,h4,spElem_inv hv]
  rfl
 |some x=>
  rw[hf] at h3
  have h4:has D (.string r.data.toList)=true:=h3.1
  rw[h3.2 x rfl] at hv
  rw[hrun,h4,spElem_inv hv]
  rfl
theorem MetAt.put{w:World}{gm n:Nat}{f:Tab}(h:MetAt w gm n f)(r:ByteArray)(hr:r.size≤maxLen)(hn:n<maxLen)(s:ByteArray)(b:Bool): ∃w',(Instr.mapUpdate metT (.map (some gm)) (.string r) (.agg #[.string s,.bool b])).run Tryz.prog w=.ok () w' ∧MetAt w' gm (n+1) (putT f r (s,b))∧Only (fun k=>k=gm) w w' :=by
 obtain ⟨D,h1,h2⟩:=h
 obtain ⟨w2,hrun,hown2,hg2⟩:=h1.update strKeyed Tryz.underlying120 hn (key9 r hr) (spElem_mk s b)
 refine ⟨w2,hrun,⟨_,hown2,fun q=> ?_⟩,(Only.refl _ w).grown hg2 (fun k _ e=>(Option.some.inj e).symm)⟩
 unfold putT
 by_cases e:q=r
 ·subst e
  rw[if_pos rfl,has_put_same h1.isMap (keyL _)]
  refine ⟨rfl,fun x hx z=> ?_⟩
  rw[atKey_put_same h1.isMap (keyL _)]
  injection hx with hx
  subst hx;rfl
 have hne:=lit_ne (show q≠r from e)
 rw[if_neg e,has_put_other hne]
 refine ⟨(h2 q).1,fun x hx z=> ?_⟩
 rw[atKey_put_other hne]
 exact (h2 q).2 x hx z
def clashB(f:Tab)(s b:ByteArray):Bool:=(f (lowP b)).isSome&&(decide (((f (lowP b)).getD (⟨#[]⟩,false)).1≠b)||((f (lowP b)).getD (⟨#[]⟩,false)).2||decide (b=s))
def clashP(f:Tab)(s:ByteArray):Bool:=(begP s).any (clashB f s)
def addP(f:Tab)(s:ByteArray):Tab:=(begP s).foldl (fun f b=>putT f (lowP b) (b,decide (b=s))) f
abbrev sGo:ByteArray:=⟨#[103,111,46,109,111,100]⟩
abbrev sLic:ByteArray:=⟨#[76,73,67,69,78,83,69]⟩
theorem eqS(a b:ByteArray):(a.toList==b.toList)=decide (a=b):=by
 rw[Lib.toList_data b];exact eqL a _
theorem ext_le(s:ByteArray)(a b:Nat):(s.extract a b).size≤s.size:=by rw[ByteArray.size_extract];omega
theorem splitB_le(sep:ByteArray): ∀(k:Nat) (s x:ByteArray),x∈Lib.splitB sep 0 k s→x.size≤s.size
 |0,s,x,h=>by
  rw[Lib.splitB_zero] at h
  rw[List.mem_singleton] at h;subst h;exact Nat.le_refl _
 |k+1,s,x,h=>by
  unfold Lib.splitB at h
  split at h
  ·rw[List.mem_singleton] at h;subst h;exact Nat.le_refl _
  rcases List.mem_cons.1 h with h|h
  ·subst h;exact ext_le _ _ _
  exact Nat.le_trans (splitB_le sep k _ x h) (ext_le _ _ _)
theorem partsP_le{s x:ByteArray}(h:x∈partsP s):x.size≤s.size:=splitB_le _ _ _ _ h
theorem splitA(s:ByteArray)(hs:s.size≤2000000)(w:World)(hm:MaxAt w):Calls Tryz.prog 103 #[.string s,.string ⟨#[47]⟩] w fun r w' =>r=.returned (.slice (some ⟨w.heap.size,0,none⟩) (partsP s).length (partsP s).length)∧Old w w' ∧w.heap.size<w'.heap.size∧ ∀i (h:i<(partsP s).length),w'.cell? ⟨w.heap.size,i,none⟩=some (.string (partsP s)[i]):=by
 obtain ⟨m,hm⟩:=hm
 refine (Tryz.strings_Split s ⟨#[47]⟩ m w (by omega) hm (by decide)).mono ?_
 rintro e w' ⟨rfl,rfl⟩
 refine ⟨by rw[partsP_len],(Only.refl _ w).alloc _,by rw[World.size_alloc];omega,fun i h2=> ?_⟩
 rw[cell_of_row _ _ i _ _ (0,0) (Go.heap_alloc_new _ _)]
 have:((partsP s).map Value.string).toArray[i]? =some (.string (partsP s)[i]):=by simp[h2]
 exact this
theorem isFileA(s:ByteArray)(hs:s.size≤140737488355328)(w:World)(hm:MaxAt w):Calls Tryz.prog 93 #[.string s] w fun r w' =>r=.returned (.bool (fileP s))∧Old w w' :=by
 by_cases h80:s.size≤80
 ·have h80I:¬(80:Int)<(s.size:Int):=by omega
  have H1:=hide (splitA s (by omega) w hm)
  have HM:=hide hm
  have HD:Hid (fileP s=(partsP s).all elemP):=by unfold Hid;rw[fileP,decide_eq_true h80,Bool.true_and]
  have hpl:(partsP s).length≤100:=by
   rw[partsP_len]
   have:=Lib.countB_le ⟨#[47]⟩ (by decide) s.size s (Nat.le_refl _)
   omega
  have HL:Hid (∀x∈partsP s,x.size≤100000):=fun x hx=>by have:=partsP_le hx;omega
  generalize fileP s=ans at*
  generalize partsP s=L at*
  clear hm
  go_in
  go_wp2_with fail
  refine (uh H1).mono ?_
  rintro e W ⟨rfl,ho,hlt,hc⟩
  have HO:=hide ho
  have HC:=hide hc
  have HM:=hide ((uh HM).old ho)
  have HLT:=hide hlt
  clear ho hc hlt H1
  generalize w.heap.size=g at*
  go_wp2_with fail
  go_loopw [4,11] (fun _ x wr=> ∃i:Nat,i≤L.length∧x=.int .i64 i∧Hid (Old W wr)∧Hid (∀j (h:j<L.length),j<i→elemP L[j]=true)) (fun _ x _=>L.length- (intOf x).toNat)
  ·exact ⟨0,by omega,rfl,Only.refl _ _,fun j _ h=>by omega⟩
  obtain ⟨i,hi,rfl,HW,HT⟩:=hrel
  by_cases hil:i<L.length
  ·have hilI:(i:Int)<(L.length:Int):=by omega
   have hcr:wr.cell? ⟨g,i,none⟩=some (.string L[i]):=((uh HW).cell (p:=⟨g,i,none⟩) (uh HLT) (fun x=>x)).trans (uh HC i hil)
   have HE:=hide (elementA L[i] (uh HL _ (List.getElem_mem hil)) wr ((uh HM).old (uh HW)))
   cases hel:elemP L[i] with
   |true=>
    rw[hel] at HE
    have HT' :Hid (∀j (h:j<L.length),j<i+1→elemP L[j]=true):=by
     intro j h h2
     by_cases e:j=i
     ·subst e;exact hel
     exact uh HT j h (by omega)
    clear hel
    generalize L[i]=z at*
    go_wp2_with fail
    refine (uh HE).mono ?_
    rintro e w' ⟨rfl,ho'⟩
    have HW' :=hide (Only.trans (uh HW) ho')
    clear ho' HE HW
    go_wp2_with fail
    go_roundw
    ·exact ⟨i+1,by omega,by go_num,HW',HT'⟩
    case measure=>simp[intOf];omega
   |false=>
    rw[hel] at HE
    have hans:ans=false:=by
     rw[uh HD,List.all_eq_false]
     exact ⟨L[i],List.getElem_mem hil,by rw[hel];exact fun h=>by cases h⟩
    subst hans
    clear hel
    generalize L[i]=z at*
    go_wp2_with fail
    refine (uh HE).mono ?_
    rintro e w' ⟨rfl,ho'⟩
    have HW' :=hide (Only.trans (uh HO) (Only.trans (uh HW) ho'))
    clear ho' HE HW
    go_wp2_with fail
    go_ret
    exact ⟨rfl,HW'⟩
  have hilI:¬(i:Int)<(L.length:Int):=by omega
  have hans:ans=true:=by
   rw[uh HD,List.all_eq_true]
   intro x hx
   obtain ⟨j,hj,rfl⟩:=List.getElem_of_mem hx
   exact uh HT j hj (by omega)
  subst hans
  have HW' :=hide (Only.trans (uh HO) (uh HW))
  go_wp2_with fail
  go_ret
  exact ⟨rfl,HW'⟩
 have h80I:(80:Int)<(s.size:Int):=by omega
 have hans:fileP s=false:=by rw[fileP,decide_eq_false h80,Bool.false_and]
 rw[hans]
 clear hans
 go_in
 go_wp2_with fail
 go_ret
 exact ⟨rfl,Only.refl _ _⟩
theorem otherA(s:ByteArray)(hs:s.size≤140737488355328)(w:World):Calls Tryz.prog 155 #[.string s] w fun r w' =>r=.returned (.bool (decide (s≠sGo)&&decide (lowP s=sGo)))∧Old w w' :=by
 have f1:(s.toList==[103,111,46,109,111,100])=decide (s=sGo):=eqL s _
 by_cases h:s=sGo
 ·rw[decide_eq_true h] at f1
  have hans:(decide (s≠sGo)&&decide (lowP s=sGo))=false:=by rw[decide_eq_false (fun x=>x h)];rfl
  rw[hans]
  clear hans h
  go_in
  go_wp2_with fail
  go_ret
  exact ⟨rfl,Only.refl _ _⟩
 rw[decide_eq_false h] at f1
 have hans:(decide (s≠sGo)&&decide (lowP s=sGo))=decide (lowP s=sGo):=by rw[decide_eq_true h];rfl
 rw[hans]
 have f2:((lowP s).toList==[103,111,46,109,111,100])=decide (lowP s=sGo):=eqL (lowP s) _
 have H1:=hide (smallA s hs w)
 generalize decide (lowP s=sGo)=b at*
 generalize lowP s=y at*
 clear hans h
 go_in
 go_wp2_with fail
 refine (uh H1).mono ?_
 rintro e w1 ⟨rfl,ho1⟩
 have HO:=hide ho1
 clear ho1 H1
 go_wp2_with fail
 go_ret
 exact ⟨rfl,HO⟩
def mostP(s:ByteArray):Nat:=if s=sGo∨s=sLic then 500 else 4000
theorem mostA(s:ByteArray)(w:World):Calls Tryz.prog 156 #[.string s] w fun r w' =>r=.returned (.int .i64 (mostP s))∧w' =w:=by
 have f1:(s.toList==[103,111,46,109,111,100])=decide (s=sGo):=eqL s _
 have f2:(s.toList==[76,73,67,69,78,83,69])=decide (s=sLic):=eqL s _
 by_cases h1:s=sGo
 ·rw[decide_eq_true h1] at f1
  have hans:mostP s=500:=if_pos (.inl h1)
  rw[hans]
  clear hans h1 f2
  go_in
  go_wp2_with fail
  go_ret
  exact ⟨rfl,rfl⟩
 rw[decide_eq_false h1] at f1
 by_cases h2:s=sLic
 ·rw[decide_eq_true h2] at f2
  have hans:mostP s=500:=if_pos (.inr h2)
  rw[hans]
  clear hans h1 h2
  go_in
  go_wp2_with fail
  go_ret
  exact ⟨rfl,rfl⟩
 rw[decide_eq_false h2] at f2
 have hans:mostP s=4000:=if_neg (fun h=>h.elim h1 h2)
 rw[hans]
 clear hans h1 h2
 go_in
 go_wp2_with fail
 go_ret
 exact ⟨rfl,rfl⟩
theorem clashesA(s:ByteArray)(hs:s.size≤1000)(gm n:Nat)(f:Tab)(w:World)(hg:MetAt w gm n f):Calls Tryz.prog 154 #[.map (some gm),.string s] w fun r w' =>r=.returned (.bool (clashP f s))∧Old w w' :=by
 have HG:=hide hg
 have H1:=hide (beginningsA s hs w)
 have HD:Hid (clashP f s=(begP s).any (clashB f s)):=rfl
 have hbl:=begP_len s
 have HB:Hid (∀x∈begP s,x.size≤1000):=fun x hx=>by
  rcases List.mem_append.1 hx with h|h
  ·obtain ⟨i,_,rfl⟩:=List.mem_map.1 h
   exact Nat.le_trans (ext_le _ _ _) hs
  rw[List.mem_singleton] at h;subst h;exact hs
 generalize clashP f s=ans at*
 generalize begP s=L at*
 have hLl:L.length≤1001:=by omega
 clear hg hbl
 go_in
 go_wp2_with fail
 refine (uh H1).mono ?_
 rintro e W ⟨v,rfl,hS,hO⟩
 have HS:=hide hS
 have HO:=hide hO
 obtain ⟨ao,cap,hv,_⟩:=hS
 subst hv
 clear hO H1
 go_wp2_with fail
 go_loopw [6,7,8,12] (fun _ _ _ x wr=> ∃i:Nat,i≤L.length∧x=.int .i64 i∧Hid (Old W wr)∧Hid (∀j (h:j<L.length),j<i→clashB f s L[j]=false)) (fun _ _ _ x _=>L.length- (intOf x).toNat)
 ·exact ⟨0,by omega,rfl,Only.refl _ _,fun j _ h=>by omega⟩
 obtain ⟨i,hi,rfl,HW,HT⟩:=hrel
 by_cases hil:i<L.length
 ·have hilI:(i:Int)<(L.length:Int):=by omega
  obtain ⟨g,cap2,hv2,hcell,hgl,_⟩:=((uh HS).old (uh HW)).cell i hil
  injection hv2 with hv3 hv4 hv5
  subst hv3
  clear hv5 hv4
  have HSm:=hide (smallA L[i] (by have:=uh HB _ (List.getElem_mem hil);omega) wr)
  have HLK:Hid (∀W',Old wr W' →(Instr.lookup metT (.map (some gm)) (.string (lowP L[i])) true).run Tryz.prog W' =.ok (.tuple #[.agg #[.string ((f (lowP L[i])).getD (⟨#[]⟩,false)).1,.bool ((f (lowP L[i])).getD (⟨#[]⟩,false)).2],.bool (f (lowP L[i])).isSome]) W'):=fun W' ho=>by
   refine MetAt.look (((uh HG).old (uh HO)).old (Only.trans (uh HW) ho)) _ ?_
   rw[lowP_size];have:=uh HB _ (List.getElem_mem hil);unfold maxLen;omega
  have HCB:Hid (clashB f s L[i]=((f (lowP L[i])).isSome&&(decide (((f (lowP L[i])).getD (⟨#[]⟩,false)).1≠L[i])||((f (lowP L[i])).getD (⟨#[]⟩,false)).2||decide (L[i]=s)))):=rfl
  have HANY:Hid (clashB f s L[i]=true→ans=true):=fun h=>by
   rw[uh HD,List.any_eq_true];exact ⟨_,List.getElem_mem hil,h⟩
  have HT' :Hid (clashB f s L[i]=false→ ∀j (h:j<L.length),j<i+1→clashB f s L[j]=false):=fun hel j h h2=>by
   by_cases e:j=i
   ·subst e;exact hel
   exact uh HT j h (by omega)
  clear HT
  generalize clashB f s L[i]=cb at*
  generalize (f (lowP L[i])).isSome=b1 at*
  generalize ((f (lowP L[i])).getD (⟨#[]⟩,false)).2=b2 at*
  generalize ((f (lowP L[i])).getD (⟨#[]⟩,false)).1=z1 at*
  generalize lowP L[i]=y at*
  generalize L[i]=z at*
  have e1:(z1.toList==z.toList)=decide (z1=z):=eqS z1 z
  have e2:(z.toList==s.toList)=decide (z=s):=eqS z s
  cases b1 with
  |false=>
   have HT' :=hide (uh HT' (by rw[uh HCB];rfl))
   clear HCB HANY
   go_wp2_with fail
   refine (uh HSm).mono ?_
   rintro e w' ⟨rfl,ho'⟩
   have hlk:=uh HLK w' ho'
   have HOA:Hid (∀o,Old W (w'.alloc o)):=fun o=>(Only.trans (uh HW) ho').alloc o
   clear ho' HSm HLK
   go_wp2_with fail
   go_roundw
   ·exact ⟨i+1,by omega,by go_num,uh HOA _,HT'⟩
   case measure=>simp[intOf];omega
  |true=>
   by_cases hz:z1=z
   ·rw[decide_eq_true hz] at e1
    have hne:decide (z1≠z)=false:=decide_eq_false (fun h=>h hz)
    cases b2 with
    |true=>
     have hans:ans=true:=uh HANY (by rw[uh HCB,hne];rfl)
     subst hans
     clear HCB HANY HT' hne hz
     go_wp2_with fail
     refine (uh HSm).mono ?_
     rintro e w' ⟨rfl,ho'⟩
     have hlk:=uh HLK w' ho'
     have HOA:Hid (∀o,Old W (w'.alloc o)):=fun o=>(Only.trans (uh HW) ho').alloc o
     clear ho' HSm HLK
     go_wp2_with fail
     go_ret
     exact ⟨rfl,Only.trans (uh HO) (uh HOA _)⟩
    |false=>
     by_cases hzs:z=s
     ·rw[decide_eq_true hzs] at e2
      have hans:ans=true:=uh HANY (by rw[uh HCB,hne,decide_eq_true hzs];rfl)
      subst hans
      clear HCB HANY HT' hne hz hzs
      go_wp2_with fail
      refine (uh HSm).mono ?_
      rintro e w' ⟨rfl,ho'⟩
      have hlk:=uh HLK w' ho'
      have HOA:Hid (∀o,Old W (w'.alloc o)):=fun o=>(Only.trans (uh HW) ho').alloc o
      clear ho' HSm HLK
      go_wp2_with fail
      go_ret
      exact ⟨rfl,Only.trans (uh HO) (uh HOA _)⟩
     rw[decide_eq_false hzs] at e2
     have HT' :=hide (uh HT' (by rw[uh HCB,hne,decide_eq_false hzs];rfl))
     clear HCB HANY hne hz hzs
     go_wp2_with fail
     refine (uh HSm).mono ?_
     rintro e w' ⟨rfl,ho'⟩
     have hlk:=uh HLK w' ho'
     have HOA:Hid (∀o,Old W (w'.alloc o)):=fun o=>(Only.trans (uh HW) ho').alloc o
     clear ho' HSm HLK
     go_wp2_with fail
     go_roundw
     ·exact ⟨i+1,by omega,by go_num,uh HOA _,HT'⟩
     case measure=>simp[intOf];omega
   rw[decide_eq_false hz] at e1
   have hne:decide (z1≠z)=true:=decide_eq_true hz
   have hans:ans=true:=uh HANY (by rw[uh HCB,hne];rfl)
   subst hans
   clear HCB HANY HT' hne hz
   go_wp2_with fail
   refine (uh HSm).mono ?_
   rintro e w' ⟨rfl,ho'⟩
   have hlk:=uh HLK w' ho'
   have HOA:Hid (∀o,Old W (w'.alloc o)):=fun o=>(Only.trans (uh HW) ho').alloc o
   clear ho' HSm HLK
   go_wp2_with fail
   go_ret
   exact ⟨rfl,Only.trans (uh HO) (uh HOA _)⟩
 have hilI:¬(i:Int)<(L.length:Int):=by omega
 have hans:ans=false:=by
  rw[uh HD,List.any_eq_false]
  intro x hx
  obtain ⟨j,hj,rfl⟩:=List.getElem_of_mem hx
  rw[uh HT j hj (by omega)];exact fun h=>by cases h
 subst hans
 go_wp2_with fail
 go_ret
 exact ⟨rfl,Only.trans (uh HO) (uh HW)⟩
def addN(f:Tab)(s:ByteArray)(l:List ByteArray)(i:Nat):Tab:=(l.take i).foldl (fun f b=>putT f (lowP b) (b,decide (b=s))) f
theorem addN_succ(f:Tab)(s:ByteArray)(l:List ByteArray)(i:Nat)(h:i<l.length):addN f s l (i+1)=putT (addN f s l i) (lowP l[i]) (l[i],decide (l[i]=s)):=by
 unfold addN
 rw[List.take_add_one,List.foldl_append,List.getElem?_eq_getElem h];rfl
theorem addA(s:ByteArray)(hs:s.size≤1000)(gm n:Nat)(hn:n≤1000000)(f:Tab)(w:World)(hg:MetAt w gm n f):Calls Tryz.prog 157 #[.map (some gm),.string s] w fun r w' =>r=.returned (.tuple #[])∧Only (fun k=>k=gm) w w' ∧MetAt w' gm (n+1001) (addP f s):=by
 have HG:=hide hg
 have H1:=hide (beginningsA s hs w)
 have HD:Hid (addP f s=addN f s (begP s) (begP s).length):=by unfold Hid;rw[addN,List.take_length];rfl
 have hbl:=begP_len s
 have HB:Hid (∀x∈begP s,x.size≤1000):=fun x hx=>by
  rcases List.mem_append.1 hx with h|h
  ·obtain ⟨i,_,rfl⟩:=List.mem_map.1 h
   exact Nat.le_trans (ext_le _ _ _) hs
  rw[List.mem_singleton] at h;subst h;exact hs
 have HLT:=hide hg.lt
 generalize addP f s=ans at*
 generalize begP s=L at*
 have hLl:L.length≤1001:=by omega
 clear hg hbl
 go_in
 go_wp2_with fail
 refine (uh H1).mono ?_
 rintro e W ⟨v,rfl,hS,hO⟩
 have HS:=hide hS
 have HO:=hide hO
 have HG0:Hid (MetAt W gm (n+0) (addN f s L 0)):=(uh HG).old hO
 have HON:Hid (Only (fun k=>k=gm) w W):=Only.oldS hO
 have HRF:=hide (Only.refl (fun k=>k=gm) W)
 obtain ⟨ao,cap,hv,_⟩:=hS
 subst hv
 clear hO H1 HG
 go_wp2_with fail
 go_loopw [5,9] (fun _ x wr=> ∃i:Nat,i≤L.length∧x=.int .i64 i∧Hid (Only (fun k=>k=gm) W wr)∧Hid (MetAt wr gm (n+i) (addN f s L i))) (fun _ x _=>L.length- (intOf x).toNat)
 ·exact ⟨0,by omega,rfl,HRF,HG0⟩
 obtain ⟨i,hi,rfl,HW,HT⟩:=hrel
 clear HG0 HRF
 by_cases hil:i<L.length
 ·have hilI:(i:Int)<(L.length:Int):=by omega
  obtain ⟨g,cap2,hv2,hcell,hgl,_⟩:=((uh HS).kept (uh HW) (fun b h e=>by have:=uh HLT;omega)).cell i hil
  injection hv2 with hv3 hv4 hv5
  subst hv3
  clear hv5 hv4
  have HSm:=hide (smallA L[i] (by have:=uh HB _ (List.getElem_mem hil);omega) wr)
  have HPT:Hid (∀W',Old wr W' → ∃w'',(Instr.mapUpdate metT (.map (some gm)) (.string (lowP L[i])) (.agg #[.string L[i],.bool (decide (L[i]=s))])).run Tryz.prog W' =.ok () w'' ∧MetAt w'' gm (n+(i+1)) (addN f s L (i+1))∧Only (fun k=>k=gm) W' w''):=fun W' ho=>by
   rw[addN_succ f s L i hil]
   exact MetAt.put ((uh HT).old ho) (lowP L[i]) (by rw[lowP_size];have:=uh HB _ (List.getElem_mem hil);unfold maxLen;omega) (by unfold maxLen;omega) _ _
  have e2:(L[i].toList==s.toList)=decide (L[i]=s):=eqS L[i] s
  clear HT
  generalize decide (L[i]=s)=b at*
  generalize lowP L[i]=y at*
  generalize L[i]=z at*
  go_wp2_with fail
  refine (uh HSm).mono ?_
  rintro e w' ⟨rfl,ho'⟩
  obtain ⟨w2,hrun,hM,hO2⟩:=uh HPT w' ho'
  have HM2:=hide hM
  have HW2:Hid (Only (fun k=>k=gm) W w2):=((uh HW).trans (Only.oldS ho')).trans hO2
  clear ho' HSm HPT hM hO2
  go_wp2_with fail
  go_roundw
  ·exact ⟨i+1,by omega,by go_num,HW2,HM2⟩
  case measure=>simp[intOf];omega
 have hilI:¬(i:Int)<(L.length:Int):=by omega
 have hie:i=L.length:=by omega
 subst hie
 have HM2:Hid (MetAt wr gm (n+1001) ans):=by rw[uh HD];exact (uh HT).mono (by omega)
 go_wp2_with fail
 go_end0
 exact ⟨rfl,(uh HON).trans (uh HW),HM2⟩
end Go.Proofs.YtndfmgdhiallpaaGreatDoor
