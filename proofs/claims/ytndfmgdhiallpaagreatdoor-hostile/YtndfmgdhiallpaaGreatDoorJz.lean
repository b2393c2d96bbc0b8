import Derived.Test.YtndfmgdhiallpaaGreatDoorJv
import Derived.Test.YtndfmgdhiallpaaGreatDoorJx
import Derived.Test.YtndfmgdhiallpaaGreatDoorJi
import Derived.Test.YtndfmgdhiallpaaGreatDoorJs
set_option maxRecDepth 100000
set_option maxHeartbeats 4000000
namespace Go.Proofs.YtndfmgdhiallpaaGreatDoor
open Go.RowKit Go.Maps
theorem indexV(g n cap:Nat)(L:List ByteArray)(v:ByteArray)(hn:n≤L.length)(hb:n≤3000000)(w:World)(hc: ∀i (h:i<L.length),w.cell? ⟨g,i,none⟩=some (.string L[i])):Calls Tryz.prog 182 #[.slice (some ⟨g,0,none⟩) n cap,.string v] w fun r w' => ∃k:Int,r=.returned (.int .i64 k)∧decide (0≤k)=(L.take n).any (fun z=>v.toList==z.toList)∧w' =w:=by
 have HC:=hide hc
 clear hc
 go_in
 go_wp2_with fail
 go_loop [5,8] (fun _ x=> ∃i:Nat,i≤n∧x=.int .i64 i∧Hid (∀j (h:j<L.length),j<i→(v.toList==(L[j]).toList)=false)) (fun _ x=>n- (intOf x).toNat)
 ·exact ⟨0,by omega,rfl,fun j _ h=>by omega⟩
 obtain ⟨i,hi,rfl,HT⟩:=hrel
 by_cases hil:i<n
 ·have hilI:(i:Int)<(n:Int):=by omega
  have hil2:i<L.length:=by omega
  have hcr:=uh HC i hil2
  cases hk:(v.toList==(L[i]).toList) with
  |true=>
   have HA:Hid (decide ((0:Int)≤(i:Int))=(L.take n).any (fun z=>v.toList==z.toList)):=by
    unfold Hid
    rw[decide_eq_true (by omega)]
    symm
    rw[List.any_eq_true]
    exact ⟨L[i],List.mem_take_iff_getElem.2 ⟨i,by omega,rfl⟩,hk⟩
   generalize L[i]=z at*
   go_wp2_with fail
   go_ret
   exact ⟨_,rfl,HA,rfl⟩
  |false=>
   have HT' :Hid (∀j (h:j<L.length),j<i+1→(v.toList==(L[j]).toList)=false):=fun j h h2=>by
    by_cases e:j=i
    ·subst e;exact hk
    exact uh HT j h (by omega)
   generalize L[i]=z at*
   go_wp2_with fail
   go_round
   ·exact ⟨i+1,by omega,by go_num,HT'⟩
   case measure=>simp[intOf];omega
 have hilI:¬(i:Int)<(n:Int):=by omega
 have HA:Hid (decide ((0:Int)≤ -1)=(L.take n).any (fun z=>v.toList==z.toList)):=by
  unfold Hid
  rw[decide_eq_false (by omega)]
  symm
  rw[List.any_eq_false]
  intro x hx
  obtain ⟨j,hj,rfl⟩:=List.mem_take_iff_getElem.1 hx
  rw[uh HT j (by omega) (by omega)];exact fun h=>by cases h
 go_wp2_with fail
 go_ret
 exact ⟨_,rfl,HA,rfl⟩
theorem containsV(g n cap:Nat)(L:List ByteArray)(v:ByteArray)(hn:n≤L.length)(hb:n≤3000000)(w:World)(hc: ∀i (h:i<L.length),w.cell? ⟨g,i,none⟩=some (.string L[i])):Calls Tryz.prog 102 #[.slice (some ⟨g,0,none⟩) n cap,.string v] w fun r w' =>r=.returned (.bool ((L.take n).any (fun z=>v.toList==z.toList)))∧w' =w:=by
 have H1:=hide (indexV g n cap L v hn hb w hc)
 generalize (L.take n).any (fun z=>v.toList==z.toList)=b at*
 clear hc
 go_in
 go_wp2_with fail
 refine (uh H1).mono ?_
 rintro e w' ⟨k,rfl,hk,rfl⟩
 go_wp2_with fail
 go_ret
 exact ⟨rfl,rfl⟩
abbrev sTmp:ByteArray:=⟨#[46,116,109,112]⟩
def placeP(s:ByteArray):Bool:=decide (s.size≤80)&& !Lib.hasSuffix s.data.toList sTmp.data.toList&& !(partsP s).any (fun z=>(⟨#[]⟩:ByteArray).toList==z.toList)
theorem placeA(s:ByteArray)(hs:s.size≤140737488355328)(w:World)(hm:MaxAt w):Calls Tryz.prog 53 #[.string s] w fun r w' =>r=.returned (.bool (placeP s))∧Old w w' :=by
 by_cases h80:s.size≤80
 ·have h80I:¬(80:Int)<(s.size:Int):=by omega
  have hpl:(partsP s).length≤100:=by
   rw[partsP_len]
   have:=Lib.countB_le ⟨#[47]⟩ (by decide) s.size s (Nat.le_refl _)
   omega
  have H1:=hide (Tryz.strings_HasSuffix s sTmp w (by omega))
  have H2:=hide (splitA s (by omega) w hm)
  have H3:=hide (fun g (W:World) h=>containsV g (partsP s).length (partsP s).length (partsP s) ⟨#[]⟩ (Nat.le_refl _) (by omega) W h)
  rw[List.take_length] at H3
  have HD:Hid (placeP s=(!Lib.hasSuffix s.data.toList sTmp.data.toList&& !(partsP s).any (fun z=>(⟨#[]⟩:ByteArray).toList==z.toList))):=by unfold Hid;rw[placeP,decide_eq_true h80,Bool.true_and]
  generalize placeP s=res at*
  generalize (partsP s).any (fun z=>(⟨#[]⟩:ByteArray).toList==z.toList)=b2 at*
  generalize partsP s=L at*
  cases h1:Lib.hasSuffix s.data.toList sTmp.data.toList with
  |true=>
   rw[h1] at H1 HD
   clear h1 hm H2 H3
   have HE:Hid (res=false):=by rw[uh HD];rfl
   clear HD
   go_in
   go_wp2_with fail
   refine (uh H1).mono ?_
   rintro e w' ⟨rfl,rfl⟩
   go_wp2_with fail
   go_ret
   exact ⟨by rw[uh HE];rfl,Only.refl _ _⟩
  |false=>
   rw[h1] at H1 HD
   clear h1 hm
   have HE:Hid (res= !b2):=by rw[uh HD];rfl
   clear HD
   go_in
   go_wp2_with fail
   refine (uh H1).mono ?_
   rintro e w' ⟨rfl,rfl⟩
   go_wp2_with fail
   refine (uh H2).mono ?_
   rintro e w2 ⟨rfl,ho,_,hc⟩
   have HO:=hide ho
   have H3:=hide (uh H3 _ w2 hc)
   clear ho hc H2
   go_wp2_with fail
   refine (uh H3).mono ?_
   rintro e w3 ⟨rfl,rfl⟩
   go_wp2_with fail
   go_ret
   exact ⟨by rw[uh HE];rfl,HO⟩
 have h80I:(80:Int)<(s.size:Int):=by omega
 have HE:Hid (placeP s=false):=by unfold Hid;rw[placeP,decide_eq_false h80];rfl
 generalize placeP s=res at*
 go_in
 go_wp2_with fail
 go_ret
 exact ⟨by rw[uh HE];rfl,Only.refl _ _⟩
abbrev sCm:ByteArray:=⟨#[99,97,99,104,101,47,109]⟩
theorem placeP_cm:placeP sCm=true:=by kernel_rfl
theorem extractBad(d:Value)(s:ByteArray)(hs:s.size≤9223372036854775807)(e:Nat)(he:e≠0)(hu:(unpP sPre s).2=e)(w:World)(hm:MaxAt w)(hord:OrdAt w):Calls Tryz.prog 36 #[d,.string sCm,.string sMod,.string sVer,.string s] w fun r w' =>r=.returned (.int .i64 e)∧Old w w' :=by
 have H1:=hide (placeA sCm (by decide) w hm)
 rw[placeP_cm] at H1
 have H2:=hide (fun W h1 h2=>vUnpackA s hs W h1 h2)
 have HM:=hide hm
 have HOR:=hide hord
 clear hm hord
 generalize unpP sPre s=res at*
 subst hu
 have heI:((res.2:Int) !=0)=true:=by rw[bne_iff_ne];omega
 have heJ:¬(res.2:Int)=0:=by omega
 go_in
 go_wp2_with fail
 refine (uh H1).mono ?_
 rintro r w1 ⟨rfl,ho1⟩
 have HO1:=hide ho1
 have H2:=hide (uh H2 w1 ((uh HM).old ho1) (OrdAt.kept (uh HOR) ho1 (fun x=>x)))
 clear ho1 H1
 go_wp2_with fail
 refine (uh H2).mono ?_
 rintro r w3 ⟨ho3,hr3⟩
 have HO3:=hide (Only.trans (uh HO1) ho3)
 clear ho3 H2
 rcases hr3 with ⟨e0,u,rfl,hf,hb⟩|⟨e1,rfl⟩
 ·exact absurd e0 he
 clear e1
 go_wp2_with fail
 go_ret
 exact ⟨rfl,HO3⟩
def hostN:List ByteArray:=[⟨#[46,46,47,120]⟩,⟨#[97,47,46,46,47,46,46,47,120]⟩,⟨#[47,120]⟩,⟨#[97,47,47,120]⟩,⟨#[46,47,120]⟩,⟨#[97,47,46]⟩,⟨#[46,46]⟩,⟨#[97,92,120]⟩,⟨#[97,58,120]⟩,⟨#[97,0,120]⟩,⟨#[99,111,110]⟩,⟨#[97,47,78,85,76,46,116,120,116]⟩,⟨#[99,111,109,49]⟩,⟨#[120,46]⟩,⟨#[120,32]⟩,⟨#[]⟩,⟨#[97,47]⟩,⟨#[195,169]⟩,⟨#[97,42]⟩,⟨#[108,112,116,57,46,97,46,98]⟩]
theorem hostN_bad: ∀k,k<20→fileP (hostN.getD k ⟨#[]⟩)=false:=by
 have h:(List.range 20).all (fun k=>fileP (hostN.getD k ⟨#[]⟩)==false)=true:=by kernel_rfl
 intro k hk
 have:=List.all_eq_true.1 h k (List.mem_range.2 hk)
 simpa using this
theorem hostN_small: ∀k,k<20→(hostN.getD k ⟨#[]⟩).size≤9:=by
 have h:(List.range 20).all (fun k=>decide ((hostN.getD k ⟨#[]⟩).size≤9))=true:=by kernel_rfl
 intro k hk
 have:=List.all_eq_true.1 h k (List.mem_range.2 hk)
 simpa using this
theorem hostN_cell(w:World)(k:Nat)(hk:k<20):(w.alloc (.cells #[.string ⟨#[46,46,47,120]⟩,.string ⟨#[97,47,46,46,47,46,46,47,120]⟩,.string ⟨#[47,120]⟩,.string ⟨#[97,47,47,120]⟩,.string ⟨#[46,47,120]⟩,.string ⟨#[97,47,46]⟩,.string ⟨#[46,46]⟩,.string ⟨#[97,92,120]⟩,.string ⟨#[97,58,120]⟩,.string ⟨#[97,0,120]⟩,.string ⟨#[99,111,110]⟩,.string ⟨#[97,47,78,85,76,46,116,120,116]⟩,.string ⟨#[99,111,109,49]⟩,.string ⟨#[120,46]⟩,.string ⟨#[120,32]⟩,.string ⟨#[]⟩,.string ⟨#[97,47]⟩,.string ⟨#[195,169]⟩,.string ⟨#[97,42]⟩,.string ⟨#[108,112,116,57,46,97,46,98]⟩] 9)).cell? ⟨w.heap.size,k,none⟩=some (.string (hostN.getD k ⟨#[]⟩)):=by
 rw[cell_of_row _ _ k _ _ (0,0) (Go.heap_alloc_new _ _)]
 have h:k=0∨k=1∨k=2∨k=3∨k=4∨k=5∨k=6∨k=7∨k=8∨k=9∨k=10∨k=11∨k=12∨k=13∨k=14∨k=15∨k=16∨k=17∨k=18∨k=19:=by omega
 rcases h with rfl|rfl|rfl|rfl|rfl|rfl|rfl|rfl|rfl|rfl|rfl|rfl|rfl|rfl|rfl|rfl|rfl|rfl|rfl|rfl<;>rfl
def hostS(nm d:ByteArray):ByteArray:=strB (laidL sPre [plainIt ⟨nm,false,d⟩])
theorem host_locs(nm d:ByteArray):(locsL sPre [plainIt ⟨nm,false,d⟩]).length=43+nm.size+d.size:=by
 rw[locsL,List.flatMap_cons,List.flatMap_nil,List.append_nil,plainIt,localL_len]
 show 30+(13+nm.size)+d.size=_
 omega
theorem host_size(nm d:ByteArray):d.size+nm.size≤(hostS nm d).size:=by
 rw[hostS,strB_size,laidL,List.length_append,List.length_append,host_locs];omega
theorem host_top(nm d:ByteArray):(hostS nm d).size≤2*(d.size+nm.size)+200:=by
 have h1:=host_locs nm d
 have h2:=cents_le sPre [plainIt ⟨nm,false,d⟩] 1 (Nat.le_refl _)
 rw[show [plainIt ⟨nm,false,d⟩].take 1=[plainIt ⟨nm,false,d⟩] from rfl,h1] at h2
 have h3: ∀a b,(endL 1 a b).length=22:=fun a b=>by simp[endL,leAll,leB,sL]
 rw[hostS,strB_size,laidL,List.length_append,List.length_append,h1,show [plainIt ⟨nm,false,d⟩].length=1 from rfl,h3]
 omega
theorem host_unp(nm d:ByteArray)(hn:nm.size≤9)(hf:fileP nm=false):(unpP sPre (hostS nm d)).2=if 40000<(hostS nm d).size then 1 else 4:=by
 unfold unpP
 by_cases h:40000<(hostS nm d).size
 ·rw[if_pos h,if_pos h]
 rw[if_neg h,if_neg h]
 have h1:=host_size nm d
 have hr:readP sPre (hostS nm d)=some [plainIt ⟨nm,false,d⟩]:=by
  refine readP_laid sPre _ ?_ (List.pairwise_singleton _ _) (by show 1≤60;omega) (by decide)
  intro i hi
  rw[List.mem_singleton] at hi
  subst hi
  exact ⟨.inl rfl,checkOf_lt d,by show d.size<_;omega,by show d.size<_;omega,by show 13+nm.size<_;omega⟩
 rw[hr]
 have hh:headsGo [plainIt ⟨nm,false,d⟩] (fun _=>none) 0=4:=by
  unfold headsGo headF
  rw[show (plainIt ⟨nm,false,d⟩).name=nm from rfl,if_pos hf];rfl
 show (if headsGo [plainIt ⟨nm,false,d⟩] (fun _=>none) 0=0 then _ else ([],headsGo [plainIt ⟨nm,false,d⟩] (fun _=>none) 0):List Fl×Nat).2=4
 rw[hh];rfl
theorem host_made(nm d:ByteArray)(hn:nm.size≤9)(hd:d.size≤140737488351232)(w:World)(gt:Nat)(ht:EntsAt w gt [⟨nm,false,d⟩]):
 Calls Tryz.prog 32 #[.slice (some ⟨gt,0,none⟩) 1 1] w fun r w' =>r=.returned (.string (hostS nm d))∧Old w w' :=by
 have h1:=host_locs nm d
 have h2:=cents_le sPre [plainIt ⟨nm,false,d⟩] 1 (Nat.le_refl _)
 rw[show [plainIt ⟨nm,false,d⟩].take 1=[plainIt ⟨nm,false,d⟩] from rfl,h1] at h2
 exact madeA gt 1 [⟨nm,false,d⟩] (by show 1≤1000;omega) (fun e he=>by rw[List.mem_singleton] at he;subst he;exact ⟨by show nm.size≤_;omega,by show d.size≤_;omega⟩) (by show (locsL sPre [plainIt ⟨nm,false,d⟩]).length≤_;omega) (by show (centsN sPre [plainIt ⟨nm,false,d⟩] 1).length≤_;omega) w ht
theorem dk_of{S:Nat→Prop}{a b:World}(h:Only S a b):dk.Only S a b:=⟨h.os,h.tape,h.output,h.size,h.block⟩
theorem of_dk{S:Nat→Prop}{a b:World}(h:dk.Only S a b):Only S a b:=⟨h.os,h.tape,h.output,h.size,h.block⟩
abbrev sCa:ByteArray:=⟨#[99,97,99,104,101]⟩
def dC0:dk.Dsk:=⟨[], -1, -1,0,false⟩
def dC1:dk.Dsk:=⟨[⟨sCa,true,⟨#[]⟩⟩], -1, -1,1,false⟩
theorem mkdC:dk.mkdirOf dC0 sCa=(0,dC1):=by kernel_rfl
theorem naC:(dk.namesL dC1.ts sCa).length=0:=by kernel_rfl
theorem okC:dk.okN dC1.ts sCa=true:=by kernel_rfl
theorem newD(w:World):Calls Tryz.prog 33 #[] w fun r w' =>r=.returned (.pointer (some ⟨w.heap.size,0,none⟩))∧dk.DiskAt w' w.heap.size (.slice none 0 0) dC0∧Old w w' :=by
 refine (dk.new_any w).mono ?_
 rintro r w' ⟨rfl,rfl⟩
 exact ⟨rfl,⟨Go.heap_alloc_new _ _,.inl ⟨rfl,rfl⟩,by intro h;cases h⟩,(Only.refl _ w).alloc _⟩
theorem mkdirD{w:World}{b:Nat}(h:dk.DiskAt w b (.slice none 0 0) dC0):Calls Tryz.prog 34 #[.pointer (some ⟨b,0,none⟩),.string sCa] w fun r w' =>r=.returned (.int .i64 0)∧(∃v,dk.DiskAt w' b v dC1)∧Only (fun k=>k=b) w w' :=by
 refine (dk.mkdir_disk h sCa (by decide) (by decide)).mono ?_
 rintro r w' ⟨rfl,v',h1,h2,h3⟩
 rw[mkdC] at h1
 refine ⟨by rw[mkdC],⟨v',h1⟩, ?_⟩
 refine (of_dk h2).mono ?_
 rintro i _ (e|e)
 ·exact e
 cases e
theorem namesD{w:World}{b:Nat}{v:Value}(h:dk.DiskAt w b v dC1):Calls Tryz.prog 37 #[.pointer (some ⟨b,0,none⟩),.string sCa] w fun r w' => ∃p cap,r=.returned (.tuple #[.slice p 0 cap,.bool true])∧Old w w' :=by
 refine (dk.names_disk h sCa (by decide) (by decide) (by intro k hk;have:k=0:=by have:k<1:=hk;omega
                                                         subst this;decide)).mono ?_
 rintro r w' ⟨l,rfl,h1,h2⟩
 rw[naC] at h1
 rw[okC]
 rcases h1.2 with ⟨rfl,_⟩|⟨g,cap,cur,rfl,_⟩
 ·exact ⟨_,_,rfl,of_dk h2⟩
 exact ⟨_,_,rfl,of_dk h2⟩
theorem hostileW(s:ByteArray)(hsz:s.size≤140737488351232)(c:Int)(hc1: -9223372036854775808≤c)(hc2:c≤9223372036854775807)(w:World)(hw:Awk w):
 Calls Tryz.prog 13 #[.int .i64 c,.string s] w fun r w' =>r=.returned (.bool true)∧Old w w' :=by
 have H1:=hide (awakeX w hw)
 have HW:=hide hw
 clear hw
 obtain ⟨k,hk⟩: ∃k,pickN c 20=k:=⟨_,rfl⟩
 have hk20:k<20:=by rw[←hk];exact pickN_lt _ (by omega)
 have hk20I:(k:Int)<20:=by omega
 have HP:=hide (fun W=>kpick_any c hc1 hc2 20 (by omega) (by omega) W)
 rw[hk] at HP
 clear hk
 have HN:Hid (∀W:World,(W.alloc (.cells #[.string ⟨#[46,46,47,120]⟩,.string ⟨#[97,47,46,46,47,46,46,47,120]⟩,.string ⟨#[47,120]⟩,.string ⟨#[97,47,47,120]⟩,.string ⟨#[46,47,120]⟩,.string ⟨#[97,47,46]⟩,.string ⟨#[46,46]⟩,.string ⟨#[97,92,120]⟩,.string ⟨#[97,58,120]⟩,.string ⟨#[97,0,120]⟩,.string ⟨#[99,111,110]⟩,.string ⟨#[97,47,78,85,76,46,116,120,116]⟩,.string ⟨#[99,111,109,49]⟩,.string ⟨#[120,46]⟩,.string ⟨#[120,32]⟩,.string ⟨#[]⟩,.string ⟨#[97,47]⟩,.string ⟨#[195,169]⟩,.string ⟨#[97,42]⟩,.string ⟨#[108,112,116,57,46,97,46,98]⟩] 9)).cell? ⟨W.heap.size,k,none⟩=some (.string (hostN.getD k ⟨#[]⟩))):=fun W=>hostN_cell W k hk20
 have hn9:=hostN_small k hk20
 have hbad:=hostN_bad k hk20
 generalize hostN.getD k ⟨#[]⟩=nm at*
 have HU:=hide (host_unp nm s hn9 hbad)
 have HB:Hid ((hostS nm s).size≤9223372036854775807):=by
  have:=host_top nm s
  unfold Hid;omega
 have HMd:=hide (fun W gt h=>host_made nm s hn9 hsz W gt h)
 clear hbad hn9
 generalize hostS nm s=z at*
 have hzI:=uh HB
 obtain ⟨e,he0,HE,hcs⟩: ∃e:Nat,e≠0∧Hid ((unpP sPre z).2=e)∧((e=4∧¬(40000:Int)<(z.size:Int))∨(e=1∧(40000:Int)<(z.size:Int))):=by
  by_cases h:40000<z.size
  ·refine ⟨1,by omega, ?_,.inr ⟨rfl,by omega⟩⟩
   unfold Hid;rw[uh HU,if_pos h]
  refine ⟨4,by omega, ?_,.inl ⟨rfl,by omega⟩⟩
  unfold Hid;rw[uh HU,if_neg h]
 clear HU
 have HX:=hide (fun d W h1 h2=>extractBad d z (uh HB) e he0 (uh HE) W h1 h2)
 have HV:Hid (∀W,MaxAt W→OrdAt W→Calls Tryz.prog 28 #[.string sMod,.string sVer,.string z] W fun r w' =>r=.returned (.tuple #[.slice none 0 0,.int .i64 (e:Int)])∧Old W w'):=by
  intro W h1 h2
  refine (vUnpackA z (uh HB) W h1 h2).mono ?_
  rintro r w' ⟨ho,hr⟩
  rcases hr with ⟨e0,_⟩|⟨_,rfl⟩
  ·rw[uh HE] at e0;exact absurd e0 he0
  exact ⟨by rw[uh HE],ho⟩
 clear HE HB
 have HCS:=hide hcs
 clear hcs
 go_in
 go_wp2_with fail
 refine (uh H1).mono ?_
 rintro r w1 ⟨rfl,ho1⟩
 have HW1:=hide ((uh HW).old ho1)
 have HO1:=hide ho1
 clear ho1 H1 HW
 go_wp2_with fail
 have hnm:=uh HN w1
 have HA1:Hid (∀o,Old w1 (w1.alloc o)):=fun o=>(Only.refl _ w1).alloc o
 have HO2:=hide (Only.trans (uh HO1) (uh HA1 (.cells #[.string ⟨#[46,46,47,120]⟩,.string ⟨#[97,47,46,46,47,46,46,47,120]⟩,.string ⟨#[47,120]⟩,.string ⟨#[97,47,47,120]⟩,.string ⟨#[46,47,120]⟩,.string ⟨#[97,47,46]⟩,.string ⟨#[46,46]⟩,.string ⟨#[97,92,120]⟩,.string ⟨#[97,58,120]⟩,.string ⟨#[97,0,120]⟩,.string ⟨#[99,111,110]⟩,.string ⟨#[97,47,78,85,76,46,116,120,116]⟩,.string ⟨#[99,111,109,49]⟩,.string ⟨#[120,46]⟩,.string ⟨#[120,32]⟩,.string ⟨#[]⟩,.string ⟨#[97,47]⟩,.string ⟨#[195,169]⟩,.string ⟨#[97,42]⟩,.string ⟨#[108,112,116,57,46,97,46,98]⟩] 9)))
 have HW2:=hide ((uh HW1).old (uh HA1 (.cells #[.string ⟨#[46,46,47,120]⟩,.string ⟨#[97,47,46,46,47,46,46,47,120]⟩,.string ⟨#[47,120]⟩,.string ⟨#[97,47,47,120]⟩,.string ⟨#[46,47,120]⟩,.string ⟨#[97,47,46]⟩,.string ⟨#[46,46]⟩,.string ⟨#[97,92,120]⟩,.string ⟨#[97,58,120]⟩,.string ⟨#[97,0,120]⟩,.string ⟨#[99,111,110]⟩,.string ⟨#[97,47,78,85,76,46,116,120,116]⟩,.string ⟨#[99,111,109,49]⟩,.string ⟨#[120,46]⟩,.string ⟨#[120,32]⟩,.string ⟨#[]⟩,.string ⟨#[97,47]⟩,.string ⟨#[195,169]⟩,.string ⟨#[97,42]⟩,.string ⟨#[108,112,116,57,46,97,46,98]⟩] 9)))
 clear HA1 HN HO1 HW1
 generalize w1.alloc (.cells #[.string ⟨#[46,46,47,120]⟩,.string ⟨#[97,47,46,46,47,46,46,47,120]⟩,.string ⟨#[47,120]⟩,.string ⟨#[97,47,47,120]⟩,.string ⟨#[46,47,120]⟩,.string ⟨#[97,47,46]⟩,.string ⟨#[46,46]⟩,.string ⟨#[97,92,120]⟩,.string ⟨#[97,58,120]⟩,.string ⟨#[97,0,120]⟩,.string ⟨#[99,111,110]⟩,.string ⟨#[97,47,78,85,76,46,116,120,116]⟩,.string ⟨#[99,111,109,49]⟩,.string ⟨#[120,46]⟩,.string ⟨#[120,32]⟩,.string ⟨#[]⟩,.string ⟨#[97,47]⟩,.string ⟨#[195,169]⟩,.string ⟨#[97,42]⟩,.string ⟨#[108,112,116,57,46,97,46,98]⟩] 9)=w2 at*
 refine (uh HP w2).mono ?_
 rintro r w3 ⟨rfl,rfl⟩
 have HEN:=hide (uh HMd _ _ (entsAt_new w3 [⟨nm,false,s⟩] #[.string nm,.bool false,.string s] rfl))
 have HO4:=hide (Only.trans (uh HO2) ((Only.refl (fun _=>False) w3).alloc (.cells #[.string nm,.bool false,.string s] 39)))
 have HW4:=hide ((uh HW2).old ((Only.refl (fun _=>False) w3).alloc (.cells #[.string nm,.bool false,.string s] 39)))
 clear HMd HP HO2 HW2
 go_wp2_with fail
 clear hnm
 refine (uh HEN).mono ?_
 rintro r w4 ⟨rfl,ho4⟩
 have HO5:=hide (Only.trans (uh HO4) ho4)
 have HW5:=hide ((uh HW4).old ho4)
 clear ho4 HO4 HW4 HEN
 go_wp2_with fail
 refine (newD w4).mono ?_
 rintro r w5 ⟨rfl,hd5,ho5⟩
 have HD5:=hide hd5
 have HO6:=hide ho5
 clear hd5 ho5
 go_wp2_with fail
 refine (mkdirD (uh HD5)).mono ?_
 rintro r w6 ⟨rfl,⟨v,hd6⟩,ho6⟩
 have HO7:Hid (Old w4 w6):=(uh HO6).transNew ho6 (fun i hi e=>by omega)
 have HD6:=hide hd6
 have HW6:=hide ((uh HW5).old (uh HO7))
 have HO8:=hide (Only.trans (uh HO5) (uh HO7))
 clear ho6 hd6 HO5 HO6 HO7 HD5 HW5
 generalize w4.heap.size=b at*
 go_wp2_with fail
 refine (dk.steps_disk (uh HD6)).mono ?_
 rintro r w7 ⟨rfl,rfl⟩
 go_wp2_with fail
 refine (uh HX _ _ (uh HW6).1 (uh HW6).2.1).mono ?_
 rintro r w8 ⟨rfl,ho8⟩
 have HW8:=hide ((uh HW6).old ho8)
 have HD8:=hide ((uh HD6).kept (dk_of ho8) (fun x=>x) (fun _ _ x=>x))
 have HO9:=hide (Only.trans (uh HO8) ho8)
 clear ho8 HW6 HD6 HO8 HX
 go_wp2_with fail
 refine (uh HV _ (uh HW8).1 (uh HW8).2.1).mono ?_
 rintro r w9 ⟨rfl,ho9⟩
 have HD9:=hide ((uh HD8).kept (dk_of ho9) (fun x=>x) (fun _ _ x=>x))
 have HO10:=hide (Only.trans (uh HO9) ho9)
 clear ho9 HW8 HD8 HO9 HV
 go_wp2_with fail
 refine (namesD (uh HD9)).mono ?_
 rintro r w10 ⟨p,cap,rfl,ho10⟩
 have HD10:=hide ((uh HD9).kept (dk_of ho10) (fun x=>x) (fun _ _ x=>x))
 have HO11:=hide (Only.trans (uh HO10) ho10)
 clear ho10 HD9 HO10
 rcases uh HCS with ⟨rfl,hzz⟩|⟨rfl,hzz⟩
 ·clear HCS
  go_wp2_with fail
  refine (dk.steps_disk (uh HD10)).mono ?_
  rintro r w11 ⟨rfl,rfl⟩
  go_wp2_with fail
  go_ret
  exact ⟨rfl,HO11⟩
 clear HCS
 go_wp2_with fail
 refine (dk.steps_disk (uh HD10)).mono ?_
 rintro r w11 ⟨rfl,rfl⟩
 go_wp2_with fail
 go_ret
 exact ⟨rfl,HO11⟩
end Go.Proofs.YtndfmgdhiallpaaGreatDoor
