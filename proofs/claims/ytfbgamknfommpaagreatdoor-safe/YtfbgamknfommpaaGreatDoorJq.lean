import Derived.Test.YtfbgamknfommpaaGreatDoorJp
import Derived.Test.YtfbgamknfommpaaGreatDoorJd
set_option maxRecDepth 100000
set_option maxHeartbeats 2000000
namespace Go.Proofs.YtfbgamknfommpaaGreatDoor
open Go.RowKit Go.Maps
abbrev sBzr:ByteArray:=⟨#[46,98,122,114]⟩
abbrev sGit:ByteArray:=⟨#[46,103,105,116]⟩
abbrev sHg:ByteArray:=⟨#[46,104,103]⟩
abbrev sSvn:ByteArray:=⟨#[46,115,118,110]⟩
def keepP(z:ByteArray):Bool:=decide (z=sBzr)||decide (z=sGit)||decide (z=sHg)||decide (z=sSvn)
theorem keepsA(z:ByteArray)(w:World):Calls Tryz.prog 125 #[.string z] w fun r w' =>r=.returned (.bool (keepP z))∧w' =w:=by
 have f1:(z.toList==[46,98,122,114])=decide (z=sBzr):=eqL z _
 have f2:(z.toList==[46,103,105,116])=decide (z=sGit):=eqL z _
 have f3:(z.toList==[46,104,103])=decide (z=sHg):=eqL z _
 have f4:(z.toList==[46,115,118,110])=decide (z=sSvn):=eqL z _
 have HD:Hid (keepP z=(decide (z=sBzr)||decide (z=sGit)||decide (z=sHg)||decide (z=sSvn))):=rfl
 generalize keepP z=ans at*
 generalize decide (z=sBzr)=b1 at*
 generalize decide (z=sGit)=b2 at*
 generalize decide (z=sHg)=b3 at*
 generalize decide (z=sSvn)=b4 at*
 cases b1<;>cases b2<;>cases b3<;>cases b4<;>
 (first
  |(have hans:ans=false:=by rw[uh HD];rfl
    subst hans)
  |(have hans:ans=true:=by rw[uh HD];rfl
    subst hans))<;>
 (go_in
  go_wp2_with fail
  go_ret
  exact ⟨rfl,rfl⟩)
abbrev keepF:Value:=.func (.func 125) #[] #[]
theorem indexA(g n cap:Nat)(L:List ByteArray)(hn:n≤L.length)(hb:n≤3000000)(w:World)(hc: ∀i (h:i<L.length),w.cell? ⟨g,i,none⟩=some (.string L[i])):Calls Tryz.prog 169 #[.slice (some ⟨g,0,none⟩) n cap,keepF] w fun r w' => ∃k:Int,r=.returned (.int .i64 k)∧decide (0≤k)=(L.take n).any keepP∧w' =w:=by
 have HC:=hide hc
 clear hc
 go_in
 go_wp2_with fail
 go_loop [5,8] (fun _ x=> ∃i:Nat,i≤n∧x=.int .i64 i∧Hid (∀j (h:j<L.length),j<i→keepP L[j]=false)) (fun _ x=>n- (intOf x).toNat)
 ·exact ⟨0,by omega,rfl,fun j _ h=>by omega⟩
 obtain ⟨i,hi,rfl,HT⟩:=hrel
 by_cases hil:i<n
 ·have hilI:(i:Int)<(n:Int):=by omega
  have hil2:i<L.length:=by omega
  have hcr:=uh HC i hil2
  have HK:=hide (keepsA L[i] w)
  cases hk:keepP L[i] with
  |true=>
   have HA:Hid (decide ((0:Int)≤(i:Int))=(L.take n).any keepP):=by
    unfold Hid
    rw[decide_eq_true (by omega)]
    symm
    rw[List.any_eq_true]
    exact ⟨L[i],List.mem_take_iff_getElem.2 ⟨i,by omega,rfl⟩,hk⟩
   rw[hk] at HK
   clear hk
   generalize L[i]=z at*
   go_wp2_with fail
   refine (uh HK).mono ?_
   rintro e w' ⟨rfl,rfl⟩
   go_wp2_with fail
   go_ret
   exact ⟨_,rfl,HA,rfl⟩
  |false=>
   have HT' :Hid (∀j (h:j<L.length),j<i+1→keepP L[j]=false):=fun j h h2=>by
    by_cases e:j=i
    ·subst e;exact hk
    exact uh HT j h (by omega)
   rw[hk] at HK
   clear hk
   generalize L[i]=z at*
   go_wp2_with fail
   refine (uh HK).mono ?_
   rintro e w' ⟨rfl,rfl⟩
   go_wp2_with fail
   go_round
   ·exact ⟨i+1,by omega,by go_num,HT'⟩
   case measure=>simp[intOf];omega
 have hilI:¬(i:Int)<(n:Int):=by omega
 have HA:Hid (decide ((0:Int)≤ -1)=(L.take n).any keepP):=by
  unfold Hid
  rw[decide_eq_false (by omega)]
  symm
  rw[List.any_eq_false]
  intro x hx
  obtain ⟨j,hj,rfl⟩:=List.mem_take_iff_getElem.1 hx
  rw[uh HT j (by omega) (by omega)];exact fun h=>by cases h
 go_wp2_with fail
 go_ret
 exact ⟨_,rfl,HA,rfl⟩
theorem containsA(g n cap:Nat)(L:List ByteArray)(hn:n≤L.length)(hb:n≤3000000)(w:World)(hc: ∀i (h:i<L.length),w.cell? ⟨g,i,none⟩=some (.string L[i])):Calls Tryz.prog 124 #[.slice (some ⟨g,0,none⟩) n cap,keepF] w fun r w' =>r=.returned (.bool ((L.take n).any keepP))∧w' =w:=by
 have H1:=hide (indexA g n cap L hn hb w hc)
 generalize (L.take n).any keepP=b at*
 clear hc
 go_in
 go_wp2_with fail
 refine (uh H1).mono ?_
 rintro e w' ⟨k,rfl,hk,rfl⟩
 go_wp2_with fail
 go_ret
 exact ⟨rfl,rfl⟩
def hidP(s:ByteArray):Bool:=((partsP s).take ((partsP s).length- 1)).any keepP
theorem hiddenA(s:ByteArray)(hs:s.size≤2000000)(w:World)(hm:MaxAt w):Calls Tryz.prog 81 #[.string s] w fun r w' =>r=.returned (.bool (hidP s))∧Old w w' :=by
 have H1:=hide (splitA s hs w hm)
 have HD:Hid (hidP s=((partsP s).take ((partsP s).length- 1)).any keepP):=rfl
 have hpl:(partsP s).length≤2000001:=by
  rw[partsP_len]
  have:=Lib.countB_le ⟨#[47]⟩ (by decide) s.size s (Nat.le_refl _)
  omega
 have hp1:1≤(partsP s).length:=by rw[partsP_len];omega
 generalize hidP s=ans at*
 generalize partsP s=L at*
 obtain ⟨m,hmL⟩: ∃m,L.length- 1=m:=⟨_,rfl⟩
 rw[hmL] at HD
 have HC:Hid (∀g cap W,(∀i (h:i<L.length),W.cell? ⟨g,i,none⟩=some (.string L[i]))→Calls Tryz.prog 124 #[.slice (some ⟨g,0,none⟩) m cap,keepF] W fun r w' =>r=.returned (.bool ans)∧w' =W):=fun g cap W h=>by
  rw[uh HD];exact containsA g m cap L (by omega) (by omega) W h
 have hmI:(L.length:Int)- 1=(m:Int):=by omega
 have hmle:(m:Int)≤(L.length:Int):=by omega
 have hm0:(0:Int)≤(m:Int):=by omega
 have htn:((m:Nat):Int).toNat=m:=Int.toNat_natCast m
 have hmN:m≤L.length:=by omega
 have hne:¬L.length=m:=by omega
 clear hm hmL
 go_in
 go_wp2_with fail
 refine (uh H1).mono ?_
 rintro e W ⟨rfl,ho,hlt,hc⟩
 have HO:=hide ho
 have HCC:=hide (fun cap=>uh HC w.heap.size cap W hc)
 clear ho hc hlt H1 HC
 generalize w.heap.size=g at*
 go_wp2_with fail
 refine (uh HCC _).mono ?_
 rintro e w4 ⟨rfl,rfl⟩
 go_wp2_with fail
 go_ret
 exact ⟨rfl,HO⟩
abbrev sVen:ByteArray:=⟨#[118,101,110,100,111,114,47]⟩
abbrev sVen2:ByteArray:=⟨#[47,118,101,110,100,111,114,47]⟩
def venR(s:ByteArray):ByteArray×Bool:=if Lib.hasPrefix s.data.toList sVen.data.toList then (⟨(Lib.trimPrefix s.data.toList sVen.data.toList).toArray⟩,true) else (⟨(Lib.cut s.data.toList sVen2.data.toList).2.1.toArray⟩,(Lib.cut s.data.toList sVen2.data.toList).2.2)
def venP(s:ByteArray):Bool:=(venR s).2&&decide (0≤Lib.indexByte (venR s).1.data.toList 47)
theorem vendoredA(s:ByteArray)(hs:s.size≤2000000)(w:World)(hm:MaxAt w):Calls Tryz.prog 83 #[.string s] w fun r w' =>r=.returned (.bool (venP s))∧Old w w' :=by
 obtain ⟨m,hm⟩:=hm
 have H1:=hide (Tryz.strings_CutPrefix s sVen w)
 have H2:=hide (Tryz.strings_Cut s sVen2 m w (by omega) hm)
 have H3:=hide (fun z W=>Tryz.strings_Contains_one z 47 W)
 have HD:Hid (venP s=((venR s).2&&decide (0≤Lib.indexByte (venR s).1.data.toList 47))):=rfl
 have HR:Hid (venR s=if Lib.hasPrefix s.data.toList sVen.data.toList then (⟨(Lib.trimPrefix s.data.toList sVen.data.toList).toArray⟩,true) else (⟨(Lib.cut s.data.toList sVen2.data.toList).2.1.toArray⟩,(Lib.cut s.data.toList sVen2.data.toList).2.2)):=rfl
 generalize venP s=ans at*
 generalize venR s=rs at*
 clear hm
 cases hpf:Lib.hasPrefix s.data.toList sVen.data.toList with
 |true=>
  rw[hpf] at H1 HR
  simp only[if_true] at HR
  have hans:ans=decide (0≤Lib.indexByte (⟨(Lib.trimPrefix s.data.toList sVen.data.toList).toArray⟩:ByteArray).data.toList 47):=by rw[uh HD,uh HR];rfl
  rw[hans]
  clear hans HD HR H2 hpf
  have H3:=hide (uh H3 ⟨(Lib.trimPrefix s.data.toList sVen.data.toList).toArray⟩ w)
  generalize (⟨(Lib.trimPrefix s.data.toList sVen.data.toList).toArray⟩:ByteArray)=z at*
  generalize decide (0≤Lib.indexByte z.data.toList 47)=b at*
  go_in
  go_wp2_with fail
  refine (uh H1).mono ?_
  rintro e w1 ⟨rfl,rfl⟩
  go_wp2_with fail
  refine (uh H3).mono ?_
  rintro e w2 ⟨rfl,rfl⟩
  go_wp2_with fail
  go_ret
  exact ⟨rfl,Only.refl _ _⟩
 |false=>
  rw[hpf] at H1 HR
  simp only[Bool.false_eq_true,if_false] at HR
  have hans:ans=((Lib.cut s.data.toList sVen2.data.toList).2.2&&decide (0≤Lib.indexByte (⟨(Lib.cut s.data.toList sVen2.data.toList).2.1.toArray⟩:ByteArray).data.toList 47)):=by rw[uh HD,uh HR]
  rw[hans]
  clear hans HD HR hpf
  have H3:=hide (fun W=>uh H3 ⟨(Lib.cut s.data.toList sVen2.data.toList).2.1.toArray⟩ W)
  generalize (⟨(Lib.cut s.data.toList sVen2.data.toList).2.1.toArray⟩:ByteArray)=z at*
  generalize decide (0≤Lib.indexByte z.data.toList 47)=b at*
  generalize (Lib.cut s.data.toList sVen2.data.toList).2.2=c at*
  generalize (⟨(Lib.cut s.data.toList sVen2.data.toList).1.toArray⟩:ByteArray)=z1 at*
  generalize (⟨(Lib.trimPrefix s.data.toList sVen.data.toList).toArray⟩:ByteArray)=z2 at*
  cases c with
  |true=>
   go_in
   go_wp2_with fail
   refine (uh H1).mono ?_
   rintro e w1 ⟨rfl,rfl⟩
   go_wp2_with fail
   refine (uh H2).mono ?_
   rintro e w2 ⟨rfl,n,rfl⟩
   clear H1 H2
   go_wp2_with fail
   refine (uh H3 _).mono ?_
   rintro e w3 ⟨rfl,rfl⟩
   go_wp2_with fail
   go_ret
   exact ⟨by rw[Bool.true_and];rfl,(Only.refl _ _).drewN n⟩
  |false=>
   go_in
   go_wp2_with fail
   refine (uh H1).mono ?_
   rintro e w1 ⟨rfl,rfl⟩
   go_wp2_with fail
   refine (uh H2).mono ?_
   rintro e w2 ⟨rfl,n,rfl⟩
   clear H1 H2
   go_wp2_with fail
   go_ret
   exact ⟨rfl,(Only.refl _ _).drewN n⟩
structure Ent where
 nm:ByteArray
 ln:Bool
 dt:ByteArray
abbrev Ent.v(e:Ent):Array Value:= #[.string e.nm,.bool e.ln,.string e.dt]
abbrev ent0:Ent:=⟨⟨#[]⟩,false,⟨#[]⟩⟩
def EntsAt(w:World)(gt:Nat)(T:List Ent):Prop:= ∀i,i<T.length→gt<w.heap.size∧w.cell? ⟨gt,i*3,none⟩=some (.string (T.getD i ent0).nm)∧w.cell? ⟨gt,i*3+1,none⟩=some (.bool (T.getD i ent0).ln)∧w.cell? ⟨gt,i*3+2,none⟩=some (.string (T.getD i ent0).dt)
theorem EntsAt.kept{S:Nat→Prop}{w w' :World}{gt:Nat}{T:List Ent}(h:EntsAt w gt T)(ho:Only S w w')(hs:¬S gt):EntsAt w' gt T:=fun i hi=>by
 obtain ⟨h0,h1,h2,h3⟩:=h i hi
 exact ⟨Nat.lt_of_lt_of_le h0 ho.size,(ho.cell (p:=⟨gt,i*3,none⟩) h0 hs).trans h1,(ho.cell (p:=⟨gt,i*3+1,none⟩) h0 hs).trans h2,(ho.cell (p:=⟨gt,i*3+2,none⟩) h0 hs).trans h3⟩
theorem EntsAt.old{w w' :World}{gt:Nat}{T:List Ent}(h:EntsAt w gt T)(ho:Old w w'):EntsAt w' gt T:=h.kept ho (fun x=>x)
def memL(L:List ByteArray)(r:ByteArray):Bool:=L.any (fun x=>decide (x=r))
theorem memL_snoc(L:List ByteArray)(r q:ByteArray):memL (L++[r]) q=(memL L q||decide (r=q)):=by simp[memL,List.any_append]
theorem memL_iff{L:List ByteArray}{r:ByteArray}:memL L r=true↔r∈L:=by simp[memL]
def FoAt(w:World)(gm n:Nat)(L:List ByteArray):Prop:=(∀x∈L,x.size≤maxLen)∧ ∃D:DataW Unit,w.ownsMap Tryz.prog 9 unitElem gm n D∧ ∀r:ByteArray,has D (.string r.data.toList)=memL L r
theorem FoAt.lt{w:World}{gm n:Nat}{L:List ByteArray}(h:FoAt w gm n L):gm<w.heap.size:=by obtain ⟨_,D,h,_⟩:=h;exact h.lt
theorem FoAt.kept{w w' :World}{gm n:Nat}{L:List ByteArray}{S:Nat→Prop}(h:FoAt w gm n L)(ho:Only S w w')(hs:¬S gm):FoAt w' gm n L:=by
 have hl:=h.lt
 obtain ⟨h0,D,⟨es,clock,hm,r⟩,h2⟩:=h
 exact ⟨h0,D,⟨es,clock,(ho.block gm hl hs).trans hm,r⟩,h2⟩
theorem FoAt.old{w w' :World}{gm n:Nat}{L:List ByteArray}(h:FoAt w gm n L)(ho:Old w w'):FoAt w' gm n L:=h.kept ho (fun x=>x)
theorem FoAt.made(w:World):FoAt (w.alloc (.map #[] 0)) w.heap.size 0 []:=
 ⟨(fun _ h=>by cases h),_,World.ownsMap_made w Tryz.prog 9 unitElem,fun _=>rfl⟩
theorem FoAt.mono{w:World}{gm n m:Nat}{L:List ByteArray}(h:FoAt w gm n L)(hn:n≤m):FoAt w gm m L:=by
 obtain ⟨h0,D,h1,h2⟩:=h
 exact ⟨h0,D,h1.mono hn,h2⟩
theorem FoAt.put{w:World}{gm n:Nat}{L:List ByteArray}(h:FoAt w gm n L)(r:ByteArray)(hr:r.size≤maxLen)(hn:n<maxLen): ∃w',(Instr.mapUpdate 81 (.map (some gm)) (.string r) (.agg #[])).run Tryz.prog w=.ok () w' ∧FoAt w' gm (n+1) (L++[r])∧Only (fun k=>k=gm) w w' :=by
 obtain ⟨h0,D,h1,h2⟩:=h
 obtain ⟨w2,hrun,hown2,hg2⟩:=h1.update strKeyed Tryz.underlying81 hn (key9 r hr) unitElem_mk
 refine ⟨w2,hrun,⟨fun x hx=> ?_,_,hown2,fun q=> ?_⟩,(Only.refl _ w).grown hg2 (fun k _ e=>(Option.some.inj e).symm)⟩
 ·rcases List.mem_append.1 hx with hx|hx
  ·exact h0 x hx
  rw[List.mem_singleton] at hx;subst hx;exact hr
 by_cases e:q=r
 ·subst e
  rw[has_put_same h1.isMap (keyL _),memL_snoc,decide_eq_true rfl,Bool.or_true]
 have hne:=lit_ne (show q≠r from e)
 rw[has_put_other hne,h2 q,memL_snoc,decide_eq_false (fun x=>e x.symm),Bool.or_false]
abbrev sGoS:ByteArray:=⟨#[47,103,111,46,109,111,100]⟩
def ownP(e:Ent):Bool:= !e.ln&&Lib.hasSuffix e.nm.data.toList sGoS.data.toList
def foOf(e:Ent):ByteArray:=⟨(Lib.trimSuffix e.nm.data.toList sGo.data.toList).toArray⟩
def nestL(T:List Ent):List ByteArray:=(T.filter ownP).map foOf
theorem foOf_size(e:Ent):(foOf e).size≤e.nm.size:=by
 show ((Lib.trimSuffix e.nm.data.toList sGo.data.toList).toArray).size≤e.nm.data.size
 rw[List.size_toArray]
 unfold Lib.trimSuffix
 split
 ·rw[List.length_take,Array.length_toList];omega
 rw[Array.length_toList];exact Nat.le_refl _
theorem take_next(T:List Ent)(i:Nat)(h:i<T.length):T.take (i+1)=T.take i++[T.getD i ent0]:=by
 rw[List.take_add_one,List.getElem?_eq_getElem h,List.getD_eq_getElem?_getD,List.getElem?_eq_getElem h];rfl
theorem nestL_yes(T:List Ent)(i:Nat)(h:i<T.length)(h2:ownP (T.getD i ent0)=true):nestL (T.take (i+1))=nestL (T.take i)++[foOf (T.getD i ent0)]:=by
 rw[take_next T i h,nestL,nestL,List.filter_append,List.map_append,List.filter_cons_of_pos h2];rfl
theorem nestL_no(T:List Ent)(i:Nat)(h:i<T.length)(h2:ownP (T.getD i ent0)=false):nestL (T.take (i+1))=nestL (T.take i):=by
 rw[take_next T i h,nestL,nestL,List.filter_append,List.map_append,List.filter_cons_of_neg (by rw[h2];exact fun x=>by cases x)];simp
def haveP(L:List ByteArray)(s:ByteArray):Bool:=L.any (fun f=>Lib.hasPrefix s.data.toList f.data.toList)
theorem str_inv{key:Value}{kl:Lit}(h:keyOf Tryz.prog 9 key=some kl): ∃x:ByteArray,key=.string x∧kl=.string x.data.toList:=by
 rw[keyOf_string Tryz.underlying9] at h
 unfold mapKey at h
 rw[Tryz.underlying9] at h
 split at h<;>simp_all
theorem haveA(gm n:Nat)(L:List ByteArray)(s:ByteArray)(w:World)(hg:FoAt w gm n L):Calls Tryz.prog 82 #[.map (some gm),.string s] w fun r w' =>r=.returned (.bool (haveP L s))∧Old w w' :=by
 have hgl:=hg.lt
 obtain ⟨_,D,hown,hD⟩:=hg
 have HOW:=hide hown
 have HD:=hide hD
 have HA:Hid (haveP L s=L.any (fun f=>Lib.hasPrefix s.data.toList f.data.toList)):=rfl
 have HIF:Hid (∀x∈L,Lib.hasPrefix s.data.toList x.data.toList=true→haveP L s=true):=fun x hx h=>by rw[uh HA,List.any_eq_true];exact ⟨x,hx,h⟩
 generalize haveP L s=ans at*
 clear hown hD
 go_in
 go_wp2_with (at_range;refine wpList_range_own _ rfl _ foT rfl 9 _ strKeyed Tryz.underlying81 unitElem gm n D rfl (uh HOW) ?_;intro w1 hrg1 hg1 hs1;have HR1:=hide hrg1;have HO1:=hide ((Only.refl (fun _=>False) w).grown hg1 (fun k _ e=>by cases e));clear hrg1 hg1 hs1)
 go_frame
 generalize hgr:w.heap.size=gr at*
 have HGR:Hid (w.heap.size≤gr):=by unfold Hid;omega
 have HNE:Hid (gm≠gr):=by unfold Hid;omega
 clear hgr hgl
 go_loopw [5] (fun _ wr=>Hid (∃left cnt,wr.ranges Tryz.prog 9 unitElem gm gr n D left cnt∧(∀kl,left kl=true→has D kl=true)∧ ∀r:ByteArray,memL L r=true→left (.string r.data.toList)=false→Lib.hasPrefix s.data.toList r.data.toList=false)∧Hid (Old w wr)) (fun _ wr=>wr.rangeLeft gm gr)
 ·exact ⟨⟨_,_,HR1,fun _ h=>h,fun r h1 h2=>by rw[uh HD r,h1] at h2;cases h2⟩,HO1⟩
 obtain ⟨HR,HO⟩:=hrel
 obtain ⟨left,cnt,hr,hl,hs⟩:=uh HR
 have HLE:Hid (wr.rangeLeft gm gr=cnt):=hr.left_eq
 have HHL:=hide hl
 have HHS:=hide hs
 clear HR1 HO1 hl hs HR
 go_wp2_with (at_next;refine wpList_next_ranges (mkK:=fun x:ByteArray=>Value.string x) (mkV:=fun _:Unit=>Value.agg #[]) _ rfl _ rfl 9 strKeyed unitElem (fun key kl h=>by obtain ⟨x,h,_⟩:=str_inv h;exact ⟨x,h⟩) (fun v y h=>⟨(),(unitElem_inv h).1⟩) gm gr n D left cnt rfl hr ?_ ?_)
 ·intro hc0 hl0
  have hans:ans=false:=by
   rw[uh HA,List.any_eq_false]
   intro x hx
   rw[uh HHS x (memL_iff.2 hx) (hl0 _)];exact fun h=>by cases h
  subst hans
  clear hr hl0
  go_wp2_with fail
  go_ret
  exact ⟨rfl,HO⟩
 intro x kl yd yp w1 cnt1 hwx hlx hRy hat hrg1 hlt hg1 hs1 hen
 obtain ⟨x',hx1,hx2⟩:=str_inv hwx
 injection hx1 with hx1
 subst hx1 hx2
 have hmem:memL L x=true:=by rw[←uh HD x];exact uh HHL _ hlx
 have HO1:Hid (Old w w1):=(uh HO).grown hg1 (fun k hk e=>by have:=Option.some.inj e;have:=uh HGR;omega)
 have HP:=hide (Tryz.strings_HasPrefix s x w1)
 have HHL' :Hid (∀kl,(left kl&& !kl.sameKey (.string x.data.toList))=true→has D kl=true):=fun kl h=>uh HHL kl (by rw[Bool.and_eq_true] at h;exact h.1)
 have HRG:=hide hrg1
 have HLT:Hid (cnt1<wr.rangeLeft gm gr):=by rw[uh HLE];exact hlt
 clear hat hRy hwx hlx hrg1 hg1 hs1 hlt hr HO HLE HHL
 cases hpf:Lib.hasPrefix s.data.toList x.data.toList with
 |true=>
  rw[hpf] at HP
  have hans:ans=true:=uh HIF x (memL_iff.1 hmem) hpf
  subst hans
  clear hpf HHS HIF HRG
  go_wp2_with fail
  refine (uh HP).mono ?_
  rintro e w2 ⟨rfl,rfl⟩
  clear hen
  go_wp2_with fail
  go_ret
  exact ⟨rfl,HO1⟩
 |false=>
  rw[hpf] at HP
  have HHS' :Hid (∀r:ByteArray,memL L r=true→(left (.string r.data.toList)&& !(Lit.string r.data.toList).sameKey (.string x.data.toList))=false→Lib.hasPrefix s.data.toList r.data.toList=false):=fun r hr hlr=>by
   by_cases e:r=x
   ·subst e;exact hpf
   rw[sameKey_ne (lit_ne e)] at hlr
   exact uh HHS r hr (by simpa using hlr)
  clear hpf HHS HIF
  go_wp2_with fail
  refine (uh HP).mono ?_
  rintro e w2 ⟨rfl,rfl⟩
  clear hen
  go_wp2_with fail
  go_roundw
  ·exact ⟨⟨_,_,HRG,HHL',HHS'⟩,HO1⟩
  rw[(uh HRG).left_eq];exact HLT
def whyP(L:List ByteArray)(e:Ent):Nat:=if e.ln then 1 else if hidP e.nm then 4 else if haveP L e.nm then 3 else if venP e.nm then 2 else if fileP e.nm then 0 else 5
theorem whyLeftA(e:Ent)(hs:e.nm.size≤2000000)(gm n:Nat)(L:List ByteArray)(w:World)(hm:MaxAt w)(hg:FoAt w gm n L):Calls Tryz.prog 47 #[.agg e.v,.map (some gm)] w fun r w' =>r=.returned (.int .i64 (whyP L e))∧Old w w' :=by
 obtain ⟨nm,ln,dt⟩:=e
 have hA:Old w (w.alloc (.cells #[.string nm,.bool ln,.string dt] 54)):=(Only.refl _ w).alloc _
 have hbx:=Go.heap_alloc_new w (.cells #[.string nm,.bool ln,.string dt] 54)
 have hc0:(w.alloc (.cells #[.string nm,.bool ln,.string dt] 54)).cell? ⟨w.heap.size,0,none⟩=some (.string nm):=by rw[cell_of_row _ _ 0 _ _ (0,0) hbx];rfl
 have hcL:(w.alloc (.cells #[.string nm,.bool ln,.string dt] 54)).cell? ⟨w.heap.size,1,none⟩=some (.bool ln):=by rw[cell_of_row _ _ 1 _ _ (0,0) hbx];rfl
 have HCK:Hid (∀W',Old (w.alloc (.cells #[.string nm,.bool ln,.string dt] 54)) W' →W'.cell? ⟨w.heap.size,0,none⟩=some (.string nm)):=fun W' ho=>(ho.cell (p:=⟨w.heap.size,0,none⟩) (by rw[World.size_alloc];exact Nat.lt_succ_self _) (fun x=>x)).trans hc0
 have HM:=hide (hm.old hA)
 have HG:=hide (hg.old hA)
 have HO:=hide hA
 have HD:Hid (whyP L ⟨nm,ln,dt⟩=if ln then 1 else if hidP nm then 4 else if haveP L nm then 3 else if venP nm then 2 else if fileP nm then 0 else 5):=rfl
 have H1:=hide (fun W h=>hiddenA nm hs W h)
 have H2:=hide (fun W h=>haveA gm n L nm W h)
 have H3:=hide (fun W h=>vendoredA nm hs W h)
 have H4:=hide (fun W h=>isFileA nm (by have:nm.size≤2000000:=hs;omega) W h)
 generalize whyP L ⟨nm,ln,dt⟩=ans at*
 generalize hidP nm=b1 at*
 generalize haveP L nm=b2 at*
 generalize venP nm=b3 at*
 generalize fileP nm=b4 at*
 clear hA hm hg hbx
 cases ln with
 |true=>
  have hans:ans=1:=by rw[uh HD];rfl
  subst hans
  clear HD
  go_in
  go_wp2_with fail
  go_ret
  exact ⟨rfl,HO⟩
 |false=>
 cases b1 with
 |true=>
  have hans:ans=4:=by rw[uh HD];rfl
  subst hans
  clear HD
  go_in
  go_wp2_with fail
  generalize hW:w.alloc (.cells #[.string nm,.bool false,.string dt] 54)=W at*
  have HR0:=hide (Only.refl (fun _=>False) W)
  clear hW
  refine (uh H1 W (uh HM)).mono ?_
  rintro e w1 ⟨rfl,ho1⟩
  have HR1:=hide (Only.trans (uh HR0) ho1)
  have HM1:=hide ((uh HM).old (uh HR1))
  have HG1:=hide ((uh HG).old (uh HR1))
  have hcc1:=uh HCK w1 (uh HR1)
  have HF1:=hide (Only.trans (uh HO) (uh HR1))
  clear ho1
  go_wp2_with fail
  go_ret
  exact ⟨rfl,HF1⟩
 |false=>
 cases b2 with
 |true=>
  have hans:ans=3:=by rw[uh HD];rfl
  subst hans
  clear HD
  go_in
  go_wp2_with fail
  generalize hW:w.alloc (.cells #[.string nm,.bool false,.string dt] 54)=W at*
  have HR0:=hide (Only.refl (fun _=>False) W)
  clear hW
  refine (uh H1 W (uh HM)).mono ?_
  rintro e w1 ⟨rfl,ho1⟩
  have HR1:=hide (Only.trans (uh HR0) ho1)
  have HM1:=hide ((uh HM).old (uh HR1))
  have HG1:=hide ((uh HG).old (uh HR1))
  have hcc1:=uh HCK w1 (uh HR1)
  have HF1:=hide (Only.trans (uh HO) (uh HR1))
  clear ho1
  go_wp2_with fail
  refine (uh H2 w1 (uh HG1)).mono ?_
  rintro e w2 ⟨rfl,ho2⟩
  have HR2:=hide (Only.trans (uh HR1) ho2)
  have HM2:=hide ((uh HM).old (uh HR2))
  have HG2:=hide ((uh HG).old (uh HR2))
  have hcc2:=uh HCK w2 (uh HR2)
  have HF2:=hide (Only.trans (uh HO) (uh HR2))
  clear ho2
  go_wp2_with fail
  go_ret
  exact ⟨rfl,HF2⟩
 |false=>
 cases b3 with
 |true=>
  have hans:ans=2:=by rw[uh HD];rfl
  subst hans
  clear HD
  go_in
  go_wp2_with fail
  generalize hW:w.alloc (.cells #[.string nm,.bool false,.string dt] 54)=W at*
  have HR0:=hide (Only.refl (fun _=>False) W)
  clear hW
  refine (uh H1 W (uh HM)).mono ?_
  rintro e w1 ⟨rfl,ho1⟩
  have HR1:=hide (Only.trans (uh HR0) ho1)
  have HM1:=hide ((uh HM).old (uh HR1))
  have HG1:=hide ((uh HG).old (uh HR1))
  have hcc1:=uh HCK w1 (uh HR1)
  have HF1:=hide (Only.trans (uh HO) (uh HR1))
  clear ho1
  go_wp2_with fail
  refine (uh H2 w1 (uh HG1)).mono ?_
  rintro e w2 ⟨rfl,ho2⟩
  have HR2:=hide (Only.trans (uh HR1) ho2)
  have HM2:=hide ((uh HM).old (uh HR2))
  have HG2:=hide ((uh HG).old (uh HR2))
  have hcc2:=uh HCK w2 (uh HR2)
  have HF2:=hide (Only.trans (uh HO) (uh HR2))
  clear ho2
  go_wp2_with fail
  refine (uh H3 w2 (uh HM2)).mono ?_
  rintro e w3 ⟨rfl,ho3⟩
  have HR3:=hide (Only.trans (uh HR2) ho3)
  have HM3:=hide ((uh HM).old (uh HR3))
  have HG3:=hide ((uh HG).old (uh HR3))
  have hcc3:=uh HCK w3 (uh HR3)
  have HF3:=hide (Only.trans (uh HO) (uh HR3))
  clear ho3
  go_wp2_with fail
  go_ret
  exact ⟨rfl,HF3⟩
 |false=>
 cases b4 with
 |true=>
  have hans:ans=0:=by rw[uh HD];rfl
  subst hans
  clear HD
  go_in
  go_wp2_with fail
  generalize hW:w.alloc (.cells #[.string nm,.bool false,.string dt] 54)=W at*
  have HR0:=hide (Only.refl (fun _=>False) W)
  clear hW
  refine (uh H1 W (uh HM)).mono ?_
  rintro e w1 ⟨rfl,ho1⟩
  have HR1:=hide (Only.trans (uh HR0) ho1)
  have HM1:=hide ((uh HM).old (uh HR1))
  have HG1:=hide ((uh HG).old (uh HR1))
  have hcc1:=uh HCK w1 (uh HR1)
  have HF1:=hide (Only.trans (uh HO) (uh HR1))
  clear ho1
  go_wp2_with fail
  refine (uh H2 w1 (uh HG1)).mono ?_
  rintro e w2 ⟨rfl,ho2⟩
  have HR2:=hide (Only.trans (uh HR1) ho2)
  have HM2:=hide ((uh HM).old (uh HR2))
  have HG2:=hide ((uh HG).old (uh HR2))
  have hcc2:=uh HCK w2 (uh HR2)
  have HF2:=hide (Only.trans (uh HO) (uh HR2))
  clear ho2
  go_wp2_with fail
  refine (uh H3 w2 (uh HM2)).mono ?_
  rintro e w3 ⟨rfl,ho3⟩
  have HR3:=hide (Only.trans (uh HR2) ho3)
  have HM3:=hide ((uh HM).old (uh HR3))
  have HG3:=hide ((uh HG).old (uh HR3))
  have hcc3:=uh HCK w3 (uh HR3)
  have HF3:=hide (Only.trans (uh HO) (uh HR3))
  clear ho3
  go_wp2_with fail
  refine (uh H4 w3 (uh HM3)).mono ?_
  rintro e w4 ⟨rfl,ho4⟩
  have HR4:=hide (Only.trans (uh HR3) ho4)
  have HM4:=hide ((uh HM).old (uh HR4))
  have HG4:=hide ((uh HG).old (uh HR4))
  have hcc4:=uh HCK w4 (uh HR4)
  have HF4:=hide (Only.trans (uh HO) (uh HR4))
  clear ho4
  go_wp2_with fail
  go_ret
  exact ⟨rfl,HF4⟩
 |false=>
  have hans:ans=5:=by rw[uh HD];rfl
  subst hans
  clear HD
  go_in
  go_wp2_with fail
  generalize hW:w.alloc (.cells #[.string nm,.bool false,.string dt] 54)=W at*
  have HR0:=hide (Only.refl (fun _=>False) W)
  clear hW
  refine (uh H1 W (uh HM)).mono ?_
  rintro e w1 ⟨rfl,ho1⟩
  have HR1:=hide (Only.trans (uh HR0) ho1)
  have HM1:=hide ((uh HM).old (uh HR1))
  have HG1:=hide ((uh HG).old (uh HR1))
  have hcc1:=uh HCK w1 (uh HR1)
  have HF1:=hide (Only.trans (uh HO) (uh HR1))
  clear ho1
  go_wp2_with fail
  refine (uh H2 w1 (uh HG1)).mono ?_
  rintro e w2 ⟨rfl,ho2⟩
  have HR2:=hide (Only.trans (uh HR1) ho2)
  have HM2:=hide ((uh HM).old (uh HR2))
  have HG2:=hide ((uh HG).old (uh HR2))
  have hcc2:=uh HCK w2 (uh HR2)
  have HF2:=hide (Only.trans (uh HO) (uh HR2))
  clear ho2
  go_wp2_with fail
  refine (uh H3 w2 (uh HM2)).mono ?_
  rintro e w3 ⟨rfl,ho3⟩
  have HR3:=hide (Only.trans (uh HR2) ho3)
  have HM3:=hide ((uh HM).old (uh HR3))
  have HG3:=hide ((uh HG).old (uh HR3))
  have hcc3:=uh HCK w3 (uh HR3)
  have HF3:=hide (Only.trans (uh HO) (uh HR3))
  clear ho3
  go_wp2_with fail
  refine (uh H4 w3 (uh HM3)).mono ?_
  rintro e w4 ⟨rfl,ho4⟩
  have HR4:=hide (Only.trans (uh HR3) ho4)
  have HM4:=hide ((uh HM).old (uh HR4))
  have HG4:=hide ((uh HG).old (uh HR4))
  have hcc4:=uh HCK w4 (uh HR4)
  have HF4:=hide (Only.trans (uh HO) (uh HR4))
  clear ho4
  go_wp2_with fail
  go_ret
  exact ⟨rfl,HF4⟩
end Go.Proofs.YtfbgamknfommpaaGreatDoor
