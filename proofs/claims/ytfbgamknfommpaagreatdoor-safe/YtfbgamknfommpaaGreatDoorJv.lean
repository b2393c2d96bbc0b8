import Derived.Test.YtfbgamknfommpaaGreatDoorJu
set_option maxRecDepth 100000
set_option maxHeartbeats 4000000
namespace Go.Proofs.YtfbgamknfommpaaGreatDoor
open Go.RowKit Go.Maps
def unpGo:List It→List Fl→List Fl×Nat
 |[],acc=>(acc,0)
 |it::r,acc=>if (datI it).2=0 then unpGo r (acc++[(it.name,(datI it).1)]) else ([],(datI it).2)
structure USt (its:List It) (i:Nat) (acc:List Fl):Prop where
 go:unpGo its []=unpGo (its.drop i) acc
 len:acc.length=i
theorem USt.start(its:List It):USt its 0 []:=⟨rfl,rfl⟩
theorem USt.end{its:List It}{i:Nat}{acc:List Fl}(h:USt its i acc)(hi:its.length≤i):unpGo its []=(acc,0):=by
 rw[h.go,List.drop_eq_nil_of_le hi];rfl
theorem USt.fault{its:List It}{i:Nat}{acc:List Fl}(h:USt its i acc)(hi:i<its.length)(he:(datI (its.getD i itD)).2≠0):unpGo its []=([],(datI (its.getD i itD)).2):=by
 rw[h.go,drop_getD its i hi,unpGo,if_neg he]
theorem USt.next{its:List It}{i:Nat}{acc:List Fl}(h:USt its i acc)(hi:i<its.length)(he:(datI (its.getD i itD)).2=0):USt its (i+1) (acc++[((its.getD i itD).name,(datI (its.getD i itD)).1)]):=
 ⟨by rw[h.go,drop_getD its i hi,unpGo,if_pos he],by rw[List.length_append,h.len];rfl⟩
def UnpPost(w w' :World)(r:Ending)(res:List Fl×Nat):Prop:=
 (res.2=0∧ ∃u,r=.returned (.tuple #[u,.int .i64 0])∧FilesAt w' u res.1∧ ∀b,u.ownBlock=some b→w.heap.size≤b)∨(res.2≠0∧r=.returned (.tuple #[.slice none 0 0,.int .i64 (res.2:Int)]))
theorem datI_size(it:It)(hok:it.ok):(datI it).1.size≤140737488355328:=by
 have h1:=unpI_size it hok
 unfold datI
 by_cases a:(unpI it).2≠0
 ·rw[if_pos a];exact Nat.zero_le _
 rw[if_neg a]
 by_cases b:checkOf (unpI it).1=it.check
 ·rw[if_pos b];exact h1
 rw[if_neg b];exact Nat.zero_le _
theorem unpackAllA(v:Value)(its:List It)(hn:its.length≤60)(hok: ∀i∈its,i.ok)(B:Nat→Prop)(w:World)(hord:OrdAt w)(hv:ItemsAt w B v its):
 Calls Tryz.prog 57 #[v] w fun r w' =>Old w w' ∧UnpPost w w' r (unpGo its []):=by
 obtain ⟨i0,hi0,hz0,hz1,hz2⟩:=info_parts infoF2
 obtain ⟨ao,cp,rfl⟩: ∃ao cp,v=.slice ao its.length cp:=by
  obtain ⟨⟨_,⟨rfl,hz⟩|⟨b',c',cur',rfl,_⟩⟩,_⟩:=hv
  ·rw[hz];exact ⟨none,0,rfl⟩
  exact ⟨_,_,rfl⟩
 have HV:=hide hv
 have HK:Hid (∀i,i<its.length→(its.getD i itD).ok):=fun i hi=>by rw[List.getD_eq_getElem?_getD,List.getElem?_eq_getElem hi];exact hok _ (List.getElem_mem hi)
 have HS:=hide (USt.start its)
 have HOR:=hide hord
 have HO:=hide (Only.refl (fun _=>False) w)
 have HF0:Hid (FilesAt w (.slice none 0 0) []):=World.ownsRow_nil w 0 _ 2
 clear hv hok hord
 go_in
 go_wp2_with fail
 go_loopw [4,6,7,8,11] (fun u _ _ _ x wr=> ∃(i:Nat) (acc:List Fl),i≤its.length∧x=.int .i64 i∧Hid (Old w wr)∧Hid (USt its i acc)∧Hid (FilesAt wr u acc)∧Hid (∀b,u.ownBlock=some b→w.heap.size≤b)) (fun _ _ _ _ x _=>its.length- (intOf x).toNat)
 ·exact ⟨0,[],by omega,rfl,HO,HS,HF0,fun b h=>by cases h⟩
 obtain ⟨i,acc,hi,rfl,HO1,HST,HFA,HUB⟩:=hrel
 clear HO HS HF0
 by_cases hil:i<its.length
 ·have hilI:(i:Int)<(its.length:Int):=by omega
  obtain ⟨g,cap0,hve,hgb,cur,hg,hcl⟩:=(uh HV).slice (by omega)
  have hgl:g<w.heap.size:=(Array.getElem?_eq_some_iff.1 hg).1
  injection hve with hv1 hv2 hv3
  subst hv1 hv3
  have hc:=fun c hc=>((uh HO1).cell (p:=⟨g,i*5+c,none⟩) hgl (fun x=>x)).trans (hcl i hil c hc)
  have HITK:=hide (uh HK i hil)
  have HNX:=hide ((uh HST).next hil)
  have HFT:=hide ((uh HST).fault hil)
  have HDZ:=hide (datI_size _ (uh HITK))
  have halb:acc.length≤60:=by have:=(uh HST).len;omega
  have HD:=hide (fun W h=>dataA (its.getD i itD) (uh HITK) W h)
  clear hcl hg hgl hgb hv2 HST
  generalize datI (its.getD i itD)=dd at*
  generalize its.getD i itD=it at*
  obtain ⟨nm,wy,ck,sz,pk⟩:=it
  obtain ⟨z,er⟩:=dd
  have q0:wr.cell? ⟨g,i*5,none⟩=some (.string nm):=hc 0 (by omega)
  have q1:wr.cell? ⟨g,i*5+1,none⟩=some (.int .u32 wy):=hc 1 (by omega)
  have q2:wr.cell? ⟨g,i*5+2,none⟩=some (.int .u32 ck):=hc 2 (by omega)
  have q3:wr.cell? ⟨g,i*5+3,none⟩=some (.int .u32 sz):=hc 3 (by omega)
  have q4:wr.cell? ⟨g,i*5+4,none⟩=some (.string pk):=hc 4 (by omega)
  obtain ⟨o1,o2,o3,o4,o5⟩:=uh HITK
  simp only[It.v] at o1 o2 o3 o4 o5 HNX HFT HD HDZ
  have hdz:=uh HDZ
  clear hc HITK
  have hA:Old wr (wr.alloc (.cells #[.string nm,.int .u32 (wy:Int),.int .u32 (ck:Int),.int .u32 (sz:Int),.string pk] 97)):=(Only.refl _ wr).alloc _
  have HI2:Hid (ItAt (wr.alloc (.cells #[.string nm,.int .u32 (wy:Int),.int .u32 (ck:Int),.int .u32 (sz:Int),.string pk] 97)) wr.heap.size ⟨nm,wy,ck,sz,pk⟩):=Go.heap_alloc_new wr _
  have HO2:=hide (Only.trans (uh HO1) hA)
  have HF2:=hide ((uh HFA).old hA)
  clear hA HFA HO1
  by_cases he:er=0
  ·subst he
   have HNY:Hid (USt its (i+1) (acc++[(nm,z)])):=by first|exact uh HNX trivial|exact uh HNX rfl
   clear HFT
   go_upto_region 5 with fail
   generalize wr.alloc (.cells #[.string nm,.int .u32 (wy:Int),.int .u32 (ck:Int),.int .u32 (sz:Int),.string pk] 97)=W at*
   clear q0 q1 q2 q3 q4
   obtain ⟨c0,c1,c2,c3,c4⟩:=(uh HI2).cells
   simp only at c0 c1 c2 c3 c4
   have H1:=hide (uh HD W (OrdAt.kept (uh HOR) (uh HO2) (fun x=>x)))
   go_wp2_with fail
   refine (uh H1).mono ?_
   rintro r w1 ⟨rfl,ho1⟩
   have HI3:=hide ((uh HI2).kept ho1 (fun x=>x))
   have HO3:=hide (Only.trans (uh HO2) ho1)
   have HF3:=hide ((uh HF2).old ho1)
   have n1:=(uh HI3).cells.1
   simp only at n1
   have H2:=hide (cloneX nm (by omega) w1)
   clear H1 ho1 HI2 HO2 HF2 c0 c1 c2 c3 c4 HD
   go_wp2_with fail
   refine (uh H2).mono ?_
   rintro r w2 ⟨rfl,ho2⟩
   have HO4:=hide (Only.trans (uh HO3) ho2)
   have HF4:=hide ((uh HF3).old ho2)
   have H3:=hide (cloneX z (by omega) w2)
   clear H2 ho2 HO3 HI3 HF3 n1
   go_wp2_with fail
   refine (uh H3).mono ?_
   rintro r w3 ⟨rfl,ho3⟩
   have hA3:Old w3 (w3.alloc (.cells #[.string nm,.string z] 56)):=(Only.refl _ w3).alloc _
   have HO5:=hide ((Only.trans (uh HO4) ho3).trans hA3)
   have HF5:=hide (((uh HF4).old ho3).old hA3)
   have HNW:=hide (new_cells w3 [.string nm,.string z] 56)
   have HSZ:Hid ((w3.alloc (.cells #[.string nm,.string z] 56)).heap.size=w3.heap.size+1):=by unfold Hid;rw[World.size_alloc]
   obtain ⟨ao,cp2,rfl⟩: ∃ao cp,u4=.slice ao acc.length cp:=by
    obtain ⟨_,⟨rfl,hz⟩|⟨b',c',cur',rfl,_⟩⟩:=uh HF5
    ·rw[hz];exact ⟨none,0,rfl⟩
    exact ⟨_,_,rfl⟩
   have HFN:Hid (∀g2 cap2 w6,w6.ownsRow 0 56 2 (.slice (some ⟨g2,0,none⟩) (acc.length+1) cap2) (acc.length+1) (flCells acc++[.string nm,.string z])→(w3.alloc (.cells #[.string nm,.string z] 56)).grownBy w6 (Value.slice ao acc.length cp2).ownBlock→((Value.slice ao acc.length cp2).ownBlock=some g2∨g2=w3.heap.size+1)→Old w w6∧FilesAt w6 (.slice (some ⟨g2,0,none⟩) (acc.length+1) cap2) (acc++[(nm,z)])∧w.heap.size≤g2):=fun g2 cap2 w6 h1 h2 h3=>by
    refine ⟨(uh HO5).grown h2 (fun k hk e=>absurd (uh HUB k e) (by omega)), ?_, ?_⟩
    ·show w6.ownsRow 0 56 2 _ (acc++[(nm,z)]).length (flCells (acc++[(nm,z)]))
     rw[flCells_app,List.length_append];exact h1
    rcases h3 with h|h
    ·exact uh HUB g2 h
    have h4:=(uh HO5).size
    have h5:=uh HSZ
    omega
   have HOW:Hid ((w3.alloc (.cells #[.string nm,.string z] 56)).ownsRow 0 56 2 (.slice ao acc.length cp2) acc.length (flCells acc)):=uh HF5
   clear ho3 hA3 H3 HO4 HF4 HO5 HF5
   go_wp2_with (at_builtin;refine wpList_append_lies _ rfl (.tmp 23) (.tmp 30) 29 rfl 0 56 i0 (.agg #[.string ⟨#[]⟩,.string ⟨#[]⟩]) 2 32 Tryz.underlying29 hi0 hz0 hz1 hz2 rfl (by omega) (.slice ao acc.length cp2) acc.length (flCells acc) rfl (uh HOW) ⟨w3.heap.size,0,none⟩ 1 1 [.string nm,.string z] rfl rfl (uh HNW) (by intro u hu;simp at hu;rcases hu with rfl|rfl<;>rfl) (by omega) (by unfold maxLen;omega) (by omega) (by omega) (w3.heap.size+1) (uh HSZ) ?_;intro gb cap2 w6 ho6 hg6 hl6 hlt6;have HX:=hide (uh HFN gb cap2 w6 ho6 hg6 hl6);clear ho6 hg6 hl6 hlt6)
   go_roundw
   ·exact ⟨i+1,acc++[(nm,z)],by omega,by go_num,hide (uh HX).1,HNY,hide (uh HX).2.1,fun b hb=>by have e:gb=b:=Option.some.inj (show some gb=some b from hb);subst e;exact (uh HX).2.2⟩
   case measure=>simp[intOf];omega
  have HANS:=hide (uh HFT he)
  have heI:((er:Int) !=0)=true:=by rw[bne_iff_ne];omega
  have heJ:¬(er:Int)=0:=by omega
  clear HFT HNX
  go_upto_region 5 with fail
  generalize wr.alloc (.cells #[.string nm,.int .u32 (wy:Int),.int .u32 (ck:Int),.int .u32 (sz:Int),.string pk] 97)=W at*
  clear q0 q1 q2 q3 q4
  obtain ⟨c0,c1,c2,c3,c4⟩:=(uh HI2).cells
  simp only at c0 c1 c2 c3 c4
  have H1:=hide (uh HD W (OrdAt.kept (uh HOR) (uh HO2) (fun x=>x)))
  go_wp2_with fail
  refine (uh H1).mono ?_
  rintro r w1 ⟨rfl,ho1⟩
  have HO3:=hide (Only.trans (uh HO2) ho1)
  clear H1 ho1 HI2 HO2 HF2 c0 c1 c2 c3 c4 HD
  go_wp2_with fail
  go_ret2
  exact ⟨HO3,by rw[uh HANS];exact .inr ⟨he,rfl⟩⟩
 have hilI:¬(i:Int)<(its.length:Int):=by omega
 have HANS:=hide ((uh HST).end (by omega))
 go_wp2_with fail
 go_ret2
 exact ⟨HO1,by rw[uh HANS];exact .inl ⟨rfl,_,rfl,HFA,HUB⟩⟩
def unpP(p s:ByteArray):List Fl×Nat:=
 if 40000<s.size then ([],1) else
 match readP p s with
 |none=>([],7)
 |some its=>if headsGo its (fun _=>none) 0=0 then unpGo its [] else ([],headsGo its (fun _=>none) 0)
theorem readGo_ok{p:ByteArray}: ∀(n:Nat) (rest:ByteArray) (its out:List It),readGo p n rest its=some out→rest.size≤40000→(∀i∈its,i.ok)→its.length≤60→(∀i∈out,i.ok)∧out.length≤60
 |0,rest,its,out,h,_,_,_=>by cases h
 |n+1,rest,its,out,h,hr,hk,hl=>by
  unfold readGo at h
  split at h
  ·injection h with h;subst h;exact ⟨hk,hl⟩
  split at h
  ·cases h
  rename_i it b hi
  split at h
  ·cases h
  rename_i hb
  obtain ⟨f1,f2,f3⟩:=itemR_facts hi hr
  refine readGo_ok n b (its++[it]) out h (by omega) ?_ ?_
  ·intro i hi
   rcases List.mem_append.1 hi with h2|h2
   ·exact hk i h2
   rw[List.mem_singleton] at h2;subst h2;exact f1
  have:its.length≠60:=by intro e;apply hb;unfold badB;rw[e];rfl
  rw[List.length_append];simp;omega
theorem readP_ok{p s:ByteArray}{its:List It}(h:readP p s=some its)(hs:s.size≤40000):(∀i∈its,i.ok)∧its.length≤60:=by
 unfold readP at h
 split at h
 ·cases h
 rename_i out ho
 split at h
 ·injection h with h;subst h
  exact readGo_ok _ _ _ _ ho hs (fun _ h=>by cases h) (by simp)
 cases h
theorem unpackA(p s:ByteArray)(hp:p.size≤1000)(hs:s.size≤9223372036854775807)(w:World)(hm:MaxAt w)(hord:OrdAt w):Calls Tryz.prog 29 #[.string p,.string s] w fun r w' =>Old w w' ∧UnpPost w w' r (unpP p s):=by
 have HU:Hid (unpP p s=if 40000<s.size then ([],1) else match readP p s with
  |none=>([],7)
  |some its=>if headsGo its (fun _=>none) 0=0 then unpGo its [] else ([],headsGo its (fun _=>none) 0)):=rfl
 by_cases hz:40000<s.size
 ·have hzI:(40000:Int)<(s.size:Int):=by omega
  have HA:Hid (unpP p s=([],1)):=by unfold Hid;rw[uh HU,if_pos hz]
  clear HU
  go_in
  go_wp2_with fail
  go_ret2
  exact ⟨Only.refl _ _,by rw[uh HA];exact .inr ⟨by decide,rfl⟩⟩
 have hzI:¬(40000:Int)<(s.size:Int):=by omega
 have hs4:s.size≤40000:=by omega
 have H1:=hide (readA p s hp hs4 w)
 have HM:=hide hm
 have HOR:=hide hord
 have HOKS:Hid (∀its,readP p s=some its→(∀i∈its,i.ok)∧its.length≤60):=fun its h=>readP_ok h hs4
 have HU:Hid (unpP p s=match readP p s with
  |none=>([],7)
  |some its=>if headsGo its (fun _=>none) 0=0 then unpGo its [] else ([],headsGo its (fun _=>none) 0)):=by unfold Hid;rw[uh HU,if_neg hz]
 clear hm hord
 cases hr:readP p s with
 |none=>
  rw[hr] at H1 HU
  clear hr HOKS
  go_in
  go_wp2_with fail
  refine (uh H1).mono ?_
  rintro r w1 ⟨ho1,hr1⟩
  unfold ReadPost at hr1
  subst hr1
  have HO1:=hide ho1
  clear ho1 H1
  go_wp2_with fail
  go_ret2
  exact ⟨HO1,by rw[uh HU];exact .inr ⟨by decide,rfl⟩⟩
 |some its=>
  rw[hr] at H1 HU
  obtain ⟨hk,hl⟩:=uh HOKS its hr
  have HU:Hid (unpP p s=if headsGo its (fun _=>none) 0=0 then unpGo its [] else ([],headsGo its (fun _=>none) 0)):=uh HU
  have H2:=hide (fun v W hm hv=>headsA v its hl hk (fun k=>w.heap.size≤k) W hm hv)
  have H3:=hide (fun v W ho hv=>unpackAllA v its hl hk (fun k=>w.heap.size≤k) W ho hv)
  clear hr HOKS hk hl
  generalize headsGo its (fun _=>none) 0=he at*
  generalize unpGo its []=res at*
  go_in
  go_wp2_with fail
  refine (uh H1).mono ?_
  rintro r w1 ⟨ho1,v,rfl,hv1⟩
  have HO1:=hide ho1
  have HV1:=hide hv1
  have H2:=hide (uh H2 v w1 ((uh HM).old ho1) hv1)
  clear ho1 hv1 H1
  go_wp2_with fail
  refine (uh H2).mono ?_
  rintro r w2 ⟨rfl,ho2⟩
  have HO2:=hide (Only.trans (uh HO1) ho2)
  have H3:=hide (uh H3 v w2 (OrdAt.kept (uh HOR) (uh HO2) (fun x=>x)) ((uh HV1).kept ho2 (fun _ _ x=>x)))
  clear ho2 H2 HO1 HV1
  by_cases h0:he=0
  ·subst h0
   rw[if_pos rfl] at HU
   go_wp2_with fail
   refine (uh H3).mono ?_
   rintro r w3 ⟨ho3,hr3⟩
   have HO3:=hide (Only.trans (uh HO2) ho3)
   have HS:=hide (uh HO2).size
   clear ho3 H3
   rcases hr3 with ⟨e0,u,rfl,hf,hb⟩|⟨e1,rfl⟩
   ·have HF:=hide hf
    have HB:=hide hb
    have HE:=hide e0
    clear hf hb e0
    go_wp2_with fail
    go_ret2
    exact ⟨HO3,by rw[uh HU];exact .inl ⟨HE,u,rfl,HF,fun b hb=>Nat.le_trans (uh HS) (uh HB b hb)⟩⟩
   have HE:=hide e1
   clear e1
   go_wp2_with fail
   go_ret2
   exact ⟨HO3,by rw[uh HU];exact .inr ⟨HE,rfl⟩⟩
  rw[if_neg h0] at HU
  have h0I:((he:Int) !=0)=true:=by rw[bne_iff_ne];omega
  have h0J:¬(he:Int)=0:=by omega
  go_wp2_with fail
  go_ret2
  exact ⟨HO2,by rw[uh HU];exact .inr ⟨h0,rfl⟩⟩
theorem vUnpackA(s:ByteArray)(hs:s.size≤9223372036854775807)(w:World)(hm:MaxAt w)(hord:OrdAt w):Calls Tryz.prog 7 #[.string sMod,.string sVer,.string s] w fun r w' =>Old w w' ∧UnpPost w w' r (unpP sPre s):=by
 have H1:=hide (prefixC w hm)
 have H2:=hide (fun W h1 h2=>unpackA sPre s (by decide) hs W h1 h2)
 have HM:=hide hm
 have HOR:=hide hord
 clear hm hord
 generalize unpP sPre s=res at*
 go_in
 go_wp2_with fail
 refine (uh H1).mono ?_
 rintro r w1 ⟨rfl,ho1⟩
 have HO1:=hide ho1
 have HS:=hide ho1.size
 have H2:=hide (uh H2 w1 ((uh HM).old ho1) (OrdAt.kept (uh HOR) ho1 (fun x=>x)))
 clear ho1 H1
 go_wp2_with fail
 refine (uh H2).mono ?_
 rintro r w3 ⟨ho3,hr3⟩
 have HO3:=hide (Only.trans (uh HO1) ho3)
 clear ho3 H2
 rcases hr3 with ⟨e0,u,rfl,hf,hb⟩|⟨e1,rfl⟩
 ·have HF:=hide hf
  have HB:=hide hb
  have HE:=hide e0
  clear hf hb e0
  go_wp2_with fail
  go_ret2
  exact ⟨HO3,.inl ⟨HE,u,rfl,HF,fun b hb=>Nat.le_trans (uh HS) (uh HB b hb)⟩⟩
 have HE:=hide e1
 clear e1
 go_wp2_with fail
 go_ret2
 exact ⟨HO3,.inr ⟨HE,rfl⟩⟩
theorem btN_strB(l:List UInt8)(i:Nat)(h:i<l.length):btN (strB l) i=(l[i]).toNat:=by
 have h2:i<(strB l).size:=by rw[strB_size];exact h
 unfold btN
 rw[dif_pos h2]
 rfl
theorem leB_get(v n k:Nat)(h:k<n):(leB v n)[k]? =some (b8 (v/2^(8*k)%256)):=by simp[leB,h]
theorem numL_mod(l pre post:List UInt8)(v n:Nat)(hl:l=pre++leB v n++post): ∀k,k≤n→numL (strB l) pre.length k=v%2^(8*k)
 |0,_=>by rw[numL,Nat.mul_zero,Nat.pow_zero,Nat.mod_one]
 |k+1,hk=>by
  have ih:=numL_mod l pre post v n hl k (by omega)
  have hlen:pre.length+k<l.length:=by rw[hl];simp only[List.length_append,leB_len];omega
  have hg:l[pre.length+k]? =some (b8 (v/2^(8*k)%256)):=by
   rw[hl,List.append_assoc,List.getElem?_append_right (by omega),Nat.add_sub_cancel_left,List.getElem?_append_left (by rw[leB_len];omega),leB_get v n k (by omega)]
  rw[List.getElem?_eq_getElem hlen] at hg
  have hb:btN (strB l) (pre.length+k)=v/2^(8*k)%256:=by
   rw[btN_strB l _ hlen,Option.some.inj hg,b8_toNat (Nat.mod_lt _ (by omega))]
  rw[numL,ih,hb,show 8*(k+1)=8*k+8 by omega,Nat.pow_add,Nat.mod_mul,Nat.mul_comm (2^(8*k)) (v/2^(8*k)%2^8)]
theorem numL_at{l pre post:List UInt8}{v n a:Nat}(hl:l=pre++leB v n++post)(ha:pre.length=a)(hv:v<2^(8*n)):numL (strB l) a n=v:=by
 rw[←ha,numL_mod l pre post v n hl n (Nat.le_refl _),Nat.mod_eq_of_lt hv]
theorem strB_extract(pre mid post:List UInt8)(a b:Nat)(ha:pre.length=a)(hb:a+mid.length=b):(strB (pre++mid++post)).extract a b=strB mid:=by
 apply ByteArray.ext
 apply Array.ext'
 simp[strB,ByteArray.data_extract,←ha,←hb,List.append_assoc]
theorem hasPrefix_app(p t:List UInt8):Lib.hasPrefix (p++t) p=true:=by
 unfold Lib.hasPrefix
 exact List.isPrefixOf_iff_prefix.2 (List.prefix_append p t)
theorem trimPrefix_app(p t:List UInt8):Lib.trimPrefix (p++t) p=t:=by
 unfold Lib.trimPrefix
 rw[if_pos (hasPrefix_app p t)]
 simp
structure ItRd (p:ByteArray) (it:It):Prop where
 way:it.way=0∨it.way=8
 check:it.check<4294967296
 size:it.size<4294967296
 packed:it.packed.size<4294967296
 name:p.size+it.name.size<65536
theorem itemR_local(p:ByteArray)(it:It)(h:ItRd p it)(t:List UInt8):itemR p (strB (localL p it++t))=some (it,strB t):=by
 obtain ⟨nm,wy,ck,sz,pk⟩:=it
 obtain ⟨h1,h2,h3,h4,h5⟩:=h
 simp only at h1 h2 h3 h4 h5
 have hl:localL p ⟨nm,wy,ck,sz,pk⟩++t=sL mkL++leB 20 2++leB 0 2++leB wy 2++leB 0 2++leB 33 2++leB ck 4++leB pk.size 4++leB sz 4++leB (p.size+nm.size) 2++leB 0 2++(sL p++sL nm)++sL pk++t:=by
  unfold localL toldL leAll
  simp only[List.flatMap_cons,List.flatMap_nil,List.append_nil,List.append_assoc,sL_app]
 have hm:(sL mkL).length=4:=by decide
 have n1:numL (strB (localL p ⟨nm,wy,ck,sz,pk⟩++t)) 8 2=wy:=numL_at (pre:=sL mkL++leB 20 2++leB 0 2) (post:=leB 0 2++leB 33 2++leB ck 4++leB pk.size 4++leB sz 4++leB (p.size+nm.size) 2++leB 0 2++(sL p++sL nm)++sL pk++t) (by rw[hl];simp only[List.append_assoc]) (by simp only[List.length_append,leB_len,hm]) (by omega)
 have n2:numL (strB (localL p ⟨nm,wy,ck,sz,pk⟩++t)) 14 4=ck:=numL_at (pre:=sL mkL++leB 20 2++leB 0 2++leB wy 2++leB 0 2++leB 33 2) (post:=leB pk.size 4++leB sz 4++leB (p.size+nm.size) 2++leB 0 2++(sL p++sL nm)++sL pk++t) (by rw[hl];simp only[List.append_assoc]) (by simp only[List.length_append,leB_len,hm]) (by omega)
 have n3:numL (strB (localL p ⟨nm,wy,ck,sz,pk⟩++t)) 18 4=pk.size:=numL_at (pre:=sL mkL++leB 20 2++leB 0 2++leB wy 2++leB 0 2++leB 33 2++leB ck 4) (post:=leB sz 4++leB (p.size+nm.size) 2++leB 0 2++(sL p++sL nm)++sL pk++t) (by rw[hl];simp only[List.append_assoc]) (by simp only[List.length_append,leB_len,hm]) (by omega)
 have n4:numL (strB (localL p ⟨nm,wy,ck,sz,pk⟩++t)) 22 4=sz:=numL_at (pre:=sL mkL++leB 20 2++leB 0 2++leB wy 2++leB 0 2++leB 33 2++leB ck 4++leB pk.size 4) (post:=leB (p.size+nm.size) 2++leB 0 2++(sL p++sL nm)++sL pk++t) (by rw[hl];simp only[List.append_assoc]) (by simp only[List.length_append,leB_len,hm]) (by omega)
 have n5:numL (strB (localL p ⟨nm,wy,ck,sz,pk⟩++t)) 26 2=p.size+nm.size:=numL_at (pre:=sL mkL++leB 20 2++leB 0 2++leB wy 2++leB 0 2++leB 33 2++leB ck 4++leB pk.size 4++leB sz 4) (post:=leB 0 2++(sL p++sL nm)++sL pk++t) (by rw[hl];simp only[List.append_assoc]) (by simp only[List.length_append,leB_len,hm]) (by omega)
 have hz:(strB (localL p ⟨nm,wy,ck,sz,pk⟩++t)).size=30+(p.size+nm.size)+pk.size+t.length:=by rw[strB_size,List.length_append,localL_len]
 have hd:localL p ⟨nm,wy,ck,sz,pk⟩++t=(sL mkL++toldL p ⟨nm,wy,ck,sz,pk⟩)++(sL p++sL nm)++(sL pk++t):=by unfold localL;simp only[List.append_assoc,sL_app]
 have hh:(sL mkL++toldL p ⟨nm,wy,ck,sz,pk⟩).length=30:=by rw[List.length_append,toldL_len,hm]
 have x1:(strB (localL p ⟨nm,wy,ck,sz,pk⟩++t)).extract 30 (30+(p.size+nm.size))=strB (sL p++sL nm):=by rw[hd];exact strB_extract _ _ _ _ _ hh (by rw[List.length_append,sL_len,sL_len])
 have x2:(strB (localL p ⟨nm,wy,ck,sz,pk⟩++t)).extract (30+(p.size+nm.size)) (30+(p.size+nm.size)+pk.size)=pk:=by
  have e:localL p ⟨nm,wy,ck,sz,pk⟩++t=((sL mkL++toldL p ⟨nm,wy,ck,sz,pk⟩)++(sL p++sL nm))++sL pk++t:=by rw[hd];simp only[List.append_assoc]
  rw[e,strB_extract _ _ _ (30+(p.size+nm.size)) _ (by rw[List.length_append,hh,List.length_append,sL_len,sL_len]) (by rw[sL_len]),strB_sL]
 have x3:(strB (localL p ⟨nm,wy,ck,sz,pk⟩++t)).extract (30+(p.size+nm.size)+pk.size) (30+(p.size+nm.size)+pk.size+t.length)=strB t:=by
  have e:localL p ⟨nm,wy,ck,sz,pk⟩++t=localL p ⟨nm,wy,ck,sz,pk⟩++t++[]:=by rw[List.append_nil]
  rw[e];exact strB_extract _ _ _ _ _ (localL_len p nm pk wy ck sz) rfl
 unfold itemR
 rw[n1,n2,n3,n4,n5,hz,x1,x2,x3]
 have xp:Lib.hasPrefix (strB (sL p++sL nm)).data.toList p.data.toList=true:=by
  have:(strB (sL p++sL nm)).data.toList=sL p++sL nm:=sL_strB _
  rw[this];exact hasPrefix_app _ _
 have xt:Lib.trimPrefix (strB (sL p++sL nm)).data.toList p.data.toList=sL nm:=by
  have:(strB (sL p++sL nm)).data.toList=sL p++sL nm:=sL_strB _
  rw[this];exact trimPrefix_app _ _
 rw[if_neg (by omega),if_neg (by omega),xp,if_neg (by decide),if_neg (by omega),xt]
 have:(⟨(sL nm).toArray⟩:ByteArray)=nm:=strB_sL nm
 rw[this]
def Rising(its:List It):Prop:=its.Pairwise (fun a b=>a.name.data.toList<b.name.data.toList)
theorem readGo_locs(p:ByteArray)(t:List UInt8)(ht:Lib.hasPrefix t mkL.data.toList=false): ∀(its acc:List It) (n:Nat),(∀i∈its,ItRd p i)→Rising (acc++its)→(acc++its).length≤60→its.length<n→readGo p n (strB (locsL p its++t)) acc=some (acc++its)
 |[],acc,n+1,_,_,_,_=>by
  have e:locsL p []++t=t:=rfl
  rw[e,readGo,if_pos (by show Lib.hasPrefix (sL (strB t)) _=_;rw[sL_strB];exact ht),List.append_nil]
 |it::r,acc,n+1,hr,hs,hl,hn=>by
  have e:locsL p (it::r)++t=localL p it++(locsL p r++t):=by simp[locsL]
  have hp:Lib.hasPrefix (strB (localL p it++(locsL p r++t))).data.toList mkL.data.toList=true:=by
   have e2:(strB (localL p it++(locsL p r++t))).data.toList=localL p it++(locsL p r++t):=sL_strB _
   rw[e2]
   unfold localL
   simp only[List.append_assoc]
   exact hasPrefix_app _ _
  have hb:badB acc it=false:=by
   unfold badB
   have h60:acc.length≠60:=by
    rw[List.length_append,List.length_cons] at hl;omega
   rw[show (acc.length==60)=false from by rw[beq_eq_false_iff_ne];exact h60,Bool.false_or]
   by_cases h0:0<acc.length
   ·rw[decide_eq_true h0,Bool.true_and]
    have hlt:(acc.getD (acc.length- 1) itD).name.data.toList<it.name.data.toList:=by
     have h1:acc.length- 1<acc.length:=by omega
     rw[List.getD_eq_getElem?_getD,List.getElem?_eq_getElem h1]
     exact (List.pairwise_append.1 hs).2.2 _ (List.getElem_mem h1) _ (List.mem_cons_self ..)
    rw[decide_eq_true hlt];rfl
   rw[decide_eq_false h0,Bool.false_and]
  rw[e,readGo,if_neg (by rw[hp];decide),itemR_local p it (hr it (List.mem_cons_self ..))]
  simp only[hb,Bool.false_eq_true,if_false]
  have e3:acc++it::r=acc++[it]++r:=by simp
  rw[readGo_locs p t ht r (acc++[it]) n (fun i hi=>hr i (List.mem_cons_of_mem _ hi)) (by rw[←e3];exact hs) (by rw[←e3];exact hl) (by simp at hn;omega),←e3]
theorem cents_noL(p:ByteArray)(its:List It)(c a b:Nat):Lib.hasPrefix (centsN p its its.length++endL c a b) mkL.data.toList=false:=by
 cases its with
 |nil=>
  show Lib.hasPrefix ([]++endL c a b) _=false
  unfold endL
  rfl
 |cons it r=>
  have h: ∃x,centsN p (it::r) (it::r).length=sL mkC++x:=by
   have h1: ∀n,∃x,centsN p (it::r) (n+1)=sL mkC++x:=by
    intro n
    induction n with
    |zero=>
     refine ⟨leAll [20] 2++toldL p it++leAll [0,0,0] 2++leAll [0,0] 4++sL (p++it.name), ?_⟩
     have:centsN p (it::r) (0+1)=centralL p it 0:=by rw[centsN_succ];rfl
     rw[this,centralL]
     simp only[List.append_assoc]
    |succ n ih=>
     obtain ⟨x,hx⟩:=ih
     exact ⟨x++centralL p ((it::r).getD (n+1) itD) (locsL p ((it::r).take (n+1))).length,by rw[centsN_succ,hx,List.append_assoc]⟩
   exact h1 r.length
  obtain ⟨x,hx⟩:=h
  rw[hx]
  rfl
theorem readP_laid(p:ByteArray)(its:List It)(hr: ∀i∈its,ItRd p i)(hs:Rising its)(hl:its.length≤60)(hp:0<p.size):readP p (strB (laidL p its))=some its:=by
 have hn:its.length<(strB (laidL p its)).size+1:=by
  have h1:its.length≤(locsL p its).length:=by
   clear hr hs hl
   induction its with
   |nil=>simp
   |cons a r ih=>
    have e:locsL p (a::r)=localL p a++locsL p r:=by simp[locsL]
    rw[e,List.length_append,List.length_cons]
    have h2:30≤(localL p a).length:=by obtain ⟨_,_,_,_,_⟩:=a;rw[localL_len];omega
    omega
  rw[strB_size,laidL,List.length_append,List.length_append];omega
 have e:laidL p its=locsL p its++(centsN p its its.length++endL its.length (centsN p its its.length).length (locsL p its).length):=by rw[laidL,List.append_assoc]
 unfold readP
 rw[show readGo p ((strB (laidL p its)).size+1) (strB (laidL p its)) []=some its from by
  have:=readGo_locs p _ (cents_noL p its its.length (centsN p its its.length).length (locsL p its).length) its [] ((strB (laidL p its)).size+1) hr (by rw[List.nil_append];exact hs) (by rw[List.nil_append];exact hl) hn
  rw[List.nil_append,←e] at this
  exact this]
 simp
end Go.Proofs.YtfbgamknfommpaaGreatDoor
