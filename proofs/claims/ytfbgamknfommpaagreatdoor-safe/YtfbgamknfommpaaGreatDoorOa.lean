import Derived.Test.YtfbgamknfommpaaGreatDoorLo
import Derived.Test.YtfbgamknfommpaaGreatDoorJr
set_option maxRecDepth 100000
set_option maxHeartbeats 4000000
namespace Go.Proofs.YtfbgamknfommpaaGreatDoor
open Go.RowKit Go.Maps
def nmFree(s:ByteArray):Bool:=nmOk s&& !hidP s&& !venP s&& !Lib.hasSuffix s.data.toList sGoS.data.toList
theorem nmFree_all{n f:Nat}(hn:n<26)(hf:f<4):nmFree (nmP n f)=true:=by
 have h:(List.range 26).all (fun n=>(List.range 4).all (fun f=>nmFree (nmP n f)))=true:=by kernel_rfl
 exact List.all_eq_true.1 (List.all_eq_true.1 h n (List.mem_range.2 hn)) f (List.mem_range.2 hf)
structure Free (T:List Ent):Prop where
 form: ∀e∈T,nmFree e.nm=true∧e.ln=false∧e.dt.size≤600
 apart:T.Pairwise (fun a b=>a.nm≠b.nm)
 len:T.length≤20
theorem free_of{T:List Ent}(h:Made T)(hl:T.length≤20):Free T:=by
 refine ⟨fun e he=> ?_,h.apart,hl⟩
 obtain ⟨n,f,h1,h2,h3,h4,h5⟩:=h.form e he
 exact ⟨by rw[h3];exact nmFree_all h1 h2,h4,h5⟩
theorem Free.perm{T U:List Ent}(h:Free T)(hp:U.Perm T):Free U:=
 ⟨fun e he=>h.form e (hp.mem_iff.1 he),(hp.pairwise_iff (fun {a b} h=>h.symm)).2 h.apart,by rw[hp.length_eq];exact h.len⟩
theorem nmFree_facts{s:ByteArray}(h:nmFree s=true):nmOk s=true∧hidP s=false∧venP s=false∧Lib.hasSuffix s.data.toList sGoS.data.toList=false:=by
 unfold nmFree at h
 simp only[Bool.and_eq_true,Bool.not_eq_true'] at h
 exact ⟨h.1.1.1,h.1.1.2,h.1.2,h.2⟩
theorem Free.nest{T:List Ent}(h:Free T):nestL T=[]:=by
 unfold nestL
 rw[List.filter_eq_nil_iff.2]
 ·rfl
 intro e he
 unfold ownP
 rw[(nmFree_facts (h.form e he).1).2.2.2,Bool.and_false]
 decide
theorem Free.why{T:List Ent}(h:Free T){e:Ent}(he:e∈T):whyP [] e=0:=by
 obtain ⟨h1,h2,_⟩:=h.form e he
 obtain ⟨g1,g2,g3,_⟩:=nmFree_facts h1
 unfold whyP
 rw[h2,g2,g3,(nmOk_facts g1).1]
 rfl
theorem Free.taken{T:List Ent}(h:Free T)(U:List Ent)(hu: ∀e∈U,e∈T):takenL [] U=U∧leftL [] U=[]:=by
 refine ⟨?_, ?_⟩
 ·unfold takenL
  exact List.filter_eq_self.2 (fun e he=>by rw[h.why (hu e he)];rfl)
 unfold leftL
 exact List.filter_eq_nil_iff.2 (fun e he=>by rw[h.why (hu e he)];decide)
theorem Free.go{T:List Ent}(h:Free T):(cgo (nestL T) T).fs=T.map (fun e=>(e.nm,e.dt))∧(cgo (nestL T) T).lf=[]:=by
 obtain ⟨h1,h2⟩:=h.taken T (fun e he=>he)
 rw[h.nest,cgo_fs,cgo_lf,h1,h2]
 exact ⟨rfl,rfl⟩
theorem inv_fold: ∀(U:List Ent) (f:Tab) (N:List ByteArray),(∀e∈U,nmOk e.nm=true)→Inv f N→Inv (U.foldl (fun f e=>addP f e.nm) f) (N++U.map (fun e=>e.nm))
 |[],f,N,_,h=>by rw[List.map_nil,List.append_nil];exact h
 |e::U,f,N,hu,h=>by
  rw[List.foldl_cons,List.map_cons]
  have:=inv_fold U (addP f e.nm) (N++[e.nm]) (fun x hx=>hu x (List.mem_cons_of_mem _ hx)) (h.add (hu e (List.mem_cons_self ..)))
  rw[List.append_assoc] at this
  exact this
theorem Free.ok{T:List Ent}(h:Free T):COk T:=by
 intro i hi _
 have hT:=h.taken (T.take i) (fun e he=>List.mem_of_mem_take he)
 rw[h.nest]
 have hmem:T.getD i ent0∈T:=by rw[getD_lt hi];exact List.getElem_mem hi
 obtain ⟨f1,_,f3⟩:=h.form _ hmem
 obtain ⟨g1,_,_,_⟩:=nmFree_facts f1
 obtain ⟨k1,k2,k3,_,_,_⟩:=nmOk_facts g1
 have hlen:=h.len
 have hsum:((T.take i).map (fun e=>e.dt.size)).sum≤(T.take i).length*600:=sumD_le _ 600 (fun e he=>(h.form e (List.mem_of_mem_take he)).2.2)
 rw[List.length_take] at hsum
 unfold cfault
 rw[cgo_tb,cgo_fs,cgo_all,hT.1,List.length_map,List.length_take]
 have hI:=inv_fold (T.take i) (fun _=>none) [] (fun e he=>(nmFree_facts (h.form e (List.mem_of_mem_take he)).1).1) Inv.nil
 rw[List.nil_append] at hI
 have hcl:=hI.clash (s:=(T.getD i ent0).nm) g1 (fun r hr=>by
  obtain ⟨e,he,rfl⟩:=List.mem_map.1 hr
  exact (nmFree_facts (h.form e (List.mem_of_mem_take he)).1).1) (by
  intro hm
  obtain ⟨e,he,hee⟩:=List.mem_map.1 hm
  obtain ⟨j,hj,rfl⟩:=List.mem_take_iff_getElem.1 he
  have:=(List.pairwise_iff_getElem.1 h.apart) j i (by omega) hi (by omega)
  rw[getD_lt hi] at hee
  exact this hee)
 have hot:(decide ((T.getD i ent0).nm≠sGo)&&decide (lowP (T.getD i ent0).nm=sGo))=false:=k2
 rw[hcl,hot]
 rw[if_neg (by decide),if_neg (by decide),if_neg (by omega),if_neg (by omega),if_neg (by omega)]
theorem Free.small{T:List Ent}(h:Free T): ∀e∈T,e.nm.size≤2000000:=fun e he=>by
 have:=(nmOk_facts (nmFree_facts (h.form e he).1).1).2.2.2.2.1
 omega
theorem Free.files{T:List Ent}(h:Free T):(cgo (nestL T) T).fs.Pairwise (fun a b=>a.1≠b.1):=by
 rw[h.go.1]
 exact List.pairwise_map.2 h.apart
theorem nestedE(ao:Option Addr)(gt cap:Nat)(T:List Ent)(hT:T.length≤1000)(hs: ∀e∈T,e.nm.size≤2000000)(w:World)(ht:EntsAt w gt T)(hgt:gt<w.heap.size)(hao:0<T.length→ao=some ⟨gt,0,none⟩):Calls Tryz.prog 46 #[.slice ao T.length cap] w fun r w' =>r=.returned (.map (some w.heap.size))∧Old w w' ∧FoAt w' w.heap.size T.length (nestL T):=by
 have hmm:= @run_makeMap Tryz.prog
 have HO:Hid (Old w (w.alloc (.map #[] 0))):=(Only.refl _ w).alloc _
 have HG:Hid (FoAt (w.alloc (.map #[] 0)) w.heap.size 0 (nestL (T.take 0))):=FoAt.made w
 have HAO:=hide hao
 have HT:=hide ht
 have HS:=hide hs
 have HGT:=hide hgt
 clear ht hs hgt hao
 go_in
 go_wp2_with fail
 clear hmm
 go_loopw [5,9] (fun _ x wr=> ∃i:Nat,i≤T.length∧x=.int .i64 i∧Hid (Old w wr)∧Hid (FoAt wr w.heap.size i (nestL (T.take i)))) (fun _ x _=>T.length- (intOf x).toNat)
 ·exact ⟨0,by omega,rfl,HO,HG⟩
 obtain ⟨i,hi,rfl,HO,HG⟩:=hrel
 by_cases hil:i<T.length
 ·have hilI:(i:Int)<(T.length:Int):=by omega
  have hao:=uh HAO (by omega)
  subst hao
  obtain ⟨_,h1,h2,h3⟩:=(uh HT).old (uh HO) i hil
  have hns:(T.getD i ent0).nm.size≤2000000:=by rw[List.getD_eq_getElem?_getD,List.getElem?_eq_getElem hil];exact uh HS _ (List.getElem_mem hil)
  have HY:=hide (nestL_yes T i hil)
  have HN:=hide (nestL_no T i hil)
  have HOP:Hid (ownP (T.getD i ent0)=(!(T.getD i ent0).ln&&Lib.hasSuffix (T.getD i ent0).nm.data.toList sGoS.data.toList)):=rfl
  have HFO:Hid (foOf (T.getD i ent0)=⟨(Lib.trimSuffix (T.getD i ent0).nm.data.toList sGo.data.toList).toArray⟩):=rfl
  have hfs:=foOf_size (T.getD i ent0)
  generalize ownP (T.getD i ent0)=op at*
  generalize foOf (T.getD i ent0)=fo at*
  generalize nestL (T.take i)=L at*
  generalize T.getD i ent0=e at*
  obtain ⟨nm,ln,dt⟩:=e
  simp only at*
  have hA:Old wr (wr.alloc (.cells #[.string nm,.bool ln,.string dt] 54)):=(Only.refl _ wr).alloc _
  have hbx:=Go.heap_alloc_new wr (.cells #[.string nm,.bool ln,.string dt] 54)
  have HOA:=hide (Only.trans (uh HO) hA)
  have HGA:=hide ((uh HG).old hA)
  have H1:=hide (Tryz.strings_HasSuffix nm sGoS (wr.alloc (.cells #[.string nm,.bool ln,.string dt] 54)) (by omega))
  have H2:=hide (Tryz.strings_TrimSuffix nm sGo (wr.alloc (.cells #[.string nm,.bool ln,.string dt] 54)) (by omega))
  have HPT:Hid (∃w2,(Instr.mapUpdate 81 (.map (some w.heap.size)) (.string fo) (.agg #[])).run Tryz.prog (wr.alloc (.cells #[.string nm,.bool ln,.string dt] 54))=.ok () w2∧FoAt w2 w.heap.size (i+1) (L++[fo])∧Only (fun k=>k=w.heap.size) (wr.alloc (.cells #[.string nm,.bool ln,.string dt] 54)) w2):=(uh HGA).put fo (by unfold maxLen;omega) (by unfold maxLen;omega)
  rw[←uh HFO] at H2
  clear hA HO HG HFO
  generalize Lib.hasSuffix nm.data.toList sGoS.data.toList=hsf at*
  cases ln with
  |true=>
   have HN:=hide (uh HN (by rw[uh HOP];rfl))
   clear HY HOP HPT H1 H2
   have HG2:Hid (FoAt (wr.alloc (.cells #[.string nm,.bool true,.string dt] 54)) w.heap.size (i+1) (nestL (T.take (i+1)))):=by rw[uh HN];exact (uh HGA).mono (by omega)
   clear HGA hbx
   go_wp2_with fail
   go_roundw
   ·exact ⟨i+1,by omega,by go_num,HOA,HG2⟩
   case measure=>simp[intOf];omega
  |false=>
   cases hsf with
   |false=>
    have HN:=hide (uh HN (by rw[uh HOP];rfl))
    clear HY HOP HPT H2
    have HG2:Hid (FoAt (wr.alloc (.cells #[.string nm,.bool false,.string dt] 54)) w.heap.size (i+1) (nestL (T.take (i+1)))):=by rw[uh HN];exact (uh HGA).mono (by omega)
    clear HGA hbx
    go_wp2_with fail
    refine (uh H1).mono ?_
    rintro e w' ⟨rfl,rfl⟩
    clear H1 h1 h2 h3
    go_wp2_with fail
    go_roundw
    ·exact ⟨i+1,by omega,by go_num,HOA,HG2⟩
    case measure=>simp[intOf];omega
   |true=>
    have HY:=hide (uh HY (by rw[uh HOP];rfl))
    obtain ⟨w2,hrun,hfo,hon⟩:=uh HPT
    have HG2:Hid (FoAt w2 w.heap.size (i+1) (nestL (T.take (i+1)))):=by rw[uh HY];exact hfo
    have HO2:Hid (Old w w2):=(uh HOA).transNew hon (fun k hk e=>by omega)
    clear HN HOP HPT HGA hfo hon
    go_wp2_with fail
    refine (uh H1).mono ?_
    rintro e w' ⟨rfl,rfl⟩
    clear H1
    go_wp2_with fail
    refine (uh H2).mono ?_
    rintro e w' ⟨rfl,rfl⟩
    clear H2
    go_wp2_with fail
    clear hrun
    go_roundw
    ·exact ⟨i+1,by omega,by go_num,HO2,HG2⟩
    case measure=>simp[intOf];omega
 have hilI:¬(i:Int)<(T.length:Int):=by omega
 have hie:i=T.length:=by omega
 subst hie
 rw[List.take_length] at HG
 go_wp2_with fail
 go_ret
 exact ⟨rfl,HO,HG⟩
theorem filesE(ao:Option Addr)(gt cap:Nat)(T:List Ent)(hT:T.length≤200)(hs: ∀e∈T,e.nm.size≤2000000)(hok:COk T)(hds:(cgo (nestL T) T).fs.Pairwise (fun a b=>a.1≠b.1))(w:World)(hm:MaxAt w)(ht:EntsAt w gt T)(hgt:gt<w.heap.size)(hao:0<T.length→ao=some ⟨gt,0,none⟩):
 Calls Tryz.prog 27 #[.slice ao T.length cap] w fun r w' => ∃v u fs',r=.returned (.tuple #[v,u,.int .i64 0])∧Old w w' ∧fs'.Perm (cgo (nestL T) T).fs∧fs'.Pairwise (fun a b=>a.1.data.toList<b.1.data.toList)∧FilesAt w' v fs' ∧LeftsAt w' u (cgo (nestL T) T).lf∧(∀b,v.ownBlock=some b→w.heap.size≤b)∧(∀b,u.ownBlock=some b→w.heap.size≤b):=by
 have hmm:= @run_makeMap Tryz.prog
 have H1:=hide (nestedE ao gt cap T (by omega) hs w ht hgt hao)
 have HS:Hid (∀i,i<T.length→(T.getD i ent0).nm.size≤2000000):=fun i hi=>by rw[List.getD_eq_getElem?_getD,List.getElem?_eq_getElem hi];exact hs _ (List.getElem_mem hi)
 have HAO:=hide hao
 have HT:=hide ht
 have HOK:=hide hok
 have HDS:=hide hds
 have HM:=hide hm
 have hTI:¬(200:Int)<(T.length:Int):=by omega
 obtain ⟨L,hL⟩: ∃L,nestL T=L:=⟨_,rfl⟩
 rw[hL] at H1 HDS ⊢
 have HOK:Hid (∀i,i<T.length→whyP L (T.getD i ent0)=0→cfault (cgo L (T.take i)) (T.getD i ent0)=0):=by rw[←hL];exact HOK
 clear ht hok hds hm hL hs hgt hao
 go_in
 go_wp2_with fail
 refine (uh H1).mono ?_
 rintro e w1 ⟨rfl,ho1,hn1⟩
 have hlt1:=ho1.size
 have HNL:=hide hn1.lt
 have HF2:Hid (FSt w (w1.heap.size+1) w1.heap.size w.heap.size 0 L (cgo L (T.take 0)) (.slice none 0 0) ((w1.alloc (.map #[] 0)).alloc (.cells #[.slice none 0 0,.map (some w1.heap.size),.int .i64 0] chT))):=by
  have hA1:Old w1 (w1.alloc (.map #[] 0)):=(Only.refl _ w1).alloc _
  have hA2:Old (w1.alloc (.map #[] 0)) ((w1.alloc (.map #[] 0)).alloc (.cells #[.slice none 0 0,.map (some w1.heap.size),.int .i64 0] chT)):=(Only.refl _ _).alloc _
  have h:=Go.heap_alloc_new (w1.alloc (.map #[] 0)) (.cells #[.slice none 0 0,.map (some w1.heap.size),.int .i64 0] chT)
  rw[World.size_alloc] at h
  exact ⟨(ho1.trans hA1).trans hA2,⟨.slice none 0 0,⟨h,World.ownsRow_nil _ _ _ _,(MetAt.made w1).old hA2⟩,(fun b hb=>by cases hb)⟩,World.ownsRow_nil _ _ _ _,(fun b hb=>by cases hb),⟨_,(hn1.old hA1).old hA2⟩,⟨by show (0:Nat)≤60;omega,Nat.le_refl _⟩,by have:=hn1.lt;omega⟩
 have HGC:Hid (w.heap.size≤w1.heap.size):=hlt1
 clear H1 ho1 hn1 hlt1
 go_wp2_with fail
 clear hmm
 generalize w1.heap.size=gm at*
 obtain ⟨gc,hgc⟩: ∃gc,gm+1=gc:=⟨_,rfl⟩
 have HGC2:Hid (w.heap.size≤gc):=by have:=uh HGC;unfold Hid;omega
 rw[hgc] at HF2 ⊢
 clear hgc
 go_loopw [7,9,10,11,21] (fun u _ _ _ x wr=> ∃i:Nat,i≤T.length∧x=.int .i64 i∧Hid (FSt w gc gm w.heap.size i L (cgo L (T.take i)) u wr)) (fun _ _ _ _ x _=>T.length- (intOf x).toNat)
 ·exact ⟨0,by omega,rfl,HF2⟩
 obtain ⟨i,hi,rfl,HF⟩:=hrel
 clear HF2
 by_cases hil:i<T.length
 ·have hilI:(i:Int)<(T.length:Int):=by omega
  have hao:=uh HAO (by omega)
  subst hao
  obtain ⟨_,h1,h2,h3⟩:=(uh HT).old (uh HF).old i hil
  have hns:=uh HS i hil
  have HNX:=hide (cgo_next L T i hil)
  have HCF:=hide (uh HOK i hil)
  have HWF:Hid (whyP L (T.getD i ent0)=0→(T.getD i ent0).nm.size≤80):=fun h=>fileP_size (whyP_file h)
  have HWB:Hid (whyP L (T.getD i ent0)≤5):=by unfold Hid whyP;split<;>(try split)<;>(try split)<;>(try split)<;>(try split)<;>omega
  have HYL:=hide (fun n W hm hg=>whyLeftA (T.getD i ent0) hns w.heap.size n L W hm hg)
  generalize cgo L (T.take i)=s at*
  generalize T.getD i ent0=e at*
  obtain ⟨nm,ln,dt⟩:=e
  simp only at*
  have hA:Old wr (wr.alloc (.cells #[.string nm,.bool ln,.string dt] 54)):=(Only.refl _ wr).alloc _
  have HE:=hide (EnA.made wr nm ln dt)
  have HF3:=hide ((uh HF).after hA)
  obtain ⟨nfo,hfo⟩:=(uh HF3).fo
  have H2:=hide (uh HYL nfo _ ((uh HM).old (uh HF3).old) hfo)
  clear hA HF HYL hfo
  go_wp2_with fail
  clear h1 h2 h3
  refine (uh H2).mono ?_
  rintro e w4 ⟨rfl,ho4⟩
  have HE4:=hide ((uh HE).old ho4)
  have HF4:=hide ((uh HF3).after ho4)
  clear H2 HE HF3
  generalize wr.alloc (.cells #[.string nm,.bool ln,.string dt] 54)=W at*
  clear ho4
  by_cases hw0:whyP L ⟨nm,ln,dt⟩=0
  ·obtain ⟨v,hv,hvb⟩:=(uh HF4).ch
   have hcf:=cfault_ok (uh HCF hw0)
   have hnm:=uh HWF hw0
   have hfl:s.fs.length<60:=by have:=hcf.2.2.2.1;have:=(uh HF4).few.1;omega
   have H3:=hide (takeA nm dt ln gc gm (i*1001) v s.fs s.tb s.all (by omega) hcf.1 hcf.2.1 hcf.2.2.1 hfl hcf.2.2.2.2 (by omega) w4 hv)
   have HTK:=hide (fun w' v' =>(uh HF4).take (w' :=w') (v:=v) (v' :=v') (e:=⟨nm,ln,dt⟩) hw0 hfl (uh HGC2) (uh HGC) hvb hv)
   obtain ⟨_,h1,h2,h3⟩:=uh HE4
   rw[hw0]
   clear hcf hv hvb hw0 HCF HWF HWB hnm hfl HE4
   go_wp2_with fail
   clear h1 h2 h3
   refine (uh H3).mono ?_
   rintro e w5 ⟨rfl,v',hc5,ho5,hb5⟩
   have HF5:=hide (uh HTK w5 v' hc5 ho5 hb5)
   clear H3 HTK hc5 ho5 hb5
   go_wp2_with fail
   go_roundw
   ·exact ⟨i+1,by omega,by go_num,by rw[uh HNX];exact HF5⟩
   case measure=>simp[intOf];omega
  have hwN:=hw0
  obtain ⟨y,hy⟩: ∃y,whyP L ⟨nm,ln,dt⟩=y:=⟨_,rfl⟩
  have hy5:y≤5:=by rw[←hy];exact HWB
  have HLV:Hid (∀W' w' g cap,FSt w gc gm w.heap.size i L s u7 W' →w'.ownsRow 0 90 2 (.slice (some ⟨g,0,none⟩) (s.lf.length+1) cap) (s.lf.length+1) (lfCells s.lf++[.string nm,.int .i64 (y:Int)])→W'.grownBy w' u7.ownBlock→(u7.ownBlock=some g∨g=W'.heap.size)→FSt w gc gm w.heap.size (i+1) L (cstep L s ⟨nm,ln,dt⟩) (.slice (some ⟨g,0,none⟩) (s.lf.length+1) cap) w'):=fun W' w' g cap hF h1 h2 h3=>by
   refine hF.leave (e:=⟨nm,ln,dt⟩) hwN (by rw[hy];exact h1) ((Only.refl _ _).grown h2 (fun k _ e=>e)) ?_
   rcases h3 with h|h
   ·exact .inl h
   exact .inr (by rw[h];exact hF.old.size)
  rw[hy] at hw0 ⊢
  have hw0I:((y:Int) !=0)=true:=by rw[bne_iff_ne];omega
  have hw0J:¬(y:Int)=0:=by omega
  have H5:=hide (cloneX nm (by omega) w4)
  obtain ⟨_,h1,h2,h3⟩:=uh HE4
  have hfew:=(uh HF4).few.2
  obtain ⟨ao,cp,rfl⟩: ∃ao cp,u7=.slice ao s.lf.length cp:=by
   obtain ⟨_,⟨rfl,hz⟩|⟨b,c,cur,rfl,_⟩⟩:=(uh HF4).lf
   ·rw[hz];exact ⟨none,0,rfl⟩
   exact ⟨_,_,rfl⟩
  clear hy hwN HCF HWF HWB HE4
  go_wp2_with fail
  clear h1 h2 h3
  refine (uh H5).mono ?_
  rintro e w5 ⟨rfl,ho5⟩
  have hA5:Old w5 (w5.alloc (.cells #[.string nm,.int .i64 (y:Int)] 90)):=(Only.refl _ w5).alloc _
  have HF6:=hide (((uh HF4).after ho5).after hA5)
  have HOW:=hide (uh HF6).lf
  have HNW:=hide (new_cells w5 [.string nm,.int .i64 (y:Int)] 90)
  have HLV:=hide (fun w' g cap=>uh HLV _ w' g cap (uh HF6))
  obtain ⟨i0,hi0,hz0,hz1,hz2⟩:=info_parts infoL2
  have HSZ:Hid ((w5.alloc (.cells #[.string nm,.int .i64 (y:Int)] 90)).heap.size=w5.heap.size+1):=by unfold Hid;rw[World.size_alloc]
  rw[uh HSZ] at HLV
  clear ho5 hA5 H5 HF4 HF6
  go_wp2_with (at_builtin;refine wpList_append_lies _ rfl (.tmp 30) (.tmp 36) 58 rfl 0 90 i0 (.agg #[.string ⟨#[]⟩,.int .i64 0]) 2 24 Tryz.underlying58 hi0 hz0 hz1 hz2 rfl (by omega) (.slice ao s.lf.length cp) s.lf.length (lfCells s.lf) rfl (uh HOW) ⟨w5.heap.size,0,none⟩ 1 1 [.string nm,.int .i64 (y:Int)] rfl rfl (uh HNW) (by intro u hu;simp at hu;rcases hu with rfl|rfl<;>rfl) (by omega) (by unfold maxLen;omega) (by omega) (by omega) (w5.heap.size+1) (uh HSZ) ?_;intro gb cap2 w6 ho6 hg6 hl6 hlt6;have HX:=hide (uh HLV w6 gb cap2 ho6 hg6 hl6);clear ho6 hg6 hl6 hlt6)
  go_roundw
  ·exact ⟨i+1,by omega,by go_num,by rw[uh HNX];exact HX⟩
  case measure=>simp[intOf];omega
 have hilI:¬(i:Int)<(T.length:Int):=by omega
 have hie:i=T.length:=by omega
 subst hie
 rw[List.take_length] at HF
 obtain ⟨s,hse⟩: ∃s,s=cgo L T:=⟨_,rfl⟩
 rw[←hse] at HF HDS
 have HSE:=hide hse
 clear hse
 obtain ⟨v,hv,hvb⟩:=(uh HF).ch
 have H6:=hide (sortA v s.fs (by have:=(uh HF).few.1;omega) (uh HDS) wr hv.2.1)
 have hc0:wr.cell? ⟨gc,0,none⟩=some v:=by rw[cell_of_row wr gc 0 _ _ (0,0) hv.1];rfl
 have HVB:=hide hvb
 have HC0:Hid (∀W',Only (fun k=>v.ownBlock=some k) wr W' →W'.cell? ⟨gc,0,none⟩=some v):=fun W' ho=>(ho.cell (p:=⟨gc,0,none⟩) hv.lt.1 (fun e=>(hv.apart.2 gc e).1 rfl)).trans hc0
 have HLK:Hid (∀W',Only (fun k=>v.ownBlock=some k) wr W' →Old w W' ∧LeftsAt W' u7 s.lf):=fun W' ho=>by
  refine ⟨(uh HF).old.transNew ho (fun k hk e=>absurd (hvb k e) (by omega)),(uh HF).lf.kept ho (fun b hb e=> ?_)⟩
  obtain ⟨cur,h1⟩:=ownk_heap (uh HF).lf hb
  obtain ⟨cur2,h2⟩:=ownk_heap hv.2.1 e
  rw[h1] at h2;injection h2 with h2;injection h2 with _ h2;exact absurd h2 (by decide)
 have HLB:=hide (uh HF).lfb
 clear hv hvb HF HDS HOK HT HS HM HNL HGC HGC2
 go_wp2_with fail
 refine (uh H6).mono ?_
 rintro e w6 ⟨rfl,fs',hp,hso,hfa,ho6⟩
 have hc6:=uh HC0 w6 ho6
 have HL6:=hide (uh HLK w6 ho6)
 have HP:=hide hp
 have HSO:=hide hso
 have HFA:=hide hfa
 clear hp hso hfa ho6 H6 hc0 HC0 HLK
 go_wp2_with fail
 go_ret3
 have hse:=uh HSE
 subst hse
 exact ⟨v,_,fs',rfl,(uh HL6).1,HP,HSO,HFA,(uh HL6).2,HVB,HLB⟩
def flsE(T:List Ent):List Fl:=T.map (fun e=>(e.nm,e.dt))
def FsOf(T:List Ent)(fs:List Fl):Prop:=fs.Perm (flsE T)∧fs.Pairwise (fun a b=>a.1.data.toList<b.1.data.toList)
theorem MaxAt.pos{w:World}(h:MaxAt w):0<w.heap.size:=by
 obtain ⟨m,hm⟩:=h
 rcases Nat.eq_zero_or_pos w.heap.size with h0|h0
 ·exfalso
  have: ∀p:Addr,w.cell? p=none:=fun p=>by simp[World.cell?,Array.getElem?_eq_none (show w.heap.size≤p.block by omega)]
  simp_all
 exact h0
theorem filesFe{w:World}{u:Value}{T:List Ent}(h:EntRow w u T)(hf:Free T)(hm:MaxAt w):Calls Tryz.prog 27 #[u] w fun r w' => ∃v y fs,r=.returned (.tuple #[v,y,.int .i64 0])∧Old w w' ∧FsOf T fs∧FilesAt w' v fs∧LeftsAt w' y []∧(∀b,v.ownBlock=some b→w.heap.size≤b):=by
 have key: ∀(ao:Option Addr) (gt cap:Nat),EntsAt w gt T→gt<w.heap.size→(0<T.length→ao=some ⟨gt,0,none⟩)→Calls Tryz.prog 27 #[.slice ao T.length cap] w fun r w' => ∃v y fs,r=.returned (.tuple #[v,y,.int .i64 0])∧Old w w' ∧FsOf T fs∧FilesAt w' v fs∧LeftsAt w' y []∧(∀b,v.ownBlock=some b→w.heap.size≤b):=by
  intro ao gt cap ht hgt hao
  refine (filesE ao gt cap T (by have:=hf.len;omega) hf.small hf.ok hf.files w hm ht hgt hao).mono ?_
  rintro r w' ⟨v,y,fs',rfl,h1,h2,h3,h4,h5,h6,_⟩
  obtain ⟨g1,g2⟩:=hf.go
  rw[g1] at h2
  rw[g2] at h5
  exact ⟨v,y,fs',rfl,h1,⟨h2,h3⟩,h4,h5,h6⟩
 by_cases h0:0<T.length
 ·obtain ⟨g,cap,rfl,he⟩:=h.slice h0
  exact key _ g cap he (he 0 h0).1 (fun _=>rfl)
 obtain ⟨ao,cap,rfl⟩:=h.shape
 exact key ao 0 cap (fun i hi=>by omega) hm.pos (fun h1=>absurd h1 h0)
theorem packNil(p:ByteArray)(ao:Option Addr)(cap:Nat)(w:World):Calls Tryz.prog 28 #[.string p,.slice ao 0 cap] w fun r w' =>Old w w' ∧r=.returned (.tuple #[.string (strB (laidL p [])),.int .i64 0]):=by
 have H1:=hide (fun W=>laidNil p W)
 have hz:(strB (laidL p [])).size=22:=by rw[strB_size,laidL_len];rfl
 generalize strB (laidL p [])=z at*
 go_in
 go_wp2_with fail
 go_loop [6,8,12] (fun u _ x=>u=.slice none 0 0∧x=.int .i64 0) (fun _ _ _=>0)
 ·exact ⟨rfl,rfl⟩
 obtain ⟨rfl,rfl⟩:=hrel
 have hzI:¬(40000:Int)<(z.size:Int):=by omega
 go_wp2_with fail
 refine (uh H1 _).mono ?_
 rintro r w2 ⟨ho2,rfl⟩
 have HO2:=hide ho2
 clear ho2 H1
 go_wp2_with fail
 go_ret2
 exact ⟨HO2,rfl⟩
theorem itemP_facts(nm d:ByteArray)(hn:nm.size≤12)(hd:d.size≤600):(itemP nm d).ok∧(itemP nm d).packed.size≤600∧((itemP nm d).way=0∨(itemP nm d).way=8)∧(itemP nm d).check=checkOf d∧(itemP nm d).size=d.size∧(itemP nm d).name=nm:=by
 have hc:=checkOf_lt d
 unfold itemP
 split
 ·exact ⟨⟨by show 8<_;omega,hc,by show d.size<_;omega,by show nm.size≤_;omega,by show (deflP d).size≤_;omega⟩,by show (deflP d).size≤_;omega,.inr rfl,rfl,rfl,rfl⟩
 exact ⟨⟨by show 0<_;omega,hc,by show d.size<_;omega,by show nm.size≤_;omega,by show d.size≤_;omega⟩,by show d.size≤_;omega,.inl rfl,rfl,rfl,rfl⟩
theorem datI_itemP(nm d:ByteArray)(hd:d.size≤600):datI (itemP nm d)=(d,0):=by
 have hu:unpI (itemP nm d)=(d,0):=by
  unfold itemP
  split
  ·unfold unpI
   have h:=infl_defl d (by omega) ⟨#[]⟩
   have e:deflP d++(⟨#[]⟩:ByteArray)=deflP d:=by apply ByteArray.ext;simp[ByteArray.data_append]
   rw[e] at h
   rw[if_neg (show ¬(8:Nat)=0 by omega)]
   show (if (inflate (deflP d)).2.2=0∧(inflate (deflP d)).2.1=(deflP d).size∧(inflate (deflP d)).1.size=d.size then ((inflate (deflP d)).1,0) else (⟨#[]⟩,2))=(d,0)
   rw[h,if_pos ⟨rfl,rfl,rfl⟩]
  unfold unpI
  rw[if_pos rfl,if_pos rfl]
 have hck:(itemP nm d).check=checkOf d:=by unfold itemP;split<;>rfl
 unfold datI
 rw[hu,if_neg (by simp),if_pos (by rw[hck])]
structure Fine (fs:List Fl):Prop where
 form: ∀f∈fs,nmOk f.1=true∧f.2.size≤600
 rise:fs.Pairwise (fun a b=>a.1.data.toList<b.1.data.toList)
 len:fs.length≤20
theorem fine_of{T:List Ent}{fs:List Fl}(h:Free T)(hf:FsOf T fs):Fine fs:=by
 refine ⟨fun f hm=> ?_,hf.2,by rw[hf.1.length_eq,flsE,List.length_map];exact h.len⟩
 obtain ⟨e,he,rfl⟩:=List.mem_map.1 (hf.1.mem_iff.1 hm)
 obtain ⟨h1,_,h3⟩:=h.form e he
 exact ⟨(nmFree_facts h1).1,h3⟩
theorem Fine.locs{fs:List Fl}(h:Fine fs):(locsL sPre (itemsP fs)).length≤655*fs.length:=by
 have key: ∀fs:List Fl,(∀f∈fs,nmOk f.1=true∧f.2.size≤600)→(locsL sPre (itemsP fs)).length≤655*fs.length:=by
  intro fs
  induction fs with
  |nil=>intro _;simp[locsL,itemsP]
  |cons f r ih=>
   intro hf
   have h1:=ih (fun x hx=>hf x (List.mem_cons_of_mem _ hx))
   obtain ⟨g1,g2⟩:=hf f (List.mem_cons_self ..)
   have g5:=(nmOk_facts g1).2.2.2.2.1
   obtain ⟨_,k2,_,_,_,k6⟩:=itemP_facts f.1 f.2 g5 g2
   have e1:locsL sPre (itemsP (f::r))=localL sPre (itemP f.1 f.2)++locsL sPre (itemsP r):=by simp[locsL,itemsP]
   rw[e1,List.length_append,List.length_cons]
   generalize itemP f.1 f.2=it at*
   obtain ⟨nm,wy,ck,sz,pk⟩:=it
   simp only at k2 k6
   rw[localL_len,k6]
   have:sPre.size=13:=by decide
   omega
 exact key fs h.form
theorem Fine.oks{fs:List Fl}(h:Fine fs): ∀i∈itemsP fs,i.ok:=by
 intro i hi
 obtain ⟨f,hf,rfl⟩:=List.mem_map.1 hi
 obtain ⟨g1,g2⟩:=h.form f hf
 exact (itemP_facts f.1 f.2 (nmOk_facts g1).2.2.2.2.1 g2).1
theorem Fine.size{fs:List Fl}(h:Fine fs):(laidL sPre (itemsP fs)).length≤40000:=by
 have h1:=h.locs
 have hl:(itemsP fs).length=fs.length:=by simp[itemsP]
 have h2:=cents_le sPre (itemsP fs) (itemsP fs).length (Nat.le_refl _)
 rw[List.take_length] at h2
 have h3:=laidL_len sPre (itemsP fs)
 have:=h.len
 omega
theorem packF{w:World}{v:Value}{fs:List Fl}(hv:FilesAt w v fs)(h:Fine fs):Calls Tryz.prog 28 #[.string sPre,v] w fun r w' =>Old w w' ∧r=.returned (.tuple #[.string (strB (laidL sPre (itemsP fs))),.int .i64 0]):=by
 by_cases h0:0<fs.length
 ·have hl:(itemsP fs).length=fs.length:=by simp[itemsP]
  have h1:=h.locs
  have h2:=h.len
  exact packA sPre v fs (fun f hf=>by have:=(h.form f hf).2;omega) (laidOk_of (by decide) h.oks (by omega) (by omega) (by omega)) h.size w hv
 have e:fs=[]:=List.length_eq_zero_iff.1 (by omega)
 subst e
 obtain ⟨_,⟨rfl,_⟩|⟨g,cap,cur,rfl,_⟩⟩:=hv
 ·exact packNil sPre none 0 w
 exact packNil sPre _ cap w
theorem heads_its: ∀(its:List It) (f:Tab) (N:List ByteArray) (all:Nat),(∀i∈its,nmOk i.name=true∧i.size≤600)→Inv f N→(∀r∈N,nmOk r=true)→(N++its.map (fun i=>i.name)).Pairwise (· ≠ ·)→all+600*its.length≤16000→headsGo its f all=0
 |[],_,_,_,_,_,_,_,_=>rfl
 |it::its,f,N,all,hf,hi,hN,hd,ha=>by
  obtain ⟨h1,h3⟩:=hf it (List.mem_cons_self ..)
  obtain ⟨g1,g2,g3,_,_,_⟩:=nmOk_facts h1
  have hd' :=hd
  rw[List.map_cons] at hd'
  obtain ⟨_,_,hx⟩:=List.pairwise_append.1 hd'
  have hsn:it.name∉N:=fun hm=>hx it.name hm it.name (List.mem_cons_self ..) rfl
  rw[List.length_cons] at ha
  have hF:headF f all it=0:=by
   unfold headF
   rw[if_neg (by rw[g1];decide),if_neg (by rw[g2];decide),if_neg (by rw[hi.clash h1 hN hsn];decide),if_neg (by omega),if_neg (by omega)]
  rw[headsGo,if_pos hF]
  refine heads_its its (addP f it.name) (N++[it.name]) (all+it.size) (fun x hx=>hf x (List.mem_cons_of_mem _ hx)) (hi.add h1) ?_ ?_ (by omega)
  ·intro r hr
   rcases List.mem_append.1 hr with hr|hr
   ·exact hN r hr
   rw[List.mem_singleton] at hr;rw[hr];exact h1
  rw[List.append_assoc];exact hd'
theorem unpGo_items: ∀(fs acc:List Fl),(∀f∈fs,f.2.size≤600)→unpGo (itemsP fs) acc=(acc++fs,0)
 |[],acc,_=>by simp[unpGo,itemsP]
 |f::fs,acc,h=>by
  have e:itemsP (f::fs)=itemP f.1 f.2::itemsP fs:=rfl
  have hn:(itemP f.1 f.2).name=f.1:=by unfold itemP;split<;>rfl
  rw[e,unpGo,datI_itemP f.1 f.2 (h f (List.mem_cons_self ..)),if_pos rfl,hn,unpGo_items fs _ (fun x hx=>h x (List.mem_cons_of_mem _ hx))]
  simp
theorem Fine.unp{fs:List Fl}(h:Fine fs):unpP sPre (strB (laidL sPre (itemsP fs)))=(fs,0):=by
 have hl:(itemsP fs).length=fs.length:=by simp[itemsP]
 have hnm: ∀f∈fs,(itemP f.1 f.2).name=f.1:=fun f _=>by unfold itemP;split<;>rfl
 have hrise:Rising (itemsP fs):=by
  refine List.pairwise_map.2 (h.rise.imp_of_mem (fun {a b} ha hb hab=> ?_))
  rw[hnm a ha,hnm b hb];exact hab
 have hrd: ∀i∈itemsP fs,ItRd sPre i:=by
  intro i hi
  obtain ⟨f,hf,rfl⟩:=List.mem_map.1 hi
  obtain ⟨g1,g2⟩:=h.form f hf
  have g5:=(nmOk_facts g1).2.2.2.2.1
  obtain ⟨k1,k2,k3,_,_,k6⟩:=itemP_facts f.1 f.2 g5 g2
  obtain ⟨o1,o2,o3,o4,o5⟩:=k1
  exact ⟨k3,o2,o3,by omega,by rw[k6];show 13+f.1.size<_;omega⟩
 unfold unpP
 rw[if_neg (by rw[strB_size];have:=h.size;omega),readP_laid sPre _ hrd hrise (by have:=h.len;omega) (by decide)]
 have hd:(([]:List ByteArray)++(itemsP fs).map (fun i=>i.name)).Pairwise (· ≠ ·):=by
  rw[List.nil_append]
  refine List.pairwise_map.2 (List.Pairwise.imp (fun {a b} hab e=> ?_) hrise)
  rw[e] at hab
  exact List.lt_irrefl _ hab
 have hg:=heads_its (itemsP fs) (fun _=>none) [] 0 (fun i hi=>by
  obtain ⟨f,hf,rfl⟩:=List.mem_map.1 hi
  obtain ⟨g1,g2⟩:=h.form f hf
  obtain ⟨_,_,_,_,k5,k6⟩:=itemP_facts f.1 f.2 (nmOk_facts g1).2.2.2.2.1 g2
  rw[k5,k6];exact ⟨g1,g2⟩) Inv.nil (fun r hr=>by cases hr) hd (by have:=h.len;omega)
 show (if headsGo (itemsP fs) (fun _=>none) 0=0 then unpGo (itemsP fs) [] else ([],headsGo (itemsP fs) (fun _=>none) 0))=_
 rw[hg,if_pos rfl,unpGo_items fs [] (fun f hf=>(h.form f hf).2),List.nil_append]
theorem FsOf.same{T U:List Ent}{fs gs:List Fl}(hp:U.Perm T)(hf:FsOf T fs)(hg:FsOf U gs):gs=fs:=
 sorted_eq ((hg.1.trans (hp.map _)).trans hf.1.symm) hg.2 hf.2
theorem vPackF{w:World}{u:Value}{T:List Ent}(h:EntRow w u T)(hf:Free T)(hm:MaxAt w):Calls Tryz.prog 5 #[.string sMod,.string sVer,u] w fun r w' => ∃fs,FsOf T fs∧Old w w' ∧r=.returned (.tuple #[.string (strB (laidL sPre (itemsP fs))),.int .i64 0]):=by
 have H1:=hide (prefixC w hm)
 have H2:=hide (fun W he hmm=>filesFe (w:=W) (u:=u) (T:=T) he hf hmm)
 have H3:=hide (fun W v fs hv hfs=>packF (w:=W) (v:=v) (fs:=fs) hv (fine_of hf hfs))
 have HM:=hide hm
 have HT:=hide h
 clear hm h hf
 go_in
 go_wp2_with fail
 refine (uh H1).mono ?_
 rintro r w1 ⟨rfl,ho1⟩
 have HO1:=hide ho1
 have H4:=hide (uh H2 w1 ((uh HT).old ho1) ((uh HM).old ho1))
 clear H1 H2 ho1 HM HT
 go_wp2_with fail
 refine (uh H4).mono ?_
 rintro r w2 ⟨v,y,fs,rfl,ho2,hfs,hfa,_,_⟩
 have HO2:=hide (Only.trans (uh HO1) ho2)
 have H5:=hide (uh H3 w2 v fs hfa hfs)
 have HFS:=hide hfs
 clear H4 ho2 hfs hfa H3 HO1
 generalize hz:strB (laidL sPre (itemsP fs))=z at*
 have HZ:=hide hz
 clear hz
 go_wp2_with fail
 refine (uh H5).mono ?_
 rintro r w3 ⟨ho3,rfl⟩
 have HO3:=hide (Only.trans (uh HO2) ho3)
 clear H5 ho3 HO2
 go_wp2_with fail
 go_ret2
 exact ⟨fs,HFS,HO3,by rw[uh HZ];rfl⟩
end Go.Proofs.YtfbgamknfommpaaGreatDoor
