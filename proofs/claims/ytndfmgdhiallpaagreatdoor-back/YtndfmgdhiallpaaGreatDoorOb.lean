import Derived.Test.YtndfmgdhiallpaaGreatDoorOa
set_option maxRecDepth 100000
set_option maxHeartbeats 1000000
namespace Go.Proofs.YtndfmgdhiallpaaGreatDoor
open Go.RowKit Go.Maps
def flsE(T:List Ent):List Fl:=T.map (fun e=>(e.nm,e.dt))
def FsOf(T:List Ent)(fs:List Fl):Prop:=fs.Perm (flsE T)∧fs.Pairwise (fun a b=>a.1.data.toList<b.1.data.toList)
theorem MaxAt.pos{w:World}(h:MaxAt w):0<w.heap.size:=by
 obtain ⟨m,hm⟩:=h
 rcases Nat.eq_zero_or_pos w.heap.size with h0|h0
 ·exfalso
  have: ∀p:Addr,w.cell? p=none:=fun p=>by simp[World.cell?,Array.getElem?_eq_none (show w.heap.size≤p.block by omega)]
  simp_all
 exact h0
theorem filesFe{w:World}{u:Value}{T:List Ent}(h:EntRow w u T)(hf:Free T)(hm:MaxAt w):Calls Tryz.prog 44 #[u] w fun r w' => ∃v y fs,r=.returned (.tuple #[v,y,.int .i64 0])∧Old w w' ∧FsOf T fs∧FilesAt w' v fs∧LeftsAt w' y []∧(∀b,v.ownBlock=some b→w.heap.size≤b):=by
 have key: ∀(ao:Option Addr) (gt cap:Nat),EntsAt w gt T→gt<w.heap.size→(0<T.length→ao=some ⟨gt,0,none⟩)→Calls Tryz.prog 44 #[.slice ao T.length cap] w fun r w' => ∃v y fs,r=.returned (.tuple #[v,y,.int .i64 0])∧Old w w' ∧FsOf T fs∧FilesAt w' v fs∧LeftsAt w' y []∧(∀b,v.ownBlock=some b→w.heap.size≤b):=by
  intro ao gt cap ht hgt hao
  refine (filesE ao gt cap T (by have:=hf.len;omega) hf.small hf.ok hf.files w hm ht hgt hao).mono ?_
  rintro r w' ⟨v,y,fs',rfl,h1,h2,h3,h4,h5,h6,_⟩
  obtain ⟨g1,g2⟩:=hf.go
  rw[g1] at h2
  rw[g2] at h5
  exact ⟨v,y,fs',rfl,h1,⟨h2,h3⟩,h4,h5,h6⟩
 by_cases h0:0<T.length
 ·obtain ⟨g,cap,rfl,he⟩:=h.slice h0
  exact key _ g cap he (he 0 h0).1 (fun _=>rfl)
 obtain ⟨ao,cap,rfl⟩:=h.shape
 exact key ao 0 cap (fun i hi=>by omega) hm.pos (fun h1=>absurd h1 h0)
theorem chooseFe{w:World}{u:Value}{T:List Ent}(h:EntRow w u T)(hf:Free T)(hm:MaxAt w):Calls Tryz.prog 25 #[u] w fun r w' => ∃v y fs,r=.returned (.tuple #[v,y,.int .i64 0])∧Old w w' ∧FsOf T fs∧FilesAt w' v fs∧LeftsAt w' y []∧(∀b,v.ownBlock=some b→w.heap.size≤b):=by
 have H1:=hide (filesFe h hf hm)
 clear h hf hm
 go_in
 go_wp2_with fail
 refine (uh H1).mono ?_
 rintro e w1 ⟨v,y,fs,rfl,h⟩
 have HH:=hide h
 clear h H1
 go_wp2_with fail
 go_ret3
 exact ⟨v,y,fs,rfl,HH⟩
theorem packNil(p:ByteArray)(ao:Option Addr)(cap:Nat)(w:World):Calls Tryz.prog 46 #[.string p,.slice ao 0 cap] w fun r w' =>Old w w' ∧r=.returned (.tuple #[.string (strB (laidL p [])),.int .i64 0]):=by
 have H1:=hide (fun W=>laidNil p W)
 have hz:(strB (laidL p [])).size=22:=by rw[strB_size,laidL_len];rfl
 generalize strB (laidL p [])=z at*
 go_in
 go_wp2_with fail
 go_loop [6,8,12] (fun u _ x=>u=.slice none 0 0∧x=.int .i64 0) (fun _ _ _=>0)
 ·exact ⟨rfl,rfl⟩
 obtain ⟨rfl,rfl⟩:=hrel
 have hzI:¬(40000:Int)<(z.size:Int):=by omega
 go_wp2_with fail
 refine (uh H1 _).mono ?_
 rintro r w2 ⟨ho2,rfl⟩
 have HO2:=hide ho2
 clear ho2 H1
 go_wp2_with fail
 go_ret2
 exact ⟨HO2,rfl⟩
theorem itemP_facts(nm d:ByteArray)(hn:nm.size≤12)(hd:d.size≤600):(itemP nm d).ok∧(itemP nm d).packed.size≤600∧((itemP nm d).way=0∨(itemP nm d).way=8)∧(itemP nm d).check=checkOf d∧(itemP nm d).size=d.size∧(itemP nm d).name=nm:=by
 have hc:=checkOf_lt d
 unfold itemP
 split
 ·exact ⟨⟨by show 8<_;omega,hc,by show d.size<_;omega,by show nm.size≤_;omega,by show (deflP d).size≤_;omega⟩,by show (deflP d).size≤_;omega,.inr rfl,rfl,rfl,rfl⟩
 exact ⟨⟨by show 0<_;omega,hc,by show d.size<_;omega,by show nm.size≤_;omega,by show d.size≤_;omega⟩,by show d.size≤_;omega,.inl rfl,rfl,rfl,rfl⟩
theorem datI_itemP(nm d:ByteArray)(hd:d.size≤600):datI (itemP nm d)=(d,0):=by
 have hu:unpI (itemP nm d)=(d,0):=by
  unfold itemP
  split
  ·unfold unpI
   have h:=infl_defl d (by omega) ⟨#[]⟩
   have e:deflP d++(⟨#[]⟩:ByteArray)=deflP d:=by apply ByteArray.ext;simp[ByteArray.data_append]
   rw[e] at h
   rw[if_neg (show ¬(8:Nat)=0 by omega)]
   show (if (inflate (deflP d)).2.2=0∧(inflate (deflP d)).2.1=(deflP d).size∧(inflate (deflP d)).1.size=d.size then ((inflate (deflP d)).1,0) else (⟨#[]⟩,2))=(d,0)
   rw[h,if_pos ⟨rfl,rfl,rfl⟩]
  unfold unpI
  rw[if_pos rfl,if_pos rfl]
 have hck:(itemP nm d).check=checkOf d:=by unfold itemP;split<;>rfl
 unfold datI
 rw[hu,if_neg (by simp),if_pos (by rw[hck])]
structure Fine (fs:List Fl):Prop where
 form: ∀f∈fs,nmOk f.1=true∧f.2.size≤600
 rise:fs.Pairwise (fun a b=>a.1.data.toList<b.1.data.toList)
 len:fs.length≤20
theorem fine_of{T:List Ent}{fs:List Fl}(h:Free T)(hf:FsOf T fs):Fine fs:=by
 refine ⟨fun f hm=> ?_,hf.2,by rw[hf.1.length_eq,flsE,List.length_map];exact h.len⟩
 obtain ⟨e,he,rfl⟩:=List.mem_map.1 (hf.1.mem_iff.1 hm)
 obtain ⟨h1,_,h3⟩:=h.form e he
 exact ⟨(nmFree_facts h1).1,h3⟩
theorem Fine.locs{fs:List Fl}(h:Fine fs):(locsL sPre (itemsP fs)).length≤655*fs.length:=by
 have key: ∀fs:List Fl,(∀f∈fs,nmOk f.1=true∧f.2.size≤600)→(locsL sPre (itemsP fs)).length≤655*fs.length:=by
  intro fs
  induction fs with
  |nil=>intro _;simp[locsL,itemsP]
  |cons f r ih=>
   intro hf
   have h1:=ih (fun x hx=>hf x (List.mem_cons_of_mem _ hx))
   obtain ⟨g1,g2⟩:=hf f (List.mem_cons_self ..)
   have g5:=(nmOk_facts g1).2.2.2.2.1
   obtain ⟨_,k2,_,_,_,k6⟩:=itemP_facts f.1 f.2 g5 g2
   have e1:locsL sPre (itemsP (f::r))=localL sPre (itemP f.1 f.2)++locsL sPre (itemsP r):=by simp[locsL,itemsP]
   rw[e1,List.length_append,List.length_cons]
   generalize itemP f.1 f.2=it at*
   obtain ⟨nm,wy,ck,sz,pk⟩:=it
   simp only at k2 k6
   rw[localL_len,k6]
   have:sPre.size=13:=by decide
   omega
 exact key fs h.form
theorem Fine.oks{fs:List Fl}(h:Fine fs): ∀i∈itemsP fs,i.ok:=by
 intro i hi
 obtain ⟨f,hf,rfl⟩:=List.mem_map.1 hi
 obtain ⟨g1,g2⟩:=h.form f hf
 exact (itemP_facts f.1 f.2 (nmOk_facts g1).2.2.2.2.1 g2).1
theorem Fine.size{fs:List Fl}(h:Fine fs):(laidL sPre (itemsP fs)).length≤40000:=by
 have h1:=h.locs
 have hl:(itemsP fs).length=fs.length:=by simp[itemsP]
 have h2:=cents_le sPre (itemsP fs) (itemsP fs).length (Nat.le_refl _)
 rw[List.take_length] at h2
 have h3:=laidL_len sPre (itemsP fs)
 have:=h.len
 omega
theorem packF{w:World}{v:Value}{fs:List Fl}(hv:FilesAt w v fs)(h:Fine fs):Calls Tryz.prog 46 #[.string sPre,v] w fun r w' =>Old w w' ∧r=.returned (.tuple #[.string (strB (laidL sPre (itemsP fs))),.int .i64 0]):=by
 by_cases h0:0<fs.length
 ·have hl:(itemsP fs).length=fs.length:=by simp[itemsP]
  have h1:=h.locs
  have h2:=h.len
  exact packA sPre v fs (fun f hf=>by have:=(h.form f hf).2;omega) (laidOk_of (by decide) h.oks (by omega) (by omega) (by omega)) h.size w hv
 have e:fs=[]:=List.length_eq_zero_iff.1 (by omega)
 subst e
 obtain ⟨_,⟨rfl,_⟩|⟨g,cap,cur,rfl,_⟩⟩:=hv
 ·exact packNil sPre none 0 w
 exact packNil sPre _ cap w
theorem heads_its: ∀(its:List It) (f:Tab) (N:List ByteArray) (all:Nat),(∀i∈its,nmOk i.name=true∧i.size≤600)→Inv f N→(∀r∈N,nmOk r=true)→(N++its.map (fun i=>i.name)).Pairwise (· ≠ ·)→all+600*its.length≤16000→headsGo its f all=0
 |[],_,_,_,_,_,_,_,_=>rfl
 |it::its,f,N,all,hf,hi,hN,hd,ha=>by
  obtain ⟨h1,h3⟩:=hf it (List.mem_cons_self ..)
  obtain ⟨g1,g2,g3,_,_,_⟩:=nmOk_facts h1
  have hd' :=hd
  rw[List.map_cons] at hd'
  obtain ⟨_,_,hx⟩:=List.pairwise_append.1 hd'
  have hsn:it.name∉N:=fun hm=>hx it.name hm it.name (List.mem_cons_self ..) rfl
  rw[List.length_cons] at ha
  have hF:headF f all it=0:=by
   unfold headF
   rw[if_neg (by rw[g1];decide),if_neg (by rw[g2];decide),if_neg (by rw[hi.clash h1 hN hsn];decide),if_neg (by omega),if_neg (by omega)]
  rw[headsGo,if_pos hF]
  refine heads_its its (addP f it.name) (N++[it.name]) (all+it.size) (fun x hx=>hf x (List.mem_cons_of_mem _ hx)) (hi.add h1) ?_ ?_ (by omega)
  ·intro r hr
   rcases List.mem_append.1 hr with hr|hr
   ·exact hN r hr
   rw[List.mem_singleton] at hr;rw[hr];exact h1
  rw[List.append_assoc];exact hd'
theorem unpGo_items: ∀(fs acc:List Fl),(∀f∈fs,f.2.size≤600)→unpGo (itemsP fs) acc=(acc++fs,0)
 |[],acc,_=>by simp[unpGo,itemsP]
 |f::fs,acc,h=>by
  have e:itemsP (f::fs)=itemP f.1 f.2::itemsP fs:=rfl
  have hn:(itemP f.1 f.2).name=f.1:=by unfold itemP;split<;>rfl
  rw[e,unpGo,datI_itemP f.1 f.2 (h f (List.mem_cons_self ..)),if_pos rfl,hn,unpGo_items fs _ (fun x hx=>h x (List.mem_cons_of_mem _ hx))]
  simp
theorem Fine.unp{fs:List Fl}(h:Fine fs):unpP sPre (strB (laidL sPre (itemsP fs)))=(fs,0):=by
 have hl:(itemsP fs).length=fs.length:=by simp[itemsP]
 have hnm: ∀f∈fs,(itemP f.1 f.2).name=f.1:=fun f _=>by unfold itemP;split<;>rfl
 have hrise:Rising (itemsP fs):=by
  refine List.pairwise_map.2 (h.rise.imp_of_mem (fun {a b} ha hb hab=> ?_))
  rw[hnm a ha,hnm b hb];exact hab
 have hrd: ∀i∈itemsP fs,ItRd sPre i:=by
  intro i hi
  obtain ⟨f,hf,rfl⟩:=List.mem_map.1 hi
  obtain ⟨g1,g2⟩:=h.form f hf
  have g5:=(nmOk_facts g1).2.2.2.2.1
  obtain ⟨k1,k2,k3,_,_,k6⟩:=itemP_facts f.1 f.2 g5 g2
  obtain ⟨o1,o2,o3,o4,o5⟩:=k1
  exact ⟨k3,o2,o3,by omega,by rw[k6];show 13+f.1.size<_;omega⟩
 unfold unpP
 rw[if_neg (by rw[strB_size];have:=h.size;omega),readP_laid sPre _ hrd hrise (by have:=h.len;omega) (by decide)]
 have hd:(([]:List ByteArray)++(itemsP fs).map (fun i=>i.name)).Pairwise (· ≠ ·):=by
  rw[List.nil_append]
  refine List.pairwise_map.2 (List.Pairwise.imp (fun {a b} hab e=> ?_) hrise)
  rw[e] at hab
  exact List.lt_irrefl _ hab
 have hg:=heads_its (itemsP fs) (fun _=>none) [] 0 (fun i hi=>by
  obtain ⟨f,hf,rfl⟩:=List.mem_map.1 hi
  obtain ⟨g1,g2⟩:=h.form f hf
  obtain ⟨_,_,_,_,k5,k6⟩:=itemP_facts f.1 f.2 (nmOk_facts g1).2.2.2.2.1 g2
  rw[k5,k6];exact ⟨g1,g2⟩) Inv.nil (fun r hr=>by cases hr) hd (by have:=h.len;omega)
 show (if headsGo (itemsP fs) (fun _=>none) 0=0 then unpGo (itemsP fs) [] else ([],headsGo (itemsP fs) (fun _=>none) 0))=_
 rw[hg,if_pos rfl,unpGo_items fs [] (fun f hf=>(h.form f hf).2),List.nil_append]
theorem FsOf.same{T U:List Ent}{fs gs:List Fl}(hp:U.Perm T)(hf:FsOf T fs)(hg:FsOf U gs):gs=fs:=
 sorted_eq ((hg.1.trans (hp.map _)).trans hf.1.symm) hg.2 hf.2
theorem vPackF{w:World}{u:Value}{T:List Ent}(h:EntRow w u T)(hf:Free T)(hm:MaxAt w):Calls Tryz.prog 27 #[.string sMod,.string sVer,u] w fun r w' => ∃fs,FsOf T fs∧Old w w' ∧r=.returned (.tuple #[.string (strB (laidL sPre (itemsP fs))),.int .i64 0]):=by
 have H1:=hide (prefixC w hm)
 have H2:=hide (fun W he hmm=>filesFe (w:=W) (u:=u) (T:=T) he hf hmm)
 have H3:=hide (fun W v fs hv hfs=>packF (w:=W) (v:=v) (fs:=fs) hv (fine_of hf hfs))
 have HM:=hide hm
 have HT:=hide h
 clear hm h hf
 go_in
 go_wp2_with fail
 refine (uh H1).mono ?_
 rintro r w1 ⟨rfl,ho1⟩
 have HO1:=hide ho1
 have H4:=hide (uh H2 w1 ((uh HT).old ho1) ((uh HM).old ho1))
 clear H1 H2 ho1 HM HT
 go_wp2_with fail
 refine (uh H4).mono ?_
 rintro r w2 ⟨v,y,fs,rfl,ho2,hfs,hfa,_,_⟩
 have HO2:=hide (Only.trans (uh HO1) ho2)
 have H5:=hide (uh H3 w2 v fs hfa hfs)
 have HFS:=hide hfs
 clear H4 ho2 hfs hfa H3 HO1
 generalize hz:strB (laidL sPre (itemsP fs))=z at*
 have HZ:=hide hz
 clear hz
 go_wp2_with fail
 refine (uh H5).mono ?_
 rintro r w3 ⟨ho3,rfl⟩
 have HO3:=hide (Only.trans (uh HO2) ho3)
 clear H5 ho3 HO2
 go_wp2_with fail
 go_ret2
 exact ⟨fs,HFS,HO3,by rw[uh HZ];rfl⟩
end Go.Proofs.YtndfmgdhiallpaaGreatDoor
