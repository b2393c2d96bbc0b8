import Derived.Test.YtfbgamknfommpaaGreatDoorKf
import Derived.Test.YtfbgamknfommpaaGreatDoorOa
namespace Go.Proofs.YtfbgamknfommpaaGreatDoor.dk
open Go.RowKit
abbrev sCache:ByteArray:=⟨#[99,97,99,104,101]⟩
abbrev sPlace:ByteArray:=⟨#[99,97,99,104,101,47,109]⟩
abbrev sSide:ByteArray:=⟨#[99,97,99,104,101,47,109,46,116,109,112]⟩
abbrev foq:ByteArray:=⟨#[113]⟩
abbrev foqr:ByteArray:=⟨#[113,47,114]⟩
def fos(f:Nat):List ByteArray:=[[],[⟨#[112]⟩],[foq,foqr],[⟨#[118,101,110,100,111,114]⟩]].getD f []
def upN(P:ByteArray)(f:Nat):ByteArray:=match (fos f).getLast? with
 |none=>P
 |some fo=>inP P fo
def siteB(P:ByteArray):Bool:=decide (parentOf P=some sCache)&&(foL.all fun fo=>decide (parentOf (inP P fo)=some (if fo=foqr then inP P foq else P)))&&
 (List.range 26).all (fun n=>(List.range 4).all fun f=>decide (parentOf (inP P (nmP n f))=some (upN P f)))
structure Site (P:ByteArray):Prop where
 ne:bl P≠[]
 size:P.size≤20
 up:parentOf P=some sCache
 fo: ∀fo∈foL,parentOf (inP P fo)=some (if fo=foqr then inP P foq else P)
 nm: ∀n f,n<26→f<4→parentOf (inP P (nmP n f))=some (upN P f)
theorem site_of{P:ByteArray}(h:siteB P=true)(h1:bl P≠[])(h2:P.size≤20):Site P:=by
 unfold siteB at h
 rw[Bool.and_eq_true,Bool.and_eq_true] at h
 obtain ⟨⟨a,b⟩,c⟩:=h
 exact ⟨h1,h2,of_decide_eq_true a,fun fo hf=>of_decide_eq_true (List.all_eq_true.1 b fo hf),fun n f hn hf=>of_decide_eq_true (List.all_eq_true.1 (List.all_eq_true.1 c n (List.mem_range.2 hn)) f (List.mem_range.2 hf))⟩
theorem siteS:Site sSide:=site_of (by kernel_rfl) (by decide) (by decide)
theorem siteP:Site sPlace:=site_of (by kernel_rfl) (by decide) (by decide)
theorem folP_nm{n f:Nat}(hn:n<26)(hf:f<4):folP (nmP n f) (nmP n f).size=fos f:=by
 have h:(List.range 26).all (fun n=>(List.range 4).all (fun f=>decide (folP (nmP n f) (nmP n f).size=fos f)))=true:=by kernel_rfl
 exact of_decide_eq_true (List.all_eq_true.1 (List.all_eq_true.1 h n (List.mem_range.2 hn)) f (List.mem_range.2 hf))
theorem memL_iff{L:List ByteArray}{s:ByteArray}:memL L s=true↔s∈L:=by
 unfold memL
 rw[List.any_eq_true]
 constructor
 ·rintro ⟨x,hx,h⟩
  have:x=s:=by simpa using h
  rw[←this];exact hx
 intro h;exact ⟨s,h,by simp⟩
theorem fos_sub{f:Nat}(hf:f<4): ∀fo∈fos f,fo∈foL:=by
 have h:(List.range 4).all (fun f=>(fos f).all fun fo=>memL foL fo)=true:=by kernel_rfl
 exact fun fo hm=>memL_iff.1 (List.all_eq_true.1 (List.all_eq_true.1 h f (List.mem_range.2 hf)) fo hm)
def Nm(s:ByteArray):Prop:= ∃n f,n<26∧f<4∧s=nmP n f
theorem Nm.ok{s:ByteArray}(h:Nm s):nmOk s=true:=by obtain ⟨n,f,hn,hf,rfl⟩:=h;exact nmOk_all hn hf
theorem Nm.notFo{s:ByteArray}(h:Nm s):s∉foL:=fun hm=>by
 have h1:=(nmOk_facts h.ok).2.2.2.1
 rw[memL_iff.2 hm] at h1;cases h1
theorem Nm.size{s:ByteArray}(h:Nm s):s.size≤12:=(nmOk_facts h.ok).2.2.2.2.1
theorem inP_inj{P a b:ByteArray}(h:inP P a=inP P b):a=b:=by
 have:=congrArg bl h
 rw[bl_inP,bl_inP,List.append_cancel_left_eq] at this
 injection this with _ h2
 exact bl_inj h2
theorem inP_ne(P a:ByteArray):inP P a≠P:=by
 intro h
 have:=congrArg (fun x=>(bl x).length) h
 simp only[bl_inP,List.length_append,List.length_cons] at this
 omega
theorem wi_in(P a:ByteArray):Wi (bl (inP P a)) (bl P):=.inr ⟨bl a,bl_inP P a⟩
def pTh(P:ByteArray):Th:=⟨P,true,⟨#[]⟩⟩
def foTh(P fo:ByteArray):Th:=⟨inP P fo,true,⟨#[]⟩⟩
def fiTh(P:ByteArray)(f:Fl):Th:=⟨inP P f.1,false,f.2⟩
def news(P:ByteArray)(L:List ByteArray)(fs:List Fl):List Th:=pTh P::(L.map (foTh P)++fs.map (fiTh P))
structure Bare (C:Nat) (P:ByteArray) (D:Dsk):Prop where
 ok:Dok C D
 len:D.ts.length≤100
 cache: ∃x∈D.ts,x.p=sCache∧x.f=true
 none: ∀x∈D.ts,¬Wi (bl x.p) (bl P)
structure Wr (C:Nat) (D0:Dsk) (P:ByteArray) (L:List ByteArray) (fs:List Fl) (D:Dsk):Prop where
 ok:Dok C D
 perm:D.ts.Perm (news P L fs++D0.ts)
 sub: ∀fo∈L,fo∈foL
 nod:L.Nodup
 clo:foqr∈L→foq∈L
 nev:Nev D0→Nev D
 room:D0.room<0→D.room<0
structure Fail (C:Nat) (D0:Dsk) (P:ByteArray) (D:Dsk):Prop where
 ok:Dok C D
 keep: ∀x∈D0.ts,x∈D.ts
 only: ∀x∈D.ts,x∈D0.ts∨Wi (bl x.p) (bl P)
 why:D.down=true∨0≤D0.room
 nev:Nev D0→Nev D
 room:D0.room<0→D.room<0
theorem news_wi{P:ByteArray}{L:List ByteArray}{fs:List Fl}{x:Th}(h:x∈news P L fs):Wi (bl x.p) (bl P):=by
 rcases List.mem_cons.1 h with rfl|h
 ·exact Wi.refl _
 rcases List.mem_append.1 h with h|h
 ·obtain ⟨fo,_,rfl⟩:=List.mem_map.1 h;exact wi_in P fo
 obtain ⟨f,_,rfl⟩:=List.mem_map.1 h;exact wi_in P f.1
theorem Wr.fail{C:Nat}{D0 D D' :Dsk}{P:ByteArray}{L:List ByteArray}{fs:List Fl}{t:Th}{r:Int}(h:Wr C D0 P L fs D)(hp:Put C D t r D')(hr:r≠0):Fail C D0 P D' :=by
 have e:=hp.no hr
 refine ⟨hp.ok,fun x hx=> ?_,fun x hx=> ?_, ?_,fun hn=>hp.nev (h.nev hn),fun hx=>hp.room (h.room hx)⟩
 ·rw[e];exact h.perm.mem_iff.2 (List.mem_append_right _ hx)
 ·rw[e] at hx
  rcases List.mem_append.1 (h.perm.mem_iff.1 hx) with hx|hx
  ·exact .inr (news_wi hx)
  exact .inl hx
 rcases hp.why hr with h1|⟨_,h1,_⟩
 ·exact .inl h1
 right
 rcases Int.lt_or_le D0.room 0 with h2|h2
 ·have:=h.room h2;omega
 exact h2
theorem Wr.mem{C:Nat}{D0 D:Dsk}{P:ByteArray}{L:List ByteArray}{fs:List Fl}(h:Wr C D0 P L fs D){x:Th}:x∈D.ts↔x∈news P L fs∨x∈D0.ts:=by rw[h.perm.mem_iff,List.mem_append]
theorem Wr.top{C:Nat}{D0 D:Dsk}{P:ByteArray}{L:List ByteArray}{fs:List Fl}(h:Wr C D0 P L fs D):pTh P∈D.ts:=h.mem.2 (.inl (List.mem_cons_self ..))
theorem Wr.has{C:Nat}{D0 D:Dsk}{P:ByteArray}{L:List ByteArray}{fs:List Fl}(h:Wr C D0 P L fs D){fo:ByteArray}(hf:fo∈L):foTh P fo∈D.ts:=h.mem.2 (.inl (List.mem_cons_of_mem _ (List.mem_append_left _ (List.mem_map.2 ⟨fo,hf,rfl⟩))))
theorem nodup_len: ∀(A B:List ByteArray),A.Nodup→(∀x∈A,x∈B)→A.length≤B.length
 |[],_,_,_=>Nat.zero_le _
 |a::r,B,hn,hs=>by
  obtain ⟨hn1,hn2⟩:=List.nodup_cons.1 hn
  obtain ⟨b1,b2,rfl⟩:=List.append_of_mem (hs a (List.mem_cons_self ..))
  have:=nodup_len r (b1++b2) hn2 (fun x hx=>by
   have h1:=hs x (List.mem_cons_of_mem _ hx)
   rcases List.mem_append.1 h1 with h1|h1
   ·exact List.mem_append_left _ h1
   rcases List.mem_cons.1 h1 with h1|h1
   ·rw[h1] at hx;exact absurd hx hn1
   exact List.mem_append_right _ h1)
  rw[List.length_append] at this
  rw[List.length_append,List.length_cons,List.length_cons]
  omega
theorem Wr.few{C:Nat}{D0 D:Dsk}{P:ByteArray}{L:List ByteArray}{fs:List Fl}(h:Wr C D0 P L fs D)(hb:Bare C P D0)(hf:fs.length≤20):D.ts.length<1000:=by
 have h1:=h.perm.length_eq
 have h2:L.length≤4:=by
  exact nodup_len L foL h.nod h.sub
 have h3:=hb.len
 rw[h1]
 simp[news]
 omega
theorem Wr.free{C:Nat}{D0 D:Dsk}{P:ByteArray}{L:List ByteArray}{fs:List Fl}(h:Wr C D0 P L fs D)(hb:Bare C P D0){a:ByteArray}(h1:a∉L)(h2: ∀f∈fs,f.1≠a): ∀x∈D.ts,x.p≠inP P a:=by
 intro x hx e
 rcases h.mem.1 hx with hx|hx
 ·rcases List.mem_cons.1 hx with rfl|hx
  ·exact inP_ne P a e.symm
  rcases List.mem_append.1 hx with hx|hx
  ·obtain ⟨fo,hf,rfl⟩:=List.mem_map.1 hx
   exact h1 (inP_inj (show inP P fo=inP P a from e) ▸ hf)
  obtain ⟨f,hf,rfl⟩:=List.mem_map.1 hx
  exact h2 f hf (inP_inj (show inP P f.1=inP P a from e))
 exact hb.none x hx (by rw[e];exact wi_in P a)
theorem Wr.start{C:Nat}{D0 D:Dsk}{P:ByteArray}(hp:Put C D0 (pTh P) 0 D):Wr C D0 P [] [] D:=
 ⟨hp.ok,hp.yes rfl,(fun fo h=>by cases h),List.nodup_nil,(fun h=>by cases h),hp.nev,hp.room⟩
theorem start_put{C:Nat}{D:Dsk}{P:ByteArray}(hs:Site P)(hb:Bare C P D):Put C D (pTh P) (mkdirOf D P).1 (mkdirOf D P).2:=
 mkdir_put hb.ok hs.up (.inr hb.cache) (fun x hx e=>hb.none x hx (by rw[e];exact Wi.refl _)) (by have:=hb.len;omega) (by have:=hs.size;omega)
theorem start_fail{C:Nat}{D D' :Dsk}{P:ByteArray}{r:Int}{t:Th}(hp:Put C D t r D')(hr:r≠0):Fail C D P D' :=by
 have e:=hp.no hr
 refine ⟨hp.ok,fun x hx=>by rw[e];exact hx,fun x hx=> .inl (by rw[e] at hx;exact hx), ?_,hp.nev,hp.room⟩
 rcases hp.why hr with h1|⟨_,h1,_⟩
 ·exact .inl h1
 exact .inr h1
theorem Wr.folder{C:Nat}{D0 D:Dsk}{P:ByteArray}{L:List ByteArray}{fs:List Fl}(hs:Site P)(hb:Bare C P D0)(h:Wr C D0 P L fs D)(hl:fs.length≤20)(hN: ∀f∈fs,Nm f.1){fo:ByteArray}(hf:fo∈foL)(hn:fo∉L)(hq:fo=foqr→foq∈L):
 Put C D (foTh P fo) (mkdirOf D (inP P fo)).1 (mkdirOf D (inP P fo)).2:=by
 refine mkdir_put h.ok (hs.fo fo hf) (.inr ?_) (h.free hb hn (fun f hm e=>(hN f hm).notFo (e ▸ hf))) (h.few hb hl) ?_
 ·by_cases e:fo=foqr
  ·rw[if_pos e];exact ⟨_,h.has (hq e),rfl,rfl⟩
  rw[if_neg e];exact ⟨_,h.top,rfl,rfl⟩
 have h1: ∀x∈foL,x.size≤6:=by decide
 have:=h1 fo hf
 have:=hs.size
 rw[inP_size];omega
theorem Wr.foldered{C:Nat}{D0 D D' :Dsk}{P:ByteArray}{L:List ByteArray}{fs:List Fl}(h:Wr C D0 P L fs D){fo:ByteArray}(hf:fo∈foL)(hn:fo∉L)(hq:fo=foqr→foq∈L)(hp:Put C D (foTh P fo) 0 D'):Wr C D0 P (L++[fo]) fs D' :=by
 refine ⟨hp.ok, ?_,fun x hx=> ?_,List.nodup_append.2 ⟨h.nod,List.nodup_cons.2 ⟨by simp,List.nodup_nil⟩,fun a ha b hb e=>hn ?_⟩,fun hx=> ?_,fun hx=>hp.nev (h.nev hx),fun hx=>hp.room (h.room hx)⟩
 ·refine (hp.yes rfl).trans ((h.perm.cons _).trans ?_)
  simp only[news,List.map_append,List.map_cons,List.map_nil,List.cons_append,List.append_assoc,List.nil_append]
  refine (List.Perm.swap _ _ _).trans (List.Perm.cons _ ?_)
  exact (List.perm_middle (a:=foTh P fo) (l₁:=L.map (foTh P)) (l₂:=fs.map (fiTh P)++D0.ts)).symm
 ·rcases List.mem_append.1 hx with hx|hx
  ·exact h.sub x hx
  rw[List.mem_singleton.1 hx];exact hf
 ·rw[List.mem_singleton.1 hb] at e;rw[←e];exact ha
 rcases List.mem_append.1 hx with hx|hx
 ·exact List.mem_append_left _ (h.clo hx)
 exact List.mem_append_left _ (hq (List.mem_singleton.1 hx).symm)
theorem Wr.file{C:Nat}{D0 D:Dsk}{P:ByteArray}{L:List ByteArray}{fs:List Fl}(hs:Site P)(hb:Bare C P D0)(h:Wr C D0 P L fs D)(hl:fs.length<20){n f:Nat}(hn:n<26)(hf:f<4)(hL: ∀fo∈fos f,fo∈L)(hd: ∀g∈fs,g.1≠nmP n f)(d:ByteArray):
 Put C D (fiTh P (nmP n f,d)) (writeOf D (inP P (nmP n f)) d).1 (writeOf D (inP P (nmP n f)) d).2:=by
 have hN:Nm (nmP n f):=⟨n,f,hn,hf,rfl⟩
 refine write_put h.ok (hs.nm n f hn hf) (.inr ?_) (h.free hb (fun hm=>hN.notFo (h.sub _ hm)) hd) (h.few hb (by omega)) ?_
 ·unfold upN
  cases e:(fos f).getLast? with
  |none=>exact ⟨_,h.top,rfl,rfl⟩
  |some fo=>exact ⟨_,h.has (hL fo (List.mem_of_getLast? e)),rfl,rfl⟩
 have:=hN.size
 have:=hs.size
 show (inP P (nmP n f)).size≤1000
 rw[inP_size];omega
theorem Wr.filed{C:Nat}{D0 D D' :Dsk}{P:ByteArray}{L:List ByteArray}{fs:List Fl}(h:Wr C D0 P L fs D){f:Fl}(hp:Put C D (fiTh P f) 0 D'):Wr C D0 P L (fs++[f]) D' :=by
 refine ⟨hp.ok, ?_,h.sub,h.nod,h.clo,fun hx=>hp.nev (h.nev hx),fun hx=>hp.room (h.room hx)⟩
 refine (hp.yes rfl).trans ((h.perm.cons _).trans ?_)
 simp only[news,List.map_append,List.map_cons,List.map_nil,List.cons_append,List.append_assoc,List.nil_append]
 refine (List.Perm.swap _ _ _).trans (List.Perm.cons _ ?_)
 have:=(List.perm_middle (a:=fiTh P f) (l₁:=L.map (foTh P)++fs.map (fiTh P)) (l₂:=D0.ts)).symm
 simpa [List.append_assoc] using this
end Go.Proofs.YtfbgamknfommpaaGreatDoor.dk
namespace Go.Proofs.YtfbgamknfommpaaGreatDoor.dk
open Go.RowKit
theorem putAll_spec: ∀(us ts:List Th),Srt ts→us.Pairwise (fun a b=>a.p≠b.p)→(∀u∈us,∀t∈ts,t.p≠u.p)→Srt (putAll ts us)∧(putAll ts us).Perm (us++ts)
 |[],ts,h,_,_=>⟨h,List.Perm.refl _⟩
 |u::r,ts,h,hp,hn=>by
  obtain ⟨hp1,hp2⟩:=List.pairwise_cons.1 hp
  have hpm:=ins_perm ts u
  have h1:=h.ins (t:=u) (fun x hx=>hn u (List.mem_cons_self ..) x hx)
  obtain ⟨k1,k2⟩:=putAll_spec r (ins ts u) h1 hp2 (fun y hy t ht=>by
   rcases List.mem_cons.1 (hpm.mem_iff.1 ht) with rfl|ht
   ·exact hp1 y hy
   exact hn y (List.mem_cons_of_mem _ hy) t ht)
  refine ⟨k1,k2.trans ((List.Perm.append_left r hpm).trans ?_)⟩
  exact List.perm_middle
theorem movedTo_in{S Q:ByteArray}{t:Th}{a:ByteArray}(h:t.p=inP S a):(movedTo S Q t).p=inP Q a:=by
 apply bl_inj
 show bl (Q++t.p.extract S.size t.p.size)=_
 rw[bl_app,bl_ext,h,bl_inP,bl_inP,←bl_len S,List.drop_left]
theorem movedTo_top{S Q:ByteArray}{t:Th}(h:t.p=S):(movedTo S Q t).p=Q:=by
 apply bl_inj
 show bl (Q++t.p.extract S.size t.p.size)=_
 rw[bl_app,bl_ext,h,←bl_len S,List.drop_length,List.append_nil]
theorem moved_news(S Q:ByteArray)(L:List ByteArray)(fs:List Fl):(news S L fs).map (movedTo S Q)=news Q L fs:=by
 have th: ∀{a b:Th},a.p=b.p→a.f=b.f→a.d=b.d→a=b:=by intro a b h1 h2 h3;cases a;cases b;simp_all
 unfold news
 rw[List.map_cons,List.map_append,List.map_map,List.map_map]
 congr 1
 ·exact th (movedTo_top rfl) rfl rfl
 congr 1
 ·refine List.map_congr_left fun fo _=>th (movedTo_in rfl) rfl rfl
 refine List.map_congr_left fun f _=>th (movedTo_in rfl) rfl rfl
theorem news_apart{P:ByteArray}{L:List ByteArray}{fs:List Fl}(h1:L.Nodup)(h2: ∀fo∈L,fo∈foL)(h3:fs.Pairwise (fun a b=>a.1≠b.1))(h4: ∀f∈fs,Nm f.1):(news P L fs).Pairwise (fun a b=>a.p≠b.p):=by
 refine List.pairwise_cons.2 ⟨fun x hx=> ?_,List.pairwise_append.2 ⟨List.pairwise_map.2 (h1.imp fun {a b} hab e=>hab (inP_inj e)),List.pairwise_map.2 (h3.imp fun {a b} hab e=>hab (inP_inj e)),fun x hx y hy=> ?_⟩⟩
 ·rcases List.mem_append.1 hx with hx|hx
  ·obtain ⟨fo,_,rfl⟩:=List.mem_map.1 hx;exact (inP_ne P fo).symm
  obtain ⟨f,_,rfl⟩:=List.mem_map.1 hx;exact (inP_ne P f.1).symm
 obtain ⟨fo,hfo,rfl⟩:=List.mem_map.1 hx
 obtain ⟨f,hf,rfl⟩:=List.mem_map.1 hy
 intro e
 have e2:fo=f.1:=inP_inj e
 exact (h4 f hf).notFo (e2 ▸ h2 fo hfo)
theorem tot_app(a b:List Th):tot (a++b)=tot a+tot b:=by simp[tot]
theorem tot_news(S Q:ByteArray)(L:List ByteArray)(fs:List Fl):tot (news S L fs)=tot (news Q L fs):=by
 have h: ∀P:ByteArray,(news P L fs).map (fun t=>t.d.size)=0::(L.map (fun _=>0)++fs.map (fun f=>f.2.size)):=by
  intro P
  unfold news
  rw[List.map_cons,List.map_append,List.map_map,List.map_map]
  rfl
 unfold tot
 rw[h,h]
theorem news_up{S Q:ByteArray}(hS:Site S)(hQ:Site Q){L:List ByteArray}{fs:List Fl}{D0 D:List Th}(hperm:D.Perm (news S L fs++D0))(hwf:Wf D)(hnone: ∀x∈D0,¬Wi (bl x.p) (bl S))(hsub: ∀fo∈L,fo∈foL)(hclo:foqr∈L→foq∈L)(hN: ∀f∈fs,Nm f.1)(hc: ∃x∈D0,x.p=sCache∧x.f=true): ∀t∈news Q L fs,∃u,parentOf t.p=some u∧ ∃x∈news Q L fs++D0,x.p=u∧x.f=true:=by
 have hfo: ∀fo∈L,foTh Q fo∈news Q L fs:=fun fo h=>List.mem_cons_of_mem _ (List.mem_append_left _ (List.mem_map.2 ⟨fo,h,rfl⟩))
 have htop:pTh Q∈news Q L fs:=List.mem_cons_self ..
 intro t ht
 rcases List.mem_cons.1 ht with rfl|ht
 ·obtain ⟨x,hx,h1,h2⟩:=hc
  exact ⟨_,hQ.up,x,List.mem_append_right _ hx,h1,h2⟩
 rcases List.mem_append.1 ht with ht|ht
 ·obtain ⟨fo,hf,rfl⟩:=List.mem_map.1 ht
  refine ⟨_,hQ.fo fo (hsub fo hf), ?_⟩
  by_cases e:fo=foqr
  ·rw[if_pos e]
   exact ⟨_,List.mem_append_left _ (hfo _ (hclo (e ▸ hf))),rfl,rfl⟩
  rw[if_neg e]
  exact ⟨_,List.mem_append_left _ htop,rfl,rfl⟩
 obtain ⟨f,hf,rfl⟩:=List.mem_map.1 ht
 obtain ⟨n,k,hn,hk,e⟩:=hN f hf
 refine ⟨upN Q k,by show parentOf (inP Q f.1)=_;rw[e];exact hQ.nm n k hn hk, ?_⟩
 have hD:fiTh S f∈D:=hperm.mem_iff.2 (List.mem_append_left _ (List.mem_cons_of_mem _ (List.mem_append_right _ (List.mem_map.2 ⟨f,hf,rfl⟩))))
 obtain ⟨u,hu,h2⟩:=hwf.up _ hD
 have hu' :u=upN S k:=by
  have h3:parentOf (inP S f.1)=some (upN S k):=by rw[e];exact hS.nm n k hn hk
  have h4:parentOf (inP S f.1)=some u:=hu
  rw[h3] at h4
  injection h4 with h4
  exact h4.symm
 subst hu'
 unfold upN at h2 ⊢
 cases el:(fos k).getLast? with
 |none=>exact ⟨_,List.mem_append_left _ htop,rfl,rfl⟩
 |some fo=>
  rw[el] at h2
  refine ⟨foTh Q fo,List.mem_append_left _ (hfo fo ?_),rfl,rfl⟩
  rcases h2 with h2|⟨x,hx,hxp,hxf⟩
  ·have:bl (inP S fo)≠[]:=by rw[bl_inP];simp
   exact absurd h2 this
  have hxw:Wi (bl x.p) (bl S):=by rw[hxp];exact wi_in S fo
  rcases List.mem_append.1 (hperm.mem_iff.1 hx) with hx|hx
  ·rcases List.mem_cons.1 hx with rfl|hx
   ·exact absurd hxp.symm (inP_ne S fo)
   rcases List.mem_append.1 hx with hx|hx
   ·obtain ⟨fo',hf',rfl⟩:=List.mem_map.1 hx
    exact (inP_inj (show inP S fo' =inP S fo from hxp)) ▸ hf'
   obtain ⟨f',_,rfl⟩:=List.mem_map.1 hx
   cases hxf
  exact absurd hxw (hnone x hx)
theorem placeNot:withinB sPlace sSide=false:=by kernel_rfl
theorem side_not_place{x:List UInt8}(h:Wi x (bl sSide)):¬Wi x (bl sPlace):=by
 intro h2
 rcases Wi.comp h h2 with h3|h3
 ·have h4:withinB sSide sPlace=true:=(within_spec _ _).2 h3
  have h5:withinB sSide sPlace=false:=by kernel_rfl
  rw[h5] at h4;cases h4
 have h4:withinB sPlace sSide=true:=(within_spec _ _).2 h3
 rw[placeNot] at h4;cases h4
theorem inP_max{P a:ByteArray}(hP:P.size≤20)(ha:a.size≤12):(inP P a).size≤1000:=by rw[inP_size];omega
theorem rename_done{C:Nat}{D0 D:Dsk}{L:List ByteArray}{fs:List Fl}(hb:Bare C sSide D0)(hpl: ∀x∈D0.ts,¬Wi (bl x.p) (bl sPlace))(h:Wr C D0 sSide L fs D)(h3:fs.Pairwise (fun a b=>a.1≠b.1))(h4: ∀f∈fs,Nm f.1)(hg:goes D=true):
 (renameOf D sSide sPlace).1=0∧Wr C D0 sPlace L fs (renameOf D sSide sPlace).2:=by
 have hsr:=h.ok.wf.srt
 have hin: ∀x∈D.ts,¬Wi (bl x.p) (bl sPlace):=fun x hx hw=>by
  rcases h.mem.1 hx with hx|hx
  ·exact side_not_place (news_wi hx) hw
  exact hpl x hx hw
 have hne: ∀x∈D.ts,x.p≠sPlace:=fun x hx e=>hin x hx (by rw[e];exact Wi.refl _)
 have hcache: ∃x∈D.ts,x.p=sCache∧x.f=true:=by
  obtain ⟨x,hx,h1,h2⟩:=hb.cache
  exact ⟨x,h.mem.2 (.inr hx),h1,h2⟩
 have hfree:freeOf D.ts sPlace=0:=free_ok hsr siteP.up (.inr hcache) hne
 have his:(isOf D.ts sSide==0)=false:=by
  rw[beq_eq_false_iff_ne]
  intro e
  exact isOf_zero hsr e _ h.top rfl
 -- what is moved,what is kept
 have hnw:(news sSide L fs).filter (fun t=>withinB t.p sSide)=news sSide L fs:=List.filter_eq_self.2 fun x hx=>(within_spec _ _).2 (news_wi hx)
 have hnk:(news sSide L fs).filter (fun t=> !withinB t.p sSide)=[]:=List.filter_eq_nil_iff.2 fun x hx=>by rw[(within_spec _ _).2 (news_wi hx)];simp
 have hdw:D0.ts.filter (fun t=>withinB t.p sSide)=[]:=List.filter_eq_nil_iff.2 fun x hx=>by
  intro e;exact hb.none x hx ((within_spec _ _).1 e)
 have hdk:D0.ts.filter (fun t=> !withinB t.p sSide)=D0.ts:=List.filter_eq_self.2 fun x hx=>by
  cases e:withinB x.p sSide
  ·rfl
  exact absurd ((within_spec _ _).1 e) (hb.none x hx)
 have hm:(movedOf D.ts sSide sPlace).Perm (news sPlace L fs):=by
  have h1:=(h.perm.filter (fun t=>withinB t.p sSide)).map (movedTo sSide sPlace)
  rw[List.filter_append,hnw,hdw,List.append_nil,moved_news] at h1
  exact h1
 have hk:(keptOf D.ts sSide).Perm D0.ts:=by
  have h1:=h.perm.filter (fun t=> !withinB t.p sSide)
  rw[List.filter_append,hnk,hdk,List.nil_append] at h1
  exact h1
 have hap:(movedOf D.ts sSide sPlace).Pairwise (fun a b=>a.p≠b.p):=(hm.pairwise_iff (fun {a b} h=>Ne.symm h)).2 (news_apart h.nod h.sub h3 h4)
 obtain ⟨p1,p2⟩:=putAll_spec (movedOf D.ts sSide sPlace) (keptOf D.ts sSide) (hsr.sublist List.filter_sublist) hap (fun u hu t ht e=>by
  have h5:=hpl t (hk.mem_iff.1 ht)
  rw[e] at h5
  exact h5 (news_wi (hm.mem_iff.1 hu)))
 have hpm:(putAll (keptOf D.ts sSide) (movedOf D.ts sSide sPlace)).Perm (news sPlace L fs++D0.ts):=p2.trans (List.Perm.append hm hk)
 unfold renameOf
 rw[if_pos hg,if_neg (by rw[his];simp),if_pos (by rw[hfree];rfl),if_neg (by rw[placeNot];simp)]
 refine ⟨rfl,⟨⟨⟨p1,fun t ht=> ?_⟩, ?_,fun t ht=> ?_, ?_,stepped_left h.ok.left,h.ok.cap⟩,hpm,h.sub,h.nod,h.clo,fun hn=> ?_,fun hr=>h.room hr⟩⟩
 ·rcases List.mem_append.1 (hpm.mem_iff.1 ht) with ht|ht
  ·obtain ⟨u,hu,x,hx,h1,h2⟩:=news_up siteS siteP h.perm h.ok.wf hb.none h.sub h.clo h4 hb.cache t ht
   exact ⟨u,hu,.inr ⟨x,hpm.mem_iff.2 hx,h1,h2⟩⟩
  obtain ⟨u,hu,h1⟩:=hb.ok.wf.up t ht
  refine ⟨u,hu, ?_⟩
  rcases h1 with h1|⟨x,hx,h1,h2⟩
  ·exact .inl h1
  exact .inr ⟨x,hpm.mem_iff.2 (List.mem_append_right _ hx),h1,h2⟩
 ·show (putAll (keptOf D.ts sSide) (movedOf D.ts sSide sPlace)).length≤1000
  rw[hpm.length_eq,List.length_append]
  have h1:=h.perm.length_eq
  have h2:=h.ok.len
  have h5:(news sPlace L fs).length=(news sSide L fs).length:=by simp[news]
  rw[List.length_append] at h1
  omega
 ·rcases List.mem_append.1 (hpm.mem_iff.1 ht) with ht|ht
  ·have hs20:sPlace.size≤20:=siteP.size
   rcases List.mem_cons.1 ht with rfl|ht
   ·show sPlace.size≤1000;omega
   rcases List.mem_append.1 ht with ht|ht
   ·obtain ⟨fo,hf,rfl⟩:=List.mem_map.1 ht
    have h1: ∀x∈foL,x.size≤6:=by decide
    exact inP_max hs20 (by have:=h1 fo (h.sub fo hf);omega)
   obtain ⟨f,hf,rfl⟩:=List.mem_map.1 ht
   exact inP_max hs20 (h4 f hf).size
  exact hb.ok.sz t ht
 ·rcases h.ok.room with hr|⟨hr0,hr1⟩
  ·exact .inl hr
  refine .inr ⟨hr0, ?_⟩
  show D.room+(tot (putAll (keptOf D.ts sSide) (movedOf D.ts sSide sPlace)):Int)=C
  rw[tot_perm hpm,tot_app,tot_news sPlace sSide,←tot_app,←tot_perm h.perm]
  exact hr1
 have:=stepped_nev (h.nev hn);exact ⟨this.1,this.2⟩
end Go.Proofs.YtfbgamknfommpaaGreatDoor.dk
namespace Go.Proofs.YtfbgamknfommpaaGreatDoor.dk
open Go.RowKit
structure Start (C:Nat) (D:Dsk):Prop where
 ok:Dok C D
 len:D.ts.length≤100
 cache: ∃x∈D.ts,x.p=sCache∧x.f=true
 none: ∀x∈D.ts,¬Wi (bl x.p) (bl sPlace)
structure Half (C:Nat) (D D' :Dsk):Prop where
 ok:Dok C D'
 keep: ∀x∈D.ts,¬Wi (bl x.p) (bl sSide)→x∈D'.ts
 only: ∀x∈D'.ts,x∈D.ts∨Wi (bl x.p) (bl sSide)
 why:¬(Nev D∧D.room<0)
 nev:Nev D→Nev D'
structure Lost (C:Nat) (D D' :Dsk):Prop where
 half:Half C D D'
 clean:D'.down=true∨ ∀x∈D'.ts,¬Wi (bl x.p) (bl sSide)
theorem cache_not_side{x:Th}(h:x.p=sCache):¬Wi (bl x.p) (bl sSide):=fun hw=>by
 have h1:withinB sCache sSide=true:=(within_spec _ _).2 (h ▸ hw)
 have h2:withinB sCache sSide=false:=by kernel_rfl
 rw[h2] at h1;cases h1
theorem Start.bare{C:Nat}{D D1:Dsk}(h:Start C D)(hr:Rem C D sSide true D1):Bare C sSide D1:=by
 refine ⟨hr.ok,Nat.le_trans hr.sub.length_le h.len, ?_,hr.yes rfl⟩
 obtain ⟨x,hx,h1,h2⟩:=h.cache
 exact ⟨x,hr.keep x hx (cache_not_side h1),h1,h2⟩
theorem Start.place{C:Nat}{D D1:Dsk}(h:Start C D)(hr:Rem C D sSide true D1): ∀x∈D1.ts,¬Wi (bl x.p) (bl sPlace):=fun x hx=>h.none x (hr.sub.subset hx)
theorem half_rem{C:Nat}{D D1:Dsk}(hr:Rem C D sSide false D1):Half C D D1:=
 ⟨hr.ok,hr.keep,fun x hx=> .inl (hr.sub.subset hx),(fun h=>by have h1:=(hr.nev h.1).2;rw[hr.no rfl] at h1;cases h1),hr.nev⟩
theorem half_fail{C:Nat}{D D1 D2:Dsk}(hr:Rem C D sSide true D1)(hf:Fail C D1 sSide D2):Half C D D2:=by
 refine ⟨hf.ok,fun x hx hn=>hf.keep x (hr.keep x hx hn),fun x hx=>(hf.only x hx).imp (fun h=>hr.sub.subset h) id,fun h=> ?_,fun hn=>hf.nev (hr.nev hn)⟩
 rcases hf.why with h1|h1
 ·have h2:=(hf.nev (hr.nev h.1)).2;rw[h1] at h2;cases h2
 have h2:=hr.room h.2;omega
theorem half_down{C:Nat}{D D1 D2:Dsk}{L:List ByteArray}{fs:List Fl}(hr:Rem C D sSide true D1)(hw:Wr C D1 sSide L fs D2)(hg:¬goes D2=true):Half C D (stepped D2):=by
 refine ⟨hw.ok.step,fun x hx hn=>hw.mem.2 (.inr (hr.keep x hx hn)),fun x hx=> ?_,fun h=>hg (goes_nev (hw.nev (hr.nev h.1))),fun hn=>stepped_nev (hw.nev (hr.nev hn))⟩
 rcases hw.mem.1 hx with hx|hx
 ·exact .inr (news_wi hx)
 exact .inl (hr.sub.subset hx)
theorem rename_down{D:Dsk}(hg:¬goes D=true)(a b:ByteArray):renameOf D a b=(4,stepped D):=by
 unfold renameOf;rw[if_neg hg]
theorem Half.lost{C:Nat}{D D1 D2:Dsk}{r:Bool}(h:Half C D D1)(hr:Rem C D1 sSide r D2):Lost C D D2:=by
 refine ⟨⟨hr.ok,fun x hx hn=>hr.keep x (h.keep x hx hn) hn,fun x hx=>h.only x (hr.sub.subset hx),h.why,fun hn=>hr.nev (h.nev hn)⟩, ?_⟩
 cases r with
 |true=>exact .inr (hr.yes rfl)
 |false=>exact .inl (hr.no rfl)
def Laid(C:Nat)(D:Dsk)(fs:List Fl)(D' :Dsk):Prop:= ∃D1 L,Rem C D sSide true D1∧Bare C sSide D1∧(∀x∈D1.ts,¬Wi (bl x.p) (bl sPlace))∧Wr C D1 sPlace L fs D'
end Go.Proofs.YtfbgamknfommpaaGreatDoor.dk
namespace Go.Proofs.YtfbgamknfommpaaGreatDoor.dk
open Go.RowKit
def fcnt(ts:List Th)(p:ByteArray):Nat:=ts.countP (fun t=> !t.f&&withinB t.p p)
theorem countP_or{α:Type}(p q:α→Bool): ∀(l:List α),(∀x∈l,¬(p x=true∧q x=true))→l.countP (fun x=>p x||q x)=l.countP p+l.countP q
 |[],_=>rfl
 |a::r,h=>by
  have ih:=countP_or p q r (fun x hx=>h x (List.mem_cons_of_mem _ hx))
  have ha:=h a (List.mem_cons_self ..)
  rw[List.countP_cons,List.countP_cons,List.countP_cons,ih]
  cases hp:p a<;>cases hq:q a
  ·simp
  ·simp;omega
  ·simp;omega
  exact absurd ⟨hp,hq⟩ ha
theorem countP_any{α β:Type}(P:β→α→Bool)(ts:List α): ∀(L:List β),L.Pairwise (fun a b=> ∀x∈ts,¬(P a x=true∧P b x=true))→ts.countP (fun x=>L.any (fun a=>P a x))=(L.map (fun a=>ts.countP (P a))).sum
 |[],_=>by
  have:ts.countP (fun x=>([]:List β).any (fun a=>P a x))=0:=List.countP_eq_zero.2 (fun x _=>by simp)
  rw[this];rfl
 |a::r,h=>by
  obtain ⟨h1,h2⟩:=List.pairwise_cons.1 h
  have ih:=countP_any P ts r h2
  rw[List.map_cons,List.sum_cons,←ih]
  have:=countP_or (P a) (fun x=>r.any (fun b=>P b x)) ts (fun x hx hh=>by
   obtain ⟨b,hb,hb2⟩:=List.any_eq_true.1 hh.2
   exact h1 b hb x hx ⟨hh.1,hb2⟩)
  rw[←this]
  rfl
theorem names_apart{ts:List Th}(h:Wf ts){p:ByteArray}(hp:bl p≠[]):(namesL ts p).Pairwise (fun a b=> ∀x∈ts,¬(withinB x.p (inP p a)=true∧withinB x.p (inP p b)=true)):=by
 unfold namesL
 split
 ·refine List.pairwise_map.2 ?_
  have hs:(ts.filter (standsIn p)).Pairwise (fun a b=>bl a.p<bl b.p):=h.srt.sublist List.filter_sublist
  refine hs.imp_of_mem fun {a b} ha hb hab x hx hh=> ?_
  obtain ⟨ha1,ha2⟩:=List.mem_filter.1 ha
  obtain ⟨hb1,hb2⟩:=List.mem_filter.1 hb
  obtain ⟨ua,hua,_⟩:=h.up a ha1
  obtain ⟨ub,hub,_⟩:=h.up b hb1
  have ea:=(standsIn_iff hua).1 ha2
  have eb:=(standsIn_iff hub).1 hb2
  subst ea
  subst eb
  rw[(nameIn_spec hua hp).1,(nameIn_spec hub hp).1] at hh
  have:=apart hua hub ((within_spec _ _).1 hh.1) ((within_spec _ _).1 hh.2)
  rw[this] at hab
  exact List.lt_irrefl _ hab
 exact List.Pairwise.nil
theorem fcnt_children{ts:List Th}(h:Wf ts){p:ByteArray}(hp:bl p≠[])(h1:isOf ts p≠1):fcnt ts p=((namesL ts p).map (fun nm=>fcnt ts (inP p nm))).sum:=by
 have hd:=(names_apart h hp).imp (S:=fun a b=> ∀x∈ts,¬((fun nm (t:Th)=> !t.f&&withinB t.p (inP p nm)) a x=true∧(fun nm (t:Th)=> !t.f&&withinB t.p (inP p nm)) b x=true)) (fun {a b} hab x hx hh=>by
  simp only[Bool.and_eq_true] at hh
  exact hab x hx ⟨hh.1.2,hh.2.2⟩)
 have h2:=countP_any (fun nm (t:Th)=> !t.f&&withinB t.p (inP p nm)) ts (namesL ts p) hd
 unfold fcnt
 rw[←h2]
 refine List.countP_congr fun x hx=> ?_
 rw[Bool.and_eq_true,List.any_eq_true,within_spec]
 constructor
 ·rintro ⟨hf,hw⟩
  have hne:x.p≠p:=fun e=>by
   have hf' :x.f=false:=by simpa using hf
   have:=isOf_mem h.srt hx
   rw[e,hf'] at this
   exact h1 this
  obtain ⟨c,hc,hu,hwc⟩:=h.child hp _ x hx (Nat.le_refl _) hw hne
  refine ⟨nameIn p c,names_have h hp hc hu, ?_⟩
  rw[Bool.and_eq_true,within_spec,(nameIn_spec hu hp).1]
  exact ⟨hf,hwc⟩
 rintro ⟨nm,_,hh⟩
 rw[Bool.and_eq_true,within_spec] at hh
 exact ⟨hh.1,wi_inP hh.2⟩
theorem fcnt_file{ts:List Th}(h:Wf ts){p:ByteArray}(hp:bl p≠[])(h1:isOf ts p=1):fcnt ts p=1:=by
 obtain ⟨t,ht,rfl⟩:=isOf_ne (ts:=ts) (q:=p) (by rw[h1];decide)
 have hf:t.f=false:=by
  rw[isOf_mem h.srt ht] at h1
  cases e:t.f with
  |false=>rfl
  |true=>rw[e] at h1;cases h1
 obtain ⟨a,b,e⟩:=List.append_of_mem ht
 have hnd:ts.Pairwise (fun x y=>x.p≠y.p):=h.srt.imp (fun {x y} hxy e=>by rw[e] at hxy;exact List.lt_irrefl _ hxy)
 have honly: ∀x∈ts,Wi (bl x.p) (bl t.p)→x.p=t.p:=fun x hx hw=>by
  refine Classical.byContradiction fun hne=> ?_
  obtain ⟨y,hy,hyp,hyf⟩:=h.there hp _ x hx (Nat.le_refl _) hw
  have:=h.srt.one hy ht hyp
  rw[this,hf] at hyf
  exact absurd (hyf hne) (by decide)
 rw[e] at hnd honly
 obtain ⟨_,h3,h4⟩:=List.pairwise_append.1 hnd
 obtain ⟨h5,_⟩:=List.pairwise_cons.1 h3
 have z: ∀l:List Th,(∀x∈l,x.p≠t.p)→(∀x∈l,Wi (bl x.p) (bl t.p)→x.p=t.p)→l.countP (fun x=> !x.f&&withinB x.p t.p)=0:=fun l hl ho=>List.countP_eq_zero.2 fun x hx hh=>by
  rw[Bool.and_eq_true,within_spec] at hh
  exact hl x hx (ho x hx hh.2)
 have h6:(!t.f&&withinB t.p t.p)=true:=by rw[hf,(within_spec _ _).2 (Wi.refl _)];rfl
 unfold fcnt
 rw[e,List.countP_append,List.countP_cons,h6,z a (fun x hx=>h4 x hx t (List.mem_cons_self ..)) (fun x hx=>honly x (List.mem_append_left _ hx)),z b (fun x hx e=>h5 x hx e.symm) (fun x hx=>honly x (List.mem_append_right _ (List.mem_cons_of_mem _ hx)))]
 simp
theorem Wr.files{C:Nat}{D0 D:Dsk}{P:ByteArray}{L:List ByteArray}{fs:List Fl}(h:Wr C D0 P L fs D)(hn: ∀x∈D0.ts,¬Wi (bl x.p) (bl P)):fcnt D.ts P=fs.length:=by
 unfold fcnt
 rw[h.perm.countP_eq,List.countP_append]
 have h1:D0.ts.countP (fun t=> !t.f&&withinB t.p P)=0:=List.countP_eq_zero.2 fun x hx hh=>by
  rw[Bool.and_eq_true,within_spec] at hh
  exact hn x hx hh.2
 have h2:(L.map (foTh P)).countP (fun t=> !t.f&&withinB t.p P)=0:=List.countP_eq_zero.2 fun x hx hh=>by
  obtain ⟨fo,_,rfl⟩:=List.mem_map.1 hx
  simp[foTh] at hh
 have h3:(fs.map (fiTh P)).countP (fun t=> !t.f&&withinB t.p P)=fs.length:=by
  rw[List.countP_eq_length.2,List.length_map]
  intro x hx
  obtain ⟨f,_,rfl⟩:=List.mem_map.1 hx
  rw[Bool.and_eq_true,within_spec]
  exact ⟨rfl,wi_in P f.1⟩
 rw[h1,news,List.countP_cons,List.countP_append,h2,h3]
 simp[pTh]
end Go.Proofs.YtfbgamknfommpaaGreatDoor.dk
namespace Go.Proofs.YtfbgamknfommpaaGreatDoor.dk
open Go.RowKit
abbrev sOther:ByteArray:=⟨#[99,97,99,104,101,47,111,116,104,101,114]⟩
abbrev sKept:ByteArray:=⟨#[107,101,112,116]⟩
def cTh:Th:=⟨sCache,true,⟨#[]⟩⟩
def oTh:Th:=⟨sOther,false,sKept⟩
structure Base (ts:List Th):Prop where
 c:cTh∈ts
 o:oTh∈ts
 uni: ∀t∈ts,t.p=sCache∨t.p=sOther∨Wi (bl t.p) (bl sSide)∨Wi (bl t.p) (bl sPlace)
theorem other_not_side:¬Wi (bl sOther) (bl sSide):=fun h=>by
 have h1:=(within_spec _ _).2 h
 have h2:withinB sOther sSide=false:=by kernel_rfl
 rw[h2] at h1;cases h1
theorem cache_not_side' :¬Wi (bl sCache) (bl sSide):=cache_not_side (x:=cTh) rfl
theorem Base.rem{C:Nat}{D D' :Dsk}{r:Bool}(h:Base D.ts)(hr:Rem C D sSide r D'):Base D'.ts:=
 ⟨hr.keep _ h.c cache_not_side',hr.keep _ h.o other_not_side,fun t ht=>h.uni t (hr.sub.subset ht)⟩
theorem Base.wr{C:Nat}{D0 D:Dsk}{P:ByteArray}{L:List ByteArray}{fs:List Fl}(h:Base D0.ts)(hP:P=sSide∨P=sPlace)(hw:Wr C D0 P L fs D):Base D.ts:=by
 refine ⟨hw.mem.2 (.inr h.c),hw.mem.2 (.inr h.o),fun t ht=> ?_⟩
 rcases hw.mem.1 ht with ht|ht
 ·have:=news_wi ht
  rcases hP with rfl|rfl
  ·exact .inr (.inr (.inl this))
  exact .inr (.inr (.inr this))
 exact h.uni t ht
theorem Base.laid{C:Nat}{D D' :Dsk}{fs:List Fl}(h:Base D.ts)(hl:Laid C D fs D'):Base D'.ts:=by
 obtain ⟨D1,L,h1,_,_,h2⟩:=hl
 exact (h.rem h1).wr (.inr rfl) h2
theorem Base.lost{C:Nat}{D D' :Dsk}(h:Base D.ts)(hl:Lost C D D'):Base D'.ts:=
 ⟨hl.half.keep _ h.c cache_not_side',hl.half.keep _ h.o other_not_side,fun t ht=>(hl.half.only t ht).elim (h.uni t) (fun x=> .inr (.inr (.inl x)))⟩
theorem count_path{ts:List Th}(hs:Srt ts)(q:ByteArray):ts.countP (fun t=>decide (t.p=q))=if isOf ts q=0 then 0 else 1:=by
 by_cases h:isOf ts q=0
 ·rw[if_pos h]
  exact List.countP_eq_zero.2 fun t ht e=>isOf_zero hs h t ht (of_decide_eq_true e)
 rw[if_neg h]
 obtain ⟨t,ht,rfl⟩:=isOf_ne h
 obtain ⟨a,b,e⟩:=List.append_of_mem ht
 have hnd:ts.Pairwise (fun x y=>x.p≠y.p):=hs.imp (fun {x y} hxy e=>by rw[e] at hxy;exact List.lt_irrefl _ hxy)
 rw[e] at hnd ⊢
 obtain ⟨_,h3,h4⟩:=List.pairwise_append.1 hnd
 obtain ⟨h5,_⟩:=List.pairwise_cons.1 h3
 have z1:a.countP (fun x=>decide (x.p=t.p))=0:=List.countP_eq_zero.2 fun x hx e=>h4 x hx t (List.mem_cons_self ..) (of_decide_eq_true e)
 have z2:b.countP (fun x=>decide (x.p=t.p))=0:=List.countP_eq_zero.2 fun x hx e=>h5 x hx (of_decide_eq_true e).symm
 rw[List.countP_append,List.countP_cons,z1,z2]
 simp
theorem wi_up_cache{t u:ByteArray}{P:ByteArray}(hu:parentOf t=some u)(hw:Wi (bl t) (bl P))(hP:¬Wi (bl sCache) (bl P))(e:u=sCache):t=P:=by
 refine Classical.byContradiction fun hne=> ?_
 have:=Wi.up (up_spec hu) hw (fun x=>hne (bl_inj x))
 rw[e] at this
 exact hP this
theorem cache_not_place:¬Wi (bl sCache) (bl sPlace):=fun h=>by
 have h1:=(within_spec _ _).2 h
 have h2:withinB sCache sPlace=false:=by kernel_rfl
 rw[h2] at h1;cases h1
theorem Base.here{ts:List Th}(h:Base ts)(hw:Wf ts):(namesL ts sCache).length=1+(if isOf ts sSide=0 then 0 else 1)+(if isOf ts sPlace=0 then 0 else 1):=by
 have hok:okN ts sCache=true:=by
  unfold okN
  have:=(isOf_two hw.srt (q:=sCache)).2 ⟨cTh,h.c,rfl,rfl⟩
  rw[this];simp
 unfold namesL
 rw[if_pos hok,namesOf,List.length_map,←List.countP_eq_length_filter]
 have hc:ts.countP (standsIn sCache)=ts.countP (fun t=>(decide (t.p=sOther)||decide (t.p=sSide))||decide (t.p=sPlace)):=by
  refine List.countP_congr fun t ht=> ?_
  obtain ⟨u,hu,_⟩:=hw.up t ht
  rw[standsIn_iff hu,Bool.or_eq_true,Bool.or_eq_true,decide_eq_true_eq,decide_eq_true_eq,decide_eq_true_eq]
  constructor
  ·intro e
   rcases h.uni t ht with h1|h1|h1|h1
   ·exfalso
    have h2:parentOf sCache=some ⟨#[]⟩:=by kernel_rfl
    rw[h1,h2] at hu
    injection hu with hu
    rw[←hu] at e
    exact absurd e (by decide)
   ·exact .inl (.inl h1)
   ·exact .inl (.inr (wi_up_cache hu h1 cache_not_side' e))
   exact .inr (wi_up_cache hu h1 cache_not_place e)
  intro e
  have hq:parentOf t.p=some sCache:=by
   rcases e with (e|e)|e
   ·rw[e];kernel_rfl
   ·rw[e];exact siteS.up
   rw[e];exact siteP.up
  rw[hu] at hq
  injection hq
 have d1:sOther≠sSide:=by decide
 have d2:sOther≠sPlace:=by decide
 have d3:sSide≠sPlace:=by decide
 rw[hc,countP_or _ _ ts (fun x _ hh=> ?_),countP_or _ _ ts (fun x _ hh=> ?_),count_path hw.srt,count_path hw.srt,count_path hw.srt]
 ·have h1:isOf ts sOther≠0:=fun e=>isOf_zero hw.srt e _ h.o rfl
  rw[if_neg h1]
 ·exact d1 ((of_decide_eq_true hh.1).symm.trans (of_decide_eq_true hh.2))
 rcases Bool.or_eq_true _ _|>.mp hh.1 with h1|h1
 ·exact d2 ((of_decide_eq_true h1).symm.trans (of_decide_eq_true hh.2))
 exact d3 ((of_decide_eq_true h1).symm.trans (of_decide_eq_true hh.2))
theorem Base.root{ts:List Th}(h:Base ts)(hw:Wf ts):(namesL ts ⟨#[]⟩).length=1:=by
 have hok:okN ts ⟨#[]⟩=true:=by unfold okN;rw[ByteArray.toList_eq];rfl
 unfold namesL
 rw[if_pos hok,namesOf,List.length_map,←List.countP_eq_length_filter]
 have hc:ts.countP (standsIn ⟨#[]⟩)=ts.countP (fun t=>decide (t.p=sCache)):=by
  refine List.countP_congr fun t ht=> ?_
  obtain ⟨u,hu,_⟩:=hw.up t ht
  rw[standsIn_iff hu,decide_eq_true_eq]
  have hin: ∀P:ByteArray,bl P≠[]→47∈bl P→Wi (bl t.p) (bl P)→u=⟨#[]⟩→False:=by
   intro P hP h47 hw e
   rcases up_spec hu with ⟨_,_,h1⟩|⟨r,_,_,_,h1⟩
   ·rcases hw with hw|⟨r,hw⟩
    ·rw[hw] at h1;exact h1 h47
    rw[hw] at h1;exact h1 (List.mem_append_left _ h47)
   rw[e] at h1;exact h1 rfl
  constructor
  ·intro e
   rcases h.uni t ht with h1|h1|h1|h1
   ·exact h1
   ·exact (hin sOther (by decide) (by decide) (.inl (by rw[h1])) e).elim
   ·exact (hin sSide (by decide) (by decide) h1 e).elim
   exact (hin sPlace (by decide) (by decide) h1 e).elim
  intro e
  have h2:parentOf sCache=some ⟨#[]⟩:=by kernel_rfl
  rw[e,h2] at hu
  injection hu with hu
  exact hu.symm
 have hc0:isOf ts sCache≠0:=fun e=>isOf_zero hw.srt e _ h.c rfl
 rw[hc,count_path hw.srt,if_neg hc0]
theorem Base.read{ts:List Th}(h:Base ts)(hw:Wf ts):readOf ts sOther=sKept∧isFile ts sOther=true:=by
 obtain ⟨h1,_,h3⟩:=isAt_mem hw.srt h.o
 have h4:isFile ts sOther=true:=by
  unfold isFile
  rw[show sOther=oTh.p from rfl,h1,h3];rfl
 unfold readOf
 rw[h4,if_pos rfl,show sOther=oTh.p from rfl,h3]
 exact ⟨rfl,rfl⟩
def cpy(D:Dsk):Dsk:=⟨D.ts, -1, -1,0,false⟩
theorem cpy_ok{C:Nat}{D:Dsk}(h:Dok C D):Dok 0 (cpy D)∧Nev (cpy D)∧(cpy D).room<0:=
 ⟨⟨h.wf,h.len,h.sz,.inl (by show (-1:Int)<0;decide),⟨by show (-1:Int)≤ -1;decide,by show (-1:Int)≤1000;decide⟩,by decide⟩,⟨by show (-1:Int)<0;decide,rfl⟩,by show (-1:Int)<0;decide⟩
structure Held (ts:List Th) (fs:List Fl):Prop where
 wf:Wf ts
 top:pTh sPlace∈ts
 fi: ∀f∈fs,fiTh sPlace f∈ts
 cnt:fcnt ts sPlace=fs.length
theorem Laid.held{C:Nat}{D D' :Dsk}{fs:List Fl}(h:Laid C D fs D'):Held D'.ts fs∧(∀x∈D'.ts,¬Wi (bl x.p) (bl sSide)):=by
 obtain ⟨D1,L,h1,h2,h3,h4⟩:=h
 refine ⟨⟨h4.ok.wf,h4.top,fun f hf=>h4.mem.2 (.inl (List.mem_cons_of_mem _ (List.mem_append_right _ (List.mem_map.2 ⟨f,hf,rfl⟩)))),h4.files h3⟩,fun x hx hw=> ?_⟩
 rcases h4.mem.1 hx with hx|hx
 ·exact side_not_place hw (news_wi hx)
 exact h2.none x hx hw
theorem Held.perm{ts us:List Th}{fs:List Fl}(h:Held ts fs)(hw:Wf us)(hp:us.Perm ts):Held us fs:=
 ⟨hw,hp.mem_iff.2 h.top,fun f hf=>hp.mem_iff.2 (h.fi f hf),by unfold fcnt;rw[hp.countP_eq];exact h.cnt⟩
theorem Rem.same{C:Nat}{D D' :Dsk}{r:Bool}(h:Rem C D sSide r D')(hD:Wf D.ts)(h0: ∀x∈D.ts,¬Wi (bl x.p) (bl sSide)):D'.ts.Perm D.ts:=by
 have nd: ∀ts:List Th,Wf ts→ts.Nodup:=fun ts hw=>hw.srt.imp (fun {x y} hxy e=>by rw[e] at hxy;exact List.lt_irrefl _ hxy)
 exact (List.perm_ext_iff_of_nodup (nd _ h.ok.wf) (nd _ hD)).2 fun x=>⟨fun hx=>h.sub.subset hx,fun hx=>h.keep x hx (h0 x hx)⟩
end Go.Proofs.YtfbgamknfommpaaGreatDoor.dk
namespace Go.Proofs.YtfbgamknfommpaaGreatDoor.dk
open Go.RowKit
abbrev sOld:ByteArray:=⟨#[99,97,99,104,101,47,109,46,116,109,112,47,111,108,100]⟩
abbrev sOldX:ByteArray:=⟨#[99,97,99,104,101,47,109,46,116,109,112,47,111,108,100,47,120]⟩
abbrev sOldD:ByteArray:=⟨#[111,108,100]⟩
def dN0:Dsk:=⟨[], -1, -1,0,false⟩
def dN1:Dsk:=⟨[cTh], -1, -1,1,false⟩
def dS0:Dsk:=⟨[cTh,oTh], -1, -1,2,false⟩
def dM1:Dsk:=⟨[cTh,pTh sSide,oTh], -1, -1,3,false⟩
def dM2:Dsk:=⟨[cTh,pTh sSide,⟨sOld,true,⟨#[]⟩⟩,oTh], -1, -1,4,false⟩
def dS1:Dsk:=⟨[cTh,pTh sSide,⟨sOld,true,⟨#[]⟩⟩,⟨sOldX,false,sOldD⟩,oTh], -1, -1,5,false⟩
theorem mkN1:mkdirOf dN0 sCache=(0,dN1):=by kernel_rfl
theorem wrS0:writeOf dN1 sOther sKept=(0,dS0):=by kernel_rfl
theorem mkM1:mkdirOf dS0 sSide=(0,dM1):=by kernel_rfl
theorem mkM2:mkdirOf dM1 sOld=(0,dM2):=by kernel_rfl
theorem wrS1:writeOf dM2 sOldX sOldD=(0,dS1):=by kernel_rfl
structure Init (ts:List Th):Prop where
 wf:Wf ts
 base:Base ts
 len:ts.length≤100
 sz: ∀t∈ts,t.p.size≤1000
 place: ∀t∈ts,¬Wi (bl t.p) (bl sPlace)
 tt:tot ts≤1000
def okB(ts:List Th):Bool:=(ts.all fun t=>decide (t.p.size≤1000))&&(ts.all fun t=> !withinB t.p sPlace)&&(ts.all fun t=>decide (t.p=sCache)||decide (t.p=sOther)||withinB t.p sSide)&&
 (ts.all fun t=>match parentOf t.p with
  |none=>false
  |some u=>decide (u=⟨#[]⟩)||ts.any fun x=>decide (x.p=u)&&x.f)
theorem init_of{ts:List Th}(h:okB ts=true)(hs:Srt ts)(hc:cTh∈ts)(ho:oTh∈ts)(hl:ts.length≤100)(ht:tot ts≤1000):Init ts:=by
 unfold okB at h
 rw[Bool.and_eq_true,Bool.and_eq_true,Bool.and_eq_true] at h
 obtain ⟨⟨⟨a,b⟩,c⟩,d⟩:=h
 refine ⟨⟨hs,fun t hm=> ?_⟩,⟨hc,ho,fun t hm=> ?_⟩,hl,fun t hm=>of_decide_eq_true (List.all_eq_true.1 a t hm),fun t hm hw=> ?_,ht⟩
 ·have h1:=List.all_eq_true.1 d t hm
  cases hp:parentOf t.p with
  |none=>rw[hp] at h1;cases h1
  |some u=>
   rw[hp] at h1
   refine ⟨u,rfl, ?_⟩
   rcases Bool.or_eq_true _ _|>.mp h1 with h2|h2
   ·left;rw[of_decide_eq_true h2]
   right
   obtain ⟨x,hx,h3⟩:=List.any_eq_true.1 h2
   rw[Bool.and_eq_true] at h3
   exact ⟨x,hx,of_decide_eq_true h3.1,h3.2⟩
 ·have h1:=List.all_eq_true.1 c t hm
  rw[Bool.or_eq_true,Bool.or_eq_true] at h1
  rcases h1 with (h1|h1)|h1
  ·exact .inl (of_decide_eq_true h1)
  ·exact .inr (.inl (of_decide_eq_true h1))
  exact .inr (.inr (.inl ((within_spec _ _).1 h1)))
 have h1:=List.all_eq_true.1 b t hm
 rw[(within_spec _ _).2 hw] at h1
 cases h1
theorem srtB{ts:List Th}(h:decide (ts.Pairwise (fun a b=>bl a.p<bl b.p))=true):Srt ts:=show ts.Pairwise (fun a b=>bl a.p<bl b.p) from of_decide_eq_true h
theorem init0:Init dS0.ts:=init_of (by kernel_rfl) (srtB (by kernel_rfl)) (by simp[dS0]) (by simp[dS0]) (by decide) (of_decide_eq_true (by kernel_rfl))
theorem init1:Init dS1.ts:=init_of (by kernel_rfl) (srtB (by kernel_rfl)) (by simp[dS1]) (by simp[dS1]) (by decide) (of_decide_eq_true (by kernel_rfl))
theorem Init.room{D:Dsk}(h:Init D.ts)(hl:D.left= -1)(hd:D.down=false)(r:Nat)(hr:r≤3000):Start (r+tot D.ts) {D with room:=(r:Int)}∧Nev {D with room:=(r:Int)}:=by
 have h6:=h.tt
 refine ⟨⟨⟨h.wf,Nat.le_trans h.len (by omega),h.sz,.inr ⟨by show (0:Int)≤(r:Int);omega,by show (r:Int)+(tot D.ts:Int)=_;omega⟩,by show -1≤D.left∧D.left≤1000;omega,by omega⟩,h.len,⟨cTh,h.base.c,rfl,rfl⟩,h.place⟩,⟨by show D.left<0;omega,hd⟩⟩
theorem Init.stop{D:Dsk}(h:Init D.ts)(hr:D.room<0)(k:Nat)(hk:k≤60):Start 0 {D with left:=(k:Int)}:=
 ⟨⟨h.wf,Nat.le_trans h.len (by omega),h.sz,.inl hr,by show -1≤(k:Int)∧(k:Int)≤1000;omega,by omega⟩,h.len,⟨cTh,h.base.c,rfl,rfl⟩,h.place⟩
theorem nodup_len'{α:Type}: ∀(A B:List α),A.Nodup→(∀x∈A,x∈B)→A.length≤B.length
 |[],_,_,_=>Nat.zero_le _
 |a::r,B,hn,hs=>by
  obtain ⟨hn1,hn2⟩:=List.nodup_cons.1 hn
  obtain ⟨b1,b2,rfl⟩:=List.append_of_mem (hs a (List.mem_cons_self ..))
  have:=nodup_len' r (b1++b2) hn2 (fun x hx=>by
   have h1:=hs x (List.mem_cons_of_mem _ hx)
   rcases List.mem_append.1 h1 with h1|h1
   ·exact List.mem_append_left _ h1
   rcases List.mem_cons.1 h1 with h1|h1
   ·rw[h1] at hx;exact absurd hx hn1
   exact List.mem_append_right _ h1)
  rw[List.length_append] at this
  rw[List.length_append,List.length_cons,List.length_cons]
  omega
theorem nodupTh(a b:List Th)(hw:Wf a)(hs: ∀t∈a,t∈b):a.length≤b.length:=
 nodup_len' a b (hw.srt.imp (fun {x y} hxy e=>by rw[e] at hxy;exact List.lt_irrefl _ hxy)) hs
end Go.Proofs.YtfbgamknfommpaaGreatDoor.dk
