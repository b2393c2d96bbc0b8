import Derived.Test.YtfbgamknfommpaaGreatDoorLm
import Derived.Test.YtfbgamknfommpaaGreatDoorJk
import Derived.Test.YtfbgamknfommpaaGreatDoorJr
import Derived.BigQuiet
set_option maxRecDepth 100000
set_option maxHeartbeats 4000000
namespace Go.Proofs.YtfbgamknfommpaaGreatDoor
open Go.RowKit Go.Maps
theorem cellp_lt{w:World}{p:Addr}{v:Value}(h:w.cell? p=some v):p.block<w.heap.size:=by
 rcases Nat.lt_or_ge p.block w.heap.size with hlt|hge
 ·exact hlt
 have:w.cell? p=none:=by simp[World.cell?,Array.getElem?_eq_none hge]
 rw[this] at h;cases h
theorem cell_old{w w' :World}{p:Addr}{v:Value}(ho:Old w w')(h:w.cell? p=some v):w'.cell? p=some v:=(ho.cell (cellp_lt h) (fun x=>x)).trans h
def RawAt(w:World)(v:Value)(n:Nat):Prop:=
 (v=.slice none 0 0∧n=0)∨ ∃a cap,v=.slice (some a) n cap∧ ∀i,i<n→ ∃(f m:Int) (s:ByteArray),(-9223372036854775808≤f∧f≤9223372036854775807)∧(-9223372036854775808≤m∧m≤9223372036854775807)∧s.size≤140737488355328∧w.cell? (a.add (i*3))=some (.int .i64 f)∧w.cell? ⟨(a.add (i*3)).block,(a.add (i*3)).off+1,none⟩=some (.int .i64 m)∧w.cell? ⟨(a.add (i*3)).block,(a.add (i*3)).off+2,none⟩=some (.string s)
theorem RawAt.len{w:World}{v:Value}{m:Nat}(h:RawAt w v m): ∃ao cap,v=.slice ao m cap:=by
 rcases h with ⟨rfl,rfl⟩|⟨a,cap,rfl,_⟩
 ·exact ⟨none,0,rfl⟩
 exact ⟨some a,cap,rfl⟩
theorem RawAt.old{w w' :World}{v:Value}{m:Nat}(h:RawAt w v m)(ho:Old w w'):RawAt w' v m:=by
 rcases h with h|⟨a,cap,rfl,h⟩
 ·exact .inl h
 refine .inr ⟨a,cap,rfl,fun i hi=> ?_⟩
 obtain ⟨f,m,s,h1,h2,h3,h4,h5,h6⟩:=h i hi
 exact ⟨f,m,s,h1,h2,h3,cell_old ho h4,cell_old ho h5,cell_old ho h6⟩
def foP(f:Nat):ByteArray:=[⟨#[]⟩,⟨#[112,47]⟩,⟨#[113,47,114,47]⟩,⟨#[118,101,110,100,111,114,47]⟩].getD f ⟨#[]⟩
def baP(n:Nat):ByteArray:=⟨#[102]⟩++⟨#[b8 (97+n)]⟩++⟨#[46,103,111]⟩
def nmP(n f:Nat):ByteArray:=foP f++baP n
theorem baP_size(n:Nat):(baP n).size=5:=by
 unfold baP;rw[ByteArray.size_append,ByteArray.size_append];rfl
theorem foP_size(f:Nat):(foP f).size≤7:=by
 match f with
 |0=>decide
 |1=>decide
 |2=>decide
 |3=>decide
 |f+4=>exact Nat.zero_le _
theorem foP_zero(z:ByteArray):foP 0++z=z:=by
 show (⟨#[]⟩:ByteArray)++z=z
 apply ByteArray.ext;simp[ByteArray.data_append]
def enCells(T:List Ent):List Value:=T.flatMap fun e=>e.v.toList
theorem enCells_app(a b:List Ent):enCells (a++b)=enCells a++enCells b:=by simp[enCells]
theorem enCells_get(T:List Ent)(j:Nat)(hj:j<T.length):(enCells T)[j*3]? =some (.string (T.getD j ent0).nm)∧(enCells T)[j*3+1]? =some (.bool (T.getD j ent0).ln)∧(enCells T)[j*3+2]? =some (.string (T.getD j ent0).dt):=by
 induction T generalizing j with
 |nil=>simp at hj
 |cons a r ih=>
  rw[enCells,List.flatMap_cons,←enCells]
  cases j with
  |zero=>simp
  |succ j=>
   obtain ⟨h1,h2,h3⟩:=ih j (by simpa using hj)
   rw[show (j+1)*3=j*3+3 by omega]
   refine ⟨?_, ?_, ?_⟩
   ·simpa using h1
   ·simpa using h2
   simpa using h3
def EntRow(w:World)(v:Value)(T:List Ent):Prop:=w.ownsRow 0 54 3 v T.length (enCells T)
theorem EntRow.kept{S:Nat→Prop}{w w' :World}{v:Value}{T:List Ent}(h:EntRow w v T)(ho:Only S w w')(hs: ∀b,v.ownBlock=some b→¬S b):EntRow w' v T:=ownk_kept h ho hs
theorem EntRow.old{w w' :World}{v:Value}{T:List Ent}(h:EntRow w v T)(ho:Old w w'):EntRow w' v T:=h.kept ho (fun _ _ x=>x)
theorem EntRow.shape{w:World}{v:Value}{T:List Ent}(h:EntRow w v T): ∃ao cap,v=.slice ao T.length cap:=by
 obtain ⟨_,⟨rfl,hz⟩|⟨b',c',cur',rfl,_⟩⟩:=h
 ·rw[hz];exact ⟨none,0,rfl⟩
 exact ⟨_,_,rfl⟩
theorem EntRow.slice{w:World}{v:Value}{T:List Ent}(h:EntRow w v T)(hn:0<T.length): ∃g cap,v=.slice (some ⟨g,0,none⟩) T.length cap∧EntsAt w g T:=by
 obtain ⟨hl,⟨rfl,hz⟩|⟨g,cap,cur,rfl,h1,hg,hr⟩⟩:=h
 ·omega
 refine ⟨g,cap,rfl,fun j hj=> ?_⟩
 have hcl:=World.ownsRow.cells (w:=w) ⟨hl,.inr ⟨g,cap,cur,rfl,h1,hg,hr⟩⟩ (g:=g) rfl
 obtain ⟨ha,hb,hc⟩:=enCells_get T j hj
 refine ⟨(Array.getElem?_eq_some_iff.1 hg).1, ?_, ?_, ?_⟩
 ·have:=hcl (j*3) _ ha;rw[Addr.add_lit,Nat.zero_add] at this;exact this
 ·have:=hcl (j*3+1) _ hb;rw[Addr.add_lit,Nat.zero_add] at this;exact this
 have:=hcl (j*3+2) _ hc;rw[Addr.add_lit,Nat.zero_add] at this;exact this
structure Made (T:List Ent):Prop where
 form: ∀e∈T,∃n f,n<26∧f<4∧e.nm=nmP n f∧e.ln=false∧e.dt.size≤600
 apart:T.Pairwise (fun a b=>a.nm≠b.nm)
theorem Made.nil:Made []:=⟨(fun e h=>by cases h),List.Pairwise.nil⟩
theorem Made.snoc{T:List Ent}(h:Made T)(n f:Nat)(d:ByteArray)(hn:n<26)(hf:f<4)(hd:d.size≤600)(ha: ∀k,k<T.length→(T.getD k ent0).nm≠nmP n f):Made (T++[⟨nmP n f,false,d⟩]):=by
 refine ⟨fun e he=> ?_,List.pairwise_append.2 ⟨h.apart,List.pairwise_singleton _ _,fun x hx y hy=> ?_⟩⟩
 ·rcases List.mem_append.1 he with he|he
  ·exact h.form e he
  rw[List.mem_singleton] at he;subst he;exact ⟨n,f,hn,hf,rfl,rfl,hd⟩
 rw[List.mem_singleton] at hy;subst hy
 obtain ⟨k,hk,rfl⟩:=List.mem_iff_getElem.1 hx
 have:=ha k hk
 rw[List.getD_eq_getElem?_getD,List.getElem?_eq_getElem hk] at this
 exact this
theorem infoE3:(Tryz.prog.info? 54).map (fun i=>(i.zero,i.size,i.bytes))=some (some (.agg #[.string ⟨#[]⟩,.bool false,.string ⟨#[]⟩]),3,40):=by kernel_rfl
theorem entriesA(v:Value)(n:Nat)(hn:n≤maxLen)(w:World)(hv:RawAt w v n):
 Calls Tryz.prog 6 #[v] w fun r w' => ∃u T,r=.returned u∧Old w w' ∧EntRow w' u T∧Made T∧T.length≤20∧ ∀b,u.ownBlock=some b→w.heap.size≤b:=by
 obtain ⟨i0,hi0,hz0,hz1,hz2⟩:=info_parts infoE3
 obtain ⟨ao,cp,rfl⟩:=hv.len
 have HV:=hide hv
 have HO:=hide (Only.refl (fun _=>False) w)
 have HF0:Hid (EntRow w (.slice none 0 0) []):=World.ownsRow_nil w 0 _ 3
 have hnI:n≤9223372036854775807:=by unfold maxLen at hn;omega
 clear hv
 go_in
 go_wp2_with fail
 go_loopw [3,4,5,6,7,8,9] (fun u x _ _ _ _ _ wr=> ∃(i:Nat) (T:List Ent),i≤n∧i≤20∧T.length≤i∧x=.int .i64 i∧Hid (Old w wr)∧Hid (Made T)∧Hid (EntRow wr u T)∧Hid (∀b,u.ownBlock=some b→w.heap.size≤b)) (fun _ x _ _ _ _ _ _=>20- (intOf x).toNat)
 ·exact ⟨0,[],by omega,by omega,by simp,rfl,HO,Made.nil,HF0,fun b h=>by cases h⟩
 obtain ⟨i,T,hi,hi20,hTi,rfl,HO1,HMT,HEN,HUB⟩:=hrel
 clear HO HF0
 by_cases hil:i<n∧i<20
 ·obtain ⟨hil,hil2⟩:=hil
  have hilI:(i:Int)<(n:Int):=by omega
  have hil2I:(i:Int)<20:=by omega
  obtain ⟨a,cap,hve,hraw⟩: ∃a cap,Value.slice ao n cp=.slice (some a) n cap∧ ∃(f m:Int) (s:ByteArray),(-9223372036854775808≤f∧f≤9223372036854775807)∧(-9223372036854775808≤m∧m≤9223372036854775807)∧s.size≤140737488355328∧wr.cell? (a.add (i*3))=some (.int .i64 f)∧wr.cell? ⟨(a.add (i*3)).block,(a.add (i*3)).off+1,none⟩=some (.int .i64 m)∧wr.cell? ⟨(a.add (i*3)).block,(a.add (i*3)).off+2,none⟩=some (.string s):=by
   rcases (uh HV).old (uh HO1) with ⟨_,h0⟩|⟨a,cap,e,h⟩
   ·omega
   exact ⟨a,cap,e,h i hil⟩
  injection hve with hv1 hv2 hv3
  subst hv1 hv3
  obtain ⟨f,m,s,hf,hm,hs,c0,c1,c2⟩:=hraw
  have hp1:=pickN_lt m (show 0<26 by omega)
  have hp2:=pickN_lt f (show 0<4 by omega)
  have HP1:=hide (fun W=>kpick_any m hm.1 hm.2 26 (by omega) (by omega) W)
  have HP2:=hide (fun W=>kpick_any f hf.1 hf.2 4 (by omega) (by omega) W)
  generalize pickN m 26=k1 at*
  generalize pickN f 4=k2 at*
  obtain ⟨ao3,cp3,rfl⟩:=(uh HEN).shape
  obtain ⟨B,hBB⟩: ∃B,97+k1=B:=⟨_,rfl⟩
  have hB:B<256:=by omega
  have hBI:(97:Int)+(k1:Int)=(B:Int):=by omega
  have HBA:Hid (baP k1=⟨#[102]⟩++⟨#[b8 B]⟩++⟨#[46,103,111]⟩):=by unfold Hid;rw[baP,hBB]
  clear hBB
  go_wp2_with fail
  refine (uh HP1 _).mono ?_
  rintro r w1 ⟨rfl,rfl⟩
  have hback:=one_back w1 B hB
  have hA1:Old w1 (w1.alloc (.cells #[.int .u8 (B:Int)] 5)):=(Only.refl _ w1).alloc _
  have HOW:=hide (Only.trans (uh HO1) hA1)
  have HEW:=hide ((uh HEN).old hA1)
  have d0:=cell_old hA1 c0
  have d2:=cell_old hA1 c2
  clear hA1 c0 c1 c2 HO1 HEN HP1
  go_wp2_with fail
  generalize w1.alloc (.cells #[.int .u8 (B:Int)] 5)=W1 at*
  have hbz:((⟨#[102]⟩:ByteArray)++⟨#[b8 B]⟩++⟨#[46,103,111]⟩).size=5:=by rw[←uh HBA,baP_size]
  generalize (⟨#[102]⟩:ByteArray)++⟨#[b8 B]⟩++⟨#[46,103,111]⟩=ba at*
  refine (uh HP2 _).mono ?_
  rintro r W ⟨rfl,rfl⟩
  clear HP2 hback d0
  by_cases hk0:k2=0
  ·subst hk0
   obtain ⟨nm,HNB⟩: ∃nm,Hid (nm=ba):=⟨ba,rfl⟩
   have HNM:Hid (nm=nmP k1 0):=by unfold Hid;rw[nmP,foP_zero,uh HBA];exact uh HNB
   have eb:nm=ba:=uh HNB
   subst eb
   clear HNB HBA hbz hB hBI
   obtain ⟨k2,hk2⟩: ∃k2:Nat,k2=0:=⟨0,rfl⟩
   rw[←hk2] at HNM hp2
   by_cases h6:s.size≤600
   ·have h6I:¬(600:Int)<(s.size:Int):=by omega
    obtain ⟨d,HDD⟩: ∃d,Hid (d=s):=⟨s,rfl⟩
    rw[←uh HDD] at h6 h6I d2
    have hd:d.size≤600:=h6
    clear HDD hs
    go_wp2_with fail
    clear d2
    go_loop [8,9] (fun y x=> ∃(k:Nat) (bb:Bool),k≤T.length∧x=.int .i64 k∧y=.bool bb∧Hid (bb=false→ ∀j,j<k→(T.getD j ent0).nm≠nm)) (fun _ x=>T.length- (intOf x).toNat)
    ·exact ⟨0,false,by omega,rfl,rfl,fun _ j hj=>by omega⟩
    obtain ⟨k,bb,hk,rfl,rfl,HNE⟩:=hrel
    by_cases hkl:k<T.length
    ·have hklI:(k:Int)<(T.length:Int):=by omega
     obtain ⟨g,cq,hve,hent⟩:=(uh HEW).slice (by omega)
     obtain ⟨_,e1,_,_⟩:=hent k hkl
     injection hve with hv1 hv2 hv3
     subst hv1 hv3
     clear hent hv2
     cases bb with
     |true=>
      clear e1
      go_wp2_with fail
      go_round
      ·exact ⟨k+1,true,by omega,by go_num,rfl,fun h=>by cases h⟩
      case measure=>simp[intOf];omega
     |false=>
      have HEQ:=hide (eqS (T.getD k ent0).nm nm)
      have HN2:Hid (decide ((T.getD k ent0).nm=nm)=false→ ∀j,j<k+1→(T.getD j ent0).nm≠nm):=fun h j hj=>by
       by_cases e:j=k
       ·rw[e];exact of_decide_eq_false h
       exact uh HNE rfl j (by omega)
      generalize (T.getD k ent0).nm=z at*
      have heq:=uh HEQ
      cases hdz:decide (z=nm) with
      |true=>
       rw[hdz] at heq
       go_wp2_with fail
       go_round
       ·exact ⟨k+1,true,by omega,by go_num,rfl,fun h=>by cases h⟩
       case measure=>simp[intOf];omega
      |false=>
       rw[hdz] at heq
       have HN3:=hide (uh HN2 hdz)
       go_wp2_with fail
       go_round
       ·exact ⟨k+1,false,by omega,by go_num,rfl,fun _=>uh HN3⟩
       case measure=>simp[intOf];omega
    have hklI:¬(k:Int)<(T.length:Int):=by omega
    have hke:k=T.length:=by omega
    subst hke
    cases bb with
    |true=>
     go_wp2_with fail
     go_roundw
     ·exact ⟨i+1,T,by omega,by omega,by omega,by go_num,HOW,HMT,HEW,HUB⟩
     case measure=>simp[intOf];omega
    |false=>
     have HM2:Hid (Made (T++[⟨nm,false,d⟩])):=by
      have h:=uh HNE rfl
      rw[uh HNM] at h ⊢
      exact (uh HMT).snoc k1 k2 d hp1 hp2 hd h
     have hA4:Old W (W.alloc (.cells #[.string nm,.bool false,.string d] 54)):=(Only.refl _ W).alloc _
     have HO5:=hide (Only.trans (uh HOW) hA4)
     have HOWN:Hid ((W.alloc (.cells #[.string nm,.bool false,.string d] 54)).ownsRow 0 54 3 (.slice ao3 T.length cp3) T.length (enCells T)):=(uh HEW).old hA4
     have HNW:=hide (new_cells W [.string nm,.bool false,.string d] 54)
     have HSZ:Hid ((W.alloc (.cells #[.string nm,.bool false,.string d] 54)).heap.size=W.heap.size+1):=by unfold Hid;rw[World.size_alloc]
     have HFN:Hid (∀g2 cap2 w6,w6.ownsRow 0 54 3 (.slice (some ⟨g2,0,none⟩) (T.length+1) cap2) (T.length+1) (enCells T++[.string nm,.bool false,.string d])→(W.alloc (.cells #[.string nm,.bool false,.string d] 54)).grownBy w6 (Value.slice ao3 T.length cp3).ownBlock→((Value.slice ao3 T.length cp3).ownBlock=some g2∨g2=W.heap.size+1)→Old w w6∧EntRow w6 (.slice (some ⟨g2,0,none⟩) (T.length+1) cap2) (T++[⟨nm,false,d⟩])∧w.heap.size≤g2):=fun g2 cap2 w6 h1 h2 h3=>by
      refine ⟨(uh HO5).grown h2 (fun k hk e=>absurd (uh HUB k e) (by omega)), ?_, ?_⟩
      ·show w6.ownsRow 0 54 3 _ (T++[(⟨nm,false,d⟩:Ent)]).length (enCells (T++[⟨nm,false,d⟩]))
       rw[enCells_app,List.length_append];exact h1
      rcases h3 with h|h
      ·exact uh HUB g2 h
      have h4:=(uh HO5).size
      have h5:=uh HSZ
      omega
     have hT20:T.length≤20:=by omega
     clear hA4 HEW HO5
     go_wp2_with (at_builtin;refine wpList_append_lies _ rfl (.tmp 74) (.tmp 78) 27 rfl 0 54 i0 (.agg #[.string ⟨#[]⟩,.bool false,.string ⟨#[]⟩]) 3 40 Tryz.underlying27 hi0 hz0 hz1 hz2 rfl (by omega) (.slice ao3 T.length cp3) T.length (enCells T) rfl (uh HOWN) ⟨W.heap.size,0,none⟩ 1 1 [.string nm,.bool false,.string d] rfl rfl (uh HNW) (by intro u hu;simp at hu;rcases hu with rfl|rfl|rfl<;>rfl) (by omega) (by unfold maxLen;omega) (by omega) (by omega) (W.heap.size+1) (uh HSZ) ?_;intro gb cap2 w6 ho6 hg6 hl6 hlt6;have HX:=hide (uh HFN gb cap2 w6 ho6 hg6 hl6);clear ho6 hg6 hl6 hlt6)
     go_roundw
     ·exact ⟨i+1,T++[⟨nm,false,d⟩],by omega,by omega,by rw[List.length_append];show T.length+1≤i+1;omega,by go_num,hide (uh HX).1,HM2,hide (uh HX).2.1,fun b hb=>by have e:gb=b:=Option.some.inj (show some gb=some b from hb);subst e;exact (uh HX).2.2⟩
     case measure=>simp[intOf];omega
   have h6I:(600:Int)<(s.size:Int):=by omega
   have hsl0: ∀W,(Instr.slice 9 (.string s) none (some (.int .i64 600)) none).run Tryz.prog W=.ok (.string (s.extract 0 600)) W:=fun W=>run_slice_string_h W 9 s Tryz.underlying9 .i64 600 (by omega) (by omega)
   have hd:(s.extract 0 600).size≤600:=by rw[ByteArray.size_extract];omega
   generalize s.extract 0 600=d at*
   go_wp2_with fail
   clear d2 hsl0
   go_loop [8,9] (fun y x=> ∃(k:Nat) (bb:Bool),k≤T.length∧x=.int .i64 k∧y=.bool bb∧Hid (bb=false→ ∀j,j<k→(T.getD j ent0).nm≠nm)) (fun _ x=>T.length- (intOf x).toNat)
   ·exact ⟨0,false,by omega,rfl,rfl,fun _ j hj=>by omega⟩
   obtain ⟨k,bb,hk,rfl,rfl,HNE⟩:=hrel
   by_cases hkl:k<T.length
   ·have hklI:(k:Int)<(T.length:Int):=by omega
    obtain ⟨g,cq,hve,hent⟩:=(uh HEW).slice (by omega)
    obtain ⟨_,e1,_,_⟩:=hent k hkl
    injection hve with hv1 hv2 hv3
    subst hv1 hv3
    clear hent hv2
    cases bb with
    |true=>
     clear e1
     go_wp2_with fail
     go_round
     ·exact ⟨k+1,true,by omega,by go_num,rfl,fun h=>by cases h⟩
     case measure=>simp[intOf];omega
    |false=>
     have HEQ:=hide (eqS (T.getD k ent0).nm nm)
     have HN2:Hid (decide ((T.getD k ent0).nm=nm)=false→ ∀j,j<k+1→(T.getD j ent0).nm≠nm):=fun h j hj=>by
      by_cases e:j=k
      ·rw[e];exact of_decide_eq_false h
      exact uh HNE rfl j (by omega)
     generalize (T.getD k ent0).nm=z at*
     have heq:=uh HEQ
     cases hdz:decide (z=nm) with
     |true=>
      rw[hdz] at heq
      go_wp2_with fail
      go_round
      ·exact ⟨k+1,true,by omega,by go_num,rfl,fun h=>by cases h⟩
      case measure=>simp[intOf];omega
     |false=>
      rw[hdz] at heq
      have HN3:=hide (uh HN2 hdz)
      go_wp2_with fail
      go_round
      ·exact ⟨k+1,false,by omega,by go_num,rfl,fun _=>uh HN3⟩
      case measure=>simp[intOf];omega
   have hklI:¬(k:Int)<(T.length:Int):=by omega
   have hke:k=T.length:=by omega
   subst hke
   cases bb with
   |true=>
    go_wp2_with fail
    go_roundw
    ·exact ⟨i+1,T,by omega,by omega,by omega,by go_num,HOW,HMT,HEW,HUB⟩
    case measure=>simp[intOf];omega
   |false=>
    have HM2:Hid (Made (T++[⟨nm,false,d⟩])):=by
     have h:=uh HNE rfl
     rw[uh HNM] at h ⊢
     exact (uh HMT).snoc k1 k2 d hp1 hp2 hd h
    have hA4:Old W (W.alloc (.cells #[.string nm,.bool false,.string d] 54)):=(Only.refl _ W).alloc _
    have HO5:=hide (Only.trans (uh HOW) hA4)
    have HOWN:Hid ((W.alloc (.cells #[.string nm,.bool false,.string d] 54)).ownsRow 0 54 3 (.slice ao3 T.length cp3) T.length (enCells T)):=(uh HEW).old hA4
    have HNW:=hide (new_cells W [.string nm,.bool false,.string d] 54)
    have HSZ:Hid ((W.alloc (.cells #[.string nm,.bool false,.string d] 54)).heap.size=W.heap.size+1):=by unfold Hid;rw[World.size_alloc]
    have HFN:Hid (∀g2 cap2 w6,w6.ownsRow 0 54 3 (.slice (some ⟨g2,0,none⟩) (T.length+1) cap2) (T.length+1) (enCells T++[.string nm,.bool false,.string d])→(W.alloc (.cells #[.string nm,.bool false,.string d] 54)).grownBy w6 (Value.slice ao3 T.length cp3).ownBlock→((Value.slice ao3 T.length cp3).ownBlock=some g2∨g2=W.heap.size+1)→Old w w6∧EntRow w6 (.slice (some ⟨g2,0,none⟩) (T.length+1) cap2) (T++[⟨nm,false,d⟩])∧w.heap.size≤g2):=fun g2 cap2 w6 h1 h2 h3=>by
     refine ⟨(uh HO5).grown h2 (fun k hk e=>absurd (uh HUB k e) (by omega)), ?_, ?_⟩
     ·show w6.ownsRow 0 54 3 _ (T++[(⟨nm,false,d⟩:Ent)]).length (enCells (T++[⟨nm,false,d⟩]))
      rw[enCells_app,List.length_append];exact h1
     rcases h3 with h|h
     ·exact uh HUB g2 h
     have h4:=(uh HO5).size
     have h5:=uh HSZ
     omega
    have hT20:T.length≤20:=by omega
    clear hA4 HEW HO5
    go_wp2_with (at_builtin;refine wpList_append_lies _ rfl (.tmp 74) (.tmp 78) 27 rfl 0 54 i0 (.agg #[.string ⟨#[]⟩,.bool false,.string ⟨#[]⟩]) 3 40 Tryz.underlying27 hi0 hz0 hz1 hz2 rfl (by omega) (.slice ao3 T.length cp3) T.length (enCells T) rfl (uh HOWN) ⟨W.heap.size,0,none⟩ 1 1 [.string nm,.bool false,.string d] rfl rfl (uh HNW) (by intro u hu;simp at hu;rcases hu with rfl|rfl|rfl<;>rfl) (by omega) (by unfold maxLen;omega) (by omega) (by omega) (W.heap.size+1) (uh HSZ) ?_;intro gb cap2 w6 ho6 hg6 hl6 hlt6;have HX:=hide (uh HFN gb cap2 w6 ho6 hg6 hl6);clear ho6 hg6 hl6 hlt6)
    go_roundw
    ·exact ⟨i+1,T++[⟨nm,false,d⟩],by omega,by omega,by rw[List.length_append];show T.length+1≤i+1;omega,by go_num,hide (uh HX).1,HM2,hide (uh HX).2.1,fun b hb=>by have e:gb=b:=Option.some.inj (show some gb=some b from hb);subst e;exact (uh HX).2.2⟩
    case measure=>simp[intOf];omega
  have hk0I:(0:Int)<(k2:Int):=by omega
  have hk4I:(k2:Int)<4:=by omega
  have hfo:(W.alloc (.cells #[.string ⟨#[]⟩,.string ⟨#[112,47]⟩,.string ⟨#[113,47,114,47]⟩,.string ⟨#[118,101,110,100,111,114,47]⟩] 9)).cell? ⟨W.heap.size,k2,none⟩=some (.string (foP k2)):=by
   rw[cell_of_row _ _ k2 _ _ (0,0) (Go.heap_alloc_new _ _)]
   have h:k2=0∨k2=1∨k2=2∨k2=3:=by omega
   rcases h with rfl|rfl|rfl|rfl<;>rfl
  have hA2:Old W (W.alloc (.cells #[.string ⟨#[]⟩,.string ⟨#[112,47]⟩,.string ⟨#[113,47,114,47]⟩,.string ⟨#[118,101,110,100,111,114,47]⟩] 9)):=(Only.refl _ W).alloc _
  have HOW:=hide (Only.trans (uh HOW) hA2)
  have HEW:=hide ((uh HEW).old hA2)
  have d2:=cell_old hA2 d2
  have hfz:=foP_size k2
  have hcat:¬9223372036854775807<(foP k2).size+ba.size:=by omega
  obtain ⟨nm,HNB⟩: ∃nm,Hid (nm=foP k2++ba):=⟨_,rfl⟩
  have HNM:Hid (nm=nmP k1 k2):=by unfold Hid;rw[nmP,uh HBA];exact uh HNB
  have enb:foP k2++ba=nm:=(uh HNB).symm
  clear hA2 HNB HBA hB hBI
  generalize foP k2=fo at*
  go_upto_region 9 with fail
  clear hfo hcat enb hfz hbz
  generalize W.alloc (.cells #[.string ⟨#[]⟩,.string ⟨#[112,47]⟩,.string ⟨#[113,47,114,47]⟩,.string ⟨#[118,101,110,100,111,114,47]⟩] 9)=W at*
  by_cases h6:s.size≤600
  ·have h6I:¬(600:Int)<(s.size:Int):=by omega
   obtain ⟨d,HDD⟩: ∃d,Hid (d=s):=⟨s,rfl⟩
   rw[←uh HDD] at h6 h6I d2
   have hd:d.size≤600:=h6
   clear HDD hs
   go_wp2_with fail
   clear d2
   go_loop [8,9] (fun y x=> ∃(k:Nat) (bb:Bool),k≤T.length∧x=.int .i64 k∧y=.bool bb∧Hid (bb=false→ ∀j,j<k→(T.getD j ent0).nm≠nm)) (fun _ x=>T.length- (intOf x).toNat)
   ·exact ⟨0,false,by omega,rfl,rfl,fun _ j hj=>by omega⟩
   obtain ⟨k,bb,hk,rfl,rfl,HNE⟩:=hrel
   by_cases hkl:k<T.length
   ·have hklI:(k:Int)<(T.length:Int):=by omega
    obtain ⟨g,cq,hve,hent⟩:=(uh HEW).slice (by omega)
    obtain ⟨_,e1,_,_⟩:=hent k hkl
    injection hve with hv1 hv2 hv3
    subst hv1 hv3
    clear hent hv2
    cases bb with
    |true=>
     clear e1
     go_wp2_with fail
     go_round
     ·exact ⟨k+1,true,by omega,by go_num,rfl,fun h=>by cases h⟩
     case measure=>simp[intOf];omega
    |false=>
     have HEQ:=hide (eqS (T.getD k ent0).nm nm)
     have HN2:Hid (decide ((T.getD k ent0).nm=nm)=false→ ∀j,j<k+1→(T.getD j ent0).nm≠nm):=fun h j hj=>by
      by_cases e:j=k
      ·rw[e];exact of_decide_eq_false h
      exact uh HNE rfl j (by omega)
     generalize (T.getD k ent0).nm=z at*
     have heq:=uh HEQ
     cases hdz:decide (z=nm) with
     |true=>
      rw[hdz] at heq
      go_wp2_with fail
      go_round
      ·exact ⟨k+1,true,by omega,by go_num,rfl,fun h=>by cases h⟩
      case measure=>simp[intOf];omega
     |false=>
      rw[hdz] at heq
      have HN3:=hide (uh HN2 hdz)
      go_wp2_with fail
      go_round
      ·exact ⟨k+1,false,by omega,by go_num,rfl,fun _=>uh HN3⟩
      case measure=>simp[intOf];omega
   have hklI:¬(k:Int)<(T.length:Int):=by omega
   have hke:k=T.length:=by omega
   subst hke
   cases bb with
   |true=>
    go_wp2_with fail
    go_roundw
    ·exact ⟨i+1,T,by omega,by omega,by omega,by go_num,HOW,HMT,HEW,HUB⟩
    case measure=>simp[intOf];omega
   |false=>
    have HM2:Hid (Made (T++[⟨nm,false,d⟩])):=by
     have h:=uh HNE rfl
     rw[uh HNM] at h ⊢
     exact (uh HMT).snoc k1 k2 d hp1 hp2 hd h
    have hA4:Old W (W.alloc (.cells #[.string nm,.bool false,.string d] 54)):=(Only.refl _ W).alloc _
    have HO5:=hide (Only.trans (uh HOW) hA4)
    have HOWN:Hid ((W.alloc (.cells #[.string nm,.bool false,.string d] 54)).ownsRow 0 54 3 (.slice ao3 T.length cp3) T.length (enCells T)):=(uh HEW).old hA4
    have HNW:=hide (new_cells W [.string nm,.bool false,.string d] 54)
    have HSZ:Hid ((W.alloc (.cells #[.string nm,.bool false,.string d] 54)).heap.size=W.heap.size+1):=by unfold Hid;rw[World.size_alloc]
    have HFN:Hid (∀g2 cap2 w6,w6.ownsRow 0 54 3 (.slice (some ⟨g2,0,none⟩) (T.length+1) cap2) (T.length+1) (enCells T++[.string nm,.bool false,.string d])→(W.alloc (.cells #[.string nm,.bool false,.string d] 54)).grownBy w6 (Value.slice ao3 T.length cp3).ownBlock→((Value.slice ao3 T.length cp3).ownBlock=some g2∨g2=W.heap.size+1)→Old w w6∧EntRow w6 (.slice (some ⟨g2,0,none⟩) (T.length+1) cap2) (T++[⟨nm,false,d⟩])∧w.heap.size≤g2):=fun g2 cap2 w6 h1 h2 h3=>by
     refine ⟨(uh HO5).grown h2 (fun k hk e=>absurd (uh HUB k e) (by omega)), ?_, ?_⟩
     ·show w6.ownsRow 0 54 3 _ (T++[(⟨nm,false,d⟩:Ent)]).length (enCells (T++[⟨nm,false,d⟩]))
      rw[enCells_app,List.length_append];exact h1
     rcases h3 with h|h
     ·exact uh HUB g2 h
     have h4:=(uh HO5).size
     have h5:=uh HSZ
     omega
    have hT20:T.length≤20:=by omega
    clear hA4 HEW HO5
    go_wp2_with (at_builtin;refine wpList_append_lies _ rfl (.tmp 74) (.tmp 78) 27 rfl 0 54 i0 (.agg #[.string ⟨#[]⟩,.bool false,.string ⟨#[]⟩]) 3 40 Tryz.underlying27 hi0 hz0 hz1 hz2 rfl (by omega) (.slice ao3 T.length cp3) T.length (enCells T) rfl (uh HOWN) ⟨W.heap.size,0,none⟩ 1 1 [.string nm,.bool false,.string d] rfl rfl (uh HNW) (by intro u hu;simp at hu;rcases hu with rfl|rfl|rfl<;>rfl) (by omega) (by unfold maxLen;omega) (by omega) (by omega) (W.heap.size+1) (uh HSZ) ?_;intro gb cap2 w6 ho6 hg6 hl6 hlt6;have HX:=hide (uh HFN gb cap2 w6 ho6 hg6 hl6);clear ho6 hg6 hl6 hlt6)
    go_roundw
    ·exact ⟨i+1,T++[⟨nm,false,d⟩],by omega,by omega,by rw[List.length_append];show T.length+1≤i+1;omega,by go_num,hide (uh HX).1,HM2,hide (uh HX).2.1,fun b hb=>by have e:gb=b:=Option.some.inj (show some gb=some b from hb);subst e;exact (uh HX).2.2⟩
    case measure=>simp[intOf];omega
  have h6I:(600:Int)<(s.size:Int):=by omega
  have hsl0: ∀W,(Instr.slice 9 (.string s) none (some (.int .i64 600)) none).run Tryz.prog W=.ok (.string (s.extract 0 600)) W:=fun W=>run_slice_string_h W 9 s Tryz.underlying9 .i64 600 (by omega) (by omega)
  have hd:(s.extract 0 600).size≤600:=by rw[ByteArray.size_extract];omega
  generalize s.extract 0 600=d at*
  go_wp2_with fail
  clear d2 hsl0
  go_loop [8,9] (fun y x=> ∃(k:Nat) (bb:Bool),k≤T.length∧x=.int .i64 k∧y=.bool bb∧Hid (bb=false→ ∀j,j<k→(T.getD j ent0).nm≠nm)) (fun _ x=>T.length- (intOf x).toNat)
  ·exact ⟨0,false,by omega,rfl,rfl,fun _ j hj=>by omega⟩
  obtain ⟨k,bb,hk,rfl,rfl,HNE⟩:=hrel
  by_cases hkl:k<T.length
  ·have hklI:(k:Int)<(T.length:Int):=by omega
   obtain ⟨g,cq,hve,hent⟩:=(uh HEW).slice (by omega)
   obtain ⟨_,e1,_,_⟩:=hent k hkl
   injection hve with hv1 hv2 hv3
   subst hv1 hv3
   clear hent hv2
   cases bb with
   |true=>
    clear e1
    go_wp2_with fail
    go_round
    ·exact ⟨k+1,true,by omega,by go_num,rfl,fun h=>by cases h⟩
    case measure=>simp[intOf];omega
   |false=>
    have HEQ:=hide (eqS (T.getD k ent0).nm nm)
    have HN2:Hid (decide ((T.getD k ent0).nm=nm)=false→ ∀j,j<k+1→(T.getD j ent0).nm≠nm):=fun h j hj=>by
     by_cases e:j=k
     ·rw[e];exact of_decide_eq_false h
     exact uh HNE rfl j (by omega)
    generalize (T.getD k ent0).nm=z at*
    have heq:=uh HEQ
    cases hdz:decide (z=nm) with
    |true=>
     rw[hdz] at heq
     go_wp2_with fail
     go_round
     ·exact ⟨k+1,true,by omega,by go_num,rfl,fun h=>by cases h⟩
     case measure=>simp[intOf];omega
    |false=>
     rw[hdz] at heq
     have HN3:=hide (uh HN2 hdz)
     go_wp2_with fail
     go_round
     ·exact ⟨k+1,false,by omega,by go_num,rfl,fun _=>uh HN3⟩
     case measure=>simp[intOf];omega
  have hklI:¬(k:Int)<(T.length:Int):=by omega
  have hke:k=T.length:=by omega
  subst hke
  cases bb with
  |true=>
   go_wp2_with fail
   go_roundw
   ·exact ⟨i+1,T,by omega,by omega,by omega,by go_num,HOW,HMT,HEW,HUB⟩
   case measure=>simp[intOf];omega
  |false=>
   have HM2:Hid (Made (T++[⟨nm,false,d⟩])):=by
    have h:=uh HNE rfl
    rw[uh HNM] at h ⊢
    exact (uh HMT).snoc k1 k2 d hp1 hp2 hd h
   have hA4:Old W (W.alloc (.cells #[.string nm,.bool false,.string d] 54)):=(Only.refl _ W).alloc _
   have HO5:=hide (Only.trans (uh HOW) hA4)
   have HOWN:Hid ((W.alloc (.cells #[.string nm,.bool false,.string d] 54)).ownsRow 0 54 3 (.slice ao3 T.length cp3) T.length (enCells T)):=(uh HEW).old hA4
   have HNW:=hide (new_cells W [.string nm,.bool false,.string d] 54)
   have HSZ:Hid ((W.alloc (.cells #[.string nm,.bool false,.string d] 54)).heap.size=W.heap.size+1):=by unfold Hid;rw[World.size_alloc]
   have HFN:Hid (∀g2 cap2 w6,w6.ownsRow 0 54 3 (.slice (some ⟨g2,0,none⟩) (T.length+1) cap2) (T.length+1) (enCells T++[.string nm,.bool false,.string d])→(W.alloc (.cells #[.string nm,.bool false,.string d] 54)).grownBy w6 (Value.slice ao3 T.length cp3).ownBlock→((Value.slice ao3 T.length cp3).ownBlock=some g2∨g2=W.heap.size+1)→Old w w6∧EntRow w6 (.slice (some ⟨g2,0,none⟩) (T.length+1) cap2) (T++[⟨nm,false,d⟩])∧w.heap.size≤g2):=fun g2 cap2 w6 h1 h2 h3=>by
    refine ⟨(uh HO5).grown h2 (fun k hk e=>absurd (uh HUB k e) (by omega)), ?_, ?_⟩
    ·show w6.ownsRow 0 54 3 _ (T++[(⟨nm,false,d⟩:Ent)]).length (enCells (T++[⟨nm,false,d⟩]))
     rw[enCells_app,List.length_append];exact h1
    rcases h3 with h|h
    ·exact uh HUB g2 h
    have h4:=(uh HO5).size
    have h5:=uh HSZ
    omega
   have hT20:T.length≤20:=by omega
   clear hA4 HEW HO5
   go_wp2_with (at_builtin;refine wpList_append_lies _ rfl (.tmp 74) (.tmp 78) 27 rfl 0 54 i0 (.agg #[.string ⟨#[]⟩,.bool false,.string ⟨#[]⟩]) 3 40 Tryz.underlying27 hi0 hz0 hz1 hz2 rfl (by omega) (.slice ao3 T.length cp3) T.length (enCells T) rfl (uh HOWN) ⟨W.heap.size,0,none⟩ 1 1 [.string nm,.bool false,.string d] rfl rfl (uh HNW) (by intro u hu;simp at hu;rcases hu with rfl|rfl|rfl<;>rfl) (by omega) (by unfold maxLen;omega) (by omega) (by omega) (W.heap.size+1) (uh HSZ) ?_;intro gb cap2 w6 ho6 hg6 hl6 hlt6;have HX:=hide (uh HFN gb cap2 w6 ho6 hg6 hl6);clear ho6 hg6 hl6 hlt6)
   go_roundw
   ·exact ⟨i+1,T++[⟨nm,false,d⟩],by omega,by omega,by rw[List.length_append];show T.length+1≤i+1;omega,by go_num,hide (uh HX).1,HM2,hide (uh HX).2.1,fun b hb=>by have e:gb=b:=Option.some.inj (show some gb=some b from hb);subst e;exact (uh HX).2.2⟩
   case measure=>simp[intOf];omega
 have HTL:Hid (T.length≤20):=by unfold Hid;omega
 by_cases h1:i<n
 ·have h1I:(i:Int)<(n:Int):=by omega
  have h2I:¬(i:Int)<20:=by omega
  go_wp2_with fail
  go_ret
  exact ⟨_,rfl,HO1,T,HEN,HMT,HTL,HUB⟩
 have h1I:¬(i:Int)<(n:Int):=by omega
 go_wp2_with fail
 go_ret
 exact ⟨_,rfl,HO1,T,HEN,HMT,HTL,HUB⟩
def ShowsE(w:World)(x:Value)(U:List Ent):Prop:=
 ∃(ao:Option Addr) (c:Nat),x=.slice ao U.length c∧(ao=none→U=[])∧ ∀a,ao=some a→ ∀j u,(enCells U)[j]? =some u→w.cell? (a.add j)=some u
theorem ShowsE.old{w w' :World}{x:Value}{U:List Ent}(h:ShowsE w x U)(ho:Old w w'):ShowsE w' x U:=by
 obtain ⟨ao,c,h1,h2,h3⟩:=h
 exact ⟨ao,c,h1,h2,fun a e j u hu=>cell_old ho (h3 a e j u hu)⟩
theorem EntRow.shows{w:World}{v:Value}{T:List Ent}(h:EntRow w v T):ShowsE w v T:=by
 have h' :=h
 obtain ⟨hl,⟨rfl,hz⟩|⟨g,cap,cur,rfl,h1,hg,hr⟩⟩:=h
 ·have:T=[]:=List.length_eq_zero_iff.1 hz
  subst this
  exact ⟨none,0,rfl,fun _=>rfl,fun a e=>by cases e⟩
 refine ⟨some ⟨g,0,none⟩,cap,rfl,(fun e=>by cases e),fun a e j u hu=> ?_⟩
 injection e with e
 subst e
 exact World.ownsRow.cells h' rfl j u hu
theorem getD_lt{R:List Ent}{j:Nat}(h:j<R.length):R.getD j ent0=R[j]:=by rw[List.getD_eq_getElem?_getD,List.getElem?_eq_getElem h];rfl
def foL:List ByteArray:=[⟨#[112]⟩,⟨#[113]⟩,⟨#[113,47,114]⟩,⟨#[118,101,110,100,111,114]⟩]
def nmOk(s:ByteArray):Bool:=fileP s&& !(othB s)&&decide (600≤mostP s)&& !(memL foL s)&&decide (s.size≤12)&&(begP s).all (fun b=>(decide (b=s)||memL foL b)&&decide (lowP b=b))
theorem nmOk_all{n f:Nat}(hn:n<26)(hf:f<4):nmOk (nmP n f)=true:=by
 have h:(List.range 26).all (fun n=>(List.range 4).all (fun f=>nmOk (nmP n f)))=true:=by kernel_rfl
 exact List.all_eq_true.1 (List.all_eq_true.1 h n (List.mem_range.2 hn)) f (List.mem_range.2 hf)
def Inv(f:Tab)(N:List ByteArray):Prop:= ∀r,f r=none∨(f r=some (r,true)∧r∈N)∨(f r=some (r,false)∧memL foL r=true)
theorem Inv.nil:Inv (fun _=>none) []:=fun _=> .inl rfl
theorem nmOk_facts{s:ByteArray}(h:nmOk s=true):fileP s=true∧othB s=false∧600≤mostP s∧memL foL s=false∧s.size≤12∧ ∀b∈begP s,(b=s∨memL foL b=true)∧lowP b=b:=by
 unfold nmOk at h
 simp only[Bool.and_eq_true,Bool.not_eq_true',decide_eq_true_eq] at h
 obtain ⟨⟨⟨⟨⟨h1,h2⟩,h3⟩,h4⟩,h5⟩,h6⟩:=h
 refine ⟨h1,h2,h3,h4,h5,fun b hb=> ?_⟩
 have h7:=List.all_eq_true.1 h6 b hb
 simp only[Bool.and_eq_true,Bool.or_eq_true,decide_eq_true_eq] at h7
 exact h7
theorem Inv.clash{f:Tab}{N:List ByteArray}(h:Inv f N){s:ByteArray}(hs:nmOk s=true)(hN: ∀r∈N,nmOk r=true)(hsn:s∉N):clashP f s=false:=by
 obtain ⟨_,_,_,h4,_,h6⟩:=nmOk_facts hs
 unfold clashP
 rw[List.any_eq_false]
 intro b hb
 obtain ⟨h7,h8⟩:=h6 b hb
 unfold clashB
 rw[h8]
 rcases h b with e|⟨e,hm⟩|⟨e,hm⟩
 ·rw[e];simp
 ·exfalso
  rcases h7 with h7|h7
  ·rw[h7] at hm;exact hsn hm
  have:=(nmOk_facts (hN b hm)).2.2.2.1
  rw[this] at h7;cases h7
 rw[e]
 have hne:b≠s:=by
  intro e2
  rw[e2,h4] at hm;cases hm
 simp[hne]
theorem Inv.add{f:Tab}{N:List ByteArray}(h:Inv f N){s:ByteArray}(hs:nmOk s=true):Inv (addP f s) (N++[s]):=by
 obtain ⟨_,_,_,_,_,h6⟩:=nmOk_facts hs
 unfold addP
 have key: ∀(l:List ByteArray) (g:Tab),(∀b∈l,(b=s∨memL foL b=true)∧lowP b=b)→(∀r,g r=none∨(g r=some (r,true)∧r∈N++[s])∨(g r=some (r,false)∧memL foL r=true))→Inv (l.foldl (fun f b=>putT f (lowP b) (b,decide (b=s))) g) (N++[s]):=by
  intro l
  induction l with
  |nil=>intro g _ hg;exact hg
  |cons b l ih=>
   intro g hl hg
   rw[List.foldl_cons]
   obtain ⟨hb,hlb⟩:=hl b (List.mem_cons_self ..)
   refine ih _ (fun c hc=>hl c (List.mem_cons_of_mem _ hc)) ?_
   rw[hlb]
   intro r
   unfold putT
   by_cases e:r=b
   ·rw[if_pos e]
    right
    by_cases e2:b=s
    ·left
     rw[e,decide_eq_true e2,e2]
     exact ⟨rfl,List.mem_append.2 (.inr (List.mem_singleton.2 rfl))⟩
    right
    rw[e,decide_eq_false e2]
    rcases hb with hb|hb
    ·exact absurd hb e2
    exact ⟨rfl,hb⟩
   rw[if_neg e];exact hg r
 refine key (begP s) f h6 (fun r=> ?_)
 rcases h r with h|⟨h,hm⟩|h
 ·exact .inl h
 ·exact .inr (.inl ⟨h,List.mem_append.2 (.inl hm)⟩)
 exact .inr (.inr h)
structure Ris (R:List Ent):Prop where
 form: ∀e∈R,nmOk e.nm=true∧e.ln=false∧e.dt.size≤600
 rise:R.Pairwise (fun a b=>a.nm.data.toList<b.nm.data.toList)
 len:R.length≤20
theorem ris_of{R T:List Ent}(hm:Made T)(hl:T.length≤20)(hp:R.Perm T)(hs:R.Pairwise fun a b=> ¬b.nm.data.toList<a.nm.data.toList):Ris R:=by
 refine ⟨fun e he=> ?_, ?_,by rw[hp.length_eq];exact hl⟩
 ·obtain ⟨n,f,h1,h2,h3,h4,h5⟩:=hm.form e (hp.mem_iff.1 he)
  exact ⟨by rw[h3];exact nmOk_all h1 h2,h4,h5⟩
 have hd:R.Pairwise (fun a b=>a.nm≠b.nm):=(hp.pairwise_iff (fun {a b} h=>h.symm)).2 hm.apart
 refine (List.pairwise_and_iff.2 ⟨hs,hd⟩).imp (fun {a b} h=> ?_)
 by_cases h1:a.nm.data.toList<b.nm.data.toList
 ·exact h1
 exact absurd (less_total h1 h.1) h.2
theorem heads_ok: ∀(R:List Ent) (f:Tab) (N:List ByteArray) (all:Nat),(∀e∈R,nmOk e.nm=true∧e.ln=false∧e.dt.size≤600)→Inv f N→(∀r∈N,nmOk r=true)→(N++R.map (·.nm)).Pairwise (· ≠ ·)→all+600*R.length≤16000→headsGo (R.map plainIt) f all=0
 |[],_,_,_,_,_,_,_,_=>rfl
 |e::R,f,N,all,hf,hi,hN,hd,ha=>by
  obtain ⟨h1,_,h3⟩:=hf e (List.mem_cons_self ..)
  obtain ⟨g1,g2,g3,_,_,_⟩:=nmOk_facts h1
  have hd' :=hd
  rw[List.map_cons] at hd'
  obtain ⟨_,_,hx⟩:=List.pairwise_append.1 hd'
  have hsn:e.nm∉N:=fun hm=>hx e.nm hm e.nm (List.mem_cons_self ..) rfl
  rw[List.length_cons] at ha
  have hF:headF f all (plainIt e)=0:=by
   unfold headF
   rw[show (plainIt e).name=e.nm from rfl,show (plainIt e).size=e.dt.size from rfl,if_neg (by rw[g1];decide),if_neg (by rw[g2];decide),if_neg (by rw[hi.clash h1 hN hsn];decide),if_neg (by omega),if_neg (by omega)]
  rw[List.map_cons,headsGo,if_pos hF]
  refine heads_ok R (addP f e.nm) (N++[e.nm]) (all+e.dt.size) (fun x hx=>hf x (List.mem_cons_of_mem _ hx)) (hi.add h1) ?_ ?_ (by omega)
  ·intro r hr
   rcases List.mem_append.1 hr with hr|hr
   ·exact hN r hr
   rw[List.mem_singleton] at hr;rw[hr];exact h1
  rw[List.append_assoc];exact hd'
theorem datI_plain(e:Ent):datI (plainIt e)=(e.dt,0):=by
 have hu:unpI (plainIt e)=(e.dt,0):=by
  unfold unpI
  rw[if_pos (show (plainIt e).way=0 from rfl),if_pos (show (plainIt e).packed.size=(plainIt e).size from rfl)];rfl
 unfold datI
 rw[hu,if_neg (by simp),if_pos (show checkOf (e.dt,0).1=(plainIt e).check from rfl)]
theorem unpGo_plain: ∀(R:List Ent) (acc:List Fl),unpGo (R.map plainIt) acc=(acc++R.map (fun e=>(e.nm,e.dt)),0)
 |[],acc=>by simp[unpGo]
 |e::R,acc=>by
  rw[List.map_cons,unpGo,datI_plain,if_pos rfl,unpGo_plain R]
  simp[plainIt]
theorem locs_le(R:List Ent)(h: ∀e∈R,nmOk e.nm=true∧e.ln=false∧e.dt.size≤600):(locsL sPre (R.map plainIt)).length≤655*R.length:=by
 induction R with
 |nil=>simp[locsL]
 |cons e R ih=>
  have e1:locsL sPre ((e::R).map plainIt)=localL sPre (plainIt e)++locsL sPre (R.map plainIt):=by simp[locsL]
  have h1:=ih (fun x hx=>h x (List.mem_cons_of_mem _ hx))
  obtain ⟨g1,_,g3⟩:=h e (List.mem_cons_self ..)
  have g5:=(nmOk_facts g1).2.2.2.2.1
  rw[e1,List.length_append,plainIt,localL_len,List.length_cons]
  have:sPre.size=13:=by decide
  rw[this]
  show 30+(13+e.nm.size)+e.dt.size+_≤_
  omega
theorem Ris.laid{R:List Ent}(h:Ris R):(locsL sPre (R.map plainIt)).length≤13100∧(centsN sPre (R.map plainIt) R.length).length≤13420∧(laidL sPre (R.map plainIt)).length≤40000:=by
 have h1:=locs_le R h.form
 have h2:=cents_le sPre (R.map plainIt) (R.map plainIt).length (Nat.le_refl _)
 rw[List.take_length,List.length_map] at h2
 have h3:=laidL_len sPre (R.map plainIt)
 rw[List.length_map] at h3
 have:=h.len
 omega
theorem Ris.plain{R:List Ent}(h:Ris R):Plain sPre (R.map plainIt):=by
 refine ⟨fun i hi=> ?_, ?_,by rw[List.length_map];have:=h.len;omega,fun i hi=> ?_,h.laid.2.2⟩
 ·obtain ⟨e,he,rfl⟩:=List.mem_map.1 hi
  obtain ⟨g1,_,g3⟩:=h.form e he
  have g5:=(nmOk_facts g1).2.2.2.2.1
  exact ⟨.inl rfl,checkOf_lt _,by show e.dt.size<_;omega,by show e.dt.size<_;omega,by show 13+e.nm.size<_;omega⟩
 ·exact List.pairwise_map.2 h.rise
 obtain ⟨e,he,rfl⟩:=List.mem_map.1 hi
 exact ⟨rfl,rfl,rfl⟩
theorem Ris.unp{R:List Ent}(h:Ris R):unpP sPre (strB (laidL sPre (R.map plainIt)))=(R.map (fun e=>(e.nm,e.dt)),0):=by
 have hP:=h.plain
 unfold unpP
 rw[if_neg (by rw[strB_size];have:=h.laid;omega),readP_laid sPre _ hP.rd hP.rise hP.len (by decide)]
 have hd:(([]:List ByteArray)++R.map (fun e:Ent=>e.nm)).Pairwise (· ≠ ·):=by
  rw[List.nil_append]
  refine List.pairwise_map.2 (h.rise.imp (fun {a b} hab e=> ?_))
  rw[e] at hab
  exact List.lt_irrefl _ hab
 have hg:=heads_ok R (fun _=>none) [] 0 h.form Inv.nil (fun r hr=>by cases hr) hd (by have:=h.len;omega)
 show (if headsGo (R.map plainIt) (fun _=>none) 0=0 then unpGo (R.map plainIt) [] else ([],headsGo (R.map plainIt) (fun _=>none) 0))=_
 rw[hg,if_pos rfl,unpGo_plain,List.nil_append]
end Go.Proofs.YtfbgamknfommpaaGreatDoor
