import Derived.Test.YtndfmgdhiallpaaGreatDoorLm
import Derived.Test.YtndfmgdhiallpaaGreatDoorJi
import Derived.Test.YtndfmgdhiallpaaGreatDoorJr
import Derived.BigQuiet
set_option maxRecDepth 100000
set_option maxHeartbeats 4000000
namespace Go.Proofs.YtndfmgdhiallpaaGreatDoor
open Go.RowKit Go.Maps
theorem cellp_lt{w:World}{p:Addr}{v:Value}(h:w.cell? p=some v):p.block<w.heap.size:=by
 rcases Nat.lt_or_ge p.block w.heap.size with hlt|hge
 ·exact hlt
 have:w.cell? p=none:=by simp[World.cell?,Array.getElem?_eq_none hge]
 rw[this] at h;cases h
theorem cell_old{w w' :World}{p:Addr}{v:Value}(ho:Old w w')(h:w.cell? p=some v):w'.cell? p=some v:=(ho.cell (cellp_lt h) (fun x=>x)).trans h
def RawAt(w:World)(v:Value)(n:Nat):Prop:=
 (v=.slice none 0 0∧n=0)∨ ∃a cap,v=.slice (some a) n cap∧ ∀i,i<n→ ∃(f m:Int) (s:ByteArray),(-9223372036854775808≤f∧f≤9223372036854775807)∧(-9223372036854775808≤m∧m≤9223372036854775807)∧s.size≤140737488355328∧w.cell? (a.add (i*3))=some (.int .i64 f)∧w.cell? ⟨(a.add (i*3)).block,(a.add (i*3)).off+1,none⟩=some (.int .i64 m)∧w.cell? ⟨(a.add (i*3)).block,(a.add (i*3)).off+2,none⟩=some (.string s)
theorem RawAt.len{w:World}{v:Value}{m:Nat}(h:RawAt w v m): ∃ao cap,v=.slice ao m cap:=by
 rcases h with ⟨rfl,rfl⟩|⟨a,cap,rfl,_⟩
 ·exact ⟨none,0,rfl⟩
 exact ⟨some a,cap,rfl⟩
theorem RawAt.old{w w' :World}{v:Value}{m:Nat}(h:RawAt w v m)(ho:Old w w'):RawAt w' v m:=by
 rcases h with h|⟨a,cap,rfl,h⟩
 ·exact .inl h
 refine .inr ⟨a,cap,rfl,fun i hi=> ?_⟩
 obtain ⟨f,m,s,h1,h2,h3,h4,h5,h6⟩:=h i hi
 exact ⟨f,m,s,h1,h2,h3,cell_old ho h4,cell_old ho h5,cell_old ho h6⟩
def foP(f:Nat):ByteArray:=[⟨#[]⟩,⟨#[112,47]⟩,⟨#[113,47,114,47]⟩,⟨#[118,101,110,100,111,114,47]⟩].getD f ⟨#[]⟩
def baP(n:Nat):ByteArray:=⟨#[102]⟩++⟨#[b8 (97+n)]⟩++⟨#[46,103,111]⟩
def nmP(n f:Nat):ByteArray:=foP f++baP n
theorem baP_size(n:Nat):(baP n).size=5:=by
 unfold baP;rw[ByteArray.size_append,ByteArray.size_append];rfl
theorem foP_size(f:Nat):(foP f).size≤7:=by
 match f with
 |0=>decide
 |1=>decide
 |2=>decide
 |3=>decide
 |f+4=>exact Nat.zero_le _
theorem foP_zero(z:ByteArray):foP 0++z=z:=by
 show (⟨#[]⟩:ByteArray)++z=z
 apply ByteArray.ext;simp[ByteArray.data_append]
def enCells(T:List Ent):List Value:=T.flatMap fun e=>e.v.toList
theorem enCells_len(T:List Ent):(enCells T).length=T.length*3:=by
 induction T with
 |nil=>rfl
 |cons a r ih=>rw[enCells,List.flatMap_cons,List.length_append,←enCells,ih,List.length_cons];simp;omega
theorem enCells_app(a b:List Ent):enCells (a++b)=enCells a++enCells b:=by simp[enCells]
theorem enCells_get(T:List Ent)(j:Nat)(hj:j<T.length):(enCells T)[j*3]? =some (.string (T.getD j ent0).nm)∧(enCells T)[j*3+1]? =some (.bool (T.getD j ent0).ln)∧(enCells T)[j*3+2]? =some (.string (T.getD j ent0).dt):=by
 induction T generalizing j with
 |nil=>simp at hj
 |cons a r ih=>
  rw[enCells,List.flatMap_cons,←enCells]
  cases j with
  |zero=>simp
  |succ j=>
   obtain ⟨h1,h2,h3⟩:=ih j (by simpa using hj)
   rw[show (j+1)*3=j*3+3 by omega]
   refine ⟨?_, ?_, ?_⟩
   ·simpa using h1
   ·simpa using h2
   simpa using h3
def EntRow(w:World)(v:Value)(T:List Ent):Prop:=w.ownsRow 0 39 3 v T.length (enCells T)
theorem EntRow.kept{S:Nat→Prop}{w w' :World}{v:Value}{T:List Ent}(h:EntRow w v T)(ho:Only S w w')(hs: ∀b,v.ownBlock=some b→¬S b):EntRow w' v T:=ownk_kept h ho hs
theorem EntRow.old{w w' :World}{v:Value}{T:List Ent}(h:EntRow w v T)(ho:Old w w'):EntRow w' v T:=h.kept ho (fun _ _ x=>x)
theorem EntRow.shape{w:World}{v:Value}{T:List Ent}(h:EntRow w v T): ∃ao cap,v=.slice ao T.length cap:=by
 obtain ⟨_,⟨rfl,hz⟩|⟨b',c',cur',rfl,_⟩⟩:=h
 ·rw[hz];exact ⟨none,0,rfl⟩
 exact ⟨_,_,rfl⟩
theorem EntRow.slice{w:World}{v:Value}{T:List Ent}(h:EntRow w v T)(hn:0<T.length): ∃g cap,v=.slice (some ⟨g,0,none⟩) T.length cap∧EntsAt w g T:=by
 obtain ⟨hl,⟨rfl,hz⟩|⟨g,cap,cur,rfl,h1,hg,hr⟩⟩:=h
 ·omega
 refine ⟨g,cap,rfl,fun j hj=> ?_⟩
 have hcl:=World.ownsRow.cells (w:=w) ⟨hl,.inr ⟨g,cap,cur,rfl,h1,hg,hr⟩⟩ (g:=g) rfl
 obtain ⟨ha,hb,hc⟩:=enCells_get T j hj
 refine ⟨(Array.getElem?_eq_some_iff.1 hg).1, ?_, ?_, ?_⟩
 ·have:=hcl (j*3) _ ha;rw[Addr.add_lit,Nat.zero_add] at this;exact this
 ·have:=hcl (j*3+1) _ hb;rw[Addr.add_lit,Nat.zero_add] at this;exact this
 have:=hcl (j*3+2) _ hc;rw[Addr.add_lit,Nat.zero_add] at this;exact this
structure Made (T:List Ent):Prop where
 form: ∀e∈T,∃n f,n<26∧f<4∧e.nm=nmP n f∧e.ln=false∧e.dt.size≤600
 apart:T.Pairwise (fun a b=>a.nm≠b.nm)
theorem Made.nil:Made []:=⟨(fun e h=>by cases h),List.Pairwise.nil⟩
theorem Made.snoc{T:List Ent}(h:Made T)(n f:Nat)(d:ByteArray)(hn:n<26)(hf:f<4)(hd:d.size≤600)(ha: ∀k,k<T.length→(T.getD k ent0).nm≠nmP n f):Made (T++[⟨nmP n f,false,d⟩]):=by
 refine ⟨fun e he=> ?_,List.pairwise_append.2 ⟨h.apart,List.pairwise_singleton _ _,fun x hx y hy=> ?_⟩⟩
 ·rcases List.mem_append.1 he with he|he
  ·exact h.form e he
  rw[List.mem_singleton] at he;subst he;exact ⟨n,f,hn,hf,rfl,rfl,hd⟩
 rw[List.mem_singleton] at hy;subst hy
 obtain ⟨k,hk,rfl⟩:=List.mem_iff_getElem.1 hx
 have:=ha k hk
 rw[List.getD_eq_getElem?_getD,List.getElem?_eq_getElem hk] at this
 exact this
theorem infoE3:(Tryz.prog.info? 39).map (fun i=>(i.zero,i.size,i.bytes))=some (some (.agg #[.string ⟨#[]⟩,.bool false,.string ⟨#[]⟩]),3,40):=by kernel_rfl
theorem entriesA(v:Value)(n:Nat)(hn:n≤maxLen)(w:World)(hv:RawAt w v n):
 Calls Tryz.prog 26 #[v] w fun r w' => ∃u T,r=.returned u∧Old w w' ∧EntRow w' u T∧Made T∧T.length≤20∧ ∀b,u.ownBlock=some b→w.heap.size≤b:=by
 obtain ⟨i0,hi0,hz0,hz1,hz2⟩:=info_parts infoE3
 obtain ⟨ao,cp,rfl⟩:=hv.len
 have HV:=hide hv
 have HO:=hide (Only.refl (fun _=>False) w)
 have HF0:Hid (EntRow w (.slice none 0 0) []):=World.ownsRow_nil w 0 _ 3
 have hnI:n≤9223372036854775807:=by unfold maxLen at hn;omega
 clear hv
 go_in
 go_wp2_with fail
 go_loopw [3,4,5,6,7,8,9] (fun u x _ _ _ _ _ wr=> ∃(i:Nat) (T:List Ent),i≤n∧i≤20∧T.length≤i∧x=.int .i64 i∧Hid (Old w wr)∧Hid (Made T)∧Hid (EntRow wr u T)∧Hid (∀b,u.ownBlock=some b→w.heap.size≤b)) (fun _ x _ _ _ _ _ _=>20- (intOf x).toNat)
 ·exact ⟨0,[],by omega,by omega,by simp,rfl,HO,Made.nil,HF0,fun b h=>by cases h⟩
 obtain ⟨i,T,hi,hi20,hTi,rfl,HO1,HMT,HEN,HUB⟩:=hrel
 clear HO HF0
 by_cases hil:i<n∧i<20
 ·obtain ⟨hil,hil2⟩:=hil
  have hilI:(i:Int)<(n:Int):=by omega
  have hil2I:(i:Int)<20:=by omega
  obtain ⟨a,cap,hve,hraw⟩: ∃a cap,Value.slice ao n cp=.slice (some a) n cap∧ ∃(f m:Int) (s:ByteArray),(-9223372036854775808≤f∧f≤9223372036854775807)∧(-9223372036854775808≤m∧m≤9223372036854775807)∧s.size≤140737488355328∧wr.cell? (a.add (i*3))=some (.int .i64 f)∧wr.cell? ⟨(a.add (i*3)).block,(a.add (i*3)).off+1,none⟩=some (.int .i64 m)∧wr.cell? ⟨(a.add (i*3)).block,(a.add (i*3)).off+2,none⟩=some (.string s):=by
   rcases (uh HV).old (uh HO1) with ⟨_,h0⟩|⟨a,cap,e,h⟩
   ·omega
   exact ⟨a,cap,e,h i hil⟩
  injection hve with hv1 hv2 hv3
  subst hv1 hv3
  obtain ⟨f,m,s,hf,hm,hs,c0,c1,c2⟩:=hraw
  have hp1:=pickN_lt m (show 0<26 by omega)
  have hp2:=pickN_lt f (show 0<4 by omega)
  have HP1:=hide (fun W=>kpick_any m hm.1 hm.2 26 (by omega) (by omega) W)
  have HP2:=hide (fun W=>kpick_any f hf.1 hf.2 4 (by omega) (by omega) W)
  generalize pickN m 26=k1 at*
  generalize pickN f 4=k2 at*
  obtain ⟨ao3,cp3,rfl⟩:=(uh HEN).shape
  obtain ⟨B,hBB⟩: ∃B,97+k1=B:=⟨_,rfl⟩
  have hB:B<256:=by omega
  have hBI:(97:Int)+(k1:Int)=(B:Int):=by omega
  have HBA:Hid (baP k1=⟨#[102]⟩++⟨#[b8 B]⟩++⟨#[46,103,111]⟩):=by unfold Hid;rw[baP,hBB]
  clear hBB
  go_wp2_with fail
  refine (uh HP1 _).mono ?_
  rintro r w1 ⟨rfl,rfl⟩
  have hback:=one_back w1 B hB
  have hA1:Old w1 (w1.alloc (.cells #[.int .u8 (B:Int)] 5)):=(Only.refl _ w1).alloc _
  have HOW:=hide (Only.trans (uh HO1) hA1)
  have HEW:=hide ((uh HEN).old hA1)
  have d0:=cell_old hA1 c0
  have d2:=cell_old hA1 c2
  clear hA1 c0 c1 c2 HO1 HEN HP1
  go_wp2_with fail
  generalize w1.alloc (.cells #[.int .u8 (B:Int)] 5)=W1 at*
  have hbz:((⟨#[102]⟩:ByteArray)++⟨#[b8 B]⟩++⟨#[46,103,111]⟩).size=5:=by rw[←uh HBA,baP_size]
  generalize (⟨#[102]⟩:ByteArray)++⟨#[b8 B]⟩++⟨#[46,103,111]⟩=ba at*
  refine (uh HP2 _).mono ?_
  rintro r W ⟨rfl,rfl⟩
  clear HP2 hback d0
  by_cases hk0:k2=0
  ·subst hk0
   obtain ⟨nm,HNB⟩: ∃nm,Hid (nm=ba):=⟨ba,rfl⟩
   have HNM:Hid (nm=nmP k1 0):=by unfold Hid;rw[nmP,foP_zero,uh HBA];exact uh HNB
   have eb:nm=ba:=uh HNB
   subst eb
   clear HNB HBA hbz hB hBI
   obtain ⟨k2,hk2⟩: ∃k2:Nat,k2=0:=⟨0,rfl⟩
   rw[←hk2] at HNM hp2
   by_cases h6:s.size≤600
   ·have h6I:¬(600:Int)<(s.size:Int):=by omega
    obtain ⟨d,HDD⟩: ∃d,Hid (d=s):=⟨s,rfl⟩
    rw[←uh HDD] at h6 h6I d2
    have hd:d.size≤600:=h6
    clear HDD hs
    go_wp2_with fail
    clear d2
    go_loop [8,9] (fun y x=> ∃(k:Nat) (bb:Bool),k≤T.length∧x=.int .i64 k∧y=.bool bb∧Hid (bb=false→ ∀j,j<k→(T.getD j ent0).nm≠nm)) (fun _ x=>T.length- (intOf x).toNat)
    ·exact ⟨0,false,by omega,rfl,rfl,fun _ j hj=>by omega⟩
    obtain ⟨k,bb,hk,rfl,rfl,HNE⟩:=hrel
    by_cases hkl:k<T.length
    ·have hklI:(k:Int)<(T.length:Int):=by omega
     obtain ⟨g,cq,hve,hent⟩:=(uh HEW).slice (by omega)
     obtain ⟨_,e1,_,_⟩:=hent k hkl
     injection hve with hv1 hv2 hv3
     subst hv1 hv3
     clear hent hv2
     cases bb with
     |true=>
      clear e1
      go_wp2_with fail
      go_round
      ·exact ⟨k+1,true,by omega,by go_num,rfl,fun h=>by cases h⟩
      case measure=>simp[intOf];omega
     |false=>
      have HEQ:=hide (eqS (T.getD k ent0).nm nm)
      have HN2:Hid (decide ((T.getD k ent0).nm=nm)=false→ ∀j,j<k+1→(T.getD j ent0).nm≠nm):=fun h j hj=>by
       by_cases e:j=k
       ·rw[e];exact of_decide_eq_false h
       exact uh HNE rfl j (by omega)
      generalize (T.getD k ent0).nm=z at*
      have heq:=uh HEQ
      cases hdz:decide (z=nm) with
      |true=>
       rw[hdz] at heq
       go_wp2_with fail
       go_round
       ·exact ⟨k+1,true,by omega,by go_num,rfl,fun h=>by cases h⟩
       case measure=>simp[intOf];omega
      |false=>
       rw[hdz] at heq
       have HN3:=hide (uh HN2 hdz)
       go_wp2_with fail
       go_round
       ·exact ⟨k+1,false,by omega,by go_num,rfl,fun _=>uh HN3⟩
       case measure=>simp[intOf];omega
    have hklI:¬(k:Int)<(T.length:Int):=by omega
    have hke:k=T.length:=by omega
    subst hke
    cases bb with
    |true=>
     go_wp2_with fail
     go_roundw
     ·exact ⟨i+1,T,by omega,by omega,by omega,by go_num,HOW,HMT,HEW,HUB⟩
     case measure=>simp[intOf];omega
    |false=>
     have HM2:Hid (Made (T++[⟨nm,false,d⟩])):=by
      have h:=uh HNE rfl
      rw[uh HNM] at h ⊢
      exact (uh HMT).snoc k1 k2 d hp1 hp2 hd h
     have hA4:Old W (W.alloc (.cells #[.string nm,.bool false,.string d] 39)):=(Only.refl _ W).alloc _
     have HO5:=hide (Only.trans (uh HOW) hA4)
     have HOWN:Hid ((W.alloc (.cells #[.string nm,.bool false,.string d] 39)).ownsRow 0 39 3 (.slice ao3 T.length cp3) T.length (enCells T)):=(uh HEW).old hA4
     have HNW:=hide (new_cells W [.string nm,.bool false,.string d] 39)
     have HSZ:Hid ((W.alloc (.cells #[.string nm,.bool false,.string d] 39)).heap.size=W.heap.size+1):=by unfold Hid;rw[World.size_alloc]
     have HFN:Hid (∀g2 cap2 w6,w6.ownsRow 0 39 3 (.slice (some ⟨g2,0,none⟩) (T.length+1) cap2) (T.length+1) (enCells T++[.string nm,.bool false,.string d])→(W.alloc (.cells #[.string nm,.bool false,.string d] 39)).grownBy w6 (Value.slice ao3 T.length cp3).ownBlock→((Value.slice ao3 T.length cp3).ownBlock=some g2∨g2=W.heap.size+1)→Old w w6∧EntRow w6 (.slice (some ⟨g2,0,none⟩) (T.length+1) cap2) (T++[⟨nm,false,d⟩])∧w.heap.size≤g2):=fun g2 cap2 w6 h1 h2 h3=>by
      refine ⟨(uh HO5).grown h2 (fun k hk e=>absurd (uh HUB k e) (by omega)), ?_, ?_⟩
      ·show w6.ownsRow 0 39 3 _ (T++[(⟨nm,false,d⟩:Ent)]).length (enCells (T++[⟨nm,false,d⟩]))
       rw[enCells_app,List.length_append];exact h1
      rcases h3 with h|h
      ·exact uh HUB g2 h
      have h4:=(uh HO5).size
      have h5:=uh HSZ
      omega
     have hT20:T.length≤20:=by omega
     clear hA4 HEW HO5
     go_wp2_with (at_builtin;refine wpList_append_lies _ rfl (.tmp 74) (.tmp 78) 40 rfl 0 39 i0 (.agg #[.string ⟨#[]⟩,.bool false,.string ⟨#[]⟩]) 3 40 Tryz.underlying40 hi0 hz0 hz1 hz2 rfl (by omega) (.slice ao3 T.length cp3) T.length (enCells T) rfl (uh HOWN) ⟨W.heap.size,0,none⟩ 1 1 [.string nm,.bool false,.string d] rfl rfl (uh HNW) (by intro u hu;simp at hu;rcases hu with rfl|rfl|rfl<;>rfl) (by omega) (by unfold maxLen;omega) (by omega) (by omega) (W.heap.size+1) (uh HSZ) ?_;intro gb cap2 w6 ho6 hg6 hl6 hlt6;have HX:=hide (uh HFN gb cap2 w6 ho6 hg6 hl6);clear ho6 hg6 hl6 hlt6)
     go_roundw
     ·exact ⟨i+1,T++[⟨nm,false,d⟩],by omega,by omega,by rw[List.length_append];show T.length+1≤i+1;omega,by go_num,hide (uh HX).1,HM2,hide (uh HX).2.1,fun b hb=>by have e:gb=b:=Option.some.inj (show some gb=some b from hb);subst e;exact (uh HX).2.2⟩
     case measure=>simp[intOf];omega
   have h6I:(600:Int)<(s.size:Int):=by omega
   have hsl0: ∀W,(Instr.slice 9 (.string s) none (some (.int .i64 600)) none).run Tryz.prog W=.ok (.string (s.extract 0 600)) W:=fun W=>run_slice_string_h W 9 s Tryz.underlying9 .i64 600 (by omega) (by omega)
   have hd:(s.extract 0 600).size≤600:=by rw[ByteArray.size_extract];omega
   generalize s.extract 0 600=d at*
   go_wp2_with fail
   clear d2 hsl0
   go_loop [8,9] (fun y x=> ∃(k:Nat) (bb:Bool),k≤T.length∧x=.int .i64 k∧y=.bool bb∧Hid (bb=false→ ∀j,j<k→(T.getD j ent0).nm≠nm)) (fun _ x=>T.length- (intOf x).toNat)
   ·exact ⟨0,false,by omega,rfl,rfl,fun _ j hj=>by omega⟩
   obtain ⟨k,bb,hk,rfl,rfl,HNE⟩:=hrel
   by_cases hkl:k<T.length
   ·have hklI:(k:Int)<(T.length:Int):=by omega
    obtain ⟨g,cq,hve,hent⟩:=(uh HEW).slice (by omega)
    obtain ⟨_,e1,_,_⟩:=hent k hkl
    injection hve with hv1 hv2 hv3
    subst hv1 hv3
    clear hent hv2
    cases bb with
    |true=>
     clear e1
     go_wp2_with fail
     go_round
     ·exact ⟨k+1,true,by omega,by go_num,rfl,fun h=>by cases h⟩
     case measure=>simp[intOf];omega
    |false=>
     have HEQ:=hide (eqS (T.getD k ent0).nm nm)
     have HN2:Hid (decide ((T.getD k ent0).nm=nm)=false→ ∀j,j<k+1→(T.getD j ent0).nm≠nm):=fun h j hj=>by
      by_cases e:j=k
      ·rw[e];exact of_decide_eq_false h
      exact uh HNE rfl j (by omega)
     generalize (T.getD k ent0).nm=z at*
     have heq:=uh HEQ
     cases hdz:decide (z=nm) with
     |true=>
      rw[hdz] at heq
      go_wp2_with fail
      go_round
      ·exact ⟨k+1,true,by omega,by go_num,rfl,fun h=>by cases h⟩
      case measure=>simp[intOf];omega
     |false=>
      rw[hdz] at heq
      have HN3:=hide (uh HN2 hdz)
      go_wp2_with fail
      go_round
      ·exact ⟨k+1,false,by omega,by go_num,rfl,fun _=>uh HN3⟩
      case measure=>simp[intOf];omega
   have hklI:¬(k:Int)<(T.length:Int):=by omega
   have hke:k=T.length:=by omega
   subst hke
   cases bb with
   |true=>
    go_wp2_with fail
    go_roundw
    ·exact ⟨i+1,T,by omega,by omega,by omega,by go_num,HOW,HMT,HEW,HUB⟩
    case measure=>simp[intOf];omega
   |false=>
    have HM2:Hid (Made (T++[⟨nm,false,d⟩])):=by
     have h:=uh HNE rfl
     rw[uh HNM] at h ⊢
     exact (uh HMT).snoc k1 k2 d hp1 hp2 hd h
    have hA4:Old W (W.alloc (.cells #[.string nm,.bool false,.string d] 39)):=(Only.refl _ W).alloc _
    have HO5:=hide (Only.trans (uh HOW) hA4)
    have HOWN:Hid ((W.alloc (.cells #[.string nm,.bool false,.string d] 39)).ownsRow 0 39 3 (.slice ao3 T.length cp3) T.length (enCells T)):=(uh HEW).old hA4
    have HNW:=hide (new_cells W [.string nm,.bool false,.string d] 39)
    have HSZ:Hid ((W.alloc (.cells #[.string nm,.bool false,.string d] 39)).heap.size=W.heap.size+1):=by unfold Hid;rw[World.size_alloc]
    have HFN:Hid (∀g2 cap2 w6,w6.ownsRow 0 39 3 (.slice (some ⟨g2,0,none⟩) (T.length+1) cap2) (T.length+1) (enCells T++[.string nm,.bool false,.string d])→(W.alloc (.cells #[.string nm,.bool false,.string d] 39)).grownBy w6 (Value.slice ao3 T.length cp3).ownBlock→((Value.slice ao3 T.length cp3).ownBlock=some g2∨g2=W.heap.size+1)→Old w w6∧EntRow w6 (.slice (some ⟨g2,0,none⟩) (T.length+1) cap2) (T++[⟨nm,false,d⟩])∧w.heap.size≤g2):=fun g2 cap2 w6 h1 h2 h3=>by
     refine ⟨(uh HO5).grown h2 (fun k hk e=>absurd (uh HUB k e) (by omega)), ?_, ?_⟩
     ·show w6.ownsRow 0 39 3 _ (T++[(⟨nm,false,d⟩:Ent)]).length (enCells (T++[⟨nm,false,d⟩]))
      rw[enCells_app,List.length_append];exact h1
     rcases h3 with h|h
     ·exact uh HUB g2 h
     have h4:=(uh HO5).size
     have h5:=uh HSZ
     omega
    have hT20:T.length≤20:=by omega
    clear hA4 HEW HO5
    go_wp2_with (at_builtin;refine wpList_append_lies _ rfl (.tmp 74) (.tmp 78) 40 rfl 0 39 i0 (.agg #[.string ⟨#[]⟩,.bool false,.string ⟨#[]⟩]) 3 40 Tryz.underlying40 hi0 hz0 hz1 hz2 rfl (by omega) (.slice ao3 T.length cp3) T.length (enCells T) rfl (uh HOWN) ⟨W.heap.size,0,none⟩ 1 1 [.string nm,.bool false,.string d] rfl rfl (uh HNW) (by intro u hu;simp at hu;rcases hu with rfl|rfl|rfl<;>rfl) (by omega) (by unfold maxLen;omega) (by omega) (by omega) (W.heap.size+1) (uh HSZ) ?_;intro gb cap2 w6 ho6 hg6 hl6 hlt6;have HX:=hide (uh HFN gb cap2 w6 ho6 hg6 hl6);clear ho6 hg6 hl6 hlt6)
    go_roundw
    ·exact ⟨i+1,T++[⟨nm,false,d⟩],by omega,by omega,by rw[List.length_append];show T.length+1≤i+1;omega,by go_num,hide (uh HX).1,HM2,hide (uh HX).2.1,fun b hb=>by have e:gb=b:=Option.some.inj (show some gb=some b from hb);subst e;exact (uh HX).2.2⟩
    case measure=>simp[intOf];omega
  have hk0I:(0:Int)<(k2:Int):=by omega
  have hk4I:(k2:Int)<4:=by omega
  have hfo:(W.alloc (.cells #[.string ⟨#[]⟩,.string ⟨#[112,47]⟩,.string ⟨#[113,47,114,47]⟩,.string ⟨#[118,101,110,100,111,114,47]⟩] 9)).cell? ⟨W.heap.size,k2,none⟩=some (.string (foP k2)):=by
   rw[cell_of_row _ _ k2 _ _ (0,0) (Go.heap_alloc_new _ _)]
   have h:k2=0∨k2=1∨k2=2∨k2=3:=by omega
   rcases h with rfl|rfl|rfl|rfl<;>rfl
  have hA2:Old W (W.alloc (.cells #[.string ⟨#[]⟩,.string ⟨#[112,47]⟩,.string ⟨#[113,47,114,47]⟩,.string ⟨#[118,101,110,100,111,114,47]⟩] 9)):=(Only.refl _ W).alloc _
  have HOW:=hide (Only.trans (uh HOW) hA2)
  have HEW:=hide ((uh HEW).old hA2)
  have d2:=cell_old hA2 d2
  have hfz:=foP_size k2
  have hcat:¬9223372036854775807<(foP k2).size+ba.size:=by omega
  obtain ⟨nm,HNB⟩: ∃nm,Hid (nm=foP k2++ba):=⟨_,rfl⟩
  have HNM:Hid (nm=nmP k1 k2):=by unfold Hid;rw[nmP,uh HBA];exact uh HNB
  have enb:foP k2++ba=nm:=(uh HNB).symm
  clear hA2 HNB HBA hB hBI
  generalize foP k2=fo at*
  go_upto_region 9 with fail
  clear hfo hcat enb hfz hbz
  generalize W.alloc (.cells #[.string ⟨#[]⟩,.string ⟨#[112,47]⟩,.string ⟨#[113,47,114,47]⟩,.string ⟨#[118,101,110,100,111,114,47]⟩] 9)=W at*
  by_cases h6:s.size≤600
  ·have h6I:¬(600:Int)<(s.size:Int):=by omega
   obtain ⟨d,HDD⟩: ∃d,Hid (d=s):=⟨s,rfl⟩
   rw[←uh HDD] at h6 h6I d2
   have hd:d.size≤600:=h6
   clear HDD hs
   go_wp2_with fail
   clear d2
   go_loop [8,9] (fun y x=> ∃(k:Nat) (bb:Bool),k≤T.length∧x=.int .i64 k∧y=.bool bb∧Hid (bb=false→ ∀j,j<k→(T.getD j ent0).nm≠nm)) (fun _ x=>T.length- (intOf x).toNat)
   ·exact ⟨0,false,by omega,rfl,rfl,fun _ j hj=>by omega⟩
   obtain ⟨k,bb,hk,rfl,rfl,HNE⟩:=hrel
   by_cases hkl:k<T.length
   ·have hklI:(k:Int)<(T.length:Int):=by omega
    obtain ⟨g,cq,hve,hent⟩:=(uh HEW).slice (by omega)
    obtain ⟨_,e1,_,_⟩:=hent k hkl
    injection hve with hv1 hv2 hv3
    subst hv1 hv3
    clear hent hv2
    cases bb with
    |true=>
     clear e1
     go_wp2_with fail
     go_round
     ·exact ⟨k+1,true,by omega,by go_num,rfl,fun h=>by cases h⟩
     case measure=>simp[intOf];omega
    |false=>
     have HEQ:=hide (eqS (T.getD k ent0).nm nm)
     have HN2:Hid (decide ((T.getD k ent0).nm=nm)=false→ ∀j,j<k+1→(T.getD j ent0).nm≠nm):=fun h j hj=>by
      by_cases e:j=k
      ·rw[e];exact of_decide_eq_false h
      exact uh HNE rfl j (by omega)
     generalize (T.getD k ent0).nm=z at*
     have heq:=uh HEQ
     cases hdz:decide (z=nm) with
     |true=>
      rw[hdz] at heq
      go_wp2_with fail
      go_round
      ·exact ⟨k+1,true,by omega,by go_num,rfl,fun h=>by cases h⟩
      case measure=>simp[intOf];omega
     |false=>
      rw[hdz] at heq
      have HN3:=hide (uh HN2 hdz)
      go_wp2_with fail
      go_round
      ·exact ⟨k+1,false,by omega,by go_num,rfl,fun _=>uh HN3⟩
      case measure=>simp[intOf];omega
   have hklI:¬(k:Int)<(T.length:Int):=by omega
   have hke:k=T.length:=by omega
   subst hke
   cases bb with
   |true=>
    go_wp2_with fail
    go_roundw
    ·exact ⟨i+1,T,by omega,by omega,by omega,by go_num,HOW,HMT,HEW,HUB⟩
    case measure=>simp[intOf];omega
   |false=>
    have HM2:Hid (Made (T++[⟨nm,false,d⟩])):=by
     have h:=uh HNE rfl
     rw[uh HNM] at h ⊢
     exact (uh HMT).snoc k1 k2 d hp1 hp2 hd h
    have hA4:Old W (W.alloc (.cells #[.string nm,.bool false,.string d] 39)):=(Only.refl _ W).alloc _
    have HO5:=hide (Only.trans (uh HOW) hA4)
    have HOWN:Hid ((W.alloc (.cells #[.string nm,.bool false,.string d] 39)).ownsRow 0 39 3 (.slice ao3 T.length cp3) T.length (enCells T)):=(uh HEW).old hA4
    have HNW:=hide (new_cells W [.string nm,.bool false,.string d] 39)
    have HSZ:Hid ((W.alloc (.cells #[.string nm,.bool false,.string d] 39)).heap.size=W.heap.size+1):=by unfold Hid;rw[World.size_alloc]
    have HFN:Hid (∀g2 cap2 w6,w6.ownsRow 0 39 3 (.slice (some ⟨g2,0,none⟩) (T.length+1) cap2) (T.length+1) (enCells T++[.string nm,.bool false,.string d])→(W.alloc (.cells #[.string nm,.bool false,.string d] 39)).grownBy w6 (Value.slice ao3 T.length cp3).ownBlock→((Value.slice ao3 T.length cp3).ownBlock=some g2∨g2=W.heap.size+1)→Old w w6∧EntRow w6 (.slice (some ⟨g2,0,none⟩) (T.length+1) cap2) (T++[⟨nm,false,d⟩])∧w.heap.size≤g2):=fun g2 cap2 w6 h1 h2 h3=>by
     refine ⟨(uh HO5).grown h2 (fun k hk e=>absurd (uh HUB k e) (by omega)), ?_, ?_⟩
     ·show w6.ownsRow 0 39 3 _ (T++[(⟨nm,false,d⟩:Ent)]).length (enCells (T++[⟨nm,false,d⟩]))
      rw[enCells_app,List.length_append];exact h1
     rcases h3 with h|h
     ·exact uh HUB g2 h
     have h4:=(uh HO5).size
     have h5:=uh HSZ
     omega
    have hT20:T.length≤20:=by omega
    clear hA4 HEW HO5
    go_wp2_with (at_builtin;refine wpList_append_lies _ rfl (.tmp 74) (.tmp 78) 40 rfl 0 39 i0 (.agg #[.string ⟨#[]⟩,.bool false,.string ⟨#[]⟩]) 3 40 Tryz.underlying40 hi0 hz0 hz1 hz2 rfl (by omega) (.slice ao3 T.length cp3) T.length (enCells T) rfl (uh HOWN) ⟨W.heap.size,0,none⟩ 1 1 [.string nm,.bool false,.string d] rfl rfl (uh HNW) (by intro u hu;simp at hu;rcases hu with rfl|rfl|rfl<;>rfl) (by omega) (by unfold maxLen;omega) (by omega) (by omega) (W.heap.size+1) (uh HSZ) ?_;intro gb cap2 w6 ho6 hg6 hl6 hlt6;have HX:=hide (uh HFN gb cap2 w6 ho6 hg6 hl6);clear ho6 hg6 hl6 hlt6)
    go_roundw
    ·exact ⟨i+1,T++[⟨nm,false,d⟩],by omega,by omega,by rw[List.length_append];show T.length+1≤i+1;omega,by go_num,hide (uh HX).1,HM2,hide (uh HX).2.1,fun b hb=>by have e:gb=b:=Option.some.inj (show some gb=some b from hb);subst e;exact (uh HX).2.2⟩
    case measure=>simp[intOf];omega
  have h6I:(600:Int)<(s.size:Int):=by omega
  have hsl0: ∀W,(Instr.slice 9 (.string s) none (some (.int .i64 600)) none).run Tryz.prog W=.ok (.string (s.extract 0 600)) W:=fun W=>run_slice_string_h W 9 s Tryz.underlying9 .i64 600 (by omega) (by omega)
  have hd:(s.extract 0 600).size≤600:=by rw[ByteArray.size_extract];omega
  generalize s.extract 0 600=d at*
  go_wp2_with fail
  clear d2 hsl0
  go_loop [8,9] (fun y x=> ∃(k:Nat) (bb:Bool),k≤T.length∧x=.int .i64 k∧y=.bool bb∧Hid (bb=false→ ∀j,j<k→(T.getD j ent0).nm≠nm)) (fun _ x=>T.length- (intOf x).toNat)
  ·exact ⟨0,false,by omega,rfl,rfl,fun _ j hj=>by omega⟩
  obtain ⟨k,bb,hk,rfl,rfl,HNE⟩:=hrel
  by_cases hkl:k<T.length
  ·have hklI:(k:Int)<(T.length:Int):=by omega
   obtain ⟨g,cq,hve,hent⟩:=(uh HEW).slice (by omega)
   obtain ⟨_,e1,_,_⟩:=hent k hkl
   injection hve with hv1 hv2 hv3
   subst hv1 hv3
   clear hent hv2
   cases bb with
   |true=>
    clear e1
    go_wp2_with fail
    go_round
    ·exact ⟨k+1,true,by omega,by go_num,rfl,fun h=>by cases h⟩
    case measure=>simp[intOf];omega
   |false=>
    have HEQ:=hide (eqS (T.getD k ent0).nm nm)
    have HN2:Hid (decide ((T.getD k ent0).nm=nm)=false→ ∀j,j<k+1→(T.getD j ent0).nm≠nm):=fun h j hj=>by
     by_cases e:j=k
     ·rw[e];exact of_decide_eq_false h
     exact uh HNE rfl j (by omega)
    generalize (T.getD k ent0).nm=z at*
    have heq:=uh HEQ
    cases hdz:decide (z=nm) with
    |true=>
     rw[hdz] at heq
     go_wp2_with fail
     go_round
     ·exact ⟨k+1,true,by omega,by go_num,rfl,fun h=>by cases h⟩
     case measure=>simp[intOf];omega
    |false=>
     rw[hdz] at heq
     have HN3:=hide (uh HN2 hdz)
     go_wp2_with fail
     go_round
     ·exact ⟨k+1,false,by omega,by go_num,rfl,fun _=>uh HN3⟩
     case measure=>simp[intOf];omega
  have hklI:¬(k:Int)<(T.length:Int):=by omega
  have hke:k=T.length:=by omega
  subst hke
  cases bb with
  |true=>
   go_wp2_with fail
   go_roundw
   ·exact ⟨i+1,T,by omega,by omega,by omega,by go_num,HOW,HMT,HEW,HUB⟩
   case measure=>simp[intOf];omega
  |false=>
   have HM2:Hid (Made (T++[⟨nm,false,d⟩])):=by
    have h:=uh HNE rfl
    rw[uh HNM] at h ⊢
    exact (uh HMT).snoc k1 k2 d hp1 hp2 hd h
   have hA4:Old W (W.alloc (.cells #[.string nm,.bool false,.string d] 39)):=(Only.refl _ W).alloc _
   have HO5:=hide (Only.trans (uh HOW) hA4)
   have HOWN:Hid ((W.alloc (.cells #[.string nm,.bool false,.string d] 39)).ownsRow 0 39 3 (.slice ao3 T.length cp3) T.length (enCells T)):=(uh HEW).old hA4
   have HNW:=hide (new_cells W [.string nm,.bool false,.string d] 39)
   have HSZ:Hid ((W.alloc (.cells #[.string nm,.bool false,.string d] 39)).heap.size=W.heap.size+1):=by unfold Hid;rw[World.size_alloc]
   have HFN:Hid (∀g2 cap2 w6,w6.ownsRow 0 39 3 (.slice (some ⟨g2,0,none⟩) (T.length+1) cap2) (T.length+1) (enCells T++[.string nm,.bool false,.string d])→(W.alloc (.cells #[.string nm,.bool false,.string d] 39)).grownBy w6 (Value.slice ao3 T.length cp3).ownBlock→((Value.slice ao3 T.length cp3).ownBlock=some g2∨g2=W.heap.size+1)→Old w w6∧EntRow w6 (.slice (some ⟨g2,0,none⟩) (T.length+1) cap2) (T++[⟨nm,false,d⟩])∧w.heap.size≤g2):=fun g2 cap2 w6 h1 h2 h3=>by
    refine ⟨(uh HO5).grown h2 (fun k hk e=>absurd (uh HUB k e) (by omega)), ?_, ?_⟩
    ·show w6.ownsRow 0 39 3 _ (T++[(⟨nm,false,d⟩:Ent)]).length (enCells (T++[⟨nm,false,d⟩]))
     rw[enCells_app,List.length_append];exact h1
    rcases h3 with h|h
    ·exact uh HUB g2 h
    have h4:=(uh HO5).size
    have h5:=uh HSZ
    omega
   have hT20:T.length≤20:=by omega
   clear hA4 HEW HO5
   go_wp2_with (at_builtin;refine wpList_append_lies _ rfl (.tmp 74) (.tmp 78) 40 rfl 0 39 i0 (.agg #[.string ⟨#[]⟩,.bool false,.string ⟨#[]⟩]) 3 40 Tryz.underlying40 hi0 hz0 hz1 hz2 rfl (by omega) (.slice ao3 T.length cp3) T.length (enCells T) rfl (uh HOWN) ⟨W.heap.size,0,none⟩ 1 1 [.string nm,.bool false,.string d] rfl rfl (uh HNW) (by intro u hu;simp at hu;rcases hu with rfl|rfl|rfl<;>rfl) (by omega) (by unfold maxLen;omega) (by omega) (by omega) (W.heap.size+1) (uh HSZ) ?_;intro gb cap2 w6 ho6 hg6 hl6 hlt6;have HX:=hide (uh HFN gb cap2 w6 ho6 hg6 hl6);clear ho6 hg6 hl6 hlt6)
   go_roundw
   ·exact ⟨i+1,T++[⟨nm,false,d⟩],by omega,by omega,by rw[List.length_append];show T.length+1≤i+1;omega,by go_num,hide (uh HX).1,HM2,hide (uh HX).2.1,fun b hb=>by have e:gb=b:=Option.some.inj (show some gb=some b from hb);subst e;exact (uh HX).2.2⟩
   case measure=>simp[intOf];omega
 have HTL:Hid (T.length≤20):=by unfold Hid;omega
 by_cases h1:i<n
 ·have h1I:(i:Int)<(n:Int):=by omega
  have h2I:¬(i:Int)<20:=by omega
  go_wp2_with fail
  go_ret
  exact ⟨_,rfl,HO1,T,HEN,HMT,HTL,HUB⟩
 have h1I:¬(i:Int)<(n:Int):=by omega
 go_wp2_with fail
 go_ret
 exact ⟨_,rfl,HO1,T,HEN,HMT,HTL,HUB⟩
theorem addb(a:Addr)(j:Nat):(a.add j).block=a.block:=by unfold Addr.add;split<;>rfl
def ShowsE(w:World)(x:Value)(U:List Ent):Prop:=
 ∃(ao:Option Addr) (c:Nat),x=.slice ao U.length c∧(ao=none→U=[])∧ ∀a,ao=some a→ ∀j u,(enCells U)[j]? =some u→w.cell? (a.add j)=some u
theorem ShowsE.old{w w' :World}{x:Value}{U:List Ent}(h:ShowsE w x U)(ho:Old w w'):ShowsE w' x U:=by
 obtain ⟨ao,c,h1,h2,h3⟩:=h
 exact ⟨ao,c,h1,h2,fun a e j u hu=>cell_old ho (h3 a e j u hu)⟩
theorem ShowsE.grown{w w' :World}{x:Value}{U:List Ent}{row:Option Nat}(h:ShowsE w x U)(hg:w.grownBy w' row)(hne: ∀k,x.ownBlock=some k→row≠some k):ShowsE w' x U:=by
 obtain ⟨ao,c,rfl,h2,h3⟩:=h
 refine ⟨ao,c,rfl,h2,fun a e j u hu=>hg.cell (h3 a e j u hu) ?_⟩
 subst e
 intro e2
 exact hne a.block rfl (by rw[←e2,addb])
theorem EntRow.shows{w:World}{v:Value}{T:List Ent}(h:EntRow w v T):ShowsE w v T:=by
 have h' :=h
 obtain ⟨hl,⟨rfl,hz⟩|⟨g,cap,cur,rfl,h1,hg,hr⟩⟩:=h
 ·have:T=[]:=List.length_eq_zero_iff.1 hz
  subst this
  exact ⟨none,0,rfl,fun _=>rfl,fun a e=>by cases e⟩
 refine ⟨some ⟨g,0,none⟩,cap,rfl,(fun e=>by cases e),fun a e j u hu=> ?_⟩
 injection e with e
 subst e
 exact World.ownsRow.cells h' rfl j u hu
theorem enCells_one(T:List Ent): ∀u∈enCells T,u.oneCell' =true:=by
 intro u hu
 obtain ⟨e,_,he⟩:=List.mem_flatMap.1 hu
 simp at he
 rcases he with rfl|rfl|rfl<;>rfl
theorem run_append_ent{w:World}{v:Value}{T:List Ent}(h:EntRow w v T){x:Value}{U:List Ent}(hx:ShowsE w x U)(ty:TypeId)(hb:(T.length+U.length)*40≤140737488355328):
 ∃v' w',(Builtin.append_ #[40,40] ty #[v,x]).run Tryz.prog w=.ok v' w' ∧EntRow w' v' (T++U)∧w.grownBy w' v.ownBlock∧(v'.ownBlock=v.ownBlock∨ ∀k,v'.ownBlock=some k→w.heap.size≤k):=by
 obtain ⟨i,hi,hz0,hz1,hz2⟩:=info_parts infoE3
 obtain ⟨ao,c,rfl,hn,hc⟩:=hx
 by_cases hU:U=[]
 ·subst hU
  refine ⟨v,w, ?_,by rw[List.append_nil];exact h,⟨rfl,rfl,rfl,Nat.le_refl _,fun _ _ _=>rfl⟩,.inl rfl⟩
  obtain ⟨hl,⟨rfl,hz⟩|⟨g,cap,cur,rfl,h1,hg,h2,hr⟩⟩:=h
  ·cases ao<;>simp[Builtin.append_,run_underlying Tryz.underlying40,sizeOf,typeInfo,hi,Builtin.lenOf,Builtin.firstCells,loadCells,loadCellsFrom]
  cases ao<;>simp[Builtin.append_,run_underlying Tryz.underlying40,sizeOf,typeInfo,hi,Builtin.lenOf,Builtin.firstCells,h2,storeCells,loadCells,loadCellsFrom]
 cases ao with
 |none=>exact absurd (hn rfl) hU
 |some a=>
  obtain ⟨g,cap,w',h1,h2,h3,h4,h5⟩:=run_append_lies (P:=Tryz.prog) (w:=w) 40 ty 0 39 i (.agg #[.string ⟨#[]⟩,.bool false,.string ⟨#[]⟩]) 3 40 Tryz.underlying40 hi hz0 hz1 hz2 rfl (by omega) v T.length (enCells T) h a U.length c (enCells U) (enCells_len U) (hc a rfl) (enCells_one U) (List.length_pos_iff.2 hU) (by unfold maxLen;omega) hb (Nat.zero_le _) w.heap.size rfl
  refine ⟨_,w',h1, ?_,h3, ?_⟩
  ·show w'.ownsRow 0 39 3 _ (T++U).length (enCells (T++U))
   rw[enCells_app,List.length_append];exact h2
  rcases h4 with h4|h4
  ·exact .inl h4.symm
  refine .inr fun k hk=> ?_
  have e:g=k:=Option.some.inj (show some g=some k from hk)
  omega
theorem wpList_append_ent{w:World}{ops:Array Oper}{rest:List Oper}{o:Oper}{a:Act}{Q:Exit→Act→World→Prop}(hgd:o.guard=none)(s x:Operand)
 (ho:o.op=.call {callee:=.builtin .append,args:= #[s,x],argTypes:= #[40,40]})
 (v xv:Value)(ts us:List Ent)(hs:a.eval s=v)(hx:a.eval x=xv)(h:EntRow w v ts)(hsh:ShowsE w xv us)(hb:(ts.length+us.length)*40≤140737488355328)
 (hK: ∀v' w',EntRow w' v' (ts++us)→w.grownBy w' v.ownBlock→(v'.ownBlock=v.ownBlock∨ ∀k,v'.ownBlock=some k→w.heap.size≤k)→wpList Tryz.prog ops Q rest (a.put o.dst v') w'):
 wpList Tryz.prog ops Q (o::rest) a w:=by
 refine wpList_plain hgd fun K hK' => ?_
 obtain ⟨v',w',hrun,h1,h2,h3⟩:=run_append_ent h hsh o.type hb
 unfold Oper.wp
 simp[execOp,ho,resolve,invoke,builtin,hs,hx,hrun,Result.andThen]
 exact hK' _ _ (hK v' w' h1 h2 h3)
theorem enCells_take(T:List Ent)(k:Nat)(hk:k≤T.length):enCells (T.take k)=(enCells T).take (k*3):=by
 have h:enCells T=enCells (T.take k)++enCells (T.drop k):=by rw[←enCells_app,List.take_append_drop]
 have h2:(enCells (T.take k)).length=k*3:=by rw[enCells_len,List.length_take,Nat.min_eq_left hk]
 rw[h,←h2,List.take_left]
theorem enCells_drop(T:List Ent)(k:Nat)(hk:k≤T.length):enCells (T.drop k)=(enCells T).drop (k*3):=by
 have h:enCells T=enCells (T.take k)++enCells (T.drop k):=by rw[←enCells_app,List.take_append_drop]
 have h2:(enCells (T.take k)).length=k*3:=by rw[enCells_len,List.length_take,Nat.min_eq_left hk]
 rw[h,←h2,List.drop_left]
theorem size_entry(w:World):(sizeOf (Tryz.prog.elem 40)).run Tryz.prog w=.ok 3 w:=by
 obtain ⟨i,hi,hz0,hz1,hz2⟩:=info_parts infoE3
 have he:Tryz.prog.elem 40=39:=by kernel_rfl
 rw[he]
 simp[sizeOf,typeInfo,hi,hz1]
theorem under_entries:Tryz.prog.underlying 40=some (.slice (Tryz.prog.elem 40)):=by
 have he:Tryz.prog.elem 40=39:=by kernel_rfl
 rw[he];exact Tryz.underlying40
theorem EntRow.low{w:World}{v:Value}{T:List Ent}(h:EntRow w v T)(k:Nat)(hk:k≤T.length): ∃x,(∀W,(Instr.slice 40 v none (some (.int .i64 (k:Int))) none).run Tryz.prog W=.ok x W)∧ShowsE w x (T.take k)∧(∀b,x.ownBlock=some b→v.ownBlock=some b):=by
 obtain ⟨ao,cap,rfl,hn,hc⟩:=h.shows
 have hcap:T.length≤cap:=by
  obtain ⟨_,⟨e,hz⟩|⟨g,cap',cur,e,_,_,hle,_⟩⟩:=h
  ·omega
  injection e with _ _ e3;omega
 refine ⟨.slice (if cap=0 then ao else ao.map (·.add (0*3))) (k- 0) (cap- 0),fun W=> ?_, ?_, ?_⟩
 ·rw[run_slice_h W 40 ao T.length cap under_entries .i64 (k:Int) (by omega) (by omega),size_entry]
  simp[Result.andThen,sliced]
 ·have e:(if cap=0 then ao else ao.map (·.add (0*3)))=ao:=by
   cases ao<;>simp[Addr.add]
  rw[e]
  refine ⟨ao,cap- 0,by rw[List.length_take,Nat.min_eq_left hk];rfl,fun e=>by rw[hn e];simp,fun a ea j u hu=> ?_⟩
  rw[enCells_take T k hk] at hu
  refine hc a ea j u ?_
  rw[List.getElem?_take] at hu
  split at hu
  ·exact hu
  cases hu
 intro b hb
 cases ao with
 |none=>simp[Value.ownBlock] at hb
 |some a=>simpa [Value.ownBlock,Addr.add] using hb
theorem EntRow.high{w:World}{v:Value}{T:List Ent}(h:EntRow w v T)(k:Nat)(hk:k≤T.length): ∃x,(∀W,(Instr.slice 40 v (some (.int .i64 (k:Int))) none none).run Tryz.prog W=.ok x W)∧ShowsE w x (T.drop k)∧(∀b,x.ownBlock=some b→v.ownBlock=some b):=by
 obtain ⟨ao,cap,rfl,hn,hc⟩:=h.shows
 have hcap:T.length≤cap:=by
  obtain ⟨_,⟨e,hz⟩|⟨g,cap',cur,e,_,_,hle,_⟩⟩:=h
  ·omega
  injection e with _ _ e3;omega
 refine ⟨.slice (if cap=k then ao else ao.map (·.add (k*3))) (T.length- k) (cap- k),fun W=> ?_, ?_, ?_⟩
 ·rw[run_slice_l W 40 ao T.length cap under_entries .i64 (k:Int) (by omega) (by omega),size_entry]
  simp[Result.andThen,sliced]
 ·refine ⟨if cap=k then ao else ao.map (·.add (k*3)),cap- k,by rw[List.length_drop],fun e=> ?_,fun a ea j u hu=> ?_⟩
  ·split at e
   ·rw[hn e];simp
   cases ao with
   |none=>rw[hn rfl];simp
   |some a=>cases e
  rw[enCells_drop T k hk,List.getElem?_drop] at hu
  split at ea
  ·have h1:k=T.length:=by omega
   rw[List.getElem?_eq_none (by rw[enCells_len];omega)] at hu
   cases hu
  cases ao with
  |none=>cases ea
  |some a0=>
   injection ea with ea
   rw[←ea,Addr.add_add]
   exact hc a0 rfl _ _ hu
 intro b hb
 cases ao with
 |none=>simp[Value.ownBlock] at hb
 |some a=>
  by_cases e:cap=k
  ·simpa [Value.ownBlock,e] using hb
  have hb2:some (a.add (k*3)).block=some b:=by simpa [Value.ownBlock,e] using hb
  rw[addb] at hb2;exact hb2
theorem step_ent{w0 w w' :World}{v v' :Value}(ho:Old w0 w)(hv: ∀b,v.ownBlock=some b→w0.heap.size≤b)(hg:w.grownBy w' v.ownBlock)(hb:v'.ownBlock=v.ownBlock∨ ∀k,v'.ownBlock=some k→w.heap.size≤k):Old w0 w' ∧ ∀b,v'.ownBlock=some b→w0.heap.size≤b:=by
 refine ⟨ho.grown hg (fun k hk e=>absurd (hv k e) (by omega)),fun b h=> ?_⟩
 rcases hb with hb|hb
 ·exact hv b (by rw[←hb];exact h)
 exact Nat.le_trans ho.size (hb b h)
def insE(T:List Ent)(e:Ent)(k:Nat):List Ent:=T.take k++[e]++T.drop k
theorem insE_perm{R T:List Ent}{i:Nat}(hi:i<T.length)(h:R.Perm (T.take i))(k:Nat):(insE R (T.getD i ent0) k).Perm (T.take (i+1)):=by
 have h1:T.take (i+1)=T.take i++[T.getD i ent0]:=by
  rw[List.take_add_one,List.getElem?_eq_getElem hi,List.getD_eq_getElem?_getD,List.getElem?_eq_getElem hi];rfl
 rw[h1,insE,List.append_assoc]
 refine (List.perm_middle (a:=T.getD i ent0) (l₁:=R.take k) (l₂:=R.drop k)).trans ?_
 rw[List.take_append_drop]
 exact (List.Perm.cons _ h).trans (List.perm_append_comm (l₁:=[T.getD i ent0]) (l₂:=T.take i))
theorem getD_lt{R:List Ent}{j:Nat}(h:j<R.length):R.getD j ent0=R[j]:=by rw[List.getD_eq_getElem?_getD,List.getElem?_eq_getElem h];rfl
theorem insE_sorted{R:List Ent}{e:Ent}{k:Nat}(hk:k≤R.length)(hs:R.Pairwise fun a b=> ¬b.nm.data.toList<a.nm.data.toList)(h1: ∀j,j<k→(R.getD j ent0).nm.data.toList<e.nm.data.toList)(h2:k<R.length→¬(R.getD k ent0).nm.data.toList<e.nm.data.toList):(insE R e k).Pairwise fun a b=> ¬b.nm.data.toList<a.nm.data.toList:=by
 have hs' :=hs
 rw[←List.take_append_drop k R] at hs'
 obtain ⟨s1,s2,s3⟩:=List.pairwise_append.1 hs'
 have hlo: ∀a∈R.take k,a.nm.data.toList<e.nm.data.toList:=by
  intro a ha
  obtain ⟨j,hj,rfl⟩:=List.mem_take_iff_getElem.1 ha
  have:=h1 j (by omega)
  rw[getD_lt (by omega)] at this
  exact this
 have hhi: ∀b∈R.drop k,¬b.nm.data.toList<e.nm.data.toList:=by
  intro b hb hlt
  obtain ⟨j,hj,rfl⟩:=List.mem_drop_iff_getElem.1 hb
  have hkl:k<R.length:=by omega
  have h3:=h2 hkl
  rw[getD_lt hkl] at h3
  by_cases e0:j=0
  ·subst e0;exact h3 (by simpa using hlt)
  have h4:=(List.pairwise_iff_getElem.1 hs) k (j+k) hkl (by omega) (by omega)
  exact h3 (List.lt_of_le_of_lt (List.not_lt.1 h4) (by rw[show R[j+k]'(by omega)=R[k+j]'(by omega) from by congr 1;omega];exact hlt))
 rw[insE,List.append_assoc]
 refine List.pairwise_append.2 ⟨s1,List.pairwise_cons.2 ⟨fun b hb=>hhi b hb,s2⟩,fun a ha b hb=> ?_⟩
 rcases List.mem_cons.1 hb with rfl|hb
 ·exact fun hlt=>List.lt_irrefl _ (List.lt_trans hlt (hlo a ha))
 exact s3 a ha b hb
theorem risingA(v:Value)(T:List Ent)(hT:T.length≤1000)(w:World)(hv:EntRow w v T):
 Calls Tryz.prog 31 #[v] w fun r w' => ∃u R,r=.returned u∧Old w w' ∧EntRow w' u R∧R.Perm T∧(R.Pairwise fun a b=> ¬b.nm.data.toList<a.nm.data.toList)∧ ∀b,u.ownBlock=some b→w.heap.size≤b:=by
 obtain ⟨ao,cp,rfl⟩:=hv.shape
 have HV:=hide hv
 have HO:=hide (Only.refl (fun _=>False) w)
 have HF0:Hid (EntRow w (.slice none 0 0) []):=World.ownsRow_nil w 0 _ 3
 clear hv
 go_in
 go_wp2_with fail
 go_loopw [3,4,5,6] (fun u x _ _ wr=> ∃(i:Nat) (R:List Ent),i≤T.length∧x=.int .i64 i∧Hid (Old w wr)∧Hid (R.Perm (T.take i))∧Hid (R.Pairwise fun a b=> ¬b.nm.data.toList<a.nm.data.toList)∧Hid (EntRow wr u R)∧Hid (∀b,u.ownBlock=some b→w.heap.size≤b)) (fun _ x _ _ _=>T.length- (intOf x).toNat)
 ·exact ⟨0,[],by omega,rfl,HO,by simp[Hid],List.Pairwise.nil,HF0,fun b h=>by cases h⟩
 obtain ⟨i,R,hi,rfl,HO1,HPM,HSO,HEN,HUB⟩:=hrel
 clear HO HF0
 by_cases hil:i<T.length
 ·have hilI:(i:Int)<(T.length:Int):=by omega
  have hRl:R.length=i:=by rw[(uh HPM).length_eq,List.length_take];omega
  have hRl2:R.length≤1000:=by omega
  obtain ⟨g,cap,hve,hent⟩:=((uh HV).old (uh HO1)).slice (by omega)
  obtain ⟨hg,e1,e2,e3⟩:=hent i hil
  injection hve with hv1 hv2 hv3
  subst hv1 hv3
  obtain ⟨ao3,cp3,rfl⟩:=(uh HEN).shape
  have HRL:=hide hRl
  clear hRl hent
  have HPN:=hide (fun k=>insE_perm hil (uh HPM) k)
  have hgl:g<wr.heap.size:=hg
  clear hg
  obtain ⟨e,hee⟩: ∃e,T.getD i ent0=e:=⟨_,rfl⟩
  rw[hee] at e1 e2 e3 HPN
  clear hee
  obtain ⟨nm,ln,dt⟩:=e
  simp only at e1 e2 e3
  obtain ⟨w0,hw0⟩: ∃w0,w0=wr:=⟨wr,rfl⟩
  subst hw0
  go_wp2_with fail
  go_loopw [5] (fun x W=> ∃k:Nat,k≤R.length∧x=.int .i64 k∧Hid (Old w0 W)∧Hid (∀j,j<k→(R.getD j ent0).nm.data.toList<nm.data.toList)) (fun x _=>R.length- (intOf x).toNat)
  ·exact ⟨0,by omega,rfl,Only.refl _ _,fun j hj=>by omega⟩
  obtain ⟨k,hk,rfl,HOI,HLO⟩:=hrel
  have e1:=cell_old (uh HOI) e1
  have e2:=cell_old (uh HOI) e2
  have e3:=cell_old (uh HOI) e3
  have HEN:=hide ((uh HEN).old (uh HOI))
  by_cases hkr:k<R.length∧(R.getD k ent0).nm.data.toList<nm.data.toList
  ·obtain ⟨hkl,hlt⟩:=hkr
   have hklI:(k:Int)<(R.length:Int):=by omega
   obtain ⟨g3,cap3,hve3,hent3⟩:=(uh HEN).slice (by omega)
   obtain ⟨_,f1,_,_⟩:=hent3 k hkl
   injection hve3 with hq1 hq2 hq3
   subst hq1 hq3
   have HL2:Hid (∀j,j<k+1→(R.getD j ent0).nm.data.toList<nm.data.toList):=fun j hj=>by
    by_cases e:j=k
    ·rw[e];exact hlt
    exact uh HLO j (by omega)
   have hles:=lessL (R.getD k ent0).nm nm
   rw[decide_eq_true hlt] at hles
   clear hent3 hq2 hlt
   generalize (R.getD k ent0).nm=z at*
   go_wp2_with fail
   go_quiet (fail)
   go_wp2_with fail
   go_roundw
   ·exact ⟨k+1,by omega,by go_num,(uh HOI).drewN _,HL2⟩
   case measure=>simp[intOf];omega
  have HI2:Hid (k<R.length→¬(R.getD k ent0).nm.data.toList<nm.data.toList):=fun h1 h2=>hkr ⟨h1,h2⟩
  have HSN:=hide (insE_sorted (e:=⟨nm,ln,dt⟩) hk (uh HSO) (uh HLO) (uh HI2))
  have HPK:=hide (uh HPN k)
  obtain ⟨x1,hx1,hs1,hb1⟩:=(uh HEN).low k hk
  obtain ⟨x2,hx2,hs2,hb2⟩:=(uh HEN).high k hk
  have HS1:=hide hs1
  have HS2:=hide hs2
  have hkI:k≤1000:=by omega
  have hl1:(R.take k).length≤1000:=by rw[List.length_take];omega
  have hl2:(R.drop k).length≤1000:=by rw[List.length_drop];omega
  have HIN:Hid (insE R ⟨nm,ln,dt⟩ k=R.take k++[⟨nm,ln,dt⟩]++R.drop k):=rfl
  clear hs1 hs2 hb1 hb2 HLO
  have hstop:(decide ((k:Int)<(R.length:Int))=false)∨((k:Int)<(R.length:Int)∧ ∃g3,ao3=some ⟨g3,0,none⟩∧wr.cell? ⟨g3,k*3,none⟩=some (.string (R.getD k ent0).nm)∧Op.bytesLess (R.getD k ent0).nm.toList nm.toList=false):=by
   by_cases hkl:k<R.length
   ·right
    obtain ⟨g3,cap3,hve3,hent3⟩:=(uh HEN).slice (by omega)
    obtain ⟨_,f1,_,_⟩:=hent3 k hkl
    injection hve3 with hq1 hq2 hq3
    refine ⟨by omega,g3,hq1,f1, ?_⟩
    rw[lessL,decide_eq_false (uh HI2 hkl)]
   left;exact decide_eq_false (by omega)
  clear hkr HI2
  generalize insE R ⟨nm,ln,dt⟩ k=R2 at*
  rcases hstop with hkI2|⟨hkI2,g3,rfl,f1,hles⟩
  ·have hkN:decide (k<R.length)=false:=by simpa using hkI2
   go_wp2_with fail
   go_quiet (fail)
   go_upto_region 9 with fail
   generalize Value.slice ao3 R.length cp3=u3 at*
   have HO2:Hid (Old w (wr.drewN nq)):=(Only.trans (uh HO1) (uh HOI)).drewN nq
   have hD:Old wr (wr.drewN nq):=(Only.refl _ wr).drewN nq
   have HS1:=hide ((uh HS1).old hD)
   have HS2:=hide ((uh HS2).old hD)
   have e1:=cell_old hD e1
   have e2:=cell_old hD e2
   have e3:=cell_old hD e3
   clear hD HEN HOI HO1 HV HUB HPM HSO HPN
   generalize wr.drewN nq=W1 at*
   have HE0:Hid (EntRow W1 (.slice none 0 0) []):=World.ownsRow_nil W1 0 _ 3
   have HR0:=hide (Only.refl (fun _=>False) W1)
   go_upto_region 10 with (at_builtin;refine wpList_append_ent rfl (.tmp 32) (.tmp 35) rfl (.slice none 0 0) x1 [] (R.take k) rfl rfl (uh HE0) (uh HS1) (by simp;omega) ?_;intro v1 w1 hr1 hg1 hb1;have HQ1:=hide (step_ent (uh HR0) (v:=.slice none 0 0) (fun b h=>by cases h) hg1 hb1);have HE1:=hide hr1;clear hr1 hg1 hb1)
   have e1:=cell_old (uh HQ1).1 e1
   have e2:=cell_old (uh HQ1).1 e2
   have e3:=cell_old (uh HQ1).1 e3
   have hA:Old w1 (w1.alloc (.cells #[.string nm,.bool ln,.string dt] 39)):=(Only.refl _ w1).alloc _
   have HE2:=hide ((uh HE1).old hA)
   have HOA:=hide (Only.trans (uh HQ1).1 hA)
   have HSE:Hid (ShowsE (w1.alloc (.cells #[.string nm,.bool ln,.string dt] 39)) (.slice (some ⟨w1.heap.size,0,none⟩) 1 1) [⟨nm,ln,dt⟩]):=⟨some ⟨w1.heap.size,0,none⟩,1,rfl,(fun e=>by cases e),fun a ea j u hu=>by
    injection ea with ea
    subst ea
    exact new_cells w1 [.string nm,.bool ln,.string dt] _ j u hu⟩
   clear hA
   go_upto_region 11 with (at_builtin;refine wpList_append_ent rfl (.tmp 37) (.tmp 42) rfl v1 _ ([]++R.take k) [⟨nm,ln,dt⟩] rfl rfl (uh HE2) (uh HSE) (by simp at hl1 ⊢;omega) ?_;intro v2 w2 hr2 hg2 hb2;have HQ2:=hide (step_ent (uh HOA) (uh HQ1).2 hg2 hb2);have HE3:=hide hr2;clear hr2 hg2 hb2)
   have HS3:=hide ((uh HS2).old (uh HQ2).1)
   clear e1 e2 e3 HE2 HSE HOA HE1 HQ1
   go_upto_region 12 with (at_builtin;refine wpList_append_ent rfl (.tmp 44) (.tmp 47) rfl v2 x2 ([]++R.take k++[⟨nm,ln,dt⟩]) (R.drop k) rfl rfl (uh HE3) (uh HS3) (by simp at hl1 hl2 ⊢;omega) ?_;intro v3 w3 hr3 hg3 hb3;have HQ3:=hide (step_ent (uh HQ2).1 (uh HQ2).2 hg3 hb3);have HE4:=hide hr3;clear hr3 hg3 hb3)
   have HE5:Hid (EntRow w3 v3 R2):=by
    have h:=uh HE4
    rw[List.nil_append] at h
    rw[uh HIN];exact h
   go_wp2_with fail
   go_roundw
   ·exact ⟨i+1,R2,by omega,by go_num,Only.trans (uh HO2) (uh HQ3).1,HPK,HSN,HE5,fun b hb=>Nat.le_trans (uh HO2).size ((uh HQ3).2 b hb)⟩
   case measure=>simp[intOf];omega
  generalize (R.getD k ent0).nm=z at*
  go_wp2_with fail
  go_quiet (fail)
  go_upto_region 9 with fail
  clear f1 hles
  generalize Value.slice (some ⟨g3,0,none⟩) R.length cp3=u3 at*
  have HO2:Hid (Old w (wr.drewN nq)):=(Only.trans (uh HO1) (uh HOI)).drewN nq
  have hD:Old wr (wr.drewN nq):=(Only.refl _ wr).drewN nq
  have HS1:=hide ((uh HS1).old hD)
  have HS2:=hide ((uh HS2).old hD)
  have e1:=cell_old hD e1
  have e2:=cell_old hD e2
  have e3:=cell_old hD e3
  clear hD HEN HOI HO1 HV HUB HPM HSO HPN
  generalize wr.drewN nq=W1 at*
  have HE0:Hid (EntRow W1 (.slice none 0 0) []):=World.ownsRow_nil W1 0 _ 3
  have HR0:=hide (Only.refl (fun _=>False) W1)
  go_upto_region 10 with (at_builtin;refine wpList_append_ent rfl (.tmp 32) (.tmp 35) rfl (.slice none 0 0) x1 [] (R.take k) rfl rfl (uh HE0) (uh HS1) (by simp;omega) ?_;intro v1 w1 hr1 hg1 hb1;have HQ1:=hide (step_ent (uh HR0) (v:=.slice none 0 0) (fun b h=>by cases h) hg1 hb1);have HE1:=hide hr1;clear hr1 hg1 hb1)
  have e1:=cell_old (uh HQ1).1 e1
  have e2:=cell_old (uh HQ1).1 e2
  have e3:=cell_old (uh HQ1).1 e3
  have hA:Old w1 (w1.alloc (.cells #[.string nm,.bool ln,.string dt] 39)):=(Only.refl _ w1).alloc _
  have HE2:=hide ((uh HE1).old hA)
  have HOA:=hide (Only.trans (uh HQ1).1 hA)
  have HSE:Hid (ShowsE (w1.alloc (.cells #[.string nm,.bool ln,.string dt] 39)) (.slice (some ⟨w1.heap.size,0,none⟩) 1 1) [⟨nm,ln,dt⟩]):=⟨some ⟨w1.heap.size,0,none⟩,1,rfl,(fun e=>by cases e),fun a ea j u hu=>by
   injection ea with ea
   subst ea
   exact new_cells w1 [.string nm,.bool ln,.string dt] _ j u hu⟩
  clear hA
  go_upto_region 11 with (at_builtin;refine wpList_append_ent rfl (.tmp 37) (.tmp 42) rfl v1 _ ([]++R.take k) [⟨nm,ln,dt⟩] rfl rfl (uh HE2) (uh HSE) (by simp at hl1 ⊢;omega) ?_;intro v2 w2 hr2 hg2 hb2;have HQ2:=hide (step_ent (uh HOA) (uh HQ1).2 hg2 hb2);have HE3:=hide hr2;clear hr2 hg2 hb2)
  have HS3:=hide ((uh HS2).old (uh HQ2).1)
  clear e1 e2 e3 HE2 HSE HOA HE1 HQ1
  go_upto_region 12 with (at_builtin;refine wpList_append_ent rfl (.tmp 44) (.tmp 47) rfl v2 x2 ([]++R.take k++[⟨nm,ln,dt⟩]) (R.drop k) rfl rfl (uh HE3) (uh HS3) (by simp at hl1 hl2 ⊢;omega) ?_;intro v3 w3 hr3 hg3 hb3;have HQ3:=hide (step_ent (uh HQ2).1 (uh HQ2).2 hg3 hb3);have HE4:=hide hr3;clear hr3 hg3 hb3)
  have HE5:Hid (EntRow w3 v3 R2):=by
   have h:=uh HE4
   rw[List.nil_append] at h
   rw[uh HIN];exact h
  go_wp2_with fail
  go_roundw
  ·exact ⟨i+1,R2,by omega,by go_num,Only.trans (uh HO2) (uh HQ3).1,HPK,HSN,HE5,fun b hb=>Nat.le_trans (uh HO2).size ((uh HQ3).2 b hb)⟩
  case measure=>simp[intOf];omega
 have hie:i=T.length:=by omega
 subst hie
 have hilI:¬(T.length:Int)<(T.length:Int):=by omega
 have HPE:Hid (R.Perm T):=by have:=uh HPM;rw[List.take_length] at this;exact this
 go_wp2_with fail
 go_ret
 exact ⟨_,rfl,HO1,R,HEN,HPE,HSO,HUB⟩
def foL:List ByteArray:=[⟨#[112]⟩,⟨#[113]⟩,⟨#[113,47,114]⟩,⟨#[118,101,110,100,111,114]⟩]
def nmOk(s:ByteArray):Bool:=fileP s&& !(othB s)&&decide (600≤mostP s)&& !(memL foL s)&&decide (s.size≤12)&&(begP s).all (fun b=>(decide (b=s)||memL foL b)&&decide (lowP b=b))
theorem nmOk_all{n f:Nat}(hn:n<26)(hf:f<4):nmOk (nmP n f)=true:=by
 have h:(List.range 26).all (fun n=>(List.range 4).all (fun f=>nmOk (nmP n f)))=true:=by kernel_rfl
 exact List.all_eq_true.1 (List.all_eq_true.1 h n (List.mem_range.2 hn)) f (List.mem_range.2 hf)
def Inv(f:Tab)(N:List ByteArray):Prop:= ∀r,f r=none∨(f r=some (r,true)∧r∈N)∨(f r=some (r,false)∧memL foL r=true)
theorem Inv.nil:Inv (fun _=>none) []:=fun _=> .inl rfl
theorem nmOk_facts{s:ByteArray}(h:nmOk s=true):fileP s=true∧othB s=false∧600≤mostP s∧memL foL s=false∧s.size≤12∧ ∀b∈begP s,(b=s∨memL foL b=true)∧lowP b=b:=by
 unfold nmOk at h
 simp only[Bool.and_eq_true,Bool.not_eq_true',decide_eq_true_eq] at h
 obtain ⟨⟨⟨⟨⟨h1,h2⟩,h3⟩,h4⟩,h5⟩,h6⟩:=h
 refine ⟨h1,h2,h3,h4,h5,fun b hb=> ?_⟩
 have h7:=List.all_eq_true.1 h6 b hb
 simp only[Bool.and_eq_true,Bool.or_eq_true,decide_eq_true_eq] at h7
 exact h7
theorem Inv.clash{f:Tab}{N:List ByteArray}(h:Inv f N){s:ByteArray}(hs:nmOk s=true)(hN: ∀r∈N,nmOk r=true)(hsn:s∉N):clashP f s=false:=by
 obtain ⟨_,_,_,h4,_,h6⟩:=nmOk_facts hs
 unfold clashP
 rw[List.any_eq_false]
 intro b hb
 obtain ⟨h7,h8⟩:=h6 b hb
 unfold clashB
 rw[h8]
 rcases h b with e|⟨e,hm⟩|⟨e,hm⟩
 ·rw[e];simp
 ·exfalso
  rcases h7 with h7|h7
  ·rw[h7] at hm;exact hsn hm
  have:=(nmOk_facts (hN b hm)).2.2.2.1
  rw[this] at h7;cases h7
 rw[e]
 have hne:b≠s:=by
  intro e2
  rw[e2,h4] at hm;cases hm
 simp[hne]
theorem Inv.add{f:Tab}{N:List ByteArray}(h:Inv f N){s:ByteArray}(hs:nmOk s=true):Inv (addP f s) (N++[s]):=by
 obtain ⟨_,_,_,_,_,h6⟩:=nmOk_facts hs
 unfold addP
 have key: ∀(l:List ByteArray) (g:Tab),(∀b∈l,(b=s∨memL foL b=true)∧lowP b=b)→(∀r,g r=none∨(g r=some (r,true)∧r∈N++[s])∨(g r=some (r,false)∧memL foL r=true))→Inv (l.foldl (fun f b=>putT f (lowP b) (b,decide (b=s))) g) (N++[s]):=by
  intro l
  induction l with
  |nil=>intro g _ hg;exact hg
  |cons b l ih=>
   intro g hl hg
   rw[List.foldl_cons]
   obtain ⟨hb,hlb⟩:=hl b (List.mem_cons_self ..)
   refine ih _ (fun c hc=>hl c (List.mem_cons_of_mem _ hc)) ?_
   rw[hlb]
   intro r
   unfold putT
   by_cases e:r=b
   ·rw[if_pos e]
    right
    by_cases e2:b=s
    ·left
     rw[e,decide_eq_true e2,e2]
     exact ⟨rfl,List.mem_append.2 (.inr (List.mem_singleton.2 rfl))⟩
    right
    rw[e,decide_eq_false e2]
    rcases hb with hb|hb
    ·exact absurd hb e2
    exact ⟨rfl,hb⟩
   rw[if_neg e];exact hg r
 refine key (begP s) f h6 (fun r=> ?_)
 rcases h r with h|⟨h,hm⟩|h
 ·exact .inl h
 ·exact .inr (.inl ⟨h,List.mem_append.2 (.inl hm)⟩)
 exact .inr (.inr h)
structure Ris (R:List Ent):Prop where
 form: ∀e∈R,nmOk e.nm=true∧e.ln=false∧e.dt.size≤600
 rise:R.Pairwise (fun a b=>a.nm.data.toList<b.nm.data.toList)
 len:R.length≤20
theorem ris_of{R T:List Ent}(hm:Made T)(hl:T.length≤20)(hp:R.Perm T)(hs:R.Pairwise fun a b=> ¬b.nm.data.toList<a.nm.data.toList):Ris R:=by
 refine ⟨fun e he=> ?_, ?_,by rw[hp.length_eq];exact hl⟩
 ·obtain ⟨n,f,h1,h2,h3,h4,h5⟩:=hm.form e (hp.mem_iff.1 he)
  exact ⟨by rw[h3];exact nmOk_all h1 h2,h4,h5⟩
 have hd:R.Pairwise (fun a b=>a.nm≠b.nm):=(hp.pairwise_iff (fun {a b} h=>h.symm)).2 hm.apart
 refine (List.pairwise_and_iff.2 ⟨hs,hd⟩).imp (fun {a b} h=> ?_)
 by_cases h1:a.nm.data.toList<b.nm.data.toList
 ·exact h1
 exact absurd (less_total h1 h.1) h.2
theorem heads_ok: ∀(R:List Ent) (f:Tab) (N:List ByteArray) (all:Nat),(∀e∈R,nmOk e.nm=true∧e.ln=false∧e.dt.size≤600)→Inv f N→(∀r∈N,nmOk r=true)→(N++R.map (·.nm)).Pairwise (· ≠ ·)→all+600*R.length≤16000→headsGo (R.map plainIt) f all=0
 |[],_,_,_,_,_,_,_,_=>rfl
 |e::R,f,N,all,hf,hi,hN,hd,ha=>by
  obtain ⟨h1,_,h3⟩:=hf e (List.mem_cons_self ..)
  obtain ⟨g1,g2,g3,_,_,_⟩:=nmOk_facts h1
  have hd' :=hd
  rw[List.map_cons] at hd'
  obtain ⟨_,_,hx⟩:=List.pairwise_append.1 hd'
  have hsn:e.nm∉N:=fun hm=>hx e.nm hm e.nm (List.mem_cons_self ..) rfl
  rw[List.length_cons] at ha
  have hF:headF f all (plainIt e)=0:=by
   unfold headF
   rw[show (plainIt e).name=e.nm from rfl,show (plainIt e).size=e.dt.size from rfl,if_neg (by rw[g1];decide),if_neg (by rw[g2];decide),if_neg (by rw[hi.clash h1 hN hsn];decide),if_neg (by omega),if_neg (by omega)]
  rw[List.map_cons,headsGo,if_pos hF]
  refine heads_ok R (addP f e.nm) (N++[e.nm]) (all+e.dt.size) (fun x hx=>hf x (List.mem_cons_of_mem _ hx)) (hi.add h1) ?_ ?_ (by omega)
  ·intro r hr
   rcases List.mem_append.1 hr with hr|hr
   ·exact hN r hr
   rw[List.mem_singleton] at hr;rw[hr];exact h1
  rw[List.append_assoc];exact hd'
theorem datI_plain(e:Ent):datI (plainIt e)=(e.dt,0):=by
 have hu:unpI (plainIt e)=(e.dt,0):=by
  unfold unpI
  rw[if_pos (show (plainIt e).way=0 from rfl),if_pos (show (plainIt e).packed.size=(plainIt e).size from rfl)];rfl
 unfold datI
 rw[hu,if_neg (by simp),if_pos (show checkOf (e.dt,0).1=(plainIt e).check from rfl)]
theorem unpGo_plain: ∀(R:List Ent) (acc:List Fl),unpGo (R.map plainIt) acc=(acc++R.map (fun e=>(e.nm,e.dt)),0)
 |[],acc=>by simp[unpGo]
 |e::R,acc=>by
  rw[List.map_cons,unpGo,datI_plain,if_pos rfl,unpGo_plain R]
  simp[plainIt]
theorem locs_le(R:List Ent)(h: ∀e∈R,nmOk e.nm=true∧e.ln=false∧e.dt.size≤600):(locsL sPre (R.map plainIt)).length≤655*R.length:=by
 induction R with
 |nil=>simp[locsL]
 |cons e R ih=>
  have e1:locsL sPre ((e::R).map plainIt)=localL sPre (plainIt e)++locsL sPre (R.map plainIt):=by simp[locsL]
  have h1:=ih (fun x hx=>h x (List.mem_cons_of_mem _ hx))
  obtain ⟨g1,_,g3⟩:=h e (List.mem_cons_self ..)
  have g5:=(nmOk_facts g1).2.2.2.2.1
  rw[e1,List.length_append,plainIt,localL_len,List.length_cons]
  have:sPre.size=13:=by decide
  rw[this]
  show 30+(13+e.nm.size)+e.dt.size+_≤_
  omega
theorem Ris.laid{R:List Ent}(h:Ris R):(locsL sPre (R.map plainIt)).length≤13100∧(centsN sPre (R.map plainIt) R.length).length≤13420∧(laidL sPre (R.map plainIt)).length≤40000:=by
 have h1:=locs_le R h.form
 have h2:=cents_le sPre (R.map plainIt) (R.map plainIt).length (Nat.le_refl _)
 rw[List.take_length,List.length_map] at h2
 have h3:=laidL_len sPre (R.map plainIt)
 rw[List.length_map] at h3
 have:=h.len
 omega
theorem Ris.plain{R:List Ent}(h:Ris R):Plain sPre (R.map plainIt):=by
 refine ⟨fun i hi=> ?_, ?_,by rw[List.length_map];have:=h.len;omega,fun i hi=> ?_,h.laid.2.2⟩
 ·obtain ⟨e,he,rfl⟩:=List.mem_map.1 hi
  obtain ⟨g1,_,g3⟩:=h.form e he
  have g5:=(nmOk_facts g1).2.2.2.2.1
  exact ⟨.inl rfl,checkOf_lt _,by show e.dt.size<_;omega,by show e.dt.size<_;omega,by show 13+e.nm.size<_;omega⟩
 ·exact List.pairwise_map.2 h.rise
 obtain ⟨e,he,rfl⟩:=List.mem_map.1 hi
 exact ⟨rfl,rfl,rfl⟩
theorem Ris.unp{R:List Ent}(h:Ris R):unpP sPre (strB (laidL sPre (R.map plainIt)))=(R.map (fun e=>(e.nm,e.dt)),0):=by
 have hP:=h.plain
 unfold unpP
 rw[if_neg (by rw[strB_size];have:=h.laid;omega),readP_laid sPre _ hP.rd hP.rise hP.len (by decide)]
 have hd:(([]:List ByteArray)++R.map (fun e:Ent=>e.nm)).Pairwise (· ≠ ·):=by
  rw[List.nil_append]
  refine List.pairwise_map.2 (h.rise.imp (fun {a b} hab e=> ?_))
  rw[e] at hab
  exact List.lt_irrefl _ hab
 have hg:=heads_ok R (fun _=>none) [] 0 h.form Inv.nil (fun r hr=>by cases hr) hd (by have:=h.len;omega)
 show (if headsGo (R.map plainIt) (fun _=>none) 0=0 then unpGo (R.map plainIt) [] else ([],headsGo (R.map plainIt) (fun _=>none) 0))=_
 rw[hg,if_pos rfl,unpGo_plain,List.nil_append]
theorem madeNil(w:World):Calls Tryz.prog 32 #[.slice none 0 0] w fun r w' =>r=.returned (.string (strB (laidL sPre [])))∧Old w w' :=by
 have HO:=hide (Only.refl (fun _=>False) w)
 have M1:=hide (fun W=>numberK 0 4 (by omega) (by omega) W)
 have M2:=hide (fun W=>numberK 0 2 (by omega) (by omega) W)
 have y1:=numS_size 0 4
 have y2:=numS_size 0 2
 have HFIN:Hid (strB (laidL sPre [])=((((((⟨#[]⟩++⟨#[]⟩)++mkE)++numS 0 4)++numS 0 2)++numS 0 2)++numS 0 4)++numS 0 4++numS 0 2):=by unfold Hid;kernel_rfl
 generalize strB (laidL sPre [])=res at*
 generalize numS 0 4=b1 at*
 generalize numS 0 2=b2 at*
 go_in
 go_wp2_with fail
 go_loopw [3,4,5,6,7,8] (fun s c x _ _ _ wr=>x=.int .i64 0∧s=.string ⟨#[]⟩∧c=.string ⟨#[]⟩∧Hid (Old w wr)) (fun _ _ x _ _ _ _=>0)
 ·exact ⟨rfl,rfl,rfl,HO⟩
 obtain ⟨rfl,rfl,rfl,HO1⟩:=hrel
 clear HO
 have hm1:mkE.size=4:=by decide
 obtain ⟨e0,he0⟩: ∃e0,(⟨#[]⟩:ByteArray)=e0:=⟨_,rfl⟩
 have e0z:e0.size=0:=by rw[←he0];rfl
 rw[he0] at HFIN ⊢
 have hq0:¬9223372036854775807<e0.size+e0.size:=by omega
 have hq1:¬9223372036854775807<(e0++e0).size+4:=by (repeat rw[ByteArray.size_append]);omega
 have hq2:¬9223372036854775807<((e0++e0)++mkE).size+b1.size:=by (repeat rw[ByteArray.size_append]);omega
 have hq3:¬9223372036854775807<(((e0++e0)++mkE)++b1).size+b2.size:=by (repeat rw[ByteArray.size_append]);omega
 have hq4:¬9223372036854775807<((((e0++e0)++mkE)++b1)++b2).size+b2.size:=by (repeat rw[ByteArray.size_append]);omega
 have hq5:¬9223372036854775807<(((((e0++e0)++mkE)++b1)++b2)++b2).size+b1.size:=by (repeat rw[ByteArray.size_append]);omega
 have hq6:¬9223372036854775807<((((((e0++e0)++mkE)++b1)++b2)++b2)++b1).size+b1.size:=by (repeat rw[ByteArray.size_append]);omega
 have hq7:¬9223372036854775807<(((((((e0++e0)++mkE)++b1)++b2)++b2)++b1)++b1).size+b2.size:=by (repeat rw[ByteArray.size_append]);omega
 have e0I:(e0.size:Int)=0:=by omega
 clear he0 hm1
 go_wp2_with fail
 refine (uh M1 _).mono ?_
 rintro r v1 ⟨rfl,ho1⟩
 have HO2:=hide (Only.trans (uh HO1) ho1)
 clear ho1 HO1
 go_wp2_with fail
 refine (uh M2 _).mono ?_
 rintro r v2 ⟨rfl,ho2⟩
 have HO3:=hide (Only.trans (uh HO2) ho2)
 clear ho2 HO2
 go_wp2_with fail
 refine (uh M2 _).mono ?_
 rintro r v3 ⟨rfl,ho3⟩
 have HO4:=hide (Only.trans (uh HO3) ho3)
 clear ho3 HO3
 go_wp2_with fail
 refine (uh M1 _).mono ?_
 rintro r v4 ⟨rfl,ho4⟩
 have HO5:=hide (Only.trans (uh HO4) ho4)
 clear ho4 HO4
 go_wp2_with fail
 refine (uh M1 _).mono ?_
 rintro r v5 ⟨rfl,ho5⟩
 have HO6:=hide (Only.trans (uh HO5) ho5)
 clear ho5 HO5
 go_wp2_with fail
 refine (uh M2 _).mono ?_
 rintro r v6 ⟨rfl,ho6⟩
 have HO7:=hide (Only.trans (uh HO6) ho6)
 clear ho6 HO6
 go_wp2_with fail
 go_ret
 exact ⟨by rw[uh HFIN];rfl,HO7⟩
theorem madeE{w:World}{v:Value}{R:List Ent}(h:EntRow w v R)(hr:Ris R):Calls Tryz.prog 32 #[v] w fun r w' =>r=.returned (.string (strB (laidL sPre (R.map plainIt))))∧Old w w' :=by
 by_cases h0:0<R.length
 ·obtain ⟨g,cap,rfl,he⟩:=h.slice h0
  obtain ⟨h1,h2,_⟩:=hr.laid
  exact madeA g cap R (by have:=hr.len;omega) (fun e hh=>by
   obtain ⟨g1,_,g3⟩:=hr.form e hh
   have g5:=(nmOk_facts g1).2.2.2.2.1
   omega) (by omega) (by omega) w he
 have hR:R=[]:=List.length_eq_zero_iff.1 (by omega)
 subst hR
 obtain ⟨_,⟨rfl,_⟩|⟨g,cap,cur,rfl,_⟩⟩:=h
 ·exact madeNil w
 exact madeA g cap [] (by simp) (fun e hh=>by cases hh) (by simp[locsL]) (by simp[centsN]) w (fun i hi=>by simp at hi)
end Go.Proofs.YtndfmgdhiallpaaGreatDoor
