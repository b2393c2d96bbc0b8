import Derived.Test.YtndfmgdhiallpaaGreatDoorMf
import Derived.Test.YtndfmgdhiallpaaGreatDoorMi
import Derived.ScopeJumps
import Derived.WalkMore
set_option maxRecDepth 100000
set_option maxHeartbeats 4000000
namespace Go.Proofs.YtndfmgdhiallpaaGreatDoor
open Go.RowKit
section
variable {P:Program} {ops:Array Oper} {Q:Exit→Act→World→Prop} {md:Region.Mode} {S:World→Prop} {late:Nat→Bool}
def wpAnyG(P:Program)(md:Region.Mode)(ops:Array Oper)(Q:Exit→Act→World→Prop)(S:World→Prop)(late:Nat→Bool):Nat→Array Bool→Act→World→Prop
 |0,ls,a,w=>Region.ready md ops ls=[]∧Q .normal a w
 |n+1,ls,a,w=>(Region.ready md ops ls=[]→Q .normal a w)∧ ∀i∈Region.ready md ops ls,wpOp P ops Q i (fun a' w' =>(late i=false→S w')∧wpAnyG P md ops Q S late n (ls.setIfInBounds i true) a' w') a w
theorem any_of_late(n:Nat): ∀(ls:Array Bool) (a:Act) (w:World),wpAnyG P md ops Q S late n ls a w→wpAny P md ops Q n ls a w:=by
 induction n with
 |zero=>intro ls a w h;exact h
 |succ n ih=>intro ls a w h;exact ⟨h.1,fun i hi=>wpOp_mono (fun a' w' k=>ih _ a' w' k.2) (h.2 i hi)⟩
def lateWait(md:Region.Mode)(ops:Array Oper)(late:Nat→Bool)(ls:Array Bool)(f i:Nat):Bool:=(List.range ops.size).all fun j=> !late j||ls.getD j true||waitsT md ops (f+1) j i
theorem last_takeG{i f:Nat}{oi:Oper}{v:Value}(hi:ops[i]? =some oi)(hs:Region.noSelect ops=true)
 (hQ: ∀c a w,Q (.panic c) (a.put oi.dst v) w→Q (.panic c) a w)(n:Nat): ∀(ls:Array Bool) (a:Act) (w:World),(∀j,late j=true→ls.getD j true=false→j≠i→waitsT md ops (f+1) j i=true)→Closed md ops ls→
  (∀j oj,ops[j]? =some oj→j≠i→ls.getD j true=false→(∀e∈oj.after,Region.binds md e=true→e.on≠i)→oi.apart ops oj=true)→
  i∈Region.ready md ops ls→YieldsIf P ops S oi v a→S w→
  wpAnyG P md ops Q S late n (ls.setIfInBounds i true) (a.put oi.dst v) w→wpAnyG P md ops Q S late (n+1) ls a w:=by
 induction n with
 |zero=>
  intro ls a w _ _ _ hr hy hS H
  refine ⟨fun h=>absurd (h ▸ hr) List.not_mem_nil,fun j hj=> ?_⟩
  rcases Nat.decEq j i with hji|rfl
  ·exact absurd (H.1 ▸ ready_mono hj hji) List.not_mem_nil
  exact hy.wpOp hi hS ⟨fun _=>hS,H⟩
 |succ n ih=>
  intro ls a w hL hcl hfree hr hy hS H
  refine ⟨fun h=>absurd (h ▸ hr) List.not_mem_nil,fun j hj=> ?_⟩
  rcases Nat.decEq j i with hji|rfl
  ·obtain ⟨hun,oj,hoj,hall⟩:=mem_ready.1 hj
   have hi0:=(mem_ready.1 hr).1
   have hin:¬ls.getD i false=true:=by
    intro h1
    by_cases h' :i<ls.size
    ·simp[h'] at hi0 h1;rw[hi0] at h1;cases h1
    simp[Array.getElem?_eq_none (Nat.le_of_not_lt h')] at h1
   have hnot: ∀e∈oj.after,Region.binds md e=true→e.on≠i:=fun e he hb heq=>hin (by rw[←heq];exact hall e he hb)
   have hjL:late j=false:=by
    rcases hlj:late j with _|_
    ·rfl
    exfalso
    have hw2:=hL j hlj hun hji
    rw[waitsT,hoj] at hw2
    obtain ⟨e,he,h1⟩:=any_mem hw2
    simp only[Bool.and_eq_true,Bool.or_eq_true,beq_iff_eq] at h1
    have hd:=hall e he h1.1
    rcases h1.2 with h2|h2
    ·exact hnot e he h1.1 h2
    exact hin (waits_done hcl f e.on i hd h2)
   have h2:=wpOp_putIf hoj (hfree j oj hoj hji hun hnot) (fun cs b=>Region.noSelect_spec hs i oi cs b hi) (fun cs b=>Region.noSelect_spec hs j oj cs b hoj) hQ hy (H.2 j (ready_mono hj hji))
   refine wpOp_mono (fun a' w' h3=>⟨h3.2.1,ih (ls.setIfInBounds j true) a' w' ?_ (closed_set hcl hj) ?_ (ready_mono hr (Ne.symm hji)) h3.1 (h3.2.1 hjL) ?_⟩) h2
   ·intro k hk hu hki
    refine hL k hk ?_ hki
    by_cases hjk:j=k
    ·subst hjk;exact hun
    rw[getD_set_ne true hjk] at hu;exact hu
   ·intro k ok hk hki hu hno
    refine hfree k ok hk hki ?_ hno
    by_cases hjk:j=k
    ·subst hjk;exact hun
    rw[getD_set_ne true hjk] at hu;exact hu
   rw[Array.setIfInBounds_comm _ _ hji];exact h3.2.2
  exact hy.wpOp hi hS ⟨fun _=>hS,H⟩
theorem last_free{i:Nat}{oi:Oper}{v:Value}(hi:ops[i]? =some oi)(hs:Region.noSelect ops=true)(hli:late i=true)
 (hQ: ∀c a w,Q (.panic c) (a.put oi.dst v) w→Q (.panic c) a w)(n:Nat): ∀(ls:Array Bool) (a:Act) (w:World),
  (∀j oj,ops[j]? =some oj→j≠i→ls.getD j true=false→(∀e∈oj.after,Region.binds md e=true→e.on≠i)→oi.apart ops oj=true)→
  i∈Region.ready md ops ls→YieldsIf P ops (fun _=>True) oi v a→
  wpAnyG P md ops Q S late n (ls.setIfInBounds i true) (a.put oi.dst v) w→wpAnyG P md ops Q S late (n+1) ls a w:=by
 have hno: ∀{w:World},late i=false→S w:=fun h=>by rw[hli] at h;cases h
 induction n with
 |zero=>
  intro ls a w _ hr hy H
  refine ⟨fun h=>absurd (h ▸ hr) List.not_mem_nil,fun j hj=> ?_⟩
  rcases Nat.decEq j i with hji|rfl
  ·exact absurd (H.1 ▸ ready_mono hj hji) List.not_mem_nil
  exact hy.wpOp hi trivial ⟨hno,H⟩
 |succ n ih=>
  intro ls a w hfree hr hy H
  refine ⟨fun h=>absurd (h ▸ hr) List.not_mem_nil,fun j hj=> ?_⟩
  rcases Nat.decEq j i with hji|rfl
  ·obtain ⟨hun,oj,hoj,hall⟩:=mem_ready.1 hj
   have hi0:=(mem_ready.1 hr).1
   have hin:¬ls.getD i false=true:=by
    intro h1
    by_cases h' :i<ls.size
    ·simp[h'] at hi0 h1;rw[hi0] at h1;cases h1
    simp[Array.getElem?_eq_none (Nat.le_of_not_lt h')] at h1
   have hnot: ∀e∈oj.after,Region.binds md e=true→e.on≠i:=fun e he hb heq=>hin (by rw[←heq];exact hall e he hb)
   have h2:=wpOp_putIf hoj (hfree j oj hoj hji hun hnot) (fun cs b=>Region.noSelect_spec hs i oi cs b hi) (fun cs b=>Region.noSelect_spec hs j oj cs b hoj) hQ hy (H.2 j (ready_mono hj hji))
   refine wpOp_mono (fun a' w' h3=>⟨h3.2.1,ih (ls.setIfInBounds j true) a' w' ?_ (ready_mono hr (Ne.symm hji)) h3.1 ?_⟩) h2
   ·intro k ok hk hki hu hno
    refine hfree k ok hk hki ?_ hno
    by_cases hjk:j=k
    ·subst hjk;exact hun
    rw[getD_set_ne true hjk] at hu;exact hu
   rw[Array.setIfInBounds_comm _ _ hji];exact h3.2.2
  exact hy.wpOp hi trivial ⟨hno,H⟩
theorem late_of{ls:Array Bool}{f i:Nat}(h:lateWait md ops late ls f i=true)(hsz:ls.size=ops.size): ∀j,late j=true→ls.getD j true=false→j≠i→waitsT md ops (f+1) j i=true:=by
 intro j hj hl _
 have hjs:j<ops.size:=by
  rcases Nat.lt_or_ge j ops.size with h|h
  ·exact h
  rw[Array.getD_eq_getD_getElem?,Array.getElem?_eq_none (by omega)] at hl;cases hl
 have hw:=List.all_eq_true.1 h j (List.mem_range.2 hjs)
 rw[hj,hl] at hw
 simpa using hw
theorem wpAnyG_take{i f:Nat}{oi:Oper}{v:Value}{n:Nat}{ls:Array Bool}{a:Act}{w:World}(d:Option Tmp)(hi:ops[i]? =some oi)(hd:oi.dst=d)
 (hs:Region.noSelect ops=true)(hL:(lateWait md ops late ls f i&&decide (ls.size=ops.size))=true)(hcl:closedB md ops ls=true)(hf:Region.free md ops ls i=true)(hr:(Region.ready md ops ls).contains i=true)
 (hQ: ∀c a w,Q (.panic c) (a.put d v) w→Q (.panic c) a w)(hy:YieldsIf P ops S oi v a)(hS:S w)
 (h:wpAnyG P md ops Q S late n (ls.setIfInBounds i true) (a.put d v) w):wpAnyG P md ops Q S late (n+1) ls a w:=by
 subst hd
 simp only[Bool.and_eq_true,decide_eq_true_eq] at hL
 exact last_takeG hi hs hQ n ls a w (late_of hL.1 hL.2) (closed_of hcl) (Region.free_spec hi hf) (by simpa using hr) hy hS h
theorem wpAnyG_free{i:Nat}{oi:Oper}{v:Value}{n:Nat}{ls:Array Bool}{a:Act}{w:World}(d:Option Tmp)(hi:ops[i]? =some oi)(hd:oi.dst=d)
 (hs:Region.noSelect ops=true)(hli:late i=true)(hf:Region.free md ops ls i=true)(hr:(Region.ready md ops ls).contains i=true)
 (hQ: ∀c a w,Q (.panic c) (a.put d v) w→Q (.panic c) a w)(hy:YieldsIf P ops (fun _=>True) oi v a)
 (h:wpAnyG P md ops Q S late n (ls.setIfInBounds i true) (a.put d v) w):wpAnyG P md ops Q S late (n+1) ls a w:=by
 subst hd
 exact last_free hi hs hli hQ n ls a w (Region.free_spec hi hf) (by simpa using hr) hy h
theorem wpAnyG_one{i:Nat}{n:Nat}{ls:Array Bool}{a:Act}{w:World}(hr:Region.ready md ops ls=[i])
 (h:wpOp P ops Q i (fun a' w' =>(late i=false→S w')∧wpAnyG P md ops Q S late n (ls.setIfInBounds i true) a' w') a w):wpAnyG P md ops Q S late (n+1) ls a w:=by
 refine ⟨fun h0=> ?_,fun j hj=> ?_⟩
 ·rw[hr] at h0;cases h0
 rw[hr] at hj;cases List.mem_singleton.1 hj;exact h
theorem wpAnyG_two{i j:Nat}{n:Nat}{ls:Array Bool}{a:Act}{w:World}(hr:Region.ready md ops ls=[i,j])
 (h:wpOp P ops Q i (fun a' w' =>(late i=false→S w')∧wpAnyG P md ops Q S late n (ls.setIfInBounds i true) a' w') a w)
 (k:wpOp P ops Q j (fun a' w' =>(late j=false→S w')∧wpAnyG P md ops Q S late n (ls.setIfInBounds j true) a' w') a w):wpAnyG P md ops Q S late (n+1) ls a w:=by
 refine ⟨fun h0=> ?_,fun m hm=> ?_⟩
 ·rw[hr] at h0;cases h0
 rw[hr] at hm
 rcases List.mem_cons.1 hm with rfl|hm
 ·exact h
 cases List.mem_singleton.1 hm;exact k
theorem wpAnyG_done{ls:Array Bool}{a:Act}{w:World}(hr:Region.ready md ops ls=[])(h:Q .normal a w):wpAnyG P md ops Q S late 0 ls a w:=⟨hr,h⟩
theorem wp_region_late{id:Nat}{a:Act}{w:World}(hm:P.follows .mixedOrders=true)
 (h:wpAnyG P .any ops Q S late ops.size (Array.replicate ops.size false) a w.drew):(Code.region id ops true).wp P Q a w:=
 wp_region_any hm (any_of_late _ _ _ _ h)
end
theorem tg{P:Program}{ops:Array Oper}{Q:Exit→Act→World→Prop}{md:Region.Mode}{S:World→Prop}{late:Nat→Bool}(i f:Nat)(v:Value)(k:Nat){oi:Oper}{n:Nat}{ls:Array Bool}{a:Act}{w:World}{q:Prop}(hS:S w)(g:q)(hi:ops[i]? =some oi:=by rfl)(hd:oi.dst=some k:=by rfl)(hs:Region.noSelect ops=true:=by kernel_rfl)(hL:(lateWait md ops late ls f i&&decide (ls.size=ops.size))=true:=by kernel_rfl)(hcl:closedB md ops ls=true:=by kernel_rfl)(hf:Region.free md ops ls i=true:=by kernel_rfl)(hr:(Region.ready md ops ls).contains i=true:=by kernel_rfl)(hQ: ∀c a w,Q (.panic c) (a.put (some k) v) w→Q (.panic c) a w:=by exact fun _ _ _ h=>h)(hy:YieldsIf P ops S oi v a:=by exact .inl ⟨rfl,fun W hW=>by (repeat obtain ⟨_,hW⟩:=hW);go_simp⟩)(h:q→wpAnyG P md ops Q S late n (ls.setIfInBounds i true) (a.put (some k) v) w:=by intro g;simp only[Act.put,List.setIfInBounds_toArray,List.set_cons_zero,List.set_cons_succ];exact g):wpAnyG P md ops Q S late (n+1) ls a w:=
 wpAnyG_take (some k) hi hd hs hL hcl hf hr hQ hy hS (h g)
open Go.RowKit Go.Maps
theorem own_neU{w:World}{v:Value}{n:Nat}{xs:List Value}(h:w.ownsRow 0 5 1 v n xs){b:Nat}(hb:v.ownBlock=some b){g:Nat}{s:ByteArray}{a:Nat}{o:Value}(hr:Up w g s a o):b≠g:=by
 rintro rfl
 obtain ⟨cur,hg⟩:=own_heap h hb
 rw[hr] at hg
 injection hg with hg;injection hg with _ h2;exact absurd h2 (by decide)
def StU(w:World)(g:Nat)(S:Nat→Prop)(s:ByteArray)(a:Nat)(l:List UInt8):Prop:=
 ∃ao cap,Up w g s a (.slice ao l.length cap)∧w.ownsRow 0 5 1 (.slice ao l.length cap) l.length (byteCells8 l)∧ ∀b:Addr,ao=some b→S b.block
theorem StU.next{w w' :World}{g:Nat}{S:Nat→Prop}{s:ByteArray}{a a' :Nat}{l:List UInt8}{ao:Option Addr}{cap:Nat}(hr:Up w g s a (.slice ao l.length cap))
 (ho:w.ownsRow 0 5 1 (.slice ao l.length cap) l.length (byteCells8 l))(hs: ∀b:Addr,ao=some b→S b.block)(hO:Only (fun k=>k=g) w w')(hr' :Up w' g s a' (.slice ao l.length cap)):StU w' g S s a' l:=
 ⟨ao,cap,hr',own_kept ho hO (fun _ hb=>own_neU ho hb hr),hs⟩
theorem StU.push{w w1 w3:World}{g:Nat}{S:Nat→Prop}(hSg:S g){s:ByteArray}{a:Nat}{l:List UInt8}{ao:Option Addr}{cap g2 cap2 c H:Nat}(hc:c<256)(hF:S H)
 (hs: ∀b:Addr,ao=some b→S b.block)(h01:Only S w w1)(hup:Up w1 g s a (.slice ao l.length cap))(how:w1.ownsRow 0 5 1 (.slice ao l.length cap) l.length (byteCells8 l))
 (ho3:w3.ownsRow 0 5 1 (.slice (some ⟨g2,0,none⟩) (l.length+1) cap2) (l.length+1) (byteCells8 l++[.int .u8 (c:Int)]))(hg3:w1.grownBy w3 (Value.slice ao l.length cap).ownBlock)(hl3:(Value.slice ao l.length cap).ownBlock=some g2∨g2=H):
 Up w3 g s a (.slice ao l.length cap)∧Only S w (w3.setCell ⟨g,2,none⟩ (.slice (some ⟨g2,0,none⟩) (l.length+1) cap2))∧StU (w3.setCell ⟨g,2,none⟩ (.slice (some ⟨g2,0,none⟩) (l.length+1) cap2)) g S s a (l++[b8 c]):=by
 have hup3:Up w3 g s a (.slice ao l.length cap):=(hg3.block g hup.lt (fun hh=>own_neU how hh.symm hup rfl)).trans hup
 have hw4:Only S w w3:=h01.grown hg3 (fun k _ hk=>by
  cases ao with
  |none=>cases hk
  |some b=>injection hk with hk;subst hk;exact hs b rfl)
 have hl4:(l++[b8 c]).length=l.length+1:=by simp
 refine ⟨hup3,hw4.setCell (p:=⟨g,2,none⟩) (fun _=>hSg) _,some ⟨g2,0,none⟩,cap2, ?_, ?_, ?_⟩
 ·rw[hl4];exact hup3.set2 _
 ·have e2:byteCells8 (l++[b8 c])=byteCells8 l++[.int .u8 (c:Int)]:=by simp only[byteCells8,List.map_append,List.map_cons,List.map_nil];rw[b8_toNat hc]
  rw[hl4,e2]
  exact own_kept ho3 (only_set w3 g 2 _) (fun b hb=>own_neU ho3 hb hup3)
 intro b hb
 injection hb with hb
 subst hb
 rcases hl3 with h5|h5
 ·cases ao with
  |none=>cases h5
  |some b=>injection h5 with h5;rw[←h5];exact hs b rfl
 show S g2
 rw[h5];exact hF
theorem copyU(g:Nat)(S:Nat→Prop)(hSg:S g)(s:ByteArray)(a:Nat)(l:List UInt8)(n far:Nat)(hf1:1≤far)(hfl:far≤l.length)(hnl:l.length+n≤20000)(w:World)(hF:Fresh S w)(h:StU w g S s a l):
 Calls Tryz.prog 242 #[.pointer (some ⟨g,0,none⟩),.int .i64 n,.int .i64 far] w fun r w' =>r=.returned (.tuple #[])∧Only S w w' ∧StU w' g S s a (copyL l far n):=by
 obtain ⟨i0,hi0,hz0,hz1,hz2⟩:=info_parts infoB5
 have HST:=hide h
 clear h
 go_in
 go_wp2_with fail
 go_loopw [7] (fun i wr=> ∃j:Nat,j≤n∧i=.int .i64 j∧Hid (StU wr g S s a (copyL l far j))∧Hid (Only S w wr)) (fun i _=>n- (intOf i).toNat)
 ·exact ⟨0,by omega,rfl,HST,Only.refl _ w⟩
 obtain ⟨j,hj,rfl,HST,HO⟩:=hrel
 by_cases hjn:j<n
 ·have hjI:(j:Int)<(n:Int):=by omega
  obtain ⟨ao,cp,hr,how,hsa⟩:=uh HST
  have hc2:=hr.c2
  have hlj:=copyL_len l far j
  obtain ⟨b,cp',hvv,_,_⟩:=how.form (by omega)
  injection hvv with hv1 hv2 hv3
  subst hv1 hv3
  have HNX:Hid (copyL l far (j+1)=copyL l far j++[(copyL l far j).getD ((copyL l far j).length- far) 0]):=hide rfl
  have hce:=own_cell how (k:=(copyL l far j).length- far) (by omega)
  have hcb:=byte_lt ((copyL l far j).getD ((copyL l far j).length- far) 0)
  have HBE:=hide (b8_toNat' ((copyL l far j).getD ((copyL l far j).length- far) 0))
  have hlf:far≤(copyL l far j).length:=by omega
  have hl2:(copyL l far j).length≤20300:=by omega
  have HR:=hide hr
  have HOWN:=hide how
  have HSA:=hide hsa
  clear hlj hr how hsa HST hv2
  generalize copyL l far j=lj at*
  generalize lj.getD (lj.length- far) 0=cb at*
  generalize hcc:cb.toNat=c at*
  generalize hnl' :lj.length=nl at hc2 hce hlf hl2
  have HNL:=hide hnl'
  have HCC:=hide hcc
  clear hcc
  obtain ⟨kk,hkk⟩: ∃kk,kk=nl- far:=⟨_,rfl⟩
  rw[←hkk] at hce
  have hkI:(nl:Int)- (far:Int)=(kk:Int):=by omega
  have hk0:(0:Int)≤(kk:Int):=by omega
  have hk1:(kk:Int)<(nl:Int):=by omega
  have hkw:IntKind.i64.wrap (kk:Int)=(kk:Int):=i64_wrap_nat kk (by omega)
  clear hkk
  have HSW:wr.drew.cell? ⟨g,2,none⟩=some (.slice (some ⟨b,0,none⟩) nl cp)∧wr.drew.cell? ⟨b,kk,none⟩=some (.int .u8 c):=⟨hc2,hce⟩
  go_upto_region 2 with fail
  refine wp_region_late (S:=fun W=>W.cell? ⟨g,2,none⟩=some (.slice (some ⟨b,0,none⟩) nl cp)∧W.cell? ⟨b,kk,none⟩=some (.int .u8 c)) (late:=fun i=>i==0||decide (19≤i)) (by kernel_rfl) ?_
  refine wpAnyG_free (i:=0) (v:=.pointer (some ⟨g,0,none⟩)) (some 9) rfl rfl (by kernel_rfl) rfl (by kernel_rfl) (by kernel_rfl) (fun _ _ _ h=>h) (.inl ⟨rfl,fun W _=>by go_simp⟩) ?_
  simp only[Act.put,List.setIfInBounds_toArray,List.set_cons_zero,List.set_cons_succ]
  refine tg 1 22 (.pointer (some ⟨g,0,none⟩)) 10 HSW ?_
  refine tg 2 22 (.pointer (some ⟨g,0,none⟩)) 11 HSW ?_
  refine tg 3 22 (.pointer (some ⟨g,2,none⟩)) 12 HSW ?_
  refine tg 4 22 (.slice (some ⟨b,0,none⟩) nl cp) 13 HSW ?_
  refine tg 5 22 (.pointer (some ⟨g,0,none⟩)) 14 HSW ?_
  refine tg 6 22 (.pointer (some ⟨g,0,none⟩)) 15 HSW ?_
  refine tg 7 22 (.pointer (some ⟨g,2,none⟩)) 16 HSW ?_
  refine tg 8 22 (.slice (some ⟨b,0,none⟩) nl cp) 17 HSW ?_
  refine tg 9 22 (.pointer (some ⟨g,0,none⟩)) 18 HSW ?_
  refine tg 10 22 (.pointer (some ⟨g,0,none⟩)) 19 HSW ?_
  refine tg 11 22 (.pointer (some ⟨g,2,none⟩)) 20 HSW ?_
  refine tg 12 22 (.slice (some ⟨b,0,none⟩) nl cp) 21 HSW ?_
  refine tg 13 22 (.int .i64 nl) 22 HSW ?_
  refine tg 14 22 (.int .i64 far) 23 HSW ?_
  refine tg 15 22 (.int .i64 kk) 24 HSW ?_
  refine tg 16 22 (.pointer (some ⟨b,kk,none⟩)) 25 HSW ?_
  refine tg 17 22 (.int .u8 c) 26 HSW ?_
  have hA:Only (fun _=>False) wr (wr.drew.alloc (.cells #[.int .u8 (c:Int)] 5)):=(Only.refl (fun _=>False) wr).drew.alloc _
  have HUP1:=hide ((uh HR).kept hA (fun x=>x))
  have HOW1:=hide (own_old (uh HOWN) hA)
  have HNW:=hide (byte_new5 (wr:=wr.drew) (n:=c))
  have hS1:(wr.drew.alloc (.cells #[.int .u8 (c:Int)] 5)).cell? ⟨g,2,none⟩=some (.slice (some ⟨b,0,none⟩) nl cp)∧(wr.drew.alloc (.cells #[.int .u8 (c:Int)] 5)).cell? ⟨b,kk,none⟩=some (.int .u8 c):=⟨(hA.cell (p:=⟨g,2,none⟩) (uh HR).lt (fun x=>x)).trans hc2,(hA.cell (p:=⟨b,kk,none⟩) (cell_lt hce) (fun x=>x)).trans hce⟩
  have HO1:=hide ((uh HO).trans (Only.oldS (S:=S) hA))
  refine wpAnyG_one (i:=18) (by kernel_rfl) ?_
  refine wpOp_step rfl (fun K' hK=> ?_)
  go_simp
  refine hK _ _ ⟨fun _=>hS1, ?_⟩
  clear hK
  refine wpAnyG_one (i:=19) (by kernel_rfl) ?_
  have hnlv:=uh HNL
  have how1:=uh HOW1
  rw[hnlv] at how1
  refine op_plain rfl rfl (wp_append_lies _ (.tmp 13) (.tmp 27) 62 rfl 0 5 i0 (.int .u8 0) 1 1 Tryz.underlying62 hi0 hz0 hz1 hz2 rfl (by omega) (.slice (some ⟨b,0,none⟩) nl cp) nl _ rfl how1 ⟨wr.heap.size,0,none⟩ 1 1 [.int .u8 (c:Int)] rfl rfl (uh HNW) (by intro u hu;simp at hu;subst hu;rfl) (by omega) (by unfold maxLen;omega) (by omega) (by omega) _ rfl ?_)
  intro g2 cap2 w3 ho3 hg3 hl3 hlt3
  have hup1:=uh HUP1
  obtain ⟨hup3,hO5,hst5⟩:=StU.push (w:=w) (w1:=wr.drew.alloc (.cells #[.int .u8 (c:Int)] 5)) (w3:=w3) (S:=S) hSg (l:=lj) (ao:=some ⟨b,0,none⟩) (cap:=cp) (g2:=g2) (cap2:=cap2) (c:=c) hcb (hF _ (by have:=(uh HO1).size;exact this)) (uh HSA) (uh HO1) hup1 (uh HOW1) (by rw[hnlv];exact ho3) (by rw[hnlv];exact hg3) (by rw[hnlv];exact hl3)
  have hc23:=hup3.c2
  have hf23:=hup3.thaw 2
  rw[hnlv] at hc23 hO5 hst5
  refine ⟨(fun h=>by cases h), ?_⟩
  clear ho3 hg3 hl3 hup1 how1
  simp only[Act.put,List.setIfInBounds_toArray]
  refine wpAnyG_one (i:=20) (by kernel_rfl) ?_
  refine wpOp_step rfl (fun K' hK=> ?_)
  go_simp
  refine hK _ _ ⟨(fun h=>by cases h), ?_⟩
  clear hK
  refine wpAnyG_one (i:=21) (by kernel_rfl) ?_
  refine wpOp_step rfl (fun K' hK=> ?_)
  go_simp
  refine hK _ _ ⟨(fun h=>by cases h), ?_⟩
  clear hK
  refine wpAnyG_one (i:=22) (by kernel_rfl) ?_
  refine wpOp_step rfl (fun K' hK=> ?_)
  go_simp
  refine hK _ _ ⟨(fun h=>by cases h), ?_⟩
  clear hK
  refine wpAnyG_done (by kernel_rfl) ?_
  have HO5:=hide hO5
  have HST5:Hid (StU (w3.setCell ⟨g,2,none⟩ (.slice (some ⟨g2,0,none⟩) (nl+1) cap2)) g S s a (copyL l far (j+1))):=by
   have:=hst5
   rw[uh HBE,←uh HNX] at this
   exact this
  clear hO5 hst5 hup3 hc23 hf23
  go_wp2_with fail
  go_roundw
  ·exact ⟨j+1,by omega,by go_num,HST5,HO5⟩
  case measure=>simp[intOf];omega
 have hjI:¬(j:Int)<(n:Int):=by omega
 have hje:j=n:=by omega
 subst hje
 go_wp2_with fail
 go_end0
 exact ⟨rfl,HO,HST⟩
theorem copy_dist{s:ByteArray}{D:List Nat}{y a1:Nat}(l:List UInt8)(h:¬8*s.size<a1+lenBits y):copyS s D y a1 l=match distS s D (a1+lenBits y) with
 |none=> .inl (.inr 2)
 |some (f,a3)=>if l.length<f then .inl (.inr 2) else if 20000<l.length+(lenBase y+numAt s a1 (lenBits y)) then .inl (.inr 1) else .inr (a3,(copyL l f (lenBase y+numAt s a1 (lenBits y)))):=by
 unfold copyS distS
 rw[if_neg h]
 cases hd:dec s D (a1+lenBits y) with
 |none=>rfl
 |some p=>
  obtain ⟨d,a3⟩:=p
  show (if 29<d then _ else _)=_
  by_cases h1:29<d
  ·rw[if_pos h1];simp only[h1,if_true]
  rw[if_neg h1]
  by_cases h2:8*s.size<a3+dstBits d
  ·rw[if_pos h2];simp only[h1,h2,if_true,if_false]
  rw[if_neg h2];simp only[h1,h2,if_false]
theorem distS_lt{s:ByteArray}{D:List Nat}{a f a' :Nat}(h:distS s D a=some (f,a')):a<a' ∧a' ≤8*s.size∧1≤f:=by
 unfold distS at h
 split at h
 ·cases h
 rename_i d a3 hd
 have:=dec_lt hd
 split at h
 ·cases h
 split at h
 ·cases h
 injection h with h;injection h with h1 h2
 have:=dstBase_pos d
 omega
theorem StU.mono1{w:World}{g:Nat}{S S' :Nat→Prop}{s:ByteArray}{a:Nat}{l:List UInt8}(h:StU w g S s a l)(hs: ∀k,S k→S' k):StU w g S' s a l:=by
 obtain ⟨ao,cap,hr,how,hsa⟩:=h
 exact ⟨ao,cap,hr,how,fun b hb=>hs _ (hsa b hb)⟩
def SymU(s:ByteArray)(r:Res)(w:World)(g:Nat)(S:Nat→Prop)(e:Nat):Prop:=(∃a l,r=.inl (a,l)∧e=0∧a≤8*s.size∧l.length≤20000∧StU w g S s a l)∨(r=.inr e∧e≠0)
theorem symbolsU(g:Nat)(S:Nat→Prop)(hSg:S g)(s:ByteArray)(hs:s.size≤140737488355328)(a:Nat)(l:List UInt8)(hl:l.length≤20000)(ha:a≤8*s.size)
 (gL gD:Nat)(K:Nat→Prop)(hKS: ∀k,K k→¬S k)(L D:List Nat)(hL:L.length≤400)(hD:D.length≤400)(w:World)(hF:Fresh S w)(h:StU w g S s a l)(hIL:SetAt w gL K L)(hID:SetAt w gD K D):
 Calls Tryz.prog 147 #[.pointer (some ⟨g,0,none⟩),.agg #[.pointer (some ⟨gL,0,none⟩),.pointer (some ⟨gD,0,none⟩)]] w fun r w' =>
  Only S w w' ∧ ∃e:Nat,r=.returned (.int .i64 e)∧SymU s (symS s L D a l) w' g S e:=by
 obtain ⟨i0,hi0,hz0,hz1,hz2⟩:=info_parts infoB5
 have hKw: ∀k,K k→k<w.heap.size:=fun k hk=>by
  rcases Nat.lt_or_ge k w.heap.size with h|h
  ·exact h
  exact absurd (hF k h) (hKS k hk)
 have hgl:g<w.heap.size:=by obtain ⟨_,_,hr,_⟩:=h;exact hr.lt
 have hA:Only (fun _=>False) w (w.alloc (.cells #[.pointer (some ⟨gL,0,none⟩),.pointer (some ⟨gD,0,none⟩)] 112)):=(Only.refl _ w).alloc _
 have HST0:Hid (StU (w.alloc (.cells #[.pointer (some ⟨gL,0,none⟩),.pointer (some ⟨gD,0,none⟩)] 112)) g (fun k=>S k∧k≠w.heap.size) s a l):=by
  obtain ⟨ao,cp,hr,how,hsa⟩:=h
  refine ⟨ao,cp,hr.kept hA (fun x=>x),own_old how hA,fun b hb=>⟨hsa b hb, ?_⟩⟩
  obtain ⟨cur,hg⟩:=own_heap how (b:=b.block) (by rw[hb];rfl)
  have:=(Array.getElem?_eq_some_iff.1 hg).1
  omega
 have HIL0:=hide (hIL.old hA)
 have HID0:=hide (hID.old hA)
 have HBX0:Hid ((w.alloc (.cells #[.pointer (some ⟨gL,0,none⟩),.pointer (some ⟨gD,0,none⟩)] 112)).heap[w.heap.size]? =some (.cells #[.pointer (some ⟨gL,0,none⟩),.pointer (some ⟨gD,0,none⟩)] 112 (0,0))):=Go.heap_alloc_new w _
 have hS1g:S g∧g≠w.heap.size:=⟨hSg,by omega⟩
 have hK1: ∀k,K k→¬(S k∧k≠w.heap.size):=fun k hk h1=>hKS k hk h1.1
 clear h hIL hID hA
 go_in
 go_wp2_with fail
 refine wp_scope_jumps 0 (fun a' w' =>a'.tmps.size=72∧a'.defers=[]∧Only S w w' ∧symS s L D a l=.inr 2) (fun _ _=>0) rfl ?_ ?_
 case refine_2=>
  rintro ⟨tm,df⟩ w' ⟨hsz,hdf,hO,hbad⟩
  simp only at hsz hdf
  subst hdf
  go_wp2_with fail
  simp only[Exit.jump]
  refine bodyPost_ret (v:=.int .i64 2) ?_ rfl ⟨hO,2,rfl,.inr ⟨hbad,by omega⟩⟩
  have e:=results_tmp Tryz.results147 (tm.setIfInBounds 4 (.int .i64 2)) Tryz.prog w'
  have e2:(tm.setIfInBounds 4 (Value.int .i64 2)).getD 4 undef=.int .i64 2:=by simp[hsz]
  rw[e2] at e
  exact e
 go_wp2_with fail
 go_loopw [5,6,7,8] (fun _ _ _ _ wr=> ∃a' l',Hid (StU wr g (fun k=>S k∧k≠w.heap.size) s a' l' ∧a' ≤8*s.size∧l'.length≤20000∧symS s L D a l=symS s L D a' l')∧Hid (SetAt wr gL K L)∧Hid (SetAt wr gD K D)∧
  Hid (wr.heap[w.heap.size]? =some (.cells #[.pointer (some ⟨gL,0,none⟩),.pointer (some ⟨gD,0,none⟩)] 112 (0,0)))∧Hid (Only S w wr)) (fun _ _ _ _ wr=>8*s.size+1- cellN wr g 1)
 ·exact ⟨a,l,⟨HST0,ha,hl,rfl⟩,HIL0,HID0,HBX0,(Only.refl _ w).alloc _⟩
 obtain ⟨a',l',HI,HIL,HID,HBX,HO⟩:=hrel
 obtain ⟨hst,ha',hl',heq⟩:=uh HI
 obtain ⟨ao,cp,hr,how,hsa⟩:=hst
 have hws:=(uh HO).size
 have hbx0:wr.cell? ⟨w.heap.size,0,none⟩=some (.pointer (some ⟨gL,0,none⟩)):=by rw[cell_of_row _ _ 0 _ _ (0,0) (uh HBX)];rfl
 have HM:=hide (cellN_of hr.c1)
 have HEQ:=hide heq
 have HR:=hide hr
 have HOWN:=hide how
 have HSA:=hide hsa
 have HSC:=hide (symbolC g s hs a' (.slice ao l'.length cp) ha' gL K (fun hk=>hKS g hk hSg) L hL wr.drew (fun k hk=>Nat.lt_of_lt_of_le (hKw k hk) hws) hr (uh HIL))
 clear hr how hsa heq HI
 have HSW:wr.drew.cell? ⟨w.heap.size,0,none⟩=some (.pointer (some ⟨gL,0,none⟩)):=hbx0
 go_upto_region 3 with fail
 refine wp_region_late (S:=fun W=>W.cell? ⟨w.heap.size,0,none⟩=some (.pointer (some ⟨gL,0,none⟩))) (late:=fun i=>decide (5≤i)) (by kernel_rfl) ?_
 refine tg 0 10 (.pointer (some ⟨g,0,none⟩)) 10 HSW ?_
 refine tg 1 10 (.pointer (some ⟨g,0,none⟩)) 11 HSW ?_
 refine tg 2 10 (.pointer (some ⟨g,0,none⟩)) 12 HSW ?_
 refine tg 3 10 (.pointer (some ⟨w.heap.size,0,none⟩)) 13 HSW ?_
 refine tg 4 10 (.pointer (some ⟨gL,0,none⟩)) 14 HSW ?_
 refine wpAnyG_one (i:=5) (by kernel_rfl) ?_
 refine wpOp_step rfl (fun K' hK=> ?_)
 go_simp
 refine (uh HSC).mono ?_
 rintro r w1 ⟨ho1,a1,ha1,hup1,hcs⟩
 have hO1:Only (fun k=>k=g) wr w1:=(Only.refl (fun k=>k=g) wr).drew.trans ho1
 have HO1:=hide ((uh HO).trans (hO1.of_g hSg))
 have HIL1:=hide ((uh HIL).kept hO1 (fun k hk e=>hKS k hk (e ▸ hSg)))
 have HID1:=hide ((uh HID).kept hO1 (fun k hk e=>hKS k hk (e ▸ hSg)))
 have HBX1:Hid (w1.heap[w.heap.size]? =some (.cells #[.pointer (some ⟨gL,0,none⟩),.pointer (some ⟨gD,0,none⟩)] 112 (0,0))):=(hO1.block w.heap.size (Array.getElem?_eq_some_iff.1 (uh HBX)).1 (by omega)).trans (uh HBX)
 have HST1:=hide (StU.next (S:=fun k=>S k∧k≠w.heap.size) (uh HR) (uh HOWN) (uh HSA) hO1 hup1)
 have hws1:=(uh HO1).size
 rcases hcs with ⟨y,hd,rfl⟩|⟨hd,rfl⟩
 ·refine hK _ _ ⟨(fun h=>by cases h), ?_⟩
  clear hK
  refine wpAnyG_one (i:=6) (by kernel_rfl) ?_
  refine wpOp_step rfl (fun K' hK=> ?_)
  go_simp
  refine hK _ _ ⟨(fun h=>by cases h), ?_⟩
  clear hK
  refine wpAnyG_free (i:=7) (v:=.int .i64 (y:Nat)) (some 16) rfl rfl (by kernel_rfl) rfl (by kernel_rfl) (by kernel_rfl) (fun _ _ _ h=>h) (.inl ⟨rfl,fun W _=>by go_simp⟩) ?_
  simp only[Act.put,List.setIfInBounds_toArray,List.set_cons_zero,List.set_cons_succ]
  refine wpAnyG_free (i:=8) (v:=.bool true) (some 17) rfl rfl (by kernel_rfl) rfl (by kernel_rfl) (by kernel_rfl) (fun _ _ _ h=>h) (.inl ⟨rfl,fun W _=>by go_simp⟩) ?_
  simp only[Act.put,List.setIfInBounds_toArray,List.set_cons_zero,List.set_cons_succ]
  refine wpAnyG_one (i:=9) (by kernel_rfl) ?_
  refine wpOp_step rfl (fun K' hK=> ?_)
  go_simp
  refine hK _ _ ⟨(fun h=>by cases h), ?_⟩
  clear hK
  refine wpAnyG_one (i:=10) (by kernel_rfl) ?_
  refine wpOp_step rfl (fun K' hK=> ?_)
  go_simp
  refine hK _ _ ⟨(fun h=>by cases h), ?_⟩
  clear hK
  refine wpAnyG_done (by kernel_rfl) ?_
  have HDE:=hide hd
  have hy400:y≤400:=by have:=(dec_lt hd).2.2;omega
  have hlt1:=(dec_lt hd).1
  have HUP1:=hide hup1
  clear hd hup1 ho1 hO1 HSC HR HOWN HSA hbx0 HSW
  by_cases hy:y=256
  ·subst hy
   go_wp2_with fail
   simp only[Exit.jump]
   go_ret
   exact ⟨HO1,0,rfl,.inl ⟨a1,l',by rw[uh HEQ];exact sym_fin (step_end (uh HDE)),rfl,ha1,hl',(uh HST1).mono1 (fun k h=>h.1)⟩⟩
  have hyb:((y:Int)==256)=false:=by rw[beq_eq_false_iff_ne];omega
  by_cases hy1:y<256
  ·have hyI:(y:Int)<256:=by omega
   have HSB:=hide (step_byte (D:=D) (l:=l') (uh HDE) hy1)
   obtain ⟨ao1,cp1,hr1,how1,hsa1⟩:=uh HST1
   have HRM:=hide (roomC g s a1 ao1 l'.length cp1 1 hl' w1 hr1)
   by_cases hroom:l'.length<20000
   ·rw[decide_eq_true (show l'.length+1≤20000 by omega)] at HRM
    rw[if_neg (by omega)] at HSB
    have hc2:=hr1.c2
    have hA1:Only (fun _=>False) w1 (w1.alloc (.cells #[.int .u8 (y:Int)] 5)):=(Only.refl (fun _=>False) w1).alloc _
    have HUPA:=hide (hr1.kept hA1 (fun x=>x))
    have HOWA:=hide (own_old how1 hA1)
    have HSA1:=hide hsa1
    have HNW:=hide (byte_new5 (wr:=w1) (n:=y))
    have HPU:=hide (fun w3 g2 cap2 h1 h2 h3=>StU.push (w:=w1) (w1:=w1.alloc (.cells #[.int .u8 (y:Int)] 5)) (w3:=w3) (g:=g) (S:=fun k=>S k∧k≠w.heap.size) hS1g (s:=s) (a:=a1) (l:=l') (ao:=ao1) (cap:=cp1) (g2:=g2) (cap2:=cap2) (c:=y) (H:=w1.heap.size+1) hy1 ⟨hF _ (by omega),by omega⟩ hsa1 (Only.oldS hA1) (uh HUPA) (uh HOWA) h1 h2 h3)
    clear hr1 how1 hsa1 hA1
    go_wp2_with (first
     |(go_at_call 237;refine (uh HRM).mono ?_;rintro r w2 ⟨rfl,rfl⟩)
     |(at_builtin;refine wpList_append_lies _ rfl (.tmp 31) (.tmp 34) 62 rfl 0 5 i0 (.int .u8 0) 1 1 Tryz.underlying62 hi0 hz0 hz1 hz2 rfl (by omega) (.slice ao1 l'.length cp1) l'.length _ rfl (uh HOWA) ⟨_,0,none⟩ 1 1 [.int .u8 (y:Int)] rfl rfl (uh HNW) (by intro u hu;simp at hu;subst hu;rfl) (by omega) (by unfold maxLen;omega) (by omega) (by omega) _ (by simp;rfl) ?_;intro g2 cap2 w3 ho3 hg3 hl3 hlt3;have hpu:=uh HPU w3 g2 cap2 ho3 hg3 hl3;have hcc:=hpu.1.c2;have hff:=hpu.1.thaw 2;have HP:=hide hpu;clear ho3 hg3 hl3 hpu))
    go_roundw
    ·exact ⟨_,_,⟨(uh HP).2.2,ha1,(by simp;omega),by rw[uh HEQ];exact sym_go (uh HSB)⟩,(uh HIL1).kept (uh HP).2.1 hK1,(uh HID1).kept (uh HP).2.1 hK1,((uh HP).2.1.block w.heap.size (Array.getElem?_eq_some_iff.1 (uh HBX1)).1 (fun h=>h.2 rfl)).trans (uh HBX1),(uh HO1).trans ((uh HP).2.1.mono (fun _ _ h=>h.1))⟩
    obtain ⟨ao9,cp9,hr9,_⟩:=(uh HP).2.2
    rw[uh HM,cellN_of hr9.c1];omega
   rw[decide_eq_false (show ¬l'.length+1≤20000 by omega)] at HRM
   rw[if_pos (by omega)] at HSB
   clear hr1 how1 hsa1
   go_wp2_with (go_at_call 237;refine (uh HRM).mono ?_;rintro r w2 ⟨rfl,rfl⟩)
   simp only[Exit.jump]
   go_ret
   exact ⟨HO1,1,rfl,.inr ⟨by rw[uh HEQ];exact sym_fin (uh HSB),by omega⟩⟩
  have hyI:¬(y:Int)<256:=by omega
  obtain ⟨ao1,cp1,hr1,how1,hsa1⟩:=uh HST1
  have HLN:=hide (lengthU g s hs a1 (.slice ao1 l'.length cp1) y ha1 w1 hr1)
  have HR1:=hide hr1
  have HOW1:=hide how1
  have HSA1:=hide hsa1
  clear hr1 how1 hsa1
  go_wp2_with fail
  refine (uh HLN).mono ?_
  rintro r w2 ⟨ho2,a2,ha2,hup2,hcs2⟩
  have HO2:=hide ((uh HO1).trans (ho2.of_g hSg))
  rcases hcs2 with ⟨k1,k2,k3,k4,rfl⟩|⟨k1,n0,rfl⟩
  ·have HCD:=hide (copy_dist (s:=s) (D:=D) (y:=y) (a1:=a1) l' (by omega))
   have hb5:2^lenBits y≤2^5:=Nat.pow_le_pow_right (by omega) (by unfold lenBits;repeat (first|split|omega))
   have hnl:=numAt_lt s a1 (lenBits y)
   have hlb:=lenBase_le k2
   have hnn:lenBase y+numAt s a1 (lenBits y)≤300:=by omega
   have hle12:a1≤a2:=by omega
   rw[←k4] at HCD
   generalize lenBase y+numAt s a1 (lenBits y)=nn at*
   have HSC2:=hide (step_copy (D:=D) (l:=l') (uh HDE) (by omega) k2)
   have hws2:=(uh HO2).size
   have hID2:=(uh HID1).kept ho2 (fun k hk e=>hKS k hk (e ▸ hSg))
   have hIL2:=(uh HIL1).kept ho2 (fun k hk e=>hKS k hk (e ▸ hSg))
   have hbx2:w2.heap[w.heap.size]? =some (.cells #[.pointer (some ⟨gL,0,none⟩),.pointer (some ⟨gD,0,none⟩)] 112 (0,0)):=(ho2.block w.heap.size (Array.getElem?_eq_some_iff.1 (uh HBX1)).1 (by omega)).trans (uh HBX1)
   have hbc:w2.cell? ⟨w.heap.size,1,none⟩=some (.pointer (some ⟨gD,0,none⟩)):=by rw[cell_of_row _ _ 1 _ _ (0,0) hbx2];rfl
   have HDI:=hide (distanceU g s hs a2 (.slice ao1 l'.length cp1) ha2 gD K (fun hk=>hKS g hk hSg) D hD w2 (fun k hk=>Nat.lt_of_lt_of_le (hKw k hk) hws2) hup2 hID2)
   have HOg:=hide ho2
   have HID2:=hide hID2
   have HIL2:=hide hIL2
   have HBX2:=hide hbx2
   clear ho2 hup2 hID2 hIL2 hbx2 HLN hlb hnl hb5 k3 k4
   go_wp2_with fail
   refine (uh HDI).mono ?_
   rintro r w3 ⟨ho3,a3,ha3,hup3,hcs3⟩
   have HO3:=hide ((uh HO2).trans (ho3.of_g hSg))
   rcases hcs3 with ⟨f,hf9,hd3,rfl⟩|⟨hd3,n1,rfl⟩
   ·have hlt3:=distS_lt hd3
    rw[hd3] at HCD
    have HST3:=hide (StU.next (S:=fun k=>S k∧k≠w.heap.size) (uh HR1) (uh HOW1) (uh HSA1) ((uh HOg).trans ho3) hup3)
    have hc23:=hup3.c2
    have HRM:=hide (roomC g s a3 ao1 l'.length cp1 nn hl' w3 hup3)
    have HIL1:=hide ((uh HIL2).kept ho3 (fun k hk e=>hKS k hk (e ▸ hSg)))
    have HID1:=hide ((uh HID2).kept ho3 (fun k hk e=>hKS k hk (e ▸ hSg)))
    have HBX1:Hid (w3.heap[w.heap.size]? =some (.cells #[.pointer (some ⟨gL,0,none⟩),.pointer (some ⟨gD,0,none⟩)] 112 (0,0))):=(ho3.block w.heap.size (Array.getElem?_eq_some_iff.1 (uh HBX2)).1 (by omega)).trans (uh HBX2)
    have HO1:=HO3
    clear hup3 ho3 hd3 HDI
    by_cases hfar:l'.length<f
    ·have hfI:(l'.length:Int)<(f:Int):=by omega
     simp only[hfar,if_true] at HCD
     go_wp2_with fail
     go_step3
     try simp only[Exit.jump]
     exact ⟨rfl,rfl,rfl,HO1,by rw[uh HEQ];exact sym_fin ((uh HSC2).trans (uh HCD))⟩
    have hfI:¬(l'.length:Int)<(f:Int):=by omega
    simp only[hfar,if_false] at HCD
    by_cases hbig:20000<l'.length+nn
    ·simp only[hbig,if_true] at HCD
     rw[decide_eq_false (show ¬l'.length+nn≤20000 by omega)] at HRM
     go_wp2_with (go_at_call 237;refine (uh HRM).mono ?_;rintro r w4 ⟨rfl,rfl⟩)
     simp only[Exit.jump]
     go_ret
     exact ⟨HO1,1,rfl,.inr ⟨by rw[uh HEQ];exact sym_fin ((uh HSC2).trans (uh HCD)),by omega⟩⟩
    simp only[hbig,if_false] at HCD
    rw[decide_eq_true (show l'.length+nn≤20000 by omega)] at HRM
    have HCP:=hide (copyU g (fun k=>S k∧k≠w.heap.size) hS1g s a3 l' nn f hlt3.2.2 (by omega) (by omega) w3 (fun k hk=>⟨hF k (by have:=(uh HO1).size;omega),by have:=(Array.getElem?_eq_some_iff.1 (uh HBX1)).1;omega⟩) (uh HST3))
    go_wp2_with (first
     |(go_at_call 237;refine (uh HRM).mono ?_;rintro r w4 ⟨rfl,rfl⟩)
     |(go_at_call 242;refine (uh HCP).mono ?_;rintro r w5 ⟨rfl,ho5,hst5⟩;have HP5:=hide ho5;have HS5:=hide hst5;clear ho5 hst5))
    go_roundw
    ·exact ⟨_,_,⟨(uh HS5),ha3,(by rw[copyL_len];omega),by rw[uh HEQ];exact sym_go ((uh HSC2).trans (uh HCD))⟩,(uh HIL1).kept (uh HP5) hK1,(uh HID1).kept (uh HP5) hK1,((uh HP5).block w.heap.size (Array.getElem?_eq_some_iff.1 (uh HBX1)).1 (fun h=>h.2 rfl)).trans (uh HBX1),(uh HO1).trans ((uh HP5).mono (fun _ _ h=>h.1))⟩
    obtain ⟨ao9,cp9,hr9,_⟩:=(uh HS5)
    rw[uh HM,cellN_of hr9.c1];omega
   rw[hd3] at HCD
   have HO1:=HO3
   clear hup3 ho3 hd3 HDI
   go_wp2_with fail
   go_step3
   try simp only[Exit.jump]
   exact ⟨rfl,rfl,rfl,HO1,by rw[uh HEQ];exact sym_fin ((uh HSC2).trans (uh HCD))⟩
  have HBD:Hid (stepS s L D a' l' =.inl (.inr 2)):=by
   by_cases h285:285<y
   ·exact step_high (uh HDE) h285
   refine (step_copy (uh HDE) (by omega) (by omega)).trans ?_
   unfold copyS
   rw[if_pos (by omega)]
  have HOZ:=HO2
  clear hup2 ho2 HLN
  go_wp2_with fail
  go_step3
  try simp only[Exit.jump]
  exact ⟨rfl,rfl,rfl,HOZ,by rw[uh HEQ];exact sym_fin (uh HBD)⟩
 refine hK _ _ ⟨(fun h=>by cases h), ?_⟩
 clear hK
 refine wpAnyG_one (i:=6) (by kernel_rfl) ?_
 refine wpOp_step rfl (fun K' hK=> ?_)
 go_simp
 refine hK _ _ ⟨(fun h=>by cases h), ?_⟩
 clear hK
 refine wpAnyG_free (i:=7) (v:=.int .i64 0) (some 16) rfl rfl (by kernel_rfl) rfl (by kernel_rfl) (by kernel_rfl) (fun _ _ _ h=>h) (.inl ⟨rfl,fun W _=>by go_simp⟩) ?_
 simp only[Act.put,List.setIfInBounds_toArray,List.set_cons_zero,List.set_cons_succ]
 refine wpAnyG_free (i:=8) (v:=.bool false) (some 17) rfl rfl (by kernel_rfl) rfl (by kernel_rfl) (by kernel_rfl) (fun _ _ _ h=>h) (.inl ⟨rfl,fun W _=>by go_simp⟩) ?_
 simp only[Act.put,List.setIfInBounds_toArray,List.set_cons_zero,List.set_cons_succ]
 refine wpAnyG_one (i:=9) (by kernel_rfl) ?_
 refine wpOp_step rfl (fun K' hK=> ?_)
 go_simp
 refine hK _ _ ⟨(fun h=>by cases h), ?_⟩
 clear hK
 refine wpAnyG_one (i:=10) (by kernel_rfl) ?_
 refine wpOp_step rfl (fun K' hK=> ?_)
 go_simp
 refine hK _ _ ⟨(fun h=>by cases h), ?_⟩
 clear hK
 refine wpAnyG_done (by kernel_rfl) ?_
 have HDE:=hide hd
 clear hd hup1 ho1 hO1 HSC HR HOWN HSA hbx0 HSW
 go_wp2_with fail
 go_step3
 try simp only[Exit.jump]
 exact ⟨rfl,rfl,rfl,HO1,by rw[uh HEQ];exact sym_fin (step_none (uh HDE))⟩
structure Mk (w:World) (gs:Nat) (L:List Nat) (i:Nat) (F:Nat→Nat) (V:Nat→Value):Prop where
 cells: ∃cur:Array Value,w.heap[gs]? =some (.cells cur setT (0,0))∧(∀n,n≤15→cur[n]? =some (.int .i64 (F n:Nat)))∧ ∀n,n≤15→cur[16+n]? =some (V n)
 own: ∀n,n≤15→w.ownsRow (gs+1) 3 1 (V n) (if n=0 then [] else cntL L n i).length (intCells (if n=0 then [] else cntL L n i))
 apart: ∀n m b,n≤15→m≤15→n≠m→(V n).ownBlock=some b→(V m).ownBlock≠some b
theorem Mk.form{w:World}{gs:Nat}{L:List Nat}{i:Nat}{F:Nat→Nat}{V:Nat→Value}(h:Mk w gs L i F V){n:Nat}(hn:n≤15): ∃ao cap,V n=.slice ao (if n=0 then [] else cntL L n i).length cap:=by
 obtain ⟨_,h|⟨g,cap,cur,hv,_⟩⟩:=h.own n hn
 ·exact ⟨none,0,by rw[h.1,h.2]⟩
 exact ⟨_,cap,hv⟩
theorem Mk.lt{w:World}{gs:Nat}{L:List Nat}{i:Nat}{F:Nat→Nat}{V:Nat→Value}(h:Mk w gs L i F V):gs<w.heap.size:=by
 obtain ⟨cur,hg,_⟩:=h.cells;exact (Array.getElem?_eq_some_iff.1 hg).1
theorem Mk.cellV{w:World}{gs:Nat}{L:List Nat}{i:Nat}{F:Nat→Nat}{V:Nat→Value}(h:Mk w gs L i F V){n:Nat}(hn:n≤15):w.cell? ⟨gs,16+n,none⟩=some (V n):=by
 obtain ⟨cur,hg,_,hv⟩:=h.cells;rw[cell_of_row w gs (16+n) cur _ (0,0) hg];exact hv n hn
theorem Mk.cellF{w:World}{gs:Nat}{L:List Nat}{i:Nat}{F:Nat→Nat}{V:Nat→Value}(h:Mk w gs L i F V){n:Nat}(hn:n≤15):w.cell? ⟨gs,n,none⟩=some (.int .i64 (F n:Nat)):=by
 obtain ⟨cur,hg,hf,_⟩:=h.cells;rw[cell_of_row w gs n cur _ (0,0) hg];exact hf n hn
theorem Mk.thaw{w:World}{gs:Nat}{L:List Nat}{i:Nat}{F:Nat→Nat}{V:Nat→Value}(h:Mk w gs L i F V)(j:Nat):w.frozen? ⟨gs,j,none⟩=false:=by
 obtain ⟨cur,hg,_⟩:=h.cells;exact frozen_of_row w gs j cur _ hg
theorem Mk.old{w w' :World}{gs:Nat}{L:List Nat}{i:Nat}{F:Nat→Nat}{V:Nat→Value}(h:Mk w gs L i F V)(ho:Old w w'):Mk w' gs L i F V:=by
 obtain ⟨⟨cur,hg,hr⟩,h2,h3⟩:=h
 exact ⟨⟨cur,(ho.block gs (Array.getElem?_eq_some_iff.1 hg).1 (fun x=>x)).trans hg,hr⟩,fun n hn=>own_keptB (h2 n hn) ho (fun _ _ x=>x),h3⟩
theorem Mk.skip{w:World}{gs:Nat}{L:List Nat}{i:Nat}{F:Nat→Nat}{V:Nat→Value}(h:Mk w gs L i F V)(hx:L.getD i 0=0):Mk w gs L (i+1) F V:=by
 have e: ∀n,(if n=0 then [] else cntL L n (i+1))=(if n=0 then [] else cntL L n i):=fun n=>by
  by_cases hn:n=0
  ·rw[if_pos hn,if_pos hn]
  rw[if_neg hn,if_neg hn,cntL_succ,if_neg (by omega)]
 exact ⟨h.cells,fun n hn=>by rw[e];exact h.own n hn,h.apart⟩
theorem Mk.push{w w3:World}{gs:Nat}{L:List Nat}{i:Nat}{F:Nat→Nat}{V:Nat→Value}(h:Mk w gs L i F V){x g2 cap2:Nat}(hx:L.getD i 0=x)(hx0:x≠0)(hx15:x≤15)
 (ho3:w3.ownsRow (gs+1) 3 1 (.slice (some ⟨g2,0,none⟩) ((cntL L x i).length+1) cap2) ((cntL L x i).length+1) (intCells (cntL L x i)++[.int .i64 (i:Nat)]))(hg3:w.grownBy w3 (V x).ownBlock)(hl3:(V x).ownBlock=some g2∨g2=w.heap.size):
 Mk (w3.setCell ⟨gs,16+x,none⟩ (.slice (some ⟨g2,0,none⟩) ((cntL L x i).length+1) cap2)) gs L (i+1) F (fun n=>if n=x then .slice (some ⟨g2,0,none⟩) ((cntL L x i).length+1) cap2 else V n):=by
 have hbase: ∀n,n≤15→ ∀b,(V n).ownBlock=some b→gs+1≤b:=fun n hn b hb=>own_base (h.own n hn) b hb
 have hgs:=h.lt
 have hgsr:some gs≠(V x).ownBlock:=fun e=>by have:=hbase x hx15 gs e.symm;omega
 have hg2:gs<g2:=by
  rcases hl3 with e|e
  ·have:=hbase x hx15 g2 e;omega
  omega
 have hset: ∀b,b≠gs→(w3.setCell ⟨gs,16+x,none⟩ (.slice (some ⟨g2,0,none⟩) ((cntL L x i).length+1) cap2)).heap[b]? =w3.heap[b]? :=fun b hb=>Below.heap_setCell _ _ _ _ hb
 obtain ⟨⟨cur,hg,hf,hv⟩,h2,h3⟩:=h
 have hg' :w3.heap[gs]? =some (.cells cur setT (0,0)):=(hg3.block gs hgs hgsr).trans hg
 have hsz:16+x<cur.size:=(Array.getElem?_eq_some_iff.1 (hv x hx15)).1
 refine ⟨⟨_,heap_setCell_same w3 gs (16+x) cur _ _ hg',fun n hn=> ?_,fun n hn=> ?_⟩,fun n hn=> ?_,fun n m b hn hm hnm hb=> ?_⟩
 ·rw[Array.getElem?_setIfInBounds,if_neg (by omega)];exact hf n hn
 ·rw[Array.getElem?_setIfInBounds]
  by_cases e:n=x
  ·subst e;rw[if_pos rfl,if_pos hsz,if_pos rfl]
  rw[if_neg (by omega),if_neg e];exact hv n hn
 ·by_cases e:n=x
  ·subst e
   rw[if_pos rfl,if_neg hx0,cntL_succ,if_pos hx]
   have e2:intCells (cntL L n i++[i])=intCells (cntL L n i)++[.int .i64 (i:Nat)]:=by simp[intCells]
   rw[e2,List.length_append]
   exact own_keptB ho3 (only_set w3 gs (16+n) _) (fun b hb e=>by injection hb with hb;have hb2:g2=b:=hb;omega)
  rw[if_neg e]
  have e1:(if n=0 then [] else cntL L n (i+1))=(if n=0 then [] else cntL L n i):=by
   by_cases hn0:n=0
   ·rw[if_pos hn0,if_pos hn0]
   rw[if_neg hn0,if_neg hn0,cntL_succ,if_neg (by omega)]
  rw[e1]
  have ho:=h2 n hn
  obtain ⟨hl,ho|⟨b,cap,cur',hvn,hb1,hgb,r⟩⟩:=ho
  ·exact ⟨hl,.inl ho⟩
  refine ⟨hl,.inr ⟨b,cap,cur',hvn,hb1, ?_,r⟩⟩
  rw[hset b (by omega)]
  exact (hg3.block b (Array.getElem?_eq_some_iff.1 hgb).1 (fun e9=>h3 n x b hn hx15 e (by rw[hvn];rfl) e9.symm)).trans hgb
 by_cases e:n=x
 ·subst e
  rw[if_pos rfl] at hb
  injection hb with hb
  rw[if_neg (fun e=>hnm e.symm)]
  rcases hl3 with e9|e9
  ·intro hm2
   exact h3 n m g2 hn hm hnm e9 (by rw[hm2];exact congrArg some hb.symm)
  intro hm2
  have ho:=h2 m hm
  obtain ⟨hl,ho|⟨b',cap,cur',hvn,hb1,hgb,r⟩⟩:=ho
  ·rw[ho.1] at hm2;cases hm2
  rw[hvn] at hm2;injection hm2 with hm2
  have hlt:=(Array.getElem?_eq_some_iff.1 hgb).1
  have hb' :b' =b:=hm2
  have hb2:g2=b:=hb
  omega
 rw[if_neg e] at hb
 by_cases em:m=x
 ·subst em
  rw[if_pos rfl]
  intro hm2
  injection hm2 with hm2
  have hm3:g2=b:=hm2
  rcases hl3 with e9|e9
  ·exact h3 n m b hn hm hnm hb (by rw[e9,hm3])
  have ho:=h2 n hn
  obtain ⟨hl,ho|⟨b',cap,cur',hvn,hb1,hgb,r⟩⟩:=ho
  ·rw[ho.1] at hb;cases hb
  rw[hvn] at hb;injection hb with hb
  have hlt:=(Array.getElem?_eq_some_iff.1 hgb).1
  have hb' :b' =b:=hb
  omega
 rw[if_neg em];exact h3 n m b hn hm hnm hb
theorem Mk.first{w:World}{gs:Nat}{L:List Nat}{i:Nat}{F:Nat→Nat}{V:Nat→Value}(h:Mk w gs L i F V){x:Nat}(hx:x≤15)(v:Nat):Mk (w.setCell ⟨gs,x,none⟩ (.int .i64 (v:Nat))) gs L i (fun n=>if n=x then v else F n) V:=by
 have hbase: ∀n,n≤15→ ∀b,(V n).ownBlock=some b→gs+1≤b:=fun n hn b hb=>own_base (h.own n hn) b hb
 obtain ⟨⟨cur,hg,hf,hv⟩,h2,h3⟩:=h
 have hsz:x<cur.size:=(Array.getElem?_eq_some_iff.1 (hf x hx)).1
 refine ⟨⟨_,heap_setCell_same w gs x cur _ _ hg,fun n hn=> ?_,fun n hn=> ?_⟩,fun n hn=> ?_,h3⟩
 ·rw[Array.getElem?_setIfInBounds]
  by_cases e:n=x
  ·subst e;rw[if_pos rfl,if_pos hsz,if_pos rfl]
  rw[if_neg (fun e2=>e e2.symm),if_neg e];exact hf n hn
 ·rw[Array.getElem?_setIfInBounds,if_neg (by omega)];exact hv n hn
 exact own_keptB (h2 n hn) (only_set w gs x _) (fun b hb e=>by have:=hbase n hn b hb;omega)
theorem cnt_le(L:List Nat)(n i:Nat):(if n=0 then [] else cntL L n i).length≤i:=by
 split
 ·simp
 exact cntL_len L n i
def fstC(L:List Nat)(n j:Nat):Nat:=if j<n then firstL L j else 0
theorem fstC_succ(L:List Nat)(n j:Nat)(v:Nat)(hv:v=firstL L n):(if j=n then v else fstC L n j)=fstC L (n+1) j:=by
 unfold fstC
 by_cases e:j=n
 ·subst e;rw[if_pos rfl,if_pos (by omega),hv]
 rw[if_neg e]
 by_cases h:j<n
 ·rw[if_pos h,if_pos (by omega)]
 rw[if_neg h,if_neg (by omega)]
theorem Mk.congr{w:World}{gs:Nat}{L:List Nat}{i:Nat}{F F' :Nat→Nat}{V:Nat→Value}(h:Mk w gs L i F V)(hF: ∀n,n≤15→F n=F' n):Mk w gs L i F' V:=by
 obtain ⟨⟨cur,hg,hf,hv⟩,h2,h3⟩:=h
 exact ⟨⟨cur,hg,fun n hn=>by rw[hf n hn,hF n hn],hv⟩,h2,h3⟩
theorem Mk.set{w:World}{gs:Nat}{L:List Nat}{V:Nat→Value}(h:Mk w gs L L.length (fstC L 16) V):SetAt w gs (fun k=>gs≤k∧k<w.heap.size) L:=by
 have hgs:=h.lt
 have hfm:=fun n hn=>h.form (n:=n) hn
 obtain ⟨⟨cur,hg,hf,hv⟩,h2,h3⟩:=h
 refine ⟨cur,hg,⟨Nat.le_refl _,hgs⟩,fun n hn=> ?_,fun n hn=> ?_⟩
 ·rw[hf n hn];unfold fstC;rw[if_pos (by omega)]
 have e:(if n=0 then [] else cntL L n L.length)=runC L n:=rfl
 obtain ⟨ao,cap,hvn⟩:=hfm n hn
 rw[e] at hvn
 refine ⟨ao,cap,by rw[hv n hn,hvn],fun j hj=> ?_⟩
 have ho:=h2 n hn
 rw[e,hvn] at ho
 obtain ⟨b,cap',hv2,hb,hbl⟩:=ho.form (by omega)
 injection hv2 with hv3 hv4 hv5
 subst hv3
 refine ⟨b,rfl,⟨by omega,hbl⟩, ?_⟩
 have hi:=(Ints.ofOwns rfl ho).cell hj
 rw[Nat.zero_add] at hi
 exact hi
theorem makeC(gl off cap:Nat)(L:List Nat)(hL:L.length≤400)(h15: ∀j,L.getD j 0≤15)(w:World)(hI:Ints w gl off L):
 Calls Tryz.prog 142 #[.slice (some ⟨gl,off,none⟩) L.length cap] w fun r w' =>r=.returned (.pointer (some ⟨w.heap.size,0,none⟩))∧Old w w' ∧SetAt w' w.heap.size (fun k=>w.heap.size≤k∧k<w'.heap.size) L:=by
 obtain ⟨i0,hi0,hz0,hz1,hz2⟩:=info_parts infoI3
 have hgl:=hI.lt
 have HI:=hide hI
 have H15:=hide h15
 clear hI h15
 go_in
 go_wp2_with fail
 go_loopw [4,5,10] (fun _ _ z wr=> ∃i:Nat,i≤L.length∧z=.int .i64 i∧Hid (∃V,Mk wr w.heap.size L i (fun _=>0) V)∧Hid (Old w wr)) (fun _ _ z _=>L.length- (intOf z).toNat)
 ·refine ⟨0,by omega,rfl,⟨fun _=> .slice none 0 0,⟨⟨_,Go.heap_alloc_new w _,fun n hn=> ?_,fun n hn=> ?_⟩,fun n hn=> ?_,fun n m b hn hm hnm hb=>by cases hb⟩⟩,(Only.refl _ w).alloc _⟩
  ·match n,hn with
   |0,_=>rfl|1,_=>rfl|2,_=>rfl|3,_=>rfl|4,_=>rfl|5,_=>rfl|6,_=>rfl|7,_=>rfl|8,_=>rfl|9,_=>rfl|10,_=>rfl|11,_=>rfl|12,_=>rfl|13,_=>rfl|14,_=>rfl|15,_=>rfl
  ·match n,hn with
   |0,_=>rfl|1,_=>rfl|2,_=>rfl|3,_=>rfl|4,_=>rfl|5,_=>rfl|6,_=>rfl|7,_=>rfl|8,_=>rfl|9,_=>rfl|10,_=>rfl|11,_=>rfl|12,_=>rfl|13,_=>rfl|14,_=>rfl|15,_=>rfl
  have e:(if n=0 then [] else cntL L n 0)=[]:=by split<;>rfl
  rw[e];exact World.ownsRow_nil _ _ _ _
 obtain ⟨i,hi,rfl,HM,HO⟩:=hrel
 obtain ⟨V,hmk⟩:=uh HM
 by_cases hlt:i<L.length
 ·have hltI:(i:Int)<(L.length:Int):=by omega
  have hce:=((uh HI).kept (uh HO) (fun x=>x)).cell hlt
  have hx15:=uh H15 i
  have HSK:=hide hmk.skip
  have HPU:=hide (fun x w3 g2 cap2 (hx:L.getD i 0=x)=>hmk.push (w3:=w3) (x:=x) (g2:=g2) (cap2:=cap2) hx)
  generalize hxx:L.getD i 0=x at hce hx15 HSK HPU
  have HXX:=hide hxx
  clear hxx
  by_cases hx0:x=0
  ·subst hx0
   have hce' :wr.cell? ⟨gl,off+i,none⟩=some (.int .i64 0):=hce
   have HSK2:=hide (uh HSK rfl)
   clear hce hmk HM
   go_wp2_with fail
   go_roundw
   ·exact ⟨i+1,by omega,by go_num,⟨V,HSK2⟩,HO⟩
   case measure=>simp[intOf];omega
  have hxp:(0:Int)<(x:Int):=by omega
  have hx16:(x:Int)<16:=by omega
  have hx00:(0:Int)≤(x:Int):=by omega
  obtain ⟨ao,cp,hvx⟩:=hmk.form (n:=x) hx15
  have hown:=hmk.own x hx15
  rw[if_neg hx0] at hvx hown
  have hcl:(cntL L x i).length≤400:=Nat.le_trans (cntL_len L x i) (by omega)
  have hcv:=hmk.cellV (n:=x) hx15
  have HMK:=hide hmk
  rw[hvx] at hcv hown
  generalize hnl:(cntL L x i).length=nl at hcv hown hcl
  have HNL:=hide hnl
  have hA:Only (fun _=>False) wr (wr.drew.alloc (.cells #[.int .i64 (i:Int)] 3)):=(Only.refl (fun _=>False) wr).drew.alloc _
  have HOWA:=hide (own_keptB hown hA (fun _ _ x=>x))
  have HMKA:=hide (hmk.old hA)
  have HNW:=hide (int_new (wr:=wr.drew) (n:=(i:Int)))
  have HVX:=hide hvx
  have hgs:=hmk.lt
  have hS1:(wr.drew.alloc (.cells #[.int .i64 (i:Int)] 3)).cell? ⟨w.heap.size,16+x,none⟩=some (.slice ao nl cp):=(hA.cell (p:=⟨w.heap.size,16+x,none⟩) hgs (fun x=>x)).trans hcv
  have HOA:=hide ((uh HO).trans hA)
  have hsz1:(wr.drew.alloc (.cells #[.int .i64 (i:Int)] 3)).heap.size=wr.heap.size+1:=by rw[World.size_alloc];rfl
  have hws:=(uh HO).size
  clear hmk HM hown hvx HPU HSK hnl
  have HSW:wr.drew.cell? ⟨w.heap.size,16+x,none⟩=some (.slice ao nl cp):=hcv
  go_upto_region 6 with fail
  refine wp_region_late (S:=fun W=>W.cell? ⟨w.heap.size,16+x,none⟩=some (.slice ao nl cp)) (late:=fun i=>decide (i≤1)||decide (10≤i)) (by kernel_rfl) ?_
  refine wpAnyG_free (i:=0) (v:=.pointer (some ⟨w.heap.size,0,none⟩)) (some 17) rfl rfl (by kernel_rfl) rfl (by kernel_rfl) (by kernel_rfl) (fun _ _ _ h=>h) (.inl ⟨rfl,fun W _=>by go_simp⟩) ?_
  simp only[Act.put,List.setIfInBounds_toArray,List.set_cons_zero,List.set_cons_succ]
  refine wpAnyG_free (i:=1) (v:=.int .i64 x) (some 18) rfl rfl (by kernel_rfl) rfl (by kernel_rfl) (by kernel_rfl) (fun _ _ _ h=>h) (.inl ⟨rfl,fun W _=>by go_simp⟩) ?_
  simp only[Act.put,List.setIfInBounds_toArray,List.set_cons_zero,List.set_cons_succ]
  refine wpAnyG_free (i:=11) (v:=.pointer (some ⟨w.heap.size,0,none⟩)) (some 28) rfl rfl (by kernel_rfl) rfl (by kernel_rfl) (by kernel_rfl) (fun _ _ _ h=>h) (.inl ⟨rfl,fun W _=>by go_simp⟩) ?_
  simp only[Act.put,List.setIfInBounds_toArray,List.set_cons_zero,List.set_cons_succ]
  refine wpAnyG_free (i:=12) (v:=.pointer (some ⟨w.heap.size,16,none⟩)) (some 29) rfl rfl (by kernel_rfl) rfl (by kernel_rfl) (by kernel_rfl) (fun _ _ _ h=>h) (.inl ⟨rfl,fun W _=>by go_simp⟩) ?_
  simp only[Act.put,List.setIfInBounds_toArray,List.set_cons_zero,List.set_cons_succ]
  refine tg 2 15 (.pointer (some ⟨w.heap.size,0,none⟩)) 19 HSW ?_
  refine tg 3 15 (.int .i64 x) 20 HSW ?_
  refine tg 4 15 (.pointer (some ⟨w.heap.size,0,none⟩)) 21 HSW ?_
  refine tg 5 15 (.pointer (some ⟨w.heap.size,16,none⟩)) 22 HSW ?_
  refine tg 6 15 (.pointer (some ⟨w.heap.size,16+x,none⟩)) 23 HSW ?_
  refine tg 7 15 (.slice ao nl cp) 24 HSW ?_
  refine tg 8 15 (.int .i64 i) 25 HSW ?_
  refine wpAnyG_one (i:=9) (by kernel_rfl) ?_
  refine wpOp_step rfl (fun K' hK=> ?_)
  go_simp
  refine hK _ _ ⟨fun _=>hS1, ?_⟩
  clear hK
  refine wpAnyG_one (i:=10) (by kernel_rfl) ?_
  refine op_plain rfl rfl (wp_append_lies _ (.tmp 24) (.tmp 26) 33 rfl (w.heap.size+1) 3 i0 (.int .i64 0) 1 8 Tryz.underlying33 hi0 hz0 hz1 hz2 rfl (by omega) (.slice ao nl cp) nl _ rfl (uh HOWA) ⟨wr.heap.size,0,none⟩ 1 1 [.int .i64 (i:Int)] rfl rfl (uh HNW) (by intro u hu;simp at hu;subst hu;rfl) (by omega) (by unfold maxLen;omega) (by omega) (Nat.le_trans (show w.heap.size+1≤wr.heap.size+1 by omega) (Nat.le_of_eq hsz1.symm)) _ rfl ?_)
  intro g2 cap2 w3 ho3 hg3 hl3 hlt3
  have hpu:=(uh HMKA).push (w3:=w3) (x:=x) (g2:=g2) (cap2:=cap2) (uh HXX) hx0 hx15 (by rw[uh HNL];exact ho3) (by rw[uh HVX,uh HNL];exact hg3) (by rw[uh HVX,uh HNL];exact hl3)
  rw[uh HNL] at hpu
  have hb0: ∀b,(Value.slice ao nl cp).ownBlock=some b→w.heap.size+1≤b:=own_base (uh HOWA)
  have hcell3:w3.cell? ⟨w.heap.size,16+x,none⟩=some (.slice ao nl cp):=(World.cell?_of_block (w:=wr.drew.alloc (.cells #[.int .i64 (i:Int)] 3)) (a:=⟨w.heap.size,16+x,none⟩) (hg3.block w.heap.size (Nat.lt_of_lt_of_le (show w.heap.size<wr.heap.size+1 by omega) (Nat.le_of_eq hsz1.symm)) (fun e=>by have:=hb0 _ e.symm;omega))).trans hS1
  have hfz3:w3.frozen? ⟨w.heap.size,16+x,none⟩=false:=(World.frozen?_of_block (w:=wr.drew.alloc (.cells #[.int .i64 (i:Int)] 3)) (a:=⟨w.heap.size,16+x,none⟩) (hg3.block w.heap.size (Nat.lt_of_lt_of_le (show w.heap.size<wr.heap.size+1 by omega) (Nat.le_of_eq hsz1.symm)) (fun e=>by have:=hb0 _ e.symm;omega))).trans ((uh HMKA).thaw (16+x))
  have hO3:=(uh HOA).grown hg3 (fun k hk e=>absurd hk (by have:=hb0 k e;omega))
  refine ⟨(fun h=>by cases h), ?_⟩
  clear ho3 hg3 hl3
  simp only[Act.put,List.setIfInBounds_toArray]
  refine wpAnyG_one (i:=13) (by kernel_rfl) ?_
  refine wpOp_step rfl (fun K' hK=> ?_)
  go_simp
  refine hK _ _ ⟨(fun h=>by cases h), ?_⟩
  clear hK
  refine wpAnyG_one (i:=14) (by kernel_rfl) ?_
  refine wpOp_step rfl (fun K' hK=> ?_)
  go_simp
  refine hK _ _ ⟨(fun h=>by cases h), ?_⟩
  clear hK
  refine wpAnyG_done (by kernel_rfl) ?_
  have HP:=hide hpu
  have HO5:=hide (hO3.setCell (p:=⟨w.heap.size,16+x,none⟩) (fun hh=>absurd hh (Nat.lt_irrefl _)) (.slice (some ⟨g2,0,none⟩) (nl+1) cap2))
  clear hpu hO3 hcell3 hfz3
  go_wp2_with fail
  go_roundw
  ·exact ⟨i+1,by omega,by go_num,⟨_,uh HP⟩,HO5⟩
  case measure=>simp[intOf];omega
 have hltI:¬(i:Int)<(L.length:Int):=by omega
 have hil:i=L.length:=by omega
 rw[hil] at hmk
 have HMK0:=hide (hmk.congr (F' :=fstC L 1) (fun n _=>by unfold fstC;split;rename_i h;rw[show n=0 by omega];rfl;rfl))
 clear hmk HM
 go_wp2_with fail
 go_loopw [6] (fun z wr=> ∃n:Nat,n≤16∧z=.int .i64 n∧Hid (1≤n∧Mk wr w.heap.size L L.length (fstC L n) V)∧Hid (Old w wr)) (fun z _=>16- (intOf z).toNat)
 ·exact ⟨1,by omega,rfl,⟨Nat.le_refl _,HMK0⟩,HO⟩
 obtain ⟨n,hn,rfl,HM,HO⟩:=hrel
 obtain ⟨hn1,hmk⟩:=uh HM
 by_cases hlt:n≤15
 ·have hltI:(n:Int)≤15:=by omega
  obtain ⟨m,hm⟩: ∃m,n=m+1:=⟨n- 1,by omega⟩
  have hmI:(n:Int)- 1=(m:Int):=by omega
  have hm16:(m:Int)<16:=by omega
  have hm0:(0:Int)≤(m:Int):=by omega
  have hn16:(n:Int)<16:=by omega
  have hn0:(0:Int)≤(n:Int):=by omega
  have hmw:IntKind.i64.wrap (m:Int)=(m:Int):=i64_wrap_nat m (by omega)
  have hcf:=hmk.cellF (n:=m) (by omega)
  obtain ⟨ao,cp,hvx⟩:=hmk.form (n:=m) (by omega)
  have hcv:=hmk.cellV (n:=m) (by omega)
  rw[hvx] at hcv
  have hcn:=hmk.cellF (n:=n) hlt
  have hfz:=hmk.thaw n
  have hff:fstC L n m=firstL L m:=by unfold fstC;rw[if_pos (by omega)]
  rw[hff] at hcf
  have hrl:(if m=0 then [] else cntL L m L.length).length≤400:=Nat.le_trans (cnt_le L m L.length) hL
  have hfl:firstL L m≤52428800:=by
   have h3:=firstL_le L m
   have hp:2^(m+1)≤2^16:=Nat.pow_le_pow_right (by omega) (by omega)
   have:2^(m+1)*L.length≤65536*400:=Nat.mul_le_mul (by omega) hL
   omega
  have HNX:Hid (2*(firstL L m+(if m=0 then [] else cntL L m L.length).length)=firstL L n):=by
   unfold Hid
   rw[hm,firstL]
   by_cases h0:m=0
   ·rw[if_pos h0,if_pos h0];rfl
   rw[if_neg h0,if_neg h0,cntL_all]
  generalize firstL L m=fm at hcf hfl HNX
  generalize (if m=0 then [] else cntL L m L.length).length=rl at hcv hrl HNX
  have HFS:=hide (fun v (hv:v=firstL L n)=>(hmk.first (x:=n) hlt v).congr (F' :=fstC L (n+1)) (fun j _=>fstC_succ L n j v hv))
  clear hmk HM hvx hff hm
  have hw1:IntKind.i64.wrap ((fm:Int)+(rl:Int))=(fm:Int)+(rl:Int):=by rw[IntKind.wrap_i64];omega
  have hw2:IntKind.i64.wrap (2*((fm:Int)+(rl:Int)))=2*((fm:Int)+(rl:Int)):=by rw[IntKind.wrap_i64];omega
  have HSW:wr.drew.cell? ⟨w.heap.size,m,none⟩=some (.int .i64 (fm:Nat))∧wr.drew.cell? ⟨w.heap.size,16+m,none⟩=some (.slice ao rl cp):=⟨hcf,hcv⟩
  go_upto_region 11 with fail
  refine wp_region_last (S:=fun W=>W.cell? ⟨w.heap.size,m,none⟩=some (.int .i64 (fm:Nat))∧W.cell? ⟨w.heap.size,16+m,none⟩=some (.slice ao rl cp)) (L:=22) (by kernel_rfl) ?_
  refine tk 0 23 (.pointer (some ⟨w.heap.size,0,none⟩)) 36 HSW ?_
  refine tk 1 23 (.int .i64 n) 37 HSW ?_
  refine tk 2 23 (.pointer (some ⟨w.heap.size,0,none⟩)) 38 HSW ?_
  refine tk 3 23 (.int .i64 n) 39 HSW ?_
  refine tk 4 23 (.int .i64 m) 40 HSW ?_
  refine tk 5 23 (.pointer (some ⟨w.heap.size,0,none⟩)) 41 HSW ?_
  refine tk 6 23 (.pointer (some ⟨w.heap.size,0,none⟩)) 42 HSW ?_
  refine tk 7 23 (.pointer (some ⟨w.heap.size,m,none⟩)) 43 HSW ?_
  refine tk 8 23 (.int .i64 fm) 44 HSW ?_
  refine tk 9 23 (.pointer (some ⟨w.heap.size,0,none⟩)) 45 HSW ?_
  refine tk 10 23 (.int .i64 n) 46 HSW ?_
  refine tk 11 23 (.int .i64 m) 47 HSW ?_
  refine tk 12 23 (.pointer (some ⟨w.heap.size,0,none⟩)) 48 HSW ?_
  refine tk 13 23 (.pointer (some ⟨w.heap.size,16,none⟩)) 49 HSW ?_
  refine tk 14 23 (.pointer (some ⟨w.heap.size,16+m,none⟩)) 50 HSW ?_
  refine tk 15 23 (.slice ao rl cp) 51 HSW ?_
  refine tk 16 23 (.int .i64 rl) 52 HSW ?_
  refine tk 17 23 (.int .i64 (fm+rl)) 53 HSW ?_
  refine tk 18 23 (.int .i64 (2*(fm+rl))) 54 HSW ?_
  refine tk 19 23 (.pointer (some ⟨w.heap.size,0,none⟩)) 55 HSW ?_
  refine tk 20 23 (.pointer (some ⟨w.heap.size,0,none⟩)) 56 HSW ?_
  refine tk 21 23 (.pointer (some ⟨w.heap.size,n,none⟩)) 57 HSW ?_
  refine wpAnyL_one (i:=22) (by kernel_rfl) ?_
  refine wpOp_step rfl (fun K' hK=> ?_)
  go_simp
  refine hK _ _ ⟨fun h=>absurd rfl h, ?_⟩
  clear hK
  refine wpAnyL_done (by kernel_rfl) ?_
  have HM5:=hide ((uh HFS (2*(fm+rl)) (uh HNX)).old ((Only.refl (fun _=>False) _).drew))
  rw[show ((2*(fm+rl):Nat):Int)=2*((fm:Int)+(rl:Int)) by omega] at HM5
  have HO5:=hide ((uh HO).drew.setCell (p:=⟨w.heap.size,n,none⟩) (fun hh=>absurd hh (Nat.lt_irrefl _)) (.int .i64 (2*((fm:Int)+(rl:Int)))))
  go_wp2_with fail
  go_roundw
  ·exact ⟨n+1,by omega,by go_num,⟨by omega,uh HM5⟩,HO5⟩
  case measure=>simp[intOf];omega
 have hltI:¬(n:Int)≤15:=by omega
 have hn16:n=16:=by omega
 rw[hn16] at hmk
 have HSET:=hide hmk.set
 clear hmk HM
 go_wp2_with fail
 go_ret
 exact ⟨rfl,HO,HSET⟩
theorem fitC(gl off cap:Nat)(L:List Nat)(hL:L.length≤400)(h15: ∀j,L.getD j 0≤15)(w:World)(hI:Ints w gl off L):
 Calls Tryz.prog 308 #[.slice (some ⟨gl,off,none⟩) L.length cap] w fun r w' =>r=.returned (.bool (fitS L))∧w' =w:=by
 have HI:=hide hI
 have H15:=hide h15
 clear hI h15
 go_in
 go_wp2_with fail
 go_loop [3,5,8] (fun x _ z=> ∃su i:Nat,i≤L.length∧su≤6553600∧x=.int .i64 su∧z=.int .i64 i∧Hid (su=fitN (L.take i))) (fun _ _ z=>L.length- (intOf z).toNat)
 ·exact ⟨0,0,by omega,by omega,rfl,rfl,rfl⟩
 obtain ⟨su,i,hi,hsu,rfl,rfl,HS⟩:=hrel
 by_cases hlt:i<L.length
 ·have hltI:(i:Int)<(L.length:Int):=by omega
  have hce:=(uh HI).cell hlt
  have hl15:=uh H15 i
  have HT:=hide (take_getD L i hlt)
  have HLE:=hide (fitN_le L (i+1))
  generalize L.getD i 0=x at hce hl15 HT
  by_cases hx:x=0
  ·subst hx
   have hce' :w.cell? ⟨gl,off+i,none⟩=some (.int .i64 0):=hce
   clear hce
   go_wp2_with fail
   go_round
   ·have h1:=uh HS
    exact ⟨su,i+1,by omega,hsu,rfl,by go_num,by rw[Hid,uh HT,fitN_snoc,←h1];rfl⟩
   case measure=>simp[intOf];omega
  have hxp:(0:Int)<(x:Int):=by omega
  have hx0:(0:Int)≤(x:Int):=by omega
  have hx15:(x:Int)≤15:=by omega
  have htn:((15:Int)- (x:Int)).toNat=15- x:=by omega
  have hpl:2^(15- x)≤16384:=Nat.pow_le_pow_right (n:=2) (by omega) (show 15- x≤14 by omega)
  have hsh:(2:Int)^(15- x)=((2^(15- x):Nat):Int):=by rw[Int.natCast_pow];rfl
  have HN:Hid (fitN (L.take (i+1))=su+2^(15- x)):=by
   have h1:=uh HS
   rw[Hid,uh HT,fitN_snoc,←h1,if_neg hx]
  generalize 2^(15- x)=p at hsh hpl HN
  go_wp2_with fail
  go_round
  ·have h1:=uh HN
   obtain ⟨h3,h4⟩:=uh HLE
   exact ⟨su+p,i+1,by omega,by omega,by go_num,by go_num,h1.symm⟩
  case measure=>simp[intOf];omega
 have hltI:¬(i:Int)<(L.length:Int):=by omega
 have hil:i=L.length:=by omega
 have HE:Hid (fitN L=su):=by
  have h1:=uh HS
  rw[hil,List.take_length] at h1
  exact h1.symm
 clear HS
 have HFS:Hid (fitS L=(su==32768)):=by unfold Hid fitS;rw[uh HE]
 clear HE hil
 by_cases h1:su=32768
 ·have hb1:((su:Int)==32768)=true:=by rw[beq_iff_eq];omega
  go_wp2_with fail
  go_ret
  exact ⟨ret1_eq (congrArg Value.bool (by show true=fitS L;rw[uh HFS];simp[h1])),rfl⟩
 have hb1:((su:Int)==32768)=false:=by rw[beq_eq_false_iff_ne];omega
 go_wp2_with fail
 go_ret
 exact ⟨ret1_eq (congrArg Value.bool (by show false=fitS L;rw[uh HFS];simp[h1])),rfl⟩
theorem sum_snoc(L:List Nat)(x:Nat):(L++[x]).sum=L.sum+x:=by simp
theorem sum_le(L:List Nat)(h15: ∀j,L.getD j 0≤15)(i:Nat)(hi:i≤L.length):(L.take i).sum≤15*i:=by
 induction i with
 |zero=>simp
 |succ i ih=>rw[take_getD L i (by omega),sum_snoc];have:=h15 i;have:=ih (by omega);omega
theorem one_len(L:List Nat)(h15: ∀j,L.getD j 0≤15)(i:Nat)(hi:i≤L.length):
 (manyN (L.take i)=0→fitN (L.take i)=0∧(L.take i).sum=0)∧
 (manyN (L.take i)=1→fitN (L.take i)=2^(15- (L.take i).sum)∧1≤(L.take i).sum∧(L.take i).sum≤15):=by
 induction i with
 |zero=>simp[fitN,manyN]
 |succ i ih=>
  obtain ⟨a,b⟩:=ih (by omega)
  have hx:=h15 i
  rw[take_getD L i (by omega),fitN_snoc,manyN_snoc,sum_snoc]
  generalize L.getD i 0=x at hx
  by_cases h0:x=0
  ·subst h0
   simp only[if_true,Nat.add_zero]
   exact ⟨a,b⟩
  simp only[if_neg h0]
  refine ⟨fun h=>by omega,fun h=> ?_⟩
  obtain ⟨a1,a2⟩:=a (by omega)
  rw[a1,a2,Nat.zero_add,Nat.zero_add]
  exact ⟨rfl,by omega,hx⟩
theorem fitD_of(L:List Nat)(h15: ∀j,L.getD j 0≤15):fitD L=(manyN L==0||(manyN L==1&&L.sum==1)||fitS L):=by
 have h:=one_len L h15 L.length (Nat.le_refl _)
 rw[List.take_length] at h
 obtain ⟨_,h1⟩:=h
 unfold fitD fitS
 by_cases h0:manyN L=0
 ·simp[h0]
 by_cases hm:manyN L=1
 ·obtain ⟨e,s1,s2⟩:=h1 hm
  by_cases hs:L.sum=1
  ·have e2:fitN L=16384:=by rw[e,hs]
   simp[hm,hs,e2]
  have e2:fitN L≠16384:=by
   rw[e]
   have:2^(15- L.sum)≤2^13:=Nat.pow_le_pow_right (by omega) (by omega)
   omega
  rw[hm,beq_eq_false_iff_ne.2 hs,beq_eq_false_iff_ne.2 e2]
  cases (fitN L==32768)<;>rfl
 rw[beq_eq_false_iff_ne.2 h0,beq_eq_false_iff_ne.2 hm]
 cases (fitN L==32768)<;>rfl
theorem fitDistC(gl off cap:Nat)(L:List Nat)(hL:L.length≤400)(h15: ∀j,L.getD j 0≤15)(w:World)(hI:Ints w gl off L):
 Calls Tryz.prog 310 #[.slice (some ⟨gl,off,none⟩) L.length cap] w fun r w' =>r=.returned (.bool (fitD L))∧w' =w:=by
 have HI:=hide hI
 have H15:=hide h15
 have HF:=hide (fitC gl off cap L hL h15 w hI)
 have HFD:=hide (fitD_of L h15)
 have HSL:=hide (sum_le L h15)
 clear hI h15
 go_in
 go_wp2_with fail
 go_loop [3,4,6,9] (fun x y _ z=> ∃ma su i:Nat,i≤L.length∧su≤6000∧ma≤400∧x=.int .i64 ma∧y=.int .i64 su∧z=.int .i64 i∧Hid (su=(L.take i).sum∧ma=manyN (L.take i))) (fun _ _ _ z=>L.length- (intOf z).toNat)
 ·exact ⟨0,0,0,by omega,by omega,by omega,rfl,rfl,rfl,⟨rfl,rfl⟩⟩
 obtain ⟨ma,su,i,hi,hsu,hma,rfl,rfl,rfl,HS⟩:=hrel
 by_cases hlt:i<L.length
 ·have hltI:(i:Int)<(L.length:Int):=by omega
  have hce:=(uh HI).cell hlt
  have hl15:=uh H15 i
  have HT:=hide (take_getD L i hlt)
  have HLE:=hide (uh HSL (i+1) (by omega))
  have HLM:=hide (fitN_le L (i+1)).2
  generalize L.getD i 0=x at hce hl15 HT
  by_cases hx:x=0
  ·subst hx
   have hce' :w.cell? ⟨gl,off+i,none⟩=some (.int .i64 0):=hce
   clear hce
   go_wp2_with fail
   go_round
   ·obtain ⟨h1,h2⟩:=uh HS
    exact ⟨ma,su,i+1,by omega,hsu,hma,rfl,rfl,by go_num,⟨by rw[uh HT,sum_snoc,←h1];rfl,by rw[uh HT,manyN_snoc,←h2];rfl⟩⟩
   case measure=>simp[intOf];omega
  have hxp:(0:Int)<(x:Int):=by omega
  have HN:Hid ((L.take (i+1)).sum=su+x∧manyN (L.take (i+1))=ma+1):=by
   obtain ⟨h1,h2⟩:=uh HS
   exact ⟨by rw[uh HT,sum_snoc,←h1],by rw[uh HT,manyN_snoc,←h2,if_neg hx]⟩
  go_wp2_with fail
  go_round
  ·obtain ⟨h1,h2⟩:=uh HN
   have h3:=uh HLE
   have h4:=uh HLM
   exact ⟨ma+1,su+x,i+1,by omega,by omega,by omega,by go_num,by go_num,by go_num,⟨h1.symm,h2.symm⟩⟩
  case measure=>simp[intOf];omega
 have hltI:¬(i:Int)<(L.length:Int):=by omega
 have hil:i=L.length:=by omega
 have HE:Hid (fitD L=(ma==0||(ma==1&&su==1)||fitS L)):=by
  obtain ⟨h1,h2⟩:=uh HS
  rw[hil,List.take_length] at h1 h2
  rw[Hid,uh HFD,←h1,←h2]
 clear HS hil HFD HSL
 by_cases h1:ma=0
 ·subst h1
  go_wp2_with fail
  go_ret
  exact ⟨ret1_eq (congrArg Value.bool (by show true=fitD L;rw[uh HE];simp)),rfl⟩
 have hb1:((ma:Int)==0)=false:=by rw[beq_eq_false_iff_ne];omega
 by_cases h2:ma=1
 ·subst h2
  by_cases h3:su=1
  ·subst h3
   go_wp2_with fail
   go_ret
   exact ⟨ret1_eq (congrArg Value.bool (by show true=fitD L;rw[uh HE];simp)),rfl⟩
  have hb3:((su:Int)==1)=false:=by rw[beq_eq_false_iff_ne];omega
  go_wp2_with (refine (uh HF).mono ?_;rintro r w' ⟨rfl,rfl⟩)
  go_ret
  exact ⟨ret1_eq (congrArg Value.bool (by show fitS L=fitD L;rw[uh HE];simp[h3])),rfl⟩
 have hb2:((ma:Int)==1)=false:=by rw[beq_eq_false_iff_ne];omega
 go_wp2_with (refine (uh HF).mono ?_;rintro r w' ⟨rfl,rfl⟩)
 go_ret
 exact ⟨ret1_eq (congrArg Value.bool (by show fitS L=fitD L;rw[uh HE];simp[h1,h2])),rfl⟩
theorem fixBitsC(n:Nat)(h:n<288)(w:World):
 Calls Tryz.prog 234 #[.int .i64 n] w fun r w' =>r=.returned (.int .i64 (fixL.getD n 0:Nat))∧w' =w:=by
 have hI:(n:Int)<288:=by omega
 by_cases h1:n<144
 ·have hv:fixL.getD n 0=8:=fixL_val n h (if_pos h1)
  have q1:(n:Int)<144:=by omega
  rw[hv]
  go_in
  go_wp2_with fail
  go_ret
  exact ⟨rfl,rfl⟩
 by_cases h2:n<256
 ·have hv:fixL.getD n 0=9:=fixL_val n h (by rw[if_neg h1,if_pos h2])
  have q1:¬(n:Int)<144:=by omega
  have q2:(n:Int)<256:=by omega
  rw[hv]
  go_in
  go_wp2_with fail
  go_ret
  exact ⟨rfl,rfl⟩
 by_cases h3:n<280
 ·have hv:fixL.getD n 0=7:=fixL_val n h (by rw[if_neg h1,if_neg h2,if_pos h3])
  have q1:¬(n:Int)<144:=by omega
  have q2:¬(n:Int)<256:=by omega
  have q3:(n:Int)<280:=by omega
  rw[hv]
  go_in
  go_wp2_with fail
  go_ret
  exact ⟨rfl,rfl⟩
 have hv:fixL.getD n 0=8:=fixL_val n h (by rw[if_neg h1,if_neg h2,if_neg h3])
 have q1:¬(n:Int)<144:=by omega
 have q2:¬(n:Int)<256:=by omega
 have q3:¬(n:Int)<280:=by omega
 rw[hv]
 go_in
 go_wp2_with fail
 go_ret
 exact ⟨rfl,rfl⟩
theorem fixD_len:fixD.length=32:=by rw[fixD,List.length_replicate]
theorem fixD_get(i:Nat)(h:i<32):fixD.getD i 0=5:=by rw[fixD,List.getD_eq_getElem?_getD,List.getElem?_replicate,if_pos h];rfl
def part(L:List Nat)(i:Nat):List Nat:=L.take i++List.replicate (L.length- i) 0
theorem part_len(L:List Nat)(i:Nat)(h:i≤L.length):(part L i).length=L.length:=by
 rw[part,List.length_append,List.length_take,List.length_replicate];omega
theorem part_all(L:List Nat)(n:Nat)(h:L.length=n):part L n=L:=by
 rw[part,h,Nat.sub_self,List.take_of_length_le (by omega)];simp
theorem part_set(L:List Nat)(i:Nat)(h:i<L.length):(part L i).set i (L.getD i 0)=part L (i+1):=by
 unfold part
 rw[take_getD L i h,List.set_append_right _ _ (by rw[List.length_take];omega),List.length_take,Nat.min_eq_left (by omega),Nat.sub_self,
  show L.length- i=(L.length- (i+1))+1 by omega,List.replicate_succ,List.set_cons_zero,List.append_assoc]
 rfl
theorem zeros_part(L:List Nat){n:Nat}(hn:L.length=n)(j:Nat)(h:j<(part L 0).length):(madeCells #[Value.int .i64 0] n)[j]? =some (.int .i64 ((part L 0).getD j 0:Nat)):=by
 rw[part_len _ _ (Nat.zero_le _),hn] at h
 have e:(part L 0).getD j 0=0:=by
  rw[part,List.take_zero,List.nil_append,List.getD_eq_getElem?_getD,List.getElem?_replicate]
  split<;>rfl
 rw[e]
 simp[madeCells,h,Nat.mod_one]
theorem fixedDistC(w:World):
 Calls Tryz.prog 144 #[] w fun r w' =>r=.returned (.slice (some ⟨w.heap.size,0,none⟩) 32 32)∧Ints w' w.heap.size 0 fixD∧Old w w' :=by
 obtain ⟨i0,hi0,hz0,hz1,hz2⟩:=info_parts infoI3
 have hmk: ∀W:World,(Instr.makeSlice 33 (.int .i64 32) (.int .i64 32)).run Tryz.prog W=.ok (.slice (some ⟨W.heap.size,0,none⟩) 32 32) (W.alloc (.cells (madeCells #[.int .i64 0] 32) 3)):=by
  intro W
  have h:=run_make (P:=Tryz.prog) W 33 3 i0 (.int .i64 0) Tryz.underlying33 hi0 hz0 .i64 .i64 32 32 (by omega) (by omega) (by rw[hz2];decide) (by decide)
  rw[hz1] at h
  exact h
 go_in
 go_wp2_with fail
 clear hmk
 go_loopw [2,6] (fun _ z wr=> ∃i:Nat,i≤32∧z=.int .i64 i∧Hid (Ints wr w.heap.size 0 (part fixD i))∧Hid (Old w wr)) (fun _ z _=>32- (intOf z).toNat)
 ·exact ⟨0,by omega,rfl,Ints.new w rfl (fun j hj=>zeros_part fixD fixD_len j hj),(Only.refl _ w).alloc _⟩
 obtain ⟨i,hi,rfl,HR,HO⟩:=hrel
 by_cases hlt:i<32
 ·have hltI:(i:Int)<32:=by omega
  have hth:=(uh HR).thaw i
  have hce:=(uh HR).cell (j:=i) (by rw[part_len _ _ (by rw[fixD_len];omega),fixD_len];exact hlt)
  rw[Nat.zero_add] at hce
  have HN:=hide ((uh HR).set (i:=i) (by rw[part_len _ _ (by rw[fixD_len];omega),fixD_len];exact hlt) (fixD.getD i 0))
  have HNO:=hide ((uh HO).setCell (p:=⟨w.heap.size,i,none⟩) (fun hh=>absurd hh (Nat.lt_irrefl _)) (.int .i64 ((fixD.getD i 0:Nat):Int)))
  have hv:((fixD.getD i 0:Nat):Int)=5:=by rw[fixD_get i hlt];rfl
  rw[hv] at HNO
  have HN5:Hid (Ints (wr.setCell ⟨w.heap.size,i,none⟩ (.int .i64 5)) w.heap.size 0 ((part fixD i).set i (fixD.getD i 0))):=by
   have:=uh HN;rw[hv] at this;exact this
  clear HN hv
  have HN:=HN5
  clear HN5
  go_wp2_with fail
  go_roundw
  ·refine ⟨i+1,by omega,by go_num, ?_,HNO⟩
   have:=uh HN
   rw[part_set _ _ (by rw[fixD_len];exact hlt)] at this
   exact this
  case measure=>simp[intOf];omega
 have hltI:¬(i:Int)<32:=by omega
 have hie:i=32:=by omega
 have HR2:Hid (Ints wr w.heap.size 0 fixD):=by
  have:=uh HR
  rw[hie,part_all _ _ fixD_len] at this
  exact this
 clear hie HR
 go_wp2_with fail
 go_ret
 exact ⟨rfl,HR2,HO⟩
theorem fixedSymC(w:World):
 Calls Tryz.prog 143 #[] w fun r w' =>r=.returned (.slice (some ⟨w.heap.size,0,none⟩) 288 288)∧Ints w' w.heap.size 0 fixL∧Old w w' :=by
 obtain ⟨i0,hi0,hz0,hz1,hz2⟩:=info_parts infoI3
 have hmk: ∀W:World,(Instr.makeSlice 33 (.int .i64 288) (.int .i64 288)).run Tryz.prog W=.ok (.slice (some ⟨W.heap.size,0,none⟩) 288 288) (W.alloc (.cells (madeCells #[.int .i64 0] 288) 3)):=by
  intro W
  have h:=run_make (P:=Tryz.prog) W 33 3 i0 (.int .i64 0) Tryz.underlying33 hi0 hz0 .i64 .i64 288 288 (by omega) (by omega) (by rw[hz2];decide) (by decide)
  rw[hz1] at h
  exact h
 go_in
 go_wp2_with fail
 clear hmk
 go_loopw [2,6] (fun _ z wr=> ∃i:Nat,i≤288∧z=.int .i64 i∧Hid (Ints wr w.heap.size 0 (part fixL i))∧Hid (Old w wr)) (fun _ z _=>288- (intOf z).toNat)
 ·exact ⟨0,by omega,rfl,Ints.new w rfl (fun j hj=>zeros_part fixL fixL_len j hj),(Only.refl _ w).alloc _⟩
 obtain ⟨i,hi,rfl,HR,HO⟩:=hrel
 by_cases hlt:i<288
 ·have hltI:(i:Int)<288:=by omega
  have hth:=(uh HR).thaw i
  have hce:=(uh HR).cell (j:=i) (by rw[part_len _ _ (by rw[fixL_len];omega),fixL_len];exact hlt)
  rw[Nat.zero_add] at hce
  have HN:=hide ((uh HR).set (i:=i) (by rw[part_len _ _ (by rw[fixL_len];omega),fixL_len];exact hlt) (fixL.getD i 0))
  have HNO:=hide ((uh HO).setCell (p:=⟨w.heap.size,i,none⟩) (fun hh=>absurd hh (Nat.lt_irrefl _)) (.int .i64 ((fixL.getD i 0:Nat):Int)))
  have HC:=hide (fun W=>fixBitsC i hlt W)
  generalize hfx:((fixL.getD i 0:Nat):Int)=fx at HC HN HNO
  go_wp2_with (refine (uh HC _).mono ?_;rintro r w' ⟨rfl,rfl⟩)
  go_roundw
  ·refine ⟨i+1,by omega,by go_num, ?_,HNO⟩
   have:=uh HN
   rw[part_set _ _ (by rw[fixL_len];exact hlt)] at this
   exact this
  case measure=>simp[intOf];omega
 have hltI:¬(i:Int)<288:=by omega
 have hie:i=288:=by omega
 have HR2:Hid (Ints wr w.heap.size 0 fixL):=by
  have:=uh HR
  rw[hie,part_all _ _ fixL_len] at this
  exact this
 clear hie HR
 go_wp2_with fail
 go_ret
 exact ⟨rfl,HR2,HO⟩
theorem timesC(g:Nat)(s:ByteArray)(hs:s.size≤140737488355328)(a:Nat)(o:Value)(y:Nat)(hy:y≤18)(ha:a≤8*s.size)(w:World)(h:Up w g s a o):
 Calls Tryz.prog 309 #[.pointer (some ⟨g,0,none⟩),.int .i64 y] w fun r w' =>Only (fun k=>k=g) w w' ∧
  ((a+rowBits y≤8*s.size∧Up w' g s (a+rowBits y) o∧r=.returned (.tuple #[.int .i64 ((rowBase y+numAt s a (rowBits y):Nat):Int),.bool true]))∨
   (8*s.size<a+rowBits y∧Up w' g s (8*s.size) o∧ ∃n:Int,r=.returned (.tuple #[.int .i64 n,.bool false]))):=by
 by_cases h16:y=16
 ·subst h16
  rw[show rowBits 16=2 from rfl,show rowBase 16=3 from rfl]
  have HNC:=hide (numberC g s hs a o 2 (by omega) ha w h)
  have hnl:=numAt_lt s a 2
  clear h
  skip
  go_in
  go_wp2_with fail
  refine (uh HNC).mono ?_
  rintro r w2 ⟨ho2,hcs⟩
  generalize hnn:numAt s a 2=nn at*
  have HO2:=hide ho2
  clear ho2 HNC
  rcases hcs with ⟨hle,rfl,hup⟩|⟨hle,rfl,hup⟩
  ·have HUP:=hide hup
   have HLE:=hide hle
   clear hup hle
   go_wp2_with fail
   go_ret2
   exact ⟨HO2,.inl ⟨HLE,HUP,ret2_eq (congrArg (Value.int .i64) (by rw[hnn];omega)) rfl⟩⟩
  have HUP:=hide hup
  have HLE:=hide hle
  clear hup hle
  go_wp2_with fail
  go_ret2
  exact ⟨HO2,.inr ⟨HLE,HUP,_,rfl⟩⟩
 by_cases h17:y=17
 ·subst h17
  rw[show rowBits 17=3 from rfl,show rowBase 17=3 from rfl]
  have HNC:=hide (numberC g s hs a o 3 (by omega) ha w h)
  have hnl:=numAt_lt s a 3
  clear h
  skip
  go_in
  go_wp2_with fail
  refine (uh HNC).mono ?_
  rintro r w2 ⟨ho2,hcs⟩
  generalize hnn:numAt s a 3=nn at*
  have HO2:=hide ho2
  clear ho2 HNC
  rcases hcs with ⟨hle,rfl,hup⟩|⟨hle,rfl,hup⟩
  ·have HUP:=hide hup
   have HLE:=hide hle
   clear hup hle
   go_wp2_with fail
   go_ret2
   exact ⟨HO2,.inl ⟨HLE,HUP,ret2_eq (congrArg (Value.int .i64) (by rw[hnn];omega)) rfl⟩⟩
  have HUP:=hide hup
  have HLE:=hide hle
  clear hup hle
  go_wp2_with fail
  go_ret2
  exact ⟨HO2,.inr ⟨HLE,HUP,_,rfl⟩⟩
 by_cases h18:y=18
 ·subst h18
  rw[show rowBits 18=7 from rfl,show rowBase 18=11 from rfl]
  have HNC:=hide (numberC g s hs a o 7 (by omega) ha w h)
  have hnl:=numAt_lt s a 7
  clear h
  skip
  go_in
  go_wp2_with fail
  refine (uh HNC).mono ?_
  rintro r w2 ⟨ho2,hcs⟩
  generalize hnn:numAt s a 7=nn at*
  have HO2:=hide ho2
  clear ho2 HNC
  rcases hcs with ⟨hle,rfl,hup⟩|⟨hle,rfl,hup⟩
  ·have HUP:=hide hup
   have HLE:=hide hle
   clear hup hle
   go_wp2_with fail
   go_ret2
   exact ⟨HO2,.inl ⟨HLE,HUP,ret2_eq (congrArg (Value.int .i64) (by rw[hnn];omega)) rfl⟩⟩
  have HUP:=hide hup
  have HLE:=hide hle
  clear hup hle
  go_wp2_with fail
  go_ret2
  exact ⟨HO2,.inr ⟨HLE,HUP,_,rfl⟩⟩
 rw[show rowBits y=0 by simp[rowBits,h16,h17,h18],show rowBase y=1 by simp[rowBase,h16,h17,h18]]
 have HNC:=hide (numberC g s hs a o 0 (by omega) ha w h)
 have hnl:=numAt_lt s a 0
 clear h
 have q1:((y:Int)==16)=false:=by rw[beq_eq_false_iff_ne];omega
 have q2:((y:Int)==17)=false:=by rw[beq_eq_false_iff_ne];omega
 have q3:((y:Int)==18)=false:=by rw[beq_eq_false_iff_ne];omega
 go_in
 go_wp2_with fail
 refine (uh HNC).mono ?_
 rintro r w2 ⟨ho2,hcs⟩
 generalize hnn:numAt s a 0=nn at*
 have HO2:=hide ho2
 clear ho2 HNC
 rcases hcs with ⟨hle,rfl,hup⟩|⟨hle,rfl,hup⟩
 ·have HUP:=hide hup
  have HLE:=hide hle
  clear hup hle
  go_wp2_with fail
  go_ret2
  exact ⟨HO2,.inl ⟨HLE,HUP,ret2_eq (congrArg (Value.int .i64) (by rw[hnn];omega)) rfl⟩⟩
 have HUP:=hide hup
 have HLE:=hide hle
 clear hup hle
 go_wp2_with fail
 go_ret2
 exact ⟨HO2,.inr ⟨HLE,HUP,_,rfl⟩⟩
theorem fixL_15: ∀j,fixL.getD j 0≤15:=by
 intro j
 rcases Nat.lt_or_ge j 288 with h|h
 ·rw[fixL_get j h];repeat (first|split|omega)
 rw[List.getD_eq_getElem?_getD,List.getElem?_eq_none (by rw[fixL_len];exact h)];exact Nat.zero_le _
theorem fixD_15: ∀j,fixD.getD j 0≤15:=by
 intro j
 rcases Nat.lt_or_ge j 32 with h|h
 ·rw[fixD_get j h];omega
 rw[List.getD_eq_getElem?_getD,List.getElem?_eq_none (by rw[fixD_len];exact h)];exact Nat.zero_le _
theorem SetAt.mono{w:World}{gs:Nat}{K K' :Nat→Prop}{L:List Nat}(h:SetAt w gs K L)(hk: ∀k,K k→K' k):SetAt w gs K' L:=by
 obtain ⟨cur,hg,hk0,hf,hr⟩:=h
 refine ⟨cur,hg,hk _ hk0,hf,fun n hn=> ?_⟩
 obtain ⟨ao,cap,h1,h2⟩:=hr n hn
 refine ⟨ao,cap,h1,fun j hj=> ?_⟩
 obtain ⟨b,hb,hkb,hc⟩:=h2 j hj
 exact ⟨b,hb,hk b hkb,hc⟩
theorem infoSets:(Tryz.prog.info? 112).map (·.size)=some 2:=by kernel_rfl
theorem ptr2_one(p q:Option Addr):(#[Value.pointer p,.pointer q]:Array Value).all (·.oneCell')=true:=by simp[Value.oneCell']
theorem fixedSetsC(w:World):
 Calls Tryz.prog 75 #[] w fun r w' => ∃g1 g2:Nat,r=.returned (.agg #[.pointer (some ⟨g1,0,none⟩),.pointer (some ⟨g2,0,none⟩)])∧Old w w' ∧
  SetAt w' g1 (fun k=>w.heap.size≤k∧k<w'.heap.size) fixL∧SetAt w' g2 (fun k=>w.heap.size≤k∧k<w'.heap.size) fixD:=by
 go_in
 go_wp2_with fail
 have hO0:Old w (w.alloc (.cells #[.pointer none,.pointer none] 112)):=(Only.refl _ w).alloc _
 have hZ0:(w.alloc (.cells #[.pointer none,.pointer none] 112)).heap[w.heap.size]? =some (.cells #[.pointer none,.pointer none] 112 (0,0)):=Go.heap_alloc_new w _
 have hs0:w.heap.size<(w.alloc (.cells #[.pointer none,.pointer none] 112)).heap.size:=by simp only[World.size_alloc];omega
 generalize w.alloc (.cells #[.pointer none,.pointer none] 112)=w0 at*
 refine (fixedSymC w0).mono ?_
 rintro r w1 ⟨rfl,hI1,ho1⟩
 have HM1:=hide (makeC w0.heap.size 0 288 fixL (by rw[fixL_len];omega) fixL_15 w1 hI1)
 have hs1:=ho1.size
 have HO1:=hide (hO0.trans ho1)
 have HZ1:=hide ((ho1.block w.heap.size hs0 (fun x=>x)).trans hZ0)
 rw[fixL_len] at HM1
 clear hO0 hZ0 hI1 ho1
 go_wp2_with fail
 refine (uh HM1).mono ?_
 rintro r w2 ⟨rfl,ho2,hS2⟩
 have hs2:=ho2.size
 have HO2:=hide ((uh HO1).trans ho2)
 have HZ2:=hide ((ho2.block w.heap.size (by omega) (fun x=>x)).trans (uh HZ1))
 have HS2:=hide hS2
 clear hS2 ho2 HO1 HZ1 HM1
 go_wp2_with fail
 refine (fixedDistC w2).mono ?_
 rintro r w3 ⟨rfl,hI3,ho3⟩
 have HM3:=hide (makeC w2.heap.size 0 32 fixD (by rw[fixD_len];omega) fixD_15 w3 hI3)
 have hs3:=ho3.size
 have HO3:=hide ((uh HO2).trans ho3)
 have HZ3:=hide ((ho3.block w.heap.size (by omega) (fun x=>x)).trans (uh HZ2))
 have HS3:=hide ((uh HS2).old ho3)
 rw[fixD_len] at HM3
 clear hI3 ho3 HO2 HZ2 HS2
 go_wp2_with fail
 refine (uh HM3).mono ?_
 rintro r w4 ⟨rfl,ho4,hS4⟩
 have hs4:=ho4.size
 have HO4:=hide ((uh HO3).trans ho4)
 have hZ4:=(ho4.block w.heap.size (by omega) (fun x=>x)).trans (uh HZ3)
 have HL4:=hide ((uh HS3).old ho4)
 have HD4:=hide hS4
 clear hS4 ho4 HO3 HZ3 HS3 HM3
 go_wp2_with (refine wpList_store_row rfl 112 (.tmp 0) (.tmp 5) rfl w.heap.size #[.pointer (some ⟨w1.heap.size,0,none⟩),.pointer (some ⟨w3.heap.size,0,none⟩)] rfl rfl 112 _ hZ4 infoSets rfl (ptr2_one _ _) ?_)
 refine bodyPost_ret (v:=.agg #[.pointer (some ⟨w1.heap.size,0,none⟩),.pointer (some ⟨w3.heap.size,0,none⟩)]) (results_cell_row Tryz.results75 _ _ w.heap.size 112 _ (0,0) _ rfl (setRow_heap w4 w.heap.size _ _ _ _ hZ4) Tryz.underlying112 rfl infoSets) rfl ⟨w1.heap.size,w3.heap.size,rfl, ?_, ?_, ?_⟩
 ·exact (uh HO4).setRow _ (fun h=>absurd h (Nat.lt_irrefl _)) _
 ·have hq:=(Only.refl (fun k=>k=w.heap.size) w4).setRow w.heap.size (fun _=>rfl) #[.pointer (some ⟨w1.heap.size,0,none⟩),.pointer (some ⟨w3.heap.size,0,none⟩)]
  have hqs:=hq.size
  exact ((uh HL4).kept hq (fun k hk e=>by omega)).mono (fun k hk=>⟨by omega,by omega⟩)
 have hq:=(Only.refl (fun k=>k=w.heap.size) w4).setRow w.heap.size (fun _=>rfl) #[.pointer (some ⟨w1.heap.size,0,none⟩),.pointer (some ⟨w3.heap.size,0,none⟩)]
 have hqs:=hq.size
 exact ((uh HD4).kept hq (fun k hk e=>by omega)).mono (fun k hk=>⟨by omega,by omega⟩)
theorem rightRowC(gl:Nat)(oL oD cL cD:Nat)(L D:List Nat)(hL0:256<L.length)(hL:L.length≤400)(hD:D.length≤400)(hL15: ∀j,L.getD j 0≤15)(hD15: ∀j,D.getD j 0≤15)(w:World)(hIL:Ints w gl oL L)(hID:Ints w gl oD D):
 Calls Tryz.prog 245 #[.slice (some ⟨gl,oL,none⟩) L.length cL,.slice (some ⟨gl,oD,none⟩) D.length cD] w fun r w' =>r=.returned (.bool (decide (L.getD 256 0≠0)&&fitS L&&fitD D))∧w' =w:=by
 have hce:=hIL.cell hL0
 have HFL:=hide (fitC gl oL cL L hL hL15 w hIL)
 have HFD:=hide (fitDistC gl oD cD D hD hD15 w hID)
 have h256:(256:Int)<(L.length:Int):=by omega
 clear hIL hID hL15 hD15
 generalize L.getD 256 0=x at*
 by_cases hx:x=0
 ·subst hx
  have hce' :w.cell? ⟨gl,oL+256,none⟩=some (.int .i64 0):=hce
  clear hce
  go_in
  go_wp2_with fail
  go_ret
  exact ⟨ret1_eq (congrArg Value.bool (by simp)),rfl⟩
 have hxp:(0:Int)<(x:Int):=by omega
 have HX:=hide hx
 by_cases hf:fitS L=true
 ·rw[hf] at HFL
  go_in
  go_wp2_with fail
  refine (uh HFL).mono ?_
  rintro r w' ⟨rfl,rfl⟩
  go_wp2_with fail
  refine (uh HFD).mono ?_
  rintro r w' ⟨rfl,rfl⟩
  go_wp2_with fail
  go_ret
  exact ⟨ret1_eq (congrArg Value.bool (by rw[hf];simp[uh HX])),rfl⟩
 have hff:fitS L=false:=by simpa using hf
 rw[hff] at HFL
 go_in
 go_wp2_with fail
 refine (uh HFL).mono ?_
 rintro r w' ⟨rfl,rfl⟩
 go_wp2_with fail
 go_ret
 exact ⟨ret1_eq (congrArg Value.bool (by rw[hff];simp)),rfl⟩
end Go.Proofs.YtndfmgdhiallpaaGreatDoor
