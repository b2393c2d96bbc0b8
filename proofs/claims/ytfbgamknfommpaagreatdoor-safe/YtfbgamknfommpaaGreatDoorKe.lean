import Derived.Test.YtfbgamknfommpaaGreatDoorKc
set_option maxRecDepth 100000
set_option maxHeartbeats 800000
namespace Go.Proofs.YtfbgamknfommpaaGreatDoor.dk
open Go.RowKit
def Kpt(base:Nat)(w:World)(v:Value)(ts:List Th):Prop:=Thg w v ts∧((ts=[]∧ ∃ao,v=.slice ao 0 0)∨ ∀k,v.ownBlock=some k→base≤k)
theorem run_append_empty{w:World}{ao:Option Addr}(h:Thg w (.slice ao 0 0) []){x:Value}{t:Th}(hx:Shows w x [t])(ty:TypeId):
 ∃v' w',(Builtin.append_ #[66,66] ty #[.slice ao 0 0,x]).run Tryz.prog w=.ok v' w' ∧Thg w' v' [t]∧w.grownBy w' none∧ ∀k,v'.ownBlock=some k→w.heap.size≤k:=by
 cases ao with
 |none=>
  obtain ⟨v',w',h1,h2,h3,h4⟩:=run_append_thg h hx ty (by simp)
  refine ⟨v',w',h1,h2,h3, ?_⟩
  rcases h4 with h4|h4
  ·intro k hk;rw[h4] at hk;cases hk
  exact h4
 |some b=>
  obtain ⟨i,hi,hz0,hz1,hz2⟩:=info_parts info41
  obtain ⟨ao,c,rfl,hn,hc⟩:=hx
  cases ao with
  |none=>have:=hn rfl;cases this
  |some a=>
   have hr:=run_append_grow (P:=Tryz.prog) w 66 ty 71 i _ Tryz.underlying66 hi hz0 b 0 0 [] (by simp) (by simp) a 1 c (flat [t]) (by rw[hz1];rfl) (hc a rfl) (by omega) (by omega) (growslice_fits (by omega) (by rw[hz2];omega))
   have hge:=grownCap_ge w (0+1) 0 71
   have hcm:grownCap w (0+1) 0 71≤maxLen:=grownCap_le_maxLen w (0+1) 0 71 (by unfold maxLen;omega)
   refine ⟨_,_,hr,.inr ⟨w.heap.size,_,_,rfl,Go.heap_alloc_new w.drew _,hge,hcm, ?_, ?_⟩,⟨rfl,rfl,rfl,by simp,fun k hk _=>Below.heap_alloc w.drew _ k hk⟩,fun k hk=>by simp[Value.ownBlock] at hk;omega⟩
   ·simp only[Array.size_append,List.size_toArray,size_zeroCells,flat_length]
    simp only[Value.cells,List.size_toArray,List.length_cons,List.length_nil]
    omega
   simp[flat]
theorem run_append_kpt{base:Nat}{w:World}{v:Value}{ts:List Th}(h:Kpt base w v ts){x:Value}{t:Th}(hx:Shows w x [t])(ty:TypeId)(hB:base≤w.heap.size)(hb:(ts.length+1)*40≤140737488355328):
 ∃v' w',(Builtin.append_ #[66,66] ty #[v,x]).run Tryz.prog w=.ok v' w' ∧Kpt base w' v' (ts++[t])∧Only (fun k=>base≤k∧v.ownBlock=some k) w w' ∧
  (v'.ownBlock=v.ownBlock∨ ∀k,v'.ownBlock=some k→w.heap.size≤k):=by
 obtain ⟨ht,h⟩:=h
 rcases h with ⟨rfl,ao,rfl⟩|h
 ·obtain ⟨v',w',h1,h2,h3,h4⟩:=run_append_empty ht hx ty
  exact ⟨v',w',h1,⟨h2,.inr fun k hk=>Nat.le_trans hB (h4 k hk)⟩,(Only.refl _ w).grown h3 (fun k _ e=>by cases e),.inr h4⟩
 obtain ⟨v',w',h1,h2,h3,h4⟩:=run_append_thg ht hx ty (by simpa using hb)
 refine ⟨v',w',h1,⟨h2,.inr ?_⟩,(Only.refl _ w).grown h3 (fun k _ e=>⟨h k e,e⟩),h4⟩
 intro k hk
 rcases h4 with h4|h4
 ·exact h k (h4 ▸ hk)
 exact Nat.le_trans hB (h4 k hk)
theorem wpList_append_kpt{w:World}{ops:Array Oper}{rest:List Oper}{o:Oper}{a:Act}{Q:Exit→Act→World→Prop}(hgd:o.guard=none)(s x:Operand)
 (ho:o.op=.call {callee:=.builtin .append,args:= #[s,x],argTypes:= #[66,66]})
 (base:Nat)(v xv:Value)(ts:List Th)(t:Th)(hs:a.eval s=v)(hx:a.eval x=xv)(h:Kpt base w v ts)(hsh:Shows w xv [t])(hB:base≤w.heap.size)(hb:(ts.length+1)*40≤140737488355328)
 (hK: ∀v' w',Kpt base w' v' (ts++[t])→Only (fun k=>base≤k∧v.ownBlock=some k) w w' →(v'.ownBlock=v.ownBlock∨ ∀k,v'.ownBlock=some k→w.heap.size≤k)→wpList Tryz.prog ops Q rest (a.put o.dst v') w'):
 wpList Tryz.prog ops Q (o::rest) a w:=by
 refine wpList_plain hgd fun K hK' => ?_
 obtain ⟨v',w',hrun,h1,h2,h3⟩:=run_append_kpt h hsh o.type hB hb
 unfold Oper.wp
 simp[execOp,ho,resolve,invoke,builtin,hs,hx,hrun,Result.andThen]
 exact hK' _ _ (hK v' w' h1 h2 h3)
theorem Kpt.kept{base:Nat}{w w' :World}{v:Value}{ts:List Th}{S:Nat→Prop}(h:Kpt base w v ts)(ho:Only S w w')(hs: ∀k,v.ownBlock=some k→¬S k):Kpt base w' v ts:=⟨h.1.kept ho hs,h.2⟩
theorem within_size{p u:ByteArray}(h:withinB p u=true):u.size≤p.size:=by
 unfold withinB at h
 rw[Bool.or_eq_true] at h
 rcases h with h|h
 ·have e:p.toList=u.toList:=by simpa using h
  have:=congrArg List.length e
  rw[size_toList,size_toList] at this
  omega
 split at h
 ·omega
 cases h
def movedTo(fr tw:ByteArray)(t:Th):Th:={t with p:=tw++t.p.extract fr.size t.p.size}
def keptOf(ts:List Th)(fr:ByteArray):List Th:=ts.filter fun t=> !withinB t.p fr
def movedOf(ts:List Th)(fr tw:ByteArray):List Th:=(ts.filter fun t=>withinB t.p fr).map (movedTo fr tw)
def putAll(ts:List Th)(us:List Th):List Th:=us.foldl ins ts
def renameOf(D:Dsk)(fr tw:ByteArray):Int×Dsk:=
 if goes D then
  (if isOf D.ts fr==0 then (1,stepped D)
   else if freeOf D.ts tw==0 then
    (if withinB tw fr then (1,stepped D) else (0,{stepped D with ts:=putAll (keptOf D.ts fr) (movedOf D.ts fr tw)}))
   else (freeOf D.ts tw,stepped D))
 else (4,stepped D)
theorem kept_yes{ts:List Th}{fr:ByteArray}{k:Nat}(h:k<ts.length)(hs:withinB (nth ts k).p fr=false):keptOf (ts.take (k+1)) fr=keptOf (ts.take k) fr++[nth ts k]:=by
 rw[take_snoc_nth ts k h];simp[keptOf,hs]
theorem kept_no{ts:List Th}{fr:ByteArray}{k:Nat}(h:k<ts.length)(hs:withinB (nth ts k).p fr=true):keptOf (ts.take (k+1)) fr=keptOf (ts.take k) fr:=by
 rw[take_snoc_nth ts k h];simp[keptOf,hs]
theorem moved_yes{ts:List Th}{fr tw:ByteArray}{k:Nat}(h:k<ts.length)(hs:withinB (nth ts k).p fr=true):movedOf (ts.take (k+1)) fr tw=movedOf (ts.take k) fr tw++[movedTo fr tw (nth ts k)]:=by
 rw[take_snoc_nth ts k h];simp[movedOf,hs]
theorem moved_no{ts:List Th}{fr tw:ByteArray}{k:Nat}(h:k<ts.length)(hs:withinB (nth ts k).p fr=false):movedOf (ts.take (k+1)) fr tw=movedOf (ts.take k) fr tw:=by
 rw[take_snoc_nth ts k h];simp[movedOf,hs]
theorem kept_moved_len(ts:List Th)(fr tw:ByteArray):(keptOf ts fr).length+(movedOf ts fr tw).length=ts.length:=by
 induction ts with
 |nil=>rfl
 |cons t r ih=>
  simp only[keptOf,movedOf,List.length_map] at ih ⊢
  cases h:withinB t.p fr<;>simp[h]<;>omega
theorem ins_len(ts:List Th)(t:Th):(ins ts t).length=ts.length+1:=by
 have:=low_le ts t.p
 simp[ins];omega
theorem putAll_len(us:List Th): ∀ts,(putAll ts us).length=ts.length+us.length:=by
 induction us with
 |nil=>intro ts;rfl
 |cons u r ih=>intro ts;show (putAll (ins ts u) r).length=_;rw[ih,ins_len];simp;omega
theorem putAll_snoc(ts us:List Th)(k:Nat)(h:k<us.length):putAll ts (us.take (k+1))=ins (putAll ts (us.take k)) (nth us k):=by
 rw[take_snoc_nth us k h];simp[putAll]
end Go.Proofs.YtfbgamknfommpaaGreatDoor.dk
namespace Go.Proofs.YtfbgamknfommpaaGreatDoor.dk
open Go.RowKit
theorem kp_step{w1 wr w2 w3:World}{u v v' :Value}{us ts' :List Th}(hR:Only (fun _=>False) w1 wr)(h12:Only (fun _=>False) wr w2)(hu:Kpt w1.heap.size wr u us)(hs: ∀k,u.ownBlock=some k→v.ownBlock≠some k)
 (h1:Kpt w1.heap.size w3 v' ts')(h2:Only (fun k=>w1.heap.size≤k∧v.ownBlock=some k) w2 w3)(h3:v'.ownBlock=v.ownBlock∨ ∀k,v'.ownBlock=some k→w2.heap.size≤k):
 Kpt w1.heap.size w3 v' ts' ∧Kpt w1.heap.size w3 u us∧Only (fun _=>False) w1 w3∧(∀k,u.ownBlock=some k→v'.ownBlock≠some k):=by
 refine ⟨h1,(hu.kept h12 (fun _ _ x=>x)).kept h2 (fun k hk e=>hs k hk e.2),(hR.trans h12).transNew h2 (fun i hi e=>by omega), ?_⟩
 intro k hk e
 rcases h3 with h3|h3
 ·exact hs k hk (h3 ▸ e)
 have:=h3 k e
 have:=hu.1.lt k hk
 have:=h12.size
 omega
theorem alloc2_only(wr:World)(a c:Obj):Only (fun _=>False) wr ((wr.alloc a).alloc c):=((Only.refl _ wr).alloc a).alloc c
theorem ren_put{w wr w3:World}{b g mg n cap:Nat}{vj v3 mv:Value}{ms:List Th}(hO:Only (fun k=>k=b∨(Value.slice (some ⟨g,0,none⟩) n cap).ownBlock=some k) w wr)
 (hV:vj.ownBlock=some g∨ ∀k,vj.ownBlock=some k→w.heap.size≤k)(hS:vj.ownBlock≠some mg)(hT:Thg wr mv ms)(hmv:mv.ownBlock=some mg)(hmb:mg≠b)(o:Obj)
 (ho3:Only (fun k=>k=b∨vj.ownBlock=some k) (wr.alloc o) w3)(hv3:v3.ownBlock=vj.ownBlock∨ ∀k,v3.ownBlock=some k→(wr.alloc o).heap.size≤k):
 Only (fun k=>k=b∨(Value.slice (some ⟨g,0,none⟩) n cap).ownBlock=some k) w w3∧(v3.ownBlock=some g∨ ∀k,v3.ownBlock=some k→w.heap.size≤k)∧v3.ownBlock≠some mg∧Thg w3 mv ms:=by
 have hmgl:=hT.lt mg hmv
 refine ⟨(hO.alloc o).transNew ho3 ?_, ?_, ?_, ?_⟩
 ·rintro i hi (e|e)
  ·exact .inl e
  rcases hV with h|h
  ·rw[h] at e;cases e;exact .inr rfl
  have:=h i e;omega
 ·rcases hv3 with e|e
  ·rcases hV with h|h
   ·exact .inl (e.trans h)
   exact .inr fun k hk=>h k (e ▸ hk)
  exact .inr fun k hk=>by have:=e k hk;have:=hO.size;simp at*;omega
 ·intro e
  rcases hv3 with h|h
  ·exact hS (h ▸ e)
  have:=h mg e;simp at this;omega
 refine (hT.kept ((Only.refl (fun _=>False) wr).alloc o) (fun _ _ x=>x)).kept ho3 ?_
 rintro k hk (e|e)
 ·rw[hmv] at hk;cases hk;exact hmb e
 rw[hmv] at hk;cases hk;exact hS e
theorem rename_some{w:World}{b g cap:Nat}{D:Dsk}(h:DiskAt w b (.slice (some ⟨g,0,none⟩) D.ts.length cap) D)(fr tw:ByteArray)(hfr:fr.size≤1000000000000)(hto:tw.size≤1000000000000)(hm:D.ts.length≤1000000000000)
 (hsz: ∀k,k<D.ts.length→(nth D.ts k).p.size≤1000000000000):
 Calls Tryz.prog 104 #[.pointer (some ⟨b,0,none⟩),.string fr,.string tw] w fun e w' =>e=.returned (.int .i64 (renameOf D fr tw).1)∧Turn w w' b (.slice (some ⟨g,0,none⟩) D.ts.length cap) (renameOf D fr tw).2:=by
 have H17:=hide (step_disk h)
 have H12:=hide (fun (w1:World) (h1:DiskAt w1 b (.slice (some ⟨g,0,none⟩) D.ts.length cap) (stepped D))=>is_disk h1 fr hm)
 have H18:=hide (fun (w1:World) (h1:DiskAt w1 b (.slice (some ⟨g,0,none⟩) D.ts.length cap) (stepped D))=>free_disk h1 tw hto hm)
 have H20:=hide (fun (w1:World) (q:ByteArray)=>within_any q fr w1 hfr)
 simp only[stepped_ts] at H12 H18
 unfold renameOf
 clear h
 cases hgo:goes D
 ·rw[hgo] at H17
  go_in
  go_wp2_with (go_at_call 30;refine (uh H17).mono ?_;rintro e w1 ⟨rfl,hd,ho⟩)
  go_ret
  exact ⟨rfl,Turn.of hd ho⟩
 rw[hgo] at H17
 generalize isOf D.ts fr=fi at*
 generalize freeOf D.ts tw=fe at*
 cases hfi:(fi==0)
 rotate_left
 ·go_in
  go_wp2_with (first
   |(go_at_call 30;refine (uh H17).mono ?_;rintro e w1 ⟨rfl,hd,ho⟩;have HD:=hide hd;have HO:=hide ho;clear hd ho)
   |(go_at_call 18;refine (uh H12 _ (uh HD)).mono ?_;rintro e w2 ⟨rfl,n,rfl⟩))
  go_ret
  exact ⟨rfl,(Turn.of (uh HD) (uh HO)).drewN n⟩
 cases hfe:(fe !=0)
 rotate_left
 ·have hfe' :(fe==0)=false:=by simpa [bne] using hfe
  go_in
  go_wp2_with (first
   |(go_at_call 30;refine (uh H17).mono ?_;rintro e w1 ⟨rfl,hd,ho⟩;have HD:=hide hd;have HO:=hide ho;clear hd ho)
   |(go_at_call 18;refine (uh H12 _ (uh HD)).mono ?_;rintro e w2 ⟨rfl,n,rfl⟩)
   |(go_at_call 31;refine (uh H18 _ (by exact uh HD)).mono ?_;rintro e w2 ⟨rfl,n2,rfl⟩))
  go_ret
  exact ⟨rfl,(Turn.of (uh HD) (uh HO)).drewN _⟩
 have hfe' :(fe==0)=true:=by simpa [bne] using hfe
 cases hwi:withinB tw fr
 rotate_left
 ·go_in
  go_wp2_with (first
   |(go_at_call 30;refine (uh H17).mono ?_;rintro e w1 ⟨rfl,hd,ho⟩;have HD:=hide hd;have HO:=hide ho;clear hd ho)
   |(go_at_call 18;refine (uh H12 _ (uh HD)).mono ?_;rintro e w2 ⟨rfl,n,rfl⟩)
   |(go_at_call 31;refine (uh H18 _ (by exact uh HD)).mono ?_;rintro e w2 ⟨rfl,n2,rfl⟩)
   |(go_at_call 65;refine (uh H20 _ _).mono ?_;rintro e w2 ⟨rfl,rfl⟩))
  go_ret
  exact ⟨rfl,(Turn.of (uh HD) (uh HO)).drewN _⟩
 go_in
 go_wp2_with (first
  |(go_at_call 30;refine (uh H17).mono ?_;rintro e w1 ⟨rfl,hd,ho⟩;have hc:=hd.cells.1;have hfz:=hd.thaw;have HD:=hide hd;have HO:=hide ho;clear hd ho)
  |(go_at_call 18;refine (uh H12 _ (uh HD)).mono ?_;rintro e w2 ⟨rfl,n,rfl⟩)
  |(go_at_call 31;refine (uh H18 _ (by exact uh HD)).mono ?_;rintro e w2 ⟨rfl,n2,rfl⟩)
  |(go_at_call 65;refine (uh H20 _ _).mono ?_;rintro e w2 ⟨rfl,rfl⟩))
 go_loopw [8,9,40] (fun mv kv i wr=> ∃j:Nat,j≤D.ts.length∧i=.int .i64 j∧Hid (Kpt w1.heap.size wr mv (movedOf (D.ts.take j) fr tw))∧Hid (Kpt w1.heap.size wr kv (keptOf (D.ts.take j) fr))∧Hid (Only (fun _=>False) w1 wr)∧
  Hid (∀k,mv.ownBlock=some k→kv.ownBlock≠some k)∧Hid (∀k,mv.ownBlock=some k→w1.heap.size≤k)∧Hid (kv.ownBlock=some g∨ ∀k,kv.ownBlock=some k→w1.heap.size≤k)) (fun _ _ i _=>D.ts.length- (intOf i).toNat)
 ·have hk0:Kpt w1.heap.size w1 (.slice (some ⟨g,0,none⟩) 0 0) []:=by
   obtain ⟨cur,hg,_⟩:=(uh HD).row
   exact ⟨.inr ⟨g,0,cur,rfl,hg,by simp,by simp,by simp,by simp[flat]⟩,.inl ⟨rfl,_,rfl⟩⟩
  exact ⟨0,Nat.zero_le _,rfl,⟨Thg.nil _,.inl ⟨rfl,_,rfl⟩⟩,hk0,(Only.refl _ _).drewN _,(fun k hk=>by cases hk),(fun k hk=>by cases hk),.inl rfl⟩
 obtain ⟨j,hj,rfl,HM,HK,HR,HS,HB,HG⟩:=hrel
 have HDr:=hide ((uh HD).kept (uh HR) (fun x=>x) (fun _ _ x=>x))
 by_cases hjl:j<D.ts.length
 ·obtain ⟨cur,hg,hcap,hcm,hcs,hrow⟩:=(uh HDr).row
  obtain ⟨r0,r1,r2⟩:=row_cells hg hrow j hjl
  have hts:=hsz j hjl
  clear hg hcap hcm hcs hrow hc
  simp only[stepped_ts] at r0 r1 r2
  have HKY:=hide (kept_yes (fr:=fr) hjl)
  have HKN:=hide (kept_no (fr:=fr) hjl)
  have HMY:=hide (moved_yes (fr:=fr) (tw:=tw) hjl)
  have HMN:=hide (moved_no (fr:=fr) (tw:=tw) hjl)
  have hlen:=kept_moved_len (D.ts.take j) fr tw
  rw[List.length_take] at hlen
  have hwsz:=hide (fun h=>within_size (p:=(nth D.ts j).p) (u:=fr) h)
  generalize nth D.ts j=t at*
  cases hw:withinB t.p fr
  ·have hbs:=(uh HR).size
   have HKa:Hid (Kpt w1.heap.size ((wr.alloc (.cells #[.string t.p,.bool t.f,.string t.d] 71)).alloc (.cells #[.string t.p,.bool t.f,.string t.d] 71)) u9 (keptOf (D.ts.take j) fr)):=(uh HK).kept (alloc2_only wr _ _) (fun _ _ x=>x)
   have HSa:=hide (shows_new (w:=wr.alloc (.cells #[.string t.p,.bool t.f,.string t.d] 71)) (g:=wr.heap.size+1) (by simp) t)
   go_wp2_with (first
    |(go_at_call 65;refine (uh H20 _ _).mono ?_;rintro e w2 ⟨rfl,rfl⟩)
    |(at_builtin;refine wpList_append_kpt rfl (.tmp 60) (.tmp 62) rfl w1.heap.size u9 _ (keptOf (D.ts.take j) fr) t rfl rfl (uh HKa) (uh HSa) (by simp;omega) (by omega) ?_;intro v' w3 h1 h2 h3;have H1:=hide h1;have H2:=hide h2;have H3:=hide h3;clear h1 h2 h3))
   go_roundw
   ·have R:=kp_step (uh HR) (alloc2_only wr _ _) (uh HM) (uh HS) (uh H1) (uh H2) (uh H3)
    refine ⟨j+1,by omega,by go_num, ?_, ?_,R.2.2.1,R.2.2.2,HB, ?_⟩
    ·rw[uh HMN hw];exact R.2.1
    ·rw[uh HKY hw];exact R.1
    rcases uh H3 with e|e
    ·rcases uh HG with e2|e2
     ·exact .inl (e.trans e2)
     exact .inr fun k hk=>e2 k (e ▸ hk)
    exact .inr fun k hk=>by have:=e k hk;simp at this;omega
   case measure=>simp[intOf];omega
  have hws:=uh hwsz hw
  have hbs:=(uh HR).size
  have HKa:Hid (Kpt w1.heap.size ((wr.alloc (.cells #[.string (tw++t.p.extract fr.size t.p.size),.bool t.f,.string t.d] 71)).alloc (.cells #[.string (tw++t.p.extract fr.size t.p.size),.bool t.f,.string t.d] 71)) u8 (movedOf (D.ts.take j) fr tw)):=(uh HM).kept (alloc2_only wr _ _) (fun _ _ x=>x)
  have HSa:=hide (shows_new (w:=wr.alloc (.cells #[.string (tw++t.p.extract fr.size t.p.size),.bool t.f,.string t.d] 71)) (g:=wr.heap.size+1) (by simp) (movedTo fr tw t))
  go_wp2_with (first
   |(go_at_call 65;refine (uh H20 _ _).mono ?_;rintro e w2 ⟨rfl,rfl⟩)
   |(at_builtin;refine wpList_append_kpt rfl (.tmp 56) (.tmp 58) rfl w1.heap.size u8 _ (movedOf (D.ts.take j) fr tw) (movedTo fr tw t) rfl rfl (uh HKa) (uh HSa) (by simp;omega) (by omega) ?_;intro v' w3 h1 h2 h3;have H1:=hide h1;have H2:=hide h2;have H3:=hide h3;clear h1 h2 h3))
  go_roundw
  ·have R:=kp_step (uh HR) (alloc2_only wr _ _) (uh HK) (fun k hk e=>uh HS k e hk) (uh H1) (uh H2) (uh H3)
   refine ⟨j+1,by omega,by go_num, ?_, ?_,R.2.2.1,fun k hk e=>R.2.2.2 k e hk, ?_,HG⟩
   ·rw[uh HMY hw];exact R.1
   ·rw[uh HKN hw];exact R.2.1
   intro k hk
   rcases uh H3 with e|e
   ·exact uh HB k (e ▸ hk)
   have:=e k hk
   simp at this;omega
  case measure=>simp[intOf];omega
 have hE:D.ts.take j=D.ts:=List.take_of_length_le (by omega)
 rw[hE] at HM HK
 clear hE
 have hlen:=kept_moved_len D.ts fr tw
 obtain ⟨ks,hks⟩: ∃ks,keptOf D.ts fr=ks:=⟨_,rfl⟩
 obtain ⟨ms,hms0⟩: ∃ms,movedOf D.ts fr tw=ms:=⟨_,rfl⟩
 rw[hks] at HK hlen
 rw[hms0] at HM hlen
 have HKS:=hide hks
 have HMS:=hide hms0
 clear hks hms0
 have hgb:g≠b:=fun e=>(uh HD).2.2 (by rw[←e];rfl)
 have hkb:u9.ownBlock≠some b:=by
  intro e
  rcases uh HG with h|h
  ·rw[h] at e;cases e;exact hgb rfl
  have:=h b e;have:=(uh HD).lt;omega
 have HTk:=hide ((uh HK).1)
 have c0:=(uh HDr).cells.1
 have hfr0:=(uh HDr).thaw
 have HO0:Hid (Only (fun k=>k=b) w wr):=(uh HO).transNew (uh HR) (fun _ _ x=>x.elim)
 obtain ⟨ako,kc,hkf⟩:=(uh HTk).form
 subst hkf
 have HD0:=hide ((uh HDr).setThings (uh HTk) hkb)
 have HO1:Hid (Only (fun k=>k=b∨(Value.slice (some ⟨g,0,none⟩) D.ts.length cap).ownBlock=some k) w (wr.setCell ⟨b,0,none⟩ (.slice ako ks.length kc))):=((uh HO0).setCell (p:=⟨b,0,none⟩) (fun _=>rfl) _).mono (fun _ _ e=> .inl e)
 have HV1:Hid ((Value.slice ako ks.length kc).ownBlock=some g∨ ∀k,(Value.slice ako ks.length kc).ownBlock=some k→w.heap.size≤k):=by
  rcases uh HG with e|e
  ·exact .inl e
  exact .inr fun k hk=>Nat.le_trans (uh HO).size (e k hk)
 have HT1:Hid (Thg (wr.setCell ⟨b,0,none⟩ (.slice ako ks.length kc)) u8 ms):=(uh HM).1.kept (only_set _ _ _ _) (fun k hk e=>by have:=uh HB k hk;have:=(uh HD).lt;omega)
 have HMB:Hid (∀k,u8.ownBlock=some k→k≠b):=fun k hk e=>by have:=uh HB k hk;have:=(uh HD).lt;omega
 clear HDr HM HK HTk HR HB HO HD HG HO0 H17 H12 H18 H20
 have H19:=hide (fun (ws:World) (vj:Value) (Dj:Dsk) (t:Th) (h1:DiskAt ws b vj Dj) (h2:Dj.ts.length≤1000000000000)=>put_disk h1 t h2)
 rcases uh HT1 with ⟨rfl,hms⟩|⟨mg,mcap,mcur,hu8,_⟩
 ·subst hms
  go_wp2_with fail
  go_loop [71] (fun i=>i=.int .i64 0) (fun _=>0)
  ·rfl
  subst hrel
  go_wp2
  go_ret
  rw[uh HKS,uh HMS]
  exact ⟨rfl,_,uh HD0,uh HO1,uh HV1⟩
 subst hu8
 go_wp2_with fail
 generalize hW:wr.setCell ⟨b,0,none⟩ (.slice ako ks.length kc)=W at*
 have HP0:Hid (putAll ks (ms.take 0)=ks):=rfl
 clear hW c0 hfr0 hc hfz
 go_loopw [71] (fun i ws=> ∃(j:Nat) (vj:Value),j≤ms.length∧i=.int .i64 j∧Hid (DiskAt ws b vj {stepped D with ts:=putAll ks (ms.take j)})∧
  Hid (Only (fun k=>k=b∨(Value.slice (some ⟨g,0,none⟩) D.ts.length cap).ownBlock=some k) w ws)∧Hid (vj.ownBlock=some g∨ ∀k,vj.ownBlock=some k→w.heap.size≤k)∧
  Hid (vj.ownBlock≠some mg)∧Hid (Thg ws (.slice (some ⟨mg,0,none⟩) ms.length mcap) ms)) (fun i _=>ms.length- (intOf i).toNat)
 ·exact ⟨0,_,Nat.zero_le _,rfl,HD0,HO1,HV1,uh HS mg rfl,HT1⟩
 obtain ⟨j,vj,hj2,rfl,HDj,HOj,HVj,HSj,HTj⟩:=hrel
 by_cases hjl:j<ms.length
 ·rcases uh HTj with ⟨hx,_⟩|⟨g',cap',cur,hx,hg,hcap,hcm,hcs,hrow⟩
  ·cases hx
  simp only[Value.slice.injEq,Option.some.injEq,Addr.mk.injEq,and_true,true_and] at hx
  obtain ⟨rfl,rfl⟩:=hx
  obtain ⟨r0,r1,r2⟩:=row_cells hg hrow j hjl
  have HPS:=hide (putAll_snoc ks ms j hjl)
  have hpl:(putAll ks (ms.take j)).length≤1000000000000:=by rw[putAll_len,List.length_take];omega
  have hmgl:=(Array.getElem?_eq_some_iff.1 hg).1
  clear hg hcap hcm hcs hrow
  generalize nth ms j=t at*
  go_wp2_with (go_at_call 32;refine (uh H19 _ _ _ t (by exact (uh HDj).alloc _) hpl).mono ?_;rintro e w3 ⟨rfl,v3,hd3,ho3,hv3⟩;have HD3:=hide hd3;have HO3:=hide ho3;have HV3:=hide hv3;clear hd3 ho3 hv3)
  go_roundw
  ·have R:=ren_put (uh HOj) (uh HVj) (uh HSj) (uh HTj) rfl (uh HMB mg rfl) _ (uh HO3) (uh HV3)
   refine ⟨j+1,v3,by omega,by go_num, ?_,R.1,R.2.1,R.2.2.1,R.2.2.2⟩
   rw[uh HPS]
   exact HD3
  case measure=>simp[intOf];omega
 have hE:Hid (ms.take j=ms):=List.take_of_length_le (by omega)
 go_wp2
 go_ret
 rw[uh HKS,uh HMS]
 refine ⟨rfl,vj, ?_,uh HOj,uh HVj⟩
 have:=uh HDj
 rw[uh hE] at this
 exact this
theorem rename_nil{w:World}{b:Nat}{D:Dsk}(h:DiskAt w b (.slice none 0 0) D)(ht:D.ts=[])(fr tw:ByteArray):
 Calls Tryz.prog 104 #[.pointer (some ⟨b,0,none⟩),.string fr,.string tw] w fun e w' =>e=.returned (.int .i64 (renameOf D fr tw).1)∧Turn w w' b (.slice none 0 0) (renameOf D fr tw).2:=by
 have H17:=hide (step_disk h)
 have H12:=hide (fun (w1:World) (h1:DiskAt w1 b (.slice none 0 0) (stepped D))=>is_disk h1 fr (by rw[stepped_ts,ht];simp))
 have h0:isOf D.ts fr=0:=by rw[ht];rfl
 simp only[stepped_ts,h0] at H12
 unfold renameOf
 rw[h0]
 clear h h0
 cases hgo:goes D
 ·rw[hgo] at H17
  go_in
  go_wp2_with (go_at_call 30;refine (uh H17).mono ?_;rintro e w1 ⟨rfl,hd,ho⟩)
  go_ret
  exact ⟨rfl,Turn.of hd ho⟩
 rw[hgo] at H17
 go_in
 go_wp2_with (first
  |(go_at_call 30;refine (uh H17).mono ?_;rintro e w1 ⟨rfl,hd,ho⟩;have HD:=hide hd;have HO:=hide ho;clear hd ho)
  |(go_at_call 18;refine (uh H12 _ (uh HD)).mono ?_;rintro e w2 ⟨rfl,n,rfl⟩))
 go_ret
 exact ⟨rfl,(Turn.of (uh HD) (uh HO)).drewN n⟩
theorem rename_disk{w:World}{b:Nat}{v:Value}{D:Dsk}(h:DiskAt w b v D)(fr tw:ByteArray)(hfr:fr.size≤1000000000000)(hto:tw.size≤1000000000000)(hm:D.ts.length≤1000000000000)
 (hsz: ∀k,k<D.ts.length→(nth D.ts k).p.size≤1000000000000):
 Calls Tryz.prog 104 #[.pointer (some ⟨b,0,none⟩),.string fr,.string tw] w fun e w' =>e=.returned (.int .i64 (renameOf D fr tw).1)∧Turn w w' b v (renameOf D fr tw).2:=by
 rcases h.2.1 with ⟨rfl,ht⟩|⟨g,cap,cur,rfl,_⟩
 ·exact rename_nil h ht fr tw
 exact rename_some h fr tw hfr hto hm hsz
end Go.Proofs.YtfbgamknfommpaaGreatDoor.dk
namespace Go.Proofs.YtfbgamknfommpaaGreatDoor.dk
open Go.RowKit
theorem room_disk{w:World}{b:Nat}{v:Value}{D:Dsk}(h:DiskAt w b v D)(n:Int):
 Calls Tryz.prog 11 #[.pointer (some ⟨b,0,none⟩),.int .i64 n] w fun e w' =>e=.returned (.tuple #[])∧DiskAt w' b v {D with room:=max n 0}∧Only (fun k=>k=b) w w' :=by
 obtain ⟨h0,h1,h2,h3,h4⟩:=h.cells
 have hf:=h.thaw
 have H:=hide h
 clear h
 by_cases hn:n<0
 ·rw[show max n 0=0 by omega]
  go_in
  go_wp2
  go_end0
  exact ⟨rfl,(uh H).setRoom _,only_set _ _ _ _⟩
 rw[show max n 0=n by omega]
 go_in
 go_wp2
 go_end0
 exact ⟨rfl,(uh H).setRoom _,only_set _ _ _ _⟩
theorem stop_disk{w:World}{b:Nat}{v:Value}{D:Dsk}(h:DiskAt w b v D)(n:Int):
 Calls Tryz.prog 13 #[.pointer (some ⟨b,0,none⟩),.int .i64 n] w fun e w' =>e=.returned (.tuple #[])∧DiskAt w' b v {D with left:=max n 0}∧Only (fun k=>k=b) w w' :=by
 obtain ⟨h0,h1,h2,h3,h4⟩:=h.cells
 have hf:=h.thaw
 have H:=hide h
 clear h
 by_cases hn:n<0
 ·rw[show max n 0=0 by omega]
  go_in
  go_wp2
  go_end0
  exact ⟨rfl,(uh H).setLeft _,only_set _ _ _ _⟩
 rw[show max n 0=n by omega]
 go_in
 go_wp2
 go_end0
 exact ⟨rfl,(uh H).setLeft _,only_set _ _ _ _⟩
theorem copy_disk{w:World}{b:Nat}{v:Value}{D:Dsk}(h:DiskAt w b v D)(hm:D.ts.length≤1000000000000):
 Calls Tryz.prog 15 #[.pointer (some ⟨b,0,none⟩)] w fun e w' => ∃b' v',e=.returned (.pointer (some ⟨b',0,none⟩))∧w.heap.size≤b' ∧DiskAt w' b' v' ⟨D.ts, -1, -1,0,false⟩∧(∀k,v'.ownBlock=some k→w.heap.size≤k)∧Only (fun _=>False) w w' :=by
 have hc:=h.cells.1
 have HS:=hide h.2.1.shows
 clear h
 go_in
 go_wp2_with (at_builtin;refine wpList_append_thg rfl (.const (.slice none 0 0)) (.tmp 6) rfl (.slice none 0 0) _ [] D.ts rfl rfl (Thg.nil _) (uh HS) (by simp;omega) ?_;intro v' w1 hth hgr hown;obtain ⟨ao,cap,hf⟩:=hth.form;subst hf;have HT:=hide hth;have HG:=hide hgr;have HW:=hide hown;clear hth hgr hown)
 go_ret
 have hO:Only (fun _=>False) w w1:=(Only.refl _ w).grown (uh HG) (fun k _ e=>by cases e)
 have hth:=uh HT
 have hlt:=hth.lt
 have hown: ∀k,(Value.slice ao ([]++D.ts).length cap).ownBlock=some k→w.heap.size≤k:=by
  rcases uh HW with e|e
  ·intro k hk;rw[e] at hk;cases hk
  exact e
 refine ⟨w1.heap.size,.slice ao D.ts.length cap,rfl,hO.size,⟨Go.heap_alloc_new w1 _,hth.kept ((Only.refl (fun _=>False) w1).alloc _) (fun _ _ x=>x),fun e=> ?_⟩,hown,hO.alloc _⟩
 exact absurd (hlt _ e) (Nat.lt_irrefl _)
end Go.Proofs.YtfbgamknfommpaaGreatDoor.dk
