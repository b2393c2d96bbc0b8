import Derived.Test.YtndfmgdhiallpaaGreatDoorRm
set_option maxRecDepth 100000
set_option maxHeartbeats 8000000
namespace Go.Proofs.YtndfmgdhiallpaaGreatDoor
open Go.RowKit Go.Maps
theorem step_lowO(k a c:Int)(hk:k≤0)(s t:ByteArray)(tr fi:Value)(b:Nat)(w:World):
 Calls Tryz.prog 38 #[.pointer (some ⟨b,0,none⟩),.agg (opV k a c s t tr fi)] w fun e w' =>e=.returned (.bool true)∧Old w w' :=by
 have h1:(k==1)=false:=by rw[beq_eq_false_iff_ne];omega
 have h2:(k==2)=false:=by rw[beq_eq_false_iff_ne];omega
 have h3:(k==3)=false:=by rw[beq_eq_false_iff_ne];omega
 have h4:(k==4)=false:=by rw[beq_eq_false_iff_ne];omega
 have h5:(k==5)=false:=by rw[beq_eq_false_iff_ne];omega
 have h6:(k==6)=false:=by rw[beq_eq_false_iff_ne];omega
 have h7:(k==7)=false:=by rw[beq_eq_false_iff_ne];omega
 have h8:(k==8)=false:=by rw[beq_eq_false_iff_ne];omega
 have h9:(k==9)=false:=by rw[beq_eq_false_iff_ne];omega
 have h10:(k==10)=false:=by rw[beq_eq_false_iff_ne];omega
 have h11:(k==11)=false:=by rw[beq_eq_false_iff_ne];omega
 have h12:(k==12)=false:=by rw[beq_eq_false_iff_ne];omega
 have h13:(k==13)=false:=by rw[beq_eq_false_iff_ne];omega
 have h14:(k==14)=false:=by rw[beq_eq_false_iff_ne];omega
 clear hk
 unfold opV
 go_in
 go_wp2_with fail
 go_ret
 exact ⟨rfl,(Only.refl _ w).alloc _⟩
theorem step_twoO(a c:Int)(s t:ByteArray)(hs:s.size≤140737488355328)(tr fi:Value)(b:Nat)(w:World)(hgl:Glob w):
 Calls Tryz.prog 38 #[.pointer (some ⟨b,0,none⟩),.agg (opV 2 a c s t tr fi)] w fun e w' =>e=.returned (.bool true)∧Old w w' :=by
 have hsm:s.size≤maxLen:=by unfold maxLen;omega
 have H9:=hide (fun w1 h=>valiseDigest_any s hs w1 h)
 have H10:=hide (fun w1=>refDigest_any s w1 hs)
 have H11:=hide (fun w1=>valiseCheck_any s w1 hsm)
 have H12:=hide (fun w1=>refCheck_any s w1 hsm)
 generalize digestOf s=d at H9 H10
 have HOp:Hid (Row (w.alloc (.cells (opV 2 a c s t tr fi) 79)) w.heap.size 79 7 (fun j=>(opV 2 a c s t tr fi).getD j undef)):=Row.new w _ _ 7 _ (by rw[opV];exact Nat.le_refl _) (fun j hj=>by
  have:j=0∨j=1∨j=2∨j=3∨j=4∨j=5∨j=6:=by omega
  rcases this with rfl|rfl|rfl|rfl|rfl|rfl|rfl<;>rfl)
 have HGL:=hide (hgl.old ((Only.refl _ w).alloc (.cells (opV 2 a c s t tr fi) 79)))
 have HOL:Hid (Old w (w.alloc (.cells (opV 2 a c s t tr fi) 79))):=(Only.refl _ w).alloc _
 clear hgl hs hsm
 unfold opV at*
 go_in
 go_wp2_with fail
 generalize w.alloc (.cells #[.int .i64 2,.int .i64 a,.int .i64 c,.string s,.string t,tr,fi] 79)=W at*
 refine (uh H9 _ (uh HGL)).mono ?_
 rintro e w1 ⟨rfl,ho1⟩
 have HO1:=hide (Only.trans (uh HOL) ho1)
 have HR1:=hide ((uh HOp).old ho1)
 have hc1:w1.cell? ⟨w.heap.size,3,none⟩=some (.string s):=(uh HR1).cell 3 (by omega)
 clear ho1 HOL HOp
 go_wp2_with fail
 refine (uh H10 _).mono ?_
 rintro e w2 ⟨rfl,ho2⟩
 have HO2:=hide (Only.trans (uh HO1) ho2)
 have hc2:w2.cell? ⟨w.heap.size,3,none⟩=some (.string s):=((uh HR1).old ho2).cell 3 (by omega)
 clear ho2 hc1
 go_wp2_with (first
  |(go_at_call 40;refine (uh H11 _).mono ?_;rintro e w3 ⟨rfl,rfl⟩)
  |(go_at_call 58;refine (uh H12 _).mono ?_;rintro e w3 ⟨rfl,rfl⟩))
 go_ret
 exact ⟨rfl,uh HO2⟩
theorem step_threeO(a c:Int)(s t:ByteArray)(hs:s.size≤140737488355328)(tr fi:Value)(b:Nat)(w:World)(ho:OrdAt w):
 Calls Tryz.prog 38 #[.pointer (some ⟨b,0,none⟩),.agg (opV 3 a c s t tr fi)] w fun e w' =>e=.returned (.bool true)∧Old w w' :=by
 have HOp:Hid (Row (w.alloc (.cells (opV 3 a c s t tr fi) 79)) w.heap.size 79 7 (fun j=>(opV 3 a c s t tr fi).getD j undef)):=Row.new w _ _ 7 _ (by rw[opV];exact Nat.le_refl _) (fun j hj=>by
  have:j=0∨j=1∨j=2∨j=3∨j=4∨j=5∨j=6:=by omega
  rcases this with rfl|rfl|rfl|rfl|rfl|rfl|rfl<;>rfl)
 have HOR:=hide (ho.old ((Only.refl _ w).alloc (.cells (opV 3 a c s t tr fi) 79)))
 have HOL:Hid (Old w (w.alloc (.cells (opV 3 a c s t tr fi) 79))):=(Only.refl _ w).alloc _
 have HI:=hide (fun w1 h=>inflates_any s hs w1 h)
 have HD:=hide (fun w1=>valiseDeflate_any s hs w1)
 clear ho
 unfold opV at*
 by_cases ha:a=7
 ·subst ha
  go_in
  go_wp2_with fail
  generalize w.alloc (.cells #[.int .i64 3,.int .i64 7,.int .i64 c,.string s,.string t,tr,fi] 79)=W at*
  refine (uh HD W).mono ?_
  rintro e w1 ⟨hr,ho1⟩
  have HO1:=hide (Only.trans (uh HOL) ho1)
  have HR1:=hide ((uh HOp).old ho1)
  have HOR1:=hide ((uh HOR).old ho1)
  have hc1:w1.cell? ⟨w.heap.size,2,none⟩=some (.int .i64 c):=(uh HR1).cell 2 (by omega)
  obtain ⟨p,n,rfl,hp⟩: ∃(p:ByteArray) (n:Int),e=.returned (.tuple #[.string p,.int .i64 n])∧p.size≤1000000:=by
   rcases hr with ⟨hd,rfl⟩|⟨_,rfl⟩
   ·exact ⟨_,0,rfl,by have:=(deflP_size s).1;omega⟩
   exact ⟨_,1,rfl,by decide⟩
  have HT:=hide (fun W=>lawTurned_any p hp c W)
  clear ho1 hr HOL HOp HOR HD HI HR1
  go_wp2_with fail
  refine (uh HT w1).mono ?_
  rintro e w2 ⟨q,rfl,hq,ho2⟩
  have HO2:=hide (Only.trans (uh HO1) ho2)
  have HI2:=hide (inflates_any q (by omega) w2 ((uh HOR1).old ho2))
  clear ho2 HT HO1 HOR1 hc1
  go_wp2_with fail
  refine (uh HI2).mono ?_
  rintro e w3 ⟨rfl,ho3⟩
  have HO3:=hide (Only.trans (uh HO2) ho3)
  clear ho3 HI2 HO2
  go_wp2_with fail
  go_ret
  exact ⟨rfl,uh HO3⟩
 have hab:(a==7)=false:=by rw[beq_eq_false_iff_ne];exact ha
 go_in
 go_wp2_with fail
 generalize w.alloc (.cells #[.int .i64 3,.int .i64 a,.int .i64 c,.string s,.string t,tr,fi] 79)=W at*
 refine (uh HI _ (uh HOR)).mono ?_
 rintro e w1 ⟨rfl,ho1⟩
 have HO1:=hide (Only.trans (uh HOL) ho1)
 clear ho1 HOL HOp HOR HD HI
 go_wp2_with fail
 go_ret
 exact ⟨rfl,uh HO1⟩
theorem step_fourO(a c:Int)(s t:ByteArray)(hs:s.size≤140737488355328)(tr fi:Value)(b:Nat)(w:World):
 Calls Tryz.prog 38 #[.pointer (some ⟨b,0,none⟩),.agg (opV 4 a c s t tr fi)] w fun e w' =>e=.returned (.bool true)∧Old w w' :=by
 have HOL:Hid (Old w (w.alloc (.cells (opV 4 a c s t tr fi) 79))):=(Only.refl _ w).alloc _
 have HD:=hide (fun w1=>deflates_any s hs w1)
 unfold opV at*
 go_in
 go_wp2_with fail
 generalize w.alloc (.cells #[.int .i64 4,.int .i64 a,.int .i64 c,.string s,.string t,tr,fi] 79)=W at*
 refine (uh HD W).mono ?_
 rintro e w1 ⟨rfl,ho1⟩
 have HO1:=hide (Only.trans (uh HOL) ho1)
 clear ho1 HOL HD
 go_wp2_with fail
 go_ret
 exact ⟨rfl,uh HO1⟩
theorem step_oneL{w1:World}{b n:Nat}{S:WS}{RF RL RT:List (Value×ByteArray)}(a c:Int)(s t:ByteArray)(tr fi:Value)(w:World)(h:WLs w1 w b n S RF RL RT):
 Calls Tryz.prog 38 #[.pointer (some ⟨b,0,none⟩),.agg (opV 1 a c s t tr fi)] w fun e w' =>e=.returned (.bool true)∧ ∃S',WLs w1 w' b n S' RF RL RT∧S' ={S with m:=s,v:=t}:=by
 have hb:=h.inb
 have hc0:w.cell? ⟨b,0,none⟩=some (.string S.m):=by rw[cell_of_row w b 0 _ _ (0,0) h.hp];rfl
 have hc1:w.cell? ⟨b,1,none⟩=some (.string S.v):=by rw[cell_of_row w b 1 _ _ (0,0) h.hp];rfl
 have hf0:=frozen_of_row w b 0 _ _ h.hp
 have hf1:=frozen_of_row w b 1 _ _ h.hp
 have HFIN:Hid (∀o:Obj,WLs w1 (((w.setCell ⟨b,0,none⟩ (.string s)).setCell ⟨b,1,none⟩ (.string t)).alloc o) b n {S with m:=s,v:=t} RF RL RT):=fun o=>by
  have h1:=heap_setCell_same w b 0 _ _ (.string s) h.hp
  have h2:=heap_setCell_same _ b 1 _ _ (.string t) h1
  exact (h.rec_ (s' :={S with m:=s,v:=t}) ((only_set w b 0 _).trans (only_set _ b 1 _)) h2 (Nat.le_refl _) rfl rfl rfl rfl rfl rfl).old ((Only.refl _ _).alloc o)
 clear h
 unfold opV
 go_in
 go_wp2_with fail
 go_ret
 exact ⟨rfl,_,uh HFIN _,rfl⟩
theorem step_fiveL{w1:World}{b n:Nat}{S:WS}{RF RL RT:List (Value×ByteArray)}(hn:n≤99999990)(a c:Int)(s t:ByteArray)(x fi:Value)(w:World)(h:WLs w1 w b n S RF RL RT)(T:List Ent)(hT:T.length≤1100000)(hs: ∀e∈T,e.nm.size≤2000000∧e.dt.size≤2000000)(hm: ∀W,Only (fun k=>k=b) w1 W→MaxAt W)(ht: ∀W,Only (fun k=>k=b) w1 W→TreeV W x T):
 Calls Tryz.prog 38 #[.pointer (some ⟨b,0,none⟩),.agg (opV 5 a c s t x fi)] w fun e w' =>e=.returned (.bool true)∧PosA w1 w' b (n+3) S.base:=by
 have HC:Hid (∀W,WLs w1 W b n S RF RL RT→Calls Tryz.prog 62 #[.pointer (some ⟨b,0,none⟩),x] W fun r w' =>r=.returned (.bool true)∧PosA w1 w' b (n+3) S.base):=fun W hW=>by
  by_cases h0:T=[]
  ·subst h0
   rcases ht w1 (Only.refl _ _) with ⟨e,_⟩|⟨ad,cp,e,h2⟩
   ·rw[e];exact choosesNone hn W hW none 0 (.inl ⟨rfl,rfl⟩)
   rw[e];exact choosesNone hn W hW (some ad) cp (.inr ⟨ad,cp,rfl,h2⟩)
  have hpos:0<T.length:=by cases T with|nil=>exact absurd rfl h0|cons _ _=>simp
  obtain ⟨ad,cp,e⟩: ∃ad cp,x=.slice (some ad) T.length cp:=by
   rcases ht w1 (Only.refl _ _) with ⟨_,e⟩|⟨ad,cp,e,_⟩
   ·exact absurd e h0
   exact ⟨ad,cp,e⟩
  have ht2: ∀W,Only (fun k=>k=b) w1 W→TreeAt W ad T:=fun W hW=>by
   rcases ht W hW with ⟨_,e2⟩|⟨ad2,cp2,e2,h3⟩
   ·exact absurd e2 h0
   rw[e] at e2
   injection e2 with e3 e4 e5
   injection e3 with e3
   subst e3
   exact h3
  rw[e]
  exact choosesSome hn W hW ad cp T hpos hT hs hm ht2
 have HWL:=hide (h.old ((Only.refl _ w).alloc (.cells (opV 5 a c s t x fi) 79)))
 clear h hs hm ht hT
 unfold opV at*
 go_in
 go_wp2_with fail
 refine (uh HC _ (uh HWL)).mono ?_
 rintro e w1' ⟨rfl,hex⟩
 have HX:=hide hex
 clear hex HC HWL
 go_wp2_with fail
 go_ret
 exact ⟨rfl,uh HX⟩
def Glob3(w:World):Prop:=Glob2 w∧MaxAt w
theorem Glob3.old{w w' :World}(h:Glob3 w)(ho:Old w w'):Glob3 w' :=⟨h.1.old ho,h.2.old ho⟩
theorem stepL{w1:World}{b n:Nat}{S:WS}{RF RL RT:List (Value×ByteArray)}(hn:n≤99999990)(k p q:Int)(s t:ByteArray)(x y:Value)(w:World)(hk:k≤5)(hs:s.size≤140737488355328)(h:WLs w1 w b n S RF RL RT)(hG: ∀W,Only (fun k=>k=b) w1 W→Glob3 W)
 (hx: ∃T:List Ent,T.length≤1100000∧(∀e∈T,e.nm.size≤2000000∧e.dt.size≤2000000)∧ ∀W,Only (fun k=>k=b) w1 W→TreeV W x T):
 Calls Tryz.prog 38 #[.pointer (some ⟨b,0,none⟩),.agg (opV k p q s t x y)] w fun e w' =>e=.returned (.bool true)∧ ∃n' S' RF' RL' RT',n' ≤n+3∧WLs w1 w' b n' S' RF' RL' RT' :=by
 have hg:=hG w h.only
 by_cases h5:k=5
 ·subst h5
  obtain ⟨T,hT,hTs,ht⟩:=hx
  refine (step_fiveL hn p q s t x y w h T hT hTs (fun W hW=>(hG W hW).2) ht).mono ?_
  rintro e w' ⟨rfl,S',RF',RL',RT',hw, -⟩
  exact ⟨rfl,n+3,S',RF',RL',RT',Nat.le_refl _,hw⟩
 by_cases h1:k=1
 ·subst h1
  refine (step_oneL p q s t x y w h).mono ?_
  rintro e w' ⟨rfl,S',hw, -⟩
  exact ⟨rfl,n,S',RF,RL,RT,by omega,hw⟩
 have fin: ∀e w',e=Ending.returned (.bool true)∧Old w w' →e=.returned (.bool true)∧ ∃n' S' RF' RL' RT',n' ≤n+3∧WLs w1 w' b n' S' RF' RL' RT' :=fun e w' ⟨he,ho⟩=>⟨he,n,S,RF,RL,RT,by omega,h.old ho⟩
 by_cases h4:k=4
 ·subst h4;exact (step_fourO p q s t hs x y b w).mono fin
 by_cases h3:k=3
 ·subst h3;exact (step_threeO p q s t hs x y b w hg.1.2).mono fin
 by_cases h2:k=2
 ·subst h2;exact (step_twoO p q s t hs x y b w hg.1.1).mono fin
 exact (step_lowO k p q (by omega) s t x y b w).mono fin
def TrOk(P:World→Prop)(x:Value):Prop:= ∃T:List Ent,T.length≤1100000∧(∀e∈T,e.nm.size≤2000000∧e.dt.size≤2000000)∧ ∀W,P W→TreeV W x T
def OpsT(P:World→Prop)(a:Addr)(n:Nat):Prop:= ∀i,i<n→ ∃k p q s t x y,s.size≤140737488355328∧TrOk P x∧ ∀W,P W→ ∀j,j<7→W.cell? (a.add (i*7+j))=(opV k p q s t x y)[j]?
abbrev sGoMod:ByteArray:=⟨#[109,111,100,117,108,101,32,109,46,120,47,121]⟩
abbrev sAB:ByteArray:=⟨#[97,47,98,46,103,111]⟩
abbrev sAs:ByteArray:=⟨#[97,97,97,97,97,97,97,97,97,97,97,97,97,97,97,97,97,97,97,97,97,97,97,97,97,97,97,97,97,97,97,97,97,97,97,97,97,97,97,97]⟩
abbrev tree0:List Ent:=[⟨sGo,false,sGoMod⟩,⟨sAB,false,sAs⟩,⟨⟨#[108]⟩,true,⟨#[]⟩⟩]
theorem nil_ok(P:World→Prop):TrOk P nilS:=⟨[],by simp,(fun _ h=>by cases h),fun _ _=> .inl ⟨rfl,rfl⟩⟩
theorem first_opsT{P:World→Prop}{g:Nat}{e:TypeId}{x y:Value}(hx:TrOk P x)(hg: ∀W,P W→W.heap[g]? =some (.cells (firstArr x y) e (0,0))):OpsT P ⟨g,0,none⟩ 11:=by
 have hc: ∀m W,P W→W.cell? ((⟨g,0,none⟩:Addr).add m)=(firstArr x y)[m]? :=fun m W h=>by rw[Addr.add_lit,Nat.zero_add,cell_of_row W g m _ e (0,0) (hg W h)]
 intro i hi
 match i,hi with
 |0,_=>exact ⟨1,0,0,⟨#[109,46,120,47,121]⟩,⟨#[118,49,46,50,46,51]⟩,nilS,nilS,by show 5≤_;omega,nil_ok P,fun W h=>seven (hc _ W h) (hc _ W h) (hc _ W h) (hc _ W h) (hc _ W h) (hc _ W h) (hc _ W h)⟩
 |1,_=>exact ⟨2,0,0,⟨#[97,98,99]⟩,⟨#[]⟩,nilS,nilS,by show 3≤_;omega,nil_ok P,fun W h=>seven (hc _ W h) (hc _ W h) (hc _ W h) (hc _ W h) (hc _ W h) (hc _ W h) (hc _ W h)⟩
 |2,_=>exact ⟨3,0,0,⟨#[1,2,0,253,255,72,105]⟩,⟨#[]⟩,nilS,nilS,by show 7≤_;omega,nil_ok P,fun W h=>seven (hc _ W h) (hc _ W h) (hc _ W h) (hc _ W h) (hc _ W h) (hc _ W h) (hc _ W h)⟩
 |3,_=>exact ⟨4,0,0,⟨#[72,105]⟩,⟨#[]⟩,nilS,nilS,by show 2≤_;omega,nil_ok P,fun W h=>seven (hc _ W h) (hc _ W h) (hc _ W h) (hc _ W h) (hc _ W h) (hc _ W h) (hc _ W h)⟩
 |4,_=>exact ⟨5,0,0,⟨#[]⟩,⟨#[]⟩,x,nilS,by show 0≤_;omega,hx,fun W h=>seven (hc _ W h) (hc _ W h) (hc _ W h) (hc _ W h) (hc _ W h) (hc _ W h) (hc _ W h)⟩
 |5,_=>exact ⟨6,0,0,⟨#[]⟩,⟨#[]⟩,x,nilS,by show 0≤_;omega,hx,fun W h=>seven (hc _ W h) (hc _ W h) (hc _ W h) (hc _ W h) (hc _ W h) (hc _ W h) (hc _ W h)⟩
 |6,_=>exact ⟨7,0,0,⟨#[]⟩,⟨#[]⟩,nilS,nilS,by show 0≤_;omega,nil_ok P,fun W h=>seven (hc _ W h) (hc _ W h) (hc _ W h) (hc _ W h) (hc _ W h) (hc _ W h) (hc _ W h)⟩
 |7,_=>exact ⟨10,0,0,⟨#[]⟩,⟨#[]⟩,nilS,y,by show 0≤_;omega,nil_ok P,fun W h=>seven (hc _ W h) (hc _ W h) (hc _ W h) (hc _ W h) (hc _ W h) (hc _ W h) (hc _ W h)⟩
 |8,_=>exact ⟨11,0,0,⟨#[]⟩,⟨#[]⟩,nilS,nilS,by show 0≤_;omega,nil_ok P,fun W h=>seven (hc _ W h) (hc _ W h) (hc _ W h) (hc _ W h) (hc _ W h) (hc _ W h) (hc _ W h)⟩
 |9,_=>exact ⟨13,0,0,⟨#[112]⟩,⟨#[]⟩,nilS,nilS,by show 1≤_;omega,nil_ok P,fun W h=>seven (hc _ W h) (hc _ W h) (hc _ W h) (hc _ W h) (hc _ W h) (hc _ W h) (hc _ W h)⟩
 |10,_=>exact ⟨14,0,0,⟨#[112]⟩,⟨#[]⟩,nilS,nilS,by show 1≤_;omega,nil_ok P,fun W h=>seven (hc _ W h) (hc _ W h) (hc _ W h) (hc _ W h) (hc _ W h) (hc _ W h) (hc _ W h)⟩
theorem tree0_at{W:World}{g:Nat}(hg:W.heap[g]? =some (.cells #[.string sGo,.bool false,.string sGoMod,.string sAB,.bool false,.string sAs,.string ⟨#[108]⟩,.bool true,.string ⟨#[]⟩] tE (0,0))):TreeAt W ⟨g,0,none⟩ tree0:=by
 intro i hi
 have hi3:i<3:=hi
 match i,hi3 with
 |0,_=>exact ⟨by rw[Addr.add_lit,cell_of_row W g _ _ _ (0,0) hg];rfl,by rw[Addr.add_lit,cell_of_row W g _ _ _ (0,0) hg];rfl,by rw[Addr.add_lit,cell_of_row W g _ _ _ (0,0) hg];rfl⟩
 |1,_=>exact ⟨by rw[Addr.add_lit,cell_of_row W g _ _ _ (0,0) hg];rfl,by rw[Addr.add_lit,cell_of_row W g _ _ _ (0,0) hg];rfl,by rw[Addr.add_lit,cell_of_row W g _ _ _ (0,0) hg];rfl⟩
 |2,_=>exact ⟨by rw[Addr.add_lit,cell_of_row W g _ _ _ (0,0) hg];rfl,by rw[Addr.add_lit,cell_of_row W g _ _ _ (0,0) hg];rfl,by rw[Addr.add_lit,cell_of_row W g _ _ _ (0,0) hg];rfl⟩
theorem WLs.start{W:World}{b:Nat}{s:WS}(hp:W.heap[b]? =some (.cells (s.cs 0) wT (0,0)))(h5:s.r5=nilV)(h6:s.r6=nilV)(h7:s.r7=nilV)(h8:s.r8=nilV)(h9:s.r9=nilV)(h10:s.r10=nilV)(hz:s.z=W):WLs W W b 0 s [] [] []:=by
 have hn: ∀r:Value,r=nilV→ ∀k,r.ownBlock=some k→False:=fun r e k hk=>by rw[e] at hk;cases hk
 refine ⟨Only.refl _ _,(Array.getElem?_eq_some_iff.1 hp).1,hp,by rw[h5,h6];exact RwAt.nil _ _ _ _ _,by rw[h7,h8];exact RwAt.nil _ _ _ _ _,by rw[h9,h10];exact RwAt.nil _ _ _ _ _, ?_,fun k hk=>(hn _ h6 k hk).elim,fun k hk=>(hn _ h6 k hk).elim,fun k hk=>(hn _ h8 k hk).elim,by simp,fun k cu e he h=>by rw[hz] at h;exact h⟩
 rintro r (e|e|e|e|e|e) k hk
 ·exact (hn r (e.trans h5) k hk).elim
 ·exact (hn r (e.trans h6) k hk).elim
 ·exact (hn r (e.trans h7) k hk).elim
 ·exact (hn r (e.trans h8) k hk).elim
 ·exact (hn r (e.trans h9) k hk).elim
 exact (hn r (e.trans h10) k hk).elim
def StL(w1 w:World)(b n:Nat):Prop:= ∃n' S RF RL RT,n' ≤n∧WLs w1 w b n' S RF RL RT
theorem playedL(ao:Option Addr)(n cap:Nat)(w:World)(hg:Glob3 w)(ho:n=0∨ ∃a,ao=some a∧OpsT (fun W=>Old w W) a n)(hn:n≤1100000):
 Calls Tryz.prog 14 #[.slice ao n cap,.int .i64 5] w fun e w' =>e=.returned (.bool true)∧Old w w' :=by
 have HG:=hide hg
 have HOp:=hide ho
 clear hg ho
 go_in
 go_wp2_with (go_at_call 33;refine (new_any _).mono ?_;rintro e w' ⟨rfl,rfl⟩)
 refine wp_world (R:=fun W=>(∃s:WS,WLs W W (w.heap.size+2) 0 s [] [] [])∧(OpsT (fun V=>Only (fun k=>k=w.heap.size+2) W V) ⟨w.heap.size+5,0,none⟩ 11)∧Old w W) ⟨?_, ?_, ?_⟩ ?_
 ·exact ⟨⟨_,_,_,_,_,_,_,_,_,_,_,_⟩,WLs.start (at_keep (at_keep (at_keep (at_new (by simp))))) rfl rfl rfl rfl rfl rfl rfl⟩
 ·refine first_opsT (e:=79) (x:=.slice (some ⟨w.heap.size+3,0,none⟩) 3 3) (y:=.slice (some ⟨w.heap.size+4,0,none⟩) 2 2) ⟨tree0,by simp,by decide,fun V hV=> .inr ⟨⟨w.heap.size+3,0,none⟩,3,rfl,tree0_at ?_⟩⟩ (fun V hV=> ?_)
  ·refine (hV.block (w.heap.size+3) (by simp) (by omega)).trans ?_
   exact at_keep (at_keep (at_new (by simp)))
  refine (hV.block (w.heap.size+5) (by simp) (by omega)).trans ?_
  exact at_new (by simp)
 ·exact ((((((Only.refl _ w).alloc _).alloc _).alloc _).alloc _).alloc _).alloc _
 rintro W ⟨⟨s0,hw⟩,hf,hold⟩
 have HW:Hid (StL W W (w.heap.size+2) 0):=⟨0,s0,[],[],[],Nat.le_refl _,hw⟩
 have HF:=hide hf
 have HOK:Hid (∀V,Only (fun k=>k=w.heap.size+2) W V→Old w V):=fun V hV=>hold.transNew hV (fun k hk e=>by omega)
 clear hw hf hold
 go_wp2_with fail
 go_loopw [9,10] (fun ok i wr=> ∃j:Nat,j≤11∧ok=.bool true∧i=.int .i64 j∧Hid (StL W wr (w.heap.size+2) (3*j))) (fun _ i _=>11- (intOf i).toNat)
 ·exact ⟨0,by omega,rfl,rfl,HW⟩
 clear HW
 obtain ⟨j,hj,rfl,rfl,HW⟩:=hrel
 obtain ⟨nn,S,RF,RL,RT,hnn,hwl⟩:=uh HW
 have HWL:=hide hwl
 clear hwl
 by_cases hlt:j<11
 ·obtain ⟨k,p,q,s,t,x,y,hs,htr,hcs⟩:=uh HF j hlt
  have hcs:=hcs wr (uh HWL).only
  have hc0:wr.cell? ⟨w.heap.size+5,j*7+0,none⟩=(opV k p q s t x y)[0]? :=by have:=hcs 0 (by omega);rw[Addr.add_lit,Nat.zero_add] at this;exact this
  have hc1:wr.cell? ⟨w.heap.size+5,j*7+1,none⟩=(opV k p q s t x y)[1]? :=by have:=hcs 1 (by omega);rw[Addr.add_lit,Nat.zero_add] at this;exact this
  have hc2:wr.cell? ⟨w.heap.size+5,j*7+2,none⟩=(opV k p q s t x y)[2]? :=by have:=hcs 2 (by omega);rw[Addr.add_lit,Nat.zero_add] at this;exact this
  have hc3:wr.cell? ⟨w.heap.size+5,j*7+3,none⟩=(opV k p q s t x y)[3]? :=by have:=hcs 3 (by omega);rw[Addr.add_lit,Nat.zero_add] at this;exact this
  have hc4:wr.cell? ⟨w.heap.size+5,j*7+4,none⟩=(opV k p q s t x y)[4]? :=by have:=hcs 4 (by omega);rw[Addr.add_lit,Nat.zero_add] at this;exact this
  have hc5:wr.cell? ⟨w.heap.size+5,j*7+5,none⟩=(opV k p q s t x y)[5]? :=by have:=hcs 5 (by omega);rw[Addr.add_lit,Nat.zero_add] at this;exact this
  have hc6:wr.cell? ⟨w.heap.size+5,j*7+6,none⟩=(opV k p q s t x y)[6]? :=by have:=hcs 6 (by omega);rw[Addr.add_lit,Nat.zero_add] at this;exact this
  simp only[Nat.add_zero] at hc0
  have HST:=hide (fun hk=>stepL (by omega) k p q s t x y wr hk hs (uh HWL) (fun V hV=>(uh HG).old (uh HOK V hV)) htr)
  clear hcs hs htr
  unfold opV at hc0 hc1 hc2 hc3 hc4 hc5 hc6 HST
  by_cases hkl:k≤5
  ·have HST2:=hide (uh HST hkl)
   clear HST
   go_wp2_with (go_at_call 38;refine (uh HST2).mono ?_;rintro e w1 ⟨rfl,n2,S2,RF2,RL2,RT2,hn2,hw2⟩;have HW1:Hid (StL W w1 (w.heap.size+2) (3*(j+1))):=⟨n2,S2,RF2,RL2,RT2,by omega,hw2⟩;clear hn2 hw2)
   go_roundw
   ·exact ⟨j+1,by omega,rfl,by go_num,HW1⟩
   case measure=>simp[intOf];omega
  have HW2:Hid (StL W wr (w.heap.size+2) (3*(j+1))):=⟨nn,S,RF,RL,RT,by omega,uh HWL⟩
  go_wp2_with fail
  go_roundw
  ·exact ⟨j+1,by omega,rfl,by go_num,HW2⟩
  case measure=>simp[intOf];omega
 have hji:(j:Int)=11:=by omega
 have HW0:Hid (StL W wr (w.heap.size+2) (33+3*0)):=⟨nn,S,RF,RL,RT,by omega,uh HWL⟩
 rw[hji]
 clear HF hj hlt hji HWL HW hnn
 go_wp2_with fail
 go_loopw [9,11,12,13] (fun ok i _ _ wr=> ∃j:Nat,j≤n∧ok=.bool true∧i=.int .i64 j∧Hid (StL W wr (w.heap.size+2) (33+3*j))) (fun _ i _ _ _=>n- (intOf i).toNat)
 ·exact ⟨0,by omega,rfl,rfl,HW0⟩
 clear HW0
 obtain ⟨j,hj,rfl,rfl,HW⟩:=hrel
 obtain ⟨nn,S,RF,RL,RT,hnn,hwl⟩:=uh HW
 have HWL:=hide hwl
 clear hwl
 by_cases hlt:j<n
 ·obtain ⟨a,hao,hops⟩: ∃a,ao=some a∧OpsT (fun W=>Old w W) a n:=by
   rcases uh HOp with h|h
   ·omega
   exact h
  obtain ⟨k,p,q,s,t,x,y,hs,htr,hcs⟩:=hops j hlt
  have hcs:=hcs wr (uh HOK wr (uh HWL).only)
  have hc0:wr.cell? (a.add (j*7))=(opV k p q s t x y)[0]? :=hcs 0 (by omega)
  have hc1:wr.cell? ⟨(a.add (j*7)).block,(a.add (j*7)).off+1,none⟩=(opV k p q s t x y)[1]? :=by have:=hcs 1 (by omega);rw[←Addr.add_add] at this;exact (congrArg wr.cell? (Addr.add_succ' (a.add (j*7)) 0).symm).trans this
  have hc2:wr.cell? ⟨(a.add (j*7)).block,(a.add (j*7)).off+2,none⟩=(opV k p q s t x y)[2]? :=by have:=hcs 2 (by omega);rw[←Addr.add_add] at this;exact (congrArg wr.cell? (Addr.add_succ' (a.add (j*7)) 1).symm).trans this
  have hc3:wr.cell? ⟨(a.add (j*7)).block,(a.add (j*7)).off+3,none⟩=(opV k p q s t x y)[3]? :=by have:=hcs 3 (by omega);rw[←Addr.add_add] at this;exact (congrArg wr.cell? (Addr.add_succ' (a.add (j*7)) 2).symm).trans this
  have hc4:wr.cell? ⟨(a.add (j*7)).block,(a.add (j*7)).off+4,none⟩=(opV k p q s t x y)[4]? :=by have:=hcs 4 (by omega);rw[←Addr.add_add] at this;exact (congrArg wr.cell? (Addr.add_succ' (a.add (j*7)) 3).symm).trans this
  have hc5:wr.cell? ⟨(a.add (j*7)).block,(a.add (j*7)).off+5,none⟩=(opV k p q s t x y)[5]? :=by have:=hcs 5 (by omega);rw[←Addr.add_add] at this;exact (congrArg wr.cell? (Addr.add_succ' (a.add (j*7)) 4).symm).trans this
  have hc6:wr.cell? ⟨(a.add (j*7)).block,(a.add (j*7)).off+6,none⟩=(opV k p q s t x y)[6]? :=by have:=hcs 6 (by omega);rw[←Addr.add_add] at this;exact (congrArg wr.cell? (Addr.add_succ' (a.add (j*7)) 5).symm).trans this
  have HST:=hide (fun hk=>stepL (by omega) k p q s t x y wr hk hs (uh HWL) (fun V hV=>(uh HG).old (uh HOK V hV)) (by
   obtain ⟨T,h1,h2,h3⟩:=htr
   exact ⟨T,h1,h2,fun V hV=>h3 V (uh HOK V hV)⟩))
  subst hao
  clear hcs hs htr hops
  unfold opV at hc0 hc1 hc2 hc3 hc4 hc5 hc6 HST
  by_cases hkl:k≤5
  ·have HST2:=hide (uh HST hkl)
   clear HST
   go_wp2_with (first
    |(go_at_call 38;refine (uh HST2).mono ?_;rintro e w1 ⟨rfl,n2,S2,RF2,RL2,RT2,hn2,hw2⟩;have HW1:Hid (StL W w1 (w.heap.size+2) (33+3*(j+1))):=⟨n2,S2,RF2,RL2,RT2,by omega,hw2⟩;have HSL:=hide (stillC (by omega) w1 hw2);clear hn2 hw2)
    |(go_at_call 39;refine (uh HSL).mono ?_;rintro e w2 ⟨rfl,ho2⟩;have HW2:Hid (StL W w2 (w.heap.size+2) (33+3*(j+1))):=(by obtain ⟨n3,S3,RF3,RL3,RT3,hn3,hw3⟩:=uh HW1;exact ⟨n3,S3,RF3,RL3,RT3,hn3,hw3.old ho2⟩);clear ho2))
   go_roundw
   ·exact ⟨j+1,by omega,rfl,by go_num,HW2⟩
   case measure=>simp[intOf];omega
  have HW2:Hid (StL W wr (w.heap.size+2) (33+3*(j+1))):=⟨nn,S,RF,RL,RT,by omega,uh HWL⟩
  go_wp2_with fail
  go_roundw
  ·exact ⟨j+1,by omega,rfl,by go_num,HW2⟩
  case measure=>simp[intOf];omega
 have hjn:j=n:=by omega
 have HFIN:Hid (Old w wr):=uh HOK wr (uh HWL).only
 subst hjn
 clear HWL HW
 go_wp2_with fail
 go_ret
 exact ⟨rfl,uh HFIN⟩
end Go.Proofs.YtndfmgdhiallpaaGreatDoor
