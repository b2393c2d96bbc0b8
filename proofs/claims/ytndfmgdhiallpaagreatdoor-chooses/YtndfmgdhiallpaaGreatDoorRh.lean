import Derived.Test.YtndfmgdhiallpaaGreatDoorMy
import Derived.Test.YtndfmgdhiallpaaGreatDoorRg
set_option maxRecDepth 100000
set_option maxHeartbeats 8000000
namespace Go.Proofs.YtndfmgdhiallpaaGreatDoor
open Go.RowKit Go.Maps
abbrev wT:TypeId:=77
structure WS where
 m:ByteArray
 v:ByteArray
 ar:ByteArray
 pd:Value
 pr:Value
 r5:Value
 r6:Value
 r7:Value
 r8:Value
 r9:Value
 r10:Value
 z:World
def WS.cs(s:WS)(c:Nat):Array Value:= #[.string s.m,.string s.v,.string s.ar,s.pd,s.pr,s.r5,s.r6,s.r7,s.r8,s.r9,s.r10,.int .i64 (c:Int)]
theorem markC(s:WS)(c:Nat)(hc:c≤1000000000)(b:Nat)(w:World)(hg:w.heap[b]? =some (.cells (s.cs c) wT (0,0))):
 Calls Tryz.prog 203 #[.pointer (some ⟨b,0,none⟩)] w fun r w' => ∃z:ByteArray,r=.returned (.string z)∧Only (fun k=>k=b) w w' ∧w'.heap[b]? =some (.cells (s.cs (c+1)) wT (0,0)):=by
 have hbl:b<w.heap.size:=(Array.getElem?_eq_some_iff.1 hg).1
 have hc11:w.cell? ⟨b,11,none⟩=some (.int .i64 (c:Int)):=by rw[cell_of_row w b 11 _ _ (0,0) hg];rfl
 have hf11:=frozen_of_row w b 11 _ _ hg
 have hset:=heap_setCell_same w b 11 _ _ (.int .i64 ((c:Int)+1)) hg
 have HG:Hid ((w.setCell ⟨b,11,none⟩ (.int .i64 ((c:Int)+1))).heap[b]? =some (.cells (s.cs (c+1)) wT (0,0))):=hset
 have HO:Hid (Only (fun k=>k=b) w (w.setCell ⟨b,11,none⟩ (.int .i64 ((c:Int)+1)))):=only_set w b 11 _
 clear hg hset
 go_in
 go_wp2_with fail
 generalize w.setCell ⟨b,11,none⟩ (.int .i64 ((c:Int)+1))=W at*
 have HR:Hid (Old W W):=Only.refl _ W
 clear hc11 hf11
 have hq0: ∃q:Nat,q≤1000000001∧(c:Int)+1=(q:Int):=⟨c+1,by omega,by omega⟩
 obtain ⟨q0,hq0,hqe⟩:=hq0
 rw[hqe]
 clear hqe
 go_loopw [3,4,5] (fun t n x wr=> ∃(k q:Nat) (z:ByteArray),k≤7∧q≤1000000001∧z.size≤k+1∧t=.string z∧n=.int .i64 (q:Int)∧x=.int .i64 (k:Int)∧Hid (Old W wr)) (fun _ _ x _=>7- (intOf x).toNat)
 ·exact ⟨0,q0,⟨#[35]⟩,by omega,hq0,Nat.le_refl _,rfl,rfl,rfl,HR⟩
 obtain ⟨k,q,z,hk,hq,hz,rfl,rfl,rfl,HW⟩:=hrel
 clear HR hq0
 by_cases hk7:k<7
 ·have hk7I:(k:Int)<7:=by omega
  obtain ⟨q1,hq1⟩: ∃q1,q/16=q1:=⟨_,rfl⟩
  obtain ⟨d,hd⟩: ∃d,97+q%16=d:=⟨_,rfl⟩
  have hdl:d<256:=by omega
  have e1:(q:Int).tmod 16=(d:Int)- 97:=by rw[Int.tmod_eq_emod_of_nonneg (by omega)];omega
  have e2:(q:Int).tdiv 16=(q1:Int):=by rw[Int.tdiv_eq_ediv_of_nonneg (by omega)];omega
  have e3:(97:Int)+((d:Int)- 97)=(d:Int):=by omega
  have hq1l:q1≤1000000001:=by omega
  have HOA:Hid (Old W (wr.alloc (.cells #[.int .u8 (d:Int)] 5))):=(uh HW).alloc _
  have hback:(convert 62 9 (.slice (some ⟨wr.heap.size,0,none⟩) 1 1)).run Tryz.prog (wr.alloc (.cells #[.int .u8 (d:Int)] 5))=.ok (.string ⟨[b8 d].toArray⟩) (wr.alloc (.cells #[.int .u8 (d:Int)] 5)):=
   run_convert_bytes_back _ 62 9 5 ⟨wr.heap.size,0,none⟩ 1 [b8 d] Tryz.underlying62 Tryz.underlying5 Tryz.underlying9 (fun j hj=>by
    have hj0:j=0:=by simpa using hj
    subst hj0
    rw[Addr.add_lit,cell_of_row _ _ (0+0) _ _ (0,0) (Go.heap_alloc_new wr _)]
    simp[b8_toNat hdl])
  have hadd: ∀V,(Op.stringOp .add z ⟨[b8 d].toArray⟩).run Tryz.prog V=.ok (.string (z++⟨[b8 d].toArray⟩)) V:=fun V=>run_string_add_sum V _ _ (by have e7:(⟨[b8 d].toArray⟩:ByteArray).size=1:=rfl;omega)
  have hzs:(z++⟨[b8 d].toArray⟩).size≤k+1+1:=by rw[ByteArray.size_append];have e7:(⟨[b8 d].toArray⟩:ByteArray).size=1:=rfl;omega
  generalize z++(⟨[b8 d].toArray⟩:ByteArray)=z2 at*
  generalize (⟨[b8 d].toArray⟩:ByteArray)=z1 at*
  go_wp2_with fail
  go_roundw
  ·exact ⟨k+1,q1,z2,by omega,hq1l,hzs,rfl,rfl,by go_num,HOA⟩
  case measure=>simp[intOf];omega
 have hk7I:¬(k:Int)<7:=by omega
 go_wp2_with fail
 go_ret
 exact ⟨⟨z,rfl⟩,(uh HO).trans (Only.oldW (uh HW)),((uh HW).block b (by have:=(uh HO).size;omega) (fun x=>x)).trans (uh HG)⟩
abbrev tF:TypeId:=50
abbrev tL:TypeId:=48
abbrev tE:TypeId:=39
abbrev tFs:TypeId:=41
abbrev tLs:TypeId:=42
abbrev tEs:TypeId:=40
abbrev tDk:TypeId:=92
abbrev tTh:TypeId:=95
def elF(m:ByteArray):List Value:=[.string m,.string ⟨#[]⟩]
def elL(m:ByteArray):List Value:=[.string m,.int .i64 0]
def elE(m:ByteArray):List Value:=[.string m,.bool false,.string ⟨#[]⟩]
def Full(w:World)(e:TypeId)(k:Nat)(el:ByteArray→List Value)(v:Value)(m:ByteArray):Prop:= ∃ao n cap,v=.slice ao n cap∧n≤2000000∧(n=0∨ ∃g cur,ao=some ⟨g,0,none⟩∧w.heap[g]? =some (.cells cur e (0,0))∧ ∀i,i<n→ ∀j u,(el m)[j]? =some u→cur[i*k+j]? =some u)
theorem Full.kept{S:Nat→Prop}{w w' :World}{e:TypeId}{k:Nat}{el:ByteArray→List Value}{v:Value}{m:ByteArray}(h:Full w e k el v m)(ho:Only S w w')(hs: ∀g cur,w.heap[g]? =some (.cells cur e (0,0))→v.ownBlock=some g→¬S g):Full w' e k el v m:=by
 obtain ⟨ao,n,cap,rfl,hn,h|⟨g,cur,rfl,hg,hc⟩⟩:=h
 ·exact ⟨ao,n,cap,rfl,hn,.inl h⟩
 exact ⟨_,n,cap,rfl,hn,.inr ⟨g,cur,rfl,(ho.block g (Array.getElem?_eq_some_iff.1 hg).1 (hs g cur hg rfl)).trans hg,hc⟩⟩
def RwAt(w:World)(e et:TypeId)(k:Nat)(el:ByteArray→List Value)(vr vm:Value)(R:List (Value×ByteArray)):Prop:=w.ownsRow 0 et 1 vr R.length (R.map (·.1))∧w.ownsRow 0 9 1 vm R.length (R.map fun x=>Value.string x.2)∧ ∀x∈R,Full w e k el x.1 x.2
theorem RwAt.nil(w:World)(e et:TypeId)(k:Nat)(el:ByteArray→List Value):RwAt w e et k el nilV nilV []:=⟨World.ownsRow_nil _ _ _ _,World.ownsRow_nil _ _ _ _,fun _ h=>by cases h⟩
theorem RwAt.kept{S:Nat→Prop}{w w' :World}{e et:TypeId}{k:Nat}{el:ByteArray→List Value}{vr vm:Value}{R:List (Value×ByteArray)}(h:RwAt w e et k el vr vm R)(ho:Only S w w')(h1: ∀b,vr.ownBlock=some b→¬S b)(h2: ∀b,vm.ownBlock=some b→¬S b)
 (h3: ∀x,x∈R→ ∀g cur,w.heap[g]? =some (.cells cur e (0,0))→x.1.ownBlock=some g→¬S g):RwAt w' e et k el vr vm R:=
 ⟨ownk_kept h.1 ho h1,ownk_kept h.2.1 ho h2,fun x hx=>(h.2.2 x hx).kept ho (h3 x hx)⟩
theorem RwAt.old{w w' :World}{e et:TypeId}{k:Nat}{el:ByteArray→List Value}{vr vm:Value}{R:List (Value×ByteArray)}(h:RwAt w e et k el vr vm R)(ho:Old w w'):RwAt w' e et k el vr vm R:=h.kept ho (fun _ _ x=>x) (fun _ _ x=>x) (fun _ _ _ _ _ _ x=>x)
structure WLs (w1 w:World) (b c:Nat) (s:WS) (RF RL RT:List (Value×ByteArray)):Prop where
 only:Only (fun k=>k=b) w1 w
 lt:b<w1.heap.size
 hp:w.heap[b]? =some (.cells (s.cs c) wT (0,0))
 rf:RwAt w tF tFs 2 elF s.r5 s.r6 RF
 rl:RwAt w tL tLs 2 elL s.r7 s.r8 RL
 rt:RwAt w tE tEs 3 elE s.r9 s.r10 RT
 new: ∀r,r=s.r5∨r=s.r6∨r=s.r7∨r=s.r8∨r=s.r9∨r=s.r10→ ∀k,r.ownBlock=some k→w1.heap.size≤k
 ap1: ∀k,s.r6.ownBlock=some k→s.r8.ownBlock≠some k
 ap2: ∀k,s.r6.ownBlock=some k→s.r10.ownBlock≠some k
 ap3: ∀k,s.r8.ownBlock=some k→s.r10.ownBlock≠some k
 few:RF.length≤4*c∧RL.length≤4*c∧RT.length≤4*c
 dk: ∀(k:Nat) (cu:Array Value) (e:TypeId),(e=tDk∨e=tTh)→s.z.heap[k]? =some (.cells cu e (0,0))→w.heap[k]? =some (.cells cu e (0,0))
theorem WLs.old{w1 w w' :World}{b c:Nat}{s:WS}{RF RL RT:List (Value×ByteArray)}(h:WLs w1 w b c s RF RL RT)(ho:Old w w'):WLs w1 w' b c s RF RL RT:=
 ⟨h.only.trans (Only.oldW ho),h.lt,(ho.block b (Array.getElem?_eq_some_iff.1 h.hp).1 (fun x=>x)).trans h.hp,h.rf.old ho,h.rl.old ho,h.rt.old ho,h.new,h.ap1,h.ap2,h.ap3,h.few,fun k cu e he hz=>old_heap ho (h.dk k cu e he hz)⟩
theorem WLs.inb{w1 w:World}{b c:Nat}{s:WS}{RF RL RT:List (Value×ByteArray)}(h:WLs w1 w b c s RF RL RT):b<w.heap.size:=(Array.getElem?_eq_some_iff.1 h.hp).1
theorem kinds{w:World}{g:Nat}{c1 c2:Array Value}{e1 e2:TypeId}(h1:w.heap[g]? =some (.cells c1 e1 (0,0)))(h2:w.heap[g]? =some (.cells c2 e2 (0,0)))(hne:e1≠e2):False:=by
 rw[h1] at h2;injection h2 with h2;injection h2 with _ h2;exact hne h2
theorem WLs.rec_{w1 w w' :World}{b c c' :Nat}{s s' :WS}{RF RL RT:List (Value×ByteArray)}(h:WLs w1 w b c s RF RL RT)(ho:Only (fun k=>k=b) w w')(hp:w'.heap[b]? =some (.cells (s'.cs c') wT (0,0)))(hc:c≤c')
 (e5:s'.r5=s.r5)(e6:s'.r6=s.r6)(e7:s'.r7=s.r7)(e8:s'.r8=s.r8)(e9:s'.r9=s.r9)(e10:s'.r10=s.r10)(ez:s'.z=s.z:=by rfl):WLs w1 w' b c' s' RF RL RT:=by
 have kb: ∀{e:TypeId} {k:Nat} {v:Value} {n:Nat} {xs:List Value},e≠wT→w.ownsRow 0 e k v n xs→ ∀g,v.ownBlock=some g→¬g=b:=fun hne hr g hg e=>by
  obtain ⟨cur,hc⟩:=ownk_heap hr hg
  exact kinds (e ▸ hc) h.hp hne
 have kl: ∀{e:TypeId},e≠wT→ ∀g cur,w.heap[g]? =some (.cells cur e (0,0))→¬g=b:=fun hne g cur hg e=>kinds (e ▸ hg) h.hp hne
 refine ⟨h.only.trans ho,h.lt,hp, ?_, ?_, ?_, ?_, ?_, ?_, ?_, ?_, ?_⟩
 ·rw[e5,e6];exact h.rf.kept ho (kb (by decide) h.rf.1) (kb (by decide) h.rf.2.1) (fun _ _ g cur hg _=>kl (by decide) g cur hg)
 ·rw[e7,e8];exact h.rl.kept ho (kb (by decide) h.rl.1) (kb (by decide) h.rl.2.1) (fun _ _ g cur hg _=>kl (by decide) g cur hg)
 ·rw[e9,e10];exact h.rt.kept ho (kb (by decide) h.rt.1) (kb (by decide) h.rt.2.1) (fun _ _ g cur hg _=>kl (by decide) g cur hg)
 ·rw[e5,e6,e7,e8,e9,e10];exact h.new
 ·rw[e6,e8];exact h.ap1
 ·rw[e6,e10];exact h.ap2
 ·rw[e8,e10];exact h.ap3
 ·have:=h.few;omega
 intro k cu e he hz
 rw[ez] at hz
 have h1:=h.dk k cu e he hz
 exact (ho.block k (Array.getElem?_eq_some_iff.1 h1).1 (kl (by rcases he with rfl|rfl<;>decide) k cu h1)).trans h1
theorem old_cell{w w' :World}(ho:Old w w'){p:Addr}{v:Value}(h:w.cell? p=some v):w'.cell? p=some v:=(ho.cell (cell_in h) (fun x=>x)).trans h
theorem row_form{w:World}{e:TypeId}{k:Nat}{v:Value}{n:Nat}{xs:List Value}(h:w.ownsRow 0 e k v n xs): ∃ao cap,v=.slice ao n cap:=by
 obtain ⟨_,⟨rfl,hz⟩|⟨g,cap,cur,rfl,_⟩⟩:=h
 ·rw[hz];exact ⟨none,0,rfl⟩
 exact ⟨_,_,rfl⟩
theorem row_cell{w:World}{e:TypeId}{v:Value}{xs:List Value}{n:Nat}(h:w.ownsRow 0 e 1 v n xs){i:Nat}{u:Value}(hi:xs[i]? =some u)(hn:i<n): ∃g cap,v=.slice (some ⟨g,0,none⟩) n cap∧w.cell? ⟨g,i,none⟩=some u:=by
 obtain ⟨g,cap,rfl,_,_⟩:=h.form (by omega)
 refine ⟨g,cap,rfl, ?_⟩
 have:=h.cells (g:=g) rfl i u hi
 rw[Addr.add_lit,Nat.zero_add] at this
 exact this
theorem RwAt.row{w:World}{e et:TypeId}{k:Nat}{el:ByteArray→List Value}{vr vm:Value}{R:List (Value×ByteArray)}(h:RwAt w e et k el vr vm R){i:Nat}(hi:i<R.length): ∃g5 c5 g6 c6,vr=.slice (some ⟨g5,0,none⟩) R.length c5∧vm=.slice (some ⟨g6,0,none⟩) R.length c6∧w.cell? ⟨g5,i,none⟩=some R[i].1∧w.cell? ⟨g6,i,none⟩=some (.string R[i].2):=by
 obtain ⟨g5,c5,e5,d5⟩:=row_cell h.1 (i:=i) (u:=R[i].1) (by simp[hi]) hi
 obtain ⟨g6,c6,e6,d6⟩:=row_cell h.2.1 (i:=i) (u:=.string R[i].2) (by simp[hi]) hi
 exact ⟨g5,c5,g6,c6,e5,e6,d5,d6⟩
theorem Full.el{w:World}{e:TypeId}{k:Nat}{el:ByteArray→List Value}{v:Value}{m:ByteArray}(h:Full w e k el v m): ∃ao n cap,v=.slice ao n cap∧n≤2000000∧ ∀i,i<n→ ∃g,ao=some ⟨g,0,none⟩∧ ∀j u,(el m)[j]? =some u→w.cell? ⟨g,i*k+j,none⟩=some u:=by
 obtain ⟨ao,n,cap,rfl,hn,h|⟨g,cur,rfl,hg,hc⟩⟩:=h
 ·exact ⟨ao,n,cap,rfl,hn,fun i hi=>by omega⟩
 exact ⟨_,n,cap,rfl,hn,fun i hi=>⟨g,rfl,fun j u hj=>by rw[cell_of_row w g _ _ _ (0,0) hg];exact hc i hi j u hj⟩⟩
theorem stFl:Tryz.prog.underlying 50=some (.struct (Tryz.prog.fieldsOf 50)):=by kernel_rfl
theorem shFl:Tryz.prog.stoodInHeld 50=false:=by kernel_rfl
theorem stLeft:Tryz.prog.underlying 48=some (.struct (Tryz.prog.fieldsOf 48)):=by kernel_rfl
theorem shLeft:Tryz.prog.stoodInHeld 48=false:=by kernel_rfl
theorem stEnt:Tryz.prog.underlying 39=some (.struct (Tryz.prog.fieldsOf 39)):=by kernel_rfl
theorem shEnt:Tryz.prog.stoodInHeld 39=false:=by kernel_rfl
theorem neqFF(nm d:ByteArray)(W:World):(binOp .neq 50 (.agg #[.string nm,.string d]) (.agg #[.string nm,.string d])).run Tryz.prog W=.ok (.bool false) W:=by
 rw[run_neq_struct,run_equalIn_agg W 9999 _ _ _ stFl shFl]
 simp[go_sem,Tryz.underlying50]
theorem neqLL(nm:ByteArray)(y:Int)(W:World):(binOp .neq 48 (.agg #[.string nm,.int .i64 y]) (.agg #[.string nm,.int .i64 y])).run Tryz.prog W=.ok (.bool false) W:=by
 rw[run_neq_struct,run_equalIn_agg W 9999 _ _ _ stLeft shLeft]
 simp[go_sem,Tryz.underlying48]
theorem eqLL(nm:ByteArray)(y:Int)(W:World):(binOp .eql 48 (.agg #[.string nm,.int .i64 y]) (.agg #[.string nm,.int .i64 y])).run Tryz.prog W=.ok (.bool true) W:=by
 rw[run_eql_struct,run_equalIn_agg W 9999 _ _ _ stLeft shLeft]
 simp[go_sem,Tryz.underlying48]
theorem neqEE(nm d:ByteArray)(l:Bool)(W:World):(binOp .neq 39 (.agg #[.string nm,.bool l,.string d]) (.agg #[.string nm,.bool l,.string d])).run Tryz.prog W=.ok (.bool false) W:=by
 rw[run_neq_struct,run_equalIn_agg W 9999 _ _ _ stEnt shEnt]
 simp[go_sem,Tryz.underlying39]
theorem eqEE(nm d:ByteArray)(l:Bool)(W:World):(binOp .eql 39 (.agg #[.string nm,.bool l,.string d]) (.agg #[.string nm,.bool l,.string d])).run Tryz.prog W=.ok (.bool true) W:=by
 rw[run_eql_struct,run_equalIn_agg W 9999 _ _ _ stEnt shEnt]
 simp[go_sem,Tryz.underlying39]
theorem stillC{w1:World}{b c:Nat}{s:WS}{RF RL RT:List (Value×ByteArray)}(hc:c≤100000000)(w:World)(h:WLs w1 w b c s RF RL RT):
 Calls Tryz.prog 39 #[.pointer (some ⟨b,0,none⟩)] w fun e w' =>e=.returned (.bool true)∧Old w w' :=by
 have c5:w.cell? ⟨b,5,none⟩=some s.r5:=by rw[cell_of_row w b 5 _ _ (0,0) h.hp];rfl
 have c6:w.cell? ⟨b,6,none⟩=some s.r6:=by rw[cell_of_row w b 6 _ _ (0,0) h.hp];rfl
 have c7:w.cell? ⟨b,7,none⟩=some s.r7:=by rw[cell_of_row w b 7 _ _ (0,0) h.hp];rfl
 have c8:w.cell? ⟨b,8,none⟩=some s.r8:=by rw[cell_of_row w b 8 _ _ (0,0) h.hp];rfl
 have c9:w.cell? ⟨b,9,none⟩=some s.r9:=by rw[cell_of_row w b 9 _ _ (0,0) h.hp];rfl
 have c10:w.cell? ⟨b,10,none⟩=some s.r10:=by rw[cell_of_row w b 10 _ _ (0,0) h.hp];rfl
 obtain ⟨hf1,hf2,hf3⟩:=h.few
 have HL:=hide h
 clear h
 obtain ⟨m,v,ar,pd,pr,r5,r6,r7,r8,r9,r10⟩:=s
 simp only at*
 obtain ⟨a5,z5,rfl⟩:=row_form (uh HL).rf.1
 obtain ⟨a6,z6,rfl⟩:=row_form (uh HL).rf.2.1
 obtain ⟨a7,z7,rfl⟩:=row_form (uh HL).rl.1
 obtain ⟨a8,z8,rfl⟩:=row_form (uh HL).rl.2.1
 obtain ⟨a9,z9,rfl⟩:=row_form (uh HL).rt.1
 obtain ⟨a10,z10,rfl⟩:=row_form (uh HL).rt.2.1
 have HO:Hid (Old w w):=Only.refl _ w
 go_in
 go_wp2_with fail
 go_loopw [3,4] (fun x _ wr=> ∃i:Nat,i≤RF.length∧x=.int .i64 i∧Hid (Old w wr)) (fun x _ _=>RF.length- (intOf x).toNat)
 ·exact ⟨0,by omega,rfl,HO⟩
 clear HO
 obtain ⟨i1,hi1,rfl,HO⟩:=hrel
 have k5:=old_cell (uh HO) c5
 have k6:=old_cell (uh HO) c6
 by_cases hil:i1<RF.length
 ·have hilI:(i1:Int)<(RF.length:Int):=by omega
  obtain ⟨g5,q5,g6,q6,e5,e6,d5,d6⟩:=(uh HL).rf.row hil
  injection e5 with e51 e52 e53
  injection e6 with e61 e62 e63
  subst e51 e53 e61 e63
  obtain ⟨al,n,cal,hv,hn,hel⟩:=((uh HL).rf.2.2 _ (List.getElem_mem hil)).el
  rw[hv] at d5
  have HEL:=hide hel
  clear hv hel
  generalize RF[i1].2=m at*
  have HD5:=hide d5
  have HD6:=hide d6
  clear d5 d6
  have l5:=old_cell (uh HO) (uh HD5)
  go_wp2_with fail
  go_loopw [4] (fun y wr=> ∃k:Nat,k≤n∧y=.int .i64 k∧Hid (Old w wr)) (fun y _=>n- (intOf y).toNat)
  ·exact ⟨0,by omega,rfl,HO⟩
  clear HO k5 k6 l5
  obtain ⟨k,hk,rfl,HO⟩:=hrel
  have k5:=old_cell (uh HO) c5
  have k6:=old_cell (uh HO) c6
  have l5:=old_cell (uh HO) (uh HD5)
  by_cases hkl:k<n
  ·have hklI:(k:Int)<(n:Int):=by omega
   have l6:=old_cell (uh HO) (uh HD6)
   obtain ⟨gl,hal,hcl⟩:=uh HEL k hkl
   subst hal
   have m0:=old_cell (uh HO) (hcl 0 (.string m) rfl)
   have m1:=old_cell (uh HO) (hcl 1 (.string ⟨#[]⟩) rfl)
   rw[Nat.add_zero] at m0
   clear hcl
   have hne:=neqFF m ⟨#[]⟩
   go_wp2_with fail
   go_quiet (fail)
   go_wp2_with fail
   go_roundw
   ·exact ⟨k+1,by omega,by go_num,(uh HO).drewN _⟩
   case measure=>simp[intOf];omega
  have hklI:¬(k:Int)<(n:Int):=by omega
  go_wp2_with fail
  go_roundw
  ·exact ⟨i1+1,by omega,by go_num,HO⟩
  case measure=>simp[intOf];omega
 have hilI:¬(i1:Int)<(RF.length:Int):=by omega
 go_wp2_with fail
 clear k5 k6
 go_loopw [5,6] (fun x _ wr=> ∃i:Nat,i≤RL.length∧x=.int .i64 i∧Hid (Old w wr)) (fun x _ _=>RL.length- (intOf x).toNat)
 ·exact ⟨0,by omega,rfl,HO⟩
 clear HO
 obtain ⟨i2,hi2,rfl,HO⟩:=hrel
 have k5:=old_cell (uh HO) c7
 have k6:=old_cell (uh HO) c8
 by_cases hil:i2<RL.length
 ·have hilI:(i2:Int)<(RL.length:Int):=by omega
  obtain ⟨g5,q5,g6,q6,e5,e6,d5,d6⟩:=(uh HL).rl.row hil
  injection e5 with e51 e52 e53
  injection e6 with e61 e62 e63
  subst e51 e53 e61 e63
  obtain ⟨al,n,cal,hv,hn,hel⟩:=((uh HL).rl.2.2 _ (List.getElem_mem hil)).el
  rw[hv] at d5
  have HEL:=hide hel
  clear hv hel
  generalize RL[i2].2=m at*
  have HD5:=hide d5
  have HD6:=hide d6
  clear d5 d6
  have l5:=old_cell (uh HO) (uh HD5)
  go_wp2_with fail
  go_loopw [6] (fun y wr=> ∃k:Nat,k≤n∧y=.int .i64 k∧Hid (Old w wr)) (fun y _=>n- (intOf y).toNat)
  ·exact ⟨0,by omega,rfl,HO⟩
  clear HO k5 k6 l5
  obtain ⟨k,hk,rfl,HO⟩:=hrel
  have k5:=old_cell (uh HO) c7
  have k6:=old_cell (uh HO) c8
  have l5:=old_cell (uh HO) (uh HD5)
  by_cases hkl:k<n
  ·have hklI:(k:Int)<(n:Int):=by omega
   have l6:=old_cell (uh HO) (uh HD6)
   obtain ⟨gl,hal,hcl⟩:=uh HEL k hkl
   subst hal
   have m0:=old_cell (uh HO) (hcl 0 (.string m) rfl)
   have m1:=old_cell (uh HO) (hcl 1 (.int .i64 0) rfl)
   rw[Nat.add_zero] at m0
   clear hcl
   have hne:=neqLL m 0
   go_wp2_with fail
   go_quiet (fail)
   go_wp2_with fail
   go_roundw
   ·exact ⟨k+1,by omega,by go_num,(uh HO).drewN _⟩
   case measure=>simp[intOf];omega
  have hklI:¬(k:Int)<(n:Int):=by omega
  go_wp2_with fail
  go_roundw
  ·exact ⟨i2+1,by omega,by go_num,HO⟩
  case measure=>simp[intOf];omega
 have hilI:¬(i2:Int)<(RL.length:Int):=by omega
 go_wp2_with fail
 clear k5 k6
 go_loopw [7,8] (fun x _ wr=> ∃i:Nat,i≤RT.length∧x=.int .i64 i∧Hid (Old w wr)) (fun x _ _=>RT.length- (intOf x).toNat)
 ·exact ⟨0,by omega,rfl,HO⟩
 clear HO
 obtain ⟨i3,hi3,rfl,HO⟩:=hrel
 have k5:=old_cell (uh HO) c9
 have k6:=old_cell (uh HO) c10
 by_cases hil:i3<RT.length
 ·have hilI:(i3:Int)<(RT.length:Int):=by omega
  obtain ⟨g5,q5,g6,q6,e5,e6,d5,d6⟩:=(uh HL).rt.row hil
  injection e5 with e51 e52 e53
  injection e6 with e61 e62 e63
  subst e51 e53 e61 e63
  obtain ⟨al,n,cal,hv,hn,hel⟩:=((uh HL).rt.2.2 _ (List.getElem_mem hil)).el
  rw[hv] at d5
  have HEL:=hide hel
  clear hv hel
  generalize RT[i3].2=m at*
  have HD5:=hide d5
  have HD6:=hide d6
  clear d5 d6
  have l5:=old_cell (uh HO) (uh HD5)
  go_wp2_with fail
  go_loopw [8] (fun y wr=> ∃k:Nat,k≤n∧y=.int .i64 k∧Hid (Old w wr)) (fun y _=>n- (intOf y).toNat)
  ·exact ⟨0,by omega,rfl,HO⟩
  clear HO k5 k6 l5
  obtain ⟨k,hk,rfl,HO⟩:=hrel
  have k5:=old_cell (uh HO) c9
  have k6:=old_cell (uh HO) c10
  have l5:=old_cell (uh HO) (uh HD5)
  by_cases hkl:k<n
  ·have hklI:(k:Int)<(n:Int):=by omega
   have l6:=old_cell (uh HO) (uh HD6)
   obtain ⟨gl,hal,hcl⟩:=uh HEL k hkl
   subst hal
   have m0:=old_cell (uh HO) (hcl 0 (.string m) rfl)
   have m1:=old_cell (uh HO) (hcl 1 (.bool false) rfl)
   have m2:=old_cell (uh HO) (hcl 2 (.string ⟨#[]⟩) rfl)
   rw[Nat.add_zero] at m0
   clear hcl
   have hne:=neqEE m ⟨#[]⟩ false
   go_wp2_with fail
   go_quiet (fail)
   go_wp2_with fail
   go_roundw
   ·exact ⟨k+1,by omega,by go_num,(uh HO).drewN _⟩
   case measure=>simp[intOf];omega
  have hklI:¬(k:Int)<(n:Int):=by omega
  go_wp2_with fail
  go_roundw
  ·exact ⟨i3+1,by omega,by go_num,HO⟩
  case measure=>simp[intOf];omega
 have hilI:¬(i3:Int)<(RT.length:Int):=by omega
 go_wp2_with fail
 clear k5 k6
 go_ret
 exact ⟨rfl,uh HO⟩
end Go.Proofs.YtndfmgdhiallpaaGreatDoor
