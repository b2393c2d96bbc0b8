import Derived.Test.YtndfmgdhiallpaaGreatDoorRh
set_option maxRecDepth 100000
set_option maxHeartbeats 8000000
namespace Go.Proofs.YtndfmgdhiallpaaGreatDoor
open Go.RowKit Go.Maps
theorem WLs.pushF{w1 w w' :World}{b c:Nat}{s:WS}{RF RL RT:List (Value×ByteArray)}{va vb v:Value}{m:ByteArray}(h:WLs w1 w b c s RF RL RT)(ho:Only (fun k=>k=b∨s.r5.ownBlock=some k∨s.r6.ownBlock=some k) w w')
 (hp:w'.heap[b]? =some (.cells (({s with r5:=va,r6:=vb}:WS).cs c) wT (0,0)))(ha:w'.ownsRow 0 tFs 1 va (RF.length+1) (RF.map (·.1)++[v]))(hb:w'.ownsRow 0 9 1 vb (RF.length+1) (RF.map (fun x=>Value.string x.2)++[.string m]))
 (hba: ∀k,va.ownBlock=some k→s.r5.ownBlock=some k∨w.heap.size≤k)(hbb: ∀k,vb.ownBlock=some k→s.r6.ownBlock=some k∨w.heap.size≤k)(hf:Full w tF 2 elF v m)(hfew:RF.length+1≤4*c):
 WLs w1 w' b c {s with r5:=va,r6:=vb} (RF++[(v,m)]) RL RT:=by
 have ns: ∀{e:TypeId} {g:Nat} {cur:Array Value},e≠wT→e≠tFs→e≠9→w.heap[g]? =some (.cells cur e (0,0))→¬(g=b∨s.r5.ownBlock=some g∨s.r6.ownBlock=some g):=by
  intro e g cur h1 h2 h3 hg hS
  rcases hS with hS|hS|hS
  ·subst hS;exact kinds hg h.hp h1
  ·obtain ⟨cur2,hg2⟩:=ownk_heap h.rf.1 hS
   exact kinds hg hg2 h2
  obtain ⟨cur2,hg2⟩:=ownk_heap h.rf.2.1 hS
  exact kinds hg hg2 h3
 have k_rl:RwAt w' tL tLs 2 elL s.r7 s.r8 RL:=by
  refine h.rl.kept ho (fun k hk hS=> ?_) (fun k hk hS=> ?_) (fun x hx g cur hg _=>ns (by decide) (by decide) (by decide) hg)
  ·obtain ⟨cur,hg⟩:=ownk_heap h.rl.1 hk
   exact ns (by decide) (by decide) (by decide) hg hS
  obtain ⟨cur,hg⟩:=ownk_heap h.rl.2.1 hk
  rcases hS with hS|hS|hS
  ·subst hS;exact kinds hg h.hp (by decide)
  ·obtain ⟨cur2,hg2⟩:=ownk_heap h.rf.1 hS
   exact kinds hg hg2 (by decide)
  exact h.ap1 k hS hk
 have k_rt:RwAt w' tE tEs 3 elE s.r9 s.r10 RT:=by
  refine h.rt.kept ho (fun k hk hS=> ?_) (fun k hk hS=> ?_) (fun x hx g cur hg _=>ns (by decide) (by decide) (by decide) hg)
  ·obtain ⟨cur,hg⟩:=ownk_heap h.rt.1 hk
   exact ns (by decide) (by decide) (by decide) hg hS
  obtain ⟨cur,hg⟩:=ownk_heap h.rt.2.1 hk
  rcases hS with hS|hS|hS
  ·subst hS;exact kinds hg h.hp (by decide)
  ·obtain ⟨cur2,hg2⟩:=ownk_heap h.rf.1 hS
   exact kinds hg hg2 (by decide)
  exact h.ap2 k hS hk
 have apn_r8: ∀k,vb.ownBlock=some k→s.r8.ownBlock=some k→False:=fun k h1 h2=>by
  rcases hbb k h1 with h3|h3
  ·exact h.ap1 k h3 h2
  obtain ⟨cur,hg⟩:=ownk_heap h.rl.2.1 h2
  have:=(Array.getElem?_eq_some_iff.1 hg).1
  omega
 have apn_r10: ∀k,vb.ownBlock=some k→s.r10.ownBlock=some k→False:=fun k h1 h2=>by
  rcases hbb k h1 with h3|h3
  ·exact h.ap2 k h3 h2
  obtain ⟨cur,hg⟩:=ownk_heap h.rt.2.1 h2
  have:=(Array.getElem?_eq_some_iff.1 hg).1
  omega
 refine ⟨h.only.transNew ho (fun k hk hS=> ?_),h.lt,hp, ?_,k_rl,k_rt, ?_,fun k h1 h2=>apn_r8 k h1 h2,fun k h1 h2=>apn_r10 k h1 h2,h.ap3, ?_,(fun k cu e he hz=>(ho.block k (Array.getElem?_eq_some_iff.1 (h.dk k cu e he hz)).1 (ns (by rcases he with rfl|rfl<;>decide) (by rcases he with rfl|rfl<;>decide) (by rcases he with rfl|rfl<;>decide) (h.dk k cu e he hz))).trans (h.dk k cu e he hz))⟩
 ·rcases hS with hS|hS|hS
  ·exact hS
  ·have:=h.new s.r5 (by simp) k hS;omega
  have:=h.new s.r6 (by simp) k hS;omega
 ·refine ⟨by simpa using ha,by simpa using hb,fun x hx=> ?_⟩
  rcases List.mem_append.1 hx with hx|hx
  ·exact (h.rf.2.2 x hx).kept ho (fun g cur hg _=>ns (by decide) (by decide) (by decide) hg)
  rw[List.mem_singleton] at hx;subst hx
  exact hf.kept ho (fun g cur hg _=>ns (by decide) (by decide) (by decide) hg)
 ·intro r hr k hk
  have hsz:=h.only.size
  have hA:r=va→w1.heap.size≤k:=fun e=>by
   subst e
   rcases hba k hk with h3|h3
   ·exact h.new s.r5 (by simp) k h3
   omega
  have hB:r=vb→w1.heap.size≤k:=fun e=>by
   subst e
   rcases hbb k hk with h3|h3
   ·exact h.new s.r6 (by simp) k h3
   omega
  rcases hr with e|e|e|e|e|e
  ·exact hA e
  ·exact hB e
  ·exact h.new r (by rw[e];simp) k hk
  ·exact h.new r (by rw[e];simp) k hk
  ·exact h.new r (by rw[e];simp) k hk
  exact h.new r (by rw[e];simp) k hk
 have:=h.few
 rw[List.length_append,List.length_singleton]
 omega
theorem WLs.pushL{w1 w w' :World}{b c:Nat}{s:WS}{RF RL RT:List (Value×ByteArray)}{va vb v:Value}{m:ByteArray}(h:WLs w1 w b c s RF RL RT)(ho:Only (fun k=>k=b∨s.r7.ownBlock=some k∨s.r8.ownBlock=some k) w w')
 (hp:w'.heap[b]? =some (.cells (({s with r7:=va,r8:=vb}:WS).cs c) wT (0,0)))(ha:w'.ownsRow 0 tLs 1 va (RL.length+1) (RL.map (·.1)++[v]))(hb:w'.ownsRow 0 9 1 vb (RL.length+1) (RL.map (fun x=>Value.string x.2)++[.string m]))
 (hba: ∀k,va.ownBlock=some k→s.r7.ownBlock=some k∨w.heap.size≤k)(hbb: ∀k,vb.ownBlock=some k→s.r8.ownBlock=some k∨w.heap.size≤k)(hf:Full w tL 2 elL v m)(hfew:RL.length+1≤4*c):
 WLs w1 w' b c {s with r7:=va,r8:=vb} RF (RL++[(v,m)]) RT:=by
 have ns: ∀{e:TypeId} {g:Nat} {cur:Array Value},e≠wT→e≠tLs→e≠9→w.heap[g]? =some (.cells cur e (0,0))→¬(g=b∨s.r7.ownBlock=some g∨s.r8.ownBlock=some g):=by
  intro e g cur h1 h2 h3 hg hS
  rcases hS with hS|hS|hS
  ·subst hS;exact kinds hg h.hp h1
  ·obtain ⟨cur2,hg2⟩:=ownk_heap h.rl.1 hS
   exact kinds hg hg2 h2
  obtain ⟨cur2,hg2⟩:=ownk_heap h.rl.2.1 hS
  exact kinds hg hg2 h3
 have k_rf:RwAt w' tF tFs 2 elF s.r5 s.r6 RF:=by
  refine h.rf.kept ho (fun k hk hS=> ?_) (fun k hk hS=> ?_) (fun x hx g cur hg _=>ns (by decide) (by decide) (by decide) hg)
  ·obtain ⟨cur,hg⟩:=ownk_heap h.rf.1 hk
   exact ns (by decide) (by decide) (by decide) hg hS
  obtain ⟨cur,hg⟩:=ownk_heap h.rf.2.1 hk
  rcases hS with hS|hS|hS
  ·subst hS;exact kinds hg h.hp (by decide)
  ·obtain ⟨cur2,hg2⟩:=ownk_heap h.rl.1 hS
   exact kinds hg hg2 (by decide)
  exact h.ap1 k hk hS
 have k_rt:RwAt w' tE tEs 3 elE s.r9 s.r10 RT:=by
  refine h.rt.kept ho (fun k hk hS=> ?_) (fun k hk hS=> ?_) (fun x hx g cur hg _=>ns (by decide) (by decide) (by decide) hg)
  ·obtain ⟨cur,hg⟩:=ownk_heap h.rt.1 hk
   exact ns (by decide) (by decide) (by decide) hg hS
  obtain ⟨cur,hg⟩:=ownk_heap h.rt.2.1 hk
  rcases hS with hS|hS|hS
  ·subst hS;exact kinds hg h.hp (by decide)
  ·obtain ⟨cur2,hg2⟩:=ownk_heap h.rl.1 hS
   exact kinds hg hg2 (by decide)
  exact h.ap3 k hS hk
 have apn_r6: ∀k,vb.ownBlock=some k→s.r6.ownBlock=some k→False:=fun k h1 h2=>by
  rcases hbb k h1 with h3|h3
  ·exact h.ap1 k h2 h3
  obtain ⟨cur,hg⟩:=ownk_heap h.rf.2.1 h2
  have:=(Array.getElem?_eq_some_iff.1 hg).1
  omega
 have apn_r10: ∀k,vb.ownBlock=some k→s.r10.ownBlock=some k→False:=fun k h1 h2=>by
  rcases hbb k h1 with h3|h3
  ·exact h.ap3 k h3 h2
  obtain ⟨cur,hg⟩:=ownk_heap h.rt.2.1 h2
  have:=(Array.getElem?_eq_some_iff.1 hg).1
  omega
 refine ⟨h.only.transNew ho (fun k hk hS=> ?_),h.lt,hp,k_rf, ?_,k_rt, ?_,fun k h1 h2=>apn_r6 k h2 h1,h.ap2,fun k h1 h2=>apn_r10 k h1 h2, ?_,(fun k cu e he hz=>(ho.block k (Array.getElem?_eq_some_iff.1 (h.dk k cu e he hz)).1 (ns (by rcases he with rfl|rfl<;>decide) (by rcases he with rfl|rfl<;>decide) (by rcases he with rfl|rfl<;>decide) (h.dk k cu e he hz))).trans (h.dk k cu e he hz))⟩
 ·rcases hS with hS|hS|hS
  ·exact hS
  ·have:=h.new s.r7 (by simp) k hS;omega
  have:=h.new s.r8 (by simp) k hS;omega
 ·refine ⟨by simpa using ha,by simpa using hb,fun x hx=> ?_⟩
  rcases List.mem_append.1 hx with hx|hx
  ·exact (h.rl.2.2 x hx).kept ho (fun g cur hg _=>ns (by decide) (by decide) (by decide) hg)
  rw[List.mem_singleton] at hx;subst hx
  exact hf.kept ho (fun g cur hg _=>ns (by decide) (by decide) (by decide) hg)
 ·intro r hr k hk
  have hsz:=h.only.size
  have hA:r=va→w1.heap.size≤k:=fun e=>by
   subst e
   rcases hba k hk with h3|h3
   ·exact h.new s.r7 (by simp) k h3
   omega
  have hB:r=vb→w1.heap.size≤k:=fun e=>by
   subst e
   rcases hbb k hk with h3|h3
   ·exact h.new s.r8 (by simp) k h3
   omega
  rcases hr with e|e|e|e|e|e
  ·exact h.new r (by rw[e];simp) k hk
  ·exact h.new r (by rw[e];simp) k hk
  ·exact hA e
  ·exact hB e
  ·exact h.new r (by rw[e];simp) k hk
  exact h.new r (by rw[e];simp) k hk
 have:=h.few
 rw[List.length_append,List.length_singleton]
 omega
theorem WLs.pushT{w1 w w' :World}{b c:Nat}{s:WS}{RF RL RT:List (Value×ByteArray)}{va vb v:Value}{m:ByteArray}(h:WLs w1 w b c s RF RL RT)(ho:Only (fun k=>k=b∨s.r9.ownBlock=some k∨s.r10.ownBlock=some k) w w')
 (hp:w'.heap[b]? =some (.cells (({s with r9:=va,r10:=vb}:WS).cs c) wT (0,0)))(ha:w'.ownsRow 0 tEs 1 va (RT.length+1) (RT.map (·.1)++[v]))(hb:w'.ownsRow 0 9 1 vb (RT.length+1) (RT.map (fun x=>Value.string x.2)++[.string m]))
 (hba: ∀k,va.ownBlock=some k→s.r9.ownBlock=some k∨w.heap.size≤k)(hbb: ∀k,vb.ownBlock=some k→s.r10.ownBlock=some k∨w.heap.size≤k)(hf:Full w tE 3 elE v m)(hfew:RT.length+1≤4*c):
 WLs w1 w' b c {s with r9:=va,r10:=vb} RF RL (RT++[(v,m)]):=by
 have ns: ∀{e:TypeId} {g:Nat} {cur:Array Value},e≠wT→e≠tEs→e≠9→w.heap[g]? =some (.cells cur e (0,0))→¬(g=b∨s.r9.ownBlock=some g∨s.r10.ownBlock=some g):=by
  intro e g cur h1 h2 h3 hg hS
  rcases hS with hS|hS|hS
  ·subst hS;exact kinds hg h.hp h1
  ·obtain ⟨cur2,hg2⟩:=ownk_heap h.rt.1 hS
   exact kinds hg hg2 h2
  obtain ⟨cur2,hg2⟩:=ownk_heap h.rt.2.1 hS
  exact kinds hg hg2 h3
 have k_rf:RwAt w' tF tFs 2 elF s.r5 s.r6 RF:=by
  refine h.rf.kept ho (fun k hk hS=> ?_) (fun k hk hS=> ?_) (fun x hx g cur hg _=>ns (by decide) (by decide) (by decide) hg)
  ·obtain ⟨cur,hg⟩:=ownk_heap h.rf.1 hk
   exact ns (by decide) (by decide) (by decide) hg hS
  obtain ⟨cur,hg⟩:=ownk_heap h.rf.2.1 hk
  rcases hS with hS|hS|hS
  ·subst hS;exact kinds hg h.hp (by decide)
  ·obtain ⟨cur2,hg2⟩:=ownk_heap h.rt.1 hS
   exact kinds hg hg2 (by decide)
  exact h.ap2 k hk hS
 have k_rl:RwAt w' tL tLs 2 elL s.r7 s.r8 RL:=by
  refine h.rl.kept ho (fun k hk hS=> ?_) (fun k hk hS=> ?_) (fun x hx g cur hg _=>ns (by decide) (by decide) (by decide) hg)
  ·obtain ⟨cur,hg⟩:=ownk_heap h.rl.1 hk
   exact ns (by decide) (by decide) (by decide) hg hS
  obtain ⟨cur,hg⟩:=ownk_heap h.rl.2.1 hk
  rcases hS with hS|hS|hS
  ·subst hS;exact kinds hg h.hp (by decide)
  ·obtain ⟨cur2,hg2⟩:=ownk_heap h.rt.1 hS
   exact kinds hg hg2 (by decide)
  exact h.ap3 k hk hS
 have apn_r6: ∀k,vb.ownBlock=some k→s.r6.ownBlock=some k→False:=fun k h1 h2=>by
  rcases hbb k h1 with h3|h3
  ·exact h.ap2 k h2 h3
  obtain ⟨cur,hg⟩:=ownk_heap h.rf.2.1 h2
  have:=(Array.getElem?_eq_some_iff.1 hg).1
  omega
 have apn_r8: ∀k,vb.ownBlock=some k→s.r8.ownBlock=some k→False:=fun k h1 h2=>by
  rcases hbb k h1 with h3|h3
  ·exact h.ap3 k h2 h3
  obtain ⟨cur,hg⟩:=ownk_heap h.rl.2.1 h2
  have:=(Array.getElem?_eq_some_iff.1 hg).1
  omega
 refine ⟨h.only.transNew ho (fun k hk hS=> ?_),h.lt,hp,k_rf,k_rl, ?_, ?_,h.ap1,fun k h1 h2=>apn_r6 k h2 h1,fun k h1 h2=>apn_r8 k h2 h1, ?_,(fun k cu e he hz=>(ho.block k (Array.getElem?_eq_some_iff.1 (h.dk k cu e he hz)).1 (ns (by rcases he with rfl|rfl<;>decide) (by rcases he with rfl|rfl<;>decide) (by rcases he with rfl|rfl<;>decide) (h.dk k cu e he hz))).trans (h.dk k cu e he hz))⟩
 ·rcases hS with hS|hS|hS
  ·exact hS
  ·have:=h.new s.r9 (by simp) k hS;omega
  have:=h.new s.r10 (by simp) k hS;omega
 ·refine ⟨by simpa using ha,by simpa using hb,fun x hx=> ?_⟩
  rcases List.mem_append.1 hx with hx|hx
  ·exact (h.rt.2.2 x hx).kept ho (fun g cur hg _=>ns (by decide) (by decide) (by decide) hg)
  rw[List.mem_singleton] at hx;subst hx
  exact hf.kept ho (fun g cur hg _=>ns (by decide) (by decide) (by decide) hg)
 ·intro r hr k hk
  have hsz:=h.only.size
  have hA:r=va→w1.heap.size≤k:=fun e=>by
   subst e
   rcases hba k hk with h3|h3
   ·exact h.new s.r9 (by simp) k h3
   omega
  have hB:r=vb→w1.heap.size≤k:=fun e=>by
   subst e
   rcases hbb k hk with h3|h3
   ·exact h.new s.r10 (by simp) k h3
   omega
  rcases hr with e|e|e|e|e|e
  ·exact h.new r (by rw[e];simp) k hk
  ·exact h.new r (by rw[e];simp) k hk
  ·exact h.new r (by rw[e];simp) k hk
  ·exact h.new r (by rw[e];simp) k hk
  ·exact hA e
  exact hB e
 have:=h.few
 rw[List.length_append,List.length_singleton]
 omega
theorem WLs.oneF{w1 w w3:World}{b c:Nat}{s:WS}{RF RL RT:List (Value×ByteArray)}{o:Obj}(h:WLs w1 w b c s RF RL RT)(hg3:(w.alloc o).grownBy w3 s.r5.ownBlock):Only (fun k=>s.r5.ownBlock=some k) w w3∧w3.heap[b]? =some (.cells (s.cs c) wT (0,0)):=by
 have ho:Only (fun k=>s.r5.ownBlock=some k) w w3:=((Only.refl _ w).alloc o).grown hg3 (fun k _ e=>e)
 refine ⟨ho,(ho.block b h.inb (fun hS=> ?_)).trans h.hp⟩
 obtain ⟨cur,hg⟩:=ownk_heap h.rf.1 hS
 exact kinds hg h.hp (by decide)
theorem WLs.twoF{w1 w w3:World}{b c:Nat}{s:WS}{RF RL RT:List (Value×ByteArray)}(h:WLs w1 w b c s RF RL RT)(ho:Only (fun k=>s.r5.ownBlock=some k) w w3)(x:Value)(o:Obj):((w3.setCell ⟨b,5,none⟩ x).alloc o).ownsRow 0 9 1 s.r6 RF.length (RF.map fun x=>Value.string x.2):=by
 refine ownk_kept h.rf.2.1 ((((ho.mono (T:=fun k=>k=b∨s.r5.ownBlock=some k) (fun _ _ e=> .inr e))).trans ((only_set w3 b 5 x).mono (fun _ _ e=> .inl e))).alloc o) (fun k hk hS=> ?_)
 obtain ⟨cur,hg⟩:=ownk_heap h.rf.2.1 hk
 rcases hS with hS|hS
 ·subst hS;exact kinds hg h.hp (by decide)
 obtain ⟨cur2,hg2⟩:=ownk_heap h.rf.1 hS
 exact kinds hg hg2 (by decide)
theorem WLs.endF{w1 w w3 w6:World}{b c:Nat}{s:WS}{RF RL RT:List (Value×ByteArray)}{v:Value}{m:ByteArray}{o o2:Obj}{ga ca gb cb:Nat}(h:WLs w1 w b c s RF RL RT)(hf:Full w tF 2 elF v m)(hfew:RF.length+1≤4*c)
 (h3:w3.ownsRow 0 tFs 1 (.slice (some ⟨ga,0,none⟩) (RF.length+1) ca) (RF.length+1) (RF.map (·.1)++[v]))(hg3:(w.alloc o).grownBy w3 s.r5.ownBlock)(hl3:s.r5.ownBlock=some ga∨ga=w.heap.size+1)
 (h6:w6.ownsRow 0 9 1 (.slice (some ⟨gb,0,none⟩) (RF.length+1) cb) (RF.length+1) (RF.map (fun x=>Value.string x.2)++[.string m]))(hg6:((w3.setCell ⟨b,5,none⟩ (.slice (some ⟨ga,0,none⟩) (RF.length+1) ca)).alloc o2).grownBy w6 s.r6.ownBlock)(hl6:s.r6.ownBlock=some gb∨gb=w3.heap.size+1):
 w6.heap[b]? =some (.cells (({s with r5:=.slice (some ⟨ga,0,none⟩) (RF.length+1) ca}:WS).cs c) wT (0,0))∧WLs w1 (w6.setCell ⟨b,6,none⟩ (.slice (some ⟨gb,0,none⟩) (RF.length+1) cb)) b c {s with r5:=.slice (some ⟨ga,0,none⟩) (RF.length+1) ca,r6:=.slice (some ⟨gb,0,none⟩) (RF.length+1) cb} (RF++[(v,m)]) RL RT∧Only (fun k=>k=b∨s.r5.ownBlock=some k∨s.r6.ownBlock=some k) w (w6.setCell ⟨b,6,none⟩ (.slice (some ⟨gb,0,none⟩) (RF.length+1) cb)):=by
 obtain ⟨ho3,hp3⟩:=h.oneF hg3
 have hsz3:=ho3.size
 have hib:=h.inb
 have hp4:=heap_setCell_same w3 b 5 _ _ (.slice (some ⟨ga,0,none⟩) (RF.length+1) ca) hp3
 have ho4:Only (fun k=>k=b∨s.r5.ownBlock=some k∨s.r6.ownBlock=some k) w ((w3.setCell ⟨b,5,none⟩ (.slice (some ⟨ga,0,none⟩) (RF.length+1) ca)).alloc o2):=(((ho3.mono (fun _ _ e=> .inr (.inl e)))).trans ((only_set w3 b 5 _).mono (fun _ _ e=> .inl e))).alloc o2
 have ho6:Only (fun k=>s.r6.ownBlock=some k) ((w3.setCell ⟨b,5,none⟩ (.slice (some ⟨ga,0,none⟩) (RF.length+1) ca)).alloc o2) w6:=(Only.refl _ _).grown hg6 (fun k _ e=>e)
 have hnb:¬s.r6.ownBlock=some b:=fun hS=>by
  obtain ⟨cur,hg⟩:=ownk_heap h.rf.2.1 hS
  exact kinds hg h.hp (by decide)
 have hbs:b<((w3.setCell ⟨b,5,none⟩ (.slice (some ⟨ga,0,none⟩) (RF.length+1) ca)).alloc o2).heap.size:=Nat.lt_of_lt_of_le hib ho4.size
 have hp5:((w3.setCell ⟨b,5,none⟩ (.slice (some ⟨ga,0,none⟩) (RF.length+1) ca)).alloc o2).heap[b]? =some (.cells (({s with r5:=.slice (some ⟨ga,0,none⟩) (RF.length+1) ca}:WS).cs c) wT (0,0)):=at_keep hp4
 have hp6:=(ho6.block b hbs hnb).trans hp5
 have hp7:=heap_setCell_same w6 b 6 _ _ (.slice (some ⟨gb,0,none⟩) (RF.length+1) cb) hp6
 have hga:ga≠b:=fun e=>by
  subst e
  rcases hl3 with e|e
  ·obtain ⟨cur,hg⟩:=ownk_heap h.rf.1 e
   exact kinds hg h.hp (by decide)
  omega
 have hgb:gb≠b:=fun e=>by
  subst e
  rcases hl6 with e|e
  ·exact hnb e
  omega
 have hgl:ga<w3.heap.size:=by
  obtain ⟨cur,hg⟩:=ownk_heap h3 (b:=ga) rfl
  exact (Array.getElem?_eq_some_iff.1 hg).1
 have hna:¬s.r6.ownBlock=some ga:=fun hS=>by
  rcases hl3 with e|e
  ·obtain ⟨cur,hg⟩:=ownk_heap h.rf.1 e
   obtain ⟨cur2,hg2⟩:=ownk_heap h.rf.2.1 hS
   exact kinds hg hg2 (by decide)
  obtain ⟨cur2,hg2⟩:=ownk_heap h.rf.2.1 hS
  have:=(Array.getElem?_eq_some_iff.1 hg2).1
  omega
 have ho7:Only (fun k=>k=b∨s.r5.ownBlock=some k∨s.r6.ownBlock=some k) w (w6.setCell ⟨b,6,none⟩ (.slice (some ⟨gb,0,none⟩) (RF.length+1) cb)):=((ho4.trans (ho6.mono (fun _ _ e=> .inr (.inr e))))).trans ((only_set w6 b 6 _).mono (fun _ _ e=> .inl e))
 refine ⟨hp6,h.pushF ho7 hp7 ?_ ?_ (fun k hk=> ?_) (fun k hk=> ?_) hf hfew,ho7⟩
 ·have q1:=ownk_kept h3 (only_set w3 b 5 (.slice (some ⟨ga,0,none⟩) (RF.length+1) ca)) (fun k hk e=>hga (by rw[←e];exact Option.some.inj hk))
  have q2:=ownk_kept q1 ((Only.refl (fun _=>False) _).alloc o2) (fun _ _ x=>x)
  have q3:=ownk_kept q2 ho6 (fun k hk e=>hna (by have e2:ga=k:=Option.some.inj hk;rw[e2];exact e))
  exact ownk_kept q3 (only_set w6 b 6 _) (fun k hk e=>hga (by rw[←e];exact Option.some.inj hk))
 ·exact ownk_kept h6 (only_set w6 b 6 _) (fun k hk e=>hgb (by rw[←e];exact Option.some.inj hk))
 ·have e:ga=k:=Option.some.inj hk
  subst e
  rcases hl3 with e|e
  ·exact .inl e
  exact .inr (by omega)
 have e:gb=k:=Option.some.inj hk
 subst e
 rcases hl6 with e|e
 ·exact .inl e
 exact .inr (by omega)
theorem WLs.oneL{w1 w w3:World}{b c:Nat}{s:WS}{RF RL RT:List (Value×ByteArray)}{o:Obj}(h:WLs w1 w b c s RF RL RT)(hg3:(w.alloc o).grownBy w3 s.r7.ownBlock):Only (fun k=>s.r7.ownBlock=some k) w w3∧w3.heap[b]? =some (.cells (s.cs c) wT (0,0)):=by
 have ho:Only (fun k=>s.r7.ownBlock=some k) w w3:=((Only.refl _ w).alloc o).grown hg3 (fun k _ e=>e)
 refine ⟨ho,(ho.block b h.inb (fun hS=> ?_)).trans h.hp⟩
 obtain ⟨cur,hg⟩:=ownk_heap h.rl.1 hS
 exact kinds hg h.hp (by decide)
theorem WLs.twoL{w1 w w3:World}{b c:Nat}{s:WS}{RF RL RT:List (Value×ByteArray)}(h:WLs w1 w b c s RF RL RT)(ho:Only (fun k=>s.r7.ownBlock=some k) w w3)(x:Value)(o:Obj):((w3.setCell ⟨b,7,none⟩ x).alloc o).ownsRow 0 9 1 s.r8 RL.length (RL.map fun x=>Value.string x.2):=by
 refine ownk_kept h.rl.2.1 ((((ho.mono (T:=fun k=>k=b∨s.r7.ownBlock=some k) (fun _ _ e=> .inr e))).trans ((only_set w3 b 7 x).mono (fun _ _ e=> .inl e))).alloc o) (fun k hk hS=> ?_)
 obtain ⟨cur,hg⟩:=ownk_heap h.rl.2.1 hk
 rcases hS with hS|hS
 ·subst hS;exact kinds hg h.hp (by decide)
 obtain ⟨cur2,hg2⟩:=ownk_heap h.rl.1 hS
 exact kinds hg hg2 (by decide)
theorem WLs.endL{w1 w w3 w6:World}{b c:Nat}{s:WS}{RF RL RT:List (Value×ByteArray)}{v:Value}{m:ByteArray}{o o2:Obj}{ga ca gb cb:Nat}(h:WLs w1 w b c s RF RL RT)(hf:Full w tL 2 elL v m)(hfew:RL.length+1≤4*c)
 (h3:w3.ownsRow 0 tLs 1 (.slice (some ⟨ga,0,none⟩) (RL.length+1) ca) (RL.length+1) (RL.map (·.1)++[v]))(hg3:(w.alloc o).grownBy w3 s.r7.ownBlock)(hl3:s.r7.ownBlock=some ga∨ga=w.heap.size+1)
 (h6:w6.ownsRow 0 9 1 (.slice (some ⟨gb,0,none⟩) (RL.length+1) cb) (RL.length+1) (RL.map (fun x=>Value.string x.2)++[.string m]))(hg6:((w3.setCell ⟨b,7,none⟩ (.slice (some ⟨ga,0,none⟩) (RL.length+1) ca)).alloc o2).grownBy w6 s.r8.ownBlock)(hl6:s.r8.ownBlock=some gb∨gb=w3.heap.size+1):
 w6.heap[b]? =some (.cells (({s with r7:=.slice (some ⟨ga,0,none⟩) (RL.length+1) ca}:WS).cs c) wT (0,0))∧WLs w1 (w6.setCell ⟨b,8,none⟩ (.slice (some ⟨gb,0,none⟩) (RL.length+1) cb)) b c {s with r7:=.slice (some ⟨ga,0,none⟩) (RL.length+1) ca,r8:=.slice (some ⟨gb,0,none⟩) (RL.length+1) cb} RF (RL++[(v,m)]) RT∧Only (fun k=>k=b∨s.r7.ownBlock=some k∨s.r8.ownBlock=some k) w (w6.setCell ⟨b,8,none⟩ (.slice (some ⟨gb,0,none⟩) (RL.length+1) cb)):=by
 obtain ⟨ho3,hp3⟩:=h.oneL hg3
 have hsz3:=ho3.size
 have hib:=h.inb
 have hp4:=heap_setCell_same w3 b 7 _ _ (.slice (some ⟨ga,0,none⟩) (RL.length+1) ca) hp3
 have ho4:Only (fun k=>k=b∨s.r7.ownBlock=some k∨s.r8.ownBlock=some k) w ((w3.setCell ⟨b,7,none⟩ (.slice (some ⟨ga,0,none⟩) (RL.length+1) ca)).alloc o2):=(((ho3.mono (fun _ _ e=> .inr (.inl e)))).trans ((only_set w3 b 7 _).mono (fun _ _ e=> .inl e))).alloc o2
 have ho6:Only (fun k=>s.r8.ownBlock=some k) ((w3.setCell ⟨b,7,none⟩ (.slice (some ⟨ga,0,none⟩) (RL.length+1) ca)).alloc o2) w6:=(Only.refl _ _).grown hg6 (fun k _ e=>e)
 have hnb:¬s.r8.ownBlock=some b:=fun hS=>by
  obtain ⟨cur,hg⟩:=ownk_heap h.rl.2.1 hS
  exact kinds hg h.hp (by decide)
 have hbs:b<((w3.setCell ⟨b,7,none⟩ (.slice (some ⟨ga,0,none⟩) (RL.length+1) ca)).alloc o2).heap.size:=Nat.lt_of_lt_of_le hib ho4.size
 have hp5:((w3.setCell ⟨b,7,none⟩ (.slice (some ⟨ga,0,none⟩) (RL.length+1) ca)).alloc o2).heap[b]? =some (.cells (({s with r7:=.slice (some ⟨ga,0,none⟩) (RL.length+1) ca}:WS).cs c) wT (0,0)):=at_keep hp4
 have hp6:=(ho6.block b hbs hnb).trans hp5
 have hp7:=heap_setCell_same w6 b 8 _ _ (.slice (some ⟨gb,0,none⟩) (RL.length+1) cb) hp6
 have hga:ga≠b:=fun e=>by
  subst e
  rcases hl3 with e|e
  ·obtain ⟨cur,hg⟩:=ownk_heap h.rl.1 e
   exact kinds hg h.hp (by decide)
  omega
 have hgb:gb≠b:=fun e=>by
  subst e
  rcases hl6 with e|e
  ·exact hnb e
  omega
 have hgl:ga<w3.heap.size:=by
  obtain ⟨cur,hg⟩:=ownk_heap h3 (b:=ga) rfl
  exact (Array.getElem?_eq_some_iff.1 hg).1
 have hna:¬s.r8.ownBlock=some ga:=fun hS=>by
  rcases hl3 with e|e
  ·obtain ⟨cur,hg⟩:=ownk_heap h.rl.1 e
   obtain ⟨cur2,hg2⟩:=ownk_heap h.rl.2.1 hS
   exact kinds hg hg2 (by decide)
  obtain ⟨cur2,hg2⟩:=ownk_heap h.rl.2.1 hS
  have:=(Array.getElem?_eq_some_iff.1 hg2).1
  omega
 have ho7:Only (fun k=>k=b∨s.r7.ownBlock=some k∨s.r8.ownBlock=some k) w (w6.setCell ⟨b,8,none⟩ (.slice (some ⟨gb,0,none⟩) (RL.length+1) cb)):=((ho4.trans (ho6.mono (fun _ _ e=> .inr (.inr e))))).trans ((only_set w6 b 8 _).mono (fun _ _ e=> .inl e))
 refine ⟨hp6,h.pushL ho7 hp7 ?_ ?_ (fun k hk=> ?_) (fun k hk=> ?_) hf hfew,ho7⟩
 ·have q1:=ownk_kept h3 (only_set w3 b 7 (.slice (some ⟨ga,0,none⟩) (RL.length+1) ca)) (fun k hk e=>hga (by rw[←e];exact Option.some.inj hk))
  have q2:=ownk_kept q1 ((Only.refl (fun _=>False) _).alloc o2) (fun _ _ x=>x)
  have q3:=ownk_kept q2 ho6 (fun k hk e=>hna (by have e2:ga=k:=Option.some.inj hk;rw[e2];exact e))
  exact ownk_kept q3 (only_set w6 b 8 _) (fun k hk e=>hga (by rw[←e];exact Option.some.inj hk))
 ·exact ownk_kept h6 (only_set w6 b 8 _) (fun k hk e=>hgb (by rw[←e];exact Option.some.inj hk))
 ·have e:ga=k:=Option.some.inj hk
  subst e
  rcases hl3 with e|e
  ·exact .inl e
  exact .inr (by omega)
 have e:gb=k:=Option.some.inj hk
 subst e
 rcases hl6 with e|e
 ·exact .inl e
 exact .inr (by omega)
theorem WLs.oneT{w1 w w3:World}{b c:Nat}{s:WS}{RF RL RT:List (Value×ByteArray)}{o:Obj}(h:WLs w1 w b c s RF RL RT)(hg3:(w.alloc o).grownBy w3 s.r9.ownBlock):Only (fun k=>s.r9.ownBlock=some k) w w3∧w3.heap[b]? =some (.cells (s.cs c) wT (0,0)):=by
 have ho:Only (fun k=>s.r9.ownBlock=some k) w w3:=((Only.refl _ w).alloc o).grown hg3 (fun k _ e=>e)
 refine ⟨ho,(ho.block b h.inb (fun hS=> ?_)).trans h.hp⟩
 obtain ⟨cur,hg⟩:=ownk_heap h.rt.1 hS
 exact kinds hg h.hp (by decide)
theorem WLs.twoT{w1 w w3:World}{b c:Nat}{s:WS}{RF RL RT:List (Value×ByteArray)}(h:WLs w1 w b c s RF RL RT)(ho:Only (fun k=>s.r9.ownBlock=some k) w w3)(x:Value)(o:Obj):((w3.setCell ⟨b,9,none⟩ x).alloc o).ownsRow 0 9 1 s.r10 RT.length (RT.map fun x=>Value.string x.2):=by
 refine ownk_kept h.rt.2.1 ((((ho.mono (T:=fun k=>k=b∨s.r9.ownBlock=some k) (fun _ _ e=> .inr e))).trans ((only_set w3 b 9 x).mono (fun _ _ e=> .inl e))).alloc o) (fun k hk hS=> ?_)
 obtain ⟨cur,hg⟩:=ownk_heap h.rt.2.1 hk
 rcases hS with hS|hS
 ·subst hS;exact kinds hg h.hp (by decide)
 obtain ⟨cur2,hg2⟩:=ownk_heap h.rt.1 hS
 exact kinds hg hg2 (by decide)
theorem WLs.endT{w1 w w3 w6:World}{b c:Nat}{s:WS}{RF RL RT:List (Value×ByteArray)}{v:Value}{m:ByteArray}{o o2:Obj}{ga ca gb cb:Nat}(h:WLs w1 w b c s RF RL RT)(hf:Full w tE 3 elE v m)(hfew:RT.length+1≤4*c)
 (h3:w3.ownsRow 0 tEs 1 (.slice (some ⟨ga,0,none⟩) (RT.length+1) ca) (RT.length+1) (RT.map (·.1)++[v]))(hg3:(w.alloc o).grownBy w3 s.r9.ownBlock)(hl3:s.r9.ownBlock=some ga∨ga=w.heap.size+1)
 (h6:w6.ownsRow 0 9 1 (.slice (some ⟨gb,0,none⟩) (RT.length+1) cb) (RT.length+1) (RT.map (fun x=>Value.string x.2)++[.string m]))(hg6:((w3.setCell ⟨b,9,none⟩ (.slice (some ⟨ga,0,none⟩) (RT.length+1) ca)).alloc o2).grownBy w6 s.r10.ownBlock)(hl6:s.r10.ownBlock=some gb∨gb=w3.heap.size+1):
 w6.heap[b]? =some (.cells (({s with r9:=.slice (some ⟨ga,0,none⟩) (RT.length+1) ca}:WS).cs c) wT (0,0))∧WLs w1 (w6.setCell ⟨b,10,none⟩ (.slice (some ⟨gb,0,none⟩) (RT.length+1) cb)) b c {s with r9:=.slice (some ⟨ga,0,none⟩) (RT.length+1) ca,r10:=.slice (some ⟨gb,0,none⟩) (RT.length+1) cb} RF RL (RT++[(v,m)])∧Only (fun k=>k=b∨s.r9.ownBlock=some k∨s.r10.ownBlock=some k) w (w6.setCell ⟨b,10,none⟩ (.slice (some ⟨gb,0,none⟩) (RT.length+1) cb)):=by
 obtain ⟨ho3,hp3⟩:=h.oneT hg3
 have hsz3:=ho3.size
 have hib:=h.inb
 have hp4:=heap_setCell_same w3 b 9 _ _ (.slice (some ⟨ga,0,none⟩) (RT.length+1) ca) hp3
 have ho4:Only (fun k=>k=b∨s.r9.ownBlock=some k∨s.r10.ownBlock=some k) w ((w3.setCell ⟨b,9,none⟩ (.slice (some ⟨ga,0,none⟩) (RT.length+1) ca)).alloc o2):=(((ho3.mono (fun _ _ e=> .inr (.inl e)))).trans ((only_set w3 b 9 _).mono (fun _ _ e=> .inl e))).alloc o2
 have ho6:Only (fun k=>s.r10.ownBlock=some k) ((w3.setCell ⟨b,9,none⟩ (.slice (some ⟨ga,0,none⟩) (RT.length+1) ca)).alloc o2) w6:=(Only.refl _ _).grown hg6 (fun k _ e=>e)
 have hnb:¬s.r10.ownBlock=some b:=fun hS=>by
  obtain ⟨cur,hg⟩:=ownk_heap h.rt.2.1 hS
  exact kinds hg h.hp (by decide)
 have hbs:b<((w3.setCell ⟨b,9,none⟩ (.slice (some ⟨ga,0,none⟩) (RT.length+1) ca)).alloc o2).heap.size:=Nat.lt_of_lt_of_le hib ho4.size
 have hp5:((w3.setCell ⟨b,9,none⟩ (.slice (some ⟨ga,0,none⟩) (RT.length+1) ca)).alloc o2).heap[b]? =some (.cells (({s with r9:=.slice (some ⟨ga,0,none⟩) (RT.length+1) ca}:WS).cs c) wT (0,0)):=at_keep hp4
 have hp6:=(ho6.block b hbs hnb).trans hp5
 have hp7:=heap_setCell_same w6 b 10 _ _ (.slice (some ⟨gb,0,none⟩) (RT.length+1) cb) hp6
 have hga:ga≠b:=fun e=>by
  subst e
  rcases hl3 with e|e
  ·obtain ⟨cur,hg⟩:=ownk_heap h.rt.1 e
   exact kinds hg h.hp (by decide)
  omega
 have hgb:gb≠b:=fun e=>by
  subst e
  rcases hl6 with e|e
  ·exact hnb e
  omega
 have hgl:ga<w3.heap.size:=by
  obtain ⟨cur,hg⟩:=ownk_heap h3 (b:=ga) rfl
  exact (Array.getElem?_eq_some_iff.1 hg).1
 have hna:¬s.r10.ownBlock=some ga:=fun hS=>by
  rcases hl3 with e|e
  ·obtain ⟨cur,hg⟩:=ownk_heap h.rt.1 e
   obtain ⟨cur2,hg2⟩:=ownk_heap h.rt.2.1 hS
   exact kinds hg hg2 (by decide)
  obtain ⟨cur2,hg2⟩:=ownk_heap h.rt.2.1 hS
  have:=(Array.getElem?_eq_some_iff.1 hg2).1
  omega
 have ho7:Only (fun k=>k=b∨s.r9.ownBlock=some k∨s.r10.ownBlock=some k) w (w6.setCell ⟨b,10,none⟩ (.slice (some ⟨gb,0,none⟩) (RT.length+1) cb)):=((ho4.trans (ho6.mono (fun _ _ e=> .inr (.inr e))))).trans ((only_set w6 b 10 _).mono (fun _ _ e=> .inl e))
 refine ⟨hp6,h.pushT ho7 hp7 ?_ ?_ (fun k hk=> ?_) (fun k hk=> ?_) hf hfew,ho7⟩
 ·have q1:=ownk_kept h3 (only_set w3 b 9 (.slice (some ⟨ga,0,none⟩) (RT.length+1) ca)) (fun k hk e=>hga (by rw[←e];exact Option.some.inj hk))
  have q2:=ownk_kept q1 ((Only.refl (fun _=>False) _).alloc o2) (fun _ _ x=>x)
  have q3:=ownk_kept q2 ho6 (fun k hk e=>hna (by have e2:ga=k:=Option.some.inj hk;rw[e2];exact e))
  exact ownk_kept q3 (only_set w6 b 10 _) (fun k hk e=>hga (by rw[←e];exact Option.some.inj hk))
 ·exact ownk_kept h6 (only_set w6 b 10 _) (fun k hk e=>hgb (by rw[←e];exact Option.some.inj hk))
 ·have e:ga=k:=Option.some.inj hk
  subst e
  rcases hl3 with e|e
  ·exact .inl e
  exact .inr (by omega)
 have e:gb=k:=Option.some.inj hk
 subst e
 rcases hl6 with e|e
 ·exact .inl e
 exact .inr (by omega)
theorem Full.keptq{wq w w' :World}{e:TypeId}{k g:Nat}{el:ByteArray→List Value}{v:Value}{m:ByteArray}(h:Full w e k el v m)(hq:Full wq e k el v m)(ho:Only (fun k=>k=g) w w')(h1:wq.heap.size≤g):Full w' e k el v m:=by
 obtain ⟨ao,n,cap,rfl,hn,hz⟩:=hq
 by_cases h0:n=0
 ·exact ⟨ao,n,cap,rfl,hn,.inl h0⟩
 rcases hz with hz|⟨g2,cur,rfl,hg2,_⟩
 ·exact absurd hz h0
 refine h.kept ho (fun g3 cur3 _ hb e=> ?_)
 have e2:g2=g3:=Option.some.inj hb
 have:=(Array.getElem?_eq_some_iff.1 hg2).1
 omega
def TyOnly(es:List TypeId)(w w' :World):Prop:=Only (fun k=> ∃cur e,w.heap[k]? =some (.cells cur e (0,0))∧e∈es) w w'
theorem TyOnly.refl(es:List TypeId)(w:World):TyOnly es w w:=Only.refl _ w
theorem TyOnly.one{es:List TypeId}{w w' :World}{g:Nat}{cur:Array Value}{e:TypeId}(h:Only (fun k=>k=g) w w')(hg:w.heap[g]? =some (.cells cur e (0,0)))(he:e∈es):TyOnly es w w' :=h.mono (fun k _ x=>by subst x;exact ⟨cur,e,hg,he⟩)
theorem ownk_ty{es:List TypeId}{w w' :World}{e:TypeId}{k:Nat}{v:Value}{n:Nat}{xs:List Value}(h:w.ownsRow 0 e k v n xs)(ho:TyOnly es w w')(he:e∉es):w'.ownsRow 0 e k v n xs:=by
 refine ownk_kept h ho (fun b hb hS=> ?_)
 obtain ⟨cur,hg⟩:=ownk_heap h hb
 obtain ⟨cur2,e2,hg2,hm⟩:=hS
 rw[hg] at hg2
 injection hg2 with hg2
 injection hg2 with _ hg2
 exact he (hg2 ▸ hm)
def Par(wq w1 w:World)(e:TypeId)(k:Nat)(el:ByteArray→List Value)(ao:Option Addr)(n:Nat)(m:ByteArray)(i:Nat):Prop:=n=0∨ ∃g cur,ao=some ⟨g,0,none⟩∧w.heap[g]? =some (.cells cur e (0,0))∧n*k≤cur.size∧wq.heap.size≤g∧w1.heap.size≤g∧ ∀p,p<i→ ∀j u,(el m)[j]? =some u→cur[p*k+j]? =some u
theorem Par.full{wq w1 w:World}{e:TypeId}{k:Nat}{el:ByteArray→List Value}{ao:Option Addr}{n:Nat}{m:ByteArray}{cap:Nat}(h:Par wq w1 w e k el ao n m n)(hn:n≤2000000):Full w e k el (.slice ao n cap) m:=by
 rcases h with h|⟨g,cur,h1,h2,_,_,_,h6⟩
 ·exact ⟨ao,n,cap,rfl,hn,.inl h⟩
 exact ⟨ao,n,cap,rfl,hn,.inr ⟨g,cur,h1,h2,h6⟩⟩
theorem Par.kept{S:Nat→Prop}{wq w1 w w' :World}{e:TypeId}{k:Nat}{el:ByteArray→List Value}{ao:Option Addr}{n:Nat}{m:ByteArray}{i:Nat}(h:Par wq w1 w e k el ao n m i)(ho:Only S w w')(hs: ∀g cur,w.heap[g]? =some (.cells cur e (0,0))→¬S g):Par wq w1 w' e k el ao n m i:=by
 rcases h with h|⟨g,cur,h1,h2,h3⟩
 ·exact .inl h
 exact .inr ⟨g,cur,h1,(ho.block g (Array.getElem?_eq_some_iff.1 h2).1 (hs g cur h2)).trans h2,h3⟩
theorem write2{w:World}{g:Nat}{e:TypeId}{cur:Array Value}(hg:w.heap[g]? =some (.cells cur e (0,0)))(q:Nat)(u0 u1:Value)(hq:q+2≤cur.size):
 ∃cur',((w.setCell ⟨g,q,none⟩ u0).setCell ⟨g,q+1,none⟩ u1).heap[g]? =some (.cells cur' e (0,0))∧cur'.size=cur.size∧(∀p,p<q→cur'[p]? =cur[p]?)∧cur'[q]? =some u0∧cur'[q+1]? =some u1∧Only (fun k=>k=g) w ((w.setCell ⟨g,q,none⟩ u0).setCell ⟨g,q+1,none⟩ u1):=by
 have h1:=heap_setCell_same w g q _ _ u0 hg
 have h2:=heap_setCell_same _ g (q+1) _ _ u1 h1
 refine ⟨_,h2,by simp,fun p hp=> ?_, ?_, ?_,(only_set w g q u0).trans (only_set _ g (q+1) u1)⟩
 ·rw[Array.getElem?_setIfInBounds_ne (by omega),Array.getElem?_setIfInBounds_ne (by omega)]
 ·rw[Array.getElem?_setIfInBounds_ne (by omega),Array.getElem?_setIfInBounds_self_of_lt (by omega)]
 rw[Array.getElem?_setIfInBounds_self_of_lt (by rw[Array.size_setIfInBounds];omega)]
theorem write3{w:World}{g:Nat}{e:TypeId}{cur:Array Value}(hg:w.heap[g]? =some (.cells cur e (0,0)))(q:Nat)(u0 u1 u2:Value)(hq:q+3≤cur.size):
 ∃cur',(((w.setCell ⟨g,q,none⟩ u0).setCell ⟨g,q+1,none⟩ u1).setCell ⟨g,q+2,none⟩ u2).heap[g]? =some (.cells cur' e (0,0))∧cur'.size=cur.size∧(∀p,p<q→cur'[p]? =cur[p]?)∧cur'[q]? =some u0∧cur'[q+1]? =some u1∧cur'[q+2]? =some u2∧Only (fun k=>k=g) w (((w.setCell ⟨g,q,none⟩ u0).setCell ⟨g,q+1,none⟩ u1).setCell ⟨g,q+2,none⟩ u2):=by
 obtain ⟨c2,h2,hs2,ho2,e0,e1,hw⟩:=write2 hg q u0 u1 (by omega)
 have h3:=heap_setCell_same _ g (q+2) _ _ u2 h2
 refine ⟨_,h3,by simp[hs2],fun p hp=> ?_, ?_, ?_, ?_,hw.trans (only_set _ g (q+2) u2)⟩
 ·rw[Array.getElem?_setIfInBounds_ne (by omega)];exact ho2 p hp
 ·rw[Array.getElem?_setIfInBounds_ne (by omega)];exact e0
 ·rw[Array.getElem?_setIfInBounds_ne (by omega)];exact e1
 rw[Array.getElem?_setIfInBounds_self_of_lt (by omega)]
theorem WLs.wrF{w1 wq w w' :World}{b c g:Nat}{s:WS}{RF RL RT:List (Value×ByteArray)}{cur:Array Value}(h:WLs w1 w b c s RF RL RT)(hg:w.heap[g]? =some (.cells cur tF (0,0)))(ho:Only (fun k=>k=g) w w')(hq: ∀x,x∈RF→Full wq tF 2 elF x.1 x.2)(h1:wq.heap.size≤g)(h2:w1.heap.size≤g):WLs w1 w' b c s RF RL RT:=by
 have nr: ∀{e:TypeId} {k:Nat} {v:Value} {n:Nat} {xs:List Value},tF≠e→w.ownsRow 0 e k v n xs→ ∀{q:Nat},v.ownBlock=some q→q=g→False:=fun hne hr q hk e=>by
  obtain ⟨cur2,hg2⟩:=ownk_heap hr hk
  exact kinds hg (e ▸ hg2) hne
 refine ⟨h.only.transNew ho (fun k hk e=>by omega),h.lt,(ho.block b h.inb (fun e=>kinds hg (e ▸ h.hp) (by decide))).trans h.hp,⟨ownk_kept h.rf.1 ho (fun k hk e=>nr (by decide) h.rf.1 hk e),ownk_kept h.rf.2.1 ho (fun k hk e=>nr (by decide) h.rf.2.1 hk e),fun x hx=>(h.rf.2.2 x hx).keptq (hq x hx) ho h1⟩,h.rl.kept ho (fun k hk e=>nr (by decide) h.rl.1 hk e) (fun k hk e=>nr (by decide) h.rl.2.1 hk e) (fun x hx g2 cur2 hg2 _ e=>kinds hg (e ▸ hg2) (by decide)),h.rt.kept ho (fun k hk e=>nr (by decide) h.rt.1 hk e) (fun k hk e=>nr (by decide) h.rt.2.1 hk e) (fun x hx g2 cur2 hg2 _ e=>kinds hg (e ▸ hg2) (by decide)),h.new,h.ap1,h.ap2,h.ap3,h.few,(fun k cu e he hz=>(ho.block k (Array.getElem?_eq_some_iff.1 (h.dk k cu e he hz)).1 (fun e2=>kinds hg (e2 ▸ h.dk k cu e he hz) (by rcases he with rfl|rfl<;>decide))).trans (h.dk k cu e he hz))⟩
theorem WLs.wrL{w1 wq w w' :World}{b c g:Nat}{s:WS}{RF RL RT:List (Value×ByteArray)}{cur:Array Value}(h:WLs w1 w b c s RF RL RT)(hg:w.heap[g]? =some (.cells cur tL (0,0)))(ho:Only (fun k=>k=g) w w')(hq: ∀x,x∈RL→Full wq tL 2 elL x.1 x.2)(h1:wq.heap.size≤g)(h2:w1.heap.size≤g):WLs w1 w' b c s RF RL RT:=by
 have nr: ∀{e:TypeId} {k:Nat} {v:Value} {n:Nat} {xs:List Value},tL≠e→w.ownsRow 0 e k v n xs→ ∀{q:Nat},v.ownBlock=some q→q=g→False:=fun hne hr q hk e=>by
  obtain ⟨cur2,hg2⟩:=ownk_heap hr hk
  exact kinds hg (e ▸ hg2) hne
 refine ⟨h.only.transNew ho (fun k hk e=>by omega),h.lt,(ho.block b h.inb (fun e=>kinds hg (e ▸ h.hp) (by decide))).trans h.hp,h.rf.kept ho (fun k hk e=>nr (by decide) h.rf.1 hk e) (fun k hk e=>nr (by decide) h.rf.2.1 hk e) (fun x hx g2 cur2 hg2 _ e=>kinds hg (e ▸ hg2) (by decide)),⟨ownk_kept h.rl.1 ho (fun k hk e=>nr (by decide) h.rl.1 hk e),ownk_kept h.rl.2.1 ho (fun k hk e=>nr (by decide) h.rl.2.1 hk e),fun x hx=>(h.rl.2.2 x hx).keptq (hq x hx) ho h1⟩,h.rt.kept ho (fun k hk e=>nr (by decide) h.rt.1 hk e) (fun k hk e=>nr (by decide) h.rt.2.1 hk e) (fun x hx g2 cur2 hg2 _ e=>kinds hg (e ▸ hg2) (by decide)),h.new,h.ap1,h.ap2,h.ap3,h.few,(fun k cu e he hz=>(ho.block k (Array.getElem?_eq_some_iff.1 (h.dk k cu e he hz)).1 (fun e2=>kinds hg (e2 ▸ h.dk k cu e he hz) (by rcases he with rfl|rfl<;>decide))).trans (h.dk k cu e he hz))⟩
theorem WLs.wrT{w1 wq w w' :World}{b c g:Nat}{s:WS}{RF RL RT:List (Value×ByteArray)}{cur:Array Value}(h:WLs w1 w b c s RF RL RT)(hg:w.heap[g]? =some (.cells cur tE (0,0)))(ho:Only (fun k=>k=g) w w')(hq: ∀x,x∈RT→Full wq tE 3 elE x.1 x.2)(h1:wq.heap.size≤g)(h2:w1.heap.size≤g):WLs w1 w' b c s RF RL RT:=by
 have nr: ∀{e:TypeId} {k:Nat} {v:Value} {n:Nat} {xs:List Value},tE≠e→w.ownsRow 0 e k v n xs→ ∀{q:Nat},v.ownBlock=some q→q=g→False:=fun hne hr q hk e=>by
  obtain ⟨cur2,hg2⟩:=ownk_heap hr hk
  exact kinds hg (e ▸ hg2) hne
 refine ⟨h.only.transNew ho (fun k hk e=>by omega),h.lt,(ho.block b h.inb (fun e=>kinds hg (e ▸ h.hp) (by decide))).trans h.hp,h.rf.kept ho (fun k hk e=>nr (by decide) h.rf.1 hk e) (fun k hk e=>nr (by decide) h.rf.2.1 hk e) (fun x hx g2 cur2 hg2 _ e=>kinds hg (e ▸ hg2) (by decide)),h.rl.kept ho (fun k hk e=>nr (by decide) h.rl.1 hk e) (fun k hk e=>nr (by decide) h.rl.2.1 hk e) (fun x hx g2 cur2 hg2 _ e=>kinds hg (e ▸ hg2) (by decide)),⟨ownk_kept h.rt.1 ho (fun k hk e=>nr (by decide) h.rt.1 hk e),ownk_kept h.rt.2.1 ho (fun k hk e=>nr (by decide) h.rt.2.1 hk e),fun x hx=>(h.rt.2.2 x hx).keptq (hq x hx) ho h1⟩,h.new,h.ap1,h.ap2,h.ap3,h.few,(fun k cu e he hz=>(ho.block k (Array.getElem?_eq_some_iff.1 (h.dk k cu e he hz)).1 (fun e2=>kinds hg (e2 ▸ h.dk k cu e he hz) (by rcases he with rfl|rfl<;>decide))).trans (h.dk k cu e he hz))⟩
def Foot(b:Nat)(ra rb:Value)(e:TypeId)(ao:Option Addr)(w:World):Nat→Prop:=fun k=>k=b∨ra.ownBlock=some k∨rb.ownBlock=some k∨ ∃cur,ao=some ⟨k,0,none⟩∧w.heap[k]? =some (.cells cur e (0,0))
theorem Foot.ty{b n k:Nat}{ra rb:Value}{e et:TypeId}{ao:Option Addr}{w w' :World}{cs:Array Value}{xs ys:List Value}(ho:Only (Foot b ra rb e ao w) w w')(hp:w.heap[b]? =some (.cells cs wT (0,0)))(ha:w.ownsRow 0 et k ra n xs)(hb:w.ownsRow 0 9 1 rb n ys):TyOnly [wT,et,9,e] w w' :=by
 refine ho.mono (fun q _ hS=> ?_)
 rcases hS with rfl|hS|hS|⟨cur,_,hS⟩
 ·exact ⟨_,_,hp,by simp⟩
 ·obtain ⟨cur,hg⟩:=ownk_heap ha hS
  exact ⟨_,_,hg,by simp⟩
 ·obtain ⟨cur,hg⟩:=ownk_heap hb hS
  exact ⟨_,_,hg,by simp⟩
 exact ⟨_,_,hS,by simp⟩
def WS.base(s:WS):ByteArray×ByteArray×ByteArray×Value×Value×World:=(s.m,s.v,s.ar,s.pd,s.pr,s.z)
def PosT(w1 w:World)(b c:Nat)(B:ByteArray×ByteArray×ByteArray×Value×Value×World)(RF RL:List (Value×ByteArray)):Prop:= ∃s' RT',WLs w1 w b c s' RF RL RT' ∧s'.base=B
def PosF(w1 w:World)(b c:Nat)(B:ByteArray×ByteArray×ByteArray×Value×Value×World)(RL RT:List (Value×ByteArray)):Prop:= ∃s' RF',WLs w1 w b c s' RF' RL RT∧s'.base=B
def PosL(w1 w:World)(b c:Nat)(B:ByteArray×ByteArray×ByteArray×Value×Value×World)(RF RT:List (Value×ByteArray)):Prop:= ∃s' RL',WLs w1 w b c s' RF RL' RT∧s'.base=B
def PosA(w1 w:World)(b c:Nat)(B:ByteArray×ByteArray×ByteArray×Value×Value×World):Prop:= ∃s' RF' RL' RT',WLs w1 w b c s' RF' RL' RT' ∧s'.base=B
theorem infoEs:(Tryz.prog.info? 40).map (fun i=>(i.zero,i.size,i.bytes))=some (some (.slice none 0 0),1,24):=by kernel_rfl
theorem infoFs:(Tryz.prog.info? 41).map (fun i=>(i.zero,i.size,i.bytes))=some (some (.slice none 0 0),1,24):=by kernel_rfl
theorem infoLs:(Tryz.prog.info? 42).map (fun i=>(i.zero,i.size,i.bytes))=some (some (.slice none 0 0),1,24):=by kernel_rfl
theorem set_size(w:World)(p:Addr)(x:Value):(w.setCell p x).heap.size=w.heap.size:=by simp[World.setCell]
theorem Par.next3{wq w1 w:World}{ao:Option Addr}{n i g:Nat}{m:ByteArray}{cur cur' :Array Value}(ha:ao=some ⟨g,0,none⟩)(hg:w.heap[g]? =some (.cells cur' tE (0,0)))(hsz:n*3≤cur.size)(hs:cur'.size=cur.size)(h1:wq.heap.size≤g)(h2:w1.heap.size≤g)(hf: ∀p,p<i→ ∀j u,(elE m)[j]? =some u→cur[p*3+j]? =some u)(hl: ∀p,p<i*3→cur'[p]? =cur[p]?)(e0:cur'[i*3]? =some (.string m))(e1:cur'[i*3+1]? =some (.bool false))(e2:cur'[i*3+2]? =some (.string ⟨#[]⟩)):Par wq w1 w tE 3 elE ao n m (i+1):=by
 refine .inr ⟨g,cur',ha,hg,by omega,h1,h2,fun p hp j u hj=> ?_⟩
 have hj3:j<3:=by
  rcases Nat.lt_or_ge j 3 with h|h
  ·exact h
  rw[elE,List.getElem?_eq_none (by simpa using h)] at hj;cases hj
 by_cases e:p=i
 ·subst e
  match j,hj3,hj with
  |0,_,hj=>rw[←hj];exact e0
  |1,_,hj=>rw[←hj];exact e1
  |2,_,hj=>rw[←hj];exact e2
 rw[hl _ (by omega)];exact hf p (by omega) j u hj
theorem treeOfC{w1 wq:World}{b c:Nat}{s:WS}{RF RL RT:List (Value×ByteArray)}(hc:c≤100000000)(w:World)(h:WLs w1 w b c s RF RL RT)(ao:Option Addr)(n cap:Nat)(hn:n≤2000000)(hv: ∀m,Par wq w1 w tE 3 elE ao n m 0)(hq: ∀x,x∈RT→Full wq tE 3 elE x.1 x.2):
 Calls Tryz.prog 197 #[.pointer (some ⟨b,0,none⟩),.slice ao n cap] w fun r w' =>r=.returned (.tuple #[])∧TyOnly [wT,tEs,9,tE] w w' ∧PosT w1 w' b (c+1) s.base RF RL:=by
 have H1:=hide (markC s c (by omega) b w h.hp)
 have HL:=hide h
 have hfT:=h.few.2.2
 have HQ:=hide hq
 have HV:=hide hv
 have HFT:Hid (∀w',Only (Foot b s.r9 s.r10 tE ao w) w w' →TyOnly [wT,tEs,9,tE] w w'):=fun _ ho=>Foot.ty ho h.hp h.rt.1 h.rt.2.1
 have HV0:Hid (∀g,n≠0→ao=some ⟨g,0,none⟩→ ∃cur,w.heap[g]? =some (.cells cur tE (0,0))):=fun g hn0 ha=>by
  rcases hv ⟨#[]⟩ with h0|⟨g2,cur,ha2,hg2,_⟩
  ·exact absurd h0 hn0
  rw[ha] at ha2
  injection ha2 with ha2
  injection ha2 with ha2
  subst ha2
  exact ⟨cur,hg2⟩
 clear h hq hv
 go_in
 go_wp2_with fail
 refine (uh H1).mono ?_
 rintro r w2 ⟨m,rfl,ho2,hp2⟩
 have HL2:=hide ((uh HL).rec_ ho2 hp2 (by omega) rfl rfl rfl rfl rfl rfl)
 have HP2:=hide ((uh HV m).kept ho2 (fun g cur hg e=>kinds (e ▸ hg) (uh HL).hp (by decide)))
 have HO2:Hid (Only (Foot b s.r9 s.r10 tE ao w) w w2):=ho2.mono (fun _ _ e=> .inl e)
 clear ho2 hp2 H1 HL HV
 go_wp2_with fail
 go_loopw [5] (fun x wr=> ∃i:Nat,i≤n∧x=.int .i64 i∧Hid (WLs w1 wr b (c+1) s RF RL RT)∧Hid (Par wq w1 wr tE 3 elE ao n m i)∧Hid (Only (Foot b s.r9 s.r10 tE ao w) w wr)) (fun x _=>n- (intOf x).toNat)
 ·exact ⟨0,by omega,rfl,HL2,HP2,HO2⟩
 clear HL2 HP2 HO2
 obtain ⟨i,hi,rfl,HL,HP,HO⟩:=hrel
 by_cases hil:i<n
 ·have hilI:(i:Int)<(n:Int):=by omega
  obtain ⟨g,cur,ha,hg,hsz,hgq,hg1,hfil⟩: ∃g cur,ao=some ⟨g,0,none⟩∧wr.heap[g]? =some (.cells cur tE (0,0))∧n*3≤cur.size∧wq.heap.size≤g∧w1.heap.size≤g∧ ∀p,p<i→ ∀j u,(elE m)[j]? =some u→cur[p*3+j]? =some u:=by
   rcases uh HP with h|h
   ·omega
   exact h
  obtain ⟨cur0,hg0⟩:=uh HV0 g (by omega) ha
  have hlt3:i*3+3≤cur.size:=by omega
  have k0:wr.cell? ⟨g,i*3,none⟩=some (cur[i*3]'(by omega)):=by rw[cell_of_row wr g _ _ _ (0,0) hg];exact Array.getElem?_eq_getElem _
  have k1:wr.cell? ⟨g,i*3+1,none⟩=some (cur[i*3+1]'(by omega)):=by rw[cell_of_row wr g _ _ _ (0,0) hg];exact Array.getElem?_eq_getElem _
  have k2:wr.cell? ⟨g,i*3+2,none⟩=some (cur[i*3+2]'(by omega)):=by rw[cell_of_row wr g _ _ _ (0,0) hg];exact Array.getElem?_eq_getElem _
  have f0:=frozen_of_row wr g (i*3) _ _ hg
  have f1:=frozen_of_row wr g (i*3+1) _ _ hg
  have f2:=frozen_of_row wr g (i*3+2) _ _ hg
  obtain ⟨cur',hg',hs',hlow,e0,e1,e2,hon⟩:=write3 hg (i*3) (.string m) (.bool false) (.string ⟨#[]⟩) hlt3
  have HL2:=hide ((uh HL).wrT hg hon (uh HQ) hgq hg1)
  have HP2:=hide (Par.next3 (wq:=wq) (w1:=w1) ha hg' hsz hs' hgq hg1 hfil hlow e0 e1 e2)
  have HO2:Hid (Only (Foot b s.r9 s.r10 tE ao w) w _):=(uh HO).transNew hon (fun k _ e=> .inr (.inr (.inr ⟨cur0,by rw[e];exact ha,by rw[e];exact hg0⟩)))
  subst ha
  clear hg0 hfil hg hg' hs' hlow e0 e1 e2 hon hsz HL HP HO
  generalize cur[i*3]'(by omega)=y0 at*
  generalize cur[i*3+1]'(by omega)=y1 at*
  generalize cur[i*3+2]'(by omega)=y2 at*
  go_wp2_with fail
  go_roundw
  ·exact ⟨i+1,by omega,by go_num,HL2,HP2,HO2⟩
  case measure=>simp[intOf];omega
 have hilI:¬(i:Int)<(n:Int):=by omega
 have hie:i=n:=by omega
 have HF:Hid (Full wr tE 3 elE (.slice ao n cap) m):=by rw[hie] at HP;exact (uh HP).full hn
 clear hie HP HV0 HQ
 have c9:wr.cell? ⟨b,9,none⟩=some s.r9:=by rw[cell_of_row wr b 9 _ _ (0,0) (uh HL).hp];rfl
 have f9:=frozen_of_row wr b 9 _ _ (uh HL).hp
 obtain ⟨a9,z9,e9⟩:=row_form (uh HL).rt.1
 obtain ⟨a10,z10,e10⟩:=row_form (uh HL).rt.2.1
 have HE9:=hide e9
 have HE10:=hide e10
 rw[e9] at c9
 obtain ⟨i0,hi0,hz0,hz1,hz2⟩:=info_parts infoEs
 obtain ⟨j0,hj0,hy0,hy1,hy2⟩:=info_parts infoS9
 have HOW:Hid ((wr.alloc (.cells #[.slice ao n cap] tEs)).ownsRow 0 tEs 1 (.slice a9 RT.length z9) RT.length (RT.map (·.1))):=by rw[←uh HE9];exact ownk_kept (uh HL).rt.1 ((Only.refl (fun _=>False) wr).alloc _) (fun _ _ x=>x)
 have HNW:=hide (new_cells wr [.slice ao n cap] tEs)
 have HSZ:Hid ((wr.alloc (.cells #[.slice ao n cap] tEs)).heap.size=wr.heap.size+1):=by unfold Hid;rw[World.size_alloc]
 have HRT:Hid (RT.length+1≤4*(c+1)):=by unfold Hid;omega
 have HMID:Hid (∀ga ca w3,(wr.alloc (.cells #[.slice ao n cap] tEs)).grownBy w3 (Value.slice a9 RT.length z9).ownBlock→w3.cell? ⟨b,9,none⟩=some (.slice a9 RT.length z9)∧w3.cell? ⟨b,10,none⟩=some (.slice a10 RT.length z10)∧w3.frozen? ⟨b,9,none⟩=false∧w3.frozen? ⟨b,10,none⟩=false∧((w3.setCell ⟨b,9,none⟩ (.slice (some ⟨ga,0,none⟩) (RT.length+1) ca)).alloc (.cells #[.string m] 9)).ownsRow 0 9 1 (.slice a10 RT.length z10) RT.length (RT.map fun x=>Value.string x.2)∧ ∀j u,([.string m]:List Value)[j]? =some u→((w3.setCell ⟨b,9,none⟩ (.slice (some ⟨ga,0,none⟩) (RT.length+1) ca)).alloc (.cells #[.string m] 9)).cell? ((⟨w3.heap.size,0,none⟩:Addr).add j)=some u):=fun ga ca w3 hg3=>by
  rw[←uh HE9] at hg3
  obtain ⟨ho3,hp3⟩:=(uh HL).oneT hg3
  refine ⟨?_, ?_,frozen_of_row w3 b 9 _ _ hp3,frozen_of_row w3 b 10 _ _ hp3, ?_, ?_⟩
  ·rw[cell_of_row w3 b 9 _ _ (0,0) hp3,←uh HE9];rfl
  ·rw[cell_of_row w3 b 10 _ _ (0,0) hp3,←uh HE10];rfl
  ·rw[←uh HE10];exact (uh HL).twoT ho3 _ _
  have:=new_cells (w3.setCell ⟨b,9,none⟩ (.slice (some ⟨ga,0,none⟩) (RT.length+1) ca)) [.string m] 9
  rw[set_size] at this
  exact this
 have HEND:Hid (∀ga ca gb cb w3 w6,w3.ownsRow 0 tEs 1 (.slice (some ⟨ga,0,none⟩) (RT.length+1) ca) (RT.length+1) (RT.map (·.1)++[.slice ao n cap])→(wr.alloc (.cells #[.slice ao n cap] tEs)).grownBy w3 (Value.slice a9 RT.length z9).ownBlock→((Value.slice a9 RT.length z9).ownBlock=some ga∨ga=wr.heap.size+1)→w6.ownsRow 0 9 1 (.slice (some ⟨gb,0,none⟩) (RT.length+1) cb) (RT.length+1) (RT.map (fun x=>Value.string x.2)++[.string m])→((w3.setCell ⟨b,9,none⟩ (.slice (some ⟨ga,0,none⟩) (RT.length+1) ca)).alloc (.cells #[.string m] 9)).grownBy w6 (Value.slice a10 RT.length z10).ownBlock→((Value.slice a10 RT.length z10).ownBlock=some gb∨gb=w3.heap.size+1)→w6.cell? ⟨b,10,none⟩=some (.slice a10 RT.length z10)∧w6.frozen? ⟨b,10,none⟩=false∧TyOnly [wT,tEs,9,tE] w (w6.setCell ⟨b,10,none⟩ (.slice (some ⟨gb,0,none⟩) (RT.length+1) cb))∧PosT w1 (w6.setCell ⟨b,10,none⟩ (.slice (some ⟨gb,0,none⟩) (RT.length+1) cb)) b (c+1) s.base RF RL):=fun ga ca gb cb w3 w6 h3 hg3 hl3 h6 hg6 hl6=>by
  rw[←uh HE9] at hg3 hl3
  rw[←uh HE10] at hg6 hl6
  obtain ⟨hp6,hfin,hfo⟩:=(uh HL).endT (uh HF) (uh HRT) h3 hg3 hl3 h6 hg6 hl6
  refine ⟨?_,frozen_of_row w6 b 10 _ _ hp6,uh HFT _ ((uh HO).transNew hfo (fun k _ hS=> ?_)),Exists.intro _ (Exists.intro _ ⟨hfin,rfl⟩)⟩
  ·rw[cell_of_row w6 b 10 _ _ (0,0) hp6,←uh HE10];rfl
  rcases hS with hS|hS|hS
  ·exact .inl hS
  ·exact .inr (.inl hS)
  exact .inr (.inr (.inl hS))
 clear HL HF HRT HO HFT HE9 HE10 e9 e10
 go_wp2_with (at_builtin;first
  |(refine wpList_append_lies _ rfl (.tmp 23) (.tmp 25) 75 rfl 0 tEs i0 (.slice none 0 0) 1 24 Tryz.underlying75 hi0 hz0 hz1 hz2 rfl (by omega) (.slice a9 RT.length z9) RT.length (RT.map (·.1)) rfl (uh HOW) ⟨wr.heap.size,0,none⟩ 1 1 [.slice ao n cap] rfl rfl (uh HNW) (by intro u hu;simp at hu;subst hu;rfl) (by omega) (by unfold maxLen;omega) (by omega) (by omega) (wr.heap.size+1) (uh HSZ) ?_;intro ga ca w3 h3 hg3 hl3 hlt3;obtain ⟨q9,q10,x9,x10,HOX,HNX⟩:=uh HMID ga ca w3 hg3;have HOX:=hide HOX;have HNX:=hide HNX;have HEND2:=hide (fun gb cb w6=>uh HEND ga ca gb cb w3 w6 h3 hg3 hl3);clear h3 hg3 hl3 hlt3 c9 f9)
  |(refine wpList_append_lies _ rfl (.tmp 33) (.tmp 35) 45 rfl 0 9 j0 (.string ⟨#[]⟩) 1 16 Tryz.underlying45 hj0 hy0 hy1 hy2 rfl (by omega) (.slice a10 RT.length z10) RT.length _ rfl (uh HOX) ⟨w3.heap.size,0,none⟩ 1 1 [.string m] rfl rfl (uh HNX) (by intro u hu;simp at hu;subst hu;rfl) (by omega) (by unfold maxLen;omega) (by omega) (by omega) (w3.heap.size+1) (by rw[World.size_alloc,set_size]) ?_;intro gb cb w6 h6 hg6 hl6 hlt6;obtain ⟨q10b,x10b,hty,hex⟩:=uh HEND2 gb cb w6 h6 hg6 hl6;have HTY:=hide hty;have HEX:=hide hex;clear h6 hg6 hl6 hlt6 hty hex q9 q10 x9 x10))
 go_end0
 exact ⟨rfl,uh HTY,uh HEX⟩
end Go.Proofs.YtndfmgdhiallpaaGreatDoor
