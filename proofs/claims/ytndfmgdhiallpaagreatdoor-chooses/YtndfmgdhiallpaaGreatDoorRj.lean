import Derived.Test.YtndfmgdhiallpaaGreatDoorRi
import Derived.Test.YtndfmgdhiallpaaGreatDoorKa
set_option maxRecDepth 100000
set_option maxHeartbeats 16000000
namespace Go.Proofs.YtndfmgdhiallpaaGreatDoor
open Go.RowKit Go.Maps
def Stays(w w' :World)(v:Value)(q:Nat):Prop:= ∀b cur e,w.heap[b]? =some (.cells cur e (0,0))→ ∃cur',w'.heap[b]? =some (.cells cur' e (0,0))∧ ∀j,(v.ownBlock=some b→j<q)→cur'[j]? =cur[j]?
theorem run_append_stay{P:Program}(w:World)(t ty:TypeId)(e:TypeId)(i:TypeInfo)(z:Value)(size bytes:Nat)(ht:P.underlying t=some (.slice e))(hi:P.info? e=some i)(hz:i.zero=some z)
 (hsize:i.size=size)(hby:i.bytes=bytes)(hzs:z.cells.size=size)(hsz:0<size)(v:Value)(n:Nat)(xs:List Value)(hown:w.ownsRow 0 e size v n xs)
 (ad:Addr)(m c:Nat)(news:List Value)(hl:news.length=m*size)(hnews: ∀j u,news[j]? =some u→w.cell? (ad.add j)=some u)(h1: ∀u∈news,u.oneCell' =true)
 (hm:0<m)(h63:n+m≤maxLen)(hbytes:(n+m)*bytes≤140737488355328):
 ∃g cap w',(Builtin.append_ #[t,t] ty #[v,.slice (some ad) m c]).run P w=.ok (.slice (some ⟨g,0,none⟩) (n+m) cap) w' ∧
  w'.ownsRow 0 e size (.slice (some ⟨g,0,none⟩) (n+m) cap) (n+m) (xs++news)∧w.grownBy w' v.ownBlock∧(v.ownBlock=some g∨g=w.heap.size)∧Stays w w' v (n*size):=by
 obtain ⟨g,cap,w',hr,h2,h3,h4,_⟩:=run_append_lies (P:=P) w t ty 0 e i z size bytes ht hi hz hsize hby hzs hsz v n xs hown ad m c news hl hnews h1 hm h63 hbytes (Nat.zero_le _) w.heap.size rfl
 refine ⟨g,cap,w',hr,h2,h3,h4,fun b cur2 e2 hb=> ?_⟩
 have hbl:=(Array.getElem?_eq_some_iff.1 hb).1
 have same:w'.heap[b]? =w.heap[b]? → ∃cur',w'.heap[b]? =some (.cells cur' e2 (0,0))∧ ∀j,(v.ownBlock=some b→j<n*size)→cur'[j]? =cur2[j]? :=fun h=>⟨cur2,h.trans hb,fun _ _=>rfl⟩
 rcases hown.2 with ⟨rfl,_⟩|⟨g0,cap0,cur,rfl,hbg,hg,hnc,hcm,hcs,htake⟩
 ·exact same (h3.block b hbl (fun h=>by cases h))
 by_cases e1:b=g0
 ·subst e1
  rw[hg] at hb
  injection hb with hb
  injection hb with hb1 hb2
  subst hb1 hb2
  by_cases hroom:n+m≤cap0
  ·have hr2:=run_append_room (P:=P) w t ty e i ht hi b n cap0 cur hg ad m c news (by rw[hsize];exact hl) hnews h1 hroom (by rw[hsize,hcs,hl,←Nat.add_mul];exact Nat.mul_le_mul_right _ hroom)
   rw[hr] at hr2
   injection hr2 with _ hw
   rw[hw,hsize]
   refine ⟨_,setRow_heap w b cur _ e (0,0) hg,fun j hj=> ?_⟩
   have hj' :=hj rfl
   have hmul:n*size≤cap0*size:=Nat.mul_le_mul_right _ hnc
   have hlen:j<(cur.toList.take (n*size)).length:=by rw[List.length_take,Array.length_toList];omega
   rw[List.getElem?_toArray,List.append_assoc,List.getElem?_append_left hlen,List.getElem?_take,if_pos hj',Array.getElem?_toList]
  have hxl:xs.length=n*i.size:=by rw[hsize];exact hown.1
  have hr2:=run_append_grow (P:=P) w t ty e i z ht hi hz ⟨b,0,none⟩ n cap0 xs hxl (hown.cells (g:=b) rfl) ad m c news (by rw[hsize];exact hl) hnews (by omega) (by unfold maxLen at h63;omega) (growslice_fits (by omega) (by rw[hby];exact hbytes))
  rw[hr] at hr2
  injection hr2 with _ hw
  exact ⟨cur,by rw[hw];exact (Go.heap_alloc_old w.drew _ hbl).trans hg,fun _ _=>rfl⟩
 exact same (h3.block b hbl (fun h=>e1 (by injection h)))
theorem wpList_append_stay{P:Program}{ops:Array Oper}{rest:List Oper}{o:Oper}{a:Act}{Q:Exit→Act→World→Prop}{w:World}(hgd:o.guard=none)(s x:Operand)(t:TypeId)
 (ho:o.op=.call {callee:=.builtin .append,args:= #[s,x],argTypes:= #[t,t]})(e:TypeId)(i:TypeInfo)(z:Value)(size bytes:Nat)(ht:P.underlying t=some (.slice e))(hi:P.info? e=some i)(hz:i.zero=some z)
 (hsize:i.size=size)(hby:i.bytes=bytes)(hzs:z.cells.size=size)(hsz:0<size)(v:Value)(n:Nat)(xs:List Value)(hs:a.eval s=v)(hown:w.ownsRow 0 e size v n xs)
 (ad:Addr)(m c:Nat)(news:List Value)(hx:a.eval x=.slice (some ad) m c)(hl:news.length=m*size)(hnews: ∀j u,news[j]? =some u→w.cell? (ad.add j)=some u)(h1: ∀u∈news,u.oneCell' =true)
 (hm:0<m)(h63:n+m≤maxLen)(hbytes:(n+m)*bytes≤140737488355328)
 (k: ∀g cap w',w'.ownsRow 0 e size (.slice (some ⟨g,0,none⟩) (n+m) cap) (n+m) (xs++news)→w.grownBy w' v.ownBlock→(v.ownBlock=some g∨g=w.heap.size)→Stays w w' v (n*size)→wpList P ops Q rest (a.put o.dst (.slice (some ⟨g,0,none⟩) (n+m) cap)) w'):wpList P ops Q (o::rest) a w:=by
 obtain ⟨g,cap,w',hr,h2,h3,h4,h5⟩:=run_append_stay (P:=P) w t o.type e i z size bytes ht hi hz hsize hby hzs hsz v n xs hown ad m c news hl hnews h1 hm h63 hbytes
 exact Lib.wpList_append_run w hgd s x t t ho v _ hs hx _ w' hr (k g cap w' h2 h3 h4 h5)
def Fit(x v:Value)(n:Nat):Prop:= ∀ao q cap,x=.slice ao q cap→q≠0→ ∀g,ao=some ⟨g,0,none⟩→v.ownBlock=some g→q≤n
theorem Full.stays{w w' :World}{e:TypeId}{k n:Nat}{el:ByteArray→List Value}{x v:Value}{m:ByteArray}(h:Full w e k el x m)(hs:Stays w w' v (n*k))(hf:Fit x v n)(hk:(el m).length=k):Full w' e k el x m:=by
 obtain ⟨ao,q,cap,rfl,hn,hz⟩:=h
 by_cases h0:q=0
 ·exact ⟨ao,q,cap,rfl,hn,.inl h0⟩
 rcases hz with hz|⟨g,cur,rfl,hg,hc⟩
 ·exact absurd hz h0
 obtain ⟨cur',hg',hc'⟩:=hs g cur e hg
 refine ⟨_,q,cap,rfl,hn,.inr ⟨g,cur',rfl,hg',fun i hi j u hj=> ?_⟩⟩
 rw[hc' _ (fun hb=> ?_)]
 ·exact hc i hi j u hj
 have hqn:=hf _ q cap rfl h0 g rfl hb
 have hjk:j<k:=by rw[←hk];exact (List.getElem?_eq_some_iff.1 hj).1
 have:(i+1)*k≤n*k:=Nat.mul_le_mul_right _ (by omega)
 rw[Nat.add_mul,Nat.one_mul] at this
 omega
theorem WLs.apF{w1 w w' :World}{b c n:Nat}{s:WS}{RF RL RT:List (Value×ByteArray)}{v:Value}{xs:List Value}(h:WLs w1 w b c s RF RL RT)(hv:w.ownsRow 0 tF 2 v n xs)(h2: ∀k,v.ownBlock=some k→w1.heap.size≤k)(hg:w.grownBy w' v.ownBlock)(hst:Stays w w' v (n*2))(hfit: ∀x,x∈RF→Fit x.1 v n):WLs w1 w' b c s RF RL RT:=by
 have ho:Only (fun k=>v.ownBlock=some k) w w' :=(Only.refl _ w).grown hg (fun k _ e=>e)
 have nl: ∀{e:TypeId} {q:Nat} {cur:Array Value},tF≠e→w.heap[q]? =some (.cells cur e (0,0))→v.ownBlock=some q→False:=fun hne hg2 hk=>by
  obtain ⟨cur3,hg3⟩:=ownk_heap hv hk
  exact kinds hg3 hg2 hne
 have nr: ∀{e:TypeId} {k:Nat} {r:Value} {n:Nat} {xs:List Value},tF≠e→w.ownsRow 0 e k r n xs→ ∀{q:Nat},r.ownBlock=some q→v.ownBlock=some q→False:=fun hne hr q hk e=>by
  obtain ⟨cur2,hg2⟩:=ownk_heap hr hk
  exact nl hne hg2 e
 refine ⟨h.only.transNew ho (fun k hk e=>by have:=h2 k e;omega),h.lt,(ho.block b h.inb (fun e=>nl (by decide) h.hp e)).trans h.hp,⟨ownk_kept h.rf.1 ho (fun k hk e=>nr (by decide) h.rf.1 hk e),ownk_kept h.rf.2.1 ho (fun k hk e=>nr (by decide) h.rf.2.1 hk e),fun x hx=>(h.rf.2.2 x hx).stays hst (hfit x hx) rfl⟩,h.rl.kept ho (fun k hk e=>nr (by decide) h.rl.1 hk e) (fun k hk e=>nr (by decide) h.rl.2.1 hk e) (fun x hx g2 cur2 hg2 _ e=>nl (by decide) hg2 e),h.rt.kept ho (fun k hk e=>nr (by decide) h.rt.1 hk e) (fun k hk e=>nr (by decide) h.rt.2.1 hk e) (fun x hx g2 cur2 hg2 _ e=>nl (by decide) hg2 e),h.new,h.ap1,h.ap2,h.ap3,h.few,(fun k cu e he hz=>(ho.block k (Array.getElem?_eq_some_iff.1 (h.dk k cu e he hz)).1 (fun e2=>nl (by rcases he with rfl|rfl<;>decide) (h.dk k cu e he hz) e2)).trans (h.dk k cu e he hz))⟩
theorem WLs.apL{w1 w w' :World}{b c n:Nat}{s:WS}{RF RL RT:List (Value×ByteArray)}{v:Value}{xs:List Value}(h:WLs w1 w b c s RF RL RT)(hv:w.ownsRow 0 tL 2 v n xs)(h2: ∀k,v.ownBlock=some k→w1.heap.size≤k)(hg:w.grownBy w' v.ownBlock)(hst:Stays w w' v (n*2))(hfit: ∀x,x∈RL→Fit x.1 v n):WLs w1 w' b c s RF RL RT:=by
 have ho:Only (fun k=>v.ownBlock=some k) w w' :=(Only.refl _ w).grown hg (fun k _ e=>e)
 have nl: ∀{e:TypeId} {q:Nat} {cur:Array Value},tL≠e→w.heap[q]? =some (.cells cur e (0,0))→v.ownBlock=some q→False:=fun hne hg2 hk=>by
  obtain ⟨cur3,hg3⟩:=ownk_heap hv hk
  exact kinds hg3 hg2 hne
 have nr: ∀{e:TypeId} {k:Nat} {r:Value} {n:Nat} {xs:List Value},tL≠e→w.ownsRow 0 e k r n xs→ ∀{q:Nat},r.ownBlock=some q→v.ownBlock=some q→False:=fun hne hr q hk e=>by
  obtain ⟨cur2,hg2⟩:=ownk_heap hr hk
  exact nl hne hg2 e
 refine ⟨h.only.transNew ho (fun k hk e=>by have:=h2 k e;omega),h.lt,(ho.block b h.inb (fun e=>nl (by decide) h.hp e)).trans h.hp,h.rf.kept ho (fun k hk e=>nr (by decide) h.rf.1 hk e) (fun k hk e=>nr (by decide) h.rf.2.1 hk e) (fun x hx g2 cur2 hg2 _ e=>nl (by decide) hg2 e),⟨ownk_kept h.rl.1 ho (fun k hk e=>nr (by decide) h.rl.1 hk e),ownk_kept h.rl.2.1 ho (fun k hk e=>nr (by decide) h.rl.2.1 hk e),fun x hx=>(h.rl.2.2 x hx).stays hst (hfit x hx) rfl⟩,h.rt.kept ho (fun k hk e=>nr (by decide) h.rt.1 hk e) (fun k hk e=>nr (by decide) h.rt.2.1 hk e) (fun x hx g2 cur2 hg2 _ e=>nl (by decide) hg2 e),h.new,h.ap1,h.ap2,h.ap3,h.few,(fun k cu e he hz=>(ho.block k (Array.getElem?_eq_some_iff.1 (h.dk k cu e he hz)).1 (fun e2=>nl (by rcases he with rfl|rfl<;>decide) (h.dk k cu e he hz) e2)).trans (h.dk k cu e he hz))⟩
theorem flat_get{l:List Value}{k:Nat}(hk:l.length=k)(h0:0<k): ∀(n q:Nat),q<n*k→((List.replicate n l).flatten)[q]? =l[q%k]?
 |0,q,h=>by omega
 |n+1,q,h=>by
  rw[List.replicate_succ,List.flatten_cons]
  by_cases hq:q<k
  ·rw[List.getElem?_append_left (by omega),Nat.mod_eq_of_lt hq]
  rw[List.getElem?_append_right (by omega),hk,flat_get hk h0 n (q- k) (by rw[Nat.add_mul,Nat.one_mul] at h;omega),Nat.mod_eq_sub_mod (show q≥k by omega)]
theorem flat_len{l:List Value}{k:Nat}(hk:l.length=k): ∀n,((List.replicate n l).flatten).length=n*k
 |0=>by simp
 |n+1=>by rw[List.replicate_succ,List.flatten_cons,List.length_append,flat_len hk n,hk,Nat.add_mul];omega
theorem flat_succ{l:List Value}(n:Nat):(List.replicate n l).flatten++l=(List.replicate (n+1) l).flatten:=by
 rw[List.replicate_succ',List.flatten_append];simp
theorem own_full{w:World}{e:TypeId}{k n:Nat}{el:ByteArray→List Value}{v:Value}{m:ByteArray}(hk:(el m).length=k)(h0:0<k)(hn:n≤2000000)(h:w.ownsRow 0 e k v n ((List.replicate n (el m)).flatten)):Full w e k el v m:=by
 obtain ⟨_,⟨rfl,hz⟩|⟨g,cap,cur,rfl,_,hg,hnc,_,hcs,htk⟩⟩:=h
 ·exact ⟨none,0,0,rfl,by omega,.inl rfl⟩
 refine ⟨_,n,cap,rfl,hn,.inr ⟨g,cur,rfl,hg,fun i hi j u hj=> ?_⟩⟩
 have hjk:j<k:=by rw[←hk];exact (List.getElem?_eq_some_iff.1 hj).1
 have hlt:i*k+j<n*k:=by
  have:(i+1)*k≤n*k:=Nat.mul_le_mul_right _ (by omega)
  rw[Nat.add_mul,Nat.one_mul] at this
  omega
 have h2:(List.take (n*k) cur.toList)[i*k+j]? =((List.replicate n (el m)).flatten)[i*k+j]? :=by rw[htk]
 rw[List.getElem?_take,if_pos hlt,flat_get hk h0 n _ hlt,Array.getElem?_toList,Nat.mul_comm i k,Nat.mul_add_mod,Nat.mod_eq_of_lt hjk,hj] at h2
 rw[Nat.mul_comm i k];exact h2
def ParC(wq w1 w:World)(e:TypeId)(k:Nat)(el:ByteArray→List Value)(ao:Option Addr)(n cap:Nat)(m:ByteArray)(i:Nat):Prop:=(n=0∧w.ownsRow 0 e k (.slice ao 0 cap) 0 [])∨ ∃g cur,ao=some ⟨g,0,none⟩∧w.heap[g]? =some (.cells cur e (0,0))∧n≤cap∧cap≤maxLen∧cur.size=cap*k∧wq.heap.size≤g∧w1.heap.size≤g∧ ∀p,p<i→ ∀j u,(el m)[j]? =some u→cur[p*k+j]? =some u
theorem ParC.own{wq w1 w:World}{e:TypeId}{k:Nat}{el:ByteArray→List Value}{ao:Option Addr}{n cap:Nat}{m:ByteArray}(h:ParC wq w1 w e k el ao n cap m n)(hk:(el m).length=k)(h0:0<k):w.ownsRow 0 e k (.slice ao n cap) n ((List.replicate n (el m)).flatten):=by
 rcases h with ⟨rfl,h⟩|⟨g,cur,rfl,hg,hnc,hcm,hcs,_,_,hf⟩
 ·exact h
 refine ⟨flat_len hk n,.inr ⟨g,cap,cur,rfl,Nat.zero_le _,hg,hnc,hcm,hcs, ?_⟩⟩
 apply List.ext_getElem?
 intro q
 have hmul:n*k≤cap*k:=Nat.mul_le_mul_right _ hnc
 by_cases hq:q<n*k
 ·rw[List.getElem?_take,if_pos hq,flat_get hk h0 n q hq,Array.getElem?_toList]
  have hqk:q%k<(el m).length:=by rw[hk];exact Nat.mod_lt _ h0
  have hdm:=Nat.div_add_mod q k
  have hp:q/k<n:=Nat.div_lt_of_lt_mul (by rw[Nat.mul_comm];exact hq)
  have:=hf (q/k) hp (q%k) _ (List.getElem?_eq_getElem hqk)
  rw[Nat.mul_comm,hdm] at this
  rw[this,List.getElem?_eq_getElem hqk]
 rw[List.getElem?_eq_none (by rw[List.length_take,Array.length_toList];omega),List.getElem?_eq_none (by rw[flat_len hk];omega)]
theorem ParC.start{wq w1 w:World}{e:TypeId}{k:Nat}{el:ByteArray→List Value}{ao:Option Addr}{n cap:Nat}{xs:List Value}(h:w.ownsRow 0 e k (.slice ao n cap) n xs)(hb: ∀g,(Value.slice ao n cap).ownBlock=some g→wq.heap.size≤g∧w1.heap.size≤g)(m:ByteArray):ParC wq w1 w e k el ao n cap m 0:=by
 obtain ⟨hl,⟨e1,hz⟩|⟨g,cap',cur,e1,h1,hg,hnc,hcm,hcs,htk⟩⟩:=h
 ·injection e1 with e1 e2 e3
  subst e1 e3 hz
  exact .inl ⟨rfl,World.ownsRow_nil _ _ _ _⟩
 injection e1 with e1 e2 e3
 subst e1 e3
 exact .inr ⟨g,cur,rfl,hg,hnc,hcm,hcs,(hb g rfl).1,(hb g rfl).2,fun p hp=>by omega⟩
theorem ParC.kept{S:Nat→Prop}{wq w1 w w' :World}{e:TypeId}{k:Nat}{el:ByteArray→List Value}{ao:Option Addr}{n cap:Nat}{m:ByteArray}{i:Nat}(h:ParC wq w1 w e k el ao n cap m i)(ho:Only S w w')(hs: ∀g cur,w.heap[g]? =some (.cells cur e (0,0))→¬S g):ParC wq w1 w' e k el ao n cap m i:=by
 rcases h with ⟨h0,h⟩|⟨g,cur,h1,h2,h3⟩
 ·refine .inl ⟨h0,ownk_kept h ho (fun b hb=> ?_)⟩
  obtain ⟨cur,hg⟩:=ownk_heap h hb
  exact hs b cur hg
 exact .inr ⟨g,cur,h1,(ho.block g (Array.getElem?_eq_some_iff.1 h2).1 (hs g cur h2)).trans h2,h3⟩
theorem ParC.next{wq w1 w:World}{e:TypeId}{el:ByteArray→List Value}{ao:Option Addr}{n cap i g:Nat}{m:ByteArray}{u0 u1:Value}(hel:el m=[u0,u1]){cur cur' :Array Value}(ha:ao=some ⟨g,0,none⟩)(hg:w.heap[g]? =some (.cells cur' e (0,0)))(hnc:n≤cap)(hcm:cap≤maxLen)(hcs:cur.size=cap*2)(hs:cur'.size=cur.size)(h1:wq.heap.size≤g)(h2:w1.heap.size≤g)(hf: ∀p,p<i→ ∀j u,(el m)[j]? =some u→cur[p*2+j]? =some u)(hl: ∀p,p<i*2→cur'[p]? =cur[p]?)(e0:cur'[i*2]? =some u0)(e1:cur'[i*2+1]? =some u1):ParC wq w1 w e 2 el ao n cap m (i+1):=by
 refine .inr ⟨g,cur',ha,hg,hnc,hcm,by omega,h1,h2,fun p hp j u hj=> ?_⟩
 rw[hel] at hj
 have hj2:j<2:=(List.getElem?_eq_some_iff.1 hj).1
 by_cases e:p=i
 ·subst e
  match j,hj2,hj with
  |0,_,hj=>rw[←hj];exact e0
  |1,_,hj=>rw[←hj];exact e1
 rw[hl _ (by omega)];exact hf p (by omega) j u (by rw[hel];exact hj)
def LK(e:TypeId)(k:Nat)(w w' :World):Prop:= ∀v n xs,w.ownsRow 0 e k v n xs→w'.ownsRow 0 e k v n xs
theorem LK.trans{e:TypeId}{k:Nat}{a b c:World}(h:LK e k a b)(h2:LK e k b c):LK e k a c:=fun v n xs hv=>h2 v n xs (h v n xs hv)
theorem LK.of{e:TypeId}{k:Nat}{S:Nat→Prop}{w w' :World}(ho:Only S w w')(hs: ∀g cur,w.heap[g]? =some (.cells cur e (0,0))→¬S g):LK e k w w' :=fun v n xs hv=>ownk_kept hv ho (fun b hb=>by
 obtain ⟨cur,hg⟩:=ownk_heap hv hb
 exact hs b cur hg)
theorem fit_start{wq:World}{e:TypeId}{k:Nat}{el:ByteArray→List Value}{R:List (Value×ByteArray)}{v:Value}(hq: ∀x,x∈R→Full wq e k el x.1 x.2)(hb: ∀g,v.ownBlock=some g→wq.heap.size≤g)(n:Nat): ∀x,x∈R→Fit x.1 v n:=by
 intro x hx ao q cap hx1 h0 g ha hv
 obtain ⟨ao2,q2,cap2,e2,_,hz⟩:=hq x hx
 rw[hx1] at e2
 injection e2 with e3 e4 e5
 subst e3 e4
 rcases hz with hz|⟨g2,cur,h2,hg2,_⟩
 ·exact absurd hz h0
 rw[ha] at h2
 injection h2 with h2
 injection h2 with h2
 subst h2
 have h3:=(Array.getElem?_eq_some_iff.1 hg2).1
 have h4:=hb g hv
 omega
theorem fit_push{R:List (Value×ByteArray)}{v:Value}{ao:Option Addr}{n cap:Nat}{m:ByteArray}(h: ∀x,x∈R→Fit x.1 v n)(hv:v=.slice ao n cap): ∀x,x∈R++[(v,m)]→Fit x.1 v n:=by
 intro x hx
 rcases List.mem_append.1 hx with hx|hx
 ·exact h x hx
 rw[List.mem_singleton] at hx
 subst hx
 intro ao2 q cap2 e _ g _ _
 simp only at e
 rw[hv] at e
 injection e with _ e _
 omega
theorem fit_next{V:World}{e:TypeId}{k:Nat}{el:ByteArray→List Value}{R:List (Value×ByteArray)}{v:Value}{n g cap:Nat}(h: ∀x,x∈R→Fit x.1 v n)(hf: ∀x,x∈R→Full V e k el x.1 x.2)(hl:v.ownBlock=some g∨g=V.heap.size): ∀x,x∈R→Fit x.1 (.slice (some ⟨g,0,none⟩) (n+1) cap) (n+1):=by
 intro x hx ao q cap2 hx1 h0 g2 ha hv
 have e:g=g2:=Option.some.inj hv
 subst e
 rcases hl with hl|hl
 ·have:=h x hx ao q cap2 hx1 h0 g ha hl
  omega
 obtain ⟨ao2,q2,cap3,e2,_,hz⟩:=hf x hx
 rw[hx1] at e2
 injection e2 with e3 e4 e5
 subst e3 e4
 rcases hz with hz|⟨g3,cur,h2,hg2,_⟩
 ·exact absurd hz h0
 rw[ha] at h2
 injection h2 with h2
 injection h2 with h2
 subst h2
 have h3:=(Array.getElem?_eq_some_iff.1 hg2).1
 omega
def Inv2F(w1 w wr:World)(b c n j:Nat)(m:ByteArray)(_RF RL RT:List (Value×ByteArray))(l:Value)(B:ByteArray×ByteArray×ByteArray×Value×Value×World):Prop:= ∃s2 R2,WLs w1 wr b (c+1) s2 R2 RL RT∧R2.length≤4*c+j∧wr.ownsRow 0 tF 2 l (n+j) ((List.replicate (n+j) (elF m)).flatten)∧(∀g,l.ownBlock=some g→w1.heap.size≤g)∧(∀x,x∈R2→Fit x.1 l (n+j))∧LK tL 2 w wr∧s2.base=B
def Inv2L(w1 w wr:World)(b c n j:Nat)(m:ByteArray)(RF _RL RT:List (Value×ByteArray))(l:Value)(B:ByteArray×ByteArray×ByteArray×Value×Value×World):Prop:= ∃s2 R2,WLs w1 wr b (c+1) s2 RF R2 RT∧R2.length≤4*c+j∧wr.ownsRow 0 tL 2 l (n+j) ((List.replicate (n+j) (elL m)).flatten)∧(∀g,l.ownBlock=some g→w1.heap.size≤g)∧(∀x,x∈R2→Fit x.1 l (n+j))∧LK tF 2 w wr∧s2.base=B
theorem filesOfC{w1 wq:World}{b c:Nat}{s:WS}{RF RL RT:List (Value×ByteArray)}(hc:c≤100000000)(w:World)(h:WLs w1 w b c s RF RL RT)(ao:Option Addr)(n cap:Nat)(hn:n≤1500000)(xs:List Value)(hv:w.ownsRow 0 tF 2 (.slice ao n cap) n xs)(hb: ∀g,(Value.slice ao n cap).ownBlock=some g→wq.heap.size≤g∧w1.heap.size≤g)(hq: ∀x,x∈RF→Full wq tF 2 elF x.1 x.2):
 Calls Tryz.prog 116 #[.pointer (some ⟨b,0,none⟩),.slice ao n cap] w fun r w' =>r=.returned (.tuple #[])∧LK tL 2 w w' ∧PosF w1 w' b (c+1) s.base RL RT:=by
 have H1:=hide (markC s c (by omega) b w h.hp)
 have HL:=hide h
 have hfT:=h.few.1
 have HQ:=hide hq
 have HV:=hide (fun m=>ParC.start (el:=elF) hv hb m)
 have HB:=hide hb
 clear h hq hv hb
 go_in
 go_wp2_with fail
 refine (uh H1).mono ?_
 rintro r w2 ⟨m,rfl,ho2,hp2⟩
 have HL2:=hide ((uh HL).rec_ ho2 hp2 (by omega) rfl rfl rfl rfl rfl rfl)
 have HP2:=hide ((uh HV m).kept ho2 (fun g cur hg e=>kinds (e ▸ hg) (uh HL).hp (by decide)))
 have HO2:Hid (LK tL 2 w w2):=LK.of ho2 (fun g cur hg e=>kinds (e ▸ hg) (uh HL).hp (by decide))
 clear ho2 hp2 H1 HL HV
 go_wp2_with fail
 go_loopw [5] (fun x wr=> ∃i:Nat,i≤n∧x=.int .i64 i∧Hid (WLs w1 wr b (c+1) s RF RL RT)∧Hid (ParC wq w1 wr tF 2 elF ao n cap m i)∧Hid (LK tL 2 w wr)) (fun x _=>n- (intOf x).toNat)
 ·exact ⟨0,by omega,rfl,HL2,HP2,HO2⟩
 clear HL2 HP2 HO2
 obtain ⟨i,hi,rfl,HL,HP,HO⟩:=hrel
 by_cases hil:i<n
 ·have hilI:(i:Int)<(n:Int):=by omega
  obtain ⟨g,cur,ha,hg,hnc,hcm,hcs,hgq,hg1,hfil⟩: ∃g cur,ao=some ⟨g,0,none⟩∧wr.heap[g]? =some (.cells cur tF (0,0))∧n≤cap∧cap≤maxLen∧cur.size=cap*2∧wq.heap.size≤g∧w1.heap.size≤g∧ ∀p,p<i→ ∀j u,(elF m)[j]? =some u→cur[p*2+j]? =some u:=by
   rcases uh HP with h|h
   ·omega
   exact h
  have hlt3:i*2+2≤cur.size:=by omega
  obtain ⟨y0,k0⟩: ∃y0,wr.cell? ⟨g,i*2,none⟩=some y0:=⟨cur[i*2]'(by omega),by rw[cell_of_row wr g _ _ _ (0,0) hg];exact Array.getElem?_eq_getElem _⟩
  obtain ⟨y1,k1⟩: ∃y1,wr.cell? ⟨g,i*2+1,none⟩=some y1:=⟨cur[i*2+1]'(by omega),by rw[cell_of_row wr g _ _ _ (0,0) hg];exact Array.getElem?_eq_getElem _⟩
  have f0:=frozen_of_row wr g (i*2) _ _ hg
  have f1:=frozen_of_row wr g (i*2+1) _ _ hg
  obtain ⟨cur',hg',hs',hlow,e0,e1,hon⟩:=write2 hg (i*2) (.string m) (.string ⟨#[]⟩) hlt3
  have HL2:=hide ((uh HL).wrF hg hon (uh HQ) hgq hg1)
  have HP2:=hide (ParC.next (wq:=wq) (w1:=w1) (el:=elF) (m:=m) rfl ha hg' hnc hcm hcs hs' hgq hg1 hfil hlow e0 e1)
  have HO2:Hid (LK tL 2 w _):=(uh HO).trans (LK.of hon (fun g2 cur2 hg2 e=>kinds hg (e ▸ hg2) (by decide)))
  subst ha
  clear hfil hg hg' hs' hlow e0 e1 hon hnc hcm hcs HL HP HO
  go_wp2_with fail
  go_roundw
  ·exact ⟨i+1,by omega,by go_num,HL2,HP2,HO2⟩
  case measure=>simp[intOf];omega
 have hilI:¬(i:Int)<(n:Int):=by omega
 have hie:i=n:=by omega
 have HW:Hid (wr.ownsRow 0 tF 2 (.slice ao n cap) n ((List.replicate n (elF m)).flatten)):=by rw[hie] at HP;exact (uh HP).own rfl (by omega)
 have HI0:Hid (Inv2F w1 w wr b c n 0 m RF RL RT (.slice ao n cap) s.base):=⟨s,RF,uh HL,by omega,uh HW,fun g e=>(uh HB g e).2,fit_start (uh HQ) (fun g e=>(uh HB g e).1) n,uh HO,rfl⟩
 clear hie HP HQ HL HW HO HB
 go_wp2_with fail
 go_loopw [1,6] (fun l x wr=> ∃(j:Nat) (ao2:Option Addr) (cap2:Nat),j≤4∧x=.int .i64 j∧l=.slice ao2 (n+j) cap2∧Hid (Inv2F w1 w wr b c n j m RF RL RT (.slice ao2 (n+j) cap2) s.base)) (fun _ x _=>4- (intOf x).toNat)
 ·exact ⟨0,ao,cap,by omega,rfl,rfl,HI0⟩
 clear HI0
 obtain ⟨j,ao2,cap2,hj,rfl,rfl,HI⟩:=hrel
 obtain ⟨s2,R2,hl2,hR2,how2,hb2,hft2,hlk2,hba2⟩:=uh HI
 have HBA:=hide hba2
 have HL:=hide hl2
 have HOL:=hide how2
 have HB2:=hide hb2
 have HFT:=hide hft2
 have HLK:=hide hlk2
 clear hl2 how2 hb2 hft2 hlk2 hba2 HI
 by_cases hj4:j<4
 ·have hj4I:(j:Int)<4:=by omega
  have HF:Hid (Full wr tF 2 elF (.slice ao2 (n+j) cap2) m):=own_full rfl (by omega) (by omega) (uh HOL)
  have c9:wr.cell? ⟨b,5,none⟩=some s2.r5:=by rw[cell_of_row wr b 5 _ _ (0,0) (uh HL).hp];rfl
  have f9:=frozen_of_row wr b 5 _ _ (uh HL).hp
  obtain ⟨a9,z9,e9⟩:=row_form (uh HL).rf.1
  obtain ⟨a10,z10,e10⟩:=row_form (uh HL).rf.2.1
  have HE9:=hide e9
  have HE10:=hide e10
  rw[e9] at c9
  obtain ⟨i0,hi0,hz0,hz1,hz2⟩:=info_parts infoFs
  obtain ⟨j0,hj0,hy0,hy1,hy2⟩:=info_parts infoS9
  obtain ⟨t0,ht0,hx0,hx1,hx2⟩:=info_parts infoF2
  have HOW:Hid ((wr.alloc (.cells #[.slice ao2 (n+j) cap2] tFs)).ownsRow 0 tFs 1 (.slice a9 R2.length z9) R2.length (R2.map (·.1))):=by rw[←uh HE9];exact ownk_kept (uh HL).rf.1 ((Only.refl (fun _=>False) wr).alloc _) (fun _ _ x=>x)
  have HNW:=hide (new_cells wr [.slice ao2 (n+j) cap2] tFs)
  have HSZ:Hid ((wr.alloc (.cells #[.slice ao2 (n+j) cap2] tFs)).heap.size=wr.heap.size+1):=by unfold Hid;rw[World.size_alloc]
  have HRT:Hid (R2.length+1≤4*(c+1)):=by unfold Hid;omega
  have HMID:Hid (∀ga ca w3,(wr.alloc (.cells #[.slice ao2 (n+j) cap2] tFs)).grownBy w3 (Value.slice a9 R2.length z9).ownBlock→w3.cell? ⟨b,5,none⟩=some (.slice a9 R2.length z9)∧w3.cell? ⟨b,6,none⟩=some (.slice a10 R2.length z10)∧w3.frozen? ⟨b,5,none⟩=false∧w3.frozen? ⟨b,6,none⟩=false∧((w3.setCell ⟨b,5,none⟩ (.slice (some ⟨ga,0,none⟩) (R2.length+1) ca)).alloc (.cells #[.string m] 9)).ownsRow 0 9 1 (.slice a10 R2.length z10) R2.length (R2.map fun x=>Value.string x.2)∧ ∀j u,([.string m]:List Value)[j]? =some u→((w3.setCell ⟨b,5,none⟩ (.slice (some ⟨ga,0,none⟩) (R2.length+1) ca)).alloc (.cells #[.string m] 9)).cell? ((⟨w3.heap.size,0,none⟩:Addr).add j)=some u):=fun ga ca w3 hg3=>by
   rw[←uh HE9] at hg3
   obtain ⟨ho3,hp3⟩:=(uh HL).oneF hg3
   refine ⟨?_, ?_,frozen_of_row w3 b 5 _ _ hp3,frozen_of_row w3 b 6 _ _ hp3, ?_, ?_⟩
   ·rw[cell_of_row w3 b 5 _ _ (0,0) hp3,←uh HE9];rfl
   ·rw[cell_of_row w3 b 6 _ _ (0,0) hp3,←uh HE10];rfl
   ·rw[←uh HE10];exact (uh HL).twoF ho3 _ _
   have:=new_cells (w3.setCell ⟨b,5,none⟩ (.slice (some ⟨ga,0,none⟩) (R2.length+1) ca)) [.string m] 9
   rw[set_size] at this
   exact this
  have HEND:Hid (∀ga ca gb cb w3 w6,w3.ownsRow 0 tFs 1 (.slice (some ⟨ga,0,none⟩) (R2.length+1) ca) (R2.length+1) (R2.map (·.1)++[.slice ao2 (n+j) cap2])→(wr.alloc (.cells #[.slice ao2 (n+j) cap2] tFs)).grownBy w3 (Value.slice a9 R2.length z9).ownBlock→((Value.slice a9 R2.length z9).ownBlock=some ga∨ga=wr.heap.size+1)→w6.ownsRow 0 9 1 (.slice (some ⟨gb,0,none⟩) (R2.length+1) cb) (R2.length+1) (R2.map (fun x=>Value.string x.2)++[.string m])→((w3.setCell ⟨b,5,none⟩ (.slice (some ⟨ga,0,none⟩) (R2.length+1) ca)).alloc (.cells #[.string m] 9)).grownBy w6 (Value.slice a10 R2.length z10).ownBlock→((Value.slice a10 R2.length z10).ownBlock=some gb∨gb=w3.heap.size+1)→w6.cell? ⟨b,6,none⟩=some (.slice a10 R2.length z10)∧w6.frozen? ⟨b,6,none⟩=false∧((w6.setCell ⟨b,6,none⟩ (.slice (some ⟨gb,0,none⟩) (R2.length+1) cb)).alloc (.cells #[.string m,(.string ⟨#[]⟩)] tF)).ownsRow 0 tF 2 (.slice ao2 (n+j) cap2) (n+j) ((List.replicate (n+j) (elF m)).flatten)∧(∀j u,(elF m)[j]? =some u→((w6.setCell ⟨b,6,none⟩ (.slice (some ⟨gb,0,none⟩) (R2.length+1) cb)).alloc (.cells #[.string m,(.string ⟨#[]⟩)] tF)).cell? ((⟨w6.heap.size,0,none⟩:Addr).add j)=some u)∧ ∀g8 c8 w8,w8.ownsRow 0 tF 2 (.slice (some ⟨g8,0,none⟩) (n+j+1) c8) (n+j+1) ((List.replicate (n+j) (elF m)).flatten++elF m)→((w6.setCell ⟨b,6,none⟩ (.slice (some ⟨gb,0,none⟩) (R2.length+1) cb)).alloc (.cells #[.string m,(.string ⟨#[]⟩)] tF)).grownBy w8 (Value.slice ao2 (n+j) cap2).ownBlock→((Value.slice ao2 (n+j) cap2).ownBlock=some g8∨g8=((w6.setCell ⟨b,6,none⟩ (.slice (some ⟨gb,0,none⟩) (R2.length+1) cb)).alloc (.cells #[.string m,(.string ⟨#[]⟩)] tF)).heap.size)→Stays ((w6.setCell ⟨b,6,none⟩ (.slice (some ⟨gb,0,none⟩) (R2.length+1) cb)).alloc (.cells #[.string m,(.string ⟨#[]⟩)] tF)) w8 (.slice ao2 (n+j) cap2) ((n+j)*2)→Inv2F w1 w w8 b c n (j+1) m RF RL RT (.slice (some ⟨g8,0,none⟩) (n+(j+1)) c8) s.base):=fun ga ca gb cb w3 w6 h3 hg3 hl3 h6 hg6 hl6=>by
   rw[←uh HE9] at hg3 hl3
   rw[←uh HE10] at hg6 hl6
   obtain ⟨hp6,hfin,hfo⟩:=(uh HL).endF (uh HF) (uh HRT) h3 hg3 hl3 h6 hg6 hl6
   have hno: ∀{e:TypeId},e≠wT→e≠tFs→e≠9→ ∀g cur,wr.heap[g]? =some (.cells cur e (0,0))→¬(g=b∨s2.r5.ownBlock=some g∨s2.r6.ownBlock=some g):=fun h1 h2 h3 g cur hg hS=>by
    rcases hS with hS|hS|hS
    ·subst hS;exact kinds hg (uh HL).hp h1
    ·obtain ⟨cur2,hg2⟩:=ownk_heap (uh HL).rf.1 hS
     exact kinds hg hg2 h2
    obtain ⟨cur2,hg2⟩:=ownk_heap (uh HL).rf.2.1 hS
    exact kinds hg hg2 h3
   have howV:=ownk_kept (uh HOL) (hfo.alloc (.cells #[.string m,(.string ⟨#[]⟩)] tF)) (fun g hg hS=>by
    obtain ⟨cur,hg2⟩:=ownk_heap (uh HOL) hg
    exact hno (by decide) (by decide) (by decide) g cur hg2 hS)
   have hlkV:LK tL 2 wr ((w6.setCell ⟨b,6,none⟩ (.slice (some ⟨gb,0,none⟩) (R2.length+1) cb)).alloc (.cells #[.string m,(.string ⟨#[]⟩)] tF)):=LK.of (hfo.alloc _) (hno (by decide) (by decide) (by decide))
   have hfinA:=hfin.old ((Only.refl (fun _=>False) (w6.setCell ⟨b,6,none⟩ (.slice (some ⟨gb,0,none⟩) (R2.length+1) cb))).alloc (.cells #[.string m,(.string ⟨#[]⟩)] tF))
   refine ⟨?_,frozen_of_row w6 b 6 _ _ hp6,howV, ?_,fun g8 c8 w8 h8 hg8 hl8 hst8=> ?_⟩
   ·rw[cell_of_row w6 b 6 _ _ (0,0) hp6,←uh HE10];rfl
   ·have:=new_cells (w6.setCell ⟨b,6,none⟩ (.slice (some ⟨gb,0,none⟩) (R2.length+1) cb)) (elF m) tF
    rw[set_size] at this
    exact this
   have hfitP:=fit_push (m:=m) (uh HFT) rfl
   have hap:=hfinA.apF howV (uh HB2) hg8 hst8 hfitP
   refine ⟨_,_,hap,by rw[List.length_append,List.length_singleton];omega, ?_,fun g e=> ?_,fit_next hfitP (fun x hx=>hfinA.rf.2.2 x hx) hl8,(uh HLK).trans (hlkV.trans ?_),uh HBA⟩
   ·rw[flat_succ] at h8
    exact h8
   ·have e2:g8=g:=Option.some.inj e
    subst e2
    rcases hl8 with e3|e3
    ·exact uh HB2 _ e3
    have:=hfinA.only.size;omega
   refine LK.of ((Only.refl _ _).grown hg8 (fun k _ e=>e)) (fun g cur hg hS=> ?_)
   obtain ⟨cur2,hg2⟩:=ownk_heap howV hS
   exact kinds hg hg2 (by decide)
  clear HL HF HRT HE9 HE10 e9 e10 HOL HB2 HFT HLK
  go_wp2_with (at_builtin;first
   |(refine wpList_append_lies _ rfl (.tmp 28) (.tmp 30) 73 rfl 0 tFs i0 (.slice none 0 0) 1 24 Tryz.underlying73 hi0 hz0 hz1 hz2 rfl (by omega) (.slice a9 R2.length z9) R2.length (R2.map (·.1)) rfl (uh HOW) ⟨wr.heap.size,0,none⟩ 1 1 [.slice ao2 (n+j) cap2] rfl rfl (uh HNW) (by intro u hu;simp at hu;subst hu;rfl) (by omega) (by unfold maxLen;omega) (by omega) (by omega) (wr.heap.size+1) (uh HSZ) ?_;intro ga ca w3 h3 hg3 hl3 hlt3;obtain ⟨q9,q10,x9,x10,hox,hnx⟩:=uh HMID ga ca w3 hg3;have HOX:=hide hox;have HNX:=hide hnx;have HEND2:=hide (fun gb cb w6=>uh HEND ga ca gb cb w3 w6 h3 hg3 hl3);clear h3 hg3 hl3 hlt3 c9 f9 hox hnx)
   |(refine wpList_append_lies _ rfl (.tmp 38) (.tmp 40) 45 rfl 0 9 j0 (.string ⟨#[]⟩) 1 16 Tryz.underlying45 hj0 hy0 hy1 hy2 rfl (by omega) (.slice a10 R2.length z10) R2.length _ rfl (uh HOX) ⟨w3.heap.size,0,none⟩ 1 1 [.string m] rfl rfl (uh HNX) (by intro u hu;simp at hu;subst hu;rfl) (by omega) (by unfold maxLen;omega) (by omega) (by omega) (w3.heap.size+1) (by rw[World.size_alloc,set_size]) ?_;intro gb cb w6 h6 hg6 hl6 hlt6;obtain ⟨q10b,x10b,hoz,hnz,hnext⟩:=uh HEND2 gb cb w6 h6 hg6 hl6;have HOZ:=hide hoz;have HNZ:=hide hnz;have HNEXT:=hide hnext;clear h6 hg6 hl6 hlt6 hoz hnz hnext q9 q10 x9 x10)
   |(refine wpList_append_stay rfl (.tmp 44) (.tmp 47) 41 rfl tF t0 (.agg #[.string ⟨#[]⟩,.string ⟨#[]⟩]) 2 32 Tryz.underlying41 ht0 hx0 hx1 hx2 rfl (by omega) (.slice ao2 (n+j) cap2) (n+j) _ rfl (uh HOZ) ⟨w6.heap.size,0,none⟩ 1 1 (elF m) rfl rfl (uh HNZ) (by intro u hu;simp[elF] at hu;rcases hu with rfl|rfl<;>rfl) (by omega) (by unfold maxLen;omega) (by omega) ?_;intro g8 c8 w8 h8 hg8 hl8 hst8;have HX:=hide (uh HNEXT g8 c8 w8 h8 hg8 hl8 hst8);clear h8 hg8 hl8 hst8 q10b x10b))
  go_roundw
  ·exact ⟨j+1,some ⟨g8,0,none⟩,c8,by omega,by go_num,by congr 1,HX⟩
  case measure=>simp[intOf];omega
 have hj4I:¬(j:Int)<4:=by omega
 go_wp2_with fail
 go_end0
 exact ⟨rfl,uh HLK,Exists.intro _ (Exists.intro _ ⟨uh HL,uh HBA⟩)⟩
theorem leftOfC{w1 wq:World}{b c:Nat}{s:WS}{RF RL RT:List (Value×ByteArray)}(hc:c≤100000000)(w:World)(h:WLs w1 w b c s RF RL RT)(ao:Option Addr)(n cap:Nat)(hn:n≤1500000)(xs:List Value)(hv:w.ownsRow 0 tL 2 (.slice ao n cap) n xs)(hb: ∀g,(Value.slice ao n cap).ownBlock=some g→wq.heap.size≤g∧w1.heap.size≤g)(hq: ∀x,x∈RL→Full wq tL 2 elL x.1 x.2):
 Calls Tryz.prog 117 #[.pointer (some ⟨b,0,none⟩),.slice ao n cap] w fun r w' =>r=.returned (.tuple #[])∧LK tF 2 w w' ∧PosL w1 w' b (c+1) s.base RF RT:=by
 have H1:=hide (markC s c (by omega) b w h.hp)
 have HL:=hide h
 have hfT:=h.few.2.1
 have HQ:=hide hq
 have HV:=hide (fun m=>ParC.start (el:=elL) hv hb m)
 have HB:=hide hb
 clear h hq hv hb
 go_in
 go_wp2_with fail
 refine (uh H1).mono ?_
 rintro r w2 ⟨m,rfl,ho2,hp2⟩
 have HL2:=hide ((uh HL).rec_ ho2 hp2 (by omega) rfl rfl rfl rfl rfl rfl)
 have HP2:=hide ((uh HV m).kept ho2 (fun g cur hg e=>kinds (e ▸ hg) (uh HL).hp (by decide)))
 have HO2:Hid (LK tF 2 w w2):=LK.of ho2 (fun g cur hg e=>kinds (e ▸ hg) (uh HL).hp (by decide))
 clear ho2 hp2 H1 HL HV
 go_wp2_with fail
 go_loopw [5] (fun x wr=> ∃i:Nat,i≤n∧x=.int .i64 i∧Hid (WLs w1 wr b (c+1) s RF RL RT)∧Hid (ParC wq w1 wr tL 2 elL ao n cap m i)∧Hid (LK tF 2 w wr)) (fun x _=>n- (intOf x).toNat)
 ·exact ⟨0,by omega,rfl,HL2,HP2,HO2⟩
 clear HL2 HP2 HO2
 obtain ⟨i,hi,rfl,HL,HP,HO⟩:=hrel
 by_cases hil:i<n
 ·have hilI:(i:Int)<(n:Int):=by omega
  obtain ⟨g,cur,ha,hg,hnc,hcm,hcs,hgq,hg1,hfil⟩: ∃g cur,ao=some ⟨g,0,none⟩∧wr.heap[g]? =some (.cells cur tL (0,0))∧n≤cap∧cap≤maxLen∧cur.size=cap*2∧wq.heap.size≤g∧w1.heap.size≤g∧ ∀p,p<i→ ∀j u,(elL m)[j]? =some u→cur[p*2+j]? =some u:=by
   rcases uh HP with h|h
   ·omega
   exact h
  have hlt3:i*2+2≤cur.size:=by omega
  obtain ⟨y0,k0⟩: ∃y0,wr.cell? ⟨g,i*2,none⟩=some y0:=⟨cur[i*2]'(by omega),by rw[cell_of_row wr g _ _ _ (0,0) hg];exact Array.getElem?_eq_getElem _⟩
  obtain ⟨y1,k1⟩: ∃y1,wr.cell? ⟨g,i*2+1,none⟩=some y1:=⟨cur[i*2+1]'(by omega),by rw[cell_of_row wr g _ _ _ (0,0) hg];exact Array.getElem?_eq_getElem _⟩
  have f0:=frozen_of_row wr g (i*2) _ _ hg
  have f1:=frozen_of_row wr g (i*2+1) _ _ hg
  obtain ⟨cur',hg',hs',hlow,e0,e1,hon⟩:=write2 hg (i*2) (.string m) (.int .i64 0) hlt3
  have HL2:=hide ((uh HL).wrL hg hon (uh HQ) hgq hg1)
  have HP2:=hide (ParC.next (wq:=wq) (w1:=w1) (el:=elL) (m:=m) rfl ha hg' hnc hcm hcs hs' hgq hg1 hfil hlow e0 e1)
  have HO2:Hid (LK tF 2 w _):=(uh HO).trans (LK.of hon (fun g2 cur2 hg2 e=>kinds hg (e ▸ hg2) (by decide)))
  subst ha
  clear hfil hg hg' hs' hlow e0 e1 hon hnc hcm hcs HL HP HO
  go_wp2_with fail
  go_roundw
  ·exact ⟨i+1,by omega,by go_num,HL2,HP2,HO2⟩
  case measure=>simp[intOf];omega
 have hilI:¬(i:Int)<(n:Int):=by omega
 have hie:i=n:=by omega
 have HW:Hid (wr.ownsRow 0 tL 2 (.slice ao n cap) n ((List.replicate n (elL m)).flatten)):=by rw[hie] at HP;exact (uh HP).own rfl (by omega)
 have HI0:Hid (Inv2L w1 w wr b c n 0 m RF RL RT (.slice ao n cap) s.base):=⟨s,RL,uh HL,by omega,uh HW,fun g e=>(uh HB g e).2,fit_start (uh HQ) (fun g e=>(uh HB g e).1) n,uh HO,rfl⟩
 clear hie HP HQ HL HW HO HB
 go_wp2_with fail
 go_loopw [1,6] (fun l x wr=> ∃(j:Nat) (ao2:Option Addr) (cap2:Nat),j≤4∧x=.int .i64 j∧l=.slice ao2 (n+j) cap2∧Hid (Inv2L w1 w wr b c n j m RF RL RT (.slice ao2 (n+j) cap2) s.base)) (fun _ x _=>4- (intOf x).toNat)
 ·exact ⟨0,ao,cap,by omega,rfl,rfl,HI0⟩
 clear HI0
 obtain ⟨j,ao2,cap2,hj,rfl,rfl,HI⟩:=hrel
 obtain ⟨s2,R2,hl2,hR2,how2,hb2,hft2,hlk2,hba2⟩:=uh HI
 have HBA:=hide hba2
 have HL:=hide hl2
 have HOL:=hide how2
 have HB2:=hide hb2
 have HFT:=hide hft2
 have HLK:=hide hlk2
 clear hl2 how2 hb2 hft2 hlk2 hba2 HI
 by_cases hj4:j<4
 ·have hj4I:(j:Int)<4:=by omega
  have HF:Hid (Full wr tL 2 elL (.slice ao2 (n+j) cap2) m):=own_full rfl (by omega) (by omega) (uh HOL)
  have c9:wr.cell? ⟨b,7,none⟩=some s2.r7:=by rw[cell_of_row wr b 7 _ _ (0,0) (uh HL).hp];rfl
  have f9:=frozen_of_row wr b 7 _ _ (uh HL).hp
  obtain ⟨a9,z9,e9⟩:=row_form (uh HL).rl.1
  obtain ⟨a10,z10,e10⟩:=row_form (uh HL).rl.2.1
  have HE9:=hide e9
  have HE10:=hide e10
  rw[e9] at c9
  obtain ⟨i0,hi0,hz0,hz1,hz2⟩:=info_parts infoLs
  obtain ⟨j0,hj0,hy0,hy1,hy2⟩:=info_parts infoS9
  obtain ⟨t0,ht0,hx0,hx1,hx2⟩:=info_parts infoL2
  have HOW:Hid ((wr.alloc (.cells #[.slice ao2 (n+j) cap2] tLs)).ownsRow 0 tLs 1 (.slice a9 R2.length z9) R2.length (R2.map (·.1))):=by rw[←uh HE9];exact ownk_kept (uh HL).rl.1 ((Only.refl (fun _=>False) wr).alloc _) (fun _ _ x=>x)
  have HNW:=hide (new_cells wr [.slice ao2 (n+j) cap2] tLs)
  have HSZ:Hid ((wr.alloc (.cells #[.slice ao2 (n+j) cap2] tLs)).heap.size=wr.heap.size+1):=by unfold Hid;rw[World.size_alloc]
  have HRT:Hid (R2.length+1≤4*(c+1)):=by unfold Hid;omega
  have HMID:Hid (∀ga ca w3,(wr.alloc (.cells #[.slice ao2 (n+j) cap2] tLs)).grownBy w3 (Value.slice a9 R2.length z9).ownBlock→w3.cell? ⟨b,7,none⟩=some (.slice a9 R2.length z9)∧w3.cell? ⟨b,8,none⟩=some (.slice a10 R2.length z10)∧w3.frozen? ⟨b,7,none⟩=false∧w3.frozen? ⟨b,8,none⟩=false∧((w3.setCell ⟨b,7,none⟩ (.slice (some ⟨ga,0,none⟩) (R2.length+1) ca)).alloc (.cells #[.string m] 9)).ownsRow 0 9 1 (.slice a10 R2.length z10) R2.length (R2.map fun x=>Value.string x.2)∧ ∀j u,([.string m]:List Value)[j]? =some u→((w3.setCell ⟨b,7,none⟩ (.slice (some ⟨ga,0,none⟩) (R2.length+1) ca)).alloc (.cells #[.string m] 9)).cell? ((⟨w3.heap.size,0,none⟩:Addr).add j)=some u):=fun ga ca w3 hg3=>by
   rw[←uh HE9] at hg3
   obtain ⟨ho3,hp3⟩:=(uh HL).oneL hg3
   refine ⟨?_, ?_,frozen_of_row w3 b 7 _ _ hp3,frozen_of_row w3 b 8 _ _ hp3, ?_, ?_⟩
   ·rw[cell_of_row w3 b 7 _ _ (0,0) hp3,←uh HE9];rfl
   ·rw[cell_of_row w3 b 8 _ _ (0,0) hp3,←uh HE10];rfl
   ·rw[←uh HE10];exact (uh HL).twoL ho3 _ _
   have:=new_cells (w3.setCell ⟨b,7,none⟩ (.slice (some ⟨ga,0,none⟩) (R2.length+1) ca)) [.string m] 9
   rw[set_size] at this
   exact this
  have HEND:Hid (∀ga ca gb cb w3 w6,w3.ownsRow 0 tLs 1 (.slice (some ⟨ga,0,none⟩) (R2.length+1) ca) (R2.length+1) (R2.map (·.1)++[.slice ao2 (n+j) cap2])→(wr.alloc (.cells #[.slice ao2 (n+j) cap2] tLs)).grownBy w3 (Value.slice a9 R2.length z9).ownBlock→((Value.slice a9 R2.length z9).ownBlock=some ga∨ga=wr.heap.size+1)→w6.ownsRow 0 9 1 (.slice (some ⟨gb,0,none⟩) (R2.length+1) cb) (R2.length+1) (R2.map (fun x=>Value.string x.2)++[.string m])→((w3.setCell ⟨b,7,none⟩ (.slice (some ⟨ga,0,none⟩) (R2.length+1) ca)).alloc (.cells #[.string m] 9)).grownBy w6 (Value.slice a10 R2.length z10).ownBlock→((Value.slice a10 R2.length z10).ownBlock=some gb∨gb=w3.heap.size+1)→w6.cell? ⟨b,8,none⟩=some (.slice a10 R2.length z10)∧w6.frozen? ⟨b,8,none⟩=false∧((w6.setCell ⟨b,8,none⟩ (.slice (some ⟨gb,0,none⟩) (R2.length+1) cb)).alloc (.cells #[.string m,(.int .i64 0)] tL)).ownsRow 0 tL 2 (.slice ao2 (n+j) cap2) (n+j) ((List.replicate (n+j) (elL m)).flatten)∧(∀j u,(elL m)[j]? =some u→((w6.setCell ⟨b,8,none⟩ (.slice (some ⟨gb,0,none⟩) (R2.length+1) cb)).alloc (.cells #[.string m,(.int .i64 0)] tL)).cell? ((⟨w6.heap.size,0,none⟩:Addr).add j)=some u)∧ ∀g8 c8 w8,w8.ownsRow 0 tL 2 (.slice (some ⟨g8,0,none⟩) (n+j+1) c8) (n+j+1) ((List.replicate (n+j) (elL m)).flatten++elL m)→((w6.setCell ⟨b,8,none⟩ (.slice (some ⟨gb,0,none⟩) (R2.length+1) cb)).alloc (.cells #[.string m,(.int .i64 0)] tL)).grownBy w8 (Value.slice ao2 (n+j) cap2).ownBlock→((Value.slice ao2 (n+j) cap2).ownBlock=some g8∨g8=((w6.setCell ⟨b,8,none⟩ (.slice (some ⟨gb,0,none⟩) (R2.length+1) cb)).alloc (.cells #[.string m,(.int .i64 0)] tL)).heap.size)→Stays ((w6.setCell ⟨b,8,none⟩ (.slice (some ⟨gb,0,none⟩) (R2.length+1) cb)).alloc (.cells #[.string m,(.int .i64 0)] tL)) w8 (.slice ao2 (n+j) cap2) ((n+j)*2)→Inv2L w1 w w8 b c n (j+1) m RF RL RT (.slice (some ⟨g8,0,none⟩) (n+(j+1)) c8) s.base):=fun ga ca gb cb w3 w6 h3 hg3 hl3 h6 hg6 hl6=>by
   rw[←uh HE9] at hg3 hl3
   rw[←uh HE10] at hg6 hl6
   obtain ⟨hp6,hfin,hfo⟩:=(uh HL).endL (uh HF) (uh HRT) h3 hg3 hl3 h6 hg6 hl6
   have hno: ∀{e:TypeId},e≠wT→e≠tLs→e≠9→ ∀g cur,wr.heap[g]? =some (.cells cur e (0,0))→¬(g=b∨s2.r7.ownBlock=some g∨s2.r8.ownBlock=some g):=fun h1 h2 h3 g cur hg hS=>by
    rcases hS with hS|hS|hS
    ·subst hS;exact kinds hg (uh HL).hp h1
    ·obtain ⟨cur2,hg2⟩:=ownk_heap (uh HL).rl.1 hS
     exact kinds hg hg2 h2
    obtain ⟨cur2,hg2⟩:=ownk_heap (uh HL).rl.2.1 hS
    exact kinds hg hg2 h3
   have howV:=ownk_kept (uh HOL) (hfo.alloc (.cells #[.string m,(.int .i64 0)] tL)) (fun g hg hS=>by
    obtain ⟨cur,hg2⟩:=ownk_heap (uh HOL) hg
    exact hno (by decide) (by decide) (by decide) g cur hg2 hS)
   have hlkV:LK tF 2 wr ((w6.setCell ⟨b,8,none⟩ (.slice (some ⟨gb,0,none⟩) (R2.length+1) cb)).alloc (.cells #[.string m,(.int .i64 0)] tL)):=LK.of (hfo.alloc _) (hno (by decide) (by decide) (by decide))
   have hfinA:=hfin.old ((Only.refl (fun _=>False) (w6.setCell ⟨b,8,none⟩ (.slice (some ⟨gb,0,none⟩) (R2.length+1) cb))).alloc (.cells #[.string m,(.int .i64 0)] tL))
   refine ⟨?_,frozen_of_row w6 b 8 _ _ hp6,howV, ?_,fun g8 c8 w8 h8 hg8 hl8 hst8=> ?_⟩
   ·rw[cell_of_row w6 b 8 _ _ (0,0) hp6,←uh HE10];rfl
   ·have:=new_cells (w6.setCell ⟨b,8,none⟩ (.slice (some ⟨gb,0,none⟩) (R2.length+1) cb)) (elL m) tL
    rw[set_size] at this
    exact this
   have hfitP:=fit_push (m:=m) (uh HFT) rfl
   have hap:=hfinA.apL howV (uh HB2) hg8 hst8 hfitP
   refine ⟨_,_,hap,by rw[List.length_append,List.length_singleton];omega, ?_,fun g e=> ?_,fit_next hfitP (fun x hx=>hfinA.rl.2.2 x hx) hl8,(uh HLK).trans (hlkV.trans ?_),uh HBA⟩
   ·rw[flat_succ] at h8
    exact h8
   ·have e2:g8=g:=Option.some.inj e
    subst e2
    rcases hl8 with e3|e3
    ·exact uh HB2 _ e3
    have:=hfinA.only.size;omega
   refine LK.of ((Only.refl _ _).grown hg8 (fun k _ e=>e)) (fun g cur hg hS=> ?_)
   obtain ⟨cur2,hg2⟩:=ownk_heap howV hS
   exact kinds hg hg2 (by decide)
  clear HL HF HRT HE9 HE10 e9 e10 HOL HB2 HFT HLK
  go_wp2_with (at_builtin;first
   |(refine wpList_append_lies _ rfl (.tmp 28) (.tmp 30) 74 rfl 0 tLs i0 (.slice none 0 0) 1 24 Tryz.underlying74 hi0 hz0 hz1 hz2 rfl (by omega) (.slice a9 R2.length z9) R2.length (R2.map (·.1)) rfl (uh HOW) ⟨wr.heap.size,0,none⟩ 1 1 [.slice ao2 (n+j) cap2] rfl rfl (uh HNW) (by intro u hu;simp at hu;subst hu;rfl) (by omega) (by unfold maxLen;omega) (by omega) (by omega) (wr.heap.size+1) (uh HSZ) ?_;intro ga ca w3 h3 hg3 hl3 hlt3;obtain ⟨q9,q10,x9,x10,hox,hnx⟩:=uh HMID ga ca w3 hg3;have HOX:=hide hox;have HNX:=hide hnx;have HEND2:=hide (fun gb cb w6=>uh HEND ga ca gb cb w3 w6 h3 hg3 hl3);clear h3 hg3 hl3 hlt3 c9 f9 hox hnx)
   |(refine wpList_append_lies _ rfl (.tmp 38) (.tmp 40) 45 rfl 0 9 j0 (.string ⟨#[]⟩) 1 16 Tryz.underlying45 hj0 hy0 hy1 hy2 rfl (by omega) (.slice a10 R2.length z10) R2.length _ rfl (uh HOX) ⟨w3.heap.size,0,none⟩ 1 1 [.string m] rfl rfl (uh HNX) (by intro u hu;simp at hu;subst hu;rfl) (by omega) (by unfold maxLen;omega) (by omega) (by omega) (w3.heap.size+1) (by rw[World.size_alloc,set_size]) ?_;intro gb cb w6 h6 hg6 hl6 hlt6;obtain ⟨q10b,x10b,hoz,hnz,hnext⟩:=uh HEND2 gb cb w6 h6 hg6 hl6;have HOZ:=hide hoz;have HNZ:=hide hnz;have HNEXT:=hide hnext;clear h6 hg6 hl6 hlt6 hoz hnz hnext q9 q10 x9 x10)
   |(refine wpList_append_stay rfl (.tmp 44) (.tmp 47) 42 rfl tL t0 (.agg #[.string ⟨#[]⟩,.int .i64 0]) 2 24 Tryz.underlying42 ht0 hx0 hx1 hx2 rfl (by omega) (.slice ao2 (n+j) cap2) (n+j) _ rfl (uh HOZ) ⟨w6.heap.size,0,none⟩ 1 1 (elL m) rfl rfl (uh HNZ) (by intro u hu;simp[elL] at hu;rcases hu with rfl|rfl<;>rfl) (by omega) (by unfold maxLen;omega) (by omega) ?_;intro g8 c8 w8 h8 hg8 hl8 hst8;have HX:=hide (uh HNEXT g8 c8 w8 h8 hg8 hl8 hst8);clear h8 hg8 hl8 hst8 q10b x10b))
  go_roundw
  ·exact ⟨j+1,some ⟨g8,0,none⟩,c8,by omega,by go_num,by congr 1,HX⟩
  case measure=>simp[intOf];omega
 have hj4I:¬(j:Int)<4:=by omega
 go_wp2_with fail
 go_end0
 exact ⟨rfl,uh HLK,Exists.intro _ (Exists.intro _ ⟨uh HL,uh HBA⟩)⟩
end Go.Proofs.YtndfmgdhiallpaaGreatDoor
