import Derived.Test.YtndfmgdhiallpaaGreatDoorJf
namespace Go.Proofs.YtndfmgdhiallpaaGreatDoor
open Go.RowKit
theorem setRow_cell_low{w:World}{g n:Nat}{cur:Array Value}{e:TypeId}{r:Nat×Nat}(hg:w.heap[g]? =some (.cells cur e r))(news rest:List Value)(hn:n≤cur.size)(b j:Nat)(hj:b=g→j<n):
 (w.setRow g (cur.toList.take n++news++rest).toArray).cell? ⟨b,j,none⟩=w.cell? ⟨b,j,none⟩:=by
 by_cases e1:b=g
 ·subst e1
  have h2:=setRow_heap w b cur (cur.toList.take n++news++rest).toArray e r hg
  rw[cell_of_row _ b j _ _ _ h2,cell_of_row w b j _ _ _ hg]
  have hj' :=hj rfl
  have hlen:j<(cur.toList.take n).length:=by rw[List.length_take,Array.length_toList];omega
  rw[List.getElem?_toArray,List.append_assoc,List.getElem?_append_left hlen,List.getElem?_take,if_pos hj',Array.getElem?_toList]
 exact World.cell?_of_block (w:=w) (setRow_other w g b _ e1)
theorem run_append_keep{P:Program}(w:World)(t ty:TypeId)(base:Nat)(e:TypeId)(i:TypeInfo)(z:Value)(bytes:Nat)(ht:P.underlying t=some (.slice e))(hi:P.info? e=some i)(hz:i.zero=some z)
 (hsize:i.size=1)(hby:i.bytes=bytes)(hzs:z.cells.size=1)(v:Value)(n:Nat)(xs:List Value)(hown:w.ownsRow base e 1 v n xs)
 (ad:Addr)(m c:Nat)(news:List Value)(hl:news.length=m*1)(hnews: ∀j u,news[j]? =some u→w.cell? (ad.add j)=some u)(h1: ∀u∈news,u.oneCell' =true)
 (hm:0<m)(h63:n+m≤maxLen)(hbytes:(n+m)*bytes≤140737488355328)(hbase:base≤w.heap.size)(H:Nat)(hH:w.heap.size=H):
 ∃g cap w',(Builtin.append_ #[t,t] ty #[v,.slice (some ad) m c]).run P w=.ok (.slice (some ⟨g,0,none⟩) (n+m) cap) w' ∧
  w'.ownsRow base e 1 (.slice (some ⟨g,0,none⟩) (n+m) cap) (n+m) (xs++news)∧w.grownBy w' v.ownBlock∧(v.ownBlock=some g∨g=H)∧
  ∀b j,b<w.heap.size→(v.ownBlock=some b→j<n)→w'.cell? ⟨b,j,none⟩=w.cell? ⟨b,j,none⟩:=by
 obtain ⟨g,cap,w',hr,h2,h3,h4,_⟩:=run_append_lies (P:=P) w t ty base e i z 1 bytes ht hi hz hsize hby hzs (by omega) v n xs hown ad m c news hl hnews h1 hm h63 hbytes hbase H hH
 refine ⟨g,cap,w',hr,h2,h3,h4,fun b j hb hj=> ?_⟩
 rcases hown.2 with ⟨rfl,_⟩|⟨g0,cap0,cur,rfl,hbg,hg,hnc,hcm,hcs,htake⟩
 ·exact World.cell?_of_block (w:=w) (h3.block b hb (fun h=>by cases h))
 by_cases hroom:n+m≤cap0
 ·have hr2:=run_append_room (P:=P) w t ty e i ht hi g0 n cap0 cur hg ad m c news (by rw[hsize];exact hl) hnews h1 hroom (by rw[hsize];omega)
  rw[hr] at hr2
  injection hr2 with _ hw
  rw[hw,hsize,Nat.mul_one]
  exact setRow_cell_low hg _ _ (by omega) b j (fun e1=>hj (by rw[e1];rfl))
 by_cases e1:b=g0
 ·have hxl:xs.length=n*i.size:=by rw[hsize];exact hown.1
  have hr2:=run_append_grow (P:=P) w t ty e i z ht hi hz ⟨g0,0,none⟩ n cap0 xs hxl (hown.cells (g:=g0) rfl) ad m c news (by rw[hsize];exact hl) hnews (by omega) (by unfold maxLen at h63;omega) (growslice_fits (by omega) (by rw[hby];exact hbytes))
  rw[hr] at hr2
  injection hr2 with _ hw
  rw[hw]
  exact World.cell?_of_block (w:=w) (Go.heap_alloc_old w.drew _ hb)
 exact World.cell?_of_block (w:=w) (h3.block b hb (fun h=>e1 (by injection h)))
end Go.Proofs.YtndfmgdhiallpaaGreatDoor
