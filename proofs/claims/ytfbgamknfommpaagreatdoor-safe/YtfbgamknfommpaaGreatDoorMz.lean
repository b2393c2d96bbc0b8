import Derived.Test.YtfbgamknfommpaaGreatDoorMd
namespace Go.Proofs.YtfbgamknfommpaaGreatDoor
open Go.RowKit
def opV(k a c:Int)(s t:ByteArray)(tr fi:Value):Array Value:= #[.int .i64 k,.int .i64 a,.int .i64 c,.string s,.string t,tr,fi]
open Go.RowKit Go.Maps
def OpsAt(w:World)(a:Addr)(n:Nat):Prop:= ∀i,i<n→ ∃k p q s t x y,s.size≤140737488355328∧(opV k p q s t x y).all (·.oneCell')=true∧ ∀j,j<7→w.cell? (a.add (i*7+j))=(opV k p q s t x y)[j]?
theorem OpsAt.old{w w' :World}{a:Addr}{n:Nat}(h:OpsAt w a n)(ho:Old w w'):OpsAt w' a n:=by
 intro i hi
 obtain ⟨k,p,q,s,t,x,y,h1,h2,h3⟩:=h i hi
 refine ⟨k,p,q,s,t,x,y,h1,h2,fun j hj=> ?_⟩
 have h4:=h3 j hj
 have hl:(a.add (i*7+j)).block<w.heap.size:=by
  rcases Nat.lt_or_ge (a.add (i*7+j)).block w.heap.size with hlt|hge
  ·exact hlt
  have:w.cell? (a.add (i*7+j))=none:=by simp[World.cell?,Array.getElem?_eq_none hge]
  rw[this] at h4
  have:j<(opV k p q s t x y).size:=hj
  rw[Array.getElem?_eq_getElem this] at h4
  cases h4
 rw[ho.cell hl (fun x=>x)]
 exact h4
theorem OpsAt.only{S:Nat→Prop}{w w' :World}{g n:Nat}(h:OpsAt w ⟨g,0,none⟩ n)(ho:Only S w w')(hs:¬S g):OpsAt w' ⟨g,0,none⟩ n:=by
 intro i hi
 obtain ⟨k,p,q,s,t,x,y,h1,h2,h3⟩:=h i hi
 refine ⟨k,p,q,s,t,x,y,h1,h2,fun j hj=> ?_⟩
 have h4:=h3 j hj
 rw[Addr.add_lit] at h4 ⊢
 have hl:g<w.heap.size:=by
  rcases Nat.lt_or_ge g w.heap.size with hlt|hge
  ·exact hlt
  have:w.cell? ⟨g,0+(i*7+j),none⟩=none:=by simp[World.cell?,Array.getElem?_eq_none hge]
  rw[this] at h4
  have:j<(opV k p q s t x y).size:=hj
  rw[Array.getElem?_eq_getElem this] at h4
  cases h4
 rw[ho.cell (p:=⟨g,0+(i*7+j),none⟩) hl hs]
 exact h4
end Go.Proofs.YtfbgamknfommpaaGreatDoor
