import Derived.Test.YtndfmgdhiallpaaGreatDoorJt
set_option maxRecDepth 100000
set_option maxHeartbeats 4000000
namespace Go.Proofs.YtndfmgdhiallpaaGreatDoor
open Go.RowKit Go.Maps
theorem laidNil(p:ByteArray)(w:World):Calls Tryz.prog 89 #[.string p,.slice none 0 0] w fun r w' =>Old w w' ∧r=.returned (.string (strB (laidL p []))):=by
 have HE:Hid (strB (laidL p [])=strB ([]++endL 0 0 0)):=rfl
 have H3:=hide (endA (fun k=>w.heap.size≤k) (.slice none 0 0) [] 0 0 0 (by omega) (by omega) (by omega) (by simp) w (fun k hk=>hk) (Buf.nil _ _))
 go_in
 go_wp2_with fail
 go_loop [5,6,8,13] (fun u5 u6 _ x=>u5=.slice none 0 0∧u6=.slice none 0 0∧x=.int .i64 0) (fun _ _ _ _=>0)
 ·exact ⟨rfl,rfl,rfl⟩
 obtain ⟨rfl,rfl,rfl⟩:=hrel
 go_wp2_with fail
 refine (uh H3).mono ?_
 rintro r w4 ⟨ho4,v4,rfl,ao4,cp4,rfl,hv4,_⟩
 have hcv0:(convert 62 9 (.slice ao4 ([]++endL 0 0 0).length cp4)).run Tryz.prog w4=.ok (.string (strB ([]++endL 0 0 0))) w4:=out_string hv4
 have HO4:Hid (Old w w4):=ho4.mono (fun k hk h=>by omega)
 clear H3 ho4 hv4
 generalize ([]++endL 0 0 0:List UInt8).length=n at*
 generalize strB ([]++endL 0 0 0)=z at*
 go_wp2_with fail
 go_ret
 exact ⟨HO4,by rw[uh HE];rfl⟩
def ReadPost(w w' :World)(r:Ending):Option (List It)→Prop
 |none=>r=.returned (.tuple #[.slice none 0 0,.bool false])
 |some its=> ∃v,r=.returned (.tuple #[v,.bool true])∧ItemsAt w' (fun k=>w.heap.size≤k) v its
structure RSt (p s:ByteArray) (its:List It) (rest:ByteArray) (n:Nat):Prop where
 go:readGo p (s.size+1) s []=readGo p n rest its
 fuel:rest.size<n
 len:(locsL p its).length+rest.size≤40000
 oks: ∀i∈its,i.ok
 few:its.length≤60
theorem RSt.start{p s:ByteArray}(hs:s.size≤40000):RSt p s [] s (s.size+1):=⟨rfl,by omega,by simpa [locsL] using hs,(fun _ h=>by cases h),by simp⟩
theorem RSt.done{p s rest:ByteArray}{its:List It}{n:Nat}(h:RSt p s its rest n)(hp:Lib.hasPrefix rest.data.toList mkL.data.toList=false):readP p s=if strB (laidL p its)=s then some its else none:=by
 have h1:=h.fuel
 obtain ⟨m,rfl⟩: ∃m,n=m+1:=⟨n- 1,by omega⟩
 unfold readP
 rw[h.go,readGo,if_pos hp]
theorem RSt.fail{p s rest:ByteArray}{its:List It}{n:Nat}(h:RSt p s its rest n)(hp:Lib.hasPrefix rest.data.toList mkL.data.toList=true)(hi:itemR p rest=none∨ ∃it b,itemR p rest=some (it,b)∧badB its it=true):readP p s=none:=by
 have h1:=h.fuel
 obtain ⟨m,rfl⟩: ∃m,n=m+1:=⟨n- 1,by omega⟩
 unfold readP
 rw[h.go,readGo,if_neg (by rw[hp];decide)]
 rcases hi with hi|⟨it,b,hi,hb⟩
 ·rw[hi]
 rw[hi];simp only[hb,if_true]
theorem RSt.next{p s rest:ByteArray}{its:List It}{n:Nat}(h:RSt p s its rest n)(hp:Lib.hasPrefix rest.data.toList mkL.data.toList=true){it:It}{b:ByteArray}(hi:itemR p rest=some (it,b))(hb:badB its it=false): ∃m,RSt p s (its++[it]) b m∧b.size<rest.size:=by
 have h1:=h.fuel
 obtain ⟨m,rfl⟩: ∃m,n=m+1:=⟨n- 1,by omega⟩
 have hl:=h.len
 obtain ⟨f1,f2,f3⟩:=itemR_facts hi (by omega)
 have h60:=h.few
 refine ⟨m,⟨?_,by omega, ?_, ?_, ?_⟩,by omega⟩
 ·rw[h.go,readGo,if_neg (by rw[hp];decide),hi];simp only[hb,Bool.false_eq_true,if_false]
 ·have:locsL p (its++[it])=locsL p its++localL p it:=by simp[locsL]
  rw[this,List.length_append];omega
 ·intro i hi
  rcases List.mem_append.1 hi with h2|h2
  ·exact h.oks i h2
  rw[List.mem_singleton] at h2;subst h2;exact f1
 unfold badB at hb
 have:its.length≠60:=by intro e;rw[e] at hb;simp at hb
 rw[List.length_append];simp;omega
theorem readA(p s:ByteArray)(hp:p.size≤1000)(hs:s.size≤40000)(w:World):Calls Tryz.prog 90 #[.string p,.string s] w fun r w' =>Old w w' ∧ReadPost w w' r (readP p s):=by
 obtain ⟨i0,hi0,hz0,hz1,hz2⟩:=info_parts infoItems
 have HP:=hide (fun x W=>Tryz.strings_HasPrefix x mkL W)
 have HR0:=hide (RSt.start (p:=p) hs)
 go_in
 go_wp2_with fail
 go_loopw [6,7,8,9,10] (fun u t _ _ _ wr=> ∃(its:List It) (rest:ByteArray) (n:Nat),t=.string rest∧Hid (Old w wr)∧Hid (ItemsAt wr (fun k=>w.heap.size≤k) u its)∧Hid (RSt p s its rest n)∧Hid (its=[]→u=.slice none 0 0)) (fun _ t _ _ _ _=>strSz t)
 ·exact ⟨[],s,s.size+1,rfl,Only.refl _ w,⟨World.ownsRow_nil w 0 _ 5,fun b hb=>by cases hb⟩,HR0,fun _=>rfl⟩
 obtain ⟨its,rest,n,rfl,HO,HI,HR,HN⟩:=hrel
 clear HR0
 have hrl:rest.size≤40000:=by have:=(uh HR).len;omega
 have h60:=(uh HR).few
 have HP1:=hide (fun W=>uh HP rest W)
 cases hpf:Lib.hasPrefix rest.data.toList mkL.data.toList with
 |false=>
  rw[hpf] at HP1
  have HRD:=hide ((uh HR).done hpf)
  have H2:Hid (Calls Tryz.prog 89 #[.string p,u6] wr fun r w' =>Old wr w' ∧r=.returned (.string (strB (laidL p its)))):=by
   by_cases h0:0<its.length
   ·exact laidA _ p u6 its (laidOk_of hp (uh HR).oks h0 h60 (by have:=(uh HR).len;omega)) wr (uh HI)
   have he:its=[]:=List.eq_nil_of_length_eq_zero (by omega)
   subst he
   have hu:=uh HN rfl
   subst hu
   exact laidNil p wr
  have HZS:=hide (eqS (strB (laidL p its)) s)
  by_cases he:strB (laidL p its)=s
  ·rw[if_pos he] at HRD
   rw[he] at H2
   go_wp2_with fail
   refine (uh HP1 _).mono ?_
   rintro r w1 ⟨rfl,rfl⟩
   go_wp2_with fail
   refine (uh H2).mono ?_
   rintro r w2 ⟨ho2,rfl⟩
   have HO2:=hide (Only.trans (uh HO) ho2)
   have HI2:=hide ((uh HI).kept ho2 (fun _ _ x=>x))
   clear ho2 H2
   go_wp2_with fail
   go_ret2
   exact ⟨HO2,by rw[uh HRD];exact ⟨_,rfl,HI2⟩⟩
  rw[if_neg he] at HRD
  have hz:=uh HZS
  rw[decide_eq_false he] at hz
  clear he HZS
  generalize strB (laidL p its)=z at*
  go_wp2_with fail
  refine (uh HP1 _).mono ?_
  rintro r w1 ⟨rfl,rfl⟩
  go_wp2_with fail
  refine (uh H2).mono ?_
  rintro r w2 ⟨ho2,rfl⟩
  have HO2:=hide (Only.trans (uh HO) ho2)
  clear ho2 H2
  go_wp2_with fail
  go_ret2
  exact ⟨HO2,by rw[uh HRD];rfl⟩
 |true=>
  rw[hpf] at HP1
  cases hit:itemR p rest with
  |none=>
   have HRF:=hide ((uh HR).fail hpf (.inl hit))
   have H1:=hide (itemR_none hit hrl wr)
   clear hit hpf
   go_wp2_with fail
   refine (uh HP1 _).mono ?_
   rintro r w1 ⟨rfl,rfl⟩
   go_wp2_with fail
   refine (uh H1).mono ?_
   rintro r w2 ⟨rfl,ho2⟩
   have HO2:Hid (∀o k,Old w ((w2.alloc o).drewN k)):=fun o k=>((Only.trans (uh HO) ho2).alloc o).drewN k
   clear ho2
   go_wp2_with fail
   go_quiet (fail)
   go_wp2_with fail
   go_ret2
   exact ⟨uh HO2 _ _,by rw[uh HRF];rfl⟩
  |some q=>
   obtain ⟨it,b⟩:=q
   have H1:=hide (itemR_some hit hrl wr)
   obtain ⟨nm,wy,ck,sz,pk⟩:=it
   simp only[It.v] at H1
   cases hbad:badB its ⟨nm,wy,ck,sz,pk⟩ with
   |true=>
    have HRF:=hide ((uh HR).fail hpf (.inr ⟨_,_,hit,hbad⟩))
    unfold badB at hbad
    by_cases h60e:its.length=60
    ·have h60I:(its.length:Int)=60:=by omega
     obtain ⟨ao,cp,rfl⟩: ∃ao cp,u6=.slice ao its.length cp:=by
      obtain ⟨⟨_,⟨rfl,hz⟩|⟨b',c',cur',rfl,_⟩⟩,_⟩:=uh HI
      ·rw[hz];exact ⟨none,0,rfl⟩
      exact ⟨_,_,rfl⟩
     clear hit hpf hbad h60e
     go_wp2_with fail
     refine (uh HP1 _).mono ?_
     rintro r w1 ⟨rfl,rfl⟩
     go_wp2_with fail
     refine (uh H1).mono ?_
     rintro r w2 ⟨rfl,ho2⟩
     have hA:Old w2 (w2.alloc (.cells #[.string nm,.int .u32 (wy:Int),.int .u32 (ck:Int),.int .u32 (sz:Int),.string pk] 131)):=(Only.refl _ w2).alloc _
     have HI2:Hid (ItAt (w2.alloc (.cells #[.string nm,.int .u32 (wy:Int),.int .u32 (ck:Int),.int .u32 (sz:Int),.string pk] 131)) w2.heap.size ⟨nm,wy,ck,sz,pk⟩):=Go.heap_alloc_new w2 _
     have HOW2:=hide (Only.trans ho2 hA)
     clear hA ho2
     go_wp2_with fail
     generalize w2.alloc (.cells #[.string nm,.int .u32 (wy:Int),.int .u32 (ck:Int),.int .u32 (sz:Int),.string pk] 131)=W at*
     go_quiet (fail)
     go_wp2_with fail
     go_ret2
     exact ⟨(Only.trans (uh HO) (uh HOW2)).drewN _,by rw[uh HRF];rfl⟩
    have h60J:¬(its.length:Int)=60:=by omega
    have hb2:(its.length==60)=false:=by rw[beq_eq_false_iff_ne];exact h60e
    rw[hb2,Bool.false_or,Bool.and_eq_true] at hbad
    have h0:0<its.length:=of_decide_eq_true hbad.1
    have hbad:=hbad.2
    obtain ⟨g,cap0,rfl,hgb,cur,hg,hcl⟩:=(uh HI).slice (by omega)
    have hgl:g<wr.heap.size:=(Array.getElem?_eq_some_iff.1 hg).1
    obtain ⟨m0,hm0⟩: ∃m0,its.length- 1=m0:=⟨_,rfl⟩
    have hm1:m0<its.length:=by omega
    have hm0I:(its.length:Int)- 1=(m0:Int):=by omega
    have hm1I:(m0:Int)<(its.length:Int):=by omega
    have hm00:(0:Int)≤(m0:Int):=by omega
    have hm0b:m0≤100:=by omega
    have hm0w:IntKind.i64.wrap (m0:Int)=(m0:Int):=i64_wrap_nat m0 (by omega)
    have h60K:((its.length:Int)==60)=false:=by rw[beq_eq_false_iff_ne];exact h60J
    have hc0:wr.cell? ⟨g,m0*5,none⟩=some (.string (its.getD m0 itD).name):=hcl m0 hm1 0 (by omega)
    have HCL:Hid (∀W',Old wr W' →W'.cell? ⟨g,m0*5,none⟩=some (.string (its.getD m0 itD).name)):=fun W' ho=>(ho.cell (p:=⟨g,m0*5,none⟩) hgl (fun x=>x)).trans hc0
    have h0I:(0:Int)<(its.length:Int):=by omega
    have h0N:0<its.length:=by omega
    rw[hm0] at hbad
    clear hcl hg hgl hc0 hgb hm0
    generalize (its.getD m0 itD).name=lm at*
    have hnl:¬lm.data.toList<nm.data.toList:=by simpa using hbad
    have l1:=lessL nm lm
    have l2:=eqS nm lm
    have hor:(nm.data.toList<lm.data.toList)∨nm=lm:=by
     rcases Classical.em (nm.data.toList<lm.data.toList) with h|h
     ·exact .inl h
     exact .inr (less_total h hnl)
    clear hit hpf hbad hb2 h60e hnl h0
    rcases hor with hlt|heq
    ·rw[decide_eq_true hlt] at l1
     clear hlt l2
     go_wp2_with fail
     refine (uh HP1 _).mono ?_
     rintro r w1 ⟨rfl,rfl⟩
     go_wp2_with fail
     refine (uh H1).mono ?_
     rintro r w2 ⟨rfl,ho2⟩
     have hA:Old w2 (w2.alloc (.cells #[.string nm,.int .u32 (wy:Int),.int .u32 (ck:Int),.int .u32 (sz:Int),.string pk] 131)):=(Only.refl _ w2).alloc _
     have HI2:Hid (ItAt (w2.alloc (.cells #[.string nm,.int .u32 (wy:Int),.int .u32 (ck:Int),.int .u32 (sz:Int),.string pk] 131)) w2.heap.size ⟨nm,wy,ck,sz,pk⟩):=Go.heap_alloc_new w2 _
     have HOW2:=hide (Only.trans ho2 hA)
     clear hA ho2
     have hlc:=uh HCL _ (uh HOW2)
     have hnc:=(uh HI2).cells.1
     go_wp2_with fail
     generalize w2.alloc (.cells #[.string nm,.int .u32 (wy:Int),.int .u32 (ck:Int),.int .u32 (sz:Int),.string pk] 131)=W at*
     go_quiet (fail)
     go_wp2_with fail
     go_ret2
     exact ⟨(Only.trans (uh HO) (uh HOW2)).drewN _,by rw[uh HRF];rfl⟩
    rw[decide_eq_true heq] at l2
    rw[decide_eq_false (by rw[heq];exact List.lt_irrefl _)] at l1
    clear heq
    go_wp2_with fail
    refine (uh HP1 _).mono ?_
    rintro r w1 ⟨rfl,rfl⟩
    go_wp2_with fail
    refine (uh H1).mono ?_
    rintro r w2 ⟨rfl,ho2⟩
    have hA:Old w2 (w2.alloc (.cells #[.string nm,.int .u32 (wy:Int),.int .u32 (ck:Int),.int .u32 (sz:Int),.string pk] 131)):=(Only.refl _ w2).alloc _
    have HI2:Hid (ItAt (w2.alloc (.cells #[.string nm,.int .u32 (wy:Int),.int .u32 (ck:Int),.int .u32 (sz:Int),.string pk] 131)) w2.heap.size ⟨nm,wy,ck,sz,pk⟩):=Go.heap_alloc_new w2 _
    have HOW2:=hide (Only.trans ho2 hA)
    clear hA ho2
    have hlc:=uh HCL _ (uh HOW2)
    have hnc:=(uh HI2).cells.1
    go_wp2_with fail
    generalize w2.alloc (.cells #[.string nm,.int .u32 (wy:Int),.int .u32 (ck:Int),.int .u32 (sz:Int),.string pk] 131)=W at*
    go_quiet (fail)
    go_wp2_with fail
    go_ret2
    exact ⟨(Only.trans (uh HO) (uh HOW2)).drewN _,by rw[uh HRF];rfl⟩
   |false=>
    obtain ⟨m,hnr,hbs⟩:=(uh HR).next hpf hit hbad
    have HNR:=hide hnr
    have HBS:=hide hbs
    clear hnr hbs
    by_cases h0:its.length=0
    ·have h0I:¬(0:Int)<(its.length:Int):=by omega
     have h0J:¬(its.length:Int)=60:=by omega
     have hu:=uh HN (List.eq_nil_of_length_eq_zero h0)
     clear hit hpf hbad
     subst hu
     go_wp2_with fail
     refine (uh HP1 _).mono ?_
     rintro r w1 ⟨rfl,rfl⟩
     go_wp2_with fail
     refine (uh H1).mono ?_
     rintro r w2 ⟨rfl,ho2⟩
     have hA:Old w2 (w2.alloc (.cells #[.string nm,.int .u32 (wy:Int),.int .u32 (ck:Int),.int .u32 (sz:Int),.string pk] 131)):=(Only.refl _ w2).alloc _
     have HI2:Hid (ItAt (w2.alloc (.cells #[.string nm,.int .u32 (wy:Int),.int .u32 (ck:Int),.int .u32 (sz:Int),.string pk] 131)) w2.heap.size ⟨nm,wy,ck,sz,pk⟩):=Go.heap_alloc_new w2 _
     have HOW2:=hide (Only.trans ho2 hA)
     clear hA ho2
     go_wp2_with fail
     generalize w2.alloc (.cells #[.string nm,.int .u32 (wy:Int),.int .u32 (ck:Int),.int .u32 (sz:Int),.string pk] 131)=W at*
     go_quiet (fail)
     have HI3:Hid (ItAt (W.drewN nq) w2.heap.size ⟨nm,wy,ck,sz,pk⟩):=uh HI2
     have HOV:=hide ((uh HOW2).drewN nq)
     clear HI2 HOW2
     generalize W.drewN nq=V at*
     obtain ⟨c0,c1,c2,c3,c4⟩:=(uh HI3).cells
     have hA2:Old V (V.alloc (.cells (It.v ⟨nm,wy,ck,sz,pk⟩) 131)):=(Only.refl _ V).alloc _
     have HIV:=hide (((uh HI).kept (uh HOV) (fun _ _ x=>x)).kept hA2 (fun _ _ x=>x))
     have HNW:=hide (it_new (wr:=V) ⟨nm,wy,ck,sz,pk⟩)
     have hoc: ∀u∈(It.v ⟨nm,wy,ck,sz,pk⟩).toList,u.oneCell' =true:=by intro u hu;simp at hu;rcases hu with rfl|rfl|rfl|rfl|rfl<;>rfl
     have HO5:=hide (Only.trans (Only.trans (uh HO) (uh HOV)) hA2)
     have HFN:Hid (∀(g2 cap2:Nat) (w3:World),w3.ownsRow 0 131 5 (.slice (some ⟨g2,0,none⟩) (0+1) cap2) (0+1) ([]++(It.v ⟨nm,wy,ck,sz,pk⟩).toList)→(V.alloc (.cells (It.v ⟨nm,wy,ck,sz,pk⟩) 131)).grownBy w3 (Value.slice none 0 0).ownBlock→((Value.slice none 0 0).ownBlock=some g2∨g2=V.heap.size+1)→ItemsAt w3 (fun k=>w.heap.size≤k) (.slice (some ⟨g2,0,none⟩) (0+1) cap2) (its++[⟨nm,wy,ck,sz,pk⟩])∧Old w w3):=by
      intro g2 cap2 w3 ho3 hg3 hl3
      have HEN:its=[]:=List.eq_nil_of_length_eq_zero h0
      refine ⟨⟨?_,fun b hb=> ?_⟩,(uh HO5).grown hg3 (fun k hk e=>absurd ((uh HIV).2 k e) (by omega))⟩
      ·rw[HEN];rw[List.nil_append,itCells_one];exact ho3
      injection hb with hb
      subst hb
      rcases hl3 with h|h
      ·exact (uh HIV).2 _ h
      have:=(uh HO5).size;rw[World.size_alloc] at this;simp only;omega
     have HOW:=hide (World.ownsRow_nil (V.alloc (.cells (It.v ⟨nm,wy,ck,sz,pk⟩) 131)) 0 131 5)
     clear hA2
     go_wp2_with (at_builtin;refine wpList_append_lies _ rfl (.tmp 45) (.tmp 47) 129 rfl 0 131 i0 (.agg #[.string ⟨#[]⟩,.int .u32 0,.int .u32 0,.int .u32 0,.string ⟨#[]⟩]) 5 48 Tryz.underlying129 hi0 hz0 hz1 hz2 rfl (by omega) (.slice none 0 0) 0 [] rfl (uh HOW) ⟨V.heap.size,0,none⟩ 1 1 (It.v ⟨nm,wy,ck,sz,pk⟩).toList rfl rfl (uh HNW) hoc (by omega) (by unfold maxLen;omega) (by omega) (by omega) (V.heap.size+1) (by simp) ?_;intro g2 cap2 w3 ho3 hg3 hl3 hlt3;have HX:=hide (uh HFN g2 cap2 w3 ho3 hg3 hl3);clear ho3 hg3 hl3)
     go_roundw
     ·exact ⟨its++[(⟨nm,wy,ck,sz,pk⟩:It)],b,m,rfl,(uh HX).2,by have:=(uh HX).1;rw[Nat.zero_add] at this;exact this,HNR,fun e=>by simp at e⟩
     simp only[strSz];exact HBS
    have hb2:(its.length==60)=false∧(decide (0<its.length)&& !decide ((its.getD (its.length- 1) itD).name.data.toList<nm.data.toList))=false:=by
     unfold badB at hbad
     rw[Bool.or_eq_false_iff] at hbad
     exact hbad
    have h60J:¬(its.length:Int)=60:=by
     have:=hb2.1
     rw[beq_eq_false_iff_ne] at this
     omega
    have hbad:=hb2.2
    rw[decide_eq_true (by omega),Bool.true_and] at hbad
    clear hb2
    obtain ⟨g,cap0,rfl,hgb,cur,hg,hcl⟩:=(uh HI).slice (by omega)
    have hgl:g<wr.heap.size:=(Array.getElem?_eq_some_iff.1 hg).1
    obtain ⟨m0,hm0⟩: ∃m0,its.length- 1=m0:=⟨_,rfl⟩
    have hm1:m0<its.length:=by omega
    have hm0I:(its.length:Int)- 1=(m0:Int):=by omega
    have hm1I:(m0:Int)<(its.length:Int):=by omega
    have hm00:(0:Int)≤(m0:Int):=by omega
    have hm0b:m0≤100:=by omega
    have hm0w:IntKind.i64.wrap (m0:Int)=(m0:Int):=i64_wrap_nat m0 (by omega)
    have h60K:((its.length:Int)==60)=false:=by rw[beq_eq_false_iff_ne];exact h60J
    have hc0:wr.cell? ⟨g,m0*5,none⟩=some (.string (its.getD m0 itD).name):=hcl m0 hm1 0 (by omega)
    have HCL:Hid (∀W',Old wr W' →W'.cell? ⟨g,m0*5,none⟩=some (.string (its.getD m0 itD).name)):=fun W' ho=>(ho.cell (p:=⟨g,m0*5,none⟩) hgl (fun x=>x)).trans hc0
    have h0I:(0:Int)<(its.length:Int):=by omega
    have h0N:0<its.length:=by omega
    rw[hm0] at hbad
    clear hcl hg hgl hc0 hgb hm0
    generalize (its.getD m0 itD).name=lm at*
    have hlt:lm.data.toList<nm.data.toList:=by simpa using hbad
    have l1:=lessL nm lm
    have l2:=eqS nm lm
    rw[decide_eq_false (fun h=>absurd (List.lt_trans h hlt) (List.lt_irrefl _))] at l1
    rw[decide_eq_false (fun h=>by rw[h] at hlt;exact absurd hlt (List.lt_irrefl _))] at l2
    clear hit hpf hbad hlt h0
    go_wp2_with fail
    refine (uh HP1 _).mono ?_
    rintro r w1 ⟨rfl,rfl⟩
    go_wp2_with fail
    refine (uh H1).mono ?_
    rintro r w2 ⟨rfl,ho2⟩
    have hA:Old w2 (w2.alloc (.cells #[.string nm,.int .u32 (wy:Int),.int .u32 (ck:Int),.int .u32 (sz:Int),.string pk] 131)):=(Only.refl _ w2).alloc _
    have HI2:Hid (ItAt (w2.alloc (.cells #[.string nm,.int .u32 (wy:Int),.int .u32 (ck:Int),.int .u32 (sz:Int),.string pk] 131)) w2.heap.size ⟨nm,wy,ck,sz,pk⟩):=Go.heap_alloc_new w2 _
    have HOW2:=hide (Only.trans ho2 hA)
    clear hA ho2
    have hlc:=uh HCL _ (uh HOW2)
    have hnc:=(uh HI2).cells.1
    go_wp2_with fail
    generalize w2.alloc (.cells #[.string nm,.int .u32 (wy:Int),.int .u32 (ck:Int),.int .u32 (sz:Int),.string pk] 131)=W at*
    go_quiet (fail)
    have HI3:Hid (ItAt (W.drewN nq) w2.heap.size ⟨nm,wy,ck,sz,pk⟩):=uh HI2
    have HOV:=hide ((uh HOW2).drewN nq)
    clear HI2 HOW2
    generalize W.drewN nq=V at*
    obtain ⟨c0,c1,c2,c3,c4⟩:=(uh HI3).cells
    have hA2:Old V (V.alloc (.cells (It.v ⟨nm,wy,ck,sz,pk⟩) 131)):=(Only.refl _ V).alloc _
    have HIV:=hide (((uh HI).kept (uh HOV) (fun _ _ x=>x)).kept hA2 (fun _ _ x=>x))
    have HNW:=hide (it_new (wr:=V) ⟨nm,wy,ck,sz,pk⟩)
    have hoc: ∀u∈(It.v ⟨nm,wy,ck,sz,pk⟩).toList,u.oneCell' =true:=by intro u hu;simp at hu;rcases hu with rfl|rfl|rfl|rfl|rfl<;>rfl
    have HO5:=hide (Only.trans (Only.trans (uh HO) (uh HOV)) hA2)
    have HFN:Hid (∀(g2 cap2:Nat) (w3:World),w3.ownsRow 0 131 5 (.slice (some ⟨g2,0,none⟩) (its.length+1) cap2) (its.length+1) (itCells its++(It.v ⟨nm,wy,ck,sz,pk⟩).toList)→(V.alloc (.cells (It.v ⟨nm,wy,ck,sz,pk⟩) 131)).grownBy w3 (Value.slice (some ⟨g,0,none⟩) its.length cap0).ownBlock→((Value.slice (some ⟨g,0,none⟩) its.length cap0).ownBlock=some g2∨g2=V.heap.size+1)→ItemsAt w3 (fun k=>w.heap.size≤k) (.slice (some ⟨g2,0,none⟩) (its.length+1) cap2) (its++[⟨nm,wy,ck,sz,pk⟩])∧Old w w3):=by
     intro g2 cap2 w3 ho3 hg3 hl3
     refine ⟨⟨?_,fun b hb=> ?_⟩,(uh HO5).grown hg3 (fun k hk e=>absurd ((uh HIV).2 k e) (by omega))⟩
     ·rw[itCells_app,itCells_one,List.length_append];exact ho3
     injection hb with hb
     subst hb
     rcases hl3 with h|h
     ·exact (uh HIV).2 _ h
     have:=(uh HO5).size;rw[World.size_alloc] at this;simp only;omega
    have HOW:=hide (uh HIV).1
    clear hA2
    go_wp2_with (at_builtin;refine wpList_append_lies _ rfl (.tmp 45) (.tmp 47) 129 rfl 0 131 i0 (.agg #[.string ⟨#[]⟩,.int .u32 0,.int .u32 0,.int .u32 0,.string ⟨#[]⟩]) 5 48 Tryz.underlying129 hi0 hz0 hz1 hz2 rfl (by omega) (.slice (some ⟨g,0,none⟩) its.length cap0) its.length (itCells its) rfl (uh HOW) ⟨V.heap.size,0,none⟩ 1 1 (It.v ⟨nm,wy,ck,sz,pk⟩).toList rfl rfl (uh HNW) hoc (by omega) (by unfold maxLen;omega) (by omega) (by omega) (V.heap.size+1) (by simp) ?_;intro g2 cap2 w3 ho3 hg3 hl3 hlt3;have HX:=hide (uh HFN g2 cap2 w3 ho3 hg3 hl3);clear ho3 hg3 hl3)
    go_roundw
    ·exact ⟨its++[(⟨nm,wy,ck,sz,pk⟩:It)],b,m,rfl,(uh HX).2,hide (uh HX).1,HNR,fun e=>by simp at e⟩
    simp only[strSz];exact HBS
abbrev othB(s:ByteArray):Bool:=decide (s≠sGo)&&decide (lowP s=sGo)
def headF(f:Tab)(all:Nat)(it:It):Nat:=if fileP it.name=false then 4 else if othB it.name then 4 else if clashP f it.name then 5 else if mostP it.name<it.size then 1 else if 16000- all<it.size then 1 else 0
def headsGo:List It→Tab→Nat→Nat
 |[],_,_=>0
 |it::r,f,all=>if headF f all it=0 then headsGo r (addP f it.name) (all+it.size) else headF f all it
theorem headF_ok{f:Tab}{all:Nat}{it:It}(h:headF f all it=0):fileP it.name=true∧othB it.name=false∧clashP f it.name=false∧it.size≤mostP it.name∧it.size≤16000- all:=by
 unfold headF at h
 split at h
 ·cases h
 rename_i h1
 split at h
 ·cases h
 rename_i h2
 split at h
 ·cases h
 rename_i h3
 split at h
 ·cases h
 rename_i h4
 split at h
 ·cases h
 rename_i h5
 exact ⟨by simpa using h1,by simpa using h2,by simpa using h3,by omega,by omega⟩
structure HSt (its:List It) (i:Nat) (f:Tab) (all:Nat):Prop where
 go:headsGo its (fun _=>none) 0=headsGo (its.drop i) f all
 all16:all≤16000
theorem HSt.start(its:List It):HSt its 0 (fun _=>none) 0:=⟨rfl,by omega⟩
theorem drop_getD(its:List It)(i:Nat)(h:i<its.length):its.drop i=its.getD i itD::its.drop (i+1):=by
 rw[List.drop_eq_getElem_cons h,List.getD_eq_getElem?_getD,List.getElem?_eq_getElem h];rfl
theorem HSt.end{its:List It}{i:Nat}{f:Tab}{all:Nat}(h:HSt its i f all)(hi:its.length≤i):headsGo its (fun _=>none) 0=0:=by
 rw[h.go,List.drop_eq_nil_of_le hi];rfl
theorem HSt.fault{its:List It}{i:Nat}{f:Tab}{all:Nat}(h:HSt its i f all)(hi:i<its.length)(he:headF f all (its.getD i itD)≠0):headsGo its (fun _=>none) 0=headF f all (its.getD i itD):=by
 rw[h.go,drop_getD its i hi,headsGo,if_neg he]
theorem HSt.next{its:List It}{i:Nat}{f:Tab}{all:Nat}(h:HSt its i f all)(hi:i<its.length)(he:headF f all (its.getD i itD)=0):HSt its (i+1) (addP f (its.getD i itD).name) (all+(its.getD i itD).size):=by
 have h2:=(headF_ok he).2.2.2.2
 have h3:=h.all16
 exact ⟨by rw[h.go,drop_getD its i hi,headsGo,if_pos he],by omega⟩
theorem headsA(v:Value)(its:List It)(hn:its.length≤60)(hok: ∀i∈its,i.ok)(B:Nat→Prop)(w:World)(hm:MaxAt w)(hv:ItemsAt w B v its):
 Calls Tryz.prog 91 #[v] w fun r w' =>r=.returned (.int .i64 (headsGo its (fun _=>none) 0))∧Old w w' :=by
 obtain ⟨ao,cp,rfl⟩: ∃ao cp,v=.slice ao its.length cp:=by
  obtain ⟨⟨_,⟨rfl,hz⟩|⟨b',c',cur',rfl,_⟩⟩,_⟩:=hv
  ·rw[hz];exact ⟨none,0,rfl⟩
  exact ⟨_,_,rfl⟩
 have hA:Old w (w.alloc (.map #[] 0)):=(Only.refl _ w).alloc _
 have HG:Hid (MetAt (w.alloc (.map #[] 0)) w.heap.size (0*1001) (fun _=>none)):=by rw[Nat.zero_mul];exact MetAt.made w
 have HO:=hide hA
 have HM:=hide hm
 have HV:=hide hv
 have HK:Hid (∀i,i<its.length→(its.getD i itD).ok):=fun i hi=>by rw[List.getD_eq_getElem?_getD,List.getElem?_eq_getElem hi];exact hok _ (List.getElem_mem hi)
 have HS:=hide (HSt.start its)
 clear hA hm hv hok
 have hmm:= @run_makeMap Tryz.prog
 go_in
 go_wp2_with fail
 clear hmm
 go_loopw [4,6,10] (fun a _ x wr=> ∃(i:Nat) (f:Tab) (all:Nat),i≤its.length∧x=.int .i64 i∧a=.int .u32 (all:Int)∧Hid (Old w wr)∧Hid (MetAt wr w.heap.size (i*1001) f)∧Hid (HSt its i f all)) (fun _ _ x _=>its.length- (intOf x).toNat)
 ·exact ⟨0,_,0,by omega,rfl,rfl,HO,HG,HS⟩
 obtain ⟨i,f,all,hi,rfl,rfl,HO1,HM1,HST⟩:=hrel
 clear HG HO HS
 by_cases hil:i<its.length
 ·have hilI:(i:Int)<(its.length:Int):=by omega
  obtain ⟨g,cap0,hve,hgb,cur,hg,hcl⟩:=(uh HV).slice (by omega)
  have hgl:g<w.heap.size:=(Array.getElem?_eq_some_iff.1 hg).1
  injection hve with hv1 hv2 hv3
  subst hv1 hv3
  have hc:=fun c hc=>((uh HO1).cell (p:=⟨g,i*5+c,none⟩) hgl (fun x=>x)).trans (hcl i hil c hc)
  have hitok:=uh HK i hil
  have HNX:=hide ((uh HST).next hil)
  have HFT:=hide ((uh HST).fault hil)
  have h16:=(uh HST).all16
  have HDF:Hid (headF f all (its.getD i itD)=if fileP (its.getD i itD).name=false then 4 else if othB (its.getD i itD).name then 4 else if clashP f (its.getD i itD).name then 5 else if mostP (its.getD i itD).name<(its.getD i itD).size then 1 else if 16000- all<(its.getD i itD).size then 1 else 0):=rfl
  clear hcl hg hgl hgb hv2 HST
  generalize its.getD i itD=it at*
  obtain ⟨nm,wy,ck,sz,pk⟩:=it
  have q0:wr.cell? ⟨g,i*5,none⟩=some (.string nm):=hc 0 (by omega)
  have q1:wr.cell? ⟨g,i*5+1,none⟩=some (.int .u32 wy):=hc 1 (by omega)
  have q2:wr.cell? ⟨g,i*5+2,none⟩=some (.int .u32 ck):=hc 2 (by omega)
  have q3:wr.cell? ⟨g,i*5+3,none⟩=some (.int .u32 sz):=hc 3 (by omega)
  have q4:wr.cell? ⟨g,i*5+4,none⟩=some (.string pk):=hc 4 (by omega)
  obtain ⟨o1,o2,o3,o4,o5⟩:=hitok
  simp only at o1 o2 o3 o4 o5 HNX HFT HDF
  clear hc
  have hA:Old wr (wr.alloc (.cells #[.string nm,.int .u32 (wy:Int),.int .u32 (ck:Int),.int .u32 (sz:Int),.string pk] 131)):=(Only.refl _ wr).alloc _
  have HI2:Hid (ItAt (wr.alloc (.cells #[.string nm,.int .u32 (wy:Int),.int .u32 (ck:Int),.int .u32 (sz:Int),.string pk] 131)) wr.heap.size ⟨nm,wy,ck,sz,pk⟩):=Go.heap_alloc_new wr _
  have HG2:=hide ((uh HM1).old hA)
  have HO2:=hide (Only.trans (uh HO1) hA)
  have HWS:Hid (w.heap.size<wr.heap.size):=(uh HM1).lt
  have H1:=hide (fun W h=>isFileA nm (by omega) W h)
  have H2:=hide (fun W=>otherA nm (by omega) W)
  have H4:=hide (fun W=>mostA nm W)
  have HSZ:Hid (fileP nm=true→nm.size≤80):=fileP_size
  have H3:Hid (nm.size≤80→ ∀W,MetAt W w.heap.size (i*1001) f→Calls Tryz.prog 154 #[.map (some w.heap.size),.string nm] W fun r w' =>r=.returned (.bool (clashP f nm))∧Old W w'):=fun h W hW=>clashesA nm (by omega) w.heap.size _ f W hW
  have H5:Hid (nm.size≤80→ ∀W,MetAt W w.heap.size (i*1001) f→Calls Tryz.prog 157 #[.map (some w.heap.size),.string nm] W fun r w' =>r=.returned (.tuple #[])∧Only (fun k=>k=w.heap.size) W w' ∧MetAt w' w.heap.size (i*1001+1001) (addP f nm)):=fun h W hW=>addA nm (by omega) w.heap.size _ (by omega) f W hW
  rw[show (decide (nm≠sGo)&&decide (lowP nm=sGo))=othB nm from rfl] at H2
  generalize othB nm=bo at*
  generalize clashP f nm=bc at*
  have hMb:mostP nm≤4000:=by unfold mostP;split<;>omega
  generalize mostP nm=M at*
  clear hA HM1 HO1
  cases hfi:fileP nm with
  |false=>
   have HANS:Hid (headsGo its (fun _=>none) 0=4):=by
    have e:headF f all ⟨nm,wy,ck,sz,pk⟩=4:=by rw[uh HDF,if_pos hfi]
    unfold Hid;rw[uh HFT (by rw[e];decide),e]
   rw[hfi] at H1 HSZ
   clear hfi HDF HFT HNX
   go_upto_region 6 with fail
   generalize wr.alloc (.cells #[.string nm,.int .u32 (wy:Int),.int .u32 (ck:Int),.int .u32 (sz:Int),.string pk] 131)=W at*
   clear q0 q1 q2 q3 q4
   have n0:=(uh HI2).cells.1
   have HFW:=hide (uh H1 W ((uh HM).old (uh HO2)))
   go_wp2_with fail
   refine (uh HFW).mono ?_
   rintro r w1 ⟨rfl,ho1⟩
   have HI3:=hide ((uh HI2).kept ho1 (fun x=>x))
   have HG3:=hide ((uh HG2).old ho1)
   have HO3:=hide (Only.trans (uh HO2) ho1)
   have n1:=(uh HI3).cells.1
   clear HFW ho1 n0 HI2 HG2 HO2
   go_wp2_with fail
   go_ret
   exact ⟨by rw[uh HANS];rfl,HO3⟩
  |true=>
   rw[hfi] at H1 HSZ
   rw[hfi,if_neg (by decide)] at HDF
   clear hfi
   cases bo with
   |true=>
    have HANS:Hid (headsGo its (fun _=>none) 0=4):=by
     have e:headF f all ⟨nm,wy,ck,sz,pk⟩=4:=by rw[uh HDF,if_pos rfl]
     unfold Hid;rw[uh HFT (by rw[e];decide),e]
    clear HDF HFT HNX
    go_upto_region 6 with fail
    generalize wr.alloc (.cells #[.string nm,.int .u32 (wy:Int),.int .u32 (ck:Int),.int .u32 (sz:Int),.string pk] 131)=W at*
    clear q0 q1 q2 q3 q4
    have n0:=(uh HI2).cells.1
    have HFW:=hide (uh H1 W ((uh HM).old (uh HO2)))
    go_wp2_with fail
    refine (uh HFW).mono ?_
    rintro r w1 ⟨rfl,ho1⟩
    have HI3:=hide ((uh HI2).kept ho1 (fun x=>x))
    have HG3:=hide ((uh HG2).old ho1)
    have HO3:=hide (Only.trans (uh HO2) ho1)
    have n1:=(uh HI3).cells.1
    clear HFW ho1 n0 HI2 HG2 HO2
    go_wp2_with fail
    refine (uh H2 w1).mono ?_
    rintro r w2 ⟨rfl,ho2⟩
    have HI4:=hide ((uh HI3).kept ho2 (fun x=>x))
    have HG4:=hide ((uh HG3).old ho2)
    have HO4:=hide (Only.trans (uh HO3) ho2)
    have n2:=(uh HI4).cells.1
    clear ho2 n1 HI3 HG3 HO3
    go_wp2_with fail
    go_ret
    exact ⟨by rw[uh HANS];rfl,HO4⟩
   |false=>
    rw[if_neg (by decide)] at HDF
    cases bc with
    |true=>
     have HANS:Hid (headsGo its (fun _=>none) 0=5):=by
      have e:headF f all ⟨nm,wy,ck,sz,pk⟩=5:=by rw[uh HDF,if_pos rfl]
      unfold Hid;rw[uh HFT (by rw[e];decide),e]
     clear HDF HFT HNX
     go_upto_region 6 with fail
     generalize wr.alloc (.cells #[.string nm,.int .u32 (wy:Int),.int .u32 (ck:Int),.int .u32 (sz:Int),.string pk] 131)=W at*
     clear q0 q1 q2 q3 q4
     have n0:=(uh HI2).cells.1
     have HFW:=hide (uh H1 W ((uh HM).old (uh HO2)))
     go_wp2_with fail
     refine (uh HFW).mono ?_
     rintro r w1 ⟨rfl,ho1⟩
     have HI3:=hide ((uh HI2).kept ho1 (fun x=>x))
     have HG3:=hide ((uh HG2).old ho1)
     have HO3:=hide (Only.trans (uh HO2) ho1)
     have n1:=(uh HI3).cells.1
     clear HFW ho1 n0 HI2 HG2 HO2
     go_wp2_with fail
     refine (uh H2 w1).mono ?_
     rintro r w2 ⟨rfl,ho2⟩
     have HI4:=hide ((uh HI3).kept ho2 (fun x=>x))
     have HG4:=hide ((uh HG3).old ho2)
     have HO4:=hide (Only.trans (uh HO3) ho2)
     have n2:=(uh HI4).cells.1
     clear ho2 n1 HI3 HG3 HO3
     go_wp2_with fail
     refine (uh H3 (uh HSZ trivial) w2 (uh HG4)).mono ?_
     rintro r w3 ⟨rfl,ho3⟩
     have HI5:=hide ((uh HI4).kept ho3 (fun x=>x))
     have HG5:=hide ((uh HG4).old ho3)
     have HO5:=hide (Only.trans (uh HO4) ho3)
     have n3:=(uh HI5).cells.1
     have m3:=(uh HI5).cells.2.2.2.1
     clear ho3 n2 HI4 HG4 HO4
     go_wp2_with fail
     go_ret
     exact ⟨by rw[uh HANS];rfl,HO5⟩
    |false=>
     rw[if_neg (by decide)] at HDF
     have hMw:IntKind.u32.wrap (M:Int)=(M:Int):=by rw[IntKind.wrap_u32];omega
     obtain ⟨R,hR⟩: ∃R,16000- all=R:=⟨_,rfl⟩
     have hRI:(16000:Int)- (all:Int)=(R:Int):=by omega
     have hRw:IntKind.u32.wrap (R:Int)=(R:Int):=by rw[IntKind.wrap_u32];omega
     have hRb:R≤16000:=by omega
     rw[hR] at HDF
     by_cases hz1:M<sz
     ·have HANS:Hid (headsGo its (fun _=>none) 0=1):=by
       have e:headF f all ⟨nm,wy,ck,sz,pk⟩=1:=by rw[uh HDF,if_pos hz1]
       unfold Hid;rw[uh HFT (by rw[e];decide),e]
      have hd1:decide ((M:Int)<(sz:Int))=true:=by rw[decide_eq_true_iff];omega
      have hd2:decide (M<sz)=true:=by simpa using hz1
      clear HDF HFT HNX
      go_upto_region 6 with fail
      generalize wr.alloc (.cells #[.string nm,.int .u32 (wy:Int),.int .u32 (ck:Int),.int .u32 (sz:Int),.string pk] 131)=W at*
      clear q0 q1 q2 q3 q4
      have n0:=(uh HI2).cells.1
      have HFW:=hide (uh H1 W ((uh HM).old (uh HO2)))
      go_wp2_with fail
      refine (uh HFW).mono ?_
      rintro r w1 ⟨rfl,ho1⟩
      have HI3:=hide ((uh HI2).kept ho1 (fun x=>x))
      have HG3:=hide ((uh HG2).old ho1)
      have HO3:=hide (Only.trans (uh HO2) ho1)
      have n1:=(uh HI3).cells.1
      clear HFW ho1 n0 HI2 HG2 HO2
      go_wp2_with fail
      refine (uh H2 w1).mono ?_
      rintro r w2 ⟨rfl,ho2⟩
      have HI4:=hide ((uh HI3).kept ho2 (fun x=>x))
      have HG4:=hide ((uh HG3).old ho2)
      have HO4:=hide (Only.trans (uh HO3) ho2)
      have n2:=(uh HI4).cells.1
      clear ho2 n1 HI3 HG3 HO3
      go_wp2_with fail
      refine (uh H3 (uh HSZ trivial) w2 (uh HG4)).mono ?_
      rintro r w3 ⟨rfl,ho3⟩
      have HI5:=hide ((uh HI4).kept ho3 (fun x=>x))
      have HG5:=hide ((uh HG4).old ho3)
      have HO5:=hide (Only.trans (uh HO4) ho3)
      have n3:=(uh HI5).cells.1
      have m3:=(uh HI5).cells.2.2.2.1
      clear ho3 n2 HI4 HG4 HO4
      go_wp2_with fail
      go_quiet ((go_at_call 156;exact Calls.quiet_of_same (uh H4 _)))
      go_wp2_with fail
      go_ret
      exact ⟨by rw[uh HANS];rfl,(uh HO5).drewN _⟩
     rw[if_neg hz1] at HDF
     have hd1:decide ((M:Int)<(sz:Int))=false:=by rw[decide_eq_false_iff_not];omega
     have hd2:decide (M<sz)=false:=by simpa using hz1
     have hd1n:¬(M:Int)<(sz:Int):=by omega
     by_cases hz2:R<sz
     ·have HANS:Hid (headsGo its (fun _=>none) 0=1):=by
       have e:headF f all ⟨nm,wy,ck,sz,pk⟩=1:=by rw[uh HDF,if_pos hz2]
       unfold Hid;rw[uh HFT (by rw[e];decide),e]
      have hd3:decide ((R:Int)<(sz:Int))=true:=by rw[decide_eq_true_iff];omega
      have hd4:decide (R<sz)=true:=by simpa using hz2
      clear HDF HFT HNX
      go_upto_region 6 with fail
      generalize wr.alloc (.cells #[.string nm,.int .u32 (wy:Int),.int .u32 (ck:Int),.int .u32 (sz:Int),.string pk] 131)=W at*
      clear q0 q1 q2 q3 q4
      have n0:=(uh HI2).cells.1
      have HFW:=hide (uh H1 W ((uh HM).old (uh HO2)))
      go_wp2_with fail
      refine (uh HFW).mono ?_
      rintro r w1 ⟨rfl,ho1⟩
      have HI3:=hide ((uh HI2).kept ho1 (fun x=>x))
      have HG3:=hide ((uh HG2).old ho1)
      have HO3:=hide (Only.trans (uh HO2) ho1)
      have n1:=(uh HI3).cells.1
      clear HFW ho1 n0 HI2 HG2 HO2
      go_wp2_with fail
      refine (uh H2 w1).mono ?_
      rintro r w2 ⟨rfl,ho2⟩
      have HI4:=hide ((uh HI3).kept ho2 (fun x=>x))
      have HG4:=hide ((uh HG3).old ho2)
      have HO4:=hide (Only.trans (uh HO3) ho2)
      have n2:=(uh HI4).cells.1
      clear ho2 n1 HI3 HG3 HO3
      go_wp2_with fail
      refine (uh H3 (uh HSZ trivial) w2 (uh HG4)).mono ?_
      rintro r w3 ⟨rfl,ho3⟩
      have HI5:=hide ((uh HI4).kept ho3 (fun x=>x))
      have HG5:=hide ((uh HG4).old ho3)
      have HO5:=hide (Only.trans (uh HO4) ho3)
      have n3:=(uh HI5).cells.1
      have m3:=(uh HI5).cells.2.2.2.1
      clear ho3 n2 HI4 HG4 HO4
      go_wp2_with fail
      go_quiet ((go_at_call 156;exact Calls.quiet_of_same (uh H4 _)))
      go_wp2_with fail
      go_ret
      exact ⟨by rw[uh HANS];rfl,(uh HO5).drewN _⟩
     rw[if_neg hz2] at HDF
     have HNX:=hide (uh HNX (uh HDF))
     have hd3:decide ((R:Int)<(sz:Int))=false:=by rw[decide_eq_false_iff_not];omega
     have hd4:decide (R<sz)=false:=by simpa using hz2
     have hd3n:¬(R:Int)<(sz:Int):=by omega
     have hszb:sz≤4000:=by omega
     clear HDF HFT
     go_upto_region 6 with fail
     generalize wr.alloc (.cells #[.string nm,.int .u32 (wy:Int),.int .u32 (ck:Int),.int .u32 (sz:Int),.string pk] 131)=W at*
     clear q0 q1 q2 q3 q4
     have n0:=(uh HI2).cells.1
     have HFW:=hide (uh H1 W ((uh HM).old (uh HO2)))
     go_wp2_with fail
     refine (uh HFW).mono ?_
     rintro r w1 ⟨rfl,ho1⟩
     have HI3:=hide ((uh HI2).kept ho1 (fun x=>x))
     have HG3:=hide ((uh HG2).old ho1)
     have HO3:=hide (Only.trans (uh HO2) ho1)
     have n1:=(uh HI3).cells.1
     clear HFW ho1 n0 HI2 HG2 HO2
     go_wp2_with fail
     refine (uh H2 w1).mono ?_
     rintro r w2 ⟨rfl,ho2⟩
     have HI4:=hide ((uh HI3).kept ho2 (fun x=>x))
     have HG4:=hide ((uh HG3).old ho2)
     have HO4:=hide (Only.trans (uh HO3) ho2)
     have n2:=(uh HI4).cells.1
     clear ho2 n1 HI3 HG3 HO3
     go_wp2_with fail
     refine (uh H3 (uh HSZ trivial) w2 (uh HG4)).mono ?_
     rintro r w3 ⟨rfl,ho3⟩
     have HI5:=hide ((uh HI4).kept ho3 (fun x=>x))
     have HG5:=hide ((uh HG4).old ho3)
     have HO5:=hide (Only.trans (uh HO4) ho3)
     have n3:=(uh HI5).cells.1
     have m3:=(uh HI5).cells.2.2.2.1
     clear ho3 n2 HI4 HG4 HO4
     go_wp2_with fail
     go_quiet ((go_at_call 156;exact Calls.quiet_of_same (uh H4 _)))
     have HI6:Hid (ItAt (w3.drewN nq) wr.heap.size ⟨nm,wy,ck,sz,pk⟩):=uh HI5
     have HG6:Hid (MetAt (w3.drewN nq) w.heap.size (i*1001) f):=(uh HG5).old ((Only.refl _ w3).drewN nq)
     have HO6:=hide ((uh HO5).drewN nq)
     clear HI5 HG5 HO5 n3 m3
     generalize w3.drewN nq=V at*
     have n4:=(uh HI6).cells.1
     go_wp2_with fail
     refine (uh H5 (uh HSZ trivial) V (uh HG6)).mono ?_
     rintro r w5 ⟨rfl,ho5,hm5⟩
     have HI7:=hide ((uh HI6).kept ho5 (by have:=uh HWS;omega))
     have m5:=(uh HI7).cells.2.2.2.1
     have HO7:Hid (Old w w5):=(uh HO6).transNew ho5 (fun k hk e=>by omega)
     have HM7:Hid (MetAt w5 w.heap.size ((i+1)*1001) (addP f nm)):=by rw[Nat.succ_mul];exact hm5
     obtain ⟨N,hN⟩: ∃N,all+sz=N:=⟨_,rfl⟩
     rw[hN] at HNX
     have hsw:IntKind.u32.wrap ((all:Int)+(sz:Int))=(N:Int):=by rw[IntKind.wrap_u32];omega
     clear hN
     clear ho5 hm5 HI6 HG6 HO6 n4
     go_wp2_with fail
     go_roundw
     ·exact ⟨i+1,addP f nm,N,by omega,by go_num,rfl,HO7,HM7,HNX⟩
     case measure=>simp[intOf];omega
 have hilI:¬(i:Int)<(its.length:Int):=by omega
 have HANS:=hide ((uh HST).end (by omega))
 go_wp2_with fail
 go_ret
 exact ⟨by rw[uh HANS];rfl,HO1⟩
def unpI(it:It):ByteArray×Nat:=if it.way=0 then (if it.packed.size=it.size then (it.packed,0) else (⟨#[]⟩,7)) else (if (inflate it.packed).2.2=0∧(inflate it.packed).2.1=it.packed.size∧(inflate it.packed).1.size=it.size then ((inflate it.packed).1,0) else (⟨#[]⟩,2))
def datI(it:It):ByteArray×Nat:=if (unpI it).2≠0 then (⟨#[]⟩,(unpI it).2) else if checkOf (unpI it).1=it.check then ((unpI it).1,0) else (⟨#[]⟩,8)
theorem unpackedA(it:It)(hok:it.ok)(w:World)(hord:OrdAt w):
 Calls Tryz.prog 273 #[.agg it.v] w fun r w' =>r=.returned (.tuple #[.string (unpI it).1,.int .i64 (unpI it).2])∧Old w w' :=by
 have HU:Hid (unpI it=if it.way=0 then (if it.packed.size=it.size then (it.packed,0) else (⟨#[]⟩,7)) else (if (inflate it.packed).2.2=0∧(inflate it.packed).2.1=it.packed.size∧(inflate it.packed).1.size=it.size then ((inflate it.packed).1,0) else (⟨#[]⟩,2))):=rfl
 generalize unpI it=ans at*
 obtain ⟨nm,wy,ck,sz,pk⟩:=it
 obtain ⟨o1,o2,o3,o4,o5⟩:=hok
 simp only at o1 o2 o3 o4 o5 HU
 have hA:Old w (w.alloc (.cells #[.string nm,.int .u32 (wy:Int),.int .u32 (ck:Int),.int .u32 (sz:Int),.string pk] 131)):=(Only.refl _ w).alloc _
 have HI:Hid (ItAt (w.alloc (.cells #[.string nm,.int .u32 (wy:Int),.int .u32 (ck:Int),.int .u32 (sz:Int),.string pk] 131)) w.heap.size ⟨nm,wy,ck,sz,pk⟩):=Go.heap_alloc_new w _
 have HO:=hide hA
 have HB:=hide (bytesU pk (by omega) (w.alloc (.cells #[.string nm,.int .u32 (wy:Int),.int .u32 (ck:Int),.int .u32 (sz:Int),.string pk] 131)) (OrdAt.kept hord hA (fun x=>x)))
 clear hA hord
 obtain ⟨c0,c1,c2,c3,c4⟩:=(uh HI).cells
 simp only[It.v] at*
 by_cases hw0:wy=0
 ·rw[if_pos hw0] at HU
  subst hw0
  clear HB
  by_cases hz:pk.size=sz
  ·rw[if_pos hz] at HU
   subst hz
   have hans:=uh HU
   subst hans
   go_in
   go_wp2_with fail
   go_ret2
   exact ⟨rfl,HO⟩
  rw[if_neg hz] at HU
  have hans:=uh HU
  subst hans
  have hzI:((pk.size:Int) !=(sz:Int))=true:=by rw[bne_iff_ne];omega
  have hzJ:¬(pk.size:Int)=(sz:Int):=by omega
  go_in
  go_wp2_with fail
  go_ret2
  exact ⟨rfl,HO⟩
 rw[if_neg hw0] at HU
 have hw0I:((wy:Int)==0)=false:=by rw[beq_eq_false_iff_ne];omega
 have hw0J:¬(wy:Int)=0:=by omega
 generalize (inflate pk).1=z at*
 generalize (inflate pk).2.1=us at*
 generalize (inflate pk).2.2=er at*
 by_cases he:er=0
 ·by_cases hu:us=pk.size
  ·by_cases hz:z.size=sz
   ·rw[if_pos ⟨he,hu,hz⟩] at HU
    have hans:=uh HU
    subst hans he hu hz
    go_in
    go_wp2_with fail
    refine (uh HB).mono ?_
    rintro r w1 ⟨rfl,ho1⟩
    have HI1:=hide ((uh HI).kept ho1 (fun x=>x))
    have HO1:=hide (Only.trans (uh HO) ho1)
    obtain ⟨d0,d1,d2,d3,d4⟩:=(uh HI1).cells
    simp only at d0 d1 d2 d3 d4
    clear ho1 HB c0 c1 c2 c3 c4 HI HO
    go_wp2_with fail
    go_ret2
    exact ⟨rfl,HO1⟩
   rw[if_neg (fun h=>hz h.2.2)] at HU
   have hans:=uh HU
   subst hans he hu
   have hzI:((z.size:Int) !=(sz:Int))=true:=by rw[bne_iff_ne];omega
   have hzJ:¬(z.size:Int)=(sz:Int):=by omega
   go_in
   go_wp2_with fail
   refine (uh HB).mono ?_
   rintro r w1 ⟨rfl,ho1⟩
   have HI1:=hide ((uh HI).kept ho1 (fun x=>x))
   have HO1:=hide (Only.trans (uh HO) ho1)
   obtain ⟨d0,d1,d2,d3,d4⟩:=(uh HI1).cells
   simp only at d0 d1 d2 d3 d4
   clear ho1 HB c0 c1 c2 c3 c4 HI HO
   go_wp2_with fail
   go_ret2
   exact ⟨rfl,HO1⟩
  rw[if_neg (fun h=>hu h.2.1)] at HU
  have hans:=uh HU
  subst hans he
  have huI:((us:Int) !=(pk.size:Int))=true:=by rw[bne_iff_ne];omega
  have huJ:¬(us:Int)=(pk.size:Int):=by omega
  go_in
  go_wp2_with fail
  refine (uh HB).mono ?_
  rintro r w1 ⟨rfl,ho1⟩
  have HI1:=hide ((uh HI).kept ho1 (fun x=>x))
  have HO1:=hide (Only.trans (uh HO) ho1)
  obtain ⟨d0,d1,d2,d3,d4⟩:=(uh HI1).cells
  simp only at d0 d1 d2 d3 d4
  clear ho1 HB c0 c1 c2 c3 c4 HI HO
  go_wp2_with fail
  go_ret2
  exact ⟨rfl,HO1⟩
 rw[if_neg (fun h=>he h.1)] at HU
 have hans:=uh HU
 subst hans
 have heI:((er:Int) !=0)=true:=by rw[bne_iff_ne];omega
 have heJ:¬(er:Int)=0:=by omega
 go_in
 go_wp2_with fail
 refine (uh HB).mono ?_
 rintro r w1 ⟨rfl,ho1⟩
 have HI1:=hide ((uh HI).kept ho1 (fun x=>x))
 have HO1:=hide (Only.trans (uh HO) ho1)
 obtain ⟨d0,d1,d2,d3,d4⟩:=(uh HI1).cells
 simp only at d0 d1 d2 d3 d4
 clear ho1 HB c0 c1 c2 c3 c4 HI HO
 go_wp2_with fail
 go_ret2
 exact ⟨rfl,HO1⟩
theorem unpI_size(it:It)(hok:it.ok):(unpI it).1.size≤140737488355328:=by
 have h1:=hok.2.2.1
 have h2:=hok.2.2.2.2
 have h0:(⟨#[]⟩:ByteArray).size=0:=rfl
 unfold unpI
 by_cases a:it.way=0
 ·rw[if_pos a]
  by_cases b:it.packed.size=it.size
  ·rw[if_pos b];show it.packed.size≤_;omega
  rw[if_neg b];show (⟨#[]⟩:ByteArray).size≤_;omega
 rw[if_neg a]
 by_cases b:(inflate it.packed).2.2=0∧(inflate it.packed).2.1=it.packed.size∧(inflate it.packed).1.size=it.size
 ·rw[if_pos b];show (inflate it.packed).1.size≤_;omega
 rw[if_neg b];show (⟨#[]⟩:ByteArray).size≤_;omega
theorem dataA(it:It)(hok:it.ok)(w:World)(hord:OrdAt w):
 Calls Tryz.prog 174 #[.agg it.v] w fun r w' =>r=.returned (.tuple #[.string (datI it).1,.int .i64 (datI it).2])∧Old w w' :=by
 have HU:Hid (datI it=if (unpI it).2≠0 then (⟨#[]⟩,(unpI it).2) else if checkOf (unpI it).1=it.check then ((unpI it).1,0) else (⟨#[]⟩,8)):=rfl
 have hzz:(unpI it).1.size≤140737488355328:=unpI_size it hok
 have hA:Old w (w.alloc (.cells it.v 131)):=(Only.refl _ w).alloc _
 have HI:Hid (ItAt (w.alloc (.cells it.v 131)) w.heap.size it):=Go.heap_alloc_new w _
 have HO:=hide hA
 have H1:=hide (unpackedA it hok (w.alloc (.cells it.v 131)) (OrdAt.kept hord hA (fun x=>x)))
 have HC:=hide (fun W=>checkCode_any (unpI it).1 W (by unfold maxLen;omega))
 have hcl:=checkOf_lt (unpI it).1
 clear hA hord
 generalize datI it=ans at*
 generalize unpI it=un at*
 obtain ⟨z,er⟩:=un
 obtain ⟨nm,wy,ck,sz,pk⟩:=it
 obtain ⟨o1,o2,o3,o4,o5⟩:=hok
 obtain ⟨c0,c1,c2,c3,c4⟩:=(uh HI).cells
 simp only[It.v] at*
 generalize checkOf z=cz at*
 by_cases he:er=0
 ·subst he
  rw[if_neg (fun h=>h rfl)] at HU
  by_cases hck:cz=ck
  ·rw[if_pos hck] at HU
   have hans:=uh HU
   subst hans hck
   go_in
   go_wp2_with fail
   refine (uh H1).mono ?_
   rintro r w1 ⟨rfl,ho1⟩
   have HI1:=hide ((uh HI).kept ho1 (fun x=>x))
   have HO1:=hide (Only.trans (uh HO) ho1)
   have d2:=(uh HI1).cells.2.2.1
   simp only at d2
   clear H1 ho1 c0 c1 c2 c3 c4 HI HO
   go_wp2_with fail
   go_quiet ((go_at_call 71;exact Calls.quiet_of_same (uh HC _)))
   have HO2:=hide ((uh HO1).drewN nq)
   go_wp2_with fail
   go_ret2
   exact ⟨rfl,HO2⟩
  rw[if_neg hck] at HU
  have hans:=uh HU
  subst hans
  have hckI:((cz:Int) !=(ck:Int))=true:=by rw[bne_iff_ne];omega
  have hckJ:¬(cz:Int)=(ck:Int):=by omega
  go_in
  go_wp2_with fail
  refine (uh H1).mono ?_
  rintro r w1 ⟨rfl,ho1⟩
  have HI1:=hide ((uh HI).kept ho1 (fun x=>x))
  have HO1:=hide (Only.trans (uh HO) ho1)
  have d2:=(uh HI1).cells.2.2.1
  simp only at d2
  clear H1 ho1 c0 c1 c2 c3 c4 HI HO
  go_wp2_with fail
  go_quiet ((go_at_call 71;exact Calls.quiet_of_same (uh HC _)))
  have HO2:=hide ((uh HO1).drewN nq)
  go_wp2_with fail
  go_ret2
  exact ⟨rfl,HO2⟩
 rw[if_pos he] at HU
 have hans:=uh HU
 subst hans
 have heI:((er:Int) !=0)=true:=by rw[bne_iff_ne];omega
 have heJ:¬(er:Int)=0:=by omega
 go_in
 go_wp2_with fail
 refine (uh H1).mono ?_
 rintro r w1 ⟨rfl,ho1⟩
 have HO1:=hide (Only.trans (uh HO) ho1)
 clear ho1 H1 c0 c1 c2 c3 c4 HI HO
 go_wp2_with fail
 go_ret2
 exact ⟨rfl,HO1⟩
end Go.Proofs.YtndfmgdhiallpaaGreatDoor
