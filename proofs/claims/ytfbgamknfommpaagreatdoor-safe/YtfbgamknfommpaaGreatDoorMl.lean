import Derived.Test.YtfbgamknfommpaaGreatDoorMk
set_option maxRecDepth 100000
set_option maxHeartbeats 2000000
namespace Go.Proofs.YtfbgamknfommpaaGreatDoor
open Go.RowKit
def strCells(s:ByteArray):List Value:=(s.data.map fun b=>Value.int .u8 (b.toNat:Int)).toList
theorem strCells_len(s:ByteArray):(strCells s).length=s.size:=by rw[strCells,Array.length_toList,Array.size_map];rfl
theorem strCells_one(s:ByteArray): ∀u∈strCells s,u.oneCell' =true:=by
 intro u hu
 simp[strCells] at hu
 obtain ⟨b,_,rfl⟩:=hu
 rfl
theorem run_first_str{P:Program}(w:World)(size:Nat)(s:ByteArray):(Builtin.firstCells size s.size (.string s)).run P w=.ok (strCells s).toArray w:=by
 simp only[Builtin.firstCells,strCells]
 rw[ByteArray.extract_zero_size]
 rfl
theorem run_append_str_room{P:Program}(w:World)(t u ty e:TypeId)(i:TypeInfo)(ht:P.underlying t=some (.slice e))(hu:P.underlying u=some .string)(hi:P.info? e=some i)(hsize:i.size=1)
 (g sLen sCap:Nat)(cur:Array Value)(hg:w.heap[g]? =some (.cells cur e (0,0)))(s:ByteArray)
 (hroom:sLen+s.size≤sCap)(hfit:sLen+s.size≤cur.size):
 (Builtin.append_ #[t,u] ty #[.slice (some ⟨g,0,none⟩) sLen sCap,.string s]).run P w=
  .ok (.slice (some ⟨g,0,none⟩) (sLen+s.size) sCap) (w.setRow g (cur.toList.take sLen++strCells s++cur.toList.drop (sLen+(strCells s).length)).toArray):=by
 have hf:=run_first_str (P:=P) w i.size s
 have hst:=run_storeCells_at P g (sLen*i.size) e (strCells s) 0 cur w hg (by rw[hsize,strCells_len];omega) (strCells_one s)
 simp only[Nat.add_zero,hsize,Nat.mul_one] at hst hf
 simp[Builtin.append_,run_underlying ht,run_underlying hu,sizeOf,typeInfo,hi,Builtin.lenOf,hroom,hf,hsize,Addr.add_lit,hst]
theorem run_append_str_grow{P:Program}(w:World)(t u ty e:TypeId)(i:TypeInfo)(z:Value)(ht:P.underlying t=some (.slice e))(hu:P.underlying u=some .string)(hi:P.info? e=some i)(hz:i.zero=some z)(hsize:i.size=1)
 (b:Addr)(sLen sCap:Nat)(olds:List Value)(hlo:olds.length=sLen)(holds: ∀j u,olds[j]? =some u→w.cell? (b.add j)=some u)(s:ByteArray)
 (hg:sCap<sLen+s.size)(h63:((sLen+s.size:Nat):Int)≤9223372036854775807)(hfit:Builtin.nextslicecap (sLen+s.size) sCap*i.bytes≤281474976710656):
 (Builtin.append_ #[t,u] ty #[.slice (some b) sLen sCap,.string s]).run P w=
  .ok (.slice (some ⟨w.heap.size,0,none⟩) (sLen+s.size) (grownCap w (sLen+s.size) sCap e))
   (w.drew.alloc (.cells (olds.toArray++(strCells s).toArray++Builtin.zeroCells z.cells (grownCap w (sLen+s.size) sCap e- (sLen+s.size))) e)):=by
 have hn:¬(sLen+s.size≤sCap):=by omega
 have h63' :¬(9223372036854775807<((sLen:Int)+(s.size:Int))):=by omega
 have h48' :¬(281474976710656<Builtin.nextslicecap (sLen+s.size) sCap*i.bytes):=by omega
 have hf:=run_first_str (P:=P) w.drew i.size s
 have hfo:=run_firstCells_some (P:=P) w.drew i.size sLen b sLen sCap olds (by rw[hsize,Nat.mul_one];exact hlo) (by simpa using holds)
 rw[hsize] at hf hfo
 simp[Builtin.append_,run_underlying ht,run_underlying hu,sizeOf,typeInfo,zeroValue,hi,hz,Builtin.lenOf,hn,h63',h48',Question.forced,hf,hfo,hsize,newRow,grownCap]
 congr 2
 apply Array.ext'
 simp[List.append_assoc]
theorem run_append_str{P:Program}(w:World)(base:Nat)(t u ty e:TypeId)(i:TypeInfo)(z:Value)(ht:P.underlying t=some (.slice e))(hu:P.underlying u=some .string)(hi:P.info? e=some i)(hz:i.zero=some z)
 (hsize:i.size=1)(hby:i.bytes=1)(hzs:z.cells.size=1)(v:Value)(n:Nat)(xs:List Value)(hown:w.ownsRow base e 1 v n xs)(s:ByteArray)
 (h63:n+s.size≤maxLen)(hbytes:n+s.size≤140737488355328)(hbase:base≤w.heap.size):
 ∃ao cap w',(Builtin.append_ #[t,u] ty #[v,.string s]).run P w=.ok (.slice ao (n+s.size) cap) w' ∧w'.ownsRow base e 1 (.slice ao (n+s.size) cap) (n+s.size) (xs++strCells s)∧w.grownBy w' v.ownBlock∧(∀b:Addr,ao=some b→v.ownBlock=some b.block∨b.block=w.heap.size):=by
 have hxl:xs.length=n:=by rw[hown.1,Nat.mul_one]
 have hlen:(xs++strCells s).length=(n+s.size)*1:=by rw[List.length_append,strCells_len,hxl,Nat.mul_one]
 have grown: ∀(old:Nat),old<n+s.size→ ∀(row:Option Nat),
  (w.drew.alloc (.cells (xs.toArray++(strCells s).toArray++Builtin.zeroCells z.cells (grownCap w (n+s.size) old e- (n+s.size))) e)).ownsRow base e 1
   (.slice (some ⟨w.heap.size,0,none⟩) (n+s.size) (grownCap w (n+s.size) old e)) (n+s.size) (xs++strCells s)∧
  w.grownBy (w.drew.alloc (.cells (xs.toArray++(strCells s).toArray++Builtin.zeroCells z.cells (grownCap w (n+s.size) old e- (n+s.size))) e)) row:=by
  intro old ho row
  have hge:=grownCap_ge w (n+s.size) old e
  have hcm:=grownCap_le_maxLen w (n+s.size) old e h63
  refine ⟨⟨hlen,.inr ⟨w.heap.size,_,_,rfl,hbase,heap_alloc_new w.drew _,hge,hcm, ?_, ?_⟩⟩,⟨rfl,rfl,rfl,by simp,fun k hk _=>heap_alloc_old w.drew _ hk⟩⟩
  ·rw[Array.size_append,Array.size_append,List.size_toArray,List.size_toArray,size_zeroCells,hzs,hxl,strCells_len]
   omega
  rw[Array.toList_append,Array.toList_append,←hlen]
  exact List.take_left
 rcases hown.2 with ⟨rfl,rfl⟩|⟨g,cap,cur,rfl,hbg,hg,hnc,hcm,hcs,htake⟩
 ·have hx:xs=[]:=List.eq_nil_of_length_eq_zero hxl
  subst hx
  by_cases h0:s.size=0
  ·have hsc:strCells s=[]:=List.eq_nil_of_length_eq_zero (by rw[strCells_len];exact h0)
   have hf:=run_first_str (P:=P) w 1 s
   rw[h0,hsc] at hf
   rw[h0,hsc]
   refine ⟨none,0,w, ?_,World.ownsRow_nil w base e 1,⟨rfl,rfl,rfl,Nat.le_refl _,fun _ _ _=>rfl⟩,fun b hb=>by cases hb⟩
   simp[Builtin.append_,run_underlying ht,run_underlying hu,sizeOf,typeInfo,hi,Builtin.lenOf,h0,hsize,hf]
  have hr:=run_append_nil_string (P:=P) w t u ty e i z ht hu hi hz s (by omega) (by unfold maxLen at h63;omega) (by rw[hby];omega)
  have hgr:=grown 0 (by omega) (Value.ownBlock (.slice none 0 0))
  simp only[Nat.zero_add,List.nil_append,Array.empty_append] at hgr ⊢
  exact ⟨_,_,_,hr,hgr.1,hgr.2,fun b hb=>by injection hb with hb;subst hb;exact .inr rfl⟩
 by_cases hroom:n+s.size≤cap
 ·have hr:=run_append_str_room (P:=P) w t u ty e i ht hu hi hsize g n cap cur hg s hroom (by omega)
  refine ⟨_,_,_,hr,⟨hlen,.inr ⟨g,cap,_,rfl,hbg,setRow_heap w g cur _ e _ hg,hroom,hcm, ?_, ?_⟩⟩,⟨rfl,rfl,rfl,by simp,fun k _ hk=>setRow_other w g k _ (fun e=>hk (by simp[Value.ownBlock,e]))⟩,fun b hb=>by injection hb with hb;subst hb;exact .inl rfl⟩
  ·simp only[List.size_toArray,List.length_append,List.length_take,List.length_drop,Array.length_toList,strCells_len]
   omega
  rw[Nat.mul_one] at htake
  rw[htake,←hlen]
  exact List.take_left
 have holds: ∀j u,xs[j]? =some u→w.cell? ((⟨g,0,none⟩:Addr).add j)=some u:=hown.cells (g:=g) rfl
 have hr:=run_append_str_grow (P:=P) w t u ty e i z ht hu hi hz hsize ⟨g,0,none⟩ n cap xs hxl holds s (by omega) (by unfold maxLen at h63;omega) (growslice_fits (by omega) (by rw[hby];omega))
 have hgr:=grown cap (by omega) (Value.ownBlock (.slice (some ⟨g,0,none⟩) n cap))
 exact ⟨_,_,_,hr,hgr.1,hgr.2,fun b hb=>by injection hb with hb;subst hb;exact .inr rfl⟩
theorem wpList_append_str{P:Program}{w:World}{ops:Array Oper}{rest:List Oper}{o:Oper}{a:Act}{Q:Exit→Act→World→Prop}(hgd:o.guard=none)(x y:Operand)(t u:TypeId)
 (ho:o.op=.call {callee:=.builtin .append,args:= #[x,y],argTypes:= #[t,u]})
 (base:Nat)(e:TypeId)(i:TypeInfo)(z:Value)(ht:P.underlying t=some (.slice e))(hu:P.underlying u=some .string)(hi:P.info? e=some i)(hz:i.zero=some z)
 (hsize:i.size=1)(hby:i.bytes=1)(hzs:z.cells.size=1)(v:Value)(n:Nat)(xs:List Value)(hs:a.eval x=v)(hown:w.ownsRow base e 1 v n xs)(s:ByteArray)(hy:a.eval y=.string s)
 (h63:n+s.size≤maxLen)(hbytes:n+s.size≤140737488355328)(hbase:base≤w.heap.size)
 (h: ∀ao cap w',w'.ownsRow base e 1 (.slice ao (n+s.size) cap) (n+s.size) (xs++strCells s)→w.grownBy w' v.ownBlock→(∀b:Addr,ao=some b→v.ownBlock=some b.block∨b.block=w.heap.size)→wpList P ops Q rest (a.put o.dst (.slice ao (n+s.size) cap)) w'):wpList P ops Q (o::rest) a w:=by
 refine wpList_plain hgd fun _ hK=> ?_
 obtain ⟨ao,cap,w',hr,h2,h3,h4⟩:=run_append_str (P:=P) w base t u o.type e i z ht hu hi hz hsize hby hzs v n xs hown s h63 hbytes hbase
 unfold Oper.wp execOp
 simp only[ho,resolve,invoke,builtin,Sem.run_bind,Sem.run_pure,Result.andThen_ok,List.map_toArray,List.map_cons,List.map_nil,hs,hy,hr]
 exact hK _ _ (h ao cap w' h2 h3 h4)
open Go.RowKit Go.Maps
theorem raw_cut{s:ByteArray}{a:Nat}{l:List UInt8}(h:8*s.size<upTo a+32):rawS s a l=.inr 2:=by unfold rawS;rw[if_pos h]
theorem raw_turn{s:ByteArray}{a n m:Nat}{l:List UInt8}(hn:numAt s (upTo a) 16=n)(hm:numAt s (upTo a+16) 16=m)(h:n+m≠65535):rawS s a l=.inr 2:=by
 unfold rawS;rw[hn,hm,if_pos h];split<;>rfl
theorem raw_large{s:ByteArray}{a n m:Nat}{l:List UInt8}(h0:upTo a+32≤8*s.size)(hn:numAt s (upTo a) 16=n)(hm:numAt s (upTo a+16) 16=m)(h:n+m=65535)(h1:20000<l.length+n):rawS s a l=.inr 1:=by
 unfold rawS;rw[hn,hm,if_neg (by omega),if_neg (by omega),if_pos h1]
theorem raw_few{s:ByteArray}{a n m:Nat}{l:List UInt8}(h0:upTo a+32≤8*s.size)(hn:numAt s (upTo a) 16=n)(hm:numAt s (upTo a+16) 16=m)(h:n+m=65535)(h1:¬20000<l.length+n)(h2:8*s.size<upTo a+32+8*n):rawS s a l=.inr 2:=by
 unfold rawS;rw[hn,hm,if_neg (by omega),if_neg (by omega),if_neg h1,if_pos h2]
theorem raw_all{s:ByteArray}{a n m:Nat}{l:List UInt8}(h0:upTo a+32≤8*s.size)(hn:numAt s (upTo a) 16=n)(hm:numAt s (upTo a+16) 16=m)(h:n+m=65535)(h1:¬20000<l.length+n)(h2:¬8*s.size<upTo a+32+8*n):
 rawS s a l=.inl ((upTo a+32+8*n),(l++rawB s (upTo a/8+4) n)):=by
 unfold rawS;rw[hn,hm,if_neg (by omega),if_neg (by omega),if_neg h1,if_neg h2]
theorem str_raw(s:ByteArray)(q n:Nat)(h:q+n≤s.size):(s.extract q (q+n)).size=n∧strCells (s.extract q (q+n))=byteCells8 (rawB s q n):=by
 have h1:(s.extract q (q+n)).size=n:=by rw[ByteArray.size_extract];omega
 refine ⟨h1, ?_⟩
 apply List.ext_getElem
 ·rw[strCells_len,h1];simp[byteCells8,rawB]
 intro i hi1 hi2
 rw[strCells_len,h1] at hi1
 have hb:s.data.size=s.size:=rfl
 simp[strCells,byteCells8,rawB,btN,ByteArray.data_extract]
 rw[dif_pos (by omega),b8_toNat (byte_lt _)]
 rfl
theorem StU.pushes{w w1 w3:World}{g:Nat}{S:Nat→Prop}(hSg:S g){s:ByteArray}{a:Nat}{l bs:List UInt8}{ao ao2:Option Addr}{cap cap2 H:Nat}(hF:S H)
 (hs: ∀b:Addr,ao=some b→S b.block)(h01:Only S w w1)(hup:Up w1 g s a (.slice ao l.length cap))(how:w1.ownsRow 0 5 1 (.slice ao l.length cap) l.length (byteCells8 l))
 (ho3:w3.ownsRow 0 5 1 (.slice ao2 (l.length+bs.length) cap2) (l.length+bs.length) (byteCells8 l++byteCells8 bs))(hg3:w1.grownBy w3 (Value.slice ao l.length cap).ownBlock)(hl3: ∀b:Addr,ao2=some b→(Value.slice ao l.length cap).ownBlock=some b.block∨b.block=H):
 Up w3 g s a (.slice ao l.length cap)∧Only S w (w3.setCell ⟨g,2,none⟩ (.slice ao2 (l.length+bs.length) cap2))∧StU (w3.setCell ⟨g,2,none⟩ (.slice ao2 (l.length+bs.length) cap2)) g S s a (l++bs):=by
 have hup3:Up w3 g s a (.slice ao l.length cap):=(hg3.block g hup.lt (fun hh=>own_neU how hh.symm hup rfl)).trans hup
 have hw4:Only S w w3:=h01.grown hg3 (fun k _ hk=>by
  cases ao with
  |none=>cases hk
  |some b=>injection hk with hk;subst hk;exact hs b rfl)
 have hl4:(l++bs).length=l.length+bs.length:=List.length_append
 refine ⟨hup3,hw4.setCell (p:=⟨g,2,none⟩) (fun _=>hSg) _,ao2,cap2, ?_, ?_, ?_⟩
 ·rw[hl4];exact hup3.set2 _
 ·have e2:byteCells8 (l++bs)=byteCells8 l++byteCells8 bs:=by simp only[byteCells8,List.map_append]
  rw[hl4,e2]
  exact own_kept ho3 (only_set w3 g 2 _) (fun b hb=>own_neU ho3 hb hup3)
 intro b hb
 rcases hl3 b hb with h5|h5
 ·cases ao with
  |none=>cases h5
  |some b' =>injection h5 with h5;rw[←h5];exact hs b' rfl
 rw[h5];exact hF
theorem plainU(g:Nat)(S:Nat→Prop)(hSg:S g)(s:ByteArray)(hs:s.size≤140737488355328)(a:Nat)(l:List UInt8)(hl:l.length≤20000)(ha:a≤8*s.size)(w:World)(hF:Fresh S w)(h:StU w g S s a l):
 Calls Tryz.prog 112 #[.pointer (some ⟨g,0,none⟩)] w fun r w' =>Only S w w' ∧ ∃e:Nat,r=.returned (.int .i64 e)∧SymU s (rawS s a l) w' g S e:=by
 obtain ⟨i0,hi0,hz0,hz1,hz2⟩:=info_parts infoB5
 obtain ⟨ao,cp,hr,how,hsa⟩:=h
 have HSK:=hide (skipC g s hs a (.slice ao l.length cp) ha w hr)
 have hp:=upTo_le ha
 have hpm:=(upTo_ge a).2.2
 have HR:=hide hr
 have HOW:=hide how
 have HSA:=hide hsa
 have HRC:=hide (fun h=>raw_cut (s:=s) (a:=a) (l:=l) h)
 have HRT:=hide (fun n m hn hm h=>raw_turn (s:=s) (a:=a) (l:=l) (n:=n) (m:=m) hn hm h)
 have HRL:=hide (fun n m h0 hn hm h h1=>raw_large (s:=s) (a:=a) (l:=l) (n:=n) (m:=m) h0 hn hm h h1)
 have HRF:=hide (fun n m h0 hn hm h h1 h2=>raw_few (s:=s) (a:=a) (l:=l) (n:=n) (m:=m) h0 hn hm h h1 h2)
 have HRA:=hide (fun n m h0 hn hm h h1 h2=>raw_all (s:=s) (a:=a) (l:=l) (n:=n) (m:=m) h0 hn hm h h1 h2)
 clear hr how hsa
 generalize upTo a=p at*
 generalize rawS s a l=R at*
 go_in
 go_wp2_with fail
 refine (uh HSK).mono ?_
 rintro r w1 ⟨rfl,hup1,ho1⟩
 have HO1:=hide ho1
 have HN1:=hide (numberC g s hs p (.slice ao l.length cp) 16 (by omega) hp w1 hup1)
 clear HSK hup1 ho1
 go_wp2_with fail
 refine (uh HN1).mono ?_
 rintro r w2 ⟨ho2,hcs⟩
 have HO2:=hide ((uh HO1).trans ho2)
 clear HN1 ho2
 rcases hcs with ⟨hl1,rfl,hup2⟩|⟨hl1,rfl,hup2⟩
 ·have HN2:=hide (numberC g s hs (p+16) (.slice ao l.length cp) 16 (by omega) hl1 w2 hup2)
  clear hup2
  go_wp2_with fail
  refine (uh HN2).mono ?_
  rintro r w3 ⟨ho3,hcs⟩
  have HO3:=hide ((uh HO2).trans ho3)
  clear HN2 ho3
  rcases hcs with ⟨hl2,rfl,hup3⟩|⟨hl2,rfl,hup3⟩
  ·have b1:numAt s p 16<65536:=numAt_lt s p 16
   have b2:numAt s (p+16) 16<65536:=numAt_lt s (p+16) 16
   generalize hn:numAt s p 16=n at*
   generalize hm:numAt s (p+16) 16=m at*
   have hRT:=uh HRT n m rfl rfl
   have hRL:=uh HRL n m (by omega) rfl rfl
   have hRF:=uh HRF n m (by omega) rfl rfl
   have hRA:=uh HRA n m (by omega) rfl rfl
   clear hn hm HRT HRL HRF HRA HRC
   have HUP3:=hide hup3
   clear hup3
   by_cases ht:n+m=65535
   ·have htI:((m:Int)==65535- (n:Int))=true:=by rw[beq_iff_eq];omega
    have htI2:(m:Int)=65535- (n:Int):=by omega
    have HRM:=hide (roomC g s (p+16+16) ao l.length cp n hl w3 (uh HUP3))
    have e32:p+16+16=8*(p/8+4):=by omega
    have HUQ:Hid (Up w3 g s (8*(p/8+4)) (.slice ao l.length cp)):=by have:=uh HUP3;rw[e32] at this;exact this
    by_cases hbig:20000<l.length+n
    ·rw[decide_eq_false (show ¬l.length+n≤20000 by omega)] at HRM
     have HB:=hide (hRL ht hbig)
     clear hRT hRL hRF hRA
     go_wp2_with fail
     refine (uh HRM).mono ?_
     rintro r w4 ⟨rfl,rfl⟩
     go_wp2_with fail
     go_ret
     exact ⟨(uh HO3).of_g hSg,1,rfl,.inr ⟨HB,by omega⟩⟩
    rw[decide_eq_true (show l.length+n≤20000 by omega)] at HRM
    by_cases hfew:8*s.size<p+32+8*n
    ·have HBY:=hide (bytesC_end g s hs (p/8+4) (.slice ao l.length cp) n (by omega) (by omega) (by omega) w3 (uh HUQ))
     have HB:=hide (hRF ht hbig hfew)
     clear hRT hRL hRF hRA
     go_wp2_with fail
     refine (uh HRM).mono ?_
     rintro r w4 ⟨rfl,rfl⟩
     go_wp2_with fail
     refine (uh HBY).mono ?_
     rintro r w5 ⟨rfl,rfl⟩
     go_wp2_with fail
     go_ret
     exact ⟨(uh HO3).of_g hSg,2,rfl,.inr ⟨HB,by omega⟩⟩
    have HBY:=hide (bytesC_ok g s hs (p/8+4) (.slice ao l.length cp) n (by omega) w3 (uh HUQ))
    have HB:=hide (hRA ht hbig hfew)
    clear hRT hRL hRF hRA
    go_wp2_with fail
    refine (uh HRM).mono ?_
    rintro r w4 ⟨rfl,rfl⟩
    go_wp2_with fail
    refine (uh HBY).mono ?_
    rintro r w5 ⟨rfl,hup5,ho5⟩
    have HO5:=hide ((uh HO3).trans ho5)
    have HUP5:=hide hup5
    have hc25:=hup5.c2
    have hf25:=hup5.thaw 2
    have HOW5:=hide (own_kept (uh HOW) (uh HO5) (fun b hb=>own_neU (uh HOW) hb (uh HR)))
    obtain ⟨hxs,hxc⟩:=str_raw s (p/8+4) n (by omega)
    have HFW:Hid (S w5.heap.size):=hF _ (by have:=(uh HO5).size;omega)
    generalize s.extract (p/8+4) (p/8+4+n)=x at hxs hxc ⊢
    have hbl:=rawB_len s (p/8+4) n
    have HPU:=hide (fun w3' ao2 cap2=>StU.pushes (w:=w) (w1:=w5) (w3:=w3') (ao2:=ao2) (cap2:=cap2) (bs:=rawB s (p/8+4) n) hSg (uh HFW) (uh HSA) ((uh HO5).of_g hSg) (uh HUP5) (uh HOW5))
    clear hup5 ho5 HBY HRM
    go_wp2_with (at_builtin;refine wpList_append_str rfl (.tmp 53) (.tmp 54) 64 9 rfl 0 5 i0 (.int .u8 0) Tryz.underlying64 Tryz.underlying9 hi0 hz0 hz1 hz2 rfl (.slice ao l.length cp) l.length _ rfl (uh HOW5) x rfl (by unfold maxLen;omega) (by omega) (by omega) ?_;intro ao6 cap6 w6 ho6 hg6 hl6;rw[hxs,hxc] at ho6;rw[hxs];obtain ⟨hup6,hO6,hst6⟩:=uh HPU w6 ao6 cap6 (by rw[hbl];exact ho6) hg6 hl6;rw[hbl] at hO6 hst6;have hc26:=hup6.c2;have hf26:=hup6.thaw 2;have HO6:=hide hO6;have HST6:=hide hst6;clear ho6 hg6 hl6 hup6 hO6 hst6)
    go_ret
    exact ⟨HO6,0,rfl,.inl ⟨_,_,uh HB,rfl,by omega,by rw[List.length_append,hbl];omega,by rw[show p+32+8*n=8*(p/8+4)+8*n by omega];exact uh HST6⟩⟩
   have htI:((m:Int)==65535- (n:Int))=false:=by rw[beq_eq_false_iff_ne];omega
   have HB:=hide (hRT ht)
   clear hRT hRL hRF hRA
   go_wp2_with fail
   go_ret
   exact ⟨(uh HO3).of_g hSg,2,rfl,.inr ⟨HB,by omega⟩⟩
  have HB:=hide (uh HRC (by omega))
  go_wp2_with fail
  go_ret
  exact ⟨(uh HO3).of_g hSg,2,rfl,.inr ⟨HB,by omega⟩⟩
 have HB:=hide (uh HRC (by omega))
 go_wp2_with fail
 go_ret
 exact ⟨(uh HO2).of_g hSg,2,rfl,.inr ⟨HB,by omega⟩⟩
theorem head3(s:ByteArray)(a:Nat):numAt s a 3=numAt s a 1+numAt s (a+1) 2*2:=by
 rw[show (3:Nat)=1+2 from rfl,numAt_add]
theorem block_cut{s:ByteArray}{a:Nat}{l:List UInt8}(h:8*s.size<a+3):blockS s a l=.inr 2:=by unfold blockS;rw[if_pos h]
theorem block_kind{s:ByteArray}{a:Nat}{l:List UInt8}(h:¬8*s.size<a+3):blockS s a l=kindS s a l:=by unfold blockS;rw[if_neg h]
theorem kind_0{s:ByteArray}{a:Nat}{l:List UInt8}(h:numAt s (a+1) 2=0):kindS s a l=rawS s (a+3) l:=by unfold kindS;rw[h];rfl
theorem kind_1{s:ByteArray}{a:Nat}{l:List UInt8}(h:numAt s (a+1) 2=1):kindS s a l=symS s fixL fixD (a+3) l:=by unfold kindS;rw[h];rfl
theorem kind_2n{s:ByteArray}{a:Nat}{l:List UInt8}(h:numAt s (a+1) 2=2)(ht:toldS s (a+3)=none):kindS s a l=.inr 2:=by unfold kindS;rw[h];simp only[ht]
theorem kind_2s{s:ByteArray}{a a' :Nat}{l:List UInt8}{L D:List Nat}(h:numAt s (a+1) 2=2)(ht:toldS s (a+3)=some (a',L,D)):kindS s a l=symS s L D a' l:=by unfold kindS;rw[h];simp only[ht]
theorem kind_3{s:ByteArray}{a:Nat}{l:List UInt8}(h:numAt s (a+1) 2=3):kindS s a l=.inr 2:=by unfold kindS;rw[h];rfl
theorem Fresh.more{S:Nat→Prop}{w w' :World}(h:Fresh S w)(hs:w.heap.size≤w'.heap.size):Fresh S w' :=fun k hk=>h k (Nat.le_trans hs hk)
theorem blockU(g:Nat)(hgo:g≠2)(S:Nat→Prop)(hSg:S g)(s:ByteArray)(hs:s.size≤140737488355328)(a:Nat)(l:List UInt8)(hl:l.length≤20000)(ha:a≤8*s.size)
 (gF gD:Nat)(K:Nat→Prop)(hKS: ∀k,K k→¬S k)(w:World)(hF:Fresh S w)(hord:OrdAt w)(h:StU w g S s a l)(hIL:SetAt w gF K fixL)(hID:SetAt w gD K fixD):
 Calls Tryz.prog 70 #[.pointer (some ⟨g,0,none⟩),.agg #[.pointer (some ⟨gF,0,none⟩),.pointer (some ⟨gD,0,none⟩)]] w fun r w' =>
  Only S w w' ∧ ∃(b:Bool) (e:Nat),r=.returned (.tuple #[.bool b,.int .i64 e])∧SymU s (blockS s a l) w' g S e∧(e=0→b=decide (numAt s a 1=1)):=by
 have hgl:g<w.heap.size:=by obtain ⟨_,_,hr,_⟩:=h;exact hr.lt
 obtain ⟨ao,cp,hr,how,hsa⟩:=h
 have hA:Only (fun _=>False) w (w.alloc (.cells #[.pointer (some ⟨gF,0,none⟩),.pointer (some ⟨gD,0,none⟩)] 118)):=(Only.refl _ w).alloc _
 have HN:=hide (numberC g s hs a (.slice ao l.length cp) 3 (by omega) ha _ (hr.kept hA (fun x=>x)))
 have HO0:=hide (Only.oldS (S:=S) hA)
 have HOW0:=hide (own_old how hA)
 have HUP0:=hide (hr.kept hA (fun x=>x))
 have HSA:=hide hsa
 have HIL0:=hide (hIL.old hA)
 have HID0:=hide (hID.old hA)
 have HORD0:=hide (hord.kept hA (fun x=>x))
 have HBX0:Hid ((w.alloc (.cells #[.pointer (some ⟨gF,0,none⟩),.pointer (some ⟨gD,0,none⟩)] 118)).heap[w.heap.size]? =some (.cells #[.pointer (some ⟨gF,0,none⟩),.pointer (some ⟨gD,0,none⟩)] 118 (0,0))):=Go.heap_alloc_new w _
 have hs0:w.heap.size<(w.alloc (.cells #[.pointer (some ⟨gF,0,none⟩),.pointer (some ⟨gD,0,none⟩)] 118)).heap.size:=by simp only[World.size_alloc];omega
 clear hr how hsa hIL hID hord hA
 go_in
 go_wp2_with fail
 refine (uh HN).mono ?_
 rintro r w1 ⟨ho1,hcs⟩
 have HO1:=hide ((uh HO0).trans (ho1.of_g hSg))
 have hst1: ∀a',Up w1 g s a' (.slice ao l.length cp)→StU w1 g S s a' l:=fun a' hu=>StU.next (uh HUP0) (uh HOW0) (uh HSA) ho1 hu
 have HST1:=hide hst1
 have HIL1:=hide ((uh HIL0).kept ho1 (fun k hk e=>hKS k hk (e ▸ hSg)))
 have HID1:=hide ((uh HID0).kept ho1 (fun k hk e=>hKS k hk (e ▸ hSg)))
 have HORD1:=hide ((uh HORD0).kept ho1 (fun e=>hgo e.symm))
 have hbx1:=(ho1.block w.heap.size hs0 (by omega)).trans (uh HBX0)
 have hs1:w.heap.size<w1.heap.size:=Nat.lt_of_lt_of_le hs0 ho1.size
 have HF1:=hide (hF.more (w' :=w1) (by omega))
 clear HN HO0 HOW0 HUP0 HIL0 HID0 HORD0 HBX0 hs0 ho1 hst1
 rcases hcs with ⟨hle,rfl,hup1⟩|⟨hle,rfl,hup1⟩
 ·have HBK:=hide (block_kind (s:=s) (a:=a) (l:=l) (by omega))
  rw[head3]
  have b1:=numAt_lt s a 1
  have b2:=numAt_lt s (a+1) 2
  have HK0:=hide (kind_0 (s:=s) (a:=a) (l:=l))
  have HK1:=hide (kind_1 (s:=s) (a:=a) (l:=l))
  have HK2n:=hide (kind_2n (s:=s) (a:=a) (l:=l))
  have HK2s:=hide (fun a' L D=>kind_2s (s:=s) (a:=a) (l:=l) (a' :=a') (L:=L) (D:=D))
  have HK3:=hide (kind_3 (s:=s) (a:=a) (l:=l))
  have HS:=hide (uh HST1 _ hup1)
  have HUP1:=hide hup1
  clear hup1
  generalize hn1:numAt s a 1=n1 at*
  have HN1:=hide hn1
  clear hn1
  generalize numAt s (a+1) 2=n2 at*
  generalize hh:n1+n2*2=hd
  have q1:bits .and .i64 (hd:Int) 1=(n1:Int):=by rw[i64_low hd (by omega)];omega
  have q2:(hd:Int)/2=(n2:Int):=by omega
  have hb:((n1:Int)==1)=decide (n1=1):=by
   by_cases h1:n1=1
   ·subst h1;rfl
   rw[decide_eq_false h1,beq_eq_false_iff_ne];omega
  clear hh
  have HBL:Hid (decide (n1=1)=decide (numAt s a 1=1)):=by unfold Hid;rw[uh HN1]
  generalize decide (n1=1)=bl at hb HBL
  by_cases h0:n2=0
  ·subst h0
   have HBE:=hide ((uh HBK).trans (uh HK0 rfl))
   have HP:=hide (plainU g S hSg s hs (a+3) l hl hle w1 (uh HF1) (uh HS))
   go_wp2_with fail
   refine (uh HP).mono ?_
   rintro r w2 ⟨ho2,e,rfl,hsym⟩
   have HO2:=hide ((uh HO1).trans ho2)
   have HSY:=hide hsym
   clear ho2 hsym HP
   go_wp2_with fail
   go_ret2
   exact ⟨HO2,bl,e,rfl,by rw[uh HBE];exact uh HSY,fun _=>uh HBL⟩
  by_cases h1:n2=1
  ·subst h1
   have HBE:=hide ((uh HBK).trans (uh HK1 rfl))
   have HP:=hide (symbolsU g S hSg s hs (a+3) l hl hle gF gD K hKS fixL fixD (by rw[fixL_len];omega) (by rw[fixD_len];omega) w1 (uh HF1) (uh HS) (uh HIL1) (uh HID1))
   go_wp2_with (refine wpList_load_row rfl 118 (.tmp 3) rfl w.heap.size rfl 118 #[.pointer (some ⟨gF,0,none⟩),.pointer (some ⟨gD,0,none⟩)] (0,0) _ hbx1 Tryz.underlying118 rfl infoSets ?_)
   refine (uh HP).mono ?_
   rintro r w2 ⟨ho2,e,rfl,hsym⟩
   have HO2:=hide ((uh HO1).trans ho2)
   have HSY:=hide hsym
   clear ho2 hsym HP
   go_wp2_with fail
   go_ret2
   exact ⟨HO2,bl,e,rfl,by rw[uh HBE];exact uh HSY,fun _=>uh HBL⟩
  have h0b:((n2:Int)==0)=false:=by rw[beq_eq_false_iff_ne];omega
  have h1b:((n2:Int)==1)=false:=by rw[beq_eq_false_iff_ne];omega
  by_cases h2:n2=2
  ·subst h2
   have HKA:=hide (fun a' L D=>uh HK2s a' L D rfl)
   have HKB:=hide (uh HK2n rfl)
   have HT:=hide (toldC g hgo s hs (a+3) (.slice ao l.length cp) hle w1 (uh HORD1) (uh HUP1))
   go_wp2_with fail
   refine (uh HT).mono ?_
   rintro r w2 ⟨ho2,hcs⟩
   have hs2:=ho2.size
   have HO2:=hide ((uh HO1).trans (ho2.of_g hSg))
   clear HT
   rcases hcs with ⟨a',L,D,gL,gD',htold,ha',hL,hD,rfl,hup2,hSL,hSD⟩|⟨htold,rfl⟩
   ·have HBE:=hide ((uh HBK).trans (uh HKA a' L D htold))
    have hA2:Only (fun k=>k=w2.heap.size) w2 ((w2.alloc (.cells #[.pointer none,.pointer none] 118)).setRow w2.heap.size #[.pointer (some ⟨gL,0,none⟩),.pointer (some ⟨gD',0,none⟩)]):=((Only.refl (fun k=>k=w2.heap.size) w2).alloc _).setRow w2.heap.size (fun _=>rfl) _
    have hz2:(w2.alloc (.cells #[.pointer none,.pointer none] 118)).heap[w2.heap.size]? =some (.cells #[.pointer none,.pointer none] 118 (0,0)):=Go.heap_alloc_new w2 _
    have hz3:=setRow_heap (w2.alloc (.cells #[.pointer none,.pointer none] 118)) w2.heap.size _ #[.pointer (some ⟨gL,0,none⟩),.pointer (some ⟨gD',0,none⟩)] _ _ hz2
    have hup3:=hup2.kept hA2 (by omega)
    obtain ⟨ao1,cp1,hr1,how1,hsa1⟩:=uh HS
    have hr1' :=(uh HUP1)
    have hst2:StU w2 g S s a' l:=by
     have e:=hr1.c2.symm.trans hr1'.c2
     injection e with e
     injection e with e1 e2 e3
     subst e1 e3
     exact StU.next hr1 how1 hsa1 ho2 hup2
    have hst3:StU ((w2.alloc (.cells #[.pointer none,.pointer none] 118)).setRow w2.heap.size #[.pointer (some ⟨gL,0,none⟩),.pointer (some ⟨gD',0,none⟩)]) g (fun k=>S k∧¬(w1.heap.size≤k∧k<w2.heap.size)) s a' l:=by
     have e:=hr1.c2.symm.trans hr1'.c2
     injection e with e
     injection e with e1 e2 e3
     subst e1 e3
     have how2:=own_kept how1 ho2 (fun b hb=>own_neU how1 hb hr1)
     have hlt: ∀b,(Value.slice ao1 l.length cp1).ownBlock=some b→b<w1.heap.size:=fun b hb=>by
      obtain ⟨cur,hg⟩:=own_heap how1 hb
      exact (Array.getElem?_eq_some_iff.1 hg).1
     refine ⟨ao1,cp1,hup3,own_kept how2 hA2 (fun b hb e=>by have:=hlt b hb;omega),fun b hb=>⟨hsa1 b hb,fun hh=> ?_⟩⟩
     have:=hlt b.block (by rw[hb];rfl)
     omega
    have hF3:Fresh (fun k=>S k∧¬(w1.heap.size≤k∧k<w2.heap.size)) ((w2.alloc (.cells #[.pointer none,.pointer none] 118)).setRow w2.heap.size #[.pointer (some ⟨gL,0,none⟩),.pointer (some ⟨gD',0,none⟩)]):=fun k hk=>by
     have:=hA2.size
     exact ⟨uh HF1 k (by omega),fun hh=>by omega⟩
    have HP:=hide (symbolsU g (fun k=>S k∧¬(w1.heap.size≤k∧k<w2.heap.size)) ⟨hSg,fun hh=>by omega⟩ s hs a' l hl ha' gL gD' (fun k=>w1.heap.size≤k∧k<w2.heap.size) (fun k hk hh=>hh.2 hk) L D hL hD _ hF3 hst3 (hSL.kept hA2 (fun k hk e=>by omega)) (hSD.kept hA2 (fun k hk e=>by omega)))
    have HOA2:=hide hA2
    have hSw2:S w2.heap.size:=uh HF1 _ hs2
    clear hA2 hup3 hr1' hst2 hst3 hF3 hup2 hSL hSD htold ho2 hr1 how1 hsa1
    go_wp2_with (first
     |(refine wpList_store_row rfl 118 (.tmp 9) (.tmp 43) rfl w2.heap.size #[.pointer (some ⟨gL,0,none⟩),.pointer (some ⟨gD',0,none⟩)] rfl rfl 118 _ hz2 infoSets rfl (ptr2_one _ _) ?_)
     |(refine wpList_load_row rfl 118 (.tmp 9) rfl w2.heap.size rfl 118 #[.pointer (some ⟨gL,0,none⟩),.pointer (some ⟨gD',0,none⟩)] (0,0) _ hz3 Tryz.underlying118 rfl infoSets ?_))
    refine (uh HP).mono ?_
    rintro r w4 ⟨ho4,e,rfl,hsym⟩
    have HO4:=hide (((uh HO2).trans ((uh HOA2).mono (fun k _ e=>e ▸ hSw2))).trans (ho4.mono (fun k _ h=>h.1)))
    have HSY:Hid (SymU s (symS s L D a' l) w4 g S e):=by
     rcases hsym with ⟨a9,l9,h1,h2,h3,h4,h5⟩|h
     ·exact .inl ⟨a9,l9,h1,h2,h3,h4,h5.mono1 (fun k h=>h.1)⟩
     exact .inr h
    clear ho4 hsym HP
    go_wp2_with fail
    go_ret2
    exact ⟨HO4,bl,e,rfl,by rw[uh HBE];exact uh HSY,fun _=>uh HBL⟩
   have HBD:=hide ((uh HBK).trans (uh HKB htold))
   have hz2:(w2.alloc (.cells #[.pointer none,.pointer none] 118)).heap[w2.heap.size]? =some (.cells #[.pointer none,.pointer none] 118 (0,0)):=Go.heap_alloc_new w2 _
   have HOA2:=hide (((Only.refl (fun k=>k=w2.heap.size) w2).alloc (.cells #[.pointer none,.pointer none] 118)).setRow w2.heap.size (fun _=>rfl) #[.pointer none,.pointer none])
   have hSw2:S w2.heap.size:=uh HF1 _ hs2
   clear htold ho2
   go_wp2_with (refine wpList_store_row rfl 118 (.tmp 9) (.tmp 43) rfl w2.heap.size #[.pointer none,.pointer none] rfl rfl 118 _ hz2 infoSets rfl (ptr2_one _ _) ?_)
   go_ret2
   exact ⟨(uh HO2).trans ((uh HOA2).mono (fun k _ e=>e ▸ hSw2)),false,2,rfl,.inr ⟨HBD,by omega⟩,fun h=>by cases h⟩
  have h2b:((n2:Int)==2)=false:=by rw[beq_eq_false_iff_ne];omega
  have h3:n2=3:=by omega
  have HBD:=hide ((uh HBK).trans (uh HK3 h3))
  clear h3
  go_wp2_with fail
  go_ret2
  exact ⟨HO1,false,2,rfl,.inr ⟨HBD,by omega⟩,fun h=>by cases h⟩
 have HBD:=hide (block_cut (l:=l) hle)
 go_wp2_with fail
 go_ret2
 exact ⟨HO1,false,2,rfl,.inr ⟨HBD,by omega⟩,fun h=>by cases h⟩
def leftM(v:Value)(n:Nat):Nat:=match v with
 | .bool true=>0
 |_=>n
def BlkR(s:ByteArray)(b:Bool)(a:Nat)(l:List UInt8):Prop:=a≤8*s.size∧l.length≤20000∧((b=false∧inflS s 0 []=inflS s a l)∨(b=true∧inflS s 0 []=.inl (a,l)))
theorem bytesU(s:ByteArray)(hs:s.size≤140737488355328)(w:World)(hord:OrdAt w):
 Calls Tryz.prog 42 #[.string s] w fun r w' =>r=.returned (.tuple #[.string (inflate s).1,.int .i64 (inflate s).2.1,.int .i64 (inflate s).2.2])∧Old w w' :=by
 have hG:2<w.heap.size:=hord.1
 have hA0:Old w (w.alloc (.cells #[.string s,.int .i64 0,.slice none 0 0] upT)):=(Only.refl _ w).alloc _
 have hup0:Up (w.alloc (.cells #[.string s,.int .i64 0,.slice none 0 0] upT)) w.heap.size s 0 (.slice none 0 0):=Go.heap_alloc_new w _
 have hs0:(w.alloc (.cells #[.string s,.int .i64 0,.slice none 0 0] upT)).heap.size=w.heap.size+1:=by simp only[World.size_alloc]
 have hord0:=hord.kept hA0 (fun x=>x)
 have HFS:=hide (fixedSetsC (w.alloc (.cells #[.string s,.int .i64 0,.slice none 0 0] upT)))
 generalize hW0:w.alloc (.cells #[.string s,.int .i64 0,.slice none 0 0] upT)=w0 at hA0 hup0 hs0 hord0 HFS
 have HW0:=hide hW0
 go_in
 go_wp2_with fail
 clear hW0 HW0
 refine (uh HFS).mono ?_
 rintro r w1 ⟨g1,g2,rfl,ho1,hS1,hS2⟩
 have hs1:=ho1.size
 have hz:(w1.alloc (.cells #[.pointer none,.pointer none] 118)).heap[w1.heap.size]? =some (.cells #[.pointer none,.pointer none] 118 (0,0)):=Go.heap_alloc_new w1 _
 have hbx2:=setRow_heap (w1.alloc (.cells #[.pointer none,.pointer none] 118)) w1.heap.size _ #[.pointer (some ⟨g1,0,none⟩),.pointer (some ⟨g2,0,none⟩)] _ _ hz
 have hO2:Only (fun k=>k=w1.heap.size) w1 ((w1.alloc (.cells #[.pointer none,.pointer none] 118)).setRow w1.heap.size #[.pointer (some ⟨g1,0,none⟩),.pointer (some ⟨g2,0,none⟩)]):=((Only.refl (fun k=>k=w1.heap.size) w1).alloc _).setRow w1.heap.size (fun _=>rfl) _
 have hs2:((w1.alloc (.cells #[.pointer none,.pointer none] 118)).setRow w1.heap.size #[.pointer (some ⟨g1,0,none⟩),.pointer (some ⟨g2,0,none⟩)]).heap.size=w1.heap.size+1:=by simp[World.setRow]
 have HUP2:=hide ((hup0.kept ho1 (fun x=>x)).kept hO2 (by omega))
 have HS1:=hide (hS1.kept hO2 (fun k hk e=>by omega))
 have HS2:=hide (hS2.kept hO2 (fun k hk e=>by omega))
 have HOR:=hide ((hord0.kept ho1 (fun x=>x)).kept hO2 (by omega))
 have HO2:Hid (Old w ((w1.alloc (.cells #[.pointer none,.pointer none] 118)).setRow w1.heap.size #[.pointer (some ⟨g1,0,none⟩),.pointer (some ⟨g2,0,none⟩)])):=(hA0.trans ho1).transNew hO2 (fun k hk h=>absurd hk (by omega))
 have HBX2:=hide hbx2
 clear hO2 hS1 hS2 ho1 HFS hA0 hup0 hord0 hbx2
 go_wp2_with (refine wpList_store_row rfl 118 (.tmp 6) (.tmp 13) rfl w1.heap.size #[.pointer (some ⟨g1,0,none⟩),.pointer (some ⟨g2,0,none⟩)] rfl rfl 118 _ hz infoSets rfl (ptr2_one _ _) ?_)
 generalize (w1.alloc (.cells #[.pointer none,.pointer none] 118)).setRow w1.heap.size #[.pointer (some ⟨g1,0,none⟩),.pointer (some ⟨g2,0,none⟩)]=w2 at*
 go_loopw [7,8] (fun x _ wr=> ∃b:Bool,x=.bool b∧Hid (∃a l,BlkR s b a l∧StU wr w.heap.size (fun k=>w.heap.size≤k∧¬(w0.heap.size≤k∧k<w1.heap.size)∧k≠w1.heap.size) s a l)∧
  Hid (SetAt wr g1 (fun k=>w0.heap.size≤k∧k<w1.heap.size) fixL)∧Hid (SetAt wr g2 (fun k=>w0.heap.size≤k∧k<w1.heap.size) fixD)∧Hid (OrdAt wr)∧
  Hid (wr.heap[w1.heap.size]? =some (.cells #[.pointer (some ⟨g1,0,none⟩),.pointer (some ⟨g2,0,none⟩)] 118 (0,0)))∧Hid (Old w wr)) (fun x _ wr=>leftM x (8*s.size+1- cellN wr w.heap.size 1))
 ·exact ⟨false,rfl,⟨0,[],⟨by omega,by simp,.inl ⟨rfl,rfl⟩⟩,none,0,HUP2,World.ownsRow_nil _ _ _ _,fun b hb=>by cases hb⟩,HS1,HS2,HOR,HBX2,HO2⟩
 obtain ⟨b,rfl,HI,HS1,HS2,HOR,HBX,HO⟩:=hrel
 obtain ⟨a,l,hblk,hst⟩:=uh HI
 have hbx:=uh HBX
 have hwr:=(Array.getElem?_eq_some_iff.1 hbx).1
 cases b with
 |false=>
  obtain ⟨ha,hl,hcs⟩:=hblk
  have heq:inflS s 0 []=inflS s a l:=by
   rcases hcs with ⟨_,h⟩|⟨h,_⟩
   ·exact h
   cases h
  have HEQ:=hide heq
  have HM:Hid (cellN wr w.heap.size 1=a):=by obtain ⟨_,_,hr,_⟩:=hst;exact cellN_of hr.c1
  have HB:=hide (blockU w.heap.size (by omega) (fun k=>w.heap.size≤k∧¬(w0.heap.size≤k∧k<w1.heap.size)∧k≠w1.heap.size) ⟨Nat.le_refl _,by omega,by omega⟩ s hs a l hl ha g1 g2 (fun k=>w0.heap.size≤k∧k<w1.heap.size) (fun k hk h=>h.2.1 hk) wr (fun k hk=>⟨by omega,by omega,by omega⟩) (uh HOR) hst (uh HS1) (uh HS2))
  clear hcs heq HI hst
  go_wp2_with (refine wpList_load_row rfl 118 (.tmp 6) rfl w1.heap.size rfl 118 #[.pointer (some ⟨g1,0,none⟩),.pointer (some ⟨g2,0,none⟩)] (0,0) _ hbx Tryz.underlying118 rfl infoSets ?_)
  refine (uh HB).mono ?_
  rintro r w4 ⟨ho4,b4,e4,rfl,hsym,hb4⟩
  have HO4:Hid (Old w w4):=(uh HO).transNew ho4 (fun k hk h=>absurd hk (by omega))
  have HSA:=hide ((uh HS1).kept ho4 (fun k hk h=>h.2.1 hk))
  have HSB:=hide ((uh HS2).kept ho4 (fun k hk h=>h.2.1 hk))
  have HOR4:=hide ((uh HOR).kept ho4 (by omega))
  have HBX4:=hide ((ho4.block w1.heap.size hwr (fun h=>h.2.2 rfl)).trans hbx)
  clear HB ho4 HS1 HS2 HOR HBX hbx
  rcases hsym with ⟨a4,l4,hbs,rfl,ha4,hl4,hst4⟩|⟨hbs,hne⟩
  ·have hb5:=hb4 rfl
   rw[numAt_one] at hb5
   have HBS:=hide hbs
   have HST4:=hide hst4
   have HB5:=hide hb5
   have hgt:=(blockS_ok hbs).1
   have HM4:Hid (cellN w4 w.heap.size 1=a4):=by obtain ⟨_,_,hr,_⟩:=hst4;exact cellN_of hr.c1
   clear hbs hst4 hb4 hb5
   go_wp2_with fail
   go_roundw
   ·refine ⟨b4,rfl,⟨a4,l4,⟨ha4,hl4, ?_⟩,HST4⟩,HSA,HSB,HOR4,HBX4,HO4⟩
    by_cases hbit:bitAt s a=1
    ·exact .inr ⟨by rw[uh HB5];simp[hbit],by rw[uh HEQ];exact inflS_last (uh HBS) hbit⟩
    exact .inl ⟨by rw[uh HB5];simp[hbit],by rw[uh HEQ];exact inflS_more (uh HBS) hbit⟩
   rw[uh HM]
   simp only[uh HM4]
   cases b4<;>simp[leftM]<;>omega
  have heb:((e4:Int) !=0)=true:=by rw[bne_iff_ne];omega
  have hebz:((e4:Int)==0)=false:=by rw[beq_eq_false_iff_ne];omega
  have HRES:Hid (inflate s=(⟨#[]⟩,0,e4)):=by unfold Hid inflate;rw[uh HEQ,inflS_bad hbs];rfl
  clear hbs hne hb4
  go_wp2_with fail
  go_ret3
  rw[uh HRES]
  exact ⟨rfl,HO4⟩
 |true=>
  obtain ⟨ha,hl,hcs⟩:=hblk
  have hres:inflS s 0 []=.inl (a,l):=by
   rcases hcs with ⟨h,_⟩|⟨_,h⟩
   ·cases h
   exact h
  have HRES:Hid (inflate s=(⟨l.toArray⟩,(a+7)/8,0)):=by unfold Hid inflate;rw[hres];rfl
  obtain ⟨ao,cp,hr,how,hsa⟩:=hst
  have hcv: ∀n,(convert 64 9 (.slice ao l.length cp)).run Tryz.prog (wr.drewN n)=.ok (.string ⟨l.toArray⟩) (wr.drewN n):=fun n=>out_string (w:=wr.drewN n) how
  have hcv0:=hcv 0
  have HU: ∀n,Hid (Calls Tryz.prog 71 #[.pointer (some ⟨w.heap.size,0,none⟩)] (wr.drewN n) fun r w' =>r=.returned (.int .i64 ((a+7)/8:Nat))∧w' =wr.drewN n):=fun n=>usedC w.heap.size s hs a (.slice ao l.length cp) ha (wr.drewN n) (hr.drewN n)
  have h2:=hr.c2
  clear hcs hres hr how hsa HI
  go_wp2_with fail
  go_quiet (first|(go_at_call 71;exact (uh (HU _)).mono (fun _ _ h=>⟨h.1,_,h.2⟩)))
  go_wp2_with fail
  go_ret3
  rw[uh HRES]
  exact ⟨rfl,(uh HO).drewN _⟩
theorem valiseInflate_any(s:ByteArray)(hs:s.size≤140737488355328)(w:World)(hord:OrdAt w):
 Calls Tryz.prog 25 #[.string s] w fun r w' =>r=.returned (.tuple #[.string (inflate s).1,.int .i64 (inflate s).2.1,.int .i64 (inflate s).2.2])∧Old w w' :=by
 have HB:=hide (bytesU s hs w hord)
 go_in
 go_wp2_with fail
 refine (uh HB).mono ?_
 rintro r w1 ⟨rfl,ho⟩
 have HO:=hide ho
 clear ho HB
 go_wp2_with fail
 go_ret3
 exact ⟨rfl,HO⟩
end Go.Proofs.YtfbgamknfommpaaGreatDoor
