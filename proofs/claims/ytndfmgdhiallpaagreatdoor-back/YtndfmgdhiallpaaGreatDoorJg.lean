import Derived.Test.YtndfmgdhiallpaaGreatDoorJf
import Derived.Test.YtndfmgdhiallpaaGreatDoorMh
set_option maxRecDepth 100000
set_option maxHeartbeats 2000000
namespace Go.Proofs.YtndfmgdhiallpaaGreatDoor
open Go.RowKit
def centralL(p:ByteArray)(i:It)(a:Nat):List UInt8:=sL mkC++leAll [20] 2++toldL p i++leAll [0,0,0] 2++leAll [0,a] 4++sL (p++i.name)
theorem centralA(S:Nat→Prop)(v:Value)(l:List UInt8)(p:ByteArray)(hp:p.size≤1000)(i:It)(hi:i.ok)(a:Nat)(ha:a<4294967296)(hl:l.length≤600000)(w:World)(hF:Fresh S w)(hv:Buf w S v l):
 Calls Tryz.prog 169 #[v,.string p,.agg i.v,.int .i64 a] w fun r w' =>Only S w w' ∧ ∃v',r=.returned v' ∧Buf w' S v' (l++centralL p i a):=by
 obtain ⟨i0,hi0,hz0,hz1,hz2⟩:=info_parts infoB5
 have HK:=hide hi
 have hA:Old w (w.alloc (.cells i.v 131)):=(Only.refl _ w).alloc _
 have HI:Hid (ItAt (w.alloc (.cells i.v 131)) w.heap.size i):=Go.heap_alloc_new w _
 have HB:Hid (Buf (w.alloc (.cells i.v 131)) (fun k=>S k∧k≠w.heap.size) v l):=(hv.old hA).but (uh HI) (by decide)
 have HF:Hid (Fresh (fun k=>S k∧k≠w.heap.size) (w.alloc (.cells i.v 131))):=fun k hk=>by rw[World.size_alloc] at hk;exact ⟨hF k (by omega),by omega⟩
 have HM:Hid (∀w',Only (fun k=>S k∧k≠w.heap.size) (w.alloc (.cells i.v 131)) w' → ∀v' l',Buf w' (fun k=>S k∧k≠w.heap.size) v' l' →Only S w w' ∧Buf w' S v' l'):=fun w' ho v' l' h=>⟨(Only.oldS hA).transNew ho (fun _ _ h=>h.1),h.mono (fun _ h=>h.1)⟩
 have HNG:Hid (¬(fun k=>S k∧k≠w.heap.size) w.heap.size):=fun h=>h.2 rfl
 have HT:Hid (l++centralL p i a=l++sL mkC++leAll [20] 2++toldL p i++leAll [0,0,0] 2++leAll [0,a] 4++sL (p++i.name)):=by unfold Hid centralL;simp only[List.append_assoc]
 clear hv hF hA
 generalize (fun k=>S k∧k≠w.heap.size)=T at*
 have HL1:Hid ((l++sL mkC).length≤600010):=by unfold Hid;rw[List.length_append,sL_len];simp[ByteArray.size];omega
 have HL2:Hid ((l++sL mkC++leAll [20] 2).length≤600020):=by unfold Hid;rw[List.length_append,leAll_len];have:=uh HL1;simp at*;omega
 have HL3:Hid ((l++sL mkC++leAll [20] 2++toldL p i).length≤600060):=by unfold Hid;rw[List.length_append,toldL_len];have:=uh HL2;omega
 have HL4:Hid ((l++sL mkC++leAll [20] 2++toldL p i++leAll [0,0,0] 2).length≤600080):=by unfold Hid;rw[List.length_append,leAll_len];have:=uh HL3;simp only[List.length_cons,List.length_nil] at*;omega
 have HL5:Hid ((l++sL mkC++leAll [20] 2++toldL p i++leAll [0,0,0] 2++leAll [0,a] 4).length≤600100):=by unfold Hid;rw[List.length_append,leAll_len];have:=uh HL4;simp only[List.length_cons,List.length_nil] at*;omega
 have hcat:¬9223372036854775807<p.size+i.name.size:=by have:=hi.2.2.2.1;omega
 have hnm:(p++i.name).size≤61000:=by rw[ByteArray.size_append];have:=hi.2.2.2.1;omega
 clear hi
 have H2:=hide (fun (w1:World) (v1:Value) (hF1:Fresh T w1) (hv1:Buf w1 T v1 (l++sL mkC++leAll [20] 2))=>toldA T v1 (l++sL mkC++leAll [20] 2) p hp i (uh HK) (by have:=uh HL2;omega) w1 hF1 hv1)
 generalize toldL p i=tl at*
 obtain ⟨nm,wy,ck,sz,pk⟩:=i
 simp only[It.v] at*
 obtain ⟨ao,cp,rfl,how,hsa⟩:=uh HB
 have HOW:=hide how
 have HST:=hide (fun ao2 cap2 w2=>Buf.str (w2:=w2) (ao2:=ao2) (cap2:=cap2) (uh HF) mkC hsa (l:=l) (cap:=cp))
 clear how hsa HB
 have hmk:mkC.size=4:=rfl
 have hcc:=(uh HI).cells
 obtain ⟨c0,c1,c2,c3,c4⟩:=hcc
 go_in
 go_upto_region 2 with (at_builtin;refine wpList_append_str rfl (.tmp 9) (.const (.string mkC)) 62 9 rfl 0 5 i0 (.int .u8 0) Tryz.underlying62 Tryz.underlying9 hi0 hz0 hz1 hz2 rfl (.slice ao l.length cp) l.length _ rfl (uh HOW) mkC rfl (by unfold maxLen;omega) (by omega) (by omega) ?_;intro ao2 cap2 w2 ho2 hg2 hl2;have HX2:=hide (uh HST ao2 cap2 w2 ho2 hg2 hl2);clear ho2 hg2 hl2)
 have ho2:=(uh HX2).1
 have HO2:=hide ho2
 have HI2:=hide ((uh HI).kept ho2 (uh HNG))
 have HN2:Hid (Calls Tryz.prog 269 #[.slice ao2 (l.length+mkC.size) cap2,.int .i64 2,.slice (some ⟨w2.heap.size,0,none⟩) 1 1] (w2.alloc (.cells #[.int .u32 20] 103)) fun r w' =>Only T w2 w' ∧ ∃v',r=.returned v' ∧Buf w' T v' (l++sL mkC++leAll [20] 2)):=
  numStep T _ _ 2 (by omega) [20] 1 rfl (by omega) (by simp) (by have:=uh HL1;omega) w2 _ rfl ((uh HF).mono ho2.size) (uh HX2).2
 clear ho2 HX2 HI HOW HST c0 c1 c2 c3 c4
 go_wp2_with fail
 refine (uh HN2).mono ?_
 rintro r w3 ⟨ho3,v3,rfl,hv3⟩
 have HI3:=hide ((uh HI2).kept ho3 (uh HNG))
 have HF3:=hide ((uh HF).mono (Nat.le_trans (uh HO2).size ho3.size))
 have HO3:=hide ((uh HO2).trans ho3)
 have HC3:=hide (uh H2 w3 _ (uh HF3) hv3)
 obtain ⟨d0,d1,d2,d3,d4⟩:=(uh HI3).cells
 clear HN2 ho3 hv3 HI2 HO2 H2
 go_wp2_with fail
 refine (uh HC3).mono ?_
 rintro r w4 ⟨ho4,v4,rfl,hv4⟩
 have HI4:=hide ((uh HI3).kept ho4 (uh HNG))
 have HF4:=hide ((uh HF3).mono ho4.size)
 have HO4:=hide ((uh HO3).trans ho4)
 have HN4:Hid (Calls Tryz.prog 269 #[v4,.int .i64 2,.slice (some ⟨w4.heap.size,0,none⟩) 3 3] (w4.alloc (.cells #[.int .u32 0,.int .u32 0,.int .u32 0] 103)) fun r w' =>Only T w4 w' ∧ ∃v',r=.returned v' ∧Buf w' T v' (l++sL mkC++leAll [20] 2++tl++leAll [0,0,0] 2)):=
  numStep T _ _ 2 (by omega) [0,0,0] 3 rfl (by omega) (by simp) (by have:=uh HL3;omega) w4 _ rfl (uh HF4) hv4
 clear HC3 ho4 hv4 HI3 HO3 HF3 d0 d1 d2 d3 d4
 go_wp2_with fail
 refine (uh HN4).mono ?_
 rintro r w5 ⟨ho5,v5,rfl,hv5⟩
 have HI5:=hide ((uh HI4).kept ho5 (uh HNG))
 have HF5:=hide ((uh HF4).mono ho5.size)
 have HO5:=hide ((uh HO4).trans ho5)
 have HN5:Hid (Calls Tryz.prog 269 #[v5,.int .i64 4,.slice (some ⟨w5.heap.size,0,none⟩) 2 2] (w5.alloc (.cells #[.int .u32 0,.int .u32 (a:Int)] 103)) fun r w' =>Only T w5 w' ∧ ∃v',r=.returned v' ∧Buf w' T v' (l++sL mkC++leAll [20] 2++tl++leAll [0,0,0] 2++leAll [0,a] 4)):=
  numStep T _ _ 4 (by omega) [0,a] 2 rfl (by omega) (by simp;omega) (by have:=uh HL4;omega) w5 _ rfl (uh HF5) hv5
 have hwa:IntKind.u32.wrap (a:Int)=(a:Int):=by rw[IntKind.wrap_u32];omega
 clear HN4 ho5 hv5 HI4 HO4 HF4
 go_wp2_with fail
 refine (uh HN5).mono ?_
 rintro r w6 ⟨ho6,v6,rfl,hv6⟩
 have HI6:=hide ((uh HI5).kept ho6 (uh HNG))
 have HF6:=hide ((uh HF5).mono ho6.size)
 have HO6:=hide ((uh HO5).trans ho6)
 obtain ⟨ao7,cp7,rfl,how7,hsa7⟩:=hv6
 have hl7:=uh HL5
 have HOW7:=hide how7
 have HST7:=hide (fun ao4 cap4 w4=>Buf.str (w2:=w4) (ao2:=ao4) (cap2:=cap4) (uh HF6) (p++nm) hsa7 (l:=l++sL mkC++leAll [20] 2++tl++leAll [0,0,0] 2++leAll [0,a] 4) (cap:=cp7))
 obtain ⟨c0,c1,c2,c3,c4⟩:=(uh HI6).cells
 clear HN5 ho6 how7 hsa7 HI5 HO5 HF5
 generalize l++sL mkC++leAll [20] 2++tl++leAll [0,0,0] 2++leAll [0,a] 4=l7 at*
 go_wp2_with (at_builtin;refine wpList_append_str rfl (.tmp 26) (.tmp 30) 62 9 rfl 0 5 i0 (.int .u8 0) Tryz.underlying62 Tryz.underlying9 hi0 hz0 hz1 hz2 rfl (.slice ao7 l7.length cp7) l7.length _ rfl (uh HOW7) (p++nm) rfl (by unfold maxLen;omega) (by omega) (by omega) ?_;intro ao8 cap8 w8 ho8 hg8 hl8;have HX8:=hide (uh HST7 ao8 cap8 w8 ho8 hg8 hl8);clear ho8 hg8 hl8)
 have HX:=hide (uh HM w8 ((uh HO6).trans (uh HX8).1) _ _ (uh HX8).2)
 clear HX8
 go_ret
 have hx2:=(uh HX).2
 rw[ByteArray.size_append] at hx2
 exact ⟨(uh HX).1,_,rfl,by rw[uh HT];exact hx2⟩
def endL(c size a:Nat):List UInt8:=sL mkE++leAll [0,0,c,c] 2++leAll [size,a] 4++leAll [0] 2
theorem endA(S:Nat→Prop)(v:Value)(l:List UInt8)(c sz a:Nat)(hc:c<4294967296)(hsz:sz<4294967296)(ha:a<4294967296)(hl:l.length≤900000)(w:World)(hF:Fresh S w)(hv:Buf w S v l):
 Calls Tryz.prog 171 #[v,.int .i64 c,.int .i64 sz,.int .i64 a] w fun r w' =>Only S w w' ∧ ∃v',r=.returned v' ∧Buf w' S v' (l++endL c sz a):=by
 obtain ⟨i0,hi0,hz0,hz1,hz2⟩:=info_parts infoB5
 have HT:Hid (l++endL c sz a=l++sL mkE++leAll [0,0,c,c] 2++leAll [sz,a] 4++leAll [0] 2):=by unfold Hid endL;simp only[List.append_assoc]
 have HL1:Hid ((l++sL mkE).length≤900010):=by unfold Hid;rw[List.length_append,sL_len];simp[ByteArray.size];omega
 have HL2:Hid ((l++sL mkE++leAll [0,0,c,c] 2).length≤900020):=by unfold Hid;rw[List.length_append,leAll_len];have:=uh HL1;simp only[List.length_cons,List.length_nil] at*;omega
 have HL3:Hid ((l++sL mkE++leAll [0,0,c,c] 2++leAll [sz,a] 4).length≤900030):=by unfold Hid;rw[List.length_append,leAll_len];have:=uh HL2;simp only[List.length_cons,List.length_nil] at*;omega
 obtain ⟨ao,cp,rfl,how,hsa⟩:=hv
 have HF:=hide hF
 have HOW:=hide how
 have HST:=hide (fun ao2 cap2 w2=>Buf.str (w2:=w2) (ao2:=ao2) (cap2:=cap2) hF mkE hsa (l:=l) (cap:=cp))
 have hmk:mkE.size=4:=rfl
 have hwc:IntKind.u32.wrap (c:Int)=(c:Int):=by rw[IntKind.wrap_u32];omega
 have hwa:IntKind.u32.wrap (a:Int)=(a:Int):=by rw[IntKind.wrap_u32];omega
 have hws:IntKind.u32.wrap (sz:Int)=(sz:Int):=by rw[IntKind.wrap_u32];omega
 clear how hsa hF
 go_in
 go_upto_region 2 with (at_builtin;refine wpList_append_str rfl (.tmp 9) (.const (.string mkE)) 62 9 rfl 0 5 i0 (.int .u8 0) Tryz.underlying62 Tryz.underlying9 hi0 hz0 hz1 hz2 rfl (.slice ao l.length cp) l.length _ rfl (uh HOW) mkE rfl (by unfold maxLen;omega) (by omega) (by omega) ?_;intro ao2 cap2 w2 ho2 hg2 hl2;have HX2:=hide (uh HST ao2 cap2 w2 ho2 hg2 hl2);clear ho2 hg2 hl2)
 have HO2:=hide (uh HX2).1
 have HN2:Hid (Calls Tryz.prog 269 #[.slice ao2 (l.length+mkE.size) cap2,.int .i64 2,.slice (some ⟨w2.heap.size,0,none⟩) 4 4] (w2.alloc (.cells #[.int .u32 0,.int .u32 0,.int .u32 (c:Int),.int .u32 (c:Int)] 103)) fun r w' =>Only S w2 w' ∧ ∃v',r=.returned v' ∧Buf w' S v' (l++sL mkE++leAll [0,0,c,c] 2)):=
  numStep S _ _ 2 (by omega) [0,0,c,c] 4 rfl (by omega) (by simp;omega) (by have:=uh HL1;omega) w2 _ rfl ((uh HF).mono (uh HO2).size) (uh HX2).2
 clear HX2 HOW HST
 go_wp2_with fail
 refine (uh HN2).mono ?_
 rintro r w3 ⟨ho3,v3,rfl,hv3⟩
 have HO3:=hide ((uh HO2).trans ho3)
 have HN3:Hid (Calls Tryz.prog 269 #[v3,.int .i64 4,.slice (some ⟨w3.heap.size,0,none⟩) 2 2] (w3.alloc (.cells #[.int .u32 (sz:Int),.int .u32 (a:Int)] 103)) fun r w' =>Only S w3 w' ∧ ∃v',r=.returned v' ∧Buf w' S v' (l++sL mkE++leAll [0,0,c,c] 2++leAll [sz,a] 4)):=
  numStep S _ _ 4 (by omega) [sz,a] 2 rfl (by omega) (by simp;omega) (by have:=uh HL2;omega) w3 _ rfl ((uh HF).mono (uh HO3).size) hv3
 clear HN2 ho3 hv3 HO2
 go_wp2_with fail
 refine (uh HN3).mono ?_
 rintro r w4 ⟨ho4,v4,rfl,hv4⟩
 have HO4:=hide ((uh HO3).trans ho4)
 have HN4:Hid (Calls Tryz.prog 269 #[v4,.int .i64 2,.slice (some ⟨w4.heap.size,0,none⟩) 1 1] (w4.alloc (.cells #[.int .u32 0] 103)) fun r w' =>Only S w4 w' ∧ ∃v',r=.returned v' ∧Buf w' S v' (l++sL mkE++leAll [0,0,c,c] 2++leAll [sz,a] 4++leAll [0] 2)):=
  numStep S _ _ 2 (by omega) [0] 1 rfl (by omega) (by simp) (by have:=uh HL3;omega) w4 _ rfl ((uh HF).mono (uh HO4).size) hv4
 clear HN3 ho4 hv4 HO3
 go_wp2_with fail
 refine (uh HN4).mono ?_
 rintro r w5 ⟨ho5,v5,rfl,hv5⟩
 have HO5:=hide ((uh HO4).trans ho5)
 have HV5:=hide hv5
 clear HN4 ho5 hv5 HO4
 go_wp2_with fail
 go_ret
 exact ⟨HO5,_,rfl,by rw[uh HT];exact HV5⟩
open Go.RowKit Go.Maps
def itD:It:=⟨⟨#[]⟩,0,0,0,⟨#[]⟩⟩
def locsL(p:ByteArray)(its:List It):List UInt8:=its.flatMap (localL p)
def centsN(p:ByteArray)(its:List It)(n:Nat):List UInt8:=(List.range n).flatMap fun j=>centralL p (its.getD j itD) (locsL p (its.take j)).length
def laidL(p:ByteArray)(its:List It):List UInt8:=locsL p its++centsN p its its.length++endL its.length (centsN p its its.length).length (locsL p its).length
theorem It.take_getD(its:List It)(i:Nat)(h:i<its.length):its.take (i+1)=its.take i++[its.getD i itD]:=by
 rw[List.take_add_one,List.getElem?_eq_getElem h,List.getD_eq_getElem?_getD,List.getElem?_eq_getElem h];rfl
theorem locsL_succ(p:ByteArray)(its:List It)(i:Nat)(h:i<its.length):locsL p (its.take (i+1))=locsL p (its.take i)++localL p (its.getD i itD):=by
 rw[It.take_getD its i h,locsL,locsL,List.flatMap_append];simp
theorem centsN_succ(p:ByteArray)(its:List It)(i:Nat):centsN p its (i+1)=centsN p its i++centralL p (its.getD i itD) (locsL p (its.take i)).length:=by
 rw[centsN,centsN,List.range_succ,List.flatMap_append];simp
theorem locsL_le(p:ByteArray)(its:List It)(i:Nat):(locsL p (its.take i)).length≤(locsL p its).length:=by
 conv=>rhs;rw[←List.take_append_drop i its]
 rw[locsL,locsL,List.flatMap_append,List.length_append];omega
theorem centsN_le(p:ByteArray)(its:List It)(i n:Nat)(h:i≤n):(centsN p its i).length≤(centsN p its n).length:=by
 obtain ⟨k,rfl⟩:=Nat.exists_eq_add_of_le h
 induction k with
 |zero=>exact Nat.le_refl _
 |succ k ih=>rw[←Nat.add_assoc,centsN_succ,List.length_append];exact Nat.le_trans (ih (by omega)) (by omega)
def itCells(its:List It):List Value:=its.flatMap fun i=>i.v.toList
theorem itCells_len(its:List It):(itCells its).length=its.length*5:=by
 induction its with
 |nil=>rfl
 |cons a r ih=>rw[itCells,List.flatMap_cons,List.length_append,←itCells,ih,List.length_cons];simp;omega
theorem itCells_get(its:List It)(j c:Nat)(hj:j<its.length)(hc:c<5):(itCells its)[j*5+c]? =(its.getD j itD).v[c]? :=by
 induction its generalizing j with
 |nil=>simp at hj
 |cons a r ih=>
  rw[itCells,List.flatMap_cons]
  cases j with
  |zero=>rw[Nat.zero_mul,Nat.zero_add,List.getElem?_append_left (by simp;omega)];simp
  |succ j=>
   rw[List.getElem?_append_right (by simp;omega),←itCells,show (j+1)*5+c- a.v.toList.length=j*5+c by simp;omega,ih j (by simpa using hj)];simp
def ItemsAt(w:World)(B:Nat→Prop)(v:Value)(its:List It):Prop:=w.ownsRow 0 131 5 v its.length (itCells its)∧ ∀b,v.ownBlock=some b→B b
theorem ItemsAt.slice{w:World}{B:Nat→Prop}{v:Value}{its:List It}(h:ItemsAt w B v its)(hn:0<its.length): ∃g cap,v=.slice (some ⟨g,0,none⟩) its.length cap∧B g∧ ∃cur,w.heap[g]? =some (.cells cur 131 (0,0))∧ ∀j,j<its.length→ ∀c,c<5→w.cell? ⟨g,j*5+c,none⟩=(its.getD j itD).v[c]? :=by
 obtain ⟨⟨hl,⟨rfl,hz⟩|⟨g,cap,cur,rfl,h1,hg,hr⟩⟩,hb⟩:=h
 ·omega
 refine ⟨g,cap,rfl,hb g rfl,cur,hg,fun j hj c hc=> ?_⟩
 have hcl:=World.ownsRow.cells (w:=w) ⟨hl,.inr ⟨g,cap,cur,rfl,h1,hg,hr⟩⟩ (g:=g) rfl
 rw[←itCells_get its j c hj hc]
 have hlt:j*5+c<(itCells its).length:=by rw[itCells_len];omega
 have:=hcl (j*5+c) _ (List.getElem?_eq_getElem hlt)
 rw[List.getElem?_eq_getElem hlt]
 rw[Addr.add_lit,Nat.zero_add] at this
 exact this
theorem own_kept5{S:Nat→Prop}{w w' :World}{e:TypeId}{v:Value}{n k:Nat}{xs:List Value}(h:w.ownsRow 0 e k v n xs)(ho:Only S w w')(hs: ∀b,v.ownBlock=some b→¬S b):w'.ownsRow 0 e k v n xs:=by
 obtain ⟨hl,h|⟨g,c,cur,rfl,h1,hg,r⟩⟩:=h
 ·exact ⟨hl,.inl h⟩
 exact ⟨hl,.inr ⟨g,c,cur,rfl,h1,(ho.block g (Array.getElem?_eq_some_iff.1 hg).1 (hs g rfl)).trans hg,r⟩⟩
theorem ItemsAt.kept{w w' :World}{B S:Nat→Prop}{v:Value}{its:List It}(h:ItemsAt w B v its)(ho:Only S w w')(hs: ∀k,B k→¬S k):ItemsAt w' B v its:=⟨own_kept5 h.1 ho (fun b hb=>hs b (h.2 b hb)),h.2⟩
def Two(w wr:World)(u5 u6:Value)(l5 l6:List UInt8):Prop:=
 Old w wr∧ ∃B5 B6:Nat→Prop,(∀k,B5 k→¬B6 k)∧(∀k,B5 k→w.heap.size≤k∧k<wr.heap.size)∧(∀k,B6 k→w.heap.size≤k∧k<wr.heap.size)∧Buf wr B5 u5 l5∧Buf wr B6 u6 l6
theorem Two.next6{w wr W:World}{u5 u6:Value}{l5 l6:List UInt8}(h:Two w wr u5 u6 l5 l6)(hW:Old wr W): ∃S:Nat→Prop,Fresh S W∧Buf W S u6 l6∧(∀k,wr.heap.size≤k→k<W.heap.size→¬S k)∧ ∀w' v' l',Only S W w' →Buf w' S v' l' →Two w w' u5 v' l5 l' :=by
 obtain ⟨ho,B5,B6,hd,h5,h6,hb5,hb6⟩:=h
 have hsz:=hW.size
 refine ⟨fun k=>B6 k∨W.heap.size≤k,fun k hk=> .inr hk,(hb6.old hW).mono (fun _ h=> .inl h),fun k hk hk2 h=> ?_,fun w' v' l' hw hv=> ?_⟩
 ·rcases h with h|h
  ·have:=h6 k h;omega
  omega
 refine ⟨(Only.trans ho hW).transNew hw (fun k hk h=> ?_),B5,fun k=>(B6 k∨W.heap.size≤k)∧k<w'.heap.size,fun k h5' h6' => ?_,fun k hk=>⟨(h5 k hk).1,by have:=(h5 k hk).2;have:=hw.size;omega⟩,fun k hk=>⟨?_,hk.2⟩,(hb5.old hW).kept hw (fun k hk h=> ?_),hv.lt⟩
 ·rcases h with h|h
  ·have:=h6 k h;omega
  have:=ho.size;omega
 ·rcases h6'.1 with h|h
  ·exact hd k h5' h
  have:=h5 k h5';omega
 ·rcases hk.1 with h|h
  ·exact (h6 k h).1
  have:=ho.size;omega
 rcases h with h|h
 ·exact hd k hk h
 have:=h5 k hk;omega
theorem Two.slices{w wr:World}{u5 u6:Value}{l5 l6:List UInt8}(h:Two w wr u5 u6 l5 l6):(∃a c,u5=.slice a l5.length c)∧ ∃a c,u6=.slice a l6.length c:=by
 obtain ⟨_,_,_,_,_,_,⟨a,c,h,_⟩,b,d,k,_⟩:=h
 exact ⟨⟨a,c,h⟩,b,d,k⟩
theorem Two.swap{w wr:World}{u5 u6:Value}{l5 l6:List UInt8}(h:Two w wr u5 u6 l5 l6):Two w wr u6 u5 l6 l5:=by
 obtain ⟨ho,B5,B6,hd,h5,h6,hb5,hb6⟩:=h
 exact ⟨ho,B6,B5,fun k h6' h5' =>hd k h5' h6',h6,h5,hb6,hb5⟩
theorem Two.old{w wr w' :World}{u5 u6:Value}{l5 l6:List UInt8}(h:Two w wr u5 u6 l5 l6)(ho:Old wr w'):Two w w' u5 u6 l5 l6:=by
 obtain ⟨hw,B5,B6,hd,h5,h6,hb5,hb6⟩:=h
 exact ⟨Only.trans hw ho,B5,B6,hd,fun k hk=>⟨(h5 k hk).1,Nat.lt_of_lt_of_le (h5 k hk).2 ho.size⟩,fun k hk=>⟨(h6 k hk).1,Nat.lt_of_lt_of_le (h6 k hk).2 ho.size⟩,hb5.old ho,hb6.old ho⟩
structure LaidOk (p:ByteArray) (its:List It):Prop where
 pre:p.size≤1000
 oks: ∀i∈its,i.ok
 any:0<its.length
 few:its.length≤1000
 locs:(locsL p its).length≤400000
 cents:(centsN p its its.length).length≤400000
 pos:0<(centsN p its its.length).length
theorem laidA(B:Nat→Prop)(p:ByteArray)(v:Value)(its:List It)(hk:LaidOk p its)(w:World)(hv:ItemsAt w B v its):
 Calls Tryz.prog 89 #[.string p,v] w fun r w' =>Old w w' ∧r=.returned (.string ⟨(laidL p its).toArray⟩):=by
 obtain ⟨i0,hi0,hz0,hz1,hz2⟩:=info_parts infoB5
 obtain ⟨g,cap,rfl,_,cur,hg,hcl⟩:=hv.slice hk.any
 have hgl:g<w.heap.size:=(Array.getElem?_eq_some_iff.1 hg).1
 have HCL:=hide hcl
 have HK:=hide hk
 have hn:=hk.any
 have hn2:=hk.few
 clear hcl hv hk hg
 go_in
 go_wp2_with fail
 go_loopw [5,6,8,13] (fun u5 u6 _ x wr=> ∃i:Nat,i≤its.length∧x=.int .i64 i∧Hid (Two w wr u5 u6 (locsL p (its.take i)) (centsN p its i))) (fun _ _ _ x _=>its.length- (intOf x).toNat)
 ·exact ⟨0,by omega,rfl,Only.refl _ w,fun _=>False,fun _=>False,fun _ h=>h.elim,fun _ h=>h.elim,fun _ h=>h.elim,Buf.nil _ _,Buf.nil _ _⟩
 obtain ⟨i,hi,rfl,HT⟩:=hrel
 by_cases hlt:i<its.length
 ·have hltI:(i:Int)<(its.length:Int):=by omega
  have hc:=fun c hc=>((uh HT).1.cell (p:=⟨g,i*5+c,none⟩) hgl (fun x=>x)).trans (uh HCL i hlt c hc)
  have HIO:Hid (its.getD i itD).ok:=by unfold Hid;rw[List.getD_eq_getElem?_getD,List.getElem?_eq_getElem hlt];exact (uh HK).oks _ (List.getElem_mem hlt)
  have HLS:=hide (locsL_succ p its i hlt)
  have HCS:=hide (centsN_succ p its i)
  have HLL:Hid ((locsL p (its.take i)).length≤400000):=Nat.le_trans (locsL_le p its i) (uh HK).locs
  have HLC:Hid ((centsN p its i).length≤400000):=Nat.le_trans (centsN_le p its i _ hi) (uh HK).cents
  generalize its.getD i itD=it at*
  generalize locsL p (its.take i)=l5 at*
  generalize centsN p its i=l6 at*
  obtain ⟨nm,wy,ck,sz,pk⟩:=it
  have hc0:wr.cell? ⟨g,i*5,none⟩=some (.string nm):=hc 0 (by omega)
  have hc1:wr.cell? ⟨g,i*5+1,none⟩=some (.int .u32 wy):=hc 1 (by omega)
  have hc2:wr.cell? ⟨g,i*5+2,none⟩=some (.int .u32 ck):=hc 2 (by omega)
  have hc3:wr.cell? ⟨g,i*5+3,none⟩=some (.int .u32 sz):=hc 3 (by omega)
  have hc4:wr.cell? ⟨g,i*5+4,none⟩=some (.string pk):=hc 4 (by omega)
  have hi9:i≤1000:=by omega
  clear hc
  obtain ⟨⟨ao5,cp5,rfl⟩,_⟩:=(uh HT).slices
  have hA:Old wr (wr.alloc (.cells (It.v ⟨nm,wy,ck,sz,pk⟩) 131)):=(Only.refl _ wr).alloc _
  have HI:Hid (ItAt (wr.alloc (.cells (It.v ⟨nm,wy,ck,sz,pk⟩) 131)) wr.heap.size ⟨nm,wy,ck,sz,pk⟩):=Go.heap_alloc_new wr _
  obtain ⟨S,hF,hb,hlow,hnx⟩:=(uh HT).next6 hA
  have HNI:Hid (¬S wr.heap.size):=hlow _ (Nat.le_refl _) (by rw[World.size_alloc];omega)
  have HNX:=hide hnx
  have H1:=hide (centralA S u6 l6 p (uh HK).pre ⟨nm,wy,ck,sz,pk⟩ (uh HIO) l5.length (by have:=uh HLL;omega) (by have:=uh HLC;omega) _ hF hb)
  obtain ⟨d0,d1,d2,d3,d4⟩:=(uh HI).cells
  simp only[It.v] at*
  clear hA hF hb hlow hnx HT
  go_wp2_with fail
  refine (uh H1).mono ?_
  rintro r w1 ⟨ho1,v6,rfl,hv6⟩
  have HT1:=hide (uh HNX w1 v6 _ ho1 hv6)
  have HI1:=hide ((uh HI).kept ho1 (uh HNI))
  obtain ⟨c0,c1,c2,c3,c4⟩:=(uh HI1).cells
  obtain ⟨S2,hF2,hb2,_,hnx2⟩:=(uh HT1).swap.next6 (Only.refl _ w1)
  have HNX2:=hide hnx2
  have H2:=hide (localA S2 _ l5 p (uh HK).pre ⟨nm,wy,ck,sz,pk⟩ (uh HIO) (by have:=uh HLL;omega) _ hF2 hb2)
  simp only[It.v] at H2
  clear H1 ho1 hv6 HI d0 d1 d2 d3 d4 hc0 hc1 hc2 hc3 hc4 hF2 hb2 hnx2 HNX
  go_wp2_with fail
  refine (uh H2).mono ?_
  rintro r w2 ⟨ho2,v5,rfl,hv5⟩
  have HT2:=hide (uh HNX2 w2 v5 _ ho2 hv5).swap
  clear H2 ho2 hv5 HI1 c0 c1 c2 c3 c4 HNX2 HT1
  go_wp2_with fail
  go_roundw
  ·exact ⟨i+1,by omega,by go_num,by rw[uh HLS,uh HCS];exact HT2⟩
  case measure=>simp[intOf];omega
 have hltI:¬(i:Int)<(its.length:Int):=by omega
 have hie:i=its.length:=by omega
 subst hie
 rw[List.take_length] at HT
 obtain ⟨⟨ao5,cp5,rfl⟩,ao6,cp6,rfl⟩:=(uh HT).slices
 obtain ⟨how,B5,B6,hd,h5,h6,hb5,hb6⟩:=uh HT
 have hl5:=(uh HK).locs
 have hl6:=(uh HK).cents
 have hp6:=(uh HK).pos
 have HE:Hid (laidL p its=locsL p its++centsN p its its.length++endL its.length (centsN p its its.length).length (locsL p its).length):=rfl
 generalize locsL p its=l5 at*
 generalize centsN p its its.length=l6 at*
 obtain ⟨_,_,e5,hw5,hs5⟩:=hb5
 injection e5 with e51 _ e52
 subst e51 e52
 obtain ⟨_,_,e6,hw6,hs6⟩:=hb6
 injection e6 with e61 _ e62
 subst e61 e62
 have hx6: ∃g6,ao6=some ⟨g6,0,none⟩:=by
  rcases hw6.2 with ⟨_,h⟩|⟨g6,c,cu,hv,_⟩
  ·omega
  injection hv with hv;exact ⟨g6,hv⟩
 obtain ⟨g6,rfl⟩:=hx6
 have HC6:=hide (hw6.cells (g:=g6) rfl)
 have HW5:=hide hw5
 have hoc: ∀u∈byteCells8 l6,u.oneCell' =true:=by intro u hu;simp[byteCells8] at hu;obtain ⟨b,_,rfl⟩:=hu;rfl
 have HF:Hid (Fresh (fun k=>w.heap.size≤k) wr):=fun k hk=>Nat.le_trans how.size hk
 have HB:=hide (fun ao2 cap2 w2=>Buf.more (w:=wr) (w1:=wr) (w2:=w2) (S:=fun k=>w.heap.size≤k) (l:=l5) (bs:=l6) (ao:=ao5) (cap:=cp5) (ao2:=ao2) (cap2:=cap2) (H:=wr.heap.size) how.size (Only.refl _ wr) (fun b hb=>(h5 _ (hs5 b hb)).1))
 have HOW:=hide how
 have hl6c:(byteCells8 l6).length=l6.length*1:=by rw[byteCells8_len,Nat.mul_one]
 clear HT hd h5 h6 hw5 hs5 hw6 hs6 how HCL
 go_wp2_with (at_builtin;refine wpList_append_lies _ rfl (.tmp 32) (.tmp 33) 62 rfl 0 5 i0 (.int .u8 0) 1 1 Tryz.underlying62 hi0 hz0 hz1 hz2 rfl (by omega) (.slice ao5 l5.length cp5) l5.length _ rfl (uh HW5) ⟨g6,0,none⟩ l6.length cp6 (byteCells8 l6) rfl hl6c (uh HC6) hoc (by omega) (by unfold maxLen;omega) (by omega) (by omega) _ rfl ?_;intro g2 cap2 w3 ho3 hg3 hl3 hlt3;have HX:=hide (uh HB (some ⟨g2,0,none⟩) cap2 w3 ho3 hg3 (fun b hb=>by injection hb with hb;subst hb;exact hl3));clear ho3 hg3 hl3)
 have H3:=hide (endA (fun k=>w.heap.size≤k) (.slice (some ⟨g2,0,none⟩) (l5.length+l6.length) cap2) (l5++l6) its.length l6.length l5.length (by omega) (by omega) (by omega) (by rw[List.length_append];omega) w3 ((uh HF).mono (uh HX).1.size) (uh HX).2)
 refine (uh H3).mono ?_
 rintro r w4 ⟨ho4,v4,rfl,ao4,cp4,rfl,hv4,_⟩
 have hcv0:(convert 62 9 (.slice ao4 (l5++l6++endL its.length l6.length l5.length).length cp4)).run Tryz.prog w4=.ok (.string ⟨(l5++l6++endL its.length l6.length l5.length).toArray⟩) w4:=out_string hv4
 have HO4:Hid (Old w w4):=(uh HOW).transNew ((uh HX).1.trans ho4) (fun k hk h=>by omega)
 rw[←uh HE] at hcv0 ⊢
 clear H3 ho4 hv4 HX HB
 go_wp2_with fail
 go_ret
 exact ⟨HO4,rfl⟩
end Go.Proofs.YtndfmgdhiallpaaGreatDoor
