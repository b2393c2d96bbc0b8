import Derived.Test.YtndfmgdhiallpaaGreatDoorMl
set_option maxRecDepth 100000
set_option maxHeartbeats 2000000
namespace Go.Proofs.YtndfmgdhiallpaaGreatDoor
open Go.RowKit
def Buf(w:World)(S:Nat→Prop)(v:Value)(l:List UInt8):Prop:=
 ∃ao cap,v=.slice ao l.length cap∧w.ownsRow 0 5 1 (.slice ao l.length cap) l.length (byteCells8 l)∧ ∀b:Addr,ao=some b→S b.block
theorem Buf.nil(w:World)(S:Nat→Prop):Buf w S (.slice none 0 0) []:=⟨none,0,rfl,World.ownsRow_nil w 0 5 1,fun b hb=>by cases hb⟩
theorem own_ofType{w:World}{v:Value}{n:Nat}{xs:List Value}(h:w.ownsRow 0 5 1 v n xs){b:Nat}(hb:v.ownBlock=some b){g:Nat}{cur:Array Value}{e:TypeId}{x:Nat×Nat}(hg:w.heap[g]? =some (.cells cur e x))(he:e≠5):b≠g:=by
 obtain ⟨c2,h2⟩:=own_heap h hb
 rintro rfl
 rw[hg] at h2
 injection h2 with h2
 injection h2 with h3 h4
 exact he h4
theorem Buf.kept{w w' :World}{S T:Nat→Prop}{v:Value}{l:List UInt8}(h:Buf w S v l)(ho:Only T w w')(hs: ∀k,S k→¬T k):Buf w' S v l:=by
 obtain ⟨ao,cap,rfl,how,hsa⟩:=h
 refine ⟨ao,cap,rfl,own_kept how ho (fun b hb=> ?_),hsa⟩
 cases ao with
 |none=>cases hb
 |some a=>injection hb with hb;subst hb;exact hs _ (hsa a rfl)
theorem Buf.old{w w' :World}{S:Nat→Prop}{v:Value}{l:List UInt8}(h:Buf w S v l)(ho:Old w w'):Buf w' S v l:=h.kept ho (fun _ _ x=>x)
theorem Buf.mono{w:World}{S T:Nat→Prop}{v:Value}{l:List UInt8}(h:Buf w S v l)(hs: ∀k,S k→T k):Buf w T v l:=by
 obtain ⟨ao,cap,e,how,hsa⟩:=h;exact ⟨ao,cap,e,how,fun b hb=>hs _ (hsa b hb)⟩
theorem Buf.but{w:World}{S:Nat→Prop}{v:Value}{l:List UInt8}(h:Buf w S v l){g:Nat}{cur:Array Value}{e:TypeId}{x:Nat×Nat}(hg:w.heap[g]? =some (.cells cur e x))(he:e≠5):Buf w (fun k=>S k∧k≠g) v l:=by
 obtain ⟨ao,cap,rfl,how,hsa⟩:=h
 refine ⟨ao,cap,rfl,how,fun b hb=>⟨hsa b hb, ?_⟩⟩
 subst hb
 exact own_ofType how rfl hg he
theorem Buf.lt{w:World}{S:Nat→Prop}{v:Value}{l:List UInt8}(h:Buf w S v l):Buf w (fun k=>S k∧k<w.heap.size) v l:=by
 obtain ⟨ao,cap,rfl,how,hsa⟩:=h
 refine ⟨ao,cap,rfl,how,fun b hb=>⟨hsa b hb, ?_⟩⟩
 subst hb
 obtain ⟨cur,hg⟩:=own_heap how (b:=b.block) rfl
 exact (Array.getElem?_eq_some_iff.1 hg).1
theorem byteCells8_len(l:List UInt8):(byteCells8 l).length=l.length:=by simp[byteCells8]
theorem byteCells8_app(l m:List UInt8):byteCells8 (l++m)=byteCells8 l++byteCells8 m:=by simp only[byteCells8,List.map_append]
theorem Buf.more{w w1 w2:World}{S:Nat→Prop}{l bs:List UInt8}{ao ao2:Option Addr}{cap cap2 H:Nat}(hH:S H)(h01:Only S w w1)(hsa: ∀b:Addr,ao=some b→S b.block)
 (ho:w2.ownsRow 0 5 1 (.slice ao2 (l.length+bs.length) cap2) (l.length+bs.length) (byteCells8 l++byteCells8 bs))(hg:w1.grownBy w2 (Value.slice ao l.length cap).ownBlock)(hl: ∀b:Addr,ao2=some b→(Value.slice ao l.length cap).ownBlock=some b.block∨b.block=H):
 Only S w w2∧Buf w2 S (.slice ao2 (l.length+bs.length) cap2) (l++bs):=by
 refine ⟨h01.grown hg (fun k _ hk=> ?_),ao2,cap2,by rw[List.length_append],by rw[List.length_append,byteCells8_app];exact ho,fun b hb=> ?_⟩
 ·cases ao with
  |none=>cases hk
  |some b=>injection hk with hk;subst hk;exact hsa b rfl
 rcases hl b hb with h5|h5
 ·cases ao with
  |none=>cases h5
  |some b' =>injection h5 with h5;rw[←h5];exact hsa b' rfl
 rw[h5];exact hH
def leB(v n:Nat):List UInt8:=(List.range n).map fun p=>b8 (v/2^(8*p)%256)
theorem leB_len(v n:Nat):(leB v n).length=n:=by simp[leB]
theorem leB_succ(v n:Nat):leB v (n+1)=leB v n++[b8 (v/2^(8*n)%256)]:=by simp[leB,List.range_succ]
def leAll(ns:List Nat)(n:Nat):List UInt8:=ns.flatMap fun v=>leB v n
theorem leAll_len(ns:List Nat)(n:Nat):(leAll ns n).length=ns.length*n:=by
 induction ns with
 |nil=>simp[leAll]
 |cons a r ih=>rw[leAll,List.flatMap_cons,List.length_append,leB_len,←leAll,ih,List.length_cons,Nat.succ_mul,Nat.add_comm]
theorem leAll_succ(ns:List Nat)(n i:Nat)(h:i<ns.length):leAll (ns.take (i+1)) n=leAll (ns.take i) n++leB (ns.getD i 0) n:=by
 rw[leAll,leAll,take_getD _ _ h,List.flatMap_append];simp
def NumsAt(w:World)(g:Nat)(ns:List Nat):Prop:=Row w g 103 ns.length (fun j=> .int .u32 (ns.getD j 0:Nat))
theorem numbersA(S:Nat→Prop)(v:Value)(l:List UInt8)(n:Nat)(hn:n≤4)(g:Nat)(ns:List Nat)(cap:Nat)(hns:ns.length≤8)(hb: ∀x∈ns,x<4294967296)(hl:l.length≤1000000)(w:World)(hF:Fresh S w)(hv:Buf w S v l)(hg:NumsAt w g ns):
 Calls Tryz.prog 269 #[v,.int .i64 n,.slice (some ⟨g,0,none⟩) ns.length cap] w fun r w' =>Only S w w' ∧ ∃v',r=.returned v' ∧Buf w' S v' (l++leAll ns n):=by
 obtain ⟨i0,hi0,hz0,hz1,hz2⟩:=info_parts infoB5
 have hgl:=hg.lt
 have HB:Hid (Buf w (fun k=>S k∧k≠g) v l):=by obtain ⟨cur,h1,_⟩:=hg;exact hv.but h1 (by decide)
 have HF:Hid (Fresh (fun k=>S k∧k≠g) w):=fun k hk=>⟨hF k hk,by omega⟩
 have HM:Hid (∀w',Only (fun k=>S k∧k≠g) w w' → ∀v' l',Buf w' (fun k=>S k∧k≠g) v' l' →Only S w w' ∧Buf w' S v' l'):=fun w' ho v' l' h=>⟨ho.mono (fun _ _ h=>h.1),h.mono (fun _ h=>h.1)⟩
 have HNG:Hid (¬(fun k=>S k∧k≠g) g):=fun h=>h.2 rfl
 have HG:=hide hg
 clear hg hv hF
 generalize (fun k=>S k∧k≠g)=T at*
 have HBR:Hid (∀x∈ns,x<4294967296):=hb
 clear hb
 go_in
 go_wp2_with fail
 go_loopw [0,8,9,12] (fun u _ _ x wr=> ∃i:Nat,i≤ns.length∧x=.int .i64 i∧Hid (Buf wr T u (l++leAll (ns.take i) n))∧Hid (Only T w wr)) (fun _ _ _ x _=>ns.length- (intOf x).toNat)
 ·exact ⟨0,by omega,rfl,by rw[List.take_zero,show leAll [] n=[] from rfl,List.append_nil];exact HB,Only.refl _ w⟩
 obtain ⟨i,hi,rfl,HU,HO⟩:=hrel
 clear HB
 by_cases hlt:i<ns.length
 ·have hltI:(i:Int)<(ns.length:Int):=by omega
  have hc:=((uh HG).kept (uh HO) (uh HNG)).cell i hlt
  have hvb:ns.getD i 0<4294967296:=by rw[List.getD_eq_getElem?_getD,List.getElem?_eq_getElem hlt];exact uh HBR _ (List.getElem_mem hlt)
  have HNX:=hide (leAll_succ ns n i hlt)
  have HLL:Hid ((leAll (ns.take i) n).length≤32):=by
   unfold Hid
   rw[leAll_len,List.length_take]
   have h1:min i ns.length≤8:=by omega
   exact Nat.le_trans (Nat.mul_le_mul h1 hn) (by decide)
  generalize ns.getD i 0=x at*
  generalize leAll (ns.take i) n=m at*
  have hi8:i≤8:=by omega
  go_wp2_with fail
  go_loopw [0,9,17] (fun u2 _ y wr2=> ∃j:Nat,j≤n∧y=.int .i64 j∧Hid (Buf wr2 T u2 (l++m++leB x j))∧Hid (Only T w wr2)) (fun _ _ y _=>n- (intOf y).toNat)
  ·exact ⟨0,by omega,rfl,by rw[show leB x 0=[] from rfl,List.append_nil];exact HU,HO⟩
  obtain ⟨j,hj,rfl,HU2,HO2⟩:=hrel
  clear HU HO hc
  by_cases hltj:j<n
  ·have hltJ:(j:Int)<(n:Int):=by omega
   have hmb:=uh HLL
   have HNJ:Hid (l++m++leB x (j+1)=l++m++leB x j++[b8 (x/2^(8*j)%256)]):=by unfold Hid;rw[leB_succ,List.append_assoc (l++m)]
   have hLn:(l++m++leB x j).length≤1000100:=by rw[List.length_append,List.length_append,leB_len];omega
   have hbb:x/2^(8*j)%256<256:=Nat.mod_lt _ (by omega)
   have hby:(x:Int)/2^(8*j)%256=((x/2^(8*j)%256:Nat):Int):=by rw[Int.natCast_emod,Int.natCast_ediv,Int.natCast_pow];rfl
   obtain ⟨ao,cp,rfl,how,hsa⟩:=uh HU2
   have hA:Old wr (wr.alloc (.cells #[.int .u8 ((x/2^(8*j)%256:Nat):Int)] 5)):=(Only.refl _ wr).alloc _
   generalize x/2^(8*j)%256=q at*
   generalize l++m++leB x j=L at*
   have HOW:=hide (own_old how hA)
   have HNW:=hide (byte_new5 (wr:=wr) (n:=q))
   have HSA:=hide hsa
   have HBF:=hide (fun (ao2:Option Addr) (cap2:Nat) (w3:World)=>Buf.more (w:=w) (w1:=wr.alloc (.cells #[.int .u8 (q:Int)] 5)) (w2:=w3) (l:=L) (bs:=[b8 q]) (ao:=ao) (ao2:=ao2) (cap:=cp) (cap2:=cap2) (H:=wr.heap.size+1) (uh HF _ (by have:=(uh HO2).size;omega)) ((uh HO2).transNew hA (fun _ _ x=>x.elim)) hsa)
   have hcq:byteCells8 [b8 q]=[.int .u8 (q:Int)]:=by rw[byteCells8,List.map_cons,List.map_nil,b8_toNat hbb]
   clear how hsa hA HU2
   go_wp2_with (at_builtin;refine wpList_append_lies _ rfl (.tmp 20) (.tmp 26) 62 rfl 0 5 i0 (.int .u8 0) 1 1 Tryz.underlying62 hi0 hz0 hz1 hz2 rfl (by omega) (.slice ao L.length cp) L.length _ rfl (uh HOW) ⟨wr.heap.size,0,none⟩ 1 1 [.int .u8 (q:Int)] rfl rfl (uh HNW) (by intro u hu;simp at hu;subst hu;rfl) (by omega) (by unfold maxLen;omega) (by omega) (by omega) (wr.heap.size+1) (by simp) ?_;intro g2 cap2 w3 ho3 hg3 hl3 hlt3;rw[←hcq] at ho3;have HX:=hide (uh HBF (some ⟨g2,0,none⟩) cap2 w3 ho3 hg3 (fun b hb=>by injection hb with hb;subst hb;exact hl3));clear ho3 hg3 hl3)
   go_roundw
   ·exact ⟨j+1,by omega,by go_num,by rw[uh HNJ];exact (uh HX).2,(uh HX).1⟩
   case measure=>simp[intOf];omega
  have hltJ:¬(j:Int)<(n:Int):=by omega
  have hje:j=n:=by omega
  subst hje
  go_wp2_with fail
  go_roundw
  ·exact ⟨i+1,by omega,by go_num,by rw[uh HNX,←List.append_assoc];exact HU2,HO2⟩
  case measure=>simp[intOf];omega
 have hltI:¬(i:Int)<(ns.length:Int):=by omega
 have hie:i=ns.length:=by omega
 have hU:=uh HU
 rw[hie,List.take_length] at hU
 obtain ⟨h1,h2⟩:=uh HM _ (uh HO) _ _ hU
 have H1:=hide h1
 have H2:=hide h2
 clear h1 h2 hU HU HO
 go_wp2_with fail
 go_ret
 exact ⟨H1,_,rfl,H2⟩
open Go.RowKit Go.Maps
def sL(s:ByteArray):List UInt8:=s.data.toList
theorem sL_len(s:ByteArray):(sL s).length=s.size:=by rw[sL,Array.length_toList];rfl
theorem strCells_sL(s:ByteArray):strCells s=byteCells8 (sL s):=by simp[strCells,byteCells8,sL]
theorem sL_app(a b:ByteArray):sL (a++b)=sL a++sL b:=by simp[sL,ByteArray.data_append]
structure It where
 name:ByteArray
 way:Nat
 check:Nat
 size:Nat
 packed:ByteArray
abbrev It.v(i:It):Array Value:= #[.string i.name,.int .u32 i.way,.int .u32 i.check,.int .u32 i.size,.string i.packed]
def It.ok(i:It):Prop:=i.way<4294967296∧i.check<4294967296∧i.size<4294967296∧i.name.size≤60000∧i.packed.size≤200000
def ItAt(w:World)(g:Nat)(i:It):Prop:=w.heap[g]? =some (.cells i.v 131 (0,0))
theorem ItAt.lt{w:World}{g:Nat}{i:It}(h:ItAt w g i):g<w.heap.size:=(Array.getElem?_eq_some_iff.1 h).1
theorem ItAt.kept{w w' :World}{g:Nat}{i:It}{S:Nat→Prop}(h:ItAt w g i)(ho:Only S w w')(hs:¬S g):ItAt w' g i:=(ho.block g h.lt hs).trans h
theorem ItAt.cells{w:World}{g:Nat}{i:It}(h:ItAt w g i):w.cell? ⟨g,0,none⟩=some (.string i.name)∧w.cell? ⟨g,1,none⟩=some (.int .u32 i.way)∧w.cell? ⟨g,2,none⟩=some (.int .u32 i.check)∧w.cell? ⟨g,3,none⟩=some (.int .u32 i.size)∧w.cell? ⟨g,4,none⟩=some (.string i.packed):=by
 refine ⟨?_, ?_, ?_, ?_, ?_⟩<;>(rw[cell_of_row w g _ _ _ (0,0) h];rfl)
def numV(ns:List Nat):Array Value:=(ns.map fun x:Nat=>Value.int .u32 (x:Int)).toArray
theorem numStep(S:Nat→Prop)(v:Value)(l:List UInt8)(n:Nat)(hn:n≤4)(ns:List Nat)(m:Nat)(hm:ns.length=m)(hns:m≤8)(hb: ∀x∈ns,x<4294967296)(hl:l.length≤1000000)(w:World)(H:Nat)(hH:w.heap.size=H)(hF:Fresh S w)(hv:Buf w S v l):
 Calls Tryz.prog 269 #[v,.int .i64 n,.slice (some ⟨H,0,none⟩) m m] (w.alloc (.cells (numV ns) 103)) fun r w' =>Only S w w' ∧ ∃v',r=.returned v' ∧Buf w' S v' (l++leAll ns n):=by
 subst hm hH
 have hA:Old w (w.alloc (.cells (numV ns) 103)):=(Only.refl _ w).alloc _
 refine (numbersA S v l n hn w.heap.size ns ns.length hns hb hl (w.alloc (.cells (numV ns) 103)) (hF.mono (by simp)) (hv.old hA) ?_).mono ?_
 ·refine Row.new w _ _ _ _ (by simp[numV]) (fun j hj=> ?_)
  simp only[numV,List.getElem?_toArray,List.getElem?_map,List.getD_eq_getElem?_getD,List.getElem?_eq_getElem hj,Option.map_some,Option.getD_some]
 rintro r w' ⟨ho,h⟩
 exact ⟨(Only.oldS hA).trans ho,h⟩
def toldL(p:ByteArray)(i:It):List UInt8:=leAll [20,0,i.way,0,33] 2++leAll [i.check,i.packed.size,i.size] 4++leAll [p.size+i.name.size,0] 2
theorem toldL_len(p:ByteArray)(i:It):(toldL p i).length=26:=by simp[toldL,leAll_len]
theorem toldA(S:Nat→Prop)(v:Value)(l:List UInt8)(p:ByteArray)(hp:p.size≤1000)(i:It)(hi:i.ok)(hl:l.length≤900000)(w:World)(hF:Fresh S w)(hv:Buf w S v l):
 Calls Tryz.prog 270 #[v,.string p,.agg i.v] w fun r w' =>Only S w w' ∧ ∃v',r=.returned v' ∧Buf w' S v' (l++toldL p i):=by
 obtain ⟨h1,h2,h3,h4,h5⟩:=hi
 have hA:Old w (w.alloc (.cells i.v 131)):=(Only.refl _ w).alloc _
 have HI:Hid (ItAt (w.alloc (.cells i.v 131)) w.heap.size i):=Go.heap_alloc_new w _
 have HB:Hid (Buf (w.alloc (.cells i.v 131)) (fun k=>S k∧k≠w.heap.size) v l):=(hv.old hA).but (uh HI) (by decide)
 have HF:Hid (Fresh (fun k=>S k∧k≠w.heap.size) (w.alloc (.cells i.v 131))):=fun k hk=>by rw[World.size_alloc] at hk;exact ⟨hF k (by omega),by omega⟩
 have HM:Hid (∀w',Only (fun k=>S k∧k≠w.heap.size) (w.alloc (.cells i.v 131)) w' → ∀v' l',Buf w' (fun k=>S k∧k≠w.heap.size) v' l' →Only S w w' ∧Buf w' S v' l'):=fun w' ho v' l' h=>⟨(Only.oldS hA).transNew ho (fun _ _ h=>h.1),h.mono (fun _ h=>h.1)⟩
 have HNG:Hid (¬(fun k=>S k∧k≠w.heap.size) w.heap.size):=fun h=>h.2 rfl
 clear hv hF hA
 generalize (fun k=>S k∧k≠w.heap.size)=T at*
 obtain ⟨c0,c1,c2,c3,c4⟩:=(uh HI).cells
 have HT:Hid (l++toldL p i=l++leAll [20,0,i.way,0,33] 2++leAll [i.check,i.packed.size,i.size] 4++leAll [p.size+i.name.size,0] 2):=by unfold Hid toldL;simp only[List.append_assoc]
 have HL1:Hid ((l++leAll [20,0,i.way,0,33] 2).length≤900010):=by unfold Hid;rw[List.length_append,leAll_len];simp;omega
 have HL2:Hid ((l++leAll [20,0,i.way,0,33] 2++leAll [i.check,i.packed.size,i.size] 4).length≤900030):=by unfold Hid;rw[List.length_append,List.length_append,leAll_len,leAll_len];simp;omega
 obtain ⟨nm,wy,ck,sz,pk⟩:=i
 simp only[It.v] at*
 have hw1:IntKind.u32.wrap (pk.size:Int)=(pk.size:Int):=by rw[IntKind.wrap_u32];omega
 have hw2:IntKind.u32.wrap ((p.size:Int)+(nm.size:Int))=((p.size+nm.size:Nat):Int):=by rw[IntKind.wrap_u32];omega
 have H1:Hid (Calls Tryz.prog 269 #[v,.int .i64 2,.slice (some ⟨w.heap.size+1,0,none⟩) 5 5] ((w.alloc (.cells #[.string nm,.int .u32 (wy:Int),.int .u32 (ck:Int),.int .u32 (sz:Int),.string pk] 131)).alloc (.cells #[.int .u32 20,.int .u32 0,.int .u32 (wy:Int),.int .u32 0,.int .u32 33] 103)) fun r w' =>Only T (w.alloc (.cells #[.string nm,.int .u32 (wy:Int),.int .u32 (ck:Int),.int .u32 (sz:Int),.string pk] 131)) w' ∧ ∃v',r=.returned v' ∧Buf w' T v' (l++leAll [20,0,wy,0,33] 2)):=
  numStep T v l 2 (by omega) [20,0,wy,0,33] 5 rfl (by omega) (by simp;omega) (by omega) _ (w.heap.size+1) (by rw[World.size_alloc]) (uh HF) (uh HB)
 go_in
 go_wp2_with fail
 refine (uh H1).mono ?_
 rintro r w1 ⟨ho1,v1,rfl,hv1⟩
 have HO1:=hide ho1
 have HI1:=hide ((uh HI).kept ho1 (uh HNG))
 have H2:Hid (Calls Tryz.prog 269 #[v1,.int .i64 4,.slice (some ⟨w1.heap.size,0,none⟩) 3 3] (w1.alloc (.cells #[.int .u32 (ck:Int),.int .u32 (pk.size:Int),.int .u32 (sz:Int)] 103)) fun r w' =>Only T w1 w' ∧ ∃v',r=.returned v' ∧Buf w' T v' (l++leAll [20,0,wy,0,33] 2++leAll [ck,pk.size,sz] 4)):=
  numStep T v1 _ 4 (by omega) [ck,pk.size,sz] 3 rfl (by omega) (by simp;omega) (by have:=uh HL1;omega) w1 _ rfl ((uh HF).mono ho1.size) hv1
 obtain ⟨d0,d1,d2,d3,d4⟩:=(uh HI1).cells
 clear H1 ho1 hv1 HI c0 c1 c2 c3 c4
 go_wp2_with fail
 refine (uh H2).mono ?_
 rintro r w2 ⟨ho2,v2,rfl,hv2⟩
 have HO2:=hide ((uh HO1).trans ho2)
 have HI2:=hide ((uh HI1).kept ho2 (uh HNG))
 have H3:Hid (Calls Tryz.prog 269 #[v2,.int .i64 2,.slice (some ⟨w2.heap.size,0,none⟩) 2 2] (w2.alloc (.cells #[.int .u32 ((p.size+nm.size:Nat):Int),.int .u32 0] 103)) fun r w' =>Only T w2 w' ∧ ∃v',r=.returned v' ∧Buf w' T v' (l++leAll [20,0,wy,0,33] 2++leAll [ck,pk.size,sz] 4++leAll [p.size+nm.size,0] 2)):=
  numStep T v2 _ 2 (by omega) [p.size+nm.size,0] 2 rfl (by omega) (by simp;omega) (by have:=uh HL2;omega) w2 _ rfl ((uh HF).mono (uh HO2).size) hv2
 obtain ⟨c0,c1,c2,c3,c4⟩:=(uh HI2).cells
 clear H2 ho2 hv2 HI1 d0 d1 d2 d3 d4
 go_wp2_with fail
 refine (uh H3).mono ?_
 rintro r w3 ⟨ho3,v3,rfl,hv3⟩
 have HX:=hide (uh HM w3 ((uh HO2).trans ho3) v3 _ hv3)
 clear H3 ho3 hv3 HI2 c0 c1 c2 c3 c4
 go_wp2_with fail
 go_ret
 exact ⟨(uh HX).1,_,rfl,by rw[uh HT];exact (uh HX).2⟩
abbrev mkL:ByteArray:=⟨#[80,75,3,4]⟩
abbrev mkC:ByteArray:=⟨#[80,75,1,2]⟩
abbrev mkE:ByteArray:=⟨#[80,75,5,6]⟩
theorem Buf.str{w1 w2:World}{S:Nat→Prop}{l:List UInt8}{ao ao2:Option Addr}{cap cap2:Nat}(hF:Fresh S w1)(s:ByteArray)(hsa: ∀b:Addr,ao=some b→S b.block)
 (ho:w2.ownsRow 0 5 1 (.slice ao2 (l.length+s.size) cap2) (l.length+s.size) (byteCells8 l++strCells s))(hg:w1.grownBy w2 (Value.slice ao l.length cap).ownBlock)(hl: ∀b:Addr,ao2=some b→(Value.slice ao l.length cap).ownBlock=some b.block∨b.block=w1.heap.size):
 Only S w1 w2∧Buf w2 S (.slice ao2 (l.length+s.size) cap2) (l++sL s):=by
 have h:=Buf.more (w:=w1) (w1:=w1) (w2:=w2) (l:=l) (bs:=sL s) (ao:=ao) (ao2:=ao2) (cap:=cap) (cap2:=cap2) (H:=w1.heap.size) (hF _ (Nat.le_refl _)) (Only.refl _ w1) hsa (by rw[sL_len,←strCells_sL];exact ho) hg hl
 rw[sL_len] at h
 exact h
def localL(p:ByteArray)(i:It):List UInt8:=sL mkL++toldL p i++sL (p++i.name)++sL i.packed
theorem localA(S:Nat→Prop)(v:Value)(l:List UInt8)(p:ByteArray)(hp:p.size≤1000)(i:It)(hi:i.ok)(hl:l.length≤600000)(w:World)(hF:Fresh S w)(hv:Buf w S v l):
 Calls Tryz.prog 170 #[v,.string p,.agg i.v] w fun r w' =>Only S w w' ∧ ∃v',r=.returned v' ∧Buf w' S v' (l++localL p i):=by
 obtain ⟨i0,hi0,hz0,hz1,hz2⟩:=info_parts infoB5
 have HK:=hide hi
 have hA:Old w (w.alloc (.cells i.v 131)):=(Only.refl _ w).alloc _
 have HI:Hid (ItAt (w.alloc (.cells i.v 131)) w.heap.size i):=Go.heap_alloc_new w _
 have HB:Hid (Buf (w.alloc (.cells i.v 131)) (fun k=>S k∧k≠w.heap.size) v l):=(hv.old hA).but (uh HI) (by decide)
 have HF:Hid (Fresh (fun k=>S k∧k≠w.heap.size) (w.alloc (.cells i.v 131))):=fun k hk=>by rw[World.size_alloc] at hk;exact ⟨hF k (by omega),by omega⟩
 have HM:Hid (∀w',Only (fun k=>S k∧k≠w.heap.size) (w.alloc (.cells i.v 131)) w' → ∀v' l',Buf w' (fun k=>S k∧k≠w.heap.size) v' l' →Only S w w' ∧Buf w' S v' l'):=fun w' ho v' l' h=>⟨(Only.oldS hA).transNew ho (fun _ _ h=>h.1),h.mono (fun _ h=>h.1)⟩
 have HNG:Hid (¬(fun k=>S k∧k≠w.heap.size) w.heap.size):=fun h=>h.2 rfl
 have HT:Hid (l++localL p i=l++sL mkL++toldL p i++sL (p++i.name)++sL i.packed):=by unfold Hid localL;simp only[List.append_assoc]
 clear hv hF hA
 generalize (fun k=>S k∧k≠w.heap.size)=T at*
 have HL1:Hid ((l++sL mkL).length≤600010):=by unfold Hid;rw[List.length_append,sL_len];simp[ByteArray.size];omega
 have HL2:Hid ((l++sL mkL++toldL p i).length≤600050):=by unfold Hid;rw[List.length_append,toldL_len];have:=uh HL1;omega
 have HL3:Hid ((l++sL mkL++toldL p i++sL (p++i.name)).length≤700000):=by unfold Hid;rw[List.length_append,sL_len,ByteArray.size_append];have:=uh HL2;have:=hi.2.2.2.1;omega
 have hcat:¬9223372036854775807<p.size+i.name.size:=by have:=hi.2.2.2.1;omega
 have hpk:i.packed.size≤200000:=hi.2.2.2.2
 have hnm:(p++i.name).size≤61000:=by rw[ByteArray.size_append];have:=hi.2.2.2.1;omega
 clear hi
 have H2:=hide (fun (w1:World) (v1:Value) (hF1:Fresh T w1) (hv1:Buf w1 T v1 (l++sL mkL))=>toldA T v1 (l++sL mkL) p hp i (uh HK) (by have:=uh HL1;omega) w1 hF1 hv1)
 generalize toldL p i=tl at*
 obtain ⟨nm,wy,ck,sz,pk⟩:=i
 simp only[It.v] at*
 obtain ⟨ao,cp,rfl,how,hsa⟩:=uh HB
 have HOW:=hide how
 have HST:=hide (fun ao2 cap2 w2=>Buf.str (w2:=w2) (ao2:=ao2) (cap2:=cap2) (uh HF) mkL hsa (l:=l) (cap:=cp))
 clear how hsa HB
 have hmk:mkL.size=4:=rfl
 have hcc:=(uh HI).cells
 obtain ⟨c0,c1,c2,c3,c4⟩:=hcc
 go_in
 go_upto_region 2 with (at_builtin;refine wpList_append_str rfl (.tmp 7) (.const (.string mkL)) 62 9 rfl 0 5 i0 (.int .u8 0) Tryz.underlying62 Tryz.underlying9 hi0 hz0 hz1 hz2 rfl (.slice ao l.length cp) l.length _ rfl (uh HOW) mkL rfl (by unfold maxLen;omega) (by omega) (by omega) ?_;intro ao2 cap2 w2 ho2 hg2 hl2;have HX2:=hide (uh HST ao2 cap2 w2 ho2 hg2 hl2);clear ho2 hg2 hl2)
 have ho2:=(uh HX2).1
 have HO2:=hide ho2
 have HI2:=hide ((uh HI).kept ho2 (uh HNG))
 have HC2:=hide (uh H2 w2 _ ((uh HF).mono ho2.size) (uh HX2).2)
 obtain ⟨d0,d1,d2,d3,d4⟩:=(uh HI2).cells
 clear ho2 HX2 HI HOW HST c0 c1 c2 c3 c4 H2
 go_wp2_with fail
 refine (uh HC2).mono ?_
 rintro r w3 ⟨ho3,v3,rfl,hv3⟩
 have HI3:=hide ((uh HI2).kept ho3 (uh HNG))
 have HF3:=hide ((uh HF).mono (Nat.le_trans (uh HO2).size ho3.size))
 have HO3:=hide ((uh HO2).trans ho3)
 obtain ⟨ao3,cp3,rfl,how3,hsa3⟩:=hv3
 have HOW3:=hide how3
 have HST3:=hide (fun ao4 cap4 w4=>Buf.str (w2:=w4) (ao2:=ao4) (cap2:=cap4) (uh HF3) (p++nm) hsa3 (l:=l++sL mkL++tl) (cap:=cp3))
 obtain ⟨c0,c1,c2,c3,c4⟩:=(uh HI3).cells
 clear HC2 ho3 how3 hsa3 HI2 d0 d1 d2 d3 d4 HO2
 have hl3:=uh HL2
 have HL4:=hide (uh HL3)
 generalize l++sL mkL++tl=l3 at*
 obtain ⟨N5,hN5⟩: ∃N,l3.length+(p++nm).size=N:=⟨_,rfl⟩
 go_upto_region 4 with (at_builtin;refine wpList_append_str rfl (.tmp 13) (.tmp 17) 62 9 rfl 0 5 i0 (.int .u8 0) Tryz.underlying62 Tryz.underlying9 hi0 hz0 hz1 hz2 rfl (.slice ao3 l3.length cp3) l3.length _ rfl (uh HOW3) (p++nm) rfl (by unfold maxLen;omega) (by omega) (by omega) ?_;intro ao4 cap4 w4 ho4 hg4 hl4;have hx4:=uh HST3 ao4 cap4 w4 ho4 hg4 hl4;rw[hN5] at hx4 ⊢;have HX4:=hide hx4;clear ho4 hg4 hl4 hx4)
 have ho4:=(uh HX4).1
 have hv4:=(uh HX4).2
 have HI4:=hide ((uh HI3).kept ho4 (uh HNG))
 have HF4:=hide ((uh HF3).mono ho4.size)
 have HO4:=hide ((uh HO3).trans ho4)
 have hl4:=uh HL4
 obtain ⟨ao5,cp5,he5,how5,hsa5⟩:=hv4
 injection he5 with e1 e2 e3
 clear hN5
 subst e1 e2 e3
 have HOW5:=hide how5
 have HST5:=hide (fun ao6 cap6 w6=>Buf.str (w2:=w6) (ao2:=ao6) (cap2:=cap6) (uh HF4) pk hsa5 (l:=l3++sL (p++nm)) (cap:=cap4))
 obtain ⟨d0,d1,d2,d3,d4⟩:=(uh HI4).cells
 clear ho4 how5 hsa5 HX4 HI3 c0 c1 c2 c3 c4 HO3 HOW3 HST3
 generalize l3++sL (p++nm)=l5 at*
 go_wp2_with (at_builtin;refine wpList_append_str rfl (.tmp 19) (.tmp 21) 62 9 rfl 0 5 i0 (.int .u8 0) Tryz.underlying62 Tryz.underlying9 hi0 hz0 hz1 hz2 rfl (.slice ao4 l5.length cap4) l5.length _ rfl (uh HOW5) pk rfl (by unfold maxLen;omega) (by omega) (by omega) ?_;intro ao6 cap6 w6 ho6 hg6 hl6;have HX6:=hide (uh HST5 ao6 cap6 w6 ho6 hg6 hl6);clear ho6 hg6 hl6)
 have HX:=hide (uh HM w6 ((uh HO4).trans (uh HX6).1) _ _ (uh HX6).2)
 clear HX6
 go_ret
 exact ⟨(uh HX).1,_,rfl,by rw[uh HT];exact (uh HX).2⟩
end Go.Proofs.YtndfmgdhiallpaaGreatDoor
