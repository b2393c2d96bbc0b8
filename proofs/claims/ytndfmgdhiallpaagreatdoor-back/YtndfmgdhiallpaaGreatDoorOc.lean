import Derived.Test.YtndfmgdhiallpaaGreatDoorOb
import Derived.Test.YtndfmgdhiallpaaGreatDoorMd
set_option maxRecDepth 100000
set_option maxHeartbeats 4000000
namespace Go.Proofs.YtndfmgdhiallpaaGreatDoor
open Go.RowKit Go.Maps
abbrev letS:ByteArray:=⟨#[65,66,67,68,69,70,71,72,73,74,75,76,77,78,79,80,81,82,83,84,85,86,87,88,89,90,97,98,99,100,101,102,103,104,105,106,107,108,109,110,111,112,113,114,115,116,117,118,119,120,121,122,48,49,50,51,52,53,54,55,56,57,43,47]⟩
def sxt(v p:Nat):Nat:=v/2^(18- 6*p)%64
theorem sxt_lt(v p:Nat):sxt v p<64:=Nat.mod_lt _ (by omega)
def letN(v p:Nat):Nat:=btN letS (sxt v p)
def letL(v c:Nat):List UInt8:=(List.range c).map fun p=>b8 (letN v p)
theorem letL_len(v c:Nat):(letL v c).length=c:=by simp[letL]
theorem letL_succ(v c:Nat):letL v (c+1)=letL v c++[b8 (letN v c)]:=by simp[letL,List.range_succ]
theorem sxt_u{v sh p:Nat}(hv:v<4294967296)(h:sh+6*p=18):bits BinOp.and IntKind.u32 ((v:Int)/2^sh) 63=(sxt v p:Int):=by
 have e:(v:Int)/2^sh=((v/2^sh:Nat):Int):=by rw[Int.natCast_ediv,Int.natCast_pow];rfl
 have hl:v/2^sh<4294967296:=Nat.lt_of_le_of_lt (Nat.div_le_self _ _) hv
 have:=u32_and_nat (v/2^sh) 63 hl (by omega)
 have hm:(v/2^sh)&&&63=(v/2^sh)%64:=Nat.and_two_pow_sub_one_eq_mod (v/2^sh) 6
 rw[hm] at this
 rw[e]
 refine this.trans ?_
 rw[sxt,show 18- 6*p=sh by omega]
theorem lettersA(S:Nat→Prop)(v:Value)(l:List UInt8)(x c:Nat)(hx:x<4294967296)(hc:c≤4)(hl:l.length≤1000000)(w:World)(hF:Fresh S w)(hv:Buf w S v l):
 Calls Tryz.prog 180 #[v,.int .u32 x,.int .i64 c] w fun r w' =>Only S w w' ∧ ∃v',r=.returned v' ∧Buf w' S v' (l++letL x c):=by
 obtain ⟨i0,hi0,hz0,hz1,hz2⟩:=info_parts infoB5
 have HB:=hide hv
 have HF:=hide hF
 clear hv hF
 go_in
 go_wp2_with fail
 go_loopw [0,7,9] (fun u _ y wr=> ∃j:Nat,j≤c∧y=.int .i64 j∧Hid (Buf wr S u (l++letL x j))∧Hid (Only S w wr)) (fun _ _ y _=>c- (intOf y).toNat)
 ·exact ⟨0,by omega,rfl,by rw[show letL x 0=[] from rfl,List.append_nil];exact HB,Only.refl _ w⟩
 obtain ⟨j,hj,rfl,HU2,HO2⟩:=hrel
 clear HB
 by_cases hltj:j<c
 ·have hltJ:(j:Int)<(c:Int):=by omega
  have HNJ:Hid (l++letL x (j+1)=l++letL x j++[b8 (letN x j)]):=by unfold Hid;rw[letL_succ,List.append_assoc]
  have hLn:(l++letL x j).length≤1000100:=by rw[List.length_append,letL_len];omega
  obtain ⟨s,hs⟩: ∃s,s=18- 6*j:=⟨_,rfl⟩
  have hs6:s+6*j=18:=by omega
  have hsI:(18:Int)- 6*(j:Int)=(s:Int):=by omega
  have hs18:s≤18:=by omega
  have hsx:=sxt_u hx hs6
  have hsl:=sxt_lt x j
  have hqb:letN x j<256:=btN_lt letS (sxt x j)
  have HLN:Hid (letN x j=btN letS (sxt x j)):=rfl
  generalize sxt x j=m at*
  generalize letN x j=q at*
  have hmI:(m:Int)<64:=by omega
  have hdd:((⟨#[65,66,67,68,69,70,71,72,73,74,75,76,77,78,79,80,81,82,83,84,85,86,87,88,89,90,97,98,99,100,101,102,103,104,105,106,107,108,109,110,111,112,113,114,115,116,117,118,119,120,121,122,48,49,50,51,52,53,54,55,56,57,43,47]⟩:ByteArray)[m]'(show m<64 from hsl)).toNat=q:=(btN_get (s:=letS) (show m<64 from hsl)).trans (uh HLN).symm
  obtain ⟨ao,cp,rfl,how,hsa⟩:=uh HU2
  have hA:Old wr (wr.alloc (.cells #[.int .u8 (q:Int)] 5)):=(Only.refl _ wr).alloc _
  generalize l++letL x j=L at*
  have HOW:=hide (own_old how hA)
  have HNW:=hide (byte_new5 (wr:=wr) (n:=q))
  have HSA:=hide hsa
  have HBF:=hide (fun (ao2:Option Addr) (cap2:Nat) (w3:World)=>Buf.more (w:=w) (w1:=wr.alloc (.cells #[.int .u8 (q:Int)] 5)) (w2:=w3) (l:=L) (bs:=[b8 q]) (ao:=ao) (ao2:=ao2) (cap:=cp) (cap2:=cap2) (H:=wr.heap.size+1) (uh HF _ (by have:=(uh HO2).size;omega)) ((uh HO2).transNew hA (fun _ _ x=>x.elim)) hsa)
  have hcq:byteCells8 [b8 q]=[.int .u8 (q:Int)]:=by rw[byteCells8,List.map_cons,List.map_nil,b8_toNat hqb]
  clear how hsa hA HU2 HLN hs
  go_wp2_with (at_builtin;refine wpList_append_lies _ rfl (.tmp 12) (.tmp 20) 62 rfl 0 5 i0 (.int .u8 0) 1 1 Tryz.underlying62 hi0 hz0 hz1 hz2 rfl (by omega) (.slice ao L.length cp) L.length _ rfl (uh HOW) ⟨wr.heap.size,0,none⟩ 1 1 [.int .u8 (q:Int)] rfl rfl (uh HNW) (by intro u hu;simp at hu;subst hu;rfl) (by omega) (by unfold maxLen;omega) (by omega) (by omega) (wr.heap.size+1) (by simp) ?_;intro g2 cap2 w3 ho3 hg3 hl3 hlt3;rw[←hcq] at ho3;have HX:=hide (uh HBF (some ⟨g2,0,none⟩) cap2 w3 ho3 hg3 (fun b hb=>by injection hb with hb;subst hb;exact hl3));clear ho3 hg3 hl3)
  go_roundw
  ·exact ⟨j+1,by omega,by go_num,by rw[uh HNJ];exact (uh HX).2,(uh HX).1⟩
  case measure=>simp[intOf];omega
 have hltJ:¬(j:Int)<(c:Int):=by omega
 have hje:j=c:=by omega
 subst hje
 go_wp2_with fail
 go_ret
 exact ⟨HO2,_,rfl,HU2⟩
def trip(b:Nat→Nat)(p:Nat):Nat:=(b p*65536|||b (p+1)*256)|||b (p+2)
def lets(b:Nat→Nat)(j:Nat):List UInt8:=(List.range j).flatMap fun i=>letL (trip b (3*i)) 4
theorem lets_succ(b:Nat→Nat)(j:Nat):lets b (j+1)=lets b j++letL (trip b (3*j)) 4:=by simp[lets,List.range_succ,List.flatMap_append]
theorem lets_len(b:Nat→Nat)(j:Nat):(lets b j).length=4*j:=by
 induction j with
 |zero=>rfl
 |succ j ih=>rw[lets_succ,List.length_append,ih,letL_len];omega
theorem buf_string{w:World}{S:Nat→Prop}{ao:Option Addr}{n cp:Nat}{l:List UInt8}(h:Buf w S (.slice ao n cp) l):(convert 62 9 (.slice ao n cp)).run Tryz.prog w=.ok (.string ⟨l.toArray⟩) w:=by
 obtain ⟨ao2,cp2,hv,h1,_⟩:=h
 rw[hv]
 exact out_string h1
abbrev sumA(b:Nat→Nat):Array Value:=arrF 32 fun i=> .int .u8 (b i:Int)
theorem inLettersA(b:Nat→Nat)(hb: ∀i,b i<256)(w:World):
 Calls Tryz.prog 97 #[.agg (sumA b)] w fun r w' =>r=.returned (.string (strB (lets b 10++letL (b 30*65536|||b 31*256) 3++[61])))∧Old w w' :=by
 have HLD:Hid (∀j,j<32→(w.alloc (.cells (sumA b) 152)).cell? ⟨w.heap.size,j,none⟩=some (.int .u8 (b j:Int))):=fun j hj=>by
  rw[cell_of_row _ _ j _ _ (0,0) (Go.heap_alloc_new w _)];exact arrF_get 32 _ j hj
 generalize hres:strB (lets b 10++letL (b 30*65536|||b 31*256) 3++[61])=res
 have HRES:=hide hres
 clear hres
 have HB:=hide hb
 have HO0:Hid (Old w (w.alloc (.cells (sumA b) 152))):=(Only.refl _ w).alloc _
 clear hb
 go_in
 go_wp2_with fail
 obtain ⟨w1,hw1⟩: ∃w1,w.alloc (.cells (sumA b) 152)=w1:=⟨_,rfl⟩
 rw[hw1] at HLD HO0 ⊢
 have hsz:w1.heap.size=w.heap.size+1:=by rw[←hw1,World.size_alloc]
 clear hw1
 obtain ⟨S,hS⟩: ∃S:Nat→Prop,S=fun k=>w1.heap.size≤k:=⟨_,rfl⟩
 have HF:Hid (Fresh S w1):=by rw[hS];exact fun k hk=>hk
 have HN:Hid (¬S w.heap.size):=by rw[hS];unfold Hid;omega
 have HB0:Hid (Buf w1 S (.slice none 0 0) (lets b 0)):=Buf.nil _ _
 have HSO:Hid (∀W,Only S w1 W→Old w W):=fun W ho=>(uh HO0).transNew ho (fun i hi h=>by rw[hS] at h;omega)
 have HSZ:=hide hsz
 clear hS hsz
 go_loopw [3,4] (fun u x wr=> ∃j:Nat,j≤10∧x=.int .i64 ((3*j:Nat):Int)∧Hid (Buf wr S u (lets b j))∧Hid (Only S w1 wr)) (fun _ x _=>30- (intOf x).toNat)
 ·exact ⟨0,by omega,rfl,HB0,Only.refl _ _⟩
 obtain ⟨j,hj,rfl,HU,HO⟩:=hrel
 clear HB0
 by_cases hj10:j<10
 ·obtain ⟨p,hp⟩: ∃p,p=3*j:=⟨_,rfl⟩
  rw[←hp]
  have hp30:(p:Int)<30:=by omega
  obtain ⟨p1,hp1⟩: ∃p1,p1=p+1:=⟨_,rfl⟩
  obtain ⟨p2,hp2⟩: ∃p2,p2=p+2:=⟨_,rfl⟩
  have hp1I:(p:Int)+1=(p1:Int):=by omega
  have hp2I:(p:Int)+2=(p2:Int):=by omega
  have hpl:(p:Int)<32:=by omega
  have hp1l:(p1:Int)<32:=by omega
  have hp2l:(p2:Int)<32:=by omega
  have c0:=((uh HO).cell (p:=⟨w.heap.size,p,none⟩) (by have:=uh HSZ;show w.heap.size<_;omega) (uh HN)).trans (uh HLD p (by omega))
  have c1:=((uh HO).cell (p:=⟨w.heap.size,p1,none⟩) (by have:=uh HSZ;show w.heap.size<_;omega) (uh HN)).trans (uh HLD p1 (by omega))
  have c2:=((uh HO).cell (p:=⟨w.heap.size,p2,none⟩) (by have:=uh HSZ;show w.heap.size<_;omega) (uh HN)).trans (uh HLD p2 (by omega))
  have l0:=uh HB p
  have l1:=uh HB p1
  have l2:=uh HB p2
  have HTR:Hid (trip b (3*j)=(b p*65536|||b p1*256)|||b p2):=by unfold Hid trip;rw[hp1,hp2,hp]
  generalize b p=b0 at*
  generalize b p1=b1 at*
  generalize b p2=b2 at*
  obtain ⟨x0,hx0⟩: ∃x0,x0=b0*65536:=⟨_,rfl⟩
  obtain ⟨x1,hx1⟩: ∃x1,x1=b1*256:=⟨_,rfl⟩
  have hx0I:(b0:Int)*65536=(x0:Int):=by omega
  have hx1I:(b1:Int)*256=(x1:Int):=by omega
  have hx0l:x0<4294967296:=by omega
  have hx1l:x1<4294967296:=by omega
  have ho1:=u32_or_nat x0 x1 hx0l hx1l
  have ho1l:=or32 hx0l hx1l
  have ho2:=u32_or_nat (x0|||x1) b2 ho1l (by omega)
  have ho2l:(x0|||x1)|||b2<4294967296:=or32 ho1l (by omega)
  have HTS:Hid (lets b (j+1)=lets b j++letL ((x0|||x1)|||b2) 4):=by unfold Hid;rw[lets_succ,uh HTR,hx0,hx1]
  have hLn:(lets b j).length≤1000:=by rw[lets_len];omega
  generalize (x0|||x1)|||b2=o2 at*
  generalize x0|||x1=o1 at*
  generalize lets b j=L at*
  obtain ⟨ao,cp,hue,_,_⟩:=uh HU
  subst hue
  have hFw:Hid (Fresh S wr):=fun k hk=>uh HF k (by have:=(uh HO).size;omega)
  have HL:=hide (fun W hF' hB' =>lettersA S (.slice ao L.length cp) L o2 4 ho2l (by omega) (by omega) W hF' hB')
  have hwb0:IntKind.u32.wrap (b0:Int)=(b0:Int):=by rw[IntKind.wrap_u32];omega
  have hwb1:IntKind.u32.wrap (b1:Int)=(b1:Int):=by rw[IntKind.wrap_u32];omega
  have hwb2:IntKind.u32.wrap (b2:Int)=(b2:Int):=by rw[IntKind.wrap_u32];omega
  have hwx0:IntKind.u32.wrap (x0:Int)=(x0:Int):=by rw[IntKind.wrap_u32];omega
  have hwx1:IntKind.u32.wrap (x1:Int)=(x1:Int):=by rw[IntKind.wrap_u32];omega
  have hwp1:IntKind.i64.wrap (p1:Int)=(p1:Int):=i64_wrap_nat _ (by omega)
  have hwp2:IntKind.i64.wrap (p2:Int)=(p2:Int):=i64_wrap_nat _ (by omega)
  have hp00:(0:Int)≤(p:Int):=by omega
  have hp10:(0:Int)≤(p1:Int):=by omega
  have hp20:(0:Int)≤(p2:Int):=by omega
  have HPJ:Hid (p+3=3*(j+1)):=by unfold Hid;omega
  have hp3:p≤30:=by omega
  clear hx0 hx1 hp1 hp2 hp
  go_upto_region 5 with fail
  have HSW:wr.drew.cell? ⟨w.heap.size,p,none⟩=some (.int .u8 (b0:Int))∧wr.drew.cell? ⟨w.heap.size,p1,none⟩=some (.int .u8 (b1:Int))∧wr.drew.cell? ⟨w.heap.size,p2,none⟩=some (.int .u8 (b2:Int)):=⟨c0,c1,c2⟩
  refine wp_region_last (S:=fun W=>W.cell? ⟨w.heap.size,p,none⟩=some (.int .u8 (b0:Int))∧W.cell? ⟨w.heap.size,p1,none⟩=some (.int .u8 (b1:Int))∧W.cell? ⟨w.heap.size,p2,none⟩=some (.int .u8 (b2:Int))) (L:=20) (by kernel_rfl) ?_
  refine tk 0 21 (.slice ao L.length cp) 9 HSW ?_
  refine tk 1 21 (.int .i64 p) 10 HSW ?_
  refine tk 2 21 (.pointer (some ⟨w.heap.size,p,none⟩)) 11 HSW ?_
  refine tk 3 21 (.int .u8 b0) 12 HSW ?_
  refine tk 4 21 (.int .u32 b0) 13 HSW ?_
  refine tk 5 21 (.int .u32 x0) 14 HSW ?_
  refine tk 6 21 (.int .i64 p) 15 HSW ?_
  refine tk 7 21 (.int .i64 p1) 16 HSW ?_
  refine tk 8 21 (.pointer (some ⟨w.heap.size,p1,none⟩)) 17 HSW ?_
  refine tk 9 21 (.int .u8 b1) 18 HSW ?_
  refine tk 10 21 (.int .u32 b1) 19 HSW ?_
  refine tk 11 21 (.int .u32 x1) 20 HSW ?_
  refine tk 12 21 (.int .u32 o1) 21 HSW ?_
  refine tk 13 21 (.int .i64 p) 22 HSW ?_
  refine tk 14 21 (.int .i64 p2) 23 HSW ?_
  refine tk 15 21 (.pointer (some ⟨w.heap.size,p2,none⟩)) 24 HSW ?_
  refine tk 16 21 (.int .u8 b2) 25 HSW ?_
  refine tk 17 21 (.int .u32 b2) 26 HSW ?_
  refine tk 18 21 (.int .u32 o2) 27 HSW ?_
  refine wpAnyL_one (i:=19) (by kernel_rfl) ?_
  refine wpOp_step rfl (fun K' hK=> ?_)
  go_simp
  refine (uh HL wr.drew (uh hFw) (uh HU)).mono ?_
  rintro r w4 ⟨ho4,v4,rfl,hb4⟩
  have ho4' :Only S wr w4:=((Only.refl _ wr).drew).trans ho4
  have HO4:=hide ((uh HO).trans ho4')
  have HB4:Hid (Buf w4 S v4 (lets b (j+1))):=by rw[uh HTS];exact hb4
  have hlw:w.heap.size<wr.heap.size:=by have:=uh HSZ;have:=(uh HO).size;omega
  refine hK _ _ ⟨fun _=>⟨(ho4'.cell (p:=⟨w.heap.size,p,none⟩) hlw (uh HN)).trans c0,(ho4'.cell (p:=⟨w.heap.size,p1,none⟩) hlw (uh HN)).trans c1,(ho4'.cell (p:=⟨w.heap.size,p2,none⟩) hlw (uh HN)).trans c2⟩, ?_⟩
  clear hK
  refine wpAnyL_one (i:=20) (by kernel_rfl) ?_
  refine wpOp_step rfl (fun K' hK=> ?_)
  go_simp
  refine hK _ _ ⟨fun h=>absurd rfl h, ?_⟩
  clear hK HSW c0 c1 c2 HL HU HO ho4 ho4' hb4
  refine wpAnyL_done (by kernel_rfl) ?_
  go_wp2_with fail
  go_roundw
  ·exact ⟨j+1,by omega,by rw[←uh HPJ];go_num,HB4,HO4⟩
  case measure=>simp[intOf];omega
 have hje:j=10:=by omega
 subst hje
 have hlt30:¬((3*10:Nat):Int)<30:=by omega
 have hlw1:w.heap.size<w1.heap.size:=by have:=uh HSZ;omega
 have c0:=((uh HO).cell (p:=⟨w.heap.size,30,none⟩) hlw1 (uh HN)).trans (uh HLD 30 (by omega))
 have c1:=((uh HO).cell (p:=⟨w.heap.size,31,none⟩) hlw1 (uh HN)).trans (uh HLD 31 (by omega))
 have l0:=uh HB 30
 have l1:=uh HB 31
 obtain ⟨i0,hi0,hz0,hz1,hz2⟩:=info_parts infoB5
 generalize b 30=b0 at*
 generalize b 31=b1 at*
 obtain ⟨x0,hx0⟩: ∃x0,x0=b0*65536:=⟨_,rfl⟩
 obtain ⟨x1,hx1⟩: ∃x1,x1=b1*256:=⟨_,rfl⟩
 rw[←hx0,←hx1] at HRES
 have hx0I:(b0:Int)*65536=(x0:Int):=by omega
 have hx1I:(b1:Int)*256=(x1:Int):=by omega
 have hx0l:x0<4294967296:=by omega
 have hx1l:x1<4294967296:=by omega
 have ho1:=u32_or_nat x0 x1 hx0l hx1l
 have ho1l:=or32 hx0l hx1l
 have hLn:(lets b 10).length≤1000:=by rw[lets_len];omega
 have hwb0:IntKind.u32.wrap (b0:Int)=(b0:Int):=by rw[IntKind.wrap_u32];omega
 have hwb1:IntKind.u32.wrap (b1:Int)=(b1:Int):=by rw[IntKind.wrap_u32];omega
 have hwx0:IntKind.u32.wrap (x0:Int)=(x0:Int):=by rw[IntKind.wrap_u32];omega
 have hwx1:IntKind.u32.wrap (x1:Int)=(x1:Int):=by rw[IntKind.wrap_u32];omega
 generalize x0|||x1=o1 at*
 generalize lets b 10=L at*
 obtain ⟨ao,cp,hue,_,_⟩:=uh HU
 subst hue
 have hFw:Hid (Fresh S wr):=fun k hk=>uh HF k (by have:=(uh HO).size;omega)
 have HL:=hide (lettersA S (.slice ao L.length cp) L o1 3 ho1l (by omega) (by omega) wr (uh hFw) (uh HU))
 have hL2:(L++letL o1 3).length≤1010:=by rw[List.length_append,letL_len];omega
 generalize L++letL o1 3=L2 at*
 clear hx0 hx1
 go_wp2_with fail
 refine (uh HL).mono ?_
 rintro r w5 ⟨ho5,v5,rfl,hb5⟩
 have HO5:=hide ((uh HO).trans ho5)
 clear ho5 HL HO HU c0 c1
 obtain ⟨ao5,cp5,rfl,how,hsa⟩:=hb5
 have hA:Old w5 (w5.alloc (.cells #[.int .u8 61] 5)):=(Only.refl _ w5).alloc _
 have HOW:=hide (own_old how hA)
 have HNW:=hide (byte_new5 (wr:=w5) (n:=61))
 have HBF:=hide (fun (ao2:Option Addr) (cap2:Nat) (w3:World)=>Buf.more (w:=w1) (w1:=w5.alloc (.cells #[.int .u8 61] 5)) (w2:=w3) (l:=L2) (bs:=[61]) (ao:=ao5) (ao2:=ao2) (cap:=cp5) (cap2:=cap2) (H:=w5.heap.size+1) (uh HF _ (by have:=(uh HO5).size;omega)) ((uh HO5).transNew hA (fun _ _ x=>x.elim)) hsa)
 have hcq:byteCells8 [61]=[.int .u8 61]:=rfl
 clear how hsa hA
 go_wp2_with (at_builtin;refine wpList_append_lies _ rfl (.tmp 40) (.tmp 41) 62 rfl 0 5 i0 (.int .u8 0) 1 1 Tryz.underlying62 hi0 hz0 hz1 hz2 rfl (by omega) (.slice ao5 L2.length cp5) L2.length _ rfl (uh HOW) ⟨w5.heap.size,0,none⟩ 1 1 [.int .u8 61] rfl rfl (uh HNW) (by intro u hu;simp at hu;subst hu;rfl) (by omega) (by unfold maxLen;omega) (by omega) (by omega) (w5.heap.size+1) (by simp) ?_;intro g2 cap2 w3 ho3 hg3 hl3 hlt3;rw[←hcq] at ho3;have HX:=hide (uh HBF (some ⟨g2,0,none⟩) cap2 w3 ho3 hg3 (fun b hb=>by injection hb with hb;subst hb;exact hl3));clear ho3 hg3 hl3;have hcv:(convert 62 9 (.slice (some ⟨g2,0,none⟩) (L2.length+1) cap2)).run Tryz.prog w3=.ok (.string ⟨(L2++[61]).toArray⟩) w3:=buf_string (uh HX).2)
 go_ret
 exact ⟨by rw[←uh HRES];rfl,uh HSO _ (uh HX).1⟩
def byN(x:E8)(q:Nat):Nat:=x.nth (q/4)/2^(24- 8*(q%4))%256
theorem byN_lt(x:E8)(q:Nat):byN x q<256:=Nat.mod_lt _ (by omega)
theorem byN_at(x:E8){k j s:Nat}(hj:j<4)(h:s+8*j=24):((x.nth k:Nat):Int)/2^s%256=((byN x (4*k+j):Nat):Int):=by
 rw[byN,show (4*k+j)/4=k by omega,show (4*k+j)%4=j by omega,show 24- 8*j=s by omega,Int.natCast_emod,Int.natCast_ediv,Int.natCast_pow];rfl
def bsU(x:E8)(t j:Nat):Value:=if j<t then .int .u8 (byN x j:Int) else .int .u8 0
theorem bsU_one(x:E8)(t j:Nat):(bsU x t j).oneCell' =true:=by unfold bsU;split<;>rfl
theorem bsU_lt{x:E8}{t j:Nat}(h:j<t):bsU x t j=.int .u8 (byN x j:Int):=if_pos h
theorem bsU_step(x:E8)(t:Nat): ∀j,j<32→(if j=t then Value.int .u8 (byN x t:Int) else bsU x t j)=bsU x (t+1) j:=by
 intro j _
 unfold bsU
 by_cases h:j=t
 ·subst h;rw[if_pos rfl,if_pos (by omega)]
 rw[if_neg h]
 by_cases h2:j<t
 ·rw[if_pos h2,if_pos (by omega)]
 rw[if_neg h2,if_neg (by omega)]
theorem infoA32:(Tryz.prog.info? 152).map (·.size)=some 32:=by kernel_rfl
def wordsOf(s:ByteArray):E8:=foldX kNum h0 (s++⟨(padZ (zeroN s.size) s.size 8).toArray⟩) ((s.size+9+zeroN s.size)/64)
theorem wordsOf_ok(s:ByteArray):(wordsOf s).ok:=foldX_ok h0_ok _ _
theorem bytesA(s:ByteArray)(hl:s.size≤140737488355328)(w:World)(hg:Glob w):
 Calls Tryz.prog 98 #[.string s] w fun e w' =>e=.returned (.agg (sumA (byN (wordsOf s))))∧Old w w' :=by
 have HWD:=hide (fun w1 h=>words_any s hl w1 h)
 have hx:(wordsOf s).ok:=wordsOf_ok s
 rw[show foldX kNum h0 (s++⟨(padZ (zeroN s.size) s.size 8).toArray⟩) ((s.size+9+zeroN s.size)/64)=wordsOf s from rfl] at HWD
 generalize wordsOf s=x at*
 have HX:=hide hx
 have ho0:Old w ((w.alloc (.cells (arrF 32 (bsU x 0)) 152)).alloc (.cells (arrF 32 (bsU x 0)) 152)):=((Only.refl _ w).alloc _).alloc _
 have hz:(arrF 32 (bsU x 0))=Array.replicate 32 (.int .u8 0):=by kernel_rfl
 have HA0:Hid (Arr ((w.alloc (.cells (arrF 32 (bsU x 0)) 152)).alloc (.cells (arrF 32 (bsU x 0)) 152)) (w.heap.size+1) 152 32 (bsU x 0)):=hide (Arr.mk' (by simp) rfl)
 have HZ0:Hid (Arr ((w.alloc (.cells (arrF 32 (bsU x 0)) 152)).alloc (.cells (arrF 32 (bsU x 0)) 152)) w.heap.size 152 32 (bsU x 0)):=hide ((Arr.mk' rfl rfl).alloc _)
 rw[hz] at HA0 HZ0 ho0
 clear hz
 have HO0:=hide ho0
 have HG:=hide (hg.old ho0)
 clear hg ho0 hl hx
 go_in
 go_wp2_with fail
 refine (uh HWD _ (uh HG)).mono ?_
 rintro e w1 ⟨rfl,ho1⟩
 have HA1:=hide ((uh HA0).old ho1)
 have HZ1:=hide ((uh HZ0).old ho1)
 have HO1:=hide (Only.trans (uh HO0) ho1)
 clear ho1 HA0 HZ0 HO0 HWD HG
 go_wp2_with fail
 go_loopw [4,5,6,9] (fun _ _ _ i wr=> ∃k:Nat,k≤8∧i=.int .i64 k∧Hid (Arr wr (w.heap.size+1) 152 32 (bsU x (4*k)))∧Hid (Arr wr w.heap.size 152 32 (bsU x 0))∧Hid (Old w wr)) (fun _ _ _ i _=>8- (intOf i).toNat)
 ·exact ⟨0,by omega,rfl,HA1,HZ1,HO1⟩
 obtain ⟨k,hk,rfl,HA,HZ,HO⟩:=hrel
 clear HA1 HZ1 HO1
 by_cases h8:k<8
 ·have hix:=run_idx8 x k h8
  have hn:=E8.nth_lt (uh HX) k
  have hk1:(k:Int)<8:=by omega
  have HBY:=hide (fun j s (hj:j<4) (hs:s+8*j=24)=>byN_at x (k:=k) hj hs)
  generalize x.nth k=nn at hix hn HBY
  go_wp2_with fail
  clear hix
  go_loopw [6,13] (fun _ i wr=> ∃j:Nat,j≤4∧i=.int .i64 j∧Hid (Arr wr (w.heap.size+1) 152 32 (bsU x (4*k+j)))∧Hid (Arr wr w.heap.size 152 32 (bsU x 0))∧Hid (Old w wr)) (fun _ i _=>4- (intOf i).toNat)
  ·exact ⟨0,by omega,rfl,HA,HZ,HO⟩
  obtain ⟨j,hj,rfl,HA,HZ,HO⟩:=hrel
  by_cases hj4:j<4
  ·obtain ⟨s,hs⟩: ∃s,s=24- 8*j:=⟨_,rfl⟩
   obtain ⟨q,hq⟩: ∃q,q=4*k+j:=⟨_,rfl⟩
   have hjI:(j:Int)<4:=by omega
   have hsI:(24:Int)- 8*(j:Int)=(s:Int):=by omega
   have hqI:(4:Int)*(k:Int)+(j:Int)=(q:Int):=by omega
   have hql:(q:Int)<32:=by omega
   have hq0:(0:Int)≤(q:Int):=by omega
   have hs24:s≤24:=by omega
   have hby:=uh HBY j s hj4 (by omega)
   have hbl:=byN_lt x (4*k+j)
   rw[←hq] at hby hbl
   have hfr:=(uh HA).row.thaw
   have hce:=(uh HA).row.cell q (by omega)
   have HST:Hid (∀t:Nat,t=q→(Arr (wr.setCell ⟨w.heap.size+1,q,none⟩ (.int .u8 (byN x q:Int))) (w.heap.size+1) 152 32 (bsU x (t+1)))):=by
    intro t ht
    have h:=(uh HA).set q (.int .u8 (byN x q:Int))
    rw[←hq] at h
    rw[ht]
    exact h.congr (bsU_step x q)
   generalize byN x q=b at*
   have HQ:=hide hq
   clear hs hq
   go_wp2_with fail
   go_roundw
   ·refine ⟨j+1,by omega,by go_num, ?_, ?_, ?_⟩
    ·rw[show 4*k+(j+1)=(4*k+j)+1 by omega];exact uh HST (4*k+j) (uh HQ).symm
    ·exact (uh HZ).setOther _ _ (by omega) _
    exact (uh HO).setCell (p:=⟨w.heap.size+1,q,none⟩) (fun h=>absurd (show w.heap.size+1<w.heap.size from h) (by omega)) _
   case measure=>simp[intOf];omega
  have hje:j=4:=by omega
  subst hje
  go_wp2_with fail
  go_roundw
  ·exact ⟨k+1,by omega,by go_num,by rw[show 4*(k+1)=4*k+4 by omega];exact HA,HZ,HO⟩
  case measure=>simp[intOf];omega
 have hk8:k=8:=by omega
 subst hk8
 have hW:wr.heap[w.heap.size+1]? =some (.cells (arrF 32 (bsU x 32)) 152 (0,0)):=uh HA
 have hZ:wr.heap[w.heap.size]? =some (.cells (arrF 32 (bsU x 0)) 152 (0,0)):=uh HZ
 have hi:(Tryz.prog.info? 152).map (·.size)=some (arrF 32 (bsU x 32)).size:=by rw[arrF_size];exact infoA32
 have h1:(arrF 32 (bsU x 32)).all (·.oneCell')=true:=arr_one _ _ (bsU_one x 32)
 have HFin:Hid (arrF 32 (bsU x 32)=sumA (byN x)):=arrF_congr (fun j hj=>bsU_lt hj)
 have hsz:(arrF 32 (bsU x 0)).size=(arrF 32 (bsU x 32)).size:=by rw[arrF_size,arrF_size]
 generalize hA:arrF 32 (bsU x 32)=A at*
 have HH:=hide hA
 clear hA
 go_wp2_with (first
  |(refine wpList_load_row rfl 152 (.tmp 3) rfl (w.heap.size+1) rfl 152 A (0,0) _ hW Tryz.underlying152 rfl hi ?_)
  |(refine wpList_store_row rfl 152 (.tmp 2) (.tmp 29) rfl w.heap.size A rfl rfl 152 _ hZ hi hsz h1 ?_))
 refine bodyPost_ret (v:=.agg A) (results_cell_row Tryz.results98 _ _ w.heap.size 152 A (0,0) _ rfl (setRow_heap wr w.heap.size _ A _ _ hZ) Tryz.underlying152 rfl hi) rfl ⟨?_, ?_⟩
 ·rw[uh HFin]
 exact (uh HO).setRow _ (fun h=>absurd h (Nat.lt_irrefl _)) _
end Go.Proofs.YtndfmgdhiallpaaGreatDoor
