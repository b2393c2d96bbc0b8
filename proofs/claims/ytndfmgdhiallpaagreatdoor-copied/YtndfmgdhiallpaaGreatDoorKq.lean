import Derived.Test.YtndfmgdhiallpaaGreatDoorKa
import Derived.Test.YtndfmgdhiallpaaGreatDoorMn
import Derived.Test.YtndfmgdhiallpaaGreatDoorMm
import Derived.Test.YtndfmgdhiallpaaGreatDoorMf
import Derived.Test.YtndfmgdhiallpaaGreatDoorMh
set_option maxRecDepth 100000
set_option maxHeartbeats 4000000
namespace Go.Proofs.YtndfmgdhiallpaaGreatDoor
open Go.RowKit
theorem wpList_append_keep{P:Program}{w:World}{ops:Array Oper}{rest:List Oper}{o:Oper}{a:Act}{Q:Exit→Act→World→Prop}(hgd:o.guard=none)(s x:Operand)(t:TypeId)
 (ho:o.op=.call {callee:=.builtin .append,args:= #[s,x],argTypes:= #[t,t]})
 (base:Nat)(e:TypeId)(i:TypeInfo)(z:Value)(bytes:Nat)(ht:P.underlying t=some (.slice e))(hi:P.info? e=some i)(hz:i.zero=some z)
 (hsize:i.size=1)(hby:i.bytes=bytes)(hzs:z.cells.size=1)(v:Value)(n:Nat)(xs:List Value)(hs:a.eval s=v)(hown:w.ownsRow base e 1 v n xs)
 (ad:Addr)(m c:Nat)(news:List Value)(hx:a.eval x=.slice (some ad) m c)(hl:news.length=m*1)(hnews: ∀j u,news[j]? =some u→w.cell? (ad.add j)=some u)(h1: ∀u∈news,u.oneCell' =true)
 (hm:0<m)(h63:n+m≤maxLen)(hbytes:(n+m)*bytes≤140737488355328)(hbase:base≤w.heap.size)(H:Nat)(hH:w.heap.size=H)
 (h: ∀g cap w',w'.ownsRow base e 1 (.slice (some ⟨g,0,none⟩) (n+m) cap) (n+m) (xs++news)→w.grownBy w' v.ownBlock→(v.ownBlock=some g∨g=H)→
  (∀b j,b<w.heap.size→(v.ownBlock=some b→j<n)→w'.cell? ⟨b,j,none⟩=w.cell? ⟨b,j,none⟩)→wpList P ops Q rest (a.put o.dst (.slice (some ⟨g,0,none⟩) (n+m) cap)) w'):wpList P ops Q (o::rest) a w:=by
 refine wpList_plain hgd fun _ hK=> ?_
 obtain ⟨g,cap,w',hr,h2,h3,h4,h5⟩:=run_append_keep (P:=P) w t o.type base e i z bytes ht hi hz hsize hby hzs v n xs hown ad m c news hl hnews h1 hm h63 hbytes hbase H hH
 unfold Oper.wp execOp
 simp only[ho,resolve,invoke,builtin,Sem.run_bind,Sem.run_pure,Result.andThen_ok,List.map_toArray,List.map_cons,List.map_nil,hs,hx,hr]
 exact hK _ _ (h g cap w' h2 h3 h4 h5)
def bitCells(B:List Nat):List Value:=B.map fun x:Nat=>Value.int .i64 (x:Int)
theorem bitCells_len(B:List Nat):(bitCells B).length=B.length:=by simp[bitCells]
theorem bitCells_snoc(B:List Nat)(b:Nat):bitCells (B++[b])=bitCells B++[.int .i64 (b:Int)]:=by simp[bitCells]
def IB(w:World)(v:Value)(B:List Nat):Prop:= ∃ao cap,v=.slice ao B.length cap∧w.ownsRow 0 3 1 v B.length (bitCells B)
structure Grew (w w' :World) (v v' :Value) (B B' :List Nat):Prop where
 only:Only (fun k=>v.ownBlock=some k) w w'
 buf:IB w' v' B'
 own: ∀b,v'.ownBlock=some b→v.ownBlock=some b∨w.heap.size≤b
 keep: ∀b j,b<w.heap.size→(v.ownBlock=some b→j<B.length)→w'.cell? ⟨b,j,none⟩=w.cell? ⟨b,j,none⟩
theorem Grew.refl{w:World}{v:Value}{B:List Nat}(h:IB w v B):Grew w w v v B B:=⟨Only.refl _ w,h,fun _ h=> .inl h,fun _ _ _ _=>rfl⟩
theorem Grew.trans{w w1 w2:World}{v v1 v2:Value}{B B1 B2:List Nat}(h:Grew w w1 v v1 B B1)(k:Grew w1 w2 v1 v2 B1 B2)(hl:B.length≤B1.length):Grew w w2 v v2 B B2:=by
 have hs:=h.only.size
 refine ⟨h.only.transNew k.only (fun i hi e=> ?_),k.buf,fun b hb=> ?_,fun b j hb hj=> ?_⟩
 ·rcases h.own i e with h1|h1
  ·exact h1
  omega
 ·rcases k.own b hb with h1|h1
  ·exact h.own b h1
  exact .inr (by omega)
 rw[k.keep b j (by omega) (fun e=> ?_),h.keep b j hb hj]
 rcases h.own b e with h1|h1
 ·exact Nat.lt_of_lt_of_le (hj h1) hl
 omega
theorem infoB3:(Tryz.prog.info? 3).map (fun i=>(i.zero,i.size,i.bytes))=some (some (.int .i64 0),1,8):=by kernel_rfl
theorem int_new3{wr:World}{n:Nat}: ∀j u,[Value.int .i64 (n:Int)][j]? =some u→(wr.alloc (.cells #[.int .i64 (n:Int)] 3)).cell? ((⟨wr.heap.size,0,none⟩:Addr).add j)=some u:=by
 intro j u hu
 rw[Addr.add_lit,Nat.zero_add,cell_of_row _ _ j _ 3 (0,0) (Go.heap_alloc_new wr _)]
 simpa using hu
theorem Grew.one{wr w3:World}{v:Value}{B:List Nat}{b g cap:Nat}(ho:w3.ownsRow 0 3 1 (.slice (some ⟨g,0,none⟩) (B.length+1) cap) (B.length+1) (bitCells B++[.int .i64 (b:Int)]))
 (hg:(wr.alloc (.cells #[.int .i64 (b:Int)] 3)).grownBy w3 v.ownBlock)(hl:v.ownBlock=some g∨g=wr.heap.size+1)
 (hk: ∀c j,c<(wr.alloc (.cells #[.int .i64 (b:Int)] 3)).heap.size→(v.ownBlock=some c→j<B.length)→w3.cell? ⟨c,j,none⟩=(wr.alloc (.cells #[.int .i64 (b:Int)] 3)).cell? ⟨c,j,none⟩):
 Grew wr w3 v (.slice (some ⟨g,0,none⟩) (B.length+1) cap) B (B++[b]):=by
 have hA:Old wr (wr.alloc (.cells #[.int .i64 (b:Int)] 3)):=(Only.refl _ wr).alloc _
 have hlb:(B++[b]).length=B.length+1:=by simp
 refine ⟨(Only.oldS hA).grown hg (fun k _ e=>e),⟨some ⟨g,0,none⟩,cap,by rw[hlb],by rw[hlb,bitCells_snoc];exact ho⟩,fun c hc=> ?_,fun c j hc hj=> ?_⟩
 ·injection hc with hc
  rcases hl with h|h
  ·exact .inl (by rw[h];exact congrArg some hc)
  exact .inr (by simp only at hc;omega)
 rw[hk c j (by rw[World.size_alloc];omega) hj,hA.cell (p:=⟨c,j,none⟩) hc (fun x=>x)]
theorem lowA(v:Value)(B:List Nat)(x n:Nat)(hx:x<9223372036854775808)(hn:n≤16)(hl:B.length≤1000000)(w:World)(hv:IB w v B):
 Calls Tryz.prog 19 #[v,.int .i64 x,.int .i64 n] w fun r w' => ∃v',r=.returned v' ∧Grew w w' v v' B (B++numB x n):=by
 obtain ⟨i0,hi0,hz0,hz1,hz2⟩:=info_parts infoB3
 have HV:=hide (Grew.refl hv)
 clear hv
 go_in
 go_wp2_with fail
 go_loopw [0,7] (fun u y wr=> ∃i:Nat,i≤n∧y=.int .i64 i∧Hid (Grew w wr v u B (B++numB x i))) (fun _ y _=>n- (intOf y).toNat)
 ·exact ⟨0,by omega,rfl,by rw[show numB x 0=[] from rfl,List.append_nil];exact HV⟩
 obtain ⟨i,hi,rfl,HG⟩:=hrel
 clear HV
 by_cases hlt:i<n
 ·have hltI:(i:Int)<(n:Int):=by omega
  have hi0' :(0:Int)≤(i:Int):=by omega
  have hi64:(i:Int)<64:=by omega
  have htn:((i:Nat):Int).toNat=i:=Int.toNat_natCast i
  have hsh:(x:Int)/2^i=((x/2^i:Nat):Int):=by rw[Int.natCast_ediv,Int.natCast_pow];rfl
  have hsb:=shr_bit x i hx
  have hbl:x/2^i%2<2:=Nat.mod_lt _ (by omega)
  have HN:Hid (B++numB x i++[x/2^i%2]=B++numB x (i+1)):=by unfold Hid;rw[numB_succ,List.append_assoc]
  have hLn:(B++numB x i).length≤1000020:=by rw[List.length_append,numB_len];omega
  have HBL:Hid (B.length≤(B++numB x i).length):=by unfold Hid;rw[List.length_append];omega
  generalize x/2^i%2=b at HN hsb hbl
  generalize x/2^i=q at hsh hsb
  generalize B++numB x i=L at*
  obtain ⟨ao,cp,hue,how⟩:=(uh HG).buf
  have hA:Old wr (wr.alloc (.cells #[.int .i64 (b:Int)] 3)):=(Only.refl _ wr).alloc _
  have HOW:=hide (own_old how hA)
  have HNW:=hide (int_new3 (wr:=wr) (n:=b))
  have HON:=hide (fun g cap w3=>Grew.one (wr:=wr) (w3:=w3) (v:=.slice ao L.length cp) (B:=L) (b:=b) (g:=g) (cap:=cap))
  subst hue
  clear how hA
  go_wp2_with (at_builtin;refine wpList_append_keep rfl (.tmp 13) (.tmp 18) 33 rfl 0 3 i0 (.int .i64 0) 8 Tryz.underlying33 hi0 hz0 hz1 hz2 rfl (.slice ao L.length cp) L.length _ rfl (uh HOW) ⟨wr.heap.size,0,none⟩ 1 1 [.int .i64 (b:Int)] rfl rfl (uh HNW) (by intro u hu;simp at hu;subst hu;rfl) (by omega) (by unfold maxLen;omega) (by omega) (by omega) (wr.heap.size+1) (by simp) ?_;intro g2 cap2 w3 ho3 hg3 hl3 hk3;have HX:=hide ((uh HG).trans (uh HON g2 cap2 w3 ho3 hg3 hl3 hk3) (uh HBL));clear ho3 hg3 hl3 hk3)
  go_roundw
  ·exact ⟨i+1,by omega,by go_num,by rw[←uh HN];exact HX⟩
  case measure=>simp[intOf];omega
 have hltI:¬(i:Int)<(n:Int):=by omega
 have hie:i=n:=by omega
 subst hie
 go_wp2_with fail
 go_ret
 exact ⟨_,rfl,HG⟩
theorem highA(v:Value)(B:List Nat)(x n:Nat)(hx:x<9223372036854775808)(hn:n≤16)(hl:B.length≤1000000)(w:World)(hv:IB w v B):
 Calls Tryz.prog 23 #[v,.int .i64 x,.int .i64 n] w fun r w' => ∃v',r=.returned v' ∧Grew w w' v v' B (B++codeB x n):=by
 obtain ⟨i0,hi0,hz0,hz1,hz2⟩:=info_parts infoB3
 have HV:=hide (Grew.refl hv)
 clear hv
 go_in
 go_wp2_with fail
 go_loopw [0,7] (fun u y wr=> ∃i:Nat,i≤n∧y=.int .i64 ((n:Int)- 1- (i:Int))∧Hid (Grew w wr v u B (B++(codeB x n).take i))) (fun _ y _=>(intOf y+1).toNat)
 ·exact ⟨0,by omega,by simp,by rw[List.take_zero,List.append_nil];exact HV⟩
 obtain ⟨i,hi,rfl,HG⟩:=hrel
 clear HV
 by_cases hlt:i<n
 ·obtain ⟨k,hk⟩: ∃k,n- 1- i=k:=⟨_,rfl⟩
  have hkI:(n:Int)- 1- (i:Int)=(k:Int):=by omega
  have hk0:(0:Int)≤(k:Int):=by omega
  have hk64:(k:Int)<64:=by omega
  have htn:((k:Nat):Int).toNat=k:=Int.toNat_natCast k
  have hsh:(x:Int)/2^k=((x/2^k:Nat):Int):=by rw[Int.natCast_ediv,Int.natCast_pow];rfl
  have hsb:=shr_bit x k hx
  have hbl:x/2^k%2<2:=Nat.mod_lt _ (by omega)
  have HN:Hid (B++(codeB x n).take i++[x/2^k%2]=B++(codeB x n).take (i+1)):=by unfold Hid;rw[codeB_succ x n i hlt,hk,List.append_assoc]
  have hLn:(B++(codeB x n).take i).length≤1000020:=by rw[List.length_append,List.length_take,codeB_len];omega
  have HBL:Hid (B.length≤(B++(codeB x n).take i).length):=by unfold Hid;rw[List.length_append];omega
  generalize x/2^k%2=b at HN hsb hbl
  generalize x/2^k=q at hsh hsb
  generalize B++(codeB x n).take i=L at*
  obtain ⟨ao,cp,hue,how⟩:=(uh HG).buf
  have hA:Old wr (wr.alloc (.cells #[.int .i64 (b:Int)] 3)):=(Only.refl _ wr).alloc _
  have HOW:=hide (own_old how hA)
  have HNW:=hide (int_new3 (wr:=wr) (n:=b))
  have HON:=hide (fun g cap w3=>Grew.one (wr:=wr) (w3:=w3) (v:=.slice ao L.length cp) (B:=L) (b:=b) (g:=g) (cap:=cap))
  have HK:=hide (show (k:Int)- 1=(n:Int)- 1- ((i+1:Nat):Int)∧(k:Int)+1=(n:Int)- (i:Int) by omega)
  subst hue
  rw[hkI]
  clear how hA hk hkI
  go_wp2_with (at_builtin;refine wpList_append_keep rfl (.tmp 14) (.tmp 19) 33 rfl 0 3 i0 (.int .i64 0) 8 Tryz.underlying33 hi0 hz0 hz1 hz2 rfl (.slice ao L.length cp) L.length _ rfl (uh HOW) ⟨wr.heap.size,0,none⟩ 1 1 [.int .i64 (b:Int)] rfl rfl (uh HNW) (by intro u hu;simp at hu;subst hu;rfl) (by omega) (by unfold maxLen;omega) (by omega) (by omega) (wr.heap.size+1) (by simp) ?_;intro g2 cap2 w3 ho3 hg3 hl3 hk3;have HX:=hide ((uh HG).trans (uh HON g2 cap2 w3 ho3 hg3 hl3 hk3) (uh HBL));clear ho3 hg3 hl3 hk3)
  go_roundw
  ·exact ⟨i+1,by omega,by rw[←(uh HK).1],by rw[←uh HN];exact HX⟩
  simp[intOf]
 have hie:i=n:=by omega
 subst hie
 have hm1:(i:Int)- 1- (i:Int)= -1:=by omega
 have HG2:=HG
 rw[List.take_of_length_le (by rw[codeB_len];omega)] at HG2
 rw[hm1]
 clear HG hm1
 go_wp2_with fail
 go_ret
 exact ⟨_,rfl,HG2⟩
open Go.RowKit Go.Maps
theorem symNext:(List.range 284).all (fun s=>decide (257≤s→lenBase (s+1)=lenBase s+2^lenBits s∧lenBits s≤5∧lenBase s≤300))=true:=by decide+kernel
theorem symBits:(List.range 285).all (fun s=>decide (257≤s→lenBits s=if s<265 then 0 else (s- 261)/4))=true:=by decide+kernel
theorem symOnly:(List.range 258).all (fun n=>(List.range 285).all (fun s=>decide (3≤n→257≤s→lenBase s≤n→n<lenBase s+2^lenBits s→s=symOf n)))=true:=by decide+kernel
theorem dstNext:(List.range 30).all (fun s=>decide (dstBase (s+1)=dstBase s+2^dstBits s∧dstBits s≤13∧dstBase s≤40000))=true:=by decide+kernel
theorem dstBitsN:(List.range 30).all (fun s=>decide (dstBits s=if s<4 then 0 else s/2- 1))=true:=by decide+kernel
theorem dstRise:(List.range 30).all (fun s=>(List.range 30).all (fun t=>decide (s<t→dstBase s+2^dstBits s≤dstBase t)))=true:=by decide+kernel
theorem fixV_small{c:Nat}(h:c<144):fixV c=48+c∧fixN c=8:=by unfold fixV fixN;rw[if_pos h,if_pos h];exact ⟨rfl,rfl⟩
theorem fixV_more{c:Nat}(h:¬c<144)(h2:c<256):fixV c=400+(c- 144)∧fixN c=9:=by unfold fixV fixN;rw[if_neg h,if_neg h,if_pos h2,if_pos h2];exact ⟨rfl,rfl⟩
theorem fixV_len{c:Nat}(h:256≤c)(h2:c<280):fixV c=c- 256∧fixN c=7:=by
 have a:¬c<144:=by omega
 have b:¬c<256:=by omega
 unfold fixV fixN;rw[if_neg a,if_neg a,if_neg b,if_neg b,if_pos h2,if_pos h2];exact ⟨rfl,rfl⟩
theorem fixV_far{c:Nat}(h:280≤c):fixV c=192+(c- 280)∧fixN c=8:=by
 have a:¬c<144:=by omega
 have b:¬c<256:=by omega
 have d:¬c<280:=by omega
 unfold fixV fixN;rw[if_neg a,if_neg a,if_neg b,if_neg b,if_neg d,if_neg d];exact ⟨rfl,rfl⟩
theorem literalA(v:Value)(B:List Nat)(c:Nat)(hc:c<256)(hl:B.length≤1000000)(w:World)(hv:IB w v B):
 Calls Tryz.prog 20 #[v,.int .i64 c] w fun r w' => ∃v',r=.returned v' ∧Grew w w' v v' B (B++symB c):=by
 by_cases h:c<144
 ·have hI:(c:Int)<144:=by omega
  have H:Hid (Calls Tryz.prog 23 #[v,.int .i64 (48+(c:Int)),.int .i64 8] w fun r w' => ∃v',r=.returned v' ∧Grew w w' v v' B (B++symB c)):=by
   have:=highA v B (48+c) 8 (by omega) (by omega) hl w hv
   rw[symB,(fixV_small h).1,(fixV_small h).2]
   rw[Int.natCast_add] at this
   exact this
  clear hv
  go_in
  go_wp2_with fail
  refine (uh H).mono ?_
  rintro r w1 ⟨v1,rfl,hg⟩
  have HG:=hide hg
  clear hg H
  go_wp2_with fail
  go_ret
  exact ⟨_,rfl,HG⟩
 have hI:¬(c:Int)<144:=by omega
 have e:400+(c:Int)- 144=((400+(c- 144):Nat):Int):=by omega
 have H:Hid (Calls Tryz.prog 23 #[v,.int .i64 (400+(c:Int)- 144),.int .i64 9] w fun r w' => ∃v',r=.returned v' ∧Grew w w' v v' B (B++symB c)):=by
  have:=highA v B (400+(c- 144)) 9 (by omega) (by omega) hl w hv
  rw[symB,(fixV_more h hc).1,(fixV_more h hc).2,e]
  exact this
 clear hv e
 go_in
 go_wp2_with fail
 refine (uh H).mono ?_
 rintro r w1 ⟨v1,rfl,hg⟩
 have HG:=hide hg
 clear hg H
 go_wp2_with fail
 go_ret
 exact ⟨_,rfl,HG⟩
def lenL(n:Nat):List Nat:=symB (symOf n)++numB (n- lenBase (symOf n)) (lenBits (symOf n))
def dstL(d:Nat):List Nat:=dstB (dsymOf d)++numB (d- dstBase (dsymOf d)) (dstBits (dsymOf d))
theorem symNextN{s:Nat}(h1:257≤s)(h2:s<284):lenBase (s+1)=lenBase s+2^lenBits s∧lenBits s≤5∧lenBase s≤300:=by
 have:=List.all_eq_true.1 symNext s (List.mem_range.2 h2)
 exact of_decide_eq_true this h1
theorem symBitsN{s:Nat}(h1:257≤s)(h2:s≤284):lenBits s=if s<265 then 0 else (s- 261)/4:=by
 have:=List.all_eq_true.1 symBits s (List.mem_range.2 (by omega))
 exact of_decide_eq_true this h1
theorem symOnlyN{n s:Nat}(hn:3≤n)(hn2:n<258)(h1:257≤s)(h2:s≤284)(h3:lenBase s≤n)(h4:n<lenBase s+2^lenBits s):s=symOf n:=by
 have:=List.all_eq_true.1 (List.all_eq_true.1 symOnly n (List.mem_range.2 hn2)) s (List.mem_range.2 (by omega))
 exact of_decide_eq_true this hn h1 h3 h4
theorem len258:lenL 258=codeB 197 8:=by decide+kernel
theorem symbolA(v:Value)(B:List Nat)(n:Nat)(hn:3≤n)(hn2:n≤258)(hl:B.length≤900000)(w:World)(hv:IB w v B):
 Calls Tryz.prog 21 #[v,.int .i64 n] w fun r w' => ∃v',r=.returned v' ∧Grew w w' v v' B (B++lenL n):=by
 by_cases h8:n=258
 ·subst h8
  have H:Hid (Calls Tryz.prog 23 #[v,.int .i64 197,.int .i64 8] w fun r w' => ∃v',r=.returned v' ∧Grew w w' v v' B (B++lenL 258)):=by
   rw[len258];exact highA v B 197 8 (by omega) (by omega) (by omega) w hv
  clear hv
  go_in
  go_wp2_with fail
  refine (uh H).mono ?_
  rintro r w1 ⟨v1,rfl,hg⟩
  have HG:=hide hg
  clear hg H
  go_wp2_with fail
  go_ret
  exact ⟨_,rfl,HG⟩
 have h8I:((n:Int)==258)=false:=by rw[beq_eq_false_iff_ne];omega
 have hn3:n<258:=by omega
 have HV:=hide hv
 clear hv
 go_in
 go_wp2_with fail
 go_loop [5,6,7,8] (fun a b c _=> ∃s:Nat,257≤s∧s≤284∧a=.int .i64 s∧b=.int .i64 (lenBase s:Nat)∧c=.int .i64 (lenBits s:Nat)∧Hid (lenBase s≤n)) (fun a _ _ _=>300- (intOf a).toNat)
 ·exact ⟨257,by omega,by omega,rfl,rfl,rfl,(show lenBase 257≤n from hn)⟩
 obtain ⟨s,hs1,hs2,rfl,rfl,rfl,HLE⟩:=hrel
 have hbit:=symBitsN hs1 hs2
 have he5:lenBits s≤5:=by rw[hbit];split<;>omega
 have hle:=uh HLE
 obtain ⟨p,hp⟩: ∃p,2^lenBits s=p:=⟨_,rfl⟩
 have hpb:p≤32:=by rw[←hp];exact Nat.le_trans (Nat.pow_le_pow_right (by omega) he5) (by decide)
 have hpI:(2:Int)^lenBits s=(p:Int):=by rw[←hp,Int.natCast_pow];rfl
 have HNX:Hid (s<284→lenBase (s+1)=lenBase s+p):=fun h=>by rw[(symNextN hs1 h).1,hp]
 have HON:Hid (n<lenBase s+p→s=symOf n):=fun h=>symOnlyN hn hn3 hs1 hs2 hle (by rw[hp];exact h)
 have HTOP:Hid (s=284→lenBase s+p=259):=fun h=>by subst h;rw[←hp];rfl
 have HL1:Hid (∀s',257≤s' →s' ≤284→lenBits s' =if s' <265 then 0 else (s' - 261)/4):=fun s' a b=>symBitsN a b
 have HEQ:Hid (∀e b,lenBits s=e→lenBase s=b→s=symOf n→lenL n=symB s++numB (n- b) e):=fun e b h1 h2 h3=>by unfold lenL;rw[←h3,h1,h2]
 clear hp
 generalize hee:lenBits s=e at*
 generalize hbb:lenBase s=b at*
 have HE2:=hide (uh HEQ e b rfl rfl)
 have he0:(0:Int)≤(e:Int):=by omega
 have he64:(e:Int)<64:=by omega
 have htn:((e:Nat):Int).toNat=e:=Int.toNat_natCast e
 clear HEQ hee hbb
 by_cases hlt:n<b+p
 ·have hltI:(n:Int)<(b:Int)+(p:Int):=by omega
  have hso:=uh HON hlt
  have HLL:=hide (uh HE2 hso)
  clear HNX HON HTOP HL1 HE2 hso hbit
  by_cases h80:s<280
  ·have h80I:(s:Int)<280:=by omega
   have H1:Hid (Calls Tryz.prog 23 #[v,.int .i64 ((s:Int)- 256),.int .i64 7] w fun r w' => ∃v',r=.returned v' ∧Grew w w' v v' B (B++symB s)):=by
    have:=highA v B (fixV s) (fixN s) (by rw[(fixV_len (c:=s) (by omega) h80).1];omega) (by rw[(fixV_len (c:=s) (by omega) h80).2];omega) (by omega) w (uh HV)
    rw[(fixV_len (c:=s) (by omega) h80).1,(fixV_len (c:=s) (by omega) h80).2] at this
    rw[symB,(fixV_len (c:=s) (by omega) h80).1,(fixV_len (c:=s) (by omega) h80).2]
    rw[show ((s:Int)- 256:Int)=((s- 256:Nat):Int) by omega]
    exact this
   clear HV
   go_wp2_with fail
   refine (uh H1).mono ?_
   rintro r w1 ⟨v1,rfl,hg1⟩
   have HG1:=hide hg1
   have hll:(B++symB s).length≤900010:=by rw[List.length_append,symB_len];have:=fixN_le s;omega
   have H2:Hid (Calls Tryz.prog 19 #[v1,.int .i64 ((n:Int)- (b:Int)),.int .i64 e] w1 fun r w' => ∃v',r=.returned v' ∧Grew w1 w' v1 v' (B++symB s) (B++symB s++numB (n- b) e)):=by
    have:=lowA v1 (B++symB s) (n- b) e (by omega) (by omega) (by omega) w1 hg1.buf
    rw[show ((n:Int)- (b:Int))=((n- b:Nat):Int) by omega]
    exact this
   clear H1 hg1
   go_wp2_with fail
   refine (uh H2).mono ?_
   rintro r w2 ⟨v2,rfl,hg2⟩
   have HG2:=hide ((uh HG1).trans hg2 (by rw[List.length_append];omega))
   clear H2 hg2 HG1
   go_wp2_with fail
   go_ret
   exact ⟨_,rfl,by rw[uh HLL,←List.append_assoc];exact HG2⟩
  have h80I:¬(s:Int)<280:=by omega
  have H1:Hid (Calls Tryz.prog 23 #[v,.int .i64 (192+(s:Int)- 280),.int .i64 8] w fun r w' => ∃v',r=.returned v' ∧Grew w w' v v' B (B++symB s)):=by
   have:=highA v B (fixV s) (fixN s) (by rw[(fixV_far (c:=s) (by omega)).1];omega) (by rw[(fixV_far (c:=s) (by omega)).2];omega) (by omega) w (uh HV)
   rw[(fixV_far (c:=s) (by omega)).1,(fixV_far (c:=s) (by omega)).2] at this
   rw[symB,(fixV_far (c:=s) (by omega)).1,(fixV_far (c:=s) (by omega)).2]
   rw[show (192+(s:Int)- 280:Int)=((192+(s- 280):Nat):Int) by omega]
   exact this
  clear HV
  go_wp2_with fail
  refine (uh H1).mono ?_
  rintro r w1 ⟨v1,rfl,hg1⟩
  have HG1:=hide hg1
  have hll:(B++symB s).length≤900010:=by rw[List.length_append,symB_len];have:=fixN_le s;omega
  have H2:Hid (Calls Tryz.prog 19 #[v1,.int .i64 ((n:Int)- (b:Int)),.int .i64 e] w1 fun r w' => ∃v',r=.returned v' ∧Grew w1 w' v1 v' (B++symB s) (B++symB s++numB (n- b) e)):=by
   have:=lowA v1 (B++symB s) (n- b) e (by omega) (by omega) (by omega) w1 hg1.buf
   rw[show ((n:Int)- (b:Int))=((n- b:Nat):Int) by omega]
   exact this
  clear H1 hg1
  go_wp2_with fail
  refine (uh H2).mono ?_
  rintro r w2 ⟨v2,rfl,hg2⟩
  have HG2:=hide ((uh HG1).trans hg2 (by rw[List.length_append];omega))
  clear H2 hg2 HG1
  go_wp2_with fail
  go_ret
  exact ⟨_,rfl,by rw[uh HLL,←List.append_assoc];exact HG2⟩
 have hltI:¬(n:Int)<(b:Int)+(p:Int):=by omega
 have hs3:s<284:=by
  rcases Nat.lt_or_ge s 284 with h|h
  ·exact h
  have:=uh HTOP (by omega);omega
 have hb1:=uh HNX hs3
 have hb2:=uh HL1 (s+1) (by omega) (by omega)
 clear HON HTOP HL1 HE2 HNX
 by_cases h65:s+1<265
 ·have h65I:¬(265:Int)≤(s:Int)+1:=by omega
  rw[if_pos h65] at hb2
  rw[if_pos (by omega)] at hbit
  have HB0:=hide hbit
  have HB2:=hide hb2
  have HB1:=hide hb1
  clear hbit hb2 hb1
  go_wp2_with fail
  go_round
  ·exact ⟨s+1,by omega,by omega,by go_num,by rw[uh HB1,Int.natCast_add],by rw[uh HB2,uh HB0],by unfold Hid;rw[uh HB1];omega⟩
  case measure=>simp[intOf];omega
 have h65I:(265:Int)≤(s:Int)+1:=by omega
 rw[if_neg h65] at hb2
 have HB2:=hide hb2
 have HB1:=hide hb1
 clear hbit hb2 hb1
 go_wp2_with fail
 go_round
 ·exact ⟨s+1,by omega,by omega,by go_num,by rw[uh HB1,Int.natCast_add],by rw[uh HB2];congr 1;omega,by unfold Hid;rw[uh HB1];omega⟩
 case measure=>simp[intOf];omega
theorem dstNextN{s:Nat}(h2:s≤29):dstBase (s+1)=dstBase s+2^dstBits s∧dstBits s≤13∧dstBase s≤40000:=
 of_decide_eq_true (List.all_eq_true.1 dstNext s (List.mem_range.2 (by omega)))
theorem dstBitsE{s:Nat}(h2:s≤29):dstBits s=if s<4 then 0 else s/2- 1:=
 of_decide_eq_true (List.all_eq_true.1 dstBitsN s (List.mem_range.2 (by omega)))
theorem dstOnly{d s:Nat}(hd:1≤d)(hd2:d≤32768)(h2:s≤29)(h3:dstBase s≤d)(h4:d<dstBase s+2^dstBits s):s=dsymOf d:=by
 obtain ⟨a,b,c⟩:=dsymOf_ok d hd hd2
 have rise: ∀s t,s≤29→t≤29→s<t→dstBase s+2^dstBits s≤dstBase t:=fun s t hs ht=>of_decide_eq_true (List.all_eq_true.1 (List.all_eq_true.1 dstRise s (List.mem_range.2 (by omega))) t (List.mem_range.2 (by omega)))
 rcases Nat.lt_trichotomy s (dsymOf d) with h|h|h
 ·have:=rise s _ h2 a h;omega
 ·exact h
 have:=rise _ s a h2 h;omega
theorem dst29:dstBase 29=24577:=by decide
theorem distanceA(v:Value)(B:List Nat)(n:Nat)(hn:1≤n)(hn2:n≤20000)(hl:B.length≤900000)(w:World)(hv:IB w v B):
 Calls Tryz.prog 22 #[v,.int .i64 n] w fun r w' => ∃v',r=.returned v' ∧Grew w w' v v' B (B++dstL n):=by
 have HV:=hide hv
 clear hv
 go_in
 go_wp2_with fail
 go_loop [5,6,7,8] (fun a b c _=> ∃s:Nat,s≤28∧a=.int .i64 s∧b=.int .i64 (dstBase s:Nat)∧c=.int .i64 (dstBits s:Nat)∧Hid (dstBase s≤n)) (fun a _ _ _=>40- (intOf a).toNat)
 ·exact ⟨0,by omega,rfl,rfl,rfl,(show dstBase 0≤n from hn)⟩
 obtain ⟨s,hs2,rfl,rfl,rfl,HLE⟩:=hrel
 have hbit:=dstBitsE (s:=s) (by omega)
 have he5:dstBits s≤13:=(dstNextN (s:=s) (by omega)).2.1
 have hle:=uh HLE
 obtain ⟨p,hp⟩: ∃p,2^dstBits s=p:=⟨_,rfl⟩
 have hpb:p≤8192:=by rw[←hp];exact Nat.le_trans (Nat.pow_le_pow_right (by omega) he5) (by decide)
 have hpI:(2:Int)^dstBits s=(p:Int):=by rw[←hp,Int.natCast_pow];rfl
 have HNX:Hid (dstBase (s+1)=dstBase s+p):=by unfold Hid;rw[(dstNextN (s:=s) (by omega)).1,hp]
 have HON:Hid (n<dstBase s+p→s=dsymOf n):=fun h=>dstOnly hn (by omega) (by omega) hle (by rw[hp];exact h)
 have HTOP:Hid (dstBase (s+1)≤n→s+1≤28):=fun h=>by
  rcases Nat.lt_or_ge (s+1) 29 with h1|h1
  ·omega
  have e:s+1=29:=by omega
  rw[e,dst29] at h;omega
 have HL1:=hide (dstBitsE (s:=s+1) (by omega))
 have HEQ:Hid (∀e b,dstBits s=e→dstBase s=b→s=dsymOf n→dstL n=dstB s++numB (n- b) e):=fun e b h1 h2 h3=>by unfold dstL;rw[←h3,h1,h2]
 clear hp
 generalize hee:dstBits s=e at*
 generalize hbb:dstBase s=b at*
 have HE2:=hide (uh HEQ e b rfl rfl)
 have he0:(0:Int)≤(e:Int):=by omega
 have he64:(e:Int)<64:=by omega
 have htn:((e:Nat):Int).toNat=e:=Int.toNat_natCast e
 clear HEQ hee hbb
 by_cases hlt:n<b+p
 ·have hltI:(n:Int)<(b:Int)+(p:Int):=by omega
  have hso:=uh HON hlt
  have HLL:=hide (uh HE2 hso)
  clear HNX HON HTOP HL1 HE2 hso hbit
  have H1:=hide (highA v B s 5 (by omega) (by omega) (by omega) w (uh HV))
  clear HV
  go_wp2_with fail
  refine (uh H1).mono ?_
  rintro r w1 ⟨v1,rfl,hg1⟩
  have HG1:=hide hg1
  have hll:(B++codeB s 5).length≤900010:=by rw[List.length_append,codeB_len];omega
  have H2:Hid (Calls Tryz.prog 19 #[v1,.int .i64 ((n:Int)- (b:Int)),.int .i64 e] w1 fun r w' => ∃v',r=.returned v' ∧Grew w1 w' v1 v' (B++codeB s 5) (B++codeB s 5++numB (n- b) e)):=by
   have:=lowA v1 (B++codeB s 5) (n- b) e (by omega) (by omega) (by omega) w1 hg1.buf
   rw[show ((n:Int)- (b:Int))=((n- b:Nat):Int) by omega]
   exact this
  clear H1 hg1
  go_wp2_with fail
  refine (uh H2).mono ?_
  rintro r w2 ⟨v2,rfl,hg2⟩
  have HG2:=hide ((uh HG1).trans hg2 (by rw[List.length_append];omega))
  clear H2 hg2 HG1
  go_wp2_with fail
  go_ret
  exact ⟨_,rfl,by rw[uh HLL,←List.append_assoc];exact HG2⟩
 have hltI:¬(n:Int)<(b:Int)+(p:Int):=by omega
 have hb1:=uh HNX
 have hs3:=uh HTOP (by rw[hb1];omega)
 have hb2:=uh HL1
 clear HON HTOP HL1 HE2 HNX
 by_cases h65:s+1<4
 ·have h65I:¬(4:Int)≤(s:Int)+1:=by omega
  rw[if_pos h65] at hb2
  rw[if_pos (by omega)] at hbit
  have HB0:=hide hbit
  have HB2:=hide hb2
  have HB1:=hide hb1
  clear hbit hb2 hb1
  go_wp2_with fail
  go_round
  ·exact ⟨s+1,by omega,by go_num,by rw[uh HB1,Int.natCast_add],by rw[uh HB2,uh HB0],by unfold Hid;rw[uh HB1];omega⟩
  case measure=>simp[intOf];omega
 have h65I:(4:Int)≤(s:Int)+1:=by omega
 rw[if_neg h65] at hb2
 have HB2:=hide hb2
 have HB1:=hide hb1
 clear hbit hb2 hb1
 go_wp2_with fail
 go_round
 ·exact ⟨s+1,by omega,by go_num,by rw[uh HB1,Int.natCast_add],by rw[uh HB2];congr 1;omega,by unfold Hid;rw[uh HB1];omega⟩
 case measure=>simp[intOf];omega
theorem packB_zero{L:List Nat}(h:L.length%8≠0):packB (L++[0])=packB L:=packB_pad L 1 (by omega)
theorem cells8_set(l:List UInt8)(q n:Nat)(hn:n<256):byteCells8 (l.set q (b8 n))=(byteCells8 l).set q (.int .u8 (n:Int)):=by
 rw[byteCells8,byteCells8,List.map_set,b8_toNat hn]
theorem Buf.set{w w' :World}{S:Nat→Prop}{gb cap n:Nat}{l:List UInt8}(h:Buf w' S (.slice (some ⟨gb,0,none⟩) l.length cap) l)(ho:Old w w')(hS: ∀k,S k→w.heap.size≤k)(q:Nat)(hn:n<256):
 Old w (w'.setCell ⟨gb,q,none⟩ (.int .u8 (n:Int)))∧Buf (w'.setCell ⟨gb,q,none⟩ (.int .u8 (n:Int))) S (.slice (some ⟨gb,0,none⟩) l.length cap) (l.set q (b8 n)):=by
 obtain ⟨_,_,e,how,hsa⟩:=h
 injection e with e1 e2 e3
 subst e1 e3
 refine ⟨ho.setCell (p:=⟨gb,q,none⟩) (fun hb=>absurd (hS _ (hsa _ rfl)) (by simp only at*;omega)) _,_,_,by rw[List.length_set], ?_,hsa⟩
 rw[List.length_set,cells8_set l q n hn]
 exact own_set how
theorem bitsA(v:Value)(B:List Nat)(hB:Bin B)(h0:0<B.length)(hl:B.length≤100000)(w:World)(hv:IB w v B):
 Calls Tryz.prog 24 #[v] w fun r w' =>r=.returned (.string ⟨(packB B).toArray⟩)∧Old w w' :=by
 obtain ⟨i0,hi0,hz0,hz1,hz2⟩:=info_parts infoB5
 obtain ⟨ao,cap,rfl,how⟩:=hv
 obtain ⟨g,rfl⟩: ∃g,ao=some ⟨g,0,none⟩:=by
  rcases how.2 with ⟨_,h⟩|⟨g,c,cu,hv,_⟩
  ·omega
  injection hv with hv;exact ⟨g,hv⟩
 have HCL:Hid (∀i,i<B.length→w.cell? ⟨g,i,none⟩=some (.int .i64 (B.getD i 0:Nat))):=by
  intro i hi
  have hc:=how.cells (g:=g) rfl i (.int .i64 (B.getD i 0:Nat)) (by simp[bitCells,List.getElem?_map,List.getElem?_eq_getElem hi,List.getD_eq_getElem?_getD])
  rw[Addr.add_lit,Nat.zero_add] at hc
  exact hc
 have hgl:g<w.heap.size:=by
  obtain ⟨cu,hg⟩:=own_heap how (b:=g) rfl
  exact (Array.getElem?_eq_some_iff.1 hg).1
 clear how
 go_in
 go_wp2_with fail
 go_loopw [3,4] (fun u x wr=> ∃i:Nat,i≤B.length∧x=.int .i64 i∧Hid (Buf wr (fun k=>w.heap.size≤k) u (packB (B.take i)))∧Hid (Old w wr)) (fun _ x _=>B.length- (intOf x).toNat)
 ·exact ⟨0,by omega,rfl,by rw[List.take_zero,packB_nil];exact Buf.nil _ _,Only.refl _ w⟩
 obtain ⟨i,hi,rfl,HU,HO⟩:=hrel
 by_cases hlt:i<B.length
 ·have hltI:(i:Int)<(B.length:Int):=by omega
  have hi0I:(0:Int)≤(i:Int):=by omega
  have hc:=((uh HO).cell (p:=⟨g,i,none⟩) hgl (fun x=>x)).trans (uh HCL i hlt)
  have hb2:=hB.get i
  have HT:Hid (B.take (i+1)=B.take i++[B.getD i 0]):=take_getD _ _ hlt
  have hLl:(B.take i).length=i:=by rw[List.length_take];omega
  have HBL:Hid (Bin (B.take i)):=fun x hx=>hB x (List.mem_of_mem_take hx)
  generalize B.getD i 0=b at*
  generalize B.take i=L at*
  obtain ⟨f,hf⟩: ∃f,i%8=f:=⟨_,rfl⟩
  obtain ⟨q,hq⟩: ∃q,i/8=q:=⟨_,rfl⟩
  have hfI:(i:Int).tmod 8=(f:Int):=by rw[Int.tmod_eq_emod_of_nonneg hi0I];omega
  have hqI:(i:Int).tdiv 8=(q:Int):=by rw[Int.tdiv_eq_ediv_of_nonneg hi0I];omega
  have hfI2:(i:Int)%8=(f:Int):=by omega
  have hqI2:(i:Int)/8=(q:Int):=by omega
  have hf8:f<8:=by omega
  have hpl:=packB_len L
  rw[hLl] at hpl
  obtain ⟨p,hp⟩: ∃p,2^f=p:=⟨_,rfl⟩
  have hp128:p≤128:=by rw[←hp];exact Nat.le_trans (Nat.pow_le_pow_right (by omega) (show f≤7 by omega)) (by decide)
  have hpI:(2:Int)^f=(p:Int):=by rw[←hp,Int.natCast_pow];rfl
  have hpw:IntKind.u8.wrap (p:Int)=(p:Int):=by rw[IntKind.wrap_u8];omega
  have hf0:(0:Int)≤(f:Int):=by omega
  have hftn:((f:Nat):Int).toNat=f:=Int.toNat_natCast f
  have hqtn:((q:Nat):Int).toNat=q:=Int.toNat_natCast q
  have hqw:IntKind.i64.wrap (q:Int)=(q:Int):=i64_wrap_nat q (by omega)
  obtain ⟨ao,cp,rfl,how,hsa⟩:=uh HU
  by_cases h8:f=0
  ·have h8I:((f:Int)==0)=true:=by rw[h8];rfl
   have hL8:L.length%8=0:=by omega
   have hqN:q=(packB L).length:=by omega
   have hA:Old wr (wr.alloc (.cells #[.int .u8 (0:Int)] 5)):=(Only.refl _ wr).alloc _
   have HOW:=hide (own_old how hA)
   have HNW:=hide (byte_new5 (wr:=wr) (n:=0))
   have HBF:=hide (fun (ao2:Option Addr) (cap2:Nat) (w3:World)=>Buf.more (w:=wr) (w1:=wr.alloc (.cells #[.int .u8 (0:Int)] 5)) (w2:=w3) (S:=fun k=>w.heap.size≤k) (l:=packB L) (bs:=[b8 0]) (ao:=ao) (ao2:=ao2) (cap:=cp) (cap2:=cap2) (H:=wr.heap.size+1) (by have:=(uh HO).size;omega) (Only.oldS hA) hsa)
   have hcq0:byteCells8 [b8 0]=[.int .u8 (0:Int)]:=rfl
   have HHN:Hid (g<wr.heap.size):=Nat.lt_of_lt_of_le hgl (uh HO).size
   have hcg:(wr.alloc (.cells #[.int .u8 (0:Int)] 5)).cell? ⟨g,i,none⟩=some (.int .i64 (b:Int)):=(hA.cell (p:=⟨g,i,none⟩) (uh HHN) (fun x=>x)).trans hc
   have HNE:Hid ((Value.slice ao (packB L).length cp).ownBlock≠some g):=by
    intro hh
    cases ao with
    |none=>cases hh
    |some a=>injection hh with hh;have:=hsa a rfl;omega
   have hNb:(packB L).length≤20000:=by omega
   have HQN:=hide hqN
   have HN0:Hid (packB (L++[b])=packB L++[b8 b]):=packB_new b hL8
   have HPP:Hid (p=1):=by unfold Hid;rw[←hp,h8]
   have HSA:=hide hsa
   clear how hsa hpl hA hp hqN h8
   generalize packB L=X at*
   obtain ⟨N,hN⟩: ∃N,X.length=N:=⟨_,rfl⟩
   have HXN:=hide hN
   rw[hN] at HOW HBF HNE hNb HQN
   have HU2:Hid (Buf wr (fun k=>w.heap.size≤k) (.slice ao N cp) X):=by rw[←hN];exact HU
   rw[hN]
   clear hN HU
   go_upto_region 7 with (at_builtin;refine wpList_append_lies _ rfl (.tmp 14) (.tmp 15) 62 rfl 0 5 i0 (.int .u8 0) 1 1 Tryz.underlying62 hi0 hz0 hz1 hz2 rfl (by omega) (.slice ao N cp) N _ rfl (uh HOW) ⟨wr.heap.size,0,none⟩ 1 1 [.int .u8 (0:Int)] rfl rfl (uh HNW) (by intro u hu;simp at hu;subst hu;rfl) (by omega) (by unfold maxLen;omega) (by omega) (by omega) (wr.heap.size+1) (by simp) ?_;intro g2 cap2 w3 ho3 hg3 hl3 hlt3;have hcg3:w3.cell? ⟨g,i,none⟩=some (.int .i64 (b:Int)):=(World.cell?_of_block (w:=wr.alloc (.cells #[.int .u8 (0:Int)] 5)) (hg3.block g (by rw[World.size_alloc];have:=uh HHN;omega) (fun e=>uh HNE e.symm))).trans hcg;rw[←hcq0] at ho3;have HX:=hide (uh HBF (some ⟨g2,0,none⟩) cap2 w3 ho3 hg3 (fun b hb=>by injection hb with hb;subst hb;exact hl3));clear ho3 hg3 hl3)
   clear HOW HNW HBF hcg HNE HHN hc
   have HO3:Hid (Old w w3):=(uh HO).transNew (uh HX).1 (fun k hk h=>by omega)
   have HB3:Hid (Buf w3 (fun k=>w.heap.size≤k) (.slice (some ⟨g2,0,none⟩) (N+1) cap2) (X++[b8 0])):=(uh HX).2
   clear HX HO
   have hbc:b=0∨b=1:=by omega
   rcases hbc with rfl|rfl
   ·have hb0:(((0:Nat):Int)==1)=false:=by decide
    go_wp2_with fail
    go_roundw
    ·exact ⟨i+1,by omega,by go_num,by rw[uh HT,uh HN0];exact HB3,HO3⟩
    case measure=>simp[intOf];omega
   obtain ⟨y,hy⟩: ∃y:Nat,y=0:=⟨_,rfl⟩
   have hXl:(X++[b8 0]).length=N+1:=by rw[List.length_append,uh HXN];rfl
   have hor:bits .or .u8 (y:Int) (p:Int)=((y+p:Nat):Int):=by
    have h1:=u8_or_nat y p (by omega) (by omega)
    rw[hy,Nat.zero_or] at h1
    rw[hy,Nat.zero_add]
    exact h1
   have hcq:w3.cell? ⟨g2,q,none⟩=some (.int .u8 (y:Int)):=by
    obtain ⟨_,_,e,how3,_⟩:=uh HB3
    injection e with e1 e2 e3
    subst e1
    have h1:=own_cell how3 (k:=q) (by rw[hXl,uh HQN];omega)
    rw[h1,uh HQN,←uh HXN,List.getD_eq_getElem?_getD,List.getElem?_append_right (Nat.le_refl _),Nat.sub_self,hy]
    rfl
   have hqlt:(q:Int)<((N:Int)+1):=by have:=uh HQN;omega
   have hqn:q<N+1:=by have:=uh HQN;omega
   have hfr:w3.drew.frozen? ⟨g2,q,none⟩=false:=by
    obtain ⟨_,_,e,how3,_⟩:=uh HB3
    injection e with e1 e2 e3
    subst e1
    obtain ⟨cu,hg⟩:=own_heap how3 (b:=g2) rfl
    exact frozen_of_row w3.drew g2 q _ _ hg
   have HSET:Hid (Old w (w3.drew.setCell ⟨g2,q,none⟩ (.int .u8 ((y+p:Nat):Int)))∧Buf (w3.drew.setCell ⟨g2,q,none⟩ (.int .u8 ((y+p:Nat):Int))) (fun k=>w.heap.size≤k) (.slice (some ⟨g2,0,none⟩) (N+1) cap2) ((X++[b8 0]).set q (b8 (y+p)))):=by
    have h:=Buf.set (n:=y+p) (w:=w) (w' :=w3.drew) (S:=fun k=>w.heap.size≤k) (gb:=g2) (cap:=cap2) (l:=X++[b8 0]) (by rw[hXl];exact uh HB3) ((uh HO3).drew) (fun _ h=>h) q (by omega)
    rw[hXl] at h
    exact h
   have hyw:IntKind.u8.wrap ((y+p:Nat):Int)=((y+p:Nat):Int):=by rw[IntKind.wrap_u8];omega
   have HN1:Hid ((X++[b8 0]).set q (b8 (y+p))=packB (L++[1])):=by
    unfold Hid
    rw[uh HN0,uh HQN,←uh HXN,hy,uh HPP,List.set_append_right _ _ (Nat.le_refl _),Nat.sub_self]
    rfl
   rw[uh HN1] at HSET
   clear hy hXl HN1 HN0 HXN HPP
   go_upto_region 8 with fail
   have HSW:w3.drew.cell? ⟨g2,q,none⟩=some (.int .u8 (y:Int))∧True∧True:=⟨hcq,trivial,trivial⟩
   refine wp_region_last (S:=fun W=>W.cell? ⟨g2,q,none⟩=some (.int .u8 (y:Int))∧True∧True) (L:=13) (by kernel_rfl) ?_
   refine tk 0 14 ((.slice (some ⟨g2,0,none⟩) (N+1) cap2)) 22 HSW ?_
   refine tk 1 14 (.int .i64 (i:Int)) 23 HSW ?_
   refine tk 2 14 (.int .i64 (q:Int)) 24 HSW ?_
   refine tk 3 14 ((.slice (some ⟨g2,0,none⟩) (N+1) cap2)) 25 HSW ?_
   refine tk 4 14 (.int .i64 (i:Int)) 26 HSW ?_
   refine tk 5 14 (.int .i64 (q:Int)) 27 HSW ?_
   refine tk 6 14 (.pointer (some ⟨g2,q,none⟩)) 28 HSW ?_
   refine tk 7 14 (.int .u8 (y:Int)) 29 HSW ?_
   refine tk 8 14 (.int .i64 (i:Int)) 30 HSW ?_
   refine tk 9 14 (.int .i64 (f:Int)) 31 HSW ?_
   refine tk 10 14 (.int .u8 (p:Int)) 32 HSW ?_
   refine tk 11 14 (.int .u8 ((y+p:Nat):Int)) 33 HSW ?_
   refine tk 12 14 (.pointer (some ⟨g2,q,none⟩)) 34 HSW ?_
   refine wpAnyL_one (i:=13) (by kernel_rfl) ?_
   refine wpOp_step rfl (fun K' hK=> ?_)
   go_simp
   refine hK _ _ ⟨fun h=>absurd rfl h, ?_⟩
   clear hK
   refine wpAnyL_done (by kernel_rfl) ?_
   clear HSW
   go_wp2_with fail
   go_roundw
   ·exact ⟨i+1,by omega,by go_num,by rw[uh HT];exact (uh HSET).2,(uh HSET).1⟩
   case measure=>simp[intOf];omega
  have h8I:((f:Int)==0)=false:=by rw[beq_eq_false_iff_ne];omega
  have hL8:L.length%8≠0:=by omega
  obtain ⟨gb,rfl⟩: ∃gb,ao=some ⟨gb,0,none⟩:=by
   rcases how.2 with ⟨_,h⟩|⟨gb,c,cu,hv,_⟩
   ·omega
   injection hv with hv;exact ⟨gb,hv⟩
  have hbc:b=0∨b=1:=by omega
  rcases hbc with rfl|rfl
  ·have HZ:=hide (packB_zero hL8)
   have hb0:(((0:Nat):Int)==1)=false:=by decide
   clear how hsa hpl
   go_wp2_with fail
   go_roundw
   ·exact ⟨i+1,by omega,by go_num,by rw[uh HT,uh HZ];exact HU,HO⟩
   case measure=>simp[intOf];omega
  obtain ⟨y,hy⟩: ∃y,oct L (i/8) 8=y:=⟨_,rfl⟩
  have hyp:y<p:=by
   have h:=oct_top (B:=L)
   rw[hLl,hf] at h
   rw[←hy,h,←hp]
   exact oct_lt (uh HBL) (i/8) f
  have hor:bits .or .u8 (y:Int) (p:Int)=((y+p:Nat):Int):=by
   have:=or_byte (c:=y) (b:=1) (f:=f) (by rw[hp];exact hyp) (by omega) hf8
   rw[Nat.one_mul,hp] at this
   exact this
  have HN:Hid (packB (L++[1])=(packB L).set q (b8 (y+p))):=by
   unfold Hid
   rw[packB_in 1 hL8,hLl,hy,hf,hp,Nat.one_mul,packB_len,hLl,show (i+7)/8- 1=q by omega]
  have hcq:wr.cell? ⟨gb,q,none⟩=some (.int .u8 (y:Int)):=by
   have h1:=own_cell how (k:=q) (by rw[packB_len,hLl];omega)
   have h2:=pack_last hL8
   rw[packB_len,hLl,show (i+7)/8- 1=q by omega] at h2
   rw[h1,h2,hy,b8_toNat (by omega)]
  have hqlt:(q:Int)<((packB L).length:Int):=by omega
  have hqn:q<(packB L).length:=by omega
  have hfr:wr.drew.frozen? ⟨gb,q,none⟩=false:=by
   obtain ⟨cu,hg⟩:=own_heap how (b:=gb) rfl
   exact frozen_of_row wr.drew gb q _ _ hg
  have HSET:=hide (Buf.set (n:=y+p) (w:=w) (w' :=wr.drew) (S:=fun k=>w.heap.size≤k) (gb:=gb) (cap:=cp) (l:=packB L) (uh HU) ((uh HO).drew) (fun _ h=>h) q (by omega))
  have hyw:IntKind.u8.wrap ((y+p:Nat):Int)=((y+p:Nat):Int):=by rw[IntKind.wrap_u8];omega
  clear how hsa hp hy hpl
  go_upto_region 8 with fail
  have HSW:wr.drew.cell? ⟨gb,q,none⟩=some (.int .u8 (y:Int))∧True∧True:=⟨hcq,trivial,trivial⟩
  refine wp_region_last (S:=fun W=>W.cell? ⟨gb,q,none⟩=some (.int .u8 (y:Int))∧True∧True) (L:=13) (by kernel_rfl) ?_
  refine tk 0 14 ((.slice (some ⟨gb,0,none⟩) (packB L).length cp)) 22 HSW ?_
  refine tk 1 14 (.int .i64 (i:Int)) 23 HSW ?_
  refine tk 2 14 (.int .i64 (q:Int)) 24 HSW ?_
  refine tk 3 14 ((.slice (some ⟨gb,0,none⟩) (packB L).length cp)) 25 HSW ?_
  refine tk 4 14 (.int .i64 (i:Int)) 26 HSW ?_
  refine tk 5 14 (.int .i64 (q:Int)) 27 HSW ?_
  refine tk 6 14 (.pointer (some ⟨gb,q,none⟩)) 28 HSW ?_
  refine tk 7 14 (.int .u8 (y:Int)) 29 HSW ?_
  refine tk 8 14 (.int .i64 (i:Int)) 30 HSW ?_
  refine tk 9 14 (.int .i64 (f:Int)) 31 HSW ?_
  refine tk 10 14 (.int .u8 (p:Int)) 32 HSW ?_
  refine tk 11 14 (.int .u8 ((y+p:Nat):Int)) 33 HSW ?_
  refine tk 12 14 (.pointer (some ⟨gb,q,none⟩)) 34 HSW ?_
  refine wpAnyL_one (i:=13) (by kernel_rfl) ?_
  refine wpOp_step rfl (fun K' hK=> ?_)
  go_simp
  refine hK _ _ ⟨fun h=>absurd rfl h, ?_⟩
  clear hK
  refine wpAnyL_done (by kernel_rfl) ?_
  have hst:=uh HSET
  rw[←uh HN] at hst
  have HST:=hide hst
  clear hst HSET HSW
  go_wp2_with fail
  go_roundw
  ·exact ⟨i+1,by omega,by go_num,by rw[uh HT];exact (uh HST).2,(uh HST).1⟩
  case measure=>simp[intOf];omega
 have hltI:¬(i:Int)<(B.length:Int):=by omega
 have hie:i=B.length:=by omega
 subst hie
 rw[List.take_length] at HU
 obtain ⟨ao,cp,rfl,how,hsa⟩:=uh HU
 have hcv0:=out_string how
 clear how hsa HU
 go_wp2_with fail
 go_ret
 exact ⟨rfl,HO⟩
theorem step_far{s:ByteArray}{a len far:Nat}{o:List UInt8}(h:At s a (tokB (.inr (len,far))))(h3:3≤len)(h258:len≤258)(hf1:1≤far)(hf2:far≤32768)(hfo:o.length<far):stepS s fixL fixD a o=.inl (.inr 2):=by
 obtain ⟨hs1,hs2,hs3,hs4,_⟩:=symOf_ok len h3 h258
 obtain ⟨hd1,hd2,hd3⟩:=dsymOf_ok far hf1 hf2
 have hle:=h.1
 have hA:=h.left
 have hC:=h.right.right.left
 have hD:=h.right.right.right
 have hlen:(tokB (.inr (len,far))).length=fixN (symOf len)+(lenBits (symOf len)+(5+dstBits (dsymOf far))):=by
  simp only[tokB,List.length_append,symB_len,numB_len,dstB,codeB_len]
 rw[symB_len] at hC hD
 rw[numB_len] at hC hD
 have e5:(dstB (dsymOf far)).length=5:=codeB_len _ _
 rw[e5] at hD
 rw[hlen] at hle
 have hd:=hA.sym (by omega)
 have hdd:=hC.dst (by omega)
 have hn2:=hD.numV (by omega)
 rw[stepS,hd]
 show (if symOf len=256 then _ else _)=_
 rw[if_neg (by omega),if_neg (by omega),if_neg (by omega),copyS,if_neg (by omega),hdd]
 show (if 29<dsymOf far then _ else _)=_
 rw[if_neg (by omega),if_neg (by omega),hn2,show dstBase (dsymOf far)+(far- dstBase (dsymOf far))=far by omega,if_pos hfo]
theorem sym_far{s:ByteArray}{len far:Nat}{R:List Nat}(h3:3≤len)(h258:len≤258)(hf1:1≤far)(hf2:far≤32768): ∀{T:List Tok} {a:Nat} {o:List UInt8},At s a (toksB T++(tokB (.inr (len,far))++R))→okTs o T→(T.foldl runT o).length<far→symS s fixL fixD a o=.inr 2
 |[],a,o,h,_,hf=>by
  have h' :At s a (tokB (.inr (len,far))++R):=h
  rw[symS_step,step_far h'.left h3 h258 hf1 hf2 (show o.length<far from hf)]
 |t::T,a,o,h,hok,hf=>by
  rw[toksB_cons,List.append_assoc] at h
  rw[symS_step,step_tok h.left hok.1]
  show symS s fixL fixD (a+(tokB t).length) (runT o t)=_
  exact sym_far h3 h258 hf1 hf2 h.right hok.2 hf
def farB(T:List Tok)(len far:Nat):List Nat:=1::1::0::(toksB T++(tokB (.inr (len,far))++symB 256))
theorem farB_bin(T:List Tok)(len far:Nat):Bin (farB T len far):=by
 have h:=(toksB_bin T).append ((tokB_bin (.inr (len,far))).append (codeB_bin (fixV 256) (fixN 256)))
 intro x hx
 rcases List.mem_cons.1 hx with rfl|hx
 ·omega
 rcases List.mem_cons.1 hx with rfl|hx
 ·omega
 rcases List.mem_cons.1 hx with rfl|hx
 ·omega
 exact h x hx
theorem infl_far{T:List Tok}{len far:Nat}(hok:okTs [] T)(h3:3≤len)(h258:len≤258)(hf1:1≤far)(hf2:far≤32768)(hf:(T.foldl runT []).length<far):inflate ⟨(packB (farB T len far)).toArray⟩=(⟨#[]⟩,0,2):=by
 have hb:=(bits_packB (farB_bin T len far) []).all
 rw[List.append_nil] at hb
 generalize hs:(⟨(packB (farB T len far)).toArray⟩:ByteArray)=s at hb
 have hle:=hb.1
 have hlen:(farB T len far).length=3+(toksB T++(tokB (.inr (len,far))++symB 256)).length:=by simp only[farB,List.length_cons];omega
 have h1:=hb.2 1 (by omega)
 have h2:=hb.2 2 (by omega)
 have hr:At s 3 (toksB T++(tokB (.inr (len,far))++symB 256)):=(show At s 0 ([1,1,0]++(toksB T++(tokB (.inr (len,far))++symB 256))) from hb).right
 have hk:numAt s (0+1) 2=1:=by
  have z:numAt s 1 2=numAt s 1 0+bitAt s (1+0)*2^0+bitAt s (1+1)*2^1:=rfl
  have h1' :bitAt s (1+0)=1:=h1
  have h2' :bitAt s (1+1)=0:=h2
  rw[Nat.zero_add,z,h1',h2'];rfl
 have hblk:blockS s 0 []=.inr 2:=by
  rw[blockS,if_neg (by omega),kindS,hk]
  exact sym_far h3 h258 hf1 hf2 hr hok hf
 rw[inflate,inflS_bad hblk,outOf]
def lits(d:ByteArray)(k:Nat):List Tok:=(List.range k).map fun j=> .inl (btN d j)
theorem lits_succ(d:ByteArray)(k:Nat):lits d (k+1)=lits d k++[.inl (btN d k)]:=by simp[lits,List.range_succ]
theorem okTs_snoc{t:Tok}: ∀{T:List Tok} {o:List UInt8},okTs o T→okT (T.foldl runT o) t→okTs o (T++[t])
 |[],_,_,h=>⟨h,trivial⟩
 |_::_,_,hok,h=>⟨hok.1,okTs_snoc hok.2 h⟩
theorem run_snoc(T:List Tok)(t:Tok)(o:List UInt8):(T++[t]).foldl runT o=runT (T.foldl runT o) t:=by rw[List.foldl_append];rfl
theorem lits_run(d:ByteArray): ∀k,k≤d.size→(lits d k).foldl runT []=d.data.toList.take k
 |0,_=>by rw[List.take_zero];rfl
 |k+1,h=>by
  rw[lits_succ,run_snoc,lits_run d k (by omega),take_snoc d k (by omega)]
  show _++[b8 (btN d k)]=_
  congr 2
  rw[←btN_get (show k<d.size by omega)]
  apply UInt8.toNat_inj.1
  rw[b8_toNat (byte_lt _)]
theorem lits_ok(d:ByteArray)(hd:d.size≤20000): ∀k,k≤d.size→okTs [] (lits d k)
 |0,_=>trivial
 |k+1,h=>by
  rw[lits_succ]
  refine okTs_snoc (lits_ok d hd k (by omega)) ⟨btN_lt d k, ?_⟩
  rw[lits_run d k (by omega),List.length_take]
  omega
theorem tok_cpy(n f:Nat):tokB (.inr (n,f))=lenL n++dstL f:=by simp only[tokB,lenL,dstL,List.append_assoc]
theorem cpy_len40(n f:Nat)(h3:3≤n)(h4:n≤258)(h5:1≤f)(h6:f≤32768):(tokB (.inr (n,f))).length≤40:=by
 obtain ⟨_,_,_,_,h⟩:=symOf_ok n h3 h4
 obtain ⟨hd,_,_⟩:=dsymOf_ok f h5 h6
 have h2:dstBits (dsymOf f)≤13:=of_decide_eq_true (List.all_eq_true.1 dstBits_le _ (List.mem_range.2 (by omega)))
 simp only[tokB,List.length_append,symB_len,numB_len,dstB,codeB_len]
 omega
theorem lits_len(d:ByteArray): ∀k,(toksB (lits d k)).length≤9*k
 |0=>by show (0:Nat)≤_;omega
 |k+1=>by
  rw[lits_succ,toksB_snoc,List.length_append]
  have h1:=lits_len d k
  have h2:(tokB (.inl (btN d k))).length≤9:=by show (symB _).length≤9;rw[symB_len];exact fixN_le _
  omega
end Go.Proofs.YtndfmgdhiallpaaGreatDoor
