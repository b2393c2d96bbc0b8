import Derived.Test.YtndfmgdhiallpaaGreatDoorMq
import Derived.Test.YtndfmgdhiallpaaGreatDoorMl
import Derived.Lib.ConvBytes
import Derived.Laws.IdiomStrings
import Derived.Test.YtndfmgdhiallpaaGreatDoorMf
set_option maxRecDepth 100000
set_option maxHeartbeats 1000000
namespace Go.Proofs.YtndfmgdhiallpaaGreatDoor
open Go.RowKit
def pickN(c:Int)(n:Nat):Nat:=((if c<0 then -(c+1) else c)%(n:Int)).toNat
theorem pickN_lt(c:Int){n:Nat}(h:0<n):pickN c n<n:=by
 unfold pickN
 have h1:=Int.emod_lt_of_pos (if c<0 then -(c+1) else c) (show (0:Int)<(n:Int) by omega)
 have h2:=Int.emod_nonneg (if c<0 then -(c+1) else c) (show (n:Int)≠0 by omega)
 omega
theorem pick_any(c:Int)(hc1: -9223372036854775808≤c)(hc2:c≤9223372036854775807)(n:Nat)(hn:0<n)(hn2:n≤9223372036854775807)(w:World):
 Calls Tryz.prog 109 #[.int .i64 c,.int .i64 n] w fun r w' =>r=.returned (.int .i64 (pickN c n))∧w' =w:=by
 have hn0:¬(n:Int)=0:=by omega
 have hn1:((n:Int)==0)=false:=by rw[beq_eq_false_iff_ne];omega
 by_cases h:c<0
 ·have hw:IntKind.i64.wrap (c+1)=c+1:=by rw[IntKind.wrap_i64];omega
  have hw2:IntKind.i64.wrap (-(c+1))= -(c+1):=by rw[IntKind.wrap_i64];omega
  have hm0:0≤ -(c+1):=by omega
  have e1:(-(c+1)).tmod (n:Int)=((pickN c n:Nat):Int):=by
   rw[Int.tmod_eq_emod_of_nonneg hm0];unfold pickN;rw[if_pos h]
   have:=Int.emod_nonneg (-(c+1)) (show (n:Int)≠0 by omega);omega
  have hlt:=pickN_lt c hn
  have hw3:IntKind.i64.wrap ((pickN c n:Nat):Int)=((pickN c n:Nat):Int):=i64_wrap_nat _ (by omega)
  have HP:=hide e1
  generalize pickN c n=p at*
  go_in
  go_wp2_with fail
  go_ret
  refine ⟨?_,rfl⟩
  congr 2
 have e1:c.tmod (n:Int)=((pickN c n:Nat):Int):=by
  rw[Int.tmod_eq_emod_of_nonneg (by omega)];unfold pickN;rw[if_neg h]
  have:=Int.emod_nonneg c (show (n:Int)≠0 by omega);omega
 have hlt:=pickN_lt c hn
 have hw3:IntKind.i64.wrap ((pickN c n:Nat):Int)=((pickN c n:Nat):Int):=i64_wrap_nat _ (by omega)
 have HP:=hide e1
 generalize pickN c n=p at*
 go_in
 go_wp2_with fail
 go_ret
 refine ⟨?_,rfl⟩
 congr 2
theorem pick_pos(c:Int)(hc:¬c<0)(n:Nat)(hn:0<n)(hn2:n≤9223372036854775807)(w:World):
 Calls Tryz.prog 109 #[.int .i64 c,.int .i64 n] w fun r w' =>r=.returned (.int .i64 (pickN c n))∧w' =w:=by
 have hn0:¬(n:Int)=0:=by omega
 have hn1:((n:Int)==0)=false:=by rw[beq_eq_false_iff_ne];omega
 have e1:c.tmod (n:Int)=((pickN c n:Nat):Int):=by
  rw[Int.tmod_eq_emod_of_nonneg (by omega)];unfold pickN;rw[if_neg hc]
  have:=Int.emod_nonneg c (show (n:Int)≠0 by omega);omega
 have hlt:=pickN_lt c hn
 have hw3:IntKind.i64.wrap ((pickN c n:Nat):Int)=((pickN c n:Nat):Int):=i64_wrap_nat _ (by omega)
 have HP:=hide e1
 generalize pickN c n=p at*
 go_in
 go_wp2_with fail
 go_ret
 refine ⟨?_,rfl⟩
 congr 2
theorem inflates_any(s:ByteArray)(hs:s.size≤140737488355328)(w:World)(ho:OrdAt w):
 Calls Tryz.prog 60 #[.string s] w fun r w' =>r=.returned (.bool true)∧Old w w' :=by
 have H1:=hide (valiseInflate_any s hs w ho)
 have H2:=hide (fun W=>refInflate_any s hs W)
 generalize inflate s=x at*
 obtain ⟨a,n,e⟩:=x
 simp only at H1 H2
 clear ho
 go_in
 go_wp2_with fail
 refine (uh H1).mono ?_
 rintro r w1 ⟨rfl,ho1⟩
 clear H1
 go_wp2_with fail
 refine (uh H2 w1).mono ?_
 rintro r w2 ⟨rfl,ho2⟩
 have HO:Hid (Old w w2):=Only.trans ho1 ho2
 clear H2 ho1 ho2
 go_wp2_with fail
 go_ret
 exact ⟨rfl,HO⟩
open Go.RowKit Go.Maps
theorem again_of{d:ByteArray}{k i:Nat}(h: ∀j,k≤j→j<i→btN d j=btN d (j- k))(hi:¬i<d.size):Again d k:=by
 intro j hj
 have:=h (j+k) (by omega) (by omega)
 rw[Nat.add_sub_cancel] at this
 exact this
theorem half_any(d:ByteArray)(hd:d.size≤20000)(w:World):
 Calls Tryz.prog 111 #[.string d] w fun r w' => ∃m:Nat,r=.returned (.int .i64 m)∧(deflP d).size≤m∧ ∃k,w' =w.drewN k:=by
 have HM:Hid ((deflP d).size≤d.size+5*(d.size/16000)+6):=by have:=(deflP_size d).1;unfold Hid;omega
 have HH:Hid (∀k i,1≤k→k≤100→20*k≤d.size→(∀j,k≤j→j<i→btN d j=btN d (j- k))→¬i<d.size→(deflP d).size≤d.size/2):=by
  intro k i h1 h2 h3 h4 h5
  have:=half_defl hd (again_of h4 h5) h1 h2 h3
  omega
 go_in
 go_wp2_with fail
 go_loopw [5,6,7] (fun x _ _ wr=> ∃k nn:Nat,1≤k∧k≤101∧x=.int .i64 k∧wr=w.drewN nn) (fun x _ _ _=>101- (intOf x).toNat)
 ·exact ⟨1,0,by omega,by omega,rfl,rfl⟩
 obtain ⟨k,nn,hk1,hk2,rfl,rfl⟩:=hrel
 by_cases hc:k≤100∧20*k≤d.size
 ·obtain ⟨hc1,hc2⟩:=hc
  have hc1I:(k:Int)≤100:=by omega
  have hc2I:20*(k:Int)≤(d.size:Int):=by omega
  have hk0:¬(k:Int)=0:=by omega
  have hk0b:((k:Int)==0)=false:=by rw[beq_eq_false_iff_ne];omega
  have HK:=hide (fun i=>uh HH k i hk1 hc1 hc2)
  go_wp2_with fail
  go_loopw [6,7] (fun a x wr=> ∃(b:Bool) (i nn:Nat),k≤i∧i≤d.size∧a=.bool b∧x=.int .i64 i∧wr=w.drewN nn∧Hid (b=true→ ∀j,k≤j→j<i→btN d j=btN d (j- k))) (fun _ x _=>d.size- (intOf x).toNat)
  ·exact ⟨_,k,nn,by omega,by omega,rfl,rfl,rfl,fun _ j h1 h2=>by omega⟩
  obtain ⟨b,i,nn,hki,hid,rfl,rfl,rfl,HB⟩:=hrel
  cases b with
  |false=>
   go_wp2_with fail
   go_roundw
   ·exact ⟨k+1,nn,by omega,by omega,by go_num,rfl⟩
   case measure=>simp[intOf];omega
  |true=>
   by_cases hi:i<d.size
   ·have hiI:(i:Int)<(d.size:Int):=by omega
    have hb1:=btN_get (s:=d) (k:=i) hi
    obtain ⟨ik,hikn⟩: ∃ik,ik=i- k:=⟨_,rfl⟩
    have hikd:ik<d.size:=by omega
    have hb2:=btN_get (s:=d) (k:=ik) hikd
    have hik:(i:Int)- (k:Int)=(ik:Int):=by omega
    have hik0:(0:Int)≤(ik:Int):=by omega
    have hikl:(ik:Int)<(d.size:Int):=by omega
    have hwi:IntKind.i64.wrap (ik:Int)=(ik:Int):=i64_wrap_nat _ (by omega)
    have HN:Hid (btN d i=btN d ik→ ∀j,k≤j→j<i+1→btN d j=btN d (j- k)):=fun e j h1 h2=>by
     by_cases hj:j<i
     ·exact uh HB rfl j h1 hj
     have:j=i:=by omega
     subst this;rw[←hikn];exact e
    generalize btN d i=x1 at*
    generalize btN d ik=x2 at*
    clear hikn
    clear HH HK HM
    go_wp2_with fail
    go_quiet (fail)
    go_wp2_with fail
    go_roundw
    ·exact ⟨_,i+1,nn+nq,by omega,by omega,rfl,by go_num,by simp,fun h=>uh HN (Int.ofNat_inj.1 (by simpa using h))⟩
    case measure=>simp[intOf];omega
   have hiI:¬(i:Int)<(d.size:Int):=by omega
   have HR:=hide (uh HK i (uh HB rfl) hi)
   clear HH HK HM
   go_wp2_with fail
   go_ret
   exact ⟨d.size/2,by rw[Int.natCast_ediv];rfl,HR,nn,rfl⟩
 have hcI:¬(k:Int)≤100∨¬20*(k:Int)≤(d.size:Int):=by omega
 by_cases h1:k≤100
 ·have hc1I:(k:Int)≤100:=by omega
  have hc2I:¬20*(k:Int)≤(d.size:Int):=by omega
  clear HH hcI hc
  go_wp2_with fail
  go_ret
  exact ⟨d.size+5*(d.size/16000)+6,by simp only[Int.natCast_add,Int.natCast_mul,Int.natCast_ediv];rfl,HM,nn,rfl⟩
 have hc1I:¬(k:Int)≤100:=by omega
 clear HH hcI hc
 go_wp2_with fail
 go_ret
 exact ⟨d.size+5*(d.size/16000)+6,by simp only[Int.natCast_add,Int.natCast_mul,Int.natCast_ediv];rfl,HM,nn,rfl⟩
theorem size_append_nil(a:ByteArray):a++(⟨#[]⟩:ByteArray)=a:=by apply ByteArray.ext;simp
theorem deflates_any(d:ByteArray)(hs:d.size≤140737488355328)(w:World):
 Calls Tryz.prog 61 #[.string d] w fun r w' =>r=.returned (.bool true)∧Old w w' :=by
 have H1:=hide (fun W=>valiseDeflate_any d hs W)
 by_cases hd:d.size≤20000
 ·have hdI:¬(20000:Int)<(d.size:Int):=by omega
  have hsz:(deflP d).size≤140737488355328:=by have:=(deflP_size d).1;omega
  have H2:=hide (fun W=>refInflate_any (deflP d) hsz W)
  have hinf:inflate (deflP d)=(d,(deflP d).size,0):=by have:=infl_defl d hd ⟨#[]⟩;rw[size_append_nil] at this;exact this
  rw[hinf] at H2
  have H3:=hide (fun W=>half_any d hd W)
  clear hinf hsz
  generalize deflP d=p at*
  go_in
  go_wp2_with fail
  refine (uh H1 w).mono ?_
  rintro r w1 ⟨⟨_,rfl⟩|⟨h,_⟩,ho1⟩
  ·have HO1:=hide ho1
   clear ho1
   go_wp2_with fail
   refine (uh H2 w1).mono ?_
   rintro r w2 ⟨rfl,ho2⟩
   have HO2:=hide (Only.trans (uh HO1) ho2)
   clear ho2 HO1 H2
   go_wp2_with fail
   refine (uh H3 w2).mono ?_
   rintro r w3 ⟨m,rfl,hm,k,rfl⟩
   have hmI:(p.size:Int)≤(m:Int):=by omega
   clear H3
   go_wp2_with fail
   refine (uh H1 _).mono ?_
   rintro r w4 ⟨⟨_,rfl⟩|⟨h,_⟩,ho4⟩
   ·have HO4:Hid (Old w w4):=Only.trans ((uh HO2).drewN k) ho4
    clear ho4 HO2 H1
    go_wp2_with fail
    go_ret
    exact ⟨rfl,HO4⟩
   omega
  omega
 have hdI:(20000:Int)<(d.size:Int):=by omega
 go_in
 go_wp2_with fail
 refine (uh H1 w).mono ?_
 rintro r w1 ⟨⟨h,_⟩|⟨_,rfl⟩,ho1⟩
 ·omega
 have HO1:=hide ho1
 clear ho1 H1
 go_wp2_with fail
 go_ret
 exact ⟨rfl,HO1⟩
theorem ofInt_u8(a:Nat)(ha:a<256):(BitVec.ofInt 8 (a:Int)).toNat=a:=by
 rw[BitVec.toNat_ofInt]
 omega
theorem u8_xor_nat(a b:Nat)(ha:a<256)(hb:b<256):bits .xor .u8 (a:Int) (b:Int)=((a^^^b:Nat):Int):=by
 have hx:a^^^b<2^8:=Nat.xor_lt_two_pow (by omega) (by omega)
 show IntKind.u8.wrap ((BitVec.ofInt 8 (a:Int)^^^BitVec.ofInt 8 (b:Int)).toNat:Int)=_
 rw[BitVec.toNat_xor,ofInt_u8 a ha,ofInt_u8 b hb,IntKind.wrap_u8]
 omega
def SRow(w:World)(g:Nat)(l:List UInt8):Prop:= ∃cur fr,w.heap[g]? =some (.cells cur 5 fr)∧l.length≤fr.1∧ ∀j (h:j<l.length),cur[j]? =some (.int .u8 (l[j].toNat:Int))
theorem SRow.lt{w:World}{g:Nat}{l:List UInt8}(h:SRow w g l):g<w.heap.size:=by obtain ⟨cur,fr,h,_⟩:=h;exact (Array.getElem?_eq_some_iff.1 h).1
theorem SRow.cell{w:World}{g:Nat}{l:List UInt8}(h:SRow w g l)(j:Nat)(hj:j<l.length):w.cell? ⟨g,j,none⟩=some (.int .u8 (l[j].toNat:Int)):=by
 obtain ⟨cur,fr,hg,_,hc⟩:=h
 rw[cell_of_row w g j cur _ fr hg];exact hc j hj
theorem SRow.thaw{w:World}{g:Nat}{l:List UInt8}(h:SRow w g l)(j:Nat)(hj:j<l.length):w.frozen? ⟨g,j,none⟩=false:=by
 obtain ⟨cur,fr,hg,hf,_⟩:=h
 simp only[World.frozen?,hg]
 simp
 omega
theorem setCell_fr(w:World)(g i:Nat)(cs:Array Value)(t:TypeId)(fr:Nat×Nat)(v:Value)(hg:w.heap[g]? =some (.cells cs t fr)):(w.setCell ⟨g,i,none⟩ v).heap[g]? =some (.cells (cs.setIfInBounds i v) t fr):=by
 simp only[World.setCell,Array.getElem?_modify,hg]
 simp
theorem SRow.set{w:World}{g:Nat}{l:List UInt8}(h:SRow w g l)(j:Nat)(v:UInt8):SRow (w.setCell ⟨g,j,none⟩ (.int .u8 (v.toNat:Int))) g (l.set j v):=by
 obtain ⟨cur,fr,hg,hf,hc⟩:=h
 refine ⟨_,fr,setCell_fr w g j cur 5 fr _ hg,by rw[List.length_set];exact hf,fun i hi=> ?_⟩
 rw[List.length_set] at hi
 rw[Array.getElem?_setIfInBounds]
 have hs:i<cur.size:=by
  rcases Nat.lt_or_ge i cur.size with h|h
  ·exact h
  have:=hc i hi;rw[Array.getElem?_eq_none h] at this;cases this
 by_cases e:j=i
 ·subst e;rw[if_pos rfl,if_pos hs,List.getElem_set_self]
 rw[if_neg e,hc i hi,List.getElem_set_ne e]
theorem SRow.made(w:World)(s:ByteArray):SRow (Lib.bytesWorld w 5 s) w.heap.size s.data.toList:=by
 refine ⟨_,_,Lib.bytesWorld_at_new w 5 s, ?_,fun j hj=> ?_⟩
 ·simp[Lib.bytesCells]
 simp only[Array.length_toList] at hj
 have hj2:j<s.size:=hj
 simp[Lib.bytesCells,Array.getElem?_append,hj2]
theorem bytesWorld_only(w:World)(s:ByteArray):Old w (Lib.bytesWorld w 5 s):=
 ⟨rfl,rfl,rfl,by rw[Lib.bytesWorld_size];omega,fun k hk _=>Lib.bytesWorld_at_old w 5 s k hk⟩
theorem SRow.back{w:World}{g cap:Nat}{l:List UInt8}(h:SRow w g l):(convert 62 9 (.slice (some ⟨g,0,none⟩) l.length cap)).run Tryz.prog w=.ok (.string ⟨l.toArray⟩) w:=
 run_convert_bytes_back w 62 9 5 ⟨g,0,none⟩ cap l Tryz.underlying62 Tryz.underlying5 Tryz.underlying9 (fun j hj=>by rw[Addr.add_lit,Nat.zero_add];exact h.cell j hj)
theorem lawTurned_any(s:ByteArray)(hs:s.size≤1000000)(c:Int)(w:World):
 Calls Tryz.prog 59 #[.string s,.int .i64 c] w fun r w' => ∃t:ByteArray,r=.returned (.string t)∧t.size=s.size∧Old w w' :=by
 cases hz:s.toList.isEmpty with
 |true=>
  go_in
  go_wp2_with fail
  go_ret
  exact ⟨s,rfl,rfl,Only.refl _ w⟩
 |false=>
  by_cases hc:c<0
  ·go_in
   go_wp2_with fail
   go_ret
   exact ⟨s,rfl,rfl,Only.refl _ w⟩
  have hpos:0<s.size:=by
   rcases Nat.eq_zero_or_pos s.size with h|h
   ·have e:s=⟨#[]⟩:=ByteArray.ext (by show s.data= #[];exact Array.eq_empty_of_size_eq_zero h)
    rw[e] at hz
    exact absurd hz (by unfold ByteArray.toList ByteArray.toList.loop;simp;intro h0;exact absurd h0 (by decide))
   exact h
  have HP:=hide (pick_pos c hc (8*s.size) (by omega) (by omega) w)
  have hpl:=pickN_lt c (show 0<8*s.size by omega)
  generalize pickN c (8*s.size)=p at*
  have hcb:=Lib.run_convert_string_bytes (P:=Tryz.prog) w 9 62 5 s Tryz.underlying9 Tryz.underlying62 Tryz.underlying5
  have HR:=hide (SRow.made w s)
  have HO:=hide (bytesWorld_only w s)
  rw[show ((8*s.size:Nat):Int)=8*(s.size:Int) by omega] at HP
  go_in
  go_wp2_with fail
  refine (uh HP).mono ?_
  rintro r w' ⟨rfl,rfl⟩
  have hsl:s.data.toList.length=s.size:=by simp
  go_upto_region 5 with fail
  clear hcb HP
  generalize Lib.bytesWorld w' 5 s=W at*
  generalize grownCap w' s.size 0 5=cap at*
  generalize s.data.toList=l at*
  obtain ⟨k,hk⟩: ∃k,k=p/8:=⟨_,rfl⟩
  obtain ⟨m,hm⟩: ∃m,m=p%8:=⟨_,rfl⟩
  have hkl:k<l.length:=by omega
  have hkI:(p:Int)/8=(k:Int):=by omega
  have hmI:(p:Int)%8=(m:Int):=by omega
  have hm8:m<8:=by omega
  have hmT:(p:Int).tmod 8=(m:Int):=by rw[Int.tmod_eq_emod_of_nonneg (by omega)];exact hmI
  have hwk:IntKind.i64.wrap (k:Int)=(k:Int):=i64_wrap_nat _ (by omega)
  have hwm:IntKind.i64.wrap (m:Int)=(m:Int):=i64_wrap_nat _ (by omega)
  have hk0:(0:Int)≤(k:Int):=by omega
  have hkz:(k:Int)<(s.size:Int):=by omega
  have hm0:(0:Int)≤(m:Int):=by omega
  have hcell:=(uh HR).cell k hkl
  have hfz:=(uh HR).thaw k hkl
  have hb:(l[k]).toNat<256:=l[k].toNat_lt
  obtain ⟨tm,htm⟩: ∃tm,tm=2^m:=⟨_,rfl⟩
  have hp2:tm≤128:=by rw[htm];exact (Nat.pow_le_pow_right (by omega) (by omega):2^m≤2^7)
  have h2m:(2:Int)^m=(tm:Int):=by rw[htm,Int.natCast_pow];rfl
  have hxo:=u8_xor_nat (l[k]).toNat tm hb (by omega)
  have hxl:(l[k]).toNat^^^tm<2^8:=Nat.xor_lt_two_pow (by omega) (by omega)
  have HN:=hide ((uh HR).set k (UInt8.ofNat ((l[k]).toNat^^^tm)))
  rw[UInt8.toNat_ofNat_of_lt' (by omega)] at HN
  generalize (l[k]).toNat=b at*
  generalize b^^^tm=x at*
  have hw2:IntKind.u8.wrap (tm:Int)=(tm:Int):=by rw[IntKind.wrap_u8];omega
  clear htm hk hm
  have HSW:W.drew.cell? ⟨w'.heap.size,k,none⟩=some (.int .u8 b)∧True∧True:=⟨hcell,trivial,trivial⟩
  refine wp_region_last (S:=fun W=>W.cell? ⟨w'.heap.size,k,none⟩=some (.int .u8 b)∧True∧True) (L:=13) (by kernel_rfl) ?_
  refine tk 0 14 (.slice (some ⟨w'.heap.size,0,none⟩) s.size cap) 21 HSW ?_
  refine tk 1 14 (.int .i64 p) 22 HSW ?_
  refine tk 2 14 (.int .i64 k) 23 HSW ?_
  refine tk 3 14 (.slice (some ⟨w'.heap.size,0,none⟩) s.size cap) 24 HSW ?_
  refine tk 4 14 (.int .i64 p) 25 HSW ?_
  refine tk 5 14 (.int .i64 k) 26 HSW ?_
  refine tk 6 14 (.pointer (some ⟨w'.heap.size,k,none⟩)) 27 HSW ?_
  refine tk 7 14 (.int .u8 b) 28 HSW ?_
  refine tk 8 14 (.int .i64 p) 29 HSW ?_
  refine tk 9 14 (.int .i64 m) 30 HSW ?_
  refine tk 10 14 (.int .u8 tm) 31 HSW ?_
  refine tk 11 14 (.int .u8 x) 32 HSW ?_
  refine tk 12 14 (.pointer (some ⟨w'.heap.size,k,none⟩)) 33 HSW ?_
  refine wpAnyL_one (i:=13) (by kernel_rfl) ?_
  refine wpOp_step rfl (fun K' hK=> ?_)
  go_simp
  refine hK _ _ ⟨fun h=>absurd rfl h, ?_⟩
  clear hK
  refine wpAnyL_done (by kernel_rfl) ?_
  have hrow:SRow (W.setCell ⟨w'.heap.size,k,none⟩ (.int .u8 (x:Int))).drew w'.heap.size (l.set k (UInt8.ofNat x)):=uh HN
  have HOW:Hid (Old w' (W.setCell ⟨w'.heap.size,k,none⟩ (.int .u8 (x:Int))).drew):=((uh HO).setCell (p:=⟨w'.heap.size,k,none⟩) (fun h=>absurd h (Nat.lt_irrefl _)) _).drew
  generalize (W.setCell ⟨w'.heap.size,k,none⟩ (.int .u8 (x:Int))).drew=W2 at*
  have hcv:=hrow.back (cap:=cap)
  rw[List.length_set,hsl] at hcv
  have HLS:Hid ((⟨(l.set k (UInt8.ofNat x)).toArray⟩:ByteArray).size=s.size):=by show (l.set k (UInt8.ofNat x)).toArray.size=_;rw[List.size_toArray,List.length_set,hsl]
  generalize (⟨(l.set k (UInt8.ofNat x)).toArray⟩:ByteArray)=t at*
  clear hrow HN HR HO HSW hcell hfz
  go_wp2_with fail
  go_ret
  exact ⟨t,rfl,HLS,HOW⟩
end Go.Proofs.YtndfmgdhiallpaaGreatDoor
