import Derived.Test.YtndfmgdhiallpaaGreatDoorKq
import Derived.Test.YtndfmgdhiallpaaGreatDoorJi
set_option maxRecDepth 100000
set_option maxHeartbeats 4000000
namespace Go.Proofs.YtndfmgdhiallpaaGreatDoor
open Go.RowKit Go.Maps
def More(w:World)(v:Value)(m:Nat):Prop:=
 (v=.slice none 0 0∧m=0)∨ ∃a cap,v=.slice (some a) m cap∧ ∀i,i<m→ ∃x:Int,w.cell? (a.add i)=some (.int .i64 x)∧ -9223372036854775808≤x∧x≤9223372036854775807
theorem More.len{w:World}{v:Value}{m:Nat}(h:More w v m): ∃ao cap,v=.slice ao m cap:=by
 rcases h with ⟨rfl,rfl⟩|⟨a,cap,rfl,_⟩
 ·exact ⟨none,0,rfl⟩
 exact ⟨some a,cap,rfl⟩
theorem More.old{w w' :World}{v:Value}{m:Nat}(h:More w v m)(ho:Old w w'):More w' v m:=by
 rcases h with h|⟨a,cap,rfl,h⟩
 ·exact .inl h
 refine .inr ⟨a,cap,rfl,fun i hi=> ?_⟩
 obtain ⟨x,h1,h2⟩:=h i hi
 have hl:(a.add i).block<w.heap.size:=by
  rcases Nat.lt_or_ge (a.add i).block w.heap.size with hlt|hge
  ·exact hlt
  have:w.cell? (a.add i)=none:=by simp[World.cell?,Array.getElem?_eq_none hge]
  rw[this] at h1;cases h1
 exact ⟨x,(ho.cell hl (fun x=>x)).trans h1,h2⟩
def litB(d:ByteArray)(k:Nat):List Nat:=1::1::0::toksB (lits d k)
theorem litB_succ(d:ByteArray)(k:Nat):litB d (k+1)=litB d k++symB (btN d k):=by
 rw[litB,litB,lits_succ,toksB_snoc];rfl
theorem litB_len(d:ByteArray)(k:Nat):(litB d k).length≤9*k+3:=by
 have:=lits_len d k
 simp only[litB,List.length_cons];omega
structure Cps (d:ByteArray) (j:Nat) (T:List Tok):Prop where
 ok:okTs [] T
 pos:1≤(T.foldl runT []).length
 len:(T.foldl runT []).length≤201+258*j
 bits:(toksB T).length≤1809+40*j
 more:(litB d d.size).length≤(toksB T).length+3
theorem mk_size(l:List UInt8):(ByteArray.mk l.toArray).size=l.length:=by simp[ByteArray.size]
theorem copy_step(l:List UInt8)(far:Nat)(h1:1≤far)(h2:far≤l.length):ByteArray.mk l.toArray++(ByteArray.mk l.toArray).extract (l.length- far) (l.length- far+1)=ByteArray.mk (l++[l.getD (l.length- far) 0]).toArray:=by
 apply ByteArray.ext
 apply Array.ext'
 have hlt:l.length- far<l.length:=by omega
 have e:List.take 1 (List.drop (l.length- far) l)=[l[l.length- far]]:=by rw[List.drop_eq_getElem_cons hlt];rfl
 simp[ByteArray.data_append,ByteArray.data_extract,List.getD_eq_getElem?_getD,List.getElem?_eq_getElem hlt,e]
theorem cps_next{d:ByteArray}{j:Nat}{T:List Tok}(h:Cps d j T)(hj:j≤6){n f:Nat}(h3:3≤n)(h4:n≤258)(h5:1≤f)(h6:f≤(T.foldl runT []).length):Cps d (j+1) (T++[.inr (n,f)]):=by
 have hl:=h.len
 have hc:=cpy_len40 n f h3 h4 h5 (by omega)
 have hr:((T++[Sum.inr (n,f)]).foldl runT []).length=(T.foldl runT []).length+n:=by rw[run_snoc];exact copyL_len _ _ _
 have hp:=h.pos
 have hb:=h.bits
 have hm:=h.more
 refine ⟨okTs_snoc h.ok ⟨h3,h4,h5,h6,by omega⟩,by rw[hr];omega,by rw[hr];omega, ?_, ?_⟩<;>(rw[toksB_snoc,List.length_append];omega)
abbrev sx:ByteArray:=⟨#[120]⟩
theorem copiedS(s:ByteArray)(hs:s.size≤200)(c f:Int)(hc1: -9223372036854775808≤c)(hc2:c≤9223372036854775807)(hf1: -9223372036854775808≤f)(hf2:f≤9223372036854775807)(v:Value)(m:Nat)(hm:m≤9223372036854775807)(w:World)(hw:Awk w)(hv:More w v m):
 Calls Tryz.prog 9 #[.string s,.int .i64 c,.int .i64 f,v] w fun r w' =>r=.returned (.bool true)∧Old w w' :=by
 have H1:=hide (awakeX w hw)
 have HW:=hide hw
 have HV:=hide hv
 obtain ⟨ao,cap,rfl⟩:=hv.len
 clear hw hv
 have hsI:¬(200:Int)<(s.size:Int):=by omega
 have hcat:¬9223372036854775807<s.size+1:=by omega
 go_in
 go_wp2_with fail
 refine (uh H1).mono ?_
 rintro r w1 ⟨rfl,ho1⟩
 have HW1:=hide ((uh HW).old ho1)
 have HV1:=hide ((uh HV).old ho1)
 have HO1:=hide ho1
 have H2:=hide (lowA (.slice none 0 0) [] 1 1 (by omega) (by omega) (by simp) w1 ⟨none,0,rfl,World.ownsRow_nil w1 0 3 1⟩)
 have hxs:(s++sx).size=s.size+1:=by rw[ByteArray.size_append];rfl
 generalize hd:s++sx=d at*
 clear ho1 H1 HW HV
 have HD:=hide hd
 have hds:d.size≤201:=by omega
 have hd1:1≤d.size:=by omega
 clear hxs
 go_wp2_with fail
 clear hd hcat hsI
 refine (uh H2).mono ?_
 rintro r w2 ⟨v2,rfl,hg2⟩
 have HG2:=hide hg2
 have H3:=hide (lowA v2 ([]++numB 1 1) 1 2 (by omega) (by omega) (by decide) w2 hg2.buf)
 clear H2 hg2
 go_wp2_with fail
 refine (uh H3).mono ?_
 rintro r w3 ⟨v3,rfl,hg3⟩
 have HG3:Hid (Grew w1 w3 (.slice none 0 0) v3 [] (litB d 0)):=(uh HG2).trans hg3 (by simp)
 clear H3 hg3 HG2
 go_wp2_with fail
 go_loopw [10,11] (fun u x wr=> ∃i:Nat,i≤d.size∧x=.int .i64 i∧Hid (Grew w1 wr (.slice none 0 0) u [] (litB d i))) (fun _ x _=>d.size- (intOf x).toNat)
 ·exact ⟨0,by omega,rfl,HG3⟩
 obtain ⟨i,hi,rfl,HG⟩:=hrel
 clear HG3
 by_cases hlt:i<d.size
 ·have hltI:(i:Int)<(d.size:Int):=by omega
  have hb:=btN_get (s:=d) (k:=i) hlt
  have hbl:=btN_lt d i
  have HS:=hide (litB_succ d i)
  have hll:=litB_len d i
  have H4:=hide (literalA u10 (litB d i) (btN d i) hbl (by omega) wr (uh HG).buf)
  generalize btN d i=y at*
  clear hll
  go_wp2_with fail
  refine (uh H4).mono ?_
  rintro r w4 ⟨v4,rfl,hg4⟩
  have HG4:=hide ((uh HG).trans hg4 (by simp))
  clear H4 hg4
  go_wp2_with fail
  go_roundw
  ·exact ⟨i+1,by omega,by go_num,by rw[uh HS];exact HG4⟩
  case measure=>simp[intOf];omega
 have hltI:¬(i:Int)<(d.size:Int):=by omega
 have hie:i=d.size:=by omega
 subst hie
 have HC0:Hid (Cps d 0 (lits d d.size)):=by
  have hr:=lits_run d d.size (Nat.le_refl _)
  have hl:(d.data.toList.take d.size).length=d.size:=by rw[List.length_take,Array.length_toList];exact Nat.min_self _
  have h2:=lits_len d d.size
  exact ⟨lits_ok d (by omega) _ (Nat.le_refl _),by rw[hr,hl];exact hd1,by rw[hr,hl];omega,by omega,by simp only[litB,List.length_cons];omega⟩
 have HD0:Hid (ByteArray.mk ((lits d d.size).foldl runT []).toArray=d):=by
  unfold Hid
  rw[lits_run d d.size (Nat.le_refl _),List.take_of_length_le (by rw[Array.length_toList];exact Nat.le_refl _)]
 have HGB:=hide (Grew.refl (uh HG).buf)
 go_wp2_with fail
 clear hltI hlt hi
 obtain ⟨lb,rfl⟩: ∃v,v=u10:=⟨_,rfl⟩
 obtain ⟨wb,rfl⟩: ∃v,v=wr:=⟨_,rfl⟩
 go_loopw [10,12,14,15,16,17] (fun u t x _ _ _ w5=> ∃(j:Nat) (T:List Tok),j≤6∧j≤m+1∧x=.int .i64 ((j:Int)- 1)∧t=.string ⟨(T.foldl runT []).toArray⟩∧Hid (Cps d j T)∧Hid (Grew w1 w5 (.slice none 0 0) u [] (1::1::0::toksB T))∧Hid (Grew wb w5 lb u (litB d d.size) (1::1::0::toksB T))) (fun _ _ x _ _ _ _=>(6- intOf x).toNat)
 ·exact ⟨0,lits d d.size,by omega,by omega,rfl,by rw[uh HD0],HC0,HG,HGB⟩
 obtain ⟨j,T,hj6,hjm,rfl,rfl,HC,HG1,HGB1⟩:=hrel
 clear HC0 HGB
 by_cases hcond:j≤m∧j≤5
 ·obtain ⟨hc5,hc6⟩:=hcond
  have t1:(j:Int)- 1<(m:Int):=by omega
  have t2:(j:Int)- 1<5:=by omega
  by_cases hj0:j=0
  ·subst hj0
   have hj0:(0:Nat)≤0:=Nat.le_refl _
   have hjz:((0:Nat):Int)- 1= -1:=rfl
   rw[hjz] at t1 t2 ⊢
   obtain ⟨k1,hk1⟩: ∃k,pickN (c) 256=k:=⟨_,rfl⟩
   have hk1l:k1<256:=by rw[←hk1];exact pickN_lt _ (by omega)
   have H5:=hide (fun W=>kpick_any (c) hc1 hc2 256 (by omega) (by omega) W)
   have hol:=(uh HC).len
   have hop:=(uh HC).pos
   have HZ:Hid ((ByteArray.mk (T.foldl runT []).toArray).size=(T.foldl runT []).length):=by unfold Hid;simp[ByteArray.size]
   obtain ⟨k2,hk2⟩: ∃k,pickN (f) (T.foldl runT []).length=k:=⟨_,rfl⟩
   have hk2l:k2<(T.foldl runT []).length:=by rw[←hk2];exact pickN_lt _ (by omega)
   have hk2b:k2≤3000:=by omega
   have H6:=hide (fun W=>kpick_any (f) hf1 hf2 (T.foldl runT []).length (by omega) (by omega) W)
   rw[hk1] at H5
   rw[hk2] at H6
   have hbl:(1::1::0::toksB T).length≤3000:=by have:=(uh HC).bits;simp only[List.length_cons];omega
   have H7:Hid (∀u W,IB W u (1::1::0::toksB T)→Calls Tryz.prog 21 #[u,.int .i64 (3+(k1:Int))] W fun r w' => ∃v',r=.returned v' ∧Grew W w' u v' (1::1::0::toksB T) (1::1::0::toksB T++lenL (3+k1))):=by
    intro u W hu
    have:=symbolA u _ (3+k1) (by omega) (by omega) (by omega) W hu
    rw[Int.natCast_add] at this
    exact this
   have hll:(lenL (3+k1)).length≤20:=by
    obtain ⟨_,_,_,_,h⟩:=symOf_ok (3+k1) (by omega) (by omega)
    rw[lenL,List.length_append,symB_len,numB_len];omega
   have H8:Hid (∀u W,IB W u (1::1::0::toksB T++lenL (3+k1))→Calls Tryz.prog 22 #[u,.int .i64 (1+(k2:Int))] W fun r w' => ∃v',r=.returned v' ∧Grew W w' u v' (1::1::0::toksB T++lenL (3+k1)) (1::1::0::toksB T++lenL (3+k1)++dstL (1+k2))):=by
    intro u W hu
    have:=distanceA u _ (1+k2) (by omega) (by omega) (by rw[List.length_append];omega) W hu
    rw[Int.natCast_add] at this
    exact this
   have HCN:=hide (cps_next (uh HC) hj6 (n:=3+k1) (f:=1+k2) (by omega) (by omega) (by omega) (by omega))
   have HTB:Hid (1::1::0::toksB T++lenL (3+k1)++dstL (1+k2)=1::1::0::toksB (T++[.inr ((3+k1),(1+k2))])):=by
    unfold Hid
    rw[toksB_snoc,tok_cpy,List.append_assoc];rfl
   have HRN:Hid ((T++[Sum.inr ((3+k1),(1+k2))]).foldl runT []=copyL (T.foldl runT []) (1+k2) (3+k1)):=run_snoc _ _ _
   have HBL1:Hid ((litB d d.size).length≤(1::1::0::toksB T).length):=by have:=(uh HC).more;unfold Hid;simp only[List.length_cons];omega
   clear hk1 hk2 HC
   generalize T.foldl runT []=o at*
   generalize hzz:ByteArray.mk o.toArray=z at*
   have hzs:=uh HZ
   rw[←hzs] at H6
   have HZZ:=hide hzz
   clear hzz hj0 hjz hol hop hbl hll
   have HZS:=hide hzs
   clear hzs HZ
   go_wp2_with fail
   refine (uh H5 _).mono ?_
   rintro r w6 ⟨rfl,rfl⟩
   go_wp2_with fail
   refine (uh H6 _).mono ?_
   rintro r w7 ⟨rfl,rfl⟩
   have HK2:=hide hk2l
   clear hk2l
   go_wp2_with fail
   refine (uh H7 _ _ (uh HG1).buf).mono ?_
   rintro r w8 ⟨v8,rfl,hg8⟩
   have HG8:=hide hg8
   have H9:=hide (uh H8 v8 w8 hg8.buf)
   clear H5 H6 H7 H8 hg8
   go_wp2_with fail
   refine (uh H9).mono ?_
   rintro r w9 ⟨v9,rfl,hg9⟩
   have hg89:=(uh HG8).trans hg9 (by rw[List.length_append];omega)
   rw[uh HTB] at hg89
   have HGA:=hide ((uh HG1).trans hg89 (by simp))
   have HGC:=hide ((uh HGB1).trans hg89 (uh HBL1))
   clear H9 hg9 hg89 HG8 HG1 HGB1 HTB HBL1
   have hfo:1+k2≤o.length:=by have:=uh HK2;omega
   have holb:o.length≤2000:=by have:=(uh HCN).len;rw[uh HRN,copyL_len] at this;omega
   have HFO:=hide hfo
   have HOL:=hide holb
   clear hfo holb HK2
   go_wp2_with fail
   go_loop [12,17] (fun t x=> ∃k:Nat,k≤3+k1∧x=.int .i64 k∧t=.string ⟨(copyL o (1+k2) k).toArray⟩) (fun _ x=>3+k1- (intOf x).toNat)
   ·exact ⟨0,by omega,rfl,by rw[show copyL o (1+k2) 0=o from rfl,uh HZZ]⟩
   obtain ⟨k,hk,rfl,rfl⟩:=hrel
   by_cases hkl:k<3+k1
   ·have hklI:(k:Int)<3+(k1:Int):=by omega
    have HNX:Hid (ByteArray.mk (copyL o (1+k2) (k+1)).toArray=ByteArray.mk (copyL o (1+k2) k).toArray++(ByteArray.mk (copyL o (1+k2) k).toArray).extract ((copyL o (1+k2) k).length- (1+k2)) ((copyL o (1+k2) k).length- (1+k2)+1)):=by
     unfold Hid
     rw[copy_step _ _ (by omega) (by rw[copyL_len];have:=uh HFO;omega)]
     rfl
    have hln:(copyL o (1+k2) k).length=o.length+k:=copyL_len _ _ _
    have HZL:Hid ((ByteArray.mk (copyL o (1+k2) k).toArray).size=(copyL o (1+k2) k).length):=by unfold Hid;simp[ByteArray.size]
    obtain ⟨A,hA⟩: ∃A,(copyL o (1+k2) k).length- (1+k2)=A:=⟨_,rfl⟩
    have hfo:=uh HFO
    have hob:=uh HOL
    have hAl:(copyL o (1+k2) k).length=A+1+k2:=by omega
    have hAb:A≤3000:=by omega
    rw[hA] at HNX
    rw[hAl] at HZL
    generalize ByteArray.mk (copyL o (1+k2) k).toArray=y at*
    have hy:=uh HZL
    have hyb:y.size≤9000:=by omega
    have hsub:(y.size:Int)- (1+(k2:Int))=(A:Int):=by omega
    have hsl: ∀W,(Instr.slice 9 (.string y) (some (.int .i64 (A:Int))) (some (.int .i64 ((A:Int)+1))) none).run Tryz.prog W=.ok (.string (y.extract A (A+1))) W:=fun W=>by
     have:=run_slice_string W 9 y .i64 .i64 (A:Int) ((A:Int)+1) Tryz.underlying9 (by omega) (by omega) (by omega)
     exact this
    have hes:(y.extract A (A+1)).size=1:=by rw[ByteArray.size_extract];omega
    generalize y.extract A (A+1)=e1 at*
    have hcat3:¬9223372036854775807<y.size+e1.size:=by omega
    clear hln hA hfo hob hAl hy hes
    go_wp2_with fail
    go_round
    ·exact ⟨k+1,by omega,by go_num,by rw[uh HNX]⟩
    case measure=>simp[intOf];omega
   have hklI:¬(k:Int)<3+(k1:Int):=by omega
   have hke:k=3+k1:=by omega
   subst hke
   rw[←uh HRN]
   go_wp2_with fail
   go_roundw
   ·exact ⟨1,T++[.inr ((3+k1),(1+k2))],by omega,by omega,by go_num,rfl,HCN,HGA,HGC⟩
   simp[intOf]
  obtain ⟨p,hp⟩: ∃p,p=j- 1:=⟨_,rfl⟩
  have HPJ:Hid (j=p+1):=by unfold Hid;omega
  have hjp:(j:Int)- 1=(p:Int):=by omega
  rw[hjp] at t1 t2 ⊢
  have hMo:=(uh HV1).old ((uh HG1).only.mono (fun _ _ h=>by cases h))
  rcases hMo with ⟨_,h0m⟩|⟨a,cap',he,hcell⟩
  ·omega
  injection he with e1 e2 e3
  subst e1 e3
  obtain ⟨x,hxc,hx1,hx2⟩:=hcell p (by omega)
  obtain ⟨y,hy⟩: ∃y,x.tdiv 300=y:=⟨_,rfl⟩
  have hyb0: -9223372036854775808≤y∧y≤9223372036854775807:=by
   rcases Int.le_total 0 x with h|h
   ·rw[Int.tdiv_eq_ediv_of_nonneg h] at hy;omega
   have h2:=Int.neg_tdiv x 300
   rw[Int.tdiv_eq_ediv_of_nonneg (by omega),hy] at h2;omega
  obtain ⟨hy1,hy2⟩:=hyb0
  have hyw:IntKind.i64.wrap y=y:=by rw[IntKind.wrap_i64];omega
  have hp0:(0:Int)≤(p:Int):=by omega
  have hptn:((p:Nat):Int).toNat=p:=Int.toNat_natCast p
  clear hjp hp hcell e2
  obtain ⟨k1,hk1⟩: ∃k,pickN x 256=k:=⟨_,rfl⟩
  have hk1l:k1<256:=by rw[←hk1];exact pickN_lt _ (by omega)
  have H5:=hide (fun W=>kpick_any x hx1 hx2 256 (by omega) (by omega) W)
  have hol:=(uh HC).len
  have hop:=(uh HC).pos
  have HZ:Hid ((ByteArray.mk (T.foldl runT []).toArray).size=(T.foldl runT []).length):=by unfold Hid;simp[ByteArray.size]
  obtain ⟨k2,hk2⟩: ∃k,pickN y (T.foldl runT []).length=k:=⟨_,rfl⟩
  have hk2l:k2<(T.foldl runT []).length:=by rw[←hk2];exact pickN_lt _ (by omega)
  have hk2b:k2≤3000:=by omega
  have H6:=hide (fun W=>kpick_any y hy1 hy2 (T.foldl runT []).length (by omega) (by omega) W)
  rw[hk1] at H5
  rw[hk2] at H6
  have hbl:(1::1::0::toksB T).length≤3000:=by have:=(uh HC).bits;simp only[List.length_cons];omega
  have H7:Hid (∀u W,IB W u (1::1::0::toksB T)→Calls Tryz.prog 21 #[u,.int .i64 (3+(k1:Int))] W fun r w' => ∃v',r=.returned v' ∧Grew W w' u v' (1::1::0::toksB T) (1::1::0::toksB T++lenL (3+k1))):=by
   intro u W hu
   have:=symbolA u _ (3+k1) (by omega) (by omega) (by omega) W hu
   rw[Int.natCast_add] at this
   exact this
  have hll:(lenL (3+k1)).length≤20:=by
   obtain ⟨_,_,_,_,h⟩:=symOf_ok (3+k1) (by omega) (by omega)
   rw[lenL,List.length_append,symB_len,numB_len];omega
  have H8:Hid (∀u W,IB W u (1::1::0::toksB T++lenL (3+k1))→Calls Tryz.prog 22 #[u,.int .i64 (1+(k2:Int))] W fun r w' => ∃v',r=.returned v' ∧Grew W w' u v' (1::1::0::toksB T++lenL (3+k1)) (1::1::0::toksB T++lenL (3+k1)++dstL (1+k2))):=by
   intro u W hu
   have:=distanceA u _ (1+k2) (by omega) (by omega) (by rw[List.length_append];omega) W hu
   rw[Int.natCast_add] at this
   exact this
  have HCN:=hide (cps_next (uh HC) hj6 (n:=3+k1) (f:=1+k2) (by omega) (by omega) (by omega) (by omega))
  have HTB:Hid (1::1::0::toksB T++lenL (3+k1)++dstL (1+k2)=1::1::0::toksB (T++[.inr ((3+k1),(1+k2))])):=by
   unfold Hid
   rw[toksB_snoc,tok_cpy,List.append_assoc];rfl
  have HRN:Hid ((T++[Sum.inr ((3+k1),(1+k2))]).foldl runT []=copyL (T.foldl runT []) (1+k2) (3+k1)):=run_snoc _ _ _
  have HBL1:Hid ((litB d d.size).length≤(1::1::0::toksB T).length):=by have:=(uh HC).more;unfold Hid;simp only[List.length_cons];omega
  clear hk1 hk2 HC
  generalize T.foldl runT []=o at*
  generalize hzz:ByteArray.mk o.toArray=z at*
  have hzs:=uh HZ
  rw[←hzs] at H6
  have HZZ:=hide hzz
  clear hzz hol hop hbl hll hj0
  have HZS:=hide hzs
  clear hzs HZ
  go_wp2_with fail
  refine (uh H5 _).mono ?_
  rintro r w6 ⟨rfl,rfl⟩
  go_wp2_with fail
  refine (uh H6 _).mono ?_
  rintro r w7 ⟨rfl,rfl⟩
  have HK2:=hide hk2l
  clear hk2l
  go_wp2_with fail
  refine (uh H7 _ _ (uh HG1).buf).mono ?_
  rintro r w8 ⟨v8,rfl,hg8⟩
  have HG8:=hide hg8
  have H9:=hide (uh H8 v8 w8 hg8.buf)
  clear H5 H6 H7 H8 hg8
  go_wp2_with fail
  refine (uh H9).mono ?_
  rintro r w9 ⟨v9,rfl,hg9⟩
  have hg89:=(uh HG8).trans hg9 (by rw[List.length_append];omega)
  rw[uh HTB] at hg89
  have HGA:=hide ((uh HG1).trans hg89 (by simp))
  have HGC:=hide ((uh HGB1).trans hg89 (uh HBL1))
  clear H9 hg9 hg89 HG8 HG1 HGB1 HTB HBL1
  have hfo:1+k2≤o.length:=by have:=uh HK2;omega
  have holb:o.length≤2000:=by have:=(uh HCN).len;rw[uh HRN,copyL_len] at this;omega
  have HFO:=hide hfo
  have HOL:=hide holb
  clear hfo holb HK2
  go_wp2_with fail
  go_loop [12,17] (fun t x=> ∃k:Nat,k≤3+k1∧x=.int .i64 k∧t=.string ⟨(copyL o (1+k2) k).toArray⟩) (fun _ x=>3+k1- (intOf x).toNat)
  ·exact ⟨0,by omega,rfl,by rw[show copyL o (1+k2) 0=o from rfl,uh HZZ]⟩
  obtain ⟨k,hk,rfl,rfl⟩:=hrel
  by_cases hkl:k<3+k1
  ·have hklI:(k:Int)<3+(k1:Int):=by omega
   have HNX:Hid (ByteArray.mk (copyL o (1+k2) (k+1)).toArray=ByteArray.mk (copyL o (1+k2) k).toArray++(ByteArray.mk (copyL o (1+k2) k).toArray).extract ((copyL o (1+k2) k).length- (1+k2)) ((copyL o (1+k2) k).length- (1+k2)+1)):=by
    unfold Hid
    rw[copy_step _ _ (by omega) (by rw[copyL_len];have:=uh HFO;omega)]
    rfl
   have hln:(copyL o (1+k2) k).length=o.length+k:=copyL_len _ _ _
   have HZL:Hid ((ByteArray.mk (copyL o (1+k2) k).toArray).size=(copyL o (1+k2) k).length):=by unfold Hid;simp[ByteArray.size]
   obtain ⟨A,hA⟩: ∃A,(copyL o (1+k2) k).length- (1+k2)=A:=⟨_,rfl⟩
   have hfo:=uh HFO
   have hob:=uh HOL
   have hAl:(copyL o (1+k2) k).length=A+1+k2:=by omega
   have hAb:A≤3000:=by omega
   rw[hA] at HNX
   rw[hAl] at HZL
   generalize ByteArray.mk (copyL o (1+k2) k).toArray=yb at*
   have hyz:=uh HZL
   have hyb:yb.size≤9000:=by omega
   have hsub:(yb.size:Int)- (1+(k2:Int))=(A:Int):=by omega
   have hsl: ∀W,(Instr.slice 9 (.string yb) (some (.int .i64 (A:Int))) (some (.int .i64 ((A:Int)+1))) none).run Tryz.prog W=.ok (.string (yb.extract A (A+1))) W:=fun W=>by
    have:=run_slice_string W 9 yb .i64 .i64 (A:Int) ((A:Int)+1) Tryz.underlying9 (by omega) (by omega) (by omega)
    exact this
   have hes:(yb.extract A (A+1)).size=1:=by rw[ByteArray.size_extract];omega
   generalize yb.extract A (A+1)=e1 at*
   have hcat3:¬9223372036854775807<yb.size+e1.size:=by omega
   clear hln hA hfo hob hAl hyz hes
   go_wp2_with fail
   go_round
   ·exact ⟨k+1,by omega,by go_num,by rw[uh HNX]⟩
   case measure=>simp[intOf];omega
  have hklI:¬(k:Int)<3+(k1:Int):=by omega
  have hke:k=3+k1:=by omega
  subst hke
  rw[←uh HRN]
  go_wp2_with fail
  go_roundw
  ·exact ⟨j+1,T++[.inr ((3+k1),(1+k2))],by omega,by omega,by rw[show ((j+1:Nat):Int)- 1=(p:Int)+1 by have:=uh HPJ;omega],rfl,HCN,HGA,HGC⟩
  simp[intOf];have:=uh HPJ;omega
 by_cases hjm2:j≤m
 ·have t1:(j:Int)- 1<(m:Int):=by omega
  have t2:¬(j:Int)- 1<5:=by omega
  have hbl:=(uh HC).bits
  have H5:=hide (highA u10 (1::1::0::toksB T) 0 7 (by omega) (by omega) (by simp only[List.length_cons];omega) wr (uh HG1).buf)
  have HFX:Hid (1::1::0::toksB T++codeB 0 7=fixB T):=rfl
  rw[uh HFX] at H5
  have hfl:(fixB T).length≤5000:=by simp only[fixB,List.length_cons,List.length_append,symB_len];have:=fixN_le 256;omega
  have HFL:=hide hfl
  have H6:=hide (fun v W h=>bitsA v (fixB T) (fixB_bin T) (by simp[fixB]) (by have:=uh HFL;omega) W h)
  have H7:Hid (∀W,Awk W→Calls Tryz.prog 17 #[.string ⟨(packB (fixB T)).toArray⟩] W fun r w' =>r=.returned (.tuple #[.string ⟨(T.foldl runT []).toArray⟩,.int .i64 (packB (fixB T)).length,.int .i64 (0:Nat)])∧Old W w'):=by
   intro W hW
   have h:=valiseInflate_any ⟨(packB (fixB T)).toArray⟩ (by simp[ByteArray.size,packB_len];have:=uh HFL;omega) W hW.2.1
   have h2:=infl_fix (T:=T) (rest:=[]) (uh HC).ok
   rw[List.append_nil] at h2
   rw[h2] at h
   exact h
  clear hbl hfl
  go_wp2_with fail
  refine (uh H5).mono ?_
  rintro r w8 ⟨v8,rfl,hg8⟩
  have HG8:=hide ((uh HG1).trans hg8 (by simp))
  have HGB8:=hide ((uh HGB1).trans hg8 (by have:=(uh HC).more;simp only[List.length_cons];omega))
  have H8:=hide (uh H6 v8 w8 hg8.buf)
  clear H5 hg8 HG1 HGB1 H6
  generalize ByteArray.mk (packB (fixB T)).toArray=pz at*
  generalize (packB (fixB T)).length=pn at*
  go_wp2_with fail
  refine (uh H8).mono ?_
  rintro r w9 ⟨rfl,ho9⟩
  have HO9:Hid (Old w1 w9):=((uh HG8).only.mono (fun _ _ h=>by cases h)).trans ho9
  have H10:=hide (uh H7 w9 ((uh HW1).old (uh HO9)))
  have HO89:=hide ho9
  clear H8 H7 ho9
  go_wp2_with fail
  refine (uh H10).mono ?_
  rintro r w10 ⟨rfl,ho10⟩
  have HO10:=hide (Only.trans (uh HO9) ho10)
  have HO810:=hide (Only.trans (uh HO89) ho10)
  obtain ⟨aoB,cpB,hlb,howB⟩:=(uh HG).buf
  have hnb:3≤(litB d d.size).length:=by simp only[litB,List.length_cons];omega
  obtain ⟨gB,hgB⟩: ∃gB,aoB=some ⟨gB,0,none⟩:=by
   rcases howB.2 with ⟨_,h⟩|⟨gB,c',cu,hv,_⟩
   ·omega
   rw[hlb] at hv;injection hv with hv;exact ⟨gB,hv⟩
  subst hgB
  have HCB:Hid (∀i u,(bitCells (litB d d.size))[i]? =some u→w10.cell? ((⟨gB,0,none⟩:Addr).add i)=some u):=by
   intro i u hu
   have hi:i<(litB d d.size).length:=by
    rcases Nat.lt_or_ge i (litB d d.size).length with h|h
    ·exact h
    rw[List.getElem?_eq_none (by rw[bitCells_len];exact h)] at hu;cases hu
   have h1:=howB.cells (g:=gB) (by rw[hlb];rfl) i u hu
   have hgl:gB<wb.heap.size:=by
    obtain ⟨cu,hg⟩:=own_heap howB (b:=gB) (by rw[hlb];rfl)
    exact (Array.getElem?_eq_some_iff.1 hg).1
   rw[Addr.add_lit] at h1 ⊢
   have h2:=(uh HGB8).keep gB (0+i) hgl (fun _=>by omega)
   exact ((uh HO810).cell (p:=⟨gB,0+i,none⟩) (Nat.lt_of_lt_of_le hgl (uh HGB8).only.size) (fun x=>x)).trans (h2.trans h1)
  have hnl:(bitCells (litB d d.size)).length=(litB d d.size).length*1:=by rw[bitCells_len,Nat.mul_one]
  have hnB:(litB d d.size).length≤3000:=by have:=litB_len d d.size;omega
  have hoc: ∀u∈bitCells (litB d d.size),u.oneCell' =true:=by intro u hu;simp[bitCells] at hu;obtain ⟨b,_,rfl⟩:=hu;rfl
  have HNIL:=hide (World.ownsRow_nil w10 0 3 1)
  have HN3:=hide hnb
  have HFIN:Hid (∀g2 cap2 w11,w11.ownsRow 0 3 1 (.slice (some ⟨g2,0,none⟩) (0+(litB d d.size).length) cap2) (0+(litB d d.size).length) ([]++bitCells (litB d d.size))→w10.grownBy w11 (Value.slice none 0 0).ownBlock→((Value.slice none 0 0).ownBlock=some g2∨g2=w10.heap.size)→IB w11 (.slice (some ⟨g2,0,none⟩) (litB d d.size).length cap2) (litB d d.size)∧Old w1 w11∧w1.heap.size≤g2):=by
   intro g2 cap2 w11 h1 h2 h3
   rw[Nat.zero_add,List.nil_append] at h1
   refine ⟨⟨_,_,rfl,h1⟩,(uh HO10).grown h2 (fun k hk e=>by cases e), ?_⟩
   rcases h3 with h|h
   ·cases h
   rw[h];exact (uh HO10).size
  obtain ⟨i0,hi0,hz0,hz1,hz2⟩:=info_parts infoB3
  clear ho10 H10 howB HO9 HO89 HO810 HGB8 HG8
  subst hlb
  generalize hBe:litB d d.size=Bd at*
  generalize hNe:Bd.length=nb at*
  have HBE:=hide hBe
  have HNE:=hide hNe
  clear hBe hNe hnb
  go_upto_region 34 with (at_builtin;refine wpList_append_lies _ rfl (.tmp 115) (.tmp 116) 33 rfl 0 3 i0 (.int .i64 0) 1 8 Tryz.underlying33 hi0 hz0 hz1 hz2 rfl (by omega) (.slice none 0 0) 0 _ rfl (uh HNIL) ⟨gB,0,none⟩ nb cpB (bitCells Bd) rfl hnl (uh HCB) hoc (by have:=uh HN3;omega) (by unfold maxLen;omega) (by omega) (by omega) _ rfl ?_;intro g2 cap2 w11 ho11 hg11 hl11 hlt11;have HX:=hide (uh HFIN g2 cap2 w11 ho11 hg11 hl11);clear ho11 hg11 hl11)
  obtain ⟨k1,hk1⟩: ∃k,pickN c 256=k:=⟨_,rfl⟩
  have hk1l:k1<256:=by rw[←hk1];exact pickN_lt _ (by omega)
  have H11:=hide (fun W=>kpick_any c hc1 hc2 256 (by omega) (by omega) W)
  rw[hk1] at H11
  have HNB:Hid (Bd.length≤3000):=by unfold Hid;rw[uh HNE];exact hnB
  have H12:Hid (Calls Tryz.prog 21 #[.slice (some ⟨g2,0,none⟩) nb cap2,.int .i64 (3+(k1:Int))] w11 fun r w' => ∃v',r=.returned v' ∧Grew w11 w' (.slice (some ⟨g2,0,none⟩) nb cap2) v' Bd (Bd++lenL (3+k1))):=by
   have:=symbolA (.slice (some ⟨g2,0,none⟩) nb cap2) Bd (3+k1) (by omega) (by omega) (by have:=uh HNB;omega) w11 (uh HX).1
   rw[Int.natCast_add] at this
   exact this
  have hll:(lenL (3+k1)).length≤20:=by
   obtain ⟨_,_,_,_,h⟩:=symOf_ok (3+k1) (by omega) (by omega)
   rw[lenL,List.length_append,symB_len,numB_len];omega
  have hdl:(dstL (d.size+1)).length≤20:=by
   have h:=cpy_len40 3 (d.size+1) (by omega) (by omega) (by omega) (by omega)
   obtain ⟨hd9,_,_⟩:=dsymOf_ok (d.size+1) (by omega) (by omega)
   have h2:dstBits (dsymOf (d.size+1))≤13:=of_decide_eq_true (List.all_eq_true.1 dstBits_le _ (List.mem_range.2 (by omega)))
   rw[dstL,List.length_append,numB_len,dstB,codeB_len];omega
  have H13:Hid (∀u W,IB W u (Bd++lenL (3+k1))→Calls Tryz.prog 22 #[u,.int .i64 ((d.size:Int)+1)] W fun r w' => ∃v',r=.returned v' ∧Grew W w' u v' (Bd++lenL (3+k1)) (Bd++lenL (3+k1)++dstL (d.size+1))):=by
   intro u W hu
   have:=distanceA u _ (d.size+1) (by omega) (by omega) (by rw[List.length_append];have:=uh HNB;omega) W hu
   rw[Int.natCast_add] at this
   exact this
  have HFB:Hid (Bd++lenL (3+k1)++dstL (d.size+1)++codeB 0 7=farB (lits d d.size) (3+k1) (d.size+1)):=by
   unfold Hid
   rw[←uh HBE,farB,tok_cpy,litB]
   simp only[List.cons_append,List.append_assoc]
   rfl
  have H14:Hid (∀u W,IB W u (Bd++lenL (3+k1)++dstL (d.size+1))→Calls Tryz.prog 23 #[u,.int .i64 0,.int .i64 7] W fun r w' => ∃v',r=.returned v' ∧Grew W w' u v' (Bd++lenL (3+k1)++dstL (d.size+1)) (farB (lits d d.size) (3+k1) (d.size+1))):=by
   intro u W hu
   have:=highA u _ 0 7 (by omega) (by omega) (by rw[List.length_append,List.length_append];have:=uh HNB;omega) W hu
   rw[uh HFB] at this
   exact this
  have HFL2:Hid ((farB (lits d d.size) (3+k1) (d.size+1)).length≤5000):=by
   unfold Hid;rw[←uh HFB,List.length_append,List.length_append,List.length_append,codeB_len];have:=uh HNB;omega
  have H15:=hide (fun v W h=>bitsA v (farB (lits d d.size) (3+k1) (d.size+1)) (farB_bin _ _ _) (by simp[farB]) (by have:=uh HFL2;omega) W h)
  have H16:Hid (∀W,Awk W→Calls Tryz.prog 17 #[.string ⟨(packB (farB (lits d d.size) (3+k1) (d.size+1))).toArray⟩] W fun r w' =>r=.returned (.tuple #[.string ⟨#[]⟩,.int .i64 (0:Nat),.int .i64 (2:Nat)])∧Old W w'):=by
   intro W hW
   have h:=valiseInflate_any ⟨(packB (farB (lits d d.size) (3+k1) (d.size+1))).toArray⟩ (by rw[mk_size,packB_len];have:=uh HFL2;omega) W hW.2.1
   rw[infl_far (lits_ok d (by omega) _ (Nat.le_refl _)) (by omega) (by omega) (by omega) (by omega) (by rw[lits_run d _ (Nat.le_refl _),List.length_take,Array.length_toList];have:d.data.size=d.size:=rfl;omega)] at h
   exact h
  clear hk1 hll hdl
  go_wp2_with fail
  refine (uh H11 _).mono ?_
  rintro r w12 ⟨rfl,rfl⟩
  go_wp2_with fail
  refine (uh H12).mono ?_
  rintro r w13 ⟨v13,rfl,hg13⟩
  have HG13:=hide hg13
  have H17:=hide (uh H13 v13 w13 hg13.buf)
  clear H11 H12 H13 hg13
  go_wp2_with fail
  refine (uh H17).mono ?_
  rintro r w14 ⟨v14,rfl,hg14⟩
  have HG14:=hide ((uh HG13).trans hg14 (by rw[List.length_append];omega))
  have H18:=hide (uh H14 v14 w14 hg14.buf)
  clear H17 H14 hg14 HG13
  go_wp2_with fail
  refine (uh H18).mono ?_
  rintro r w15 ⟨v15,rfl,hg15⟩
  have HG15:=hide ((uh HG14).trans hg15 (by rw[List.length_append,List.length_append];omega))
  have H19:=hide (uh H15 v15 w15 hg15.buf)
  clear H18 H15 hg15 HG14
  generalize ByteArray.mk (packB (farB (lits d d.size) (3+k1) (d.size+1))).toArray=pq at*
  go_wp2_with fail
  refine (uh H19).mono ?_
  rintro r w16 ⟨rfl,ho16⟩
  have HO16:Hid (Old w1 w16):=((uh HX).2.1.transNew (uh HG15).only (fun k hk h=>absurd hk (by (have h2:g2=k:=Option.some.inj (show some g2=some k from h));(have h3:=(uh HX).2.2);omega))).trans ho16
  have H20:=hide (uh H16 w16 ((uh HW1).old (uh HO16)))
  clear H19 ho16 H16 HG15
  go_wp2_with fail
  refine (uh H20).mono ?_
  rintro r w17 ⟨rfl,ho17⟩
  have HOF:Hid (Old w w17):=Only.trans (uh HO1) (Only.trans (uh HO16) ho17)
  clear H20 ho17
  go_wp2_with fail
  go_ret
  exact ⟨rfl,HOF⟩
 have t1:¬(j:Int)- 1<(m:Int):=by omega
 have hbl:=(uh HC).bits
 have H5:=hide (highA u10 (1::1::0::toksB T) 0 7 (by omega) (by omega) (by simp only[List.length_cons];omega) wr (uh HG1).buf)
 have HFX:Hid (1::1::0::toksB T++codeB 0 7=fixB T):=rfl
 rw[uh HFX] at H5
 have hfl:(fixB T).length≤5000:=by simp only[fixB,List.length_cons,List.length_append,symB_len];have:=fixN_le 256;omega
 have HFL:=hide hfl
 have H6:=hide (fun v W h=>bitsA v (fixB T) (fixB_bin T) (by simp[fixB]) (by have:=uh HFL;omega) W h)
 have H7:Hid (∀W,Awk W→Calls Tryz.prog 17 #[.string ⟨(packB (fixB T)).toArray⟩] W fun r w' =>r=.returned (.tuple #[.string ⟨(T.foldl runT []).toArray⟩,.int .i64 (packB (fixB T)).length,.int .i64 (0:Nat)])∧Old W w'):=by
  intro W hW
  have h:=valiseInflate_any ⟨(packB (fixB T)).toArray⟩ (by simp[ByteArray.size,packB_len];have:=uh HFL;omega) W hW.2.1
  have h2:=infl_fix (T:=T) (rest:=[]) (uh HC).ok
  rw[List.append_nil] at h2
  rw[h2] at h
  exact h
 clear hbl hfl
 go_wp2_with fail
 refine (uh H5).mono ?_
 rintro r w8 ⟨v8,rfl,hg8⟩
 have HG8:=hide ((uh HG1).trans hg8 (by simp))
 have HGB8:=hide ((uh HGB1).trans hg8 (by have:=(uh HC).more;simp only[List.length_cons];omega))
 have H8:=hide (uh H6 v8 w8 hg8.buf)
 clear H5 hg8 HG1 HGB1 H6
 generalize ByteArray.mk (packB (fixB T)).toArray=pz at*
 generalize (packB (fixB T)).length=pn at*
 go_wp2_with fail
 refine (uh H8).mono ?_
 rintro r w9 ⟨rfl,ho9⟩
 have HO9:Hid (Old w1 w9):=((uh HG8).only.mono (fun _ _ h=>by cases h)).trans ho9
 have H10:=hide (uh H7 w9 ((uh HW1).old (uh HO9)))
 have HO89:=hide ho9
 clear H8 H7 ho9
 go_wp2_with fail
 refine (uh H10).mono ?_
 rintro r w10 ⟨rfl,ho10⟩
 have HO10:=hide (Only.trans (uh HO9) ho10)
 have HO810:=hide (Only.trans (uh HO89) ho10)
 obtain ⟨aoB,cpB,hlb,howB⟩:=(uh HG).buf
 have hnb:3≤(litB d d.size).length:=by simp only[litB,List.length_cons];omega
 obtain ⟨gB,hgB⟩: ∃gB,aoB=some ⟨gB,0,none⟩:=by
  rcases howB.2 with ⟨_,h⟩|⟨gB,c',cu,hv,_⟩
  ·omega
  rw[hlb] at hv;injection hv with hv;exact ⟨gB,hv⟩
 subst hgB
 have HCB:Hid (∀i u,(bitCells (litB d d.size))[i]? =some u→w10.cell? ((⟨gB,0,none⟩:Addr).add i)=some u):=by
  intro i u hu
  have hi:i<(litB d d.size).length:=by
   rcases Nat.lt_or_ge i (litB d d.size).length with h|h
   ·exact h
   rw[List.getElem?_eq_none (by rw[bitCells_len];exact h)] at hu;cases hu
  have h1:=howB.cells (g:=gB) (by rw[hlb];rfl) i u hu
  have hgl:gB<wb.heap.size:=by
   obtain ⟨cu,hg⟩:=own_heap howB (b:=gB) (by rw[hlb];rfl)
   exact (Array.getElem?_eq_some_iff.1 hg).1
  rw[Addr.add_lit] at h1 ⊢
  have h2:=(uh HGB8).keep gB (0+i) hgl (fun _=>by omega)
  exact ((uh HO810).cell (p:=⟨gB,0+i,none⟩) (Nat.lt_of_lt_of_le hgl (uh HGB8).only.size) (fun x=>x)).trans (h2.trans h1)
 have hnl:(bitCells (litB d d.size)).length=(litB d d.size).length*1:=by rw[bitCells_len,Nat.mul_one]
 have hnB:(litB d d.size).length≤3000:=by have:=litB_len d d.size;omega
 have hoc: ∀u∈bitCells (litB d d.size),u.oneCell' =true:=by intro u hu;simp[bitCells] at hu;obtain ⟨b,_,rfl⟩:=hu;rfl
 have HNIL:=hide (World.ownsRow_nil w10 0 3 1)
 have HN3:=hide hnb
 have HFIN:Hid (∀g2 cap2 w11,w11.ownsRow 0 3 1 (.slice (some ⟨g2,0,none⟩) (0+(litB d d.size).length) cap2) (0+(litB d d.size).length) ([]++bitCells (litB d d.size))→w10.grownBy w11 (Value.slice none 0 0).ownBlock→((Value.slice none 0 0).ownBlock=some g2∨g2=w10.heap.size)→IB w11 (.slice (some ⟨g2,0,none⟩) (litB d d.size).length cap2) (litB d d.size)∧Old w1 w11∧w1.heap.size≤g2):=by
  intro g2 cap2 w11 h1 h2 h3
  rw[Nat.zero_add,List.nil_append] at h1
  refine ⟨⟨_,_,rfl,h1⟩,(uh HO10).grown h2 (fun k hk e=>by cases e), ?_⟩
  rcases h3 with h|h
  ·cases h
  rw[h];exact (uh HO10).size
 obtain ⟨i0,hi0,hz0,hz1,hz2⟩:=info_parts infoB3
 clear ho10 H10 howB HO9 HO89 HO810 HGB8 HG8
 subst hlb
 generalize hBe:litB d d.size=Bd at*
 generalize hNe:Bd.length=nb at*
 have HBE:=hide hBe
 have HNE:=hide hNe
 clear hBe hNe hnb
 go_upto_region 34 with (at_builtin;refine wpList_append_lies _ rfl (.tmp 115) (.tmp 116) 33 rfl 0 3 i0 (.int .i64 0) 1 8 Tryz.underlying33 hi0 hz0 hz1 hz2 rfl (by omega) (.slice none 0 0) 0 _ rfl (uh HNIL) ⟨gB,0,none⟩ nb cpB (bitCells Bd) rfl hnl (uh HCB) hoc (by have:=uh HN3;omega) (by unfold maxLen;omega) (by omega) (by omega) _ rfl ?_;intro g2 cap2 w11 ho11 hg11 hl11 hlt11;have HX:=hide (uh HFIN g2 cap2 w11 ho11 hg11 hl11);clear ho11 hg11 hl11)
 obtain ⟨k1,hk1⟩: ∃k,pickN c 256=k:=⟨_,rfl⟩
 have hk1l:k1<256:=by rw[←hk1];exact pickN_lt _ (by omega)
 have H11:=hide (fun W=>kpick_any c hc1 hc2 256 (by omega) (by omega) W)
 rw[hk1] at H11
 have HNB:Hid (Bd.length≤3000):=by unfold Hid;rw[uh HNE];exact hnB
 have H12:Hid (Calls Tryz.prog 21 #[.slice (some ⟨g2,0,none⟩) nb cap2,.int .i64 (3+(k1:Int))] w11 fun r w' => ∃v',r=.returned v' ∧Grew w11 w' (.slice (some ⟨g2,0,none⟩) nb cap2) v' Bd (Bd++lenL (3+k1))):=by
  have:=symbolA (.slice (some ⟨g2,0,none⟩) nb cap2) Bd (3+k1) (by omega) (by omega) (by have:=uh HNB;omega) w11 (uh HX).1
  rw[Int.natCast_add] at this
  exact this
 have hll:(lenL (3+k1)).length≤20:=by
  obtain ⟨_,_,_,_,h⟩:=symOf_ok (3+k1) (by omega) (by omega)
  rw[lenL,List.length_append,symB_len,numB_len];omega
 have hdl:(dstL (d.size+1)).length≤20:=by
  have h:=cpy_len40 3 (d.size+1) (by omega) (by omega) (by omega) (by omega)
  obtain ⟨hd9,_,_⟩:=dsymOf_ok (d.size+1) (by omega) (by omega)
  have h2:dstBits (dsymOf (d.size+1))≤13:=of_decide_eq_true (List.all_eq_true.1 dstBits_le _ (List.mem_range.2 (by omega)))
  rw[dstL,List.length_append,numB_len,dstB,codeB_len];omega
 have H13:Hid (∀u W,IB W u (Bd++lenL (3+k1))→Calls Tryz.prog 22 #[u,.int .i64 ((d.size:Int)+1)] W fun r w' => ∃v',r=.returned v' ∧Grew W w' u v' (Bd++lenL (3+k1)) (Bd++lenL (3+k1)++dstL (d.size+1))):=by
  intro u W hu
  have:=distanceA u _ (d.size+1) (by omega) (by omega) (by rw[List.length_append];have:=uh HNB;omega) W hu
  rw[Int.natCast_add] at this
  exact this
 have HFB:Hid (Bd++lenL (3+k1)++dstL (d.size+1)++codeB 0 7=farB (lits d d.size) (3+k1) (d.size+1)):=by
  unfold Hid
  rw[←uh HBE,farB,tok_cpy,litB]
  simp only[List.cons_append,List.append_assoc]
  rfl
 have H14:Hid (∀u W,IB W u (Bd++lenL (3+k1)++dstL (d.size+1))→Calls Tryz.prog 23 #[u,.int .i64 0,.int .i64 7] W fun r w' => ∃v',r=.returned v' ∧Grew W w' u v' (Bd++lenL (3+k1)++dstL (d.size+1)) (farB (lits d d.size) (3+k1) (d.size+1))):=by
  intro u W hu
  have:=highA u _ 0 7 (by omega) (by omega) (by rw[List.length_append,List.length_append];have:=uh HNB;omega) W hu
  rw[uh HFB] at this
  exact this
 have HFL2:Hid ((farB (lits d d.size) (3+k1) (d.size+1)).length≤5000):=by
  unfold Hid;rw[←uh HFB,List.length_append,List.length_append,List.length_append,codeB_len];have:=uh HNB;omega
 have H15:=hide (fun v W h=>bitsA v (farB (lits d d.size) (3+k1) (d.size+1)) (farB_bin _ _ _) (by simp[farB]) (by have:=uh HFL2;omega) W h)
 have H16:Hid (∀W,Awk W→Calls Tryz.prog 17 #[.string ⟨(packB (farB (lits d d.size) (3+k1) (d.size+1))).toArray⟩] W fun r w' =>r=.returned (.tuple #[.string ⟨#[]⟩,.int .i64 (0:Nat),.int .i64 (2:Nat)])∧Old W w'):=by
  intro W hW
  have h:=valiseInflate_any ⟨(packB (farB (lits d d.size) (3+k1) (d.size+1))).toArray⟩ (by rw[mk_size,packB_len];have:=uh HFL2;omega) W hW.2.1
  rw[infl_far (lits_ok d (by omega) _ (Nat.le_refl _)) (by omega) (by omega) (by omega) (by omega) (by rw[lits_run d _ (Nat.le_refl _),List.length_take,Array.length_toList];have:d.data.size=d.size:=rfl;omega)] at h
  exact h
 clear hk1 hll hdl
 go_wp2_with fail
 refine (uh H11 _).mono ?_
 rintro r w12 ⟨rfl,rfl⟩
 go_wp2_with fail
 refine (uh H12).mono ?_
 rintro r w13 ⟨v13,rfl,hg13⟩
 have HG13:=hide hg13
 have H17:=hide (uh H13 v13 w13 hg13.buf)
 clear H11 H12 H13 hg13
 go_wp2_with fail
 refine (uh H17).mono ?_
 rintro r w14 ⟨v14,rfl,hg14⟩
 have HG14:=hide ((uh HG13).trans hg14 (by rw[List.length_append];omega))
 have H18:=hide (uh H14 v14 w14 hg14.buf)
 clear H17 H14 hg14 HG13
 go_wp2_with fail
 refine (uh H18).mono ?_
 rintro r w15 ⟨v15,rfl,hg15⟩
 have HG15:=hide ((uh HG14).trans hg15 (by rw[List.length_append,List.length_append];omega))
 have H19:=hide (uh H15 v15 w15 hg15.buf)
 clear H18 H15 hg15 HG14
 generalize ByteArray.mk (packB (farB (lits d d.size) (3+k1) (d.size+1))).toArray=pq at*
 go_wp2_with fail
 refine (uh H19).mono ?_
 rintro r w16 ⟨rfl,ho16⟩
 have HO16:Hid (Old w1 w16):=((uh HX).2.1.transNew (uh HG15).only (fun k hk h=>absurd hk (by (have h2:g2=k:=Option.some.inj (show some g2=some k from h));(have h3:=(uh HX).2.2);omega))).trans ho16
 have H20:=hide (uh H16 w16 ((uh HW1).old (uh HO16)))
 clear H19 ho16 H16 HG15
 go_wp2_with fail
 refine (uh H20).mono ?_
 rintro r w17 ⟨rfl,ho17⟩
 have HOF:Hid (Old w w17):=Only.trans (uh HO1) (Only.trans (uh HO16) ho17)
 clear H20 ho17
 go_wp2_with fail
 go_ret
 exact ⟨rfl,HOF⟩
end Go.Proofs.YtndfmgdhiallpaaGreatDoor
