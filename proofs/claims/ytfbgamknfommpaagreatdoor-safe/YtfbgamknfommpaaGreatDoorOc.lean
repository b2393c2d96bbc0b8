import Derived.Test.YtfbgamknfommpaaGreatDoorKf
import Derived.Test.YtfbgamknfommpaaGreatDoorOb
set_option maxRecDepth 100000
set_option maxHeartbeats 2000000
namespace Go.Proofs.YtfbgamknfommpaaGreatDoor.dk
open Go.RowKit
theorem row_kept{S:Nat→Prop}{w w' :World}{base:Nat}{e:TypeId}{s n:Nat}{v:Value}{xs:List Value}(h:w.ownsRow base e s v n xs)(ho:Only S w w')(hs: ∀k,v.ownBlock=some k→¬S k):w'.ownsRow base e s v n xs:=by
 obtain ⟨h1,h2|⟨g,cap,cur,rfl,h3,h4,h5⟩⟩:=h
 ·exact ⟨h1,.inl h2⟩
 exact ⟨h1,.inr ⟨g,cap,cur,rfl,h3,(ho.block g (Array.getElem?_eq_some_iff.1 h4).1 (hs g rfl)).trans h4,h5⟩⟩
theorem row_lt{w:World}{base:Nat}{e:TypeId}{s n:Nat}{v:Value}{xs:List Value}(h:w.ownsRow base e s v n xs): ∀k,v.ownBlock=some k→base≤k∧k<w.heap.size:=by
 obtain ⟨h1,⟨rfl,_⟩|⟨g,cap,cur,rfl,h3,h4,h5⟩⟩:=h
 ·intro k hk;cases hk
 intro k hk
 injection hk with hk
 subst hk
 exact ⟨h3,(Array.getElem?_eq_some_iff.1 h4).1⟩
theorem Thg.block_lt{w:World}{v:Value}{ts:List Th}(h:Thg w v ts): ∀k,v.ownBlock=some k→k<w.heap.size:=by
 rcases h with ⟨rfl,_⟩|⟨g,cap,cur,rfl,hg,_⟩
 ·intro k hk;cases hk
 intro k hk
 injection hk with hk
 subst hk
 exact (Array.getElem?_eq_some_iff.1 hg).1
def TurnS(w w' :World)(b:Nat)(v:Value)(D:Dsk)(l:Value):Prop:=
 ∃v',DiskAt w' b v' D∧Only (fun k=>k=b∨v.ownBlock=some k) w w' ∧(v'.ownBlock=v.ownBlock∨ ∀k,v'.ownBlock=some k→w.heap.size≤k)∧ ∀k,l.ownBlock=some k→v'.ownBlock≠some k∧k≠b
theorem TurnS.turn{w w' :World}{b:Nat}{v:Value}{D:Dsk}{l:Value}(h:TurnS w w' b v D l):Turn w w' b v D:=by
 obtain ⟨v',h1,h2,h3,_⟩:=h
 exact ⟨v',h1,h2,h3⟩
theorem TurnS.next{w w1 w2:World}{b:Nat}{v v1:Value}{D2:Dsk}{l:Value}(h2:Only (fun k=>k=b∨v.ownBlock=some k) w w1)(h3:v1.ownBlock=v.ownBlock∨ ∀k,v1.ownBlock=some k→w.heap.size≤k)(h4: ∀k,l.ownBlock=some k→v1.ownBlock≠some k∧k≠b)(hl: ∀k,l.ownBlock=some k→k<w1.heap.size)(ht:Turn w1 w2 b v1 D2):TurnS w w2 b v D2 l∧Only (fun k=>k=b∨v1.ownBlock=some k) w1 w2:=by
 obtain ⟨v2,k1,k2,k3⟩:=ht
 refine ⟨⟨v2,k1,h2.transNew k2 ?_, ?_,fun k hk=>⟨fun e=> ?_,(h4 k hk).2⟩⟩,k2⟩
 ·rintro i hi (e|e)
  ·exact .inl e
  rcases h3 with h3|h3
  ·exact .inr (h3 ▸ e)
  have:=h3 i e;omega
 ·rcases k3 with k3|k3
  ·rcases h3 with h3|h3
   ·exact .inl (k3.trans h3)
   exact .inr (k3 ▸ h3)
  exact .inr fun k hk=>Nat.le_trans h2.size (k3 k hk)
 rcases k3 with k3|k3
 ·exact (h4 k hk).1 (k3 ▸ e)
 have h5:=k3 k e
 have h6:=hl k hk
 omega
theorem nth_sz{C:Nat}{D:Dsk}(h:Dok C D): ∀k,k<D.ts.length→(nth D.ts k).p.size≤1000000000000:=fun k hk=>Nat.le_trans (h.sz _ (nth_mem hk)) (by omega)
def nmAt(l:List ByteArray)(i:Nat):ByteArray:=l.getD i ⟨#[]⟩
theorem nmAt_mem{l:List ByteArray}{i:Nat}(h:i<l.length):nmAt l i∈l:=by
 rw[nmAt,List.getD_eq_getElem?_getD,List.getElem?_eq_getElem h];exact List.getElem_mem h
theorem nmAt_take{l:List ByteArray}{i:Nat}(h:i<l.length):l.take (i+1)=l.take i++[nmAt l i]:=by
 rw[List.take_add_one,List.getElem?_eq_getElem h,nmAt,List.getD_eq_getElem?_getD,List.getElem?_eq_getElem h];rfl
theorem names_cell{w:World}{base g cap:Nat}{l:List ByteArray}(h:w.ownsRow base 9 1 (.slice (some ⟨g,0,none⟩) l.length cap) l.length (l.map Value.string))(i:Nat)(hi:i<l.length):w.cell? ⟨g,i,none⟩=some (.string (nmAt l i)):=by
 have:=World.ownsRow.cells h (g:=g) rfl i (.string (nmAt l i)) (by rw[List.getElem?_map,nmAt,List.getD_eq_getElem?_getD,List.getElem?_eq_getElem hi];rfl)
 rw[Addr.add_lit,Nat.zero_add] at this
 exact this
theorem names_shape{w:World}{base n:Nat}{v:Value}{xs:List Value}(h:w.ownsRow base 9 1 v n xs): ∃ao cap,v=.slice ao n cap∧(0<n→ ∃g,ao=some ⟨g,0,none⟩):=by
 obtain ⟨h1,⟨rfl,h2⟩|⟨g,cap,cur,rfl,h3,h4,h5⟩⟩:=h
 ·exact ⟨none,0,by rw[h2],by omega⟩
 exact ⟨_,cap,rfl,fun _=>⟨g,rfl⟩⟩
theorem removeA(C:Nat): ∀(n:Nat) (D:Dsk) (p:ByteArray) (b:Nat) (v:Value) (w:World),DiskAt w b v D→Dok C D→bl p≠[]→p.size≤1000→cnt D.ts p≤n→
 Calls Tryz.prog 64 #[.pointer (some ⟨b,0,none⟩),.string p] w fun e w' => ∃r D',e=.returned (.bool r)∧Rem C D p r D' ∧Turn w w' b v D' :=by
 intro n
 induction n with
 |zero=>
  intro D p b v w hd hok hp hps hc
  have h0:isOf D.ts p=0:=isOf_no (cnt_zero (by omega))
  have H1:=hide (is_disk hd p (by have:=hok.len;omega))
  rw[h0] at H1
  have HD:=hide hd
  have HR:=hide (Rem.none hok hp h0)
  clear hd hok h0
  go_in
  go_wp2_with fail
  refine (uh H1).mono ?_
  rintro e w1 ⟨rfl,m,rfl⟩
  go_wp2_with fail
  go_ret
  exact ⟨true,D,rfl,HR,v,(uh HD).drewN m,((Only.refl _ w).drewN m),.inl rfl⟩
 |succ n ih=>
  intro D p b v w hd hok hp hps hc
  have hl1000:=hok.len
  have H1:=hide (is_disk hd p (by omega))
  have HD:=hide hd
  have HOK:=hide hok
  by_cases h0:isOf D.ts p=0
  ·rw[h0] at H1
   have HR:=hide (Rem.none hok hp h0)
   clear hd hok h0
   go_in
   go_wp2_with fail
   refine (uh H1).mono ?_
   rintro e w1 ⟨rfl,m,rfl⟩
   go_wp2_with fail
   go_ret
   exact ⟨true,D,rfl,HR,v,(uh HD).drewN m,((Only.refl _ w).drewN m),.inl rfl⟩
  obtain ⟨t,ht,hte⟩:=isOf_ne h0
  have HT:Hid (t∈D.ts∧t.p=p):=⟨ht,hte⟩
  have HIH:=hide ih
  have HC:=hide hc
  clear hd hok ht hte ih hc
  generalize isOf D.ts p=io at*
  have h0b:(io==0)=false:=by rw[beq_eq_false_iff_ne];exact h0
  go_in
  go_wp2_with fail
  refine (uh H1).mono ?_
  rintro e w1 ⟨rfl,m,rfl⟩
  clear H1
  have HN:=hide (names_disk ((uh HD).drewN m) p (by omega) (by omega) (nth_sz (uh HOK)))
  go_wp2_with fail
  refine (uh HN).mono ?_
  rintro e w2 ⟨l,rfl,hrow,ho2⟩
  clear HN
  obtain ⟨ao,cap,rfl,hao⟩:=names_shape hrow
  have HLT:=hide (row_lt hrow)
  have HROW:=hide hrow
  have HNM:Hid (∀nm∈namesL D.ts p,∃c∈D.ts,c.p=inP p nm):=fun nm hm=>by
   obtain ⟨c,h1,_,h3,_⟩:=names_mem (uh HOK).wf hp hm
   exact ⟨c,h1,h3⟩
  have HTS:Hid (TurnS w w2 b v D (.slice ao (namesL D.ts p).length cap)):=by
   have hb:=(uh HD).lt
   have hvb:=(uh HD).2.1.block_lt
   refine ⟨v,((uh HD).drewN m).kept ho2 (fun x=>x) (fun _ _ x=>x),((Only.refl _ w).drewN m).transNew ho2 (fun _ _ x=>x.elim),.inl rfl,fun k hk=> ?_⟩
   have h5:=(row_lt hrow k hk).1
   have h6:w.heap.size≤k:=h5
   exact ⟨fun e=>by have:=hvb k e;omega,by omega⟩
  have hnl:(namesL D.ts p).length≤1000:=by
   unfold namesL
   split
   ·rw[namesOf,List.length_map];exact Nat.le_trans (List.length_filter_le _ _) hl1000
   simp
  have HPT:=hide (Part.start (uh HOK) p)
  have HDN:=hide (fun D1 hx=>Part.done (D1:=D1) hp (uh HOK) (uh HT).1 (uh HT).2 hx)
  have HST:=hide (fun D1 l' (hx:Part C D p l' D1)=>hx.still (uh HT).1 (uh HT).2)
  have HCL:=hide (fun nm=>cnt_less (nm:=nm) (uh HT).1 (uh HT).2)
  clear hrow ho2
  generalize namesL D.ts p=L at*
  generalize okN D.ts p=okb at*
  go_wp2_with fail
  go_loopw [8,21] (fun _ x wr=> ∃(i:Nat) (Di:Dsk),i≤L.length∧x=.int .i64 i∧Hid (TurnS w wr b v Di (.slice ao L.length cap))∧Hid (Part C D p (L.take i) Di)∧Hid (wr.ownsRow w.heap.size 9 1 (.slice ao L.length cap) L.length (L.map Value.string))) (fun _ x _=>L.length- (intOf x).toNat)
  ·exact ⟨0,D,by omega,rfl,HTS,HPT,HROW⟩
  obtain ⟨i,Di,hi,rfl,HTS,HPT,HROW⟩:=hrel
  by_cases hil:i<L.length
  ·have hilI:(i:Int)<(L.length:Int):=by omega
   obtain ⟨g,hg⟩:=hao (by omega)
   subst hg
   have hcell:=names_cell (uh HROW) i hil
   obtain ⟨c,hc1,hc3⟩:=uh HNM (nmAt L i) (nmAt_mem hil)
   have hcs:(inP p (nmAt L i)).size≤1000:=by rw[←hc3];exact (uh HOK).sz c hc1
   have hcs2:=inP_size p (nmAt L i)
   obtain ⟨v1,hd1,ho1,hv1,hs1⟩:=uh HTS
   have hcn:cnt Di.ts (inP p (nmAt L i))≤n:=by
    have h1:=cnt_sub (uh HPT).sub (inP p (nmAt L i))
    have h2:=uh HCL (nmAt L i)
    have h3:=uh HC
    omega
   have HREC:=hide (uh HIH Di (inP p (nmAt L i)) b v1 wr hd1 (uh HPT).ok (by rw[bl_inP];simp) hcs hcn)
   have HTK:=hide (nmAt_take hil)
   have HNX:=hide (fun w2 D2 ht=>TurnS.next (w2:=w2) (D2:=D2) ho1 hv1 hs1 (fun k hk=>(row_lt (uh HROW) k hk).2) ht)
   have HS1:=hide hs1
   have HNXT:Hid (∀D2,Rem C Di (inP p (nmAt L i)) true D2→Part C D p (L.take (i+1)) D2):=fun D2 h=>by rw[uh HTK];exact (uh HPT).next h
   have HSTP:Hid (∀D2,Rem C Di (inP p (nmAt L i)) false D2→Rem C D p false D2):=fun D2 h=>(uh HPT).stop h
   clear hd1 ho1 hv1 hs1 hc1 hc3 hcn
   have hpn:p++⟨#[47]⟩++nmAt L i=inP p (nmAt L i):=rfl
   generalize inP p (nmAt L i)=q at*
   generalize nmAt L i=nm at*
   go_wp2_with fail
   refine (uh HREC).mono ?_
   rintro e w3 ⟨r,D3,rfl,hrem,htn⟩
   obtain ⟨hts,hon⟩:=uh HNX w3 D3 htn
   have HR3:=hide (row_kept (uh HROW) hon (fun k hk e=>by
    rcases e with e|e
    ·exact (uh HS1 k hk).2 e
    exact (uh HS1 k hk).1 e))
   have HT3:=hide hts
   cases r with
   |true=>
    have HP3:Hid (Part C D p (L.take (i+1)) D3):=uh HNXT D3 hrem
    clear hrem htn hts hon HREC HTS HPT HROW hcell
    go_wp2_with fail
    go_roundw
    ·exact ⟨i+1,D3,by omega,by go_num,HT3,HP3,HR3⟩
    case measure=>simp[intOf];omega
   |false=>
    have HP3:Hid (Rem C D p false D3):=uh HSTP D3 hrem
    clear hrem htn hts hon HREC HTS HPT HROW hcell
    go_wp2_with fail
    go_ret
    exact ⟨false,D3,rfl,HP3,(uh HT3).turn⟩
  have hilI:¬(i:Int)<(L.length:Int):=by omega
  have hie:i=L.length:=by omega
  subst hie
  rw[List.take_length] at HPT
  obtain ⟨v1,hd1,ho1,hv1,hs1⟩:=uh HTS
  have HRM:=hide (remove_disk hd1 p (by omega) (by have:=(uh HPT).ok.len;omega))
  have HFN:=hide (uh HDN Di (uh HPT))
  have HTU:Hid (∀w2 D2,Turn wr w2 b v1 D2→Turn w w2 b v D2):=fun w2 D2 ht=>(TurnS.next ho1 hv1 hs1 (fun k hk=>(row_lt (uh HROW) k hk).2) ht).1.turn
  clear hd1 ho1 hv1 hs1 HTS HPT HROW
  generalize (removeOf Di p).1=rc at*
  generalize (removeOf Di p).2=D3 at*
  go_wp2_with fail
  refine (uh HRM).mono ?_
  rintro e w3 ⟨rfl,htn⟩
  have HT3:=hide (uh HTU w3 D3 htn)
  clear htn HRM HTU
  by_cases hrc:rc=0
  ·subst hrc
   go_wp2_with fail
   go_ret
   exact ⟨true,D3,rfl,HFN,HT3⟩
  have hrb:(rc==0)=false:=by rw[beq_eq_false_iff_ne];exact hrc
  have HF2:Hid (Rem C D p false D3):=by have h:=uh HFN;rw[decide_eq_false hrc] at h;exact h
  go_wp2_with fail
  go_ret
  exact ⟨false,D3,rfl,HF2,HT3⟩
end Go.Proofs.YtfbgamknfommpaaGreatDoor.dk
namespace Go.Proofs.YtfbgamknfommpaaGreatDoor
open Go.RowKit Go.Maps
theorem toM{S:Nat→Prop}{a b:World}(h:dk.Only S a b):Only S a b:=⟨h.os,h.tape,h.output,h.size,h.block⟩
theorem toD{S:Nat→Prop}{a b:World}(h:Only S a b):dk.Only S a b:=⟨h.os,h.tape,h.output,h.size,h.block⟩
def Chg(w w' :World)(b:Nat)(v:Value)(D:dk.Dsk)(S R:Nat→Prop):Prop:=
 ∃v',dk.DiskAt w' b v' D∧Only (fun k=>(k=b∨v.ownBlock=some k)∨S k) w w' ∧(v'.ownBlock=v.ownBlock∨ ∀k,v'.ownBlock=some k→w.heap.size≤k)∧ ∀k,R k→v'.ownBlock≠some k∧k≠b
theorem Chg.turn{w w1 w2:World}{b:Nat}{v v1:Value}{D2:dk.Dsk}{S R:Nat→Prop}(h2:Only (fun k=>(k=b∨v.ownBlock=some k)∨S k) w w1)(h3:v1.ownBlock=v.ownBlock∨ ∀k,v1.ownBlock=some k→w.heap.size≤k)(h4: ∀k,R k→v1.ownBlock≠some k∧k≠b)(hl: ∀k,R k→k<w1.heap.size)(ht:dk.Turn w1 w2 b v1 D2):Chg w w2 b v D2 S R∧Only (fun k=>k=b∨v1.ownBlock=some k) w1 w2:=by
 obtain ⟨v2,k1,k2,k3⟩:=ht
 refine ⟨⟨v2,k1,h2.transNew (toM k2) ?_, ?_,fun k hk=>⟨fun e=> ?_,(h4 k hk).2⟩⟩,toM k2⟩
 ·rintro i hi (e|e)
  ·exact .inl (.inl e)
  rcases h3 with h3|h3
  ·exact .inl (.inr (h3 ▸ e))
  have:=h3 i e;omega
 ·rcases k3 with k3|k3
  ·rcases h3 with h3|h3
   ·exact .inl (k3.trans h3)
   exact .inr (k3 ▸ h3)
  exact .inr fun k hk=>Nat.le_trans h2.size (k3 k hk)
 rcases k3 with k3|k3
 ·exact (h4 k hk).1 (k3 ▸ e)
 have h5:=k3 k e
 have h6:=hl k hk
 omega
theorem Chg.other{w w1 w2:World}{b:Nat}{v:Value}{D:dk.Dsk}{S R T:Nat→Prop}(h:Chg w w1 b v D S R)(ho:Only T w1 w2)(h1: ∀k,T k→R k)(h2: ∀k,k<w.heap.size→T k→S k):Chg w w2 b v D S R:=by
 obtain ⟨v1,k1,k2,k3,k4⟩:=h
 exact ⟨v1,k1.kept (toD ho) (fun x=>(k4 b (h1 b x)).2 rfl) (fun k hk x=>(k4 k (h1 k x)).1 hk),k2.transNew ho (fun i hi x=> .inr (h2 i hi x)),k3,k4⟩
theorem Chg.old{w w1 w2:World}{b:Nat}{v:Value}{D:dk.Dsk}{S R:Nat→Prop}(h:Chg w w1 b v D S R)(ho:Old w1 w2):Chg w w2 b v D S R:=by
 obtain ⟨v1,k1,k2,k3,k4⟩:=h
 exact ⟨v1,k1.kept (toD ho) (fun x=>x) (fun k hk x=>x),k2.transNew ho (fun i hi x=>x.elim),k3,k4⟩
abbrev pfT:TypeId:=175
theorem FoAt.lookP{w:World}{gm n:Nat}{L:List ByteArray}(h:FoAt w gm n L)(r:ByteArray)(hr:r.size≤maxLen):(Instr.lookup pfT (.map (some gm)) (.string r) true).run Tryz.prog w=.ok (.tuple #[.agg #[],.bool (memL L r)]) w:=by
 obtain ⟨h0,D,h1,h2⟩:=h
 obtain ⟨v,ps,hrun,hv⟩:=h1.look_ok strKeyed Tryz.underlying175 (z:=.agg #[]) (by kernel_rfl) unitElem_mk (key9 r hr)
 rw[hrun,h2 r,(unitElem_inv hv).1]
theorem FoAt.putP{w:World}{gm n:Nat}{L:List ByteArray}(h:FoAt w gm n L)(r:ByteArray)(hr:r.size≤maxLen)(hn:n<maxLen): ∃w',(Instr.mapUpdate pfT (.map (some gm)) (.string r) (.agg #[])).run Tryz.prog w=.ok () w' ∧FoAt w' gm (n+1) (L++[r])∧Only (fun k=>k=gm) w w' :=by
 obtain ⟨h0,D,h1,h2⟩:=h
 obtain ⟨w2,hrun,hown2,hg2⟩:=h1.update strKeyed Tryz.underlying175 hn (key9 r hr) unitElem_mk
 refine ⟨w2,hrun,⟨fun x hx=> ?_,_,hown2,fun q=> ?_⟩,(Only.refl _ w).grown hg2 (fun k _ e=>(Option.some.inj e).symm)⟩
 ·rcases List.mem_append.1 hx with hx|hx
  ·exact h0 x hx
  rw[List.mem_singleton] at hx;subst hx;exact hr
 by_cases e:q=r
 ·subst e
  rw[has_put_same h1.isMap (keyL _),memL_snoc,decide_eq_true rfl,Bool.or_true]
 have hne:=lit_ne (show q≠r from e)
 rw[has_put_other hne,h2 q,memL_snoc,decide_eq_false (fun x=>e x.symm),Bool.or_false]
def fosAt(f i:Nat):ByteArray:=(dk.fos f).getD i ⟨#[]⟩
theorem fosAt_mem{f i:Nat}(h:i<(dk.fos f).length):fosAt f i∈dk.fos f:=by
 rw[fosAt,List.getD_eq_getElem?_getD,List.getElem?_eq_getElem h];exact List.getElem_mem h
theorem fos_qr{f:Nat}(hf:f<4): ∀i,i<(dk.fos f).length→fosAt f i=dk.foqr→ ∃j,j<i∧fosAt f j=dk.foq:=by
 have h:(List.range 4).all (fun f=>(List.range 3).all fun i=>decide (i<(dk.fos f).length→fosAt f i=dk.foqr→(List.range i).any (fun j=>decide (fosAt f j=dk.foq))=true))=true:=by kernel_rfl
 have hl:(List.range 4).all (fun f=>decide ((dk.fos f).length≤2))=true:=by kernel_rfl
 intro i hi he
 have h1:=of_decide_eq_true (List.all_eq_true.1 hl f (List.mem_range.2 hf))
 have h2:=of_decide_eq_true (List.all_eq_true.1 (List.all_eq_true.1 h f (List.mem_range.2 hf)) i (List.mem_range.2 (by omega))) hi he
 obtain ⟨j,hj,h3⟩:=List.any_eq_true.1 h2
 exact ⟨j,List.mem_range.1 hj,of_decide_eq_true h3⟩
def MadeP(C:Nat)(D0:dk.Dsk)(P:ByteArray)(fs:List Fl)(f:Nat)(w w' :World)(b gm:Nat)(v:Value)(e:Ending):Prop:=
 ∃D',Chg w w' b v D' (fun k=>k=gm) (fun k=>k=gm)∧((e=.returned (.bool true)∧ ∃L',dk.Wr C D0 P L' fs D' ∧(∀fo∈dk.fos f,fo∈L')∧FoAt w' gm L'.length L')∨(e=.returned (.bool false)∧dk.Fail C D0 P D'))
theorem makeForA{C:Nat}{D0 D:dk.Dsk}{P:ByteArray}{L:List ByteArray}{fs:List Fl}(hs:dk.Site P)(hb:dk.Bare C P D0)(hwr:dk.Wr C D0 P L fs D)(hl:fs.length≤20)(hN: ∀f∈fs,dk.Nm f.1){n f:Nat}(hn:n<26)(hf:f<4){w:World}{b gm:Nat}{v:Value}(hd:dk.DiskAt w b v D)(hgm:v.ownBlock≠some gm∧gm≠b)(hfo:FoAt w gm L.length L):
 Calls Tryz.prog 148 #[.map (some gm),.pointer (some ⟨b,0,none⟩),.string P,.string (nmP n f)] w fun e w' =>MadeP C D0 P fs f w w' b gm v e:=by
 have hNm:dk.Nm (nmP n f):=⟨n,f,hn,hf,rfl⟩
 have HF:=hide (foldersA (nmP n f) (by have:=hNm.size;omega) w)
 rw[dk.folP_nm hn hf] at HF
 have hPs:=hs.size
 have HS:=hide hs
 have HB:=hide hb
 have HN:=hide hN
 have HG:=hide hgm
 have HFS:=hide (dk.fos_sub hf)
 have HQR:=hide (fos_qr hf)
 have HD0:=hide hd
 have HW0:=hide hwr
 have HM0:=hide hfo
 have hgl:=hfo.lt
 have HVB:=hide (hd.2.1.block_lt)
 have hbl:=hd.lt
 have hfl:(dk.fos f).length≤2:=by
  have hl:(List.range 4).all (fun f=>decide ((dk.fos f).length≤2))=true:=by kernel_rfl
  exact of_decide_eq_true (List.all_eq_true.1 hl f (List.mem_range.2 hf))
 clear hs hb hwr hN hgm hfo hNm hd
 generalize nmP n f=nm at*
 go_in
 go_wp2_with fail
 refine (uh HF).mono ?_
 rintro e w1 ⟨vF,rfl,hst,ho1⟩
 have HRB:Hid (∀k,vF.ownBlock=some k→w.heap.size≤k):=by obtain ⟨_,_,_,_,h⟩:=hst;exact h
 have HST:=hide hst
 have HD1:Hid (dk.DiskAt w1 b v D):=(uh HD0).kept (toD ho1) (fun x=>x) (fun _ _ x=>x)
 have HO1:Hid (Old w w1):=ho1
 have HM1:=hide ((uh HM0).old ho1)
 obtain ⟨fo,fc,rfl, -, -⟩:=hst
 obtain ⟨R,hR⟩: ∃R:Nat→Prop,R=fun k=>k=gm∨(Value.slice fo (dk.fos f).length fc).ownBlock=some k:=⟨_,rfl⟩
 have HCR:Hid (Chg w w1 b v D (fun k=>k=gm) R):=by
  refine ⟨v,uh HD1,(uh HO1).mono (fun _ _ x=>x.elim),.inl rfl,fun k hk=> ?_⟩
  rw[hR] at hk
  rcases hk with hk|hk
  ·subst hk;exact uh HG
  have h1:=uh HRB k hk
  exact ⟨fun e=>by have:=uh HVB k e;omega,by omega⟩
 have HRW:Hid (∀W k,FoAt W gm 0 []∨gm<W.heap.size→Strs w W (.slice fo (dk.fos f).length fc) (dk.fos f)→R k→k<W.heap.size):=by
  intro W k hg hst hk
  rw[hR] at hk
  rcases hk with hk|hk
  ·subst hk
   rcases hg with hg|hg
   ·exact hg.lt
   exact hg
  obtain ⟨_,_,_,h2,_⟩:=hst
  exact (dk.row_lt h2 k hk).2
 have HRG:Hid (R gm):=by unfold Hid;rw[hR];exact .inl rfl
 have HRS:Hid (∀k,(Value.slice fo (dk.fos f).length fc).ownBlock=some k→R k):=by intro k hk;rw[hR];exact .inr hk
 have HRN:Hid (∀k,R k→k=gm∨w.heap.size≤k):=by
  intro k hk
  rw[hR] at hk
  rcases hk with hk|hk
  ·exact .inl hk
  exact .inr (uh HRB k hk)
 clear ho1 HF HM0 HD0 HD1 HO1 hR
 go_wp2_with fail
 go_loopw [10,11,12,16] (fun _ _ _ x wr=> ∃(i:Nat) (Li:List ByteArray) (Di:dk.Dsk),i≤(dk.fos f).length∧x=.int .i64 i∧Hid (dk.Wr C D0 P Li fs Di)∧Hid (∀j,j<i→fosAt f j∈Li)∧Hid (FoAt wr gm Li.length Li)∧Hid (Chg w wr b v Di (fun k=>k=gm) R)∧Hid (Strs w wr (.slice fo (dk.fos f).length fc) (dk.fos f))) (fun _ _ _ x _=>(dk.fos f).length- (intOf x).toNat)
 ·exact ⟨0,L,D,by omega,rfl,HW0,(fun j hj=>absurd hj (by omega)),HM1,HCR,HST⟩
 obtain ⟨i,Li,Di,hi,rfl,HW,HJ,HM,HC,HT⟩:=hrel
 clear HW0 HM1 HCR HST
 by_cases hil:i<(dk.fos f).length
 ·have hilI:(i:Int)<((dk.fos f).length:Int):=by omega
  obtain ⟨g,cap,hve,hcell, -, -⟩:=(uh HT).cell i hil
  injection hve with hq1 hq2 hq3
  subst hq1 hq3
  have hfe:(dk.fos f)[i]=fosAt f i:=by rw[fosAt,List.getD_eq_getElem?_getD,List.getElem?_eq_getElem hil];rfl
  rw[hfe] at hcell
  have hfm:=fosAt_mem hil
  have hfL:=uh HFS _ hfm
  have hfz:(fosAt f i).size≤6:=by
   have h1: ∀x∈foL,x.size≤6:=by decide
   exact h1 _ hfL
  have hlk:=(uh HM).lookP (fosAt f i) (by unfold maxLen;omega)
  have HQ:Hid (fosAt f i=dk.foqr→dk.foq∈Li):=fun e=>by
   obtain ⟨j,hj,he⟩:=uh HQR i hil e
   rw[←he];exact uh HJ j hj
  have HJ2:Hid (∀Lx:List ByteArray,(∀y∈Li,y∈Lx)→fosAt f i∈Lx→ ∀j,j<i+1→fosAt f j∈Lx):=fun Lx h1 h2 j hj=>by
   by_cases e:j=i
   ·rw[e];exact h2
   exact h1 _ (uh HJ j (by omega))
  have HLi:Hid (Li.length≤4):=dk.nodup_len Li foL (uh HW).nod (uh HW).sub
  clear hfe hfm hq2
  cases hmm:memL Li (fosAt f i) with
  |true=>
   rw[hmm] at hlk
   have HJ3:=hide (uh HJ2 Li (fun y hy=>hy) (memL_iff.1 hmm))
   clear hmm HJ HJ2
   have hA:Old wr (wr.alloc (.cells #[] 126)):=(Only.refl _ wr).alloc _
   have HM2:=hide ((uh HM).old hA)
   have HC2:=hide ((uh HC).old hA)
   have HT2:=hide ((uh HT).old hA)
   clear hA
   go_wp2_with fail
   clear hlk hcell
   go_roundw
   ·exact ⟨i+1,Li,Di,by omega,by go_num,HW,HJ3,HM2,HC2,HT2⟩
   case measure=>simp[intOf];omega
  |false=>
   rw[hmm] at hlk
   have hnm:fosAt f i∉Li:=fun h=>by rw[memL_iff.2 h] at hmm;cases hmm
   have HJ3:=hide (uh HJ2 (Li++[fosAt f i]) (fun y hy=>List.mem_append_left _ hy) (List.mem_append_right _ (List.mem_singleton.2 rfl)))
   have HPUT:=hide ((uh HW).folder (uh HS) (uh HB) hl (uh HN) hfL hnm (uh HQ))
   have HWD:Hid (∀D2,dk.Put C Di (dk.foTh P (fosAt f i)) 0 D2→dk.Wr C D0 P (Li++[fosAt f i]) fs D2):=fun D2 h=>(uh HW).foldered hfL hnm (uh HQ) h
   have HFL:Hid (∀r D2,dk.Put C Di (dk.foTh P (fosAt f i)) r D2→r≠0→dk.Fail C D0 P D2):=fun r D2 h hr=>(uh HW).fail h hr
   have hlen:=(uh HW).few (uh HB) hl
   have hA:Old wr (wr.alloc (.cells #[] 126)):=(Only.refl _ wr).alloc _
   have HM2:=hide ((uh HM).old hA)
   have HT2:=hide ((uh HT).old hA)
   obtain ⟨v1,k1,k2,k3,k4⟩:=(uh HC).old hA
   have hqs:=dk.inP_size P (fosAt f i)
   have HMK:=hide (dk.mkdir_disk k1 (dk.inP P (fosAt f i)) (by omega) (by omega))
   have HTN:Hid (∀w2 D2,dk.Turn (wr.alloc (.cells #[] 126)) w2 b v1 D2→Chg w w2 b v D2 (fun k=>k=gm) R∧Only (fun k=>k=b∨v1.ownBlock=some k) (wr.alloc (.cells #[] 126)) w2):=fun w2 D2 ht=>Chg.turn k2 k3 k4 (fun k hk=>uh HRW _ k (.inr (uh HM2).lt) (uh HT2) hk) ht
   have HK4:Hid (∀k,R k→¬(k=b∨v1.ownBlock=some k)):=fun k hk e=>by
    rcases e with e|e
    ·exact (k4 k hk).2 e
    exact (k4 k hk).1 e
   have hpn:P++⟨#[47]⟩++fosAt f i=dk.inP P (fosAt f i):=rfl
   clear hA k1 k2 k3 k4 HM HT HC hmm HJ HJ2 hqs
   generalize (dk.mkdirOf Di (dk.inP P (fosAt f i))).1=rc at*
   generalize (dk.mkdirOf Di (dk.inP P (fosAt f i))).2=D2 at*
   generalize dk.foTh P (fosAt f i)=th at*
   generalize dk.inP P (fosAt f i)=q at*
   generalize fosAt f i=fi at*
   go_wp2_with fail
   refine (uh HMK).mono ?_
   rintro e w3 ⟨rfl,htn⟩
   obtain ⟨hch,hon⟩:=uh HTN w3 D2 htn
   have HM3:=hide ((uh HM2).kept hon (uh HK4 gm (uh HRG)))
   have HT3:Hid (Strs w w3 (.slice (some ⟨g,0,none⟩) (dk.fos f).length fc) (dk.fos f)):=by
    obtain ⟨ao,cap,h1,h2,h3⟩:=uh HT2
    exact ⟨ao,cap,h1,dk.row_kept h2 (toD hon) (fun k hk=>uh HK4 k (uh HRS k hk)),h3⟩
   have HC3:=hide hch
   clear htn hch hon HMK HTN HM2 HT2 hlk hcell hpn
   by_cases hrc:rc=0
   ·subst hrc
    have HW3:=hide (uh HWD D2 (uh HPUT))
    obtain ⟨w4,hup,hm4,ho4⟩:=(uh HM3).putP fi (by unfold maxLen;omega) (by have:=uh HLi;unfold maxLen;omega)
    have HM4:Hid (FoAt w4 gm (Li++[fi]).length (Li++[fi])):=by rw[List.length_append];exact hm4
    have HC4:=hide ((uh HC3).other ho4 (fun k hk=>by subst hk;exact uh HRG) (fun k _ hk=>hk))
    have HT4:=hide ((uh HT3).kept ho4 (fun k hk e=>by omega))
    clear hm4 ho4 HM3 HT3 HC3 HWD HFL HPUT
    go_wp2_with fail
    clear hup
    go_roundw
    ·exact ⟨i+1,Li++[fi],D2,by omega,by go_num,HW3,HJ3,HM4,HC4,HT4⟩
    case measure=>simp[intOf];omega
   have hrb:(rc !=0)=true:=by rw[bne_iff_ne];exact hrc
   have hrd:(rc==0)=false:=by rw[beq_eq_false_iff_ne];exact hrc
   have HF3:=hide (uh HFL rc D2 (uh HPUT) hrc)
   go_wp2_with fail
   go_ret
   refine ⟨D2, ?_,.inr ⟨rfl,HF3⟩⟩
   obtain ⟨v4,q1,q2,q3,q4⟩:=uh HC3
   exact ⟨v4,q1,q2,q3,fun k hk=>q4 k (by subst hk;exact uh HRG)⟩
 have hilI:¬(i:Int)<((dk.fos f).length:Int):=by omega
 have hie:i=(dk.fos f).length:=by omega
 have HAL:Hid (∀x∈dk.fos f,x∈Li):=fun x hx=>by
  obtain ⟨j,hj,e⟩:=List.getElem_of_mem hx
  have h1:=uh HJ j (by omega)
  rw[fosAt,List.getD_eq_getElem?_getD,List.getElem?_eq_getElem hj] at h1
  rw[←e];exact h1
 clear hie
 go_wp2_with fail
 go_ret
 refine ⟨Di, ?_,.inl ⟨rfl,Li,HW,HAL,HM⟩⟩
 obtain ⟨v4,q1,q2,q3,q4⟩:=uh HC
 exact ⟨v4,q1,q2,q3,fun k hk=>q4 k (by subst hk;exact uh HRG)⟩
theorem Chg.go{w w1 w2:World}{b:Nat}{v v1:Value}{D2:dk.Dsk}{S R T Q:Nat→Prop}(h2:Only (fun k=>(k=b∨v.ownBlock=some k)∨S k) w w1)(h3:v1.ownBlock=v.ownBlock∨ ∀k,v1.ownBlock=some k→w.heap.size≤k)(h4: ∀k,R k→v1.ownBlock≠some k∧k≠b)(hl: ∀k,R k→k<w1.heap.size)(hT: ∀k,k<w.heap.size→T k→S k)(ht:Chg w1 w2 b v1 D2 T Q):Chg w w2 b v D2 S R∧Only (fun k=>(k=b∨v1.ownBlock=some k)∨T k) w1 w2:=by
 obtain ⟨v2,k1,k2,k3,_⟩:=ht
 refine ⟨⟨v2,k1,h2.transNew k2 ?_, ?_,fun k hk=>⟨fun e=> ?_,(h4 k hk).2⟩⟩,k2⟩
 ·rintro i hi ((e|e)|e)
  ·exact .inl (.inl e)
  ·rcases h3 with h3|h3
   ·exact .inl (.inr (h3 ▸ e))
   have:=h3 i e;omega
  exact .inr (hT i hi e)
 ·rcases k3 with k3|k3
  ·rcases h3 with h3|h3
   ·exact .inl (k3.trans h3)
   exact .inr (k3 ▸ h3)
  exact .inr fun k hk=>Nat.le_trans h2.size (k3 k hk)
 rcases k3 with k3|k3
 ·exact (h4 k hk).1 (k3 ▸ e)
 have h5:=k3 k e
 have h6:=hl k hk
 omega
theorem FilesAt.row{w:World}{v:Value}{fs:List Fl}(h:FilesAt w v fs)(hp:0<w.heap.size): ∃ao cap g,v=.slice ao fs.length cap∧g<w.heap.size∧(0<fs.length→ao=some ⟨g,0,none⟩)∧ ∀j,j<fs.length→w.cell? ⟨g,j*2,none⟩=some (.string (fs.getD j default).1)∧w.cell? ⟨g,j*2+1,none⟩=some (.string (fs.getD j default).2):=by
 by_cases h0:0<fs.length
 ·obtain ⟨g,cap,rfl,h1,h2⟩:=h.slice h0
  exact ⟨_,cap,g,rfl,h1,fun _=>rfl,h2⟩
 have e:fs.length=0:=by omega
 obtain ⟨_,⟨rfl,_⟩|⟨g,cap,cur,rfl,_⟩⟩:=h
 ·exact ⟨none,0,0,by rw[e],hp,by omega,by omega⟩
 exact ⟨_,cap,0,rfl,hp,by omega,by omega⟩
structure Fils (fs:List Fl):Prop where
 form: ∀f∈fs,dk.Nm f.1∧f.2.size≤600
 apart:fs.Pairwise (fun a b=>a.1≠b.1)
 len:fs.length≤20
theorem Fils.new{fs:List Fl}(h:Fils fs)(i:Nat)(hi:i<fs.length): ∀g∈fs.take i,g.1≠(fs.getD i default).1:=by
 intro g hg
 obtain ⟨j,hj,rfl⟩:=List.getElem_of_mem hg
 have hji:j<i:=by rw[List.length_take] at hj;omega
 have h1:=List.pairwise_iff_getElem.1 h.apart j i (by omega) hi hji
 rw[List.getElem_take,List.getD_eq_getElem?_getD,List.getElem?_eq_getElem hi]
 exact h1
theorem fl_take(fs:List Fl)(i:Nat)(h:i<fs.length):fs.take (i+1)=fs.take i++[fs.getD i default]:=by
 rw[List.take_add_one,List.getElem?_eq_getElem h,List.getD_eq_getElem?_getD,List.getElem?_eq_getElem h];rfl
def WroteP(C:Nat)(D0:dk.Dsk)(P:ByteArray)(fs:List Fl)(w w' :World)(b:Nat)(v:Value)(e:Ending):Prop:=
 ∃D',dk.Turn w w' b v D' ∧((e=.returned (.bool true)∧ ∃L,dk.Wr C D0 P L fs D')∨(e=.returned (.bool false)∧dk.Fail C D0 P D'))
theorem Chg.shut{w w' :World}{b:Nat}{v:Value}{D:dk.Dsk}{R:Nat→Prop}(h:Chg w w' b v D (fun k=>w.heap.size≤k) R):dk.Turn w w' b v D:=by
 obtain ⟨v1,k1,k2,k3,_⟩:=h
 exact ⟨v1,k1,toD (k2.mono (fun k hk e=>e.elim id (fun x=>absurd x (by omega)))),k3⟩
theorem writeAllA{C:Nat}{D0:dk.Dsk}{P:ByteArray}{fs:List Fl}(hs:dk.Site P)(hb:dk.Bare C P D0)(hfs:Fils fs){w:World}{b:Nat}{v vf:Value}(hd:dk.DiskAt w b v D0)(hv:FilesAt w vf fs)(hsep: ∀k,vf.ownBlock=some k→v.ownBlock≠some k∧k≠b):
 Calls Tryz.prog 103 #[.pointer (some ⟨b,0,none⟩),.string P,vf] w fun e w' =>WroteP C D0 P fs w w' b v e:=by
 obtain ⟨ao,cap,g,rfl,hgl,hao,hcl⟩:=hv.row (Nat.lt_of_le_of_lt (Nat.zero_le _) hd.lt)
 have hPs:=hs.size
 have hl20:=hfs.len
 have hlen0:=hb.len
 have HS:=hide hs
 have HB:=hide hb
 have HFS:=hide hfs
 have HP0:=hide (dk.start_put hs hb)
 have HMK:=hide (dk.mkdir_disk hd P (by omega) (by omega))
 have HVB:=hide (hd.2.1.block_lt)
 have HAO:=hide hao
 have HCL:=hide hcl
 have hbl:=hd.lt
 obtain ⟨R,hR⟩: ∃R:Nat→Prop,R=fun k=>(Value.slice ao fs.length cap).ownBlock=some k:=⟨_,rfl⟩
 have HR0:Hid (∀k,R k→v.ownBlock≠some k∧k≠b):=by intro k hk;rw[hR] at hk;exact hsep k hk
 have HRL:Hid (∀k,R k→k<w.heap.size):=by intro k hk;rw[hR] at hk;exact (dk.row_lt hv k hk).2
 have HRV:Hid (ao=some ⟨g,0,none⟩→R g):=by intro e;rw[hR,e];rfl
 have HST:Hid (∀W v1 D1,Only (fun k=>(k=b∨v.ownBlock=some k)∨w.heap.size≤k) w W→dk.DiskAt W b v1 D1→True):=fun _ _ _ _ _=>trivial
 clear HST hs hb hfs hao hcl hsep hR hd hv
 generalize hrc:(dk.mkdirOf D0 P).1=rc at*
 generalize (dk.mkdirOf D0 P).2=D1 at*
 clear hrc
 go_in
 go_wp2_with fail
 refine (uh HMK).mono ?_
 rintro e w1 ⟨rfl,htn⟩
 have HT1:=hide htn
 clear htn HMK
 by_cases hr0:rc=0
 ·subst hr0
  have HW1:=hide (dk.Wr.start (uh HP0))
  obtain ⟨v1,k1,k2,k3⟩:=uh HT1
  have hsz1:=k2.size
  have HC1:Hid (Chg w (w1.alloc (.map #[] 0)) b v D1 (fun k=>w.heap.size≤k) (fun k=>R k∨k=w1.heap.size)):=by
   have hA:Old w1 (w1.alloc (.map #[] 0)):=(Only.refl _ w1).alloc _
   have hv1l:=k1.2.1.block_lt
   have hb1:=k1.lt
   refine ⟨v1,k1.kept (toD hA) (fun x=>x) (fun _ _ x=>x),((toM k2).mono (fun k _ e=> .inl e)).transNew hA (fun _ _ x=>x.elim),k3,fun k hk=> ?_⟩
   rcases hk with hk|hk
   ·refine ⟨fun e=> ?_,(uh HR0 k hk).2⟩
    rcases k3 with k3|k3
    ·exact (uh HR0 k hk).1 (k3 ▸ e)
    have h1:=k3 k e;have h2:=uh HRL k hk;omega
   subst hk
   exact ⟨fun e=>by have:=hv1l _ e;omega,by omega⟩
  have HM1:Hid (FoAt (w1.alloc (.map #[] 0)) w1.heap.size ([]:List ByteArray).length []):=FoAt.made w1
  have HWZ:Hid (w.heap.size≤w1.heap.size):=hsz1
  have hmm:= @run_makeMap Tryz.prog
  clear k1 k2 k3 hsz1 HT1 HP0
  go_wp2_with fail
  clear hmm
  generalize hgm:w1.heap.size=gm at*
  clear hgm
  go_loopw [9,17] (fun _ x wr=> ∃(i:Nat) (Li:List ByteArray) (Di:dk.Dsk),i≤fs.length∧x=.int .i64 i∧Hid (dk.Wr C D0 P Li (fs.take i) Di)∧Hid (FoAt wr gm Li.length Li)∧Hid (Chg w wr b v Di (fun k=>w.heap.size≤k) (fun k=>R k∨k=gm))) (fun _ x _=>fs.length- (intOf x).toNat)
  ·exact ⟨0,[],D1,by omega,rfl,HW1,HM1,HC1⟩
  obtain ⟨i,Li,Di,hi,rfl,HW,HM,HC⟩:=hrel
  clear HW1 HM1 HC1
  by_cases hil:i<fs.length
  ·have hilI:(i:Int)<(fs.length:Int):=by omega
   have hao:=uh HAO (by omega)
   subst hao
   obtain ⟨v2,k1,k2,k3,k4⟩:=uh HC
   have hgS:¬((g=b∨v.ownBlock=some g)∨w.heap.size≤g):=by
    have h1:=uh HR0 g (uh HRV rfl)
    rintro ((e|e)|e)
    ·exact h1.2 e
    ·exact h1.1 e
    omega
   have hc0:=(k2.cell (p:=⟨g,i*2,none⟩) hgl hgS).trans (uh HCL i hil).1
   have hc1:=(k2.cell (p:=⟨g,i*2+1,none⟩) hgl hgS).trans (uh HCL i hil).2
   obtain ⟨hNm,hdz⟩:=(uh HFS).form _ (show fs.getD i default∈fs by rw[List.getD_eq_getElem?_getD,List.getElem?_eq_getElem hil];exact List.getElem_mem hil)
   have HNEW:=hide ((uh HFS).new i hil)
   have HTK:=hide (fl_take fs i hil)
   have htl:(fs.take i).length=i:=by rw[List.length_take];omega
   have HNT:Hid (∀f∈fs.take i,dk.Nm f.1):=fun f hf=>((uh HFS).form f (List.mem_of_mem_take hf)).1
   generalize fs.take i=ft at*
   generalize fs.getD i default=ff at*
   obtain ⟨nm,d⟩:=ff
   obtain ⟨n,f,hn,hf,hnm⟩:=hNm
   simp only at hnm hdz hc0 hc1 HNEW
   subst hnm
   obtain ⟨w3,hw3⟩: ∃w3,w3=wr.alloc (.cells #[.string (nmP n f),.string d] 56):=⟨_,rfl⟩
   have hA:Old wr w3:=by rw[hw3];exact (Only.refl _ wr).alloc _
   have hbx:w3.heap[wr.heap.size]? =some (.cells #[.string (nmP n f),.string d] 56 (0,0)):=by rw[hw3];exact Go.heap_alloc_new wr _
   have HBX:=hide hbx
   have hb0:w3.cell? ⟨wr.heap.size,0,none⟩=some (.string (nmP n f)):=by rw[cell_of_row _ _ 0 _ _ (0,0) hbx];rfl
   have HM3:=hide ((uh HM).old hA)
   have hgmw:=(uh HM).lt
   have k1' :=k1.kept (toD hA) (fun x=>x) (fun _ _ x=>x)
   have k2' :Only (fun k=>(k=b∨v.ownBlock=some k)∨w.heap.size≤k) w w3:=k2.transNew hA (fun _ _ x=>x.elim)
   have hvl:=k1.2.1.block_lt
   have hbw:=k1.lt
   have HMF:=hide (makeForA (uh HS) (uh HB) (uh HW) (by omega) (uh HNT) hn hf k1' (k4 gm (.inr rfl)) (uh HM3))
   have HGO:Hid (∀w4 D4,Chg w3 w4 b v2 D4 (fun k=>k=gm) (fun k=>k=gm)→Chg w w4 b v D4 (fun k=>w.heap.size≤k) (fun k=>(R k∨k=gm)∨k=wr.heap.size)∧Only (fun k=>(k=b∨v2.ownBlock=some k)∨k=gm) w3 w4):=fun w4 D4 h=>by
    refine Chg.go k2' k3 (fun k hk=> ?_) (fun k hk=> ?_) (fun k _ hk=>by rw[hk];exact uh HWZ) h
    ·rcases hk with hk|hk
     ·exact k4 k hk
     subst hk;exact ⟨fun e=>by have:=hvl _ e;omega,by omega⟩
    have hs3:=hA.size
    rcases hk with (hk|hk)|hk
    ·have h1:=uh HRL k hk;have h2:=k2'.size;omega
    ·subst hk;omega
    subst hk;exact (Array.getElem?_eq_some_iff.1 hbx).1
   have HVN:Hid (¬((wr.heap.size=b∨v2.ownBlock=some wr.heap.size)∨wr.heap.size=gm)):=by
    rintro ((e|e)|e)
    ·omega
    ·have:=hvl _ e;omega
    omega
   have HFI:Hid (∀L D,dk.Wr C D0 P L ft D→(∀fo∈dk.fos f,fo∈L)→dk.Put C D (dk.fiTh P (nmP n f,d)) (dk.writeOf D (dk.inP P (nmP n f)) d).1 (dk.writeOf D (dk.inP P (nmP n f)) d).2):=fun L D h hL=>h.file (uh HS) (uh HB) (by omega) hn hf hL (uh HNEW) d
   have hns:=dk.Nm.size ⟨n,f,hn,hf,rfl⟩
   have HBC:Hid (C≤1000000000):=(uh HB).ok.cap
   clear k1 k2 k3 k4 k1' k2' hA hbx HM HC HW hgmw hvl hbw
   have hw3' :=hw3.symm
   clear hw3
   generalize nmP n f=nm at*
   go_wp2_with fail
   refine (uh HMF).mono ?_
   rintro e w4 ⟨D4,hch,hres⟩
   obtain ⟨hc4,ho4⟩:=uh HGO w4 D4 hch
   have hbx4:=(ho4.block wr.heap.size (Array.getElem?_eq_some_iff.1 (uh HBX)).1 (uh HVN)).trans (uh HBX)
   have hx0:w4.cell? ⟨wr.heap.size,0,none⟩=some (.string nm):=by rw[cell_of_row _ _ 0 _ _ (0,0) hbx4];rfl
   have hx1:w4.cell? ⟨wr.heap.size,1,none⟩=some (.string d):=by rw[cell_of_row _ _ 1 _ _ (0,0) hbx4];rfl
   have hbl4:=(Array.getElem?_eq_some_iff.1 hbx4).1
   rcases hres with ⟨rfl,L4,hw4,hal,hfo4⟩|⟨rfl,hfl⟩
   ·obtain ⟨v4,q1,q2,q3,q4⟩:=hc4
    have hok:=hw4.ok
    have hrm:D4.room≤9223372036854775807:=by
     have:=uh HBC
     rcases hok.room with h|h
     ·omega
     omega
    have hqs:=dk.inP_size P nm
    have hln:=hok.len
    have HWT:=hide (dk.write_disk q1 (dk.inP P nm) d (by omega) (by omega) hrm (by omega))
    have HPUT:=hide (uh HFI L4 D4 hw4 hal)
    have HTN:Hid (∀w5 D5,dk.Turn w4 w5 b v4 D5→Chg w w5 b v D5 (fun k=>w.heap.size≤k) (fun k=>R k∨k=gm)∧FoAt w5 gm L4.length L4):=fun w5 D5 ht=>by
     obtain ⟨h1,h2⟩:=Chg.turn q2 q3 q4 (fun k hk=>by
      rcases hk with (hk|hk)|hk
      ·have h1:=uh HRL k hk;have h2:=q2.size;omega
      ·rw[hk];exact hfo4.lt
      rw[hk];exact hbl4) ht
     refine ⟨?_,hfo4.kept h2 (fun e=> ?_)⟩
     ·obtain ⟨v5,p1,p2,p3,p4⟩:=h1
      exact ⟨v5,p1,p2,p3,fun k hk=>p4 k (.inl hk)⟩
     rcases e with e|e
     ·exact (q4 gm (.inl (.inr rfl))).2 e
     exact (q4 gm (.inl (.inr rfl))).1 e
    have HFD:Hid (∀D5,dk.Put C D4 (dk.fiTh P (nm,d)) 0 D5→dk.Wr C D0 P L4 (fs.take (i+1)) D5):=fun D5 h=>by rw[uh HTK];exact hw4.filed h
    have HFL:Hid (∀r D5,dk.Put C D4 (dk.fiTh P (nm,d)) r D5→r≠0→dk.Fail C D0 P D5):=fun r D5 h hr=>hw4.fail h hr
    have hpn:P++⟨#[47]⟩++nm=dk.inP P nm:=rfl
    clear hok hqs hch hw4 hal hfo4 q1 q2 q3 q4 ho4 hbx4 HMF HGO HVN HFI hrm hln hbl4 HBX HM3 hc0 hc1 hb0
    generalize (dk.writeOf D4 (dk.inP P nm) d).1=rc at*
    generalize (dk.writeOf D4 (dk.inP P nm) d).2=D5 at*
    generalize dk.fiTh P (nm,d)=th at*
    generalize dk.inP P nm=q at*
    go_wp2_with fail
    refine (uh HWT).mono ?_
    rintro e w5 ⟨rfl,htn⟩
    obtain ⟨hc5,hf5⟩:=uh HTN w5 D5 htn
    have HC5:=hide hc5
    have HM5:=hide hf5
    clear htn hc5 hf5 HTN HWT hx0 hx1 hpn
    by_cases hrc:rc=0
    ·subst hrc
     have HW5:=hide (uh HFD D5 (uh HPUT))
     go_wp2_with fail
     go_roundw
     ·exact ⟨i+1,L4,D5,by omega,by go_num,HW5,HM5,HC5⟩
     case measure=>simp[intOf];omega
    have hrb:(rc !=0)=true:=by rw[bne_iff_ne];exact hrc
    have hrd:(rc==0)=false:=by rw[beq_eq_false_iff_ne];exact hrc
    have HF5:=hide (uh HFL rc D5 (uh HPUT) hrc)
    go_wp2_with fail
    go_ret
    exact ⟨D5,(uh HC5).shut,.inr ⟨rfl,HF5⟩⟩
   have HF4:=hide hfl
   have HC4:=hide hc4.shut
   clear hch hc4 hfl ho4 hbx4 HMF HGO HVN HFI HBX HM3 hc0 hc1 hb0
   go_wp2_with fail
   go_ret
   exact ⟨D4,HC4,.inr ⟨rfl,HF4⟩⟩
  have hilI:¬(i:Int)<(fs.length:Int):=by omega
  have hie:i=fs.length:=by omega
  subst hie
  rw[List.take_length] at HW
  go_wp2_with fail
  go_ret
  exact ⟨Di,(uh HC).shut,.inl ⟨rfl,Li,HW⟩⟩
 have hrb:(rc !=0)=true:=by rw[bne_iff_ne];exact hr0
 have hrd:(rc==0)=false:=by rw[beq_eq_false_iff_ne];exact hr0
 have HF1:=hide (dk.start_fail (P:=P) (uh HP0) hr0)
 go_wp2_with fail
 go_ret
 exact ⟨D1,HT1,.inr ⟨rfl,HF1⟩⟩
end Go.Proofs.YtfbgamknfommpaaGreatDoor
