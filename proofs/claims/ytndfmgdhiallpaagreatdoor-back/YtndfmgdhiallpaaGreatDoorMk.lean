import Derived.Test.YtndfmgdhiallpaaGreatDoorMj
set_option maxRecDepth 100000
set_option maxHeartbeats 4000000
namespace Go.Proofs.YtndfmgdhiallpaaGreatDoor
open Go.RowKit
def OrdAt(w:World):Prop:=1<w.heap.size∧ ∀j,j<19→w.cell? ⟨1,j,none⟩=some (.int .i64 (orderL.getD j 0:Nat))
theorem OrdAt.kept{S:Nat→Prop}{w w' :World}(h:OrdAt w)(ho:Only S w w')(hs:¬S 1):OrdAt w' :=
 ⟨Nat.lt_of_lt_of_le h.1 ho.size,fun j hj=>(ho.cell (p:=⟨1,j,none⟩) h.1 hs).trans (h.2 j hj)⟩
theorem zeros_any{n:Nat}(j:Nat)(h:j<(List.replicate n 0).length):(madeCells #[Value.int .i64 0] n)[j]? =some (.int .i64 ((List.replicate n 0).getD j 0:Nat)):=by
 rw[List.length_replicate] at h
 have e:(List.replicate n 0).getD j 0=0:=by
  rw[List.getD_eq_getElem?_getD,List.getElem?_replicate];split<;>rfl
 rw[e]
 simp[madeCells,h,Nat.mod_one]
theorem rowSetC(g:Nat)(hgo:g≠1)(s:ByteArray)(hs:s.size≤140737488355328)(a:Nat)(o:Value)(k:Nat)(hk:k≤19)(ha:a≤8*s.size)(w:World)(hord:OrdAt w)(h:Up w g s a o):
 Calls Tryz.prog 243 #[.pointer (some ⟨g,0,none⟩),.int .i64 k] w fun r w' =>Only (fun k=>k=g) w w' ∧
  ((a+3*k≤8*s.size∧fitS (ownL s a k)=true∧Up w' g s (a+3*k) o∧ ∃gs:Nat,r=.returned (.tuple #[.pointer (some ⟨gs,0,none⟩),.bool true])∧SetAt w' gs (fun k=>w.heap.size≤k∧k<w'.heap.size) (ownL s a k))∨
   ((8*s.size<a+3*k∨fitS (ownL s a k)=false)∧r=.returned (.tuple #[.pointer none,.bool false]))):=by
 obtain ⟨i0,hi0,hz0,hz1,hz2⟩:=info_parts infoI3
 have hmk: ∀W:World,(Instr.makeSlice 33 (.int .i64 19) (.int .i64 19)).run Tryz.prog W=.ok (.slice (some ⟨W.heap.size,0,none⟩) 19 19) (W.alloc (.cells (madeCells #[.int .i64 0] 19) 3)):=by
  intro W
  have h:=run_make (P:=Tryz.prog) W 33 3 i0 (.int .i64 0) Tryz.underlying33 hi0 hz0 .i64 .i64 19 19 (by omega) (by omega) (by rw[hz2];decide) (by decide)
  rw[hz1] at h
  exact h
 have hgl:=h.lt
 have HR:=hide h
 have HORD:=hide hord
 have hA:Only (fun _=>False) w (w.alloc (.cells (madeCells #[.int .i64 0] 19) 3)):=(Only.refl _ w).alloc _
 have HUP0:=hide (h.kept hA (fun x=>x))
 have HOA:=hide (Only.oldS (S:=fun k=>k=g) hA)
 clear h hord hA
 go_in
 go_wp2_with fail
 clear hmk
 go_loopw [7,8,9,12] (fun _ _ _ z wr=> ∃i:Nat,i≤k∧z=.int .i64 i∧Hid (Up wr g s (a+3*i) o∧a+3*i≤8*s.size)∧Hid (Ints wr w.heap.size 0 (ownL s a i))∧Hid (Only (fun k=>k=g) w wr)) (fun _ _ _ z _=>k- (intOf z).toNat)
 ·exact ⟨0,by omega,rfl,⟨HUP0,by omega⟩,Ints.new w rfl (fun j hj=>zeros_any j hj),HOA⟩
 obtain ⟨i,hi,rfl,HU,HI,HO⟩:=hrel
 obtain ⟨hup,hle⟩:=uh HU
 by_cases hlt:i<k
 ·have hltI:(i:Int)<(k:Int):=by omega
  have HNC:=hide (numberC g s hs (a+3*i) o 3 (by omega) hle wr hup)
  clear hup HU
  go_wp2_with fail
  refine (uh HNC).mono ?_
  rintro r w1 ⟨ho1,hcs⟩
  clear HNC
  have HI1:=hide ((uh HI).kept ho1 (by omega))
  have hO1:=(uh HO).trans ho1
  have HO1:=hide hO1
  rcases hcs with ⟨hl1,rfl,hu1⟩|⟨hl1,rfl,hu1⟩
  ·have hco:=((uh HORD).kept hO1 (fun e=>hgo e.symm)).2 i (by omega)
   have hol:=order_lt i
   have hI1:=uh HI1
   have hlen:=ownL_len s a i
   have hce:=hI1.cell (j:=orderL.getD i 0) (by rw[hlen];exact hol)
   rw[Nat.zero_add] at hce
   have hth:=hI1.thaw (orderL.getD i 0)
   have HSI:=hide (hI1.set (i:=orderL.getD i 0) (by rw[hlen];exact hol) (numAt s (a+3*i) 3))
   have HOS:=hide (hO1.setCell (p:=⟨w.heap.size,orderL.getD i 0,none⟩) (fun hh=>absurd hh (Nat.lt_irrefl _)) (.int .i64 (numAt s (a+3*i) 3:Nat)))
   have HUS:=hide (hu1.kept (only_set w1 w.heap.size (orderL.getD i 0) (.int .i64 (numAt s (a+3*i) 3:Nat))) (by omega))
   have HNX:Hid ((ownL s a i).set (orderL.getD i 0) (numAt s (a+3*i) 3)=ownL s a (i+1)):=hide rfl
   generalize orderL.getD i 0=q at*
   generalize numAt s (a+3*i) 3=v at*
   generalize (ownL s a i).getD q 0=v0 at*
   have hqI:(q:Int)<19:=by omega
   have hi19:(i:Int)<19:=by omega
   clear hI1 hO1 hu1 ho1
   go_wp2_with fail
   go_roundw
   ·refine ⟨i+1,by omega,by go_num,⟨?_,by omega⟩, ?_,HOS⟩
    ·exact uh HUS
    rw[←uh HNX];exact uh HSI
   case measure=>simp[intOf];omega
  clear hO1 hu1 ho1
  go_wp2_with fail
  go_ret2
  exact ⟨HO1,.inr ⟨.inl (by omega),rfl⟩⟩
 have hltI:¬(i:Int)<(k:Int):=by omega
 have hie:i=k:=by omega
 subst hie
 have HUP:=hide hup
 have HLE:=hide hle
 have HF:=hide (fitC w.heap.size 0 19 (ownL s a i) (by rw[ownL_len];omega) (ownL_le s a i) wr (uh HI))
 have HM:=hide (makeC w.heap.size 0 19 (ownL s a i) (by rw[ownL_len];omega) (ownL_le s a i) wr (uh HI))
 rw[ownL_len] at HF HM
 have hws:=(uh HO).size
 clear hup hle HU HI
 by_cases hf:fitS (ownL s a i)=true
 ·rw[hf] at HF
  go_wp2_with fail
  refine (uh HF).mono ?_
  rintro r w1 ⟨rfl,rfl⟩
  go_wp2_with fail
  refine (uh HM).mono ?_
  rintro r w2 ⟨rfl,ho2,hS⟩
  have HO2:=hide ((uh HO).trans (Only.oldS ho2))
  have HUP2:=hide ((uh HUP).kept ho2 (fun x=>x))
  have HS:=hide (hS.mono (K' :=fun k=>w.heap.size≤k∧k<w2.heap.size) (fun k hk=>⟨by omega,hk.2⟩))
  clear ho2 hS HF HM
  have HFT:=hide hf
  clear hf
  go_wp2_with fail
  go_ret2
  exact ⟨HO2,.inl ⟨HLE,HFT,HUP2,_,rfl,HS⟩⟩
 have hff:fitS (ownL s a i)=false:=by simpa using hf
 rw[hff] at HF
 have HFT:=hide hff
 clear hf hff
 go_wp2_with fail
 refine (uh HF).mono ?_
 rintro r w1 ⟨rfl,rfl⟩
 clear HF HM
 go_wp2_with fail
 go_ret2
 exact ⟨HO,.inr ⟨.inr HFT,rfl⟩⟩
open Go.RowKit Go.Maps
theorem stepR_none{s:ByteArray}{C:List Nat}{many a:Nat}{l:List Nat}(h:dec s C a=none):stepR s C many a l=none:=by unfold stepR;rw[h]
theorem stepR_first{s:ByteArray}{C:List Nat}{many a a1:Nat}{l:List Nat}(h:dec s C a=some (16,a1))(hl:l.length=0):stepR s C many a l=none:=by unfold stepR;rw[h];simp[hl]
theorem stepR_cut{s:ByteArray}{C:List Nat}{many a a1 y:Nat}{l:List Nat}(h:dec s C a=some (y,a1))(hc:8*s.size<a1+rowBits y):stepR s C many a l=none:=by unfold stepR;rw[h];simp only[hc,if_true,ite_self]
theorem stepR_big{s:ByteArray}{C:List Nat}{many a a1 y t:Nat}{l:List Nat}(h:dec s C a=some (y,a1))(ht:rowBase y+numAt s a1 (rowBits y)=t)(hc:many<l.length+t):stepR s C many a l=none:=by unfold stepR;rw[h];simp only[ht,hc,if_true,ite_self]
theorem stepR_ok{s:ByteArray}{C:List Nat}{many a a1 y t:Nat}{l:List Nat}(h:dec s C a=some (y,a1))(h0:¬(y=16∧l.length=0))(hb:a1+rowBits y≤8*s.size)(ht:rowBase y+numAt s a1 (rowBits y)=t)(hc:¬many<l.length+t):
 stepR s C many a l=some (a1+rowBits y,l++List.replicate t (rowWhat y l)):=by
 unfold stepR;rw[h];simp only[h0,if_false,ht,hc,if_neg (show ¬8*s.size<a1+rowBits y by omega)]
theorem rowS_no{s:ByteArray}{C:List Nat}{many a:Nat}{l:List Nat}(h:l.length<many)(hs:stepR s C many a l=none):rowS s C many a l=none:=by rw[rowS_step h,hs]
theorem times_le(s:ByteArray)(a y:Nat):rowBase y+numAt s a (rowBits y)≤140:=by
 have h:=numAt_lt s a (rowBits y)
 have hb:rowBits y≤7:=by unfold rowBits;repeat (first|split|omega)
 have hp:2^rowBits y≤2^7:=Nat.pow_le_pow_right (by omega) hb
 have hB:rowBase y≤11:=by unfold rowBase;repeat (first|split|omega)
 omega
theorem own_cap{w:World}{base b n cap:Nat}{e:TypeId}{xs:List Value}(h:w.ownsRow base e 1 (.slice (some ⟨b,0,none⟩) n cap) n xs):n≤cap:=by
 obtain ⟨_,h|⟨g',c',cur,hv,_,hg,hle,_⟩⟩:=h
 ·cases h.1
 injection hv with hv1 hv2 hv3
 omega
def lenW:Value→Nat
 | .slice _ n _=>n
 |_=>0
theorem rowC(g:Nat)(s:ByteArray)(hs:s.size≤140737488355328)(a:Nat)(o:Value)(k:Nat)(hk1:1≤k)(hk:k≤400)(ha:a≤8*s.size)(w:World)(h:Up w g s a o)(gs:Nat)(K:Nat→Prop)(hKg:¬K g)(hKw: ∀k,K k→k<w.heap.size)(C:List Nat)(hC:C.length=19)(hS:SetAt w gs K C):
 Calls Tryz.prog 244 #[.pointer (some ⟨g,0,none⟩),.pointer (some ⟨gs,0,none⟩),.int .i64 k] w fun r w' =>Only (fun k=>k=g) w w' ∧
  ((∃a' l gr cp,rowS s C k a []=some (a',l)∧l.length=k∧r=.returned (.tuple #[.slice (some ⟨gr,0,none⟩) k cp,.bool true])∧Up w' g s a' o∧Ints w' gr 0 l∧w.heap.size≤gr∧k≤cp)∨(rowS s C k a []=none∧r=.returned (.tuple #[.slice none 0 0,.bool false]))):=by
 obtain ⟨i0,hi0,hz0,hz1,hz2⟩:=info_parts infoI3
 have hmk: ∀W:World,(Instr.makeSlice 33 (.int .i64 0) (.int .i64 (k:Int))).run Tryz.prog W=.ok (.slice (some ⟨W.heap.size,0,none⟩) 0 k) (W.alloc (.cells (madeCells #[.int .i64 0] k) 3)):=by
  intro W
  have h:=run_make (P:=Tryz.prog) W 33 3 i0 (.int .i64 0) Tryz.underlying33 hi0 hz0 .i64 .i64 0 k (by omega) (by omega) (by rw[hz2];omega) (by omega)
  rw[hz1,Int.toNat_natCast,Nat.mul_one] at h
  exact h
 have hgl:=h.lt
 have hA:Only (fun _=>False) w (w.alloc (.cells (madeCells #[.int .i64 0] k) 3)):=(Only.refl _ w).alloc _
 have HUP0:=hide (h.kept hA (fun x=>x))
 have HOA:=hide (Only.oldS (S:=fun k=>k=g) hA)
 have HOW0:Hid ((w.alloc (.cells (madeCells #[.int .i64 0] k) 3)).ownsRow w.heap.size 3 1 (.slice (some ⟨w.heap.size,0,none⟩) 0 k) 0 (intCells [])):=World.ownsRow_made w _ k (Nat.le_refl _) (by unfold maxLen;omega) (by rw[size_madeCells,Nat.mul_one])
 have HS:=hide hS
 clear h hA hS
 go_in
 go_wp2_with fail
 refine wp_scope_jumps 0 (fun a' w' =>a'.tmps.size=72∧a'.defers=[]∧Only (fun k=>k=g) w w' ∧rowS s C k a []=none) (fun _ _=>0) rfl ?_ ?_
 case refine_2=>
  rintro ⟨tm,df⟩ w' ⟨hsz,hdf,hO,hbad⟩
  simp only at hsz hdf
  subst hdf
  have HO:=hide hO
  have HBAD:=hide hbad
  clear hmk hO hbad
  go_wp2_with fail
  simp only[Exit.jump]
  refine bodyPost_ret (v:=.tuple #[.slice none 0 0,.bool false]) ?_ rfl ⟨HO,.inr ⟨HBAD,rfl⟩⟩
  have e:=results_tmp2 Tryz.results244 ((tm.setIfInBounds 6 (.slice none 0 0)).setIfInBounds 7 (.bool false)) Tryz.prog w'
  have e1:((tm.setIfInBounds 6 (Value.slice none 0 0)).setIfInBounds 7 (Value.bool false)).getD 6 undef=.slice none 0 0:=by simp[hsz]
  have e2:((tm.setIfInBounds 6 (Value.slice none 0 0)).setIfInBounds 7 (Value.bool false)).getD 7 undef=.bool false:=by simp[hsz]
  rw[e1,e2] at e
  exact e
 go_wp2_with fail
 clear hmk
 go_loopw [8,9,10,11,12] (fun v _ _ _ _ wr=> ∃(l:List Nat) (ao:Option Addr) (cap a' :Nat),v=.slice ao l.length cap∧l.length≤k∧Hid (a' ≤8*s.size)∧Hid (wr.ownsRow w.heap.size 3 1 (.slice ao l.length cap) l.length (intCells l))∧Hid (Up wr g s a' o)∧Hid (rowS s C k a []=rowS s C k a' l)∧Hid (Only (fun k=>k=g) w wr)) (fun v _ _ _ _ _=>k- lenW v)
 ·exact ⟨[],_,_,a,rfl,by simp,ha,HOW0,HUP0,rfl,HOA⟩
 obtain ⟨l,ao,cap,a',rfl,hlk,HA,HOWN,HUP,HEQ,HO⟩:=hrel
 generalize hln:l.length=n at hlk HOWN
 have HLN:=hide hln
 clear hln
 by_cases hlt:n<k
 ·have hltI:(n:Int)<(k:Int):=by omega
  have HSC:=hide (symbolC g s hs a' o (uh HA) gs K hKg C (by omega) wr (fun k hk=>Nat.lt_of_lt_of_le (hKw k hk) (uh HO).size) (uh HUP) ((uh HS).kept (uh HO) (fun k hk e=>hKg (e ▸ hk))))
  go_wp2_with fail
  refine (uh HSC).mono ?_
  rintro r w1 ⟨ho1,a1,ha1,hup1,hcs⟩
  have HO1:=hide ((uh HO).trans ho1)
  have HOWN1:=hide (own_keptB (uh HOWN) ho1 (fun b hb e=>by have:=own_base (uh HOWN) b hb;omega))
  have HUP1:=hide hup1
  clear HSC
  rcases hcs with ⟨y,hd,rfl⟩|⟨hd,rfl⟩
  ·have hy19:y<19:=by have:=(dec_lt hd).2.2;omega
   have HD:=hide hd
   have HTM:=hide (timesC g s hs a1 o y (by omega) ha1 w1 hup1)
   have htl:=times_le s a1 y
   clear ho1 hup1 hd
   by_cases hy16:y=16
   ·subst hy16
    by_cases hn0:n=0
    ·subst hn0
     go_wp2_with fail
     go_step3
     try simp only[Exit.jump]
     exact ⟨rfl,rfl,rfl,HO1,by rw[uh HEQ];exact rowS_no (by rw[uh HLN];exact hlt) (stepR_first (uh HD) (uh HLN))⟩
    have hn0b:((n:Int)==0)=false:=by rw[beq_eq_false_iff_ne];omega
    obtain ⟨b,cap',hvv,_,_⟩:=(uh HOWN1).form (by omega)
    injection hvv with hv1 hv2 hv3
    subst hv1 hv3
    have hce:w1.cell? ⟨b,n- 1,none⟩=some (.int .i64 (l.getD (l.length- 1) 0:Nat)):=by
     have:=(Ints.ofOwns (uh HLN) (uh HOWN1)).cell (j:=n- 1) (by rw[uh HLN];omega)
     rw[Nat.zero_add] at this
     rw[uh HLN];exact this
    have hk1' :(n:Int)- 1<(n:Int):=by omega
    have hk0:(0:Int)≤(n:Int)- 1:=by omega
    have hkn:((n:Int)- 1).toNat=n- 1:=by omega
    have hp1:(1:Int)≤(n:Int):=by omega
    have HW:Hid (rowWhat 16 l=l.getD (l.length- 1) 0):=hide rfl
    generalize l.getD (l.length- 1) 0=x at hce HW
    have HNZ:Hid (¬l.length=0):=by unfold Hid;rw[uh HLN];omega
    clear hv2
    generalize htt:rowBase 16+numAt s a1 (rowBits 16)=t at HTM htl
    have HTT:=hide htt
    generalize hbb:rowBits 16=bb at HTM
    have HBB:=hide hbb
    clear htt hbb
    go_wp2_with fail
    refine (uh HTM).mono ?_
    rintro r w2 ⟨ho2,hcs⟩
    have HO2:=hide ((uh HO1).trans ho2)
    have HOWN2:=hide (own_keptB (uh HOWN1) ho2 (fun b hb e=>by have:=own_base (uh HOWN1) b hb;omega))
    clear HTM ho2
    rcases hcs with ⟨hle,hup2,rfl⟩|⟨hle,hup2,nn,rfl⟩
    ·have HUP2:=hide hup2
     have HLE:=hide hle
     clear hup2 hle
     by_cases hbig:k<n+t
     ·have hbI:(k:Int)- (n:Int)<(t:Int):=by omega
      go_wp2_with fail
      go_step3
      try simp only[Exit.jump]
      exact ⟨rfl,rfl,rfl,HO2,by rw[uh HEQ];exact rowS_no (by rw[uh HLN];exact hlt) (stepR_big (uh HD) (uh HTT) (by rw[uh HLN];exact hbig))⟩
     have hbI:¬(k:Int)- (n:Int)<(t:Int):=by omega
     have HSTP:Hid (stepR s C k a' l=some (a1+bb,l++List.replicate t x)):=by
      have:=stepR_ok (many:=k) (uh HD) (fun hh=>uh HNZ hh.2) (by rw[uh HBB];exact uh HLE) (uh HTT) (by rw[uh HLN];exact hbig)
      rw[uh HW,uh HBB] at this
      exact this
     go_wp2_with fail
     go_loopw [8,64] (fun vv i wr=> ∃(j:Nat) (ao2:Option Addr) (cap2:Nat),j≤t∧vv=.slice ao2 (n+j) cap2∧i=.int .i64 j∧Hid (wr.ownsRow w.heap.size 3 1 (.slice ao2 (n+j) cap2) (n+j) (intCells (l++List.replicate j x)))∧Hid (Up wr g s (a1+bb) o)∧Hid (Only (fun k=>k=g) w wr)) (fun _ i _=>t- (intOf i).toNat)
     ·exact ⟨0,some ⟨b,0,none⟩,cap,by omega,rfl,rfl,(show World.ownsRow _ _ _ _ _ _ _ by simpa using uh HOWN2),HUP2,HO2⟩
     obtain ⟨j,ao2,cap2,hj,rfl,rfl,HOWN,HUP,HO⟩:=hrel
     by_cases hjn:j<t
     ·have hjI:(j:Int)<(t:Int):=by omega
      have HNW:=hide (int_new (wr:=wr) (n:=(x:Nat)))
      have HOWA:Hid ((wr.alloc (.cells #[.int .i64 (x:Nat)] 3)).ownsRow w.heap.size 3 1 (.slice ao2 (n+j) cap2) (n+j) (intCells (l++List.replicate j x))):=(uh HOWN).alloc _
      have HSZ:Hid (w.heap.size≤(wr.alloc (.cells #[.int .i64 (x:Nat)] 3)).heap.size):=by have:=(uh HO).size;unfold Hid;simp only[World.size_alloc];omega
      have HRA:=hide ((uh HUP).kept ((Only.refl (fun _=>False) wr).alloc (.cells #[.int .i64 (x:Nat)] 3)) (fun x=>x))
      have HB:=hide (own_base (uh HOWA))
      go_wp2_with (at_builtin;refine wpList_append_lies _ rfl (.tmp 66) (.tmp 68) 33 rfl w.heap.size 3 i0 (.int .i64 0) 1 8 Tryz.underlying33 hi0 hz0 hz1 hz2 rfl (by omega) (.slice ao2 (n+j) cap2) (n+j) _ rfl (uh HOWA) ⟨wr.heap.size,0,none⟩ 1 1 [.int .i64 (x:Nat)] rfl rfl (uh HNW) (by intro u hu;simp at hu;subst hu;rfl) (by omega) (by unfold maxLen;omega) (by omega) (uh HSZ) _ rfl ?_;intro g2 cap3 w3 ho3 hg3 hl3 hlt3;have HO3:=hide ho3;have HG3:=hide hg3;clear ho3 hg3 hl3)
      go_roundw
      ·refine ⟨j+1,some ⟨g2,0,none⟩,cap3,by omega,by rw[Nat.add_assoc],by go_num, ?_, ?_, ?_⟩
       ·have e:intCells (l++List.replicate (j+1) x)=intCells (l++List.replicate j x)++[.int .i64 (x:Nat)]:=by rw[List.replicate_succ',←List.append_assoc];simp[intCells]
        rw[e];exact uh HO3
       ·exact ((uh HG3).block g (uh HRA).lt (fun hh=>by have:=uh HB g hh.symm;omega)).trans (uh HRA)
       exact ((uh HO).alloc _).grown (uh HG3) (fun q hq e=>absurd hq (by have:=uh HB q e;omega))
      case measure=>simp[intOf];omega
     have hjI:¬(j:Int)<(t:Int):=by omega
     have hje:j=t:=by omega
     have HJE:=hide hje
     clear hje
     have ht1:1≤t:=by have:=uh HTT;have hb:0<rowBase 16:=(by unfold rowBase;repeat (first|split|omega));omega
     have HLJ:Hid ((l++List.replicate j x).length=n+j):=by unfold Hid;rw[List.length_append,List.length_replicate,uh HLN]
     go_wp2_with fail
     go_roundw
     ·refine ⟨l++List.replicate j x,ao2,cap2,a1+bb,by rw[uh HLJ],by rw[uh HLJ];omega,HLE, ?_,HUP, ?_,HO⟩
      ·rw[uh HLJ];exact uh HOWN
      rw[Hid,uh HEQ,rowS_step (by rw[uh HLN];exact hlt),uh HSTP,uh HJE]
     simp[lenW];omega
    have HCUT:=hide hle
    clear hup2 hle
    go_wp2_with fail
    go_step3
    try simp only[Exit.jump]
    exact ⟨rfl,rfl,rfl,HO2,by rw[uh HEQ];exact rowS_no (by rw[uh HLN];exact hlt) (stepR_cut (uh HD) (by rw[uh HBB];exact uh HCUT))⟩
   have hy16b:((y:Int)==16)=false:=by rw[beq_eq_false_iff_ne];omega
   have HNZ:Hid (¬y=16):=hy16
   by_cases hy15:15<y
   ·have hy15I:(15:Int)<(y:Int):=by omega
    have HW:Hid (rowWhat y l=0):=by unfold Hid rowWhat;rw[if_neg hy16,if_pos hy15]
    generalize htt:rowBase y+numAt s a1 (rowBits y)=t at HTM htl
    have HTT:=hide htt
    generalize hbb:rowBits y=bb at HTM
    have HBB:=hide hbb
    clear htt hbb
    go_wp2_with fail
    refine (uh HTM).mono ?_
    rintro r w2 ⟨ho2,hcs⟩
    have HO2:=hide ((uh HO1).trans ho2)
    have HOWN2:=hide (own_keptB (uh HOWN1) ho2 (fun b hb e=>by have:=own_base (uh HOWN1) b hb;omega))
    clear HTM ho2
    rcases hcs with ⟨hle,hup2,rfl⟩|⟨hle,hup2,nn,rfl⟩
    ·have HUP2:=hide hup2
     have HLE:=hide hle
     clear hup2 hle
     by_cases hbig:k<n+t
     ·have hbI:(k:Int)- (n:Int)<(t:Int):=by omega
      go_wp2_with fail
      go_step3
      try simp only[Exit.jump]
      exact ⟨rfl,rfl,rfl,HO2,by rw[uh HEQ];exact rowS_no (by rw[uh HLN];exact hlt) (stepR_big (uh HD) (uh HTT) (by rw[uh HLN];exact hbig))⟩
     have hbI:¬(k:Int)- (n:Int)<(t:Int):=by omega
     have HSTP:Hid (stepR s C k a' l=some (a1+bb,l++List.replicate t 0)):=by
      have:=stepR_ok (many:=k) (uh HD) (fun hh=>uh HNZ hh.1) (by rw[uh HBB];exact uh HLE) (uh HTT) (by rw[uh HLN];exact hbig)
      rw[uh HW,uh HBB] at this
      exact this
     go_wp2_with fail
     go_loopw [8,64] (fun vv i wr=> ∃(j:Nat) (ao2:Option Addr) (cap2:Nat),j≤t∧vv=.slice ao2 (n+j) cap2∧i=.int .i64 j∧Hid (wr.ownsRow w.heap.size 3 1 (.slice ao2 (n+j) cap2) (n+j) (intCells (l++List.replicate j 0)))∧Hid (Up wr g s (a1+bb) o)∧Hid (Only (fun k=>k=g) w wr)) (fun _ i _=>t- (intOf i).toNat)
     ·exact ⟨0,ao,cap,by omega,rfl,rfl,(show World.ownsRow _ _ _ _ _ _ _ by simpa using uh HOWN2),HUP2,HO2⟩
     obtain ⟨j,ao2,cap2,hj,rfl,rfl,HOWN,HUP,HO⟩:=hrel
     by_cases hjn:j<t
     ·have hjI:(j:Int)<(t:Int):=by omega
      have HNW:=hide (int_new (wr:=wr) (n:=0))
      have HOWA:Hid ((wr.alloc (.cells #[.int .i64 0] 3)).ownsRow w.heap.size 3 1 (.slice ao2 (n+j) cap2) (n+j) (intCells (l++List.replicate j 0))):=(uh HOWN).alloc _
      have HSZ:Hid (w.heap.size≤(wr.alloc (.cells #[.int .i64 0] 3)).heap.size):=by have:=(uh HO).size;unfold Hid;simp only[World.size_alloc];omega
      have HRA:=hide ((uh HUP).kept ((Only.refl (fun _=>False) wr).alloc (.cells #[.int .i64 0] 3)) (fun x=>x))
      have HB:=hide (own_base (uh HOWA))
      go_wp2_with (at_builtin;refine wpList_append_lies _ rfl (.tmp 66) (.tmp 68) 33 rfl w.heap.size 3 i0 (.int .i64 0) 1 8 Tryz.underlying33 hi0 hz0 hz1 hz2 rfl (by omega) (.slice ao2 (n+j) cap2) (n+j) _ rfl (uh HOWA) ⟨wr.heap.size,0,none⟩ 1 1 [.int .i64 0] rfl rfl (uh HNW) (by intro u hu;simp at hu;subst hu;rfl) (by omega) (by unfold maxLen;omega) (by omega) (uh HSZ) _ rfl ?_;intro g2 cap3 w3 ho3 hg3 hl3 hlt3;have HO3:=hide ho3;have HG3:=hide hg3;clear ho3 hg3 hl3)
      go_roundw
      ·refine ⟨j+1,some ⟨g2,0,none⟩,cap3,by omega,by rw[Nat.add_assoc],by go_num, ?_, ?_, ?_⟩
       ·have e:intCells (l++List.replicate (j+1) 0)=intCells (l++List.replicate j 0)++[.int .i64 0]:=by rw[List.replicate_succ',←List.append_assoc];simp[intCells]
        rw[e];exact uh HO3
       ·exact ((uh HG3).block g (uh HRA).lt (fun hh=>by have:=uh HB g hh.symm;omega)).trans (uh HRA)
       exact ((uh HO).alloc _).grown (uh HG3) (fun q hq e=>absurd hq (by have:=uh HB q e;omega))
      case measure=>simp[intOf];omega
     have hjI:¬(j:Int)<(t:Int):=by omega
     have hje:j=t:=by omega
     have HJE:=hide hje
     clear hje
     have ht1:1≤t:=by have:=uh HTT;have hb:0<rowBase y:=(by unfold rowBase;repeat (first|split|omega));omega
     have HLJ:Hid ((l++List.replicate j 0).length=n+j):=by unfold Hid;rw[List.length_append,List.length_replicate,uh HLN]
     go_wp2_with fail
     go_roundw
     ·refine ⟨l++List.replicate j 0,ao2,cap2,a1+bb,by rw[uh HLJ],by rw[uh HLJ];omega,HLE, ?_,HUP, ?_,HO⟩
      ·rw[uh HLJ];exact uh HOWN
      rw[Hid,uh HEQ,rowS_step (by rw[uh HLN];exact hlt),uh HSTP,uh HJE]
     simp[lenW];omega
    have HCUT:=hide hle
    clear hup2 hle
    go_wp2_with fail
    go_step3
    try simp only[Exit.jump]
    exact ⟨rfl,rfl,rfl,HO2,by rw[uh HEQ];exact rowS_no (by rw[uh HLN];exact hlt) (stepR_cut (uh HD) (by rw[uh HBB];exact uh HCUT))⟩
   have hy15I:¬(15:Int)<(y:Int):=by omega
   have HW:Hid (rowWhat y l=y):=by unfold Hid rowWhat;rw[if_neg hy16,if_neg hy15]
   generalize htt:rowBase y+numAt s a1 (rowBits y)=t at HTM htl
   have HTT:=hide htt
   generalize hbb:rowBits y=bb at HTM
   have HBB:=hide hbb
   clear htt hbb
   go_wp2_with fail
   refine (uh HTM).mono ?_
   rintro r w2 ⟨ho2,hcs⟩
   have HO2:=hide ((uh HO1).trans ho2)
   have HOWN2:=hide (own_keptB (uh HOWN1) ho2 (fun b hb e=>by have:=own_base (uh HOWN1) b hb;omega))
   clear HTM ho2
   rcases hcs with ⟨hle,hup2,rfl⟩|⟨hle,hup2,nn,rfl⟩
   ·have HUP2:=hide hup2
    have HLE:=hide hle
    clear hup2 hle
    by_cases hbig:k<n+t
    ·have hbI:(k:Int)- (n:Int)<(t:Int):=by omega
     go_wp2_with fail
     go_step3
     try simp only[Exit.jump]
     exact ⟨rfl,rfl,rfl,HO2,by rw[uh HEQ];exact rowS_no (by rw[uh HLN];exact hlt) (stepR_big (uh HD) (uh HTT) (by rw[uh HLN];exact hbig))⟩
    have hbI:¬(k:Int)- (n:Int)<(t:Int):=by omega
    have HSTP:Hid (stepR s C k a' l=some (a1+bb,l++List.replicate t y)):=by
     have:=stepR_ok (many:=k) (uh HD) (fun hh=>uh HNZ hh.1) (by rw[uh HBB];exact uh HLE) (uh HTT) (by rw[uh HLN];exact hbig)
     rw[uh HW,uh HBB] at this
     exact this
    go_wp2_with fail
    go_loopw [8,64] (fun vv i wr=> ∃(j:Nat) (ao2:Option Addr) (cap2:Nat),j≤t∧vv=.slice ao2 (n+j) cap2∧i=.int .i64 j∧Hid (wr.ownsRow w.heap.size 3 1 (.slice ao2 (n+j) cap2) (n+j) (intCells (l++List.replicate j y)))∧Hid (Up wr g s (a1+bb) o)∧Hid (Only (fun k=>k=g) w wr)) (fun _ i _=>t- (intOf i).toNat)
    ·exact ⟨0,ao,cap,by omega,rfl,rfl,(show World.ownsRow _ _ _ _ _ _ _ by simpa using uh HOWN2),HUP2,HO2⟩
    obtain ⟨j,ao2,cap2,hj,rfl,rfl,HOWN,HUP,HO⟩:=hrel
    by_cases hjn:j<t
    ·have hjI:(j:Int)<(t:Int):=by omega
     have HNW:=hide (int_new (wr:=wr) (n:=(y:Nat)))
     have HOWA:Hid ((wr.alloc (.cells #[.int .i64 (y:Nat)] 3)).ownsRow w.heap.size 3 1 (.slice ao2 (n+j) cap2) (n+j) (intCells (l++List.replicate j y))):=(uh HOWN).alloc _
     have HSZ:Hid (w.heap.size≤(wr.alloc (.cells #[.int .i64 (y:Nat)] 3)).heap.size):=by have:=(uh HO).size;unfold Hid;simp only[World.size_alloc];omega
     have HRA:=hide ((uh HUP).kept ((Only.refl (fun _=>False) wr).alloc (.cells #[.int .i64 (y:Nat)] 3)) (fun x=>x))
     have HB:=hide (own_base (uh HOWA))
     go_wp2_with (at_builtin;refine wpList_append_lies _ rfl (.tmp 66) (.tmp 68) 33 rfl w.heap.size 3 i0 (.int .i64 0) 1 8 Tryz.underlying33 hi0 hz0 hz1 hz2 rfl (by omega) (.slice ao2 (n+j) cap2) (n+j) _ rfl (uh HOWA) ⟨wr.heap.size,0,none⟩ 1 1 [.int .i64 (y:Nat)] rfl rfl (uh HNW) (by intro u hu;simp at hu;subst hu;rfl) (by omega) (by unfold maxLen;omega) (by omega) (uh HSZ) _ rfl ?_;intro g2 cap3 w3 ho3 hg3 hl3 hlt3;have HO3:=hide ho3;have HG3:=hide hg3;clear ho3 hg3 hl3)
     go_roundw
     ·refine ⟨j+1,some ⟨g2,0,none⟩,cap3,by omega,by rw[Nat.add_assoc],by go_num, ?_, ?_, ?_⟩
      ·have e:intCells (l++List.replicate (j+1) y)=intCells (l++List.replicate j y)++[.int .i64 (y:Nat)]:=by rw[List.replicate_succ',←List.append_assoc];simp[intCells]
       rw[e];exact uh HO3
      ·exact ((uh HG3).block g (uh HRA).lt (fun hh=>by have:=uh HB g hh.symm;omega)).trans (uh HRA)
      exact ((uh HO).alloc _).grown (uh HG3) (fun q hq e=>absurd hq (by have:=uh HB q e;omega))
     case measure=>simp[intOf];omega
    have hjI:¬(j:Int)<(t:Int):=by omega
    have hje:j=t:=by omega
    have HJE:=hide hje
    clear hje
    have ht1:1≤t:=by have:=uh HTT;have hb:0<rowBase y:=(by unfold rowBase;repeat (first|split|omega));omega
    have HLJ:Hid ((l++List.replicate j y).length=n+j):=by unfold Hid;rw[List.length_append,List.length_replicate,uh HLN]
    go_wp2_with fail
    go_roundw
    ·refine ⟨l++List.replicate j y,ao2,cap2,a1+bb,by rw[uh HLJ],by rw[uh HLJ];omega,HLE, ?_,HUP, ?_,HO⟩
     ·rw[uh HLJ];exact uh HOWN
     rw[Hid,uh HEQ,rowS_step (by rw[uh HLN];exact hlt),uh HSTP,uh HJE]
    simp[lenW];omega
   have HCUT:=hide hle
   clear hup2 hle
   go_wp2_with fail
   go_step3
   try simp only[Exit.jump]
   exact ⟨rfl,rfl,rfl,HO2,by rw[uh HEQ];exact rowS_no (by rw[uh HLN];exact hlt) (stepR_cut (uh HD) (by rw[uh HBB];exact uh HCUT))⟩
  have HD:=hide hd
  clear ho1 hup1 hd
  go_wp2_with fail
  go_step3
  try simp only[Exit.jump]
  exact ⟨rfl,rfl,rfl,HO1,by rw[uh HEQ];exact rowS_no (by rw[uh HLN];exact hlt) (stepR_none (uh HD))⟩
 have hltI:¬(n:Int)<(k:Int):=by omega
 have hnk:n=k:=by omega
 obtain ⟨b,cap',hvv,hbw,_⟩:=(uh HOWN).form (by omega)
 injection hvv with hv1 hv2 hv3
 subst hv1 hv3
 have HIN:=hide (Ints.ofOwns (uh HLN) (uh HOWN))
 have HBB:=hide (own_base (uh HOWN) b rfl)
 have HNK:=hide hnk
 have HCP:Hid (k≤cap):=by have:=own_cap (uh HOWN);unfold Hid;omega
 clear hnk hv2
 go_wp2_with fail
 try simp only[Exit.jump]
 go_ret2
 refine ⟨HO,.inl ⟨a',l,b,cap,by rw[uh HEQ];exact rowS_done (by rw[uh HLN];omega),by rw[uh HLN];exact uh HNK, ?_,HUP,HIN,HBB,HCP⟩⟩
 rw[←uh HNK];rfl
theorem results_cell_tmp{P:Program}{fn:Func}{p t:Tmp}{ty:TypeId}(h:fn.results= #[.cell p ty,.tmp t])(tmps:Array Value)(w:World)(g:Nat)(t0:TypeId)(cs:Array Value)(fr:Nat×Nat)(d:TypeDesc)
 (hp:tmps.getD p undef=.pointer (some ⟨g,0,none⟩))(hg:w.heap[g]? =some (.cells cs t0 fr))
 (hu:P.underlying ty=some d)(hd:(match d with| .struct _| .array _ _=>true|_=>false)=true)(hi:(P.info? ty).map (·.size)=some cs.size):
 (results fn tmps).run P w=.ok (.tuple #[.agg cs,tmps.getD t undef]) w:=by
 have hp' :tmps[p]?.getD undef=.pointer (some ⟨g,0,none⟩):=by simpa using hp
 simp[results,h,hp',asAddr,run_loadVar_row w g t0 ty cs fr d hg hu hd hi]
theorem head14(s:ByteArray)(a:Nat):numAt s a 14=numAt s a 5+numAt s (a+5) 5*32+numAt s (a+10) 4*1024:=by
 rw[show (14:Nat)=5+9 from rfl,numAt_add,show (9:Nat)=5+4 from rfl,numAt_add]
 have e:a+5+5=a+10:=rfl
 rw[e];omega
theorem told_cond{α:Type}(x:Nat)(p q:Bool)(u v:α):(if p=true∧q=true∧x≠0 then u else v)=if (decide (x≠0)&&p&&q)=true then u else v:=by
 by_cases hx:x=0<;>cases p<;>cases q<;>simp[hx]
theorem and31(n:Nat)(h:n<9223372036854775808):bits .and .i64 (n:Int) 31=((n%32:Nat):Int):=by
 have:=i64_and_nat n 31 h (by omega)
 rw[show (31:Nat)=2^5- 1 from rfl,Nat.and_two_pow_sub_one_eq_mod] at this
 exact this
theorem toldC(g:Nat)(hgo:g≠1)(s:ByteArray)(hs:s.size≤140737488355328)(a:Nat)(o:Value)(ha:a≤8*s.size)(w:World)(hord:OrdAt w)(h:Up w g s a o):
 Calls Tryz.prog 148 #[.pointer (some ⟨g,0,none⟩)] w fun r w' =>Only (fun k=>k=g) w w' ∧
  ((∃a' L D gL gD,toldS s a=some (a',L,D)∧a' ≤8*s.size∧L.length≤400∧D.length≤400∧r=.returned (.tuple #[.agg #[.pointer (some ⟨gL,0,none⟩),.pointer (some ⟨gD,0,none⟩)],.bool true])∧Up w' g s a' o∧
   SetAt w' gL (fun k=>w.heap.size≤k∧k<w'.heap.size) L∧SetAt w' gD (fun k=>w.heap.size≤k∧k<w'.heap.size) D)∨
   (toldS s a=none∧r=.returned (.tuple #[.agg #[.pointer none,.pointer none],.bool false]))):=by
 have hgl:=h.lt
 have hA:Only (fun _=>False) w (w.alloc (.cells #[.pointer none,.pointer none] 112)):=(Only.refl _ w).alloc _
 have HO0:=hide (Only.oldS (S:=fun k=>k=g) hA)
 have HORD0:=hide (hord.kept hA (fun x=>x))
 have HZ0:Hid ((w.alloc (.cells #[.pointer none,.pointer none] 112)).heap[w.heap.size]? =some (.cells #[.pointer none,.pointer none] 112 (0,0))):=Go.heap_alloc_new w _
 have hs0:w.heap.size<(w.alloc (.cells #[.pointer none,.pointer none] 112)).heap.size:=by simp only[World.size_alloc];omega
 have HNC:=hide (numberC g s hs a o 14 (by omega) ha _ (h.kept hA (fun x=>x)))
 clear hord hA h
 go_in
 go_wp2_with fail
 refine (uh HNC).mono ?_
 rintro r w1 ⟨ho1,hcs⟩
 have HO1:=hide ((uh HO0).trans ho1)
 have HORD1:=hide ((uh HORD0).kept ho1 (fun e=>hgo e.symm))
 have HZ1:=hide ((ho1.block w.heap.size hs0 (by omega)).trans (uh HZ0))
 have hs1:w.heap.size<w1.heap.size:=Nat.lt_of_lt_of_le hs0 ho1.size
 clear HNC HO0 HORD0 HZ0 hs0 ho1
 rcases hcs with ⟨hle,rfl,hup1⟩|⟨hle,rfl,hup1⟩
 ·rw[head14]
  have b1:=numAt_lt s a 5
  have b2:=numAt_lt s (a+5) 5
  have b3:=numAt_lt s (a+10) 4
  have HLE:=hide hle
  have HUP1:=hide hup1
  clear hle hup1
  generalize hn1:numAt s a 5=n1 at*
  generalize hn2:numAt s (a+5) 5=n2 at*
  generalize hn3:numAt s (a+10) 4=n3 at*
  have HN1:=hide hn1
  have HN2:=hide hn2
  have HN3:=hide hn3
  clear hn1 hn2 hn3
  generalize hh:n1+n2*32+n3*1024=hd
  have hhd:hd<16384:=by omega
  have q1:bits .and .i64 (hd:Int) 31=(n1:Int):=by rw[and31 hd (by omega)];omega
  have q2:bits .and .i64 ((hd:Int)/32) 31=(n2:Int):=by rw[show (hd:Int)/32=((hd/32:Nat):Int) by omega,and31 _ (by omega)];omega
  have q3:(hd:Int)/1024=(n3:Int):=by omega
  obtain ⟨M,hM⟩: ∃M,M=257+n1:=⟨_,rfl⟩
  obtain ⟨F,hF⟩: ∃F,F=1+n2:=⟨_,rfl⟩
  have hMI:(257:Int)+(n1:Int)=(M:Int):=by omega
  have hFI:(1:Int)+(n2:Int)=(F:Int):=by omega
  have hM0:257≤M:=by omega
  have hF0:1≤F:=by omega
  have hMb:M≤288:=by have:2^5=32:=rfl;omega
  have hFb:F≤32:=by have:2^5=32:=rfl;omega
  have HME:=hide hM
  have HFE:=hide hF
  clear hh hM hF
  by_cases hm1:286<M
  ·have hmI:(286:Int)<(M:Int):=by omega
   have HT:Hid (toldS s a=none):=told_many (.inl (by rw[uh HN1];have:=uh HME;omega))
   have hz:=uh HZ1
   go_wp2_with (refine wpList_store_row rfl 112 (.tmp 2) (.tmp 35) rfl w.heap.size #[.pointer none,.pointer none] rfl rfl 112 _ hz infoSets rfl (ptr2_one _ _) ?_)
   refine bodyPost_ret (results_cell_tmp Tryz.results148 _ _ w.heap.size 112 _ (0,0) _ rfl (setRow_heap w1 w.heap.size _ _ _ _ hz) Tryz.underlying112 rfl infoSets) rfl ⟨?_,.inr ⟨uh HT,rfl⟩⟩
   exact (uh HO1).setRow _ (fun h=>absurd h (Nat.lt_irrefl _)) _
  have hmI:¬(286:Int)<(M:Int):=by omega
  by_cases hm2:30<F
  ·have hmI2:(30:Int)<(F:Int):=by omega
   have HT:Hid (toldS s a=none):=told_many (.inr (by rw[uh HN2];have:=uh HFE;omega))
   have hz:=uh HZ1
   go_wp2_with (refine wpList_store_row rfl 112 (.tmp 2) (.tmp 35) rfl w.heap.size #[.pointer none,.pointer none] rfl rfl 112 _ hz infoSets rfl (ptr2_one _ _) ?_)
   refine bodyPost_ret (results_cell_tmp Tryz.results148 _ _ w.heap.size 112 _ (0,0) _ rfl (setRow_heap w1 w.heap.size _ _ _ _ hz) Tryz.underlying112 rfl infoSets) rfl ⟨?_,.inr ⟨uh HT,rfl⟩⟩
   exact (uh HO1).setRow _ (fun h=>absurd h (Nat.lt_irrefl _)) _
  have hmI2:¬(30:Int)<(F:Int):=by omega
  have HRS:=hide (rowSetC g hgo s hs (a+14) o (4+n3) (by omega) (uh HLE) w1 (uh HORD1) (uh HUP1))
  rw[show ((4+n3:Nat):Int)=4+(n3:Int) by omega] at HRS
  go_wp2_with fail
  refine (uh HRS).mono ?_
  rintro r w2 ⟨ho2,hcs⟩
  have HO2:=hide ((uh HO1).trans ho2)
  have HZ2:=hide ((ho2.block w.heap.size hs1 (by omega)).trans (uh HZ1))
  have hs2:=ho2.size
  clear HRS ho2
  rcases hcs with ⟨hl2,hf2,hup2,gs,rfl,hS2⟩|⟨hno,rfl⟩
  ·have HL2:=hide hl2
   have HF2:=hide hf2
   have HUP2:=hide hup2
   have HS2:=hide hS2
   have HRC:=hide (rowC g s hs (a+14+3*(4+n3)) o (M+(F)) (by omega) (by omega) hl2 w2 hup2 gs (fun k=>w1.heap.size≤k∧k<w2.heap.size) (fun h=>by have:=h.1;omega) (fun k h=>h.2) _ (ownL_len s (a+14) (4+n3)) hS2)
   rw[show ((M+(F):Nat):Int)=(M:Int)+((F:Int)) by omega] at HRC
   clear hl2 hf2 hup2 hS2
   go_wp2_with fail
   refine (uh HRC).mono ?_
   rintro r w3 ⟨ho3,hcs⟩
   have HO3:=hide ((uh HO2).trans ho3)
   have HZ3:=hide ((ho3.block w.heap.size (by omega) (by omega)).trans (uh HZ2))
   have hs3:=ho3.size
   clear HRC ho3
   rcases hcs with ⟨a',l,gr,cp,hrow,hlen,rfl,hup3,hI3,hgr,hcp⟩|⟨hno,rfl⟩
   ·have HRL:=hide (rowS_le (ownL_len s (a+14) (4+n3)) hrow (uh HL2))
    have HROW:=hide hrow
    have HUP3:=hide hup3
    have HI3:=hide hI3
    have HLEN:=hide hlen
    clear hrow hup3 hI3 hlen
    have hlt15: ∀j,l.getD j 0≤15:=fun j=>by
     rcases Nat.lt_or_ge j l.length with h|h
     ·rw[List.getD_eq_getElem?_getD,List.getElem?_eq_getElem h];exact (uh HRL).1 _ (List.getElem_mem h)
     rw[List.getD_eq_getElem?_getD,List.getElem?_eq_none h];exact Nat.zero_le _
    have hlen:=uh HLEN
    have hLt:(l.take (M)).length=M:=by rw[List.length_take];omega
    have hLd:(l.drop (M)).length=F:=by rw[List.length_drop];omega
    have h15t: ∀j,(l.take (M)).getD j 0≤15:=fun j=>by
     rw[List.getD_eq_getElem?_getD,List.getElem?_take];split
     ·have:=hlt15 j;rwa [List.getD_eq_getElem?_getD] at this
     exact Nat.zero_le _
    have h15d: ∀j,(l.drop (M)).getD j 0≤15:=fun j=>by
     rw[List.getD_eq_getElem?_getD,List.getElem?_drop]
     have:=hlt15 (M+j);rwa [List.getD_eq_getElem?_getD] at this
    have hg256:(l.take (M)).getD 256 0=l.getD 256 0:=by
     rw[List.getD_eq_getElem?_getD,List.getElem?_take,if_pos (by omega),List.getD_eq_getElem?_getD]
    have HRR: ∀m:Nat,Hid (Calls Tryz.prog 245 #[.slice (some ⟨gr,0,none⟩) (M) cp,.slice (some ⟨gr,M,none⟩) (F) (cp- (M))] (w3.drewN m) fun r w' =>r=.returned (.bool (decide (l.getD 256 0≠0)&&fitS (l.take (M))&&fitD (l.drop (M))))∧w' =w3.drewN m):=fun m=>by
     have hI:=uh HI3
     have hI' :Ints (w3.drewN m) gr 0 l:=hI
     have hD:=hI'.drop (M)
     rw[Nat.zero_add] at hD
     have:=rightRowC gr 0 (M) cp (cp- (M)) (l.take (M)) (l.drop (M)) (by omega) (by omega) (by omega) h15t h15d (w3.drewN m) (hI'.take (M)) hD
     rw[hLt,hLd,hg256] at this
     exact this
    have HTE:Hid (toldS s a=if (decide (l.getD 256 0≠0)&&fitS (l.take (M))&&fitD (l.drop (M)))=true then some (a',l.take (M),l.drop (M)) else none):=by
     have e1:=uh HN1
     have e2:=uh HN2
     have e3:=uh HN3
     have h9:=told_end (s:=s) (a:=a) (a' :=a') (l:=l) (by have:=uh HLE;omega) (by rw[e1,e2,←(uh HME),←(uh HFE)];omega) (by rw[e3];have:=uh HL2;omega) (by rw[e3];exact uh HF2) (by rw[e1,e2,e3,←(uh HME),←(uh HFE)];exact uh HROW)
     rw[e1,←(uh HME)] at h9
     rw[Hid,h9]
     exact told_cond _ _ _ _ _
    clear hlen hlt15
    generalize hbb:(decide (l.getD 256 0≠0)&&fitS (l.take (M))&&fitD (l.drop (M)))=bb at HRR HTE
    clear hbb hg256
    have m1:(M:Int)≤(cp:Int):=by omega
    have m2:(0:Int)≤(M:Int):=by omega
    have m3:((M:Nat):Int).toNat=M:=Int.toNat_natCast M
    have m4:(M:Int)≤((M+F:Nat):Int):=by omega
    have m5:M+F- M=F:=by omega
    have m7:(M:Int)≤(M:Int)+(F:Int):=by omega
    have mcap:¬cp=M:=by omega
    go_wp2_with fail
    cases bb with
    |false=>
     have HT:Hid (toldS s a=none):=uh HTE
     go_quiet (first|(go_at_call 245;exact (uh (HRR _)).mono (fun _ _ h=>⟨h.1,_,h.2⟩)))
     have hz:=uh HZ3
     go_wp2_with (refine wpList_store_row rfl 112 (.tmp 2) (.tmp 66) rfl w.heap.size #[.pointer none,.pointer none] rfl rfl 112 _ hz infoSets rfl (ptr2_one _ _) ?_)
     refine bodyPost_ret (results_cell_tmp Tryz.results148 _ _ w.heap.size 112 _ (0,0) _ rfl (setRow_heap w3 w.heap.size _ _ _ _ hz) Tryz.underlying112 rfl infoSets) rfl ⟨?_,.inr ⟨uh HT,rfl⟩⟩
     exact ((uh HO3).drewN _).setRow _ (fun h=>absurd h (Nat.lt_irrefl _)) _
    |true=>
     have HT:Hid (toldS s a=some (a',l.take (M),l.drop (M))):=uh HTE
     go_quiet (first|(go_at_call 245;exact (uh (HRR _)).mono (fun _ _ h=>⟨h.1,_,h.2⟩)))
     go_wp2_with fail
     have hm1' :=makeC gr 0 cp (l.take M) (by omega) h15t (w3.drewN nq).drew (show Ints (w3.drewN nq).drew gr 0 (l.take M) from (uh HI3).take M)
     have hDr:=(uh HI3).drop M
     rw[Nat.zero_add] at hDr
     have HDR:=hide hDr
     rw[hLt] at hm1'
     have HM1:=hide hm1'
     clear hm1' hDr
     refine wp_region_late (S:=fun W=>True) (late:=fun _=>true) (by kernel_rfl) ?_
     refine wpAnyG_free (i:=0) (v:=.slice (some ⟨gr,0,none⟩) (M+F) cp) (some 67) rfl rfl (by kernel_rfl) rfl (by kernel_rfl) (by kernel_rfl) (fun _ _ _ h=>h) (.inl ⟨rfl,fun W _=>by go_simp⟩) ?_
     simp only[Act.put,List.setIfInBounds_toArray,List.set_cons_zero,List.set_cons_succ]
     refine wpAnyG_free (i:=1) (v:=.int .i64 M) (some 68) rfl rfl (by kernel_rfl) rfl (by kernel_rfl) (by kernel_rfl) (fun _ _ _ h=>h) (.inl ⟨rfl,fun W _=>by go_simp⟩) ?_
     simp only[Act.put,List.setIfInBounds_toArray,List.set_cons_zero,List.set_cons_succ]
     refine wpAnyG_free (i:=2) (v:=.slice (some ⟨gr,0,none⟩) M cp) (some 69) rfl rfl (by kernel_rfl) rfl (by kernel_rfl) (by kernel_rfl) (fun _ _ _ h=>h) (.inl ⟨rfl,fun W _=>by go_simp⟩) ?_
     simp only[Act.put,List.setIfInBounds_toArray,List.set_cons_zero,List.set_cons_succ]
     refine wpAnyG_free (i:=4) (v:=.slice (some ⟨gr,0,none⟩) (M+F) cp) (some 71) rfl rfl (by kernel_rfl) rfl (by kernel_rfl) (by kernel_rfl) (fun _ _ _ h=>h) (.inl ⟨rfl,fun W _=>by go_simp⟩) ?_
     simp only[Act.put,List.setIfInBounds_toArray,List.set_cons_zero,List.set_cons_succ]
     refine wpAnyG_free (i:=5) (v:=.int .i64 M) (some 72) rfl rfl (by kernel_rfl) rfl (by kernel_rfl) (by kernel_rfl) (fun _ _ _ h=>h) (.inl ⟨rfl,fun W _=>by go_simp⟩) ?_
     simp only[Act.put,List.setIfInBounds_toArray,List.set_cons_zero,List.set_cons_succ]
     refine wpAnyG_free (i:=6) (v:=.slice (some ⟨gr,M,none⟩) F (cp- M)) (some 73) rfl rfl (by kernel_rfl) rfl (by kernel_rfl) (by kernel_rfl) (fun _ _ _ h=>h) (.inl ⟨rfl,fun W _=>by go_simp⟩) ?_
     simp only[Act.put,List.setIfInBounds_toArray,List.set_cons_zero,List.set_cons_succ]
     refine wpAnyG_one (i:=3) (by kernel_rfl) ?_
     refine wpOp_step rfl (fun K' hK=> ?_)
     go_simp
     refine (uh HM1).mono ?_
     rintro r w4 ⟨rfl,ho4,hS4⟩
     refine hK _ _ ⟨(fun h=>by cases h), ?_⟩
     clear hK
     have hs4:=ho4.size
     have HO4:=hide ((((uh HO3).drewN nq).drew).trans (Only.oldS ho4))
     have HUP4:=hide (Up.kept (w:=(w3.drewN nq).drew) (uh HUP3) ho4 (fun x=>x))
     have HZ4:=hide ((ho4.block w.heap.size (show w.heap.size<w3.heap.size by omega) (fun x=>x)).trans (uh HZ3))
     have HM2:=hide (makeC gr M (cp- M) (l.drop M) (by omega) h15d w4 (Ints.kept (w:=(w3.drewN nq).drew) (uh HDR) ho4 (fun x=>x)))
     rw[hLd] at HM2
     have HS4:=hide hS4
     have hsz3:(w3.drewN nq).drew.heap.size=w3.heap.size:=rfl
     clear hS4 ho4 HM1
     refine wpAnyG_one (i:=7) (by kernel_rfl) ?_
     refine wpOp_step rfl (fun K' hK=> ?_)
     go_simp
     refine (uh HM2).mono ?_
     rintro r w5 ⟨rfl,ho5,hS5⟩
     refine hK _ _ ⟨(fun h=>by cases h), ?_⟩
     clear hK
     have hs5:=ho5.size
     have HO5:=hide ((uh HO4).trans (Only.oldS ho5))
     have HUP5:=hide ((uh HUP4).kept ho5 (fun x=>x))
     have hz:=(ho5.block w.heap.size (by omega) (fun x=>x)).trans (uh HZ4)
     have HL5:=hide ((uh HS4).old ho5)
     have HD5:=hide hS5
     clear hS5 ho5 HM2 HS4
     refine wpAnyG_one (i:=8) (by kernel_rfl) ?_
     refine wpOp_step rfl (fun K' hK=> ?_)
     go_simp
     refine hK _ _ ⟨(fun h=>by cases h), ?_⟩
     clear hK
     refine wpAnyG_one (i:=9) (by kernel_rfl) ?_
     refine op_plain rfl rfl (wp_store_row 112 (.tmp 2) (.tmp 75) rfl w.heap.size #[.pointer (some ⟨w3.heap.size,0,none⟩),.pointer (some ⟨w4.heap.size,0,none⟩)] rfl rfl 112 _ hz infoSets rfl (ptr2_one _ _) ?_)
     refine ⟨(fun h=>by cases h), ?_⟩
     simp only[Act.put]
     refine wpAnyG_one (i:=10) (by kernel_rfl) ?_
     refine wpOp_step rfl (fun K' hK=> ?_)
     go_simp
     refine hK _ _ ⟨(fun h=>by cases h), ?_⟩
     clear hK
     refine wpAnyG_done (by kernel_rfl) ?_
     go_wp2_with fail
     refine bodyPost_ret (results_cell_tmp Tryz.results148 _ _ w.heap.size 112 #[.pointer (some ⟨w3.heap.size,0,none⟩),.pointer (some ⟨w4.heap.size,0,none⟩)] (0,0) _ rfl (setRow_heap w5 w.heap.size _ _ _ _ hz) Tryz.underlying112 rfl infoSets) rfl ⟨?_,.inl ⟨a',l.take M,l.drop M,w3.heap.size,w4.heap.size,HT,(uh HRL).2.2.2,by omega,by omega,rfl, ?_, ?_, ?_⟩⟩
     ·exact (uh HO5).setRow _ (fun h=>absurd h (Nat.lt_irrefl _)) _
     ·exact (uh HUP5).kept ((Only.refl (fun k=>k=w.heap.size) w5).setRow w.heap.size (fun _=>rfl) _) (by omega)
     ·have hq:=(Only.refl (fun k=>k=w.heap.size) w5).setRow w.heap.size (fun _=>rfl) #[.pointer (some ⟨w3.heap.size,0,none⟩),.pointer (some ⟨w4.heap.size,0,none⟩)]
      have hqs:=hq.size
      exact ((uh HL5).kept hq (fun k hk e=>by omega)).mono (fun k hk=>⟨by omega,by omega⟩)
     have hq:=(Only.refl (fun k=>k=w.heap.size) w5).setRow w.heap.size (fun _=>rfl) #[.pointer (some ⟨w3.heap.size,0,none⟩),.pointer (some ⟨w4.heap.size,0,none⟩)]
     have hqs:=hq.size
     exact ((uh HD5).kept hq (fun k hk e=>by omega)).mono (fun k hk=>⟨by omega,by omega⟩)
   have HT:Hid (toldS s a=none):=by
    have e1:=uh HN1
    have e2:=uh HN2
    have e3:=uh HN3
    exact told_row (by rw[e1,e2,e3,←(uh HME),←(uh HFE)];exact hno)
   clear hno
   have hz:=uh HZ3
   go_wp2_with fail
   go_quiet (fail)
   go_wp2_with (refine wpList_store_row rfl 112 (.tmp 2) (.tmp 66) rfl w.heap.size #[.pointer none,.pointer none] rfl rfl 112 _ hz infoSets rfl (ptr2_one _ _) ?_)
   refine bodyPost_ret (results_cell_tmp Tryz.results148 _ _ w.heap.size 112 _ (0,0) _ rfl (setRow_heap w3 w.heap.size _ _ _ _ hz) Tryz.underlying112 rfl infoSets) rfl ⟨?_,.inr ⟨uh HT,rfl⟩⟩
   exact ((uh HO3).drewN _).setRow _ (fun h=>absurd h (Nat.lt_irrefl _)) _
  have HT:Hid (toldS s a=none):=by
   have e3:=uh HN3
   rcases hno with h|h
   ·exact told_cut (by rw[e3];exact h)
   exact told_unfit (by rw[e3];exact h)
  clear hno
  have hz:=uh HZ2
  go_wp2_with (refine wpList_store_row rfl 112 (.tmp 2) (.tmp 44) rfl w.heap.size #[.pointer none,.pointer none] rfl rfl 112 _ hz infoSets rfl (ptr2_one _ _) ?_)
  refine bodyPost_ret (results_cell_tmp Tryz.results148 _ _ w.heap.size 112 _ (0,0) _ rfl (setRow_heap w2 w.heap.size _ _ _ _ hz) Tryz.underlying112 rfl infoSets) rfl ⟨?_,.inr ⟨uh HT,rfl⟩⟩
  exact (uh HO2).setRow _ (fun h=>absurd h (Nat.lt_irrefl _)) _
 have hz:=uh HZ1
 have HLE:=hide hle
 go_wp2_with (refine wpList_store_row rfl 112 (.tmp 2) (.tmp 18) rfl w.heap.size #[.pointer none,.pointer none] rfl rfl 112 _ hz infoSets rfl (ptr2_one _ _) ?_)
 refine bodyPost_ret (results_cell_tmp Tryz.results148 _ _ w.heap.size 112 _ (0,0) _ rfl (setRow_heap w1 w.heap.size _ _ _ _ hz) Tryz.underlying112 rfl infoSets) rfl ⟨?_,.inr ⟨told_short (uh HLE),rfl⟩⟩
 exact (uh HO1).setRow _ (fun h=>absurd h (Nat.lt_irrefl _)) _
end Go.Proofs.YtndfmgdhiallpaaGreatDoor
