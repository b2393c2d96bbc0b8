import Derived.Test.YtndfmgdhiallpaaGreatDoorMf
set_option maxRecDepth 100000
set_option maxHeartbeats 4000000
namespace Go.Proofs.YtndfmgdhiallpaaGreatDoor
open Go.RowKit
theorem bitsum(b:Nat)(h:b<256):b%2+b/2%2*2+b/4%2*4+b/8%2*8+b/16%2*16+b/32%2*32+b/64%2*64+b/128%2*128=b:=by omega
theorem num8(s:ByteArray)(q:Nat):numAt s (8*q) 8=btN s q:=by
 have e: ∀j,j<8→bitAt s (8*q+j)=btN s q/2^j%2:=fun j hj=>by
  unfold bitAt
  rw[show (8*q+j)/8=q by omega,show (8*q+j)%8=j by omega]
 simp only[numAt]
 rw[e 0 (by omega),e 1 (by omega),e 2 (by omega),e 3 (by omega),e 4 (by omega),e 5 (by omega),e 6 (by omega),e 7 (by omega)]
 have:=bitsum (btN s q) (btN_lt s q)
 simp only[Nat.reducePow,Nat.div_one,Nat.mul_one,Nat.zero_add] at this ⊢
 exact this
theorem upTo_ge(a:Nat):a≤upTo a∧upTo a<a+8∧upTo a%8=0:=by unfold upTo;omega
theorem upTo_le{a n:Nat}(h:a≤8*n):upTo a≤8*n:=by unfold upTo;omega
theorem upTo_stop{a b:Nat}(h:a≤b)(hb:b≤upTo a)(hm:b%8=0):b=upTo a:=by unfold upTo at*;omega
theorem upTo_lt{a b:Nat}(hb:b≤upTo a)(hm:b%8≠0):b<upTo a:=by unfold upTo at*;omega
theorem raw_bad{s:ByteArray}{a n a1 e1 m a2 e2:Nat}(l:List UInt8)(h1:NumR s (upTo a) 0 16 n a1 e1)(h2:NumR s a1 e1 16 m a2 e2)(he:e2≠0):rawS s a l=.inr 2∧e2=2:=by
 have hx:8*s.size<upTo a+32∧e2=2:=by
  by_cases he1:e1=0
  ·obtain ⟨g1,g2,g3⟩:=h1.ok he1
   subst he1
   obtain ⟨k1,k2⟩:=h2.bad he
   exact ⟨by omega,k2⟩
  obtain ⟨g1,g2⟩:=h1.bad he1
  exact ⟨by omega,by rw[h2.stay he1,g2]⟩
 unfold rawS
 exact ⟨if_pos hx.1,hx.2⟩
theorem raw_ok{s:ByteArray}{a n a1 e1 m a2 e2:Nat}(l:List UInt8)(h1:NumR s (upTo a) 0 16 n a1 e1)(h2:NumR s a1 e1 16 m a2 e2)(he:e2=0):
 a2=upTo a+32∧a2≤8*s.size∧rawS s a l=if n+m≠65535 then .inr 2 else if 20000<l.length+n then .inr 1 else if 8*s.size<a2+8*n then .inr 2 else .inl ((a2+8*n),(l++rawB s (upTo a/8+4) n)):=by
 have he1:e1=0:=by
  by_cases h:e1=0
  ·exact h
  rw[h2.stay h] at he;exact absurd he h
 obtain ⟨g1,g2,g3⟩:=h1.ok he1
 subst he1
 obtain ⟨k1,k2,k3⟩:=h2.ok he
 have e:a2=upTo a+32:=by omega
 refine ⟨e,by omega, ?_⟩
 unfold rawS
 rw[if_neg (by omega),←g2,show upTo a+16=a1 by omega,←k2,e]
theorem asIs_any(g:Nat)(S:Nat→Prop)(hSg:S g)(s:ByteArray)(hs:s.size≤140737488355328)(a:Nat)(l:List UInt8)(hl:l.length≤20000)(ha:a≤8*s.size)(w:World)(hF:Fresh S w)(h:St w g S s a l 0):
 Calls Tryz.prog 192 #[.pointer (some ⟨g,0,none⟩)] w fun r w' =>
  r=.returned (.tuple #[])∧Only S w w' ∧ ∃a' l' e',SymR s (rawS s a l) a' l' e' ∧St w' g S s a' l' e' :=by
 obtain ⟨ao,cp,hr,how,hsa⟩:=h
 have HR:=hide hr
 have HOW:=hide how
 have HSA:=hide hsa
 clear hr how hsa
 have hup:=upTo_le ha
 go_in
 go_wp2_with fail
 go_loopw [] (fun wr=> ∃b,a≤b∧b≤upTo a∧wr.cell? ⟨g,1,none⟩=some (.int .i64 (b:Nat))∧Hid (Rd wr g s b (.slice ao l.length cp) 0)∧Hid (Only (fun k=>k=g) w wr)) (fun wr=>upTo a- cellN wr g 1)
 ·exact ⟨a,Nat.le_refl _,(upTo_ge a).1,(uh HR).c1,HR,Only.refl _ w⟩
 obtain ⟨b,hb1,hb2,hc1,HRB,HO⟩:=hrel
 have hf1:=(uh HRB).thaw 1
 by_cases hm:b%8=0
 ·have hbu:=upTo_stop hb1 hb2 hm
  subst hbu
  have hmb:(((upTo a:Nat):Int)%8 !=0)=false:=by rw[bne_eq_false_iff_eq];omega
  have HN1:=hide (number_any g s hs (upTo a) (.slice ao l.length cp) 0 16 (by omega) hup wr (uh HRB))
  clear hf1
  go_wp2_with fail
  refine (uh HN1).mono ?_
  rintro r w1 ⟨n,a1,e1,rfl,h1,hr1,ho1⟩
  have HN2:=hide (number_any g s hs a1 (.slice ao l.length cp) e1 16 (by omega) h1.2.1 w1 hr1)
  have hn1:=h1.1
  have H1:=hide h1
  have HO1:=hide ((uh HO).trans ho1)
  clear h1 hr1 ho1 HN1 hc1 hmb hb1 hb2
  go_wp2_with fail
  refine (uh HN2).mono ?_
  rintro r w2 ⟨m,a2,e2,rfl,h2,hr2,ho2⟩
  have hm1:=h2.1
  have H2:=hide h2
  have HO2:=hide ((uh HO1).trans ho2)
  have hc3:=hr2.c3
  have hc2:=hr2.c2
  have HR2:=hide hr2
  have ha2:=h2.2.1
  have hn2:n<65536:=hn1
  have hm2:m<65536:=hm1
  clear h2 hr2 ho2 HN2 hn1 hm1
  by_cases he2:e2=0
  ·subst he2
   obtain ⟨hae,_,hrw⟩:=raw_ok l (uh H1) (uh H2) rfl
   have HRW:=hide hrw
   have HAE:=hide hae
   have hc3' :w2.cell? ⟨g,3,none⟩=some (.int .i64 0):=hc3
   clear hrw hae hc3
   by_cases hsum:n+m=65535
   ·have hsb:((n:Int)+(m:Int) !=65535)=false:=by rw[bne_eq_false_iff_eq];omega
    rw[if_neg (by omega)] at HRW
    by_cases hbig:20000<l.length+n
    ·have hbI:(20000:Int)<(l.length:Int)+(n:Int):=by omega
     rw[if_pos hbig] at HRW
     have HFA:=hide (fail_any g s a2 (.slice ao l.length cp) 0 1 w2 (uh HR2))
     go_wp2_with fail
     refine (uh HFA).mono ?_
     rintro r w4 ⟨rfl,hr4,ho4⟩
     have HO4:=hide ((uh HO2).trans ho4)
     have hr4' :Rd w4 g s a2 (.slice ao l.length cp) 1:=hr4
     have hc4:w4.cell? ⟨g,3,none⟩=some (.int .i64 1):=hr4'.c3
     have HR4:=hide hr4'
     clear ho4 hr4 hr4' hc3'
     go_wp2_with fail
     go_loop [4,5] (fun i _=>i=.int .i64 0) (fun _ _=>0)
     ·rfl
     subst hrel
     by_cases hnn:0<n
     ·have hnI:(0:Int)<(n:Int):=by omega
      go_wp2_with fail
      go_end0
      exact ⟨rfl,(uh HO4).of_g hSg,a2,l,1,⟨ha2,hl,.inr ⟨uh HRW,by omega⟩⟩,St.next (uh HR) (uh HOW) (uh HSA) (uh HO4) (uh HR4)⟩
     have hnI:¬(0:Int)<(n:Int):=by omega
     go_wp2_with fail
     go_end0
     exact ⟨rfl,(uh HO4).of_g hSg,a2,l,1,⟨ha2,hl,.inr ⟨uh HRW,by omega⟩⟩,St.next (uh HR) (uh HOW) (uh HSA) (uh HO4) (uh HR4)⟩
    have hbI:¬(20000:Int)<(l.length:Int)+(n:Int):=by omega
    rw[if_neg hbig] at HRW
    have HST:=hide (St.next (uh HR) (uh HOW) (uh HSA) (uh HO2) (uh HR2))
    have HO2S:=hide ((uh HO2).of_g hSg)
    have h80:a2%8=0∧a2/8=upTo a/8+4:=by have:=(upTo_ge a).2.2;have:=uh HAE;omega
    have H80:=hide h80
    clear HR HOW HSA HO2 HR2 h80
    go_wp2_with fail
    clear hc2 hc3'
    go_loopw [4,5] (fun i _ wr=> ∃(j e' :Nat),j≤n∧i=.int .i64 j∧wr.cell? ⟨g,3,none⟩=some (.int .i64 e')∧Hid (∃a' l',St wr g S s a' l' e' ∧a' ≤8*s.size∧l'.length≤20000∧((e' =0∧a' =a2+8*j∧l' =l++rawB s (upTo a/8+4) j)∨(e' =2∧8*s.size<a2+8*n)))∧Hid (Only S w wr)) (fun i _ _=>n- (intOf i).toNat)
    ·obtain ⟨ao3,cp3,hr3,_⟩:=uh HST
     exact ⟨0,0,by omega,rfl,hr3.c3,⟨a2,l,HST,ha2,hl,.inl ⟨rfl,by omega,by simp[rawB]⟩⟩,HO2S⟩
    obtain ⟨j,e',hj,rfl,hc3,HI,HO⟩:=hrel
    obtain ⟨a',l',hst,ha',hl',hcs⟩:=uh HI
    by_cases he:e' =0
    ·subst he
     obtain ⟨_,haj,hlj⟩:0=0∧a' =a2+8*j∧l' =l++rawB s (upTo a/8+4) j:=by
      rcases hcs with h|⟨h,_⟩
      ·exact h
      cases h
     have hc3' :wr.cell? ⟨g,3,none⟩=some (.int .i64 0):=hc3
     clear hcs hc3
     by_cases hjn:j<n
     ·have hjI:(j:Int)<(n:Int):=by omega
      obtain ⟨ao3,cp3,hr3,how3,hsa3⟩:=hst
      have HN8:=hide (number_any g s hs a' (.slice ao3 l'.length cp3) 0 8 (by omega) ha' wr hr3)
      have HR3:=hide hr3
      have HOW3:=hide how3
      have HSA3:=hide hsa3
      have HAJ:=hide haj
      have HLJ:=hide hlj
      have hll:l'.length<20000:=by rw[hlj,List.length_append,rawB_len];omega
      clear hr3 how3 hsa3 haj hlj HI
      go_wp2_with fail
      refine (uh HN8).mono ?_
      rintro r w4 ⟨v,a4,e4,rfl,h4,hr4,ho4⟩
      have hc4:=hr4.c3
      have hv:v<256:=h4.1
      have HST4:=hide (St.next (uh HR3) (uh HOW3) (uh HSA3) ho4 hr4)
      have HO4:=hide ((uh HO).trans (ho4.of_g hSg))
      have H4:=hide h4
      have ha4:=h4.2.1
      clear h4 hr4 ho4 hc3'
      by_cases he4:e4=0
      ·subst he4
       have hc4' :w4.cell? ⟨g,3,none⟩=some (.int .i64 0):=hc4
       have HWR:=hide (write_room g S hSg s a4 l' hll 0 v hv w4 (hF.mono (uh HO4).size) (uh HST4))
       clear hc4
       go_wp2_with (go_at_call 284;refine (uh HWR).mono ?_;rintro r w5 ⟨rfl,ho5,hst5⟩;have HO5:=hide ((uh HO4).trans ho5);have HST5:=hide hst5;clear ho5 hst5)
       go_roundw
       ·obtain ⟨k1,k2,k3⟩:=(uh H4).ok rfl
        obtain ⟨q1,q2⟩:=uh H80
        have haj:=uh HAJ
        have e8:a' =8*(upTo a/8+4+j):=by omega
        have hvb:v=btN s (upTo a/8+4+j):=by rw[k2,e8,num8]
        obtain ⟨ao5,cp5,hr5,_⟩:=uh HST5
        refine ⟨j+1,0,by omega,by go_num,hr5.c3,⟨a4,l' ++[b8 v],HST5,ha4,by simp;omega,.inl ⟨rfl,by omega, ?_⟩⟩,HO5⟩
        rw[rawB_succ,←List.append_assoc,←uh HLJ,hvb]
       case measure=>simp[intOf];omega
      obtain ⟨k1,k2⟩:=(uh H4).bad he4
      have HK1:=hide k1
      subst k2
      have hc4' :w4.cell? ⟨g,3,none⟩=some (.int .i64 2):=hc4
      clear hc4 k1
      go_wp2_with fail
      go_roundw
      ·exact ⟨j+1,2,by omega,by go_num,hc4',⟨a4,l',HST4,ha4,by omega,.inr ⟨rfl,by have:=uh HK1;have:=uh HAJ;omega⟩⟩,HO4⟩
      case measure=>simp[intOf];omega
     have hjI:¬(j:Int)<(n:Int):=by omega
     have hje:j=n:=by omega
     have HST9:=hide hst
     have HAJ:=hide haj
     have HLJ:=hide hlj
     clear hst haj hlj HI
     go_wp2_with fail
     go_end0
     have h9:=uh HRW
     have haj:=uh HAJ
     rw[hje] at haj
     rw[if_neg (by omega),←haj,←hje,←uh HLJ] at h9
     exact ⟨rfl,HO,a',l',0,⟨ha',hl',.inl ⟨h9,rfl⟩⟩,HST9⟩
    obtain ⟨he2,hbd⟩:e' =2∧8*s.size<a2+8*n:=by
     rcases hcs with ⟨h,_⟩|h
     ·exact absurd h he
     exact h
    subst he2
    have hc3' :wr.cell? ⟨g,3,none⟩=some (.int .i64 2):=hc3
    have HST9:=hide hst
    have h9:=uh HRW
    rw[if_pos hbd] at h9
    have H9:=hide h9
    clear hst hcs hc3 HI h9
    by_cases hjn:j<n
    ·have hjI:(j:Int)<(n:Int):=by omega
     go_wp2_with fail
     go_end0
     exact ⟨rfl,HO,a',l',2,⟨ha',hl',.inr ⟨uh H9,by omega⟩⟩,HST9⟩
    have hjI:¬(j:Int)<(n:Int):=by omega
    go_wp2_with fail
    go_end0
    exact ⟨rfl,HO,a',l',2,⟨ha',hl',.inr ⟨uh H9,by omega⟩⟩,HST9⟩
   have hsb:((n:Int)+(m:Int) !=65535)=true:=by rw[bne_iff_ne];omega
   rw[if_pos hsum] at HRW
   have HFA:=hide (fail_any g s a2 (.slice ao l.length cp) 0 2 w2 (uh HR2))
   go_wp2_with fail
   refine (uh HFA).mono ?_
   rintro r w4 ⟨rfl,hr4,ho4⟩
   have HO4:=hide ((uh HO2).trans ho4)
   have hr4' :Rd w4 g s a2 (.slice ao l.length cp) 2:=hr4
   have hc4:w4.cell? ⟨g,3,none⟩=some (.int .i64 2):=hr4'.c3
   have HR4:=hide hr4'
   clear ho4 hr4 hr4' hc3'
   go_wp2_with fail
   go_loop [4,5] (fun i _=>i=.int .i64 0) (fun _ _=>0)
   ·rfl
   subst hrel
   by_cases hnn:0<n
   ·have hnI:(0:Int)<(n:Int):=by omega
    go_wp2_with fail
    go_end0
    exact ⟨rfl,(uh HO4).of_g hSg,a2,l,2,⟨ha2,hl,.inr ⟨uh HRW,by omega⟩⟩,St.next (uh HR) (uh HOW) (uh HSA) (uh HO4) (uh HR4)⟩
   have hnI:¬(0:Int)<(n:Int):=by omega
   go_wp2_with fail
   go_end0
   exact ⟨rfl,(uh HO4).of_g hSg,a2,l,2,⟨ha2,hl,.inr ⟨uh HRW,by omega⟩⟩,St.next (uh HR) (uh HOW) (uh HSA) (uh HO4) (uh HR4)⟩
  obtain ⟨hrw,he22⟩:=raw_bad l (uh H1) (uh H2) he2
  have HRW:=hide hrw
  subst he22
  have hc3' :w2.cell? ⟨g,3,none⟩=some (.int .i64 2):=hc3
  clear hrw hc3
  by_cases hsum:n+m=65535
  ·have hsb:((n:Int)+(m:Int) !=65535)=false:=by rw[bne_eq_false_iff_eq];omega
   go_wp2_with fail
   go_loop [4,5] (fun i _=>i=.int .i64 0) (fun _ _=>0)
   ·rfl
   subst hrel
   by_cases hnn:0<n
   ·have hnI:(0:Int)<(n:Int):=by omega
    go_wp2_with fail
    go_end0
    exact ⟨rfl,(uh HO2).of_g hSg,a2,l,2,⟨ha2,hl,.inr ⟨uh HRW,by omega⟩⟩,St.next (uh HR) (uh HOW) (uh HSA) (uh HO2) (uh HR2)⟩
   have hnI:¬(0:Int)<(n:Int):=by omega
   go_wp2_with fail
   go_end0
   exact ⟨rfl,(uh HO2).of_g hSg,a2,l,2,⟨ha2,hl,.inr ⟨uh HRW,by omega⟩⟩,St.next (uh HR) (uh HOW) (uh HSA) (uh HO2) (uh HR2)⟩
  have hsb:((n:Int)+(m:Int) !=65535)=true:=by rw[bne_iff_ne];omega
  have HFA:=hide (fail_any g s a2 (.slice ao l.length cp) 2 2 w2 (uh HR2))
  go_wp2_with fail
  refine (uh HFA).mono ?_
  rintro r w4 ⟨rfl,hr4,ho4⟩
  have HO4:=hide ((uh HO2).trans ho4)
  have hr4' :Rd w4 g s a2 (.slice ao l.length cp) 2:=hr4
  have hc4:w4.cell? ⟨g,3,none⟩=some (.int .i64 2):=hr4'.c3
  have HR4:=hide hr4'
  clear ho4 hr4 hr4' hc3'
  go_wp2_with fail
  go_loop [4,5] (fun i _=>i=.int .i64 0) (fun _ _=>0)
  ·rfl
  subst hrel
  by_cases hnn:0<n
  ·have hnI:(0:Int)<(n:Int):=by omega
   go_wp2_with fail
   go_end0
   exact ⟨rfl,(uh HO4).of_g hSg,a2,l,2,⟨ha2,hl,.inr ⟨uh HRW,by omega⟩⟩,St.next (uh HR) (uh HOW) (uh HSA) (uh HO4) (uh HR4)⟩
  have hnI:¬(0:Int)<(n:Int):=by omega
  go_wp2_with fail
  go_end0
  exact ⟨rfl,(uh HO4).of_g hSg,a2,l,2,⟨ha2,hl,.inr ⟨uh HRW,by omega⟩⟩,St.next (uh HR) (uh HOW) (uh HSA) (uh HO4) (uh HR4)⟩
 have hmb:((b:Int)%8 !=0)=true:=by rw[bne_iff_ne];omega
 have hlt:=upTo_lt hb2 hm
 have HM:=hide (cellN_of hc1)
 have hbs:b≤1125899906842624:=by omega
 go_wp2_with fail
 go_roundw
 ·have hr2:=(uh HRB).set1 (v:=.int .i64 ((b:Int)+1)) (a' :=b+1) rfl
  exact ⟨b+1,by omega,hlt,hr2.c1,hr2,(uh HO).setCell (p:=⟨g,1,none⟩) (fun _=>rfl) _⟩
 have hr2:=(uh HRB).set1 (v:=.int .i64 ((b:Int)+1)) (a' :=b+1) rfl
 rw[uh HM,cellN_of hr2.c1];omega
open Go.RowKit Go.Maps
def lenV:Value→Nat| .slice _ n _=>n|_=>0
theorem own_keptB{S:Nat→Prop}{w w' :World}{base:Nat}{e:TypeId}{v:Value}{n:Nat}{xs:List Value}(h:w.ownsRow base e 1 v n xs)(ho:Only S w w')(hs: ∀b,v.ownBlock=some b→¬S b):w'.ownsRow base e 1 v n xs:=by
 obtain ⟨hl,h|⟨b,cap,cur,hv,h1,hg,r⟩⟩:=h
 ·exact ⟨hl,.inl h⟩
 exact ⟨hl,.inr ⟨b,cap,cur,hv,h1,(ho.block b (Array.getElem?_eq_some_iff.1 hg).1 (hs b (by rw[hv];rfl))).trans hg,r⟩⟩
theorem own_ne3{w:World}{base:Nat}{v:Value}{n:Nat}{xs:List Value}(h:w.ownsRow base 3 1 v n xs){b:Nat}(hb:v.ownBlock=some b){g:Nat}{s:ByteArray}{a:Nat}{o:Value}{e:Nat}(hr:Rd w g s a o e):b≠g:=by
 rintro rfl
 obtain ⟨hl,h|⟨b',cap,cur,hv,h1,hg,r⟩⟩:=h
 ·rw[h.1] at hb;cases hb
 rw[hv] at hb;injection hb with hb;subst hb
 rw[hr] at hg
 injection hg with hg;injection hg with _ h2;exact absurd h2 (by decide)
theorem row_first{s:ByteArray}{C:List Nat}{many a y a1 e1:Nat}{l:List Nat}(h1:CodeR s C a 0 y a1 e1)(hy:y=16)(hl:l.length=0):stepR s C many a l=none∧orE e1 2=2:=by
 unfold stepR
 by_cases he:e1=0
 ·rw[h1.ok he]
  subst he
  exact ⟨if_pos ⟨hy,hl⟩,rfl⟩
 rw[(h1.bad he).1,(h1.bad he).2];exact ⟨rfl,rfl⟩
theorem row_bad{s:ByteArray}{C:List Nat}{many a y a1 e1 v a2 e2:Nat}{l:List Nat}(h1:CodeR s C a 0 y a1 e1)(hy:¬(y=16∧l.length=0))(h2:NumR s a1 e1 (rowBits y) v a2 e2)(he:e2≠0):stepR s C many a l=none∧e2=2:=by
 unfold stepR
 by_cases he1:e1=0
 ·rw[h1.ok he1]
  subst he1
  obtain ⟨k1,k2⟩:=h2.bad he
  refine ⟨?_,k2⟩
  show (if y=16∧l.length=0 then _ else _)=_
  rw[if_neg hy,if_pos k1]
 rw[(h1.bad he1).1,h2.stay he1,(h1.bad he1).2];exact ⟨rfl,rfl⟩
theorem row_ok{s:ByteArray}{C:List Nat}{many a y a1 e1 v a2 e2:Nat}{l:List Nat}(h1:CodeR s C a 0 y a1 e1)(hy:¬(y=16∧l.length=0))(h2:NumR s a1 e1 (rowBits y) v a2 e2)(he:e2=0):
 stepR s C many a l=if many<l.length+(rowBase y+v) then none else some (a2,l++List.replicate (rowBase y+v) (rowWhat y l)):=by
 have he1:e1=0:=by
  by_cases h:e1=0
  ·exact h
  rw[h2.stay h] at he;exact absurd he h
 subst he1
 obtain ⟨k1,k2,k3⟩:=h2.ok he
 unfold stepR
 rw[h1.ok rfl]
 show (if y=16∧l.length=0 then _ else _)=_
 rw[if_neg hy,if_neg (by omega),←k2,←k3]
theorem row_any(g:Nat)(s:ByteArray)(hs:s.size≤140737488355328)(a:Nat)(o:Value)(ha:a≤8*s.size)(gc cc:Nat)(C:List Nat)(hC:C.length=19)(many:Nat)(hmany:many≤320)(w:World)(h:Rd w g s a o 0)(hI:Ints w gc 0 C):
 Calls Tryz.prog 288 #[.pointer (some ⟨g,0,none⟩),.slice (some ⟨gc,0,none⟩) 19 cc,.int .i64 many] w fun r w' =>
  Only (fun k=>k=g) w w' ∧ ∃a' e' ao n cap,r=.returned (.slice ao n cap)∧a' ≤8*s.size∧Rd w' g s a' o e' ∧((e' =0∧ ∃l,rowS s C many a []=some (a',l)∧n=l.length∧w'.ownsRow w.heap.size 3 1 (.slice ao n cap) n (intCells l))∨(e' =2∧rowS s C many a []=none)):=by
 obtain ⟨i0,hi0,hz0,hz1,hz2⟩:=info_parts infoI3
 have hne:=hI.ne h
 have HR:=hide h
 have HI:=hide hI
 clear h hI
 go_in
 go_wp2_with fail
 go_loopw [7,8,9,10,11] (fun v _ _ _ _ wr=> ∃(n:Nat) (ao:Option Addr) (cap e' :Nat),n≤many∧v=.slice ao n cap∧wr.cell? ⟨g,3,none⟩=some (.int .i64 e')∧Hid (∃xs,wr.ownsRow w.heap.size 3 1 (.slice ao n cap) n xs)∧
  Hid (∃a',a' ≤8*s.size∧Rd wr g s a' o e' ∧((e' =0∧ ∃l,l.length=n∧(wr.ownsRow w.heap.size 3 1 (.slice ao n cap) n (intCells l))∧rowS s C many a []=rowS s C many a' l)∨(e' =2∧rowS s C many a []=none)))∧Hid (Only (fun k=>k=g) w wr))
  (fun v _ _ _ _ wr=>2*(many- lenV v)+if cellN wr g 3=0 then 1 else 0)
 ·exact ⟨0,none,0,0,by omega,rfl,(uh HR).c3,⟨[],World.ownsRow_nil _ _ _ _⟩,⟨a,ha,HR,.inl ⟨rfl,[],rfl,World.ownsRow_nil _ _ _ _,rfl⟩⟩,Only.refl _ w⟩
 obtain ⟨n,ao,cap,e',hn,rfl,hc3,HXS,HS,HO⟩:=hrel
 obtain ⟨a',ha',hrd,hcs⟩:=uh HS
 by_cases he:e' =0
 ·subst he
  obtain ⟨_,l,hln,hown,heq⟩:0=0∧ ∃l,l.length=n∧(wr.ownsRow w.heap.size 3 1 (.slice ao n cap) n (intCells l))∧rowS s C many a []=rowS s C many a' l:=by
   rcases hcs with h|⟨h,_⟩
   ·exact h
   cases h
  have hc3z:wr.cell? ⟨g,3,none⟩=some (.int .i64 0):=hc3
  have HM:=hide (cellN_of hc3)
  clear hcs hc3 HXS HS
  by_cases hlt:n<many
  ·have hltI:(n:Int)<(many:Int):=by omega
   have HCD:=hide (code_any g s hs a' o 0 ha' gc 0 cc C (by omega) wr hrd ((uh HI).kept (uh HO) hne))
   rw[hC] at HCD
   have HOWN:=hide hown
   have HEQ:=hide heq
   have HLN:=hide hln
   have HRD:=hide hrd
   clear hown heq hln hrd
   go_wp2_with fail
   refine (uh HCD).mono ?_
   rintro r w1 ⟨y,a1,e1,rfl,h1,hr1,ho1⟩
   have hy19:y≤19:=by have:=h1.2.1;omega
   have HO1:=hide ((uh HO).trans ho1)
   have HOWN1:=hide (own_keptB (uh HOWN) ho1 (fun b hb=>own_ne3 (uh HOWN) hb (uh HRD)))
   have HR1:=hide hr1
   clear ho1 hc3z HCD
   by_cases hy16:y=16
   ·subst hy16
    by_cases hn0:n=0
    ·subst hn0
     have HFA:=hide (fail_any g s a1 o e1 2 w1 hr1)
     have HNO:=hide (row_first (many:=many) (l:=l) h1 rfl (uh HLN))
     have ha1:=h1.1.2
     clear h1 hr1
     go_wp2_with fail
     refine (uh HFA).mono ?_
     rintro r w4 ⟨rfl,hr4,ho4⟩
     rw[(uh HNO).2] at hr4
     have HR4:=hide hr4
     have HO4:=hide ((uh HO1).trans ho4)
     clear hr4 ho4
     go_wp2_with fail
     go_ret
     exact ⟨HO4,a1,2,ao,0,cap,rfl,ha1,HR4,.inr ⟨rfl,by rw[uh HEQ,rowS_step (by rw[uh HLN];exact hlt),(uh HNO).1]⟩⟩
    have hn0b:((n:Int)==0)=false:=by rw[beq_eq_false_iff_ne];omega
    obtain ⟨b,cap',hvv,_,_⟩:=(uh HOWN1).form (by omega)
    injection hvv with hv1 hv2 hv3
    subst hv1 hv3
    have hce:w1.cell? ⟨b,n- 1,none⟩=some (.int .i64 (l.getD (l.length- 1) 0:Nat)):=by
     have:=(Ints.ofOwns (uh HLN) (uh HOWN1)).cell (j:=n- 1) (by rw[uh HLN];omega)
     rw[Nat.zero_add] at this
     rw[uh HLN];exact this
    have hk1:(n:Int)- 1<(n:Int):=by omega
    have hk0:(0:Int)≤(n:Int)- 1:=by omega
    have hkn:((n:Int)- 1).toNat=n- 1:=by omega
    have hp1:(1:Int)≤(n:Int):=by omega
    generalize hwl:l.getD (l.length- 1) 0=wl at hce
    have HWL:=hide hwl
    clear hwl
    have HNM:=hide (number_any g s hs a1 o e1 2 (by omega) h1.1.2 w1 hr1)
    have H1:=hide h1
    have ha1:=h1.1.2
    clear h1 hr1
    go_wp2_with fail
    refine (uh HNM).mono ?_
    rintro r w2 ⟨v,a2,e2,rfl,h2,hr2,ho2⟩
    have hv:v<2^2:=h2.1
    have hv2:v<4:=hv
    have ha2:=h2.2.1
    have HBAD:=hide (row_bad (many:=many) (l:=l) (uh H1) (by have:=uh HLN;omega) h2)
    have HOK:Hid (e2=0→stepR s C many a' l=if many<l.length+(3+v) then none else some (a2,l++List.replicate (3+v) wl)):=fun he=>by have:=row_ok (many:=many) (l:=l) (uh H1) (by have:=uh HLN;omega) h2 he;rw[←uh HWL];exact this
    have HR2:=hide hr2
    have HO2:=hide ((uh HO1).trans ho2)
    have HOWN2:=hide (own_keptB (uh HOWN1) ho2 (fun b hb=>own_ne3 (uh HOWN1) hb (uh HR1)))
    clear h2 hr2 ho2 hv HNM
    have hc32:=(uh HR2).c3
    by_cases hbig:many<n+(3+v)
    ·have hbI:(many:Int)<(n:Int)+(3+(v:Int)):=by omega
     have HNO:Hid (stepR s C many a' l=none∧orE e2 2=2):=by
      by_cases h:e2=0
      ·have:=uh HOK h
       rw[if_pos (by rw[uh HLN];exact hbig)] at this
       subst h
       exact ⟨this,rfl⟩
      obtain ⟨k1,k2⟩:=uh HBAD h
      subst k2
      exact ⟨k1,rfl⟩
     have HFA:=hide (fail_any g s a2 o e2 2 w2 (uh HR2))
     go_wp2_with fail
     refine (uh HFA).mono ?_
     rintro r w4 ⟨rfl,hr4,ho4⟩
     rw[(uh HNO).2] at hr4
     have HO4:=hide ((uh HO2).trans ho4)
     have hc4:w4.cell? ⟨g,3,none⟩=some (.int .i64 2):=hr4.c3
     have HR4:=hide hr4
     have HOWN4:=hide (own_keptB (uh HOWN2) ho4 (fun b hb=>own_ne3 (uh HOWN2) hb (uh HR2)))
     clear ho4 hr4 hc32
     go_wp2_with fail
     go_loop [7,11] (fun x i=>x=.slice (some ⟨b,0,none⟩) n cap∧i=.int .i64 0) (fun _ _=>0)
     ·exact ⟨rfl,rfl⟩
     obtain ⟨rfl,rfl⟩:=hrel
     have hnI:(0:Int)<(3+(v:Int)):=by omega
     go_wp2_with fail
     go_roundw
     ·exact ⟨n,(some ⟨b,0,none⟩),cap,2,hn,rfl,hc4,⟨_,HOWN4⟩,⟨a2,ha2,HR4,.inr ⟨rfl,by rw[uh HEQ,rowS_step (by rw[uh HLN];exact hlt),(uh HNO).1]⟩⟩,HO4⟩
     rw[uh HM,cellN_of (uh HR4).c3];simp[lenV]
    have hbI:¬(many:Int)<(n:Int)+(3+(v:Int)):=by omega
    by_cases he2:e2=0
    ·subst he2
     have HSTP:=hide (uh HOK rfl)
     rw[if_neg (by rw[uh HLN];exact hbig)] at HSTP
     have hc3z:w2.cell? ⟨g,3,none⟩=some (.int .i64 0):=hc32
     clear hc32 HBAD HOK
     go_wp2_with fail
     go_loopw [7,11] (fun x i wr=> ∃(j:Nat) (ao2:Option Addr) (cap2:Nat),j≤(3+v)∧x=.slice ao2 (n+j) cap2∧i=.int .i64 j∧Hid (wr.ownsRow w.heap.size 3 1 (.slice ao2 (n+j) cap2) (n+j) (intCells (l++List.replicate j wl)))∧Hid (Rd wr g s a2 o 0)∧Hid (Only (fun k=>k=g) w wr)) (fun _ i _=>(3+v)- (intOf i).toNat)
     ·exact ⟨0,(some ⟨b,0,none⟩),cap,by omega,rfl,rfl,(show World.ownsRow _ _ _ _ _ _ _ by simpa using uh HOWN2),HR2,HO2⟩
     obtain ⟨j,ao2,cap2,hj,rfl,rfl,HOWN,HRD,HO⟩:=hrel
     have hc3j:wr.cell? ⟨g,3,none⟩=some (.int .i64 0):=(uh HRD).c3
     by_cases hjn:j<(3+v)
     ·have hjI:(j:Int)<(3+(v:Int)):=by omega
      have HNW:=hide (int_new (wr:=wr) (n:=(wl:Nat)))
      have HOWA:Hid ((wr.alloc (.cells #[.int .i64 (wl:Nat)] 3)).ownsRow w.heap.size 3 1 (.slice ao2 (n+j) cap2) (n+j) (intCells (l++List.replicate j wl))):=(uh HOWN).alloc _
      have HSZ:Hid (w.heap.size≤(wr.alloc (.cells #[.int .i64 (wl:Nat)] 3)).heap.size):=by have:=(uh HO).size;unfold Hid;simp only[World.size_alloc];omega
      have HRA:=hide ((uh HRD).kept ((Only.refl (fun _=>False) wr).alloc (.cells #[.int .i64 (wl:Nat)] 3)) (fun x=>x))
      have HNE:=hide (fun b hb=>own_ne3 (uh HOWA) (b:=b) hb (uh HRA))
      go_wp2_with (at_builtin;refine wpList_append_lies _ rfl (.tmp 75) (.tmp 77) 33 rfl w.heap.size 3 i0 (.int .i64 0) 1 8 Tryz.underlying33 hi0 hz0 hz1 hz2 rfl (by omega) (.slice ao2 (n+j) cap2) (n+j) _ rfl (uh HOWA) ⟨wr.heap.size,0,none⟩ 1 1 [.int .i64 (wl:Nat)] rfl rfl (uh HNW) (by intro u hu;simp at hu;subst hu;rfl) (by omega) (by unfold maxLen;omega) (by omega) (uh HSZ) _ rfl ?_;intro g2 cap3 w3 ho3 hg3 hl3 hlt3;have HO3:=hide ho3;have HG3:=hide hg3;have HB:=hide (own_base (uh HOWA));clear ho3 hg3 hl3)
      go_roundw
      ·refine ⟨j+1,some ⟨g2,0,none⟩,cap3,by omega,by rw[Nat.add_assoc],by go_num, ?_, ?_, ?_⟩
       ·have e:intCells (l++List.replicate (j+1) wl)=intCells (l++List.replicate j wl)++[.int .i64 (wl:Nat)]:=by rw[List.replicate_succ',←List.append_assoc];simp[intCells]
        rw[e];exact uh HO3
       ·exact ((uh HG3).block g (uh HRA).lt (fun hh=>uh HNE g hh.symm rfl)).trans (uh HRA)
       exact ((uh HO).alloc _).grown (uh HG3) (fun q hq e=>absurd hq (by have:=uh HB q e;omega))
      case measure=>simp[intOf];omega
     have hjI:¬(j:Int)<(3+(v:Int)):=by omega
     have hje:j=(3+v):=by omega
     go_wp2_with fail
     go_roundw
     ·refine ⟨n+j,ao2,cap2,0,by omega,rfl,hc3j,⟨_,HOWN⟩,⟨a2,ha2,HRD,.inl ⟨rfl,l++List.replicate j wl,by rw[List.length_append,List.length_replicate,uh HLN],HOWN, ?_⟩⟩,HO⟩
      rw[uh HEQ,rowS_step (by rw[uh HLN];exact hlt),uh HSTP,hje]
     rw[uh HM,cellN_of hc3j];simp[lenV];omega
    obtain ⟨k1,k2⟩:=uh HBAD he2
    have HK1:=hide k1
    subst k2
    have hc3z:w2.cell? ⟨g,3,none⟩=some (.int .i64 2):=hc32
    clear k1 hc32 HBAD HOK
    go_wp2_with fail
    go_loop [7,11] (fun x i=>x=.slice (some ⟨b,0,none⟩) n cap∧i=.int .i64 0) (fun _ _=>0)
    ·exact ⟨rfl,rfl⟩
    obtain ⟨rfl,rfl⟩:=hrel
    have hnI:(0:Int)<(3+(v:Int)):=by omega
    go_wp2_with fail
    go_roundw
    ·exact ⟨n,(some ⟨b,0,none⟩),cap,2,hn,rfl,hc3z,⟨_,HOWN2⟩,⟨a2,ha2,HR2,.inr ⟨rfl,by rw[uh HEQ,rowS_step (by rw[uh HLN];exact hlt),uh HK1]⟩⟩,HO2⟩
    rw[uh HM,cellN_of hc3z];simp[lenV]
   have hy16b:((y:Int)==16)=false:=by rw[beq_eq_false_iff_ne];omega
   by_cases hy17:y=17
   ·subst hy17
    have HNM:=hide (number_any g s hs a1 o e1 3 (by omega) h1.1.2 w1 hr1)
    have H1:=hide h1
    have ha1:=h1.1.2
    clear h1 hr1
    go_wp2_with fail
    refine (uh HNM).mono ?_
    rintro r w2 ⟨v,a2,e2,rfl,h2,hr2,ho2⟩
    have hv:v<2^3:=h2.1
    have hv2:v<8:=hv
    have ha2:=h2.2.1
    have HBAD:=hide (row_bad (many:=many) (l:=l) (uh H1) (by have:=uh HLN;omega) h2)
    have HOK:Hid (e2=0→stepR s C many a' l=if many<l.length+(3+v) then none else some (a2,l++List.replicate (3+v) (0))):=row_ok (many:=many) (l:=l) (uh H1) (by have:=uh HLN;omega) h2
    have HR2:=hide hr2
    have HO2:=hide ((uh HO1).trans ho2)
    have HOWN2:=hide (own_keptB (uh HOWN1) ho2 (fun b hb=>own_ne3 (uh HOWN1) hb (uh HR1)))
    clear h2 hr2 ho2 hv HNM
    have hc32:=(uh HR2).c3
    by_cases hbig:many<n+(3+v)
    ·have hbI:(many:Int)<(n:Int)+(3+(v:Int)):=by omega
     have HNO:Hid (stepR s C many a' l=none∧orE e2 2=2):=by
      by_cases h:e2=0
      ·have:=uh HOK h
       rw[if_pos (by rw[uh HLN];exact hbig)] at this
       subst h
       exact ⟨this,rfl⟩
      obtain ⟨k1,k2⟩:=uh HBAD h
      subst k2
      exact ⟨k1,rfl⟩
     have HFA:=hide (fail_any g s a2 o e2 2 w2 (uh HR2))
     go_wp2_with fail
     refine (uh HFA).mono ?_
     rintro r w4 ⟨rfl,hr4,ho4⟩
     rw[(uh HNO).2] at hr4
     have HO4:=hide ((uh HO2).trans ho4)
     have hc4:w4.cell? ⟨g,3,none⟩=some (.int .i64 2):=hr4.c3
     have HR4:=hide hr4
     have HOWN4:=hide (own_keptB (uh HOWN2) ho4 (fun b hb=>own_ne3 (uh HOWN2) hb (uh HR2)))
     clear ho4 hr4 hc32
     go_wp2_with fail
     go_loop [7,11] (fun x i=>x=.slice ao n cap∧i=.int .i64 0) (fun _ _=>0)
     ·exact ⟨rfl,rfl⟩
     obtain ⟨rfl,rfl⟩:=hrel
     have hnI:(0:Int)<(3+(v:Int)):=by omega
     go_wp2_with fail
     go_roundw
     ·exact ⟨n,ao,cap,2,hn,rfl,hc4,⟨_,HOWN4⟩,⟨a2,ha2,HR4,.inr ⟨rfl,by rw[uh HEQ,rowS_step (by rw[uh HLN];exact hlt),(uh HNO).1]⟩⟩,HO4⟩
     rw[uh HM,cellN_of (uh HR4).c3];simp[lenV]
    have hbI:¬(many:Int)<(n:Int)+(3+(v:Int)):=by omega
    by_cases he2:e2=0
    ·subst he2
     have HSTP:=hide (uh HOK rfl)
     rw[if_neg (by rw[uh HLN];exact hbig)] at HSTP
     have hc3z:w2.cell? ⟨g,3,none⟩=some (.int .i64 0):=hc32
     clear hc32 HBAD HOK
     go_wp2_with fail
     go_loopw [7,11] (fun x i wr=> ∃(j:Nat) (ao2:Option Addr) (cap2:Nat),j≤(3+v)∧x=.slice ao2 (n+j) cap2∧i=.int .i64 j∧Hid (wr.ownsRow w.heap.size 3 1 (.slice ao2 (n+j) cap2) (n+j) (intCells (l++List.replicate j 0)))∧Hid (Rd wr g s a2 o 0)∧Hid (Only (fun k=>k=g) w wr)) (fun _ i _=>(3+v)- (intOf i).toNat)
     ·exact ⟨0,ao,cap,by omega,rfl,rfl,(show World.ownsRow _ _ _ _ _ _ _ by simpa using uh HOWN2),HR2,HO2⟩
     obtain ⟨j,ao2,cap2,hj,rfl,rfl,HOWN,HRD,HO⟩:=hrel
     have hc3j:wr.cell? ⟨g,3,none⟩=some (.int .i64 0):=(uh HRD).c3
     by_cases hjn:j<(3+v)
     ·have hjI:(j:Int)<(3+(v:Int)):=by omega
      have HNW:=hide (int_new (wr:=wr) (n:=0))
      have HOWA:Hid ((wr.alloc (.cells #[.int .i64 0] 3)).ownsRow w.heap.size 3 1 (.slice ao2 (n+j) cap2) (n+j) (intCells (l++List.replicate j 0))):=(uh HOWN).alloc _
      have HSZ:Hid (w.heap.size≤(wr.alloc (.cells #[.int .i64 0] 3)).heap.size):=by have:=(uh HO).size;unfold Hid;simp only[World.size_alloc];omega
      have HRA:=hide ((uh HRD).kept ((Only.refl (fun _=>False) wr).alloc (.cells #[.int .i64 0] 3)) (fun x=>x))
      have HNE:=hide (fun b hb=>own_ne3 (uh HOWA) (b:=b) hb (uh HRA))
      go_wp2_with (at_builtin;refine wpList_append_lies _ rfl (.tmp 75) (.tmp 77) 33 rfl w.heap.size 3 i0 (.int .i64 0) 1 8 Tryz.underlying33 hi0 hz0 hz1 hz2 rfl (by omega) (.slice ao2 (n+j) cap2) (n+j) _ rfl (uh HOWA) ⟨wr.heap.size,0,none⟩ 1 1 [.int .i64 0] rfl rfl (uh HNW) (by intro u hu;simp at hu;subst hu;rfl) (by omega) (by unfold maxLen;omega) (by omega) (uh HSZ) _ rfl ?_;intro g2 cap3 w3 ho3 hg3 hl3 hlt3;have HO3:=hide ho3;have HG3:=hide hg3;have HB:=hide (own_base (uh HOWA));clear ho3 hg3 hl3)
      go_roundw
      ·refine ⟨j+1,some ⟨g2,0,none⟩,cap3,by omega,by rw[Nat.add_assoc],by go_num, ?_, ?_, ?_⟩
       ·have e:intCells (l++List.replicate (j+1) 0)=intCells (l++List.replicate j 0)++[.int .i64 0]:=by rw[List.replicate_succ',←List.append_assoc];simp[intCells]
        rw[e];exact uh HO3
       ·exact ((uh HG3).block g (uh HRA).lt (fun hh=>uh HNE g hh.symm rfl)).trans (uh HRA)
       exact ((uh HO).alloc _).grown (uh HG3) (fun q hq e=>absurd hq (by have:=uh HB q e;omega))
      case measure=>simp[intOf];omega
     have hjI:¬(j:Int)<(3+(v:Int)):=by omega
     have hje:j=(3+v):=by omega
     go_wp2_with fail
     go_roundw
     ·refine ⟨n+j,ao2,cap2,0,by omega,rfl,hc3j,⟨_,HOWN⟩,⟨a2,ha2,HRD,.inl ⟨rfl,l++List.replicate j 0,by rw[List.length_append,List.length_replicate,uh HLN],HOWN, ?_⟩⟩,HO⟩
      rw[uh HEQ,rowS_step (by rw[uh HLN];exact hlt),uh HSTP,hje]
     rw[uh HM,cellN_of hc3j];simp[lenV];omega
    obtain ⟨k1,k2⟩:=uh HBAD he2
    have HK1:=hide k1
    subst k2
    have hc3z:w2.cell? ⟨g,3,none⟩=some (.int .i64 2):=hc32
    clear k1 hc32 HBAD HOK
    go_wp2_with fail
    go_loop [7,11] (fun x i=>x=.slice ao n cap∧i=.int .i64 0) (fun _ _=>0)
    ·exact ⟨rfl,rfl⟩
    obtain ⟨rfl,rfl⟩:=hrel
    have hnI:(0:Int)<(3+(v:Int)):=by omega
    go_wp2_with fail
    go_roundw
    ·exact ⟨n,ao,cap,2,hn,rfl,hc3z,⟨_,HOWN2⟩,⟨a2,ha2,HR2,.inr ⟨rfl,by rw[uh HEQ,rowS_step (by rw[uh HLN];exact hlt),uh HK1]⟩⟩,HO2⟩
    rw[uh HM,cellN_of hc3z];simp[lenV]
   have hy17b:((y:Int)==17)=false:=by rw[beq_eq_false_iff_ne];omega
   by_cases hy18:y=18
   ·subst hy18
    have HNM:=hide (number_any g s hs a1 o e1 7 (by omega) h1.1.2 w1 hr1)
    have H1:=hide h1
    have ha1:=h1.1.2
    clear h1 hr1
    go_wp2_with fail
    refine (uh HNM).mono ?_
    rintro r w2 ⟨v,a2,e2,rfl,h2,hr2,ho2⟩
    have hv:v<2^7:=h2.1
    have hv2:v<128:=hv
    have ha2:=h2.2.1
    have HBAD:=hide (row_bad (many:=many) (l:=l) (uh H1) (by have:=uh HLN;omega) h2)
    have HOK:Hid (e2=0→stepR s C many a' l=if many<l.length+(11+v) then none else some (a2,l++List.replicate (11+v) (0))):=row_ok (many:=many) (l:=l) (uh H1) (by have:=uh HLN;omega) h2
    have HR2:=hide hr2
    have HO2:=hide ((uh HO1).trans ho2)
    have HOWN2:=hide (own_keptB (uh HOWN1) ho2 (fun b hb=>own_ne3 (uh HOWN1) hb (uh HR1)))
    clear h2 hr2 ho2 hv HNM
    have hc32:=(uh HR2).c3
    by_cases hbig:many<n+(11+v)
    ·have hbI:(many:Int)<(n:Int)+(11+(v:Int)):=by omega
     have HNO:Hid (stepR s C many a' l=none∧orE e2 2=2):=by
      by_cases h:e2=0
      ·have:=uh HOK h
       rw[if_pos (by rw[uh HLN];exact hbig)] at this
       subst h
       exact ⟨this,rfl⟩
      obtain ⟨k1,k2⟩:=uh HBAD h
      subst k2
      exact ⟨k1,rfl⟩
     have HFA:=hide (fail_any g s a2 o e2 2 w2 (uh HR2))
     go_wp2_with fail
     refine (uh HFA).mono ?_
     rintro r w4 ⟨rfl,hr4,ho4⟩
     rw[(uh HNO).2] at hr4
     have HO4:=hide ((uh HO2).trans ho4)
     have hc4:w4.cell? ⟨g,3,none⟩=some (.int .i64 2):=hr4.c3
     have HR4:=hide hr4
     have HOWN4:=hide (own_keptB (uh HOWN2) ho4 (fun b hb=>own_ne3 (uh HOWN2) hb (uh HR2)))
     clear ho4 hr4 hc32
     go_wp2_with fail
     go_loop [7,11] (fun x i=>x=.slice ao n cap∧i=.int .i64 0) (fun _ _=>0)
     ·exact ⟨rfl,rfl⟩
     obtain ⟨rfl,rfl⟩:=hrel
     have hnI:(0:Int)<(11+(v:Int)):=by omega
     go_wp2_with fail
     go_roundw
     ·exact ⟨n,ao,cap,2,hn,rfl,hc4,⟨_,HOWN4⟩,⟨a2,ha2,HR4,.inr ⟨rfl,by rw[uh HEQ,rowS_step (by rw[uh HLN];exact hlt),(uh HNO).1]⟩⟩,HO4⟩
     rw[uh HM,cellN_of (uh HR4).c3];simp[lenV]
    have hbI:¬(many:Int)<(n:Int)+(11+(v:Int)):=by omega
    by_cases he2:e2=0
    ·subst he2
     have HSTP:=hide (uh HOK rfl)
     rw[if_neg (by rw[uh HLN];exact hbig)] at HSTP
     have hc3z:w2.cell? ⟨g,3,none⟩=some (.int .i64 0):=hc32
     clear hc32 HBAD HOK
     go_wp2_with fail
     go_loopw [7,11] (fun x i wr=> ∃(j:Nat) (ao2:Option Addr) (cap2:Nat),j≤(11+v)∧x=.slice ao2 (n+j) cap2∧i=.int .i64 j∧Hid (wr.ownsRow w.heap.size 3 1 (.slice ao2 (n+j) cap2) (n+j) (intCells (l++List.replicate j 0)))∧Hid (Rd wr g s a2 o 0)∧Hid (Only (fun k=>k=g) w wr)) (fun _ i _=>(11+v)- (intOf i).toNat)
     ·exact ⟨0,ao,cap,by omega,rfl,rfl,(show World.ownsRow _ _ _ _ _ _ _ by simpa using uh HOWN2),HR2,HO2⟩
     obtain ⟨j,ao2,cap2,hj,rfl,rfl,HOWN,HRD,HO⟩:=hrel
     have hc3j:wr.cell? ⟨g,3,none⟩=some (.int .i64 0):=(uh HRD).c3
     by_cases hjn:j<(11+v)
     ·have hjI:(j:Int)<(11+(v:Int)):=by omega
      have HNW:=hide (int_new (wr:=wr) (n:=0))
      have HOWA:Hid ((wr.alloc (.cells #[.int .i64 0] 3)).ownsRow w.heap.size 3 1 (.slice ao2 (n+j) cap2) (n+j) (intCells (l++List.replicate j 0))):=(uh HOWN).alloc _
      have HSZ:Hid (w.heap.size≤(wr.alloc (.cells #[.int .i64 0] 3)).heap.size):=by have:=(uh HO).size;unfold Hid;simp only[World.size_alloc];omega
      have HRA:=hide ((uh HRD).kept ((Only.refl (fun _=>False) wr).alloc (.cells #[.int .i64 0] 3)) (fun x=>x))
      have HNE:=hide (fun b hb=>own_ne3 (uh HOWA) (b:=b) hb (uh HRA))
      go_wp2_with (at_builtin;refine wpList_append_lies _ rfl (.tmp 75) (.tmp 77) 33 rfl w.heap.size 3 i0 (.int .i64 0) 1 8 Tryz.underlying33 hi0 hz0 hz1 hz2 rfl (by omega) (.slice ao2 (n+j) cap2) (n+j) _ rfl (uh HOWA) ⟨wr.heap.size,0,none⟩ 1 1 [.int .i64 0] rfl rfl (uh HNW) (by intro u hu;simp at hu;subst hu;rfl) (by omega) (by unfold maxLen;omega) (by omega) (uh HSZ) _ rfl ?_;intro g2 cap3 w3 ho3 hg3 hl3 hlt3;have HO3:=hide ho3;have HG3:=hide hg3;have HB:=hide (own_base (uh HOWA));clear ho3 hg3 hl3)
      go_roundw
      ·refine ⟨j+1,some ⟨g2,0,none⟩,cap3,by omega,by rw[Nat.add_assoc],by go_num, ?_, ?_, ?_⟩
       ·have e:intCells (l++List.replicate (j+1) 0)=intCells (l++List.replicate j 0)++[.int .i64 0]:=by rw[List.replicate_succ',←List.append_assoc];simp[intCells]
        rw[e];exact uh HO3
       ·exact ((uh HG3).block g (uh HRA).lt (fun hh=>uh HNE g hh.symm rfl)).trans (uh HRA)
       exact ((uh HO).alloc _).grown (uh HG3) (fun q hq e=>absurd hq (by have:=uh HB q e;omega))
      case measure=>simp[intOf];omega
     have hjI:¬(j:Int)<(11+(v:Int)):=by omega
     have hje:j=(11+v):=by omega
     go_wp2_with fail
     go_roundw
     ·refine ⟨n+j,ao2,cap2,0,by omega,rfl,hc3j,⟨_,HOWN⟩,⟨a2,ha2,HRD,.inl ⟨rfl,l++List.replicate j 0,by rw[List.length_append,List.length_replicate,uh HLN],HOWN, ?_⟩⟩,HO⟩
      rw[uh HEQ,rowS_step (by rw[uh HLN];exact hlt),uh HSTP,hje]
     rw[uh HM,cellN_of hc3j];simp[lenV];omega
    obtain ⟨k1,k2⟩:=uh HBAD he2
    have HK1:=hide k1
    subst k2
    have hc3z:w2.cell? ⟨g,3,none⟩=some (.int .i64 2):=hc32
    clear k1 hc32 HBAD HOK
    go_wp2_with fail
    go_loop [7,11] (fun x i=>x=.slice ao n cap∧i=.int .i64 0) (fun _ _=>0)
    ·exact ⟨rfl,rfl⟩
    obtain ⟨rfl,rfl⟩:=hrel
    have hnI:(0:Int)<(11+(v:Int)):=by omega
    go_wp2_with fail
    go_roundw
    ·exact ⟨n,ao,cap,2,hn,rfl,hc3z,⟨_,HOWN2⟩,⟨a2,ha2,HR2,.inr ⟨rfl,by rw[uh HEQ,rowS_step (by rw[uh HLN];exact hlt),uh HK1]⟩⟩,HO2⟩
    rw[uh HM,cellN_of hc3z];simp[lenV]
   have hy18b:((y:Int)==18)=false:=by rw[beq_eq_false_iff_ne];omega
   have hrb:rowBits y=0:=by unfold rowBits;rw[if_neg hy16,if_neg hy17,if_neg hy18]
   have hrs:rowBase y=1:=by unfold rowBase;rw[if_neg hy16,if_neg hy17,if_neg hy18]
   have hnz:NumR s a1 e1 (rowBits y) 0 a1 e1:=by rw[hrb];exact NumR.zero h1.1.2
   have ha2:=h1.1.2
   have HBAD:=hide (row_bad (many:=many) (l:=l) h1 (by omega) hnz)
   have HOK:Hid (e1=0→stepR s C many a' l=if many<l.length+1 then none else some (a1,l++List.replicate 1 y)):=fun he=>by
    have hlt19:y<C.length:=by
     subst he
     exact (dec_lt (h1.ok rfl)).2.2
    have h9:=row_ok (many:=many) (l:=l) h1 (by omega) hnz he
    have hw:rowWhat y l=y:=by unfold rowWhat;rw[if_neg hy16,if_neg (by omega)]
    rw[hrs,hw] at h9
    exact h9
   clear h1 hr1 hnz hrb hrs
   have hc32:=(uh HR1).c3
   by_cases hbig:many<n+1
   ·exact absurd hbig (by omega)
   have hbI:¬(many:Int)<(n:Int)+1:=by omega
   by_cases he1:e1=0
   ·subst he1
    have HSTP:=hide (uh HOK rfl)
    rw[if_neg (by rw[uh HLN];exact hbig)] at HSTP
    have hc3z:w1.cell? ⟨g,3,none⟩=some (.int .i64 0):=hc32
    clear hc32 HBAD HOK
    go_wp2_with fail
    go_loopw [7,11] (fun x i wr=> ∃(j:Nat) (ao2:Option Addr) (cap2:Nat),j≤1∧x=.slice ao2 (n+j) cap2∧i=.int .i64 j∧Hid (wr.ownsRow w.heap.size 3 1 (.slice ao2 (n+j) cap2) (n+j) (intCells (l++List.replicate j y)))∧Hid (Rd wr g s a1 o 0)∧Hid (Only (fun k=>k=g) w wr)) (fun _ i _=>1- (intOf i).toNat)
    ·exact ⟨0,ao,cap,by omega,rfl,rfl,(show World.ownsRow _ _ _ _ _ _ _ by simpa using uh HOWN1),HR1,HO1⟩
    obtain ⟨j,ao2,cap2,hj,rfl,rfl,HOWN,HRD,HO⟩:=hrel
    have hc3j:wr.cell? ⟨g,3,none⟩=some (.int .i64 0):=(uh HRD).c3
    by_cases hjn:j<1
    ·have hjI:(j:Int)<1:=by omega
     have HNW:=hide (int_new (wr:=wr) (n:=(y:Nat)))
     have HOWA:Hid ((wr.alloc (.cells #[.int .i64 (y:Nat)] 3)).ownsRow w.heap.size 3 1 (.slice ao2 (n+j) cap2) (n+j) (intCells (l++List.replicate j y))):=(uh HOWN).alloc _
     have HSZ:Hid (w.heap.size≤(wr.alloc (.cells #[.int .i64 (y:Nat)] 3)).heap.size):=by have:=(uh HO).size;unfold Hid;simp only[World.size_alloc];omega
     have HRA:=hide ((uh HRD).kept ((Only.refl (fun _=>False) wr).alloc (.cells #[.int .i64 (y:Nat)] 3)) (fun x=>x))
     have HNE:=hide (fun b hb=>own_ne3 (uh HOWA) (b:=b) hb (uh HRA))
     go_wp2_with (at_builtin;refine wpList_append_lies _ rfl (.tmp 75) (.tmp 77) 33 rfl w.heap.size 3 i0 (.int .i64 0) 1 8 Tryz.underlying33 hi0 hz0 hz1 hz2 rfl (by omega) (.slice ao2 (n+j) cap2) (n+j) _ rfl (uh HOWA) ⟨wr.heap.size,0,none⟩ 1 1 [.int .i64 (y:Nat)] rfl rfl (uh HNW) (by intro u hu;simp at hu;subst hu;rfl) (by omega) (by unfold maxLen;omega) (by omega) (uh HSZ) _ rfl ?_;intro g2 cap3 w3 ho3 hg3 hl3 hlt3;have HO3:=hide ho3;have HG3:=hide hg3;have HB:=hide (own_base (uh HOWA));clear ho3 hg3 hl3)
     go_roundw
     ·refine ⟨j+1,some ⟨g2,0,none⟩,cap3,by omega,by rw[Nat.add_assoc],by go_num, ?_, ?_, ?_⟩
      ·have e:intCells (l++List.replicate (j+1) y)=intCells (l++List.replicate j y)++[.int .i64 (y:Nat)]:=by rw[List.replicate_succ',←List.append_assoc];simp[intCells]
       rw[e];exact uh HO3
      ·exact ((uh HG3).block g (uh HRA).lt (fun hh=>uh HNE g hh.symm rfl)).trans (uh HRA)
      exact ((uh HO).alloc _).grown (uh HG3) (fun q hq e=>absurd hq (by have:=uh HB q e;omega))
     case measure=>simp[intOf];omega
    have hjI:¬(j:Int)<1:=by omega
    have hje:j=1:=by omega
    go_wp2_with fail
    go_roundw
    ·refine ⟨n+j,ao2,cap2,0,by omega,rfl,hc3j,⟨_,HOWN⟩,⟨a1,ha2,HRD,.inl ⟨rfl,l++List.replicate j y,by rw[List.length_append,List.length_replicate,uh HLN],HOWN, ?_⟩⟩,HO⟩
     rw[uh HEQ,rowS_step (by rw[uh HLN];exact hlt),uh HSTP,hje]
    rw[uh HM,cellN_of hc3j];simp[lenV];omega
   obtain ⟨k1,k2⟩:=uh HBAD he1
   have HK1:=hide k1
   subst k2
   have hc3z:w1.cell? ⟨g,3,none⟩=some (.int .i64 2):=hc32
   clear k1 hc32 HBAD HOK
   go_wp2_with fail
   go_loop [7,11] (fun x i=>x=.slice ao n cap∧i=.int .i64 0) (fun _ _=>0)
   ·exact ⟨rfl,rfl⟩
   obtain ⟨rfl,rfl⟩:=hrel
   go_wp2_with fail
   go_roundw
   ·exact ⟨n,ao,cap,2,hn,rfl,hc3z,⟨_,HOWN1⟩,⟨a1,ha2,HR1,.inr ⟨rfl,by rw[uh HEQ,rowS_step (by rw[uh HLN];exact hlt),uh HK1]⟩⟩,HO1⟩
   rw[uh HM,cellN_of hc3z];simp[lenV]
  have hltI:¬(n:Int)<(many:Int):=by omega
  have HOWN:=hide hown
  have HEQ:=hide heq
  have HLN:=hide hln
  have HRD:=hide hrd
  clear hown heq hln hrd
  go_wp2_with fail
  go_ret
  exact ⟨HO,a',0,ao,n,cap,rfl,ha',HRD,.inl ⟨rfl,l,by rw[uh HEQ];exact rowS_done (by rw[uh HLN];exact hlt),(uh HLN).symm,HOWN⟩⟩
 obtain ⟨he2,hno⟩:e' =2∧rowS s C many a []=none:=by
  rcases hcs with ⟨h,_⟩|h
  ·exact absurd h he
  exact h
 subst he2
 have hc3z:wr.cell? ⟨g,3,none⟩=some (.int .i64 2):=hc3
 have HNO:=hide hno
 have HRD:=hide hrd
 clear hcs hc3 hno hrd HS
 by_cases hlt:n<many
 ·have hltI:(n:Int)<(many:Int):=by omega
  go_wp2_with fail
  go_ret
  exact ⟨HO,a',2,ao,n,cap,rfl,ha',HRD,.inr ⟨rfl,HNO⟩⟩
 have hltI:¬(n:Int)<(many:Int):=by omega
 go_wp2_with fail
 go_ret
 exact ⟨HO,a',2,ao,n,cap,rfl,ha',HRD,.inr ⟨rfl,HNO⟩⟩
end Go.Proofs.YtndfmgdhiallpaaGreatDoor
