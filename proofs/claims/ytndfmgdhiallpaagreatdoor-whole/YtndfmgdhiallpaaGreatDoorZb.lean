import Derived.Test.YtndfmgdhiallpaaGreatDoorJi
set_option maxRecDepth 100000
set_option maxHeartbeats 4000000
namespace Go.Proofs.YtndfmgdhiallpaaGreatDoor
open Go.RowKit Go.Maps
theorem cutN(s:ByteArray)(n:Nat)(h:n≤s.size):(s.extract 0 n).size=n:=by rw[ByteArray.size_extract];omega
theorem wholeSS(s b:ByteArray)(c:Int)(hc1: -9223372036854775808≤c)(hc2:c≤9223372036854775807)(hs:s.size≤140737488351232)(hb:b.size≤140737488351232)(hd:s.size≤3000)(hu:s.size≤100)(w:World)(hw:Awk w):
 Calls Tryz.prog 8 #[.string s,.int .i64 c,.string b] w fun r w' =>r=.returned (.bool true)∧Old w w' :=by
 have H1:=hide (awakeX w hw)
 have HW:=hide hw
 clear hw
 have hdI:¬(3000:Int)<(s.size:Int):=by omega
 have hdz:s.size≤3000:=hd
 have H2:=hide (fun W=>valiseDeflate_any s (by omega) W)
 have hz1:=(deflP_size s).1
 have hcat:¬9223372036854775807<(deflP s).size+b.size:=by omega
 have H3:=hide (fun W (h:Awk W)=>valiseInflate_any (deflP s++b) (by rw[ByteArray.size_append];omega) W h.2.1)
 rw[infl_defl s (by omega) b] at H3
 have hdz2:s.size≤20000:=by omega
 generalize deflP s=z at*
 have huI:¬(100:Int)<(s.size:Int):=by omega
 have huz:s.size≤100:=hu
 have hp:=pickN_lt c (n:=30) (by omega)
 have HP:=hide (fun W=>kpick_any c hc1 hc2 30 (by omega) (by omega) W)
 generalize pickN c 30=k at*
 have hm:20+k≤49:=by omega
 have HRS:=hide (fun n=>repB_size s n)
 have HR1:=hide (repB_one s)
 have hms:(repB s (20+k)).size≤5000:=by rw[repB_size];exact Nat.le_trans (Nat.mul_le_mul hm huz) (by omega)
 have H4:=hide (fun W=>valiseDeflate_any (repB s (20+k)) (by omega) W)
 have hz2:=(deflP_size (repB s (20+k))).1
 have H5:=hide (fun W (h:Awk W)=>valiseInflate_any (deflP (repB s (20+k))) (by omega) W h.2.1)
 rw[infl_defl0 (repB s (20+k)) (by omega)] at H5
 have hlast:(s.size=0∧s=⟨#[]⟩)∨(s.size≠0∧2*((deflP (repB s (20+k))).size:Int)≤((repB s (20+k)).size:Int)):=by
  by_cases h0:s.size=0
  ·exact .inl ⟨h0,ByteArray.size_eq_zero_iff.1 h0⟩
  have:=half_rep s (20+k) (by omega) huz (by omega) (by omega);exact .inr ⟨h0,by omega⟩
 have HLA:=hide hlast
 clear hlast
 generalize deflP (repB s (20+k))=q at*
 go_in
 go_wp2_with fail
 refine (uh H1).mono ?_
 rintro r w1 ⟨rfl,ho1⟩
 have HW1:=hide ((uh HW).old ho1)
 have HO1:=hide ho1
 clear ho1 H1 HW
 go_wp2_with fail
 refine (uh H2 w1).mono ?_
 rintro r w2 ⟨hr2,ho2⟩
 have hr2' :=hr2.resolve_right (fun h=>by omega)
 obtain ⟨_,rfl⟩:=hr2'
 have HW2:=hide ((uh HW1).old ho2)
 have HO2:=hide (Only.trans (uh HO1) ho2)
 clear ho2 hr2 H2 HW1 HO1
 go_wp2_with fail
 refine (uh H3 w2 (uh HW2)).mono ?_
 rintro r w3 ⟨rfl,ho3⟩
 have HW3:=hide ((uh HW2).old ho3)
 have HO3:=hide (Only.trans (uh HO2) ho3)
 clear ho3 H3 HW2 HO2
 go_wp2_with fail
 go_loop [13,15] (fun m x=> ∃i:Nat,1≤i∧i≤20+k∧x=.int .i64 i∧m=.string (repB s i)) (fun _ x=>20+k- (intOf x).toNat)
 ·exact ⟨1,by omega,by omega,rfl,by rw[uh HR1]⟩
 obtain ⟨i,hi1,hi2,rfl,rfl⟩:=hrel
 by_cases hlt:i<20+k
 ·have hltI:(i:Int)<20+(k:Int):=by omega
  have hcat2:¬9223372036854775807<(repB s i).size+s.size:=by
   have h1:=uh HRS i
   have h2:i*s.size≤49*100:=Nat.mul_le_mul (by omega) huz
   omega
  have HRE:Hid (repB s i++s=repB s (i+1)):=rfl
  generalize repB s i=m at*
  go_wp2_with fail
  refine (uh HP _).mono ?_
  rintro r w4 ⟨rfl,rfl⟩
  go_wp2_with fail
  go_round
  ·exact ⟨i+1,by omega,by omega,by go_num,by rw[←uh HRE]⟩
  case measure=>simp[intOf];omega
 have hltI:¬(i:Int)<20+(k:Int):=by omega
 have hie:i=20+k:=by omega
 subst hie
 generalize repB s (20+k)=m at*
 go_wp2_with fail
 refine (uh HP _).mono ?_
 rintro r w4 ⟨rfl,rfl⟩
 go_wp2_with fail
 refine (uh H4 _).mono ?_
 rintro r w5 ⟨hr5,ho5⟩
 have hr5' :=hr5.resolve_right (fun h=>by omega)
 obtain ⟨_,rfl⟩:=hr5'
 have HW5:=hide ((uh HW3).old ho5)
 have HO5:=hide (Only.trans (uh HO3) ho5)
 clear ho5 hr5 H4 HW3 HO3
 go_wp2_with fail
 refine (uh H5 w5 (uh HW5)).mono ?_
 rintro r w6 ⟨rfl,ho6⟩
 have HO6:=hide (Only.trans (uh HO5) ho6)
 clear ho6 H5 HW5 HO5
 rcases uh HLA with ⟨h0,_⟩|⟨h0,hI⟩
 ·have hem:s.toList.isEmpty=true:=by rw[toList_empty,h0];rfl
  clear HLA
  go_wp2_with fail
  go_ret
  exact ⟨rfl,HO6⟩
 have hem:s.toList.isEmpty=false:=by rw[toList_empty,decide_eq_true (by omega)];rfl
 clear HLA
 go_wp2_with fail
 go_ret
 exact ⟨rfl,HO6⟩
theorem wholeSL(s b:ByteArray)(c:Int)(hc1: -9223372036854775808≤c)(hc2:c≤9223372036854775807)(hs:s.size≤140737488351232)(hb:b.size≤140737488351232)(hd:s.size≤3000)(hu:100<s.size)(w:World)(hw:Awk w):
 Calls Tryz.prog 8 #[.string s,.int .i64 c,.string b] w fun r w' =>r=.returned (.bool true)∧Old w w' :=by
 have H1:=hide (awakeX w hw)
 have HW:=hide hw
 clear hw
 have hdI:¬(3000:Int)<(s.size:Int):=by omega
 have hdz:s.size≤3000:=hd
 have H2:=hide (fun W=>valiseDeflate_any s (by omega) W)
 have hz1:=(deflP_size s).1
 have hcat:¬9223372036854775807<(deflP s).size+b.size:=by omega
 have H3:=hide (fun W (h:Awk W)=>valiseInflate_any (deflP s++b) (by rw[ByteArray.size_append];omega) W h.2.1)
 rw[infl_defl s (by omega) b] at H3
 have hdz2:s.size≤20000:=by omega
 generalize deflP s=z at*
 have huI:(100:Int)<(s.size:Int):=by omega
 have hsl2: ∀W,(Instr.slice 9 (.string s) none (some (.int .i64 100)) none).run Tryz.prog W=.ok (.string (s.extract 0 100)) W:=fun W=>run_slice_string_h W 9 s Tryz.underlying9 .i64 100 (by omega) (by omega)
 have huz:(s.extract 0 100).size≤100:=by rw[cutN s 100 (by omega)];omega
 generalize s.extract 0 100=u at*
 have hp:=pickN_lt c (n:=30) (by omega)
 have HP:=hide (fun W=>kpick_any c hc1 hc2 30 (by omega) (by omega) W)
 generalize pickN c 30=k at*
 have hm:20+k≤49:=by omega
 have HRS:=hide (fun n=>repB_size u n)
 have HR1:=hide (repB_one u)
 have hms:(repB u (20+k)).size≤5000:=by rw[repB_size];exact Nat.le_trans (Nat.mul_le_mul hm huz) (by omega)
 have H4:=hide (fun W=>valiseDeflate_any (repB u (20+k)) (by omega) W)
 have hz2:=(deflP_size (repB u (20+k))).1
 have H5:=hide (fun W (h:Awk W)=>valiseInflate_any (deflP (repB u (20+k))) (by omega) W h.2.1)
 rw[infl_defl0 (repB u (20+k)) (by omega)] at H5
 have hlast:(u.size=0∧u=⟨#[]⟩)∨(u.size≠0∧2*((deflP (repB u (20+k))).size:Int)≤((repB u (20+k)).size:Int)):=by
  by_cases h0:u.size=0
  ·exact .inl ⟨h0,ByteArray.size_eq_zero_iff.1 h0⟩
  have:=half_rep u (20+k) (by omega) huz (by omega) (by omega);exact .inr ⟨h0,by omega⟩
 have HLA:=hide hlast
 clear hlast
 generalize deflP (repB u (20+k))=q at*
 go_in
 go_wp2_with fail
 refine (uh H1).mono ?_
 rintro r w1 ⟨rfl,ho1⟩
 have HW1:=hide ((uh HW).old ho1)
 have HO1:=hide ho1
 clear ho1 H1 HW
 go_wp2_with fail
 refine (uh H2 w1).mono ?_
 rintro r w2 ⟨hr2,ho2⟩
 have hr2' :=hr2.resolve_right (fun h=>by omega)
 obtain ⟨_,rfl⟩:=hr2'
 have HW2:=hide ((uh HW1).old ho2)
 have HO2:=hide (Only.trans (uh HO1) ho2)
 clear ho2 hr2 H2 HW1 HO1
 go_wp2_with fail
 refine (uh H3 w2 (uh HW2)).mono ?_
 rintro r w3 ⟨rfl,ho3⟩
 have HW3:=hide ((uh HW2).old ho3)
 have HO3:=hide (Only.trans (uh HO2) ho3)
 clear ho3 H3 HW2 HO2
 go_wp2_with fail
 go_loop [13,15] (fun m x=> ∃i:Nat,1≤i∧i≤20+k∧x=.int .i64 i∧m=.string (repB u i)) (fun _ x=>20+k- (intOf x).toNat)
 ·exact ⟨1,by omega,by omega,rfl,by rw[uh HR1]⟩
 obtain ⟨i,hi1,hi2,rfl,rfl⟩:=hrel
 by_cases hlt:i<20+k
 ·have hltI:(i:Int)<20+(k:Int):=by omega
  have hcat2:¬9223372036854775807<(repB u i).size+u.size:=by
   have h1:=uh HRS i
   have h2:i*u.size≤49*100:=Nat.mul_le_mul (by omega) huz
   omega
  have HRE:Hid (repB u i++u=repB u (i+1)):=rfl
  generalize repB u i=m at*
  go_wp2_with fail
  refine (uh HP _).mono ?_
  rintro r w4 ⟨rfl,rfl⟩
  go_wp2_with fail
  go_round
  ·exact ⟨i+1,by omega,by omega,by go_num,by rw[←uh HRE]⟩
  case measure=>simp[intOf];omega
 have hltI:¬(i:Int)<20+(k:Int):=by omega
 have hie:i=20+k:=by omega
 subst hie
 generalize repB u (20+k)=m at*
 go_wp2_with fail
 refine (uh HP _).mono ?_
 rintro r w4 ⟨rfl,rfl⟩
 go_wp2_with fail
 refine (uh H4 _).mono ?_
 rintro r w5 ⟨hr5,ho5⟩
 have hr5' :=hr5.resolve_right (fun h=>by omega)
 obtain ⟨_,rfl⟩:=hr5'
 have HW5:=hide ((uh HW3).old ho5)
 have HO5:=hide (Only.trans (uh HO3) ho5)
 clear ho5 hr5 H4 HW3 HO3
 go_wp2_with fail
 refine (uh H5 w5 (uh HW5)).mono ?_
 rintro r w6 ⟨rfl,ho6⟩
 have HO6:=hide (Only.trans (uh HO5) ho6)
 clear ho6 H5 HW5 HO5
 rcases uh HLA with ⟨h0,_⟩|⟨h0,hI⟩
 ·have hem:u.toList.isEmpty=true:=by rw[toList_empty,h0];rfl
  clear HLA
  go_wp2_with fail
  go_ret
  exact ⟨rfl,HO6⟩
 have hem:u.toList.isEmpty=false:=by rw[toList_empty,decide_eq_true (by omega)];rfl
 clear HLA
 go_wp2_with fail
 go_ret
 exact ⟨rfl,HO6⟩
theorem wholeLL(s b:ByteArray)(c:Int)(hc1: -9223372036854775808≤c)(hc2:c≤9223372036854775807)(hs:s.size≤140737488351232)(hb:b.size≤140737488351232)(hd:3000<s.size)(w:World)(hw:Awk w):
 Calls Tryz.prog 8 #[.string s,.int .i64 c,.string b] w fun r w' =>r=.returned (.bool true)∧Old w w' :=by
 have H1:=hide (awakeX w hw)
 have HW:=hide hw
 clear hw
 have hdI:(3000:Int)<(s.size:Int):=by omega
 have hsl: ∀W,(Instr.slice 9 (.string s) none (some (.int .i64 3000)) none).run Tryz.prog W=.ok (.string (s.extract 0 3000)) W:=fun W=>run_slice_string_h W 9 s Tryz.underlying9 .i64 3000 (by omega) (by omega)
 have hdz:(s.extract 0 3000).size=3000:=cutN s 3000 (by omega)
 generalize s.extract 0 3000=d at*
 have H2:=hide (fun W=>valiseDeflate_any d (by omega) W)
 have hz1:=(deflP_size d).1
 have hcat:¬9223372036854775807<(deflP d).size+b.size:=by omega
 have H3:=hide (fun W (h:Awk W)=>valiseInflate_any (deflP d++b) (by rw[ByteArray.size_append];omega) W h.2.1)
 rw[infl_defl d (by omega) b] at H3
 have hdz2:d.size≤20000:=by omega
 generalize deflP d=z at*
 have huI:(100:Int)<(d.size:Int):=by omega
 have hsl2: ∀W,(Instr.slice 9 (.string d) none (some (.int .i64 100)) none).run Tryz.prog W=.ok (.string (d.extract 0 100)) W:=fun W=>run_slice_string_h W 9 d Tryz.underlying9 .i64 100 (by omega) (by omega)
 have huz:(d.extract 0 100).size≤100:=by rw[cutN d 100 (by omega)];omega
 generalize d.extract 0 100=u at*
 have hp:=pickN_lt c (n:=30) (by omega)
 have HP:=hide (fun W=>kpick_any c hc1 hc2 30 (by omega) (by omega) W)
 generalize pickN c 30=k at*
 have hm:20+k≤49:=by omega
 have HRS:=hide (fun n=>repB_size u n)
 have HR1:=hide (repB_one u)
 have hms:(repB u (20+k)).size≤5000:=by rw[repB_size];exact Nat.le_trans (Nat.mul_le_mul hm huz) (by omega)
 have H4:=hide (fun W=>valiseDeflate_any (repB u (20+k)) (by omega) W)
 have hz2:=(deflP_size (repB u (20+k))).1
 have H5:=hide (fun W (h:Awk W)=>valiseInflate_any (deflP (repB u (20+k))) (by omega) W h.2.1)
 rw[infl_defl0 (repB u (20+k)) (by omega)] at H5
 have hlast:(u.size=0∧u=⟨#[]⟩)∨(u.size≠0∧2*((deflP (repB u (20+k))).size:Int)≤((repB u (20+k)).size:Int)):=by
  by_cases h0:u.size=0
  ·exact .inl ⟨h0,ByteArray.size_eq_zero_iff.1 h0⟩
  have:=half_rep u (20+k) (by omega) huz (by omega) (by omega);exact .inr ⟨h0,by omega⟩
 have HLA:=hide hlast
 clear hlast
 generalize deflP (repB u (20+k))=q at*
 go_in
 go_wp2_with fail
 refine (uh H1).mono ?_
 rintro r w1 ⟨rfl,ho1⟩
 have HW1:=hide ((uh HW).old ho1)
 have HO1:=hide ho1
 clear ho1 H1 HW
 go_wp2_with fail
 refine (uh H2 w1).mono ?_
 rintro r w2 ⟨hr2,ho2⟩
 have hr2' :=hr2.resolve_right (fun h=>by omega)
 obtain ⟨_,rfl⟩:=hr2'
 have HW2:=hide ((uh HW1).old ho2)
 have HO2:=hide (Only.trans (uh HO1) ho2)
 clear ho2 hr2 H2 HW1 HO1
 go_wp2_with fail
 refine (uh H3 w2 (uh HW2)).mono ?_
 rintro r w3 ⟨rfl,ho3⟩
 have HW3:=hide ((uh HW2).old ho3)
 have HO3:=hide (Only.trans (uh HO2) ho3)
 clear ho3 H3 HW2 HO2
 go_wp2_with fail
 go_loop [13,15] (fun m x=> ∃i:Nat,1≤i∧i≤20+k∧x=.int .i64 i∧m=.string (repB u i)) (fun _ x=>20+k- (intOf x).toNat)
 ·exact ⟨1,by omega,by omega,rfl,by rw[uh HR1]⟩
 obtain ⟨i,hi1,hi2,rfl,rfl⟩:=hrel
 by_cases hlt:i<20+k
 ·have hltI:(i:Int)<20+(k:Int):=by omega
  have hcat2:¬9223372036854775807<(repB u i).size+u.size:=by
   have h1:=uh HRS i
   have h2:i*u.size≤49*100:=Nat.mul_le_mul (by omega) huz
   omega
  have HRE:Hid (repB u i++u=repB u (i+1)):=rfl
  generalize repB u i=m at*
  go_wp2_with fail
  refine (uh HP _).mono ?_
  rintro r w4 ⟨rfl,rfl⟩
  go_wp2_with fail
  go_round
  ·exact ⟨i+1,by omega,by omega,by go_num,by rw[←uh HRE]⟩
  case measure=>simp[intOf];omega
 have hltI:¬(i:Int)<20+(k:Int):=by omega
 have hie:i=20+k:=by omega
 subst hie
 generalize repB u (20+k)=m at*
 go_wp2_with fail
 refine (uh HP _).mono ?_
 rintro r w4 ⟨rfl,rfl⟩
 go_wp2_with fail
 refine (uh H4 _).mono ?_
 rintro r w5 ⟨hr5,ho5⟩
 have hr5' :=hr5.resolve_right (fun h=>by omega)
 obtain ⟨_,rfl⟩:=hr5'
 have HW5:=hide ((uh HW3).old ho5)
 have HO5:=hide (Only.trans (uh HO3) ho5)
 clear ho5 hr5 H4 HW3 HO3
 go_wp2_with fail
 refine (uh H5 w5 (uh HW5)).mono ?_
 rintro r w6 ⟨rfl,ho6⟩
 have HO6:=hide (Only.trans (uh HO5) ho6)
 clear ho6 H5 HW5 HO5
 rcases uh HLA with ⟨h0,_⟩|⟨h0,hI⟩
 ·have hem:u.toList.isEmpty=true:=by rw[toList_empty,h0];rfl
  clear HLA
  go_wp2_with fail
  go_ret
  exact ⟨rfl,HO6⟩
 have hem:u.toList.isEmpty=false:=by rw[toList_empty,decide_eq_true (by omega)];rfl
 clear HLA
 go_wp2_with fail
 go_ret
 exact ⟨rfl,HO6⟩
theorem wholeW(s b:ByteArray)(c:Int)(hc1: -9223372036854775808≤c)(hc2:c≤9223372036854775807)(hs:s.size≤140737488351232)(hb:b.size≤140737488351232)(w:World)(hw:Awk w):
 Calls Tryz.prog 8 #[.string s,.int .i64 c,.string b] w fun r w' =>r=.returned (.bool true)∧Old w w' :=by
 by_cases hd:s.size≤3000
 ·by_cases hu:s.size≤100
  ·exact wholeSS s b c hc1 hc2 hs hb hd hu w hw
  exact wholeSL s b c hc1 hc2 hs hb hd (by omega) w hw
 exact wholeLL s b c hc1 hc2 hs hb (by omega) w hw
end Go.Proofs.YtndfmgdhiallpaaGreatDoor
