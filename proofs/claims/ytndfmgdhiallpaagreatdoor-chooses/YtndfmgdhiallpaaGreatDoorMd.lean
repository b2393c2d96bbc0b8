import Derived.Test.YtndfmgdhiallpaaGreatDoorChecked
import Derived.Test.YtndfmgdhiallpaaGreatDoorMa
import Derived.Deep.QuietTactic
import Derived.Lib.Mul64
import Derived.Laws.Bits64b
import Derived.Test.YtndfmgdhiallpaaGreatDoorMc
set_option maxRecDepth 100000
set_option maxHeartbeats 1000000
namespace Go.Proofs.YtndfmgdhiallpaaGreatDoor
open Go.RowKit
theorem u64_mask32(a:Nat)(ha:a<18446744073709551616):bits .and .u64 (a:Int) 4294967295=((a%4294967296:Nat):Int):=by
 have h:=bits_and_u64_nat a 4294967295 ha (by omega)
 have e:a&&&4294967295=a%4294967296:=Nat.and_two_pow_sub_one_eq_mod a 32
 rw[e] at h
 exact h
theorem u64_div32(a:Nat):(a:Int)/4294967296=((a/4294967296:Nat):Int):=by omega
theorem u64_wrap(a:Nat)(ha:a<18446744073709551616):IntKind.u64.wrap (a:Int)=(a:Int):=by rw[IntKind.wrap_u64];omega
theorem u64_wrapm(a:Nat):IntKind.u64.wrap (a:Int)=((a%18446744073709551616:Nat):Int):=by rw[IntKind.wrap_u64];omega
theorem mul64_any(x y:Nat)(hx:x<18446744073709551616)(hy:y<18446744073709551616)(w:World):
 Calls Tryz.prog 357 #[.int .u64 x,.int .u64 y] w fun e w' =>e=.returned (.tuple #[.int .u64 ((x*y/18446744073709551616:Nat):Int),.int .u64 ((x*y%18446744073709551616:Nat):Int)])∧w' =w:=by
 obtain ⟨bd,bt,bw,hhi⟩:=Lib.mul64_hi x y hx hy
 have ba:=Lib.half_mul_le (a:=x/4294967296) (b:=y/4294967296) (by omega) (by omega)
 have bb:=Lib.half_mul_le (a:=x/4294967296) (b:=y%4294967296) (by omega) (by omega)
 have bc:=Lib.half_mul_le (a:=x%4294967296) (b:=y/4294967296) (by omega) (by omega)
 have ba' :x/4294967296*(y/4294967296)<18446744073709551616:=by omega
 have bb' :x/4294967296*(y%4294967296)<18446744073709551616:=by omega
 have bc' :x%4294967296*(y/4294967296)<18446744073709551616:=by omega
 have bh1:x/4294967296*(y/4294967296)+(x/4294967296*(y%4294967296)+x%4294967296*(y%4294967296)/4294967296)/4294967296<18446744073709551616:=by omega
 have bh:x/4294967296*(y/4294967296)+(x/4294967296*(y%4294967296)+x%4294967296*(y%4294967296)/4294967296)/4294967296+((x/4294967296*(y%4294967296)+x%4294967296*(y%4294967296)/4294967296)%4294967296+x%4294967296*(y/4294967296))/4294967296<18446744073709551616:=by omega
 go_in
 go_wp2
 simp only[u64_mask32 x hx,u64_mask32 y hy,u64_div32,(Int.natCast_mul _ _).symm,(Int.natCast_add _ _).symm,u64_wrap _ bd,u64_wrap _ bb',u64_wrap _ bt,u64_mask32 _ bt,u64_wrap _ bc',u64_wrap _ bw,u64_wrap _ ba',u64_wrap _ bh1,u64_wrap _ bh,u64_wrapm]
 rw[hhi]
 go_ret2
 exact ⟨rfl,rfl⟩
def cubT(n:Nat):Nat:=n*n*n/18446744073709551616
theorem cubT_eq{n:Nat}(_h:n<34359738368):n*n/18446744073709551616*n+n*n%18446744073709551616*n/18446744073709551616=cubT n:=by
 unfold cubT
 have e:n*n*n=n*n%18446744073709551616*n+18446744073709551616*(n*n/18446744073709551616*n):=by
  have:=Nat.mod_add_div (n*n) 18446744073709551616
  rw[←Nat.mul_assoc,←Nat.add_mul,this]
 rw[e,Nat.add_mul_div_left _ _ (by omega),Nat.add_comm]
theorem cubT_le{n:Nat}(h:n<34359738368):cubT n<2199023255552:=by
 unfold cubT
 have h1:n*n≤34359738368*34359738368:=Nat.mul_le_mul (by omega) (by omega)
 have h2:n*n*n<34359738368*34359738368*34359738368:=Nat.mul_lt_mul_of_le_of_lt h1 h (by omega)
 omega
theorem cubeTop_any(n:Nat)(h:n<34359738368)(w:World):
 Calls Tryz.prog 339 #[.int .u64 n] w fun e w' =>e=.returned (.int .u64 (cubT n))∧w' =w:=by
 have h1:=fun w1=>mul64_any n n (by omega) (by omega) w1
 have hl:n*n%18446744073709551616<18446744073709551616:=Nat.mod_lt _ (by omega)
 have h2:=fun w1=>mul64_any (n*n%18446744073709551616) n hl (by omega) w1
 have he:=cubT_eq h
 have hc:=cubT_le h
 have HE:=hide he
 have HH1:=hide h1
 have HH2:=hide h2
 clear h1 h2 he
 generalize n*n%18446744073709551616=lo at*
 generalize n*n/18446744073709551616=hi at*
 generalize lo*n/18446744073709551616=ca at*
 generalize lo*n%18446744073709551616=cb at*
 go_in
 go_wp2_with fail
 refine (uh HH1 _).mono ?_
 rintro e w' ⟨rfl,rfl⟩
 go_wp2_with fail
 refine (uh HH2 _).mono ?_
 rintro e w' ⟨rfl,rfl⟩
 go_wp2
 go_ret
 refine ⟨ret1_eq (congrArg (Value.int .u64) ?_),rfl⟩
 have:=uh HE
 have e4:hi*n<18446744073709551616:=by omega
 rw[←Int.natCast_mul,u64_wrap _ e4,←Int.natCast_add,this,u64_wrap _ (by omega)]
def rootStep(n r b:Nat):Nat:=if cubT (r|||b)<n*4294967296 then r|||b else r
def rootN(n:Nat):Nat→Nat
 |0=>0
 |k+1=>rootStep n (rootN n k) (2^(34- k))
theorem rootN_lt(n k:Nat):rootN n k<34359738368:=by
 induction k with
 |zero=>exact Nat.succ_pos _
 |succ k ih=>
  rw[rootN,rootStep]
  split
  ·exact Nat.or_lt_two_pow (n:=35) ih (Nat.pow_lt_pow_right (by omega) (by omega))
  exact ih
theorem u64_or_lt{a b:Nat}(ha:a<34359738368)(hb:b<34359738368):bits .or .u64 (a:Int) (b:Int)=((a|||b:Nat):Int):=bits_or_u64_nat a b (by omega) (by omega)
theorem cubeRoot_any(n:Nat)(h:n<512)(w:World):
 Calls Tryz.prog 301 #[.int .u64 n] w fun e w' =>e=.returned (.int .u32 ((rootN n 35%4294967296:Nat):Int))∧w' =w:=by
 go_in
 go_wp2_with fail
 go_loop [3,4] (fun r b=> ∃k bn:Nat,k≤35∧r=.int .u64 (rootN n k)∧b=.int .u64 bn∧Hid (bn=if k=35 then 0 else 2^(34- k))) (fun _ b=>(intOf b).toNat)
 ·exact ⟨0,17179869184,by omega,rfl,rfl,rfl⟩
 obtain ⟨k,bn,hk,rfl,rfl,HB⟩:=hrel
 by_cases h35:k=35
 ·have hb0:bn=0:=by have:=uh HB;rwa [if_pos h35] at this
  subst hb0
  rw[h35]
  have hr:=rootN_lt n 35
  generalize hR:rootN n 35=r at hr ⊢
  have HR:=hide hR
  clear hR
  go_wp2_with fail
  go_ret
  exact ⟨ret1_eq (congrArg (Value.int .u32) (by have:=uh HR;omega)),rfl⟩
 have hb:bn=2^(34- k):=by have:=uh HB;rwa [if_neg h35] at this
 have hb1:bn<34359738368:=by rw[hb];exact Nat.lt_of_le_of_lt (Nat.pow_le_pow_right (by omega) (show 34- k≤34 by omega)) (by omega)
 have hb2:0<bn:=by rw[hb];exact Nat.pow_pos (by omega)
 have HN:Hid (bn/2=if k+1=35 then 0 else 2^(34- (k+1))):=by
  unfold Hid
  by_cases h34:k=34
  ·subst h34;rw[if_pos rfl,hb]
  rw[if_neg (by omega),hb,show 34- k=34- (k+1)+1 by omega,Nat.pow_succ];omega
 have HS:Hid (rootN n (k+1)=rootStep n (rootN n k) bn):=by rw[hb];rfl
 have hr:=rootN_lt n k
 generalize rootN n k=r at*
 have ho:=u64_or_lt hr hb1
 have hrb:r|||bn<34359738368:=Nat.or_lt_two_pow (n:=35) hr hb1
 have HC:=hide (fun w1=>cubeTop_any (r|||bn) hrb w1)
 have hcl:=cubT_le hrb
 unfold rootStep at HS
 generalize r|||bn=q at*
 generalize cubT q=c at*
 clear hb HB
 go_wp2_with (go_at_call 339;refine (uh HC _).mono ?_;rintro e w' ⟨rfl,rfl⟩)
 all_goals go_round
 ·exact ⟨k+1,bn/2,by omega,by rw[uh HS,if_pos (by omega)],rfl,HN⟩
 case measure=>simp[intOf];omega
 case rel=>exact ⟨k+1,bn/2,by omega,by rw[uh HS,if_neg (by omega)],rfl,HN⟩
 case measure=>simp[intOf];omega
def anyD(n:Nat)(d:Nat→Nat)(m:Nat):Bool:=(List.range m).any fun j=>n%d j==0
theorem anyD_succ(n:Nat)(d:Nat→Nat)(m:Nat):anyD n d (m+1)=(anyD n d m||n%d m==0):=by simp[anyD,List.range_succ]
theorem anyD_true{n:Nat}{d:Nat→Nat}{m k:Nat}(hk:k<m)(h:n%d k=0):anyD n d m=true:=List.any_eq_true.2 ⟨k,List.mem_range.2 hk,by simp[h]⟩
theorem divided_any(n:Nat)(hn:n<1000)(d:Nat→Nat)(m c g:Nat)(hm:m≤64)(w:World)(hd: ∀j,j<m→1≤d j∧d j<1000)(hr:Row w g 251 m (fun j=> .int .u64 (d j))):
 Calls Tryz.prog 338 #[.int .u64 n,.slice (some ⟨g,0,none⟩) m c] w fun e w' =>e=.returned (.bool (anyD n d m))∧w' =w:=by
 have HD:=hide hd
 have HR:=hide hr
 clear hd hr
 go_in
 go_wp2_with fail
 go_loop [9] (fun i=> ∃k:Nat,k≤m∧i=.int .i64 k∧Hid (anyD n d k=false)) (fun i=>m- (intOf i).toNat)
 ·exact ⟨0,by omega,rfl,rfl⟩
 obtain ⟨k,hk,rfl,HF⟩:=hrel
 by_cases hlt:k<m
 ·have hce:=(uh HR).cell k hlt
  obtain ⟨h1,h2⟩:=uh HD k hlt
  have HT:=hide (fun h=>anyD_true (n:=n) (d:=d) hlt h)
  have HNX:=hide (anyD_succ n d k)
  generalize d k=dk at hce h1 h2 HT HNX
  have hnz:(dk:Int)≠0:=by omega
  by_cases hz:n%dk=0
  ·have hb:((n:Int)%(dk:Int)==0)=true:=by rw[beq_iff_eq];omega
   go_wp2_with fail
   go_ret
   exact ⟨ret1_eq (congrArg Value.bool (uh HT hz).symm),rfl⟩
  have hb:((n:Int)%(dk:Int)==0)=false:=by rw[beq_eq_false_iff_ne];omega
  go_wp2_with fail
  go_round
  ·exact ⟨k+1,by omega,by go_num,(show _=_ by rw[uh HNX,uh HF];simp[hz])⟩
  case measure=>simp[intOf];omega
 have hkm:k=m:=by omega
 subst hkm
 go_wp2_with fail
 go_ret
 exact ⟨ret1_eq (congrArg Value.bool (uh HF).symm),rfl⟩
def prS:Nat→List Nat
 |0=>[]
 |k+1=>if (prS k).any (fun d=>(k+2)%d==0) then prS k else prS k++[k+2]
theorem prS_lt(k:Nat): ∀d∈prS k,2≤d∧d<k+2:=by
 induction k with
 |zero=>intro d hd;cases hd
 |succ k ih=>
  intro d hd
  rw[prS] at hd
  split at hd
  ·have:=ih d hd;omega
  rcases List.mem_append.1 hd with h|h
  ·have:=ih d h;omega
  have:=List.mem_singleton.1 h;omega
theorem prS_mono{a b:Nat}(h:a≤b):(prS a).length≤(prS b).length:=by
 induction b with
 |zero=>rw[Nat.le_zero.1 h];exact Nat.le_refl _
 |succ b ih=>
  rcases Nat.lt_or_ge a (b+1) with h1|h1
  ·refine Nat.le_trans (ih (by omega)) ?_
   rw[prS];split
   ·exact Nat.le_refl _
   simp
  rw[show a=b+1 by omega];exact Nat.le_refl _
theorem prS_309:(prS 309).length=63:=by decide+kernel
theorem prS_310:(prS 310).length=64:=by decide+kernel
theorem anyD_list(n:Nat)(l:List Nat):anyD n (fun j=>l.getD j 0) l.length=l.any (fun d=>n%d==0):=by
 rw[Bool.eq_iff_iff,anyD,List.any_eq_true,List.any_eq_true]
 constructor
 ·rintro ⟨j,hj,h⟩
  have hj:=List.mem_range.1 hj
  exact ⟨l[j],List.getElem_mem hj,by simpa [List.getD_eq_getElem?_getD,hj] using h⟩
 rintro ⟨d,hd,h⟩
 obtain ⟨j,hj,rfl⟩:=List.mem_iff_getElem.1 hd
 exact ⟨j,List.mem_range.2 hj,by simpa [List.getD_eq_getElem?_getD,hj] using h⟩
def u64s(l:List Nat):List Value:=l.map fun (n:Nat)=>Value.int .u64 (n:Int)
theorem infoW64:(Tryz.prog.info? 251).map (fun i=>(i.zero,i.size,i.bytes))=some (some (.int .u64 0),1,8):=by kernel_rfl
theorem Row.ofOwns{w:World}{base:Nat}{e:TypeId}{g c n:Nat}{xs:List Value}{f:Nat→Value}(h:w.ownsRow base e 1 (.slice (some ⟨g,0,none⟩) n c) n xs)(hf: ∀j,j<n→xs[j]? =some (f j)):Row w g e n f:=by
 obtain ⟨hl,h|⟨g',c',cur,hv,_,hg,hn,_,hs,ht⟩⟩:=h
 ·cases h.1
 injection hv with hv1 hv2 hv3
 injection hv1 with hv1
 injection hv1 with hv1
 subst hv1
 refine ⟨cur,hg,by omega,fun j hj=> ?_⟩
 rw[←hf j hj,←ht,List.getElem?_take,if_pos (by omega),Array.getElem?_toList]
theorem u64s_get(l:List Nat)(j:Nat)(h:j<l.length):(u64s l)[j]? =some (.int .u64 (l.getD j 0:Nat)):=by
 simp[u64s,List.getD_eq_getElem?_getD,h]
theorem word_new{wr:World}{n:Nat}{e:TypeId}: ∀j u,[Value.int .u64 (n:Int)][j]? =some u→(wr.alloc (.cells #[.int .u64 (n:Int)] e)).cell? ((⟨wr.heap.size,0,none⟩:Addr).add j)=some u:=by
 intro j u hu
 rw[Addr.add_lit,Nat.zero_add,cell_of_row _ _ j _ e (0,0) (Go.heap_alloc_new wr _)]
 simpa using hu
theorem primes_any(w:World):
 Calls Tryz.prog 300 #[.int .i64 64] w fun e w' =>e=.returned (.slice (some ⟨w.heap.size,0,none⟩) 64 64)∧Row w' w.heap.size 251 64 (fun j=> .int .u64 ((prS 310).getD j 0))∧Old w w' :=by
 obtain ⟨i0,hi0,hz0,hz1,hz2⟩:=info_parts infoW64
 go_in
 go_wp2_with (at_make;refine wpList_make_own _ rfl (.const (.int .i64 0)) (.tmp 5) 306 rfl w.heap.size 251 i0 (.int .u64 0) 1 Tryz.underlying306 hi0 hz0 hz1 .i64 .i64 64 64 rfl rfl rfl (by rw[hz2];omega) (by unfold maxLen;omega) (by simp) ?_;intro w1 ho1 hg1;have HO1:=hide ho1;have HOld:=hide ((Only.refl (fun _=>False) w).grown hg1 (fun k _ e=>by cases e));clear ho1 hg1)
 go_loopw [3,4] (fun v i wr=> ∃k m n:Nat,k≤310∧m≤64∧i=.int .u64 n∧v=.slice (some ⟨w.heap.size,0,none⟩) m 64∧Hid (m=(prS k).length∧n=k+2)∧Hid (wr.ownsRow w.heap.size 251 1 (.slice (some ⟨w.heap.size,0,none⟩) m 64) m (u64s (prS k)))∧Hid (Old w wr)) (fun _ i _=>312- (intOf i).toNat)
 ·exact ⟨0,0,2,by omega,by omega,rfl,rfl,⟨rfl,rfl⟩,HO1,HOld⟩
 obtain ⟨k,m,n,hk,hm,rfl,rfl,HE,HR,HQ⟩:=hrel
 obtain ⟨he1,he2⟩:=uh HE
 by_cases hlt:m<64
 ·have hk9:k<310:=by
   rcases Nat.lt_or_ge k 310 with h|h
   ·exact h
   rw[show k=310 by omega,prS_310] at he1;omega
  have hn1000:n<1000:=by omega
  have HD:=hide (divided_any n hn1000 (fun j=>(prS k).getD j 0) m 64 w.heap.size hm wr (fun j hj=>by
   have hj' :j<(prS k).length:=by omega
   have:=prS_lt k ((prS k)[j]) (List.getElem_mem hj')
   simp only[List.getD_eq_getElem?_getD,List.getElem?_eq_getElem hj',Option.getD_some]
   omega) (Row.ofOwns (uh HR) (fun j hj=>u64s_get _ j (by omega))))
  have HA:Hid (anyD n (fun j=>(prS k).getD j 0) m=(prS k).any (fun d=>(k+2)%d==0)):=hide (by rw[he1,he2,anyD_list])
  have HP:Hid (prS (k+1)=if (prS k).any (fun d=>(k+2)%d==0) then prS k else prS k++[k+2]):=hide rfl
  generalize anyD n (fun j=>(prS k).getD j 0) m=b at HD HA
  rw[←uh HA] at HP
  clear HA he1 he2
  cases b with
  |true=>
   go_wp2_with (go_at_call 338;refine (uh HD).mono ?_;rintro e w' ⟨rfl,rfl⟩)
   go_roundw
   ·have e:prS (k+1)=prS k:=by rw[uh HP];exact if_pos trivial
    obtain ⟨he1,he2⟩:=uh HE
    exact ⟨k+1,m,n+1,by omega,hm,by go_num,rfl,⟨by rw[e];exact he1,by omega⟩,by rw[e];exact HR,HQ⟩
   simp[intOf];obtain ⟨he1,he2⟩:=uh HE;omega
  |false=>
   have HNW:=hide (word_new (wr:=wr) (n:=n) (e:=251))
   have HOW:Hid ((wr.alloc (.cells #[.int .u64 (n:Int)] 251)).ownsRow w.heap.size 251 1 (.slice (some ⟨w.heap.size,0,none⟩) m 64) m (u64s (prS k))):=(uh HR).alloc _
   go_wp2_with (first
    |(go_at_call 338;refine (uh HD).mono ?_;rintro e w' ⟨rfl,rfl⟩)
    |(at_builtin;refine wpList_append_fits _ rfl (.tmp 17) (.tmp 19) 306 rfl w.heap.size 251 i0 1 Tryz.underlying306 hi0 hz1 w.heap.size m 64 _ rfl (uh HOW) ⟨_,0,none⟩ 1 1 [.int .u64 (n:Int)] rfl rfl (uh HNW) (by intro u hu;simp at hu;subst hu;rfl) (by omega) ?_;intro w3 ho3 hg3;have HO3:=hide ho3;have HG3:=hide hg3;clear ho3 hg3))
   go_roundw
   ·have e:prS (k+1)=prS k++[k+2]:=by rw[uh HP];rfl
    obtain ⟨he1,he2⟩:=uh HE
    refine ⟨k+1,m+1,n+1,by omega,by omega,by go_num,rfl,⟨by rw[e,List.length_append];simp;exact he1,by omega⟩, ?_, ?_⟩
    ·have e2:u64s (prS (k+1))=u64s (prS k)++[.int .u64 (n:Int)]:=by rw[e];simp[u64s,he2]
     rw[e2];exact uh HO3
    exact ((uh HQ).alloc _).grown (uh HG3) (fun q hq e=>by cases e;omega)
   simp[intOf];obtain ⟨he1,he2⟩:=uh HE;omega
 have hm64:m=64:=by omega
 have hk310:prS k=prS 310:=by
  rcases Nat.lt_or_ge k 310 with h|h
  ·have:=prS_mono (show k≤309 by omega);rw[prS_309] at this;omega
  rw[show k=310 by omega]
 subst hm64
 have HRow:Hid (Row wr w.heap.size 251 64 (fun j=> .int .u64 ((prS 310).getD j 0:Nat))):=Row.ofOwns (uh HR) (fun j hj=>by rw[hk310];exact u64s_get _ j (by rw[prS_310];exact hj))
 clear hk310 he1 he2
 go_wp2_with fail
 go_ret
 exact ⟨rfl,HRow,HQ⟩
open Go.RowKit Go.Maps
theorem roots_k:(prS 310).map (fun p=>rootN p 35%4294967296)=kList:=by decide+kernel
theorem map_getD(f:Nat→Nat)(l:List Nat)(j:Nat)(h:j<l.length):(l.map f).getD j 0=f (l.getD j 0):=by
 simp[List.getD_eq_getElem?_getD,h]
theorem root_k(j:Nat)(h:j<64):rootN ((prS 310).getD j 0) 35%4294967296=kNum j:=by
 have hj:j<(prS 310).length:=by rw[prS_310];exact h
 rw[kNum,←roots_k,map_getD (fun p=>rootN p 35%4294967296) _ _ hj]
def kwU(t j:Nat):Value:=if j<t then .int .u32 (kNum j) else .int .u32 0
theorem kwU_one(t j:Nat):(kwU t j).oneCell' =true:=by unfold kwU;split<;>rfl
theorem kwU_lt{t j:Nat}(h:j<t):kwU t j=.int .u32 (kNum j):=if_pos h
theorem kwU_step(t:Nat): ∀j,j<64→(if j=t then Value.int .u32 (kNum t) else kwU t j)=kwU (t+1) j:=by
 intro j _
 unfold kwU
 by_cases h:j=t
 ·subst h;rw[if_pos rfl,if_pos (by omega)]
 rw[if_neg h]
 by_cases h2:j<t
 ·rw[if_pos h2,if_pos (by omega)]
 rw[if_neg h2,if_neg (by omega)]
theorem primes_c: ∃pf:Nat→Nat,(∀j,j<64→pf j<512∧rootN (pf j) 35%4294967296=kNum j)∧ ∀w:World,
 Calls Tryz.prog 300 #[.int .i64 64] w fun e w' =>e=.returned (.slice (some ⟨w.heap.size,0,none⟩) 64 64)∧Row w' w.heap.size 251 64 (fun j=> .int .u64 (pf j))∧Old w w' :=by
 refine ⟨fun j=>(prS 310).getD j 0,fun j hj=>⟨?_,root_k j hj⟩,primes_any⟩
 have hj' :j<(prS 310).length:=by rw[prS_310];exact hj
 have:=prS_lt 310 ((prS 310)[j]) (List.getElem_mem hj')
 show (prS 310).getD j 0<512
 rw[List.getD_eq_getElem?_getD,List.getElem?_eq_getElem hj',Option.getD_some]
 omega
theorem workedOut_any(w:World):
 Calls Tryz.prog 222 #[] w fun e w' =>e=.returned (.agg (u64A kNum))∧Old w w' :=by
 obtain ⟨pf,hpf,hpr⟩:=primes_c
 have HPF:=hide hpf
 have HPR:=hide hpr
 clear hpf hpr
 go_in
 go_wp2_with (go_at_call 300;refine (uh HPR _).mono ?_;rintro e w1 ⟨rfl,hr1,ho1⟩;have HR1:=hide hr1;have HO1:=hide ho1;clear hr1 ho1)
 go_loopw [6] (fun i wr=> ∃t:Nat,t≤64∧i=.int .i64 t∧Hid (Arr wr (w.heap.size+1) 247 64 (kwU t))∧Hid (Arr wr w.heap.size 247 64 (kwU 0))∧Hid (Row wr (w.heap.size+2) 251 64 (fun j=> .int .u64 (pf j)))∧Hid (Old w wr)) (fun i _=>64- (intOf i).toNat)
 ·refine ⟨0,by omega,rfl, ?_, ?_, ?_, ?_⟩
  ·refine hide (Arr.old ?_ (uh HO1))
   exact Arr.mk' (by simp) (by kernel_rfl)
  ·refine hide (Arr.old (Arr.alloc ?_ _) (uh HO1))
   exact Arr.mk' rfl (by kernel_rfl)
  ·have hr:=uh HR1
   simp only[World.size_alloc] at hr
   exact hr
  exact Only.trans (((Only.refl _ w).alloc _).alloc _) (uh HO1)
 obtain ⟨t,ht,rfl,HW,HZ,HR,HO⟩:=hrel
 by_cases h64:t<64
 ·have hfr:=(uh HW).row.thaw
  have hce:=(uh HW).row.cell t h64
  have hcp:=(uh HR).cell t h64
  obtain ⟨hp1,hp2⟩:=uh HPF t h64
  have HC:=hide (fun w1=>cubeRoot_any (pf t) hp1 w1)
  rw[hp2] at HC
  generalize pf t=p at hcp hp1 hp2 HC
  have HK:=hide (kwU_step t)
  clear hp2
  generalize kNum t=kt at HC HK
  have ht64:(t:Int)<64:=by omega
  go_wp2_with (go_at_call 301;refine (uh HC _).mono ?_;rintro e w1 ⟨rfl,rfl⟩)
  go_roundw
  ·refine ⟨t+1,by omega,by go_num, ?_, ?_, ?_, ?_⟩
   ·exact ((uh HW).set t _).congr (uh HK)
   ·exact (uh HZ).setOther _ _ (by omega) _
   ·exact (uh HR).setOther _ _ (by omega) _
   exact (uh HO).setCell (p:=⟨w.heap.size+1,t,none⟩) (fun h=>absurd (show w.heap.size+1<w.heap.size from h) (by omega)) _
  case measure=>simp[intOf];omega
 have ht64:t=64:=by omega
 rw[ht64] at HW
 clear ht64
 have hW:wr.heap[w.heap.size+1]? =some (.cells (arrF 64 (kwU 64)) 247 (0,0)):=uh HW
 have hZ:wr.heap[w.heap.size]? =some (.cells (arrF 64 (kwU 0)) 247 (0,0)):=uh HZ
 have hi:(Tryz.prog.info? 247).map (·.size)=some (arrF 64 (kwU 64)).size:=by rw[arrF_size];exact infoA64
 have h1:(arrF 64 (kwU 64)).all (·.oneCell')=true:=arr_one _ _ (kwU_one 64)
 have HFin:Hid (arrF 64 (kwU 64)=u64A kNum):=arrF_congr (fun j hj=>kwU_lt hj)
 have hsz:(arrF 64 (kwU 0)).size=(arrF 64 (kwU 64)).size:=by rw[arrF_size,arrF_size]
 generalize hA:arrF 64 (kwU 64)=A at*
 have HH:=hide hA
 clear hA
 go_wp2_with (first
  |(refine wpList_load_row rfl 247 (.tmp 1) rfl (w.heap.size+1) rfl 247 A (0,0) _ hW Tryz.underlying247 rfl hi ?_)
  |(refine wpList_store_row rfl 247 (.tmp 0) (.tmp 16) rfl w.heap.size A rfl rfl 247 _ hZ hi hsz h1 ?_))
 refine bodyPost_ret (v:=.agg A) (results_cell_row Tryz.results222 _ _ w.heap.size 247 A (0,0) _ rfl (setRow_heap wr w.heap.size _ A _ _ hZ) Tryz.underlying247 rfl hi) rfl ⟨?_, ?_⟩
 ·rw[uh HFin]
 exact (uh HO).setRow _ (fun h=>absurd h (Nat.lt_irrefl _)) _
section
variable {P:Program} {ops:Array Oper} {Q:Exit→Act→World→Prop} {md:Region.Mode} {S:World→Prop} {L:Nat}
theorem wpAnyH_two{i j:Nat}{n:Nat}{ls:Array Bool}{a:Act}{w:World}(hr:Region.ready md ops ls=[i,j])
 (h:wpOp P ops Q i (fun a' w' =>(i≠L→S w')∧wpAnyL P md ops Q S L n (ls.setIfInBounds i true) a' w') a w)
 (k:wpOp P ops Q j (fun a' w' =>(j≠L→S w')∧wpAnyL P md ops Q S L n (ls.setIfInBounds j true) a' w') a w):wpAnyL P md ops Q S L (n+1) ls a w:=by
 refine ⟨fun h0=> ?_,fun m hm=> ?_⟩
 ·rw[hr] at h0;cases h0
 rw[hr] at hm
 rcases List.mem_cons.1 hm with rfl|hm
 ·exact h
 cases List.mem_singleton.1 hm;exact k
end
def Glob(w:World):Prop:= ∃t fr,w.heap[0]? =some (.cells (u8A h0) t fr)
theorem Glob.old{w w' :World}(h:Glob w)(ho:Old w w'):Glob w' :=by
 obtain ⟨t,fr,hg⟩:=h
 exact ⟨t,fr,old_heap ho hg⟩
theorem load8g{w:World}(h:Glob w):(loadVar 181 ⟨0,0,none⟩).run Tryz.prog w=.ok (.agg (u8A h0)) w:=by
 obtain ⟨t,fr,hg⟩:=h
 exact run_loadVar_row w _ _ _ _ _ _ hg Tryz.underlying181 rfl infoA8
theorem fold_words(s:ByteArray)(p:ByteArray)(q r:Nat)(hq:64*q≤s.size)(hr:s.size- 64*q+p.size=64*r):
 foldX kNum (foldX kNum h0 (s.extract 0 (64*q)) q) (s.extract (64*q) s.size++p) r=foldX kNum h0 (s++p) (q+r):=by
 have ha:(s.extract 0 (64*q)).size=64*q:=by rw[ByteArray.size_extract];omega
 have hb:(s.extract (64*q) s.size++p).size=64*r:=by rw[ByteArray.size_append,ByteArray.size_extract];omega
 rw[←foldX_append kNum h0 _ _ q r ha hb,←ByteArray.append_assoc]
 congr 2
 have:=ByteArray.extract_append_extract (a:=s) (i:=0) (j:=64*q) (k:=s.size)
 rw[this,Nat.min_eq_left (by omega),Nat.max_eq_right hq,ByteArray.extract_zero_size]
theorem wp_store64{o:Oper}{a:Act}{w:World}{K:Act→World→Prop}{Q:Exit→Act→World→Prop}(x y:Operand)(ho:o.op=.store 247 x y)(hd:o.dst=none)(g:Nat)(f:Nat→Nat)
 (hx:a.eval x=.pointer (some ⟨g,0,none⟩))(hy:a.eval y=.agg (u64A f)){f0:Nat→Nat}(hg:w.heap[g]? =some (.cells (u64A f0) 247 (0,0)))
 (h:K a (w.setRow g (u64A f))):o.wp Tryz.prog a w K Q:=
 wp_store_row _ x y ho g (u64A f) hx hy _ _ hg (by rw[u64A,arrF_size];exact infoA64) (by rw[u64A,u64A,arrF_size,arrF_size]) (arr_one _ _ (fun _=>rfl)) (by rw[hd];exact h)
theorem words_any(s:ByteArray)(hl:s.size≤140737488355328)(w:World)(hg:Glob w):
 Calls Tryz.prog 132 #[.string s] w fun e w' =>e=.returned (.agg (u8A (foldX kNum h0 (s++⟨(padZ (zeroN s.size) s.size 8).toArray⟩) ((s.size+9+zeroN s.size)/64))))∧Old w w' :=by
 obtain ⟨q,hq⟩: ∃q,q=s.size/64:=⟨_,rfl⟩
 have hwh:(s.size:Int)- (s.size:Int)%64=((64*q:Nat):Int):=by omega
 have hq1:((64*q:Nat):Int)≤(s.size:Int):=by omega
 have hq0:(0:Int)≤((64*q:Nat):Int):=by omega
 have hqN:64*q≤s.size:=by omega
 have HQ:=hide hq
 have hxs:(s.extract 0 (64*q)).size=64*q:=by rw[ByteArray.size_extract];omega
 have HA1:=hide (fun w1=>absorb_any h0 h0_ok kNum kNum_lt (s.extract 0 (64*q)) (by rw[hxs];omega) (by rw[hxs];omega) w1)
 rw[hxs,Nat.mul_div_cancel_left q (by omega:0<64)] at HA1
 have hyo:(foldX kNum h0 (s.extract 0 (64*q)) q).ok:=foldX_ok h0_ok _ _
 have HFW:=hide (fold_words s ⟨(padZ (zeroN s.size) s.size 8).toArray⟩ q)
 generalize foldX kNum h0 (s.extract 0 (64*q)) q=y at HA1 hyo HFW
 have HG0:=hide hg
 have HWH:=hide hwh
 have HQ1:=hide hq1
 have HQ0:=hide hq0
 have HQN:=hide hqN
 clear hq hwh hq1 hq0 hqN hxs hg
 have ho0:Old w (w.alloc (.cells (u8A ⟨0,0,0,0,0,0,0,0⟩) 181)):=(Only.refl _ w).alloc _
 have hz0:(w.alloc (.cells (u8A ⟨0,0,0,0,0,0,0,0⟩) 181)).heap[w.heap.size]? =some (.cells (u8A ⟨0,0,0,0,0,0,0,0⟩) 181 (0,0)):=Go.heap_alloc_new w _
 have HO0:=hide ho0
 have HZ0:=hide hz0
 clear ho0 hz0
 go_in
 go_wp2_with fail
 refine (workedOut_any (w.alloc (.cells (u8A ⟨0,0,0,0,0,0,0,0⟩) 181))).mono ?_
 rintro e w1 ⟨rfl,ho1⟩
 have HO1:Hid (Old w w1):=(uh HO0).trans ho1
 have HZ1:=hide (old_heap ho1 (uh HZ0))
 have HNK:Hid ((w1.alloc (.cells (u64A fun _=>0) 247)).heap[w1.heap.size]? =some (.cells (u64A fun _=>0) 247 (0,0))):=Go.heap_alloc_new w1 _
 clear HO0 HZ0 ho1
 go_wp2_with (refine wpList_plain rfl (fun K hK=>wp_store64 (.tmp 3) (.tmp 6) rfl rfl w1.heap.size kNum rfl rfl (uh HNK) (hK _ _ ?_)))
 rw[uh HWH]
 change Code.wp _ _ _ _ ((w1.alloc (.cells (u64A fun _=>0) 247)).setRow w1.heap.size (u64A kNum))
 have HK:Hid (((w1.alloc (.cells (u64A fun _=>0) 247)).setRow w1.heap.size (u64A kNum)).heap[w1.heap.size]? =some (.cells (u64A kNum) 247 (0,0))):=setRow_heap _ _ _ _ _ _ (uh HNK)
 have hoW:Old w1 ((w1.alloc (.cells (u64A fun _=>0) 247)).setRow w1.heap.size (u64A kNum)):=((Only.refl _ w1).alloc _).setRow _ (fun h=>absurd h (Nat.lt_irrefl _)) _
 have HZ:=hide (old_heap hoW (uh HZ1))
 have HO:Hid (Old w ((w1.alloc (.cells (u64A fun _=>0) 247)).setRow w1.heap.size (u64A kNum))):=(uh HO1).trans hoW
 have HG:=hide ((uh HG0).old (uh HO))
 have hwsz:w.heap.size<w1.heap.size:=(Array.getElem?_eq_some_iff.1 (uh HZ1)).1
 have HWS:Hid (w1.heap.size<((w1.alloc (.cells (u64A fun _=>0) 247)).setRow w1.heap.size (u64A kNum)).heap.size):=(Array.getElem?_eq_some_iff.1 (uh HK)).1
 have HWR:=hide hwsz
 clear HG0 HO1 HZ1 HNK hoW hwsz
 generalize (w1.alloc (.cells (u64A fun _=>0) 247)).setRow w1.heap.size (u64A kNum)=W at*
 generalize w1.heap.size=gk at*
 generalize hqq:64*q=qq at*
 have HQQ:=hide hqq
 clear hqq
 go_cut [5] from 13 to 18 (fun h wx=> ∃g,h=.pointer (some ⟨g,0,none⟩)∧Hid (gk<g)∧Hid (wx.heap[g]? =some (.cells (u8A y) 181 (0,0)))∧Hid (wx.heap[gk]? =some (.cells (u64A kNum) 247 (0,0)))∧Hid (wx.heap[w.heap.size]? =some (.cells (u8A ⟨0,0,0,0,0,0,0,0⟩) 181 (0,0)))∧Hid (Old w wx))
 case first=>
  have hq1:=uh HQ1
  have hq0:=uh HQ0
  have htn:((qq:Nat):Int).toNat=qq:=Int.toNat_natCast _
  have HSW:Hid (Glob W.drew∧W.drew.heap[gk]? =some (.cells (u64A kNum) 247 (0,0))):=⟨(uh HG),uh HK⟩
  refine wp_region_last (S:=fun W=>Glob W∧W.heap[gk]? =some (.cells (u64A kNum) 247 (0,0))) (L:=7) (by kernel_rfl) ?_
  refine wpAnyL_take (i:=0) (v:=.agg (u8A h0)) (some 13) rfl rfl (by kernel_rfl) (by kernel_rfl) (by kernel_rfl) (by kernel_rfl) (fun _ _ _ h=>h) (held_load rfl _ _ rfl ⟨0,0,none⟩ rfl _ (fun W hW=>load8g hW.1)) (uh HSW) ?_
  simp only[Act.put,List.setIfInBounds_toArray,List.set_cons_zero,List.set_cons_succ]
  refine wpAnyL_take (i:=1) (v:=.agg (u64A kNum)) (some 14) rfl rfl (by kernel_rfl) (by kernel_rfl) (by kernel_rfl) (by kernel_rfl) (fun _ _ _ h=>h) (held_load rfl _ _ rfl ⟨gk,0,none⟩ rfl _ (fun W hW=>load64 hW.2)) (uh HSW) ?_
  simp only[Act.put,List.setIfInBounds_toArray,List.set_cons_zero,List.set_cons_succ]
  refine wpAnyL_take (i:=2) (v:=.string s) (some 15) rfl rfl (by kernel_rfl) (by kernel_rfl) (by kernel_rfl) (by kernel_rfl) (fun _ _ _ h=>h) (.inl ⟨rfl,fun W _=>by go_simp⟩) (uh HSW) ?_
  simp only[Act.put,List.setIfInBounds_toArray,List.set_cons_zero,List.set_cons_succ]
  refine wpAnyL_take (i:=3) (v:=.int .i64 (qq:Nat)) (some 16) rfl rfl (by kernel_rfl) (by kernel_rfl) (by kernel_rfl) (by kernel_rfl) (fun _ _ _ h=>h) (.inl ⟨rfl,fun W _=>by go_simp⟩) (uh HSW) ?_
  simp only[Act.put,List.setIfInBounds_toArray,List.set_cons_zero,List.set_cons_succ]
  refine wpAnyL_take (i:=4) (v:=.string (s.extract 0 qq)) (some 17) rfl rfl (by kernel_rfl) (by kernel_rfl) (by kernel_rfl) (by kernel_rfl) (fun _ _ _ h=>h) (.inl ⟨rfl,fun W _=>by go_simp⟩) (uh HSW) ?_
  simp only[Act.put,List.setIfInBounds_toArray,List.set_cons_zero,List.set_cons_succ]
  refine wpAnyH_two (i:=5) (j:=6) (by kernel_rfl) ?_ ?_
  ·refine wpOp_step rfl (fun K' hK=> ?_)
   go_simp
   refine (uh HA1 _).mono ?_
   rintro e w5 ⟨rfl,ho5⟩
   have hsw:=uh HSW
   have ha5:=hsw.1.old ho5
   have hb5:=old_heap ho5 hsw.2
   refine hK _ _ ⟨fun _=>⟨ha5,hb5⟩, ?_⟩
   clear hK
   refine wpAnyL_one (i:=6) (by kernel_rfl) ?_
   refine wpOp_step rfl (fun K' hK=> ?_)
   go_simp
   have ho6:Old w5 (w5.alloc (.cells (u8A ⟨0,0,0,0,0,0,0,0⟩) 181)):=(Only.refl _ w5).alloc _
   have hz6:=Go.heap_alloc_new w5 (.cells (u8A ⟨0,0,0,0,0,0,0,0⟩) 181)
   refine hK _ _ ⟨fun _=>⟨ha5.old ho6,old_heap ho6 hb5⟩, ?_⟩
   clear hK
   refine wpAnyL_one (i:=7) (by kernel_rfl) ?_
   refine op_plain rfl rfl (wp_store8 (.tmp 5) (.tmp 18) rfl rfl w5.heap.size y rfl rfl hz6 ?_)
   refine ⟨fun h=>absurd rfl h,wpAnyL_done (by kernel_rfl) ?_⟩
   go_wp2_with fail
   go_meet
   case rel=>
    have hW5:Old W w5:=Only.trans ((Only.refl _ W).drew) ho5
    have h5s:gk<w5.heap.size:=Nat.lt_of_lt_of_le (uh HWS) hW5.size
    have h5r:=uh HWR
    have hWK:=old_heap ho6 (old_heap hW5 (uh HK))
    have hWZ:=old_heap ho6 (old_heap hW5 (uh HZ))
    refine ⟨_,rfl,h5s,setRow_heap _ _ _ _ _ _ hz6, ?_, ?_, ?_⟩
    ·exact ((only_row _ w5.heap.size _).block _ (Array.getElem?_eq_some_iff.1 hWK).1 (by omega)).trans hWK
    ·exact ((only_row _ w5.heap.size _).block _ (Array.getElem?_eq_some_iff.1 hWZ).1 (by omega)).trans hWZ
    exact (Only.trans (Only.trans (uh HO) hW5) ho6).setRow _ (fun h=>absurd h (by omega)) _
  refine wpOp_step rfl (fun K' hK=> ?_)
  go_simp
  have ho5:Old W.drew (W.drew.alloc (.cells (u8A ⟨0,0,0,0,0,0,0,0⟩) 181)):=(Only.refl _ _).alloc _
  have hz5:=Go.heap_alloc_new W.drew (.cells (u8A ⟨0,0,0,0,0,0,0,0⟩) 181)
  have hsw:=uh HSW
  have ha5:=hsw.1.old ho5
  have hb5:=old_heap ho5 hsw.2
  refine hK _ _ ⟨fun _=>⟨ha5,hb5⟩, ?_⟩
  clear hK
  refine wpAnyL_one (i:=5) (by kernel_rfl) ?_
  refine wpOp_step rfl (fun K' hK=> ?_)
  go_simp
  refine (uh HA1 _).mono ?_
  rintro e w6 ⟨rfl,ho6⟩
  have hz6:=old_heap ho6 hz5
  refine hK _ _ ⟨fun _=>⟨ha5.old ho6,old_heap ho6 hb5⟩, ?_⟩
  clear hK
  refine wpAnyL_one (i:=7) (by kernel_rfl) ?_
  refine op_plain rfl rfl (wp_store8 (.tmp 5) (.tmp 18) rfl rfl W.heap.size y rfl rfl hz6 ?_)
  refine ⟨fun h=>absurd rfl h,wpAnyL_done (by kernel_rfl) ?_⟩
  go_wp2_with fail
  go_meet
  case rel=>
   have hW6:Old W w6:=Only.trans (Only.trans ((Only.refl _ W).drew) ho5) ho6
   have h5s:gk<W.heap.size:=uh HWS
   have h5r:=uh HWR
   have hWK:=old_heap hW6 (uh HK)
   have hWZ:=old_heap hW6 (uh HZ)
   refine ⟨_,rfl,h5s,setRow_heap _ _ _ _ _ _ hz6, ?_, ?_, ?_⟩
   ·exact ((only_row _ W.heap.size _).block _ (Array.getElem?_eq_some_iff.1 hWK).1 (by omega)).trans hWK
   ·exact ((only_row _ W.heap.size _).block _ (Array.getElem?_eq_some_iff.1 hWZ).1 (by omega)).trans hWZ
   exact (Only.trans (uh HO) hW6).setRow _ (fun h=>absurd h (by omega)) _
 case rest=>
  obtain ⟨g,rfl,HGE,HH,HK2,HZ2,HO2⟩:=hcut
  clear HG HK HZ HO HWS
  have hq1:=uh HQ1
  have hq0:=uh HQ0
  have htn:((qq:Nat):Int).toNat=qq:=Int.toNat_natCast _
  have hqN:=uh HQN
  have HPA:=hide (fun w1=>padding_any s.size hl w1)
  have hps:(⟨(padZ (zeroN s.size) s.size 8).toArray⟩:ByteArray).size=9+zeroN s.size:=by show (padZ (zeroN s.size) s.size 8).toArray.size=_;rw[List.size_toArray,padZ_len];omega
  have hz64:zeroN s.size<64:=Nat.mod_lt _ (by omega)
  obtain ⟨r,hr⟩: ∃r,s.size- qq+(9+zeroN s.size)=64*r:=⟨(s.size- qq+(9+zeroN s.size))/64,by have:=uh HQ;have:=uh HQQ;unfold zeroN;omega⟩
  have HE:Hid (foldX kNum y (s.extract qq s.size++⟨(padZ (zeroN s.size) s.size 8).toArray⟩) r=foldX kNum h0 (s++⟨(padZ (zeroN s.size) s.size 8).toArray⟩) ((s.size+9+zeroN s.size)/64)):=by
   have h1:=uh HFW r hqN (by rw[hps];exact hr)
   have h2:(s.size+9+zeroN s.size)/64=q+r:=by have:=uh HQQ;omega
   rw[h2];exact h1
  clear HFW
  have hts:(s.extract qq s.size++⟨(padZ (zeroN s.size) s.size 8).toArray⟩).size=64*r:=by rw[ByteArray.size_append,ByteArray.size_extract,hps];omega
  have hr64:64*r≤140737488355328:=by have:=uh HQ;have:=uh HQQ;omega
  have HA2:=hide (fun w1=>absorb_any y hyo kNum kNum_lt (s.extract qq s.size++⟨(padZ (zeroN s.size) s.size 8).toArray⟩) (by rw[hts];omega) (by rw[hts];omega) w1)
  rw[hts,Nat.mul_div_cancel_left r (by omega:0<64)] at HA2
  rw[uh HE] at HA2
  clear HE
  have hwu:IntKind.u64.wrap (s.size:Int)=(s.size:Int):=by rw[IntKind.wrap_u64];omega
  generalize hzz:foldX kNum h0 (s++⟨(padZ (zeroN s.size) s.size 8).toArray⟩) ((s.size+9+zeroN s.size)/64)=z at*
  have HZZ:=hide hzz
  clear hzz
  clear hps hr hts hr64
  have hpz:(⟨(padZ (zeroN s.size) s.size 8).toArray⟩:ByteArray).size≤100:=by show (padZ (zeroN s.size) s.size 8).toArray.size≤_;rw[List.size_toArray,padZ_len];omega
  generalize (⟨(padZ (zeroN s.size) s.size 8).toArray⟩:ByteArray)=pd at HPA HA2 hpz
  have HSW:Hid (wc.drew.heap[g]? =some (.cells (u8A y) 181 (0,0))∧wc.drew.heap[gk]? =some (.cells (u64A kNum) 247 (0,0))):=⟨uh HH,uh HK2⟩
  go_upto_region 4 with fail
  refine wp_region_last (S:=fun W=>W.heap[g]? =some (.cells (u8A y) 181 (0,0))∧W.heap[gk]? =some (.cells (u64A kNum) 247 (0,0))) (L:=11) (by kernel_rfl) ?_
  refine wpAnyL_take (i:=0) (v:=.agg (u8A y)) (some 19) rfl rfl (by kernel_rfl) (by kernel_rfl) (by kernel_rfl) (by kernel_rfl) (fun _ _ _ h=>h) (held_load rfl _ _ rfl ⟨g,0,none⟩ rfl _ (fun W hW=>load8 hW.1)) (uh HSW) ?_
  simp only[Act.put,List.setIfInBounds_toArray,List.set_cons_zero,List.set_cons_succ]
  refine wpAnyL_take (i:=1) (v:=.agg (u64A kNum)) (some 20) rfl rfl (by kernel_rfl) (by kernel_rfl) (by kernel_rfl) (by kernel_rfl) (fun _ _ _ h=>h) (held_load rfl _ _ rfl ⟨gk,0,none⟩ rfl _ (fun W hW=>load64 hW.2)) (uh HSW) ?_
  simp only[Act.put,List.setIfInBounds_toArray,List.set_cons_zero,List.set_cons_succ]
  refine wpAnyL_take (i:=2) (v:=.string s) (some 21) rfl rfl (by kernel_rfl) (by kernel_rfl) (by kernel_rfl) (by kernel_rfl) (fun _ _ _ h=>h) (.inl ⟨rfl,fun W _=>by go_simp⟩) (uh HSW) ?_
  simp only[Act.put,List.setIfInBounds_toArray,List.set_cons_zero,List.set_cons_succ]
  refine wpAnyL_take (i:=3) (v:=.int .i64 (qq:Nat)) (some 22) rfl rfl (by kernel_rfl) (by kernel_rfl) (by kernel_rfl) (by kernel_rfl) (fun _ _ _ h=>h) (.inl ⟨rfl,fun W _=>by go_simp⟩) (uh HSW) ?_
  simp only[Act.put,List.setIfInBounds_toArray,List.set_cons_zero,List.set_cons_succ]
  refine wpAnyL_take (i:=4) (v:=.string (s.extract qq s.size)) (some 23) rfl rfl (by kernel_rfl) (by kernel_rfl) (by kernel_rfl) (by kernel_rfl) (fun _ _ _ h=>h) (.inl ⟨rfl,fun W _=>by go_simp⟩) (uh HSW) ?_
  simp only[Act.put,List.setIfInBounds_toArray,List.set_cons_zero,List.set_cons_succ]
  refine wpAnyL_take (i:=5) (v:=.string s) (some 24) rfl rfl (by kernel_rfl) (by kernel_rfl) (by kernel_rfl) (by kernel_rfl) (fun _ _ _ h=>h) (.inl ⟨rfl,fun W _=>by go_simp⟩) (uh HSW) ?_
  simp only[Act.put,List.setIfInBounds_toArray,List.set_cons_zero,List.set_cons_succ]
  refine wpAnyL_take (i:=6) (v:=.int .i64 (s.size:Nat)) (some 25) rfl rfl (by kernel_rfl) (by kernel_rfl) (by kernel_rfl) (by kernel_rfl) (fun _ _ _ h=>h) (.inl ⟨rfl,fun W _=>by go_simp⟩) (uh HSW) ?_
  simp only[Act.put,List.setIfInBounds_toArray,List.set_cons_zero,List.set_cons_succ]
  refine wpAnyL_take (i:=7) (v:=.int .u64 (s.size:Nat)) (some 26) rfl rfl (by kernel_rfl) (by kernel_rfl) (by kernel_rfl) (by kernel_rfl) (fun _ _ _ h=>h) (.inl ⟨rfl,fun W _=>by go_simp⟩) (uh HSW) ?_
  simp only[Act.put,List.setIfInBounds_toArray,List.set_cons_zero,List.set_cons_succ]
  refine wpAnyL_one (i:=8) (by kernel_rfl) ?_
  refine wpOp_step rfl (fun K' hK=> ?_)
  go_simp
  refine (uh HPA _).mono ?_
  rintro e w5 ⟨rfl,ho5⟩
  have hsw:=uh HSW
  have ha5:=old_heap ho5 hsw.1
  have hb5:=old_heap ho5 hsw.2
  refine hK _ _ ⟨fun _=>⟨ha5,hb5⟩, ?_⟩
  clear hK
  refine wpAnyL_one (i:=9) (by kernel_rfl) ?_
  refine wpOp_step rfl (fun K' hK=> ?_)
  go_simp
  rw[if_neg (by omega)]
  go_simp
  refine hK _ _ ⟨fun _=>⟨ha5,hb5⟩, ?_⟩
  clear hK
  refine wpAnyL_one (i:=10) (by kernel_rfl) ?_
  refine wpOp_step rfl (fun K' hK=> ?_)
  go_simp
  refine (uh HA2 _).mono ?_
  rintro e w6 ⟨rfl,ho6⟩
  have hz6:=old_heap ho6 (old_heap ho5 (show wc.drew.heap[w.heap.size]? =_ from uh HZ2))
  refine hK _ _ ⟨fun _=>⟨old_heap ho6 ha5,old_heap ho6 hb5⟩, ?_⟩
  clear hK
  refine wpAnyL_one (i:=11) (by kernel_rfl) ?_
  refine op_plain rfl rfl (wp_store8 (.tmp 2) (.tmp 29) rfl rfl w.heap.size z rfl rfl hz6 ?_)
  refine ⟨fun h=>absurd rfl h,wpAnyL_done (by kernel_rfl) ?_⟩
  go_wp2_with fail
  refine bodyPost_ret (v:=.agg (u8A z)) (results_cell_row Tryz.results132 _ _ w.heap.size 181 (u8A z) (0,0) _ rfl (setRow_heap w6 w.heap.size _ (u8A z) _ _ hz6) Tryz.underlying181 rfl infoA8) rfl ⟨by rw[uh HZZ], ?_⟩
  exact (Only.trans (Only.trans (uh HO2).drew ho5) ho6).setRow _ (fun h=>absurd h (by omega)) _
theorem of_any(s:ByteArray)(hl:s.size≤140737488355328)(w:World)(hg:Glob w):
 Calls Tryz.prog 72 #[.string s] w fun e w' =>e=.returned (.string (digestOf s))∧Old w w' :=by
 have HW:=hide (fun w1 h=>words_any s hl w1 h)
 have HX:Hid (∀w1,Calls Tryz.prog 131 #[.agg (u8A (foldX kNum h0 (s++⟨(padZ (zeroN s.size) s.size 8).toArray⟩) ((s.size+9+zeroN s.size)/64)))] w1 fun e w' =>e=.returned (.string (digestOf s))∧Old w1 w'):=fun w1=>by
  rw[digest_digL]
  exact inHex_any _ (foldX_ok h0_ok _ _) w1
 generalize foldX kNum h0 (s++⟨(padZ (zeroN s.size) s.size 8).toArray⟩) ((s.size+9+zeroN s.size)/64)=z at HW HX
 have HG:=hide hg
 clear hg hl
 generalize digestOf s=d at*
 go_in
 go_wp2_with fail
 refine (uh HW w (uh HG)).mono ?_
 rintro e w2 ⟨rfl,ho2⟩
 have HO2:=hide ho2
 clear ho2
 go_wp2_with fail
 refine (uh HX w2).mono ?_
 rintro e w3 ⟨rfl,ho3⟩
 have HO3:=hide (Only.trans (uh HO2) ho3)
 clear ho3
 go_wp2
 go_ret
 exact ⟨rfl,HO3⟩
theorem valiseDigest_any(s:ByteArray)(hl:s.size≤140737488355328)(w:World)(hg:Glob w):
 Calls Tryz.prog 41 #[.string s] w fun e w' =>e=.returned (.string (digestOf s))∧Old w w' :=by
 have HW:=hide (of_any s hl w hg)
 clear hg hl
 generalize digestOf s=d at*
 go_in
 go_wp2_with fail
 refine (uh HW).mono ?_
 rintro e w1 ⟨rfl,ho1⟩
 go_wp2
 go_ret
 exact ⟨rfl,ho1⟩
end Go.Proofs.YtndfmgdhiallpaaGreatDoor
