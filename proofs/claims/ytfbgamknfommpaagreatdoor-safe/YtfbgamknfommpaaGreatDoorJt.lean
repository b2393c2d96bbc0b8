import Derived.Test.YtfbgamknfommpaaGreatDoorJr
set_option maxRecDepth 100000
set_option maxHeartbeats 2000000
namespace Go.Proofs.YtfbgamknfommpaaGreatDoor
open Go.RowKit Go.Maps
theorem one_back(w:World)(b:Nat)(hb:b<256):(convert 64 9 (.slice (some ⟨w.heap.size,0,none⟩) 1 1)).run Tryz.prog (w.alloc (.cells #[.int .u8 (b:Int)] 5))=.ok (.string ⟨#[b8 b]⟩) (w.alloc (.cells #[.int .u8 (b:Int)] 5)):=by
 have h:=run_convert_bytes_back (w.alloc (.cells #[.int .u8 (b:Int)] 5)) 64 9 5 ⟨w.heap.size,0,none⟩ 1 [b8 b] Tryz.underlying64 Tryz.underlying5 Tryz.underlying9 (fun j hj=>by
  have:j=0:=by simpa using hj
  subst this
  rw[Addr.add_lit,Nat.zero_add,cell_of_row _ _ 0 _ _ (0,0) (Go.heap_alloc_new w _)]
  simp[b8_toNat hb])
 exact h
def plainIt(e:Ent):It:=⟨e.nm,0,checkOf e.dt,e.dt.size,e.dt⟩
def strB(l:List UInt8):ByteArray:=⟨l.toArray⟩
theorem strB_size(l:List UInt8):(strB l).size=l.length:=by show l.toArray.size=_;rw[List.size_toArray]
theorem strB_app(l m:List UInt8):strB l++strB m=strB (l++m):=by
 apply ByteArray.ext
 apply Array.ext'
 simp[strB,ByteArray.data_append]
theorem strB_sL(s:ByteArray):strB (sL s)=s:=by
 apply ByteArray.ext
 apply Array.ext'
 simp[strB,sL]
theorem sL_strB(l:List UInt8):sL (strB l)=l:=by simp[strB,sL]
def itemR(p s:ByteArray):Option (It×ByteArray):=
 if s.size<30 then none
 else if s.size<30+numL s 26 2+numL s 18 4 then none
 else if Lib.hasPrefix (s.extract 30 (30+numL s 26 2)).data.toList p.data.toList=false then none
 else if numL s 8 2≠0∧numL s 8 2≠8 then none
 else some (⟨⟨(Lib.trimPrefix (s.extract 30 (30+numL s 26 2)).data.toList p.data.toList).toArray⟩,numL s 8 2,numL s 14 4,numL s 22 4,s.extract (30+numL s 26 2) (30+numL s 26 2+numL s 18 4)⟩,s.extract (30+numL s 26 2+numL s 18 4) s.size)
theorem itemR_some{p s:ByteArray}{it:It}{b:ByteArray}(h:itemR p s=some (it,b))(hs:s.size≤40000)(w:World):
 Calls Tryz.prog 98 #[.string p,.string s] w fun r w' =>r=.returned (.tuple #[.agg it.v,.string b,.bool true])∧Old w w' :=by
 unfold itemR at h
 split at h
 ·cases h
 rename_i h1
 split at h
 ·cases h
 rename_i h2
 split at h
 ·cases h
 rename_i h3
 split at h
 ·cases h
 rename_i h4
 injection h with h
 injection h with ha hb
 subst ha hb
 exact readItemR p s _ _ _ _ _ _ hs (by omega) rfl rfl (by omega) (by simpa using h3) rfl rfl (by omega) rfl rfl w
theorem itemR_none{p s:ByteArray}(h:itemR p s=none)(hs:s.size≤40000)(w:World):
 Calls Tryz.prog 98 #[.string p,.string s] w fun r w' =>r=.returned (.tuple #[.agg #[.string ⟨#[]⟩,.int .u32 0,.int .u32 0,.int .u32 0,.string ⟨#[]⟩],.string ⟨#[]⟩,.bool false])∧Old w w' :=by
 have hA:Old w (w.alloc (.cells #[.string ⟨#[]⟩,.int .u32 0,.int .u32 0,.int .u32 0,.string ⟨#[]⟩] 97)):=(Only.refl _ w).alloc _
 have HZ:Hid ((w.alloc (.cells #[.string ⟨#[]⟩,.int .u32 0,.int .u32 0,.int .u32 0,.string ⟨#[]⟩] 97)).heap[w.heap.size]? =some (.cells #[.string ⟨#[]⟩,.int .u32 0,.int .u32 0,.int .u32 0,.string ⟨#[]⟩] 97 (0,0))):=Go.heap_alloc_new w _
 have HO:=hide hA
 clear hA
 by_cases h30:s.size<30
 ·have h30I:(s.size:Int)<30:=by omega
  clear h
  go_in
  go_wp2_with fail
  refine bodyPost_ret (results_cell_tmp2 Tryz.results98 _ _ w.heap.size 97 _ (0,0) _ rfl (uh HZ) Tryz.underlying97 rfl infoItem) rfl ⟨rfl,HO⟩
 have h30I:¬(s.size:Int)<30:=by omega
 have N1:=hide (fun W=>numberR s 26 2 (by omega) (by omega) (by omega) W)
 have N2:=hide (fun W=>numberR s 18 4 (by omega) (by omega) (by omega) W)
 have N3:=hide (fun W=>numberR s 8 2 (by omega) (by omega) (by omega) W)
 have b1:=numL_lt s 26 2
 have b2:=numL_lt s 18 4
 have b3:=numL_lt s 8 2
 obtain ⟨e1,hE1⟩: ∃e1,30+numL s 26 2=e1:=⟨_,rfl⟩
 obtain ⟨e2,hE2⟩: ∃e2,e1+numL s 18 4=e2:=⟨_,rfl⟩
 unfold itemR at h
 rw[if_neg h30,hE1,hE2] at h
 have HCP:=hide (fun W=>Tryz.strings_CutPrefix (s.extract 30 e1) p W)
 generalize numL s 26 2=k1 at*
 generalize numL s 18 4=k2 at*
 have hk1:k1<65536:=b1
 have hk2:k2<4294967296:=b2
 clear b1 b2
 have q1:(30:Int)+(k1:Int)=(e1:Int):=by omega
 have q2:(e1:Int)+(k2:Int)=(e2:Int):=by omega
 have hu1:IntKind.u64.wrap (e1:Int)=(e1:Int):=by rw[IntKind.wrap_u64];omega
 have hu2:IntKind.u64.wrap (e2:Int)=(e2:Int):=by rw[IntKind.wrap_u64];omega
 have he1b:e1≤100000:=by omega
 have he2b:e2≤5000000000:=by omega
 by_cases he:s.size<e2
 ·have heI:(s.size:Int)<(e2:Int):=by omega
  clear h HCP N3 b3 hE1 hE2
  go_in
  go_wp2_with fail
  refine (uh N1 _).mono ?_
  rintro r w1 ⟨rfl,rfl⟩
  go_wp2_with fail
  refine (uh N2 _).mono ?_
  rintro r w2 ⟨rfl,rfl⟩
  go_wp2_with fail
  refine bodyPost_ret (results_cell_tmp2 Tryz.results98 _ _ w.heap.size 97 _ (0,0) _ rfl (uh HZ) Tryz.underlying97 rfl infoItem) rfl ⟨rfl,HO⟩
 have heI:¬(s.size:Int)<(e2:Int):=by omega
 rw[if_neg he] at h
 have he1:30≤e1:=by omega
 have he1s:e1≤s.size:=by omega
 have hsl1: ∀W,(Instr.slice 9 (.string s) (some (.int .i64 30)) (some (.int .u64 (e1:Int))) none).run Tryz.prog W=.ok (.string (s.extract 30 e1)) W:=fun W=>run_slice_string W 9 s .i64 .u64 30 e1 Tryz.underlying9 (by omega) (by omega) (by omega)
 generalize numL s 8 2=k3 at*
 have hk3:k3<65536:=b3
 clear b3
 generalize (⟨(Lib.trimPrefix (s.extract 30 e1).data.toList p.data.toList).toArray⟩:ByteArray)=nm at*
 cases hpf:Lib.hasPrefix (s.extract 30 e1).data.toList p.data.toList with
 |false=>
  rw[hpf] at HCP
  clear h hpf hE1 hE2
  go_in
  go_wp2_with fail
  refine (uh N1 _).mono ?_
  rintro r w1 ⟨rfl,rfl⟩
  go_wp2_with fail
  refine (uh N2 _).mono ?_
  rintro r w2 ⟨rfl,rfl⟩
  go_wp2_with fail
  refine (uh HCP _).mono ?_
  rintro r w3 ⟨rfl,rfl⟩
  go_wp2_with fail
  refine (uh N3 _).mono ?_
  rintro r w4 ⟨rfl,rfl⟩
  go_wp2_with fail
  refine bodyPost_ret (results_cell_tmp2 Tryz.results98 _ _ w.heap.size 97 _ (0,0) _ rfl (uh HZ) Tryz.underlying97 rfl infoItem) rfl ⟨rfl,HO⟩
 |true=>
  rw[hpf] at h HCP
  rw[if_neg (by decide)] at h
  have h08:k3≠0∧k3≠8:=by
   by_cases hc:k3≠0∧k3≠8
   ·exact hc
   rw[if_neg hc] at h;cases h
  have h0:((k3:Int) !=0)=true:=by rw[bne_iff_ne];omega
  have h8:((k3:Int) !=8)=true:=by rw[bne_iff_ne];omega
  clear h hpf hE1 hE2 h08
  go_in
  go_wp2_with fail
  refine (uh N1 _).mono ?_
  rintro r w1 ⟨rfl,rfl⟩
  go_wp2_with fail
  refine (uh N2 _).mono ?_
  rintro r w2 ⟨rfl,rfl⟩
  go_wp2_with fail
  refine (uh HCP _).mono ?_
  rintro r w3 ⟨rfl,rfl⟩
  go_wp2_with fail
  refine (uh N3 _).mono ?_
  rintro r w4 ⟨rfl,rfl⟩
  go_wp2_with fail
  refine bodyPost_ret (results_cell_tmp2 Tryz.results98 _ _ w.heap.size 97 _ (0,0) _ rfl (uh HZ) Tryz.underlying97 rfl infoItem) rfl ⟨rfl,HO⟩
def badB(its:List It)(it:It):Bool:=its.length==60||(decide (0<its.length)&& !decide ((its.getD (its.length- 1) itD).name.data.toList<it.name.data.toList))
def readGo(p:ByteArray):Nat→ByteArray→List It→Option (List It)
 |0,_,_=>none
 |n+1,rest,its=>if Lib.hasPrefix rest.data.toList mkL.data.toList=false then some its else
  match itemR p rest with
  |none=>none
  |some (it,b)=>if badB its it then none else readGo p n b (its++[it])
def readP(p s:ByteArray):Option (List It):=match readGo p (s.size+1) s [] with
 |none=>none
 |some its=>if strB (laidL p its)=s then some its else none
theorem trimP_len(l p:List UInt8)(h:Lib.hasPrefix l p=true):(Lib.trimPrefix l p).length+p.length=l.length:=by
 have h1:p<+:l:=by
  unfold Lib.hasPrefix at h
  exact List.isPrefixOf_iff_prefix.1 h
 obtain ⟨t,rfl⟩:=h1
 unfold Lib.trimPrefix
 rw[if_pos h]
 simp;omega
theorem localL_len(p nm pk:ByteArray)(wy ck sz:Nat):(localL p ⟨nm,wy,ck,sz,pk⟩).length=30+(p.size+nm.size)+pk.size:=by
 unfold localL
 rw[List.length_append,List.length_append,List.length_append,toldL_len,sL_len,sL_len,sL_len,ByteArray.size_append]
 have:mkL.size=4:=by decide
 rw[this]
theorem itemR_facts{p s:ByteArray}{it:It}{b:ByteArray}(h:itemR p s=some (it,b))(hs:s.size≤40000):it.ok∧(localL p it).length+b.size=s.size∧30≤(localL p it).length:=by
 unfold itemR at h
 have b1:numL s 26 2<65536:=numL_lt s 26 2
 have b2:numL s 18 4<4294967296:=numL_lt s 18 4
 have b3:numL s 8 2<65536:=numL_lt s 8 2
 have b4:numL s 14 4<4294967296:=numL_lt s 14 4
 have b5:numL s 22 4<4294967296:=numL_lt s 22 4
 generalize numL s 26 2=k1 at*
 generalize numL s 18 4=k2 at*
 generalize numL s 8 2=k3 at*
 generalize numL s 14 4=k4 at*
 generalize numL s 22 4=k5 at*
 split at h
 ·cases h
 rename_i h1
 split at h
 ·cases h
 rename_i h2
 split at h
 ·cases h
 rename_i h3
 split at h
 ·cases h
 injection h with h
 injection h with ha hb
 have ht:=trimP_len (s.extract 30 (30+k1)).data.toList p.data.toList (by simpa using h3)
 have hl:(s.extract 30 (30+k1)).data.toList.length=k1:=by
  rw[Array.length_toList]
  show (s.extract 30 (30+k1)).size=_
  rw[ByteArray.size_extract];omega
 rw[hl] at ht
 have hp:p.data.toList.length=p.size:=by rw[Array.length_toList];rfl
 have hn:(ByteArray.mk (Lib.trimPrefix (s.extract 30 (30+k1)).data.toList p.data.toList).toArray).size=(Lib.trimPrefix (s.extract 30 (30+k1)).data.toList p.data.toList).length:=strB_size _
 have hz:(s.extract (30+k1) (30+k1+k2)).size=k2:=by rw[ByteArray.size_extract];omega
 have hb2:b.size=s.size- (30+k1+k2):=by rw[←hb,ByteArray.size_extract];omega
 generalize ByteArray.mk (Lib.trimPrefix (s.extract 30 (30+k1)).data.toList p.data.toList).toArray=nm at*
 generalize Lib.trimPrefix (s.extract 30 (30+k1)).data.toList p.data.toList=tl at*
 generalize s.extract (30+k1) (30+k1+k2)=pk at*
 clear hb h3
 subst ha
 have hll:=localL_len p nm pk k3 k4 k5
 refine ⟨⟨?_, ?_, ?_, ?_, ?_⟩, ?_, ?_⟩
 ·show k3<_;omega
 ·show k4<_;omega
 ·show k5<_;omega
 ·show nm.size≤_;omega
 ·show pk.size≤_;omega
 ·rw[hll];omega
 rw[hll];omega
theorem localL_cent(p:ByteArray)(it:It)(a:Nat):(centralL p it a).length≤(localL p it).length+16:=by
 unfold localL centralL
 simp only[List.length_append,toldL_len,sL_len,leAll_len,List.length_cons,List.length_nil]
 have h1:mkL.size=4:=by decide
 have h2:mkC.size=4:=by decide
 omega
theorem cents_le(p:ByteArray)(its:List It): ∀n,n≤its.length→(centsN p its n).length≤(locsL p (its.take n)).length+16*n
 |0,_=>by simp[centsN]
 |n+1,h=>by
  rw[centsN_succ,locsL_succ p its n (by omega),List.length_append,List.length_append]
  have h1:=cents_le p its n (by omega)
  have h2:=localL_cent p (its.getD n itD) (locsL p (its.take n)).length
  omega
theorem laidOk_of{p:ByteArray}{its:List It}(hp:p.size≤1000)(hok: ∀i∈its,i.ok)(h0:0<its.length)(h60:its.length≤60)(hl:(locsL p its).length≤40000):LaidOk p its:=by
 have hc:=cents_le p its its.length (Nat.le_refl _)
 rw[List.take_length] at hc
 refine ⟨hp,hok,h0,by omega,by omega,by omega, ?_⟩
 have h1:=centsN_le p its 1 its.length (by omega)
 have h2:0<(centsN p its 1).length:=by
  rw[centsN_succ,List.length_append]
  have:0<(centralL p (its.getD 0 itD) (locsL p (its.take 0)).length).length:=by unfold centralL;simp only[List.length_append,toldL_len];omega
  omega
 omega
end Go.Proofs.YtfbgamknfommpaaGreatDoor
