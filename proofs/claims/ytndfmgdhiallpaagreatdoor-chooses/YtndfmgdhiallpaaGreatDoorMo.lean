import Derived.Test.YtndfmgdhiallpaaGreatDoorMn
set_option maxRecDepth 100000
set_option maxHeartbeats 2000000
namespace Go.Proofs.YtndfmgdhiallpaaGreatDoor
open Go.RowKit
theorem run_loadVar_part{P:Program}(w:World)(g off:Nat)(ty:TypeId)(cs:List Value)(d:TypeDesc)(hc: ∀j v,cs[j]? =some v→w.cell? ⟨g,off+j,none⟩=some v)
 (hu:P.underlying ty=some d)(hd:(match d with| .struct _| .array _ _=>true|_=>false)=true)(hi:(P.info? ty).map (·.size)=some cs.length):
 (loadVar ty ⟨g,off,none⟩).run P w=.ok (.agg cs.toArray) w:=by
 have hl:(loadCells ⟨g,off,none⟩ cs.length).run P w=.ok cs.toArray w:=
  run_loadCells_list (P:=P) w ⟨g,off,none⟩ cs (fun j v hv=>by rw[Addr.add_lit];exact hc j v hv)
 cases hq:P.info? ty with
 |none=>simp[hq] at hi
 |some i=>
  have hs:i.size=cs.length:=by simpa [hq] using hi
  have hagg:(isAgg ty).run P w=.ok true w:=by
   unfold isAgg
   rw[Sem.run_bind,run_underlying hu w]
   cases d<;>simp_all
  simp[loadVar,Sem.run_bind,hagg,sizeOf,typeInfo,hq,hs,hl]
theorem wpList_load_part{P:Program}{ops:Array Oper}{rest:List Oper}{o:Oper}{a:Act}{w:World}{Q:Exit→Act→World→Prop}(hgd:o.guard=none)(ty:TypeId)(x:Operand)(ho:o.op=.load ty x)
 (g off:Nat)(hx:a.eval x=.pointer (some ⟨g,off,none⟩))(cs:List Value)(d:TypeDesc)(hc: ∀j v,cs[j]? =some v→w.cell? ⟨g,off+j,none⟩=some v)
 (hu:P.underlying ty=some d)(hd:(match d with| .struct _| .array _ _=>true|_=>false)=true)(hi:(P.info? ty).map (·.size)=some cs.length)
 (h:wpList P ops Q rest (a.put o.dst (.agg cs.toArray)) w):wpList P ops Q (o::rest) a w:=
 wpList_plain hgd fun K hK=>by
  unfold Oper.wp execOp
  simp only[ho,hx,Instr.loadAt,Instr.sureAddr,Sem.run_bind,Sem.run_pure,Result.andThen_ok,run_loadVar_part w g off ty cs d hc hu hd hi]
  exact hK _ _ h
theorem info16:(Tryz.prog.info? 262).map (·.size)=some 16:=by kernel_rfl
theorem run_index16(cs:Array Value)(i:Nat)(v:Value)(hi:i<16)(hv:cs[i]? =some v)(W:World):(Instr.index 262 (.agg cs) (.int .i64 (i:Int))).run Tryz.prog W=.ok v W:=by
 have hu:Tryz.prog.underlying 262=some (.array 16 33):=Tryz.underlying262
 have hs:(sizeOf 33).run Tryz.prog W=.ok 1 W:=by kernel_rfl
 have hg:¬16≤i:=by omega
 simp[Instr.index,run_underlying hu,asIntOf,hs,_root_.Go.part,hv,hg,go_sem]
theorem run_mem{L:List Nat}{n r:Nat}(h:r<(runL L n).length):(runL L n).getD r 0<L.length∧L.getD ((runL L n).getD r 0) 0=n:=by
 have hm:(runL L n).getD r 0∈runL L n:=by rw[List.getD_eq_getElem?_getD,List.getElem?_eq_getElem h,Option.getD_some];exact List.getElem_mem _
 have:=List.mem_filter.1 (show _∈(List.range L.length).filter _ from hm)
 exact ⟨List.mem_range.1 this.1,by simpa using this.2⟩
theorem run_inj{L:List Nat}{n r r' :Nat}(h:r<(runL L n).length)(h' :r' <(runL L n).length)(e:(runL L n).getD r 0=(runL L n).getD r' 0):r=r' :=by
 have hn:(runL L n).Nodup:=List.Nodup.sublist List.filter_sublist List.nodup_range
 rw[List.getD_eq_getElem?_getD,List.getD_eq_getElem?_getD,List.getElem?_eq_getElem h,List.getElem?_eq_getElem h',Option.getD_some,Option.getD_some] at e
 have hp:=List.pairwise_iff_getElem.1 hn
 rcases Nat.lt_trichotomy r r' with hl|hl|hl
 ·exact absurd e (hp r r' h h' hl)
 ·exact hl
 exact absurd e.symm (hp r' r h' h hl)
def CodAt(w:World)(gl:Nat)(L:List Nat)(k j:Nat):Prop:=
 ∃cur:Array Value,w.heap[gl]? =some (.cells cur 260 (0,0))∧cur.size=2*L.length∧
  ∀n r,1≤n→(n<k∨(n=k∧r<j))→r<(runL L n).length→cur[2*(runL L n).getD r 0]? =some (.int .i64 (firstL L n+r:Nat))∧cur[2*(runL L n).getD r 0+1]? =some (.int .i64 (n:Nat))
theorem CodAt.kept{w w' :World}{gl:Nat}{L:List Nat}{k j:Nat}{S:Nat→Prop}(h:CodAt w gl L k j)(ho:Only S w w')(hs:¬S gl):CodAt w' gl L k j:=by
 obtain ⟨cur,hg,r⟩:=h
 exact ⟨cur,(ho.block gl (Array.getElem?_eq_some_iff.1 hg).1 hs).trans hg,r⟩
theorem CodAt.cells{w:World}{gl:Nat}{L:List Nat}{k j:Nat}(h:CodAt w gl L k j)(i:Nat)(hi:i<2*L.length):(∃v,w.cell? ⟨gl,i,none⟩=some v)∧w.frozen? ⟨gl,i,none⟩=false:=by
 obtain ⟨cur,hg,hs,_⟩:=h
 exact ⟨⟨cur[i]'(by omega),by rw[cell_of_row w gl i cur _ _ hg,Array.getElem?_eq_getElem (by omega)]⟩,frozen_of_row w gl i _ _ hg⟩
theorem CodAt.next{w:World}{gl:Nat}{L:List Nat}{k j:Nat}(h:CodAt w gl L k j)(hj:j<(runL L k).length):
 CodAt ((w.setCell ⟨gl,2*(runL L k).getD j 0,none⟩ (.int .i64 (firstL L k+j:Nat))).setCell ⟨gl,2*(runL L k).getD j 0+1,none⟩ (.int .i64 (k:Nat))) gl L k (j+1):=by
 obtain ⟨cur,hg,hs,hc⟩:=h
 have hm:=run_mem hj
 refine ⟨_,heap_setCell_same _ gl _ _ _ _ (heap_setCell_same w gl _ cur _ _ hg),by rw[Array.size_setIfInBounds,Array.size_setIfInBounds];exact hs,fun n r hn hlt hr=> ?_⟩
 have hmr:=run_mem hr
 rw[Array.getElem?_setIfInBounds,Array.getElem?_setIfInBounds,Array.getElem?_setIfInBounds,Array.getElem?_setIfInBounds,Array.size_setIfInBounds]
 by_cases e:(runL L k).getD j 0=(runL L n).getD r 0
 ·have ek:n=k:=by rw[←hmr.2,←e,hm.2]
  subst ek
  have er:j=r:=run_inj hj hr e
  subst er
  rw[if_neg (by omega),if_pos rfl,if_pos (by omega),if_pos rfl,if_pos (by omega)]
  exact ⟨rfl,rfl⟩
 rw[if_neg (by omega),if_neg (by omega),if_neg (by omega),if_neg (by omega)]
 refine hc n r hn ?_ hr
 rcases hlt with h1|⟨h1,h2⟩
 ·exact .inl h1
 subst h1
 right
 refine ⟨rfl, ?_⟩
 rcases Nat.lt_or_ge r j with h3|h3
 ·exact h3
 have:r=j:=by omega
 subst this
 exact absurd rfl e
theorem CodAt.turn{w:World}{gl:Nat}{L:List Nat}{k j:Nat}(h:CodAt w gl L k j)(hj:(runC L k).length≤j):CodAt w gl L (k+1) 0:=by
 obtain ⟨cur,hg,hs,hc⟩:=h
 refine ⟨cur,hg,hs,fun n r hn hlt hr=>hc n r hn ?_ hr⟩
 rcases hlt with h1|⟨_,h2⟩
 ·rcases Nat.lt_or_ge n k with h3|h3
  ·exact .inl h3
  have e:n=k:=by omega
  subst e
  rw[runC,if_neg (by omega)] at hj
  exact .inr ⟨rfl,by omega⟩
 omega
theorem infoC2:(Tryz.prog.info? 260).map (fun i=>(i.zero,i.size,i.bytes))=some (some (.agg #[.int .i64 0,.int .i64 0]),2,16):=by kernel_rfl
open Go.RowKit Go.Maps
theorem codesC(gs:Nat)(K:Nat→Prop)(L:List Nat)(hL:L.length≤400)(w:World)(h:SetAt w gs K L):
 Calls Tryz.prog 304 #[.pointer (some ⟨gs,0,none⟩),.int .i64 L.length] w fun r w' =>r=.returned (.slice (some ⟨w.heap.size,0,none⟩) L.length L.length)∧Old w w' ∧CodAt w' w.heap.size L 16 0:=by
 have hgl:=h.lt
 obtain ⟨cur,hg,hk,hf,hr⟩:=h
 obtain ⟨i0,hi0,hz0,hz1,hz2⟩:=info_parts infoC2
 have hmk:(Instr.makeSlice 189 (.int .i64 (L.length:Int)) (.int .i64 (L.length:Int))).run Tryz.prog w=.ok (.slice (some ⟨w.heap.size,0,none⟩) L.length L.length) (w.alloc (.cells (madeCells #[.int .i64 0,.int .i64 0] (L.length*2)) 260)):=by
  have h:=run_make (P:=Tryz.prog) w 189 260 i0 _ Tryz.underlying189 hi0 hz0 .i64 .i64 L.length L.length (by omega) (by omega) (by rw[hz2];omega) (by omega)
  rw[hz1,Int.toNat_natCast] at h
  exact h
 have hcs: ∀n v,((List.range 16).map (fun n=>(cur[16+n]?).getD undef))[n]? =some v→n≤15∧cur[16+n]? =some v:=by
  intro n v hv
  rcases Nat.lt_or_ge n 16 with h16|h16
  ·obtain ⟨ao,cap,h1,_⟩:=hr n (by omega)
   simp only[List.getElem?_map,List.getElem?_range h16,Option.map_some,h1,Option.getD_some] at hv
   exact ⟨by omega,by rw[h1];exact hv⟩
  rw[List.getElem?_eq_none (by simp;omega)] at hv;cases hv
 have hAg: ∀n,n≤15→ ∃ao cap,((List.range 16).map (fun n=>(cur[16+n]?).getD undef)).toArray[n]? =some (.slice ao (runC L n).length cap)∧ ∀j,j<(runC L n).length→ ∃b,ao=some ⟨b,0,none⟩∧b<w.heap.size∧w.cell? ⟨b,j,none⟩=some (.int .i64 ((runC L n).getD j 0:Nat)):=by
  intro n hn
  obtain ⟨ao,cap,h1,h2⟩:=hr n hn
  refine ⟨ao,cap, ?_,fun j hj=> ?_⟩
  ·rw[List.getElem?_toArray]
   simp only[List.getElem?_map,List.getElem?_range (show n<16 by omega),Option.map_some,h1,Option.getD_some]
  obtain ⟨b,hb,_,hc⟩:=h2 j hj
  exact ⟨b,hb,cell_lt hc,hc⟩
 have HAG:=hide hAg
 have hld: ∀j v,((List.range 16).map (fun n=>(cur[16+n]?).getD undef))[j]? =some v→(w.alloc (.cells (madeCells #[.int .i64 0,.int .i64 0] (L.length*2)) 260)).cell? ⟨gs,16+j,none⟩=some v:=by
  intro j v hv
  rw[((Only.refl (fun _=>False) w).alloc _).cell (p:=⟨gs,16+j,none⟩) hgl (fun x=>x),cell_of_row w gs (16+j) cur _ (0,0) hg]
  exact (hcs j v hv).2
 have HF:Hid (∀n,n≤15→w.cell? ⟨gs,n,none⟩=some (.int .i64 (firstL L n:Nat))):=fun n hn=>by rw[cell_of_row w gs n cur _ (0,0) hg];exact hf n hn
 have HC0:Hid (CodAt (w.alloc (.cells (madeCells #[.int .i64 0,.int .i64 0] (L.length*2)) 260)) w.heap.size L 0 0):=
  ⟨_,Go.heap_alloc_new w _,by simp[madeCells];omega,fun n r hn hlt hr=>by omega⟩
 have HO0:Hid (Old w (w.alloc (.cells (madeCells #[.int .i64 0,.int .i64 0] (L.length*2)) 260))):=(Only.refl _ w).alloc _
 have hln:((List.range 16).map (fun n=>(cur[16+n]?).getD undef)).length=16:=by simp
 have HLD:=hide hld
 clear hg hk hf hr hcs hAg hld
 generalize (List.range 16).map (fun n=>(cur[16+n]?).getD undef)=A at*
 have hiA:(Tryz.prog.info? 262).map (·.size)=some A.length:=by rw[hln];exact info16
 go_in
 go_wp2_with (refine wpList_load_part rfl 262 (.tmp 14) rfl gs 16 rfl A _ (uh HLD) Tryz.underlying262 rfl hiA ?_)
 clear hmk HLD hln hiA
 go_loopw [6,7,8,9,16] (fun _ _ _ _ z wr=> ∃i:Nat,i≤16∧z=.int .i64 i∧Hid (CodAt wr w.heap.size L i 0)∧Hid (Old w wr)) (fun _ _ _ _ z _=>16- (intOf z).toNat)
 ·exact ⟨0,by omega,rfl,HC0,HO0⟩
 obtain ⟨i,hi,rfl,HC,HO⟩:=hrel
 by_cases hlt:i<16
 ·have hltI:(i:Int)<16:=by omega
  obtain ⟨ao,cap,hA,hcell⟩:=uh HAG i (by omega)
  have hix:=run_index16 A.toArray i _ hlt hA
  have hrl:(runC L i).length≤400:=by unfold runC;split;simp;exact Nat.le_trans (runL_len L i) hL
  have HCELL:=hide hcell
  have HFI:=hide (uh HF i (by omega))
  have HRC:Hid (i≠0→runC L i=runL L i):=fun h=>if_neg h
  have HR0:Hid (i=0→(runC L i).length=0):=fun h=>by subst h;rfl
  clear hcell hA
  go_wp2_with fail
  clear hix
  go_loopw [8,9,22] (fun _ _ z wr=> ∃j:Nat,j≤(runC L i).length∧z=.int .i64 j∧Hid (CodAt wr w.heap.size L i j)∧Hid (Old w wr)) (fun _ _ z _=>(runC L i).length- (intOf z).toNat)
  ·exact ⟨0,by omega,rfl,HC,HO⟩
  obtain ⟨j,hj,rfl,HC,HO⟩:=hrel
  by_cases hjl:j<(runC L i).length
  ·have hjI:(j:Int)<((runC L i).length:Int):=by omega
   obtain ⟨b,hb,hbl,hcb⟩:=uh HCELL j hjl
   subst hb
   have hi0:i≠0:=fun e=>by have:=uh HR0 e;omega
   have hrc:=uh HRC hi0
   rw[hrc] at hjl hcb
   have hm:=run_mem hjl
   have hcb2:wr.cell? ⟨b,j,none⟩=some (.int .i64 ((runL L i).getD j 0:Nat)):=((uh HO).cell (p:=⟨b,j,none⟩) hbl (fun x=>x)).trans hcb
   have hcf2:wr.cell? ⟨gs,i,none⟩=some (.int .i64 (firstL L i:Nat)):=((uh HO).cell (p:=⟨gs,i,none⟩) hgl (fun x=>x)).trans (uh HFI)
   have hfl:firstL L i≤52428800:=by
    have h3:=firstL_le L i
    have hp:2^(i+1)≤2^16:=Nat.pow_le_pow_right (by omega) (by omega)
    have:2^(i+1)*L.length≤65536*400:=Nat.mul_le_mul (by omega) hL
    omega
   have HNX:=hide ((uh HC).next hjl)
   obtain ⟨⟨v1,hv1⟩,hfz1⟩:=(uh HC).cells (2*(runL L i).getD j 0) (by omega)
   obtain ⟨⟨v2,hv2⟩,hfz2⟩:=(uh HC).cells (2*(runL L i).getD j 0+1) (by omega)
   have hyl:=hm.1
   clear hm hcb
   generalize (runL L i).getD j 0=y at*
   generalize firstL L i=f at*
   have hyI:(y:Int)<(L.length:Int):=by omega
   have hy0:(0:Int)≤(y:Int):=by omega
   have hwf:IntKind.i64.wrap ((f:Int)+(j:Int))=(f:Int)+(j:Int):=by rw[IntKind.wrap_i64];omega
   have hy2:y*2=2*y:=Nat.mul_comm _ _
   have HNO:=hide (((uh HO).setCell (p:=⟨w.heap.size,2*y,none⟩) (fun hh=>absurd hh (Nat.lt_irrefl _)) (.int .i64 ((f:Int)+(j:Int)))).setCell (p:=⟨w.heap.size,2*y+1,none⟩) (fun hh=>absurd hh (Nat.lt_irrefl _)) (.int .i64 (i:Int)))
   rw[Int.natCast_add] at HNX
   go_wp2_with fail
   go_roundw
   ·exact ⟨j+1,by rw[hrc];omega,by go_num,HNX,HNO⟩
   case measure=>simp[intOf];omega
  have hjI:¬(j:Int)<((runC L i).length:Int):=by omega
  have HCT:=hide ((uh HC).turn (by omega))
  go_wp2_with fail
  go_roundw
  ·exact ⟨i+1,by omega,by go_num,HCT,HO⟩
  case measure=>simp[intOf];omega
 have hltI:¬(i:Int)<16:=by omega
 have hie:i=16:=by omega
 have HCE:Hid (CodAt wr w.heap.size L 16 0):=by have:=uh HC;rw[hie] at this;exact this
 clear HC hie
 go_wp2_with fail
 go_ret
 exact ⟨rfl,HO,HCE⟩
theorem listedC(gl off cap:Nat)(L:List Nat)(hL:L.length≤400)(h15: ∀j,L.getD j 0≤15)(w:World)(hI:Ints w gl off L):
 Calls Tryz.prog 226 #[.slice (some ⟨gl,off,none⟩) L.length cap] w fun r w' => ∃g,r=.returned (.slice (some ⟨g,0,none⟩) L.length L.length)∧Old w w' ∧CodAt w' g L 16 0∧w.heap.size≤g:=by
 have HM:=hide (makeC gl off cap L hL h15 w hI)
 go_in
 go_wp2_with fail
 refine (uh HM).mono ?_
 rintro r w1 ⟨rfl,ho1,hs1⟩
 have HC:=hide (codesC w.heap.size _ L hL w1 hs1)
 have HO1:=hide ho1
 clear HM ho1 hs1 hI
 go_wp2_with fail
 refine (uh HC).mono ?_
 rintro r w2 ⟨rfl,ho2,hc2⟩
 have HO2:Hid (Old w w2):=(uh HO1).trans ho2
 have HC2:=hide hc2
 have HSZ:=hide (uh HO1).size
 clear HC ho2 hc2
 go_wp2_with fail
 go_ret
 exact ⟨w1.heap.size,rfl,HO2,HC2,HSZ⟩
def FixAt(w:World)(gS gD:Nat):Prop:=
 gS<w.heap.size∧gD<w.heap.size∧(∀y,y<288→w.cell? ⟨gS,2*y,none⟩=some (.int .i64 (fixV y:Nat))∧w.cell? ⟨gS,2*y+1,none⟩=some (.int .i64 (fixN y:Nat)))∧
  ∀d,d<32→w.cell? ⟨gD,2*d,none⟩=some (.int .i64 (d:Nat))∧w.cell? ⟨gD,2*d+1,none⟩=some (.int .i64 (5:Nat))
theorem FixAt.kept{w w' :World}{gS gD:Nat}{S:Nat→Prop}(h:FixAt w gS gD)(ho:Only S w w')(h1:¬S gS)(h2:¬S gD):FixAt w' gS gD:=by
 obtain ⟨a,b,c,d⟩:=h
 have hs:=ho.size
 refine ⟨by omega,by omega,fun y hy=> ?_,fun y hy=> ?_⟩
 ·rw[ho.cell (p:=⟨gS,2*y,none⟩) a h1,ho.cell (p:=⟨gS,2*y+1,none⟩) a h1];exact c y hy
 rw[ho.cell (p:=⟨gD,2*y,none⟩) b h2,ho.cell (p:=⟨gD,2*y+1,none⟩) b h2];exact d y hy
theorem CodAt.lt{w:World}{gl:Nat}{L:List Nat}{k j:Nat}(h:CodAt w gl L k j):gl<w.heap.size:=by
 obtain ⟨cur,hg,_⟩:=h;exact (Array.getElem?_eq_some_iff.1 hg).1
theorem CodAt.get{w:World}{gl:Nat}{L:List Nat}(h:CodAt w gl L 16 0){n r y v:Nat}(h1:1≤n)(h15:n≤15)(hr:r<(runL L n).length)(hy:(runL L n).getD r 0=y)(hv:firstL L n+r=v):
 w.cell? ⟨gl,2*y,none⟩=some (.int .i64 (v:Nat))∧w.cell? ⟨gl,2*y+1,none⟩=some (.int .i64 (n:Nat)):=by
 obtain ⟨cur,hg,hs,hc⟩:=h
 have:=hc n r h1 (.inl (by omega)) hr
 rw[hy,hv] at this
 rw[cell_of_row w gl _ cur _ (0,0) hg,cell_of_row w gl _ cur _ (0,0) hg]
 exact this
theorem fix_of{w:World}{gS gD:Nat}(hS:CodAt w gS fixL 16 0)(hD:CodAt w gD fixD 16 0):FixAt w gS gD:=by
 refine ⟨hS.lt,hD.lt,fun y hy=> ?_,fun d hd=> ?_⟩
 ·unfold fixV fixN
  by_cases h1:y<144
  ·rw[if_pos h1,if_pos h1]
   exact hS.get (n:=8) (r:=y) (by omega) (by omega) (by rw[run8];simp;omega) (by rw[run8,List.getD_eq_getElem?_getD,List.getElem?_append_left (by simpa using h1)];simp[h1]) (by rw[first8])
  rw[if_neg h1,if_neg h1]
  by_cases h2:y<256
  ·rw[if_pos h2,if_pos h2]
   exact hS.get (n:=9) (r:=y- 144) (by omega) (by omega) (by rw[run9];simp;omega) (by rw[run9,getD_map_range _ _ _ (by omega)];omega) (by rw[first9])
  rw[if_neg h2,if_neg h2]
  by_cases h3:y<280
  ·rw[if_pos h3,if_pos h3]
   exact hS.get (n:=7) (r:=y- 256) (by omega) (by omega) (by rw[run7];simp;omega) (by rw[run7,getD_map_range _ _ _ (by omega)];omega) (by rw[first_low 7 (by omega)];omega)
  rw[if_neg h3,if_neg h3]
  exact hS.get (n:=8) (r:=144+(y- 280)) (by omega) (by omega) (by rw[run8];simp;omega) (by rw[run8,List.getD_eq_getElem?_getD,List.getElem?_append_right (by simp),←List.getD_eq_getElem?_getD,getD_map_range _ _ _ (by simp;omega)];simp;omega) (by rw[first8];omega)
 exact hD.get (n:=5) (r:=d) (by omega) (by omega) (by rw[runD5];simp;omega) (by rw[runD5,List.getD_eq_getElem?_getD];simp[hd]) (by rw[firstD_low 5 (by omega)];omega)
abbrev pkT:TypeId:=191
theorem newPackerC(w:World):
 Calls Tryz.prog 136 #[] w fun r w' => ∃g gS gD,r=.returned (.pointer (some ⟨g,0,none⟩))∧Old w w' ∧w.heap.size≤gS∧w.heap.size≤gD∧gS<g∧gD<g∧w'.heap.size=g+1∧FixAt w' gS gD∧
  w'.heap[g]? =some (.cells (#[.slice none 0 0,.int .i64 0]++ #[.slice (some ⟨gS,0,none⟩) 288 288,.slice (some ⟨gD,0,none⟩) 32 32]) pkT (0,0)):=by
 have H1:=hide (fixedSymC w)
 go_in
 go_wp2_with fail
 refine (uh H1).mono ?_
 rintro r w1 ⟨rfl,hi1,ho1⟩
 have H2:=hide (listedC w.heap.size 0 288 fixL (by rw[fixL_len];omega) fixL_15 w1 hi1)
 rw[fixL_len] at H2
 have HO1:=hide ho1
 clear H1 ho1 hi1
 go_wp2_with fail
 refine (uh H2).mono ?_
 rintro r w2 ⟨gS,rfl,ho2,hc2,hgS⟩
 have H3:=hide (fixedDistC w2)
 have HO2:Hid (Old w w2):=(uh HO1).trans ho2
 have HC2:=hide hc2
 have hs1:=(uh HO1).size
 clear H2 ho2 hc2 HO1
 go_wp2_with fail
 refine (uh H3).mono ?_
 rintro r w3 ⟨rfl,hi3,ho3⟩
 have H4:=hide (listedC w2.heap.size 0 32 fixD (by rw[fixD_len];omega) fixD_15 w3 hi3)
 rw[fixD_len] at H4
 have HO3:Hid (Old w w3):=(uh HO2).trans ho3
 have HC3:=hide ((uh HC2).kept ho3 (fun x=>x))
 clear H3 ho3 hi3 HO2 HC2
 go_wp2_with fail
 refine (uh H4).mono ?_
 rintro r w4 ⟨gD,rfl,ho4,hc4,hgD⟩
 have HO4:Hid (Old w w4):=(uh HO3).trans ho4
 have HF4:=hide (fix_of ((uh HC3).kept ho4 (fun x=>x)) hc4)
 have hs3:=(uh HO3).size
 clear H4 ho4 hc4 HO3 HC3
 go_wp2_with fail
 go_ret
 refine ⟨w4.heap.size,gS,gD,rfl,(uh HO4).alloc _,by omega,by omega,(uh HF4).1,(uh HF4).2.1,by simp only[World.size_alloc],(uh HF4).kept ((Only.refl (fun _=>False) w4).alloc _) (fun x=>x) (fun x=>x), ?_⟩
 exact Go.heap_alloc_new w4 _
abbrev pkR(gS gD:Nat):Array Value:= #[.slice (some ⟨gS,0,none⟩) 288 288,.slice (some ⟨gD,0,none⟩) 32 32]
def Pk(w:World)(g gS gD:Nat)(S:Nat→Prop)(B:List Nat):Prop:=Wr w g pkT (pkR gS gD) S B∧FixAt w gS gD
theorem Pk.c2{w:World}{g gS gD:Nat}{S:Nat→Prop}{B:List Nat}(h:Pk w g gS gD S B):w.cell? ⟨g,2,none⟩=some (.slice (some ⟨gS,0,none⟩) 288 288):=by
 obtain ⟨⟨ao,cap,hh,_,_⟩,_⟩:=h
 rw[cell_of_row w g 2 _ _ (0,0) hh];rfl
theorem Pk.c3{w:World}{g gS gD:Nat}{S:Nat→Prop}{B:List Nat}(h:Pk w g gS gD S B):w.cell? ⟨g,3,none⟩=some (.slice (some ⟨gD,0,none⟩) 32 32):=by
 obtain ⟨⟨ao,cap,hh,_,_⟩,_⟩:=h
 rw[cell_of_row w g 3 _ _ (0,0) hh];rfl
theorem pkT_ne:pkT≠5:=by decide
theorem symbolP(g gS gD:Nat)(S:Nat→Prop)(hSg:S g)(h1:¬S gS)(h2:¬S gD)(B:List Nat)(hB:Bin B)(hl:B.length+16≤1000000)(y:Nat)(hy:y<288)(w:World)(hF:Fresh S w)(h:Pk w g gS gD S B):
 Calls Tryz.prog 140 #[.pointer (some ⟨g,0,none⟩),.int .i64 y] w fun r w' =>r=.returned (.tuple #[])∧Only S w w' ∧Pk w' g gS gD S (B++symB y):=by
 have hc2:=h.c2
 obtain ⟨hcv,hcn⟩:=h.2.2.2.1 y hy
 have HFX:=hide h.2
 have hvl:fixV y≤1000:=by unfold fixV;repeat (first|split|omega)
 have HC:=hide (fun k=>codeW g pkT pkT_ne (pkR gS gD) S hSg B hB hl (fixV y) (fixN y) (by omega) (Nat.le_trans (fixN_le y) (by omega)) (w.drewN k) hF h.1)
 have HSB:Hid (codeB (fixV y) (fixN y)=symB y):=rfl
 clear h
 generalize fixV y=v at*
 generalize fixN y=n at*
 have hyI:(y:Int)<288:=by omega
 have hy0:(0:Int)≤(y:Int):=by omega
 have hy2:y*2=2*y:=Nat.mul_comm _ _
 go_in
 go_upto_region 0 with fail
 have HSW:w.drew.cell? ⟨g,2,none⟩=some (.slice (some ⟨gS,0,none⟩) 288 288)∧w.drew.cell? ⟨gS,2*y,none⟩=some (.int .i64 v)∧w.drew.cell? ⟨gS,2*y+1,none⟩=some (.int .i64 n):=⟨hc2,hcv,hcn⟩
 refine wp_region_last (S:=fun W=>W.cell? ⟨g,2,none⟩=some (.slice (some ⟨gS,0,none⟩) 288 288)∧W.cell? ⟨gS,2*y,none⟩=some (.int .i64 v)∧W.cell? ⟨gS,2*y+1,none⟩=some (.int .i64 n)) (L:=10) (by kernel_rfl) ?_
 refine tk 0 11 (.pointer (some ⟨g,0,none⟩)) 4 HSW ?_
 refine tk 1 11 (.pointer (some ⟨g,0,none⟩)) 5 HSW ?_
 refine tk 2 11 (.pointer (some ⟨g,0,none⟩)) 6 HSW ?_
 refine tk 3 11 (.pointer (some ⟨g,0,none⟩)) 7 HSW ?_
 refine tk 4 11 (.pointer (some ⟨g,0,none⟩)) 8 HSW ?_
 refine tk 5 11 (.pointer (some ⟨g,2,none⟩)) 9 HSW ?_
 refine tk 6 11 (.slice (some ⟨gS,0,none⟩) 288 288) 10 HSW ?_
 refine tk 7 11 (.int .i64 y) 11 HSW ?_
 refine tk 8 11 (.pointer (some ⟨gS,2*y,none⟩)) 12 HSW ?_
 refine tk 9 11 (.agg #[.int .i64 v,.int .i64 n]) 13 HSW ?_
 refine wpAnyL_one (i:=10) (by kernel_rfl) ?_
 refine wpOp_step rfl (fun K' hK=> ?_)
 go_simp
 refine (uh HC 1).mono ?_
 rintro r w1 ⟨rfl,ho1,hw1⟩
 refine hK _ _ ⟨fun h=>absurd rfl h, ?_⟩
 clear hK
 refine wpAnyL_done (by kernel_rfl) ?_
 have HO1:Hid (Only S w w1):=((Only.refl S w).drewN 1).trans ho1
 have HW1:=hide hw1
 clear HC ho1 hw1 HSW
 go_wp2_with fail
 go_end0
 exact ⟨rfl,HO1,by rw[←uh HSB];exact uh HW1,(uh HFX).kept (uh HO1) h1 h2⟩
theorem copyP(g gS gD:Nat)(S:Nat→Prop)(hSg:S g)(h1:¬S gS)(h2:¬S gD)(B:List Nat)(hB:Bin B)(hl:B.length+80≤1000000)(len far:Nat)(h3:3≤len)(h258:len≤258)(hf1:1≤far)(hf2:far≤20000)(w:World)(hF:Fresh S w)(h:Pk w g gS gD S B):
 Calls Tryz.prog 139 #[.pointer (some ⟨g,0,none⟩),.int .i64 len,.int .i64 far] w fun r w' =>r=.returned (.tuple #[])∧Only S w w' ∧Pk w' g gS gD S (B++tokB (.inr (len,far))):=by
 obtain ⟨hs1,hs2,hs3,hs4,hs5⟩:=symOf_ok len h3 h258
 obtain ⟨hd1,hd2,hd3⟩:=dsymOf_ok far hf1 (by omega)
 have hd13:=of_decide_eq_true (List.all_eq_true.1 dst13_all _ (List.mem_range.2 (show dsymOf far<30 by omega)))
 have H1:=hide (ofLenC len w)
 have HTB:Hid (B++symB (symOf len)++numB (len- lenBase (symOf len)) (lenBits (symOf len))++codeB (dsymOf far) 5++numB (far- dstBase (dsymOf far)) (dstBits (dsymOf far))=B++tokB (.inr (len,far))):=by
  unfold Hid;simp only[tokB,dstB,List.append_assoc]
 have HP:=hide h
 clear h
 have hsl:(symB (symOf len)).length≤9:=by rw[symB_len];exact fixN_le _
 have hsb:Bin (symB (symOf len)):=codeB_bin _ _
 have H2:=hide (fun W=>lengthC_ok (symOf len) hs1 hs2 W)
 have H5:=hide (fun W=>distC_ok (dsymOf far) hd1 W)
 have hy288:symOf len<288:=by omega
 have hy30:dsymOf far<32:=by omega
 generalize hss:symOf len=sy at*
 generalize hdd:dsymOf far=y at*
 generalize lenBase sy=lb at*
 generalize hlbb:lenBits sy=lk at*
 generalize dstBase y=db at*
 generalize dstBits y=dk at*
 have HDD:=hide hdd
 clear hss hdd hs4 hd3
 have hlb:IntKind.i64.wrap ((len:Int)- (lb:Int))=((len- lb:Nat):Int):=by rw[IntKind.wrap_i64];omega
 have hdb:IntKind.i64.wrap ((far:Int)- (db:Int))=((far- db:Nat):Int):=by rw[IntKind.wrap_i64];omega
 have hlv:len- lb≤1000000:=by omega
 have hdv:far- db≤1000000:=by omega
 have hlk:lk≤16:=by omega
 generalize len- lb=lv at*
 generalize far- db=dv at*
 have hyI:(y:Int)<32:=by omega
 have hy0:(0:Int)≤(y:Int):=by omega
 have hy2:y*2=2*y:=Nat.mul_comm _ _
 go_in
 go_wp2_with fail
 refine (uh H1).mono ?_
 rintro r w1 ⟨rfl,ho1⟩
 have HO1:=hide (Only.oldS (S:=S) ho1)
 have HF1:=hide (hF.mono ho1.size)
 have HP1:Hid (Pk w1 g gS gD S B):=by
  obtain ⟨⟨ao,cap,hh,how,hsa⟩,hfx⟩:=uh HP
  exact ⟨⟨ao,cap,(ho1.block g (two_lt hh) (fun x=>x)).trans hh,own_old how ho1,hsa⟩,hfx.kept ho1 (fun x=>x) (fun x=>x)⟩
 clear H1 ho1 HP
 go_wp2_with fail
 refine (uh H2 _).mono ?_
 rintro r w2 ⟨rfl,rfl⟩
 have H3:=hide (symbolP g gS gD S hSg h1 h2 B hB (by omega) sy hy288 w2 (uh HF1) (uh HP1))
 clear H2
 go_wp2_with fail
 refine (uh H3).mono ?_
 rintro r w3 ⟨rfl,ho3,hp3⟩
 have H4:=hide (numberW g pkT pkT_ne (pkR gS gD) S hSg _ (hB.append hsb) (by rw[List.length_append];omega) lv lk hlv hlk w3 ((uh HF1).mono ho3.size) hp3.1)
 have HFX3:=hide hp3.2
 have HO3:=hide ((uh HO1).trans ho3)
 have HF3:=hide ((uh HF1).mono ho3.size)
 clear H3 ho3 hp3 HP1 HF1
 go_wp2_with fail
 refine (uh H4).mono ?_
 rintro r w4 ⟨rfl,ho4,hw4⟩
 have HFX4:=hide ((uh HFX3).kept ho4 h1 h2)
 have HO4:=hide ((uh HO3).trans ho4)
 have HF4:=hide ((uh HF3).mono ho4.size)
 have HW4:=hide hw4
 have H6:=hide (ofDistC far w4)
 clear H4 ho4 hw4 HFX3 HF3 HO3
 rw[uh HDD] at H6
 go_wp2_with fail
 refine (uh H6).mono ?_
 rintro r w5 ⟨rfl,ho5⟩
 have HO5:=hide ((uh HO4).trans (Only.oldS ho5))
 have HF5:=hide ((uh HF4).mono ho5.size)
 have HP5:Hid (Pk w5 g gS gD S (B++symB sy++numB lv lk)):=by
  obtain ⟨ao,cap,hh,how,hsa⟩:=uh HW4
  exact ⟨⟨ao,cap,(ho5.block g (two_lt hh) (fun x=>x)).trans hh,own_old how ho5,hsa⟩,(uh HFX4).kept ho5 (fun x=>x) (fun x=>x)⟩
 clear H6 ho5 HO4 HF4 HW4 HFX4
 go_wp2_with fail
 refine (uh H5 _).mono ?_
 rintro r w6 ⟨rfl,rfl⟩
 go_upto_region 6 with fail
 have hc3:=(uh HP5).c3
 obtain ⟨hcv,hcn⟩:=(uh HP5).2.2.2.2 y hy30
 have HC:=hide (fun k=>codeW g pkT pkT_ne (pkR gS gD) S hSg (B++symB sy++numB lv lk) ((hB.append hsb).append (numB_bin _ _)) (by rw[List.length_append,List.length_append,numB_len];omega) y 5 (by omega) (by omega) (w6.drewN k) (uh HF5) (uh HP5).1)
 have HSW:w6.drew.cell? ⟨g,3,none⟩=some (.slice (some ⟨gD,0,none⟩) 32 32)∧w6.drew.cell? ⟨gD,2*y,none⟩=some (.int .i64 y)∧w6.drew.cell? ⟨gD,2*y+1,none⟩=some (.int .i64 5):=⟨hc3,hcv,hcn⟩
 refine wp_region_last (S:=fun W=>W.cell? ⟨g,3,none⟩=some (.slice (some ⟨gD,0,none⟩) 32 32)∧W.cell? ⟨gD,2*y,none⟩=some (.int .i64 y)∧W.cell? ⟨gD,2*y+1,none⟩=some (.int .i64 5)) (L:=10) (by kernel_rfl) ?_
 refine tk 0 11 (.pointer (some ⟨g,0,none⟩)) 37 HSW ?_
 refine tk 1 11 (.pointer (some ⟨g,0,none⟩)) 38 HSW ?_
 refine tk 2 11 (.pointer (some ⟨g,0,none⟩)) 39 HSW ?_
 refine tk 3 11 (.pointer (some ⟨g,0,none⟩)) 40 HSW ?_
 refine tk 4 11 (.pointer (some ⟨g,0,none⟩)) 41 HSW ?_
 refine tk 5 11 (.pointer (some ⟨g,3,none⟩)) 42 HSW ?_
 refine tk 6 11 (.slice (some ⟨gD,0,none⟩) 32 32) 43 HSW ?_
 refine tk 7 11 (.int .i64 y) 44 HSW ?_
 refine tk 8 11 (.pointer (some ⟨gD,2*y,none⟩)) 45 HSW ?_
 refine tk 9 11 (.agg #[.int .i64 y,.int .i64 5]) 46 HSW ?_
 refine wpAnyL_one (i:=10) (by kernel_rfl) ?_
 refine wpOp_step rfl (fun K' hK=> ?_)
 go_simp
 refine (uh HC 1).mono ?_
 rintro r w7 ⟨rfl,ho7,hw7⟩
 refine hK _ _ ⟨fun h=>absurd rfl h, ?_⟩
 clear hK
 refine wpAnyL_done (by kernel_rfl) ?_
 have HO7:Hid (Only S w w7):=((uh HO5).drewN 1).trans ho7
 have HF7:=hide ((uh HF5).mono (Nat.le_trans (Nat.le_refl _) ho7.size))
 have HFX7:=hide ((uh HP5).2.kept (((Only.refl S w6).drewN 1).trans ho7) h1 h2)
 have H8:=hide (numberW g pkT pkT_ne (pkR gS gD) S hSg (B++symB sy++numB lv lk++codeB y 5) (((hB.append hsb).append (numB_bin _ _)).append (codeB_bin _ _)) (by rw[List.length_append,List.length_append,List.length_append,numB_len,codeB_len];omega) dv dk hdv (by omega) w7 (uh HF7) hw7)
 clear HC ho7 hw7 HSW hc3 hcv hcn HP5 HF5 HO5
 go_wp2_with fail
 refine (uh H8).mono ?_
 rintro r w8 ⟨rfl,ho8,hw8⟩
 have HO8:=hide ((uh HO7).trans ho8)
 have HFX8:=hide ((uh HFX7).kept ho8 h1 h2)
 have HW8:=hide hw8
 clear H8 ho8 hw8 HO7 HFX7 HF7
 go_wp2_with fail
 go_end0
 exact ⟨rfl,HO8,by rw[←uh HTB];exact uh HW8,HFX8⟩
end Go.Proofs.YtndfmgdhiallpaaGreatDoor
