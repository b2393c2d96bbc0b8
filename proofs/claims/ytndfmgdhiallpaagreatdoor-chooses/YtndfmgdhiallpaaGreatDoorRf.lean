import Derived.Test.YtndfmgdhiallpaaGreatDoorRe
import Derived.Lib.AppendZeros
set_option maxRecDepth 100000
set_option maxHeartbeats 8000000
namespace Go.Proofs.YtndfmgdhiallpaaGreatDoor
open Go.RowKit Go.Maps
def TreeAt(w:World)(a:Addr)(T:List Ent):Prop:= ∀i,i<T.length→w.cell? (a.add (i*3))=some (.string (T.getD i ent0).nm)∧w.cell? ⟨(a.add (i*3)).block,(a.add (i*3)).off+1,none⟩=some (.bool (T.getD i ent0).ln)∧w.cell? ⟨(a.add (i*3)).block,(a.add (i*3)).off+2,none⟩=some (.string (T.getD i ent0).dt)
theorem cell_in{w:World}{p:Addr}{v:Value}(h:w.cell? p=some v):p.block<w.heap.size:=by
 rcases Nat.lt_or_ge p.block w.heap.size with hlt|hge
 ·exact hlt
 have:w.cell? p=none:=by simp[World.cell?,Array.getElem?_eq_none hge]
 rw[this] at h;cases h
theorem TreeAt.kept{S:Nat→Prop}{w w' :World}{a:Addr}{T:List Ent}(h:TreeAt w a T)(ho:Only S w w')(hs:¬S a.block):TreeAt w' a T:=fun i hi=>by
 obtain ⟨h1,h2,h3⟩:=h i hi
 have hb:(a.add (i*3)).block=a.block:=by unfold Addr.add;split<;>rfl
 exact ⟨(ho.cell (cell_in h1) (by rw[hb];exact hs)).trans h1,(ho.cell (p:=⟨(a.add (i*3)).block,(a.add (i*3)).off+1,none⟩) (cell_in h2) (by rw[hb];exact hs)).trans h2,(ho.cell (p:=⟨(a.add (i*3)).block,(a.add (i*3)).off+2,none⟩) (cell_in h3) (by rw[hb];exact hs)).trans h3⟩
theorem TreeAt.old{w w' :World}{a:Addr}{T:List Ent}(h:TreeAt w a T)(ho:Old w w'):TreeAt w' a T:=h.kept ho (fun x=>x)
def entHit(s:ByteArray)(i:Nat)(e:Ent):Bool:= !e.ln&&decide (e.nm=s.extract 0 i++sGoS)
def nesAt(T:List Ent)(s:ByteArray)(i:Nat):Bool:=decide (btN s i=47)&&T.any (entHit s i)
theorem nesR_yes{T:List Ent}{s:ByteArray}{i:Nat}(hi:i<s.size)(h:nesAt T s i=true):nesR T s=true:=List.any_eq_true.2 ⟨i,List.mem_range.2 hi,h⟩
theorem nesR_no{T:List Ent}{s:ByteArray}(h: ∀i,i<s.size→nesAt T s i=false):nesR T s=false:=by
 rw[nesR,List.any_eq_false]
 intro i hi
 have:=h i (List.mem_range.1 hi)
 rw[nesAt] at this
 rw[Bool.eq_false_iff] at this
 exact this
theorem nesAt_yes{T:List Ent}{s:ByteArray}{i k:Nat}(hk:k<T.length)(hb:btN s i=47)(h:entHit s i (T.getD k ent0)=true):nesAt T s i=true:=by
 rw[nesAt,decide_eq_true hb,Bool.true_and,List.any_eq_true]
 rw[List.getD_eq_getElem?_getD,List.getElem?_eq_getElem hk] at h
 exact ⟨T[k],List.getElem_mem hk,h⟩
theorem nesAt_no{T:List Ent}{s:ByteArray}{i:Nat}(h: ∀k,k<T.length→entHit s i (T.getD k ent0)=false):nesAt T s i=false:=by
 rw[nesAt,Bool.and_eq_false_iff]
 right
 rw[List.any_eq_false]
 intro e he
 obtain ⟨k,hk,rfl⟩:=List.getElem_of_mem he
 have:=h k hk
 rw[List.getD_eq_getElem?_getD,List.getElem?_eq_getElem hk] at this
 rw[Bool.eq_false_iff] at this
 exact this
theorem nestedC(a:Addr)(cap:Nat)(T:List Ent)(hT:T.length≤200)(s:ByteArray)(hs:s.size≤2000000)(w:World)(ht:TreeAt w a T):Calls Tryz.prog 290 #[.slice (some a) T.length cap,.string s] w fun r w' =>r=.returned (.bool (nesR T s))∧Old w w' :=by
 have HT:=hide ht
 have HO:=hide (Only.refl (fun _=>False) w)
 have HY:Hid (∀i,i<s.size→nesAt T s i=true→nesR T s=true):=fun i hi h=>nesR_yes hi h
 have HN:Hid ((∀i,i<s.size→nesAt T s i=false)→nesR T s=false):=nesR_no
 generalize nesR T s=ans at*
 clear ht
 go_in
 go_wp2_with fail
 go_loopw [5,6] (fun x _ wr=> ∃i:Nat,i≤s.size∧x=.int .i64 i∧Hid (∀j,j<i→nesAt T s j=false)∧Hid (Old w wr)) (fun x _ _=>s.size- (intOf x).toNat)
 ·exact ⟨0,by omega,rfl,fun j h=>by omega,HO⟩
 obtain ⟨i,hi,rfl,HA,HO⟩:=hrel
 by_cases hlt:i<s.size
 ·have hltI:(i:Int)<(s.size:Int):=by omega
  have hb:=btN_get (s:=s) (k:=i) hlt
  by_cases h47:btN s i=47
  ·have HY2:Hid (∀k,k<T.length→entHit s i (T.getD k ent0)=true→ans=true):=fun k hk h=>uh HY i hlt (nesAt_yes hk h47 h)
   have hsl: ∀W,(Instr.slice 9 (.string s) none (some (.int .i64 (i:Int))) none).run Tryz.prog W=.ok (.string (s.extract 0 i)) W:=fun W=>run_slice_string_h W 9 s Tryz.underlying9 .i64 i (by omega) (by omega)
   have HEH:Hid (∀e,entHit s i e=(!e.ln&&decide (e.nm=s.extract 0 i++sGoS))):=fun e=>rfl
   have hadd: ∀W,(Op.stringOp .add (s.extract 0 i) ⟨#[47,103,111,46,109,111,100]⟩).run Tryz.prog W=.ok (.string (s.extract 0 i++sGoS)) W:=fun W=>run_string_add_sum W _ _ (by have:=ext_le s 0 i;have e7:(⟨#[47,103,111,46,109,111,100]⟩:ByteArray).size=7:=rfl;omega)
   rw[h47] at hb
   obtain ⟨w0,hw0⟩: ∃w0,wr=w0:=⟨_,rfl⟩
   subst hw0
   clear h47
   generalize s.extract 0 i++sGoS=q at*
   generalize s.extract 0 i=z at*
   go_wp2_with fail
   go_loopw [6] (fun y wr=> ∃k:Nat,k≤T.length∧y=.int .i64 k∧Hid (∀j,j<k→entHit s i (T.getD j ent0)=false)∧Hid (Old w wr)) (fun y _=>T.length- (intOf y).toNat)
   ·exact ⟨0,by omega,rfl,fun j h=>by omega,HO⟩
   clear HO
   obtain ⟨k,hk,rfl,HB,HO⟩:=hrel
   by_cases hkl:k<T.length
   ·have hklI:(k:Int)<(T.length:Int):=by omega
    obtain ⟨h1,h2,h3⟩:=(uh HT).old (uh HO) k hkl
    have HY3:=hide (uh HY2 k hkl)
    have HB2:Hid (entHit s i (T.getD k ent0)=false→ ∀j,j<k+1→entHit s i (T.getD j ent0)=false):=fun h j hj=>by
     by_cases e:j=k
     ·rw[e];exact h
     exact uh HB j (by omega)
    have HE:=hide (uh HEH (T.getD k ent0))
    generalize entHit s i (T.getD k ent0)=eh at*
    generalize T.getD k ent0=e at*
    obtain ⟨nm,ln,dt⟩:=e
    simp only at*
    cases ln with
    |true=>
     have HB3:=hide (uh HB2 (uh HE))
     clear HB2 HE HY3
     go_wp2_with fail
     go_quiet (fail)
     go_wp2_with fail
     go_roundw
     ·exact ⟨k+1,by omega,by go_num,HB3,(uh HO).drewN _⟩
     case measure=>simp[intOf];omega
    |false=>
     have f1:=eqS nm q
     by_cases he:nm=q
     ·rw[decide_eq_true he] at f1
      have hans:ans=true:=uh HY3 (by rw[uh HE,decide_eq_true he];rfl)
      subst hans
      clear HB2 HE HY3 he
      go_wp2_with fail
      go_quiet (fail)
      go_wp2_with fail
      go_ret
      exact ⟨rfl,(uh HO).drewN _⟩
     rw[decide_eq_false he] at f1
     have HB3:=hide (uh HB2 (by rw[uh HE,decide_eq_false he];rfl))
     clear HB2 HE HY3 he
     go_wp2_with fail
     go_quiet (fail)
     go_wp2_with fail
     go_roundw
     ·exact ⟨k+1,by omega,by go_num,HB3,(uh HO).drewN _⟩
     case measure=>simp[intOf];omega
   have hklI:¬(k:Int)<(T.length:Int):=by omega
   have HA2:Hid (∀j,j<i+1→nesAt T s j=false):=fun j hj=>by
    by_cases e:j=i
    ·rw[e];exact nesAt_no (fun q hq=>uh HB q (by omega))
    exact uh HA j (by omega)
   clear HB HY2 HEH
   go_wp2_with fail
   go_roundw
   ·exact ⟨i+1,by omega,by go_num,HA2,HO⟩
   case measure=>simp[intOf];omega
  have HA2:Hid (∀j,j<i+1→nesAt T s j=false):=fun j hj=>by
   by_cases e:j=i
   ·rw[e,nesAt,decide_eq_false h47];rfl
   exact uh HA j (by omega)
  have h47I:¬((btN s i:Int)=47):=by omega
  go_wp2_with fail
  go_roundw
  ·exact ⟨i+1,by omega,by go_num,HA2,HO⟩
  case measure=>simp[intOf];omega
 have hltI:¬(i:Int)<(s.size:Int):=by omega
 have hans:ans=false:=uh HN (fun j hj=>uh HA j (by omega))
 subst hans
 go_wp2_with fail
 go_ret
 exact ⟨rfl,uh HO⟩
def whyC(ln h n v f:Bool):Nat:=if ln then 1 else if h then 4 else if n then 3 else if v then 2 else if f then 0 else 5
theorem reasonC(a:Addr)(cap:Nat)(T:List Ent)(hT:T.length≤200)(hs: ∀e∈T,e.nm.size≤2000000)(k:Nat)(hk:k<T.length)(w:World)(ht:TreeAt w a T):Calls Tryz.prog 198 #[.slice (some a) T.length cap,.int .i64 (k:Int)] w fun r w' =>r=.returned (.int .i64 (whyR T (T.getD k ent0):Int))∧Old w w' :=by
 obtain ⟨h1,h2,h3⟩:=ht k hk
 have hns:(T.getD k ent0).nm.size≤2000000:=by rw[List.getD_eq_getElem?_getD,List.getElem?_eq_getElem hk];exact hs _ (List.getElem_mem hk)
 have hkI:(k:Int)<(T.length:Int):=by omega
 have HT:=hide ht
 have HW:Hid (whyR T (T.getD k ent0)=whyC (T.getD k ent0).ln (hidR (T.getD k ent0).nm) (nesR T (T.getD k ent0).nm) (venD (T.getD k ent0).nm) (nameR (T.getD k ent0).nm)):=rfl
 have H1:=hide (fun W=>hiddenC (T.getD k ent0).nm hns W)
 have H2:=hide (fun W h=>nestedC a cap T hT (T.getD k ent0).nm hns W h)
 have H3:=hide (fun W=>vendoredC (T.getD k ent0).nm hns W)
 have H4:=hide (fun W=>fileNameC (T.getD k ent0).nm hns W)
 clear ht hs
 generalize whyR T (T.getD k ent0)=ans at*
 generalize hidR (T.getD k ent0).nm=bh at*
 generalize nesR T (T.getD k ent0).nm=bn at*
 generalize venD (T.getD k ent0).nm=bv at*
 generalize nameR (T.getD k ent0).nm=bf at*
 generalize T.getD k ent0=e at*
 obtain ⟨nm,ln,dt⟩:=e
 simp only at*
 have HA:Hid (Old w (w.alloc (.cells #[.string nm,.bool ln,.string dt] 39))):=(Only.refl _ w).alloc _
 have HEN:=hide (EnA.made w nm ln dt)
 have hbx:=Go.heap_alloc_new w (.cells #[.string nm,.bool ln,.string dt] 39)
 go_in
 go_wp2_with fail
 clear h1 h2 h3 hbx
 generalize w.alloc (.cells #[.string nm,.bool ln,.string dt] 39)=W at*
 refine (uh H1 W).mono ?_
 rintro r w1 ⟨rfl,ho⟩
 have HEN1:=hide ((uh HEN).old ho)
 have HO1:=hide ((uh HA).trans ho)
 have HT1:=hide ((uh HT).old (uh HO1))
 obtain ⟨-,c0,c1,c2⟩:=uh HEN1
 clear ho H1 HA HEN HT
 go_wp2_with fail
 refine (uh H2 w1 (uh HT1)).mono ?_
 rintro r w2 ⟨rfl,ho⟩
 have HEN2:=hide ((uh HEN1).old ho)
 have HO2:=hide ((uh HO1).trans ho)
 clear c0 c1 c2
 obtain ⟨-,c0,c1,c2⟩:=uh HEN2
 clear ho H2 HO1 HEN1 HT1
 go_wp2_with fail
 refine (uh H3 w2).mono ?_
 rintro r w3 ⟨rfl,rfl⟩
 clear H3
 go_wp2_with fail
 refine (uh H4 w3).mono ?_
 rintro r w4 ⟨rfl,ho⟩
 have HEN4:=hide ((uh HEN2).old ho)
 have HO4:=hide ((uh HO2).trans ho)
 clear c0 c1 c2
 obtain ⟨-,c0,c1,c2⟩:=uh HEN4
 clear ho H4 HO2 HEN2 HEN4
 cases ln with
 |true=>
  have ha:ans=1:=uh HW
  subst ha
  go_wp2_with fail
  go_ret
  exact ⟨rfl,uh HO4⟩
 |false=>
  cases bh with
  |true=>
   have ha:ans=4:=uh HW
   subst ha
   go_wp2_with fail
   go_ret
   exact ⟨rfl,uh HO4⟩
  |false=>
   cases bn with
   |true=>
    have ha:ans=3:=uh HW
    subst ha
    go_wp2_with fail
    go_ret
    exact ⟨rfl,uh HO4⟩
   |false=>
    cases bv with
    |true=>
     have ha:ans=2:=uh HW
     subst ha
     go_wp2_with fail
     go_ret
     exact ⟨rfl,uh HO4⟩
    |false=>
     cases bf with
     |true=>
      have ha:ans=0:=uh HW
      subst ha
      go_wp2_with fail
      go_ret
      exact ⟨rfl,uh HO4⟩
     |false=>
      have ha:ans=5:=uh HW
      subst ha
      go_wp2_with fail
      go_ret
      exact ⟨rfl,uh HO4⟩
def ShF(w:World)(x:Value)(gs:List Fl):Prop:=(x=.slice none 0 0∧gs=[])∨ ∃ad c,x=.slice (some ad) gs.length c∧ ∀j u,(flCells gs)[j]? =some u→w.cell? (ad.add j)=some u
theorem fl_one(gs:List Fl): ∀u∈flCells gs,u.oneCell' =true:=by
 intro u hu
 obtain ⟨f,_,h⟩:=List.mem_flatMap.1 hu
 simp at h
 rcases h with rfl|rfl<;>rfl
def Nx(W w:World)(v:Value)(fs:List Fl):Prop:=FilesAt w v fs∧(∀b,v.ownBlock=some b→W.heap.size≤b)∧Old W w
theorem Nx.start{W w:World}(h:Old W w):Nx W w (.slice none 0 0) []:=⟨World.ownsRow_nil _ _ _ _,fun b e=>(by cases e),h⟩
theorem Nx.alloc{W w:World}{v:Value}{fs:List Fl}(h:Nx W w v fs)(o:Obj):Nx W (w.alloc o) v fs:=⟨h.1.old ((Only.refl _ w).alloc o),h.2.1,h.2.2.alloc o⟩
theorem Nx.form{W w:World}{v:Value}{fs:List Fl}(h:Nx W w v fs): ∃ao cap,v=.slice ao fs.length cap:=by
 rcases h.1.2 with ⟨rfl,h0⟩|⟨g,cap,cur,rfl,_⟩
 ·exact ⟨none,0,by rw[h0]⟩
 exact ⟨_,_,rfl⟩
theorem run_append_nx{W w:World}{v x:Value}{fs gs:List Fl}(h:Nx W w v fs)(hx:ShF w x gs)(hn:fs.length+gs.length≤4000000)(ty:TypeId):
 ∃v' w',(Builtin.append_ #[41,41] ty #[v,x]).run Tryz.prog w=.ok v' w' ∧Nx W w' v' (fs++gs)∧Only (fun k=>v.ownBlock=some k) w w' :=by
 obtain ⟨i0,hi0,hz0,hz1,hz2⟩:=info_parts infoF2
 rcases hx with ⟨rfl,rfl⟩|⟨ad,c,rfl,hc⟩
 ·refine ⟨v,w,run_append_owned_none w 0 _ ty 50 i0 2 Tryz.underlying41 hi0 v _ _ h.1, ?_⟩
  rw[List.append_nil];exact ⟨h,Only.refl _ _⟩
 obtain ⟨v',w',hr,ho,hg,_,hb⟩:=run_append_own_at (P:=Tryz.prog) w 0 41 ty 50 i0 (.agg #[.string ⟨#[]⟩,.string ⟨#[]⟩]) 2 32 Tryz.underlying41 hi0 hz0 hz1 hz2 rfl (by omega) v _ _ h.1 ad gs.length c (flCells gs) (flCells_len gs) hc (fl_one gs) (by unfold maxLen;omega) (by omega) (by omega)
 refine ⟨v',w',hr,⟨?_,fun b hv=> ?_, ?_⟩,(Only.refl _ w).grown hg (fun k _ e=>e)⟩
 ·show w'.ownsRow 0 50 2 v' (fs++gs).length (flCells (fs++gs))
  rw[List.length_append,flCells_app];exact ho
 ·rcases hb with e|e
  ·exact h.2.1 b (e ▸ hv)
  rw[e] at hv
  have:w.heap.size=b:=Option.some.inj hv
  have:=h.2.2.size
  omega
 exact h.2.2.grown hg (fun k hk e=>by have:=h.2.1 k e;omega)
theorem wpList_append_nx{ops:Array Oper}{rest:List Oper}{o:Oper}{a:Act}{Q:Exit→Act→World→Prop}{W w:World}(hgd:o.guard=none)(s x:Operand)
 (ho:o.op=.call {callee:=.builtin .append,args:= #[s,x],argTypes:= #[41,41]})(v xv:Value)(fs gs:List Fl)(hs:a.eval s=v)(hx:a.eval x=xv)(h:Nx W w v fs)(hxs:ShF w xv gs)(hn:fs.length+gs.length≤4000000)
 (k: ∀v' w',Nx W w' v' (fs++gs)→Only (fun k=>v.ownBlock=some k) w w' →wpList Tryz.prog ops Q rest (a.put o.dst v') w'):wpList Tryz.prog ops Q (o::rest) a w:=by
 obtain ⟨v',w',hr,h2,h3⟩:=run_append_nx h hxs hn o.type
 exact Lib.wpList_append_run w hgd s x _ _ ho v xv hs hx v' w' hr (k v' w' h2 h3)
theorem FilesAt.cells{w0 w:World}{v:Value}{fs:List Fl}(h:FilesAt w0 v fs)(ho:Old w0 w)(i:Nat)(hi:i<fs.length): ∃g cap,v=.slice (some ⟨g,0,none⟩) fs.length cap∧g<w0.heap.size∧w.cell? ⟨g,i*2,none⟩=some (.string fs[i].1)∧w.cell? ⟨g,i*2+1,none⟩=some (.string fs[i].2):=by
 obtain ⟨g,cap,e,hg,hc⟩:=h.slice (by omega)
 obtain ⟨c1,c2⟩:=hc i hi
 rw[List.getD_eq_getElem?_getD,List.getElem?_eq_getElem hi] at c1 c2
 exact ⟨g,cap,e,hg,(ho.cell (p:=⟨g,i*2,none⟩) hg (fun x=>x)).trans c1,(ho.cell (p:=⟨g,i*2+1,none⟩) hg (fun x=>x)).trans c2⟩
theorem sizeF(W:World):(sizeOf (Tryz.prog.elem 41)).run Tryz.prog W=.ok 2 W:=by
 have:=infoF2
 rw[show Tryz.prog.elem 41=50 by kernel_rfl]
 obtain ⟨i0,hi0,hz0,hz1,hz2⟩:=info_parts infoF2
 simp[sizeOf,typeInfo,hi0,hz1]
theorem cutF{w:World}{ao:Option Addr}{cap:Nat}{l:List Fl}(h:FilesAt w (.slice ao l.length cap) l)(k:Nat)(hk:k≤l.length):
 ∃x1 x2,(∀W,(Instr.slice 41 (.slice ao l.length cap) none (some (.int .i64 (k:Int))) none).run Tryz.prog W=.ok x1 W)∧(∀W,(Instr.slice 41 (.slice ao l.length cap) (some (.int .i64 (k:Int))) none none).run Tryz.prog W=.ok x2 W)∧ ∀W,Old w W→ShF W x1 (l.take k)∧ShF W x2 (l.drop k):=by
 have ht:Tryz.prog.underlying 41=some (.slice (Tryz.prog.elem 41)):=by
  rw[show Tryz.prog.elem 41=50 by kernel_rfl];exact Tryz.underlying41
 have hle:l.length≤cap∨(ao=none∧l.length=0∧cap=0):=by
  rcases h.2 with ⟨e,h0⟩|⟨g,cap',cur,e,_,_,hr⟩
  ·injection e with e1 e2 e3
   exact .inr ⟨e1,h0,e3⟩
  injection e with e1 e2 e3
  subst e3
  exact .inl hr.1
 have hcap:l.length≤cap:=by rcases hle with h|h<;>omega
 refine ⟨sliced ao 0 k cap 2,sliced ao k l.length cap 2,fun W=> ?_,fun W=> ?_,fun W ho=> ?_⟩
 ·rw[run_slice_h (w:=W) (P:=Tryz.prog) 41 ao l.length cap ht .i64 (k:Int) (by omega) (by omega),sizeF];rfl
 ·rw[run_slice_l (w:=W) (P:=Tryz.prog) 41 ao l.length cap ht .i64 (k:Int) (by omega) (by omega),sizeF];rfl
 have hw:=h.old ho
 by_cases hl:l=[]
 ·subst hl
  have hk0:k=0:=by simpa using hk
  subst hk0
  rcases h.2 with ⟨e,_⟩|⟨g,cap',cur,e,_,_,_⟩
  ·injection e with e1 e2 e3
   subst e1 e3
   exact ⟨.inl ⟨rfl,rfl⟩,.inl ⟨rfl,rfl⟩⟩
  injection e with e1 e2 e3
  subst e1
  refine ⟨.inr ⟨⟨g,0,none⟩,cap, ?_,fun j u hj=>by cases hj⟩,.inr ⟨⟨g,0,none⟩,cap, ?_,fun j u hj=>by cases hj⟩⟩<;>(unfold sliced;simp[Addr.add])
 have hpos:0<l.length:=by cases l with|nil=>exact absurd rfl hl|cons a r=>simp
 obtain ⟨g,cap',e,hg, -⟩:=hw.slice hpos
 injection e with e1 e2 e3
 subst e1
 have hcl:=World.ownsRow.cells (w:=W) hw (g:=g) rfl
 have hsp:flCells l=flCells (l.take k)++flCells (l.drop k):=by rw[←flCells_app,List.take_append_drop]
 have hlt:(flCells (l.take k)).length=k*2:=by rw[flCells_len,List.length_take,Nat.min_eq_left hk]
 constructor
 ·refine .inr ⟨⟨g,0,none⟩,cap, ?_,fun j u hj=> ?_⟩
  ·unfold sliced
   rw[List.length_take,Nat.min_eq_left hk]
   by_cases hc0:cap=0
   ·simp[hc0]
   simp[hc0,Addr.add]
  refine hcl j u ?_
  rw[hsp,List.getElem?_append_left (by obtain ⟨hj,_⟩:=List.getElem?_eq_some_iff.1 hj;exact hj)];exact hj
 by_cases hck:cap=k
 ·have hdn:l.drop k=[]:=List.drop_of_length_le (by omega)
  rw[hdn]
  refine .inr ⟨⟨g,0,none⟩,cap- k, ?_,fun j u hj=>by cases hj⟩
  unfold sliced
  rw[if_pos hck]
  show Value.slice _ (l.length- k) (cap- k)=_
  rw[show l.length- k=0 by omega];rfl
 refine .inr ⟨⟨g,k*2,none⟩,cap- k, ?_,fun j u hj=> ?_⟩
 ·unfold sliced
  rw[if_neg hck,List.length_drop]
  simp only[Option.map_some]
  rw[Addr.add_lit,Nat.zero_add]
 have:=hcl (k*2+j) u (by rw[hsp,List.getElem?_append_right (by omega),hlt,Nat.add_sub_cancel_left];exact hj)
 rw[Addr.add_lit,Nat.zero_add] at this
 rw[Addr.add_lit];exact this
abbrev SrtF(l:List Fl):Prop:=l.Pairwise (fun a b=>a.1.data.toList<b.1.data.toList)
theorem ins_sorted{l:List Fl}{x:Fl}{k:Nat}(hs:SrtF l)(hk:k≤l.length)(h1: ∀j (h:j<l.length),j<k→l[j].1.data.toList<x.1.data.toList)(h2: ∀h:k<l.length,¬l[k].1.data.toList<x.1.data.toList)(hd: ∀y,y∈l→y.1≠x.1):SrtF (l.take k++[x]++l.drop k):=by
 have hgt: ∀y,y∈l.drop k→x.1.data.toList<y.1.data.toList:=by
  intro y hy
  by_cases hkl:k<l.length
  ·have hxk:x.1.data.toList<l[k].1.data.toList:=by
    rcases Classical.em (x.1.data.toList<l[k].1.data.toList) with h|h
    ·exact h
    exact absurd (less_total (h2 hkl) h) (hd _ (List.getElem_mem hkl))
   rw[List.drop_eq_getElem_cons hkl] at hy
   rcases List.mem_cons.1 hy with rfl|hy
   ·exact hxk
   have hp:SrtF (l.drop k):=hs.sublist (List.drop_sublist _ _)
   rw[List.drop_eq_getElem_cons hkl] at hp
   exact List.lt_trans hxk ((List.pairwise_cons.1 hp).1 y hy)
  rw[List.drop_of_length_le (by omega)] at hy;cases hy
 have hlt: ∀y,y∈l.take k→y.1.data.toList<x.1.data.toList:=by
  intro y hy
  obtain ⟨j,hj,rfl⟩:=List.mem_take_iff_getElem.1 hy
  exact h1 j (by omega) (by omega)
 rw[List.append_assoc]
 refine List.pairwise_append.2 ⟨hs.sublist (List.take_sublist _ _), ?_,fun y hy z hz=> ?_⟩
 ·refine List.pairwise_append.2 ⟨List.pairwise_singleton _ _,hs.sublist (List.drop_sublist _ _),fun y hy z hz=> ?_⟩
  rw[List.mem_singleton] at hy;subst hy
  exact hgt z hz
 rcases List.mem_append.1 hz with hz|hz
 ·rw[List.mem_singleton] at hz;subst hz;exact hlt y hy
 exact List.lt_trans (hlt y hy) (hgt z hz)
theorem ins_perm{l r:List Fl}{x:Fl}{k:Nat}(h:l.Perm r):(l.take k++[x]++l.drop k).Perm (r++[x]):=by
 have h1:(l.take k++[x]++l.drop k).Perm (x::l):=by
  rw[List.append_assoc]
  have h0:(l.take k++([x]++l.drop k)).Perm ([x]++(l.take k++l.drop k)):=by
   rw[←List.append_assoc,←List.append_assoc]
   exact List.perm_append_comm.append_right _
  rw[List.take_append_drop] at h0
  exact h0
 exact h1.trans ((h.cons x).trans (List.perm_append_singleton x r).symm)
theorem Nx.base{w w0 w3:World}{u v:Value}{l l3:List Fl}(h:Nx w0 w3 v l3)(k:Nx w w0 u l):Nx w w3 v l3:=
 ⟨h.1,fun b e=>Nat.le_trans k.2.2.size (h.2.1 b e),k.2.2.trans h.2.2⟩
theorem filesForm{w:World}{v:Value}{fs:List Fl}(h:FilesAt w v fs): ∃ao cap,v=.slice ao fs.length cap:=by
 rcases h.2 with ⟨rfl,h0⟩|⟨g,cap,cur,rfl,_⟩
 ·exact ⟨none,0,by rw[h0]⟩
 exact ⟨_,_,rfl⟩
theorem takeF_snoc{fs:List Fl}{i:Nat}(h:i<fs.length):fs.take (i+1)=fs.take i++[fs[i]]:=by rw[List.take_add_one,List.getElem?_eq_getElem h];rfl
theorem dif_take{fs:List Fl}{i:Nat}(hd:fs.Pairwise (fun a b=>a.1≠b.1))(h:i<fs.length){y:Fl}(hy:y∈fs.take i):y.1≠fs[i].1:=by
 obtain ⟨j,hj,rfl⟩:=List.mem_take_iff_getElem.1 hy
 exact List.pairwise_iff_getElem.1 hd j i (by omega) h (by omega)
def FlsAt(w:World)(a:Addr)(fs:List Fl):Prop:= ∀i,i<fs.length→w.cell? (a.add (i*2))=some (.string (fs.getD i default).1)∧w.cell? ⟨(a.add (i*2)).block,(a.add (i*2)).off+1,none⟩=some (.string (fs.getD i default).2)
theorem FlsAt.kept{S:Nat→Prop}{w w' :World}{a:Addr}{fs:List Fl}(h:FlsAt w a fs)(ho:Only S w w')(hs:¬S a.block):FlsAt w' a fs:=fun i hi=>by
 obtain ⟨h1,h2⟩:=h i hi
 have hb:(a.add (i*2)).block=a.block:=by unfold Addr.add;split<;>rfl
 have hl:(a.add (i*2)).block<w.heap.size:=cell_in h1
 exact ⟨(ho.cell (p:=a.add (i*2)) hl (by rw[hb];exact hs)).trans h1,(ho.cell (p:=⟨(a.add (i*2)).block,(a.add (i*2)).off+1,none⟩) hl (by rw[hb];exact hs)).trans h2⟩
theorem FlsAt.old{w w' :World}{a:Addr}{fs:List Fl}(h:FlsAt w a fs)(ho:Old w w'):FlsAt w' a fs:=h.kept ho (fun x=>x)
theorem sortedG(aov:Option Addr)(capv:Nat)(av:Addr)(fs:List Fl)(hav:0<fs.length→aov=some av)(hfs:fs.length≤3000000)(hd:fs.Pairwise (fun a b=>a.1≠b.1))(w:World)(hf:FlsAt w av fs):Calls Tryz.prog 202 #[.slice aov fs.length capv] w fun r w' => ∃v' l,r=.returned v' ∧Old w w' ∧l.Perm fs∧SrtF l∧FilesAt w' v' l∧ ∀b,v'.ownBlock=some b→w.heap.size≤b:=by
 have HF:=hide hf
 have HD:=hide hd
 have HAV:=hide hav
 clear hf hd hav
 go_in
 go_wp2_with fail
 go_loopw [3,4,5,6] (fun u x _ _ wr=> ∃(i:Nat) (l:List Fl) (ao:Option Addr) (cap:Nat),i≤fs.length∧x=.int .i64 i∧u=.slice ao l.length cap∧Hid (Nx w wr (.slice ao l.length cap) l)∧Hid (l.Perm (fs.take i)∧SrtF l)) (fun _ x _ _ _=>fs.length- (intOf x).toNat)
 ·exact ⟨0,[],none,0,by omega,rfl,rfl,Nx.start (Only.refl _ w),List.Perm.refl _,List.Pairwise.nil⟩
 obtain ⟨i,l,ao,cap,hi,rfl,rfl,HU,HP⟩:=hrel
 have hll:l.length≤3000000:=by have:=(uh HP).1.length_eq;rw[List.length_take] at this;omega
 by_cases hil:i<fs.length
 ·have hilI:(i:Int)<(fs.length:Int):=by omega
  have HX:Hid (∀k,k≤l.length→(∀j (h:j<l.length),j<k→l[j].1.data.toList<fs[i].1.data.toList)→(∀h:k<l.length,¬l[k].1.data.toList<fs[i].1.data.toList)→(l.take k++[fs[i]]++l.drop k).Perm (fs.take (i+1))∧SrtF (l.take k++[fs[i]]++l.drop k)):=fun k hk h1 h2=>by
   rw[takeF_snoc hil]
   exact ⟨ins_perm (uh HP).1,ins_sorted (uh HP).2 hk h1 h2 (fun y hy=>dif_take (uh HD) hil ((uh HP).1.mem_iff.1 hy))⟩
  have hav:=uh HAV (by omega)
  subst hav
  obtain ⟨c1,c2⟩:=(uh HF).old (uh HU).2.2 i hil
  rw[List.getD_eq_getElem?_getD,List.getElem?_eq_getElem hil] at c1 c2
  simp only[Option.getD_some] at c1 c2
  generalize fs[i]=x at*
  obtain ⟨xn,xd⟩:=x
  simp only at*
  obtain ⟨w0,hw0⟩: ∃w0,w0=wr:=⟨_,rfl⟩
  subst hw0
  have hgv0:(av.add (i*2)).block<w0.heap.size:=cell_in c1
  have HC:Hid (∀W,Old w0 W→W.cell? (av.add (i*2))=some (.string xn)∧W.cell? ⟨(av.add (i*2)).block,(av.add (i*2)).off+1,none⟩=some (.string xd)):=fun W ho=>⟨(ho.cell (p:=av.add (i*2)) hgv0 (fun x=>x)).trans c1,(ho.cell (p:=⟨(av.add (i*2)).block,(av.add (i*2)).off+1,none⟩) hgv0 (fun x=>x)).trans c2⟩
  have HR:Hid (Old w0 w0):=Only.refl _ w0
  clear HP c1 c2 hgv0
  go_wp2_with fail
  go_loopw [6] (fun y wr=> ∃k:Nat,k≤l.length∧y=.int .i64 k∧Hid (∀j (h:j<l.length),j<k→l[j].1.data.toList<xn.data.toList)∧Hid (Old w0 wr)) (fun y _=>l.length- (intOf y).toNat)
  ·exact ⟨0,by omega,rfl,fun j _ h=>by omega,HR⟩
  clear HR
  obtain ⟨k,hk,rfl,HB,HO⟩:=hrel
  by_cases hkl:k<l.length
  ·have hklI:(k:Int)<(l.length:Int):=by omega
   obtain ⟨d1, -⟩:=uh HC wr (uh HO)
   obtain ⟨gu,cu,hu, -,e1, -⟩:=(uh HU).1.cells (uh HO) k hkl
   injection hu with hu1 hu2 hu3
   subst hu1 hu3
   have f1:=lessL l[k].1 xn
   have HN:Hid (l[k].1.data.toList<xn.data.toList→ ∀j (h:j<l.length),j<k+1→l[j].1.data.toList<xn.data.toList):=fun h j hj hjk=>by
    by_cases e:j=k
    ·subst e;exact h
    exact uh HB j hj (by omega)
   by_cases hless:l[k].1.data.toList<xn.data.toList
   ·rw[decide_eq_true hless] at f1
    have HN2:=hide (uh HN hless)
    clear HN hless HB HX
    generalize l[k].1=z at*
    go_wp2_with fail
    go_quiet (fail)
    go_wp2_with fail
    go_roundw
    ·exact ⟨k+1,by omega,by go_num,HN2,(uh HO).drewN _⟩
    case measure=>simp[intOf];omega
   rw[decide_eq_false hless] at f1
   have HB2:Hid (∀h:k<l.length,¬l[k].1.data.toList<xn.data.toList):=fun _=>hless
   clear HN hless
   generalize hz:l[k].1=z at e1 f1
   clear hz
   go_wp2_with fail
   go_quiet (fail)
   clear e1 f1 d1
   have HOW:Hid (Old w0 (wr.drewN nq)):=(uh HO).drewN _
   clear HO
   generalize wr.drewN nq=W at*
   obtain ⟨x1,x2,hs1,hs2,hsh⟩:=cutF (uh HU).1 k hk
   have HSH:=hide hsh
   have HF3:=hide (uh HX k hk (uh HB) (uh HB2))
   clear hsh HX HB HB2
   go_wp2_with (at_builtin;first
    |(refine wpList_append_nx rfl (.tmp 32) (.tmp 35) rfl _ _ [] (l.take k) rfl rfl (Nx.start (uh HOW)) (uh HSH W (uh HOW)).1 (by simp;omega) ?_;intro v1 w1 hn1 hq;clear hq;obtain ⟨d1,d2⟩:=uh HC w1 hn1.2.2;have HN1:=hide hn1;clear hn1)
    |(refine wpList_append_nx rfl (.tmp 37) (.tmp 42) rfl _ _ (l.take k) [(xn,xd)] rfl rfl ((uh HN1).alloc _) (.inr ⟨⟨w1.heap.size,0,none⟩,1,rfl,new_cells w1 [.string xn,.string xd] 50⟩) (by simp;omega) ?_;intro v2 w2 hn2 hq;clear hq;have HN2:=hide hn2;clear hn2 d1 d2)
    |(refine wpList_append_nx rfl (.tmp 44) (.tmp 47) rfl _ _ (l.take k++[(xn,xd)]) (l.drop k) rfl rfl (uh HN2) (uh HSH w2 (uh HN2).2.2).2 (by simp;omega) ?_;intro v3 w3 hn3 hq;clear hq;obtain ⟨ao3,cap3,hv3⟩:=hn3.form;subst hv3;have HN3:=hide hn3;clear hn3))
   go_roundw
   ·exact ⟨i+1,l.take k++[(xn,xd)]++l.drop k,ao3,cap3,by omega,by go_num,by congr 1;simp;omega,(uh HN3).base (uh HU),uh HF3⟩
   case measure=>simp[intOf];omega
  have hklI:¬(k:Int)<(l.length:Int):=by omega
  have hklD:decide ((k:Int)<(l.length:Int))=false:=decide_eq_false hklI
  have hklE:decide (k<l.length)=false:=decide_eq_false hkl
  have HB2:Hid (∀h:k<l.length,¬l[k].1.data.toList<xn.data.toList):=fun h=>absurd h hkl
  go_wp2_with fail
  go_quiet (fail)
  clear hklD hklE
  have HOW:Hid (Old w0 (wr.drewN nq)):=(uh HO).drewN _
  clear HO
  generalize wr.drewN nq=W at*
  obtain ⟨x1,x2,hs1,hs2,hsh⟩:=cutF (uh HU).1 k hk
  have HSH:=hide hsh
  have HF3:=hide (uh HX k hk (uh HB) (uh HB2))
  clear hsh HX HB HB2
  go_wp2_with (at_builtin;first
   |(refine wpList_append_nx rfl (.tmp 32) (.tmp 35) rfl _ _ [] (l.take k) rfl rfl (Nx.start (uh HOW)) (uh HSH W (uh HOW)).1 (by simp;omega) ?_;intro v1 w1 hn1 hq;clear hq;obtain ⟨d1,d2⟩:=uh HC w1 hn1.2.2;have HN1:=hide hn1;clear hn1)
   |(refine wpList_append_nx rfl (.tmp 37) (.tmp 42) rfl _ _ (l.take k) [(xn,xd)] rfl rfl ((uh HN1).alloc _) (.inr ⟨⟨w1.heap.size,0,none⟩,1,rfl,new_cells w1 [.string xn,.string xd] 50⟩) (by simp;omega) ?_;intro v2 w2 hn2 hq;clear hq;have HN2:=hide hn2;clear hn2 d1 d2)
   |(refine wpList_append_nx rfl (.tmp 44) (.tmp 47) rfl _ _ (l.take k++[(xn,xd)]) (l.drop k) rfl rfl (uh HN2) (uh HSH w2 (uh HN2).2.2).2 (by simp;omega) ?_;intro v3 w3 hn3 hq;clear hq;obtain ⟨ao3,cap3,hv3⟩:=hn3.form;subst hv3;have HN3:=hide hn3;clear hn3))
  go_roundw
  ·exact ⟨i+1,l.take k++[(xn,xd)]++l.drop k,ao3,cap3,by omega,by go_num,by congr 1;simp;omega,(uh HN3).base (uh HU),uh HF3⟩
  case measure=>simp[intOf];omega
 have hilI:¬(i:Int)<(fs.length:Int):=by omega
 have hie:i=fs.length:=by omega
 have HP2:Hid (l.Perm fs):=by have:=(uh HP).1;rw[hie,List.take_length] at this;exact this
 clear hie
 go_wp2_with fail
 go_ret
 exact ⟨_,rfl,(uh HU).2.2,l,uh HP2,(uh HP).2,(uh HU).1,(uh HU).2.1⟩
theorem FilesAt.fls{w:World}{v:Value}{fs:List Fl}(h:FilesAt w v fs): ∃ao cap av,v=.slice ao fs.length cap∧(0<fs.length→ao=some av)∧FlsAt w av fs:=by
 by_cases h0:0<fs.length
 ·obtain ⟨g,cap,e,hg,hc⟩:=h.slice h0
  refine ⟨_,cap,⟨g,0,none⟩,e,fun _=>rfl,fun i hi=> ?_⟩
  have:=hc i hi
  rw[Addr.add_lit,Nat.zero_add]
  exact this
 obtain ⟨ao,cap,e⟩:=filesForm h
 exact ⟨ao,cap,⟨0,0,none⟩,e,by omega,fun i hi=>by omega⟩
theorem sortedC(v:Value)(fs:List Fl)(hfs:fs.length≤100)(hd:fs.Pairwise (fun a b=>a.1≠b.1))(w:World)(hf:FilesAt w v fs):Calls Tryz.prog 202 #[v] w fun r w' => ∃v' l,r=.returned v' ∧Old w w' ∧l.Perm fs∧SrtF l∧FilesAt w' v' l∧ ∀b,v'.ownBlock=some b→w.heap.size≤b:=by
 obtain ⟨ao,cap,av,rfl,h1,h2⟩:=hf.fls
 exact sortedG ao cap av fs h1 (by omega) hd w h2
end Go.Proofs.YtndfmgdhiallpaaGreatDoor
