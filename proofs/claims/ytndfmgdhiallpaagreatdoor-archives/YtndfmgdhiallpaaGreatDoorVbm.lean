import Derived.Test.YtndfmgdhiallpaaGreatDoorIt
import Derived.Test.YtndfmgdhiallpaaGreatDoorVbl
import Derived.Sort.KeysCollected
set_option linter.all false
set_option maxRecDepth 100000
set_option maxHeartbeats 8000000
open _root_ renaming Option.some->J,Option.none->O,Int->Z,Nat->N,Go.Value.int->I,Go.Value.string->G,Go.IntKind.i64->Q,ByteArray->Y,List->E,Go.World->U,Go.Value.slice->K,Go.Value->β,Go.Obj.cells->γ,Go.Value.pointer->δ,Go.Ending.returned->ε,Go.Calls->μ,UInt8->υ,Go.Proofs.Tryz.prog->ψ
namespace Go.Proofs.YtndfmgdhiallpaaGreatDoor
open Go.RowKit Go.Proofs.Tryz
abbrev bT:TypeId:=142
def lQ:(prog.info? bT).map (·.size)=J 2:=Ab
def pS:liesAt ψ prog.depth bT (2/prog.cellsOf bT) 0 bT 1=true:=Ab
def pT:(prog.info? 5).map (λi=>(i.zero,i.size,i.bytes))=J (J (I .u8 0),1,1):=Ab
def ccRen:Go.Shelf.Ren:=⟨fun|240=>179|276=>278|n=>n, fun|0=>0|4=>4|9=>9|20=>20|37=>62|70=>140|72=>142|164=>294|n=>n, fun|n=>n⟩
def ccLays:Lays.n240 ψ ccRen:={
 mixed:=Ab
 f240:=func179.trans (congrArg some Ab)
 f276:=func278.trans (congrArg some Ab)
 t0:=underlying0
 a0:=isAgg0
 z0:=sizeOf0
 v0:=zeroValue0
 t4:=underlying4
 a4:=isAgg4
 z4:=sizeOf4
 v4:=zeroValue4
 t9:=underlying9
 a9:=isAgg9
 z9:=sizeOf9
 v9:=zeroValue9
 t20:=underlying20
 a20:=isAgg20
 z20:=sizeOf20
 v20:=zeroValue20
 t70:=underlying140
 a70:=isAgg140
 z70:=sizeOf140
 v70:=zeroValue140
 t72:=underlying142
 a72:=isAgg142
 z72:=sizeOf142
 v72:=zeroValue142
 t164:=underlying294
 a164:=isAgg294
 z164:=sizeOf294
 v164:=zeroValue294 }
def cg(b:N)(w:U)(h0:w.cell? ⟨b,0,O⟩=J (δ (J ⟨b,0,O⟩))):
 μ ψ 179 #[δ (J ⟨b,0,O⟩)] w λe w' =>e=ε (.tuple #[])/\w' =w:=Any.Builder_copyCheck_used ccLays ⟨lQ,pS⟩ b w h0
def YB(b:N)(w:U)(h0:w.cell? ⟨b,0,O⟩=J (δ O))(a:w.shape? b=J (bT,2))(f:w.frozen? ⟨b,0,O⟩=false):
 μ ψ 179 #[δ (J ⟨b,0,O⟩)] w λe w' =>e=ε (.tuple #[])/\w' =w.setCell ⟨b,0,O⟩ (δ (J ⟨b,0,O⟩)):=Any.Builder_copyCheck_fresh ccLays ⟨lQ,pS⟩ b w h0 a f
def og(B b:N)(bs:E β)(w:U)(h:Lib.IsBuilderF bT 5 B b bs w):
 μ ψ 179 #[δ (J ⟨b,0,O⟩)] w λe w' =>e=ε (.tuple #[])/\Lib.BuilderAtF bT 5 B b (δ (J ⟨b,0,O⟩)) bs w' /\Below B w w' /\Lib.OthersKept 5 (J b) w w' :=by
 rcases h with h|h
 .refine (YB b w h.cell0 h.shape h.frozen0).mono ?_;rintro e w' ⟨rfl,rfl⟩;exact⟨rfl,h.used _,(Below.refl B w).setCell (p:=⟨b,0,O⟩) h.1 _,(Lib.OthersKept.refl _ _ w).setCell ⟨b,0,O⟩ rfl _⟩
 refine(cg b w h.cell0).mono ?_;rintro e w' ⟨rfl,rfl⟩;exact⟨rfl,h,Below.refl B _,Lib.OthersKept.refl _ _ _⟩
def ci(B b:N)(bs:E β)(s:Y)(w:U)(h:Lib.IsBuilderF bT 5 B b bs w)(y:bs.length+s.size<=140737488355328)(M:B<=w.heap.size):
 μ ψ 96 #[δ (J ⟨b,0,O⟩),G s] w λe w' =>(∃x,e=ε x)/\Lib.IsBuilderF bT 5 B b (bs++Lib.strCells s) w' /\Below B w w' /\Lib.OthersKept 5 (J b) w w' :=by
 obtain⟨V,P,q,r,t⟩:=rN pT;have A:=Af (og B b bs w h);clear h;go_in;go_wp2_with fail;refine A.mono ?_;rintro e w1 ⟨rfl,L,i,l⟩;obtain⟨u,v,f,d,n⟩:=L;have W:w1.cell? ⟨b,0,O⟩=J (δ (J ⟨b,0,O⟩)):=by rw[yz f];rfl
 have c1:w1.cell? ⟨b,1,O⟩=J v:=by rw[yz f];rfl
 have m:b<w1.heap.size:=(qW.1 f).1;have S:=i.size;go_wp2_with (at_builtin;refine Lib.wpList_append_own_stringF _ rfl _ _ 62 9 rfl B 5 V underlying62 underlying9 P q r t _ _ _ rfl d s rfl (by unfold maxLen;omega) Aa Aa ?_);intro v' w2 c a _;have j:w2.heap[b]? =J (γ #[δ (J ⟨b,0,O⟩),v] bT (0,0)):=(a.block b m (λe=>n e.symm)).trans f;have X:w2.cell? ⟨b,1,O⟩=J v:=by rw[yz j];rfl
 have f1:w2.frozen? ⟨b,1,O⟩=false:=Lib.frozen_of_heap j 1;have F:=Af (Lib.BuilderAtF.put (T:=bT) (e:=5) u j (bs' :=bs++Lib.strCells s) (v' :=v') (by simpa [Lib.strCells_length] using c) Ac);have D:=Af ((l.grown a (Lib.ownsRowF_kind d)).setCell ⟨b,1,O⟩ rfl v');have C:=Af ((i.grown a Aa (λk R=>(d.lt k R).1)).setCell (p:=⟨b,1,O⟩) u v');obtain⟨ao,z,cap,rfl⟩: ∃ao z cap,v' =K ao z cap:=by
  rcases c.2 with⟨o,_⟩|⟨g,cap,H,fz,o,_⟩
  .exact ⟨_,_,_,o⟩
  exact⟨_,_,_,o⟩
 clear c a d l i f;go_wp2;go_ret2;exact⟨⟨_,rfl⟩,.inr F,C,D⟩
open Go.RowKit Go.Maps Go.Proofs.Tryz
def FP(w:U)(gm:N)(l:E Y):Prop:=
 ∃D:DataW Unit,w.ownsMap ψ 9 (plainElem ψ 3) gm l.length D/\(∀r:Y,has D (.string r.data.toList)=true↔r∈l)/\∀i,i<l.length-> ∀z,D.atKey (.string (l.getD i ⟨#[]⟩).data.toList) z=.lit (.int Q (i:Z))
def FP.lt{w:U}{gm:N}{l:E Y}(h:FP w gm l):gm<w.heap.size:=by obtain⟨D,h,_⟩:=h;exact h.lt
def FP.kept{w w' :U}{gm:N}{l:E Y}{S:N->Prop}(h:FP w gm l)(ho:Ag S w w')(hs:¬S gm):FP w' gm l:=wu
def FP.old{w w' :U}{gm:N}{l:E Y}(h:FP w gm l)(a:Al w w'):FP w' gm l:=h.kept a (λx=>x)
def FP.made(w:U):FP (w.alloc (.map #[] 0)) w.heap.size []:=
 ⟨_,vX w ψ 9 _,λ_=>⟨λh=>by simp[has] at h,λh=>by simp at h⟩,λi a=>by simp at a⟩
abbrev iK:TypeId:=138
def ie(w:U):(zeroValue 3).run ψ w=.ok (I Q 0) w:=Ab
def oh(i:N)(h:i<9223372036854775808):(Lit.int Q (i:Z)).wf=true:=by
 show(decide (IntKind.i64.min<=(i:Z))&&decide ((i:Z)<=IntKind.i64.max))=true;rw[rX,sN,sN];have a:IntKind.i64.min= -9223372036854775808:=rfl;have b:IntKind.i64.max=9223372036854775807:=rfl;omega
def FP.look{w:U}{gm:N}{l:E Y}(h:FP w gm l)(r:Y)(j:r.size<=maxLen)(i:r∉l):(Instr.lookup iK (.map (J gm)) (G r) true).run ψ w=.ok (.tuple #[I Q 0,.bool false]) w:=by
 obtain⟨D,f,g,_⟩:=h;obtain⟨v,k,b,d⟩:=f.look_ok Dl underlying138 (ie w) (vJ underlying3 (oh 0 Aa)) (Qh r j);have c:has D (.string r.data.toList)=false:=by rw[uT];exact λe=>i ((g r).1 e)
 rw[atKey_of_not_has c] at d;obtain⟨a,rfl,e,_⟩:=xj underlying3 d;simp only[uu,vU,xY] at e;rw[b,c,<-e.1.2]
def FP.at{w:U}{gm:N}{l:E Y}(h:FP w gm l)(i:N)(f:i<l.length)(g:(l.getD i ⟨#[]⟩).size<=maxLen):(Instr.lookup iK (.map (J gm)) (G (l.getD i ⟨#[]⟩)) false).run ψ w=.ok (I Q (i:Z)) w:=by
 obtain⟨D,d,j,e⟩:=h;obtain⟨c,b,a,_⟩:=d.lookup_int Dl underlying138 underlying3 (ie w) (Qh _ g);rw[e i f] at a;simp only[vU,xY] at a;rw[b,a.2]
def FP.put{w:U}{gm:N}{l:E Y}(h:FP w gm l)(r:Y)(t:r.size<=maxLen)(p:r∉l)(u:l.length<4000000): ∃w',(Instr.mapUpdate iK (.map (J gm)) (G r) (I Q (l.length:Z))).run ψ w=.ok () w' /\FP w' gm (l++[r])/\Ag (λk=>k=gm) w w' :=by
 obtain⟨D,f,m,n⟩:=h;obtain⟨w2,b,a,g⟩:=f.update Dl underlying138 (by unfold maxLen;omega) (Qh r t) (vJ underlying3 (oh l.length Aa));refine⟨w2,b,⟨_,by rw[qU];exact a,λq=> ?_,λi o z=> ?_⟩,(Ag.refl _ w).grown g (λk _ e=>(rD e).symm)⟩
 .by_cases e:q=r
  .subst e;rw[yt f.isMap (Xg _)];exact⟨λ_=>Ad,λ_=>rfl⟩
  have j:=Mz (show q≠r from e);rw[xX j,m q,rR,rC];exact⟨.inl,λh=>h.elim id (λx=>absurd x e)⟩
 by_cases e:i<l.length
 .have c:(l++[r]).getD i ⟨#[]⟩=l.getD i ⟨#[]⟩:=by
   rw[qT,qT,rM e]
  have s:l.getD i ⟨#[]⟩≠r:=λd=>p (by rw[<-d,qT,qY e];exact ro e)
  rw[c,yB (Mz s)];exact n i e z
 have d:i=l.length:=by simp at o;omega
 subst d;have c:(l++[r]).getD l.length ⟨#[]⟩=r:=by
  rw[qT,rE (rj _)];simp
 rw[c,yF f.isMap (Xg _)]
def cj{w w' :U}(h:Below w.heap.size w w'):Al w w' :=⟨h.os,h.tape,h.output,h.size,λk a _=>h.block k a⟩
def Lq{B:N}{w w' :U}(h:Below B w w'):Ag (λk=>B<=k) w w' :=⟨h.os,h.tape,h.output,h.size,λk _ a=>h.block k Aa⟩
def RI{w w' :U}(h:Al w w'):w.grownBy w' none:=⟨h.os,h.tape,h.output,h.size,λk a _=>h.block k a (λx=>x)⟩
def Vu{a b:Y}(h:a.data.toList=b.data.toList):a=b:=sX (uG.1 h)
open Go.Sort Go.Shelf in
def om(m:N):AnyZ.SortsIn ψ sorted94_ren Fence.wide m:=
 ⟨λb d cap f W e a c=>yA.2 (AnyM.slices_Sort_string sort177 b d cap f W e a c),
  λp cap W=>yA.2 (AnyM.slices_Sort_string_none sort177 p cap W)⟩
open Go.Sort Go.Shelf in
def kP(b m:N)(d:DataW Unit)(R:β->Option (DataW Unit×E MemPlace))(w:U)(c:w.ownsMap ψ 9 R b m d)(h:Maps.size d<=maxLen)(a:Maps.size d*16<=140737488355328):
 μ ψ 94 #[.func (.func 178) #[] #[δ (J ⟨w.heap.size,0,O⟩)]] (w.alloc (γ #[.map (J b)] iK)) λe w' => ∃(v:β) (g:E (E υ)),e=ε v/\g.Perm (strKeys d)/\
  w'.ownsRow (w.alloc (γ #[.map (J b)] iK)).heap.size 9 1 v g.length ((g.mergeSort Go.leB).map encStr)/\Below (w.alloc (γ #[.map (J b)] iK)).heap.size (w.alloc (γ #[.map (J b)] iK)) w' :=by
 have l:=c.lt;have j:SeqGives Fence.wide 2 ψ 178 #[δ (J ⟨w.heap.size,0,O⟩)] encStr (λg=>g.Perm (strKeys d)) (Maps.size d) (w.alloc (γ #[.map (J b)] iK)):=
  AnyZ.keys_gives (ρ:=keys95_ren) {keys95 with} Fence.wide _ trivial rfl Aa w.heap.size b m d _ Ad Ad (by
   obtain⟨o,f,k,n,r,p⟩:=c;exact⟨o,f,(Below.heap_alloc _ _ b l).trans k,n,r,p⟩)
 refine(yA.1 (AnyZ.sorted_in sorted94 Fence.wide 5 trivial trivial trivial trivial rfl Aa (om _) (enters_of func177 Ab rfl) 178 #[δ (J ⟨w.heap.size,0,O⟩)] trivial (enters_of func178 Ab rfl) _ _ h a _ j)).mono ?_;rintro e w' ⟨v,g,rfl,q,i,_,k⟩;exact⟨v,g,rfl,q,i,k⟩
def FP.keysG{w:U}{gm:N}{q l:E Y}(h:FP w gm q)(m:l.Perm q)(y:l.Pairwise (λa b=>a.data.toList<b.data.toList))(V:l.length<4000000):
 μ ψ 95 #[.map (J gm)] w λe w1=> ∃b,e=ε b/\Al w w1/\
  μ ψ 94 #[b] w1 λe w' => ∃v,e=ε v/\Al w1 w' /\w'.ownsRow w1.heap.size 9 1 v l.length (l.map λs=> G s):=by
 obtain⟨D,j,H,_⟩:=h;refine(yA.1 (AnyZ.keys_in keys95 Fence.wide 5 trivial rfl (J gm) w)).mono ?_;rintro e w1 ⟨rfl,rfl⟩;refine⟨_,rfl,(Ag.refl _ w).alloc _, ?_⟩;obtain⟨r,k,o⟩:=j.tidy Dl;obtain⟨F,f,M⟩:=j.keysOf;subst k;cases f;have n:(l.map λs:Y=>s.data.toList).Nodup:=by
  refine xk.2 (y.imp λ{a b} d e=> ?_);rw[e] at d;exact ti _ d
 have hp:(l.map λs:Y=>s.data.toList).Perm (strKeys (DataW.map r)):=by
  refine perm_strKeys o (λp hp=> ?_) n (λx=> ?_)
  .obtain ⟨T,g⟩:=M p hp;obtain⟨x,_,S,_⟩:=keyOf_str underlying9 g;exact⟨x,S⟩
  have t:=H ⟨x.toArray⟩;have e:(⟨x.toArray⟩:Y).data.toList=x:=Ad;rw[e] at t;rw[t,<-m.mem_iff,rT];constructor
  .rintro ⟨s,R,rfl⟩;exact(show(⟨s.data.toList.toArray⟩:Y)=s from Vu Ad) ▸ R
  intro P;exact⟨_,P,Ad⟩
 have i:Maps.size (DataW.map r)=l.length:=by
  have:=hp.length_eq;simpa [strKeys,Maps.size] using this.symm
 refine(kP gm q.length _ _ w j (by rw[i];unfold maxLen;omega) (by rw[i];omega)).mono ?_;rintro e w' ⟨v,z,rfl,u,c,L⟩;have A:z.mergeSort Go.leB=l.map λs:Y=>s.data.toList:=by
  rw[mergeSort_of_perm (u.trans hp.symm)];refine List.mergeSort_of_pairwise (xk.2 (y.imp λ{a b} d=> ?_));simp only[Go.leB,sN];exact List.le_of_lt d
 have B:z.length=l.length:=by rw[(u.trans hp.symm).length_eq,sJ]
 refine⟨v,rfl,cj L, ?_⟩;rw[A,B,List.map_map] at c;have C:l.map (encStr ∘λs:Y=>s.data.toList)=l.map λs=> G s:=xL λs _=>by simp[encStr]
 rw[C] at c;exact c
def FP.met{w:U}{gm:N}{l:E Y}(h:FP w gm l)(r:Y)(i:r.size<=maxLen)(g:r∈l): ∃a:Z,(Instr.lookup iK (.map (J gm)) (G r) true).run ψ w=.ok (.tuple #[I Q a,.bool true]) w:=by
 obtain⟨D,c,d,_⟩:=h;obtain⟨v,k,b,j⟩:=c.look_ok Dl underlying138 (ie w) (vJ underlying3 (oh 0 Aa)) (Qh r i);have f:has D (.string r.data.toList)=true:=(d r).2 g;obtain⟨a,rfl,e,_⟩:=xj underlying3 j;exact⟨a,by rw[b,f]⟩
def JE(p:Y)(f:Fl):Y:=CB f.2++⟨#[32,32]⟩++p++f.1++⟨#[10]⟩
def Bn(p:Y)(fs:E Fl):E υ:=fs.flatMap λf=>(JE p f).data.toList
def Ja(b:N->N):E υ:=FO b 10++FB (b 30*65536|||b 31*256) 3++[61]
def cm(p:Y)(fs:E Fl):Y:=⟨#[104,49,58]⟩++An (Ja (Oo (CN (An (Bn p fs)))))
def IG(s:Y):(CB s).size=64:=by
 rw[Nu];show(Jl _ 64).toArray.size=64;rw[sq,TW]
def PS(p:Y)(f:Fl):(JE p f).size=67+p.size+f.1.size:=by
 unfold JE;rw[rg,rg,rg,rg,IG];show 64+2+p.size+f.1.size+1=_;omega
def NF(p:Y)(fs:E Fl)(i:N)(h:i<fs.length):Bn p (fs.take (i+1))=Bn p (fs.take i)++(JE p (fs.getD i default)).data.toList:=by
 rw[Bn,Bn,tu,qY h,qT,qY h,uq];simp
def Ih(fs:E Fl):E Y:=fs.map Prod.fst
def PT(fs:E Fl)(i:N)(h:i<fs.length):(Ih fs).getD i ⟨#[]⟩=(fs.getD i default).1:=by
 rw[Ih,qT,qT,tt,qY h];rfl
def cn(fs:E Fl)(i:N)(h:i<fs.length):Ih (fs.take (i+1))=Ih (fs.take i)++[(fs.getD i default).1]:=by
 rw[Ih,Ih,tu,qY h,qT,qY h,sv];rfl
def Gd(w:U)(base:N)(v:β)(l:E Y):Prop:=w.ownsRow base 9 1 v l.length (l.map λs=> G s)
def Gd.old{w w' :U}{base:N}{v:β}{l:E Y}(h:Gd w base v l)(a:Al w w'):Gd w' base v l:=World.ownsRow.kept h (RI a) (by cases v.ownBlock<;>simp)
def Gd.others{w w' :U}{base b:N}{v:β}{l:E Y}(h:Gd w base v l)(o:b<base)(m:Lib.OthersKept 5 (J b) w w'):Gd w' base v l:=by
 obtain⟨d,f|⟨g,cap,a,rfl,i,j,k⟩⟩:=h
 .exact ⟨d,.inl f⟩
 refine⟨d,.inr ⟨g,cap,a,rfl,i,m g _ j (by simp;omega) ?_,k⟩⟩;intro c n e;injection e with _ e2;exact absurd e2 Ac
def Gd.shape{w:U}{base:N}{v:β}{l:E Y}(h:Gd w base v l): ∃ao cap g,v=K ao l.length cap/\(0<l.length->ao=J ⟨g,0,O⟩):=by
 obtain⟨c,⟨rfl,b⟩|⟨g,cap,a,rfl,d,e,f⟩⟩:=h
 .exact ⟨O,0,0,by rw[b],Aa⟩
 exact⟨_,cap,g,rfl,λ_=>rfl⟩
def Gd.cell{w:U}{base g cap:N}{l:E Y}(h:Gd w base (K (J ⟨g,0,O⟩) l.length cap) l)(i:N)(a:i<l.length):w.cell? ⟨g,i,O⟩=J (G (l.getD i ⟨#[]⟩)):=by
 have:=ur h (g:=g) rfl i (G (l.getD i ⟨#[]⟩)) (by rw[tt,qT,qY a];rfl);exact aag
def Ki{w w' :U}{T e:TypeId}{B b:N}{bs:E β}(h:Lib.IsBuilderF T e B b bs w)(f:Al w w'):Lib.IsBuilderF T e B b bs w' :=by
 have c: ∀p,Lib.BuilderAtF T e B b p bs w->Lib.BuilderAtF T e B b p bs w' :=by
  rintro p ⟨g,v,i,a,d⟩;exact⟨g,v,AQ f i,a.kept (RI f) (by cases v.ownBlock<;>simp),d⟩
 exact h.elim (λx=> .inl (c _ x)) (λx=> .inr (c _ x))
def Vv(w:U):Lib.IsBuilderF 142 5 w.heap.size w.heap.size [] (w.alloc (γ #[δ O,K O 0 0] 142)):=
 .inl ⟨rj _,K O 0 0,rh w _,⟨rfl,.inl ⟨rfl,rfl⟩⟩,by intro h;cases h⟩
def Au.any{w:U}{v:β}{fs:E Fl}(h:Au w v fs)(hp:0<w.heap.size): ∃ao cap g,v=K ao fs.length cap/\g<w.heap.size/\(0<fs.length->ao=J ⟨g,0,O⟩)/\∀j,j<fs.length->w.cell? ⟨g,j*2,O⟩=J (G (fs.getD j default).1)/\w.cell? ⟨g,j*2+1,O⟩=J (G (fs.getD j default).2):=by
 by_cases h0:0<fs.length
 .obtain ⟨g,cap,rfl,b,c⟩:=h.slice h0;exact⟨_,cap,g,rfl,b,λ_=>rfl,c⟩
 have e:fs.length=0:=Aa;obtain⟨_,⟨rfl,_⟩|⟨g,cap,a,rfl,_⟩⟩:=h
 .exact ⟨O,0,0,by rw[e],hp,Aa,Aa⟩
 exact⟨_,cap,0,rfl,hp,Aa,Aa⟩
def YC{a b i:N}(h:b<2^i):a*2^i|||b=a*2^i+b:=by
 rw[tP a,<-xV h]
def ig(b:N->N)(a: ∀i,b i<256)(p:N):Qv b p=b p*65536+b (p+1)*256+b (p+2):=by
 have h0:=a p;have c:=a (p+1);have d:=a (p+2);unfold Qv;rw[show b p*65536|||b (p+1)*256=b p*65536+b (p+1)*256 from YC (i:=16) Aa,show b p*65536+b (p+1)*256=(b p*256+b (p+1))*256 by omega];rw[show(b p*256+b (p+1))*256|||b (p+2)=(b p*256+b (p+1))*256+b (p+2) from YC (i:=8) Aa]
def ii(x y:N)(a:y<256):x*65536|||y*256=x*65536+y*256:=YC (i:=16) Aa
def oq(d:N)(a:d<64):Ds.extract d (d+1)=An [b8 (As Ds d)]:=by
 have: ∀d:Fin 64,(Ds.extract d.val (d.val+1)).data= #[b8 (As Ds d.val)]:=Ac;exact sX (this ⟨d,a⟩)
def Ib(l:E υ)(v p:N):An l++Ds.extract (NE v p) (NE v p+1)=An (l++[b8 (IF v p)]):=by
 rw[oq _ (Jy v p),AD];rfl
def Jb(n p:N)(hp:p<3):NE (64*n) p=n/2^(12- 6*p)%64:=by
 unfold NE
 match p,hp with
 |0,_=>simp;omega
 |1,_=>simp;omega
 |2,_=>simp
def PU(s:Y):Y:=JP (FJ (DJ s) ((DJ s).size/64)) 8
def YD(s:Y):(PU s).size=32:=Kp _ 8
def kQ(s:Y)(q:N)(a:q<32):As (PU s) q=Oo (CN s) q:=by
 unfold PU Oo CN;rw[Uv _ 8 q Aa,JO,QZ,Nt]
def ij{b c:N->N}(j:N)(h: ∀q,q<3*j->b q=c q):FO b j=FO c j:=by
 induction j with
 |zero=>simp[FO]
 |succ j ih=>
  have a:=h (3*j) Aa;have d:=h (3*j+1) Aa;have e:=h (3*j+2) Aa;rw[IY,IY,ih (λq f=>h q Aa),Qv,Qv,a,d,e]
def il{b c:N->N}(h: ∀q,q<32->b q=c q):Ja b=Ja c:=by
 unfold Ja;rw[ij 10 (λq a=>h q Aa),h 30 Aa,h 31 Aa]
def im(s:Y):Ja (As (PU s))=Ja (Oo (CN s)):=il (λq a=>kQ s q a)
def EQ:Ds.size=64:=Ac
def Dd(d:N)(a:d<64)(W:U):(Instr.slice 9 (G Ds) (J (I Q (d:Z))) (J (I Q ((d:Z)+1))) O).run ψ W=.ok (G (Ds.extract d (d+1))) W:=by
 have h:=uy (P:=ψ) W 9 Ds Q Q (d:Z) ((d:Z)+1) underlying9 Aa Aa (by rw[EQ];omega);rw[h,rO,show((d:Z)+1).toNat=d+1 by omega]
def oA:N->Z
 |0=>262144
 |1=>4096
 |2=>64
 |3=>1
 |_=>0
def pU:N->Z
 |0=>4096
 |1=>64
 |2=>1
 |_=>0
def io(s:Y)(hs:s.size=32)(w:U):μ ψ 216 #[G s] w λr w' =>r=ε (G (An (Ja (As s))))/\Al w w' :=by
 have t:Hid (Ja (As s)=FO (As s) 10++FB (64*(As s 30*1024+As s 31*4)) 3++[61]):=by
  unfold Hid Ja;rw[ii _ _ (Bf s 31),show 64*(As s 30*1024+As s 31*4)=As s 30*65536+As s 31*256 by omega]
 have S:Hid (∀p,Qv (As s) p=As s p*65536+As s (p+1)*256+As s (p+2)):=λp=>ig _ (λi=>Bf s i) p
 have D:=Af (Ag.refl (λ_=>False) w);go_in;go_wp2;go_loopw [4,5,6,7,8] (λo x _ _ _ wr=> ∃j q:N,j<=10/\q=3*j/\x=I Q (q:Z)/\o=G (An (FO (As s) j))/\Hid (Al w wr)) (λ_ x _ _ _ _=>30- (intOf x).toNat)
 .exact ⟨0,0,Aa,rfl,rfl,rfl,D⟩
 clear D;obtain⟨j,q,hj,n,rfl,rfl,HO⟩:=hrel;by_cases a2:j<10
 .have b1:(q:Z)<30:=Aa;obtain⟨A,H⟩: ∃A,q+1=A:=⟨_,rfl⟩;obtain⟨B,M⟩: ∃B,q+2=B:=⟨_,rfl⟩;have a8:(q:Z)+1=(A:Z):=Aa;have a9:(q:Z)+2=(B:Z):=Aa;have V:=Bf s q;have X:=Bf s A;have b0:=Bf s B;have l0:q<s.size:=Aa;have l1:A<s.size:=Aa;have l2:B<s.size:=Aa;have a6:(q:Z)<(s.size:Z):=Aa;have a7:(A:Z)<(s.size:Z):=Aa;have b2:(B:Z)<(s.size:Z):=Aa;have g0:=AC l0;have g1:=AC l1;have g2:=AC l2;have ht:=S q;rw[H,M] at ht;have y:=Af (IY (As s) j);rw[<-n] at y;obtain⟨v,P⟩: ∃v,Qv (As s) q=v:=⟨_,rfl⟩;rw[P] at ht y;clear P;have T:(FO (As s) j).length<=100:=by rw[IZ];omega
  generalize FO (As s) j=L at*;generalize As s q=c0 at*;generalize As s A=c1 at*;generalize As s B=c2 at*;have a4:(c0:Z)*65536+(c1:Z)*256+(c2:Z)=(v:Z):=Aa;have a5:v<16777216:=Aa;have R:=Af n;clear H M ht n;go_wp2_with fail;go_quiet (fail);go_wp2_with fail;go_loop [4,7,8] (λo x _=> ∃p:N,p<=4/\x=I Q (oA p)/\o=G (An (L++FB v p))) (λ_ x _=>(intOf x).toNat)
  .exact ⟨0,Aa,rfl,by rw[show FB v 0=[] from rfl,sI]⟩
  obtain⟨p,hp,rfl,rfl⟩:=hrel;have z:p=0\/p=1\/p=2\/p=3\/p=4:=Aa;obtain⟨l,hl⟩: ∃l,L++FB v p=l:=⟨_,rfl⟩;have a1:l.length<=1000:=by rw[<-hl,qU,Ia];omega
  rw[hl];rcases z with rfl|rfl|rfl|rfl|rfl
  .have d:oA 0=262144:=rfl;rw[d];obtain⟨q,b⟩: ∃q,NE v 0=q:=⟨_,rfl⟩;have c:q<64:=by rw[<-b];exact Jy v 0
   have f:(v:Z)/262144%64=(q:Z):=by rw[<-b];unfold NE;simp
   have g:((v:Z)/262144%64)=(q:Z):=by rw[<-b];unfold NE;simp
   have hsl:=λW=>Dd q c W
   have k:(0:Z)<=(q:Z):=Aa;have m:(q:Z)+1<=64:=Aa;have a:=Af (Ib l v 0);rw[b] at a;have h:(Ds.extract q (q+1)).size=1:=by rw[rv,EQ];omega
   have e: ∀W,(Op.stringOp .add (An l) (Ds.extract q (q+1))).run ψ W=.ok (G (An (l++[b8 (IF v 0)]))) W:=λW=>by rw[<-uh a];exact ry W _ _ (by rw[AE];omega)
   have HLL:=Af (EP v 0);clear b a;generalize b8 (IF v 0)=u at*;exact WY
  .have d:oA 1=4096:=rfl;rw[d];obtain⟨q,b⟩: ∃q,NE v 1=q:=⟨_,rfl⟩;have c:q<64:=by rw[<-b];exact Jy v 1
   have f:(v:Z)/4096%64=(q:Z):=by rw[<-b];unfold NE;simp
   have g:((v:Z)/4096%64)=(q:Z):=by rw[<-b];unfold NE;simp
   have hsl:=λW=>Dd q c W
   have k:(0:Z)<=(q:Z):=Aa;have m:(q:Z)+1<=64:=Aa;have a:=Af (Ib l v 1);rw[b] at a;have h:(Ds.extract q (q+1)).size=1:=by rw[rv,EQ];omega
   have e: ∀W,(Op.stringOp .add (An l) (Ds.extract q (q+1))).run ψ W=.ok (G (An (l++[b8 (IF v 1)]))) W:=λW=>by rw[<-uh a];exact ry W _ _ (by rw[AE];omega)
   have HLL:=Af (EP v 1);clear b a;generalize b8 (IF v 1)=u at*;exact WZ
  .have d:oA 2=64:=rfl;rw[d];obtain⟨q,b⟩: ∃q,NE v 2=q:=⟨_,rfl⟩;have c:q<64:=by rw[<-b];exact Jy v 2
   have f:(v:Z)/64%64=(q:Z):=by rw[<-b];unfold NE;simp
   have g:((v:Z)/64%64)=(q:Z):=by rw[<-b];unfold NE;simp
   have hsl:=λW=>Dd q c W
   have k:(0:Z)<=(q:Z):=Aa;have m:(q:Z)+1<=64:=Aa;have a:=Af (Ib l v 2);rw[b] at a;have h:(Ds.extract q (q+1)).size=1:=by rw[rv,EQ];omega
   have e: ∀W,(Op.stringOp .add (An l) (Ds.extract q (q+1))).run ψ W=.ok (G (An (l++[b8 (IF v 2)]))) W:=λW=>by rw[<-uh a];exact ry W _ _ (by rw[AE];omega)
   have HLL:=Af (EP v 2);clear b a;generalize b8 (IF v 2)=u at*;exact hJ
  .have d:oA 3=1:=rfl;rw[d];obtain⟨q,b⟩: ∃q,NE v 3=q:=⟨_,rfl⟩;have c:q<64:=by rw[<-b];exact Jy v 3
   have f:(v:Z)/1%64=(q:Z):=by rw[<-b];unfold NE;simp
   have g:((v:Z)%64)=(q:Z):=by rw[<-b];unfold NE;simp
   have hsl:=λW=>Dd q c W
   have k:(0:Z)<=(q:Z):=Aa;have m:(q:Z)+1<=64:=Aa;have a:=Af (Ib l v 3);rw[b] at a;have h:(Ds.extract q (q+1)).size=1:=by rw[rv,EQ];omega
   have e: ∀W,(Op.stringOp .add (An l) (Ds.extract q (q+1))).run ψ W=.ok (G (An (l++[b8 (IF v 3)]))) W:=λW=>by rw[<-uh a];exact ry W _ _ (by rw[AE];omega)
   have HLL:=Af (EP v 3);clear b a;generalize b8 (IF v 3)=u at*;generalize Ds.extract q (q+1)=ex at*;unfold Ds at hsl;go_wp2_with fail;go_round
   .exact ⟨4,Aa,rfl,by rw[uh HLL,<-rm,hl]⟩
   simp[intOf]
  have d:oA 4=0:=rfl;rw[d];have C:Hid (FO (As s) (j+1)=l):=by unfold Hid;rw[uh y,hl]
  go_wp2;go_roundw
  .exact ⟨j+1,q+3,Aa,by have:=uh R;omega,by go_num,by rw[uh C],HO.drewN _⟩
  exact Ae
 have a3:q=30:=Aa;have a0:j=10:=Aa;subst a3 a0;have V:=Bf s 30;have X:=Bf s 31;have l0:30<s.size:=Aa;have l1:31<s.size:=Aa;have a6:(30:Z)<(s.size:Z):=Aa;have a7:(31:Z)<(s.size:Z):=Aa;have g0:=AC l0;have g1:=AC l1;obtain⟨v,P⟩: ∃v,As s 30*1024+As s 31*4=v:=⟨_,rfl⟩;rw[P] at t;have T:(FO (As s) 10).length<=100:=by rw[IZ];omega
 generalize FO (As s) 10=L at*;generalize As s 30=c0 at*;generalize As s 31=c1 at*;have a4:(c0:Z)*1024+(c1:Z)*4=(v:Z):=Aa;have a5:v<16777216:=Aa;clear P n hj a2;go_wp2_with fail;go_quiet (fail);go_wp2_with fail;go_loop [4,10,11] (λo x _=> ∃p:N,p<=3/\x=I Q (pU p)/\o=G (An (L++FB (64*v) p))) (λ_ x _=>(intOf x).toNat)
 .exact ⟨0,Aa,rfl,by rw[show FB (64*v) 0=[] from rfl,sI]⟩
 obtain⟨p,hp,rfl,rfl⟩:=hrel;have z:p=0\/p=1\/p=2\/p=3:=Aa;obtain⟨l,hl⟩: ∃l,L++FB (64*v) p=l:=⟨_,rfl⟩;have a1:l.length<=1000:=by rw[<-hl,qU,Ia];omega
 rw[hl];rcases z with rfl|rfl|rfl|rfl
 .have d:pU 0=4096:=rfl;rw[d];obtain⟨q,b⟩: ∃q,NE (64*v) 0=q:=⟨_,rfl⟩;have c:q<64:=by rw[<-b];exact Jy (64*v) 0
  have f:(v:Z)/4096%64=(q:Z):=by rw[<-b,Jb v 0 Aa];simp
  have g:((v:Z)/4096%64)=(q:Z):=by rw[<-b,Jb v 0 Aa];simp
  have hsl:=λW=>Dd q c W
  have k:(0:Z)<=(q:Z):=Aa;have m:(q:Z)+1<=64:=Aa;have a:=Af (Ib l (64*v) 0);rw[b] at a;have h:(Ds.extract q (q+1)).size=1:=by rw[rv,EQ];omega
  have e: ∀W,(Op.stringOp .add (An l) (Ds.extract q (q+1))).run ψ W=.ok (G (An (l++[b8 (IF (64*v) 0)]))) W:=λW=>by rw[<-uh a];exact ry W _ _ (by rw[AE];omega)
  have HLL:=Af (EP (64*v) 0);clear b a;generalize b8 (IF (64*v) 0)=u at*;exact WY
 .have d:pU 1=64:=rfl;rw[d];obtain⟨q,b⟩: ∃q,NE (64*v) 1=q:=⟨_,rfl⟩;have c:q<64:=by rw[<-b];exact Jy (64*v) 1
  have f:(v:Z)/64%64=(q:Z):=by rw[<-b,Jb v 1 Aa];simp
  have g:((v:Z)/64%64)=(q:Z):=by rw[<-b,Jb v 1 Aa];simp
  have hsl:=λW=>Dd q c W
  have k:(0:Z)<=(q:Z):=Aa;have m:(q:Z)+1<=64:=Aa;have a:=Af (Ib l (64*v) 1);rw[b] at a;have h:(Ds.extract q (q+1)).size=1:=by rw[rv,EQ];omega
  have e: ∀W,(Op.stringOp .add (An l) (Ds.extract q (q+1))).run ψ W=.ok (G (An (l++[b8 (IF (64*v) 1)]))) W:=λW=>by rw[<-uh a];exact ry W _ _ (by rw[AE];omega)
  have HLL:=Af (EP (64*v) 1);clear b a;generalize b8 (IF (64*v) 1)=u at*;exact WZ
 .have d:pU 2=1:=rfl;rw[d];obtain⟨q,b⟩: ∃q,NE (64*v) 2=q:=⟨_,rfl⟩;have c:q<64:=by rw[<-b];exact Jy (64*v) 2
  have f:(v:Z)/1%64=(q:Z):=by rw[<-b,Jb v 2 Aa];simp
  have g:((v:Z)%64)=(q:Z):=by rw[<-b,Jb v 2 Aa];simp
  have hsl:=λW=>Dd q c W
  have k:(0:Z)<=(q:Z):=Aa;have m:(q:Z)+1<=64:=Aa;have a:=Af (Ib l (64*v) 2);rw[b] at a;have h:(Ds.extract q (q+1)).size=1:=by rw[rv,EQ];omega
  have e: ∀W,(Op.stringOp .add (An l) (Ds.extract q (q+1))).run ψ W=.ok (G (An (l++[b8 (IF (64*v) 2)]))) W:=λW=>by rw[<-uh a];exact ry W _ _ (by rw[AE];omega)
  have HLL:=Af (EP (64*v) 2);clear b a;generalize b8 (IF (64*v) 2)=u at*;exact hJ
 have d:pU 3=0:=rfl;rw[d];have F:Hid (Ja (As s)=l++[61]):=by unfold Hid;rw[uh t,hl]
 have e: ∀W,(Op.stringOp .add (An l) ⟨#[61]⟩).run ψ W=.ok (G (An (l++[61]))) W:=λW=>by rw[<-AD];exact ry W _ _ (by rw[AE];show l.length+1<=_;omega)
 have HZ:Hid (An (Ja (As s))=An (l++[61])):=by unfold Hid;rw[uh F]
 clear F;generalize An (l++[61])=zz at*;go_wp2;go_ret;exact⟨by rw[uh HZ];rfl,HO.drewN _⟩
