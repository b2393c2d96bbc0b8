import Derived.Test.YtndfmgdhiallpaaGreatDoorVaz
import Derived.Lib.AppendZeros
import Derived.Test.YtndfmgdhiallpaaGreatDoorVba
set_option linter.all false
set_option maxRecDepth 100000
set_option maxHeartbeats 16000000
open _root_ renaming Option.some->J,Option.none->O,Int->Z,Nat->N,Go.Value.int->I,Go.Value.string->G,Go.IntKind.i64->Q,ByteArray->Y,List->E,Go.World->U,Go.Value.slice->K,Go.Value->β,Go.Obj.cells->γ,Go.Value.pointer->δ,Go.Ending.returned->ε,Go.Value.bool->ζ,Go.Value.tuple->η,Bool.true->θ,Bool.false->ι,absurd->κ,Go.Calls->μ,Go.RowKit.Hid->χ,Go.Proofs.Tryz.prog->ψ,Decidable.decide->Γ
namespace Go.Proofs.YtndfmgdhiallpaaGreatDoor
open Go.RowKit Go.Maps Go.Proofs.Tryz
def qa(w:U)(x:β)(gs:E Fl):Prop:=(x=K O 0 0/\gs=[])\/ ∃ad c,x=K (J ad) gs.length c/\∀j u,(AG gs)[j]? =J u->w.cell? (ad.add j)=J u
def fS(a:E Fl): ∀u∈AG a,u.oneCell' =true:=by
 intro u b;obtain⟨f,_,h⟩:=xC.1 b;simp at h;rcases h with rfl|rfl<;>rfl
def Nx(W w:U)(v:β)(fs:E Fl):Prop:=Au w v fs/\(∀b,v.ownBlock=J b->W.heap.size<=b)/\Al W w
def Nx.start{W w:U}(h:Al W w):Nx W w (K O 0 0) []:=⟨rF _ _ _ _,λb e=>(by cases e),h⟩
def Nx.alloc{W w:U}{v:β}{fs:E Fl}(h:Nx W w v fs)(o:Obj):Nx W (w.alloc o) v fs:=⟨h.1.old ((Ag.refl _ w).alloc o),h.2.1,h.2.2.alloc o⟩
def Nx.form{W w:U}{v:β}{fs:E Fl}(h:Nx W w v fs): ∃ao cap,v=K ao fs.length cap:=by
 rcases h.1.2 with⟨rfl,h0⟩|⟨g,cap,a,rfl,_⟩
 .exact ⟨O,0,by rw[h0]⟩
 exact⟨_,_,rfl⟩
def Qo{W w:U}{v x:β}{fs a:E Fl}(h:Nx W w v fs)(q:qa w x a)(r:fs.length+a.length<=4000000)(j:TypeId):
 ∃v' w',(Builtin.append_ #[41,41] j #[v,x]).run ψ w=.ok v' w' /\Nx W w' v' (fs++a)/\Ag (λk=>v.ownBlock=J k) w w' :=by
 obtain⟨l,d,f,g,i⟩:=rN Jr;rcases q with⟨rfl,rfl⟩|⟨m,c,rfl,n⟩
 .refine ⟨v,w,run_append_owned_none w 0 _ j 50 l 2 underlying41 d v _ _ h.1, ?_⟩;rw[sI];exact⟨h,Ag.refl _ _⟩
 obtain⟨v',w',p,o,hg,_,hb⟩:=run_append_own_at (P:=ψ) w 0 41 j 50 l (.agg #[G ⟨#[]⟩,G ⟨#[]⟩]) 2 32 underlying41 d f g i rfl Aa v _ _ h.1 m a.length c (AG a) (Du a) n (fS a) (by unfold maxLen;omega) Aa Aa;refine⟨v',w',p,⟨?_,λb hv=> ?_, ?_⟩,(Ag.refl _ w).grown hg (λk _ e=>e)⟩
 .show w'.ownsRow 0 50 2 v' (fs++a).length (AG (fs++a));rw[qU,Im];exact o
 .exact wM
 exact aaS
def BQ{ops:Array Oper}{rest:E Oper}{o:Oper}{a:Act}{Q:Exit->Act->U->Prop}{W w:U}(c:o.guard=O)(s x:Operand)
 (j:o.op=.call {callee:=.builtin .append,args:= #[s,x],argTypes:= #[41,41]})(v e:β)(fs b:E Fl)(m:a.eval s=v)(n:a.eval x=e)(h:Nx W w v fs)(d:qa w e b)(i:fs.length+b.length<=4000000)
 (k: ∀v' w',Nx W w' v' (fs++b)->Ag (λk=>v.ownBlock=J k) w w' ->wpList ψ ops Q rest (a.put o.dst v') w'):wpList ψ ops Q (o::rest) a w:=by
 obtain⟨v',w',l,f,g⟩:=Qo h d i o.type;exact Lib.wpList_append_run w c s x _ _ j v e m n v' w' l (k v' w' f g)
def Au.cells{w0 w:U}{v:β}{fs:E Fl}(h:Au w0 v fs)(c:Al w0 w)(i:N)(b:i<fs.length): ∃g cap,v=K (J ⟨g,0,O⟩) fs.length cap/\g<w0.heap.size/\w.cell? ⟨g,i*2,O⟩=J (G fs[i].1)/\w.cell? ⟨g,i*2+1,O⟩=J (G fs[i].2):=by
 obtain⟨g,cap,e,a,d⟩:=h.slice Aa;obtain⟨c1,c2⟩:=d i b;rw[qT,qY b] at c1 c2;exact⟨g,cap,e,a,(c.cell (p:=⟨g,i*2,O⟩) a (λx=>x)).trans c1,(c.cell (p:=⟨g,i*2+1,O⟩) a (λx=>x)).trans c2⟩
def fT(W:U):(sizeOf (prog.elem 41)).run ψ W=.ok 2 W:=by
 have:=Jr;rw[show prog.elem 41=50 by kernel_rfl];obtain⟨e,a,c,b,d⟩:=rN Jr;simp[sizeOf,typeInfo,a,b]
def pC{w:U}{ao:Option Addr}{cap:N}{l:E Fl}(h:Au w (K ao l.length cap) l)(k:N)(q:k<=l.length):
 ∃B C,(∀W,(Instr.slice 41 (K ao l.length cap) O (J (I Q (k:Z))) O).run ψ W=.ok B W)/\(∀W,(Instr.slice 41 (K ao l.length cap) (J (I Q (k:Z))) O O).run ψ W=.ok C W)/\∀W,Al w W->qa W B (l.take k)/\qa W C (l.drop k):=by
 have z:prog.underlying 41=J (.slice (prog.elem 41)):=aaV;have t:l.length<=cap\/(ao=O/\l.length=0/\cap=0):=by
  rcases h.2 with⟨e,h0⟩|⟨g,c,o,e,_,_,F⟩
  .injection e with e1 e2 e3;exact .inr ⟨e1,h0,e3⟩
  injection e with e1 e2 e3;subst e3;exact .inl F.1
 have x:l.length<=cap:=by rcases t with h|h<;>omega
 refine⟨sliced ao 0 k cap 2,sliced ao k l.length cap 2,λW=> ?_,λW=> ?_,λW D=> ?_⟩
 .rw[run_slice_h (w:=W) (P:=ψ) 41 ao l.length cap z Q (k:Z) Aa Aa,fT];rfl
 .rw[run_slice_l (w:=W) (P:=ψ) 41 ao l.length cap z Q (k:Z) Aa Aa,fT];rfl
 have A:=h.old D;by_cases y:l=[]
 .subst y;have s:k=0:=by simpa using q
  subst s;rcases h.2 with⟨e,_⟩|⟨g,c,o,e,_,_,_⟩
  .injection e with e1 e2 e3;subst e1 e3;exact⟨.inl ⟨rfl,rfl⟩,.inl ⟨rfl,rfl⟩⟩
  injection e with e1 e2 e3;subst e1;refine⟨.inr ⟨⟨g,0,O⟩,cap, ?_,λj u b=>by cases b⟩,.inr ⟨⟨g,0,O⟩,cap, ?_,λj u b=>by cases b⟩⟩<;>(unfold sliced;simp[Addr.add])
 have m:0<l.length:=by cases l with|nil=>exact κ rfl y|cons a r=>simp
 obtain⟨g,c,e,H, -⟩:=A.slice m;injection e with e1 e2 e3;subst e1;have i:=ur (w:=W) A (g:=g) rfl;have n:AG l=AG (l.take k)++AG (l.drop k):=by rw[<-Im,ue]
 have v:(AG (l.take k)).length=k*2:=by rw[Du,rY,uc q]
 constructor
 .refine .inr ⟨⟨g,0,O⟩,cap, ?_,λj u b=> ?_⟩
  .unfold sliced;rw[rY,uc q];by_cases d:cap=0
   .simp[d]
   simp[d,Addr.add]
  refine i j u ?_;rw[n,rM (by obtain⟨b,_⟩:=sU.1 b;exact b)];exact b
 by_cases f:cap=k
 .have p:l.drop k=[]:=uJ Aa;rw[p];refine .inr ⟨⟨g,0,O⟩,cap- k, ?_,λj u b=>by cases b⟩;unfold sliced;rw[rd f];show Value.slice _ (l.length- k) (cap- k)=_;rw[show l.length- k=0 by omega];rfl
 refine .inr ⟨⟨g,k*2,O⟩,cap- k, ?_,λj u b=> ?_⟩
 .unfold sliced;rw[rc f,tD];simp only[uo];rw[rH,rx]
 have:=i (k*2+j) u (by rw[n,rE Aa,v,uj];exact b);rw[rH,rx] at this;rw[rH];exact this
abbrev NQ(l:E Fl):Prop:=l.Pairwise (λa b=>a.1.data.toList<b.1.data.toList)
def Yc{l:E Fl}{x:Fl}{k:N}(g:NQ l)(p:k<=l.length)(i: ∀j (h:j<l.length),j<k->l[j].1.data.toList<x.1.data.toList)(m: ∀h:k<l.length,¬l[k].1.data.toList<x.1.data.toList)(n: ∀y,y∈l->y.1≠x.1):NQ (l.take k++[x]++l.drop k):=by
 have d: ∀y,y∈l.drop k->x.1.data.toList<y.1.data.toList:=by
  intro y a;by_cases b:k<l.length
  .have f:x.1.data.toList<l[k].1.data.toList:=by
    rcases yx (x.1.data.toList<l[k].1.data.toList) with h|h
    .exact h
    exact κ (Fy (m b) h) (n _ (ro b))
   rw[sK b] at a;rcases sW.1 a with rfl|a
   .exact f
   have hp:NQ (l.drop k):=g.sublist (List.drop_sublist _ _);rw[sK b] at hp;exact uE f ((List.pairwise_cons.1 hp).1 y a)
  rw[uJ Aa] at a;cases a
 have e: ∀y,y∈l.take k->y.1.data.toList<x.1.data.toList:=by
  intro y a;obtain⟨j,o,rfl⟩:=tw.1 a;exact i j Aa Aa
 rw[rm];refine sZ.2 ⟨g.sublist (List.take_sublist _ _), ?_,λy a z c=> ?_⟩
 .refine sZ.2 ⟨tS _ _,g.sublist (List.drop_sublist _ _),λy a z c=> ?_⟩;rw[rC] at a;subst a;exact d z c
 rcases rR.1 c with c|c
 .rw[rC] at c;subst c;exact e y a
 exact uE (e y a) (d z c)
def fU{l r:E Fl}{x:Fl}{k:N}(h:l.Perm r):(l.take k++[x]++l.drop k).Perm (r++[x]):=by
 have a:(l.take k++[x]++l.drop k).Perm (x::l):=by
  rw[rm];have h0:(l.take k++([x]++l.drop k)).Perm ([x]++(l.take k++l.drop k)):=by
   rw[<-rm,<-rm];exact List.perm_append_comm.append_right _
  rw[ue] at h0;exact h0
 exact a.trans ((h.cons x).trans (List.perm_append_singleton x r).symm)
def Nx.base{w w0 w3:U}{u v:β}{l a:E Fl}(h:Nx w0 w3 v a)(k:Nx w w0 u l):Nx w w3 v a:=
 ⟨h.1,λb e=>rz k.2.2.size (h.2.1 b e),k.2.2.trans h.2.2⟩
def Dq{w:U}{v:β}{fs:E Fl}(h:Au w v fs): ∃ao cap,v=K ao fs.length cap:=by
 rcases h.2 with⟨rfl,h0⟩|⟨g,cap,a,rfl,_⟩
 .exact ⟨O,0,by rw[h0]⟩
 exact⟨_,_,rfl⟩
def Yd{fs:E Fl}{i:N}(h:i<fs.length):fs.take (i+1)=fs.take i++[fs[i]]:=by rw[tu,qY h];rfl
def fV{fs:E Fl}{i:N}(c:fs.Pairwise (λa b=>a.1≠b.1))(h:i<fs.length){y:Fl}(d:y∈fs.take i):y.1≠fs[i].1:=by
 obtain⟨j,e,rfl⟩:=tw.1 d;exact ud.1 c j i Aa h Aa
def Dw(w:U)(a:Addr)(fs:E Fl):Prop:= ∀i,i<fs.length->w.cell? (a.add (i*2))=J (G (fs.getD i default).1)/\w.cell? ⟨(a.add (i*2)).block,(a.add (i*2)).off+1,O⟩=J (G (fs.getD i default).2)
def Dw.kept{S:N->Prop}{w w' :U}{a:Addr}{fs:E Fl}(h:Dw w a fs)(e:Ag S w w')(f:¬S a.block):Dw w' a fs:=λi j=>by
 obtain⟨b,g⟩:=h i j;have c:(a.add (i*2)).block=a.block:=by unfold Addr.add;split<;>rfl
 have d:(a.add (i*2)).block<w.heap.size:=Br b;exact⟨(e.cell (p:=a.add (i*2)) d (by rw[c];exact f)).trans b,(e.cell (p:=⟨(a.add (i*2)).block,(a.add (i*2)).off+1,O⟩) d (by rw[c];exact f)).trans g⟩
def Dw.old{w w' :U}{a:Addr}{fs:E Fl}(h:Dw w a fs)(b:Al w w'):Dw w' a fs:=h.kept b (λx=>x)
def Zr(s:Option Addr)(t:N)(f:Addr)(fs:E Fl)(g:0<fs.length->s=J f)(a0:fs.length<=3000000)(S:fs.Pairwise (λa b=>a.1≠b.1))(w:U)(T:Dw w f fs):μ ψ 202 #[K s fs.length t] w λr w' => ∃v' l,r=ε v' /\Al w w' /\l.Perm fs/\NQ l/\Au w' v' l/\∀b,v'.ownBlock=J b->w.heap.size<=b:=by
 have HF:=Af T;have X:=Af S;have F:=Af g;clear T S g;go_in;go_wp2;go_loopw [3,4,5,6] (λu x _ _ wr=> ∃(i:N) (l:E Fl) (ao:Option Addr) (cap:N),i<=fs.length/\x=I Q i/\u=K ao l.length cap/\χ (Nx w wr (K ao l.length cap) l)/\χ (l.Perm (fs.take i)/\NQ l)) (λ_ x _ _ _=>fs.length- (intOf x).toNat)
 .exact ⟨0,[],O,0,Aa,rfl,rfl,Nx.start (Ag.refl _ w),yG _,tH⟩
 obtain⟨i,l,ao,cap,hi,rfl,rfl,HU,o⟩:=hrel;have a2:l.length<=3000000:=by have:=o.1.length_eq;rw[rY] at this;omega
 by_cases m:i<fs.length
 .have A:(i:Z)<(fs.length:Z):=Aa;have HX:χ (∀k,k<=l.length->(∀j (h:j<l.length),j<k->l[j].1.data.toList<fs[i].1.data.toList)->(∀h:k<l.length,¬l[k].1.data.toList<fs[i].1.data.toList)->(l.take k++[fs[i]]++l.drop k).Perm (fs.take (i+1))/\NQ (l.take k++[fs[i]]++l.drop k)):=λk hk h1 h2=>by
   rw[Yd m];exact⟨fU o.1,Yc o.2 hk h1 h2 (λy hy=>fV (uh X) m (o.1.mem_iff.1 hy))⟩
  have g:=F Aa;subst g;obtain⟨c1,c2⟩:=HF.old HU.2.2 i m;rw[qT,qY m] at c1 c2;simp only[th] at c1 c2;generalize fs[i]=x at*;obtain⟨xn,xd⟩:=x;simp only at*;obtain⟨w0,M⟩: ∃w0,w0=wr:=⟨_,rfl⟩;subst M;have d:(f.add (i*2)).block<w0.heap.size:=Br c1;have HC:χ (∀W,Al w0 W->W.cell? (f.add (i*2))=J (G xn)/\W.cell? ⟨(f.add (i*2)).block,(f.add (i*2)).off+1,O⟩=J (G xd)):=λW V=>⟨(V.cell (p:=f.add (i*2)) d (λx=>x)).trans c1,(V.cell (p:=⟨(f.add (i*2)).block,(f.add (i*2)).off+1,O⟩) d (λx=>x)).trans c2⟩
  have P:χ (Al w0 w0):=Ag.refl _ w0;clear o c1 c2 d;go_wp2;go_loopw [6] (λy wr=> ∃k:N,k<=l.length/\y=I Q k/\χ (∀j (h:j<l.length),j<k->l[j].1.data.toList<xn.data.toList)/\χ (Al w0 wr)) (λy _=>l.length- (intOf y).toNat)
  .exact ⟨0,Aa,rfl,λj _ h=>Aa,P⟩
  clear P;obtain⟨k,hk,rfl,HB,HO⟩:=hrel;by_cases q:k<l.length
  .have n:(k:Z)<(l.length:Z):=Aa;obtain⟨d1, -⟩:=HC wr (uh HO);obtain⟨gu,cu,hu, -,R, -⟩:=HU.1.cells (uh HO) k q;injection hu with hu1 hu2 hu3;subst hu1 hu3;have D:=Nw l[k].1 xn;have H:χ (l[k].1.data.toList<xn.data.toList-> ∀j (h:j<l.length),j<k+1->l[j].1.data.toList<xn.data.toList):=λh j hj a1=>abv
   by_cases c:l[k].1.data.toList<xn.data.toList
   .rw[qZ c] at D;have HN2:=Af (H c);clear H c HB HX;generalize l[k].1=z at*;go_wp2_with fail;go_quiet (fail);go_wp2;go_roundw
    .exact ⟨k+1,Aa,by go_num,HN2,HO.drewN _⟩
    exact Ae
   rw[qX c] at D;have HB2:χ (∀h:k<l.length,¬l[k].1.data.toList<xn.data.toList):=λ_=>c
   clear H c;generalize hz:l[k].1=z at R D;clear hz;go_wp2_with fail;go_quiet (fail);clear R D d1;exact zg
  have n:¬(k:Z)<(l.length:Z):=Aa;have B:Γ ((k:Z)<(l.length:Z))=false:=qX n;have C:Γ (k<l.length)=false:=qX q;have HB2:χ (∀h:k<l.length,¬l[k].1.data.toList<xn.data.toList):=λh=>κ h q
  go_wp2_with fail;go_quiet (fail);clear B C;exact zg
 have A:¬(i:Z)<(fs.length:Z):=Aa;have v:i=fs.length:=Aa;have L:χ (l.Perm fs):=by have:=o.1;rw[v,sr] at this;exact this
 clear v;go_wp2;go_ret;exact⟨_,rfl,HU.2.2,l,L,o.2,HU.1,HU.2.1⟩
def Au.fls{w:U}{v:β}{fs:E Fl}(h:Au w v fs): ∃ao cap a,v=K ao fs.length cap/\(0<fs.length->ao=J a)/\Dw w a fs:=by
 by_cases h0:0<fs.length
 .obtain ⟨g,cap,e,d,c⟩:=h.slice h0;refine⟨_,cap,⟨g,0,O⟩,e,λ_=>rfl,λi b=> ?_⟩;have:=c i b;rw[rH,rx];exact this
 obtain⟨ao,cap,e⟩:=Dq h;exact⟨ao,cap,⟨0,0,O⟩,e,Aa,λi b=>Aa⟩
def Zs(v:β)(fs:E Fl)(h:fs.length<=100)(f:fs.Pairwise (λa b=>a.1≠b.1))(w:U)(g:Au w v fs):μ ψ 202 #[v] w λr w' => ∃v' l,r=ε v' /\Al w w' /\l.Perm fs/\NQ l/\Au w' v' l/\∀b,v'.ownBlock=J b->w.heap.size<=b:=by
 obtain⟨ao,cap,c,rfl,d,e⟩:=g.fls;exact Zr ao cap c fs d Aa f w e
abbrev Dr:β:=K O 0 0
def nD(T:E Bw)(w w' :U)(r:Ending):Prop:=
 (∃m k,m<T.length/\Pt T m/\BM (Aw T) (T.getD m AA)=0/\Dp (Eg (Aw T) (T.take m)) (T.getD m AA)=k/\k≠0/\r=ε (η #[Dr,Dr,I Q (k:Z)]))\/
 (jW T/\∃v u l,r=ε (η #[v,u,I Q 0])/\l.Perm (Eg (Aw T) T).fs/\NQ l/\Au w' v l/\Bv w' u (Eg (Aw T) T).lf/\(∀b,v.ownBlock=J b->w.heap.size<=b)/\∀b,u.ownBlock=J b->w.heap.size<=b)
structure Ye (w0:U) (fs:E Fl) (lf:E Lf) (i:N) (vf vl:β) (w:U):Prop where
 nf:Nx w0 w vf fs
 lfa:Bv w vl lf
 lfb: ∀b,vl.ownBlock=J b->w0.heap.size<=b
 few:lf.length<=i
def Ye.old{w0 w w' :U}{fs:E Fl}{lf:E Lf}{i:N}{vf vl:β}(h:Ye w0 fs lf i vf vl w)(a:Al w w'):Ye w0 fs lf i vf vl w' :=
 ⟨⟨h.nf.1.old a,h.nf.2.1,h.nf.2.2.trans a⟩,h.lfa.kept a (λ_ _ x=>x),h.lfb,h.few⟩
def Ye.apart{w0 w:U}{fs:E Fl}{lf:E Lf}{i:N}{vf vl:β}(h:Ye w0 fs lf i vf vl w){b:N}(d:vf.ownBlock=J b)(e:vl.ownBlock=J b):False:=by
 obtain⟨c1,c⟩:=Aj h.nf.1 d;obtain⟨c2,a⟩:=Aj h.lfa e;rw[c] at a;injection a with a;injection a with _ a;exact κ a Ac
def Ye.leave{w0 w w' :U}{fs:E Fl}{lf:E Lf}{i:N}{vf vl:β}{nm:Y}{y g cap:N}(h:Ye w0 fs lf i vf vl w)
 (f:w'.ownsRow 0 48 2 (K (J ⟨g,0,O⟩) (lf.length+1) cap) (lf.length+1) (Ce lf++[G nm,I Q (y:Z)]))(j:w.grownBy w' vl.ownBlock)(l:vl.ownBlock=J g\/g=w.heap.size):
 Ye w0 fs (lf++[(nm,y)]) (i+1) vf (K (J ⟨g,0,O⟩) (lf.length+1) cap) w' :=by
 have a:Ag (λk=>vl.ownBlock=J k) w w' :=(Ag.refl _ w).grown j (λk _ e=>e);refine⟨⟨h.nf.1.kept a (λb c d=>h.apart c d),h.nf.2.1,h.nf.2.2.transNew a (λk m e=>κ (h.lfb k e) Aa)⟩, ?_,λb e=> ?_,by rw[qU];have:=h.few;simp;omega⟩
 .show w'.ownsRow 0 48 2 _ (lf++[(nm,y)]).length (Ce (lf++[(nm,y)]));rw[Ny,qU];exact f
 have:g=b:=rD (show J g=J b from e);subst this;rcases l with h4|h4
 .exact h.lfb g h4
 rw[h4];exact h.nf.2.2.size
def Ye.take{w0 w w' :U}{fs a:E Fl}{lf:E Lf}{i:N}{vf vl v' :β}(h:Ye w0 fs lf i vf vl w)(d:Nx w0 w' v' a)(e:Ag (λk=>vf.ownBlock=J k) w w'):Ye w0 a lf (i+1) v' vl w' :=
 ⟨d,h.lfa.kept e (λ_ b c=>h.apart c b),h.lfb,Nat.le_succ_of_le h.few⟩
def Qp(T:E Bw)(w0:U)(i:N)(vf vl al:β)(w:U):Prop:=Pt T i/\Ye w0 (Eg (Aw T) (T.take i)).fs (Eg (Aw T) (T.take i)).lf i vf vl w/\al=I Q ((Eg (Aw T) (T.take i)).all:Z)
def Qp.start(T:E Bw)(w:U):Qp T w 0 Dr Dr (I Q 0) w:=
 ⟨λj a=>Aa,⟨Nx.start (Ag.refl _ w),rF _ _ _ _,λb e=>(by cases e),rj _⟩,rfl⟩
def Qp.leave{T:E Bw}{w0 w' :U}{i:N}(c:i<T.length)(a:Pt T i)(b:BM (Aw T) (T.getD i AA)≠0){vf vl' :β}
 (h:Ye w0 (Eg (Aw T) (T.take i)).fs ((Eg (Aw T) (T.take i)).lf++[((T.getD i AA).nm,BM (Aw T) (T.getD i AA))]) (i+1) vf vl' w'):Qp T w0 (i+1) vf vl' (I Q ((Eg (Aw T) (T.take i)).all:Z)) w' :=by
 refine⟨λj f d=> ?_, ?_, ?_⟩
 .by_cases e:j=i
  .subst e;exact κ d b
  exact a j Aa d
 .rw[EA _ T i c,Ed,rc b];exact h
 rw[EA _ T i c,Ed,rc b]
def Qp.take{T:E Bw}{w0 w' :U}{i:N}(b:i<T.length)(a:Pt T i)(c:BM (Aw T) (T.getD i AA)=0)(d:dfault (Eg (Aw T) (T.take i)).fs (Eg (Aw T) (T.take i)).all (T.getD i AA)=0){vf' vl:β}
 (h:Ye w0 ((Eg (Aw T) (T.take i)).fs++[((T.getD i AA).nm,(T.getD i AA).dt)]) (Eg (Aw T) (T.take i)).lf (i+1) vf' vl w'):Qp T w0 (i+1) vf' vl (I Q (((Eg (Aw T) (T.take i)).all+(T.getD i AA).dt.size:N):Z)) w' :=by
 refine⟨λj g f=> ?_, ?_, ?_⟩
 .by_cases e:j=i
  .subst e;rw[<-(Ju T j Aa a).dfault];exact d
  exact a j Aa f
 .rw[EA _ T i b,Ed,rd c];exact h
 rw[EA _ T i b,Ed,rd c]
def nD.fault{T:E Bw}{i:N}(c:i<T.length)(a:Pt T i)(e:BM (Aw T) (T.getD i AA)=0){k:N}(b:dfault (Eg (Aw T) (T.take i)).fs (Eg (Aw T) (T.take i)).all (T.getD i AA)=k)(d:k≠0)(w w' :U):nD T w w' (ε (η #[Dr,Dr,I Q (k:Z)])):=
 .inl ⟨i,k,c,a,e,by rw[<-(Ju T i Aa a).dfault];exact b,d,rfl⟩
def Rs(L:E Y)(T:E Bw): ∀f∈(Eg L T).fs,f.1.size<=80:=by
 intro f a;rw[nz] at a;obtain⟨e,b,rfl⟩:=rT.1 a;have:=(vk.1 b).2;exact Ee (Kt (by simpa using this))
def Yf(a:Addr)(cap:N)(T:E Bw)(hT:T.length<=200)(hs: ∀e∈T,e.nm.size<=2000000/\e.dt.size<=2000000)(w:U)(ht:Dc w a T):
 μ ψ 114 #[K (J a) T.length cap] w λr w' =>Al w w' /\nD T w w' r:=by
 have HS:χ (∀i,i<T.length->(T.getD i AA).nm.size<=2000000/\(T.getD i AA).dt.size<=2000000):=λi hi=>by rw[qT,qY hi];exact hs _ (ro hi)
 have HT:=Af ht;have HY:χ (∀i,i<T.length-> ∀W,Dc W a T->μ ψ 198 #[K (J a) T.length cap,I Q (i:Z)] W λr w' =>r=ε (I Q (BM (Aw T) (T.getD i AA):Z))/\Al W w'):=λi hi W h=>by
  have:=kw a cap T hT (λe he=>(hs e he).1) i hi W h;rw[kp] at this;exact this
 have d6:=Af (Qp.start T w);have i3:¬(200:Z)<(T.length:Z):=Aa;clear ht hs;go_in;go_wp2;go_loopw [5,6,7,8,9,10,11,12,13] (λf l al x _ _ _ _ _ wr=> ∃i:N,i<=T.length/\x=I Q i/\χ (Qp T w i f l al wr)) (λ_ _ _ x _ _ _ _ _ _=>T.length- (intOf x).toNat)
 .exact ⟨0,Aa,rfl,d6⟩
 obtain⟨i,hi,rfl,HI⟩:=hrel;clear d6;obtain⟨b5,b9,hal⟩:=uh HI;subst hal;have D:=Af b5;have d:=Af b9;have HG:=Af (Ju T i hi b5);have h7:=HG.few;have i6:=HG.small;have h8:=b9.few;have d5:=Af (Rs (Aw T) (T.take i));clear b5 b9 HI;by_cases H:i<T.length
 .have e5:(i:Z)<(T.length:Z):=Aa;have b0:=Af (HT.old d.nf.2.2);obtain⟨h1,h2,h3⟩:=b0 i H;obtain⟨g5,i4⟩:=HS i H;have e0:=Af (HY i H);have C:=Af (λhw vl' w' =>Qp.leave (T:=T) (w0:=w) (w' :=w') (i:=i) (vf:=u5) (vl' :=vl') H (uh D) hw);have a9:=Af (λhw hd vf' w' =>Qp.take (T:=T) (w0:=w) (w' :=w') (i:=i) (vf' :=vf') (vl:=u6) H (uh D) hw hd);have a8:=Af (λhw k w' hd hk=>nD.fault (T:=T) (i:=i) H (uh D) hw (k:=k) hd hk w w');have d9:χ (BM (Aw T) (T.getD i AA)<=5):=by unfold χ BM;split<;>(try split)<;>(try split)<;>(try split)<;>(try split)<;>omega
  have V:χ (dfault (Eg (Aw T) (T.take i)).fs (Eg (Aw T) (T.take i)).all (T.getD i AA)=if(Eg (Aw T) (T.take i)).fs.any (λf=>JC f.1 (T.getD i AA).nm) then 5 else if(Γ ((T.getD i AA).nm≠Ez)&&Γ (AO (T.getD i AA).nm=Ez)) then 4 else if Bu (T.getD i AA).nm<(T.getD i AA).dt.size then 1 else if 60<(Eg (Aw T) (T.take i)).fs.length+1 then 6 else if 16000<(Eg (Aw T) (T.take i)).all+(T.getD i AA).dt.size then 1 else 0):=rfl;clear D HG;generalize dfault (Eg (Aw T) (T.take i)).fs (Eg (Aw T) (T.take i)).all (T.getD i AA)=df at*;generalize BM (Aw T) (T.getD i AA)=y at*;generalize Eg (Aw T) (T.take i)=s at*;obtain⟨fs,tb,all,lf⟩:=s;generalize T.getD i AA=e at*;obtain⟨nm,ln,dt⟩:=e;simp only at*;have hA:Al wr (wr.alloc (γ #[G nm,ζ ln,G dt] 39)):=(Ag.refl _ wr).alloc _;have HE:=Af (Rh.made wr nm ln dt);have g1:=rh wr (γ #[G nm,ζ ln,G dt] 39);have A:=Af (d.old hA);have d8:=Af (b0.old hA);have c3:χ (∀b,u5.ownBlock=J b->b≠wr.heap.size):=λb hb e=>by
   obtain⟨g0,hc⟩:=Aj d.nf.1 hb;have:=(qW.1 hc).1;omega
  clear hA b0 d;go_wp2_with fail;clear h1 h2 h3 g1;generalize wr.alloc (γ #[G nm,ζ ln,G dt] 39)=W at*;refine(e0 W (uh d8)).mono ?_;rintro r R ⟨rfl,b4⟩;have a0:=Af (HE.old b4);have o:=Af (A.old b4);generalize wr.heap.size=ge at*;clear HE A d8 e0 b4;by_cases f5:y=0
  .subst f5;have HTK2:=Af (a9 rfl);have HFT2:=Af (a8 rfl);clear C d9 a9 a8;obtain⟨e1,M,g8⟩:=o.nf.form;subst g8;have d3:χ (Al R R):=Ag.refl _ R;go_wp2;go_loopw [11,12] (λy _ wr=> ∃k:N,k<=fs.length/\y=I Q k/\χ (∀j (h:j<fs.length),j<k->JC fs[j].1 nm=ι)/\χ (Al R wr)) (λy _ _=>fs.length- (intOf y).toNat)
   .exact ⟨0,Aa,rfl,λj _ h=>Aa,d3⟩
   clear d3;obtain⟨k,hk,rfl,HB,HO⟩:=hrel;have a1:=Af (a0.old (uh HO));have X:=Af (o.old (uh HO));by_cases b2:k<fs.length
   .have e6:(k:Z)<(fs.length:Z):=Aa;obtain⟨gf,cu,hu,g3,c1, -⟩:=X.nf.1.cells (Ag.refl _ wr) k b2;injection hu with hu1 hu2 hu3;subst hu1 hu3;obtain⟨g2,c0, -, -⟩:=uh a1;have HC:=Af (λW=>Ya fs[k].1 nm (rz (d5 _ (ro b2)) Aa) g5 W);have a5:χ (JC fs[k].1 nm=ι-> ∀j (h:j<fs.length),j<k+1->JC fs[j].1 nm=ι):=λh j hj i5=>abv
    have a7:χ (JC fs[k].1 nm=θ->df=5):=λh=>by
     rw[uh V,rd (sc.2 ⟨fs[k],ro b2,h⟩)]
    generalize JC fs[k].1 nm=cl at*;generalize fs[k].1=z at*;have d4: ∀W v :U,(W.cell? ⟨gf,k*2,O⟩=J (G z)/\W.cell? ⟨ge,0,O⟩=J (G nm)/\Al wr W)->Al W v ->(v.cell? ⟨gf,k*2,O⟩=J (G z)/\v.cell? ⟨ge,0,O⟩=J (G nm)/\Al wr v):=λW v h P=>by
     have hz:=h.2.2.size;exact⟨(P.cell (p:=⟨gf,k*2,O⟩) (rW g3 hz) (λe=>e)).trans h.1,(P.cell (p:=⟨ge,0,O⟩) (rW g2 hz) (λe=>e)).trans h.2.1,h.2.2.trans P⟩
    have m:wr.drew.cell? ⟨gf,k*2,O⟩=J (G z)/\wr.drew.cell? ⟨ge,0,O⟩=J (G nm)/\Al wr wr.drew:=⟨c1,c0,(Ag.refl _ wr).drew⟩;clear c1 c0;go_wp2_with fail;refine Ai (S:=λW=>W.cell? ⟨gf,k*2,O⟩=J (G z)/\W.cell? ⟨ge,0,O⟩=J (G nm)/\Al wr W) (L:=8) Ab ?_;refine tk 0 9 (K (J ⟨gf,0,O⟩) fs.length M) 45 m ?_;refine tk 1 9 (I Q (k:Z)) 46 m ?_;refine tk 2 9 (δ (J ⟨gf,k*2,O⟩)) 47 m ?_;refine tk 3 9 (δ (J ⟨gf,k*2,O⟩)) 48 m ?_;refine tk 4 9 (G z) 49 m ?_;refine tk 5 9 (δ (J ⟨ge,0,O⟩)) 50 m ?_;refine tk 6 9 (G nm) 51 m ?_;refine Ah (i:=7) Ab ?_;refine ri rfl (λK' hK=> ?_);go_simp;refine(HC _).mono ?_;rintro r w5 ⟨rfl,e9⟩;have b7:=d4 _ _ m e9;refine hK _ _ ⟨λ_=>b7, ?_⟩;clear hK;refine Ah (i:=8) Ab ?_;refine ri rfl (λK' hK=> ?_);go_simp;refine hK _ _ ⟨λh=>κ rfl h, ?_⟩;clear hK;refine Am Ab ?_;have d2:=Af (HO.trans b7.2.2);have f8:χ (Al w w5):=o.nf.2.2.trans (uh d2);clear d4 m b7 e9 HC;cases cl with
    |true=>
     have ha:=Af (HFT2 5 w5 (a7 rfl) Ac);clear HFT2 HTK2 a7 a5;go_wp2_with fail;go_ret3;exact⟨f8,ha⟩
    |false=>
     have f6:=Af (a5 rfl);clear a5 a7;go_wp2;go_roundw
     .exact ⟨k+1,Aa,by go_num,f6,d2⟩
     exact Ae
   have e6:¬(k:Z)<(fs.length:Z):=Aa;have d1:χ (fs.any (λf=>JC f.1 nm)=ι):=by
    unfold χ;rw[tn];intro f hf;obtain⟨j,hj,rfl⟩:=sH hf;rw[HB j hj Aa];decide
   have B:χ (df=if(Γ (nm≠Ez)&&Γ (AO nm=Ez)) then 4 else if Bu nm<dt.size then 1 else if 60<fs.length+1 then 6 else if 16000<all+dt.size then 1 else 0):=by
    unfold χ;rw[uh V,uh d1];rfl
   obtain⟨lg,hlg⟩: ∃lg,Γ (Bu nm<dt.size)=lg:=⟨_,rfl⟩;have q:=Af (λW=>MT nm dt.size W);rw[hlg] at q;have d0:=Af (λW=>fB nm Aa W);have f1:((AO nm).toList==[103,111,46,109,111,100])=Γ (AO nm=Ez):=EF _ _;have f2:(nm.toList==[103,111,46,109,111,100])=Γ (nm=Ez):=EF _ _;obtain⟨-,c0, -,c2⟩:=uh a1;have c8:χ (∀v,Ag (λk=>(Value.slice e1 fs.length M).ownBlock=J k) (wr.alloc (γ #[G nm,G dt] 50)) v ->Rh v ge nm ln dt):=λv P=>(a1.old ((Ag.refl _ wr).alloc _)).kept P (λe=>c3 ge e rfl)
   have c6:χ (∀v v',Nx w v v' (fs++[(nm,dt)])->Ag (λk=>(Value.slice e1 fs.length M).ownBlock=J k) (wr.alloc (γ #[G nm,G dt] 50)) v ->Ye w (fs++[(nm,dt)]) lf (i+1) v' u6 v):=λv v' hn P=>(X.old ((Ag.refl _ wr).alloc _)).take hn P
   have a4:(fs++[(nm,dt)]).length=fs.length+1:=Ad;clear HB V d1 HO a0 o;go_wp2_with (at_builtin;refine BQ rfl (.tmp 54) (.tmp 60) rfl _ _ fs [(nm,dt)] rfl rfl (X.nf.alloc _) (.inr ⟨⟨wr.heap.size,0,O⟩,1,rfl,AB wr [G nm,G dt] 50⟩) (by simp;omega) ?_;intro v5 w5 b3 b6;obtain⟨i2,h6,f4⟩:=b3.form;rw[a4] at f4;subst f4;have c5:=Af (c6 w5 _ b3 b6);have a6:=Af (c8 w5 b6);clear b3 b6 c0 c2;obtain⟨-,c0, -,c2⟩:=uh a6);clear a4 c6 c8 a1 X;refine(q _).mono ?_;rintro r wt ⟨rfl,rfl⟩;clear q;go_wp2_with fail;refine(d0 _).mono ?_;rintro r w6 ⟨rfl,n⟩;have HD6:=Af (c5.old n);have c7:=Af (a6.old n);have HO6:=Af HD6.nf.2.2;clear n d0 c5 a6 c0 c2;obtain⟨-,c0, -,c2⟩:=uh c7;clear c7;generalize AO nm=lw at*;by_cases t:lw=Ez
   .rw[qZ t] at f1;by_cases F:nm=Ez
    .rw[qZ F] at f2;have hd:df=if Bu nm<dt.size then 1 else if 60<fs.length+1 then 6 else if 16000<all+dt.size then 1 else 0:=by
      rw[uh B,qX (show ¬nm≠Ez from λh=>h F)];rfl
     clear B t F;exact zr
    rw[qX F] at f2;have hd:df=4:=(by rw[uh B,qZ (show nm≠Ez from F),qZ t];rfl);have ha:=Af (HFT2 4 w6 hd Ac);clear HFT2 HTK2 hd B t F hlg;go_wp2_with fail;go_ret3;exact⟨HO6,ha⟩
   rw[qX t] at f1;have hd:df=if Bu nm<dt.size then 1 else if 60<fs.length+1 then 6 else if 16000<all+dt.size then 1 else 0:=by
    rw[uh B,qX t,Bool.and_false];rfl
   clear B t f2;exact zr
  have a3:=Af (C f5);have i7:y<=5:=d9;clear a9 a8 C V;have h9:((y:Z) !=0)=true:=by rw[rS];omega
  have i1:¬(y:Z)=0:=Aa;obtain⟨_,h1,h2,h3⟩:=uh a0;obtain⟨ao,cp,g7⟩: ∃ao cp,u6=K ao lf.length cp:=by
   obtain⟨_,⟨rfl,hz⟩|⟨b,c,g0,rfl,_⟩⟩:=o.lfa
   .exact Hl
   exact⟨_,_,rfl⟩
  subst g7;have A:=Af (o.old ((Ag.refl _ R).alloc (γ #[G nm,I Q (y:Z)] 48)));have f9:=Af A.lfa;have f7:=Af (AB R [G nm,I Q (y:Z)] 48);have d7:χ ((R.alloc (γ #[G nm,I Q (y:Z)] 48)).heap.size=R.heap.size+1):=by unfold χ;rw[rr]
  have C:=Af (λw' g cap h1 h2 h3=>a3 (K (J ⟨g,0,O⟩) (lf.length+1) cap) w' (A.leave (w' :=w') (nm:=nm) (y:=y) (g:=g) (cap:=cap) h1 h2 h3));rw[uh d7] at C;obtain⟨i0,g4,g9,h4,h5⟩:=rN SF;clear o a0 a3 A c3;go_wp2_with (at_builtin;refine wpList_append_lies _ rfl (.tmp 32) (.tmp 37) 42 rfl 0 48 i0 (.agg #[G ⟨#[]⟩,I Q 0]) 2 24 underlying42 g4 g9 h4 h5 rfl Aa (K ao lf.length cp) lf.length (Ce lf) rfl (uh f9) ⟨R.heap.size,0,O⟩ 1 1 [G nm,I Q (y:Z)] rfl rfl (uh f7) (by intro u hu;simp at hu;rcases hu with rfl|rfl<;>rfl) Aa (by unfold maxLen;omega) Aa Aa (R.heap.size+1) (uh d7) ?_;intro gb cap2 w6 n e4 e7 e8;have HX:=Af (C w6 gb cap2 n e4 e7);clear n e4 e7 e8);go_roundw
  .exact ⟨i+1,Aa,by go_num,HX⟩
  exact Ae
 have e5:¬(i:Z)<(T.length:Z):=Aa;have b1:i=T.length:=Aa;have c4:χ (jW T):=by have:=uh D;rw[b1] at this;exact this
 have q:χ (Eg (Aw T) (T.take i)=Eg (Aw T) T):=by unfold χ;rw[b1,sr]
 have c9:=Af HG.dif;clear b1;have H6:=Af (Zs u5 (Eg (Aw T) (T.take i)).fs Aa (uh c9) wr d.nf.1);have a2:χ (∀w' v' l,Al wr w' ->l.Perm (Eg (Aw T) (T.take i)).fs->NQ l->Au w' v' l->(∀b,v'.ownBlock=J b->wr.heap.size<=b)->Al w w' /\nD T w w' (ε (η #[v',u6,I Q 0]))):=λw' v' l P hp g6 hf hb=>by
  refine⟨d.nf.2.2.trans P,.inr ⟨c4,v',u6,l,rfl, ?_,g6,hf, ?_,λb e=>rz d.nf.2.2.size (hb b e),d.lfb⟩⟩
  .rw[<-uh q];exact hp
  rw[<-uh q];exact d.lfa.kept P (λ_ _ x=>x)
 clear D d HG d5 q c4 c9 HS HT HY;generalize(Eg (Aw T) (T.take i))=s at*;go_wp2_with fail;refine H6.mono ?_;rintro r w6 ⟨v6,l6,rfl,n,f0,f3,e3,e2⟩;have HX:=Af (a2 w6 v6 l6 n f0 f3 e3 e2);clear a2 n f0 f3 e3 e2 H6;go_wp2_with fail;go_ret3;exact HX
def Kc(w:U)(v:β)(T:E Bw):Prop:=(v=K O 0 0/\T=[])\/ ∃a cap,v=K (J a) T.length cap/\Dc w a T
def Kc.old{w w' :U}{v:β}{T:E Bw}(h:Kc w v T)(b:Al w w'):Kc w' v T:=by
 rcases h with h|⟨a,cap,e,h⟩
 .exact .inl h
 exact .inr ⟨a,cap,e,h.old b⟩
def Oj(T:E Bw)(w w' :U)(r:Ending):Prop:=(T.length<=200/\nD T w w' r)\/(200<T.length/\r=ε (η #[Dr,Dr,I Q 6]))
def SP(T:E Bw): ∀n,n<=T.length->Pt T n\/ ∃m,m<n/\Pt T m/\BM (Aw T) (T.getD m AA)=0/\Dp (Eg (Aw T) (T.take m)) (T.getD m AA)≠0
 |0,_=> .inl (λj d=>Aa)
 |n+1,hn=>by
  rcases SP T n Aa with h|⟨m,f,c⟩
  .rcases yx (BM (Aw T) (T.getD n AA)=0->Dp (Eg (Aw T) (T.take n)) (T.getD n AA)=0) with h3|h3
   .refine .inl (λj d b=> ?_);by_cases e:j=n
    .subst e;exact h3 b
    exact h j Aa b
   have a:=Classical.not_imp.1 h3;exact .inr ⟨n,Aa,h,a.1,a.2⟩
  exact .inr ⟨m,Aa,c⟩
def Zt(w w' :U):nD [] w w' (ε (η #[Dr,Dr,I Q 0])):=
 .inr ⟨λi a=>(by cases a),Dr,Dr,[],rfl,yG _,tH,rF _ _ _ _,rF _ _ _ _,λb e=>(by cases e),λb e=>(by cases e)⟩
def Yg(a cap:N)(T:E Bw)(d: ∀e∈T,e.nm.size<=2000000)(w:U)(c:Cb w)(f:EJ w a T)(b:a<w.heap.size):
 μ ψ 25 #[K (J ⟨a,0,O⟩) T.length cap] w λr w' =>Al w w' /\Oj T w w' r:=by
 by_cases hT:T.length<=200
 .rcases SP T T.length (rj _) with h|⟨m,h1,h2,h3,h4⟩
  .have hok:jW T:=h;refine(jX a cap T hT d hok (Pu hok).dif w c f b).mono ?_;exact aac
  refine(jY a cap T hT d m _ h1 h2 h3 rfl h4 w c f b).mono ?_;exact aao
 refine(XR a cap T.length Aa w).mono ?_;exact abs
def ky(w:U):μ ψ 25 #[K O 0 0] w λr w' =>Al w w' /\Oj [] w w' r:=by
 refine(bE w).mono ?_;exact aax
def kz(ao:Option Addr)(n cap:N)(b:200<n)(w:U):μ ψ 114 #[K ao n cap] w λr w' =>r=ε (η #[Dr,Dr,I Q 6])/\w' =w:=by
 have a:(200:Z)<(n:Z):=Aa;exact Wc
def nE(w:U):μ ψ 114 #[K O 0 0] w λr w' =>Al w w' /\Oj [] w w' r:=by
 have j:=Af (Zs Dr [] Ad tH w (rF _ _ _ _));have k:χ (∀(w' :U) (v' :β) (l:E Fl),Al w w' ->l.Perm []->NQ l->Au w' v' l->(∀b,v'.ownBlock=J b->w.heap.size<=b)->Al w w' /\Oj [] w w' (ε (η #[v',Dr,I Q 0]))):=λw' v' l q hp s o n=>
  ⟨q,.inl ⟨sl _,.inr ⟨λi p=>(by cases p),v',Dr,l,rfl,hp,s,o,rF _ _ _ _,n,λb e=>(by cases e)⟩⟩⟩
 go_in;go_wp2;go_loopw [5,6,7,8,9,10,11,12,13] (λf l _ x _ _ _ _ _ wr=>f=Dr/\l=Dr/\x=I Q 0/\wr=w) (λ_ _ _ _ _ _ _ _ _ _=>0)
 .exact ⟨rfl,rfl,rfl,rfl⟩
 obtain⟨rfl,rfl,rfl,rfl⟩:=hrel;go_wp2_with fail;refine j.mono ?_;rintro r v ⟨u,t,rfl,d,g,h,c,a⟩;have m:=Af (k v u t d g h c a);clear k d g h c a j;go_wp2_with fail;go_ret3;exact m
def MZ(v:β)(T:E Bw)(f: ∀e∈T,e.nm.size<=2000000/\e.dt.size<=2000000)(w:U)(g:Kc w v T):μ ψ 114 #[v] w λr w' =>Al w w' /\Oj T w w' r:=by
 rcases g with⟨rfl,rfl⟩|⟨a,cap,rfl,h⟩
 .exact nE w
 by_cases b:T.length<=200
 .refine (Yf a cap T b f w h).mono ?_;rintro r w' ⟨c,d⟩;exact⟨c,.inl ⟨b,d⟩⟩
 refine(kz (J a) T.length cap Aa w).mono ?_;rintro r w' ⟨e,rfl⟩;exact⟨Ag.refl _ _,.inr ⟨Aa,e⟩⟩
def Oj.same{T:E Bw}{w1 a w2 b:U}{t u:Ending}(B:Oj T w1 a t)(n:Oj T w2 b u):
 ∃(k:N) (fs:E Fl) (lf:E Lf) (d c m l:β),t=ε (η #[d,c,I Q (k:Z)])/\u=ε (η #[m,l,I Q (k:Z)])/\Au a d fs/\Au b m fs/\Bv a c lf/\Bv b l lf/\fs.length<=60/\lf.length<=200/\(∀g,d.ownBlock=J g->w1.heap.size<=g)/\∀g,c.ownBlock=J g->w1.heap.size<=g:=by
 have i: ∀(k:N),t=ε (η #[Dr,Dr,I Q (k:Z)])->u=ε (η #[Dr,Dr,I Q (k:Z)])->_:=λk j f=>(⟨k,[],[],Dr,Dr,Dr,Dr,j,f,rF _ _ _ _,rF _ _ _ _,rF _ _ _ _,rF _ _ _ _,sl _,sl _,λg e=>(by cases e),λg e=>(by cases e)⟩: ∃(k:N) (fs:E Fl) (lf:E Lf) (d c m l:β),t=ε (η #[d,c,I Q (k:Z)])/\u=ε (η #[m,l,I Q (k:Z)])/\Au a d fs/\Au b m fs/\Bv a c lf/\Bv b l lf/\fs.length<=60/\lf.length<=200/\(∀g,d.ownBlock=J g->w1.heap.size<=g)/\∀g,c.ownBlock=J g->w1.heap.size<=g)
 rcases B with⟨P,B⟩|⟨P,j⟩
 .rcases n with⟨-,n⟩|⟨C, -⟩
  .rcases B with⟨s,R,a1,X,c1,x,M,j⟩|⟨p,d,c,V,j,W,s1,z,D,w,v⟩
   .rcases n with⟨o,S,H,L,c2,r,y,f⟩|⟨q, -⟩
    .have hm:s=o:=by
      rcases vz s o with h|h|h
      .exact κ (x.symm.trans (L s h c1)) M
      .exact h
      exact κ (r.symm.trans (X o h c2)) y
     subst hm;have hk:R=S:=x.symm.trans r;subst hk;exact i R j f
    exact κ (x.symm.trans (q s a1 c1)) M
   rcases n with⟨o,S,H,L,c2,r,y,f⟩|⟨q,m,l,l2,f,p2,s2,A,F,a3,a0⟩
   .exact κ (r.symm.trans (p o H c2)) y
   have hl:V=l2:=MR (W.trans p2.symm) s1 s2;subst hl;refine⟨0,V,_,d,c,m,l,j,f,z,A,D,F, ?_, ?_,w,v⟩
   .rw[W.length_eq];exact(Pu p).few
   rw[nA,sJ];exact rz (vA _ _) P
  omega
 rcases n with⟨C, -⟩|⟨-,f⟩
 .omega
 exact i 6 j f
def SQ(s:Y)(a:s.size<=2000000)(w:U):μ ψ 208 #[G s] w λr w' =>r=ε (ζ (Ch BR s))/\w' =w:=by
 have HF:=Af ka;have HB:=Af (λi (hi:i<s.size) h=>IR (p:=BR) (s:=s) hi h);have HG:=Af (Gz (p:=BR) (s:=s));go_in;go_wp2_with fail;go_loop [3,4] (λx _=> ∃i:N,i<=s.size/\x=I Q i/\χ (∀j,j<i->BR (As s j)=θ)) (λx _=>s.size- (intOf x).toNat)
 .exact WU
 exact zo
def UN(s:Y)(a:s.size<=2000000)(w:U):μ ψ 207 #[G s] w λr w' =>r=ε (ζ (DK s))/\w' =w:=by
 have H1:=Af (SQ s a w);exact abB
def nF(s:Y)(R:s.size<=2000000)(w:U):μ ψ 205 #[G s] w λr w' =>r=ε (ζ (KE s))/\w' =w:=by
 have q:=Af pA;have o:=Af ka;have F:=Af (λi (M:i<s.size) h=>IR (p:=Fc) (s:=s) M h);have H:=Af (Gz (p:=Fc) (s:=s));have m:χ (KE s=(Ch Fc s&&Γ (s.size<=20))):=rfl;generalize KE s=ans at*;go_in;go_wp2_with fail;go_loop [3,4] (λx _=> ∃i:N,i<=s.size/\x=I Q i/\χ (∀j,j<i->Fc (As s j)=θ)) (λx _=>s.size- (intOf x).toNat)
 .exact WU
 obtain⟨i,M,rfl,HI⟩:=hrel;by_cases B:i<s.size
 .have C:(i:Z)<(s.size:Z):=Aa;have P:=AC (s:=s) (k:=i) B;have A:=Bf s i;have HL:=Af (q (As s i) w A);have HDg:=Af (o (As s i) w A);have f:χ (Fc (As s i)=θ-> ∀j,j<i+1->Fc (As s j)=θ):=λhp j hj=>Hk
  have b:χ (Fc (As s i)=(((LR (As s i)||BR (As s i))||decide (As s i=46))||decide (As s i=45))):=rfl;have d:=Af (F i B);clear F H q o HI;cases hl:LR (As s i) with
  |true=>
   have HN:=Af (f (by rw[uh b,hl];rfl));rw[hl] at HL;clear f b d hl;generalize As s i=c at*;go_wp2_with fail;refine HL.mono ?_;rintro e w1 ⟨rfl,rfl⟩;exact zK
  |false=>
   rw[hl] at HL;cases hd:BR (As s i) with
   |true=>
    have HN:=Af (f (by rw[uh b,hl,hd];rfl));rw[hd] at HDg;clear f b d hl hd;exact abJ
   |false=>
    rw[hd] at HDg;by_cases g:As s i=46
    .have HN:=Af (f (by rw[uh b,qZ g];simp));have z:((As s i:Z) !=46)=false:=(by rw[g];rfl);clear f b d hl hd g;exact abJ
    have z:((As s i:Z) !=46)=true:=(by rw[rS];omega);by_cases l:As s i=45
    .have HN:=Af (f (by rw[uh b,qZ l];simp));have y:((As s i:Z) !=45)=false:=(by rw[l];rfl);clear f b d hl hd g l;exact abJ
    have y:((As s i:Z) !=45)=true:=(by rw[rS];omega);have a:ans=false:=by
     rw[uh m,d (by rw[uh b,hl,hd,qX g,qX l];rfl)];rfl
    subst a;clear f b d hl hd g l;generalize As s i=c at*;go_wp2_with fail;refine HL.mono ?_;rintro e w1 ⟨rfl,rfl⟩;go_wp2_with fail;refine HDg.mono ?_;exact abH
 have C:¬(i:Z)<(s.size:Z):=Aa;have L:=Af (H (λj hj=>HI j Aa));have n:=CY s;rw[uh L] at m;clear F H q o HI L;by_cases h0:s.size=0
 .have a:ans=false:=by rw[uh m,qX (show ¬0<s.size by omega)];rfl
  have u:Γ (0<s.size)=false:=qX Aa;have D:s.toList.isEmpty=true:=by rw[n,u];rfl
  subst a;clear n u m;exact yU
 have D:s.toList.isEmpty=false:=by rw[n,qZ (show 0<s.size by omega)];rfl
 rw[qZ (show 0<s.size by omega),tj] at m;clear n;by_cases t:s.size<=20
 .have v:(s.size:Z)<=20:=Aa;have a:ans=true:=by rw[uh m];exact qZ t
  subst a;clear m;exact yU
 have v:Γ ((s.size:Z)<=20)=false:=qX Aa;have a:ans=false:=by rw[uh m];exact qX t
 subst a;clear m t;exact yU
def Pv(c:N):Bool:=(FZ c||BR c)||(Γ (c=46)||decide (c=45)||decide (c=95)||decide (c=126))
def Mb(e:Y):Bool:= !Γ (e.size=0)&& !Γ (As e 0=46)&& !Γ (As e (e.size- 1)=46)&&(List.range e.size).all (λi=>Pv (As e i))
def Pw(s:Y):Bool:=Γ (s.size<=80)&&((Ay s 47).all Mb&&KF ((Ay s 47).getD 0 ⟨#[]⟩) 46)
def fW:(List.range 256).all (λc=>Pv c==Lj c)=true:=Ab
def kA{c:N}(h:c<256):Pv c=Lj c:=by
 have:=rV.1 fW c (rJ.2 h);simpa using this
def Ok{s:Y}(h:s.size≠0)(u:UInt8):Lib.hasPrefix s.data.toList [u]=Γ (As s 0=u.toNat):=by
 have a:=DQ (s:=s) (j:=0) Aa;have f:0<s.data.toList.length:=by rw[<-Lib.size_eq];omega
 have g:b8 u.toNat=u:=vQ.1 (AL u.toNat_lt)
 match hd:s.data.toList,f with
 |x::r,_=>
  rw[hd] at a;have b:x=b8 (As s 0):=by have:=a.1;simpa using this
  by_cases e:As s 0=u.toNat
  .rw[qZ e,b,e,g];simp[Lib.hasPrefix]
  rw[qX e];have:u≠x:=λc=>e (by rw[<-a.2,<-b,<-c])
  rw[uT];intro d;exact this (List.cons_prefix_cons.1 (tX.1 d)).1
def kB(e:Y):Mb e=MP e:=by
 have g:(List.range e.size).all (λi=>Pv (As e i))=(List.range e.size).all (λi=>Lj (As e i)):=by
  congr 1;funext i;exact kA (Bf e i)
 rw[Mb,MP,Ch,g];by_cases h:e.size=0
 .rw[qZ h,qX (show ¬0<e.size by omega)];simp
 have b:Lib.hasPrefix e.data.toList (⟨#[46]⟩:Y).data.toList=Γ (As e 0=46):=Ok h 46;have f:Lib.hasSuffix e.data.toList (⟨#[46]⟩:Y).data.toList=Γ (As e (e.size- 1)=46):=SK h 46;rw[b,f,qX h,qZ (show 0<e.size by omega)];generalize(List.range e.size).all (λi=>Lj (As e i))=a;generalize Γ (As e (e.size- 1)=46)=c;generalize Γ (As e 0=46)=d;cases a<;>cases c<;>cases d<;>rfl
def nG(s:Y):KF s 46=Γ (0<=Lib.indexByte s.data.toList 46):=by
 have a:Lib.indexB s ⟨#[46]⟩=Lib.indexByte s.data.toList 46:=Lib.index_one _ _;rcases GD s 46 with⟨h,b⟩|⟨i,h,e,d,b⟩
 .rw[SH (c:=46) b,<-a,h];rfl
 rw[Pn (c:=46) e d,<-a,h];exact(qZ Aa).symm
def kC(s:Y):Pw s=Lk s:=by
 rw[Pw,Lk,MV s.size s (rj _),nG];have:Mb=MP:=funext kB;rw[this]
def UO(s:Y)(w:U):μ ψ 204 #[G s] w λr w' =>r=ε (ζ (Pw s))/\Al w w' :=by
 by_cases P:s.size<=80
 .have R:¬(80:Z)<(s.size:Z):=Aa;have HD:χ (Pw s=((Ay s 47).all Mb&&KF ((Ay s 47).getD 0 ⟨#[]⟩) 46)):=by unfold χ;rw[Pw,qZ P];rfl
  have H1:=Af (IB s 47 Aa w);have F:χ (∀x∈Ay s 47,x.size<=80):=λx hx=>by have:=GU hx;omega
  have b1:=Db s 47;have D:=Fz s 47;generalize Pw s=ans at*;generalize Ay s 47=L at*;go_in;go_wp2_with fail;refine H1.mono ?_;rintro e w1 ⟨v,rfl,a2,ho⟩;have HS:=Af a2;have HO:=Af ho;obtain⟨ao,cap,hv, -, -⟩:=a2;subst hv;clear ho H1;go_wp2_with fail;go_loop [4,5,6,7] (λx _ _ _=> ∃i:N,i<=L.length/\x=I Q i/\χ (∀j (h:j<L.length),j<i->Mb L[j]=θ)) (λx _ _ _=>L.length- (intOf x).toNat)
  .exact Wk
  obtain⟨i,hi,rfl,HT⟩:=hrel;by_cases C:i<L.length
  .have X:(i:Z)<(L.length:Z):=Aa;obtain⟨g,cp,hv,hc, -⟩:=HS.cell i C;injection hv with hv1 hv2 hv3;subst hv1 hv3;have a6:=F _ (ro C);have m:χ (Mb L[i]=ι->ans=ι):=λh=>by
    have:L.all Mb=false:=(by rw[tG];exact⟨L[i],ro C,by rw[h];decide⟩);rw[uh HD,this];rfl
   have l:χ (Mb L[i]=θ-> ∀j (h:j<L.length),j<i+1->Mb L[j]=θ):=λh j hj b0=>wX
   have y:χ (Mb L[i]=(!Γ (L[i].size=0)&& !Γ (As L[i] 0=46)&& !Γ (As L[i] (L[i].size- 1)=46)&&(List.range L[i].size).all (λj=>Pv (As L[i] j)))):=rfl;generalize Mb L[i]=mz at*;generalize L[i]=z at*;have f0:z.toList.isEmpty= !Γ (0<z.size):=CY z;by_cases a3:z.size=0
   .have f1:z.toList.isEmpty=true:=(by rw[f0,qX (show ¬0<z.size by omega)];rfl);have hans:ans=false:=m (by rw[uh y,qZ a3];rfl);subst hans;clear f0 y m l;exact zD
   have f1:z.toList.isEmpty=false:=by rw[f0,qZ (show 0<z.size by omega)];rfl
   have a5:0<z.size:=Aa;have a8:(0:Z)<(z.size:Z):=Aa;have T:=AC (s:=z) (k:=0) a5;clear f0;by_cases a:As z 0=46
   .have hans:ans=false:=m (by rw[uh y,qZ a];simp);subst hans;rw[a] at T;clear y m l a;exact zD
   have q:((As z 0:Z)==46)=false:=by rw[re];omega
   have a4:z.size- 1<z.size:=Aa;have a7:(z.size:Z)- 1=((z.size- 1:N):Z):=Aa;have V:=AC (s:=z) (k:=z.size- 1) a4;by_cases t:As z (z.size- 1)=46
   .have hans:ans=false:=m (by rw[uh y,qZ t];simp);subst hans;rw[t] at V;clear y m l a t;exact zD
   have M:((As z (z.size- 1):Z)==46)=false:=by rw[re];omega
   have u:χ (mz=(List.range z.size).all (λj=>Pv (As z j))):=by
    unfold χ;rw[uh y,qX a3,qX a,qX t];simp
   clear y a t;go_wp2_with fail;clear T V q M;go_loop [6,7] (λx _=> ∃k:N,k<=z.size/\x=I Q k/\χ (∀j,j<k->Pv (As z j)=θ)) (λx _=>z.size- (intOf x).toNat)
   .exact aaZ
   obtain⟨k,hk,rfl,HI⟩:=hrel;by_cases a0:k<z.size
   .have a1:(k:Z)<(z.size:Z):=Aa;have a9:=AC (s:=z) (k:=k) a0;have W:=Bf z k;have HSm:=Af (nB (As z k) w1 W);have HDg:=Af (ka (As z k) w1 W);have d:χ (Pv (As z k)=θ-> ∀j,j<k+1->Pv (As z j)=θ):=λhp j hj=>by
     by_cases e:j<k
     .exact HI j e
     have:j=k:=Aa;subst this;exact hp
    have b:χ (Pv (As z k)=((FZ (As z k)||BR (As z k))||(Γ (As z k=46)||decide (As z k=45)||decide (As z k=95)||decide (As z k=126)))):=rfl;have f:χ (Pv (As z k)=ι->ans=ι):=λh=>m (by
     rw[uh u,tG];exact⟨k,rJ.2 a0,by rw[h];decide⟩)
    clear HI m l u;cases hl:FZ (As z k) with
    |true=>
     have HN:=Af (d (by rw[uh b,hl];rfl));rw[hl] at HSm;clear d b f hl;generalize As z k=c at*;go_wp2_with fail;refine HSm.mono ?_;rintro e w2 ⟨rfl,rfl⟩;go_wp2_with fail;go_round
     .exact ⟨k+1,Aa,by go_num,HN⟩
     exact Ae
    |false=>
     rw[hl] at HSm;cases hd:BR (As z k) with
     |true=>
      have HN:=Af (d (by rw[uh b,hl,hd];rfl));rw[hd] at HDg;clear d b f hl hd;exact zv
     |false=>
      rw[hd] at HDg;by_cases a:As z k=46
      .have HN:=Af (d (by rw[uh b,qZ a];simp));have q:((As z k:Z) !=46)=false:=(by rw[a];rfl);clear d b f hl hd a;exact zv
      have q:((As z k:Z) !=46)=true:=(by rw[rS];omega);by_cases o:As z k=45
      .have HN:=Af (d (by rw[uh b,qZ o];simp));have H:((As z k:Z) !=45)=false:=(by rw[o];rfl);clear d b f hl hd a o;exact zv
      have H:((As z k:Z) !=45)=true:=(by rw[rS];omega);by_cases p:As z k=95
      .have HN:=Af (d (by rw[uh b,qZ p];simp));have S:((As z k:Z) !=95)=false:=(by rw[p];rfl);clear d b f hl hd a o p;exact zv
      have S:((As z k:Z) !=95)=true:=(by rw[rS];omega);by_cases n:As z k=126
      .have HN:=Af (d (by rw[uh b,qZ n];simp));have B:((As z k:Z) !=126)=false:=(by rw[n];rfl);clear d b f hl hd a o p n;exact zv
      have B:((As z k:Z) !=126)=true:=(by rw[rS];omega);have hans:ans=false:=f (by rw[uh b,hl,hd,qX a,qX o,qX p,qX n];rfl);subst hans;clear d b f hl hd a o p n;generalize As z k=c at*;go_wp2_with fail;refine HSm.mono ?_;rintro e w2 ⟨rfl,rfl⟩;go_wp2_with fail;refine HDg.mono ?_;rintro e w3 ⟨rfl,rfl⟩;exact zD
   have a1:¬(k:Z)<(z.size:Z):=Aa;have HT2:=Af (l (by rw[uh u,rV];intro j hj;exact HI j (by have:=rJ.1 hj;omega)));clear m l u HI;exact Hu
  have X:¬(i:Z)<(L.length:Z):=Aa;have b2:(0:Z)<(L.length:Z):=Aa;obtain⟨g,cp,hv,hc, -⟩:=HS.cell 0 D;injection hv with hv1 hv2 hv3;subst hv1 hv3;have A:L.all Mb=true:=by
   rw[rV];exact Ho
  have hz:L.getD 0 ⟨#[]⟩=L[0]:=by rw[qT,qY D];rfl
  have hans:KF L[0] 46=ans:=by rw[uh HD,A,hz];rfl
  have H3:=Af (jZ L[0] 46 (by have:=F _ (ro D);omega) w1);rw[hans] at H3;clear A hz hans HD;generalize L[0]=z at*;go_wp2_with fail;refine H3.mono ?_;rintro e w' ⟨rfl,rfl⟩;exact zD
 have R:(80:Z)<(s.size:Z):=Aa;have hans:Pw s=false:=by rw[Pw,qX P];rfl
 exact abY
def UP: ∀(n:N) (s:Y),s.size<=n->Ay s 46=Cw s:=by
 intro n;induction n with
 |zero=>
  intro s g;rw[Dv (λj l=>Aa),Cw];rcases Lib.indexB_cases s ⟨#[46]⟩ with h|⟨i,h,k⟩
  .rw[Lib.splitB_miss _ _ _ _ h]
  have:(⟨#[46]⟩:Y).size=1:=rfl;omega
 |succ n ih=>
  intro s g;rcases GD s 46 with⟨h,f⟩|⟨i,h,e,b,d⟩
  .rw[Cw,Lib.splitB_miss _ _ _ _ h];exact Dv f
  have a:As s i=46:=b;rw[Js (c:=46) e a d,Cw,Lib.countB_hit s ⟨#[46]⟩ i Ac h,uL 1 (Lib.countB _ _),Lib.splitB_hit _ _ _ _ i h,ih _ (by rw[rv];omega)]
  rfl
def Mc{v:Y}(h:Lib.hasPrefix v.data.toList sV.data.toList=θ):Dg v=v.extract 1 v.size:=by
 rw[Dg,Lib.trimPrefix,rd h];exact Ka v 1
def Rt(v:Y):(Yb v=ι/\DA v=Dg v/\∀j,j<(Dg v).size->As (Dg v) j≠45)\/ ∃i,i<(Dg v).size/\As (Dg v) i=45/\(∀j,j<i->As (Dg v) j≠45)/\Yb v=θ/\DA v=(Dg v).extract 0 i/\Kb v=(Dg v).extract (i+1) (Dg v).size:=by
 rcases GD (Dg v) 45 with⟨h,b⟩|⟨i,h,d,c,b⟩
 .have a:=Lib.cutB_miss (Dg v) IX h;exact .inl ⟨a.2.2,a.1,b⟩
 have a:=Lib.cutB_hit (Dg v) IX i h;exact .inr ⟨i,d,c,b,a.2.2,a.1,a.2.1⟩
def kD{s:Y}{k:N}(h:k<s.size):((s.data[k]!).toNat:Z)=(As s k:Z):=by
 have e:As s k=s[k].toNat:=by rw[As,uO h]
 have a:k<s.data.size:=h;rw[e,vY s.data k a]
 rfl
def UQ(s:Y): ∀n,n<=s.size->((FQ s 47 n).2:Z)=Lib.lastIdx s 47 n+1
 |0,_=>rfl
 |n+1,hn=>by
  have c:=UQ s n Aa;have b:=kD (s:=s) (k:=n) Aa;by_cases a:As s n=47
  .rw[LT s 47 n a,Lib.lastIdx_hit s 47 n (by rw[b,a];rfl)];simp only;omega
  rw[JW s 47 n a,Lib.lastIdx_miss s 47 n (by rw[b];omega)];exact c
def Na(s:Y):(Ay s 47).getD ((Ay s 47).length- 1) ⟨#[]⟩=BL s:=by
 have h:=UQ s s.size (rj _);have a:(Ay s 47).length=(FQ s 47 s.size).1.length+1:=by simp[Ay]
 rw[a,vs,qT,Ay,rE (rj _),ut];show s.extract (FQ s 47 s.size).2 s.size=BL s;rw[BL,Lib.lastIndexByte,<-h,rO]
def fX{s:Y}(h:Pw s=θ):0<(BL s).size:=by
 rw[Pw,rX,rX] at h;have a:=rV.1 h.2.1;have hp:=Fz s 47;have b:=a ((Ay s 47)[(Ay s 47).length- 1]'Aa) (ro _);have e:=Na s;rw[qT,qY Aa] at e;have c:(Ay s 47)[(Ay s 47).length- 1]'Aa=BL s:=e;rw[c,Mb] at b;rcases te (BL s).size with h0|h0
 .rw[qZ h0] at b;cases b
 exact h0
