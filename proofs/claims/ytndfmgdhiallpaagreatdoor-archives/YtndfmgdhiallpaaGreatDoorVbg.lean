import Derived.Test.YtndfmgdhiallpaaGreatDoorVbf
set_option linter.all false
open _root_ renaming Option.some->J,Option.none->O,Int->Z,Nat->N,Go.Value.int->I,Go.Value.string->G,Go.IntKind.i64->Q,ByteArray->Y,List->E,Go.World->U,Go.Value.slice->K,Go.Value->β,Go.Obj.cells->γ,Go.Value.pointer->δ
namespace Go.Proofs.YtndfmgdhiallpaaGreatDoor
open Go.RowKit Go.Maps Go.Proofs.Tryz
def gJ(c z a:N):(endL c z a).length=22:=by simp[endL,AF,leB,sL]
def gK{p s:Y}{its:E It}(h:EB p s=J its):Ev p (s.size+1) s []=J its/\An (BE p its)=s:=by
 unfold EB at h;split at h
 .cases h
 rename_i out ho;split at h
 .rename_i e;injection h with h;rw[<-h];exact⟨ho,e⟩
 cases h
def Yq(p:Y)(its:E It):BE p its=AM p its++(AW p its its.length++endL its.length (AW p its its.length).length (AM p its).length):=by rw[BE,rm]
def Nd(p:Y)(its:E It):(BE p its).length=(AM p its).length+(AW p its its.length).length+22:=by
 rw[BE,qU,qU,gJ]
def gM{p s:Y}{a:It}{b:Y}(h:GV p s=J (a,b))(f:s.size<=40000)(hp:p.size<=1000):KI p a/\b.size<=s.size:=by
 have g:a.way=0\/a.way=8:=by
  unfold GV at h;split at h
  .cases h
  split at h
  .cases h
  split at h
  .cases h
  split at h
  .cases h
  rename_i e;injection h with h;injection h with ha hb;rw[<-ha];show BI s 8 2=0\/BI s 8 2=8;omega
 obtain⟨⟨i,c,d,e,j⟩,k,_⟩:=Kf h f;exact⟨⟨g,c,d,Aa,Aa⟩,Aa⟩
def NB{p:Y}(hp:p.size<=1000): ∀(n:N) (rest:Y) (its a:E It),Ev p n rest its=J a->rest.size<=40000->(∀i∈its,KI p i)->Gc its->its.length<=60->(∀i∈a,KI p i)/\Gc a/\a.length<=60
 |0,rest,its,a,h,_,_,_,_=>by cases h
 |n+1,rest,its,a,h,hr,hk,hs,hl=>by
  unfold Ev at h;split at h
  .injection h with h;rw[<-h];exact⟨hk,hs,hl⟩
  split at h
  .cases h
  rename_i it b hit;split at h
  .cases h
  rename_i hbad;obtain⟨q,r⟩:=gM hit hr hp;have f:NT its it=false:=by simpa using hbad
  unfold NT at f;rw[xK] at f;obtain⟨j,c⟩:=f;have j:its.length≠60:=by simpa using j
  refine NB hp n b _ a h Aa ?_ ?_ (by rw[qU];show its.length+1<=60;omega)
  .intro i d;rcases rR.1 d with d|d
   .exact hk i d
   rw[rC] at d;rw[d];exact q
  refine sZ.2 ⟨hs,tS _ _, ?_⟩;intro x m y o;rw[rC] at o;subst o;have h0:0<its.length:=List.length_pos_of_mem m;rw[qZ h0,tj] at c;have g:(its.getD (its.length- 1) BG).name.data.toList<y.name.data.toList:=by simpa using c
  have d:its.length- 1<its.length:=Aa;rw[qT,qY d] at g;obtain⟨k,l,rfl⟩:=xI.1 m;by_cases e:k=its.length- 1
  .subst e;exact g
  exact uE ((ud.1 hs) k (its.length- 1) l d Aa) g
def CM(T:E Bw):E β:=T.flatMap λe=>e.v.toList
def Vf(T:E Bw):(CM T).length=T.length*3:=by
 induction T with
 |nil=>rfl
 |cons a r ih=>rw[CM,tc,qU,<-CM,ih,sB];simp;omega
def Vg(a b:E Bw):CM (a++b)=CM a++CM b:=by simp[CM]
def Vh(T:E Bw)(j:N)(b:j<T.length):(CM T)[j*3]? =J (G (T.getD j AA).nm)/\(CM T)[j*3+1]? =J (.bool (T.getD j AA).ln)/\(CM T)[j*3+2]? =J (G (T.getD j AA).dt):=by
 induction T generalizing j with
 |nil=>simp at b
 |cons a r ih=>
  rw[CM,tc,<-CM];cases j with
  |zero=>simp
  |succ j=>
   obtain⟨c,d,e⟩:=ih j (by simpa using b);rw[show(j+1)*3=j*3+3 by omega];refine⟨?_, ?_, ?_⟩
   .simpa using c
   .simpa using d
   simpa using e
def DB(w:U)(v:β)(T:E Bw):Prop:=w.ownsRow 0 39 3 v T.length (CM T)
def DB.kept{S:N->Prop}{w w' :U}{v:β}{T:E Bw}(h:DB w v T)(a:Ag S w w')(c: ∀b,v.ownBlock=J b->¬S b):DB w' v T:=Ax h a c
def DB.old{w w' :U}{v:β}{T:E Bw}(h:DB w v T)(a:Al w w'):DB w' v T:=h.kept a (λ_ _ x=>x)
def DB.slice{w:U}{v:β}{T:E Bw}(h:DB w v T)(n:0<T.length): ∃g cap,v=K (J ⟨g,0,O⟩) T.length cap/\EJ w g T:=by
 obtain⟨l,⟨rfl,o⟩|⟨g,cap,b,rfl,d,c,m⟩⟩:=h
 .omega
 refine⟨g,cap,rfl,λj k=> ?_⟩;have a:=ur (w:=w) ⟨l,.inr ⟨g,cap,b,rfl,d,c,m⟩⟩ (g:=g) rfl;obtain⟨e,f,i⟩:=Vh T j k;refine⟨(qW.1 c).1, ?_, ?_, ?_⟩
 .have:=a (j*3) _ e;rw[rH,rx] at this;exact this
 .have:=a (j*3+1) _ f;rw[rH,rx] at this;exact this
 have:=a (j*3+2) _ i;rw[rH,rx] at this;exact this
def nR:(prog.info? 39).map (λi=>(i.zero,i.size,i.bytes))=J (J (.agg #[G ⟨#[]⟩,.bool false,G ⟨#[]⟩]),3,40):=Ab
def Yr(w:World)(x:β)(U:E Bw):Prop:=
 ∃(ao:Option Addr) (c:N),x=K ao U.length c/\(ao=O->U=[])/\∀a,ao=J a-> ∀j u,(CM U)[j]? =J u->w.cell? (a.add j)=J u
def Vi(T:E Bw): ∀u∈CM T,u.oneCell' =true:=by
 intro u b;obtain⟨e,_,a⟩:=xC.1 b;simp at a;rcases a with rfl|rfl|rfl<;>rfl
def PM{w:World}{v:β}{T:E Bw}(h:DB w v T){x:β}{U:E Bw}(z:Yr w x U)(p:TypeId)(s:(T.length+U.length)*40<=140737488355328):
 ∃v' w',(Builtin.append_ #[40,40] p #[v,x]).run prog w=.ok v' w' /\DB w' v' (T++U)/\w.grownBy w' v.ownBlock/\(v'.ownBlock=v.ownBlock\/ ∀k,v'.ownBlock=J k->w.heap.size<=k):=by
 obtain⟨i,j,l,m,n⟩:=rN nR;obtain⟨ao,c,rfl,y,t⟩:=z;by_cases f:U=[]
 .subst f;refine⟨v,w, ?_,by rw[sI];exact h,⟨rfl,rfl,rfl,rj _,λ_ _ _=>rfl⟩,.inl rfl⟩;obtain⟨C,⟨rfl,F⟩|⟨g,cap,q,rfl,o,B,d,D⟩⟩:=h
  .cases ao<;>simp[Builtin.append_,ta underlying40,sizeOf,typeInfo,j,Builtin.lenOf,Builtin.firstCells,loadCells,loadCellsFrom]
  cases ao<;>simp[Builtin.append_,ta underlying40,sizeOf,typeInfo,j,Builtin.lenOf,Builtin.firstCells,d,storeCells,loadCells,loadCellsFrom]
 cases ao with
 |none=>exact absurd (y rfl) f
 |some a=>
  obtain⟨g,cap,w',o,d,r,b,A⟩:=run_append_lies (P:=prog) (w:=w) 40 p 0 39 i (.agg #[G ⟨#[]⟩,.bool false,G ⟨#[]⟩]) 3 40 underlying40 j l m n rfl Aa v T.length (CM T) h a U.length c (CM U) (Vf U) (t a rfl) (Vi U) (List.length_pos_iff.2 f) (by unfold maxLen;omega) s (sl _) w.heap.size rfl;refine⟨_,w',o, ?_,r, ?_⟩
  .show w'.ownsRow 0 39 3 _ (T++U).length (CM (T++U));rw[Vg,qU];exact d
  rcases b with b|b
  .exact .inl b.symm
  refine .inr λk u=> ?_
  have e:g=k:=rD (show J g=J k from u);omega
def Mh{w:U}{ops:Array Oper}{rest:E Oper}{o:Oper}{a:Act}{Q:Exit->Act->U->Prop}(d:o.guard=O)(s x:Operand)
 (q:o.op=.call {callee:=.builtin .append,args:= #[s,x],argTypes:= #[40,40]})
 (v i:β)(f g:E Bw)(r:a.eval s=v)(t:a.eval x=i)(h:DB w v f)(e:Yr w i g)(p:(f.length+g.length)*40<=140737488355328)
 (n: ∀v' w',DB w' v' (f++g)->w.grownBy w' v.ownBlock->(v'.ownBlock=v.ownBlock\/ ∀k,v'.ownBlock=J k->w.heap.size<=k)->wpList prog ops Q rest (a.put o.dst v') w'):
 wpList prog ops Q (o::rest) a w:=by
 refine vW d λu c => ?_
 obtain⟨v',w',b,j,l,m⟩:=PM h e o.type p;unfold Oper.wp;simp[execOp,q,resolve,invoke,builtin,r,t,b,Result.andThen];exact c _ _ (n v' w' j l m)
