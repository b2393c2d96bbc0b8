import Derived.Shelf.Vars
import Derived.ChangeMaps5
import Derived.JoinedCond
import Derived.Test.YtndfmgdhiallpaaGreatDoorVbi
set_option linter.all false
set_option maxRecDepth 100000
set_option maxHeartbeats 400000
open _root_ renaming Option.some->J,Option.none->O,Int->Z,Nat->N,Go.Value.int->I,Go.Value.string->G,Go.IntKind.i64->Q,ByteArray->Y,List->E,Go.World->U,Go.Value.slice->K,Go.Value->β,Go.Obj.cells->γ,Go.Value.pointer->δ,Go.TypeId->ν
namespace Go.Proofs.YtndfmgdhiallpaaGreatDoor
open Go.ChangeShapes Go.WideShapes Go.ChangeAt Go.RowKit Go.Proofs.Tryz
def lW{W:U}(h:W.ShapedOpen prog):Cb W:=
 cell_of_shapedOpen_int (zero:= #[I Q 0]) (t:=3) h (rQ Ab) Ab rfl Ab Ab underlying3
open Go.RowKit Go.Maps Go.Proofs.Tryz
open Go.ChangeShapes Go.WideShapes Go.ChangeAt Go.RowKit _root_.Go.Proofs.YtndfmgdhiallpaaGreatDoor.Rows Go.Proofs.Tryz
def gY{H:Type}(d:DataW H):1<=uptoBulk d:=by
 cases d with
 |lit l=>cases l<;>simp[uptoBulk]
 |_=>simp[uptoBulk]
def ET{H:Type}{d:DataW H}: ∀{l:E (DataW H)},d∈l->uptoBulk d<=uptoBulkAll l
 |x::r,h=>by
  rw[uptoBulkAll];rcases sW.1 h with rfl|h
  .omega
  have:=ET h;omega
def Mj{H:Type}: ∀(l:E (DataW H)),l.length<=uptoBulkAll l
 |[]=>by simp[uptoBulkAll]
 |x::r=>by
  have a:=Mj r;have b:=gY x;rw[uptoBulkAll,sB];omega
def qy:prog.cellsOf 39=3:=Ab
def pP:prog.cellsOf 4=1:=Ab
def nW{H:Type}{enc:ν×β->H}{W:U}{fuel:N}{a:E β}{d:DataW H}{p:E MemPlace}{sp:N->Bool}{o:Bool}(q:a.length=3)
 (h:DataW.trod enc prog W 0 sp o fuel 39 a=J (d,p)):
 ∃e:Bw,a=[G e.nm,.bool e.ln,G e.dt]/\e.nm.size<=uptoBulk d/\e.dt.size<=uptoBulk d:=by
 obtain⟨v,n,rfl,c,l,r,b⟩:=yj underlying39 h
 match a,q,v,r with
 |[v0,v1,v2],_,[y0,y1,y2],_=>
  have j:=b 0 _ rfl;have k:=b 1 _ rfl;have g2:=b 2 _ rfl;simp[na,pP] at j k g2;obtain⟨nm,f,t,_⟩:=uU underlying9 j;obtain⟨ln,g,w⟩:=DataW.trod_bool underlying4 k;obtain⟨dt,i,u,_⟩:=uU underlying9 g2;simp at f g i;subst f g i;simp only[uu] at c;have m: ∀s:Y,s.size=s.data.toList.length:=λs=>Lib.size_eq s
  refine⟨⟨nm,ln,dt⟩,rfl, ?_, ?_⟩
  .rw[c.1,t,m];simp[uptoBulk,uptoBulkAll];omega
  rw[c.1,u,m];simp[uptoBulk,uptoBulkAll];omega
def kM{H:Type}{enc:ν×β->H}{W:U}{fuel:N}{v:β}{d:DataW H}{p:E MemPlace}{sp:N->Bool}{z:Bool}
 (h:DataW.trod enc prog W 0 sp z fuel 40 [v]=J (d,p))(hb:uptoBulk d<=1048576):
 v.oneCell' =true/\∃T:E Bw,T.length<=1100000/\(∀e∈T,e.nm.size<=2000000/\e.dt.size<=2000000)/\Kc W v T:=by
 rcases Go.Deep.open_slice underlying40 h with⟨b,_⟩|⟨a,len,cap,m,n,D,C,b,y,F,L,r,u,c⟩
 .simp at b;subst b;exact⟨rfl,[],Ad,(λ_ h=>by cases h),.inl ⟨rfl,rfl⟩⟩
 simp at b;subst b;simp only[uu] at u;have hd1:=u.1;have t:len<=1048576:=WA;have hE: ∀i,i<len-> ∃e:Bw,(∀j,j<3->W.cell? ((a.add (i*3)).add j)=([G e.nm,.bool e.ln,G e.dt]:E β)[j]?)/\e.nm.size<=2000000/\e.dt.size<=2000000:=λi hi=>by
  have o:i<m:=by rw[r];split<;>omega
  obtain⟨w,h1,x⟩:=c i o;rw[qy] at h1;obtain⟨_,q,hcell⟩:=yk h1;obtain⟨e,rfl,A,B⟩:=nW q x;exact acd
 let f:N->Bw:=λi=>if hi:i<len then Classical.choose (hE i hi) else AA
 have hf: ∀i (hi:i<len),(∀j,j<3->W.cell? ((a.add (i*3)).add j)=([G (f i).nm,.bool (f i).ln,G (f i).dt]:E β)[j]?)/\(f i).nm.size<=2000000/\(f i).dt.size<=2000000:=λi hi=>wS
 have g: ∀i,i<len->((List.range len).map f).getD i AA=f i:=λi hi=>by rw[qT];simp[hi]
 refine⟨rfl,(List.range len).map f,by simp;omega,λe he=> ?_,.inr ⟨a,cap,Ad,λi hi=> ?_⟩⟩
 .exact abl
 have k:i<len:=by simpa using hi
 obtain⟨b,_⟩:=hf i k;rw[g i k];have s:=b 0 Aa;have c1:=b 1 Aa;have c2:=b 2 Aa;rw[ua] at c1 c2;exact⟨by rw[uf,sS] at s;exact s,c1,c2⟩
open Go.ChangeShapes Go.WideShapes Go.ChangeAt Go.RowKit _root_.Go.Proofs.YtndfmgdhiallpaaGreatDoor.Rows Go.Proofs.Tryz
def Yw(P:U->Prop)(y:β):Prop:= ∃fo fc fa,∃fs:E Fl,y=K fo fs.length fc/\fs.length<=1100000/\(∀f∈fs,f.1.size<=1100000/\f.2.size<=1100000)/\(0<fs.length->fo=J fa)/\∀W,P W->Dw W fa fs
def qb(p q:Z)(s t:Y):Prop:=(-9223372036854775808<=p/\p<=9223372036854775807)/\(-9223372036854775808<=q/\q<=9223372036854775807)/\s.size<=1048576/\t.size<=1048576
def ZE(P:U->Prop)(a:Addr)(n:N):Prop:= ∀i,i<n-> ∃k p q s t x y,qb p q s t/\Va P x/\Yw P y/\∀W,P W-> ∀j,j<7->W.cell? (a.add (i*7+j))=(Df k p q s t x y)[j]?
def qR:prog.cellsOf 50=2:=Ab
def qz:prog.cellsOf 41=1:=Ab
def pQ{H:Type}{enc:ν×β->H}{W:U}{fuel:N}{a:E β}{d:DataW H}{p:E MemPlace}{sp:N->Bool}{m:Bool}(o:a.length=2)
 (h:DataW.trod enc prog W 0 sp m fuel 50 a=J (d,p)):
 ∃e:Fl,a=[G e.1,G e.2]/\e.1.size<=uptoBulk d/\e.2.size<=uptoBulk d:=by
 obtain⟨u,n,rfl,b,k,q,j⟩:=yj underlying50 h
 match a,o,u,q with
 |[v0,v1],_,[y0,y1],_=>
  have g:=j 0 _ rfl;have i:=j 1 _ rfl;simp[na] at g i;obtain⟨nm,c,r,_⟩:=uU underlying9 g;obtain⟨dt,f,t,_⟩:=uU underlying9 i;simp at c f;subst c f;simp only[uu] at b;have l: ∀s:Y,s.size=s.data.toList.length:=λs=>Lib.size_eq s
  refine⟨(nm,dt),rfl, ?_, ?_⟩
  .rw[b.1,r,l];simp[uptoBulk,uptoBulkAll];omega
  rw[b.1,t,l];simp[uptoBulk,uptoBulkAll];omega
def nX{H:Type}{enc:ν×β->H}{W:U}{fuel:N}{v:β}{d:DataW H}{p:E MemPlace}{sp:N->Bool}{B:Bool}
 (h:DataW.trod enc prog W 0 sp B fuel 41 [v]=J (d,p))(hb:uptoBulk d<=1048576):
 Yw (λV=>Al W V) v:=by
 rcases Go.Deep.open_slice underlying41 h with⟨b,_⟩|⟨a,len,cap,m,n,D,L,b,A,M,P,s,w,c⟩
 .simp at b;subst b;exact⟨O,0,⟨0,0,O⟩,[],rfl,Ad,(λ_ h=>by cases h),(λh=>by simp at h),λV _ i hi=>by simp at hi⟩
 simp at b;subst b;simp only[uu] at w;have hd1:=w.1;have u:len<=1048576:=WA;have hE: ∀i,i<len-> ∃e:Fl,(∀j,j<2->W.cell? ((a.add (i*2)).add j)=([G e.1,G e.2]:E β)[j]?)/\e.1.size<=1100000/\e.2.size<=1100000:=λi hi=>by
  have q:i<m:=by rw[s];split<;>omega
  obtain⟨x,h1,y⟩:=c i q;rw[qR] at h1;obtain⟨_,r,hcell⟩:=yk h1;obtain⟨e,rfl,C,F⟩:=pQ r y;exact acd
 let f:N->Fl:=λi=>if hi:i<len then Classical.choose (hE i hi) else default
 have hf: ∀i (hi:i<len),(∀j,j<2->W.cell? ((a.add (i*2)).add j)=([G (f i).1,G (f i).2]:E β)[j]?)/\(f i).1.size<=1100000/\(f i).2.size<=1100000:=λi hi=>wS
 have g: ∀i,i<len->((List.range len).map f).getD i default=f i:=λi hi=>by rw[qT];simp[hi]
 have o:Dw W a ((List.range len).map f):=λi hi=>by
  have k:i<len:=by simpa using hi
  obtain⟨b,_⟩:=hf i k;rw[g i k];have t:=b 0 Aa;have c1:=b 1 Aa;rw[ua] at c1;exact⟨by rw[uf,sS] at t;exact t,c1⟩
 refine⟨J a,cap,a,(List.range len).map f,Ad,by simp;omega,λe he=> ?_,λ_=>rfl,λV z=>o.old z⟩;exact abl
def nY{H:Type}{enc:ν×β->H}{W:U}{fuel:N}{f:E β}{d:DataW H}{p:E MemPlace}{sp:N->Bool}{hd:Bool}(hl:f.length=7)
 (h:DataW.trod enc prog W 0 sp hd fuel 79 f=J (d,p))(M:uptoBulk d<=1048576):
 ∃k a c s t x y,f=(Df k a c s t x y).toList/\qb a c s t/\Va (λV=>Al W V) x/\Yw (λV=>Al W V) y:=by
 obtain⟨xs,n,rfl,R,P,q,b⟩:=yj underlying79 h
 match f,hl,xs,q with
 |[v0,v1,v2,v3,v4,v5,v6],_,[y0,y1,y2,y3,y4,y5,y6],_=>
  have A:=b 0 _ rfl;have B:=b 1 _ rfl;have g2:=b 2 _ rfl;have C:=b 3 _ rfl;have D:=b 4 _ rfl;have F:=b 5 _ rfl;have L:=b 6 _ rfl;simp[qo,na,pj,qz] at A B g2 C D F L;obtain⟨k,r,_⟩:=xc underlying3 A;obtain⟨a,u,_,wa⟩:=xc underlying3 B;obtain⟨c,v,_,wc⟩:=xc underlying3 g2;obtain⟨s,w,x3,_⟩:=uU underlying9 C;obtain⟨t,z,x4,_⟩:=uU underlying9 D;simp at r u v w z;subst r u v w z;simp only[uu] at R;have o:=R.1;have hs:s.size=s.data.toList.length:=Lib.size_eq s;have a0:uptoBulkAll [y0.1,y1.1,y2.1,y3.1,y4.1,y5.1,y6.1]+1<=1048576:=by rw[o] at M;simpa [uptoBulk] using M
  have a1:=ET (d:=y3.1) (l:=[y0.1,y1.1,y2.1,y3.1,y4.1,y5.1,y6.1]) Ad;have a3:=ET (d:=y5.1) (l:=[y0.1,y1.1,y2.1,y3.1,y4.1,y5.1,y6.1]) Ad;have a2:=ET (d:=y4.1) (l:=[y0.1,y1.1,y2.1,y3.1,y4.1,y5.1,y6.1]) Ad;have a4:=ET (d:=y6.1) (l:=[y0.1,y1.1,y2.1,y3.1,y4.1,y5.1,y6.1]) Ad;obtain⟨_,T,i,j,m⟩:=kM (d:=y5.1) (p:=y5.2) F Aa;have g:=nX (d:=y6.1) (p:=y6.2) L Aa;have ht:t.size=t.data.toList.length:=Lib.size_eq t;have h3:uptoBulk y3.1=s.data.toList.length+1:=by rw[x3];simp[uptoBulk]
  have h4:uptoBulk y4.1=t.data.toList.length+1:=by rw[x4];simp[uptoBulk]
  have S: ∀n:Z,(Lit.int Q n).wf=true-> -9223372036854775808<=n/\n<=9223372036854775807:=λn q=>by
   have e:(decide (IntKind.i64.min<=n)&&decide (n<=IntKind.i64.max))=true:=q;rw[rX,sN,sN] at e;exact e
  exact⟨k,a,c,s,t,v5,v6,rfl,⟨S a wa,S c wc,Aa,Aa⟩,⟨T,i,j,λV X=>m.old X⟩,g⟩
def iM{H:Type}{enc:ν×β->H}{W:U}{v:β}{d:DataW H}{X:E MemPlace}{sp:N->Bool}{S:Bool}
 (h:DataW.Trod enc prog W 0 sp S 22 v d X)(hv:v.oneCell' =true)(hb:uptoBulk d<=1048576):
 ∃ao n cap,v=K ao n cap/\n<=1100000/\(n=0\/ ∃a,ao=J a/\ZE (λV=>Al W V) a n):=by
 obtain⟨fuel,h⟩:=h;rcases Go.Deep.open_slice underlying22 h with⟨R,_⟩|⟨a,len,cap,m,n,D,Pl,R,P,hl,hm,u,A,e⟩
 .exact ⟨O,0,0,by cases v<;>simp_all [Value.cells,Value.oneCell'],Aa,.inl rfl⟩
 simp only[uu] at A;have hd1:=A.1;have z:len<=1048576:=WA;refine⟨J a,len,cap,by cases v<;>simp_all [Value.cells,Value.oneCell'],Aa,.inr ⟨a,rfl,λi hi=> ?_⟩⟩;have o:i<m:=by rw[u];split<;>omega
 obtain⟨B,h1,C⟩:=e i o;rw[qL] at h1;obtain⟨_,r,b⟩:=yk h1;have g:uptoBulk (D i)<=1048576:=Wi;obtain⟨k,p,q,s,t,x,y,rfl,T,L,F⟩:=nY r C g;refine⟨k,p,q,s,t,x,y,T,L,F,λV M j w=> ?_⟩;have c:=b j w;rw[uf] at c;have f:j<(Df k p q s t x y).toList.length:=w;rw[qY f] at c;rw[Ao M c,<-sC,qY f]
def IE(P:U->Prop):Yw P Do:=⟨O,0,⟨0,0,O⟩,[],rfl,Ad,(λ_ h=>by cases h),(λh=>by simp at h),λW _ i a=>by simp at a⟩
def Yx{P:U->Prop}{g:N}{e:ν}{x y:β}(b:Va P x)(f:Yw P y)(c: ∀W,P W->W.heap[g]? =J (γ (Ux x y) e (0,0))):ZE P ⟨g,0,O⟩ 11:=by
 have a: ∀m W,P W->W.cell? ((⟨g,0,O⟩:Addr).add m)=(Ux x y)[m]? :=λm W h=>by rw[rH,rx,qV W g m _ e (0,0) (c W h)]
 intro i d
 match i,d with
 |0,_=>exact⟨1,0,0,⟨#[109,46,120,47,121]⟩,⟨#[118,49,46,50,46,51]⟩,Do,Do,⟨Aa,Aa,by show 5<=_;omega,by show 6<=_;omega⟩,Jw P,IE P,λW h=>JU (a _ W h) (a _ W h) (a _ W h) (a _ W h) (a _ W h) (a _ W h) (a _ W h)⟩
 |1,_=>exact⟨2,0,0,⟨#[97,98,99]⟩,⟨#[]⟩,Do,Do,⟨Aa,Aa,by show 3<=_;omega,by show 0<=_;omega⟩,Jw P,IE P,λW h=>JU (a _ W h) (a _ W h) (a _ W h) (a _ W h) (a _ W h) (a _ W h) (a _ W h)⟩
 |2,_=>exact⟨3,0,0,⟨#[1,2,0,253,255,72,105]⟩,⟨#[]⟩,Do,Do,⟨Aa,Aa,by show 7<=_;omega,by show 0<=_;omega⟩,Jw P,IE P,λW h=>JU (a _ W h) (a _ W h) (a _ W h) (a _ W h) (a _ W h) (a _ W h) (a _ W h)⟩
 |3,_=>exact⟨4,0,0,⟨#[72,105]⟩,⟨#[]⟩,Do,Do,⟨Aa,Aa,by show 2<=_;omega,by show 0<=_;omega⟩,Jw P,IE P,λW h=>JU (a _ W h) (a _ W h) (a _ W h) (a _ W h) (a _ W h) (a _ W h) (a _ W h)⟩
 |4,_=>exact⟨5,0,0,⟨#[]⟩,⟨#[]⟩,x,Do,⟨Aa,Aa,by show 0<=_;omega,by show 0<=_;omega⟩,b,IE P,λW h=>JU (a _ W h) (a _ W h) (a _ W h) (a _ W h) (a _ W h) (a _ W h) (a _ W h)⟩
 |5,_=>exact⟨6,0,0,⟨#[]⟩,⟨#[]⟩,x,Do,⟨Aa,Aa,by show 0<=_;omega,by show 0<=_;omega⟩,b,IE P,λW h=>JU (a _ W h) (a _ W h) (a _ W h) (a _ W h) (a _ W h) (a _ W h) (a _ W h)⟩
 |6,_=>exact⟨7,0,0,⟨#[]⟩,⟨#[]⟩,Do,Do,⟨Aa,Aa,by show 0<=_;omega,by show 0<=_;omega⟩,Jw P,IE P,λW h=>JU (a _ W h) (a _ W h) (a _ W h) (a _ W h) (a _ W h) (a _ W h) (a _ W h)⟩
 |7,_=>exact⟨10,0,0,⟨#[]⟩,⟨#[]⟩,Do,y,⟨Aa,Aa,by show 0<=_;omega,by show 0<=_;omega⟩,Jw P,f,λW h=>JU (a _ W h) (a _ W h) (a _ W h) (a _ W h) (a _ W h) (a _ W h) (a _ W h)⟩
 |8,_=>exact⟨11,0,0,⟨#[]⟩,⟨#[]⟩,Do,Do,⟨Aa,Aa,by show 0<=_;omega,by show 0<=_;omega⟩,Jw P,IE P,λW h=>JU (a _ W h) (a _ W h) (a _ W h) (a _ W h) (a _ W h) (a _ W h) (a _ W h)⟩
 |9,_=>exact⟨13,0,0,⟨#[112]⟩,⟨#[]⟩,Do,Do,⟨Aa,Aa,by show 1<=_;omega,by show 0<=_;omega⟩,Jw P,IE P,λW h=>JU (a _ W h) (a _ W h) (a _ W h) (a _ W h) (a _ W h) (a _ W h) (a _ W h)⟩
 |10,_=>exact⟨14,0,0,⟨#[112]⟩,⟨#[]⟩,Do,Do,⟨Aa,Aa,by show 1<=_;omega,by show 0<=_;omega⟩,Jw P,IE P,λW h=>JU (a _ W h) (a _ W h) (a _ W h) (a _ W h) (a _ W h) (a _ W h) (a _ W h)⟩
abbrev gZ:E Fl:=[(⟨#[122]⟩,⟨#[49]⟩),(⟨#[97]⟩,⟨#[50]⟩)]
def cf{W:U}{g:N}(b:W.heap[g]? =J (γ #[G ⟨#[122]⟩,G ⟨#[49]⟩,G ⟨#[97]⟩,G ⟨#[50]⟩] tF (0,0))):Dw W ⟨g,0,O⟩ gZ:=by
 refine bZ.fls (λi c=> ?_) b;have a:i<2:=c
 match i,a with
 |0,_=>exact⟨rfl,rfl⟩
 |1,_=>exact⟨rfl,rfl⟩
