import Derived.Test.YtndfmgdhiallpaaGreatDoorVbm
import Derived.Test.YtndfmgdhiallpaaGreatDoorVbb
set_option linter.all false
set_option maxRecDepth 100000
set_option maxHeartbeats 8000000
open _root_ renaming Option.some->J,Option.none->O,Int->Z,Nat->N,Go.Value.int->I,Go.Value.string->G,Go.IntKind.i64->Q,ByteArray->Y,List->E,Go.World->U,Go.Value.slice->K,Go.Value->β,Go.Obj.cells->γ,Go.Value.pointer->δ,Go.RowKit.Hid->χ
namespace Go.Proofs.YtndfmgdhiallpaaGreatDoor
open Go.RowKit Go.Maps Go.Proofs.Tryz
def Jc(fs:E Fl):E Fl:=fs.mergeSort (λa b=>decide (a.1.data.toList<=b.1.data.toList))
def Ic(fs:E Fl):(Jc fs).Perm fs:=List.mergeSort_perm _ _
def RJ{fs:E Fl}(i:fs.Pairwise (λa b=>a.1≠b.1)):NQ (Jc fs):=by
 have d:(Jc fs).Pairwise (λa b=>decide (a.1.data.toList<=b.1.data.toList)=true):=
  List.pairwise_mergeSort (λa b c d f=>by
   rw[sN] at*;exact List.le_trans d f) (λa b=>by
   rw[vp,sN,sN];exact List.le_total _ _) fs
 have f:(Jc fs).Pairwise (λa b=>a.1≠b.1):=(List.Perm.pairwise_iff (λ{a b} h e=>h e.symm) (Ic fs)).2 i;refine(d.and f).imp (λ{a b} h=> ?_);have g:=rQ h.1;rcases List.le_iff_lt_or_eq.1 g with h4|h4
 .exact h4
 exact absurd (Vu h4) h.2
def Ng(F:E Y)(nm:Y):N:=if CK nm=false then 4 else if F.any (λx=>decide (x=nm))=true then 5 else 0
def Gg:E Fl->E Y->N
 |[],_=>0
 |f::r,F=>if Ng F f.1=0 then Gg r (F++[f.1]) else Ng F f.1
def kR{F:E Y}{nm:Y}(h:Ng F nm=0):CK nm=true/\nm∉F:=by
 unfold Ng at h;split at h
 .cases h
 rename_i h1;split at h
 .cases h
 rename_i h2;exact⟨by simpa using h1,λa=>h2 (sc.2 ⟨nm,a,qZ rfl⟩)⟩
structure co (fs:E Fl) (i:N):Prop where
 go:Gg fs []=Gg (fs.drop i) ((fs.take i).map Prod.fst)
 dif:((fs.take i).map Prod.fst).Pairwise (λa b=>a≠b)
def co.start(fs:E Fl):co fs 0:=⟨rfl,tH⟩
def RK(fs:E Fl)(i:N)(h:i<fs.length):fs.drop i=fs.getD i default::fs.drop (i+1):=by
 rw[sK h,qT,qY h];rfl
def RM(fs:E Fl)(i:N)(h:i<fs.length):(fs.take (i+1)).map Prod.fst=(fs.take i).map Prod.fst++[(fs.getD i default).1]:=by
 rw[tu,qY h,qT,qY h,sv];rfl
def co.end{fs:E Fl}{i:N}(h:co fs i)(c:fs.length<=i):Gg fs []=0/\fs.Pairwise (λa b=>a.1≠b.1):=by
 refine⟨by rw[h.go,xq c];rfl, ?_⟩;have:=h.dif;rw[sE c] at this;exact xk.1 this
def co.fault{fs:E Fl}{i:N}(h:co fs i)(b:i<fs.length)(a:Ng ((fs.take i).map Prod.fst) (fs.getD i default).1≠0):Gg fs []=Ng ((fs.take i).map Prod.fst) (fs.getD i default).1:=by
 rw[h.go,RK fs i b,Gg,rc a]
def co.next{fs:E Fl}{i:N}(h:co fs i)(c:i<fs.length)(f:Ng ((fs.take i).map Prod.fst) (fs.getD i default).1=0):co fs (i+1):=by
 refine⟨by rw[h.go,RK fs i c,Gg,rd f,RM fs i c], ?_⟩;rw[RM fs i c];refine sZ.2 ⟨h.dif,tS _ _,λa g b d e=> ?_⟩;rw[rC] at d;subst e d;exact(kR f).2 g
def NV(p:Y)(fs:E Fl):Y×N:=if Gg fs []=0 then(cm p (Jc fs),0) else(⟨#[]⟩,Gg fs [])
def Kx(p:Y)(n:N): ∀(fs:E Fl),(∀f∈fs,f.1.size<=n)->(Bn p fs).length<=(67+n+p.size)*fs.length
 |[],_=>by simp[Bn]
 |f::r,h=>by
  have d:=Kx p n r (λx c=>h x (sQ _ c));have g:=h f (uM ..);have b:=PS p f;have e:Bn p (f::r)=(JE p f).data.toList++Bn p r:=by simp[Bn]
  have a:(JE p f).data.toList.length=(JE p f).size:=sd;rw[e,qU,sB,a,b,xP];omega
def ip{fs l:E Fl}(h:l.Perm fs)(j:N)(b:j<l.length): ∃i,i<fs.length/\fs.getD i default=l.getD j default:=by
 have c:l[j]∈fs:=h.mem_iff.1 (ro b);obtain⟨i,a,e⟩:=sH c;refine⟨i,a, ?_⟩;rw[qT,qY a,qT,qY b];exact e
def qS(p:Y)(hp:p.size<=1000)(ao:Option Addr)(cap g:N)(fs:E Fl)(i5:fs.length<=1100000)(hfz: ∀f∈fs,f.1.size<=2000000/\f.2.size<=2000000)(w:U)(b3:g<w.heap.size)(u:0<fs.length->ao=J ⟨g,0,O⟩)
 (f1: ∀j,j<fs.length->w.cell? ⟨g,j*2,O⟩=J (G (fs.getD j default).1)/\w.cell? ⟨g,j*2+1,O⟩=J (G (fs.getD j default).2))(hm:Cb w)(hg:KC w):
 Calls prog 48 #[G p,K ao fs.length cap] w λr w' =>Al w w' /\r=.returned (.tuple #[G (NV p fs).1,I Q ((NV p fs).2:Z)]):=by
 have c6:χ (∀i,i<fs.length->(fs.getD i default).1.size<=2000000/\(fs.getD i default).2.size<=2000000):=λi hi=>abf
 have a8:=Af f1;have b7:=Af u;have HM:=Af hm;have HG:=Af hg;have HSU:χ (NV p fs=if Gg fs []=0 then(cm p (Jc fs),0) else(⟨#[]⟩,Gg fs [])):=rfl;have i3:(Instr.makeMap iK (J (I Q (fs.length:Z)))).run prog w=.ok (.map (J w.heap.size)) (w.alloc (.map #[] 0)):=by
  simp[Instr.makeMap,asIntOf,newObj,go_sem]
  rfl
 have d2:χ (Al w (w.alloc (.map #[] 0))):=(Ag.refl _ w).alloc _;have d7:χ (FP (w.alloc (.map #[] 0)) w.heap.size (Ih (fs.take 0))):=FP.made w;have e1:=Af (co.start fs);have a3:χ (∀f∈fs.take 0,f.1.size<=80):=λf hf=>by cases hf
 clear f1 u hm hg hfz;go_in;go_wp2_with fail;clear i3;go_loopw [7,8,9,10,19] (λ_ _ _ _ x wr=> ∃i:N,i<=fs.length/\x=I Q i/\χ (Al w wr)/\χ (FP wr w.heap.size (Ih (fs.take i)))/\χ (co fs i)/\χ (∀f∈fs.take i,f.1.size<=80)) (λ_ _ _ _ x _=>fs.length- (intOf x).toNat)
 .exact ⟨0,Aa,rfl,d2,d7,e1,a3⟩
 obtain⟨i,hi,rfl,HO,HP,c,HFI⟩:=hrel;clear d2 d7 e1 a3;by_cases hil:i<fs.length
 .have A:(i:Z)<(fs.length:Z):=Aa;have u:=b7 Aa;subst u;have h9:=(HO.cell (p:=⟨g,i*2,O⟩) b3 (λx=>x)).trans (a8 i hil).1;have a0:=(HO.cell (p:=⟨g,i*2+1,O⟩) b3 (λx=>x)).trans (a8 i hil).2;obtain⟨f2,f3⟩:=c6 i hil;have HS:=Af (cn fs i hil);have P:=Af (λh=>c.next hil h);have HFT:=Af (λh=>c.fault hil h);have m:χ (Ng ((fs.take i).map Prod.fst) (fs.getD i default).1=if CK (fs.getD i default).1=false then 4 else if(Ih (fs.take i)).any (λx=>decide (x=(fs.getD i default).1))=true then 5 else 0):=rfl;have z:χ (CK (fs.getD i default).1=true-> ∀f∈fs.take (i+1),f.1.size<=80):=λh f hf=>WQ
  have a2:(Ih (fs.take i)).length=i:=by simp[Ih];omega
  generalize Ng ((fs.take i).map Prod.fst) (fs.getD i default).1=sf at*;generalize Ih (fs.take i)=L at*;generalize fs.getD i default=f at*;obtain⟨nm,d⟩:=f;simp only at*;have X:Al wr (wr.alloc (γ #[G nm,G d] 50)):=(Ag.refl _ wr).alloc _;have e9:=rh wr (γ #[G nm,G d] 50);have s:=Af (SC nm Aa (wr.alloc (γ #[G nm,G d] 50)) ((HM.old (uh HO)).old X));have S:=Af (Ag.trans (uh HO) X);have b0:=Af (HP.old X);clear X HO HP c HFI;cases hfp:CK nm with
  |false=>
   rw[hfp] at s m;have hsf:sf=4:=m.trans (rd rfl);have HA:χ (NV p fs=(⟨#[]⟩,4)):=Wm;clear HFT P m z hfp hsf HSU;go_wp2_with fail;refine s.mono ?_;rintro e w1 ⟨rfl,a⟩;have HO1:=Af (Ag.trans (uh S) a);clear s a S b0;exact abb
  |true=>
   rw[hfp] at s m;have z:=Af (z hfp);clear hfp;go_wp2_with fail;refine s.mono ?_;rintro e w1 ⟨rfl,a⟩;have HO1:=Af (Ag.trans (uh S) a);have n:=Af (b0.old a);have e7:=AQ a e9;have i4:w1.cell? ⟨wr.heap.size,0,O⟩=J (G nm):=by rw[qV _ _ 0 _ _ (0,0) e7];rfl
   clear s a S b0 e9 e7 h9 a0;by_cases b:nm∈L
   .obtain ⟨pl,C⟩:=n.met nm (by unfold maxLen;omega) b;have hsf:sf=5:=by
     rw[uh m,rc Ac,rd (sc.2 ⟨nm,b,qZ rfl⟩)]
    have HA:χ (NV p fs=(⟨#[]⟩,5)):=Wm;clear HFT P m z hsf HSU b;exact abb
   have hsf:sf=0:=by
    rw[uh m,rc Ac,rc (λh=>by
     obtain⟨x,hx,e⟩:=sc.1 h;exact b ((rQ e) ▸ hx))]
   have g8:=Af (P hsf);have C:=n.look nm (by unfold maxLen;omega) b;obtain⟨w2,g0,f7,f6⟩:=n.put nm (by unfold maxLen;omega) b Aa;rw[a2] at g0;have T:χ (FP w2 w.heap.size (Ih (fs.take (i+1)))):=by rw[uh HS];exact f7
   have R:χ (Al w w2):=HO1.transNew f6 (λk hk e=>Aa);clear n HO1 f7 f6 b P HFT m hsf;go_wp2_with fail;clear g0 C i4;go_roundw
   .exact ⟨i+1,Aa,by go_num,R,T,g8,z⟩
   exact Ae
 have A:¬(i:Z)<(fs.length:Z):=Aa;have b4:i=fs.length:=Aa;subst b4;rw[sr] at HP HFI;obtain⟨g1,a5⟩:=c.end (rj _);have e0:=Af (Ic fs);have h7:=Af (RJ a5);have d1:χ (∀f∈Jc fs,f.1.size<=80):=λf hf=>HFI f ((Ic fs).mem_iff.1 hf)
 have b6:χ (NV p fs=(cm p (Jc fs),0)):=HSU.trans (rd g1);have i8:(Jc fs).length=fs.length:=(Ic fs).length_eq;clear c g1 a5 HFI HSU;generalize Jc fs=l at*;have X:Al wr (wr.alloc (γ #[δ O,K O 0 0] 142)):=(Ag.refl _ wr).alloc _;have b9:=Af (Vv wr);have a2:(Ih l).length=fs.length:=by simp[Ih];omega
 have i9:(Ih fs).length=fs.length:=by simp[Ih]
 have c8:=Af ((HP.old X).keysG (l:=Ih l) (e0.map Prod.fst) (by
  have h:=uh h7;rw[Ih];exact xk.2 h) Aa)
 have d9:=Af (HP.old X);have d5:=Af (Ag.trans (uh HO) X);have e3:χ (w.heap.size<=wr.heap.size):=HO.size;have g3:χ (w.heap.size<wr.heap.size):=HP.lt;have e6:(wr.alloc (γ #[δ O,K O 0 0] 142)).heap.size=wr.heap.size+1:=rr _ _;have c3:=Af e6;clear X HO HP e6;go_wp2_with fail;refine c8.mono ?_;rintro e w1 ⟨kb,rfl,a,f0⟩;have c5:=Af f0;have c0:=Af (Ki (uh b9) a);have n:=Af (d9.old a);have HO1:=Af (Ag.trans (uh d5) a);have e2:χ (wr.heap.size<w1.heap.size):=by have h1:=a.size;have h2:=uh c3;unfold χ;omega
 clear f0 a c8 b9 d9 d5 c3;go_wp2_with fail;refine c5.mono ?_;rintro e w2 ⟨kv,rfl,D,a7⟩;have F:χ (Gd w2 w1.heap.size kv (Ih l)):=a7;have c1:=Af (Ki (uh c0) D);have T:=Af (n.old D);have R:=Af (Ag.trans (uh HO1) D);have e5:χ (wr.heap.size<=w2.heap.size):=by have h1:=D.size;have h2:=uh e2;unfold χ;omega
 obtain⟨ko,kc,kg,rfl,a1⟩:=F.shape;have d0:=Af a1;rw[a2] at d0 F ⊢;clear D a7 c5 c0 n HO1 a1;generalize wr.heap.size=B at*;generalize w1.heap.size=B1 at*;go_wp2;go_loopw [13,45] (λ_ x wx=> ∃i:N,i<=fs.length/\x=I Q i/\χ (Lib.IsBuilderF 142 5 B B (Lib.byteCells (Bn p (l.take i))) wx)/\χ (Gd wx B1 (K ko fs.length kc) (Ih l))/\χ (FP wx w.heap.size (Ih fs))/\χ (Al w wx)/\χ (B<=wx.heap.size)) (λ_ x _=>fs.length- (intOf x).toNat)
 .exact ⟨0,Aa,rfl,c1,F,T,R,e5⟩
 obtain⟨i,hi,rfl,y,H,V,t,b2⟩:=hrel;clear c1 F T R e5;by_cases hil:i<fs.length
 .have A:(i:Z)<(fs.length:Z):=Aa;have u:=b7 Aa;subst u;have a1:=d0 Aa;subst a1;have i1:wr.cell? ⟨kg,i,O⟩=J (G (l.getD i default).1):=by
   have h:=uh H;rw[<-a2] at h;have h2:=h.cell i Aa;rw[PT l i Aa] at h2;exact h2
  obtain⟨q,hq,b5⟩:=ip (uh e0) i Aa;obtain⟨f2,f3⟩:=c6 q hq;have C:=V.at q Aa (by rw[PT fs q hq];unfold maxLen;omega);rw[PT fs q hq,b5] at C;have a0:=(t.cell (p:=⟨g,q*2+1,O⟩) b3 (λx=>x)).trans (a8 q hq).2;rw[b5] at a0 f2 f3;have j0:(q:Z)<(fs.length:Z):=Aa;have g6:=Af (NF p l i Aa);have M:χ ((Bn p (l.take i)).length<=1300000000):=by
   have h1:=Kx p 80 (l.take i) (λf hf=>d1 f (vF hf));have h2:(l.take i).length<=1100000:=by rw[rY];omega
   have h3:(67+80+p.size)*(l.take i).length<=(67+80+p.size)*1100000:=ve _ h2;unfold χ;omega
  clear b5;have g5:χ (JE p (l.getD i default)=CB (l.getD i default).2++⟨#[32,32]⟩++p++(l.getD i default).1++⟨#[10]⟩):=rfl;have g7:=Af (PS p (l.getD i default));have i7:=IG (l.getD i default).2;have d6:=Af (eK (l.getD i default).2 Aa wr (HG.old (uh t)));generalize Bn p (l.take i)=LL at*;generalize JE p (l.getD i default)=li at*;generalize l.getD i default=f at*;obtain⟨nm,d⟩:=f;simp only at*;generalize CB d=dg at*;go_wp2_with fail;refine d6.mono ?_;rintro e w3 ⟨rfl,v⟩;have c2:=Af (Ki (uh y) v);have c9:=Af (H.old v);have d8:=Af (V.old v);have d3:=Af (Ag.trans (uh t) v);have b1:χ (B<=w3.heap.size):=rz (uh b2) v.size;clear v d6 y H V t b2 i1 C a0;go_wp2_with fail;have i2:=uh g5;rw[<-i2];have e4:=Af (ci B B (Lib.byteCells LL) li w3 (uh c2) (by have h1:=uh g7;have h2:=uh M;rw[Lib.byteCells,sJ];omega) (uh b1));refine e4.mono ?_;rintro e w4 ⟨⟨x,rfl⟩,e8,o,a6⟩;have g2:χ (Lib.IsBuilderF 142 5 B B (Lib.byteCells (Bn p (l.take (i+1)))) w4):=by
   unfold χ;rw[uh g6,Lib.byteCells_append,<-Lib.strCells_eq];exact e8
  have g4:=Af (c9.others (uh e2) a6);have h5:=Af (d8.kept (Lq o) (by have:=uh g3;omega));have g9:χ (Al w w4):=d3.transNew (Lq o) (λk hk e=>by have:=uh e3;omega);have h8:χ (B<=w4.heap.size):=rz (uh b1) o.size;clear e8 o a6 e4 c2 c9 d8 d3 b1;go_wp2;go_roundw
  .exact ⟨i+1,Aa,by go_num,g2,g4,h5,g9,h8⟩
  exact Ae
 have A:¬(i:Z)<(fs.length:Z):=Aa;have b4:i=fs.length:=Aa;subst b4;rw[sE Aa] at y;have M:χ ((Bn p l).length<=1300000000):=by
  have h1:=Kx p 80 l (uh d1);have h3:(67+80+p.size)*l.length<=(67+80+p.size)*1100000:=ve _ Aa;unfold χ;omega
 have h6:χ (cm p l=⟨#[104,49,58]⟩++An (Ja (Oo (CN (An (Bn p l)))))):=rfl;have c:=Af (Builder_String_any_k B B (Bn p l) wr (uh y) (uh b2));have f8:(⟨(Bn p l).toArray⟩:Y)=An (Bn p l):=rfl;rw[f8] at c;have f9:(An (Bn p l)).size<=140737488355328:=by rw[AE];have:=uh M;omega
 have c4:=Af (λW i0=>oe (An (Bn p l)) f9 W i0);clear f8 f9 M y H V;generalize An (Bn p l)=lines at*;have c7:χ (∀W,Calls prog 97 #[.agg (Vt (Oo (CN lines)))] W λr w' =>r=.returned (G (An (Ja (Oo (CN lines)))))/\Al W w'):=λW=>Yz _ (λi=>ib _ i) W
 have i6:(An (Ja (Oo (CN lines)))).size=44:=by rw[AE,Ja,qU,qU,IZ,Ia];rfl
 generalize An (Ja (Oo (CN lines)))=su at*;generalize Vt (Oo (CN lines))=sa at*;go_wp2_with fail;refine c.mono ?_;rintro e w5 ⟨rfl,_,a4,_⟩;have a9:χ (Al w w5):=t.transNew (Lq a4) (λk hk e=>by have:=uh e3;omega);clear c a4 t;go_wp2_with fail;refine(c4 w5 (HG.old (uh a9))).mono ?_;rintro e w6 ⟨rfl,f4⟩;have d4:=Af (Ag.trans (uh a9) f4);clear c4 f4 a9;go_wp2_with fail;refine(c7 w6).mono ?_;rintro e w7 ⟨rfl,f5⟩;have h4:=Af (Ag.trans (uh d4) f5);clear c7 f5 d4;go_wp2;go_ret2;exact⟨h4,by rw[uh b6,uh h6];rfl⟩
