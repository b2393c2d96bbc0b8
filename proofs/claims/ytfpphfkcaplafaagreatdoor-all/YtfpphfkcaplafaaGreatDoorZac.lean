import Derived.Test.YtfpphfkcaplafaaGreatDoorZab
set_option linter.all false
set_option maxHeartbeats 64000000
set_option maxRecDepth 100000
open _root_ renaming Option.some->J,Option.none->O,Int->Z,Nat->N,Go.Value.int->I,Go.Value.string->G,Go.IntKind.i64->Q,ByteArray->Y,List->E,Go.World->U,Go.Value.slice->K,Go.Value->M,Go.Obj.cells->W,Go.Value.pointer->V,Go.RowKit.Hid->C,Go.Proofs.Tryz.prog->F,Go.Ending.returned->ε,Go.Value.bool->ζ,Go.Value.tuple->η,Bool.true->θ,Bool.false->ι,absurd->κ,Go.Calls->μ,UInt8->υ
variable{s:Y}{a a' c d e e' g i many n v y:N}{D L b l:E N}{w:U}{o:E υ}{S:N->Prop}
namespace Go.Proofs.YtfpphfkcaplafaaGreatDoor
open Go.RowKit Go.Proofs.Tryz
def Rc(g:N)(s:Y)(a:N)(o:M)(e:N)(b:e≠0)(v:M)(many:N)(w:U)(h:Rd w g s a o e):
 μ F 133 #[V<|J ⟨g,0,O⟩,v,I Q many] w λr w'=>r=ε (K O 0 0)/\w'=w:=by
 have:=h.c3;have:((e:Z)==0)=false:=act
 clear h;go_in;go_wp2_with fail;go_loop [7,8,9,10,11] (λx _ _ _ _=>x=K O 0 0) λ_ _ _ _ _=>0
 .rfl
 subst hrel;by_cases c:0<many
 .have b:(0:Z)<(many:Z):=A;exact aet
 have:¬(0:Z)<(many:Z):=A;exact aet
def KP(h:8*s.size<a+14):CC s a=none:=by unfold CC;rw[Wz h]
def Mu(h:286<257+Ar s a 5\/30<1+Ar s (a+5) 5):CC s a=none:=by
 unfold CC;exact akh
def YB(h:8*s.size<a+14+3*(4+Ar s (a+10) 4)):CC s a=none:=by
 unfold CC;split
 .rfl
 exact akh
def RN(h:Fa (Ii s (a+14)<|4+Ar s (a+10) 4)=ι):CC s a=none:=by
 unfold CC;split
 .rfl
 split
 .rfl
 exact akh
def YC(h:Jd s (Ii s (a+14)<|4+Ar s (a+10) 4) (257+Ar s a 5+(1+Ar s (a+5) 5)) (a+14+3*(4+Ar s (a+10) 4)) []=O):CC s a=none:=by
 unfold CC;split
 .rfl
 split
 .rfl
 split
 .rfl
 split
 .rfl
 rw[h]
def YD(b:¬8*s.size<a+14)(c:¬(286<257+Ar s a 5\/30<1+Ar s (a+5) 5))(d:¬8*s.size<a+14+3*(4+Ar s (a+10) 4))
 (e:Fa (Ii s (a+14)<|4+Ar s (a+10) 4)=θ)(f:Jd s (Ii s (a+14)<|4+Ar s (a+10) 4) (257+Ar s a 5+(1+Ar s (a+5) 5)) (a+14+3*(4+Ar s (a+10) 4)) []=J (a',l)):
 CC s a=if Fa (l.take<|257+Ar s a 5)=θ/\IA (l.drop<|257+Ar s a 5)=θ/\l.getD 256 0≠0 then J (a',l.take<|257+Ar s a 5,l.drop<|257+Ar s a 5) else none:=by
 unfold CC;rw[Wx b,Wx c,Wx d,Wx (by rw[e];decide),f]
def fH(s:Y)(a k:N):∀j,(Ii s a k).getD j 0<=15:=by
 induction k with
 |zero=>
  intro j;rw[Ii,Wq,aaV];split<;>simp
 |succ k b=>
  intro j;have:=Cv s (a+3*k) 3;rw[Ii,Wq,acG];split
  .split
   .show Ar s (a+3*k) 3<=15;omega
   simp
  rw[<-Wq];exact b j
def mo{C:E N}(b:C.length=19){b :E N}(h:CW s C many a l=J (a',b))(c:∀x∈l,x<=15):∀x∈b,x<=15:=by
 unfold CW at h;split at h
 .cases h
 rename_i y e b;have:=(Ih b).2.2;split at h
 .cases h
 split at h
 .cases h
 split at h
 .cases h
 injection h with h;injection h with f b;intro x d;rw[<-b] at d;rcases WY.1 d with h3|h3
 .exact c x h3
 rw[(List.mem_replicate.1 h3).2];unfold Gd;split
 .by_cases b:l.length-1<l.length
  .rw[Wq,Wv b];exact c _<|WJ b
  rw[Wq,wj A];simp
 split<;>omega
def YE{C:E N}(e:C.length=19):∀{f a:N} {l:E N} {a':N} {b :E N},MY s C many f a l=J (a',b)->(∀x∈l,x<=15)->l.length<=many->a<=8*s.size->(∀x∈b,x<=15)/\b.length=many/\a<=a'/\a'<=8*s.size
 |0,a,l,a',b,h,_,_,_=>akU
 |f+1,a,l,a',b,h,g,j,i=>by
  rw[MY] at h;split at h
  .split at h
   .cases h
   rename_i k m b;have d:=RC b;have c:=YE e h (mo e b g) d.2.2.2 d.2.1;exact⟨c.1,c.2.1,A,c.2.2.2⟩
  injection h with h;injection h with d c;subst d c;exact⟨g,A,WF _,i⟩
def VY{C:E N}(c:C.length=19)(h:Jd s C many a []=J (a',b))(d:a<=8*s.size):(∀x∈b,x<=15)/\b.length=many/\a<=a'/\a'<=8*s.size:=
 YE c h (λ_ h=>by cases h) (wH _) d
def fI(h:∀x∈l,x<=15)(j:N):l.getD j 0<=15:=by
 by_cases a:j<l.length
 .rw[Wq,Wv a];exact h _<|WJ a
 rw[Wq,wj A];simp
def BG.take{b:N}(h:BG w c b l)(k:N):BG w c b<|l.take k:=by
 obtain⟨a,b,c⟩:=h;refine⟨a,b,λj a=>?_⟩;rw[hY] at a;rw[c j A,Wq,Wq,aab,Wz A]
def BG.drop{b:N}(h:BG w c b l)(k:N):BG w c (b+k)<|l.drop k:=by
 obtain⟨a,b,c⟩:=h;refine⟨a,b,λj a=>?_⟩;rw[aad] at a;rw[aap,c (k+j) A,Wq,Wq,abO]
def BG.set{b:N}(h:BG w b 0 l)(d:i<l.length)(v:N):BG (w.setCell ⟨b,i,O⟩<|I Q v) b 0<|l.set i v:=by
 obtain⟨a,k,f⟩:=h;have c:i<a.size:=by
  have:=f i d;rw[WQ] at this;exact(Wt.1 this).1
 refine⟨_,WL w b i a 3 _ k,λj g=>?_⟩;rw[wk] at g;rw[WQ,wR,Wq,acG];by_cases e:i=j
 .subst e;rw[Wz rfl,Wz rfl,Wz c,Wz d];rfl
 rw[Wx e,Wx e,<-Wq];have:=f j g;rw[WQ] at this;exact this
open Go.RowKit Go.Maps Go.Proofs.Tryz
def NW(s:Y)(a:N)(l:E υ):iv:=match CC s a with|none=> .inr 2|some (a2,L,D)=>Gb s L D a2 l
def EJ(l:E υ)(h:CC s a=O):NW s a l=.inr 2:=by unfold NW;rw[h]
def ci{b:N}(l:E υ)(h:CC s a=J (b,L,D)):NW s a l=Gb s L D b l:=by unfold NW;rw[h]
def tO(s:Y)(a v1 v2 v3 a3 e3:N):Prop:=v1<32/\v2<32/\v3<16/\a3<=8*s.size/\((e3=0/\a3=a+14/\v1=Ar s a 5/\v2=Ar s (a+5) 5/\v3=Ar s (a+10) 4)\/(e3=2/\CC s a=O))
def qU{f a1 h b:N}(o:El s a 0 5 f a1 c)(n:El s a1 c 5 g h b)(m:El s h b 4 i d e):tO s a f g i d e:=by
 refine⟨o.1,n.1,m.1,m.2.1,?_⟩;by_cases j:c=0
 .obtain ⟨t,p,u⟩:=o.ok j;subst j;by_cases k:b=0
  .obtain ⟨v,q,w⟩:=n.ok k;subst k;by_cases l:e=0
   .obtain ⟨x,r,_⟩:=m.ok l;subst u w;exact .inl ⟨l,A,p,q,r⟩
   obtain⟨x,r⟩:=m.bad l;exact .inr ⟨r,KP A⟩
  obtain⟨v,q⟩:=n.bad k;exact .inr ⟨by rw[m.stay k,q],KP A⟩
 obtain⟨t,p⟩:=o.bad j;have k:b≠0:=by rw[n.stay j];exact j
 exact .inr ⟨by rw[m.stay k,n.stay j,p],KP A⟩
def YF(i:N):CT.getD i 0<19:=by
 by_cases h:i<19
 .have:∀i:Fin 19,CT.getD i.val 0<19:=Ac;exact this ⟨i,h⟩
 rw[Wq,wj<|by simp[CT];omega];simp
def iO{P:Program}{c:Code}{Q:Exit->Act->U->Prop}{a:Act}{b:U}(R:U->Prop)(e:R b)(h:∀d,R d ->c.wp P Q a d):c.wp P Q a b:=h b e
def BG.thaw{b:N}(h:BG w b c L)(i:N):w.frozen? ⟨b,i,O⟩=false:=by
 obtain⟨a,c,_⟩:=h;exact WK w b i a 3 c
def BG.new(w:U){a:Array M}(b:g=w.heap.size)(h:∀j,j<L.length->a[j]? =J (I Q (L.getD j 0:N))):BG (w.alloc<|W a 3) g 0 L:=by
 subst b;exact⟨a,WD w _,λj a=>by rw[WQ];exact h j a⟩
def BG.alloc{b:N}(h:BG w c b L)(o:Obj):BG (w.alloc o) c b L:=h.kept ((Ag.refl (λ_=>False) w).alloc o) λx=>x
def BG.setOther(h:BG w e c L)(b i:N)(a:e≠b)(v:M):BG (w.setCell ⟨b,i,O⟩ v) e c L:=h.kept (Aq w b i v) a
def iP(j:N)(h:j<(List.replicate 19 0).length):(madeCells #[Value.int Q 0] 19)[j]? =J (I Q ((List.replicate 19 0).getD j 0:N)):=by
 rw[wA] at h;rw[Wq,aaV,Wz h];simp[madeCells,h,acn]
def mp(s:Y)(a i e3:N)(C:E N)(a' e':N):Prop:=C.length=19/\(∀j,C.getD j 0<=15)/\a'<=8*s.size/\((e'=0/\e3=0/\a'=a+14+3*i/\C=Ii s (a+14) i)\/(e'=2/\CC s a=O))
def mp.next{v1 v2 v3 a3 e3:N}{C:E N}{a'' e'':N}(hh:tO s a v1 v2 v3 a3 e3)(h:mp s a i e3 C a' e')(hi:i<4+v3)(hn:El s a' e' 3 v a'' e''):mp s a (i+1) e3 (C.set (CT.getD i 0) v) a'' e'':=by
 obtain⟨c,d,j,e⟩:=h;have:v<8:=hn.1;refine⟨by rw[wk,c],λj=>?_,hn.2.1,?_⟩
 .rw[Wq,acG];split
  .split
   .show v<=15;omega
   simp
  rw[<-Wq];exact d j
 rcases e with⟨rfl,b,f,g⟩|⟨rfl,b⟩
 .by_cases c:e''=0
  .obtain ⟨e,d,j⟩:=hn.ok c;exact .inl ⟨c,b,A,by rw[Ii,<-g,<-f,<-d]⟩
  obtain⟨e,d⟩:=hn.bad c;obtain⟨_,_,_,_,⟨_,_,_,_,r5⟩|⟨c,_⟩⟩:=hh
  .exact .inr ⟨d,YB<|by rw[<-r5];omega⟩
  omega
 exact .inr ⟨hn.stay A,b⟩
def mq(g:N)(S:N->Prop)(o:S g)(s:Y)(hs:s.size<=140737488355328)(a:N)(l:E υ)(q:l.length<=20000)(ha:a<=8*s.size)(w:U)(h:St w g S s a l 0):
 μ prog 72 #[V<|J ⟨g,0,O⟩] w λr w'=>
  r=ε (η #[])/\Ag S w w'/\∃a' l' e',iJ s (NW s a l) a' l' e'/\∃S':N->Prop,St w' g S' s a' l' e'/\∀k,k<w.heap.size->S' k->S k:=by
 obtain⟨ao,d,hr,a8,c7⟩:=h;have HR:=H hr;have J2:=H a8;have e:=H c7;have c9:=H<|Cz g s hs a (K ao l.length d) 0 5 A ha w hr;clear hr a8 c7;obtain⟨i0,N5,Q0,G9,G8⟩:=wi KO;have i1:∀W:U,(Instr.makeSlice 100 (I Q 19)<|I Q 19).run prog W=.ok (K (J ⟨W.heap.size,0,O⟩) 19 19) (W.alloc (.cells (madeCells #[I Q 0] 19) 3)):=agV;go_in;go_wp2_with fail;apply c9.mono;rintro r w1 ⟨v1,a1,e1,rfl,h1,a8,c7⟩;have e7:=H<|Cz g s hs a1 (K ao l.length d) e1 5 A h1.2.1 w1 a8;have k1:v1<32:=h1.1;have H1:=H h1;have e8:=H c7;clear h1 a8 c7 c9;go_wp2_with fail;apply e7.mono;rintro r w2 ⟨v2,a2,e2,rfl,h2,a8,c7⟩;have f0:=H<|Cz g s hs a2 (K ao l.length d) e2 4 A h2.2.1 w2 a8;have c9:v2<32:=h2.1;have H2:=H h2;have f3:=H<|e8.trans c7;clear h2 a8 c7 e7 e8;go_wp2_with fail;apply f0.mono;rintro r w3 ⟨v3,a3,e3,rfl,h3,a8,c9⟩;have i2:v3<16:=h3.1;have HH:=H<|qU H1 H2 h3;have c7:=H<|f3.trans c9;have e7:=H a8;clear h3 a8 c9 f0 f3 H1 H2;go_wp2_with fail;clear i1;have a8:=c7.size;refine iO (R:=λW=>Rd W g s a3 (K ao l.length d) e3/\BG W w3.heap.size 0 CT/\BG W (w3.heap.size+1) 0 (List.replicate 19 0)/\Ag (λk=>k=g) w W) ⟨?_,?_,?_,?_⟩ ?_
 .exact (e7.kept ((Ag.refl (λ_=>False) w3).alloc _) λa0=>a0).kept ((Ag.refl (λ_=>False) _).alloc _) λa0=>a0
 .refine (BG.new w3 rfl λj hj=>?_).alloc _;have:∀j:Fin 19,(#[Value.int Q 16,I Q 17,I Q 18,I Q 0,I Q 8,I Q 7,I Q 9,I Q 6,I Q 10,I Q 5,I Q 11,I Q 4,I Q 12,I Q 3,I Q 13,I Q 2,I Q 14,I Q 1,I Q 15]:Array Value)[j.val]? =J (I Q (CT.getD j.val 0:N)):=by
   intro j
   match j with
   |⟨0,_⟩=>rfl|⟨1,_⟩=>rfl|⟨2,_⟩=>rfl|⟨3,_⟩=>rfl|⟨4,_⟩=>rfl|⟨5,_⟩=>rfl|⟨6,_⟩=>rfl|⟨7,_⟩=>rfl|⟨8,_⟩=>rfl|⟨9,_⟩=>rfl|⟨10,_⟩=>rfl|⟨11,_⟩=>rfl|⟨12,_⟩=>rfl|⟨13,_⟩=>rfl|⟨14,_⟩=>rfl|⟨15,_⟩=>rfl|⟨16,_⟩=>rfl|⟨17,_⟩=>rfl|⟨18,_⟩=>rfl
   |⟨_+19,h⟩=>exact κ h A
  exact this ⟨j,hj⟩
 .exact BG.new _ Ad iP
 .exact (c7.alloc _).alloc _
 rintro W ⟨c9,e8,f0,a8⟩;have b9:=H c9;have c0:=H e8;have i3:=H f0;have f4:=H a8;have f3:=HR.lt;clear c9 e8 f0 a8 c7 e7;generalize w3.heap.size=gO at*;go_wp2;go_loopw [7] (λa0 wr=>∃a7:N,a7<=4+v3/\a0=I Q a7/\C (∃d4 a' e',mp s a a7 e3 d4 a' e'/\Rd wr g s a' (K ao l.length d) e'/\BG wr (gO+1) 0 d4)/\C (BG wr gO 0 CT)/\C (Ag (λk=>k=g) w wr)) λa0 _=>4+v3-(intOf a0).toNat
 .refine ⟨0,A,rfl,⟨List.replicate 19 0,a3,e3,⟨wA,λj=>?_,HH.2.2.2.1,?_⟩,b9,i3⟩,c0,f4⟩
  .rw[Wq,aaV];split<;>simp
  rcases HH.2.2.2.2 with⟨r1,r2,_⟩|r
  .exact .inl ⟨r1,r1,A,rfl⟩
  exact .inr r
 obtain⟨a7,hi,rfl,HI,c0,HO⟩:=hrel;obtain⟨d4,a',e',O5,c4,b1⟩:=X HI;by_cases M6:a7<4+v3
 .have a8:(a7:Z)<4+(v3:Z):=A;have c7:(a7:Z)<19:=A;have f5:a7<CT.length:=by show a7<19;omega
  have c8:=c0.cell f5;have d5:=YF a7;have f6:=H λv a'' e''=>mp.next (v:=v) (a'':=a'') (e'':=e'') HH O5 M6;generalize CT.getD a7 0=oi at c8 d5 f6;rw[WQ] at c8;have a8:(oi:Z)<19:=A;have i4:=H<|Cz g s hs a' (K ao l.length d) e' 3 A O5.2.2.1 wr.drew c4;have c5:=O5.1;have c6:=H b1;have t:=H c4;clear O5 c4 b1 f5;have b3:wr.drew.cell? ⟨gO,a7,O⟩=J (I Q (oi:N)):=c8;go_upto_region 8 with fail;refine Ai (S:=λW=>W.cell? ⟨gO,a7,O⟩=J (I Q (oi:N))) (L:=8) B ?_;refine AL (i:=0) (v:=K (J ⟨gO+1,0,O⟩) 19 19) (J 28) rfl rfl B B B B (λ_ _ _ h=>h) (.inl ⟨rfl,λW hW=>by go_simp⟩) b3 ?_;simp only[Act.put,WH,WT,WV];refine AL (i:=1) (v:=K (J ⟨gO,0,O⟩) 19 19) (J 29) rfl rfl B B B B (λ_ _ _ h=>h) (.inl ⟨rfl,λW k5=>by go_simp⟩) b3 ?_;simp only[Act.put,WH,WT,WV];refine AL (i:=2) (v:=I Q a7) (J 30) rfl rfl B B B B (λ_ _ _ h=>h) (.inl ⟨rfl,λW k6=>by go_simp⟩) b3 ?_;simp only[Act.put,WH,WT,WV];refine AL (i:=3) (v:=V<|J ⟨gO,a7,O⟩) (J 31) rfl rfl B B B B (λ_ _ _ h=>h) (.inl ⟨rfl,λW k7=>by go_simp⟩) b3 ?_;simp only[Act.put,WH,WT,WV];refine AL (i:=4) (v:=I Q oi) (J 32) rfl rfl B B B B (λ_ _ _ h=>h) (.inl ⟨rfl,λW k8=>by go_simp⟩) b3 ?_;simp only[Act.put,WH,WT,WV];refine AL (i:=5) (v:=V<|J ⟨g,0,O⟩) (J 33) rfl rfl B B B B (λ_ _ _ h=>h) (.inl ⟨rfl,λW k9=>by go_simp⟩) b3 ?_;simp only[Act.put,WH,WT,WV];refine Ah (i:=6) B ?_;refine WE rfl λK' hK=>?_;go_simp;apply i4.mono;rintro r w5 ⟨v,a5,e5,rfl,h5,e7,c7⟩;have c8:gO+1≠g:=A;have e8:gO≠g:=A;have a8:=(c6.kept ((Ag.refl (λk=>k=g) wr).drew.trans c7) c8);have c8:=(c0.kept ((Ag.refl (λk=>k=g) wr).drew.trans c7) e8);have c9:=(c7.cell (p:=⟨gO,a7,O⟩) (show gO<wr.drew.heap.size from c0.lt) e8).trans b3;have b3:=a8.cell (j:=oi) (by rw[c5];exact d5);rw[WQ] at b3;have e8:=a8.thaw oi;refine hK _ _ ⟨λ_=>c9,?_⟩;clear hK;refine Ah (i:=7) B ?_;refine WE rfl λc0 hK=>?_;go_simp;refine hK _ _ ⟨λ_=>c9,?_⟩;clear hK;refine Ah (i:=8) B ?_;refine WE rfl λc0 hK=>?_;go_simp;refine hK _ _ ⟨λh=>κ rfl h,?_⟩;clear hK;refine Aj B ?_;have c0:=H<|f6 v a5 e5 h5;have f0:=H (e7.kept (Aq w5 (gO+1) oi<|I Q (v:N)) (show ¬g=gO+1 by omega));have f3:=H (a8.set (by rw[c5];exact d5) v);have f4:=H ((HO.drew.trans c7).setCell (p:=⟨gO+1,oi,O⟩) (λhh=>κ hh (show ¬gO+1<w.heap.size by omega))<|I Q (v:N));have d5:=H<|c8.setOther (gO+1) oi A (I Q (v:N));clear h5 e7 c7 a8 c8 c9 b3 e8;go_wp2;go_roundw
  .exact ⟨a7+1,A,by go_num,⟨_,_,_,c0,f0,f3⟩,d5,f4⟩
  exact Ae
 have i5:a7=4+v3:=A;subst i5;obtain⟨M,hM⟩:∃M,M=257+v1:=⟨_,rfl⟩;obtain⟨F,hF⟩:∃F,F=1+v2:=⟨_,rfl⟩;have f7:257+(v1:Z)=M:=A;have f8:1+(v2:Z)=F:=A;rw[f7,f8];have a8:M<=288/\257<=M:=A;have b3:F<=32/\1<=F:=A;have f9:=H hM;have g0:=H hF;have ha':=O5.2.2.1;have D:=H (RM ι (gO+1) 0 19 d4 (by rw[O5.1];omega) O5.2.1 wr b1);rw[O5.1] at D;have u:=H λw1 h1=>Cw g s a' (K ao l.length d) e' 2 w1 h1;have d6:=O5.2.2.2;have g1:=H d6;have b5:C ((286<M\/30<F\/Fa d4=ι)->CC s a=O/\QV e' 2=2):=by
  intro hx;rcases d6 with⟨rfl,q2,q3,q4⟩|⟨rfl,q2⟩
  .refine ⟨?_,rfl⟩;rcases HH.2.2.2.2 with⟨_,_,r3,r4,r5⟩|⟨r1,_⟩
   .rcases hx with h|h|h
    .exact Mu (.inl<|by rw[<-r3];omega)
    .exact Mu (.inr<|by rw[<-r4];omega)
    exact RN<|by rw[<-r5,<-q4];exact h
   omega
  exact⟨q2,rfl⟩
 have t:=H c4;have c6:=H b1;have a8:=H O5;have c5:=O5.1;clear hM hF f7 f8 d6 c4 b1 O5;have d7:=t.c3;generalize g2:Fa d4=fb at D b5;have i6:=H g2;clear g2;simp only[aaM,abE] at D;by_cases c1:286<M
 .have a8:(286:Z)<(M:Z):=A;have HNN:=H<|b5 (.inl c1);exact aeD
 have a8:¬(286:Z)<(M:Z):=A;by_cases c2:30<F
 .have a8:(30:Z)<(F:Z):=A;have HNN:=H<|b5 (.inr (.inl c2));exact aeD
 have a8:¬(30:Z)<(F:Z):=A;cases fb with
 |false=>
  have HNN:=H<|b5 (.inr (.inr rfl));exact aeD
 |true=>
  rcases X g1 with⟨i7,q2,q3,q4⟩|⟨i8,q2⟩
  .subst i7;have d0:v1=Ar s a 5/\v2=Ar s (a+5) 5/\v3=Ar s (a+10) 4/\a3=a+14:=by
    rcases HH.2.2.2.2 with⟨_,r2,r3,r4,r5⟩|⟨r1,_⟩
    .exact ⟨r3,r4,r5,r2⟩
    omega
   have g3:=H d0;have d8:=H q3;have d9:=H q4;have a8:gO+1≠g:=A;have b9:=H<|qT g s hs a' (K ao l.length d) ha' (gO+1) 19 d4 c5 (M+F) A wr t c6;rw[aav] at b9;have g4:wr.cell? ⟨g,3,O⟩=J (I Q 0):=d7;clear d7 d0 q3 q4 q2 g1;go_wp2_with (go_at_call 132;refine D.mono ?_;rintro r w5 ⟨rfl,rfl⟩);apply b9.mono;rintro r w6 ⟨J6,y,e6,k2,n,a0,rfl,T,x,g5⟩;have i:=H x;have m:=H<|HO.trans J6;have d3:=x.c3;have a8:=J6.size;clear x J6 b9 g4;rcases g5 with⟨e0,ll,a4,i9,b6⟩|⟨e0,a4⟩
   .subst e0;obtain⟨b4,j6,_,_⟩:=VY c5 a4 ha';have a8:n=M+F:=A;obtain⟨gl,b1,j0,j7,j8⟩:=b6.form A;injection j0 with g6 j9 g7;subst g6 g7;have b7:=H<|BG.ofOwns i9.symm b6;have b1:=H a4;have a8:=HO.size;have b2:C (CC s a=if Fa (ll.take M)=θ/\IA (ll.drop M)=θ/\ll.getD 256 0≠0 then J (y,ll.take M,ll.drop M) else O):=by
     obtain⟨r1,r2,r3,r4⟩:=X g3;have a8:M=257+Ar s a 5:=(by rw[<-r1];exact f9);have b3:F=1+Ar s (a+5) 5:=(by rw[<-r2];exact g0);have h9:=X b1;rw[X d9,X d8,r3,a8,b3] at h9;have b1:=X d8;have:=YD (s:=s) (a:=a) (a':=y) (l:=ll) A (by rw[<-a8,<-b3];omega) (by rw[<-r3];omega) (by rw[<-r3,<-X d9];exact i6) h9;rw[<-a8] at this;exact this
    have c:=H (RM ι gl 0 a0 (ll.take M) akY (λj=>fI (λa8 hx=>b4 a8<|abb hx) j) w6<|b7.take M);have f:=H (RM θ gl (0+M) (a0-M) (ll.drop M) (by rw[aad];omega) (λj=>fI (λa8 hx=>b4 a8<|List.mem_of_mem_drop hx) j) w6<|b7.drop M);have d1:(ll.take M).length=M:=akY;have d2:(ll.drop M).length=F:=(by rw[aad];omega);rw[d1] at c;rw[d2,WQ] at f;simp only[aaM,abE] at c;simp only[acz] at f;have g8:=H d1;have g9:=H d2;have b0:=b7.cell (j:=256) A;rw[WQ] at b0;have h4:w6.cell? ⟨g,3,O⟩=J (I Q 0):=d3;have a8:n<=a0:=by
     obtain⟨_,h|⟨_,_,_,hv,_,_,k3,_⟩⟩:=b6
     .cases h.1
     injection hv with _ _ i2;omega
    clear b6 a4 d3 d1 d2 b4;have m1:(M:Z)<=a0:=A;have m2:(0:Z)<=(M:Z):=A;have m3:=ww M;have m4:(M:Z)<=n:=A;have m5:n-M=F:=A;have m6:(256:Z)<(n:Z):=A;have m7:(M:Z)<=M+(F:Z):=A;have k0:¬a0=M:=A;generalize e4:ll.getD 256 0=z at b0 b2;generalize j1:Fa (ll.take M)=f1 at c b2;generalize j2:IA (ll.drop M)=f2 at f b2;clear e4 j1 j2;have HFA6:=H<|Cw g s y (K ao l.length d) 0 2 w6 i;cases f1 with
    |false=>
     have N4:C<|CC s a=O:=(by rw[X b2];exact Wx λh=>by cases h.1);exact aeR
    |true=>
     cases f2 with
     |false=>
      have N4:C<|CC s a=O:=(by rw[X b2];exact Wx λh=>by cases h.2.1);exact aeR
     |true=>
      by_cases hz:z=0
      .subst hz;have k4:w6.cell? ⟨gl,256,O⟩=J (I Q 0):=b0;clear b0;have N4:C<|CC s a=O:=(by rw[X b2];exact Wx λh=>h.2.2 rfl);exact aeR
      have a8:((z:Z)==0)=false:=act;have j3:C<|CC s a=J (y,ll.take M,ll.drop M):=(by rw[X b2];exact Wz ⟨rfl,rfl,hz⟩);have j4:=b7.ne i;have a8:¬(gl=g\/(S gl/\gl<w.heap.size)\/w6.heap.size<=gl):=A;have b0:St w6 g (λk=>k=g\/(S k/\k<w.heap.size)\/w6.heap.size<=k) s y l 0:=St.next HR J2 (λb hb=> .inr (.inl ⟨e b hb,by
       obtain⟨b1,hg⟩:=DD J2 (b:=b.block) (by rw[hb];rfl);exact(Wt.1 hg).1⟩)) m i
      have h6:=H (Qa g (λk=>k=g\/(S k/\k<w.heap.size)\/w6.heap.size<=k) (.inl rfl) s hs y l q T gl 0 a0 (ll.take M) (by have:=X g8;omega) a8 gl M (a0-M) (ll.drop M) (by have:=X g9;omega) a8 w6.drew (λk hk=> .inr (.inr hk)) b0 (b7.take M)<|by have:=b7.drop M;rw[WQ] at this;exact this);rw[X g8,X g9] at h6;clear b2;go_wp2_with fail;apply c.mono;rintro r w7 ⟨rfl,rfl⟩;go_wp2_with fail;apply f.mono;rintro r w7 ⟨rfl,rfl⟩;go_wp2_with fail;refine Ai (S:=λ_=>True) (L:=7) B ?_;refine tk 0 15 (V<|J ⟨g,0,O⟩) 83 trivial ?_;refine tk 1 15 (K (J ⟨gl,0,O⟩) n a0) 84 trivial ?_;refine tk 2 15 (I Q M) 85 trivial ?_;refine tk 3 15 (K (J ⟨gl,0,O⟩) M a0) 86 trivial ?_;refine tk 4 15 (K (J ⟨gl,0,O⟩) n a0) 87 trivial ?_;refine tk 5 15 (I Q M) 88 trivial ?_;refine tk 6 15 (K (J ⟨gl,M,O⟩) F<|a0-M) 89 trivial ?_;refine Ah (i:=7) B ?_;refine WE rfl λa0 hK=>?_;go_simp;apply h6.mono;rintro r w9 ⟨rfl,j5,a9,l9,e9,h7,h8⟩;refine hK _ _ ⟨λh=>κ rfl h,?_⟩;clear hK;refine Aj B ?_;go_wp2_with fail;go_end0;refine⟨rfl,?_,a9,l9,e9,?_,_,h8,?_⟩
      .exact (m.of_g o).drew.transNew j5 (λa7 hi h=>by
        rcases h with h|h|h
        .exact h ▸ o
        .exact h.1
        exact κ h A)
      .rw[ci l j3];exact h7
      intro k hk h;rcases h with h|h|h
      .exact h ▸ o
      .exact h.1
      exact κ h A
   subst e0;have:w6.cell? ⟨g,3,O⟩=J (I Q 2):=d3;have N4:C<|CC s a=O:=by
    obtain⟨r1,r2,r3,r4⟩:=X g3;have h9:=a4;rw[X d9,X d8,X f9,X g0,r1,r2,r3] at h9;exact YC h9
   clear d3 a4;go_wp2_with fail;refine wI (abk rfl _ _ _) rfl ?_;exact⟨rfl,m.of_g o,y,l,2,⟨T,q,.inr ⟨EJ l N4,A⟩⟩,S,St.next HR J2 e m i,λ_ _ h=>h⟩
  subst i8;have N4:=H q2;clear q2 d7;have HRE:=H<|Rc g s a' (K ao l.length d) 2 A (K (J ⟨gO+1,0,O⟩) 19 19) (M+F) wr t;rw[aav] at HRE;have:wr.cell? ⟨g,3,O⟩=J (I Q 2):=t.c3;go_wp2_with (first
   |(go_at_call 132;refine D.mono ?_;rintro r w5 ⟨rfl,rfl⟩)
   |(go_at_call 133;refine HRE.mono ?_;rintro r w7 ⟨rfl,rfl⟩))
  refine wI (abk rfl _ _ _) rfl ?_;exact⟨rfl,HO.of_g o,_,l,2,⟨ha',q,.inr ⟨EJ l N4,A⟩⟩,S,St.next HR J2 e HO t,λ_ _ h=>h⟩
def YG:∀{f a:N} {o:E υ} {a':N} {c :E υ},NR s L D f a o=.inl (a',c)->a<a'/\a'<=8*s.size
 |0,a,o,a',c,h=>akU
 |f+1,a,o,a',c,h=>by
  rw[NR] at h;split at h
  .rename_i r b;subst h;unfold Fk at b;split at b
   .cases b
   rename_i y g c;have:=Ih c;split at b
   .injection b with b;injection b with b;injection b with d e;omega
   split at b
   .split at b
    .cases b
    cases b
   split at b
   .cases b
   unfold FP at b;split at b
   .cases b
   split at b
   .cases b
   split at b
   .cases b
   split at b
   .cases b
   split at b
   .cases b
   split at b
   .cases b
   cases b
  rename_i i j b;have d:=RB b;have e:=YG h;omega
def fJ{b :E υ}(h:Gb s L D a o=.inl (a',b)):a<a'/\a'<=8*s.size:=YG h
def mr(h:CC s a=J (a',L,D)):a<=a':=by
 unfold CC at h;split at h
 .cases h
 split at h
 .cases h
 split at h
 .cases h
 split at h
 .cases h
 split at h
 .cases h
 rename_i c d b;split at h
 .injection h with h;injection h with e f;have:=VY (Je _ _ _) b A;omega
 cases h
def LG(s:Y)(a:N)(o:E υ):Fm s a o=if Ar s (a+1) 2=0 then Iz s (a+3) o else if Ar s (a+1) 2=1 then Gb s CF CX (a+3) o else if Ar s (a+1) 2=2 then NW s (a+3) o else .inr 2:=by
 unfold Fm NW;have:=Cv s (a+1) 2;generalize Ar s (a+1) 2=k at this
 match k,this with
 |0,_=>rfl
 |1,_=>rfl
 |2,_=>rfl
 |3,_=>rfl
def GA{b :E υ}(h:EI s a o=.inl (a',b)):a<a'/\a'<=8*s.size:=by
 unfold EI at h;split at h
 .cases h
 rw[LG] at h;split at h
 .unfold Iz at h;have:=Ra<|a+3;exact akL
 split at h
 .have:=fJ h;omega
 split at h
 .unfold NW at h;split at h
  .cases h
  rename_i c L D b;have h1:=mr b;have h2:=fJ h;omega
 cases h
def KQ(s:Y):N->N->E υ->iv
 |0,_,_=> .inr 2
 |f+1,a,o=>match EI s a o with
  | .inr e=> .inr e
  | .inl (a',o')=>if AV s a=1 then .inl (a',o') else KQ s f a' o'
def Na:∀{f b a:N} {o:E υ},8*s.size<a+f->8*s.size<a+b ->a<=8*s.size->KQ s f a o=KQ s b a o
 |0,_,a,o,h,_,c=>akX
 |_+1,0,a,o,_,h,c=>akX
 |f+1,b +1,a,o,d,e,c=>by
  rw[KQ,KQ];split
  .rfl
  rename_i g c b;have:=GA b;split
  .rfl
  exact Na A A A
def EK(s:Y)(a:N)(o:E υ):iv:=KQ s (8*s.size+1) a o
def OX(h:EI s a o=.inr e):EK s a o=.inr e:=by rw[EK,KQ,h]
def KR{b :E υ}(h:EI s a o=.inl (a',b))(c:AV s a=1):EK s a o=.inl (a',b):=by
 rw[EK,KQ,h];exact Wz c
def RO{b :E υ}(h:EI s a o=.inl (a',b))(c:AV s a≠1):EK s a o=EK s a' b :=by
 have:=GA h;rw[EK,KQ,h];show(if AV s a=1 then _ else _)=_;rw[Wx c];exact Na A A A
def mt:iv->Y×N×N
 | .inl (a,o)=>(⟨o.toArray⟩,(a+7)/8,0)
 | .inr e=>(⟨#[]⟩,0,e)
def AB(s:Y):Y×N×N:=mt<|EK s 0 []
def St.mono{S':N->Prop}{l:E υ}(h:St w g S s a l e)(i:∀k,k<w.heap.size->S k->S' k):St w g S' s a l e:=by
 obtain⟨j,d,m,c,f⟩:=h;refine⟨j,d,m,c,λb hb=>i _ ?_<|f b hb⟩;exact aiT
def cj(s:Y)(la a:N)(l:E υ)(e:N):Prop:=a<=8*s.size/\l.length<=20000/\la<2/\((e=0/\la=0/\EK s 0 []=EK s a l)\/(e=0/\la=1/\EK s 0 []=.inl (a,l))\/(e≠0/\EK s 0 []=.inr e))
def cj.next{l:E υ}{l':E υ}(h:EK s 0 []=EK s a l)(ha:¬8*s.size<a+3)(hr:iJ s (Fm s a l) a' l' e'):cj s (AV s a) a' l' e':=by
 have c:=GP s a;refine⟨hr.1,hr.2.1,c,?_⟩;have b:EI s a l=Fm s a l:=Wx ha;rcases hr.2.2 with⟨c,d⟩|⟨c,d⟩
 .by_cases e:AV s a=1
  .exact .inr (.inl ⟨d,e,by rw[h];exact KR (b.trans c) e⟩)
  exact .inl ⟨d,A,by rw[h];exact RO (b.trans c) e⟩
 exact .inr (.inr ⟨d,by rw[h];exact OX<|b.trans c⟩)
def cm(w:U):(convert 64 9<|K O 0 0).run F w=.ok (G ⟨#[]⟩) w:=by
 rw[run_convert_bytes_string w 64 9 5 O 0 0 underlying64 underlying5 underlying9]
 rfl
def GB{ao:Option Addr}{l:E υ}(h:w.ownsRow 0 5 1 (K ao l.length c) l.length<|Al l):(convert 64 9<|K ao l.length c).run F w=.ok (G ⟨l.toArray⟩) w:=by
 have a :=h;obtain⟨_,h|⟨b,_,_,d,_⟩⟩:=h
 .have c:=wP h.2;rw[h.1,c];exact cm w
 injection d with e _ f;subst e f;exact EZ (P:=F) w 64 9 5 ⟨b,0,O⟩ _ l underlying64 underlying5 underlying9<|a.cells rfl
def Jg(s:Y)(hs:s.size<=140737488355328)(w:U):
 μ F 31 #[G s] w λr w'=>r=ε (η #[G (AB s).1,I Q (AB s).2.1,I Q (AB s).2.2])/\Am w w':=by
 have b0:C (St (w.alloc<|W #[G s,I Q 0,K O 0 0,I Q 0] Hw) w.heap.size (λp=>w.heap.size<=p) s 0 [] 0):=⟨O,0,WD w _,WZ _ _ _ _,λb hb=>by cases hb⟩;go_in;go_wp2;go_loopw [6,7,8,9] (λa3 _ _ _ wr=>∃la e':N,a3=I Q la/\wr.cell? ⟨w.heap.size,3,O⟩=J (I Q e')/\C (∃q t,cj s la q t e'/\St wr w.heap.size (λp=>w.heap.size<=p) s q t e')/\C (Am w wr)) λa3 _ _ _ wr=>if Ls wr w.heap.size 3=0 then 8*s.size+2-Ls wr w.heap.size 1 else 0
 .obtain ⟨ao,cp,hr,_⟩:=X b0;exact⟨0,0,rfl,hr.c3,⟨0,[],⟨A,Ad,A,.inl ⟨rfl,rfl,rfl⟩⟩,b0⟩,(Ag.refl _ w).alloc _⟩
 obtain⟨la,e',rfl,R,HI,HO⟩:=hrel;obtain⟨a,x,q,b1⟩:=X HI;by_cases b7:la=0/\e'=0
 .obtain ⟨rfl,rfl⟩:=b7;have a7:wr.cell? ⟨w.heap.size,3,O⟩=J (I Q 0):=R;have b9:EK s 0 []=EK s a x:=by
   rcases q.2.2.2 with⟨_,_,h⟩|⟨_,h,_⟩|⟨h,_⟩
   .exact h
   .cases h
   exact κ rfl h
  have O2:=H b9;have b0:=q.1;have hl:=q.2.1;obtain⟨ao,cp,hr,S,a4⟩:=b1;have T:=H<|AR R;have l:=H<|AR hr.c1;have HB:=H<|VL w.heap.size s hs a (K ao x.length cp) 0 b0 wr hr;have HR:=H hr;have J2:=H S;have V2:=H a4;clear q b9 hr S a4 R HI;go_wp2_with fail;apply HB.mono;rintro r w1 ⟨rfl,c0,c4⟩;have HN:=H (Cz w.heap.size s hs _ (K ao x.length cp) _ 2 A (by split<;>omega) w1 c0);have c5:=H c4;have c6:(if a<8*s.size then AV s a else 0)<2:=aly
  have b2:C (a<8*s.size->(if a<8*s.size then AV s a else 0)=AV s a):=λh=>Wz h
  generalize(if a<8*s.size then AV s a else 0)=bv at c6 b2 ⊢;clear c0 c4 a7;go_wp2_with fail;apply HN.mono;rintro r P ⟨kd,a2,e2,rfl,z,b0,b9⟩;have d4:kd<4:=z.1;have G7:=H<|c5.trans b9;have T2:=H b0;have a5:=b0.c3;have H2:=H z;have a6:=z.2.1;clear z b0 b9 HN c5;by_cases i:8*s.size<a+3
  .have b3:e2=2:=by
    have z:=X H2;by_cases D:a<8*s.size
    .rw[Wz D,Wz D] at z;by_cases he:e2=0
     .have:=z.ok he;omega
     exact(z.bad he).2
    rw[Wx D,Wx D] at z;exact z.stay Ac
   subst b3;have c7:P.cell? ⟨w.heap.size,3,O⟩=J (I Q 2):=a5;have e:C<|AB s=(⟨#[]⟩,0,2):=by
    unfold C AB;rw[X O2,OX (show EI s a x=.inr 2 from Wz i)];rfl
   have d0:C<|Am w P:=HO.transNew G7 λp y h=>κ y A;clear a5;go_wp2_with fail;go_quiet (fail);go_wp2_with fail;go_ret3;rw[X e];exact⟨rfl,d0.drewN _⟩
  have b0:bv=AV s a/\kd=Ar s (a+1) 2/\a2=a+3/\e2=0:=by
   have z:=X H2;have D:a<8*s.size:=A;rw[Wz D,Wz D] at z;have hb:=b2 D;by_cases he:e2=0
   .have:=z.ok he;exact⟨hb,this.2.1,A,he⟩
   have:=(z.bad he).1;omega
  obtain⟨d1,c8,c9,b3⟩:=b0;subst b3 c9 d1;have:P.cell? ⟨w.heap.size,3,O⟩=J (I Q 0):=a5;have a0:=H c8;have a1:=H<|St.next HR J2 V2 G7 T2;have v:C<|Am w P:=HO.transNew G7 λp y h=>κ y A;have d2:BI (λp=>w.heap.size<=p) P:=λp y=>WI v.size y
  clear c8 a5 H2 b2;have L:=X a0;by_cases k0:kd=0
  .subst k0;have f:C<|Fm s a x=Iz s (a+3) x:=by unfold C;rw[LG,Wz L.symm]
   have D:=H (mn w.heap.size (λp=>w.heap.size<=p) (WF _) s hs (a+3) x hl a6 P d2 a1);clear L a0;go_wp2_with (go_at_call 69;refine D.mono ?_;rintro r w9 ⟨rfl,Y0,m,j,k,t,u⟩;have g:=H (v.transNew Y0 λp y h=>κ y A);have d:=H t;have c:=H u;clear Y0 t u);exact aeC
  have D:((kd:Z)==0)=false:=act
  by_cases k1:kd=1
  .subst k1;have f:C<|Fm s a x=Gb s CF CX (a+3) x:=by unfold C;rw[LG,Wx A,Wz L.symm]
   clear L a0;go_wp2_with fail;apply(iL P).mono;rintro r w3 ⟨g1,c1,g2,c2,rfl,b4,b2,d5,d6,D⟩;have:=b4.lt;have a5:=b2.lt;have a8:=v.size;have b0:=D.size;have a5:St w3 w.heap.size (λp=>p=w.heap.size\/(w.heap.size<=p/\p<P.heap.size)\/w3.heap.size<=p) s (a+3) x 0:=by
    obtain⟨b9,c0,c4,b0,b3⟩:=X a1;refine⟨b9,c0,c4.kept D λa3=>a3,Dp b0 D,λb hb=> .inr (.inl ⟨b3 b hb,?_⟩)⟩;obtain⟨b3,hg⟩:=DD b0 (b:=b.block) (by rw[hb];rfl);exact(Wt.1 hg).1
   have:=T2.lt;have b0:=H (Qa w.heap.size (λp=>p=w.heap.size\/(w.heap.size<=p/\p<P.heap.size)\/w3.heap.size<=p) (.inl rfl) s hs (a+3) x hl a6 g1 0 c1 CF alh A g2 0 c2 CX (by rw[CX,wA];omega) A w3 (λp y=> .inr (.inr y)) a5 b4 b2);rw[BU,show CX.length=32 from by rw[CX,wA]] at b0;have d3:=H D;clear b4 b2 D a5;go_wp2_with (go_at_call 71;refine b0.mono ?_;rintro r w9 ⟨rfl,Y0,m,j,k,t,u⟩;have g:=H ((v.trans d3).transNew Y0 λp y h=>κ y A);have d:=H t;have c:=H (u.mono (S':=λp=>w.heap.size<=p) λp _ h=>A);clear Y0 t u);exact aeC
  have D:((kd:Z)==1)=false:=act
  by_cases k2:kd=2
  .subst k2;have f:C<|Fm s a x=NW s (a+3) x:=by unfold C;rw[LG,Wx A,Wx A,Wz L.symm]
   have D:=H (mq w.heap.size (λp=>w.heap.size<=p) (WF _) s hs (a+3) x hl a6 P a1);have a8:=v.size;clear L a0;go_wp2_with (go_at_call 72;refine D.mono ?_;rintro r w9 ⟨rfl,Y0,m,j,k,t,S9,u,D⟩;have g:=H (v.transNew Y0 λp y h=>κ y A);have d:=H t;have c:=H (u.mono (S':=λp=>w.heap.size<=p) λp _ h=>(wM p P.heap.size).elim (λy=>D p y h) λy=>WI a8 y);clear Y0 t u D);exact aeC
  have:((kd:Z)==2)=false:=act
  have f:C<|Fm s a x=.inr 2:=by unfold C;rw[LG,Wx A,Wx A,Wx A]
  have t:=H<|Cw w.heap.size s (a+3) (K ao x.length cp) 0 2 P T2;clear L a0;go_wp2_with (go_at_call 73;refine t.mono ?_;rintro r w9 ⟨rfl,o,Y0⟩;have g:=H (v.transNew Y0 λp y h=>κ y A);have c:=H<|St.next HR J2 V2 (G7.trans Y0) o;clear Y0 o);have d:C<|iJ s (.inr 2) (a+3) x 2:=⟨a6,hl,.inr ⟨rfl,A⟩⟩;obtain⟨m,b5⟩:∃a3,a3=a+3:=⟨_,rfl⟩;obtain⟨j,b6⟩:∃a3,a3=x:=⟨_,rfl⟩;obtain⟨k,y⟩:∃a3,a3=2:=⟨_,rfl⟩;have c:C (St w9 w.heap.size (λp=>w.heap.size<=p) s m j k):=by rw[b5,b6,y];exact c
  have d:C<|iJ s (.inr 2) m j k:=by rw[b5,b6,y];exact d
  clear b5 b6 y;exact aeC
 by_cases he:e'=0
 .subst he;obtain⟨a3,p⟩:la=1/\EK s 0 []=.inl (a,x):=by
   rcases q.2.2.2 with⟨_,h,_⟩|⟨_,h,z⟩|⟨h,_⟩
   .exact κ ⟨h,rfl⟩ b7
   .exact ⟨h,z⟩
   exact κ rfl h
  subst a3;obtain⟨ao,cp,hr,S,a4⟩:=b1;have t:∀n,(convert 64 9<|K ao x.length cp).run F (wr.drewN n)=.ok (G ⟨x.toArray⟩) (wr.drewN n):=λn=>GB (w:=wr.drewN n) S
  have:=t 0;have e:C<|AB s=(⟨x.toArray⟩,(a+7)/8,0):=by unfold C AB;rw[p];rfl
  have:=hr.c1;have:=hr.c2;have:wr.cell? ⟨w.heap.size,3,O⟩=J (I Q 0):=R;have:a<=1125899906842624:=by have:=q.1;omega
  clear q p hr S a4 R HI;exact agw
 have:((e':Z)==0)=false:=act
 have p:((e':Z) !=0)=true:=akQ
 have e:C<|AB s=(⟨#[]⟩,0,e'):=by
  rcases q.2.2.2 with⟨h,_⟩|⟨h,_⟩|⟨_,h⟩
  .exact κ h he
  .exact κ h he
  unfold C AB;rw[h];rfl
 have p:=q.2.2.1;clear q b1 HI;by_cases a3:la=0
 .subst a3;exact agw
 have:((la:Z)==0)=false:=act
 exact agw
abbrev yi:TypeId:=163
def Up(w:U)(g:N)(s:Y)(a:N)(o:M):Prop:=w.heap[g]? =J (W #[G s,I Q a,o] yi (0,0))
section
variable {w:U} {g:N} {s:Y} {a:N} {o:M}
def Up.lt(h:Up w g s a o):g<w.heap.size:=(Wt.1 h).1
def Up.c0(h:Up w g s a o):w.cell? ⟨g,0,O⟩=J (G s):=by rw[Wu w g 0 _ _ (0,0) h];rfl
def Up.c1(h:Up w g s a o):w.cell? ⟨g,1,O⟩=J (I Q a):=by rw[Wu w g 1 _ _ (0,0) h];rfl
def Up.c2(h:Up w g s a o):w.cell? ⟨g,2,O⟩=J o:=by rw[Wu w g 2 _ _ (0,0) h];rfl
def Up.thaw(h:Up w g s a o)(i:N):w.frozen? ⟨g,i,O⟩=false:=WK w g i _ _ h
def Up.set1(h:Up w g s a o){v:M}(b:v=I Q a'):Up (w.setCell ⟨g,1,O⟩ v) g s a' o:=by subst b;exact WL w g 1 _ _ _ h
def Up.set2(h:Up w g s a o)(b :M):Up (w.setCell ⟨g,2,O⟩ b) g s a b :=WL w g 2 _ _ _ h
def Up.kept{w':U}(h:Up w g s a o)(b:Ag S w w')(c:¬S g):Up w' g s a o:=(b.block g h.lt c).trans h
def Up.drewN(h:Up w g s a o)(n:N):Up (w.drewN n) g s a o:=h
end
def fK(g:N)(s:Y)(c:s.size<=140737488355328)(a:N)(o:M)(f:a<8*s.size)(w:U)(h:Up w g s a o):
 μ F 249 #[V<|J ⟨g,0,O⟩] w λr w'=>r=ε (η #[I Q<|AV s a,ζ θ])/\Up w' g s (a+1) o/\Ag (λk=>k=g) w w':=by
 have:=h.c0;have:=h.c1;have:=h.thaw 1;have d:=h;have c:a/8<s.size:=A;have:(a:Z)/8<(s.size:Z):=A;have:(0:Z)<=(a:Z)/8:=A;have:((a:Z)/8).toNat=a/8:=A;have:(0:Z)<=(a:Z)%8:=A;have:((a:Z)%8).toNat=a%8:=A;have:=AA (s:=s) (k:=a/8) c;have c:=Bj s<|a/8;have e:(AV s a=As s (a/8)/2^(a%8)%2):=rfl;have:=lT (i:=a%8) c;generalize As s (a/8)=b at*;go_in;go_wp2_with fail;go_quiet (fail);go_wp2_with fail;go_quiet (fail);go_wp2;go_ret2;refine⟨EY (hJ (Value.int Q) ?_) rfl,?_,?_⟩
 .rw[e,acq,aax,wY];rfl
 .exact (d.drewN _).set1<|by congr 1
 exact aiB
def YH(g:N)(s:Y)(b:s.size<=140737488355328)(a:N)(o:M)(d:¬a<8*s.size)(b:a<=8*s.size)(w:U)(h:Up w g s a o):
 μ F 249 #[V<|J ⟨g,0,O⟩] w λr w'=>r=ε (η #[I Q 0,ζ ι])/\Up w' g s a o/\Ag (λk=>k=g) w w':=by
 have:=h.c0;have:=h.c1;have c:=h;have:¬(a:Z)/8<(s.size:Z):=A;go_in;go_wp2_with fail;go_quiet (fail);go_wp2;go_ret2;exact⟨rfl,c.drewN _,(Ag.refl (λk=>k=g) w).drewN _⟩
def mu{b:N}(a:v<2^i)(d:b<2)(c:i<=16):bits .or Q (v:Z) ((b:Z)*2^i)=((v+b*2^i:N):Z):=by
 have:2^i<=2^16:=wg A c;have:b*2^i<=1*2^i:=aag _ A;have e:(b:Z)*2^i=((b*2^i:N):Z):=alq
 rw[e,Ry _ _ A A,aee,aej i (b*2^i) v Ad a,acb]
def Gf(g:N)(s:Y)(R:s.size<=140737488355328)(a:N)(o:M)(n:N)(y:n<=16)(ha:a<=8*s.size)(w:U)(y:Up w g s a o):
 μ F 191 #[V<|J ⟨g,0,O⟩,I Q n] w λr w'=>Ag (λk=>k=g) w w'/\
  ((a+n<=8*s.size/\r=ε (η #[I Q<|Ar s a n,ζ θ])/\Up w' g s (a+n) o)\/(8*s.size<a+n/\r=ε (η #[I Q 0,ζ ι])/\Up w' g s (8*s.size) o)):=by
 have T:=H y;clear y;go_in;go_wp2;go_loopw [6,7,8,9,11] (λx _ _ _ z wr=>∃v i:N,i<=n/\x=I Q v/\z=I Q i/\C (v=Ar s a i/\a+i<=8*s.size/\Up wr g s (a+i) o)/\C (Ag (λk=>k=g) w wr)) λ_ _ _ _ z _=>n-(intOf z).toNat
 .exact ⟨0,0,A,rfl,rfl,⟨rfl,A,T⟩,Ag.refl _ w⟩
 obtain⟨v,i,_,rfl,rfl,S,x⟩:=hrel;by_cases a0:i<n
 .obtain ⟨l,f,c⟩:=X S;have y:(i:Z)<n:=A;by_cases m:a+i<8*s.size
  .have u:=H<|fK g s R (a+i) o m wr c;have p:=GP s<|a+i;have y:v<2^i:=by rw[l];exact Cv s a i
   have D:C<|Ar s a (i+1)=v+AV s (a+i)*2^i:=by unfold C;rw[Ar,l]
   have t:=mu y p (show i<=16 by omega);have y:2^i<=2^15:=wg A A;generalize AV s (a+i)=b at u p D t;have y:b*2^i<=1*2^i:=aag _ A;have p:(0:Z)<=(i:Z):=A;have y:(i:Z)<64:=A;have T:=ww i;have p:IntKind.i64.wrap ((b:Z)*2^i)=(b:Z)*2^i:=by
    have p:(b:Z)*2^i=((b*2^i:N):Z):=alq;rw[p];exact Aw _ A
   generalize hq:v+b*2^i=q at t D;clear l c hq;go_wp2_with (go_at_call 249;refine u.mono ?_;rintro r w1 ⟨rfl,d,e⟩;have h:=H d;have j:=H e;clear d e);go_roundw
   .exact ⟨q,i+1,A,rfl,by go_num,⟨(X D).symm,A,h⟩,x.trans j⟩
   exact Ae
  have u:=H<|YH g s R (a+i) o m f wr c;have L:a+i=8*s.size:=A;clear l c;go_wp2_with (go_at_call 249;refine u.mono ?_;rintro r w1 ⟨rfl,d,e⟩;have h:=H d;have j:=H e;clear d e);go_ret2;refine⟨x.trans j,.inr ⟨A,rfl,?_⟩⟩;have:=X h;rw[L] at this;exact this
 have P:i=n:=A;subst P;go_wp2;go_ret2;obtain⟨l,f,c⟩:=X S;exact⟨x,.inl ⟨f,by rw[l];rfl,c⟩⟩
def tP(g:N)(s:Y)(b:s.size<=140737488355328)(a:N)(o:M)(c:a<=8*s.size)(w:U)(h:Up w g s a o):
 μ F 128 #[V<|J ⟨g,0,O⟩] w λr w'=>r=ε (I Q ((a+7)/8:N))/\w'=w:=by
 have:=h.c1;go_in;go_wp2;go_ret;exact⟨AU<|hJ (Value.int Q) A,rfl⟩
def yI(g:N)(s:Y)(b:s.size<=140737488355328)(a:N)(o:M)(c:a<=8*s.size)(w:U)(h:Up w g s a o):
 μ F 250 #[V<|J ⟨g,0,O⟩] w λr w'=>r=ε (η #[])/\Up w' g s (Ck a) o/\Ag (λk=>k=g) w w':=by
 have:=h.c1;have:=h.thaw 1;have d:=H<|tP g s b a o c w h;have e:=H h;have:(a+7)/8<=140737488355329:=A;have f:C<|8*((a+7)/8)=Ck a:=by unfold C Ck;omega
 generalize(a+7)/8=u at*;go_in;go_wp2_with (go_at_call 128;refine d.mono ?_;rintro r i ⟨rfl,rfl⟩);go_end0;exact⟨rfl,e.set1 (by rw[<-X f,aaA];rfl),(Ag.refl (λk=>k=g) _).setCell (p:=⟨g,1,O⟩) (λ_=>rfl) _⟩
def iQ(g:N)(s:Y)(a:s.size<=140737488355328)(q:N)(o:M)(c:N)(d:q+c<=s.size)(w:U)(h:Up w g s (8*q) o):
 μ F 252 #[V<|J ⟨g,0,O⟩,I Q c] w λr w'=>r=ε (η #[G<|s.extract q (q+c),ζ θ])/\Up w' g s (8*q+8*c) o/\Ag (λk=>k=g) w w':=by
 have:=h.c0;have a:=h.c1;have:=h.thaw 1;have b:=h;rw[show((8*q:N):Z)=8*(q:Z) by omega] at a;have:(8*(q:Z))/8=(q:Z):=A;have:¬(s.size:Z)-q<(c:Z):=A;have:(q:Z)+c<=(s.size:Z):=A;have:((q:Z)+c).toNat=q+c:=A;have:(q:Z)<=q+(c:Z):=A;have:(0:Z)<=(q:Z):=A;go_in;go_wp2;go_ret2;exact⟨rfl,b.set1 (by congr 1),(Ag.refl (λk=>k=g) _).setCell (p:=⟨g,1,O⟩) (λ_=>rfl) _⟩
def cn(g:N)(s:Y)(b:s.size<=140737488355328)(q:N)(o:M)(c:N)(a:q<=s.size)(b:c<=65535)(d:¬q+c<=s.size)(w:U)(h:Up w g s (8*q) o):
 μ F 252 #[V<|J ⟨g,0,O⟩,I Q c] w λr w'=>r=ε (η #[G ⟨#[]⟩,ζ ι])/\w'=w:=by
 have:=h.c0;have a:=h.c1;rw[show((8*q:N):Z)=8*(q:Z) by omega] at a;have:(8*(q:Z))/8=(q:Z):=A;have:(s.size:Z)-q<(c:Z):=A;go_in;go_wp2;go_ret2;exact⟨rfl,rfl⟩
def mw(g:N)(s:Y)(a:N)(ao:Option Addr)(n b m:N)(c:n<=20000)(w:U)(h:Up w g s a<|K ao n b):
 μ F 251 #[V<|J ⟨g,0,O⟩,I Q m] w λr w'=>r=ε (ζ<|decide (n+m<=20000))/\w'=w:=by
 have:=h.c2;go_in;go_wp2;go_ret;exact⟨AU (hJ Value.bool<|by rw[decide_eq_decide];omega),rfl⟩
def co(y:N)(a:¬(257<=y/\y<=285))(w:U):
 μ F 186 #[I Q y] w λr w'=>r=ε (η #[I Q 0,I Q 0,ζ ι])/\w'=w:=by
 by_cases b:y<257
 .have a:(y:Z)<257:=A;exact agi
 have:¬(y:Z)<257:=A;have:(285:Z)<(y:Z):=A;exact agi
def VZ{a b c d e f:M}(h:a=d)(k:b=e)(m:c=f):Ending.returned (η #[a,b,c])=ε (η #[d,e,f]):=by rw[h,k,m]
def Nm(y:N)(g:257<=y)(i:y<=285)(w:U):
 μ F 186 #[I Q y] w λr w'=>r=ε (η #[I Q<|Bg y,I Q<|AM y,ζ θ])/\w'=w:=by
 have:¬(y:Z)<257:=A;have:¬(285:Z)<(y:Z):=A;by_cases g:y<=260
 .have c:AM y=0:=Wz A;have d:Bg y=y-254:=Wz A;have h:(y:Z)<261:=A;have g:C (((y-254:N):Z)=(y:Z)-257+3):=by unfold C;omega
  rw[c,d];clear c d;go_in;go_wp2_with fail;go_ret3;exact⟨VZ (hJ (Value.int Q) (X g).symm) rfl rfl,rfl⟩
 have h:¬(y:Z)<261:=A;by_cases b:y=285
 .subst b;exact agi
 have:((y:Z)==285)=false:=act
 have c:AM y=(y-261)/4:=by
  unfold AM;by_cases h:y<=264
  .rw[Wz h];omega
  rw[Wx h,Wx b]
 have d:Bg y=3+2^((y-261)/4)*(4+(y-261)%4):=by
  unfold Bg;by_cases h:y<=264
  .rw[Wz h,show(y-261)/4=0 by omega,show(y-261)%4=y-261 by omega];omega
  rw[Wx h,Wx b]
 rw[c,d];clear c d;have:((y:Z)-261)/4=(((y-261)/4:N):Z):=A;have:((y:Z)-261)%4=(((y-261)%4:N):Z):=A;have e:(y-261)/4<=5:=A;have:(y-261)%4<4:=wU _ A;have:(0:Z)<=(y:Z)-261:=A;generalize(y-261)/4=n,(y-261)%4=m at*;have a:2^n<=2^5:=wg A e;obtain⟨q,f⟩:∃q,q=2^n*(4+m):=⟨_,rfl⟩;have:(4+(m:Z))*2^n=(q:Z):=by rw[f,aaA,wY,Int.mul_comm];rfl
 have:q<=224:=by have:2^n*(4+m)<=32*7:=abm A A;omega
 exact agS
def mx(d:N)(a:29<d)(w:U):
 μ F 188 #[I Q d] w λr w'=>r=ε (η #[I Q 0,I Q 0,ζ ι])/\w'=w:=by
 have:¬(d:Z)<0:=A;have:(30:Z)<=(d:Z):=A;exact agi
def RP(d:N)(b:d<=29)(w:U):
 μ F 188 #[I Q d] w λr w'=>r=ε (η #[I Q<|AY d,I Q<|Bb d,ζ θ])/\w'=w:=by
 have:¬(d:Z)<0:=A;have:¬(30:Z)<=(d:Z):=A;by_cases g:d<4
 .have b:Bb d=0:=Wz g;have c:AY d=d+1:=Wz g;have h:(d:Z)<4:=A;rw[b,c];clear b c;exact agi
 have h:¬(d:Z)<4:=A;have b:Bb d=d/2-1:=Wx g;have c:AY d=1+2^(d/2-1)*(2+d%2):=Wx g;rw[b,c];clear b c;have:(d:Z)/2-1=((d/2-1:N):Z):=A;have:(d:Z)%2=((d%2:N):Z):=A;have e:d/2-1<=13:=A;have:d%2<2:=wU _ A;generalize d/2-1=n,d%2=m at*;have a:2^n<=2^13:=wg A e;obtain⟨q,f⟩:∃q,q=2^n*(2+m):=⟨_,rfl⟩;have:(2+(m:Z))*2^n=(q:Z):=by rw[f,aaA,wY,Int.mul_comm];rfl
 have:q<=24576:=by have:2^n*(2+m)<=8192*3:=abm A A;omega
 exact agS
def Nb(B:E N)(k:N):N->N
 |0=>0
 |n+1=>Nb B k n+B.getD (8*k+n) 0*2^n
def NX(B:E N):Prop:= ∀x∈B,x<2
def NX.get(a:NX b)(i:N):b.getD i 0<2:=by
 rw[Wq];rcases wM i b.length with hl|hl
 .rw[Wv hl];exact a _<|WJ _
 rw[wj hl];decide
def NX.append{a:E N}(c:NX b)(d:NX a):NX<|b++a:=λx a=>(WY.1 a).elim (c x)<|d x
def Xa(a:NX b)(k n:N):Nb b k n<2^n:=by
 induction n with
 |zero=>exact adG
 |succ n c=>
  have:=a.get<|8*k+n;have:b.getD (8*k+n) 0*2^n<=1*2^n:=aag _ A;rw[Nb,abj];omega
def AW(B:E N):E υ:=(List.range ((B.length+7)/8)).map λk=>b8<|Nb B k 8
def Bn(a:E N):(AW a).length=(a.length+7)/8:=by simp[AW]
def fL(a:NX b)(k:N):∀(n i:N),i<n->Nb b k n/2^i%2=b.getD (8*k+i) 0
 |n+1,i,_=>by
  have d:=a.get<|8*k+n;have c:=Xa a k n;rw[Nb];rcases wM i n with h|h
  .have e:2^n=2^i*(2*2^(n-i-1)):=by rw[<-Nat.pow_succ',<-acm];congr 1;omega
   rw[e,Nat.mul_left_comm,Nat.add_mul_div_left _ _<|Nat.two_pow_pos i,Nat.mul_left_comm,Nat.add_mul_mod_self_left];exact fL a k n i h
  have e:i=n:=A;subst e;rw[Nat.add_mul_div_right _ _<|Nat.two_pow_pos i,adW c,WQ,abV d]
def OY{a:E N}{k:N}(h:∀i,i<n->b.getD (8*k+i) 0=a.getD (8*k+i) 0):Nb b k n=Nb a k n:=by
 induction n with
 |zero=>rfl
 |succ n c=>rw[Nb,Nb,c λi _=>h i A,h n A]
def Eu(a:E N)(k:N)(h:k<(a.length+7)/8):(AW a)[k]? =J (b8<|Nb a k 8):=by simp[AW,h]
def Kt(a:E N)(b i:N):(a++[b]).getD i 0=if i<a.length then a.getD i 0 else if i=a.length then b else 0:=by
 rw[Wq,Wq];by_cases h:i<a.length
 .rw[Wz h,WW h]
 rw[Wx h,WU A];by_cases c:i=a.length
 .subst c;simp
 rw[Wx c];obtain⟨j,c⟩:∃j,i-a.length=j+1:=⟨i-a.length-1,A⟩;rw[c];rfl
def OZ(a:E N)(i:N)(h:a.length<=i):a.getD i 0=0:=by
 rw[Wq,wj h];rfl
def iR{a:E N}(b:N)(h:a.length%8=0):AW (a++[b])=AW a++[b8 b]:=by
 apply abq;intro k;rw[List.getElem?_append];rcases wM k ((a.length+7)/8) with hk|hk
 .rw[Wz (by rw[Bn];exact hk),Eu a k hk,Eu _ k alr];congr 2;exact OY λ_ _=>by rw[Kt,Wz A]
 rw[Wx als,Bn];by_cases e:k=a.length/8
 .rw[Eu _ k alr,show k-(a.length+7)/8=0 by omega];show J _=J _;congr 2;have z:∀n,n<=7->Nb (a++[b]) k (n+1)=b:=by
   intro n;induction n with
   |zero=>intro _;rw[Nb,Nb,Kt,Wx A,Wz A];omega
   |succ n c=>intro _;rw[Nb,c A,Kt,Wx A,Wx A];omega
  exact z 7 A
 rw[wj (by rw[Bn,Ws];simp;omega),wj ako]
def my{a:E N}(b:N)(h:a.length%8≠0):AW (a++[b])=(AW a).set ((AW a).length-1) (b8<|Nb a (a.length/8) 8+b*2^(a.length%8)):=by
 apply abq;intro k;rw[acG,Bn];by_cases e:(a.length+7)/8-1=k
 .rw[Wz e,Wz A,Eu _ k alr];have hk:k=a.length/8:=A;congr 2;subst hk;have z:∀n,Nb (a++[b]) (a.length/8) n=Nb a (a.length/8) n+if a.length%8<n then b*2^(a.length%8) else 0:=by
   intro n;induction n with
   |zero=>rw[Nb,Nb,Wx A]
   |succ n c=>
    rw[Nb,Nb,c,Kt];rcases abF n (a.length%8) with h1|h1|h1
    .rw[Wz (show 8*(a.length/8)+n<a.length by omega),Wx (show ¬a.length%8<n by omega),Wx (show ¬a.length%8<n+1 by omega)];omega
    .rw[Wx (show ¬8*(a.length/8)+n<a.length by omega),Wz (show 8*(a.length/8)+n=a.length by omega),Wx (show ¬a.length%8<n by omega),Wz (show a.length%8<n+1 by omega),OZ a _ A,h1];omega
    rw[Wx (show ¬8*(a.length/8)+n<a.length by omega),Wx (show ¬8*(a.length/8)+n=a.length by omega),Wz (show a.length%8<n by omega),Wz (show a.length%8<n+1 by omega),OZ a _ A];omega
  rw[z 8,Wz A]
 rw[Wx e];rcases wM k ((a.length+7)/8) with hk|hk
 .rw[Eu a k hk,Eu _ k alr];congr 2;exact OY λ_ _=>by rw[Kt,Wz A]
 rw[wj (by rw[Bn,Ws];simp;omega),wj als]
def iS(a:E N)(n:N)(h:(a.length+7)/8=(a.length+n+7)/8):AW (a++List.replicate n 0)=AW a:=by
 apply abq;intro k;rcases wM k ((a.length+7)/8) with hk|hk
 .rw[Eu a k hk,Eu _ k<|by rw[Ws,wA];omega];congr 2;refine OY λi _=>?_;rw[Wq,Wq];rcases wM (8*k+i) a.length with hl|hl
  .rw[WW hl]
  rw[WU hl,wj (l:=a) hl,aaV];split<;>rfl
 rw[wj (by rw[Bn,Ws,wA];omega),wj als]
def uO(s:Y)(B:E N):Prop:=B.length<=8*s.size/\∀i,i<B.length->AV s i=B.getD i 0
def YI(l:E υ)(k:N)(u:υ)(h:l[k]? =J u):As ⟨l.toArray⟩ k=u.toNat:=by
 obtain⟨a,b⟩:=wW.1 h;have c:k<(⟨l.toArray⟩:Y).size:=by show k<l.toArray.size;rw[wK];exact a
 unfold As;rw[abB c,<-b]
 rfl
def RQ(c:NX b)(rest:E υ):uO ⟨(AW b++rest).toArray⟩ b:=by
 refine⟨?_,λi _=>?_⟩
 .show b.length<=8*(AW b++rest).toArray.size;rw[wK,Ws,Bn];omega
 have a:i/8<(AW b).length:=als
 have e:As ⟨(AW b++rest).toArray⟩ (i/8)=Nb b (i/8) 8:=by
  rw[YI _ _ (b8<|Nb b (i/8) 8)<|by rw[WW a];exact Eu b _<|by rw[Bn] at a;exact a];exact AN<|Xa c _ 8
 rw[AV,e,fL c _ 8 _<|wU _ A];congr 1;omega
def At(s:Y)(a:N)(B:E N):Prop:=a+B.length<=8*s.size/\∀i,i<B.length->AV s (a+i)=B.getD i 0
def uO.all(h:uO s b):At s 0 b:=⟨by have:=h.1;omega,λi a=>by rw[WQ];exact h.2 i a⟩
def At.left{c:E N}(h:At s a<|b++c):At s a b:=by
 obtain⟨c,b⟩:=h;rw[Ws] at c b;refine⟨A,λi c=>?_⟩;rw[b i A,Wq,Wq,WW c]
def At.right{c:E N}(h:At s a<|b++c):At s (a+b.length) c:=by
 obtain⟨d,c⟩:=h;rw[Ws] at d c;refine⟨A,λi _=>?_⟩;rw[aap,c (b.length+i) A,Wq,Wq,WU A,show b.length+i-b.length=i by omega]
def Dt(v n:N):E N:=(List.range n).map λi=>v/2^i%2
def Gg(v n:N):E N:=(List.range n).map λi=>v/2^(n-1-i)%2
def EL(v n:N):(Dt v n).length=n:=by simp[Dt]
def Ev(v n:N):(Gg v n).length=n:=by simp[Gg]
def Gh(v n:N):NX<|Dt v n:=ajS
def GC(v n:N):NX<|Gg v n:=ajS
def mA(v n i:N)(h:i<n):(Dt v n).getD i 0=v/2^i%2:=by
 rw[Wq];simp[Dt,h]
def Uu(v n i:N)(h:i<n):(Gg v n).getD i 0=v/2^(n-1-i)%2:=by
 rw[Wq];simp[Gg,h]
def iT(v n:N):Dt v (n+1)=Dt v n++[v/2^n%2]:=by simp[Dt,aaS]
def At.num(h:At s a<|Dt v n):Ar s a n=v%2^n:=by
 have g:∀m,m<=n->Ar s a m=v%2^m:=by
  intro m;induction m with
  |zero=>intro _;rw[Ar,Nat.pow_zero,acn]
  |succ m b=>
   intro _;rw[Ar,b A,h.2 m (by rw[EL];omega),mA _ _ _ A,abj,Nat.mod_mul,abg]
 exact g n<|WF _
def At.numV(h:At s a<|Dt v n)(b:v<2^n):Ar s a n=v:=by rw[h.num,abV b]
def At.dec(h:At s a<|Gg v n)(j:v<2^n)(o:1<=n)(f:n<=15)
 (e:∀m,1<=m->m<n->¬(AO L m<=v/2^(n-m)/\v/2^(n-m)<AO L m+(Cs L m).length))
 (c:AO L n<=v/\v<AO L n+(Cs L n).length)(l:(Cs L n).getD (v-AO L n) 0=y):dec s L a=J (y,a+n):=by
 have f:=h.1;rw[Ev] at f;have f:∀i,i<n->AV s (a+i)=v/2^(n-1-i)%2:=λi b=>by rw[h.2 i (by rw[Ev];exact b),Uu _ _ _ b]
 have b:∀m,m<n->2*(v/2^(n-m))+AV s (a+m)=v/2^(n-(m+1)):=by
  intro m d;rw[f m d,show n-(m+1)=n-1-m by omega,show n-m=(n-1-m)+1 by omega,abj,<-Nat.div_div_eq_div_mul];exact Nat.div_add_mod _ 2
 have g:∀m,m<n->EB s L (15-m) (v/2^(n-m)) (a+m)=J (y,a+n):=by
  intro m d;obtain⟨k,_⟩:∃k,k=n-1-m:=⟨_,rfl⟩;induction k generalizing m with
  |zero=>
   have f:n=m+1:=A;rw[show 15-m=(15-n)+1 by omega,EB,Wz A,b m d,show 15-(15-n)=n by omega,show n-(m+1)=0 by omega,Nat.pow_zero,Nat.div_one,Wz c,l];rw[f,aap]
  |succ k i=>
   rw[show 15-m=(15-(m+1))+1 by omega,EB,Wz A,b m d,show 15-(15-(m+1))=m+1 by omega,Wx<|e (m+1) A A,aap];exact i (m+1) A A
 have:=g 0 A;rw[adw,adw,aaw,adW j] at this;exact this
def YJ:Cs CF 7=(List.range 24).map (λi=>256+i):=by decide+kernel
def TK:Cs CF 8=List.range 144++(List.range 8).map (λi=>280+i):=by decide+kernel
def qV:Cs CF 9=(List.range 112).map (λi=>144+i):=by decide+kernel
def yJ:(List.range 7).all (λm=>(Cs CF m).isEmpty)=true:=by decide+kernel
def NY(m:N)(h:m<7):Cs CF m=[]:=by
 have:=wC.1 yJ m<|wh.2 h;exact List.isEmpty_iff.1 this
def GD(m:N)(h:m<=7):AO CF m=0:=by
 induction m with
 |zero=>rfl
 |succ m a=>rw[AO,a A,NY m A];split<;>rfl
def LH:AO CF 8=48:=by rw[AO,GD 7 A,YJ];rfl
def cq:AO CF 9=400:=by rw[AO,LH,TK,Ws,aci,wX,aci,Wx Ac]
def fM:Cs CX 5=List.range 32:=by decide+kernel
def uP:(List.range 5).all (λm=>(Cs CX m).isEmpty)=true:=by decide+kernel
def YK(m:N)(h:m<5):Cs CX m=[]:=List.isEmpty_iff.1<|wC.1 uP m (wh.2 h)
def Nn(m:N)(h:m<=5):AO CX m=0:=by
 induction m with
 |zero=>rfl
 |succ m a=>rw[AO,a A,YK m A];split<;>rfl
def TL(y:N):N:=if y<144 then 48+y else if y<256 then 400+(y-144) else if y<280 then y-256 else 192+(y-280)
def Ku(y:N):N:=if y<144 then 8 else if y<256 then 9 else if y<280 then 7 else 8
def GS(y:N):E N:=Gg (TL y)<|Ku y
def iU(d:N):E N:=Gg d 5
def GT(y:N):(GS y).length=Ku y:=Ev _ _
def Xb(y:N):Ku y<=9:=by unfold Ku;repeat (first|split|omega)
def DQ(n c j:N)(h:j<n):((List.range n).map λi=>c+i).getD j 0=c+j:=by
 rw[Wq];simp[h]
def At.sym(h:At s a<|GS y)(c:y<288):Go.Proofs.YtfpphfkcaplafaaGreatDoor.dec s CF a=J (y,a+Ku y):=by
 unfold GS TL Ku at*;by_cases c:y<144
 .rw[Wz c,Wz c] at h;rw[Wz c];refine h.dec A A A (λm _ b=>?_) ?_ ?_
  .exact ahl
  .rw[LH,TK];simp;omega
  rw[LH,TK,show 48+y-48=y by omega,Wq,WW<|by simpa using c];simp[c]
 rw[Wx c,Wx c] at h;rw[Wx c];by_cases d:y<256
 .rw[Wz d,Wz d] at h;rw[Wz d];refine h.dec A A A (λm _ b=>?_) ?_ ?_
  .rcases wM m 7 with h7|h7
   .rw[NY m h7];intro hh;have:=hh.2;have:=hh.1;simp at*;omega
   by_cases e:m=7
   .subst e;rw[YJ,GD 7 A];simp;omega
   have e:m=8:=A;subst e;rw[TK,LH];simp;omega
  .rw[cq,qV];simp;omega
  rw[cq,qV,DQ _ _ _ A];omega
 rw[Wx d,Wx d] at h;rw[Wx d];by_cases f:y<280
 .rw[Wz f,Wz f] at h;rw[Wz f];refine h.dec A A A (λm _ b=>?_) ?_ ?_
  .rw[NY m b];intro hh;have:=hh.2;have:=hh.1;simp at*;omega
  .rw[GD 7 A,YJ];simp;omega
  rw[GD 7 A,YJ,DQ _ _ _ A];omega
 rw[Wx f,Wx f] at h;rw[Wx f];refine h.dec A A A (λm _ b=>?_) ?_ ?_
 .exact ahl
 .rw[LH,TK];simp;omega
 rw[LH,TK,Wq,WU ako,<-Wq,DQ _ _ _ ako];simp;omega
def At.dst(h:At s a<|iU d)(c:d<32):Go.Proofs.YtfpphfkcaplafaaGreatDoor.dec s CX a=J (d,a+5):=by
 refine At.dec h A A A (λm _ b=>?_) ?_ ?_
 .rw[YK m b];intro b;have:=b.2;have:=b.1;simp at*;omega
 .rw[Nn 5 A,fM];simp;omega
 rw[Nn 5 A,fM,Wq];simp[c]
def Xc(len:N):N->N
 |0=>257
 |k+1=>if len<Bg (257+(k+1)) then Xc len k else 257+(k+1)
def CD(len:N):N:=Xc len 28
def JX(J5:N):N->N
 |0=>0
 |k+1=>if J5<AY (k+1) then JX J5 k else k+1
def CK(J5:N):N:=JX J5 29
def iV:(List.range 259).all (λn=>decide<|3<=n->257<=CD n/\CD n<=285/\Bg (CD n)<=n/\n<Bg (CD n)+2^AM (CD n)/\Ku (CD n)+AM (CD n)<=13)=true:=by decide+kernel
def RR(n:N)(h:3<=n)(a:n<=258):257<=CD n/\CD n<=285/\Bg (CD n)<=n/\n<Bg (CD n)+2^AM (CD n)/\Ku (CD n)+AM (CD n)<=13:=
 wn (wC.1 iV n<|wh.2 A) h
def Xd:(List.range 30).all (λy=>decide<|AY (y+1)=AY y+2^Bb y)=true:=by decide+kernel
def Uv(a:N)(h:1<=a):∀k,k<=29->a<AY (k+1)->JX a k<=k/\AY (JX a k)<=a/\a<AY (JX a k)+2^Bb (JX a k)
 |0,_,b=>by
  rw[JX];have:AY (0+1)=2:=rfl;have c:AY 0=1:=rfl;exact⟨WF _,A,by rw[c];have:Bb 0=0:=rfl;rw[this];omega⟩
 |k+1,d,b=>by
  rw[JX];split
  .rename_i b;have:=Uv a h k A b;exact⟨A,this.2⟩
  rename_i a;have e:=wn<|wC.1 Xd (k+1) (wh.2 A);exact⟨WF _,A,A⟩
def Pa(a:N)(h:1<=a)(b:a<=32768):CK a<=29/\AY (CK a)<=a/\a<AY (CK a)+2^Bb (CK a):=
 Uv a h 29 A (by have:AY (29+1)=32769:=rfl;omega)
abbrev YL:=N ⊕ (N×N)
def GU:YL->E N
 | .inl c=>GS c
 | .inr (len,J5)=>GS (CD len)++(Dt (len-Bg (CD len)) (AM<|CD len)++(iU (CK J5)++Dt (J5-AY (CK J5)) (Bb<|CK J5)))
def Gx(T:E YL):E N:=(T.map GU).flatten
def Jh(t:YL)(T:E YL):Gx (t::T)=GU t++Gx T:=by simp[Gx]
def YM(t:YL):NX<|GU t:=by
 cases t with
 |inl c=>exact GC _ _
 |inr p=>obtain⟨_,_⟩:=p;exact(GC _ _).append ((Gh _ _).append ((GC _ _).append<|Gh _ _))
def iW(T:E YL):NX<|Gx T:=by
 induction T with
 |nil=>intro _ a;cases a
 |cons t T b=>rw[Jh];exact(YM t).append b
def Xe(o:E υ):YL->E υ
 | .inl c=>o++[b8 c]
 | .inr (len,J5)=>Cc o J5 len
def Ha(o:E υ):YL->Prop
 | .inl c=>c<256/\o.length<20000
 | .inr (len,J5)=>3<=len/\len<=258/\1<=J5/\J5<=o.length/\o.length+len<=20000
def qW:E υ->E YL->Prop
 |_,[]=>True
 |o,t::T=>Ha o t/\qW (Xe o t) T
def mB{t:YL}(h:At s a<|GU t)(d:Ha o t):Fk s CF CX a o=.inr ((a+(GU t).length),(Xe o t)):=by
 cases t with
 |inl c=>
  obtain⟨b,i⟩:=d;have f:=At.sym (y:=c) h A;rw[Fk,f];show(if c=256 then _ else _)=_;rw[Wx A,Wz b,Wx A];show Sum.inr ((a+Ku c),_)=Sum.inr ((a+(GS c).length),_);rw[GT];rfl
 |inr p=>
  obtain⟨b,c⟩:=p;obtain⟨j,e,g,_,i⟩:=d;obtain⟨_,_,_,_,_⟩:=RR b j e;obtain⟨_,_,_⟩:=Pa c g A;have g:=h.1;have k:=h.left;have j:=h.right.left;have i:=h.right.right.left;have e:=h.right.right.right;have d:(GU (.inr (b,c))).length=Ku (CD b)+(AM (CD b)+(5+Bb (CK c))):=by
   simp only[GU,Ws,GT,EL,iU,Ev]
  rw[GT] at j i e;rw[EL] at i e;have h:(iU<|CK c).length=5:=Ev _ _;rw[h] at e;rw[d] at g;have f:=k.sym A;have g:=j.numV A;have h:=i.dst A;have i:=e.numV A;rw[Fk,f];show(if CD b=256 then _ else _)=_;rw[Wx A,Wx A,Wx A,FP,Wx A,h];show(if 29<CK c then _ else _)=_;rw[Wx A,Wx A,i,g,show AY (CK c)+(c-AY (CK c))=c by omega,show Bg (CD b)+(b-Bg (CD b))=b by omega,Wx A,Wx A,d];show Sum.inr (_,_)=Sum.inr (_,_);congr 2;omega
def YN:∀{T:E YL} {a:N} {o:E υ},At s a (Gx T++GS 256)->qW o T->Gb s CF CX a o=.inl ((a+(Gx T++GS 256).length),(T.foldl Xe o))
 |[],a,o,h,_=>by
  have c:=At.sym (y:=256) h A;rw[Ms,Fk,c];show Sum.inl ((a+Ku 256),o)=_;rw[show(Gx []++GS 256).length=Ku 256 by rw[show Gx []=[] from rfl,aan,GT]];rfl
 |t::T,a,o,h,b=>by
  rw[Jh,WG] at h;rw[Ms,mB h.left b.1];show Gb s CF CX (a+(GU t).length) (Xe o t)=_;rw[YN h.right b.2,Jh,WG,show(GU t++(Gx T++GS 256)).length=(GU t).length+(Gx T++GS 256).length from Ws,aap];rfl
def ML(T:E YL):E N:=1::1::0::(Gx T++GS 256)
def mC(T:E YL):NX<|ML T:=by
 have h:=(iW T).append<|GC (TL 256) (Ku 256);intro x hx;rcases wD.1 hx with rfl|hx
 .omega
 rcases wD.1 hx with rfl|hx
 .omega
 rcases wD.1 hx with rfl|hx
 .omega
 exact h x hx
def mD{T:E YL}{rest:E υ}(c:qW [] T):AB ⟨(AW (ML T)++rest).toArray⟩=(⟨(T.foldl Xe []).toArray⟩,(AW<|ML T).length,0):=by
 have a:=(RQ (mC T) rest).all;generalize b:(⟨(AW (ML T)++rest).toArray⟩:Y)=s at a;have:=a.1;have b:(ML T).length=3+(Gx T++GS 256).length:=by simp only[ML,wu];omega
 have h0:=a.2 0 A;have d:=a.2 1 A;have e:=a.2 2 A;have f:At s 3<|Gx T++GS 256:=(show At s 0 ([1,1,0]++(Gx T++GS 256)) from a).right;have g:Ar s (0+1) 2=1:=by
  have z:Ar s 1 2=Ar s 1 0+AV s (1+0)*2^0+AV s (1+1)*2^1:=rfl;have a :AV s (1+0)=1:=d;have d :AV s (1+1)=0:=e;rw[WQ,z,a,d];rfl
 have a:EI s 0 []=.inl ((3+(Gx T++GS 256).length),(T.foldl Xe [])):=by
  rw[EI,Wx A,Fm,g];exact YN f c
 have c :AV s 0=1:=h0;rw[AB,KR a c,mt,Bn,b]
