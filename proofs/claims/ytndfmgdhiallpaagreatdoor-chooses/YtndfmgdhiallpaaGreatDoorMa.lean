import Derived.WalkKit
import Derived.Test.YtndfmgdhiallpaaGreatDoorChecked
import Derived.WalkSmall
set_option maxRecDepth 100000
set_option maxHeartbeats 400000
namespace Go.Proofs.YtndfmgdhiallpaaGreatDoor
open Go.RowKit
theorem ret1_eq{a c:Value}(h:a=c):Ending.returned a=.returned c:=by rw[h]
theorem ret2_eq{a b c d:Value}(h:a=c)(k:b=d):Ending.returned (.tuple #[a,b])=.returned (.tuple #[c,d]):=by rw[h,k]
theorem hide{p:Prop}(h:p):Hid p:=h
theorem uh{p:Prop}(h:Hid p):p:=h
theorem ofInt_i64(a:Nat)(ha:a<9223372036854775808):(BitVec.ofInt 64 (a:Int)).toNat=a:=ofInt_u64 a (by omega)
theorem i64_wrap_nat(a:Nat)(ha:a<9223372036854775808):IntKind.i64.wrap (a:Int)=(a:Int):=by rw[IntKind.wrap_i64];omega
theorem i64_xor_nat(a b:Nat)(ha:a<9223372036854775808)(hb:b<9223372036854775808):bits .xor .i64 (a:Int) (b:Int)=((a^^^b:Nat):Int):=by
 have hx:a^^^b<2^63:=Nat.xor_lt_two_pow (by omega) (by omega)
 show IntKind.i64.wrap ((BitVec.ofInt 64 (a:Int)^^^BitVec.ofInt 64 (b:Int)).toNat:Int)=_
 rw[BitVec.toNat_xor,ofInt_i64 a ha,ofInt_i64 b hb,i64_wrap_nat _ (by omega)]
theorem i64_or_nat(a b:Nat)(ha:a<9223372036854775808)(hb:b<9223372036854775808):bits .or .i64 (a:Int) (b:Int)=((a|||b:Nat):Int):=by
 have hx:a|||b<2^63:=Nat.or_lt_two_pow (by omega) (by omega)
 show IntKind.i64.wrap ((BitVec.ofInt 64 (a:Int)|||BitVec.ofInt 64 (b:Int)).toNat:Int)=_
 rw[BitVec.toNat_or,ofInt_i64 a ha,ofInt_i64 b hb,i64_wrap_nat _ (by omega)]
theorem i64_and_nat(a b:Nat)(ha:a<9223372036854775808)(hb:b<9223372036854775808):bits .and .i64 (a:Int) (b:Int)=((a&&&b:Nat):Int):=by
 have hx:a&&&b≤a:=Nat.and_le_left
 show IntKind.i64.wrap ((BitVec.ofInt 64 (a:Int)&&&BitVec.ofInt 64 (b:Int)).toNat:Int)=_
 rw[BitVec.toNat_and,ofInt_i64 a ha,ofInt_i64 b hb,i64_wrap_nat _ (by omega)]
theorem xor32{a b:Nat}(ha:a<4294967296)(hb:b<4294967296):a^^^b<4294967296:=Nat.xor_lt_two_pow (n:=32) ha hb
theorem or32{a b:Nat}(ha:a<4294967296)(hb:b<4294967296):a|||b<4294967296:=Nat.or_lt_two_pow (n:=32) ha hb
theorem and32{a:Nat}(b:Nat)(ha:a<4294967296):a&&&b<4294967296:=Nat.lt_of_le_of_lt Nat.and_le_left ha
def crcStep(v:Nat):Nat:=if v%2=1 then (v/2)^^^3988292384 else v/2
def crcBits:Nat→Nat→Nat
 |0,v=>v
 |n+1,v=>crcBits n (crcStep v)
theorem crcStep_lt{v:Nat}(h:v<4294967296):crcStep v<4294967296:=by
 unfold crcStep;split
 ·exact xor32 (by omega) (by omega)
 omega
theorem crcBits_lt(n:Nat): ∀{v:Nat},v<4294967296→crcBits n v<4294967296:=by
 induction n with
 |zero=>intro v h;exact h
 |succ n ih=>intro v h;exact ih (crcStep_lt h)
theorem crcStep_odd{v:Nat}(h:v%2=1):crcStep v=(v/2)^^^3988292384:=if_pos h
theorem crcStep_even{v:Nat}(h:¬v%2=1):crcStep v=v/2:=if_neg h
def crcByte(v:Nat)(b:UInt8):Nat:=crcBits 8 (v^^^b.toNat)
theorem crcByte_lt{v:Nat}(b:UInt8)(h:v<4294967296):crcByte v b<4294967296:=crcBits_lt 8 (xor32 h (by have:=b.toNat_lt;omega))
def crcOf(l:List UInt8):Nat:=l.foldl crcByte 4294967295
theorem crcOf_snoc(l:List UInt8)(b:UInt8):crcOf (l++[b])=crcByte (crcOf l) b:=by simp[crcOf]
theorem foldl_lt(l:List UInt8): ∀{v:Nat},v<4294967296→l.foldl crcByte v<4294967296:=by
 induction l with
 |nil=>intro v h;exact h
 |cons b r ih=>intro v h;exact ih (crcByte_lt b h)
theorem crcOf_lt(l:List UInt8):crcOf l<4294967296:=foldl_lt l (by omega)
def checkOf(s:ByteArray):Nat:=4294967295- crcOf s.data.toList
theorem checkOf_lt(s:ByteArray):checkOf s<4294967296:=by unfold checkOf;omega
theorem take_snoc(s:ByteArray)(k:Nat)(h:k<s.size):s.data.toList.take (k+1)=s.data.toList.take k++[s[k]]:=by
 rw[List.take_succ_eq_append_getElem (by simpa using h)];rfl
theorem take_all(s:ByteArray)(k:Nat)(h:¬k<s.size):s.data.toList.take k=s.data.toList:=List.take_of_length_le (by simp;omega)
theorem byte_lt(b:UInt8):b.toNat<256:=b.toNat_lt
theorem u32_low{u:Nat}(hu:u<4294967296):bits .and .u32 (u:Int) 1=((u%2:Nat):Int):=by
 have:=u32_and_nat u 1 hu (by omega);rw[nat_mask1] at this;exact this
theorem u32_odd{u:Nat}(hu:u<4294967296)(h:(bits .and .u32 (u:Int) 1==1)=true):u%2=1:=by
 rw[u32_low hu] at h;simp at h;omega
theorem u32_even{u:Nat}(hu:u<4294967296)(h:(bits .and .u32 (u:Int) 1==1)=false):¬u%2=1:=by
 rw[u32_low hu] at h;simp at h;omega
theorem u32_poly{u:Nat}(hu:u<4294967296):bits .xor .u32 ((u:Int)/2) 3988292384=((u/2^^^3988292384:Nat):Int):=by
 have:=u32_xor_nat (u/2) 3988292384 (by omega) (by omega);rw[Int.natCast_ediv] at this;exact this
theorem xor_ones{u:Nat}(hu:u<4294967296):4294967295^^^u=4294967295- u:=by
 have h:=congrArg BitVec.toNat (BitVec.allOnes_xor (w:=32) (x:=BitVec.ofNat 32 u))
 rw[BitVec.toNat_xor,BitVec.toNat_allOnes,BitVec.toNat_not,BitVec.toNat_ofNat,Nat.mod_eq_of_lt (by omega)] at h
 exact h
theorem u32_not{u:Nat}(hu:u<4294967296):bits .xor .u32 IntKind.u32.max (u:Int)=((4294967295- u:Nat):Int):=by
 have:=u32_xor_nat 4294967295 u (by omega) hu
 rw[xor_ones hu] at this
 exact this
theorem i64_poly{u:Nat}(hu:u<4294967296):bits .xor .i64 (u:Int) 3988292384=((u^^^3988292384:Nat):Int):=i64_xor_nat u 3988292384 (by omega) (by omega)
open Go.RowKit Go.Maps
theorem shiftByte_any(v:Nat)(hv:v<4294967296)(w:World):
 Calls Tryz.prog 130 #[.int .u32 v] w fun e w' =>e=.returned (.int .u32 (crcBits 8 v))∧w' =w:=by
 go_in
 go_wp2
 go_loop [0,3] (fun x i=> ∃(u n j:Nat),u<4294967296∧n+j=8∧x=.int .u32 u∧i=.int .i64 j∧Hid (crcBits n u=crcBits 8 v)) (fun _ i=>8- (intOf i).toNat)
 ·exact ⟨v,8,0,hv,rfl,rfl,rfl,rfl⟩
 obtain ⟨u,n,j,hu,hn,rfl,rfl,hc⟩:=hrel
 by_cases hj:j<8
 ·obtain ⟨n,rfl⟩: ∃m,n=m+1:=⟨n- 1,by omega⟩
  go_wp2
  ·have hb:(bits .and .u32 (u:Int) 1==1)=true:=by assumption
   go_round
   ·exact ⟨crcStep u,n,j+1,crcStep_lt hu,by omega,by rw[crcStep_odd (u32_odd hu hb),u32_poly hu],by go_num,hc⟩
   case measure=>simp[intOf];omega
  have hb:(bits .and .u32 (u:Int) 1==1)=false:=by assumption
  go_round
  ·exact ⟨crcStep u,n,j+1,crcStep_lt hu,by omega,by rw[crcStep_even (u32_even hu hb)];rfl,by go_num,hc⟩
  case measure=>simp[intOf];omega
 have h0:n=0:=by omega
 have hq:Hid (crcBits 8 v=u):=by rw[←hc.out,h0];rfl
 clear hc h0
 go_wp2
 go_ret
 exact ⟨ret1_eq (show Value.int .u32 (u:Int)=_ by rw[hq.out]),rfl⟩
theorem checkCode_any(s:ByteArray)(w:World)(hs:s.size≤maxLen):
 Calls Tryz.prog 71 #[.string s] w fun e w' =>e=.returned (.int .u32 (checkOf s))∧w' =w:=by
 unfold maxLen at hs
 go_in
 go_wp2
 go_loop [3,7] (fun x i=> ∃(u j:Nat),u<4294967296∧j≤s.size∧x=.int .u32 u∧i=.int .i64 j∧Hid (crcOf (s.data.toList.take j)=u)) (fun _ i=>s.size- (intOf i).toNat)
 ·exact ⟨4294967295,0,by omega,by omega,rfl,rfl,rfl⟩
 obtain ⟨u,j,hu,hj,rfl,rfl,hc⟩:=hrel
 by_cases hlt:j<s.size
 ·have hb:s[j].toNat<256:=byte_lt _
  have hx:=u32_xor_nat u s[j].toNat hu (by omega)
  have HX:=hide hx
  clear hx
  have HC:=hide (fun (w1:World)=>shiftByte_any (u^^^s[j].toNat) (xor32 hu (by omega)) w1)
  have HN:Hid (crcOf (s.data.toList.take (j+1))=crcBits 8 (u^^^s[j].toNat)):=by rw[take_snoc s j hlt,crcOf_snoc,hc.out];rfl
  have HL:=hide (crcBits_lt 8 (xor32 hu (show s[j].toNat<4294967296 by omega)))
  go_wp2_with (go_at_call 130;rw[uh HX];refine (uh HC _).mono ?_;rintro e w1 ⟨rfl,rfl⟩)
  go_round
  ·exact ⟨_,j+1,uh HL,by omega,rfl,by go_num,HN⟩
  case measure=>simp[intOf];omega
 have hq:Hid (crcOf s.data.toList=u):=by have:=hc.out;rw[take_all s j hlt] at this;exact this
 go_wp2
 go_ret
 exact ⟨ret1_eq (show Value.int .u32 (bits BinOp.xor IntKind.u32 IntKind.u32.max (u:Int))=_ by rw[u32_not hu,checkOf,hq.out]),rfl⟩
theorem valiseCheck_any(s:ByteArray)(w:World)(hs:s.size≤maxLen):
 Calls Tryz.prog 40 #[.string s] w fun e w' =>e=.returned (.int .i64 (checkOf s))∧w' =w:=by
 have HC:=hide (fun (w1:World)=>checkCode_any s w1 hs)
 have hl:=checkOf_lt s
 generalize checkOf s=c at*
 go_in
 go_wp2_with (go_at_call 71;refine (uh HC _).mono ?_;rintro e w1 ⟨rfl,rfl⟩)
 go_ret
 exact ⟨rfl,rfl⟩
theorem refCheck_any(s:ByteArray)(w:World)(hs:s.size≤maxLen):
 Calls Tryz.prog 58 #[.string s] w fun e w' =>e=.returned (.int .i64 (checkOf s))∧w' =w:=by
 unfold maxLen at hs
 go_in
 go_wp2
 go_loop [3,4] (fun x i=> ∃(u j:Nat),u<4294967296∧j≤s.size∧x=.int .i64 u∧i=.int .i64 j∧Hid (crcOf (s.data.toList.take j)=u)) (fun _ i=>s.size- (intOf i).toNat)
 ·exact ⟨4294967295,0,by omega,by omega,rfl,rfl,rfl⟩
 obtain ⟨u,j,hu,hj,rfl,rfl,hc⟩:=hrel
 by_cases hlt:j<s.size
 ·have hb:s[j].toNat<256:=byte_lt _
  have HX:=hide (i64_xor_nat u s[j].toNat (by omega) (by omega))
  have HN:Hid (crcOf (s.data.toList.take (j+1))=crcBits 8 (u^^^s[j].toNat)):=by rw[take_snoc s j hlt,crcOf_snoc,hc.out];rfl
  have hL:=xor32 hu (show s[j].toNat<4294967296 by omega)
  have HI:Hid (∀x:Value,x=.int .i64 (bits BinOp.xor IntKind.i64 (u:Int) (s[j].toNat:Int))→x=.int .i64 ((u^^^s[j].toNat:Nat):Int)):=by intro x hx;rw[hx,uh HX]
  go_wp2
  go_loop [3,5] (fun x i=> ∃(t n k:Nat),t<4294967296∧n+k=8∧x=.int .i64 t∧i=.int .i64 k∧Hid (crcBits n t=crcBits 8 (u^^^s[j].toNat))) (fun _ i=>8- (intOf i).toNat)
  ·exact ⟨_,8,0,hL,rfl,uh HI _ rfl,rfl,rfl⟩
  obtain ⟨t,n,k,ht,hn,rfl,rfl,hd⟩:=hrel
  by_cases hk:k<8
  ·obtain ⟨n,rfl⟩: ∃m,n=m+1:=⟨n- 1,by omega⟩
   by_cases ho:t%2=1
   ·have hob:(((t:Int)%2)==1)=true:=by simp;omega
    go_wp2
    go_round
    ·exact ⟨crcStep t,n,k+1,crcStep_lt ht,by omega,by rw[crcStep_odd ho,←i64_poly (by omega)];rfl,by go_num,hd⟩
    case measure=>simp[intOf];omega
   have hob:(((t:Int)%2)==1)=false:=by simp;omega
   go_wp2
   go_round
   ·exact ⟨crcStep t,n,k+1,crcStep_lt ht,by omega,by rw[crcStep_even ho];rfl,by go_num,hd⟩
   case measure=>simp[intOf];omega
  have h0:n=0:=by omega
  have hq:Hid (crcBits 8 (u^^^s[j].toNat)=t):=by rw[←hd.out,h0];rfl
  clear h0 hd
  go_wp2
  go_round
  ·exact ⟨t,j+1,ht,by omega,rfl,by go_num,HN.out.trans hq.out⟩
  case measure=>simp[intOf];omega
 have hq:Hid (crcOf s.data.toList=u):=by have:=hc.out;rw[take_all s j hlt] at this;exact this
 go_wp2
 go_ret
 exact ⟨ret1_eq (show Value.int .i64 (4294967295- (u:Int))=_ by rw[checkOf,hq.out];congr 1;omega),rfl⟩
def rotr(w n:Nat):Nat:=w/2^n|||w*2^(32- n)%4294967296
theorem rotr_lt{w:Nat}(n:Nat)(h:w<4294967296):rotr w n<4294967296:=or32 (Nat.lt_of_le_of_lt (Nat.div_le_self _ _) h) (Nat.mod_lt _ (by omega))
theorem wrap64_nat(a:Nat)(h:a<9223372036854775808):wrap64 (a:Int)=(a:Int):=by rw[←IntWalk.i64_left];exact i64_wrap_nat a h
theorem shl_lt{v n:Nat}(hv:v<4294967296)(h1:1≤n):v*2^(32- n)<9223372036854775808:=by
 have h:2^(32- n)≤2^31:=Nat.pow_le_pow_right (by omega) (by omega)
 calc v*2^(32- n)≤v*2^31:=Nat.mul_le_mul_left _ h
  _<9223372036854775808:=by omega
theorem turned_eq{v n:Nat}(hv:v<4294967296)(h1:1≤n):bits BinOp.or IntKind.i64 ((v:Int)/2^n) ((wrap64 ((v:Int)*2^(32- n))).tmod 4294967296)=(rotr v n:Int):=by
 have hl:=shl_lt hv h1
 have e1:(v:Int)*2^(32- n)=((v*2^(32- n):Nat):Int):=by push_cast;rfl
 have e2:(v:Int)/2^n=((v/2^n:Nat):Int):=by push_cast;rfl
 have e3:((v*2^(32- n):Nat):Int).tmod 4294967296=((v*2^(32- n)%4294967296:Nat):Int):=by rw[Int.tmod_eq_emod_of_nonneg (by omega)];omega
 have hd:v/2^n<4294967296:=Nat.lt_of_le_of_lt (Nat.div_le_self _ _) hv
 have hm:v*2^(32- n)%4294967296<4294967296:=Nat.mod_lt _ (by omega)
 rw[e1,wrap64_nat _ hl,e2,e3,i64_or_nat _ _ (by omega) (by omega)]
 rfl
def byteCells8(bs:List UInt8):List Value:=bs.map fun b=> .int .u8 b.toNat
theorem foldl_push(ns:List UInt8): ∀s:ByteArray,(ns.map fun b=>((b.toNat:Nat):Int)).foldl (fun r n=>r.push (UInt8.ofNat n.toNat)) s=⟨(s.data.toList++ns).toArray⟩:=by
 induction ns with
 |nil=>intro s;simp
 |cons b r ih=>
  intro s
  simp only[List.map_cons,List.foldl_cons]
  rw[ih]
  simp[ByteArray.push]
theorem run_bytes_string{P:Program}(w:World)(src dst e:TypeId)(a:Addr)(c:Nat)(bs:List UInt8)(hs:P.underlying src=some (.slice e))(he:P.underlying e=some (.int .u8))(hd:P.underlying dst=some .string)
 (h: ∀j v,(byteCells8 bs)[j]? =some v→w.cell? (a.add j)=some v):
 (convert src dst (.slice (some a) bs.length c)).run P w=.ok (.string ⟨bs.toArray⟩) w:=by
 have hl:=run_loadCells_list (P:=P) w a (byteCells8 bs) h
 have e1:byteCells8 bs=(bs.map fun b=>((b.toNat:Nat):Int)).map (Value.int .u8):=by simp[byteCells8]
 have e2:(byteCells8 bs).length=bs.length:=by simp[byteCells8]
 rw[e2,e1] at hl
 rw[run_convert_bytes_string w src dst e (some a) bs.length c hs he hd,run_bytesToString w a bs.length c _ hl,foldl_push]
 rfl
def b8(n:Nat):UInt8:=UInt8.ofNat n
theorem b8_toNat{n:Nat}(h:n<256):(b8 n).toNat=n:=by simp[b8,UInt8.toNat_ofNat'];omega
def be4(n:Nat):List UInt8:=[b8 (n/16777216%256),b8 (n/65536%256),b8 (n/256%256),b8 (n%256)]
def sm0(a:Nat):Nat:=(rotr a 7^^^rotr a 18)^^^a/8
def sm1(a:Nat):Nat:=(rotr a 17^^^rotr a 19)^^^a/1024
def bg0(a:Nat):Nat:=(rotr a 2^^^rotr a 13)^^^rotr a 22
def bg1(a:Nat):Nat:=(rotr a 6^^^rotr a 11)^^^rotr a 25
def chs(e f g:Nat):Nat:=(e&&&f)^^^((4294967295- e)&&&g)
def mjr(a b c:Nat):Nat:=((a&&&b)^^^(a&&&c))^^^(b&&&c)
theorem sm0_lt{a:Nat}(h:a<4294967296):sm0 a<4294967296:=xor32 (xor32 (rotr_lt _ h) (rotr_lt _ h)) (by omega)
theorem sm1_lt{a:Nat}(h:a<4294967296):sm1 a<4294967296:=xor32 (xor32 (rotr_lt _ h) (rotr_lt _ h)) (by omega)
theorem bg0_lt{a:Nat}(h:a<4294967296):bg0 a<4294967296:=xor32 (xor32 (rotr_lt _ h) (rotr_lt _ h)) (rotr_lt _ h)
theorem bg1_lt{a:Nat}(h:a<4294967296):bg1 a<4294967296:=xor32 (xor32 (rotr_lt _ h) (rotr_lt _ h)) (rotr_lt _ h)
theorem chs_lt{e f g:Nat}(h:e<4294967296):chs e f g<4294967296:=xor32 (and32 _ h) (and32 _ (by omega))
theorem mjr_lt{a b c:Nat}(h:a<4294967296)(h2:b<4294967296):mjr a b c<4294967296:=xor32 (xor32 (and32 _ h) (and32 _ h)) (and32 _ h2)
def btN(s:ByteArray)(k:Nat):Nat:=if h:k<s.size then s[k].toNat else 0
theorem btN_lt(s:ByteArray)(k:Nat):btN s k<256:=by unfold btN;split;exact byte_lt _;omega
theorem btN_get{s:ByteArray}{k:Nat}(h:k<s.size):s[k].toNat=btN s k:=by unfold btN;rw[dif_pos h]
theorem btN_extract{s:ByteArray}{a b k:Nat}(h:a+k<b)(hb:b≤s.size):btN (s.extract a b) k=btN s (a+k):=by
 have h1:k<(s.extract a b).size:=by rw[ByteArray.size_extract];omega
 unfold btN
 rw[dif_pos h1,dif_pos (show a+k<s.size by omega),ByteArray.getElem_extract]
def wrd(s:ByteArray)(k:Nat):Nat:=btN s k*16777216+btN s (k+1)*65536+btN s (k+2)*256+btN s (k+3)
theorem wrd_lt(s:ByteArray)(k:Nat):wrd s k<4294967296:=by
 have:=btN_lt s k;have:=btN_lt s (k+1);have:=btN_lt s (k+2);have:=btN_lt s (k+3)
 unfold wrd;omega
def sched(s:ByteArray):Nat→List Nat
 |0=>[]
 |t+1=>sched s t++[if t<16 then wrd s (4*t) else (sm1 ((sched s t).getD (t- 2) 0)+(sched s t).getD (t- 7) 0+sm0 ((sched s t).getD (t- 15) 0)+(sched s t).getD (t- 16) 0)%4294967296]
theorem sched_len(s:ByteArray)(t:Nat):(sched s t).length=t:=by
 induction t with
 |zero=>rfl
 |succ t ih=>simp[sched,ih]
def wt(s:ByteArray)(t:Nat):Nat:=(sched s (t+1)).getD t 0
theorem sched_get(s:ByteArray)(n j:Nat)(h:j<n):(sched s n).getD j 0=wt s j:=by
 induction n with
 |zero=>omega
 |succ n ih=>
  by_cases e:j=n
  ·subst e;rfl
  rw[sched,List.getD_eq_getElem?_getD,List.getElem?_append_left (by rw[sched_len];omega),←List.getD_eq_getElem?_getD]
  exact ih (by omega)
theorem wt_low(s:ByteArray)(t:Nat)(h:t<16):wt s t=wrd s (4*t):=by
 unfold wt
 rw[sched,List.getD_eq_getElem?_getD,List.getElem?_append_right (by rw[sched_len];omega),sched_len]
 simp[h]
theorem wt_high(s:ByteArray)(t:Nat)(h:16≤t):wt s t=(sm1 (wt s (t- 2))+wt s (t- 7)+sm0 (wt s (t- 15))+wt s (t- 16))%4294967296:=by
 conv=>lhs;unfold wt
 rw[sched,List.getD_eq_getElem?_getD,List.getElem?_append_right (by rw[sched_len];omega),sched_len]
 simp only[Nat.sub_self,List.getElem?_cons_zero,Option.getD_some]
 rw[if_neg (by omega),sched_get _ _ _ (by omega),sched_get _ _ _ (by omega),sched_get _ _ _ (by omega),sched_get _ _ _ (by omega)]
theorem wt_lt(s:ByteArray)(t:Nat):wt s t<4294967296:=by
 by_cases h:t<16
 ·rw[wt_low s t h];exact wrd_lt _ _
 rw[wt_high s t (by omega)];exact Nat.mod_lt _ (by omega)
structure E8 where
 a:Nat
 b:Nat
 c:Nat
 d:Nat
 e:Nat
 f:Nat
 g:Nat
 h:Nat
def E8.ok(x:E8):Prop:=x.a<4294967296∧x.b<4294967296∧x.c<4294967296∧x.d<4294967296∧x.e<4294967296∧x.f<4294967296∧x.g<4294967296∧x.h<4294967296
def E8.xx(x:E8)(k w:Nat):Nat:=x.h+bg1 x.e+chs x.e x.f x.g+k+w
def E8.yy(x:E8):Nat:=bg0 x.a+mjr x.a x.b x.c
def E8.round(x:E8)(k w:Nat):E8:=⟨(x.xx k w+x.yy)%4294967296,x.a,x.b,x.c,(x.d+x.xx k w)%4294967296,x.e,x.f,x.g⟩
def rounds(kf wf:Nat→Nat):Nat→E8→E8
 |0,x=>x
 |t+1,x=>(rounds kf wf t x).round (kf t) (wf t)
theorem E8.round_ok{x:E8}(h:x.ok)(k w:Nat):(x.round k w).ok:=⟨Nat.mod_lt _ (by omega),h.1,h.2.1,h.2.2.1,Nat.mod_lt _ (by omega),h.2.2.2.2.1,h.2.2.2.2.2.1,h.2.2.2.2.2.2.1⟩
theorem rounds_ok(kf wf:Nat→Nat)(t:Nat){x:E8}(h:x.ok):(rounds kf wf t x).ok:=by
 induction t with
 |zero=>exact h
 |succ t ih=>exact E8.round_ok ih _ _
def E8.plus(x y:E8):E8:=⟨(x.a+y.a)%4294967296,(x.b+y.b)%4294967296,(x.c+y.c)%4294967296,(x.d+y.d)%4294967296,(x.e+y.e)%4294967296,(x.f+y.f)%4294967296,(x.g+y.g)%4294967296,(x.h+y.h)%4294967296⟩
theorem E8.plus_ok(x y:E8):(x.plus y).ok:=⟨Nat.mod_lt _ (by omega),Nat.mod_lt _ (by omega),Nat.mod_lt _ (by omega),Nat.mod_lt _ (by omega),Nat.mod_lt _ (by omega),Nat.mod_lt _ (by omega),Nat.mod_lt _ (by omega),Nat.mod_lt _ (by omega)⟩
def mixOf(kf:Nat→Nat)(x:E8)(s:ByteArray):E8:=(rounds kf (wt s) 64 x).plus x
theorem mixOf_ok(kf:Nat→Nat)(x:E8)(s:ByteArray):(mixOf kf x s).ok:=E8.plus_ok _ _
def E8.nth(x:E8):Nat→Nat
 |0=>x.a
 |1=>x.b
 |2=>x.c
 |3=>x.d
 |4=>x.e
 |5=>x.f
 |6=>x.g
 |_=>x.h
theorem E8.nth_lt{x:E8}(h:x.ok)(j:Nat):x.nth j<4294967296:=by
 obtain ⟨h0,h1,h2,h3,h4,h5,h6,h7⟩:=h
 match j with
 |0=>exact h0
 |1=>exact h1
 |2=>exact h2
 |3=>exact h3
 |4=>exact h4
 |5=>exact h5
 |6=>exact h6
 |_+7=>exact h7
theorem E8.plus_nth(x y:E8)(j:Nat):(x.plus y).nth j=(x.nth j+y.nth j)%4294967296:=by
 match j with
 |0=>rfl
 |1=>rfl
 |2=>rfl
 |3=>rfl
 |4=>rfl
 |5=>rfl
 |6=>rfl
 |_+7=>rfl
theorem E8.cells_get(x:E8)(g:Nat→Value)(j:Nat)(h:j<8):(#[g x.a,g x.b,g x.c,g x.d,g x.e,g x.f,g x.g,g x.h]:Array Value)[j]? =some (g (x.nth j)):=by
 match j with
 |0=>rfl
 |1=>rfl
 |2=>rfl
 |3=>rfl
 |4=>rfl
 |5=>rfl
 |6=>rfl
 |7=>rfl
 |_+8=>omega
theorem sm0_i{a:Nat}(h:a<4294967296):bits BinOp.xor IntKind.i64 (bits BinOp.xor IntKind.i64 (rotr a 7) (rotr a 18)) ((a:Int)/8)=(sm0 a:Int):=by
 have h1:=rotr_lt 7 h;have h2:=rotr_lt 18 h
 rw[i64_xor_nat _ _ (by omega) (by omega)]
 exact i64_xor_nat _ (a/8) (by have:=xor32 h1 h2;omega) (by omega)
theorem sm1_i{a:Nat}(h:a<4294967296):bits BinOp.xor IntKind.i64 (bits BinOp.xor IntKind.i64 (rotr a 17) (rotr a 19)) ((a:Int)/1024)=(sm1 a:Int):=by
 have h1:=rotr_lt 17 h;have h2:=rotr_lt 19 h
 rw[i64_xor_nat _ _ (by omega) (by omega)]
 exact i64_xor_nat _ (a/1024) (by have:=xor32 h1 h2;omega) (by omega)
theorem bg0_i{a:Nat}(h:a<4294967296):bits BinOp.xor IntKind.i64 (bits BinOp.xor IntKind.i64 (rotr a 2) (rotr a 13)) (rotr a 22)=(bg0 a:Int):=by
 have h1:=rotr_lt 2 h;have h2:=rotr_lt 13 h;have h3:=rotr_lt 22 h
 rw[i64_xor_nat _ _ (by omega) (by omega),i64_xor_nat _ _ (by have:=xor32 h1 h2;omega) (by omega)]
 rfl
theorem bg1_i{a:Nat}(h:a<4294967296):bits BinOp.xor IntKind.i64 (bits BinOp.xor IntKind.i64 (rotr a 6) (rotr a 11)) (rotr a 25)=(bg1 a:Int):=by
 have h1:=rotr_lt 6 h;have h2:=rotr_lt 11 h;have h3:=rotr_lt 25 h
 rw[i64_xor_nat _ _ (by omega) (by omega),i64_xor_nat _ _ (by have:=xor32 h1 h2;omega) (by omega)]
 rfl
theorem chs_i{e f g:Nat}(he:e<4294967296)(hf:f<4294967296)(hg:g<4294967296):
 bits BinOp.xor IntKind.i64 (bits BinOp.and IntKind.i64 e f) (bits BinOp.and IntKind.i64 (4294967295- (e:Int)) g)=(chs e f g:Int):=by
 have e1:(4294967295- (e:Int))=((4294967295- e:Nat):Int):=by omega
 have h1:=and32 f he;have h2:=and32 g (show 4294967295- e<4294967296 by omega)
 rw[e1,i64_and_nat _ _ (by omega) (by omega),i64_and_nat _ _ (by omega) (by omega),i64_xor_nat _ _ (by omega) (by omega)]
 rfl
theorem mjr_i{a b c:Nat}(ha:a<4294967296)(hb:b<4294967296)(hc:c<4294967296):
 bits BinOp.xor IntKind.i64 (bits BinOp.xor IntKind.i64 (bits BinOp.and IntKind.i64 a b) (bits BinOp.and IntKind.i64 a c)) (bits BinOp.and IntKind.i64 b c)=(mjr a b c:Int):=by
 have h1:=and32 b ha;have h2:=and32 c ha;have h3:=and32 c hb
 have h4:=xor32 h1 h2
 rw[i64_and_nat _ _ (by omega) (by omega),i64_and_nat _ _ (by omega) (by omega),i64_and_nat _ _ (by omega) (by omega),i64_xor_nat _ _ (by omega) (by omega),i64_xor_nat _ _ (by omega) (by omega)]
 rfl
structure Only (S:Nat→Prop) (w w' :World):Prop where
 os:w'.os=w.os
 tape:w'.tape=w.tape
 output:w'.output=w.output
 size:w.heap.size≤w'.heap.size
 block: ∀k,k<w.heap.size→¬S k→w'.heap[k]? =w.heap[k]?
def Old(w w' :World):Prop:=Only (fun _=>False) w w'
theorem Only.refl(S:Nat→Prop)(w:World):Only S w w:=⟨rfl,rfl,rfl,Nat.le_refl _,fun _ _ _=>rfl⟩
theorem Only.trans{S:Nat→Prop}{a b c:World}(h:Only S a b)(k:Only S b c):Only S a c:=
 ⟨k.os.trans h.os,k.tape.trans h.tape,k.output.trans h.output,Nat.le_trans h.size k.size,fun i hi hs=>(k.block i (Nat.lt_of_lt_of_le hi h.size) hs).trans (h.block i hi hs)⟩
theorem Only.transNew{S T:Nat→Prop}{a b c:World}(h:Only S a b)(k:Only T b c)(hT: ∀i,i<a.heap.size→T i→S i):Only S a c:=
 ⟨k.os.trans h.os,k.tape.trans h.tape,k.output.trans h.output,Nat.le_trans h.size k.size,fun i hi hs=>(k.block i (Nat.lt_of_lt_of_le hi h.size) (fun ht=>hs (hT i hi ht))).trans (h.block i hi hs)⟩
theorem Only.mono{S T:Nat→Prop}{a b:World}(h:Only S a b)(hT: ∀i,i<a.heap.size→S i→T i):Only T a b:=
 ⟨h.os,h.tape,h.output,h.size,fun i hi hs=>h.block i hi (fun x=>hs (hT i hi x))⟩
theorem Only.drewN{S:Nat→Prop}{a b:World}(h:Only S a b)(n:Nat):Only S a (b.drewN n):=⟨h.os,h.tape,h.output,h.size,h.block⟩
theorem Only.drew{S:Nat→Prop}{a b:World}(h:Only S a b):Only S a b.drew:=⟨h.os,h.tape,h.output,h.size,h.block⟩
theorem Only.alloc{S:Nat→Prop}{a w:World}(h:Only S a w)(o:Obj):Only S a (w.alloc o):=
 h.trans ⟨rfl,rfl,rfl,by simp,fun k hk _=>Below.heap_alloc _ _ _ hk⟩
theorem Only.setCell{S:Nat→Prop}{a w:World}(h:Only S a w){p:Addr}(hp:p.block<a.heap.size→S p.block)(u:Value):Only S a (w.setCell p u):=
 h.transNew (T:=fun k=>k=p.block) ⟨rfl,rfl,rfl,by simp[World.setCell],fun k _ hk=>Below.heap_setCell _ _ _ _ hk⟩ (fun i hi e=>by subst e;exact hp hi)
theorem Only.grown{S:Nat→Prop}{a w w' :World}{row:Option Nat}(h:Only S a w)(hg:w.grownBy w' row)(hr: ∀k,k<a.heap.size→row=some k→S k):Only S a w' :=
 h.transNew (T:=fun k=>row=some k) ⟨hg.os,hg.tape,hg.output,hg.size,fun k hk hs=>hg.block k hk (fun e=>hs e.symm)⟩ (fun i hi e=>hr i hi e)
theorem Only.cell{S:Nat→Prop}{w w' :World}(h:Only S w w'){p:Addr}(hp:p.block<w.heap.size)(hs:¬S p.block):w'.cell? p=w.cell? p:=World.cell?_of_block (w:=w) (h.block p.block hp hs)
theorem Only.frozen{S:Nat→Prop}{w w' :World}(h:Only S w w'){p:Addr}(hp:p.block<w.heap.size)(hs:¬S p.block):w'.frozen? p=w.frozen? p:=World.frozen?_of_block (w:=w) (h.block p.block hp hs)
theorem Only.below{S:Nat→Prop}{w w' :World}(h:Only S w w')(B:Nat)(hB:B≤w.heap.size)(hs: ∀k,k<B→¬S k):Below B w w' :=⟨h.os,h.tape,h.output,h.size,fun k hk=>h.block k (by omega) (hs k hk)⟩
theorem only_set(w:World)(b i:Nat)(u:Value):Only (fun k=>k=b) w (w.setCell ⟨b,i,none⟩ u):=(Only.refl (fun k=>k=b) w).setCell (p:=⟨b,i,none⟩) (fun _=>rfl) u
def Row(w:World)(g:Nat)(e:TypeId)(n:Nat)(f:Nat→Value):Prop:=
 ∃cur:Array Value,w.heap[g]? =some (.cells cur e (0,0))∧n≤cur.size∧ ∀j,j<n→cur[j]? =some (f j)
theorem Row.lt{w:World}{g n:Nat}{e:TypeId}{f:Nat→Value}(h:Row w g e n f):g<w.heap.size:=by
 obtain ⟨cur,hg,_⟩:=h;exact (Array.getElem?_eq_some_iff.1 hg).1
theorem Row.cell{w:World}{g n:Nat}{e:TypeId}{f:Nat→Value}(h:Row w g e n f)(j:Nat)(hj:j<n):w.cell? ⟨g,j,none⟩=some (f j):=by
 obtain ⟨cur,hg,_,hc⟩:=h;rw[cell_of_row w g j cur e (0,0) hg];exact hc j hj
theorem Row.thaw{w:World}{g n:Nat}{e:TypeId}{f:Nat→Value}(h:Row w g e n f)(o:Nat):w.frozen? ⟨g,o,none⟩=false:=by
 obtain ⟨cur,hg,_⟩:=h;exact frozen_of_row w g o cur e hg
theorem Row.kept{w w' :World}{g n:Nat}{e:TypeId}{f:Nat→Value}{S:Nat→Prop}(h:Row w g e n f)(ho:Only S w w')(hs:¬S g):Row w' g e n f:=by
 have hl:=h.lt
 obtain ⟨cur,hg,r⟩:=h;exact ⟨cur,(ho.block g hl hs).trans hg,r⟩
theorem Row.old{w w' :World}{g n:Nat}{e:TypeId}{f:Nat→Value}(h:Row w g e n f)(ho:Old w w'):Row w' g e n f:=h.kept ho (fun x=>x)
theorem Row.drewN{w:World}{g n:Nat}{e:TypeId}{f:Nat→Value}(h:Row w g e n f)(m:Nat):Row (w.drewN m) g e n f:=h
theorem Row.drew{w:World}{g n:Nat}{e:TypeId}{f:Nat→Value}(h:Row w g e n f):Row w.drew g e n f:=h
theorem Row.alloc{w:World}{g n:Nat}{e:TypeId}{f:Nat→Value}(h:Row w g e n f)(o:Obj):Row (w.alloc o) g e n f:=h.kept ((Only.refl (fun _=>False) w).alloc o) (fun x=>x)
theorem Row.congr{w:World}{g n:Nat}{e:TypeId}{f f' :Nat→Value}(h:Row w g e n f)(hf: ∀j,j<n→f j=f' j):Row w g e n f' :=by
 obtain ⟨cur,hg,hn,hc⟩:=h;exact ⟨cur,hg,hn,fun j hj=>(hc j hj).trans (by rw[hf j hj])⟩
theorem Row.set{w:World}{g n:Nat}{e:TypeId}{f:Nat→Value}(h:Row w g e n f)(i:Nat)(hi:i<n)(v:Value):Row (w.setCell ⟨g,i,none⟩ v) g e n (fun j=>if j=i then v else f j):=by
 obtain ⟨cur,hg,hn,hc⟩:=h
 refine ⟨_,heap_setCell_same w g i cur e v hg,by simpa using hn,fun j hj=> ?_⟩
 rw[Array.getElem?_setIfInBounds]
 by_cases e1:i=j
 ·subst e1;rw[if_pos rfl,if_pos (by omega)];exact congrArg some (if_pos rfl).symm
 rw[if_neg e1,hc j hj];exact congrArg some (if_neg (fun h:j=i=>e1 h.symm)).symm
theorem Row.setOther{w:World}{g n:Nat}{e:TypeId}{f:Nat→Value}(h:Row w g e n f)(b i:Nat)(hb:g≠b)(v:Value):Row (w.setCell ⟨b,i,none⟩ v) g e n f:=h.kept (only_set w b i v) hb
theorem Row.new(w:World)(cur:Array Value)(e:TypeId)(n:Nat)(f:Nat→Value)(hn:n≤cur.size)(hc: ∀j,j<n→cur[j]? =some (f j)):Row (w.alloc (.cells cur e)) w.heap.size e n f:=
 ⟨cur,Go.heap_alloc_new w _,hn,hc⟩
theorem Only.setRow{S:Nat→Prop}{a w:World}(h:Only S a w)(g:Nat)(hp:g<a.heap.size→S g)(cs:Array Value):Only S a (w.setRow g cs):=
 h.transNew (T:=fun k=>k=g) ⟨rfl,rfl,rfl,by simp[World.setRow],fun k _ hk=>setRow_other w g k cs hk⟩ (fun i hi e=>by subst e;exact hp hi)
def arrF(n:Nat)(f:Nat→Value):Array Value:=((List.range n).map f).toArray
theorem arrF_size(n:Nat)(f:Nat→Value):(arrF n f).size=n:=by simp[arrF]
theorem arrF_get(n:Nat)(f:Nat→Value)(j:Nat)(h:j<n):(arrF n f)[j]? =some (f j):=by simp[arrF,h]
theorem arrF_congr{n:Nat}{f f' :Nat→Value}(h: ∀j,j<n→f j=f' j):arrF n f=arrF n f' :=by
 unfold arrF;rw[List.map_congr_left (fun j hj=>h j (List.mem_range.1 hj))]
theorem arrF_set(n:Nat)(f:Nat→Value)(i:Nat)(v:Value):(arrF n f).setIfInBounds i v=arrF n (fun j=>if j=i then v else f j):=by
 apply Array.ext_getElem?
 intro j
 rw[Array.getElem?_setIfInBounds]
 by_cases hj:j<n
 ·rw[arrF_get n (fun j=>if j=i then v else f j) j hj,arrF_get n f j hj,arrF_size]
  by_cases e:i=j
  ·subst e;rw[if_pos rfl,if_pos hj,if_pos rfl]
  rw[if_neg e,if_neg (fun h:j=i=>e h.symm)]
 rw[Array.getElem?_eq_none (by rw[arrF_size];omega),arrF_size]
 by_cases e:i=j
 ·subst e;rw[if_pos rfl,if_neg hj];exact (Array.getElem?_eq_none (by rw[arrF_size];omega)).symm
 rw[if_neg e];exact (Array.getElem?_eq_none (by rw[arrF_size];omega)).symm
def Arr(w:World)(g:Nat)(t:TypeId)(n:Nat)(f:Nat→Value):Prop:=w.heap[g]? =some (.cells (arrF n f) t (0,0))
theorem Arr.row{w:World}{g n:Nat}{t:TypeId}{f:Nat→Value}(h:Arr w g t n f):Row w g t n f:=⟨_,h,by rw[arrF_size];exact Nat.le_refl _,fun j hj=>arrF_get n f j hj⟩
theorem Arr.lt{w:World}{g n:Nat}{t:TypeId}{f:Nat→Value}(h:Arr w g t n f):g<w.heap.size:=h.row.lt
theorem Arr.kept{w w' :World}{g n:Nat}{t:TypeId}{f:Nat→Value}{S:Nat→Prop}(h:Arr w g t n f)(ho:Only S w w')(hs:¬S g):Arr w' g t n f:=(ho.block g h.lt hs).trans h
theorem Arr.old{w w' :World}{g n:Nat}{t:TypeId}{f:Nat→Value}(h:Arr w g t n f)(ho:Old w w'):Arr w' g t n f:=h.kept ho (fun x=>x)
theorem Arr.set{w:World}{g n:Nat}{t:TypeId}{f:Nat→Value}(h:Arr w g t n f)(i:Nat)(v:Value):Arr (w.setCell ⟨g,i,none⟩ v) g t n (fun j=>if j=i then v else f j):=by
 unfold Arr;rw[heap_setCell_same w g i _ _ v h,arrF_set]
theorem Arr.setOther{w:World}{g n:Nat}{t:TypeId}{f:Nat→Value}(h:Arr w g t n f)(b i:Nat)(hb:g≠b)(v:Value):Arr (w.setCell ⟨b,i,none⟩ v) g t n f:=h.kept (only_set w b i v) hb
theorem Arr.congr{w:World}{g n:Nat}{t:TypeId}{f f' :Nat→Value}(h:Arr w g t n f)(hf: ∀j,j<n→f j=f' j):Arr w g t n f' :=by unfold Arr;rw[←arrF_congr hf];exact h
theorem Arr.drewN{w:World}{g n:Nat}{t:TypeId}{f:Nat→Value}(h:Arr w g t n f)(m:Nat):Arr (w.drewN m) g t n f:=h
theorem Arr.alloc{w:World}{g n:Nat}{t:TypeId}{f:Nat→Value}(h:Arr w g t n f)(o:Obj):Arr (w.alloc o) g t n f:=h.kept ((Only.refl (fun _=>False) w).alloc o) (fun x=>x)
theorem Arr.mk'{w:World}{g:Nat}{cur:Array Value}{t:TypeId}{n:Nat}{f:Nat→Value}(hg:g=w.heap.size)(h:cur=arrF n f):Arr (w.alloc (.cells cur t)) g t n f:=by subst h hg;exact Go.heap_alloc_new w _
theorem Arr.new(w:World)(cur:Array Value)(t:TypeId)(n:Nat)(f:Nat→Value)(h:cur=arrF n f):Arr (w.alloc (.cells cur t)) w.heap.size t n f:=by subst h;exact Go.heap_alloc_new w _
end Go.Proofs.YtndfmgdhiallpaaGreatDoor
