import Derived.Test.YtamokkcfibdghaaGreatP24
import Derived.Test.YtamokkcfibdghaaGreatP11
namespace Go.Proofs.Z
variable {Zp:Prop}
open Tryz Go.RowKit Flt
set_option maxRecDepth 1000000
set_option maxHeartbeats 0
section
variable {X t p r j P n cap i h:Nat}{s:Bool}{w J:World}{a:Option Addr}{bs:List Int}
abbrev eN (l:List UInt8):Value:=.string ⟨l.toArray⟩
theorem tO(a b:List UInt8):(⟨a.toArray⟩:ByteArray)++⟨b.toArray⟩=⟨(a++b).toArray⟩:=by
 apply ByteArray.ext;simp
def gF (n:Nat):List UInt8:=if n<10 then[UInt8.ofNat (48+n)]else gF (n/10)++gF (n%10)
termination_by n
decreasing_by all_goals omega
theorem jT(n):(gF n).length<=n+1:=by
 rw[gF];split
 ·simp
 rw[yak];have B:=jT (n/10);have R:(gF (n%10)).length=1:=by rw[gF,hK xaa];rfl
 omega
termination_by n
decreasing_by all_goals omega
theorem gl(l:List UInt8):(⟨l.toArray⟩:ByteArray).size=l.length:=by simp[ByteArray.size]
theorem JQ:∀k:Fin 10,({data:=#[48,49,50,51,52,53,54,55,56,57]}:ByteArray).extract k.1 (k.1+1)=⟨#[UInt8.ofNat (48+k.1)]⟩:=by decide+kernel
theorem vp(n:Nat)(hn:n<10)(w):Calls prog 57 #[hI n] w λe J=>e=.returned (eN (gF n))/\J=w:=by
 have aV:gF n=[UInt8.ofNat (48+n)]:=by rw[gF,hK hn]
 have au:({data:=#[48,49,50,51,52,53,54,55,56,57]}:ByteArray).extract n (n+1)=⟨(gF n).toArray⟩:=by rw[aV];exact JQ ⟨n,hn⟩
 unfold eN;generalize (⟨(gF n).toArray⟩:ByteArray)=f at au;have aQ:(n:Int)<10:=xaa;have a6:IntKind.i64.wrap ((n:Int)+1)=(n:Int)+1:=by rw[IntKind.wrap_i64];omega
 have bK:0<=(n:Int):=xaa;clear aV;go_enter func57,ntmps57;go_wp2;go_ret;exact⟨rfl,rfl⟩
theorem zj:∀(bQ n:Nat),n<=bQ->n<=1000000->∀w:World,Calls prog 57 #[hI n] w λe J=>e=.returned (eN (gF n))/\J=w:=by
 intro bQ;induction bQ with
 |zero=>
  intro n h _ w;exact vp n xaa w
 |succ bQ ag=>
  intro n h hb w;by_cases hn:n<10
  ·exact vp n hn w
  have aV:gF n=gF (n/10)++gF (n%10):=by rw[gF,hJ hn]
  have H1:V (∀w:World,Calls prog 57 #[hI ((n:Int)/10)] w λe J=>e=.returned (eN (gF (n/10)))/\J=w):=ag (n/10) xaa xaa;have H2:V (∀w:World,Calls prog 57 #[hI ((n:Int)%10)] w λe J=>e=.returned (eN (gF (n%10)))/\J=w):=ag (n%10) xaa xaa;have aQ:¬((n:Int)<10):=xaa;unfold eN at H1 H2⊢;rw[aV,<-tO]
  have bp:¬(9223372036854775807<(⟨(gF (n/10)).toArray⟩:ByteArray).size+(⟨(gF (n%10)).toArray⟩:ByteArray).size):=by
   rw[gl,gl];have:=jT (n/10);have:=jT (n%10);omega
  generalize (⟨(gF (n/10)).toArray⟩:ByteArray)=a at H1 bp;generalize (⟨(gF (n%10)).toArray⟩:ByteArray)=b at H2 bp;clear ag aV;go_enter func57,ntmps57;go_wp2_with fail;refine yai (H1.o w) ?_;rintro e aB ⟨rfl,rfl⟩;go_wp2_with fail;refine yai (H2.o aB) ?_;rintro e af ⟨rfl,rfl⟩;go_wp2_with fail;go_ret;exact⟨rfl,rfl⟩
structure RdF (w:World)(P:Nat)(a:Option Addr)(n cap i:Nat)(bs:List Int):Prop where
 lt:P<w.heap.size
 c0:w.cell? ⟨P,0,none⟩=some (.slice a n cap)
 c1:w.cell? ⟨P,1,none⟩=some (.int .i64 (i:Int))
 fz:w.frozen? ⟨P,1,none⟩=false
 hi:i<=n
 small:n<=500
 ys:YS w a n bs
 ne:0<n->∀g off,a=some ⟨g,off,none⟩->g<P
theorem FQ{xs}(f:YS w a n xs)(k:Kept P h w J)(ne:0<n->∀g off,a=some ⟨g,off,none⟩->g<P):YS J a n xs:=
 ⟨f.len,f.lt,f.at_.imp id λ⟨g,off,e,h3,a8⟩=>⟨g,off,e,yaj h3 k.size,λj hj=>by rw[k.cell (p:=⟨g,off+j,none⟩) h3 (by have:=ne xaa g off e;show ¬(P<=g/\g<h);omega)];exact a8 j hj⟩⟩
theorem RdF.keep{l}(f:RdF w P a n cap i bs)(k:Kept l h w J)(aV:P<l\/h<=l):RdF J P a n cap i bs where
 lt:=yaj f.lt k.size
 c0:=by rw[k.cell (p:=⟨P,0,none⟩) f.lt (by show ¬(l<=P/\P<h);omega)];exact f.c0
 c1:=by rw[k.cell (p:=⟨P,1,none⟩) f.lt (by show ¬(l<=P/\P<h);omega)];exact f.c1
 fz:=by rw[k.frozen (p:=⟨P,1,none⟩) f.lt (by show ¬(l<=P/\P<h);omega)];exact f.fz
 hi:=f.hi
 small:=f.small
 ys:=⟨f.ys.len,f.ys.lt,f.ys.at_.imp id λ⟨g,off,e,h3,a8⟩=>⟨g,off,e,yaj h3 k.size,λj hj=>by rw[k.cell (p:=⟨g,off+j,none⟩) h3 (by have:=f.ne xaa g off e;show ¬(l<=g/\g<h);omega)];exact a8 j hj⟩⟩
 ne:=f.ne
def nv (bs:List Int)(i:Nat):Nat:=(bs.getD i 0).toNat
def ni (bs:List Int)(i:Nat):Nat:=if i<bs.length then i+1 else i
theorem fK(f:YS w a n bs)(i):nv bs i<256:=by
 unfold nv;by_cases h:i<bs.length
 ·have:=f.lt _ (List.getElem_mem h);rw[yah,yal h];show(bs[i]).toNat<256;omega
 rw[yah,List.getElem?_eq_none xaa];decide
theorem JR(f:RdF w P a n cap i bs)(hi:i<n):
  RdF (w.setCell ⟨P,1,none⟩ (hI ((i:Int)+1))) P a n cap (i+1) bs/\Kept P (P+1) w (w.setCell ⟨P,1,none⟩ (hI ((i:Int)+1)))/\(w.setCell ⟨P,1,none⟩ (hI ((i:Int)+1))).heap.size=w.heap.size:=by
 have ap:Kept P (P+1) w (w.setCell ⟨P,1,none⟩ (hI ((i:Int)+1))):=eX w ⟨P,1,none⟩ _ yac;exact⟨⟨by simpa using f.lt,by rw[World.cell?_setCell_other (h:=by simp)];exact f.c0,by rw[World.cell?_setCell_same (h:=f.c1)];rfl,by rw[World.frozen?_setCell];exact f.fz,hi,f.small,FQ f.ys ap f.ne,f.ne⟩,ap,by simp⟩
theorem jp(w P a n cap i bs)(f:RdF w P a n cap i bs):
  Calls prog 13 #[hG P] w λe J=>e=.returned (hI (nv bs i:Int))/\RdF J P a n cap (ni bs i) bs/\Kept P (P+1) w J/\J.heap.size=w.heap.size:=by
 have aj:=f.c0;have B:=f.c1;have hn:=f.small;have ah:=f.ys.len;by_cases hi:i<n
 ·have R:=f.fz
  obtain⟨I,off,rfl,aS,au⟩:∃I off,a=some ⟨I,off,none⟩/\I<w.heap.size/\w.cell? ⟨I,off+i,none⟩=some (.int .u8 (bs.getD i 0)):=by
   rcases f.ys.at_ with q|⟨g,off,e,h3,a8⟩
   ·omega
   exact⟨g,off,e,h3,a8 i hi⟩
  have hb:0<=bs.getD i 0/\bs.getD i 0<256:=by
   rw[yah,yal xaa];exact f.ys.lt _ (List.getElem_mem _)
  obtain⟨bb,bD⟩:=hb;have aL:(nv bs i:Int)=bs.getD i 0:=by unfold nv;omega
  have l:ni bs i=i+1:=by unfold ni;rw[hK xaa]
  have aP:V _:=f;rw[aL,l];generalize bs.getD i 0=x at au bb bD aL;clear f aL l aS;go_enter func13,ntmps13;go_wp2;go_quiet (fail)
  go_wp2;go_quiet (fail)
  go_wp2;go_ret;have H:=eM P (P+1) w;obtain⟨aC,a0,ai⟩:=JR (aP.o.keep (eM 0 0 w _) yab) hi;exact⟨rfl,aC,(H _).trans a0,ai⟩
 have aL:(nv bs i:Int)=0:=by
  unfold nv;rw[yah,List.getElem?_eq_none xaa];rfl
 have l:ni bs i=i:=by unfold ni;rw[hJ xaa]
 have aP:V _:=f;rw[aL,l];have hi:n<=i:=xaa;clear f aL l;go_enter func13,ntmps13;go_wp2;go_quiet (fail)
 go_wp2;go_ret;exact⟨rfl,aP.o.keep (eM 0 0 _ _) yab,eM _ _ _ _,rfl⟩
theorem vq{q}(aq:0<q)(ht:t<4503599627370496):val (q*4503599627370496+t)=(4503599627370496+t)*p2 (q-1):=by
 rw[nT];have ae:M (q*4503599627370496+t)=4503599627370496+t:=by unfold M;rw[hJ xaa];omega
 have a9:E (q*4503599627370496+t)=q-1:=by unfold E;omega
 rw[ae,a9]
theorem O1:p2 52=4503599627370496:=xab
theorem O2{a b}(h:a<=b):p2 a<=p2 b:=mJ h
theorem O3(ht:t<4503599627370496)(k):t*p2 k<p2 (52+k):=by
 rw[kU,O1];exact Nat.mul_lt_mul_of_pos_right ht (EN k)
theorem Ni(t)(ht:t<4503599627370496)(k)(O:k<=2046):∃r,val r=t*p2 k/\r<9218868437227405312:=by
 obtain⟨r,ay⟩:=rep t xaa k;refine⟨r,ay,Av ?_⟩;rw[ay];exact yaj (O3 ht k) (O2 xaa)
theorem JS(h:dbl p<9218868437227405312)(w):
  (binOp .mul 49 (.float .f64 (W false p)) (.float .f64 4611686018427387904)).run prog w=.ok (.float .f64 (W false (dbl p))) w:=
 run_float_arith w .mul 49 .f64 (W false p) 4611686018427387904 (W false (dbl p)) (IQ (s:=false) h)
theorem JT(h:4503599627370496<=p):dbl p=p+4503599627370496:=by unfold dbl;rw[hJ xaa]
theorem zm(t)(ht:t<4503599627370496):∃p,val p=t*p2 1074/\p<9218868437227405312/\floatOfInt .f64 (t:Int)=W false p:=by
 obtain⟨p,aK,ah⟩:=Ni t ht 1074 xaa;refine⟨p,aK,ah,?_⟩;unfold floatOfInt FloatKind.nearest FloatKind.encode;show Ieee.double.write _=_;simp only[Ieee.Format.write,Int.natAbs_natCast];rw[show decide ((t:Int)<0)=false from yax xaa];exact lq false t 0 p 1074 0 ah (by rw[aK,show p2 0=1 from rfl,Nat.mul_one]) xaa
theorem mg(t)(ht:t<4503599627370496):∃p,val p=t*p2 1022/\p<9218868437227405312/\∀w,(binOp .quo 49 (.float .f64 (floatOfInt .f64 (t:Int))) (.float .f64 4841369599423283200)).run prog w=.ok (.float .f64 (W false p)) w:=by
 obtain⟨bk,Y,bL,ab⟩:=zm t ht;obtain⟨p,aK,ah⟩:=Ni t ht 1022 xaa;refine⟨p,aK,ah,λw=>run_float_arith w .quo 49 .f64 _ _ _ ?_⟩;rw[ab];show Ieee.double.div (W false bk) (W false 4841369599423283200)=_;rw[qW (p:=p) bL xaa ah OL]
 ·rfl
 rw[Y,aK,OM,<-kU,Nat.mul_assoc,Nat.mul_assoc,<-kU,<-kU]
theorem zn(t p)(ht:t<4503599627370496)(aK:val p=t*p2 1022)(ah:p<9218868437227405312)(w):
  (binOp .add 49 (.float .f64 4607182418800017408) (.float .f64 (W false p))).run prog w=.ok (.float .f64 (W false (t+4607182418800017408))) w:=by
 refine run_float_arith w .add 49 .f64 _ _ _ ?_;show Ieee.double.add (W false 4607182418800017408) (W false p)=_;refine uO xaa ah xaa ?_ (λh=>rfl);have a:=vq (q:=1023) xaa ht;have b:=vq (q:=1023) (t:=0) xaa xaa;rw[show 1023*4503599627370496+t=t+4607182418800017408 by omega]at a;rw[show 1023*4503599627370496+0=4607182418800017408 by omega]at b;rw[a,b,aK];simp only[sg,Bool.false_eq_true,if_false];rw[Nat.add_zero,show 1023-1=1022 from rfl,Nat.add_mul];omega
def up (X j:Nat):Nat:=X+j*4503599627370496
def dn (X j:Nat):Nat:=X-j*4503599627370496
theorem Nj(aj:4503599627370496<=X)(h:up X (j+1)<9218868437227405312)(w):
  (binOp .mul 49 (.float .f64 (W false (up X j))) (.float .f64 4611686018427387904)).run prog w=.ok (.float .f64 (W false (up X (j+1)))) w:=by
 have e:dbl (up X j)=up X (j+1):=by
  rw[JT (by unfold up;omega)];unfold up;rw[Nat.succ_mul,Nat.add_assoc]
 rw[<-e];exact JS (hU e h) w
theorem Nk(aj:9007199254740992<=dn X j)(h:X<9218868437227405312)(w):
  (binOp .quo 49 (.float .f64 (W false (dn X j))) (.float .f64 4611686018427387904)).run prog w=.ok (.float .f64 (W false (dn X (j+1)))) w:=by
 have e:dn X j-4503599627370496=dn X (j+1):=by
  unfold dn;rw[Nat.succ_mul,Nat.sub_add_eq]
 rw[<-e];refine run_float_arith w .quo 49 .f64 _ 4611686018427387904 _ (BF (s:=false) ?_ (EP aj));have:dn X j<=X:=Nat.sub_le _ _;omega
theorem qC(r)(h:r<9223372036854775808)(w):(Op.unary .neg (.float .f64 (W false r))).run prog w=.ok (.float .f64 (W true r)) w:=by
 have:Op.negFloat FloatKind.f64 (W false r)=W true r:=uL false h;rw[<-this];rfl
def qD (s:Bool)(r:Nat)(w:World)(e:Ending)(w':World):Prop:=e=.returned (.float .f64 (W s r))/\w'=w
theorem xz(s:Bool)(b q t:Nat)(w)(aq:(b:Int)/4503599627370496%2048=(q:Int))(ht:(b:Int)%4503599627370496=(t:Int))
  (ad:if s then 9223372036854775808<=(b:Int)else (b:Int)<9223372036854775808) (hb:b<18446744073709551616)
  (f:1023<q) (u:q<=2046) (g:t<4503599627370496):
  Calls prog 99 #[.int .u64 (b:Int)] w λe J=>qD s (up (t+4607182418800017408) (q-1023)) w e J:=by
 obtain⟨p,aK,ah,o⟩:=mg t g;have z:=zn t p g aK ah;have bq:4503599627370496<=t+4607182418800017408:=xaa;have B:up (t+4607182418800017408) (q-1023)<9218868437227405312:=by unfold up;omega
 have C:∀j,j<=q-1023->up (t+4607182418800017408) j<=up (t+4607182418800017408) (q-1023):=λj hj=>by unfold up;exact Nat.add_le_add_left (Nat.mul_le_mul_right _ hj) _
 have y:∀j,j<q-1023->∀w,(binOp .mul 49 (.float .f64 (W false (up (t+4607182418800017408) j))) (.float .f64 4611686018427387904)).run prog w=.ok (.float .f64 (W false (up (t+4607182418800017408) (j+1)))) w:=
  λj hj=>Nj bq (Nat.lt_of_le_of_lt (C (j+1) hj) B)
 have aj:t+4607182418800017408=up (t+4607182418800017408) 0:=by unfold up;omega
 have aO:=qC (up (t+4607182418800017408) (q-1023)) xaa;clear aK ah bq B C;generalize t+4607182418800017408=X at*;have m:V (X=up X 0):=aj;have aw:V (∀j,j<q-1023->∀w,(binOp .mul 49 (.float .f64 (W false (up X j))) (.float .f64 4611686018427387904)).run prog w=.ok (.float .f64 (W false (up X (j+1)))) w):=y;have bD:V (∀w,(Op.unary .neg (.float .f64 (W false (up X (q-1023))))).run prog w=.ok (.float .f64 (W true (up X (q-1023)))) w):=aO;clear aj y aO;have H:((q:Int)==2047)=false:=yam xaa;go_enter func99,ntmps99;go_wp2_with fail;clear o z aq ht g;go_loop [5,3] (λv e=>∃j:Nat,j<=q-1023/\v=.float .f64 (W false (up X j))/\e=hI ((q:Int)-j)) (λ_ e=>(intOf e).toNat)
 case atStart=>exact⟨0,by omega,by rw[<-m.o],by simp⟩
 case round=>
  obtain⟨j,hj,rfl,rfl⟩:=hrel;by_cases ai:j<q-1023
  ·exact xig
  obtain rfl:j=q-1023:=xaa;have x:=bD.o;clear ai hj;have G:((q-1023:Nat):Int)=(q:Int)-1023:=xaa;rw[G];clear G;go_wp2_with fail;go_loop [5,3] (λv e=>v=.float .f64 (W false (up X (q-1023)))/\e=hI 1023) (λ_ e=>0)
  case atStart=>exact⟨rfl,by congr 1;omega⟩
  case round=>
   obtain⟨rfl,rfl⟩:=hrel;clear hb f u;cases s
   ·have l:(b:Int)<9223372036854775808:=ad;have b9:decide (9223372036854775808<=(b:Int))=false:=yax xaa;clear ad l;go_wp2;go_ret;exact⟨rfl,rfl⟩
   have l:9223372036854775808<=(b:Int):=ad;have b9:decide (9223372036854775808<=(b:Int))=true:=decide_eq_true xaa;clear ad l;go_wp2;go_ret;exact⟨rfl,rfl⟩
theorem xA(s:Bool)(b q t:Nat)(w)(aq:(b:Int)/4503599627370496%2048=(q:Int))(ht:(b:Int)%4503599627370496=(t:Int))
  (ad:if s then 9223372036854775808<=(b:Int)else (b:Int)<9223372036854775808) (hb:b<18446744073709551616)
  (f:1<=q) (u:q<=1023) (g:t<4503599627370496):
  Calls prog 99 #[.int .u64 (b:Int)] w λe J=>qD s (dn (t+4607182418800017408) (1023-q)) w e J:=by
 obtain⟨p,aK,ah,o⟩:=mg t g;have z:=zn t p g aK ah
 have y:∀j,j<1023-q->∀w,(binOp .quo 49 (.float .f64 (W false (dn (t+4607182418800017408) j))) (.float .f64 4611686018427387904)).run prog w=.ok (.float .f64 (W false (dn (t+4607182418800017408) (j+1)))) w:=
  λj hj=>Nk (by
   unfold dn
   have:j*4503599627370496<=1021*4503599627370496:=Nat.mul_le_mul_right _ xaa
   omega) xaa
 have aj:t+4607182418800017408=dn (t+4607182418800017408) 0:=by unfold dn;omega
 have aO:=qC (dn (t+4607182418800017408) (1023-q)) (by have:dn (t+4607182418800017408) (1023-q)<=t+4607182418800017408:=Nat.sub_le _ _;omega);clear aK ah;generalize t+4607182418800017408=X at*;have m:V (X=dn X 0):=aj;have aw:V (∀j,j<1023-q->∀w,(binOp .quo 49 (.float .f64 (W false (dn X j))) (.float .f64 4611686018427387904)).run prog w=.ok (.float .f64 (W false (dn X (j+1)))) w):=y;have bD:V (∀w,(Op.unary .neg (.float .f64 (W false (dn X (1023-q))))).run prog w=.ok (.float .f64 (W true (dn X (1023-q)))) w):=aO;clear aj y aO;have H:((q:Int)==2047)=false:=yam xaa;go_enter func99,ntmps99;go_wp2_with fail;clear o z aq ht g hb;go_loop [5,3] (λv e=>v=.float .f64 (W false X)/\e=hI q) (λ_ e=>0)
 case atStart=>exact⟨rfl,rfl⟩
 case round=>
  obtain⟨rfl,rfl⟩:=hrel;go_wp2_with fail;go_loop [5,3] (λv e=>∃j:Nat,j<=1023-q/\v=.float .f64 (W false (dn X j))/\e=hI ((q:Int)+j)) (λ_ e=>1023-(intOf e).toNat)
  case atStart=>exact⟨0,by omega,by rw[<-m.o],by simp⟩
  case round=>
   obtain⟨j,hj,rfl,rfl⟩:=hrel;by_cases ai:j<1023-q
   ·exact xig
   obtain rfl:j=1023-q:=xaa;have x:=bD.o;have G:((1023-q:Nat):Int)=1023-(q:Int):=xaa;rw[G];clear G ai hj;exact xdw
theorem FT{k}(h:val p=t*p2 (k+1))(aK:p<9218868437227405312)(ht:t<4503599627370496)(O:k<=1022):
  ∃f,val f=t*p2 k/\f<9218868437227405312/\∀w,(binOp .quo 49 (.float .f64 (W false p)) (.float .f64 4611686018427387904)).run prog w=.ok (.float .f64 (W false f)) w:=by
 obtain⟨f,m,ah⟩:=Ni t ht k xaa;refine⟨f,m,ah,λw=>run_float_arith w .quo 49 .f64 _ 4611686018427387904 _ (BF (s:=false) aK ?_)⟩;rw[h,m,vX];exact Nat.mul_left_comm _ _ _
theorem xB(s:Bool)(b t:Nat)(w)(aq:(b:Int)/4503599627370496%2048=0)(ht:(b:Int)%4503599627370496=(t:Int))
  (ad:if s then 9223372036854775808<=(b:Int)else (b:Int)<9223372036854775808) (hb:b<18446744073709551616) (g:t<4503599627370496):
  Calls prog 99 #[.int .u64 (b:Int)] w λe J=>qD s t w e J:=by
 obtain⟨p,aK,ah,o⟩:=mg t g;have bD:V (∀w,(Op.unary .neg (.float .f64 (W false t))).run prog w=.ok (.float .f64 (W true t)) w):=qC t xaa;have aW:V (val p=t*p2 1022):=aK;have bP:V (t<4503599627370496):=g;have HL:V (p<9218868437227405312):=ah;clear aK ah;go_enter func99,ntmps99;go_wp2_with fail;clear o aq ht g hb;go_loop [5,3] (λv e=>v=.float .f64 (W false p)/\e=hI 1) (λ_ e=>0)
 case atStart=>exact⟨rfl,rfl⟩
 case round=>
  obtain⟨rfl,rfl⟩:=hrel;go_wp2_with fail;go_loop [5,3] (λv e=>∃j f:Nat,j<=1022/\V (val f=t*p2 (1022-j))/\V (f<9218868437227405312)/\v=.float .f64 (W false f)/\e=hI (1+(j:Int))) (λ_ e=>1023-(intOf e).toNat)
  case atStart=>exact⟨0,p,by omega,aW,HL,rfl,rfl⟩
  case round=>
   obtain⟨j,f,hj,aL,y,rfl,rfl⟩:=hrel;by_cases ai:j<1022
   ·obtain⟨q,m,bf,x⟩:=FT (k:=1022-(j+1)) (by rw[aL.o,show 1022-(j+1)+1=1022-j by omega]) y.o bP.o xaa;have u:V (val q=t*p2 (1022-(j+1))):=m;have al:V (q<9218868437227405312):=bf;clear m bf;go_wp2;go_round
    case rel=>exact⟨j+1,q,by omega,u,al,rfl,by go_num⟩
    case measure=>simp[intOf];omega
   obtain rfl:j=1022:=xaa
   have l:f=t:=by
    have:=aL.o;rw[show 1022-1022=0 from rfl,show p2 0=1 from rfl,Nat.mul_one]at this;refine sp (this.trans (oL ?_).symm);have:=bP.o;omega
   have x:=bD.o;rw[l];clear ai hj l;exact xdw
theorem xC(s:Bool)(b:Nat)(w)(aq:(b:Int)/4503599627370496%2048=2047)(ht:(b:Int)%4503599627370496=0)
  (ad:if s then 9223372036854775808<=(b:Int)else (b:Int)<9223372036854775808) (hb:b<18446744073709551616):
  Calls prog 99 #[.int .u64 (b:Int)] w λe J=>qD s 9218868437227405312 w e J:=by
 obtain⟨p,aK,ah,o⟩:=mg 0 xaa;have Y:p=0:=sp (by rw[aK,Nat.zero_mul,jE]);subst Y;rw[show((0:Nat):Int)=0 from rfl]at o;have B:FloatKind.f64.format.order (W false 0) 0=some .eq:=lu;have R:=qg;have bD:=qC 9218868437227405312 xaa;rw[show W false 9218868437227405312=9218868437227405312 from rfl]at bD;clear aK ah;cases s
 ·have l:(b:Int)<9223372036854775808:=ad;have b9:decide (9223372036854775808<=(b:Int))=false:=yax xaa;exact xkd
 have l:9223372036854775808<=(b:Int):=ad;have b9:decide (9223372036854775808<=(b:Int))=true:=decide_eq_true xaa;exact xkd
theorem xD(b t:Nat)(w)(aq:(b:Int)/4503599627370496%2048=2047)(ht:(b:Int)%4503599627370496=(t:Int))(g:t<4503599627370496)(f:0<t)(hb:b<18446744073709551616):
  Calls prog 99 #[.int .u64 (b:Int)] w λe J=>∃y,e=.returned (.float .f64 y)/\fb y=9221120237041090560/\y<18446744073709551616/\∃m,J=w.drewN m:=by
 obtain⟨p,aK,ah,o⟩:=mg t g
 have Y:0<p:=by
  rcases Nat.eq_zero_or_pos p with h|h
  ·rw[h,jE]at aK;have:=Nat.mul_pos f (EN 1022);omega
  exact h
 have B:(FloatKind.f64.format.order (W false p) 0 !=some .eq)=true:=by
  rw[show FloatKind.f64.format.order (W false p) 0=_ from qd Y xaa];rfl
 have R:(binOp .quo 49 (.float .f64 0) (.float .f64 0)).run prog w=_:=kK w 49 0 0;clear aK ah g f Y;go_enter func99,ntmps99;go_wp2;go_ret;refine⟨_,rfl,?_,iE _ _ _ _,_,rfl⟩;rw[ik];decide
theorem A1(s r):W s r=if s then r+9223372036854775808 else r:=by unfold W;rw[Nat.add_comm]
theorem O4(h:r<9223372036854775808):((W s r:Nat):Int)/4503599627370496%2048=((r/4503599627370496:Nat):Int):=by
 rw[A1];split<;>omega
theorem O5(_h:r<9223372036854775808):((W s r:Nat):Int)%4503599627370496=((r%4503599627370496:Nat):Int):=by
 rw[A1];split<;>omega
theorem O6(h:r<9223372036854775808):if s then 9223372036854775808<=((W s r:Nat):Int)else ((W s r:Nat):Int)<9223372036854775808:=by
 rw[A1];cases s
 ·simp only[Bool.false_eq_true,if_false];omega
 simp only[if_true];omega
theorem Nl(h:1023<r/4503599627370496):up (r%4503599627370496+4607182418800017408) (r/4503599627370496-1023)=r:=by
 unfold up;omega
theorem Nm(h:1<=r/4503599627370496)(h':r/4503599627370496<=1023):dn (r%4503599627370496+4607182418800017408) (1023-r/4503599627370496)=r:=by
 unfold dn;omega
theorem oZ{f args}(ay:r<9223372036854775808)(h:Calls prog f args w λe J=>qD s r w e J):
  Calls prog f args w λe J=>∃y,e=.returned (.float .f64 y)/\fb y=fb (W s r)/\y<18446744073709551616/\∃m,J=w.drewN m:=
 h.mono λ_ _ k=>⟨W s r,k.1,rfl,EO ay,0,k.2⟩
theorem zo(b:Nat)(w)(hb:b<18446744073709551616):
  Calls prog 99 #[.int .u64 (b:Int)] w λe J=>∃y,e=.returned (.float .f64 y)/\fb y=fb b/\y<18446744073709551616/\∃m,J=w.drewN m:=by
 obtain⟨s,r,ay,rfl⟩:=jD b hb;have aq:=O4 (s:=s) ay;have ht:=O5 (s:=s) ay;have ad:=O6 (s:=s) ay;have g:r%4503599627370496<4503599627370496:=Nat.mod_lt _ xaa;rcases Nat.lt_or_ge 1023 (r/4503599627370496) with B|B
 ·rcases Nat.lt_or_ge 2046 (r/4503599627370496) with R|R
  ·have u:r/4503599627370496=2047:=xaa;rw[u]at aq;rcases Nat.eq_zero_or_pos (r%4503599627370496) with h3|h3
   ·rw[h3]at ht;have bu:r=9218868437227405312:=xaa;have:=oZ xaa (xC s _ w aq ht ad hb);rw[<-bu]at this;exact this
   rw[qX xaa ay];exact xD _ _ w aq ht g h3 hb
  have:=xz s _ _ _ w aq ht ad hb B R g;rw[Nl B]at this;exact oZ ay this
 rcases Nat.eq_zero_or_pos (r/4503599627370496) with R|R
 ·rw[R]at aq;have bu:r%4503599627370496=r:=xaa;have:=xB s _ _ w aq ht ad hb g;rw[bu]at this;exact oZ ay this
 have:=xA s _ _ _ w aq ht ad hb R B g;rw[Nm R B]at this;exact oZ ay this
end
section
attribute [local go_sem] eG eE
theorem tP(b w):(Op.unary .neg (.float .f64 b)).run prog w=.ok (.float .f64 (Op.negFloat .f64 b)) w:=rfl
theorem A2{b}(h:b<18446744073709551616):Op.negFloat .f64 b<18446744073709551616:=by
 obtain⟨s,r,ay,rfl⟩:=jD b h;rw[uL s ay];exact EO ay
theorem qE(n):floatOfInt .f64 n<18446744073709551616:=by
 have:=floatOfInt_wf .f64 n;simpa[Lit.wf] using this
theorem rV(n):IntKind.u64.wrap n<18446744073709551616:=by rw[IntKind.wrap_u64];omega
theorem Nn(a b)(B:0<=a)(R:a<18446744073709551616)(h3:0<=b)(a8:b<18446744073709551616):∃n:Nat,bits .or .u64 a b=(n:Int)/\n<18446744073709551616:=by
 refine⟨_,u64_or a b B R h3 a8,?_⟩;have:a.toNat|||b.toNat<2 ^ 64:=Nat.or_lt_two_pow xaa xaa
 simpa using this
theorem JU(x):x%16<6\/(6<=x%16/\x%16<9)\/x%16=9\/x%16=10\/x%16=11\/x%16=12\/x%16=13\/x%16=14\/x%16=15:=xaa
theorem sH{S}(w W':World)(xs T)(k:Chg S (w.alloc (.cells xs T)) W')(aT:¬S w.heap.size):(∀o,W'.cell? ⟨w.heap.size,o,none⟩=xs[o]?)/\(∀o,W'.frozen? ⟨w.heap.size,o,none⟩=false)/\w.heap.size<W'.heap.size:=by
 have B:w.heap.size<(w.alloc (.cells xs T)).heap.size:=by simp
 refine⟨λo=>?_,λo=>?_,yaj B k.size⟩
 ·rw[k.cell B aT,yau]
 rw[k.frozen B aT];simp[World.frozen?,World.alloc,-World.alloc_eq]
theorem BW(w a n m cap xs)(h:YS w a n xs)(az:m<=n)(Z:m<=500)(au:(xs.take 500).length=m)(T):
  RdF (w.alloc (.cells #[.slice a m cap,hI 0] T)) w.heap.size a m cap 0 (xs.take 500):=by
 have hb:=sH (S:=λ_=>False) w _ #[.slice a m cap,hI 0] T (hQ).chg (λc=>c);refine⟨hb.2.2,hb.1 0,hb.1 1,hb.2.1 1,Nat.zero_le _,Z,⟨au,λx q=>h.lt x (List.mem_of_mem_take q),?_⟩,?_⟩
 ·rcases h.at_ with q|⟨g,off,e,h3,a8⟩
  ·exact .inl xaa
  refine .inr ⟨g,off,e,yaj h3 (ez 0 0 w _).size,λk O=>?_⟩;rw[(ez 0 0 w _).cell (p:=⟨g,off+k,none⟩) h3 xaa,a8 k xaa];rw[yah,yah,List.getElem?_take,hK xaa]
 intro aj g off e;rcases h.at_ with q|⟨aG,H,C,h3,a8⟩
 ·omega
 rw[e]at C;injection C with C;injection C with ae;omega
theorem No(w a n cap xs)(h:YS w a n xs)(ai:n<=cap):
  Calls prog 12 #[.slice a n cap] w λe J=>e=.returned (hG w.heap.size)/\(∃m,RdF J w.heap.size a m cap 0 (xs.take 500))/\Kept 0 0 w J:=by
 have ah:=h.len;by_cases hn:n<=500
 ·have H:V _:=BW w a n n cap xs h yad hn (by rw[List.length_take];omega) 57;have HK:V _:=ez 0 0 w (.cells #[.slice a n cap,hI 0] 57);clear h;go_enter func12,ntmps12;go_wp2;go_ret;exact⟨rfl,⟨n,H.o⟩,HK.o⟩
 obtain⟨x,rfl⟩:∃x,a=some x:=by
  rcases h.at_ with q|⟨g,off,e,_⟩
  ·omega
  exact⟨_,e⟩
 have H:V _:=BW w (some x) n 500 cap xs h xaa yad (by rw[List.length_take];omega) 57;have HK:V _:=ez 0 0 w (.cells #[.slice (some x) 500 cap,hI 0] 57);have Y:500<=cap:=xaa;have hn:500<n:=xaa;clear h;go_enter func12,ntmps12;go_wp2;go_ret;exact⟨rfl,⟨500,H.o⟩,HK.o⟩
end
section
def l3n (x:Nat):List UInt8:=if x%10<6 then gF (x/10%6)else if x%10=6 then gF x++[46,53]else if x%10=7 then[48,46]++gF x else if x%10=8 then[49]else ([48,48]++gF x)++[46,50,53,48,48]
theorem A3(w P a n cap i bs)(f:RdF w P a n cap i bs):
  Calls prog 130 #[hG P] w λe J=>e=.returned (eN (l3n (nv bs i)))/\RdF J P a n cap (ni bs i) bs/\Kept P (P+1) w J/\J.heap.size=w.heap.size:=by
 have bD:V _:=jp w P a n cap i bs f;have au:=fK f.ys i;generalize nv bs i=x at bD au⊢;have HD:V (∀W:World,Calls prog 57 #[hI x] W λe J=>e=.returned (eN (gF x))/\J=W):=zj x x yad xaa;have g:V (∀W:World,Calls prog 57 #[hI ((x:Int)/10%6)] W λe J=>e=.returned (eN (gF (x/10%6)))/\J=W):=zj (x/10%6) (x/10%6) yad xaa;have HL:V ((gF x).length<=300):=by have:=jT x;show _<=_;omega
 clear f;unfold l3n;rcases (by omega:x%10<6\/x%10=6\/x%10=7\/x%10=8\/x%10=9) with c|c|c|c|c
 ·rw[hK c];have c1:(x:Int)%10<6:=xaa;unfold eN at g⊢;go_enter func130,ntmps130;go_wp2_with (first|(go_at_call 13;refine yai bD.o ?_;rintro e aB ⟨rfl,ay,an,aZ⟩)|(go_at_call 57;refine yai (g.o _) ?_;rintro e af ⟨rfl,rfl⟩));go_ret;exact⟨rfl,ay,an,aZ⟩
 ·rw[hJ xaa,hK c];have c1:(x:Int)%10=6:=xaa;unfold eN at HD⊢;rw[<-tO]
  have bp:¬(9223372036854775807<(⟨(gF x).toArray⟩:ByteArray).size+(⟨#[46,53]⟩:ByteArray).size):=by
   rw[gl];have:=HL.o;simp[ByteArray.size];omega
  exact xeq
 ·rw[hJ xaa,hJ xaa,hK c];have c1:(x:Int)%10=7:=xaa;unfold eN at HD⊢;rw[<-tO]
  have bp:¬(9223372036854775807<(⟨#[48,46]⟩:ByteArray).size+(⟨(gF x).toArray⟩:ByteArray).size):=by
   rw[gl];have:=HL.o;simp[ByteArray.size];omega
  exact xeq
 ·rw[hJ xaa,hJ xaa,hJ xaa,hK c];have c1:(x:Int)%10=8:=xaa;go_enter func130,ntmps130;go_wp2_with (go_at_call 13;refine yai bD.o ?_;rintro e aB ⟨rfl,ay,an,aZ⟩);go_ret;exact⟨rfl,ay,an,aZ⟩
 rw[hJ xaa,hJ xaa,hJ xaa,hJ xaa];have c1:(x:Int)%10=9:=xaa;unfold eN at HD⊢;rw[<-tO,<-tO]
 have bp:¬(9223372036854775807<(⟨#[48,48]⟩:ByteArray).size+(⟨(gF x).toArray⟩:ByteArray).size):=by
  rw[gl];have:=HL.o;simp[ByteArray.size];omega
 have bR:¬(9223372036854775807<((⟨#[48,48]⟩:ByteArray)++(⟨(gF x).toArray⟩:ByteArray)).size+(⟨#[46,50,53,48,48]⟩:ByteArray).size):=by
  rw[yaq,gl];have:=HL.o;simp[ByteArray.size];omega
 generalize (⟨(gF x).toArray⟩:ByteArray)=h at HD bp bR⊢;exact xdg
end
section
attribute [local go_sem] eG eE eD
variable {w W':World}{bA:Array Oper}{lo p hi off I j g i:Nat}{rest:List Oper}{s x:List UInt8}{o:Oper}{v:Value}{U:List (List UInt8)}{a:Act}{ts:List Tok}{b:Option Addr}{Q:Exit->Act->World->Prop}
theorem mC{P}(w)(H:o.guard=none)(s x t)
  (av:o.op=.call {callee:=.builtin .append,args:=#[s,x],argTypes:=#[t,t]})
  (base) (e) (i) (z) (size n) (ht:P.underlying t=some (.slice e)) (hi:P.info? e=some i) (bp:i.zero=some z)
  (y:i.size=size) (r:i.bytes=n) (C:z.cells.size=size) (cc:0<size) (ad:a.eval s=.slice none 0 0)
  (b) (m c) (G) (au:a.eval x=.slice b m c) (ah:G.length=m*size) (q:(b=none/\m=0)\/∃aw,b=some aw/\∀j u,G[j]? =some u->w.cell? (aw.add j)=some u) (B:∀u∈G,u.oneCell'=true)
  (l:m<=maxLen) (F:m*n<=140737488355328) (ae:base<=w.heap.size)
  (h:∀v' J,J.ownsRow base e size v' m G->w.grownBy J none->wpList P bA Q rest (a.put o.dst v') J):wpList P bA Q (o::rest) a w:=by
 rcases q with⟨rfl,rfl⟩|⟨aw,rfl,hn⟩
 ·have f:=List.length_eq_zero_iff.1 (hW ah);subst f
  have ay:(Builtin.append_ #[t,t] o.type #[.slice none 0 0,.slice none 0 c]).run P w=.ok (.slice none 0 0) w:=by
   simp[Builtin.append_,run_underlying ht,sizeOf,typeInfo,hi,Builtin.lenOf,run_firstCells_none]
  refine wpList_plain H λ_ aH=>?_;unfold Oper.wp execOp;simp only[av,resolve,invoke,builtin,Sem.run_bind,Sem.run_pure,Result.andThen_ok,List.map_toArray,List.map_cons,List.map_nil,ad,au,ay];exact aH _ _ (h _ _ (yav w _ e _) ⟨rfl,rfl,rfl,yad,λ_ _ _=>rfl⟩)
 refine wpList_append_own w H s x t av _ e i z _ _ ht hi bp y r C cc _ 0 _ ad (yav w _ e _) _ m c _ au ah hn B xaa (by grind) ae ?_;intro v' J aO aR _;rw[Nat.zero_add,List.nil_append]at aO;exact h _ _ aO aR
theorem kj(g off j):(⟨g,off,none⟩:Addr).add j=⟨g,off+j,none⟩:=by
 simp[Addr.add_lit]
theorem P0{n xs}(h:IS w lo hi b n xs):(b=none/\n=0)\/∃aw,b=some aw/\∀j u,(xs.map (Value.int .i64))[j]? =some u->w.cell? (aw.add j)=some u:=by
 have ah:=h.len;rcases h.at_ with z|⟨g,off,rfl,_,_,_,ai⟩
 ·subst z;have:=List.length_eq_zero_iff.1 ah;subst this;cases b<;>grind
 refine .inr ⟨_,rfl,λj u aJ=>?_⟩;have hj:j<n:=by grind
 rw[kj,ai j hj];simp_all
theorem P1{n vs}(h:VS w lo hi b n vs):(b=none/\n=0)\/∃aw,b=some aw/\∀j u,(fQ vs)[j]? =some u->w.cell? (aw.add j)=some u:=by
 have ah:=h.len;rcases h.at_ with z|⟨g,off,rfl,_,_,_,ai⟩
 ·subst z;have:=List.length_eq_zero_iff.1 ah;subst this;cases b<;>grind [fQ]
 refine .inr ⟨_,rfl,λj u aJ=>?_⟩;have hj:j<n*6:=by grind [qn]
 have t:j=j/6*6+j%6:=xaa;have O:j/6<n:=xaa;rw[t,sB _ _ _ xaa xaa]at aJ;rw[kj];obtain⟨c0,c1,c2,c3,c4,c5⟩:=ai _ O;grind [Vl.cells]
theorem rW(w lo hi' b n c xs)(b8:n<=1000000)(h:IS w lo hi' b n xs):
  Calls prog 147 #[.slice b n c] w λe J=>∃a cap,e=.returned (.slice a n cap)/\J.ownsRow w.heap.size 3 1 (.slice a n cap) n (xs.map (Value.int .i64))/\Kept 0 0 w J:=by
 obtain⟨bK,hi,bU,bO,bR⟩:=info_parts sW;have bD:V _:=P0 h;have bv:V _:=h.len;clear h;go_enter func147,ntmps147;go_wp2_with (first|(at_builtin;refine mC _ rfl _ _ _ rfl w.heap.size 3 _ _ 1 8 underlying23 hi bU bO bR rfl xab rfl b n c _ rfl ?c0 bD.o ?c2 ?c3 ?c4 ?c5 ?_))
 case c0=>rw[List.length_map,bv.o,Nat.mul_one]
 case c2=>intro u aJ;obtain⟨x,_,rfl⟩:=List.mem_map.1 aJ;rfl
 case c3=>unfold maxLen;omega
 case c4=>omega
 case c5=>omega
 intro v' bo bB bw;obtain⟨a,cap,rfl⟩:=l9 bB;have aa:V _:=mx bw (λk O=>by cases O) (Kept.refl 0 0 w) yad;have R2:V _:=bB;clear bB bw;go_wp2;go_ret;exact⟨a,_,rfl,R2.o,aa.o⟩
theorem FU{t k}(O:k<j-i):bt (kZ t i j) k=bt t (i+k):=by
 simp_all [bt,kZ]
def ir (t:List UInt8):List Int:=t.map λb=>(b.toNat:Int)
theorem rn(t k)(h:k<t.length):(ir t).getD k 0=bt t k:=by
 simp_all [ir,bt]
theorem FV(t):strOfNums (ir t)=⟨t.toArray⟩:=by
 simp_all [strOfNums,ir,List.map_congr_left]
theorem kH{n t}(f:TxS w g off n t)(c):(convert 22 9 (.slice (some ⟨g,off,none⟩) n c)).run prog w=.ok (eN t) w:=by
 have hb:prog.underlying 5=some (.int .u8):=by kernel_rfl
 have ad:prog.underlying 9=some .string:=by kernel_rfl
 have h:=run_convert_bytes_arg w 22 5 underlying22 hb g _ n c (ir t) (by unfold ir;rw[List.length_map];exact f.len) (λk O=>by rw[rn t k (hU f.len O)];exact f.at_ k O) 9 ad;rw[FV]at h;exact h
theorem TxS.cut{n t}(f:TxS w g off n t)(hj:j<=n):TxS w g (off+i) (j-i) (kZ t i j):=
 ⟨y7 (hU f.len hj),f.lt,λk O=>by
  rw[FU O,Nat.add_assoc]
  exact f.at_ _ xaa⟩
def om:Array Value:=(keysL.map λl=>eN l).toArray
theorem FW(w):Calls prog 119 #[] w λe J=>e=.returned (hH w.heap.size 15 15)/\w.alloc (.cells om 9)=J:=by
 go_enter func119,ntmps119;go_wp2;go_ret;exact⟨rfl,rfl⟩
def jb (k:Tok):Value:=.agg #[eN k.sym,.int .i64 (k.pos:Int),eN k.text]
def NxO (w:World)(k:Tok)(j:Nat)(e:Ending)(w':World):Prop:=e=.returned (.tuple #[jb k,.int .i64 (j:Int)])/\Kept 0 0 w w'
structure TB (W:World)(p:Nat)(s:List UInt8)(k:Nat)(x:List UInt8):Prop where
 lt:p<W.heap.size
 c0:W.cell? ⟨p,0,none⟩=some (eN s)
 c1:W.cell? ⟨p,1,none⟩=some (.int .i64 (k:Int))
 c2:W.cell? ⟨p,2,none⟩=some (eN x)
 fr:∀o,W.frozen? ⟨p,o,none⟩=false
theorem TB.keep{W k}(h:TB W p s k x)(q:Kept 0 0 W W'):TB W' p s k x:=
 ⟨yaj h.lt q.size,(q.cell (p:=⟨p,0,none⟩) h.lt xaa).trans h.c0,(q.cell (p:=⟨p,1,none⟩) h.lt xaa).trans h.c1,(q.cell (p:=⟨p,2,none⟩) h.lt xaa).trans h.c2,λo=>(q.frozen (p:=⟨p,o,none⟩) h.lt xaa).trans (h.fr o)⟩
theorem TB.sym{W k}(h:TB W p s k x)(z):TB (W.setCell ⟨p,0,none⟩ (eN z)) p z k x:=
 ⟨by simpa using h.lt,fJ _ _ _ _ _ h.c0,(eO _ _ _ _ _ _ (.inr xaa)).trans h.c1,(eO _ _ _ _ _ _ (.inr xaa)).trans h.c2,λo=>by simp[h.fr o]⟩
theorem TB.text{W k}(h:TB W p s k x)(z):TB (W.setCell ⟨p,2,none⟩ (eN z)) p s k z:=
 ⟨by simpa using h.lt,(eO _ _ _ _ _ _ (.inr xaa)).trans h.c0,(eO _ _ _ _ _ _ (.inr xaa)).trans h.c1,fJ _ _ _ _ _ h.c2,λo=>by simp[h.fr o]⟩
theorem TB.posn{W k}(h:TB W p s k x)(z:Nat):TB (W.setCell ⟨p,1,none⟩ (hI z)) p s z x:=
 ⟨by simpa using h.lt,(eO _ _ _ _ _ _ (.inr xaa)).trans h.c0,fJ _ _ _ _ _ h.c1,(eO _ _ _ _ _ _ (.inr xaa)).trans h.c2,λo=>by simp[h.fr o]⟩
theorem TB.other{W q o k}(h:TB W p s k x)(aq:q≠p):TB (W.setCell ⟨q,o,none⟩ v) p s k x:=
 ⟨by simpa using h.lt,(eO _ _ _ _ _ _ (.inl aq)).trans h.c0,(eO _ _ _ _ _ _ (.inl aq)).trans h.c1,(eO _ _ _ _ _ _ (.inl aq)).trans h.c2,λo=>by simp[h.fr o]⟩
theorem it(w:World)(s)(k:Nat)(x):TB (w.alloc (.cells #[eN s,hI k,eN x] 84)) w.heap.size s k x:=
 ⟨by simp,by rw[yau];rfl,by rw[yau];rfl,by rw[yau];rfl,λo=>World.frozen?_alloc_at _ _ w.heap.size o rfl⟩
theorem oq{W}(k:Kept 0 0 w W){o}(h:w.heap.size<=p):Kept 0 0 w (W.setCell ⟨p,o,none⟩ v):=
 Chg.kept (S:=λi=>i=p) k ((eX (lo:=p) (hi:=p+1) W ⟨p,o,none⟩ v yac).chg1 rfl) (λi hi=>by omega)
structure NI (w W:World)(s:List UInt8)(k:Nat)(x:List UInt8):Prop where
 r:TB W w.heap.size [] 0 []
 t:TB W (w.heap.size+1) s k x
 k:Kept 0 0 w W
theorem NI.keep{W k}(h:NI w W s k x)(q:Kept 0 0 W W'):NI w W' s k x:=⟨h.r.keep q,h.t.keep q,h.k.trans q⟩
theorem NI.sym{W k}(h:NI w W s k x)(z):NI w (W.setCell ⟨w.heap.size+1,0,none⟩ (eN z)) z k x:=⟨h.r.other xaa,h.t.sym z,oq h.k xaa⟩
theorem NI.text{W k}(h:NI w W s k x)(z):NI w (W.setCell ⟨w.heap.size+1,2,none⟩ (eN z)) s k z:=⟨h.r.other xaa,h.t.text z,oq h.k xaa⟩
theorem A5(w)(i:Nat):NI w ((w.alloc (.cells #[eN [],hI (0:Nat),eN []] 84)).alloc (.cells #[eN [],hI i,eN []] 84)) [] i []:=by
 refine⟨(it w _ 0 _).keep (ez 0 0 _ _),?_,(ez 0 0 w _).trans (ez 0 0 _ _)⟩;have h:=it (w.alloc (.cells #[eN [],hI (0:Nat),eN []] 84)) [] i [];simp_all
theorem NI.fin{W k}(h:NI w W s k x):TB (((W.setCell ⟨w.heap.size,0,none⟩ (eN s)).setCell ⟨w.heap.size,1,none⟩ (hI k)).setCell ⟨w.heap.size,2,none⟩ (eN x)) w.heap.size s k x/\Kept 0 0 w (((W.setCell ⟨w.heap.size,0,none⟩ (eN s)).setCell ⟨w.heap.size,1,none⟩ (hI k)).setCell ⟨w.heap.size,2,none⟩ (eN x)):=
 ⟨((h.r.sym s).posn k).text x,oq (oq (oq h.k yad) yad) yad⟩
def rX (s:List UInt8)(k:Nat):List UInt8:=if s∈keysL.take k then s else gS
theorem FX(W aB:World)(k)(O:k<15)(h:Kept 0 0 (aB.alloc (.cells om 9)) W):W.cell? ⟨aB.heap.size,k,none⟩=some (eN (keysL.getD k [])):=by
 rw[h.cell xac xaa,yau];have ah:k<keysL.length:=O;show om[k]? =_;unfold om;simp_all
theorem Dl{k}(O:k<15)(h:keysL.getD k []=s):rX s (k+1)=s:=by
 unfold rX;rw[hK];have ah:k<keysL.length:=O;exact xkx
theorem A6{k}(O:k<15)(h:keysL.getD k []≠s):rX s (k+1)=rX s k:=by
 unfold rX;have ah:k<keysL.length:=O;exact xhh
theorem FY{t}(B:j<t.length):gV qx t j=if nQ (bt t j)=true\/dig (bt t j)=true then gV qx t (j+1)else j:=by
 grind [xq,qx,oW]
structure KI (w W:World)(B:Nat)(x:List UInt8)(i k:Nat):Prop where
 n:NI w W (rX x k) i x
 lt:B<W.heap.size
 ne:w.heap.size+1<B
 c:∀q,q<15->W.cell? ⟨B,q,none⟩=some (eN (keysL.getD q []))
theorem FZ{W}(h:NI w W gS i x):KI w (W.alloc (.cells om 9)) W.heap.size x i 0:=
 ⟨h.keep (ez 0 0 W _),by simp,h.t.lt,λq aq=>FX _ W q aq hQ⟩
theorem KI.keep{W k}(h:KI w W I x i k)(q:Kept 0 0 W W'):KI w W' I x i k:=
 ⟨h.n.keep q,yaj h.lt q.size,h.ne,λj hj=>(q.cell (p:=⟨I,j,none⟩) h.lt xaa).trans (h.c j hj)⟩
theorem KI.hit{W k}(h:KI w W I x i k)(O:k<15)(e:keysL.getD k []=x):KI w (W.setCell ⟨w.heap.size+1,0,none⟩ (eN x)) I x i (k+1):=by
 refine⟨?_,by simpa using h.lt,h.ne,λj hj=>(eO _ _ _ _ _ _ (.inl (hR h.ne))).trans (h.c j hj)⟩;rw[Dl O e];exact h.n.sym x
theorem KI.miss{W k}(h:KI w W I x i k)(O:k<15)(e:keysL.getD k []≠x):KI w W I x i (k+1):=by
 refine⟨?_,h.lt,h.ne,h.c⟩;rw[A6 O e];exact h.n
theorem bN.qby(h:Zp:=by
 go_wp2_with (go_at_call 118;refine yai (bi.o _) ?_;rintro e aB ⟨rfl,rfl⟩);clear c0;rename World=>W0
 go_loopw [7] (λaL W=>W=W0/\∃j:Nat,j<=n/\aL=hI j/\V (gV qx t j=E)) (λaL _=>n-(intOf aL).toNat)
 case atStart=>grind
 case round=>
  obtain⟨rfl,j,hj,rfl,ak⟩:=hrel;by_cases ed:j=E
  ·subst ed;by_cases aF:j<n
   ·have c1:=(aP.o _ bD.o.k).at_ j aF;have bx:V _:=ak.o;rw[FY (hU al.o aF)]at bx;have HD:V _:=lC (bt t j) wr;have P:V _:=og (bt t j) wr
    have an:¬(nQ _=true\/dig _=true):=λh=>by
     have B:=bx.o
     rw[hK h]at B
     have:=nz qx t (j+1)
     omega
    have Z:nQ (bt t j)=false:=by grind
    have y:dig (bt t j)=false:=by grind
    rw[Z]at P;rw[y]at HD;clear an Z y bx;generalize bt t j=x at c1 HD P
    go_upto_region 6 with (first
     |(go_at_call 118;refine yai P.o ?_;rintro e aB ⟨rfl,S⟩;obtain rfl:=S.symm)
     |(go_at_call 91;refine yai HD.o ?_;rintro e aB ⟨rfl,S⟩;obtain rfl:=S.symm))
    clear c1 HD P;have bl:V _:=kH ((aP.o _ bD.o.k).cut (i:=i) aI.o.1) (cap-i);have av:=aI.o.2;have bM:(0:Int)<=i:=xaa;have aZ:(i:Int)<=j:=xaa;have be:(j:Int)<=cap:=xaa;have ae:((j:Int)-i).toNat=j-i:=xaa;have aY:=bD.o.t.c2;have bW:=bD.o.t.fr 2;have ai:=bl.o;go_upto_region 7 with fail;change Code.wp _ _ _ _ (wr.setCell _ (eN _));have l:V _:=bD.o.text (kZ t i j);clear bl ai aY bW av bM aZ be ae;generalize wr.setCell _ _=aD at l⊢;generalize au:kZ t i j=x at l⊢;have bv:V _:=au;clear au;have aY:=l.o.t.c0;have bW:=l.o.t.fr 0;go_upto_region 8 with fail;change Code.wp _ _ _ _ (aD.setCell _ (eN gS));have ad:V _:=l.o.sym gS;clear aY bW l;generalize aD.setCell _ _=W2 at ad⊢;go_upto_region 9 with (go_at_call 119;refine yai (FW _) ?_;rintro e aT ⟨rfl,rfl⟩);have aV:V _:=FZ ad.o;generalize W2.alloc _=aT at aV⊢;generalize W2.heap.size=I at aV⊢;clear ad;go_wp2_with fail;go_loopw [9] (λaL W=>∃k:Nat,k<=15/\aL=hI k/\V (KI w W I x i k)) (λaL _=>15-(intOf aL).toNat)
    case atStart=>exact⟨0,by omega,rfl,aV⟩
    case round=>
     exact xbc
   go_upto_region 6 with fail;have bl:V _:=kH ((aP.o _ bD.o.k).cut (i:=i) aI.o.1) (cap-i);have av:=aI.o.2;have bM:(0:Int)<=i:=xaa;have aZ:(i:Int)<=j:=xaa;have be:(j:Int)<=cap:=xaa;have ae:((j:Int)-i).toNat=j-i:=xaa;have aY:=bD.o.t.c2;have bW:=bD.o.t.fr 2;have ai:=bl.o;go_upto_region 7 with fail;change Code.wp _ _ _ _ (wr.setCell _ (eN _));have l:V _:=bD.o.text (kZ t i j);clear bl ai aY bW av bM aZ be ae;generalize wr.setCell _ _=aD at l⊢;generalize au:kZ t i j=x at l⊢;have bv:V _:=au;clear au;have aY:=l.o.t.c0;have bW:=l.o.t.fr 0;go_upto_region 8 with fail;change Code.wp _ _ _ _ (aD.setCell _ (eN gS));have ad:V _:=l.o.sym gS;clear aY bW l;generalize aD.setCell _ _=W2 at ad⊢;go_upto_region 9 with (go_at_call 119;refine yai (FW _) ?_;rintro e aT ⟨rfl,rfl⟩);have aV:V _:=FZ ad.o;generalize W2.alloc _=aT at aV⊢;generalize W2.heap.size=I at aV⊢;clear ad;go_wp2_with fail;go_loopw [9] (λaL W=>∃k:Nat,k<=15/\aL=hI k/\V (KI w W I x i k)) (λaL _=>15-(intOf aL).toNat)
   case atStart=>grind
   case round=>
    exact xbc
  have aF:j<n:=by
   rcases Nat.lt_or_ge j n with c|c
   ·exact c
   exact absurd ((oW (λh=>hR al.o)).symm.trans ak.o) ed
  have c1:=(aP.o _ bD.o.k).at_ j aF;have bx:V _:=ak.o;rw[FY (hU al.o aF)]at bx;have HD:V _:=lC (bt t j) wr;have P:V _:=og (bt t j) wr;generalize bt t j=x at c1 HD P bx;cases Z:nQ x
  ·rw[Z]at P bx;cases y:dig x
   ·rw[y]at bx;exact absurd (by simpa using bx.o) ed
   rw[y]at HD bx;have aa:V (gV qx t (j+1)=E):=by grind
   go_wp2_with (first
    |(go_at_call 118;refine yai P.o ?_;rintro e aB ⟨rfl,rfl⟩)
    |(go_at_call 91;refine yai HD.o ?_;rintro e aB ⟨rfl,rfl⟩))
   grind [intOf]
  rw[Z]at P bx;have aa:V (gV qx t (j+1)=E):=by grind
  go_wp2_with (first
   |(go_at_call 118;refine yai P.o ?_;rintro e aB ⟨rfl,rfl⟩))
  grind [intOf]):Zp:=h
open bN in
theorem Dm(w g off n cap t)(f:TxS w g off n t)(i)(hi:i<n)(hn:n<=1000000)(G:n<=cap)(bO:nQ (bt t i)=true):
  Calls prog 89 #[.slice (some ⟨g,off,none⟩) n cap,hI i] w (NxO w (nxT t i) (nxE t i)):=by
 have aP:V (∀W,Kept 0 0 w W->_):=λW k=>f.keep k;have bP:V (nxT t i=⟨_,i,_⟩):=hK bO;have HE:V (nxE t i=gV _ t i):=hK bO;have aI:V (gV qx t i<=n/\i<=gV qx t i):=⟨by rw[<-f.len];exact lS _ _ _ (hW f.len),nz _ _ _⟩
 have al:V _:=f.len;have aW:=f.lt;have bi:V (∀W,Calls _ _ _ W λe J=>e=.returned (.bool true)/\J=W):=λW=>by rw[<-bO];exact og _ W
 unfold NxO;rw[bP.o,HE.o];obtain⟨E,b2⟩:∃E,E=gV qx t i:=⟨_,rfl⟩
 rw[<-b2]at aI⊢;have HR:V _:=b2.symm;clear b2 bP HE f bO;exact qbx
theorem zp{t E}(h:gV dig t j=E)(hj:j<t.length)(ab:j=E):dig (bt t j)=false:=by
 subst ab;cases c:dig (bt t j)
 ·rfl
 have:=oX hj c;omega
theorem F0{t E}(h:gV dig t j=E)(ab:j≠E):j<t.length/\dig (bt t j)=true/\gV dig t (j+1)=E:=by
 have B:=h;rw[gV]at B;split at B
 ·rename_i c;exact⟨c.1,c.2,B⟩
 exact absurd B ab
theorem F1(w g off n cap t)(f:TxS w g off n t)(i)(hi:i<n)(hn:n<=1000000)(G:n<=cap)(bO:nQ (bt t i)=false)(aV:dig (bt t i)=true):
  Calls prog 89 #[.slice (some ⟨g,off,none⟩) n cap,hI i] w (NxO w (nxT t i) (nxE t i)):=by
 have aP:V (∀W,Kept 0 0 w W->_):=λW k=>f.keep k;have bP:V (nxT t i=⟨tF t i,i,kZ t i (sj t i)⟩):=by show _=_;unfold nxT;rw[bO,hJ xac,hK aV]
 have HE:V (nxE t i=sj t i):=by show _=_;unfold nxE;rw[bO,hJ xac,hK aV]
 have aI:V (gV dig t i<=n/\i<=gV dig t i):=⟨by rw[<-f.len];exact lS _ _ _ (hW f.len),nz _ _ _⟩
 have al:V _:=f.len;have aW:=f.lt;have bi:V (∀W,Calls _ _ _ W λe J=>e=.returned (.bool false)/\J=W):=λW=>by rw[<-bO];exact og _ W
 have an:V (∀W,Calls _ _ _ W λe J=>e=.returned (.bool true)/\J=W):=λW=>by rw[<-aV];exact lC _ W
 have u:V (sj t i=if gV _ t i+1<t.length/\bt t _=46/\dig _=true then gV _ t _ else gV _ t i):=rfl;have am:V (tF t i=if gV _ t i+1<t.length/\bt t _=46/\dig _=true then lg else iK):=rfl;unfold NxO;rw[bP.o,HE.o];obtain⟨E,b2⟩:∃E,E=gV dig t i:=⟨_,rfl⟩
 rw[<-b2]at aI u am;have HR:V _:=b2.symm;clear b2 bP HE f bO aV;generalize sj t i=N at u⊢;generalize tF t i=Y at am⊢;go_enter func89,ntmps89;go_upto_region 3 with fail;have bD:V _:=A5 w i;change Code.wp _ _ _ _ ((w.alloc (.cells #[eN _,.int _ _,eN _] 84)).alloc (.cells #[eN _,hI _,eN _] 84));generalize (w.alloc _).alloc _=W0 at bD⊢;have c0:=(aP.o _ bD.o.k).at_ i hi;generalize bt t i=bL at c0 bi an
 go_upto_region 16 with (first
  |(go_at_call 118;refine yai (bi.o _) ?_;rintro e aB ⟨rfl,S⟩;obtain rfl:=S.symm)
  |(go_at_call 91;refine yai (an.o _) ?_;rintro e aB ⟨rfl,S⟩;obtain rfl:=S.symm))
 have aY:=bD.o.t.c0;have bW:=bD.o.t.fr 0;go_upto_region 17 with fail;change Code.wp _ _ _ _ (W0.setCell _ (eN iK));have ad:V _:=bD.o.sym iK;clear aY bW bD c0;generalize W0.setCell _ _=W2 at ad⊢;go_loopw [7] (λaL W=>W=W2/\∃j:Nat,j<=n/\aL=hI j/\V (gV dig t j=E)) (λaL _=>n-(intOf aL).toNat)
 case atStart=>exact⟨rfl,i,by omega,rfl,HR⟩
 case round=>
  obtain⟨rfl,j,hj,rfl,ak⟩:=hrel;by_cases ed:j=E
  ·by_cases aF:j<n
   ·have c1:=(aP.o _ ad.o.k).at_ j aF;have HD:V _:=lC (bt t j) wr;rw[zp ak.o (hU al.o aF) ed]at HD;subst ed;generalize Z:bt t j=ab at c1 HD u am;go_upto_region 19 with (go_at_call 91;refine yai HD.o ?_;rintro e aB ⟨rfl,S⟩;obtain rfl:=S.symm);by_cases cf:j+1<n
    ·by_cases q:ab=46
     ·have C:V _:=lC (bt t (j+1)) wr;have c2:=(aP.o _ ad.o.k).at_ _ cf;subst q;cases P:dig (bt t (j+1))
      ·have bf:V (Y=iK/\N=j):=⟨am.o.trans (hJ (λh=>by rw[P]at h;exact absurd h.2.2 xac)),u.o.trans (hJ (λh=>by rw[P]at h;exact absurd h.2.2 xac))⟩
       have m:V (i<=j/\j<=n):=⟨aI.o.2,aI.o.1⟩
       rw[P]at C;clear HD Z P u am;generalize bt t _=ah at c2 C;go_upto_region 24 with (go_at_call 91;refine yai C.o ?_;rintro e aB ⟨rfl,S⟩;obtain rfl:=S.symm);clear c1 c2 C;exact xam
      have X:V (Y=lg/\N=gV _ t _):=⟨am.o.trans (hK ⟨hU al.o cf,rfl,P⟩),u.o.trans (hK ⟨hU al.o cf,rfl,P⟩)⟩
      rw[P]at C;clear HD Z P u am;generalize bt t _=ah at c2 C;go_upto_region 20 with (go_at_call 91;refine yai C.o ?_;rintro e aB ⟨rfl,S⟩;obtain rfl:=S.symm);clear c1 c2 C;have aY:=ad.o.t.c0;have bW:=ad.o.t.fr 0;go_upto_region 21 with fail;change Code.wp _ _ _ _ (wr.setCell _ (eN lg));have K:V _:=ad.o.sym lg;clear aY bW ad;generalize wr.setCell _ _=aT at K⊢;have y:V (gV dig t (j+1)<=n/\i<=gV dig t (j+1)):=⟨by rw[<-al.o];exact lS _ _ _ (hW al.o),hS (nz dig t (j+1)) aI.o.2⟩
      obtain⟨F,bu⟩:∃F,F=gV dig t (j+1):=⟨_,rfl⟩
      rw[<-bu]at X y;have ag:V _:=bu.symm;clear bu;go_wp2_with fail;go_loopw [7] (λaL W=>W=aT/\∃j:Nat,j<=n/\aL=hI j/\V (gV dig t j=F)) (λaL _=>n-(intOf aL).toNat)
      case atStart=>exact⟨rfl,j+1,by omega,by go_num,ag⟩
      case round=>
       obtain⟨rfl,k,O,rfl,aH⟩:=hrel;by_cases ee:k=F
       ·by_cases aN:k<n
        ·have c3:=(aP.o _ K.o.k).at_ k aN;have z:V _:=lC (bt t k) wr;rw[zp aH.o (hU al.o aN) ee]at z;subst ee;have bf:V _:=X.o;have m:V (i<=k/\k<=n):=⟨y.o.2,y.o.1⟩
         generalize bt t k=af at c3 z;go_upto_region 24 with (go_at_call 91;refine yai z.o ?_;rintro e aB ⟨rfl,S⟩;obtain rfl:=S.symm);clear c3 z;exact xbn
        subst ee;have bf:V _:=X.o;have m:V (i<=k/\k<=n):=⟨y.o.2,y.o.1⟩
        go_upto_region 24 with fail;exact xbn
       obtain⟨B,R,h3⟩:=F0 aH.o ee;have aN:k<n:=by rw[al.o]at B;exact B
       have c3:=(aP.o _ K.o.k).at_ k aN;have z:V _:=lC (bt t k) wr;rw[R]at z;have aa:V _:=h3;clear B R h3;generalize bt t k=af at c3 z;go_wp2_with (go_at_call 91;refine yai z.o ?_;rintro e aB ⟨rfl,S⟩;obtain rfl:=S.symm);exact xdf
     have bf:V (Y=iK/\N=j):=⟨am.o.trans (hJ (λh=>q h.2.1)),u.o.trans (hJ (λh=>q h.2.1))⟩
     have m:V (i<=j/\j<=n):=⟨aI.o.2,aI.o.1⟩
     have ao:(ab==46)=false:=by simpa using q
     clear HD Z u am q;exact xbl
    have bf:V (Y=iK/\N=j):=⟨am.o.trans (hJ (λh=>hR al.o)),u.o.trans (hJ (λh=>hR al.o))⟩
    have m:V (i<=j/\j<=n):=⟨aI.o.2,aI.o.1⟩
    clear HD Z u am;exact xbl
   subst ed;have bf:V (Y=iK/\N=j):=⟨am.o.trans (hJ (λh=>hR al.o)),u.o.trans (hJ (λh=>hR al.o))⟩
   have m:V (i<=j/\j<=n):=⟨aI.o.2,aI.o.1⟩
   clear u am;go_upto_region 19 with fail;go_upto_region 24 with fail;exact xam
  obtain⟨B,R,h3⟩:=F0 ak.o ed;have aF:j<n:=by rw[al.o]at B;exact B
  have c1:=(aP.o _ ad.o.k).at_ j aF;have HD:V _:=lC (bt t j) wr;rw[R]at HD;have aa:V _:=h3;clear B R h3;generalize bt t j=af at c1 HD;go_wp2_with (go_at_call 91;refine yai HD.o ?_;rintro e aB ⟨rfl,S⟩;obtain rfl:=S.symm);exact xix
def xE (x:UInt8)(k:Nat):List UInt8:=if x∈onesL.take k then[x] else[]
theorem F2{x k}(O:k<10)(h:onesL.getD k 0=x):xE x (k+1)=[x]:=by
 unfold xE;rw[hK];have ah:k<onesL.length:=O;exact xkx
theorem Dn{x k}(O:k<10)(h:onesL.getD k 0≠x):xE x (k+1)=xE x k:=by
 unfold xE;have ah:k<onesL.length:=O;exact xhh
abbrev onesS:ByteArray:={data:=#[43,45,42,47,40,41,44,59,58,61]}
theorem F3:∀k:Fin 10,onesS.extract k.1 (k.1+1)=⟨#[onesL.getD k.1 0]⟩:=by decide+kernel
theorem F4:∀k:Fin 10,∀h,((onesS[k.1]'h).toNat:Int)=bt onesL k.1:=by decide+kernel
theorem JV(k)(O:k<10)(h):((onesS[k]'h).toNat:Int)=bt onesL k:=F4 ⟨k,O⟩ h
theorem bO.qby(h:Zp:=by
 have aK:V _:=λW k=>(aP.o W k).at_ i hi;generalize bt t i=bL at c0 bi an ay aK
 go_upto_region 26 with (first
  |(go_at_call 118;refine yai (bi.o _) ?_;rintro e aB ⟨rfl,S⟩;obtain rfl:=S.symm)
  |(go_at_call 91;refine yai (an.o _) ?_;rintro e aB ⟨rfl,S⟩;obtain rfl:=S.symm))
 clear c0 bi an aP;go_wp2_with fail;go_loopw [11] (λaL W=>∃k:Nat,k<=10/\aL=hI k/\V (NI w W (xE X k) i (xE X k))) (λaL _=>10-(intOf aL).toNat)
 case atStart=>exact⟨0,by omega,rfl,bD⟩
 case round=>
  obtain⟨k,O,rfl,bB⟩:=hrel;by_cases l:k<10
  ·have c1:=aK.o _ bB.o.k
   have bQ:V (onesL.getD k 0=X↔bt onesL k=bL):=by
    show _↔_;rw[ay.o];unfold bt;constructor
    ·grind
    intro h;exact UInt8.toNat_inj.1 xaa
   have bV:∀h,_:=λh=>JV k l h;have au:onesS.extract k (k+1)=⟨#[onesL.getD k 0]⟩:=F3 ⟨k,l⟩;generalize bt _ k=y at bQ bV;go_upto_region 30 with fail;go_quiet (fail)
   have bX:V _:=bB.o.keep (eM 0 0 _ nq);clear c1 bB;generalize wr.drewN _=b4 at bX⊢;have bh:=bX.o.t.c0;have aU:=bX.o.t.fr 0;have aY:=bX.o.t.c2;have bW:=bX.o.t.fr 2;cases aq:(y==bL)
   ·have az:onesL.getD k 0≠X:=λc=>by have:=bQ.o.1 c;rw[this]at aq;simp at aq
    have aa:V _:=bX.o;rw[<-Dn l az]at aa;clear bX az au bh aU aY bW;go_wp2_with fail;grind [intOf]
   have az:=bQ.o.2 (by simpa using aq);have aa:V _:=(bX.o.sym [X]).text [X];rw[az]at au;have C:=F2 l az;have ad:V _:=C;have cd:V (eN [X]=.string _):=rfl;generalize xE _ k=s0 at bh aY bX;clear bX az C;have aZ:IntKind.i64.wrap (k+1)=k+1:=by rw[IntKind.wrap_i64];omega
   have be:(0:Int)<=k:=xaa;have bz:(k:Int)+1<=10:=xaa;go_wp2_with fail;go_roundw
   case rel=>exact⟨k+1,by omega,by go_num,hU ad.o aa⟩
   case measure=>simp[intOf];omega
  obtain rfl:k=10:=xaa;have u:V _:=bB.o;rw[show xE _ _=lB _ from rfl]at u;generalize z:lB _=F at u;have am:V _:=z;clear z;obtain⟨_,bn,aC,a0,aj⟩:=u.o.r;obtain⟨_,bj,aQ,a6,r⟩:=u.o.t;have bq:=aj 0;have br:=aj 1;have bC:=aj 2;have aa:V _:=u.o.fin;have aZ:IntKind.i64.wrap (i+1)=i+1:=by rw[IntKind.wrap_i64];omega
  clear bB aj r u;go_wp2_with fail;change bodyPost _ _ _ _ _ (((wr.setCell _ (eN _)).setCell _ _).setCell _ (eN _));generalize ((wr.setCell _ _).setCell _ _).setCell _ _=b1 at aa⊢;obtain⟨⟨_,bG,f1,f2,_⟩,H⟩:=aa.o;refine yay (v:=.tuple #[.agg #[eN F,hI i,eN F],hI ((i:Int)+1)]) (by simp[results,results89,go_sem,bG,f1,f2]) rfl ⟨?_,H⟩;rw[am.o,Int.natCast_add];rfl):Zp:=h
open bO in
theorem Do(w g off n cap t)(f:TxS w g off n t)(i)(hi:i<n)(hn:n<=1000000)(bO:nQ (bt t i)=false)(aV:dig (bt t i)=false):
  Calls prog 89 #[.slice (some ⟨g,off,none⟩) n cap,hI i] w (NxO w (nxT t i) (nxE t i)):=by
 have aP:V (∀W,Kept 0 0 w W->_):=λW k=>f.keep k;have bP:V (nxT t i=⟨lB (t.getD i 0),i,lB (t.getD i 0)⟩):=by show _=_;unfold nxT;simp_all
 have HE:V (nxE t i=i+1):=by show _=_;unfold nxE;simp_all
 have aW:=f.lt;have bi:V (∀W,Calls _ _ _ W λe J=>e=.returned (.bool false)/\J=W):=λW=>by rw[<-bO];exact og _ W
 have an:V (∀W,Calls _ _ _ W λe J=>e=.returned (.bool false)/\J=W):=λW=>by rw[<-aV];exact lC _ W
 have ay:V (bt t i=((t.getD i 0).toNat:Int)):=rfl;unfold NxO;rw[bP.o,HE.o];clear bP HE f bO aV;generalize t.getD i 0=X at ay⊢;exact qbx
theorem Np(w g off n cap t)(f:TxS w g off n t)(i)(hi:i<n)(hn:n<=1000000)(G:n<=cap):
  Calls prog 89 #[.slice (some ⟨g,off,none⟩) n cap,hI i] w (NxO w (nxT t i) (nxE t i)):=by
 cases bO:nQ (bt t i)
 ·cases aV:dig (bt t i)
  ·exact Do w g _ n _ t f i hi hn bO aV
  exact F1 w g _ n _ t f i hi hn G bO aV
 exact Dm w g _ n _ t f i hi hn G bO
def tkc (k:Tok):List Value:=[eN k.sym,.int .i64 (k.pos:Int),eN k.text]
def tkF:List Tok->List Value
 |[]=>[]
 |k::r=>tkc k++tkF r
theorem JW(a b):tkF (a++b)=tkF a++tkF b:=by
 induction a<;>grind [tkF]
theorem JX(k):tkF [k]=tkc k:=by simp[tkF]
theorem F5:∀(a:List Tok) (k j:Nat),k<a.length->j<3->(tkF a)[k*3+j]? =(tkc (a.getD k hN))[j]?
 |x::r,0,j,_,hj=>by
  grind [tkF,tkc]
 |x::r,k+1,j,O,hj=>by
  have au:(tkc x).length=3:=rfl
  rw[tkF,yar xaa,au,show(k+1)*3+j-3=k*3+j by omega]
  exact F5 r k j (by grind) hj
def TR (W:World)(B:Nat)(v:Value)(ts:List Tok):Prop:=W.ownsRow B 84 3 v ts.length (tkF ts)
theorem TR.keep{W}(f:TR W I v ts)(k:Kept 0 0 W W'):TR W' I v ts:=e8 f k
theorem TR.nil(W I):TR W I (.slice none 0 0) []:=yav _ _ _ _
theorem TR.blk{W}(f:TR W I v ts)(h:v.ownBlock=some g):I<=g/\g<W.heap.size:=eI f h
structure TkA (w:World)(g off n:Nat)(ts:List Tok):Prop where
 len:ts.length=n
 lt:g<w.heap.size
 c0:∀k,k<n->w.cell? ⟨g,off+k*3,none⟩=some (eN (ts.getD k hN).sym)
 c1:∀k,k<n->w.cell? ⟨g,off+k*3+1,none⟩=some (.int .i64 ((ts.getD k hN).pos:Int))
 c2:∀k,k<n->w.cell? ⟨g,off+k*3+2,none⟩=some (eN (ts.getD k hN).text)
theorem TR.at_{W}(f:TR W I v ts)(h:0<ts.length):∃g cap,v=hH g ts.length cap/\I<=g/\TkA W g 0 ts.length ts/\ts.length<=cap:=by
 rcases f.2 with⟨_,c⟩|⟨g,cap,H,rfl,N,aA,ab,_,b9,cn⟩
 ·omega
 have aW:g<W.heap.size:=by grind
 have aw:∀k j,k<ts.length->j<3->W.cell? _=(tkc _)[j]?:=λk j O hj=>by
  rw[cell_of_row W g _ _ _ _ aA,<-Array.getElem?_toList]
  have:(H.toList.take (ts.length*3))[k*3+j]? =(tkF ts)[k*3+j]?:=by rw[cn]
  rw[List.getElem?_take_of_lt xaa]at this
  rw[this]
  exact F5 _ k j O hj
 refine⟨g,_,rfl,N,⟨rfl,aW,λk O=>?_,λk O=>?_,λk O=>?_⟩,ab⟩
 ·rw[Nat.zero_add];exact aw k 0 O xaa
 ·rw[Nat.zero_add];exact aw k 1 O xaa
 rw[Nat.zero_add];exact aw k 2 O xaa
theorem Nq:(prog.info? 84).map (λi=>(i.zero,i.size,i.bytes))=some (some (.agg #[.string ⟨#[]⟩,hI 0,.string ⟨#[]⟩]),3,40):=by kernel_rfl
theorem xF:∃bK,prog.info? 84=some bK/\bK.zero=some (.agg #[.string ⟨#[]⟩,hI 0,.string ⟨#[]⟩])/\bK.size=3/\bK.bytes=40:=by
 have h:=Nq;simp_all
theorem zt(w:World)(k T):∀j u,(tkc k)[j]? =some u->(w.alloc (.cells #[eN k.sym,hI k.pos,eN k.text] T)).cell? ((⟨w.heap.size,0,none⟩:Addr).add j)=some u:=by
 intro j u h;rw[kj,Nat.zero_add,yau];match j,h with
 |0,h=>exact h
 |1,h=>exact h
 |2,h=>exact h
theorem ot(w)(H:o.guard=none)(s x)
  (av:o.op=.call {callee:=.builtin .append,args:=#[s,x],argTypes:=#[80,80]})
  (I) (v) (ts) (ad:a.eval s=v) (aT:TR w I v ts)
  (aw) (k) (au:a.eval x=.slice (some aw) 1 1) (f:∀j u,(tkc k)[j]? =some u->w.cell? (aw.add j)=some u)
  (l:ts.length+1<=1000000) (ae:I<=w.heap.size)
  (h:∀g cap n J,n=(ts++[k]).length->TR J I (hH g n cap) (ts++[k])->Chg (λb=>v.ownBlock=some b) w J->(v.ownBlock=some g\/g=w.heap.size)->wpList prog bA Q rest (a.put o.dst (hH g n cap)) J):wpList prog bA Q (o::rest) a w:=by
 obtain⟨bK,hi,bU,bO,bR⟩:=xF;refine wpList_append_lies w H s x _ av I 84 _ _ 3 _ underlying80 hi bU bO bR rfl xab v _ _ ad aT _ 1 1 _ au rfl f ?_ xab (by unfold maxLen;omega) xaa ae _ rfl ?_
 ·intro u aJ;simp[tkc]at aJ;rcases aJ with rfl|rfl|rfl<;>rfl
 intro g cap J B R h3 _;have e:ts.length+1=(ts++[k]).length:=by grind
 rw[e]at B⊢;refine h g _ _ _ rfl ?_ (i7 R) h3;unfold TR;rw[JW,JX];exact B
theorem BX{W}(aS:w.heap.size<=I)(k:Kept 0 0 w W)(f:TR W I v ts)(c:Chg (λb=>v.ownBlock=some b) W W'):Kept 0 0 w W':=
 Chg.kept k c (λ_ hi=>yan aS (f.blk hi).1)
theorem F6(w g off n cap t)(f:TxS w g off n t)(hn:n<=100000)(G:n<=cap):
  Calls prog 53 #[.slice (some ⟨g,off,none⟩) n cap] w λe J=>∃v,e=.returned v/\TR J w.heap.size v (jH t)/\Kept 0 0 w J:=by
 have aP:V (∀W,Kept 0 0 w W->_):=λW k=>f.keep k;have aw:V _:=FH w g _ n cap t f 0 xaa xaa;have al:V _:=f.len;have a5:V (skM t 0<=n):=by show _<=_;rw[<-f.len];exact xr t 0 (Nat.zero_le _)
 clear f;obtain⟨A,a7⟩:∃A,A=jH t:=⟨_,rfl⟩
 rw[<-a7];have bf:V ([]++kT t _=A):=a7.symm;clear a7;go_enter func53,ntmps53;go_wp2_with (go_at_call 88;refine yai aw.o ?_;rintro e aB ⟨rfl,S⟩;obtain rfl:=S.symm);go_loopw [3,4] (λv aL W=>∃(k:Nat) (l:List Tok),k<=n/\l.length<=k/\aL=hI k/\V (TR W w.heap.size v l)/\V (Kept 0 0 w W)/\V (l++kT t k=A)) (λ_ aL _=>n-(intOf aL).toNat)
 case atStart=>exact⟨_,_,a5.o,Nat.zero_le _,rfl,TR.nil _ _,Kept.refl 0 0 w,bf⟩
 case round=>
  obtain⟨k,l,O,z,rfl,C,aH,bi⟩:=hrel;by_cases aF:k<n
  ·have m:k<t.length:=by rw[al.o];exact aF
   have bv:V _:=Np _ g _ n _ t (aP.o _ aH.o) k aF xaa G;have aI:V (k<nxE t k/\nxE t k<=n/\nxE t k<=skM t _/\skM t _<=n):=⟨tG m,by rw[<-al.o];exact FF m,pK _ _,by rw[<-al.o];exact xr t _ (FF m)⟩
   have r:V ((nxT t k).sym=[]->l++[nxT t k]=A):=λh=>by rw[<-bi.o,Dg m h]
   have aZ:V ((nxT t k).sym≠[]->(l++[nxT t k])++kT t (skM t (nxE t k))=A):=λh=>by rw[<-bi.o,FG m h];simp
   unfold NxO jb at bv;generalize nxT t k=K at bv r aZ;have cz:V _:=λW ap=>FH W g _ n cap t (aP.o W ap) _ aI.o.2.1 xaa;generalize nxE t k=ne at bv aI aZ cz;generalize skM t _=y at aI aZ cz;have u:V _:=λaf:World=>zt af K 84;obtain⟨a0,aS,bp⟩:=K;simp only at bv r aZ u;clear bi m
   go_wp2_with (first
    |(go_at_call 89;refine yai bv.o ?_;rintro e af ⟨rfl,ao⟩)
    |(at_builtin;refine ot _ rfl _ _ rfl _ _ _ rfl ((C.o.keep ao).keep ((ez 0 0 _ _).trans (ez 0 0 _ _))) _ ⟨a0,aS,bp⟩ rfl ?c1 ?c2 ?c3 ?_)
    |fail)
   case c1=>
    have bV:=u.o (af.alloc (.cells #[eN a0,hI aS,eN bp] 84));rw[show(af.alloc _).heap.size=af.heap.size+1 by simp]at bV;exact bV
   case c2=>omega
   case c3=>have:=aH.o.size;have:=ao.size;simp;omega
   intro g9 cap9 n9 bo bS bZ ag cj;have R1:V _:=bZ;have q:=(aH.o.trans ao).trans ((ez 0 0 _ (.cells #[eN a0,hI aS,eN bp] 84)).trans (ez 0 0 _ (.cells #[eN a0,hI aS,eN bp] 84)));have R2:V _:=BX yad q ((C.o.keep ao).keep ((ez 0 0 _ _).trans (ez 0 0 _ _))) ag
   have B:bo.cell? ⟨af.heap.size,0,none⟩=some (eN a0):=by
    rw[ag.cell yaf (λc=>by have:=(C.o.blk c).2;have:=ao.size;simp at*;omega),(ez 0 0 _ _).cell xac xaa,yau];rfl
   clear bZ ag cj bS q;cases ad:(a0==[])
   ·have bT:a0≠[]:=by intro c;rw[c]at ad;simp at ad
    have R3:V _:=aZ.o bT;have b0:V _:=cz.o _ R2.o;have b4:(l++[(⟨a0,aS,bp⟩:Tok)]).length=l.length+1:=by simp
    clear bT;go_wp2_with (go_at_call 88;refine yai b0.o ?_;rintro e N ⟨rfl,S⟩;obtain rfl:=S.symm);go_roundw
    case rel=>exact⟨_,_,aI.o.2.2.2,by rw[b4];have:=aI.o;omega,rfl,R1,R2,R3⟩
    case measure=>simp[intOf];have:=aI.o;omega
   have ab:a0=[]:=by simpa using ad
   have R3:V _:=r.o ab;rw[R3.o]at R1;clear ab;go_wp2_with fail;go_ret;exact⟨_,rfl,R1.o,R2.o⟩
  rw[Df (hU al.o aF),List.append_nil]at bi;obtain rfl:=bi.o;go_wp2_with fail;go_ret;exact⟨_,rfl,C.o,aH.o⟩
def WB (W:World)(B:Nat)(v:Value)(ss:List (List UInt8)):Prop:=W.ownsRow B 9 1 v ss.length (ss.map λl=>eN l)
theorem WB.keep{W}(f:WB W I v U)(k:Kept 0 0 W W'):WB W' I v U:=e8 f k
theorem WB.blk{W}(f:WB W I v U)(h:v.ownBlock=some g):I<=g/\g<W.heap.size:=eI f h
theorem JY:(prog.info? 9).map (λi=>(i.zero,i.size,i.bytes))=some (some (.string ⟨#[]⟩),1,16):=by kernel_rfl
theorem uE:∃bK,prog.info? 9=some bK/\bK.zero=some (.string ⟨#[]⟩)/\bK.size=1/\bK.bytes=16:=by
 have h:=JY;simp_all
def WC (w:World)(a:Addr)(ss:List (List UInt8)):Prop:=∀j x,ss[j]? =some x->w.cell? (a.add j)=some (eN x)
theorem WC.news{a}(h:WC w a U):∀j u,(U.map λl=>eN l)[j]? =some u->w.cell? (a.add j)=some u:=by
 intro j u aJ;rw[List.getElem?_map]at aJ;cases e:U[j]? with
 |none=>grind
 |some x=>rw[e]at aJ;cases aJ;exact h j x e
theorem WB.at_{W}(f:WB W I v U)(h:0<U.length):∃g cap,v=hH g U.length cap/\I<=g/\g<W.heap.size/\WC W ⟨g,0,none⟩ U/\U.length<=cap:=by
 have ai:=f;rcases f.2 with⟨_,c⟩|⟨g,cap,H,e,N,aA,ab,_,b9,cn⟩
 ·omega
 have aW:g<W.heap.size:=by grind
 refine⟨g,_,e,N,aW,λj x au=>?_,ab⟩;subst e;exact World.ownsRow.cells ai rfl j _ (by grind)
theorem tQ(w)(H:o.guard=none)(s x)
  (av:o.op=.call {callee:=.builtin .append,args:=#[s,x],argTypes:=#[92,92]})
  (I) (v) (U) (ad:a.eval s=v) (aT:WB w I v U)
  (aw) (m c) (bd) (au:a.eval x=.slice (some aw) m c) (ah:bd.length=m) (f:WC w aw bd)
  (az:0<m) (l:U.length+m<=1000000) (ae:I<=w.heap.size)
  (h:∀g cap n J,n=(U++bd).length->WB J I (hH g n cap) (U++bd)->Chg (λb=>v.ownBlock=some b) w J->(v.ownBlock=some g\/g=w.heap.size)->wpList prog bA Q rest (a.put o.dst (hH g n cap)) J):wpList prog bA Q (o::rest) a w:=by
 obtain⟨bK,hi,bU,bO,bR⟩:=uE;refine wpList_append_lies w H s x _ av I 9 _ _ 1 _ underlying92 hi bU bO bR rfl xab v _ _ ad aT _ m c _ au (by grind) f.news ?_ az (by unfold maxLen;omega) xaa ae _ rfl ?_
 ·intro u aJ;obtain⟨x,_,rfl⟩:=List.mem_map.1 aJ;rfl
 intro g cap J B R h3 _;have e:U.length+m=(U++bd).length:=by grind
 rw[e]at B⊢;refine h g _ _ _ rfl ?_ (i7 R) h3;unfold WB;grind
