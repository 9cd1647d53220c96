import Derived.Test.YtamokkcfibdghaaGreatP00
import Derived.Test.YtamokkcfibdghaaGreatRows
namespace Go.Proofs.Z
open Tryz
set_option maxRecDepth 1000000
set_option maxHeartbeats 0
section
open Go.ChangeShapes Go.WideShapes Go.ChangeAt Go.RowKit
theorem own:ownKnob prog.godebug=none:=by kernel_rfl
theorem eG(w:World)(n o):(w.drewN n).alloc o=(w.alloc o).drewN n:=rfl
theorem eE(w:World)(n a v):(w.drewN n).setCell a v=(w.setCell a v).drewN n:=rfl
end
section
variable {s t u:Bool}{x r a y b q p:Nat}
namespace Flt
open Ieee
def W (s:Bool)(r:Nat):Nat:=if s then 9223372036854775808+r else r
def M (r:Nat):Nat:=if r<4503599627370496 then r else 4503599627370496+r%4503599627370496
def E (r:Nat):Nat:=r/4503599627370496-1
def val (r:Nat):Nat:=M r*2 ^ E r
def p2 (n:Nat):Nat:=2 ^ n
theorem BD(n):2 ^ n=p2 n:=rfl
theorem kU(a b):p2 (a+b)=p2 a*p2 b:=Nat.pow_add 2 a b
theorem EN(a):0<p2 a:=Nat.two_pow_pos a
theorem vX(a):p2 (a+1)=2*p2 a:=by unfold p2;rw[Nat.pow_succ,Nat.mul_comm]
theorem nT(r):val r=M r*p2 (E r):=rfl
def sg (s:Bool)(n:Nat):Int:=if s then -(n:Int)else (n:Int)
theorem oJ:double.binade=4503599627370496:=xab
theorem vY:double.signWeight=9223372036854775808:=xab
theorem sP:double.infRung=9218868437227405312:=xab
theorem pY:double.leastPlace=-1074:=xab
theorem vZ:double.fractionBits=52:=rfl
theorem oK(s r):double.word s r=W s r:=by
 unfold Format.word W;rw[vY]
theorem jD(x)(au:x<18446744073709551616):∃s r,r<9223372036854775808/\x=W s r:=by
 by_cases h:x<9223372036854775808
 ·exact⟨false,x,h,rfl⟩
 refine⟨true,x-9223372036854775808,by omega,?_⟩;unfold W;simp only[if_true];omega
theorem EO(h:r<9223372036854775808):W s r<18446744073709551616:=by
 unfold W;split<;>omega
theorem Lw(h:r<9223372036854775808):W s r%9223372036854775808=r:=by
 unfold W;split<;>omega
theorem Lx(h:r<9223372036854775808):(W s r/9223372036854775808%2==1)=s:=by
 unfold W;cases s
 ·have:r/9223372036854775808=0:=xaa;simp[this]
 have:(9223372036854775808+r)/9223372036854775808=1:=xaa;simp[this]
theorem OE(ay:r<9223372036854775808)(aq:q<9223372036854775808)(h:W s r=W t q):s=t/\r=q:=by
 unfold W at h;cases s<;>cases t<;>simp only[if_true,Bool.false_eq_true,if_false]at h
 ·exact⟨rfl,h⟩
 ·omega
 ·omega
 exact⟨rfl,by omega⟩
theorem gW(h:r<9218868437227405312):double.read (W s r)=.number s (M r) (-1074+(E r:Nat)):=by
 have ay:r<9223372036854775808:=xaa;unfold Format.read;simp only[vY,sP,oJ,pY,Lw ay,Lx ay];unfold M E;by_cases B:r<4503599627370496
 ·rw[hK B,hK B];have:r/4503599627370496=0:=xaa;rw[this];rfl
 rw[hJ B,hK h,hJ B]
theorem kJ:double.read (W s 9218868437227405312)=.infinity s:=by
 cases s<;>decide
theorem nU(h:9218868437227405312<r)(ay:r<9223372036854775808):double.read (W s r)=.nan s (r-9218868437227405312):=by
 unfold Format.read;simp only[vY,sP,oJ,pY,Lw ay,Lx ay];rw[hJ xaa,hJ xaa,hJ xaa]
theorem OF(h:4503599627370496<=r):4503599627370496<=M r:=by
 unfold M;rw[hJ xaa];omega
theorem OG(r):M r<9007199254740992:=by
 unfold M;split<;>omega
theorem Ly(h:0<r):0<M r:=by
 unfold M;split<;>omega
theorem L9:M 0=0:=rfl
theorem BE(h:r<9007199254740992):E r=0:=by
 unfold E;omega
theorem oL(h:r<9007199254740992):val r=r:=by
 unfold val;rw[BE h,Nat.pow_zero,Nat.mul_one];unfold M;split<;>omega
theorem v6(r):E r*4503599627370496+M r=r:=by
 unfold E M;split<;>omega
theorem mJ(h:a<=b):2 ^ a<=2 ^ b:=Nat.pow_le_pow_right xaa h
theorem qT(h:r<q):val r<val q:=by
 by_cases ab:E r=E q
 ·unfold val;rw[ab];have B:=v6 r;have R:=v6 q;rw[ab]at B;exact Nat.mul_lt_mul_of_pos_right xaa (Nat.two_pow_pos _)
 have b2:E r<E q:=by
  have:E r<=E q:=by unfold E;omega
  omega
 have aq:4503599627370496<=q:=by unfold E at b2;omega
 have a:=OF aq;have b:=OG r;have c:2 ^ (E r+1)<=2 ^ E q:=mJ b2;have p:0<2 ^ E r:=Nat.two_pow_pos _;unfold val
 calc M r*2 ^ E r<9007199254740992*2 ^ E r:=Nat.mul_lt_mul_of_pos_right b p
  _=4503599627370496*2 ^ (E r+1):=hW Nat.pow_succ
  _<=4503599627370496*2 ^ E q:=Nat.mul_le_mul_left _ c
  _<=M q*2 ^ E q:=Nat.mul_le_mul_right _ a
theorem Ma(h:r<=q):val r<=val q:=by
 rcases Nat.lt_or_eq_of_le h with h|h
 ·exact Nat.le_of_lt (qT h)
 rw[h];exact yad
theorem val_lt_iff:val r<val q↔r<q:=
 ⟨λh=>by rcases Nat.lt_or_ge r q with B|B;exact B;have:=Ma B;omega,qT⟩
theorem sp(h:val r=val q):r=q:=by
 rcases Nat.lt_trichotomy r q with B|B|B
 ·have:=qT B;omega
 ·exact B
 have:=qT B;omega
theorem jE:val 0=0:=rfl
theorem v7(h:0<r):0<val r:=by have:=qT h;rw[jE]at this;exact this
theorem oM(s m k):signed s m k=sg s (m*2 ^ k):=by
 unfold signed sg;rw[Nat.shiftLeft_eq]
theorem qU(s a b):sg s (a*b)=sg s a*(b:Int):=by
 unfold sg;cases s
 ·simp
 simp[Int.neg_mul]
theorem pw(x y)(k:Nat)(O:0<k):compare (x*(k:Int)) (y*(k:Int))=compare x y:=by
 have ae:(0:Int)<k:=xaa;rcases Int.lt_trichotomy x y with h|h|h
 ·rw[Int.compare_eq_lt.2 h];exact Int.compare_eq_lt.2 (Int.mul_lt_mul_of_pos_right h ae)
 ·subst h;rw[Int.compare_eq_eq.2 rfl,Int.compare_eq_eq.2 rfl]
 rw[Int.compare_eq_gt.2 h];exact Int.compare_eq_gt.2 (Int.mul_lt_mul_of_pos_right h ae)
theorem qV(ay:r<9218868437227405312)(aq:q<9218868437227405312):
  double.order (W s r) (W t q)=some (compare (sg s (val r)) (sg t (val q))):=by
 unfold Format.order;rw[gW ay,gW aq];simp only[Datum.order,Option.some.injEq];rw[oM,oM];rcases Nat.le_total (E r) (E q) with h|h
 ·have ae:min (-1074+(E r:Int)) (-1074+(E q:Int))=-1074+(E r:Int):=xaa;rw[ae];have a9:(-1074+(E r:Int)-(-1074+(E r:Int))).toNat=0:=xaa;have ak:(-1074+(E q:Int)-(-1074+(E r:Int))).toNat=E q-E r:=xaa;rw[a9,ak,<-pw _ _ (2 ^ E r) (Nat.two_pow_pos _),<-qU,<-qU];exact xkb
 have ae:min (-1074+(E r:Int)) (-1074+(E q:Int))=-1074+(E q:Int):=xaa;rw[ae];have a9:(-1074+(E q:Int)-(-1074+(E q:Int))).toNat=0:=xaa;have ak:(-1074+(E r:Int)-(-1074+(E q:Int))).toNat=E r-E q:=xaa;rw[a9,ak,<-pw _ _ (2 ^ E q) (Nat.two_pow_pos _),<-qU,<-qU];exact xkb
theorem lZ(h:∃s t,double.read x=.nan s t):double.order x y=none:=by
 obtain⟨s,t,h⟩:=h;unfold Format.order;rw[h];rfl
theorem nH(h:∃s t,double.read y=.nan s t):double.order x y=none:=by
 obtain⟨s,t,h⟩:=h;unfold Format.order;rw[h];cases double.read x<;>rfl
theorem m7{m k}(az:0<m):(m*2 ^ k).log2=m.log2+k:=by
 have aj:m*2 ^ k≠0:=Nat.ne_of_gt (Nat.mul_pos az (Nat.two_pow_pos _));rw[Nat.log2_eq_iff aj];have a:=Nat.log2_self_le (n:=m) xaa;have b:=@Nat.lt_log2_self m;refine⟨?_,?_⟩
 ·rw[Nat.pow_add];exact Nat.mul_le_mul_right _ a
 rw[show m.log2+k+1=(m.log2+1)+k by omega,Nat.pow_add];exact Nat.mul_lt_mul_of_pos_right b (Nat.two_pow_pos _)
theorem sQ(h:4503599627370496<=r):(M r).log2=52:=by
 have a:=OF h;have b:=OG r;rw[Nat.log2_eq_iff xaa];exact⟨by simpa using a,by simpa using b⟩
theorem pZ(aj:0<r)(h:r<4503599627370496):(M r).log2<=51:=by
 have e:M r=r:=by unfold M;rw[hK h]
 rw[e];have:r.log2<52:=(Nat.log2_lt xaa).2 (by simpa using h);omega
theorem lq(s f e r x y)(ay:r<9218868437227405312)
  (aL:f*p2 x=val r*p2 y) (aK:(x:Int)-y=e+1074):double.nearest s f e=W s r:=by
 rw[<-BD,<-BD]at aL;by_cases az:f=0
 ·subst az;have i:val r*2 ^ y=0:=by rw[<-aL];simp
  have aj:r=0:=by
   rcases Nat.eq_zero_or_pos r with h|h
   ·exact h
   have:=Nat.mul_pos (v7 h) (Nat.two_pow_pos y);omega
  subst aj;unfold Format.nearest;rw[hK rfl,oK]
 have Z:0<f:=xaa
 have cK:0<r:=by
  rcases Nat.eq_zero_or_pos r with h|h
  ·subst h;rw[jE,Nat.zero_mul]at aL;have:=Nat.mul_pos Z (Nat.two_pow_pos x);omega
  exact h
 have C:=Ly cK
 have ah:f.log2+x=(M r).log2+E r+y:=by
  have:=congrArg Nat.log2 aL;rw[m7 Z,show val r=M r*2 ^ E r from rfl,Nat.mul_assoc,<-Nat.pow_add,m7 C]at this;omega
 unfold Format.nearest;rw[hJ az];simp only[pY,vZ,oJ,sP]
 have j:max (e+f.log2-(52:Nat)) (-1074)=-1074+(E r:Int):=by
  rcases Nat.lt_or_ge r 4503599627370496 with h|h
  ·have:=pZ cK h;have bl:E r=0:=BE xaa;rw[bl]at ah⊢;omega
  have:=sQ h;omega
 rw[j]
 have O:Toward.even.cut s (f<<<(e-(-1074+(E r:Int))).toNat) (-1074+(E r:Int)-e).toNat=M r:=by
  rw[Nat.shiftLeft_eq];rcases Int.le_total (-1074+(E r:Int)) e with h|h
  ·
   obtain⟨a,G⟩:∃a:Nat,e=-1074+(E r:Int)+a:=⟨(e-(-1074+(E r:Int))).toNat,by omega⟩
   have ae:(e-(-1074+(E r:Int))).toNat=a:=xaa
   have a9:(-1074+(E r:Int)-e).toNat=0:=xaa
   rw[ae,a9]
   have aw:f*2 ^ a=M r:=by
    have au:x=E r+y+a:=xaa
    rw[au,show val r=M r*2 ^ E r from rfl,Nat.mul_assoc,<-Nat.pow_add,Nat.add_comm _ a,Nat.pow_add,<-Nat.mul_assoc]at aL
    exact Nat.eq_of_mul_eq_mul_right (Nat.two_pow_pos _) aL
   rw[aw]
   unfold Toward.cut
   simp only[Nat.zero_min,Nat.shiftLeft_eq,Nat.pow_zero,Nat.mul_one,Nat.div_one,Nat.mod_one]
   simp
  obtain⟨a,G⟩:∃a:Nat,e+a=-1074+(E r:Int):=⟨(-1074+(E r:Int)-e).toNat,by omega⟩
  have ae:(e-(-1074+(E r:Int))).toNat=0:=xaa;have a9:(-1074+(E r:Int)-e).toNat=a:=xaa;rw[ae,a9,Nat.pow_zero,Nat.mul_one]
  have aw:f=M r*2 ^ a:=by
   have au:x+a=E r+y:=xaa;have R:f*2 ^ x*2 ^ a=val r*2 ^ y*2 ^ a:=by rw[aL]
   rw[Nat.mul_assoc,<-Nat.pow_add,au,show val r=M r*2 ^ E r from rfl,Nat.mul_assoc (M r),<-Nat.pow_add,Nat.mul_assoc,Nat.mul_comm (2 ^ (E r+y)),<-Nat.mul_assoc]at R;exact Nat.eq_of_mul_eq_mul_right (Nat.two_pow_pos _) R
  rw[aw];unfold Toward.cut;have g:min a ((M r*2 ^ a).log2+2)=a:=by rw[m7 C];omega
  simp only[g,Nat.shiftLeft_eq,Nat.one_mul,Nat.mul_div_cancel _ (Nat.two_pow_pos a),Nat.mul_mod_left];have N:=Nat.two_pow_pos a;simp only[Nat.mul_zero,Nat.not_lt_zero,decide_false,Bool.false_or];have:(2 ^ a==0)=false:=by simp
  rw[this];simp
 rw[O];have e4:(-1074+(E r:Int)- -1074).toNat=E r:=xaa;rw[e4,v6,oK,Nat.min_eq_left xaa]
theorem CC:double.read (W false 0)=.number false 0 (-1074):=gW xaa
theorem uL(s)(h:r<9223372036854775808):Op.negFloat .f64 (W s r)=W (!s) r:=by
 unfold Op.negFloat;have e:FloatKind.f64.format.exponentBits+FloatKind.f64.format.fractionBits=63:=rfl;rw[e];have hb:r<2 ^ 63:=by simpa using h
 cases s
 ·unfold W;simp only[Bool.false_eq_true,if_false,Bool.not_false,if_true];rw[Nat.xor_comm,show 9223372036854775808=2 ^ 63 by decide];have:=Nat.two_pow_add_eq_or_of_lt hb 1;apply Nat.eq_of_testBit_eq;intro i;rw[Nat.testBit_xor,Nat.testBit_two_pow];rcases Nat.lt_trichotomy i 63 with hi|hi|hi
  ·exact xjd
  ·subst hi;rw[Nat.testBit_two_pow_add_eq];simp
  exact xew
 unfold W;simp only[if_true,Bool.not_true,Bool.false_eq_true,if_false];rw[show 9223372036854775808=2 ^ 63 by decide];apply Nat.eq_of_testBit_eq;intro i;rw[Nat.testBit_xor,Nat.testBit_two_pow];rcases Nat.lt_trichotomy i 63 with hi|hi|hi
 ·exact xjd
 ·subst hi;rw[Nat.testBit_two_pow_add_eq];have a:=Nat.testBit_lt_two_pow hb;simp[a]
 exact xew
theorem uM(ay:r<9218868437227405312)(aq:q<9218868437227405312)(aK:p<9218868437227405312)
  (h:val r*val q=val p*p2 1074):double.mul (W s r) (W t q)=some (W (s ^^ t) p):=by
 unfold Format.mul;rw[gW ay,gW aq];simp only[Datum.product,Option.map_some,Format.write,Option.some.injEq];refine lq _ _ _ p (E r+E q) 1074 aK ?_ xaa;rw[<-h,kU,nT,nT];ac_rfl
theorem qW(ay:r<9218868437227405312)(aq:q<9218868437227405312)(aK:p<9218868437227405312)
  (C:M q=p2 52) (h:val r*p2 1074=val p*(p2 52*p2 (E q))):double.div (W s r) (W t q)=some (W (s ^^ t) p):=by
 unfold Format.div;rw[gW ay,gW aq];have hn:¬(2 ^ 52=0):=xab;rw[show p2 _=2 ^ 52 from rfl]at C;simp only[Datum.quotient,C,hJ hn,Option.map_some,Format.write,Option.some.injEq,vZ,Nat.log2_two_pow,Nat.shiftLeft_eq]
 have ah:(M r).log2<=52:=by
  rcases Nat.eq_zero_or_pos r with aj|aj
  ·subst aj;rw[L9];decide
  rcases Nat.lt_or_ge r 4503599627370496 with B|B
  ·have:=pZ aj B;omega
  have:=sQ B;omega
 obtain⟨k,O⟩:∃k,52+2+52-(M r).log2=52+(k+1):=⟨53-(M r).log2,by omega⟩
 rw[O,Nat.pow_add,Nat.mul_left_comm,Nat.mul_div_cancel_left _ (by decide:0<2 ^ 52),Nat.mul_mod_right];simp only[bne_self_eq_false,Bool.toNat_false,Nat.add_zero];refine lq _ _ _ p (E r+1074) (52+E q+(k+2)) aK ?_ xaa;rw[show 2*(M r*2 ^ (k+1))=M r*2 ^ (k+2) by rw[Nat.pow_succ 2 (k+1)];ac_rfl];rw[kU _ (k+2),kU 52 _,<-Nat.mul_assoc _,<-h,kU _ _];rw[nT,BD _];generalize p2 1074=z;ac_rfl
theorem CD(s n):(sg s n).natAbs=n:=by unfold sg;cases s<;>simp
theorem Mc(s n):sg (!s) n=-(sg s n):=by unfold sg;cases s<;>simp
theorem OH(s){n}(h:0<n):decide (sg s n<0)=s:=by
 unfold sg;cases s
 ·simp
 simp;omega
theorem uN(aK:p<9218868437227405312)
  (h:sg s (val r)+sg t (val q)=sg u (val p)) (aJ:p=0->u=(s&&t)):
  (Datum.sum (.number s (M r) (-1074+(E r:Nat))) (.number t (M q) (-1074+(E q:Nat)))).map double.write=some (W u p):=by
 simp only[Datum.sum,Option.map_some,Format.write,Option.some.injEq];obtain⟨b,hb⟩:∃b:Nat,min (-1074+(E r:Int)) (-1074+(E q:Int))=-1074+b:=⟨min (E r) (E q),by omega⟩
 rw[hb];have O:b<=E r:=xaa;have g:b<=E q:=xaa;have a9:(-1074+(E r:Int)-(-1074+b)).toNat=E r-b:=xaa;have ak:(-1074+(E q:Int)-(-1074+b)).toNat=E q-b:=xaa;rw[a9,ak,oM,oM];generalize bi:sg s _+sg t _=T
 have e:T*(2 ^ b:Nat)=sg u (val p):=by
  rw[<-h,<-bi,Int.add_mul,<-qU,<-qU,Nat.mul_assoc,Nat.mul_assoc,Nat.pow_sub_mul_pow 2 O,Nat.pow_sub_mul_pow 2 g];rfl
 have el:(0:Int)<(2 ^ b:Nat):=hR (Nat.two_pow_pos b)
 have hn:T.natAbs*2 ^ b=val p:=by
  have:=congrArg Int.natAbs e;rw[Int.natAbs_mul,CD,Int.natAbs_natCast]at this;exact this
 have ad:(if T=0 then (s&&t)else decide (T<0))=u:=by
  rcases Nat.eq_zero_or_pos p with aj|aj
  ·have:T=0:=by
    subst aj;rw[jE]at hn;have:=Nat.mul_eq_zero.1 hn;have p2:=Nat.two_pow_pos b;omega
   rw[hK this,aJ aj]
  have aL:=v7 aj;have f:T≠0:=by intro c;rw[c]at hn;simp at hn;omega
  rw[hJ f,<-OH u aL,<-e];congr 1;rw[eq_iff_iff];constructor
  ·intro c;exact Int.mul_neg_of_neg_of_pos c el
  intro c;rcases Int.lt_or_le T 0 with d|d
  ·exact d
  have:=Int.mul_nonneg d (Int.le_of_lt el);omega
 rw[ad];exact lq u _ _ p b 0 aK (by rw[<-BD,hn,show p2 0=1 from rfl,Nat.mul_one]) xaa
theorem uO(ay:r<9218868437227405312)(aq:q<9218868437227405312)(aK:p<9218868437227405312)
  (h:sg s (val r)+sg t (val q)=sg u (val p)) (aJ:p=0->u=(s&&t)):double.add (W s r) (W t q)=some (W u p):=by
 unfold Format.add;rw[gW ay,gW aq];exact uN aK h aJ
theorem CE(ay:r<9218868437227405312)(aq:q<9218868437227405312)(aK:p<9218868437227405312)
  (h:sg s (val r)-sg t (val q)=sg u (val p)) (aJ:p=0->u=(s&&!t)):double.sub (W s r) (W t q)=some (W u p):=by
 unfold Format.sub;rw[gW ay,gW aq];exact uN aK (by rw[Mc];omega) aJ
def dbl (r:Nat):Nat:=if r<4503599627370496 then 2*r else r+4503599627370496
theorem v8(r):val (dbl r)=2*val r:=by
 unfold dbl;split
 ·rename_i h;rw[oL xaa,oL xaa]
 rename_i h;unfold val;have ae:M (r+4503599627370496)=M r:=by unfold M;rw[hJ xaa,hJ h];omega
 have a9:E (r+4503599627370496)=E r+1:=by unfold E;omega
 rw[ae,a9,Nat.pow_succ];ac_rfl
theorem EP(h:9007199254740992<=r):val r=2*val (r-4503599627370496):=by
 rw[<-v8];unfold dbl;rw[hJ xaa];congr 1;omega
theorem Lz:M 4611686018427387904=p2 52:=xab
theorem LA:E 4611686018427387904=1023:=xab
theorem IP:val 4611686018427387904=p2 1075:=by rw[nT,Lz,LA,<-kU]
theorem OJ:M 4607182418800017408=p2 52:=xab
theorem OK:E 4607182418800017408=1022:=xab
theorem val_one:val 4607182418800017408=p2 1074:=by rw[nT,OJ,OK,<-kU]
theorem OL:M 4841369599423283200=p2 52:=xab
theorem OM:E 4841369599423283200=1074:=xab
theorem IQ(h:dbl r<9218868437227405312):double.mul (W s r) (W false 4611686018427387904)=some (W s (dbl r)):=by
 have ay:r<9218868437227405312:=by unfold dbl at h;split at h<;>omega
 have:=uM (s:=s) (t:=false) ay (by omega:4611686018427387904<9218868437227405312) h (by rw[v8,IP,vX _];generalize p2 _=z;ac_rfl);rw[this,Bool.xor_false]
theorem BF(ay:r<9218868437227405312)(h:val r=2*val p):double.div (W s r) (W false 4611686018427387904)=some (W s p):=by
 have aK:p<9218868437227405312:=by
  refine Nat.lt_of_le_of_lt ?_ ay;rcases Nat.lt_or_ge r p with c|c
  ·have:=qT c;omega
  exact c
 have:=qW (s:=s) (t:=false) ay (by omega:4611686018427387904<9218868437227405312) aK Lz (by rw[h,LA,<-kU,show 52+1023=1074+1 by rfl,vX 1074];generalize p2 _=z;ac_rfl);rw[this,Bool.xor_false]
theorem rep(t)(ht:t<9007199254740992):∀k,∃r,val r=t*2 ^ k
 |0=>⟨t,by rw[oL ht,Nat.pow_zero,Nat.mul_one]⟩
 |k+1=>by
  obtain⟨r,ay⟩:=rep t ht k
  exact⟨_,by rw[v8,ay,Nat.pow_succ];ac_rfl⟩
theorem IT:val 9218868437227405312=p2 2098:=by
 rw[nT,show M _=p2 52 by decide,show E _=2046 by decide,<-kU]
theorem Av(h:val r<p2 2098):r<9218868437227405312:=by
 rw[<-IT]at h;exact val_lt_iff.1 h
theorem v9(h:r<=9218868437227405312):double.order (W s r) (W s r)=some .eq:=by
 rcases Nat.lt_or_eq_of_le h with h|h
 ·rw[qV h h,Int.compare_eq_eq.2 rfl]
 subst h;cases s<;>decide
theorem EQ(h:9218868437227405312<r)(ay:r<9223372036854775808):∃z t,double.read (W s r)=.nan z t:=⟨_,_,nU h ay⟩
theorem wb(h:9218868437227405312<r)(ay:r<9223372036854775808):double.order (W s r) (W s r)=none:=
 lZ (EQ h ay)
theorem yp(s)(h:0<r):compare (sg s (val r)) (sg false (val 0))=if s then .lt else .gt:=by
 have:=v7 h;unfold sg;cases s
 ·simp only[Bool.false_eq_true,if_false];exact Int.compare_eq_gt.2 (by rw[jE];omega)
 simp only[if_true,Bool.false_eq_true,if_false];exact Int.compare_eq_lt.2 (by rw[jE];omega)
theorem qd(aj:0<r)(h:r<=9218868437227405312):double.order (W s r) 0=some (if s then .lt else .gt):=by
 rcases Nat.lt_or_eq_of_le h with h|h
 ·have:=qV (s:=s) (t:=false) h (by omega:0<9218868437227405312);rw[yp s aj]at this;exact this
 subst h;cases s<;>decide
theorem lu:double.order (W s 0) 0=some .eq:=by cases s<;>decide
theorem px:double.div 4607182418800017408 (W s 0)=some (W s 9218868437227405312):=by cases s<;>decide
theorem Md(h:sg s a=sg t b):a=b/\(s=t\/a=0):=by
 unfold sg at h;cases s<;>cases t<;>simp only[if_true,Bool.false_eq_true,if_false]at h
 ·exact⟨by omega,.inl rfl⟩
 ·exact⟨by omega,.inr xaa⟩
 ·exact⟨by omega,.inr xaa⟩
 exact⟨by omega,.inl rfl⟩
theorem Aw(ay:r<=9218868437227405312)(aq:q<=9218868437227405312):
  (double.order (W s r) (W t q)==some .eq)=decide (r=q/\(s=t\/r=0)):=by
 rcases Nat.lt_or_eq_of_le ay with B|B
 ·rcases Nat.lt_or_eq_of_le aq with R|R
  ·rw[qV B R,Bool.eq_iff_iff];simp only[beq_iff_eq,Option.some.injEq,decide_eq_true_eq,Int.compare_eq_eq];constructor
   ·intro h;obtain⟨a,b⟩:=Md h;have:=sp a;refine⟨this,?_⟩;rcases b with b|b
    ·exact .inl b
    exact .inr (sp (by rw[b,jE]))
   rintro⟨rfl,h|h⟩
   ·rw[h]
   subst h;rw[jE];cases s<;>cases t<;>rfl
  subst R;rw[Format.order,gW B,kJ];have:¬(r=9218868437227405312/\(s=t\/r=0)):=xaa;rw[yax this];cases t<;>rfl
 subst B;rcases Nat.lt_or_eq_of_le aq with R|R
 ·rw[Format.order,gW R,kJ];have:¬(9218868437227405312=q/\(s=t\/9218868437227405312=0)):=xaa;rw[yax this];cases s<;>rfl
 subst R;rw[Format.order,kJ,kJ];cases s<;>cases t<;>decide
