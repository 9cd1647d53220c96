import Derived.Test.YtcagphgmfbjneaaGreatP00
import Derived.Test.YtcagphgmfbjneaaGreatRows
namespace Go.Proofs.Z
open Tryz
set_option maxRecDepth 1000000
set_option maxHeartbeats 0
section
open Go.ChangeShapes Go.WideShapes Go.ChangeAt Go.RowKit
theorem own:ownKnob prog.godebug=none:=by kernel_rfl
theorem eE(w:World)(n o):(w.drewN n).alloc o=(w.alloc o).drewN n:=rfl
theorem eD(w:World)(n a v):(w.drewN n).setCell a v=(w.setCell a v).drewN n:=rfl
end
section
variable{s t:Bool}{x r a y b q:Nat}
namespace Flt
open Ieee
def W(s:Bool)(r:Nat):Nat:=if s then 9223372036854775808+r else r
def M(r:Nat):Nat:=if r<4503599627370496 then r else 4503599627370496+r%4503599627370496
def E(r:Nat):Nat:=r/4503599627370496-1
def val(r:Nat):Nat:=M r*2 ^ E r
def p2(n:Nat):Nat:=2 ^ n
def sg(s:Bool)(n:Nat):Int:=if s then -(n:Int)else (n:Int)
theorem rn:double.binade=4503599627370496:=xab
theorem wY:double.signWeight=9223372036854775808:=xab
theorem wZ:double.infRung=9218868437227405312:=xab
theorem tK:double.leastPlace=-1074:=xab
theorem JE:double.fractionBits=52:=rfl
theorem sO(s r):double.word s r=W s r:=by
 unfold Format.word W;rw[wY]
theorem mX(x)(ap:x<18446744073709551616):∃s r,r<9223372036854775808/\x=W s r:=by
 by_cases h:x<9223372036854775808
 ·exact⟨false,x,h,rfl⟩
 refine⟨true,x-9223372036854775808,by omega,?_⟩;unfold W;simp only[if_true];omega
theorem No(h:r<9223372036854775808):W s r<18446744073709551616:=by
 unfold W;split<;>omega
theorem MJ(h:r<9223372036854775808):W s r%9223372036854775808=r:=by
 unfold W;split<;>omega
theorem MK(h:r<9223372036854775808):(W s r/9223372036854775808%2==1)=s:=by
 unfold W;cases s
 ·have:r/9223372036854775808=0:=xaa;simp[this]
 have:(9223372036854775808+r)/9223372036854775808=1:=xaa;simp[this]
theorem PL(aF:r<9223372036854775808)(aA:q<9223372036854775808)(h:W s r=W t q):s=t/\r=q:=by
 unfold W at h;cases s<;>cases t<;>simp only[if_true,Bool.false_eq_true,if_false]at h
 ·exact⟨rfl,h⟩
 ·omega
 ·omega
 exact⟨rfl,by omega⟩
theorem lX(h:r<9218868437227405312):double.read (W s r)=.number s (M r) (-1074+(E r:Nat)):=by
 have aF:r<9223372036854775808:=xaa;unfold Format.read;simp only[wY,wZ,rn,tK,MJ aF,MK aF];unfold M E;by_cases F:r<4503599627370496
 ·rw[h7 F,h7 F];have:r/4503599627370496=0:=xaa;rw[this];rfl
 rw[h6 F,h7 h,h6 F]
theorem ot:double.read (W s 9218868437227405312)=.infinity s:=by
 cases s<;>decide
theorem qn(h:9218868437227405312<r)(aF:r<9223372036854775808):double.read (W s r)=.nan s (r-9218868437227405312):=by
 unfold Format.read;simp only[wY,wZ,rn,tK,MJ aF,MK aF];rw[h6 xaa,h6 xaa,h6 xaa]
theorem QZ(h:4503599627370496<=r):4503599627370496<=M r:=by
 unfold M;rw[h6 xaa];omega
theorem Q0(r):M r<9007199254740992:=by
 unfold M;split<;>omega
theorem PM(h:0<r):0<M r:=by
 unfold M;split<;>omega
theorem JF(h:r<9007199254740992):E r=0:=by
 unfold E;omega
theorem rp(h:r<9007199254740992):val r=r:=by
 unfold val;rw[JF h,Nat.pow_zero,Nat.mul_one];unfold M;split<;>omega
theorem Ck(r):E r*4503599627370496+M r=r:=by
 unfold E M;split<;>omega
theorem ow(h:a<=b):2 ^ a<=2 ^ b:=Nat.pow_le_pow_right xaa h
theorem A5(h:r<q):val r<val q:=by
 by_cases Y:E r=E q
 ·unfold val;rw[Y];have F:=Ck r;have h2:=Ck q;rw[Y]at F;exact Nat.mul_lt_mul_of_pos_right xaa (Nat.two_pow_pos _)
 have bU:E r<E q:=by
  have:E r<=E q:=by unfold E;omega
  omega
 have aA:4503599627370496<=q:=by unfold E at bU;omega
 have a:=QZ aA;have b:=Q0 r;have c:2 ^ (E r+1)<=2 ^ E q:=ow bU;have p:0<2 ^ E r:=Nat.two_pow_pos _;unfold val
 calc M r*2 ^ E r<9007199254740992*2 ^ E r:=Nat.mul_lt_mul_of_pos_right b p
  _=4503599627370496*2 ^ (E r+1):=i3 Nat.pow_succ
  _<=4503599627370496*2 ^ E q:=Nat.mul_le_mul_left _ c
  _<=M q*2 ^ E q:=Nat.mul_le_mul_right _ a
theorem Cm(h:val r=val q):r=q:=by
 rcases Nat.lt_trichotomy r q with F|F|F
 ·have:=A5 F;omega
 ·exact F
 have:=A5 F;omega
theorem oy:val 0=0:=rfl
theorem JG(h:0<r):0<val r:=by have:=A5 h;rw[oy]at this;exact this
theorem vF(s m k):signed s m k=sg s (m*2 ^ k):=by
 unfold signed sg;rw[Nat.shiftLeft_eq]
theorem xd(s a b):sg s (a*b)=sg s a*(b:Int):=by
 unfold sg;cases s
 ·simp
 simp[Int.neg_mul]
theorem pK(x y)(k:Nat)(O:0<k):compare (x*(k:Int)) (y*(k:Int))=compare x y:=by
 have G:(0:Int)<k:=xaa;rcases Int.lt_trichotomy x y with h|h|h
 ·rw[Int.compare_eq_lt.2 h];exact Int.compare_eq_lt.2 (Int.mul_lt_mul_of_pos_right h G)
 ·subst h;rw[Int.compare_eq_eq.2 rfl,Int.compare_eq_eq.2 rfl]
 rw[Int.compare_eq_gt.2 h];exact Int.compare_eq_gt.2 (Int.mul_lt_mul_of_pos_right h G)
theorem rt(aF:r<9218868437227405312)(aA:q<9218868437227405312):
  double.order (W s r) (W t q)=some (compare (sg s (val r)) (sg t (val q))):=by
 unfold Format.order;rw[lX aF,lX aA];simp only[Datum.order,Option.some.injEq];rw[vF,vF];rcases Nat.le_total (E r) (E q) with h|h
 ·have af:min (-1074+(E r:Int)) (-1074+(E q:Int))=-1074+(E r:Int):=xaa;rw[af];have bg:(-1074+(E r:Int)-(-1074+(E r:Int))).toNat=0:=xaa;have ah:(-1074+(E q:Int)-(-1074+(E r:Int))).toNat=E q-E r:=xaa;rw[bg,ah,<-pK _ _ (2 ^ E r) (Nat.two_pow_pos _),<-xd,<-xd];exact xig
 have af:min (-1074+(E r:Int)) (-1074+(E q:Int))=-1074+(E q:Int):=xaa;rw[af];have bg:(-1074+(E q:Int)-(-1074+(E q:Int))).toNat=0:=xaa;have ah:(-1074+(E r:Int)-(-1074+(E q:Int))).toNat=E r-E q:=xaa;rw[bg,ah,<-pK _ _ (2 ^ E q) (Nat.two_pow_pos _),<-xd,<-xd];exact xig
theorem lY(h:∃s t,double.read x=.nan s t):double.order x y=none:=by
 obtain⟨s,t,h⟩:=h;unfold Format.order;rw[h];rfl
theorem nV(h:∃s t,double.read y=.nan s t):double.order x y=none:=by
 obtain⟨s,t,h⟩:=h;unfold Format.order;rw[h];cases double.read x<;>rfl
theorem ML(s)(h:r<9223372036854775808):Op.negFloat .f64 (W s r)=W (!s) r:=by
 unfold Op.negFloat;have e:FloatKind.f64.format.exponentBits+FloatKind.f64.format.fractionBits=63:=rfl;rw[e];have hb:r<2 ^ 63:=by simpa using h
 cases s
 ·unfold W;simp only[Bool.false_eq_true,if_false,Bool.not_false,if_true];rw[Nat.xor_comm,show 9223372036854775808=2 ^ 63 by decide];have:=Nat.two_pow_add_eq_or_of_lt hb 1;apply Nat.eq_of_testBit_eq;intro i;rw[Nat.testBit_xor,Nat.testBit_two_pow];rcases Nat.lt_trichotomy i 63 with hi|hi|hi
  ·exact xhr
  ·subst hi;rw[Nat.testBit_two_pow_add_eq];simp
  exact xdo
 unfold W;simp only[if_true,Bool.not_true,Bool.false_eq_true,if_false];rw[show 9223372036854775808=2 ^ 63 by decide];apply Nat.eq_of_testBit_eq;intro i;rw[Nat.testBit_xor,Nat.testBit_two_pow];rcases Nat.lt_trichotomy i 63 with hi|hi|hi
 ·exact xhr
 ·subst hi;rw[Nat.testBit_two_pow_add_eq];have a:=Nat.testBit_lt_two_pow hb;simp[a]
 exact xdo
def dbl(r:Nat):Nat:=if r<4503599627370496 then 2*r else r+4503599627370496
theorem JH(r):val (dbl r)=2*val r:=by
 unfold dbl;split
 ·rename_i h;rw[rp xaa,rp xaa]
 rename_i h;unfold val;have af:M (r+4503599627370496)=M r:=by unfold M;rw[h6 xaa,h6 h];omega
 have bg:E (r+4503599627370496)=E r+1:=by unfold E;omega
 rw[af,bg,Nat.pow_succ];ac_rfl
theorem rep(t)(ht:t<9007199254740992):∀k,∃r,val r=t*2 ^ k
 |0=>⟨t,by rw[rp ht,Nat.pow_zero,Nat.mul_one]⟩
 |k+1=>by
  obtain⟨r,aF⟩:=rep t ht k
  exact⟨_,by rw[JH,aF,Nat.pow_succ];ac_rfl⟩
theorem xe(h:r<=9218868437227405312):double.order (W s r) (W s r)=some .eq:=by
 rcases Nat.lt_or_eq_of_le h with h|h
 ·rw[rt h h,Int.compare_eq_eq.2 rfl]
 subst h;cases s<;>decide
theorem Fw(h:9218868437227405312<r)(aF:r<9223372036854775808):∃s' t,double.read (W s r)=.nan s' t:=⟨_,_,qn h aF⟩
theorem xg(h:9218868437227405312<r)(aF:r<9223372036854775808):double.order (W s r) (W s r)=none:=
 lY (Fw h aF)
theorem yR(s)(h:0<r):compare (sg s (val r)) (sg false (val 0))=if s then .lt else .gt:=by
 have:=JG h;unfold sg;cases s
 ·simp only[Bool.false_eq_true,if_false];exact Int.compare_eq_gt.2 (by rw[oy];omega)
 simp only[if_true,Bool.false_eq_true,if_false];exact Int.compare_eq_lt.2 (by rw[oy];omega)
theorem tL(ak:0<r)(h:r<=9218868437227405312):double.order (W s r) 0=some (if s then .lt else .gt):=by
 rcases Nat.lt_or_eq_of_le h with h|h
 ·have:=rt (s:=s) (t:=false) h (by omega:0<9218868437227405312);rw[yR s ak]at this;exact this
 subst h;cases s<;>decide
theorem mL:double.order (W s 0) 0=some .eq:=by cases s<;>decide
theorem pL:double.div 4607182418800017408 (W s 0)=some (W s 9218868437227405312):=by cases s<;>decide
theorem Np(h:sg s a=sg t b):a=b/\(s=t\/a=0):=by
 unfold sg at h;cases s<;>cases t<;>simp only[if_true,Bool.false_eq_true,if_false]at h
 ·exact⟨by omega,.inl rfl⟩
 ·exact⟨by omega,.inr xaa⟩
 ·exact⟨by omega,.inr xaa⟩
 exact⟨by omega,.inl rfl⟩
theorem A6(aF:r<=9218868437227405312)(aA:q<=9218868437227405312):
  (double.order (W s r) (W t q)==some .eq)=decide (r=q/\(s=t\/r=0)):=by
 rcases Nat.lt_or_eq_of_le aF with F|F
 ·rcases Nat.lt_or_eq_of_le aA with h2|h2
  ·rw[rt F h2,Bool.eq_iff_iff];simp only[beq_iff_eq,Option.some.injEq,decide_eq_true_eq,Int.compare_eq_eq];constructor
   ·intro h;obtain⟨a,b⟩:=Np h;have:=Cm a;refine⟨this,?_⟩;rcases b with b|b
    ·exact .inl b
    exact .inr (Cm (by rw[b,oy]))
   rintro⟨rfl,h|h⟩
   ·rw[h]
   subst h;rw[oy];cases s<;>cases t<;>rfl
  subst h2;rw[Format.order,lX F,ot];have:¬(r=9218868437227405312/\(s=t\/r=0)):=xaa;rw[yay this];cases t<;>rfl
 subst F;rcases Nat.lt_or_eq_of_le aA with h2|h2
 ·rw[Format.order,lX h2,ot];have:¬(9218868437227405312=q/\(s=t\/9218868437227405312=0)):=xaa;rw[yay this];cases s<;>rfl
 subst h2;rw[Format.order,ot,ot];cases s<;>cases t<;>decide
