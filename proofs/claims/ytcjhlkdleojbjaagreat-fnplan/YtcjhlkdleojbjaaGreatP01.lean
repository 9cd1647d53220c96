import Derived.Test.YtcjhlkdleojbjaaGreatP00
import Derived.Test.YtcjhlkdleojbjaaGreatRows
namespace Go.Proofs.Z
open Tryz
set_option maxRecDepth 1000000
set_option maxHeartbeats 0
section
open Go.ChangeShapes Go.WideShapes Go.ChangeAt Go.RowKit
theorem own:ownKnob prog.godebug=none:=by kernel_rfl
theorem eF(w:World)(n o):(w.drewN n).alloc o=(w.alloc o).drewN n:=rfl
theorem eE(w:World)(n a v):(w.drewN n).setCell a v=(w.setCell a v).drewN n:=rfl
end
section
variable{s t:Bool}{x r a y b q:Nat}
namespace Flt
open Ieee
def W(s:Bool)(r:Nat):Nat:=if s then 9223372036854775808+r else r
def M(r:Nat):Nat:=if r<4503599627370496 then r else 4503599627370496+r%4503599627370496
def Eaa(r:Nat):Nat:=r/4503599627370496-1
def val(r:Nat):Nat:=M r*2 ^ Eaa r
def p2(n:Nat):Nat:=2 ^ n
def sg(s:Bool)(n:Nat):Int:=if s then -(n:Int)else (n:Int)
theorem qN:double.binade=4503599627370496:=xab
theorem wb:double.signWeight=9223372036854775808:=xab
theorem we:double.infRung=9218868437227405312:=xab
theorem sJ:double.leastPlace=-1074:=xab
theorem JH:double.fractionBits=52:=rfl
theorem sh(s r):double.word s r=W s r:=by
 unfold Format.word W;rw[wb]
theorem mT(x)(an:x<18446744073709551616):∃s r,r<9223372036854775808/\x=W s r:=by
 by_cases h:x<9223372036854775808
 ·exact⟨false,x,h,rfl⟩
 refine⟨true,x-9223372036854775808,by omega,?_⟩;unfold W;simp only[if_true];omega
theorem Ng(h:r<9223372036854775808):W s r<18446744073709551616:=by
 unfold W;split<;>omega
theorem MI(h:r<9223372036854775808):W s r%9223372036854775808=r:=by
 unfold W;split<;>omega
theorem MJ(h:r<9223372036854775808):(W s r/9223372036854775808%2==1)=s:=by
 unfold W;cases s
 ·have:r/9223372036854775808=0:=xaa;simp[this]
 have:(9223372036854775808+r)/9223372036854775808=1:=xaa;simp[this]
theorem Pg(aD:r<9223372036854775808)(ap:q<9223372036854775808)(h:W s r=W t q):s=t/\r=q:=by
 unfold W at h;cases s<;>cases t<;>simp only[if_true,Bool.false_eq_true,if_false]at h
 ·exact⟨rfl,h⟩
 ·omega
 ·omega
 exact⟨rfl,by omega⟩
theorem lJ(h:r<9218868437227405312):double.read (W s r)=.number s (M r) (-1074+(Eaa r:Nat)):=by
 have aD:r<9223372036854775808:=xaa;unfold Format.read;simp only[wb,we,qN,sJ,MI aD,MJ aD];unfold M Eaa;by_cases F:r<4503599627370496
 ·rw[hD F,hD F];have:r/4503599627370496=0:=xaa;rw[this];rfl
 rw[hC F,hD h,hC F]
theorem nJ:double.read (W s 9218868437227405312)=.infinity s:=by
 cases s<;>decide
theorem pT(h:9218868437227405312<r)(aD:r<9223372036854775808):double.read (W s r)=.nan s (r-9218868437227405312):=by
 unfold Format.read;simp only[wb,we,qN,sJ,MI aD,MJ aD];rw[hC xaa,hC xaa,hC xaa]
theorem Qm(h:4503599627370496<=r):4503599627370496<=M r:=by
 unfold M;rw[hC xaa];omega
theorem Qn(r):M r<9007199254740992:=by
 unfold M;split<;>omega
theorem Ph(h:0<r):0<M r:=by
 unfold M;split<;>omega
theorem JI(h:r<9007199254740992):Eaa r=0:=by
 unfold Eaa;omega
theorem qO(h:r<9007199254740992):val r=r:=by
 unfold val;rw[JI h,Nat.pow_zero,Nat.mul_one];unfold M;split<;>omega
theorem B2(r):Eaa r*4503599627370496+M r=r:=by
 unfold Eaa M;split<;>omega
theorem nK(h:a<=b):2 ^ a<=2 ^ b:=Nat.pow_le_pow_right xaa h
theorem AI(h:r<q):val r<val q:=by
 by_cases aZ:Eaa r=Eaa q
 ·unfold val;rw[aZ];have F:=B2 r;have N:=B2 q;rw[aZ]at F;exact Nat.mul_lt_mul_of_pos_right xaa (Nat.two_pow_pos _)
 have au:Eaa r<Eaa q:=by
  have:Eaa r<=Eaa q:=by unfold Eaa;omega
  omega
 have ap:4503599627370496<=q:=by unfold Eaa at au;omega
 have a:=Qm ap;have b:=Qn r;have c:2 ^ (Eaa r+1)<=2 ^ Eaa q:=nK au;have p:0<2 ^ Eaa r:=Nat.two_pow_pos _;unfold val
 calc M r*2 ^ Eaa r<9007199254740992*2 ^ Eaa r:=Nat.mul_lt_mul_of_pos_right b p
  _=4503599627370496*2 ^ (Eaa r+1):=hN Nat.pow_succ
  _<=4503599627370496*2 ^ Eaa q:=Nat.mul_le_mul_left _ c
  _<=M q*2 ^ Eaa q:=Nat.mul_le_mul_right _ a
theorem B3(h:val r=val q):r=q:=by
 rcases Nat.lt_trichotomy r q with F|F|F
 ·have:=AI F;omega
 ·exact F
 have:=AI F;omega
theorem nN:val 0=0:=rfl
theorem JJ(h:0<r):0<val r:=by have:=AI h;rw[nN]at this;exact this
theorem uT(s m k):signed s m k=sg s (m*2 ^ k):=by
 unfold signed sg;rw[Nat.shiftLeft_eq]
theorem wg(s a b):sg s (a*b)=sg s a*(b:Int):=by
 unfold sg;cases s
 ·simp
 simp[Int.neg_mul]
theorem pt(x y)(k:Nat)(O:0<k):compare (x*(k:Int)) (y*(k:Int))=compare x y:=by
 have u:(0:Int)<k:=xaa;rcases Int.lt_trichotomy x y with h|h|h
 ·rw[Int.compare_eq_lt.2 h];exact Int.compare_eq_lt.2 (Int.mul_lt_mul_of_pos_right h u)
 ·subst h;rw[Int.compare_eq_eq.2 rfl,Int.compare_eq_eq.2 rfl]
 rw[Int.compare_eq_gt.2 h];exact Int.compare_eq_gt.2 (Int.mul_lt_mul_of_pos_right h u)
theorem qP(aD:r<9218868437227405312)(ap:q<9218868437227405312):
  double.order (W s r) (W t q)=some (compare (sg s (val r)) (sg t (val q))):=by
 unfold Format.order;rw[lJ aD,lJ ap];simp only[Datum.order,Option.some.injEq];rw[uT,uT];rcases Nat.le_total (Eaa r) (Eaa q) with h|h
 ·have ae:min (-1074+(Eaa r:Int)) (-1074+(Eaa q:Int))=-1074+(Eaa r:Int):=xaa;rw[ae];have a9:(-1074+(Eaa r:Int)-(-1074+(Eaa r:Int))).toNat=0:=xaa;have ai:(-1074+(Eaa q:Int)-(-1074+(Eaa r:Int))).toNat=Eaa q-Eaa r:=xaa;rw[a9,ai,<-pt _ _ (2 ^ Eaa r) (Nat.two_pow_pos _),<-wg,<-wg];exact xhx
 have ae:min (-1074+(Eaa r:Int)) (-1074+(Eaa q:Int))=-1074+(Eaa q:Int):=xaa;rw[ae];have a9:(-1074+(Eaa q:Int)-(-1074+(Eaa q:Int))).toNat=0:=xaa;have ai:(-1074+(Eaa r:Int)-(-1074+(Eaa q:Int))).toNat=Eaa r-Eaa q:=xaa;rw[a9,ai,<-pt _ _ (2 ^ Eaa q) (Nat.two_pow_pos _),<-wg,<-wg];exact xhx
theorem lK(h:∃s t,double.read x=.nan s t):double.order x y=none:=by
 obtain⟨s,t,h⟩:=h;unfold Format.order;rw[h];rfl
theorem nh(h:∃s t,double.read y=.nan s t):double.order x y=none:=by
 obtain⟨s,t,h⟩:=h;unfold Format.order;rw[h];cases double.read x<;>rfl
theorem MK(s)(h:r<9223372036854775808):Op.negFloat .f64 (W s r)=W (!s) r:=by
 unfold Op.negFloat;have e:FloatKind.f64.format.exponentBits+FloatKind.f64.format.fractionBits=63:=rfl;rw[e];have hb:r<2 ^ 63:=by simpa using h
 cases s
 ·unfold W;simp only[Bool.false_eq_true,if_false,Bool.not_false,if_true];rw[Nat.xor_comm,show 9223372036854775808=2 ^ 63 by decide];have:=Nat.two_pow_add_eq_or_of_lt hb 1;apply Nat.eq_of_testBit_eq;intro i;rw[Nat.testBit_xor,Nat.testBit_two_pow];rcases Nat.lt_trichotomy i 63 with hi|hi|hi
  ·exact xhe
  ·subst hi;rw[Nat.testBit_two_pow_add_eq];simp
  exact xdg
 unfold W;simp only[if_true,Bool.not_true,Bool.false_eq_true,if_false];rw[show 9223372036854775808=2 ^ 63 by decide];apply Nat.eq_of_testBit_eq;intro i;rw[Nat.testBit_xor,Nat.testBit_two_pow];rcases Nat.lt_trichotomy i 63 with hi|hi|hi
 ·exact xhe
 ·subst hi;rw[Nat.testBit_two_pow_add_eq];have a:=Nat.testBit_lt_two_pow hb;simp[a]
 exact xdg
def dbl(r:Nat):Nat:=if r<4503599627370496 then 2*r else r+4503599627370496
theorem JK(r):val (dbl r)=2*val r:=by
 unfold dbl;split
 ·rename_i h;rw[qO xaa,qO xaa]
 rename_i h;unfold val;have ae:M (r+4503599627370496)=M r:=by unfold M;rw[hC xaa,hC h];omega
 have a9:Eaa (r+4503599627370496)=Eaa r+1:=by unfold Eaa;omega
 rw[ae,a9,Nat.pow_succ];ac_rfl
theorem rep(t)(ht:t<9007199254740992):∀k,∃r,val r=t*2 ^ k
 |0=>⟨t,by rw[qO ht,Nat.pow_zero,Nat.mul_one]⟩
 |k+1=>by
  obtain⟨r,aD⟩:=rep t ht k
  exact⟨_,by rw[JK,aD,Nat.pow_succ];ac_rfl⟩
theorem wi(h:r<=9218868437227405312):double.order (W s r) (W s r)=some .eq:=by
 rcases Nat.lt_or_eq_of_le h with h|h
 ·rw[qP h h,Int.compare_eq_eq.2 rfl]
 subst h;cases s<;>decide
theorem Fx(h:9218868437227405312<r)(aD:r<9223372036854775808):∃B t,double.read (W s r)=.nan B t:=⟨_,_,pT h aD⟩
theorem wj(h:9218868437227405312<r)(aD:r<9223372036854775808):double.order (W s r) (W s r)=none:=
 lK (Fx h aD)
theorem yu(s)(h:0<r):compare (sg s (val r)) (sg false (val 0))=if s then .lt else .gt:=by
 have:=JJ h;unfold sg;cases s
 ·simp only[Bool.false_eq_true,if_false];exact Int.compare_eq_gt.2 (by rw[nN];omega)
 simp only[if_true,Bool.false_eq_true,if_false];exact Int.compare_eq_lt.2 (by rw[nN];omega)
theorem sK(al:0<r)(h:r<=9218868437227405312):double.order (W s r) 0=some (if s then .lt else .gt):=by
 rcases Nat.lt_or_eq_of_le h with h|h
 ·have:=qP (s:=s) (t:=false) h (by omega:0<9218868437227405312);rw[yu s al]at this;exact this
 subst h;cases s<;>decide
theorem mA:double.order (W s 0) 0=some .eq:=by cases s<;>decide
theorem pw:double.div 4607182418800017408 (W s 0)=some (W s 9218868437227405312):=by cases s<;>decide
theorem Nh(h:sg s a=sg t b):a=b/\(s=t\/a=0):=by
 unfold sg at h;cases s<;>cases t<;>simp only[if_true,Bool.false_eq_true,if_false]at h
 ·exact⟨by omega,.inl rfl⟩
 ·exact⟨by omega,.inr xaa⟩
 ·exact⟨by omega,.inr xaa⟩
 exact⟨by omega,.inl rfl⟩
theorem AJ(aD:r<=9218868437227405312)(ap:q<=9218868437227405312):
  (double.order (W s r) (W t q)==some .eq)=decide (r=q/\(s=t\/r=0)):=by
 rcases Nat.lt_or_eq_of_le aD with F|F
 ·rcases Nat.lt_or_eq_of_le ap with N|N
  ·rw[qP F N,Bool.eq_iff_iff];simp only[beq_iff_eq,Option.some.injEq,decide_eq_true_eq,Int.compare_eq_eq];constructor
   ·intro h;obtain⟨a,b⟩:=Nh h;have:=B3 a;refine⟨this,?_⟩;rcases b with b|b
    ·exact .inl b
    exact .inr (B3 (by rw[b,nN]))
   rintro⟨rfl,h|h⟩
   ·rw[h]
   subst h;rw[nN];cases s<;>cases t<;>rfl
  subst N;rw[Format.order,lJ F,nJ];have:¬(r=9218868437227405312/\(s=t\/r=0)):=xaa;rw[yay this];cases t<;>rfl
 subst F;rcases Nat.lt_or_eq_of_le ap with N|N
 ·rw[Format.order,lJ N,nJ];have:¬(9218868437227405312=q/\(s=t\/9218868437227405312=0)):=xaa;rw[yay this];cases s<;>rfl
 subst N;rw[Format.order,nJ,nJ];cases s<;>cases t<;>decide
