import Derived.Test.YtaheilbiakhlgaaGreatP00
import Derived.Test.YtaheilbiakhlgaaGreatRows
namespace Go.Proofs.Z
open Tryz
set_option maxRecDepth 1000000
set_option maxHeartbeats 0
section
open Go.ChangeShapes Go.WideShapes Go.ChangeAt Go.RowKit
theorem own:ownKnob prog.godebug=none:=by kernel_rfl
theorem eF(w:World)(n o):(w.drewN n).alloc o=(w.alloc o).drewN n:=rfl
theorem eE(w:World)(n a v):(w.drewN n).setCell a v=(w.setCell a v).drewN n:=rfl
end
section
variable{s t u:Bool}{x r a y b q p:Nat}
namespace Flt
open Ieee
def W(s:Bool)(r:Nat):Nat:=if s then 9223372036854775808+r else r
def M(r:Nat):Nat:=if r<4503599627370496 then r else 4503599627370496+r%4503599627370496
def E(r:Nat):Nat:=r/4503599627370496-1
def val(r:Nat):Nat:=M r*2 ^ E r
def p2(n:Nat):Nat:=2 ^ n
theorem Bk(n):2 ^ n=p2 n:=rfl
theorem lY(a b):p2 (a+b)=p2 a*p2 b:=Nat.pow_add 2 a b
theorem Eu(a):0<p2 a:=Nat.two_pow_pos a
theorem vH(a):p2 (a+1)=2*p2 a:=by unfold p2;rw[Nat.pow_succ,Nat.mul_comm]
theorem qS(r):val r=M r*p2 (E r):=rfl
def sg(s:Bool)(n:Nat):Int:=if s then -(n:Int)else (n:Int)
theorem oM:double.binade=4503599627370496:=xab
theorem vI:double.signWeight=9223372036854775808:=xab
theorem sA:double.infRung=9218868437227405312:=xab
theorem pX:double.leastPlace=-1074:=xab
theorem vJ:double.fractionBits=52:=rfl
theorem oN(s r):double.word s r=W s r:=by
 unfold Format.word W;rw[vI]
theorem jB(x)(ap:x<18446744073709551616):∃s r,r<9223372036854775808/\x=W s r:=by
 by_cases h:x<9223372036854775808
 ·exact⟨false,x,h,rfl⟩
 refine⟨true,x-9223372036854775808,by omega,?_⟩;unfold W;simp only[if_true];omega
theorem Ev(h:r<9223372036854775808):W s r<18446744073709551616:=by
 unfold W;split<;>omega
theorem Lg(h:r<9223372036854775808):W s r%9223372036854775808=r:=by
 unfold W;split<;>omega
theorem Lh(h:r<9223372036854775808):(W s r/9223372036854775808%2==1)=s:=by
 unfold W;cases s
 ·have:r/9223372036854775808=0:=xaa;simp[this]
 have:(9223372036854775808+r)/9223372036854775808=1:=xaa;simp[this]
theorem Oy(av:r<9223372036854775808)(ao:q<9223372036854775808)(h:W s r=W t q):s=t/\r=q:=by
 unfold W at h;cases s<;>cases t<;>simp only[if_true,Bool.false_eq_true,if_false]at h
 ·exact⟨rfl,h⟩
 ·omega
 ·omega
 exact⟨rfl,by omega⟩
theorem i9(h:r<9218868437227405312):double.read (W s r)=.number s (M r) (-1074+(E r:Nat)):=by
 have av:r<9223372036854775808:=xaa;unfold Format.read;simp only[vI,sA,oM,pX,Lg av,Lh av];unfold M E;by_cases B:r<4503599627370496
 ·rw[hI B,hI B];have:r/4503599627370496=0:=xaa;rw[this];rfl
 rw[hG B,hI h,hG B]
theorem nU:double.read (W s 9218868437227405312)=.infinity s:=by
 cases s<;>decide
theorem pY(h:9218868437227405312<r)(av:r<9223372036854775808):double.read (W s r)=.nan s (r-9218868437227405312):=by
 unfold Format.read;simp only[vI,sA,oM,pX,Lg av,Lh av];rw[hG xaa,hG xaa,hG xaa]
theorem Oz(h:4503599627370496<=r):4503599627370496<=M r:=by
 unfold M;rw[hG xaa];omega
theorem OA(r):M r<9007199254740992:=by
 unfold M;split<;>omega
theorem Li(h:0<r):0<M r:=by
 unfold M;split<;>omega
theorem LQ:M 0=0:=rfl
theorem Bl(h:r<9007199254740992):E r=0:=by
 unfold E;omega
theorem oO(h:r<9007199254740992):val r=r:=by
 unfold val;rw[Bl h,Nat.pow_zero,Nat.mul_one];unfold M;split<;>omega
theorem vK(r):E r*4503599627370496+M r=r:=by
 unfold E M;split<;>omega
theorem mQ(h:a<=b):2 ^ a<=2 ^ b:=Nat.pow_le_pow_right xaa h
theorem qT(h:r<q):val r<val q:=by
 by_cases ad:E r=E q
 ·unfold val;rw[ad];have B:=vK r;have U:=vK q;rw[ad]at B;exact Nat.mul_lt_mul_of_pos_right xaa (Nat.two_pow_pos _)
 have b3:E r<E q:=by
  have:E r<=E q:=by unfold E;omega
  omega
 have ao:4503599627370496<=q:=by unfold E at b3;omega
 have a:=Oz ao;have b:=OA r;have c:2 ^ (E r+1)<=2 ^ E q:=mQ b3;have p:0<2 ^ E r:=Nat.two_pow_pos _;unfold val
 calc M r*2 ^ E r<9007199254740992*2 ^ E r:=Nat.mul_lt_mul_of_pos_right b p
  _=4503599627370496*2 ^ (E r+1):=hT Nat.pow_succ
  _<=4503599627370496*2 ^ E q:=Nat.mul_le_mul_left _ c
  _<=M q*2 ^ E q:=Nat.mul_le_mul_right _ a
theorem LR(h:r<=q):val r<=val q:=by
 rcases Nat.lt_or_eq_of_le h with h|h
 ·exact Nat.le_of_lt (qT h)
 rw[h];exact yad
theorem val_lt_iff:val r<val q↔r<q:=
 ⟨λh=>by rcases Nat.lt_or_ge r q with B|B;exact B;have:=LR B;omega,qT⟩
theorem r7(h:val r=val q):r=q:=by
 rcases Nat.lt_trichotomy r q with B|B|B
 ·have:=qT B;omega
 ·exact B
 have:=qT B;omega
theorem kK:val 0=0:=rfl
theorem vL(h:0<r):0<val r:=by have:=qT h;rw[kK]at this;exact this
theorem oP(s m k):signed s m k=sg s (m*2 ^ k):=by
 unfold signed sg;rw[Nat.shiftLeft_eq]
theorem qU(s a b):sg s (a*b)=sg s a*(b:Int):=by
 unfold sg;cases s
 ·simp
 simp[Int.neg_mul]
theorem px(x y)(k:Nat)(O:0<k):compare (x*(k:Int)) (y*(k:Int))=compare x y:=by
 have af:(0:Int)<k:=xaa;rcases Int.lt_trichotomy x y with h|h|h
 ·rw[Int.compare_eq_lt.2 h];exact Int.compare_eq_lt.2 (Int.mul_lt_mul_of_pos_right h af)
 ·subst h;rw[Int.compare_eq_eq.2 rfl,Int.compare_eq_eq.2 rfl]
 rw[Int.compare_eq_gt.2 h];exact Int.compare_eq_gt.2 (Int.mul_lt_mul_of_pos_right h af)
theorem qV(av:r<9218868437227405312)(ao:q<9218868437227405312):
  double.order (W s r) (W t q)=some (compare (sg s (val r)) (sg t (val q))):=by
 unfold Format.order;rw[i9 av,i9 ao];simp only[Datum.order,Option.some.injEq];rw[oP,oP];rcases Nat.le_total (E r) (E q) with h|h
 ·have af:min (-1074+(E r:Int)) (-1074+(E q:Int))=-1074+(E r:Int):=xaa;rw[af];have a0:(-1074+(E r:Int)-(-1074+(E r:Int))).toNat=0:=xaa;have aj:(-1074+(E q:Int)-(-1074+(E r:Int))).toNat=E q-E r:=xaa;rw[a0,aj,<-px _ _ (2 ^ E r) (Nat.two_pow_pos _),<-qU,<-qU];exact xjx
 have af:min (-1074+(E r:Int)) (-1074+(E q:Int))=-1074+(E q:Int):=xaa;rw[af];have a0:(-1074+(E q:Int)-(-1074+(E q:Int))).toNat=0:=xaa;have aj:(-1074+(E r:Int)-(-1074+(E q:Int))).toNat=E r-E q:=xaa;rw[a0,aj,<-px _ _ (2 ^ E q) (Nat.two_pow_pos _),<-qU,<-qU];exact xjx
theorem lZ(h:∃s t,double.read x=.nan s t):double.order x y=none:=by
 obtain⟨s,t,h⟩:=h;unfold Format.order;rw[h];rfl
theorem nK(h:∃s t,double.read y=.nan s t):double.order x y=none:=by
 obtain⟨s,t,h⟩:=h;unfold Format.order;rw[h];cases double.read x<;>rfl
theorem nh{m k}(aw:0<m):(m*2 ^ k).log2=m.log2+k:=by
 have ai:m*2 ^ k≠0:=Nat.ne_of_gt (Nat.mul_pos aw (Nat.two_pow_pos _));rw[Nat.log2_eq_iff ai];have a:=Nat.log2_self_le (n:=m) xaa;have b:=@Nat.lt_log2_self m;refine⟨?_,?_⟩
 ·rw[Nat.pow_add];exact Nat.mul_le_mul_right _ a
 rw[show m.log2+k+1=(m.log2+1)+k by omega,Nat.pow_add];exact Nat.mul_lt_mul_of_pos_right b (Nat.two_pow_pos _)
theorem sB(h:4503599627370496<=r):(M r).log2=52:=by
 have a:=Oz h;have b:=OA r;rw[Nat.log2_eq_iff xaa];exact⟨by simpa using a,by simpa using b⟩
theorem pZ(ai:0<r)(h:r<4503599627370496):(M r).log2<=51:=by
 have e:M r=r:=by unfold M;rw[hI h]
 rw[e];have:r.log2<52:=(Nat.log2_lt xaa).2 (by simpa using h);omega
theorem ll(s f e r x y)(av:r<9218868437227405312)
  (aM:f*p2 x=val r*p2 y) (aF:(x:Int)-y=e+1074):double.nearest s f e=W s r:=by
 rw[<-Bk,<-Bk]at aM;by_cases aw:f=0
 ·subst aw;have i:val r*2 ^ y=0:=by rw[<-aM];simp
  have ai:r=0:=by
   rcases Nat.eq_zero_or_pos r with h|h
   ·exact h
   have:=Nat.mul_pos (vL h) (Nat.two_pow_pos y);omega
  subst ai;unfold Format.nearest;rw[hI rfl,oN]
 have aI:0<f:=xaa
 have cI:0<r:=by
  rcases Nat.eq_zero_or_pos r with h|h
  ·subst h;rw[kK,Nat.zero_mul]at aM;have:=Nat.mul_pos aI (Nat.two_pow_pos x);omega
  exact h
 have C:=Li cI
 have ah:f.log2+x=(M r).log2+E r+y:=by
  have:=congrArg Nat.log2 aM;rw[nh aI,show val r=M r*2 ^ E r from rfl,Nat.mul_assoc,<-Nat.pow_add,nh C]at this;omega
 unfold Format.nearest;rw[hG aw];simp only[pX,vJ,oM,sA]
 have j:max (e+f.log2-(52:Nat)) (-1074)=-1074+(E r:Int):=by
  rcases Nat.lt_or_ge r 4503599627370496 with h|h
  ·have:=pZ cI h;have bg:E r=0:=Bl xaa;rw[bg]at ah⊢;omega
  have:=sB h;omega
 rw[j]
 have O:Toward.even.cut s (f<<<(e-(-1074+(E r:Int))).toNat) (-1074+(E r:Int)-e).toNat=M r:=by
  rw[Nat.shiftLeft_eq];rcases Int.le_total (-1074+(E r:Int)) e with h|h
  ·
   obtain⟨a,F⟩:∃a:Nat,e=-1074+(E r:Int)+a:=⟨(e-(-1074+(E r:Int))).toNat,by omega⟩
   have af:(e-(-1074+(E r:Int))).toNat=a:=xaa
   have a0:(-1074+(E r:Int)-e).toNat=0:=xaa
   rw[af,a0]
   have au:f*2 ^ a=M r:=by
    have ap:x=E r+y+a:=xaa
    rw[ap,show val r=M r*2 ^ E r from rfl,Nat.mul_assoc,<-Nat.pow_add,Nat.add_comm _ a,Nat.pow_add,<-Nat.mul_assoc]at aM
    exact Nat.eq_of_mul_eq_mul_right (Nat.two_pow_pos _) aM
   rw[au]
   unfold Toward.cut
   simp only[Nat.zero_min,Nat.shiftLeft_eq,Nat.pow_zero,Nat.mul_one,Nat.div_one,Nat.mod_one]
   simp
  obtain⟨a,F⟩:∃a:Nat,e+a=-1074+(E r:Int):=⟨(-1074+(E r:Int)-e).toNat,by omega⟩
  have af:(e-(-1074+(E r:Int))).toNat=0:=xaa;have a0:(-1074+(E r:Int)-e).toNat=a:=xaa;rw[af,a0,Nat.pow_zero,Nat.mul_one]
  have au:f=M r*2 ^ a:=by
   have ap:x+a=E r+y:=xaa;have U:f*2 ^ x*2 ^ a=val r*2 ^ y*2 ^ a:=by rw[aM]
   rw[Nat.mul_assoc,<-Nat.pow_add,ap,show val r=M r*2 ^ E r from rfl,Nat.mul_assoc (M r),<-Nat.pow_add,Nat.mul_assoc,Nat.mul_comm (2 ^ (E r+y)),<-Nat.mul_assoc]at U;exact Nat.eq_of_mul_eq_mul_right (Nat.two_pow_pos _) U
  rw[au];unfold Toward.cut;have g:min a ((M r*2 ^ a).log2+2)=a:=by rw[nh C];omega
  simp only[g,Nat.shiftLeft_eq,Nat.one_mul,Nat.mul_div_cancel _ (Nat.two_pow_pos a),Nat.mul_mod_left];have z:=Nat.two_pow_pos a;simp only[Nat.mul_zero,Nat.not_lt_zero,decide_false,Bool.false_or];have:(2 ^ a==0)=false:=by simp
  rw[this];simp
 rw[O];have e4:(-1074+(E r:Int)- -1074).toNat=E r:=xaa;rw[e4,vK,oN,Nat.min_eq_left xaa]
theorem Bm(s)(h:r<9223372036854775808):Op.negFloat .f64 (W s r)=W (!s) r:=by
 unfold Op.negFloat;have e:FloatKind.f64.format.exponentBits+FloatKind.f64.format.fractionBits=63:=rfl;rw[e];have hb:r<2 ^ 63:=by simpa using h
 cases s
 ·unfold W;simp only[Bool.false_eq_true,if_false,Bool.not_false,if_true];rw[Nat.xor_comm,show 9223372036854775808=2 ^ 63 by decide];have:=Nat.two_pow_add_eq_or_of_lt hb 1;apply Nat.eq_of_testBit_eq;intro i;rw[Nat.testBit_xor,Nat.testBit_two_pow];rcases Nat.lt_trichotomy i 63 with hi|hi|hi
  ·exact xiw
  ·subst hi;rw[Nat.testBit_two_pow_add_eq];simp
  exact xew
 unfold W;simp only[if_true,Bool.not_true,Bool.false_eq_true,if_false];rw[show 9223372036854775808=2 ^ 63 by decide];apply Nat.eq_of_testBit_eq;intro i;rw[Nat.testBit_xor,Nat.testBit_two_pow];rcases Nat.lt_trichotomy i 63 with hi|hi|hi
 ·exact xiw
 ·subst hi;rw[Nat.testBit_two_pow_add_eq];have a:=Nat.testBit_lt_two_pow hb;simp[a]
 exact xew
theorem Ck(av:r<9218868437227405312)(ao:q<9218868437227405312)(aF:p<9218868437227405312)
  (h:val r*val q=val p*p2 1074):double.mul (W s r) (W t q)=some (W (s ^^ t) p):=by
 unfold Format.mul;rw[i9 av,i9 ao];simp only[Datum.product,Option.map_some,Format.write,Option.some.injEq];refine ll _ _ _ p (E r+E q) 1074 aF ?_ xaa;rw[<-h,lY,qS,qS];ac_rfl
theorem uv(av:r<9218868437227405312)(ao:q<9218868437227405312)(aF:p<9218868437227405312)
  (C:M q=p2 52) (h:val r*p2 1074=val p*(p2 52*p2 (E q))):double.div (W s r) (W t q)=some (W (s ^^ t) p):=by
 unfold Format.div;rw[i9 av,i9 ao];have hn:¬(2 ^ 52=0):=xab;rw[show p2 _=2 ^ 52 from rfl]at C;simp only[Datum.quotient,C,hG hn,Option.map_some,Format.write,Option.some.injEq,vJ,Nat.log2_two_pow,Nat.shiftLeft_eq]
 have ah:(M r).log2<=52:=by
  rcases Nat.eq_zero_or_pos r with ai|ai
  ·subst ai;rw[LQ];decide
  rcases Nat.lt_or_ge r 4503599627370496 with B|B
  ·have:=pZ ai B;omega
  have:=sB B;omega
 obtain⟨k,O⟩:∃k,52+2+52-(M r).log2=52+(k+1):=⟨53-(M r).log2,by omega⟩
 rw[O,Nat.pow_add,Nat.mul_left_comm,Nat.mul_div_cancel_left _ (by decide:0<2 ^ 52),Nat.mul_mod_right];simp only[bne_self_eq_false,Bool.toNat_false,Nat.add_zero];refine ll _ _ _ p (E r+1074) (52+E q+(k+2)) aF ?_ xaa;rw[show 2*(M r*2 ^ (k+1))=M r*2 ^ (k+2) by rw[Nat.pow_succ 2 (k+1)];ac_rfl];rw[lY _ (k+2),lY 52 _,<-Nat.mul_assoc _,<-h,lY _ _];rw[qS,Bk _];generalize p2 1074=z;ac_rfl
theorem Cm(s n):(sg s n).natAbs=n:=by unfold sg;cases s<;>simp
theorem OB(s){n}(h:0<n):decide (sg s n<0)=s:=by
 unfold sg;cases s
 ·simp
 simp;omega
theorem Co(aF:p<9218868437227405312)
  (h:sg s (val r)+sg t (val q)=sg u (val p)) (aI:p=0->u=(s&&t)):
  (Datum.sum (.number s (M r) (-1074+(E r:Nat))) (.number t (M q) (-1074+(E q:Nat)))).map double.write=some (W u p):=by
 simp only[Datum.sum,Option.map_some,Format.write,Option.some.injEq];obtain⟨b,hb⟩:∃b:Nat,min (-1074+(E r:Int)) (-1074+(E q:Int))=-1074+b:=⟨min (E r) (E q),by omega⟩
 rw[hb];have a8:b<=E r:=xaa;have g:b<=E q:=xaa;have a0:(-1074+(E r:Int)-(-1074+b)).toNat=E r-b:=xaa;have aj:(-1074+(E q:Int)-(-1074+b)).toNat=E q-b:=xaa;rw[a0,aj,oP,oP];generalize bh:sg s _+sg t _=T
 have e:T*(2 ^ b:Nat)=sg u (val p):=by
  rw[<-h,<-bh,Int.add_mul,<-qU,<-qU,Nat.mul_assoc,Nat.mul_assoc,Nat.pow_sub_mul_pow 2 a8,Nat.pow_sub_mul_pow 2 g];rfl
 have en:(0:Int)<(2 ^ b:Nat):=hO (Nat.two_pow_pos b)
 have hn:T.natAbs*2 ^ b=val p:=by
  have:=congrArg Int.natAbs e;rw[Int.natAbs_mul,Cm,Int.natAbs_natCast]at this;exact this
 have ae:(if T=0 then (s&&t)else decide (T<0))=u:=by
  rcases Nat.eq_zero_or_pos p with ai|ai
  ·have:T=0:=by
    subst ai;rw[kK]at hn;have:=Nat.mul_eq_zero.1 hn;have p2:=Nat.two_pow_pos b;omega
   rw[hI this,aI ai]
  have aM:=vL ai;have f:T≠0:=by intro c;rw[c]at hn;simp at hn;omega
  rw[hG f,<-OB u aM,<-e];congr 1;rw[eq_iff_iff];constructor
  ·intro c;exact Int.mul_neg_of_neg_of_pos c en
  intro c;rcases Int.lt_or_le T 0 with d|d
  ·exact d
  have:=Int.mul_nonneg d (Int.le_of_lt en);omega
 rw[ae];exact ll u _ _ p b 0 aF (by rw[<-Bk,hn,show p2 0=1 from rfl,Nat.mul_one]) xaa
theorem Cp(av:r<9218868437227405312)(ao:q<9218868437227405312)(aF:p<9218868437227405312)
  (h:sg s (val r)+sg t (val q)=sg u (val p)) (aI:p=0->u=(s&&t)):double.add (W s r) (W t q)=some (W u p):=by
 unfold Format.add;rw[i9 av,i9 ao];exact Co aF h aI
def dbl(r:Nat):Nat:=if r<4503599627370496 then 2*r else r+4503599627370496
theorem vM(r):val (dbl r)=2*val r:=by
 unfold dbl;split
 ·rename_i h;rw[oO xaa,oO xaa]
 rename_i h;unfold val;have af:M (r+4503599627370496)=M r:=by unfold M;rw[hG xaa,hG h];omega
 have a0:E (r+4503599627370496)=E r+1:=by unfold E;omega
 rw[af,a0,Nat.pow_succ];ac_rfl
theorem Ew(h:9007199254740992<=r):val r=2*val (r-4503599627370496):=by
 rw[<-vM];unfold dbl;rw[hG xaa];congr 1;omega
theorem Lj:M 4611686018427387904=p2 52:=xab
theorem Ll:E 4611686018427387904=1023:=xab
theorem Ix:val 4611686018427387904=p2 1075:=by rw[qS,Lj,Ll,<-lY]
theorem OC:M 4841369599423283200=p2 52:=xab
theorem OD:E 4841369599423283200=1074:=xab
theorem Iy(h:dbl r<9218868437227405312):double.mul (W s r) (W false 4611686018427387904)=some (W s (dbl r)):=by
 have av:r<9218868437227405312:=by unfold dbl at h;split at h<;>omega
 have:=Ck (s:=s) (t:=false) av (by omega:4611686018427387904<9218868437227405312) h (by rw[vM,Ix,vH _];generalize p2 _=z;ac_rfl);rw[this,Bool.xor_false]
theorem Bn(av:r<9218868437227405312)(h:val r=2*val p):double.div (W s r) (W false 4611686018427387904)=some (W s p):=by
 have aF:p<9218868437227405312:=by
  refine Nat.lt_of_le_of_lt ?_ av;rcases Nat.lt_or_ge r p with c|c
  ·have:=qT c;omega
  exact c
 have:=uv (s:=s) (t:=false) av (by omega:4611686018427387904<9218868437227405312) aF Lj (by rw[h,Ll,<-lY,show 52+1023=1074+1 by rfl,vH 1074];generalize p2 _=z;ac_rfl);rw[this,Bool.xor_false]
theorem rep(t)(ht:t<9007199254740992):∀k,∃r,val r=t*2 ^ k
 |0=>⟨t,by rw[oO ht,Nat.pow_zero,Nat.mul_one]⟩
 |k+1=>by
  obtain⟨r,av⟩:=rep t ht k
  exact⟨_,by rw[vM,av,Nat.pow_succ];ac_rfl⟩
theorem Iz:val 9218868437227405312=p2 2098:=by
 rw[qS,show M _=p2 52 by decide,show E _=2046 by decide,<-lY]
theorem zW(h:val r<p2 2098):r<9218868437227405312:=by
 rw[<-Iz]at h;exact val_lt_iff.1 h
theorem vN(h:r<=9218868437227405312):double.order (W s r) (W s r)=some .eq:=by
 rcases Nat.lt_or_eq_of_le h with h|h
 ·rw[qV h h,Int.compare_eq_eq.2 rfl]
 subst h;cases s<;>decide
theorem Ey(h:9218868437227405312<r)(av:r<9223372036854775808):∃z t,double.read (W s r)=.nan z t:=⟨_,_,pY h av⟩
theorem vO(h:9218868437227405312<r)(av:r<9223372036854775808):double.order (W s r) (W s r)=none:=
 lZ (Ey h av)
theorem xU(s)(h:0<r):compare (sg s (val r)) (sg false (val 0))=if s then .lt else .gt:=by
 have:=vL h;unfold sg;cases s
 ·simp only[Bool.false_eq_true,if_false];exact Int.compare_eq_gt.2 (by rw[kK];omega)
 simp only[if_true,Bool.false_eq_true,if_false];exact Int.compare_eq_lt.2 (by rw[kK];omega)
theorem mR(ai:0<r)(h:r<=9218868437227405312):double.order (W s r) 0=some (if s then .lt else .gt):=by
 rcases Nat.lt_or_eq_of_le h with h|h
 ·have:=qV (s:=s) (t:=false) h (by omega:0<9218868437227405312);rw[xU s ai]at this;exact this
 subst h;cases s<;>decide
theorem jX:double.order (W s 0) 0=some .eq:=by cases s<;>decide
theorem mO:double.div 4607182418800017408 (W s 0)=some (W s 9218868437227405312):=by cases s<;>decide
theorem LS(h:sg s a=sg t b):a=b/\(s=t\/a=0):=by
 unfold sg at h;cases s<;>cases t<;>simp only[if_true,Bool.false_eq_true,if_false]at h
 ·exact⟨by omega,.inl rfl⟩
 ·exact⟨by omega,.inr xaa⟩
 ·exact⟨by omega,.inr xaa⟩
 exact⟨by omega,.inl rfl⟩
theorem sC(av:r<=9218868437227405312)(ao:q<=9218868437227405312):
  (double.order (W s r) (W t q)==some .eq)=decide (r=q/\(s=t\/r=0)):=by
 rcases Nat.lt_or_eq_of_le av with B|B
 ·rcases Nat.lt_or_eq_of_le ao with U|U
  ·rw[qV B U,Bool.eq_iff_iff];simp only[beq_iff_eq,Option.some.injEq,decide_eq_true_eq,Int.compare_eq_eq];constructor
   ·intro h;obtain⟨a,b⟩:=LS h;have:=r7 a;refine⟨this,?_⟩;rcases b with b|b
    ·exact .inl b
    exact .inr (r7 (by rw[b,kK]))
   rintro⟨rfl,h|h⟩
   ·rw[h]
   subst h;rw[kK];cases s<;>cases t<;>rfl
  subst U;rw[Format.order,i9 B,nU];have:¬(r=9218868437227405312/\(s=t\/r=0)):=xaa;rw[yax this];cases t<;>rfl
 subst B;rcases Nat.lt_or_eq_of_le ao with U|U
 ·rw[Format.order,i9 U,nU];have:¬(9218868437227405312=q/\(s=t\/9218868437227405312=0)):=xaa;rw[yax this];cases s<;>rfl
 subst U;rw[Format.order,nU,nU];cases s<;>cases t<;>decide
