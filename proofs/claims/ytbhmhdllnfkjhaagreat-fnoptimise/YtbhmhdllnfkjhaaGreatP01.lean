import Derived.Test.YtbhmhdllnfkjhaaGreatP00
import Derived.Test.YtbhmhdllnfkjhaaGreatRows
namespace Go.Proofs.Z
open Tryz
set_option maxRecDepth 1000000
set_option maxHeartbeats 0
section
open Go.ChangeShapes Go.WideShapes Go.ChangeAt Go.RowKit
theorem own:ownKnob prog.godebug=none:=by kernel_rfl
theorem eG(w:World)(n o):(w.drewN n).alloc o=(w.alloc o).drewN n:=rfl
theorem eE(w:World)(n a v):(w.drewN n).setCell a v=(w.setCell a v).drewN n:=rfl
end
section
variable{s t u:Bool}{x r a y b q p:Nat}
namespace Flt
open Ieee
def W(s:Bool)(r:Nat):Nat:=if s then 9223372036854775808+r else r
def M(r:Nat):Nat:=if r<4503599627370496 then r else 4503599627370496+r%4503599627370496
def E(r:Nat):Nat:=r/4503599627370496-1
def val(r:Nat):Nat:=M r*2 ^ E r
def p2(n:Nat):Nat:=2 ^ n
theorem BH(n):2 ^ n=p2 n:=rfl
theorem ri(a b):p2 (a+b)=p2 a*p2 b:=Nat.pow_add 2 a b
theorem sX(r):val r=M r*p2 (E r):=rfl
def sg(s:Bool)(n:Nat):Int:=if s then -(n:Int)else (n:Int)
theorem oZ:double.binade=4503599627370496:=xab
theorem wo:double.signWeight=9223372036854775808:=xab
theorem sY:double.infRung=9218868437227405312:=xab
theorem qr:double.leastPlace=-1074:=xab
theorem wu:double.fractionBits=52:=rfl
theorem pd(s r):double.word s r=W s r:=by
 unfold Format.word W;rw[wo]
theorem jl(x)(ak:x<18446744073709551616):∃s r,r<9223372036854775808/\x=W s r:=by
 by_cases h:x<9223372036854775808
 ·exact⟨false,x,h,rfl⟩
 refine⟨true,x-9223372036854775808,by omega,?_⟩;unfold W;simp only[if_true];omega
theorem Je(h:r<9223372036854775808):W s r<18446744073709551616:=by
 unfold W;split<;>omega
theorem LQ(h:r<9223372036854775808):W s r%9223372036854775808=r:=by
 unfold W;split<;>omega
theorem LR(h:r<9223372036854775808):(W s r/9223372036854775808%2==1)=s:=by
 unfold W;cases s
 ·have:r/9223372036854775808=0:=xaa;simp[this]
 have:(9223372036854775808+r)/9223372036854775808=1:=xaa;simp[this]
theorem OL(av:r<9223372036854775808)(am:q<9223372036854775808)(h:W s r=W t q):s=t/\r=q:=by
 unfold W at h;cases s<;>cases t<;>simp only[if_true,Bool.false_eq_true,if_false]at h
 ·exact⟨rfl,h⟩
 ·omega
 ·omega
 exact⟨rfl,by omega⟩
theorem gW(h:r<9218868437227405312):double.read (W s r)=.number s (M r) (-1074+(E r:Nat)):=by
 have av:r<9223372036854775808:=xaa;unfold Format.read;simp only[wo,sY,oZ,qr,LQ av,LR av];unfold M E;by_cases B:r<4503599627370496
 ·rw[hG B,hG B];have:r/4503599627370496=0:=xaa;rw[this];rfl
 rw[hF B,hG h,hF B]
theorem kI:double.read (W s 9218868437227405312)=.infinity s:=by
 cases s<;>decide
theorem od(h:9218868437227405312<r)(av:r<9223372036854775808):double.read (W s r)=.nan s (r-9218868437227405312):=by
 unfold Format.read;simp only[wo,sY,oZ,qr,LQ av,LR av];rw[hF xaa,hF xaa,hF xaa]
theorem OM(h:4503599627370496<=r):4503599627370496<=M r:=by
 unfold M;rw[hF xaa];omega
theorem ON(r):M r<9007199254740992:=by
 unfold M;split<;>omega
theorem LS(h:0<r):0<M r:=by
 unfold M;split<;>omega
theorem Ms:M 0=0:=rfl
theorem BI(h:r<9007199254740992):E r=0:=by
 unfold E;omega
theorem rj(h:r<9007199254740992):val r=r:=by
 unfold val;rw[BI h,Nat.pow_zero,Nat.mul_one];unfold M;split<;>omega
theorem wv(r):E r*4503599627370496+M r=r:=by
 unfold E M;split<;>omega
theorem og(h:a<=b):2 ^ a<=2 ^ b:=Nat.pow_le_pow_right xaa h
theorem Av(h:r<q):val r<val q:=by
 by_cases Z:E r=E q
 ·unfold val;rw[Z];have B:=wv r;have J:=wv q;rw[Z]at B;exact Nat.mul_lt_mul_of_pos_right xaa (Nat.two_pow_pos _)
 have ar:E r<E q:=by
  have:E r<=E q:=by unfold E;omega
  omega
 have am:4503599627370496<=q:=by unfold E at ar;omega
 have a:=OM am;have b:=ON r;have c:2 ^ (E r+1)<=2 ^ E q:=og ar;have p:0<2 ^ E r:=Nat.two_pow_pos _;unfold val
 calc M r*2 ^ E r<9007199254740992*2 ^ E r:=Nat.mul_lt_mul_of_pos_right b p
  _=4503599627370496*2 ^ (E r+1):=hR Nat.pow_succ
  _<=4503599627370496*2 ^ E q:=Nat.mul_le_mul_left _ c
  _<=M q*2 ^ E q:=Nat.mul_le_mul_right _ a
theorem BJ(h:val r=val q):r=q:=by
 rcases Nat.lt_trichotomy r q with B|B|B
 ·have:=Av B;omega
 ·exact B
 have:=Av B;omega
theorem kJ:val 0=0:=rfl
theorem ww(h:0<r):0<val r:=by have:=Av h;rw[kJ]at this;exact this
theorem pe(s m k):signed s m k=sg s (m*2 ^ k):=by
 unfold signed sg;rw[Nat.shiftLeft_eq]
theorem rl(s a b):sg s (a*b)=sg s a*(b:Int):=by
 unfold sg;cases s
 ·simp
 simp[Int.neg_mul]
theorem pN(x y)(k:Nat)(N:0<k):compare (x*(k:Int)) (y*(k:Int))=compare x y:=by
 have av:(0:Int)<k:=xaa;rcases Int.lt_trichotomy x y with h|h|h
 ·rw[Int.compare_eq_lt.2 h];exact Int.compare_eq_lt.2 (Int.mul_lt_mul_of_pos_right h av)
 ·subst h;rw[Int.compare_eq_eq.2 rfl,Int.compare_eq_eq.2 rfl]
 rw[Int.compare_eq_gt.2 h];exact Int.compare_eq_gt.2 (Int.mul_lt_mul_of_pos_right h av)
theorem rm(av:r<9218868437227405312)(am:q<9218868437227405312):
  double.order (W s r) (W t q)=some (compare (sg s (val r)) (sg t (val q))):=by
 unfold Format.order;rw[gW av,gW am];simp only[Datum.order,Option.some.injEq];rw[pe,pe];rcases Nat.le_total (E r) (E q) with h|h
 ·have e1:min (-1074+(E r:Int)) (-1074+(E q:Int))=-1074+(E r:Int):=xaa;rw[e1];have e2:(-1074+(E r:Int)-(-1074+(E r:Int))).toNat=0:=xaa;have af:(-1074+(E q:Int)-(-1074+(E r:Int))).toNat=E q-E r:=xaa;rw[e2,af,<-pN _ _ (2 ^ E r) (Nat.two_pow_pos _),<-rl,<-rl];exact xiq
 have e1:min (-1074+(E r:Int)) (-1074+(E q:Int))=-1074+(E q:Int):=xaa;rw[e1];have e2:(-1074+(E q:Int)-(-1074+(E q:Int))).toNat=0:=xaa;have af:(-1074+(E r:Int)-(-1074+(E q:Int))).toNat=E r-E q:=xaa;rw[e2,af,<-pN _ _ (2 ^ E q) (Nat.two_pow_pos _),<-rl,<-rl];exact xiq
theorem mf(h:∃s t,double.read x=.nan s t):double.order x y=none:=by
 obtain⟨s,t,h⟩:=h;unfold Format.order;rw[h];rfl
theorem nQ(h:∃s t,double.read y=.nan s t):double.order x y=none:=by
 obtain⟨s,t,h⟩:=h;unfold Format.order;rw[h];cases double.read x<;>rfl
theorem nf{m k}(aq:0<m):(m*2 ^ k).log2=m.log2+k:=by
 have ae:m*2 ^ k≠0:=Nat.ne_of_gt (Nat.mul_pos aq (Nat.two_pow_pos _));rw[Nat.log2_eq_iff ae];have a:=Nat.log2_self_le (n:=m) xaa;have b:=@Nat.lt_log2_self m;refine⟨?_,?_⟩
 ·rw[Nat.pow_add];exact Nat.mul_le_mul_right _ a
 rw[show m.log2+k+1=(m.log2+1)+k by omega,Nat.pow_add];exact Nat.mul_lt_mul_of_pos_right b (Nat.two_pow_pos _)
theorem sZ(h:4503599627370496<=r):(M r).log2=52:=by
 have a:=OM h;have b:=ON r;rw[Nat.log2_eq_iff xaa];exact⟨by simpa using a,by simpa using b⟩
theorem qt(ae:0<r)(h:r<4503599627370496):(M r).log2<=51:=by
 have e:M r=r:=by unfold M;rw[hG h]
 rw[e];have:r.log2<52:=(Nat.log2_lt xaa).2 (by simpa using h);omega
theorem mQ(s f c r x y)(av:r<9218868437227405312)
  (aD:f*p2 x=val r*p2 y) (aK:(x:Int)-y=c+1074):double.nearest s f c=W s r:=by
 rw[<-BH,<-BH]at aD;by_cases aq:f=0
 ·subst aq;have g:val r*2 ^ y=0:=by rw[<-aD];simp
  have ae:r=0:=by
   rcases Nat.eq_zero_or_pos r with h|h
   ·exact h
   have:=Nat.mul_pos (ww h) (Nat.two_pow_pos y);omega
  subst ae;unfold Format.nearest;rw[hG rfl,pd]
 have bv:0<f:=xaa
 have cD:0<r:=by
  rcases Nat.eq_zero_or_pos r with h|h
  ·subst h;rw[kJ,Nat.zero_mul]at aD;have:=Nat.mul_pos bv (Nat.two_pow_pos x);omega
  exact h
 have C:=LS cD
 have ab:f.log2+x=(M r).log2+E r+y:=by
  have:=congrArg Nat.log2 aD;rw[nf bv,show val r=M r*2 ^ E r from rfl,Nat.mul_assoc,<-Nat.pow_add,nf C]at this;omega
 unfold Format.nearest;rw[hF aq];simp only[qr,wu,oZ,sY]
 have j:max (c+f.log2-(52:Nat)) (-1074)=-1074+(E r:Int):=by
  rcases Nat.lt_or_ge r 4503599627370496 with h|h
  ·have:=qt cD h;have bc:E r=0:=BI xaa;rw[bc]at ab⊢;omega
  have:=sZ h;omega
 rw[j]
 have N:Toward.even.cut s (f<<<(c-(-1074+(E r:Int))).toNat) (-1074+(E r:Int)-c).toNat=M r:=by
  rw[Nat.shiftLeft_eq];rcases Int.le_total (-1074+(E r:Int)) c with h|h
  ·
   obtain⟨a,F⟩:∃a:Nat,c=-1074+(E r:Int)+a:=⟨(c-(-1074+(E r:Int))).toNat,by omega⟩
   have e1:(c-(-1074+(E r:Int))).toNat=a:=xaa
   have e2:(-1074+(E r:Int)-c).toNat=0:=xaa
   rw[e1,e2]
   have au:f*2 ^ a=M r:=by
    have ak:x=E r+y+a:=xaa
    rw[ak,show val r=M r*2 ^ E r from rfl,Nat.mul_assoc,<-Nat.pow_add,Nat.add_comm _ a,Nat.pow_add,<-Nat.mul_assoc]at aD
    exact Nat.eq_of_mul_eq_mul_right (Nat.two_pow_pos _) aD
   rw[au]
   unfold Toward.cut
   simp only[Nat.zero_min,Nat.shiftLeft_eq,Nat.pow_zero,Nat.mul_one,Nat.div_one,Nat.mod_one]
   simp
  obtain⟨a,F⟩:∃a:Nat,c+a=-1074+(E r:Int):=⟨(-1074+(E r:Int)-c).toNat,by omega⟩
  have e1:(c-(-1074+(E r:Int))).toNat=0:=xaa;have e2:(-1074+(E r:Int)-c).toNat=a:=xaa;rw[e1,e2,Nat.pow_zero,Nat.mul_one]
  have au:f=M r*2 ^ a:=by
   have ak:x+a=E r+y:=xaa;have J:f*2 ^ x*2 ^ a=val r*2 ^ y*2 ^ a:=by rw[aD]
   rw[Nat.mul_assoc,<-Nat.pow_add,ak,show val r=M r*2 ^ E r from rfl,Nat.mul_assoc (M r),<-Nat.pow_add,Nat.mul_assoc,Nat.mul_comm (2 ^ (E r+y)),<-Nat.mul_assoc]at J;exact Nat.eq_of_mul_eq_mul_right (Nat.two_pow_pos _) J
  rw[au];unfold Toward.cut;have e:min a ((M r*2 ^ a).log2+2)=a:=by rw[nf C];omega
  simp only[e,Nat.shiftLeft_eq,Nat.one_mul,Nat.mul_div_cancel _ (Nat.two_pow_pos a),Nat.mul_mod_left];have O:=Nat.two_pow_pos a;simp only[Nat.mul_zero,Nat.not_lt_zero,decide_false,Bool.false_or];have:(2 ^ a==0)=false:=by simp
  rw[this];simp
 rw[N];have e4:(-1074+(E r:Int)- -1074).toNat=E r:=xaa;rw[e4,wv,pd,Nat.min_eq_left xaa]
theorem CL:double.read (W false 0)=.number false 0 (-1074):=gW xaa
theorem ym(s)(h:r<9223372036854775808):Op.negFloat .f64 (W s r)=W (!s) r:=by
 unfold Op.negFloat;have e:FloatKind.f64.format.exponentBits+FloatKind.f64.format.fractionBits=63:=rfl;rw[e];have hb:r<2 ^ 63:=by simpa using h
 cases s
 ·unfold W;simp only[Bool.false_eq_true,if_false,Bool.not_false,if_true];rw[Nat.xor_comm,show 9223372036854775808=2 ^ 63 by decide];have:=Nat.two_pow_add_eq_or_of_lt hb 1;apply Nat.eq_of_testBit_eq;intro i;rw[Nat.testBit_xor,Nat.testBit_two_pow];rcases Nat.lt_trichotomy i 63 with hi|hi|hi
  ·exact xhs
  ·subst hi;rw[Nat.testBit_two_pow_add_eq];simp
  exact xdq
 unfold W;simp only[if_true,Bool.not_true,Bool.false_eq_true,if_false];rw[show 9223372036854775808=2 ^ 63 by decide];apply Nat.eq_of_testBit_eq;intro i;rw[Nat.testBit_xor,Nat.testBit_two_pow];rcases Nat.lt_trichotomy i 63 with hi|hi|hi
 ·exact xhs
 ·subst hi;rw[Nat.testBit_two_pow_add_eq];have a:=Nat.testBit_lt_two_pow hb;simp[a]
 exact xdq
theorem CN(av:r<9218868437227405312)(am:q<9218868437227405312)(aK:p<9218868437227405312)
  (h:val r*val q=val p*p2 1074):double.mul (W s r) (W t q)=some (W (s ^^ t) p):=by
 unfold Format.mul;rw[gW av,gW am];simp only[Datum.product,Option.map_some,Format.write,Option.some.injEq];refine mQ _ _ _ p (E r+E q) 1074 aK ?_ xaa;rw[<-h,ri,sX,sX];ac_rfl
theorem CO(av:r<9218868437227405312)(am:q<9218868437227405312)(aK:p<9218868437227405312)
  (C:M q=p2 52) (h:val r*p2 1074=val p*(p2 52*p2 (E q))):double.div (W s r) (W t q)=some (W (s ^^ t) p):=by
 unfold Format.div;rw[gW av,gW am];have hn:¬(2 ^ 52=0):=xab;rw[show p2 _=2 ^ 52 from rfl]at C;simp only[Datum.quotient,C,hF hn,Option.map_some,Format.write,Option.some.injEq,wu,Nat.log2_two_pow,Nat.shiftLeft_eq]
 have ab:(M r).log2<=52:=by
  rcases Nat.eq_zero_or_pos r with ae|ae
  ·subst ae;rw[Ms];decide
  rcases Nat.lt_or_ge r 4503599627370496 with B|B
  ·have:=qt ae B;omega
  have:=sZ B;omega
 obtain⟨k,N⟩:∃k,52+2+52-(M r).log2=52+(k+1):=⟨53-(M r).log2,by omega⟩
 rw[N,Nat.pow_add,Nat.mul_left_comm,Nat.mul_div_cancel_left _ (by decide:0<2 ^ 52),Nat.mul_mod_right];simp only[bne_self_eq_false,Bool.toNat_false,Nat.add_zero];refine mQ _ _ _ p (E r+1074) (52+E q+(k+2)) aK ?_ xaa;rw[show 2*(M r*2 ^ (k+1))=M r*2 ^ (k+2) by rw[Nat.pow_succ 2 (k+1)];ac_rfl];rw[ri _ (k+2),ri 52 _,<-Nat.mul_assoc _,<-h,ri _ _];rw[sX,BH _];generalize p2 1074=z;ac_rfl
theorem CP(s n):(sg s n).natAbs=n:=by unfold sg;cases s<;>simp
theorem Mt(s n):sg (!s) n=-(sg s n):=by unfold sg;cases s<;>simp
theorem OO(s){n}(h:0<n):decide (sg s n<0)=s:=by
 unfold sg;cases s
 ·simp
 simp;omega
theorem uW(aK:p<9218868437227405312)
  (h:sg s (val r)+sg t (val q)=sg u (val p)) (aH:p=0->u=(s&&t)):
  (Datum.sum (.number s (M r) (-1074+(E r:Nat))) (.number t (M q) (-1074+(E q:Nat)))).map double.write=some (W u p):=by
 simp only[Datum.sum,Option.map_some,Format.write,Option.some.injEq];obtain⟨b,hb⟩:∃b:Nat,min (-1074+(E r:Int)) (-1074+(E q:Int))=-1074+b:=⟨min (E r) (E q),by omega⟩
 rw[hb];have Y:b<=E r:=xaa;have g:b<=E q:=xaa;have e2:(-1074+(E r:Int)-(-1074+b)).toNat=E r-b:=xaa;have af:(-1074+(E q:Int)-(-1074+b)).toNat=E q-b:=xaa;rw[e2,af,pe,pe];generalize bh:sg s _+sg t _=bl
 have e:bl*(2 ^ b:Nat)=sg u (val p):=by
  rw[<-h,<-bh,Int.add_mul,<-rl,<-rl,Nat.mul_assoc,Nat.mul_assoc,Nat.pow_sub_mul_pow 2 Y,Nat.pow_sub_mul_pow 2 g];rfl
 have el:(0:Int)<(2 ^ b:Nat):=hM (Nat.two_pow_pos b)
 have hn:bl.natAbs*2 ^ b=val p:=by
  have:=congrArg Int.natAbs e;rw[Int.natAbs_mul,CP,Int.natAbs_natCast]at this;exact this
 have ar:(if bl=0 then (s&&t)else decide (bl<0))=u:=by
  rcases Nat.eq_zero_or_pos p with ae|ae
  ·have:bl=0:=by
    subst ae;rw[kJ]at hn;have:=Nat.mul_eq_zero.1 hn;have p2:=Nat.two_pow_pos b;omega
   rw[hG this,aH ae]
  have aD:=ww ae;have f:bl≠0:=by intro c;rw[c]at hn;simp at hn;omega
  rw[hF f,<-OO u aD,<-e];congr 1;rw[eq_iff_iff];constructor
  ·intro c;exact Int.mul_neg_of_neg_of_pos c el
  intro c;rcases Int.lt_or_le bl 0 with d|d
  ·exact d
  have:=Int.mul_nonneg d (Int.le_of_lt el);omega
 rw[ar];exact mQ u _ _ p b 0 aK (by rw[<-BH,hn,show p2 0=1 from rfl,Nat.mul_one]) xaa
theorem CQ(av:r<9218868437227405312)(am:q<9218868437227405312)(aK:p<9218868437227405312)
  (h:sg s (val r)+sg t (val q)=sg u (val p)) (aH:p=0->u=(s&&t)):double.add (W s r) (W t q)=some (W u p):=by
 unfold Format.add;rw[gW av,gW am];exact uW aK h aH
theorem CR(av:r<9218868437227405312)(am:q<9218868437227405312)(aK:p<9218868437227405312)
  (h:sg s (val r)-sg t (val q)=sg u (val p)) (aH:p=0->u=(s&&!t)):double.sub (W s r) (W t q)=some (W u p):=by
 unfold Format.sub;rw[gW av,gW am];exact uW aK (by rw[Mt];omega) aH
def dbl(r:Nat):Nat:=if r<4503599627370496 then 2*r else r+4503599627370496
theorem Jf(r):val (dbl r)=2*val r:=by
 unfold dbl;split
 ·rename_i h;rw[rj xaa,rj xaa]
 rename_i h;unfold val;have e1:M (r+4503599627370496)=M r:=by unfold M;rw[hF xaa,hF h];omega
 have e2:E (r+4503599627370496)=E r+1:=by unfold E;omega
 rw[e1,e2,Nat.pow_succ];ac_rfl
theorem OP:M 4607182418800017408=p2 52:=xab
theorem OQ:E 4607182418800017408=1022:=xab
theorem val_one:val 4607182418800017408=p2 1074:=by rw[sX,OP,OQ,<-ri]
theorem rep(t)(ht:t<9007199254740992):∀k,∃r,val r=t*2 ^ k
 |0=>⟨t,by rw[rj ht,Nat.pow_zero,Nat.mul_one]⟩
 |k+1=>by
  obtain⟨r,av⟩:=rep t ht k
  exact⟨_,by rw[Jf,av,Nat.pow_succ];ac_rfl⟩
theorem wz(h:r<=9218868437227405312):double.order (W s r) (W s r)=some .eq:=by
 rcases Nat.lt_or_eq_of_le h with h|h
 ·rw[rm h h,Int.compare_eq_eq.2 rfl]
 subst h;cases s<;>decide
theorem E6(h:9218868437227405312<r)(av:r<9223372036854775808):∃z t,double.read (W s r)=.nan z t:=⟨_,_,od h av⟩
theorem wC(h:9218868437227405312<r)(av:r<9223372036854775808):double.order (W s r) (W s r)=none:=
 mf (E6 h av)
theorem yn(s)(h:0<r):compare (sg s (val r)) (sg false (val 0))=if s then .lt else .gt:=by
 have:=ww h;unfold sg;cases s
 ·simp only[Bool.false_eq_true,if_false];exact Int.compare_eq_gt.2 (by rw[kJ];omega)
 simp only[if_true,Bool.false_eq_true,if_false];exact Int.compare_eq_lt.2 (by rw[kJ];omega)
theorem oh(ae:0<r)(h:r<=9218868437227405312):double.order (W s r) 0=some (if s then .lt else .gt):=by
 rcases Nat.lt_or_eq_of_le h with h|h
 ·have:=rm (s:=s) (t:=false) h (by omega:0<9218868437227405312);rw[yn s ae]at this;exact this
 subst h;cases s<;>decide
theorem lC:double.order (W s 0) 0=some .eq:=by cases s<;>decide
theorem mR:double.div 4607182418800017408 (W s 0)=some (W s 9218868437227405312):=by cases s<;>decide
theorem Mu(h:sg s a=sg t b):a=b/\(s=t\/a=0):=by
 unfold sg at h;cases s<;>cases t<;>simp only[if_true,Bool.false_eq_true,if_false]at h
 ·exact⟨by omega,.inl rfl⟩
 ·exact⟨by omega,.inr xaa⟩
 ·exact⟨by omega,.inr xaa⟩
 exact⟨by omega,.inl rfl⟩
theorem s7(av:r<=9218868437227405312)(am:q<=9218868437227405312):
  (double.order (W s r) (W t q)==some .eq)=decide (r=q/\(s=t\/r=0)):=by
 rcases Nat.lt_or_eq_of_le av with B|B
 ·rcases Nat.lt_or_eq_of_le am with J|J
  ·rw[rm B J,Bool.eq_iff_iff];simp only[beq_iff_eq,Option.some.injEq,decide_eq_true_eq,Int.compare_eq_eq];constructor
   ·intro h;obtain⟨a,b⟩:=Mu h;have:=BJ a;refine⟨this,?_⟩;rcases b with b|b
    ·exact .inl b
    exact .inr (BJ (by rw[b,kJ]))
   rintro⟨rfl,h|h⟩
   ·rw[h]
   subst h;rw[kJ];cases s<;>cases t<;>rfl
  subst J;rw[Format.order,gW B,kI];have:¬(r=9218868437227405312/\(s=t\/r=0)):=xaa;rw[yay this];cases t<;>rfl
 subst B;rcases Nat.lt_or_eq_of_le am with J|J
 ·rw[Format.order,gW J,kI];have:¬(9218868437227405312=q/\(s=t\/9218868437227405312=0)):=xaa;rw[yay this];cases s<;>rfl
 subst J;rw[Format.order,kI,kI];cases s<;>cases t<;>decide
