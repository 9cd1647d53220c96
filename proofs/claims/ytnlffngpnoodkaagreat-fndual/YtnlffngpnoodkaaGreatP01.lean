import Derived.Laws.FloatArith
namespace Go.Proofs.YtnlffngpnoodkaaGreat
set_option maxRecDepth 1000000
set_option maxHeartbeats 0
variable {s t u:Bool} {x r y q p:Nat}
namespace Flt
open Ieee
def W (s:Bool)(r:Nat):Nat:=if s then 9223372036854775808+r else r
def M (r:Nat):Nat:=if r<4503599627370496 then r else 4503599627370496+r%4503599627370496
def E (r:Nat):Nat:=r/4503599627370496-1
def val (r:Nat):Nat:=M r*2 ^ E r
def p2 (n:Nat):Nat:=2 ^ n
theorem rm (n:Nat):2 ^ n=p2 n:=rfl
theorem kg (a b:Nat):p2 (a+b)=p2 a*p2 b:=Nat.pow_add 2 a b
theorem mH (a:Nat):0<p2 a:=Nat.two_pow_pos a
theorem rU (a:Nat):p2 (a+1)=2*p2 a:=by unfold p2;rw[Nat.pow_succ,Nat.mul_comm]
theorem mg (r:Nat):val r=M r*p2 (E r):=rfl
def sg (s:Bool)(n:Nat):Int:=if s then -(n:Int) else (n:Int)
theorem nD:double.binade=4503599627370496:=by decide
theorem rV:double.signWeight=9223372036854775808:=by decide
theorem rW:double.infRung=9218868437227405312:=by decide
theorem on:double.leastPlace=-1074:=by decide
theorem rX:double.fractionBits=52:=rfl
theorem rY (s:Bool)(r:Nat):double.word s r=W s r:=by
 unfold Format.word W
 rw[rV]
theorem mI (x:Nat)(hx:x<18446744073709551616):∃s r,r<9223372036854775808/\x=W s r:=by
 by_cases h:x<9223372036854775808
 ·exact⟨false,x,h,rfl⟩
 ·refine⟨true,x-9223372036854775808,by omega,?_⟩
  unfold W
  simp only[if_true]
  omega
theorem wn (h:r<9223372036854775808):W s r<18446744073709551616:=by
 unfold W;split<;>omega
theorem BW (h:r<9223372036854775808):W s r%9223372036854775808=r:=by
 unfold W;split<;>omega
theorem BX (h:r<9223372036854775808):(W s r/9223372036854775808%2==1)=s:=by
 unfold W
 cases s
 ·have:r/9223372036854775808=0:=by omega
  simp[this]
 ·have:(9223372036854775808+r)/9223372036854775808=1:=by omega
  simp[this]
theorem jH (h:r<9218868437227405312):double.read (W s r)=.number s (M r) (-1074+(E r:Nat)):=by
 have hr:r<9223372036854775808:=by omega
 unfold Format.read
 simp only[rV,rW,nD,on,BW hr,BX hr]
 unfold M E
 by_cases h1:r<4503599627370496
 ·rw[if_pos h1,if_pos h1]
  have:r/4503599627370496=0:=by omega
  rw[this];rfl
 ·rw[if_neg h1,if_pos h,if_neg h1]
theorem xz:double.read (W s 9218868437227405312)=.infinity s:=by
 cases s<;>decide
theorem oq (h:9218868437227405312<r)(hr:r<9223372036854775808):double.read (W s r)=.nan s (r-9218868437227405312):=by
 unfold Format.read
 simp only[rV,rW,nD,on,BW hr,BX hr]
 rw[if_neg (by omega),if_neg (by omega),if_neg (by omega)]
theorem EA (h:4503599627370496<=r):4503599627370496<=M r:=by
 unfold M;rw[if_neg (by omega)];omega
theorem EB (r:Nat):M r<9007199254740992:=by
 unfold M;split<;>omega
theorem EC (h:0<r):0<M r:=by
 unfold M;split<;>omega
theorem Ch:M 0=0:=rfl
theorem vB (h:r<9007199254740992):E r=0:=by
 unfold E;omega
theorem nE (h:r<9007199254740992):val r=r:=by
 unfold val
 rw[vB h,Nat.pow_zero,Nat.mul_one]
 unfold M;split<;>omega
theorem rZ (r:Nat):E r*4503599627370496+M r=r:=by
 unfold E M;split<;>omega
theorem lN {a b:Nat}(h:a<=b):2 ^ a<=2 ^ b:=Nat.pow_le_pow_right (by omega) h
theorem oU (h:r<q):val r<val q:=by
 by_cases he:E r=E q
 ·unfold val
  rw[he]
  have h1:=rZ r
  have h2:=rZ q
  rw[he] at h1
  exact Nat.mul_lt_mul_of_pos_right (by omega) (Nat.two_pow_pos _)
 ·have hE:E r<E q:=by
   have:E r<=E q:=by unfold E;omega
   omega
  have hq:4503599627370496<=q:=by unfold E at hE;omega
  have a:=EA hq
  have b:=EB r
  have c:2 ^ (E r+1)<=2 ^ E q:=lN hE
  have p:0<2 ^ E r:=Nat.two_pow_pos _
  unfold val
  calc M r*2 ^ E r<9007199254740992*2 ^ E r:=Nat.mul_lt_mul_of_pos_right b p
   _=4503599627370496*2 ^ (E r+1):=by rw[Nat.pow_succ];omega
   _<=4503599627370496*2 ^ E q:=Nat.mul_le_mul_left _ c
   _<=M q*2 ^ E q:=Nat.mul_le_mul_right _ a
theorem xA (h:r<=q):val r<=val q:=by
 rcases Nat.lt_or_eq_of_le h with h|h
 ·exact Nat.le_of_lt (oU h)
 ·rw[h];exact Nat.le_refl _
theorem val_lt_iff:val r<val q↔r<q:=
 ⟨λh=>by rcases Nat.lt_or_ge r q with h1|h1;exact h1;have:=xA h1;omega,oU⟩
theorem vC (h:val r=val q):r=q:=by
 rcases Nat.lt_trichotomy r q with h1|h1|h1
 ·have:=oU h1;omega
 ·exact h1
 ·have:=oU h1;omega
theorem kQ:val 0=0:=rfl
theorem r7 (h:0<r):0<val r:=by have:=oU h;rw[kQ] at this;exact this
theorem mr (s:Bool)(m k:Nat):signed s m k=sg s (m*2 ^ k):=by
 unfold signed sg
 rw[Nat.shiftLeft_eq]
theorem kR (s:Bool)(a b:Nat):sg s (a*b)=sg s a*(b:Int):=by
 unfold sg;cases s
 ·simp
 ·simp[Int.neg_mul]
theorem mh (x y:Int)(k:Nat)(hk:0<k):compare (x*(k:Int)) (y*(k:Int))=compare x y:=by
 have hk':(0:Int)<k:=by omega
 rcases Int.lt_trichotomy x y with h|h|h
 ·rw[Int.compare_eq_lt.2 h]
  exact Int.compare_eq_lt.2 (Int.mul_lt_mul_of_pos_right h hk')
 ·subst h
  rw[Int.compare_eq_eq.2 rfl,Int.compare_eq_eq.2 rfl]
 ·rw[Int.compare_eq_gt.2 h]
  exact Int.compare_eq_gt.2 (Int.mul_lt_mul_of_pos_right h hk')
theorem nF (hr:r<9218868437227405312)(hq:q<9218868437227405312):
  double.order (W s r) (W t q)=some (compare (sg s (val r)) (sg t (val q))):=by
 unfold Format.order
 rw[jH hr,jH hq]
 simp only[Datum.order,Option.some.injEq]
 rw[mr,mr]
 rcases Nat.le_total (E r) (E q) with h|h
 ·have e1:min (-1074+(E r:Int)) (-1074+(E q:Int))=-1074+(E r:Int):=by omega
  rw[e1]
  have e2:(-1074+(E r:Int)-(-1074+(E r:Int))).toNat=0:=by omega
  have e3:(-1074+(E q:Int)-(-1074+(E r:Int))).toNat=E q-E r:=by omega
  rw[e2,e3,<-mh _ _ (2 ^ E r) (Nat.two_pow_pos _),<-kR,<-kR]
  unfold val
  rw[Nat.pow_zero,Nat.mul_one,Nat.mul_assoc,Nat.pow_sub_mul_pow 2 h]
 ·have e1:min (-1074+(E r:Int)) (-1074+(E q:Int))=-1074+(E q:Int):=by omega
  rw[e1]
  have e2:(-1074+(E q:Int)-(-1074+(E q:Int))).toNat=0:=by omega
  have e3:(-1074+(E r:Int)-(-1074+(E q:Int))).toNat=E r-E q:=by omega
  rw[e2,e3,<-mh _ _ (2 ^ E q) (Nat.two_pow_pos _),<-kR,<-kR]
  unfold val
  rw[Nat.pow_zero,Nat.mul_one,Nat.mul_assoc,Nat.pow_sub_mul_pow 2 h]
theorem lO (h:∃s t,double.read x=.nan s t):double.order x y=none:=by
 obtain⟨s,t,h⟩:=h
 unfold Format.order
 rw[h];rfl
theorem mS (h:∃s t,double.read y=.nan s t):double.order x y=none:=by
 obtain⟨s,t,h⟩:=h
 unfold Format.order
 rw[h]
 cases double.read x<;>rfl
theorem kS {m k:Nat}(hm:0<m):(m*2 ^ k).log2=m.log2+k:=by
 have h0:m*2 ^ k≠0:=Nat.ne_of_gt (Nat.mul_pos hm (Nat.two_pow_pos _))
 rw[Nat.log2_eq_iff h0]
 have a:=Nat.log2_self_le (n:=m) (by omega)
 have b:=@Nat.lt_log2_self m
 refine⟨?_,?_⟩
 ·rw[Nat.pow_add];exact Nat.mul_le_mul_right _ a
 ·rw[show m.log2+k+1=(m.log2+1)+k by omega,Nat.pow_add]
  exact Nat.mul_lt_mul_of_pos_right b (Nat.two_pow_pos _)
theorem pV (h:4503599627370496<=r):(M r).log2=52:=by
 have a:=EA h
 have b:=EB r
 rw[Nat.log2_eq_iff (by omega)]
 exact⟨by simpa using a,by simpa using b⟩
theorem ou (h0:0<r)(h:r<4503599627370496):(M r).log2<=51:=by
 have e:M r=r:=by unfold M;rw[if_pos h]
 rw[e]
 have:r.log2<52:=(Nat.log2_lt (by omega)).2 (by simpa using h)
 omega
theorem kH (s:Bool)(mag:Nat)(place:Int)(r x y:Nat)(hr:r<9218868437227405312)
  (hv:mag*p2 x=val r*p2 y) (hp:(x:Int)-y=place+1074):double.nearest s mag place=W s r:=by
 rw[<-rm,<-rm] at hv
 by_cases hm:mag=0
 ·subst hm
  have hv':val r*2 ^ y=0:=by rw[<-hv];simp
  have h0:r=0:=by
   rcases Nat.eq_zero_or_pos r with h|h
   ·exact h
   ·have:=Nat.mul_pos (r7 h) (Nat.two_pow_pos y);omega
  subst h0
  unfold Format.nearest
  rw[if_pos rfl,rY]
 ·have hm':0<mag:=by omega
  have hr0:0<r:=by
   rcases Nat.eq_zero_or_pos r with h|h
   ·subst h;rw[kQ,Nat.zero_mul] at hv
    have:=Nat.mul_pos hm' (Nat.two_pow_pos x);omega
   ·exact h
  have hM:=EC hr0
  have hl:mag.log2+x=(M r).log2+E r+y:=by
   have:=congrArg Nat.log2 hv
   rw[kS hm',show val r=M r*2 ^ E r from rfl,Nat.mul_assoc,<-Nat.pow_add,kS hM] at this
   omega
  unfold Format.nearest
  rw[if_neg hm]
  simp only[on,rX,nD,rW]
  have hlast:max (place+(mag.log2:Int)-(52:Nat)) (-1074)=-1074+(E r:Int):=by
   rcases Nat.lt_or_ge r 4503599627370496 with h|h
   ·have:=ou hr0 h
    have e0:E r=0:=vB (by omega)
    rw[e0] at hl ⊢
    omega
   ·have:=pV h
    omega
  rw[hlast]
  have hk:Toward.even.cut s (mag<<<(place-(-1074+(E r:Int))).toNat) (-1074+(E r:Int)-place).toNat=M r:=by
   rw[Nat.shiftLeft_eq]
   rcases Int.le_total (-1074+(E r:Int)) place with h|h
   ·
    obtain⟨a,ha⟩:∃a:Nat,place=-1074+(E r:Int)+a:=⟨(place-(-1074+(E r:Int))).toNat,by omega⟩
    have e1:(place-(-1074+(E r:Int))).toNat=a:=by omega
    have e2:(-1074+(E r:Int)-place).toNat=0:=by omega
    rw[e1,e2]
    have key:mag*2 ^ a=M r:=by
     have hx:x=E r+y+a:=by omega
     rw[hx,show val r=M r*2 ^ E r from rfl,Nat.mul_assoc,<-Nat.pow_add,Nat.add_comm (E r+y) a,Nat.pow_add,<-Nat.mul_assoc] at hv
     exact Nat.eq_of_mul_eq_mul_right (Nat.two_pow_pos _) hv
    rw[key]
    unfold Toward.cut
    simp only[Nat.zero_min,Nat.shiftLeft_eq,Nat.pow_zero,Nat.mul_one,Nat.div_one,Nat.mod_one]
    simp
   ·obtain⟨a,ha⟩:∃a:Nat,place+a=-1074+(E r:Int):=⟨(-1074+(E r:Int)-place).toNat,by omega⟩
    have e1:(place-(-1074+(E r:Int))).toNat=0:=by omega
    have e2:(-1074+(E r:Int)-place).toNat=a:=by omega
    rw[e1,e2,Nat.pow_zero,Nat.mul_one]
    have key:mag=M r*2 ^ a:=by
     have hx:x+a=E r+y:=by omega
     have h2:mag*2 ^ x*2 ^ a=val r*2 ^ y*2 ^ a:=by rw[hv]
     rw[Nat.mul_assoc,<-Nat.pow_add,hx,show val r=M r*2 ^ E r from rfl,Nat.mul_assoc (M r),<-Nat.pow_add,Nat.mul_assoc,Nat.mul_comm (2 ^ (E r+y)),<-Nat.mul_assoc] at h2
     exact Nat.eq_of_mul_eq_mul_right (Nat.two_pow_pos _) h2
    rw[key]
    unfold Toward.cut
    have hmin:min a ((M r*2 ^ a).log2+2)=a:=by rw[kS hM];omega
    simp only[hmin,Nat.shiftLeft_eq,Nat.one_mul,Nat.mul_div_cancel _ (Nat.two_pow_pos a),Nat.mul_mod_left]
    have hp2:=Nat.two_pow_pos a
    simp only[Nat.mul_zero,Nat.not_lt_zero,decide_false,Bool.false_or]
    have:(2 ^ a==0)=false:=by simp
    rw[this];simp
  rw[hk]
  have e4:(-1074+(E r:Int)- -1074).toNat=E r:=by omega
  rw[e4,rZ,rY,Nat.min_eq_left (by omega)]
theorem rn (s:Bool)(h:r<9223372036854775808):Op.negFloat .f64 (W s r)=W (!s) r:=by
 unfold Op.negFloat
 have e:FloatKind.f64.format.exponentBits+FloatKind.f64.format.fractionBits=63:=rfl
 rw[e]
 have hb:r<2 ^ 63:=by simpa using h
 cases s
 ·unfold W
  simp only[Bool.false_eq_true,if_false,Bool.not_false,if_true]
  rw[Nat.xor_comm,show(9223372036854775808:Nat)=2 ^ 63 by decide]
  have:=Nat.two_pow_add_eq_or_of_lt hb 1
  apply Nat.eq_of_testBit_eq
  intro i
  rw[Nat.testBit_xor,Nat.testBit_two_pow]
  rcases Nat.lt_trichotomy i 63 with hi|hi|hi
  ·rw[Nat.testBit_two_pow_add_gt hi,show decide (63=i)=false from decide_eq_false (by omega)];simp
  ·subst hi;rw[Nat.testBit_two_pow_add_eq];simp
  ·have a:r.testBit i=false:=Nat.testBit_lt_two_pow (Nat.lt_of_lt_of_le hb (lN (by omega)))
   have b:(2 ^ 63+r).testBit i=false:=Nat.testBit_lt_two_pow (Nat.lt_of_lt_of_le (show 2 ^ 63+r<2 ^ 64 by omega) (lN (by omega)))
   rw[a,b,show decide (63=i)=false from decide_eq_false (by omega)];rfl
 ·unfold W
  simp only[if_true,Bool.not_true,Bool.false_eq_true,if_false]
  rw[show(9223372036854775808:Nat)=2 ^ 63 by decide]
  apply Nat.eq_of_testBit_eq
  intro i
  rw[Nat.testBit_xor,Nat.testBit_two_pow]
  rcases Nat.lt_trichotomy i 63 with hi|hi|hi
  ·rw[Nat.testBit_two_pow_add_gt hi,show decide (63=i)=false from decide_eq_false (by omega)];simp
  ·subst hi;rw[Nat.testBit_two_pow_add_eq]
   have a:r.testBit 63=false:=Nat.testBit_lt_two_pow hb
   simp[a]
  ·have a:r.testBit i=false:=Nat.testBit_lt_two_pow (Nat.lt_of_lt_of_le hb (lN (by omega)))
   have b:(2 ^ 63+r).testBit i=false:=Nat.testBit_lt_two_pow (Nat.lt_of_lt_of_le (show 2 ^ 63+r<2 ^ 64 by omega) (lN (by omega)))
   rw[a,b,show decide (63=i)=false from decide_eq_false (by omega)];rfl
theorem ro (hr:r<9218868437227405312)(hq:q<9218868437227405312)(hp:p<9218868437227405312)
  (h:val r*val q=val p*p2 1074):double.mul (W s r) (W t q)=some (W (s ^^ t) p):=by
 unfold Format.mul
 rw[jH hr,jH hq]
 simp only[Datum.product,Option.map_some,Format.write,Option.some.injEq]
 refine kH _ _ _ p (E r+E q) 1074 hp ?_ (by omega)
 rw[<-h,kg,mg,mg]
 ac_rfl
theorem rp (hr:r<9218868437227405312)(hq:q<9218868437227405312)(hp:p<9218868437227405312)
  (hM:M q=p2 52) (h:val r*p2 1074=val p*(p2 52*p2 (E q))):double.div (W s r) (W t q)=some (W (s ^^ t) p):=by
 unfold Format.div
 rw[jH hr,jH hq]
 have hn:¬(2 ^ 52=0):=by decide
 rw[show p2 52=2 ^ 52 from rfl] at hM
 simp only[Datum.quotient,hM,if_neg hn,Option.map_some,Format.write,Option.some.injEq,rX,Nat.log2_two_pow,Nat.shiftLeft_eq]
 have hl:(M r).log2<=52:=by
  rcases Nat.eq_zero_or_pos r with h0|h0
  ·subst h0;rw[Ch];decide
  ·rcases Nat.lt_or_ge r 4503599627370496 with h1|h1
   ·have:=ou h0 h1;omega
   ·have:=pV h1;omega
 obtain⟨k,hk⟩:∃k,52+2+52-(M r).log2=52+(k+1):=⟨53-(M r).log2,by omega⟩
 rw[hk,Nat.pow_add,Nat.mul_left_comm,Nat.mul_div_cancel_left _ (by decide:0<2 ^ 52),Nat.mul_mod_right]
 simp only[bne_self_eq_false,Bool.toNat_false,Nat.add_zero]
 refine kH _ _ _ p (E r+1074) (52+E q+(k+2)) hp ?_ (by omega)
 rw[show 2*(M r*2 ^ (k+1))=M r*2 ^ (k+2) by rw[Nat.pow_succ 2 (k+1)];ac_rfl]
 rw[kg (52+E q) (k+2),kg 52 (E q),<-Nat.mul_assoc (val p),<-h,kg (E r) 1074]
 rw[mg,rm (k+2)]
 generalize p2 1074=z
 ac_rfl
theorem oV (s:Bool)(n:Nat):(sg s n).natAbs=n:=by unfold sg;cases s<;>simp
theorem xB (s:Bool)(n:Nat):sg (!s) n=-(sg s n):=by unfold sg;cases s<;>simp
theorem ED (s:Bool){n:Nat}(h:0<n):decide (sg s n<0)=s:=by
 unfold sg;cases s
 ·simp
 ·simp;omega
theorem rr (hp:p<9218868437227405312)
  (h:sg s (val r)+sg t (val q)=sg u (val p)) (hu:p=0->u=(s&&t)):
  (Datum.sum (.number s (M r) (-1074+(E r:Nat))) (.number t (M q) (-1074+(E q:Nat)))).map double.write=some (W u p):=by
 simp only[Datum.sum,Option.map_some,Format.write,Option.some.injEq]
 obtain⟨b,hb⟩:∃b:Nat,min (-1074+(E r:Int)) (-1074+(E q:Int))=-1074+(b:Int):=⟨min (E r) (E q),by omega⟩
 rw[hb]
 have hbr:b<=E r:=by omega
 have hbq:b<=E q:=by omega
 have e2:(-1074+(E r:Int)-(-1074+(b:Int))).toNat=E r-b:=by omega
 have e3:(-1074+(E q:Int)-(-1074+(b:Int))).toNat=E q-b:=by omega
 rw[e2,e3,mr,mr]
 generalize hT:sg s (M r*2 ^ (E r-b))+sg t (M q*2 ^ (E q-b))=T
 have hT2:T*((2 ^ b:Nat):Int)=sg u (val p):=by
  rw[<-h,<-hT,Int.add_mul,<-kR,<-kR,Nat.mul_assoc,Nat.mul_assoc,Nat.pow_sub_mul_pow 2 hbr,Nat.pow_sub_mul_pow 2 hbq]
  rfl
 have hpb:(0:Int)<((2 ^ b:Nat):Int):=by have:=Nat.two_pow_pos b;omega
 have hn:T.natAbs*2 ^ b=val p:=by
  have:=congrArg Int.natAbs hT2
  rw[Int.natAbs_mul,oV,Int.natAbs_natCast] at this
  exact this
 have hs:(if T=0 then (s&&t) else decide (T<0))=u:=by
  rcases Nat.eq_zero_or_pos p with h0|h0
  ·have:T=0:=by
    subst h0;rw[kQ] at hn
    have:=Nat.mul_eq_zero.1 hn
    have p2:=Nat.two_pow_pos b
    omega
   rw[if_pos this,hu h0]
  ·have hv:=r7 h0
   have hT0:T≠0:=by intro c;rw[c] at hn;simp at hn;omega
   rw[if_neg hT0,<-ED u hv,<-hT2]
   congr 1
   rw[eq_iff_iff]
   constructor
   ·intro c;exact Int.mul_neg_of_neg_of_pos c hpb
   ·intro c
    rcases Int.lt_or_le T 0 with d|d
    ·exact d
    ·have:=Int.mul_nonneg d (Int.le_of_lt hpb);omega
 rw[hs]
 exact kH u T.natAbs _ p b 0 hp (by rw[<-rm,hn,show p2 0=1 from rfl,Nat.mul_one]) (by omega)
theorem rt (hr:r<9218868437227405312)(hq:q<9218868437227405312)(hp:p<9218868437227405312)
  (h:sg s (val r)+sg t (val q)=sg u (val p)) (hu:p=0->u=(s&&t)):double.add (W s r) (W t q)=some (W u p):=by
 unfold Format.add
 rw[jH hr,jH hq]
 exact rr hp h hu
theorem wo (hr:r<9218868437227405312)(hq:q<9218868437227405312)(hp:p<9218868437227405312)
  (h:sg s (val r)-sg t (val q)=sg u (val p)) (hu:p=0->u=(s&&!t)):double.sub (W s r) (W t q)=some (W u p):=by
 unfold Format.sub
 rw[jH hr,jH hq]
 exact rr hp (by rw[xB];omega) hu
def dbl (r:Nat):Nat:=if r<4503599627370496 then 2*r else r+4503599627370496
theorem r8 (r:Nat):val (dbl r)=2*val r:=by
 unfold dbl
 split
 ·rename_i h
  rw[nE (by omega),nE (by omega)]
 ·rename_i h
  unfold val
  have e1:M (r+4503599627370496)=M r:=by unfold M;rw[if_neg (by omega),if_neg h];omega
  have e2:E (r+4503599627370496)=E r+1:=by unfold E;omega
  rw[e1,e2,Nat.pow_succ]
  ac_rfl
theorem xC (h:9007199254740992<=r):val r=2*val (r-4503599627370496):=by
 rw[<-r8]
 unfold dbl
 rw[if_neg (by omega)]
 congr 1;omega
theorem BY:M 4611686018427387904=p2 52:=by decide
theorem BZ:E 4611686018427387904=1023:=by decide
theorem zP:val 4611686018427387904=p2 1075:=by rw[mg,BY,BZ,<-kg]
theorem EE:M 4841369599423283200=p2 52:=by decide
theorem EF:E 4841369599423283200=1074:=by decide
theorem zQ (h:dbl r<9218868437227405312):double.mul (W s r) (W false 4611686018427387904)=some (W s (dbl r)):=by
 have hr:r<9218868437227405312:=by unfold dbl at h;split at h<;>omega
 have:=ro (s:=s) (t:=false) hr (by omega:4611686018427387904<9218868437227405312) h (by rw[r8,zP,rU 1074];generalize p2 1074=z;ac_rfl)
 rw[this,Bool.xor_false]
theorem vD (hr:r<9218868437227405312)(h:val r=2*val p):double.div (W s r) (W false 4611686018427387904)=some (W s p):=by
 have hp:p<9218868437227405312:=by
  refine Nat.lt_of_le_of_lt ?_ hr
  rcases Nat.lt_or_ge r p with c|c
  ·have:=oU c;omega
  ·exact c
 have:=rp (s:=s) (t:=false) hr (by omega:4611686018427387904<9218868437227405312) hp BY (by rw[h,BZ,<-kg,show 52+1023=1074+1 by rfl,rU 1074];generalize p2 1074=z;ac_rfl)
 rw[this,Bool.xor_false]
theorem tF {t:Nat}(hr:r<9218868437227405312)(h:val r=t*p2 1074):(double.read (W s r)).toInt .zero=some (sg s t):=by
 rw[jH hr]
 unfold Datum.toInt
 simp only[Datum.integral,mr,Nat.pow_zero,Nat.mul_one,Option.some.injEq]
 congr 1
 rw[Nat.shiftLeft_eq]
 unfold Toward.cut
 rcases Nat.le_total 1074 (E r) with c|c
 ·have e1:(-1074+(E r:Int)).toNat=E r-1074:=by omega
  have e2:(-(-1074+(E r:Int))).toNat=0:=by omega
  rw[e1,e2]
  simp only[Nat.zero_min,Nat.shiftLeft_eq,Nat.pow_zero,Nat.mul_one,Nat.div_one,Bool.toNat_false,Nat.add_zero]
  rw[mg,show E r=(E r-1074)+1074 by omega,kg,<-Nat.mul_assoc] at h
  have h2:=Nat.eq_of_mul_eq_mul_right (mH _) h
  exact h2
 ·have e1:(-1074+(E r:Int)).toNat=0:=by omega
  have e2:(-(-1074+(E r:Int))).toNat=1074-E r:=by omega
  rw[e1,e2]
  have key:M r=t*2 ^ (1074-E r):=by
   unfold val at h
   rw[show p2 1074=p2 (1074-E r)*p2 (E r) by rw[<-kg];congr 1;omega,<-rm,<-rm,<-Nat.mul_assoc] at h
   exact Nat.eq_of_mul_eq_mul_right (Nat.two_pow_pos _) h
  rw[key]
  simp only[Nat.shiftLeft_eq,Nat.pow_zero,Nat.mul_one,Nat.one_mul,Bool.toNat_false,Nat.add_zero]
  rcases Nat.eq_zero_or_pos t with h0|h0
  ·subst h0;simp
  ·rw[Nat.min_eq_left (by rw[kS h0];omega),Nat.mul_div_cancel _ (Nat.two_pow_pos _)]
theorem rep (t:Nat)(ht:t<9007199254740992):∀k,∃r,val r=t*2 ^ k
 |0=>⟨t,by rw[nE ht,Nat.pow_zero,Nat.mul_one]⟩
 |k+1=>by
  obtain⟨r,hr⟩:=rep t ht k
  exact⟨dbl r,by rw[r8,hr,Nat.pow_succ];ac_rfl⟩
theorem zR:val 9218868437227405312=p2 2098:=by
 rw[mg,show M 9218868437227405312=p2 52 by decide,show E 9218868437227405312=2046 by decide,<-kg]
theorem pW (h:val r<p2 2098):r<9218868437227405312:=by
 rw[<-zR] at h;exact val_lt_iff.1 h
theorem r9 (h:r<=9218868437227405312):double.order (W s r) (W s r)=some .eq:=by
 rcases Nat.lt_or_eq_of_le h with h|h
 ·rw[nF h h,Int.compare_eq_eq.2 rfl]
 ·subst h;cases s<;>decide
theorem xD (h:9218868437227405312<r)(hr:r<9223372036854775808):∃s' t,double.read (W s r)=.nan s' t:=⟨_,_,oq h hr⟩
theorem sa (h:9218868437227405312<r)(hr:r<9223372036854775808):double.order (W s r) (W s r)=none:=
 lO (xD h hr)
theorem tG (s:Bool)(h:0<r):compare (sg s (val r)) (sg false (val 0))=if s then .lt else .gt:=by
 have:=r7 h
 unfold sg
 cases s
 ·simp only[Bool.false_eq_true,if_false];exact Int.compare_eq_gt.2 (by rw[kQ];omega)
 ·simp only[if_true,Bool.false_eq_true,if_false];exact Int.compare_eq_lt.2 (by rw[kQ];omega)
theorem xE (h0:0<r)(h:r<=9218868437227405312):double.order (W s r) 0=some (if s then .lt else .gt):=by
 rcases Nat.lt_or_eq_of_le h with h|h
 ·have:=nF (s:=s) (t:=false) h (by omega:0<9218868437227405312)
  rw[tG s h0] at this
  exact this
 ·subst h;cases s<;>decide
theorem qN:double.order (W s 0) 0=some .eq:=by cases s<;>decide
end Flt
end Go.Proofs.YtnlffngpnoodkaaGreat
