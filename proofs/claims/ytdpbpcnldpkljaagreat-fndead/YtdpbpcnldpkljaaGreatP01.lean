import Derived.Test.YtdpbpcnldpkljaaGreatP00
import Derived.Test.YtdpbpcnldpkljaaGreatRows
namespace Go.Proofs.Z
open Tryz
set_option maxRecDepth 1000000
set_option maxHeartbeats 0
section
open Go.ChangeShapes Go.WideShapes Go.ChangeAt Go.RowKit
theorem own:ownKnob prog.godebug=none:=by kernel_rfl
theorem eD (w:World)(n:Nat)(o:Obj):(w.drewN n).alloc o=(w.alloc o).drewN n:=rfl
theorem eB (w:World)(n:Nat)(a:Addr)(v:Value):(w.drewN n).setCell a v=(w.setCell a v).drewN n:=rfl
end
section
variable {s t u:Bool} {r a b q p:Nat}
namespace Flt
open Ieee
def W (s:Bool)(r:Nat):Nat:=if s then 9223372036854775808+r else r
def M (r:Nat):Nat:=if r<4503599627370496 then r else 4503599627370496+r%4503599627370496
def E (r:Nat):Nat:=r/4503599627370496-1
def val (r:Nat):Nat:=M r*2 ^ E r
def p2 (n:Nat):Nat:=2 ^ n
theorem vR (n:Nat):2 ^ n=p2 n:=rfl
theorem jM (a b:Nat):p2 (a+b)=p2 a*p2 b:=Nat.pow_add 2 a b
theorem yK (a:Nat):0<p2 a:=Nat.two_pow_pos a
theorem rj (a:Nat):p2 (a+1)=2*p2 a:=by unfold p2;rw[Nat.pow_succ,Nat.mul_comm]
theorem nu (r:Nat):val r=M r*p2 (E r):=rfl
def sg (s:Bool)(n:Nat):Int:=if s then -(n:Int) else (n:Int)
theorem lQ:double.binade=4503599627370496:=xab
theorem rl:double.signWeight=9223372036854775808:=xab
theorem oU:double.infRung=9218868437227405312:=xab
theorem mM:double.leastPlace=-1074:=xab
theorem rm:double.fractionBits=52:=rfl
theorem lR (s:Bool)(r:Nat):double.word s r=W s r:=by
 unfold Format.word W
 rw[rl]
theorem kM (x:Nat)(hx:x<18446744073709551616):∃s r,r<9223372036854775808/\x=W s r:=by
 by_cases h:x<9223372036854775808
 ·exact⟨false,x,h,rfl⟩
 ·refine⟨true,x-9223372036854775808,by omega,?_⟩
  unfold W
  simp only[if_true]
  omega
theorem BX (h:r<9223372036854775808):W s r<18446744073709551616:=by
 unfold W;split<;>omega
theorem ED (h:r<9223372036854775808):W s r%9223372036854775808=r:=by
 unfold W;split<;>omega
theorem EE (h:r<9223372036854775808):(W s r/9223372036854775808%2==1)=s:=by
 unfold W
 cases s
 ·have:r/9223372036854775808=0:=xaa
  simp[this]
 ·have:(9223372036854775808+r)/9223372036854775808=1:=xaa
  simp[this]
theorem Hi (hr:r<9223372036854775808)(hq:q<9223372036854775808)(h:W s r=W t q):s=t/\r=q:=by
 unfold W at h
 cases s<;>cases t<;>simp only[if_true,Bool.false_eq_true,if_false] at h
 ·exact⟨rfl,h⟩
 ·omega
 ·omega
 ·exact⟨rfl,by omega⟩
theorem im (h:r<9218868437227405312):double.read (W s r)=.number s (M r) (-1074+(E r:Nat)):=by
 have hr:r<9223372036854775808:=xaa
 unfold Format.read
 simp only[rl,oU,lQ,mM,ED hr,EE hr]
 unfold M E
 by_cases h1:r<4503599627370496
 ·rw[if_pos h1,if_pos h1]
  have:r/4503599627370496=0:=xaa
  rw[this];rfl
 ·rw[if_neg h1,if_pos h,if_neg h1]
theorem lu:double.read (W s 9218868437227405312)=.infinity s:=by
 cases s<;>decide
theorem oV (h:9218868437227405312<r)(hr:r<9223372036854775808):double.read (W s r)=.nan s (r-9218868437227405312):=by
 unfold Format.read
 simp only[rl,oU,lQ,mM,ED hr,EE hr]
 rw[if_neg xaa,if_neg xaa,if_neg xaa]
theorem Hj (h:4503599627370496<=r):4503599627370496<=M r:=by
 unfold M;rw[if_neg xaa];omega
theorem Hk (r:Nat):M r<9007199254740992:=by
 unfold M;split<;>omega
theorem EF (h:0<r):0<M r:=by
 unfold M;split<;>omega
theorem E9:M 0=0:=rfl
theorem vS (h:r<9007199254740992):E r=0:=by
 unfold E;omega
theorem lS (h:r<9007199254740992):val r=r:=by
 unfold val
 rw[vS h,Nat.pow_zero,Nat.mul_one]
 unfold M;split<;>omega
theorem rn (r:Nat):E r*4503599627370496+M r=r:=by
 unfold E M;split<;>omega
theorem ku (h:a<=b):2 ^ a<=2 ^ b:=Nat.pow_le_pow_right xaa h
theorem nw (h:r<q):val r<val q:=by
 by_cases he:E r=E q
 ·unfold val
  rw[he]
  have h1:=rn r
  have h2:=rn q
  rw[he] at h1
  exact Nat.mul_lt_mul_of_pos_right xaa (Nat.two_pow_pos _)
 ·have hE:E r<E q:=by
   have:E r<=E q:=by unfold E;omega
   omega
  have hq:4503599627370496<=q:=by unfold E at hE;omega
  have a:=Hj hq
  have b:=Hk r
  have c:2 ^ (E r+1)<=2 ^ E q:=ku hE
  have p:0<2 ^ E r:=Nat.two_pow_pos _
  unfold val
  calc M r*2 ^ E r<9007199254740992*2 ^ E r:=Nat.mul_lt_mul_of_pos_right b p
   _=4503599627370496*2 ^ (E r+1):=by rw[Nat.pow_succ];omega
   _<=4503599627370496*2 ^ E q:=Nat.mul_le_mul_left _ c
   _<=M q*2 ^ E q:=Nat.mul_le_mul_right _ a
theorem Fa (h:r<=q):val r<=val q:=by
 rcases Nat.lt_or_eq_of_le h with h|h
 ·exact Nat.le_of_lt (nw h)
 ·rw[h];exact yad
theorem val_lt_iff:val r<val q↔r<q:=
 ⟨λh=>by rcases Nat.lt_or_ge r q with h1|h1;exact h1;have:=Fa h1;omega,nw⟩
theorem oD (h:val r=val q):r=q:=by
 rcases Nat.lt_trichotomy r q with h1|h1|h1
 ·have:=nw h1;omega
 ·exact h1
 ·have:=nw h1;omega
theorem jh:val 0=0:=rfl
theorem ro (h:0<r):0<val r:=by have:=nw h;rw[jh] at this;exact this
theorem lT (s:Bool)(m k:Nat):signed s m k=sg s (m*2 ^ k):=by
 unfold signed sg
 rw[Nat.shiftLeft_eq]
theorem nz (s:Bool)(a b:Nat):sg s (a*b)=sg s a*(b:Int):=by
 unfold sg;cases s
 ·simp
 ·simp[Int.neg_mul]
theorem mi (x y:Int)(k:Nat)(hk:0<k):compare (x*(k:Int)) (y*(k:Int))=compare x y:=by
 have hk':(0:Int)<k:=xaa
 rcases Int.lt_trichotomy x y with h|h|h
 ·rw[Int.compare_eq_lt.2 h]
  exact Int.compare_eq_lt.2 (Int.mul_lt_mul_of_pos_right h hk')
 ·subst h
  rw[Int.compare_eq_eq.2 rfl,Int.compare_eq_eq.2 rfl]
 ·rw[Int.compare_eq_gt.2 h]
  exact Int.compare_eq_gt.2 (Int.mul_lt_mul_of_pos_right h hk')
theorem nA (hr:r<9218868437227405312)(hq:q<9218868437227405312):
  double.order (W s r) (W t q)=some (compare (sg s (val r)) (sg t (val q))):=by
 unfold Format.order
 rw[im hr,im hq]
 simp only[Datum.order,Option.some.injEq]
 rw[lT,lT]
 rcases Nat.le_total (E r) (E q) with h|h
 ·have e1:min (-1074+(E r:Int)) (-1074+(E q:Int))=-1074+(E r:Int):=xaa
  rw[e1]
  have e2:(-1074+(E r:Int)-(-1074+(E r:Int))).toNat=0:=xaa
  have e3:(-1074+(E q:Int)-(-1074+(E r:Int))).toNat=E q-E r:=xaa
  rw[e2,e3,<-mi _ _ (2 ^ E r) (Nat.two_pow_pos _),<-nz,<-nz]
  exact xjc
 ·have e1:min (-1074+(E r:Int)) (-1074+(E q:Int))=-1074+(E q:Int):=xaa
  rw[e1]
  have e2:(-1074+(E q:Int)-(-1074+(E q:Int))).toNat=0:=xaa
  have e3:(-1074+(E r:Int)-(-1074+(E q:Int))).toNat=E r-E q:=xaa
  rw[e2,e3,<-mi _ _ (2 ^ E q) (Nat.two_pow_pos _),<-nz,<-nz]
  exact xjc
theorem oW {x y:Nat}(h:∃s t,double.read x=.nan s t):double.order x y=none:=by
 obtain⟨s,t,h⟩:=h
 unfold Format.order
 rw[h];rfl
theorem kN {m k:Nat}(hm:0<m):(m*2 ^ k).log2=m.log2+k:=by
 have h0:m*2 ^ k≠0:=Nat.ne_of_gt (Nat.mul_pos hm (Nat.two_pow_pos _))
 rw[Nat.log2_eq_iff h0]
 have a:=Nat.log2_self_le (n:=m) xaa
 have b:=@Nat.lt_log2_self m
 refine⟨?_,?_⟩
 ·rw[Nat.pow_add];exact Nat.mul_le_mul_right _ a
 ·rw[show m.log2+k+1=(m.log2+1)+k by omega,Nat.pow_add]
  exact Nat.mul_lt_mul_of_pos_right b (Nat.two_pow_pos _)
theorem oX (h:4503599627370496<=r):(M r).log2=52:=by
 have a:=Hj h
 have b:=Hk r
 rw[Nat.log2_eq_iff xaa]
 exact⟨by simpa using a,by simpa using b⟩
theorem mN (h0:0<r)(h:r<4503599627370496):(M r).log2<=51:=by
 have e:M r=r:=by unfold M;rw[if_pos h]
 rw[e]
 have:r.log2<52:=(Nat.log2_lt xaa).2 (by simpa using h)
 omega
theorem jw (s:Bool)(mag:Nat)(place:Int)(r x y:Nat)(hr:r<9218868437227405312)
  (hv:mag*p2 x=val r*p2 y) (hp:(x:Int)-y=place+1074):double.nearest s mag place=W s r:=by
 rw[<-vR,<-vR] at hv
 by_cases hm:mag=0
 ·subst hm
  have hv':val r*2 ^ y=0:=by rw[<-hv];simp
  have h0:r=0:=by
   rcases Nat.eq_zero_or_pos r with h|h
   ·exact h
   ·have:=Nat.mul_pos (ro h) (Nat.two_pow_pos y);omega
  subst h0
  unfold Format.nearest
  rw[if_pos rfl,lR]
 ·have hm':0<mag:=xaa
  have hr0:0<r:=by
   rcases Nat.eq_zero_or_pos r with h|h
   ·subst h;rw[jh,Nat.zero_mul] at hv
    have:=Nat.mul_pos hm' (Nat.two_pow_pos x);omega
   ·exact h
  have hM:=EF hr0
  have hl:mag.log2+x=(M r).log2+E r+y:=by
   have:=congrArg Nat.log2 hv
   rw[kN hm',show val r=M r*2 ^ E r from rfl,Nat.mul_assoc,<-Nat.pow_add,kN hM] at this
   omega
  unfold Format.nearest
  rw[if_neg hm]
  simp only[mM,rm,lQ,oU]
  have hlast:max (place+(mag.log2:Int)-(52:Nat)) (-1074)=-1074+(E r:Int):=by
   rcases Nat.lt_or_ge r 4503599627370496 with h|h
   ·have:=mN hr0 h
    have e0:E r=0:=vS xaa
    rw[e0] at hl ⊢
    omega
   ·have:=oX h
    omega
  rw[hlast]
  have hk:Toward.even.cut s (mag<<<(place-(-1074+(E r:Int))).toNat) (-1074+(E r:Int)-place).toNat=M r:=by
   rw[Nat.shiftLeft_eq]
   rcases Int.le_total (-1074+(E r:Int)) place with h|h
   ·
    obtain⟨a,ha⟩:∃a:Nat,place=-1074+(E r:Int)+a:=⟨(place-(-1074+(E r:Int))).toNat,by omega⟩
    have e1:(place-(-1074+(E r:Int))).toNat=a:=xaa
    have e2:(-1074+(E r:Int)-place).toNat=0:=xaa
    rw[e1,e2]
    have key:mag*2 ^ a=M r:=by
     have hx:x=E r+y+a:=xaa
     rw[hx,show val r=M r*2 ^ E r from rfl,Nat.mul_assoc,<-Nat.pow_add,Nat.add_comm (E r+y) a,Nat.pow_add,<-Nat.mul_assoc] at hv
     exact Nat.eq_of_mul_eq_mul_right (Nat.two_pow_pos _) hv
    rw[key]
    unfold Toward.cut
    simp only[Nat.zero_min,Nat.shiftLeft_eq,Nat.pow_zero,Nat.mul_one,Nat.div_one,Nat.mod_one]
    simp
   ·obtain⟨a,ha⟩:∃a:Nat,place+a=-1074+(E r:Int):=⟨(-1074+(E r:Int)-place).toNat,by omega⟩
    have e1:(place-(-1074+(E r:Int))).toNat=0:=xaa
    have e2:(-1074+(E r:Int)-place).toNat=a:=xaa
    rw[e1,e2,Nat.pow_zero,Nat.mul_one]
    have key:mag=M r*2 ^ a:=by
     have hx:x+a=E r+y:=xaa
     have h2:mag*2 ^ x*2 ^ a=val r*2 ^ y*2 ^ a:=by rw[hv]
     rw[Nat.mul_assoc,<-Nat.pow_add,hx,show val r=M r*2 ^ E r from rfl,Nat.mul_assoc (M r),<-Nat.pow_add,Nat.mul_assoc,Nat.mul_comm (2 ^ (E r+y)),<-Nat.mul_assoc] at h2
     exact Nat.eq_of_mul_eq_mul_right (Nat.two_pow_pos _) h2
    rw[key]
    unfold Toward.cut
    have hmin:min a ((M r*2 ^ a).log2+2)=a:=by rw[kN hM];omega
    simp only[hmin,Nat.shiftLeft_eq,Nat.one_mul,Nat.mul_div_cancel _ (Nat.two_pow_pos a),Nat.mul_mod_left]
    have hp2:=Nat.two_pow_pos a
    simp only[Nat.mul_zero,Nat.not_lt_zero,decide_false,Bool.false_or]
    have:(2 ^ a==0)=false:=by simp
    rw[this];simp
  rw[hk]
  have e4:(-1074+(E r:Int)- -1074).toNat=E r:=xaa
  rw[e4,rn,lR,Nat.min_eq_left xaa]
theorem EG (s:Bool)(h:r<9223372036854775808):Op.negFloat .f64 (W s r)=W (!s) r:=by
 unfold Op.negFloat
 have e:FloatKind.f64.format.exponentBits+FloatKind.f64.format.fractionBits=63:=rfl
 rw[e]
 have hb:r<2 ^ 63:=by simpa using h
 cases s
 ·unfold W
  simp only[Bool.false_eq_true,if_false,Bool.not_false,if_true]
  rw[Nat.xor_comm,show(9223372036854775808:Nat)=2 ^ 63 by decide]
  have:=Nat.two_pow_add_eq_or_of_lt hb 1
  apply Nat.eq_of_testBit_eq
  intro i
  rw[Nat.testBit_xor,Nat.testBit_two_pow]
  rcases Nat.lt_trichotomy i 63 with hi|hi|hi
  ·exact xia
  ·subst hi;rw[Nat.testBit_two_pow_add_eq];simp
  ·exact xes
 ·unfold W
  simp only[if_true,Bool.not_true,Bool.false_eq_true,if_false]
  rw[show(9223372036854775808:Nat)=2 ^ 63 by decide]
  apply Nat.eq_of_testBit_eq
  intro i
  rw[Nat.testBit_xor,Nat.testBit_two_pow]
  rcases Nat.lt_trichotomy i 63 with hi|hi|hi
  ·exact xia
  ·subst hi;rw[Nat.testBit_two_pow_add_eq]
   have a:r.testBit 63=false:=Nat.testBit_lt_two_pow hb
   simp[a]
  ·exact xes
theorem wY (hr:r<9218868437227405312)(hq:q<9218868437227405312)(hp:p<9218868437227405312)
  (h:val r*val q=val p*p2 1074):double.mul (W s r) (W t q)=some (W (s ^^ t) p):=by
 unfold Format.mul
 rw[im hr,im hq]
 simp only[Datum.product,Option.map_some,Format.write,Option.some.injEq]
 refine jw _ _ _ p (E r+E q) 1074 hp ?_ xaa
 rw[<-h,jM,nu,nu]
 ac_rfl
theorem ql (hr:r<9218868437227405312)(hq:q<9218868437227405312)(hp:p<9218868437227405312)
  (hM:M q=p2 52) (h:val r*p2 1074=val p*(p2 52*p2 (E q))):double.div (W s r) (W t q)=some (W (s ^^ t) p):=by
 unfold Format.div
 rw[im hr,im hq]
 have hn:¬(2 ^ 52=0):=xab
 rw[show p2 52=2 ^ 52 from rfl] at hM
 simp only[Datum.quotient,hM,if_neg hn,Option.map_some,Format.write,Option.some.injEq,rm,Nat.log2_two_pow,Nat.shiftLeft_eq]
 have hl:(M r).log2<=52:=by
  rcases Nat.eq_zero_or_pos r with h0|h0
  ·subst h0;rw[E9];decide
  ·rcases Nat.lt_or_ge r 4503599627370496 with h1|h1
   ·have:=mN h0 h1;omega
   ·have:=oX h1;omega
 obtain⟨k,hk⟩:∃k,52+2+52-(M r).log2=52+(k+1):=⟨53-(M r).log2,by omega⟩
 rw[hk,Nat.pow_add,Nat.mul_left_comm,Nat.mul_div_cancel_left _ (by decide:0<2 ^ 52),Nat.mul_mod_right]
 simp only[bne_self_eq_false,Bool.toNat_false,Nat.add_zero]
 refine jw _ _ _ p (E r+1074) (52+E q+(k+2)) hp ?_ xaa
 rw[show 2*(M r*2 ^ (k+1))=M r*2 ^ (k+2) by rw[Nat.pow_succ 2 (k+1)];ac_rfl]
 rw[jM (52+E q) (k+2),jM 52 (E q),<-Nat.mul_assoc (val p),<-h,jM (E r) 1074]
 rw[nu,vR (k+2)]
 generalize p2 1074=z
 ac_rfl
theorem wZ (s:Bool)(n:Nat):(sg s n).natAbs=n:=by unfold sg;cases s<;>simp
theorem Hl (s:Bool){n:Nat}(h:0<n):decide (sg s n<0)=s:=by
 unfold sg;cases s
 ·simp
 ·simp;omega
theorem xd (hp:p<9218868437227405312)
  (h:sg s (val r)+sg t (val q)=sg u (val p)) (hu:p=0->u=(s&&t)):
  (Datum.sum (.number s (M r) (-1074+(E r:Nat))) (.number t (M q) (-1074+(E q:Nat)))).map double.write=some (W u p):=by
 simp only[Datum.sum,Option.map_some,Format.write,Option.some.injEq]
 obtain⟨b,hb⟩:∃b:Nat,min (-1074+(E r:Int)) (-1074+(E q:Int))=-1074+(b:Int):=⟨min (E r) (E q),by omega⟩
 rw[hb]
 have hbr:b<=E r:=xaa
 have hbq:b<=E q:=xaa
 have e2:(-1074+(E r:Int)-(-1074+(b:Int))).toNat=E r-b:=xaa
 have e3:(-1074+(E q:Int)-(-1074+(b:Int))).toNat=E q-b:=xaa
 rw[e2,e3,lT,lT]
 generalize hT:sg s (M r*2 ^ (E r-b))+sg t (M q*2 ^ (E q-b))=T
 have hT2:T*((2 ^ b:Nat):Int)=sg u (val p):=by
  rw[<-h,<-hT,Int.add_mul,<-nz,<-nz,Nat.mul_assoc,Nat.mul_assoc,Nat.pow_sub_mul_pow 2 hbr,Nat.pow_sub_mul_pow 2 hbq]
  rfl
 have hpb:(0:Int)<((2 ^ b:Nat):Int):=by have:=Nat.two_pow_pos b;omega
 have hn:T.natAbs*2 ^ b=val p:=by
  have:=congrArg Int.natAbs hT2
  rw[Int.natAbs_mul,wZ,Int.natAbs_natCast] at this
  exact this
 have hs:(if T=0 then (s&&t) else decide (T<0))=u:=by
  rcases Nat.eq_zero_or_pos p with h0|h0
  ·have:T=0:=by
    subst h0;rw[jh] at hn
    have:=Nat.mul_eq_zero.1 hn
    have p2:=Nat.two_pow_pos b
    omega
   rw[if_pos this,hu h0]
  ·have hv:=ro h0
   have hT0:T≠0:=by intro c;rw[c] at hn;simp at hn;omega
   rw[if_neg hT0,<-Hl u hv,<-hT2]
   congr 1
   rw[eq_iff_iff]
   constructor
   ·intro c;exact Int.mul_neg_of_neg_of_pos c hpb
   ·intro c
    rcases Int.lt_or_le T 0 with d|d
    ·exact d
    ·have:=Int.mul_nonneg d (Int.le_of_lt hpb);omega
 rw[hs]
 exact jw u T.natAbs _ p b 0 hp (by rw[<-vR,hn,show p2 0=1 from rfl,Nat.mul_one]) xaa
theorem xe (hr:r<9218868437227405312)(hq:q<9218868437227405312)(hp:p<9218868437227405312)
  (h:sg s (val r)+sg t (val q)=sg u (val p)) (hu:p=0->u=(s&&t)):double.add (W s r) (W t q)=some (W u p):=by
 unfold Format.add
 rw[im hr,im hq]
 exact xd hp h hu
def dbl (r:Nat):Nat:=if r<4503599627370496 then 2*r else r+4503599627370496
theorem rp (r:Nat):val (dbl r)=2*val r:=by
 unfold dbl
 split
 ·rename_i h
  rw[lS xaa,lS xaa]
 ·rename_i h
  unfold val
  have e1:M (r+4503599627370496)=M r:=by unfold M;rw[if_neg xaa,if_neg h];omega
  have e2:E (r+4503599627370496)=E r+1:=by unfold E;omega
  rw[e1,e2,Nat.pow_succ]
  ac_rfl
theorem yL (h:9007199254740992<=r):val r=2*val (r-4503599627370496):=by
 rw[<-rp]
 unfold dbl
 rw[if_neg xaa]
 congr 1;omega
theorem EH:M 4611686018427387904=p2 52:=xab
theorem EI:E 4611686018427387904=1023:=xab
theorem BY:val 4611686018427387904=p2 1075:=by rw[nu,EH,EI,<-jM]
theorem Hm:M 4841369599423283200=p2 52:=xab
theorem Hn:E 4841369599423283200=1074:=xab
theorem BZ (h:dbl r<9218868437227405312):double.mul (W s r) (W false 4611686018427387904)=some (W s (dbl r)):=by
 have hr:r<9218868437227405312:=by unfold dbl at h;split at h<;>omega
 have:=wY (s:=s) (t:=false) hr (by omega:4611686018427387904<9218868437227405312) h (by rw[rp,BY,rj 1074];generalize p2 1074=z;ac_rfl)
 rw[this,Bool.xor_false]
theorem vT (hr:r<9218868437227405312)(h:val r=2*val p):double.div (W s r) (W false 4611686018427387904)=some (W s p):=by
 have hp:p<9218868437227405312:=by
  refine Nat.lt_of_le_of_lt ?_ hr
  rcases Nat.lt_or_ge r p with c|c
  ·have:=nw c;omega
  ·exact c
 have:=ql (s:=s) (t:=false) hr (by omega:4611686018427387904<9218868437227405312) hp EH (by rw[h,EI,<-jM,show 52+1023=1074+1 by rfl,rj 1074];generalize p2 1074=z;ac_rfl)
 rw[this,Bool.xor_false]
theorem rep (t:Nat)(ht:t<9007199254740992):∀k,∃r,val r=t*2 ^ k
 |0=>⟨t,by rw[lS ht,Nat.pow_zero,Nat.mul_one]⟩
 |k+1=>by
  obtain⟨r,hr⟩:=rep t ht k
  exact⟨dbl r,by rw[rp,hr,Nat.pow_succ];ac_rfl⟩
theorem B0:val 9218868437227405312=p2 2098:=by
 rw[nu,show M 9218868437227405312=p2 52 by decide,show E 9218868437227405312=2046 by decide,<-jM]
theorem uF (h:val r<p2 2098):r<9218868437227405312:=by
 rw[<-B0] at h;exact val_lt_iff.1 h
theorem rt (h:r<=9218868437227405312):double.order (W s r) (W s r)=some .eq:=by
 rcases Nat.lt_or_eq_of_le h with h|h
 ·rw[nA h h,Int.compare_eq_eq.2 rfl]
 ·subst h;cases s<;>decide
theorem yM (h:9218868437227405312<r)(hr:r<9223372036854775808):∃s' t,double.read (W s r)=.nan s' t:=⟨_,_,oV h hr⟩
theorem rx (h:9218868437227405312<r)(hr:r<9223372036854775808):double.order (W s r) (W s r)=none:=
 oW (yM h hr)
theorem sS (s:Bool)(h:0<r):compare (sg s (val r)) (sg false (val 0))=if s then .lt else .gt:=by
 have:=ro h
 unfold sg
 cases s
 ·simp only[Bool.false_eq_true,if_false];exact Int.compare_eq_gt.2 (by rw[jh];omega)
 ·simp only[if_true,Bool.false_eq_true,if_false];exact Int.compare_eq_lt.2 (by rw[jh];omega)
theorem mO (h0:0<r)(h:r<=9218868437227405312):double.order (W s r) 0=some (if s then .lt else .gt):=by
 rcases Nat.lt_or_eq_of_le h with h|h
 ·have:=nA (s:=s) (t:=false) h (by omega:0<9218868437227405312)
  rw[sS s h0] at this
  exact this
 ·subst h;cases s<;>decide
theorem jy:double.order (W s 0) 0=some .eq:=by cases s<;>decide
theorem mj:double.div 4607182418800017408 (W s 0)=some (W s 9218868437227405312):=by cases s<;>decide
theorem Fb (h:sg s a=sg t b):a=b/\(s=t\/a=0):=by
 unfold sg at h
 cases s<;>cases t<;>simp only[if_true,Bool.false_eq_true,if_false] at h
 ·exact⟨by omega,.inl rfl⟩
 ·exact⟨by omega,.inr xaa⟩
 ·exact⟨by omega,.inr xaa⟩
 ·exact⟨by omega,.inl rfl⟩
theorem uG (hr:r<=9218868437227405312)(hq:q<=9218868437227405312):
  (double.order (W s r) (W t q)==some .eq)=decide (r=q/\(s=t\/r=0)):=by
 rcases Nat.lt_or_eq_of_le hr with h1|h1
 ·rcases Nat.lt_or_eq_of_le hq with h2|h2
  ·rw[nA h1 h2,Bool.eq_iff_iff]
   simp only[beq_iff_eq,Option.some.injEq,decide_eq_true_eq,Int.compare_eq_eq]
   constructor
   ·intro h
    obtain⟨a,b⟩:=Fb h
    have:=oD a
    refine⟨this,?_⟩
    rcases b with b|b
    ·exact .inl b
    ·exact .inr (oD (by rw[b,jh]))
   ·rintro⟨rfl,h|h⟩
    ·rw[h]
    ·subst h;rw[jh];cases s<;>cases t<;>rfl
  ·subst h2
   rw[Format.order,im h1,lu]
   have:¬(r=9218868437227405312/\(s=t\/r=0)):=xaa
   rw[yax this]
   cases t<;>rfl
 ·subst h1
  rcases Nat.lt_or_eq_of_le hq with h2|h2
  ·rw[Format.order,im h2,lu]
   have:¬(9218868437227405312=q/\(s=t\/9218868437227405312=0)):=xaa
   rw[yax this]
   cases s<;>rfl
  ·subst h2
   rw[Format.order,lu,lu]
   cases s<;>cases t<;>decide
end Flt
end
section
open Go.RowKit Flt
variable {s:Bool} {r:Nat}
theorem oE (h:r<=9218868437227405312):(FloatKind.f64.format.order (W s r) (W s r) !=some .eq)=false:=by
 rw[show FloatKind.f64.format.order (W s r) (W s r)=some .eq from rt h];rfl
theorem oF (h:9218868437227405312<r)(hr:r<9223372036854775808):(FloatKind.f64.format.order (W s r) (W s r) !=some .eq)=true:=by
 rw[show FloatKind.f64.format.order (W s r) (W s r)=none from rx h hr];rfl
def fb (x:Nat):Nat:=if FloatKind.f64.format.order x x !=some .eq then 9221120237041090560 else x
theorem ry (h:r<=9218868437227405312):fb (W s r)=W s r:=by unfold fb;rw[oE h];rfl
theorem oY (h:9218868437227405312<r)(hr:r<9223372036854775808):fb (W s r)=9221120237041090560:=by unfold fb;rw[oF h hr];rfl
theorem Ho {t:Bool}{q:Nat}(hr:r<9223372036854775808)(hq:q<9223372036854775808):(((W s r:Nat):Int)==((W t q:Nat):Int))=decide (r=q/\s=t):=by
 rw[Bool.eq_iff_iff]
 simp only[beq_iff_eq,decide_eq_true_eq]
 constructor
 ·intro h
  have h':W s r=W t q:=xaa
  obtain⟨a,b⟩:=Hi hr hq h'
  exact⟨b,a⟩
 ·rintro⟨rfl,rfl⟩;rfl
theorem sT (hr:r<=9218868437227405312):(((W s r:Nat):Int)==9221120237041090560)=false/\((9221120237041090560:Int)==((W s r:Nat):Int))=false:=by
 have:W s r≠9221120237041090560:=by unfold W;split<;>omega
 exact⟨yam xaa,yam xaa⟩
