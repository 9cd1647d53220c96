import Derived.Laws.FloatArith
import Derived.Test.YtgamjhpebmmjcaaGreatDoorP01
import Derived.Deep.Draws
import Derived.Deep.QuietTactic
import Derived.BigQuiet
import Derived.Deep.Slices
namespace Go.Proofs.YtgamjhpebmmjcaaGreatDoor
set_option maxRecDepth 100000
set_option maxHeartbeats 40000000
namespace Flt
open Ieee
def W (s:Bool)(r:Nat):Nat:=if s then 9223372036854775808+r else r
def M (r:Nat):Nat:=if r<4503599627370496 then r else 4503599627370496+r%4503599627370496
def E (r:Nat):Nat:=r/4503599627370496-1
def val (r:Nat):Nat:=M r*2 ^ E r
def p2 (n:Nat):Nat:=2 ^ n
def sg (s:Bool)(n:Nat):Int:=if s then -(n:Int) else (n:Int)
theorem binade_eq:double.binade=4503599627370496:=by decide
theorem sign_eq:double.signWeight=9223372036854775808:=by decide
theorem inf_eq:double.infRung=9218868437227405312:=by decide
theorem least_eq:double.leastPlace=-1074:=by decide
theorem frac_eq:double.fractionBits=52:=rfl
theorem word_eq (s:Bool)(r:Nat):double.word s r=W s r:=by
 unfold Format.word W
 rw[sign_eq]
theorem split_word (x:Nat)(hx:x<18446744073709551616):∃s r,r<9223372036854775808∧x=W s r:=by
 by_cases h:x<9223372036854775808
 ·exact⟨false,x,h,rfl⟩
 ·refine⟨true,x-9223372036854775808,by omega,?_⟩
  unfold W
  simp only[if_true]
  omega
theorem W_lt {s:Bool}{r:Nat}(h:r<9223372036854775808):W s r<18446744073709551616:=by
 unfold W;split<;>omega
theorem W_mod {s:Bool}{r:Nat}(h:r<9223372036854775808):W s r%9223372036854775808=r:=by
 unfold W;split<;>omega
theorem W_neg {s:Bool}{r:Nat}(h:r<9223372036854775808):(W s r/9223372036854775808%2==1)=s:=by
 unfold W
 cases s
 ·have:r/9223372036854775808=0:=by omega
  simp[this]
 ·have:(9223372036854775808+r)/9223372036854775808=1:=by omega
  simp[this]
theorem W_inj {s t:Bool}{r q:Nat}(hr:r<9223372036854775808)(hq:q<9223372036854775808)(h:W s r=W t q):s=t∧r=q:=by
 unfold W at h
 cases s<;>cases t<;>simp only[if_true,Bool.false_eq_true,if_false] at h
 ·exact⟨rfl,h⟩
 ·omega
 ·omega
 ·exact⟨rfl,by omega⟩
theorem read_num {s:Bool}{r:Nat}(h:r<9218868437227405312):double.read (W s r)=.number s (M r) (-1074+(E r:Nat)):=by
 have hr:r<9223372036854775808:=by omega
 unfold Format.read
 simp only[sign_eq,inf_eq,binade_eq,least_eq,W_mod hr,W_neg hr]
 unfold M E
 by_cases h1:r<4503599627370496
 ·rw[if_pos h1,if_pos h1]
  have:r/4503599627370496=0:=by omega
  rw[this];rfl
 ·rw[if_neg h1,if_pos h,if_neg h1]
theorem read_inf {s:Bool}:double.read (W s 9218868437227405312)=.infinity s:=by
 cases s<;>decide
theorem read_nan {s:Bool}{r:Nat}(h:9218868437227405312<r)(hr:r<9223372036854775808):double.read (W s r)=.nan s (r-9218868437227405312):=by
 unfold Format.read
 simp only[sign_eq,inf_eq,binade_eq,least_eq,W_mod hr,W_neg hr]
 rw[if_neg (by omega),if_neg (by omega),if_neg (by omega)]
theorem M_lo {r:Nat}(h:4503599627370496≤r):4503599627370496≤M r:=by
 unfold M;rw[if_neg (by omega)];omega
theorem M_hi (r:Nat):M r<9007199254740992:=by
 unfold M;split<;>omega
theorem M_pos {r:Nat}(h:0<r):0<M r:=by
 unfold M;split<;>omega
theorem E_small {r:Nat}(h:r<9007199254740992):E r=0:=by
 unfold E;omega
theorem val_small {r:Nat}(h:r<9007199254740992):val r=r:=by
 unfold val
 rw[E_small h,Nat.pow_zero,Nat.mul_one]
 unfold M;split<;>omega
theorem rung_eq (r:Nat):E r*4503599627370496+M r=r:=by
 unfold E M;split<;>omega
theorem pow_mono {a b:Nat}(h:a≤b):2 ^ a≤2 ^ b:=Nat.pow_le_pow_right (by omega) h
theorem val_lt {r q:Nat}(h:r<q):val r<val q:=by
 by_cases he:E r=E q
 ·unfold val
  rw[he]
  have h1:=rung_eq r
  have h2:=rung_eq q
  rw[he] at h1
  exact Nat.mul_lt_mul_of_pos_right (by omega) (Nat.two_pow_pos _)
 ·have hE:E r<E q:=by
   have:E r≤E q:=by unfold E;omega
   omega
  have hq:4503599627370496≤q:=by unfold E at hE;omega
  have a:=M_lo hq
  have b:=M_hi r
  have c:2 ^ (E r+1)≤2 ^ E q:=pow_mono hE
  have p:0<2 ^ E r:=Nat.two_pow_pos _
  unfold val
  calc M r*2 ^ E r<9007199254740992*2 ^ E r:=Nat.mul_lt_mul_of_pos_right b p
   _=4503599627370496*2 ^ (E r+1):=by rw[Nat.pow_succ];omega
   _≤4503599627370496*2 ^ E q:=Nat.mul_le_mul_left _ c
   _≤M q*2 ^ E q:=Nat.mul_le_mul_right _ a
theorem val_inj {r q:Nat}(h:val r=val q):r=q:=by
 rcases Nat.lt_trichotomy r q with h1|h1|h1
 ·have:=val_lt h1;omega
 ·exact h1
 ·have:=val_lt h1;omega
theorem val_zero:val 0=0:=rfl
theorem val_pos {r:Nat}(h:0<r):0<val r:=by have:=val_lt h;rw[val_zero] at this;exact this
theorem signed_sg (s:Bool)(m k:Nat):signed s m k=sg s (m*2 ^ k):=by
 unfold signed sg
 rw[Nat.shiftLeft_eq]
theorem sg_mul (s:Bool)(a b:Nat):sg s (a*b)=sg s a*(b:Int):=by
 unfold sg;cases s
 ·simp
 ·simp[Int.neg_mul]
theorem compare_scale (x y:Int)(k:Nat)(hk:0<k):compare (x*(k:Int)) (y*(k:Int))=compare x y:=by
 have hk':(0:Int)<k:=by omega
 rcases Int.lt_trichotomy x y with h|h|h
 ·rw[Int.compare_eq_lt.2 h]
  exact Int.compare_eq_lt.2 (Int.mul_lt_mul_of_pos_right h hk')
 ·subst h
  rw[Int.compare_eq_eq.2 rfl,Int.compare_eq_eq.2 rfl]
 ·rw[Int.compare_eq_gt.2 h]
  exact Int.compare_eq_gt.2 (Int.mul_lt_mul_of_pos_right h hk')
theorem order_num {s t:Bool}{r q:Nat}(hr:r<9218868437227405312)(hq:q<9218868437227405312):
  double.order (W s r) (W t q)=some (compare (sg s (val r)) (sg t (val q))):=by
 unfold Format.order
 rw[read_num hr,read_num hq]
 simp only[Datum.order,Option.some.injEq]
 rw[signed_sg,signed_sg]
 rcases Nat.le_total (E r) (E q) with h|h
 ·have e1:min (-1074+(E r:Int)) (-1074+(E q:Int))=-1074+(E r:Int):=by omega
  rw[e1]
  have e2:(-1074+(E r:Int)-(-1074+(E r:Int))).toNat=0:=by omega
  have e3:(-1074+(E q:Int)-(-1074+(E r:Int))).toNat=E q-E r:=by omega
  rw[e2,e3,←compare_scale _ _ (2 ^ E r) (Nat.two_pow_pos _),←sg_mul,←sg_mul]
  unfold val
  rw[Nat.pow_zero,Nat.mul_one,Nat.mul_assoc,Nat.pow_sub_mul_pow 2 h]
 ·have e1:min (-1074+(E r:Int)) (-1074+(E q:Int))=-1074+(E q:Int):=by omega
  rw[e1]
  have e2:(-1074+(E q:Int)-(-1074+(E q:Int))).toNat=0:=by omega
  have e3:(-1074+(E r:Int)-(-1074+(E q:Int))).toNat=E r-E q:=by omega
  rw[e2,e3,←compare_scale _ _ (2 ^ E q) (Nat.two_pow_pos _),←sg_mul,←sg_mul]
  unfold val
  rw[Nat.pow_zero,Nat.mul_one,Nat.mul_assoc,Nat.pow_sub_mul_pow 2 h]
theorem order_nan_left {x y:Nat}(h:∃s t,double.read x=.nan s t):double.order x y=none:=by
 obtain⟨s,t,h⟩:=h
 unfold Format.order
 rw[h];rfl
theorem order_nan_right {x y:Nat}(h:∃s t,double.read y=.nan s t):double.order x y=none:=by
 obtain⟨s,t,h⟩:=h
 unfold Format.order
 rw[h]
 cases double.read x<;>rfl
theorem neg_W (s:Bool){r:Nat}(h:r<9223372036854775808):Op.negFloat .f64 (W s r)=W (!s) r:=by
 unfold Op.negFloat
 have e:FloatKind.f64.format.exponentBits+FloatKind.f64.format.fractionBits=63:=rfl
 rw[e]
 have hb:r<2 ^ 63:=by simpa using h
 cases s
 ·unfold W
  simp only[Bool.false_eq_true,if_false,Bool.not_false,if_true]
  rw[Nat.xor_comm,show(9223372036854775808:Nat)=2 ^ 63 by decide]
  have:=Nat.two_pow_add_eq_or_of_lt hb 1
  apply Nat.eq_of_testBit_eq
  intro i
  rw[Nat.testBit_xor,Nat.testBit_two_pow]
  rcases Nat.lt_trichotomy i 63 with hi|hi|hi
  ·rw[Nat.testBit_two_pow_add_gt hi,show decide (63=i)=false from decide_eq_false (by omega)];simp
  ·subst hi;rw[Nat.testBit_two_pow_add_eq];simp
  ·have a:r.testBit i=false:=Nat.testBit_lt_two_pow (Nat.lt_of_lt_of_le hb (pow_mono (by omega)))
   have b:(2 ^ 63+r).testBit i=false:=Nat.testBit_lt_two_pow (Nat.lt_of_lt_of_le (show 2 ^ 63+r<2 ^ 64 by omega) (pow_mono (by omega)))
   rw[a,b,show decide (63=i)=false from decide_eq_false (by omega)];rfl
 ·unfold W
  simp only[if_true,Bool.not_true,Bool.false_eq_true,if_false]
  rw[show(9223372036854775808:Nat)=2 ^ 63 by decide]
  apply Nat.eq_of_testBit_eq
  intro i
  rw[Nat.testBit_xor,Nat.testBit_two_pow]
  rcases Nat.lt_trichotomy i 63 with hi|hi|hi
  ·rw[Nat.testBit_two_pow_add_gt hi,show decide (63=i)=false from decide_eq_false (by omega)];simp
  ·subst hi;rw[Nat.testBit_two_pow_add_eq]
   have a:r.testBit 63=false:=Nat.testBit_lt_two_pow hb
   simp[a]
  ·have a:r.testBit i=false:=Nat.testBit_lt_two_pow (Nat.lt_of_lt_of_le hb (pow_mono (by omega)))
   have b:(2 ^ 63+r).testBit i=false:=Nat.testBit_lt_two_pow (Nat.lt_of_lt_of_le (show 2 ^ 63+r<2 ^ 64 by omega) (pow_mono (by omega)))
   rw[a,b,show decide (63=i)=false from decide_eq_false (by omega)];rfl
def dbl (r:Nat):Nat:=if r<4503599627370496 then 2*r else r+4503599627370496
theorem val_dbl (r:Nat):val (dbl r)=2*val r:=by
 unfold dbl
 split
 ·rename_i h
  rw[val_small (by omega),val_small (by omega)]
 ·rename_i h
  unfold val
  have e1:M (r+4503599627370496)=M r:=by unfold M;rw[if_neg (by omega),if_neg h];omega
  have e2:E (r+4503599627370496)=E r+1:=by unfold E;omega
  rw[e1,e2,Nat.pow_succ]
  ac_rfl
theorem rep (t:Nat)(ht:t<9007199254740992):∀k,∃r,val r=t*2 ^ k
 |0=>⟨t,by rw[val_small ht,Nat.pow_zero,Nat.mul_one]⟩
 |k+1=>by
  obtain⟨r,hr⟩:=rep t ht k
  exact⟨dbl r,by rw[val_dbl,hr,Nat.pow_succ];ac_rfl⟩
theorem ord_self_num {s:Bool}{r:Nat}(h:r≤9218868437227405312):double.order (W s r) (W s r)=some .eq:=by
 rcases Nat.lt_or_eq_of_le h with h|h
 ·rw[order_num h h,Int.compare_eq_eq.2 rfl]
 ·subst h;cases s<;>decide
theorem nan_read {s:Bool}{r:Nat}(h:9218868437227405312<r)(hr:r<9223372036854775808):∃s' t,double.read (W s r)=.nan s' t:=⟨_,_,read_nan h hr⟩
theorem ord_self_nan {s:Bool}{r:Nat}(h:9218868437227405312<r)(hr:r<9223372036854775808):double.order (W s r) (W s r)=none:=
 order_nan_left (nan_read h hr)
theorem sg_val_zero (s:Bool){r:Nat}(h:0<r):compare (sg s (val r)) (sg false (val 0))=if s then .lt else .gt:=by
 have:=val_pos h
 unfold sg
 cases s
 ·simp only[Bool.false_eq_true,if_false];exact Int.compare_eq_gt.2 (by rw[val_zero];omega)
 ·simp only[if_true,Bool.false_eq_true,if_false];exact Int.compare_eq_lt.2 (by rw[val_zero];omega)
theorem ord_zero {s:Bool}{r:Nat}(h0:0<r)(h:r≤9218868437227405312):double.order (W s r) 0=some (if s then .lt else .gt):=by
 rcases Nat.lt_or_eq_of_le h with h|h
 ·have:=order_num (s:=s) (t:=false) h (by omega:0<9218868437227405312)
  rw[sg_val_zero s h0] at this
  exact this
 ·subst h;cases s<;>decide
theorem ord_zero_zero {s:Bool}:double.order (W s 0) 0=some .eq:=by cases s<;>decide
theorem one_over_zero {s:Bool}:double.div 4607182418800017408 (W s 0)=some (W s 9218868437227405312):=by cases s<;>decide
theorem sg_inj {s t:Bool}{a b:Nat}(h:sg s a=sg t b):a=b∧(s=t∨a=0):=by
 unfold sg at h
 cases s<;>cases t<;>simp only[if_true,Bool.false_eq_true,if_false] at h
 ·exact⟨by omega,.inl rfl⟩
 ·exact⟨by omega,.inr (by omega)⟩
 ·exact⟨by omega,.inr (by omega)⟩
 ·exact⟨by omega,.inl rfl⟩
theorem ord_eq_iff {s t:Bool}{r q:Nat}(hr:r≤9218868437227405312)(hq:q≤9218868437227405312):
  (double.order (W s r) (W t q)==some .eq)=decide (r=q∧(s=t∨r=0)):=by
 rcases Nat.lt_or_eq_of_le hr with h1|h1
 ·rcases Nat.lt_or_eq_of_le hq with h2|h2
  ·rw[order_num h1 h2,Bool.eq_iff_iff]
   simp only[beq_iff_eq,Option.some.injEq,decide_eq_true_eq,Int.compare_eq_eq]
   constructor
   ·intro h
    obtain⟨a,b⟩:=sg_inj h
    have:=val_inj a
    refine⟨this,?_⟩
    rcases b with b|b
    ·exact .inl b
    ·exact .inr (val_inj (by rw[b,val_zero]))
   ·rintro⟨rfl,h|h⟩
    ·rw[h]
    ·subst h;rw[val_zero];cases s<;>cases t<;>rfl
  ·subst h2
   rw[Format.order,read_num h1,read_inf]
   have:¬(r=9218868437227405312∧(s=t∨r=0)):=by omega
   rw[decide_eq_false this]
   cases t<;>rfl
 ·subst h1
  rcases Nat.lt_or_eq_of_le hq with h2|h2
  ·rw[Format.order,read_num h2,read_inf]
   have:¬(9218868437227405312=q∧(s=t∨9218868437227405312=0)):=by omega
   rw[decide_eq_false this]
   cases s<;>rfl
  ·subst h2
   rw[Format.order,read_inf,read_inf]
   cases s<;>cases t<;>decide
end Flt
end Go.Proofs.YtgamjhpebmmjcaaGreatDoor
namespace Go.Proofs.YtgamjhpebmmjcaaGreatDoor
set_option maxRecDepth 100000
set_option maxHeartbeats 40000000
open Go.RowKit Flt
theorem call43 (b:Nat)(w:World):(callFunc 153 #[.float .f64 b]).run Tryz.prog w=.ok (.value (.int .u64 b)) w:=by
 rw[run_callFunc_extern (e:=Extern.MathFloatBits.float64bits) Tryz.func153 (by kernel_rfl) (by kernel_rfl) (by kernel_rfl) (by kernel_rfl)]
 rfl
theorem call44 (b:Int)(w:World):(callFunc 167 #[.int .u64 b]).run Tryz.prog w=.ok (.value (.float .f64 b.toNat)) w:=by
 rw[run_callFunc_extern (e:=Extern.MathFloatBits.float64frombits) Tryz.func167 (by kernel_rfl) (by kernel_rfl) (by kernel_rfl) (by kernel_rfl)]
 rfl
theorem isNaN_any (x:Nat)(w:World):
  Calls Tryz.prog 152 #[.float .f64 x] w fun e w'=>e=.returned (.bool (FloatKind.f64.format.order x x !=some .eq))∧w'=w:=by
 go_enter Tryz.func152,Tryz.ntmps152
 go_wp2
 go_ret
 exact⟨rfl,rfl⟩
theorem implBits_any (x:Nat)(w:World)(h:(FloatKind.f64.format.order x x !=some .eq)=false):
  Calls Tryz.prog 140 #[.float .f64 x] w fun e w'=>e=.returned (.int .u64 x)∧w'=w:=by
 have hc:=call43
 go_enter Tryz.func140,Tryz.ntmps140
 go_wp2
 go_ret
 exact⟨rfl,rfl⟩
theorem implBits_nan (x:Nat)(w:World)(h:(FloatKind.f64.format.order x x !=some .eq)=true):
  Calls Tryz.prog 140 #[.float .f64 x] w fun e w'=>e=.returned (.int .u64 9221120237041090560)∧w'=w:=by
 go_enter Tryz.func140,Tryz.ntmps140
 go_wp2
 go_ret
 exact⟨rfl,rfl⟩
theorem isn_num {s:Bool}{r:Nat}(h:r≤9218868437227405312):(FloatKind.f64.format.order (W s r) (W s r) !=some .eq)=false:=by
 rw[show FloatKind.f64.format.order (W s r) (W s r)=some .eq from ord_self_num h];rfl
theorem isn_nan {s:Bool}{r:Nat}(h:9218868437227405312<r)(hr:r<9223372036854775808):(FloatKind.f64.format.order (W s r) (W s r) !=some .eq)=true:=by
 rw[show FloatKind.f64.format.order (W s r) (W s r)=none from ord_self_nan h hr];rfl
def fb (x:Nat):Nat:=if FloatKind.f64.format.order x x !=some .eq then 9221120237041090560 else x
theorem implBits (x:Nat)(w:World):
  Calls Tryz.prog 140 #[.float .f64 x] w fun e w'=>e=.returned (.int .u64 (fb x:Nat))∧w'=w:=by
 unfold fb
 cases h:(FloatKind.f64.format.order x x !=some .eq)
 ·exact implBits_any x w h
 ·exact implBits_nan x w h
theorem implSame (x y:Nat)(w:World):
  Calls Tryz.prog 142 #[.float .f64 x,.float .f64 y] w fun e w'=>e=.returned (.bool ((fb x:Int)==(fb y:Int)))∧w'=w:=by
 go_enter Tryz.func142,Tryz.ntmps142
 go_wp2_with fail
 refine(implBits _ _).mono ?_
 rintro e w' ⟨rfl,rfl⟩
 go_wp2_with fail
 refine(implBits _ _).mono ?_
 rintro e w' ⟨rfl,rfl⟩
 go_wp2
 go_ret
 exact⟨rfl,rfl⟩
theorem fb_num {s:Bool}{r:Nat}(h:r≤9218868437227405312):fb (W s r)=W s r:=by unfold fb;rw[isn_num h];rfl
theorem fb_nan {s:Bool}{r:Nat}(h:9218868437227405312<r)(hr:r<9223372036854775808):fb (W s r)=9221120237041090560:=by unfold fb;rw[isn_nan h hr];rfl
theorem W_beq {s t:Bool}{r q:Nat}(hr:r<9223372036854775808)(hq:q<9223372036854775808):(((W s r:Nat):Int)==((W t q:Nat):Int))=decide (r=q∧s=t):=by
 rw[Bool.eq_iff_iff]
 simp only[beq_iff_eq,decide_eq_true_eq]
 constructor
 ·intro h
  have h':W s r=W t q:=by omega
  obtain⟨a,b⟩:=W_inj hr hq h'
  exact⟨b,a⟩
 ·rintro⟨rfl,rfl⟩;rfl
theorem W_ne_nan {s:Bool}{r:Nat}(hr:r≤9218868437227405312):(((W s r:Nat):Int)==9221120237041090560)=false∧((9221120237041090560:Int)==((W s r:Nat):Int))=false:=by
 have:W s r≠9221120237041090560:=by unfold W;split<;>omega
 exact⟨beq_eq_false_iff_ne.2 (by omega),beq_eq_false_iff_ne.2 (by omega)⟩
end Go.Proofs.YtgamjhpebmmjcaaGreatDoor
namespace Go.Proofs.YtgamjhpebmmjcaaGreatDoor
set_option maxRecDepth 100000
set_option maxHeartbeats 40000000
open Go.RowKit Flt
abbrev f64:Ieee.Format:=FloatKind.f64.format
theorem order_self (d:Ieee.Datum):(d.order d !=some .eq)=d.isNaN:=by
 cases d with
 |number s m i=>simp[Ieee.Datum.order,Ieee.Datum.isNaN]
 |infinity s=>cases s<;>rfl
 |nan s t=>rfl
theorem isn_iff (x:Nat):(FloatKind.f64.format.order x x !=some .eq)=(FloatKind.f64.format.read x).isNaN:=order_self _
theorem fb_of_nan {x:Nat}(h:(f64.read x).isNaN=true):fb x=9221120237041090560:=by
 unfold fb;rw[isn_iff,h];rfl
theorem fb_of_num {x:Nat}(h:(f64.read x).isNaN=false):fb x=x:=by
 unfold fb;rw[isn_iff,h];rfl
theorem nanC:(f64.read 9221120237041090560).isNaN=true:=by decide
theorem fb_cases {x y:Nat}(h:fb x=fb y):x=y∨((f64.read x).isNaN=true∧(f64.read y).isNaN=true):=by
 cases hx:(f64.read x).isNaN<;>cases hy:(f64.read y).isNaN
 ·rw[fb_of_num hx,fb_of_num hy] at h;exact .inl h
 ·rw[fb_of_num hx,fb_of_nan hy] at h;rw[h,nanC] at hx;cases hx
 ·rw[fb_of_nan hx,fb_of_num hy] at h;rw[←h,nanC] at hy;cases hy
 ·exact .inr ⟨rfl,rfl⟩
theorem fb_nan_eq {x y:Nat}(hx:(f64.read x).isNaN=true)(hy:(f64.read y).isNaN=true):fb x=fb y:=by
 rw[fb_of_nan hx,fb_of_nan hy]
theorem nan_shape {d:Ieee.Datum}(h:d.isNaN=true):∃s t,d=.nan s t:=by
 cases d with
 |number s m i=>cases h
 |infinity s=>cases h
 |nan s t=>exact⟨s,t,rfl⟩
theorem order_congr {x y x' y':Nat}(h:fb x=fb x')(h':fb y=fb y'):f64.order x y=f64.order x' y':=by
 rcases fb_cases h with rfl|⟨a,b⟩
 ·rcases fb_cases h' with rfl|⟨c,d⟩
  ·rfl
  ·exact(order_nan_right (x:=x) (nan_shape c)).trans (order_nan_right (x:=x) (nan_shape d)).symm
 ·exact(order_nan_left (y:=y) (nan_shape a)).trans (order_nan_left (y:=y') (nan_shape b)).symm
theorem floatBits_nan_left (op:BinOp){x y:Nat}(h:(f64.read x).isNaN=true):floatBits op .f64 x y=none:=by
 obtain⟨s,t,h⟩:=nan_shape h
 cases op<;>first|rfl|skip
 all_goals
  simp only[floatBits,Ieee.Format.add,Ieee.Format.sub,Ieee.Format.mul,Ieee.Format.div]
  rw[h]
  rfl
theorem floatBits_nan_right (op:BinOp){x y:Nat}(h:(f64.read y).isNaN=true):floatBits op .f64 x y=none:=by
 obtain⟨s,t,h⟩:=nan_shape h
 cases op<;>first|rfl|skip
 all_goals
  simp only[floatBits,Ieee.Format.add,Ieee.Format.sub,Ieee.Format.mul,Ieee.Format.div]
  rw[h]
  cases f64.read x<;>rfl
def cop (op:BinOp)(x y:Nat):Nat:=(floatBits op .f64 x y).getD 9221120237041090560
theorem cop_congr (op:BinOp){x y x' y':Nat}(h:fb x=fb x')(h':fb y=fb y'):cop op x y=cop op x' y':=by
 unfold cop
 rcases fb_cases h with rfl|⟨a,b⟩
 ·rcases fb_cases h' with rfl|⟨c,d⟩
  ·rfl
  ·rw[floatBits_nan_right op c,floatBits_nan_right op d]
 ·rw[floatBits_nan_left op a,floatBits_nan_left op b]
def fop (op:BinOp)(x y:Nat)(w:World):Nat:=
 (floatBits op .f64 x y).getD (Question.cut (.nanBits .f64 x y) (w.tape w.drawn (.nanBits .f64 x y)))
def fnd (op:BinOp)(x y:Nat):Nat:=if (floatBits op .f64 x y).isSome then 0 else 1
theorem cut_nan (x y t:Nat):(f64.read (Question.cut (.nanBits .f64 x y) t)).isNaN=true∧Question.cut (.nanBits .f64 x y) t<18446744073709551616:=by
 simp only[Question.cut]
 obtain⟨k,hk,hlt⟩:∃k,(t/2)%(2 ^ 52-1)=k∧k<4503599627370495:=⟨_,rfl,Nat.mod_lt _ (by decide)⟩
 rw[hk]
 rcases Nat.mod_two_eq_zero_or_one t with h|h
 ·rw[h]
  have e:0*2 ^ 63+9218868437227405312+1+k=W false (9218868437227405312+1+k):=by unfold W;simp
  rw[show(0x7ff0000000000000:Nat)=9218868437227405312 from rfl,e]
  refine⟨?_,W_lt (by omega)⟩
  rw[show f64.read _=_ from read_nan (by omega) (by omega)];rfl
 ·rw[h]
  have e:1*2 ^ 63+9218868437227405312+1+k=W true (9218868437227405312+1+k):=by unfold W;simp;omega
  rw[show(0x7ff0000000000000:Nat)=9218868437227405312 from rfl,e]
  refine⟨?_,W_lt (by omega)⟩
  rw[show f64.read _=_ from read_nan (by omega) (by omega)];rfl
theorem fb_fop (op:BinOp)(x y:Nat)(w:World):fb (fop op x y w)=fb (cop op x y):=by
 unfold fop cop
 cases floatBits op .f64 x y with
 |none=>simp only[Option.getD_none];exact fb_nan_eq (cut_nan x y _).1 nanC
 |some r=>rfl
theorem fop_lt (op:BinOp)(x y:Nat)(w:World):fop op x y w<18446744073709551616:=by
 unfold fop
 cases h:floatBits op .f64 x y with
 |none=>simp only[Option.getD_none];exact(cut_nan x y _).2
 |some r=>
  have:=floatBits_wf h
  simpa[Lit.wf] using this
section
variable {P:Program} (w:World)
theorem run_fop (op:BinOp)(ho:op=.add∨op=.sub∨op=.mul∨op=.quo)(t:TypeId)(x y:Nat):
  (binOp op t (.float .f64 x) (.float .f64 y)).run P w=.ok (.float .f64 (fop op x y w)) (w.drewN (fnd op x y)):=by
 cases h:floatBits op .f64 x y with
 |some r=>
  have e1:fop op x y w=r:=by unfold fop;rw[h];rfl
  have e2:fnd op x y=0:=by unfold fnd;rw[h];rfl
  rw[e1,e2,World.drewN_zero]
  exact run_float_arith w op t .f64 x y r h
 |none=>
  have e1:fop op x y w=Question.cut (.nanBits .f64 x y) (w.tape w.drawn (.nanBits .f64 x y)):=by unfold fop;rw[h];rfl
  have e2:fnd op x y=1:=by unfold fnd;rw[h];rfl
  rw[e1,e2]
  unfold floatBits at h
  rcases ho with rfl|rfl|rfl|rfl
  all_goals
   simp only at h
   simp[binOp,Op.floatArith,h,choose,Sem.run,Question.forced]
   rfl
theorem run_fadd (t:TypeId)(x y:Nat):(binOp .add t (.float .f64 x) (.float .f64 y)).run P w=.ok (.float .f64 (fop .add x y w)) (w.drewN (fnd .add x y)):=run_fop w .add (by simp) t x y
theorem run_fsub (t:TypeId)(x y:Nat):(binOp .sub t (.float .f64 x) (.float .f64 y)).run P w=.ok (.float .f64 (fop .sub x y w)) (w.drewN (fnd .sub x y)):=run_fop w .sub (by simp) t x y
theorem run_fmul (t:TypeId)(x y:Nat):(binOp .mul t (.float .f64 x) (.float .f64 y)).run P w=.ok (.float .f64 (fop .mul x y w)) (w.drewN (fnd .mul x y)):=run_fop w .mul (by simp) t x y
theorem run_fquo (t:TypeId)(x y:Nat):(binOp .quo t (.float .f64 x) (.float .f64 y)).run P w=.ok (.float .f64 (fop .quo x y w)) (w.drewN (fnd .quo x y)):=run_fop w .quo (by simp) t x y
end
theorem convff (b:Nat)(w:World):(convert 24 24 (.float .f64 b)).run Tryz.prog w=.ok (.float .f64 b) w:=
 run_convert_float_float w 24 24 .f64 .f64 b b (by kernel_rfl) Tryz.underlying24 (by simp[floatToFloatBits])
end Go.Proofs.YtgamjhpebmmjcaaGreatDoor
namespace Go.Proofs.YtgamjhpebmmjcaaGreatDoor
set_option maxRecDepth 100000
set_option maxHeartbeats 40000000
open Go.RowKit Flt
theorem run_store_float {P:Program}{w:World}{a:Addr}{m:Mode}(k:FloatKind)(b:Nat):(store a (.float k b) m).run P w=stored P w a (.float k b) m:=run_store P w a _ m rfl
structure Kept (lo hi:Nat)(w w':World):Prop where
 os:w'.os=w.os
 tape:w'.tape=w.tape
 output:w'.output=w.output
 size:w.heap.size≤w'.heap.size
 block:∀k,k<w.heap.size→¬(lo≤k∧k<hi)→w'.heap[k]? =w.heap[k]?
theorem Kept.refl (lo hi:Nat)(w:World):Kept lo hi w w:=⟨rfl,rfl,rfl,Nat.le_refl _,fun _ _ _=>rfl⟩
theorem Kept.trans {lo hi:Nat}{a b c:World}(h:Kept lo hi a b)(k:Kept lo hi b c):Kept lo hi a c:=
 ⟨k.os.trans h.os,k.tape.trans h.tape,k.output.trans h.output,Nat.le_trans h.size k.size,fun i hi' hn=>(k.block i (Nat.lt_of_lt_of_le hi' h.size) hn).trans (h.block i hi' hn)⟩
theorem Kept.mono {lo hi lo' hi':Nat}{w w':World}(h:Kept lo hi w w')(hs:∀k,k<w.heap.size→lo≤k∧k<hi→lo'≤k∧k<hi'):Kept lo' hi' w w':=
 ⟨h.os,h.tape,h.output,h.size,fun k hk hn=>h.block k hk fun c=>hn (hs k hk c)⟩
theorem Kept.new {lo hi l h':Nat}{a b c:World}(h:Kept lo hi a b)(k:Kept l h' b c)(hl:a.heap.size≤l):Kept lo hi a c:=
 ⟨k.os.trans h.os,k.tape.trans h.tape,k.output.trans h.output,Nat.le_trans h.size k.size,fun i hi' hn=>(k.block i (Nat.lt_of_lt_of_le hi' h.size) (fun c=>by omega)).trans (h.block i hi' hn)⟩
theorem Kept.below {w w':World}(h:Kept 0 0 w w'):Below w.heap.size w w':=⟨h.os,h.tape,h.output,h.size,fun k hk=>h.block k hk (by omega)⟩
theorem kept_drewN (lo hi:Nat)(w:World)(m:Nat):Kept lo hi w (w.drewN m):=⟨rfl,rfl,rfl,Nat.le_refl _,fun _ _ _=>rfl⟩
theorem kept_alloc (lo hi:Nat)(w:World)(o:Obj):Kept lo hi w (w.alloc o):=⟨rfl,rfl,rfl,by simp,fun k hk _=>Below.heap_alloc w o k hk⟩
theorem kept_setCell {lo hi:Nat}(w:World)(a:Addr)(v:Value)(h:lo≤a.block∧a.block<hi∨w.heap.size≤a.block):Kept lo hi w (w.setCell a v):=
 ⟨rfl,rfl,rfl,by simp,fun k hk hn=>Below.heap_setCell w a v k (fun e=>by subst e;omega)⟩
theorem Kept.cell {lo hi:Nat}{w w':World}(h:Kept lo hi w w'){p:Addr}(hp:p.block<w.heap.size)(hn:¬(lo≤p.block∧p.block<hi)):w'.cell? p=w.cell? p:=World.cell?_of_block (w:=w) (h.block p.block hp hn)
theorem Kept.frozen {lo hi:Nat}{w w':World}(h:Kept lo hi w w'){p:Addr}(hp:p.block<w.heap.size)(hn:¬(lo≤p.block∧p.block<hi)):w'.frozen? p=w.frozen? p:=World.frozen?_of_block (w:=w) (h.block p.block hp hn)
def Drawn (w w':World):Prop:=∃m,w'=w.drewN m
theorem Drawn.refl (w:World):Drawn w w:=⟨0,rfl⟩
theorem Drawn.more {w w':World}(h:Drawn w w')(n:Nat):Drawn w (w'.drewN n):=by
 obtain⟨m,rfl⟩:=h;exact⟨m+n,World.drewN_drewN ..⟩
theorem Drawn.trans {a b c:World}(h:Drawn a b)(k:Drawn b c):Drawn a c:=by
 obtain⟨m,rfl⟩:=k;exact h.more m
theorem Drawn.cell {w w':World}(h:Drawn w w')(p:Addr):w'.cell? p=w.cell? p:=by obtain⟨m,rfl⟩:=h;rfl
theorem Drawn.kept {w w':World}(h:Drawn w w')(lo hi:Nat):Kept lo hi w w':=by obtain⟨m,rfl⟩:=h;exact kept_drewN lo hi w m
structure FS (w:World)(lo hi:Nat)(a:Option Addr)(n:Nat)(xs:List Nat):Prop where
 len:xs.length=n
 lt:∀x∈xs,x<18446744073709551616
 at_:n=0∨∃g off,a=some ⟨g,off,none⟩∧lo≤g∧g<hi∧g<w.heap.size∧∀k,k<n→w.cell? ⟨g,off+k,none⟩=some (.float .f64 (xs.getD k 0))
theorem FS.keep {w w':World}{lo hi l h:Nat}{a:Option Addr}{n:Nat}{xs:List Nat}(f:FS w lo hi a n xs)(k:Kept l h w w')(hd:hi≤l∨h≤lo∨h≤l):FS w' lo hi a n xs:=
 ⟨f.len,f.lt,by
  rcases f.at_ with h0|⟨g,off,e,h1,h2,h3,h4⟩
  ·exact .inl h0
  ·exact .inr ⟨g,off,e,h1,h2,Nat.lt_of_lt_of_le h3 k.size,fun j hj=>by rw[k.cell (p:=⟨g,off+j,none⟩) h3 (by show ¬(l≤g∧g<h);omega)];exact h4 j hj⟩⟩
theorem FS.mono {w:World}{lo hi lo' hi':Nat}{a:Option Addr}{n:Nat}{xs:List Nat}(f:FS w lo hi a n xs)(h1:lo'≤lo)(h2:hi≤hi'):FS w lo' hi' a n xs:=
 ⟨f.len,f.lt,by
  rcases f.at_ with h0|⟨g,off,e,a1,a2,a3,a4⟩
  ·exact .inl h0
  ·exact .inr ⟨g,off,e,by omega,by omega,a3,a4⟩⟩
theorem getD_lt {xs:List Nat}(h:∀x∈xs,x<18446744073709551616)(k:Nat):xs.getD k 0<18446744073709551616:=by
 rw[List.getD_eq_getElem?_getD]
 by_cases hk:k<xs.length
 ·rw[List.getElem?_eq_getElem hk];exact h _ (List.getElem_mem _)
 ·rw[List.getElem?_eq_none (by omega)];exact(by omega:(0:Nat)<18446744073709551616)
def FR (w:World)(g:Nat)(xs:List Nat):Prop:=w.heap[g]? =some (.cells (xs.map (Value.float .f64)).toArray 24 (0,0))
theorem FR.lt {w:World}{g:Nat}{xs:List Nat}(h:FR w g xs):g<w.heap.size:=by
 unfold FR at h
 rcases Nat.lt_or_ge g w.heap.size with c|c
 ·exact c
 ·rw[Array.getElem?_eq_none c] at h;cases h
theorem FR.cell {w:World}{g:Nat}{xs:List Nat}(h:FR w g xs)(k:Nat)(hk:k<xs.length):w.cell? ⟨g,k,none⟩=some (.float .f64 (xs.getD k 0)):=by
 rw[cell_of_row w g k _ _ _ h]
 simp[hk,List.getD_eq_getElem?_getD]
theorem FR.free {w:World}{g:Nat}{xs:List Nat}(h:FR w g xs)(k:Nat):w.frozen? ⟨g,k,none⟩=false:=frozen_of_row w g k _ _ h
theorem FR.keep {w w':World}{g l h:Nat}{xs:List Nat}(f:FR w g xs)(k:Kept l h w w')(hd:g<l∨h≤g∨h≤l):FR w' g xs:=by
 unfold FR
 rw[k.block g f.lt (by omega)]
 exact f
theorem FR.set {w:World}{g:Nat}{xs:List Nat}(h:FR w g xs)(k x:Nat):FR (w.setCell ⟨g,k,none⟩ (.float .f64 x)) g (xs.set k x):=by
 unfold FR at h ⊢
 rw[heap_setCell_same w g k _ _ _ h]
 simp[List.map_set]
theorem FR.fs {w:World}{g lo hi:Nat}{xs:List Nat}(h:FR w g xs)(hl:∀x∈xs,x<18446744073709551616)(h1:lo≤g)(h2:g<hi):FS w lo hi (some ⟨g,0,none⟩) xs.length xs:=
 ⟨rfl,hl,.inr ⟨g,0,rfl,h1,h2,h.lt,fun k hk=>by rw[Nat.zero_add];exact h.cell k hk⟩⟩
theorem FR.made (w:World)(n:Nat):FR (w.alloc (.cells (madeCells #[.float .f64 0] n) 24)) w.heap.size (List.replicate n 0):=by
 unfold FR
 rw[heap_alloc_new]
 have:(madeCells #[.float .f64 0] n)=(List.map (Value.float .f64) (List.replicate n 0)).toArray:=by
  apply Array.toList_inj.1
  rw[toList_madeCells_one]
  simp
 rw[this]
theorem infoF:(Tryz.prog.info? 24).map (fun i=>(i.zero,i.size,i.bytes))=some (some (.float .f64 0),1,8):=by kernel_rfl
end Go.Proofs.YtgamjhpebmmjcaaGreatDoor
namespace Go.Proofs.YtgamjhpebmmjcaaGreatDoor
set_option maxRecDepth 100000
set_option maxHeartbeats 40000000
open Go.RowKit Flt
attribute [local go_sem] alloc_drewN setCell_drewN run_store_float
theorem make_f (n:Nat)(w:World)(hn:n≤1099511627776):
  (Instr.makeSlice 33 (.int .i64 (n:Int)) (.int .i64 (n:Int))).run Tryz.prog w=.ok (.slice (some ⟨w.heap.size,0,none⟩) n n) (w.alloc (.cells (madeCells #[.float .f64 0] n) 24)):=by
 obtain⟨i,hi,hz0,hz1,hz2⟩:=info_parts infoF
 have:=run_make (P:=Tryz.prog) w 33 24 i (.float .f64 0) Tryz.underlying33 hi hz0 .i64 .i64 n n (by omega) (by omega) (by rw[hz2];omega) (by omega)
 rw[hz1,Nat.mul_one,Int.toNat_natCast] at this
 exact this
def same (xs ys:List Nat):Prop:=xs.map fb=ys.map fb
theorem same_len {xs ys:List Nat}(h:same xs ys):xs.length=ys.length:=by
 have:=congrArg List.length h;simpa using this
theorem same_of {xs ys:List Nat}(hl:xs.length=ys.length)(h:∀k,k<xs.length→fb (xs.getD k 0)=fb (ys.getD k 0)):same xs ys:=by
 unfold same
 apply List.ext_getElem (by simpa using hl)
 intro i h1 h2
 have h1':i<xs.length:=by simpa using h1
 have:=h i h1'
 simp only[List.getElem_map]
 rw[List.getD_eq_getElem?_getD,List.getD_eq_getElem?_getD,List.getElem?_eq_getElem h1',List.getElem?_eq_getElem (by omega:i<ys.length)] at this
 exact this
theorem same_at {xs ys:List Nat}(h:same xs ys)(k:Nat):fb (xs.getD k 0)=fb (ys.getD k 0):=by
 have:(xs.map fb)[k]? =(ys.map fb)[k]?:=by rw[h]
 rw[List.getElem?_map,List.getElem?_map] at this
 rw[List.getD_eq_getElem?_getD,List.getD_eq_getElem?_getD]
 cases h1:xs[k]?<;>cases h2:ys[k]?<;>rw[h1,h2] at this<;>simp at this
 all_goals first|rfl|exact this
end Go.Proofs.YtgamjhpebmmjcaaGreatDoor
namespace Go.Proofs.YtgamjhpebmmjcaaGreatDoor
set_option maxRecDepth 100000
set_option maxHeartbeats 40000000
open Go.RowKit Flt
attribute [local go_sem] alloc_drewN setCell_drewN run_store_float
def lenB (n:Int):Bool:=decide (1≤n∧n≤1000)
theorem lenB_true {n:Int}(h1:1≤n)(h2:n≤1000):lenB n=true:=decide_eq_true ⟨h1,h2⟩
theorem lenB_false {n:Int}(h:¬(1≤n∧n≤1000)):lenB n=false:=decide_eq_false h
theorem isLength_any (n:Int)(w:World):Calls Tryz.prog 62 #[.int .i64 n] w fun e w'=>e=.returned (.bool (lenB n))∧w'=w:=by
 by_cases h1:1≤n
 ·by_cases h2:n≤1000
  ·rw[lenB_true h1 h2]
   go_enter Tryz.func62,Tryz.ntmps62
   go_wp2
   go_ret
   exact⟨rfl,rfl⟩
  ·rw[lenB_false (fun c=>h2 c.2)]
   have t:decide (n≤1000)=false:=decide_eq_false h2
   go_enter Tryz.func62,Tryz.ntmps62
   go_wp2
   go_ret
   exact⟨rfl,rfl⟩
 ·rw[lenB_false (fun c=>h1 c.1)]
  have t:decide (1≤n)=false:=decide_eq_false h1
  go_enter Tryz.func62,Tryz.ntmps62
  go_wp2
  go_ret
  exact⟨rfl,rfl⟩
def cnt (op:Int):Nat:=if op=6∨op=9∨op=10∨op=11∨op=12∨op=13 then 1 else if op=2∨op=3∨op=4∨op=5∨op=7 then 2 else if op=8 then 3 else 0
theorem op_cases (op:Int):op=1∨op=2∨op=3∨op=4∨op=5∨op=6∨op=7∨op=8∨op=9∨op=10∨op=11∨op=12∨op=13∨(op≠1∧op≠2∧op≠3∧op≠4∧op≠5∧op≠6∧op≠7∧op≠8∧op≠9∧op≠10∧op≠11∧op≠12∧op≠13):=by omega
theorem opCount (op:Int)(w:World):Calls Tryz.prog 75 #[.int .i64 op] w fun e w'=>e=.returned (.int .i64 (cnt op:Nat))∧w'=w:=by
 rcases op_cases op with rfl|rfl|rfl|rfl|rfl|rfl|rfl|rfl|rfl|rfl|rfl|rfl|rfl|h
 ·go_enter Tryz.func75,Tryz.ntmps75
  go_wp2
  go_ret
  exact⟨rfl,rfl⟩
 all_goals try
  (go_enter Tryz.func75,Tryz.ntmps75
   go_wp2
   go_ret
   exact⟨rfl,rfl⟩)
 obtain⟨h1,h2,h3,h4,h5,h6,h7,h8,h9,h10,h11,h12,h13⟩:=h
 have e:cnt op=0:=by simp[cnt,h2,h3,h4,h5,h6,h7,h8,h9,h10,h11,h12,h13]
 rw[e]
 have t2:(op==2)=false:=beq_eq_false_iff_ne.2 h2
 have t3:(op==3)=false:=beq_eq_false_iff_ne.2 h3
 have t4:(op==4)=false:=beq_eq_false_iff_ne.2 h4
 have t5:(op==5)=false:=beq_eq_false_iff_ne.2 h5
 have t6:(op==6)=false:=beq_eq_false_iff_ne.2 h6
 have t7:(op==7)=false:=beq_eq_false_iff_ne.2 h7
 have t8:(op==8)=false:=beq_eq_false_iff_ne.2 h8
 have t9:(op==9)=false:=beq_eq_false_iff_ne.2 h9
 have t10:(op==10)=false:=beq_eq_false_iff_ne.2 h10
 have t11:(op==11)=false:=beq_eq_false_iff_ne.2 h11
 have t12:(op==12)=false:=beq_eq_false_iff_ne.2 h12
 have t13:(op==13)=false:=beq_eq_false_iff_ne.2 h13
 clear e h1 h2 h3 h4 h5 h6 h7 h8 h9 h10 h11 h12 h13
 go_enter Tryz.func75,Tryz.ntmps75
 go_wp2
 go_ret
 exact⟨rfl,rfl⟩
structure IS (w:World)(lo hi:Nat)(a:Option Addr)(n:Nat)(xs:List Int):Prop where
 len:xs.length=n
 at_:n=0∨∃g off,a=some ⟨g,off,none⟩∧lo≤g∧g<hi∧g<w.heap.size∧∀k,k<n→w.cell? ⟨g,off+k,none⟩=some (.int .i64 (xs.getD k 0))
theorem IS.keep {w w':World}{lo hi l h:Nat}{a:Option Addr}{n:Nat}{xs:List Int}(f:IS w lo hi a n xs)(k:Kept l h w w')(hd:hi≤l∨h≤lo∨h≤l):IS w' lo hi a n xs:=
 ⟨f.len,by
  rcases f.at_ with h0|⟨g,off,e,h1,h2,h3,h4⟩
  ·exact .inl h0
  ·exact .inr ⟨g,off,e,h1,h2,Nat.lt_of_lt_of_le h3 k.size,fun j hj=>by rw[k.cell (p:=⟨g,off+j,none⟩) h3 (by show ¬(l≤g∧g<h);omega)];exact h4 j hj⟩⟩
theorem IS.prefix {w:World}{lo hi:Nat}{a:Option Addr}{n:Nat}{xs:List Int}(f:IS w lo hi a n xs)(m:Nat)(hm:m≤n):IS w lo hi a m (xs.take m):=
 ⟨by rw[List.length_take,f.len];omega,by
  rcases f.at_ with h0|⟨g,off,e,a1,a2,a3,a4⟩
  ·exact .inl (by omega)
  ·refine .inr ⟨g,off,e,a1,a2,a3,fun k hk=>?_⟩
   rw[a4 k (by omega)]
   congr 2
   simp only[List.getD_eq_getElem?_getD]
   rw[List.getElem?_take_of_lt hk]⟩
theorem all_snoc {xs:List Int}{n:Int}{k:Nat}(hk:k<xs.length)(h:(xs.take k).all (· ==n)=true)(t:(xs.getD k 0 !=n)=false):(xs.take (k+1)).all (· ==n)=true:=by
 rw[List.take_succ_eq_append_getElem hk,List.all_append,h]
 rw[List.getD_eq_getElem?_getD,List.getElem?_eq_getElem hk] at t
 simp at t
 simp[t]
theorem all_bad {xs:List Int}{n:Int}{k:Nat}(hk:k<xs.length)(t:(xs.getD k 0 !=n)=true):xs.all (· ==n)=false:=by
 rw[List.getD_eq_getElem?_getD,List.getElem?_eq_getElem hk] at t
 simp at t
 rw[List.all_eq_false]
 exact⟨xs[k],List.getElem_mem _,by simp[t]⟩
theorem allAre_pos (w:World)(g off m cap:Nat)(n:Int)(xs:List Int)(hx:xs.length=m)(hm:m≤1099511627776)
  (hc:∀k,k<m→w.cell? ⟨g,off+k,none⟩=some (.int .i64 (xs.getD k 0))):
  Calls Tryz.prog 139 #[.slice (some ⟨g,off,none⟩) m cap,.int .i64 n] w fun e w'=>e=.returned (.bool (xs.all (· ==n)))∧w'=w:=by
 have HC:Hid (∀k,k<m→w.cell? ⟨g,off+k,none⟩=some (.int .i64 (xs.getD k 0))):=hc
 have HX:Hid (xs.length=m):=hx
 clear hc hx
 go_enter Tryz.func139,Tryz.ntmps139
 go_wp2_with fail
 go_loop [9] (fun i=>∃k:Nat,k≤m∧i=.int .i64 k∧Hid ((xs.take k).all (· ==n)=true)) (fun i=>m-(intOf i).toNat)
 case atStart=>exact⟨0,Nat.zero_le _,rfl,rfl⟩
 case round=>
  obtain⟨k,hk,rfl,hA⟩:=hrel
  by_cases hlt:k<m
  ·have c:=HC.out k hlt
   cases t:(xs.getD k 0 !=n)
   ·have R:Hid _:=all_snoc (by rw[HX.out];exact hlt) hA.out t
    generalize xs.getD k 0=x at c t
    go_wp2
    go_round
    case rel=>exact⟨k+1,by omega,by go_num,R⟩
    case measure=>simp[intOf];omega
   ·have R:Hid (xs.all (· ==n)=false):=all_bad (by rw[HX.out];exact hlt) t
    generalize xs.getD k 0=x at c t
    go_wp2
    go_ret
    exact⟨by rw[R.out];rfl,rfl⟩
  ·obtain rfl:k=m:=by omega
   have R:Hid (xs.all (· ==n)=true):=by
    have:=hA.out
    rw[List.take_of_length_le (by rw[HX.out];omega)] at this
    exact this
   clear hA
   go_wp2
   go_ret
   exact⟨by rw[R.out];rfl,rfl⟩
theorem allAre_zero (w:World)(a:Option Addr)(cap:Nat)(n:Int):
  Calls Tryz.prog 139 #[.slice a 0 cap,.int .i64 n] w fun e w'=>e=.returned (.bool true)∧w'=w:=by
 go_enter Tryz.func139,Tryz.ntmps139
 go_wp2_with fail
 refine wp_loop_rounds 1 ?_
 rw[rounds_succ]
 go_wp2
 go_ret
 exact⟨rfl,rfl⟩
theorem allAre (w:World)(lo hi:Nat)(a:Option Addr)(m cap:Nat)(n:Int)(xs:List Int)(f:IS w lo hi a m xs)(hm:m≤1099511627776):
  Calls Tryz.prog 139 #[.slice a m cap,.int .i64 n] w fun e w'=>e=.returned (.bool (xs.all (· ==n)))∧w'=w:=by
 rcases f.at_ with rfl|⟨g,off,rfl,a1,a2,a3,a4⟩
 ·have:xs=[]:=List.length_eq_zero_iff.1 f.len
  subst this
  exact allAre_zero w a cap n
 ·exact allAre_pos w g off m cap n xs f.len hm a4
end Go.Proofs.YtgamjhpebmmjcaaGreatDoor
namespace Go.Proofs.YtgamjhpebmmjcaaGreatDoor
set_option maxRecDepth 100000
set_option maxHeartbeats 40000000
open Go.RowKit Flt
attribute [local go_sem] alloc_drewN setCell_drewN run_store_float
structure YS (w:World)(a:Option Addr)(n:Nat)(xs:List Int):Prop where
 len:xs.length=n
 lt:∀x∈xs,0≤x∧x<256
 at_:n=0∨∃g off,a=some ⟨g,off,none⟩∧g<w.heap.size∧∀k,k<n→w.cell? ⟨g,off+k,none⟩=some (.int .u8 (xs.getD k 0))
theorem YS.keep {w w':World}{a:Option Addr}{n:Nat}{xs:List Int}(f:YS w a n xs)(k:Kept 0 0 w w'):YS w' a n xs:=
 ⟨f.len,f.lt,by
  rcases f.at_ with h0|⟨g,off,e,h3,h4⟩
  ·exact .inl h0
  ·exact .inr ⟨g,off,e,Nat.lt_of_lt_of_le h3 k.size,fun j hj=>by rw[k.cell (p:=⟨g,off+j,none⟩) h3 (by omega)];exact h4 j hj⟩⟩
theorem infoY:(Tryz.prog.info? 5).map (fun i=>(i.zero,i.size,i.bytes))=some (some (.int .u8 0),1,1):=by kernel_rfl
end Go.Proofs.YtgamjhpebmmjcaaGreatDoor
namespace Go.Proofs.YtgamjhpebmmjcaaGreatDoor
set_option maxRecDepth 100000
set_option maxHeartbeats 40000000
open Go.RowKit Flt
theorem fnNum_long (w:World)(a:Option Addr)(n cap:Nat)(h:¬n≤1048576):Calls Tryz.prog 3 #[.slice a n cap] w fun e w'=>e=.returned (.bool true)∧Kept 0 0 w w':=by
 have h3:1048576<n:=by omega
 clear h
 go_enter Tryz.func3,Tryz.ntmps3
 go_wp2
 go_ret
 exact⟨rfl,Kept.refl 0 0 w⟩
end Go.Proofs.YtgamjhpebmmjcaaGreatDoor
namespace Go.Proofs.YtgamjhpebmmjcaaGreatDoor
set_option maxRecDepth 100000
set_option maxHeartbeats 40000000
open Go.ChangeShapes Go.WideShapes Go.ChangeAt Go.RowKit Flt
theorem cellsByte:Tryz.prog.cellsOf 5=1:=by kernel_rfl
theorem laidOutQ:laidOutB Tryz.prog=true:=by kernel_rfl
theorem open_bytes {H:Type}{enc:TypeId×Value→H}{w:World}{base:Nat}{spare:Nat→Bool}{held:Bool}{a:Option Addr}{n cap:Nat}{d:DataW H}{ps:List MemPlace}
  (h:DataW.Trod enc Tryz.prog w base spare held 22 (.slice a n cap) d ps):n≤cap∧∃xs,YS w a n xs:=by
 obtain⟨fuel,hf⟩:=h
 rcases Deep.open_slice1 Tryz.underlying22 cellsByte hf with⟨hcs,_⟩|⟨x,l,c,m,n',V,D,Pl,hcs,_,hl,_,hm,_,hV⟩
 ·simp[Value.cells] at hcs
  obtain⟨rfl,rfl,rfl⟩:=hcs
  exact⟨Nat.le_refl _,[],rfl,by simp,.inl rfl⟩
 ·simp[Value.cells] at hcs
  obtain⟨rfl,rfl,rfl⟩:=hcs
  refine⟨hl,?_⟩
  have hlm:n≤m:=by rw[hm];split<;>omega
  have key:∀i,i<n→∃b:Int,w.cell? (x.add i)=some (.int .u8 b)∧0≤b∧b<256:=fun i hi=>by
   obtain⟨h1,h2⟩:=hV i (by omega)
   obtain⟨b,e,hw⟩:=DataW.trod_int Tryz.underlying5 h2
   simp at e
   have hb:0≤b∧b<256:=by
    have:=hw.2
    simp[Lit.wf,IntKind.min,IntKind.max,IntKind.signed,IntKind.bits] at this
    omega
   exact⟨b,by rw[h1,e],hb.1,hb.2⟩
  obtain⟨f,hf'⟩:=Deep.choose_lt (α:=Int) (p:=fun i b=>w.cell? (x.add i)=some (.int .u8 b)∧0≤b∧b<256) key
  refine⟨(List.range n).map f,by simp,?_,?_⟩
  ·intro y hy
   simp only[List.mem_map,List.mem_range] at hy
   obtain⟨i,hi,rfl⟩:=hy
   exact(hf' i hi).2
  ·rcases Nat.eq_zero_or_pos n with h0|h0
   ·exact .inl h0
   ·obtain⟨b,off,spot⟩:=x
    have hspot:spot=none:=by simpa[Addr.add] using World.cell?_spot (hf' 0 h0).1
    subst hspot
    have h2:∀k,k<n→w.cell? ⟨b,off+k,none⟩=some (.int .u8 (((List.range n).map f).getD k 0)):=fun k hk=>by
     have h1:=(hf' k hk).1
     rw[show((List.range n).map f).getD k 0=f k by simp[List.getD_eq_getElem?_getD,hk]]
     by_cases hk0:k=0
     ·subst hk0;simpa[Addr.add] using h1
     ·simpa[Addr.add,hk0] using h1
    have hb:=World.block_lt_of_cell? (h:=h2 0 h0)
    exact .inr ⟨b,off,rfl,hb,h2⟩
end Go.Proofs.YtgamjhpebmmjcaaGreatDoor
