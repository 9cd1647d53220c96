import Derived.Test.YtiacbhjphaldlaaGreatDoorP00
import Derived.Test.YtiacbhjphaldlaaGreatDoorRows
namespace Go.Proofs.Z
set_option maxRecDepth 1000000
set_option maxHeartbeats 0
section
open Tryz
section
open Go.ChangeShapes Go.WideShapes Go.ChangeAt Go.RowKit
theorem own:ownKnob prog.godebug=none:=by kernel_rfl
theorem dI(w:World)(n o):(w.drewN n).alloc o=(w.alloc o).drewN n:=rfl
theorem dG(w:World)(n a v):(w.drewN n).setCell a v=(w.setCell a v).drewN n:=rfl
end
section
variable{s t:Bool}{r a b q:Nat}
namespace Flt
open Ieee
def W(s:Bool)(r:Nat):Nat:=if s then 9223372036854775808+r else r
def Maa(r:Nat):Nat:=if r<4503599627370496 then r else 4503599627370496+r%4503599627370496
def E(r:Nat):Nat:=r/4503599627370496-1
def val(r:Nat):Nat:=Maa r*2 ^ E r
def p2(n:Nat):Nat:=2 ^ n
def sg(s:Bool)(n:Nat):Int:=if s then -(n:Int)else (n:Int)
theorem pK:double.binade=4503599627370496:=xab
theorem uS:double.signWeight=9223372036854775808:=xab
theorem rC:double.infRung=9218868437227405312:=xab
theorem rD:double.leastPlace=-1074:=xab
theorem GK:double.fractionBits=52:=rfl
theorem nu(s r):double.word s r=W s r:=by
 unfold Format.word W;rw[uS]
theorem rE(x)(ar:x<18446744073709551616):∃s r,r<9223372036854775808/\x=W s r:=by
 by_cases h:x<9223372036854775808
 ·exact⟨false,x,h,rfl⟩
 refine⟨true,x-9223372036854775808,by omega,?_⟩;unfold W;simp only[if_true];omega
theorem N8(h:r<9223372036854775808):W s r<18446744073709551616:=by
 unfold W;split<;>omega
theorem KA(h:r<9223372036854775808):W s r%9223372036854775808=r:=by
 unfold W;split<;>omega
theorem KB(h:r<9223372036854775808):(W s r/9223372036854775808%2==1)=s:=by
 unfold W;cases s
 ·have:r/9223372036854775808=0:=xaa;simp[this]
 have:(9223372036854775808+r)/9223372036854775808=1:=xaa;simp[this]
theorem N9(ah:r<9223372036854775808)(an:q<9223372036854775808)(h:W s r=W t q):s=t/\r=q:=by
 unfold W at h;cases s<;>cases t<;>simp only[if_true,Bool.false_eq_true,if_false]at h
 ·exact⟨rfl,h⟩
 ·omega
 ·omega
 exact⟨rfl,by omega⟩
theorem ll(h:r<9218868437227405312):double.read (W s r)=.number s (Maa r) (-1074+(E r:Nat)):=by
 have ah:r<9223372036854775808:=xaa;unfold Format.read;simp only[uS,rC,pK,rD,KA ah,KB ah];unfold Maa E;by_cases z:r<4503599627370496
 ·rw[h3 z,h3 z];have:r/4503599627370496=0:=xaa;rw[this];rfl
 rw[h2 z,h3 h,h2 z]
theorem mN:double.read (W s 9218868437227405312)=.infinity s:=by
 cases s<;>decide
theorem rG(h:9218868437227405312<r)(ah:r<9223372036854775808):double.read (W s r)=.nan s (r-9218868437227405312):=by
 unfold Format.read;simp only[uS,rC,pK,rD,KA ah,KB ah];rw[h2 xaa,h2 xaa,h2 xaa]
theorem PI(h:4503599627370496<=r):4503599627370496<=Maa r:=by
 unfold Maa;rw[h2 xaa];omega
theorem PK(r):Maa r<9007199254740992:=by
 unfold Maa;split<;>omega
theorem Oa(h:0<r):0<Maa r:=by
 unfold Maa;split<;>omega
theorem GL(h:r<9007199254740992):E r=0:=by
 unfold E;omega
theorem pL(h:r<9007199254740992):val r=r:=by
 unfold val;rw[GL h,Nat.pow_zero,Nat.mul_one];unfold Maa;split<;>omega
theorem Ah(r):E r*4503599627370496+Maa r=r:=by
 unfold E Maa;split<;>omega
theorem C8(h:a<=b):2 ^ a<=2 ^ b:=Nat.pow_le_pow_right xaa h
theorem yL(h:r<q):val r<val q:=by
 by_cases bl:E r=E q
 ·unfold val;rw[bl];have z:=Ah r;have J:=Ah q;rw[bl]at z;exact Nat.mul_lt_mul_of_pos_right xaa (Nat.two_pow_pos _)
 have l:E r<E q:=by
  have:E r<=E q:=by unfold E;omega
  omega
 have an:4503599627370496<=q:=by unfold E at l;omega
 have a:=PI an;have b:=PK r;have c:2 ^ (E r+1)<=2 ^ E q:=C8 l;have p:0<2 ^ E r:=Nat.two_pow_pos _;unfold val
 calc Maa r*2 ^ E r<9007199254740992*2 ^ E r:=Nat.mul_lt_mul_of_pos_right b p
  _=4503599627370496*2 ^ (E r+1):=ix Nat.pow_succ
  _<=4503599627370496*2 ^ E q:=Nat.mul_le_mul_left _ c
  _<=Maa q*2 ^ E q:=Nat.mul_le_mul_right _ a
theorem Ai(h:val r=val q):r=q:=by
 obtain z|z|z:=Nat.lt_trichotomy r q
 ·have:=yL z;omega
 ·exact z
 have:=yL z;omega
theorem mO:val 0=0:=rfl
theorem GM(h:0<r):0<val r:=by have:=yL h;rw[mO]at this;exact this
theorem tT(s m k):signed s m k=sg s (m*2 ^ k):=by
 unfold signed sg;rw[Nat.shiftLeft_eq]
theorem uT(s a b):sg s (a*b)=sg s a*(b:Int):=by
 unfold sg;cases s
 ·simp
 simp[Int.neg_mul]
theorem oe{x y}(k:Nat)(H:0<k):compare (x*(k:Int)) (y*(k:Int))=compare x y:=by
 have V:(0:Int)<k:=xaa;obtain h|h|h:=Int.lt_trichotomy x y
 ·rw[Int.compare_eq_lt.2 h];exact Int.compare_eq_lt.2 (Int.mul_lt_mul_of_pos_right h V)
 ·subst h;rw[Int.compare_eq_eq.2 rfl,Int.compare_eq_eq.2 rfl]
 rw[Int.compare_eq_gt.2 h];exact Int.compare_eq_gt.2 (Int.mul_lt_mul_of_pos_right h V)
theorem pM(ah:r<9218868437227405312)(an:q<9218868437227405312):
  double.order (W s r) (W t q)=some (compare (sg s (val r)) (sg t (val q))):=by
 unfold Format.order;rw[ll ah,ll an];simp only[Datum.order,Option.some.injEq];rw[tT,tT];obtain h|h:=Nat.le_total (E r) (E q)
 ·have K:min (-1074+(E r:Int)) (-1074+(E q:Int))=-1074+(E r:Int):=xaa;rw[K];have a6:(-1074+(E r:Int)-(-1074+(E r:Int))).toNat=0:=xaa;have ag:(-1074+(E q:Int)-(-1074+(E r:Int))).toNat=E q-E r:=xaa;rw[a6,ag,<-oe (2 ^ E r) (Nat.two_pow_pos _),<-uT,<-uT];exact xhf
 have K:min (-1074+(E r:Int)) (-1074+(E q:Int))=-1074+(E q:Int):=xaa;rw[K];have a6:(-1074+(E q:Int)-(-1074+(E q:Int))).toNat=0:=xaa;have ag:(-1074+(E r:Int)-(-1074+(E q:Int))).toNat=E r-E q:=xaa;rw[a6,ag,<-oe (2 ^ E q) (Nat.two_pow_pos _),<-uT,<-uT];exact xhf
theorem rH{x y}(h:∃s t,double.read x=.nan s t):double.order x y=none:=by
 obtain⟨s,t,h⟩:=h;unfold Format.order;rw[h];rfl
def dbl(r:Nat):Nat:=if r<4503599627370496 then 2*r else r+4503599627370496
theorem GN(r):val (dbl r)=2*val r:=by
 unfold dbl;split
 ·rename_i h;rw[pL xaa,pL xaa]
 rename_i h;unfold val;have K:Maa (r+4503599627370496)=Maa r:=by unfold Maa;rw[h2 xaa,h2 h];omega
 have a6:E (r+4503599627370496)=E r+1:=by unfold E;omega
 rw[K,a6,Nat.pow_succ];ac_rfl
theorem rep(t)(az:t<9007199254740992):∀k,∃r,val r=t*2 ^ k
 |0=>⟨t,by rw[pL az,Nat.pow_zero,Nat.mul_one]⟩
 |k+1=>by
  obtain⟨r,ah⟩:=rep t az k
  exact⟨_,by rw[GN,ah,Nat.pow_succ];ac_rfl⟩
theorem uU(h:r<=9218868437227405312):double.order (W s r) (W s r)=some .eq:=by
 obtain h|h:=Nat.lt_or_eq_of_le h
 ·rw[pM h h,Int.compare_eq_eq.2 rfl]
 subst h;cases s<;>decide
theorem C9(h:9218868437227405312<r)(ah:r<9223372036854775808):∃s' t,double.read (W s r)=.nan s' t:=⟨_,_,rG h ah⟩
theorem uV(h:9218868437227405312<r)(ah:r<9223372036854775808):double.order (W s r) (W s r)=none:=
 rH (C9 h ah)
theorem wM(s)(h:0<r):compare (sg s (val r)) (sg false (val 0))=if s then .lt else .gt:=by
 have:=GM h;unfold sg;cases s
 ·simp only[Bool.false_eq_true,if_false];exact Int.compare_eq_gt.2 (by rw[mO];omega)
 simp only[if_true,Bool.false_eq_true,if_false];exact Int.compare_eq_lt.2 (by rw[mO];omega)
theorem rI(aC:0<r)(h:r<=9218868437227405312):double.order (W s r) 0=some (if s then .lt else .gt):=by
 obtain h|h:=Nat.lt_or_eq_of_le h
 ·have:=pM (s:=s) (t:=false) h (by omega:0<9218868437227405312);rw[wM s aC]at this;exact this
 subst h;cases s<;>decide
theorem lW:double.order (W s 0) 0=some .eq:=by cases s<;>decide
theorem og:double.div 4607182418800017408 (W s 0)=some (W s 9218868437227405312):=by cases s<;>decide
theorem K9(h:sg s a=sg t b):a=b/\(s=t\/a=0):=by
 unfold sg at h;cases s<;>cases t<;>simp only[if_true,Bool.false_eq_true,if_false]at h
 ·exact⟨by omega,.inl rfl⟩
 ·exact⟨by omega,.inr xaa⟩
 ·exact⟨by omega,.inr xaa⟩
 exact⟨by omega,.inl rfl⟩
theorem yM(ah:r<=9218868437227405312)(an:q<=9218868437227405312):
  (double.order (W s r) (W t q)==some .eq)=decide (r=q/\(s=t\/r=0)):=by
 obtain z|z:=Nat.lt_or_eq_of_le ah
 ·obtain J|J:=Nat.lt_or_eq_of_le an
  ·rw[pM z J,Bool.eq_iff_iff];simp only[beq_iff_eq,Option.some.injEq,decide_eq_true_eq,Int.compare_eq_eq];constructor
   ·intro h;obtain⟨a,b⟩:=K9 h;have:=Ai a;refine⟨this,?_⟩;obtain b|b:=b
    ·exact .inl b
    exact .inr (Ai (by rw[b,mO]))
   rintro⟨rfl,h|h⟩
   ·rw[h]
   subst h;rw[mO];cases s<;>cases t<;>rfl
  subst J;rw[Format.order,ll z,mN];have:¬(r=9218868437227405312/\(s=t\/r=0)):=xaa;rw[yaw this];cases t<;>rfl
 subst z;obtain J|J:=Nat.lt_or_eq_of_le an
 ·rw[Format.order,ll J,mN];have:¬(9218868437227405312=q/\(s=t\/9218868437227405312=0)):=xaa;rw[yaw this];cases s<;>rfl
 subst J;rw[Format.order,mN,mN];cases s<;>cases t<;>decide
end Flt
end
section
open Go.RowKit Flt
variable{s:Bool}{x y r:Nat}
theorem oQ(h:r<=9218868437227405312):(FloatKind.f64.format.order (W s r) (W s r) !=some .eq)=false:=by
 rw[show FloatKind.f64.format.order (W s r) _=some _ from uU h];rfl
theorem qS(h:9218868437227405312<r)(ah:r<9223372036854775808):(FloatKind.f64.format.order (W s r) (W s r) !=some .eq)=true:=by
 rw[show FloatKind.f64.format.order (W s r) _=none from uV h ah];rfl
def fb(x:Nat):Nat:=if FloatKind.f64.format.order x x !=some .eq then 9221120237041090560 else x
theorem uW(h:r<=9218868437227405312):fb (W s r)=W s r:=by unfold fb;rw[oQ h];rfl
theorem uX(h:9218868437227405312<r)(ah:r<9223372036854775808):fb (W s r)=9221120237041090560:=by unfold fb;rw[qS h ah];rfl
theorem Ob{t q}(ah:r<9223372036854775808)(an:q<9223372036854775808):(((W s r:Nat):Int)==((W t q:Nat):Int))=decide (r=q/\s=t):=by
 grind[N9]
theorem wN(ah:r<=9218868437227405312):(((W s r:Nat):Int)==9221120237041090560)=false/\((9221120237041090560:Int)==((W s r:Nat):Int))=false:=by
 grind[W]
abbrev f64:Ieee.Format:=FloatKind.f64.format
theorem yN{d:Ieee.Datum}:(d.order d !=some .eq)=d.isNaN:=by
 cases d with
 |number s m i=>simp[Ieee.Datum.order,Ieee.Datum.isNaN]
 |infinity s=>cases s<;>rfl
 |nan s t=>rfl
theorem Aj(x):(FloatKind.f64.format.order x x !=some .eq)=(FloatKind.f64.format.read x).isNaN:=yN
theorem pN(h:(f64.read x).isNaN=true):fb x=9221120237041090560:=by
 unfold fb;rw[Aj,h];rfl
theorem Bt(h:(f64.read x).isNaN=false):fb x=x:=by
 unfold fb;rw[Aj,h];rfl
theorem Oc:(f64.read 9221120237041090560).isNaN=true:=xab
theorem Da(h:fb x=fb y):x=y\/((f64.read x).isNaN=true/\(f64.read y).isNaN=true):=by
 grind[Bt,pN,Oc]
theorem Bu(ar:(f64.read x).isNaN=true)(aY:(f64.read y).isNaN=true):fb x=fb y:=by
 rw[pN ar,pN aY]
def cop(op:BinOp)(x y:Nat):Nat:=(floatBits op .f64 x y).getD 9221120237041090560
def fop(op:BinOp)(x y:Nat)(w:World):Nat:=
 (floatBits op .f64 x y).getD (Question.cut (.nanBits .f64 x y) (w.tape w.drawn (.nanBits .f64 x y)))
def fnd(op:BinOp)(x y:Nat):Nat:=if (floatBits op .f64 x y).isSome then 0 else 1
theorem Ak(x y t):(f64.read (Question.cut (.nanBits .f64 x y) t)).isNaN=true/\Question.cut (.nanBits .f64 x y) t<18446744073709551616:=by
 simp only[Question.cut];obtain⟨k,H,aV⟩:∃k,(t/2)%(2 ^ 52-1)=k/\k<4503599627370495:=⟨_,rfl,Nat.mod_lt _ xab⟩
 rw[H];obtain h|h:=Nat.mod_two_eq_zero_or_one t
 ·rw[h];have e:0*2 ^ 63+9218868437227405312+1+k=W false (9218868437227405312+1+k):=by unfold W;simp
  exact xez
 rw[h];have e:1*2 ^ 63+9218868437227405312+1+k=W true (9218868437227405312+1+k):=by unfold W;simp;omega
 exact xez
theorem Db(ax x y w):fb (fop ax x y w)=fb (cop ax x y):=by
 unfold fop cop;cases floatBits ax .f64 x y with
 |none=>grind[Bu,Ak,Oc]
 |some r=>rfl
theorem Dc{ax x y w}:fop ax x y w<18446744073709551616:=by
 unfold fop;cases h:floatBits ax .f64 x y with
 |none=>grind[Ak]
 |some r=>
  have:=floatBits_wf h;simpa[Lit.wf] using this
section
variable{P:Program} (w:World)
theorem GO(ax)(av:ax=.add\/ax=.sub\/ax=.mul\/ax=.quo)(t x y):
  (binOp ax t (.float .f64 x) (.float .f64 y)).run P w=.ok (.float .f64 (fop ax x y w)) (w.drewN (fnd ax x y)):=by
 cases h:floatBits ax .f64 x y with
 |some r=>
  have K:fop ax x y w=r:=by unfold fop;rw[h];rfl
  have a6:fnd ax x y=0:=by unfold fnd;rw[h];rfl
  rw[K,a6,World.drewN_zero];exact run_float_arith w _ t _ x y r h
 |none=>
  have K:fop ax x y w=Question.cut (.nanBits .f64 x y) (w.tape w.drawn (.nanBits .f64 x y)):=by unfold fop;rw[h];rfl
  have a6:fnd ax x y=1:=by unfold fnd;rw[h];rfl
  rw[K,a6];unfold floatBits at h;obtain rfl|rfl|rfl|rfl:=av
  all_goals
   simp only at h
   simp[binOp,Op.floatArith,h,choose,Sem.run,Question.forced]
   rfl
theorem wO(t x y):(binOp .quo t (.float .f64 x) (.float .f64 y)).run P w=.ok (.float .f64 (fop .quo x y w)) (w.drewN (fnd .quo x y)):=GO w .quo xac t x y
end
theorem Dd(b w):(convert 40 40 (.float .f64 b)).run prog w=.ok (.float .f64 b) w:=
 run_convert_float_float w 40 40 .f64 .f64 b b (by kernel_rfl) underlying40 (by simp[floatToFloatBits])
end
end
section
open Tryz Go.RowKit Flt
section
variable{lo hi:Nat}{w D a b c:World}
theorem W0(s){r}(aC:0<r)(h:r<=9218868437227405312):(FloatKind.f64.format.order (W s r) 0==some .eq)=false:=by
 rw[show FloatKind.f64.format.order _ 0=_ from rI aC h];cases s<;>rfl
theorem Od{x y w}(ar:x<18446744073709551616)(aY:y<18446744073709551616):
  Calls prog 85 #[.float .f64 x,.float .f64 y] w λe D=>e=.returned (.bool ((fb x:Int)==(fb y:Int)))/\D=w:=by
 obtain⟨s,r,ah,rfl⟩:=rE x ar;obtain⟨t,q,an,rfl⟩:=rE y aY;clear ar aY;by_cases z:r<=9218868437227405312
 ·have n1:=oQ (s:=s) z;by_cases J:q<=9218868437227405312
  ·have aI:=oQ (s:=t) J;rw[uW z,uW J,Ob ah an];by_cases bR:r=0/\q=0
   ·obtain⟨rfl,rfl⟩:=bR;have a1:FloatKind.f64.format.order (W s 0) 0=some _:=lW;have a2:FloatKind.f64.format.order (W t 0) 0=some _:=lW;have L:=λw=>run_float_arith (P:=prog) w .quo 40 .f64 _ (W s 0) _ og;have bi:=λw=>run_float_arith (P:=prog) w .quo 40 .f64 _ (W t 0) _ og;have c1:FloatKind.f64.format.order (W s 9218868437227405312) 0=some _:=rI xaa xaa;have c2:FloatKind.f64.format.order (W t 9218868437227405312) 0=some _:=rI xaa xaa;cases s<;>cases t
    all_goals
     go_enter func85,ntmps85
     go_wp2
     go_ret
     exact⟨rfl,rfl⟩
   have l:(FloatKind.f64.format.order (W s r) (W t q)==some _)=_:=yM z J
   rw[show decide _=decide (r=q/\s=t) by
    rw[Bool.eq_iff_iff];simp only[decide_eq_true_eq];constructor
    ·rintro⟨a,b|b⟩
     ·exact⟨a,b⟩
     exact absurd ⟨b,by omega⟩ bR
    rintro⟨a,b⟩;exact⟨a,.inl b⟩]at l
   generalize decide (r=q/\s=t)=aA at l⊢;by_cases ai:r=0
   ·have i:0<q:=xaa;subst ai;have a1:FloatKind.f64.format.order (W s 0) 0=some _:=lW;have a2:=W0 t i J;exact xhi
   have a1:=W0 s (by omega:0<r) z;exact xhi
  have aI:=qS (s:=t) (by omega:9218868437227405312<q) an;rw[uW z,uX xaa an,show(((9221120237041090560:Nat)):Int)=9221120237041090560 from rfl,(wN z).1];exact xdo
 have n1:=qS (s:=s) (by omega:9218868437227405312<r) ah;by_cases J:q<=9218868437227405312
 ·have aI:=oQ (s:=t) J;rw[uW J,uX xaa ah,show(((9221120237041090560:Nat)):Int)=9221120237041090560 from rfl,(wN J).2];exact xdo
 have aI:=qS (s:=t) (by omega:9218868437227405312<q) an;rw[uX xaa ah,uX xaa an,show(((9221120237041090560:Nat):Int)==(9221120237041090560:Nat))=true from beq_self_eq_true _];exact xdo
theorem dF{P a m}(k b):(store a (.float k b) m).run P w=stored P w a (.float k b) m:=run_store P w a _ m rfl
structure Kept(lo hi:Nat)(w w':World):Prop where
 os:w'.os=w.os
 tape:w'.tape=w.tape
 output:w'.output=w.output
 size:w.heap.size<=w'.heap.size
 block:∀k,k<w.heap.size->¬(lo<=k/\k<hi)->w'.heap[k]? =w.heap[k]?
theorem Kept.refl(lo hi w):Kept lo hi w w:=⟨rfl,rfl,rfl,yac,λ_ _ _=>rfl⟩
theorem ib{w:World}:Kept 0 0 w w:=Kept.refl 0 0 w
theorem Kept.trans(h:Kept lo hi a b)(k:Kept lo hi b c):Kept lo hi a c:=
 ⟨k.os.trans h.os,k.tape.trans h.tape,k.output.trans h.output,yan h.size k.size,λi T V=>(k.block i (yaj T h.size) V).trans (h.block i T V)⟩
theorem Kept.mono{C T}(h:Kept lo hi w D)(ai:∀k,k<w.heap.size->lo<=k/\k<hi->C<=k/\k<T):Kept C T w D:=
 ⟨h.os,h.tape,h.output,h.size,λk H V=>h.block k H λc=>V (ai k H c)⟩
theorem Kept.new{l h'}(h:Kept lo hi a b)(k:Kept l h' b c)(ab:a.heap.size<=l):Kept lo hi a c:=
 ⟨k.os.trans h.os,k.tape.trans h.tape,k.output.trans h.output,yan h.size k.size,λi T V=>(k.block i (yaj T h.size) (λc=>by omega)).trans (h.block i T V)⟩
theorem Kept.below(h:Kept 0 0 w D):Below w.heap.size w D:=⟨h.os,h.tape,h.output,h.size,λk H=>h.block k H xaa⟩
theorem ed(lo hi){w}(m):Kept lo hi w (w.drewN m):=⟨rfl,rfl,rfl,yac,λ_ _ _=>rfl⟩
theorem dE(lo hi w o):Kept lo hi w (w.alloc o):=⟨rfl,rfl,rfl,by simp,λk H _=>Below.heap_alloc w o k H⟩
theorem d9(w a v)(h:lo<=a.block/\a.block<hi\/w.heap.size<=a.block):Kept lo hi w (w.setCell a v):=
 ⟨rfl,rfl,rfl,by simp,λk H V=>Below.heap_setCell w a v k (λe=>by omega)⟩
theorem Kept.cell(h:Kept lo hi w D){p}(aB:p.block<w.heap.size)(V:¬(lo<=p.block/\p.block<hi)):D.cell? p=w.cell? p:=World.cell?_of_block (w:=w) (h.block p.block aB V)
theorem Kept.frozen(h:Kept lo hi w D){p}(aB:p.block<w.heap.size)(V:¬(lo<=p.block/\p.block<hi)):D.frozen? p=w.frozen? p:=World.frozen?_of_block (w:=w) (h.block p.block aB V)
def Drawn(w w':World):Prop:=∃m,w'=w.drewN m
theorem Drawn.refl(w):Drawn w w:=⟨0,rfl⟩
theorem Drawn.more(h:Drawn w D)(n):Drawn w (D.drewN n):=by
 obtain⟨m,rfl⟩:=h;exact⟨_,World.drewN_drewN ..⟩
theorem Drawn.cell(h:Drawn w D)(p):D.cell? p=w.cell? p:=by obtain⟨m,rfl⟩:=h;rfl
theorem Drawn.kept(h:Drawn w D)(lo hi):Kept lo hi w D:=by obtain⟨m,rfl⟩:=h;exact ed _ _ (w:=w) m
end
section
attribute[local go_sem] dI dG dF
def same(xs ys:List Nat):Prop:=xs.map fb=ys.map fb
theorem Bv(n):(FloatKind.f64.format.order (floatOfInt .f64 n) (floatOfInt .f64 n) !=some .eq)=false:=by
 have h:∃s r,r<=9218868437227405312/\floatOfInt .f64 n=W s r:=by
  unfold floatOfInt FloatKind.nearest FloatKind.encode;show ∃s r,r<=9218868437227405312/\Ieee.double.write _=W s r;simp only[Ieee.Format.write,Ieee.Format.nearest];split
  ·exact⟨_,0,by omega,nu _ _⟩
  exact⟨_,_,by rw[rC];omega,nu _ _⟩
 grind[oQ]
