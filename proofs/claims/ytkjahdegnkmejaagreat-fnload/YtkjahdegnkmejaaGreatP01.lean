import Derived.Test.YtkjahdegnkmejaaGreatP00
import Derived.Test.YtkjahdegnkmejaaGreatRows
namespace Go.Proofs.Z
variable{Zp:Prop}
open Tryz
set_option maxRecDepth 1000000
set_option maxHeartbeats 0
section
open Go.ChangeShapes Go.WideShapes Go.ChangeAt Go.RowKit
theorem own:ownKnob prog.godebug=none:=by kernel_rfl
theorem eE(w:World)(n o):(w.drewN n).alloc o=(w.alloc o).drewN n:=rfl
theorem eC(w:World)(n a v):(w.drewN n).setCell a v=(w.setCell a v).drewN n:=rfl
end
section
variable{s t u:Bool}{r a b q p:Nat}
namespace Flt
open Ieee
def W(s:Bool)(r:Nat):Nat:=if s then 9223372036854775808+r else r
def M(r:Nat):Nat:=if r<4503599627370496 then r else 4503599627370496+r%4503599627370496
def E(r:Nat):Nat:=r/4503599627370496-1
def val(r:Nat):Nat:=M r*2 ^ E r
def p2(n:Nat):Nat:=2 ^ n
theorem uz(n):2 ^ n=p2 n:=rfl
theorem ji(a b):p2 (a+b)=p2 a*p2 b:=Nat.pow_add 2 a b
theorem Ag(a):0<p2 a:=Nat.two_pow_pos a
theorem rO(a):p2 (a+1)=2*p2 a:=by unfold p2;rw[Nat.pow_succ,Nat.mul_comm]
theorem mP(r):val r=M r*p2 (E r):=rfl
def sg(s:Bool)(n:Nat):Int:=if s then -(n:Int)else (n:Int)
theorem mB:double.binade=4503599627370496:=xab
theorem vP:double.signWeight=9223372036854775808:=xab
theorem qI:double.infRung=9218868437227405312:=xab
theorem nH:double.leastPlace=-1074:=xab
theorem pP:double.fractionBits=52:=rfl
theorem mQ(s r):double.word s r=W s r:=by
 unfold Format.word W;rw[vP]
theorem px(x)(aH:x<18446744073709551616):∃s r,r<9223372036854775808/\x=W s r:=by
 by_cases h:x<9223372036854775808
 ·exact⟨false,x,h,rfl⟩
 refine⟨true,x-9223372036854775808,by omega,?_⟩;unfold W;simp only[if_true];omega
theorem Ei(h:r<9223372036854775808):W s r<18446744073709551616:=by
 unfold W;split<;>omega
theorem Lv(h:r<9223372036854775808):W s r%9223372036854775808=r:=by
 unfold W;split<;>omega
theorem Lw(h:r<9223372036854775808):(W s r/9223372036854775808%2==1)=s:=by
 unfold W;cases s
 ·have:r/9223372036854775808=0:=xaa;simp[this]
 have:(9223372036854775808+r)/9223372036854775808=1:=xaa;simp[this]
theorem gU(h:r<9218868437227405312):double.read (W s r)=.number s (M r) (-1074+(E r:Nat)):=by
 have au:r<9223372036854775808:=xaa;unfold Format.read;simp only[vP,qI,mB,nH,Lv au,Lw au];unfold M E;by_cases B:r<4503599627370496
 ·rw[iv B,iv B];have:r/4503599627370496=0:=xaa;rw[this];rfl
 rw[ip B,iv h,ip B]
theorem nJ:double.read (W s 9218868437227405312)=.infinity s:=by
 cases s<;>decide
theorem sB(h:9218868437227405312<r)(au:r<9223372036854775808):double.read (W s r)=.nan s (r-9218868437227405312):=by
 unfold Format.read;simp only[vP,qI,mB,nH,Lv au,Lw au];rw[ip xaa,ip xaa,ip xaa]
theorem OM(h:4503599627370496<=r):4503599627370496<=M r:=by
 unfold M;rw[ip xaa];omega
theorem ON(r):M r<9007199254740992:=by
 unfold M;split<;>omega
theorem Ly(h:0<r):0<M r:=by
 unfold M;split<;>omega
theorem Mj:M 0=0:=rfl
theorem vQ(h:r<9007199254740992):E r=0:=by
 unfold E;omega
theorem mC(h:r<9007199254740992):val r=r:=by
 unfold val;rw[vQ h,Nat.pow_zero,Nat.mul_one];unfold M;split<;>omega
theorem vR(r):E r*4503599627370496+M r=r:=by
 unfold E M;split<;>omega
theorem mD(h:a<=b):2 ^ a<=2 ^ b:=Nat.pow_le_pow_right xaa h
theorem nK(h:r<q):val r<val q:=by
 by_cases ay:E r=E q
 ·unfold val;rw[ay];have B:=vR r;have N:=vR q;rw[ay]at B;exact Nat.mul_lt_mul_of_pos_right xaa (Nat.two_pow_pos _)
 have bY:E r<E q:=by
  have:E r<=E q:=by unfold E;omega
  omega
 have am:4503599627370496<=q:=by unfold E at bY;omega
 have a:=OM am;have b:=ON r;have c:2 ^ (E r+1)<=2 ^ E q:=mD bY;have p:0<2 ^ E r:=Nat.two_pow_pos _;unfold val
 calc M r*2 ^ E r<9007199254740992*2 ^ E r:=Nat.mul_lt_mul_of_pos_right b p
  _=4503599627370496*2 ^ (E r+1):=jx Nat.pow_succ
  _<=4503599627370496*2 ^ E q:=Nat.mul_le_mul_left _ c
  _<=M q*2 ^ E q:=Nat.mul_le_mul_right _ a
theorem Mk(h:r<=q):val r<=val q:=by
 rcases Nat.lt_or_eq_of_le h with h|h
 ·exact Nat.le_of_lt (nK h)
 rw[h];exact yad
theorem val_lt_iff:val r<val q↔r<q:=
 ⟨λh=>by rcases Nat.lt_or_ge r q with B|B;exact B;have:=Mk B;omega,nK⟩
theorem rP(h:val r=val q):r=q:=by
 rcases Nat.lt_trichotomy r q with B|B|B
 ·have:=nK B;omega
 ·exact B
 have:=nK B;omega
theorem km:val 0=0:=rfl
theorem vS(h:0<r):0<val r:=by have:=nK h;rw[km]at this;exact this
theorem mE(s m k):signed s m k=sg s (m*2 ^ k):=by
 unfold signed sg;rw[Nat.shiftLeft_eq]
theorem qJ(s a b):sg s (a*b)=sg s a*(b:Int):=by
 unfold sg;cases s
 ·simp
 simp[Int.neg_mul]
theorem pi(x y)(k:Nat)(J:0<k):compare (x*(k:Int)) (y*(k:Int))=compare x y:=by
 have C:(0:Int)<k:=xaa;rcases Int.lt_trichotomy x y with h|h|h
 ·rw[Int.compare_eq_lt.2 h];exact Int.compare_eq_lt.2 (Int.mul_lt_mul_of_pos_right h C)
 ·subst h;rw[Int.compare_eq_eq.2 rfl,Int.compare_eq_eq.2 rfl]
 rw[Int.compare_eq_gt.2 h];exact Int.compare_eq_gt.2 (Int.mul_lt_mul_of_pos_right h C)
theorem oE(au:r<9218868437227405312)(am:q<9218868437227405312):
  double.order (W s r) (W t q)=some (compare (sg s (val r)) (sg t (val q))):=by
 unfold Format.order;rw[gU au,gU am];simp only[Datum.order,Option.some.injEq];rw[mE,mE];rcases Nat.le_total (E r) (E q) with h|h
 ·have ad:min (-1074+(E r:Int)) (-1074+(E q:Int))=-1074+(E r:Int):=xaa;rw[ad];have be:(-1074+(E r:Int)-(-1074+(E r:Int))).toNat=0:=xaa;have ah:(-1074+(E q:Int)-(-1074+(E r:Int))).toNat=E q-E r:=xaa;rw[be,ah,<-pi _ _ (2 ^ E r) (Nat.two_pow_pos _),<-qJ,<-qJ];exact xiw
 have ad:min (-1074+(E r:Int)) (-1074+(E q:Int))=-1074+(E q:Int):=xaa;rw[ad];have be:(-1074+(E q:Int)-(-1074+(E q:Int))).toNat=0:=xaa;have ah:(-1074+(E r:Int)-(-1074+(E q:Int))).toNat=E r-E q:=xaa;rw[be,ah,<-pi _ _ (2 ^ E q) (Nat.two_pow_pos _),<-qJ,<-qJ];exact xiw
theorem sC{x y}(h:∃s t,double.read x=.nan s t):double.order x y=none:=by
 obtain⟨s,t,h⟩:=h;unfold Format.order;rw[h];rfl
theorem jz{m k}(aD:0<m):(m*2 ^ k).log2=m.log2+k:=by
 have aj:m*2 ^ k≠0:=Nat.ne_of_gt (Nat.mul_pos aD (Nat.two_pow_pos _));rw[Nat.log2_eq_iff aj];have a:=Nat.log2_self_le (n:=m) xaa;have b:=@Nat.lt_log2_self m;refine⟨?_,?_⟩
 ·rw[Nat.pow_add];exact Nat.mul_le_mul_right _ a
 rw[show m.log2+k+1=(m.log2+1)+k by omega,Nat.pow_add];exact Nat.mul_lt_mul_of_pos_right b (Nat.two_pow_pos _)
theorem sD(h:4503599627370496<=r):(M r).log2=52:=by
 have a:=OM h;have b:=ON r;rw[Nat.log2_eq_iff xaa];exact⟨by simpa using a,by simpa using b⟩
theorem pQ(aj:0<r)(h:r<4503599627370496):(M r).log2<=51:=by
 have e:M r=r:=by unfold M;rw[iv h]
 rw[e];have:r.log2<52:=(Nat.log2_lt xaa).2 (by simpa using h);omega
theorem kR(s d e r x y)(au:r<9218868437227405312)
  (aL:d*p2 x=val r*p2 y) (aA:(x:Int)-y=e+1074):double.nearest s d e=W s r:=by
 rw[<-uz,<-uz]at aL;by_cases aD:d=0
 ·subst aD;have am:val r*2 ^ y=0:=by rw[<-aL];simp
  have aj:r=0:=by
   rcases Nat.eq_zero_or_pos r with h|h
   ·exact h
   have:=Nat.mul_pos (vS h) (Nat.two_pow_pos y);omega
  subst aj;unfold Format.nearest;rw[iv rfl,mQ]
 have f:0<d:=xaa
 have bl:0<r:=by
  rcases Nat.eq_zero_or_pos r with h|h
  ·subst h;rw[km,Nat.zero_mul]at aL;have:=Nat.mul_pos f (Nat.two_pow_pos x);omega
  exact h
 have bE:=Ly bl
 have ag:d.log2+x=(M r).log2+E r+y:=by
  have:=congrArg Nat.log2 aL;rw[jz f,show val r=M r*2 ^ E r from rfl,Nat.mul_assoc,<-Nat.pow_add,jz bE]at this;omega
 unfold Format.nearest;rw[ip aD];simp only[nH,pP,mB,qI]
 have j:max (e+d.log2-(52:Nat)) (-1074)=-1074+(E r:Int):=by
  rcases Nat.lt_or_ge r 4503599627370496 with h|h
  ·have:=pQ bl h;have bB:E r=0:=vQ xaa;rw[bB]at ag⊢;omega
  have:=sD h;omega
 rw[j]
 have J:Toward.even.cut s (d<<<(e-(-1074+(E r:Int))).toNat) (-1074+(E r:Int)-e).toNat=M r:=by
  rw[Nat.shiftLeft_eq];rcases Int.le_total (-1074+(E r:Int)) e with h|h
  ·
   obtain⟨a,aB⟩:∃a:Nat,e=-1074+(E r:Int)+a:=⟨(e-(-1074+(E r:Int))).toNat,by omega⟩
   have ad:(e-(-1074+(E r:Int))).toNat=a:=xaa
   have be:(-1074+(E r:Int)-e).toNat=0:=xaa
   rw[ad,be]
   have G:d*2 ^ a=M r:=by
    have aH:x=E r+y+a:=xaa
    rw[aH,show val r=M r*2 ^ E r from rfl,Nat.mul_assoc,<-Nat.pow_add,Nat.add_comm _ a,Nat.pow_add,<-Nat.mul_assoc]at aL
    exact Nat.eq_of_mul_eq_mul_right (Nat.two_pow_pos _) aL
   rw[G]
   unfold Toward.cut
   simp only[Nat.zero_min,Nat.shiftLeft_eq,Nat.pow_zero,Nat.mul_one,Nat.div_one,Nat.mod_one]
   simp
  obtain⟨a,aB⟩:∃a:Nat,e+a=-1074+(E r:Int):=⟨(-1074+(E r:Int)-e).toNat,by omega⟩
  have ad:(e-(-1074+(E r:Int))).toNat=0:=xaa;have be:(-1074+(E r:Int)-e).toNat=a:=xaa;rw[ad,be,Nat.pow_zero,Nat.mul_one]
  have G:d=M r*2 ^ a:=by
   have aH:x+a=E r+y:=xaa;have N:d*2 ^ x*2 ^ a=val r*2 ^ y*2 ^ a:=by rw[aL]
   rw[Nat.mul_assoc,<-Nat.pow_add,aH,show val r=M r*2 ^ E r from rfl,Nat.mul_assoc (M r),<-Nat.pow_add,Nat.mul_assoc,Nat.mul_comm (2 ^ (E r+y)),<-Nat.mul_assoc]at N;exact Nat.eq_of_mul_eq_mul_right (Nat.two_pow_pos _) N
  rw[G];unfold Toward.cut;have g:min a ((M r*2 ^ a).log2+2)=a:=by rw[jz bE];omega
  simp only[g,Nat.shiftLeft_eq,Nat.one_mul,Nat.mul_div_cancel _ (Nat.two_pow_pos a),Nat.mul_mod_left];have R:=Nat.two_pow_pos a;simp only[Nat.mul_zero,Nat.not_lt_zero,decide_false,Bool.false_or];have:(2 ^ a==0)=false:=by simp
  rw[this];simp
 rw[J];have e4:(-1074+(E r:Int)- -1074).toNat=E r:=xaa;rw[e4,vR,mQ,Nat.min_eq_left xaa]
theorem uA(au:r<9218868437227405312)(am:q<9218868437227405312):
  double.order (W false r) (W false q)=some (compare r q):=by
 rw[oE au am];have e:∀n,sg false n=n:=λn=>rfl;rw[e,e];congr 1;rcases Nat.lt_trichotomy r q with h|h|h
 ·rw[Nat.compare_eq_lt.2 h];exact Int.compare_eq_lt.2 (i4 (nK h))
 ·subst h;rw[Nat.compare_eq_eq.2 rfl];exact Int.compare_eq_eq.2 rfl
 rw[Nat.compare_eq_gt.2 h];exact Int.compare_eq_gt.2 (i4 (nK h))
theorem Ej(s)(h:r<9223372036854775808):Op.negFloat .f64 (W s r)=W (!s) r:=by
 unfold Op.negFloat;have e:FloatKind.f64.format.exponentBits+FloatKind.f64.format.fractionBits=63:=rfl;rw[e];have hb:r<2 ^ 63:=by simpa using h
 cases s
 ·unfold W;simp only[Bool.false_eq_true,if_false,Bool.not_false,if_true];rw[Nat.xor_comm,show 9223372036854775808=2 ^ 63 by decide];have:=Nat.two_pow_add_eq_or_of_lt hb 1;apply Nat.eq_of_testBit_eq;intro i;rw[Nat.testBit_xor,Nat.testBit_two_pow];rcases Nat.lt_trichotomy i 63 with hi|hi|hi
  ·exact xie
  ·subst hi;rw[Nat.testBit_two_pow_add_eq];simp
  exact xdv
 unfold W;simp only[if_true,Bool.not_true,Bool.false_eq_true,if_false];rw[show 9223372036854775808=2 ^ 63 by decide];apply Nat.eq_of_testBit_eq;intro i;rw[Nat.testBit_xor,Nat.testBit_two_pow];rcases Nat.lt_trichotomy i 63 with hi|hi|hi
 ·exact xie
 ·subst hi;rw[Nat.testBit_two_pow_add_eq];have a:=Nat.testBit_lt_two_pow hb;simp[a]
 exact xdv
theorem uB(au:r<9218868437227405312)(am:q<9218868437227405312)(aA:p<9218868437227405312)
  (h:val r*val q=val p*p2 1074):double.mul (W s r) (W t q)=some (W (s ^^ t) p):=by
 unfold Format.mul;rw[gU au,gU am];simp only[Datum.product,Option.map_some,Format.write,Option.some.injEq];refine kR _ _ _ p (E r+E q) 1074 aA ?_ xaa;rw[<-h,ji,mP,mP];ac_rfl
theorem cQ.qcx(h:Zp:=by
 refine kR _ _ _ p (E r+1074) (52+E q+(k+2)) aA ?_ xaa;rw[show 2*(M r*2 ^ (k+1))=M r*2 ^ (k+2) by rw[Nat.pow_succ 2 (k+1)];ac_rfl];rw[ji _ (k+2),ji 52 _,<-Nat.mul_assoc _,<-h,ji _ _];rw[mP,uz _];generalize p2 1074=z;ac_rfl):Zp:=h
open cQ in
theorem uC(au:r<9218868437227405312)(am:q<9218868437227405312)(aA:p<9218868437227405312)
  (bE:M q=p2 52) (h:val r*p2 1074=val p*(p2 52*p2 (E q))):double.div (W s r) (W t q)=some (W (s ^^ t) p):=by
 unfold Format.div;rw[gU au,gU am];have hn:¬(2 ^ 52=0):=xab;rw[show p2 _=2 ^ 52 from rfl]at bE;simp only[Datum.quotient,bE,ip hn,Option.map_some,Format.write,Option.some.injEq,pP,Nat.log2_two_pow,Nat.shiftLeft_eq]
 have ag:(M r).log2<=52:=by
  rcases Nat.eq_zero_or_pos r with aj|aj
  ·subst aj;rw[Mj];decide
  rcases Nat.lt_or_ge r 4503599627370496 with B|B
  ·have:=pQ aj B;omega
  have:=sD B;omega
 obtain⟨k,J⟩:∃k,52+2+52-(M r).log2=52+(k+1):=⟨53-(M r).log2,by omega⟩
 exact qcw
theorem Ck(s n):(sg s n).natAbs=n:=by unfold sg;cases s<;>simp
theorem Mm(s n):sg (!s) n=-(sg s n):=by unfold sg;cases s<;>simp
theorem OO(s){n}(h:0<n):decide (sg s n<0)=s:=by
 unfold sg;cases s
 ·simp
 simp;omega
theorem uD(aA:p<9218868437227405312)
  (h:sg s (val r)+sg t (val q)=sg u (val p)) (G:p=0->u=(s&&t)):
  (Datum.sum (.number s (M r) (-1074+(E r:Nat))) (.number t (M q) (-1074+(E q:Nat)))).map double.write=some (W u p):=by
 simp only[Datum.sum,Option.map_some,Format.write,Option.some.injEq];obtain⟨b,hb⟩:∃b:Nat,min (-1074+(E r:Int)) (-1074+(E q:Int))=-1074+b:=⟨min (E r) (E q),by omega⟩
 rw[hb];have j:b<=E r:=xaa;have g:b<=E q:=xaa;have be:(-1074+(E r:Int)-(-1074+b)).toNat=E r-b:=xaa;have ah:(-1074+(E q:Int)-(-1074+b)).toNat=E q-b:=xaa;rw[be,ah,mE,mE];generalize bh:sg s _+sg t _=T
 have e:T*(2 ^ b:Nat)=sg u (val p):=by
  rw[<-h,<-bh,Int.add_mul,<-qJ,<-qJ,Nat.mul_assoc,Nat.mul_assoc,Nat.pow_sub_mul_pow 2 j,Nat.pow_sub_mul_pow 2 g];rfl
 have bA:(0:Int)<(2 ^ b:Nat):=i4 (Nat.two_pow_pos b)
 have hn:T.natAbs*2 ^ b=val p:=by
  have:=congrArg Int.natAbs e;rw[Int.natAbs_mul,Ck,Int.natAbs_natCast]at this;exact this
 have aw:(if T=0 then (s&&t)else decide (T<0))=u:=by
  rcases Nat.eq_zero_or_pos p with aj|aj
  ·have:T=0:=by
    subst aj;rw[km]at hn;have:=Nat.mul_eq_zero.1 hn;have p2:=Nat.two_pow_pos b;omega
   rw[iv this,G aj]
  have aL:=vS aj;have f:T≠0:=by intro c;rw[c]at hn;simp at hn;omega
  rw[ip f,<-OO u aL,<-e];congr 1;rw[eq_iff_iff];constructor
  ·intro c;exact Int.mul_neg_of_neg_of_pos c bA
  intro c;rcases Int.lt_or_le T 0 with d|d
  ·exact d
  have:=Int.mul_nonneg d (Int.le_of_lt bA);omega
 rw[aw];exact kR u _ _ p b 0 aA (by rw[<-uz,hn,show p2 0=1 from rfl,Nat.mul_one]) xaa
theorem Cl(au:r<9218868437227405312)(am:q<9218868437227405312)(aA:p<9218868437227405312)
  (h:sg s (val r)+sg t (val q)=sg u (val p)) (G:p=0->u=(s&&t)):double.add (W s r) (W t q)=some (W u p):=by
 unfold Format.add;rw[gU au,gU am];exact uD aA h G
theorem Cm(au:r<9218868437227405312)(am:q<9218868437227405312)(aA:p<9218868437227405312)
  (h:sg s (val r)-sg t (val q)=sg u (val p)) (G:p=0->u=(s&&!t)):double.sub (W s r) (W t q)=some (W u p):=by
 unfold Format.sub;rw[gU au,gU am];exact uD aA (by rw[Mm];omega) G
def dbl(r:Nat):Nat:=if r<4503599627370496 then 2*r else r+4503599627370496
theorem rQ(r):val (dbl r)=2*val r:=by
 unfold dbl;split
 ·rename_i h;rw[mC xaa,mC xaa]
 rename_i h;unfold val;have ad:M (r+4503599627370496)=M r:=by unfold M;rw[ip xaa,ip h];omega
 have be:E (r+4503599627370496)=E r+1:=by unfold E;omega
 rw[ad,be,Nat.pow_succ];ac_rfl
theorem sE(h:9007199254740992<=r):val r=2*val (r-4503599627370496):=by
 rw[<-rQ];unfold dbl;rw[ip xaa];congr 1;omega
theorem Lz:M 4611686018427387904=p2 52:=xab
theorem Ek:E 4611686018427387904=1023:=xab
theorem ID:val 4611686018427387904=p2 1075:=by rw[mP,Lz,Ek,<-ji]
theorem OP:M 4607182418800017408=p2 52:=xab
theorem OQ:E 4607182418800017408=1022:=xab
theorem IE:val 4607182418800017408=p2 1074:=by rw[mP,OP,OQ,<-ji]
theorem LB:M 4841369599423283200=p2 52:=xab
theorem LC:E 4841369599423283200=1074:=xab
theorem IF:val 4841369599423283200=p2 1126:=by rw[mP,LB,LC,<-ji]
theorem IG(h:dbl r<9218868437227405312):double.mul (W s r) (W false 4611686018427387904)=some (W s (dbl r)):=by
 have au:r<9218868437227405312:=by unfold dbl at h;split at h<;>omega
 have:=uB (s:=s) (t:=false) au (by omega:4611686018427387904<9218868437227405312) h (by rw[rQ,ID,rO _];generalize p2 _=z;ac_rfl);rw[this,Bool.xor_false]
theorem rR(au:r<9218868437227405312)(h:val r=2*val p):double.div (W s r) (W false 4611686018427387904)=some (W s p):=by
 have aA:p<9218868437227405312:=by
  refine Nat.lt_of_le_of_lt ?_ au;rcases Nat.lt_or_ge r p with c|c
  ·have:=nK c;omega
  exact c
 have:=uC (s:=s) (t:=false) au (by omega:4611686018427387904<9218868437227405312) aA Lz (by rw[h,Ek,<-ji,show 52+1023=1074+1 by rfl,rO 1074];generalize p2 _=z;ac_rfl);rw[this,Bool.xor_false]
theorem cR.qcx(h:Zp:=by
 rw[show 2*(r*2 ^ (k+1))=r*2 ^ (k+2) by rw[Nat.pow_succ 2 (k+1)];ac_rfl];unfold Format.nearest;have l:r*2 ^ (k+2)≠0:=Nat.ne_of_gt (Nat.mul_pos aj (Nat.two_pow_pos _));rw[ip l];simp only[nH,pP,mB,qI,jz aj];have m:(-1074+((0:Nat):Int)-(-1074+(1023:Nat))-(52+(k+1):Nat)-1)=-1074-(k+3:Nat):=xaa;rw[m];have j:max (-1074-(k+3:Nat)+(r.log2+(k+2):Nat)-((52:Nat):Int)) (-1074)=-1074:=xaa;rw[j];have ad:(-1074-((k+3:Nat):Int)- -1074).toNat=0:=xaa;have be:(-1074-(-1074-((k+3:Nat):Int))).toNat=k+3:=xaa;rw[ad,be,Nat.shiftLeft_eq,Nat.pow_zero,Nat.mul_one]
 have hcut:Toward.even.cut s (r*2 ^ (k+2)) (k+3)=r/2+(r%2==1&&r/2%2==1).toNat:=by
  unfold Toward.cut;have g:min (k+3) ((r*2 ^ (k+2)).log2+2)=k+3:=by rw[jz aj];omega
  have p2:=Nat.two_pow_pos (k+2)
  have e:r*2 ^ (k+2)/2 ^ (k+3)=r/2:=by
   rw[show 2 ^ (k+3)=2*2 ^ (k+2) by rw[Nat.pow_succ 2 _,Nat.mul_comm]];exact Nat.mul_div_mul_right _ _ p2
  have f:r*2 ^ (k+2)%2 ^ (k+3)=(r%2)*2 ^ (k+2):=by
   rw[show 2 ^ (k+3)=2*2 ^ (k+2) by rw[Nat.pow_succ 2 _,Nat.mul_comm]];exact Nat.mul_mod_mul_right _ _ _
  simp only[g,Nat.shiftLeft_eq,Nat.one_mul,e,f];have ah:2 ^ (k+3)=2*2 ^ (k+2):=by rw[Nat.pow_succ 2 _,Nat.mul_comm]
  rw[ah];generalize 2 ^ (k+2)=z at*;rcases Nat.mod_two_eq_zero_or_one r with c|c
  ·rw[c];simp;omega
  rw[c];simp
 rw[hcut,mQ];have cl:(-1074- -1074:Int).toNat*4503599627370496=0:=xab;rw[cl,Nat.zero_add,Nat.min_eq_left];have:(r%2==1&&r/2%2==1).toNat<=1:=Bool.toNat_le _;omega):Zp:=h
open cR in
theorem Ah(aj:0<r)(h:r<9007199254740992):∃p,p<r/\double.div (W s r) (W false 4611686018427387904)=some (W s p):=by
 refine⟨r/2+(r%2==1&&r/2%2==1).toNat,?_,?_⟩
 ·by_cases c:r%2==1&&r/2%2==1
  ·rw[c];simp at c;simp;omega
  rw[Bool.not_eq_true]at c;rw[c];simp;omega
 have au:r<9218868437227405312:=xaa;unfold Format.div;rw[gU au,gU (by omega:4611686018427387904<9218868437227405312)];have bE:M 4611686018427387904=2 ^ 52:=xab;have hn:¬(2 ^ 52=0):=xab;have d:M r=r:=by unfold M;split<;>omega
 simp only[Datum.quotient,bE,ip hn,Option.map_some,Format.write,Option.some.injEq,pP,Nat.log2_two_pow,Nat.shiftLeft_eq,vQ h,Ek,d,Bool.xor_false]
 have ag:r.log2<=52:=by
  have:r.log2<53:=(Nat.log2_lt xaa).2 (by simpa using h);omega
 obtain⟨k,J⟩:∃k,52+2+52-r.log2=52+(k+1):=⟨53-r.log2,by omega⟩
 exact qcw
theorem II(aj:0<r)(au:r<9218868437227405312):∃p,p<r/\double.div (W s r) (W false 4611686018427387904)=some (W s p):=by
 rcases Nat.lt_or_ge r 9007199254740992 with h|h
 ·exact Ah aj h
 exact⟨_,by omega,rR au (sE h)⟩
theorem El:double.div (W s 9218868437227405312) (W false 4611686018427387904)=some (W s 9218868437227405312):=by
 cases s<;>decide
theorem ya{t}(au:r<9218868437227405312)(h:val r=t*p2 1074):(double.read (W s r)).toInt .zero=some (sg s t):=by
 rw[gU au];unfold Datum.toInt;simp only[Datum.integral,mE,Nat.pow_zero,Nat.mul_one,Option.some.injEq];congr 1;rw[Nat.shiftLeft_eq];unfold Toward.cut;rcases Nat.le_total 1074 (E r) with c|c
 ·have ad:(-1074+(E r:Int)).toNat=E r-1074:=xaa;have be:(-(-1074+(E r:Int))).toNat=0:=xaa;rw[ad,be];simp only[Nat.zero_min,Nat.shiftLeft_eq,Nat.pow_zero,Nat.mul_one,Nat.div_one,Bool.toNat_false,Nat.add_zero];rw[mP,show E r=(E r-1074)+1074 by omega,ji,<-Nat.mul_assoc]at h;have N:=Nat.eq_of_mul_eq_mul_right (Ag _) h;exact N
 have ad:(-1074+(E r:Int)).toNat=0:=xaa;have be:(-(-1074+(E r:Int))).toNat=1074-E r:=xaa;rw[ad,be]
 have G:M r=t*2 ^ (1074-E r):=by
  unfold val at h;rw[show p2 _=p2 (1074-E r)*p2 (E r) by rw[<-ji];congr 1;omega,<-uz,<-uz,<-Nat.mul_assoc]at h;exact Nat.eq_of_mul_eq_mul_right (Nat.two_pow_pos _) h
 rw[G];simp only[Nat.shiftLeft_eq,Nat.pow_zero,Nat.mul_one,Nat.one_mul,Bool.toNat_false,Nat.add_zero];rcases Nat.eq_zero_or_pos t with aj|aj
 ·subst aj;simp
 rw[Nat.min_eq_left (by rw[jz aj];omega),Nat.mul_div_cancel _ (Nat.two_pow_pos _)]
theorem rep(t)(ht:t<9007199254740992):∀k,∃r,val r=t*2 ^ k
 |0=>⟨t,by rw[mC ht,Nat.pow_zero,Nat.mul_one]⟩
 |k+1=>by
  obtain⟨r,au⟩:=rep t ht k
  exact⟨_,by rw[rQ,au,Nat.pow_succ];ac_rfl⟩
theorem IJ:val 9218868437227405312=p2 2098:=by
 rw[mP,show M _=p2 52 by decide,show E _=2046 by decide,<-ji]
theorem Ai(h:val r<p2 2098):r<9218868437227405312:=by
 rw[<-IJ]at h;exact val_lt_iff.1 h
theorem pR(h:r<=9218868437227405312):double.order (W s r) (W s r)=some .eq:=by
 rcases Nat.lt_or_eq_of_le h with h|h
 ·rw[oE h h,Int.compare_eq_eq.2 rfl]
 subst h;cases s<;>decide
theorem Em(h:9218868437227405312<r)(au:r<9223372036854775808):∃s' t,double.read (W s r)=.nan s' t:=⟨_,_,sB h au⟩
theorem vT(h:9218868437227405312<r)(au:r<9223372036854775808):double.order (W s r) (W s r)=none:=
 sC (Em h au)
theorem yb(s)(h:0<r):compare (sg s (val r)) (sg false (val 0))=if s then .lt else .gt:=by
 have:=vS h;unfold sg;cases s
 ·simp only[Bool.false_eq_true,if_false];exact Int.compare_eq_gt.2 (by rw[km];omega)
 simp only[if_true,Bool.false_eq_true,if_false];exact Int.compare_eq_lt.2 (by rw[km];omega)
theorem nN(aj:0<r)(h:r<=9218868437227405312):double.order (W s r) 0=some (if s then .lt else .gt):=by
 rcases Nat.lt_or_eq_of_le h with h|h
 ·have:=oE (s:=s) (t:=false) h (by omega:0<9218868437227405312);rw[yb s aj]at this;exact this
 subst h;cases s<;>decide
theorem my:double.order (W s 0) 0=some .eq:=by cases s<;>decide
theorem ur:double.div 4607182418800017408 (W s 0)=some (W s 9218868437227405312):=by cases s<;>decide
theorem Mn(h:sg s a=sg t b):a=b/\(s=t\/a=0):=by
 unfold sg at h;cases s<;>cases t<;>simp only[if_true,Bool.false_eq_true,if_false]at h
 ·exact⟨by omega,.inl rfl⟩
 ·exact⟨by omega,.inr xaa⟩
 ·exact⟨by omega,.inr xaa⟩
 exact⟨by omega,.inl rfl⟩
theorem Aj(au:r<=9218868437227405312)(am:q<=9218868437227405312):
  (double.order (W s r) (W t q)==some .eq)=decide (r=q/\(s=t\/r=0)):=by
 rcases Nat.lt_or_eq_of_le au with B|B
 ·rcases Nat.lt_or_eq_of_le am with N|N
  ·rw[oE B N,Bool.eq_iff_iff];simp only[beq_iff_eq,Option.some.injEq,decide_eq_true_eq,Int.compare_eq_eq];constructor
   ·intro h;obtain⟨a,b⟩:=Mn h;have:=rP a;refine⟨this,?_⟩;rcases b with b|b
    ·exact .inl b
    exact .inr (rP (by rw[b,km]))
   rintro⟨rfl,h|h⟩
   ·rw[h]
   subst h;rw[km];cases s<;>cases t<;>rfl
  subst N;rw[Format.order,gU B,nJ];have:¬(r=9218868437227405312/\(s=t\/r=0)):=xaa;rw[yay this];cases t<;>rfl
 subst B;rcases Nat.lt_or_eq_of_le am with N|N
 ·rw[Format.order,gU N,nJ];have:¬(9218868437227405312=q/\(s=t\/9218868437227405312=0)):=xaa;rw[yay this];cases s<;>rfl
 subst N;rw[Format.order,nJ,nJ];cases s<;>cases t<;>decide
end Flt
end
section
open Go.RowKit Flt
variable{s:Bool}{x lo r y hi:Nat}{w O a b c:World}
theorem Mo(b w):(callFunc 79 #[.float .f64 b]).run prog w=.ok (.value (.int .u64 b)) w:=by
 rw[run_callFunc_extern (e:=Extern.MathFloatBits.float64bits) func79 (by kernel_rfl) (by kernel_rfl) (by kernel_rfl) (by kernel_rfl)];rfl
theorem Mp(b w):(callFunc 74 #[.int .u64 b]).run prog w=.ok (.value (.float .f64 b.toNat)) w:=by
 rw[run_callFunc_extern (e:=Extern.MathFloatBits.float64frombits) func74 (by kernel_rfl) (by kernel_rfl) (by kernel_rfl) (by kernel_rfl)];rfl
theorem mF(x w):
  Calls prog 93 #[.float .f64 x] w λe O=>e=.returned (.bool (FloatKind.f64.format.order x x !=some .eq))/\O=w:=by
 go_enter func93,ntmps93;go_wp2;go_ret;exact⟨rfl,rfl⟩
theorem vU(x w)(h:(FloatKind.f64.format.order x x !=some .eq)=false):
  Calls prog 58 #[.float .f64 x] w λe O=>e=.returned (.int .u64 x)/\O=w:=by
 have ai:=Mo;exact xjk
theorem vV(x w)(h:(FloatKind.f64.format.order x x !=some .eq)=true):
  Calls prog 58 #[.float .f64 x] w λe O=>e=.returned (.int .u64 9221120237041090560)/\O=w:=by
 exact xjk
theorem pS(h:r<=9218868437227405312):(FloatKind.f64.format.order (W s r) (W s r) !=some .eq)=false:=by
 rw[show FloatKind.f64.format.order (W s r) _=some _ from pR h];rfl
theorem Bo(h:9218868437227405312<r)(au:r<9223372036854775808):(FloatKind.f64.format.order (W s r) (W s r) !=some .eq)=true:=by
 rw[show FloatKind.f64.format.order (W s r) _=none from vT h au];rfl
theorem me(s r w)(h:r<=9218868437227405312):
  Calls prog 94 #[.float .f64 (W s r)] w λe O=>e=.returned (.bool s)/\O=w:=by
 by_cases aj:r=0
 ·subst aj;have B:FloatKind.f64.format.order (W s 0) 0=some .eq:=my;have N:=λw=>run_float_arith (P:=prog) w .quo 41 .f64 4607182418800017408 (W s 0) (W s 9218868437227405312) ur;have h3:FloatKind.f64.format.order (W s 9218868437227405312) 0=some (if s then .lt else .gt):=nN xaa xaa;exact xii
 have h3:FloatKind.f64.format.order (W s r) 0=some (if s then .lt else .gt):=nN xaa h;exact xii
def fb(x:Nat):Nat:=if FloatKind.f64.format.order x x !=some .eq then 9221120237041090560 else x
theorem Eo(x w):
  Calls prog 58 #[.float .f64 x] w λe O=>e=.returned (.int .u64 (fb x:Nat))/\O=w:=by
 unfold fb;cases h:(FloatKind.f64.format.order x x !=some .eq)
 ·exact vU x w h
 exact vV x w h
theorem Ep(h:r<=9218868437227405312):fb (W s r)=W s r:=by unfold fb;rw[pS h];rfl
theorem Ak(h:9218868437227405312<r)(au:r<9223372036854775808):fb (W s r)=9221120237041090560:=by unfold fb;rw[Bo h au];rfl
abbrev f64:Ieee.Format:=FloatKind.f64.format
theorem Al(d:Ieee.Datum):(d.order d !=some .eq)=d.isNaN:=by
 cases d with
 |number s m i=>simp[Ieee.Datum.order,Ieee.Datum.isNaN]
 |infinity s=>cases s<;>rfl
 |nan s t=>rfl
theorem Bp(x):(FloatKind.f64.format.order x x !=some .eq)=(FloatKind.f64.format.read x).isNaN:=Al _
theorem oF(h:(f64.read x).isNaN=true):fb x=9221120237041090560:=by
 unfold fb;rw[Bp,h];rfl
theorem qK(h:(f64.read x).isNaN=false):fb x=x:=by
 unfold fb;rw[Bp,h];rfl
theorem OR:(f64.read 9221120237041090560).isNaN=true:=xab
theorem Er(h:fb x=fb y):x=y\/((f64.read x).isNaN=true/\(f64.read y).isNaN=true):=by
 grind[qK,oF,OR]
theorem Cn(aH:(f64.read x).isNaN=true)(bK:(f64.read y).isNaN=true):fb x=fb y:=by
 rw[oF aH,oF bK]
def cop(op:BinOp)(x y:Nat):Nat:=(floatBits op .f64 x y).getD 9221120237041090560
def fop(op:BinOp)(x y:Nat)(w:World):Nat:=
 (floatBits op .f64 x y).getD (Question.cut (.nanBits .f64 x y) (w.tape w.drawn (.nanBits .f64 x y)))
def fnd(op:BinOp)(x y:Nat):Nat:=if (floatBits op .f64 x y).isSome then 0 else 1
theorem Br(x y t):(f64.read (Question.cut (.nanBits .f64 x y) t)).isNaN=true/\Question.cut (.nanBits .f64 x y) t<18446744073709551616:=by
 simp only[Question.cut];obtain⟨k,J,aY⟩:∃k,(t/2)%(2 ^ 52-1)=k/\k<4503599627370495:=⟨_,rfl,Nat.mod_lt _ xab⟩
 rw[J];rcases Nat.mod_two_eq_zero_or_one t with h|h
 ·rw[h];have e:0*2 ^ 63+9218868437227405312+1+k=W false (9218868437227405312+1+k):=by unfold W;simp
  exact xgg
 rw[h];have e:1*2 ^ 63+9218868437227405312+1+k=W true (9218868437227405312+1+k):=by unfold W;simp;omega
 exact xgg
theorem mz(op x y w):fb (fop op x y w)=fb (cop op x y):=by
 unfold fop cop;cases floatBits op .f64 x y with
 |none=>grind[Cn,Br,OR]
 |some r=>rfl
theorem mR(op x y w):fop op x y w<18446744073709551616:=by
 unfold fop;cases h:floatBits op .f64 x y with
 |none=>grind[Br]
 |some r=>
  have:=floatBits_wf h;simpa[Lit.wf] using this
section
variable{P:Program} (w:World)
theorem Bs(op)(aR:op=.add\/op=.sub\/op=.mul\/op=.quo)(t x y):
  (binOp op t (.float .f64 x) (.float .f64 y)).run P w=.ok (.float .f64 (fop op x y w)) (w.drewN (fnd op x y)):=by
 cases h:floatBits op .f64 x y with
 |some r=>
  have ad:fop op x y w=r:=by unfold fop;rw[h];rfl
  have be:fnd op x y=0:=by unfold fnd;rw[h];rfl
  rw[ad,be,World.drewN_zero];exact run_float_arith w _ t _ x y r h
 |none=>
  have ad:fop op x y w=Question.cut (.nanBits .f64 x y) (w.tape w.drawn (.nanBits .f64 x y)):=by unfold fop;rw[h];rfl
  have be:fnd op x y=1:=by unfold fnd;rw[h];rfl
  rw[ad,be];unfold floatBits at h;rcases aR with rfl|rfl|rfl|rfl
  all_goals
   simp only at h
   simp[binOp,Op.floatArith,h,choose,Sem.run,Question.forced]
   rfl
theorem Es(t x y):(binOp .mul t (.float .f64 x) (.float .f64 y)).run P w=.ok (.float .f64 (fop .mul x y w)) (w.drewN (fnd .mul x y)):=Bs w .mul xac t x y
theorem pT(t x y):(binOp .quo t (.float .f64 x) (.float .f64 y)).run P w=.ok (.float .f64 (fop .quo x y w)) (w.drewN (fnd .quo x y)):=Bs w .quo xac t x y
end
theorem vW(w):(binOp .quo 41 (.float .f64 4607182418800017408) (.float .f64 0)).run prog w=.ok (.float .f64 9218868437227405312) w:=
 run_float_arith (P:=prog) w .quo 41 .f64 4607182418800017408 0 9218868437227405312 xab
theorem eB{P a m}(k b):(store a (.float k b) m).run P w=stored P w a (.float k b) m:=run_store P w a _ m rfl
structure Kept(lo hi:Nat)(w w':World):Prop where
 os:w'.os=w.os
 tape:w'.tape=w.tape
 output:w'.output=w.output
 size:w.heap.size<=w'.heap.size
 block:∀k,k<w.heap.size->¬(lo<=k/\k<hi)->w'.heap[k]? =w.heap[k]?
theorem Kept.refl(lo hi w):Kept lo hi w w:=⟨rfl,rfl,rfl,yad,λ_ _ _=>rfl⟩
theorem i3{w:World}:Kept 0 0 w w:=Kept.refl 0 0 w
theorem Kept.trans(h:Kept lo hi a b)(k:Kept lo hi b c):Kept lo hi a c:=
 ⟨k.os.trans h.os,k.tape.trans h.tape,k.output.trans h.output,yao h.size k.size,λi hi' hn=>(k.block i (yak hi' h.size) hn).trans (h.block i hi' hn)⟩
theorem Kept.mono{lo' hi'}(h:Kept lo hi w O)(aw:∀k,k<w.heap.size->lo<=k/\k<hi->lo'<=k/\k<hi'):Kept lo' hi' w O:=
 ⟨h.os,h.tape,h.output,h.size,λk J hn=>h.block k J λc=>hn (aw k J c)⟩
theorem Kept.new{l h'}(h:Kept lo hi a b)(k:Kept l h' b c)(ag:a.heap.size<=l):Kept lo hi a c:=
 ⟨k.os.trans h.os,k.tape.trans h.tape,k.output.trans h.output,yao h.size k.size,λi hi' hn=>(k.block i (yak hi' h.size) (λc=>by omega)).trans (h.block i hi' hn)⟩
theorem Kept.below(h:Kept 0 0 w O):Below w.heap.size w O:=⟨h.os,h.tape,h.output,h.size,λk J=>h.block k J xaa⟩
theorem eJ(lo hi w m):Kept lo hi w (w.drewN m):=⟨rfl,rfl,rfl,yad,λ_ _ _=>rfl⟩
theorem eA(lo hi w o):Kept lo hi w (w.alloc o):=⟨rfl,rfl,rfl,by simp,λk J _=>Below.heap_alloc w o k J⟩
theorem eU(w a v)(h:lo<=a.block/\a.block<hi\/w.heap.size<=a.block):Kept lo hi w (w.setCell a v):=
 ⟨rfl,rfl,rfl,by simp,λk J hn=>Below.heap_setCell w a v k (λe=>by omega)⟩
theorem Kept.cell(h:Kept lo hi w O){p}(aA:p.block<w.heap.size)(hn:¬(lo<=p.block/\p.block<hi)):O.cell? p=w.cell? p:=World.cell?_of_block (w:=w) (h.block p.block aA hn)
theorem Kept.frozen(h:Kept lo hi w O){p}(aA:p.block<w.heap.size)(hn:¬(lo<=p.block/\p.block<hi)):O.frozen? p=w.frozen? p:=World.frozen?_of_block (w:=w) (h.block p.block aA hn)
def Drawn(w w':World):Prop:=∃m,w'=w.drewN m
theorem Drawn.refl(w):Drawn w w:=⟨0,rfl⟩
theorem Drawn.more(h:Drawn w O)(n):Drawn w (O.drewN n):=by
 obtain⟨m,rfl⟩:=h;exact⟨_,World.drewN_drewN ..⟩
theorem Drawn.cell(h:Drawn w O)(p):O.cell? p=w.cell? p:=by obtain⟨m,rfl⟩:=h;rfl
theorem Drawn.kept(h:Drawn w O)(lo hi):Kept lo hi w O:=by obtain⟨m,rfl⟩:=h;exact eJ _ _ w m
end
section
open Go.RowKit Flt
attribute[local go_sem] eE eC eB
variable{n:Int}{xs:List Int}
def lenB(n:Int):Bool:=decide (1<=n/\n<=1000)
theorem jX(B:1<=n)(N:n<=1000):lenB n=true:=decide_eq_true ⟨B,N⟩
theorem mS(h:¬(1<=n/\n<=1000)):lenB n=false:=yay h
theorem iZ(n w):Calls prog 30 #[ih n] w λe O=>e=.returned (.bool (lenB n))/\O=w:=by
 by_cases B:1<=n
 ·by_cases N:n<=1000
  ·rw[jX B N];exact xgo
  rw[mS (λc=>N c.2)];have t:=yay N;exact xgo
 rw[mS (λc=>B c.1)];have t:=yay B;exact xgo
def cnt(op:Int):Nat:=if op=6\/op=9\/op=10\/op=11\/op=12\/op=13 then 1 else if op=2\/op=3\/op=4\/op=5\/op=7 then 2 else if op=8 then 3 else 0
theorem sF(op:Int):op=1\/op=2\/op=3\/op=4\/op=5\/op=6\/op=7\/op=8\/op=9\/op=10\/op=11\/op=12\/op=13\/(op≠1/\op≠2/\op≠3/\op≠4/\op≠5/\op≠6/\op≠7/\op≠8/\op≠9/\op≠10/\op≠11/\op≠12/\op≠13):=xaa
theorem vX(op w):Calls prog 51 #[ih op] w λe O=>e=.returned (ih (cnt op:Nat))/\O=w:=by
 rcases sF op with rfl|rfl|rfl|rfl|rfl|rfl|rfl|rfl|rfl|rfl|rfl|rfl|rfl|h
 ·exact xjl
 all_goals try
  (go_enter func51,ntmps51
   go_wp2
   go_ret
   exact⟨rfl,rfl⟩)
 obtain⟨B,N,h3,bp,bU,bz,al,Q,aG,u,F,G,P⟩:=h;have e:cnt op=0:=by grind[cnt]
 rw[e];have bd:=yan N;have cu:=yan h3;have cD:=yan bp;have cC:=yan bU;have cS:=yan bz;have dd:=yan al;have j:=yan Q;have k:=yan aG;have b:=yan u;have f:=yan F;have g:=yan G;have d:=yan P;clear e B N h3 bp bU bz al Q aG u F G P;exact xjl
structure IS(w:World)(lo hi:Nat)(a:Option Addr)(n:Nat)(xs:List Int):Prop where
 len:xs.length=n
 at_:n=0\/∃g off,a=some ⟨g,off,none⟩/\lo<=g/\g<hi/\g<w.heap.size/\∀k,k<n->w.cell? ⟨g,off+k,none⟩=some (.int .i64 (xs.getD k 0))
theorem IS.keep{w O lo hi l h a n}(f:IS w lo hi a n xs)(k:Kept l h w O)(aN:hi<=l\/h<=lo\/h<=l):IS O lo hi a n xs:=
 ⟨f.len,by
  rcases f.at_ with aj|⟨g,an,e,B,N,h3,bp⟩
  ·exact .inl aj
  ·exact .inr ⟨g,_,e,B,N,yak h3 k.size,λj hj=>by rw[k.cell h3 (by grind)];grind⟩⟩
theorem Et{k}(J:k<xs.length)(h:(xs.take k).all (· ==n)=true)(t:(xs.getD k 0 !=n)=false):(xs.take (k+1)).all (· ==n)=true:=by
 rw[yau J,List.all_append,h];rw[yai,yam J]at t;simp at t;simp[t]
theorem IK{k}(J:k<xs.length)(t:(xs.getD k 0 !=n)=true):xs.all (· ==n)=false:=by
 rw[yai,yam J]at t;simp at t;rw[List.all_eq_false];exact⟨xs[k],List.getElem_mem _,by simp[t]⟩
theorem Am(w g an m cap n)(xs:List Int)(aH:xs.length=m)(aD:m<=1099511627776)
  (ai:∀k,k<m->w.cell? ⟨g,an+k,none⟩=some (ih (xs.getD k 0))):
  Calls prog 76 #[.slice (some ⟨g,an,none⟩) m cap,ih n] w λe O=>e=.returned (.bool (xs.all (· ==n)))/\O=w:=by
 have bi:V (∀k,k<m->w.cell? ⟨g,an+k,none⟩=some (ih (xs.getD k 0))):=ai;have bA:V (xs.length=m):=aH;clear ai aH;go_enter func76,ntmps76;go_wp2_with fail;go_loop [9] (λi=>∃k:Nat,k<=m/\i=ih k/\V ((xs.take k).all (· ==n)=true)) (λi=>m-(intOf i).toNat)
 case atStart=>exact⟨0,yae,rfl,rfl⟩
 case round=>
  obtain⟨k,J,rfl,bl⟩:=hrel;by_cases aY:k<m
  ·have c:=bi.o k aY;cases t:(xs.getD k 0 !=n)
   ·have H:V _:=Et (jn bA.o aY) bl.o t;generalize xs.getD k 0=x at c t;exact xda
   have H:V (xs.all (· ==n)=false):=IK (jn bA.o aY) t;generalize xs.getD k 0=x at c t;go_wp2;go_ret;exact⟨jL H.o,rfl⟩
  obtain rfl:k=m:=xaa
  have H:V (xs.all (· ==n)=true):=by
   have:=bl.o;rw[yap (jx bA.o)]at this;exact this
  clear bl;go_wp2;go_ret;exact⟨jL H.o,rfl⟩
theorem yc(w a cap n):
  Calls prog 76 #[.slice a 0 cap,ih n] w λe O=>e=.returned (.bool true)/\O=w:=by
 go_enter func76,ntmps76;go_wp2_with fail;refine wp_loop_rounds 1 ?_;rw[rounds_succ];go_wp2;go_ret;exact⟨rfl,rfl⟩
theorem Mq(w lo hi a m cap n xs)(f:IS w lo hi a m xs)(aD:m<=1099511627776):
  Calls prog 76 #[.slice a m cap,ih n] w λe O=>e=.returned (.bool (xs.all (· ==n)))/\O=w:=by
 rcases f.at_ with rfl|⟨g,an,rfl,a1,K,a3,a4⟩
 ·have:xs=[]:=List.length_eq_zero_iff.1 f.len;subst this;exact yc w a cap n
 exact Am w g an m cap n xs f.len aD a4
def gn(i n:Int):Bool:=decide (0<=i/\i<n)
theorem kZ(i n w):Calls prog 52 #[ih i,ih n] w λe O=>e=.returned (.bool (gn i n))/\O=w:=by
 by_cases B:0<=i
 ·by_cases N:i<n
  ·rw[show gn i n=true from decide_eq_true ⟨B,N⟩];exact xgp
  rw[show gn i n=false from yay (λc=>N c.2)];have t:=yay N;exact xgp
 rw[show gn i n=false from yay (λc=>B c.1)];have t:=yay B;exact xgp
abbrev qL(op len A B C:Int)(K:Nat):Value:=.agg #[.int .i64 op,.int .i64 len,.int .i64 A,.int .i64 B,.int .i64 C,.float .f64 K]
abbrev iK(op len A B C:Int)(K:Nat):Obj:=.cells #[.int .i64 op,.int .i64 len,.int .i64 A,.int .i64 B,.int .i64 C,.float .f64 K] 79
def eV(op len C:Int)(xs:List Int):Bool:=
 if op=9 then len==1&&lenB (xs.getD 0 0)
 else if op=10 then xs.getD 0 0==1
 else if op=11 then (len==1&&lenB (xs.getD 0 0))&&gn C (xs.getD 0 0)
 else if op=12 then xs.getD 0 0==1&&gn C len
 else if 1<=op/\op<=13 then xs.all (· ==len)
 else false
theorem Co(w op len A I C bA lo hi a m cap xs)(f:IS w lo hi a m xs)(aD:m<=3)
  (co:op=1\/op=2\/op=3\/op=4\/op=5\/op=6\/op=7\/op=8\/op=13):
  Calls prog 53 #[qL op len A I C bA,.slice a m cap] w λe O=>e=.returned (.bool (eV op len C xs))/\O=w.alloc (iK op len A I C bA):=by
 have t:=f.keep (eA 0 0 w (iK op len A I C bA)) yaa;clear f;rcases co with rfl|rfl|rfl|rfl|rfl|rfl|rfl|rfl|rfl
 all_goals
  rw[show eV _ len C xs=xs.all (· ==len) by simp[eV]]
  go_enter func53,ntmps53
  go_wp2_with fail
  refine(Mq _ _ _ _ _ _ _ _ t xaa).mono ?_
  rintro e O ⟨rfl,rfl⟩
  go_wp2
  go_ret
  exact⟨rfl,rfl⟩
theorem An(w op len A I C bA a m cap xs)
  (h:op≠1/\op≠2/\op≠3/\op≠4/\op≠5/\op≠6/\op≠7/\op≠8/\op≠9/\op≠10/\op≠11/\op≠12/\op≠13):
  Calls prog 53 #[qL op len A I C bA,.slice a m cap] w λe O=>e=.returned (.bool (eV op len C xs))/\O=w.alloc (iK op len A I C bA):=by
 obtain⟨B,N,h3,bp,bU,bz,al,Q,aG,u,F,G,P⟩:=h;have e:eV op len C xs=false:=by unfold eV;rw[ip aG,ip u,ip F,ip G,ip xaa]
 rw[e];have aW:(op==1)=false:=yan B;have bd:(op==2)=false:=yan N;have cu:(op==3)=false:=yan h3;have cD:(op==4)=false:=yan bp;have cC:(op==5)=false:=yan bU;have cS:(op==6)=false:=yan bz;have dd:(op==7)=false:=yan al;have j:(op==8)=false:=yan Q;have k:(op==9)=false:=yan aG;have b:(op==10)=false:=yan u;have f:(op==11)=false:=yan F;have g:(op==12)=false:=yan G;have d:(op==13)=false:=yan P;clear e B N h3 bp bU bz al Q aG u F G P;go_enter func53,ntmps53;go_wp2;go_ret;exact⟨rfl,rfl⟩
theorem Cp(w op len A I C x bA g an cap)(az:g<w.heap.size)(ai:w.cell? ⟨g,an,none⟩=some (ih x))
  (co:op=9\/op=10\/op=11\/op=12):
  Calls prog 53 #[qL op len A I C bA,.slice (some ⟨g,an,none⟩) 1 cap] w λe O=>e=.returned (.bool (eV op len C [x]))/\Kept 0 0 w O:=by
 have a0:(w.alloc (iK op len A I C bA)).cell? ⟨g,an,none⟩=some (ih x):=by rw[World.cell?_alloc_past (hn:=az)];exact ai
 rcases co with rfl|rfl|rfl|rfl
 ·
  cases t:(len==1)
  ·rw[show eV 9 len C [x]=false by simp[eV,t]]
   exact xgd
  ·rw[show eV 9 len C [x]=lenB x by simp[eV,t]]
   go_enter func53,ntmps53
   go_wp2_with fail
   refine(iZ _ _).mono ?_
   exact xjq
 ·rw[show eV 10 len C [x]=(x==1) by simp[eV]];exact xgd
 ·cases t:(len==1)
  ·rw[show eV 11 len C [x]=false by simp[eV,t]];go_enter func53,ntmps53;go_wp2;go_quiet (fail)
   go_wp2;go_ret;exact⟨rfl,(eA _ _ _ _).trans (eJ _ _ _ _)⟩
  cases bd:lenB x
  ·rw[show eV 11 len C [x]=false by simp[eV,bd]];exact xem
  rw[show eV 11 len C [x]=gn C x by simp[eV,t,bd]];exact xem
 cases t:(x==1)
 ·rw[show eV 12 len C [x]=false by simp[eV,t]];exact xgd
 rw[show eV 12 len C [x]=gn C len by simp[eV,t]];go_enter func53,ntmps53;go_wp2_with fail;refine(kZ _ _ _).mono ?_;exact xjq
theorem io(op):cnt op<=3:=by
 grind[cnt]
theorem uE(w op len A I C bA lo hi a m cap xs)(f:IS w lo hi a m xs)(aD:m=cnt op):
  Calls prog 53 #[qL op len A I C bA,.slice a m cap] w λe O=>e=.returned (.bool (eV op len C xs))/\Kept 0 0 w O:=by
 have G:(op=9\/op=10\/op=11\/op=12)->Calls prog 53 #[qL op len A I C bA,.slice a m cap] w λe O=>e=.returned (.bool (eV op len C xs))/\Kept 0 0 w O:=by
  intro co;have cH:m=1:=by rw[aD];rcases co with rfl|rfl|rfl|rfl<;>rfl
  subst cH;rcases f.at_ with aj|⟨g,an,rfl,a1,K,a3,a4⟩
  ·omega
  obtain⟨x,rfl⟩:∃x,xs=[x]:=List.length_eq_one_iff.1 f.len;exact Cp w op len A I C x bA g an cap a3 (a4 0 xaa) co
 have Y:m<=3:=by rw[aD];exact io op
 rcases sF op with h|h|h|h|h|h|h|h|h|h|h|h|h|h
 all_goals first
  |exact G xaa
  |exact(Co w op len A I C bA lo hi a m cap xs f Y xaa).mono λ_ _ h=>⟨h.1,by rw[h.2];exact eA _ _ _ _⟩
  |exact(An w op len A I C bA a m cap xs h).mono λ_ _ h=>⟨h.1,by rw[h.2];exact eA _ _ _ _⟩
end
section
open Go.RowKit Flt
def OS(r:Nat):Nat->Nat
 |0=>4607182418800017408
 |n+1=>cop .add (cop .quo (cop .mul r (OS r n)) (floatOfInt .f64 (14-(n:Int)))) 4607182418800017408
def csq(p:Nat):Nat->Nat
 |0=>p
 |n+1=>cop .mul (csq p n) (csq p n)
def PR(x:Nat):Nat:=
 if FloatKind.f64.format.order x x !=some .eq then x
 else if FloatKind.f64.format.order x 4652007308841189376==some .gt then 9218868437227405312
 else if FloatKind.f64.format.order x 13875379345695965184==some .lt then 0
 else csq (OS (cop .quo x 4652218415073722368) 14) 10
end
section
open Go.RowKit Flt
attribute[local go_sem] eE eC eB
def IL(x y z:Nat):Nat:=if FloatKind.f64.format.order x 0==some .gt then y else z
def Eu(x y:Nat):Nat:=if FloatKind.f64.format.order x y==some .gt then x else y
def PT:List Nat->Nat
 |[]=>0
 |x::xs=>xs.foldl (cop .add) x
def rG(op len C:Int)(la lb lc:Nat):Bool:=lenB len&&eV op len C (([(la:Int),(lb:Int),(lc:Int)]).take (cnt op))
def PU(op C:Int)(K:Nat)(xa xb xc:List Nat)(k:Nat):Nat:=
 if op=1 then K else if op=2 then cop .add (xa.getD k 0) (xb.getD k 0)else if op=3 then cop .sub (xa.getD k 0) (xb.getD k 0)
 else if op=4 then cop .mul (xa.getD k 0) (xb.getD k 0)else if op=5 then cop .quo (xa.getD k 0) (xb.getD k 0)
 else if op=6 then Op.negFloat .f64 (xa.getD k 0)else if op=7 then Eu (xa.getD k 0) (xb.getD k 0)
 else if op=8 then IL (xa.getD k 0) (xb.getD k 0) (xc.getD k 0)else if op=9 then PT xa
 else if op=10 then xa.getD 0 0 else if op=11 then xa.getD C.toNat 0 else if op=12 then (if k=C.toNat then xa.getD 0 0 else 0)
 else PR (xa.getD k 0)
def vY(op:Int):Nat:=if op=0\/op=1 then 0 else if op=2\/op=3\/op=4\/op=5\/op=7 then 2 else if op=8 then 3 else 1
theorem jR(op w)(aj:0<=op)(B:op<=13):Calls prog 38 #[ih op] w λe O=>e=.returned (ih (vY op:Nat))/\O=w:=by
 have h:op=0\/op=1\/op=2\/op=3\/op=4\/op=5\/op=6\/op=7\/op=8\/op=9\/op=10\/op=11\/op=12\/op=13:=xaa;clear aj B;rcases h with rfl|rfl|rfl|rfl|rfl|rfl|rfl|rfl|rfl|rfl|rfl|rfl|rfl|rfl
 all_goals
  go_enter func38,ntmps38
  go_wp2
  go_ret
  exact⟨rfl,rfl⟩
def yd(op:Int):Bool:=decide ((2<=op/\op<=8)\/op=13)
theorem Ev(op w)(aj:0<=op)(B:op<=13):Calls prog 96 #[ih op] w λe O=>e=.returned (.bool (yd op))/\O=w:=by
 have h:op=0\/op=1\/op=2\/op=3\/op=4\/op=5\/op=6\/op=7\/op=8\/op=9\/op=10\/op=11\/op=12\/op=13:=xaa;clear aj B;rcases h with rfl|rfl|rfl|rfl|rfl|rfl|rfl|rfl|rfl|rfl|rfl|rfl|rfl|rfl
 all_goals
  go_enter func96,ntmps96
  go_wp2
  go_ret
  exact⟨rfl,rfl⟩
