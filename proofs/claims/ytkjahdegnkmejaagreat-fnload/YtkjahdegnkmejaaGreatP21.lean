import Derived.Test.YtkjahdegnkmejaaGreatP02
import Derived.Test.YtkjahdegnkmejaaGreatP08
namespace Go.Proofs.Z
variable{Zp:Prop}
open Tryz Go.RowKit Flt
set_option maxRecDepth 1000000
set_option maxHeartbeats 0
section
variable{q X p t r j P n cap i h:Nat}{s:Bool}{w O:World}{a:Option Addr}{bs:List Int}
theorem CO(w):Calls prog 95 #[.float .f64 (W false 0)] w λe O=>e=.returned (.bool false)/\O=w:=by
 have B:FloatKind.f64.format.order (W false 0) 0=some .eq:=my;exact xgr
theorem FC(r w)(aj:0<r)(h:r<9218868437227405312):Calls prog 95 #[.float .f64 (W false r)] w λe O=>e=.returned (.bool false)/\O=w:=by
 have B:FloatKind.f64.format.order (W false r) 0=some .gt:=nN aj xaa;obtain⟨p,aA,aN⟩:=II (s:=false) aj h;have N:=λw=>run_float_arith (P:=prog) w .quo 41 .f64 (W false r) 4611686018427387904 (W false p) aN
 have h3:(FloatKind.f64.format.order (W false p) (W false r)==some .eq)=false:=by
  rw[show(FloatKind.f64.format.order (W false p) (W false r)==some .eq)=_ from Aj xaa xaa];exact yay xaa
 clear aN;exact xgr
theorem FD(w):Calls prog 95 #[.float .f64 (W false 9218868437227405312)] w λe O=>e=.returned (.bool true)/\O=w:=by
 have B:FloatKind.f64.format.order (W false 9218868437227405312) 0=some .gt:=nN xaa xaa;have N:=λw=>run_float_arith (P:=prog) w .quo 41 .f64 (W false 9218868437227405312) 4611686018427387904 (W false 9218868437227405312) El;have h3:FloatKind.f64.format.order (W false 9218868437227405312) (W false 9218868437227405312)=some .eq:=pR xaa;exact xgr
theorem tu(r w)(h:r<9218868437227405312):Calls prog 95 #[.float .f64 (W false r)] w λe O=>e=.returned (.bool false)/\O=w:=by
 rcases Nat.eq_zero_or_pos r with aj|aj
 ·subst aj;exact CO w
 exact FC r w aj h
def sb(s:Bool):Nat:=if s then 9223372036854775808 else 0
theorem qm(s)(h:r<9223372036854775808):bits .or .u64 ((sb s:Nat):Int) (r:Int)=((W s r:Nat):Int):=by
 rw[u64_or_nat _ _ (by unfold sb;split<;>omega) xaa,nat_join 63 (sb s) r (by unfold sb;cases s<;>decide) (by simpa using h)];unfold sb W;cases s<;>simp
theorem JO{x:Nat}(aH:x%4503599627370496=0)(am:x<18446744073709551616)(ht:t<4503599627370496):bits .or .u64 (x:Int) (t:Int)=((x+t:Nat):Int):=by
 rw[u64_or_nat _ _ am xaa,nat_join 52 x t (by simpa using aH) (by simpa using ht)]
theorem oK(am:0<q)(ht:t<4503599627370496):val (q*4503599627370496+t)=(4503599627370496+t)*p2 (q-1):=by
 rw[mP];have ad:M (q*4503599627370496+t)=4503599627370496+t:=by unfold M;rw[ip xaa];omega
 have be:E (q*4503599627370496+t)=q-1:=by unfold E;omega
 rw[ad,be]
theorem Pb:p2 52=4503599627370496:=xab
theorem LR{a b}(h:a<=b):p2 a<=p2 b:=mD h
theorem LT(ht:t<4503599627370496)(k):t*p2 k<p2 (52+k):=by
 rw[ji,Pb];exact Nat.mul_lt_mul_of_pos_right ht (Ag k)
theorem FE(t)(ht:t<4503599627370496)(k)(J:k<=2046):∃r,val r=t*p2 k/\r<9218868437227405312:=by
 obtain⟨r,au⟩:=rep t xaa k;refine⟨r,au,Ai ?_⟩;rw[au];exact yak (LT ht k) (LR xaa)
theorem AJ(ht:t<4503599627370496)(aA:val p=t*p2 1022)(bN:p<9218868437227405312):
  ∃u,(∀w,(binOp .mul 41 (.float .f64 (W false p)) (.float .f64 4841369599423283200)).run prog w=.ok (.float .f64 (W false u)) w)/\
   (∀w,(convert 41 49 (.float .f64 (W false u))).run prog w=.ok (.int .u64 (t:Int)) w):=by
 obtain⟨u,an,aY⟩:=FE t ht 1074 xaa;refine⟨u,λw=>run_float_arith w .mul 41 .f64 _ 4841369599423283200 (W false u) ?_,λw=>run_convert_float_int w 41 49 .f64 .u64 _ (t:Int) (by kernel_rfl) underlying49 ?_⟩
 ·show Ieee.double.mul (W false p) (W false 4841369599423283200)=_;rw[uB (p:=u) bN xaa aY ?_]
  ·rfl
  rw[aA,an,IF,Nat.mul_assoc,Nat.mul_assoc,<-ji,<-ji]
 unfold floatToIntVal;rw[show(FloatKind.f64.decode (W false u)).toInt .zero=_ from ya (t:=t) aY an];simp only[sg,Bool.false_eq_true,if_false];rw[iv];simp only[IntKind.min,IntKind.max,IntKind.signed,IntKind.bits];constructor
 ·simp
 simp;omega
theorem bN.qca(h:Zp:=by
 rw[Nat.add_mul,Nat.add_zero,show 1023-1=1022 from rfl];omega):Zp:=h
open bN in
theorem yM(ht:t<4503599627370496):∃p,val p=t*p2 1022/\p<9218868437227405312/\
  (∀w,(binOp .sub 41 (.float .f64 (W false (t+4607182418800017408))) (.float .f64 4607182418800017408)).run prog w=.ok (.float .f64 (W false p)) w):=by
 obtain⟨p,aA,aY⟩:=FE t ht 1022 xaa;refine⟨p,aA,aY,λw=>run_float_arith w .sub 41 .f64 _ 4607182418800017408 (W false p) ?_⟩;show Ieee.double.sub (W false (t+4607182418800017408)) (W false 4607182418800017408)=_;refine Cm xaa xaa aY ?_ (λ_=>rfl);exact qbz
theorem wN(aA:p<9218868437227405312):(FloatKind.f64.format.order (W false p) 4611686018427387904==some .gt||FloatKind.f64.format.order (W false p) 4611686018427387904==some .eq)=decide (4611686018427387904<=p):=by
 rw[show FloatKind.f64.format.order (W false p) 4611686018427387904=_ from uA aA xaa];rcases Nat.lt_trichotomy p 4611686018427387904 with h|h|h
 ·rw[Nat.compare_eq_lt.2 h,yay xaa];rfl
 ·rw[Nat.compare_eq_eq.2 h,decide_eq_true xaa];rfl
 rw[Nat.compare_eq_gt.2 h,decide_eq_true xaa];rfl
theorem wO(aA:p<9218868437227405312):(FloatKind.f64.format.order (W false p) 4607182418800017408==some .lt)=decide (p<4607182418800017408):=by
 rw[show FloatKind.f64.format.order (W false p) 4607182418800017408=_ from uA aA xaa];rcases Nat.lt_trichotomy p 4607182418800017408 with h|h|h
 ·rw[Nat.compare_eq_lt.2 h,decide_eq_true xaa];rfl
 ·rw[Nat.compare_eq_eq.2 h,yay xaa];rfl
 rw[Nat.compare_eq_gt.2 h,yay xaa];rfl
theorem FF(h:4611686018427387904<=p)(h':p<9218868437227405312)(w):
  (binOp .quo 41 (.float .f64 (W false p)) (.float .f64 4611686018427387904)).run prog w=.ok (.float .f64 (W false (p-4503599627370496))) w:=
 run_float_arith w .quo 41 .f64 (W false p) 4611686018427387904 (W false (p-4503599627370496)) (rR (s:=false) h' (sE xaa))
theorem wQ(h:dbl p<9218868437227405312)(w):
  (binOp .mul 41 (.float .f64 (W false p)) (.float .f64 4611686018427387904)).run prog w=.ok (.float .f64 (W false (dbl p))) w:=
 run_float_arith w .mul 41 .f64 (W false p) 4611686018427387904 (W false (dbl p)) (IG (s:=false) h)
theorem rY(r)(h:r<9223372036854775808)(w):(Op.unary .neg (.float .f64 (W true r))).run prog w=.ok (.float .f64 (W false r)) w:=by
 have:Op.negFloat FloatKind.f64 (W true r)=W false r:=Ej true h;rw[<-this];rfl
theorem oL(s)(hj:q<=2046)(ht:t<4503599627370496)(au:q*4503599627370496+t=r):
  bits .or .u64 (bits .or .u64 ((sb s:Nat):Int) ((q*4503599627370496:Nat):Int)) (t:Int)=((W s r:Nat):Int):=by
 rw[qm s xaa,JO (by unfold W;split<;>omega) (Ei xaa) ht];unfold W;split<;>omega
theorem Nc(B:p+j*4503599627370496<=r)(N:r<=p+j*4503599627370496)(h3:t+4607182418800017408=p)(ht:t<4503599627370496)(h':r<9218868437227405312):
  bits .or .u64 (bits .or .u64 0 (((j:Int)+1023)*4503599627370496)) (t:Int)=((W false r:Nat):Int)/\
  bits .or .u64 (bits .or .u64 9223372036854775808 (((j:Int)+1023)*4503599627370496)) (t:Int)=((W true r:Nat):Int):=by
 have e:((j:Int)+1023)*4503599627370496=(((j+1023)*4503599627370496:Nat):Int):=xaa;rw[e];exact⟨oL false xaa ht xaa,oL true xaa ht xaa⟩
theorem mo{a b}(h:a=b):Ending.returned (.int .u64 a)=.returned (.int .u64 b):=by rw[h]
theorem wR(s r w)(h:4607182418800017408<=r)(h':r<9218868437227405312):
  Calls prog 71 #[.float .f64 (W s r)] w λe O=>e=.returned (.int .u64 ((W s r:Nat):Int))/\O=w:=by
 have Y:=pS (s:=s) (by omega:r<=9218868437227405312);have Z:=rY r xaa;cases s
 all_goals
  go_enter func71,ntmps71
  go_wp2_with fail
  refine(mF _ _).mono ?_
  rintro e O ⟨rfl,rfl⟩
  go_wp2_with fail
  refine(me _ _ _ xaa).mono ?_
  rintro e O ⟨rfl,rfl⟩
  go_wp2_with fail
  refine(tu _ _ h').mono ?_
  rintro e O ⟨rfl,rfl⟩
  clear Y Z
  go_wp2_with fail
  go_loop [4,5] (λm e=>∃j p:Nat,p+j*4503599627370496<=r/\r<=p+j*4503599627370496/\4607182418800017408<=p/\m=.float .f64 (W false p)/\e=ih j) (λ_ e=>r-(intOf e).toNat)
  case atStart=>exact⟨0,r,by omega,by omega,h,rfl,rfl⟩
  case round=>
   obtain⟨j,p,hj,z,aA,rfl,rfl⟩:=hrel
   by_cases ai:4611686018427387904<=p
   ·have c1:=wN (p:=p) xaa
    rw[decide_eq_true ai]at c1
    have c2:=λw=>FF ai xaa w
    go_wp2
    go_round
    case rel=>exact⟨j+1,_,by omega,by omega,by omega,rfl,by go_num⟩
    case measure=>simp[intOf];omega
   ·have c1:=wN (p:=p) xaa
    rw[yay ai]at c1
    have c2:=wO (p:=p) xaa
    rw[yay xaa]at c2
    obtain⟨t,ht,g⟩:∃t,t<4503599627370496/\t+4607182418800017408=p:=⟨p-4607182418800017408,by omega,by omega⟩
    obtain⟨bn,u,cp,f⟩:=yM ht
    obtain⟨p2,k,v⟩:=AJ ht u cp
    rw[g]at f
    have aO:=Nc hj z g ht h'
    have b:V _:=aO.1
    have d:V _:=aO.2
    clear aO
    clear g u
    go_wp2_with fail
    go_loop [4,5] (λm e=>m=.float .f64 (W false p)/\e=ih j) (λ_ e=>0)
    case atStart=>exact⟨rfl,rfl⟩
    case round=>
     obtain⟨rfl,rfl⟩:=hrel
     go_wp2
     go_ret
     first|exact⟨mo b.o,rfl⟩|exact⟨mo d.o,rfl⟩
theorem FG(B:p<=r+j*4503599627370496)(N:r+j*4503599627370496<=p)(h3:t+4607182418800017408=p)(ht:t<4503599627370496)(hj:j<=1022):
  bits .or .u64 (bits .or .u64 0 ((-(j:Int)+1023)*4503599627370496)) (t:Int)=((W false r:Nat):Int)/\
  bits .or .u64 (bits .or .u64 9223372036854775808 ((-(j:Int)+1023)*4503599627370496)) (t:Int)=((W true r:Nat):Int):=by
 have e:(-(j:Int)+1023)*4503599627370496=(((1023-j)*4503599627370496:Nat):Int):=xaa;rw[e];have au:(1023-j)*4503599627370496+t=r:=xaa;exact⟨oL false xaa ht au,oL true xaa ht au⟩
theorem BC(h:4503599627370496<=p):dbl p=p+4503599627370496:=by unfold dbl;rw[ip xaa]
theorem FH(B:p<=r+j*4503599627370496)(N:r+j*4503599627370496<=p)(h3:p<4607182418800017408):
  p+4503599627370496<=r+(j+1)*4503599627370496/\r+(j+1)*4503599627370496<=p+4503599627370496/\p+4503599627370496<4611686018427387904:=by
 have G:∀z I,p<=r+z->r+z<=p->p+I<=r+(z+I)/\r+(z+I)<=p+I:=λz I a b=>⟨by omega,by omega⟩
 have e:(j+1)*4503599627370496=j*4503599627370496+4503599627370496:=Nat.succ_mul _ _;rw[e];have k:=G (j*4503599627370496) 4503599627370496 B N;exact⟨k.1,k.2,by clear k e G B N;omega⟩
theorem wU(s r w)(aj:4503599627370496<=r)(h:r<4607182418800017408):
  Calls prog 71 #[.float .f64 (W s r)] w λe O=>e=.returned (.int .u64 ((W s r:Nat):Int))/\O=w:=by
 have h':r<9218868437227405312:=xaa;have Y:=pS (s:=s) (by omega:r<=9218868437227405312);have Z:=rY r xaa;cases s
 all_goals
  go_enter func71,ntmps71
  go_wp2_with fail
  refine(mF _ _).mono ?_
  rintro e O ⟨rfl,rfl⟩
  go_wp2_with fail
  refine(me _ _ _ xaa).mono ?_
  rintro e O ⟨rfl,rfl⟩
  go_wp2_with fail
  refine(tu _ _ h').mono ?_
  rintro e O ⟨rfl,rfl⟩
  clear Y Z
  go_wp2_with fail
  go_loop [4,5] (λm e=>m=.float .f64 (W false r)/\e=ih 0) (λ_ e=>0)
  case atStart=>exact⟨rfl,rfl⟩
  case round=>
   obtain⟨rfl,rfl⟩:=hrel
   have c1:=wN (p:=r) xaa
   rw[yay xaa]at c1
   go_wp2_with fail
   go_loop [4,5] (λm e=>∃j p:Nat,p<=r+j*4503599627370496/\r+j*4503599627370496<=p/\p<4611686018427387904/\m=.float .f64 (W false p)/\e=ih (-(j:Int))) (λ_ e=>2000-(-(intOf e)).toNat)
   case atStart=>exact⟨0,r,by omega,by omega,by omega,rfl,rfl⟩
   case round=>
    obtain⟨j,p,hj,z,aA,rfl,rfl⟩:=hrel
    clear c1
    by_cases ai:p<4607182418800017408
    ·have c2:=wO (p:=p) xaa
     rw[decide_eq_true ai]at c2
     have aN:=BC (p:=p) xaa
     have c3:=λw=>wQ (p:=p) xaa w
     rw[aN]at c3
     clear aN
     have l:j<=1021:=xaa
     have aD:V _:=FH hj z ai
     go_wp2
     go_round
     case rel=>exact⟨j+1,_,aD.o.1,aD.o.2.1,aD.o.2.2,rfl,by go_num⟩
     case measure=>simp[intOf];omega
    ·have c2:=wO (p:=p) xaa
     rw[yay ai]at c2
     have l:j<=1022:=xaa
     obtain⟨t,ht,g⟩:∃t,t<4503599627370496/\t+4607182418800017408=p:=⟨p-4607182418800017408,by omega,by omega⟩
     obtain⟨bn,u,cp,f⟩:=yM ht
     obtain⟨p2,k,v⟩:=AJ ht u cp
     rw[g]at f
     have aO:=FG hj z g ht l
     have b:V _:=aO.1
     have d:V _:=aO.2
     clear aO
     clear g u hj z aA ht cp ai aj h h'
     go_wp2
     go_ret
     first|exact⟨mo b.o,rfl⟩|exact⟨mo d.o,rfl⟩
theorem FI(au:r<4503599627370496)(hj:j<=1022)(h:val p=r*p2 j):p<4607182418800017408:=by
 have a:=LT au j;rw[<-h]at a;refine val_lt_iff.1 (yak a ?_);rw[IE];exact LR xaa
theorem FJ(h:val p=r*p2 j):val (dbl p)=r*p2 (j+1):=by
 rw[rQ,h,rO];exact Nat.mul_left_comm _ _ _
theorem JP(h:t<4503599627370496):bits .or .u64 0 (t:Int)=((W false t:Nat):Int)/\bits .or .u64 9223372036854775808 (t:Int)=((W true t:Nat):Int):=
 ⟨qm false xaa,qm true xaa⟩
theorem wV(s r w)(h:r<4503599627370496):
  Calls prog 71 #[.float .f64 (W s r)] w λe O=>e=.returned (.int .u64 ((W s r:Nat):Int))/\O=w:=by
 have h':r<9218868437227405312:=xaa;have Y:=pS (s:=s) (by omega:r<=9218868437227405312);have Z:=rY r xaa;cases s
 all_goals
  go_enter func71,ntmps71
  go_wp2_with fail
  refine(mF _ _).mono ?_
  rintro e O ⟨rfl,rfl⟩
  go_wp2_with fail
  refine(me _ _ _ xaa).mono ?_
  rintro e O ⟨rfl,rfl⟩
  go_wp2_with fail
  refine(tu _ _ h').mono ?_
  rintro e O ⟨rfl,rfl⟩
  clear Y Z
  go_wp2_with fail
  go_loop [4,5] (λm e=>m=.float .f64 (W false r)/\e=ih 0) (λ_ e=>0)
  case atStart=>exact⟨rfl,rfl⟩
  case round=>
   obtain⟨rfl,rfl⟩:=hrel
   have c1:=wN (p:=r) xaa
   rw[yay xaa]at c1
   go_wp2_with fail
   go_loop [4,5] (λm e=>∃j p:Nat,j<=1022/\val p=r*p2 j/\m=.float .f64 (W false p)/\e=ih (-(j:Int))) (λ_ e=>2000-(-(intOf e)).toNat)
   case atStart=>exact⟨0,r,by omega,by rw[mC xaa,show p2 0=1 from rfl,Nat.mul_one],rfl,rfl⟩
   case round=>
    obtain⟨j,p,hj,aL,rfl,rfl⟩:=hrel
    clear c1
    have aA:=FI h hj aL
    have c2:=wO (p:=p) xaa
    rw[decide_eq_true aA]at c2
    by_cases ai:j<1022
    ·have aw:=FJ aL
     have an:=FI h xaa aw
     have c3:=λw=>wQ (p:=p) xaa w
     have aG:V _:=aw
     clear aw aL aA an h h' hj
     go_wp2
     go_round
     case rel=>exact⟨j+1,_,by omega,aG.o,rfl,by go_num⟩
     case measure=>simp[intOf];omega
    ·obtain rfl:j=1022:=xaa
     obtain⟨u,k,v⟩:=AJ h aL xaa
     have aO:=JP h
     have b:V _:=aO.1
     have d:V _:=aO.2
     clear aO aL aA h h' hj ai
     go_wp2
     go_ret
     first|exact⟨mo b.o,rfl⟩|exact⟨mo d.o,rfl⟩
theorem fin_inf:bits .or .u64 0 9218868437227405312=((W false 9218868437227405312:Nat):Int)/\bits .or .u64 9223372036854775808 9218868437227405312=((W true 9218868437227405312:Nat):Int):=
 ⟨qm false (r:=9218868437227405312) xaa,qm true (r:=9218868437227405312) xaa⟩
theorem wW(s w):
  Calls prog 71 #[.float .f64 (W s 9218868437227405312)] w λe O=>e=.returned (.int .u64 ((W s 9218868437227405312:Nat):Int))/\O=w:=by
 have Y:=pS (s:=s) (Nat.le_refl 9218868437227405312);have Z:=rY 9218868437227405312 xaa;have b:V _:=fin_inf.1;have d:V _:=fin_inf.2;cases s
 all_goals
  go_enter func71,ntmps71
  go_wp2_with fail
  refine(mF _ _).mono ?_
  rintro e O ⟨rfl,rfl⟩
  go_wp2_with fail
  refine(me _ _ _ xaa).mono ?_
  rintro e O ⟨rfl,rfl⟩
  go_wp2_with fail
  refine(FD _).mono ?_
  rintro e O ⟨rfl,rfl⟩
  clear Y Z
  go_wp2
  go_ret
  first|exact⟨mo b.o,rfl⟩|exact⟨mo d.o,rfl⟩
theorem wX(x w)(Y:(FloatKind.f64.format.order x x !=some .eq)=true):
  Calls prog 71 #[.float .f64 x] w λe O=>e=.returned (.int .u64 9221120237041090560)/\O=w:=by
 go_enter func71,ntmps71;go_wp2_with fail;refine(mF _ _).mono ?_;rintro e O ⟨rfl,rfl⟩;go_wp2;go_ret;exact⟨rfl,rfl⟩
theorem FK(x w)(aH:x<18446744073709551616):
  Calls prog 71 #[.float .f64 x] w λe O=>e=.returned (.int .u64 ((fb x:Nat):Int))/\O=w:=by
 obtain⟨s,r,au,rfl⟩:=px x aH;rcases Nat.lt_trichotomy r 9218868437227405312 with h|h|h
 ·rw[Ep xaa];rcases Nat.lt_or_ge r 4503599627370496 with B|B
  ·exact wV s r w B
  rcases Nat.lt_or_ge r 4607182418800017408 with N|N
  ·exact wU s r w B N
  exact wR s r w N h
 ·subst h;rw[Ep xaa];exact wW s w
 rw[Ak h au];exact wX _ w (Bo h au)
structure RdF(w:World)(P:Nat)(a:Option Addr)(n cap i:Nat)(bs:List Int):Prop where
 lt:P<w.heap.size
 c0:w.cell? ⟨P,0,none⟩=some (.slice a n cap)
 c1:w.cell? ⟨P,1,none⟩=some (.int .i64 (i:Int))
 fz:w.frozen? ⟨P,1,none⟩=false
 hi:i<=n
 small:n<=500
 ys:YS w a n bs
 ne:0<n->∀g off,a=some ⟨g,off,none⟩->g<P
theorem FL{xs}(f:YS w a n xs)(k:Kept P h w O)(ne:0<n->∀g an,a=some ⟨g,an,none⟩->g<P):YS O a n xs:=
 ⟨f.len,f.lt,f.at_.imp id λ⟨g,an,e,h3,bp⟩=>⟨g,an,e,yak h3 k.size,λj hj=>by rw[k.cell (p:=⟨g,an+j,none⟩) h3 (by have:=ne xaa g an e;show ¬(P<=g/\g<h);omega)];exact bp j hj⟩⟩
theorem RdF.keep{l}(f:RdF w P a n cap i bs)(k:Kept l h w O)(aN:P<l\/h<=l):RdF O P a n cap i bs where
 lt:=yak f.lt k.size
 c0:=by rw[k.cell (p:=⟨P,0,none⟩) f.lt (by show ¬(l<=P/\P<h);omega)];exact f.c0
 c1:=by rw[k.cell (p:=⟨P,1,none⟩) f.lt (by show ¬(l<=P/\P<h);omega)];exact f.c1
 fz:=by rw[k.frozen (p:=⟨P,1,none⟩) f.lt (by show ¬(l<=P/\P<h);omega)];exact f.fz
 hi:=f.hi
 small:=f.small
 ys:=⟨f.ys.len,f.ys.lt,f.ys.at_.imp id λ⟨g,an,e,h3,bp⟩=>⟨g,an,e,yak h3 k.size,λj hj=>by rw[k.cell (p:=⟨g,an+j,none⟩) h3 (by have:=f.ne xaa g an e;show ¬(l<=g/\g<h);omega)];exact bp j hj⟩⟩
 ne:=f.ne
def nv(bs:List Int)(i:Nat):Nat:=(bs.getD i 0).toNat
def ni(bs:List Int)(i:Nat):Nat:=if i<bs.length then i+1 else i
theorem fD(f:YS w a n bs)(i):nv bs i<256:=by
 unfold nv;by_cases h:i<bs.length
 ·have:=f.lt _ (List.getElem_mem h);rw[yai,yam h];show(bs[i]).toNat<256;omega
 rw[yai,List.getElem?_eq_none xaa];decide
theorem JQ(f:RdF w P a n cap i bs)(hi:i<n):
  RdF (w.setCell ⟨P,1,none⟩ (ih ((i:Int)+1))) P a n cap (i+1) bs/\Kept P (P+1) w (w.setCell ⟨P,1,none⟩ (ih ((i:Int)+1)))/\(w.setCell ⟨P,1,none⟩ (ih ((i:Int)+1))).heap.size=w.heap.size:=by
 have al:Kept P (P+1) w (w.setCell ⟨P,1,none⟩ (ih ((i:Int)+1))):=eU w ⟨P,1,none⟩ _ yac;exact⟨⟨by simpa using f.lt,by rw[World.cell?_setCell_other (h:=by simp)];exact f.c0,by rw[World.cell?_setCell_same (h:=f.c1)];rfl,by rw[World.frozen?_setCell];exact f.fz,hi,f.small,FL f.ys al f.ne,f.ne⟩,al,by simp⟩
theorem iD(w P a n cap i bs)(f:RdF w P a n cap i bs):
  Calls prog 11 #[ge P] w λe O=>e=.returned (ih (nv bs i:Int))/\RdF O P a n cap (ni bs i) bs/\Kept P (P+1) w O/\O.heap.size=w.heap.size:=by
 have aj:=f.c0;have B:=f.c1;have hn:=f.small;have ag:=f.ys.len;by_cases hi:i<n
 ·have N:=f.fz
  obtain⟨I,an,rfl,aZ,aH⟩:∃I an,a=some ⟨I,an,none⟩/\I<w.heap.size/\w.cell? ⟨I,an+i,none⟩=some (.int .u8 (bs.getD i 0)):=by
   rcases f.ys.at_ with q|⟨g,an,e,h3,bp⟩
   ·omega
   exact⟨g,an,e,h3,bp i hi⟩
  have hb:0<=bs.getD i 0/\bs.getD i 0<256:=by
   rw[yai,yam xaa];exact f.ys.lt _ (List.getElem_mem _)
  obtain⟨a6,ca⟩:=hb;have aL:(nv bs i:Int)=bs.getD i 0:=by unfold nv;omega
  have b:ni bs i=i+1:=by unfold ni;rw[iv xaa]
  have aO:V _:=f;rw[aL,b];generalize bs.getD i 0=x at aH a6 ca aL;clear f aL b aZ;go_enter func11,ntmps11;go_wp2;go_quiet (fail)
  go_wp2;go_quiet (fail)
  go_wp2;go_ret;have bF:=eJ P (P+1) w;obtain⟨ar,aQ,aN⟩:=JQ (aO.o.keep (eJ 0 0 w _) yab) hi;exact⟨rfl,ar,(bF _).trans aQ,aN⟩
 have aL:(nv bs i:Int)=0:=by
  unfold nv;rw[yai,List.getElem?_eq_none xaa];rfl
 have b:ni bs i=i:=by unfold ni;rw[ip xaa]
 have aO:V _:=f;rw[aL,b];have hi:n<=i:=xaa;clear f aL b;go_enter func11,ntmps11;go_wp2;go_quiet (fail)
 go_wp2;go_ret;exact⟨rfl,aO.o.keep (eJ 0 0 _ _) yab,eJ _ _ _ _,rfl⟩
theorem yN(t)(ht:t<4503599627370496):∃p,val p=t*p2 1074/\p<9218868437227405312/\floatOfInt .f64 (t:Int)=W false p:=by
 obtain⟨p,aA,ag⟩:=FE t ht 1074 xaa;refine⟨p,aA,ag,?_⟩;unfold floatOfInt FloatKind.nearest FloatKind.encode;show Ieee.double.write _=_;simp only[Ieee.Format.write,Int.natAbs_natCast];rw[show decide ((t:Int)<0)=false from yay xaa];exact kR false t 0 p 1074 0 ag (by rw[aA,show p2 0=1 from rfl,Nat.mul_one]) xaa
theorem lR(t)(ht:t<4503599627370496):∃p,val p=t*p2 1022/\p<9218868437227405312/\∀w,(binOp .quo 41 (.float .f64 (floatOfInt .f64 (t:Int))) (.float .f64 4841369599423283200)).run prog w=.ok (.float .f64 (W false p)) w:=by
 obtain⟨bG,aa,b1,ay⟩:=yN t ht;obtain⟨p,aA,ag⟩:=FE t ht 1022 xaa;refine⟨p,aA,ag,λw=>run_float_arith w .quo 41 .f64 _ _ _ ?_⟩;rw[ay];show Ieee.double.div (W false bG) (W false 4841369599423283200)=_;rw[uC (p:=p) b1 xaa ag LB]
 ·rfl
 rw[aa,aA,LC,<-ji,Nat.mul_assoc,Nat.mul_assoc,<-ji,<-ji]
theorem bO.qca(h:Zp:=by
 rw[Nat.add_zero,show 1023-1=1022 from rfl,Nat.add_mul];omega):Zp:=h
open bO in
theorem yP(t p)(ht:t<4503599627370496)(aA:val p=t*p2 1022)(ag:p<9218868437227405312)(w):
  (binOp .add 41 (.float .f64 4607182418800017408) (.float .f64 (W false p))).run prog w=.ok (.float .f64 (W false (t+4607182418800017408))) w:=by
 refine run_float_arith w .add 41 .f64 _ _ _ ?_;show Ieee.double.add (W false 4607182418800017408) (W false p)=_;refine Cl xaa ag xaa ?_ (λh=>rfl);exact qbz
def up(X j:Nat):Nat:=X+j*4503599627370496
def dn(X j:Nat):Nat:=X-j*4503599627370496
theorem Nd(aj:4503599627370496<=X)(h:up X (j+1)<9218868437227405312)(w):
  (binOp .mul 41 (.float .f64 (W false (up X j))) (.float .f64 4611686018427387904)).run prog w=.ok (.float .f64 (W false (up X (j+1)))) w:=by
 have e:dbl (up X j)=up X (j+1):=by
  rw[BC (by unfold up;omega)];unfold up;rw[Nat.succ_mul,Nat.add_assoc]
 rw[<-e];exact wQ (jn e h) w
theorem Nf(aj:9007199254740992<=dn X j)(h:X<9218868437227405312)(w):
  (binOp .quo 41 (.float .f64 (W false (dn X j))) (.float .f64 4611686018427387904)).run prog w=.ok (.float .f64 (W false (dn X (j+1)))) w:=by
 have e:dn X j-4503599627370496=dn X (j+1):=by
  unfold dn;rw[Nat.succ_mul,Nat.sub_add_eq]
 rw[<-e];refine run_float_arith w .quo 41 .f64 _ 4611686018427387904 _ (rR (s:=false) ?_ (sE aj));have:dn X j<=X:=Nat.sub_le _ _;omega
theorem qn(r)(h:r<9223372036854775808)(w):(Op.unary .neg (.float .f64 (W false r))).run prog w=.ok (.float .f64 (W true r)) w:=by
 have:Op.negFloat FloatKind.f64 (W false r)=W true r:=Ej false h;rw[<-this];rfl
def qo(s:Bool)(r:Nat)(w:World)(e:Ending)(w':World):Prop:=e=.returned (.float .f64 (W s r))/\w'=w
theorem wY(s:Bool)(b q t:Nat)(w)(am:(b:Int)/4503599627370496%2048=(q:Int))(ht:(b:Int)%4503599627370496=(t:Int))
  (aw:if s then 9223372036854775808<=(b:Int)else (b:Int)<9223372036854775808) (hb:b<18446744073709551616)
  (Q:1023<q) (bC:q<=2046) (H:t<4503599627370496):
  Calls prog 42 #[.int .u64 (b:Int)] w λe O=>qo s (up (t+4607182418800017408) (q-1023)) w e O:=by
 obtain⟨p,aA,ag,f⟩:=lR t H;have k:=yP t p H aA ag;have a9:4503599627370496<=t+4607182418800017408:=xaa;have m:up (t+4607182418800017408) (q-1023)<9218868437227405312:=by unfold up;omega
 have x:∀j,j<=q-1023->up (t+4607182418800017408) j<=up (t+4607182418800017408) (q-1023):=λj hj=>by unfold up;exact Nat.add_le_add_left (Nat.mul_le_mul_right _ hj) _
 have g:∀j,j<q-1023->∀w,(binOp .mul 41 (.float .f64 (W false (up (t+4607182418800017408) j))) (.float .f64 4611686018427387904)).run prog w=.ok (.float .f64 (W false (up (t+4607182418800017408) (j+1)))) w:=
  λj hj=>Nd a9 (Nat.lt_of_le_of_lt (x (j+1) hj) m)
 have aj:t+4607182418800017408=up (t+4607182418800017408) 0:=by unfold up;omega
 have Z:=qn (up (t+4607182418800017408) (q-1023)) xaa;clear aA ag a9 m x;generalize t+4607182418800017408=X at*;have u:V (X=up X 0):=aj;have aG:V (∀j,j<q-1023->∀w,(binOp .mul 41 (.float .f64 (W false (up X j))) (.float .f64 4611686018427387904)).run prog w=.ok (.float .f64 (W false (up X (j+1)))) w):=g;have bu:V (∀w,(Op.unary .neg (.float .f64 (W false (up X (q-1023))))).run prog w=.ok (.float .f64 (W true (up X (q-1023)))) w):=Z;clear aj g Z;have y:((q:Int)==2047)=false:=yan xaa;go_enter func42,ntmps42;go_wp2_with fail;clear f k am ht H;go_loop [5,3] (λv e=>∃j:Nat,j<=q-1023/\v=.float .f64 (W false (up X j))/\e=ih ((q:Int)-j)) (λ_ e=>(intOf e).toNat)
 case atStart=>exact⟨0,by omega,by rw[<-u.o],by simp⟩
 case round=>
  obtain⟨j,hj,rfl,rfl⟩:=hrel;by_cases ai:j<q-1023
  ·exact xhg
  obtain rfl:j=q-1023:=xaa;have l:=bu.o;clear ai hj;have N:((q-1023:Nat):Int)=(q:Int)-1023:=xaa;rw[N];clear N;go_wp2_with fail;go_loop [5,3] (λv e=>v=.float .f64 (W false (up X (q-1023)))/\e=ih 1023) (λ_ e=>0)
  case atStart=>exact⟨rfl,by congr 1;omega⟩
  case round=>
   obtain⟨rfl,rfl⟩:=hrel;clear hb Q bC;cases s
   ·have d:(b:Int)<9223372036854775808:=aw;have cb:decide (9223372036854775808<=(b:Int))=false:=yay xaa;clear aw d;go_wp2;go_ret;exact⟨rfl,rfl⟩
   have d:9223372036854775808<=(b:Int):=aw;have cb:decide (9223372036854775808<=(b:Int))=true:=decide_eq_true xaa;clear aw d;go_wp2;go_ret;exact⟨rfl,rfl⟩
theorem wZ(s:Bool)(b q t:Nat)(w)(am:(b:Int)/4503599627370496%2048=(q:Int))(ht:(b:Int)%4503599627370496=(t:Int))
  (aw:if s then 9223372036854775808<=(b:Int)else (b:Int)<9223372036854775808) (hb:b<18446744073709551616)
  (Q:1<=q) (bC:q<=1023) (H:t<4503599627370496):
  Calls prog 42 #[.int .u64 (b:Int)] w λe O=>qo s (dn (t+4607182418800017408) (1023-q)) w e O:=by
 obtain⟨p,aA,ag,f⟩:=lR t H;have k:=yP t p H aA ag
 have g:∀j,j<1023-q->∀w,(binOp .quo 41 (.float .f64 (W false (dn (t+4607182418800017408) j))) (.float .f64 4611686018427387904)).run prog w=.ok (.float .f64 (W false (dn (t+4607182418800017408) (j+1)))) w:=
  λj hj=>Nf (by
   unfold dn
   have:j*4503599627370496<=1021*4503599627370496:=Nat.mul_le_mul_right _ xaa
   omega) xaa
 have aj:t+4607182418800017408=dn (t+4607182418800017408) 0:=by unfold dn;omega
 have Z:=qn (dn (t+4607182418800017408) (1023-q)) (by have:dn (t+4607182418800017408) (1023-q)<=t+4607182418800017408:=Nat.sub_le _ _;omega);clear aA ag;generalize t+4607182418800017408=X at*;have u:V (X=dn X 0):=aj;have aG:V (∀j,j<1023-q->∀w,(binOp .quo 41 (.float .f64 (W false (dn X j))) (.float .f64 4611686018427387904)).run prog w=.ok (.float .f64 (W false (dn X (j+1)))) w):=g;have bu:V (∀w,(Op.unary .neg (.float .f64 (W false (dn X (1023-q))))).run prog w=.ok (.float .f64 (W true (dn X (1023-q)))) w):=Z;clear aj g Z;have y:((q:Int)==2047)=false:=yan xaa;go_enter func42,ntmps42;go_wp2_with fail;clear f k am ht H hb;go_loop [5,3] (λv e=>v=.float .f64 (W false X)/\e=ih q) (λ_ e=>0)
 case atStart=>exact⟨rfl,rfl⟩
 case round=>
  obtain⟨rfl,rfl⟩:=hrel;go_wp2_with fail;go_loop [5,3] (λv e=>∃j:Nat,j<=1023-q/\v=.float .f64 (W false (dn X j))/\e=ih ((q:Int)+j)) (λ_ e=>1023-(intOf e).toNat)
  case atStart=>exact⟨0,by omega,by rw[<-u.o],by simp⟩
  case round=>
   obtain⟨j,hj,rfl,rfl⟩:=hrel;by_cases ai:j<1023-q
   ·exact xhg
   obtain rfl:j=1023-q:=xaa;have l:=bu.o;have N:((1023-q:Nat):Int)=1023-(q:Int):=xaa;rw[N];clear N ai hj;exact xdf
theorem FM{k}(h:val p=t*p2 (k+1))(aA:p<9218868437227405312)(ht:t<4503599627370496)(J:k<=1022):
  ∃u,val u=t*p2 k/\u<9218868437227405312/\∀w,(binOp .quo 41 (.float .f64 (W false p)) (.float .f64 4611686018427387904)).run prog w=.ok (.float .f64 (W false u)) w:=by
 obtain⟨u,an,ag⟩:=FE t ht k xaa;refine⟨u,an,ag,λw=>run_float_arith w .quo 41 .f64 _ 4611686018427387904 _ (rR (s:=false) aA ?_)⟩;rw[h,an,rO];exact Nat.mul_left_comm _ _ _
theorem xd(s:Bool)(b t:Nat)(w)(am:(b:Int)/4503599627370496%2048=0)(ht:(b:Int)%4503599627370496=(t:Int))
  (aw:if s then 9223372036854775808<=(b:Int)else (b:Int)<9223372036854775808) (hb:b<18446744073709551616) (H:t<4503599627370496):
  Calls prog 42 #[.int .u64 (b:Int)] w λe O=>qo s t w e O:=by
 obtain⟨p,aA,ag,f⟩:=lR t H;have bu:V (∀w,(Op.unary .neg (.float .f64 (W false t))).run prog w=.ok (.float .f64 (W true t)) w):=qn t xaa;have b1:V (val p=t*p2 1022):=aA;have bL:V (t<4503599627370496):=H;have HL:V (p<9218868437227405312):=ag;clear aA ag;go_enter func42,ntmps42;go_wp2_with fail;clear f am ht H hb;go_loop [5,3] (λv e=>v=.float .f64 (W false p)/\e=ih 1) (λ_ e=>0)
 case atStart=>exact⟨rfl,rfl⟩
 case round=>
  obtain⟨rfl,rfl⟩:=hrel;go_wp2_with fail;go_loop [5,3] (λv e=>∃j u:Nat,j<=1022/\V (val u=t*p2 (1022-j))/\V (u<9218868437227405312)/\v=.float .f64 (W false u)/\e=ih (1+(j:Int))) (λ_ e=>1023-(intOf e).toNat)
  case atStart=>exact⟨0,p,by omega,b1,HL,rfl,rfl⟩
  case round=>
   obtain⟨j,u,hj,aL,bZ,rfl,rfl⟩:=hrel;by_cases ai:j<1022
   ·obtain⟨d,e9,bQ,l⟩:=FM (k:=1022-(j+1)) (by rw[aL.o,show 1022-(j+1)+1=1022-j by omega]) bZ.o bL.o xaa;have gg:V (val d=t*p2 (1022-(j+1))):=e9;have bb:V (d<9218868437227405312):=bQ;clear e9 bQ;go_wp2;go_round
    case rel=>exact⟨j+1,d,by omega,gg,bb,rfl,by go_num⟩
    case measure=>simp[intOf];omega
   obtain rfl:j=1022:=xaa
   have g:u=t:=by
    have:=aL.o;rw[show 1022-1022=0 from rfl,show p2 0=1 from rfl,Nat.mul_one]at this;refine rP (this.trans (mC ?_).symm);have:=bL.o;omega
   have l:=bu.o;rw[g];clear ai hj g;exact xdf
theorem xe(s:Bool)(b:Nat)(w)(am:(b:Int)/4503599627370496%2048=2047)(ht:(b:Int)%4503599627370496=0)
  (aw:if s then 9223372036854775808<=(b:Int)else (b:Int)<9223372036854775808) (hb:b<18446744073709551616):
  Calls prog 42 #[.int .u64 (b:Int)] w λe O=>qo s 9218868437227405312 w e O:=by
 obtain⟨p,aA,ag,f⟩:=lR 0 xaa;have aa:p=0:=rP (by rw[aA,Nat.zero_mul,km]);subst aa;rw[show((0:Nat):Int)=0 from rfl]at f;have B:FloatKind.f64.format.order (W false 0) 0=some .eq:=my;have N:=vW;have bu:=qn 9218868437227405312 xaa;rw[show W false 9218868437227405312=9218868437227405312 from rfl]at bu;clear aA ag;cases s
 ·have d:(b:Int)<9223372036854775808:=aw;have cb:decide (9223372036854775808<=(b:Int))=false:=yay xaa;exact xix
 have d:9223372036854775808<=(b:Int):=aw;have cb:decide (9223372036854775808<=(b:Int))=true:=decide_eq_true xaa;exact xix
theorem xg(b t:Nat)(w)(am:(b:Int)/4503599627370496%2048=2047)(ht:(b:Int)%4503599627370496=(t:Int))(H:t<4503599627370496)(d:0<t)(hb:b<18446744073709551616):
  Calls prog 42 #[.int .u64 (b:Int)] w λe O=>∃y,e=.returned (.float .f64 y)/\fb y=9221120237041090560/\y<18446744073709551616/\∃m,O=w.drewN m:=by
 obtain⟨p,aA,ag,f⟩:=lR t H
 have aa:0<p:=by
  rcases Nat.eq_zero_or_pos p with h|h
  ·rw[h,km]at aA;have:=Nat.mul_pos d (Ag 1022);omega
  exact h
 have B:(FloatKind.f64.format.order (W false p) 0 !=some .eq)=true:=by
  rw[show FloatKind.f64.format.order (W false p) 0=_ from nN aa xaa];rfl
 have N:(binOp .quo 41 (.float .f64 0) (.float .f64 0)).run prog w=_:=pT w 41 0 0;clear aA ag H d aa;go_enter func42,ntmps42;go_wp2;go_ret;refine⟨_,rfl,?_,mR _ _ _ _,_,rfl⟩;rw[mz];decide
theorem AK(s r):W s r=if s then r+9223372036854775808 else r:=by unfold W;rw[Nat.add_comm]
theorem Pc(h:r<9223372036854775808):((W s r:Nat):Int)/4503599627370496%2048=((r/4503599627370496:Nat):Int):=by
 rw[AK];split<;>omega
theorem Pd(_h:r<9223372036854775808):((W s r:Nat):Int)%4503599627370496=((r%4503599627370496:Nat):Int):=by
 rw[AK];split<;>omega
theorem Pe(h:r<9223372036854775808):if s then 9223372036854775808<=((W s r:Nat):Int)else ((W s r:Nat):Int)<9223372036854775808:=by
 rw[AK];cases s
 ·simp only[Bool.false_eq_true,if_false];omega
 simp only[if_true];omega
theorem Ng(h:1023<r/4503599627370496):up (r%4503599627370496+4607182418800017408) (r/4503599627370496-1023)=r:=by
 unfold up;omega
theorem Nh(h:1<=r/4503599627370496)(h':r/4503599627370496<=1023):dn (r%4503599627370496+4607182418800017408) (1023-r/4503599627370496)=r:=by
 unfold dn;omega
theorem oM{f args}(au:r<9223372036854775808)(h:Calls prog f args w λe O=>qo s r w e O):
  Calls prog f args w λe O=>∃y,e=.returned (.float .f64 y)/\fb y=fb (W s r)/\y<18446744073709551616/\∃m,O=w.drewN m:=
 h.mono λ_ _ k=>⟨W s r,k.1,rfl,Ei au,0,k.2⟩
theorem tv(b:Nat)(w)(hb:b<18446744073709551616):
  Calls prog 42 #[.int .u64 (b:Int)] w λe O=>∃y,e=.returned (.float .f64 y)/\fb y=fb b/\y<18446744073709551616/\∃m,O=w.drewN m:=by
 obtain⟨s,r,au,rfl⟩:=px b hb;have am:=Pc (s:=s) au;have ht:=Pd (s:=s) au;have aw:=Pe (s:=s) au;have H:r%4503599627370496<4503599627370496:=Nat.mod_lt _ xaa;rcases Nat.lt_or_ge 1023 (r/4503599627370496) with B|B
 ·rcases Nat.lt_or_ge 2046 (r/4503599627370496) with N|N
  ·have bC:r/4503599627370496=2047:=xaa;rw[bC]at am;rcases Nat.eq_zero_or_pos (r%4503599627370496) with h3|h3
   ·rw[h3]at ht;have d:r=9218868437227405312:=xaa;have:=oM xaa (xe s _ w am ht aw hb);rw[<-d]at this;exact this
   rw[Ak xaa au];exact xg _ _ w am ht H h3 hb
  have:=wY s _ _ _ w am ht aw hb B N H;rw[Ng B]at this;exact oM au this
 rcases Nat.eq_zero_or_pos (r/4503599627370496) with N|N
 ·rw[N]at am;have d:r%4503599627370496=r:=xaa;have:=xd s _ _ w am ht aw hb H;rw[d]at this;exact oM au this
 have:=wZ s _ _ _ w am ht aw hb N B H;rw[Nh N B]at this;exact oM au this
theorem FN(b w):
  Calls prog 48 #[.int .u64 b] w λe O=>e=.returned (.float .f64 b.toNat)/\O=w:=by
 have ai:=Mp;go_enter func48,ntmps48;go_wp2;go_ret;exact⟨rfl,rfl⟩
end
section
attribute[local go_sem] eE eC
variable{S:Nat->Prop}
theorem yR(b w):(Op.unary .neg (.float .f64 b)).run prog w=.ok (.float .f64 (Op.negFloat .f64 b)) w:=rfl
theorem FO{b}(h:b<18446744073709551616):Op.negFloat .f64 b<18446744073709551616:=by
 obtain⟨s,r,au,rfl⟩:=px b h;rw[Ej s au];exact Ei au
theorem tz(n):floatOfInt .f64 n<18446744073709551616:=by
 have:=floatOfInt_wf .f64 n;simpa[Lit.wf] using this
theorem rt(n):IntKind.u64.wrap n<18446744073709551616:=by rw[IntKind.wrap_u64];omega
theorem Ni(a b)(B:0<=a)(N:a<18446744073709551616)(h3:0<=b)(bp:b<18446744073709551616):∃n:Nat,bits .or .u64 a b=(n:Int)/\n<18446744073709551616:=by
 refine⟨_,u64_or a b B N h3 bp,?_⟩;have:a.toNat|||b.toNat<2 ^ 64:=Nat.or_lt_two_pow xaa xaa
 simpa using this
theorem JR(x):x%16<6\/(6<=x%16/\x%16<9)\/x%16=9\/x%16=10\/x%16=11\/x%16=12\/x%16=13\/x%16=14\/x%16=15:=xaa
theorem rZ(w F:World)(xs T)(k:Chg S (w.alloc (.cells xs T)) F)(a5:¬S w.heap.size):(∀o,F.cell? ⟨w.heap.size,o,none⟩=xs[o]?)/\(∀o,F.frozen? ⟨w.heap.size,o,none⟩=false)/\w.heap.size<F.heap.size:=by
 have B:w.heap.size<(w.alloc (.cells xs T)).heap.size:=by simp
 refine⟨λo=>?_,λo=>?_,yak B k.size⟩
 ·rw[k.cell B a5,yav]
 rw[k.frozen B a5];simp[World.frozen?,World.alloc,-World.alloc_eq]
theorem BD(w a n m cap xs)(h:YS w a n xs)(aD:m<=n)(f:m<=500)(aH:(xs.take 500).length=m)(T):
  RdF (w.alloc (.cells #[.slice a m cap,ih 0] T)) w.heap.size a m cap 0 (xs.take 500):=by
 have hb:=rZ (S:=λ_=>False) w _ #[.slice a m cap,ih 0] T (i3).chg (λc=>c);refine⟨hb.2.2,hb.1 0,hb.1 1,hb.2.1 1,yae,f,⟨aH,λx q=>h.lt x (List.mem_of_mem_take q),?_⟩,?_⟩
 ·rcases h.at_ with q|⟨g,an,e,h3,bp⟩
  ·exact .inl xaa
  refine .inr ⟨g,an,e,yak h3 (eA 0 0 w _).size,λk J=>?_⟩;rw[(eA 0 0 w _).cell (p:=⟨g,an+k,none⟩) h3 xaa,bp k xaa];rw[yai,yai,List.getElem?_take,iv xaa]
 intro aj g an e;rcases h.at_ with q|⟨aI,cR,a2,h3,bp⟩
 ·omega
 rw[e]at a2;injection a2 with a2;injection a2 with ad;omega
theorem Nj(w a n cap xs)(h:YS w a n xs)(ai:n<=cap):
  Calls prog 10 #[.slice a n cap] w λe O=>e=.returned (ge w.heap.size)/\(∃m,RdF O w.heap.size a m cap 0 (xs.take 500))/\Kept 0 0 w O:=by
 have ag:=h.len;by_cases hn:n<=500
 ·have ab:V _:=BD w a n n cap xs h yad hn (by rw[List.length_take];omega) 70;have HK:V _:=eA 0 0 w (.cells #[.slice a n cap,ih 0] 70);clear h;go_enter func10,ntmps10;go_wp2;go_ret;exact⟨rfl,⟨n,ab.o⟩,HK.o⟩
 obtain⟨x,rfl⟩:∃x,a=some x:=by
  rcases h.at_ with q|⟨g,an,e,_⟩
  ·omega
  exact⟨_,e⟩
 have ab:V _:=BD w (some x) n 500 cap xs h xaa yad (by rw[List.length_take];omega) 70;have HK:V _:=eA 0 0 w (.cells #[.slice (some x) 500 cap,ih 0] 70);have bQ:500<=cap:=xaa;have hn:500<n:=xaa;clear h;go_enter func10,ntmps10;go_wp2;go_ret;exact⟨rfl,⟨500,ab.o⟩,HK.o⟩
theorem mY{w O P a n cap i bs}(f:RdF w P a n cap i bs)(k:Chg S w O)(a5:∀b,S b->P<b):RdF O P a n cap i bs where
 lt:=yak f.lt k.size
 c0:=by rw[k.cell (p:=⟨P,0,none⟩) f.lt (λc=>Nat.lt_irrefl _ (a5 _ c))];exact f.c0
 c1:=by rw[k.cell (p:=⟨P,1,none⟩) f.lt (λc=>Nat.lt_irrefl _ (a5 _ c))];exact f.c1
 fz:=by rw[k.frozen (p:=⟨P,1,none⟩) f.lt (λc=>Nat.lt_irrefl _ (a5 _ c))];exact f.fz
 hi:=f.hi
 small:=f.small
 ys:=⟨f.ys.len,f.ys.lt,f.ys.at_.imp id λ⟨g,an,e,h3,bp⟩=>⟨g,an,e,yak h3 k.size,λj hj=>by rw[k.cell (p:=⟨g,an+j,none⟩) h3 (λc=>by have bU:P<g:=a5 _ c;have:=f.ne xaa g an e;omega)];exact bp j hj⟩⟩
 ne:=f.ne
theorem jd{W F p bE R a6}(t:RB W p bE R a6)(c:Chg S W F)(aA:¬S p):RB F p bE R a6:=
 have e:∀o,F.cell? ⟨p,o,none⟩=W.cell? ⟨p,o,none⟩:=λo=>c.cell (p:=⟨p,o,none⟩) t.sz aA
 have x:∀o,F.frozen? ⟨p,o,none⟩=W.frozen? ⟨p,o,none⟩:=λo=>c.frozen (p:=⟨p,o,none⟩) t.sz aA
 ⟨yak t.sz c.size,jn e t.q0,jn e t.q1,jn e t.q2,jn x t.f0,jn x t.f1,jn x t.f2⟩
