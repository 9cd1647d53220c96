import Derived.Test.YtnlffngpnoodkaaGreatP03
namespace Go.Proofs.YtnlffngpnoodkaaGreat
set_option maxRecDepth 1000000
set_option maxHeartbeats 0
open Go.RowKit Flt
variable {x y x' y':Nat}
abbrev f64:Ieee.Format:=FloatKind.f64.format
theorem uG (d:Ieee.Datum):(d.order d !=some .eq)=d.isNaN:=by
 cases d with
 |number s m i=>simp[Ieee.Datum.order,Ieee.Datum.isNaN]
 |infinity s=>cases s<;>rfl
 |nan s t=>rfl
theorem sb (x:Nat):(FloatKind.f64.format.order x x !=some .eq)=(FloatKind.f64.format.read x).isNaN:=uG _
theorem nI (h:(f64.read x).isNaN=true):fb x=9221120237041090560:=by
 unfold fb;rw[sb,h];rfl
theorem nJ (h:(f64.read x).isNaN=false):fb x=x:=by
 unfold fb;rw[sb,h];rfl
theorem zW:(f64.read 9221120237041090560).isNaN=true:=by decide
theorem lP (h:fb x=fb y):x=y\/((f64.read x).isNaN=true/\(f64.read y).isNaN=true):=by
 cases hx:(f64.read x).isNaN<;>cases hy:(f64.read y).isNaN
 ·rw[nJ hx,nJ hy] at h;exact .inl h
 ·rw[nJ hx,nI hy] at h;rw[h,zW] at hx;cases hx
 ·rw[nI hx,nJ hy] at h;rw[<-h,zW] at hy;cases hy
 ·exact .inr ⟨rfl,rfl⟩
theorem ru (hx:(f64.read x).isNaN=true)(hy:(f64.read y).isNaN=true):fb x=fb y:=by
 rw[nI hx,nI hy]
theorem lF {d:Ieee.Datum}(h:d.isNaN=true):∃s t,d=.nan s t:=by
 cases d with
 |number s m i=>cases h
 |infinity s=>cases h
 |nan s t=>exact⟨s,t,rfl⟩
theorem jV (h:fb x=fb x')(h':fb y=fb y'):f64.order x y=f64.order x' y':=by
 rcases lP h with rfl|⟨a,b⟩
 ·rcases lP h' with rfl|⟨c,d⟩
  ·rfl
  ·exact(mS (x:=x) (lF c)).trans (mS (x:=x) (lF d)).symm
 ·exact(lO (y:=y) (lF a)).trans (lO (y:=y') (lF b)).symm
theorem lQ (op:BinOp)(h:(f64.read x).isNaN=true):floatBits op .f64 x y=none:=by
 obtain⟨s,t,h⟩:=lF h
 cases op<;>first|rfl|skip
 all_goals
  simp only[floatBits,Ieee.Format.add,Ieee.Format.sub,Ieee.Format.mul,Ieee.Format.div]
  rw[h]
  rfl
theorem lE (op:BinOp)(h:(f64.read y).isNaN=true):floatBits op .f64 x y=none:=by
 obtain⟨s,t,h⟩:=lF h
 cases op<;>first|rfl|skip
 all_goals
  simp only[floatBits,Ieee.Format.add,Ieee.Format.sub,Ieee.Format.mul,Ieee.Format.div]
  rw[h]
  cases f64.read x<;>rfl
def cop (op:BinOp)(x y:Nat):Nat:=(floatBits op .f64 x y).getD 9221120237041090560
theorem jt (op:BinOp)(h:fb x=fb x')(h':fb y=fb y'):cop op x y=cop op x' y':=by
 unfold cop
 rcases lP h with rfl|⟨a,b⟩
 ·rcases lP h' with rfl|⟨c,d⟩
  ·rfl
  ·rw[lE op c,lE op d]
 ·rw[lQ op a,lQ op b]
def fop (op:BinOp)(x y:Nat)(w:World):Nat:=
 (floatBits op .f64 x y).getD (Question.cut (.nanBits .f64 x y) (w.tape w.drawn (.nanBits .f64 x y)))
def fnd (op:BinOp)(x y:Nat):Nat:=if (floatBits op .f64 x y).isSome then 0 else 1
theorem vE (x y t:Nat):(f64.read (Question.cut (.nanBits .f64 x y) t)).isNaN=true/\Question.cut (.nanBits .f64 x y) t<18446744073709551616:=by
 simp only[Question.cut]
 obtain⟨k,hk,hlt⟩:∃k,(t/2)%(2 ^ 52-1)=k/\k<4503599627370495:=⟨_,rfl,Nat.mod_lt _ (by decide)⟩
 rw[hk]
 rcases Nat.mod_two_eq_zero_or_one t with h|h
 ·rw[h]
  have e:0*2 ^ 63+9218868437227405312+1+k=W false (9218868437227405312+1+k):=by unfold W;simp
  rw[show(0x7ff0000000000000:Nat)=9218868437227405312 from rfl,e]
  refine⟨?_,wn (by omega)⟩
  rw[show f64.read _=_ from oq (by omega) (by omega)];rfl
 ·rw[h]
  have e:1*2 ^ 63+9218868437227405312+1+k=W true (9218868437227405312+1+k):=by unfold W;simp;omega
  rw[show(0x7ff0000000000000:Nat)=9218868437227405312 from rfl,e]
  refine⟨?_,wn (by omega)⟩
  rw[show f64.read _=_ from oq (by omega) (by omega)];rfl
theorem kD (op:BinOp)(x y:Nat)(w:World):fb (fop op x y w)=fb (cop op x y):=by
 unfold fop cop
 cases floatBits op .f64 x y with
 |none=>simp only[Option.getD_none];exact ru (vE x y _).1 zW
 |some r=>rfl
theorem jQ (op:BinOp)(x y:Nat)(w:World):fop op x y w<18446744073709551616:=by
 unfold fop
 cases h:floatBits op .f64 x y with
 |none=>simp only[Option.getD_none];exact(vE x y _).2
 |some r=>
  have:=floatBits_wf h
  simpa[Lit.wf] using this
section
variable {P:Program} (w:World)
theorem pE (op:BinOp)(ho:op=.add\/op=.sub\/op=.mul\/op=.quo)(t:TypeId)(x y:Nat):
  (binOp op t (.float .f64 x) (.float .f64 y)).run P w=.ok (.float .f64 (fop op x y w)) (w.drewN (fnd op x y)):=by
 cases h:floatBits op .f64 x y with
 |some r=>
  have e1:fop op x y w=r:=by unfold fop;rw[h];rfl
  have e2:fnd op x y=0:=by unfold fnd;rw[h];rfl
  rw[e1,e2,World.drewN_zero]
  exact run_float_arith w op t .f64 x y r h
 |none=>
  have e1:fop op x y w=Question.cut (.nanBits .f64 x y) (w.tape w.drawn (.nanBits .f64 x y)):=by unfold fop;rw[h];rfl
  have e2:fnd op x y=1:=by unfold fnd;rw[h];rfl
  rw[e1,e2]
  unfold floatBits at h
  rcases ho with rfl|rfl|rfl|rfl
  all_goals
   simp only at h
   simp[binOp,Op.floatArith,h,choose,Sem.run,Question.forced]
   rfl
theorem ov (t:TypeId)(x y:Nat):(binOp .add t (.float .f64 x) (.float .f64 y)).run P w=.ok (.float .f64 (fop .add x y w)) (w.drewN (fnd .add x y)):=pE w .add (by simp) t x y
theorem tI (t:TypeId)(x y:Nat):(binOp .sub t (.float .f64 x) (.float .f64 y)).run P w=.ok (.float .f64 (fop .sub x y w)) (w.drewN (fnd .sub x y)):=pE w .sub (by simp) t x y
theorem mY (t:TypeId)(x y:Nat):(binOp .mul t (.float .f64 x) (.float .f64 y)).run P w=.ok (.float .f64 (fop .mul x y w)) (w.drewN (fnd .mul x y)):=pE w .mul (by simp) t x y
theorem ms (t:TypeId)(x y:Nat):(binOp .quo t (.float .f64 x) (.float .f64 y)).run P w=.ok (.float .f64 (fop .quo x y w)) (w.drewN (fnd .quo x y)):=pE w .quo (by simp) t x y
end
theorem sc (b:Nat)(w:World):(convert 29 29 (.float .f64 b)).run Tryz.prog w=.ok (.float .f64 b) w:=
 run_convert_float_float w 29 29 .f64 .f64 b b (by kernel_rfl) Tryz.underlying29 (by simp[floatToFloatBits])
theorem ow (w:World):(binOp .quo 29 (.float .f64 4607182418800017408) (.float .f64 0)).run Tryz.prog w=.ok (.float .f64 9218868437227405312) w:=
 run_float_arith (P:=Tryz.prog) w .quo 29 .f64 4607182418800017408 0 9218868437227405312 (by decide)
end Go.Proofs.YtnlffngpnoodkaaGreat
