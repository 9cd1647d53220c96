import Derived.Test.YtpglbgejlpeckabA
import Derived.Deep.Draws
namespace Go.Proofs.Ytpglbgejlpeckab
open Go.RowKit Flt

/-! Floats up to the bits of a NaN: 'fb x = fb y'. -/
abbrev f64 : Ieee.Format := FloatKind.f64.format
theorem order_self (d : Ieee.Datum) : (d.order d != some .eq) = d.isNaN := by
  cases d with
  | number s m i => simp [Ieee.Datum.order, Ieee.Datum.isNaN]
  | infinity s => cases s <;> rfl
  | nan s t => rfl
theorem isn_iff (x : Nat) : (FloatKind.f64.format.order x x != some .eq) = (FloatKind.f64.format.read x).isNaN := order_self _
theorem fb_of_nan {x : Nat} (h : (f64.read x).isNaN = true) : fb x = 9221120237041090560 := by
  unfold fb; rw [isn_iff, h]; rfl
theorem fb_of_num {x : Nat} (h : (f64.read x).isNaN = false) : fb x = x := by
  unfold fb; rw [isn_iff, h]; rfl
theorem nanC : (f64.read 9221120237041090560).isNaN = true := by decide
theorem fb_cases {x y : Nat} (h : fb x = fb y) : x = y ∨ ((f64.read x).isNaN = true ∧ (f64.read y).isNaN = true) := by
  cases hx : (f64.read x).isNaN <;> cases hy : (f64.read y).isNaN
  · rw [fb_of_num hx, fb_of_num hy] at h; exact .inl h
  · rw [fb_of_num hx, fb_of_nan hy] at h; rw [h, nanC] at hx; cases hx
  · rw [fb_of_nan hx, fb_of_num hy] at h; rw [← h, nanC] at hy; cases hy
  · exact .inr ⟨rfl, rfl⟩
theorem fb_nan_eq {x y : Nat} (hx : (f64.read x).isNaN = true) (hy : (f64.read y).isNaN = true) : fb x = fb y := by
  rw [fb_of_nan hx, fb_of_nan hy]
theorem isNaN_congr {x y : Nat} (h : fb x = fb y) : (f64.read x).isNaN = (f64.read y).isNaN := by
  rcases fb_cases h with h | ⟨a, b⟩
  · rw [h]
  · rw [a, b]
theorem nan_shape {d : Ieee.Datum} (h : d.isNaN = true) : ∃ s t, d = .nan s t := by
  cases d with
  | number s m i => cases h
  | infinity s => cases h
  | nan s t => exact ⟨s, t, rfl⟩
theorem order_congr {x y x' y' : Nat} (h : fb x = fb x') (h' : fb y = fb y') : f64.order x y = f64.order x' y' := by
  rcases fb_cases h with rfl | ⟨a, b⟩
  · rcases fb_cases h' with rfl | ⟨c, d⟩
    · rfl
    · exact (order_nan_right (x := x) (nan_shape c)).trans (order_nan_right (x := x) (nan_shape d)).symm
  · exact (order_nan_left (y := y) (nan_shape a)).trans (order_nan_left (y := y') (nan_shape b)).symm

theorem floatBits_nan_left (op : BinOp) {x y : Nat} (h : (f64.read x).isNaN = true) : floatBits op .f64 x y = none := by
  obtain ⟨s, t, h⟩ := nan_shape h
  cases op <;> first | rfl | skip
  all_goals
    simp only [floatBits, Ieee.Format.add, Ieee.Format.sub, Ieee.Format.mul, Ieee.Format.div]
    rw [h]
    rfl
theorem floatBits_nan_right (op : BinOp) {x y : Nat} (h : (f64.read y).isNaN = true) : floatBits op .f64 x y = none := by
  obtain ⟨s, t, h⟩ := nan_shape h
  cases op <;> first | rfl | skip
  all_goals
    simp only [floatBits, Ieee.Format.add, Ieee.Format.sub, Ieee.Format.mul, Ieee.Format.div]
    rw [h]
    cases f64.read x <;> rfl

/-- The operation with one NaN for all. -/
def cop (op : BinOp) (x y : Nat) : Nat := (floatBits op .f64 x y).getD 9221120237041090560
theorem cop_congr (op : BinOp) {x y x' y' : Nat} (h : fb x = fb x') (h' : fb y = fb y') : cop op x y = cop op x' y' := by
  unfold cop
  rcases fb_cases h with rfl | ⟨a, b⟩
  · rcases fb_cases h' with rfl | ⟨c, d⟩
    · rfl
    · rw [floatBits_nan_right op c, floatBits_nan_right op d]
  · rw [floatBits_nan_left op a, floatBits_nan_left op b]

/-- What the run gives in the world w. -/
def fop (op : BinOp) (x y : Nat) (w : World) : Nat :=
  (floatBits op .f64 x y).getD (Question.cut (.nanBits .f64 x y) (w.tape w.drawn (.nanBits .f64 x y)))
def fnd (op : BinOp) (x y : Nat) : Nat := if (floatBits op .f64 x y).isSome then 0 else 1

theorem cut_nan (x y t : Nat) : (f64.read (Question.cut (.nanBits .f64 x y) t)).isNaN = true ∧ Question.cut (.nanBits .f64 x y) t < 18446744073709551616 := by
  simp only [Question.cut]
  obtain ⟨k, hk, hlt⟩ : ∃ k, (t / 2) % (2 ^ 52 - 1) = k ∧ k < 4503599627370495 := ⟨_, rfl, Nat.mod_lt _ (by decide)⟩
  rw [hk]
  rcases Nat.mod_two_eq_zero_or_one t with h | h
  · rw [h]
    have e : 0 * 2 ^ 63 + 9218868437227405312 + 1 + k = W false (9218868437227405312 + 1 + k) := by unfold W; simp
    rw [show (0x7ff0000000000000 : Nat) = 9218868437227405312 from rfl, e]
    refine ⟨?_, W_lt (by omega)⟩
    rw [show f64.read _ = _ from read_nan (by omega) (by omega)]; rfl
  · rw [h]
    have e : 1 * 2 ^ 63 + 9218868437227405312 + 1 + k = W true (9218868437227405312 + 1 + k) := by unfold W; simp; omega
    rw [show (0x7ff0000000000000 : Nat) = 9218868437227405312 from rfl, e]
    refine ⟨?_, W_lt (by omega)⟩
    rw [show f64.read _ = _ from read_nan (by omega) (by omega)]; rfl

theorem fb_fop (op : BinOp) (x y : Nat) (w : World) : fb (fop op x y w) = fb (cop op x y) := by
  unfold fop cop
  cases floatBits op .f64 x y with
  | none => simp only [Option.getD_none]; exact fb_nan_eq (cut_nan x y _).1 nanC
  | some r => rfl

theorem fop_lt (op : BinOp) (x y : Nat) (w : World) : fop op x y w < 18446744073709551616 := by
  unfold fop
  cases h : floatBits op .f64 x y with
  | none => simp only [Option.getD_none]; exact (cut_nan x y _).2
  | some r =>
    have := floatBits_wf h
    simpa [Lit.wf] using this

section
variable {P : Program} (w : World)
theorem run_fop (op : BinOp) (ho : op = .add ∨ op = .sub ∨ op = .mul ∨ op = .quo) (t : TypeId) (x y : Nat) :
    (binOp op t (.float .f64 x) (.float .f64 y)).run P w = .ok (.float .f64 (fop op x y w)) (w.drewN (fnd op x y)) := by
  cases h : floatBits op .f64 x y with
  | some r =>
    have e1 : fop op x y w = r := by unfold fop; rw [h]; rfl
    have e2 : fnd op x y = 0 := by unfold fnd; rw [h]; rfl
    rw [e1, e2, World.drewN_zero]
    exact run_float_arith w op t .f64 x y r h
  | none =>
    have e1 : fop op x y w = Question.cut (.nanBits .f64 x y) (w.tape w.drawn (.nanBits .f64 x y)) := by unfold fop; rw [h]; rfl
    have e2 : fnd op x y = 1 := by unfold fnd; rw [h]; rfl
    rw [e1, e2]
    unfold floatBits at h
    rcases ho with rfl | rfl | rfl | rfl
    all_goals
      simp only at h
      simp [binOp, Op.floatArith, h, choose, Sem.run, Question.forced]
      rfl
theorem run_fadd (t : TypeId) (x y : Nat) : (binOp .add t (.float .f64 x) (.float .f64 y)).run P w = .ok (.float .f64 (fop .add x y w)) (w.drewN (fnd .add x y)) := run_fop w .add (by simp) t x y
theorem run_fsub (t : TypeId) (x y : Nat) : (binOp .sub t (.float .f64 x) (.float .f64 y)).run P w = .ok (.float .f64 (fop .sub x y w)) (w.drewN (fnd .sub x y)) := run_fop w .sub (by simp) t x y
theorem run_fmul (t : TypeId) (x y : Nat) : (binOp .mul t (.float .f64 x) (.float .f64 y)).run P w = .ok (.float .f64 (fop .mul x y w)) (w.drewN (fnd .mul x y)) := run_fop w .mul (by simp) t x y
theorem run_fquo (t : TypeId) (x y : Nat) : (binOp .quo t (.float .f64 x) (.float .f64 y)).run P w = .ok (.float .f64 (fop .quo x y w)) (w.drewN (fnd .quo x y)) := run_fop w .quo (by simp) t x y
end

theorem convff (b : Nat) (w : World) : (convert 22 22 (.float .f64 b)).run Try.prog w = .ok (.float .f64 b) w :=
  run_convert_float_float w 22 22 .f64 .f64 b b (by kernel_rfl) Try.underlying22 (by simp [floatToFloatBits])

theorem one_quo_zero (w : World) : (binOp .quo 22 (.float .f64 4607182418800017408) (.float .f64 0)).run Try.prog w = .ok (.float .f64 9218868437227405312) w :=
  run_float_arith (P := Try.prog) w .quo 22 .f64 4607182418800017408 0 9218868437227405312 (by decide)

end Go.Proofs.Ytpglbgejlpeckab
