import Derived.Test.YtcphabjekfihnaaA01
import Derived.Deep.Draws
namespace Go.Proofs.Ytcphabjekfihnaa
open Go.RowKit Flt

/-! Floats up to the bits of a NaN: 'fb x = fb y'. -/
abbrev f64 : Ieee.Format := FloatKind.f64.format
theorem order_self (d : Ieee.Datum) : (d.order d != some .eq) = d.isNaN := by
  cases d with
  | number s m i => simp [Ieee.Datum.order, Ieee.Datum.isNaN]
  | infinity s => cases s <;> rfl
  | nan s t => rfl
theorem isn_iff (x : Nat) : (FloatKind.f64.format.order x x != some .eq) = (FloatKind.f64.format.read x).isNaN := order_self _
theorem fb_of_nan {x : Nat} (h : (f64.read x).isNaN = true) : fb x = 9221120237041090560 := by
  unfold fb; rw [isn_iff, h]; rfl
theorem fb_of_num {x : Nat} (h : (f64.read x).isNaN = false) : fb x = x := by
  unfold fb; rw [isn_iff, h]; rfl
theorem nanC : (f64.read 9221120237041090560).isNaN = true := by decide
theorem fb_cases {x y : Nat} (h : fb x = fb y) : x = y ∨ ((f64.read x).isNaN = true ∧ (f64.read y).isNaN = true) := by
  cases hx : (f64.read x).isNaN <;> cases hy : (f64.read y).isNaN
  · rw [fb_of_num hx, fb_of_num hy] at h; exact .inl h
  · rw [fb_of_num hx, fb_of_nan hy] at h; rw [h, nanC] at hx; cases hx
  · rw [fb_of_nan hx, fb_of_num hy] at h; rw [← h, nanC] at hy; cases hy
  · exact .inr ⟨rfl, rfl⟩
theorem fb_nan_eq {x y : Nat} (hx : (f64.read x).isNaN = true) (hy : (f64.read y).isNaN = true) : fb x = fb y := by
  rw [fb_of_nan hx, fb_of_nan hy]
theorem isNaN_congr {x y : Nat} (h : fb x = fb y) : (f64.read x).isNaN = (f64.read y).isNaN := by
  rcases fb_cases h with h | ⟨a, b⟩
  · rw [h]
  · rw [a, b]
theorem nan_shape {d : Ieee.Datum} (h : d.isNaN = true) : ∃ s t, d = .nan s t := by
  cases d with
  | number s m i => cases h
  | infinity s => cases h
  | nan s t => exact ⟨s, t, rfl⟩
theorem order_congr {x y x' y' : Nat} (h : fb x = fb x') (h' : fb y = fb y') : f64.order x y = f64.order x' y' := by
  rcases fb_cases h with rfl | ⟨a, b⟩
  · rcases fb_cases h' with rfl | ⟨c, d⟩
    · rfl
    · exact (order_nan_right (x := x) (nan_shape c)).trans (order_nan_right (x := x) (nan_shape d)).symm
  · exact (order_nan_left (y := y) (nan_shape a)).trans (order_nan_left (y := y') (nan_shape b)).symm

theorem floatBits_nan_left (op : BinOp) {x y : Nat} (h : (f64.read x).isNaN = true) : floatBits op .f64 x y = none := by
  obtain ⟨s, t, h⟩ := nan_shape h
  cases op <;> first | rfl | skip
  all_goals
    simp only [floatBits, Ieee.Format.add, Ieee.Format.sub, Ieee.Format.mul, Ieee.Format.div]
    rw [h]
    rfl
theorem floatBits_nan_right (op : BinOp) {x y : Nat} (h : (f64.read y).isNaN = true) : floatBits op .f64 x y = none := by
  obtain ⟨s, t, h⟩ := nan_shape h
  cases op <;> first | rfl | skip
  all_goals
    simp only [floatBits, Ieee.Format.add, Ieee.Format.sub, Ieee.Format.mul, Ieee.Format.div]
    rw [h]
    cases f64.read x <;> rfl

/-- The operation with one NaN for all. -/
def cop (op : BinOp) (x y : Nat) : Nat := (floatBits op .f64 x y).getD 9221120237041090560
theorem cop_congr (op : BinOp) {x y x' y' : Nat} (h : fb x = fb x') (h' : fb y = fb y') : cop op x y = cop op x' y' := by
  unfold cop
  rcases fb_cases h with rfl | ⟨a, b⟩
  · rcases fb_cases h' with rfl | ⟨c, d⟩
    · rfl
    · rw [floatBits_nan_right op c, floatBits_nan_right op d]
  · rw [floatBits_nan_left op a, floatBits_nan_left op b]

/-- What the run gives in the world w. -/
def fop (op : BinOp) (x y : Nat) (w : World) : Nat :=
  (floatBits op .f64 x y).getD (Question.cut (.nanBits .f64 x y) (w.tape w.drawn (.nanBits .f64 x y)))
def fnd (op : BinOp) (x y : Nat) : Nat := if (floatBits op .f64 x y).isSome then 0 else 1

theorem cut_nan (x y t : Nat) : (f64.read (Question.cut (.nanBits .f64 x y) t)).isNaN = true ∧ Question.cut (.nanBits .f64 x y) t < 18446744073709551616 := by
  simp only [Question.cut]
  obtain ⟨k, hk, hlt⟩ : ∃ k, (t / 2) % (2 ^ 52 - 1) = k ∧ k < 4503599627370495 := ⟨_, rfl, Nat.mod_lt _ (by decide)⟩
  rw [hk]
  rcases Nat.mod_two_eq_zero_or_one t with h | h
  · rw [h]
    have e : 0 * 2 ^ 63 + 9218868437227405312 + 1 + k = W false (9218868437227405312 + 1 + k) := by unfold W; simp
    rw [show (0x7ff0000000000000 : Nat) = 9218868437227405312 from rfl, e]
    refine ⟨?_, W_lt (by omega)⟩
    rw [show f64.read _ = _ from read_nan (by omega) (by omega)]; rfl
  · rw [h]
    have e : 1 * 2 ^ 63 + 9218868437227405312 + 1 + k = W true (9218868437227405312 + 1 + k) := by unfold W; simp; omega
    rw [show (0x7ff0000000000000 : Nat) = 9218868437227405312 from rfl, e]
    refine ⟨?_, W_lt (by omega)⟩
    rw [show f64.read _ = _ from read_nan (by omega) (by omega)]; rfl

theorem fb_fop (op : BinOp) (x y : Nat) (w : World) : fb (fop op x y w) = fb (cop op x y) := by
  unfold fop cop
  cases floatBits op .f64 x y with
  | none => simp only [Option.getD_none]; exact fb_nan_eq (cut_nan x y _).1 nanC
  | some r => rfl

theorem fop_lt (op : BinOp) (x y : Nat) (w : World) : fop op x y w < 18446744073709551616 := by
  unfold fop
  cases h : floatBits op .f64 x y with
  | none => simp only [Option.getD_none]; exact (cut_nan x y _).2
  | some r =>
    have := floatBits_wf h
    simpa [Lit.wf] using this

section
variable {P : Program} (w : World)
theorem run_fop (op : BinOp) (ho : op = .add ∨ op = .sub ∨ op = .mul ∨ op = .quo) (t : TypeId) (x y : Nat) :
    (binOp op t (.float .f64 x) (.float .f64 y)).run P w = .ok (.float .f64 (fop op x y w)) (w.drewN (fnd op x y)) := by
  cases h : floatBits op .f64 x y with
  | some r =>
    have e1 : fop op x y w = r := by unfold fop; rw [h]; rfl
    have e2 : fnd op x y = 0 := by unfold fnd; rw [h]; rfl
    rw [e1, e2, World.drewN_zero]
    exact run_float_arith w op t .f64 x y r h
  | none =>
    have e1 : fop op x y w = Question.cut (.nanBits .f64 x y) (w.tape w.drawn (.nanBits .f64 x y)) := by unfold fop; rw [h]; rfl
    have e2 : fnd op x y = 1 := by unfold fnd; rw [h]; rfl
    rw [e1, e2]
    unfold floatBits at h
    rcases ho with rfl | rfl | rfl | rfl
    all_goals
      simp only at h
      simp [binOp, Op.floatArith, h, choose, Sem.run, Question.forced]
      rfl
theorem run_fadd (t : TypeId) (x y : Nat) : (binOp .add t (.float .f64 x) (.float .f64 y)).run P w = .ok (.float .f64 (fop .add x y w)) (w.drewN (fnd .add x y)) := run_fop w .add (by simp) t x y
theorem run_fsub (t : TypeId) (x y : Nat) : (binOp .sub t (.float .f64 x) (.float .f64 y)).run P w = .ok (.float .f64 (fop .sub x y w)) (w.drewN (fnd .sub x y)) := run_fop w .sub (by simp) t x y
theorem run_fmul (t : TypeId) (x y : Nat) : (binOp .mul t (.float .f64 x) (.float .f64 y)).run P w = .ok (.float .f64 (fop .mul x y w)) (w.drewN (fnd .mul x y)) := run_fop w .mul (by simp) t x y
theorem run_fquo (t : TypeId) (x y : Nat) : (binOp .quo t (.float .f64 x) (.float .f64 y)).run P w = .ok (.float .f64 (fop .quo x y w)) (w.drewN (fnd .quo x y)) := run_fop w .quo (by simp) t x y
end

theorem convff (b : Nat) (w : World) : (convert 23 23 (.float .f64 b)).run Try.prog w = .ok (.float .f64 b) w :=
  run_convert_float_float w 23 23 .f64 .f64 b b (by kernel_rfl) Try.underlying23 (by simp [floatToFloatBits])

theorem one_quo_zero (w : World) : (binOp .quo 23 (.float .f64 4607182418800017408) (.float .f64 0)).run Try.prog w = .ok (.float .f64 9218868437227405312) w :=
  run_float_arith (P := Try.prog) w .quo 23 .f64 4607182418800017408 0 9218868437227405312 (by decide)

end Go.Proofs.Ytcphabjekfihnaa

namespace Go.Proofs.Ytcphabjekfihnaa
open Go.RowKit Flt

/-- laws.sameFloat -/
theorem W0 (s : Bool) {r : Nat} (h0 : 0 < r) (h : r ≤ 9218868437227405312) : (FloatKind.f64.format.order (W s r) 0 == some .eq) = false := by
  rw [show FloatKind.f64.format.order (W s r) 0 = _ from ord_zero h0 h]; cases s <;> rfl
set_option maxHeartbeats 1000000 in
theorem sameF (x y : Nat) (w : World) (hx : x < 18446744073709551616) (hy : y < 18446744073709551616) :
    Calls Try.prog 25 #[.float .f64 x, .float .f64 y] w fun e w' => e = .returned (.bool ((fb x : Int) == (fb y : Int))) ∧ w' = w := by
  obtain ⟨s, r, hr, rfl⟩ := split_word x hx
  obtain ⟨t, q, hq, rfl⟩ := split_word y hy
  clear hx hy
  by_cases h1 : r ≤ 9218868437227405312
  · have n1 := isn_num (s := s) h1
    by_cases h2 : q ≤ 9218868437227405312
    · have n2 := isn_num (s := t) h2
      rw [fb_num h1, fb_num h2, W_beq hr hq]
      by_cases hz : r = 0 ∧ q = 0
      · obtain ⟨rfl, rfl⟩ := hz
        have a1 : FloatKind.f64.format.order (W s 0) 0 = some .eq := ord_zero_zero
        have a2 : FloatKind.f64.format.order (W t 0) 0 = some .eq := ord_zero_zero
        have b1 := fun w => run_float_arith (P := Try.prog) w .quo 23 .f64 4607182418800017408 (W s 0) (W s 9218868437227405312) one_over_zero
        have b2 := fun w => run_float_arith (P := Try.prog) w .quo 23 .f64 4607182418800017408 (W t 0) (W t 9218868437227405312) one_over_zero
        have c1 : FloatKind.f64.format.order (W s 9218868437227405312) 0 = some (if s then .lt else .gt) := ord_zero (by omega) (by omega)
        have c2 : FloatKind.f64.format.order (W t 9218868437227405312) 0 = some (if t then .lt else .gt) := ord_zero (by omega) (by omega)
        cases s <;> cases t
        all_goals
          go_enter Try.func25, Try.ntmps25
          go_wp2
          go_ret
          exact ⟨rfl, rfl⟩
      · have hE : (FloatKind.f64.format.order (W s r) (W t q) == some .eq) = _ := ord_eq_iff (s := s) (t := t) h1 h2
        rw [show decide (r = q ∧ (s = t ∨ r = 0)) = decide (r = q ∧ s = t) by
          rw [Bool.eq_iff_iff]; simp only [decide_eq_true_eq]; constructor
          · rintro ⟨a, b | b⟩
            · exact ⟨a, b⟩
            · exact absurd ⟨b, by omega⟩ hz
          · rintro ⟨a, b⟩; exact ⟨a, .inl b⟩] at hE
        generalize decide (r = q ∧ s = t) = D at hE ⊢
        by_cases hr0 : r = 0
        · have hq0 : 0 < q := by omega
          subst hr0
          have a1 : FloatKind.f64.format.order (W s 0) 0 = some .eq := ord_zero_zero
          have a2 := W0 t hq0 h2
          clear hz
          go_enter Try.func25, Try.ntmps25
          go_wp2
          go_ret
          exact ⟨rfl, rfl⟩
        · have a1 := W0 s (by omega : 0 < r) h1
          clear hz
          go_enter Try.func25, Try.ntmps25
          go_wp2
          go_ret
          exact ⟨rfl, rfl⟩
    · have n2 := isn_nan (s := t) (by omega : 9218868437227405312 < q) hq
      rw [fb_num h1, fb_nan (by omega) hq, show (((9221120237041090560 : Nat)) : Int) = 9221120237041090560 from rfl, (W_ne_nan h1).1]
      go_enter Try.func25, Try.ntmps25
      go_wp2
      go_ret
      exact ⟨rfl, rfl⟩
  · have n1 := isn_nan (s := s) (by omega : 9218868437227405312 < r) hr
    by_cases h2 : q ≤ 9218868437227405312
    · have n2 := isn_num (s := t) h2
      rw [fb_num h2, fb_nan (by omega) hr, show (((9221120237041090560 : Nat)) : Int) = 9221120237041090560 from rfl, (W_ne_nan h2).2]
      go_enter Try.func25, Try.ntmps25
      go_wp2
      go_ret
      exact ⟨rfl, rfl⟩
    · have n2 := isn_nan (s := t) (by omega : 9218868437227405312 < q) hq
      rw [fb_nan (by omega) hr, fb_nan (by omega) hq, show (((9221120237041090560 : Nat) : Int) == ((9221120237041090560 : Nat) : Int)) = true from beq_self_eq_true _]
      go_enter Try.func25, Try.ntmps25
      go_wp2
      go_ret
      exact ⟨rfl, rfl⟩
end Go.Proofs.Ytcphabjekfihnaa
