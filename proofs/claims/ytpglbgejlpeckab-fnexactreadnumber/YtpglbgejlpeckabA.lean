import Derived.Test.YtpglbgejlpeckabK
import Derived.Test.YtpglbgejlpeckabFlt
namespace Go.Proofs.Ytpglbgejlpeckab
open Go.RowKit Flt

theorem call43 (b : Nat) (w : World) : (callFunc 55 #[.float .f64 b]).run Try.prog w = .ok (.value (.int .u64 b)) w := by
  rw [run_callFunc_extern (e := Extern.MathFloatBits.float64bits) Try.func55 (by kernel_rfl) (by kernel_rfl) (by kernel_rfl) (by kernel_rfl)]
  rfl
theorem call44 (b : Int) (w : World) : (callFunc 56 #[.int .u64 b]).run Try.prog w = .ok (.value (.float .f64 b.toNat)) w := by
  rw [run_callFunc_extern (e := Extern.MathFloatBits.float64frombits) Try.func56 (by kernel_rfl) (by kernel_rfl) (by kernel_rfl) (by kernel_rfl)]
  rfl

set_option maxHeartbeats 400000 in
theorem l1nan_any (x : Nat) (w : World) :
    Calls Try.prog 51 #[.float .f64 x] w fun e w' => e = .returned (.bool (FloatKind.f64.format.order x x != some .eq)) ∧ w' = w := by
  go_enter Try.func51, Try.ntmps51
  go_wp2
  go_ret
  exact ⟨rfl, rfl⟩

set_option maxHeartbeats 400000 in
theorem isNaN_any (x : Nat) (w : World) :
    Calls Try.prog 54 #[.float .f64 x] w fun e w' => e = .returned (.bool (FloatKind.f64.format.order x x != some .eq)) ∧ w' = w := by
  go_enter Try.func54, Try.ntmps54
  go_wp2
  go_ret
  exact ⟨rfl, rfl⟩

set_option maxHeartbeats 400000 in
theorem implBits_any (x : Nat) (w : World) (h : (FloatKind.f64.format.order x x != some .eq) = false):
    Calls Try.prog 16 #[.float .f64 x] w fun e w' => e = .returned (.int .u64 x) ∧ w' = w := by
  have hc := call43
  go_enter Try.func16, Try.ntmps16
  go_wp2
  go_ret
  exact ⟨rfl, rfl⟩
set_option maxHeartbeats 400000 in
theorem implBits_nan (x : Nat) (w : World) (h : (FloatKind.f64.format.order x x != some .eq) = true):
    Calls Try.prog 16 #[.float .f64 x] w fun e w' => e = .returned (.int .u64 9221120237041090560) ∧ w' = w := by
  go_enter Try.func16, Try.ntmps16
  go_wp2
  go_ret
  exact ⟨rfl, rfl⟩

theorem isn_num {s : Bool} {r : Nat} (h : r ≤ 9218868437227405312) : (FloatKind.f64.format.order (W s r) (W s r) != some .eq) = false := by
  rw [show FloatKind.f64.format.order (W s r) (W s r) = some .eq from ord_self_num h]; rfl
theorem isn_nan {s : Bool} {r : Nat} (h : 9218868437227405312 < r) (hr : r < 9223372036854775808) : (FloatKind.f64.format.order (W s r) (W s r) != some .eq) = true := by
  rw [show FloatKind.f64.format.order (W s r) (W s r) = none from ord_self_nan h hr]; rfl

set_option maxHeartbeats 400000 in
theorem l1minus_any (s : Bool) (r : Nat) (w : World) (h : r ≤ 9218868437227405312) :
    Calls Try.prog 52 #[.float .f64 (W s r)] w fun e w' => e = .returned (.bool s) ∧ w' = w := by
  by_cases h0 : r = 0
  · subst h0
    have h1 : FloatKind.f64.format.order (W s 0) 0 = some .eq := ord_zero_zero
    have h2 := fun w => run_float_arith (P := Try.prog) w .quo 22 .f64 4607182418800017408 (W s 0) (W s 9218868437227405312) one_over_zero
    have h3 : FloatKind.f64.format.order (W s 9218868437227405312) 0 = some (if s then .lt else .gt) := ord_zero (by omega) (by omega)
    cases s
    all_goals
      go_enter Try.func52, Try.ntmps52
      go_wp2
      go_ret
      exact ⟨rfl, rfl⟩
  · have h3 : FloatKind.f64.format.order (W s r) 0 = some (if s then .lt else .gt) := ord_zero (by omega) h
    cases s
    all_goals
      go_enter Try.func52, Try.ntmps52
      go_wp2
      go_ret
      exact ⟨rfl, rfl⟩

/-- What FloatBits answers. -/
def fb (x : Nat) : Nat := if FloatKind.f64.format.order x x != some .eq then 9221120237041090560 else x
theorem implBits (x : Nat) (w : World) :
    Calls Try.prog 16 #[.float .f64 x] w fun e w' => e = .returned (.int .u64 (fb x : Nat)) ∧ w' = w := by
  unfold fb
  cases h : (FloatKind.f64.format.order x x != some .eq)
  · exact implBits_any x w h
  · exact implBits_nan x w h

set_option maxHeartbeats 400000 in
theorem implSame (x y : Nat) (w : World) :
    Calls Try.prog 14 #[.float .f64 x, .float .f64 y] w fun e w' => e = .returned (.bool ((fb x : Int) == (fb y : Int))) ∧ w' = w := by
  go_enter Try.func14, Try.ntmps14
  go_wp2_with fail
  refine (implBits _ _).mono ?_
  rintro e w' ⟨rfl, rfl⟩
  go_wp2_with fail
  refine (implBits _ _).mono ?_
  rintro e w' ⟨rfl, rfl⟩
  go_wp2
  go_ret
  exact ⟨rfl, rfl⟩

/-- What SameFloat answers. -/
theorem fb_num {s : Bool} {r : Nat} (h : r ≤ 9218868437227405312) : fb (W s r) = W s r := by unfold fb; rw [isn_num h]; rfl
theorem fb_nan {s : Bool} {r : Nat} (h : 9218868437227405312 < r) (hr : r < 9223372036854775808) : fb (W s r) = 9221120237041090560 := by unfold fb; rw [isn_nan h hr]; rfl

theorem W_beq {s t : Bool} {r q : Nat} (hr : r < 9223372036854775808) (hq : q < 9223372036854775808) : (((W s r : Nat) : Int) == ((W t q : Nat) : Int)) = decide (r = q ∧ s = t) := by
  rw [Bool.eq_iff_iff]
  simp only [beq_iff_eq, decide_eq_true_eq]
  constructor
  · intro h
    have h' : W s r = W t q := by omega
    obtain ⟨a, b⟩ := W_inj hr hq h'
    exact ⟨b, a⟩
  · rintro ⟨rfl, rfl⟩; rfl
theorem W_ne_nan {s : Bool} {r : Nat} (hr : r ≤ 9218868437227405312) : (((W s r : Nat) : Int) == 9221120237041090560) = false ∧ ((9221120237041090560 : Int) == ((W s r : Nat) : Int)) = false := by
  have : W s r ≠ 9221120237041090560 := by unfold W; split <;> omega
  exact ⟨beq_eq_false_iff_ne.2 (by omega), beq_eq_false_iff_ne.2 (by omega)⟩

end Go.Proofs.Ytpglbgejlpeckab
