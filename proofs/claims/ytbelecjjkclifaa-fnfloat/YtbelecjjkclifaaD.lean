import Derived.Test.YtbelecjjkclifaaB
namespace Go.Proofs.Ytbelecjjkclifaa
open Go.RowKit Flt

set_option maxHeartbeats 400000 in
theorem linf_zero (w : World) : Calls Try.prog 21 #[.float .f64 (W false 0)] w fun e w' => e = .returned (.bool false) ∧ w' = w := by
  have h1 : FloatKind.f64.format.order (W false 0) 0 = some .eq := ord_zero_zero
  go_enter Try.func21, Try.ntmps21
  go_wp2
  go_ret
  exact ⟨rfl, rfl⟩
set_option maxHeartbeats 400000 in
theorem linf_fin (r : Nat) (w : World) (h0 : 0 < r) (h : r < 9218868437227405312) : Calls Try.prog 21 #[.float .f64 (W false r)] w fun e w' => e = .returned (.bool false) ∧ w' = w := by
  have h1 : FloatKind.f64.format.order (W false r) 0 = some .gt := ord_zero h0 (by omega)
  obtain ⟨p, hp, hd⟩ := half_ne (s := false) h0 h
  have h2 := fun w => run_float_arith (P := Try.prog) w .quo 23 .f64 (W false r) 4611686018427387904 (W false p) hd
  have h3 : (FloatKind.f64.format.order (W false p) (W false r) == some .eq) = false := by
    rw [show (FloatKind.f64.format.order (W false p) (W false r) == some .eq) = _ from ord_eq_iff (by omega) (by omega)]
    exact decide_eq_false (by omega)
  clear hd
  go_enter Try.func21, Try.ntmps21
  go_wp2
  go_ret
  exact ⟨rfl, rfl⟩
set_option maxHeartbeats 400000 in
theorem linf_inf (w : World) : Calls Try.prog 21 #[.float .f64 (W false 9218868437227405312)] w fun e w' => e = .returned (.bool true) ∧ w' = w := by
  have h1 : FloatKind.f64.format.order (W false 9218868437227405312) 0 = some .gt := ord_zero (by omega) (by omega)
  have h2 := fun w => run_float_arith (P := Try.prog) w .quo 23 .f64 (W false 9218868437227405312) 4611686018427387904 (W false 9218868437227405312) half_inf
  have h3 : FloatKind.f64.format.order (W false 9218868437227405312) (W false 9218868437227405312) = some .eq := ord_self_num (by omega)
  go_enter Try.func21, Try.ntmps21
  go_wp2
  go_ret
  exact ⟨rfl, rfl⟩
theorem linf_any (r : Nat) (w : World) (h : r < 9218868437227405312) : Calls Try.prog 21 #[.float .f64 (W false r)] w fun e w' => e = .returned (.bool false) ∧ w' = w := by
  rcases Nat.eq_zero_or_pos r with h0 | h0
  · subst h0; exact linf_zero w
  · exact linf_fin r w h0 h

/-- The sign's bit. -/
def sb (s : Bool) : Nat := if s then 9223372036854775808 else 0
theorem or_sign (s : Bool) {r : Nat} (h : r < 9223372036854775808) : bits .or .u64 ((sb s : Nat) : Int) (r : Int) = ((W s r : Nat) : Int) := by
  rw [u64_or_nat _ _ (by unfold sb; split <;> omega) (by omega), nat_join 63 (sb s) r (by unfold sb; cases s <;> decide) (by simpa using h)]
  unfold sb W
  cases s <;> simp
theorem or_frac {x t : Nat} (hx : x % 4503599627370496 = 0) (hx' : x < 18446744073709551616) (ht : t < 4503599627370496) : bits .or .u64 (x : Int) (t : Int) = ((x + t : Nat) : Int) := by
  rw [u64_or_nat _ _ hx' (by omega), nat_join 52 x t (by simpa using hx) (by simpa using ht)]

theorem val_parts {q t : Nat} (hq : 0 < q) (ht : t < 4503599627370496) : val (q * 4503599627370496 + t) = (4503599627370496 + t) * p2 (q - 1) := by
  rw [val_p2]
  have e1 : M (q * 4503599627370496 + t) = 4503599627370496 + t := by unfold M; rw [if_neg (by omega)]; omega
  have e2 : E (q * 4503599627370496 + t) = q - 1 := by unfold E; omega
  rw [e1, e2]
theorem p2_52 : p2 52 = 4503599627370496 := by decide
theorem p2_le {a b : Nat} (h : a ≤ b) : p2 a ≤ p2 b := pow_mono h
theorem lt_p2 {t : Nat} (ht : t < 4503599627370496) (k : Nat) : t * p2 k < p2 (52 + k) := by
  rw [p2_add, p2_52]; exact Nat.mul_lt_mul_of_pos_right ht (p2_pos k)
theorem rep2 (t : Nat) (ht : t < 4503599627370496) (k : Nat) (hk : k ≤ 2046) : ∃ r, val r = t * p2 k ∧ r < 9218868437227405312 := by
  obtain ⟨r, hr⟩ := rep t (by omega) k
  refine ⟨r, hr, fin_of_val ?_⟩
  rw [hr]
  exact Nat.lt_of_lt_of_le (lt_p2 ht k) (p2_le (by omega))

/-- The last steps of FloatBits: a fraction scaled and made whole. -/
theorem scaled {t : Nat} (ht : t < 4503599627370496) {p : Nat} (hp : val p = t * p2 1022) (hpl : p < 9218868437227405312) :
    ∃ p', (∀ w, (binOp .mul 23 (.float .f64 (W false p)) (.float .f64 4841369599423283200)).run Try.prog w = .ok (.float .f64 (W false p')) w) ∧
      (∀ w, (convert 23 26 (.float .f64 (W false p'))).run Try.prog w = .ok (.int .u64 (t : Int)) w) := by
  obtain ⟨p', hp', hlt⟩ := rep2 t ht 1074 (by omega)
  refine ⟨p', fun w => run_float_arith w .mul 23 .f64 _ 4841369599423283200 (W false p') ?_, fun w => run_convert_float_int w 23 26 .f64 .u64 _ (t : Int) (by kernel_rfl) Try.underlying26 ?_⟩
  · show Ieee.double.mul (W false p) (W false 4841369599423283200) = _
    rw [mul_exact (p := p') hpl (by omega) hlt ?_]
    · rfl
    · rw [hp, hp', val_big, Nat.mul_assoc, Nat.mul_assoc, ← p2_add, ← p2_add]
  · unfold floatToIntVal
    rw [show (FloatKind.f64.decode (W false p')).toInt .zero = _ from toInt_exact (t := t) hlt hp']
    simp only [sg, Bool.false_eq_true, if_false]
    rw [if_pos]
    simp only [IntKind.min, IntKind.max, IntKind.signed, IntKind.bits]
    constructor
    · simp
    · simp; omega
theorem less_one {t : Nat} (ht : t < 4503599627370496) : ∃ p, val p = t * p2 1022 ∧ p < 9218868437227405312 ∧
    (∀ w, (binOp .sub 23 (.float .f64 (W false (t + 4607182418800017408))) (.float .f64 4607182418800017408)).run Try.prog w = .ok (.float .f64 (W false p)) w) := by
  obtain ⟨p, hp, hlt⟩ := rep2 t ht 1022 (by omega)
  refine ⟨p, hp, hlt, fun w => run_float_arith w .sub 23 .f64 _ 4607182418800017408 (W false p) ?_⟩
  show Ieee.double.sub (W false (t + 4607182418800017408)) (W false 4607182418800017408) = _
  refine sub_exact (by omega) (by omega) hlt ?_ (fun _ => rfl)
  have a := val_parts (q := 1023) (by omega) ht
  have b := val_parts (q := 1023) (t := 0) (by omega) (by omega)
  rw [show 1023 * 4503599627370496 + t = t + 4607182418800017408 by omega] at a
  rw [show 1023 * 4503599627370496 + 0 = 4607182418800017408 by omega] at b
  rw [a, b, hp]
  simp only [sg, Bool.false_eq_true, if_false]
  rw [Nat.add_mul, Nat.add_zero, show 1023 - 1 = 1022 from rfl]
  omega
end Go.Proofs.Ytbelecjjkclifaa
