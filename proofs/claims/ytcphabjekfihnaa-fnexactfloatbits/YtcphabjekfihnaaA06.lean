import Derived.Test.YtcphabjekfihnaaA03
namespace Go.Proofs.Ytcphabjekfihnaa
open Go.RowKit Flt

set_option maxHeartbeats 400000 in
theorem linf_zero (w : World) : Calls Try.prog 71 #[.float .f64 (W false 0)] w fun e w' => e = .returned (.bool false) ∧ w' = w := by
  have h1 : FloatKind.f64.format.order (W false 0) 0 = some .eq := ord_zero_zero
  go_enter Try.func71, Try.ntmps71
  go_wp2
  go_ret
  exact ⟨rfl, rfl⟩
set_option maxHeartbeats 400000 in
theorem linf_fin (r : Nat) (w : World) (h0 : 0 < r) (h : r < 9218868437227405312) : Calls Try.prog 71 #[.float .f64 (W false r)] w fun e w' => e = .returned (.bool false) ∧ w' = w := by
  have h1 : FloatKind.f64.format.order (W false r) 0 = some .gt := ord_zero h0 (by omega)
  obtain ⟨p, hp, hd⟩ := half_ne (s := false) h0 h
  have h2 := fun w => run_float_arith (P := Try.prog) w .quo 23 .f64 (W false r) 4611686018427387904 (W false p) hd
  have h3 : (FloatKind.f64.format.order (W false p) (W false r) == some .eq) = false := by
    rw [show (FloatKind.f64.format.order (W false p) (W false r) == some .eq) = _ from ord_eq_iff (by omega) (by omega)]
    exact decide_eq_false (by omega)
  clear hd
  go_enter Try.func71, Try.ntmps71
  go_wp2
  go_ret
  exact ⟨rfl, rfl⟩
set_option maxHeartbeats 400000 in
theorem linf_inf (w : World) : Calls Try.prog 71 #[.float .f64 (W false 9218868437227405312)] w fun e w' => e = .returned (.bool true) ∧ w' = w := by
  have h1 : FloatKind.f64.format.order (W false 9218868437227405312) 0 = some .gt := ord_zero (by omega) (by omega)
  have h2 := fun w => run_float_arith (P := Try.prog) w .quo 23 .f64 (W false 9218868437227405312) 4611686018427387904 (W false 9218868437227405312) half_inf
  have h3 : FloatKind.f64.format.order (W false 9218868437227405312) (W false 9218868437227405312) = some .eq := ord_self_num (by omega)
  go_enter Try.func71, Try.ntmps71
  go_wp2
  go_ret
  exact ⟨rfl, rfl⟩
theorem linf_any (r : Nat) (w : World) (h : r < 9218868437227405312) : Calls Try.prog 71 #[.float .f64 (W false r)] w fun e w' => e = .returned (.bool false) ∧ w' = w := by
  rcases Nat.eq_zero_or_pos r with h0 | h0
  · subst h0; exact linf_zero w
  · exact linf_fin r w h0 h

/-- The sign's bit. -/
def sb (s : Bool) : Nat := if s then 9223372036854775808 else 0
theorem or_sign (s : Bool) {r : Nat} (h : r < 9223372036854775808) : bits .or .u64 ((sb s : Nat) : Int) (r : Int) = ((W s r : Nat) : Int) := by
  rw [u64_or_nat _ _ (by unfold sb; split <;> omega) (by omega), nat_join 63 (sb s) r (by unfold sb; cases s <;> decide) (by simpa using h)]
  unfold sb W
  cases s <;> simp
theorem or_frac {x t : Nat} (hx : x % 4503599627370496 = 0) (hx' : x < 18446744073709551616) (ht : t < 4503599627370496) : bits .or .u64 (x : Int) (t : Int) = ((x + t : Nat) : Int) := by
  rw [u64_or_nat _ _ hx' (by omega), nat_join 52 x t (by simpa using hx) (by simpa using ht)]

theorem val_parts {q t : Nat} (hq : 0 < q) (ht : t < 4503599627370496) : val (q * 4503599627370496 + t) = (4503599627370496 + t) * p2 (q - 1) := by
  rw [val_p2]
  have e1 : M (q * 4503599627370496 + t) = 4503599627370496 + t := by unfold M; rw [if_neg (by omega)]; omega
  have e2 : E (q * 4503599627370496 + t) = q - 1 := by unfold E; omega
  rw [e1, e2]
theorem p2_52 : p2 52 = 4503599627370496 := by decide
theorem p2_le {a b : Nat} (h : a ≤ b) : p2 a ≤ p2 b := pow_mono h
theorem lt_p2 {t : Nat} (ht : t < 4503599627370496) (k : Nat) : t * p2 k < p2 (52 + k) := by
  rw [p2_add, p2_52]; exact Nat.mul_lt_mul_of_pos_right ht (p2_pos k)
theorem rep2 (t : Nat) (ht : t < 4503599627370496) (k : Nat) (hk : k ≤ 2046) : ∃ r, val r = t * p2 k ∧ r < 9218868437227405312 := by
  obtain ⟨r, hr⟩ := rep t (by omega) k
  refine ⟨r, hr, fin_of_val ?_⟩
  rw [hr]
  exact Nat.lt_of_lt_of_le (lt_p2 ht k) (p2_le (by omega))

/-- The last steps of FloatBits: a fraction scaled and made whole. -/
theorem scaled {t : Nat} (ht : t < 4503599627370496) {p : Nat} (hp : val p = t * p2 1022) (hpl : p < 9218868437227405312) :
    ∃ p', (∀ w, (binOp .mul 23 (.float .f64 (W false p)) (.float .f64 4841369599423283200)).run Try.prog w = .ok (.float .f64 (W false p')) w) ∧
      (∀ w, (convert 23 26 (.float .f64 (W false p'))).run Try.prog w = .ok (.int .u64 (t : Int)) w) := by
  obtain ⟨p', hp', hlt⟩ := rep2 t ht 1074 (by omega)
  refine ⟨p', fun w => run_float_arith w .mul 23 .f64 _ 4841369599423283200 (W false p') ?_, fun w => run_convert_float_int w 23 26 .f64 .u64 _ (t : Int) (by kernel_rfl) Try.underlying26 ?_⟩
  · show Ieee.double.mul (W false p) (W false 4841369599423283200) = _
    rw [mul_exact (p := p') hpl (by omega) hlt ?_]
    · rfl
    · rw [hp, hp', val_big, Nat.mul_assoc, Nat.mul_assoc, ← p2_add, ← p2_add]
  · unfold floatToIntVal
    rw [show (FloatKind.f64.decode (W false p')).toInt .zero = _ from toInt_exact (t := t) hlt hp']
    simp only [sg, Bool.false_eq_true, if_false]
    rw [if_pos]
    simp only [IntKind.min, IntKind.max, IntKind.signed, IntKind.bits]
    constructor
    · simp
    · simp; omega
theorem less_one {t : Nat} (ht : t < 4503599627370496) : ∃ p, val p = t * p2 1022 ∧ p < 9218868437227405312 ∧
    (∀ w, (binOp .sub 23 (.float .f64 (W false (t + 4607182418800017408))) (.float .f64 4607182418800017408)).run Try.prog w = .ok (.float .f64 (W false p)) w) := by
  obtain ⟨p, hp, hlt⟩ := rep2 t ht 1022 (by omega)
  refine ⟨p, hp, hlt, fun w => run_float_arith w .sub 23 .f64 _ 4607182418800017408 (W false p) ?_⟩
  show Ieee.double.sub (W false (t + 4607182418800017408)) (W false 4607182418800017408) = _
  refine sub_exact (by omega) (by omega) hlt ?_ (fun _ => rfl)
  have a := val_parts (q := 1023) (by omega) ht
  have b := val_parts (q := 1023) (t := 0) (by omega) (by omega)
  rw [show 1023 * 4503599627370496 + t = t + 4607182418800017408 by omega] at a
  rw [show 1023 * 4503599627370496 + 0 = 4607182418800017408 by omega] at b
  rw [a, b, hp]
  simp only [sg, Bool.false_eq_true, if_false]
  rw [Nat.add_mul, Nat.add_zero, show 1023 - 1 = 1022 from rfl]
  omega
end Go.Proofs.Ytcphabjekfihnaa

namespace Go.Proofs.Ytcphabjekfihnaa
open Go.RowKit Flt

theorem ge_two {p : Nat} (hp : p < 9218868437227405312) : (FloatKind.f64.format.order (W false p) 4611686018427387904 == some .gt || FloatKind.f64.format.order (W false p) 4611686018427387904 == some .eq) = decide (4611686018427387904 ≤ p) := by
  rw [show FloatKind.f64.format.order (W false p) 4611686018427387904 = _ from order_pos hp (by omega)]
  rcases Nat.lt_trichotomy p 4611686018427387904 with h | h | h
  · rw [Nat.compare_eq_lt.2 h, decide_eq_false (by omega)]; rfl
  · rw [Nat.compare_eq_eq.2 h, decide_eq_true (by omega)]; rfl
  · rw [Nat.compare_eq_gt.2 h, decide_eq_true (by omega)]; rfl
theorem lt_one {p : Nat} (hp : p < 9218868437227405312) : (FloatKind.f64.format.order (W false p) 4607182418800017408 == some .lt) = decide (p < 4607182418800017408) := by
  rw [show FloatKind.f64.format.order (W false p) 4607182418800017408 = _ from order_pos hp (by omega)]
  rcases Nat.lt_trichotomy p 4607182418800017408 with h | h | h
  · rw [Nat.compare_eq_lt.2 h, decide_eq_true (by omega)]; rfl
  · rw [Nat.compare_eq_eq.2 h, decide_eq_false (by omega)]; rfl
  · rw [Nat.compare_eq_gt.2 h, decide_eq_false (by omega)]; rfl


theorem half_run {p : Nat} (h : 4611686018427387904 ≤ p) (h' : p < 9218868437227405312) (w : World) :
    (binOp .quo 23 (.float .f64 (W false p)) (.float .f64 4611686018427387904)).run Try.prog w = .ok (.float .f64 (W false (p - 4503599627370496))) w :=
  run_float_arith w .quo 23 .f64 (W false p) 4611686018427387904 (W false (p - 4503599627370496)) (div_two (s := false) h' (val_half (by omega)))
theorem dbl_run {p : Nat} (h : dbl p < 9218868437227405312) (w : World) :
    (binOp .mul 23 (.float .f64 (W false p)) (.float .f64 4611686018427387904)).run Try.prog w = .ok (.float .f64 (W false (dbl p))) w :=
  run_float_arith w .mul 23 .f64 (W false p) 4611686018427387904 (W false (dbl p)) (mul_two (s := false) h)

theorem neg_run (r : Nat) (h : r < 9223372036854775808) (w : World) : (Op.unary .neg (.float .f64 (W true r))).run Try.prog w = .ok (.float .f64 (W false r)) w := by
  have : Op.negFloat FloatKind.f64 (W true r) = W false r := neg_W true h
  rw [← this]; rfl
theorem fin_parts (s : Bool) {q t r : Nat} (hj : q ≤ 2046) (ht : t < 4503599627370496) (hr : q * 4503599627370496 + t = r) :
    bits .or .u64 (bits .or .u64 ((sb s : Nat) : Int) ((q * 4503599627370496 : Nat) : Int)) (t : Int) = ((W s r : Nat) : Int) := by
  rw [or_sign s (by omega), or_frac (by unfold W; split <;> omega) (W_lt (by omega)) ht]
  unfold W
  split <;> omega
theorem fin_up {p j t r : Nat} (h1 : p + j * 4503599627370496 ≤ r) (h2 : r ≤ p + j * 4503599627370496) (h3 : t + 4607182418800017408 = p) (ht : t < 4503599627370496) (h' : r < 9218868437227405312) :
    bits .or .u64 (bits .or .u64 0 (((j : Int) + 1023) * 4503599627370496)) (t : Int) = ((W false r : Nat) : Int) ∧
    bits .or .u64 (bits .or .u64 9223372036854775808 (((j : Int) + 1023) * 4503599627370496)) (t : Int) = ((W true r : Nat) : Int) := by
  have e : ((j : Int) + 1023) * 4503599627370496 = (((j + 1023) * 4503599627370496 : Nat) : Int) := by omega
  rw [e]
  exact ⟨fin_parts false (by omega) ht (by omega), fin_parts true (by omega) ht (by omega)⟩
theorem ret_u64 {a b : Int} (h : a = b) : Ending.returned (.int .u64 a) = .returned (.int .u64 b) := by rw [h]

set_option maxHeartbeats 1000000 in
theorem specBits_big (s : Bool) (r : Nat) (w : World) (h : 4607182418800017408 ≤ r) (h' : r < 9218868437227405312) :
    Calls Try.prog 23 #[.float .f64 (W s r)] w fun e w' => e = .returned (.int .u64 ((W s r : Nat) : Int)) ∧ w' = w := by
  have n1 := isn_num (s := s) (by omega : r ≤ 9218868437227405312)
  have hneg := neg_run r (by omega)
  cases s
  all_goals
    go_enter Try.func23, Try.ntmps23
    go_wp2_with fail
    refine (l1nan_any _ _).mono ?_
    rintro e w' ⟨rfl, rfl⟩
    go_wp2_with fail
    refine (l1minus_any _ _ _ (by omega)).mono ?_
    rintro e w' ⟨rfl, rfl⟩
    go_wp2_with fail
    refine (linf_any _ _ h').mono ?_
    rintro e w' ⟨rfl, rfl⟩
    clear n1 hneg
    go_wp2_with fail
    go_loop [4, 5] (fun m e => ∃ j p : Nat, p + j * 4503599627370496 ≤ r ∧ r ≤ p + j * 4503599627370496 ∧ 4607182418800017408 ≤ p ∧ m = .float .f64 (W false p) ∧ e = .int .i64 j) (fun _ e => r - (intOf e).toNat)
    case atStart => exact ⟨0, r, by omega, by omega, h, rfl, rfl⟩
    case round =>
      obtain ⟨j, p, hj, hj', hp, rfl, rfl⟩ := hrel
      by_cases hc : 4611686018427387904 ≤ p
      · have c1 := ge_two (p := p) (by omega)
        rw [decide_eq_true hc] at c1
        have c2 := fun w => half_run hc (by omega) w
        go_wp2
        go_round
        case rel => exact ⟨j + 1, _, by omega, by omega, by omega, rfl, by go_num⟩
        case measure => simp [intOf]; omega
      · have c1 := ge_two (p := p) (by omega)
        rw [decide_eq_false hc] at c1
        have c2 := lt_one (p := p) (by omega)
        rw [decide_eq_false (by omega)] at c2
        obtain ⟨t, ht, hpt⟩ : ∃ t, t < 4503599627370496 ∧ t + 4607182418800017408 = p := ⟨p - 4607182418800017408, by omega, by omega⟩
        obtain ⟨p1, hp1, hl1, hrun1⟩ := less_one ht
        obtain ⟨p2, hrun2, hrun3⟩ := scaled ht hp1 hl1
        rw [hpt] at hrun1
        have HF := fin_up hj hj' hpt ht h'
        have HF1 : Hid _ := HF.1
        have HF2 : Hid _ := HF.2
        clear HF
        clear hpt hp1
        go_wp2_with fail
        go_loop [4, 5] (fun m e => m = .float .f64 (W false p) ∧ e = .int .i64 j) (fun _ e => 0)
        case atStart => exact ⟨rfl, rfl⟩
        case round =>
          obtain ⟨rfl, rfl⟩ := hrel
          go_wp2
          go_ret
          first | exact ⟨ret_u64 HF1.out, rfl⟩ | exact ⟨ret_u64 HF2.out, rfl⟩

theorem fin_down {p j t r : Nat} (h1 : p ≤ r + j * 4503599627370496) (h2 : r + j * 4503599627370496 ≤ p) (h3 : t + 4607182418800017408 = p) (ht : t < 4503599627370496) (hj : j ≤ 1022) :
    bits .or .u64 (bits .or .u64 0 ((-(j : Int) + 1023) * 4503599627370496)) (t : Int) = ((W false r : Nat) : Int) ∧
    bits .or .u64 (bits .or .u64 9223372036854775808 ((-(j : Int) + 1023) * 4503599627370496)) (t : Int) = ((W true r : Nat) : Int) := by
  have e : (-(j : Int) + 1023) * 4503599627370496 = (((1023 - j) * 4503599627370496 : Nat) : Int) := by omega
  rw [e]
  have hr : (1023 - j) * 4503599627370496 + t = r := by omega
  exact ⟨fin_parts false (by omega) ht hr, fin_parts true (by omega) ht hr⟩
theorem dbl_big {p : Nat} (h : 4503599627370496 ≤ p) : dbl p = p + 4503599627370496 := by unfold dbl; rw [if_neg (by omega)]

theorem mid_step {p r j : Nat} (h1 : p ≤ r + j * 4503599627370496) (h2 : r + j * 4503599627370496 ≤ p) (h3 : p < 4607182418800017408) :
    p + 4503599627370496 ≤ r + (j + 1) * 4503599627370496 ∧ r + (j + 1) * 4503599627370496 ≤ p + 4503599627370496 ∧ p + 4503599627370496 < 4611686018427387904 := by
  have key : ∀ z B, p ≤ r + z → r + z ≤ p → p + B ≤ r + (z + B) ∧ r + (z + B) ≤ p + B := fun z B a b => ⟨by omega, by omega⟩
  have e : (j + 1) * 4503599627370496 = j * 4503599627370496 + 4503599627370496 := Nat.succ_mul _ _
  rw [e]
  have k := key (j * 4503599627370496) 4503599627370496 h1 h2
  exact ⟨k.1, k.2, by clear k e key h1 h2; omega⟩
set_option maxRecDepth 100000 in
set_option maxHeartbeats 1000000 in
theorem specBits_mid (s : Bool) (r : Nat) (w : World) (h0 : 4503599627370496 ≤ r) (h : r < 4607182418800017408) :
    Calls Try.prog 23 #[.float .f64 (W s r)] w fun e w' => e = .returned (.int .u64 ((W s r : Nat) : Int)) ∧ w' = w := by
  have h' : r < 9218868437227405312 := by omega
  have n1 := isn_num (s := s) (by omega : r ≤ 9218868437227405312)
  have hneg := neg_run r (by omega)
  cases s
  all_goals
    go_enter Try.func23, Try.ntmps23
    go_wp2_with fail
    refine (l1nan_any _ _).mono ?_
    rintro e w' ⟨rfl, rfl⟩
    go_wp2_with fail
    refine (l1minus_any _ _ _ (by omega)).mono ?_
    rintro e w' ⟨rfl, rfl⟩
    go_wp2_with fail
    refine (linf_any _ _ h').mono ?_
    rintro e w' ⟨rfl, rfl⟩
    clear n1 hneg
    go_wp2_with fail
    go_loop [4, 5] (fun m e => m = .float .f64 (W false r) ∧ e = .int .i64 0) (fun _ e => 0)
    case atStart => exact ⟨rfl, rfl⟩
    case round =>
      obtain ⟨rfl, rfl⟩ := hrel
      have c1 := ge_two (p := r) (by omega)
      rw [decide_eq_false (by omega)] at c1
      go_wp2_with fail
      go_loop [4, 5] (fun m e => ∃ j p : Nat, p ≤ r + j * 4503599627370496 ∧ r + j * 4503599627370496 ≤ p ∧ p < 4611686018427387904 ∧ m = .float .f64 (W false p) ∧ e = .int .i64 (-(j : Int))) (fun _ e => 2000 - (-(intOf e)).toNat)
      case atStart => exact ⟨0, r, by omega, by omega, by omega, rfl, rfl⟩
      case round =>
        obtain ⟨j, p, hj, hj', hp, rfl, rfl⟩ := hrel
        clear c1
        by_cases hc : p < 4607182418800017408
        · have c2 := lt_one (p := p) (by omega)
          rw [decide_eq_true hc] at c2
          have hd := dbl_big (p := p) (by omega)
          have c3 := fun w => dbl_run (p := p) (by omega) w
          rw [hd] at c3
          clear hd
          have hj3 : j ≤ 1021 := by omega
          have hm : Hid _ := mid_step hj hj' hc
          go_wp2
          go_round
          case rel => exact ⟨j + 1, _, hm.out.1, hm.out.2.1, hm.out.2.2, rfl, by go_num⟩
          case measure => simp [intOf]; omega
        · have c2 := lt_one (p := p) (by omega)
          rw [decide_eq_false hc] at c2
          have hj3 : j ≤ 1022 := by omega
          obtain ⟨t, ht, hpt⟩ : ∃ t, t < 4503599627370496 ∧ t + 4607182418800017408 = p := ⟨p - 4607182418800017408, by omega, by omega⟩
          obtain ⟨p1, hp1, hl1, hrun1⟩ := less_one ht
          obtain ⟨p2, hrun2, hrun3⟩ := scaled ht hp1 hl1
          rw [hpt] at hrun1
          have HF := fin_down hj hj' hpt ht hj3
          have HF1 : Hid _ := HF.1
          have HF2 : Hid _ := HF.2
          clear HF
          clear hpt hp1 hj hj' hp ht hl1 hc h0 h h'
          go_wp2
          go_ret
          first | exact ⟨ret_u64 HF1.out, rfl⟩ | exact ⟨ret_u64 HF2.out, rfl⟩

theorem sub_lt {r p j : Nat} (hr : r < 4503599627370496) (hj : j ≤ 1022) (h : val p = r * p2 j) : p < 4607182418800017408 := by
  have a := lt_p2 hr j
  rw [← h] at a
  refine val_lt_iff.1 (Nat.lt_of_lt_of_le a ?_)
  rw [val_one]
  exact p2_le (by omega)
theorem sub_step {r p j : Nat} (h : val p = r * p2 j) : val (dbl p) = r * p2 (j + 1) := by
  rw [val_dbl, h, p2_succ]
  exact Nat.mul_left_comm _ _ _
theorem fin_sub {t : Nat} (h : t < 4503599627370496) : bits .or .u64 0 (t : Int) = ((W false t : Nat) : Int) ∧ bits .or .u64 9223372036854775808 (t : Int) = ((W true t : Nat) : Int) :=
  ⟨or_sign false (by omega), or_sign true (by omega)⟩

set_option maxRecDepth 100000 in
set_option maxHeartbeats 1000000 in
theorem specBits_sub (s : Bool) (r : Nat) (w : World) (h : r < 4503599627370496) :
    Calls Try.prog 23 #[.float .f64 (W s r)] w fun e w' => e = .returned (.int .u64 ((W s r : Nat) : Int)) ∧ w' = w := by
  have h' : r < 9218868437227405312 := by omega
  have n1 := isn_num (s := s) (by omega : r ≤ 9218868437227405312)
  have hneg := neg_run r (by omega)
  cases s
  all_goals
    go_enter Try.func23, Try.ntmps23
    go_wp2_with fail
    refine (l1nan_any _ _).mono ?_
    rintro e w' ⟨rfl, rfl⟩
    go_wp2_with fail
    refine (l1minus_any _ _ _ (by omega)).mono ?_
    rintro e w' ⟨rfl, rfl⟩
    go_wp2_with fail
    refine (linf_any _ _ h').mono ?_
    rintro e w' ⟨rfl, rfl⟩
    clear n1 hneg
    go_wp2_with fail
    go_loop [4, 5] (fun m e => m = .float .f64 (W false r) ∧ e = .int .i64 0) (fun _ e => 0)
    case atStart => exact ⟨rfl, rfl⟩
    case round =>
      obtain ⟨rfl, rfl⟩ := hrel
      have c1 := ge_two (p := r) (by omega)
      rw [decide_eq_false (by omega)] at c1
      go_wp2_with fail
      go_loop [4, 5] (fun m e => ∃ j p : Nat, j ≤ 1022 ∧ val p = r * p2 j ∧ m = .float .f64 (W false p) ∧ e = .int .i64 (-(j : Int))) (fun _ e => 2000 - (-(intOf e)).toNat)
      case atStart => exact ⟨0, r, by omega, by rw [val_small (by omega), show p2 0 = 1 from rfl, Nat.mul_one], rfl, rfl⟩
      case round =>
        obtain ⟨j, p, hj, hv, rfl, rfl⟩ := hrel
        clear c1
        have hp := sub_lt h hj hv
        have c2 := lt_one (p := p) (by omega)
        rw [decide_eq_true hp] at c2
        by_cases hc : j < 1022
        · have hs := sub_step hv
          have hp' := sub_lt h (by omega) hs
          have c3 := fun w => dbl_run (p := p) (by omega) w
          have HS : Hid _ := hs
          clear hs hv hp hp' h h' hj
          go_wp2
          go_round
          case rel => exact ⟨j + 1, _, by omega, HS.out, rfl, by go_num⟩
          case measure => simp [intOf]; omega
        · obtain rfl : j = 1022 := by omega
          obtain ⟨p', hrun2, hrun3⟩ := scaled h hv (by omega)
          have HF := fin_sub h
          have HF1 : Hid _ := HF.1
          have HF2 : Hid _ := HF.2
          clear HF hv hp h h' hj hc
          go_wp2
          go_ret
          first | exact ⟨ret_u64 HF1.out, rfl⟩ | exact ⟨ret_u64 HF2.out, rfl⟩

theorem fin_inf : bits .or .u64 0 9218868437227405312 = ((W false 9218868437227405312 : Nat) : Int) ∧ bits .or .u64 9223372036854775808 9218868437227405312 = ((W true 9218868437227405312 : Nat) : Int) :=
  ⟨or_sign false (r := 9218868437227405312) (by omega), or_sign true (r := 9218868437227405312) (by omega)⟩
set_option maxHeartbeats 1000000 in
theorem specBits_inf (s : Bool) (w : World) :
    Calls Try.prog 23 #[.float .f64 (W s 9218868437227405312)] w fun e w' => e = .returned (.int .u64 ((W s 9218868437227405312 : Nat) : Int)) ∧ w' = w := by
  have n1 := isn_num (s := s) (Nat.le_refl 9218868437227405312)
  have hneg := neg_run 9218868437227405312 (by omega)
  have HF1 : Hid _ := fin_inf.1
  have HF2 : Hid _ := fin_inf.2
  cases s
  all_goals
    go_enter Try.func23, Try.ntmps23
    go_wp2_with fail
    refine (l1nan_any _ _).mono ?_
    rintro e w' ⟨rfl, rfl⟩
    go_wp2_with fail
    refine (l1minus_any _ _ _ (by omega)).mono ?_
    rintro e w' ⟨rfl, rfl⟩
    go_wp2_with fail
    refine (linf_inf _).mono ?_
    rintro e w' ⟨rfl, rfl⟩
    clear n1 hneg
    go_wp2
    go_ret
    first | exact ⟨ret_u64 HF1.out, rfl⟩ | exact ⟨ret_u64 HF2.out, rfl⟩
set_option maxHeartbeats 1000000 in
theorem specBits_nan (x : Nat) (w : World) (n1 : (FloatKind.f64.format.order x x != some .eq) = true) :
    Calls Try.prog 23 #[.float .f64 x] w fun e w' => e = .returned (.int .u64 9221120237041090560) ∧ w' = w := by
  go_enter Try.func23, Try.ntmps23
  go_wp2_with fail
  refine (l1nan_any _ _).mono ?_
  rintro e w' ⟨rfl, rfl⟩
  go_wp2
  go_ret
  exact ⟨rfl, rfl⟩

theorem specBits (x : Nat) (w : World) (hx : x < 18446744073709551616) :
    Calls Try.prog 23 #[.float .f64 x] w fun e w' => e = .returned (.int .u64 ((fb x : Nat) : Int)) ∧ w' = w := by
  obtain ⟨s, r, hr, rfl⟩ := split_word x hx
  rcases Nat.lt_trichotomy r 9218868437227405312 with h | h | h
  · rw [fb_num (by omega)]
    rcases Nat.lt_or_ge r 4503599627370496 with h1 | h1
    · exact specBits_sub s r w h1
    · rcases Nat.lt_or_ge r 4607182418800017408 with h2 | h2
      · exact specBits_mid s r w h1 h2
      · exact specBits_big s r w h2 h
  · subst h; rw [fb_num (by omega)]; exact specBits_inf s w
  · rw [fb_nan h hr]; exact specBits_nan _ w (isn_nan h hr)

end Go.Proofs.Ytcphabjekfihnaa
