import Derived.Test.YtpglbgejlpeckabB
namespace Go.Proofs.Ytpglbgejlpeckab
open Go.RowKit Flt

/-- laws.sameFloat -/
theorem W0 (s : Bool) {r : Nat} (h0 : 0 < r) (h : r ≤ 9218868437227405312) : (FloatKind.f64.format.order (W s r) 0 == some .eq) = false := by
  rw [show FloatKind.f64.format.order (W s r) 0 = _ from ord_zero h0 h]; cases s <;> rfl
set_option maxHeartbeats 1000000 in
theorem sameF (x y : Nat) (w : World) (hx : x < 18446744073709551616) (hy : y < 18446744073709551616) :
    Calls Try.prog 19 #[.float .f64 x, .float .f64 y] w fun e w' => e = .returned (.bool ((fb x : Int) == (fb y : Int))) ∧ w' = w := by
  obtain ⟨s, r, hr, rfl⟩ := split_word x hx
  obtain ⟨t, q, hq, rfl⟩ := split_word y hy
  clear hx hy
  by_cases h1 : r ≤ 9218868437227405312
  · have n1 := isn_num (s := s) h1
    by_cases h2 : q ≤ 9218868437227405312
    · have n2 := isn_num (s := t) h2
      rw [fb_num h1, fb_num h2, W_beq hr hq]
      by_cases hz : r = 0 ∧ q = 0
      · obtain ⟨rfl, rfl⟩ := hz
        have a1 : FloatKind.f64.format.order (W s 0) 0 = some .eq := ord_zero_zero
        have a2 : FloatKind.f64.format.order (W t 0) 0 = some .eq := ord_zero_zero
        have b1 := fun w => run_float_arith (P := Try.prog) w .quo 22 .f64 4607182418800017408 (W s 0) (W s 9218868437227405312) one_over_zero
        have b2 := fun w => run_float_arith (P := Try.prog) w .quo 22 .f64 4607182418800017408 (W t 0) (W t 9218868437227405312) one_over_zero
        have c1 : FloatKind.f64.format.order (W s 9218868437227405312) 0 = some (if s then .lt else .gt) := ord_zero (by omega) (by omega)
        have c2 : FloatKind.f64.format.order (W t 9218868437227405312) 0 = some (if t then .lt else .gt) := ord_zero (by omega) (by omega)
        cases s <;> cases t
        all_goals
          go_enter Try.func19, Try.ntmps19
          go_wp2
          go_ret
          exact ⟨rfl, rfl⟩
      · have hE : (FloatKind.f64.format.order (W s r) (W t q) == some .eq) = _ := ord_eq_iff (s := s) (t := t) h1 h2
        rw [show decide (r = q ∧ (s = t ∨ r = 0)) = decide (r = q ∧ s = t) by
          rw [Bool.eq_iff_iff]; simp only [decide_eq_true_eq]; constructor
          · rintro ⟨a, b | b⟩
            · exact ⟨a, b⟩
            · exact absurd ⟨b, by omega⟩ hz
          · rintro ⟨a, b⟩; exact ⟨a, .inl b⟩] at hE
        generalize decide (r = q ∧ s = t) = D at hE ⊢
        by_cases hr0 : r = 0
        · have hq0 : 0 < q := by omega
          subst hr0
          have a1 : FloatKind.f64.format.order (W s 0) 0 = some .eq := ord_zero_zero
          have a2 := W0 t hq0 h2
          clear hz
          go_enter Try.func19, Try.ntmps19
          go_wp2
          go_ret
          exact ⟨rfl, rfl⟩
        · have a1 := W0 s (by omega : 0 < r) h1
          clear hz
          go_enter Try.func19, Try.ntmps19
          go_wp2
          go_ret
          exact ⟨rfl, rfl⟩
    · have n2 := isn_nan (s := t) (by omega : 9218868437227405312 < q) hq
      rw [fb_num h1, fb_nan (by omega) hq, show (((9221120237041090560 : Nat)) : Int) = 9221120237041090560 from rfl, (W_ne_nan h1).1]
      go_enter Try.func19, Try.ntmps19
      go_wp2
      go_ret
      exact ⟨rfl, rfl⟩
  · have n1 := isn_nan (s := s) (by omega : 9218868437227405312 < r) hr
    by_cases h2 : q ≤ 9218868437227405312
    · have n2 := isn_num (s := t) h2
      rw [fb_num h2, fb_nan (by omega) hr, show (((9221120237041090560 : Nat)) : Int) = 9221120237041090560 from rfl, (W_ne_nan h2).2]
      go_enter Try.func19, Try.ntmps19
      go_wp2
      go_ret
      exact ⟨rfl, rfl⟩
    · have n2 := isn_nan (s := t) (by omega : 9218868437227405312 < q) hq
      rw [fb_nan (by omega) hr, fb_nan (by omega) hq, show (((9221120237041090560 : Nat) : Int) == ((9221120237041090560 : Nat) : Int)) = true from beq_self_eq_true _]
      go_enter Try.func19, Try.ntmps19
      go_wp2
      go_ret
      exact ⟨rfl, rfl⟩
end Go.Proofs.Ytpglbgejlpeckab
