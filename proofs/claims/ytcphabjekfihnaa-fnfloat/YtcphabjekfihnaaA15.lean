import Derived.Test.YtcphabjekfihnaaA14
namespace Go.Proofs.Ytcphabjekfihnaa
open Go.RowKit Flt
attribute [local go_sem] alloc_drewN setCell_drewN

theorem and_mask (w m k : Nat) : w &&& (m <<< k) = ((w >>> k) &&& m) <<< k := by
  apply Nat.eq_of_testBit_eq
  intro i
  rw [Nat.testBit_and, Nat.testBit_shiftLeft, Nat.testBit_shiftLeft, Nat.testBit_and, Nat.testBit_shiftRight]
  by_cases h : k ≤ i
  · rw [show k + (i - k) = i by omega]
    cases decide (i ≥ k) <;> simp
  · rw [show decide (i ≥ k) = false from decide_eq_false h]; simp
theorem and_exp (b : Nat) (h : b < 18446744073709551616) : bits .and .u64 (b : Int) 9218868437227405312 = ((b / 4503599627370496 % 2048 * 4503599627370496 : Nat) : Int) := by
  rw [show (9218868437227405312 : Int) = ((9218868437227405312 : Nat) : Int) from rfl, u64_and_nat _ _ h (by omega)]
  congr 1
  rw [show (9218868437227405312 : Nat) = 2047 <<< 52 by decide, and_mask, Nat.shiftRight_eq_div_pow, Nat.shiftLeft_eq]
  rw [show (2047 : Nat) = 2 ^ 11 - 1 by decide, Nat.and_two_pow_sub_one_eq_mod]
theorem and_frac (b : Nat) (h : b < 18446744073709551616) : bits .and .u64 (b : Int) 4503599627370495 = ((b % 4503599627370496 : Nat) : Int) := by
  rw [show (4503599627370495 : Int) = ((4503599627370495 : Nat) : Int) from rfl, u64_and_nat _ _ h (by omega)]
  congr 1
  rw [show (4503599627370495 : Nat) = 2 ^ 52 - 1 by decide, Nat.and_two_pow_sub_one_eq_mod]

theorem fb_fb (x : Nat) : fb (fb x) = fb x := by
  cases h : (f64.read x).isNaN
  · rw [fb_of_num h, fb_of_num h]
  · rw [fb_of_nan h]; decide
theorem fb_lt {x : Nat} (h : x < 18446744073709551616) : fb x < 18446744073709551616 := by
  unfold fb; split <;> omega

/-- laws.sameF -/
theorem W0' (s : Bool) {r : Nat} (h0 : 0 < r) (h : r ≤ 9218868437227405312) : (FloatKind.f64.format.order (W s r) 0 == some .eq) = false := by
  rw [show FloatKind.f64.format.order (W s r) 0 = _ from ord_zero h0 h]; cases s <;> rfl
set_option maxHeartbeats 1000000 in
theorem sameF2 (x y : Nat) (w : World) (hx : x < 18446744073709551616) (hy : y < 18446744073709551616) :
    Calls Try.prog 18 #[.float .f64 x, .float .f64 y] w fun e w' => e = .returned (.bool ((fb x : Int) == (fb y : Int))) ∧ w' = w := by
  obtain ⟨s, r, hr, rfl⟩ := split_word x hx
  obtain ⟨t, q, hq, rfl⟩ := split_word y hy
  clear hx hy
  by_cases h1 : r ≤ 9218868437227405312
  · have n1 := isn_num (s := s) h1
    by_cases h2 : q ≤ 9218868437227405312
    · have n2 := isn_num (s := t) h2
      rw [fb_num h1, fb_num h2, W_beq hr hq]
      by_cases hz : r = 0 ∧ q = 0
      · obtain ⟨rfl, rfl⟩ := hz
        have a1 : FloatKind.f64.format.order (W s 0) 0 = some .eq := ord_zero_zero
        have a2 : FloatKind.f64.format.order (W t 0) 0 = some .eq := ord_zero_zero
        have b1 := fun w => run_float_arith (P := Try.prog) w .quo 23 .f64 4607182418800017408 (W s 0) (W s 9218868437227405312) one_over_zero
        have b2 := fun w => run_float_arith (P := Try.prog) w .quo 23 .f64 4607182418800017408 (W t 0) (W t 9218868437227405312) one_over_zero
        have c1 : FloatKind.f64.format.order (W s 9218868437227405312) 0 = some (if s then .lt else .gt) := ord_zero (by omega) (by omega)
        have c2 : FloatKind.f64.format.order (W t 9218868437227405312) 0 = some (if t then .lt else .gt) := ord_zero (by omega) (by omega)
        cases s <;> cases t
        all_goals
          go_enter Try.func18, Try.ntmps18
          go_wp2
          go_ret
          exact ⟨rfl, rfl⟩
      · have hE : (FloatKind.f64.format.order (W s r) (W t q) == some .eq) = _ := ord_eq_iff (s := s) (t := t) h1 h2
        rw [show decide (r = q ∧ (s = t ∨ r = 0)) = decide (r = q ∧ s = t) by
          rw [Bool.eq_iff_iff]; simp only [decide_eq_true_eq]; constructor
          · rintro ⟨a, b | b⟩
            · exact ⟨a, b⟩
            · exact absurd ⟨b, by omega⟩ hz
          · rintro ⟨a, b⟩; exact ⟨a, .inl b⟩] at hE
        generalize decide (r = q ∧ s = t) = D at hE ⊢
        by_cases hr0 : r = 0
        · have hq0 : 0 < q := by omega
          subst hr0
          have a1 : FloatKind.f64.format.order (W s 0) 0 = some .eq := ord_zero_zero
          have a2 := W0' t hq0 h2
          clear hz
          go_enter Try.func18, Try.ntmps18
          go_wp2
          go_ret
          exact ⟨rfl, rfl⟩
        · have a1 := W0' s (by omega : 0 < r) h1
          clear hz
          go_enter Try.func18, Try.ntmps18
          go_wp2
          go_ret
          exact ⟨rfl, rfl⟩
    · have n2 := isn_nan (s := t) (by omega : 9218868437227405312 < q) hq
      rw [fb_num h1, fb_nan (by omega) hq, show (((9221120237041090560 : Nat)) : Int) = 9221120237041090560 from rfl, (W_ne_nan h1).1]
      go_enter Try.func18, Try.ntmps18
      go_wp2
      go_ret
      exact ⟨rfl, rfl⟩
  · have n1 := isn_nan (s := s) (by omega : 9218868437227405312 < r) hr
    by_cases h2 : q ≤ 9218868437227405312
    · have n2 := isn_num (s := t) h2
      rw [fb_num h2, fb_nan (by omega) hr, show (((9221120237041090560 : Nat)) : Int) = 9221120237041090560 from rfl, (W_ne_nan h2).2]
      go_enter Try.func18, Try.ntmps18
      go_wp2
      go_ret
      exact ⟨rfl, rfl⟩
    · have n2 := isn_nan (s := t) (by omega : 9218868437227405312 < q) hq
      rw [fb_nan (by omega) hr, fb_nan (by omega) hq, show (((9221120237041090560 : Nat) : Int) == ((9221120237041090560 : Nat) : Int)) = true from beq_self_eq_true _]
      go_enter Try.func18, Try.ntmps18
      go_wp2
      go_ret
      exact ⟨rfl, rfl⟩

set_option maxHeartbeats 400000 in
theorem drawBits (w : World) (a : Option Addr) (n cap : Nat) (h : Sl8 w a n cap) :
    Calls Try.prog 15 #[.slice a n cap] w fun e w' => ∃ y, e = .returned (.float .f64 y) ∧ y < 18446744073709551616 ∧ Below w.heap.size w w' := by
  go_enter Try.func15, Try.ntmps15
  go_wp2_with fail
  refine (open_any _ _ _ _ h).mono ?_
  rintro e w1 ⟨m, rfl, hR, hB⟩
  clear h
  go_wp2_with fail
  refine (drawF _ _ _ _ _ _ hR).mono ?_
  rintro e w2 ⟨y, i, rfl, hy, hR2, hB2⟩
  clear hR hR2
  go_wp2
  go_ret
  exact ⟨_, rfl, hy, hB.trans hB2⟩

set_option maxHeartbeats 1000000 in
theorem drawSame (w : World) (a : Option Addr) (n cap : Nat) (h : Sl8 w a n cap) :
    Calls Try.prog 20 #[.slice a n cap] w fun e w' => ∃ y z, e = .returned (.tuple #[.float .f64 y, .float .f64 z]) ∧ y < 18446744073709551616 ∧ z < 18446744073709551616 ∧ Below w.heap.size w w' := by
  have f3 := run_fneg
  go_enter Try.func20, Try.ntmps20
  go_wp2_with fail
  refine (open_any _ _ _ _ h).mono ?_
  rintro e w1 ⟨m, rfl, hR, hB⟩
  clear h
  go_wp2_with fail
  refine (next_any _ _ _ _ _ _ hR).mono ?_
  rintro e w2 ⟨x, i2, hx, rfl, hR2, hB2, hz2⟩
  clear hR hz2
  go_wp2_with fail
  refine (drawF _ _ _ _ _ _ hR2).mono ?_
  rintro e w3 ⟨y, i3, rfl, hy, hR3, hB3⟩
  clear hR2
  by_cases h0 : (x : Int) % 4 = 0
  · clear f3
    go_wp2
    go_ret2
    exact ⟨_, _, rfl, hy, hy, hB.trans (hB2.trans hB3)⟩
  · by_cases h1 : (x : Int) % 4 = 1
    · clear h0
      go_wp2
      go_ret2
      exact ⟨_, _, rfl, hy, neg_lt hy, hB.trans (hB2.trans hB3)⟩
    · have t0 : ((x : Int) % 4 == 0) = false := beq_eq_false_iff_ne.2 h0
      have t1 : ((x : Int) % 4 == 1) = false := beq_eq_false_iff_ne.2 h1
      clear h0 h1 f3 hx
      go_wp2_with fail
      refine (drawF _ _ _ _ _ _ hR3).mono ?_
      rintro e w4 ⟨z, i4, rfl, hz, hR4, hB4⟩
      clear hR3 hR4
      go_wp2
      go_ret2
      exact ⟨_, _, rfl, hy, hz, hB.trans (hB2.trans (hB3.trans hB4))⟩
end Go.Proofs.Ytcphabjekfihnaa
