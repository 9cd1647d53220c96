import Derived.Test.YtcphabjekfihnaaA15
namespace Go.Proofs.Ytcphabjekfihnaa
open Go.RowKit Flt
attribute [local go_sem] alloc_drewN setCell_drewN

theorem and_u64 (a b : Int) (h1 : 0 ≤ a) (h2 : a < 18446744073709551616) (h3 : 0 ≤ b) (h4 : b < 18446744073709551616) : ∃ n : Nat, bits .and .u64 a b = (n : Int) ∧ n < 18446744073709551616 := by
  refine ⟨_, u64_and a b h1 h2 h3 h4, ?_⟩
  have : a.toNat &&& b.toNat ≤ a.toNat := Nat.and_le_left
  omega
theorem from_at (x : Nat) : x % 8 = 0 ∨ x % 8 = 1 ∨ x % 8 = 2 ∨ x % 8 = 3 ∨ x % 8 = 4 ∨ 5 ≤ x % 8 := by omega

set_option maxRecDepth 100000 in
set_option maxHeartbeats 1000000 in
theorem drawFrom (w : World) (a : Option Addr) (n cap : Nat) (h : Sl8 w a n cap) :
    Calls Try.prog 21 #[.slice a n cap] w fun e w' => ∃ b : Nat, e = .returned (.int .u64 (b : Int)) ∧ b < 18446744073709551616 ∧ Below w.heap.size w w' := by
  go_enter Try.func21, Try.ntmps21
  go_wp2_with fail
  refine (open_any _ _ _ _ h).mono ?_
  rintro e w1 ⟨m, rfl, hR, hB⟩
  clear h
  go_wp2_with fail
  refine (next_any _ _ _ _ _ _ hR).mono ?_
  rintro e w2 ⟨x, i2, hx, rfl, hR2, hB2, hz2⟩
  have HB1 : Hid (Below w.heap.size w w2) := hB.trans hB2
  clear hR hz2 hB hB2
  go_wp2_with fail
  clear hx
  go_loopw [5, 6] (fun b t W => ∃ (j i' : Nat) (bv : Int), j ≤ 8 ∧ t = .int .i64 (j : Nat) ∧ b = .int .u64 bv ∧ 0 ≤ bv ∧ bv < 18446744073709551616 ∧ Rd W w.heap.size a m cap i' ∧ Below w.heap.size w W) (fun _ t _ => 8 - (intOf t).toNat)
  case atStart => exact ⟨0, _, 0, by omega, rfl, rfl, by omega, by omega, hR2, HB1.out⟩
  case round =>
    obtain ⟨j, i3, bv, hj, rfl, rfl, hb0, hb2, hR3, hB3⟩ := hrel
    by_cases hlt : j < 8
    · go_wp2_with fail
      refine (next_any _ _ _ _ _ _ hR3).mono ?_
      rintro e w4 ⟨x4, i4, hx4, rfl, hR4, hB4, hz4⟩
      clear hz4
      go_wp2
      go_roundw
      case rel => first | exact ⟨j + 1, _, _, by omega, by go_num, rfl, wrap_u64_nonneg _, wrap_u64_lt _, hR4, hB3.trans hB4⟩ | ((repeat apply Exists.intro); exact ⟨⟨j + 1, _, _, by omega, by go_num, rfl, wrap_u64_nonneg _, wrap_u64_lt _, hR4, hB3.trans hB4⟩, rfl⟩)
      case measure => simp [intOf]; omega
    · have HB : Hid (0 ≤ bv ∧ bv < 18446744073709551616) := ⟨hb0, hb2⟩
      clear hb0 hb2 hR2
      rcases from_at x with hk | hk | hk | hk | hk | hk
      · have hk' : (x : Int) % 8 = 0 := by omega
        clear hk
        go_wp2
        go_ret
        obtain ⟨nb, hnb, hl⟩ := and_u64 bv 9227875636482146303 HB.out.1 HB.out.2 (by omega) (by omega)
        exact ⟨nb, ret_u64 hnb, hl, hB3⟩
      · have hk' : (x : Int) % 8 = 1 := by omega
        clear hk
        go_wp2
        go_ret
        obtain ⟨nb, hnb, hl⟩ := or_u64 bv 9218868437227405312 HB.out.1 HB.out.2 (by omega) (by omega)
        exact ⟨nb, ret_u64 hnb, hl, hB3⟩
      · have hk' : (x : Int) % 8 = 2 := by omega
        clear hk
        go_wp2
        go_ret
        obtain ⟨nb, hnb, hl⟩ := and_u64 bv 18442240474082181120 HB.out.1 HB.out.2 (by omega) (by omega)
        exact ⟨nb, ret_u64 hnb, hl, hB3⟩
      · have hk' : (x : Int) % 8 = 3 := by omega
        clear hk
        go_wp2_with fail
        refine (drawF _ _ _ _ _ _ hR3).mono ?_
        rintro e w5 ⟨y, i5, rfl, hy, hR5, hB5⟩
        clear hR3 hR5
        go_wp2_with fail
        refine (specBits _ _ hy).mono ?_
        rintro e w6 ⟨rfl, rfl⟩
        go_wp2
        go_ret
        exact ⟨fb y, rfl, fb_lt hy, hB3.trans hB5⟩
      · have hk' : (x : Int) % 8 = 4 := by omega
        clear hk
        go_wp2
        go_ret
        obtain ⟨nb, hnb, hl⟩ := and_u64 bv 9223372036854776063 HB.out.1 HB.out.2 (by omega) (by omega)
        exact ⟨nb, ret_u64 hnb, hl, hB3⟩
      · have t0 : ((x : Int) % 8 == 0) = false := beq_eq_false_iff_ne.2 (by omega)
        have t1 : ((x : Int) % 8 == 1) = false := beq_eq_false_iff_ne.2 (by omega)
        have t2 : ((x : Int) % 8 == 2) = false := beq_eq_false_iff_ne.2 (by omega)
        have t3 : ((x : Int) % 8 == 3) = false := beq_eq_false_iff_ne.2 (by omega)
        have t4 : ((x : Int) % 8 == 4) = false := beq_eq_false_iff_ne.2 (by omega)
        clear hk
        go_wp2
        go_ret
        obtain ⟨nb, hnb⟩ := Int.eq_ofNat_of_zero_le HB.out.1
        exact ⟨nb, ret_u64 hnb, by have := HB.out.2; omega, hB3⟩

/-- Whether the pattern is a NaN's, as the law asks it. -/
theorem nan_mask {s : Bool} {r : Nat} (hr : r < 9223372036854775808) :
    ((bits .and .u64 ((W s r : Nat) : Int) 9218868437227405312 == 9218868437227405312) && (bits .and .u64 ((W s r : Nat) : Int) 4503599627370495 != 0)) = decide (9218868437227405312 < r) := by
  rw [and_exp _ (W_lt hr), and_frac _ (W_lt hr)]
  have e1 : W s r / 4503599627370496 % 2048 = r / 4503599627370496 := by have := W_quo (s := s) hr; omega
  have e2 : W s r % 4503599627370496 = r % 4503599627370496 := by have := W_rem (s := s) hr; omega
  rw [e1, e2, Bool.eq_iff_iff]
  simp only [Bool.and_eq_true, beq_iff_eq, bne_iff_ne, decide_eq_true_eq]
  omega
theorem fb_mask {b : Nat} (hb : b < 18446744073709551616) :
    (((bits .and .u64 (b : Int) 9218868437227405312 == 9218868437227405312) && (bits .and .u64 (b : Int) 4503599627370495 != 0)) = true ∧ fb b = 9221120237041090560) ∨
    (((bits .and .u64 (b : Int) 9218868437227405312 == 9218868437227405312) && (bits .and .u64 (b : Int) 4503599627370495 != 0)) = false ∧ fb b = b) := by
  obtain ⟨s, r, hr, rfl⟩ := split_word b hb
  rw [nan_mask hr]
  by_cases h : 9218868437227405312 < r
  · exact .inl ⟨decide_eq_true h, fb_nan h hr⟩
  · exact .inr ⟨decide_eq_false h, fb_num (by omega)⟩

theorem beq_fb (y z : Nat) : ((fb y : Int) == (fb z : Int)) = decide (fb y = fb z) := by
  rw [Bool.eq_iff_iff]; simp only [beq_iff_eq, decide_eq_true_eq]; omega

set_option maxRecDepth 100000 in
set_option maxHeartbeats 1000000 in
theorem fnFloat_big (w : World) (a : Option Addr) (n cap : Nat) (hn : 1048576 < n) :
    Calls Try.prog 3 #[.slice a n cap] w fun e w' => e = .returned (.bool true) ∧ Below w.heap.size w w' := by
  go_enter Try.func3, Try.ntmps3
  go_wp2
  go_ret
  exact ⟨rfl, Below.refl _ _⟩

set_option maxRecDepth 100000 in
set_option maxHeartbeats 1000000 in
theorem fnFloat (w : World) (a : Option Addr) (n cap : Nat) (h : Sl8 w a n cap) (hn : n ≤ 1048576) :
    Calls Try.prog 3 #[.slice a n cap] w fun e w' => e = .returned (.bool true) ∧ Below w.heap.size w w' := by
  go_enter Try.func3, Try.ntmps3
  go_wp2_with fail
  refine (drawBits _ _ _ _ h).mono ?_
  rintro e w1 ⟨f, rfl, hf, hB1⟩
  have h1 := h.keep hB1
  clear h
  go_wp2_with fail
  refine (implBits _ _).mono ?_
  rintro e w2 ⟨rfl, rfl⟩
  go_wp2_with fail
  refine (implFrom _ _).mono ?_
  rintro e w2 ⟨rfl, rfl⟩
  rw [Int.toNat_natCast]
  go_wp2_with fail
  refine (sameF2 _ _ _ hf (fb_lt hf)).mono ?_
  rintro e w2 ⟨rfl, rfl⟩
  rw [fb_fb, beq_self_eq_true]
  go_wp2_with fail
  refine (implSame _ _ _).mono ?_
  rintro e w2 ⟨rfl, rfl⟩
  rw [fb_fb, beq_self_eq_true]
  go_wp2_with fail
  refine (drawSame _ _ _ _ h1).mono ?_
  rintro e w3 ⟨y, z, rfl, hy, hz, hB3⟩
  have h3 := h1.keep hB3
  clear h1
  go_wp2_with fail
  refine (implSame _ _ _).mono ?_
  rintro e w4 ⟨rfl, rfl⟩
  go_wp2_with fail
  refine (sameF2 _ _ _ hy hz).mono ?_
  rintro e w4 ⟨rfl, rfl⟩
  generalize hD : ((fb y : Int) == (fb z : Int)) = D
  have HD : Hid _ := hD
  clear hD
  have t1 : (D != D) = false := by cases D <;> rfl
  go_wp2_with fail
  refine (implBits _ _).mono ?_
  rintro e w4 ⟨rfl, rfl⟩
  go_wp2_with fail
  refine (implBits _ _).mono ?_
  rintro e w4 ⟨rfl, rfl⟩
  have hD := HD.out
  go_wp2_with fail
  refine (sameF2 _ _ _ hy hz).mono ?_
  rintro e w4 ⟨rfl, rfl⟩
  go_wp2_with fail
  refine (drawFrom _ _ _ _ h3).mono ?_
  rintro e w5 ⟨b, rfl, hb, hB5⟩
  clear h3 hD
  have hBB := hB1.trans ((hB3.mono hB1.size).trans (hB5.mono (Nat.le_trans hB1.size hB3.size)))
  rcases fb_mask hb with ⟨hm, hfb⟩ | ⟨hm, hfb⟩
  · obtain ⟨hA, hC⟩ := Bool.and_eq_true_iff.1 hm
    clear hm
    go_wp2_with fail
    refine (implFrom _ _).mono ?_
    rintro e w6 ⟨rfl, rfl⟩
    rw [Int.toNat_natCast]
    go_wp2_with fail
    refine (implBits _ _).mono ?_
    rintro e w6 ⟨rfl, rfl⟩
    rw [hfb]
    go_wp2
    go_ret
    exact ⟨rfl, hBB⟩
  · have hm2 : (bits .and .u64 (b : Int) 9218868437227405312 == 9218868437227405312) = false ∨ (bits .and .u64 (b : Int) 4503599627370495 != 0) = false := by
      cases hA : (bits .and .u64 (b : Int) 9218868437227405312 == 9218868437227405312)
      · exact .inl rfl
      · rw [hA, Bool.true_and] at hm; exact .inr hm
    clear hm
    have HF : Hid (fb b = b) := hfb
    clear hfb
    rcases hm2 with hA | hC
    · go_wp2_with fail
      refine (implFrom _ _).mono ?_
      rintro e w6 ⟨rfl, rfl⟩
      rw [Int.toNat_natCast]
      go_wp2_with fail
      refine (implBits _ _).mono ?_
      rintro e w6 ⟨rfl, rfl⟩
      rw [HF.out]
      go_wp2
      go_ret
      exact ⟨rfl, hBB⟩
    · cases hA : (bits .and .u64 (b : Int) 9218868437227405312 == 9218868437227405312)
      all_goals
        go_wp2_with fail
        refine (implFrom _ _).mono ?_
        rintro e w6 ⟨rfl, rfl⟩
        rw [Int.toNat_natCast]
        go_wp2_with fail
        refine (implBits _ _).mono ?_
        rintro e w6 ⟨rfl, rfl⟩
        rw [HF.out]
        go_wp2
        go_ret
        exact ⟨rfl, hBB⟩
end Go.Proofs.Ytcphabjekfihnaa
