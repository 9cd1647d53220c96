import Derived.Test.YtcphabjekfihnaaA03
namespace Go.Proofs.Ytcphabjekfihnaa
open Go.RowKit Flt

set_option maxHeartbeats 400000 in
theorem over_any (x y : Nat) (w : World) : Calls Try.prog 74 #[.float .f64 x, .float .f64 y] w fun e w' => e = .returned (.float .f64 (fop .quo x y w)) ∧ w' = w.drewN (fnd .quo x y) := by
  have h1 := @run_fquo Try.prog
  have h2 := convff
  go_enter Try.func74, Try.ntmps74
  go_wp2
  go_ret
  exact ⟨rfl, rfl⟩
set_option maxHeartbeats 400000 in
theorem times_any (x y : Nat) (w : World) : Calls Try.prog 75 #[.float .f64 x, .float .f64 y] w fun e w' => e = .returned (.float .f64 (fop .mul x y w)) ∧ w' = w.drewN (fnd .mul x y) := by
  have h1 := @run_fmul Try.prog
  have h2 := convff
  go_enter Try.func75, Try.ntmps75
  go_wp2
  go_ret
  exact ⟨rfl, rfl⟩
set_option maxHeartbeats 400000 in
theorem plus_any (x y : Nat) (w : World) : Calls Try.prog 76 #[.float .f64 x, .float .f64 y] w fun e w' => e = .returned (.float .f64 (fop .add x y w)) ∧ w' = w.drewN (fnd .add x y) := by
  have h1 := @run_fadd Try.prog
  have h2 := convff
  go_enter Try.func76, Try.ntmps76
  go_wp2
  go_ret
  exact ⟨rfl, rfl⟩

/-- The series of 1.0, worked from the inside: n rounds done. -/
def cser (r : Nat) : Nat → Nat
  | 0 => 4607182418800017408
  | n + 1 => cop .add (cop .quo (cop .mul r (cser r n)) (floatOfInt .f64 (14 - (n : Int)))) 4607182418800017408
def csq (p : Nat) : Nat → Nat
  | 0 => p
  | n + 1 => cop .mul (csq p n) (csq p n)

theorem ser_step {r p q n : Nat} (k : Int) (w1 w2 w3 : World) (hk : k = 14 - (n : Int)) (h : fb p = fb (cser r n))
    (hq : q = fop .add (fop .quo (fop .mul r p w1) (floatOfInt .f64 k) w2) 4607182418800017408 w3) : fb q = fb (cser r (n + 1)) := by
  subst hk hq
  rw [fb_fop]
  unfold cser
  congr 1
  refine cop_congr .add ?_ rfl
  rw [fb_fop]
  congr 1
  refine cop_congr .quo ?_ rfl
  rw [fb_fop]
  congr 1
  exact cop_congr .mul rfl h

def SeriesSaid (r n : Nat) : Prop := ∀ (k : Int) (w : World), n ≤ 14 → k = 15 - (n : Int) →
    Calls Try.prog 72 #[.float .f64 r, .int .i64 k] w fun e w' => ∃ y, e = .returned (.float .f64 y) ∧ fb y = fb (cser r n) ∧ y < 18446744073709551616 ∧ ∃ m, w' = w.drewN m
set_option maxHeartbeats 400000 in
theorem series_zero (r : Nat) : SeriesSaid r 0 := by
  intro k w hn hk
  have hk' : (14 : Int) < k := by omega
  clear hk
  go_enter Try.func72, Try.ntmps72
  go_wp2
  go_ret
  exact ⟨_, rfl, rfl, by omega, 0, rfl⟩
set_option maxHeartbeats 400000 in
theorem series_succ (r n : Nat) (IH : SeriesSaid r n) : SeriesSaid r (n + 1) := by
  intro k w hn hk
  have hk1 : k ≤ 14 := by omega
  have hk2 : 1 ≤ k := by omega
  have H : Hid (k = 15 - ((n + 1 : Nat) : Int)) := hk
  clear hk
  have h1 := @run_fadd Try.prog
  have h2 := @run_fmul Try.prog
  have h3 := @run_fquo Try.prog
  go_enter Try.func72, Try.ntmps72
  go_wp2_with fail
  refine (IH _ _ (by omega) (by have := H.out; omega)).mono ?_
  rintro e w' ⟨y, rfl, hy, hlt, m, rfl⟩
  go_wp2
  go_ret
  exact ⟨_, rfl, ser_step k _ _ _ (by have := H.out; omega) hy rfl, fop_lt _ _ _ _, _, rfl⟩
theorem series (r : Nat) : ∀ n, SeriesSaid r n
  | 0 => series_zero r
  | n + 1 => series_succ r n (series r n)

/-- What ExpFloat answers, with one NaN for all. -/
def cexp (x : Nat) : Nat :=
  if FloatKind.f64.format.order x x != some .eq then x
  else if FloatKind.f64.format.order x 4652007308841189376 == some .gt then 9218868437227405312
  else if FloatKind.f64.format.order x 13875379345695965184 == some .lt then 0
  else csq (cser (cop .quo x 4652218415073722368) 14) 10

theorem cser_congr {r r' : Nat} (h : fb r = fb r') : ∀ n, fb (cser r n) = fb (cser r' n)
  | 0 => rfl
  | n + 1 => by
    unfold cser
    congr 1
    refine cop_congr .add ?_ rfl
    congr 1
    refine cop_congr .quo ?_ rfl
    congr 1
    exact cop_congr .mul h (cser_congr h n)
theorem csq_congr {r r' : Nat} (h : fb r = fb r') : ∀ n, fb (csq r n) = fb (csq r' n)
  | 0 => h
  | n + 1 => by
    unfold csq
    congr 1
    exact cop_congr .mul (csq_congr h n) (csq_congr h n)

theorem sq_step {c y q k : Nat} {w : World} (h : fb y = fb (csq c k)) (hq : q = fop .mul y y w) : fb q = fb (csq c (k + 1)) := by
  subst hq
  rw [fb_fop]
  unfold csq
  congr 1
  exact cop_congr .mul h h
set_option maxHeartbeats 1000000 in
theorem specExp (x : Nat) (w : World) (hx : x < 18446744073709551616) :
    Calls Try.prog 26 #[.float .f64 x] w fun e w' => ∃ y, e = .returned (.float .f64 y) ∧ fb y = fb (cexp x) ∧ y < 18446744073709551616 ∧ ∃ m, w' = w.drewN m := by
  unfold cexp
  cases h1 : (FloatKind.f64.format.order x x != some .eq)
  · cases h2 : (FloatKind.f64.format.order x 4652007308841189376 == some .gt)
    · cases h3 : (FloatKind.f64.format.order x 13875379345695965184 == some .lt)
      · simp only [Bool.false_eq_true, if_false]
        have hq : (binOp .quo 23 (.float .f64 x) (.float .f64 4652218415073722368)).run Try.prog w = .ok (.float .f64 (fop .quo x 4652218415073722368 w)) (w.drewN (fnd .quo x 4652218415073722368)) := run_fquo w 23 _ _
        have hs := fb_fop .quo x 4652218415073722368 w
        have hs' := cser_congr hs 14
        clear hs
        generalize fop .quo x 4652218415073722368 w = r at hq hs'
        generalize fnd .quo x 4652218415073722368 = m0 at hq
        generalize cser (cop .quo x 4652218415073722368) 14 = c at hs' ⊢
        go_enter Try.func26, Try.ntmps26
        go_wp2_with fail
        refine (l1nan_any _ _).mono ?_
        rintro e w' ⟨rfl, rfl⟩
        go_wp2_with fail
        refine (series _ 14 _ _ (by omega) (by omega)).mono ?_
        rintro e w' ⟨y, rfl, hy, hlt, m, rfl⟩
        have hy2 := hy.trans hs'
        clear hq hy hs' h1 h2 h3
        have h2 := @run_fmul Try.prog
        go_wp2_with fail
        go_loopw [4, 5] (fun p i W => ∃ k y' m', k ≤ 10 ∧ i = .int .i64 (k : Nat) ∧ p = .float .f64 y' ∧ fb y' = fb (csq c k) ∧ y' < 18446744073709551616 ∧ W = w'.drewN m') (fun _ i _ => 10 - (intOf i).toNat)
        case atStart => exact ⟨0, y, _, by omega, rfl, rfl, hy2, hlt, rfl⟩
        case round =>
          obtain ⟨k, y', m', hk, rfl, rfl, hf, hl, rfl⟩ := hrel
          by_cases hlt10 : k < 10
          · go_wp2
            go_roundw
            case rel => exact ⟨k + 1, _, _, by omega, by go_num, rfl, sq_step hf rfl, fop_lt _ _ _ _, rfl⟩
            case measure => simp [intOf]; omega
          · go_wp2
            go_ret
            exact ⟨_, rfl, by rw [hf, show k = 10 by omega], hl, _, rfl⟩
      · simp only [Bool.false_eq_true, if_false, if_true]
        go_enter Try.func26, Try.ntmps26
        go_wp2_with fail
        refine (l1nan_any _ _).mono ?_
        rintro e w' ⟨rfl, rfl⟩
        go_wp2
        go_ret
        exact ⟨_, rfl, rfl, by omega, 0, rfl⟩
    · simp only [Bool.false_eq_true, if_false, if_true]
      have h4 := one_quo_zero
      go_enter Try.func26, Try.ntmps26
      go_wp2_with fail
      refine (l1nan_any _ _).mono ?_
      rintro e w' ⟨rfl, rfl⟩
      go_wp2
      go_ret
      exact ⟨_, rfl, rfl, by omega, 0, rfl⟩
  · simp only [if_true]
    go_enter Try.func26, Try.ntmps26
    go_wp2_with fail
    refine (l1nan_any _ _).mono ?_
    rintro e w' ⟨rfl, rfl⟩
    go_wp2
    go_ret
    exact ⟨_, rfl, rfl, hx, 0, rfl⟩

theorem inf_any (w : World) : Calls Try.prog 73 #[.int .i64 1] w fun e w' => e = .returned (.float .f64 9218868437227405312) ∧ w' = w := by
  have hc := call44
  go_enter Try.func73, Try.ntmps73
  go_wp2
  go_ret
  exact ⟨rfl, rfl⟩

set_option maxHeartbeats 1000000 in
theorem implExp (x : Nat) (w : World) (hx : x < 18446744073709551616) :
    Calls Try.prog 27 #[.float .f64 x] w fun e w' => ∃ y, e = .returned (.float .f64 y) ∧ fb y = fb (cexp x) ∧ y < 18446744073709551616 ∧ ∃ m, w' = w.drewN m := by
  unfold cexp
  cases h1 : (FloatKind.f64.format.order x x != some .eq)
  · cases h2 : (FloatKind.f64.format.order x 4652007308841189376 == some .gt)
    · cases h3 : (FloatKind.f64.format.order x 13875379345695965184 == some .lt)
      · simp only [Bool.false_eq_true, if_false]
        have hs := fb_fop .quo x 4652218415073722368 w
        have hs' := cser_congr hs 14
        clear hs
        generalize cser (cop .quo x 4652218415073722368) 14 = c at hs' ⊢
        go_enter Try.func27, Try.ntmps27
        go_wp2_with fail
        refine (isNaN_any _ _).mono ?_
        rintro e w' ⟨rfl, rfl⟩
        go_wp2_with fail
        refine (over_any _ _ _).mono ?_
        rintro e W1 ⟨rfl, rfl⟩
        clear h1 h2 h3
        generalize fop .quo x 4652218415073722368 w' = r at hs' ⊢
        generalize fnd .quo x 4652218415073722368 = m0
        go_wp2_with fail
        go_loopw [4, 5] (fun p i W => ∃ k y' m', k ≤ 14 ∧ i = .int .i64 (14 - (k : Nat)) ∧ p = .float .f64 y' ∧ fb y' = fb (cser r k) ∧ y' < 18446744073709551616 ∧ W = w'.drewN m') (fun _ i _ => (intOf i).toNat)
        case atStart => exact ⟨0, _, _, by omega, rfl, rfl, rfl, by omega, rfl⟩
        case round =>
          obtain ⟨k, y', m', hk, rfl, rfl, hf, hl, rfl⟩ := hrel
          by_cases hlt : k < 14
          · go_wp2_with fail
            refine (times_any _ _ _).mono ?_
            rintro e W1 ⟨rfl, rfl⟩
            go_wp2_with fail
            refine (over_any _ _ _).mono ?_
            rintro e W1 ⟨rfl, rfl⟩
            go_wp2_with fail
            refine (plus_any _ _ _).mono ?_
            rintro e W1 ⟨rfl, rfl⟩
            go_wp2
            go_roundw
            case rel => first | exact ⟨k + 1, _, _, by omega, by go_num, rfl, ser_step (14 - (k : Int)) _ _ _ rfl hf rfl, fop_lt _ _ _ _, rfl⟩ | ((repeat apply Exists.intro); exact ⟨⟨k + 1, _, _, by omega, by go_num, rfl, ser_step (14 - (k : Int)) _ _ _ rfl hf rfl, fop_lt _ _ _ _, rfl⟩, rfl⟩)
            case measure => simp [intOf]; omega
          · obtain rfl : k = 14 := by omega
            have hc := hf.trans hs'
            clear hf hs'
            go_wp2_with fail
            go_loopw [4, 29] (fun p i W => ∃ k y' m', k ≤ 10 ∧ i = .int .i64 (k : Nat) ∧ p = .float .f64 y' ∧ fb y' = fb (csq c k) ∧ y' < 18446744073709551616 ∧ W = w'.drewN m') (fun _ i _ => 10 - (intOf i).toNat)
            case atStart => exact ⟨0, _, _, by omega, rfl, rfl, hc, hl, rfl⟩
            case round =>
              obtain ⟨k, y'', m'', hk, rfl, rfl, hf, hl, rfl⟩ := hrel
              by_cases hlt10 : k < 10
              · go_wp2_with fail
                refine (times_any _ _ _).mono ?_
                rintro e W1 ⟨rfl, rfl⟩
                go_wp2
                go_roundw
                case rel => first | exact ⟨k + 1, _, _, by omega, by go_num, rfl, sq_step hf rfl, fop_lt _ _ _ _, rfl⟩ | ((repeat apply Exists.intro); exact ⟨⟨k + 1, _, _, by omega, by go_num, rfl, sq_step hf rfl, fop_lt _ _ _ _, rfl⟩, rfl⟩)
                case measure => simp [intOf]; omega
              · go_wp2
                go_ret
                exact ⟨_, rfl, by rw [hf, show k = 10 by omega], hl, _, rfl⟩
      · simp only [Bool.false_eq_true, if_false, if_true]
        go_enter Try.func27, Try.ntmps27
        go_wp2_with fail
        refine (isNaN_any _ _).mono ?_
        rintro e w' ⟨rfl, rfl⟩
        go_wp2
        go_ret
        exact ⟨_, rfl, rfl, by omega, 0, rfl⟩
    · simp only [Bool.false_eq_true, if_false, if_true]
      go_enter Try.func27, Try.ntmps27
      go_wp2_with fail
      refine (isNaN_any _ _).mono ?_
      rintro e w' ⟨rfl, rfl⟩
      go_wp2_with fail
      refine (inf_any _).mono ?_
      rintro e w' ⟨rfl, rfl⟩
      go_wp2
      go_ret
      exact ⟨_, rfl, rfl, by omega, 0, rfl⟩
  · simp only [if_true]
    go_enter Try.func27, Try.ntmps27
    go_wp2_with fail
    refine (isNaN_any _ _).mono ?_
    rintro e w' ⟨rfl, rfl⟩
    go_wp2
    go_ret
    exact ⟨_, rfl, rfl, hx, 0, rfl⟩

set_option maxHeartbeats 1000000 in
theorem fnExp (x : Nat) (w : World) (hx : x < 18446744073709551616) :
    Calls Try.prog 7 #[.float .f64 x] w fun e w' => e = .returned (.bool true) ∧ Grown w w' := by
  have h2 := convff
  go_enter Try.func7, Try.ntmps7
  go_wp2_with fail
  refine (specExp _ _ hx).mono ?_
  rintro e w' ⟨y, rfl, hy, hl, m, rfl⟩
  go_wp2_with fail
  refine (implExp _ _ hx).mono ?_
  rintro e w' ⟨y', rfl, hy', hl', m', rfl⟩
  go_wp2_with fail
  refine (sameF _ _ _ hl' hl).mono ?_
  rintro e w' ⟨rfl, rfl⟩
  have e : ((fb y' : Int) == (fb y : Int)) = true := by rw [hy, hy']; exact beq_self_eq_true _
  rw [e]
  go_wp2
  go_ret
  exact ⟨rfl, grown_drewN _ _⟩
end Go.Proofs.Ytcphabjekfihnaa
