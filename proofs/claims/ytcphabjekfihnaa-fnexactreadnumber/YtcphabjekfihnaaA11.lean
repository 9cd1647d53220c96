import Derived.Test.YtcphabjekfihnaaA10
namespace Go.Proofs.Ytcphabjekfihnaa
open Go.RowKit Flt

set_option maxHeartbeats 400000 in
theorem l3digit (c : Int) (w : World) : Calls Try.prog 123 #[.int .u8 c] w fun e w' => e = .returned (.bool (dig c)) ∧ w' = w := by
  by_cases h1 : 48 ≤ c
  · have e : dig c = decide (c ≤ 57) := by unfold dig; rw [decide_eq_true h1]; rfl
    rw [e]
    go_enter Try.func123, Try.ntmps123
    go_wp2
    go_ret
    exact ⟨rfl, rfl⟩
  · have e : dig c = false := by unfold dig; rw [decide_eq_false h1]; rfl
    have t : decide (48 ≤ c) = false := decide_eq_false h1
    rw [e]
    go_enter Try.func123, Try.ntmps123
    go_wp2
    go_ret
    exact ⟨rfl, rfl⟩

set_option maxRecDepth 100000 in
set_option maxHeartbeats 2000000 in
theorem specRN_zero (w : World) (a : Option Addr) (cap : Nat) :
    Calls Try.prog 51 #[.slice a 0 cap] w fun e w' => e = .returned (.tuple #[.float .f64 0, .int .i64 2]) ∧ Drawn w w' := by
  go_enter Try.func51, Try.ntmps51
  go_wp2_with fail
  refine wp_loop_rounds 1 ?_
  rw [rounds_succ]
  go_wp2
  go_ret2
  exact ⟨rfl, Drawn.refl _⟩

/-- The second loop's step: byte k. -/
theorem nds_point {xs : List Int} {k : Nat} (hk : k < xs.length) (h : xs.getD k 0 = 46) : (nds (xs.take (k + 1))).1 = (nds (xs.take k)).1 ∧ (nds (xs.take (k + 1))).2.1 = (nds (xs.take k)).2.1 ∧ (nds (xs.take (k + 1))).2.2 = true := by
  rw [nds_snoc xs k hk]; unfold nst; rw [if_pos h]; exact ⟨rfl, rfl, rfl⟩
theorem nds_digit {xs : List Int} {k : Nat} (hk : k < xs.length) (h : xs.getD k 0 ≠ 46) : (nds (xs.take (k + 1))).1 = (nds (xs.take k)).1 * 10 + (xs.getD k 0 - 48) ∧ (nds (xs.take (k + 1))).2.1 = (if (nds (xs.take k)).2.2 then (nds (xs.take k)).2.1 * 10 else (nds (xs.take k)).2.1) ∧ (nds (xs.take (k + 1))).2.2 = (nds (xs.take k)).2.2 := by
  rw [nds_snoc xs k hk]; unfold nst; rw [if_neg h]; exact ⟨rfl, rfl, rfl⟩

set_option maxRecDepth 100000 in
set_option maxHeartbeats 4000000 in
theorem specRN_pos (w : World) (g off n cap : Nat) (xs : List Int) (hx : xs.length = n) (h0 : 0 < n) (hn : n ≤ 1048576) (hlt : ∀ x ∈ xs, 0 ≤ x ∧ x < 256)
    (hc : ∀ k, k < n → w.cell? ⟨g, off + k, none⟩ = some (.int .u8 (xs.getD k 0))) :
    Calls Try.prog 51 #[.slice (some ⟨g, off, none⟩) n cap] w fun e w' => ∃ f c, e = .returned (.tuple #[.float .f64 f, .int .i64 c]) ∧ RN xs f c ∧ Drawn w w' := by
  have HC : Hid (∀ k, k < n → w.cell? ⟨g, off + k, none⟩ = some (.int .u8 (xs.getD k 0))) := hc
  have HX : Hid (xs.length = n) := hx
  have HL : Hid (∀ x ∈ xs, 0 ≤ x ∧ x < 256) := hlt
  clear hc hx hlt
  go_enter Try.func51, Try.ntmps51
  go_wp2_with fail
  go_loopw [4, 5, 6] (fun pv dv iv W => ∃ (k : Nat) (p dg : Int), k ≤ n ∧ pv = .int .i64 p ∧ dv = .int .i64 dg ∧ iv = .int .i64 k ∧ Hid (Mid xs k p dg) ∧ (0 ≤ dg ∧ dg ≤ k ∧ -1 ≤ p ∧ p < n) ∧ Drawn w W) (fun _ _ iv _ => n - (intOf iv).toNat)
  case atStart => exact ⟨0, -1, 0, Nat.zero_le _, rfl, rfl, rfl, mid_start xs, ⟨by omega, by omega, by omega, by omega⟩, Drawn.refl _⟩
  case round =>
    obtain ⟨k, p, dg, hk, rfl, rfl, rfl, hM, ⟨hb1, hb2, hb3, hb4⟩, HW⟩ := hrel
    by_cases hlt : k < n
    · have c1 : wr.cell? ⟨g, off + k, none⟩ = some (.int .u8 (xs.getD k 0)) := by rw [HW.cell]; exact HC.out k hlt
      have HD : Hid _ := l3digit (xs.getD k 0) wr
      have hkx : k < xs.length := by rw [HX.out]; exact hlt
      cases t : dig (xs.getD k 0)
      · by_cases h46 : xs.getD k 0 = 46
        · by_cases hp : p < 0
          · have R : Hid _ := hM.out.pointStep hkx h46 hp
            rw [h46] at c1 HD
            rw [dig_46] at HD
            clear t h46 hM
            go_wp2_with fail
            refine Calls.mono HD.out ?_
            rintro e w' ⟨rfl, rfl⟩
            go_wp2
            go_roundw
            case rel => exact ⟨k + 1, k, dg, by omega, rfl, rfl, by go_num, R, ⟨by omega, by omega, by omega, by omega⟩, HW⟩
            case measure => simp [intOf]; omega
          · have R : Hid (RN xs 0 2) := .inl ⟨hM.out.bad hkx t (.inr (by omega)), rfl, rfl⟩
            have tp : ¬ (p < 0) := hp
            rw [h46] at c1 HD
            rw [dig_46] at HD
            clear t h46 hM
            go_wp2_with fail
            refine Calls.mono HD.out ?_
            rintro e w' ⟨rfl, rfl⟩
            go_wp2
            go_ret2
            exact ⟨0, 2, rfl, R.out, HW⟩
        · have R : Hid (RN xs 0 2) := .inl ⟨hM.out.bad hkx t (.inl h46), rfl, rfl⟩
          have t2 : (xs.getD k 0 == 46) = false := beq_eq_false_iff_ne.2 h46
          rw [t] at HD
          generalize xs.getD k 0 = x at c1 HD t2
          clear t h46 hM
          go_wp2_with fail
          refine Calls.mono HD.out ?_
          rintro e w' ⟨rfl, rfl⟩
          go_wp2
          go_ret2
          exact ⟨0, 2, rfl, R.out, HW⟩
      · have R : Hid _ := hM.out.digitStep hkx t
        rw [t] at HD
        generalize xs.getD k 0 = x at c1 HD
        clear t hM
        go_wp2_with fail
        refine Calls.mono HD.out ?_
        rintro e w' ⟨rfl, rfl⟩
        go_wp2
        go_roundw
        case rel => exact ⟨k + 1, p, dg + 1, by omega, rfl, by go_num, by go_num, R, ⟨by omega, by omega, by omega, by omega⟩, HW⟩
        case measure => simp [intOf]; omega
    · obtain rfl : k = n := by omega
      have hM2 : Mid xs xs.length p dg := by rw [HX.out]; exact hM.out
      by_cases hp0 : p = 0
      · have R : Hid (RN xs 0 2) := .inl ⟨hM2.notGood (.inr (.inl hp0)) (fun _ => by omega), rfl, rfl⟩
        subst hp0
        clear hM hM2
        go_wp2
        go_ret2
        exact ⟨0, 2, rfl, R.out, HW⟩
      · by_cases hp1 : p = (k : Int) - 1
        · have R : Hid (RN xs 0 2) := .inl ⟨hM2.notGood (.inr (.inr (by rw [HX.out]; exact hp1))) (fun _ => by omega), rfl, rfl⟩
          have t1 : (p == 0) = false := beq_eq_false_iff_ne.2 hp0
          have t2 : (p == (k : Int) - 1) = true := by rw [hp1]; simp
          clear hM hM2
          go_wp2
          go_ret2
          exact ⟨0, 2, rfl, R.out, HW⟩
        · have hG := hM2.good (by rw [HX.out]; exact h0) hp0 (by rw [HX.out]; exact hp1)
          have hdg : dg = (xs.countP dig : Nat) := by
            have := hM2.count
            rw [List.take_of_length_le (Nat.le_refl _)] at this
            exact this
          have t1 : (p == 0) = false := beq_eq_false_iff_ne.2 hp0
          have t2 : (p == (k : Int) - 1) = false := beq_eq_false_iff_ne.2 hp1
          have t0 : ((k : Int) == 0) = false := beq_eq_false_iff_ne.2 (by omega)
          by_cases h15 : 15 < dg
          · have R : Hid (RN xs 0 5) := .inr (.inl ⟨⟨p, hG⟩, by omega, rfl, rfl⟩)
            clear hM hM2 hG hdg
            go_wp2
            go_ret2
            exact ⟨0, 5, rfl, R.out, HW⟩
          · have hshort := hG.short (by omega)
            have HG : Hid _ := hG
            have HDG : Hid (xs.countP dig ≤ 15) := by have : xs.countP dig ≤ 15 := by omega
                                                      exact this
            have hk16 : k ≤ 16 := by rw [HX.out] at hshort; exact hshort
            clear hM hM2 hG hdg hshort
            go_wp2_with fail
            go_loopw [7, 8, 9] (fun nv dv iv W => ∃ (j : Nat) (N D : Int), j ≤ k ∧ nv = .int .i64 N ∧ dv = .int .i64 D ∧ iv = .int .i64 j ∧ Hid (N = (nds (xs.take j)).1 ∧ D = (nds (xs.take j)).2.1) ∧ Drawn w W) (fun _ _ iv _ => k - (intOf iv).toNat)
            case atStart => exact ⟨0, 0, 1, Nat.zero_le _, rfl, rfl, rfl, ⟨rfl, rfl⟩, HW⟩
            case round =>
              obtain ⟨j, N, D, hj, rfl, rfl, rfl, hND, HW2⟩ := hrel
              obtain ⟨b1, b2, b3, b4⟩ := nds_small xs HG.out.digit j (by rw [HX.out]; exact hj) (by omega)
              rw [← hND.out.1] at b1 b2
              rw [← hND.out.2] at b3 b4
              by_cases hjl : j < k
              · have c1 : wr.cell? ⟨g, off + j, none⟩ = some (.int .u8 (xs.getD j 0)) := by rw [HW2.cell]; exact HC.out j hjl
                have hjx : j < xs.length := by rw [HX.out]; exact hjl
                by_cases hjp : (j : Int) = p
                · have h46 := (HG.out.point j hjx).2 hjp
                  have R : Hid (N = (nds (xs.take (j + 1))).1 ∧ D = (nds (xs.take (j + 1))).2.1) := by
                    obtain ⟨q1, q2, _⟩ := nds_point hjx h46
                    exact ⟨hND.out.1.trans q1.symm, hND.out.2.trans q2.symm⟩
                  have tj : ((j : Int) != p) = false := by simp [hjp]
                  clear hND c1
                  go_wp2
                  go_roundw
                  case rel => exact ⟨j + 1, N, D, by omega, rfl, rfl, by go_num, R, HW2⟩
                  case measure => simp [intOf]; omega
                · have h46 : xs.getD j 0 ≠ 46 := fun c => hjp ((HG.out.point j hjx).1 c)
                  have hd := dig_true (HG.out.digit j hjx h46)
                  obtain ⟨q1, q2, _⟩ := nds_digit hjx h46
                  rw [HG.out.behind j (by omega)] at q2
                  have tj : ((j : Int) != p) = true := by simp [hjp]
                  by_cases hbh : 0 ≤ p ∧ p < (j : Int)
                  · rw [decide_eq_true hbh] at q2
                    have R : Hid (N * 10 + (xs.getD j 0 - 48) = (nds (xs.take (j + 1))).1 ∧ D * 10 = (nds (xs.take (j + 1))).2.1) := by
                      refine ⟨?_, ?_⟩
                      · rw [q1, hND.out.1]
                      · rw [q2, hND.out.2]; rfl
                    clear q1 q2 h46 hND
                    generalize xs.getD j 0 = x at c1 hd R
                    have tb1 := hbh.1
                    have tb2 := hbh.2
                    go_wp2
                    go_roundw
                    case rel => exact ⟨j + 1, _, _, by omega, by go_num, by go_num, by go_num, R, HW2⟩
                    case measure => simp [intOf]; omega
                  · rw [decide_eq_false hbh] at q2
                    have R : Hid (N * 10 + (xs.getD j 0 - 48) = (nds (xs.take (j + 1))).1 ∧ D = (nds (xs.take (j + 1))).2.1) := by
                      refine ⟨?_, ?_⟩
                      · rw [q1, hND.out.1]
                      · rw [q2, hND.out.2]; rfl
                    clear q1 q2 h46 hND
                    generalize xs.getD j 0 = x at c1 hd R
                    by_cases tb1 : 0 ≤ p
                    · have tb2 : ¬ (p < (j : Int)) := fun c => hbh ⟨tb1, c⟩
                      go_wp2
                      go_roundw
                      case rel => exact ⟨j + 1, _, _, by omega, by go_num, rfl, by go_num, R, HW2⟩
                      case measure => simp [intOf]; omega
                    · go_wp2
                      go_roundw
                      case rel => exact ⟨j + 1, _, _, by omega, by go_num, rfl, by go_num, R, HW2⟩
                      case measure => simp [intOf]; omega
              · obtain rfl : j = k := by omega
                have e : xs.take j = xs := List.take_of_length_le (by rw [HX.out]; exact Nat.le_refl _)
                rw [e] at hND
                have R : Hid (∀ W : World, RN xs (fop .quo (floatOfInt .f64 N) (floatOfInt .f64 D) W) 0) := fun W => .inr (.inr ⟨⟨p, HG.out⟩, HDG.out, fop_lt _ _ _ _, by rw [fb_fop, hND.out.1, hND.out.2], rfl⟩)
                have hq := fun W => run_fquo (P := Try.prog) W 23 (floatOfInt .f64 N) (floatOfInt .f64 D)
                clear hND e
                go_wp2
                go_ret2
                exact ⟨_, 0, rfl, R.out _, HW2.more _⟩
theorem specRN (w : World) (a : Option Addr) (n cap : Nat) (xs : List Int) (f : YS w a n xs) (hn : n ≤ 1048576) :
    Calls Try.prog 51 #[.slice a n cap] w fun e w' => ∃ f c, e = .returned (.tuple #[.float .f64 f, .int .i64 c]) ∧ RN xs f c ∧ Drawn w w' := by
  rcases Nat.eq_zero_or_pos n with h0 | h0
  · subst h0
    have : xs = [] := List.length_eq_zero_iff.1 f.len
    subst this
    exact (specRN_zero w a cap).mono fun _ _ h => ⟨0, 2, h.1, .inl ⟨fun ⟨_, g⟩ => by have := g.pos; simp at this, rfl, rfl⟩, h.2⟩
  · rcases f.at_ with h | ⟨g, off, rfl, h3, h4⟩
    · omega
    · exact specRN_pos w g off n cap xs f.len h0 hn f.lt h4
end Go.Proofs.Ytcphabjekfihnaa
