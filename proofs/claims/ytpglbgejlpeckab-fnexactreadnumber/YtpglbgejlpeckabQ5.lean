import Derived.Test.YtpglbgejlpeckabQ3
import Derived.Test.YtpglbgejlpeckabQ4
namespace Go.Proofs.Ytpglbgejlpeckab
open Go.RowKit Flt

theorem convStr (w : World) (g off n cap : Nat) (xs : List Int) (hx : xs.length = n) (hc : ∀ k, k < n → w.cell? ⟨g, off + k, none⟩ = some (.int .u8 (xs.getD k 0))) :
    (convert 65 9 (.slice (some ⟨g, off, none⟩) n cap)).run Try.prog w = .ok (.string (strOfNums xs)) w :=
  run_convert_bytes_arg w 65 5 Try.underlying65 Try.underlying5 g off n cap xs hx hc 9 Try.underlying9

set_option maxRecDepth 100000 in
set_option maxHeartbeats 2000000 in
theorem implRN_zero (w : World) (a : Option Addr) (cap : Nat) :
    Calls Try.prog 49 #[.slice a 0 cap] w fun e w' => e = .returned (.tuple #[.float .f64 0, .int .i64 2]) ∧ Drawn w w' := by
  go_enter Try.func49, Try.ntmps49
  go_wp2
  go_ret2
  exact ⟨rfl, Drawn.refl _⟩

set_option maxRecDepth 100000 in
set_option maxHeartbeats 4000000 in
theorem implRN_pos (w : World) (g off n cap : Nat) (xs : List Int) (hx : xs.length = n) (h0 : 0 < n) (hn : n ≤ 1048576) (hlt : ∀ x ∈ xs, 0 ≤ x ∧ x < 256)
    (hc : ∀ k, k < n → w.cell? ⟨g, off + k, none⟩ = some (.int .u8 (xs.getD k 0))) :
    Calls Try.prog 49 #[.slice (some ⟨g, off, none⟩) n cap] w fun e w' => ∃ f c, e = .returned (.tuple #[.float .f64 f, .int .i64 c]) ∧ RN xs f c ∧ Drawn w w' := by
  have HC : Hid (∀ k, k < n → w.cell? ⟨g, off + k, none⟩ = some (.int .u8 (xs.getD k 0))) := hc
  have HX : Hid (xs.length = n) := hx
  have HL : Hid (∀ x ∈ xs, 0 ≤ x ∧ x < 256) := hlt
  have HD : Hid _ := isDig (xs.getD 0 0) w
  have HE : Hid _ := numberEnd0 w g off n cap xs hx hn hc
  have d0 := hc 0 h0
  rw [Nat.add_zero] at d0
  have t0 : ((n : Int) == 0) = false := beq_eq_false_iff_ne.2 (by omega)
  have hxp : 0 < xs.length := by rw [hx]; exact h0
  clear hc hx hlt
  go_enter Try.func49, Try.ntmps49
  cases t : dig (xs.getD 0 0)
  · have R : Hid (RN xs 0 2) := .inl ⟨first_not hxp t, rfl, rfl⟩
    rw [t] at HD
    generalize xs.getD 0 0 = x at d0 HD
    clear t hxp
    go_wp2_with fail
    refine Calls.mono HD.out ?_
    rintro e w' ⟨rfl, rfl⟩
    go_wp2
    go_ret2
    exact ⟨0, 2, rfl, R.out, Drawn.refl _⟩
  · have HT : Hid _ := t
    rw [t] at HD
    generalize xs.getD 0 0 = x at d0 HD
    clear t
    go_wp2_with fail
    refine Calls.mono HD.out ?_
    rintro e w' ⟨rfl, rfl⟩
    go_wp2_with fail
    refine Calls.mono HE.out ?_
    rintro e w' ⟨m, rfl, hN, hm, rfl⟩
    by_cases hmn : m = n
    · obtain ⟨p, hG⟩ : Good xs := NumE.good (by rw [HX.out, ← hmn]; exact hN) hxp HT.out
      subst hmn
      have HG : Hid _ := hG
      have tm : ((m : Int) != (m : Int)) = false := by simp
      have hconv := convStr w' g off m cap xs HX.out HC.out
      have HDC : Hid _ := digitCount xs w' HL.out (by rw [HX.out]; exact hn)
      have hcnt : (xs.length : Int) - (xs.countP (· == 46) : Nat) = (xs.countP dig : Nat) := by
        have := cnt_both xs hG.digit xs.length (Nat.le_refl _)
        rw [List.take_of_length_le (Nat.le_refl _)] at this
        omega
      rw [hcnt] at HDC
      have hshort := hG.short
      have hle : xs.countP dig ≤ m := by have := List.countP_le_length (p := dig) (l := xs); rw [HX.out] at this; exact this
      clear hN hG hcnt HD HE d0
      by_cases h15 : 15 < xs.countP dig
      · have R : Hid (RN xs 0 5) := .inr (.inl ⟨⟨p, HG.out⟩, h15, rfl, rfl⟩)
        clear hshort
        generalize xs.countP dig = q at HDC h15 hle
        have tq : (15 : Int) < (q : Int) := by omega
        go_wp2_with fail
        refine Calls.mono HDC.out ?_
        rintro e w2 ⟨rfl, rfl⟩
        go_wp2
        go_ret2
        exact ⟨0, 5, rfl, R.out, Drawn.refl _⟩
      · have hk16 : m ≤ 16 := by have := hshort (by omega); rw [HX.out] at this; exact this
        have HDG : Hid (xs.countP dig ≤ 15) := Nat.le_of_not_lt h15
        clear hshort
        generalize hq : xs.countP dig = q at HDC h15 hle
        clear hq
        have tq : ¬ ((15 : Int) < (q : Int)) := by omega
        go_wp2_with fail
        refine Calls.mono HDC.out ?_
        rintro e w2 ⟨rfl, rfl⟩
        clear HDC hconv
        go_wp2_with fail
        go_loopw [4, 5, 6, 32] (fun nv dv bv iv W => ∃ (j : Nat) (N D : Int) (B : Bool), j ≤ m ∧ nv = .int .i64 N ∧ dv = .int .i64 D ∧ bv = .bool B ∧ iv = .int .i64 j ∧ Hid (N = (nds (xs.take j)).1 ∧ D = (nds (xs.take j)).2.1 ∧ B = (nds (xs.take j)).2.2) ∧ Drawn w2 W) (fun _ _ _ iv _ => m - (intOf iv).toNat)
        case atStart => exact ⟨0, 0, 1, false, Nat.zero_le _, rfl, rfl, rfl, rfl, ⟨rfl, rfl, rfl⟩, Drawn.refl _⟩
        case round =>
          obtain ⟨j, N, D, B, hj, rfl, rfl, rfl, rfl, hND, HW2⟩ := hrel
          obtain ⟨b1, b2, b3, b4⟩ := nds_small xs HG.out.digit j (by rw [HX.out]; exact hj) (by omega)
          rw [← hND.out.1] at b1 b2
          rw [← hND.out.2.1] at b3 b4
          by_cases hjl : j < m
          · have c1 : wr.cell? ⟨g, off + j, none⟩ = some (.int .u8 (xs.getD j 0)) := by rw [HW2.cell]; exact HC.out j hjl
            have hjx : j < xs.length := by rw [HX.out]; exact hjl
            by_cases h46 : xs.getD j 0 = 46
            · obtain ⟨q1, q2, q3⟩ := nds_point hjx h46
              have R : Hid (N = (nds (xs.take (j + 1))).1 ∧ D = (nds (xs.take (j + 1))).2.1 ∧ true = (nds (xs.take (j + 1))).2.2) := ⟨hND.out.1.trans q1.symm, hND.out.2.1.trans q2.symm, q3.symm⟩
              rw [h46] at c1
              clear hND q1 q2 q3 h46
              go_wp2
              go_roundw
              case rel => exact ⟨j + 1, N, D, true, by omega, rfl, rfl, rfl, by go_num, R, HW2⟩
              case measure => simp [intOf]; omega
            · have hd := dig_true (HG.out.digit j hjx h46)
              obtain ⟨q1, q2, q3⟩ := nds_digit hjx h46
              rw [← hND.out.1] at q1
              rw [← hND.out.2.2, ← hND.out.2.1] at q2
              rw [← hND.out.2.2] at q3
              have t46 : (xs.getD j 0 == 46) = false := beq_eq_false_iff_ne.2 h46
              cases B
              · have R : Hid (N * 10 + (xs.getD j 0 - 48) = (nds (xs.take (j + 1))).1 ∧ D = (nds (xs.take (j + 1))).2.1 ∧ false = (nds (xs.take (j + 1))).2.2) := ⟨q1.symm, q2.symm, q3.symm⟩
                clear hND q1 q2 q3 h46
                generalize xs.getD j 0 = x at c1 hd R t46
                go_wp2
                go_roundw
                case rel => exact ⟨j + 1, _, _, _, by omega, by go_num, rfl, rfl, by go_num, R, HW2⟩
                case measure => simp [intOf]; omega
              · have R : Hid (N * 10 + (xs.getD j 0 - 48) = (nds (xs.take (j + 1))).1 ∧ D * 10 = (nds (xs.take (j + 1))).2.1 ∧ true = (nds (xs.take (j + 1))).2.2) := ⟨q1.symm, q2.symm, q3.symm⟩
                clear hND q1 q2 q3 h46
                generalize xs.getD j 0 = x at c1 hd R t46
                go_wp2
                go_roundw
                case rel => exact ⟨j + 1, _, _, _, by omega, by go_num, by go_num, rfl, by go_num, R, HW2⟩
                case measure => simp [intOf]; omega
          · obtain rfl : j = m := by omega
            have e : xs.take j = xs := List.take_of_length_le (by rw [HX.out]; exact Nat.le_refl _)
            rw [e] at hND
            have R : Hid (∀ W : World, RN xs (fop .quo (floatOfInt .f64 N) (floatOfInt .f64 D) W) 0) := fun W => .inr (.inr ⟨⟨p, HG.out⟩, HDG.out, fop_lt _ _ _ _, by rw [fb_fop, hND.out.1, hND.out.2.1], rfl⟩)
            clear hND e
            go_wp2_with fail
            refine Calls.mono (over_any _ _ _) ?_
            rintro e w3 ⟨rfl, rfl⟩
            go_wp2
            go_ret2
            exact ⟨_, 0, rfl, R.out _, HW2.more _⟩
    · have R : Hid (RN xs 0 2) := .inl ⟨hN.not (by rw [HX.out]; exact hmn), rfl, rfl⟩
      have tm : ((m : Int) != (n : Int)) = true := by simp; omega
      clear hN hxp HT
      go_wp2
      go_ret2
      exact ⟨0, 2, rfl, R.out, Drawn.refl _⟩
theorem implRN (w : World) (a : Option Addr) (n cap : Nat) (xs : List Int) (f : YS w a n xs) (hn : n ≤ 1048576) :
    Calls Try.prog 49 #[.slice a n cap] w fun e w' => ∃ f c, e = .returned (.tuple #[.float .f64 f, .int .i64 c]) ∧ RN xs f c ∧ Drawn w w' := by
  rcases Nat.eq_zero_or_pos n with h0 | h0
  · subst h0
    have : xs = [] := List.length_eq_zero_iff.1 f.len
    subst this
    exact (implRN_zero w a cap).mono fun _ _ h => ⟨0, 2, h.1, .inl ⟨fun ⟨_, g⟩ => by have := g.pos; simp at this, rfl, rfl⟩, h.2⟩
  · rcases f.at_ with h | ⟨g, off, rfl, h3, h4⟩
    · omega
    · exact implRN_pos w g off n cap xs f.len h0 hn f.lt h4
end Go.Proofs.Ytpglbgejlpeckab
