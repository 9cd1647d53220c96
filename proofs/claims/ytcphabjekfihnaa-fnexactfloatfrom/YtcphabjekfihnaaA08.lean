import Derived.Test.YtcphabjekfihnaaA06
namespace Go.Proofs.Ytcphabjekfihnaa
open Go.RowKit Flt

theorem ofInt_exact (t : Nat) (ht : t < 4503599627370496) : ∃ p, val p = t * p2 1074 ∧ p < 9218868437227405312 ∧ floatOfInt .f64 (t : Int) = W false p := by
  obtain ⟨p, hp, hl⟩ := rep2 t ht 1074 (by omega)
  refine ⟨p, hp, hl, ?_⟩
  unfold floatOfInt FloatKind.nearest FloatKind.encode
  show Ieee.double.write _ = _
  simp only [Ieee.Format.write, Int.natAbs_natCast]
  rw [show decide ((t : Int) < 0) = false from decide_eq_false (by omega)]
  exact nearest_exact false t 0 p 1074 0 hl (by rw [hp, show p2 0 = 1 from rfl, Nat.mul_one]) (by omega)
theorem frac_exact (t : Nat) (ht : t < 4503599627370496) : ∃ p, val p = t * p2 1022 ∧ p < 9218868437227405312 ∧ ∀ w, (binOp .quo 23 (.float .f64 (floatOfInt .f64 (t : Int))) (.float .f64 4841369599423283200)).run Try.prog w = .ok (.float .f64 (W false p)) w := by
  obtain ⟨p0, hp0, hl0, he⟩ := ofInt_exact t ht
  obtain ⟨p, hp, hl⟩ := rep2 t ht 1022 (by omega)
  refine ⟨p, hp, hl, fun w => run_float_arith w .quo 23 .f64 _ _ _ ?_⟩
  rw [he]
  show Ieee.double.div (W false p0) (W false 4841369599423283200) = _
  rw [div_exact (p := p) hl0 (by omega) hl M_big]
  · rfl
  · rw [hp0, hp, E_big, ← p2_add, Nat.mul_assoc, Nat.mul_assoc, ← p2_add, ← p2_add]
theorem one_plus (t p : Nat) (ht : t < 4503599627370496) (hp : val p = t * p2 1022) (hl : p < 9218868437227405312) (w : World) :
    (binOp .add 23 (.float .f64 4607182418800017408) (.float .f64 (W false p))).run Try.prog w = .ok (.float .f64 (W false (t + 4607182418800017408))) w := by
  refine run_float_arith w .add 23 .f64 _ _ _ ?_
  show Ieee.double.add (W false 4607182418800017408) (W false p) = _
  refine add_exact (by omega) hl (by omega) ?_ (fun h => rfl)
  have a := val_parts (q := 1023) (by omega) ht
  have b := val_parts (q := 1023) (t := 0) (by omega) (by omega)
  rw [show 1023 * 4503599627370496 + t = t + 4607182418800017408 by omega] at a
  rw [show 1023 * 4503599627370496 + 0 = 4607182418800017408 by omega] at b
  rw [a, b, hp]
  simp only [sg, Bool.false_eq_true, if_false]
  rw [Nat.add_zero, show 1023 - 1 = 1022 from rfl, Nat.add_mul]
  omega


def up (X j : Nat) : Nat := X + j * 4503599627370496
def dn (X j : Nat) : Nat := X - j * 4503599627370496
theorem up_run {X j : Nat} (h0 : 4503599627370496 ≤ X) (h : up X (j + 1) < 9218868437227405312) (w : World) :
    (binOp .mul 23 (.float .f64 (W false (up X j))) (.float .f64 4611686018427387904)).run Try.prog w = .ok (.float .f64 (W false (up X (j + 1)))) w := by
  have e : dbl (up X j) = up X (j + 1) := by
    rw [dbl_big (by unfold up; omega)]
    unfold up
    rw [Nat.succ_mul, Nat.add_assoc]
  rw [← e]
  exact dbl_run (by rw [e]; exact h) w
theorem dn_run {X j : Nat} (h0 : 9007199254740992 ≤ dn X j) (h : X < 9218868437227405312) (w : World) :
    (binOp .quo 23 (.float .f64 (W false (dn X j))) (.float .f64 4611686018427387904)).run Try.prog w = .ok (.float .f64 (W false (dn X (j + 1)))) w := by
  have e : dn X j - 4503599627370496 = dn X (j + 1) := by
    unfold dn
    rw [Nat.succ_mul, Nat.sub_add_eq]
  rw [← e]
  refine run_float_arith w .quo 23 .f64 _ 4611686018427387904 _ (div_two (s := false) ?_ (val_half h0))
  have : dn X j ≤ X := Nat.sub_le _ _
  omega
theorem negf_run (r : Nat) (h : r < 9223372036854775808) (w : World) : (Op.unary .neg (.float .f64 (W false r))).run Try.prog w = .ok (.float .f64 (W true r)) w := by
  have : Op.negFloat FloatKind.f64 (W false r) = W true r := neg_W false h
  rw [← this]; rfl

def FromEnd (s : Bool) (r : Nat) (w : World) (e : Ending) (w' : World) : Prop := e = .returned (.float .f64 (W s r)) ∧ w' = w

set_option maxRecDepth 100000 in
set_option maxHeartbeats 1000000 in
theorem specFrom_big (s : Bool) (b q t : Nat) (w : World) (hq : (b : Int) / 4503599627370496 % 2048 = (q : Int)) (ht : (b : Int) % 4503599627370496 = (t : Int))
    (hs : if s then 9223372036854775808 ≤ (b : Int) else (b : Int) < 9223372036854775808) (hb : b < 18446744073709551616)
    (hq1 : 1023 < q) (hq2 : q ≤ 2046) (ht0 : t < 4503599627370496) :
    Calls Try.prog 24 #[.int .u64 (b : Int)] w fun e w' => FromEnd s (up (t + 4607182418800017408) (q - 1023)) w e w' := by
  obtain ⟨p, hp, hl, hrun1⟩ := frac_exact t ht0
  have hrun2 := one_plus t p ht0 hp hl
  have hX : 4503599627370496 ≤ t + 4607182418800017408 := by omega
  have hmax : up (t + 4607182418800017408) (q - 1023) < 9218868437227405312 := by unfold up; omega
  have hmono : ∀ j, j ≤ q - 1023 → up (t + 4607182418800017408) j ≤ up (t + 4607182418800017408) (q - 1023) := fun j hj => by unfold up; exact Nat.add_le_add_left (Nat.mul_le_mul_right _ hj) _
  have hstep : ∀ j, j < q - 1023 → ∀ w, (binOp .mul 23 (.float .f64 (W false (up (t + 4607182418800017408) j))) (.float .f64 4611686018427387904)).run Try.prog w = .ok (.float .f64 (W false (up (t + 4607182418800017408) (j + 1)))) w :=
    fun j hj => up_run hX (Nat.lt_of_le_of_lt (hmono (j + 1) hj) hmax)
  have h0 : t + 4607182418800017408 = up (t + 4607182418800017408) 0 := by unfold up; omega
  have hneg := negf_run (up (t + 4607182418800017408) (q - 1023)) (by omega)
  clear hp hl hX hmax hmono
  generalize t + 4607182418800017408 = X at *
  have H0 : Hid (X = up X 0) := h0
  have HS : Hid (∀ j, j < q - 1023 → ∀ w, (binOp .mul 23 (.float .f64 (W false (up X j))) (.float .f64 4611686018427387904)).run Try.prog w = .ok (.float .f64 (W false (up X (j + 1)))) w) := hstep
  have HN : Hid (∀ w, (Op.unary .neg (.float .f64 (W false (up X (q - 1023))))).run Try.prog w = .ok (.float .f64 (W true (up X (q - 1023)))) w) := hneg
  clear h0 hstep hneg
  have hq3 : ((q : Int) == 2047) = false := beq_eq_false_iff_ne.2 (by omega)
  go_enter Try.func24, Try.ntmps24
  go_wp2_with fail
  clear hrun1 hrun2 hq ht ht0
  go_loop [5, 3] (fun v e => ∃ j : Nat, j ≤ q - 1023 ∧ v = .float .f64 (W false (up X j)) ∧ e = .int .i64 ((q : Int) - j)) (fun _ e => (intOf e).toNat)
  case atStart => exact ⟨0, by omega, by rw [← H0.out], by simp⟩
  case round =>
    obtain ⟨j, hj, rfl, rfl⟩ := hrel
    by_cases hc : j < q - 1023
    · have hrun := HS.out j hc
      go_wp2
      go_round
      case rel => exact ⟨j + 1, by omega, rfl, by go_num⟩
      case measure => simp [intOf]; omega
    · obtain rfl : j = q - 1023 := by omega
      have hrun := HN.out
      clear hc hj
      have hj2 : ((q - 1023 : Nat) : Int) = (q : Int) - 1023 := by omega
      rw [hj2]
      clear hj2
      go_wp2_with fail
      go_loop [5, 3] (fun v e => v = .float .f64 (W false (up X (q - 1023))) ∧ e = .int .i64 1023) (fun _ e => 0)
      case atStart => exact ⟨rfl, by congr 1; omega⟩
      case round =>
        obtain ⟨rfl, rfl⟩ := hrel
        clear hb hq1 hq2
        cases s
        · have hs' : (b : Int) < 9223372036854775808 := hs
          have hs2 : decide (9223372036854775808 ≤ (b : Int)) = false := decide_eq_false (by omega)
          clear hs hs'
          go_wp2
          go_ret
          exact ⟨rfl, rfl⟩
        · have hs' : 9223372036854775808 ≤ (b : Int) := hs
          have hs2 : decide (9223372036854775808 ≤ (b : Int)) = true := decide_eq_true (by omega)
          clear hs hs'
          go_wp2
          go_ret
          exact ⟨rfl, rfl⟩

set_option maxRecDepth 100000 in
set_option maxHeartbeats 1000000 in
theorem specFrom_mid (s : Bool) (b q t : Nat) (w : World) (hq : (b : Int) / 4503599627370496 % 2048 = (q : Int)) (ht : (b : Int) % 4503599627370496 = (t : Int))
    (hs : if s then 9223372036854775808 ≤ (b : Int) else (b : Int) < 9223372036854775808) (hb : b < 18446744073709551616)
    (hq1 : 1 ≤ q) (hq2 : q ≤ 1023) (ht0 : t < 4503599627370496) :
    Calls Try.prog 24 #[.int .u64 (b : Int)] w fun e w' => FromEnd s (dn (t + 4607182418800017408) (1023 - q)) w e w' := by
  obtain ⟨p, hp, hl, hrun1⟩ := frac_exact t ht0
  have hrun2 := one_plus t p ht0 hp hl
  have hstep : ∀ j, j < 1023 - q → ∀ w, (binOp .quo 23 (.float .f64 (W false (dn (t + 4607182418800017408) j))) (.float .f64 4611686018427387904)).run Try.prog w = .ok (.float .f64 (W false (dn (t + 4607182418800017408) (j + 1)))) w :=
    fun j hj => dn_run (by
      unfold dn
      have : j * 4503599627370496 ≤ 1021 * 4503599627370496 := Nat.mul_le_mul_right _ (by omega)
      omega) (by omega)
  have h0 : t + 4607182418800017408 = dn (t + 4607182418800017408) 0 := by unfold dn; omega
  have hneg := negf_run (dn (t + 4607182418800017408) (1023 - q)) (by have : dn (t + 4607182418800017408) (1023 - q) ≤ t + 4607182418800017408 := Nat.sub_le _ _; omega)
  clear hp hl
  generalize t + 4607182418800017408 = X at *
  have H0 : Hid (X = dn X 0) := h0
  have HS : Hid (∀ j, j < 1023 - q → ∀ w, (binOp .quo 23 (.float .f64 (W false (dn X j))) (.float .f64 4611686018427387904)).run Try.prog w = .ok (.float .f64 (W false (dn X (j + 1)))) w) := hstep
  have HN : Hid (∀ w, (Op.unary .neg (.float .f64 (W false (dn X (1023 - q))))).run Try.prog w = .ok (.float .f64 (W true (dn X (1023 - q)))) w) := hneg
  clear h0 hstep hneg
  have hq3 : ((q : Int) == 2047) = false := beq_eq_false_iff_ne.2 (by omega)
  go_enter Try.func24, Try.ntmps24
  go_wp2_with fail
  clear hrun1 hrun2 hq ht ht0 hb
  go_loop [5, 3] (fun v e => v = .float .f64 (W false X) ∧ e = .int .i64 (q : Int)) (fun _ e => 0)
  case atStart => exact ⟨rfl, rfl⟩
  case round =>
    obtain ⟨rfl, rfl⟩ := hrel
    go_wp2_with fail
    go_loop [5, 3] (fun v e => ∃ j : Nat, j ≤ 1023 - q ∧ v = .float .f64 (W false (dn X j)) ∧ e = .int .i64 ((q : Int) + j)) (fun _ e => 1023 - (intOf e).toNat)
    case atStart => exact ⟨0, by omega, by rw [← H0.out], by simp⟩
    case round =>
      obtain ⟨j, hj, rfl, rfl⟩ := hrel
      by_cases hc : j < 1023 - q
      · have hrun := HS.out j hc
        go_wp2
        go_round
        case rel => exact ⟨j + 1, by omega, rfl, by go_num⟩
        case measure => simp [intOf]; omega
      · obtain rfl : j = 1023 - q := by omega
        have hrun := HN.out
        have hj2 : ((1023 - q : Nat) : Int) = 1023 - (q : Int) := by omega
        rw [hj2]
        clear hj2 hc hj
        cases s
        · have hs1 : (b : Int) < 9223372036854775808 := hs
          have hs2 : decide (9223372036854775808 ≤ (b : Int)) = false := decide_eq_false (by omega)
          clear hs hs1
          go_wp2
          go_ret
          exact ⟨rfl, rfl⟩
        · have hs1 : 9223372036854775808 ≤ (b : Int) := hs
          have hs2 : decide (9223372036854775808 ≤ (b : Int)) = true := decide_eq_true (by omega)
          clear hs hs1
          go_wp2
          go_ret
          exact ⟨rfl, rfl⟩

theorem sub_half {t p k : Nat} (h : val p = t * p2 (k + 1)) (hp : p < 9218868437227405312) (ht : t < 4503599627370496) (hk : k ≤ 1022) :
    ∃ p', val p' = t * p2 k ∧ p' < 9218868437227405312 ∧ ∀ w, (binOp .quo 23 (.float .f64 (W false p)) (.float .f64 4611686018427387904)).run Try.prog w = .ok (.float .f64 (W false p')) w := by
  obtain ⟨p', hp', hl⟩ := rep2 t ht k (by omega)
  refine ⟨p', hp', hl, fun w => run_float_arith w .quo 23 .f64 _ 4611686018427387904 _ (div_two (s := false) hp ?_)⟩
  rw [h, hp', p2_succ]
  exact Nat.mul_left_comm _ _ _

set_option maxRecDepth 100000 in
set_option maxHeartbeats 1000000 in
theorem specFrom_sub (s : Bool) (b t : Nat) (w : World) (hq : (b : Int) / 4503599627370496 % 2048 = 0) (ht : (b : Int) % 4503599627370496 = (t : Int))
    (hs : if s then 9223372036854775808 ≤ (b : Int) else (b : Int) < 9223372036854775808) (hb : b < 18446744073709551616) (ht0 : t < 4503599627370496) :
    Calls Try.prog 24 #[.int .u64 (b : Int)] w fun e w' => FromEnd s t w e w' := by
  obtain ⟨p, hp, hl, hrun1⟩ := frac_exact t ht0
  have HN : Hid (∀ w, (Op.unary .neg (.float .f64 (W false t))).run Try.prog w = .ok (.float .f64 (W true t)) w) := negf_run t (by omega)
  have HP : Hid (val p = t * p2 1022) := hp
  have HT : Hid (t < 4503599627370496) := ht0
  have HL : Hid (p < 9218868437227405312) := hl
  clear hp hl
  go_enter Try.func24, Try.ntmps24
  go_wp2_with fail
  clear hrun1 hq ht ht0 hb
  go_loop [5, 3] (fun v e => v = .float .f64 (W false p) ∧ e = .int .i64 1) (fun _ e => 0)
  case atStart => exact ⟨rfl, rfl⟩
  case round =>
    obtain ⟨rfl, rfl⟩ := hrel
    go_wp2_with fail
    go_loop [5, 3] (fun v e => ∃ j p' : Nat, j ≤ 1022 ∧ Hid (val p' = t * p2 (1022 - j)) ∧ Hid (p' < 9218868437227405312) ∧ v = .float .f64 (W false p') ∧ e = .int .i64 (1 + (j : Int))) (fun _ e => 1023 - (intOf e).toNat)
    case atStart => exact ⟨0, p, by omega, HP, HL, rfl, rfl⟩
    case round =>
      obtain ⟨j, p', hj, hv, hl', rfl, rfl⟩ := hrel
      by_cases hc : j < 1022
      · obtain ⟨pn, hvn, hln, hrun⟩ := sub_half (k := 1022 - (j + 1)) (by rw [hv.out, show 1022 - (j + 1) + 1 = 1022 - j by omega]) hl'.out HT.out (by omega)
        have HVN : Hid (val pn = t * p2 (1022 - (j + 1))) := hvn
        have HLN : Hid (pn < 9218868437227405312) := hln
        clear hvn hln
        go_wp2
        go_round
        case rel => exact ⟨j + 1, pn, by omega, HVN, HLN, rfl, by go_num⟩
        case measure => simp [intOf]; omega
      · obtain rfl : j = 1022 := by omega
        have hpt : p' = t := by
          have := hv.out
          rw [show 1022 - 1022 = 0 from rfl, show p2 0 = 1 from rfl, Nat.mul_one] at this
          refine val_inj (this.trans (val_small ?_).symm)
          have := HT.out
          omega
        have hrun := HN.out
        rw [hpt]
        clear hc hj hpt
        cases s
        · have hs1 : (b : Int) < 9223372036854775808 := hs
          have hs2 : decide (9223372036854775808 ≤ (b : Int)) = false := decide_eq_false (by omega)
          clear hs hs1
          go_wp2
          go_ret
          exact ⟨rfl, rfl⟩
        · have hs1 : 9223372036854775808 ≤ (b : Int) := hs
          have hs2 : decide (9223372036854775808 ≤ (b : Int)) = true := decide_eq_true (by omega)
          clear hs hs1
          go_wp2
          go_ret
          exact ⟨rfl, rfl⟩

set_option maxRecDepth 100000 in
set_option maxHeartbeats 1000000 in
theorem specFrom_inf (s : Bool) (b : Nat) (w : World) (hq : (b : Int) / 4503599627370496 % 2048 = 2047) (ht : (b : Int) % 4503599627370496 = 0)
    (hs : if s then 9223372036854775808 ≤ (b : Int) else (b : Int) < 9223372036854775808) (hb : b < 18446744073709551616) :
    Calls Try.prog 24 #[.int .u64 (b : Int)] w fun e w' => FromEnd s 9218868437227405312 w e w' := by
  obtain ⟨p, hp, hl, hrun1⟩ := frac_exact 0 (by omega)
  have hp0 : p = 0 := val_inj (by rw [hp, Nat.zero_mul, val_zero])
  subst hp0
  rw [show ((0 : Nat) : Int) = 0 from rfl] at hrun1
  have h1 : FloatKind.f64.format.order (W false 0) 0 = some .eq := ord_zero_zero
  have h2 := one_quo_zero
  have HN := negf_run 9218868437227405312 (by omega)
  rw [show W false 9218868437227405312 = 9218868437227405312 from rfl] at HN
  clear hp hl
  cases s
  · have hs' : (b : Int) < 9223372036854775808 := hs
    have hs2 : decide (9223372036854775808 ≤ (b : Int)) = false := decide_eq_false (by omega)
    clear hs hs'
    go_enter Try.func24, Try.ntmps24
    go_wp2
    go_ret
    exact ⟨rfl, rfl⟩
  · have hs' : 9223372036854775808 ≤ (b : Int) := hs
    have hs2 : decide (9223372036854775808 ≤ (b : Int)) = true := decide_eq_true (by omega)
    clear hs hs'
    go_enter Try.func24, Try.ntmps24
    go_wp2
    go_ret
    exact ⟨rfl, rfl⟩
set_option maxRecDepth 100000 in
set_option maxHeartbeats 1000000 in
theorem specFrom_nan (b t : Nat) (w : World) (hq : (b : Int) / 4503599627370496 % 2048 = 2047) (ht : (b : Int) % 4503599627370496 = (t : Int)) (ht0 : t < 4503599627370496) (ht1 : 0 < t) (hb : b < 18446744073709551616) :
    Calls Try.prog 24 #[.int .u64 (b : Int)] w fun e w' => ∃ y, e = .returned (.float .f64 y) ∧ fb y = 9221120237041090560 ∧ y < 18446744073709551616 ∧ ∃ m, w' = w.drewN m := by
  obtain ⟨p, hp, hl, hrun1⟩ := frac_exact t ht0
  have hp0 : 0 < p := by
    rcases Nat.eq_zero_or_pos p with h | h
    · rw [h, val_zero] at hp
      have := Nat.mul_pos ht1 (p2_pos 1022)
      omega
    · exact h
  have h1 : (FloatKind.f64.format.order (W false p) 0 != some .eq) = true := by
    rw [show FloatKind.f64.format.order (W false p) 0 = _ from ord_zero hp0 (by omega)]; rfl
  have h2 : (binOp .quo 23 (.float .f64 0) (.float .f64 0)).run Try.prog w = _ := run_fquo w 23 0 0
  clear hp hl ht0 ht1 hp0
  go_enter Try.func24, Try.ntmps24
  go_wp2
  go_ret
  refine ⟨_, rfl, ?_, fop_lt _ _ _ _, _, rfl⟩
  rw [fb_fop]
  decide

theorem W_comm (s : Bool) (r : Nat) : W s r = if s then r + 9223372036854775808 else r := by unfold W; rw [Nat.add_comm]
theorem W_quo {s : Bool} {r : Nat} (h : r < 9223372036854775808) : ((W s r : Nat) : Int) / 4503599627370496 % 2048 = ((r / 4503599627370496 : Nat) : Int) := by
  rw [W_comm]; split <;> omega
theorem W_rem {s : Bool} {r : Nat} (_h : r < 9223372036854775808) : ((W s r : Nat) : Int) % 4503599627370496 = ((r % 4503599627370496 : Nat) : Int) := by
  rw [W_comm]; split <;> omega
theorem W_sgn {s : Bool} {r : Nat} (h : r < 9223372036854775808) : if s then 9223372036854775808 ≤ ((W s r : Nat) : Int) else ((W s r : Nat) : Int) < 9223372036854775808 := by
  rw [W_comm]; cases s
  · simp only [Bool.false_eq_true, if_false]; omega
  · simp only [if_true]; omega
theorem up_end {r : Nat} (h : 1023 < r / 4503599627370496) : up (r % 4503599627370496 + 4607182418800017408) (r / 4503599627370496 - 1023) = r := by
  unfold up; omega
theorem dn_end {r : Nat} (h : 1 ≤ r / 4503599627370496) (h' : r / 4503599627370496 ≤ 1023) : dn (r % 4503599627370496 + 4607182418800017408) (1023 - r / 4503599627370496) = r := by
  unfold dn; omega

theorem from_mono {s : Bool} {r : Nat} {w : World} {f : FuncId} {args : Array Value} (hr : r < 9223372036854775808) (h : Calls Try.prog f args w fun e w' => FromEnd s r w e w') :
    Calls Try.prog f args w fun e w' => ∃ y, e = .returned (.float .f64 y) ∧ fb y = fb (W s r) ∧ y < 18446744073709551616 ∧ ∃ m, w' = w.drewN m :=
  h.mono fun _ _ k => ⟨W s r, k.1, rfl, W_lt hr, 0, k.2⟩

theorem specFrom (b : Nat) (w : World) (hb : b < 18446744073709551616) :
    Calls Try.prog 24 #[.int .u64 (b : Int)] w fun e w' => ∃ y, e = .returned (.float .f64 y) ∧ fb y = fb b ∧ y < 18446744073709551616 ∧ ∃ m, w' = w.drewN m := by
  obtain ⟨s, r, hr, rfl⟩ := split_word b hb
  have hq := W_quo (s := s) hr
  have ht := W_rem (s := s) hr
  have hs := W_sgn (s := s) hr
  have ht0 : r % 4503599627370496 < 4503599627370496 := Nat.mod_lt _ (by omega)
  rcases Nat.lt_or_ge 1023 (r / 4503599627370496) with h1 | h1
  · rcases Nat.lt_or_ge 2046 (r / 4503599627370496) with h2 | h2
    · have hq2 : r / 4503599627370496 = 2047 := by omega
      rw [hq2] at hq
      rcases Nat.eq_zero_or_pos (r % 4503599627370496) with h3 | h3
      · rw [h3] at ht
        have hrr : r = 9218868437227405312 := by omega
        have := from_mono (by omega) (specFrom_inf s _ w hq ht hs hb)
        rw [← hrr] at this
        exact this
      · rw [fb_nan (by omega) hr]
        exact specFrom_nan _ _ w hq ht ht0 h3 hb
    · have := specFrom_big s _ _ _ w hq ht hs hb h1 h2 ht0
      rw [up_end h1] at this
      exact from_mono hr this
  · rcases Nat.eq_zero_or_pos (r / 4503599627370496) with h2 | h2
    · rw [h2] at hq
      have hrr : r % 4503599627370496 = r := by omega
      have := specFrom_sub s _ _ w hq ht hs hb ht0
      rw [hrr] at this
      exact from_mono hr this
    · have := specFrom_mid s _ _ _ w hq ht hs hb h2 h1 ht0
      rw [dn_end h2 h1] at this
      exact from_mono hr this

set_option maxHeartbeats 400000 in
theorem implFrom (b : Int) (w : World) :
    Calls Try.prog 16 #[.int .u64 b] w fun e w' => e = .returned (.float .f64 b.toNat) ∧ w' = w := by
  have hc := call44
  go_enter Try.func16, Try.ntmps16
  go_wp2
  go_ret
  exact ⟨rfl, rfl⟩

end Go.Proofs.Ytcphabjekfihnaa
