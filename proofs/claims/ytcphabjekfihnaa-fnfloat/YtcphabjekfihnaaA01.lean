import Derived.Test.YtcphabjekfihnaaRows
import Derived.WalkKit
import Derived.WalkSpells
import Derived.WalkLawsBesides
import Derived.Deep.Draws
import Derived.ProofKit
import Derived.OpenShut
import Derived.Laws.FloatArith
namespace Go.Proofs.Ytcphabjekfihnaa
open Go.ChangeShapes Go.WideShapes Go.ChangeAt Go.RowKit

theorem own : ownKnob Try.prog.godebug = none := by kernel_rfl
theorem f64_lt {b : Nat} (h : (Lit.float .f64 b).wf = true) : b < 18446744073709551616 := by simpa [Lit.wf] using h
theorem alloc_drewN (w : World) (n : Nat) (o : Obj) : (w.drewN n).alloc o = (w.alloc o).drewN n := rfl
theorem setCell_drewN (w : World) (n : Nat) (a : Addr) (v : Value) : (w.drewN n).setCell a v = (w.setCell a v).drewN n := rfl
theorem grown_drewN (w : World) : ∀ n, Grown w (w.drewN n)
  | 0 => Grown.refl w
  | n + 1 => (grown_drewN w n).drew
end Go.Proofs.Ytcphabjekfihnaa

namespace Go.Proofs.Ytcphabjekfihnaa.Flt
open Ieee

/-! Plain facts on double words: sign and rung, values, exact rounding. -/

def W (s : Bool) (r : Nat) : Nat := if s then 9223372036854775808 + r else r
def M (r : Nat) : Nat := if r < 4503599627370496 then r else 4503599627370496 + r % 4503599627370496
def E (r : Nat) : Nat := r / 4503599627370496 - 1
def val (r : Nat) : Nat := M r * 2 ^ E r
def p2 (n : Nat) : Nat := 2 ^ n
theorem p2_eq (n : Nat) : 2 ^ n = p2 n := rfl
theorem p2_add (a b : Nat) : p2 (a + b) = p2 a * p2 b := Nat.pow_add 2 a b
theorem p2_pos (a : Nat) : 0 < p2 a := Nat.two_pow_pos a
theorem p2_succ (a : Nat) : p2 (a + 1) = 2 * p2 a := by unfold p2; rw [Nat.pow_succ, Nat.mul_comm]
theorem val_p2 (r : Nat) : val r = M r * p2 (E r) := rfl
def sg (s : Bool) (n : Nat) : Int := if s then -(n : Int) else (n : Int)

theorem binade_eq : double.binade = 4503599627370496 := by decide
theorem sign_eq : double.signWeight = 9223372036854775808 := by decide
theorem inf_eq : double.infRung = 9218868437227405312 := by decide
theorem least_eq : double.leastPlace = -1074 := by decide
theorem frac_eq : double.fractionBits = 52 := rfl

theorem word_eq (s : Bool) (r : Nat) : double.word s r = W s r := by
  unfold Format.word W
  rw [sign_eq]

theorem split_word (x : Nat) (hx : x < 18446744073709551616) : ∃ s r, r < 9223372036854775808 ∧ x = W s r := by
  by_cases h : x < 9223372036854775808
  · exact ⟨false, x, h, rfl⟩
  · refine ⟨true, x - 9223372036854775808, by omega, ?_⟩
    unfold W
    simp only [if_true]
    omega

theorem W_lt {s : Bool} {r : Nat} (h : r < 9223372036854775808) : W s r < 18446744073709551616 := by
  unfold W; split <;> omega

theorem W_mod {s : Bool} {r : Nat} (h : r < 9223372036854775808) : W s r % 9223372036854775808 = r := by
  unfold W; split <;> omega

theorem W_neg {s : Bool} {r : Nat} (h : r < 9223372036854775808) : (W s r / 9223372036854775808 % 2 == 1) = s := by
  unfold W
  cases s
  · have : r / 9223372036854775808 = 0 := by omega
    simp [this]
  · have : (9223372036854775808 + r) / 9223372036854775808 = 1 := by omega
    simp [this]

theorem W_inj {s t : Bool} {r q : Nat} (hr : r < 9223372036854775808) (hq : q < 9223372036854775808) (h : W s r = W t q) : s = t ∧ r = q := by
  unfold W at h
  cases s <;> cases t <;> simp only [if_true, Bool.false_eq_true, if_false] at h
  · exact ⟨rfl, h⟩
  · omega
  · omega
  · exact ⟨rfl, by omega⟩

theorem read_num {s : Bool} {r : Nat} (h : r < 9218868437227405312) : double.read (W s r) = .number s (M r) (-1074 + (E r : Nat)) := by
  have hr : r < 9223372036854775808 := by omega
  unfold Format.read
  simp only [sign_eq, inf_eq, binade_eq, least_eq, W_mod hr, W_neg hr]
  unfold M E
  by_cases h1 : r < 4503599627370496
  · rw [if_pos h1, if_pos h1]
    have : r / 4503599627370496 = 0 := by omega
    rw [this]; rfl
  · rw [if_neg h1, if_pos h, if_neg h1]

theorem read_inf {s : Bool} : double.read (W s 9218868437227405312) = .infinity s := by
  cases s <;> decide

theorem read_nan {s : Bool} {r : Nat} (h : 9218868437227405312 < r) (hr : r < 9223372036854775808) : double.read (W s r) = .nan s (r - 9218868437227405312) := by
  unfold Format.read
  simp only [sign_eq, inf_eq, binade_eq, least_eq, W_mod hr, W_neg hr]
  rw [if_neg (by omega), if_neg (by omega), if_neg (by omega)]

theorem M_lo {r : Nat} (h : 4503599627370496 ≤ r) : 4503599627370496 ≤ M r := by
  unfold M; rw [if_neg (by omega)]; omega
theorem M_hi (r : Nat) : M r < 9007199254740992 := by
  unfold M; split <;> omega
theorem M_pos {r : Nat} (h : 0 < r) : 0 < M r := by
  unfold M; split <;> omega
theorem M_zero : M 0 = 0 := rfl
theorem E_small {r : Nat} (h : r < 9007199254740992) : E r = 0 := by
  unfold E; omega
theorem val_small {r : Nat} (h : r < 9007199254740992) : val r = r := by
  unfold val
  rw [E_small h, Nat.pow_zero, Nat.mul_one]
  unfold M; split <;> omega
theorem rung_eq (r : Nat) : E r * 4503599627370496 + M r = r := by
  unfold E M; split <;> omega

theorem pow_mono {a b : Nat} (h : a ≤ b) : 2 ^ a ≤ 2 ^ b := Nat.pow_le_pow_right (by omega) h

theorem val_lt {r q : Nat} (h : r < q) : val r < val q := by
  by_cases he : E r = E q
  · unfold val
    rw [he]
    have h1 := rung_eq r
    have h2 := rung_eq q
    rw [he] at h1
    exact Nat.mul_lt_mul_of_pos_right (by omega) (Nat.two_pow_pos _)
  · have hE : E r < E q := by
      have : E r ≤ E q := by unfold E; omega
      omega
    have hq : 4503599627370496 ≤ q := by unfold E at hE; omega
    have a := M_lo hq
    have b := M_hi r
    have c : 2 ^ (E r + 1) ≤ 2 ^ E q := pow_mono hE
    have p : 0 < 2 ^ E r := Nat.two_pow_pos _
    unfold val
    calc M r * 2 ^ E r < 9007199254740992 * 2 ^ E r := Nat.mul_lt_mul_of_pos_right b p
      _ = 4503599627370496 * 2 ^ (E r + 1) := by rw [Nat.pow_succ]; omega
      _ ≤ 4503599627370496 * 2 ^ E q := Nat.mul_le_mul_left _ c
      _ ≤ M q * 2 ^ E q := Nat.mul_le_mul_right _ a

theorem val_le {r q : Nat} (h : r ≤ q) : val r ≤ val q := by
  rcases Nat.lt_or_eq_of_le h with h | h
  · exact Nat.le_of_lt (val_lt h)
  · rw [h]; exact Nat.le_refl _
theorem val_lt_iff {r q : Nat} : val r < val q ↔ r < q :=
  ⟨fun h => by rcases Nat.lt_or_ge r q with h1 | h1; exact h1; have := val_le h1; omega, val_lt⟩
theorem val_inj {r q : Nat} (h : val r = val q) : r = q := by
  rcases Nat.lt_trichotomy r q with h1 | h1 | h1
  · have := val_lt h1; omega
  · exact h1
  · have := val_lt h1; omega
theorem val_zero : val 0 = 0 := rfl
theorem val_pos {r : Nat} (h : 0 < r) : 0 < val r := by have := val_lt h; rw [val_zero] at this; exact this

theorem signed_sg (s : Bool) (m k : Nat) : signed s m k = sg s (m * 2 ^ k) := by
  unfold signed sg
  rw [Nat.shiftLeft_eq]

theorem sg_mul (s : Bool) (a b : Nat) : sg s (a * b) = sg s a * (b : Int) := by
  unfold sg; cases s
  · simp
  · simp [Int.neg_mul]

theorem compare_scale (x y : Int) (k : Nat) (hk : 0 < k) : compare (x * (k : Int)) (y * (k : Int)) = compare x y := by
  have hk' : (0 : Int) < k := by omega
  rcases Int.lt_trichotomy x y with h | h | h
  · rw [Int.compare_eq_lt.2 h]
    exact Int.compare_eq_lt.2 (Int.mul_lt_mul_of_pos_right h hk')
  · subst h
    rw [Int.compare_eq_eq.2 rfl, Int.compare_eq_eq.2 rfl]
  · rw [Int.compare_eq_gt.2 h]
    exact Int.compare_eq_gt.2 (Int.mul_lt_mul_of_pos_right h hk')

theorem order_num {s t : Bool} {r q : Nat} (hr : r < 9218868437227405312) (hq : q < 9218868437227405312) :
    double.order (W s r) (W t q) = some (compare (sg s (val r)) (sg t (val q))) := by
  unfold Format.order
  rw [read_num hr, read_num hq]
  simp only [Datum.order, Option.some.injEq]
  rw [signed_sg, signed_sg]
  rcases Nat.le_total (E r) (E q) with h | h
  · have e1 : min (-1074 + (E r : Int)) (-1074 + (E q : Int)) = -1074 + (E r : Int) := by omega
    rw [e1]
    have e2 : (-1074 + (E r : Int) - (-1074 + (E r : Int))).toNat = 0 := by omega
    have e3 : (-1074 + (E q : Int) - (-1074 + (E r : Int))).toNat = E q - E r := by omega
    rw [e2, e3, ← compare_scale _ _ (2 ^ E r) (Nat.two_pow_pos _), ← sg_mul, ← sg_mul]
    unfold val
    rw [Nat.pow_zero, Nat.mul_one, Nat.mul_assoc, Nat.pow_sub_mul_pow 2 h]
  · have e1 : min (-1074 + (E r : Int)) (-1074 + (E q : Int)) = -1074 + (E q : Int) := by omega
    rw [e1]
    have e2 : (-1074 + (E q : Int) - (-1074 + (E q : Int))).toNat = 0 := by omega
    have e3 : (-1074 + (E r : Int) - (-1074 + (E q : Int))).toNat = E r - E q := by omega
    rw [e2, e3, ← compare_scale _ _ (2 ^ E q) (Nat.two_pow_pos _), ← sg_mul, ← sg_mul]
    unfold val
    rw [Nat.pow_zero, Nat.mul_one, Nat.mul_assoc, Nat.pow_sub_mul_pow 2 h]

theorem order_nan_left {x y : Nat} (h : ∃ s t, double.read x = .nan s t) : double.order x y = none := by
  obtain ⟨s, t, h⟩ := h
  unfold Format.order
  rw [h]; rfl
theorem order_nan_right {x y : Nat} (h : ∃ s t, double.read y = .nan s t) : double.order x y = none := by
  obtain ⟨s, t, h⟩ := h
  unfold Format.order
  rw [h]
  cases double.read x <;> rfl

theorem log2_mul_pow {m k : Nat} (hm : 0 < m) : (m * 2 ^ k).log2 = m.log2 + k := by
  have h0 : m * 2 ^ k ≠ 0 := Nat.ne_of_gt (Nat.mul_pos hm (Nat.two_pow_pos _))
  rw [Nat.log2_eq_iff h0]
  have a := Nat.log2_self_le (n := m) (by omega)
  have b := @Nat.lt_log2_self m
  refine ⟨?_, ?_⟩
  · rw [Nat.pow_add]; exact Nat.mul_le_mul_right _ a
  · rw [show m.log2 + k + 1 = (m.log2 + 1) + k by omega, Nat.pow_add]
    exact Nat.mul_lt_mul_of_pos_right b (Nat.two_pow_pos _)

theorem log2_M_big {r : Nat} (h : 4503599627370496 ≤ r) : (M r).log2 = 52 := by
  have a := M_lo h
  have b := M_hi r
  rw [Nat.log2_eq_iff (by omega)]
  exact ⟨by simpa using a, by simpa using b⟩
theorem log2_M_small {r : Nat} (h0 : 0 < r) (h : r < 4503599627370496) : (M r).log2 ≤ 51 := by
  have e : M r = r := by unfold M; rw [if_pos h]
  rw [e]
  have : r.log2 < 52 := (Nat.log2_lt (by omega)).2 (by simpa using h)
  omega

/-- EXACT ROUNDING: a number that a word stands for is written as that word. -/
theorem nearest_exact (s : Bool) (mag : Nat) (place : Int) (r x y : Nat) (hr : r < 9218868437227405312)
    (hv : mag * p2 x = val r * p2 y) (hp : (x : Int) - y = place + 1074) : double.nearest s mag place = W s r := by
  rw [← p2_eq, ← p2_eq] at hv
  by_cases hm : mag = 0
  · subst hm
    have hv' : val r * 2 ^ y = 0 := by rw [← hv]; simp
    have h0 : r = 0 := by
      rcases Nat.eq_zero_or_pos r with h | h
      · exact h
      · have := Nat.mul_pos (val_pos h) (Nat.two_pow_pos y); omega
    subst h0
    unfold Format.nearest
    rw [if_pos rfl, word_eq]
  · have hm' : 0 < mag := by omega
    have hr0 : 0 < r := by
      rcases Nat.eq_zero_or_pos r with h | h
      · subst h; rw [val_zero, Nat.zero_mul] at hv
        have := Nat.mul_pos hm' (Nat.two_pow_pos x); omega
      · exact h
    have hM := M_pos hr0
    have hl : mag.log2 + x = (M r).log2 + E r + y := by
      have := congrArg Nat.log2 hv
      rw [log2_mul_pow hm', show val r = M r * 2 ^ E r from rfl, Nat.mul_assoc, ← Nat.pow_add, log2_mul_pow hM] at this
      omega
    unfold Format.nearest
    rw [if_neg hm]
    simp only [least_eq, frac_eq, binade_eq, inf_eq]
    have hlast : max (place + (mag.log2 : Int) - (52 : Nat)) (-1074) = -1074 + (E r : Int) := by
      rcases Nat.lt_or_ge r 4503599627370496 with h | h
      · have := log2_M_small hr0 h
        have e0 : E r = 0 := E_small (by omega)
        rw [e0] at hl ⊢
        omega
      · have := log2_M_big h
        omega
    rw [hlast]
    have hk : Toward.even.cut s (mag <<< (place - (-1074 + (E r : Int))).toNat) (-1074 + (E r : Int) - place).toNat = M r := by
      rw [Nat.shiftLeft_eq]
      rcases Int.le_total (-1074 + (E r : Int)) place with h | h
      · -- no digit is dropped
        obtain ⟨a, ha⟩ : ∃ a : Nat, place = -1074 + (E r : Int) + a := ⟨(place - (-1074 + (E r : Int))).toNat, by omega⟩
        have e1 : (place - (-1074 + (E r : Int))).toNat = a := by omega
        have e2 : (-1074 + (E r : Int) - place).toNat = 0 := by omega
        rw [e1, e2]
        have key : mag * 2 ^ a = M r := by
          have hx : x = E r + y + a := by omega
          rw [hx, show val r = M r * 2 ^ E r from rfl, Nat.mul_assoc, ← Nat.pow_add, Nat.add_comm (E r + y) a, Nat.pow_add, ← Nat.mul_assoc] at hv
          exact Nat.eq_of_mul_eq_mul_right (Nat.two_pow_pos _) hv
        rw [key]
        unfold Toward.cut
        simp only [Nat.zero_min, Nat.shiftLeft_eq, Nat.pow_zero, Nat.mul_one, Nat.div_one, Nat.mod_one]
        simp
      · obtain ⟨a, ha⟩ : ∃ a : Nat, place + a = -1074 + (E r : Int) := ⟨(-1074 + (E r : Int) - place).toNat, by omega⟩
        have e1 : (place - (-1074 + (E r : Int))).toNat = 0 := by omega
        have e2 : (-1074 + (E r : Int) - place).toNat = a := by omega
        rw [e1, e2, Nat.pow_zero, Nat.mul_one]
        have key : mag = M r * 2 ^ a := by
          have hx : x + a = E r + y := by omega
          have h2 : mag * 2 ^ x * 2 ^ a = val r * 2 ^ y * 2 ^ a := by rw [hv]
          rw [Nat.mul_assoc, ← Nat.pow_add, hx, show val r = M r * 2 ^ E r from rfl, Nat.mul_assoc (M r), ← Nat.pow_add, Nat.mul_assoc, Nat.mul_comm (2 ^ (E r + y)), ← Nat.mul_assoc] at h2
          exact Nat.eq_of_mul_eq_mul_right (Nat.two_pow_pos _) h2
        rw [key]
        unfold Toward.cut
        have hmin : min a ((M r * 2 ^ a).log2 + 2) = a := by rw [log2_mul_pow hM]; omega
        simp only [hmin, Nat.shiftLeft_eq, Nat.one_mul, Nat.mul_div_cancel _ (Nat.two_pow_pos a), Nat.mul_mod_left]
        have hp2 := Nat.two_pow_pos a
        simp only [Nat.mul_zero, Nat.not_lt_zero, decide_false, Bool.false_or]
        have : (2 ^ a == 0) = false := by simp
        rw [this]; simp
    rw [hk]
    have e4 : (-1074 + (E r : Int) - -1074).toNat = E r := by omega
    rw [e4, rung_eq, word_eq, Nat.min_eq_left (by omega)]

theorem read_zero : double.read (W false 0) = .number false 0 (-1074) := read_num (by omega)

theorem order_pos {r q : Nat} (hr : r < 9218868437227405312) (hq : q < 9218868437227405312) :
    double.order (W false r) (W false q) = some (compare r q) := by
  rw [order_num hr hq]
  have e : ∀ n, sg false n = (n : Int) := fun n => rfl
  rw [e, e]
  congr 1
  rcases Nat.lt_trichotomy r q with h | h | h
  · rw [Nat.compare_eq_lt.2 h]; exact Int.compare_eq_lt.2 (by have := val_lt h; omega)
  · subst h; rw [Nat.compare_eq_eq.2 rfl]; exact Int.compare_eq_eq.2 rfl
  · rw [Nat.compare_eq_gt.2 h]; exact Int.compare_eq_gt.2 (by have := val_lt h; omega)

theorem neg_W (s : Bool) {r : Nat} (h : r < 9223372036854775808) : Op.negFloat .f64 (W s r) = W (!s) r := by
  unfold Op.negFloat
  have e : FloatKind.f64.format.exponentBits + FloatKind.f64.format.fractionBits = 63 := rfl
  rw [e]
  have hb : r < 2 ^ 63 := by simpa using h
  cases s
  · unfold W
    simp only [Bool.false_eq_true, if_false, Bool.not_false, if_true]
    rw [Nat.xor_comm, show (9223372036854775808 : Nat) = 2 ^ 63 by decide]
    have := Nat.two_pow_add_eq_or_of_lt hb 1
    apply Nat.eq_of_testBit_eq
    intro i
    rw [Nat.testBit_xor, Nat.testBit_two_pow]
    rcases Nat.lt_trichotomy i 63 with hi | hi | hi
    · rw [Nat.testBit_two_pow_add_gt hi, show decide (63 = i) = false from decide_eq_false (by omega)]; simp
    · subst hi; rw [Nat.testBit_two_pow_add_eq]; simp
    · have a : r.testBit i = false := Nat.testBit_lt_two_pow (Nat.lt_of_lt_of_le hb (pow_mono (by omega)))
      have b : (2 ^ 63 + r).testBit i = false := Nat.testBit_lt_two_pow (Nat.lt_of_lt_of_le (show 2 ^ 63 + r < 2 ^ 64 by omega) (pow_mono (by omega)))
      rw [a, b, show decide (63 = i) = false from decide_eq_false (by omega)]; rfl
  · unfold W
    simp only [if_true, Bool.not_true, Bool.false_eq_true, if_false]
    rw [show (9223372036854775808 : Nat) = 2 ^ 63 by decide]
    apply Nat.eq_of_testBit_eq
    intro i
    rw [Nat.testBit_xor, Nat.testBit_two_pow]
    rcases Nat.lt_trichotomy i 63 with hi | hi | hi
    · rw [Nat.testBit_two_pow_add_gt hi, show decide (63 = i) = false from decide_eq_false (by omega)]; simp
    · subst hi; rw [Nat.testBit_two_pow_add_eq]
      have a : r.testBit 63 = false := Nat.testBit_lt_two_pow hb
      simp [a]
    · have a : r.testBit i = false := Nat.testBit_lt_two_pow (Nat.lt_of_lt_of_le hb (pow_mono (by omega)))
      have b : (2 ^ 63 + r).testBit i = false := Nat.testBit_lt_two_pow (Nat.lt_of_lt_of_le (show 2 ^ 63 + r < 2 ^ 64 by omega) (pow_mono (by omega)))
      rw [a, b, show decide (63 = i) = false from decide_eq_false (by omega)]; rfl

/-- An exact product. -/
theorem mul_exact {s t : Bool} {r q p : Nat} (hr : r < 9218868437227405312) (hq : q < 9218868437227405312) (hp : p < 9218868437227405312)
    (h : val r * val q = val p * p2 1074) : double.mul (W s r) (W t q) = some (W (s ^^ t) p) := by
  unfold Format.mul
  rw [read_num hr, read_num hq]
  simp only [Datum.product, Option.map_some, Format.write, Option.some.injEq]
  refine nearest_exact _ _ _ p (E r + E q) 1074 hp ?_ (by omega)
  rw [← h, p2_add, val_p2, val_p2]
  ac_rfl

/-- An exact quotient by a power of two. -/
theorem div_exact {s t : Bool} {r q p : Nat} (hr : r < 9218868437227405312) (hq : q < 9218868437227405312) (hp : p < 9218868437227405312)
    (hM : M q = p2 52) (h : val r * p2 1074 = val p * (p2 52 * p2 (E q))) : double.div (W s r) (W t q) = some (W (s ^^ t) p) := by
  unfold Format.div
  rw [read_num hr, read_num hq]
  have hn : ¬ (2 ^ 52 = 0) := by decide
  rw [show p2 52 = 2 ^ 52 from rfl] at hM
  simp only [Datum.quotient, hM, if_neg hn, Option.map_some, Format.write, Option.some.injEq, frac_eq, Nat.log2_two_pow, Nat.shiftLeft_eq]
  have hl : (M r).log2 ≤ 52 := by
    rcases Nat.eq_zero_or_pos r with h0 | h0
    · subst h0; rw [M_zero]; decide
    · rcases Nat.lt_or_ge r 4503599627370496 with h1 | h1
      · have := log2_M_small h0 h1; omega
      · have := log2_M_big h1; omega
  obtain ⟨k, hk⟩ : ∃ k, 52 + 2 + 52 - (M r).log2 = 52 + (k + 1) := ⟨53 - (M r).log2, by omega⟩
  rw [hk, Nat.pow_add, Nat.mul_left_comm, Nat.mul_div_cancel_left _ (by decide : 0 < 2 ^ 52), Nat.mul_mod_right]
  simp only [bne_self_eq_false, Bool.toNat_false, Nat.add_zero]
  refine nearest_exact _ _ _ p (E r + 1074) (52 + E q + (k + 2)) hp ?_ (by omega)
  rw [show 2 * (M r * 2 ^ (k + 1)) = M r * 2 ^ (k + 2) by rw [Nat.pow_succ 2 (k + 1)]; ac_rfl]
  rw [p2_add (52 + E q) (k + 2), p2_add 52 (E q), ← Nat.mul_assoc (val p), ← h, p2_add (E r) 1074]
  rw [val_p2, p2_eq (k + 2)]
  generalize p2 1074 = z
  ac_rfl

theorem sg_natAbs (s : Bool) (n : Nat) : (sg s n).natAbs = n := by unfold sg; cases s <;> simp
theorem sg_neg (s : Bool) (n : Nat) : sg (!s) n = -(sg s n) := by unfold sg; cases s <;> simp
theorem sg_lt (s : Bool) {n : Nat} (h : 0 < n) : decide (sg s n < 0) = s := by
  unfold sg; cases s
  · simp
  · simp; omega

theorem sum_exact {s t u : Bool} {r q p : Nat} (hp : p < 9218868437227405312)
    (h : sg s (val r) + sg t (val q) = sg u (val p)) (hu : p = 0 → u = (s && t)) :
    (Datum.sum (.number s (M r) (-1074 + (E r : Nat))) (.number t (M q) (-1074 + (E q : Nat)))).map double.write = some (W u p) := by
  simp only [Datum.sum, Option.map_some, Format.write, Option.some.injEq]
  obtain ⟨b, hb⟩ : ∃ b : Nat, min (-1074 + (E r : Int)) (-1074 + (E q : Int)) = -1074 + (b : Int) := ⟨min (E r) (E q), by omega⟩
  rw [hb]
  have hbr : b ≤ E r := by omega
  have hbq : b ≤ E q := by omega
  have e2 : (-1074 + (E r : Int) - (-1074 + (b : Int))).toNat = E r - b := by omega
  have e3 : (-1074 + (E q : Int) - (-1074 + (b : Int))).toNat = E q - b := by omega
  rw [e2, e3, signed_sg, signed_sg]
  generalize hT : sg s (M r * 2 ^ (E r - b)) + sg t (M q * 2 ^ (E q - b)) = T
  have hT2 : T * ((2 ^ b : Nat) : Int) = sg u (val p) := by
    rw [← h, ← hT, Int.add_mul, ← sg_mul, ← sg_mul, Nat.mul_assoc, Nat.mul_assoc, Nat.pow_sub_mul_pow 2 hbr, Nat.pow_sub_mul_pow 2 hbq]
    rfl
  have hpb : (0 : Int) < ((2 ^ b : Nat) : Int) := by have := Nat.two_pow_pos b; omega
  have hn : T.natAbs * 2 ^ b = val p := by
    have := congrArg Int.natAbs hT2
    rw [Int.natAbs_mul, sg_natAbs, Int.natAbs_natCast] at this
    exact this
  have hs : (if T = 0 then (s && t) else decide (T < 0)) = u := by
    rcases Nat.eq_zero_or_pos p with h0 | h0
    · have : T = 0 := by
        subst h0; rw [val_zero] at hn
        have := Nat.mul_eq_zero.1 hn
        have p2 := Nat.two_pow_pos b
        omega
      rw [if_pos this, hu h0]
    · have hv := val_pos h0
      have hT0 : T ≠ 0 := by intro c; rw [c] at hn; simp at hn; omega
      rw [if_neg hT0, ← sg_lt u hv, ← hT2]
      congr 1
      rw [eq_iff_iff]
      constructor
      · intro c; exact Int.mul_neg_of_neg_of_pos c hpb
      · intro c
        rcases Int.lt_or_le T 0 with d | d
        · exact d
        · have := Int.mul_nonneg d (Int.le_of_lt hpb); omega
  rw [hs]
  exact nearest_exact u T.natAbs _ p b 0 hp (by rw [← p2_eq, hn, show p2 0 = 1 from rfl, Nat.mul_one]) (by omega)

theorem add_exact {s t u : Bool} {r q p : Nat} (hr : r < 9218868437227405312) (hq : q < 9218868437227405312) (hp : p < 9218868437227405312)
    (h : sg s (val r) + sg t (val q) = sg u (val p)) (hu : p = 0 → u = (s && t)) : double.add (W s r) (W t q) = some (W u p) := by
  unfold Format.add
  rw [read_num hr, read_num hq]
  exact sum_exact hp h hu

theorem sub_exact {s t u : Bool} {r q p : Nat} (hr : r < 9218868437227405312) (hq : q < 9218868437227405312) (hp : p < 9218868437227405312)
    (h : sg s (val r) - sg t (val q) = sg u (val p)) (hu : p = 0 → u = (s && !t)) : double.sub (W s r) (W t q) = some (W u p) := by
  unfold Format.sub
  rw [read_num hr, read_num hq]
  exact sum_exact hp (by rw [sg_neg]; omega) hu

/-- The rung of twice the number. -/
def dbl (r : Nat) : Nat := if r < 4503599627370496 then 2 * r else r + 4503599627370496
theorem val_dbl (r : Nat) : val (dbl r) = 2 * val r := by
  unfold dbl
  split
  · rename_i h
    rw [val_small (by omega), val_small (by omega)]
  · rename_i h
    unfold val
    have e1 : M (r + 4503599627370496) = M r := by unfold M; rw [if_neg (by omega), if_neg h]; omega
    have e2 : E (r + 4503599627370496) = E r + 1 := by unfold E; omega
    rw [e1, e2, Nat.pow_succ]
    ac_rfl
theorem val_half {r : Nat} (h : 9007199254740992 ≤ r) : val r = 2 * val (r - 4503599627370496) := by
  rw [← val_dbl]
  unfold dbl
  rw [if_neg (by omega)]
  congr 1; omega

theorem M_two : M 4611686018427387904 = p2 52 := by decide
theorem E_two : E 4611686018427387904 = 1023 := by decide
theorem val_two : val 4611686018427387904 = p2 1075 := by rw [val_p2, M_two, E_two, ← p2_add]
theorem M_one : M 4607182418800017408 = p2 52 := by decide
theorem E_one : E 4607182418800017408 = 1022 := by decide
theorem val_one : val 4607182418800017408 = p2 1074 := by rw [val_p2, M_one, E_one, ← p2_add]
theorem M_big : M 4841369599423283200 = p2 52 := by decide
theorem E_big : E 4841369599423283200 = 1074 := by decide
theorem val_big : val 4841369599423283200 = p2 1126 := by rw [val_p2, M_big, E_big, ← p2_add]

theorem mul_two {s : Bool} {r : Nat} (h : dbl r < 9218868437227405312) : double.mul (W s r) (W false 4611686018427387904) = some (W s (dbl r)) := by
  have hr : r < 9218868437227405312 := by unfold dbl at h; split at h <;> omega
  have := mul_exact (s := s) (t := false) hr (by omega : 4611686018427387904 < 9218868437227405312) h (by rw [val_dbl, val_two, p2_succ 1074]; generalize p2 1074 = z; ac_rfl)
  rw [this, Bool.xor_false]

theorem div_two {s : Bool} {r p : Nat} (hr : r < 9218868437227405312) (h : val r = 2 * val p) : double.div (W s r) (W false 4611686018427387904) = some (W s p) := by
  have hp : p < 9218868437227405312 := by
    refine Nat.lt_of_le_of_lt ?_ hr
    rcases Nat.lt_or_ge r p with c | c
    · have := val_lt c; omega
    · exact c
  have := div_exact (s := s) (t := false) hr (by omega : 4611686018427387904 < 9218868437227405312) hp M_two (by rw [h, E_two, ← p2_add, show 52 + 1023 = 1074 + 1 by rfl, p2_succ 1074]; generalize p2 1074 = z; ac_rfl)
  rw [this, Bool.xor_false]

/-- Half of a small number is rounded; it is never the number again. -/
theorem half_small {s : Bool} {r : Nat} (h0 : 0 < r) (h : r < 9007199254740992) : ∃ p, p < r ∧ double.div (W s r) (W false 4611686018427387904) = some (W s p) := by
  refine ⟨r / 2 + (r % 2 == 1 && r / 2 % 2 == 1).toNat, ?_, ?_⟩
  · by_cases c : r % 2 == 1 && r / 2 % 2 == 1
    · rw [c]; simp at c; simp; omega
    · rw [Bool.not_eq_true] at c; rw [c]; simp; omega
  have hr : r < 9218868437227405312 := by omega
  unfold Format.div
  rw [read_num hr, read_num (by omega : 4611686018427387904 < 9218868437227405312)]
  have hM : M 4611686018427387904 = 2 ^ 52 := by decide
  have hn : ¬ (2 ^ 52 = 0) := by decide
  have hMr : M r = r := by unfold M; split <;> omega
  simp only [Datum.quotient, hM, if_neg hn, Option.map_some, Format.write, Option.some.injEq, frac_eq, Nat.log2_two_pow, Nat.shiftLeft_eq, E_small h, E_two, hMr, Bool.xor_false]
  have hl : r.log2 ≤ 52 := by
    have : r.log2 < 53 := (Nat.log2_lt (by omega)).2 (by simpa using h)
    omega
  obtain ⟨k, hk⟩ : ∃ k, 52 + 2 + 52 - r.log2 = 52 + (k + 1) := ⟨53 - r.log2, by omega⟩
  rw [hk, Nat.pow_add, Nat.mul_left_comm, Nat.mul_div_cancel_left _ (by decide : 0 < 2 ^ 52), Nat.mul_mod_right]
  simp only [bne_self_eq_false, Bool.toNat_false, Nat.add_zero]
  rw [show 2 * (r * 2 ^ (k + 1)) = r * 2 ^ (k + 2) by rw [Nat.pow_succ 2 (k + 1)]; ac_rfl]
  unfold Format.nearest
  have hmz : r * 2 ^ (k + 2) ≠ 0 := Nat.ne_of_gt (Nat.mul_pos h0 (Nat.two_pow_pos _))
  rw [if_neg hmz]
  simp only [least_eq, frac_eq, binade_eq, inf_eq, log2_mul_pow h0]
  have hplace : (-1074 + ((0 : Nat) : Int) - (-1074 + ((1023 : Nat) : Int)) - ((52 + (k + 1) : Nat) : Int) - 1) = -1074 - ((k + 3 : Nat) : Int) := by omega
  rw [hplace]
  have hlast : max (-1074 - ((k + 3 : Nat) : Int) + ((r.log2 + (k + 2) : Nat) : Int) - ((52 : Nat) : Int)) (-1074) = -1074 := by omega
  rw [hlast]
  have e1 : (-1074 - ((k + 3 : Nat) : Int) - -1074).toNat = 0 := by omega
  have e2 : (-1074 - (-1074 - ((k + 3 : Nat) : Int))).toNat = k + 3 := by omega
  rw [e1, e2, Nat.shiftLeft_eq, Nat.pow_zero, Nat.mul_one]
  have hcut : Toward.even.cut s (r * 2 ^ (k + 2)) (k + 3) = r / 2 + (r % 2 == 1 && r / 2 % 2 == 1).toNat := by
    unfold Toward.cut
    have hmin : min (k + 3) ((r * 2 ^ (k + 2)).log2 + 2) = k + 3 := by rw [log2_mul_pow h0]; omega
    have p2 := Nat.two_pow_pos (k + 2)
    have hdiv : r * 2 ^ (k + 2) / 2 ^ (k + 3) = r / 2 := by
      rw [show 2 ^ (k + 3) = 2 * 2 ^ (k + 2) by rw [Nat.pow_succ 2 (k + 2), Nat.mul_comm]]
      exact Nat.mul_div_mul_right _ _ p2
    have hmod : r * 2 ^ (k + 2) % 2 ^ (k + 3) = (r % 2) * 2 ^ (k + 2) := by
      rw [show 2 ^ (k + 3) = 2 * 2 ^ (k + 2) by rw [Nat.pow_succ 2 (k + 2), Nat.mul_comm]]
      exact Nat.mul_mod_mul_right _ _ _
    simp only [hmin, Nat.shiftLeft_eq, Nat.one_mul, hdiv, hmod]
    have e3 : 2 ^ (k + 3) = 2 * 2 ^ (k + 2) := by rw [Nat.pow_succ 2 (k + 2), Nat.mul_comm]
    rw [e3]
    generalize 2 ^ (k + 2) = z at *
    rcases Nat.mod_two_eq_zero_or_one r with c | c
    · rw [c]; simp; omega
    · rw [c]; simp
  rw [hcut, word_eq]
  have e5 : (-1074 - -1074 : Int).toNat * 4503599627370496 = 0 := by decide
  rw [e5, Nat.zero_add, Nat.min_eq_left]
  have : (r % 2 == 1 && r / 2 % 2 == 1).toNat ≤ 1 := Bool.toNat_le _
  omega

theorem half_ne {s : Bool} {r : Nat} (h0 : 0 < r) (hr : r < 9218868437227405312) : ∃ p, p < r ∧ double.div (W s r) (W false 4611686018427387904) = some (W s p) := by
  rcases Nat.lt_or_ge r 9007199254740992 with h | h
  · exact half_small h0 h
  · exact ⟨r - 4503599627370496, by omega, div_two hr (val_half h)⟩
theorem half_inf {s : Bool} : double.div (W s 9218868437227405312) (W false 4611686018427387904) = some (W s 9218868437227405312) := by
  cases s <;> decide

/-- A number that is whole, as an integer. -/
theorem toInt_exact {s : Bool} {r t : Nat} (hr : r < 9218868437227405312) (h : val r = t * p2 1074) : (double.read (W s r)).toInt .zero = some (sg s t) := by
  rw [read_num hr]
  unfold Datum.toInt
  simp only [Datum.integral, signed_sg, Nat.pow_zero, Nat.mul_one, Option.some.injEq]
  congr 1
  rw [Nat.shiftLeft_eq]
  unfold Toward.cut
  rcases Nat.le_total 1074 (E r) with c | c
  · have e1 : (-1074 + (E r : Int)).toNat = E r - 1074 := by omega
    have e2 : (-(-1074 + (E r : Int))).toNat = 0 := by omega
    rw [e1, e2]
    simp only [Nat.zero_min, Nat.shiftLeft_eq, Nat.pow_zero, Nat.mul_one, Nat.div_one, Bool.toNat_false, Nat.add_zero]
    rw [val_p2, show E r = (E r - 1074) + 1074 by omega, p2_add, ← Nat.mul_assoc] at h
    have h2 := Nat.eq_of_mul_eq_mul_right (p2_pos _) h
    exact h2
  · have e1 : (-1074 + (E r : Int)).toNat = 0 := by omega
    have e2 : (-(-1074 + (E r : Int))).toNat = 1074 - E r := by omega
    rw [e1, e2]
    have key : M r = t * 2 ^ (1074 - E r) := by
      unfold val at h
      rw [show p2 1074 = p2 (1074 - E r) * p2 (E r) by rw [← p2_add]; congr 1; omega, ← p2_eq, ← p2_eq, ← Nat.mul_assoc] at h
      exact Nat.eq_of_mul_eq_mul_right (Nat.two_pow_pos _) h
    rw [key]
    simp only [Nat.shiftLeft_eq, Nat.pow_zero, Nat.mul_one, Nat.one_mul, Bool.toNat_false, Nat.add_zero]
    rcases Nat.eq_zero_or_pos t with h0 | h0
    · subst h0; simp
    · rw [Nat.min_eq_left (by rw [log2_mul_pow h0]; omega), Nat.mul_div_cancel _ (Nat.two_pow_pos _)]

/-- Every number of at most 53 digits is some word's. -/
theorem rep (t : Nat) (ht : t < 9007199254740992) : ∀ k, ∃ r, val r = t * 2 ^ k
  | 0 => ⟨t, by rw [val_small ht, Nat.pow_zero, Nat.mul_one]⟩
  | k + 1 => by
    obtain ⟨r, hr⟩ := rep t ht k
    exact ⟨dbl r, by rw [val_dbl, hr, Nat.pow_succ]; ac_rfl⟩
theorem val_inf : val 9218868437227405312 = p2 2098 := by
  rw [val_p2, show M 9218868437227405312 = p2 52 by decide, show E 9218868437227405312 = 2046 by decide, ← p2_add]
theorem fin_of_val {r : Nat} (h : val r < p2 2098) : r < 9218868437227405312 := by
  rw [← val_inf] at h; exact val_lt_iff.1 h

/-! In the walk's own words. -/
theorem ord_self_num {s : Bool} {r : Nat} (h : r ≤ 9218868437227405312) : double.order (W s r) (W s r) = some .eq := by
  rcases Nat.lt_or_eq_of_le h with h | h
  · rw [order_num h h, Int.compare_eq_eq.2 rfl]
  · subst h; cases s <;> decide
theorem nan_read {s : Bool} {r : Nat} (h : 9218868437227405312 < r) (hr : r < 9223372036854775808) : ∃ s' t, double.read (W s r) = .nan s' t := ⟨_, _, read_nan h hr⟩
theorem ord_self_nan {s : Bool} {r : Nat} (h : 9218868437227405312 < r) (hr : r < 9223372036854775808) : double.order (W s r) (W s r) = none :=
  order_nan_left (nan_read h hr)

theorem sg_val_zero (s : Bool) {r : Nat} (h : 0 < r) : compare (sg s (val r)) (sg false (val 0)) = if s then .lt else .gt := by
  have := val_pos h
  unfold sg
  cases s
  · simp only [Bool.false_eq_true, if_false]; exact Int.compare_eq_gt.2 (by rw [val_zero]; omega)
  · simp only [if_true, Bool.false_eq_true, if_false]; exact Int.compare_eq_lt.2 (by rw [val_zero]; omega)
theorem ord_zero {s : Bool} {r : Nat} (h0 : 0 < r) (h : r ≤ 9218868437227405312) : double.order (W s r) 0 = some (if s then .lt else .gt) := by
  rcases Nat.lt_or_eq_of_le h with h | h
  · have := order_num (s := s) (t := false) h (by omega : 0 < 9218868437227405312)
    rw [sg_val_zero s h0] at this
    exact this
  · subst h; cases s <;> decide
theorem ord_zero_zero {s : Bool} : double.order (W s 0) 0 = some .eq := by cases s <;> decide
theorem one_over_zero {s : Bool} : double.div 4607182418800017408 (W s 0) = some (W s 9218868437227405312) := by cases s <;> decide

theorem sg_inj {s t : Bool} {a b : Nat} (h : sg s a = sg t b) : a = b ∧ (s = t ∨ a = 0) := by
  unfold sg at h
  cases s <;> cases t <;> simp only [if_true, Bool.false_eq_true, if_false] at h
  · exact ⟨by omega, .inl rfl⟩
  · exact ⟨by omega, .inr (by omega)⟩
  · exact ⟨by omega, .inr (by omega)⟩
  · exact ⟨by omega, .inl rfl⟩

/-- Equal by order and of one sign: the same word; and back. -/
theorem ord_eq_iff {s t : Bool} {r q : Nat} (hr : r ≤ 9218868437227405312) (hq : q ≤ 9218868437227405312) :
    (double.order (W s r) (W t q) == some .eq) = decide (r = q ∧ (s = t ∨ r = 0)) := by
  rcases Nat.lt_or_eq_of_le hr with h1 | h1
  · rcases Nat.lt_or_eq_of_le hq with h2 | h2
    · rw [order_num h1 h2, Bool.eq_iff_iff]
      simp only [beq_iff_eq, Option.some.injEq, decide_eq_true_eq, Int.compare_eq_eq]
      constructor
      · intro h
        obtain ⟨a, b⟩ := sg_inj h
        have := val_inj a
        refine ⟨this, ?_⟩
        rcases b with b | b
        · exact .inl b
        · exact .inr (val_inj (by rw [b, val_zero]))
      · rintro ⟨rfl, h | h⟩
        · rw [h]
        · subst h; rw [val_zero]; cases s <;> cases t <;> rfl
    · subst h2
      rw [Format.order, read_num h1, read_inf]
      have : ¬ (r = 9218868437227405312 ∧ (s = t ∨ r = 0)) := by omega
      rw [decide_eq_false this]
      cases t <;> rfl
  · subst h1
    rcases Nat.lt_or_eq_of_le hq with h2 | h2
    · rw [Format.order, read_num h2, read_inf]
      have : ¬ (9218868437227405312 = q ∧ (s = t ∨ 9218868437227405312 = 0)) := by omega
      rw [decide_eq_false this]
      cases s <;> rfl
    · subst h2
      rw [Format.order, read_inf, read_inf]
      cases s <;> cases t <;> decide
end Go.Proofs.Ytcphabjekfihnaa.Flt

namespace Go.Proofs.Ytcphabjekfihnaa
open Go.RowKit Flt

theorem call43 (b : Nat) (w : World) : (callFunc 67 #[.float .f64 b]).run Try.prog w = .ok (.value (.int .u64 b)) w := by
  rw [run_callFunc_extern (e := Extern.MathFloatBits.float64bits) Try.func67 (by kernel_rfl) (by kernel_rfl) (by kernel_rfl) (by kernel_rfl)]
  rfl
theorem call44 (b : Int) (w : World) : (callFunc 65 #[.int .u64 b]).run Try.prog w = .ok (.value (.float .f64 b.toNat)) w := by
  rw [run_callFunc_extern (e := Extern.MathFloatBits.float64frombits) Try.func65 (by kernel_rfl) (by kernel_rfl) (by kernel_rfl) (by kernel_rfl)]
  rfl

set_option maxHeartbeats 400000 in
theorem l1nan_any (x : Nat) (w : World) :
    Calls Try.prog 69 #[.float .f64 x] w fun e w' => e = .returned (.bool (FloatKind.f64.format.order x x != some .eq)) ∧ w' = w := by
  go_enter Try.func69, Try.ntmps69
  go_wp2
  go_ret
  exact ⟨rfl, rfl⟩

set_option maxHeartbeats 400000 in
theorem isNaN_any (x : Nat) (w : World) :
    Calls Try.prog 66 #[.float .f64 x] w fun e w' => e = .returned (.bool (FloatKind.f64.format.order x x != some .eq)) ∧ w' = w := by
  go_enter Try.func66, Try.ntmps66
  go_wp2
  go_ret
  exact ⟨rfl, rfl⟩

set_option maxHeartbeats 400000 in
theorem implBits_any (x : Nat) (w : World) (h : (FloatKind.f64.format.order x x != some .eq) = false):
    Calls Try.prog 17 #[.float .f64 x] w fun e w' => e = .returned (.int .u64 x) ∧ w' = w := by
  have hc := call43
  go_enter Try.func17, Try.ntmps17
  go_wp2
  go_ret
  exact ⟨rfl, rfl⟩
set_option maxHeartbeats 400000 in
theorem implBits_nan (x : Nat) (w : World) (h : (FloatKind.f64.format.order x x != some .eq) = true):
    Calls Try.prog 17 #[.float .f64 x] w fun e w' => e = .returned (.int .u64 9221120237041090560) ∧ w' = w := by
  go_enter Try.func17, Try.ntmps17
  go_wp2
  go_ret
  exact ⟨rfl, rfl⟩

theorem isn_num {s : Bool} {r : Nat} (h : r ≤ 9218868437227405312) : (FloatKind.f64.format.order (W s r) (W s r) != some .eq) = false := by
  rw [show FloatKind.f64.format.order (W s r) (W s r) = some .eq from ord_self_num h]; rfl
theorem isn_nan {s : Bool} {r : Nat} (h : 9218868437227405312 < r) (hr : r < 9223372036854775808) : (FloatKind.f64.format.order (W s r) (W s r) != some .eq) = true := by
  rw [show FloatKind.f64.format.order (W s r) (W s r) = none from ord_self_nan h hr]; rfl

set_option maxHeartbeats 400000 in
theorem l1minus_any (s : Bool) (r : Nat) (w : World) (h : r ≤ 9218868437227405312) :
    Calls Try.prog 70 #[.float .f64 (W s r)] w fun e w' => e = .returned (.bool s) ∧ w' = w := by
  by_cases h0 : r = 0
  · subst h0
    have h1 : FloatKind.f64.format.order (W s 0) 0 = some .eq := ord_zero_zero
    have h2 := fun w => run_float_arith (P := Try.prog) w .quo 23 .f64 4607182418800017408 (W s 0) (W s 9218868437227405312) one_over_zero
    have h3 : FloatKind.f64.format.order (W s 9218868437227405312) 0 = some (if s then .lt else .gt) := ord_zero (by omega) (by omega)
    cases s
    all_goals
      go_enter Try.func70, Try.ntmps70
      go_wp2
      go_ret
      exact ⟨rfl, rfl⟩
  · have h3 : FloatKind.f64.format.order (W s r) 0 = some (if s then .lt else .gt) := ord_zero (by omega) h
    cases s
    all_goals
      go_enter Try.func70, Try.ntmps70
      go_wp2
      go_ret
      exact ⟨rfl, rfl⟩

/-- What FloatBits answers. -/
def fb (x : Nat) : Nat := if FloatKind.f64.format.order x x != some .eq then 9221120237041090560 else x
theorem implBits (x : Nat) (w : World) :
    Calls Try.prog 17 #[.float .f64 x] w fun e w' => e = .returned (.int .u64 (fb x : Nat)) ∧ w' = w := by
  unfold fb
  cases h : (FloatKind.f64.format.order x x != some .eq)
  · exact implBits_any x w h
  · exact implBits_nan x w h

set_option maxHeartbeats 400000 in
theorem implSame (x y : Nat) (w : World) :
    Calls Try.prog 19 #[.float .f64 x, .float .f64 y] w fun e w' => e = .returned (.bool ((fb x : Int) == (fb y : Int))) ∧ w' = w := by
  go_enter Try.func19, Try.ntmps19
  go_wp2_with fail
  refine (implBits _ _).mono ?_
  rintro e w' ⟨rfl, rfl⟩
  go_wp2_with fail
  refine (implBits _ _).mono ?_
  rintro e w' ⟨rfl, rfl⟩
  go_wp2
  go_ret
  exact ⟨rfl, rfl⟩

/-- What SameFloat answers. -/
theorem fb_num {s : Bool} {r : Nat} (h : r ≤ 9218868437227405312) : fb (W s r) = W s r := by unfold fb; rw [isn_num h]; rfl
theorem fb_nan {s : Bool} {r : Nat} (h : 9218868437227405312 < r) (hr : r < 9223372036854775808) : fb (W s r) = 9221120237041090560 := by unfold fb; rw [isn_nan h hr]; rfl

theorem W_beq {s t : Bool} {r q : Nat} (hr : r < 9223372036854775808) (hq : q < 9223372036854775808) : (((W s r : Nat) : Int) == ((W t q : Nat) : Int)) = decide (r = q ∧ s = t) := by
  rw [Bool.eq_iff_iff]
  simp only [beq_iff_eq, decide_eq_true_eq]
  constructor
  · intro h
    have h' : W s r = W t q := by omega
    obtain ⟨a, b⟩ := W_inj hr hq h'
    exact ⟨b, a⟩
  · rintro ⟨rfl, rfl⟩; rfl
theorem W_ne_nan {s : Bool} {r : Nat} (hr : r ≤ 9218868437227405312) : (((W s r : Nat) : Int) == 9221120237041090560) = false ∧ ((9221120237041090560 : Int) == ((W s r : Nat) : Int)) = false := by
  have : W s r ≠ 9221120237041090560 := by unfold W; split <;> omega
  exact ⟨beq_eq_false_iff_ne.2 (by omega), beq_eq_false_iff_ne.2 (by omega)⟩

end Go.Proofs.Ytcphabjekfihnaa
