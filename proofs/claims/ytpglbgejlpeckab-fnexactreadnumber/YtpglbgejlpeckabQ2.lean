import Derived.Test.YtpglbgejlpeckabQ1
import Derived.Test.YtpglbgejlpeckabC
namespace Go.Proofs.Ytpglbgejlpeckab
open Go.RowKit Flt

/-- A digit. -/
def dig (c : Int) : Bool := decide (48 ≤ c) && decide (c ≤ 57)
theorem dig_true {c : Int} (h : dig c = true) : 48 ≤ c ∧ c ≤ 57 := by simp [dig] at h; exact h
theorem dig_false {c : Int} (h : dig c = false) : ¬ (48 ≤ c ∧ c ≤ 57) := by simp [dig] at h; omega
theorem dig_46 : dig 46 = false := by decide

/-- The form of a number, with its point at p, or -1 with none. -/
structure GoodAt (xs : List Int) (p : Int) : Prop where
  pos : 0 < xs.length
  point : ∀ i, i < xs.length → (xs.getD i 0 = 46 ↔ (i : Int) = p)
  digit : ∀ i, i < xs.length → xs.getD i 0 ≠ 46 → dig (xs.getD i 0) = true
  place : p = -1 ∨ (0 < p ∧ p + 1 < xs.length)
def Good (xs : List Int) : Prop := ∃ p, GoodAt xs p

/-- n, d and whether the point was met, after some bytes. -/
def nst (s : Int × Int × Bool) (c : Int) : Int × Int × Bool := if c = 46 then (s.1, s.2.1, true) else (s.1 * 10 + (c - 48), if s.2.2 then s.2.1 * 10 else s.2.1, s.2.2)
def nds (xs : List Int) : Int × Int × Bool := xs.foldl nst (0, 1, false)

theorem take_snoc (xs : List Int) (k : Nat) (hk : k < xs.length) : xs.take (k + 1) = xs.take k ++ [xs.getD k 0] := by
  rw [List.take_succ_eq_append_getElem hk, List.getD_eq_getElem?_getD, List.getElem?_eq_getElem hk]; rfl
theorem nds_snoc (xs : List Int) (k : Nat) (hk : k < xs.length) : nds (xs.take (k + 1)) = nst (nds (xs.take k)) (xs.getD k 0) := by
  rw [take_snoc xs k hk, nds, List.foldl_append]; rfl
theorem cnt_snoc (q : Int → Bool) (xs : List Int) (k : Nat) (hk : k < xs.length) : (xs.take (k + 1)).countP q = (xs.take k).countP q + if q (xs.getD k 0) then 1 else 0 := by
  rw [take_snoc xs k hk, List.countP_append]
  simp [List.countP_cons]

theorem nds_bound (xs : List Int) (h : ∀ i, i < xs.length → xs.getD i 0 ≠ 46 → dig (xs.getD i 0) = true) : ∀ k, k ≤ xs.length →
    0 ≤ (nds (xs.take k)).1 ∧ (nds (xs.take k)).1 < 10 ^ k ∧ 1 ≤ (nds (xs.take k)).2.1 ∧ (nds (xs.take k)).2.1 ≤ 10 ^ k
  | 0, _ => by simp [nds]
  | k + 1, hk => by
    obtain ⟨h1, h2, h3, h4⟩ := nds_bound xs h k (by omega)
    have hp : (10 : Int) ^ (k + 1) = 10 ^ k * 10 := by rw [Int.pow_succ]
    rw [nds_snoc xs k (by omega), hp]
    unfold nst
    by_cases c : xs.getD k 0 = 46
    · rw [if_pos c]
      exact ⟨h1, by simp only; omega, h3, by simp only; omega⟩
    · rw [if_neg c]
      have := dig_true (h k (by omega) c)
      refine ⟨by simp only; omega, by simp only; omega, ?_, ?_⟩
      · simp only; split <;> omega
      · simp only; split <;> omega
theorem pow16 {k : Nat} (h : k ≤ 16) : (10 : Int) ^ k ≤ 10000000000000000 := by
  have : (10 : Int) ^ k ≤ 10 ^ 16 := by
    have e : ((10 ^ k : Nat) : Int) ≤ ((10 ^ 16 : Nat) : Int) := Int.ofNat_le.2 (Nat.pow_le_pow_right (by decide) h)
    simpa using e
  simpa using this
theorem nds_small (xs : List Int) (h : ∀ i, i < xs.length → xs.getD i 0 ≠ 46 → dig (xs.getD i 0) = true) (k : Nat) (hk : k ≤ xs.length) (h16 : k ≤ 16) :
    0 ≤ (nds (xs.take k)).1 ∧ (nds (xs.take k)).1 ≤ 10000000000000000 ∧ 1 ≤ (nds (xs.take k)).2.1 ∧ (nds (xs.take k)).2.1 ≤ 10000000000000000 := by
  obtain ⟨h1, h2, h3, h4⟩ := nds_bound xs h k hk
  have := pow16 h16
  exact ⟨h1, by omega, h3, by omega⟩

theorem cnt_both (xs : List Int) (h : ∀ i, i < xs.length → xs.getD i 0 ≠ 46 → dig (xs.getD i 0) = true) : ∀ k, k ≤ xs.length →
    (xs.take k).countP dig + (xs.take k).countP (· == 46) = k
  | 0, _ => by simp
  | k + 1, hk => by
    have IH := cnt_both xs h k (by omega)
    rw [cnt_snoc _ xs k (by omega), cnt_snoc _ xs k (by omega)]
    by_cases c : xs.getD k 0 = 46
    · rw [c, dig_46]; simp; omega
    · rw [h k (by omega) c]
      have : (xs.getD k 0 == 46) = false := beq_eq_false_iff_ne.2 c
      rw [this]; simp; omega
theorem GoodAt.points {xs : List Int} {p : Int} (h : GoodAt xs p) : ∀ k, k ≤ xs.length → (xs.take k).countP (· == 46) = if 0 ≤ p ∧ p < k then 1 else 0
  | 0, _ => by rw [if_neg (by omega)]; simp
  | k + 1, hk => by
    rw [cnt_snoc _ xs k (by omega), h.points k (by omega)]
    by_cases c : xs.getD k 0 = 46
    · have := (h.point k (by omega)).1 c
      rw [c, if_neg (show ¬ (0 ≤ p ∧ p < (k : Int)) by omega), if_pos (show 0 ≤ p ∧ p < ((k + 1 : Nat) : Int) by omega)]; simp
    · have : ¬ (k : Int) = p := fun e => c ((h.point k (by omega)).2 e)
      have e : (xs.getD k 0 == 46) = false := beq_eq_false_iff_ne.2 c
      rw [e]
      by_cases q : 0 ≤ p ∧ p < k
      · rw [if_pos q, if_pos (show 0 ≤ p ∧ p < ((k + 1 : Nat) : Int) by omega)]; simp
      · rw [if_neg q, if_neg (show ¬ (0 ≤ p ∧ p < ((k + 1 : Nat) : Int)) by omega)]; simp
/-- At most one point: with at most 15 digits at most 16 bytes. -/
theorem GoodAt.short {xs : List Int} {p : Int} (h : GoodAt xs p) (hd : xs.countP dig ≤ 15) : xs.length ≤ 16 := by
  have h1 := cnt_both xs h.digit xs.length (Nat.le_refl _)
  have h2 := h.points xs.length (Nat.le_refl _)
  rw [List.take_of_length_le (Nat.le_refl _)] at h1 h2
  rw [h2] at h1
  split at h1 <;> omega
theorem GoodAt.behind {xs : List Int} {p : Int} (h : GoodAt xs p) : ∀ k, k ≤ xs.length → (nds (xs.take k)).2.2 = decide (0 ≤ p ∧ p < k)
  | 0, _ => by rw [decide_eq_false (by omega)]; rfl
  | k + 1, hk => by
    have IH := h.behind k (by omega)
    rw [nds_snoc xs k (by omega)]
    unfold nst
    by_cases c : xs.getD k 0 = 46
    · have := (h.point k (by omega)).1 c
      rw [if_pos c]
      exact (decide_eq_true (by omega)).symm
    · have : ¬ (k : Int) = p := fun e => c ((h.point k (by omega)).2 e)
      rw [if_neg c]
      simp only
      rw [IH]
      exact decide_eq_decide.2 (by omega)

/-- What ReadNumber answers. -/
def RN (xs : List Int) (f : Nat) (c : Int) : Prop :=
  (¬ Good xs ∧ f = 0 ∧ c = 2) ∨ (Good xs ∧ 15 < xs.countP dig ∧ f = 0 ∧ c = 5) ∨
  (Good xs ∧ xs.countP dig ≤ 15 ∧ f < 18446744073709551616 ∧ fb f = fb (cop .quo (floatOfInt .f64 (nds xs).1) (floatOfInt .f64 (nds xs).2.1)) ∧ c = 0)
theorem RN.same {xs : List Int} {f g : Nat} {c d : Int} (h : RN xs f c) (k : RN xs g d) : fb f = fb g ∧ c = d ∧ f < 18446744073709551616 ∧ g < 18446744073709551616 := by
  rcases h with ⟨h1, rfl, rfl⟩ | ⟨h1, h2, rfl, rfl⟩ | ⟨h1, h2, h3, h4, rfl⟩ <;> rcases k with ⟨k1, rfl, rfl⟩ | ⟨k1, k2, rfl, rfl⟩ | ⟨k1, k2, k3, k4, rfl⟩
  all_goals first
    | exact absurd k1 h1
    | exact absurd h1 k1
    | (exfalso; omega)
    | exact ⟨rfl, rfl, by decide, by decide⟩
    | exact ⟨h4.trans k4.symm, rfl, h3, k3⟩

/-- The model's first loop, in its middle: the point at p. -/
structure Mid (xs : List Int) (k : Nat) (p : Int) (dg : Int) : Prop where
  count : dg = ((xs.take k).countP dig : Nat)
  point : ∀ i, i < k → (xs.getD i 0 = 46 ↔ (i : Int) = p)
  digit : ∀ i, i < k → xs.getD i 0 ≠ 46 → dig (xs.getD i 0) = true
  place : p = -1 ∨ (0 ≤ p ∧ p < k)
theorem mid_start (xs : List Int) : Mid xs 0 (-1) 0 := ⟨rfl, fun i hi => by omega, fun i hi => by omega, .inl rfl⟩
theorem Mid.digitStep {xs : List Int} {k : Nat} {p dg : Int} (h : Mid xs k p dg) (hk : k < xs.length) (hd : dig (xs.getD k 0) = true) : Mid xs (k + 1) p (dg + 1) := by
  have hn : xs.getD k 0 ≠ 46 := fun e => by rw [e] at hd; cases hd
  refine ⟨?_, ?_, ?_, ?_⟩
  · rw [cnt_snoc _ xs k hk, hd, h.count]; simp
  · intro i hi
    by_cases e : i = k
    · subst e
      refine ⟨fun c => absurd c hn, fun c => ?_⟩
      rcases h.place with q | q <;> omega
    · exact h.point i (by omega)
  · intro i hi c
    by_cases e : i = k
    · subst e; exact hd
    · exact h.digit i (by omega) c
  · rcases h.place with q | q
    · exact .inl q
    · exact .inr (by omega)
theorem Mid.pointStep {xs : List Int} {k : Nat} {p dg : Int} (h : Mid xs k p dg) (hk : k < xs.length) (hd : xs.getD k 0 = 46) (hp : p < 0) : Mid xs (k + 1) k dg := by
  refine ⟨?_, ?_, ?_, ?_⟩
  · rw [cnt_snoc _ xs k hk, hd, dig_46, h.count]; simp
  · intro i hi
    by_cases e : i = k
    · subst e
      exact ⟨fun _ => rfl, fun _ => hd⟩
    · refine ⟨fun c => ?_, fun c => by omega⟩
      have := (h.point i (by omega)).1 c
      rcases h.place with q | q <;> omega
  · intro i hi c
    by_cases e : i = k
    · subst e; exact absurd hd c
    · exact h.digit i (by omega) c
  · exact .inr (by omega)
theorem Mid.bad {xs : List Int} {k : Nat} {p dg : Int} (h : Mid xs k p dg) (hk : k < xs.length) (hd : dig (xs.getD k 0) = false) (hb : xs.getD k 0 ≠ 46 ∨ 0 ≤ p) : ¬ Good xs := by
  rintro ⟨q, g⟩
  by_cases c : xs.getD k 0 = 46
  · rcases hb with hb | hb
    · exact hb c
    · have e1 := (g.point k hk).1 c
      rcases h.place with h0 | h0
      · omega
      · obtain ⟨m, rfl⟩ := Int.eq_ofNat_of_zero_le h0.1
        have h1 := (h.point m (by omega)).2 rfl
        have := (g.point m (by omega)).1 h1
        omega
  · have := g.digit k hk c
    rw [hd] at this; cases this
theorem Mid.good {xs : List Int} {p dg : Int} (h : Mid xs xs.length p dg) (h0 : 0 < xs.length) (h1 : p ≠ 0) (h2 : p ≠ (xs.length : Int) - 1) : GoodAt xs p :=
  ⟨h0, h.point, h.digit, by rcases h.place with q | q <;> omega⟩
theorem Mid.notGood {xs : List Int} {p dg : Int} (h : Mid xs xs.length p dg) (hb : xs.length = 0 ∨ p = 0 ∨ p = (xs.length : Int) - 1) (h0 : 0 < xs.length → 0 ≤ p) : ¬ Good xs := by
  rintro ⟨q, g⟩
  have hp := g.pos
  have := h0 hp
  obtain ⟨m, rfl⟩ := Int.eq_ofNat_of_zero_le this
  have hm : m < xs.length := by rcases h.place with q | q <;> omega
  have h1 := (h.point m hm).2 rfl
  have := (g.point m hm).1 h1
  rcases g.place with q | q <;> omega
end Go.Proofs.Ytpglbgejlpeckab
