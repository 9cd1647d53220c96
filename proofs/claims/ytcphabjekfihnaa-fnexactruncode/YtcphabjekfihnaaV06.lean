import Derived.Test.YtcphabjekfihnaaV05
namespace Go.Proofs.Ytcphabjekfihnaa
open Go.RowKit Flt
attribute [local go_sem] alloc_drewN setCell_drewN run_store_float

/-- The first n steps lie where they may. -/
def Lie (ss : List Ste) (n : Nat) : Prop := ∀ k, k < n → 0 ≤ (ss.getD k Ste.zero).dst ∧ (ss.getD k Ste.zero).dst ≤ 50000 ∧ 1 ≤ (ss.getD k Ste.zero).len ∧ (ss.getD k Ste.zero).len ≤ 1000
theorem wrote_false {ss : List Ste} {n : Nat} {c : Int} (hn : n ≤ ss.length) (h : ∀ k, k < n → ¬ ((ss.getD k Ste.zero).dst ≤ c ∧ c < (ss.getD k Ste.zero).dst + (ss.getD k Ste.zero).len)) : wroteB ss n c = false := by
  induction n with
  | zero => exact wrote_zero ss c
  | succ n ih =>
    rw [wrote_succ (by omega), ih (by omega) (fun k hk => h k (by omega)), decide_eq_false (h n (by omega))]; rfl

set_option maxRecDepth 100000 in
set_option maxHeartbeats 4000000 in
theorem l5wrote (w : World) (lo hi : Nat) (a1 a2 a3 : Option Addr) (n1 c1 n2 c2 n3 c3 : Nat) (pk : Int) (ss : List Ste) (f : TS w lo hi a2 n2 ss) (n : Nat) (hn : n ≤ n2) (hn2 : n2 ≤ 1048576) (hb : Lie ss n) (cell : Int) :
    Calls Try.prog 164 #[cagg a1 n1 c1 a2 n2 c2 a3 n3 c3 pk, .int .i64 (n : Int), .int .i64 cell] w fun e w' => e = .returned (.bool (wroteB ss n cell)) ∧ Kept 0 0 w w' := by
  have hK := kept_alloc 0 0 w (cbox a1 n1 c1 a2 n2 c2 a3 n3 c3 pk)
  have HB : Hid _ := c0_start w (.slice a1 n1 c1) (.slice a2 n2 c2) (.slice a3 n3 c3) (.int .i64 pk)
  have HF : Hid _ := f.keep hK (.inr (.inr (Nat.le_refl _)))
  have HL : Hid _ := hb
  have HN : Hid (ss.length = n2) := f.len
  have HK : Hid _ := hK
  clear hK f hb
  go_enter Try.func164, Try.ntmps164
  go_wp2_with fail
  generalize w.alloc (cbox a1 n1 c1 a2 n2 c2 a3 n3 c3 pk) = w1 at HB HK HF ⊢
  go_loopw [7] (fun i W => ∃ k : Nat, k ≤ n ∧ i = .int .i64 k ∧ Hid (∀ j, j < k → ¬ ((ss.getD j Ste.zero).dst ≤ cell ∧ cell < (ss.getD j Ste.zero).dst + (ss.getD j Ste.zero).len)) ∧ Hid (Kept 0 0 w1 W)) (fun i _ => n - (intOf i).toNat)
  case atStart => exact ⟨0, Nat.zero_le _, rfl, fun j hj => by omega, Kept.refl _ _ _⟩
  case round =>
    obtain ⟨k, hk, rfl, hA, hW⟩ := hrel
    obtain ⟨_, q0, q1, q2, q3⟩ := HB.out.keep hW.out
    by_cases hlt : k < n
    · rcases HF.out.at_ with z0 | ⟨ga, oa, ea, z1, z2, z3, z4⟩
      · omega
      have hat := (z4 k (by omega)).keep z3 hW.out (.inr (.inr (Nat.le_refl _)))
      have hl := HL.out k hlt
      have HA2 : Hid (¬ ((ss.getD k Ste.zero).dst ≤ cell ∧ cell < (ss.getD k Ste.zero).dst + (ss.getD k Ste.zero).len) → ∀ j, j < k + 1 → ¬ ((ss.getD j Ste.zero).dst ≤ cell ∧ cell < (ss.getD j Ste.zero).dst + (ss.getD j Ste.zero).len)) := fun h j hj => by
        by_cases e : j < k
        · exact hA.out j e
        · rw [show j = k by omega]; exact h
      have HT : Hid ((ss.getD k Ste.zero).dst ≤ cell ∧ cell < (ss.getD k Ste.zero).dst + (ss.getD k Ste.zero).len → wroteB ss n cell = true) := fun h => wrote_true hlt (by rw [HN.out]; exact hn) h
      subst ea
      clear z1 z2 z3 z4 hA
      generalize ss.getD k Ste.zero = s at hat hl HA2 HT
      obtain ⟨d0, d1, d2, d3, d4, d5, d6, d7⟩ := hat
      have hwr : IntKind.i64.wrap (s.dst + s.len) = s.dst + s.len := by rw [IntKind.wrap_i64]; omega
      have hkn : k < n2 := by omega
      by_cases u : s.dst ≤ cell
      · by_cases u2 : cell < s.dst + s.len
        · have R : Hid _ := HT.out ⟨u, u2⟩
          have R2 : Hid _ := Kept.trans HK.out hW.out
          clear HT HA2 hW hl
          go_wp2_with fail
          go_quiet (fail)
          go_wp2
          go_ret
          exact ⟨by rw [R.out]; rfl, Kept.trans R2.out (kept_drewN 0 0 _ _)⟩
        · have R : Hid _ := HA2.out (fun c => u2 c.2)
          have u2' : decide (cell < s.dst + s.len) = false := decide_eq_false u2
          clear HT HA2 hl
          go_wp2_with fail
          go_quiet (fail)
          go_wp2
          go_roundw
          case rel => exact ⟨k + 1, by omega, by go_num, R, Kept.trans hW.out (kept_drewN 0 0 _ _)⟩
          case measure => simp [intOf]; omega
      · have R : Hid _ := HA2.out (fun c => u c.1)
        have u' : decide (s.dst ≤ cell) = false := decide_eq_false u
        clear HT HA2 hl
        go_wp2_with fail
        go_quiet (fail)
        go_wp2
        go_roundw
        case rel => exact ⟨k + 1, by omega, by go_num, R, Kept.trans hW.out (kept_drewN 0 0 _ _)⟩
        case measure => simp [intOf]; omega
    · have R : Hid (wroteB ss n cell = false) := by
        have := hA.out
        rw [show k = n by omega] at this
        exact wrote_false (by rw [HN.out]; exact hn) this
      have R2 : Hid _ := Kept.trans HK.out hW.out
      clear hA hW
      go_wp2
      go_ret
      exact ⟨by rw [R.out]; rfl, R2.out⟩

theorem hold_out {ss : List Ste} {n : Nat} {peak off len : Int} (h : withB off len peak = false) : holdB ss n peak off len = false := by
  unfold holdB; rw [h]; rfl
set_option maxRecDepth 100000 in
set_option maxHeartbeats 4000000 in
theorem l5span_bad (w : World) (a1 a2 a3 : Option Addr) (n1 c1 n2 c2 n3 c3 : Nat) (pk : Int) (p0 : 0 ≤ pk) (p1 : pk ≤ 50000) (n : Nat) (off size : Int) (h : ¬ (1 ≤ size ∧ size ≤ 1000 ∧ 0 ≤ off ∧ off ≤ pk - size)) :
    Calls Try.prog 132 #[cagg a1 n1 c1 a2 n2 c2 a3 n3 c3 pk, .int .i64 (n : Int), .int .i64 off, .int .i64 size] w fun e w' => e = .returned (.bool false) ∧ Kept 0 0 w w' := by
  have hK := kept_alloc 0 0 w (cbox a1 n1 c1 a2 n2 c2 a3 n3 c3 pk)
  by_cases a0 : size < 1
  · go_enter Try.func132, Try.ntmps132
    go_wp2
    go_ret
    exact ⟨rfl, hK⟩
  · have b0 : decide (size < 1) = false := decide_eq_false a0
    by_cases a1 : 1000 < size
    · go_enter Try.func132, Try.ntmps132
      go_wp2
      go_ret
      exact ⟨rfl, hK⟩
    · have b1 : decide (1000 < size) = false := decide_eq_false a1
      by_cases a2 : off < 0
      · go_enter Try.func132, Try.ntmps132
        go_wp2
        go_ret
        exact ⟨rfl, hK⟩
      · have b2 : decide (off < 0) = false := decide_eq_false a2
        have a3 : pk - size < off := by omega
        have hwr : IntKind.i64.wrap (pk - size) = pk - size := by rw [IntKind.wrap_i64]; omega
        go_enter Try.func132, Try.ntmps132
        go_wp2
        go_ret
        exact ⟨rfl, hK⟩
set_option maxRecDepth 100000 in
set_option maxHeartbeats 4000000 in
theorem l5span_in (w : World) (lo hi : Nat) (a1 a2 a3 : Option Addr) (n1 c1 n2 c2 n3 c3 : Nat) (pk : Int) (p0 : 0 ≤ pk) (p1 : pk ≤ 50000) (ss : List Ste) (f : TS w lo hi a2 n2 ss) (n : Nat) (hn : n ≤ n2) (hn2 : n2 ≤ 1048576) (hb : Lie ss n) (off : Int) (size : Nat) (h1 : 1 ≤ size) (h2 : size ≤ 1000) (h3 : 0 ≤ off) (h4 : off ≤ pk - size) :
    Calls Try.prog 132 #[cagg a1 n1 c1 a2 n2 c2 a3 n3 c3 pk, .int .i64 (n : Int), .int .i64 off, .int .i64 (size : Int)] w fun e w' => e = .returned (.bool ((List.range size).all fun j => wroteB ss n (off + (j : Nat)))) ∧ Kept 0 0 w w' := by
  have hK := kept_alloc 0 0 w (cbox a1 n1 c1 a2 n2 c2 a3 n3 c3 pk)
  have HB : Hid _ := c0_start w (.slice a1 n1 c1) (.slice a2 n2 c2) (.slice a3 n3 c3) (.int .i64 pk)
  have HF : Hid _ := f.keep hK (.inr (.inr (Nat.le_refl _)))
  have HL : Hid _ := hb
  have HK : Hid _ := hK
  have hwr : IntKind.i64.wrap (pk - size) = pk - size := by rw [IntKind.wrap_i64]; omega
  have b0 : decide ((size : Int) < 1) = false := decide_eq_false (by omega)
  have b1 : decide (1000 < (size : Int)) = false := decide_eq_false (by omega)
  have b2 : decide (off < 0) = false := decide_eq_false (by omega)
  have b3 : decide (pk - size < off) = false := decide_eq_false (by omega)
  clear hK f hb
  go_enter Try.func132, Try.ntmps132
  go_wp2_with fail
  clear b0 b1 b2 b3 hwr
  generalize w.alloc (cbox a1 n1 c1 a2 n2 c2 a3 n3 c3 pk) = w1 at HB HK HF ⊢
  go_loopw [9] (fun i W => ∃ k : Nat, k ≤ size ∧ i = .int .i64 k ∧ Hid ((List.range k).all (fun j => wroteB ss n (off + (j : Nat))) = true) ∧ Hid (Kept 0 0 w1 W)) (fun i _ => size - (intOf i).toNat)
  case atStart => exact ⟨0, Nat.zero_le _, rfl, rfl, Kept.refl _ _ _⟩
  case round =>
    obtain ⟨k, hk, rfl, hA, hW⟩ := hrel
    obtain ⟨_, q0, q1, q2, q3⟩ := HB.out.keep hW.out
    by_cases hlt : k < size
    · have HX : Hid _ := l5wrote wr lo hi a1 a2 a3 n1 c1 n2 c2 n3 c3 pk ss (HF.out.keep hW.out (.inr (.inr (Nat.le_refl _)))) n hn hn2 HL.out (off + (k : Nat))
      have hwr : IntKind.i64.wrap (off + (k : Nat)) = off + (k : Nat) := by rw [IntKind.wrap_i64]; omega
      cases t : wroteB ss n (off + (k : Nat))
      · have R : Hid ((List.range size).all (fun j => wroteB ss n (off + (j : Nat))) = false) := range_bad (p := fun j => wroteB ss n (off + (j : Nat))) hlt t
        rw [t] at HX
        go_wp2_with fail
        refine Calls.mono HX.out ?_
        rintro e w2 ⟨rfl, hk2⟩
        have R2 : Hid _ := Kept.trans HK.out (Kept.trans hW.out hk2)
        clear hk2 HX hA hW q0 q1 q2 q3
        go_wp2
        go_ret
        exact ⟨by rw [R.out]; rfl, R2.out⟩
      · have R : Hid _ := range_snoc (p := fun j => wroteB ss n (off + (j : Nat))) hA.out t
        rw [t] at HX
        go_wp2_with fail
        refine Calls.mono HX.out ?_
        rintro e w2 ⟨rfl, hk2⟩
        have R2 : Hid _ := Kept.trans hW.out hk2
        clear hk2 HX hA hW q0 q1 q2 q3
        go_wp2
        go_roundw
        case rel => exact ⟨k + 1, by omega, by go_num, R, R2⟩
        case measure => simp [intOf]; omega
    · have R : Hid ((List.range size).all (fun j => wroteB ss n (off + (j : Nat))) = true) := by
        have := hA.out
        rw [show k = size by omega] at this
        exact this
      have R2 : Hid _ := Kept.trans HK.out hW.out
      clear hA hW
      go_wp2
      go_ret
      exact ⟨by rw [R.out]; rfl, R2.out⟩
theorem l5span (w : World) (lo hi : Nat) (a1 a2 a3 : Option Addr) (n1 c1 n2 c2 n3 c3 : Nat) (pk : Int) (p0 : 0 ≤ pk) (p1 : pk ≤ 50000) (ss : List Ste) (f : TS w lo hi a2 n2 ss) (n : Nat) (hn : n ≤ n2) (hn2 : n2 ≤ 1048576) (hb : Lie ss n) (off size : Int) :
    Calls Try.prog 132 #[cagg a1 n1 c1 a2 n2 c2 a3 n3 c3 pk, .int .i64 (n : Int), .int .i64 off, .int .i64 size] w fun e w' => e = .returned (.bool (lenB size && holdB ss n pk off size)) ∧ Kept 0 0 w w' := by
  by_cases h : 1 ≤ size ∧ size ≤ 1000 ∧ 0 ≤ off ∧ off ≤ pk - size
  · obtain ⟨h1, h2, h3, h4⟩ := h
    obtain ⟨m, rfl⟩ := Int.eq_ofNat_of_zero_le (by omega : 0 ≤ size)
    have e : (lenB (m : Int) && holdB ss n pk off (m : Int)) = ((List.range m).all fun j => wroteB ss n (off + (j : Nat))) := by
      unfold holdB withB
      rw [lenB_true h1 h2, decide_eq_true ⟨h3, h4⟩, Int.toNat_natCast]; rfl
    rw [e]
    exact l5span_in w lo hi a1 a2 a3 n1 c1 n2 c2 n3 c3 pk p0 p1 ss f n hn hn2 hb off m (by omega) (by omega) h3 h4
  · have e : (lenB size && holdB ss n pk off size) = false := by
      by_cases hl : 1 ≤ size ∧ size ≤ 1000
      · rw [hold_out (decide_eq_false (fun c => h ⟨hl.1, hl.2, c.1, c.2⟩)), Bool.and_false]
      · rw [lenB_false hl]; rfl
    rw [e]
    exact l5span_bad w a1 a2 a3 n1 c1 n2 c2 n3 c3 pk p0 p1 n off size h
end Go.Proofs.Ytcphabjekfihnaa
