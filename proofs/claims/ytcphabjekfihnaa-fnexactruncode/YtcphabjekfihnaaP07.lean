import Derived.Test.YtcphabjekfihnaaP01
import Derived.Test.YtcphabjekfihnaaP03
namespace Go.Proofs.Ytcphabjekfihnaa
open Go.RowKit Flt

set_option maxHeartbeats 400000 in
theorem over_any (x y : Nat) (w : World) : Calls Try.prog 74 #[.float .f64 x, .float .f64 y] w fun e w' => e = .returned (.float .f64 (fop .quo x y w)) ∧ w' = w.drewN (fnd .quo x y) := by
  have h1 := @run_fquo Try.prog
  have h2 := convff
  go_enter Try.func74, Try.ntmps74
  go_wp2
  go_ret
  exact ⟨rfl, rfl⟩
set_option maxHeartbeats 400000 in
theorem times_any (x y : Nat) (w : World) : Calls Try.prog 75 #[.float .f64 x, .float .f64 y] w fun e w' => e = .returned (.float .f64 (fop .mul x y w)) ∧ w' = w.drewN (fnd .mul x y) := by
  have h1 := @run_fmul Try.prog
  have h2 := convff
  go_enter Try.func75, Try.ntmps75
  go_wp2
  go_ret
  exact ⟨rfl, rfl⟩
set_option maxHeartbeats 400000 in
theorem plus_any (x y : Nat) (w : World) : Calls Try.prog 76 #[.float .f64 x, .float .f64 y] w fun e w' => e = .returned (.float .f64 (fop .add x y w)) ∧ w' = w.drewN (fnd .add x y) := by
  have h1 := @run_fadd Try.prog
  have h2 := convff
  go_enter Try.func76, Try.ntmps76
  go_wp2
  go_ret
  exact ⟨rfl, rfl⟩

/-- The series of 1.0, worked from the inside: n rounds done. -/
def cser (r : Nat) : Nat → Nat
  | 0 => 4607182418800017408
  | n + 1 => cop .add (cop .quo (cop .mul r (cser r n)) (floatOfInt .f64 (14 - (n : Int)))) 4607182418800017408
def csq (p : Nat) : Nat → Nat
  | 0 => p
  | n + 1 => cop .mul (csq p n) (csq p n)

theorem ser_step {r p q n : Nat} (k : Int) (w1 w2 w3 : World) (hk : k = 14 - (n : Int)) (h : fb p = fb (cser r n))
    (hq : q = fop .add (fop .quo (fop .mul r p w1) (floatOfInt .f64 k) w2) 4607182418800017408 w3) : fb q = fb (cser r (n + 1)) := by
  subst hk hq
  rw [fb_fop]
  unfold cser
  congr 1
  refine cop_congr .add ?_ rfl
  rw [fb_fop]
  congr 1
  refine cop_congr .quo ?_ rfl
  rw [fb_fop]
  congr 1
  exact cop_congr .mul rfl h

def SeriesSaid (r n : Nat) : Prop := ∀ (k : Int) (w : World), n ≤ 14 → k = 15 - (n : Int) →
    Calls Try.prog 72 #[.float .f64 r, .int .i64 k] w fun e w' => ∃ y, e = .returned (.float .f64 y) ∧ fb y = fb (cser r n) ∧ y < 18446744073709551616 ∧ ∃ m, w' = w.drewN m
set_option maxHeartbeats 400000 in
theorem series_zero (r : Nat) : SeriesSaid r 0 := by
  intro k w hn hk
  have hk' : (14 : Int) < k := by omega
  clear hk
  go_enter Try.func72, Try.ntmps72
  go_wp2
  go_ret
  exact ⟨_, rfl, rfl, by omega, 0, rfl⟩
set_option maxHeartbeats 400000 in
theorem series_succ (r n : Nat) (IH : SeriesSaid r n) : SeriesSaid r (n + 1) := by
  intro k w hn hk
  have hk1 : k ≤ 14 := by omega
  have hk2 : 1 ≤ k := by omega
  have H : Hid (k = 15 - ((n + 1 : Nat) : Int)) := hk
  clear hk
  have h1 := @run_fadd Try.prog
  have h2 := @run_fmul Try.prog
  have h3 := @run_fquo Try.prog
  go_enter Try.func72, Try.ntmps72
  go_wp2_with fail
  refine (IH _ _ (by omega) (by have := H.out; omega)).mono ?_
  rintro e w' ⟨y, rfl, hy, hlt, m, rfl⟩
  go_wp2
  go_ret
  exact ⟨_, rfl, ser_step k _ _ _ (by have := H.out; omega) hy rfl, fop_lt _ _ _ _, _, rfl⟩
theorem series (r : Nat) : ∀ n, SeriesSaid r n
  | 0 => series_zero r
  | n + 1 => series_succ r n (series r n)

/-- What ExpFloat answers, with one NaN for all. -/
def cexp (x : Nat) : Nat :=
  if FloatKind.f64.format.order x x != some .eq then x
  else if FloatKind.f64.format.order x 4652007308841189376 == some .gt then 9218868437227405312
  else if FloatKind.f64.format.order x 13875379345695965184 == some .lt then 0
  else csq (cser (cop .quo x 4652218415073722368) 14) 10

theorem cser_congr {r r' : Nat} (h : fb r = fb r') : ∀ n, fb (cser r n) = fb (cser r' n)
  | 0 => rfl
  | n + 1 => by
    unfold cser
    congr 1
    refine cop_congr .add ?_ rfl
    congr 1
    refine cop_congr .quo ?_ rfl
    congr 1
    exact cop_congr .mul h (cser_congr h n)
theorem csq_congr {r r' : Nat} (h : fb r = fb r') : ∀ n, fb (csq r n) = fb (csq r' n)
  | 0 => h
  | n + 1 => by
    unfold csq
    congr 1
    exact cop_congr .mul (csq_congr h n) (csq_congr h n)

theorem sq_step {c y q k : Nat} {w : World} (h : fb y = fb (csq c k)) (hq : q = fop .mul y y w) : fb q = fb (csq c (k + 1)) := by
  subst hq
  rw [fb_fop]
  unfold csq
  congr 1
  exact cop_congr .mul h h
set_option maxHeartbeats 1000000 in
theorem specExp (x : Nat) (w : World) (hx : x < 18446744073709551616) :
    Calls Try.prog 26 #[.float .f64 x] w fun e w' => ∃ y, e = .returned (.float .f64 y) ∧ fb y = fb (cexp x) ∧ y < 18446744073709551616 ∧ ∃ m, w' = w.drewN m := by
  unfold cexp
  cases h1 : (FloatKind.f64.format.order x x != some .eq)
  · cases h2 : (FloatKind.f64.format.order x 4652007308841189376 == some .gt)
    · cases h3 : (FloatKind.f64.format.order x 13875379345695965184 == some .lt)
      · simp only [Bool.false_eq_true, if_false]
        have hq : (binOp .quo 23 (.float .f64 x) (.float .f64 4652218415073722368)).run Try.prog w = .ok (.float .f64 (fop .quo x 4652218415073722368 w)) (w.drewN (fnd .quo x 4652218415073722368)) := run_fquo w 23 _ _
        have hs := fb_fop .quo x 4652218415073722368 w
        have hs' := cser_congr hs 14
        clear hs
        generalize fop .quo x 4652218415073722368 w = r at hq hs'
        generalize fnd .quo x 4652218415073722368 = m0 at hq
        generalize cser (cop .quo x 4652218415073722368) 14 = c at hs' ⊢
        go_enter Try.func26, Try.ntmps26
        go_wp2_with fail
        refine (l1nan_any _ _).mono ?_
        rintro e w' ⟨rfl, rfl⟩
        go_wp2_with fail
        refine (series _ 14 _ _ (by omega) (by omega)).mono ?_
        rintro e w' ⟨y, rfl, hy, hlt, m, rfl⟩
        have hy2 := hy.trans hs'
        clear hq hy hs' h1 h2 h3
        have h2 := @run_fmul Try.prog
        go_wp2_with fail
        go_loopw [4, 5] (fun p i W => ∃ k y' m', k ≤ 10 ∧ i = .int .i64 (k : Nat) ∧ p = .float .f64 y' ∧ fb y' = fb (csq c k) ∧ y' < 18446744073709551616 ∧ W = w'.drewN m') (fun _ i _ => 10 - (intOf i).toNat)
        case atStart => exact ⟨0, y, _, by omega, rfl, rfl, hy2, hlt, rfl⟩
        case round =>
          obtain ⟨k, y', m', hk, rfl, rfl, hf, hl, rfl⟩ := hrel
          by_cases hlt10 : k < 10
          · go_wp2
            go_roundw
            case rel => exact ⟨k + 1, _, _, by omega, by go_num, rfl, sq_step hf rfl, fop_lt _ _ _ _, rfl⟩
            case measure => simp [intOf]; omega
          · go_wp2
            go_ret
            exact ⟨_, rfl, by rw [hf, show k = 10 by omega], hl, _, rfl⟩
      · simp only [Bool.false_eq_true, if_false, if_true]
        go_enter Try.func26, Try.ntmps26
        go_wp2_with fail
        refine (l1nan_any _ _).mono ?_
        rintro e w' ⟨rfl, rfl⟩
        go_wp2
        go_ret
        exact ⟨_, rfl, rfl, by omega, 0, rfl⟩
    · simp only [Bool.false_eq_true, if_false, if_true]
      have h4 := one_quo_zero
      go_enter Try.func26, Try.ntmps26
      go_wp2_with fail
      refine (l1nan_any _ _).mono ?_
      rintro e w' ⟨rfl, rfl⟩
      go_wp2
      go_ret
      exact ⟨_, rfl, rfl, by omega, 0, rfl⟩
  · simp only [if_true]
    go_enter Try.func26, Try.ntmps26
    go_wp2_with fail
    refine (l1nan_any _ _).mono ?_
    rintro e w' ⟨rfl, rfl⟩
    go_wp2
    go_ret
    exact ⟨_, rfl, rfl, hx, 0, rfl⟩

theorem inf_any (w : World) : Calls Try.prog 73 #[.int .i64 1] w fun e w' => e = .returned (.float .f64 9218868437227405312) ∧ w' = w := by
  have hc := call44
  go_enter Try.func73, Try.ntmps73
  go_wp2
  go_ret
  exact ⟨rfl, rfl⟩

set_option maxHeartbeats 1000000 in
theorem implExp (x : Nat) (w : World) (hx : x < 18446744073709551616) :
    Calls Try.prog 27 #[.float .f64 x] w fun e w' => ∃ y, e = .returned (.float .f64 y) ∧ fb y = fb (cexp x) ∧ y < 18446744073709551616 ∧ ∃ m, w' = w.drewN m := by
  unfold cexp
  cases h1 : (FloatKind.f64.format.order x x != some .eq)
  · cases h2 : (FloatKind.f64.format.order x 4652007308841189376 == some .gt)
    · cases h3 : (FloatKind.f64.format.order x 13875379345695965184 == some .lt)
      · simp only [Bool.false_eq_true, if_false]
        have hs := fb_fop .quo x 4652218415073722368 w
        have hs' := cser_congr hs 14
        clear hs
        generalize cser (cop .quo x 4652218415073722368) 14 = c at hs' ⊢
        go_enter Try.func27, Try.ntmps27
        go_wp2_with fail
        refine (isNaN_any _ _).mono ?_
        rintro e w' ⟨rfl, rfl⟩
        go_wp2_with fail
        refine (over_any _ _ _).mono ?_
        rintro e W1 ⟨rfl, rfl⟩
        clear h1 h2 h3
        generalize fop .quo x 4652218415073722368 w' = r at hs' ⊢
        generalize fnd .quo x 4652218415073722368 = m0
        go_wp2_with fail
        go_loopw [4, 5] (fun p i W => ∃ k y' m', k ≤ 14 ∧ i = .int .i64 (14 - (k : Nat)) ∧ p = .float .f64 y' ∧ fb y' = fb (cser r k) ∧ y' < 18446744073709551616 ∧ W = w'.drewN m') (fun _ i _ => (intOf i).toNat)
        case atStart => exact ⟨0, _, _, by omega, rfl, rfl, rfl, by omega, rfl⟩
        case round =>
          obtain ⟨k, y', m', hk, rfl, rfl, hf, hl, rfl⟩ := hrel
          by_cases hlt : k < 14
          · go_wp2_with fail
            refine (times_any _ _ _).mono ?_
            rintro e W1 ⟨rfl, rfl⟩
            go_wp2_with fail
            refine (over_any _ _ _).mono ?_
            rintro e W1 ⟨rfl, rfl⟩
            go_wp2_with fail
            refine (plus_any _ _ _).mono ?_
            rintro e W1 ⟨rfl, rfl⟩
            go_wp2
            go_roundw
            case rel => first | exact ⟨k + 1, _, _, by omega, by go_num, rfl, ser_step (14 - (k : Int)) _ _ _ rfl hf rfl, fop_lt _ _ _ _, rfl⟩ | ((repeat apply Exists.intro); exact ⟨⟨k + 1, _, _, by omega, by go_num, rfl, ser_step (14 - (k : Int)) _ _ _ rfl hf rfl, fop_lt _ _ _ _, rfl⟩, rfl⟩)
            case measure => simp [intOf]; omega
          · obtain rfl : k = 14 := by omega
            have hc := hf.trans hs'
            clear hf hs'
            go_wp2_with fail
            go_loopw [4, 29] (fun p i W => ∃ k y' m', k ≤ 10 ∧ i = .int .i64 (k : Nat) ∧ p = .float .f64 y' ∧ fb y' = fb (csq c k) ∧ y' < 18446744073709551616 ∧ W = w'.drewN m') (fun _ i _ => 10 - (intOf i).toNat)
            case atStart => exact ⟨0, _, _, by omega, rfl, rfl, hc, hl, rfl⟩
            case round =>
              obtain ⟨k, y'', m'', hk, rfl, rfl, hf, hl, rfl⟩ := hrel
              by_cases hlt10 : k < 10
              · go_wp2_with fail
                refine (times_any _ _ _).mono ?_
                rintro e W1 ⟨rfl, rfl⟩
                go_wp2
                go_roundw
                case rel => first | exact ⟨k + 1, _, _, by omega, by go_num, rfl, sq_step hf rfl, fop_lt _ _ _ _, rfl⟩ | ((repeat apply Exists.intro); exact ⟨⟨k + 1, _, _, by omega, by go_num, rfl, sq_step hf rfl, fop_lt _ _ _ _, rfl⟩, rfl⟩)
                case measure => simp [intOf]; omega
              · go_wp2
                go_ret
                exact ⟨_, rfl, by rw [hf, show k = 10 by omega], hl, _, rfl⟩
      · simp only [Bool.false_eq_true, if_false, if_true]
        go_enter Try.func27, Try.ntmps27
        go_wp2_with fail
        refine (isNaN_any _ _).mono ?_
        rintro e w' ⟨rfl, rfl⟩
        go_wp2
        go_ret
        exact ⟨_, rfl, rfl, by omega, 0, rfl⟩
    · simp only [Bool.false_eq_true, if_false, if_true]
      go_enter Try.func27, Try.ntmps27
      go_wp2_with fail
      refine (isNaN_any _ _).mono ?_
      rintro e w' ⟨rfl, rfl⟩
      go_wp2_with fail
      refine (inf_any _).mono ?_
      rintro e w' ⟨rfl, rfl⟩
      go_wp2
      go_ret
      exact ⟨_, rfl, rfl, by omega, 0, rfl⟩
  · simp only [if_true]
    go_enter Try.func27, Try.ntmps27
    go_wp2_with fail
    refine (isNaN_any _ _).mono ?_
    rintro e w' ⟨rfl, rfl⟩
    go_wp2
    go_ret
    exact ⟨_, rfl, rfl, hx, 0, rfl⟩

set_option maxHeartbeats 1000000 in
theorem fnExp (x : Nat) (w : World) (hx : x < 18446744073709551616) :
    Calls Try.prog 7 #[.float .f64 x] w fun e w' => e = .returned (.bool true) ∧ Grown w w' := by
  have h2 := convff
  go_enter Try.func7, Try.ntmps7
  go_wp2_with fail
  refine (specExp _ _ hx).mono ?_
  rintro e w' ⟨y, rfl, hy, hl, m, rfl⟩
  go_wp2_with fail
  refine (implExp _ _ hx).mono ?_
  rintro e w' ⟨y', rfl, hy', hl', m', rfl⟩
  go_wp2_with fail
  refine (sameF _ _ _ hl' hl).mono ?_
  rintro e w' ⟨rfl, rfl⟩
  have e : ((fb y' : Int) == (fb y : Int)) = true := by rw [hy, hy']; exact beq_self_eq_true _
  rw [e]
  go_wp2
  go_ret
  exact ⟨rfl, grown_drewN _ _⟩
end Go.Proofs.Ytcphabjekfihnaa

namespace Go.Proofs.Ytcphabjekfihnaa
open Go.RowKit Flt
attribute [local go_sem] alloc_drewN setCell_drewN run_store_float

/-- Functions of floats by their number in the program: they answer c, up to the bits of a NaN. -/
def Fn1 (F : Nat) (c : Nat → Nat) : Prop := ∀ (x : Nat) (w : World), x < 18446744073709551616 →
  Calls Try.prog F #[.float .f64 x] w fun e w' => ∃ z, e = .returned (.float .f64 z) ∧ z < 18446744073709551616 ∧ fb z = fb (c x) ∧ Drawn w w'
def Fn2 (F : Nat) (c : Nat → Nat → Nat) : Prop := ∀ (x y : Nat) (w : World), x < 18446744073709551616 → y < 18446744073709551616 →
  Calls Try.prog F #[.float .f64 x, .float .f64 y] w fun e w' => ∃ z, e = .returned (.float .f64 z) ∧ z < 18446744073709551616 ∧ fb z = fb (c x y) ∧ Drawn w w'
def Fn3 (F : Nat) (c : Nat → Nat → Nat → Nat) : Prop := ∀ (x y u : Nat) (w : World), x < 18446744073709551616 → y < 18446744073709551616 → u < 18446744073709551616 →
  Calls Try.prog F #[.float .f64 x, .float .f64 y, .float .f64 u] w fun e w' => ∃ z, e = .returned (.float .f64 z) ∧ z < 18446744073709551616 ∧ fb z = fb (c x y u) ∧ Drawn w w'

/-- What a made list of floats comes to: a block of its own, element k the same as q k. -/
def Made (n : Nat) (q : Nat → Nat) (w : World) (e : Ending) (w' : World) : Prop :=
  ∃ zs : List Nat, e = .returned (.slice (some ⟨w.heap.size, 0, none⟩) n n) ∧ FR w' w.heap.size zs ∧ (∀ z ∈ zs, z < 18446744073709551616) ∧ zs.length = n ∧ (∀ k, k < n → fb (zs.getD k 0) = fb (q k)) ∧ Kept 0 0 w w'
/-- The same in the middle: the first k elements stand. -/
def Making (g n k : Nat) (q : Nat → Nat) (w W : World) : Prop :=
  ∃ zs : List Nat, FR W g zs ∧ (∀ z ∈ zs, z < 18446744073709551616) ∧ zs.length = n ∧ (∀ j, j < k → fb (zs.getD j 0) = fb (q j)) ∧ Kept 0 0 w W
theorem making_start (w : World) (n : Nat) (q : Nat → Nat) : Making w.heap.size n 0 q w (w.alloc (.cells (madeCells #[.float .f64 0] n) 23)) :=
  ⟨_, FR.made w n, by intro z hz; rw [List.eq_of_mem_replicate hz]; omega, by simp, fun j hj => by omega, kept_alloc 0 0 w _⟩
theorem Making.kept {g n k : Nat} {q : Nat → Nat} {w W : World} (h : Making g n k q w W) : Kept 0 0 w W := by
  obtain ⟨_, _, _, _, _, h⟩ := h; exact h
theorem Making.cell {g n k : Nat} {q : Nat → Nat} {w W : World} (h : Making g n k q w W) (hk : k < n) : ∃ v, W.cell? ⟨g, k, none⟩ = some v := by
  obtain ⟨zs, h1, _, h3, _, _⟩ := h; exact ⟨_, h1.cell k (by omega)⟩
theorem Making.free {g n k : Nat} {q : Nat → Nat} {w W : World} (h : Making g n k q w W) : W.frozen? ⟨g, k, none⟩ = false := by
  obtain ⟨zs, h1, _⟩ := h; exact h1.free k
theorem Making.drawn {g n k : Nat} {q : Nat → Nat} {w W W' : World} (h : Making g n k q w W) (d : Drawn W W') : Making g n k q w W' := by
  obtain ⟨zs, h1, h2, h3, h4, h5⟩ := h
  exact ⟨zs, h1.keep (d.kept 0 0) (.inr (.inr (Nat.le_refl _))), h2, h3, h4, h5.trans (d.kept 0 0)⟩
theorem Making.step {g n k : Nat} {q : Nat → Nat} {w W : World} (h : Making g n k q w W) (hg : w.heap.size ≤ g) {z : Nat} (hz : z < 18446744073709551616) (hq : fb z = fb (q k)) (hk : k < n) :
    Making g n (k + 1) q w (W.setCell ⟨g, k, none⟩ (.float .f64 z)) := by
  obtain ⟨zs, h1, h2, h3, h4, h5⟩ := h
  refine ⟨_, h1.set k z, ?_, by rw [List.length_set]; exact h3, ?_, h5.new (kept_setCell (lo := g) (hi := g + 1) W ⟨g, k, none⟩ _ (.inl ⟨Nat.le_refl _, Nat.lt_succ_self _⟩)) hg⟩
  · intro x hx
    rcases List.mem_or_eq_of_mem_set hx with c | c
    · exact h2 x c
    · rw [c]; exact hz
  · intro j hj
    rw [List.getD_eq_getElem?_getD, List.getElem?_set]
    by_cases e : k = j
    · subst e
      rw [if_pos rfl, if_pos (by omega)]
      exact hq
    · rw [if_neg e, ← List.getD_eq_getElem?_getD]
      exact h4 j (by omega)
theorem Making.done {n : Nat} {q : Nat → Nat} {w W : World} (h : Making w.heap.size n n q w W) : Made n q w (.returned (.slice (some ⟨w.heap.size, 0, none⟩) n n)) W := by
  obtain ⟨zs, h1, h2, h3, h4, h5⟩ := h
  exact ⟨zs, rfl, h1, h2, h3, h4, h5⟩
theorem kept_cell {w W : World} (h : Kept 0 0 w W) {g o : Nat} (hg : g < w.heap.size) {v : Value} (hc : w.cell? ⟨g, o, none⟩ = some v) : W.cell? ⟨g, o, none⟩ = some v := by
  rw [h.cell (p := ⟨g, o, none⟩) hg (by omega)]; exact hc
set_option maxRecDepth 100000 in
set_option maxHeartbeats 1000000 in
theorem each_plus (c : Nat → Nat → Nat) (hF : Fn2 76 c) (w : World) (n : Nat) (hn : n ≤ 1000) (g0 o0 c0 : Nat) (xs : List Nat) (b0 : g0 < w.heap.size) (l0 : ∀ x ∈ xs, x < 18446744073709551616) (k0 : ∀ k, k < n → w.cell? ⟨g0, o0 + k, none⟩ = some (.float .f64 (xs.getD k 0))) (g1 o1 c1 : Nat) (ys : List Nat) (b1 : g1 < w.heap.size) (l1 : ∀ x ∈ ys, x < 18446744073709551616) (k1 : ∀ k, k < n → w.cell? ⟨g1, o1 + k, none⟩ = some (.float .f64 (ys.getD k 0))) :
    Calls Try.prog 86 #[.slice (some ⟨g0, o0, none⟩) n c0, .slice (some ⟨g1, o1, none⟩) n c1, .func (.func 76) #[] #[]] w fun e w' => Made n (fun k => c (xs.getD k 0) (ys.getD k 0)) w e w' := by
  have hm := make_f n w (by omega)
  have hS := making_start w n (fun k => c (xs.getD k 0) (ys.getD k 0))
  generalize hw1 : w.alloc (.cells (madeCells #[.float .f64 0] n) 23) = w1 at hm hS
  clear hw1
  have C0 : Hid (∀ k, k < n → w.cell? ⟨g0, o0 + k, none⟩ = some (.float .f64 (xs.getD k 0))) := k0
  have L0 : Hid (∀ x ∈ xs, x < 18446744073709551616) := l0
  clear k0 l0
  have C1 : Hid (∀ k, k < n → w.cell? ⟨g1, o1 + k, none⟩ = some (.float .f64 (ys.getD k 0))) := k1
  have L1 : Hid (∀ x ∈ ys, x < 18446744073709551616) := l1
  clear k1 l1
  go_enter Try.func86, Try.ntmps86
  go_wp2_with fail
  clear hm
  go_loopw [8, 9, 15] (fun _ _ i W => ∃ k : Nat, k ≤ n ∧ i = .int .i64 k ∧ Making w.heap.size n k (fun k => c (xs.getD k 0) (ys.getD k 0)) w W) (fun _ _ i _ => n - (intOf i).toNat)
  case atStart => exact ⟨0, Nat.zero_le _, rfl, hS⟩
  case round =>
    obtain ⟨k, hk, rfl, hM⟩ := hrel
    clear hS
    by_cases hlt : k < n
    · obtain ⟨v0, m0⟩ := hM.cell hlt
      have m1 := hM.free
      have d0 := kept_cell hM.kept b0 (C0.out k hlt)
      have e0 : Hid _ := getD_lt L0.out k
      have d1 := kept_cell hM.kept b1 (C1.out k hlt)
      have e1 : Hid _ := getD_lt L1.out k
      have hq : Hid (∀ z, fb z = fb (c (xs.getD k 0) (ys.getD k 0)) → fb z = fb ((fun k => c (xs.getD k 0) (ys.getD k 0)) k)) := fun _ h => h
      generalize xs.getD k 0 = x at d0 e0 hq
      generalize ys.getD k 0 = y at d1 e1 hq
      go_wp2_with fail
      refine (hF _ _ _ e0.out e1.out).mono ?_
      rintro e w2 ⟨z, rfl, hz, hfz, hD⟩
      have hM2 := hM.drawn hD
      obtain ⟨v1, m2⟩ := hM2.cell hlt
      have m3 := hM2.free
      have R : Hid _ := hM2.step (Nat.le_refl _) hz (hq.out z hfz) hlt
      clear hM hM2 hD hfz
      go_wp2
      go_roundw
      case rel => exact ⟨k + 1, by omega, by go_num, R.out⟩
      case measure => simp [intOf]; omega
    · obtain rfl : k = n := by omega
      go_wp2
      go_ret
      exact hM.done

set_option maxRecDepth 100000 in
set_option maxHeartbeats 1000000 in
theorem each_minus (c : Nat → Nat → Nat) (hF : Fn2 87 c) (w : World) (n : Nat) (hn : n ≤ 1000) (g0 o0 c0 : Nat) (xs : List Nat) (b0 : g0 < w.heap.size) (l0 : ∀ x ∈ xs, x < 18446744073709551616) (k0 : ∀ k, k < n → w.cell? ⟨g0, o0 + k, none⟩ = some (.float .f64 (xs.getD k 0))) (g1 o1 c1 : Nat) (ys : List Nat) (b1 : g1 < w.heap.size) (l1 : ∀ x ∈ ys, x < 18446744073709551616) (k1 : ∀ k, k < n → w.cell? ⟨g1, o1 + k, none⟩ = some (.float .f64 (ys.getD k 0))) :
    Calls Try.prog 86 #[.slice (some ⟨g0, o0, none⟩) n c0, .slice (some ⟨g1, o1, none⟩) n c1, .func (.func 87) #[] #[]] w fun e w' => Made n (fun k => c (xs.getD k 0) (ys.getD k 0)) w e w' := by
  have hm := make_f n w (by omega)
  have hS := making_start w n (fun k => c (xs.getD k 0) (ys.getD k 0))
  generalize hw1 : w.alloc (.cells (madeCells #[.float .f64 0] n) 23) = w1 at hm hS
  clear hw1
  have C0 : Hid (∀ k, k < n → w.cell? ⟨g0, o0 + k, none⟩ = some (.float .f64 (xs.getD k 0))) := k0
  have L0 : Hid (∀ x ∈ xs, x < 18446744073709551616) := l0
  clear k0 l0
  have C1 : Hid (∀ k, k < n → w.cell? ⟨g1, o1 + k, none⟩ = some (.float .f64 (ys.getD k 0))) := k1
  have L1 : Hid (∀ x ∈ ys, x < 18446744073709551616) := l1
  clear k1 l1
  go_enter Try.func86, Try.ntmps86
  go_wp2_with fail
  clear hm
  go_loopw [8, 9, 15] (fun _ _ i W => ∃ k : Nat, k ≤ n ∧ i = .int .i64 k ∧ Making w.heap.size n k (fun k => c (xs.getD k 0) (ys.getD k 0)) w W) (fun _ _ i _ => n - (intOf i).toNat)
  case atStart => exact ⟨0, Nat.zero_le _, rfl, hS⟩
  case round =>
    obtain ⟨k, hk, rfl, hM⟩ := hrel
    clear hS
    by_cases hlt : k < n
    · obtain ⟨v0, m0⟩ := hM.cell hlt
      have m1 := hM.free
      have d0 := kept_cell hM.kept b0 (C0.out k hlt)
      have e0 : Hid _ := getD_lt L0.out k
      have d1 := kept_cell hM.kept b1 (C1.out k hlt)
      have e1 : Hid _ := getD_lt L1.out k
      have hq : Hid (∀ z, fb z = fb (c (xs.getD k 0) (ys.getD k 0)) → fb z = fb ((fun k => c (xs.getD k 0) (ys.getD k 0)) k)) := fun _ h => h
      generalize xs.getD k 0 = x at d0 e0 hq
      generalize ys.getD k 0 = y at d1 e1 hq
      go_wp2_with fail
      refine (hF _ _ _ e0.out e1.out).mono ?_
      rintro e w2 ⟨z, rfl, hz, hfz, hD⟩
      have hM2 := hM.drawn hD
      obtain ⟨v1, m2⟩ := hM2.cell hlt
      have m3 := hM2.free
      have R : Hid _ := hM2.step (Nat.le_refl _) hz (hq.out z hfz) hlt
      clear hM hM2 hD hfz
      go_wp2
      go_roundw
      case rel => exact ⟨k + 1, by omega, by go_num, R.out⟩
      case measure => simp [intOf]; omega
    · obtain rfl : k = n := by omega
      go_wp2
      go_ret
      exact hM.done

set_option maxRecDepth 100000 in
set_option maxHeartbeats 1000000 in
theorem each_times (c : Nat → Nat → Nat) (hF : Fn2 75 c) (w : World) (n : Nat) (hn : n ≤ 1000) (g0 o0 c0 : Nat) (xs : List Nat) (b0 : g0 < w.heap.size) (l0 : ∀ x ∈ xs, x < 18446744073709551616) (k0 : ∀ k, k < n → w.cell? ⟨g0, o0 + k, none⟩ = some (.float .f64 (xs.getD k 0))) (g1 o1 c1 : Nat) (ys : List Nat) (b1 : g1 < w.heap.size) (l1 : ∀ x ∈ ys, x < 18446744073709551616) (k1 : ∀ k, k < n → w.cell? ⟨g1, o1 + k, none⟩ = some (.float .f64 (ys.getD k 0))) :
    Calls Try.prog 86 #[.slice (some ⟨g0, o0, none⟩) n c0, .slice (some ⟨g1, o1, none⟩) n c1, .func (.func 75) #[] #[]] w fun e w' => Made n (fun k => c (xs.getD k 0) (ys.getD k 0)) w e w' := by
  have hm := make_f n w (by omega)
  have hS := making_start w n (fun k => c (xs.getD k 0) (ys.getD k 0))
  generalize hw1 : w.alloc (.cells (madeCells #[.float .f64 0] n) 23) = w1 at hm hS
  clear hw1
  have C0 : Hid (∀ k, k < n → w.cell? ⟨g0, o0 + k, none⟩ = some (.float .f64 (xs.getD k 0))) := k0
  have L0 : Hid (∀ x ∈ xs, x < 18446744073709551616) := l0
  clear k0 l0
  have C1 : Hid (∀ k, k < n → w.cell? ⟨g1, o1 + k, none⟩ = some (.float .f64 (ys.getD k 0))) := k1
  have L1 : Hid (∀ x ∈ ys, x < 18446744073709551616) := l1
  clear k1 l1
  go_enter Try.func86, Try.ntmps86
  go_wp2_with fail
  clear hm
  go_loopw [8, 9, 15] (fun _ _ i W => ∃ k : Nat, k ≤ n ∧ i = .int .i64 k ∧ Making w.heap.size n k (fun k => c (xs.getD k 0) (ys.getD k 0)) w W) (fun _ _ i _ => n - (intOf i).toNat)
  case atStart => exact ⟨0, Nat.zero_le _, rfl, hS⟩
  case round =>
    obtain ⟨k, hk, rfl, hM⟩ := hrel
    clear hS
    by_cases hlt : k < n
    · obtain ⟨v0, m0⟩ := hM.cell hlt
      have m1 := hM.free
      have d0 := kept_cell hM.kept b0 (C0.out k hlt)
      have e0 : Hid _ := getD_lt L0.out k
      have d1 := kept_cell hM.kept b1 (C1.out k hlt)
      have e1 : Hid _ := getD_lt L1.out k
      have hq : Hid (∀ z, fb z = fb (c (xs.getD k 0) (ys.getD k 0)) → fb z = fb ((fun k => c (xs.getD k 0) (ys.getD k 0)) k)) := fun _ h => h
      generalize xs.getD k 0 = x at d0 e0 hq
      generalize ys.getD k 0 = y at d1 e1 hq
      go_wp2_with fail
      refine (hF _ _ _ e0.out e1.out).mono ?_
      rintro e w2 ⟨z, rfl, hz, hfz, hD⟩
      have hM2 := hM.drawn hD
      obtain ⟨v1, m2⟩ := hM2.cell hlt
      have m3 := hM2.free
      have R : Hid _ := hM2.step (Nat.le_refl _) hz (hq.out z hfz) hlt
      clear hM hM2 hD hfz
      go_wp2
      go_roundw
      case rel => exact ⟨k + 1, by omega, by go_num, R.out⟩
      case measure => simp [intOf]; omega
    · obtain rfl : k = n := by omega
      go_wp2
      go_ret
      exact hM.done

set_option maxRecDepth 100000 in
set_option maxHeartbeats 1000000 in
theorem each_over (c : Nat → Nat → Nat) (hF : Fn2 74 c) (w : World) (n : Nat) (hn : n ≤ 1000) (g0 o0 c0 : Nat) (xs : List Nat) (b0 : g0 < w.heap.size) (l0 : ∀ x ∈ xs, x < 18446744073709551616) (k0 : ∀ k, k < n → w.cell? ⟨g0, o0 + k, none⟩ = some (.float .f64 (xs.getD k 0))) (g1 o1 c1 : Nat) (ys : List Nat) (b1 : g1 < w.heap.size) (l1 : ∀ x ∈ ys, x < 18446744073709551616) (k1 : ∀ k, k < n → w.cell? ⟨g1, o1 + k, none⟩ = some (.float .f64 (ys.getD k 0))) :
    Calls Try.prog 86 #[.slice (some ⟨g0, o0, none⟩) n c0, .slice (some ⟨g1, o1, none⟩) n c1, .func (.func 74) #[] #[]] w fun e w' => Made n (fun k => c (xs.getD k 0) (ys.getD k 0)) w e w' := by
  have hm := make_f n w (by omega)
  have hS := making_start w n (fun k => c (xs.getD k 0) (ys.getD k 0))
  generalize hw1 : w.alloc (.cells (madeCells #[.float .f64 0] n) 23) = w1 at hm hS
  clear hw1
  have C0 : Hid (∀ k, k < n → w.cell? ⟨g0, o0 + k, none⟩ = some (.float .f64 (xs.getD k 0))) := k0
  have L0 : Hid (∀ x ∈ xs, x < 18446744073709551616) := l0
  clear k0 l0
  have C1 : Hid (∀ k, k < n → w.cell? ⟨g1, o1 + k, none⟩ = some (.float .f64 (ys.getD k 0))) := k1
  have L1 : Hid (∀ x ∈ ys, x < 18446744073709551616) := l1
  clear k1 l1
  go_enter Try.func86, Try.ntmps86
  go_wp2_with fail
  clear hm
  go_loopw [8, 9, 15] (fun _ _ i W => ∃ k : Nat, k ≤ n ∧ i = .int .i64 k ∧ Making w.heap.size n k (fun k => c (xs.getD k 0) (ys.getD k 0)) w W) (fun _ _ i _ => n - (intOf i).toNat)
  case atStart => exact ⟨0, Nat.zero_le _, rfl, hS⟩
  case round =>
    obtain ⟨k, hk, rfl, hM⟩ := hrel
    clear hS
    by_cases hlt : k < n
    · obtain ⟨v0, m0⟩ := hM.cell hlt
      have m1 := hM.free
      have d0 := kept_cell hM.kept b0 (C0.out k hlt)
      have e0 : Hid _ := getD_lt L0.out k
      have d1 := kept_cell hM.kept b1 (C1.out k hlt)
      have e1 : Hid _ := getD_lt L1.out k
      have hq : Hid (∀ z, fb z = fb (c (xs.getD k 0) (ys.getD k 0)) → fb z = fb ((fun k => c (xs.getD k 0) (ys.getD k 0)) k)) := fun _ h => h
      generalize xs.getD k 0 = x at d0 e0 hq
      generalize ys.getD k 0 = y at d1 e1 hq
      go_wp2_with fail
      refine (hF _ _ _ e0.out e1.out).mono ?_
      rintro e w2 ⟨z, rfl, hz, hfz, hD⟩
      have hM2 := hM.drawn hD
      obtain ⟨v1, m2⟩ := hM2.cell hlt
      have m3 := hM2.free
      have R : Hid _ := hM2.step (Nat.le_refl _) hz (hq.out z hfz) hlt
      clear hM hM2 hD hfz
      go_wp2
      go_roundw
      case rel => exact ⟨k + 1, by omega, by go_num, R.out⟩
      case measure => simp [intOf]; omega
    · obtain rfl : k = n := by omega
      go_wp2
      go_ret
      exact hM.done

set_option maxRecDepth 100000 in
set_option maxHeartbeats 1000000 in
theorem each_greater (c : Nat → Nat → Nat) (hF : Fn2 90 c) (w : World) (n : Nat) (hn : n ≤ 1000) (g0 o0 c0 : Nat) (xs : List Nat) (b0 : g0 < w.heap.size) (l0 : ∀ x ∈ xs, x < 18446744073709551616) (k0 : ∀ k, k < n → w.cell? ⟨g0, o0 + k, none⟩ = some (.float .f64 (xs.getD k 0))) (g1 o1 c1 : Nat) (ys : List Nat) (b1 : g1 < w.heap.size) (l1 : ∀ x ∈ ys, x < 18446744073709551616) (k1 : ∀ k, k < n → w.cell? ⟨g1, o1 + k, none⟩ = some (.float .f64 (ys.getD k 0))) :
    Calls Try.prog 86 #[.slice (some ⟨g0, o0, none⟩) n c0, .slice (some ⟨g1, o1, none⟩) n c1, .func (.func 90) #[] #[]] w fun e w' => Made n (fun k => c (xs.getD k 0) (ys.getD k 0)) w e w' := by
  have hm := make_f n w (by omega)
  have hS := making_start w n (fun k => c (xs.getD k 0) (ys.getD k 0))
  generalize hw1 : w.alloc (.cells (madeCells #[.float .f64 0] n) 23) = w1 at hm hS
  clear hw1
  have C0 : Hid (∀ k, k < n → w.cell? ⟨g0, o0 + k, none⟩ = some (.float .f64 (xs.getD k 0))) := k0
  have L0 : Hid (∀ x ∈ xs, x < 18446744073709551616) := l0
  clear k0 l0
  have C1 : Hid (∀ k, k < n → w.cell? ⟨g1, o1 + k, none⟩ = some (.float .f64 (ys.getD k 0))) := k1
  have L1 : Hid (∀ x ∈ ys, x < 18446744073709551616) := l1
  clear k1 l1
  go_enter Try.func86, Try.ntmps86
  go_wp2_with fail
  clear hm
  go_loopw [8, 9, 15] (fun _ _ i W => ∃ k : Nat, k ≤ n ∧ i = .int .i64 k ∧ Making w.heap.size n k (fun k => c (xs.getD k 0) (ys.getD k 0)) w W) (fun _ _ i _ => n - (intOf i).toNat)
  case atStart => exact ⟨0, Nat.zero_le _, rfl, hS⟩
  case round =>
    obtain ⟨k, hk, rfl, hM⟩ := hrel
    clear hS
    by_cases hlt : k < n
    · obtain ⟨v0, m0⟩ := hM.cell hlt
      have m1 := hM.free
      have d0 := kept_cell hM.kept b0 (C0.out k hlt)
      have e0 : Hid _ := getD_lt L0.out k
      have d1 := kept_cell hM.kept b1 (C1.out k hlt)
      have e1 : Hid _ := getD_lt L1.out k
      have hq : Hid (∀ z, fb z = fb (c (xs.getD k 0) (ys.getD k 0)) → fb z = fb ((fun k => c (xs.getD k 0) (ys.getD k 0)) k)) := fun _ h => h
      generalize xs.getD k 0 = x at d0 e0 hq
      generalize ys.getD k 0 = y at d1 e1 hq
      go_wp2_with fail
      refine (hF _ _ _ e0.out e1.out).mono ?_
      rintro e w2 ⟨z, rfl, hz, hfz, hD⟩
      have hM2 := hM.drawn hD
      obtain ⟨v1, m2⟩ := hM2.cell hlt
      have m3 := hM2.free
      have R : Hid _ := hM2.step (Nat.le_refl _) hz (hq.out z hfz) hlt
      clear hM hM2 hD hfz
      go_wp2
      go_roundw
      case rel => exact ⟨k + 1, by omega, by go_num, R.out⟩
      case measure => simp [intOf]; omega
    · obtain rfl : k = n := by omega
      go_wp2
      go_ret
      exact hM.done

set_option maxRecDepth 100000 in
set_option maxHeartbeats 1000000 in
theorem each_negated (c : Nat → Nat) (hF : Fn1 89 c) (w : World) (n : Nat) (hn : n ≤ 1000) (g0 o0 c0 : Nat) (xs : List Nat) (b0 : g0 < w.heap.size) (l0 : ∀ x ∈ xs, x < 18446744073709551616) (k0 : ∀ k, k < n → w.cell? ⟨g0, o0 + k, none⟩ = some (.float .f64 (xs.getD k 0))) :
    Calls Try.prog 88 #[.slice (some ⟨g0, o0, none⟩) n c0, .func (.func 89) #[] #[]] w fun e w' => Made n (fun k => c (xs.getD k 0)) w e w' := by
  have hm := make_f n w (by omega)
  have hS := making_start w n (fun k => c (xs.getD k 0))
  generalize hw1 : w.alloc (.cells (madeCells #[.float .f64 0] n) 23) = w1 at hm hS
  clear hw1
  have C0 : Hid (∀ k, k < n → w.cell? ⟨g0, o0 + k, none⟩ = some (.float .f64 (xs.getD k 0))) := k0
  have L0 : Hid (∀ x ∈ xs, x < 18446744073709551616) := l0
  clear k0 l0
  go_enter Try.func88, Try.ntmps88
  go_wp2_with fail
  clear hm
  go_loopw [6, 7, 13] (fun _ _ i W => ∃ k : Nat, k ≤ n ∧ i = .int .i64 k ∧ Making w.heap.size n k (fun k => c (xs.getD k 0)) w W) (fun _ _ i _ => n - (intOf i).toNat)
  case atStart => exact ⟨0, Nat.zero_le _, rfl, hS⟩
  case round =>
    obtain ⟨k, hk, rfl, hM⟩ := hrel
    clear hS
    by_cases hlt : k < n
    · obtain ⟨v0, m0⟩ := hM.cell hlt
      have m1 := hM.free
      have d0 := kept_cell hM.kept b0 (C0.out k hlt)
      have e0 : Hid _ := getD_lt L0.out k
      have hq : Hid (∀ z, fb z = fb (c (xs.getD k 0)) → fb z = fb ((fun k => c (xs.getD k 0)) k)) := fun _ h => h
      generalize xs.getD k 0 = x at d0 e0 hq
      go_wp2_with fail
      refine (hF _ _ e0.out).mono ?_
      rintro e w2 ⟨z, rfl, hz, hfz, hD⟩
      have hM2 := hM.drawn hD
      obtain ⟨v1, m2⟩ := hM2.cell hlt
      have m3 := hM2.free
      have R : Hid _ := hM2.step (Nat.le_refl _) hz (hq.out z hfz) hlt
      clear hM hM2 hD hfz
      go_wp2
      go_roundw
      case rel => exact ⟨k + 1, by omega, by go_num, R.out⟩
      case measure => simp [intOf]; omega
    · obtain rfl : k = n := by omega
      go_wp2
      go_ret
      exact hM.done

set_option maxRecDepth 100000 in
set_option maxHeartbeats 1000000 in
theorem each_exp (c : Nat → Nat) (hF : Fn1 27 c) (w : World) (n : Nat) (hn : n ≤ 1000) (g0 o0 c0 : Nat) (xs : List Nat) (b0 : g0 < w.heap.size) (l0 : ∀ x ∈ xs, x < 18446744073709551616) (k0 : ∀ k, k < n → w.cell? ⟨g0, o0 + k, none⟩ = some (.float .f64 (xs.getD k 0))) :
    Calls Try.prog 88 #[.slice (some ⟨g0, o0, none⟩) n c0, .func (.func 27) #[] #[]] w fun e w' => Made n (fun k => c (xs.getD k 0)) w e w' := by
  have hm := make_f n w (by omega)
  have hS := making_start w n (fun k => c (xs.getD k 0))
  generalize hw1 : w.alloc (.cells (madeCells #[.float .f64 0] n) 23) = w1 at hm hS
  clear hw1
  have C0 : Hid (∀ k, k < n → w.cell? ⟨g0, o0 + k, none⟩ = some (.float .f64 (xs.getD k 0))) := k0
  have L0 : Hid (∀ x ∈ xs, x < 18446744073709551616) := l0
  clear k0 l0
  go_enter Try.func88, Try.ntmps88
  go_wp2_with fail
  clear hm
  go_loopw [6, 7, 13] (fun _ _ i W => ∃ k : Nat, k ≤ n ∧ i = .int .i64 k ∧ Making w.heap.size n k (fun k => c (xs.getD k 0)) w W) (fun _ _ i _ => n - (intOf i).toNat)
  case atStart => exact ⟨0, Nat.zero_le _, rfl, hS⟩
  case round =>
    obtain ⟨k, hk, rfl, hM⟩ := hrel
    clear hS
    by_cases hlt : k < n
    · obtain ⟨v0, m0⟩ := hM.cell hlt
      have m1 := hM.free
      have d0 := kept_cell hM.kept b0 (C0.out k hlt)
      have e0 : Hid _ := getD_lt L0.out k
      have hq : Hid (∀ z, fb z = fb (c (xs.getD k 0)) → fb z = fb ((fun k => c (xs.getD k 0)) k)) := fun _ h => h
      generalize xs.getD k 0 = x at d0 e0 hq
      go_wp2_with fail
      refine (hF _ _ e0.out).mono ?_
      rintro e w2 ⟨z, rfl, hz, hfz, hD⟩
      have hM2 := hM.drawn hD
      obtain ⟨v1, m2⟩ := hM2.cell hlt
      have m3 := hM2.free
      have R : Hid _ := hM2.step (Nat.le_refl _) hz (hq.out z hfz) hlt
      clear hM hM2 hD hfz
      go_wp2
      go_roundw
      case rel => exact ⟨k + 1, by omega, by go_num, R.out⟩
      case measure => simp [intOf]; omega
    · obtain rfl : k = n := by omega
      go_wp2
      go_ret
      exact hM.done

end Go.Proofs.Ytcphabjekfihnaa
