import Derived.Test.YtcphabjekfihnaaP07
import Derived.Deep.RegionWith
namespace Go.Proofs.Ytcphabjekfihnaa
open Go.RowKit Flt
attribute [local go_sem] alloc_drewN setCell_drewN run_store_float

def chosenN (x y z : Nat) : Nat := if FloatKind.f64.format.order x 0 == some .gt then y else z
set_option maxHeartbeats 400000 in
theorem chosen_any (x y z : Nat) (w : World) : Calls Try.prog 92 #[.float .f64 x, .float .f64 y, .float .f64 z] w fun e w' => e = .returned (.float .f64 (chosenN x y z)) ∧ w' = w := by
  unfold chosenN
  cases h : (FloatKind.f64.format.order x 0 == some .gt)
  all_goals
    go_enter Try.func92, Try.ntmps92
    go_wp2
    go_ret
    exact ⟨rfl, rfl⟩
set_option maxRecDepth 100000 in
set_option maxHeartbeats 1000000 in
theorem each_chosen (w : World) (n : Nat) (hn : n ≤ 1000) (g0 o0 c0 : Nat) (xs : List Nat) (b0 : g0 < w.heap.size) (l0 : ∀ x ∈ xs, x < 18446744073709551616) (k0 : ∀ k, k < n → w.cell? ⟨g0, o0 + k, none⟩ = some (.float .f64 (xs.getD k 0))) (g1 o1 c1 : Nat) (ys : List Nat) (b1 : g1 < w.heap.size) (l1 : ∀ x ∈ ys, x < 18446744073709551616) (k1 : ∀ k, k < n → w.cell? ⟨g1, o1 + k, none⟩ = some (.float .f64 (ys.getD k 0))) (g2 o2 c2 : Nat) (us : List Nat) (b2 : g2 < w.heap.size) (l2 : ∀ x ∈ us, x < 18446744073709551616) (k2 : ∀ k, k < n → w.cell? ⟨g2, o2 + k, none⟩ = some (.float .f64 (us.getD k 0))) :
    Calls Try.prog 91 #[.slice (some ⟨g0, o0, none⟩) n c0, .slice (some ⟨g1, o1, none⟩) n c1, .slice (some ⟨g2, o2, none⟩) n c2, .func (.func 92) #[] #[]] w fun e w' => Made n (fun k => chosenN (xs.getD k 0) (ys.getD k 0) (us.getD k 0)) w e w' := by
  have hm := make_f n w (by omega)
  have hS := making_start w n (fun k => chosenN (xs.getD k 0) (ys.getD k 0) (us.getD k 0))
  generalize hw1 : w.alloc (.cells (madeCells #[.float .f64 0] n) 23) = w1 at hm hS
  clear hw1
  have C0 : Hid (∀ k, k < n → w.cell? ⟨g0, o0 + k, none⟩ = some (.float .f64 (xs.getD k 0))) := k0
  have L0 : Hid (∀ x ∈ xs, x < 18446744073709551616) := l0
  clear k0 l0
  have C1 : Hid (∀ k, k < n → w.cell? ⟨g1, o1 + k, none⟩ = some (.float .f64 (ys.getD k 0))) := k1
  have L1 : Hid (∀ x ∈ ys, x < 18446744073709551616) := l1
  clear k1 l1
  have C2 : Hid (∀ k, k < n → w.cell? ⟨g2, o2 + k, none⟩ = some (.float .f64 (us.getD k 0))) := k2
  have L2 : Hid (∀ x ∈ us, x < 18446744073709551616) := l2
  clear k2 l2
  go_enter Try.func91, Try.ntmps91
  go_wp2_with fail
  clear hm
  go_loopw [10, 11, 17] (fun _ _ i W => ∃ k : Nat, k ≤ n ∧ i = .int .i64 k ∧ Making w.heap.size n k (fun k => chosenN (xs.getD k 0) (ys.getD k 0) (us.getD k 0)) w W) (fun _ _ i _ => n - (intOf i).toNat)
  case atStart => exact ⟨0, Nat.zero_le _, rfl, hS⟩
  case round =>
    obtain ⟨k, hk, rfl, hM⟩ := hrel
    clear hS
    by_cases hlt : k < n
    · obtain ⟨v0, m0⟩ := hM.cell hlt
      have m1 := hM.free
      have d0 := kept_cell hM.kept b0 (C0.out k hlt)
      have e0 : Hid _ := getD_lt L0.out k
      have d1 := kept_cell hM.kept b1 (C1.out k hlt)
      have e1 : Hid _ := getD_lt L1.out k
      have d2 := kept_cell hM.kept b2 (C2.out k hlt)
      have e2 : Hid _ := getD_lt L2.out k
      have hq : Hid (∀ z, fb z = fb (chosenN (xs.getD k 0) (ys.getD k 0) (us.getD k 0)) → fb z = fb ((fun k => chosenN (xs.getD k 0) (ys.getD k 0) (us.getD k 0)) k)) := fun _ h => h
      generalize xs.getD k 0 = x at d0 e0 hq
      generalize ys.getD k 0 = y at d1 e1 hq
      generalize us.getD k 0 = u at d2 e2 hq
      go_wp2_with fail
      have R : Hid (Making w.heap.size n (k + 1) (fun k => chosenN (xs.getD k 0) (ys.getD k 0) (us.getD k 0)) w (wr.setCell ⟨w.heap.size, k, none⟩ (.float .f64 (chosenN x y u)))) := by
        refine hM.step (Nat.le_refl _) ?_ (hq.out _ rfl) hlt
        unfold chosenN
        split
        · exact e1.out
        · exact e2.out
      clear hM
      go_region_with (go_at_call 92; refine (chosen_any _ _ _ _).mono ?_; rintro e w2 ⟨rfl, rfl⟩)
      all_goals
        go_wp2
        go_roundw
        case rel => exact ⟨k + 1, by omega, by go_num, R.out.drawn ⟨1, rfl⟩⟩
        case measure => simp [intOf]; omega
    · obtain rfl : k = n := by omega
      go_wp2
      go_ret
      exact hM.done

end Go.Proofs.Ytcphabjekfihnaa

namespace Go.Proofs.Ytcphabjekfihnaa
open Go.RowKit Flt
attribute [local go_sem] alloc_drewN setCell_drewN run_store_float

theorem fn_plus : Fn2 76 (cop .add) := fun x y w _ _ => (plus_any x y w).mono fun _ _ h => ⟨_, h.1, fop_lt _ _ _ _, fb_fop _ _ _ _, _, h.2⟩
theorem fn_times : Fn2 75 (cop .mul) := fun x y w _ _ => (times_any x y w).mono fun _ _ h => ⟨_, h.1, fop_lt _ _ _ _, fb_fop _ _ _ _, _, h.2⟩
theorem fn_over : Fn2 74 (cop .quo) := fun x y w _ _ => (over_any x y w).mono fun _ _ h => ⟨_, h.1, fop_lt _ _ _ _, fb_fop _ _ _ _, _, h.2⟩
set_option maxHeartbeats 400000 in
theorem minus_any (x y : Nat) (w : World) : Calls Try.prog 87 #[.float .f64 x, .float .f64 y] w fun e w' => e = .returned (.float .f64 (fop .sub x y w)) ∧ w' = w.drewN (fnd .sub x y) := by
  have h1 := @run_fsub Try.prog
  have h2 := convff
  go_enter Try.func87, Try.ntmps87
  go_wp2
  go_ret
  exact ⟨rfl, rfl⟩
theorem fn_minus : Fn2 87 (cop .sub) := fun x y w _ _ => (minus_any x y w).mono fun _ _ h => ⟨_, h.1, fop_lt _ _ _ _, fb_fop _ _ _ _, _, h.2⟩
def greaterN (x y : Nat) : Nat := if FloatKind.f64.format.order x y == some .gt then x else y
set_option maxHeartbeats 400000 in
theorem fn_greater : Fn2 90 greaterN := by
  intro x y w hx hy
  unfold greaterN
  cases h : (FloatKind.f64.format.order x y == some .gt)
  · go_enter Try.func90, Try.ntmps90
    go_wp2
    go_ret
    exact ⟨_, rfl, hy, rfl, 0, rfl⟩
  · go_enter Try.func90, Try.ntmps90
    go_wp2
    go_ret
    exact ⟨_, rfl, hx, rfl, 0, rfl⟩
theorem run_fneg' (b : Nat) (w : World) : (Op.unary .neg (.float .f64 b)).run Try.prog w = .ok (.float .f64 (Op.negFloat .f64 b)) w := rfl
theorem negf_lt {b : Nat} (h : b < 18446744073709551616) : Op.negFloat .f64 b < 18446744073709551616 := by
  obtain ⟨s, r, hr, rfl⟩ := split_word b h
  rw [neg_W s hr]; exact W_lt hr
set_option maxHeartbeats 400000 in
theorem fn_negated : Fn1 89 (Op.negFloat .f64) := by
  intro x w hx
  have h1 := run_fneg'
  go_enter Try.func89, Try.ntmps89
  go_wp2
  go_ret
  exact ⟨_, rfl, negf_lt hx, rfl, 0, rfl⟩
theorem fn_exp : Fn1 27 cexp := fun x w hx => (implExp x w hx).mono fun _ _ h => by
  obtain ⟨y, h1, h2, h3, m, h4⟩ := h
  exact ⟨y, h1, h3, h2, m, h4⟩

set_option maxRecDepth 100000 in
set_option maxHeartbeats 1000000 in
theorem copies (w : World) (x n : Nat) (hx : x < 18446744073709551616) (hn : n ≤ 1000) :
    Calls Try.prog 85 #[.float .f64 x, .int .i64 (n : Int)] w fun e w' => Made n (fun _ => x) w e w' := by
  have hm := make_f n w (by omega)
  have hS := making_start w n (fun _ => x)
  generalize hw1 : w.alloc (.cells (madeCells #[.float .f64 0] n) 23) = w1 at hm hS
  clear hw1
  go_enter Try.func85, Try.ntmps85
  go_wp2_with fail
  clear hm
  go_loopw [6, 11] (fun _ i W => ∃ k : Nat, k ≤ n ∧ i = .int .i64 k ∧ Making w.heap.size n k (fun _ => x) w W) (fun _ i _ => n - (intOf i).toNat)
  case atStart => exact ⟨0, Nat.zero_le _, rfl, hS⟩
  case round =>
    obtain ⟨k, hk, rfl, hM⟩ := hrel
    clear hS
    by_cases hlt : k < n
    · obtain ⟨v0, m0⟩ := hM.cell hlt
      have m1 := hM.free
      have R : Hid _ := hM.step (Nat.le_refl _) hx rfl hlt
      clear hM
      go_wp2
      go_roundw
      case rel => exact ⟨k + 1, by omega, by go_num, R.out⟩
      case measure => simp [intOf]; omega
    · obtain rfl : k = n := by omega
      go_wp2
      go_ret
      exact hM.done

/-- impl.placed -/
theorem made_set (w : World) (n p x : Nat) (hx : x < 18446744073709551616) (hp : p < n) :
    Made n (fun k => if k = p then x else 0) w (.returned (.slice (some ⟨w.heap.size, 0, none⟩) n n)) ((w.alloc (.cells (madeCells #[.float .f64 0] n) 23)).setCell ⟨w.heap.size, p, none⟩ (.float .f64 x)) := by
  have h := (FR.made w n).set p x
  refine ⟨_, rfl, h, ?_, by simp, ?_, (kept_alloc 0 0 w _).new (kept_setCell (lo := w.heap.size) (hi := w.heap.size + 1) _ ⟨w.heap.size, p, none⟩ _ (.inl ⟨Nat.le_refl _, Nat.lt_succ_self _⟩)) (Nat.le_refl _)⟩
  · intro y hy
    rcases List.mem_or_eq_of_mem_set hy with c | c
    · rw [List.eq_of_mem_replicate c]; omega
    · rw [c]; exact hx
  · intro k hk
    rw [List.getD_eq_getElem?_getD, List.getElem?_set]
    by_cases e : p = k
    · subst e
      rw [if_pos rfl, if_pos (by simpa using hp)]
      show fb x = fb (if p = p then x else 0)
      rw [if_pos rfl]
    · rw [if_neg e, List.getElem?_replicate, if_pos hk]
      show fb 0 = fb (if k = p then x else 0)
      rw [if_neg (fun c => e c.symm)]
set_option maxRecDepth 100000 in
set_option maxHeartbeats 1000000 in
theorem placed (w : World) (x p n : Nat) (hx : x < 18446744073709551616) (hn : n ≤ 1000) (hp : p < n) :
    Calls Try.prog 94 #[.float .f64 x, .int .i64 (p : Int), .int .i64 (n : Int)] w fun e w' => Made n (fun k => if k = p then x else 0) w e w' := by
  have hm := make_f n w (by omega)
  have hFR := FR.made w n
  have R := made_set w n p x hx hp
  have c1 := hFR.cell p (by simpa using hp)
  have c2 := hFR.free p
  clear hFR
  generalize hw1 : w.alloc (.cells (madeCells #[.float .f64 0] n) 23) = w1 at hm c1 c2 R
  clear hw1
  obtain ⟨zs, r0, r1, r2, r3, r4, r5⟩ := R
  have R1 : Hid _ := r1
  have R2 : Hid _ := r2
  have R3 : Hid _ := r3
  have R4 : Hid _ := r4
  have R5 : Hid _ := r5
  clear r0 r1 r2 r3 r4 r5
  go_enter Try.func94, Try.ntmps94
  go_wp2
  go_ret
  exact ⟨zs, rfl, R1.out, R2.out, R3.out, R4.out, R5.out⟩

/-- The sum of a list, from the first element on. -/
def csum : List Nat → Nat
  | [] => 0
  | x :: xs => xs.foldl (cop .add) x
theorem csum_snoc (xs : List Nat) (y : Nat) (h : xs ≠ []) : csum (xs ++ [y]) = cop .add (csum xs) y := by
  cases xs with
  | nil => exact absurd rfl h
  | cons x r => simp [csum, List.foldl_append]
theorem csum_take (xs : List Nat) (k : Nat) (h0 : 0 < k) (hk : k < xs.length) : csum (xs.take (k + 1)) = cop .add (csum (xs.take k)) (xs.getD k 0) := by
  rw [List.take_succ_eq_append_getElem hk, csum_snoc _ _ (by intro c; rcases List.take_eq_nil_iff.1 c with c | c; omega; rw [c] at hk; simp at hk)]
  rw [List.getD_eq_getElem?_getD, List.getElem?_eq_getElem hk]; rfl
theorem csum_one (xs : List Nat) (h : 0 < xs.length) : csum (xs.take 1) = xs.getD 0 0 := by
  cases xs with
  | nil => simp at h
  | cons x r => rfl

set_option maxRecDepth 100000 in
set_option maxHeartbeats 1000000 in
theorem fold (w : World) (n : Nat) (hn : n ≤ 1000) (h0 : 1 ≤ n) (g o c : Nat) (xs : List Nat) (hx : xs.length = n) (hc : n ≤ c) (lx : ∀ x ∈ xs, x < 18446744073709551616) (kx : ∀ k, k < n → w.cell? ⟨g, o + k, none⟩ = some (.float .f64 (xs.getD k 0))) :
    Calls Try.prog 93 #[.slice (some ⟨g, o, none⟩) n c, .func (.func 76) #[] #[]] w fun e w' => ∃ z, e = .returned (.float .f64 z) ∧ z < 18446744073709551616 ∧ fb z = fb (csum xs) ∧ Drawn w w' := by
  have KX : Hid (∀ k, k < n → w.cell? ⟨g, o + k, none⟩ = some (.float .f64 (xs.getD k 0))) := kx
  have LX : Hid (∀ x ∈ xs, x < 18446744073709551616) := lx
  have HX : Hid (xs.length = n) := hx
  have c0 := kx 0 (by omega)
  rw [Nat.add_zero] at c0
  have l0 : Hid _ := getD_lt lx 0
  have s0 : Hid (fb (xs.getD 0 0) = fb (csum (xs.take 1))) := by rw [csum_one xs (by omega)]; rfl
  clear kx lx hx
  generalize xs.getD 0 0 = x0 at c0 l0 s0
  by_cases h1 : n = 1
  · subst h1
    have e1 : xs.take 1 = xs := List.take_of_length_le (by rw [HX.out]; omega)
    rw [e1] at s0
    clear e1
    go_enter Try.func93, Try.ntmps93
    go_wp2_with fail
    all_goals
      refine wp_loop_rounds 1 ?_
      rw [rounds_succ]
      go_wp2
      go_ret
      exact ⟨x0, rfl, l0.out, s0.out, Drawn.refl _⟩
  · have hc1 : ¬ c = 1 := by omega
    have hn1 : ((n - 1 : Nat) : Int) = (n : Int) - 1 := by omega
    go_enter Try.func93, Try.ntmps93
    go_wp2_with fail
    clear hn1
    go_loopw [5, 7, 14] (fun s _ i W => ∃ (k z : Nat), k + 1 ≤ n ∧ i = .int .i64 k ∧ s = .float .f64 z ∧ z < 18446744073709551616 ∧ Hid (fb z = fb (csum (xs.take (k + 1)))) ∧ Drawn w W) (fun _ _ i _ => n - (intOf i).toNat)
    case atStart => exact ⟨0, x0, by omega, rfl, rfl, l0.out, s0, Drawn.refl _⟩
    case round =>
      obtain ⟨k, z, hk, rfl, rfl, hz, hs, hD⟩ := hrel
      by_cases hlt : k + 1 < n
      · have d0 : wr.cell? ⟨g, o + 1 + k, none⟩ = some (.float .f64 (xs.getD (k + 1) 0)) := by rw [hD.cell, show o + 1 + k = o + (k + 1) by omega]; exact KX.out (k + 1) hlt
        have l1 : Hid _ := getD_lt LX.out (k + 1)
        have hst : Hid (∀ z', fb z' = fb (cop .add z (xs.getD (k + 1) 0)) → fb z' = fb (csum (xs.take (k + 1 + 1)))) := by
          intro z' h
          rw [h, csum_take xs (k + 1) (by omega) (by rw [HX.out]; exact hlt)]
          congr 1
          exact cop_congr .add hs.out rfl
        generalize xs.getD (k + 1) 0 = y at d0 l1 hst
        have hlt2 : (k : Int) < ((n - 1 : Nat) : Int) := by omega
        go_wp2_with fail
        refine (fn_plus _ _ _ hz l1.out).mono ?_
        rintro e w2 ⟨z', rfl, hz', hfz, hD2⟩
        have R : Hid _ := hst.out z' hfz
        clear hfz
        go_wp2
        go_roundw
        case rel => exact ⟨k + 1, z', by omega, by go_num, rfl, hz', R, hD.trans hD2⟩
        case measure => simp [intOf]; omega
      · have hk2 : k + 1 = n := by omega
        have R : Hid (fb z = fb (csum xs)) := by
          have := hs.out
          rw [hk2, List.take_of_length_le (by rw [HX.out]; omega)] at this
          exact this
        have hlt2 : ((n - 1 : Nat) : Int) ≤ (k : Int) := by omega
        clear hk2
        go_wp2
        go_ret
        exact ⟨z, rfl, hz, R.out, hD⟩
end Go.Proofs.Ytcphabjekfihnaa
