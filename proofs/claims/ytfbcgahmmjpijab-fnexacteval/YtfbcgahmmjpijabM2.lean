import Derived.Test.YtfbcgahmmjpijabM1
import Derived.Deep.QuietTactic
import Derived.BigQuiet
namespace Go.Proofs.Ytfbcgahmmjpijab
open Go.RowKit Flt
attribute [local go_sem] alloc_drewN setCell_drewN run_store_float

theorem make_f (n : Nat) (w : World) (hn : n ≤ 1099511627776) :
    (Instr.makeSlice 32 (.int .i64 (n : Int)) (.int .i64 (n : Int))).run Try.prog w = .ok (.slice (some ⟨w.heap.size, 0, none⟩) n n) (w.alloc (.cells (madeCells #[.float .f64 0] n) 22)) := by
  obtain ⟨i, hi, hz0, hz1, hz2⟩ := info_parts infoF
  have := run_make (P := Try.prog) w 32 22 i (.float .f64 0) Try.underlying32 hi hz0 .i64 .i64 n n (by omega) (by omega) (by rw [hz2]; omega) (by omega)
  rw [hz1, Nat.mul_one, Int.toNat_natCast] at this
  exact this

set_option maxHeartbeats 1000000 in
theorem toF_pos (w : World) (g0 off n cap : Nat) (xs : List Nat) (hx : xs.length = n) (hn : n ≤ 1048576) (hg : g0 < w.heap.size)
    (hc : ∀ k, k < n → w.cell? ⟨g0, off + k, none⟩ = some (.float .f64 (xs.getD k 0))) :
    Calls Try.prog 23 #[.slice (some ⟨g0, off, none⟩) n cap] w fun e w' => e = .returned (.slice (some ⟨w.heap.size, 0, none⟩) n n) ∧ FR w' w.heap.size xs ∧ Kept 0 0 w w' := by
  have hm := make_f n w (by omega)
  have hsz0 : (w.alloc (.cells (madeCells #[.float .f64 0] n) 22)).heap.size = w.heap.size + 1 := by simp
  have hFR := FR.made w n
  have hK := kept_alloc 0 0 w (.cells (madeCells #[.float .f64 0] n) 22)
  have HC : Hid (∀ k, k < n → w.cell? ⟨g0, off + k, none⟩ = some (.float .f64 (xs.getD k 0))) := hc
  have HX : Hid (xs.length = n) := hx
  clear hc hx
  generalize hw1 : w.alloc (.cells (madeCells #[.float .f64 0] n) 22) = w1 at hm hFR hK hsz0
  clear hw1
  have HS : Hid (w1.heap.size = w.heap.size + 1) := hsz0
  clear hsz0
  go_enter Try.func23, Try.ntmps23
  go_wp2_with fail
  clear hm
  go_loopw [4] (fun i W => ∃ k : Nat, k ≤ n ∧ i = .int .i64 k ∧ FR W w.heap.size (xs.take k ++ (List.replicate n 0).drop k) ∧ Kept 0 0 w W) (fun i _ => n - (intOf i).toNat)
  case atStart => exact ⟨0, Nat.zero_le _, rfl, by simpa using hFR, hK⟩
  case round =>
    obtain ⟨k, hk, rfl, hF, hKW⟩ := hrel
    by_cases hlt : k < n
    · have c1 : wr.cell? ⟨g0, off + k, none⟩ = some (.float .f64 (xs.getD k 0)) := by rw [hKW.cell (p := ⟨g0, off + k, none⟩) hg (by omega)]; exact HC.out k hlt
      have hl : (xs.take k ++ (List.replicate n 0).drop k).length = n := by simp [HX.out]; omega
      have c2 := hF.cell k (by omega)
      have c3 := hF.free k
      have R1 : Hid _ := hF.set k (xs.getD k 0)
      have R2 : Hid _ := hKW.new (kept_setCell (lo := w.heap.size) (hi := w.heap.size + 1) wr ⟨w.heap.size, k, none⟩ (.float .f64 (xs.getD k 0)) (.inl ⟨Nat.le_refl _, Nat.lt_succ_self _⟩)) (Nat.le_refl _)
      clear hF hKW hFR hK hl
      go_wp2
      go_roundw
      case rel =>
        refine ⟨k + 1, by omega, by go_num, ?_, R2.out⟩
        have := R1.out
        rw [set_take xs (List.replicate n 0) k (by rw [HX.out]; exact hlt) (by simp [HX.out])] at this
        exact this
      case measure => simp [intOf]; omega
    · obtain rfl : k = n := by omega
      clear hFR hK
      go_wp2
      go_ret
      refine ⟨rfl, ?_, hKW⟩
      have h1 : (xs.take k ++ (List.replicate k 0).drop k) = xs := by rw [List.take_of_length_le (by rw [HX.out]; omega), List.drop_of_length_le (by simp), List.append_nil]
      rw [h1] at hF
      exact hF
set_option maxRecDepth 100000 in
set_option maxHeartbeats 1000000 in
theorem toF_zero (w : World) (a : Option Addr) (cap : Nat) :
    Calls Try.prog 23 #[.slice a 0 cap] w fun e w' => e = .returned (.slice (some ⟨w.heap.size, 0, none⟩) 0 0) ∧ FR w' w.heap.size [] ∧ Kept 0 0 w w' := by
  have hm := make_f 0 w (by omega)
  rw [show ((0 : Nat) : Int) = 0 from rfl] at hm
  have hFR := FR.made w 0
  have hK := kept_alloc 0 0 w (.cells (madeCells #[.float .f64 0] 0) 22)
  generalize hw1 : w.alloc (.cells (madeCells #[.float .f64 0] 0) 22) = w1 at hm hFR hK
  clear hw1
  go_enter Try.func23, Try.ntmps23
  go_wp2_with fail
  refine wp_loop_rounds 1 ?_
  rw [rounds_succ]
  go_wp2
  go_ret
  exact ⟨rfl, hFR, hK⟩

theorem toF (w : World) (lo hi : Nat) (a : Option Addr) (n cap : Nat) (xs : List Nat) (f : FS w lo hi a n xs) (hn : n ≤ 1048576) :
    Calls Try.prog 23 #[.slice a n cap] w fun e w' => e = .returned (.slice (some ⟨w.heap.size, 0, none⟩) n n) ∧ FR w' w.heap.size xs ∧ Kept 0 0 w w' := by
  rcases f.at_ with rfl | ⟨g, off, rfl, h1, h2, h3, h4⟩
  · have : xs = [] := List.length_eq_zero_iff.1 f.len
    subst this
    exact toF_zero w a cap
  · exact toF_pos w g off n cap xs f.len hn h3 h4

/-- Lists of floats that are the same, element by element. -/
def same (xs ys : List Nat) : Prop := xs.map fb = ys.map fb
theorem same_len {xs ys : List Nat} (h : same xs ys) : xs.length = ys.length := by
  have := congrArg List.length h; simpa using this
theorem same_of {xs ys : List Nat} (hl : xs.length = ys.length) (h : ∀ k, k < xs.length → fb (xs.getD k 0) = fb (ys.getD k 0)) : same xs ys := by
  unfold same
  apply List.ext_getElem (by simpa using hl)
  intro i h1 h2
  have h1' : i < xs.length := by simpa using h1
  have := h i h1'
  simp only [List.getElem_map]
  rw [List.getD_eq_getElem?_getD, List.getD_eq_getElem?_getD, List.getElem?_eq_getElem h1', List.getElem?_eq_getElem (by omega : i < ys.length)] at this
  exact this
theorem same_at {xs ys : List Nat} (h : same xs ys) (k : Nat) : fb (xs.getD k 0) = fb (ys.getD k 0) := by
  have : (xs.map fb)[k]? = (ys.map fb)[k]? := by rw [h]
  rw [List.getElem?_map, List.getElem?_map] at this
  rw [List.getD_eq_getElem?_getD, List.getD_eq_getElem?_getD]
  cases h1 : xs[k]? <;> cases h2 : ys[k]? <;> rw [h1, h2] at this <;> simp at this
  all_goals first | rfl | exact this

set_option maxRecDepth 100000 in
set_option maxHeartbeats 1000000 in
theorem eqF_len (w : World) (a b : Option Addr) (n m ca cb : Nat) (h : n ≠ m) :
    Calls Try.prog 25 #[.slice a n ca, .slice b m cb] w fun e w' => e = .returned (.bool false) ∧ w' = w := by
  have t : ((n : Int) != (m : Int)) = true := by simp; omega
  go_enter Try.func25, Try.ntmps25
  go_wp2
  go_ret
  exact ⟨rfl, rfl⟩
set_option maxRecDepth 100000 in
set_option maxHeartbeats 1000000 in
theorem eqF_zero (w : World) (a b : Option Addr) (ca cb : Nat) :
    Calls Try.prog 25 #[.slice a 0 ca, .slice b 0 cb] w fun e w' => e = .returned (.bool true) ∧ w' = w := by
  go_enter Try.func25, Try.ntmps25
  go_wp2_with fail
  refine wp_loop_rounds 1 ?_
  rw [rounds_succ]
  go_wp2
  go_ret
  exact ⟨rfl, rfl⟩
set_option maxRecDepth 100000 in
set_option maxHeartbeats 1000000 in
theorem eqF_pos (w : World) (g1 o1 g2 o2 n ca cb : Nat) (xs ys : List Nat) (hn : n ≤ 1099511627776) (lx : ∀ x ∈ xs, x < 18446744073709551616) (ly : ∀ x ∈ ys, x < 18446744073709551616)
    (hx : ∀ k, k < n → w.cell? ⟨g1, o1 + k, none⟩ = some (.float .f64 (xs.getD k 0))) (hy : ∀ k, k < n → w.cell? ⟨g2, o2 + k, none⟩ = some (.float .f64 (ys.getD k 0)))
    (hs : ∀ k, k < n → fb (xs.getD k 0) = fb (ys.getD k 0)) :
    Calls Try.prog 25 #[.slice (some ⟨g1, o1, none⟩) n ca, .slice (some ⟨g2, o2, none⟩) n cb] w fun e w' => e = .returned (.bool true) ∧ Drawn w w' := by
  have h2 := convff
  have HX : Hid (∀ k, k < n → w.cell? ⟨g1, o1 + k, none⟩ = some (.float .f64 (xs.getD k 0))) := hx
  have HY : Hid (∀ k, k < n → w.cell? ⟨g2, o2 + k, none⟩ = some (.float .f64 (ys.getD k 0))) := hy
  have HS : Hid (∀ k, k < n → fb (xs.getD k 0) = fb (ys.getD k 0)) := hs
  have LX : Hid (∀ x ∈ xs, x < 18446744073709551616) := lx
  have LY : Hid (∀ x ∈ ys, x < 18446744073709551616) := ly
  clear hx hy hs lx ly
  go_enter Try.func25, Try.ntmps25
  go_wp2_with fail
  go_loopw [5] (fun i W => ∃ k : Nat, k ≤ n ∧ i = .int .i64 k ∧ Drawn w W) (fun i _ => n - (intOf i).toNat)
  case atStart => exact ⟨0, Nat.zero_le _, rfl, Drawn.refl _⟩
  case round =>
    obtain ⟨k, hk, rfl, HW⟩ := hrel
    by_cases hlt : k < n
    · have c1 : wr.cell? ⟨g1, o1 + k, none⟩ = some (.float .f64 (xs.getD k 0)) := by rw [HW.cell]; exact HX.out k hlt
      have c2 : wr.cell? ⟨g2, o2 + k, none⟩ = some (.float .f64 (ys.getD k 0)) := by rw [HW.cell]; exact HY.out k hlt
      have e1 : ((fb (xs.getD k 0) : Int) == (fb (ys.getD k 0) : Int)) = true := by rw [HS.out k hlt]; exact beq_self_eq_true _
      have l1 : Hid _ := getD_lt LX.out k
      have l2 : Hid _ := getD_lt LY.out k
      generalize xs.getD k 0 = x at c1 e1 l1
      generalize ys.getD k 0 = y at c2 e1 l2
      go_wp2_with fail
      go_quiet ((go_at_call 18; exact Calls.quiet_of_same (sameF _ _ _ l1.out l2.out)))
      go_wp2
      go_roundw
      case rel => exact ⟨k + 1, by omega, by go_num, HW.more _⟩
      case measure => simp [intOf]; omega
    · go_wp2
      go_ret
      exact ⟨rfl, HW⟩
/-- eqFloat64S of lists that are the same. -/
theorem eqF (w : World) (lo hi lo' hi' : Nat) (a b : Option Addr) (n m ca cb : Nat) (xs ys : List Nat) (f : FS w lo hi a n xs) (g : FS w lo' hi' b m ys) (hs : same xs ys) (hn : n ≤ 1099511627776) :
    Calls Try.prog 25 #[.slice a n ca, .slice b m cb] w fun e w' => e = .returned (.bool true) ∧ Drawn w w' := by
  obtain rfl : n = m := by have := same_len hs; rw [f.len, g.len] at this; exact this
  rcases f.at_ with rfl | ⟨g1, o1, rfl, a1, a2, a3, a4⟩
  · exact (eqF_zero w a b ca cb).mono fun _ _ h => ⟨h.1, 0, h.2⟩
  · rcases g.at_ with rfl | ⟨g2, o2, rfl, b1, b2, b3, b4⟩
    · exact (eqF_zero w _ b ca cb).mono fun _ _ h => ⟨h.1, 0, h.2⟩
    · exact eqF_pos w g1 o1 g2 o2 n ca cb xs ys hn f.lt g.lt a4 b4 (fun k _ => same_at hs k)
end Go.Proofs.Ytfbcgahmmjpijab
