import Derived.Test.YtfbcgahmmjpijabM2
namespace Go.Proofs.Ytfbcgahmmjpijab
open Go.RowKit Flt
attribute [local go_sem] alloc_drewN setCell_drewN run_store_float

/-- The marks that the laws write: k, k + 1, .. as floats. -/
def marks (k : Int) (n : Nat) : List Nat := (List.range n).map fun (i : Nat) => floatOfInt .f64 (k + (i : Int))
theorem marks_len (k : Int) (n : Nat) : (marks k n).length = n := by simp [marks]
theorem marks_at (k : Int) (n j : Nat) (h : j < n) : (marks k n).getD j 0 = floatOfInt .f64 (k + (j : Int)) := by
  simp [marks, List.getD_eq_getElem?_getD, h]
theorem ofInt_lt64 (n : Int) : floatOfInt .f64 n < 18446744073709551616 := by
  have := floatOfInt_wf .f64 n
  simpa [Lit.wf] using this
theorem marks_lt (k : Int) (n : Nat) : ∀ x ∈ marks k n, x < 18446744073709551616 := by
  intro x hx
  simp only [marks, List.mem_map] at hx
  obtain ⟨i, _, rfl⟩ := hx
  exact ofInt_lt64 _
theorem ofInt_num (n : Int) : (FloatKind.f64.format.order (floatOfInt .f64 n) (floatOfInt .f64 n) != some .eq) = false := by
  have h : ∃ s r, r ≤ 9218868437227405312 ∧ floatOfInt .f64 n = W s r := by
    unfold floatOfInt FloatKind.nearest FloatKind.encode
    show ∃ s r, r ≤ 9218868437227405312 ∧ Ieee.double.write _ = W s r
    simp only [Ieee.Format.write, Ieee.Format.nearest]
    split
    · exact ⟨_, 0, by omega, word_eq _ _⟩
    · exact ⟨_, _, by rw [inf_eq]; exact Nat.min_le_right _ _, word_eq _ _⟩
  obtain ⟨s, r, hr, e⟩ := h
  rw [e]
  exact isn_num hr

theorem mark_set (k : Int) (n j : Nat) (xs : List Nat) (hlt : j < n) (hx : xs.length = n) :
    ((marks k n).take j ++ xs.drop j).set j (floatOfInt .f64 (k + (j : Int))) = (marks k n).take (j + 1) ++ xs.drop (j + 1) := by
  rw [← marks_at k n j hlt]
  exact set_take (marks k n) xs j (by rw [marks_len]; exact hlt) (by rw [marks_len]; exact hx)
set_option maxRecDepth 100000 in
set_option maxHeartbeats 1000000 in
theorem markF_pos (w : World) (g n cap : Nat) (k : Int) (xs : List Nat) (hF : FR w g xs) (hx : xs.length = n) (h0 : 0 ≤ k) (h1 : k ≤ 1099511627776) (hn : n ≤ 1099511627776) :
    Calls Try.prog 26 #[.slice (some ⟨g, 0, none⟩) n cap, .int .i64 k] w fun e w' => e = .returned (.int .i64 (k + n)) ∧ FR w' g (marks k n) ∧ Kept g (g + 1) w w' := by
  have HX : Hid (xs.length = n) := hx
  clear hx
  go_enter Try.func26, Try.ntmps26
  go_wp2_with fail
  go_loopw [1, 5] (fun kv i W => ∃ j : Nat, j ≤ n ∧ i = .int .i64 j ∧ kv = .int .i64 (k + j) ∧ FR W g ((marks k n).take j ++ xs.drop j) ∧ Kept g (g + 1) w W) (fun _ i _ => n - (intOf i).toNat)
  case atStart => exact ⟨0, Nat.zero_le _, rfl, by simp, by simpa using hF, Kept.refl _ _ _⟩
  case round =>
    obtain ⟨j, hj, rfl, rfl, hFW, hKW⟩ := hrel
    by_cases hlt : j < n
    · have hl : ((marks k n).take j ++ xs.drop j).length = n := by simp [HX.out, marks_len]; omega
      have c2 := hFW.cell j (by omega)
      have c3 := hFW.free j
      have R1 : Hid _ := hFW.set j (floatOfInt .f64 (k + (j : Int)))
      have R2 : Hid _ := hKW.trans (kept_setCell (lo := g) (hi := g + 1) wr ⟨g, j, none⟩ (.float .f64 (floatOfInt .f64 (k + (j : Int)))) (.inl ⟨Nat.le_refl _, Nat.lt_succ_self _⟩))
      clear hFW hKW hF hl
      go_wp2
      go_roundw
      case rel =>
        refine ⟨j + 1, by omega, by go_num, by go_num, ?_, R2.out⟩
        have := R1.out
        rw [mark_set k n j xs hlt HX.out] at this
        exact this
      case measure => simp [intOf]; omega
    · obtain rfl : j = n := by omega
      clear hF
      go_wp2
      go_ret
      refine ⟨rfl, ?_, hKW⟩
      rw [List.take_of_length_le (by rw [marks_len]; omega), List.drop_of_length_le (by rw [HX.out]; omega), List.append_nil] at hFW
      exact hFW
set_option maxRecDepth 100000 in
set_option maxHeartbeats 1000000 in
theorem markF_zero (w : World) (a : Option Addr) (cap : Nat) (k : Int) :
    Calls Try.prog 26 #[.slice a 0 cap, .int .i64 k] w fun e w' => e = .returned (.int .i64 k) ∧ w' = w := by
  go_enter Try.func26, Try.ntmps26
  go_wp2_with fail
  refine wp_loop_rounds 1 ?_
  rw [rounds_succ]
  go_wp2
  go_ret
  exact ⟨rfl, rfl⟩
set_option maxRecDepth 100000 in
set_option maxHeartbeats 1000000 in
theorem heldF_pos (w : World) (g n cap : Nat) (k : Int) (hF : FR w g (marks k n)) (h0 : 0 ≤ k) (h1 : k ≤ 1099511627776) (hn : n ≤ 1099511627776) :
    Calls Try.prog 27 #[.slice (some ⟨g, 0, none⟩) n cap, .int .i64 k] w fun e w' => e = .returned (.int .i64 (k + n)) ∧ w' = w := by
  go_enter Try.func27, Try.ntmps27
  go_wp2_with fail
  go_loop [1, 5] (fun kv i => ∃ j : Nat, j ≤ n ∧ i = .int .i64 j ∧ kv = .int .i64 (k + j)) (fun _ i => n - (intOf i).toNat)
  case atStart => exact ⟨0, Nat.zero_le _, rfl, by simp⟩
  case round =>
    obtain ⟨j, hj, rfl, rfl⟩ := hrel
    by_cases hlt : j < n
    · have c2 := hF.cell j (by rw [marks_len]; exact hlt)
      rw [marks_at k n j hlt] at c2
      have c3 := ofInt_num (k + (j : Int))
      clear hF
      go_wp2
      go_round
      case rel => exact ⟨j + 1, by omega, by go_num, by go_num⟩
      case measure => simp [intOf]; omega
    · obtain rfl : j = n := by omega
      clear hF
      go_wp2
      go_ret
      exact ⟨rfl, rfl⟩
set_option maxRecDepth 100000 in
set_option maxHeartbeats 1000000 in
theorem heldF_zero (w : World) (a : Option Addr) (cap : Nat) (k : Int) :
    Calls Try.prog 27 #[.slice a 0 cap, .int .i64 k] w fun e w' => e = .returned (.int .i64 k) ∧ w' = w := by
  go_enter Try.func27, Try.ntmps27
  go_wp2_with fail
  refine wp_loop_rounds 1 ?_
  rw [rounds_succ]
  go_wp2
  go_ret
  exact ⟨rfl, rfl⟩
end Go.Proofs.Ytfbcgahmmjpijab
