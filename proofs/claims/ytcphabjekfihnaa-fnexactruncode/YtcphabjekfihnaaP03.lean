import Derived.Test.YtcphabjekfihnaaP02
namespace Go.Proofs.Ytcphabjekfihnaa
open Go.RowKit Flt
attribute [local go_sem] alloc_drewN setCell_drewN run_store_float

def idxB (i n : Int) : Bool := decide (0 ≤ i ∧ i < n)
set_option maxHeartbeats 400000 in
theorem isIndex_any (i n : Int) (w : World) : Calls Try.prog 103 #[.int .i64 i, .int .i64 n] w fun e w' => e = .returned (.bool (idxB i n)) ∧ w' = w := by
  by_cases h1 : 0 ≤ i
  · by_cases h2 : i < n
    · rw [show idxB i n = true from decide_eq_true ⟨h1, h2⟩]
      go_enter Try.func103, Try.ntmps103
      go_wp2
      go_ret
      exact ⟨rfl, rfl⟩
    · rw [show idxB i n = false from decide_eq_false (fun c => h2 c.2)]
      have t : decide (i < n) = false := decide_eq_false h2
      go_enter Try.func103, Try.ntmps103
      go_wp2
      go_ret
      exact ⟨rfl, rfl⟩
  · rw [show idxB i n = false from decide_eq_false (fun c => h1 c.1)]
    have t : decide (0 ≤ i) = false := decide_eq_false h1
    go_enter Try.func103, Try.ntmps103
    go_wp2
    go_ret
    exact ⟨rfl, rfl⟩

/-- A value of a graph, as it is handed. -/
abbrev vagg (op len A B C : Int) (K : Nat) : Value := .agg #[.int .i64 op, .int .i64 len, .int .i64 A, .int .i64 B, .int .i64 C, .float .f64 K]
abbrev vbox (op len A B C : Int) (K : Nat) : Obj := .cells #[.int .i64 op, .int .i64 len, .int .i64 A, .int .i64 B, .int .i64 C, .float .f64 K] 40

/-- Whether Len and place go with operands of these lengths. -/
def shapeB (op len C : Int) (xs : List Int) : Bool :=
  if op = 9 then len == 1 && lenB (xs.getD 0 0)
  else if op = 10 then xs.getD 0 0 == 1
  else if op = 11 then (len == 1 && lenB (xs.getD 0 0)) && idxB C (xs.getD 0 0)
  else if op = 12 then xs.getD 0 0 == 1 && idxB C len
  else if 1 ≤ op ∧ op ≤ 13 then xs.all (· == len)
  else false

set_option maxRecDepth 100000 in
set_option maxHeartbeats 1000000 in
theorem shape_all (w : World) (op len A B C : Int) (K : Nat) (lo hi : Nat) (a : Option Addr) (m cap : Nat) (xs : List Int) (f : IS w lo hi a m xs) (hm : m ≤ 3)
    (hop : op = 1 ∨ op = 2 ∨ op = 3 ∨ op = 4 ∨ op = 5 ∨ op = 6 ∨ op = 7 ∨ op = 8 ∨ op = 13) :
    Calls Try.prog 83 #[vagg op len A B C K, .slice a m cap] w fun e w' => e = .returned (.bool (shapeB op len C xs)) ∧ w' = w.alloc (vbox op len A B C K) := by
  have f' := f.keep (kept_alloc 0 0 w (vbox op len A B C K)) (.inr (.inr (Nat.le_refl _)))
  clear f
  rcases hop with rfl | rfl | rfl | rfl | rfl | rfl | rfl | rfl | rfl
  all_goals
    rw [show shapeB _ len C xs = xs.all (· == len) by simp [shapeB]]
    go_enter Try.func83, Try.ntmps83
    go_wp2_with fail
    refine (allAre _ _ _ _ _ _ _ _ f' (by omega)).mono ?_
    rintro e w' ⟨rfl, rfl⟩
    go_wp2
    go_ret
    exact ⟨rfl, rfl⟩
set_option maxRecDepth 100000 in
set_option maxHeartbeats 1000000 in
theorem shape_none (w : World) (op len A B C : Int) (K : Nat) (a : Option Addr) (m cap : Nat) (xs : List Int) 
    (h : op ≠ 1 ∧ op ≠ 2 ∧ op ≠ 3 ∧ op ≠ 4 ∧ op ≠ 5 ∧ op ≠ 6 ∧ op ≠ 7 ∧ op ≠ 8 ∧ op ≠ 9 ∧ op ≠ 10 ∧ op ≠ 11 ∧ op ≠ 12 ∧ op ≠ 13) :
    Calls Try.prog 83 #[vagg op len A B C K, .slice a m cap] w fun e w' => e = .returned (.bool (shapeB op len C xs)) ∧ w' = w.alloc (vbox op len A B C K) := by
  obtain ⟨h1, h2, h3, h4, h5, h6, h7, h8, h9, h10, h11, h12, h13⟩ := h
  have e : shapeB op len C xs = false := by unfold shapeB; rw [if_neg h9, if_neg h10, if_neg h11, if_neg h12, if_neg (by omega)]
  rw [e]
  have t1 : (op == 1) = false := beq_eq_false_iff_ne.2 h1
  have t2 : (op == 2) = false := beq_eq_false_iff_ne.2 h2
  have t3 : (op == 3) = false := beq_eq_false_iff_ne.2 h3
  have t4 : (op == 4) = false := beq_eq_false_iff_ne.2 h4
  have t5 : (op == 5) = false := beq_eq_false_iff_ne.2 h5
  have t6 : (op == 6) = false := beq_eq_false_iff_ne.2 h6
  have t7 : (op == 7) = false := beq_eq_false_iff_ne.2 h7
  have t8 : (op == 8) = false := beq_eq_false_iff_ne.2 h8
  have t9 : (op == 9) = false := beq_eq_false_iff_ne.2 h9
  have t10 : (op == 10) = false := beq_eq_false_iff_ne.2 h10
  have t11 : (op == 11) = false := beq_eq_false_iff_ne.2 h11
  have t12 : (op == 12) = false := beq_eq_false_iff_ne.2 h12
  have t13 : (op == 13) = false := beq_eq_false_iff_ne.2 h13
  clear e h1 h2 h3 h4 h5 h6 h7 h8 h9 h10 h11 h12 h13
  go_enter Try.func83, Try.ntmps83
  go_wp2
  go_ret
  exact ⟨rfl, rfl⟩

set_option maxRecDepth 100000 in
set_option maxHeartbeats 1000000 in
theorem shape_one (w : World) (op len A B C x : Int) (K g off cap : Nat) (hg : g < w.heap.size) (hc : w.cell? ⟨g, off, none⟩ = some (.int .i64 x))
    (hop : op = 9 ∨ op = 10 ∨ op = 11 ∨ op = 12) :
    Calls Try.prog 83 #[vagg op len A B C K, .slice (some ⟨g, off, none⟩) 1 cap] w fun e w' => e = .returned (.bool (shapeB op len C [x])) ∧ Kept 0 0 w w' := by
  have hc' : (w.alloc (vbox op len A B C K)).cell? ⟨g, off, none⟩ = some (.int .i64 x) := by rw [World.cell?_alloc_past (hn := hg)]; exact hc
  rcases hop with rfl | rfl | rfl | rfl
  · -- OpSum
    cases t : (len == 1)
    · rw [show shapeB 9 len C [x] = false by simp [shapeB, t]]
      go_enter Try.func83, Try.ntmps83
      go_wp2
      go_ret
      exact ⟨rfl, kept_alloc _ _ _ _⟩
    · rw [show shapeB 9 len C [x] = lenB x by simp [shapeB, t]]
      go_enter Try.func83, Try.ntmps83
      go_wp2_with fail
      refine (isLength_any _ _).mono ?_
      rintro e w' ⟨rfl, rfl⟩
      go_wp2
      go_ret
      exact ⟨rfl, kept_alloc _ _ _ _⟩
  · rw [show shapeB 10 len C [x] = (x == 1) by simp [shapeB]]
    go_enter Try.func83, Try.ntmps83
    go_wp2
    go_ret
    exact ⟨rfl, kept_alloc _ _ _ _⟩
  · cases t : (len == 1)
    · rw [show shapeB 11 len C [x] = false by simp [shapeB, t]]
      go_enter Try.func83, Try.ntmps83
      go_wp2
      go_quiet (fail)
      go_wp2
      go_ret
      exact ⟨rfl, (kept_alloc _ _ _ _).trans (kept_drewN _ _ _ _)⟩
    · cases t2 : lenB x
      · rw [show shapeB 11 len C [x] = false by simp [shapeB, t2]]
        go_enter Try.func83, Try.ntmps83
        go_wp2
        go_quiet ((first | (go_at_call 82; exact Calls.quiet_of_same (isLength_any _ _)) | (go_at_call 103; exact Calls.quiet_of_same (isIndex_any _ _ _))))
        go_wp2
        go_ret
        exact ⟨rfl, (kept_alloc _ _ _ _).trans (kept_drewN _ _ _ _)⟩
      · rw [show shapeB 11 len C [x] = idxB C x by simp [shapeB, t, t2]]
        go_enter Try.func83, Try.ntmps83
        go_wp2
        go_quiet ((first | (go_at_call 82; exact Calls.quiet_of_same (isLength_any _ _)) | (go_at_call 103; exact Calls.quiet_of_same (isIndex_any _ _ _))))
        go_wp2
        go_ret
        exact ⟨rfl, (kept_alloc _ _ _ _).trans (kept_drewN _ _ _ _)⟩
  · cases t : (x == 1)
    · rw [show shapeB 12 len C [x] = false by simp [shapeB, t]]
      go_enter Try.func83, Try.ntmps83
      go_wp2
      go_ret
      exact ⟨rfl, kept_alloc _ _ _ _⟩
    · rw [show shapeB 12 len C [x] = idxB C len by simp [shapeB, t]]
      go_enter Try.func83, Try.ntmps83
      go_wp2_with fail
      refine (isIndex_any _ _ _).mono ?_
      rintro e w' ⟨rfl, rfl⟩
      go_wp2
      go_ret
      exact ⟨rfl, kept_alloc _ _ _ _⟩

theorem cnt_le (op : Int) : cnt op ≤ 3 := by
  unfold cnt
  split
  · omega
  · split
    · omega
    · split <;> omega
/-- impl.shapeFits, with as many lengths as the operation has operands. -/
theorem shapeFits (w : World) (op len A B C : Int) (K : Nat) (lo hi : Nat) (a : Option Addr) (m cap : Nat) (xs : List Int) (f : IS w lo hi a m xs) (hm : m = cnt op) :
    Calls Try.prog 83 #[vagg op len A B C K, .slice a m cap] w fun e w' => e = .returned (.bool (shapeB op len C xs)) ∧ Kept 0 0 w w' := by
  have key : (op = 9 ∨ op = 10 ∨ op = 11 ∨ op = 12) → Calls Try.prog 83 #[vagg op len A B C K, .slice a m cap] w fun e w' => e = .returned (.bool (shapeB op len C xs)) ∧ Kept 0 0 w w' := by
    intro hop
    have hm1 : m = 1 := by rw [hm]; rcases hop with rfl | rfl | rfl | rfl <;> rfl
    subst hm1
    rcases f.at_ with h0 | ⟨g, off, rfl, a1, a2, a3, a4⟩
    · omega
    · obtain ⟨x, rfl⟩ : ∃ x, xs = [x] := List.length_eq_one_iff.1 f.len
      exact shape_one w op len A B C x K g off cap a3 (a4 0 (by omega)) hop
  have hm3 : m ≤ 3 := by rw [hm]; exact cnt_le op
  rcases op_cases op with h | h | h | h | h | h | h | h | h | h | h | h | h | h
  all_goals first
    | exact key (by omega)
    | exact (shape_all w op len A B C K lo hi a m cap xs f hm3 (by omega)).mono fun _ _ h => ⟨h.1, by rw [h.2]; exact kept_alloc _ _ _ _⟩
    | exact (shape_none w op len A B C K a m cap xs h).mono fun _ _ h => ⟨h.1, by rw [h.2]; exact kept_alloc _ _ _ _⟩
end Go.Proofs.Ytcphabjekfihnaa
