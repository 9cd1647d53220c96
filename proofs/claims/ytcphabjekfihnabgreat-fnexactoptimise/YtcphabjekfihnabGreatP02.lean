import Derived.Test.YtcphabjekfihnabGreatP01
namespace Go.Proofs.YtcphabjekfihnabGreat
open Go.RowKit Flt
attribute [local go_sem] alloc_drewN setCell_drewN run_store_float

/-- A length that a value may have. -/
def lenB (n : Int) : Bool := decide (1 ≤ n ∧ n ≤ 1000)
theorem lenB_true {n : Int} (h1 : 1 ≤ n) (h2 : n ≤ 1000) : lenB n = true := decide_eq_true ⟨h1, h2⟩
theorem lenB_false {n : Int} (h : ¬ (1 ≤ n ∧ n ≤ 1000)) : lenB n = false := decide_eq_false h

set_option maxHeartbeats 400000 in
theorem isLength_any (n : Int) (w : World) : Calls Tryz.prog 41 #[.int .i64 n] w fun e w' => e = .returned (.bool (lenB n)) ∧ w' = w := by
  by_cases h1 : 1 ≤ n
  · by_cases h2 : n ≤ 1000
    · rw [lenB_true h1 h2]
      go_enter Tryz.func41, Tryz.ntmps41
      go_wp2
      go_ret
      exact ⟨rfl, rfl⟩
    · rw [lenB_false (fun c => h2 c.2)]
      have t : decide (n ≤ 1000) = false := decide_eq_false h2
      go_enter Tryz.func41, Tryz.ntmps41
      go_wp2
      go_ret
      exact ⟨rfl, rfl⟩
  · rw [lenB_false (fun c => h1 c.1)]
    have t : decide (1 ≤ n) = false := decide_eq_false h1
    go_enter Tryz.func41, Tryz.ntmps41
    go_wp2
    go_ret
    exact ⟨rfl, rfl⟩

/-- How many operands an operation has. -/
def cnt (op : Int) : Nat := if op = 6 ∨ op = 9 ∨ op = 10 ∨ op = 11 ∨ op = 12 ∨ op = 13 then 1 else if op = 2 ∨ op = 3 ∨ op = 4 ∨ op = 5 ∨ op = 7 then 2 else if op = 8 then 3 else 0
theorem op_cases (op : Int) : op = 1 ∨ op = 2 ∨ op = 3 ∨ op = 4 ∨ op = 5 ∨ op = 6 ∨ op = 7 ∨ op = 8 ∨ op = 9 ∨ op = 10 ∨ op = 11 ∨ op = 12 ∨ op = 13 ∨ (op ≠ 1 ∧ op ≠ 2 ∧ op ≠ 3 ∧ op ≠ 4 ∧ op ≠ 5 ∧ op ≠ 6 ∧ op ≠ 7 ∧ op ≠ 8 ∧ op ≠ 9 ∧ op ≠ 10 ∧ op ≠ 11 ∧ op ≠ 12 ∧ op ≠ 13) := by omega

set_option maxRecDepth 100000 in
set_option maxHeartbeats 1000000 in
theorem opCount (op : Int) (w : World) : Calls Tryz.prog 84 #[.int .i64 op] w fun e w' => e = .returned (.int .i64 (cnt op : Nat)) ∧ w' = w := by
  rcases op_cases op with rfl | rfl | rfl | rfl | rfl | rfl | rfl | rfl | rfl | rfl | rfl | rfl | rfl | h
  · go_enter Tryz.func84, Tryz.ntmps84
    go_wp2
    go_ret
    exact ⟨rfl, rfl⟩
  all_goals try
    (go_enter Tryz.func84, Tryz.ntmps84
     go_wp2
     go_ret
     exact ⟨rfl, rfl⟩)
  obtain ⟨h1, h2, h3, h4, h5, h6, h7, h8, h9, h10, h11, h12, h13⟩ := h
  have e : cnt op = 0 := by simp [cnt, h2, h3, h4, h5, h6, h7, h8, h9, h10, h11, h12, h13]
  rw [e]
  have t2 : (op == 2) = false := beq_eq_false_iff_ne.2 h2
  have t3 : (op == 3) = false := beq_eq_false_iff_ne.2 h3
  have t4 : (op == 4) = false := beq_eq_false_iff_ne.2 h4
  have t5 : (op == 5) = false := beq_eq_false_iff_ne.2 h5
  have t6 : (op == 6) = false := beq_eq_false_iff_ne.2 h6
  have t7 : (op == 7) = false := beq_eq_false_iff_ne.2 h7
  have t8 : (op == 8) = false := beq_eq_false_iff_ne.2 h8
  have t9 : (op == 9) = false := beq_eq_false_iff_ne.2 h9
  have t10 : (op == 10) = false := beq_eq_false_iff_ne.2 h10
  have t11 : (op == 11) = false := beq_eq_false_iff_ne.2 h11
  have t12 : (op == 12) = false := beq_eq_false_iff_ne.2 h12
  have t13 : (op == 13) = false := beq_eq_false_iff_ne.2 h13
  clear e h1 h2 h3 h4 h5 h6 h7 h8 h9 h10 h11 h12 h13
  go_enter Tryz.func84, Tryz.ntmps84
  go_wp2
  go_ret
  exact ⟨rfl, rfl⟩


/-- A slice of ints: its elements. -/
structure IS (w : World) (lo hi : Nat) (a : Option Addr) (n : Nat) (xs : List Int) : Prop where
  len : xs.length = n
  at_ : n = 0 ∨ ∃ g off, a = some ⟨g, off, none⟩ ∧ lo ≤ g ∧ g < hi ∧ g < w.heap.size ∧ ∀ k, k < n → w.cell? ⟨g, off + k, none⟩ = some (.int .i64 (xs.getD k 0))
theorem IS.keep {w w' : World} {lo hi l h : Nat} {a : Option Addr} {n : Nat} {xs : List Int} (f : IS w lo hi a n xs) (k : Kept l h w w') (hd : hi ≤ l ∨ h ≤ lo ∨ h ≤ l) : IS w' lo hi a n xs :=
  ⟨f.len, by
    rcases f.at_ with h0 | ⟨g, off, e, h1, h2, h3, h4⟩
    · exact .inl h0
    · exact .inr ⟨g, off, e, h1, h2, Nat.lt_of_lt_of_le h3 k.size, fun j hj => by rw [k.cell (p := ⟨g, off + j, none⟩) h3 (by show ¬ (l ≤ g ∧ g < h); omega)]; exact h4 j hj⟩⟩
theorem IS.prefix {w : World} {lo hi : Nat} {a : Option Addr} {n : Nat} {xs : List Int} (f : IS w lo hi a n xs) (m : Nat) (hm : m ≤ n) : IS w lo hi a m (xs.take m) :=
  ⟨by rw [List.length_take, f.len]; omega, by
    rcases f.at_ with h0 | ⟨g, off, e, a1, a2, a3, a4⟩
    · exact .inl (by omega)
    · refine .inr ⟨g, off, e, a1, a2, a3, fun k hk => ?_⟩
      rw [a4 k (by omega)]
      congr 2
      simp only [List.getD_eq_getElem?_getD]
      rw [List.getElem?_take_of_lt hk]⟩

theorem all_snoc {xs : List Int} {n : Int} {k : Nat} (hk : k < xs.length) (h : (xs.take k).all (· == n) = true) (t : (xs.getD k 0 != n) = false) : (xs.take (k + 1)).all (· == n) = true := by
  rw [List.take_succ_eq_append_getElem hk, List.all_append, h]
  rw [List.getD_eq_getElem?_getD, List.getElem?_eq_getElem hk] at t
  simp at t
  simp [t]
theorem all_bad {xs : List Int} {n : Int} {k : Nat} (hk : k < xs.length) (t : (xs.getD k 0 != n) = true) : xs.all (· == n) = false := by
  rw [List.getD_eq_getElem?_getD, List.getElem?_eq_getElem hk] at t
  simp at t
  rw [List.all_eq_false]
  exact ⟨xs[k], List.getElem_mem _, by simp [t]⟩

set_option maxRecDepth 100000 in
set_option maxHeartbeats 1000000 in
theorem allAre_pos (w : World) (g off m cap : Nat) (n : Int) (xs : List Int) (hx : xs.length = m) (hm : m ≤ 1099511627776)
    (hc : ∀ k, k < m → w.cell? ⟨g, off + k, none⟩ = some (.int .i64 (xs.getD k 0))) :
    Calls Tryz.prog 86 #[.slice (some ⟨g, off, none⟩) m cap, .int .i64 n] w fun e w' => e = .returned (.bool (xs.all (· == n))) ∧ w' = w := by
  have HC : Hid (∀ k, k < m → w.cell? ⟨g, off + k, none⟩ = some (.int .i64 (xs.getD k 0))) := hc
  have HX : Hid (xs.length = m) := hx
  clear hc hx
  go_enter Tryz.func86, Tryz.ntmps86
  go_wp2_with fail
  go_loop [9] (fun i => ∃ k : Nat, k ≤ m ∧ i = .int .i64 k ∧ Hid ((xs.take k).all (· == n) = true)) (fun i => m - (intOf i).toNat)
  case atStart => exact ⟨0, Nat.zero_le _, rfl, rfl⟩
  case round =>
    obtain ⟨k, hk, rfl, hA⟩ := hrel
    by_cases hlt : k < m
    · have c := HC.out k hlt
      cases t : (xs.getD k 0 != n)
      · have R : Hid _ := all_snoc (by rw [HX.out]; exact hlt) hA.out t
        generalize xs.getD k 0 = x at c t
        go_wp2
        go_round
        case rel => exact ⟨k + 1, by omega, by go_num, R⟩
        case measure => simp [intOf]; omega
      · have R : Hid (xs.all (· == n) = false) := all_bad (by rw [HX.out]; exact hlt) t
        generalize xs.getD k 0 = x at c t
        go_wp2
        go_ret
        exact ⟨by rw [R.out]; rfl, rfl⟩
    · obtain rfl : k = m := by omega
      have R : Hid (xs.all (· == n) = true) := by
        have := hA.out
        rw [List.take_of_length_le (by rw [HX.out]; omega)] at this
        exact this
      clear hA
      go_wp2
      go_ret
      exact ⟨by rw [R.out]; rfl, rfl⟩
set_option maxRecDepth 100000 in
set_option maxHeartbeats 1000000 in
theorem allAre_zero (w : World) (a : Option Addr) (cap : Nat) (n : Int) :
    Calls Tryz.prog 86 #[.slice a 0 cap, .int .i64 n] w fun e w' => e = .returned (.bool true) ∧ w' = w := by
  go_enter Tryz.func86, Tryz.ntmps86
  go_wp2_with fail
  refine wp_loop_rounds 1 ?_
  rw [rounds_succ]
  go_wp2
  go_ret
  exact ⟨rfl, rfl⟩
theorem allAre (w : World) (lo hi : Nat) (a : Option Addr) (m cap : Nat) (n : Int) (xs : List Int) (f : IS w lo hi a m xs) (hm : m ≤ 1099511627776) :
    Calls Tryz.prog 86 #[.slice a m cap, .int .i64 n] w fun e w' => e = .returned (.bool (xs.all (· == n))) ∧ w' = w := by
  rcases f.at_ with rfl | ⟨g, off, rfl, a1, a2, a3, a4⟩
  · have : xs = [] := List.length_eq_zero_iff.1 f.len
    subst this
    exact allAre_zero w a cap n
  · exact allAre_pos w g off m cap n xs f.len hm a4
end Go.Proofs.YtcphabjekfihnabGreat
