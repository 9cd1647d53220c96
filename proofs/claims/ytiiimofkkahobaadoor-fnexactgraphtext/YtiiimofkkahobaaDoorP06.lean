import Derived.Test.YtiiimofkkahobaaDoorP04
import Derived.Deep.QuietTactic
import Derived.BigQuiet
namespace Go.Proofs.YtiiimofkkahobaaDoor
open Go.RowKit Flt
attribute [local go_sem] alloc_drewN setCell_drewN run_store_float

/-- spec.l1operands: three for what is no operation but 0 and 1 .. are not asked. -/
def ops1 (op : Int) : Nat := if op = 0 ∨ op = 1 then 0 else if op = 2 ∨ op = 3 ∨ op = 4 ∨ op = 5 ∨ op = 7 then 2 else if op = 8 then 3 else 1
set_option maxRecDepth 100000 in
set_option maxHeartbeats 1000000 in
theorem l1operands (op : Int) (w : World) (h0 : 0 ≤ op) (h1 : op ≤ 13) : Calls Tryd.prog 20 #[.int .i64 op] w fun e w' => e = .returned (.int .i64 (ops1 op : Nat)) ∧ w' = w := by
  have h : op = 0 ∨ op = 1 ∨ op = 2 ∨ op = 3 ∨ op = 4 ∨ op = 5 ∨ op = 6 ∨ op = 7 ∨ op = 8 ∨ op = 9 ∨ op = 10 ∨ op = 11 ∨ op = 12 ∨ op = 13 := by omega
  clear h0 h1
  rcases h with rfl | rfl | rfl | rfl | rfl | rfl | rfl | rfl | rfl | rfl | rfl | rfl | rfl | rfl
  all_goals
    go_enter Tryd.func20, Tryd.ntmps20
    go_wp2
    go_ret
    exact ⟨rfl, rfl⟩
def each1 (op : Int) : Bool := decide ((2 ≤ op ∧ op ≤ 8) ∨ op = 13)
set_option maxRecDepth 100000 in
set_option maxHeartbeats 1000000 in
theorem l1each (op : Int) (w : World) (h0 : 0 ≤ op) (h1 : op ≤ 13) : Calls Tryd.prog 65 #[.int .i64 op] w fun e w' => e = .returned (.bool (each1 op)) ∧ w' = w := by
  have h : op = 0 ∨ op = 1 ∨ op = 2 ∨ op = 3 ∨ op = 4 ∨ op = 5 ∨ op = 6 ∨ op = 7 ∨ op = 8 ∨ op = 9 ∨ op = 10 ∨ op = 11 ∨ op = 12 ∨ op = 13 := by omega
  clear h0 h1
  rcases h with rfl | rfl | rfl | rfl | rfl | rfl | rfl | rfl | rfl | rfl | rfl | rfl | rfl | rfl
  all_goals
    go_enter Tryd.func65, Tryd.ntmps65
    go_wp2
    go_ret
    exact ⟨rfl, rfl⟩

/-- spec.l1one: what it answers of three floats. -/
def one1 (op : Int) (x y z : Nat) : Nat :=
  if op = 2 then cop .add x y else if op = 3 then cop .sub x y else if op = 4 then cop .mul x y else if op = 5 then cop .quo x y
  else if op = 6 then Op.negFloat .f64 x else if op = 7 then greaterN x y else if op = 8 then chosenN x y z else cexp x
end Go.Proofs.YtiiimofkkahobaaDoor

namespace Go.Proofs.YtiiimofkkahobaaDoor
open Go.RowKit Flt
attribute [local go_sem] alloc_drewN setCell_drewN run_store_float

set_option maxRecDepth 100000 in
set_option maxHeartbeats 2000000 in
theorem fits_1 (w : World) (len A B C : Int) (K la lb lc : Nat) (h1 : 1 ≤ len) (h2 : len ≤ 1000) :
    Calls Tryd.prog 52 #[vagg 1 len A B C K, .int .i64 (la : Int), .int .i64 (lb : Int), .int .i64 (lc : Int)] w fun e w' => e = .returned (.bool (fitB 1 len C la lb lc)) ∧ w' = w.alloc (vbox 1 len A B C K) := by
  rw [show fitB 1 len C la lb lc = true by simp [fitB, shapeB, cnt, lenB]; omega]
  go_enter Tryd.func52, Tryd.ntmps52
  go_wp2_with (first | (go_at_call 65; refine (l1each _ _ (by omega) (by omega)).mono ?_; rintro e w2 ⟨rfl, rfl⟩; simp only [show each1 1 = false from rfl]) | (go_at_call 20; refine (l1operands _ _ (by omega) (by omega)).mono ?_; rintro e w2 ⟨rfl, rfl⟩; simp only [show ops1 1 = 0 from rfl]))
  go_ret
  exact ⟨rfl, rfl⟩
set_option maxRecDepth 100000 in
set_option maxHeartbeats 2000000 in
theorem fits_2 (w : World) (len A B C : Int) (K la lb lc : Nat) (h1 : 1 ≤ len) (h2 : len ≤ 1000) :
    Calls Tryd.prog 52 #[vagg 2 len A B C K, .int .i64 (la : Int), .int .i64 (lb : Int), .int .i64 (lc : Int)] w fun e w' => e = .returned (.bool (fitB 2 len C la lb lc)) ∧ w' = w.alloc (vbox 2 len A B C K) := by
  by_cases a0 : (la : Int) = len
  · have b0 : ((la : Int) == len) = true := beq_iff_eq.2 a0
    by_cases a1 : (lb : Int) = len
    · have b1 : ((lb : Int) == len) = true := beq_iff_eq.2 a1
      rw [show fitB 2 len C la lb lc = true by simp [fitB, shapeB, cnt, lenB]; omega]
      clear a0 a1
      go_enter Tryd.func52, Tryd.ntmps52
      go_wp2_with (first | (go_at_call 65; refine (l1each _ _ (by omega) (by omega)).mono ?_; rintro e w2 ⟨rfl, rfl⟩; simp only [show each1 2 = true from rfl]) | (go_at_call 20; refine (l1operands _ _ (by omega) (by omega)).mono ?_; rintro e w2 ⟨rfl, rfl⟩; simp only [show ops1 2 = 2 from rfl]))
      go_ret
      exact ⟨rfl, rfl⟩
    · have b1 : ((lb : Int) == len) = false := beq_eq_false_iff_ne.2 a1
      rw [show fitB 2 len C la lb lc = false by rw [Bool.eq_false_iff]; intro hh; simp [fitB, shapeB, cnt, lenB] at hh; omega]
      clear a0 a1
      go_enter Tryd.func52, Tryd.ntmps52
      go_wp2_with (first | (go_at_call 65; refine (l1each _ _ (by omega) (by omega)).mono ?_; rintro e w2 ⟨rfl, rfl⟩; simp only [show each1 2 = true from rfl]) | (go_at_call 20; refine (l1operands _ _ (by omega) (by omega)).mono ?_; rintro e w2 ⟨rfl, rfl⟩; simp only [show ops1 2 = 2 from rfl]))
      go_ret
      exact ⟨rfl, rfl⟩
  · have b0 : ((la : Int) == len) = false := beq_eq_false_iff_ne.2 a0
    rw [show fitB 2 len C la lb lc = false by rw [Bool.eq_false_iff]; intro hh; simp [fitB, shapeB, cnt, lenB] at hh; omega]
    clear a0
    go_enter Tryd.func52, Tryd.ntmps52
    go_wp2_with (first | (go_at_call 65; refine (l1each _ _ (by omega) (by omega)).mono ?_; rintro e w2 ⟨rfl, rfl⟩; simp only [show each1 2 = true from rfl]) | (go_at_call 20; refine (l1operands _ _ (by omega) (by omega)).mono ?_; rintro e w2 ⟨rfl, rfl⟩; simp only [show ops1 2 = 2 from rfl]))
    go_ret
    exact ⟨rfl, rfl⟩
set_option maxRecDepth 100000 in
set_option maxHeartbeats 2000000 in
theorem fits_3 (w : World) (len A B C : Int) (K la lb lc : Nat) (h1 : 1 ≤ len) (h2 : len ≤ 1000) :
    Calls Tryd.prog 52 #[vagg 3 len A B C K, .int .i64 (la : Int), .int .i64 (lb : Int), .int .i64 (lc : Int)] w fun e w' => e = .returned (.bool (fitB 3 len C la lb lc)) ∧ w' = w.alloc (vbox 3 len A B C K) := by
  by_cases a0 : (la : Int) = len
  · have b0 : ((la : Int) == len) = true := beq_iff_eq.2 a0
    by_cases a1 : (lb : Int) = len
    · have b1 : ((lb : Int) == len) = true := beq_iff_eq.2 a1
      rw [show fitB 3 len C la lb lc = true by simp [fitB, shapeB, cnt, lenB]; omega]
      clear a0 a1
      go_enter Tryd.func52, Tryd.ntmps52
      go_wp2_with (first | (go_at_call 65; refine (l1each _ _ (by omega) (by omega)).mono ?_; rintro e w2 ⟨rfl, rfl⟩; simp only [show each1 3 = true from rfl]) | (go_at_call 20; refine (l1operands _ _ (by omega) (by omega)).mono ?_; rintro e w2 ⟨rfl, rfl⟩; simp only [show ops1 3 = 2 from rfl]))
      go_ret
      exact ⟨rfl, rfl⟩
    · have b1 : ((lb : Int) == len) = false := beq_eq_false_iff_ne.2 a1
      rw [show fitB 3 len C la lb lc = false by rw [Bool.eq_false_iff]; intro hh; simp [fitB, shapeB, cnt, lenB] at hh; omega]
      clear a0 a1
      go_enter Tryd.func52, Tryd.ntmps52
      go_wp2_with (first | (go_at_call 65; refine (l1each _ _ (by omega) (by omega)).mono ?_; rintro e w2 ⟨rfl, rfl⟩; simp only [show each1 3 = true from rfl]) | (go_at_call 20; refine (l1operands _ _ (by omega) (by omega)).mono ?_; rintro e w2 ⟨rfl, rfl⟩; simp only [show ops1 3 = 2 from rfl]))
      go_ret
      exact ⟨rfl, rfl⟩
  · have b0 : ((la : Int) == len) = false := beq_eq_false_iff_ne.2 a0
    rw [show fitB 3 len C la lb lc = false by rw [Bool.eq_false_iff]; intro hh; simp [fitB, shapeB, cnt, lenB] at hh; omega]
    clear a0
    go_enter Tryd.func52, Tryd.ntmps52
    go_wp2_with (first | (go_at_call 65; refine (l1each _ _ (by omega) (by omega)).mono ?_; rintro e w2 ⟨rfl, rfl⟩; simp only [show each1 3 = true from rfl]) | (go_at_call 20; refine (l1operands _ _ (by omega) (by omega)).mono ?_; rintro e w2 ⟨rfl, rfl⟩; simp only [show ops1 3 = 2 from rfl]))
    go_ret
    exact ⟨rfl, rfl⟩
set_option maxRecDepth 100000 in
set_option maxHeartbeats 2000000 in
theorem fits_4 (w : World) (len A B C : Int) (K la lb lc : Nat) (h1 : 1 ≤ len) (h2 : len ≤ 1000) :
    Calls Tryd.prog 52 #[vagg 4 len A B C K, .int .i64 (la : Int), .int .i64 (lb : Int), .int .i64 (lc : Int)] w fun e w' => e = .returned (.bool (fitB 4 len C la lb lc)) ∧ w' = w.alloc (vbox 4 len A B C K) := by
  by_cases a0 : (la : Int) = len
  · have b0 : ((la : Int) == len) = true := beq_iff_eq.2 a0
    by_cases a1 : (lb : Int) = len
    · have b1 : ((lb : Int) == len) = true := beq_iff_eq.2 a1
      rw [show fitB 4 len C la lb lc = true by simp [fitB, shapeB, cnt, lenB]; omega]
      clear a0 a1
      go_enter Tryd.func52, Tryd.ntmps52
      go_wp2_with (first | (go_at_call 65; refine (l1each _ _ (by omega) (by omega)).mono ?_; rintro e w2 ⟨rfl, rfl⟩; simp only [show each1 4 = true from rfl]) | (go_at_call 20; refine (l1operands _ _ (by omega) (by omega)).mono ?_; rintro e w2 ⟨rfl, rfl⟩; simp only [show ops1 4 = 2 from rfl]))
      go_ret
      exact ⟨rfl, rfl⟩
    · have b1 : ((lb : Int) == len) = false := beq_eq_false_iff_ne.2 a1
      rw [show fitB 4 len C la lb lc = false by rw [Bool.eq_false_iff]; intro hh; simp [fitB, shapeB, cnt, lenB] at hh; omega]
      clear a0 a1
      go_enter Tryd.func52, Tryd.ntmps52
      go_wp2_with (first | (go_at_call 65; refine (l1each _ _ (by omega) (by omega)).mono ?_; rintro e w2 ⟨rfl, rfl⟩; simp only [show each1 4 = true from rfl]) | (go_at_call 20; refine (l1operands _ _ (by omega) (by omega)).mono ?_; rintro e w2 ⟨rfl, rfl⟩; simp only [show ops1 4 = 2 from rfl]))
      go_ret
      exact ⟨rfl, rfl⟩
  · have b0 : ((la : Int) == len) = false := beq_eq_false_iff_ne.2 a0
    rw [show fitB 4 len C la lb lc = false by rw [Bool.eq_false_iff]; intro hh; simp [fitB, shapeB, cnt, lenB] at hh; omega]
    clear a0
    go_enter Tryd.func52, Tryd.ntmps52
    go_wp2_with (first | (go_at_call 65; refine (l1each _ _ (by omega) (by omega)).mono ?_; rintro e w2 ⟨rfl, rfl⟩; simp only [show each1 4 = true from rfl]) | (go_at_call 20; refine (l1operands _ _ (by omega) (by omega)).mono ?_; rintro e w2 ⟨rfl, rfl⟩; simp only [show ops1 4 = 2 from rfl]))
    go_ret
    exact ⟨rfl, rfl⟩
set_option maxRecDepth 100000 in
set_option maxHeartbeats 2000000 in
theorem fits_5 (w : World) (len A B C : Int) (K la lb lc : Nat) (h1 : 1 ≤ len) (h2 : len ≤ 1000) :
    Calls Tryd.prog 52 #[vagg 5 len A B C K, .int .i64 (la : Int), .int .i64 (lb : Int), .int .i64 (lc : Int)] w fun e w' => e = .returned (.bool (fitB 5 len C la lb lc)) ∧ w' = w.alloc (vbox 5 len A B C K) := by
  by_cases a0 : (la : Int) = len
  · have b0 : ((la : Int) == len) = true := beq_iff_eq.2 a0
    by_cases a1 : (lb : Int) = len
    · have b1 : ((lb : Int) == len) = true := beq_iff_eq.2 a1
      rw [show fitB 5 len C la lb lc = true by simp [fitB, shapeB, cnt, lenB]; omega]
      clear a0 a1
      go_enter Tryd.func52, Tryd.ntmps52
      go_wp2_with (first | (go_at_call 65; refine (l1each _ _ (by omega) (by omega)).mono ?_; rintro e w2 ⟨rfl, rfl⟩; simp only [show each1 5 = true from rfl]) | (go_at_call 20; refine (l1operands _ _ (by omega) (by omega)).mono ?_; rintro e w2 ⟨rfl, rfl⟩; simp only [show ops1 5 = 2 from rfl]))
      go_ret
      exact ⟨rfl, rfl⟩
    · have b1 : ((lb : Int) == len) = false := beq_eq_false_iff_ne.2 a1
      rw [show fitB 5 len C la lb lc = false by rw [Bool.eq_false_iff]; intro hh; simp [fitB, shapeB, cnt, lenB] at hh; omega]
      clear a0 a1
      go_enter Tryd.func52, Tryd.ntmps52
      go_wp2_with (first | (go_at_call 65; refine (l1each _ _ (by omega) (by omega)).mono ?_; rintro e w2 ⟨rfl, rfl⟩; simp only [show each1 5 = true from rfl]) | (go_at_call 20; refine (l1operands _ _ (by omega) (by omega)).mono ?_; rintro e w2 ⟨rfl, rfl⟩; simp only [show ops1 5 = 2 from rfl]))
      go_ret
      exact ⟨rfl, rfl⟩
  · have b0 : ((la : Int) == len) = false := beq_eq_false_iff_ne.2 a0
    rw [show fitB 5 len C la lb lc = false by rw [Bool.eq_false_iff]; intro hh; simp [fitB, shapeB, cnt, lenB] at hh; omega]
    clear a0
    go_enter Tryd.func52, Tryd.ntmps52
    go_wp2_with (first | (go_at_call 65; refine (l1each _ _ (by omega) (by omega)).mono ?_; rintro e w2 ⟨rfl, rfl⟩; simp only [show each1 5 = true from rfl]) | (go_at_call 20; refine (l1operands _ _ (by omega) (by omega)).mono ?_; rintro e w2 ⟨rfl, rfl⟩; simp only [show ops1 5 = 2 from rfl]))
    go_ret
    exact ⟨rfl, rfl⟩
set_option maxRecDepth 100000 in
set_option maxHeartbeats 2000000 in
theorem fits_6 (w : World) (len A B C : Int) (K la lb lc : Nat) (h1 : 1 ≤ len) (h2 : len ≤ 1000) :
    Calls Tryd.prog 52 #[vagg 6 len A B C K, .int .i64 (la : Int), .int .i64 (lb : Int), .int .i64 (lc : Int)] w fun e w' => e = .returned (.bool (fitB 6 len C la lb lc)) ∧ w' = w.alloc (vbox 6 len A B C K) := by
  by_cases a0 : (la : Int) = len
  · have b0 : ((la : Int) == len) = true := beq_iff_eq.2 a0
    rw [show fitB 6 len C la lb lc = true by simp [fitB, shapeB, cnt, lenB]; omega]
    clear a0
    go_enter Tryd.func52, Tryd.ntmps52
    go_wp2_with (first | (go_at_call 65; refine (l1each _ _ (by omega) (by omega)).mono ?_; rintro e w2 ⟨rfl, rfl⟩; simp only [show each1 6 = true from rfl]) | (go_at_call 20; refine (l1operands _ _ (by omega) (by omega)).mono ?_; rintro e w2 ⟨rfl, rfl⟩; simp only [show ops1 6 = 1 from rfl]))
    go_ret
    exact ⟨rfl, rfl⟩
  · have b0 : ((la : Int) == len) = false := beq_eq_false_iff_ne.2 a0
    rw [show fitB 6 len C la lb lc = false by rw [Bool.eq_false_iff]; intro hh; simp [fitB, shapeB, cnt, lenB] at hh; omega]
    clear a0
    go_enter Tryd.func52, Tryd.ntmps52
    go_wp2_with (first | (go_at_call 65; refine (l1each _ _ (by omega) (by omega)).mono ?_; rintro e w2 ⟨rfl, rfl⟩; simp only [show each1 6 = true from rfl]) | (go_at_call 20; refine (l1operands _ _ (by omega) (by omega)).mono ?_; rintro e w2 ⟨rfl, rfl⟩; simp only [show ops1 6 = 1 from rfl]))
    go_ret
    exact ⟨rfl, rfl⟩
set_option maxRecDepth 100000 in
set_option maxHeartbeats 2000000 in
theorem fits_7 (w : World) (len A B C : Int) (K la lb lc : Nat) (h1 : 1 ≤ len) (h2 : len ≤ 1000) :
    Calls Tryd.prog 52 #[vagg 7 len A B C K, .int .i64 (la : Int), .int .i64 (lb : Int), .int .i64 (lc : Int)] w fun e w' => e = .returned (.bool (fitB 7 len C la lb lc)) ∧ w' = w.alloc (vbox 7 len A B C K) := by
  by_cases a0 : (la : Int) = len
  · have b0 : ((la : Int) == len) = true := beq_iff_eq.2 a0
    by_cases a1 : (lb : Int) = len
    · have b1 : ((lb : Int) == len) = true := beq_iff_eq.2 a1
      rw [show fitB 7 len C la lb lc = true by simp [fitB, shapeB, cnt, lenB]; omega]
      clear a0 a1
      go_enter Tryd.func52, Tryd.ntmps52
      go_wp2_with (first | (go_at_call 65; refine (l1each _ _ (by omega) (by omega)).mono ?_; rintro e w2 ⟨rfl, rfl⟩; simp only [show each1 7 = true from rfl]) | (go_at_call 20; refine (l1operands _ _ (by omega) (by omega)).mono ?_; rintro e w2 ⟨rfl, rfl⟩; simp only [show ops1 7 = 2 from rfl]))
      go_ret
      exact ⟨rfl, rfl⟩
    · have b1 : ((lb : Int) == len) = false := beq_eq_false_iff_ne.2 a1
      rw [show fitB 7 len C la lb lc = false by rw [Bool.eq_false_iff]; intro hh; simp [fitB, shapeB, cnt, lenB] at hh; omega]
      clear a0 a1
      go_enter Tryd.func52, Tryd.ntmps52
      go_wp2_with (first | (go_at_call 65; refine (l1each _ _ (by omega) (by omega)).mono ?_; rintro e w2 ⟨rfl, rfl⟩; simp only [show each1 7 = true from rfl]) | (go_at_call 20; refine (l1operands _ _ (by omega) (by omega)).mono ?_; rintro e w2 ⟨rfl, rfl⟩; simp only [show ops1 7 = 2 from rfl]))
      go_ret
      exact ⟨rfl, rfl⟩
  · have b0 : ((la : Int) == len) = false := beq_eq_false_iff_ne.2 a0
    rw [show fitB 7 len C la lb lc = false by rw [Bool.eq_false_iff]; intro hh; simp [fitB, shapeB, cnt, lenB] at hh; omega]
    clear a0
    go_enter Tryd.func52, Tryd.ntmps52
    go_wp2_with (first | (go_at_call 65; refine (l1each _ _ (by omega) (by omega)).mono ?_; rintro e w2 ⟨rfl, rfl⟩; simp only [show each1 7 = true from rfl]) | (go_at_call 20; refine (l1operands _ _ (by omega) (by omega)).mono ?_; rintro e w2 ⟨rfl, rfl⟩; simp only [show ops1 7 = 2 from rfl]))
    go_ret
    exact ⟨rfl, rfl⟩
set_option maxRecDepth 100000 in
set_option maxHeartbeats 2000000 in
theorem fits_8 (w : World) (len A B C : Int) (K la lb lc : Nat) (h1 : 1 ≤ len) (h2 : len ≤ 1000) :
    Calls Tryd.prog 52 #[vagg 8 len A B C K, .int .i64 (la : Int), .int .i64 (lb : Int), .int .i64 (lc : Int)] w fun e w' => e = .returned (.bool (fitB 8 len C la lb lc)) ∧ w' = w.alloc (vbox 8 len A B C K) := by
  by_cases a0 : (la : Int) = len
  · have b0 : ((la : Int) == len) = true := beq_iff_eq.2 a0
    by_cases a1 : (lb : Int) = len
    · have b1 : ((lb : Int) == len) = true := beq_iff_eq.2 a1
      by_cases a2 : (lc : Int) = len
      · have b2 : ((lc : Int) == len) = true := beq_iff_eq.2 a2
        rw [show fitB 8 len C la lb lc = true by simp [fitB, shapeB, cnt, lenB]; omega]
        clear a0 a1 a2
        go_enter Tryd.func52, Tryd.ntmps52
        go_wp2_with (first | (go_at_call 65; refine (l1each _ _ (by omega) (by omega)).mono ?_; rintro e w2 ⟨rfl, rfl⟩; simp only [show each1 8 = true from rfl]) | (go_at_call 20; refine (l1operands _ _ (by omega) (by omega)).mono ?_; rintro e w2 ⟨rfl, rfl⟩; simp only [show ops1 8 = 3 from rfl]))
        go_ret
        exact ⟨rfl, rfl⟩
      · have b2 : ((lc : Int) == len) = false := beq_eq_false_iff_ne.2 a2
        rw [show fitB 8 len C la lb lc = false by rw [Bool.eq_false_iff]; intro hh; simp [fitB, shapeB, cnt, lenB] at hh; omega]
        clear a0 a1 a2
        go_enter Tryd.func52, Tryd.ntmps52
        go_wp2_with (first | (go_at_call 65; refine (l1each _ _ (by omega) (by omega)).mono ?_; rintro e w2 ⟨rfl, rfl⟩; simp only [show each1 8 = true from rfl]) | (go_at_call 20; refine (l1operands _ _ (by omega) (by omega)).mono ?_; rintro e w2 ⟨rfl, rfl⟩; simp only [show ops1 8 = 3 from rfl]))
        go_ret
        exact ⟨rfl, rfl⟩
    · have b1 : ((lb : Int) == len) = false := beq_eq_false_iff_ne.2 a1
      rw [show fitB 8 len C la lb lc = false by rw [Bool.eq_false_iff]; intro hh; simp [fitB, shapeB, cnt, lenB] at hh; omega]
      clear a0 a1
      go_enter Tryd.func52, Tryd.ntmps52
      go_wp2_with (first | (go_at_call 65; refine (l1each _ _ (by omega) (by omega)).mono ?_; rintro e w2 ⟨rfl, rfl⟩; simp only [show each1 8 = true from rfl]) | (go_at_call 20; refine (l1operands _ _ (by omega) (by omega)).mono ?_; rintro e w2 ⟨rfl, rfl⟩; simp only [show ops1 8 = 3 from rfl]))
      go_ret
      exact ⟨rfl, rfl⟩
  · have b0 : ((la : Int) == len) = false := beq_eq_false_iff_ne.2 a0
    rw [show fitB 8 len C la lb lc = false by rw [Bool.eq_false_iff]; intro hh; simp [fitB, shapeB, cnt, lenB] at hh; omega]
    clear a0
    go_enter Tryd.func52, Tryd.ntmps52
    go_wp2_with (first | (go_at_call 65; refine (l1each _ _ (by omega) (by omega)).mono ?_; rintro e w2 ⟨rfl, rfl⟩; simp only [show each1 8 = true from rfl]) | (go_at_call 20; refine (l1operands _ _ (by omega) (by omega)).mono ?_; rintro e w2 ⟨rfl, rfl⟩; simp only [show ops1 8 = 3 from rfl]))
    go_ret
    exact ⟨rfl, rfl⟩
set_option maxRecDepth 100000 in
set_option maxHeartbeats 2000000 in
theorem fits_9 (w : World) (len A B C : Int) (K la lb lc : Nat) (h1 : 1 ≤ len) (h2 : len ≤ 1000) :
    Calls Tryd.prog 52 #[vagg 9 len A B C K, .int .i64 (la : Int), .int .i64 (lb : Int), .int .i64 (lc : Int)] w fun e w' => e = .returned (.bool (fitB 9 len C la lb lc)) ∧ w' = w.alloc (vbox 9 len A B C K) := by
  by_cases a0 : len = 1
  · have b0 : (len == 1) = true := beq_iff_eq.2 a0
    by_cases a1 : 1 ≤ (la : Int)
    · have b1 := a1
      by_cases a2 : (la : Int) ≤ 1000
      · have b2 := a2
        rw [show fitB 9 len C la lb lc = true by simp [fitB, shapeB, cnt, lenB]; omega]
        clear a0
        go_enter Tryd.func52, Tryd.ntmps52
        go_wp2_with (first | (go_at_call 65; refine (l1each _ _ (by omega) (by omega)).mono ?_; rintro e w2 ⟨rfl, rfl⟩; simp only [show each1 9 = false from rfl]) | (go_at_call 20; refine (l1operands _ _ (by omega) (by omega)).mono ?_; rintro e w2 ⟨rfl, rfl⟩; simp only [show ops1 9 = 1 from rfl]))
        go_ret
        exact ⟨rfl, rfl⟩
      · have b2 : decide ((la : Int) ≤ 1000) = false := decide_eq_false a2
        rw [show fitB 9 len C la lb lc = false by rw [Bool.eq_false_iff]; intro hh; simp [fitB, shapeB, cnt, lenB] at hh; omega]
        clear a0
        go_enter Tryd.func52, Tryd.ntmps52
        go_wp2_with (first | (go_at_call 65; refine (l1each _ _ (by omega) (by omega)).mono ?_; rintro e w2 ⟨rfl, rfl⟩; simp only [show each1 9 = false from rfl]) | (go_at_call 20; refine (l1operands _ _ (by omega) (by omega)).mono ?_; rintro e w2 ⟨rfl, rfl⟩; simp only [show ops1 9 = 1 from rfl]))
        go_ret
        exact ⟨rfl, rfl⟩
    · have b1 : decide (1 ≤ (la : Int)) = false := decide_eq_false a1
      rw [show fitB 9 len C la lb lc = false by rw [Bool.eq_false_iff]; intro hh; simp [fitB, shapeB, cnt, lenB] at hh; omega]
      clear a0
      go_enter Tryd.func52, Tryd.ntmps52
      go_wp2_with (first | (go_at_call 65; refine (l1each _ _ (by omega) (by omega)).mono ?_; rintro e w2 ⟨rfl, rfl⟩; simp only [show each1 9 = false from rfl]) | (go_at_call 20; refine (l1operands _ _ (by omega) (by omega)).mono ?_; rintro e w2 ⟨rfl, rfl⟩; simp only [show ops1 9 = 1 from rfl]))
      go_ret
      exact ⟨rfl, rfl⟩
  · have b0 : (len == 1) = false := beq_eq_false_iff_ne.2 a0
    rw [show fitB 9 len C la lb lc = false by rw [Bool.eq_false_iff]; intro hh; simp [fitB, shapeB, cnt, lenB] at hh; omega]
    clear a0
    go_enter Tryd.func52, Tryd.ntmps52
    go_wp2_with (first | (go_at_call 65; refine (l1each _ _ (by omega) (by omega)).mono ?_; rintro e w2 ⟨rfl, rfl⟩; simp only [show each1 9 = false from rfl]) | (go_at_call 20; refine (l1operands _ _ (by omega) (by omega)).mono ?_; rintro e w2 ⟨rfl, rfl⟩; simp only [show ops1 9 = 1 from rfl]))
    go_ret
    exact ⟨rfl, rfl⟩
set_option maxRecDepth 100000 in
set_option maxHeartbeats 2000000 in
theorem fits_10 (w : World) (len A B C : Int) (K la lb lc : Nat) (h1 : 1 ≤ len) (h2 : len ≤ 1000) :
    Calls Tryd.prog 52 #[vagg 10 len A B C K, .int .i64 (la : Int), .int .i64 (lb : Int), .int .i64 (lc : Int)] w fun e w' => e = .returned (.bool (fitB 10 len C la lb lc)) ∧ w' = w.alloc (vbox 10 len A B C K) := by
  by_cases a0 : (la : Int) = 1
  · have b0 : ((la : Int) == 1) = true := beq_iff_eq.2 a0
    rw [show fitB 10 len C la lb lc = true by simp [fitB, shapeB, cnt, lenB]; omega]
    clear a0
    go_enter Tryd.func52, Tryd.ntmps52
    go_wp2_with (first | (go_at_call 65; refine (l1each _ _ (by omega) (by omega)).mono ?_; rintro e w2 ⟨rfl, rfl⟩; simp only [show each1 10 = false from rfl]) | (go_at_call 20; refine (l1operands _ _ (by omega) (by omega)).mono ?_; rintro e w2 ⟨rfl, rfl⟩; simp only [show ops1 10 = 1 from rfl]))
    go_ret
    exact ⟨rfl, rfl⟩
  · have b0 : ((la : Int) == 1) = false := beq_eq_false_iff_ne.2 a0
    rw [show fitB 10 len C la lb lc = false by rw [Bool.eq_false_iff]; intro hh; simp [fitB, shapeB, cnt, lenB] at hh; omega]
    clear a0
    go_enter Tryd.func52, Tryd.ntmps52
    go_wp2_with (first | (go_at_call 65; refine (l1each _ _ (by omega) (by omega)).mono ?_; rintro e w2 ⟨rfl, rfl⟩; simp only [show each1 10 = false from rfl]) | (go_at_call 20; refine (l1operands _ _ (by omega) (by omega)).mono ?_; rintro e w2 ⟨rfl, rfl⟩; simp only [show ops1 10 = 1 from rfl]))
    go_ret
    exact ⟨rfl, rfl⟩
set_option maxRecDepth 100000 in
set_option maxHeartbeats 2000000 in
theorem fits_11 (w : World) (len A B C : Int) (K la lb lc : Nat) (h1 : 1 ≤ len) (h2 : len ≤ 1000) :
    Calls Tryd.prog 52 #[vagg 11 len A B C K, .int .i64 (la : Int), .int .i64 (lb : Int), .int .i64 (lc : Int)] w fun e w' => e = .returned (.bool (fitB 11 len C la lb lc)) ∧ w' = w.alloc (vbox 11 len A B C K) := by
  by_cases a0 : len = 1
  · have b0 : (len == 1) = true := beq_iff_eq.2 a0
    by_cases a1 : 1 ≤ (la : Int)
    · have b1 := a1
      by_cases a2 : (la : Int) ≤ 1000
      · have b2 := a2
        by_cases a3 : 0 ≤ C
        · have b3 := a3
          by_cases a4 : C < (la : Int)
          · have b4 := a4
            rw [show fitB 11 len C la lb lc = true by simp [fitB, shapeB, cnt, lenB, idxB]; omega]
            clear a0
            go_enter Tryd.func52, Tryd.ntmps52
            go_wp2_with (first | (go_at_call 65; refine (l1each _ _ (by omega) (by omega)).mono ?_; rintro e w2 ⟨rfl, rfl⟩; simp only [show each1 11 = false from rfl]) | (go_at_call 20; refine (l1operands _ _ (by omega) (by omega)).mono ?_; rintro e w2 ⟨rfl, rfl⟩; simp only [show ops1 11 = 1 from rfl]))
            go_ret
            exact ⟨rfl, rfl⟩
          · have b4 : decide (C < (la : Int)) = false := decide_eq_false a4
            rw [show fitB 11 len C la lb lc = false by rw [Bool.eq_false_iff]; intro hh; simp [fitB, shapeB, cnt, lenB, idxB] at hh; omega]
            clear a0
            go_enter Tryd.func52, Tryd.ntmps52
            go_wp2_with (first | (go_at_call 65; refine (l1each _ _ (by omega) (by omega)).mono ?_; rintro e w2 ⟨rfl, rfl⟩; simp only [show each1 11 = false from rfl]) | (go_at_call 20; refine (l1operands _ _ (by omega) (by omega)).mono ?_; rintro e w2 ⟨rfl, rfl⟩; simp only [show ops1 11 = 1 from rfl]))
            go_ret
            exact ⟨rfl, rfl⟩
        · have b3 : decide (0 ≤ C) = false := decide_eq_false a3
          rw [show fitB 11 len C la lb lc = false by rw [Bool.eq_false_iff]; intro hh; simp [fitB, shapeB, cnt, lenB, idxB] at hh; omega]
          clear a0
          go_enter Tryd.func52, Tryd.ntmps52
          go_wp2_with (first | (go_at_call 65; refine (l1each _ _ (by omega) (by omega)).mono ?_; rintro e w2 ⟨rfl, rfl⟩; simp only [show each1 11 = false from rfl]) | (go_at_call 20; refine (l1operands _ _ (by omega) (by omega)).mono ?_; rintro e w2 ⟨rfl, rfl⟩; simp only [show ops1 11 = 1 from rfl]))
          go_ret
          exact ⟨rfl, rfl⟩
      · have b2 : decide ((la : Int) ≤ 1000) = false := decide_eq_false a2
        rw [show fitB 11 len C la lb lc = false by rw [Bool.eq_false_iff]; intro hh; simp [fitB, shapeB, cnt, lenB, idxB] at hh; omega]
        clear a0
        go_enter Tryd.func52, Tryd.ntmps52
        go_wp2_with (first | (go_at_call 65; refine (l1each _ _ (by omega) (by omega)).mono ?_; rintro e w2 ⟨rfl, rfl⟩; simp only [show each1 11 = false from rfl]) | (go_at_call 20; refine (l1operands _ _ (by omega) (by omega)).mono ?_; rintro e w2 ⟨rfl, rfl⟩; simp only [show ops1 11 = 1 from rfl]))
        go_ret
        exact ⟨rfl, rfl⟩
    · have b1 : decide (1 ≤ (la : Int)) = false := decide_eq_false a1
      rw [show fitB 11 len C la lb lc = false by rw [Bool.eq_false_iff]; intro hh; simp [fitB, shapeB, cnt, lenB, idxB] at hh; omega]
      clear a0
      go_enter Tryd.func52, Tryd.ntmps52
      go_wp2_with (first | (go_at_call 65; refine (l1each _ _ (by omega) (by omega)).mono ?_; rintro e w2 ⟨rfl, rfl⟩; simp only [show each1 11 = false from rfl]) | (go_at_call 20; refine (l1operands _ _ (by omega) (by omega)).mono ?_; rintro e w2 ⟨rfl, rfl⟩; simp only [show ops1 11 = 1 from rfl]))
      go_ret
      exact ⟨rfl, rfl⟩
  · have b0 : (len == 1) = false := beq_eq_false_iff_ne.2 a0
    rw [show fitB 11 len C la lb lc = false by rw [Bool.eq_false_iff]; intro hh; simp [fitB, shapeB, cnt, lenB, idxB] at hh; omega]
    clear a0
    go_enter Tryd.func52, Tryd.ntmps52
    go_wp2_with (first | (go_at_call 65; refine (l1each _ _ (by omega) (by omega)).mono ?_; rintro e w2 ⟨rfl, rfl⟩; simp only [show each1 11 = false from rfl]) | (go_at_call 20; refine (l1operands _ _ (by omega) (by omega)).mono ?_; rintro e w2 ⟨rfl, rfl⟩; simp only [show ops1 11 = 1 from rfl]))
    go_ret
    exact ⟨rfl, rfl⟩
set_option maxRecDepth 100000 in
set_option maxHeartbeats 2000000 in
theorem fits_12 (w : World) (len A B C : Int) (K la lb lc : Nat) (h1 : 1 ≤ len) (h2 : len ≤ 1000) :
    Calls Tryd.prog 52 #[vagg 12 len A B C K, .int .i64 (la : Int), .int .i64 (lb : Int), .int .i64 (lc : Int)] w fun e w' => e = .returned (.bool (fitB 12 len C la lb lc)) ∧ w' = w.alloc (vbox 12 len A B C K) := by
  by_cases a0 : (la : Int) = 1
  · have b0 : ((la : Int) == 1) = true := beq_iff_eq.2 a0
    by_cases a1 : 0 ≤ C
    · have b1 := a1
      by_cases a2 : C < len
      · have b2 := a2
        rw [show fitB 12 len C la lb lc = true by simp [fitB, shapeB, cnt, lenB, idxB]; omega]
        clear a0
        go_enter Tryd.func52, Tryd.ntmps52
        go_wp2_with (first | (go_at_call 65; refine (l1each _ _ (by omega) (by omega)).mono ?_; rintro e w2 ⟨rfl, rfl⟩; simp only [show each1 12 = false from rfl]) | (go_at_call 20; refine (l1operands _ _ (by omega) (by omega)).mono ?_; rintro e w2 ⟨rfl, rfl⟩; simp only [show ops1 12 = 1 from rfl]))
        go_ret
        exact ⟨rfl, rfl⟩
      · have b2 : decide (C < len) = false := decide_eq_false a2
        rw [show fitB 12 len C la lb lc = false by rw [Bool.eq_false_iff]; intro hh; simp [fitB, shapeB, cnt, lenB, idxB] at hh; omega]
        clear a0
        go_enter Tryd.func52, Tryd.ntmps52
        go_wp2_with (first | (go_at_call 65; refine (l1each _ _ (by omega) (by omega)).mono ?_; rintro e w2 ⟨rfl, rfl⟩; simp only [show each1 12 = false from rfl]) | (go_at_call 20; refine (l1operands _ _ (by omega) (by omega)).mono ?_; rintro e w2 ⟨rfl, rfl⟩; simp only [show ops1 12 = 1 from rfl]))
        go_ret
        exact ⟨rfl, rfl⟩
    · have b1 : decide (0 ≤ C) = false := decide_eq_false a1
      rw [show fitB 12 len C la lb lc = false by rw [Bool.eq_false_iff]; intro hh; simp [fitB, shapeB, cnt, lenB, idxB] at hh; omega]
      clear a0
      go_enter Tryd.func52, Tryd.ntmps52
      go_wp2_with (first | (go_at_call 65; refine (l1each _ _ (by omega) (by omega)).mono ?_; rintro e w2 ⟨rfl, rfl⟩; simp only [show each1 12 = false from rfl]) | (go_at_call 20; refine (l1operands _ _ (by omega) (by omega)).mono ?_; rintro e w2 ⟨rfl, rfl⟩; simp only [show ops1 12 = 1 from rfl]))
      go_ret
      exact ⟨rfl, rfl⟩
  · have b0 : ((la : Int) == 1) = false := beq_eq_false_iff_ne.2 a0
    rw [show fitB 12 len C la lb lc = false by rw [Bool.eq_false_iff]; intro hh; simp [fitB, shapeB, cnt, lenB, idxB] at hh; omega]
    clear a0
    go_enter Tryd.func52, Tryd.ntmps52
    go_wp2_with (first | (go_at_call 65; refine (l1each _ _ (by omega) (by omega)).mono ?_; rintro e w2 ⟨rfl, rfl⟩; simp only [show each1 12 = false from rfl]) | (go_at_call 20; refine (l1operands _ _ (by omega) (by omega)).mono ?_; rintro e w2 ⟨rfl, rfl⟩; simp only [show ops1 12 = 1 from rfl]))
    go_ret
    exact ⟨rfl, rfl⟩
set_option maxRecDepth 100000 in
set_option maxHeartbeats 2000000 in
theorem fits_13 (w : World) (len A B C : Int) (K la lb lc : Nat) (h1 : 1 ≤ len) (h2 : len ≤ 1000) :
    Calls Tryd.prog 52 #[vagg 13 len A B C K, .int .i64 (la : Int), .int .i64 (lb : Int), .int .i64 (lc : Int)] w fun e w' => e = .returned (.bool (fitB 13 len C la lb lc)) ∧ w' = w.alloc (vbox 13 len A B C K) := by
  by_cases a0 : (la : Int) = len
  · have b0 : ((la : Int) == len) = true := beq_iff_eq.2 a0
    rw [show fitB 13 len C la lb lc = true by simp [fitB, shapeB, cnt, lenB]; omega]
    clear a0
    go_enter Tryd.func52, Tryd.ntmps52
    go_wp2_with (first | (go_at_call 65; refine (l1each _ _ (by omega) (by omega)).mono ?_; rintro e w2 ⟨rfl, rfl⟩; simp only [show each1 13 = true from rfl]) | (go_at_call 20; refine (l1operands _ _ (by omega) (by omega)).mono ?_; rintro e w2 ⟨rfl, rfl⟩; simp only [show ops1 13 = 1 from rfl]))
    go_ret
    exact ⟨rfl, rfl⟩
  · have b0 : ((la : Int) == len) = false := beq_eq_false_iff_ne.2 a0
    rw [show fitB 13 len C la lb lc = false by rw [Bool.eq_false_iff]; intro hh; simp [fitB, shapeB, cnt, lenB] at hh; omega]
    clear a0
    go_enter Tryd.func52, Tryd.ntmps52
    go_wp2_with (first | (go_at_call 65; refine (l1each _ _ (by omega) (by omega)).mono ?_; rintro e w2 ⟨rfl, rfl⟩; simp only [show each1 13 = true from rfl]) | (go_at_call 20; refine (l1operands _ _ (by omega) (by omega)).mono ?_; rintro e w2 ⟨rfl, rfl⟩; simp only [show ops1 13 = 1 from rfl]))
    go_ret
    exact ⟨rfl, rfl⟩
set_option maxRecDepth 100000 in
set_option maxHeartbeats 2000000 in
theorem fits_bad (w : World) (op len A B C : Int) (K la lb lc : Nat) (h : ¬ (1 ≤ op ∧ op ≤ 13 ∧ 1 ≤ len ∧ len ≤ 1000)) :
    Calls Tryd.prog 52 #[vagg op len A B C K, .int .i64 (la : Int), .int .i64 (lb : Int), .int .i64 (lc : Int)] w fun e w' => e = .returned (.bool false) ∧ w' = w.alloc (vbox op len A B C K) := by
  by_cases a0 : op < 1
  · go_enter Tryd.func52, Tryd.ntmps52
    go_wp2
    go_ret
    exact ⟨rfl, rfl⟩
  · have b0 : decide (op < 1) = false := decide_eq_false a0
    by_cases a1 : 13 < op
    · go_enter Tryd.func52, Tryd.ntmps52
      go_wp2
      go_ret
      exact ⟨rfl, rfl⟩
    · have b1 : decide (13 < op) = false := decide_eq_false a1
      by_cases a2 : len < 1
      · go_enter Tryd.func52, Tryd.ntmps52
        go_wp2
        go_ret
        exact ⟨rfl, rfl⟩
      · have b2 : decide (len < 1) = false := decide_eq_false a2
        have a3 : 1000 < len := by omega
        go_enter Tryd.func52, Tryd.ntmps52
        go_wp2
        go_ret
        exact ⟨rfl, rfl⟩
theorem fitB_bad (op len C : Int) (la lb lc : Nat) (h : ¬ (1 ≤ op ∧ op ≤ 13 ∧ 1 ≤ len ∧ len ≤ 1000)) : fitB op len C la lb lc = false := by
  rw [Bool.eq_false_iff]
  intro hh
  apply h
  simp only [fitB, Bool.and_eq_true] at hh
  obtain ⟨h1, h2⟩ := hh
  simp only [lenB, decide_eq_true_eq] at h1
  rcases op_cases op with c | c | c | c | c | c | c | c | c | c | c | c | c | c
  all_goals first | omega | skip
  obtain ⟨_, _, _, _, _, _, _, _, h9, h10, h11, h12, _⟩ := c
  unfold shapeB at h2
  rw [if_neg h9, if_neg h10, if_neg h11, if_neg h12] at h2
  split at h2
  · omega
  · cases h2
theorem l1fits (w : World) (op len A B C : Int) (K la lb lc : Nat) :
    Calls Tryd.prog 52 #[vagg op len A B C K, .int .i64 (la : Int), .int .i64 (lb : Int), .int .i64 (lc : Int)] w fun e w' => e = .returned (.bool (fitB op len C la lb lc)) ∧ w' = w.alloc (vbox op len A B C K) := by
  by_cases h : 1 ≤ op ∧ op ≤ 13 ∧ 1 ≤ len ∧ len ≤ 1000
  · obtain ⟨h1, h2, h3, h4⟩ := h
    have : op = 1 ∨ op = 2 ∨ op = 3 ∨ op = 4 ∨ op = 5 ∨ op = 6 ∨ op = 7 ∨ op = 8 ∨ op = 9 ∨ op = 10 ∨ op = 11 ∨ op = 12 ∨ op = 13 := by omega
    rcases this with rfl | rfl | rfl | rfl | rfl | rfl | rfl | rfl | rfl | rfl | rfl | rfl | rfl
    · exact fits_1 w len A B C K la lb lc h3 h4
    · exact fits_2 w len A B C K la lb lc h3 h4
    · exact fits_3 w len A B C K la lb lc h3 h4
    · exact fits_4 w len A B C K la lb lc h3 h4
    · exact fits_5 w len A B C K la lb lc h3 h4
    · exact fits_6 w len A B C K la lb lc h3 h4
    · exact fits_7 w len A B C K la lb lc h3 h4
    · exact fits_8 w len A B C K la lb lc h3 h4
    · exact fits_9 w len A B C K la lb lc h3 h4
    · exact fits_10 w len A B C K la lb lc h3 h4
    · exact fits_11 w len A B C K la lb lc h3 h4
    · exact fits_12 w len A B C K la lb lc h3 h4
    · exact fits_13 w len A B C K la lb lc h3 h4
  · rw [fitB_bad op len C la lb lc h]
    exact fits_bad w op len A B C K la lb lc h
end Go.Proofs.YtiiimofkkahobaaDoor

namespace Go.Proofs.YtiiimofkkahobaaDoor
open Go.RowKit Flt
attribute [local go_sem] alloc_drewN setCell_drewN run_store_float

theorem l1each_r (op : Int) (w : World) (h0 : 0 ≤ op) (h1 : op ≤ 13) : Calls Tryd.prog 65 #[.int .i64 op] w fun e w' => e = .returned (.bool (each1 op)) ∧ w = w' :=
  (l1each op w h0 h1).mono fun _ _ h => ⟨h.1, h.2.symm⟩
theorem l1operands_r (op : Int) (w : World) (h0 : 0 ≤ op) (h1 : op ≤ 13) : Calls Tryd.prog 20 #[.int .i64 op] w fun e w' => e = .returned (.int .i64 (ops1 op : Nat)) ∧ w = w' :=
  (l1operands op w h0 h1).mono fun _ _ h => ⟨h.1, h.2.symm⟩
/-- A list that grows by append: its first k elements stand, in the call's own blocks. -/
def Grow (w1 : World) (k : Nat) (q : Nat → Nat) (v : Value) (W : World) : Prop :=
  ∃ zs : List Nat, W.ownsRow w1.heap.size 42 1 v k (zs.map (Value.float .f64)) ∧ zs.length = k ∧ (∀ z ∈ zs, z < 18446744073709551616) ∧ (∀ j, j < k → fb (zs.getD j 0) = fb (q j)) ∧ Kept 0 0 w1 W
theorem grow_start (w1 : World) (q : Nat → Nat) : Grow w1 0 q (.slice none 0 0) w1 :=
  ⟨[], World.ownsRow_nil _ _ _ _, rfl, by simp, fun j hj => by omega, Kept.refl _ _ _⟩
theorem Grow.kept {w1 : World} {k : Nat} {q : Nat → Nat} {v : Value} {W : World} (h : Grow w1 k q v W) : Kept 0 0 w1 W := by
  obtain ⟨_, _, _, _, _, h⟩ := h; exact h
theorem own_drawn {base e size n : Nat} {v : Value} {xs : List Value} {W W' : World} (h : W.ownsRow base e size v n xs) (d : Drawn W W') : W'.ownsRow base e size v n xs := by
  obtain ⟨m, rfl⟩ := d; exact h
theorem Grow.step {w1 : World} {k : Nat} {q : Nat → Nat} {v : Value} {W : World} {zs : List Nat} {z : Nat}
    (hown : W.ownsRow w1.heap.size 42 1 v k (zs.map (Value.float .f64))) (hl : zs.length = k) (hlt : ∀ z ∈ zs, z < 18446744073709551616) (hq : ∀ j, j < k → fb (zs.getD j 0) = fb (q j)) (hK : Kept 0 0 w1 W)
    (hz : z < 18446744073709551616) (hzq : fb z = fb (q k)) {v' : Value} {w' : World} {o : Obj}
    (hown' : w'.ownsRow w1.heap.size 42 1 v' (k + 1) (zs.map (Value.float .f64) ++ [Value.float .f64 z])) (hg : (W.alloc o).grownBy w' v.ownBlock) : Grow w1 (k + 1) q v' w' := by
  refine ⟨zs ++ [z], by rw [List.map_append]; exact hown', by simp [hl], ?_, ?_, ?_⟩
  · intro x hx
    rcases List.mem_append.1 hx with c | c
    · exact hlt x c
    · simp at c; rw [c]; exact hz
  · intro j hj
    rw [List.getD_eq_getElem?_getD, List.getElem?_append]
    by_cases c : j < zs.length
    · rw [if_pos c, ← List.getD_eq_getElem?_getD]; exact hq j (by omega)
    · rw [if_neg c, show j - zs.length = 0 by omega]
      have : j = k := by omega
      subst this
      exact hzq
  · refine ⟨hg.os.trans hK.os, hg.tape.trans hK.tape, hg.output.trans hK.output, ?_, fun i hi _ => ?_⟩
    · have := hg.size
      have h2 := hK.size
      simp at this
      omega
    · have h2 := hK.size
      rw [hg.block i (by simp; omega) (fun c => by have := hown.lt i c.symm; omega), Below.heap_alloc W o i (by omega)]
      exact hK.block i hi (by omega)

/-- A list of floats in new memory that is only read, element k the same as q k. -/
def KS (n : Nat) (q : Nat → Nat) (w : World) (e : Ending) (w' : World) : Prop :=
  ∃ (a : Option Addr) (cap : Nat) (zs : List Nat), e = .returned (.slice a n cap) ∧ FS w' w.heap.size w'.heap.size a n zs ∧ (∀ k, k < n → fb (zs.getD k 0) = fb (q k)) ∧ Kept 0 0 w w' ∧ n ≤ cap
theorem Grow.done {w w1 : World} {n : Nat} {q : Nat → Nat} {v : Value} {W : World} (h : Grow w1 n q v W) (h1 : 1 ≤ n) (hk : Kept 0 0 w w1) : KS n q w (.returned v) W := by
  obtain ⟨zs, ⟨_, ho⟩, h2, h3, h4, h5⟩ := h
  rcases ho with ⟨_, c⟩ | ⟨g, cap, cur, rfl, b1, b2, b3, _, b5, b6⟩
  · omega
  · have hs : w.heap.size ≤ g := by have := hk.size; omega
    have hg : g < W.heap.size := by
      rcases Nat.lt_or_ge g W.heap.size with c | c
      · exact c
      · rw [Array.getElem?_eq_none c] at b2; cases b2
    refine ⟨_, cap, zs, rfl, ⟨h2, h3, .inr ⟨g, 0, rfl, hs, hg, hg, fun k hk' => ?_⟩⟩, h4, hk.trans h5, b3⟩
    rw [cell_of_row W g _ cur _ _ b2, Nat.zero_add, ← Array.getElem?_toList]
    have : (cur.toList.take (n * 1))[k]? = (zs.map (Value.float .f64))[k]? := by rw [b6]
    rw [List.getElem?_take_of_lt (by omega)] at this
    rw [this, List.getElem?_map, List.getElem?_eq_getElem (by omega : k < zs.length)]
    simp [List.getD_eq_getElem?_getD, List.getElem?_eq_getElem (by omega : k < zs.length)]

end Go.Proofs.YtiiimofkkahobaaDoor
