import Derived.Test.YtcphabjekfihnaaP13
import Derived.Test.YtcphabjekfihnaaP09
namespace Go.Proofs.Ytcphabjekfihnaa
open Go.RowKit Flt
attribute [local go_sem] alloc_drewN setCell_drewN run_store_float

set_option maxRecDepth 100000 in
set_option maxHeartbeats 2000000 in
theorem fits_1 (w : World) (len A B C : Int) (K la lb lc : Nat) (h1 : 1 ≤ len) (h2 : len ≤ 1000) :
    Calls Try.prog 77 #[vagg 1 len A B C K, .int .i64 (la : Int), .int .i64 (lb : Int), .int .i64 (lc : Int)] w fun e w' => e = .returned (.bool (fitB 1 len C la lb lc)) ∧ w' = w.alloc (vbox 1 len A B C K) := by
  rw [show fitB 1 len C la lb lc = true by simp [fitB, shapeB, cnt, lenB]; omega]
  go_enter Try.func77, Try.ntmps77
  go_wp2_with (first | (go_at_call 78; refine (l1each _ _ (by omega) (by omega)).mono ?_; rintro e w2 ⟨rfl, rfl⟩; simp only [show each1 1 = false from rfl]) | (go_at_call 79; refine (l1operands _ _ (by omega) (by omega)).mono ?_; rintro e w2 ⟨rfl, rfl⟩; simp only [show ops1 1 = 0 from rfl]))
  go_ret
  exact ⟨rfl, rfl⟩
set_option maxRecDepth 100000 in
set_option maxHeartbeats 2000000 in
theorem fits_2 (w : World) (len A B C : Int) (K la lb lc : Nat) (h1 : 1 ≤ len) (h2 : len ≤ 1000) :
    Calls Try.prog 77 #[vagg 2 len A B C K, .int .i64 (la : Int), .int .i64 (lb : Int), .int .i64 (lc : Int)] w fun e w' => e = .returned (.bool (fitB 2 len C la lb lc)) ∧ w' = w.alloc (vbox 2 len A B C K) := by
  by_cases a0 : (la : Int) = len
  · have b0 : ((la : Int) == len) = true := beq_iff_eq.2 a0
    by_cases a1 : (lb : Int) = len
    · have b1 : ((lb : Int) == len) = true := beq_iff_eq.2 a1
      rw [show fitB 2 len C la lb lc = true by simp [fitB, shapeB, cnt, lenB]; omega]
      clear a0 a1
      go_enter Try.func77, Try.ntmps77
      go_wp2_with (first | (go_at_call 78; refine (l1each _ _ (by omega) (by omega)).mono ?_; rintro e w2 ⟨rfl, rfl⟩; simp only [show each1 2 = true from rfl]) | (go_at_call 79; refine (l1operands _ _ (by omega) (by omega)).mono ?_; rintro e w2 ⟨rfl, rfl⟩; simp only [show ops1 2 = 2 from rfl]))
      go_ret
      exact ⟨rfl, rfl⟩
    · have b1 : ((lb : Int) == len) = false := beq_eq_false_iff_ne.2 a1
      rw [show fitB 2 len C la lb lc = false by rw [Bool.eq_false_iff]; intro hh; simp [fitB, shapeB, cnt, lenB] at hh; omega]
      clear a0 a1
      go_enter Try.func77, Try.ntmps77
      go_wp2_with (first | (go_at_call 78; refine (l1each _ _ (by omega) (by omega)).mono ?_; rintro e w2 ⟨rfl, rfl⟩; simp only [show each1 2 = true from rfl]) | (go_at_call 79; refine (l1operands _ _ (by omega) (by omega)).mono ?_; rintro e w2 ⟨rfl, rfl⟩; simp only [show ops1 2 = 2 from rfl]))
      go_ret
      exact ⟨rfl, rfl⟩
  · have b0 : ((la : Int) == len) = false := beq_eq_false_iff_ne.2 a0
    rw [show fitB 2 len C la lb lc = false by rw [Bool.eq_false_iff]; intro hh; simp [fitB, shapeB, cnt, lenB] at hh; omega]
    clear a0
    go_enter Try.func77, Try.ntmps77
    go_wp2_with (first | (go_at_call 78; refine (l1each _ _ (by omega) (by omega)).mono ?_; rintro e w2 ⟨rfl, rfl⟩; simp only [show each1 2 = true from rfl]) | (go_at_call 79; refine (l1operands _ _ (by omega) (by omega)).mono ?_; rintro e w2 ⟨rfl, rfl⟩; simp only [show ops1 2 = 2 from rfl]))
    go_ret
    exact ⟨rfl, rfl⟩
set_option maxRecDepth 100000 in
set_option maxHeartbeats 2000000 in
theorem fits_3 (w : World) (len A B C : Int) (K la lb lc : Nat) (h1 : 1 ≤ len) (h2 : len ≤ 1000) :
    Calls Try.prog 77 #[vagg 3 len A B C K, .int .i64 (la : Int), .int .i64 (lb : Int), .int .i64 (lc : Int)] w fun e w' => e = .returned (.bool (fitB 3 len C la lb lc)) ∧ w' = w.alloc (vbox 3 len A B C K) := by
  by_cases a0 : (la : Int) = len
  · have b0 : ((la : Int) == len) = true := beq_iff_eq.2 a0
    by_cases a1 : (lb : Int) = len
    · have b1 : ((lb : Int) == len) = true := beq_iff_eq.2 a1
      rw [show fitB 3 len C la lb lc = true by simp [fitB, shapeB, cnt, lenB]; omega]
      clear a0 a1
      go_enter Try.func77, Try.ntmps77
      go_wp2_with (first | (go_at_call 78; refine (l1each _ _ (by omega) (by omega)).mono ?_; rintro e w2 ⟨rfl, rfl⟩; simp only [show each1 3 = true from rfl]) | (go_at_call 79; refine (l1operands _ _ (by omega) (by omega)).mono ?_; rintro e w2 ⟨rfl, rfl⟩; simp only [show ops1 3 = 2 from rfl]))
      go_ret
      exact ⟨rfl, rfl⟩
    · have b1 : ((lb : Int) == len) = false := beq_eq_false_iff_ne.2 a1
      rw [show fitB 3 len C la lb lc = false by rw [Bool.eq_false_iff]; intro hh; simp [fitB, shapeB, cnt, lenB] at hh; omega]
      clear a0 a1
      go_enter Try.func77, Try.ntmps77
      go_wp2_with (first | (go_at_call 78; refine (l1each _ _ (by omega) (by omega)).mono ?_; rintro e w2 ⟨rfl, rfl⟩; simp only [show each1 3 = true from rfl]) | (go_at_call 79; refine (l1operands _ _ (by omega) (by omega)).mono ?_; rintro e w2 ⟨rfl, rfl⟩; simp only [show ops1 3 = 2 from rfl]))
      go_ret
      exact ⟨rfl, rfl⟩
  · have b0 : ((la : Int) == len) = false := beq_eq_false_iff_ne.2 a0
    rw [show fitB 3 len C la lb lc = false by rw [Bool.eq_false_iff]; intro hh; simp [fitB, shapeB, cnt, lenB] at hh; omega]
    clear a0
    go_enter Try.func77, Try.ntmps77
    go_wp2_with (first | (go_at_call 78; refine (l1each _ _ (by omega) (by omega)).mono ?_; rintro e w2 ⟨rfl, rfl⟩; simp only [show each1 3 = true from rfl]) | (go_at_call 79; refine (l1operands _ _ (by omega) (by omega)).mono ?_; rintro e w2 ⟨rfl, rfl⟩; simp only [show ops1 3 = 2 from rfl]))
    go_ret
    exact ⟨rfl, rfl⟩
set_option maxRecDepth 100000 in
set_option maxHeartbeats 2000000 in
theorem fits_4 (w : World) (len A B C : Int) (K la lb lc : Nat) (h1 : 1 ≤ len) (h2 : len ≤ 1000) :
    Calls Try.prog 77 #[vagg 4 len A B C K, .int .i64 (la : Int), .int .i64 (lb : Int), .int .i64 (lc : Int)] w fun e w' => e = .returned (.bool (fitB 4 len C la lb lc)) ∧ w' = w.alloc (vbox 4 len A B C K) := by
  by_cases a0 : (la : Int) = len
  · have b0 : ((la : Int) == len) = true := beq_iff_eq.2 a0
    by_cases a1 : (lb : Int) = len
    · have b1 : ((lb : Int) == len) = true := beq_iff_eq.2 a1
      rw [show fitB 4 len C la lb lc = true by simp [fitB, shapeB, cnt, lenB]; omega]
      clear a0 a1
      go_enter Try.func77, Try.ntmps77
      go_wp2_with (first | (go_at_call 78; refine (l1each _ _ (by omega) (by omega)).mono ?_; rintro e w2 ⟨rfl, rfl⟩; simp only [show each1 4 = true from rfl]) | (go_at_call 79; refine (l1operands _ _ (by omega) (by omega)).mono ?_; rintro e w2 ⟨rfl, rfl⟩; simp only [show ops1 4 = 2 from rfl]))
      go_ret
      exact ⟨rfl, rfl⟩
    · have b1 : ((lb : Int) == len) = false := beq_eq_false_iff_ne.2 a1
      rw [show fitB 4 len C la lb lc = false by rw [Bool.eq_false_iff]; intro hh; simp [fitB, shapeB, cnt, lenB] at hh; omega]
      clear a0 a1
      go_enter Try.func77, Try.ntmps77
      go_wp2_with (first | (go_at_call 78; refine (l1each _ _ (by omega) (by omega)).mono ?_; rintro e w2 ⟨rfl, rfl⟩; simp only [show each1 4 = true from rfl]) | (go_at_call 79; refine (l1operands _ _ (by omega) (by omega)).mono ?_; rintro e w2 ⟨rfl, rfl⟩; simp only [show ops1 4 = 2 from rfl]))
      go_ret
      exact ⟨rfl, rfl⟩
  · have b0 : ((la : Int) == len) = false := beq_eq_false_iff_ne.2 a0
    rw [show fitB 4 len C la lb lc = false by rw [Bool.eq_false_iff]; intro hh; simp [fitB, shapeB, cnt, lenB] at hh; omega]
    clear a0
    go_enter Try.func77, Try.ntmps77
    go_wp2_with (first | (go_at_call 78; refine (l1each _ _ (by omega) (by omega)).mono ?_; rintro e w2 ⟨rfl, rfl⟩; simp only [show each1 4 = true from rfl]) | (go_at_call 79; refine (l1operands _ _ (by omega) (by omega)).mono ?_; rintro e w2 ⟨rfl, rfl⟩; simp only [show ops1 4 = 2 from rfl]))
    go_ret
    exact ⟨rfl, rfl⟩
set_option maxRecDepth 100000 in
set_option maxHeartbeats 2000000 in
theorem fits_5 (w : World) (len A B C : Int) (K la lb lc : Nat) (h1 : 1 ≤ len) (h2 : len ≤ 1000) :
    Calls Try.prog 77 #[vagg 5 len A B C K, .int .i64 (la : Int), .int .i64 (lb : Int), .int .i64 (lc : Int)] w fun e w' => e = .returned (.bool (fitB 5 len C la lb lc)) ∧ w' = w.alloc (vbox 5 len A B C K) := by
  by_cases a0 : (la : Int) = len
  · have b0 : ((la : Int) == len) = true := beq_iff_eq.2 a0
    by_cases a1 : (lb : Int) = len
    · have b1 : ((lb : Int) == len) = true := beq_iff_eq.2 a1
      rw [show fitB 5 len C la lb lc = true by simp [fitB, shapeB, cnt, lenB]; omega]
      clear a0 a1
      go_enter Try.func77, Try.ntmps77
      go_wp2_with (first | (go_at_call 78; refine (l1each _ _ (by omega) (by omega)).mono ?_; rintro e w2 ⟨rfl, rfl⟩; simp only [show each1 5 = true from rfl]) | (go_at_call 79; refine (l1operands _ _ (by omega) (by omega)).mono ?_; rintro e w2 ⟨rfl, rfl⟩; simp only [show ops1 5 = 2 from rfl]))
      go_ret
      exact ⟨rfl, rfl⟩
    · have b1 : ((lb : Int) == len) = false := beq_eq_false_iff_ne.2 a1
      rw [show fitB 5 len C la lb lc = false by rw [Bool.eq_false_iff]; intro hh; simp [fitB, shapeB, cnt, lenB] at hh; omega]
      clear a0 a1
      go_enter Try.func77, Try.ntmps77
      go_wp2_with (first | (go_at_call 78; refine (l1each _ _ (by omega) (by omega)).mono ?_; rintro e w2 ⟨rfl, rfl⟩; simp only [show each1 5 = true from rfl]) | (go_at_call 79; refine (l1operands _ _ (by omega) (by omega)).mono ?_; rintro e w2 ⟨rfl, rfl⟩; simp only [show ops1 5 = 2 from rfl]))
      go_ret
      exact ⟨rfl, rfl⟩
  · have b0 : ((la : Int) == len) = false := beq_eq_false_iff_ne.2 a0
    rw [show fitB 5 len C la lb lc = false by rw [Bool.eq_false_iff]; intro hh; simp [fitB, shapeB, cnt, lenB] at hh; omega]
    clear a0
    go_enter Try.func77, Try.ntmps77
    go_wp2_with (first | (go_at_call 78; refine (l1each _ _ (by omega) (by omega)).mono ?_; rintro e w2 ⟨rfl, rfl⟩; simp only [show each1 5 = true from rfl]) | (go_at_call 79; refine (l1operands _ _ (by omega) (by omega)).mono ?_; rintro e w2 ⟨rfl, rfl⟩; simp only [show ops1 5 = 2 from rfl]))
    go_ret
    exact ⟨rfl, rfl⟩
set_option maxRecDepth 100000 in
set_option maxHeartbeats 2000000 in
theorem fits_6 (w : World) (len A B C : Int) (K la lb lc : Nat) (h1 : 1 ≤ len) (h2 : len ≤ 1000) :
    Calls Try.prog 77 #[vagg 6 len A B C K, .int .i64 (la : Int), .int .i64 (lb : Int), .int .i64 (lc : Int)] w fun e w' => e = .returned (.bool (fitB 6 len C la lb lc)) ∧ w' = w.alloc (vbox 6 len A B C K) := by
  by_cases a0 : (la : Int) = len
  · have b0 : ((la : Int) == len) = true := beq_iff_eq.2 a0
    rw [show fitB 6 len C la lb lc = true by simp [fitB, shapeB, cnt, lenB]; omega]
    clear a0
    go_enter Try.func77, Try.ntmps77
    go_wp2_with (first | (go_at_call 78; refine (l1each _ _ (by omega) (by omega)).mono ?_; rintro e w2 ⟨rfl, rfl⟩; simp only [show each1 6 = true from rfl]) | (go_at_call 79; refine (l1operands _ _ (by omega) (by omega)).mono ?_; rintro e w2 ⟨rfl, rfl⟩; simp only [show ops1 6 = 1 from rfl]))
    go_ret
    exact ⟨rfl, rfl⟩
  · have b0 : ((la : Int) == len) = false := beq_eq_false_iff_ne.2 a0
    rw [show fitB 6 len C la lb lc = false by rw [Bool.eq_false_iff]; intro hh; simp [fitB, shapeB, cnt, lenB] at hh; omega]
    clear a0
    go_enter Try.func77, Try.ntmps77
    go_wp2_with (first | (go_at_call 78; refine (l1each _ _ (by omega) (by omega)).mono ?_; rintro e w2 ⟨rfl, rfl⟩; simp only [show each1 6 = true from rfl]) | (go_at_call 79; refine (l1operands _ _ (by omega) (by omega)).mono ?_; rintro e w2 ⟨rfl, rfl⟩; simp only [show ops1 6 = 1 from rfl]))
    go_ret
    exact ⟨rfl, rfl⟩
set_option maxRecDepth 100000 in
set_option maxHeartbeats 2000000 in
theorem fits_7 (w : World) (len A B C : Int) (K la lb lc : Nat) (h1 : 1 ≤ len) (h2 : len ≤ 1000) :
    Calls Try.prog 77 #[vagg 7 len A B C K, .int .i64 (la : Int), .int .i64 (lb : Int), .int .i64 (lc : Int)] w fun e w' => e = .returned (.bool (fitB 7 len C la lb lc)) ∧ w' = w.alloc (vbox 7 len A B C K) := by
  by_cases a0 : (la : Int) = len
  · have b0 : ((la : Int) == len) = true := beq_iff_eq.2 a0
    by_cases a1 : (lb : Int) = len
    · have b1 : ((lb : Int) == len) = true := beq_iff_eq.2 a1
      rw [show fitB 7 len C la lb lc = true by simp [fitB, shapeB, cnt, lenB]; omega]
      clear a0 a1
      go_enter Try.func77, Try.ntmps77
      go_wp2_with (first | (go_at_call 78; refine (l1each _ _ (by omega) (by omega)).mono ?_; rintro e w2 ⟨rfl, rfl⟩; simp only [show each1 7 = true from rfl]) | (go_at_call 79; refine (l1operands _ _ (by omega) (by omega)).mono ?_; rintro e w2 ⟨rfl, rfl⟩; simp only [show ops1 7 = 2 from rfl]))
      go_ret
      exact ⟨rfl, rfl⟩
    · have b1 : ((lb : Int) == len) = false := beq_eq_false_iff_ne.2 a1
      rw [show fitB 7 len C la lb lc = false by rw [Bool.eq_false_iff]; intro hh; simp [fitB, shapeB, cnt, lenB] at hh; omega]
      clear a0 a1
      go_enter Try.func77, Try.ntmps77
      go_wp2_with (first | (go_at_call 78; refine (l1each _ _ (by omega) (by omega)).mono ?_; rintro e w2 ⟨rfl, rfl⟩; simp only [show each1 7 = true from rfl]) | (go_at_call 79; refine (l1operands _ _ (by omega) (by omega)).mono ?_; rintro e w2 ⟨rfl, rfl⟩; simp only [show ops1 7 = 2 from rfl]))
      go_ret
      exact ⟨rfl, rfl⟩
  · have b0 : ((la : Int) == len) = false := beq_eq_false_iff_ne.2 a0
    rw [show fitB 7 len C la lb lc = false by rw [Bool.eq_false_iff]; intro hh; simp [fitB, shapeB, cnt, lenB] at hh; omega]
    clear a0
    go_enter Try.func77, Try.ntmps77
    go_wp2_with (first | (go_at_call 78; refine (l1each _ _ (by omega) (by omega)).mono ?_; rintro e w2 ⟨rfl, rfl⟩; simp only [show each1 7 = true from rfl]) | (go_at_call 79; refine (l1operands _ _ (by omega) (by omega)).mono ?_; rintro e w2 ⟨rfl, rfl⟩; simp only [show ops1 7 = 2 from rfl]))
    go_ret
    exact ⟨rfl, rfl⟩
set_option maxRecDepth 100000 in
set_option maxHeartbeats 2000000 in
theorem fits_8 (w : World) (len A B C : Int) (K la lb lc : Nat) (h1 : 1 ≤ len) (h2 : len ≤ 1000) :
    Calls Try.prog 77 #[vagg 8 len A B C K, .int .i64 (la : Int), .int .i64 (lb : Int), .int .i64 (lc : Int)] w fun e w' => e = .returned (.bool (fitB 8 len C la lb lc)) ∧ w' = w.alloc (vbox 8 len A B C K) := by
  by_cases a0 : (la : Int) = len
  · have b0 : ((la : Int) == len) = true := beq_iff_eq.2 a0
    by_cases a1 : (lb : Int) = len
    · have b1 : ((lb : Int) == len) = true := beq_iff_eq.2 a1
      by_cases a2 : (lc : Int) = len
      · have b2 : ((lc : Int) == len) = true := beq_iff_eq.2 a2
        rw [show fitB 8 len C la lb lc = true by simp [fitB, shapeB, cnt, lenB]; omega]
        clear a0 a1 a2
        go_enter Try.func77, Try.ntmps77
        go_wp2_with (first | (go_at_call 78; refine (l1each _ _ (by omega) (by omega)).mono ?_; rintro e w2 ⟨rfl, rfl⟩; simp only [show each1 8 = true from rfl]) | (go_at_call 79; refine (l1operands _ _ (by omega) (by omega)).mono ?_; rintro e w2 ⟨rfl, rfl⟩; simp only [show ops1 8 = 3 from rfl]))
        go_ret
        exact ⟨rfl, rfl⟩
      · have b2 : ((lc : Int) == len) = false := beq_eq_false_iff_ne.2 a2
        rw [show fitB 8 len C la lb lc = false by rw [Bool.eq_false_iff]; intro hh; simp [fitB, shapeB, cnt, lenB] at hh; omega]
        clear a0 a1 a2
        go_enter Try.func77, Try.ntmps77
        go_wp2_with (first | (go_at_call 78; refine (l1each _ _ (by omega) (by omega)).mono ?_; rintro e w2 ⟨rfl, rfl⟩; simp only [show each1 8 = true from rfl]) | (go_at_call 79; refine (l1operands _ _ (by omega) (by omega)).mono ?_; rintro e w2 ⟨rfl, rfl⟩; simp only [show ops1 8 = 3 from rfl]))
        go_ret
        exact ⟨rfl, rfl⟩
    · have b1 : ((lb : Int) == len) = false := beq_eq_false_iff_ne.2 a1
      rw [show fitB 8 len C la lb lc = false by rw [Bool.eq_false_iff]; intro hh; simp [fitB, shapeB, cnt, lenB] at hh; omega]
      clear a0 a1
      go_enter Try.func77, Try.ntmps77
      go_wp2_with (first | (go_at_call 78; refine (l1each _ _ (by omega) (by omega)).mono ?_; rintro e w2 ⟨rfl, rfl⟩; simp only [show each1 8 = true from rfl]) | (go_at_call 79; refine (l1operands _ _ (by omega) (by omega)).mono ?_; rintro e w2 ⟨rfl, rfl⟩; simp only [show ops1 8 = 3 from rfl]))
      go_ret
      exact ⟨rfl, rfl⟩
  · have b0 : ((la : Int) == len) = false := beq_eq_false_iff_ne.2 a0
    rw [show fitB 8 len C la lb lc = false by rw [Bool.eq_false_iff]; intro hh; simp [fitB, shapeB, cnt, lenB] at hh; omega]
    clear a0
    go_enter Try.func77, Try.ntmps77
    go_wp2_with (first | (go_at_call 78; refine (l1each _ _ (by omega) (by omega)).mono ?_; rintro e w2 ⟨rfl, rfl⟩; simp only [show each1 8 = true from rfl]) | (go_at_call 79; refine (l1operands _ _ (by omega) (by omega)).mono ?_; rintro e w2 ⟨rfl, rfl⟩; simp only [show ops1 8 = 3 from rfl]))
    go_ret
    exact ⟨rfl, rfl⟩
set_option maxRecDepth 100000 in
set_option maxHeartbeats 2000000 in
theorem fits_9 (w : World) (len A B C : Int) (K la lb lc : Nat) (h1 : 1 ≤ len) (h2 : len ≤ 1000) :
    Calls Try.prog 77 #[vagg 9 len A B C K, .int .i64 (la : Int), .int .i64 (lb : Int), .int .i64 (lc : Int)] w fun e w' => e = .returned (.bool (fitB 9 len C la lb lc)) ∧ w' = w.alloc (vbox 9 len A B C K) := by
  by_cases a0 : len = 1
  · have b0 : (len == 1) = true := beq_iff_eq.2 a0
    by_cases a1 : 1 ≤ (la : Int)
    · have b1 := a1
      by_cases a2 : (la : Int) ≤ 1000
      · have b2 := a2
        rw [show fitB 9 len C la lb lc = true by simp [fitB, shapeB, cnt, lenB]; omega]
        clear a0
        go_enter Try.func77, Try.ntmps77
        go_wp2_with (first | (go_at_call 78; refine (l1each _ _ (by omega) (by omega)).mono ?_; rintro e w2 ⟨rfl, rfl⟩; simp only [show each1 9 = false from rfl]) | (go_at_call 79; refine (l1operands _ _ (by omega) (by omega)).mono ?_; rintro e w2 ⟨rfl, rfl⟩; simp only [show ops1 9 = 1 from rfl]))
        go_ret
        exact ⟨rfl, rfl⟩
      · have b2 : decide ((la : Int) ≤ 1000) = false := decide_eq_false a2
        rw [show fitB 9 len C la lb lc = false by rw [Bool.eq_false_iff]; intro hh; simp [fitB, shapeB, cnt, lenB] at hh; omega]
        clear a0
        go_enter Try.func77, Try.ntmps77
        go_wp2_with (first | (go_at_call 78; refine (l1each _ _ (by omega) (by omega)).mono ?_; rintro e w2 ⟨rfl, rfl⟩; simp only [show each1 9 = false from rfl]) | (go_at_call 79; refine (l1operands _ _ (by omega) (by omega)).mono ?_; rintro e w2 ⟨rfl, rfl⟩; simp only [show ops1 9 = 1 from rfl]))
        go_ret
        exact ⟨rfl, rfl⟩
    · have b1 : decide (1 ≤ (la : Int)) = false := decide_eq_false a1
      rw [show fitB 9 len C la lb lc = false by rw [Bool.eq_false_iff]; intro hh; simp [fitB, shapeB, cnt, lenB] at hh; omega]
      clear a0
      go_enter Try.func77, Try.ntmps77
      go_wp2_with (first | (go_at_call 78; refine (l1each _ _ (by omega) (by omega)).mono ?_; rintro e w2 ⟨rfl, rfl⟩; simp only [show each1 9 = false from rfl]) | (go_at_call 79; refine (l1operands _ _ (by omega) (by omega)).mono ?_; rintro e w2 ⟨rfl, rfl⟩; simp only [show ops1 9 = 1 from rfl]))
      go_ret
      exact ⟨rfl, rfl⟩
  · have b0 : (len == 1) = false := beq_eq_false_iff_ne.2 a0
    rw [show fitB 9 len C la lb lc = false by rw [Bool.eq_false_iff]; intro hh; simp [fitB, shapeB, cnt, lenB] at hh; omega]
    clear a0
    go_enter Try.func77, Try.ntmps77
    go_wp2_with (first | (go_at_call 78; refine (l1each _ _ (by omega) (by omega)).mono ?_; rintro e w2 ⟨rfl, rfl⟩; simp only [show each1 9 = false from rfl]) | (go_at_call 79; refine (l1operands _ _ (by omega) (by omega)).mono ?_; rintro e w2 ⟨rfl, rfl⟩; simp only [show ops1 9 = 1 from rfl]))
    go_ret
    exact ⟨rfl, rfl⟩
set_option maxRecDepth 100000 in
set_option maxHeartbeats 2000000 in
theorem fits_10 (w : World) (len A B C : Int) (K la lb lc : Nat) (h1 : 1 ≤ len) (h2 : len ≤ 1000) :
    Calls Try.prog 77 #[vagg 10 len A B C K, .int .i64 (la : Int), .int .i64 (lb : Int), .int .i64 (lc : Int)] w fun e w' => e = .returned (.bool (fitB 10 len C la lb lc)) ∧ w' = w.alloc (vbox 10 len A B C K) := by
  by_cases a0 : (la : Int) = 1
  · have b0 : ((la : Int) == 1) = true := beq_iff_eq.2 a0
    rw [show fitB 10 len C la lb lc = true by simp [fitB, shapeB, cnt, lenB]; omega]
    clear a0
    go_enter Try.func77, Try.ntmps77
    go_wp2_with (first | (go_at_call 78; refine (l1each _ _ (by omega) (by omega)).mono ?_; rintro e w2 ⟨rfl, rfl⟩; simp only [show each1 10 = false from rfl]) | (go_at_call 79; refine (l1operands _ _ (by omega) (by omega)).mono ?_; rintro e w2 ⟨rfl, rfl⟩; simp only [show ops1 10 = 1 from rfl]))
    go_ret
    exact ⟨rfl, rfl⟩
  · have b0 : ((la : Int) == 1) = false := beq_eq_false_iff_ne.2 a0
    rw [show fitB 10 len C la lb lc = false by rw [Bool.eq_false_iff]; intro hh; simp [fitB, shapeB, cnt, lenB] at hh; omega]
    clear a0
    go_enter Try.func77, Try.ntmps77
    go_wp2_with (first | (go_at_call 78; refine (l1each _ _ (by omega) (by omega)).mono ?_; rintro e w2 ⟨rfl, rfl⟩; simp only [show each1 10 = false from rfl]) | (go_at_call 79; refine (l1operands _ _ (by omega) (by omega)).mono ?_; rintro e w2 ⟨rfl, rfl⟩; simp only [show ops1 10 = 1 from rfl]))
    go_ret
    exact ⟨rfl, rfl⟩
set_option maxRecDepth 100000 in
set_option maxHeartbeats 2000000 in
theorem fits_11 (w : World) (len A B C : Int) (K la lb lc : Nat) (h1 : 1 ≤ len) (h2 : len ≤ 1000) :
    Calls Try.prog 77 #[vagg 11 len A B C K, .int .i64 (la : Int), .int .i64 (lb : Int), .int .i64 (lc : Int)] w fun e w' => e = .returned (.bool (fitB 11 len C la lb lc)) ∧ w' = w.alloc (vbox 11 len A B C K) := by
  by_cases a0 : len = 1
  · have b0 : (len == 1) = true := beq_iff_eq.2 a0
    by_cases a1 : 1 ≤ (la : Int)
    · have b1 := a1
      by_cases a2 : (la : Int) ≤ 1000
      · have b2 := a2
        by_cases a3 : 0 ≤ C
        · have b3 := a3
          by_cases a4 : C < (la : Int)
          · have b4 := a4
            rw [show fitB 11 len C la lb lc = true by simp [fitB, shapeB, cnt, lenB, idxB]; omega]
            clear a0
            go_enter Try.func77, Try.ntmps77
            go_wp2_with (first | (go_at_call 78; refine (l1each _ _ (by omega) (by omega)).mono ?_; rintro e w2 ⟨rfl, rfl⟩; simp only [show each1 11 = false from rfl]) | (go_at_call 79; refine (l1operands _ _ (by omega) (by omega)).mono ?_; rintro e w2 ⟨rfl, rfl⟩; simp only [show ops1 11 = 1 from rfl]))
            go_ret
            exact ⟨rfl, rfl⟩
          · have b4 : decide (C < (la : Int)) = false := decide_eq_false a4
            rw [show fitB 11 len C la lb lc = false by rw [Bool.eq_false_iff]; intro hh; simp [fitB, shapeB, cnt, lenB, idxB] at hh; omega]
            clear a0
            go_enter Try.func77, Try.ntmps77
            go_wp2_with (first | (go_at_call 78; refine (l1each _ _ (by omega) (by omega)).mono ?_; rintro e w2 ⟨rfl, rfl⟩; simp only [show each1 11 = false from rfl]) | (go_at_call 79; refine (l1operands _ _ (by omega) (by omega)).mono ?_; rintro e w2 ⟨rfl, rfl⟩; simp only [show ops1 11 = 1 from rfl]))
            go_ret
            exact ⟨rfl, rfl⟩
        · have b3 : decide (0 ≤ C) = false := decide_eq_false a3
          rw [show fitB 11 len C la lb lc = false by rw [Bool.eq_false_iff]; intro hh; simp [fitB, shapeB, cnt, lenB, idxB] at hh; omega]
          clear a0
          go_enter Try.func77, Try.ntmps77
          go_wp2_with (first | (go_at_call 78; refine (l1each _ _ (by omega) (by omega)).mono ?_; rintro e w2 ⟨rfl, rfl⟩; simp only [show each1 11 = false from rfl]) | (go_at_call 79; refine (l1operands _ _ (by omega) (by omega)).mono ?_; rintro e w2 ⟨rfl, rfl⟩; simp only [show ops1 11 = 1 from rfl]))
          go_ret
          exact ⟨rfl, rfl⟩
      · have b2 : decide ((la : Int) ≤ 1000) = false := decide_eq_false a2
        rw [show fitB 11 len C la lb lc = false by rw [Bool.eq_false_iff]; intro hh; simp [fitB, shapeB, cnt, lenB, idxB] at hh; omega]
        clear a0
        go_enter Try.func77, Try.ntmps77
        go_wp2_with (first | (go_at_call 78; refine (l1each _ _ (by omega) (by omega)).mono ?_; rintro e w2 ⟨rfl, rfl⟩; simp only [show each1 11 = false from rfl]) | (go_at_call 79; refine (l1operands _ _ (by omega) (by omega)).mono ?_; rintro e w2 ⟨rfl, rfl⟩; simp only [show ops1 11 = 1 from rfl]))
        go_ret
        exact ⟨rfl, rfl⟩
    · have b1 : decide (1 ≤ (la : Int)) = false := decide_eq_false a1
      rw [show fitB 11 len C la lb lc = false by rw [Bool.eq_false_iff]; intro hh; simp [fitB, shapeB, cnt, lenB, idxB] at hh; omega]
      clear a0
      go_enter Try.func77, Try.ntmps77
      go_wp2_with (first | (go_at_call 78; refine (l1each _ _ (by omega) (by omega)).mono ?_; rintro e w2 ⟨rfl, rfl⟩; simp only [show each1 11 = false from rfl]) | (go_at_call 79; refine (l1operands _ _ (by omega) (by omega)).mono ?_; rintro e w2 ⟨rfl, rfl⟩; simp only [show ops1 11 = 1 from rfl]))
      go_ret
      exact ⟨rfl, rfl⟩
  · have b0 : (len == 1) = false := beq_eq_false_iff_ne.2 a0
    rw [show fitB 11 len C la lb lc = false by rw [Bool.eq_false_iff]; intro hh; simp [fitB, shapeB, cnt, lenB, idxB] at hh; omega]
    clear a0
    go_enter Try.func77, Try.ntmps77
    go_wp2_with (first | (go_at_call 78; refine (l1each _ _ (by omega) (by omega)).mono ?_; rintro e w2 ⟨rfl, rfl⟩; simp only [show each1 11 = false from rfl]) | (go_at_call 79; refine (l1operands _ _ (by omega) (by omega)).mono ?_; rintro e w2 ⟨rfl, rfl⟩; simp only [show ops1 11 = 1 from rfl]))
    go_ret
    exact ⟨rfl, rfl⟩
set_option maxRecDepth 100000 in
set_option maxHeartbeats 2000000 in
theorem fits_12 (w : World) (len A B C : Int) (K la lb lc : Nat) (h1 : 1 ≤ len) (h2 : len ≤ 1000) :
    Calls Try.prog 77 #[vagg 12 len A B C K, .int .i64 (la : Int), .int .i64 (lb : Int), .int .i64 (lc : Int)] w fun e w' => e = .returned (.bool (fitB 12 len C la lb lc)) ∧ w' = w.alloc (vbox 12 len A B C K) := by
  by_cases a0 : (la : Int) = 1
  · have b0 : ((la : Int) == 1) = true := beq_iff_eq.2 a0
    by_cases a1 : 0 ≤ C
    · have b1 := a1
      by_cases a2 : C < len
      · have b2 := a2
        rw [show fitB 12 len C la lb lc = true by simp [fitB, shapeB, cnt, lenB, idxB]; omega]
        clear a0
        go_enter Try.func77, Try.ntmps77
        go_wp2_with (first | (go_at_call 78; refine (l1each _ _ (by omega) (by omega)).mono ?_; rintro e w2 ⟨rfl, rfl⟩; simp only [show each1 12 = false from rfl]) | (go_at_call 79; refine (l1operands _ _ (by omega) (by omega)).mono ?_; rintro e w2 ⟨rfl, rfl⟩; simp only [show ops1 12 = 1 from rfl]))
        go_ret
        exact ⟨rfl, rfl⟩
      · have b2 : decide (C < len) = false := decide_eq_false a2
        rw [show fitB 12 len C la lb lc = false by rw [Bool.eq_false_iff]; intro hh; simp [fitB, shapeB, cnt, lenB, idxB] at hh; omega]
        clear a0
        go_enter Try.func77, Try.ntmps77
        go_wp2_with (first | (go_at_call 78; refine (l1each _ _ (by omega) (by omega)).mono ?_; rintro e w2 ⟨rfl, rfl⟩; simp only [show each1 12 = false from rfl]) | (go_at_call 79; refine (l1operands _ _ (by omega) (by omega)).mono ?_; rintro e w2 ⟨rfl, rfl⟩; simp only [show ops1 12 = 1 from rfl]))
        go_ret
        exact ⟨rfl, rfl⟩
    · have b1 : decide (0 ≤ C) = false := decide_eq_false a1
      rw [show fitB 12 len C la lb lc = false by rw [Bool.eq_false_iff]; intro hh; simp [fitB, shapeB, cnt, lenB, idxB] at hh; omega]
      clear a0
      go_enter Try.func77, Try.ntmps77
      go_wp2_with (first | (go_at_call 78; refine (l1each _ _ (by omega) (by omega)).mono ?_; rintro e w2 ⟨rfl, rfl⟩; simp only [show each1 12 = false from rfl]) | (go_at_call 79; refine (l1operands _ _ (by omega) (by omega)).mono ?_; rintro e w2 ⟨rfl, rfl⟩; simp only [show ops1 12 = 1 from rfl]))
      go_ret
      exact ⟨rfl, rfl⟩
  · have b0 : ((la : Int) == 1) = false := beq_eq_false_iff_ne.2 a0
    rw [show fitB 12 len C la lb lc = false by rw [Bool.eq_false_iff]; intro hh; simp [fitB, shapeB, cnt, lenB, idxB] at hh; omega]
    clear a0
    go_enter Try.func77, Try.ntmps77
    go_wp2_with (first | (go_at_call 78; refine (l1each _ _ (by omega) (by omega)).mono ?_; rintro e w2 ⟨rfl, rfl⟩; simp only [show each1 12 = false from rfl]) | (go_at_call 79; refine (l1operands _ _ (by omega) (by omega)).mono ?_; rintro e w2 ⟨rfl, rfl⟩; simp only [show ops1 12 = 1 from rfl]))
    go_ret
    exact ⟨rfl, rfl⟩
set_option maxRecDepth 100000 in
set_option maxHeartbeats 2000000 in
theorem fits_13 (w : World) (len A B C : Int) (K la lb lc : Nat) (h1 : 1 ≤ len) (h2 : len ≤ 1000) :
    Calls Try.prog 77 #[vagg 13 len A B C K, .int .i64 (la : Int), .int .i64 (lb : Int), .int .i64 (lc : Int)] w fun e w' => e = .returned (.bool (fitB 13 len C la lb lc)) ∧ w' = w.alloc (vbox 13 len A B C K) := by
  by_cases a0 : (la : Int) = len
  · have b0 : ((la : Int) == len) = true := beq_iff_eq.2 a0
    rw [show fitB 13 len C la lb lc = true by simp [fitB, shapeB, cnt, lenB]; omega]
    clear a0
    go_enter Try.func77, Try.ntmps77
    go_wp2_with (first | (go_at_call 78; refine (l1each _ _ (by omega) (by omega)).mono ?_; rintro e w2 ⟨rfl, rfl⟩; simp only [show each1 13 = true from rfl]) | (go_at_call 79; refine (l1operands _ _ (by omega) (by omega)).mono ?_; rintro e w2 ⟨rfl, rfl⟩; simp only [show ops1 13 = 1 from rfl]))
    go_ret
    exact ⟨rfl, rfl⟩
  · have b0 : ((la : Int) == len) = false := beq_eq_false_iff_ne.2 a0
    rw [show fitB 13 len C la lb lc = false by rw [Bool.eq_false_iff]; intro hh; simp [fitB, shapeB, cnt, lenB] at hh; omega]
    clear a0
    go_enter Try.func77, Try.ntmps77
    go_wp2_with (first | (go_at_call 78; refine (l1each _ _ (by omega) (by omega)).mono ?_; rintro e w2 ⟨rfl, rfl⟩; simp only [show each1 13 = true from rfl]) | (go_at_call 79; refine (l1operands _ _ (by omega) (by omega)).mono ?_; rintro e w2 ⟨rfl, rfl⟩; simp only [show ops1 13 = 1 from rfl]))
    go_ret
    exact ⟨rfl, rfl⟩
set_option maxRecDepth 100000 in
set_option maxHeartbeats 2000000 in
theorem fits_bad (w : World) (op len A B C : Int) (K la lb lc : Nat) (h : ¬ (1 ≤ op ∧ op ≤ 13 ∧ 1 ≤ len ∧ len ≤ 1000)) :
    Calls Try.prog 77 #[vagg op len A B C K, .int .i64 (la : Int), .int .i64 (lb : Int), .int .i64 (lc : Int)] w fun e w' => e = .returned (.bool false) ∧ w' = w.alloc (vbox op len A B C K) := by
  by_cases a0 : op < 1
  · go_enter Try.func77, Try.ntmps77
    go_wp2
    go_ret
    exact ⟨rfl, rfl⟩
  · have b0 : decide (op < 1) = false := decide_eq_false a0
    by_cases a1 : 13 < op
    · go_enter Try.func77, Try.ntmps77
      go_wp2
      go_ret
      exact ⟨rfl, rfl⟩
    · have b1 : decide (13 < op) = false := decide_eq_false a1
      by_cases a2 : len < 1
      · go_enter Try.func77, Try.ntmps77
        go_wp2
        go_ret
        exact ⟨rfl, rfl⟩
      · have b2 : decide (len < 1) = false := decide_eq_false a2
        have a3 : 1000 < len := by omega
        go_enter Try.func77, Try.ntmps77
        go_wp2
        go_ret
        exact ⟨rfl, rfl⟩
theorem fitB_bad (op len C : Int) (la lb lc : Nat) (h : ¬ (1 ≤ op ∧ op ≤ 13 ∧ 1 ≤ len ∧ len ≤ 1000)) : fitB op len C la lb lc = false := by
  rw [Bool.eq_false_iff]
  intro hh
  apply h
  simp only [fitB, Bool.and_eq_true] at hh
  obtain ⟨h1, h2⟩ := hh
  simp only [lenB, decide_eq_true_eq] at h1
  rcases op_cases op with c | c | c | c | c | c | c | c | c | c | c | c | c | c
  all_goals first | omega | skip
  obtain ⟨_, _, _, _, _, _, _, _, h9, h10, h11, h12, _⟩ := c
  unfold shapeB at h2
  rw [if_neg h9, if_neg h10, if_neg h11, if_neg h12] at h2
  split at h2
  · omega
  · cases h2
theorem l1fits (w : World) (op len A B C : Int) (K la lb lc : Nat) :
    Calls Try.prog 77 #[vagg op len A B C K, .int .i64 (la : Int), .int .i64 (lb : Int), .int .i64 (lc : Int)] w fun e w' => e = .returned (.bool (fitB op len C la lb lc)) ∧ w' = w.alloc (vbox op len A B C K) := by
  by_cases h : 1 ≤ op ∧ op ≤ 13 ∧ 1 ≤ len ∧ len ≤ 1000
  · obtain ⟨h1, h2, h3, h4⟩ := h
    have : op = 1 ∨ op = 2 ∨ op = 3 ∨ op = 4 ∨ op = 5 ∨ op = 6 ∨ op = 7 ∨ op = 8 ∨ op = 9 ∨ op = 10 ∨ op = 11 ∨ op = 12 ∨ op = 13 := by omega
    rcases this with rfl | rfl | rfl | rfl | rfl | rfl | rfl | rfl | rfl | rfl | rfl | rfl | rfl
    · exact fits_1 w len A B C K la lb lc h3 h4
    · exact fits_2 w len A B C K la lb lc h3 h4
    · exact fits_3 w len A B C K la lb lc h3 h4
    · exact fits_4 w len A B C K la lb lc h3 h4
    · exact fits_5 w len A B C K la lb lc h3 h4
    · exact fits_6 w len A B C K la lb lc h3 h4
    · exact fits_7 w len A B C K la lb lc h3 h4
    · exact fits_8 w len A B C K la lb lc h3 h4
    · exact fits_9 w len A B C K la lb lc h3 h4
    · exact fits_10 w len A B C K la lb lc h3 h4
    · exact fits_11 w len A B C K la lb lc h3 h4
    · exact fits_12 w len A B C K la lb lc h3 h4
    · exact fits_13 w len A B C K la lb lc h3 h4
  · rw [fitB_bad op len C la lb lc h]
    exact fits_bad w op len A B C K la lb lc h
end Go.Proofs.Ytcphabjekfihnaa
