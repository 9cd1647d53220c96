import Derived.Test.YtcphabjekfihnaaV03
namespace Go.Proofs.Ytcphabjekfihnaa
open Go.RowKit Flt
attribute [local go_sem] alloc_drewN setCell_drewN run_store_float

set_option maxRecDepth 100000 in
set_option maxHeartbeats 4000000 in
/-- l1fits with a negative length. -/
theorem fits_neg (w : World) (op len A B C la lb lc : Int) (K : Nat) (h1 : 2 ≤ op) (h13 : op ≤ 13) (hl1 : 1 ≤ len) (hl2 : len ≤ 1000) (hn : la < 0) :
    Calls Try.prog 77 #[vagg op len A B C K, .int .i64 la, .int .i64 lb, .int .i64 lc] w fun e w' => e = .returned (.bool false) ∧ w' = w.alloc (vbox op len A B C K) := by
  have b0 : (la == len) = false := beq_eq_false_iff_ne.2 (by omega)
  have b1 : (la == 1) = false := beq_eq_false_iff_ne.2 (by omega)
  have b2 : decide (1 ≤ la) = false := decide_eq_false (by omega)
  have HE : Hid (∀ w, Calls Try.prog 78 #[.int .i64 op] w fun e w' => e = .returned (.bool (each1 op)) ∧ w' = w) := fun w => l1each op w (by omega) h13
  have HO : Hid (∀ w, Calls Try.prog 79 #[.int .i64 op] w fun e w' => e = .returned (.int .i64 (ops1 op : Nat)) ∧ w' = w) := fun w => l1operands op w (by omega) h13
  rcases (by omega : op = 2 ∨ op = 3 ∨ op = 4 ∨ op = 5 ∨ op = 6 ∨ op = 7 ∨ op = 8 ∨ op = 9 ∨ op = 10 ∨ op = 11 ∨ op = 12 ∨ op = 13) with rfl | rfl | rfl | rfl | rfl | rfl | rfl | rfl | rfl | rfl | rfl | rfl
  all_goals
    cases c1 : (len == 1)
    all_goals
      go_enter Try.func77, Try.ntmps77
      go_wp2_with (first | (go_at_call 78; refine (HE.out _).mono ?_; rintro e w2 ⟨rfl, rfl⟩; simp only [each1]) | (go_at_call 79; refine (HO.out _).mono ?_; rintro e w2 ⟨rfl, rfl⟩; simp only [ops1]))
      go_ret
      exact ⟨rfl, rfl⟩
end Go.Proofs.Ytcphabjekfihnaa
