import Derived.Test.YtbelecjjkclifabN2
namespace Go.Proofs.Ytbelecjjkclifab
open Go.RowKit Flt
attribute [local go_sem] alloc_drewN setCell_drewN run_store_float

set_option maxRecDepth 100000 in
set_option maxHeartbeats 1000000 in
theorem toVal (w : World) (op len A B C : Int) (K : Nat) :
    Calls Try.prog 20 #[vagg op len A B C K] w fun e w' => e = .returned (vagg op len A B C K) ∧ Kept 0 0 w w' := by
  go_enter Try.func20, Try.ntmps20
  go_wp2
  refine bodyPost_ret (v := vagg op len A B C K) (by simp [results, Try.results20, go_sem]) rfl ⟨rfl, ?_⟩
  exact ((kept_alloc 0 0 w _).trans (kept_alloc 0 0 _ _)).trans (kept_alloc 0 0 _ _)

end Go.Proofs.Ytbelecjjkclifab
