import Derived.Test.YtfbcgahmmjpijabN2
namespace Go.Proofs.Ytfbcgahmmjpijab
open Go.RowKit Flt
attribute [local go_sem] alloc_drewN setCell_drewN run_store_float

set_option maxRecDepth 100000 in
set_option maxHeartbeats 1000000 in
theorem toVal (w : World) (op len A B C : Int) (K : Nat) :
    Calls Try.prog 22 #[vagg op len A B C K] w fun e w' => e = .returned (vagg op len A B C K) ∧ Kept 0 0 w w' := by
  go_enter Try.func22, Try.ntmps22
  go_wp2
  refine bodyPost_ret (v := vagg op len A B C K) (by simp [results, Try.results22, go_sem]) rfl ⟨rfl, ?_⟩
  exact ((kept_alloc 0 0 w _).trans (kept_alloc 0 0 _ _)).trans (kept_alloc 0 0 _ _)

end Go.Proofs.Ytfbcgahmmjpijab
