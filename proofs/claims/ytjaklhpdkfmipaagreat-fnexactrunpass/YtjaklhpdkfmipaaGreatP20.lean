import Derived.Test.YtjaklhpdkfmipaaGreatP19
namespace Go.Proofs.YtjaklhpdkfmipaaGreat
open Go.RowKit Flt
attribute [local go_sem] alloc_drewN setCell_drewN run_store_float

theorem g0_startL (w : World) (b0 b1 b2 : Value) : G0 (w.alloc (.cells #[b0, b1, b2] 25)) w.heap.size b0 b1 b2 := by
  refine ⟨?_, ?_, ?_, ?_⟩
  all_goals first | (go_simp; done) | (simp; done)

end Go.Proofs.YtjaklhpdkfmipaaGreat
