import Derived.Test.YtiiimofkkahobaaDoorP24
import Derived.Test.YtiiimofkkahobaaDoorCards
import Derived.Test.YtiiimofkkahobaaDoorTie
import Derived.SevenTiedAt
namespace Go.Proofs.YtiiimofkkahobaaDoor
open Go
set_option maxRecDepth 100000 in
theorem fnExactGraphText_holds : Rows.FnExactGraphTextCardSaid :=
  Claim7.holds_tied_plain_at .later [] [.data, .data, .data, .data] true _ false
    fnExactGraphText_row (fun _ h => by cases h) (by kernel_rfl) (fun _ h => by cases h) fnExactGraphText_row_tie rfl ⟨rfl, rfl⟩ (by kernel_rfl) rfl
    (fun f fn hf hfn => by
      obtain rfl : f = 3 := Option.some.inj ((show Tryd.prog.funcNamed "loop.example/s08086/laws.FnExactGraphText" = some 3 by kernel_rfl).symm.trans hf) |>.symm
      obtain rfl : fn = Tryd.f3 := (Option.some.inj (Tryd.func3.symm.trans hfn)).symm
      exact ⟨by kernel_rfl, fun j t ht => by
        rw [Tryd.params3] at ht
        have h3 : t = 25 := by
          rcases j with _ | j
          · simpa using ht.symm
          · simp at ht
        subst h3
        exact (show Tryd.prog.wantsStandIn 25 = false by kernel_rfl)⟩)
    (by kernel_rfl)
#print axioms fnExactGraphText_holds
end Go.Proofs.YtiiimofkkahobaaDoor
