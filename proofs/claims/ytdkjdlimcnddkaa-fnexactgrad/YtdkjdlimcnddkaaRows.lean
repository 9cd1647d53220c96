/-
  No cell of these rows narrows 'for every input' (looked for: loops, veiled, ifaces, maps, wideKeys, modest, calm, conditions, laid).
  DERIVED. THE GIVEN ROWS OF THIS SEAT. 4 by the template 'for every input the law returns true; each argument reads behind the call as it read before'; 0 by the template 'total and deterministic' (their statements: YtdkjdlimcnddkaaTotals.lean).
  GIVEN WITH THE SEED: the statements are not yours to turn. If you find one false, say at which input.
  Laid BY PROGRAM, IN A SANDBOX (cutbox-rows.mjs): the forced cells as the released guide's own fill.sh prints them over the translation 1bb84b1d49d3eda0… (all of the seat's roots in one cut). By AI agents, Wed Nov 11 2026. No macro, syntax, notation, axiom, sorry.
-/
import Derived.Test.YtdkjdlimcnddkaaChecked
import GoSem.Claim
import GoSem.ClaimJoined
import GoSem.ClaimMapViews
import Derived.JoinedTies
import Derived.KernelRfl
namespace Go.Proofs.Ytdkjdlimcnddkaa
/- THE CELL 'sum', in the pinned program and in every row, IS THE sha256 OF THE DUMP (.gsa) THAT YtdkjdlimcnddkaaProg.lean LOADS. Nothing in Lean hashes anything: it is a label: what it is worth is what the hold of that sum in a sandbox is worth. -/
noncomputable def Try.pinned : Pinned := { name := "ytdkjdlimcnddkaa", sum := "1bb84b1d49d3eda032e89c32bce02e337360adc8a3844f652281890caf61e08f", checked := Try.checked }
namespace Rows
def none {H : Type} : Left H := { results := [], args := [] }

/-- 'laws.FnExactGrad': WHATEVER THE INPUT: true; the input reads as it did. -/
def fnExactGradSpec : ChangeSpec := { name := "fnExactGrad", fn := fun _ => fun
  | [d1, d2, d3] => { results := [.lit (.bool true)], args := [d1, d2, d3] }
  | _ => none }
def fnExactGradRow : OpenClaim := { program := "ytdkjdlimcnddkaa", sum := "1bb84b1d49d3eda032e89c32bce02e337360adc8a3844f652281890caf61e08f", func := "loop.example/s08086/laws.FnExactGrad", spec := "fnExactGrad", unfollowed := true, recurses := true, apart := false }
def FnExactGradSaid : Prop := fnExactGradRow.holds Try.pinned (OpenSpec.ofChange fnExactGradSpec)

/-- ITS FALSE NEIGHBOUR: 'it returns false'. Refute it at one input. -/
def fnExactGradWrong : ChangeSpec := { name := "fnExactGrad", fn := fun _ => fun
  | [d1, d2, d3] => { results := [.lit (.bool false)], args := [d1, d2, d3] }
  | _ => none }
def FnExactGradWrongFalsely : Prop := fnExactGradRow.holds Try.pinned (OpenSpec.ofChange fnExactGradWrong)

/-- 'laws.FnExactPlan': WHATEVER THE INPUT: true; the input reads as it did. -/
def fnExactPlanSpec : ChangeSpec := { name := "fnExactPlan", fn := fun _ => fun
  | [d1, d2] => { results := [.lit (.bool true)], args := [d1, d2] }
  | _ => none }
def fnExactPlanRow : OpenClaim := { program := "ytdkjdlimcnddkaa", sum := "1bb84b1d49d3eda032e89c32bce02e337360adc8a3844f652281890caf61e08f", func := "loop.example/s08086/laws.FnExactPlan", spec := "fnExactPlan", inPlace := ["slices.overlaps[loop.example/s08086/impl.Span]"], unfollowed := true, recurses := true, apart := false }
def FnExactPlanSaid : Prop := fnExactPlanRow.holds Try.pinned (OpenSpec.ofChange fnExactPlanSpec)

/-- ITS FALSE NEIGHBOUR: 'it returns false'. Refute it at one input. -/
def fnExactPlanWrong : ChangeSpec := { name := "fnExactPlan", fn := fun _ => fun
  | [d1, d2] => { results := [.lit (.bool false)], args := [d1, d2] }
  | _ => none }
def FnExactPlanWrongFalsely : Prop := fnExactPlanRow.holds Try.pinned (OpenSpec.ofChange fnExactPlanWrong)

/-- 'laws.FnExactSaveCode': WHATEVER THE INPUT: true; the input reads as it did. -/
def fnExactSaveCodeSpec : ChangeSpec := { name := "fnExactSaveCode", fn := fun _ => fun
  | [d] => { results := [.lit (.bool true)], args := [d] }
  | _ => none }
def fnExactSaveCodeRow : OpenClaim := { program := "ytdkjdlimcnddkaa", sum := "1bb84b1d49d3eda032e89c32bce02e337360adc8a3844f652281890caf61e08f", func := "loop.example/s08086/laws.FnExactSaveCode", spec := "fnExactSaveCode", inPlace := ["math.Float64bits"], unfollowed := true, recurses := true, apart := false }
def FnExactSaveCodeSaid : Prop := fnExactSaveCodeRow.holds Try.pinned (OpenSpec.ofChange fnExactSaveCodeSpec)

/-- ITS FALSE NEIGHBOUR: 'it returns false'. Refute it at one input. -/
def fnExactSaveCodeWrong : ChangeSpec := { name := "fnExactSaveCode", fn := fun _ => fun
  | [d] => { results := [.lit (.bool false)], args := [d] }
  | _ => none }
def FnExactSaveCodeWrongFalsely : Prop := fnExactSaveCodeRow.holds Try.pinned (OpenSpec.ofChange fnExactSaveCodeWrong)

/-- 'laws.FnExactLoadCode': WHATEVER THE INPUT: true; the input reads as it did. -/
def fnExactLoadCodeSpec : ChangeSpec := { name := "fnExactLoadCode", fn := fun _ => fun
  | [d] => { results := [.lit (.bool true)], args := [d] }
  | _ => none }
def fnExactLoadCodeRow : OpenClaim := { program := "ytdkjdlimcnddkaa", sum := "1bb84b1d49d3eda032e89c32bce02e337360adc8a3844f652281890caf61e08f", func := "loop.example/s08086/laws.FnExactLoadCode", spec := "fnExactLoadCode", inPlace := ["math.Float64frombits", "math.Float64bits"], unfollowed := true, recurses := true, apart := false }
def FnExactLoadCodeSaid : Prop := fnExactLoadCodeRow.holds Try.pinned (OpenSpec.ofChange fnExactLoadCodeSpec)

/-- ITS FALSE NEIGHBOUR: 'it returns false'. Refute it at one input. -/
def fnExactLoadCodeWrong : ChangeSpec := { name := "fnExactLoadCode", fn := fun _ => fun
  | [d] => { results := [.lit (.bool false)], args := [d] }
  | _ => none }
def FnExactLoadCodeWrongFalsely : Prop := fnExactLoadCodeRow.holds Try.pinned (OpenSpec.ofChange fnExactLoadCodeWrong)

/- THE SECOND FORM. 'bulk': how many values and letters a reading holds, each counted each time it is reached (what is shared counts as often as it is met; a slice's spare places count too). A statement '..UptoSaid' is the law's where the arguments, and the package variables that the reading takes, are together of bulk at most 1048576: NARROWER than '..Said'. Prove '..Said' where nothing that the law and all that it calls make is longer than what came in: it says more and counts as full. Else prove '..UptoSaid'. A law counts once. -/
mutual
def uptoBulk {H : Type} : DataW H → Nat
  | .lit (.string bytes) => bytes.length + 1
  | .lit _ => 1
  | .nil => 1
  | .ptr d => uptoBulk d + 1
  | .slice elems spare => uptoBulkAll elems + uptoBulkAll spare + 1
  | .agg parts => uptoBulkAll parts + 1
  | .iface _ d => uptoBulk d + 1
  | .map entries => uptoBulkEntries entries + 1
  | .held _ => 1
def uptoBulkAll {H : Type} : List (DataW H) → Nat
  | [] => 0
  | d :: r => uptoBulk d + uptoBulkAll r
def uptoBulkEntries {H : Type} : List (Lit × DataW H) → Nat
  | [] => 0
  | x :: r => uptoBulkEntry x + uptoBulkEntries r
def uptoBulkEntry {H : Type} : Lit × DataW H → Nat
  | (.string bytes, d) => bytes.length + uptoBulk d + 1
  | (_, d) => uptoBulk d + 1
 end
def uptoSmall : (H : Type) → List (DataW H) → Bool := fun _ ds => decide (uptoBulkAll ds ≤ 1048576)
def OpenSpec.upto (s : _root_.Go.ChangeSpec) : _root_.Go.OpenSpec := { _root_.Go.OpenSpec.ofChange s with cond := some uptoSmall }

/-- 'laws.FnExactGrad', WHERE WHAT IT READS IS OF BULK AT MOST 1048576: true; the input reads as it did. -/
def fnExactGradUptoRow : OpenClaim := { program := "ytdkjdlimcnddkaa", sum := "1bb84b1d49d3eda032e89c32bce02e337360adc8a3844f652281890caf61e08f", func := "loop.example/s08086/laws.FnExactGrad", spec := "fnExactGrad", unfollowed := true, recurses := true, apart := false, narrowed := true }
def FnExactGradUptoSaid : Prop := fnExactGradUptoRow.holds Try.pinned (OpenSpec.upto fnExactGradSpec)

/-- 'laws.FnExactPlan', WHERE WHAT IT READS IS OF BULK AT MOST 1048576: true; the input reads as it did. -/
def fnExactPlanUptoRow : OpenClaim := { program := "ytdkjdlimcnddkaa", sum := "1bb84b1d49d3eda032e89c32bce02e337360adc8a3844f652281890caf61e08f", func := "loop.example/s08086/laws.FnExactPlan", spec := "fnExactPlan", inPlace := ["slices.overlaps[loop.example/s08086/impl.Span]"], unfollowed := true, recurses := true, apart := false, narrowed := true }
def FnExactPlanUptoSaid : Prop := fnExactPlanUptoRow.holds Try.pinned (OpenSpec.upto fnExactPlanSpec)

/-- 'laws.FnExactSaveCode', WHERE WHAT IT READS IS OF BULK AT MOST 1048576: true; the input reads as it did. -/
def fnExactSaveCodeUptoRow : OpenClaim := { program := "ytdkjdlimcnddkaa", sum := "1bb84b1d49d3eda032e89c32bce02e337360adc8a3844f652281890caf61e08f", func := "loop.example/s08086/laws.FnExactSaveCode", spec := "fnExactSaveCode", inPlace := ["math.Float64bits"], unfollowed := true, recurses := true, apart := false, narrowed := true }
def FnExactSaveCodeUptoSaid : Prop := fnExactSaveCodeUptoRow.holds Try.pinned (OpenSpec.upto fnExactSaveCodeSpec)

/-- 'laws.FnExactLoadCode', WHERE WHAT IT READS IS OF BULK AT MOST 1048576: true; the input reads as it did. -/
def fnExactLoadCodeUptoRow : OpenClaim := { program := "ytdkjdlimcnddkaa", sum := "1bb84b1d49d3eda032e89c32bce02e337360adc8a3844f652281890caf61e08f", func := "loop.example/s08086/laws.FnExactLoadCode", spec := "fnExactLoadCode", inPlace := ["math.Float64frombits", "math.Float64bits"], unfollowed := true, recurses := true, apart := false, narrowed := true }
def FnExactLoadCodeUptoSaid : Prop := fnExactLoadCodeUptoRow.holds Try.pinned (OpenSpec.upto fnExactLoadCodeSpec)

end Rows
end Go.Proofs.Ytdkjdlimcnddkaa
