import Derived.Test.YtdkjdlimcnddkaaP08
import Derived.Deep.QuietTactic
import Derived.BigQuiet
namespace Go.Proofs.Ytdkjdlimcnddkaa
open Go.RowKit Flt
attribute [local go_sem] alloc_drewN setCell_drewN run_store_float

/-- spec.l1operands: three for what is no operation but 0 and 1 .. are not asked. -/
def ops1 (op : Int) : Nat := if op = 0 ∨ op = 1 then 0 else if op = 2 ∨ op = 3 ∨ op = 4 ∨ op = 5 ∨ op = 7 then 2 else if op = 8 then 3 else 1
set_option maxRecDepth 100000 in
set_option maxHeartbeats 1000000 in
theorem l1operands (op : Int) (w : World) (h0 : 0 ≤ op) (h1 : op ≤ 13) : Calls Try.prog 84 #[.int .i64 op] w fun e w' => e = .returned (.int .i64 (ops1 op : Nat)) ∧ w' = w := by
  have h : op = 0 ∨ op = 1 ∨ op = 2 ∨ op = 3 ∨ op = 4 ∨ op = 5 ∨ op = 6 ∨ op = 7 ∨ op = 8 ∨ op = 9 ∨ op = 10 ∨ op = 11 ∨ op = 12 ∨ op = 13 := by omega
  clear h0 h1
  rcases h with rfl | rfl | rfl | rfl | rfl | rfl | rfl | rfl | rfl | rfl | rfl | rfl | rfl | rfl
  all_goals
    go_enter Try.func84, Try.ntmps84
    go_wp2
    go_ret
    exact ⟨rfl, rfl⟩
def each1 (op : Int) : Bool := decide ((2 ≤ op ∧ op ≤ 8) ∨ op = 13)
set_option maxRecDepth 100000 in
set_option maxHeartbeats 1000000 in
theorem l1each (op : Int) (w : World) (h0 : 0 ≤ op) (h1 : op ≤ 13) : Calls Try.prog 154 #[.int .i64 op] w fun e w' => e = .returned (.bool (each1 op)) ∧ w' = w := by
  have h : op = 0 ∨ op = 1 ∨ op = 2 ∨ op = 3 ∨ op = 4 ∨ op = 5 ∨ op = 6 ∨ op = 7 ∨ op = 8 ∨ op = 9 ∨ op = 10 ∨ op = 11 ∨ op = 12 ∨ op = 13 := by omega
  clear h0 h1
  rcases h with rfl | rfl | rfl | rfl | rfl | rfl | rfl | rfl | rfl | rfl | rfl | rfl | rfl | rfl
  all_goals
    go_enter Try.func154, Try.ntmps154
    go_wp2
    go_ret
    exact ⟨rfl, rfl⟩

/-- spec.l1one: what it answers of three floats. -/
def one1 (op : Int) (x y z : Nat) : Nat :=
  if op = 2 then cop .add x y else if op = 3 then cop .sub x y else if op = 4 then cop .mul x y else if op = 5 then cop .quo x y
  else if op = 6 then Op.negFloat .f64 x else if op = 7 then greaterN x y else if op = 8 then chosenN x y z else cexp x
end Go.Proofs.Ytdkjdlimcnddkaa
