import Derived.Test.YtdkjdlimcnddkaaP08
import Derived.Deep.RegionWith
import Derived.Deep.DeepCutAuto
namespace Go.Proofs.Ytdkjdlimcnddkaa
open Go.RowKit Flt
attribute [local go_sem] alloc_drewN setCell_drewN run_store_float

/-- Whether a value of this form may have operands of these lengths. -/
def fitB (op len C : Int) (la lb lc : Nat) : Bool := lenB len && shapeB op len C (([(la : Int), (lb : Int), (lc : Int)]).take (cnt op))

/-- Element k of a value, by the table, with one NaN for all. -/
def elem (op C : Int) (K : Nat) (xa xb xc : List Nat) (k : Nat) : Nat :=
  if op = 1 then K else if op = 2 then cop .add (xa.getD k 0) (xb.getD k 0) else if op = 3 then cop .sub (xa.getD k 0) (xb.getD k 0)
  else if op = 4 then cop .mul (xa.getD k 0) (xb.getD k 0) else if op = 5 then cop .quo (xa.getD k 0) (xb.getD k 0)
  else if op = 6 then Op.negFloat .f64 (xa.getD k 0) else if op = 7 then greaterN (xa.getD k 0) (xb.getD k 0)
  else if op = 8 then chosenN (xa.getD k 0) (xb.getD k 0) (xc.getD k 0) else if op = 9 then csum xa
  else if op = 10 then xa.getD 0 0 else if op = 11 then xa.getD C.toNat 0 else if op = 12 then (if k = C.toNat then xa.getD 0 0 else 0)
  else cexp (xa.getD k 0)

/-- A list of floats in new memory, whole block, element k the same as q k. -/
def KRes (n : Nat) (q : Nat → Nat) (w : World) (e : Ending) (w' : World) : Prop :=
  ∃ (G : Nat) (zs : List Nat), e = .returned (.slice (some ⟨G, 0, none⟩) n n) ∧ w.heap.size ≤ G ∧ FR w' G zs ∧ (∀ z ∈ zs, z < 18446744073709551616) ∧ zs.length = n ∧ (∀ k, k < n → fb (zs.getD k 0) = fb (q k)) ∧ Kept 0 0 w w'

theorem lens_is (w : World) (x y z : Int) : IS (w.alloc (.cells #[.int .i64 x, .int .i64 y, .int .i64 z] 3)) 0 (w.heap.size + 1) (some ⟨w.heap.size, 0, none⟩) 3 [x, y, z] :=
  ⟨rfl, .inr ⟨w.heap.size, 0, rfl, Nat.zero_le _, Nat.lt_succ_self _, by simp, fun k hk => by
    have : k = 0 ∨ k = 1 ∨ k = 2 := by omega
    rcases this with rfl | rfl | rfl <;> simp⟩⟩

end Go.Proofs.Ytdkjdlimcnddkaa
