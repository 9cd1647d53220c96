import Derived.Test.YtiiimofkkahobaaDoorP10
import Derived.Test.YtiiimofkkahobaaDoorP09
namespace Go.Proofs.YtiiimofkkahobaaDoor
open Go.RowKit Flt
attribute [local go_sem] alloc_drewN setCell_drewN run_store_float
/-! The text of a graph: pure. -/
def opW (op : Int) : List UInt8 :=
  if op = 0 then [105, 110, 112, 117, 116] else if op = 1 then [99, 111, 110, 115, 116] else if op = 2 then [97, 100, 100] else if op = 3 then [115, 117, 98] else if op = 4 then [109, 117, 108] else if op = 5 then [100, 105, 118] else if op = 6 then [110, 101, 103] else if op = 7 then [109, 97, 120] else if op = 8 then [115, 101, 108] else if op = 9 then [115, 117, 109] else if op = 10 then [102, 105, 108, 108] else if op = 11 then [112, 105, 99, 107] else if op = 12 then [112, 117, 116] else [101, 120, 112]
def decI (n : Int) : List UInt8 := dec10 n.toNat
def inL (n : Int) : List UInt8 := [105, 110, 32] ++ decI n ++ [10]
def outL (n : Int) : List UInt8 := [111, 117, 116, 32, 118] ++ decI n ++ [10]
/-- The first k operands. -/
def oprT (v : Vl) : Nat → List UInt8
  | 0 => []
  | k + 1 => oprT v k ++ ([32, 118] ++ decI (fld v k))
def mid0 (v : Vl) : List UInt8 := if v.op = 0 then [32] ++ decI v.a else []
def mid1 (v : Vl) : List UInt8 := if v.op = 1 then [32] ++ hexN (fb v.k) 16 else []
def mid2 (v : Vl) : List UInt8 := if v.op = 11 ∨ v.op = 12 then [32, 64] ++ decI v.c else []
def valL (i : Nat) (v : Vl) : List UInt8 := (([118] ++ dec10 i ++ [32, 61, 32]) ++ opW v.op) ++ mid0 v ++ mid1 v ++ oprT v (cnt v.op) ++ mid2 v ++ ([32, 58, 32] ++ decI v.len ++ [10])
def insT (ins : List Int) : Nat → List UInt8
  | 0 => []
  | k + 1 => insT ins k ++ inL (ins.getD k 0)
def valsT (vs : List Vl) : Nat → List UInt8
  | 0 => []
  | k + 1 => valsT vs k ++ valL k (vs.getD k Vl.zero)
def outsT (outs : List Int) : Nat → List UInt8
  | 0 => []
  | k + 1 => outsT outs k ++ outL (outs.getD k 0)
def textM (ins : List Int) (vs : List Vl) (outs : List Int) : List UInt8 := insT ins ins.length ++ valsT vs vs.length ++ outsT outs outs.length
/-- Numbers of a valid graph. -/
def Sml (n : Int) : Prop := 0 ≤ n ∧ n ≤ 100000
theorem decI_len {n : Int} (h : Sml n) : (decI n).length ≤ 100001 := by
  have := dec10_len n.toNat
  unfold decI
  have := h.1
  have := h.2
  omega
theorem l6decI (n : Int) (h : Sml n) (w : World) : Calls Tryd.prog 16 #[.int .i64 n] w fun e w' => e = .returned (strL (decI n)) ∧ w' = w := by
  obtain ⟨m, rfl⟩ := Int.eq_ofNat_of_zero_le h.1
  have := l6dec m m (Nat.le_refl _) (by have := h.2; omega) w
  unfold decI
  exact this
set_option maxRecDepth 100000 in
set_option maxHeartbeats 4000000 in
theorem l6word (op : Int) (h0 : 0 ≤ op) (h1 : op ≤ 13) (w : World) : Calls Tryd.prog 17 #[.int .i64 op] w fun e w' => e = .returned (strL (opW op)) ∧ Kept 0 0 w w' := by
  have hK : ∀ o, Kept 0 0 w (w.alloc o) := fun o => kept_alloc 0 0 w o
  rcases (by omega : op = 0 ∨ op = 1 ∨ op = 2 ∨ op = 3 ∨ op = 4 ∨ op = 5 ∨ op = 6 ∨ op = 7 ∨ op = 8 ∨ op = 9 ∨ op = 10 ∨ op = 11 ∨ op = 12 ∨ op = 13) with rfl | rfl | rfl | rfl | rfl | rfl | rfl | rfl | rfl | rfl | rfl | rfl | rfl | rfl
  all_goals
    go_enter Tryd.func17, Tryd.ntmps17
    go_wp2
    go_ret
    exact ⟨rfl, hK _⟩
end Go.Proofs.YtiiimofkkahobaaDoor
