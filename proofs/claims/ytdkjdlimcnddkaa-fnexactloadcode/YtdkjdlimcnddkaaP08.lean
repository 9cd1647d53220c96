import Derived.Test.YtdkjdlimcnddkaaP07
import Derived.Deep.RegionWith
namespace Go.Proofs.Ytdkjdlimcnddkaa
open Go.RowKit Flt
attribute [local go_sem] alloc_drewN setCell_drewN run_store_float

def chosenN (x y z : Nat) : Nat := if FloatKind.f64.format.order x 0 == some .gt then y else z
end Go.Proofs.Ytdkjdlimcnddkaa

namespace Go.Proofs.Ytdkjdlimcnddkaa
open Go.RowKit Flt
attribute [local go_sem] alloc_drewN setCell_drewN run_store_float

def greaterN (x y : Nat) : Nat := if FloatKind.f64.format.order x y == some .gt then x else y
theorem run_fneg' (b : Nat) (w : World) : (Op.unary .neg (.float .f64 b)).run Try.prog w = .ok (.float .f64 (Op.negFloat .f64 b)) w := rfl
theorem negf_lt {b : Nat} (h : b < 18446744073709551616) : Op.negFloat .f64 b < 18446744073709551616 := by
  obtain ⟨s, r, hr, rfl⟩ := split_word b h
  rw [neg_W s hr]; exact W_lt hr
/-- impl.placed -/
theorem made_set (w : World) (n p x : Nat) (hx : x < 18446744073709551616) (hp : p < n) :
    Made n (fun k => if k = p then x else 0) w (.returned (.slice (some ⟨w.heap.size, 0, none⟩) n n)) ((w.alloc (.cells (madeCells #[.float .f64 0] n) 62)).setCell ⟨w.heap.size, p, none⟩ (.float .f64 x)) := by
  have h := (FR.made w n).set p x
  refine ⟨_, rfl, h, ?_, by simp, ?_, (kept_alloc 0 0 w _).new (kept_setCell (lo := w.heap.size) (hi := w.heap.size + 1) _ ⟨w.heap.size, p, none⟩ _ (.inl ⟨Nat.le_refl _, Nat.lt_succ_self _⟩)) (Nat.le_refl _)⟩
  · intro y hy
    rcases List.mem_or_eq_of_mem_set hy with c | c
    · rw [List.eq_of_mem_replicate c]; omega
    · rw [c]; exact hx
  · intro k hk
    rw [List.getD_eq_getElem?_getD, List.getElem?_set]
    by_cases e : p = k
    · subst e
      rw [if_pos rfl, if_pos (by simpa using hp)]
      show fb x = fb (if p = p then x else 0)
      rw [if_pos rfl]
    · rw [if_neg e, List.getElem?_replicate, if_pos hk]
      show fb 0 = fb (if k = p then x else 0)
      rw [if_neg (fun c => e c.symm)]
/-- The sum of a list, from the first element on. -/
def csum : List Nat → Nat
  | [] => 0
  | x :: xs => xs.foldl (cop .add) x
theorem csum_snoc (xs : List Nat) (y : Nat) (h : xs ≠ []) : csum (xs ++ [y]) = cop .add (csum xs) y := by
  cases xs with
  | nil => exact absurd rfl h
  | cons x r => simp [csum, List.foldl_append]
theorem csum_take (xs : List Nat) (k : Nat) (h0 : 0 < k) (hk : k < xs.length) : csum (xs.take (k + 1)) = cop .add (csum (xs.take k)) (xs.getD k 0) := by
  rw [List.take_succ_eq_append_getElem hk, csum_snoc _ _ (by intro c; rcases List.take_eq_nil_iff.1 c with c | c; omega; rw [c] at hk; simp at hk)]
  rw [List.getD_eq_getElem?_getD, List.getElem?_eq_getElem hk]; rfl
theorem csum_one (xs : List Nat) (h : 0 < xs.length) : csum (xs.take 1) = xs.getD 0 0 := by
  cases xs with
  | nil => simp at h
  | cons x r => rfl

end Go.Proofs.Ytdkjdlimcnddkaa
