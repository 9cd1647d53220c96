import Derived.Test.YtcphabjekfihnaaP08
import Derived.Deep.RegionWith
import Derived.Deep.DeepCutAuto
namespace Go.Proofs.Ytcphabjekfihnaa
open Go.RowKit Flt
attribute [local go_sem] alloc_drewN setCell_drewN run_store_float

/-- Whether a value of this form may have operands of these lengths. -/
def fitB (op len C : Int) (la lb lc : Nat) : Bool := lenB len && shapeB op len C (([(la : Int), (lb : Int), (lc : Int)]).take (cnt op))

/-- Element k of a value, by the table, with one NaN for all. -/
def elem (op C : Int) (K : Nat) (xa xb xc : List Nat) (k : Nat) : Nat :=
  if op = 1 then K else if op = 2 then cop .add (xa.getD k 0) (xb.getD k 0) else if op = 3 then cop .sub (xa.getD k 0) (xb.getD k 0)
  else if op = 4 then cop .mul (xa.getD k 0) (xb.getD k 0) else if op = 5 then cop .quo (xa.getD k 0) (xb.getD k 0)
  else if op = 6 then Op.negFloat .f64 (xa.getD k 0) else if op = 7 then greaterN (xa.getD k 0) (xb.getD k 0)
  else if op = 8 then chosenN (xa.getD k 0) (xb.getD k 0) (xc.getD k 0) else if op = 9 then csum xa
  else if op = 10 then xa.getD 0 0 else if op = 11 then xa.getD C.toNat 0 else if op = 12 then (if k = C.toNat then xa.getD 0 0 else 0)
  else cexp (xa.getD k 0)

/-- A list of floats in new memory, whole block, element k the same as q k. -/
def KRes (n : Nat) (q : Nat → Nat) (w : World) (e : Ending) (w' : World) : Prop :=
  ∃ (G : Nat) (zs : List Nat), e = .returned (.slice (some ⟨G, 0, none⟩) n n) ∧ w.heap.size ≤ G ∧ FR w' G zs ∧ (∀ z ∈ zs, z < 18446744073709551616) ∧ zs.length = n ∧ (∀ k, k < n → fb (zs.getD k 0) = fb (q k)) ∧ Kept 0 0 w w'

theorem lens_is (w : World) (x y z : Int) : IS (w.alloc (.cells #[.int .i64 x, .int .i64 y, .int .i64 z] 3)) 0 (w.heap.size + 1) (some ⟨w.heap.size, 0, none⟩) 3 [x, y, z] :=
  ⟨rfl, .inr ⟨w.heap.size, 0, rfl, Nat.zero_le _, Nat.lt_succ_self _, by simp, fun k hk => by
    have : k = 0 ∨ k = 1 ∨ k = 2 := by omega
    rcases this with rfl | rfl | rfl <;> simp⟩⟩

set_option maxRecDepth 100000 in
set_option maxHeartbeats 1000000 in
theorem implKernel_short (w : World) (op len A B C : Int) (K : Nat) (a b c : Option Addr) (la lb lc ca cb cc : Nat) (hl : lenB len = false) :
    Calls Try.prog 31 #[vagg op len A B C K, .slice a la ca, .slice b lb cb, .slice c lc cc] w fun e w' => e = .returned (.slice none 0 0) ∧ Kept 0 0 w w' := by
  have hL : Hid (∀ w, Calls Try.prog 82 #[.int .i64 len] w fun e w' => e = .returned (.bool false) ∧ w' = w) := fun w => by
    have := isLength_any len w
    rw [hl] at this
    exact this
  clear hl
  go_enter Try.func31, Try.ntmps31
  go_wp2_with fail
  go_quiet ((go_at_call 82; exact Calls.quiet_of_same (hL.out _)))
  go_wp2
  go_ret
  exact ⟨rfl, (((kept_alloc 0 0 w _).trans (kept_alloc 0 0 _ _)).trans (kept_drewN _ _ _ _))⟩

set_option maxRecDepth 100000 in
set_option maxHeartbeats 2000000 in
theorem implKernel_bad (w : World) (op len A B C : Int) (K : Nat) (a b c : Option Addr) (la lb lc ca cb cc : Nat) (hl : lenB len = true)
    (hs : shapeB op len C (([(la : Int), (lb : Int), (lc : Int)]).take (cnt op)) = false) :
    Calls Try.prog 31 #[vagg op len A B C K, .slice a la ca, .slice b lb cb, .slice c lc cc] w fun e w' => e = .returned (.slice none 0 0) ∧ Kept 0 0 w w' := by
  have hL : Hid (∀ w, Calls Try.prog 82 #[.int .i64 len] w fun e w' => e = .returned (.bool true) ∧ w' = w) := fun w => by
    have := isLength_any len w
    rw [hl] at this
    exact this
  have hI := lens_is (w.alloc (vbox op len A B C K)) la lb lc
  have hI2 := hI.prefix (cnt op) (cnt_le op)
  have hcnt := cnt_le op
  have hC : Hid (∀ w, Calls Try.prog 84 #[.int .i64 op] w fun e w' => e = .returned (.int .i64 (cnt op : Nat)) ∧ w' = w) := opCount op
  have hS : Hid (∀ m, Calls Try.prog 83 #[vagg op len A B C K, .slice (some ⟨w.heap.size + 1, 0, none⟩) (cnt op) 3] (((w.alloc (vbox op len A B C K)).alloc (.cells #[.int .i64 la, .int .i64 lb, .int .i64 lc] 3)).drewN m)
      fun e w' => e = .returned (.bool false) ∧ Kept 0 0 (((w.alloc (vbox op len A B C K)).alloc (.cells #[.int .i64 la, .int .i64 lb, .int .i64 lc] 3)).drewN m) w') := fun m => by
    have h := shapeFits _ op len A B C K _ _ _ _ 3 _ (hI2.keep (kept_drewN 0 0 _ m) (.inr (.inr (Nat.le_refl _)))) rfl
    rw [hs] at h
    have e : (w.alloc (vbox op len A B C K)).heap.size = w.heap.size + 1 := by simp
    rw [e] at h
    exact h
  clear hI hI2 hs
  generalize cnt op = q at hC hS hcnt
  go_enter Try.func31, Try.ntmps31
  go_upto_region 2 with fail
  go_cut [30] (fun r wx => r = .bool (!false) ∧ Kept 0 0 ((w.alloc (vbox op len A B C K)).alloc (.cells #[.int .i64 la, .int .i64 lb, .int .i64 lc] 3)) wx)
  case first =>
    go_region_with (first | (go_at_call 82; refine (hL.out _).mono ?_; rintro e w2 ⟨rfl, rfl⟩) | (go_at_call 84; refine (hC.out _).mono ?_; rintro e w2 ⟨rfl, rfl⟩) | (go_at_call 83; refine (hS.out 1).mono ?_; rintro e w2 ⟨rfl, hk⟩))
    all_goals
      go_wp2_with fail
      go_meet
      exact ⟨rfl, (kept_drewN 0 0 _ 1).trans hk⟩
  case rest =>
    obtain ⟨rfl, hcut2⟩ := hcut
    clear hL hC hS hcnt
    have hK : Hid _ := ((kept_alloc 0 0 w _).trans (kept_alloc 0 0 _ _)).trans hcut2
    clear hcut2
    go_wp2
    go_ret
    exact ⟨rfl, hK.out⟩
end Go.Proofs.Ytcphabjekfihnaa
