import Derived.Test.YtcphabjekfihnaaP06
import Derived.Test.YtcphabjekfihnaaP09
import Derived.Deep.RegionHeld3
namespace Go.Proofs.Ytcphabjekfihnaa
open Go.RowKit Flt
attribute [local go_sem] alloc_drewN setCell_drewN run_store_float

def placeB (op : Int) : Bool := decide (op = 11 ∨ op = 12)
set_option maxHeartbeats 400000 in
theorem hasPlace (op : Int) (w : World) : Calls Try.prog 175 #[.int .i64 op] w fun e w' => e = .returned (.bool (placeB op)) ∧ w' = w := by
  by_cases h1 : op = 11
  · subst h1
    go_enter Try.func175, Try.ntmps175
    go_wp2
    go_ret
    exact ⟨rfl, rfl⟩
  · by_cases h2 : op = 12
    · subst h2
      go_enter Try.func175, Try.ntmps175
      go_wp2
      go_ret
      exact ⟨rfl, rfl⟩
    · rw [show placeB op = false from decide_eq_false (by omega)]
      have t1 : (op == 11) = false := beq_eq_false_iff_ne.2 h1
      have t2 : (op == 12) = false := beq_eq_false_iff_ne.2 h2
      clear h1 h2
      go_enter Try.func175, Try.ntmps175
      go_wp2
      go_ret
      exact ⟨rfl, rfl⟩

/-- Whether the fields that the operation doesn't use are zero. -/
def spareB (v : Vl) : Bool := !(((decide (cnt v.op < 1) && v.op != 0) && v.a != 0) || (decide (cnt v.op < 2) && v.b != 0) || ((decide (cnt v.op < 3) && !placeB v.op) && v.c != 0))

set_option maxRecDepth 100000 in
set_option maxHeartbeats 8000000 in
theorem spare_any (w : World) (op len A B C : Int) (K n : Nat) (hn : n ≤ 3) (p : Bool) (HC : Hid (∀ w, Calls Try.prog 84 #[.int .i64 op] w fun e w' => e = .returned (.int .i64 (n : Nat)) ∧ w' = w))
    (HP : Hid (∀ w, Calls Try.prog 175 #[.int .i64 op] w fun e w' => e = .returned (.bool p) ∧ w' = w)) :
    Calls Try.prog 148 #[vagg op len A B C K] w fun e w' => e = .returned (.bool (!(((decide (n < 1) && op != 0) && A != 0) || (decide (n < 2) && B != 0) || ((decide (n < 3) && !p) && C != 0)))) ∧ Kept 0 0 w w' := by
  rcases (by omega : n = 0 ∨ n = 1 ∨ n = 2 ∨ n = 3) with rfl | rfl | rfl | rfl
  all_goals
    go_enter Try.func148, Try.ntmps148
    go_wp2_with (first | (go_at_call 84; refine (HC.out _).mono ?_; rintro e w2 ⟨rfl, rfl⟩) | (go_at_call 175; refine (HP.out _).mono ?_; rintro e w2 ⟨rfl, rfl⟩))
    all_goals
      go_ret
      exact ⟨by simp_all, kept_alloc _ _ _ _⟩
theorem spareFields (w : World) (v : Vl) : Calls Try.prog 148 #[v.agg] w fun e w' => e = .returned (.bool (spareB v)) ∧ Kept 0 0 w w' :=
  spare_any w v.op v.len v.a v.b v.c v.k (cnt v.op) (cnt_le _) (placeB v.op) (fun w => opCount _ w) (fun w => hasPlace _ w)

/-- The operands of a value. -/
def opsOf (v : Vl) : List Int := [v.a, v.b, v.c].take (cnt v.op)
theorem opsOf_len (v : Vl) : (opsOf v).length = cnt v.op := by
  have := cnt_le v.op
  simp [opsOf]; omega
set_option maxRecDepth 100000 in
set_option maxHeartbeats 2000000 in
theorem operandsOf (w : World) (v : Vl) : Calls Try.prog 149 #[v.agg] w fun e w' => ∃ g, e = .returned (.slice (some ⟨g, 0, none⟩) (cnt v.op) 3) ∧ IS w' w.heap.size w'.heap.size (some ⟨g, 0, none⟩) (cnt v.op) (opsOf v) ∧ g + 1 = w'.heap.size ∧ Kept 0 0 w w' := by
  have hcnt := cnt_le v.op
  have hI : Hid _ := (lens_is (w.alloc (vbox v.op v.len v.a v.b v.c v.k)) v.a v.b v.c).prefix (cnt v.op) hcnt
  have HC : Hid (∀ w, Calls Try.prog 84 #[.int .i64 v.op] w fun e w' => e = .returned (.int .i64 (cnt v.op : Nat)) ∧ w' = w) := opCount v.op
  generalize hq : cnt v.op = q at hI HC hcnt
  have b0 : (0 : Int) ≤ (q : Int) := by omega
  have b1 : (q : Int) ≤ 3 := by omega
  go_enter Try.func149, Try.ntmps149
  go_wp2_with fail
  go_region_held3 (fun w' => w'.cell? ⟨w.heap.size, 0, none⟩ = some (.int .i64 v.op) ∧ w'.cell? ⟨w.heap.size, 2, none⟩ = some (.int .i64 v.a) ∧ w'.cell? ⟨w.heap.size, 3, none⟩ = some (.int .i64 v.b) ∧ w'.cell? ⟨w.heap.size, 4, none⟩ = some (.int .i64 v.c)) (go_keep)
    ((go_at_call 84; refine (HC.out _).mono ?_; rintro e w2 ⟨rfl, rfl⟩))
  all_goals
    go_wp2
    go_ret
    have h1 : (w.alloc (vbox v.op v.len v.a v.b v.c v.k)).heap.size = w.heap.size + 1 := by simp
    have hI' := hI.out
    rw [h1] at hI'
    refine ⟨w.heap.size + 1, rfl, ⟨hI'.len.trans rfl |> fun e => by rw [opsOf, hq]; exact e, ?_⟩, ?_, ?_⟩
    · rcases hI'.at_ with h0 | ⟨g, off, e, a1, a2, a3, a4⟩
      · exact .inl h0
      · cases e
        refine .inr ⟨_, _, rfl, Nat.le_succ _, ?_, ?_, fun k hk => ?_⟩
        · exact a3
        · exact a3
        · rw [opsOf, hq]; exact a4 k hk
    · show w.heap.size + 1 + 1 = ((w.alloc _).alloc _).heap.size
      simp
    · exact ((kept_alloc 0 0 w _).trans (kept_alloc 0 0 _ _)).trans (kept_drewN 0 0 _ 1)
end Go.Proofs.Ytcphabjekfihnaa
