import Derived.Test.YtcphabjekfihnabGreatP22
import Derived.Test.YtcphabjekfihnabGreatP13
import Derived.Test.YtcphabjekfihnabGreatP23
namespace Go.Proofs.YtcphabjekfihnabGreat
open Go.RowKit Flt
attribute [local go_sem] alloc_drewN setCell_drewN run_store_float

theorem ops0 {op : Int} (h0 : 0 ≤ op) (h1 : op ≤ 13) : ops1 op = cnt op := by
  rcases (by omega : op = 0 ∨ op = 1 ∨ op = 2 ∨ op = 3 ∨ op = 4 ∨ op = 5 ∨ op = 6 ∨ op = 7 ∨ op = 8 ∨ op = 9 ∨ op = 10 ∨ op = 11 ∨ op = 12 ∨ op = 13) with rfl | rfl | rfl | rfl | rfl | rfl | rfl | rfl | rfl | rfl | rfl | rfl | rfl | rfl <;> decide
theorem okV_opR {ins : List Int} {vs : List Vl} {i : Nat} (h : okV ins vs i = true) : 0 ≤ (vs.getD i Vl.zero).op ∧ (vs.getD i Vl.zero).op ≤ 13 := by
  unfold okV at h
  generalize vs.getD i Vl.zero = v at *
  rw [Bool.and_eq_true] at h
  have h3 := h.2
  by_cases h0 : v.op = 0
  · omega
  · rw [if_neg h0, Bool.and_eq_true] at h3
    have h4 := h3.2
    unfold shapeB at h4
    by_cases c : 9 ≤ v.op ∧ v.op ≤ 12
    · omega
    · rw [if_neg (by omega), if_neg (by omega), if_neg (by omega), if_neg (by omega)] at h4
      by_cases d : 1 ≤ v.op ∧ v.op ≤ 13
      · omega
      · rw [if_neg d] at h4; cases h4
/-- An operand's cell in the list of where values went. -/
theorem IS.at_idx {w : World} {lo hi : Nat} {a : Option Addr} {n : Nat} {xs : List Int} (f : IS w lo hi a n xs) {o : Int} (h0 : 0 ≤ o) (h1 : o < n) : ∃ g off k, a = some ⟨g, off, none⟩ ∧ o = (k : Nat) ∧ k < n ∧ g < w.heap.size ∧ w.cell? ⟨g, off + k, none⟩ = some (.int .i64 (xs.getD o.toNat 0)) := by
  rcases f.at_ with z | ⟨g, off, e, _, _, z3, z4⟩
  · omega
  · exact ⟨g, off, o.toNat, e, by omega, by omega, z3, z4 o.toNat (by omega)⟩
theorem cell_in3 {w : World} {g o : Nat} {x : Value} (hg : g < w.heap.size) (h : w.cell? ⟨g, o, none⟩ = some x) (o1 o2 o3 : Obj) : (((w.alloc o1).alloc o2).alloc o3).cell? ⟨g, o, none⟩ = some x :=
  kcell (((kept_alloc 0 0 w o1).trans (kept_alloc 0 0 _ o2)).trans (kept_alloc 0 0 _ o3)) hg h
theorem kept_box (w : World) (o : Obj) (k : Nat) (x : Value) : Kept 0 0 w ((w.alloc o).setCell ⟨w.heap.size, k, none⟩ x) := kept_put w (w.alloc o) (kept_alloc 0 0 w o) w.heap.size k x (Nat.le_refl _)

set_option maxRecDepth 100000 in
set_option maxHeartbeats 4000000 in
theorem l4with_any (w : World) (op len A B C : Int) (K q g off n cap : Nat) (a : Option Addr) (x y z : Int) (hq : q ≤ 3) (ha : 1 ≤ q → a = some ⟨g, off, none⟩ ∧ g < w.heap.size)
    (HC : Hid (∀ w, Calls Tryz.prog 51 #[.int .i64 op] w fun e w' => e = .returned (.int .i64 (q : Nat)) ∧ w' = w))
    (hA : 1 ≤ q → ∃ k : Nat, A = k ∧ k < n ∧ w.cell? ⟨g, off + k, none⟩ = some (.int .i64 x)) (hB : 2 ≤ q → ∃ k : Nat, B = k ∧ k < n ∧ w.cell? ⟨g, off + k, none⟩ = some (.int .i64 y)) (hC : 3 ≤ q → ∃ k : Nat, C = k ∧ k < n ∧ w.cell? ⟨g, off + k, none⟩ = some (.int .i64 z)) :
    Calls Tryz.prog 56 #[vagg op len A B C K, .slice a n cap] w fun e w' => e = .returned (vagg op len (if 0 < q then x else A) (if 1 < q then y else B) (if 2 < q then z else C) K) ∧ Kept 0 0 w w' := by
  rcases (by omega : q = 0 ∨ q = 1 ∨ q = 2 ∨ q = 3) with rfl | rfl | rfl | rfl
  · clear hA hB hC ha
    go_enter Tryz.func56, Tryz.ntmps56
    go_wp2_with (go_at_call 51; refine (HC.out _).mono ?_; rintro e w2 ⟨rfl, rfl⟩)
    refine bodyPost_ret (v := vagg op len A B C K) (by simp [results, Tryz.results56, go_sem]) rfl ⟨rfl, ?_⟩
    first | exact ((kept_alloc 0 0 w _).trans (kept_alloc 0 0 _ _)) | exact ((kept_alloc 0 0 w _).trans (kept_alloc 0 0 _ _)).trans (kept_alloc 0 0 _ _)
  · obtain ⟨rfl, hg⟩ := ha (by omega)
    have hne : w.heap.size ≠ g := by omega
    have hne2 : w.heap.size + 1 ≠ g := by omega
    have hne3 : w.heap.size + 1 + 1 ≠ g := by omega
    obtain ⟨k1, rfl, l1, e1⟩ := hA (by omega)
    clear hA hB hC ha
    go_enter Tryz.func56, Tryz.ntmps56
    go_wp2_with (go_at_call 51; refine (HC.out _).mono ?_; rintro e w2 ⟨rfl, rfl⟩)
    refine bodyPost_ret (v := vagg op len x B C K) (by simp [results, Tryz.results56, go_sem]) rfl ⟨rfl, ?_⟩
    first | exact ((kept_alloc 0 0 w _).trans (kept_alloc 0 0 _ _)) | exact ((kept_alloc 0 0 w _).trans (kept_alloc 0 0 _ _)).trans (kept_alloc 0 0 _ _)
  · obtain ⟨rfl, hg⟩ := ha (by omega)
    have hne : w.heap.size ≠ g := by omega
    have hne2 : w.heap.size + 1 ≠ g := by omega
    have hne3 : w.heap.size + 1 + 1 ≠ g := by omega
    obtain ⟨k1, rfl, l1, e1⟩ := hA (by omega)
    obtain ⟨k2, rfl, l2, e2⟩ := hB (by omega)
    clear hA hB hC ha
    go_enter Tryz.func56, Tryz.ntmps56
    go_wp2_with (go_at_call 51; refine (HC.out _).mono ?_; rintro e w2 ⟨rfl, rfl⟩)
    refine bodyPost_ret (v := vagg op len x y C K) (by simp [results, Tryz.results56, go_sem]) rfl ⟨rfl, ?_⟩
    first | exact ((kept_alloc 0 0 w _).trans (kept_alloc 0 0 _ _)) | exact ((kept_alloc 0 0 w _).trans (kept_alloc 0 0 _ _)).trans (kept_alloc 0 0 _ _)
  · obtain ⟨rfl, hg⟩ := ha (by omega)
    have hne : w.heap.size ≠ g := by omega
    have hne2 : w.heap.size + 1 ≠ g := by omega
    have hne3 : w.heap.size + 1 + 1 ≠ g := by omega
    obtain ⟨k1, rfl, l1, e1⟩ := hA (by omega)
    obtain ⟨k2, rfl, l2, e2⟩ := hB (by omega)
    obtain ⟨k3, rfl, l3, e3⟩ := hC (by omega)
    clear hA hB hC ha
    go_enter Tryz.func56, Tryz.ntmps56
    go_wp2_with (go_at_call 51; refine (HC.out _).mono ?_; rintro e w2 ⟨rfl, rfl⟩)
    refine bodyPost_ret (v := vagg op len x y z K) (by simp [results, Tryz.results56, go_sem]) rfl ⟨rfl, ?_⟩
    first | exact ((kept_alloc 0 0 w _).trans (kept_alloc 0 0 _ _)) | exact ((kept_alloc 0 0 w _).trans (kept_alloc 0 0 _ _)).trans (kept_alloc 0 0 _ _)
set_option maxRecDepth 100000 in
set_option maxHeartbeats 4000000 in
theorem renum_any (w : World) (op len A B C : Int) (K q g off n cap : Nat) (a : Option Addr) (x y z : Int) (hq : q ≤ 3) (ha : 1 ≤ q → a = some ⟨g, off, none⟩ ∧ g < w.heap.size)
    (HC : Hid (∀ w, Calls Tryz.prog 84 #[.int .i64 op] w fun e w' => e = .returned (.int .i64 (q : Nat)) ∧ w' = w))
    (hA : 1 ≤ q → ∃ k : Nat, A = k ∧ k < n ∧ w.cell? ⟨g, off + k, none⟩ = some (.int .i64 x)) (hB : 2 ≤ q → ∃ k : Nat, B = k ∧ k < n ∧ w.cell? ⟨g, off + k, none⟩ = some (.int .i64 y)) (hC : 3 ≤ q → ∃ k : Nat, C = k ∧ k < n ∧ w.cell? ⟨g, off + k, none⟩ = some (.int .i64 z)) :
    Calls Tryz.prog 66 #[vagg op len A B C K, .slice a n cap] w fun e w' => e = .returned (vagg op len (if 0 < q then x else A) (if 1 < q then y else B) (if 2 < q then z else C) K) ∧ Kept 0 0 w w' := by
  rcases (by omega : q = 0 ∨ q = 1 ∨ q = 2 ∨ q = 3) with rfl | rfl | rfl | rfl
  · clear hA hB hC ha
    go_enter Tryz.func66, Tryz.ntmps66
    go_wp2_with (go_at_call 84; refine (HC.out _).mono ?_; rintro e w2 ⟨rfl, rfl⟩)
    refine wp_loop_rounds 1 ?_
    rw [rounds_succ]
    go_wp2
    refine bodyPost_ret (v := vagg op len A B C K) (by simp [results, Tryz.results66, go_sem]) rfl ⟨rfl, ?_⟩
    first | exact ((kept_alloc 0 0 w _).trans (kept_alloc 0 0 _ _)) | exact ((kept_alloc 0 0 w _).trans (kept_alloc 0 0 _ _)).trans (kept_alloc 0 0 _ _)
  · obtain ⟨rfl, hg⟩ := ha (by omega)
    have hne : w.heap.size ≠ g := by omega
    have hne2 : w.heap.size + 1 ≠ g := by omega
    have hne3 : w.heap.size + 1 + 1 ≠ g := by omega
    obtain ⟨k1, rfl, l1, e1⟩ := hA (by omega)
    clear hA hB hC ha
    have E1 := cell_in3 hg e1
    go_enter Tryz.func66, Tryz.ntmps66
    go_wp2_with (go_at_call 84; refine (HC.out _).mono ?_; rintro e w2 ⟨rfl, rfl⟩)
    refine wp_loop_rounds 2 ?_
    rw [rounds_succ]
    go_wp2
    rw [rounds_succ]
    go_wp2
    refine bodyPost_ret (v := vagg op len x B C K) (by simp [results, Tryz.results66, go_sem]) rfl ⟨rfl, ?_⟩
    first | exact ((kept_alloc 0 0 w _).trans (kept_alloc 0 0 _ _)) | exact ((kept_alloc 0 0 w _).trans (kept_alloc 0 0 _ _)).trans (kept_alloc 0 0 _ _)
  · obtain ⟨rfl, hg⟩ := ha (by omega)
    have hne : w.heap.size ≠ g := by omega
    have hne2 : w.heap.size + 1 ≠ g := by omega
    have hne3 : w.heap.size + 1 + 1 ≠ g := by omega
    obtain ⟨k1, rfl, l1, e1⟩ := hA (by omega)
    obtain ⟨k2, rfl, l2, e2⟩ := hB (by omega)
    clear hA hB hC ha
    have E1 := cell_in3 hg e1
    have E2 := cell_in3 hg e2
    go_enter Tryz.func66, Tryz.ntmps66
    go_wp2_with (go_at_call 84; refine (HC.out _).mono ?_; rintro e w2 ⟨rfl, rfl⟩)
    refine wp_loop_rounds 3 ?_
    rw [rounds_succ]
    go_wp2
    rw [rounds_succ]
    go_wp2
    rw [rounds_succ]
    go_wp2
    refine bodyPost_ret (v := vagg op len x y C K) (by simp [results, Tryz.results66, go_sem]) rfl ⟨rfl, ?_⟩
    first | exact ((kept_alloc 0 0 w _).trans (kept_alloc 0 0 _ _)) | exact ((kept_alloc 0 0 w _).trans (kept_alloc 0 0 _ _)).trans (kept_alloc 0 0 _ _)
  · obtain ⟨rfl, hg⟩ := ha (by omega)
    have hne : w.heap.size ≠ g := by omega
    have hne2 : w.heap.size + 1 ≠ g := by omega
    have hne3 : w.heap.size + 1 + 1 ≠ g := by omega
    obtain ⟨k1, rfl, l1, e1⟩ := hA (by omega)
    obtain ⟨k2, rfl, l2, e2⟩ := hB (by omega)
    obtain ⟨k3, rfl, l3, e3⟩ := hC (by omega)
    clear hA hB hC ha
    have E1 := cell_in3 hg e1
    have E2 := cell_in3 hg e2
    have E3 := cell_in3 hg e3
    go_enter Tryz.func66, Tryz.ntmps66
    go_wp2_with (go_at_call 84; refine (HC.out _).mono ?_; rintro e w2 ⟨rfl, rfl⟩)
    refine wp_loop_rounds 4 ?_
    rw [rounds_succ]
    go_wp2
    rw [rounds_succ]
    go_wp2
    rw [rounds_succ]
    go_wp2
    rw [rounds_succ]
    go_wp2
    refine bodyPost_ret (v := vagg op len x y z K) (by simp [results, Tryz.results66, go_sem]) rfl ⟨rfl, ?_⟩
    first | exact ((kept_alloc 0 0 w _).trans (kept_alloc 0 0 _ _)) | exact ((kept_alloc 0 0 w _).trans (kept_alloc 0 0 _ _)).trans (kept_alloc 0 0 _ _)
theorem l4with (w : World) (v : Vl) (lo hi : Nat) (a : Option Addr) (n cap : Nat) (tq : List Int) (f : IS w lo hi a n tq) (hop : 0 ≤ v.op ∧ v.op ≤ 13) (h : ∀ o ∈ opsOf v, 0 ≤ o ∧ o < n) :
    Calls Tryz.prog 56 #[v.agg, .slice a n cap] w fun e w' => e = .returned (rnm tq v).agg ∧ Kept 0 0 w w' := by
  have hc := cnt_le v.op
  have key : ∀ o, o ∈ opsOf v → ∃ g off k, a = some ⟨g, off, none⟩ ∧ o = (k : Nat) ∧ k < n ∧ g < w.heap.size ∧ w.cell? ⟨g, off + k, none⟩ = some (.int .i64 (tq.getD o.toNat 0)) := fun o ho => f.at_idx (h o ho).1 (h o ho).2
  obtain ⟨g, off, ha⟩ : ∃ g off, 1 ≤ cnt v.op → a = some ⟨g, off, none⟩ ∧ g < w.heap.size := by
    by_cases c : 1 ≤ cnt v.op
    · obtain ⟨g, off, k, e1, _, _, e4, _⟩ := key v.a (opsOf_a c)
      exact ⟨g, off, fun _ => ⟨e1, e4⟩⟩
    · exact ⟨0, 0, fun c' => absurd c' c⟩
  have rd : ∀ o, o ∈ opsOf v → 1 ≤ cnt v.op → ∃ k : Nat, o = k ∧ k < n ∧ w.cell? ⟨g, off + k, none⟩ = some (.int .i64 (tq.getD o.toNat 0)) := fun o ho c => by
    obtain ⟨g', off', k, e1, e2, e3, _, e5⟩ := key o ho
    have := (ha c).1
    rw [this] at e1
    cases e1
    exact ⟨k, e2, e3, e5⟩
  exact l4with_any w v.op v.len v.a v.b v.c v.k (cnt v.op) g off n cap a (tq.getD v.a.toNat 0) (tq.getD v.b.toNat 0) (tq.getD v.c.toNat 0) hc ha (fun w => by have := l1operands v.op w hop.1 hop.2; rw [ops0 hop.1 hop.2] at this; exact this) (fun c => rd _ (opsOf_a c) c) (fun c => rd _ (opsOf_b c) (by omega)) (fun c => rd _ (opsOf_c c) (by omega))
theorem renum (w : World) (v : Vl) (lo hi : Nat) (a : Option Addr) (n cap : Nat) (tq : List Int) (f : IS w lo hi a n tq) (h : ∀ o ∈ opsOf v, 0 ≤ o ∧ o < n) :
    Calls Tryz.prog 66 #[v.agg, .slice a n cap] w fun e w' => e = .returned (rnm tq v).agg ∧ Kept 0 0 w w' := by
  have hc := cnt_le v.op
  have key : ∀ o, o ∈ opsOf v → ∃ g off k, a = some ⟨g, off, none⟩ ∧ o = (k : Nat) ∧ k < n ∧ g < w.heap.size ∧ w.cell? ⟨g, off + k, none⟩ = some (.int .i64 (tq.getD o.toNat 0)) := fun o ho => f.at_idx (h o ho).1 (h o ho).2
  obtain ⟨g, off, ha⟩ : ∃ g off, 1 ≤ cnt v.op → a = some ⟨g, off, none⟩ ∧ g < w.heap.size := by
    by_cases c : 1 ≤ cnt v.op
    · obtain ⟨g, off, k, e1, _, _, e4, _⟩ := key v.a (opsOf_a c)
      exact ⟨g, off, fun _ => ⟨e1, e4⟩⟩
    · exact ⟨0, 0, fun c' => absurd c' c⟩
  have rd : ∀ o, o ∈ opsOf v → 1 ≤ cnt v.op → ∃ k : Nat, o = k ∧ k < n ∧ w.cell? ⟨g, off + k, none⟩ = some (.int .i64 (tq.getD o.toNat 0)) := fun o ho c => by
    obtain ⟨g', off', k, e1, e2, e3, _, e5⟩ := key o ho
    have := (ha c).1
    rw [this] at e1
    cases e1
    exact ⟨k, e2, e3, e5⟩
  exact renum_any w v.op v.len v.a v.b v.c v.k (cnt v.op) g off n cap a (tq.getD v.a.toNat 0) (tq.getD v.b.toNat 0) (tq.getD v.c.toNat 0) hc ha (fun w => opCount v.op w) (fun c => rd _ (opsOf_a c) c) (fun c => rd _ (opsOf_b c) (by omega)) (fun c => rd _ (opsOf_c c) (by omega))
end Go.Proofs.YtcphabjekfihnabGreat

namespace Go.Proofs.YtcphabjekfihnabGreat
open Go.RowKit Flt
attribute [local go_sem] alloc_drewN setCell_drewN run_store_float

/-- A whole block of bools that the call laid, not frozen. -/
def BR (w : World) (g : Nat) (xs : List Bool) : Prop := w.heap[g]? = some (.cells (xs.map Value.bool).toArray 4 (0, 0))
theorem BR.lt {w : World} {g : Nat} {xs : List Bool} (h : BR w g xs) : g < w.heap.size := by
  unfold BR at h
  rcases Nat.lt_or_ge g w.heap.size with c | c
  · exact c
  · rw [Array.getElem?_eq_none c] at h; cases h
theorem BR.cell {w : World} {g : Nat} {xs : List Bool} (h : BR w g xs) (k : Nat) (hk : k < xs.length) : w.cell? ⟨g, k, none⟩ = some (.bool (xs.getD k false)) := by
  rw [cell_of_row w g k _ _ _ h]
  simp [hk, List.getD_eq_getElem?_getD]
theorem BR.free {w : World} {g : Nat} {xs : List Bool} (h : BR w g xs) (k : Nat) : w.frozen? ⟨g, k, none⟩ = false := frozen_of_row w g k _ _ h
theorem BR.keep {w w' : World} {g l h : Nat} {xs : List Bool} (f : BR w g xs) (k : Kept l h w w') (hd : g < l ∨ h ≤ g ∨ h ≤ l) : BR w' g xs := by
  unfold BR
  rw [k.block g f.lt (by omega)]
  exact f
theorem BR.keepC {w w' : World} {S : Nat → Prop} {g : Nat} {xs : List Bool} (f : BR w g xs) (k : Chg S w w') (hd : ¬ S g) : BR w' g xs := by
  unfold BR
  rw [k.block g f.lt hd]
  exact f
theorem BR.set {w : World} {g : Nat} {xs : List Bool} (h : BR w g xs) (k : Nat) (x : Bool) : BR (w.setCell ⟨g, k, none⟩ (.bool x)) g (xs.set k x) := by
  unfold BR at h ⊢
  rw [heap_setCell_same w g k _ _ _ h]
  simp [List.map_set]
theorem BR.drewN {w : World} {g : Nat} {xs : List Bool} (h : BR w g xs) (m : Nat) : BR (w.drewN m) g xs := h
theorem BR.made (w : World) (n : Nat) : BR (w.alloc (.cells (madeCells #[.bool false] n) 4)) w.heap.size (List.replicate n false) := by
  unfold BR
  rw [heap_alloc_new]
  have : (madeCells #[.bool false] n) = (List.map Value.bool (List.replicate n false)).toArray := by
    apply Array.toList_inj.1
    rw [toList_madeCells_one]
    simp
  rw [this]
theorem infoB : (Tryz.prog.info? 4).map (fun i => (i.zero, i.size, i.bytes)) = some (some (.bool false), 1, 1) := by kernel_rfl
theorem make_b (n : Nat) (w : World) (hn : n ≤ 1099511627776) :
    (Instr.makeSlice 69 (.int .i64 (n : Int)) (.int .i64 (n : Int))).run Tryz.prog w = .ok (.slice (some ⟨w.heap.size, 0, none⟩) n n) (w.alloc (.cells (madeCells #[.bool false] n) 4)) := by
  obtain ⟨i, hi, hz0, hz1, hz2⟩ := info_parts infoB
  have := run_make (P := Tryz.prog) w 69 4 i (.bool false) Tryz.underlying69 hi hz0 .i64 .i64 n n (by omega) (by omega) (by rw [hz2]; omega) (by omega)
  rw [hz1, Nat.mul_one, Int.toNat_natCast] at this
  exact this
theorem IR.keepC {w w' : World} {S : Nat → Prop} {g : Nat} {xs : List Int} (f : IR w g xs) (k : Chg S w w') (hd : ¬ S g) : IR w' g xs := by
  unfold IR
  rw [k.block g f.lt hd]
  exact f
theorem VA.keepC {w w' : World} {S : Nat → Prop} {g n : Nat} {vs : List Vl} (q : VA w g n vs) (k : Chg S w w') (hd : ¬ S g) : VA w' g n vs :=
  ⟨q.len, Nat.lt_of_lt_of_le q.lt k.size, fun j hj => by
    have e : ∀ o, w'.cell? ⟨g, o, none⟩ = w.cell? ⟨g, o, none⟩ := fun o => k.cell (p := ⟨g, o, none⟩) q.lt hd
    obtain ⟨c0, c1, c2, c3, c4, c5⟩ := q.at_ j hj
    exact ⟨by rw [e]; exact c0, by rw [e]; exact c1, by rw [e]; exact c2, by rw [e]; exact c3, by rw [e]; exact c4, by rw [e]; exact c5⟩, fun o => by rw [k.frozen (p := ⟨g, o, none⟩) q.lt hd]; exact q.free o⟩
theorem IBk.keepC {w w' : World} {S : Nat → Prop} {g n : Nat} {xs : List Int} (q : IBk w g n xs) (k : Chg S w w') (hd : ¬ S g) : IBk w' g n xs :=
  ⟨q.len, Nat.lt_of_lt_of_le q.lt k.size, fun j hj => by rw [k.cell (p := ⟨g, j, none⟩) q.lt hd]; exact q.at_ j hj, fun o => by rw [k.frozen (p := ⟨g, o, none⟩) q.lt hd]; exact q.free o⟩
theorem Chg.mono {S T : Nat → Prop} {w w' : World} (h : Chg S w w') (hs : ∀ b, b < w.heap.size → S b → T b) : Chg T w w' :=
  ⟨h.os, h.tape, h.output, h.size, fun k hk hn => h.block k hk fun c => hn (hs k hk c)⟩
theorem Chg.trans {S : Nat → Prop} {a b c : World} (h : Chg S a b) (k : Chg S b c) : Chg S a c := Chg.andThen h k
/-- A stretch whose own blocks were laid behind a. -/
theorem Chg.new {S T : Nat → Prop} {a b c : World} (h : Chg S a b) (k : Chg T b c) (hT : ∀ i, i < a.heap.size → T i → S i) : Chg S a c :=
  ⟨k.os.trans h.os, k.tape.trans h.tape, k.output.trans h.output, Nat.le_trans h.size k.size, fun i hi hn => (k.block i (Nat.lt_of_lt_of_le hi h.size) (fun c => hn (hT i hi c))).trans (h.block i hi hn)⟩
theorem chg_setCell {S : Nat → Prop} (w : World) (g o : Nat) (v : Value) (h : S g) : Chg S w (w.setCell ⟨g, o, none⟩ v) :=
  (kept_setCell (lo := g) (hi := g + 1) w ⟨g, o, none⟩ v (.inl ⟨Nat.le_refl _, Nat.lt_succ_self _⟩)).chg1 h

/-- The graph that the passes write over: its three lists in blocks of their own. -/
structure PG (w : World) (g1 g2 g3 n1 n2 n3 : Nat) (ins : List Int) (vs : List Vl) (outs : List Int) : Prop where
  i : IBk w g1 n1 ins
  v : VA w g2 n2 vs
  o : IBk w g3 n3 outs
  d12 : g1 ≠ g2
  d13 : g1 ≠ g3
  d23 : g2 ≠ g3
theorem PG.keep {w w' : World} {g1 g2 g3 n1 n2 n3 : Nat} {ins : List Int} {vs : List Vl} {outs : List Int} (f : PG w g1 g2 g3 n1 n2 n3 ins vs outs) (k : Kept 0 0 w w') : PG w' g1 g2 g3 n1 n2 n3 ins vs outs :=
  ⟨f.i.keep k (.inr (.inr (Nat.le_refl _))), f.v.keep k (.inr (.inr (Nat.le_refl _))), f.o.keep k (.inr (.inr (Nat.le_refl _))), f.d12, f.d13, f.d23⟩
theorem IBk.is {w : World} {g n : Nat} {xs : List Int} (f : IBk w g n xs) : IS w 0 w.heap.size (some ⟨g, 0, none⟩) n xs :=
  ⟨f.len, .inr ⟨g, 0, rfl, Nat.zero_le _, f.lt, f.lt, fun k hk => by rw [Nat.zero_add]; exact f.at_ k hk⟩⟩
theorem rnm_pad {tq pad : List Int} {v : Vl} (h : ∀ o ∈ opsOf v, 0 ≤ o ∧ o < tq.length) : rnm (tq ++ pad) v = rnm tq v := by
  have key : ∀ o, o ∈ opsOf v → (tq ++ pad).getD o.toNat 0 = tq.getD o.toNat 0 := fun o ho => by
    have := h o ho
    rw [List.getD_eq_getElem?_getD, List.getElem?_append_left (by omega), ← List.getD_eq_getElem?_getD]
  unfold rnm
  have hc := cnt_le v.op
  congr 1
  · split
    · exact key _ (opsOf_a (by omega))
    · rfl
  · split
    · exact key _ (opsOf_b (by omega))
    · rfl
  · split
    · exact key _ (opsOf_c (by omega))
    · rfl
theorem set_mid {α : Type} (xs ys : List α) (y z : α) : (xs ++ y :: ys).set xs.length z = xs ++ z :: ys := by
  rw [List.set_append_right _ _ (Nat.le_refl _), Nat.sub_self]; rfl
theorem drop_cons {vs : List Vl} {i : Nat} (h : i < vs.length) : vs.drop i = vs.getD i Vl.zero :: vs.drop (i + 1) := by
  rw [List.drop_eq_getElem_cons h, List.getD_eq_getElem?_getD, List.getElem?_eq_getElem h]; rfl
end Go.Proofs.YtcphabjekfihnabGreat

namespace Go.Proofs.YtcphabjekfihnabGreat
open Go.RowKit Flt
attribute [local go_sem] alloc_drewN setCell_drewN run_store_float

theorem own_va {W : World} {base n gk cap : Nat} {ks : List Vl} (h : W.ownsRow base 59 6 (.slice (some ⟨gk, 0, none⟩) n cap) n (flat ks)) (hl : ks.length = n) : VA W gk n ks ∧ base ≤ gk := by
  rcases Nat.eq_zero_or_pos n with h0 | h0
  · subst h0
    rcases h.2 with ⟨e, _⟩ | ⟨g, c, cur, e, b1, b2, b3⟩
    · cases e
    · cases e
      have hlt : gk < W.heap.size := by
        rcases Nat.lt_or_ge gk W.heap.size with c | c
        · exact c
        · rw [Array.getElem?_eq_none c] at b2; cases b2
      exact ⟨⟨hl, hlt, fun k hk => by omega, fun o => frozen_of_row W gk o _ _ b2⟩, b1⟩
  · obtain ⟨g, c, e, h1, _, _, hA⟩ := row_at h h0 hl
    cases e
    exact ⟨hA, h1⟩
theorem own_ioS {W : World} {base n G cap : Nat} {xs : List Int} (h : OI W base G n cap xs) (hl : xs.length = n) : IBk W G n xs := by
  rcases Nat.eq_zero_or_pos n with h0 | h0
  · subst h0
    rcases h.2 with ⟨e, _⟩ | ⟨g, c, cur, e, b1, b2, b3⟩
    · cases e
    · cases e
      have hlt : G < W.heap.size := by
        rcases Nat.lt_or_ge G W.heap.size with c | c
        · exact c
        · rw [Array.getElem?_eq_none c] at b2; cases b2
      exact ⟨hl, hlt, fun k hk => by omega, fun o => frozen_of_row W G o _ _ b2⟩
  · rcases own_io h hl with h1 | ⟨g, e, _, h1⟩
    · omega
    · cases e; exact h1

set_option maxRecDepth 100000 in
set_option maxHeartbeats 4000000 in
theorem copyGraphO (w : World) (_lo g1 g2 g3 n1 c1 n2 c2 n3 c3 : Nat) (ins : List Int) (vs : List Vl) (outs : List Int) (f : GN w g1 g2 g3 n2 ins vs outs) (e1 : ins.length = n1) (e3 : outs.length = n3) (l1 : n1 ≤ 1000000) (l2 : n2 ≤ 2000) (l3 : n3 ≤ 1000000) :
    Calls Tryz.prog 31 #[gagg (some ⟨g1, 0, none⟩) n1 c1 (some ⟨g2, 0, none⟩) n2 c2 (some ⟨g3, 0, none⟩) n3 c3] w fun e w' => ∃ G1 d1 G2 d2 G3 d3, e = .returned (gagg (some ⟨G1, 0, none⟩) n1 d1 (some ⟨G2, 0, none⟩) n2 d2 (some ⟨G3, 0, none⟩) n3 d3) ∧ OI w' w.heap.size G1 n1 d1 ins ∧ w'.ownsRow w.heap.size 59 6 (.slice (some ⟨G2, 0, none⟩) n2 d2) n2 (flat vs) ∧ OI w' w.heap.size G3 n3 d3 outs ∧ (w.heap.size ≤ G1 ∧ G1 < G2 ∧ G2 < G3 ∧ G3 < w'.heap.size) ∧ Kept 0 0 w w' := by
  have k0 := kept_alloc 0 0 w (gbox (some ⟨g1, 0, none⟩) n1 c1 (some ⟨g2, 0, none⟩) n2 c2 (some ⟨g3, 0, none⟩) n3 c3)
  have k0' := kept_alloc 0 0 (w.alloc (gbox (some ⟨g1, 0, none⟩) n1 c1 (some ⟨g2, 0, none⟩) n2 c2 (some ⟨g3, 0, none⟩) n3 c3)) nbox
  have HB : Hid _ := (g0_start w (.slice (some ⟨g1, 0, none⟩) n1 c1) (.slice (some ⟨g2, 0, none⟩) n2 c2) (.slice (some ⟨g3, 0, none⟩) n3 c3)).keep k0'
  have hz : (w.alloc (gbox (some ⟨g1, 0, none⟩) n1 c1 (some ⟨g2, 0, none⟩) n2 c2 (some ⟨g3, 0, none⟩) n3 c3)).heap.size = w.heap.size + 1 := by simp
  have hR := rb_start (w.alloc (gbox (some ⟨g1, 0, none⟩) n1 c1 (some ⟨g2, 0, none⟩) n2 c2 (some ⟨g3, 0, none⟩) n3 c3))
  rw [hz] at hR
  have HR : Hid _ := hR
  have HK : Hid _ := k0.trans k0'
  have HI1 : Hid _ := f.i.keep (k0.trans k0') (.inr (.inr (Nat.le_refl _)))
  have HI2 : Hid _ := f.v.keep (k0.trans k0') (.inr (.inr (Nat.le_refl _)))
  have HI3 : Hid _ := f.o.keep (k0.trans k0') (.inr (.inr (Nat.le_refl _)))
  have HZ : Hid (((w.alloc (gbox (some ⟨g1, 0, none⟩) n1 c1 (some ⟨g2, 0, none⟩) n2 c2 (some ⟨g3, 0, none⟩) n3 c3)).alloc nbox).heap.size = w.heap.size + 1 + 1) := by show _ = _; simp
  have HVL : Hid (vs.length = n2) := f.v.len
  clear f k0 k0' hz hR
  obtain ⟨_, q0, q1, q2⟩ := HB.out
  go_enter Tryz.func31, Tryz.ntmps31
  go_wp2_with fail
  generalize (w.alloc (gbox (some ⟨g1, 0, none⟩) n1 c1 (some ⟨g2, 0, none⟩) n2 c2 (some ⟨g3, 0, none⟩) n3 c3)).alloc nbox = w1 at HB HR HK HI1 HI2 HI3 HZ q0 q1 q2 ⊢
  have hPR : w.heap.size ≠ w.heap.size + 1 := by omega
  go_region_held3 (fun w' => w'.cell? ⟨w.heap.size, 0, none⟩ = some (.slice (some ⟨g1, 0, none⟩) n1 c1) ∧ w'.cell? ⟨w.heap.size, 1, none⟩ = some (.slice (some ⟨g2, 0, none⟩) n2 c2) ∧ w'.cell? ⟨w.heap.size, 2, none⟩ = some (.slice (some ⟨g3, 0, none⟩) n3 c3)) (first | go_keep | (simp only [cell3c _ _ _ _ _ _ _ hPR]; exact ⟨r0, r1, r2⟩))
    (first
      | (go_at_call 49; refine Calls.mono (cloneI w3 g3 n3 c3 outs l3 (IE.keep HI3.out kk2 (.inr (.inr (Nat.le_refl _)))) e3) ?_; rintro e w4 ⟨G3, d3, rfl, b3, b3', o3, k3⟩; have kk3 := Kept.trans kk2 k3; obtain ⟨_, r0, r1, r2⟩ := G0.keep HB.out kk3; obtain ⟨_, j0, j1, j2, f0, f1, f2⟩ := RB.keep HR.out kk3)
      | (go_at_call 50; refine Calls.mono (cloneV w2 g2 n2 c2 vs (by omega) (VA.keep HI2.out kk1 (.inr (.inr (Nat.le_refl _))))) ?_; rintro e w3 ⟨G2, d2, rfl, b2, b2', o2, k2⟩; have kk2 := Kept.trans kk1 k2; obtain ⟨_, t0, t1, t2⟩ := G0.keep HB.out kk2)
      | (go_at_call 49; refine Calls.mono (cloneI (w1.drewN 1) g1 n1 c1 ins l1 (IE.drewN HI1.out 1) e1) ?_; rintro e w2 ⟨G1, d1, rfl, b1, b1', o1, k1⟩; have kk1 := Kept.trans (kept_drewN 0 0 w1 1) k1; obtain ⟨_, s0, s1, s2⟩ := G0.keep HB.out kk1))
  have hz1 : (w1.drewN 1).heap.size = w.heap.size + 1 + 1 := HZ.out
  have hz2 : (w1.drewN 1).heap.size ≤ w2.heap.size := k1.size
  have hz3 : w2.heap.size ≤ w3.heap.size := k2.size
  have hz4 : w3.heap.size ≤ w4.heap.size := k3.size
  have H1 : Hid (OI w4 w.heap.size G1 n1 d1 ins) := own_mono (own_keepJ o1 (k2.trans k3)) (by omega)
  have H2 : Hid (w4.ownsRow w.heap.size 59 6 (.slice (some ⟨G2, 0, none⟩) n2 d2) n2 (flat vs)) := own_mono (own_keepJ o2 k3) (by omega)
  have H3 : Hid (OI w4 w.heap.size G3 n3 d3 outs) := own_mono o3 (by omega)
  have HD : Hid (G1 < G2 ∧ G2 < G3 ∧ w.heap.size + 1 + 1 ≤ G1 ∧ G3 < w4.heap.size) := ⟨by omega, by omega, by omega, by omega⟩
  have HK4 : Hid _ := HK.out.trans kk3
  clear q0 q1 q2 s0 s1 s2 t0 t1 t2 r0 r1 r2 b1 b2 b3 b1' b2' b3' o1 o2 o3 k1 k2 k3 kk1 kk2 kk3 hz1 hz2 hz3 hz4 HI1 HI2 HI3 HB
  go_wp2_with fail
  obtain ⟨y0, y1, y2⟩ := put3_0 w4 (w.heap.size + 1) _ _ _ j0 j1 j2 (.slice (some ⟨G1, 0, none⟩) n1 d1) (.slice (some ⟨G2, 0, none⟩) n2 d2) (.slice (some ⟨G3, 0, none⟩) n3 d3)
  have kp := put3_kept w4 (w.heap.size + 1) (.slice (some ⟨G1, 0, none⟩) n1 d1) (.slice (some ⟨G2, 0, none⟩) n2 d2) (.slice (some ⟨G3, 0, none⟩) n3 d3)
  refine bodyPost_ret (v := gagg (some ⟨G1, 0, none⟩) n1 d1 (some ⟨G2, 0, none⟩) n2 d2 (some ⟨G3, 0, none⟩) n3 d3) (by simp [results, Tryz.results31, go_sem, y0, y1, y2]) rfl ⟨G1, d1, G2, d2, G3, d3, rfl, ?_, ?_, ?_, ?_, ?_⟩
  · exact own_keepR H1.out kp (fun g hg => by
      have e : g = G1 := by simpa [Value.ownBlock] using hg.symm
      have := HD.out; omega)
  · exact own_keepR H2.out kp (fun g hg => by
      have e : g = G2 := by simpa [Value.ownBlock] using hg.symm
      have := HD.out; omega)
  · exact own_keepR H3.out kp (fun g hg => by
      have e : g = G3 := by simpa [Value.ownBlock] using hg.symm
      have := HD.out; omega)
  · have := HD.out
    have := kp.size
    omega
  · exact HK4.out.new kp (by omega)
theorem copyGraph (w : World) (_lo g1 g2 g3 n1 c1 n2 c2 n3 c3 : Nat) (ins : List Int) (vs : List Vl) (outs : List Int) (f : GN w g1 g2 g3 n2 ins vs outs) (e1 : ins.length = n1) (e3 : outs.length = n3) (l1 : n1 ≤ 1000000) (l2 : n2 ≤ 2000) (l3 : n3 ≤ 1000000) :
    Calls Tryz.prog 31 #[gagg (some ⟨g1, 0, none⟩) n1 c1 (some ⟨g2, 0, none⟩) n2 c2 (some ⟨g3, 0, none⟩) n3 c3] w fun e w' => ∃ G1 d1 G2 d2 G3 d3, e = .returned (gagg (some ⟨G1, 0, none⟩) n1 d1 (some ⟨G2, 0, none⟩) n2 d2 (some ⟨G3, 0, none⟩) n3 d3) ∧ PG w' G1 G2 G3 n1 n2 n3 ins vs outs ∧ (w.heap.size ≤ G1 ∧ w.heap.size ≤ G2 ∧ w.heap.size ≤ G3) ∧ Kept 0 0 w w' := by
  have hv := f.v.len
  refine (copyGraphO w _lo g1 g2 g3 n1 c1 n2 c2 n3 c3 ins vs outs f e1 e3 l1 l2 l3).mono ?_
  rintro e w' ⟨G1, d1, G2, d2, G3, d3, rfl, o1, o2, o3, hd, hk⟩
  exact ⟨G1, d1, G2, d2, G3, d3, rfl, ⟨own_ioS o1 e1, (own_va o2 hv).1, own_ioS o3 e3, by omega, by omega, by omega⟩, by omega, hk⟩
end Go.Proofs.YtcphabjekfihnabGreat
