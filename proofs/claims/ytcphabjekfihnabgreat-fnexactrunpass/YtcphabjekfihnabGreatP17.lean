import Derived.Test.YtcphabjekfihnabGreatP16
namespace Go.Proofs.YtcphabjekfihnabGreat
open Go.RowKit Flt
attribute [local go_sem] alloc_drewN setCell_drewN run_store_float

set_option maxRecDepth 100000 in
set_option maxHeartbeats 2000000 in
theorem valOK_bad (w : World) (a1 a3 : Option Addr) (n1 c1 n2 c2 n3 c3 g2 o2 i : Nat) (v : Vl) (hg : g2 < w.heap.size) (hi : i < n2) (hat : At w g2 (o2 + i * 6) v) (hl : ¬ (0 ≤ v.op ∧ v.op ≤ 13 ∧ 1 ≤ v.len ∧ v.len ≤ 1000)) :
    Calls Tryz.prog 33 #[gagg a1 n1 c1 (some ⟨g2, o2, none⟩) n2 c2 a3 n3 c3, .int .i64 (i : Int)] w fun e w' => e = .returned (.bool false) ∧ Kept 0 0 w w' := by
  have hK := kept_alloc 0 0 w (gbox a1 n1 c1 (some ⟨g2, o2, none⟩) n2 c2 a3 n3 c3)
  obtain ⟨e0, e1, e2, e3, e4, e5⟩ := hat.keep hg hK (.inr (.inr (Nat.le_refl _)))
  clear hat hK
  rcases (by omega : v.op < 0 ∨ (0 ≤ v.op ∧ 13 < v.op) ∨ ((0 ≤ v.op ∧ v.op ≤ 13) ∧ v.len < 1) ∨ ((0 ≤ v.op ∧ v.op ≤ 13) ∧ 1 ≤ v.len ∧ 1000 < v.len)) with h | ⟨h, h'⟩ | ⟨⟨h, h'⟩, h''⟩ | ⟨⟨h, h'⟩, h'', h'''⟩
  all_goals
    clear hl
    go_enter Tryz.func33, Tryz.ntmps33
    go_wp2
    go_ret
    exact ⟨rfl, (kept_alloc 0 0 w _).trans (kept_alloc 0 0 _ _)⟩

set_option maxRecDepth 100000 in
set_option maxHeartbeats 2000000 in
theorem valOK_input (w : World) (a1 a3 : Option Addr) (n1 cc1 n2 c2 n3 c3 g2 o2 i : Nat) (len A B C : Int) (K : Nat) (ins : List Int) (f : IS w 0 w.heap.size a1 n1 ins) (hg : g2 < w.heap.size) (hi : i < n2) (hat : At w g2 (o2 + i * 6) ⟨0, len, A, B, C, K⟩) (hl1 : 1 ≤ len) (hl2 : len ≤ 1000) :
    Calls Tryz.prog 33 #[gagg a1 n1 cc1 (some ⟨g2, o2, none⟩) n2 c2 a3 n3 c3, .int .i64 (i : Int)] w fun e w' => e = .returned (.bool (((idxB A n1 && len == ins.getD A.toNat 0) && B == 0) && C == 0)) ∧ Kept 0 0 w w' := by
  have hK := kept_alloc 0 0 w (gbox a1 n1 cc1 (some ⟨g2, o2, none⟩) n2 c2 a3 n3 c3)
  obtain ⟨e0, e1, e2, e3, e4, e5⟩ := hat.keep hg hK (.inr (.inr (Nat.le_refl _)))
  have hK2 := hK.trans (kept_alloc 0 0 _ (vbox 0 len A B C K))
  have hB := gb_start w (.slice a1 n1 cc1) (.slice (some ⟨g2, o2, none⟩) n2 c2) (.slice a3 n3 c3) ⟨0, len, A, B, C, K⟩
  clear hat hK
  simp only at e0 e1 e2 e3 e4 e5
  obtain ⟨_, q0, q1, q2, vt⟩ := hB
  obtain ⟨d0, d1, d2, d3, d4, d5⟩ := vt
  simp only at d0 d1 d2 d3 d4 d5
  have HK2 : Hid _ := hK2
  by_cases hA : 0 ≤ A ∧ A < n1
  · obtain ⟨j, rfl⟩ : ∃ j : Nat, A = j := ⟨A.toNat, by omega⟩
    rw [show idxB (j : Int) n1 = true from decide_eq_true hA, Bool.true_and, Int.toNat_natCast]
    have hj : j < n1 := by omega
    clear hA
    rcases f.at_ with h0 | ⟨g1, o1, rfl, b1, b2, b3, b4⟩
    · omega
    have c1 := kcell hK2 b3 (b4 j hj)
    clear b4 f b1 b2 hK2
    generalize ins.getD j 0 = y at c1 ⊢
    have j0 : (0 : Int) ≤ (j : Int) := by omega
    have j1 : (j : Int) < (n1 : Int) := by omega
    cases t1 : (len == y) <;> cases t2 : (B == 0) <;> cases t3 : (C == 0)
    all_goals
      go_enter Tryz.func33, Tryz.ntmps33
      go_wp2_with fail
      generalize hwq : (w.alloc (gbox (some ⟨g1, o1, none⟩) n1 cc1 (some ⟨g2, o2, none⟩) n2 c2 a3 n3 c3)).alloc (vbox 0 len j B C K) = wq at HK2 c1 q0 q1 q2 d0 d1 d2 d3 d4 d5 ⊢
      clear hwq
      go_quiet (fail)
      go_wp2
      go_ret
      exact ⟨rfl, HK2.out.trans (kept_drewN 0 0 _ _)⟩
  · rw [show idxB A n1 = false from decide_eq_false hA]
    simp only [Bool.false_and]
    clear hK2 f
    rcases (by omega : A < 0 ∨ (0 ≤ A ∧ (n1 : Int) ≤ A)) with h | ⟨h, h'⟩
    · have t1 : decide (0 ≤ A) = false := decide_eq_false (by omega)
      clear hA
      go_enter Tryz.func33, Tryz.ntmps33
      go_wp2_with fail
      generalize hwq : (w.alloc (gbox a1 n1 cc1 (some ⟨g2, o2, none⟩) n2 c2 a3 n3 c3)).alloc (vbox 0 len A B C K) = wq at HK2 q0 q1 q2 d0 d1 d2 d3 d4 d5 ⊢
      clear hwq
      go_quiet (fail)
      go_wp2
      go_ret
      exact ⟨rfl, HK2.out.trans (kept_drewN 0 0 _ _)⟩
    · have t1 : decide (0 ≤ A) = true := decide_eq_true h
      have t2 : decide (A < (n1 : Int)) = false := decide_eq_false (by omega)
      clear hA
      go_enter Tryz.func33, Tryz.ntmps33
      go_wp2_with fail
      generalize hwq : (w.alloc (gbox a1 n1 cc1 (some ⟨g2, o2, none⟩) n2 c2 a3 n3 c3)).alloc (vbox 0 len A B C K) = wq at HK2 q0 q1 q2 d0 d1 d2 d3 d4 d5 ⊢
      clear hwq
      go_quiet (fail)
      go_wp2
      go_ret
      exact ⟨rfl, HK2.out.trans (kept_drewN 0 0 _ _)⟩
end Go.Proofs.YtcphabjekfihnabGreat
