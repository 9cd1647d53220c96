import Derived.Test.YtjaklhpdkfmipaaR05
namespace Go.Proofs.Ytjaklhpdkfmipaa
open Go.RowKit Flt
attribute [local go_sem] alloc_drewN setCell_drewN run_store_float

theorem fld_at (v : Vl) {q : Nat} (hq : q < 3) : fld v q = [v.a, v.b, v.c].getD q 0 := by
  rcases (by omega : q = 0 ∨ q = 1 ∨ q = 2) with rfl | rfl | rfl <;> rfl
theorem opl_in (v : Vl) (Vs : List (List Nat)) {q : Nat} (hq : q < cnt v.op) : (opl v Vs (cnt v.op)).getD q [] = Vs.getD (fld v q).toNat [] := by
  have := cnt_le v.op
  rcases (by omega : q = 0 ∨ q = 1 ∨ q = 2) with rfl | rfl | rfl
  · show (if 0 < cnt v.op then _ else _) = _; rw [if_pos hq]; rfl
  · show (if 1 < cnt v.op then _ else _) = _; rw [if_pos hq]; rfl
  · show (if 2 < cnt v.op then _ else _) = _; rw [if_pos hq]; rfl
theorem opl_out (v : Vl) (Vs : List (List Nat)) {q : Nat} (hq : q < 3) (h : ¬ q < cnt v.op) : (opl v Vs (cnt v.op)).getD q [] = [] := by
  rcases (by omega : q = 0 ∨ q = 1 ∨ q = 2) with rfl | rfl | rfl
  · show (if 0 < cnt v.op then _ else _) = _; rw [if_neg h]
  · show (if 1 < cnt v.op then _ else _) = _; rw [if_neg h]
  · show (if 2 < cnt v.op then _ else _) = _; rw [if_neg h]
theorem own_blk {base e size n : Nat} {v : Value} {xs : List Value} {W : World} (h : W.ownsRow base e size v n xs) {k : Nat} (hk : v.ownBlock = some k) : base ≤ k ∧ k < W.heap.size := by
  rcases h.2 with ⟨rfl, _⟩ | ⟨g, cap, cur, rfl, b1, b2, _⟩
  · simp [Value.ownBlock] at hk
  · have e : g = k := by simpa [Value.ownBlock] using hk
    subst e
    refine ⟨b1, ?_⟩
    rcases Nat.lt_or_ge g W.heap.size with c | c
    · exact c
    · rw [Array.getElem?_eq_none c] at b2; cases b2
theorem us_keep {W W' : World} {us : List Value} {k : Nat} {v : Value} {Vs : List (List Nat)} (h : ∀ j, j < k → ∃ b n c, us[j]? = some (.slice b n c) ∧ Cl W (.slice b n c) (Vs.getD j []) ∧ (0 < n → ∀ p, b = some p → v.ownBlock ≠ some p.block)) (q : Kept 0 0 W W') :
    ∀ j, j < k → ∃ b n c, us[j]? = some (.slice b n c) ∧ Cl W' (.slice b n c) (Vs.getD j []) ∧ (0 < n → ∀ p, b = some p → v.ownBlock ≠ some p.block) := fun j hj => by
  obtain ⟨b, n, c, a1, a2, a3⟩ := h j hj
  exact ⟨b, n, c, a1, a2.keep q, a3⟩
theorem getD_last {xss : List (List Nat)} {ys : List Nat} {k : Nat} (h : xss.length = k) : (xss ++ [ys]).getD k [] = ys := by
  rw [List.getD_eq_getElem?_getD, List.getElem?_append_right (by omega), h, Nat.sub_self]; rfl
theorem getD_mem {xs : List Int} {q : Nat} (h : q < xs.length) : xs.getD q 0 ∈ xs := by
  rw [List.getD_eq_getElem?_getD, List.getElem?_eq_getElem h]
  exact List.getElem_mem _
/-- What a valid value says of its operands. -/
theorem ok_ops {ins : List Int} {vs : List Vl} {k : Nat} (ok : okV ins vs k = true) (h0 : (vs.getD k Vl.zero).op ≠ 0) :
    (1 ≤ (vs.getD k Vl.zero).op ∧ (vs.getD k Vl.zero).op ≤ 13) ∧ ∀ q, q < cnt (vs.getD k Vl.zero).op → 0 ≤ fld (vs.getD k Vl.zero) q ∧ fld (vs.getD k Vl.zero) q < k := by
  unfold okV at ok
  rw [if_neg h0] at ok
  simp only [Bool.and_eq_true] at ok
  refine ⟨?_, fun q hq => ?_⟩
  · by_cases c : 0 ≤ (vs.getD k Vl.zero).op ∧ (vs.getD k Vl.zero).op ≤ 13
    · omega
    · have := ok.2.2
      rw [shape_out c] at this
      cases this
  · have h := List.all_eq_true.1 ok.2.1 ((opsOf (vs.getD k Vl.zero)).getD q 0) (getD_mem (by rw [opsOf_len]; exact hq))
    have h2 := of_decide_eq_true h
    rw [opsOf_at _ hq, ← fld_at _ (by have := cnt_le (vs.getD k Vl.zero).op; omega)] at h2
    exact h2
theorem ok_in {ins : List Int} {vs : List Vl} {k : Nat} (ok : okV ins vs k = true) (h0 : (vs.getD k Vl.zero).op = 0) :
    0 ≤ (vs.getD k Vl.zero).a ∧ (vs.getD k Vl.zero).a < ins.length ∧ 1 ≤ (vs.getD k Vl.zero).len ∧ (vs.getD k Vl.zero).len ≤ 1000 ∧ (vs.getD k Vl.zero).len = ins.getD (vs.getD k Vl.zero).a.toNat 0 := by
  have l := okV_len ok
  unfold okV at ok
  rw [if_pos h0] at ok
  simp only [Bool.and_eq_true] at ok
  have := of_decide_eq_true ok.2.1
  exact ⟨this.1, this.2, l.1, l.2, by simpa using ok.2.2⟩

/-- The cells that are read ahead of Kernel: the value's box at A, the list of arguments at B. -/
def NC (w' : World) (A B : Nat) (v : Vl) (x0 x1 x2 : Value) : Prop :=
  w'.cell? ⟨A, 0, none⟩ = some (.int .i64 v.op) ∧ w'.cell? ⟨A, 0 + 1, none⟩ = some (.int .i64 v.len) ∧ w'.cell? ⟨A, 0 + 2, none⟩ = some (.int .i64 v.a) ∧ w'.cell? ⟨A, 0 + 3, none⟩ = some (.int .i64 v.b) ∧ w'.cell? ⟨A, 0 + 4, none⟩ = some (.int .i64 v.c) ∧ w'.cell? ⟨A, 0 + 5, none⟩ = some (.float .f64 v.k) ∧ w'.cell? ⟨B, 0, none⟩ = some x0 ∧ w'.cell? ⟨B, 1, none⟩ = some x1 ∧ w'.cell? ⟨B, 2, none⟩ = some x2
theorem NC.of {w w' : World} {A B : Nat} {v : Vl} {x0 x1 x2 : Value} (h : NC w A B v x0 x1 x2) (e : ∀ g o u, (g = A ∨ g = B) → w.cell? ⟨g, o, none⟩ = some u → w'.cell? ⟨g, o, none⟩ = some u) : NC w' A B v x0 x1 x2 := by
  obtain ⟨h0, h1, h2, h3, h4, h5, h6, h7, h8⟩ := h
  exact ⟨e _ _ _ (.inl rfl) h0, e _ _ _ (.inl rfl) h1, e _ _ _ (.inl rfl) h2, e _ _ _ (.inl rfl) h3, e _ _ _ (.inl rfl) h4, e _ _ _ (.inl rfl) h5, e _ _ _ (.inr rfl) h6, e _ _ _ (.inr rfl) h7, e _ _ _ (.inr rfl) h8⟩
theorem NC.keep {w w' : World} {A B : Nat} {v : Vl} {x0 x1 x2 : Value} (h : NC w A B v x0 x1 x2) (k : Kept 0 0 w w') (hA : A < w.heap.size) (hB : B < w.heap.size) : NC w' A B v x0 x1 x2 :=
  h.of fun g o u hg hc => kcell k (by rcases hg with rfl | rfl; exact hA; exact hB) hc
theorem NC.far {w w' : World} {row : Option Nat} {A B N : Nat} {v : Vl} {x0 x1 x2 : Value} (h : NC w A B v x0 x1 x2) (hg : w.grownBy w' row) (hr : ∀ i, row = some i → i < N) (nA : N ≤ A) (nB : N ≤ B) (hA : A < w.heap.size) (hB : B < w.heap.size) : NC w' A B v x0 x1 x2 :=
  h.of fun g o u hg' hc => by
    rw [hg.cell_far ⟨g, o, none⟩ (by rcases hg' with rfl | rfl; exact hA; exact hB) (fun c => by have := hr g c.symm; omega)]
    exact hc

end Go.Proofs.Ytjaklhpdkfmipaa
