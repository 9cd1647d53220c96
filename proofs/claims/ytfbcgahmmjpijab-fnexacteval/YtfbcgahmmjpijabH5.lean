import Derived.Test.YtfbcgahmmjpijabH4
namespace Go.Proofs.Ytfbcgahmmjpijab
open Go.RowKit Flt
attribute [local go_sem] alloc_drewN setCell_drewN run_store_float

theorem FS.setS {w : World} {lo hi : Nat} {a : Option Addr} {n : Nat} {xs : List Nat} (f : FS w lo hi a n xs) {g k : Nat} {u : Value} (hc : w.cell? ⟨g, k, none⟩ = some u) (hu : ∀ x, u ≠ .float .f64 x) (v : Value) : FS (w.setCell ⟨g, k, none⟩ v) lo hi a n xs :=
  ⟨f.len, f.lt, by
    rcases f.at_ with h0 | ⟨g', off, e, h1, h2, h3, h4⟩
    · exact .inl h0
    · refine .inr ⟨g', off, e, h1, h2, by simpa using h3, fun j hj => ?_⟩
      by_cases c : g = g' ∧ k = off + j
      · obtain ⟨rfl, rfl⟩ := c
        have := h4 j hj
        rw [hc] at this
        injection this with this
        exact absurd this (hu _)
      · rw [cell_ne _ _ _ _ _ _ (by omega)]; exact h4 j hj⟩
theorem Cl.setS {w : World} {y : Value} {xs : List Nat} (f : Cl w y xs) {g k : Nat} {u : Value} (hc : w.cell? ⟨g, k, none⟩ = some u) (hu : ∀ x, u ≠ .float .f64 x) (v : Value) : Cl (w.setCell ⟨g, k, none⟩ v) y xs := by
  obtain ⟨b, n, c, zs, h1, h2, h3, h4⟩ := f
  exact ⟨b, n, c, zs, h1, h2, (h3.setS hc hu v).mono (Nat.le_refl _) (by simp), h4⟩
theorem not_float_slice (b : Option Addr) (n c : Nat) : ∀ x, (Value.slice b n c) ≠ .float .f64 x := fun _ h => by cases h

/-- The lists of a graph's values, in a block of the call's own, the first k of n laid. -/
structure LV (w : World) (g n k : Nat) (Vs : List (List Nat)) : Prop where
  lt : g < w.heap.size
  free : ∀ o, w.frozen? ⟨g, o, none⟩ = false
  at_ : ∀ j, j < n → ∃ b m c, w.cell? ⟨g, j, none⟩ = some (.slice b m c) ∧ (j < k → Cl w (.slice b m c) (Vs.getD j []))
theorem LV.keep {w w' : World} {g n k : Nat} {Vs : List (List Nat)} (f : LV w g n k Vs) (q : Kept 0 0 w w') : LV w' g n k Vs :=
  ⟨Nat.lt_of_lt_of_le f.lt q.size, fun o => by rw [q.frozen (p := ⟨g, o, none⟩) f.lt (by omega)]; exact f.free o, fun j hj => by
    obtain ⟨b, m, c, h1, h2⟩ := f.at_ j hj
    exact ⟨b, m, c, kcell q f.lt h1, fun h => (h2 h).keep q⟩⟩
theorem LV.made (w : World) (n : Nat) (Vs : List (List Nat)) : LV (w.alloc (.cells (madeCells #[.slice none 0 0] n) 32)) w.heap.size n 0 Vs where
  lt := by simp
  free := fun o => by simp
  at_ := fun j hj => by
    rw [World.cell?_alloc_new]
    refine ⟨none, 0, 0, ?_, fun h => absurd h (Nat.not_lt_zero _)⟩
    simp only [madeCells]
    rw [Array.getElem?_map, Array.getElem?_range, if_pos hj]
    have hm : j % 1 = 0 := Nat.mod_one j
    simp [hm]
theorem LV.step {w w' : World} {g n k : Nat} {xss : List (List Nat)} {vs : List Vl} (f : LV w g n k (valsTo xss vs k)) (hk : k < n) (q : Kept 0 0 w w') {b : Option Addr} {m c : Nat} (hu : Cl w' (.slice b m c) (one xss (vs.getD k Vl.zero) (valsTo xss vs k))) :
    LV (w'.setCell ⟨g, k, none⟩ (.slice b m c)) g n (k + 1) (valsTo xss vs (k + 1)) := by
  have f' := f.keep q
  obtain ⟨b0, m0, c0, hc, _⟩ := f'.at_ k hk
  refine ⟨by simpa using f'.lt, fun o => by simp [f'.free o], fun j hj => ?_⟩
  by_cases e : j = k
  · subst e
    exact ⟨b, m, c, cell_eq _ _ _ _ _ hc, fun _ => by rw [valsTo_at]; exact hu.setS hc (not_float_slice _ _ _) _⟩
  · obtain ⟨b1, m1, c1, h1, h2⟩ := f'.at_ j hj
    refine ⟨b1, m1, c1, by rw [cell_ne _ _ _ _ _ _ (.inr (Ne.symm e))]; exact h1, fun h => ?_⟩
    rw [valsTo_lt _ _ (by omega)]
    exact (h2 (by omega)).setS hc (not_float_slice _ _ _) _
theorem range_getD {n j : Nat} (F : Nat → List Nat) (h : j < n) : ((List.range n).map F).getD j [] = F j := by
  simp [List.getD_eq_getElem?_getD, h]
theorem LV.ss {w : World} {g n : Nat} {Vs : List (List Nat)} (f : LV w g n n Vs) : ∃ zss, SS w (some ⟨g, 0, none⟩) n zss ∧ ∀ j, j < n → same (zss.getD j []) (Vs.getD j []) := by
  have h : ∀ j, ∃ zs : List Nat, j < n → ∃ b c, w.cell? ⟨g, j, none⟩ = some (.slice b zs.length c) ∧ zs.length ≤ c ∧ FS w 0 w.heap.size b zs.length zs ∧ same zs (Vs.getD j []) := fun j => by
    by_cases hj : j < n
    · obtain ⟨b, m, c, h1, h2⟩ := f.at_ j hj
      obtain ⟨b', n', c', zs, e, a1, a2, a3⟩ := h2 hj
      cases e
      have e := a2.len
      subst e
      exact ⟨zs, fun _ => ⟨b, c, h1, a1, a2, a3⟩⟩
    · exact ⟨[], fun c => absurd c hj⟩
  obtain ⟨F, hF⟩ := Classical.axiomOfChoice h
  refine ⟨(List.range n).map F, ⟨by simp, .inr ⟨g, 0, rfl, f.lt, fun k hk => ?_⟩⟩, fun j hj => ?_⟩
  · rw [range_getD F hk, Nat.zero_add]
    obtain ⟨b, c, a1, a2, a3, _⟩ := hF k hk
    exact ⟨b, c, a1, a2, a3⟩
  · rw [range_getD F hj]
    obtain ⟨b, c, _, _, _, a4⟩ := hF j hj
    exact a4
end Go.Proofs.Ytfbcgahmmjpijab
