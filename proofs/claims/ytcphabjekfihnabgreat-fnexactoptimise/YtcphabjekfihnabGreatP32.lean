import Derived.Test.YtcphabjekfihnabGreatP31
import Derived.Laws.Cover3
import Derived.Deep.AppendLies
namespace Go.Proofs.YtcphabjekfihnabGreat
open Go.RowKit Flt
attribute [local go_sem] alloc_drewN setCell_drewN run_store_float

theorem FO.of_own {W : World} {base n : Nat} {v : Value} {xs : List Nat} (h : W.ownsRow base 57 1 v n (xs.map (Value.float .f64))) (hn : 0 < n) (hl : xs.length = n) (hb : ∀ x ∈ xs, x < 18446744073709551616) :
    ∃ g cap, v = .slice (some ⟨g, 0, none⟩) n cap ∧ base ≤ g ∧ n ≤ cap ∧ FO W g n xs := by
  rcases h.2 with ⟨_, c⟩ | ⟨g, cap, cur, rfl, b1, b2, b3, _, b5, b6⟩
  · omega
  · have hg : g < W.heap.size := by
      rcases Nat.lt_or_ge g W.heap.size with c | c
      · exact c
      · rw [Array.getElem?_eq_none c] at b2; cases b2
    refine ⟨g, cap, rfl, b1, b3, hl, hb, hg, fun j hj => ?_, fun o => frozen_of_row W g o _ _ b2⟩
    rw [cell_of_row W g _ cur _ _ b2, ← Array.getElem?_toList]
    have : (cur.toList.take (n * 1))[j]? = (xs.map (Value.float .f64))[j]? := by rw [b6]
    rw [List.getElem?_take_of_lt (by omega)] at this
    rw [this, List.getElem?_map, List.getElem?_eq_getElem (by omega : j < xs.length)]
    simp [List.getD_eq_getElem?_getD, List.getElem?_eq_getElem (by omega : j < xs.length)]
theorem news_of {w : World} {g off n : Nat} {xs : List Nat} (hx : xs.length = n) (hc : ∀ k, k < n → w.cell? ⟨g, off + k, none⟩ = some (.float .f64 (xs.getD k 0))) :
    ∀ j u, (xs.map (Value.float .f64))[j]? = some u → w.cell? ((⟨g, off, none⟩ : Addr).add j) = some u := fun j u hu => by
  have hj : j < n := by
    rcases Nat.lt_or_ge j n with c | c
    · exact c
    · rw [List.getElem?_eq_none (by simp; omega)] at hu; cases hu
  have h1 := hc j hj
  have e : (⟨g, off, none⟩ : Addr).add j = ⟨g, off + j, none⟩ := by
    unfold Addr.add
    split
    · rename_i h0; rw [h0]; rfl
    · rfl
  rw [e, h1]
  rw [List.getElem?_map, List.getElem?_eq_getElem (by omega : j < xs.length)] at hu
  simp only [Option.map_some] at hu
  rw [← hu, List.getD_eq_getElem?_getD, List.getElem?_eq_getElem (by omega : j < xs.length)]; rfl
theorem grown_kept {w w' : World} {row : Option Nat} {base : Nat} (h : w.grownBy w' row) (hr : ∀ k, row = some k → base ≤ k) {w0 : World} (k : Kept 0 0 w0 w) (hb : w0.heap.size ≤ base) : Kept 0 0 w0 w' :=
  ⟨h.os.trans k.os, h.tape.trans k.tape, h.output.trans k.output, Nat.le_trans k.size h.size, fun i hi _ => by
    rw [h.block i (Nat.lt_of_lt_of_le hi k.size) (fun c => by have := hr i c.symm; omega)]
    exact k.block i hi (by omega)⟩

/-- One cell of a list of lists: a slice of floats that is the same as xs. -/
def Cl (w : World) (v : Value) (xs : List Nat) : Prop := ∃ b n c zs, v = .slice b n c ∧ n ≤ c ∧ FS w 0 w.heap.size b n zs ∧ same zs xs
theorem Cl.keep {w w' : World} {v : Value} {xs : List Nat} (h : Cl w v xs) (k : Kept 0 0 w w') : Cl w' v xs := by
  obtain ⟨b, n, c, zs, h1, h2, h3, h4⟩ := h
  exact ⟨b, n, c, zs, h1, h2, h3.keep0 k, h4⟩
theorem Cl.nil (w : World) : Cl w (.slice none 0 0) [] := ⟨none, 0, 0, [], rfl, Nat.le_refl _, ⟨rfl, by simp, .inl rfl⟩, rfl⟩

/-- As a cell, and in a block from lo on. -/
def Cn (w : World) (lo : Nat) (v : Value) (xs : List Nat) : Prop := ∃ b n c zs, v = .slice b n c ∧ n ≤ c ∧ FS w lo w.heap.size b n zs ∧ same zs xs
theorem Cn.cl {w : World} {lo : Nat} {v : Value} {xs : List Nat} (h : Cn w lo v xs) : Cl w v xs := by
  obtain ⟨b, n, c, zs, h1, h2, h3, h4⟩ := h
  exact ⟨b, n, c, zs, h1, h2, h3.mono (Nat.zero_le _) (Nat.le_refl _), h4⟩
/-- impl.Kernel and spec.Kernel on cells. -/
theorem implKernelN (w : World) (v : Vl) (hK : v.k < 18446744073709551616) (x y z : Value) (xa xb xc : List Nat) (ha : Cl w x xa) (hb : Cl w y xb) (hc : Cl w z xc) (la : ∀ q ∈ xa, q < 18446744073709551616) :
    Calls Tryz.prog 88 #[v.agg, x, y, z] w fun e w' => ∃ u, e = .returned u ∧ Cn w' w.heap.size u (kern v.op v.len v.c v.k xa xb xc) ∧ Kept 0 0 w w' := by
  obtain ⟨a, na, ca, za, rfl, a1, a2, a3⟩ := ha
  obtain ⟨b, nb, cb, zb, rfl, b1, b2, b3⟩ := hb
  obtain ⟨c, nc, cc, zc, rfl, c1, c2, c3⟩ := hc
  refine (implKernel' w v.op v.len v.a v.b v.c v.k hK a2 b2 c2 a1).mono ?_
  rintro e w' ⟨a', n, cap, zs, rfl, ho, hs, hk, hn⟩
  exact ⟨_, rfl, ⟨a', n, cap, zs, rfl, hn, ho.fs, same_trans hs (kern_congr a3 b3 c3 a2.lt la)⟩, hk⟩
theorem implKernelC (w : World) (v : Vl) (hK : v.k < 18446744073709551616) (x y z : Value) (xa xb xc : List Nat) (ha : Cl w x xa) (hb : Cl w y xb) (hc : Cl w z xc) (la : ∀ q ∈ xa, q < 18446744073709551616) :
    Calls Tryz.prog 88 #[v.agg, x, y, z] w fun e w' => ∃ u, e = .returned u ∧ Cl w' u (kern v.op v.len v.c v.k xa xb xc) ∧ Kept 0 0 w w' :=
  (implKernelN w v hK x y z xa xb xc ha hb hc la).mono fun _ _ ⟨u, h1, h2, h3⟩ => ⟨u, h1, h2.cl, h3⟩
theorem specKernelC (w : World) (v : Vl) (hK : v.k < 18446744073709551616) (x y z : Value) (xa xb xc : List Nat) (ha : Cl w x xa) (hb : Cl w y xb) (hc : Cl w z xc) (la : ∀ q ∈ xa, q < 18446744073709551616) :
    Calls Tryz.prog 57 #[v.agg, x, y, z] w fun e w' => ∃ u, e = .returned u ∧ Cn w' w.heap.size u (kern v.op v.len v.c v.k xa xb xc) ∧ Kept 0 0 w w' := by
  obtain ⟨a, na, ca, za, rfl, a1, a2, a3⟩ := ha
  obtain ⟨b, nb, cb, zb, rfl, b1, b2, b3⟩ := hb
  obtain ⟨c, nc, cc, zc, rfl, c1, c2, c3⟩ := hc
  refine (specKernel' w v.op v.len v.a v.b v.c v.k hK a2 b2 c2 a1).mono ?_
  rintro e w' ⟨a', n, cap, zs, rfl, ho, hs, hk, hn⟩
  exact ⟨_, rfl, ⟨a', n, cap, zs, rfl, hn, ho, same_trans hs (kern_congr a3 b3 c3 a2.lt la)⟩, hk⟩

/-! Elements are words of 64 bits. -/
theorem cop_lt (op : BinOp) (x y : Nat) : cop op x y < 18446744073709551616 := by
  unfold cop
  cases h : floatBits op .f64 x y with
  | none => decide
  | some r =>
    have := floatBits_wf h
    simpa [Lit.wf] using this
theorem cexp_lt {x : Nat} (hx : x < 18446744073709551616) : cexp x < 18446744073709551616 := by
  unfold cexp
  split
  · exact hx
  · split
    · decide
    · split
      · decide
      · exact cop_lt _ _ _
theorem fold_lt : ∀ (xs : List Nat) (x : Nat), x < 18446744073709551616 → xs.foldl (cop .add) x < 18446744073709551616
  | [], _, h => h
  | y :: ys, x, _ => fold_lt ys (cop .add x y) (cop_lt _ _ _)
theorem csum_lt {xs : List Nat} (h : ∀ x ∈ xs, x < 18446744073709551616) : csum xs < 18446744073709551616 := by
  cases xs with
  | nil => decide
  | cons x r => exact fold_lt r x (h x (by simp))
theorem ite_b {p : Prop} [Decidable p] {x y : Nat} (hx : x < 18446744073709551616) (hy : y < 18446744073709551616) : (if p then x else y) < 18446744073709551616 := by
  split
  · exact hx
  · exact hy
theorem elem_lt {op C : Int} {K : Nat} {xa xb xc : List Nat} (hK : K < 18446744073709551616) (ha : ∀ x ∈ xa, x < 18446744073709551616) (hb : ∀ x ∈ xb, x < 18446744073709551616) (hc : ∀ x ∈ xc, x < 18446744073709551616) (k : Nat) : elem op C K xa xb xc k < 18446744073709551616 := by
  have a0 := getD_lt ha
  have b0 := getD_lt hb
  have c0 := getD_lt hc
  unfold elem greaterN chosenN
  exact ite_b hK (ite_b (cop_lt _ _ _) (ite_b (cop_lt _ _ _) (ite_b (cop_lt _ _ _) (ite_b (cop_lt _ _ _) (ite_b (negf_lt (a0 _)) (ite_b (ite_b (a0 _) (b0 _)) (ite_b (ite_b (b0 _) (c0 _)) (ite_b (csum_lt ha) (ite_b (a0 _) (ite_b (a0 _) (ite_b (ite_b (a0 _) (by decide)) (cexp_lt (a0 _)))))))))))))
theorem kern_lt {op len C : Int} {K : Nat} {xa xb xc : List Nat} (hK : K < 18446744073709551616) (ha : ∀ x ∈ xa, x < 18446744073709551616) (hb : ∀ x ∈ xb, x < 18446744073709551616) (hc : ∀ x ∈ xc, x < 18446744073709551616) : ∀ x ∈ kern op len C K xa xb xc, x < 18446744073709551616 := by
  unfold kern
  split
  · intro x hx
    obtain ⟨k, _, rfl⟩ := List.mem_map.1 hx
    exact elem_lt hK ha hb hc k
  · intro x hx; cases hx
/-- A list of lists of words. -/
def Words (xss : List (List Nat)) : Prop := ∀ k, ∀ x ∈ xss.getD k [], x < 18446744073709551616
theorem ite_lt {p : Prop} [Decidable p] {xs : List Nat} (h : ∀ x ∈ xs, x < 18446744073709551616) : ∀ x ∈ (if p then xs else []), x < 18446744073709551616 := by
  split
  · exact h
  · intro x hx; cases hx
theorem one_lt {xss : List (List Nat)} {v : Vl} {Vs : List (List Nat)} (hx : Words xss) (hv : v.k < 18446744073709551616) (hV : Words Vs) : ∀ x ∈ one xss v Vs, x < 18446744073709551616 := by
  unfold one
  split
  · exact hx _
  · exact kern_lt hv (ite_lt (hV _)) (ite_lt (hV _)) (ite_lt (hV _))
theorem vals_lt {xss : List (List Nat)} {vs : List Vl} (hx : Words xss) (hv : ∀ k, (vs.getD k Vl.zero).k < 18446744073709551616) : ∀ i, Words (valsTo xss vs i)
  | 0 => fun k x h => by simp [valsTo] at h
  | i + 1 => fun k x h => by
    have ih := vals_lt hx hv i
    rcases Nat.lt_trichotomy k i with c | c | c
    · rw [valsTo_lt xss vs c] at h; exact ih k x h
    · subst c; rw [valsTo_at] at h; exact one_lt hx (hv _) ih x h
    · rw [List.getD_eq_getElem?_getD, List.getElem?_eq_none (by rw [valsTo_len]; omega)] at h; cases h
end Go.Proofs.YtcphabjekfihnabGreat
