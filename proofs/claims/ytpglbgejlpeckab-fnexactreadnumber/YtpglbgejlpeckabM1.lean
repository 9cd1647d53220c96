import Derived.Test.YtpglbgejlpeckabSF
namespace Go.Proofs.Ytpglbgejlpeckab
open Go.RowKit Flt

theorem run_store_float {P : Program} {w : World} {a : Addr} {m : Mode} (k : FloatKind) (b : Nat) : (store a (.float k b) m).run P w = stored P w a (.float k b) m := run_store P w a _ m rfl
/-- Of the blocks that were there, only those from lo up to hi may have turned. -/
structure Kept (lo hi : Nat) (w w' : World) : Prop where
  os : w'.os = w.os
  tape : w'.tape = w.tape
  output : w'.output = w.output
  size : w.heap.size ≤ w'.heap.size
  block : ∀ k, k < w.heap.size → ¬ (lo ≤ k ∧ k < hi) → w'.heap[k]? = w.heap[k]?

theorem Kept.refl (lo hi : Nat) (w : World) : Kept lo hi w w := ⟨rfl, rfl, rfl, Nat.le_refl _, fun _ _ _ => rfl⟩
theorem Kept.trans {lo hi : Nat} {a b c : World} (h : Kept lo hi a b) (k : Kept lo hi b c) : Kept lo hi a c :=
  ⟨k.os.trans h.os, k.tape.trans h.tape, k.output.trans h.output, Nat.le_trans h.size k.size, fun i hi' hn => (k.block i (Nat.lt_of_lt_of_le hi' h.size) hn).trans (h.block i hi' hn)⟩
theorem Kept.mono {lo hi lo' hi' : Nat} {w w' : World} (h : Kept lo hi w w') (hs : ∀ k, k < w.heap.size → lo ≤ k ∧ k < hi → lo' ≤ k ∧ k < hi') : Kept lo' hi' w w' :=
  ⟨h.os, h.tape, h.output, h.size, fun k hk hn => h.block k hk fun c => hn (hs k hk c)⟩
/-- A stretch that began behind a's blocks leaves a's blocks. -/
theorem Kept.new {lo hi l h' : Nat} {a b c : World} (h : Kept lo hi a b) (k : Kept l h' b c) (hl : a.heap.size ≤ l) : Kept lo hi a c :=
  ⟨k.os.trans h.os, k.tape.trans h.tape, k.output.trans h.output, Nat.le_trans h.size k.size, fun i hi' hn => (k.block i (Nat.lt_of_lt_of_le hi' h.size) (fun c => by omega)).trans (h.block i hi' hn)⟩
theorem Kept.below {w w' : World} (h : Kept 0 0 w w') : Below w.heap.size w w' := ⟨h.os, h.tape, h.output, h.size, fun k hk => h.block k hk (by omega)⟩
theorem Kept.of_below {w w' : World} (h : Below w.heap.size w w') : Kept 0 0 w w' := ⟨h.os, h.tape, h.output, h.size, fun k hk _ => h.block k hk⟩
theorem kept_drewN (lo hi : Nat) (w : World) (m : Nat) : Kept lo hi w (w.drewN m) := ⟨rfl, rfl, rfl, Nat.le_refl _, fun _ _ _ => rfl⟩
theorem kept_alloc (lo hi : Nat) (w : World) (o : Obj) : Kept lo hi w (w.alloc o) := ⟨rfl, rfl, rfl, by simp, fun k hk _ => Below.heap_alloc w o k hk⟩
theorem kept_setCell {lo hi : Nat} (w : World) (a : Addr) (v : Value) (h : lo ≤ a.block ∧ a.block < hi ∨ w.heap.size ≤ a.block) : Kept lo hi w (w.setCell a v) :=
  ⟨rfl, rfl, rfl, by simp, fun k hk hn => Below.heap_setCell w a v k (fun e => by subst e; omega)⟩
theorem Kept.cell {lo hi : Nat} {w w' : World} (h : Kept lo hi w w') {p : Addr} (hp : p.block < w.heap.size) (hn : ¬ (lo ≤ p.block ∧ p.block < hi)) : w'.cell? p = w.cell? p := World.cell?_of_block (w := w) (h.block p.block hp hn)
theorem Kept.frozen {lo hi : Nat} {w w' : World} (h : Kept lo hi w w') {p : Addr} (hp : p.block < w.heap.size) (hn : ¬ (lo ≤ p.block ∧ p.block < hi)) : w'.frozen? p = w.frozen? p := World.frozen?_of_block (w := w) (h.block p.block hp hn)

/-- The world has drawn, no more. -/
def Drawn (w w' : World) : Prop := ∃ m, w' = w.drewN m
theorem Drawn.refl (w : World) : Drawn w w := ⟨0, rfl⟩
theorem Drawn.more {w w' : World} (h : Drawn w w') (n : Nat) : Drawn w (w'.drewN n) := by
  obtain ⟨m, rfl⟩ := h; exact ⟨m + n, World.drewN_drewN ..⟩
theorem Drawn.trans {a b c : World} (h : Drawn a b) (k : Drawn b c) : Drawn a c := by
  obtain ⟨m, rfl⟩ := k; exact h.more m
theorem Drawn.cell {w w' : World} (h : Drawn w w') (p : Addr) : w'.cell? p = w.cell? p := by obtain ⟨m, rfl⟩ := h; rfl
theorem Drawn.frozen {w w' : World} (h : Drawn w w') (p : Addr) : w'.frozen? p = w.frozen? p := by obtain ⟨m, rfl⟩ := h; rfl
theorem Drawn.heap {w w' : World} (h : Drawn w w') : w'.heap = w.heap := by obtain ⟨m, rfl⟩ := h; rfl
theorem Drawn.kept {w w' : World} (h : Drawn w w') (lo hi : Nat) : Kept lo hi w w' := by obtain ⟨m, rfl⟩ := h; exact kept_drewN lo hi w m
/-- A slice of floats in the blocks from lo up to hi, its elements xs. -/
structure FS (w : World) (lo hi : Nat) (a : Option Addr) (n : Nat) (xs : List Nat) : Prop where
  len : xs.length = n
  lt : ∀ x ∈ xs, x < 18446744073709551616
  at_ : n = 0 ∨ ∃ g off, a = some ⟨g, off, none⟩ ∧ lo ≤ g ∧ g < hi ∧ g < w.heap.size ∧ ∀ k, k < n → w.cell? ⟨g, off + k, none⟩ = some (.float .f64 (xs.getD k 0))

theorem FS.keep {w w' : World} {lo hi l h : Nat} {a : Option Addr} {n : Nat} {xs : List Nat} (f : FS w lo hi a n xs) (k : Kept l h w w') (hd : hi ≤ l ∨ h ≤ lo ∨ h ≤ l) : FS w' lo hi a n xs :=
  ⟨f.len, f.lt, by
    rcases f.at_ with h0 | ⟨g, off, e, h1, h2, h3, h4⟩
    · exact .inl h0
    · exact .inr ⟨g, off, e, h1, h2, Nat.lt_of_lt_of_le h3 k.size, fun j hj => by rw [k.cell (p := ⟨g, off + j, none⟩) h3 (by show ¬ (l ≤ g ∧ g < h); omega)]; exact h4 j hj⟩⟩
theorem FS.mono {w : World} {lo hi lo' hi' : Nat} {a : Option Addr} {n : Nat} {xs : List Nat} (f : FS w lo hi a n xs) (h1 : lo' ≤ lo) (h2 : hi ≤ hi') : FS w lo' hi' a n xs :=
  ⟨f.len, f.lt, by
    rcases f.at_ with h0 | ⟨g, off, e, a1, a2, a3, a4⟩
    · exact .inl h0
    · exact .inr ⟨g, off, e, by omega, by omega, a3, a4⟩⟩
theorem FS.prefix {w : World} {lo hi : Nat} {a : Option Addr} {n : Nat} {xs : List Nat} (f : FS w lo hi a n xs) (m : Nat) (hm : m ≤ n) : FS w lo hi a m (xs.take m) :=
  ⟨by rw [List.length_take, f.len]; omega, fun x hx => f.lt x (List.mem_of_mem_take hx), by
    rcases f.at_ with h0 | ⟨g, off, e, a1, a2, a3, a4⟩
    · exact .inl (by omega)
    · refine .inr ⟨g, off, e, a1, a2, a3, fun k hk => ?_⟩
      rw [a4 k (by omega)]
      congr 2
      simp only [List.getD_eq_getElem?_getD]
      rw [List.getElem?_take_of_lt hk]⟩
theorem getD_lt {xs : List Nat} (h : ∀ x ∈ xs, x < 18446744073709551616) (k : Nat) : xs.getD k 0 < 18446744073709551616 := by
  rw [List.getD_eq_getElem?_getD]
  by_cases hk : k < xs.length
  · rw [List.getElem?_eq_getElem hk]; exact h _ (List.getElem_mem _)
  · rw [List.getElem?_eq_none (by omega)]; exact (by omega : (0 : Nat) < 18446744073709551616)

/-- A whole block of floats that the call laid, not frozen. -/
def FR (w : World) (g : Nat) (xs : List Nat) : Prop := w.heap[g]? = some (.cells (xs.map (Value.float .f64)).toArray 22 (0, 0))
theorem FR.lt {w : World} {g : Nat} {xs : List Nat} (h : FR w g xs) : g < w.heap.size := by
  unfold FR at h
  rcases Nat.lt_or_ge g w.heap.size with c | c
  · exact c
  · rw [Array.getElem?_eq_none c] at h; cases h
theorem FR.cell {w : World} {g : Nat} {xs : List Nat} (h : FR w g xs) (k : Nat) (hk : k < xs.length) : w.cell? ⟨g, k, none⟩ = some (.float .f64 (xs.getD k 0)) := by
  rw [cell_of_row w g k _ _ _ h]
  simp [hk, List.getD_eq_getElem?_getD]
theorem FR.free {w : World} {g : Nat} {xs : List Nat} (h : FR w g xs) (k : Nat) : w.frozen? ⟨g, k, none⟩ = false := frozen_of_row w g k _ _ h
theorem FR.keep {w w' : World} {g l h : Nat} {xs : List Nat} (f : FR w g xs) (k : Kept l h w w') (hd : g < l ∨ h ≤ g ∨ h ≤ l) : FR w' g xs := by
  unfold FR
  rw [k.block g f.lt (by omega)]
  exact f
theorem FR.set {w : World} {g : Nat} {xs : List Nat} (h : FR w g xs) (k x : Nat) : FR (w.setCell ⟨g, k, none⟩ (.float .f64 x)) g (xs.set k x) := by
  unfold FR at h ⊢
  rw [heap_setCell_same w g k _ _ _ h]
  simp [List.map_set]
theorem FR.drewN {w : World} {g : Nat} {xs : List Nat} (h : FR w g xs) (m : Nat) : FR (w.drewN m) g xs := h
theorem FR.fs {w : World} {g lo hi : Nat} {xs : List Nat} (h : FR w g xs) (hl : ∀ x ∈ xs, x < 18446744073709551616) (h1 : lo ≤ g) (h2 : g < hi) : FS w lo hi (some ⟨g, 0, none⟩) xs.length xs :=
  ⟨rfl, hl, .inr ⟨g, 0, rfl, h1, h2, h.lt, fun k hk => by rw [Nat.zero_add]; exact h.cell k hk⟩⟩

theorem FR.made (w : World) (n : Nat) : FR (w.alloc (.cells (madeCells #[.float .f64 0] n) 22)) w.heap.size (List.replicate n 0) := by
  unfold FR
  rw [heap_alloc_new]
  have : (madeCells #[.float .f64 0] n) = (List.map (Value.float .f64) (List.replicate n 0)).toArray := by
    apply Array.toList_inj.1
    rw [toList_madeCells_one]
    simp
  rw [this]
theorem infoF : (Try.prog.info? 22).map (fun i => (i.zero, i.size, i.bytes)) = some (some (.float .f64 0), 1, 8) := by kernel_rfl

theorem set_take (xs ys : List Nat) (k : Nat) (hk : k < xs.length) (hl : ys.length = xs.length) :
    (xs.take k ++ ys.drop k).set k (xs.getD k 0) = xs.take (k + 1) ++ ys.drop (k + 1) := by
  apply List.ext_getElem?
  intro i
  simp only [List.getElem?_set, List.length_append, List.length_take, List.length_drop, List.getElem?_append, List.getElem?_take, List.getElem?_drop, List.getD_eq_getElem?_getD]
  rcases Nat.lt_trichotomy i k with h | h | h
  · rw [if_neg (by omega), if_pos (by omega), if_pos (by omega), if_pos (by omega), if_pos (by omega)]
  · subst h
    rw [if_pos rfl, if_pos (by omega), if_pos (by omega), if_pos (by omega), List.getElem?_eq_getElem hk]; rfl
  · rw [if_neg (by omega), if_neg (by omega), if_neg (by omega)]
    congr 1; omega
end Go.Proofs.Ytpglbgejlpeckab
