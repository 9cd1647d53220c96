import Derived.Test.YtcphabjekfihnaaP15
import Derived.Test.YtcphabjekfihnaaR01
import Derived.Test.YtcphabjekfihnaaP04
import Derived.Test.YtcphabjekfihnaaP20
namespace Go.Proofs.Ytcphabjekfihnaa
open Go.RowKit Flt
attribute [local go_sem] alloc_drewN setCell_drewN run_store_float

/-- What Kernel answers, with one NaN for all. -/
def kern (op len C : Int) (K : Nat) (xa xb xc : List Nat) : List Nat :=
  if fitB op len C xa.length xb.length xc.length then (List.range len.toNat).map (elem op C K xa xb xc) else []
theorem kern_len_le (op len C : Int) (K : Nat) (xa xb xc : List Nat) : (kern op len C K xa xb xc).length ≤ 1000 := by
  unfold kern
  split
  · rename_i h
    simp only [fitB, Bool.and_eq_true, lenB, decide_eq_true_eq] at h
    simp; omega
  · simp
theorem kern_same {op len C : Int} {K : Nat} {xa xb xc zs : List Nat} (h : fitB op len C xa.length xb.length xc.length = true) (hl : zs.length = len.toNat)
    (hq : ∀ k, k < len.toNat → fb (zs.getD k 0) = fb (elem op C K xa xb xc k)) : same zs (kern op len C K xa xb xc) := by
  unfold kern
  rw [if_pos h]
  refine same_of (by simp [hl]) fun k hk => ?_
  rw [hq k (by omega)]
  congr 1
  simp [List.getD_eq_getElem?_getD, (by omega : k < len.toNat)]

/-- A list of floats that owns a whole block from lo on, or is nil. -/
def OR (w : World) (lo : Nat) (a : Option Addr) (n cap : Nat) (zs : List Nat) : Prop :=
  (a = none ∧ n = 0 ∧ cap = 0 ∧ zs = []) ∨ ∃ g, a = some ⟨g, 0, none⟩ ∧ lo ≤ g ∧ FR w g zs ∧ zs.length = n ∧ (∀ z ∈ zs, z < 18446744073709551616)
theorem OR.fs {w : World} {lo : Nat} {a : Option Addr} {n cap : Nat} {zs : List Nat} (h : OR w lo a n cap zs) : FS w lo w.heap.size a n zs := by
  rcases h with ⟨rfl, rfl, rfl, rfl⟩ | ⟨g, rfl, h1, h2, rfl, h4⟩
  · exact ⟨rfl, by simp, .inl rfl⟩
  · exact h2.fs h4 h1 h2.lt
theorem OR.keep {w w' : World} {lo l h : Nat} {a : Option Addr} {n cap : Nat} {zs : List Nat} (f : OR w lo a n cap zs) (k : Kept l h w w') (hd : h ≤ lo ∨ h ≤ l) : OR w' lo a n cap zs := by
  rcases f with f | ⟨g, e, h1, h2, h3, h4⟩
  · exact .inl f
  · exact .inr ⟨g, e, h1, h2.keep k (by omega), h3, h4⟩

theorem implKernel' (w : World) (op len A B C : Int) (K : Nat) (hK : K < 18446744073709551616) {l0 h0' l1 h1' l2 h2' : Nat} {a b c : Option Addr} {la lb lc ca cb cc : Nat} {xa xb xc : List Nat}
    (fa : FS w l0 h0' a la xa) (fb' : FS w l1 h1' b lb xb) (fc : FS w l2 h2' c lc xc) (hca : la ≤ ca) :
    Calls Try.prog 31 #[vagg op len A B C K, .slice a la ca, .slice b lb cb, .slice c lc cc] w fun e w' =>
      ∃ (a' : Option Addr) (n cap : Nat) (zs : List Nat), e = .returned (.slice a' n cap) ∧ OR w' w.heap.size a' n cap zs ∧ same zs (kern op len C K xa xb xc) ∧ Kept 0 0 w w' ∧ n ≤ cap := by
  have e1 := fa.len
  have e2 := fb'.len
  have e3 := fc.len
  cases hf : fitB op len C la lb lc
  · have hn : kern op len C K xa xb xc = [] := by unfold kern; rw [e1, e2, e3, hf]; rfl
    have key : ∀ (e : Ending) (w' : World), (e = .returned (.slice none 0 0) ∧ Kept 0 0 w w') → ∃ (a' : Option Addr) (n cap : Nat) (zs : List Nat), e = .returned (.slice a' n cap) ∧ OR w' w.heap.size a' n cap zs ∧ same zs (kern op len C K xa xb xc) ∧ Kept 0 0 w w' ∧ n ≤ cap :=
      fun e w' h => ⟨none, 0, 0, [], h.1, .inl ⟨rfl, rfl, rfl, rfl⟩, by rw [hn]; rfl, h.2, Nat.le_refl _⟩
    cases hl : lenB len
    · exact (implKernel_short w op len A B C K a b c la lb lc ca cb cc hl).mono fun e w' h => key e w' h
    · refine (implKernel_bad w op len A B C K a b c la lb lc ca cb cc hl ?_).mono fun e w' h => key e w' h
      simpa [fitB, hl] using hf
  · have hl : lenB len = true := by have := hf; simp only [fitB, Bool.and_eq_true] at this; exact this.1
    have hs : shapeB op len C (([(la : Int), (lb : Int), (lc : Int)]).take (cnt op)) = true := by have := hf; simp only [fitB, Bool.and_eq_true] at this; exact this.2
    have hb : 1 ≤ len ∧ len ≤ 1000 := by simpa [lenB] using hl
    obtain ⟨n, rfl⟩ := Int.eq_ofNat_of_zero_le (by omega : 0 ≤ len)
    refine (implKernel_ok w op A B C n K (by omega) (by omega) hK fa fb' fc hca hs).mono fun e w' h => ?_
    obtain ⟨G, zs, h1, h2, h3, h4, h5, h6, h7⟩ := h
    exact ⟨_, n, n, zs, h1, .inr ⟨G, rfl, h2, h3, h5, h4⟩, kern_same (by rw [e1, e2, e3]; exact hf) (by simpa using h5) (by simpa using h6), h7, Nat.le_refl _⟩

theorem implKernel (w : World) (op len A B C : Int) (K : Nat) (hK : K < 18446744073709551616) {l0 h0' l1 h1' l2 h2' : Nat} {a b c : Option Addr} {la lb lc ca cb cc : Nat} {xa xb xc : List Nat}
    (fa : FS w l0 h0' a la xa) (fb' : FS w l1 h1' b lb xb) (fc : FS w l2 h2' c lc xc) (hca : la ≤ ca) :
    Calls Try.prog 31 #[vagg op len A B C K, .slice a la ca, .slice b lb cb, .slice c lc cc] w fun e w' =>
      ∃ (a' : Option Addr) (n cap : Nat) (zs : List Nat), e = .returned (.slice a' n cap) ∧ OR w' w.heap.size a' n cap zs ∧ same zs (kern op len C K xa xb xc) ∧ Kept 0 0 w w' :=
  (implKernel' w op len A B C K hK fa fb' fc hca).mono fun _ _ ⟨a', n, cap, zs, h1, h2, h3, h4, _⟩ => ⟨a', n, cap, zs, h1, h2, h3, h4⟩

theorem specKernel' (w : World) (op len A B C : Int) (K : Nat) (hK : K < 18446744073709551616) {l0 h0' l1 h1' l2 h2' : Nat} {a b c : Option Addr} {la lb lc ca cb cc : Nat} {xa xb xc : List Nat}
    (fa : FS w l0 h0' a la xa) (fb' : FS w l1 h1' b lb xb) (fc : FS w l2 h2' c lc xc) (hca : la ≤ ca) :
    Calls Try.prog 28 #[vagg op len A B C K, .slice a la ca, .slice b lb cb, .slice c lc cc] w fun e w' =>
      ∃ (a' : Option Addr) (n cap : Nat) (zs : List Nat), e = .returned (.slice a' n cap) ∧ FS w' w.heap.size w'.heap.size a' n zs ∧ same zs (kern op len C K xa xb xc) ∧ Kept 0 0 w w' ∧ n ≤ cap := by
  have e1 := fa.len
  have e2 := fb'.len
  have e3 := fc.len
  cases hf : fitB op len C la lb lc
  · have hn : kern op len C K xa xb xc = [] := by unfold kern; rw [e1, e2, e3, hf]; rfl
    exact (specKernel_bad w op len A B C K a b c la lb lc ca cb cc hf).mono fun e w' h => ⟨none, 0, 0, [], h.1, ⟨rfl, by simp, .inl rfl⟩, by rw [hn]; rfl, h.2, Nat.le_refl _⟩
  · have hr : 1 ≤ op ∧ op ≤ 13 ∧ 1 ≤ len ∧ len ≤ 1000 := Decidable.byContradiction fun c => by rw [fitB_bad op len C la lb lc c] at hf; cases hf
    obtain ⟨n, rfl⟩ := Int.eq_ofNat_of_zero_le (by omega : 0 ≤ len)
    have h1 : 1 ≤ n := by omega
    have hn : n ≤ 1000 := by omega
    have key : ∀ (e : Ending) (w' : World), KS n (elem op C K xa xb xc) w e w' → ∃ (a' : Option Addr) (m cap : Nat) (zs : List Nat), e = .returned (.slice a' m cap) ∧ FS w' w.heap.size w'.heap.size a' m zs ∧ same zs (kern op (n : Int) C K xa xb xc) ∧ Kept 0 0 w w' ∧ m ≤ cap := by
      rintro e w' ⟨a', cap, zs, k1, k2, k3, k4, k5⟩
      exact ⟨a', n, cap, zs, k1, k2, kern_same (by rw [e1, e2, e3]; exact hf) (by simpa using k2.len) (by simpa using k3), k4, k5⟩
    have : op = 1 ∨ op = 2 ∨ op = 3 ∨ op = 4 ∨ op = 5 ∨ op = 6 ∨ op = 7 ∨ op = 8 ∨ op = 9 ∨ op = 10 ∨ op = 11 ∨ op = 12 ∨ op = 13 := by omega
    rcases this with rfl | rfl | rfl | rfl | rfl | rfl | rfl | rfl | rfl | rfl | rfl | rfl | rfl
    · exact (specKernel_1 w A B C n K h1 hn hK fa fb' fc hca hf).mono key
    · exact (specKernel_2 w A B C n K h1 hn hK fa fb' fc hca hf).mono key
    · exact (specKernel_3 w A B C n K h1 hn hK fa fb' fc hca hf).mono key
    · exact (specKernel_4 w A B C n K h1 hn hK fa fb' fc hca hf).mono key
    · exact (specKernel_5 w A B C n K h1 hn hK fa fb' fc hca hf).mono key
    · exact (specKernel_6 w A B C n K h1 hn hK fa fb' fc hca hf).mono key
    · exact (specKernel_7 w A B C n K h1 hn hK fa fb' fc hca hf).mono key
    · exact (specKernel_8 w A B C n K h1 hn hK fa fb' fc hca hf).mono key
    · exact (specKernel_9 w A B C n K h1 hn hK fa fb' fc hca hf).mono key
    · exact (specKernel_10 w A B C n K h1 hn hK fa fb' fc hca hf).mono key
    · exact (specKernel_11 w A B C n K h1 hn hK fa fb' fc hca hf).mono key
    · exact (specKernel_12 w A B C n K h1 hn hK fa fb' fc hca hf).mono key
    · exact (specKernel_13 w A B C n K h1 hn hK fa fb' fc hca hf).mono key
theorem specKernel (w : World) (op len A B C : Int) (K : Nat) (hK : K < 18446744073709551616) {l0 h0' l1 h1' l2 h2' : Nat} {a b c : Option Addr} {la lb lc ca cb cc : Nat} {xa xb xc : List Nat}
    (fa : FS w l0 h0' a la xa) (fb' : FS w l1 h1' b lb xb) (fc : FS w l2 h2' c lc xc) (hca : la ≤ ca) :
    Calls Try.prog 28 #[vagg op len A B C K, .slice a la ca, .slice b lb cb, .slice c lc cc] w fun e w' =>
      ∃ (a' : Option Addr) (n cap : Nat) (zs : List Nat), e = .returned (.slice a' n cap) ∧ FS w' w.heap.size w'.heap.size a' n zs ∧ same zs (kern op len C K xa xb xc) ∧ Kept 0 0 w w' :=
  (specKernel' w op len A B C K hK fa fb' fc hca).mono fun _ _ ⟨a', n, cap, zs, h1, h2, h3, h4, _⟩ => ⟨a', n, cap, zs, h1, h2, h3, h4⟩

/-- markFloat64S of what is owned. -/
theorem markO (w : World) (lo : Nat) (a : Option Addr) (n cap : Nat) (zs : List Nat) (k : Int) (f : OR w lo a n cap zs) (h0 : 0 ≤ k) (h1 : k ≤ 1099511627776) (hn : n ≤ 1099511627776) :
    Calls Try.prog 33 #[.slice a n cap, .int .i64 k] w fun e w' => e = .returned (.int .i64 (k + n)) ∧ OR w' lo a n cap (marks k n) ∧ Kept lo w.heap.size w w' := by
  rcases f with ⟨rfl, rfl, rfl, rfl⟩ | ⟨g, rfl, g1, g2, g3, g4⟩
  · exact (markF_zero w none 0 k).mono fun e w' h => ⟨by rw [h.1]; simp, .inl ⟨rfl, rfl, rfl, rfl⟩, by rw [h.2]; exact Kept.refl _ _ _⟩
  · exact (markF_pos w g n cap k zs g2 g3 h0 h1 hn).mono fun e w' h => ⟨h.1, .inr ⟨g, rfl, g1, h.2.1, marks_len k n, marks_lt k n⟩, h.2.2.mono fun b hb c => ⟨by omega, hb⟩⟩
theorem heldO (w : World) (lo : Nat) (a : Option Addr) (n cap : Nat) (k : Int) (f : OR w lo a n cap (marks k n)) (h0 : 0 ≤ k) (h1 : k ≤ 1099511627776) (hn : n ≤ 1099511627776) :
    Calls Try.prog 34 #[.slice a n cap, .int .i64 k] w fun e w' => e = .returned (.int .i64 (k + n)) ∧ w = w' := by
  rcases f with ⟨rfl, rfl, rfl, _⟩ | ⟨g, rfl, g1, g2, g3, g4⟩
  · exact (heldF_zero w none 0 k).mono fun e w' h => ⟨by rw [h.1]; simp, h.2.symm⟩
  · exact (heldF_pos w g n cap k g2 h0 h1 hn).mono fun e w' h => ⟨h.1, h.2.symm⟩
end Go.Proofs.Ytcphabjekfihnaa

namespace Go.Proofs.Ytcphabjekfihnaa
open Go.RowKit Flt
attribute [local go_sem] alloc_drewN setCell_drewN run_store_float

/-- The first n cells of a block that the call laid: floats. -/
structure FO (w : World) (g n : Nat) (xs : List Nat) : Prop where
  len : xs.length = n
  bnd : ∀ x ∈ xs, x < 18446744073709551616
  lt : g < w.heap.size
  at_ : ∀ k, k < n → w.cell? ⟨g, k, none⟩ = some (.float .f64 (xs.getD k 0))
  free : ∀ o, w.frozen? ⟨g, o, none⟩ = false
theorem FR.fo {w : World} {g : Nat} {xs : List Nat} (h : FR w g xs) (hl : ∀ x ∈ xs, x < 18446744073709551616) : FO w g xs.length xs := ⟨rfl, hl, h.lt, fun k hk => h.cell k hk, h.free⟩
theorem FO.keep {w w' : World} {g n l h : Nat} {xs : List Nat} (f : FO w g n xs) (k : Kept l h w w') (hd : g < l ∨ h ≤ g ∨ h ≤ l) : FO w' g n xs :=
  ⟨f.len, f.bnd, Nat.lt_of_lt_of_le f.lt k.size, fun j hj => by rw [k.cell (p := ⟨g, j, none⟩) f.lt (by show ¬ (l ≤ g ∧ g < h); omega)]; exact f.at_ j hj, fun o => by rw [k.frozen (p := ⟨g, o, none⟩) f.lt (by show ¬ (l ≤ g ∧ g < h); omega)]; exact f.free o⟩
theorem FO.fs {w : World} {g n : Nat} {xs : List Nat} (f : FO w g n xs) : FS w 0 w.heap.size (some ⟨g, 0, none⟩) n xs :=
  ⟨f.len, f.bnd, .inr ⟨g, 0, rfl, Nat.zero_le _, f.lt, f.lt, fun k hk => by rw [Nat.zero_add]; exact f.at_ k hk⟩⟩
theorem FO.put {w : World} {g n : Nat} {xs : List Nat} (f : FO w g n xs) (k : Nat) (hk : k < n) (x : Nat) (hx : x < 18446744073709551616) : FO (w.setCell ⟨g, k, none⟩ (.float .f64 x)) g n (xs.set k x) where
  len := by rw [List.length_set]; exact f.len
  bnd := fun y hy => by
    rcases List.mem_or_eq_of_mem_set hy with h | h
    · exact f.bnd y h
    · rw [h]; exact hx
  lt := by simpa using f.lt
  at_ := fun j hj => by
    rw [List.getD_eq_getElem?_getD, List.getElem?_set]
    by_cases e : k = j
    · subst e
      rw [if_pos rfl, if_pos (by rw [f.len]; exact hk)]
      exact cell_eq _ _ _ _ _ (f.at_ k hk)
    · rw [if_neg e, cell_ne _ _ _ _ _ _ (.inr e), ← List.getD_eq_getElem?_getD]
      exact f.at_ j hj
  free := fun o => by simp [f.free o]

/-- A slice of float slices that is read. -/
structure SS (w : World) (a : Option Addr) (n : Nat) (xss : List (List Nat)) : Prop where
  len : xss.length = n
  at_ : n = 0 ∨ ∃ g off, a = some ⟨g, off, none⟩ ∧ g < w.heap.size ∧ ∀ k, k < n → ∃ b c, w.cell? ⟨g, off + k, none⟩ = some (.slice b (xss.getD k []).length c) ∧ (xss.getD k []).length ≤ c ∧ FS w 0 w.heap.size b (xss.getD k []).length (xss.getD k [])
theorem FS.keep0 {w w' : World} {a : Option Addr} {n : Nat} {xs : List Nat} (f : FS w 0 w.heap.size a n xs) (k : Kept 0 0 w w') : FS w' 0 w'.heap.size a n xs :=
  (f.keep k (.inr (.inr (Nat.le_refl _)))).mono (Nat.le_refl _) k.size
theorem SS.keep {w w' : World} {a : Option Addr} {n : Nat} {xss : List (List Nat)} (f : SS w a n xss) (k : Kept 0 0 w w') : SS w' a n xss :=
  ⟨f.len, by
    rcases f.at_ with h0 | ⟨g, off, e, h1, h2⟩
    · exact .inl h0
    · refine .inr ⟨g, off, e, Nat.lt_of_lt_of_le h1 k.size, fun j hj => ?_⟩
      obtain ⟨b, c, g1, g2, g3⟩ := h2 j hj
      exact ⟨b, c, kcell k h1 g1, g2, g3.keep0 k⟩⟩

/-- A slice of float slices in blocks of the call's own, the first k of n laid. -/
structure SP (w : World) (g n k : Nat) (gf cf : Nat → Nat) (xss : List (List Nat)) : Prop where
  lt : g < w.heap.size
  free : ∀ o, w.frozen? ⟨g, o, none⟩ = false
  cell : ∀ j, j < k → w.cell? ⟨g, j, none⟩ = some (.slice (some ⟨gf j, 0, none⟩) (xss.getD j []).length (cf j))
  rest : ∀ j, j < n → ∃ u, w.cell? ⟨g, j, none⟩ = some u
  cap : ∀ j, j < k → (xss.getD j []).length ≤ cf j
  own : ∀ j, j < k → FO w (gf j) (xss.getD j []).length (xss.getD j [])
  up : ∀ j, j < k → g < gf j
  inc : ∀ i j, i < j → j < k → gf i < gf j
theorem SP.keep {w w' : World} {g n k : Nat} {gf cf : Nat → Nat} {xss : List (List Nat)} (f : SP w g n k gf cf xss) (q : Kept 0 0 w w') : SP w' g n k gf cf xss :=
  ⟨Nat.lt_of_lt_of_le f.lt q.size, fun o => by rw [q.frozen (p := ⟨g, o, none⟩) f.lt (by omega)]; exact f.free o, fun j hj => kcell q f.lt (f.cell j hj), fun j hj => (f.rest j hj).imp fun _ h => kcell q f.lt h, f.cap, fun j hj => (f.own j hj).keep q (.inr (.inr (Nat.le_refl _))), f.up, f.inc⟩
def upd (f : Nat → Nat) (k x : Nat) : Nat → Nat := fun j => if j = k then x else f j
theorem upd_same (f : Nat → Nat) (k x : Nat) : upd f k x k = x := if_pos rfl
theorem upd_other {f : Nat → Nat} {k x j : Nat} (h : j ≠ k) : upd f k x j = f j := if_neg h
theorem SP.step {w w' : World} {g n k : Nat} {gf cf : Nat → Nat} {xss : List (List Nat)} (f : SP w g n k gf cf xss) (hk : k < n) (q : Kept 0 0 w w') {G c : Nat}
    (ho : FO w' G (xss.getD k []).length (xss.getD k [])) (hG : w.heap.size ≤ G) (hc : (xss.getD k []).length ≤ c) :
    SP (w'.setCell ⟨g, k, none⟩ (.slice (some ⟨G, 0, none⟩) (xss.getD k []).length c)) g n (k + 1) (upd gf k G) (upd cf k c) xss := by
  have f' := f.keep q
  have hgl := f.lt
  have pk : ∀ v, Kept g (g + 1) w' (w'.setCell ⟨g, k, none⟩ v) := fun v => kept_setCell w' ⟨g, k, none⟩ v (.inl ⟨Nat.le_refl _, Nat.lt_succ_self _⟩)
  obtain ⟨u, hu⟩ := f'.rest k hk
  refine ⟨by simpa using f'.lt, fun o => by simp [f'.free o], fun j hj => ?_, fun j hj => ?_, fun j hj => ?_, fun j hj => ?_, fun j hj => ?_, fun i j hij hj => ?_⟩
  · by_cases e : j = k
    · subst e
      rw [upd_same, upd_same]
      exact cell_eq _ _ _ _ _ hu
    · rw [upd_other e, upd_other e, cell_ne _ _ _ _ _ _ (.inr (Ne.symm e))]
      exact f'.cell j (by omega)
  · by_cases e : j = k
    · subst e; exact ⟨_, cell_eq _ _ _ _ _ hu⟩
    · rw [cell_ne _ _ _ _ _ _ (.inr (Ne.symm e))]
      exact f'.rest j hj
  · by_cases e : j = k
    · subst e; rw [upd_same]; exact hc
    · rw [upd_other e]; exact f.cap j (by omega)
  · by_cases e : j = k
    · subst e; rw [upd_same]; exact ho.keep (pk _) (by omega)
    · rw [upd_other e]; exact (f'.own j (by omega)).keep (pk _) (by have := f.up j (by omega); omega)
  · by_cases e : j = k
    · subst e; rw [upd_same]; omega
    · rw [upd_other e]; exact f.up j (by omega)
  · by_cases e : j = k
    · subst e
      rw [upd_same, upd_other (by omega)]
      have := (f.own i (by omega)).lt
      omega
    · rw [upd_other e, upd_other (by omega)]
      exact f.inc i j hij (by omega)
theorem SP.ss {w : World} {g n : Nat} {gf cf : Nat → Nat} {xss : List (List Nat)} (f : SP w g n n gf cf xss) (hl : xss.length = n) : SS w (some ⟨g, 0, none⟩) n xss :=
  ⟨hl, .inr ⟨g, 0, rfl, f.lt, fun k hk => ⟨_, _, by rw [Nat.zero_add]; exact f.cell k hk, f.cap k hk, (f.own k hk).fs⟩⟩⟩

theorem infoS : (Try.prog.info? 38).map (fun i => (i.zero, i.size, i.bytes)) = some (some (.slice none 0 0), 1, 24) := by kernel_rfl
theorem make_s (n : Nat) (w : World) (hn : n ≤ 1099511627776) :
    (Instr.makeSlice 58 (.int .i64 (n : Int)) (.int .i64 (n : Int))).run Try.prog w = .ok (.slice (some ⟨w.heap.size, 0, none⟩) n n) (w.alloc (.cells (madeCells #[.slice none 0 0] n) 38)) := by
  obtain ⟨i, hi, hz0, hz1, hz2⟩ := info_parts infoS
  have := run_make (P := Try.prog) w 58 38 i (.slice none 0 0) Try.underlying58 hi hz0 .i64 .i64 n n (by omega) (by omega) (by rw [hz2]; omega) (by omega)
  rw [hz1, Nat.mul_one, Int.toNat_natCast] at this
  exact this
theorem SP.made (w : World) (n : Nat) (gf cf : Nat → Nat) (xss : List (List Nat)) : SP (w.alloc (.cells (madeCells #[.slice none 0 0] n) 38)) w.heap.size n 0 gf cf xss where
  lt := by simp
  free := fun o => by simp
  cell := fun j hj => absurd hj (Nat.not_lt_zero _)
  rest := fun j hj => by
    rw [World.cell?_alloc_new]
    refine ⟨.slice none 0 0, ?_⟩
    simp only [madeCells]
    rw [Array.getElem?_map, Array.getElem?_range, if_pos hj]
    have hm : j % 1 = 0 := Nat.mod_one j
    simp [hm]
  cap := fun j hj => absurd hj (Nat.not_lt_zero _)
  own := fun j hj => absurd hj (Nat.not_lt_zero _)
  up := fun j hj => absurd hj (Nat.not_lt_zero _)
  inc := fun i j _ hj => absurd hj (Nat.not_lt_zero _)

set_option maxRecDepth 100000 in
set_option maxHeartbeats 2000000 in
theorem toSS (w : World) (a : Option Addr) (n cap : Nat) (xss : List (List Nat)) (f : SS w a n xss) (hn : n ≤ 1048576) (hl : ∀ k, k < n → (xss.getD k []).length ≤ 1048576) :
    Calls Try.prog 42 #[.slice a n cap] w fun e w' => e = .returned (.slice (some ⟨w.heap.size, 0, none⟩) n n) ∧ (∃ gf cf, SP w' w.heap.size n n gf cf xss) ∧ Kept 0 0 w w' := by
  have hm := make_s n w (by omega)
  have hP := SP.made w n id id xss
  have hK := kept_alloc 0 0 w (.cells (madeCells #[.slice none 0 0] n) 38)
  have HF : Hid _ := f
  have HL : Hid _ := hl
  clear f hl
  generalize hw1 : w.alloc (.cells (madeCells #[.slice none 0 0] n) 38) = w1 at hm hP hK
  clear hw1
  go_enter Try.func42, Try.ntmps42
  go_wp2_with fail
  clear hm
  go_loopw [4] (fun i W => ∃ k : Nat, k ≤ n ∧ i = .int .i64 k ∧ (∃ gf cf, SP W w.heap.size n k gf cf xss) ∧ Kept 0 0 w W) (fun i _ => n - (intOf i).toNat)
  case atStart => exact ⟨0, Nat.zero_le _, rfl, ⟨_, _, hP⟩, hK⟩
  case round =>
    obtain ⟨k, hk, rfl, ⟨gf, cf, hF⟩, hKW⟩ := hrel
    clear hP hK
    by_cases hlt : k < n
    · have f2 := SS.keep HF.out hKW
      rcases f2.at_ with z0 | ⟨ga, oa, ea, z1, z2⟩
      · omega
      obtain ⟨b, c, g1, g2, g3⟩ := z2 k hlt
      have hk1 := HL.out k hlt
      have HS : Hid (∀ {w' : World} {G c : Nat}, Kept 0 0 wr w' → FO w' G (xss.getD k []).length (xss.getD k []) → wr.heap.size ≤ G → (xss.getD k []).length ≤ c → _) := fun q ho hG hc => hF.step hlt q ho hG hc
      subst ea
      clear z2 f2 z1 g2
      have HW : Hid _ := hKW
      have HF2 : Hid _ := hF
      clear hKW hF
      generalize hys : xss.getD k [] = ys at g1 g3 hk1 HS
      clear hys
      generalize hm : ys.length = m at g1 g3 hk1 HS
      go_wp2_with fail
      refine (toF _ _ _ _ _ _ _ g3 hk1).mono ?_
      rintro e w2 ⟨rfl, hr, hk2⟩
      have ho := hr.fo g3.lt
      rw [hm] at ho
      have R1 : Hid _ := HS.out hk2 ho (Nat.le_refl _) (Nat.le_refl _)
      have f3 := SP.keep HF2.out hk2
      have fz := f3.free k
      obtain ⟨u, hu⟩ := f3.rest k hlt
      have R2 : Hid _ := Kept.new (Kept.trans HW.out hk2) (kept_setCell (lo := w.heap.size) (hi := w.heap.size + 1) w2 ⟨w.heap.size, k, none⟩ (.slice (some ⟨wr.heap.size, 0, none⟩) m m) (.inl ⟨Nat.le_refl _, Nat.lt_succ_self _⟩)) (Nat.le_refl _)
      clear f3 ho hr hk2 g1 g3 hm HF2
      go_wp2
      go_roundw
      case rel => exact ⟨k + 1, by omega, by go_num, ⟨_, _, R1.out⟩, R2.out⟩
      case measure => simp [intOf]; omega
    · obtain rfl : k = n := by omega
      go_wp2
      go_ret
      exact ⟨rfl, ⟨gf, cf, hF⟩, hKW⟩

set_option maxRecDepth 100000 in
set_option maxHeartbeats 2000000 in
theorem eqSS (w : World) (a b : Option Addr) (n ca cb : Nat) (xss yss : List (List Nat)) (f : SS w a n xss) (g : SS w b n yss) (hn : n ≤ 1099511627776) (hl : ∀ k, k < n → (xss.getD k []).length ≤ 1099511627776) (hs : ∀ k, k < n → same (xss.getD k []) (yss.getD k [])) :
    Calls Try.prog 44 #[.slice a n ca, .slice b n cb] w fun e w' => e = .returned (.bool true) ∧ Drawn w w' := by
  have HF : Hid _ := f
  have HG : Hid _ := g
  have HL : Hid _ := hl
  have HS : Hid _ := hs
  clear f g hl hs
  go_enter Try.func44, Try.ntmps44
  go_wp2_with fail
  go_loopw [5] (fun i W => ∃ k : Nat, k ≤ n ∧ i = .int .i64 k ∧ Drawn w W) (fun i _ => n - (intOf i).toNat)
  case atStart => exact ⟨0, Nat.zero_le _, rfl, Drawn.refl _⟩
  case round =>
    obtain ⟨k, hk, rfl, hD⟩ := hrel
    by_cases hlt : k < n
    · have f2 := SS.keep HF.out (hD.kept 0 0)
      have g2 := SS.keep HG.out (hD.kept 0 0)
      rcases f2.at_ with z0 | ⟨ga, oa, ea, z1, z2⟩
      · omega
      rcases g2.at_ with z0 | ⟨gb, ob, eb, y1, y2⟩
      · omega
      obtain ⟨b1, c1, g1, _, g3⟩ := z2 k hlt
      obtain ⟨b2, c2, k1, _, k3⟩ := y2 k hlt
      have HE : Hid (∀ m, _) := fun m => eqF (wr.drewN m) _ _ _ _ b1 b2 _ _ c1 c2 _ _ (g3.keep (kept_drewN 0 0 wr m) (.inr (.inr (Nat.le_refl _)))) (k3.keep (kept_drewN 0 0 wr m) (.inr (.inr (Nat.le_refl _)))) (HS.out k hlt) (HL.out k hlt)
      have j0 : (0 : Int) ≤ (k : Int) := by omega
      have j1 : (k : Int) < (n : Int) := by omega
      have HD : Hid _ := hD
      subst ea eb
      clear z2 y2 f2 g2 z1 y1 g3 k3 hD
      generalize (xss.getD k []).length = m1 at g1 HE
      generalize (yss.getD k []).length = m2 at k1 HE
      go_wp2_with fail
      go_quiet ((go_at_call 32; exact Calls.quiet_of (HE.out _)))
      go_wp2
      go_roundw
      case rel => exact ⟨k + 1, by omega, by go_num, Drawn.more HD.out _⟩
      case measure => simp [intOf]; omega
    · go_wp2
      go_ret
      exact ⟨rfl, hD⟩
/-- What szFloat64SS takes off. -/
def total : List (List Nat) → Nat
  | [] => 0
  | xs :: r => xs.length + total r
theorem total_append (r : List (List Nat)) (xs : List Nat) : total (r ++ [xs]) = total r + xs.length := by
  induction r with
  | nil => simp [total]
  | cons y ys ih => simp [total, ih]; omega
theorem total_take {xss : List (List Nat)} {k : Nat} (hk : k < xss.length) : total (xss.take (k + 1)) = total (xss.take k) + (xss.getD k []).length := by
  rw [List.take_succ_eq_append_getElem hk, total_append, List.getD_eq_getElem?_getD, List.getElem?_eq_getElem hk]; rfl
theorem total_le (xss : List (List Nat)) (k : Nat) : total (xss.take k) ≤ total xss := by
  induction xss generalizing k with
  | nil => simp [total]
  | cons y ys ih =>
    cases k with
    | zero => simp [total]
    | succ k => simp only [List.take_succ_cons, total]; have := ih k; omega
set_option maxRecDepth 100000 in
set_option maxHeartbeats 1000000 in
theorem szF (w : World) (a : Option Addr) (n cap : Nat) (left : Int) (h0 : 0 ≤ left) (h1 : left ≤ 1048576) (hn : n ≤ 9223372036854775807) :
    Calls Try.prog 106 #[.slice a n cap, .int .i64 left] w fun e w' => e = .returned (.int .i64 (leftOf left n)) ∧ w = w' := by
  unfold leftOf
  by_cases h : left - n < 0
  · rw [if_pos h]
    go_enter Try.func106, Try.ntmps106
    go_wp2
    go_ret
    exact ⟨rfl, rfl⟩
  · rw [if_neg h]
    go_enter Try.func106, Try.ntmps106
    go_wp2
    go_ret
    exact ⟨rfl, rfl⟩
def leftSS (left : Int) (n t : Nat) : Int := if left - n - t < 0 then -1 else left - n - t
set_option maxRecDepth 100000 in
set_option maxHeartbeats 2000000 in
theorem szSS (w : World) (a : Option Addr) (n cap : Nat) (xss : List (List Nat)) (f : SS w a n xss) (left : Int) (h0 : 0 ≤ left) (h1 : left ≤ 1048576) (hn : n ≤ 9223372036854775807) (hl : ∀ k, k < n → (xss.getD k []).length ≤ 9223372036854775807) :
    Calls Try.prog 40 #[.slice a n cap, .int .i64 left] w fun e w' => e = .returned (.int .i64 (leftSS left n (total xss))) ∧ w = w' := by
  have HF : Hid _ := f
  have HL : Hid _ := hl
  have HLN : Hid (xss.length = n) := f.len
  clear f hl
  by_cases hb : left - n < 0
  · rw [show leftSS left n (total xss) = -1 from if_pos (by omega)]
    go_enter Try.func40, Try.ntmps40
    go_wp2
    go_ret
    exact ⟨rfl, rfl⟩
  · go_enter Try.func40, Try.ntmps40
    go_wp2_with fail
    go_loop [1, 5] (fun l i => ∃ k : Nat, k ≤ n ∧ i = .int .i64 k ∧ l = .int .i64 (left - n - total (xss.take k)) ∧ Hid (0 ≤ left - n - total (xss.take k))) (fun _ i => n - (intOf i).toNat)
    case atStart => exact ⟨0, Nat.zero_le _, rfl, by simp [total], by show 0 ≤ left - n - total (xss.take 0); simp [total]; omega⟩
    case round =>
      obtain ⟨k, hk, rfl, rfl, hb2⟩ := hrel
      by_cases hlt : k < n
      · rcases HF.out.at_ with z0 | ⟨ga, oa, ea, z1, z2⟩
        · omega
        obtain ⟨b, c, g1, g2, g3⟩ := z2 k hlt
        have hlk := HL.out k hlt
        have HT : Hid _ := total_take (xss := xss) (k := k) (by rw [HLN.out]; exact hlt)
        have HTL : Hid _ := total_le xss (k + 1)
        have HX : Hid _ := szF w b (xss.getD k []).length c (left - n - total (xss.take k)) hb2.out (by omega) hlk
        subst ea
        clear z1 z2 g2 g3 hlk
        generalize (xss.getD k []).length = m at g1 HT HX
        by_cases hc : left - n - total (xss.take k) - m < 0
        · rw [show leftOf (left - n - total (xss.take k)) m = -1 from if_pos hc] at HX
          go_wp2_with fail
          refine Calls.mono HX.out ?_
          rintro e w2 ⟨rfl, rfl⟩
          go_wp2
          go_ret
          refine ⟨?_, rfl⟩
          rw [show leftSS left n (total xss) = -1 from if_pos (by have := HT.out; have := HTL.out; omega)]
          rfl
        · rw [show leftOf (left - n - total (xss.take k)) m = left - n - total (xss.take k) - m from if_neg hc] at HX
          have hcc : ¬ (left - n - total (xss.take k) - m < 0) := hc
          go_wp2_with fail
          refine Calls.mono HX.out ?_
          rintro e w2 ⟨rfl, rfl⟩
          go_wp2
          go_round
          case rel => exact ⟨k + 1, by omega, by go_num, by rw [HT.out]; congr 1; omega, by show 0 ≤ left - n - total (xss.take (k + 1)); have := HT.out; omega⟩
          case measure => simp [intOf]; omega
      · have R : Hid (total (xss.take k) = total xss) := by
          show total (xss.take k) = total xss
          rw [List.take_of_length_le (by rw [HLN.out]; omega)]
        go_wp2
        go_ret
        refine ⟨?_, rfl⟩
        rw [show leftSS left n (total xss) = left - n - total xss from if_neg (by have := R.out; have := hb2.out; omega), ← R.out]
        rfl
end Go.Proofs.Ytcphabjekfihnaa
