import Derived.Test.YtcphabjekfihnabGreatP15
import Derived.Test.YtcphabjekfihnabGreatP28
import Derived.Test.YtcphabjekfihnabGreatP04
namespace Go.Proofs.YtcphabjekfihnabGreat
open Go.RowKit Flt
attribute [local go_sem] alloc_drewN setCell_drewN run_store_float

/-- What Kernel answers, with one NaN for all. -/
def kern (op len C : Int) (K : Nat) (xa xb xc : List Nat) : List Nat :=
  if fitB op len C xa.length xb.length xc.length then (List.range len.toNat).map (elem op C K xa xb xc) else []
theorem kern_len_le (op len C : Int) (K : Nat) (xa xb xc : List Nat) : (kern op len C K xa xb xc).length ≤ 1000 := by
  unfold kern
  split
  · rename_i h
    simp only [fitB, Bool.and_eq_true, lenB, decide_eq_true_eq] at h
    simp; omega
  · simp
theorem kern_same {op len C : Int} {K : Nat} {xa xb xc zs : List Nat} (h : fitB op len C xa.length xb.length xc.length = true) (hl : zs.length = len.toNat)
    (hq : ∀ k, k < len.toNat → fb (zs.getD k 0) = fb (elem op C K xa xb xc k)) : same zs (kern op len C K xa xb xc) := by
  unfold kern
  rw [if_pos h]
  refine same_of (by simp [hl]) fun k hk => ?_
  rw [hq k (by omega)]
  congr 1
  simp [List.getD_eq_getElem?_getD, (by omega : k < len.toNat)]

/-- A list of floats that owns a whole block from lo on, or is nil. -/
def OR (w : World) (lo : Nat) (a : Option Addr) (n cap : Nat) (zs : List Nat) : Prop :=
  (a = none ∧ n = 0 ∧ cap = 0 ∧ zs = []) ∨ ∃ g, a = some ⟨g, 0, none⟩ ∧ lo ≤ g ∧ FR w g zs ∧ zs.length = n ∧ (∀ z ∈ zs, z < 18446744073709551616)
theorem OR.fs {w : World} {lo : Nat} {a : Option Addr} {n cap : Nat} {zs : List Nat} (h : OR w lo a n cap zs) : FS w lo w.heap.size a n zs := by
  rcases h with ⟨rfl, rfl, rfl, rfl⟩ | ⟨g, rfl, h1, h2, rfl, h4⟩
  · exact ⟨rfl, by simp, .inl rfl⟩
  · exact h2.fs h4 h1 h2.lt
theorem OR.keep {w w' : World} {lo l h : Nat} {a : Option Addr} {n cap : Nat} {zs : List Nat} (f : OR w lo a n cap zs) (k : Kept l h w w') (hd : h ≤ lo ∨ h ≤ l) : OR w' lo a n cap zs := by
  rcases f with f | ⟨g, e, h1, h2, h3, h4⟩
  · exact .inl f
  · exact .inr ⟨g, e, h1, h2.keep k (by omega), h3, h4⟩

theorem implKernel' (w : World) (op len A B C : Int) (K : Nat) (hK : K < 18446744073709551616) {l0 h0' l1 h1' l2 h2' : Nat} {a b c : Option Addr} {la lb lc ca cb cc : Nat} {xa xb xc : List Nat}
    (fa : FS w l0 h0' a la xa) (fb' : FS w l1 h1' b lb xb) (fc : FS w l2 h2' c lc xc) (hca : la ≤ ca) :
    Calls Tryz.prog 88 #[vagg op len A B C K, .slice a la ca, .slice b lb cb, .slice c lc cc] w fun e w' =>
      ∃ (a' : Option Addr) (n cap : Nat) (zs : List Nat), e = .returned (.slice a' n cap) ∧ OR w' w.heap.size a' n cap zs ∧ same zs (kern op len C K xa xb xc) ∧ Kept 0 0 w w' ∧ n ≤ cap := by
  have e1 := fa.len
  have e2 := fb'.len
  have e3 := fc.len
  cases hf : fitB op len C la lb lc
  · have hn : kern op len C K xa xb xc = [] := by unfold kern; rw [e1, e2, e3, hf]; rfl
    have key : ∀ (e : Ending) (w' : World), (e = .returned (.slice none 0 0) ∧ Kept 0 0 w w') → ∃ (a' : Option Addr) (n cap : Nat) (zs : List Nat), e = .returned (.slice a' n cap) ∧ OR w' w.heap.size a' n cap zs ∧ same zs (kern op len C K xa xb xc) ∧ Kept 0 0 w w' ∧ n ≤ cap :=
      fun e w' h => ⟨none, 0, 0, [], h.1, .inl ⟨rfl, rfl, rfl, rfl⟩, by rw [hn]; rfl, h.2, Nat.le_refl _⟩
    cases hl : lenB len
    · exact (implKernel_short w op len A B C K a b c la lb lc ca cb cc hl).mono fun e w' h => key e w' h
    · refine (implKernel_bad w op len A B C K a b c la lb lc ca cb cc hl ?_).mono fun e w' h => key e w' h
      simpa [fitB, hl] using hf
  · have hl : lenB len = true := by have := hf; simp only [fitB, Bool.and_eq_true] at this; exact this.1
    have hs : shapeB op len C (([(la : Int), (lb : Int), (lc : Int)]).take (cnt op)) = true := by have := hf; simp only [fitB, Bool.and_eq_true] at this; exact this.2
    have hb : 1 ≤ len ∧ len ≤ 1000 := by simpa [lenB] using hl
    obtain ⟨n, rfl⟩ := Int.eq_ofNat_of_zero_le (by omega : 0 ≤ len)
    refine (implKernel_ok w op A B C n K (by omega) (by omega) hK fa fb' fc hca hs).mono fun e w' h => ?_
    obtain ⟨G, zs, h1, h2, h3, h4, h5, h6, h7⟩ := h
    exact ⟨_, n, n, zs, h1, .inr ⟨G, rfl, h2, h3, h5, h4⟩, kern_same (by rw [e1, e2, e3]; exact hf) (by simpa using h5) (by simpa using h6), h7, Nat.le_refl _⟩

theorem implKernel (w : World) (op len A B C : Int) (K : Nat) (hK : K < 18446744073709551616) {l0 h0' l1 h1' l2 h2' : Nat} {a b c : Option Addr} {la lb lc ca cb cc : Nat} {xa xb xc : List Nat}
    (fa : FS w l0 h0' a la xa) (fb' : FS w l1 h1' b lb xb) (fc : FS w l2 h2' c lc xc) (hca : la ≤ ca) :
    Calls Tryz.prog 88 #[vagg op len A B C K, .slice a la ca, .slice b lb cb, .slice c lc cc] w fun e w' =>
      ∃ (a' : Option Addr) (n cap : Nat) (zs : List Nat), e = .returned (.slice a' n cap) ∧ OR w' w.heap.size a' n cap zs ∧ same zs (kern op len C K xa xb xc) ∧ Kept 0 0 w w' :=
  (implKernel' w op len A B C K hK fa fb' fc hca).mono fun _ _ ⟨a', n, cap, zs, h1, h2, h3, h4, _⟩ => ⟨a', n, cap, zs, h1, h2, h3, h4⟩

theorem specKernel' (w : World) (op len A B C : Int) (K : Nat) (hK : K < 18446744073709551616) {l0 h0' l1 h1' l2 h2' : Nat} {a b c : Option Addr} {la lb lc ca cb cc : Nat} {xa xb xc : List Nat}
    (fa : FS w l0 h0' a la xa) (fb' : FS w l1 h1' b lb xb) (fc : FS w l2 h2' c lc xc) (hca : la ≤ ca) :
    Calls Tryz.prog 57 #[vagg op len A B C K, .slice a la ca, .slice b lb cb, .slice c lc cc] w fun e w' =>
      ∃ (a' : Option Addr) (n cap : Nat) (zs : List Nat), e = .returned (.slice a' n cap) ∧ FS w' w.heap.size w'.heap.size a' n zs ∧ same zs (kern op len C K xa xb xc) ∧ Kept 0 0 w w' ∧ n ≤ cap := by
  have e1 := fa.len
  have e2 := fb'.len
  have e3 := fc.len
  cases hf : fitB op len C la lb lc
  · have hn : kern op len C K xa xb xc = [] := by unfold kern; rw [e1, e2, e3, hf]; rfl
    exact (specKernel_bad w op len A B C K a b c la lb lc ca cb cc hf).mono fun e w' h => ⟨none, 0, 0, [], h.1, ⟨rfl, by simp, .inl rfl⟩, by rw [hn]; rfl, h.2, Nat.le_refl _⟩
  · have hr : 1 ≤ op ∧ op ≤ 13 ∧ 1 ≤ len ∧ len ≤ 1000 := Decidable.byContradiction fun c => by rw [fitB_bad op len C la lb lc c] at hf; cases hf
    obtain ⟨n, rfl⟩ := Int.eq_ofNat_of_zero_le (by omega : 0 ≤ len)
    have h1 : 1 ≤ n := by omega
    have hn : n ≤ 1000 := by omega
    have key : ∀ (e : Ending) (w' : World), KS n (elem op C K xa xb xc) w e w' → ∃ (a' : Option Addr) (m cap : Nat) (zs : List Nat), e = .returned (.slice a' m cap) ∧ FS w' w.heap.size w'.heap.size a' m zs ∧ same zs (kern op (n : Int) C K xa xb xc) ∧ Kept 0 0 w w' ∧ m ≤ cap := by
      rintro e w' ⟨a', cap, zs, k1, k2, k3, k4, k5⟩
      exact ⟨a', n, cap, zs, k1, k2, kern_same (by rw [e1, e2, e3]; exact hf) (by simpa using k2.len) (by simpa using k3), k4, k5⟩
    have : op = 1 ∨ op = 2 ∨ op = 3 ∨ op = 4 ∨ op = 5 ∨ op = 6 ∨ op = 7 ∨ op = 8 ∨ op = 9 ∨ op = 10 ∨ op = 11 ∨ op = 12 ∨ op = 13 := by omega
    rcases this with rfl | rfl | rfl | rfl | rfl | rfl | rfl | rfl | rfl | rfl | rfl | rfl | rfl
    · exact (specKernel_1 w A B C n K h1 hn hK fa fb' fc hca hf).mono key
    · exact (specKernel_2 w A B C n K h1 hn hK fa fb' fc hca hf).mono key
    · exact (specKernel_3 w A B C n K h1 hn hK fa fb' fc hca hf).mono key
    · exact (specKernel_4 w A B C n K h1 hn hK fa fb' fc hca hf).mono key
    · exact (specKernel_5 w A B C n K h1 hn hK fa fb' fc hca hf).mono key
    · exact (specKernel_6 w A B C n K h1 hn hK fa fb' fc hca hf).mono key
    · exact (specKernel_7 w A B C n K h1 hn hK fa fb' fc hca hf).mono key
    · exact (specKernel_8 w A B C n K h1 hn hK fa fb' fc hca hf).mono key
    · exact (specKernel_9 w A B C n K h1 hn hK fa fb' fc hca hf).mono key
    · exact (specKernel_10 w A B C n K h1 hn hK fa fb' fc hca hf).mono key
    · exact (specKernel_11 w A B C n K h1 hn hK fa fb' fc hca hf).mono key
    · exact (specKernel_12 w A B C n K h1 hn hK fa fb' fc hca hf).mono key
    · exact (specKernel_13 w A B C n K h1 hn hK fa fb' fc hca hf).mono key
theorem specKernel (w : World) (op len A B C : Int) (K : Nat) (hK : K < 18446744073709551616) {l0 h0' l1 h1' l2 h2' : Nat} {a b c : Option Addr} {la lb lc ca cb cc : Nat} {xa xb xc : List Nat}
    (fa : FS w l0 h0' a la xa) (fb' : FS w l1 h1' b lb xb) (fc : FS w l2 h2' c lc xc) (hca : la ≤ ca) :
    Calls Tryz.prog 57 #[vagg op len A B C K, .slice a la ca, .slice b lb cb, .slice c lc cc] w fun e w' =>
      ∃ (a' : Option Addr) (n cap : Nat) (zs : List Nat), e = .returned (.slice a' n cap) ∧ FS w' w.heap.size w'.heap.size a' n zs ∧ same zs (kern op len C K xa xb xc) ∧ Kept 0 0 w w' :=
  (specKernel' w op len A B C K hK fa fb' fc hca).mono fun _ _ ⟨a', n, cap, zs, h1, h2, h3, h4, _⟩ => ⟨a', n, cap, zs, h1, h2, h3, h4⟩

end Go.Proofs.YtcphabjekfihnabGreat
