import Derived.Test.YtdkjdlimcnddkaaP01
import Derived.Test.YtdkjdlimcnddkaaP03
namespace Go.Proofs.Ytdkjdlimcnddkaa
open Go.RowKit Flt

/-- The series of 1.0, worked from the inside: n rounds done. -/
def cser (r : Nat) : Nat → Nat
  | 0 => 4607182418800017408
  | n + 1 => cop .add (cop .quo (cop .mul r (cser r n)) (floatOfInt .f64 (14 - (n : Int)))) 4607182418800017408
def csq (p : Nat) : Nat → Nat
  | 0 => p
  | n + 1 => cop .mul (csq p n) (csq p n)

theorem ser_step {r p q n : Nat} (k : Int) (w1 w2 w3 : World) (hk : k = 14 - (n : Int)) (h : fb p = fb (cser r n))
    (hq : q = fop .add (fop .quo (fop .mul r p w1) (floatOfInt .f64 k) w2) 4607182418800017408 w3) : fb q = fb (cser r (n + 1)) := by
  subst hk hq
  rw [fb_fop]
  unfold cser
  congr 1
  refine cop_congr .add ?_ rfl
  rw [fb_fop]
  congr 1
  refine cop_congr .quo ?_ rfl
  rw [fb_fop]
  congr 1
  exact cop_congr .mul rfl h

/-- What ExpFloat answers, with one NaN for all. -/
def cexp (x : Nat) : Nat :=
  if FloatKind.f64.format.order x x != some .eq then x
  else if FloatKind.f64.format.order x 4652007308841189376 == some .gt then 9218868437227405312
  else if FloatKind.f64.format.order x 13875379345695965184 == some .lt then 0
  else csq (cser (cop .quo x 4652218415073722368) 14) 10

theorem cser_congr {r r' : Nat} (h : fb r = fb r') : ∀ n, fb (cser r n) = fb (cser r' n)
  | 0 => rfl
  | n + 1 => by
    unfold cser
    congr 1
    refine cop_congr .add ?_ rfl
    congr 1
    refine cop_congr .quo ?_ rfl
    congr 1
    exact cop_congr .mul h (cser_congr h n)
theorem csq_congr {r r' : Nat} (h : fb r = fb r') : ∀ n, fb (csq r n) = fb (csq r' n)
  | 0 => h
  | n + 1 => by
    unfold csq
    congr 1
    exact cop_congr .mul (csq_congr h n) (csq_congr h n)

theorem sq_step {c y q k : Nat} {w : World} (h : fb y = fb (csq c k)) (hq : q = fop .mul y y w) : fb q = fb (csq c (k + 1)) := by
  subst hq
  rw [fb_fop]
  unfold csq
  congr 1
  exact cop_congr .mul h h
end Go.Proofs.Ytdkjdlimcnddkaa

namespace Go.Proofs.Ytdkjdlimcnddkaa
open Go.RowKit Flt
attribute [local go_sem] alloc_drewN setCell_drewN run_store_float

/-- Functions of floats by their number in the program: they answer c, up to the bits of a NaN. -/
def Fn1 (F : Nat) (c : Nat → Nat) : Prop := ∀ (x : Nat) (w : World), x < 18446744073709551616 →
  Calls Try.prog F #[.float .f64 x] w fun e w' => ∃ z, e = .returned (.float .f64 z) ∧ z < 18446744073709551616 ∧ fb z = fb (c x) ∧ Drawn w w'
def Fn2 (F : Nat) (c : Nat → Nat → Nat) : Prop := ∀ (x y : Nat) (w : World), x < 18446744073709551616 → y < 18446744073709551616 →
  Calls Try.prog F #[.float .f64 x, .float .f64 y] w fun e w' => ∃ z, e = .returned (.float .f64 z) ∧ z < 18446744073709551616 ∧ fb z = fb (c x y) ∧ Drawn w w'
def Fn3 (F : Nat) (c : Nat → Nat → Nat → Nat) : Prop := ∀ (x y u : Nat) (w : World), x < 18446744073709551616 → y < 18446744073709551616 → u < 18446744073709551616 →
  Calls Try.prog F #[.float .f64 x, .float .f64 y, .float .f64 u] w fun e w' => ∃ z, e = .returned (.float .f64 z) ∧ z < 18446744073709551616 ∧ fb z = fb (c x y u) ∧ Drawn w w'

/-- What a made list of floats comes to: a block of its own, element k the same as q k. -/
def Made (n : Nat) (q : Nat → Nat) (w : World) (e : Ending) (w' : World) : Prop :=
  ∃ zs : List Nat, e = .returned (.slice (some ⟨w.heap.size, 0, none⟩) n n) ∧ FR w' w.heap.size zs ∧ (∀ z ∈ zs, z < 18446744073709551616) ∧ zs.length = n ∧ (∀ k, k < n → fb (zs.getD k 0) = fb (q k)) ∧ Kept 0 0 w w'
/-- The same in the middle: the first k elements stand. -/
def Making (g n k : Nat) (q : Nat → Nat) (w W : World) : Prop :=
  ∃ zs : List Nat, FR W g zs ∧ (∀ z ∈ zs, z < 18446744073709551616) ∧ zs.length = n ∧ (∀ j, j < k → fb (zs.getD j 0) = fb (q j)) ∧ Kept 0 0 w W
theorem making_start (w : World) (n : Nat) (q : Nat → Nat) : Making w.heap.size n 0 q w (w.alloc (.cells (madeCells #[.float .f64 0] n) 62)) :=
  ⟨_, FR.made w n, by intro z hz; rw [List.eq_of_mem_replicate hz]; omega, by simp, fun j hj => by omega, kept_alloc 0 0 w _⟩
theorem Making.kept {g n k : Nat} {q : Nat → Nat} {w W : World} (h : Making g n k q w W) : Kept 0 0 w W := by
  obtain ⟨_, _, _, _, _, h⟩ := h; exact h
theorem Making.cell {g n k : Nat} {q : Nat → Nat} {w W : World} (h : Making g n k q w W) (hk : k < n) : ∃ v, W.cell? ⟨g, k, none⟩ = some v := by
  obtain ⟨zs, h1, _, h3, _, _⟩ := h; exact ⟨_, h1.cell k (by omega)⟩
theorem Making.free {g n k : Nat} {q : Nat → Nat} {w W : World} (h : Making g n k q w W) : W.frozen? ⟨g, k, none⟩ = false := by
  obtain ⟨zs, h1, _⟩ := h; exact h1.free k
theorem Making.drawn {g n k : Nat} {q : Nat → Nat} {w W W' : World} (h : Making g n k q w W) (d : Drawn W W') : Making g n k q w W' := by
  obtain ⟨zs, h1, h2, h3, h4, h5⟩ := h
  exact ⟨zs, h1.keep (d.kept 0 0) (.inr (.inr (Nat.le_refl _))), h2, h3, h4, h5.trans (d.kept 0 0)⟩
theorem Making.step {g n k : Nat} {q : Nat → Nat} {w W : World} (h : Making g n k q w W) (hg : w.heap.size ≤ g) {z : Nat} (hz : z < 18446744073709551616) (hq : fb z = fb (q k)) (hk : k < n) :
    Making g n (k + 1) q w (W.setCell ⟨g, k, none⟩ (.float .f64 z)) := by
  obtain ⟨zs, h1, h2, h3, h4, h5⟩ := h
  refine ⟨_, h1.set k z, ?_, by rw [List.length_set]; exact h3, ?_, h5.new (kept_setCell (lo := g) (hi := g + 1) W ⟨g, k, none⟩ _ (.inl ⟨Nat.le_refl _, Nat.lt_succ_self _⟩)) hg⟩
  · intro x hx
    rcases List.mem_or_eq_of_mem_set hx with c | c
    · exact h2 x c
    · rw [c]; exact hz
  · intro j hj
    rw [List.getD_eq_getElem?_getD, List.getElem?_set]
    by_cases e : k = j
    · subst e
      rw [if_pos rfl, if_pos (by omega)]
      exact hq
    · rw [if_neg e, ← List.getD_eq_getElem?_getD]
      exact h4 j (by omega)
theorem Making.done {n : Nat} {q : Nat → Nat} {w W : World} (h : Making w.heap.size n n q w W) : Made n q w (.returned (.slice (some ⟨w.heap.size, 0, none⟩) n n)) W := by
  obtain ⟨zs, h1, h2, h3, h4, h5⟩ := h
  exact ⟨zs, rfl, h1, h2, h3, h4, h5⟩
theorem kept_cell {w W : World} (h : Kept 0 0 w W) {g o : Nat} (hg : g < w.heap.size) {v : Value} (hc : w.cell? ⟨g, o, none⟩ = some v) : W.cell? ⟨g, o, none⟩ = some v := by
  rw [h.cell (p := ⟨g, o, none⟩) hg (by omega)]; exact hc
end Go.Proofs.Ytdkjdlimcnddkaa
