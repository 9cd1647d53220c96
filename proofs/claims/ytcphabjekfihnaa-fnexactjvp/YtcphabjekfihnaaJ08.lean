import Derived.Test.YtcphabjekfihnaaJ07
namespace Go.Proofs.Ytcphabjekfihnaa
open Go.RowKit Flt
attribute [local go_sem] alloc_drewN setCell_drewN run_store_float

/-- What l2move answers: the graph with what was put behind, and the index. -/
def MvP (w : World) (b1 : Option Addr) (m1 e1 : Nat) (b3 : Option Addr) (m3 e3 : Nat) (vs : List Vl) (base : Nat) (R : Option Nat) (M : List Vl × Int) (e : Ending) (w' : World) : Prop :=
  ∃ a2' cap' R', e = .returned (.tuple #[gagg b1 m1 e1 a2' (vs ++ M.1).length cap' b3 m3 e3, .int .i64 M.2]) ∧ w'.ownsRow base 40 6 (.slice a2' (vs ++ M.1).length cap') (vs ++ M.1).length (flat (vs ++ M.1)) ∧ (Value.slice a2' (vs ++ M.1).length cap').ownBlock = R' ∧ StQ (fun _ => False) R w R' w'

theorem At.stq {W W' : World} {p P o : Nat} {v : Vl} {R R' : Option Nat} (t : At W p o v) (hl : p < W.heap.size) (s : StQ (fun i => i = P) R W R' W') (hp : p ≠ P) (hR : R ≠ some p) : At W' p o v := by
  have hn : ¬ ((fun i => i = P) p ∨ R = some p) := by rintro (c | c); exact hp c; exact hR c
  have e : ∀ o, W'.cell? ⟨p, o, none⟩ = W.cell? ⟨p, o, none⟩ := fun o => s.chg.cell (p := ⟨p, o, none⟩) hl hn
  obtain ⟨q0, q1, q2, q3, q4, q5⟩ := t
  exact ⟨by rw [e]; exact q0, by rw [e]; exact q1, by rw [e]; exact q2, by rw [e]; exact q3, by rw [e]; exact q4, by rw [e]; exact q5⟩
theorem StQ.seq {Q Q' : Nat → Prop} {w W W' : World} {R R' R'' : Option Nat} (a : StQ Q R w R' W) (b : StQ Q' R' W R'' W') (h : ∀ i, i < w.heap.size → ¬ Q' i) : StQ Q R w R'' W' where
  chg := ⟨b.chg.os.trans a.chg.os, b.chg.tape.trans a.chg.tape, b.chg.output.trans a.chg.output, Nat.le_trans a.chg.size b.chg.size, fun k hk hn => by
    rw [b.chg.block k (Nat.lt_of_lt_of_le hk a.chg.size) ?_]
    · exact a.chg.block k hk hn
    · rintro (c | c)
      · exact h k hk c
      · rcases a.row with e | ⟨r, e, hr⟩
        · exact hn (.inr (by rw [← e]; exact c))
        · rw [e] at c; cases c; omega⟩
  row := by
    rcases b.row with e | ⟨r, e, hr⟩
    · rw [e]; exact a.row
    · exact .inr ⟨r, e, Nat.le_trans a.chg.size hr⟩

/-- l2move in its middle: g in the box behind w, then the answer's box, then v's box. -/
structure MS (w W : World) (b1 : Option Addr) (m1 e1 : Nat) (b3 : Option Addr) (m3 e3 : Nat) (vs : List Vl) (v : Vl) (base : Nat) (R R' : Option Nat) (a2 : Option Addr) (cap : Nat) : Prop where
  g : SG W w.heap.size b1 m1 e1 b3 m3 e3 vs base R' a2 cap
  b : RB W (w.heap.size + 1) (.slice none 0 0) (.slice none 0 0) (.slice none 0 0)
  v : At W (w.heap.size + 1 + 1) 0 v
  lt : w.heap.size + 1 + 1 < W.heap.size
  n1 : R' ≠ some (w.heap.size + 1)
  n2 : R' ≠ some (w.heap.size + 1 + 1)
  s : StQ (fun _ => False) R w R' W
theorem MS.keep {w W W' : World} {m1 e1 m3 e3 base cap : Nat} {b1 b3 a2 : Option Addr} {vs : List Vl} {v : Vl} {R R' : Option Nat} (h : MS w W b1 m1 e1 b3 m3 e3 vs v base R R' a2 cap) (k : Kept 0 0 W W') : MS w W' b1 m1 e1 b3 m3 e3 vs v base R R' a2 cap :=
  ⟨h.g.keep k, h.b.keep k, h.v.keep h.lt k (.inr (.inr (Nat.le_refl _))), Nat.lt_of_lt_of_le h.lt k.size, h.n1, h.n2, h.s.keepQ k⟩
theorem MS.start {w : World} {m1 e1 m3 e3 base cap : Nat} {b1 b3 a2 : Option Addr} {vs : List Vl} (v : Vl) (h : w.ownsRow base 40 6 (.slice a2 vs.length cap) vs.length (flat vs)) (hb : base ≤ w.heap.size) :
    MS w (((w.alloc (gbox b1 m1 e1 a2 vs.length cap b3 m3 e3)).alloc nbox).alloc (vbox v.op v.len v.a v.b v.c v.k)) b1 m1 e1 b3 m3 e3 vs v base (Value.slice a2 vs.length cap).ownBlock (Value.slice a2 vs.length cap).ownBlock a2 cap := by
  have k1 := kept_alloc 0 0 w (gbox b1 m1 e1 a2 vs.length cap b3 m3 e3)
  have k2 := kept_alloc 0 0 (w.alloc (gbox b1 m1 e1 a2 vs.length cap b3 m3 e3)) nbox
  have k3 := kept_alloc 0 0 ((w.alloc (gbox b1 m1 e1 a2 vs.length cap b3 m3 e3)).alloc nbox) (vbox v.op v.len v.a v.b v.c v.k)
  have hG := ((g0_start w (.slice b1 m1 e1) (.slice a2 vs.length cap) (.slice b3 m3 e3)).keep k2).keep k3
  have hR : ∀ B, w.heap.size ≤ B → (Value.slice a2 vs.length cap).ownBlock ≠ some B := fun B hB e => by have := (own_blkV h e).2; omega
  have hN := rb_start (w.alloc (gbox b1 m1 e1 a2 vs.length cap b3 m3 e3))
  rw [show (w.alloc (gbox b1 m1 e1 a2 vs.length cap b3 m3 e3)).heap.size = w.heap.size + 1 by simp] at hN
  have hV := vbox_atJ ((w.alloc (gbox b1 m1 e1 a2 vs.length cap b3 m3 e3)).alloc nbox) v
  rw [show ((w.alloc (gbox b1 m1 e1 a2 vs.length cap b3 m3 e3)).alloc nbox).heap.size = w.heap.size + 1 + 1 by simp] at hV
  exact ⟨⟨hG.sz, fun o => by rw [(k2.trans k3).frozen (p := ⟨w.heap.size, o, none⟩) (by simp) (by omega)]; simp, hG.q0, hG.q1, hG.q2, own_keepJ h ((k1.trans k2).trans k3), rfl, hR _ (Nat.le_refl _), by simp; omega⟩, hN.keep k3, hV, by simp, hR _ (by omega), hR _ (by omega), (StQ.refl _ _ w).keepQ ((k1.trans k2).trans k3)⟩
/-- A step of the model from W1 to w2 that puts u behind, and its storing into g's box. -/
theorem MS.next {w W W1 w2 : World} {m1 e1 m3 e3 base cap g' cap' : Nat} {b1 b3 a2 : Option Addr} {vs : List Vl} {v u : Vl} {R R' : Option Nat} (h : MS w W b1 m1 e1 b3 m3 e3 vs v base R R' a2 cap) (k : Kept 0 0 W W1)
    (own : w2.ownsRow base 40 6 (.slice (some ⟨g', 0, none⟩) (vs.length + 1) cap') (vs.length + 1) (flat (vs ++ [u]))) (s : StQ (fun _ => False) R' W1 (some g') w2) :
    (∃ u, w2.cell? ⟨w.heap.size, 0, none⟩ = some u) ∧ (∃ u, w2.cell? ⟨w.heap.size, 1, none⟩ = some u) ∧ (∃ u, w2.cell? ⟨w.heap.size, 2, none⟩ = some u) ∧ (∀ o, w2.frozen? ⟨w.heap.size, o, none⟩ = false) ∧ At w2 (w.heap.size + 1 + 1) 0 v ∧
      Hid (MS w (Put3 w2 w.heap.size (.slice b1 m1 e1) (.slice (some ⟨g', 0, none⟩) (vs.length + 1) cap') (.slice b3 m3 e3)) b1 m1 e1 b3 m3 e3 (vs ++ [u]) v base R (some g') (some ⟨g', 0, none⟩) cap') := by
  have h1 := h.g.keep k
  obtain ⟨q1, q2⟩ := h.g.put k own s
  have hb : w2.heap[w.heap.size]? = W1.heap[w.heap.size]? := s.chg.block w.heap.size h1.lt (by rintro (c | c); exact c; exact h.g.ne c)
  have e : ∀ o, w2.cell? ⟨w.heap.size, o, none⟩ = W1.cell? ⟨w.heap.size, o, none⟩ := fun o => World.cell?_of_block (w := W1) (a := ⟨w.heap.size, o, none⟩) hb
  have ef : ∀ o, w2.frozen? ⟨w.heap.size, o, none⟩ = W1.frozen? ⟨w.heap.size, o, none⟩ := fun o => World.frozen?_of_block (w := W1) (a := ⟨w.heap.size, o, none⟩) hb
  have hv : At w2 (w.heap.size + 1 + 1) 0 v := by
    have hl := Nat.lt_of_lt_of_le h.lt k.size
    have ec : ∀ o, w2.cell? ⟨w.heap.size + 1 + 1, o, none⟩ = W1.cell? ⟨w.heap.size + 1 + 1, o, none⟩ := fun o => s.chg.cell (p := ⟨w.heap.size + 1 + 1, o, none⟩) hl (by rintro (c | c); exact c; exact h.n2 c)
    obtain ⟨q0, q1, q2, q3, q4, q5⟩ := h.v.keep h.lt k (.inr (.inr (Nat.le_refl _)))
    exact ⟨by rw [ec]; exact q0, by rw [ec]; exact q1, by rw [ec]; exact q2, by rw [ec]; exact q3, by rw [ec]; exact q4, by rw [ec]; exact q5⟩
  exact ⟨⟨_, (e 0).trans h1.c0⟩, ⟨_, (e 1).trans h1.c1⟩, ⟨_, (e 2).trans h1.c2⟩, fun o => by rw [ef]; exact h1.free o, hv, q1, h.b.stq q2 (by omega) h.n1, h.v.stq h.lt q2 (by omega) h.n2, Nat.lt_of_lt_of_le h.lt q2.chg.size,
    fun c => q2.far (Nat.lt_trans (Nat.lt_succ_self _) h.lt) h.n1 (by simpa using c), fun c => q2.far h.lt h.n2 (by simpa using c), h.s.seq q2 (fun i hi c => by omega)⟩
/-- The contract of l2put in a world behind W. -/
theorem MS.call {w W W1 : World} {m1 e1 m3 e3 base cap : Nat} {b1 b3 a2 : Option Addr} {vs : List Vl} {v : Vl} {R R' : Option Nat} (h : MS w W b1 m1 e1 b3 m3 e3 vs v base R R' a2 cap) (k : Kept 0 0 W W1) (u : Vl) (hn : vs.length ≤ 1000000) :
    Calls Try.prog 153 #[gagg b1 m1 e1 a2 vs.length cap b3 m3 e3, u.agg] W1 fun e w2 => ∃ g' cap', e = .returned (gagg b1 m1 e1 (some ⟨g', 0, none⟩) (vs.length + 1) cap' b3 m3 e3) ∧
      (∃ u, w2.cell? ⟨w.heap.size, 0, none⟩ = some u) ∧ (∃ u, w2.cell? ⟨w.heap.size, 1, none⟩ = some u) ∧ (∃ u, w2.cell? ⟨w.heap.size, 2, none⟩ = some u) ∧ (∀ o, w2.frozen? ⟨w.heap.size, o, none⟩ = false) ∧ At w2 (w.heap.size + 1 + 1) 0 v ∧
      Hid (MS w (Put3 w2 w.heap.size (.slice b1 m1 e1) (.slice (some ⟨g', 0, none⟩) (vs.length + 1) cap') (.slice b3 m3 e3)) b1 m1 e1 b3 m3 e3 (vs ++ [u]) v base R (some g') (some ⟨g', 0, none⟩) cap') := by
  have h1 := h.g.keep k
  refine (l2put W1 b1 a2 b3 m1 e1 cap m3 e3 base vs u h1.own h1.sz hn).mono ?_
  rintro e w2 ⟨g', cap', rfl, own, s⟩
  rw [h.g.row] at s
  exact ⟨g', cap', rfl, h.next k own s⟩
/-- l2or in a world behind W, with no move: zeros are put behind. -/
theorem MS.orNone {w W W1 : World} {m1 e1 m3 e3 base cap : Nat} {b1 b3 a2 : Option Addr} {vs : List Vl} {v : Vl} {R R' : Option Nat} (h : MS w W b1 m1 e1 b3 m3 e3 vs v base R R' a2 cap) (k : Kept 0 0 W W1) (a n : Int) (ha : a < 0) (hn : vs.length ≤ 900000) :
    Calls Try.prog 178 #[gagg b1 m1 e1 a2 vs.length cap b3 m3 e3, .int .i64 a, .int .i64 n] W1 fun e w2 => ∃ g' cap', e = .returned (.tuple #[gagg b1 m1 e1 (some ⟨g', 0, none⟩) (vs.length + 1) cap' b3 m3 e3, .int .i64 (vs.length : Nat)]) ∧
      (∃ u, w2.cell? ⟨w.heap.size, 0, none⟩ = some u) ∧ (∃ u, w2.cell? ⟨w.heap.size, 1, none⟩ = some u) ∧ (∃ u, w2.cell? ⟨w.heap.size, 2, none⟩ = some u) ∧ (∀ o, w2.frozen? ⟨w.heap.size, o, none⟩ = false) ∧ At w2 (w.heap.size + 1 + 1) 0 v ∧
      Hid (MS w (Put3 w2 w.heap.size (.slice b1 m1 e1) (.slice (some ⟨g', 0, none⟩) (vs.length + 1) cap') (.slice b3 m3 e3)) b1 m1 e1 b3 m3 e3 (vs ++ [vput 1 n 0 0 0]) v base R (some g') (some ⟨g', 0, none⟩) cap') := by
  have h1 := h.g.keep k
  refine (l2or_none W1 b1 a2 b3 m1 e1 cap m3 e3 base vs a n h1.own h1.sz hn ha).mono ?_
  rintro e w2 ⟨g', cap', rfl, own, s⟩
  rw [h.g.row] at s
  exact ⟨g', cap', rfl, h.next k own s⟩
/-- .. with a move: nothing is put behind. -/
theorem MS.orSome {w W W1 : World} {m1 e1 m3 e3 base cap : Nat} {b1 b3 a2 : Option Addr} {vs : List Vl} {v : Vl} {R R' : Option Nat} (h : MS w W b1 m1 e1 b3 m3 e3 vs v base R R' a2 cap) (k : Kept 0 0 W W1) (a n : Int) (ha : 0 ≤ a) :
    Calls Try.prog 178 #[gagg b1 m1 e1 a2 vs.length cap b3 m3 e3, .int .i64 a, .int .i64 n] W1 fun e w2 => e = .returned (.tuple #[gagg b1 m1 e1 a2 vs.length cap b3 m3 e3, .int .i64 a]) ∧
      (∃ u, w2.cell? ⟨w.heap.size, 0, none⟩ = some u) ∧ (∃ u, w2.cell? ⟨w.heap.size, 1, none⟩ = some u) ∧ (∃ u, w2.cell? ⟨w.heap.size, 2, none⟩ = some u) ∧ (∀ o, w2.frozen? ⟨w.heap.size, o, none⟩ = false) ∧ At w2 (w.heap.size + 1 + 1) 0 v ∧
      Hid (MS w (Put3 w2 w.heap.size (.slice b1 m1 e1) (.slice a2 vs.length cap) (.slice b3 m3 e3)) b1 m1 e1 b3 m3 e3 vs v base R R' a2 cap) := by
  refine (l2or_some W1 b1 a2 b3 m1 e1 vs.length cap m3 e3 a n ha).mono ?_
  rintro e w2 ⟨rfl, k2⟩
  have h2 := h.keep (k.trans k2)
  have kp := put3_kept w2 w.heap.size (.slice b1 m1 e1) (.slice a2 vs.length cap) (.slice b3 m3 e3)
  obtain ⟨y0, y1, y2⟩ := put3_0 w2 w.heap.size _ _ _ h2.g.c0 h2.g.c1 h2.g.c2 (.slice b1 m1 e1) (.slice a2 vs.length cap) (.slice b3 m3 e3)
  have nB : (Value.slice a2 vs.length cap).ownBlock ≠ some w.heap.size := by rw [h2.g.row]; exact h2.g.ne
  have eb : ∀ B o, B ≠ w.heap.size → B < w2.heap.size → (Put3 w2 w.heap.size (.slice b1 m1 e1) (.slice a2 vs.length cap) (.slice b3 m3 e3)).cell? ⟨B, o, none⟩ = w2.cell? ⟨B, o, none⟩ := fun B o hB hl => kp.cell (p := ⟨B, o, none⟩) hl (by show ¬ (w.heap.size ≤ B ∧ B < w.heap.size + 1); omega)
  have ef : ∀ B o, B ≠ w.heap.size → B < w2.heap.size → (Put3 w2 w.heap.size (.slice b1 m1 e1) (.slice a2 vs.length cap) (.slice b3 m3 e3)).frozen? ⟨B, o, none⟩ = w2.frozen? ⟨B, o, none⟩ := fun B o hB hl => kp.frozen (p := ⟨B, o, none⟩) hl (by show ¬ (w.heap.size ≤ B ∧ B < w.heap.size + 1); omega)
  obtain ⟨bz, t0, t1, t2, x0, x1, x2⟩ := h2.b
  obtain ⟨v0, v1, v2, v3, v4, v5⟩ := h2.v
  refine ⟨rfl, ⟨_, h2.g.c0⟩, ⟨_, h2.g.c1⟩, ⟨_, h2.g.c2⟩, h2.g.free, h2.v, ⟨Nat.lt_of_lt_of_le h2.g.lt kp.size, fun o => ?_, y0, y1, y2, own_setCell (own_setCell (own_setCell h2.g.own nB) nB) nB, h2.g.row, h2.g.ne, Nat.le_trans h2.g.sz kp.size⟩,
    ⟨Nat.lt_of_lt_of_le bz kp.size, by rw [eb _ _ (by omega) bz]; exact t0, by rw [eb _ _ (by omega) bz]; exact t1, by rw [eb _ _ (by omega) bz]; exact t2, by rw [ef _ _ (by omega) bz]; exact x0, by rw [ef _ _ (by omega) bz]; exact x1, by rw [ef _ _ (by omega) bz]; exact x2⟩,
    ⟨by rw [eb _ _ (by omega) h2.lt]; exact v0, by rw [eb _ _ (by omega) h2.lt]; exact v1, by rw [eb _ _ (by omega) h2.lt]; exact v2, by rw [eb _ _ (by omega) h2.lt]; exact v3, by rw [eb _ _ (by omega) h2.lt]; exact v4, by rw [eb _ _ (by omega) h2.lt]; exact v5⟩, Nat.lt_of_lt_of_le h2.lt kp.size, h2.n1, h2.n2, h2.s.new kp (Nat.le_refl _)⟩
  unfold Put3
  simp [h2.g.free o]
/-- The end: g's three cells stored into the answer's box. -/
theorem MS.fin {w W W' : World} {m1 e1 m3 e3 base cap : Nat} {b1 b3 a2 : Option Addr} {vs vs0 : List Vl} {v : Vl} {R R' : Option Nat} {M : List Vl × Int} (h : MS w W b1 m1 e1 b3 m3 e3 vs v base R R' a2 cap) (k : Kept 0 0 W W') (hv : vs = vs0 ++ M.1) :
    MvP w b1 m1 e1 b3 m3 e3 vs0 base R M (.returned (.tuple #[gagg b1 m1 e1 a2 vs.length cap b3 m3 e3, .int .i64 M.2])) (Put3 W' (w.heap.size + 1) (.slice b1 m1 e1) (.slice a2 vs.length cap) (.slice b3 m3 e3)) := by
  subst hv
  have nB : (Value.slice a2 (vs0 ++ M.1).length cap).ownBlock ≠ some (w.heap.size + 1) := by rw [h.g.row]; exact h.n1
  exact ⟨a2, cap, R', rfl, own_setCell (own_setCell (own_setCell (own_keepJ h.g.own k) nB) nB) nB, h.g.row, (h.s.keepQ k).new (put3_kept W' (w.heap.size + 1) _ _ _) (by omega)⟩

theorem cell3 (w : World) (P B o : Nat) (x y z : Value) (h : B ≠ P) : (((w.setCell ⟨P, 0, none⟩ x).setCell ⟨P, 1, none⟩ y).setCell ⟨P, 2, none⟩ z).cell? ⟨B, o, none⟩ = w.cell? ⟨B, o, none⟩ := by
  rw [cell_ne _ _ _ _ _ _ (.inl (Ne.symm h)), cell_ne _ _ _ _ _ _ (.inl (Ne.symm h)), cell_ne _ _ _ _ _ _ (.inl (Ne.symm h))]
end Go.Proofs.Ytcphabjekfihnaa

namespace Go.Proofs.Ytcphabjekfihnaa
open Go.RowKit Flt

/-- The region of this number in a piece of code. -/
def findR (n : Nat) : Code → Option Code
  | .region i ops d => if i = n then some (.region i ops d) else none
  | .seq a b => match findR n a with
    | some c => some c
    | none => findR n b
  | .cond _ a b => match findR n a with
    | some c => some c
    | none => findR n b
  | .block _ c => findR n c
  | .scope c => findR n c
  | .loop c => findR n c
  | _ => none
/-- Region n of l2move. -/
noncomputable def mreg (n : Nat) : Code := (Try.f152.body.bind (findR n)).getD .skip
/-- A statement that goes on behind its end alone. -/
theorem wp_on {P : Program} {c : Code} {K : Act → World → Prop} {Q : Exit → Act → World → Prop} {a : Act} {w : World} (h : c.wp P (Exit.then K fun _ _ _ => False) a w) : c.wp P (Exit.then K Q) a w := by
  refine wp_mono h ?_
  intro e a' w' hq
  cases e <;> first | exact hq | exact hq.elim
end Go.Proofs.Ytcphabjekfihnaa

namespace Go.Proofs.Ytcphabjekfihnaa
open Go.RowKit Flt

theorem mv_same {w W' : World} {m1 e1 m3 e3 base cap g2 : Nat} {b1 b3 : Option Addr} {vs : List Vl} (h : w.ownsRow base 40 6 (.slice (some ⟨g2, 0, none⟩) vs.length cap) vs.length (flat vs)) (k : Kept 0 0 w W') (r : Int) :
    MvP w b1 m1 e1 b3 m3 e3 vs base (some g2) ([], r) (.returned (.tuple #[gagg b1 m1 e1 (some ⟨g2, 0, none⟩) vs.length cap b3 m3 e3, .int .i64 r])) W' := by
  unfold MvP
  simp only [List.append_nil]
  exact ⟨_, _, _, rfl, own_keepJ h k, rfl, (StQ.refl _ _ w).keepQ k⟩

/-- l2or as data. -/
def orM (a n : Int) (N : Nat) : List Vl × Int := if a < 0 then ([vput 1 n 0 0 0], (N : Int)) else ([], a)
theorem MS.orAny {w W W1 : World} {m1 e1 m3 e3 base cap : Nat} {b1 b3 a2 : Option Addr} {vs : List Vl} {v : Vl} {R R' : Option Nat} (h : MS w W b1 m1 e1 b3 m3 e3 vs v base R R' a2 cap) (k : Kept 0 0 W W1) (a n : Int) (hn : vs.length ≤ 900000) :
    Calls Try.prog 178 #[gagg b1 m1 e1 a2 vs.length cap b3 m3 e3, .int .i64 a, .int .i64 n] W1 fun e w2 => ∃ (vs2 : List Vl) (m : Int) (a2' : Option Addr) (cap' : Nat) (R2 : Option Nat), Hid (vs2 = vs ++ (orM a n vs.length).1 ∧ m = (orM a n vs.length).2) ∧ vs2.length ≤ vs.length + 1 ∧ e = .returned (.tuple #[gagg b1 m1 e1 a2' vs2.length cap' b3 m3 e3, .int .i64 m]) ∧
      (∃ u, w2.cell? ⟨w.heap.size, 0, none⟩ = some u) ∧ (∃ u, w2.cell? ⟨w.heap.size, 1, none⟩ = some u) ∧ (∃ u, w2.cell? ⟨w.heap.size, 2, none⟩ = some u) ∧ (∀ o, w2.frozen? ⟨w.heap.size, o, none⟩ = false) ∧ At w2 (w.heap.size + 1 + 1) 0 v ∧
      Hid (MS w (Put3 w2 w.heap.size (.slice b1 m1 e1) (.slice a2' vs2.length cap') (.slice b3 m3 e3)) b1 m1 e1 b3 m3 e3 vs2 v base R R2 a2' cap') := by
  by_cases ha : a < 0
  · refine (h.orNone k a n ha hn).mono ?_
    rintro e w2 ⟨g', cap', rfl, r0, r1, r2, rf, hv, hM⟩
    have hl : (vs ++ [vput 1 n 0 0 0]).length = vs.length + 1 := by simp
    refine ⟨vs ++ [vput 1 n 0 0 0], (vs.length : Nat), some ⟨g', 0, none⟩, cap', some g', ⟨by rw [orM, if_pos ha], by rw [orM, if_pos ha]⟩, by rw [hl]; exact Nat.le_refl _, by rw [hl], r0, r1, r2, rf, hv, ?_⟩
    rw [hl]
    exact hM
  · refine (h.orSome k a n (by omega)).mono ?_
    rintro e w2 ⟨rfl, r0, r1, r2, rf, hv, hM⟩
    exact ⟨vs, a, a2, cap, R', ⟨by rw [orM, if_neg ha, List.append_nil], by rw [orM, if_neg ha]⟩, by omega, rfl, r0, r1, r2, rf, hv, hM⟩

theorem ch_or {vs vs2 vs3 vs4 : List Vl} {ln d ta tb m2 m3 : Int} (h1 : -1 ≤ ta) (h2 : -1 ≤ tb) (q2 : vs2 = vs ++ (orM ta ln vs.length).1 ∧ m2 = (orM ta ln vs.length).2) (q3 : vs3 = vs2 ++ (orM tb ln vs2.length).1 ∧ m3 = (orM tb ln vs2.length).2) (q4 : vs4 = vs3 ++ [vput 8 ln d m2 m3]) :
    vs4 = vs ++ (chM ln d ta tb vs.length).1 ∧ (vs4.length : Int) - 1 = (chM ln d ta tb vs.length).2 := by
  obtain ⟨rfl, rfl⟩ := q2
  obtain ⟨rfl, rfl⟩ := q3
  subst q4
  unfold chM orM
  by_cases a : ta < 0
  · have a' : ta = -1 := by omega
    by_cases b : tb < 0
    · have b' : tb = -1 := by omega
      subst a' b'
      simp
      omega
    · have b' : ¬ tb = -1 := by omega
      subst a'
      simp [b, b']
      omega
  · have a' : ¬ ta = -1 := by omega
    by_cases b : tb < 0
    · have b' : tb = -1 := by omega
      subst b'
      simp [a, a']
      omega
    · have b' : ¬ tb = -1 := by omega
      simp [a, a', b, b']
theorem sel_eq {vs vs1 vs2 vs3 : List Vl} {ln va tb tc m1 m2 : Int} (h1 : -1 ≤ tb) (h2 : -1 ≤ tc) (q2 : vs1 = vs ++ (orM tb ln vs.length).1 ∧ m1 = (orM tb ln vs.length).2) (q3 : vs2 = vs1 ++ (orM tc ln vs1.length).1 ∧ m2 = (orM tc ln vs1.length).2) (q4 : vs3 = vs2 ++ [vput 8 ln va m1 m2]) :
    vs3 = vs ++ (chM ln va tb tc vs.length).1 ∧ (vs3.length : Int) - 1 = (chM ln va tb tc vs.length).2 := ch_or h1 h2 q2 q3 q4
theorem max_eq {vs vs1 vs2 vs3 vs4 : List Vl} {ln va vb ta tb m2 m3 : Int} (h1 : -1 ≤ ta) (h2 : -1 ≤ tb) (q1 : vs1 = vs ++ [vput 3 ln va vb 0]) (q2 : vs2 = vs1 ++ (orM ta ln vs1.length).1 ∧ m2 = (orM ta ln vs1.length).2) (q3 : vs3 = vs2 ++ (orM tb ln vs2.length).1 ∧ m3 = (orM tb ln vs2.length).2) (q4 : vs4 = vs3 ++ [vput 8 ln ((vs.length : Nat) : Int) m2 m3]) :
    vs4 = vs ++ ([vput 3 ln va vb 0] ++ (chM ln ((vs.length : Nat) : Int) ta tb (vs.length + 1)).1) ∧ (vs4.length : Int) - 1 = (chM ln ((vs.length : Nat) : Int) ta tb (vs.length + 1)).2 := by
  have hl : vs1.length = vs.length + 1 := by rw [q1]; simp
  have := ch_or h1 h2 q2 q3 q4
  rw [hl] at this
  refine ⟨?_, this.2⟩
  rw [this.1, q1, List.append_assoc]
end Go.Proofs.Ytcphabjekfihnaa
