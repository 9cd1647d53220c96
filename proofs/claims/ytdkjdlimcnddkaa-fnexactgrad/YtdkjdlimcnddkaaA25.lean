import Derived.Test.YtdkjdlimcnddkaaA24
import Derived.Test.YtdkjdlimcnddkaaA14
namespace Go.Proofs.Ytdkjdlimcnddkaa
open Go.RowKit Flt
attribute [local go_sem] alloc_drewN setCell_drewN run_store_float run_store_func
/-- What is active when m values behind x have been seen. -/
def actM (vs0 : List Vl) (x : Nat) : Nat → List Bool
  | 0 => (List.replicate vs0.length false).set x true
  | m + 1 => (actM vs0 x m).set (x + 1 + m) (reachB (actM vs0 x m) (vs0.getD (x + 1 + m) Vl.zero))
theorem actM_len (vs0 : List Vl) (x : Nat) : ∀ m, (actM vs0 x m).length = vs0.length
  | 0 => by simp [actM]
  | m + 1 => by rw [actM, List.length_set, actM_len vs0 x m]
theorem BK.setA {W : World} {K P A S n : Nat} {R : Option Nat} {rv : Value} {act : List Bool} {sl : List Int} (f : BK W K P A S n rv act sl) (d : Dj P K A S R) (o : Nat) (x : Bool) : BK (W.setCell ⟨A, o, none⟩ (.bool x)) K P A S n rv (act.set o x) sl := by
  have k := chg_setCell (S := fun b => b = A) W A o (.bool x) rfl
  have e : ∀ q, (W.setCell ⟨A, o, none⟩ (.bool x)).cell? ⟨K, q, none⟩ = W.cell? ⟨K, q, none⟩ := fun q => k.cell (p := ⟨K, q, none⟩) f.lt d.ka
  exact ⟨by simpa using f.lt, fun q => by rw [World.frozen?_setCell]; exact f.fr q, by rw [e]; exact f.c0, by rw [e]; exact f.c1, by rw [e]; exact f.c2, by rw [e]; exact f.c3, by rw [List.length_set]; exact f.al, f.ln, BR.set f.ac o x, IR.keepC f.sp k (fun c => d.as_ c.symm)⟩
theorem BK.setR {W : World} {K P A S n : Nat} {R : Option Nat} {rv : Value} {act : List Bool} {sl : List Int} (f : BK W K P A S n rv act sl) (d : Dj P K A S R) (x : Value) : BK (W.setCell ⟨K, 3, none⟩ x) K P A S n x act sl := by
  have k := chg_setCell (S := fun b => b = K) W K 3 x rfl
  exact ⟨by simpa using f.lt, fun q => by rw [World.frozen?_setCell]; exact f.fr q, by rw [cell_ne _ _ _ _ _ _ (.inr (by omega))]; exact f.c0, by rw [cell_ne _ _ _ _ _ _ (.inr (by omega))]; exact f.c1, by rw [cell_ne _ _ _ _ _ _ (.inr (by omega))]; exact f.c2, cell_eq _ _ _ _ _ f.c3, f.al, f.ln, BR.keepC f.ac k (fun c => d.ka c.symm), IR.keepC f.sp k (fun c => d.ks c.symm)⟩
abbrev rclo (xw xi xo xp : Nat) : Value := .func (.func 158) #[] #[.pointer (some ⟨xw, 0, none⟩), .pointer (some ⟨xi, 0, none⟩), .pointer (some ⟨xo, 0, none⟩), .pointer (some ⟨xp, 0, none⟩)]
/-- The rules made so far. -/
def RulesL (W : World) (lo P K : Nat) (vs0 : List Vl) (x : Nat) (rv : Value) (rs : List Value) : Prop :=
  ∀ j u, rs[j]? = some u → ∃ lo' hi' xw xi xo xp go a mp cp fv, lo ≤ lo' ∧ hi' ≤ W.heap.size ∧ (∀ g, rv.ownBlock = some g → g < lo' ∨ hi' ≤ g) ∧ u = rclo xw xi xo xp ∧ RuleIn W lo' hi' P K vs0 (x + 1 + j) xw xi xo xp go a mp cp fv
theorem RulesL.chg {W W' : World} {Q : Nat → Prop} {lo P K : Nat} {vs0 : List Vl} {x : Nat} {rv rv' : Value} {rs : List Value} (f : RulesL W lo P K vs0 x rv rs) (k : Chg Q W W') (hQ : ∀ b, b < W.heap.size → Q b → b < lo ∨ rv.ownBlock = some b) (hr : ∀ g, rv'.ownBlock = some g → rv.ownBlock = some g ∨ W.heap.size ≤ g) : RulesL W' lo P K vs0 x rv' rs := fun j u hu => by
  obtain ⟨lo', hi', xw, xi, xo, xp, go, a, mp, cp, fv, h1, h2, h3, h4, h5⟩ := f j u hu
  refine ⟨lo', hi', xw, xi, xo, xp, go, a, mp, cp, fv, h1, Nat.le_trans h2 k.size, fun g hg => ?_, h4, h5.mono ((Same.refl h2).chg k (fun b l h c => ?_)) (Nat.le_refl _) (Nat.le_refl _)⟩
  · rcases hr g hg with c | c
    · exact h3 g c
    · exact .inr (by omega)
  · rcases hQ b (by omega) c with e | e
    · omega
    · have := h3 b e; omega
theorem RulesL.add {W : World} {lo lo' hi' P K : Nat} {vs0 : List Vl} {x m : Nat} {rv : Value} {rs : List Value} {xw xi xo xp go : Nat} {a : Option Addr} {mp cp : Nat} {fv : Nat → Value} (f : RulesL W lo P K vs0 x rv rs) (hm : rs.length = m) (h1 : lo ≤ lo') (h2 : hi' ≤ W.heap.size) (h3 : ∀ g, rv.ownBlock = some g → g < lo' ∨ hi' ≤ g) (h5 : RuleIn W lo' hi' P K vs0 (x + 1 + m) xw xi xo xp go a mp cp fv) : RulesL W lo P K vs0 x rv (rs ++ [rclo xw xi xo xp]) := fun j u hu => by
  by_cases hj : j < rs.length
  · rw [List.getElem?_append_left hj] at hu
    exact f j u hu
  · rw [List.getElem?_append_right (by omega)] at hu
    have hj' := (List.getElem?_eq_some_iff.1 hu).1
    simp at hj'
    obtain rfl : j = m := by omega
    rw [hm, Nat.sub_self] at hu
    injection hu with hu
    exact ⟨lo', hi', xw, xi, xo, xp, go, a, mp, cp, fv, h1, h2, h3, hu.symm, h5⟩
theorem infoFn : (Try.prog.info? 1).map (fun i => (i.zero, i.size, i.bytes)) = some (some .nilFunc, 1, 8) := by kernel_rfl
/-- What newBackward holds in its loop. -/
structure NB (W w5 : World) (lo P K A S n : Nat) (u1 u3 vv rv : Value) (vs0 : List Vl) (x m base : Nat) (R : Option Nat) (rs : List Value) : Prop where
  bs : BS W P u1 u3 vs0 (cellsV vs0) base R vv
  bk : BK W K P A S n rv (actM vs0 x m) (List.replicate n (-1))
  row : W.ownsRow lo 1 1 rv m rs
  rl : RulesL W lo P K vs0 x rv rs
  ch : Chg (fun b => b = K ∨ b = A ∨ lo ≤ b) w5 W
  sz : lo ≤ W.heap.size
theorem NB.keep {W W' w5 : World} {lo P K A S n : Nat} {u1 u3 vv rv : Value} {vs0 : List Vl} {x m base : Nat} {R : Option Nat} {rs : List Value} (f : NB W w5 lo P K A S n u1 u3 vv rv vs0 x m base R rs) (k : Kept 0 0 W W') : NB W' w5 lo P K A S n u1 u3 vv rv vs0 x m base R rs :=
  ⟨BS.keep f.bs k, f.bk.keep k, own_keepJ f.row k, f.rl.chg (k.chg (S := fun _ => False)) (fun _ _ h => h.elim) (fun _ h => .inl h), Chg.andThen f.ch k.chg, Nat.le_trans f.sz k.size⟩
/-- What stays as it is: the blocks below lo. -/
structure NbC (lo P K A S : Nat) (R : Option Nat) : Prop where
  dj : Dj P K A S R
  p : P < lo
  k : K < lo
  a : A < lo
  s : S < lo
  r : ∀ b, R = some b → b < lo
/-- The active mark of value x + 1 + m is laid. -/
theorem NB.mark {W w5 : World} {lo P K A S n : Nat} {u1 u3 vv rv : Value} {vs0 : List Vl} {x m base : Nat} {R : Option Nat} {rs : List Value} (f : NB W w5 lo P K A S n u1 u3 vv rv vs0 x m base R rs) (c : NbC lo P K A S R) (b : Bool) (hb : b = reachB (actM vs0 x m) (vs0.getD (x + 1 + m) Vl.zero)) : BS (W.setCell ⟨A, x + 1 + m, none⟩ (.bool b)) P u1 u3 vs0 (cellsV vs0) base R vv ∧ BK (W.setCell ⟨A, x + 1 + m, none⟩ (.bool b)) K P A S n rv (actM vs0 x (m + 1)) (List.replicate n (-1)) ∧ (W.setCell ⟨A, x + 1 + m, none⟩ (.bool b)).ownsRow lo 1 1 rv m rs ∧ RulesL (W.setCell ⟨A, x + 1 + m, none⟩ (.bool b)) lo P K vs0 x rv rs ∧ Chg (fun b => b = K ∨ b = A ∨ lo ≤ b) w5 (W.setCell ⟨A, x + 1 + m, none⟩ (.bool b)) := by
  have k := chg_setCell (S := fun b => b = A) W A (x + 1 + m) (.bool b) rfl
  refine ⟨BS.setS f.bs c.dj.ap c.dj.ra, ?_, own_setCell f.row (fun e => by have := (own_blkV f.row e).1; have := c.a; omega), f.rl.chg k (fun q _ h => .inl (by have := c.a; omega)) (fun _ h => .inl h), Chg.andThen f.ch (chg_setCell W A _ _ (.inr (.inl rfl)))⟩
  have := f.bk.setA c.dj (x + 1 + m) b
  rw [actM, ← hb]
  exact this
def NbO (w : World) (P n : Nat) (u1 u3 : Value) (vs0 : List Vl) (x m base : Nat) (R : Option Nat) (vv : Value) (e : Ending) (w' : World) : Prop :=
  ∃ lo K A S rv rs, e = .returned (.pointer (some ⟨K, 0, none⟩)) ∧ NB w' w' lo P K A S n u1 u3 vv rv vs0 x m base R rs ∧ NbC lo P K A S R ∧ (w.heap.size ≤ K ∧ w.heap.size ≤ A ∧ w.heap.size ≤ S ∧ w.heap.size ≤ lo) ∧ Kept 0 0 w w'
end Go.Proofs.Ytdkjdlimcnddkaa

namespace Go.Proofs.Ytdkjdlimcnddkaa
open Go.RowKit Flt
attribute [local go_sem] alloc_drewN setCell_drewN run_store_float run_store_func
/-- The new walk back, before its first mark. -/
structure NB0 (w wx : World) (P n K A S : Nat) : Prop where
  bk : BK wx K P A S n (.slice none 0 0) (List.replicate n false) (List.replicate n (-1))
  kp : Kept 0 0 w wx
  lo_ : w.heap.size ≤ K ∧ w.heap.size ≤ A ∧ w.heap.size ≤ S
  ne : K ≠ A ∧ K ≠ S ∧ A ≠ S
theorem nb0_box (w w3 : World) (P n A S : Nat) (k : Kept 0 0 w w3) (ha : BR w3 A (List.replicate n false)) (hs : IR w3 S (List.replicate n (-1))) (h1 : w.heap.size ≤ A) (h2 : w.heap.size ≤ S) (h3 : A ≠ S) : NB0 w (w3.alloc (.cells #[.pointer (some ⟨P, 0, none⟩), .slice (some ⟨A, 0, none⟩) n n, .slice (some ⟨S, 0, none⟩) n n, .slice none 0 0] 172)) P n w3.heap.size A S := by
  have kb := kept_alloc 0 0 w3 (.cells #[.pointer (some ⟨P, 0, none⟩), .slice (some ⟨A, 0, none⟩) n n, .slice (some ⟨S, 0, none⟩) n n, .slice none 0 0] 172)
  have hA := ha.lt
  have hS := hs.lt
  refine ⟨⟨by simp, fun o => World.frozen?_alloc_at _ _ w3.heap.size o rfl, ?_, ?_, ?_, ?_, by simp, by simp, BR.keep ha kb (.inr (.inr (Nat.le_refl _))), IR.keep hs kb (.inr (.inr (Nat.le_refl _)))⟩, k.trans kb, ⟨k.size, h1, h2⟩, by omega, by omega, h3⟩
  all_goals (rw [World.cell?_alloc_at _ _ w3.heap.size _ rfl]; rfl)
theorem BS.chg {W W' : World} {Q : Nat → Prop} {P : Nat} {u1 u3 : Value} {us : List Vl} {c : Int} {base : Nat} {R : Option Nat} {vv : Value} (h : BS W P u1 u3 us c base R vv) (k : Chg Q W W') (hP : ¬ Q P) (hR : ∀ b, R = some b → ¬ Q b) : BS W' P u1 u3 us c base R vv := by
  have e : ∀ q, W'.cell? ⟨P, q, none⟩ = W.cell? ⟨P, q, none⟩ := fun q => k.cell (p := ⟨P, q, none⟩) h.lt hP
  exact ⟨Nat.lt_of_lt_of_le h.lt k.size, fun q => by rw [k.frozen (p := ⟨P, q, none⟩) h.lt hP]; exact h.free q, by rw [e]; exact h.c0, by rw [e]; exact h.c1, by rw [e]; exact h.c2, by rw [e]; exact h.c3, own_keepC h.own k (fun g hg => hR g (by rw [← h.row]; exact hg)), h.row, h.ne, Nat.le_trans h.sz k.size⟩
/-- A rule is appended. -/
theorem NB.push {wc w6 w9 w5 : World} {lo P K A S n : Nat} {u1 u3 vv rv : Value} {vs0 : List Vl} {x m base : Nat} {R : Option Nat} {rs : List Value} {xw xi xo xp go : Nat} {a : Option Addr} {mp cp : Nat} {fv : Nat → Value} {o : Obj} {g9 cap9 : Nat}
    (h : BS wc P u1 u3 vs0 (cellsV vs0) base R vv ∧ BK wc K P A S n rv (actM vs0 x (m + 1)) (List.replicate n (-1)) ∧ wc.ownsRow lo 1 1 rv m rs ∧ RulesL wc lo P K vs0 x rv rs ∧ Chg (fun b => b = K ∨ b = A ∨ lo ≤ b) w5 wc ∧ lo ≤ wc.heap.size) (c : NbC lo P K A S R) (k6 : Kept 0 0 wc w6) (ri : RuleIn w6 wc.heap.size w6.heap.size P K vs0 (x + 1 + m) xw xi xo xp go a mp cp fv)
    (hown : w9.ownsRow lo 1 1 (.slice (some ⟨g9, 0, none⟩) (m + 1) cap9) (m + 1) (rs ++ [rclo xw xi xo xp])) (hg : (w6.alloc o).grownBy w9 rv.ownBlock) (ha : rv.ownBlock = some g9 ∨ g9 = w6.heap.size + 1) :
    NB (w9.setCell ⟨K, 3, none⟩ (.slice (some ⟨g9, 0, none⟩) (m + 1) cap9)) w5 lo P K A S n u1 u3 vv (.slice (some ⟨g9, 0, none⟩) (m + 1) cap9) vs0 x (m + 1) base R (rs ++ [rclo xw xi xo xp]) := by
  obtain ⟨hbs, hbk, hrow, hrl, hch, hsz⟩ := h
  have ka := kept_alloc 0 0 w6 o
  have kk := k6.trans ka
  have cg := chg_grow hg
  have hrb : ∀ b, rv.ownBlock = some b → lo ≤ b ∧ b < wc.heap.size := fun b hb => own_blkV hrow hb
  have kc := chg_setCell (S := fun b => b = K) w9 K 3 (.slice (some ⟨g9, 0, none⟩) (m + 1) cap9) rfl
  have hlen : rs.length = m := by have := hrow.1; omega
  have hz6 := k6.size
  have hbk9 : BK w9 K P A S n rv (actM vs0 x (m + 1)) (List.replicate n (-1)) := (hbk.keep kk).keepC cg (fun e => by have := hrb _ e; have := c.k; omega) (fun e => by have := hrb _ e; have := c.a; omega) (fun e => by have := hrb _ e; have := c.s; omega)
  have hbs9 : BS w9 P u1 u3 vs0 (cellsV vs0) base R vv := (BS.keep hbs kk).chg cg (fun e => by have := hrb _ e; have := c.p; omega) (fun b hb e => by have := hrb _ e; have := c.r b hb; omega)
  have hrl6 : RulesL w6 lo P K vs0 x rv (rs ++ [rclo xw xi xo xp]) := (hrl.chg (k6.chg (S := fun _ => False)) (fun _ _ h => h.elim) (fun _ h => .inl h)).add hlen hsz (Nat.le_refl _) (fun b hb => .inl (hrb b hb).2) ri
  have hrla := hrl6.chg (rv' := rv) (ka.chg (S := fun _ => False)) (fun _ _ h => h.elim) (fun _ h => .inl h)
  have hza : (w6.alloc o).heap.size = w6.heap.size + 1 := by simp
  have hrl9 : RulesL w9 lo P K vs0 x (.slice (some ⟨g9, 0, none⟩) (m + 1) cap9) (rs ++ [rclo xw xi xo xp]) := hrla.chg cg (fun b _ e => .inr e) (fun b hb => by
    have e : g9 = b := by simpa [Value.ownBlock] using hb
    subst e
    rcases ha with q | q
    · exact .inl q
    · exact .inr (by omega))
  have hg9 := own_blkV hown (k := g9) rfl
  refine ⟨hbs9.chg kc (fun e => c.dj.kp e.symm) (fun b hb e => by have := c.dj.rk; rw [hb, e] at this; exact this rfl), hbk9.setR c.dj _, own_setCell hown (fun e => by simp [Value.ownBlock] at e; have := c.k; omega), hrl9.chg kc (fun b _ e => .inl (by have := c.k; omega)) (fun _ h => .inl h), Chg.andThen hch (Chg.andThen kk.chg (Chg.andThen (cg.mono fun b _ e => .inr (.inr (hrb b e).1)) (kc.mono fun b _ e => .inl e))), ?_⟩
  have := cg.size
  have := kc.size
  omega
end Go.Proofs.Ytdkjdlimcnddkaa
