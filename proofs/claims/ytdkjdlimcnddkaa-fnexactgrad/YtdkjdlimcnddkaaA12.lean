import Derived.Test.YtdkjdlimcnddkaaA11
import Derived.Test.YtdkjdlimcnddkaaA07
import Derived.Deep.QuietTactic
import Derived.BigQuiet
namespace Go.Proofs.Ytdkjdlimcnddkaa
open Go.RowKit Flt
attribute [local go_sem] alloc_drewN setCell_drewN run_store_float

def mulM (v : Vl) (ta tb : Int) (N : Nat) : List Vl × Int :=
  if ta = -1 then (if tb = -1 then ([], -1) else ([vput 4 v.len v.a tb 0], (N : Int)))
  else (if tb = -1 then ([vput 4 v.len ta v.b 0], (N : Int)) else ([vput 4 v.len ta v.b 0, vput 4 v.len v.a tb 0, vput 2 v.len N ((N + 1 : Nat) : Int) 0], ((N + 2 : Nat) : Int)))
def divM (i : Int) (v : Vl) (ta tb : Int) (N : Nat) : List Vl × Int :=
  if ta = -1 then (if tb = -1 then ([], -1) else ([vput 4 v.len i tb 0, vput 5 v.len N v.b 0, vput 6 v.len ((N + 1 : Nat) : Int) 0 0], ((N + 2 : Nat) : Int)))
  else (if tb = -1 then ([vput 5 v.len ta v.b 0], (N : Int)) else ([vput 5 v.len ta v.b 0, vput 4 v.len i tb 0, vput 5 v.len ((N + 1 : Nat) : Int) v.b 0, vput 3 v.len N ((N + 2 : Nat) : Int) 0], ((N + 3 : Nat) : Int)))

theorem BS.keep {w w' : World} {P : Nat} {u1 u3 : Value} {vs : List Vl} {c : Int} {base : Nat} {R : Option Nat} {vv : Value} (h : BS w P u1 u3 vs c base R vv) (k : Kept 0 0 w w') : BS w' P u1 u3 vs c base R vv :=
  ⟨Nat.lt_of_lt_of_le h.lt k.size, fun o => by rw [k.frozen (p := ⟨P, o, none⟩) h.lt (by omega)]; exact h.free o, kcell k h.lt h.c0, kcell k h.lt h.c1, kcell k h.lt h.c2, kcell k h.lt h.c3, own_keepJ h.own k, h.row, h.ne, Nat.le_trans h.sz k.size⟩
theorem BS.far {w : World} {P : Nat} {u1 u3 : Value} {vs : List Vl} {c : Int} {base : Nat} {R : Option Nat} {vv : Value} (h : BS w P u1 u3 vs c base R vv) : w.heap.size ≠ P ∧ R ≠ some w.heap.size :=
  ⟨by have := h.lt; omega, fun e => by have := (own_blkV h.own (h.row.trans e)).2; omega⟩
theorem At.step {w w' : World} {P : Nat} {R R' : Option Nat} {B o : Nat} {v : Vl} (a : At w B o v) (s : Stp P R w R' w') (hB : B < w.heap.size) (hf : B ≠ P ∧ R ≠ some B) : At w' B o v := by
  have e : ∀ k, w'.cell? ⟨B, k, none⟩ = w.cell? ⟨B, k, none⟩ := fun k => s.chg.cell (p := ⟨B, k, none⟩) hB (by rintro (c | c); exact hf.1 c; exact hf.2 c)
  exact ⟨by rw [e]; exact a.c0, by rw [e]; exact a.c1, by rw [e]; exact a.c2, by rw [e]; exact a.c3, by rw [e]; exact a.c4, by rw [e]; exact a.c5⟩
structure Bnd0 (vs : List Vl) (c : Int) (n : Int) : Prop where
  l : vs.length ≤ 800000
  c0 : -800000000 ≤ c
  c1 : c ≤ 800000000
  n0 : -1000 ≤ n
  n1 : n ≤ 1000
theorem Bd.cast {w w' : World} {P : Nat} {u1 u3 : Value} {vs : List Vl} {c : Int} {base : Nat} {R : Option Nat} {M M' : List Vl × Int} {e : Ending} (e1 : M = M') (h : Bd w P u1 u3 vs c base R M e w') : Bd w P u1 u3 vs c base R M' e w' := e1 ▸ h
theorem sumM_pq {n p q : Int} {N : Nat} (hp : p ≠ -1) (hq : q ≠ -1) : sumM n p q N = ([vput 2 n p q 0], (N : Int)) := by unfold sumM; rw [if_neg hp, if_neg hq]
theorem sumM_p {n p : Int} {N : Nat} (hp : p ≠ -1) : sumM n p (-1) N = ([], p) := by unfold sumM; rw [if_neg hp, if_pos rfl]
theorem sumM_q {n q : Int} {N : Nat} : sumM n (-1) q N = ([], q) := by unfold sumM; rw [if_pos rfl]
theorem difM_pq {n p q : Int} {N : Nat} (hp : p ≠ -1) (hq : q ≠ -1) : difM n p q N = ([vput 3 n p q 0], (N : Int)) := by unfold difM; rw [if_neg hq, if_neg hp]
theorem difM_p {n p : Int} {N : Nat} : difM n p (-1) N = ([], p) := by unfold difM; rw [if_pos rfl]
theorem difM_q {n q : Int} {N : Nat} (hq : q ≠ -1) : difM n (-1) q N = ([vput 6 n q 0 0], (N : Int)) := by unfold difM; rw [if_neg hq, if_pos rfl]

end Go.Proofs.Ytdkjdlimcnddkaa

namespace Go.Proofs.Ytdkjdlimcnddkaa
open Go.RowKit Flt
attribute [local go_sem] alloc_drewN setCell_drewN run_store_float

/-- The builder's values, read. -/
theorem BS.read {w : World} {P : Nat} {u1 u3 : Value} {vs : List Vl} {c : Int} {base : Nat} {R : Option Nat} {vv : Value} (h : BS w P u1 u3 vs c base R vv) (hn : 0 < vs.length) :
    ∃ g cap, vv = .slice (some ⟨g, 0, none⟩) vs.length cap ∧ g < w.heap.size ∧ ∀ i, i < vs.length → At w g (i * 6) (vs.getD i Vl.zero) := by
  obtain ⟨g, cap, e, _, hg, _, hA⟩ := row_at h.own hn rfl
  exact ⟨g, cap, e, hg, hA.at_⟩

end Go.Proofs.Ytdkjdlimcnddkaa

namespace Go.Proofs.Ytdkjdlimcnddkaa
open Go.RowKit Flt
attribute [local go_sem] alloc_drewN setCell_drewN run_store_float

/-- The move of value i, which is v, from those of its operands: what is put behind N values, and the move or -1. -/
def mvM (i : Int) (v : Vl) (ta tb tc : Int) (N : Nat) : List Vl × Int :=
  if ta = -1 ∧ tb = -1 ∧ tc = -1 then ([], -1)
  else if v.op = 2 then sumM v.len ta tb N
  else if v.op = 3 then difM v.len ta tb N
  else if v.op = 4 then mulM v ta tb N
  else if v.op = 5 then divM i v ta tb N
  else if v.op = 7 then ([vput 3 v.len v.a v.b 0] ++ (chM v.len N ta tb (N + 1)).1, (chM v.len N ta tb (N + 1)).2)
  else if v.op = 8 then (if tb = -1 ∧ tc = -1 then ([], -1) else chM v.len v.a tb tc N)
  else if v.op = 13 then ([vput 4 v.len ta i 0], (N : Int))
  else ([vput v.op v.len ta 0 v.c], (N : Int))
/-- The moves of the first q operands. -/
def ovs (v : Vl) (mv : List Int) (q j : Nat) : Int := if j < q then mv.getD (fld v j).toNat 0 else -1
/-- An array of three ints of the call's own. -/
structure A3 (W : World) (A : Nat) (x : Nat → Int) : Prop where
  lt : A < W.heap.size
  free : ∀ o, W.frozen? ⟨A, o, none⟩ = false
  at_ : ∀ j, j < 3 → W.cell? ⟨A, j, none⟩ = some (.int .i64 (x j))
theorem A3.keep {W W' : World} {A : Nat} {x : Nat → Int} (f : A3 W A x) (q : Kept 0 0 W W') : A3 W' A x :=
  ⟨Nat.lt_of_lt_of_le f.lt q.size, fun o => by rw [q.frozen (p := ⟨A, o, none⟩) f.lt (by omega)]; exact f.free o, fun j hj => kcell q f.lt (f.at_ j hj)⟩
theorem A3.put {W : World} {A : Nat} {v : Vl} {mv : List Int} {q : Nat} (f : A3 W A (ovs v mv q)) (hq : q < 3) : A3 (W.setCell ⟨A, q, none⟩ (.int .i64 (mv.getD (fld v q).toNat 0))) A (ovs v mv (q + 1)) where
  lt := by simpa using f.lt
  free := fun o => by simp [f.free o]
  at_ := fun j hj => by
    by_cases e : j = q
    · subst e
      rw [cell_eq _ _ _ _ _ (f.at_ j hj)]
      unfold ovs
      rw [if_pos (Nat.lt_succ_self _)]
    · rw [cell_ne _ _ _ _ _ _ (.inr (Ne.symm e)), f.at_ j hj]
      unfold ovs
      by_cases c : j < q
      · rw [if_pos c, if_pos (by omega)]
      · rw [if_neg c, if_neg (by omega)]
theorem a3_start (w : World) (v : Vl) (mv : List Int) (t : TypeId) : A3 (w.alloc (.cells #[.int .i64 (-1), .int .i64 (-1), .int .i64 (-1)] t)) w.heap.size (ovs v mv 0) where
  lt := by simp
  free := fun o => by simp
  at_ := fun j hj => by
    have : j = 0 ∨ j = 1 ∨ j = 2 := by omega
    rcases this with rfl | rfl | rfl <;> simp [ovs]

theorem opsOf_atJ (v : Vl) {q : Nat} (hq : q < cnt v.op) : (opsOf v).getD q 0 = [v.a, v.b, v.c].getD q 0 := by
  unfold opsOf
  rw [List.getD_eq_getElem?_getD, List.getD_eq_getElem?_getD, List.getElem?_take_of_lt hq]
theorem fld_atJ (v : Vl) {q : Nat} (hq : q < 3) : fld v q = [v.a, v.b, v.c].getD q 0 := by
  rcases (by omega : q = 0 ∨ q = 1 ∨ q = 2) with rfl | rfl | rfl <;> rfl
theorem three {a b c : Int} (h : ¬ (a = -1 ∧ b = -1 ∧ c = -1)) : ((a == -1) = false) ∨ ((a == -1) = true ∧ (b == -1) = false) ∨ ((a == -1) = true ∧ (b == -1) = true ∧ (c == -1) = false) := by
  cases h1 : (a == -1)
  · exact .inl rfl
  · cases h2 : (b == -1)
    · exact .inr (.inl ⟨rfl, rfl⟩)
    · cases h3 : (c == -1)
      · exact .inr (.inr ⟨rfl, rfl, rfl⟩)
      · exact absurd ⟨eq_of_beq h1, eq_of_beq h2, eq_of_beq h3⟩ h
theorem two {b c : Int} (h : ¬ (b = -1 ∧ c = -1)) : ((b == -1) = false) ∨ ((b == -1) = true ∧ (c == -1) = false) := by
  cases h2 : (b == -1)
  · exact .inl rfl
  · cases h3 : (c == -1)
    · exact .inr ⟨rfl, rfl⟩
    · exact absurd ⟨eq_of_beq h2, eq_of_beq h3⟩ h
end Go.Proofs.Ytdkjdlimcnddkaa

namespace Go.Proofs.Ytdkjdlimcnddkaa
open Go.RowKit Flt
attribute [local go_sem] alloc_drewN setCell_drewN run_store_float

end Go.Proofs.Ytdkjdlimcnddkaa
