import Derived.Test.YtiiimofkkahobaaDoorP03
import Derived.Deep.QuietTactic
import Derived.BigQuiet
import Derived.Deep.RegionWith
import Derived.Test.YtiiimofkkahobaaDoorP04
import Derived.Test.YtiiimofkkahobaaDoorP09
import Derived.Test.YtiiimofkkahobaaDoorP16
import Derived.Test.YtiiimofkkahobaaDoorP14
import Derived.Test.YtiiimofkkahobaaDoorP10
import Derived.Deep.AppendLies
namespace Go.Proofs.YtiiimofkkahobaaDoor
open Go.RowKit Flt
attribute [local go_sem] alloc_drewN setCell_drewN run_store_float

/-- A step of a code, as data. -/
structure Ste where
  op : Int
  len : Int
  n : Int
  dst : Int
  a : Int
  b : Int
  c : Int
  k : Nat
def Ste.cells (v : Ste) : List Value := [.int .i64 v.op, .int .i64 v.len, .int .i64 v.n, .int .i64 v.dst, .int .i64 v.a, .int .i64 v.b, .int .i64 v.c, .float .f64 v.k]
def Ste.zero : Ste := ⟨0, 0, 0, 0, 0, 0, 0, 0⟩
abbrev Ste.agg (v : Ste) : Value := .agg #[.int .i64 v.op, .int .i64 v.len, .int .i64 v.n, .int .i64 v.dst, .int .i64 v.a, .int .i64 v.b, .int .i64 v.c, .float .f64 v.k]
structure AtT (w : World) (g o : Nat) (v : Ste) : Prop where
  c0 : w.cell? ⟨g, o, none⟩ = some (.int .i64 v.op)
  c1 : w.cell? ⟨g, o + 1, none⟩ = some (.int .i64 v.len)
  c2 : w.cell? ⟨g, o + 2, none⟩ = some (.int .i64 v.n)
  c3 : w.cell? ⟨g, o + 3, none⟩ = some (.int .i64 v.dst)
  c4 : w.cell? ⟨g, o + 4, none⟩ = some (.int .i64 v.a)
  c5 : w.cell? ⟨g, o + 5, none⟩ = some (.int .i64 v.b)
  c6 : w.cell? ⟨g, o + 6, none⟩ = some (.int .i64 v.c)
  c7 : w.cell? ⟨g, o + 7, none⟩ = some (.float .f64 v.k)
structure TA (w : World) (g n : Nat) (vs : List Ste) : Prop where
  len : vs.length = n
  lt : g < w.heap.size
  at_ : ∀ k, k < n → AtT w g (k * 8) (vs.getD k Ste.zero)
  free : ∀ o, w.frozen? ⟨g, o, none⟩ = false
abbrev put8 (w : World) (g o : Nat) (v : Ste) : World :=
  ((((((((w.setCell ⟨g, o, none⟩ (.int .i64 v.op)).setCell ⟨g, o + 1, none⟩ (.int .i64 v.len)).setCell ⟨g, o + 2, none⟩ (.int .i64 v.n)).setCell ⟨g, o + 3, none⟩ (.int .i64 v.dst)).setCell ⟨g, o + 4, none⟩ (.int .i64 v.a)).setCell ⟨g, o + 5, none⟩ (.int .i64 v.b)).setCell ⟨g, o + 6, none⟩ (.int .i64 v.c)).setCell ⟨g, o + 7, none⟩ (.float .f64 v.k))
theorem put8_out (w : World) (g o g' b : Nat) (v : Ste) (h : g ≠ g' ∨ b < o ∨ o + 8 ≤ b) : (put8 w g o v).cell? ⟨g', b, none⟩ = w.cell? ⟨g', b, none⟩ := by
  unfold put8
  rw [cell_ne _ _ _ _ _ _ (by omega), cell_ne _ _ _ _ _ _ (by omega), cell_ne _ _ _ _ _ _ (by omega), cell_ne _ _ _ _ _ _ (by omega), cell_ne _ _ _ _ _ _ (by omega), cell_ne _ _ _ _ _ _ (by omega), cell_ne _ _ _ _ _ _ (by omega), cell_ne _ _ _ _ _ _ (by omega)]
theorem put8_at (w : World) (g o : Nat) (u v : Ste) (h : AtT w g o u) : AtT (put8 w g o v) g o v := by
  unfold put8
  refine ⟨?_, ?_, ?_, ?_, ?_, ?_, ?_, ?_⟩
  · rw [cell_ne _ _ _ _ _ _ (by omega), cell_ne _ _ _ _ _ _ (by omega), cell_ne _ _ _ _ _ _ (by omega), cell_ne _ _ _ _ _ _ (by omega), cell_ne _ _ _ _ _ _ (by omega), cell_ne _ _ _ _ _ _ (by omega), cell_ne _ _ _ _ _ _ (by omega)]
    exact cell_eq _ _ _ _ _ (h.c0)
  · rw [cell_ne _ _ _ _ _ _ (by omega), cell_ne _ _ _ _ _ _ (by omega), cell_ne _ _ _ _ _ _ (by omega), cell_ne _ _ _ _ _ _ (by omega), cell_ne _ _ _ _ _ _ (by omega), cell_ne _ _ _ _ _ _ (by omega)]
    exact cell_eq _ _ _ _ _ (by rw [cell_ne _ _ _ _ _ _ (by omega)]; exact h.c1)
  · rw [cell_ne _ _ _ _ _ _ (by omega), cell_ne _ _ _ _ _ _ (by omega), cell_ne _ _ _ _ _ _ (by omega), cell_ne _ _ _ _ _ _ (by omega), cell_ne _ _ _ _ _ _ (by omega)]
    exact cell_eq _ _ _ _ _ (by rw [cell_ne _ _ _ _ _ _ (by omega), cell_ne _ _ _ _ _ _ (by omega)]; exact h.c2)
  · rw [cell_ne _ _ _ _ _ _ (by omega), cell_ne _ _ _ _ _ _ (by omega), cell_ne _ _ _ _ _ _ (by omega), cell_ne _ _ _ _ _ _ (by omega)]
    exact cell_eq _ _ _ _ _ (by rw [cell_ne _ _ _ _ _ _ (by omega), cell_ne _ _ _ _ _ _ (by omega), cell_ne _ _ _ _ _ _ (by omega)]; exact h.c3)
  · rw [cell_ne _ _ _ _ _ _ (by omega), cell_ne _ _ _ _ _ _ (by omega), cell_ne _ _ _ _ _ _ (by omega)]
    exact cell_eq _ _ _ _ _ (by rw [cell_ne _ _ _ _ _ _ (by omega), cell_ne _ _ _ _ _ _ (by omega), cell_ne _ _ _ _ _ _ (by omega), cell_ne _ _ _ _ _ _ (by omega)]; exact h.c4)
  · rw [cell_ne _ _ _ _ _ _ (by omega), cell_ne _ _ _ _ _ _ (by omega)]
    exact cell_eq _ _ _ _ _ (by rw [cell_ne _ _ _ _ _ _ (by omega), cell_ne _ _ _ _ _ _ (by omega), cell_ne _ _ _ _ _ _ (by omega), cell_ne _ _ _ _ _ _ (by omega), cell_ne _ _ _ _ _ _ (by omega)]; exact h.c5)
  · rw [cell_ne _ _ _ _ _ _ (by omega)]
    exact cell_eq _ _ _ _ _ (by rw [cell_ne _ _ _ _ _ _ (by omega), cell_ne _ _ _ _ _ _ (by omega), cell_ne _ _ _ _ _ _ (by omega), cell_ne _ _ _ _ _ _ (by omega), cell_ne _ _ _ _ _ _ (by omega), cell_ne _ _ _ _ _ _ (by omega)]; exact h.c6)
  · exact cell_eq _ _ _ _ _ (by rw [cell_ne _ _ _ _ _ _ (by omega), cell_ne _ _ _ _ _ _ (by omega), cell_ne _ _ _ _ _ _ (by omega), cell_ne _ _ _ _ _ _ (by omega), cell_ne _ _ _ _ _ _ (by omega), cell_ne _ _ _ _ _ _ (by omega), cell_ne _ _ _ _ _ _ (by omega)]; exact h.c7)
theorem put8_kept (w : World) (g o : Nat) (v : Ste) : Kept g (g + 1) w (put8 w g o v) := by
  unfold put8
  have k : ∀ (w : World) (a : Nat) (u : Value), Kept g (g + 1) w (w.setCell ⟨g, a, none⟩ u) := fun w a u => kept_setCell w ⟨g, a, none⟩ u (.inl ⟨Nat.le_refl _, Nat.lt_succ_self _⟩)
  exact ((((((((k _ _ _).trans (k _ _ _)).trans (k _ _ _)).trans (k _ _ _)).trans (k _ _ _)).trans (k _ _ _)).trans (k _ _ _)).trans (k _ _ _))
theorem AtT.keep {w w' : World} {g o l h : Nat} {v : Ste} (a : AtT w g o v) (hg : g < w.heap.size) (k : Kept l h w w') (hd : g < l ∨ h ≤ g ∨ h ≤ l) : AtT w' g o v := by
  have e : ∀ b, w'.cell? ⟨g, b, none⟩ = w.cell? ⟨g, b, none⟩ := fun b => k.cell (p := ⟨g, b, none⟩) hg (by show ¬ (l ≤ g ∧ g < h); omega)
  exact ⟨by rw [e]; exact a.c0, by rw [e]; exact a.c1, by rw [e]; exact a.c2, by rw [e]; exact a.c3, by rw [e]; exact a.c4, by rw [e]; exact a.c5, by rw [e]; exact a.c6, by rw [e]; exact a.c7⟩
theorem TA.keep {w w' : World} {g n l h : Nat} {vs : List Ste} (f : TA w g n vs) (k : Kept l h w w') (hd : g < l ∨ h ≤ g ∨ h ≤ l) : TA w' g n vs :=
  ⟨f.len, Nat.lt_of_lt_of_le f.lt k.size, fun i hi => (f.at_ i hi).keep f.lt k hd, fun o => by rw [k.frozen (p := ⟨g, o, none⟩) f.lt (by show ¬ (l ≤ g ∧ g < h); omega)]; exact f.free o⟩
theorem TA.step {w : World} {g n : Nat} {vs : List Ste} (f : TA w g n vs) (k : Nat) (hk : k < n) (v : Ste) : TA (put8 w g (k * 8) v) g n (vs.set k v) where
  len := by rw [List.length_set]; exact f.len
  lt := Nat.lt_of_lt_of_le f.lt (put8_kept w g (k * 8) v).size
  at_ := fun i hi => by
    rw [List.getD_eq_getElem?_getD, List.getElem?_set]
    by_cases e : k = i
    · subst e
      rw [if_pos rfl, if_pos (by rw [f.len]; exact hk)]
      exact put8_at w g (k * 8) _ v (f.at_ k hk)
    · rw [if_neg e, ← List.getD_eq_getElem?_getD]
      have a := f.at_ i hi
      have o : ∀ b, i * 8 ≤ b → b < i * 8 + 8 → (put8 w g (k * 8) v).cell? ⟨g, b, none⟩ = w.cell? ⟨g, b, none⟩ := fun b h1 h2 => put8_out w g (k * 8) g b v (by right; omega)
      exact ⟨by rw [o _ (by omega) (by omega)]; exact a.c0, by rw [o _ (by omega) (by omega)]; exact a.c1, by rw [o _ (by omega) (by omega)]; exact a.c2, by rw [o _ (by omega) (by omega)]; exact a.c3, by rw [o _ (by omega) (by omega)]; exact a.c4, by rw [o _ (by omega) (by omega)]; exact a.c5, by rw [o _ (by omega) (by omega)]; exact a.c6, by rw [o _ (by omega) (by omega)]; exact a.c7⟩
  free := fun o => by simp [put8, f.free o]
structure TS (w : World) (lo hi : Nat) (a : Option Addr) (n : Nat) (vs : List Ste) : Prop where
  len : vs.length = n
  lt : ∀ v ∈ vs, v.k < 18446744073709551616
  at_ : n = 0 ∨ ∃ g off, a = some ⟨g, off, none⟩ ∧ lo ≤ g ∧ g < hi ∧ g < w.heap.size ∧ ∀ k, k < n → AtT w g (off + k * 8) (vs.getD k Ste.zero)
theorem TS.keep {w w' : World} {lo hi l h : Nat} {a : Option Addr} {n : Nat} {vs : List Ste} (f : TS w lo hi a n vs) (k : Kept l h w w') (hd : hi ≤ l ∨ h ≤ lo ∨ h ≤ l) : TS w' lo hi a n vs :=
  ⟨f.len, f.lt, by
    rcases f.at_ with h0 | ⟨g, off, e, h1, h2, h3, h4⟩
    · exact .inl h0
    · exact .inr ⟨g, off, e, h1, h2, Nat.lt_of_lt_of_le h3 k.size, fun j hj => (h4 j hj).keep h3 k (by omega)⟩⟩
theorem TS.mono {w : World} {lo hi lo' hi' : Nat} {a : Option Addr} {n : Nat} {vs : List Ste} (f : TS w lo hi a n vs) (h1 : lo' ≤ lo) (h2 : hi ≤ hi') : TS w lo' hi' a n vs :=
  ⟨f.len, f.lt, by
    rcases f.at_ with h0 | ⟨g, off, e, q1, q2, q3, q4⟩
    · exact .inl h0
    · exact .inr ⟨g, off, e, by omega, by omega, q3, q4⟩⟩
theorem TA.ss {w : World} {g n : Nat} {vs : List Ste} (f : TA w g n vs) (hl : ∀ v ∈ vs, v.k < 18446744073709551616) : TS w 0 w.heap.size (some ⟨g, 0, none⟩) n vs :=
  ⟨f.len, hl, .inr ⟨g, 0, rfl, Nat.zero_le _, f.lt, f.lt, fun k hk => by rw [Nat.zero_add]; exact f.at_ k hk⟩⟩
theorem set_takeSte (xs ys : List Ste) (k : Nat) (hk : k < xs.length) (hl : ys.length = xs.length) :
    (xs.take k ++ ys.drop k).set k (xs.getD k Ste.zero) = xs.take (k + 1) ++ ys.drop (k + 1) := by
  apply List.ext_getElem?
  intro i
  simp only [List.getElem?_set, List.length_append, List.length_take, List.length_drop, List.getElem?_append, List.getElem?_take, List.getElem?_drop, List.getD_eq_getElem?_getD]
  rcases Nat.lt_trichotomy i k with h | h | h
  · rw [if_neg (by omega), if_pos (by omega), if_pos (by omega), if_pos (by omega), if_pos (by omega)]
  · subst h
    rw [if_pos rfl, if_pos (by omega), if_pos (by omega), if_pos (by omega), List.getElem?_eq_getElem hk]; rfl
  · rw [if_neg (by omega), if_neg (by omega), if_neg (by omega)]
    congr 1; omega
theorem getKSte {vs : List Ste} (h : ∀ v ∈ vs, v.k < 18446744073709551616) (k : Nat) : (vs.getD k Ste.zero).k < 18446744073709551616 := by
  rw [List.getD_eq_getElem?_getD]
  by_cases hk : k < vs.length
  · rw [List.getElem?_eq_getElem hk]; exact h _ (List.getElem_mem _)
  · rw [List.getElem?_eq_none (by omega)]; exact (by decide : Ste.zero.k < 18446744073709551616)
end Go.Proofs.YtiiimofkkahobaaDoor

namespace Go.Proofs.YtiiimofkkahobaaDoor
open Go.RowKit Flt
attribute [local go_sem] alloc_drewN setCell_drewN run_store_float

/-- A run of cells, as data. -/
structure Spn where
  off : Int
  len : Int
def Spn.cells (v : Spn) : List Value := [.int .i64 v.off, .int .i64 v.len]
def Spn.zero : Spn := ⟨0, 0⟩
abbrev Spn.agg (v : Spn) : Value := .agg #[.int .i64 v.off, .int .i64 v.len]
structure AtP (w : World) (g o : Nat) (v : Spn) : Prop where
  c0 : w.cell? ⟨g, o, none⟩ = some (.int .i64 v.off)
  c1 : w.cell? ⟨g, o + 1, none⟩ = some (.int .i64 v.len)
structure PA (w : World) (g n : Nat) (vs : List Spn) : Prop where
  len : vs.length = n
  lt : g < w.heap.size
  at_ : ∀ k, k < n → AtP w g (k * 2) (vs.getD k Spn.zero)
  free : ∀ o, w.frozen? ⟨g, o, none⟩ = false
abbrev put2p (w : World) (g o : Nat) (v : Spn) : World :=
  ((w.setCell ⟨g, o, none⟩ (.int .i64 v.off)).setCell ⟨g, o + 1, none⟩ (.int .i64 v.len))
theorem put2p_out (w : World) (g o g' b : Nat) (v : Spn) (h : g ≠ g' ∨ b < o ∨ o + 2 ≤ b) : (put2p w g o v).cell? ⟨g', b, none⟩ = w.cell? ⟨g', b, none⟩ := by
  unfold put2p
  rw [cell_ne _ _ _ _ _ _ (by omega), cell_ne _ _ _ _ _ _ (by omega)]
theorem put2p_at (w : World) (g o : Nat) (u v : Spn) (h : AtP w g o u) : AtP (put2p w g o v) g o v := by
  unfold put2p
  refine ⟨?_, ?_⟩
  · rw [cell_ne _ _ _ _ _ _ (by omega)]
    exact cell_eq _ _ _ _ _ (h.c0)
  · exact cell_eq _ _ _ _ _ (by rw [cell_ne _ _ _ _ _ _ (by omega)]; exact h.c1)
theorem put2p_kept (w : World) (g o : Nat) (v : Spn) : Kept g (g + 1) w (put2p w g o v) := by
  unfold put2p
  have k : ∀ (w : World) (a : Nat) (u : Value), Kept g (g + 1) w (w.setCell ⟨g, a, none⟩ u) := fun w a u => kept_setCell w ⟨g, a, none⟩ u (.inl ⟨Nat.le_refl _, Nat.lt_succ_self _⟩)
  exact ((k _ _ _).trans (k _ _ _))
theorem AtP.keep {w w' : World} {g o l h : Nat} {v : Spn} (a : AtP w g o v) (hg : g < w.heap.size) (k : Kept l h w w') (hd : g < l ∨ h ≤ g ∨ h ≤ l) : AtP w' g o v := by
  have e : ∀ b, w'.cell? ⟨g, b, none⟩ = w.cell? ⟨g, b, none⟩ := fun b => k.cell (p := ⟨g, b, none⟩) hg (by show ¬ (l ≤ g ∧ g < h); omega)
  exact ⟨by rw [e]; exact a.c0, by rw [e]; exact a.c1⟩
theorem PA.keep {w w' : World} {g n l h : Nat} {vs : List Spn} (f : PA w g n vs) (k : Kept l h w w') (hd : g < l ∨ h ≤ g ∨ h ≤ l) : PA w' g n vs :=
  ⟨f.len, Nat.lt_of_lt_of_le f.lt k.size, fun i hi => (f.at_ i hi).keep f.lt k hd, fun o => by rw [k.frozen (p := ⟨g, o, none⟩) f.lt (by show ¬ (l ≤ g ∧ g < h); omega)]; exact f.free o⟩
theorem PA.step {w : World} {g n : Nat} {vs : List Spn} (f : PA w g n vs) (k : Nat) (hk : k < n) (v : Spn) : PA (put2p w g (k * 2) v) g n (vs.set k v) where
  len := by rw [List.length_set]; exact f.len
  lt := Nat.lt_of_lt_of_le f.lt (put2p_kept w g (k * 2) v).size
  at_ := fun i hi => by
    rw [List.getD_eq_getElem?_getD, List.getElem?_set]
    by_cases e : k = i
    · subst e
      rw [if_pos rfl, if_pos (by rw [f.len]; exact hk)]
      exact put2p_at w g (k * 2) _ v (f.at_ k hk)
    · rw [if_neg e, ← List.getD_eq_getElem?_getD]
      have a := f.at_ i hi
      have o : ∀ b, i * 2 ≤ b → b < i * 2 + 2 → (put2p w g (k * 2) v).cell? ⟨g, b, none⟩ = w.cell? ⟨g, b, none⟩ := fun b h1 h2 => put2p_out w g (k * 2) g b v (by right; omega)
      exact ⟨by rw [o _ (by omega) (by omega)]; exact a.c0, by rw [o _ (by omega) (by omega)]; exact a.c1⟩
  free := fun o => by simp [put2p, f.free o]
structure PS (w : World) (lo hi : Nat) (a : Option Addr) (n : Nat) (vs : List Spn) : Prop where
  len : vs.length = n
  at_ : n = 0 ∨ ∃ g off, a = some ⟨g, off, none⟩ ∧ lo ≤ g ∧ g < hi ∧ g < w.heap.size ∧ ∀ k, k < n → AtP w g (off + k * 2) (vs.getD k Spn.zero)
theorem PS.keep {w w' : World} {lo hi l h : Nat} {a : Option Addr} {n : Nat} {vs : List Spn} (f : PS w lo hi a n vs) (k : Kept l h w w') (hd : hi ≤ l ∨ h ≤ lo ∨ h ≤ l) : PS w' lo hi a n vs :=
  ⟨f.len, by
    rcases f.at_ with h0 | ⟨g, off, e, h1, h2, h3, h4⟩
    · exact .inl h0
    · exact .inr ⟨g, off, e, h1, h2, Nat.lt_of_lt_of_le h3 k.size, fun j hj => (h4 j hj).keep h3 k (by omega)⟩⟩
theorem PS.mono {w : World} {lo hi lo' hi' : Nat} {a : Option Addr} {n : Nat} {vs : List Spn} (f : PS w lo hi a n vs) (h1 : lo' ≤ lo) (h2 : hi ≤ hi') : PS w lo' hi' a n vs :=
  ⟨f.len, by
    rcases f.at_ with h0 | ⟨g, off, e, q1, q2, q3, q4⟩
    · exact .inl h0
    · exact .inr ⟨g, off, e, by omega, by omega, q3, q4⟩⟩
theorem PA.ss {w : World} {g n : Nat} {vs : List Spn} (f : PA w g n vs) : PS w 0 w.heap.size (some ⟨g, 0, none⟩) n vs :=
  ⟨f.len, .inr ⟨g, 0, rfl, Nat.zero_le _, f.lt, f.lt, fun k hk => by rw [Nat.zero_add]; exact f.at_ k hk⟩⟩
theorem set_takeSpn (xs ys : List Spn) (k : Nat) (hk : k < xs.length) (hl : ys.length = xs.length) :
    (xs.take k ++ ys.drop k).set k (xs.getD k Spn.zero) = xs.take (k + 1) ++ ys.drop (k + 1) := by
  apply List.ext_getElem?
  intro i
  simp only [List.getElem?_set, List.length_append, List.length_take, List.length_drop, List.getElem?_append, List.getElem?_take, List.getElem?_drop, List.getD_eq_getElem?_getD]
  rcases Nat.lt_trichotomy i k with h | h | h
  · rw [if_neg (by omega), if_pos (by omega), if_pos (by omega), if_pos (by omega), if_pos (by omega)]
  · subst h
    rw [if_pos rfl, if_pos (by omega), if_pos (by omega), if_pos (by omega), List.getElem?_eq_getElem hk]; rfl
  · rw [if_neg (by omega), if_neg (by omega), if_neg (by omega)]
    congr 1; omega
end Go.Proofs.YtiiimofkkahobaaDoor

namespace Go.Proofs.YtiiimofkkahobaaDoor
open Go.RowKit Flt
attribute [local go_sem] alloc_drewN setCell_drewN run_store_float

abbrev cagg (a1 : Option Addr) (n1 c1 : Nat) (a2 : Option Addr) (n2 c2 : Nat) (a3 : Option Addr) (n3 c3 : Nat) (pk : Int) : Value := .agg #[.slice a1 n1 c1, .slice a2 n2 c2, .slice a3 n3 c3, .int .i64 pk]
/-- A code that came in or lies somewhere: its three lists. -/
structure CS (w : World) (a1 : Option Addr) (n1 : Nat) (a2 : Option Addr) (n2 : Nat) (a3 : Option Addr) (n3 : Nat) (ins : List Int) (ss : List Ste) (os : List Spn) : Prop where
  i : IS w 0 w.heap.size a1 n1 ins
  s : TS w 0 w.heap.size a2 n2 ss
  o : PS w 0 w.heap.size a3 n3 os
theorem CS.keep {w w' : World} {a1 a2 a3 : Option Addr} {n1 n2 n3 : Nat} {ins : List Int} {ss : List Ste} {os : List Spn} (f : CS w a1 n1 a2 n2 a3 n3 ins ss os) (k : Kept 0 0 w w') : CS w' a1 n1 a2 n2 a3 n3 ins ss os :=
  ⟨(f.i.keep k (.inr (.inr (Nat.le_refl _)))).mono (Nat.le_refl _) k.size, (f.s.keep k (.inr (.inr (Nat.le_refl _)))).mono (Nat.le_refl _) k.size, (f.o.keep k (.inr (.inr (Nat.le_refl _)))).mono (Nat.le_refl _) k.size⟩

/-- A code in new memory: three blocks of its own. -/
structure CO (w : World) (lo : Nat) (g1 g2 g3 : Nat) (n2 n3 : Nat) (ins : List Int) (ss : List Ste) (os : List Spn) : Prop where
  i : IR w g1 ins
  s : TA w g2 n2 ss
  o : PA w g3 n3 os
  l1 : lo ≤ g1
  l2 : g1 < g2
  l3 : g2 < g3
theorem CO.cs {w : World} {lo g1 g2 g3 n2 n3 : Nat} {ins : List Int} {ss : List Ste} {os : List Spn} (f : CO w lo g1 g2 g3 n2 n3 ins ss os) (hl : ∀ v ∈ ss, v.k < 18446744073709551616) :
    CS w (some ⟨g1, 0, none⟩) ins.length (some ⟨g2, 0, none⟩) n2 (some ⟨g3, 0, none⟩) n3 ins ss os := ⟨f.i.is, f.s.ss hl, f.o.ss⟩
theorem CO.keep {w w' : World} {lo g1 g2 g3 n2 n3 : Nat} {ins : List Int} {ss : List Ste} {os : List Spn} (f : CO w lo g1 g2 g3 n2 n3 ins ss os) (k : Kept 0 0 w w') : CO w' lo g1 g2 g3 n2 n3 ins ss os :=
  ⟨f.i.keep k (.inr (.inr (Nat.le_refl _))), f.s.keep k (.inr (.inr (Nat.le_refl _))), f.o.keep k (.inr (.inr (Nat.le_refl _))), f.l1, f.l2, f.l3⟩

/-- The three boxes of toCode while it goes. -/
structure TC (W : World) (p : Nat) (b0 b1 b2 b3 s0 s1 s2 s3 : Value) : Prop where
  sz : p + 2 < W.heap.size
  q0 : W.cell? ⟨p, 0, none⟩ = some b0
  q1 : W.cell? ⟨p, 1, none⟩ = some b1
  q2 : W.cell? ⟨p, 2, none⟩ = some b2
  q3 : W.cell? ⟨p, 3, none⟩ = some b3
  r0 : W.cell? ⟨p + 1, 0, none⟩ = some (.slice none 0 0)
  r1 : W.cell? ⟨p + 1, 1, none⟩ = some (.slice none 0 0)
  r2 : W.cell? ⟨p + 1, 2, none⟩ = some (.slice none 0 0)
  r3 : W.cell? ⟨p + 1, 3, none⟩ = some (.int .i64 0)
  o0 : W.cell? ⟨p + 1 + 1, 0, none⟩ = some s0
  o1 : W.cell? ⟨p + 1 + 1, 1, none⟩ = some s1
  o2 : W.cell? ⟨p + 1 + 1, 2, none⟩ = some s2
  o3 : W.cell? ⟨p + 1 + 1, 3, none⟩ = some s3
  f1 : ∀ o, W.frozen? ⟨p + 1, o, none⟩ = false
  f2 : ∀ o, W.frozen? ⟨p + 1 + 1, o, none⟩ = false
theorem TC.keep {W W' : World} {p : Nat} {b0 b1 b2 b3 s0 s1 s2 s3 : Value} (t : TC W p b0 b1 b2 b3 s0 s1 s2 s3) (k : Kept 0 0 W W') : TC W' p b0 b1 b2 b3 s0 s1 s2 s3 := by
  have e : ∀ g o, g ≤ p + 2 → W'.cell? ⟨g, o, none⟩ = W.cell? ⟨g, o, none⟩ := fun g o h => k.cell (p := ⟨g, o, none⟩) (Nat.lt_of_le_of_lt h t.sz) (by omega)
  have f : ∀ g o, g ≤ p + 2 → W'.frozen? ⟨g, o, none⟩ = W.frozen? ⟨g, o, none⟩ := fun g o h => k.frozen (p := ⟨g, o, none⟩) (Nat.lt_of_le_of_lt h t.sz) (by omega)
  exact ⟨Nat.lt_of_lt_of_le t.sz k.size, by rw [e _ _ (by omega)]; exact t.q0, by rw [e _ _ (by omega)]; exact t.q1, by rw [e _ _ (by omega)]; exact t.q2, by rw [e _ _ (by omega)]; exact t.q3, by rw [e _ _ (by omega)]; exact t.r0, by rw [e _ _ (by omega)]; exact t.r1, by rw [e _ _ (by omega)]; exact t.r2, by rw [e _ _ (by omega)]; exact t.r3, by rw [e _ _ (by omega)]; exact t.o0, by rw [e _ _ (by omega)]; exact t.o1, by rw [e _ _ (by omega)]; exact t.o2, by rw [e _ _ (by omega)]; exact t.o3, fun o => by rw [f _ _ (by omega)]; exact t.f1 o, fun o => by rw [f _ _ (by omega)]; exact t.f2 o⟩
theorem TC.put0 {W : World} {p : Nat} {b0 b1 b2 b3 s0 s1 s2 s3 : Value} (t : TC W p b0 b1 b2 b3 s0 s1 s2 s3) (v : Value) : TC (W.setCell ⟨p + 1 + 1, 0, none⟩ v) p b0 b1 b2 b3 v s1 s2 s3 :=
  ⟨by simpa using t.sz, by rw [cell_ne _ _ _ _ _ _ (by omega)]; exact t.q0, by rw [cell_ne _ _ _ _ _ _ (by omega)]; exact t.q1, by rw [cell_ne _ _ _ _ _ _ (by omega)]; exact t.q2, by rw [cell_ne _ _ _ _ _ _ (by omega)]; exact t.q3, by rw [cell_ne _ _ _ _ _ _ (by omega)]; exact t.r0, by rw [cell_ne _ _ _ _ _ _ (by omega)]; exact t.r1, by rw [cell_ne _ _ _ _ _ _ (by omega)]; exact t.r2, by rw [cell_ne _ _ _ _ _ _ (by omega)]; exact t.r3, cell_eq _ _ _ _ _ t.o0, by rw [cell_ne _ _ _ _ _ _ (by omega)]; exact t.o1, by rw [cell_ne _ _ _ _ _ _ (by omega)]; exact t.o2, by rw [cell_ne _ _ _ _ _ _ (by omega)]; exact t.o3, fun o => by simp [t.f1 o], fun o => by simp [t.f2 o]⟩
theorem TC.put1 {W : World} {p : Nat} {b0 b1 b2 b3 s0 s1 s2 s3 : Value} (t : TC W p b0 b1 b2 b3 s0 s1 s2 s3) (v : Value) : TC (W.setCell ⟨p + 1 + 1, 1, none⟩ v) p b0 b1 b2 b3 s0 v s2 s3 :=
  ⟨by simpa using t.sz, by rw [cell_ne _ _ _ _ _ _ (by omega)]; exact t.q0, by rw [cell_ne _ _ _ _ _ _ (by omega)]; exact t.q1, by rw [cell_ne _ _ _ _ _ _ (by omega)]; exact t.q2, by rw [cell_ne _ _ _ _ _ _ (by omega)]; exact t.q3, by rw [cell_ne _ _ _ _ _ _ (by omega)]; exact t.r0, by rw [cell_ne _ _ _ _ _ _ (by omega)]; exact t.r1, by rw [cell_ne _ _ _ _ _ _ (by omega)]; exact t.r2, by rw [cell_ne _ _ _ _ _ _ (by omega)]; exact t.r3, by rw [cell_ne _ _ _ _ _ _ (by omega)]; exact t.o0, cell_eq _ _ _ _ _ t.o1, by rw [cell_ne _ _ _ _ _ _ (by omega)]; exact t.o2, by rw [cell_ne _ _ _ _ _ _ (by omega)]; exact t.o3, fun o => by simp [t.f1 o], fun o => by simp [t.f2 o]⟩
theorem TC.put2 {W : World} {p : Nat} {b0 b1 b2 b3 s0 s1 s2 s3 : Value} (t : TC W p b0 b1 b2 b3 s0 s1 s2 s3) (v : Value) : TC (W.setCell ⟨p + 1 + 1, 2, none⟩ v) p b0 b1 b2 b3 s0 s1 v s3 :=
  ⟨by simpa using t.sz, by rw [cell_ne _ _ _ _ _ _ (by omega)]; exact t.q0, by rw [cell_ne _ _ _ _ _ _ (by omega)]; exact t.q1, by rw [cell_ne _ _ _ _ _ _ (by omega)]; exact t.q2, by rw [cell_ne _ _ _ _ _ _ (by omega)]; exact t.q3, by rw [cell_ne _ _ _ _ _ _ (by omega)]; exact t.r0, by rw [cell_ne _ _ _ _ _ _ (by omega)]; exact t.r1, by rw [cell_ne _ _ _ _ _ _ (by omega)]; exact t.r2, by rw [cell_ne _ _ _ _ _ _ (by omega)]; exact t.r3, by rw [cell_ne _ _ _ _ _ _ (by omega)]; exact t.o0, by rw [cell_ne _ _ _ _ _ _ (by omega)]; exact t.o1, cell_eq _ _ _ _ _ t.o2, by rw [cell_ne _ _ _ _ _ _ (by omega)]; exact t.o3, fun o => by simp [t.f1 o], fun o => by simp [t.f2 o]⟩
theorem TC.put3 {W : World} {p : Nat} {b0 b1 b2 b3 s0 s1 s2 s3 : Value} (t : TC W p b0 b1 b2 b3 s0 s1 s2 s3) (v : Value) : TC (W.setCell ⟨p + 1 + 1, 3, none⟩ v) p b0 b1 b2 b3 s0 s1 s2 v :=
  ⟨by simpa using t.sz, by rw [cell_ne _ _ _ _ _ _ (by omega)]; exact t.q0, by rw [cell_ne _ _ _ _ _ _ (by omega)]; exact t.q1, by rw [cell_ne _ _ _ _ _ _ (by omega)]; exact t.q2, by rw [cell_ne _ _ _ _ _ _ (by omega)]; exact t.q3, by rw [cell_ne _ _ _ _ _ _ (by omega)]; exact t.r0, by rw [cell_ne _ _ _ _ _ _ (by omega)]; exact t.r1, by rw [cell_ne _ _ _ _ _ _ (by omega)]; exact t.r2, by rw [cell_ne _ _ _ _ _ _ (by omega)]; exact t.r3, by rw [cell_ne _ _ _ _ _ _ (by omega)]; exact t.o0, by rw [cell_ne _ _ _ _ _ _ (by omega)]; exact t.o1, by rw [cell_ne _ _ _ _ _ _ (by omega)]; exact t.o2, cell_eq _ _ _ _ _ t.o3, fun o => by simp [t.f1 o], fun o => by simp [t.f2 o]⟩
abbrev put4 (w : World) (g : Nat) (x y z u : Value) : World := (((w.setCell ⟨g, 0, none⟩ x).setCell ⟨g, 1, none⟩ y).setCell ⟨g, 2, none⟩ z).setCell ⟨g, 3, none⟩ u
theorem put4_kept (w : World) (g : Nat) (x y z u : Value) : Kept g (g + 1) w (put4 w g x y z u) := by
  have k : ∀ (w : World) (a : Nat) (u : Value), Kept g (g + 1) w (w.setCell ⟨g, a, none⟩ u) := fun w a u => kept_setCell w ⟨g, a, none⟩ u (.inl ⟨Nat.le_refl _, Nat.lt_succ_self _⟩)
  exact ((k _ _ _).trans (k _ _ _)).trans (k _ _ _) |>.trans (k _ _ _)

/-- The two boxes of eqCode. -/
structure EC (W : World) (p : Nat) (b0 b1 b2 b3 s0 s1 s2 s3 : Value) : Prop where
  sz : p + 1 < W.heap.size
  q0 : W.cell? ⟨p, 0, none⟩ = some b0
  q1 : W.cell? ⟨p, 1, none⟩ = some b1
  q2 : W.cell? ⟨p, 2, none⟩ = some b2
  q3 : W.cell? ⟨p, 3, none⟩ = some b3
  r0 : W.cell? ⟨p + 1, 0, none⟩ = some s0
  r1 : W.cell? ⟨p + 1, 1, none⟩ = some s1
  r2 : W.cell? ⟨p + 1, 2, none⟩ = some s2
  r3 : W.cell? ⟨p + 1, 3, none⟩ = some s3
theorem EC.keep {W W' : World} {p : Nat} {b0 b1 b2 b3 s0 s1 s2 s3 : Value} (t : EC W p b0 b1 b2 b3 s0 s1 s2 s3) (k : Kept 0 0 W W') : EC W' p b0 b1 b2 b3 s0 s1 s2 s3 := by
  have e : ∀ g o, g ≤ p + 1 → W'.cell? ⟨g, o, none⟩ = W.cell? ⟨g, o, none⟩ := fun g o h => k.cell (p := ⟨g, o, none⟩) (Nat.lt_of_le_of_lt h t.sz) (by omega)
  exact ⟨Nat.lt_of_lt_of_le t.sz k.size, by rw [e _ _ (by omega)]; exact t.q0, by rw [e _ _ (by omega)]; exact t.q1, by rw [e _ _ (by omega)]; exact t.q2, by rw [e _ _ (by omega)]; exact t.q3, by rw [e _ _ (by omega)]; exact t.r0, by rw [e _ _ (by omega)]; exact t.r1, by rw [e _ _ (by omega)]; exact t.r2, by rw [e _ _ (by omega)]; exact t.r3⟩
/-- The box of a code. -/
structure C0 (W : World) (p : Nat) (b0 b1 b2 b3 : Value) : Prop where
  sz : p < W.heap.size
  q0 : W.cell? ⟨p, 0, none⟩ = some b0
  q1 : W.cell? ⟨p, 1, none⟩ = some b1
  q2 : W.cell? ⟨p, 2, none⟩ = some b2
  q3 : W.cell? ⟨p, 3, none⟩ = some b3
theorem C0.keepR {W W' : World} {p l h : Nat} {b0 b1 b2 b3 : Value} (t : C0 W p b0 b1 b2 b3) (k : Kept l h W W') (hd : p < l ∨ h ≤ p ∨ h ≤ l) : C0 W' p b0 b1 b2 b3 := by
  have e : ∀ o, W'.cell? ⟨p, o, none⟩ = W.cell? ⟨p, o, none⟩ := fun o => k.cell (p := ⟨p, o, none⟩) t.sz (by show ¬ (l ≤ p ∧ p < h); omega)
  exact ⟨Nat.lt_of_lt_of_le t.sz k.size, by rw [e]; exact t.q0, by rw [e]; exact t.q1, by rw [e]; exact t.q2, by rw [e]; exact t.q3⟩
theorem C0.keep {W W' : World} {p : Nat} {b0 b1 b2 b3 : Value} (t : C0 W p b0 b1 b2 b3) (k : Kept 0 0 W W') : C0 W' p b0 b1 b2 b3 := t.keepR k (.inr (.inr (Nat.le_refl _)))
end Go.Proofs.YtiiimofkkahobaaDoor

namespace Go.Proofs.YtiiimofkkahobaaDoor
open Go.RowKit Flt

/-- A step's fields as a value of a graph. -/
def vlOf (s : Ste) : Vl := ⟨s.op, s.len, s.a, s.b, s.c, s.k⟩
/-- The cells that a step takes. -/
def spansOf (s : Ste) : List Spn := [⟨s.a, s.n⟩, ⟨s.b, s.len⟩, ⟨s.c, s.len⟩].take (cnt s.op)
/-- Fields that do not hang on the arena. -/
def formB (ins : List Int) (s : Ste) : Bool :=
  ((lenB s.len && spareB (vlOf s)) && !(decide (cnt s.op = 0) && s.n != 0)) &&
    (if s.op = 0 then idxB s.a ins.length && ins.getD s.a.toNat 0 == s.len else shapeB s.op s.len s.c ([s.n, s.len, s.len].take (cnt s.op)))
/-- Has a cell been written by one of the first n steps? -/
def wroteB (ss : List Ste) (n : Nat) (c : Int) : Bool := (ss.take n).any fun s => decide (s.dst ≤ c ∧ c < s.dst + s.len)
def withB (off len peak : Int) : Bool := decide (0 ≤ off ∧ off ≤ peak - len)
def holdB (ss : List Ste) (n : Nat) (peak off len : Int) : Bool := withB off len peak && (List.range len.toNat).all fun j => wroteB ss n (off + (j : Nat))
def meetB (s : Ste) (p : Spn) : Bool := decide (s.dst < p.off + p.len ∧ p.off < s.dst + s.len)
def takeB (ss : List Ste) (i : Nat) (peak : Int) (s : Ste) (p : Spn) : Bool := holdB ss i peak p.off p.len && !meetB s p
def stepB (ins : List Int) (ss : List Ste) (peak : Int) (i : Nat) : Bool :=
  formB ins (ss.getD i Ste.zero) && (withB (ss.getD i Ste.zero).dst (ss.getD i Ste.zero).len peak && (spansOf (ss.getD i Ste.zero)).all (takeB ss i peak (ss.getD i Ste.zero)))
def limB (ins : List Int) (n2 n3 : Nat) (peak : Int) : Bool := (((decide (ins.length ≤ 20) && decide (n2 ≤ 2000)) && decide (n3 ≤ 50)) && ins.all lenB) && decide (0 ≤ peak ∧ peak ≤ 50000)
def outB (ss : List Ste) (peak : Int) (p : Spn) : Bool := lenB p.len && holdB ss ss.length peak p.off p.len
/-- What Verify answers. -/
def verM (ins : List Int) (ss : List Ste) (os : List Spn) (peak : Int) : Bool :=
  (limB ins ss.length os.length peak && (List.range ss.length).all (stepB ins ss peak)) && os.all (outB ss peak)

theorem spans_len (s : Ste) : (spansOf s).length = cnt s.op := by
  have := cnt_le s.op
  simp [spansOf]; omega
theorem form_len {ins : List Int} {s : Ste} (h : formB ins s = true) : 1 ≤ s.len ∧ s.len ≤ 1000 := by
  unfold formB at h
  simp only [Bool.and_eq_true] at h
  have := h.1.1.1
  simpa [lenB] using this
theorem form_op {ins : List Int} {s : Ste} (h : formB ins s = true) : 0 ≤ s.op ∧ s.op ≤ 13 := by
  by_cases c : 0 ≤ s.op ∧ s.op ≤ 13
  · exact c
  · unfold formB at h
    rw [if_neg (by omega), shape_out c] at h
    simp at h
theorem form_shape {ins : List Int} {s : Ste} (h : formB ins s = true) (h0 : s.op ≠ 0) : shapeB s.op s.len s.c ([s.n, s.len, s.len].take (cnt s.op)) = true := by
  unfold formB at h
  rw [if_neg h0] at h
  simp only [Bool.and_eq_true] at h
  exact h.2
theorem form_n {ins : List Int} {s : Ste} (h : formB ins s = true) (hc : 0 < cnt s.op) : 1 ≤ s.n ∧ s.n ≤ 1000 := by
  have h0 : s.op ≠ 0 := fun e => by rw [e] at hc; exact absurd hc (by decide)
  have hl := form_len h
  have hs := form_shape h h0
  have ho := form_op h
  generalize s.op = op at hc h0 hs ho
  rcases (by omega : op = 1 ∨ op = 2 ∨ op = 3 ∨ op = 4 ∨ op = 5 ∨ op = 6 ∨ op = 7 ∨ op = 8 ∨ op = 9 ∨ op = 10 ∨ op = 11 ∨ op = 12 ∨ op = 13) with rfl | rfl | rfl | rfl | rfl | rfl | rfl | rfl | rfl | rfl | rfl | rfl | rfl
  · exact absurd hc (by decide)
  all_goals (simp [shapeB, cnt, lenB] at hs; omega)
theorem spans_lens {ins : List Int} {s : Ste} (h : formB ins s = true) {p : Spn} (hp : p ∈ spansOf s) : 1 ≤ p.len ∧ p.len ≤ 1000 := by
  have hl := form_len h
  by_cases hc : 0 < cnt s.op
  · have hn := form_n h hc
    have := List.mem_of_mem_take hp
    simp at this
    rcases this with rfl | rfl | rfl
    · exact hn
    · exact hl
    · exact hl
  · have e : cnt s.op = 0 := by omega
    unfold spansOf at hp
    rw [e] at hp
    cases hp
theorem wrote_zero (ss : List Ste) (c : Int) : wroteB ss 0 c = false := by simp [wroteB]
theorem wrote_succ {ss : List Ste} {n : Nat} (h : n < ss.length) (c : Int) : wroteB ss (n + 1) c = (wroteB ss n c || decide ((ss.getD n Ste.zero).dst ≤ c ∧ c < (ss.getD n Ste.zero).dst + (ss.getD n Ste.zero).len)) := by
  unfold wroteB
  rw [List.take_succ_eq_append_getElem h, List.any_append]
  have : ss.getD n Ste.zero = ss[n] := by rw [List.getD_eq_getElem?_getD, List.getElem?_eq_getElem h]; rfl
  rw [this]
  simp
theorem wrote_true {ss : List Ste} {n k : Nat} (hk : k < n) (hn : n ≤ ss.length) {c : Int} (h : (ss.getD k Ste.zero).dst ≤ c ∧ c < (ss.getD k Ste.zero).dst + (ss.getD k Ste.zero).len) : wroteB ss n c = true := by
  unfold wroteB
  rw [List.any_eq_true]
  have e : ss.getD k Ste.zero = ss[k] := by rw [List.getD_eq_getElem?_getD, List.getElem?_eq_getElem (by omega)]; rfl
  rw [e] at h
  refine ⟨ss[k], ?_, by simpa using h⟩
  rw [List.mem_take_iff_getElem]
  exact ⟨k, by omega, rfl⟩
/-- The first steps are all as they should be: so their places are small. -/
theorem step_bounds {ins : List Int} {ss : List Ste} {peak : Int} {n : Nat} (hp : peak ≤ 50000) (h : (List.range n).all (stepB ins ss peak) = true) : ∀ k, k < n → 0 ≤ (ss.getD k Ste.zero).dst ∧ (ss.getD k Ste.zero).dst ≤ 50000 ∧ 1 ≤ (ss.getD k Ste.zero).len ∧ (ss.getD k Ste.zero).len ≤ 1000 ∧ (ss.getD k Ste.zero).dst + (ss.getD k Ste.zero).len ≤ peak := fun k hk => by
  rw [List.all_eq_true] at h
  have h1 := h k (List.mem_range.2 hk)
  unfold stepB at h1
  simp only [Bool.and_eq_true] at h1
  have h2 := form_len h1.1
  have h3 := of_decide_eq_true h1.2.1
  omega
end Go.Proofs.YtiiimofkkahobaaDoor

namespace Go.Proofs.YtiiimofkkahobaaDoor
open Go.RowKit Flt
attribute [local go_sem] alloc_drewN setCell_drewN run_store_float

/-- A count as two bytes. -/
def cntB (v : Int) : List Int := [v % 256, v / 256]
/-- The k lowest bytes of a number. -/
def bytesN (b : Nat) : Nat → List Int
  | 0 => []
  | k + 1 => bytesN b k ++ [((b / 256 ^ k % 256 : Nat) : Int)]
def fieldsOf (s : Ste) : List Int := [s.len, s.n, s.dst, s.a, s.b, s.c]
def steB (s : Ste) : List Int := [s.op] ++ (fieldsOf s).flatMap cntB ++ (if s.op = 1 then bytesN (fb s.k) 8 else [])
def spnB (p : Spn) : List Int := cntB p.off ++ cntB p.len
/-- The bytes of a code. -/
def saveM (ins : List Int) (ss : List Ste) (os : List Spn) (pk : Int) : List Int :=
  [71, 76] ++ cntB ins.length ++ ins.flatMap cntB ++ cntB ss.length ++ ss.flatMap steB ++ cntB os.length ++ os.flatMap spnB ++ cntB pk
theorem cntB_len (v : Int) : (cntB v).length = 2 := rfl
theorem bytesN_len (b : Nat) : ∀ k, (bytesN b k).length = k
  | 0 => rfl
  | k + 1 => by rw [bytesN, List.length_append, bytesN_len b k]; rfl
theorem flat_cnt_len (xs : List Int) : (xs.flatMap cntB).length = 2 * xs.length := by
  induction xs with
  | nil => rfl
  | cons x r ih => rw [List.flatMap_cons, List.length_append, cntB_len, ih, List.length_cons]; omega
theorem flatMap_takeS {α β : Type} (f : α → List β) (xs : List α) (z : α) {k : Nat} (h : k < xs.length) : (xs.take (k + 1)).flatMap f = (xs.take k).flatMap f ++ f (xs.getD k z) := by
  rw [List.take_succ_eq_append_getElem h, List.flatMap_append, List.flatMap_singleton]
  rw [List.getD_eq_getElem?_getD, List.getElem?_eq_getElem h]; rfl
theorem steB_len (s : Ste) : (steB s).length = 13 + (if s.op = 1 then 8 else 0) := by
  unfold steB fieldsOf
  simp only [List.length_append, flat_cnt_len, List.length_cons, List.length_nil]
  split
  · rw [bytesN_len]
  · rfl
theorem flat_ste_len (ss : List Ste) : (ss.flatMap steB).length ≤ 21 * ss.length := by
  induction ss with
  | nil => simp
  | cons x r ih => rw [List.flatMap_cons, List.length_append, steB_len, List.length_cons]; split <;> omega
theorem flat_spn_len (os : List Spn) : (os.flatMap spnB).length = 4 * os.length := by
  induction os with
  | nil => rfl
  | cons x r ih => rw [List.flatMap_cons, List.length_append, ih, List.length_cons]; unfold spnB; rw [List.length_append, cntB_len, cntB_len]; omega

/-- A row of bytes that is grown by append. -/
def YB (W : World) (B : Nat) (v : Value) (bs : List Int) : Prop := W.ownsRow B 5 1 v bs.length (bs.map (Value.int .u8))
theorem YB.keepC {W W' : World} {S : Nat → Prop} {B : Nat} {v : Value} {bs : List Int} (f : YB W B v bs) (k : Chg S W W') (hd : ∀ g, v.ownBlock = some g → ¬ S g) : YB W' B v bs := own_keepC f k hd
theorem YB.keep {W W' : World} {B : Nat} {v : Value} {bs : List Int} (f : YB W B v bs) (k : Kept 0 0 W W') : YB W' B v bs := own_keepJ f k
theorem YB.blk {W : World} {B : Nat} {v : Value} {bs : List Int} (f : YB W B v bs) {g : Nat} (h : v.ownBlock = some g) : B ≤ g ∧ g < W.heap.size := own_blkV f h
theorem YB.nil (W : World) (B : Nat) : YB W B (.slice none 0 0) [] := World.ownsRow_nil _ _ _ _
theorem YB.lit (w : World) (B : Nat) (bs : List Int) (cs : Array Value) (n : Nat) (hc : cs.toList = bs.map (Value.int .u8)) (hn : bs.length = n) (hb : B ≤ w.heap.size) (hm : n ≤ 1000000) : YB (w.alloc (.cells cs 5)) B (.slice (some ⟨w.heap.size, 0, none⟩) n n) bs := by
  unfold YB
  have hs : cs.size = n := by rw [← Array.length_toList, hc, List.length_map, hn]
  have := World.ownsRow_lit (base := B) (e := 5) (size := 1) w cs n hb (by unfold maxLen; omega) (by rw [hs, Nat.mul_one])
  rw [hn, ← hc]
  exact this
theorem newsY {w : World} {ad : Addr} {ys : List Int} (h : ∀ j, j < ys.length → w.cell? (ad.add j) = some (.int .u8 (ys.getD j 0))) : ∀ j u, (ys.map (Value.int .u8))[j]? = some u → w.cell? (ad.add j) = some u := by
  intro j u hu
  by_cases hj : j < ys.length
  · rw [h j hj]
    rw [List.getElem?_map, List.getElem?_eq_getElem hj] at hu
    simp only [Option.map_some] at hu
    rw [← hu, List.getD_eq_getElem?_getD, List.getElem?_eq_getElem hj]; rfl
  · rw [List.getElem?_eq_none (by simp; omega)] at hu; cases hu
theorem wpList_appendY (w : World) {ops : Array Oper} {rest : List Oper} {o : Oper} {a : Act} {Q : Exit → Act → World → Prop} (hgd : o.guard = none) (s x : Operand)
    (ho : o.op = .call { callee := .builtin .append, args := #[s, x], argTypes := #[27, 27] })
    (B : Nat) (v : Value) (bs : List Int) (hs : a.eval s = v) (hown : YB w B v bs)
    (ad : Addr) (m c : Nat) (ys : List Int) (hx : a.eval x = .slice (some ad) m c) (hl : ys.length = m) (hnews : ∀ j, j < ys.length → w.cell? (ad.add j) = some (.int .u8 (ys.getD j 0)))
    (hm : 0 < m) (h63 : bs.length + m ≤ 100000000) (hbase : B ≤ w.heap.size)
    (h : ∀ g cap n w', n = (bs ++ ys).length → YB w' B (.slice (some ⟨g, 0, none⟩) n cap) (bs ++ ys) → Chg (fun b => v.ownBlock = some b) w w' → (v.ownBlock = some g ∨ g = w.heap.size) → wpList Tryd.prog ops Q rest (a.put o.dst (.slice (some ⟨g, 0, none⟩) n cap)) w') : wpList Tryd.prog ops Q (o :: rest) a w := by
  obtain ⟨i0, hi, hz0, hz1, hz2⟩ := info_parts infoY
  refine wpList_append_lies w hgd s x 27 ho B 5 i0 (.int .u8 0) 1 1 Tryd.underlying27 hi hz0 hz1 hz2 rfl (by decide) v bs.length _ hs hown ad m c (ys.map (Value.int .u8)) hx (by rw [List.length_map, hl, Nat.mul_one]) (newsY hnews) ?_ hm (by unfold maxLen; omega) (by omega) hbase _ rfl ?_
  · intro u hu; obtain ⟨x, _, rfl⟩ := List.mem_map.1 hu; rfl
  · intro g cap w' h1 h2 h3 _
    have e : bs.length + m = (bs ++ ys).length := by rw [List.length_append, hl]
    rw [e] at h1 ⊢
    refine h g cap _ w' rfl ?_ (chg_grow h2) h3
    unfold YB
    rw [List.map_append]
    exact h1
theorem step_appendY (w : World) {ops : Array Oper} {o : Oper} {a : Act} {K : Act → World → Prop} {Q : Exit → Act → World → Prop} {E : Prop} (hgd : o.guard = none) (s x : Operand)
    (ho : o.op = .call { callee := .builtin .append, args := #[s, x], argTypes := #[27, 27] })
    (B : Nat) (v : Value) (bs : List Int) (hs : a.eval s = v) (hown : YB w B v bs)
    (ad : Addr) (m c : Nat) (ys : List Int) (hx : a.eval x = .slice (some ad) m c) (hl : ys.length = m) (hnews : ∀ j, j < ys.length → w.cell? (ad.add j) = some (.int .u8 (ys.getD j 0)))
    (hm : 0 < m) (h63 : bs.length + m ≤ 100000000) (hbase : B ≤ w.heap.size)
    (h : ∀ g cap n w', n = (bs ++ ys).length → YB w' B (.slice (some ⟨g, 0, none⟩) n cap) (bs ++ ys) → Chg (fun b => v.ownBlock = some b) w w' → (v.ownBlock = some g ∨ g = w.heap.size) → K (a.put o.dst (.slice (some ⟨g, 0, none⟩) n cap)) w') :
    if Region.wanted o (yielded ops a.tmps) = true then Oper.wp Tryd.prog o a w K Q else E := by
  obtain ⟨i0, hi, hz0, hz1, hz2⟩ := info_parts infoY
  refine step_append_lies w hgd s x 27 ho B 5 i0 (.int .u8 0) 1 1 Tryd.underlying27 hi hz0 hz1 hz2 rfl (by decide) v bs.length _ hs hown ad m c (ys.map (Value.int .u8)) hx (by rw [List.length_map, hl, Nat.mul_one]) (newsY hnews) ?_ hm (by unfold maxLen; omega) (by omega) hbase _ rfl ?_
  · intro u hu; obtain ⟨x, _, rfl⟩ := List.mem_map.1 hu; rfl
  · intro g cap w' h1 h2 h3 _
    have e : bs.length + m = (bs ++ ys).length := by rw [List.length_append, hl]
    rw [e] at h1 ⊢
    refine h g cap _ w' rfl ?_ (chg_grow h2) h3
    unfold YB
    rw [List.map_append]
    exact h1
end Go.Proofs.YtiiimofkkahobaaDoor

namespace Go.Proofs.YtiiimofkkahobaaDoor
open Go.RowKit Flt
attribute [local go_sem] alloc_drewN setCell_drewN run_store_float

theorem YB.at_ {W : World} {B : Nat} {v : Value} {bs : List Int} (f : YB W B v bs) (h : 0 < bs.length) : ∃ g cap, v = .slice (some ⟨g, 0, none⟩) bs.length cap ∧ B ≤ g ∧ g < W.heap.size ∧ ∀ j, j < bs.length → W.cell? ⟨g, j, none⟩ = some (.int .u8 (bs.getD j 0)) := by
  rcases f.2 with ⟨_, c⟩ | ⟨g, cap, cur, e, b1, b2, b3, _, b5, b6⟩
  · omega
  · have hg : g < W.heap.size := by
      rcases Nat.lt_or_ge g W.heap.size with c | c
      · exact c
      · rw [Array.getElem?_eq_none c] at b2; cases b2
    refine ⟨g, cap, e, b1, hg, fun j hj => ?_⟩
    rw [cell_of_row W g _ cur _ _ b2, ← Array.getElem?_toList]
    have : (cur.toList.take (bs.length * 1))[j]? = (bs.map (Value.int .u8))[j]? := by rw [b6]
    rw [List.getElem?_take_of_lt (by omega)] at this
    rw [this, List.getElem?_map, List.getElem?_eq_getElem hj, List.getD_eq_getElem?_getD, List.getElem?_eq_getElem hj]; rfl
theorem newsA (w : World) (cs : Array Value) (ys : List Int) (hc : cs.toList = ys.map (Value.int .u8)) : ∀ j, j < ys.length → (w.alloc (.cells cs 5)).cell? ((⟨w.heap.size, 0, none⟩ : Addr).add j) = some (.int .u8 (ys.getD j 0)) := by
  intro j hj
  rw [add_addr, Nat.zero_add, World.cell?_alloc_new, ← Array.getElem?_toList, hc, List.getElem?_map, List.getElem?_eq_getElem hj, List.getD_eq_getElem?_getD, List.getElem?_eq_getElem hj]
  rfl
theorem news0 {w : World} {g : Nat} {ys : List Int} (h : ∀ j, j < ys.length → w.cell? ⟨g, j, none⟩ = some (.int .u8 (ys.getD j 0))) : ∀ j, j < ys.length → w.cell? ((⟨g, 0, none⟩ : Addr).add j) = some (.int .u8 (ys.getD j 0)) := fun j hj => by
  rw [add_addr, Nat.zero_add]; exact h j hj
/-- What a function says that grows a row of bytes. -/
def Grew (w : World) (B : Nat) (v : Value) (bs : List Int) (e : Ending) (w' : World) : Prop :=
  ∃ v', e = .returned v' ∧ YB w' B v' bs ∧ Chg (fun b => v.ownBlock = some b) w w' ∧ ∀ g, v'.ownBlock = some g → v.ownBlock = some g ∨ w.heap.size ≤ g
/-- A round of growth. -/
theorem grow_round {w W W1 W9 : World} {S : Nat → Prop} {u : Value} {g n cap : Nat} (hC : Chg S w W) (hG : ∀ g, u.ownBlock = some g → S g ∨ w.heap.size ≤ g) (k : Kept 0 0 W W1) (h9 : Chg (fun b => u.ownBlock = some b) W1 W9) (ha : u.ownBlock = some g ∨ g = W.heap.size + 1) :
    Chg S w W9 ∧ ∀ h, (Value.slice (some ⟨g, 0, none⟩) n cap).ownBlock = some h → S h ∨ w.heap.size ≤ h := by
  have h1 := hC.size
  have h2 := k.size
  refine ⟨Chg.new (Chg.trans hC k.chg) h9 (fun i hi hb => ?_), fun h hh => ?_⟩
  · rcases hG i hb with c | c
    · exact c
    · omega
  · simp [Value.ownBlock] at hh
    subst hh
    rcases ha with c | c
    · exact hG g c
    · right; omega
theorem byteN_div (b k : Nat) : b / 256 ^ k / 256 = b / 256 ^ (k + 1) := by rw [Nat.div_div_eq_div_mul, Nat.pow_succ]
theorem pow_cast (b k : Nat) : ((b / 256 ^ k : Nat) : Int) / 256 = ((b / 256 ^ (k + 1) : Nat) : Int) := by rw [← byteN_div]; omega
end Go.Proofs.YtiiimofkkahobaaDoor
