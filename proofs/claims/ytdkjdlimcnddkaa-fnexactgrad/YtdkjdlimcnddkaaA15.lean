import Derived.Test.YtdkjdlimcnddkaaA14
namespace Go.Proofs.Ytdkjdlimcnddkaa
open Go.RowKit Flt
attribute [local go_sem] alloc_drewN setCell_drewN run_store_float

/-! What Jvp puts behind. -/
def jmv (vs0 : List Vl) (i : Nat) (st : List Vl × List Int) : List Vl × Int :=
  mvM (i : Int) (vs0.getD i Vl.zero) (ovs (vs0.getD i Vl.zero) st.2 (cnt (vs0.getD i Vl.zero).op) 0) (ovs (vs0.getD i Vl.zero) st.2 (cnt (vs0.getD i Vl.zero).op) 1) (ovs (vs0.getD i Vl.zero) st.2 (cnt (vs0.getD i Vl.zero).op) 2) st.1.length
/-- The values and the moves behind k steps from x. -/
def jst (vs0 : List Vl) (x t : Nat) : Nat → List Vl × List Int
  | 0 => (vs0, (List.replicate vs0.length (-1)).set x (t : Int))
  | k + 1 => ((jst vs0 x t k).1 ++ (jmv vs0 (x + 1 + k) (jst vs0 x t k)).1, (jst vs0 x t k).2.set (x + 1 + k) (jmv vs0 (x + 1 + k) (jst vs0 x t k)).2)
theorem jst_len (vs0 : List Vl) (x t : Nat) : ∀ k, (jst vs0 x t k).2.length = vs0.length
  | 0 => by simp [jst]
  | k + 1 => by simp [jst, jst_len vs0 x t k]
theorem jst_pre (vs0 : List Vl) (x t : Nat) : ∀ k, ∃ r, (jst vs0 x t k).1 = vs0 ++ r
  | 0 => ⟨[], by simp [jst]⟩
  | k + 1 => by
    obtain ⟨r, h⟩ := jst_pre vs0 x t k
    exact ⟨r ++ (jmv vs0 (x + 1 + k) (jst vs0 x t k)).1, by rw [jst, h, List.append_assoc]⟩
theorem jst_get (vs0 : List Vl) (x t k : Nat) {i : Nat} (hi : i < vs0.length) : (jst vs0 x t k).1.getD i Vl.zero = vs0.getD i Vl.zero := by
  obtain ⟨r, h⟩ := jst_pre vs0 x t k
  rw [h, List.getD_eq_getElem?_getD, List.getElem?_append_left hi, ← List.getD_eq_getElem?_getD]
/-- At most k values of at most 1000 elements. -/
def Sz (k : Nat) (M : List Vl × Int) : Prop := M.1.length ≤ k ∧ 0 ≤ cellsV M.1 ∧ cellsV M.1 ≤ 1000 * (k : Int)
theorem sz_ite {k : Nat} {p : Prop} [Decidable p] {a b : List Vl × Int} (ha : Sz k a) (hb : Sz k b) : Sz k (if p then a else b) := by
  by_cases h : p
  · rw [if_pos h]; exact ha
  · rw [if_neg h]; exact hb
theorem sz_0 {k : Nat} {r : Int} : Sz k ([], r) := by unfold Sz; simp only [cellsV, List.length_nil]; omega
theorem sz_1 {k : Nat} {v : Vl} {r : Int} (hk : 1 ≤ k) (h0 : 0 ≤ v.len) (h1 : v.len ≤ 1000) : Sz k ([v], r) := by unfold Sz; simp only [cellsV, List.length_cons, List.length_nil]; omega
theorem sz_2 {k : Nat} {v u : Vl} {r : Int} (hk : 2 ≤ k) (h0 : 0 ≤ v.len) (h1 : v.len ≤ 1000) (h2 : 0 ≤ u.len) (h3 : u.len ≤ 1000) : Sz k ([v, u], r) := by unfold Sz; simp only [cellsV, List.length_cons, List.length_nil]; omega
theorem sz_3 {k : Nat} {v u y : Vl} {r : Int} (hk : 3 ≤ k) (h0 : 0 ≤ v.len) (h1 : v.len ≤ 1000) (h2 : 0 ≤ u.len) (h3 : u.len ≤ 1000) (h4 : 0 ≤ y.len) (h5 : y.len ≤ 1000) : Sz k ([v, u, y], r) := by unfold Sz; simp only [cellsV, List.length_cons, List.length_nil]; omega
theorem sz_4 {k : Nat} {v u y z : Vl} {r : Int} (hk : 4 ≤ k) (h0 : 0 ≤ v.len) (h1 : v.len ≤ 1000) (h2 : 0 ≤ u.len) (h3 : u.len ≤ 1000) (h4 : 0 ≤ y.len) (h5 : y.len ≤ 1000) (h6 : 0 ≤ z.len) (h7 : z.len ≤ 1000) : Sz k ([v, u, y, z], r) := by unfold Sz; simp only [cellsV, List.length_cons, List.length_nil]; omega
theorem sz_cons {k : Nat} {v : Vl} {M : List Vl × Int} {r : Int} (h : Sz k M) (h0 : 0 ≤ v.len) (h1 : v.len ≤ 1000) : Sz (k + 1) ([v] ++ M.1, r) := by
  unfold Sz at *
  simp only [List.length_append, cellsV_app, cellsV, List.length_cons, List.length_nil]
  omega
theorem ch_sz {n d p q : Int} {N : Nat} (h0 : 0 ≤ n) (h1 : n ≤ 1000) : Sz 3 (chM n d p q N) := by
  unfold chM
  exact sz_ite (sz_ite (sz_3 (by omega) h0 h1 h0 h1 h0 h1) (sz_2 (by omega) h0 h1 h0 h1)) (sz_ite (sz_2 (by omega) h0 h1 h0 h1) (sz_1 (by omega) h0 h1))
theorem sz_mono {k l : Nat} {M : List Vl × Int} (h : Sz k M) (hk : k ≤ l) : Sz l M := by
  unfold Sz at *
  omega
theorem mvM_size (i : Int) (v : Vl) (ta tb tc : Int) (N : Nat) (h0 : 0 ≤ v.len) (h1 : v.len ≤ 1000) : Sz 4 (mvM i v ta tb tc N) := by
  unfold mvM sumM difM mulM divM
  exact sz_ite sz_0 (sz_ite (sz_ite sz_0 (sz_ite sz_0 (sz_1 (by omega) h0 h1))) (sz_ite (sz_ite sz_0 (sz_ite (sz_1 (by omega) h0 h1) (sz_1 (by omega) h0 h1)))
    (sz_ite (sz_ite (sz_ite sz_0 (sz_1 (by omega) h0 h1)) (sz_ite (sz_1 (by omega) h0 h1) (sz_3 (by omega) h0 h1 h0 h1 h0 h1)))
    (sz_ite (sz_ite (sz_ite sz_0 (sz_3 (by omega) h0 h1 h0 h1 h0 h1)) (sz_ite (sz_1 (by omega) h0 h1) (sz_4 (by omega) h0 h1 h0 h1 h0 h1 h0 h1)))
    (sz_ite (sz_cons (ch_sz h0 h1) h0 h1) (sz_ite (sz_ite sz_0 (sz_mono (ch_sz h0 h1) (by omega))) (sz_ite (sz_1 (by omega) h0 h1) (sz_1 (by omega) h0 h1))))))))
theorem jst_size (vs0 : List Vl) (x t : Nat) (hl : ∀ k, k < vs0.length → 1 ≤ (vs0.getD k Vl.zero).len ∧ (vs0.getD k Vl.zero).len ≤ 1000) (hc0 : 0 ≤ cellsV vs0) (hc1 : cellsV vs0 ≤ 50000) : ∀ k, x + k < vs0.length → (jst vs0 x t k).1.length ≤ vs0.length + 4 * k ∧ 0 ≤ cellsV (jst vs0 x t k).1 ∧ cellsV (jst vs0 x t k).1 ≤ 50000 + 4000 * k
  | 0, _ => by simp [jst]; omega
  | k + 1, hk => by
    have ih := jst_size vs0 x t hl hc0 hc1 k (by omega)
    have hv := hl (x + 1 + k) (by omega)
    have hm := mvM_size ((x + 1 + k : Nat) : Int) (vs0.getD (x + 1 + k) Vl.zero) (ovs (vs0.getD (x + 1 + k) Vl.zero) (jst vs0 x t k).2 (cnt (vs0.getD (x + 1 + k) Vl.zero).op) 0) (ovs (vs0.getD (x + 1 + k) Vl.zero) (jst vs0 x t k).2 (cnt (vs0.getD (x + 1 + k) Vl.zero).op) 1) (ovs (vs0.getD (x + 1 + k) Vl.zero) (jst vs0 x t k).2 (cnt (vs0.getD (x + 1 + k) Vl.zero).op) 2) (jst vs0 x t k).1.length (by omega) (by omega)
    rw [jst]
    simp only [List.length_append, cellsV_app]
    unfold jmv
    unfold Sz at hm
    omega
/-- The answer's values and index. -/
def jfin (vs0 : List Vl) (s x t : Nat) : List Vl × Int :=
  if (jst vs0 x t (s - x)).2.getD s 0 = -1 then ((jst vs0 x t (s - x)).1 ++ [vput 1 (vs0.getD s Vl.zero).len 0 0 0], ((jst vs0 x t (s - x)).1.length : Nat)) else ((jst vs0 x t (s - x)).1, (jst vs0 x t (s - x)).2.getD s 0)
end Go.Proofs.Ytdkjdlimcnddkaa

namespace Go.Proofs.Ytdkjdlimcnddkaa
open Go.RowKit Flt
attribute [local go_sem] alloc_drewN setCell_drewN run_store_float

theorem list3 (w : World) (s x t : Int) : ∀ k, k < 3 → (w.alloc (.cells #[.int .i64 s, .int .i64 x, .int .i64 t] 3)).cell? ⟨w.heap.size, k, none⟩ = some (.int .i64 ([s, x, t].getD k 0)) := fun k hk => by
  rcases (by omega : k = 0 ∨ k = 1 ∨ k = 2) with rfl | rfl | rfl <;> simp

end Go.Proofs.Ytdkjdlimcnddkaa

namespace Go.Proofs.Ytdkjdlimcnddkaa
open Go.RowKit Flt
attribute [local go_sem] alloc_drewN setCell_drewN run_store_float

theorem BS.other {w : World} {P B o : Nat} {u1 u3 u : Value} {vs : List Vl} {c : Int} {base : Nat} {R : Option Nat} {vv : Value} (h : BS w P u1 u3 vs c base R vv) (hP : B ≠ P) (hR : R ≠ some B) : BS (w.setCell ⟨B, o, none⟩ u) P u1 u3 vs c base R vv :=
  ⟨by simpa using h.lt, fun o => by simp [h.free o], by rw [cell_ne _ _ _ _ _ _ (.inl hP)]; exact h.c0, by rw [cell_ne _ _ _ _ _ _ (.inl hP)]; exact h.c1, by rw [cell_ne _ _ _ _ _ _ (.inl hP)]; exact h.c2, by rw [cell_ne _ _ _ _ _ _ (.inl hP)]; exact h.c3, own_setCell h.own (by rw [h.row]; exact hR), h.row, h.ne, by simpa using h.sz⟩
theorem IR.stp {w w' : World} {P B : Nat} {R R' : Option Nat} {xs : List Int} (h : IR w B xs) (s : Stp P R w R' w') (hP : B ≠ P) (hR : R ≠ some B) : IR w' B xs := by
  unfold IR
  rw [s.chg.block B h.lt (by rintro (c | c); exact hP c; exact hR c)]
  exact h
theorem own_stp {base e size n P : Nat} {R R' : Option Nat} {v : Value} {xs : List Value} {W W' : World} (o : W.ownsRow base e size v n xs) (s : Stp P R W R' W') (hP : v.ownBlock ≠ some P) (hR : ∀ g, v.ownBlock = some g → R ≠ some g) : W'.ownsRow base e size v n xs := by
  refine ⟨o.1, o.2.imp id ?_⟩
  rintro ⟨g, cap, cur, e1, b1, b2, b3⟩
  refine ⟨g, cap, cur, e1, b1, ?_, b3⟩
  have hg : g < W.heap.size := by
    rcases Nat.lt_or_ge g W.heap.size with c | c
    · exact c
    · rw [Array.getElem?_eq_none c] at b2; cases b2
  have hb : v.ownBlock = some g := by rw [e1]; rfl
  rw [s.chg.block g hg (by rintro (c | c); exact hP (by rw [hb, c]); exact hR g hb c)]
  exact b2

end Go.Proofs.Ytdkjdlimcnddkaa

namespace Go.Proofs.Ytdkjdlimcnddkaa
open Go.RowKit Flt
attribute [local go_sem] alloc_drewN setCell_drewN run_store_float

theorem cells_pos : ∀ (vs : List Vl), (∀ j, j < vs.length → 0 ≤ (vs.getD j Vl.zero).len) → 0 ≤ cellsV vs
  | [], _ => by simp [cellsV]
  | v :: r, h => by
    have h0 := h 0 (by simp)
    have h1 := cells_pos r (fun j hj => h (j + 1) (by simp; omega))
    have e : (v :: r).getD 0 Vl.zero = v := rfl
    rw [e] at h0
    simp only [cellsV]
    omega
theorem ok_opsJ {ins : List Int} {vs : List Vl} {k : Nat} (ok : okV ins vs k = true) : ∀ q, q < cnt (vs.getD k Vl.zero).op → 0 ≤ fld (vs.getD k Vl.zero) q ∧ fld (vs.getD k Vl.zero) q < k := fun q hq => by
  by_cases h0 : (vs.getD k Vl.zero).op = 0
  · rw [h0, show cnt 0 = 0 from rfl] at hq
    omega
  · unfold okV at ok
    rw [if_neg h0] at ok
    simp only [Bool.and_eq_true] at ok
    have h := List.all_eq_true.1 ok.2.1 ((opsOf (vs.getD k Vl.zero)).getD q 0) (getD_memJ (by rw [opsOf_len]; exact hq))
    have h2 := of_decide_eq_true h
    rw [opsOf_atJ _ hq, ← fld_atJ _ (by have := cnt_le (vs.getD k Vl.zero).op; omega)] at h2
    exact h2
/-- Whether the limits are broken. -/
def limB (vs : List Vl) : Bool := decide (2000 < vs.length ∨ 50000 < cellsV vs)
/-- What Jvp answers with code 0: a graph in own blocks. -/
def JOut (w w' : World) (n1 n3 : Nat) (ins outs : List Int) (M : List Vl × Int) (e : Ending) : Prop :=
  ∃ G1 d1 G3 d3 gv cap, e = .returned (.tuple #[.agg #[.slice (some ⟨G1, 0, none⟩) n1 d1, .slice (some ⟨gv, 0, none⟩) M.1.length cap, .slice (some ⟨G3, 0, none⟩) n3 d3], .int .i64 M.2, .int .i64 0]) ∧
    OI w' w.heap.size G1 n1 d1 ins ∧ OI w' w.heap.size G3 n3 d3 outs ∧ w'.ownsRow w.heap.size 64 6 (.slice (some ⟨gv, 0, none⟩) M.1.length cap) M.1.length (flat M.1) ∧ G1 ≠ G3 ∧ gv ≠ G1 ∧ gv ≠ G3

theorem answer_lim (W : World) (P : Nat) (u1 u3 : Value) (vs : List Vl) (base : Nat) (R : Option Nat) (g cap : Nat) (at' : Int) (h : BS W P u1 u3 vs (cellsV vs) base R (.slice (some ⟨g, 0, none⟩) vs.length cap)) (hl : limB vs = true) :
    Calls Try.prog 39 #[.pointer (some ⟨P, 0, none⟩), .int .i64 at'] W fun e w' => e = .returned (.tuple #[gnil, .int .i64 0, .int .i64 5]) ∧ Kept 0 0 W w' := by
  have hl' := of_decide_eq_true hl
  by_cases h2 : 2000 < vs.length
  · exact answer_many W P u1 u3 vs _ base R g cap at' h h2
  · exact answer_cells W P u1 u3 vs _ base R g cap at' h (by omega) (by omega)
set_option maxRecDepth 100000 in
set_option maxHeartbeats 2000000 in
theorem lengthJ (w : World) (P : Nat) (u1 u3 : Value) (vs : List Vl) (c : Int) (base : Nat) (R : Option Nat) (vv : Value) (i : Nat) (h : BS w P u1 u3 vs c base R vv) (hi : i < vs.length) :
    Calls Try.prog 134 #[.pointer (some ⟨P, 0, none⟩), .int .i64 (i : Int)] w fun e w' => e = .returned (.int .i64 (vs.getD i Vl.zero).len) ∧ Drawn w w' := by
  obtain ⟨g, cap, rfl, hg, hA⟩ := h.read (by omega)
  have z1 := h.c1
  have c1 := (hA i hi).c1
  generalize (vs.getD i Vl.zero).len = ln at c1 ⊢
  generalize vs.length = n at z1 hi
  clear h hA
  have j0 : (0 : Int) ≤ (i : Int) := by omega
  have j1 : (i : Int) < (n : Int) := by omega
  go_enter Try.func134, Try.ntmps134
  go_wp2
  go_ret
  exact ⟨rfl, Drawn.refl _⟩

end Go.Proofs.Ytdkjdlimcnddkaa
