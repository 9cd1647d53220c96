import Derived.Test.YtcphabjekfihnaaJ01
import Derived.Test.YtcphabjekfihnaaJ02
namespace Go.Proofs.Ytcphabjekfihnaa
open Go.RowKit Flt
attribute [local go_sem] alloc_drewN setCell_drewN run_store_float

theorem cellsV_app (a b : List Vl) : cellsV (a ++ b) = cellsV a + cellsV b := by
  induction a with
  | nil => simp [cellsV]
  | cons y ys ih => simp [cellsV, ih]; omega

/-- The builder has put M.1 behind, and answers M.2. -/
def Bd (w : World) (P : Nat) (u1 u3 : Value) (vs : List Vl) (c : Int) (base : Nat) (R : Option Nat) (M : List Vl × Int) (e : Ending) (w' : World) : Prop :=
  e = .returned (.int .i64 M.2) ∧ ∃ R' vv', BS w' P u1 u3 (vs ++ M.1) (c + cellsV M.1) base R' vv' ∧ Stp P R w R' w'
/-- Bounds under which nothing overflows. -/
structure Bnd (vs : List Vl) (c : Int) (n : Int) : Prop where
  l : vs.length ≤ 900000
  c0 : -900000000 ≤ c
  c1 : c ≤ 900000000
  n0 : -1000 ≤ n
  n1 : n ≤ 1000

abbrev vput (op n p q r : Int) : Vl := ⟨op, n, p, q, r, 0⟩
theorem putVal_bd (w : World) (P : Nat) (u1 u3 : Value) (vs : List Vl) (c : Int) (base : Nat) (R : Option Nat) (vv : Value) (v : Vl) (h : BS w P u1 u3 vs c base R vv) (hn : vs.length ≤ 1000000) (hc0 : -1000000000 ≤ c) (hc1 : c ≤ 1000000000) (hl0 : -1000000000 ≤ v.len) (hl1 : v.len ≤ 1000000000) :
    Calls Try.prog 193 #[.pointer (some ⟨P, 0, none⟩), v.agg] w fun e w' => Bd w P u1 u3 vs c base R ([v], (vs.length : Nat)) e w' :=
  (putVal w P u1 u3 vs c base R vv v h hn hc0 hc1 hl0 hl1).mono fun e w' ⟨h1, R', vv', h2, h3⟩ => ⟨h1, R', vv', by simpa [cellsV] using h2, h3⟩

set_option maxRecDepth 100000 in
set_option maxHeartbeats 2000000 in
theorem put_bd (w : World) (P : Nat) (u1 u3 : Value) (vs : List Vl) (c : Int) (base : Nat) (R : Option Nat) (vv : Value) (op n p q r : Int) (h : BS w P u1 u3 vs c base R vv) (hn : vs.length ≤ 1000000) (hc0 : -1000000000 ≤ c) (hc1 : c ≤ 1000000000) (hl0 : -1000000000 ≤ n) (hl1 : n ≤ 1000000000) :
    Calls Try.prog 185 #[.pointer (some ⟨P, 0, none⟩), .int .i64 op, .int .i64 n, .int .i64 p, .int .i64 q, .int .i64 r] w fun e w' => Bd w P u1 u3 vs c base R ([vput op n p q r], (vs.length : Nat)) e w' := by
  have HX : Hid _ := putVal_bd w P u1 u3 vs c base R vv (vput op n p q r) h hn hc0 hc1 hl0 hl1
  clear h hn hc0 hc1 hl0 hl1
  go_enter Try.func185, Try.ntmps185
  go_wp2_with fail
  refine Calls.mono HX.out ?_
  rintro e w' ⟨rfl, hR⟩
  have R : Hid _ := hR
  clear hR
  go_wp2
  go_ret
  exact ⟨rfl, R.out⟩
set_option maxRecDepth 100000 in
set_option maxHeartbeats 2000000 in
theorem putConst_bd (w : World) (P : Nat) (u1 u3 : Value) (vs : List Vl) (c : Int) (base : Nat) (R : Option Nat) (vv : Value) (n : Int) (K : Nat) (h : BS w P u1 u3 vs c base R vv) (hn : vs.length ≤ 1000000) (hc0 : -1000000000 ≤ c) (hc1 : c ≤ 1000000000) (hl0 : -1000000000 ≤ n) (hl1 : n ≤ 1000000000) :
    Calls Try.prog 187 #[.pointer (some ⟨P, 0, none⟩), .int .i64 n, .float .f64 K] w fun e w' => Bd w P u1 u3 vs c base R ([⟨1, n, 0, 0, 0, K⟩], (vs.length : Nat)) e w' := by
  have HX : Hid _ := putVal_bd w P u1 u3 vs c base R vv ⟨1, n, 0, 0, 0, K⟩ h hn hc0 hc1 hl0 hl1
  clear h hn hc0 hc1 hl0 hl1
  go_enter Try.func187, Try.ntmps187
  go_wp2_with fail
  refine Calls.mono HX.out ?_
  rintro e w' ⟨rfl, hR⟩
  have R : Hid _ := hR
  clear hR
  go_wp2
  go_ret
  exact ⟨rfl, R.out⟩
set_option maxRecDepth 100000 in
set_option maxHeartbeats 2000000 in
theorem putZeros_bd (w : World) (P : Nat) (u1 u3 : Value) (vs : List Vl) (c : Int) (base : Nat) (R : Option Nat) (vv : Value) (n : Int) (h : BS w P u1 u3 vs c base R vv) (hn : vs.length ≤ 1000000) (hc0 : -1000000000 ≤ c) (hc1 : c ≤ 1000000000) (hl0 : -1000000000 ≤ n) (hl1 : n ≤ 1000000000) :
    Calls Try.prog 160 #[.pointer (some ⟨P, 0, none⟩), .int .i64 n] w fun e w' => Bd w P u1 u3 vs c base R ([vput 1 n 0 0 0], (vs.length : Nat)) e w' := by
  have HX : Hid _ := putConst_bd w P u1 u3 vs c base R vv n 0 h hn hc0 hc1 hl0 hl1
  clear h hn hc0 hc1 hl0 hl1
  go_enter Try.func160, Try.ntmps160
  go_wp2_with fail
  refine Calls.mono HX.out ?_
  rintro e w' ⟨rfl, hR⟩
  have R : Hid _ := hR
  clear hR
  go_wp2
  go_ret
  exact ⟨rfl, R.out⟩
end Go.Proofs.Ytcphabjekfihnaa

namespace Go.Proofs.Ytcphabjekfihnaa
open Go.RowKit Flt
attribute [local go_sem] alloc_drewN setCell_drewN run_store_float

theorem Bd.none {w : World} {P : Nat} {u1 u3 : Value} {vs : List Vl} {c : Int} {base : Nat} {R : Option Nat} {vv : Value} (h : BS w P u1 u3 vs c base R vv) (r : Int) : Bd w P u1 u3 vs c base R ([], r) (.returned (.int .i64 r)) w :=
  ⟨rfl, R, vv, by simpa [cellsV] using h, StQ.refl _ _ _⟩
theorem Bd.after {w w' w'' : World} {P : Nat} {u1 u3 : Value} {vs a : List Vl} {c : Int} {base : Nat} {R R' : Option Nat} {M : List Vl × Int} {e : Ending} (hs : Stp P R w R' w') (h : Bd w' P u1 u3 (vs ++ a) (c + cellsV a) base R' M e w'') : Bd w P u1 u3 vs c base R (a ++ M.1, M.2) e w'' := by
  obtain ⟨h1, R'', vv'', h2, h3⟩ := h
  refine ⟨h1, R'', vv'', ?_, hs.trans h3⟩
  have e2 : c + cellsV (a ++ M.1) = c + cellsV a + cellsV M.1 := by rw [cellsV_app]; omega
  show BS w'' P u1 u3 (vs ++ (a ++ M.1)) (c + cellsV (a ++ M.1)) base R'' vv''
  rw [e2, ← List.append_assoc]
  exact h2
theorem Bd.kept {w w' w'' : World} {P : Nat} {u1 u3 : Value} {vs : List Vl} {c : Int} {base : Nat} {R : Option Nat} {M : List Vl × Int} {e : Ending} (k : Kept 0 0 w w') (h : Bd w' P u1 u3 vs c base R M e w'') : Bd w P u1 u3 vs c base R M e w'' := by
  obtain ⟨h1, R'', vv'', h2, h3⟩ := h
  exact ⟨h1, R'', vv'', h2, StQ.trans ⟨k.chg, .inl rfl⟩ h3⟩

def sumM (n p q : Int) (N : Nat) : List Vl × Int := if p = -1 then ([], q) else if q = -1 then ([], p) else ([vput 2 n p q 0], N)
def difM (n p q : Int) (N : Nat) : List Vl × Int := if q = -1 then ([], p) else if p = -1 then ([vput 6 n q 0 0], N) else ([vput 3 n p q 0], N)
def chM (n d p q : Int) (N : Nat) : List Vl × Int :=
  if p = -1 then (if q = -1 then ([vput 1 n 0 0 0, vput 1 n 0 0 0, vput 8 n d N ((N + 1 : Nat) : Int)], ((N + 2 : Nat) : Int)) else ([vput 1 n 0 0 0, vput 8 n d N q], ((N + 1 : Nat) : Int)))
  else (if q = -1 then ([vput 1 n 0 0 0, vput 8 n d p N], ((N + 1 : Nat) : Int)) else ([vput 8 n d p q], (N : Int)))

set_option maxRecDepth 100000 in
set_option maxHeartbeats 2000000 in
theorem putSum (w : World) (P : Nat) (u1 u3 : Value) (vs : List Vl) (c : Int) (base : Nat) (R : Option Nat) (vv : Value) (n p q : Int) (h : BS w P u1 u3 vs c base R vv) (b : Bnd vs c n) :
    Calls Try.prog 181 #[.pointer (some ⟨P, 0, none⟩), .int .i64 n, .int .i64 p, .int .i64 q] w fun e w' => Bd w P u1 u3 vs c base R (sumM n p q vs.length) e w' := by
  have HX : Hid _ := put_bd w P u1 u3 vs c base R vv 2 n p q 0 h (by have := b.l; omega) (by have := b.c0; omega) (by have := b.c1; omega) (by have := b.n0; omega) (by have := b.n1; omega)
  have HB : Hid _ := h
  clear h b
  unfold sumM
  by_cases hp : p = -1
  · subst hp
    rw [if_pos rfl]
    have R0 : Hid (∃ R' vv', BS w P u1 u3 (vs ++ []) (c + cellsV []) base R' vv' ∧ Stp P R w R' w) := (Bd.none HB.out q).2
    clear HX HB
    go_enter Try.func181, Try.ntmps181
    go_wp2
    go_ret
    exact ⟨rfl, R0.out⟩
  · rw [if_neg hp]
    have tp : (p == -1) = false := beq_eq_false_iff_ne.2 hp
    by_cases hq : q = -1
    · subst hq
      rw [if_pos rfl]
      have R0 : Hid (∃ R' vv', BS w P u1 u3 (vs ++ []) (c + cellsV []) base R' vv' ∧ Stp P R w R' w) := (Bd.none HB.out p).2
      clear HX HB hp
      go_enter Try.func181, Try.ntmps181
      go_wp2
      go_ret
      exact ⟨rfl, R0.out⟩
    · rw [if_neg hq]
      have tq : (q == -1) = false := beq_eq_false_iff_ne.2 hq
      clear hp hq
      go_enter Try.func181, Try.ntmps181
      go_wp2_with fail
      refine Calls.mono HX.out ?_
      rintro e w' ⟨rfl, hR⟩
      have R : Hid _ := hR
      clear hR
      go_wp2
      go_ret
      exact ⟨rfl, R.out⟩

set_option maxRecDepth 100000 in
set_option maxHeartbeats 2000000 in
theorem putDif (w : World) (P : Nat) (u1 u3 : Value) (vs : List Vl) (c : Int) (base : Nat) (R : Option Nat) (vv : Value) (n p q : Int) (h : BS w P u1 u3 vs c base R vv) (b : Bnd vs c n) :
    Calls Try.prog 182 #[.pointer (some ⟨P, 0, none⟩), .int .i64 n, .int .i64 p, .int .i64 q] w fun e w' => Bd w P u1 u3 vs c base R (difM n p q vs.length) e w' := by
  have HX : Hid (∀ op x y z, _) := fun op x y z => put_bd w P u1 u3 vs c base R vv op n x y z h (by have := b.l; omega) (by have := b.c0; omega) (by have := b.c1; omega) (by have := b.n0; omega) (by have := b.n1; omega)
  have HB : Hid _ := h
  clear h b
  unfold difM
  by_cases hq : q = -1
  · subst hq
    rw [if_pos rfl]
    have R0 : Hid (∃ R' vv', BS w P u1 u3 (vs ++ []) (c + cellsV []) base R' vv' ∧ Stp P R w R' w) := (Bd.none HB.out p).2
    clear HX HB
    go_enter Try.func182, Try.ntmps182
    go_wp2
    go_ret
    exact ⟨rfl, R0.out⟩
  · rw [if_neg hq]
    have tq : (q == -1) = false := beq_eq_false_iff_ne.2 hq
    by_cases hp : p = -1
    · subst hp
      rw [if_pos rfl]
      clear hq
      go_enter Try.func182, Try.ntmps182
      go_wp2_with fail
      refine Calls.mono (HX.out 6 q 0 0) ?_
      rintro e w' ⟨rfl, hR⟩
      have R : Hid _ := hR
      clear hR
      go_wp2
      go_ret
      exact ⟨rfl, R.out⟩
    · rw [if_neg hp]
      have tp : (p == -1) = false := beq_eq_false_iff_ne.2 hp
      clear hp hq
      go_enter Try.func182, Try.ntmps182
      go_wp2_with fail
      refine Calls.mono (HX.out 3 p q 0) ?_
      rintro e w' ⟨rfl, hR⟩
      have R : Hid _ := hR
      clear hR
      go_wp2
      go_ret
      exact ⟨rfl, R.out⟩

/-- put and putZeros behind a step of the builder. -/
theorem put_next {w w1 : World} {P : Nat} {u1 u3 : Value} {vs a : List Vl} {c : Int} {base : Nat} {R R1 : Option Nat} {vv : Value} (h : BS w1 P u1 u3 (vs ++ a) (c + cellsV a) base R1 vv) (s : Stp P R w R1 w1) (hl : vs.length + a.length ≤ 1000000) (h0 : -1000000000 ≤ c + cellsV a) (h1 : c + cellsV a ≤ 1000000000) (op n p q r : Int) (hn0 : -1000 ≤ n) (hn1 : n ≤ 1000) :
    Calls Try.prog 185 #[.pointer (some ⟨P, 0, none⟩), .int .i64 op, .int .i64 n, .int .i64 p, .int .i64 q, .int .i64 r] w1 fun e w' => Bd w P u1 u3 vs c base R (a ++ [vput op n p q r], ((vs.length + a.length : Nat) : Int)) e w' :=
  (put_bd w1 P u1 u3 (vs ++ a) (c + cellsV a) base R1 vv op n p q r h (by rw [List.length_append]; exact hl) h0 h1 (by omega) (by omega)).mono fun e w' hb => by
    rw [List.length_append] at hb
    exact Bd.after s hb
theorem zeros_next {w w1 : World} {P : Nat} {u1 u3 : Value} {vs a : List Vl} {c : Int} {base : Nat} {R R1 : Option Nat} {vv : Value} (h : BS w1 P u1 u3 (vs ++ a) (c + cellsV a) base R1 vv) (s : Stp P R w R1 w1) (hl : vs.length + a.length ≤ 1000000) (h0 : -1000000000 ≤ c + cellsV a) (h1 : c + cellsV a ≤ 1000000000) (n : Int) (hn0 : -1000 ≤ n) (hn1 : n ≤ 1000) :
    Calls Try.prog 160 #[.pointer (some ⟨P, 0, none⟩), .int .i64 n] w1 fun e w' => Bd w P u1 u3 vs c base R (a ++ [vput 1 n 0 0 0], ((vs.length + a.length : Nat) : Int)) e w' :=
  (putZeros_bd w1 P u1 u3 (vs ++ a) (c + cellsV a) base R1 vv n h (by rw [List.length_append]; exact hl) h0 h1 (by omega) (by omega)).mono fun e w' hb => by
    rw [List.length_append] at hb
    exact Bd.after s hb

set_option maxRecDepth 100000 in
set_option maxHeartbeats 4000000 in
theorem putChoice (w : World) (P : Nat) (u1 u3 : Value) (vs : List Vl) (c : Int) (base : Nat) (R : Option Nat) (vv : Value) (n d p q : Int) (h : BS w P u1 u3 vs c base R vv) (b : Bnd vs c n) :
    Calls Try.prog 186 #[.pointer (some ⟨P, 0, none⟩), .int .i64 n, .int .i64 d, .int .i64 p, .int .i64 q] w fun e w' => Bd w P u1 u3 vs c base R (chM n d p q vs.length) e w' := by
  have HX : Hid (∀ {w1 : World} {a : List Vl} {R1 : Option Nat} {vv : Value}, BS w1 P u1 u3 (vs ++ a) (c + cellsV a) base R1 vv → Stp P R w R1 w1 → a.length ≤ 10 → -100000 ≤ cellsV a → cellsV a ≤ 100000 → ∀ op p q r, _) := fun h s l0 l1 l2 op p q r => put_next h s (by have := b.l; omega) (by have := b.c0; omega) (by have := b.c1; omega) op n p q r b.n0 b.n1
  have HY : Hid (∀ {w1 : World} {a : List Vl} {R1 : Option Nat} {vv : Value}, BS w1 P u1 u3 (vs ++ a) (c + cellsV a) base R1 vv → Stp P R w R1 w1 → a.length ≤ 10 → -100000 ≤ cellsV a → cellsV a ≤ 100000 → _) := fun h s l0 l1 l2 => zeros_next h s (by have := b.l; omega) (by have := b.c0; omega) (by have := b.c1; omega) n b.n0 b.n1
  have HB : Hid (BS w P u1 u3 (vs ++ []) (c + cellsV []) base R vv) := by show BS _ _ _ _ _ _ _ _ _; simpa [cellsV] using h
  have HN : Hid (-1000 ≤ n ∧ n ≤ 1000) := ⟨b.n0, b.n1⟩
  clear h b
  unfold chM
  by_cases hp : p = -1
  · subst hp
    rw [if_pos rfl]
    by_cases hq : q = -1
    · subst hq
      rw [if_pos rfl]
      go_enter Try.func186, Try.ntmps186
      go_wp2_with fail
      refine Calls.mono (HY.out HB.out (StQ.refl _ _ _) (by simp) (by simp [cellsV]) (by simp [cellsV])) ?_
      rintro e w1 ⟨rfl, R1, vv1, h1, s1⟩
      have H1 : Hid _ := h1
      have S1 : Hid _ := s1
      clear h1 s1
      go_wp2_with fail
      refine Calls.mono (HY.out H1.out S1.out (by simp) (by simp [cellsV]; have := HN.out; omega) (by simp [cellsV]; have := HN.out; omega)) ?_
      rintro e w2 ⟨rfl, R2, vv2, h2, s2⟩
      have H2 : Hid _ := h2
      have S2 : Hid _ := s2
      clear h2 s2
      go_wp2_with fail
      refine Calls.mono (HX.out H2.out S2.out (by simp) (by simp [cellsV]; have := HN.out; omega) (by simp [cellsV]; have := HN.out; omega) 8 d _ _) ?_
      rintro e w3 ⟨rfl, hR⟩
      have R : Hid _ := hR
      clear hR
      go_wp2
      go_ret
      exact ⟨rfl, R.out⟩
    · rw [if_neg hq]
      have tq : (q == -1) = false := beq_eq_false_iff_ne.2 hq
      clear hq
      go_enter Try.func186, Try.ntmps186
      go_wp2_with fail
      refine Calls.mono (HY.out HB.out (StQ.refl _ _ _) (by simp) (by simp [cellsV]) (by simp [cellsV])) ?_
      rintro e w1 ⟨rfl, R1, vv1, h1, s1⟩
      have H1 : Hid _ := h1
      have S1 : Hid _ := s1
      clear h1 s1
      go_wp2_with fail
      refine Calls.mono (HX.out H1.out S1.out (by simp) (by simp [cellsV]; have := HN.out; omega) (by simp [cellsV]; have := HN.out; omega) 8 d _ _) ?_
      rintro e w3 ⟨rfl, hR⟩
      have R : Hid _ := hR
      clear hR
      go_wp2
      go_ret
      exact ⟨rfl, R.out⟩
  · rw [if_neg hp]
    have tp : (p == -1) = false := beq_eq_false_iff_ne.2 hp
    clear hp
    by_cases hq : q = -1
    · subst hq
      rw [if_pos rfl]
      go_enter Try.func186, Try.ntmps186
      go_wp2_with fail
      refine Calls.mono (HY.out HB.out (StQ.refl _ _ _) (by simp) (by simp [cellsV]) (by simp [cellsV])) ?_
      rintro e w1 ⟨rfl, R1, vv1, h1, s1⟩
      have H1 : Hid _ := h1
      have S1 : Hid _ := s1
      clear h1 s1
      go_wp2_with fail
      refine Calls.mono (HX.out H1.out S1.out (by simp) (by simp [cellsV]; have := HN.out; omega) (by simp [cellsV]; have := HN.out; omega) 8 d _ _) ?_
      rintro e w3 ⟨rfl, hR⟩
      have R : Hid _ := hR
      clear hR
      go_wp2
      go_ret
      exact ⟨rfl, R.out⟩
    · rw [if_neg hq]
      have tq : (q == -1) = false := beq_eq_false_iff_ne.2 hq
      clear hq
      go_enter Try.func186, Try.ntmps186
      go_wp2_with fail
      refine Calls.mono (HX.out HB.out (StQ.refl _ _ _) (by simp) (by simp [cellsV]) (by simp [cellsV]) 8 d _ _) ?_
      rintro e w3 ⟨rfl, hR⟩
      have R : Hid _ := hR
      clear hR
      go_wp2
      go_ret
      exact ⟨rfl, R.out⟩
end Go.Proofs.Ytcphabjekfihnaa

namespace Go.Proofs.Ytcphabjekfihnaa
open Go.RowKit Flt
attribute [local go_sem] alloc_drewN setCell_drewN run_store_float

def mulM (v : Vl) (ta tb : Int) (N : Nat) : List Vl × Int :=
  if ta = -1 then (if tb = -1 then ([], -1) else ([vput 4 v.len v.a tb 0], (N : Int)))
  else (if tb = -1 then ([vput 4 v.len ta v.b 0], (N : Int)) else ([vput 4 v.len ta v.b 0, vput 4 v.len v.a tb 0, vput 2 v.len N ((N + 1 : Nat) : Int) 0], ((N + 2 : Nat) : Int)))
def divM (i : Int) (v : Vl) (ta tb : Int) (N : Nat) : List Vl × Int :=
  if ta = -1 then (if tb = -1 then ([], -1) else ([vput 4 v.len i tb 0, vput 5 v.len N v.b 0, vput 6 v.len ((N + 1 : Nat) : Int) 0 0], ((N + 2 : Nat) : Int)))
  else (if tb = -1 then ([vput 5 v.len ta v.b 0], (N : Int)) else ([vput 5 v.len ta v.b 0, vput 4 v.len i tb 0, vput 5 v.len ((N + 1 : Nat) : Int) v.b 0, vput 3 v.len N ((N + 2 : Nat) : Int) 0], ((N + 3 : Nat) : Int)))

/-- putSum and putDifference behind a step of the builder. -/
theorem sum_next {w w1 : World} {P : Nat} {u1 u3 : Value} {vs a : List Vl} {c : Int} {base : Nat} {R R1 : Option Nat} {vv : Value} (h : BS w1 P u1 u3 (vs ++ a) (c + cellsV a) base R1 vv) (s : Stp P R w R1 w1) {n : Int} (b : Bnd (vs ++ a) (c + cellsV a) n) (p q : Int) :
    Calls Try.prog 181 #[.pointer (some ⟨P, 0, none⟩), .int .i64 n, .int .i64 p, .int .i64 q] w1 fun e w' => Bd w P u1 u3 vs c base R (a ++ (sumM n p q (vs.length + a.length)).1, (sumM n p q (vs.length + a.length)).2) e w' :=
  (putSum w1 P u1 u3 (vs ++ a) (c + cellsV a) base R1 vv n p q h b).mono fun e w' hb => by
    rw [List.length_append] at hb
    exact Bd.after s hb
theorem dif_next {w w1 : World} {P : Nat} {u1 u3 : Value} {vs a : List Vl} {c : Int} {base : Nat} {R R1 : Option Nat} {vv : Value} (h : BS w1 P u1 u3 (vs ++ a) (c + cellsV a) base R1 vv) (s : Stp P R w R1 w1) {n : Int} (b : Bnd (vs ++ a) (c + cellsV a) n) (p q : Int) :
    Calls Try.prog 182 #[.pointer (some ⟨P, 0, none⟩), .int .i64 n, .int .i64 p, .int .i64 q] w1 fun e w' => Bd w P u1 u3 vs c base R (a ++ (difM n p q (vs.length + a.length)).1, (difM n p q (vs.length + a.length)).2) e w' :=
  (putDif w1 P u1 u3 (vs ++ a) (c + cellsV a) base R1 vv n p q h b).mono fun e w' hb => by
    rw [List.length_append] at hb
    exact Bd.after s hb
theorem BS.keep {w w' : World} {P : Nat} {u1 u3 : Value} {vs : List Vl} {c : Int} {base : Nat} {R : Option Nat} {vv : Value} (h : BS w P u1 u3 vs c base R vv) (k : Kept 0 0 w w') : BS w' P u1 u3 vs c base R vv :=
  ⟨Nat.lt_of_lt_of_le h.lt k.size, fun o => by rw [k.frozen (p := ⟨P, o, none⟩) h.lt (by omega)]; exact h.free o, kcell k h.lt h.c0, kcell k h.lt h.c1, kcell k h.lt h.c2, kcell k h.lt h.c3, own_keepJ h.own k, h.row, h.ne, Nat.le_trans h.sz k.size⟩
theorem BS.far {w : World} {P : Nat} {u1 u3 : Value} {vs : List Vl} {c : Int} {base : Nat} {R : Option Nat} {vv : Value} (h : BS w P u1 u3 vs c base R vv) : w.heap.size ≠ P ∧ R ≠ some w.heap.size :=
  ⟨by have := h.lt; omega, fun e => by have := (own_blkV h.own (h.row.trans e)).2; omega⟩
theorem At.step {w w' : World} {P : Nat} {R R' : Option Nat} {B o : Nat} {v : Vl} (a : At w B o v) (s : Stp P R w R' w') (hB : B < w.heap.size) (hf : B ≠ P ∧ R ≠ some B) : At w' B o v := by
  have e : ∀ k, w'.cell? ⟨B, k, none⟩ = w.cell? ⟨B, k, none⟩ := fun k => s.chg.cell (p := ⟨B, k, none⟩) hB (by rintro (c | c); exact hf.1 c; exact hf.2 c)
  exact ⟨by rw [e]; exact a.c0, by rw [e]; exact a.c1, by rw [e]; exact a.c2, by rw [e]; exact a.c3, by rw [e]; exact a.c4, by rw [e]; exact a.c5⟩
structure Bnd0 (vs : List Vl) (c : Int) (n : Int) : Prop where
  l : vs.length ≤ 800000
  c0 : -800000000 ≤ c
  c1 : c ≤ 800000000
  n0 : -1000 ≤ n
  n1 : n ≤ 1000
theorem Bd.cast {w w' : World} {P : Nat} {u1 u3 : Value} {vs : List Vl} {c : Int} {base : Nat} {R : Option Nat} {M M' : List Vl × Int} {e : Ending} (e1 : M = M') (h : Bd w P u1 u3 vs c base R M e w') : Bd w P u1 u3 vs c base R M' e w' := e1 ▸ h
theorem sumM_pq {n p q : Int} {N : Nat} (hp : p ≠ -1) (hq : q ≠ -1) : sumM n p q N = ([vput 2 n p q 0], (N : Int)) := by unfold sumM; rw [if_neg hp, if_neg hq]
theorem sumM_p {n p : Int} {N : Nat} (hp : p ≠ -1) : sumM n p (-1) N = ([], p) := by unfold sumM; rw [if_neg hp, if_pos rfl]
theorem sumM_q {n q : Int} {N : Nat} : sumM n (-1) q N = ([], q) := by unfold sumM; rw [if_pos rfl]
theorem difM_pq {n p q : Int} {N : Nat} (hp : p ≠ -1) (hq : q ≠ -1) : difM n p q N = ([vput 3 n p q 0], (N : Int)) := by unfold difM; rw [if_neg hq, if_neg hp]
theorem difM_p {n p : Int} {N : Nat} : difM n p (-1) N = ([], p) := by unfold difM; rw [if_pos rfl]
theorem difM_q {n q : Int} {N : Nat} (hq : q ≠ -1) : difM n (-1) q N = ([vput 6 n q 0 0], (N : Int)) := by unfold difM; rw [if_neg hq, if_pos rfl]

set_option maxRecDepth 100000 in
set_option maxHeartbeats 4000000 in
theorem product (w : World) (P : Nat) (u1 u3 : Value) (vs : List Vl) (c : Int) (base : Nat) (R : Option Nat) (vv : Value) (v : Vl) (ta tb : Int) (h : BS w P u1 u3 vs c base R vv) (b : Bnd0 vs c v.len) :
    Calls Try.prog 183 #[.pointer (some ⟨P, 0, none⟩), v.agg, .int .i64 ta, .int .i64 tb] w fun e w' => Bd w P u1 u3 vs c base R (mulM v ta tb vs.length) e w' := by
  have k0 := kept_alloc 0 0 w (vbox v.op v.len v.a v.b v.c v.k)
  have hv := vbox_atJ w v
  have hf := h.far
  have h' := h.keep k0
  have HX : Hid (∀ {w1 : World} {a : List Vl} {R1 : Option Nat} {vv : Value}, BS w1 P u1 u3 (vs ++ a) (c + cellsV a) base R1 vv → Stp P R (w.alloc (vbox v.op v.len v.a v.b v.c v.k)) R1 w1 → a.length ≤ 10 → -100000 ≤ cellsV a → cellsV a ≤ 100000 → ∀ op p q r, _) := fun h s l0 l1 l2 op p q r => put_next h s (by have := b.l; omega) (by have := b.c0; omega) (by have := b.c1; omega) op v.len p q r b.n0 b.n1
  have HY : Hid (∀ {w1 : World} {a : List Vl} {R1 : Option Nat} {vv : Value}, BS w1 P u1 u3 (vs ++ a) (c + cellsV a) base R1 vv → Stp P R (w.alloc (vbox v.op v.len v.a v.b v.c v.k)) R1 w1 → a.length ≤ 10 → -100000 ≤ cellsV a → cellsV a ≤ 100000 → ∀ p q, _) := fun {w1 a R1 vv} h s l0 l1 l2 p q => sum_next (n := v.len) h s ⟨by rw [List.length_append]; have := b.l; omega, by have := b.c0; omega, by have := b.c1; omega, b.n0, b.n1⟩ p q
  have HB : Hid (BS (w.alloc (vbox v.op v.len v.a v.b v.c v.k)) P u1 u3 (vs ++ []) (c + cellsV []) base R vv) := by show BS _ _ _ _ _ _ _ _ _; simpa [cellsV] using h'
  have HN : Hid (-1000 ≤ v.len ∧ v.len ≤ 1000) := ⟨b.n0, b.n1⟩
  have HK : Hid _ := k0
  have HV : Hid (∀ {w1 : World} {R1 : Option Nat}, Stp P R (w.alloc (vbox v.op v.len v.a v.b v.c v.k)) R1 w1 → At w1 w.heap.size 0 v) := fun s => hv.step s (by simp) hf
  clear h h' b k0 hf hv
  obtain ⟨v0, v1, v2, v3, v4, v5⟩ := HV.out (StQ.refl _ _ _)
  unfold mulM
  by_cases hp : ta = -1
  · subst hp
    rw [if_pos rfl]
    by_cases hq : tb = -1
    · subst hq
      rw [if_pos rfl]
      go_enter Try.func183, Try.ntmps183
      go_wp2_with fail
      refine Calls.mono (HY.out HB.out (StQ.refl _ _ _) (by simp) (by simp [cellsV]) (by simp [cellsV]) (-1) (-1)) ?_
      rintro e w9 hb
      obtain ⟨rfl, hR⟩ := Bd.cast (M' := _) (by rw [sumM_q]) (Bd.kept HK.out hb)
      have R : Hid _ := hR
      clear hR hb
      go_wp2
      go_ret
      exact ⟨rfl, R.out⟩
    · rw [if_neg hq]
      have tq : (tb != -1) = true := by simpa using hq
      go_enter Try.func183, Try.ntmps183
      go_wp2_with fail
      refine Calls.mono (HX.out HB.out (StQ.refl _ _ _) (by simp) (by simp [cellsV]; try (have := HN.out; omega)) (by simp [cellsV]; try (have := HN.out; omega)) 4 v.a tb 0) ?_
      rintro e w1 ⟨rfl, R1, vv1, h1, s1⟩
      have H1 : Hid _ := h1
      have S1 : Hid _ := s1
      clear h1 s1 v0 v1 v2 v3 v4 v5
      obtain ⟨v0, v1, v2, v3, v4, v5⟩ := HV.out S1.out
      go_wp2_with fail
      refine Calls.mono (HY.out H1.out S1.out (by simp) (by simp [cellsV]; try (have := HN.out; omega)) (by simp [cellsV]; try (have := HN.out; omega)) (-1) _) ?_
      rintro e w9 hb
      obtain ⟨rfl, hR⟩ := Bd.cast (M' := _) (by rw [sumM_q]) (Bd.kept HK.out hb)
      have R : Hid _ := hR
      clear hR hb
      go_wp2
      go_ret
      exact ⟨rfl, R.out⟩
  · rw [if_neg hp]
    have tp : (ta != -1) = true := by simpa using hp
    by_cases hq : tb = -1
    · subst hq
      rw [if_pos rfl]
      go_enter Try.func183, Try.ntmps183
      go_wp2_with fail
      refine Calls.mono (HX.out HB.out (StQ.refl _ _ _) (by simp) (by simp [cellsV]; try (have := HN.out; omega)) (by simp [cellsV]; try (have := HN.out; omega)) 4 ta v.b 0) ?_
      rintro e w1 ⟨rfl, R1, vv1, h1, s1⟩
      have H1 : Hid _ := h1
      have S1 : Hid _ := s1
      clear h1 s1 v0 v1 v2 v3 v4 v5
      obtain ⟨v0, v1, v2, v3, v4, v5⟩ := HV.out S1.out
      go_wp2_with fail
      refine Calls.mono (HY.out H1.out S1.out (by simp) (by simp [cellsV]; try (have := HN.out; omega)) (by simp [cellsV]; try (have := HN.out; omega)) _ (-1)) ?_
      rintro e w9 hb
      obtain ⟨rfl, hR⟩ := Bd.cast (M' := _) (by rw [sumM_p (by omega)]) (Bd.kept HK.out hb)
      have R : Hid _ := hR
      clear hR hb
      go_wp2
      go_ret
      exact ⟨rfl, R.out⟩
    · rw [if_neg hq]
      have tq : (tb != -1) = true := by simpa using hq
      go_enter Try.func183, Try.ntmps183
      go_wp2_with fail
      refine Calls.mono (HX.out HB.out (StQ.refl _ _ _) (by simp) (by simp [cellsV]; try (have := HN.out; omega)) (by simp [cellsV]; try (have := HN.out; omega)) 4 ta v.b 0) ?_
      rintro e w1 ⟨rfl, R1, vv1, h1, s1⟩
      have H1 : Hid _ := h1
      have S1 : Hid _ := s1
      clear h1 s1 v0 v1 v2 v3 v4 v5
      obtain ⟨v0, v1, v2, v3, v4, v5⟩ := HV.out S1.out
      go_wp2_with fail
      refine Calls.mono (HX.out H1.out S1.out (by simp) (by simp [cellsV]; try (have := HN.out; omega)) (by simp [cellsV]; try (have := HN.out; omega)) 4 v.a tb 0) ?_
      rintro e w2 ⟨rfl, R2, vv2, h2, s2⟩
      have H2 : Hid _ := h2
      have S2 : Hid _ := s2
      clear h2 s2 v0 v1 v2 v3 v4 v5
      obtain ⟨v0, v1, v2, v3, v4, v5⟩ := HV.out S2.out
      go_wp2_with fail
      refine Calls.mono (HY.out H2.out S2.out (by simp) (by simp [cellsV]; try (have := HN.out; omega)) (by simp [cellsV]; try (have := HN.out; omega)) _ _) ?_
      rintro e w9 hb
      obtain ⟨rfl, hR⟩ := Bd.cast (M' := _) (by rw [sumM_pq (by omega) (by omega)]) (Bd.kept HK.out hb)
      have R : Hid _ := hR
      clear hR hb
      go_wp2
      go_ret
      exact ⟨rfl, R.out⟩
end Go.Proofs.Ytcphabjekfihnaa

namespace Go.Proofs.Ytcphabjekfihnaa
open Go.RowKit Flt
attribute [local go_sem] alloc_drewN setCell_drewN run_store_float

/-- The builder's values, read. -/
theorem BS.read {w : World} {P : Nat} {u1 u3 : Value} {vs : List Vl} {c : Int} {base : Nat} {R : Option Nat} {vv : Value} (h : BS w P u1 u3 vs c base R vv) (hn : 0 < vs.length) :
    ∃ g cap, vv = .slice (some ⟨g, 0, none⟩) vs.length cap ∧ g < w.heap.size ∧ ∀ i, i < vs.length → At w g (i * 6) (vs.getD i Vl.zero) := by
  obtain ⟨g, cap, e, _, hg, _, hA⟩ := row_at h.own hn rfl
  exact ⟨g, cap, e, hg, hA.at_⟩

set_option maxRecDepth 100000 in
set_option maxHeartbeats 4000000 in
theorem quotientJ (w : World) (P : Nat) (u1 u3 : Value) (vs : List Vl) (c : Int) (base : Nat) (R : Option Nat) (vv : Value) (i : Nat) (v : Vl) (ta tb : Int) (h : BS w P u1 u3 vs c base R vv) (hi : i < vs.length) (hv' : vs.getD i Vl.zero = v) (b : Bnd0 vs c v.len) :
    Calls Try.prog 184 #[.pointer (some ⟨P, 0, none⟩), .int .i64 (i : Int), .int .i64 ta, .int .i64 tb] w fun e w' => Bd w P u1 u3 vs c base R (divM (i : Int) v ta tb vs.length) e w' := by
  have k0 := kept_alloc 0 0 w (vbox v.op v.len v.a v.b v.c v.k)
  have hv := vbox_atJ w v
  have hf := h.far
  have h' := h.keep k0
  obtain ⟨g, cap, rfl, hg, hA⟩ := h.read (by omega)
  have z1 := h.c1
  have hat := hA i hi
  rw [hv'] at hat
  have HX : Hid (∀ {w1 : World} {a : List Vl} {R1 : Option Nat} {vv : Value}, BS w1 P u1 u3 (vs ++ a) (c + cellsV a) base R1 vv → Stp P R (w.alloc (vbox v.op v.len v.a v.b v.c v.k)) R1 w1 → a.length ≤ 10 → -100000 ≤ cellsV a → cellsV a ≤ 100000 → ∀ op p q r, _) := fun h s l0 l1 l2 op p q r => put_next h s (by have := b.l; omega) (by have := b.c0; omega) (by have := b.c1; omega) op v.len p q r b.n0 b.n1
  have HY : Hid (∀ {w1 : World} {a : List Vl} {R1 : Option Nat} {vv : Value}, BS w1 P u1 u3 (vs ++ a) (c + cellsV a) base R1 vv → Stp P R (w.alloc (vbox v.op v.len v.a v.b v.c v.k)) R1 w1 → a.length ≤ 10 → -100000 ≤ cellsV a → cellsV a ≤ 100000 → ∀ p q, _) := fun {w1 a R1 vv} h s l0 l1 l2 p q => dif_next (n := v.len) h s ⟨by rw [List.length_append]; have := b.l; omega, by have := b.c0; omega, by have := b.c1; omega, b.n0, b.n1⟩ p q
  have HB : Hid (BS (w.alloc (vbox v.op v.len v.a v.b v.c v.k)) P u1 u3 (vs ++ []) (c + cellsV []) base R (.slice (some ⟨g, 0, none⟩) vs.length cap)) := by show BS _ _ _ _ _ _ _ _ _; simpa [cellsV] using h'
  have HN : Hid (-1000 ≤ v.len ∧ v.len ≤ 1000) := ⟨b.n0, b.n1⟩
  have HK : Hid _ := k0
  have HV : Hid (∀ {w1 : World} {R1 : Option Nat}, Stp P R (w.alloc (vbox v.op v.len v.a v.b v.c v.k)) R1 w1 → At w1 w.heap.size 0 v) := fun s => hv.step s (by simp) hf
  clear h h' b k0 hf hv hA hg hv'
  obtain ⟨d0, d1, d2, d3, d4, d5⟩ := hat
  obtain ⟨v0, v1, v2, v3, v4, v5⟩ := HV.out (StQ.refl _ _ _)
  unfold divM
  by_cases hp : ta = -1
  · subst hp
    rw [if_pos rfl]
    by_cases hq : tb = -1
    · subst hq
      rw [if_pos rfl]
      go_enter Try.func184, Try.ntmps184
      go_wp2_with fail
      clear d0 d1 d2 d3 d4 d5 z1
      refine Calls.mono (HY.out HB.out (StQ.refl _ _ _) (by simp) (by simp [cellsV]; try (have := HN.out; omega)) (by simp [cellsV]; try (have := HN.out; omega)) (-1) (-1)) ?_
      rintro e w9 hb
      obtain ⟨rfl, hR⟩ := Bd.cast (M' := _) (by rw [difM_p]) (Bd.kept HK.out hb)
      have R : Hid _ := hR
      clear hR hb
      go_wp2
      go_ret
      exact ⟨rfl, R.out⟩
    · rw [if_neg hq]
      have tq : (tb != -1) = true := by simpa using hq
      go_enter Try.func184, Try.ntmps184
      go_wp2_with fail
      clear d0 d1 d2 d3 d4 d5 z1
      refine Calls.mono (HX.out HB.out (StQ.refl _ _ _) (by simp) (by simp [cellsV]; try (have := HN.out; omega)) (by simp [cellsV]; try (have := HN.out; omega)) 4 i tb 0) ?_
      rintro e w1 ⟨rfl, R1, vv1, h1, s1⟩
      have H1 : Hid _ := h1
      have S1 : Hid _ := s1
      clear h1 s1 v0 v1 v2 v3 v4 v5
      obtain ⟨v0, v1, v2, v3, v4, v5⟩ := HV.out S1.out
      go_wp2_with fail
      refine Calls.mono (HX.out H1.out S1.out (by simp) (by simp [cellsV]; try (have := HN.out; omega)) (by simp [cellsV]; try (have := HN.out; omega)) 5 _ v.b 0) ?_
      rintro e w2 ⟨rfl, R2, vv2, h2, s2⟩
      have H2 : Hid _ := h2
      have S2 : Hid _ := s2
      clear h2 s2 v0 v1 v2 v3 v4 v5
      obtain ⟨v0, v1, v2, v3, v4, v5⟩ := HV.out S2.out
      go_wp2_with fail
      refine Calls.mono (HY.out H2.out S2.out (by simp) (by simp [cellsV]; try (have := HN.out; omega)) (by simp [cellsV]; try (have := HN.out; omega)) (-1) _) ?_
      rintro e w9 hb
      obtain ⟨rfl, hR⟩ := Bd.cast (M' := _) (by rw [difM_q (by omega)]) (Bd.kept HK.out hb)
      have R : Hid _ := hR
      clear hR hb
      go_wp2
      go_ret
      exact ⟨rfl, R.out⟩
  · rw [if_neg hp]
    have tp : (ta != -1) = true := by simpa using hp
    by_cases hq : tb = -1
    · subst hq
      rw [if_pos rfl]
      go_enter Try.func184, Try.ntmps184
      go_wp2_with fail
      clear d0 d1 d2 d3 d4 d5 z1
      refine Calls.mono (HX.out HB.out (StQ.refl _ _ _) (by simp) (by simp [cellsV]; try (have := HN.out; omega)) (by simp [cellsV]; try (have := HN.out; omega)) 5 ta v.b 0) ?_
      rintro e w1 ⟨rfl, R1, vv1, h1, s1⟩
      have H1 : Hid _ := h1
      have S1 : Hid _ := s1
      clear h1 s1 v0 v1 v2 v3 v4 v5
      obtain ⟨v0, v1, v2, v3, v4, v5⟩ := HV.out S1.out
      go_wp2_with fail
      refine Calls.mono (HY.out H1.out S1.out (by simp) (by simp [cellsV]; try (have := HN.out; omega)) (by simp [cellsV]; try (have := HN.out; omega)) _ (-1)) ?_
      rintro e w9 hb
      obtain ⟨rfl, hR⟩ := Bd.cast (M' := _) (by rw [difM_p]) (Bd.kept HK.out hb)
      have R : Hid _ := hR
      clear hR hb
      go_wp2
      go_ret
      exact ⟨rfl, R.out⟩
    · rw [if_neg hq]
      have tq : (tb != -1) = true := by simpa using hq
      go_enter Try.func184, Try.ntmps184
      go_wp2_with fail
      clear d0 d1 d2 d3 d4 d5 z1
      refine Calls.mono (HX.out HB.out (StQ.refl _ _ _) (by simp) (by simp [cellsV]; try (have := HN.out; omega)) (by simp [cellsV]; try (have := HN.out; omega)) 5 ta v.b 0) ?_
      rintro e w1 ⟨rfl, R1, vv1, h1, s1⟩
      have H1 : Hid _ := h1
      have S1 : Hid _ := s1
      clear h1 s1 v0 v1 v2 v3 v4 v5
      obtain ⟨v0, v1, v2, v3, v4, v5⟩ := HV.out S1.out
      go_wp2_with fail
      refine Calls.mono (HX.out H1.out S1.out (by simp) (by simp [cellsV]; try (have := HN.out; omega)) (by simp [cellsV]; try (have := HN.out; omega)) 4 i tb 0) ?_
      rintro e w2 ⟨rfl, R2, vv2, h2, s2⟩
      have H2 : Hid _ := h2
      have S2 : Hid _ := s2
      clear h2 s2 v0 v1 v2 v3 v4 v5
      obtain ⟨v0, v1, v2, v3, v4, v5⟩ := HV.out S2.out
      go_wp2_with fail
      refine Calls.mono (HX.out H2.out S2.out (by simp) (by simp [cellsV]; try (have := HN.out; omega)) (by simp [cellsV]; try (have := HN.out; omega)) 5 _ v.b 0) ?_
      rintro e w3 ⟨rfl, R3, vv3, h3, s3⟩
      have H3 : Hid _ := h3
      have S3 : Hid _ := s3
      clear h3 s3 v0 v1 v2 v3 v4 v5
      obtain ⟨v0, v1, v2, v3, v4, v5⟩ := HV.out S3.out
      go_wp2_with fail
      refine Calls.mono (HY.out H3.out S3.out (by simp) (by simp [cellsV]; try (have := HN.out; omega)) (by simp [cellsV]; try (have := HN.out; omega)) _ _) ?_
      rintro e w9 hb
      obtain ⟨rfl, hR⟩ := Bd.cast (M' := _) (by rw [difM_pq (by omega) (by omega)]) (Bd.kept HK.out hb)
      have R : Hid _ := hR
      clear hR hb
      go_wp2
      go_ret
      exact ⟨rfl, R.out⟩
end Go.Proofs.Ytcphabjekfihnaa
