import Derived.Test.YtcphabjekfihnabGreatP01
import Derived.Test.YtcphabjekfihnabGreatP21
import Derived.Test.YtcphabjekfihnabGreatP11
import Derived.Test.YtcphabjekfihnabGreatP06
namespace Go.Proofs.YtcphabjekfihnabGreat
open Go.RowKit Flt

set_option maxHeartbeats 400000 in
theorem specSame (x y : Nat) (w : World) (hx : x < 18446744073709551616) (hy : y < 18446744073709551616) :
    Calls Tryz.prog 82 #[.float .f64 x, .float .f64 y] w fun e w' => e = .returned (.bool ((fb x : Int) == (fb y : Int))) ∧ w' = w := by
  obtain ⟨s, r, hr, rfl⟩ := split_word x hx
  obtain ⟨t, q, hq, rfl⟩ := split_word y hy
  clear hx hy
  by_cases h1 : r ≤ 9218868437227405312
  · have n1 := isn_num (s := s) h1
    by_cases h2 : q ≤ 9218868437227405312
    · have n2 := isn_num (s := t) h2
      rw [fb_num h1, fb_num h2, W_beq hr hq]
      have hE : (FloatKind.f64.format.order (W s r) (W t q) == some .eq) = _ := ord_eq_iff (s := s) (t := t) h1 h2
      by_cases hc : r = q ∧ (s = t ∨ r = 0)
      · rw [decide_eq_true hc] at hE
        rw [show decide (r = q ∧ s = t) = (s == t) by cases s <;> cases t <;> simp [hc.1]]
        clear hc
        go_enter Tryz.func82, Tryz.ntmps82
        go_wp2_with fail
        refine (l1nan_any _ _).mono ?_
        rintro e w' ⟨rfl, rfl⟩
        go_wp2_with fail
        refine (l1nan_any _ _).mono ?_
        rintro e w' ⟨rfl, rfl⟩
        go_wp2_with fail
        refine (l1minus_any s r _ h1).mono ?_
        rintro e w' ⟨rfl, rfl⟩
        go_wp2_with fail
        refine (l1minus_any t q _ h2).mono ?_
        rintro e w' ⟨rfl, rfl⟩
        go_wp2
        go_ret
        exact ⟨rfl, rfl⟩
      · rw [decide_eq_false hc] at hE
        rw [show decide (r = q ∧ s = t) = false from decide_eq_false (fun c => hc ⟨c.1, .inl c.2⟩)]
        clear hc
        go_enter Tryz.func82, Tryz.ntmps82
        go_wp2_with fail
        refine (l1nan_any _ _).mono ?_
        rintro e w' ⟨rfl, rfl⟩
        go_wp2_with fail
        refine (l1nan_any _ _).mono ?_
        rintro e w' ⟨rfl, rfl⟩
        go_wp2
        go_ret
        exact ⟨rfl, rfl⟩
    · have n2 := isn_nan (s := t) (by omega : 9218868437227405312 < q) hq
      rw [fb_num h1, fb_nan (by omega) hq, show (((9221120237041090560 : Nat)) : Int) = 9221120237041090560 from rfl, (W_ne_nan h1).1]
      go_enter Tryz.func82, Tryz.ntmps82
      go_wp2_with fail
      refine (l1nan_any _ _).mono ?_
      rintro e w' ⟨rfl, rfl⟩
      go_wp2_with fail
      refine (l1nan_any _ _).mono ?_
      rintro e w' ⟨rfl, rfl⟩
      go_wp2_with fail
      refine (l1nan_any _ _).mono ?_
      rintro e w' ⟨rfl, rfl⟩
      go_wp2
      go_ret
      exact ⟨rfl, rfl⟩
  · have n1 := isn_nan (s := s) (by omega : 9218868437227405312 < r) hr
    by_cases h2 : q ≤ 9218868437227405312
    · have n2 := isn_num (s := t) h2
      rw [fb_num h2, fb_nan (by omega) hr, show (((9221120237041090560 : Nat)) : Int) = 9221120237041090560 from rfl, (W_ne_nan h2).2]
      go_enter Tryz.func82, Tryz.ntmps82
      go_wp2_with fail
      refine (l1nan_any _ _).mono ?_
      rintro e w' ⟨rfl, rfl⟩
      go_wp2_with fail
      refine (l1nan_any _ _).mono ?_
      rintro e w' ⟨rfl, rfl⟩
      go_wp2_with fail
      refine (l1nan_any _ _).mono ?_
      rintro e w' ⟨rfl, rfl⟩
      go_wp2
      go_ret
      exact ⟨rfl, rfl⟩
    · have n2 := isn_nan (s := t) (by omega : 9218868437227405312 < q) hq
      rw [fb_nan (by omega) hr, fb_nan (by omega) hq, show (((9221120237041090560 : Nat) : Int) == ((9221120237041090560 : Nat) : Int)) = true from beq_self_eq_true _]
      go_enter Tryz.func82, Tryz.ntmps82
      go_wp2_with fail
      refine (l1nan_any _ _).mono ?_
      rintro e w' ⟨rfl, rfl⟩
      go_wp2_with fail
      refine (l1nan_any _ _).mono ?_
      rintro e w' ⟨rfl, rfl⟩
      go_wp2_with fail
      refine (l1nan_any _ _).mono ?_
      rintro e w' ⟨rfl, rfl⟩
      go_wp2
      go_ret
      exact ⟨rfl, rfl⟩

end Go.Proofs.YtcphabjekfihnabGreat

namespace Go.Proofs.YtcphabjekfihnabGreat
open Go.RowKit Flt
attribute [local go_sem] alloc_drewN setCell_drewN run_store_float

set_option maxHeartbeats 400000 in
theorem implFromW (b : Int) (w : World) :
    Calls Tryz.prog 90 #[.int .u64 b] w fun e w' => e = .returned (.float .f64 b.toNat) ∧ w' = w := by
  have hc := call44
  go_enter Tryz.func90, Tryz.ntmps90
  go_wp2
  go_ret
  exact ⟨rfl, rfl⟩
theorem nat_beq (x y : Nat) : ((x : Int) == (y : Int)) = (x == y) := by
  rw [Bool.eq_iff_iff, beq_iff_eq, beq_iff_eq]; omega
def eitherB (op : Int) : Bool := op == 4 || op == 2
set_option maxHeartbeats 400000 in
theorem isEither (op : Int) (w : World) : Calls Tryz.prog 78 #[.int .i64 op] w fun e w' => e = .returned (.bool (eitherB op)) ∧ w' = w := by
  unfold eitherB
  cases t1 : (op == 4)
  · cases t2 : (op == 2)
    all_goals
      go_enter Tryz.func78, Tryz.ntmps78
      go_wp2
      go_ret
      exact ⟨rfl, rfl⟩
  · go_enter Tryz.func78, Tryz.ntmps78
    go_wp2
    go_ret
    exact ⟨rfl, rfl⟩
/-- What leaves the other operand as it is, on the right. -/
def unitF (op : Int) : Nat := if op = 4 ∨ op = 5 then 4607182418800017408 else if op = 2 then 9223372036854775808 else 0
def unitB (op : Int) : Bool := decide (op = 4 ∨ op = 5 ∨ op = 3 ∨ op = 2)
set_option maxRecDepth 100000 in
set_option maxHeartbeats 1000000 in
theorem rightUnit (op : Int) (w : World) : Calls Tryz.prog 76 #[.int .i64 op] w fun e w' => e = .returned (.tuple #[.float .f64 (unitF op), .bool (unitB op)]) ∧ w' = w := by
  rcases (by omega : op = 4 ∨ op = 5 ∨ op = 3 ∨ op = 2 ∨ (op ≠ 4 ∧ op ≠ 5 ∧ op ≠ 3 ∧ op ≠ 2)) with rfl | rfl | rfl | rfl | h
  · go_enter Tryz.func76, Tryz.ntmps76
    go_wp2
    go_ret2
    exact ⟨rfl, rfl⟩
  · go_enter Tryz.func76, Tryz.ntmps76
    go_wp2
    go_ret2
    exact ⟨rfl, rfl⟩
  · go_enter Tryz.func76, Tryz.ntmps76
    go_wp2
    go_ret2
    exact ⟨rfl, rfl⟩
  · go_enter Tryz.func76, Tryz.ntmps76
    go_wp2_with fail
    refine (implFromW _ _).mono ?_
    rintro e w2 ⟨rfl, rfl⟩
    go_wp2
    go_ret2
    exact ⟨rfl, rfl⟩
  · have e1 : unitF op = 0 := by unfold unitF; rw [if_neg (by omega), if_neg (by omega)]
    have e2 : unitB op = false := decide_eq_false (by omega)
    rw [e1, e2]
    have t1 : (op == 4) = false := beq_eq_false_iff_ne.2 h.1
    have t2 : (op == 5) = false := beq_eq_false_iff_ne.2 h.2.1
    have t3 : (op == 3) = false := beq_eq_false_iff_ne.2 h.2.2.1
    have t4 : (op == 2) = false := beq_eq_false_iff_ne.2 h.2.2.2
    clear h e1 e2
    go_enter Tryz.func76, Tryz.ntmps76
    go_wp2
    go_ret2
    exact ⟨rfl, rfl⟩
set_option maxRecDepth 100000 in
set_option maxHeartbeats 1000000 in
theorem isConstOf (w : World) (v : Vl) (k : Nat) : Calls Tryz.prog 77 #[v.agg, .float .f64 k] w fun e w' => e = .returned (.bool (v.op == 1 && fb v.k == fb k)) ∧ Kept 0 0 w w' := by
  have HS : Hid (∀ w, Calls Tryz.prog 89 #[.float .f64 v.k, .float .f64 k] w fun e w' => e = .returned (.bool (fb v.k == fb k)) ∧ w' = w) := fun w => (implSame v.k k w).mono fun _ _ h => ⟨by rw [h.1, nat_beq], h.2⟩
  generalize (fb v.k == fb k) = q at HS ⊢
  cases t : (v.op == 1)
  · go_enter Tryz.func77, Tryz.ntmps77
    go_wp2
    go_ret
    exact ⟨rfl, kept_alloc _ _ _ _⟩
  · go_enter Tryz.func77, Tryz.ntmps77
    go_wp2_with fail
    refine Calls.mono (HS.out _) ?_
    rintro e w2 ⟨rfl, rfl⟩
    go_wp2
    go_ret
    exact ⟨by simp, kept_alloc _ _ _ _⟩

/-! The model's leaves. -/
set_option maxRecDepth 100000 in
set_option maxHeartbeats 2000000 in
theorem l4sameVal (w : World) (u v : Vl) (hu : u.k < 18446744073709551616) (hv : v.k < 18446744073709551616) : Calls Tryz.prog 59 #[u.agg, v.agg] w fun e w' => e = .returned (.bool (alike u v)) ∧ Kept 0 0 w w' := by
  have HS : Hid (∀ w, Calls Tryz.prog 82 #[.float .f64 u.k, .float .f64 v.k] w fun e w' => e = .returned (.bool (fb u.k == fb v.k)) ∧ w' = w) := fun w => (specSame u.k v.k w hu hv).mono fun _ _ h => ⟨by rw [h.1, nat_beq], h.2⟩
  unfold alike
  clear hu hv
  generalize (fb u.k == fb v.k) = q at HS ⊢
  have k2 : ∀ (o o' : Obj), Kept 0 0 w ((w.alloc o).alloc o') := fun o o' => (kept_alloc 0 0 w o).trans (kept_alloc 0 0 _ o')
  have HK : Hid _ := k2
  clear k2
  cases t1 : (u.op == v.op)
  · have s1 : (u.op != v.op) = true := by rw [bne, t1]; rfl
    clear t1
    go_enter Tryz.func59, Tryz.ntmps59
    go_wp2
    go_ret
    exact ⟨rfl, HK.out _ _⟩
  have s1 : (u.op != v.op) = false := by rw [bne, t1]; rfl
  cases t2 : (u.len == v.len)
  · have s2 : (u.len != v.len) = true := by rw [bne, t2]; rfl
    clear t1 t2
    go_enter Tryz.func59, Tryz.ntmps59
    go_wp2
    go_ret
    exact ⟨rfl, HK.out _ _⟩
  have s2 : (u.len != v.len) = false := by rw [bne, t2]; rfl
  cases t3 : (u.a == v.a)
  · have s3 : (u.a != v.a) = true := by rw [bne, t3]; rfl
    clear t1 t2 t3
    go_enter Tryz.func59, Tryz.ntmps59
    go_wp2
    go_ret
    exact ⟨rfl, HK.out _ _⟩
  have s3 : (u.a != v.a) = false := by rw [bne, t3]; rfl
  cases t4 : (u.b == v.b)
  · have s4 : (u.b != v.b) = true := by rw [bne, t4]; rfl
    clear t1 t2 t3 t4
    go_enter Tryz.func59, Tryz.ntmps59
    go_wp2
    go_ret
    exact ⟨rfl, HK.out _ _⟩
  have s4 : (u.b != v.b) = false := by rw [bne, t4]; rfl
  cases t5 : (u.c == v.c)
  · have s5 : (u.c != v.c) = true := by rw [bne, t5]; rfl
    clear t1 t2 t3 t4 t5
    go_enter Tryz.func59, Tryz.ntmps59
    go_wp2
    go_ret
    exact ⟨rfl, HK.out _ _⟩
  have s5 : (u.c != v.c) = false := by rw [bne, t5]; rfl
  cases t6 : (u.op != 1)
  · clear t1 t2 t3 t4 t5
    go_enter Tryz.func59, Tryz.ntmps59
    go_wp2_with fail
    refine Calls.mono (HS.out _) ?_
    rintro e w2 ⟨rfl, rfl⟩
    go_wp2
    go_ret
    exact ⟨by simp, HK.out _ _⟩
  · clear t1 t2 t3 t4 t5
    go_enter Tryz.func59, Tryz.ntmps59
    go_wp2
    go_ret
    exact ⟨by simp, HK.out _ _⟩

set_option maxRecDepth 100000 in
set_option maxHeartbeats 2000000 in
theorem l4isConst (w : World) (a1 a3 : Option Addr) (n1 c1 n2 c2 n3 c3 g2 o2 i : Nat) (v : Vl) (k : Nat) (hg : g2 < w.heap.size) (hi : i < n2) (hat : At w g2 (o2 + i * 6) v) (hv : v.k < 18446744073709551616) (hk : k < 18446744073709551616) :
    Calls Tryz.prog 83 #[gagg a1 n1 c1 (some ⟨g2, o2, none⟩) n2 c2 a3 n3 c3, .int .i64 (i : Int), .float .f64 k] w fun e w' => e = .returned (.bool (v.op == 1 && fb v.k == fb k)) ∧ Kept 0 0 w w' := by
  have HS : Hid (∀ w, Calls Tryz.prog 82 #[.float .f64 v.k, .float .f64 k] w fun e w' => e = .returned (.bool (fb v.k == fb k)) ∧ w' = w) := fun w => (specSame v.k k w hv hk).mono fun _ _ h => ⟨by rw [h.1, nat_beq], h.2⟩
  have hK := kept_alloc 0 0 w (gbox a1 n1 c1 (some ⟨g2, o2, none⟩) n2 c2 a3 n3 c3)
  obtain ⟨e0, e1, e2, e3, e4, e5⟩ := hat.keep hg hK (.inr (.inr (Nat.le_refl _)))
  clear hat hK hv hk
  generalize (fb v.k == fb k) = q at HS ⊢
  cases t : (v.op == 1)
  · go_enter Tryz.func83, Tryz.ntmps83
    go_wp2
    go_ret
    exact ⟨rfl, kept_alloc _ _ _ _⟩
  · go_enter Tryz.func83, Tryz.ntmps83
    go_wp2_with fail
    refine Calls.mono (HS.out _) ?_
    rintro e w2 ⟨rfl, rfl⟩
    go_wp2
    go_ret
    exact ⟨by simp, kept_alloc _ _ _ _⟩

/-- Four of the six cells hold what they held; the operands are being replaced. -/
theorem rnm_cases (tq : List Int) (v : Vl) (q : Nat) (hq : cnt v.op = q) : rnm tq v = ⟨v.op, v.len, if 0 < q then tq.getD v.a.toNat 0 else v.a, if 1 < q then tq.getD v.b.toNat 0 else v.b, if 2 < q then tq.getD v.c.toNat 0 else v.c, v.k⟩ := by
  unfold rnm; rw [hq]
end Go.Proofs.YtcphabjekfihnabGreat

namespace Go.Proofs.YtcphabjekfihnabGreat
open Go.RowKit Flt
attribute [local go_sem] alloc_drewN setCell_drewN run_store_float

theorem Kept.growT {lo hi l h : Nat} {w w' : World} (k : Kept l h w w') (h1 : lo ≤ l) (h2 : h ≤ hi) : Kept lo hi w w' := k.mono fun _ _ c => ⟨by omega, by omega⟩
/-- An own block whose first n cells are ints. -/
structure IBk (w : World) (g n : Nat) (xs : List Int) : Prop where
  len : xs.length = n
  lt : g < w.heap.size
  at_ : ∀ k, k < n → w.cell? ⟨g, k, none⟩ = some (.int .i64 (xs.getD k 0))
  free : ∀ o, w.frozen? ⟨g, o, none⟩ = false
theorem IBk.keep {w w' : World} {g n l h : Nat} {xs : List Int} (f : IBk w g n xs) (k : Kept l h w w') (hd : g < l ∨ h ≤ g ∨ h ≤ l) : IBk w' g n xs :=
  ⟨f.len, Nat.lt_of_lt_of_le f.lt k.size, fun j hj => by rw [k.cell (p := ⟨g, j, none⟩) f.lt (by show ¬ (l ≤ g ∧ g < h); omega)]; exact f.at_ j hj, fun o => by rw [k.frozen (p := ⟨g, o, none⟩) f.lt (by show ¬ (l ≤ g ∧ g < h); omega)]; exact f.free o⟩
theorem IBk.put {w : World} {g n : Nat} {xs : List Int} (f : IBk w g n xs) (j : Nat) (hj : j < n) (x : Int) : IBk (w.setCell ⟨g, j, none⟩ (.int .i64 x)) g n (xs.set j x) where
  len := by rw [List.length_set]; exact f.len
  lt := by simpa using f.lt
  at_ := fun k hk => by
    rw [List.getD_eq_getElem?_getD, List.getElem?_set]
    by_cases e : j = k
    · subst e
      rw [if_pos rfl, if_pos (by rw [f.len]; exact hj)]
      exact cell_eq _ _ _ _ _ (f.at_ j hj)
    · rw [if_neg e, cell_ne _ _ _ _ _ _ (.inr e), ← List.getD_eq_getElem?_getD]
      exact f.at_ k hk
  free := fun o => by simp [f.free o]
theorem IR.io {w : World} {g n : Nat} {xs : List Int} (f : IR w g xs) (h : xs.length = n) : IBk w g n xs := ⟨h, f.lt, fun k hk => f.cell k (by omega), f.free⟩
theorem getD_set {α : Type} (xs : List α) (z x : α) (j i : Nat) (hj : j < xs.length) : (xs.set j x).getD i z = if i = j then x else xs.getD i z := by
  rw [List.getD_eq_getElem?_getD, List.getElem?_set]
  by_cases e : j = i
  · subst e; rw [if_pos rfl, if_pos hj, if_pos rfl]; rfl
  · rw [if_neg e, if_neg (fun c => e c.symm), ← List.getD_eq_getElem?_getD]

set_option maxRecDepth 100000 in
set_option maxHeartbeats 1000000 in
theorem markIO (w : World) (g n cap : Nat) (k : Int) (xs : List Int) (hF : IBk w g n xs) (h0 : 0 ≤ k) (h1 : k ≤ 1099511627776) (hn : n ≤ 1099511627776) :
    Calls Tryz.prog 16 #[.slice (some ⟨g, 0, none⟩) n cap, .int .i64 k] w fun e w' => e = .returned (.int .i64 (k + n)) ∧ (∃ ys, IBk w' g n ys ∧ ∀ i, i < n → ys.getD i 0 = k + i) ∧ Kept g (g + 1) w w' := by
  go_enter Tryz.func16, Tryz.ntmps16
  go_wp2_with fail
  go_loopw [1, 5] (fun kv i W => ∃ j : Nat, j ≤ n ∧ i = .int .i64 j ∧ kv = .int .i64 (k + j) ∧ Hid (∃ ys, IBk W g n ys ∧ ∀ i, i < j → ys.getD i 0 = k + i) ∧ Kept g (g + 1) w W) (fun _ i _ => n - (intOf i).toNat)
  case atStart => exact ⟨0, Nat.zero_le _, rfl, by simp, ⟨xs, hF, fun i hi => by omega⟩, Kept.refl _ _ _⟩
  case round =>
    obtain ⟨j, hj, rfl, rfl, hY, hKW⟩ := hrel
    obtain ⟨ys, hFW, hy⟩ := hY.out
    by_cases hlt : j < n
    · have c2 := hFW.at_ j hlt
      have c3 := hFW.free j
      have R1 : Hid (∃ ys, IBk (wr.setCell ⟨g, j, none⟩ (.int .i64 (k + (j : Int)))) g n ys ∧ ∀ i, i < j + 1 → ys.getD i 0 = k + i) := ⟨_, hFW.put j hlt (k + (j : Int)), fun i hi => by
        rw [getD_set ys 0 _ j i (by rw [hFW.len]; exact hlt)]
        by_cases e : i = j
        · subst e; rw [if_pos rfl]
        · rw [if_neg e]; exact hy i (by omega)⟩
      have R2 : Hid _ := hKW.trans (kept_setCell (lo := g) (hi := g + 1) wr ⟨g, j, none⟩ (.int .i64 (k + (j : Int))) (.inl ⟨Nat.le_refl _, Nat.lt_succ_self _⟩))
      clear hFW hKW hF hy hY
      go_wp2
      go_roundw
      case rel => exact ⟨j + 1, by omega, by go_num, by go_num, R1, R2.out⟩
      case measure => simp [intOf]; omega
    · obtain rfl : j = n := by omega
      clear hF hFW hy
      go_wp2
      go_ret
      exact ⟨rfl, hY.out, hKW⟩
set_option maxRecDepth 100000 in
set_option maxHeartbeats 1000000 in
theorem heldIO (w : World) (g n cap : Nat) (k : Int) (xs : List Int) (hF : IBk w g n xs) (hy : ∀ i, i < n → xs.getD i 0 = k + i) (h0 : 0 ≤ k) (h1 : k ≤ 1099511627776) (hn : n ≤ 1099511627776) :
    Calls Tryz.prog 24 #[.slice (some ⟨g, 0, none⟩) n cap, .int .i64 k] w fun e w' => e = .returned (.int .i64 (k + n)) ∧ Drawn w w' := by
  have HF : Hid _ := hF
  have HY : Hid _ := hy
  clear hF hy
  go_enter Tryz.func24, Tryz.ntmps24
  go_wp2_with fail
  go_loopw [1, 5] (fun kv i W => ∃ j : Nat, j ≤ n ∧ i = .int .i64 j ∧ kv = .int .i64 (k + j) ∧ Drawn w W) (fun _ i _ => n - (intOf i).toNat)
  case atStart => exact ⟨0, Nat.zero_le _, rfl, by simp, Drawn.refl _⟩
  case round =>
    obtain ⟨j, hj, rfl, rfl, HW⟩ := hrel
    by_cases hlt : j < n
    · have c2 : wr.cell? ⟨g, j, none⟩ = some (.int .i64 (k + j)) := by rw [HW.cell, ← HY.out j hlt]; exact HF.out.at_ j hlt
      have c3 : (k + (j : Int) != k + (j : Int)) = false := by simp
      go_wp2
      go_roundw
      case rel => exact ⟨j + 1, by omega, by go_num, by go_num, HW⟩
      case measure => simp [intOf]; omega
    · obtain rfl : j = n := by omega
      go_wp2
      go_ret
      exact ⟨rfl, HW⟩
/-- The marks of value i. -/
def vm (k : Int) : Vl := ⟨k, k + 1, k + 1 + 1, k + 1 + 1 + 1, k + 1 + 1 + 1 + 1, floatOfInt .f64 (k + 1 + 1 + 1 + 1 + 1)⟩
set_option maxRecDepth 100000 in
set_option maxHeartbeats 4000000 in
theorem markVA (w : World) (g n cap : Nat) (k : Int) (vs : List Vl) (hF : VA w g n vs) (h0 : 0 ≤ k) (h1 : k ≤ 1099511627776) (hn : n ≤ 1099511627776) :
    Calls Tryz.prog 23 #[.slice (some ⟨g, 0, none⟩) n cap, .int .i64 k] w fun e w' => e = .returned (.int .i64 (k + 6 * n)) ∧ (∃ ys, VA w' g n ys ∧ ∀ i, i < n → ys.getD i Vl.zero = vm (k + 6 * i)) ∧ Kept g (g + 1) w w' := by
  go_enter Tryz.func23, Tryz.ntmps23
  go_wp2_with fail
  go_loopw [1, 5] (fun kv i W => ∃ j : Nat, j ≤ n ∧ i = .int .i64 j ∧ kv = .int .i64 (k + 6 * j) ∧ Hid (∃ ys, VA W g n ys ∧ ∀ i, i < j → ys.getD i Vl.zero = vm (k + 6 * i)) ∧ Kept g (g + 1) w W) (fun _ i _ => n - (intOf i).toNat)
  case atStart => exact ⟨0, Nat.zero_le _, rfl, by simp, ⟨vs, hF, fun i hi => by omega⟩, Kept.refl _ _ _⟩
  case round =>
    obtain ⟨j, hj, rfl, rfl, hY, hKW⟩ := hrel
    obtain ⟨ys, hFW, hy⟩ := hY.out
    by_cases hlt : j < n
    · obtain ⟨d0, d1, d2, d3, d4, d5⟩ := hFW.at_ j hlt
      have c3 := hFW.free
      have R0 : Hid (∀ i, i < j + 1 → (ys.set j (vm (k + 6 * (j : Int)))).getD i Vl.zero = vm (k + 6 * i)) := fun i hi => by
        rw [getD_set ys Vl.zero _ j i (by rw [hFW.len]; exact hlt)]
        by_cases e : i = j
        · subst e; rw [if_pos rfl]
        · rw [if_neg e]; exact hy i (by omega)
      generalize hkk : k + 6 * (j : Int) = kk at R0
      have b0 : 0 ≤ kk := by omega
      have b1 : kk ≤ 10995116277760 := by omega
      have R1 : Hid _ := hFW.step j hlt ⟨kk, kk + 1, kk + 1 + 1, kk + 1 + 1 + 1, kk + 1 + 1 + 1 + 1, floatOfInt .f64 (kk + 1 + 1 + 1 + 1 + 1)⟩
      have R2 : Hid _ := hKW.trans (put6_kept wr g (j * 6) ⟨kk, kk + 1, kk + 1 + 1, kk + 1 + 1 + 1, kk + 1 + 1 + 1 + 1, floatOfInt .f64 (kk + 1 + 1 + 1 + 1 + 1)⟩)
      have R3 : Hid (k + 6 * (j : Int) = kk) := hkk
      clear hFW hKW hF hkk hy hY
      go_wp2
      go_roundw
      case rel => exact ⟨j + 1, by omega, by go_num, by have := R3.out; congr 1; omega, ⟨_, R1.out, R0.out⟩, R2.out⟩
      case measure => simp [intOf]; omega
    · obtain rfl : j = n := by omega
      clear hF hFW hy
      go_wp2
      go_ret
      exact ⟨rfl, hY.out, hKW⟩
set_option maxRecDepth 100000 in
set_option maxHeartbeats 4000000 in
theorem heldVA (w : World) (g n cap : Nat) (k : Int) (vs : List Vl) (hF : VA w g n vs) (hy : ∀ i, i < n → vs.getD i Vl.zero = vm (k + 6 * i)) (h0 : 0 ≤ k) (h1 : k ≤ 1099511627776) (hn : n ≤ 1099511627776) :
    Calls Tryz.prog 25 #[.slice (some ⟨g, 0, none⟩) n cap, .int .i64 k] w fun e w' => e = .returned (.int .i64 (k + 6 * n)) ∧ Drawn w w' := by
  have HF : Hid _ := hF
  have HY : Hid _ := hy
  clear hF hy
  go_enter Tryz.func25, Tryz.ntmps25
  go_wp2_with fail
  go_loopw [1, 5] (fun kv i W => ∃ j : Nat, j ≤ n ∧ i = .int .i64 j ∧ kv = .int .i64 (k + 6 * j) ∧ Drawn w W) (fun _ i _ => n - (intOf i).toNat)
  case atStart => exact ⟨0, Nat.zero_le _, rfl, by simp, Drawn.refl _⟩
  case round =>
    obtain ⟨j, hj, rfl, rfl, HW⟩ := hrel
    by_cases hlt : j < n
    · have hat := HF.out.at_ j hlt
      rw [HY.out j hlt] at hat
      obtain ⟨d0, d1, d2, d3, d4, d5⟩ := hat
      rw [← HW.cell] at d0 d1 d2 d3 d4 d5
      simp only [vm] at d0 d1 d2 d3 d4 d5
      generalize hkk : k + 6 * (j : Int) = kk at d0 d1 d2 d3 d4 d5
      have b0 : 0 ≤ kk := by omega
      have b1 : kk ≤ 10995116277760 := by omega
      have R3 : Hid (k + 6 * (j : Int) = kk) := hkk
      have e1 : ∀ x : Int, (x != x) = false := fun x => by simp
      have e2 := ofInt_num (kk + 1 + 1 + 1 + 1 + 1)
      clear hkk
      go_wp2
      go_roundw
      case rel => exact ⟨j + 1, by omega, by go_num, by have := R3.out; congr 1; omega, HW⟩
      case measure => simp [intOf]; omega
    · obtain rfl : j = n := by omega
      go_wp2
      go_ret
      exact ⟨rfl, HW⟩
end Go.Proofs.YtcphabjekfihnabGreat

namespace Go.Proofs.YtcphabjekfihnabGreat
open Go.RowKit Flt
attribute [local go_sem] alloc_drewN setCell_drewN run_store_float

set_option maxRecDepth 100000 in
set_option maxHeartbeats 1000000 in
theorem markI_zero (w : World) (a : Option Addr) (cap : Nat) (k : Int) : Calls Tryz.prog 16 #[.slice a 0 cap, .int .i64 k] w fun e w' => e = .returned (.int .i64 k) ∧ w' = w := by
  go_enter Tryz.func16, Tryz.ntmps16
  go_wp2_with fail
  refine wp_loop_rounds 1 ?_
  rw [rounds_succ]
  go_wp2
  go_ret
  exact ⟨rfl, rfl⟩
set_option maxRecDepth 100000 in
set_option maxHeartbeats 1000000 in
theorem markV_zero (w : World) (a : Option Addr) (cap : Nat) (k : Int) : Calls Tryz.prog 23 #[.slice a 0 cap, .int .i64 k] w fun e w' => e = .returned (.int .i64 k) ∧ w' = w := by
  go_enter Tryz.func23, Tryz.ntmps23
  go_wp2_with fail
  refine wp_loop_rounds 1 ?_
  rw [rounds_succ]
  go_wp2
  go_ret
  exact ⟨rfl, rfl⟩
set_option maxRecDepth 100000 in
set_option maxHeartbeats 1000000 in
theorem heldI_zero (w : World) (a : Option Addr) (cap : Nat) (k : Int) : Calls Tryz.prog 24 #[.slice a 0 cap, .int .i64 k] w fun e w' => e = .returned (.int .i64 k) ∧ w' = w := by
  go_enter Tryz.func24, Tryz.ntmps24
  go_wp2_with fail
  refine wp_loop_rounds 1 ?_
  rw [rounds_succ]
  go_wp2
  go_ret
  exact ⟨rfl, rfl⟩
set_option maxRecDepth 100000 in
set_option maxHeartbeats 1000000 in
theorem heldV_zero (w : World) (a : Option Addr) (cap : Nat) (k : Int) : Calls Tryz.prog 25 #[.slice a 0 cap, .int .i64 k] w fun e w' => e = .returned (.int .i64 k) ∧ w' = w := by
  go_enter Tryz.func25, Tryz.ntmps25
  go_wp2_with fail
  refine wp_loop_rounds 1 ?_
  rw [rounds_succ]
  go_wp2
  go_ret
  exact ⟨rfl, rfl⟩

/-- A slice of ints in a block of its own, or an empty one. -/
def IZ (w : World) (g : Nat) (a : Option Addr) (n : Nat) (xs : List Int) : Prop := n = 0 ∨ (a = some ⟨g, 0, none⟩ ∧ IBk w g n xs)
def VZ (w : World) (g : Nat) (a : Option Addr) (n : Nat) (vs : List Vl) : Prop := n = 0 ∨ (a = some ⟨g, 0, none⟩ ∧ VA w g n vs)
theorem IZ.keep {w w' : World} {g n l h : Nat} {a : Option Addr} {xs : List Int} (f : IZ w g a n xs) (k : Kept l h w w') (hd : g < l ∨ h ≤ g ∨ h ≤ l) : IZ w' g a n xs := f.imp id fun ⟨e, q⟩ => ⟨e, q.keep k hd⟩
theorem VZ.keep {w w' : World} {g n l h : Nat} {a : Option Addr} {xs : List Vl} (f : VZ w g a n xs) (k : Kept l h w w') (hd : g < l ∨ h ≤ g ∨ h ≤ l) : VZ w' g a n xs := f.imp id fun ⟨e, q⟩ => ⟨e, q.keep k hd⟩
/-- The marks stand. -/
def IM (w : World) (g : Nat) (a : Option Addr) (n : Nat) (k : Int) : Prop := ∃ ys, IZ w g a n ys ∧ ∀ i, i < n → ys.getD i 0 = k + i
def VM (w : World) (g : Nat) (a : Option Addr) (n : Nat) (k : Int) : Prop := ∃ ys, VZ w g a n ys ∧ ∀ i, i < n → ys.getD i Vl.zero = vm (k + 6 * i)
theorem IM.keep {w w' : World} {g n l h : Nat} {a : Option Addr} {m : Int} (f : IM w g a n m) (k : Kept l h w w') (hd : g < l ∨ h ≤ g ∨ h ≤ l) : IM w' g a n m := by
  obtain ⟨ys, h1, h2⟩ := f
  exact ⟨ys, h1.keep k hd, h2⟩
theorem VM.keep {w w' : World} {g n l h : Nat} {a : Option Addr} {m : Int} (f : VM w g a n m) (k : Kept l h w w') (hd : g < l ∨ h ≤ g ∨ h ≤ l) : VM w' g a n m := by
  obtain ⟨ys, h1, h2⟩ := f
  exact ⟨ys, h1.keep k hd, h2⟩
theorem G0.keepT {W W' : World} {p l h : Nat} {b0 b1 b2 : Value} (t : G0 W p b0 b1 b2) (k : Kept l h W W') (hd : p < l ∨ h ≤ p ∨ h ≤ l) : G0 W' p b0 b1 b2 := by
  have e : ∀ o, W'.cell? ⟨p, o, none⟩ = W.cell? ⟨p, o, none⟩ := fun o => k.cell (p := ⟨p, o, none⟩) t.sz (by show ¬ (l ≤ p ∧ p < h); omega)
  exact ⟨Nat.lt_of_lt_of_le t.sz k.size, by rw [e]; exact t.q0, by rw [e]; exact t.q1, by rw [e]; exact t.q2⟩
theorem markIZ (w : World) (g n cap : Nat) (a : Option Addr) (k : Int) (xs : List Int) (hF : IZ w g a n xs) (h0 : 0 ≤ k) (h1 : k ≤ 1099511627776) (hn : n ≤ 1099511627776) :
    Calls Tryz.prog 16 #[.slice a n cap, .int .i64 k] w fun e w' => e = .returned (.int .i64 (k + n)) ∧ IM w' g a n k ∧ Kept g (g + 1) w w' := by
  rcases hF with rfl | ⟨rfl, hF⟩
  · exact (markI_zero w a cap k).mono fun e w' ⟨h1, h2⟩ => ⟨by rw [h1]; simp, ⟨[], .inl rfl, fun i hi => by omega⟩, by rw [h2]; exact Kept.refl _ _ _⟩
  · exact (markIO w g n cap k xs hF h0 h1 hn).mono fun e w' ⟨h1, ⟨ys, h2, h3⟩, h4⟩ => ⟨h1, ⟨ys, .inr ⟨rfl, h2⟩, h3⟩, h4⟩
theorem markVZ (w : World) (g n cap : Nat) (a : Option Addr) (k : Int) (xs : List Vl) (hF : VZ w g a n xs) (h0 : 0 ≤ k) (h1 : k ≤ 1099511627776) (hn : n ≤ 1099511627776) :
    Calls Tryz.prog 23 #[.slice a n cap, .int .i64 k] w fun e w' => e = .returned (.int .i64 (k + 6 * n)) ∧ VM w' g a n k ∧ Kept g (g + 1) w w' := by
  rcases hF with rfl | ⟨rfl, hF⟩
  · exact (markV_zero w a cap k).mono fun e w' ⟨h1, h2⟩ => ⟨by rw [h1]; simp, ⟨[], .inl rfl, fun i hi => by omega⟩, by rw [h2]; exact Kept.refl _ _ _⟩
  · exact (markVA w g n cap k xs hF h0 h1 hn).mono fun e w' ⟨h1, ⟨ys, h2, h3⟩, h4⟩ => ⟨h1, ⟨ys, .inr ⟨rfl, h2⟩, h3⟩, h4⟩
theorem heldIM (w : World) (g n cap : Nat) (a : Option Addr) (k : Int) (hF : IM w g a n k) (h0 : 0 ≤ k) (h1 : k ≤ 1099511627776) (hn : n ≤ 1099511627776) :
    Calls Tryz.prog 24 #[.slice a n cap, .int .i64 k] w fun e w' => e = .returned (.int .i64 (k + n)) ∧ Drawn w w' := by
  obtain ⟨ys, rfl | ⟨rfl, hF⟩, hy⟩ := hF
  · exact (heldI_zero w a cap k).mono fun e w' ⟨h1, h2⟩ => ⟨by rw [h1]; simp, 0, h2⟩
  · exact heldIO w g n cap k ys hF hy h0 h1 hn
theorem heldVM (w : World) (g n cap : Nat) (a : Option Addr) (k : Int) (hF : VM w g a n k) (h0 : 0 ≤ k) (h1 : k ≤ 1099511627776) (hn : n ≤ 1099511627776) :
    Calls Tryz.prog 25 #[.slice a n cap, .int .i64 k] w fun e w' => e = .returned (.int .i64 (k + 6 * n)) ∧ Drawn w w' := by
  obtain ⟨ys, rfl | ⟨rfl, hF⟩, hy⟩ := hF
  · exact (heldV_zero w a cap k).mono fun e w' ⟨h1, h2⟩ => ⟨by rw [h1]; simp, 0, h2⟩
  · exact heldVA w g n cap k ys hF hy h0 h1 hn

/-- A graph whose lists lie in three blocks of their own. -/
structure OG (w : World) (g1 g2 g3 : Nat) (a1 : Option Addr) (n1 : Nat) (a2 : Option Addr) (n2 : Nat) (a3 : Option Addr) (n3 : Nat) (ins : List Int) (vs : List Vl) (outs : List Int) : Prop where
  i : IZ w g1 a1 n1 ins
  v : VZ w g2 a2 n2 vs
  o : IZ w g3 a3 n3 outs
  d12 : g1 ≠ g2
  d13 : g1 ≠ g3
  d23 : g2 ≠ g3
theorem OG.keep {w w' : World} {g1 g2 g3 n1 n2 n3 : Nat} {a1 a2 a3 : Option Addr} {ins : List Int} {vs : List Vl} {outs : List Int} (f : OG w g1 g2 g3 a1 n1 a2 n2 a3 n3 ins vs outs) (k : Kept 0 0 w w') : OG w' g1 g2 g3 a1 n1 a2 n2 a3 n3 ins vs outs :=
  ⟨f.i.keep k (.inr (.inr (Nat.le_refl _))), f.v.keep k (.inr (.inr (Nat.le_refl _))), f.o.keep k (.inr (.inr (Nat.le_refl _))), f.d12, f.d13, f.d23⟩
theorem GO.og {w : World} {lo g1 g2 g3 n1 n2 n3 : Nat} {ins : List Int} {vs : List Vl} {outs : List Int} (f : GO w lo g1 g2 g3 n2 ins vs outs) (h1 : ins.length = n1) (h3 : outs.length = n3) : OG w g1 g2 g3 (some ⟨g1, 0, none⟩) n1 (some ⟨g2, 0, none⟩) n2 (some ⟨g3, 0, none⟩) n3 ins vs outs :=
  ⟨.inr ⟨rfl, f.i.io h1⟩, .inr ⟨rfl, f.v⟩, .inr ⟨rfl, f.o.io h3⟩, by have := f.l2; omega, by have := f.l2; have := f.l3; omega, by have := f.l3; omega⟩
theorem Kept.chg1 {S : Nat → Prop} {g : Nat} {w w' : World} (k : Kept g (g + 1) w w') (h : S g) : Chg S w w' :=
  ⟨k.os, k.tape, k.output, k.size, fun i hi hn => k.block i hi fun c => hn ((show g = i by omega) ▸ h)⟩
theorem Chg.andThen {S : Nat → Prop} {a b c : World} (h : Chg S a b) (k : Chg S b c) : Chg S a c :=
  ⟨k.os.trans h.os, k.tape.trans h.tape, k.output.trans h.output, Nat.le_trans h.size k.size, fun i hi hn => (k.block i (Nat.lt_of_lt_of_le hi h.size) hn).trans (h.block i hi hn)⟩
theorem IZ.keepC {w w' : World} {S : Nat → Prop} {g n : Nat} {a : Option Addr} {xs : List Int} (f : IZ w g a n xs) (k : Chg S w w') (hd : ¬ S g) : IZ w' g a n xs := f.imp id fun ⟨e, q⟩ => ⟨e, q.len, Nat.lt_of_lt_of_le q.lt k.size, fun j hj => by rw [k.cell (p := ⟨g, j, none⟩) q.lt hd]; exact q.at_ j hj, fun o => by rw [k.frozen (p := ⟨g, o, none⟩) q.lt hd]; exact q.free o⟩
theorem VZ.keepC {w w' : World} {S : Nat → Prop} {g n : Nat} {a : Option Addr} {vs : List Vl} (f : VZ w g a n vs) (k : Chg S w w') (hd : ¬ S g) : VZ w' g a n vs := f.imp id fun ⟨e, q⟩ => ⟨e, q.len, Nat.lt_of_lt_of_le q.lt k.size, fun j hj => by
  have e : ∀ o, w'.cell? ⟨g, o, none⟩ = w.cell? ⟨g, o, none⟩ := fun o => k.cell (p := ⟨g, o, none⟩) q.lt hd
  obtain ⟨c0, c1, c2, c3, c4, c5⟩ := q.at_ j hj
  exact ⟨by rw [e]; exact c0, by rw [e]; exact c1, by rw [e]; exact c2, by rw [e]; exact c3, by rw [e]; exact c4, by rw [e]; exact c5⟩, fun o => by rw [k.frozen (p := ⟨g, o, none⟩) q.lt hd]; exact q.free o⟩
theorem OG.keepC {w w' : World} {S : Nat → Prop} {g1 g2 g3 n1 n2 n3 : Nat} {a1 a2 a3 : Option Addr} {ins : List Int} {vs : List Vl} {outs : List Int} (f : OG w g1 g2 g3 a1 n1 a2 n2 a3 n3 ins vs outs) (k : Chg S w w') (h1 : ¬ S g1) (h2 : ¬ S g2) (h3 : ¬ S g3) : OG w' g1 g2 g3 a1 n1 a2 n2 a3 n3 ins vs outs :=
  ⟨f.i.keepC k h1, f.v.keepC k h2, f.o.keepC k h3, f.d12, f.d13, f.d23⟩
/-- Marks in all three lists. -/
structure OM3 (w : World) (g1 g2 g3 : Nat) (a1 : Option Addr) (n1 : Nat) (a2 : Option Addr) (n2 : Nat) (a3 : Option Addr) (n3 : Nat) (k : Int) : Prop where
  i : IM w g1 a1 n1 k
  v : VM w g2 a2 n2 (k + n1)
  o : IM w g3 a3 n3 (k + n1 + 6 * n2)

set_option maxRecDepth 100000 in
set_option maxHeartbeats 2000000 in
theorem markOG (w : World) (g1 g2 g3 n1 n2 n3 c1 c2 c3 : Nat) (a1 a2 a3 : Option Addr) (ins : List Int) (vs : List Vl) (outs : List Int) (f : OG w g1 g2 g3 a1 n1 a2 n2 a3 n3 ins vs outs) (q1 : g1 ≠ w.heap.size) (q2 : g2 ≠ w.heap.size) (q3 : g3 ≠ w.heap.size) (k : Int) (h0 : 0 ≤ k) (h1 : k ≤ 1000000000) (b1 : n1 ≤ 1048576) (b2 : n2 ≤ 1048576) (b3 : n3 ≤ 1048576) :
    Calls Tryz.prog 10 #[gagg a1 n1 c1 a2 n2 c2 a3 n3 c3, .int .i64 k] w fun e w' => e = .returned (.int .i64 (k + n1 + 6 * n2 + n3)) ∧ OM3 w' g1 g2 g3 a1 n1 a2 n2 a3 n3 k ∧ Chg (fun i => i = g1 ∨ i = g2 ∨ i = g3) w w' := by
  have ka := kept_alloc 0 0 w (gbox a1 n1 c1 a2 n2 c2 a3 n3 c3)
  have hB := g0_start w (.slice a1 n1 c1) (.slice a2 n2 c2) (.slice a3 n3 c3)
  have fw := f.keep ka
  have HO : Hid (g1 ≠ w.heap.size ∧ g2 ≠ w.heap.size ∧ g3 ≠ w.heap.size ∧ g1 ≠ g2 ∧ g1 ≠ g3 ∧ g2 ≠ g3) := ⟨q1, q2, q3, f.d12, f.d13, f.d23⟩
  have HFI : Hid _ := fw.i
  have HFV : Hid _ := fw.v
  have HFO : Hid _ := fw.o
  have HB : Hid _ := hB
  have HK : Hid (Chg (fun i => i = g1 ∨ i = g2 ∨ i = g3) w (w.alloc (gbox a1 n1 c1 a2 n2 c2 a3 n3 c3))) := ka.chg
  clear f ka fw hB q1 q2 q3
  go_enter Tryz.func10, Tryz.ntmps10
  go_wp2_with fail
  generalize hw1 : w.alloc (gbox a1 n1 c1 a2 n2 c2 a3 n3 c3) = w1 at HFI HFV HFO HB HK ⊢
  clear hw1
  refine Calls.mono (markIZ _ g1 n1 _ a1 k ins HFI.out h0 (by omega) (by omega)) ?_
  rintro e w2 ⟨rfl, m2, k2⟩
  have HM2 : Hid _ := m2
  have HFV2 : Hid _ := VZ.keep HFV.out k2 (by have := HO.out; omega)
  have HFO2 : Hid _ := IZ.keep HFO.out k2 (by have := HO.out; omega)
  have HB2 : Hid _ := G0.keepT HB.out k2 (by have := HO.out; omega)
  have HK2 : Hid _ := Chg.andThen HK.out (k2.chg1 (.inl rfl))
  clear k2 m2 HFI HFV HFO HB HK
  obtain ⟨_, q0, q1, q2⟩ := HB2.out
  go_wp2_with fail
  clear q0 q1 q2
  refine Calls.mono (markVZ _ g2 n2 _ a2 (k + n1) vs HFV2.out (by omega) (by omega) (by omega)) ?_
  rintro e w3 ⟨rfl, m3, k3⟩
  have HM2b : Hid _ := IM.keep HM2.out k3 (by have := HO.out; omega)
  have HM3 : Hid _ := m3
  have HFO3 : Hid _ := IZ.keep HFO2.out k3 (by have := HO.out; omega)
  have HB3 : Hid _ := G0.keepT HB2.out k3 (by have := HO.out; omega)
  have HK3 : Hid _ := Chg.andThen HK2.out (k3.chg1 (.inr (.inl rfl)))
  clear k3 m3 HFV2 HFO2 HB2 HK2 HM2
  obtain ⟨_, q0, q1, q2⟩ := HB3.out
  go_wp2_with fail
  clear q0 q1 q2
  refine Calls.mono (markIZ _ g3 n3 _ a3 (k + n1 + 6 * n2) outs HFO3.out (by omega) (by omega) (by omega)) ?_
  rintro e w4 ⟨rfl, m4, k4⟩
  have R1 : Hid _ := IM.keep HM2b.out k4 (by have := HO.out; omega)
  have R2 : Hid _ := VM.keep HM3.out k4 (by have := HO.out; omega)
  have R3 : Hid _ := m4
  have HK4 : Hid _ := Chg.andThen HK3.out (k4.chg1 (.inr (.inr rfl)))
  clear k4 m4 HFO3 HB3 HK3 HM2b HM3
  go_wp2
  go_ret
  exact ⟨rfl, ⟨R1.out, R2.out, R3.out⟩, HK4.out⟩

set_option maxRecDepth 100000 in
set_option maxHeartbeats 2000000 in
theorem heldOM (w : World) (g1 g2 g3 n1 n2 n3 c1 c2 c3 : Nat) (a1 a2 a3 : Option Addr) (k : Int) (f : OM3 w g1 g2 g3 a1 n1 a2 n2 a3 n3 k) (h0 : 0 ≤ k) (h1 : k ≤ 1000000000) (b1 : n1 ≤ 1048576) (b2 : n2 ≤ 1048576) (b3 : n3 ≤ 1048576) :
    Calls Tryz.prog 11 #[gagg a1 n1 c1 a2 n2 c2 a3 n3 c3, .int .i64 k] w fun e w' => e = .returned (.int .i64 (k + n1 + 6 * n2 + n3)) ∧ Kept 0 0 w w' := by
  have ka := kept_alloc 0 0 w (gbox a1 n1 c1 a2 n2 c2 a3 n3 c3)
  have hB := g0_start w (.slice a1 n1 c1) (.slice a2 n2 c2) (.slice a3 n3 c3)
  have HFI : Hid _ := f.i.keep ka (.inr (.inr (Nat.le_refl _)))
  have HFV : Hid _ := f.v.keep ka (.inr (.inr (Nat.le_refl _)))
  have HFO : Hid _ := f.o.keep ka (.inr (.inr (Nat.le_refl _)))
  have HB : Hid _ := hB
  have HK : Hid _ := ka
  clear f ka hB
  go_enter Tryz.func11, Tryz.ntmps11
  go_wp2_with fail
  generalize hw1 : w.alloc (gbox a1 n1 c1 a2 n2 c2 a3 n3 c3) = w1 at HFI HFV HFO HB HK ⊢
  clear hw1
  refine Calls.mono (heldIM _ g1 n1 _ a1 k HFI.out h0 (by omega) (by omega)) ?_
  rintro e w2 ⟨rfl, d2⟩
  have k2 := d2.kept 0 0
  have HFV2 : Hid _ := VM.keep HFV.out k2 (.inr (.inr (Nat.le_refl _)))
  have HFO2 : Hid _ := IM.keep HFO.out k2 (.inr (.inr (Nat.le_refl _)))
  have HB2 : Hid _ := G0.keep HB.out k2
  have HK2 : Hid _ := Kept.trans HK.out k2
  have t1 : ¬ (k + (n1 : Int) < 0) := by omega
  clear k2 d2 HFI HFV HFO HB HK
  obtain ⟨_, q0, q1, q2⟩ := HB2.out
  go_wp2_with fail
  clear q0 q1 q2
  refine Calls.mono (heldVM _ g2 n2 _ a2 (k + n1) HFV2.out (by omega) (by omega) (by omega)) ?_
  rintro e w3 ⟨rfl, d3⟩
  have k3 := d3.kept 0 0
  have HFO3 : Hid _ := IM.keep HFO2.out k3 (.inr (.inr (Nat.le_refl _)))
  have HB3 : Hid _ := G0.keep HB2.out k3
  have HK3 : Hid _ := Kept.trans HK2.out k3
  have t2 : ¬ (k + (n1 : Int) + 6 * (n2 : Int) < 0) := by omega
  clear k3 d3 HFV2 HFO2 HB2 HK2
  obtain ⟨_, q0, q1, q2⟩ := HB3.out
  go_wp2_with fail
  clear q0 q1 q2
  refine Calls.mono (heldIM _ g3 n3 _ a3 (k + n1 + 6 * n2) HFO3.out (by omega) (by omega) (by omega)) ?_
  rintro e w4 ⟨rfl, d4⟩
  have HK4 : Hid _ := Kept.trans HK3.out (d4.kept 0 0)
  have t3 : ¬ (k + (n1 : Int) + 6 * (n2 : Int) + (n3 : Int) < 0) := by omega
  clear d4 HFO3 HB3 HK3
  go_wp2
  go_ret
  exact ⟨rfl, HK4.out⟩
end Go.Proofs.YtcphabjekfihnabGreat
