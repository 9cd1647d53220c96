import Derived.Test.YtcphabjekfihnaaP03
namespace Go.Proofs.Ytcphabjekfihnaa
open Go.RowKit Flt
attribute [local go_sem] alloc_drewN setCell_drewN run_store_float

set_option maxRecDepth 100000 in
set_option maxHeartbeats 1000000 in
theorem toVal (w : World) (op len A B C : Int) (K : Nat) :
    Calls Try.prog 29 #[vagg op len A B C K] w fun e w' => e = .returned (vagg op len A B C K) ∧ Kept 0 0 w w' := by
  go_enter Try.func29, Try.ntmps29
  go_wp2
  refine bodyPost_ret (v := vagg op len A B C K) (by simp [results, Try.results29, go_sem]) rfl ⟨rfl, ?_⟩
  exact ((kept_alloc 0 0 w _).trans (kept_alloc 0 0 _ _)).trans (kept_alloc 0 0 _ _)

end Go.Proofs.Ytcphabjekfihnaa

namespace Go.Proofs.Ytcphabjekfihnaa
open Go.RowKit Flt
attribute [local go_sem] alloc_drewN setCell_drewN run_store_float

theorem kcell {w W : World} (h : Kept 0 0 w W) {g o : Nat} (hg : g < w.heap.size) {v : Value} (hc : w.cell? ⟨g, o, none⟩ = some v) : W.cell? ⟨g, o, none⟩ = some v := by
  rw [h.cell (p := ⟨g, o, none⟩) hg (by omega)]; exact hc
/-- A value of a graph, as data. -/
structure Vl where
  op : Int
  len : Int
  a : Int
  b : Int
  c : Int
  k : Nat
def Vl.cells (v : Vl) : List Value := [.int .i64 v.op, .int .i64 v.len, .int .i64 v.a, .int .i64 v.b, .int .i64 v.c, .float .f64 v.k]
def Vl.zero : Vl := ⟨0, 0, 0, 0, 0, 0⟩
abbrev Vl.agg (v : Vl) : Value := vagg v.op v.len v.a v.b v.c v.k

/-- The six cells of a value at a place. -/
structure At (w : World) (g o : Nat) (v : Vl) : Prop where
  c0 : w.cell? ⟨g, o, none⟩ = some (.int .i64 v.op)
  c1 : w.cell? ⟨g, o + 1, none⟩ = some (.int .i64 v.len)
  c2 : w.cell? ⟨g, o + 2, none⟩ = some (.int .i64 v.a)
  c3 : w.cell? ⟨g, o + 3, none⟩ = some (.int .i64 v.b)
  c4 : w.cell? ⟨g, o + 4, none⟩ = some (.int .i64 v.c)
  c5 : w.cell? ⟨g, o + 5, none⟩ = some (.float .f64 v.k)

theorem infoV : (Try.prog.info? 40).map (fun i => (i.zero, i.size, i.bytes)) = some (some (vagg 0 0 0 0 0 0), 6, 48) := by kernel_rfl
theorem make_v (n : Nat) (w : World) (hn : n ≤ 1099511627776) :
    (Instr.makeSlice 52 (.int .i64 (n : Int)) (.int .i64 (n : Int))).run Try.prog w = .ok (.slice (some ⟨w.heap.size, 0, none⟩) n n) (w.alloc (.cells (madeCells #[.int .i64 0, .int .i64 0, .int .i64 0, .int .i64 0, .int .i64 0, .float .f64 0] (n * 6)) 40)) := by
  obtain ⟨i, hi, hz0, hz1, hz2⟩ := info_parts infoV
  have := run_make (P := Try.prog) w 52 40 i (vagg 0 0 0 0 0 0) Try.underlying52 hi hz0 .i64 .i64 n n (by omega) (by omega) (by rw [hz2]; omega) (by omega)
  rw [hz1, Int.toNat_natCast] at this
  exact this

/-- A block of values that the call laid: n of them, not frozen. -/
structure VA (w : World) (g n : Nat) (vs : List Vl) : Prop where
  len : vs.length = n
  lt : g < w.heap.size
  at_ : ∀ k, k < n → At w g (k * 6) (vs.getD k Vl.zero)
  free : ∀ o, w.frozen? ⟨g, o, none⟩ = false
theorem VA.made (w : World) (n : Nat) : VA (w.alloc (.cells (madeCells #[.int .i64 0, .int .i64 0, .int .i64 0, .int .i64 0, .int .i64 0, .float .f64 0] (n * 6)) 40)) w.heap.size n (List.replicate n Vl.zero) where
  len := by simp
  lt := by simp
  at_ := fun k hk => by
    have e : (List.replicate n Vl.zero).getD k Vl.zero = Vl.zero := by simp [List.getD_eq_getElem?_getD, hk]
    rw [e]
    have hc : ∀ j, j < 6 → (w.alloc (.cells (madeCells #[.int .i64 0, .int .i64 0, .int .i64 0, .int .i64 0, .int .i64 0, .float .f64 0] (n * 6)) 40)).cell? ⟨w.heap.size, k * 6 + j, none⟩ = some (Vl.zero.cells.getD j (.bool false)) := fun j hj => by
      rw [World.cell?_alloc_new]
      have hlt : k * 6 + j < n * 6 := by omega
      simp only [madeCells]
      rw [Array.getElem?_map, Array.getElem?_range, if_pos hlt]
      have hm : (k * 6 + j) % 6 = j := by omega
      simp [hm]
      rcases (by omega : j = 0 ∨ j = 1 ∨ j = 2 ∨ j = 3 ∨ j = 4 ∨ j = 5) with rfl | rfl | rfl | rfl | rfl | rfl <;> rfl
    exact ⟨hc 0 (by omega), hc 1 (by omega), hc 2 (by omega), hc 3 (by omega), hc 4 (by omega), hc 5 (by omega)⟩
  free := fun o => by simp
abbrev put6 (w : World) (g o : Nat) (v : Vl) : World :=
  (((((w.setCell ⟨g, o, none⟩ (.int .i64 v.op)).setCell ⟨g, o + 1, none⟩ (.int .i64 v.len)).setCell ⟨g, o + 2, none⟩ (.int .i64 v.a)).setCell ⟨g, o + 3, none⟩ (.int .i64 v.b)).setCell ⟨g, o + 4, none⟩ (.int .i64 v.c)).setCell ⟨g, o + 5, none⟩ (.float .f64 v.k)
theorem cell_ne (w : World) (g g' a b : Nat) (v : Value) (h : g ≠ g' ∨ a ≠ b) : (w.setCell ⟨g, a, none⟩ v).cell? ⟨g', b, none⟩ = w.cell? ⟨g', b, none⟩ :=
  World.cell?_setCell_other w ⟨g, a, none⟩ ⟨g', b, none⟩ v (by intro c; injection c with c1 c2; omega)
theorem cell_eq (w : World) (g a : Nat) (v u : Value) (h : w.cell? ⟨g, a, none⟩ = some u) : (w.setCell ⟨g, a, none⟩ v).cell? ⟨g, a, none⟩ = some v := World.cell?_setCell_same w ⟨g, a, none⟩ v h
theorem put6_out (w : World) (g o g' b : Nat) (v : Vl) (h : g ≠ g' ∨ b < o ∨ o + 6 ≤ b) : (put6 w g o v).cell? ⟨g', b, none⟩ = w.cell? ⟨g', b, none⟩ := by
  unfold put6
  rw [cell_ne _ _ _ _ _ _ (by omega), cell_ne _ _ _ _ _ _ (by omega), cell_ne _ _ _ _ _ _ (by omega), cell_ne _ _ _ _ _ _ (by omega), cell_ne _ _ _ _ _ _ (by omega), cell_ne _ _ _ _ _ _ (by omega)]
theorem put6_at (w : World) (g o : Nat) (u v : Vl) (h : At w g o u) : At (put6 w g o v) g o v := by
  unfold put6
  refine ⟨?_, ?_, ?_, ?_, ?_, ?_⟩
  · rw [cell_ne _ _ _ _ _ _ (by omega), cell_ne _ _ _ _ _ _ (by omega), cell_ne _ _ _ _ _ _ (by omega), cell_ne _ _ _ _ _ _ (by omega), cell_ne _ _ _ _ _ _ (by omega)]
    exact cell_eq _ _ _ _ _ h.c0
  · rw [cell_ne _ _ _ _ _ _ (by omega), cell_ne _ _ _ _ _ _ (by omega), cell_ne _ _ _ _ _ _ (by omega), cell_ne _ _ _ _ _ _ (by omega)]
    exact cell_eq _ _ _ _ _ (by rw [cell_ne _ _ _ _ _ _ (by omega)]; exact h.c1)
  · rw [cell_ne _ _ _ _ _ _ (by omega), cell_ne _ _ _ _ _ _ (by omega), cell_ne _ _ _ _ _ _ (by omega)]
    exact cell_eq _ _ _ _ _ (by rw [cell_ne _ _ _ _ _ _ (by omega), cell_ne _ _ _ _ _ _ (by omega)]; exact h.c2)
  · rw [cell_ne _ _ _ _ _ _ (by omega), cell_ne _ _ _ _ _ _ (by omega)]
    exact cell_eq _ _ _ _ _ (by rw [cell_ne _ _ _ _ _ _ (by omega), cell_ne _ _ _ _ _ _ (by omega), cell_ne _ _ _ _ _ _ (by omega)]; exact h.c3)
  · rw [cell_ne _ _ _ _ _ _ (by omega)]
    exact cell_eq _ _ _ _ _ (by rw [cell_ne _ _ _ _ _ _ (by omega), cell_ne _ _ _ _ _ _ (by omega), cell_ne _ _ _ _ _ _ (by omega), cell_ne _ _ _ _ _ _ (by omega)]; exact h.c4)
  · exact cell_eq _ _ _ _ _ (by rw [cell_ne _ _ _ _ _ _ (by omega), cell_ne _ _ _ _ _ _ (by omega), cell_ne _ _ _ _ _ _ (by omega), cell_ne _ _ _ _ _ _ (by omega), cell_ne _ _ _ _ _ _ (by omega)]; exact h.c5)
theorem put6_kept (w : World) (g o : Nat) (v : Vl) : Kept g (g + 1) w (put6 w g o v) := by
  unfold put6
  have k : ∀ (w : World) (a : Nat) (u : Value), Kept g (g + 1) w (w.setCell ⟨g, a, none⟩ u) := fun w a u => kept_setCell w ⟨g, a, none⟩ u (.inl ⟨Nat.le_refl _, Nat.lt_succ_self _⟩)
  exact ((((k _ _ _).trans (k _ _ _)).trans (k _ _ _)).trans (k _ _ _)).trans (k _ _ _) |>.trans (k _ _ _)
theorem At.keep {w w' : World} {g o l h : Nat} {v : Vl} (a : At w g o v) (hg : g < w.heap.size) (k : Kept l h w w') (hd : g < l ∨ h ≤ g ∨ h ≤ l) : At w' g o v := by
  have e : ∀ b, w'.cell? ⟨g, b, none⟩ = w.cell? ⟨g, b, none⟩ := fun b => k.cell (p := ⟨g, b, none⟩) hg (by show ¬ (l ≤ g ∧ g < h); omega)
  exact ⟨by rw [e]; exact a.c0, by rw [e]; exact a.c1, by rw [e]; exact a.c2, by rw [e]; exact a.c3, by rw [e]; exact a.c4, by rw [e]; exact a.c5⟩
theorem VA.keep {w w' : World} {g n l h : Nat} {vs : List Vl} (f : VA w g n vs) (k : Kept l h w w') (hd : g < l ∨ h ≤ g ∨ h ≤ l) : VA w' g n vs :=
  ⟨f.len, Nat.lt_of_lt_of_le f.lt k.size, fun i hi => (f.at_ i hi).keep f.lt k hd, fun o => by rw [k.frozen (p := ⟨g, o, none⟩) f.lt (by show ¬ (l ≤ g ∧ g < h); omega)]; exact f.free o⟩
theorem VA.step {w : World} {g n : Nat} {vs : List Vl} (f : VA w g n vs) (k : Nat) (hk : k < n) (v : Vl) : VA (put6 w g (k * 6) v) g n (vs.set k v) where
  len := by rw [List.length_set]; exact f.len
  lt := Nat.lt_of_lt_of_le f.lt (put6_kept w g (k * 6) v).size
  at_ := fun i hi => by
    rw [List.getD_eq_getElem?_getD, List.getElem?_set]
    by_cases e : k = i
    · subst e
      rw [if_pos rfl, if_pos (by rw [f.len]; exact hk)]
      exact put6_at w g (k * 6) _ v (f.at_ k hk)
    · rw [if_neg e, ← List.getD_eq_getElem?_getD]
      have a := f.at_ i hi
      have o : ∀ b, i * 6 ≤ b → b < i * 6 + 6 → (put6 w g (k * 6) v).cell? ⟨g, b, none⟩ = w.cell? ⟨g, b, none⟩ := fun b h1 h2 => put6_out w g (k * 6) g b v (by right; omega)
      exact ⟨by rw [o _ (by omega) (by omega)]; exact a.c0, by rw [o _ (by omega) (by omega)]; exact a.c1, by rw [o _ (by omega) (by omega)]; exact a.c2, by rw [o _ (by omega) (by omega)]; exact a.c3, by rw [o _ (by omega) (by omega)]; exact a.c4, by rw [o _ (by omega) (by omega)]; exact a.c5⟩
  free := fun o => by simp [put6, f.free o]

/-- A slice of values in the blocks from lo up to hi. -/
structure VS (w : World) (lo hi : Nat) (a : Option Addr) (n : Nat) (vs : List Vl) : Prop where
  len : vs.length = n
  lt : ∀ v ∈ vs, v.k < 18446744073709551616
  at_ : n = 0 ∨ ∃ g off, a = some ⟨g, off, none⟩ ∧ lo ≤ g ∧ g < hi ∧ g < w.heap.size ∧ ∀ k, k < n → At w g (off + k * 6) (vs.getD k Vl.zero)
theorem VS.keep {w w' : World} {lo hi l h : Nat} {a : Option Addr} {n : Nat} {vs : List Vl} (f : VS w lo hi a n vs) (k : Kept l h w w') (hd : hi ≤ l ∨ h ≤ lo ∨ h ≤ l) : VS w' lo hi a n vs :=
  ⟨f.len, f.lt, by
    rcases f.at_ with h0 | ⟨g, off, e, h1, h2, h3, h4⟩
    · exact .inl h0
    · exact .inr ⟨g, off, e, h1, h2, Nat.lt_of_lt_of_le h3 k.size, fun j hj => (h4 j hj).keep h3 k (by omega)⟩⟩
theorem VA.vs {w : World} {g n : Nat} {vs : List Vl} (f : VA w g n vs) (hl : ∀ v ∈ vs, v.k < 18446744073709551616) : VS w 0 w.heap.size (some ⟨g, 0, none⟩) n vs :=
  ⟨f.len, hl, .inr ⟨g, 0, rfl, Nat.zero_le _, f.lt, f.lt, fun k hk => by rw [Nat.zero_add]; exact f.at_ k hk⟩⟩

theorem set_takeV (xs ys : List Vl) (k : Nat) (hk : k < xs.length) (hl : ys.length = xs.length) :
    (xs.take k ++ ys.drop k).set k (xs.getD k Vl.zero) = xs.take (k + 1) ++ ys.drop (k + 1) := by
  apply List.ext_getElem?
  intro i
  simp only [List.getElem?_set, List.length_append, List.length_take, List.length_drop, List.getElem?_append, List.getElem?_take, List.getElem?_drop, List.getD_eq_getElem?_getD]
  rcases Nat.lt_trichotomy i k with h | h | h
  · rw [if_neg (by omega), if_pos (by omega), if_pos (by omega), if_pos (by omega), if_pos (by omega)]
  · subst h
    rw [if_pos rfl, if_pos (by omega), if_pos (by omega), if_pos (by omega), List.getElem?_eq_getElem hk]; rfl
  · rw [if_neg (by omega), if_neg (by omega), if_neg (by omega)]
    congr 1; omega

set_option maxRecDepth 100000 in
set_option maxHeartbeats 1000000 in
theorem toVS_pos (w : World) (g0 off n cap : Nat) (vs : List Vl) (hx : vs.length = n) (hn : n ≤ 1048576) (hg : g0 < w.heap.size)
    (hc : ∀ k, k < n → At w g0 (off + k * 6) (vs.getD k Vl.zero)) :
    Calls Try.prog 101 #[.slice (some ⟨g0, off, none⟩) n cap] w fun e w' => e = .returned (.slice (some ⟨w.heap.size, 0, none⟩) n n) ∧ VA w' w.heap.size n vs ∧ Kept 0 0 w w' := by
  have hm := make_v n w (by omega)
  have hV := VA.made w n
  have hK := kept_alloc 0 0 w (.cells (madeCells #[.int .i64 0, .int .i64 0, .int .i64 0, .int .i64 0, .int .i64 0, .float .f64 0] (n * 6)) 40)
  have HC : Hid (∀ k, k < n → At w g0 (off + k * 6) (vs.getD k Vl.zero)) := hc
  have HX : Hid (vs.length = n) := hx
  clear hc hx
  generalize hw1 : w.alloc (.cells (madeCells #[.int .i64 0, .int .i64 0, .int .i64 0, .int .i64 0, .int .i64 0, .float .f64 0] (n * 6)) 40) = w1 at hm hK hV
  clear hw1
  go_enter Try.func101, Try.ntmps101
  go_wp2_with fail
  clear hm
  go_loopw [4] (fun i W => ∃ k : Nat, k ≤ n ∧ i = .int .i64 k ∧ VA W w.heap.size n (vs.take k ++ (List.replicate n Vl.zero).drop k) ∧ Kept 0 0 w W) (fun i _ => n - (intOf i).toNat)
  case atStart => exact ⟨0, Nat.zero_le _, rfl, by simpa using hV, hK⟩
  case round =>
    obtain ⟨k, hk, rfl, hVW, hKW⟩ := hrel
    by_cases hlt : k < n
    · have hat := HC.out k hlt
      have hst : Hid ((vs.take k ++ (List.replicate n Vl.zero).drop k).set k (vs.getD k Vl.zero) = vs.take (k + 1) ++ (List.replicate n Vl.zero).drop (k + 1)) := set_takeV vs (List.replicate n Vl.zero) k (by rw [HX.out]; exact hlt) (by simp [HX.out])
      generalize vs.getD k Vl.zero = v at hat hst
      have c0 := kcell hKW hg hat.c0
      have c1 := kcell hKW hg hat.c1
      have c2 := kcell hKW hg hat.c2
      have c3 := kcell hKW hg hat.c3
      have c4 := kcell hKW hg hat.c4
      have c5 := kcell hKW hg hat.c5
      clear hat hK hV
      go_wp2_with fail
      refine (toVal _ _ _ _ _ _ _).mono ?_
      rintro e w2 ⟨rfl, hk2⟩
      have hV2 := hVW.keep hk2 (.inr (.inr (Nat.le_refl _)))
      have f := hV2.free
      have d := hV2.at_ k hlt
      obtain ⟨d0, d1, d2, d3, d4, d5⟩ := d
      have R1 : Hid _ := hV2.step k hlt v
      have R2 : Hid _ := (hKW.trans hk2).new (put6_kept w2 w.heap.size (k * 6) v) (Nat.le_refl _)
      clear hV2 hVW hKW hk2 c0 c1 c2 c3 c4 c5
      go_wp2
      go_roundw
      case rel =>
        refine ⟨k + 1, by omega, by go_num, ?_, R2.out⟩
        have := R1.out
        rw [hst.out] at this
        exact this
      case measure => simp [intOf]; omega
    · obtain rfl : k = n := by omega
      clear hV hK
      go_wp2
      go_ret
      refine ⟨rfl, ?_, hKW⟩
      rw [List.take_of_length_le (by rw [HX.out]; omega), List.drop_of_length_le (by simp), List.append_nil] at hVW
      exact hVW
set_option maxRecDepth 100000 in
set_option maxHeartbeats 1000000 in
theorem toVS_zero (w : World) (a : Option Addr) (cap : Nat) :
    Calls Try.prog 101 #[.slice a 0 cap] w fun e w' => e = .returned (.slice (some ⟨w.heap.size, 0, none⟩) 0 0) ∧ VA w' w.heap.size 0 [] ∧ Kept 0 0 w w' := by
  have hm := make_v 0 w (by omega)
  rw [show ((0 : Nat) : Int) = 0 from rfl] at hm
  have hV := VA.made w 0
  have hK := kept_alloc 0 0 w (.cells (madeCells #[.int .i64 0, .int .i64 0, .int .i64 0, .int .i64 0, .int .i64 0, .float .f64 0] (0 * 6)) 40)
  generalize hw1 : w.alloc (.cells (madeCells #[.int .i64 0, .int .i64 0, .int .i64 0, .int .i64 0, .int .i64 0, .float .f64 0] (0 * 6)) 40) = w1 at hm hV hK
  clear hw1
  go_enter Try.func101, Try.ntmps101
  go_wp2_with fail
  refine wp_loop_rounds 1 ?_
  rw [rounds_succ]
  go_wp2
  go_ret
  exact ⟨rfl, hV, hK⟩
theorem toVS (w : World) (lo hi : Nat) (a : Option Addr) (n cap : Nat) (vs : List Vl) (f : VS w lo hi a n vs) (hn : n ≤ 1048576) :
    Calls Try.prog 101 #[.slice a n cap] w fun e w' => e = .returned (.slice (some ⟨w.heap.size, 0, none⟩) n n) ∧ VA w' w.heap.size n vs ∧ Kept 0 0 w w' := by
  rcases f.at_ with rfl | ⟨g, off, rfl, h1, h2, h3, h4⟩
  · have : vs = [] := List.length_eq_zero_iff.1 f.len
    subst this
    exact toVS_zero w a cap
  · exact toVS_pos w g off n cap vs f.len hn h3 h4
end Go.Proofs.Ytcphabjekfihnaa
