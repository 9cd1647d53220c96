import Derived.Test.YtcphabjekfihnaaP05
import Derived.Deep.QuietTactic
import Derived.BigQuiet
import Derived.Deep.RegionWith
namespace Go.Proofs.Ytcphabjekfihnaa
open Go.RowKit Flt
attribute [local go_sem] alloc_drewN setCell_drewN run_store_float

/-- A step of a code, as data. -/
structure Ste where
  op : Int
  len : Int
  n : Int
  dst : Int
  a : Int
  b : Int
  c : Int
  k : Nat
def Ste.cells (v : Ste) : List Value := [.int .i64 v.op, .int .i64 v.len, .int .i64 v.n, .int .i64 v.dst, .int .i64 v.a, .int .i64 v.b, .int .i64 v.c, .float .f64 v.k]
def Ste.zero : Ste := ⟨0, 0, 0, 0, 0, 0, 0, 0⟩
abbrev Ste.agg (v : Ste) : Value := .agg #[.int .i64 v.op, .int .i64 v.len, .int .i64 v.n, .int .i64 v.dst, .int .i64 v.a, .int .i64 v.b, .int .i64 v.c, .float .f64 v.k]
abbrev Ste.box (v : Ste) : Obj := .cells #[.int .i64 v.op, .int .i64 v.len, .int .i64 v.n, .int .i64 v.dst, .int .i64 v.a, .int .i64 v.b, .int .i64 v.c, .float .f64 v.k] 138
structure AtT (w : World) (g o : Nat) (v : Ste) : Prop where
  c0 : w.cell? ⟨g, o, none⟩ = some (.int .i64 v.op)
  c1 : w.cell? ⟨g, o + 1, none⟩ = some (.int .i64 v.len)
  c2 : w.cell? ⟨g, o + 2, none⟩ = some (.int .i64 v.n)
  c3 : w.cell? ⟨g, o + 3, none⟩ = some (.int .i64 v.dst)
  c4 : w.cell? ⟨g, o + 4, none⟩ = some (.int .i64 v.a)
  c5 : w.cell? ⟨g, o + 5, none⟩ = some (.int .i64 v.b)
  c6 : w.cell? ⟨g, o + 6, none⟩ = some (.int .i64 v.c)
  c7 : w.cell? ⟨g, o + 7, none⟩ = some (.float .f64 v.k)
theorem infoSte : (Try.prog.info? 138).map (fun i => (i.zero, i.size, i.bytes)) = some (some (.agg #[.int .i64 0, .int .i64 0, .int .i64 0, .int .i64 0, .int .i64 0, .int .i64 0, .int .i64 0, .float .f64 0]), 8, 64) := by kernel_rfl
theorem make_Ste (n : Nat) (w : World) (hn : n ≤ 1099511627776) :
    (Instr.makeSlice 79 (.int .i64 (n : Int)) (.int .i64 (n : Int))).run Try.prog w = .ok (.slice (some ⟨w.heap.size, 0, none⟩) n n) (w.alloc (.cells (madeCells #[.int .i64 0, .int .i64 0, .int .i64 0, .int .i64 0, .int .i64 0, .int .i64 0, .int .i64 0, .float .f64 0] (n * 8)) 138)) := by
  obtain ⟨i, hi, hz0, hz1, hz2⟩ := info_parts infoSte
  have := run_make (P := Try.prog) w 79 138 i (.agg #[.int .i64 0, .int .i64 0, .int .i64 0, .int .i64 0, .int .i64 0, .int .i64 0, .int .i64 0, .float .f64 0]) Try.underlying79 hi hz0 .i64 .i64 n n (by omega) (by omega) (by rw [hz2]; omega) (by omega)
  rw [hz1, Int.toNat_natCast] at this
  exact this
structure TA (w : World) (g n : Nat) (vs : List Ste) : Prop where
  len : vs.length = n
  lt : g < w.heap.size
  at_ : ∀ k, k < n → AtT w g (k * 8) (vs.getD k Ste.zero)
  free : ∀ o, w.frozen? ⟨g, o, none⟩ = false
theorem TA.made (w : World) (n : Nat) : TA (w.alloc (.cells (madeCells #[.int .i64 0, .int .i64 0, .int .i64 0, .int .i64 0, .int .i64 0, .int .i64 0, .int .i64 0, .float .f64 0] (n * 8)) 138)) w.heap.size n (List.replicate n Ste.zero) where
  len := by simp
  lt := by simp
  at_ := fun k hk => by
    have e : (List.replicate n Ste.zero).getD k Ste.zero = Ste.zero := by simp [List.getD_eq_getElem?_getD, hk]
    rw [e]
    have hc : ∀ j, j < 8 → (w.alloc (.cells (madeCells #[.int .i64 0, .int .i64 0, .int .i64 0, .int .i64 0, .int .i64 0, .int .i64 0, .int .i64 0, .float .f64 0] (n * 8)) 138)).cell? ⟨w.heap.size, k * 8 + j, none⟩ = some (Ste.zero.cells.getD j (.bool false)) := fun j hj => by
      rw [World.cell?_alloc_new]
      have hlt : k * 8 + j < n * 8 := by omega
      simp only [madeCells]
      rw [Array.getElem?_map, Array.getElem?_range, if_pos hlt]
      have hm : (k * 8 + j) % 8 = j := by omega
      simp [hm]
      rcases (by omega : j = 0 ∨ j = 1 ∨ j = 2 ∨ j = 3 ∨ j = 4 ∨ j = 5 ∨ j = 6 ∨ j = 7) with rfl | rfl | rfl | rfl | rfl | rfl | rfl | rfl <;> rfl
    exact ⟨hc 0 (by omega), hc 1 (by omega), hc 2 (by omega), hc 3 (by omega), hc 4 (by omega), hc 5 (by omega), hc 6 (by omega), hc 7 (by omega)⟩
  free := fun o => by simp
abbrev put8 (w : World) (g o : Nat) (v : Ste) : World :=
  ((((((((w.setCell ⟨g, o, none⟩ (.int .i64 v.op)).setCell ⟨g, o + 1, none⟩ (.int .i64 v.len)).setCell ⟨g, o + 2, none⟩ (.int .i64 v.n)).setCell ⟨g, o + 3, none⟩ (.int .i64 v.dst)).setCell ⟨g, o + 4, none⟩ (.int .i64 v.a)).setCell ⟨g, o + 5, none⟩ (.int .i64 v.b)).setCell ⟨g, o + 6, none⟩ (.int .i64 v.c)).setCell ⟨g, o + 7, none⟩ (.float .f64 v.k))
theorem put8_out (w : World) (g o g' b : Nat) (v : Ste) (h : g ≠ g' ∨ b < o ∨ o + 8 ≤ b) : (put8 w g o v).cell? ⟨g', b, none⟩ = w.cell? ⟨g', b, none⟩ := by
  unfold put8
  rw [cell_ne _ _ _ _ _ _ (by omega), cell_ne _ _ _ _ _ _ (by omega), cell_ne _ _ _ _ _ _ (by omega), cell_ne _ _ _ _ _ _ (by omega), cell_ne _ _ _ _ _ _ (by omega), cell_ne _ _ _ _ _ _ (by omega), cell_ne _ _ _ _ _ _ (by omega), cell_ne _ _ _ _ _ _ (by omega)]
theorem put8_at (w : World) (g o : Nat) (u v : Ste) (h : AtT w g o u) : AtT (put8 w g o v) g o v := by
  unfold put8
  refine ⟨?_, ?_, ?_, ?_, ?_, ?_, ?_, ?_⟩
  · rw [cell_ne _ _ _ _ _ _ (by omega), cell_ne _ _ _ _ _ _ (by omega), cell_ne _ _ _ _ _ _ (by omega), cell_ne _ _ _ _ _ _ (by omega), cell_ne _ _ _ _ _ _ (by omega), cell_ne _ _ _ _ _ _ (by omega), cell_ne _ _ _ _ _ _ (by omega)]
    exact cell_eq _ _ _ _ _ (h.c0)
  · rw [cell_ne _ _ _ _ _ _ (by omega), cell_ne _ _ _ _ _ _ (by omega), cell_ne _ _ _ _ _ _ (by omega), cell_ne _ _ _ _ _ _ (by omega), cell_ne _ _ _ _ _ _ (by omega), cell_ne _ _ _ _ _ _ (by omega)]
    exact cell_eq _ _ _ _ _ (by rw [cell_ne _ _ _ _ _ _ (by omega)]; exact h.c1)
  · rw [cell_ne _ _ _ _ _ _ (by omega), cell_ne _ _ _ _ _ _ (by omega), cell_ne _ _ _ _ _ _ (by omega), cell_ne _ _ _ _ _ _ (by omega), cell_ne _ _ _ _ _ _ (by omega)]
    exact cell_eq _ _ _ _ _ (by rw [cell_ne _ _ _ _ _ _ (by omega), cell_ne _ _ _ _ _ _ (by omega)]; exact h.c2)
  · rw [cell_ne _ _ _ _ _ _ (by omega), cell_ne _ _ _ _ _ _ (by omega), cell_ne _ _ _ _ _ _ (by omega), cell_ne _ _ _ _ _ _ (by omega)]
    exact cell_eq _ _ _ _ _ (by rw [cell_ne _ _ _ _ _ _ (by omega), cell_ne _ _ _ _ _ _ (by omega), cell_ne _ _ _ _ _ _ (by omega)]; exact h.c3)
  · rw [cell_ne _ _ _ _ _ _ (by omega), cell_ne _ _ _ _ _ _ (by omega), cell_ne _ _ _ _ _ _ (by omega)]
    exact cell_eq _ _ _ _ _ (by rw [cell_ne _ _ _ _ _ _ (by omega), cell_ne _ _ _ _ _ _ (by omega), cell_ne _ _ _ _ _ _ (by omega), cell_ne _ _ _ _ _ _ (by omega)]; exact h.c4)
  · rw [cell_ne _ _ _ _ _ _ (by omega), cell_ne _ _ _ _ _ _ (by omega)]
    exact cell_eq _ _ _ _ _ (by rw [cell_ne _ _ _ _ _ _ (by omega), cell_ne _ _ _ _ _ _ (by omega), cell_ne _ _ _ _ _ _ (by omega), cell_ne _ _ _ _ _ _ (by omega), cell_ne _ _ _ _ _ _ (by omega)]; exact h.c5)
  · rw [cell_ne _ _ _ _ _ _ (by omega)]
    exact cell_eq _ _ _ _ _ (by rw [cell_ne _ _ _ _ _ _ (by omega), cell_ne _ _ _ _ _ _ (by omega), cell_ne _ _ _ _ _ _ (by omega), cell_ne _ _ _ _ _ _ (by omega), cell_ne _ _ _ _ _ _ (by omega), cell_ne _ _ _ _ _ _ (by omega)]; exact h.c6)
  · exact cell_eq _ _ _ _ _ (by rw [cell_ne _ _ _ _ _ _ (by omega), cell_ne _ _ _ _ _ _ (by omega), cell_ne _ _ _ _ _ _ (by omega), cell_ne _ _ _ _ _ _ (by omega), cell_ne _ _ _ _ _ _ (by omega), cell_ne _ _ _ _ _ _ (by omega), cell_ne _ _ _ _ _ _ (by omega)]; exact h.c7)
theorem put8_kept (w : World) (g o : Nat) (v : Ste) : Kept g (g + 1) w (put8 w g o v) := by
  unfold put8
  have k : ∀ (w : World) (a : Nat) (u : Value), Kept g (g + 1) w (w.setCell ⟨g, a, none⟩ u) := fun w a u => kept_setCell w ⟨g, a, none⟩ u (.inl ⟨Nat.le_refl _, Nat.lt_succ_self _⟩)
  exact ((((((((k _ _ _).trans (k _ _ _)).trans (k _ _ _)).trans (k _ _ _)).trans (k _ _ _)).trans (k _ _ _)).trans (k _ _ _)).trans (k _ _ _))
theorem AtT.keep {w w' : World} {g o l h : Nat} {v : Ste} (a : AtT w g o v) (hg : g < w.heap.size) (k : Kept l h w w') (hd : g < l ∨ h ≤ g ∨ h ≤ l) : AtT w' g o v := by
  have e : ∀ b, w'.cell? ⟨g, b, none⟩ = w.cell? ⟨g, b, none⟩ := fun b => k.cell (p := ⟨g, b, none⟩) hg (by show ¬ (l ≤ g ∧ g < h); omega)
  exact ⟨by rw [e]; exact a.c0, by rw [e]; exact a.c1, by rw [e]; exact a.c2, by rw [e]; exact a.c3, by rw [e]; exact a.c4, by rw [e]; exact a.c5, by rw [e]; exact a.c6, by rw [e]; exact a.c7⟩
theorem TA.keep {w w' : World} {g n l h : Nat} {vs : List Ste} (f : TA w g n vs) (k : Kept l h w w') (hd : g < l ∨ h ≤ g ∨ h ≤ l) : TA w' g n vs :=
  ⟨f.len, Nat.lt_of_lt_of_le f.lt k.size, fun i hi => (f.at_ i hi).keep f.lt k hd, fun o => by rw [k.frozen (p := ⟨g, o, none⟩) f.lt (by show ¬ (l ≤ g ∧ g < h); omega)]; exact f.free o⟩
theorem TA.step {w : World} {g n : Nat} {vs : List Ste} (f : TA w g n vs) (k : Nat) (hk : k < n) (v : Ste) : TA (put8 w g (k * 8) v) g n (vs.set k v) where
  len := by rw [List.length_set]; exact f.len
  lt := Nat.lt_of_lt_of_le f.lt (put8_kept w g (k * 8) v).size
  at_ := fun i hi => by
    rw [List.getD_eq_getElem?_getD, List.getElem?_set]
    by_cases e : k = i
    · subst e
      rw [if_pos rfl, if_pos (by rw [f.len]; exact hk)]
      exact put8_at w g (k * 8) _ v (f.at_ k hk)
    · rw [if_neg e, ← List.getD_eq_getElem?_getD]
      have a := f.at_ i hi
      have o : ∀ b, i * 8 ≤ b → b < i * 8 + 8 → (put8 w g (k * 8) v).cell? ⟨g, b, none⟩ = w.cell? ⟨g, b, none⟩ := fun b h1 h2 => put8_out w g (k * 8) g b v (by right; omega)
      exact ⟨by rw [o _ (by omega) (by omega)]; exact a.c0, by rw [o _ (by omega) (by omega)]; exact a.c1, by rw [o _ (by omega) (by omega)]; exact a.c2, by rw [o _ (by omega) (by omega)]; exact a.c3, by rw [o _ (by omega) (by omega)]; exact a.c4, by rw [o _ (by omega) (by omega)]; exact a.c5, by rw [o _ (by omega) (by omega)]; exact a.c6, by rw [o _ (by omega) (by omega)]; exact a.c7⟩
  free := fun o => by simp [put8, f.free o]
structure TS (w : World) (lo hi : Nat) (a : Option Addr) (n : Nat) (vs : List Ste) : Prop where
  len : vs.length = n
  lt : ∀ v ∈ vs, v.k < 18446744073709551616
  at_ : n = 0 ∨ ∃ g off, a = some ⟨g, off, none⟩ ∧ lo ≤ g ∧ g < hi ∧ g < w.heap.size ∧ ∀ k, k < n → AtT w g (off + k * 8) (vs.getD k Ste.zero)
theorem TS.keep {w w' : World} {lo hi l h : Nat} {a : Option Addr} {n : Nat} {vs : List Ste} (f : TS w lo hi a n vs) (k : Kept l h w w') (hd : hi ≤ l ∨ h ≤ lo ∨ h ≤ l) : TS w' lo hi a n vs :=
  ⟨f.len, f.lt, by
    rcases f.at_ with h0 | ⟨g, off, e, h1, h2, h3, h4⟩
    · exact .inl h0
    · exact .inr ⟨g, off, e, h1, h2, Nat.lt_of_lt_of_le h3 k.size, fun j hj => (h4 j hj).keep h3 k (by omega)⟩⟩
theorem TS.mono {w : World} {lo hi lo' hi' : Nat} {a : Option Addr} {n : Nat} {vs : List Ste} (f : TS w lo hi a n vs) (h1 : lo' ≤ lo) (h2 : hi ≤ hi') : TS w lo' hi' a n vs :=
  ⟨f.len, f.lt, by
    rcases f.at_ with h0 | ⟨g, off, e, q1, q2, q3, q4⟩
    · exact .inl h0
    · exact .inr ⟨g, off, e, by omega, by omega, q3, q4⟩⟩
theorem TA.ss {w : World} {g n : Nat} {vs : List Ste} (f : TA w g n vs) (hl : ∀ v ∈ vs, v.k < 18446744073709551616) : TS w 0 w.heap.size (some ⟨g, 0, none⟩) n vs :=
  ⟨f.len, hl, .inr ⟨g, 0, rfl, Nat.zero_le _, f.lt, f.lt, fun k hk => by rw [Nat.zero_add]; exact f.at_ k hk⟩⟩
theorem set_takeSte (xs ys : List Ste) (k : Nat) (hk : k < xs.length) (hl : ys.length = xs.length) :
    (xs.take k ++ ys.drop k).set k (xs.getD k Ste.zero) = xs.take (k + 1) ++ ys.drop (k + 1) := by
  apply List.ext_getElem?
  intro i
  simp only [List.getElem?_set, List.length_append, List.length_take, List.length_drop, List.getElem?_append, List.getElem?_take, List.getElem?_drop, List.getD_eq_getElem?_getD]
  rcases Nat.lt_trichotomy i k with h | h | h
  · rw [if_neg (by omega), if_pos (by omega), if_pos (by omega), if_pos (by omega), if_pos (by omega)]
  · subst h
    rw [if_pos rfl, if_pos (by omega), if_pos (by omega), if_pos (by omega), List.getElem?_eq_getElem hk]; rfl
  · rw [if_neg (by omega), if_neg (by omega), if_neg (by omega)]
    congr 1; omega
set_option maxRecDepth 100000 in
set_option maxHeartbeats 1000000 in
theorem toStep (w : World) (v : Ste) :
    Calls Try.prog 165 #[v.agg] w fun e w' => e = .returned v.agg ∧ Kept 0 0 w w' := by
  go_enter Try.func165, Try.ntmps165
  go_wp2
  refine bodyPost_ret (v := v.agg) (by simp [results, Try.results165, go_sem]) rfl ⟨rfl, ?_⟩
  exact ((kept_alloc 0 0 w _).trans (kept_alloc 0 0 _ _)).trans (kept_alloc 0 0 _ _)
set_option maxRecDepth 100000 in
set_option maxHeartbeats 1000000 in
theorem toSte_pos (w : World) (g0 off n cap : Nat) (vs : List Ste) (hx : vs.length = n) (hn : n ≤ 1048576) (hg : g0 < w.heap.size)
    (hc : ∀ k, k < n → AtT w g0 (off + k * 8) (vs.getD k Ste.zero)) :
    Calls Try.prog 133 #[.slice (some ⟨g0, off, none⟩) n cap] w fun e w' => e = .returned (.slice (some ⟨w.heap.size, 0, none⟩) n n) ∧ TA w' w.heap.size n vs ∧ Kept 0 0 w w' := by
  have hm := make_Ste n w (by omega)
  have hV := TA.made w n
  have hK := kept_alloc 0 0 w (.cells (madeCells #[.int .i64 0, .int .i64 0, .int .i64 0, .int .i64 0, .int .i64 0, .int .i64 0, .int .i64 0, .float .f64 0] (n * 8)) 138)
  have HC : Hid (∀ k, k < n → AtT w g0 (off + k * 8) (vs.getD k Ste.zero)) := hc
  have HX : Hid (vs.length = n) := hx
  clear hc hx
  generalize hw1 : w.alloc (.cells (madeCells #[.int .i64 0, .int .i64 0, .int .i64 0, .int .i64 0, .int .i64 0, .int .i64 0, .int .i64 0, .float .f64 0] (n * 8)) 138) = w1 at hm hK hV
  clear hw1
  go_enter Try.func133, Try.ntmps133
  go_wp2_with fail
  clear hm
  go_loopw [4] (fun i W => ∃ k : Nat, k ≤ n ∧ i = .int .i64 k ∧ TA W w.heap.size n (vs.take k ++ (List.replicate n Ste.zero).drop k) ∧ Kept 0 0 w W) (fun i _ => n - (intOf i).toNat)
  case atStart => exact ⟨0, Nat.zero_le _, rfl, by simpa using hV, hK⟩
  case round =>
    obtain ⟨k, hk, rfl, hVW, hKW⟩ := hrel
    by_cases hlt : k < n
    · have hat := HC.out k hlt
      have hst : Hid ((vs.take k ++ (List.replicate n Ste.zero).drop k).set k (vs.getD k Ste.zero) = vs.take (k + 1) ++ (List.replicate n Ste.zero).drop (k + 1)) := set_takeSte vs (List.replicate n Ste.zero) k (by rw [HX.out]; exact hlt) (by simp [HX.out])
      generalize vs.getD k Ste.zero = v at hat hst
      have c0 := kcell hKW hg hat.c0
      have c1 := kcell hKW hg hat.c1
      have c2 := kcell hKW hg hat.c2
      have c3 := kcell hKW hg hat.c3
      have c4 := kcell hKW hg hat.c4
      have c5 := kcell hKW hg hat.c5
      have c6 := kcell hKW hg hat.c6
      have c7 := kcell hKW hg hat.c7
      clear hat hK hV
      go_wp2_with fail
      refine (toStep _ v).mono ?_
      rintro e w2 ⟨rfl, hk2⟩
      have hV2 := hVW.keep hk2 (.inr (.inr (Nat.le_refl _)))
      have f := hV2.free
      have d := hV2.at_ k hlt
      obtain ⟨d0, d1, d2, d3, d4, d5, d6, d7⟩ := d
      have R1 : Hid _ := hV2.step k hlt v
      have R2 : Hid _ := (hKW.trans hk2).new (put8_kept w2 w.heap.size (k * 8) v) (Nat.le_refl _)
      clear hV2 hVW hKW hk2 c0 c1 c2 c3 c4 c5 c6 c7
      go_wp2
      go_roundw
      case rel =>
        refine ⟨k + 1, by omega, by go_num, ?_, R2.out⟩
        have := R1.out
        rw [hst.out] at this
        exact this
      case measure => simp [intOf]; omega
    · obtain rfl : k = n := by omega
      clear hV hK
      go_wp2
      go_ret
      refine ⟨rfl, ?_, hKW⟩
      rw [List.take_of_length_le (by rw [HX.out]; omega), List.drop_of_length_le (by simp), List.append_nil] at hVW
      exact hVW
set_option maxRecDepth 100000 in
set_option maxHeartbeats 1000000 in
theorem toSte_zero (w : World) (a : Option Addr) (cap : Nat) :
    Calls Try.prog 133 #[.slice a 0 cap] w fun e w' => e = .returned (.slice (some ⟨w.heap.size, 0, none⟩) 0 0) ∧ TA w' w.heap.size 0 [] ∧ Kept 0 0 w w' := by
  have hm := make_Ste 0 w (by omega)
  rw [show ((0 : Nat) : Int) = 0 from rfl] at hm
  have hV := TA.made w 0
  have hK := kept_alloc 0 0 w (.cells (madeCells #[.int .i64 0, .int .i64 0, .int .i64 0, .int .i64 0, .int .i64 0, .int .i64 0, .int .i64 0, .float .f64 0] (0 * 8)) 138)
  generalize hw1 : w.alloc (.cells (madeCells #[.int .i64 0, .int .i64 0, .int .i64 0, .int .i64 0, .int .i64 0, .int .i64 0, .int .i64 0, .float .f64 0] (0 * 8)) 138) = w1 at hm hV hK
  clear hw1
  go_enter Try.func133, Try.ntmps133
  go_wp2_with fail
  refine wp_loop_rounds 1 ?_
  rw [rounds_succ]
  go_wp2
  go_ret
  exact ⟨rfl, hV, hK⟩
theorem toTS (w : World) (lo hi : Nat) (a : Option Addr) (n cap : Nat) (vs : List Ste) (f : TS w lo hi a n vs) (hn : n ≤ 1048576) :
    Calls Try.prog 133 #[.slice a n cap] w fun e w' => e = .returned (.slice (some ⟨w.heap.size, 0, none⟩) n n) ∧ TA w' w.heap.size n vs ∧ Kept 0 0 w w' := by
  rcases f.at_ with rfl | ⟨g, off, rfl, h1, h2, h3, h4⟩
  · have : vs = [] := List.length_eq_zero_iff.1 f.len
    subst this
    exact toSte_zero w a cap
  · exact toSte_pos w g off n cap vs f.len hn h3 h4
set_option maxRecDepth 100000 in
set_option maxHeartbeats 1000000 in
theorem szTS (w : World) (a : Option Addr) (n cap : Nat) (left : Int) (h0 : 0 ≤ left) (h1 : left ≤ 1048576) (hn : n ≤ 9223372036854775807) :
    Calls Try.prog 127 #[.slice a n cap, .int .i64 left] w fun e w' => e = .returned (.int .i64 (leftOf left n)) ∧ w = w' := by
  unfold leftOf
  by_cases h : left - n < 0
  · rw [if_pos h]
    go_enter Try.func127, Try.ntmps127
    go_wp2
    go_ret
    exact ⟨rfl, rfl⟩
  · rw [if_neg h]
    go_enter Try.func127, Try.ntmps127
    go_wp2
    go_ret
    exact ⟨rfl, rfl⟩
theorem getKSte {vs : List Ste} (h : ∀ v ∈ vs, v.k < 18446744073709551616) (k : Nat) : (vs.getD k Ste.zero).k < 18446744073709551616 := by
  rw [List.getD_eq_getElem?_getD]
  by_cases hk : k < vs.length
  · rw [List.getElem?_eq_getElem hk]; exact h _ (List.getElem_mem _)
  · rw [List.getElem?_eq_none (by omega)]; exact (by decide : Ste.zero.k < 18446744073709551616)
set_option maxRecDepth 100000 in
set_option maxHeartbeats 1000000 in
theorem eqStep (w : World) (v : Ste) (hk : v.k < 18446744073709551616) :
    Calls Try.prog 172 #[v.agg, v.agg] w fun e w' => e = .returned (.bool true) ∧ Kept 0 0 w w' := by
  have h2 := convff
  go_enter Try.func172, Try.ntmps172
  go_wp2_with fail
  refine (sameF _ _ _ hk hk).mono ?_
  rintro e w2 ⟨rfl, rfl⟩
  rw [fb_beq]
  go_wp2
  go_ret
  exact ⟨rfl, (kept_alloc 0 0 w _).trans (kept_alloc 0 0 _ _)⟩
set_option maxRecDepth 100000 in
set_option maxHeartbeats 1000000 in
theorem eqTS_zero (w : World) (a b : Option Addr) (ca cb : Nat) :
    Calls Try.prog 140 #[.slice a 0 ca, .slice b 0 cb] w fun e w' => e = .returned (.bool true) ∧ w' = w := by
  go_enter Try.func140, Try.ntmps140
  go_wp2_with fail
  refine wp_loop_rounds 1 ?_
  rw [rounds_succ]
  go_wp2
  go_ret
  exact ⟨rfl, rfl⟩
set_option maxRecDepth 100000 in
set_option maxHeartbeats 2000000 in
theorem eqTS_pos (w : World) (g1 o1 g2 o2 n ca cb : Nat) (vs : List Ste) (hn : n ≤ 1099511627776) (b1 : g1 < w.heap.size) (b2 : g2 < w.heap.size) (hl : ∀ v ∈ vs, v.k < 18446744073709551616) 
    (hx : ∀ k, k < n → AtT w g1 (o1 + k * 8) (vs.getD k Ste.zero)) (hy : ∀ k, k < n → AtT w g2 (o2 + k * 8) (vs.getD k Ste.zero)) :
    Calls Try.prog 140 #[.slice (some ⟨g1, o1, none⟩) n ca, .slice (some ⟨g2, o2, none⟩) n cb] w fun e w' => e = .returned (.bool true) ∧ Kept 0 0 w w' := by
  have HX : Hid (∀ k, k < n → AtT w g1 (o1 + k * 8) (vs.getD k Ste.zero)) := hx
  have HY : Hid (∀ k, k < n → AtT w g2 (o2 + k * 8) (vs.getD k Ste.zero)) := hy
  have HL : Hid (∀ v ∈ vs, v.k < 18446744073709551616) := hl
  clear hx hy hl
  go_enter Try.func140, Try.ntmps140
  go_wp2_with fail
  go_loopw [5] (fun i W => ∃ k : Nat, k ≤ n ∧ i = .int .i64 k ∧ Kept 0 0 w W) (fun i _ => n - (intOf i).toNat)
  case atStart => exact ⟨0, Nat.zero_le _, rfl, Kept.refl _ _ _⟩
  case round =>
    obtain ⟨k, hk, rfl, HW⟩ := hrel
    by_cases hlt : k < n
    · obtain ⟨c0, c1, c2, c3, c4, c5, c6, c7⟩ := (HX.out k hlt).keep b1 HW (.inr (.inr (Nat.le_refl _)))
      obtain ⟨d0, d1, d2, d3, d4, d5, d6, d7⟩ := (HY.out k hlt).keep b2 HW (.inr (.inr (Nat.le_refl _)))
      have hv : (vs.getD k Ste.zero).k < 18446744073709551616 := getKSte HL.out k
      generalize vs.getD k Ste.zero = v at c0 c1 c2 c3 c4 c5 c6 c7 d0 d1 d2 d3 d4 d5 d6 d7 hv
      have HE : Hid (∀ m, Calls Try.prog 172 #[v.agg, v.agg] (wr.drewN m) fun e w' => e = .returned (.bool true) ∧ Kept 0 0 w w') := fun m => (eqStep _ v hv).mono fun _ _ h => ⟨h.1, (HW.trans (kept_drewN 0 0 wr m)).trans h.2⟩
      go_wp2_with fail
      go_region_with (go_at_call 172; refine (HE.out 1).mono ?_; rintro e w2 ⟨rfl, hk2⟩)
      all_goals
        go_wp2
        go_roundw
        case rel => exact ⟨k + 1, by omega, by go_num, hk2⟩
        case measure => simp [intOf]; omega
    · go_wp2
      go_ret
      exact ⟨rfl, HW⟩
theorem eqTS (w : World) (lo hi lo' hi' : Nat) (a b : Option Addr) (n ca cb : Nat) (vs : List Ste) (f : TS w lo hi a n vs) (g : TS w lo' hi' b n vs) (hn : n ≤ 1099511627776) :
    Calls Try.prog 140 #[.slice a n ca, .slice b n cb] w fun e w' => e = .returned (.bool true) ∧ Kept 0 0 w w' := by
  rcases f.at_ with rfl | ⟨g1, o1, rfl, a1, a2, a3, a4⟩
  · exact (eqTS_zero w a b ca cb).mono fun _ _ h => ⟨h.1, by rw [h.2]; exact Kept.refl _ _ _⟩
  · rcases g.at_ with rfl | ⟨g2, o2, rfl, b1, b2, b3, b4⟩
    · exact (eqTS_zero w _ b ca cb).mono fun _ _ h => ⟨h.1, by rw [h.2]; exact Kept.refl _ _ _⟩
    · exact eqTS_pos w g1 o1 g2 o2 n ca cb vs hn a3 b3 f.lt a4 b4
end Go.Proofs.Ytcphabjekfihnaa
