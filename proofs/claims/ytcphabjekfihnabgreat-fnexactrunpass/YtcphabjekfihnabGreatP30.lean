import Derived.Test.YtcphabjekfihnabGreatP20
import Derived.Test.YtcphabjekfihnabGreatP29
namespace Go.Proofs.YtcphabjekfihnabGreat
open Go.RowKit Flt
attribute [local go_sem] alloc_drewN setCell_drewN run_store_float

/-- The first n cells of a block that the call laid: floats. -/
structure FO (w : World) (g n : Nat) (xs : List Nat) : Prop where
  len : xs.length = n
  bnd : ∀ x ∈ xs, x < 18446744073709551616
  lt : g < w.heap.size
  at_ : ∀ k, k < n → w.cell? ⟨g, k, none⟩ = some (.float .f64 (xs.getD k 0))
  free : ∀ o, w.frozen? ⟨g, o, none⟩ = false
theorem FR.fo {w : World} {g : Nat} {xs : List Nat} (h : FR w g xs) (hl : ∀ x ∈ xs, x < 18446744073709551616) : FO w g xs.length xs := ⟨rfl, hl, h.lt, fun k hk => h.cell k hk, h.free⟩
theorem FO.keep {w w' : World} {g n l h : Nat} {xs : List Nat} (f : FO w g n xs) (k : Kept l h w w') (hd : g < l ∨ h ≤ g ∨ h ≤ l) : FO w' g n xs :=
  ⟨f.len, f.bnd, Nat.lt_of_lt_of_le f.lt k.size, fun j hj => by rw [k.cell (p := ⟨g, j, none⟩) f.lt (by show ¬ (l ≤ g ∧ g < h); omega)]; exact f.at_ j hj, fun o => by rw [k.frozen (p := ⟨g, o, none⟩) f.lt (by show ¬ (l ≤ g ∧ g < h); omega)]; exact f.free o⟩
theorem FO.fs {w : World} {g n : Nat} {xs : List Nat} (f : FO w g n xs) : FS w 0 w.heap.size (some ⟨g, 0, none⟩) n xs :=
  ⟨f.len, f.bnd, .inr ⟨g, 0, rfl, Nat.zero_le _, f.lt, f.lt, fun k hk => by rw [Nat.zero_add]; exact f.at_ k hk⟩⟩
theorem FO.put {w : World} {g n : Nat} {xs : List Nat} (f : FO w g n xs) (k : Nat) (hk : k < n) (x : Nat) (hx : x < 18446744073709551616) : FO (w.setCell ⟨g, k, none⟩ (.float .f64 x)) g n (xs.set k x) where
  len := by rw [List.length_set]; exact f.len
  bnd := fun y hy => by
    rcases List.mem_or_eq_of_mem_set hy with h | h
    · exact f.bnd y h
    · rw [h]; exact hx
  lt := by simpa using f.lt
  at_ := fun j hj => by
    rw [List.getD_eq_getElem?_getD, List.getElem?_set]
    by_cases e : k = j
    · subst e
      rw [if_pos rfl, if_pos (by rw [f.len]; exact hk)]
      exact cell_eq _ _ _ _ _ (f.at_ k hk)
    · rw [if_neg e, cell_ne _ _ _ _ _ _ (.inr e), ← List.getD_eq_getElem?_getD]
      exact f.at_ j hj
  free := fun o => by simp [f.free o]

/-- A slice of float slices that is read. -/
structure SS (w : World) (a : Option Addr) (n : Nat) (xss : List (List Nat)) : Prop where
  len : xss.length = n
  at_ : n = 0 ∨ ∃ g off, a = some ⟨g, off, none⟩ ∧ g < w.heap.size ∧ ∀ k, k < n → ∃ b c, w.cell? ⟨g, off + k, none⟩ = some (.slice b (xss.getD k []).length c) ∧ (xss.getD k []).length ≤ c ∧ FS w 0 w.heap.size b (xss.getD k []).length (xss.getD k [])
theorem FS.keep0 {w w' : World} {a : Option Addr} {n : Nat} {xs : List Nat} (f : FS w 0 w.heap.size a n xs) (k : Kept 0 0 w w') : FS w' 0 w'.heap.size a n xs :=
  (f.keep k (.inr (.inr (Nat.le_refl _)))).mono (Nat.le_refl _) k.size
theorem SS.keep {w w' : World} {a : Option Addr} {n : Nat} {xss : List (List Nat)} (f : SS w a n xss) (k : Kept 0 0 w w') : SS w' a n xss :=
  ⟨f.len, by
    rcases f.at_ with h0 | ⟨g, off, e, h1, h2⟩
    · exact .inl h0
    · refine .inr ⟨g, off, e, Nat.lt_of_lt_of_le h1 k.size, fun j hj => ?_⟩
      obtain ⟨b, c, g1, g2, g3⟩ := h2 j hj
      exact ⟨b, c, kcell k h1 g1, g2, g3.keep0 k⟩⟩

/-- A slice of float slices in blocks of the call's own, the first k of n laid. -/
structure SP (w : World) (g n k : Nat) (gf cf : Nat → Nat) (xss : List (List Nat)) : Prop where
  lt : g < w.heap.size
  free : ∀ o, w.frozen? ⟨g, o, none⟩ = false
  cell : ∀ j, j < k → w.cell? ⟨g, j, none⟩ = some (.slice (some ⟨gf j, 0, none⟩) (xss.getD j []).length (cf j))
  rest : ∀ j, j < n → ∃ u, w.cell? ⟨g, j, none⟩ = some u
  cap : ∀ j, j < k → (xss.getD j []).length ≤ cf j
  own : ∀ j, j < k → FO w (gf j) (xss.getD j []).length (xss.getD j [])
  up : ∀ j, j < k → g < gf j
  inc : ∀ i j, i < j → j < k → gf i < gf j
theorem SP.keep {w w' : World} {g n k : Nat} {gf cf : Nat → Nat} {xss : List (List Nat)} (f : SP w g n k gf cf xss) (q : Kept 0 0 w w') : SP w' g n k gf cf xss :=
  ⟨Nat.lt_of_lt_of_le f.lt q.size, fun o => by rw [q.frozen (p := ⟨g, o, none⟩) f.lt (by omega)]; exact f.free o, fun j hj => kcell q f.lt (f.cell j hj), fun j hj => (f.rest j hj).imp fun _ h => kcell q f.lt h, f.cap, fun j hj => (f.own j hj).keep q (.inr (.inr (Nat.le_refl _))), f.up, f.inc⟩
def upd (f : Nat → Nat) (k x : Nat) : Nat → Nat := fun j => if j = k then x else f j
theorem upd_same (f : Nat → Nat) (k x : Nat) : upd f k x k = x := if_pos rfl
theorem upd_other {f : Nat → Nat} {k x j : Nat} (h : j ≠ k) : upd f k x j = f j := if_neg h
theorem SP.step {w w' : World} {g n k : Nat} {gf cf : Nat → Nat} {xss : List (List Nat)} (f : SP w g n k gf cf xss) (hk : k < n) (q : Kept 0 0 w w') {G c : Nat}
    (ho : FO w' G (xss.getD k []).length (xss.getD k [])) (hG : w.heap.size ≤ G) (hc : (xss.getD k []).length ≤ c) :
    SP (w'.setCell ⟨g, k, none⟩ (.slice (some ⟨G, 0, none⟩) (xss.getD k []).length c)) g n (k + 1) (upd gf k G) (upd cf k c) xss := by
  have f' := f.keep q
  have hgl := f.lt
  have pk : ∀ v, Kept g (g + 1) w' (w'.setCell ⟨g, k, none⟩ v) := fun v => kept_setCell w' ⟨g, k, none⟩ v (.inl ⟨Nat.le_refl _, Nat.lt_succ_self _⟩)
  obtain ⟨u, hu⟩ := f'.rest k hk
  refine ⟨by simpa using f'.lt, fun o => by simp [f'.free o], fun j hj => ?_, fun j hj => ?_, fun j hj => ?_, fun j hj => ?_, fun j hj => ?_, fun i j hij hj => ?_⟩
  · by_cases e : j = k
    · subst e
      rw [upd_same, upd_same]
      exact cell_eq _ _ _ _ _ hu
    · rw [upd_other e, upd_other e, cell_ne _ _ _ _ _ _ (.inr (Ne.symm e))]
      exact f'.cell j (by omega)
  · by_cases e : j = k
    · subst e; exact ⟨_, cell_eq _ _ _ _ _ hu⟩
    · rw [cell_ne _ _ _ _ _ _ (.inr (Ne.symm e))]
      exact f'.rest j hj
  · by_cases e : j = k
    · subst e; rw [upd_same]; exact hc
    · rw [upd_other e]; exact f.cap j (by omega)
  · by_cases e : j = k
    · subst e; rw [upd_same]; exact ho.keep (pk _) (by omega)
    · rw [upd_other e]; exact (f'.own j (by omega)).keep (pk _) (by have := f.up j (by omega); omega)
  · by_cases e : j = k
    · subst e; rw [upd_same]; omega
    · rw [upd_other e]; exact f.up j (by omega)
  · by_cases e : j = k
    · subst e
      rw [upd_same, upd_other (by omega)]
      have := (f.own i (by omega)).lt
      omega
    · rw [upd_other e, upd_other (by omega)]
      exact f.inc i j hij (by omega)
theorem SP.ss {w : World} {g n : Nat} {gf cf : Nat → Nat} {xss : List (List Nat)} (f : SP w g n n gf cf xss) (hl : xss.length = n) : SS w (some ⟨g, 0, none⟩) n xss :=
  ⟨hl, .inr ⟨g, 0, rfl, f.lt, fun k hk => ⟨_, _, by rw [Nat.zero_add]; exact f.cell k hk, f.cap k hk, (f.own k hk).fs⟩⟩⟩

theorem infoS : (Tryz.prog.info? 72).map (fun i => (i.zero, i.size, i.bytes)) = some (some (.slice none 0 0), 1, 24) := by kernel_rfl
theorem make_s (n : Nat) (w : World) (hn : n ≤ 1099511627776) :
    (Instr.makeSlice 71 (.int .i64 (n : Int)) (.int .i64 (n : Int))).run Tryz.prog w = .ok (.slice (some ⟨w.heap.size, 0, none⟩) n n) (w.alloc (.cells (madeCells #[.slice none 0 0] n) 72)) := by
  obtain ⟨i, hi, hz0, hz1, hz2⟩ := info_parts infoS
  have := run_make (P := Tryz.prog) w 71 72 i (.slice none 0 0) Tryz.underlying71 hi hz0 .i64 .i64 n n (by omega) (by omega) (by rw [hz2]; omega) (by omega)
  rw [hz1, Nat.mul_one, Int.toNat_natCast] at this
  exact this
theorem SP.made (w : World) (n : Nat) (gf cf : Nat → Nat) (xss : List (List Nat)) : SP (w.alloc (.cells (madeCells #[.slice none 0 0] n) 72)) w.heap.size n 0 gf cf xss where
  lt := by simp
  free := fun o => by simp
  cell := fun j hj => absurd hj (Nat.not_lt_zero _)
  rest := fun j hj => by
    rw [World.cell?_alloc_new]
    refine ⟨.slice none 0 0, ?_⟩
    simp only [madeCells]
    rw [Array.getElem?_map, Array.getElem?_range, if_pos hj]
    have hm : j % 1 = 0 := Nat.mod_one j
    simp [hm]
  cap := fun j hj => absurd hj (Nat.not_lt_zero _)
  own := fun j hj => absurd hj (Nat.not_lt_zero _)
  up := fun j hj => absurd hj (Nat.not_lt_zero _)
  inc := fun i j _ hj => absurd hj (Nat.not_lt_zero _)

/-- What szFloat64SS takes off. -/
def total : List (List Nat) → Nat
  | [] => 0
  | xs :: r => xs.length + total r
theorem total_append (r : List (List Nat)) (xs : List Nat) : total (r ++ [xs]) = total r + xs.length := by
  induction r with
  | nil => simp [total]
  | cons y ys ih => simp [total, ih]; omega
theorem total_take {xss : List (List Nat)} {k : Nat} (hk : k < xss.length) : total (xss.take (k + 1)) = total (xss.take k) + (xss.getD k []).length := by
  rw [List.take_succ_eq_append_getElem hk, total_append, List.getD_eq_getElem?_getD, List.getElem?_eq_getElem hk]; rfl
theorem total_le (xss : List (List Nat)) (k : Nat) : total (xss.take k) ≤ total xss := by
  induction xss generalizing k with
  | nil => simp [total]
  | cons y ys ih =>
    cases k with
    | zero => simp [total]
    | succ k => simp only [List.take_succ_cons, total]; have := ih k; omega
def leftSS (left : Int) (n t : Nat) : Int := if left - n - t < 0 then -1 else left - n - t
end Go.Proofs.YtcphabjekfihnabGreat

namespace Go.Proofs.YtcphabjekfihnabGreat
open Go.RowKit Flt
attribute [local go_sem] alloc_drewN setCell_drewN run_store_float

set_option maxRecDepth 100000 in
set_option maxHeartbeats 1000000 in
theorem markI (w : World) (g n cap : Nat) (k : Int) (xs : List Int) (hF : IR w g xs) (hx : xs.length = n) (h0 : 0 ≤ k) (h1 : k ≤ 1099511627776) (hn : n ≤ 1099511627776) :
    Calls Tryz.prog 16 #[.slice (some ⟨g, 0, none⟩) n cap, .int .i64 k] w fun e w' => e = .returned (.int .i64 (k + n)) ∧ Kept g (g + 1) w w' := by
  go_enter Tryz.func16, Tryz.ntmps16
  go_wp2_with fail
  go_loopw [1, 5] (fun kv i W => ∃ j : Nat, j ≤ n ∧ i = .int .i64 j ∧ kv = .int .i64 (k + j) ∧ (∃ ys, IR W g ys ∧ ys.length = n) ∧ Kept g (g + 1) w W) (fun _ i _ => n - (intOf i).toNat)
  case atStart => exact ⟨0, Nat.zero_le _, rfl, by simp, ⟨xs, hF, hx⟩, Kept.refl _ _ _⟩
  case round =>
    obtain ⟨j, hj, rfl, rfl, ⟨ys, hFW, hy⟩, hKW⟩ := hrel
    by_cases hlt : j < n
    · have c2 := hFW.cell j (by omega)
      have c3 := hFW.free j
      have R1 : Hid _ := hFW.set j (k + (j : Int))
      have R2 : Hid _ := hKW.trans (kept_setCell (lo := g) (hi := g + 1) wr ⟨g, j, none⟩ (.int .i64 (k + (j : Int))) (.inl ⟨Nat.le_refl _, Nat.lt_succ_self _⟩))
      have R3 : Hid ((ys.set j (k + (j : Int))).length = n) := by show (ys.set j (k + (j : Int))).length = n; rw [List.length_set]; exact hy
      clear hFW hKW hF hx hy
      go_wp2
      go_roundw
      case rel => exact ⟨j + 1, by omega, by go_num, by go_num, ⟨_, R1.out, R3.out⟩, R2.out⟩
      case measure => simp [intOf]; omega
    · obtain rfl : j = n := by omega
      clear hF hFW hx hy
      go_wp2
      go_ret
      exact ⟨rfl, hKW⟩

set_option maxRecDepth 100000 in
set_option maxHeartbeats 4000000 in
theorem markV (w : World) (g n cap : Nat) (k : Int) (vs : List Vl) (hF : VA w g n vs) (h0 : 0 ≤ k) (h1 : k ≤ 1099511627776) (hn : n ≤ 1099511627776) :
    Calls Tryz.prog 23 #[.slice (some ⟨g, 0, none⟩) n cap, .int .i64 k] w fun e w' => e = .returned (.int .i64 (k + 6 * n)) ∧ Kept g (g + 1) w w' := by
  go_enter Tryz.func23, Tryz.ntmps23
  go_wp2_with fail
  go_loopw [1, 5] (fun kv i W => ∃ j : Nat, j ≤ n ∧ i = .int .i64 j ∧ kv = .int .i64 (k + 6 * j) ∧ (∃ ys, VA W g n ys) ∧ Kept g (g + 1) w W) (fun _ i _ => n - (intOf i).toNat)
  case atStart => exact ⟨0, Nat.zero_le _, rfl, by simp, ⟨vs, hF⟩, Kept.refl _ _ _⟩
  case round =>
    obtain ⟨j, hj, rfl, rfl, ⟨ys, hFW⟩, hKW⟩ := hrel
    by_cases hlt : j < n
    · obtain ⟨d0, d1, d2, d3, d4, d5⟩ := hFW.at_ j hlt
      have c3 := hFW.free
      generalize hkk : k + 6 * (j : Int) = kk
      have b0 : 0 ≤ kk := by omega
      have b1 : kk ≤ 10995116277760 := by omega
      have R1 : Hid _ := hFW.step j hlt ⟨kk, kk + 1, kk + 1 + 1, kk + 1 + 1 + 1, kk + 1 + 1 + 1 + 1, floatOfInt .f64 (kk + 1 + 1 + 1 + 1 + 1)⟩
      have R2 : Hid _ := hKW.trans (put6_kept wr g (j * 6) ⟨kk, kk + 1, kk + 1 + 1, kk + 1 + 1 + 1, kk + 1 + 1 + 1 + 1, floatOfInt .f64 (kk + 1 + 1 + 1 + 1 + 1)⟩)
      have R3 : Hid (k + 6 * (j : Int) = kk) := hkk
      clear hFW hKW hF hkk
      go_wp2
      go_roundw
      case rel => exact ⟨j + 1, by omega, by go_num, by have := R3.out; congr 1; omega, ⟨_, R1.out⟩, R2.out⟩
      case measure => simp [intOf]; omega
    · obtain rfl : j = n := by omega
      clear hF hFW
      go_wp2
      go_ret
      exact ⟨rfl, hKW⟩
theorem G0.keepR {W W' : World} {p l h : Nat} {b0 b1 b2 : Value} (t : G0 W p b0 b1 b2) (k : Kept l h W W') (hd : p < l ∨ h ≤ p ∨ h ≤ l) : G0 W' p b0 b1 b2 := by
  have e : ∀ o, W'.cell? ⟨p, o, none⟩ = W.cell? ⟨p, o, none⟩ := fun o => k.cell (p := ⟨p, o, none⟩) t.sz (by show ¬ (l ≤ p ∧ p < h); omega)
  exact ⟨Nat.lt_of_lt_of_le t.sz k.size, by rw [e]; exact t.q0, by rw [e]; exact t.q1, by rw [e]; exact t.q2⟩
theorem Kept.grow {lo hi l h : Nat} {w w' : World} (k : Kept l h w w') (h1 : lo ≤ l) (h2 : h ≤ hi) : Kept lo hi w w' := k.mono fun _ _ c => ⟨by omega, by omega⟩

set_option maxRecDepth 100000 in
set_option maxHeartbeats 2000000 in
theorem markG (w : World) (lo g1 g2 g3 n1 n2 n3 c1 c2 c3 : Nat) (ins : List Int) (vs : List Vl) (outs : List Int) (f : GO w lo g1 g2 g3 n2 ins vs outs) (hn1 : ins.length = n1) (hn3 : outs.length = n3) (k : Int) (h0 : 0 ≤ k) (h1 : k ≤ 1000000000) (b1 : n1 ≤ 1048576) (b2 : n2 ≤ 1048576) (b3 : n3 ≤ 1048576) :
    Calls Tryz.prog 10 #[gagg (some ⟨g1, 0, none⟩) n1 c1 (some ⟨g2, 0, none⟩) n2 c2 (some ⟨g3, 0, none⟩) n3 c3, .int .i64 k] w fun e w' => e = .returned (.int .i64 (k + n1 + 6 * n2 + n3)) ∧ Kept lo (g3 + 1) w w' := by
  have hK := kept_alloc lo (g3 + 1) w (gbox (some ⟨g1, 0, none⟩) n1 c1 (some ⟨g2, 0, none⟩) n2 c2 (some ⟨g3, 0, none⟩) n3 c3)
  have hB := g0_start w (.slice (some ⟨g1, 0, none⟩) n1 c1) (.slice (some ⟨g2, 0, none⟩) n2 c2) (.slice (some ⟨g3, 0, none⟩) n3 c3)
  have ka := kept_alloc 0 0 w (gbox (some ⟨g1, 0, none⟩) n1 c1 (some ⟨g2, 0, none⟩) n2 c2 (some ⟨g3, 0, none⟩) n3 c3)
  have fi := f.i.keep ka (.inr (.inr (Nat.le_refl _)))
  have fv := f.v.keep ka (.inr (.inr (Nat.le_refl _)))
  have fo := f.o.keep ka (.inr (.inr (Nat.le_refl _)))
  have HO : Hid (lo ≤ g1 ∧ g1 < g2 ∧ g2 < g3 ∧ g3 < w.heap.size) := ⟨f.l1, f.l2, f.l3, f.o.lt⟩
  have HFI : Hid _ := fi
  have HFV : Hid _ := fv
  have HFO : Hid _ := fo
  have HB : Hid _ := hB
  have HK : Hid _ := hK
  have HN : Hid (ins.length = n1 ∧ outs.length = n3) := ⟨hn1, hn3⟩
  clear f ka fi fv fo hB hK hn1 hn3
  go_enter Tryz.func10, Tryz.ntmps10
  go_wp2_with fail
  generalize hw1 : w.alloc (gbox (some ⟨g1, 0, none⟩) n1 c1 (some ⟨g2, 0, none⟩) n2 c2 (some ⟨g3, 0, none⟩) n3 c3) = w1 at HFI HFV HFO HB HK ⊢
  clear hw1
  refine Calls.mono (markI _ g1 n1 _ k ins HFI.out HN.out.1 h0 (by omega) (by omega)) ?_
  rintro e w2 ⟨rfl, k2⟩
  have HFV2 : Hid _ := VA.keep HFV.out k2 (by have := HO.out; omega)
  have HFO2 : Hid _ := IR.keep HFO.out k2 (by have := HO.out; omega)
  have HB2 : Hid _ := G0.keepR HB.out k2 (by have := HO.out; omega)
  have HK2 : Hid _ := Kept.trans HK.out (k2.grow (by have := HO.out; omega) (by have := HO.out; omega))
  clear k2 HFI HFV HFO HB HK
  obtain ⟨_, q0, q1, q2⟩ := HB2.out
  go_wp2_with fail
  clear q0 q1 q2
  refine Calls.mono (markV _ g2 n2 _ (k + n1) vs HFV2.out (by omega) (by omega) (by omega)) ?_
  rintro e w3 ⟨rfl, k3⟩
  have HFO3 : Hid _ := IR.keep HFO2.out k3 (by have := HO.out; omega)
  have HB3 : Hid _ := G0.keepR HB2.out k3 (by have := HO.out; omega)
  have HK3 : Hid _ := Kept.trans HK2.out (k3.grow (by have := HO.out; omega) (by have := HO.out; omega))
  clear k3 HFV2 HFO2 HB2 HK2
  obtain ⟨_, q0, q1, q2⟩ := HB3.out
  go_wp2_with fail
  clear q0 q1 q2
  refine Calls.mono (markI _ g3 n3 _ (k + n1 + 6 * n2) outs HFO3.out HN.out.2 (by omega) (by omega) (by omega)) ?_
  rintro e w4 ⟨rfl, k4⟩
  have HK4 : Hid _ := Kept.trans HK3.out (k4.grow (by have := HO.out; omega) (by have := HO.out; omega))
  clear k4 HFO3 HB3 HK3
  go_wp2
  go_ret
  exact ⟨rfl, HK4.out⟩

/-- The marks of list i. -/
def mk (k : Int) (xss : List (List Nat)) (i : Nat) : List Nat := marks (k + total (xss.take i)) (xss.getD i []).length
theorem total_bound {xss : List (List Nat)} {i : Nat} (hi : i < xss.length) : total (xss.take i) + (xss.getD i []).length ≤ total xss := by
  rw [← total_take hi]; exact total_le _ _

end Go.Proofs.YtcphabjekfihnabGreat
