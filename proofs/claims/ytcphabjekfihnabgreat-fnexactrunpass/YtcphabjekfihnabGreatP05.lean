import Derived.Test.YtcphabjekfihnabGreatP04
import Derived.Deep.QuietTactic
import Derived.BigQuiet
import Derived.Deep.RegionWith
namespace Go.Proofs.YtcphabjekfihnabGreat
open Go.RowKit Flt
attribute [local go_sem] alloc_drewN setCell_drewN run_store_float

/-- A whole block of ints that the call laid, not frozen. -/
def IR (w : World) (g : Nat) (xs : List Int) : Prop := w.heap[g]? = some (.cells (xs.map (Value.int .i64)).toArray 3 (0, 0))
theorem IR.lt {w : World} {g : Nat} {xs : List Int} (h : IR w g xs) : g < w.heap.size := by
  unfold IR at h
  rcases Nat.lt_or_ge g w.heap.size with c | c
  · exact c
  · rw [Array.getElem?_eq_none c] at h; cases h
theorem IR.cell {w : World} {g : Nat} {xs : List Int} (h : IR w g xs) (k : Nat) (hk : k < xs.length) : w.cell? ⟨g, k, none⟩ = some (.int .i64 (xs.getD k 0)) := by
  rw [cell_of_row w g k _ _ _ h]
  simp [hk, List.getD_eq_getElem?_getD]
theorem IR.free {w : World} {g : Nat} {xs : List Int} (h : IR w g xs) (k : Nat) : w.frozen? ⟨g, k, none⟩ = false := frozen_of_row w g k _ _ h
theorem IR.keep {w w' : World} {g l h : Nat} {xs : List Int} (f : IR w g xs) (k : Kept l h w w') (hd : g < l ∨ h ≤ g ∨ h ≤ l) : IR w' g xs := by
  unfold IR
  rw [k.block g f.lt (by omega)]
  exact f
theorem IR.set {w : World} {g : Nat} {xs : List Int} (h : IR w g xs) (k : Nat) (x : Int) : IR (w.setCell ⟨g, k, none⟩ (.int .i64 x)) g (xs.set k x) := by
  unfold IR at h ⊢
  rw [heap_setCell_same w g k _ _ _ h]
  simp [List.map_set]
theorem IR.drewN {w : World} {g : Nat} {xs : List Int} (h : IR w g xs) (m : Nat) : IR (w.drewN m) g xs := h
theorem IR.is {w : World} {g : Nat} {xs : List Int} (h : IR w g xs) : IS w 0 w.heap.size (some ⟨g, 0, none⟩) xs.length xs :=
  ⟨rfl, .inr ⟨g, 0, rfl, Nat.zero_le _, h.lt, h.lt, fun k hk => by rw [Nat.zero_add]; exact h.cell k hk⟩⟩

theorem IR.made (w : World) (n : Nat) : IR (w.alloc (.cells (madeCells #[.int .i64 0] n) 3)) w.heap.size (List.replicate n 0) := by
  unfold IR
  rw [heap_alloc_new]
  have : (madeCells #[.int .i64 0] n) = (List.map (Value.int .i64) (List.replicate n 0)).toArray := by
    apply Array.toList_inj.1
    rw [toList_madeCells_one]
    simp
  rw [this]
theorem infoI : (Tryz.prog.info? 3).map (fun i => (i.zero, i.size, i.bytes)) = some (some (.int .i64 0), 1, 8) := by kernel_rfl
theorem set_takeI (xs ys : List Int) (k : Nat) (hk : k < xs.length) (hl : ys.length = xs.length) :
    (xs.take k ++ ys.drop k).set k (xs.getD k 0) = xs.take (k + 1) ++ ys.drop (k + 1) := by
  apply List.ext_getElem?
  intro i
  simp only [List.getElem?_set, List.length_append, List.length_take, List.length_drop, List.getElem?_append, List.getElem?_take, List.getElem?_drop, List.getD_eq_getElem?_getD]
  rcases Nat.lt_trichotomy i k with h | h | h
  · rw [if_neg (by omega), if_pos (by omega), if_pos (by omega), if_pos (by omega), if_pos (by omega)]
  · subst h
    rw [if_pos rfl, if_pos (by omega), if_pos (by omega), if_pos (by omega), List.getElem?_eq_getElem hk]; rfl
  · rw [if_neg (by omega), if_neg (by omega), if_neg (by omega)]
    congr 1; omega
theorem make_i (n : Nat) (w : World) (hn : n ≤ 1099511627776) :
    (Instr.makeSlice 22 (.int .i64 (n : Int)) (.int .i64 (n : Int))).run Tryz.prog w = .ok (.slice (some ⟨w.heap.size, 0, none⟩) n n) (w.alloc (.cells (madeCells #[.int .i64 0] n) 3)) := by
  obtain ⟨i, hi, hz0, hz1, hz2⟩ := info_parts infoI
  have := run_make (P := Tryz.prog) w 22 3 i (.int .i64 0) Tryz.underlying22 hi hz0 .i64 .i64 n n (by omega) (by omega) (by rw [hz2]; omega) (by omega)
  rw [hz1, Nat.mul_one, Int.toNat_natCast] at this
  exact this

set_option maxHeartbeats 1000000 in
theorem toI_pos (w : World) (g0 off n cap : Nat) (xs : List Int) (hx : xs.length = n) (hn : n ≤ 1048576) (hg : g0 < w.heap.size)
    (hc : ∀ k, k < n → w.cell? ⟨g0, off + k, none⟩ = some (.int .i64 (xs.getD k 0))) :
    Calls Tryz.prog 13 #[.slice (some ⟨g0, off, none⟩) n cap] w fun e w' => e = .returned (.slice (some ⟨w.heap.size, 0, none⟩) n n) ∧ IR w' w.heap.size xs ∧ Kept 0 0 w w' := by
  have hm := make_i n w (by omega)
  have hsz0 : (w.alloc (.cells (madeCells #[.int .i64 0] n) 3)).heap.size = w.heap.size + 1 := by simp
  have hIR := IR.made w n
  have hK := kept_alloc 0 0 w (.cells (madeCells #[.int .i64 0] n) 3)
  have HC : Hid (∀ k, k < n → w.cell? ⟨g0, off + k, none⟩ = some (.int .i64 (xs.getD k 0))) := hc
  have HX : Hid (xs.length = n) := hx
  clear hc hx
  generalize hw1 : w.alloc (.cells (madeCells #[.int .i64 0] n) 3) = w1 at hm hIR hK hsz0
  clear hw1
  have HS : Hid (w1.heap.size = w.heap.size + 1) := hsz0
  clear hsz0
  go_enter Tryz.func13, Tryz.ntmps13
  go_wp2_with fail
  clear hm
  go_loopw [4] (fun i W => ∃ k : Nat, k ≤ n ∧ i = .int .i64 k ∧ IR W w.heap.size (xs.take k ++ (List.replicate n 0).drop k) ∧ Kept 0 0 w W) (fun i _ => n - (intOf i).toNat)
  case atStart => exact ⟨0, Nat.zero_le _, rfl, by simpa using hIR, hK⟩
  case round =>
    obtain ⟨k, hk, rfl, hF, hKW⟩ := hrel
    by_cases hlt : k < n
    · have c1 : wr.cell? ⟨g0, off + k, none⟩ = some (.int .i64 (xs.getD k 0)) := by rw [hKW.cell (p := ⟨g0, off + k, none⟩) hg (by omega)]; exact HC.out k hlt
      have hl : (xs.take k ++ (List.replicate n 0).drop k).length = n := by simp [HX.out]; omega
      have c2 := hF.cell k (by omega)
      have c3 := hF.free k
      have R1 : Hid _ := hF.set k (xs.getD k 0)
      have R2 : Hid _ := hKW.new (kept_setCell (lo := w.heap.size) (hi := w.heap.size + 1) wr ⟨w.heap.size, k, none⟩ (.int .i64 (xs.getD k 0)) (.inl ⟨Nat.le_refl _, Nat.lt_succ_self _⟩)) (Nat.le_refl _)
      clear hF hKW hIR hK hl
      go_wp2
      go_roundw
      case rel =>
        refine ⟨k + 1, by omega, by go_num, ?_, R2.out⟩
        have := R1.out
        rw [set_takeI xs (List.replicate n 0) k (by rw [HX.out]; exact hlt) (by simp [HX.out])] at this
        exact this
      case measure => simp [intOf]; omega
    · obtain rfl : k = n := by omega
      clear hIR hK
      go_wp2
      go_ret
      refine ⟨rfl, ?_, hKW⟩
      have h1 : (xs.take k ++ (List.replicate k 0).drop k) = xs := by rw [List.take_of_length_le (by rw [HX.out]; omega), List.drop_of_length_le (by simp), List.append_nil]
      rw [h1] at hF
      exact hF
set_option maxRecDepth 100000 in
set_option maxHeartbeats 1000000 in
theorem toI_zero (w : World) (a : Option Addr) (cap : Nat) :
    Calls Tryz.prog 13 #[.slice a 0 cap] w fun e w' => e = .returned (.slice (some ⟨w.heap.size, 0, none⟩) 0 0) ∧ IR w' w.heap.size [] ∧ Kept 0 0 w w' := by
  have hm := make_i 0 w (by omega)
  rw [show ((0 : Nat) : Int) = 0 from rfl] at hm
  have hIR := IR.made w 0
  have hK := kept_alloc 0 0 w (.cells (madeCells #[.int .i64 0] 0) 3)
  generalize hw1 : w.alloc (.cells (madeCells #[.int .i64 0] 0) 3) = w1 at hm hIR hK
  clear hw1
  go_enter Tryz.func13, Tryz.ntmps13
  go_wp2_with fail
  refine wp_loop_rounds 1 ?_
  rw [rounds_succ]
  go_wp2
  go_ret
  exact ⟨rfl, hIR, hK⟩

theorem toI (w : World) (lo hi : Nat) (a : Option Addr) (n cap : Nat) (xs : List Int) (f : IS w lo hi a n xs) (hn : n ≤ 1048576) :
    Calls Tryz.prog 13 #[.slice a n cap] w fun e w' => e = .returned (.slice (some ⟨w.heap.size, 0, none⟩) n n) ∧ IR w' w.heap.size xs ∧ Kept 0 0 w w' := by
  rcases f.at_ with rfl | ⟨g, off, rfl, h1, h2, h3, h4⟩
  · have : xs = [] := List.length_eq_zero_iff.1 f.len
    subst this
    exact toI_zero w a cap
  · exact toI_pos w g off n cap xs f.len hn h3 h4


set_option maxRecDepth 100000 in
set_option maxHeartbeats 1000000 in
theorem eqI_zero (w : World) (a b : Option Addr) (ca cb : Nat) :
    Calls Tryz.prog 15 #[.slice a 0 ca, .slice b 0 cb] w fun e w' => e = .returned (.bool true) ∧ w' = w := by
  go_enter Tryz.func15, Tryz.ntmps15
  go_wp2_with fail
  refine wp_loop_rounds 1 ?_
  rw [rounds_succ]
  go_wp2
  go_ret
  exact ⟨rfl, rfl⟩
set_option maxRecDepth 100000 in
set_option maxHeartbeats 1000000 in
theorem eqI_pos (w : World) (g1 o1 g2 o2 n ca cb : Nat) (xs : List Int) (hn : n ≤ 1099511627776)
    (hx : ∀ k, k < n → w.cell? ⟨g1, o1 + k, none⟩ = some (.int .i64 (xs.getD k 0))) (hy : ∀ k, k < n → w.cell? ⟨g2, o2 + k, none⟩ = some (.int .i64 (xs.getD k 0))) :
    Calls Tryz.prog 15 #[.slice (some ⟨g1, o1, none⟩) n ca, .slice (some ⟨g2, o2, none⟩) n cb] w fun e w' => e = .returned (.bool true) ∧ Drawn w w' := by
  have HX : Hid (∀ k, k < n → w.cell? ⟨g1, o1 + k, none⟩ = some (.int .i64 (xs.getD k 0))) := hx
  have HY : Hid (∀ k, k < n → w.cell? ⟨g2, o2 + k, none⟩ = some (.int .i64 (xs.getD k 0))) := hy
  clear hx hy
  go_enter Tryz.func15, Tryz.ntmps15
  go_wp2_with fail
  go_loopw [5] (fun i W => ∃ k : Nat, k ≤ n ∧ i = .int .i64 k ∧ Drawn w W) (fun i _ => n - (intOf i).toNat)
  case atStart => exact ⟨0, Nat.zero_le _, rfl, Drawn.refl _⟩
  case round =>
    obtain ⟨k, hk, rfl, HW⟩ := hrel
    by_cases hlt : k < n
    · have c1 : wr.cell? ⟨g1, o1 + k, none⟩ = some (.int .i64 (xs.getD k 0)) := by rw [HW.cell]; exact HX.out k hlt
      have c2 : wr.cell? ⟨g2, o2 + k, none⟩ = some (.int .i64 (xs.getD k 0)) := by rw [HW.cell]; exact HY.out k hlt
      generalize xs.getD k 0 = x at c1 c2
      go_wp2_with fail
      go_quiet (fail)
      go_wp2
      go_roundw
      case rel => exact ⟨k + 1, by omega, by go_num, HW.more _⟩
      case measure => simp [intOf]; omega
    · go_wp2
      go_ret
      exact ⟨rfl, HW⟩
theorem eqI (w : World) (lo hi lo' hi' : Nat) (a b : Option Addr) (n ca cb : Nat) (xs : List Int) (f : IS w lo hi a n xs) (g : IS w lo' hi' b n xs) (hn : n ≤ 1099511627776) :
    Calls Tryz.prog 15 #[.slice a n ca, .slice b n cb] w fun e w' => e = .returned (.bool true) ∧ Drawn w w' := by
  rcases f.at_ with rfl | ⟨g1, o1, rfl, a1, a2, a3, a4⟩
  · exact (eqI_zero w a b ca cb).mono fun _ _ h => ⟨h.1, 0, h.2⟩
  · rcases g.at_ with rfl | ⟨g2, o2, rfl, b1, b2, b3, b4⟩
    · exact (eqI_zero w _ b ca cb).mono fun _ _ h => ⟨h.1, 0, h.2⟩
    · exact eqI_pos w g1 o1 g2 o2 n ca cb xs hn a4 b4

/-- szIntS, szValS: what is left, or -1. -/
def leftOf (left : Int) (n : Nat) : Int := if left - n < 0 then -1 else left - n
set_option maxRecDepth 100000 in
set_option maxHeartbeats 1000000 in
theorem szI (w : World) (a : Option Addr) (n cap : Nat) (left : Int) (h0 : 0 ≤ left) (h1 : left ≤ 1048576) (hn : n ≤ 9223372036854775807) :
    Calls Tryz.prog 17 #[.slice a n cap, .int .i64 left] w fun e w' => e = .returned (.int .i64 (leftOf left n)) ∧ w = w' := by
  unfold leftOf
  by_cases h : left - n < 0
  · rw [if_pos h]
    go_enter Tryz.func17, Tryz.ntmps17
    go_wp2
    go_ret
    exact ⟨rfl, rfl⟩
  · rw [if_neg h]
    go_enter Tryz.func17, Tryz.ntmps17
    go_wp2
    go_ret
    exact ⟨rfl, rfl⟩
set_option maxRecDepth 100000 in
set_option maxHeartbeats 1000000 in
theorem szV (w : World) (a : Option Addr) (n cap : Nat) (left : Int) (h0 : 0 ≤ left) (h1 : left ≤ 1048576) (hn : n ≤ 9223372036854775807) :
    Calls Tryz.prog 18 #[.slice a n cap, .int .i64 left] w fun e w' => e = .returned (.int .i64 (leftOf left n)) ∧ w = w' := by
  unfold leftOf
  by_cases h : left - n < 0
  · rw [if_pos h]
    go_enter Tryz.func18, Tryz.ntmps18
    go_wp2
    go_ret
    exact ⟨rfl, rfl⟩
  · rw [if_neg h]
    go_enter Tryz.func18, Tryz.ntmps18
    go_wp2
    go_ret
    exact ⟨rfl, rfl⟩

theorem getK_lt {vs : List Vl} (h : ∀ v ∈ vs, v.k < 18446744073709551616) (k : Nat) : (vs.getD k Vl.zero).k < 18446744073709551616 := by
  rw [List.getD_eq_getElem?_getD]
  by_cases hk : k < vs.length
  · rw [List.getElem?_eq_getElem hk]; exact h _ (List.getElem_mem _)
  · rw [List.getElem?_eq_none (by omega)]; exact (by decide : Vl.zero.k < 18446744073709551616)
/-- eqVal of a value with itself. -/
theorem fb_beq (x : Nat) : ((fb x : Int) == (fb x : Int)) = true := beq_self_eq_true _
set_option maxRecDepth 100000 in
set_option maxHeartbeats 1000000 in
theorem eqVal (w : World) (v : Vl) (hk : v.k < 18446744073709551616) :
    Calls Tryz.prog 39 #[v.agg, v.agg] w fun e w' => e = .returned (.bool true) ∧ Kept 0 0 w w' := by
  have h2 := convff
  go_enter Tryz.func39, Tryz.ntmps39
  go_wp2_with fail
  refine (sameF _ _ _ hk hk).mono ?_
  rintro e w2 ⟨rfl, rfl⟩
  rw [fb_beq]
  go_wp2
  go_ret
  exact ⟨rfl, (kept_alloc 0 0 w _).trans (kept_alloc 0 0 _ _)⟩

set_option maxRecDepth 100000 in
set_option maxHeartbeats 1000000 in
theorem eqVS_zero (w : World) (a b : Option Addr) (ca cb : Nat) :
    Calls Tryz.prog 22 #[.slice a 0 ca, .slice b 0 cb] w fun e w' => e = .returned (.bool true) ∧ w' = w := by
  go_enter Tryz.func22, Tryz.ntmps22
  go_wp2_with fail
  refine wp_loop_rounds 1 ?_
  rw [rounds_succ]
  go_wp2
  go_ret
  exact ⟨rfl, rfl⟩
set_option maxRecDepth 100000 in
set_option maxHeartbeats 2000000 in
theorem eqVS_pos (w : World) (g1 o1 g2 o2 n ca cb : Nat) (vs : List Vl) (hn : n ≤ 1099511627776) (b1 : g1 < w.heap.size) (b2 : g2 < w.heap.size) (hl : ∀ v ∈ vs, v.k < 18446744073709551616)
    (hx : ∀ k, k < n → At w g1 (o1 + k * 6) (vs.getD k Vl.zero)) (hy : ∀ k, k < n → At w g2 (o2 + k * 6) (vs.getD k Vl.zero)) :
    Calls Tryz.prog 22 #[.slice (some ⟨g1, o1, none⟩) n ca, .slice (some ⟨g2, o2, none⟩) n cb] w fun e w' => e = .returned (.bool true) ∧ Kept 0 0 w w' := by
  have HX : Hid (∀ k, k < n → At w g1 (o1 + k * 6) (vs.getD k Vl.zero)) := hx
  have HY : Hid (∀ k, k < n → At w g2 (o2 + k * 6) (vs.getD k Vl.zero)) := hy
  have HL : Hid (∀ v ∈ vs, v.k < 18446744073709551616) := hl
  clear hx hy hl
  go_enter Tryz.func22, Tryz.ntmps22
  go_wp2_with fail
  go_loopw [5] (fun i W => ∃ k : Nat, k ≤ n ∧ i = .int .i64 k ∧ Kept 0 0 w W) (fun i _ => n - (intOf i).toNat)
  case atStart => exact ⟨0, Nat.zero_le _, rfl, Kept.refl _ _ _⟩
  case round =>
    obtain ⟨k, hk, rfl, HW⟩ := hrel
    by_cases hlt : k < n
    · obtain ⟨c0, c1, c2, c3, c4, c5⟩ := (HX.out k hlt).keep b1 HW (.inr (.inr (Nat.le_refl _)))
      obtain ⟨d0, d1, d2, d3, d4, d5⟩ := (HY.out k hlt).keep b2 HW (.inr (.inr (Nat.le_refl _)))
      have hv : (vs.getD k Vl.zero).k < 18446744073709551616 := getK_lt HL.out k
      generalize vs.getD k Vl.zero = v at c0 c1 c2 c3 c4 c5 d0 d1 d2 d3 d4 d5 hv
      have HE : Hid (∀ m, Calls Tryz.prog 39 #[v.agg, v.agg] (wr.drewN m) fun e w' => e = .returned (.bool true) ∧ Kept 0 0 w w') := fun m => (eqVal _ v hv).mono fun _ _ h => ⟨h.1, (HW.trans (kept_drewN 0 0 wr m)).trans h.2⟩
      go_wp2_with fail
      go_region_with (go_at_call 39; refine (HE.out 1).mono ?_; rintro e w2 ⟨rfl, hk2⟩)
      all_goals
        go_wp2
        go_roundw
        case rel => exact ⟨k + 1, by omega, by go_num, hk2⟩
        case measure => simp [intOf]; omega
    · go_wp2
      go_ret
      exact ⟨rfl, HW⟩
theorem eqVS (w : World) (lo hi lo' hi' : Nat) (a b : Option Addr) (n ca cb : Nat) (vs : List Vl) (f : VS w lo hi a n vs) (g : VS w lo' hi' b n vs) (hn : n ≤ 1099511627776) :
    Calls Tryz.prog 22 #[.slice a n ca, .slice b n cb] w fun e w' => e = .returned (.bool true) ∧ Kept 0 0 w w' := by
  rcases f.at_ with rfl | ⟨g1, o1, rfl, a1, a2, a3, a4⟩
  · exact (eqVS_zero w a b ca cb).mono fun _ _ h => ⟨h.1, by rw [h.2]; exact Kept.refl _ _ _⟩
  · rcases g.at_ with rfl | ⟨g2, o2, rfl, b1, b2, b3, b4⟩
    · exact (eqVS_zero w _ b ca cb).mono fun _ _ h => ⟨h.1, by rw [h.2]; exact Kept.refl _ _ _⟩
    · exact eqVS_pos w g1 o1 g2 o2 n ca cb vs hn a3 b3 f.lt a4 b4
end Go.Proofs.YtcphabjekfihnabGreat
