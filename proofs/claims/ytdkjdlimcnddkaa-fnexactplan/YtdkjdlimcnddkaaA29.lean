import Derived.Test.YtdkjdlimcnddkaaA10
import Derived.Test.YtdkjdlimcnddkaaA15
import Derived.Test.YtdkjdlimcnddkaaA27
import Derived.Test.YtdkjdlimcnddkaaA28
namespace Go.Proofs.Ytdkjdlimcnddkaa
open Go.RowKit Flt
attribute [local go_sem] alloc_drewN setCell_drewN run_store_float

set_option maxRecDepth 100000 in
set_option maxHeartbeats 4000000 in
theorem markT (w : World) (g n cap : Nat) (k : Int) (vs : List Ste) (hF : TA w g n vs) (h0 : 0 ≤ k) (h1 : k ≤ 1099511627776) (hn : n ≤ 1099511627776) :
    Calls Try.prog 54 #[.slice (some ⟨g, 0, none⟩) n cap, .int .i64 k] w fun e w' => e = .returned (.int .i64 (k + 8 * n)) ∧ Kept g (g + 1) w w' := by
  go_enter Try.func54, Try.ntmps54
  go_wp2_with fail
  go_loopw [1, 5] (fun kv i W => ∃ j : Nat, j ≤ n ∧ i = .int .i64 j ∧ kv = .int .i64 (k + 8 * j) ∧ (∃ ys, TA W g n ys) ∧ Kept g (g + 1) w W) (fun _ i _ => n - (intOf i).toNat)
  case atStart => exact ⟨0, Nat.zero_le _, rfl, by simp, ⟨vs, hF⟩, Kept.refl _ _ _⟩
  case round =>
    obtain ⟨j, hj, rfl, rfl, ⟨ys, hFW⟩, hKW⟩ := hrel
    by_cases hlt : j < n
    · obtain ⟨d0, d1, d2, d3, d4, d5, d6, d7⟩ := hFW.at_ j hlt
      have c3 := hFW.free
      generalize hkk : k + 8 * (j : Int) = kk
      have b0 : 0 ≤ kk := by omega
      have b1 : kk ≤ 10995116277760 := by omega
      have R1 : Hid _ := hFW.step j hlt ⟨kk, kk + 1, kk + 1 + 1, kk + 1 + 1 + 1, kk + 1 + 1 + 1 + 1, kk + 1 + 1 + 1 + 1 + 1, kk + 1 + 1 + 1 + 1 + 1 + 1, floatOfInt .f64 (kk + 1 + 1 + 1 + 1 + 1 + 1 + 1)⟩
      have R2 : Hid _ := hKW.trans (put8_kept wr g (j * 8) ⟨kk, kk + 1, kk + 1 + 1, kk + 1 + 1 + 1, kk + 1 + 1 + 1 + 1, kk + 1 + 1 + 1 + 1 + 1, kk + 1 + 1 + 1 + 1 + 1 + 1, floatOfInt .f64 (kk + 1 + 1 + 1 + 1 + 1 + 1 + 1)⟩)
      have R3 : Hid (k + 8 * (j : Int) = kk) := hkk
      clear hFW hKW hF hkk
      go_wp2
      go_roundw
      case rel => exact ⟨j + 1, by omega, by go_num, by have := R3.out; congr 1; omega, ⟨_, R1.out⟩, R2.out⟩
      case measure => simp [intOf]; omega
    · obtain rfl : j = n := by omega
      clear hF hFW
      go_wp2
      go_ret
      exact ⟨rfl, hKW⟩
set_option maxRecDepth 100000 in
set_option maxHeartbeats 4000000 in
theorem markP (w : World) (g n cap : Nat) (k : Int) (vs : List Spn) (hF : PA w g n vs) (h0 : 0 ≤ k) (h1 : k ≤ 1099511627776) (hn : n ≤ 1099511627776) :
    Calls Try.prog 55 #[.slice (some ⟨g, 0, none⟩) n cap, .int .i64 k] w fun e w' => e = .returned (.int .i64 (k + 2 * n)) ∧ Kept g (g + 1) w w' := by
  go_enter Try.func55, Try.ntmps55
  go_wp2_with fail
  go_loopw [1, 5] (fun kv i W => ∃ j : Nat, j ≤ n ∧ i = .int .i64 j ∧ kv = .int .i64 (k + 2 * j) ∧ (∃ ys, PA W g n ys) ∧ Kept g (g + 1) w W) (fun _ i _ => n - (intOf i).toNat)
  case atStart => exact ⟨0, Nat.zero_le _, rfl, by simp, ⟨vs, hF⟩, Kept.refl _ _ _⟩
  case round =>
    obtain ⟨j, hj, rfl, rfl, ⟨ys, hFW⟩, hKW⟩ := hrel
    by_cases hlt : j < n
    · obtain ⟨d0, d1⟩ := hFW.at_ j hlt
      have c3 := hFW.free
      generalize hkk : k + 2 * (j : Int) = kk
      have b0 : 0 ≤ kk := by omega
      have b1 : kk ≤ 10995116277760 := by omega
      have R1 : Hid _ := hFW.step j hlt ⟨kk, kk + 1⟩
      have R2 : Hid _ := hKW.trans (put2p_kept wr g (j * 2) ⟨kk, kk + 1⟩)
      have R3 : Hid (k + 2 * (j : Int) = kk) := hkk
      clear hFW hKW hF hkk
      go_wp2
      go_roundw
      case rel => exact ⟨j + 1, by omega, by go_num, by have := R3.out; congr 1; omega, ⟨_, R1.out⟩, R2.out⟩
      case measure => simp [intOf]; omega
    · obtain rfl : j = n := by omega
      clear hF hFW
      go_wp2
      go_ret
      exact ⟨rfl, hKW⟩
set_option maxRecDepth 100000 in
set_option maxHeartbeats 2000000 in
theorem markC (w : World) (lo g1 g2 g3 n1 n2 n3 c1 c2 c3 : Nat) (pk : Int) (ins : List Int) (ss : List Ste) (os : List Spn) (f : CO w lo g1 g2 g3 n2 n3 ins ss os) (hn1 : ins.length = n1) (k : Int) (h0 : 0 ≤ k) (h1 : k ≤ 1000000000) (b1 : n1 ≤ 1048576) (b2 : n2 ≤ 1048576) (b3 : n3 ≤ 1048576) :
    Calls Try.prog 17 #[cagg (some ⟨g1, 0, none⟩) n1 c1 (some ⟨g2, 0, none⟩) n2 c2 (some ⟨g3, 0, none⟩) n3 c3 pk, .int .i64 k] w fun e w' => e = .returned (.int .i64 (k + n1 + 8 * n2 + 2 * n3)) ∧ Kept lo (g3 + 1) w w' := by
  have hK := kept_alloc lo (g3 + 1) w (cbox (some ⟨g1, 0, none⟩) n1 c1 (some ⟨g2, 0, none⟩) n2 c2 (some ⟨g3, 0, none⟩) n3 c3 pk)
  have hB := c0_start w (.slice (some ⟨g1, 0, none⟩) n1 c1) (.slice (some ⟨g2, 0, none⟩) n2 c2) (.slice (some ⟨g3, 0, none⟩) n3 c3) (.int .i64 pk)
  have ka := kept_alloc 0 0 w (cbox (some ⟨g1, 0, none⟩) n1 c1 (some ⟨g2, 0, none⟩) n2 c2 (some ⟨g3, 0, none⟩) n3 c3 pk)
  have fi := f.i.keep ka (.inr (.inr (Nat.le_refl _)))
  have fv := f.s.keep ka (.inr (.inr (Nat.le_refl _)))
  have fo := f.o.keep ka (.inr (.inr (Nat.le_refl _)))
  have HO : Hid (lo ≤ g1 ∧ g1 < g2 ∧ g2 < g3 ∧ g3 < w.heap.size) := ⟨f.l1, f.l2, f.l3, f.o.lt⟩
  have HFI : Hid _ := fi
  have HFV : Hid _ := fv
  have HFO : Hid _ := fo
  have HB : Hid _ := hB
  have HK : Hid _ := hK
  have HN : Hid (ins.length = n1) := hn1
  clear f ka fi fv fo hB hK hn1
  go_enter Try.func17, Try.ntmps17
  go_wp2_with fail
  generalize hw1 : w.alloc (cbox (some ⟨g1, 0, none⟩) n1 c1 (some ⟨g2, 0, none⟩) n2 c2 (some ⟨g3, 0, none⟩) n3 c3 pk) = w1 at HFI HFV HFO HB HK ⊢
  clear hw1
  refine Calls.mono (markIO _ g1 n1 _ k ins (IR.io HFI.out HN.out) h0 (by omega) (by omega)) ?_
  rintro e w2 ⟨rfl, _, k2⟩
  have HFV2 : Hid _ := TA.keep HFV.out k2 (by have := HO.out; omega)
  have HFO2 : Hid _ := PA.keep HFO.out k2 (by have := HO.out; omega)
  have HB2 : Hid _ := C0.keepR HB.out k2 (by have := HO.out; omega)
  have HK2 : Hid _ := Kept.trans HK.out (k2.growT (by have := HO.out; omega) (by have := HO.out; omega))
  clear k2 HFI HFV HFO HB HK
  obtain ⟨_, q0, q1, q2, q3⟩ := HB2.out
  go_wp2_with fail
  clear q0 q1 q2 q3
  refine Calls.mono (markT _ g2 n2 _ (k + n1) ss HFV2.out (by omega) (by omega) (by omega)) ?_
  rintro e w3 ⟨rfl, k3⟩
  have HFO3 : Hid _ := PA.keep HFO2.out k3 (by have := HO.out; omega)
  have HB3 : Hid _ := C0.keepR HB2.out k3 (by have := HO.out; omega)
  have HK3 : Hid _ := Kept.trans HK2.out (k3.growT (by have := HO.out; omega) (by have := HO.out; omega))
  clear k3 HFV2 HFO2 HB2 HK2
  obtain ⟨_, q0, q1, q2, q3⟩ := HB3.out
  go_wp2_with fail
  clear q0 q1 q2 q3
  refine Calls.mono (markP _ g3 n3 _ (k + n1 + 8 * n2) os HFO3.out (by omega) (by omega) (by omega)) ?_
  rintro e w4 ⟨rfl, k4⟩
  have HK4 : Hid _ := Kept.trans HK3.out (k4.growT (by have := HO.out; omega) (by have := HO.out; omega))
  clear k4 HFO3 HB3 HK3
  go_wp2
  go_ret
  exact ⟨rfl, HK4.out⟩

end Go.Proofs.Ytdkjdlimcnddkaa

namespace Go.Proofs.Ytdkjdlimcnddkaa
open Go.RowKit Flt
attribute [local go_sem] alloc_drewN setCell_drewN run_store_float

/-- An own block whose first n cells are bytes. -/
structure YK (w : World) (g n : Nat) (xs : List Int) : Prop where
  len : xs.length = n
  lt : g < w.heap.size
  at_ : ∀ k, k < n → w.cell? ⟨g, k, none⟩ = some (.int .u8 (xs.getD k 0))
  free : ∀ o, w.frozen? ⟨g, o, none⟩ = false
theorem YK.keepC {w w' : World} {S : Nat → Prop} {g n : Nat} {xs : List Int} (q : YK w g n xs) (k : Chg S w w') (hd : ¬ S g) : YK w' g n xs :=
  ⟨q.len, Nat.lt_of_lt_of_le q.lt k.size, fun j hj => by rw [k.cell (p := ⟨g, j, none⟩) q.lt hd]; exact q.at_ j hj, fun o => by rw [k.frozen (p := ⟨g, o, none⟩) q.lt hd]; exact q.free o⟩
theorem YK.put {w : World} {g n : Nat} {xs : List Int} (f : YK w g n xs) (j : Nat) (hj : j < n) (x : Int) : YK (w.setCell ⟨g, j, none⟩ (.int .u8 x)) g n (xs.set j x) where
  len := by rw [List.length_set]; exact f.len
  lt := by simpa using f.lt
  at_ := fun k hk => by
    rw [List.getD_eq_getElem?_getD, List.getElem?_set]
    by_cases e : j = k
    · subst e
      rw [if_pos rfl, if_pos (by rw [f.len]; exact hj)]
      exact cell_eq _ _ _ _ _ (f.at_ j hj)
    · rw [if_neg e, cell_ne _ _ _ _ _ _ (.inr e), ← List.getD_eq_getElem?_getD]
      exact f.at_ k hk
  free := fun o => by simp [f.free o]
/-- A slice of bytes in a block of its own, or an empty one. -/
structure YZ (w : World) (g : Nat) (a : Option Addr) (n : Nat) (xs : List Int) : Prop where
  len : xs.length = n
  at_ : n = 0 ∨ (a = some ⟨g, 0, none⟩ ∧ YK w g n xs)
theorem YZ.keepC {w w' : World} {S : Nat → Prop} {g n : Nat} {a : Option Addr} {xs : List Int} (f : YZ w g a n xs) (k : Chg S w w') (hd : 0 < n → ¬ S g) : YZ w' g a n xs := ⟨f.1, by
  by_cases h : n = 0
  · exact .inl h
  · exact f.2.imp id fun ⟨e, q⟩ => ⟨e, q.keepC k (hd (by omega))⟩⟩
theorem YZ.keep {w w' : World} {g n : Nat} {a : Option Addr} {xs : List Int} (f : YZ w g a n xs) (k : Kept 0 0 w w') : YZ w' g a n xs := f.keepC (S := fun _ => False) k.chg (fun _ h => h)
theorem YZ.blk {w : World} {g n : Nat} {a : Option Addr} {xs : List Int} (f : YZ w g a n xs) (h : 0 < n) : g < w.heap.size := by
  rcases f.2 with c | ⟨_, q⟩
  · omega
  · exact q.lt
theorem YZ.ys {w : World} {g n : Nat} {a : Option Addr} {xs : List Int} (f : YZ w g a n xs) (h : ∀ x ∈ xs, 0 ≤ x ∧ x < 256) : YS w a n xs := ⟨f.1, h, f.2.imp id fun ⟨e, q⟩ => ⟨g, 0, e, q.lt, fun k hk => by rw [Nat.zero_add]; exact q.at_ k hk⟩⟩
theorem YB.yz {W : World} {B : Nat} {v : Value} {bs : List Int} (f : YB W B v bs) : ∃ g a cap, v = .slice a bs.length cap ∧ YZ W g a bs.length bs ∧ (0 < bs.length → B ≤ g) := by
  rcases f.2 with ⟨rfl, c⟩ | ⟨g, cap, cur, rfl, b1, b2, b3, _, b5, b6⟩
  · exact ⟨0, none, 0, by rw [c], ⟨rfl, .inl c⟩, fun h => by omega⟩
  · refine ⟨g, _, cap, rfl, ⟨rfl, .inr ⟨rfl, rfl, ?_, fun k hk => ?_, fun o => ?_⟩⟩, fun _ => b1⟩
    · rcases Nat.lt_or_ge g W.heap.size with c | c
      · exact c
      · rw [Array.getElem?_eq_none c] at b2; cases b2
    · rw [cell_of_row W g _ cur _ _ b2, ← Array.getElem?_toList]
      have : (cur.toList.take (bs.length * 1))[k]? = (bs.map (Value.int .u8))[k]? := by rw [b6]
      rw [List.getElem?_take_of_lt (by omega)] at this
      rw [this, List.getElem?_map, List.getElem?_eq_getElem hk, List.getD_eq_getElem?_getD, List.getElem?_eq_getElem hk]; rfl
    · exact frozen_of_row W g o cur _ b2
set_option maxRecDepth 100000 in
set_option maxHeartbeats 1000000 in
theorem markY_zero (w : World) (a : Option Addr) (cap : Nat) (k : Int) : Calls Try.prog 24 #[.slice a 0 cap, .int .i64 k] w fun e w' => e = .returned (.int .i64 k) ∧ w' = w := by
  go_enter Try.func24, Try.ntmps24
  go_wp2_with fail
  refine wp_loop_rounds 1 ?_
  rw [rounds_succ]
  go_wp2
  go_ret
  exact ⟨rfl, rfl⟩
set_option maxRecDepth 100000 in
set_option maxHeartbeats 1000000 in
theorem heldY_zero (w : World) (a : Option Addr) (cap : Nat) (k : Int) : Calls Try.prog 25 #[.slice a 0 cap, .int .i64 k] w fun e w' => e = .returned (.int .i64 k) ∧ w' = w := by
  go_enter Try.func25, Try.ntmps25
  go_wp2_with fail
  refine wp_loop_rounds 1 ?_
  rw [rounds_succ]
  go_wp2
  go_ret
  exact ⟨rfl, rfl⟩
set_option maxRecDepth 100000 in
set_option maxHeartbeats 1000000 in
theorem markYK (w : World) (g n cap : Nat) (k : Int) (xs : List Int) (hF : YK w g n xs) (h0 : 0 ≤ k) (h1 : k ≤ 1099511627776) (hn : n ≤ 1099511627776) :
    Calls Try.prog 24 #[.slice (some ⟨g, 0, none⟩) n cap, .int .i64 k] w fun e w' => e = .returned (.int .i64 (k + n)) ∧ (∃ ys, YK w' g n ys ∧ ∀ i, i < n → ys.getD i 0 = (k + i) % 256) ∧ Kept g (g + 1) w w' := by
  go_enter Try.func24, Try.ntmps24
  go_wp2_with fail
  go_loopw [1, 5] (fun kv i W => ∃ j : Nat, j ≤ n ∧ i = .int .i64 j ∧ kv = .int .i64 (k + j) ∧ Hid (∃ ys, YK W g n ys ∧ ∀ i, i < j → ys.getD i 0 = (k + i) % 256) ∧ Kept g (g + 1) w W) (fun _ i _ => n - (intOf i).toNat)
  case atStart => exact ⟨0, Nat.zero_le _, rfl, by simp, ⟨xs, hF, fun i hi => by omega⟩, Kept.refl _ _ _⟩
  case round =>
    obtain ⟨j, hj, rfl, rfl, hY, hKW⟩ := hrel
    obtain ⟨ys, hFW, hy⟩ := hY.out
    by_cases hlt : j < n
    · have c2 := hFW.at_ j hlt
      have c3 := hFW.free j
      have R1 : Hid (∃ ys, YK (wr.setCell ⟨g, j, none⟩ (.int .u8 ((k + (j : Int)) % 256))) g n ys ∧ ∀ i, i < j + 1 → ys.getD i 0 = (k + i) % 256) := ⟨_, hFW.put j hlt ((k + (j : Int)) % 256), fun i hi => by
        rw [getD_set ys 0 _ j i (by rw [hFW.len]; exact hlt)]
        by_cases e : i = j
        · subst e; rw [if_pos rfl]
        · rw [if_neg e]; exact hy i (by omega)⟩
      have R2 : Hid _ := hKW.trans (kept_setCell (lo := g) (hi := g + 1) wr ⟨g, j, none⟩ (.int .u8 ((k + (j : Int)) % 256)) (.inl ⟨Nat.le_refl _, Nat.lt_succ_self _⟩))
      clear hFW hKW hF hy hY
      go_wp2
      go_roundw
      case rel => exact ⟨j + 1, by omega, by go_num, by go_num, R1, R2.out⟩
      case measure => simp [intOf]; omega
    · obtain rfl : j = n := by omega
      clear hF hFW hy
      go_wp2
      go_ret
      exact ⟨rfl, hY.out, hKW⟩
set_option maxRecDepth 100000 in
set_option maxHeartbeats 1000000 in
theorem heldYK (w : World) (g n cap : Nat) (k : Int) (xs : List Int) (hF : YK w g n xs) (hy : ∀ i, i < n → xs.getD i 0 = (k + i) % 256) (h0 : 0 ≤ k) (h1 : k ≤ 1099511627776) (hn : n ≤ 1099511627776) :
    Calls Try.prog 25 #[.slice (some ⟨g, 0, none⟩) n cap, .int .i64 k] w fun e w' => e = .returned (.int .i64 (k + n)) ∧ Drawn w w' := by
  have HF : Hid _ := hF
  have HY : Hid _ := hy
  clear hF hy
  go_enter Try.func25, Try.ntmps25
  go_wp2_with fail
  go_loopw [1, 5] (fun kv i W => ∃ j : Nat, j ≤ n ∧ i = .int .i64 j ∧ kv = .int .i64 (k + j) ∧ Drawn w W) (fun _ i _ => n - (intOf i).toNat)
  case atStart => exact ⟨0, Nat.zero_le _, rfl, by simp, Drawn.refl _⟩
  case round =>
    obtain ⟨j, hj, rfl, rfl, HW⟩ := hrel
    by_cases hlt : j < n
    · have c2 : wr.cell? ⟨g, j, none⟩ = some (.int .u8 ((k + j) % 256)) := by rw [HW.cell, ← HY.out j hlt]; exact HF.out.at_ j hlt
      have c3 : ((k + (j : Int)) % 256 != (k + (j : Int)) % 256) = false := by simp
      go_wp2
      go_roundw
      case rel => exact ⟨j + 1, by omega, by go_num, by go_num, HW⟩
      case measure => simp [intOf]; omega
    · obtain rfl : j = n := by omega
      go_wp2
      go_ret
      exact ⟨rfl, HW⟩
/-- The marks stand. -/
def YM (w : World) (g : Nat) (a : Option Addr) (n : Nat) (k : Int) : Prop := n = 0 ∨ (a = some ⟨g, 0, none⟩ ∧ ∃ ys, YK w g n ys ∧ ∀ i, i < n → ys.getD i 0 = (k + i) % 256)
theorem markYZ (w : World) (g n cap : Nat) (a : Option Addr) (k : Int) (xs : List Int) (hF : YZ w g a n xs) (h0 : 0 ≤ k) (h1 : k ≤ 1099511627776) (hn : n ≤ 1099511627776) :
    Calls Try.prog 24 #[.slice a n cap, .int .i64 k] w fun e w' => e = .returned (.int .i64 (k + n)) ∧ YM w' g a n k ∧ Chg (fun b => 0 < n ∧ b = g) w w' := by
  rcases hF.2 with rfl | ⟨rfl, hF'⟩
  · exact (markY_zero w a cap k).mono fun e w' ⟨h1, h2⟩ => ⟨by rw [h1]; simp, .inl rfl, by rw [h2]; exact (Kept.refl 0 0 _).chg⟩
  · by_cases h : n = 0
    · subst h
      exact (markY_zero w _ cap k).mono fun e w' ⟨h1, h2⟩ => ⟨by rw [h1]; simp, .inl rfl, by rw [h2]; exact (Kept.refl 0 0 _).chg⟩
    · exact (markYK w g n cap k xs hF' h0 h1 hn).mono fun e w' ⟨h1, h2, h3⟩ => ⟨h1, .inr ⟨rfl, h2⟩, h3.chg1 ⟨by omega, rfl⟩⟩
theorem heldYM (w : World) (g n cap : Nat) (a : Option Addr) (k : Int) (hF : YM w g a n k) (h0 : 0 ≤ k) (h1 : k ≤ 1099511627776) (hn : n ≤ 1099511627776) :
    Calls Try.prog 25 #[.slice a n cap, .int .i64 k] w fun e w' => e = .returned (.int .i64 (k + n)) ∧ Drawn w w' := by
  rcases hF with rfl | ⟨rfl, ys, hF, hy⟩
  · exact (heldY_zero w a cap k).mono fun e w' ⟨h1, h2⟩ => ⟨by rw [h1]; simp, 0, h2⟩
  · exact heldYK w g n cap k ys hF hy h0 h1 hn
/-- What SaveCode answers. -/
def savM (ins : List Int) (ss : List Ste) (os : List Spn) (pk : Int) : List Int := if verM ins ss os pk = true then saveM ins ss os pk else []
theorem bytesN_lt (b : Nat) : ∀ k, ∀ x ∈ bytesN b k, 0 ≤ x ∧ x < 256
  | 0 => by simp [bytesN]
  | k + 1 => by
    intro x hx
    rw [bytesN, List.mem_append] at hx
    rcases hx with h | h
    · exact bytesN_lt b k x h
    · simp at h; omega
theorem cntB_lt {v : Int} (h : 0 ≤ v ∧ v < 65536) : ∀ x ∈ cntB v, 0 ≤ x ∧ x < 256 := by
  intro x hx
  simp [cntB] at hx
  omega
theorem save_lt {ins : List Int} {ss : List Ste} {os : List Spn} {pk : Int} (h : SvOK ins ss os pk) : ∀ x ∈ saveM ins ss os pk, 0 ≤ x ∧ x < 256 := by
  have hf : ∀ xs : List Int, (∀ y ∈ xs, 0 ≤ y ∧ y < 65536) → ∀ x ∈ xs.flatMap cntB, 0 ≤ x ∧ x < 256 := fun xs hx x hm => by
    obtain ⟨y, h1, h2⟩ := List.mem_flatMap.1 hm
    exact cntB_lt (hx y h1) x h2
  have h1 := h.li
  have h2 := h.ls
  have h3 := h.lo
  intro x hx
  unfold saveM at hx
  simp only [List.mem_append] at hx
  rcases hx with ((((((hx | hx) | hx) | hx) | hx) | hx) | hx) | hx
  · simp at hx; omega
  · exact cntB_lt (by omega) x hx
  · exact hf ins h.i x hx
  · exact cntB_lt (by omega) x hx
  · obtain ⟨s, hs, hm⟩ := List.mem_flatMap.1 hx
    obtain ⟨k, hk, rfl⟩ := List.getElem_of_mem hs
    have e : ss.getD k Ste.zero = ss[k] := by rw [List.getD_eq_getElem?_getD, List.getElem?_eq_getElem hk]; rfl
    have hh := h.s k hk
    rw [e] at hh
    unfold steB at hm
    simp only [List.mem_append] at hm
    rcases hm with (hm | hm) | hm
    · simp at hm; omega
    · exact hf _ hh.2 x hm
    · split at hm
      · exact bytesN_lt _ _ x hm
      · cases hm
  · exact cntB_lt (by omega) x hx
  · obtain ⟨s, hs, hm⟩ := List.mem_flatMap.1 hx
    obtain ⟨k, hk, rfl⟩ := List.getElem_of_mem hs
    have e : os.getD k Spn.zero = os[k] := by rw [List.getD_eq_getElem?_getD, List.getElem?_eq_getElem hk]; rfl
    have hh := h.o k hk
    rw [e] at hh
    unfold spnB at hm
    simp only [List.mem_append] at hm
    rcases hm with hm | hm
    · exact cntB_lt hh.1 x hm
    · exact cntB_lt hh.2 x hm
  · exact cntB_lt h.p x hx
theorem sav_lt (ins : List Int) (ss : List Ste) (os : List Spn) (pk : Int) : ∀ x ∈ savM ins ss os pk, 0 ≤ x ∧ x < 256 := by
  unfold savM
  split
  · rename_i h
    exact save_lt (svOK_of h)
  · simp
theorem sav_len (ins : List Int) (ss : List Ste) (os : List Spn) (pk : Int) : (savM ins ss os pk).length ≤ 100000 := by
  unfold savM
  split
  · rename_i h
    have o := svOK_of h
    have h1 := o.li
    have h2 := o.ls
    have h3 := o.lo
    have h4 := flat_ste_len ss
    unfold saveM
    simp only [List.length_append, flat_cnt_len, flat_spn_len, cntB_len, List.length_cons, List.length_nil]
    omega
  · simp
/-- Both SaveCodes: bytes of their own. -/
theorem implSave (w : World) (a1 a2 a3 : Option Addr) (n1 c1 n2 c2 n3 c3 : Nat) (pk : Int) (ins : List Int) (ss : List Ste) (os : List Spn) (f : CS w a1 n1 a2 n2 a3 n3 ins ss os) :
    Calls Try.prog 22 #[cagg a1 n1 c1 a2 n2 c2 a3 n3 c3 pk] w fun e w' => ∃ g a cap, e = .returned (.slice a (savM ins ss os pk).length cap) ∧ YZ w' g a (savM ins ss os pk).length (savM ins ss os pk) ∧ (0 < (savM ins ss os pk).length → w.heap.size ≤ g) ∧ Kept 0 0 w w' := by
  unfold savM
  cases hv : verM ins ss os pk
  · rw [if_neg (by simp)]
    exact (implSave_bad w a1 a2 a3 n1 c1 n2 c2 n3 c3 pk ins ss os f hv).mono fun e w' ⟨h1, h2⟩ => ⟨0, none, 0, h1, ⟨rfl, .inl rfl⟩, fun h => by simp at h, h2⟩
  · rw [if_pos rfl]
    exact (implSave_in w a1 a2 a3 n1 c1 n2 c2 n3 c3 pk ins ss os f hv).mono fun e w' ⟨v, h1, h2, h3⟩ => by
      obtain ⟨g, a, cap, rfl, h4, h5⟩ := h2.yz
      exact ⟨g, a, cap, h1, h4, h5, h3⟩
theorem specSave (w : World) (a1 a2 a3 : Option Addr) (n1 c1 n2 c2 n3 c3 : Nat) (pk : Int) (ins : List Int) (ss : List Ste) (os : List Spn) (f : CS w a1 n1 a2 n2 a3 n3 ins ss os) :
    Calls Try.prog 20 #[cagg a1 n1 c1 a2 n2 c2 a3 n3 c3 pk] w fun e w' => ∃ g a cap, e = .returned (.slice a (savM ins ss os pk).length cap) ∧ YZ w' g a (savM ins ss os pk).length (savM ins ss os pk) ∧ (0 < (savM ins ss os pk).length → w.heap.size ≤ g) ∧ Kept 0 0 w w' := by
  unfold savM
  cases hv : verM ins ss os pk
  · rw [if_neg (by simp)]
    exact (specSave_bad w a1 a2 a3 n1 c1 n2 c2 n3 c3 pk ins ss os f hv).mono fun e w' ⟨h1, h2⟩ => ⟨0, none, 0, h1, ⟨rfl, .inl rfl⟩, fun h => by simp at h, h2⟩
  · rw [if_pos rfl]
    exact (specSave_in w a1 a2 a3 n1 c1 n2 c2 n3 c3 pk ins ss os f hv).mono fun e w' ⟨v, h1, h2, h3⟩ => by
      obtain ⟨g, a, cap, rfl, h4, h5⟩ := h2.yz
      exact ⟨g, a, cap, h1, h4, h5, h3⟩
end Go.Proofs.Ytdkjdlimcnddkaa

namespace Go.Proofs.Ytdkjdlimcnddkaa
open Go.RowKit Flt
attribute [local go_sem] alloc_drewN setCell_drewN run_store_float

theorem Kept.chgR {l h : Nat} {w w' : World} (k : Kept l h w w') : Chg (fun i => l ≤ i ∧ i < h) w w' := ⟨k.os, k.tape, k.output, k.size, fun i hi hn => k.block i hi hn⟩
theorem TS.keepC {w w' : World} {S : Nat → Prop} {lo hi : Nat} {a : Option Addr} {n : Nat} {vs : List Ste} (f : TS w lo hi a n vs) (k : Chg S w w') (hd : ∀ g, lo ≤ g → g < hi → ¬ S g) : TS w' lo hi a n vs :=
  ⟨f.len, f.lt, by
    rcases f.at_ with h0 | ⟨g, off, e, h1, h2, h3, h4⟩
    · exact .inl h0
    · refine .inr ⟨g, off, e, h1, h2, Nat.lt_of_lt_of_le h3 k.size, fun j hj => ?_⟩
      have e : ∀ o, w'.cell? ⟨g, o, none⟩ = w.cell? ⟨g, o, none⟩ := fun o => k.cell (p := ⟨g, o, none⟩) h3 (hd g h1 h2)
      obtain ⟨c0, c1, c2, c3, c4, c5, c6, c7⟩ := h4 j hj
      exact ⟨by rw [e]; exact c0, by rw [e]; exact c1, by rw [e]; exact c2, by rw [e]; exact c3, by rw [e]; exact c4, by rw [e]; exact c5, by rw [e]; exact c6, by rw [e]; exact c7⟩⟩
theorem PS.keepC {w w' : World} {S : Nat → Prop} {lo hi : Nat} {a : Option Addr} {n : Nat} {vs : List Spn} (f : PS w lo hi a n vs) (k : Chg S w w') (hd : ∀ g, lo ≤ g → g < hi → ¬ S g) : PS w' lo hi a n vs :=
  ⟨f.len, by
    rcases f.at_ with h0 | ⟨g, off, e, h1, h2, h3, h4⟩
    · exact .inl h0
    · refine .inr ⟨g, off, e, h1, h2, Nat.lt_of_lt_of_le h3 k.size, fun j hj => ?_⟩
      have e : ∀ o, w'.cell? ⟨g, o, none⟩ = w.cell? ⟨g, o, none⟩ := fun o => k.cell (p := ⟨g, o, none⟩) h3 (hd g h1 h2)
      obtain ⟨c0, c1⟩ := h4 j hj
      exact ⟨by rw [e]; exact c0, by rw [e]; exact c1⟩⟩
/-- Nothing below w turned: a code of w stands. -/
theorem CS.keepC {w w' : World} {a1 a2 a3 : Option Addr} {n1 n2 n3 : Nat} {ins : List Int} {ss : List Ste} {os : List Spn} (f : CS w a1 n1 a2 n2 a3 n3 ins ss os) (k : Chg (fun b => w.heap.size ≤ b) w w') : CS w' a1 n1 a2 n2 a3 n3 ins ss os :=
  ⟨(f.i.keepC k (fun g _ h => by omega)).mono (Nat.le_refl _) k.size, (f.s.keepC k (fun g _ h => by omega)).mono (Nat.le_refl _) k.size, (f.o.keepC k (fun g _ h => by omega)).mono (Nat.le_refl _) k.size⟩
theorem C0.keepC {W W' : World} {S : Nat → Prop} {p : Nat} {b0 b1 b2 b3 : Value} (t : C0 W p b0 b1 b2 b3) (k : Chg S W W') (hd : ¬ S p) : C0 W' p b0 b1 b2 b3 := by
  have e : ∀ o, W'.cell? ⟨p, o, none⟩ = W.cell? ⟨p, o, none⟩ := fun o => k.cell (p := ⟨p, o, none⟩) t.sz hd
  exact ⟨Nat.lt_of_lt_of_le t.sz k.size, by rw [e]; exact t.q0, by rw [e]; exact t.q1, by rw [e]; exact t.q2, by rw [e]; exact t.q3⟩
/-- What stands through the law: the argument and its box. -/
structure LwC (w1 W : World) (p : Nat) (a1 : Option Addr) (n1 c1 : Nat) (a2 : Option Addr) (n2 c2 : Nat) (a3 : Option Addr) (n3 c3 : Nat) (pk : Int) (ins : List Int) (ss : List Ste) (os : List Spn) : Prop where
  f : CS W a1 n1 a2 n2 a3 n3 ins ss os
  b : C0 W p (.slice a1 n1 c1) (.slice a2 n2 c2) (.slice a3 n3 c3) (.int .i64 pk)
  k : Chg (fun b => w1.heap.size ≤ b) w1 W
theorem LwC.keep {w1 W W' : World} {p : Nat} {a1 : Option Addr} {n1 c1 : Nat} {a2 : Option Addr} {n2 c2 : Nat} {a3 : Option Addr} {n3 c3 : Nat} {pk : Int} {ins : List Int} {ss : List Ste} {os : List Spn} (h : LwC w1 W p a1 n1 c1 a2 n2 c2 a3 n3 c3 pk ins ss os) (k : Kept 0 0 W W') : LwC w1 W' p a1 n1 c1 a2 n2 c2 a3 n3 c3 pk ins ss os :=
  ⟨h.f.keep k, h.b.keep k, Chg.andThen h.k k.chg⟩
theorem LwC.turn {w1 W W' : World} {p : Nat} {a1 : Option Addr} {n1 c1 : Nat} {a2 : Option Addr} {n2 c2 : Nat} {a3 : Option Addr} {n3 c3 : Nat} {pk : Int} {ins : List Int} {ss : List Ste} {os : List Spn} (f : CS w1 a1 n1 a2 n2 a3 n3 ins ss os) (b : C0 w1 p (.slice a1 n1 c1) (.slice a2 n2 c2) (.slice a3 n3 c3) (.int .i64 pk)) (h : LwC w1 W p a1 n1 c1 a2 n2 c2 a3 n3 c3 pk ins ss os) {S : Nat → Prop} (k : Chg S W W') (hS : ∀ i, S i → w1.heap.size ≤ i) : LwC w1 W' p a1 n1 c1 a2 n2 c2 a3 n3 c3 pk ins ss os := by
  have kk : Chg (fun b => w1.heap.size ≤ b) w1 W' := Chg.andThen h.k ⟨k.os, k.tape, k.output, k.size, fun i hi hn => k.block i hi (fun c => hn (hS i c))⟩
  exact ⟨f.keepC kk, b.keepC kk (by have := b.sz; omega), kk⟩

set_option maxRecDepth 100000 in
set_option maxHeartbeats 2000000 in
theorem fnSave_long (w : World) (a1 a2 a3 : Option Addr) (n1 c1 n2 c2 n3 c3 : Nat) (pk : Int) (hn1 : n1 ≤ 9223372036854775807) (hn2 : n2 ≤ 9223372036854775807) (hn3 : n3 ≤ 9223372036854775807) (h : (1048576 : Int) - n1 - n2 - n3 < 0) :
    Calls Try.prog 5 #[cagg a1 n1 c1 a2 n2 c2 a3 n3 c3 pk] w fun e w' => e = .returned (.bool true) ∧ Below w.heap.size w w' := by
  have HZ : Hid _ := szCode (w.alloc (lcbox a1 n1 c1 a2 n2 c2 a3 n3 c3 pk)) a1 a2 a3 n1 c1 n2 c2 n3 c3 pk 1048576 (by omega) (by omega) hn1 hn2 hn3
  rw [if_pos h] at HZ
  clear hn1 hn2 hn3 h
  go_enter Try.func5, Try.ntmps5
  go_wp2_with fail
  refine Calls.mono HZ.out ?_
  rintro e w1 ⟨rfl, k1⟩
  go_wp2
  go_ret
  exact ⟨rfl, ((kept_alloc 0 0 w _).trans k1).below⟩

set_option maxRecDepth 100000 in
set_option maxHeartbeats 4000000 in
theorem fnSave (w : World) (a1 a2 a3 : Option Addr) (n1 c1 n2 c2 n3 c3 : Nat) (pk : Int) (ins : List Int) (ss : List Ste) (os : List Spn) (f : CS w a1 n1 a2 n2 a3 n3 ins ss os) (h : ¬ ((1048576 : Int) - n1 - n2 - n3 < 0)) :
    Calls Try.prog 5 #[cagg a1 n1 c1 a2 n2 c2 a3 n3 c3 pk] w fun e w' => e = .returned (.bool true) ∧ Below w.heap.size w w' := by
  have HZ : Hid _ := szCode (w.alloc (lcbox a1 n1 c1 a2 n2 c2 a3 n3 c3 pk)) a1 a2 a3 n1 c1 n2 c2 n3 c3 pk 1048576 (by omega) (by omega) (by omega) (by omega) (by omega)
  rw [if_neg h] at HZ
  have h1 : n1 ≤ 1048576 := by omega
  have h2 : n2 ≤ 1048576 := by omega
  have h3 : n3 ≤ 1048576 := by omega
  have HYL : Hid _ := sav_lt ins ss os pk
  have hN := sav_len ins ss os pk
  have HIS : Hid (∀ W a1 a2 a3 c1 c2 c3, CS W a1 n1 a2 n2 a3 n3 ins ss os → _) := fun W a1 a2 a3 c1 c2 c3 f => implSave W a1 a2 a3 n1 c1 n2 c2 n3 c3 pk ins ss os f
  have HSS : Hid (∀ W a1 a2 a3 c1 c2 c3, CS W a1 n1 a2 n2 a3 n3 ins ss os → _) := fun W a1 a2 a3 c1 c2 c3 f => specSave W a1 a2 a3 n1 c1 n2 c2 n3 c3 pk ins ss os f
  generalize savM ins ss os pk = bs at HYL hN HIS HSS
  obtain ⟨N, hbN⟩ : ∃ N, N = bs.length := ⟨_, rfl⟩
  rw [← hbN] at hN HIS HSS
  have HLT : Hid _ := f.s.lt
  have HIL : Hid (ins.length = n1) := f.i.len
  clear hbN
  go_enter Try.func5, Try.ntmps5
  go_wp2_with fail
  refine Calls.mono HZ.out ?_
  rintro e w1 ⟨rfl, k1⟩
  have hK := (kept_alloc 0 0 w (lcbox a1 n1 c1 a2 n2 c2 a3 n3 c3 pk)).trans k1
  have hB := (c0_startL w (.slice a1 n1 c1) (.slice a2 n2 c2) (.slice a3 n3 c3) (.int .i64 pk)).keep k1
  have HF1 : Hid _ := f.keep hK
  have HK1 : Hid _ := hK
  have HB1 : Hid _ := hB
  have HW1 : Hid (LwC w1 w1 w.heap.size a1 n1 c1 a2 n2 c2 a3 n3 c3 pk ins ss os) := ⟨f.keep hK, hB, (Kept.refl 0 0 w1).chg⟩
  clear k1 HZ hK f hB
  obtain ⟨_, q0, q1, q2, q3⟩ := HW1.out.b
  go_wp2_with fail
  clear q0 q1 q2 q3
  refine Calls.mono (toCode _ a1 a2 a3 n1 c1 n2 c2 n3 c3 pk ins ss os HW1.out.f h1 h2 h3) ?_
  rintro e w2 ⟨g1, g2, g3, rfl, hO, k2⟩
  have HW2 : Hid _ := HW1.out.keep k2
  have HS : Hid _ := hO.cs HLT.out
  clear k2 hO HW1
  rw [HIL.out] at HS
  go_wp2_with fail
  refine Calls.mono (HSS.out _ _ _ _ n1 n2 n3 HS.out) ?_
  rintro e w3 ⟨gw, aw, cw, rfl, yw, _, k3⟩
  have HW3 : Hid _ := HW2.out.keep k3
  have HYW : Hid _ := yw
  clear k3 yw HW2 HS
  obtain ⟨_, q0, q1, q2, q3⟩ := HW3.out.b
  go_wp2_with fail
  clear q0 q1 q2 q3
  refine Calls.mono (toCode _ a1 a2 a3 n1 c1 n2 c2 n3 c3 pk ins ss os HW3.out.f h1 h2 h3) ?_
  rintro e w4 ⟨x1, x2, x3, rfl, hO, k4⟩
  have HW4 : Hid _ := HW3.out.keep k4
  have HYW4 : Hid _ := HYW.out.keep k4
  have HX4 : Hid _ := hO
  have HG4 : Hid (∀ _ : 0 < N, gw < w3.heap.size) := fun hn => HYW.out.blk hn
  have HZ4 : Hid (w1.heap.size ≤ w3.heap.size ∧ w3.heap.size ≤ w4.heap.size) := ⟨HW3.out.k.size, k4.size⟩
  clear k4 hO HW3 HYW
  go_upto_region 7 with fail
  have ka := kept_alloc 0 0 w4 (cbox (some ⟨x1, 0, none⟩) n1 n1 (some ⟨x2, 0, none⟩) n2 n2 (some ⟨x3, 0, none⟩) n3 n3 pk)
  have HY5 : Hid _ := c0_start w4 (.slice (some ⟨x1, 0, none⟩) n1 n1) (.slice (some ⟨x2, 0, none⟩) n2 n2) (.slice (some ⟨x3, 0, none⟩) n3 n3) (.int .i64 pk)
  have HW5 : Hid _ := HW4.out.keep ka
  have HYW5 : Hid _ := HYW4.out.keep ka
  have HX5 : Hid _ := HX4.out.keep ka
  have HZ5 : Hid (x3 < (w4.alloc (cbox (some ⟨x1, 0, none⟩) n1 n1 (some ⟨x2, 0, none⟩) n2 n2 (some ⟨x3, 0, none⟩) n3 n3 pk)).heap.size ∧ x3 < w4.heap.size) := ⟨HX5.out.o.lt, HX4.out.o.lt⟩
  clear ka HW4 HYW4 HX4
  generalize w4.alloc (cbox (some ⟨x1, 0, none⟩) n1 n1 (some ⟨x2, 0, none⟩) n2 n2 (some ⟨x3, 0, none⟩) n3 n3 pk) = w5 at HY5 HW5 HYW5 HX5 HZ5 ⊢
  obtain ⟨_, y0, y1, y2, y3⟩ := HY5.out
  go_wp2_with fail
  clear y0 y1 y2 y3
  have HS : Hid _ := HX5.out.cs HLT.out
  rw [HIL.out] at HS
  refine Calls.mono (HIS.out _ _ _ _ n1 n2 n3 HS.out) ?_
  rintro e w6 ⟨gi, ai, ci, rfl, yi, li, k6⟩
  have HW6 : Hid _ := HW5.out.keep k6
  have HYW6 : Hid _ := HYW5.out.keep k6
  have HX6 : Hid _ := HX5.out.keep k6
  have HY6 : Hid _ := HY5.out.keep k6
  have HYI6 : Hid _ := yi
  have HGI : Hid (0 < N → w5.heap.size ≤ gi) := li
  clear k6 yi li HW5 HYW5 HX5 HY5 HS
  go_wp2_with fail
  refine Calls.mono (eqY _ _ _ N _ _ bs (HYI6.out.ys HYL.out) (HYW6.out.ys HYL.out) (by omega)) ?_
  rintro e w7 ⟨rfl, n7, rfl⟩
  have k7 := kept_drewN 0 0 w6 n7
  have HW7 : Hid _ := HW6.out.keep k7
  have HYW7 : Hid _ := HYW6.out.keep k7
  have HX7 : Hid _ := HX6.out.keep k7
  have HY7 : Hid _ := HY6.out.keep k7
  have HYI7 : Hid _ := HYI6.out.keep k7
  clear k7 HW6 HYW6 HX6 HY6 HYI6
  generalize w6.drewN n7 = w7 at HW7 HYW7 HX7 HY7 HYI7 ⊢
  obtain ⟨_, q0, q1, q2, q3⟩ := HW7.out.b
  obtain ⟨_, y0, y1, y2, y3⟩ := HY7.out
  go_wp2_with fail
  have HT : Hid (∀ m, _) := fun m => toCode (w7.drewN m) a1 a2 a3 n1 c1 n2 c2 n3 c3 pk ins ss os (CS.keep HW7.out.f (kept_drewN 0 0 w7 m)) h1 h2 h3
  have HXS : Hid _ := HX7.out.cs HLT.out
  rw [HIL.out] at HXS
  go_region_with (first
    | (go_at_call 21; refine Calls.mono (HT.out 1) ?_; rintro e w8 ⟨z1, z2, z3, rfl, hO, k8⟩; have hy := C0.keep HY7.out (Kept.trans (kept_drewN 0 0 w7 1) k8); obtain ⟨_, u0, u1, u2, u3⟩ := hy)
    | (go_at_call 16; refine Calls.mono (eqCode _ _ _ _ _ _ _ n1 n1 n2 n2 n3 n3 n1 n2 n3 pk ins ss os (CS.keep HXS.out (Kept.trans (kept_drewN 0 0 w7 1) k8)) (by have := hO.cs HLT.out; rw [HIL.out] at this; exact this) h1 h2 h3) ?_; rintro e w9 ⟨rfl, k9⟩))
  all_goals
    have kk : Kept 0 0 w7 w9 := (Kept.trans (kept_drewN 0 0 w7 1) k8).trans k9
    have HW9 : Hid _ := HW7.out.keep kk
    have HYW9 : Hid _ := HYW7.out.keep kk
    have HX9 : Hid _ := HX7.out.keep kk
    have HY9 : Hid _ := HY7.out.keep kk
    have HYI9 : Hid _ := HYI7.out.keep kk
    clear kk k8 k9 hO HW7 HYW7 HX7 HY7 HYI7 HT HXS q0 q1 q2 q3 y0 y1 y2 y3
    try clear u0 u1 u2 u3
    obtain ⟨_, y0, y1, y2, y3⟩ := HY9.out
    go_wp2_with fail
    clear y0 y1 y2 y3
    refine Calls.mono (markC w9 _ x1 x2 x3 n1 n2 n3 n1 n2 n3 pk ins ss os HX9.out HIL.out 1 (by decide) (by decide) h1 h2 h3) ?_
    rintro e w10 ⟨rfl, k10⟩
    have hC := k10.chgR
    have HW10 : Hid _ := LwC.turn HF1.out HB1.out HW9.out hC (fun i hi => by have := HZ4.out; omega)
    have HYW10 : Hid _ := HYW9.out.keepC hC (fun hn c => by have := HG4.out hn; omega)
    have HYI10 : Hid _ := HYI9.out.keepC hC (fun hn c => by have := HGI.out hn; have := HZ5.out; omega)
    clear k10 hC HW9 HYW9 HX9 HY9 HYI9
    have hkk : ¬ ((1 : Int) + n1 + 8 * n2 + 2 * n3 < 0) := by omega
    generalize (1 : Int) + n1 + 8 * n2 + 2 * n3 = kv at hkk ⊢
    go_wp2_with fail
    refine Calls.mono (eqY _ _ _ N _ _ bs (HYI10.out.ys HYL.out) (HYW10.out.ys HYL.out) (by omega)) ?_
    rintro e w11 ⟨rfl, n11, rfl⟩
    have k11 := kept_drewN 0 0 w10 n11
    have HW11 : Hid _ := HW10.out.keep k11
    have HYW11 : Hid _ := HYW10.out.keep k11
    have HYI11 : Hid _ := HYI10.out.keep k11
    clear k11 HW10 HYW10 HYI10
    generalize w10.drewN n11 = w11 at HW11 HYW11 HYI11 ⊢
    go_wp2_with fail
    refine Calls.mono (markYZ w11 gi N _ ai 1 bs HYI11.out (by decide) (by decide) (by omega)) ?_
    rintro e w12 ⟨rfl, m12, c12⟩
    have HM12 : Hid _ := m12
    have HW12 : Hid _ := LwC.turn HF1.out HB1.out HW11.out c12 (fun i hi => by have := HGI.out hi.1; have := HZ5.out; have := HZ4.out; omega)
    have HYW12 : Hid _ := HYW11.out.keepC c12 (fun hn c => by have := HG4.out hn; have := HGI.out hn; have := HZ5.out; have := HZ4.out; omega)
    clear m12 c12 HW11 HYW11 HYI11
    go_wp2_with fail
    refine Calls.mono (heldYM w12 gi N _ ai 1 HM12.out (by decide) (by decide) (by omega)) ?_
    rintro e w13 ⟨rfl, n13, rfl⟩
    have k13 := kept_drewN 0 0 w12 n13
    have HW13 : Hid _ := HW12.out.keep k13
    have HYW13 : Hid _ := HYW12.out.keep k13
    clear k13 HW12 HYW12 HM12
    generalize w12.drewN n13 = w13 at HW13 HYW13 ⊢
    have hkk2 : ¬ ((1 : Int) + N < 0) := by omega
    generalize (1 : Int) + N = kv2 at hkk2 ⊢
    have e1 : (kv2 != kv2) = false := by simp
    obtain ⟨_, q0, q1, q2, q3⟩ := HW13.out.b
    go_wp2_with fail
    clear q0 q1 q2 q3
    refine Calls.mono (toCode _ a1 a2 a3 n1 c1 n2 c2 n3 c3 pk ins ss os HW13.out.f h1 h2 h3) ?_
    rintro e w14 ⟨g1', g2', g3', rfl, hO, k14⟩
    have HW14 : Hid _ := HW13.out.keep k14
    have HYW14 : Hid _ := HYW13.out.keep k14
    have HS : Hid _ := hO.cs HLT.out
    clear k14 hO HW13 HYW13
    rw [HIL.out] at HS
    go_wp2_with fail
    refine Calls.mono (HIS.out _ _ _ _ n1 n2 n3 HS.out) ?_
    rintro e w15 ⟨gh, ah, ch, rfl, yh, _, k15⟩
    have HW15 : Hid _ := HW14.out.keep k15
    have HYW15 : Hid _ := HYW14.out.keep k15
    have HYH : Hid _ := yh
    clear k15 yh HS HW14 HYW14
    go_wp2_with fail
    refine Calls.mono (eqY _ _ _ N _ _ bs (HYH.out.ys HYL.out) (HYW15.out.ys HYL.out) (by omega)) ?_
    rintro e w16 ⟨rfl, n16, rfl⟩
    have R : Hid _ := HW15.out.keep (kept_drewN 0 0 w15 n16)
    go_wp2
    go_ret
    exact ⟨rfl, (Chg.kept HK1.out R.out.k (fun i hi => Nat.le_trans HK1.out.size hi)).below⟩
end Go.Proofs.Ytdkjdlimcnddkaa

namespace Go.Proofs.Ytdkjdlimcnddkaa
open Go.RowKit Flt

/-- n bytes at p as a number. -/
def numAt (bs : List Int) (p : Nat) : Nat → Int
  | 0 => 0
  | n + 1 => numAt bs p n + bs.getD (p + n) 0 * 256 ^ n
def Bts (bs : List Int) : Prop := ∀ x ∈ bs, 0 ≤ x ∧ x < 256
theorem numAt_rng {bs : List Int} (h : Bts bs) (p : Nat) : ∀ n, 0 ≤ numAt bs p n ∧ numAt bs p n < 256 ^ n
  | 0 => by simp [numAt]
  | n + 1 => by
    have h1 := numAt_rng h p n
    have h2 := byte_lt h (p + n)
    have h3 : (0 : Int) < 256 ^ n := Int.pow_pos (by decide)
    rw [numAt]
    have h4 : bs.getD (p + n) 0 * 256 ^ n ≤ 255 * 256 ^ n := Int.mul_le_mul_of_nonneg_right (by omega) (by omega)
    have h5 : 0 ≤ bs.getD (p + n) 0 * 256 ^ n := Int.mul_nonneg h2.1 (by omega)
    have h6 : (256 : Int) ^ (n + 1) = 256 ^ n * 256 := Int.pow_succ _ _
    omega
theorem numAt_1 (bs : List Int) (p : Nat) : numAt bs p 1 = bs.getD p 0 := by simp [numAt]
theorem numAt_2 (bs : List Int) (p : Nat) : numAt bs p 2 = bs.getD p 0 + 256 * bs.getD (p + 1) 0 := by simp [numAt]; omega
theorem cnt_rng {bs : List Int} (h : Bts bs) (p : Nat) : 0 ≤ numAt bs p 2 ∧ numAt bs p 2 < 65536 := by
  have := numAt_rng h p 2
  simpa using this
/-- The step at p, and how long it is. -/
def fldAt (bs : List Int) (p : Nat) (i : Nat) : Int := numAt bs (p + 1 + 2 * i) 2
def steAt (bs : List Int) (p : Nat) : Ste := ⟨numAt bs p 1, fldAt bs p 0, fldAt bs p 1, fldAt bs p 2, fldAt bs p 3, fldAt bs p 4, fldAt bs p 5, if numAt bs p 1 = 1 then (numAt bs (p + 13) 8).toNat else 0⟩
def steLn (bs : List Int) (p : Nat) : Nat := if numAt bs p 1 = 1 then 21 else 13
def posTo (bs : List Int) (p : Nat) : Nat → Nat
  | 0 => p
  | k + 1 => posTo bs p k + steLn bs (posTo bs p k)
def stesAt (bs : List Int) (p : Nat) (k : Nat) : List Ste := (List.range k).map fun i => steAt bs (posTo bs p i)
def spnAt (bs : List Int) (p : Nat) : Spn := ⟨numAt bs p 2, numAt bs (p + 2) 2⟩
def spnsAt (bs : List Int) (p : Nat) (k : Nat) : List Spn := (List.range k).map fun i => spnAt bs (p + 4 * i)
def cntsAt (bs : List Int) (p : Nat) (k : Nat) : List Int := (List.range k).map fun i => numAt bs (p + 2 * i) 2
theorem stesAt_succ (bs : List Int) (p k : Nat) : stesAt bs p (k + 1) = stesAt bs p k ++ [steAt bs (posTo bs p k)] := by
  unfold stesAt; rw [List.range_succ, List.map_append]; rfl
theorem spnsAt_succ (bs : List Int) (p k : Nat) : spnsAt bs p (k + 1) = spnsAt bs p k ++ [spnAt bs (p + 4 * k)] := by
  unfold spnsAt; rw [List.range_succ, List.map_append]; rfl
theorem cntsAt_succ (bs : List Int) (p k : Nat) : cntsAt bs p (k + 1) = cntsAt bs p k ++ [numAt bs (p + 2 * k) 2] := by
  unfold cntsAt; rw [List.range_succ, List.map_append]; rfl
theorem stesAt_len (bs : List Int) (p k : Nat) : (stesAt bs p k).length = k := by simp [stesAt]
theorem spnsAt_len (bs : List Int) (p k : Nat) : (spnsAt bs p k).length = k := by simp [spnsAt]
theorem cntsAt_len (bs : List Int) (p k : Nat) : (cntsAt bs p k).length = k := by simp [cntsAt]
theorem cntsAt_at (bs : List Int) (p : Nat) {k i : Nat} (h : i < k) : (cntsAt bs p k).getD i 0 = numAt bs (p + 2 * i) 2 := by
  unfold cntsAt
  rw [List.getD_eq_getElem?_getD, List.getElem?_map, List.getElem?_range h]; rfl
theorem posTo_le (bs : List Int) (p : Nat) : ∀ k, p + 13 * k ≤ posTo bs p k
  | 0 => by simp [posTo]
  | k + 1 => by
    have := posTo_le bs p k
    rw [posTo]
    unfold steLn
    split <;> omega
theorem posTo_mono (bs : List Int) (p k : Nat) : ∀ j, posTo bs p k ≤ posTo bs p (k + j)
  | 0 => Nat.le_refl _
  | j + 1 => by
    have := posTo_mono bs p k j
    rw [← Nat.add_assoc, posTo]
    omega
/-- Where the parts of a saved code lie. -/
def n1L (bs : List Int) : Nat := (numAt bs 2 2).toNat
def p1L (bs : List Int) : Nat := 4 + 2 * n1L bs
def n2L (bs : List Int) : Nat := (numAt bs (p1L bs) 2).toNat
def p3L (bs : List Int) : Nat := posTo bs (p1L bs + 2) (n2L bs)
def n3L (bs : List Int) : Nat := (numAt bs (p3L bs) 2).toNat
def p4L (bs : List Int) : Nat := p3L bs + 2 + 4 * n3L bs
def insL (bs : List Int) : List Int := cntsAt bs 4 (n1L bs)
def ssL (bs : List Int) : List Ste := stesAt bs (p1L bs + 2) (n2L bs)
def osL (bs : List Int) : List Spn := spnsAt bs (p3L bs + 2) (n3L bs)
def pkL (bs : List Int) : Int := numAt bs (p4L bs) 2
/-- Are there bytes enough? -/
def fitL (bs : List Int) : Bool := decide (p4L bs + 2 ≤ bs.length)
/-- Is it a code? -/
def loadB (bs : List Int) : Bool := fitL bs && (savM (insL bs) (ssL bs) (osL bs) (pkL bs) == bs)
theorem p3L_le (bs : List Int) : p1L bs + 2 ≤ p3L bs := by
  have := posTo_le bs (p1L bs + 2) (n2L bs)
  unfold p3L
  omega
/-- Where a reader stands: none where bytes were missing. -/
def adv (n : Nat) (k : Nat) : Option Nat → Option Nat
  | none => none
  | some p => if p + k ≤ n then some (p + k) else none
theorem adv_add (n a b : Nat) (s : Option Nat) : adv n b (adv n a s) = adv n (a + b) s := by
  cases s with
  | none => rfl
  | some p =>
    simp only [adv]
    by_cases h : p + a ≤ n
    · rw [if_pos h]
      simp only
      by_cases h2 : p + a + b ≤ n
      · rw [if_pos h2, if_pos (by omega)]; congr 1; omega
      · rw [if_neg h2, if_neg (by omega)]
    · rw [if_neg h]
      simp only
      rw [if_neg (by omega)]
theorem adv_some {n k q : Nat} {s : Option Nat} (h : adv n k s = some q) : ∃ p, s = some p ∧ q = p + k ∧ p + k ≤ n := by
  cases s with
  | none => cases h
  | some p =>
    simp only [adv] at h
    by_cases c : p + k ≤ n
    · rw [if_pos c] at h
      injection h with h
      exact ⟨p, rfl, h.symm, c⟩
    · rw [if_neg c] at h; cases h
theorem adv_zero (n : Nat) (s : Option Nat) (h : ∀ p, s = some p → p ≤ n) : adv n 0 s = s := by
  cases s with
  | none => rfl
  | some p => simp only [adv, Nat.add_zero]; rw [if_pos (h p rfl)]
/-- A step read from s. -/
def nextS (bs : List Int) : Option Nat → Option Nat
  | none => none
  | some p => adv bs.length (steLn bs p) (some p)
/-- Fields but for a NaN's bits. -/
def nk (s : Ste) : Ste := ⟨s.op, s.len, s.n, s.dst, s.a, s.b, s.c, fb s.k⟩
end Go.Proofs.Ytdkjdlimcnddkaa
