import Derived.Test.YtdkjdlimcnddkaaL05
import Derived.Test.YtdkjdlimcnddkaaL07
import Derived.Test.YtdkjdlimcnddkaaS14
import Derived.Test.YtdkjdlimcnddkaaS05
import Derived.Deep.Slices
namespace Go.Proofs.Ytdkjdlimcnddkaa
open Go.RowKit Flt
attribute [local go_sem] alloc_drewN setCell_drewN run_store_float

set_option maxRecDepth 100000 in
set_option maxHeartbeats 1000000 in
theorem markT_zero (w : World) (a : Option Addr) (cap : Nat) (k : Int) : Calls Try.prog 54 #[.slice a 0 cap, .int .i64 k] w fun e w' => e = .returned (.int .i64 k) ∧ w' = w := by
  go_enter Try.func54, Try.ntmps54
  go_wp2_with fail
  refine wp_loop_rounds 1 ?_
  rw [rounds_succ]
  go_wp2
  go_ret
  exact ⟨rfl, rfl⟩
set_option maxRecDepth 100000 in
set_option maxHeartbeats 1000000 in
theorem heldT_zero (w : World) (a : Option Addr) (cap : Nat) (k : Int) : Calls Try.prog 56 #[.slice a 0 cap, .int .i64 k] w fun e w' => e = .returned (.int .i64 k) ∧ w' = w := by
  go_enter Try.func56, Try.ntmps56
  go_wp2_with fail
  refine wp_loop_rounds 1 ?_
  rw [rounds_succ]
  go_wp2
  go_ret
  exact ⟨rfl, rfl⟩
/-- The marks of element i. -/
def tm (k : Int) : Ste := ⟨k, k + 1, k + 1 + 1, k + 1 + 1 + 1, k + 1 + 1 + 1 + 1, k + 1 + 1 + 1 + 1 + 1, k + 1 + 1 + 1 + 1 + 1 + 1, floatOfInt .f64 (k + 1 + 1 + 1 + 1 + 1 + 1 + 1)⟩
set_option maxRecDepth 100000 in
set_option maxHeartbeats 4000000 in
theorem markTA (w : World) (g n cap : Nat) (k : Int) (vs : List Ste) (hF : TA w g n vs) (h0 : 0 ≤ k) (h1 : k ≤ 1099511627776) (hn : n ≤ 1099511627776) :
    Calls Try.prog 54 #[.slice (some ⟨g, 0, none⟩) n cap, .int .i64 k] w fun e w' => e = .returned (.int .i64 (k + 8 * n)) ∧ (∃ ys, TA w' g n ys ∧ ∀ i, i < n → ys.getD i Ste.zero = tm (k + 8 * i)) ∧ Kept g (g + 1) w w' := by
  go_enter Try.func54, Try.ntmps54
  go_wp2_with fail
  go_loopw [1, 5] (fun kv i W => ∃ j : Nat, j ≤ n ∧ i = .int .i64 j ∧ kv = .int .i64 (k + 8 * j) ∧ Hid (∃ ys, TA W g n ys ∧ ∀ i, i < j → ys.getD i Ste.zero = tm (k + 8 * i)) ∧ Kept g (g + 1) w W) (fun _ i _ => n - (intOf i).toNat)
  case atStart => exact ⟨0, Nat.zero_le _, rfl, by simp, ⟨vs, hF, fun i hi => by omega⟩, Kept.refl _ _ _⟩
  case round =>
    obtain ⟨j, hj, rfl, rfl, hY, hKW⟩ := hrel
    obtain ⟨ys, hFW, hy⟩ := hY.out
    by_cases hlt : j < n
    · obtain ⟨d0, d1, d2, d3, d4, d5, d6, d7⟩ := hFW.at_ j hlt
      have c3 := hFW.free
      have R0 : Hid (∀ i, i < j + 1 → (ys.set j (tm (k + 8 * (j : Int)))).getD i Ste.zero = tm (k + 8 * i)) := fun i hi => by
        rw [getD_set ys Ste.zero _ j i (by rw [hFW.len]; exact hlt)]
        by_cases e : i = j
        · subst e; rw [if_pos rfl]
        · rw [if_neg e]; exact hy i (by omega)
      generalize hkk : k + 8 * (j : Int) = kk at R0
      have b0 : 0 ≤ kk := by omega
      have b1 : kk ≤ 10995116277760 := by omega
      have R1 : Hid _ := hFW.step j hlt ⟨kk, kk + 1, kk + 1 + 1, kk + 1 + 1 + 1, kk + 1 + 1 + 1 + 1, kk + 1 + 1 + 1 + 1 + 1, kk + 1 + 1 + 1 + 1 + 1 + 1, floatOfInt .f64 (kk + 1 + 1 + 1 + 1 + 1 + 1 + 1)⟩
      have R2 : Hid _ := hKW.trans (put8_kept wr g (j * 8) ⟨kk, kk + 1, kk + 1 + 1, kk + 1 + 1 + 1, kk + 1 + 1 + 1 + 1, kk + 1 + 1 + 1 + 1 + 1, kk + 1 + 1 + 1 + 1 + 1 + 1, floatOfInt .f64 (kk + 1 + 1 + 1 + 1 + 1 + 1 + 1)⟩)
      have R3 : Hid (k + 8 * (j : Int) = kk) := hkk
      clear hFW hKW hF hkk hy hY
      go_wp2
      go_roundw
      case rel => exact ⟨j + 1, by omega, by go_num, by have := R3.out; congr 1; omega, ⟨_, R1.out, R0.out⟩, R2.out⟩
      case measure => simp [intOf]; omega
    · obtain rfl : j = n := by omega
      clear hF hFW hy
      go_wp2
      go_ret
      exact ⟨rfl, hY.out, hKW⟩
set_option maxRecDepth 100000 in
set_option maxHeartbeats 4000000 in
theorem heldTA (w : World) (g n cap : Nat) (k : Int) (vs : List Ste) (hF : TA w g n vs) (hy : ∀ i, i < n → vs.getD i Ste.zero = tm (k + 8 * i)) (h0 : 0 ≤ k) (h1 : k ≤ 1099511627776) (hn : n ≤ 1099511627776) :
    Calls Try.prog 56 #[.slice (some ⟨g, 0, none⟩) n cap, .int .i64 k] w fun e w' => e = .returned (.int .i64 (k + 8 * n)) ∧ Drawn w w' := by
  have HF : Hid _ := hF
  have HY : Hid _ := hy
  clear hF hy
  go_enter Try.func56, Try.ntmps56
  go_wp2_with fail
  go_loopw [1, 5] (fun kv i W => ∃ j : Nat, j ≤ n ∧ i = .int .i64 j ∧ kv = .int .i64 (k + 8 * j) ∧ Drawn w W) (fun _ i _ => n - (intOf i).toNat)
  case atStart => exact ⟨0, Nat.zero_le _, rfl, by simp, Drawn.refl _⟩
  case round =>
    obtain ⟨j, hj, rfl, rfl, HW⟩ := hrel
    by_cases hlt : j < n
    · have hat := HF.out.at_ j hlt
      rw [HY.out j hlt] at hat
      obtain ⟨d0, d1, d2, d3, d4, d5, d6, d7⟩ := hat
      rw [← HW.cell] at d0 d1 d2 d3 d4 d5 d6 d7
      simp only [tm] at d0 d1 d2 d3 d4 d5 d6 d7
      generalize hkk : k + 8 * (j : Int) = kk at d0 d1 d2 d3 d4 d5 d6 d7
      have b0 : 0 ≤ kk := by omega
      have b1 : kk ≤ 10995116277760 := by omega
      have R3 : Hid (k + 8 * (j : Int) = kk) := hkk
      have e1 : ∀ x : Int, (x != x) = false := fun x => by simp
      have e2 := ofInt_num (kk + 1 + 1 + 1 + 1 + 1 + 1 + 1)
      clear hkk
      go_wp2
      go_roundw
      case rel => exact ⟨j + 1, by omega, by go_num, by have := R3.out; congr 1; omega, HW⟩
      case measure => simp [intOf]; omega
    · obtain rfl : j = n := by omega
      go_wp2
      go_ret
      exact ⟨rfl, HW⟩
/-- Elements in a block of their own, or none. -/
def TZ (w : World) (g : Nat) (a : Option Addr) (n : Nat) (vs : List Ste) : Prop := n = 0 ∨ (a = some ⟨g, 0, none⟩ ∧ TA w g n vs)
theorem TZ.keep {w w' : World} {g n l h : Nat} {a : Option Addr} {xs : List Ste} (f : TZ w g a n xs) (k : Kept l h w w') (hd : g < l ∨ h ≤ g ∨ h ≤ l) : TZ w' g a n xs := f.imp id fun ⟨e, q⟩ => ⟨e, q.keep k hd⟩
/-- The marks stand. -/
def TM (w : World) (g : Nat) (a : Option Addr) (n : Nat) (k : Int) : Prop := ∃ ys, TZ w g a n ys ∧ ∀ i, i < n → ys.getD i Ste.zero = tm (k + 8 * i)
theorem TM.keep {w w' : World} {g n l h : Nat} {a : Option Addr} {m : Int} (f : TM w g a n m) (k : Kept l h w w') (hd : g < l ∨ h ≤ g ∨ h ≤ l) : TM w' g a n m := by
  obtain ⟨ys, h1, h2⟩ := f
  exact ⟨ys, h1.keep k hd, h2⟩
theorem markTZ (w : World) (g n cap : Nat) (a : Option Addr) (k : Int) (xs : List Ste) (hF : TZ w g a n xs) (h0 : 0 ≤ k) (h1 : k ≤ 1099511627776) (hn : n ≤ 1099511627776) :
    Calls Try.prog 54 #[.slice a n cap, .int .i64 k] w fun e w' => e = .returned (.int .i64 (k + 8 * n)) ∧ TM w' g a n k ∧ Kept g (g + 1) w w' := by
  rcases hF with rfl | ⟨rfl, hF⟩
  · exact (markT_zero w a cap k).mono fun e w' ⟨h1, h2⟩ => ⟨by rw [h1]; simp, ⟨[], .inl rfl, fun i hi => by omega⟩, by rw [h2]; exact Kept.refl _ _ _⟩
  · exact (markTA w g n cap k xs hF h0 h1 hn).mono fun e w' ⟨h1, ⟨ys, h2, h3⟩, h4⟩ => ⟨h1, ⟨ys, .inr ⟨rfl, h2⟩, h3⟩, h4⟩
theorem heldTM (w : World) (g n cap : Nat) (a : Option Addr) (k : Int) (hF : TM w g a n k) (h0 : 0 ≤ k) (h1 : k ≤ 1099511627776) (hn : n ≤ 1099511627776) :
    Calls Try.prog 56 #[.slice a n cap, .int .i64 k] w fun e w' => e = .returned (.int .i64 (k + 8 * n)) ∧ Drawn w w' := by
  obtain ⟨ys, rfl | ⟨rfl, hF⟩, hy⟩ := hF
  · exact (heldT_zero w a cap k).mono fun e w' ⟨h1, h2⟩ => ⟨by rw [h1]; simp, 0, h2⟩
  · exact heldTA w g n cap k ys hF hy h0 h1 hn
theorem own_TZ {W : World} {base n d : Nat} {b : Option Addr} {xs : List Ste} (h : W.ownsRow base 80 8 (.slice b n d) n (flatT xs)) (hl : xs.length = n) : n = 0 ∨ ∃ g, b = some ⟨g, 0, none⟩ ∧ base ≤ g ∧ TA W g n xs := by
  rcases h.2 with ⟨_, c⟩ | ⟨g, cap, cur, e, b1, b2, b3, _, b5, b6⟩
  · exact .inl c
  · injection e with q1 q2 q3
    have hg : g < W.heap.size := by
      rcases Nat.lt_or_ge g W.heap.size with c | c
      · exact c
      · rw [Array.getElem?_eq_none c] at b2; cases b2
    refine .inr ⟨g, q1, b1, hl, hg, fun k hk => ?_, fun o => frozen_of_row W g o cur _ b2⟩
    have hc : ∀ j, j < 8 → W.cell? ⟨g, k * 8 + j, none⟩ = (xs.getD k Ste.zero).cells[j]? := fun j hj => by
      rw [cell_of_row W g _ cur _ _ b2, ← Array.getElem?_toList]
      have : (cur.toList.take (n * 8))[k * 8 + j]? = (flatT xs)[k * 8 + j]? := by rw [b6]
      rw [List.getElem?_take_of_lt (by omega), flatT_at _ _ _ (by omega) hj] at this
      exact this
    exact ⟨hc 0 (by omega), hc 1 (by omega), hc 2 (by omega), hc 3 (by omega), hc 4 (by omega), hc 5 (by omega), hc 6 (by omega), hc 7 (by omega)⟩
set_option maxRecDepth 100000 in
set_option maxHeartbeats 1000000 in
theorem markP_zero (w : World) (a : Option Addr) (cap : Nat) (k : Int) : Calls Try.prog 55 #[.slice a 0 cap, .int .i64 k] w fun e w' => e = .returned (.int .i64 k) ∧ w' = w := by
  go_enter Try.func55, Try.ntmps55
  go_wp2_with fail
  refine wp_loop_rounds 1 ?_
  rw [rounds_succ]
  go_wp2
  go_ret
  exact ⟨rfl, rfl⟩
set_option maxRecDepth 100000 in
set_option maxHeartbeats 1000000 in
theorem heldP_zero (w : World) (a : Option Addr) (cap : Nat) (k : Int) : Calls Try.prog 57 #[.slice a 0 cap, .int .i64 k] w fun e w' => e = .returned (.int .i64 k) ∧ w' = w := by
  go_enter Try.func57, Try.ntmps57
  go_wp2_with fail
  refine wp_loop_rounds 1 ?_
  rw [rounds_succ]
  go_wp2
  go_ret
  exact ⟨rfl, rfl⟩
/-- The marks of element i. -/
def pm (k : Int) : Spn := ⟨k, k + 1⟩
set_option maxRecDepth 100000 in
set_option maxHeartbeats 4000000 in
theorem markPA (w : World) (g n cap : Nat) (k : Int) (vs : List Spn) (hF : PA w g n vs) (h0 : 0 ≤ k) (h1 : k ≤ 1099511627776) (hn : n ≤ 1099511627776) :
    Calls Try.prog 55 #[.slice (some ⟨g, 0, none⟩) n cap, .int .i64 k] w fun e w' => e = .returned (.int .i64 (k + 2 * n)) ∧ (∃ ys, PA w' g n ys ∧ ∀ i, i < n → ys.getD i Spn.zero = pm (k + 2 * i)) ∧ Kept g (g + 1) w w' := by
  go_enter Try.func55, Try.ntmps55
  go_wp2_with fail
  go_loopw [1, 5] (fun kv i W => ∃ j : Nat, j ≤ n ∧ i = .int .i64 j ∧ kv = .int .i64 (k + 2 * j) ∧ Hid (∃ ys, PA W g n ys ∧ ∀ i, i < j → ys.getD i Spn.zero = pm (k + 2 * i)) ∧ Kept g (g + 1) w W) (fun _ i _ => n - (intOf i).toNat)
  case atStart => exact ⟨0, Nat.zero_le _, rfl, by simp, ⟨vs, hF, fun i hi => by omega⟩, Kept.refl _ _ _⟩
  case round =>
    obtain ⟨j, hj, rfl, rfl, hY, hKW⟩ := hrel
    obtain ⟨ys, hFW, hy⟩ := hY.out
    by_cases hlt : j < n
    · obtain ⟨d0, d1⟩ := hFW.at_ j hlt
      have c3 := hFW.free
      have R0 : Hid (∀ i, i < j + 1 → (ys.set j (pm (k + 2 * (j : Int)))).getD i Spn.zero = pm (k + 2 * i)) := fun i hi => by
        rw [getD_set ys Spn.zero _ j i (by rw [hFW.len]; exact hlt)]
        by_cases e : i = j
        · subst e; rw [if_pos rfl]
        · rw [if_neg e]; exact hy i (by omega)
      generalize hkk : k + 2 * (j : Int) = kk at R0
      have b0 : 0 ≤ kk := by omega
      have b1 : kk ≤ 10995116277760 := by omega
      have R1 : Hid _ := hFW.step j hlt ⟨kk, kk + 1⟩
      have R2 : Hid _ := hKW.trans (put2p_kept wr g (j * 2) ⟨kk, kk + 1⟩)
      have R3 : Hid (k + 2 * (j : Int) = kk) := hkk
      clear hFW hKW hF hkk hy hY
      go_wp2
      go_roundw
      case rel => exact ⟨j + 1, by omega, by go_num, by have := R3.out; congr 1; omega, ⟨_, R1.out, R0.out⟩, R2.out⟩
      case measure => simp [intOf]; omega
    · obtain rfl : j = n := by omega
      clear hF hFW hy
      go_wp2
      go_ret
      exact ⟨rfl, hY.out, hKW⟩
set_option maxRecDepth 100000 in
set_option maxHeartbeats 4000000 in
theorem heldPA (w : World) (g n cap : Nat) (k : Int) (vs : List Spn) (hF : PA w g n vs) (hy : ∀ i, i < n → vs.getD i Spn.zero = pm (k + 2 * i)) (h0 : 0 ≤ k) (h1 : k ≤ 1099511627776) (hn : n ≤ 1099511627776) :
    Calls Try.prog 57 #[.slice (some ⟨g, 0, none⟩) n cap, .int .i64 k] w fun e w' => e = .returned (.int .i64 (k + 2 * n)) ∧ Drawn w w' := by
  have HF : Hid _ := hF
  have HY : Hid _ := hy
  clear hF hy
  go_enter Try.func57, Try.ntmps57
  go_wp2_with fail
  go_loopw [1, 5] (fun kv i W => ∃ j : Nat, j ≤ n ∧ i = .int .i64 j ∧ kv = .int .i64 (k + 2 * j) ∧ Drawn w W) (fun _ i _ => n - (intOf i).toNat)
  case atStart => exact ⟨0, Nat.zero_le _, rfl, by simp, Drawn.refl _⟩
  case round =>
    obtain ⟨j, hj, rfl, rfl, HW⟩ := hrel
    by_cases hlt : j < n
    · have hat := HF.out.at_ j hlt
      rw [HY.out j hlt] at hat
      obtain ⟨d0, d1⟩ := hat
      rw [← HW.cell] at d0 d1
      simp only [pm] at d0 d1
      generalize hkk : k + 2 * (j : Int) = kk at d0 d1
      have b0 : 0 ≤ kk := by omega
      have b1 : kk ≤ 10995116277760 := by omega
      have R3 : Hid (k + 2 * (j : Int) = kk) := hkk
      have e1 : ∀ x : Int, (x != x) = false := fun x => by simp
      clear hkk
      go_wp2
      go_roundw
      case rel => exact ⟨j + 1, by omega, by go_num, by have := R3.out; congr 1; omega, HW⟩
      case measure => simp [intOf]; omega
    · obtain rfl : j = n := by omega
      go_wp2
      go_ret
      exact ⟨rfl, HW⟩
/-- Elements in a block of their own, or none. -/
def PZ (w : World) (g : Nat) (a : Option Addr) (n : Nat) (vs : List Spn) : Prop := n = 0 ∨ (a = some ⟨g, 0, none⟩ ∧ PA w g n vs)
theorem PZ.keep {w w' : World} {g n l h : Nat} {a : Option Addr} {xs : List Spn} (f : PZ w g a n xs) (k : Kept l h w w') (hd : g < l ∨ h ≤ g ∨ h ≤ l) : PZ w' g a n xs := f.imp id fun ⟨e, q⟩ => ⟨e, q.keep k hd⟩
/-- The marks stand. -/
def PM (w : World) (g : Nat) (a : Option Addr) (n : Nat) (k : Int) : Prop := ∃ ys, PZ w g a n ys ∧ ∀ i, i < n → ys.getD i Spn.zero = pm (k + 2 * i)
theorem PM.keep {w w' : World} {g n l h : Nat} {a : Option Addr} {m : Int} (f : PM w g a n m) (k : Kept l h w w') (hd : g < l ∨ h ≤ g ∨ h ≤ l) : PM w' g a n m := by
  obtain ⟨ys, h1, h2⟩ := f
  exact ⟨ys, h1.keep k hd, h2⟩
theorem markPZ (w : World) (g n cap : Nat) (a : Option Addr) (k : Int) (xs : List Spn) (hF : PZ w g a n xs) (h0 : 0 ≤ k) (h1 : k ≤ 1099511627776) (hn : n ≤ 1099511627776) :
    Calls Try.prog 55 #[.slice a n cap, .int .i64 k] w fun e w' => e = .returned (.int .i64 (k + 2 * n)) ∧ PM w' g a n k ∧ Kept g (g + 1) w w' := by
  rcases hF with rfl | ⟨rfl, hF⟩
  · exact (markP_zero w a cap k).mono fun e w' ⟨h1, h2⟩ => ⟨by rw [h1]; simp, ⟨[], .inl rfl, fun i hi => by omega⟩, by rw [h2]; exact Kept.refl _ _ _⟩
  · exact (markPA w g n cap k xs hF h0 h1 hn).mono fun e w' ⟨h1, ⟨ys, h2, h3⟩, h4⟩ => ⟨h1, ⟨ys, .inr ⟨rfl, h2⟩, h3⟩, h4⟩
theorem heldPM (w : World) (g n cap : Nat) (a : Option Addr) (k : Int) (hF : PM w g a n k) (h0 : 0 ≤ k) (h1 : k ≤ 1099511627776) (hn : n ≤ 1099511627776) :
    Calls Try.prog 57 #[.slice a n cap, .int .i64 k] w fun e w' => e = .returned (.int .i64 (k + 2 * n)) ∧ Drawn w w' := by
  obtain ⟨ys, rfl | ⟨rfl, hF⟩, hy⟩ := hF
  · exact (heldP_zero w a cap k).mono fun e w' ⟨h1, h2⟩ => ⟨by rw [h1]; simp, 0, h2⟩
  · exact heldPA w g n cap k ys hF hy h0 h1 hn
theorem own_PZ {W : World} {base n d : Nat} {b : Option Addr} {xs : List Spn} (h : W.ownsRow base 83 2 (.slice b n d) n (flatP xs)) (hl : xs.length = n) : n = 0 ∨ ∃ g, b = some ⟨g, 0, none⟩ ∧ base ≤ g ∧ PA W g n xs := by
  rcases h.2 with ⟨_, c⟩ | ⟨g, cap, cur, e, b1, b2, b3, _, b5, b6⟩
  · exact .inl c
  · injection e with q1 q2 q3
    have hg : g < W.heap.size := by
      rcases Nat.lt_or_ge g W.heap.size with c | c
      · exact c
      · rw [Array.getElem?_eq_none c] at b2; cases b2
    refine .inr ⟨g, q1, b1, hl, hg, fun k hk => ?_, fun o => frozen_of_row W g o cur _ b2⟩
    have hc : ∀ j, j < 2 → W.cell? ⟨g, k * 2 + j, none⟩ = (xs.getD k Spn.zero).cells[j]? := fun j hj => by
      rw [cell_of_row W g _ cur _ _ b2, ← Array.getElem?_toList]
      have : (cur.toList.take (n * 2))[k * 2 + j]? = (flatP xs)[k * 2 + j]? := by rw [b6]
      rw [List.getElem?_take_of_lt (by omega), flatP_at _ _ _ (by omega) hj] at this
      exact this
    exact ⟨hc 0 (by omega), hc 1 (by omega)⟩
/-- A code whose lists lie in blocks of their own. -/
structure OC3 (w : World) (g1 g2 g3 : Nat) (a1 : Option Addr) (n1 : Nat) (a2 : Option Addr) (n2 : Nat) (a3 : Option Addr) (n3 : Nat) (ins : List Int) (ss : List Ste) (os : List Spn) : Prop where
  i : IZ w g1 a1 n1 ins
  s : TZ w g2 a2 n2 ss
  o : PZ w g3 a3 n3 os
  d12 : g1 ≠ g2
  d13 : g1 ≠ g3
  d23 : g2 ≠ g3
structure CM3 (w : World) (g1 g2 g3 : Nat) (a1 : Option Addr) (n1 : Nat) (a2 : Option Addr) (n2 : Nat) (a3 : Option Addr) (n3 : Nat) (k : Int) : Prop where
  i : IM w g1 a1 n1 k
  s : TM w g2 a2 n2 (k + n1)
  o : PM w g3 a3 n3 (k + n1 + 8 * n2)
theorem OCd.oc3 {W : World} {B : Nat} {a1 a2 a3 : Option Addr} {n1 n2 n3 c1 c2 c3 : Nat} {ins : List Int} {ss : List Ste} {os : List Spn} (f : OCd W B (.slice a1 n1 c1) (.slice a2 n2 c2) (.slice a3 n3 c3) ins ss os) (h1 : ins.length = n1) (h2 : ss.length = n2) (h3 : os.length = n3) (hB : B ≤ W.heap.size) : ∃ g1 g2 g3, OC3 W g1 g2 g3 a1 n1 a2 n2 a3 n3 ins ss os ∧ B ≤ g1 ∧ B ≤ g2 ∧ B ≤ g3 ∧ g1 ≠ W.heap.size ∧ g2 ≠ W.heap.size ∧ g3 ≠ W.heap.size ∧ ((Value.slice a1 n1 c1).ownBlock = some g1 ∨ W.heap.size < g1) ∧ ((Value.slice a2 n2 c2).ownBlock = some g2 ∨ W.heap.size < g2) ∧ ((Value.slice a3 n3 c3).ownBlock = some g3 ∨ W.heap.size < g3) := by
  obtain ⟨r1, r2, r3, d12, d13, d23, _⟩ := f
  rw [h1] at r1
  rw [h2] at r2
  rw [h3] at r3
  have k1 : ∃ g1, IZ W g1 a1 n1 ins ∧ B ≤ g1 ∧ ((g1 < W.heap.size ∧ (Value.slice a1 n1 c1).ownBlock = some g1) ∨ g1 = W.heap.size + 1) := by
    rcases own_io r1 h1 with h | ⟨g, e, hb, q⟩
    · exact ⟨W.heap.size + 1, .inl h, by omega, .inr rfl⟩
    · exact ⟨g, .inr ⟨e, q⟩, hb, .inl ⟨q.lt, by rw [e]; rfl⟩⟩
  have k2 : ∃ g2, TZ W g2 a2 n2 ss ∧ B ≤ g2 ∧ ((g2 < W.heap.size ∧ (Value.slice a2 n2 c2).ownBlock = some g2) ∨ g2 = W.heap.size + 2) := by
    rcases own_TZ r2 h2 with h | ⟨g, e, hb, q⟩
    · exact ⟨W.heap.size + 2, .inl h, by omega, .inr rfl⟩
    · exact ⟨g, .inr ⟨e, q⟩, hb, .inl ⟨q.lt, by rw [e]; rfl⟩⟩
  have k3 : ∃ g3, PZ W g3 a3 n3 os ∧ B ≤ g3 ∧ ((g3 < W.heap.size ∧ (Value.slice a3 n3 c3).ownBlock = some g3) ∨ g3 = W.heap.size + 3) := by
    rcases own_PZ r3 h3 with h | ⟨g, e, hb, q⟩
    · exact ⟨W.heap.size + 3, .inl h, by omega, .inr rfl⟩
    · exact ⟨g, .inr ⟨e, q⟩, hb, .inl ⟨q.lt, by rw [e]; rfl⟩⟩
  obtain ⟨g1, z1, b1, x1⟩ := k1
  obtain ⟨g2, z2, b2, x2⟩ := k2
  obtain ⟨g3, z3, b3, x3⟩ := k3
  refine ⟨g1, g2, g3, ⟨z1, z2, z3, ?_, ?_, ?_⟩, b1, b2, b3, by omega, by omega, by omega, x1.imp (fun h => h.2) (fun h => by omega), x2.imp (fun h => h.2) (fun h => by omega), x3.imp (fun h => h.2) (fun h => by omega)⟩
  · intro e
    subst e
    rcases x1 with ⟨l, o⟩ | l
    · rcases x2 with ⟨_, o2⟩ | l2
      · exact d12 _ o o2
      · omega
    · omega
  · intro e
    subst e
    rcases x1 with ⟨l, o⟩ | l
    · rcases x3 with ⟨_, o2⟩ | l2
      · exact d13 _ o o2
      · omega
    · omega
  · intro e
    subst e
    rcases x2 with ⟨l, o⟩ | l
    · rcases x3 with ⟨_, o2⟩ | l2
      · exact d23 _ o o2
      · omega
    · omega
set_option maxRecDepth 100000 in
set_option maxHeartbeats 2000000 in
theorem markOC (w : World) (g1 g2 g3 n1 n2 n3 c1 c2 c3 : Nat) (a1 a2 a3 : Option Addr) (pk : Int) (ins : List Int) (ss : List Ste) (os : List Spn) (f : OC3 w g1 g2 g3 a1 n1 a2 n2 a3 n3 ins ss os) (q1 : g1 ≠ w.heap.size) (q2 : g2 ≠ w.heap.size) (q3 : g3 ≠ w.heap.size) (k : Int) (h0 : 0 ≤ k) (h1 : k ≤ 1000000000) (b1 : n1 ≤ 1048576) (b2 : n2 ≤ 1048576) (b3 : n3 ≤ 1048576) :
    Calls Try.prog 17 #[cagg a1 n1 c1 a2 n2 c2 a3 n3 c3 pk, .int .i64 k] w fun e w' => e = .returned (.int .i64 (k + n1 + 8 * n2 + 2 * n3)) ∧ CM3 w' g1 g2 g3 a1 n1 a2 n2 a3 n3 k ∧ Chg (fun i => i = g1 ∨ i = g2 ∨ i = g3) w w' := by
  have ka := kept_alloc 0 0 w (cbox a1 n1 c1 a2 n2 c2 a3 n3 c3 pk)
  have hB := c0_start w (.slice a1 n1 c1) (.slice a2 n2 c2) (.slice a3 n3 c3) (.int .i64 pk)
  have HO : Hid (g1 ≠ w.heap.size ∧ g2 ≠ w.heap.size ∧ g3 ≠ w.heap.size ∧ g1 ≠ g2 ∧ g1 ≠ g3 ∧ g2 ≠ g3) := ⟨q1, q2, q3, f.d12, f.d13, f.d23⟩
  have HFI : Hid _ := f.i.keep ka (.inr (.inr (Nat.le_refl _)))
  have HFV : Hid _ := f.s.keep ka (.inr (.inr (Nat.le_refl _)))
  have HFO : Hid _ := f.o.keep ka (.inr (.inr (Nat.le_refl _)))
  have HB : Hid _ := hB
  have HK : Hid (Chg (fun i => i = g1 ∨ i = g2 ∨ i = g3) w (w.alloc (cbox a1 n1 c1 a2 n2 c2 a3 n3 c3 pk))) := ka.chg
  clear f ka hB q1 q2 q3
  go_enter Try.func17, Try.ntmps17
  go_wp2_with fail
  generalize hw1 : w.alloc (cbox a1 n1 c1 a2 n2 c2 a3 n3 c3 pk) = w1 at HFI HFV HFO HB HK ⊢
  clear hw1
  refine Calls.mono (markIZ _ g1 n1 _ a1 k ins HFI.out h0 (by omega) (by omega)) ?_
  rintro e w2 ⟨rfl, m2, k2⟩
  have HM2 : Hid _ := m2
  have HFV2 : Hid _ := TZ.keep HFV.out k2 (by have := HO.out; omega)
  have HFO2 : Hid _ := PZ.keep HFO.out k2 (by have := HO.out; omega)
  have HB2 : Hid _ := C0.keepR HB.out k2 (by have := HO.out; omega)
  have HK2 : Hid _ := Chg.andThen HK.out (k2.chg1 (.inl rfl))
  clear k2 m2 HFI HFV HFO HB HK
  obtain ⟨_, q0, q1, q2, q3⟩ := HB2.out
  go_wp2_with fail
  clear q0 q1 q2 q3
  refine Calls.mono (markTZ _ g2 n2 _ a2 (k + n1) ss HFV2.out (by omega) (by omega) (by omega)) ?_
  rintro e w3 ⟨rfl, m3, k3⟩
  have HM2b : Hid _ := IM.keep HM2.out k3 (by have := HO.out; omega)
  have HM3 : Hid _ := m3
  have HFO3 : Hid _ := PZ.keep HFO2.out k3 (by have := HO.out; omega)
  have HB3 : Hid _ := C0.keepR HB2.out k3 (by have := HO.out; omega)
  have HK3 : Hid _ := Chg.andThen HK2.out (k3.chg1 (.inr (.inl rfl)))
  clear k3 m3 HFV2 HFO2 HB2 HK2 HM2
  obtain ⟨_, q0, q1, q2, q3⟩ := HB3.out
  go_wp2_with fail
  clear q0 q1 q2 q3
  refine Calls.mono (markPZ _ g3 n3 _ a3 (k + n1 + 8 * n2) os HFO3.out (by omega) (by omega) (by omega)) ?_
  rintro e w4 ⟨rfl, m4, k4⟩
  have R1 : Hid _ := IM.keep HM2b.out k4 (by have := HO.out; omega)
  have R2 : Hid _ := TM.keep HM3.out k4 (by have := HO.out; omega)
  have R3 : Hid _ := m4
  have HK4 : Hid _ := Chg.andThen HK3.out (k4.chg1 (.inr (.inr rfl)))
  clear k4 m4 HFO3 HB3 HK3 HM2b HM3
  go_wp2
  go_ret
  exact ⟨rfl, ⟨R1.out, R2.out, R3.out⟩, HK4.out⟩
set_option maxRecDepth 100000 in
set_option maxHeartbeats 2000000 in
theorem heldOC (w : World) (g1 g2 g3 n1 n2 n3 c1 c2 c3 : Nat) (a1 a2 a3 : Option Addr) (pk k : Int) (f : CM3 w g1 g2 g3 a1 n1 a2 n2 a3 n3 k) (h0 : 0 ≤ k) (h1 : k ≤ 1000000000) (b1 : n1 ≤ 1048576) (b2 : n2 ≤ 1048576) (b3 : n3 ≤ 1048576) :
    Calls Try.prog 18 #[cagg a1 n1 c1 a2 n2 c2 a3 n3 c3 pk, .int .i64 k] w fun e w' => e = .returned (.int .i64 (k + n1 + 8 * n2 + 2 * n3)) ∧ Kept 0 0 w w' := by
  have ka := kept_alloc 0 0 w (cbox a1 n1 c1 a2 n2 c2 a3 n3 c3 pk)
  have hB := c0_start w (.slice a1 n1 c1) (.slice a2 n2 c2) (.slice a3 n3 c3) (.int .i64 pk)
  have HFI : Hid _ := f.i.keep ka (.inr (.inr (Nat.le_refl _)))
  have HFV : Hid _ := f.s.keep ka (.inr (.inr (Nat.le_refl _)))
  have HFO : Hid _ := f.o.keep ka (.inr (.inr (Nat.le_refl _)))
  have HB : Hid _ := hB
  have HK : Hid _ := ka
  clear f ka hB
  go_enter Try.func18, Try.ntmps18
  go_wp2_with fail
  generalize hw1 : w.alloc (cbox a1 n1 c1 a2 n2 c2 a3 n3 c3 pk) = w1 at HFI HFV HFO HB HK ⊢
  clear hw1
  refine Calls.mono (heldIM _ g1 n1 _ a1 k HFI.out h0 (by omega) (by omega)) ?_
  rintro e w2 ⟨rfl, d2⟩
  have k2 := d2.kept 0 0
  have HFV2 : Hid _ := TM.keep HFV.out k2 (.inr (.inr (Nat.le_refl _)))
  have HFO2 : Hid _ := PM.keep HFO.out k2 (.inr (.inr (Nat.le_refl _)))
  have HB2 : Hid _ := C0.keep HB.out k2
  have HK2 : Hid _ := Kept.trans HK.out k2
  have t1 : ¬ (k + (n1 : Int) < 0) := by omega
  clear k2 d2 HFI HFV HFO HB HK
  obtain ⟨_, q0, q1, q2, q3⟩ := HB2.out
  go_wp2_with fail
  clear q0 q1 q2 q3
  refine Calls.mono (heldTM _ g2 n2 _ a2 (k + n1) HFV2.out (by omega) (by omega) (by omega)) ?_
  rintro e w3 ⟨rfl, d3⟩
  have k3 := d3.kept 0 0
  have HFO3 : Hid _ := PM.keep HFO2.out k3 (.inr (.inr (Nat.le_refl _)))
  have HB3 : Hid _ := C0.keep HB2.out k3
  have HK3 : Hid _ := Kept.trans HK2.out k3
  have t2 : ¬ (k + (n1 : Int) + 8 * (n2 : Int) < 0) := by omega
  clear k3 d3 HFV2 HFO2 HB2 HK2
  obtain ⟨_, q0, q1, q2, q3⟩ := HB3.out
  go_wp2_with fail
  clear q0 q1 q2 q3
  refine Calls.mono (heldPM _ g3 n3 _ a3 (k + n1 + 8 * n2) HFO3.out (by omega) (by omega) (by omega)) ?_
  rintro e w4 ⟨rfl, d4⟩
  have HK4 : Hid _ := Kept.trans HK3.out (d4.kept 0 0)
  have t3 : ¬ (k + (n1 : Int) + 8 * (n2 : Int) + 2 * (n3 : Int) < 0) := by omega
  clear d4 HFO3 HB3 HK3
  go_wp2
  go_ret
  exact ⟨rfl, HK4.out⟩
end Go.Proofs.Ytdkjdlimcnddkaa

namespace Go.Proofs.Ytdkjdlimcnddkaa
open Go.RowKit Flt
attribute [local go_sem] alloc_drewN setCell_drewN run_store_float

set_option maxRecDepth 100000 in
set_option maxHeartbeats 1000000 in
theorem eqStep2 (w : World) (u v : Ste) (hu : u.k < 18446744073709551616) (hk : v.k < 18446744073709551616) (h : nk u = nk v) :
    Calls Try.prog 105 #[u.agg, v.agg] w fun e w' => e = .returned (.bool true) ∧ Kept 0 0 w w' := by
  obtain ⟨o, l, n, d, a, b, c, k⟩ := u
  obtain ⟨o', l', n', d', a', b', c', k'⟩ := v
  unfold nk at h
  injection h with h1 h2 h3 h4 h5 h6 h7 h8
  simp only at h1 h2 h3 h4 h5 h6 h7 h8
  subst h1 h2 h3 h4 h5 h6 h7
  have HK : Hid (fb k = fb k') := h8
  have h2 := convff
  simp only at hu hk
  clear h8
  go_enter Try.func105, Try.ntmps105
  go_wp2_with fail
  refine (sameF _ _ _ hu hk).mono ?_
  rintro e w2 ⟨rfl, rfl⟩
  rw [HK.out, fb_beq]
  go_wp2
  go_ret
  exact ⟨rfl, (kept_alloc 0 0 w _).trans (kept_alloc 0 0 _ _)⟩
set_option maxRecDepth 100000 in
set_option maxHeartbeats 2000000 in
theorem eqTS2_pos (w : World) (g1 o1 g2 o2 n ca cb : Nat) (vs us : List Ste) (hn : n ≤ 1099511627776) (hlk : ∀ k, nk (vs.getD k Ste.zero) = nk (us.getD k Ste.zero)) (hl2 : ∀ v ∈ us, v.k < 18446744073709551616) (b1 : g1 < w.heap.size) (b2 : g2 < w.heap.size) (hl : ∀ v ∈ vs, v.k < 18446744073709551616) 
    (hx : ∀ k, k < n → AtT w g1 (o1 + k * 8) (vs.getD k Ste.zero)) (hy : ∀ k, k < n → AtT w g2 (o2 + k * 8) (us.getD k Ste.zero)) :
    Calls Try.prog 52 #[.slice (some ⟨g1, o1, none⟩) n ca, .slice (some ⟨g2, o2, none⟩) n cb] w fun e w' => e = .returned (.bool true) ∧ Kept 0 0 w w' := by
  have HX : Hid (∀ k, k < n → AtT w g1 (o1 + k * 8) (vs.getD k Ste.zero)) := hx
  have HY : Hid (∀ k, k < n → AtT w g2 (o2 + k * 8) (us.getD k Ste.zero)) := hy
  have HL : Hid (∀ v ∈ vs, v.k < 18446744073709551616) := hl
  have HL2 : Hid (∀ v ∈ us, v.k < 18446744073709551616) := hl2
  have HLK : Hid _ := hlk
  clear hx hy hl hl2 hlk
  go_enter Try.func52, Try.ntmps52
  go_wp2_with fail
  go_loopw [5] (fun i W => ∃ k : Nat, k ≤ n ∧ i = .int .i64 k ∧ Kept 0 0 w W) (fun i _ => n - (intOf i).toNat)
  case atStart => exact ⟨0, Nat.zero_le _, rfl, Kept.refl _ _ _⟩
  case round =>
    obtain ⟨k, hk, rfl, HW⟩ := hrel
    by_cases hlt : k < n
    · obtain ⟨c0, c1, c2, c3, c4, c5, c6, c7⟩ := (HX.out k hlt).keep b1 HW (.inr (.inr (Nat.le_refl _)))
      obtain ⟨d0, d1, d2, d3, d4, d5, d6, d7⟩ := (HY.out k hlt).keep b2 HW (.inr (.inr (Nat.le_refl _)))
      have hv : (vs.getD k Ste.zero).k < 18446744073709551616 := getKSte HL.out k
      have hu : (us.getD k Ste.zero).k < 18446744073709551616 := getKSte HL2.out k
      have hlk := HLK.out k
      generalize vs.getD k Ste.zero = v at c0 c1 c2 c3 c4 c5 c6 c7 hv hlk
      generalize us.getD k Ste.zero = u at d0 d1 d2 d3 d4 d5 d6 d7 hu hlk
      have HE : Hid (∀ m, Calls Try.prog 105 #[v.agg, u.agg] (wr.drewN m) fun e w' => e = .returned (.bool true) ∧ Kept 0 0 w w') := fun m => (eqStep2 _ v u hv hu hlk).mono fun _ _ h => ⟨h.1, (HW.trans (kept_drewN 0 0 wr m)).trans h.2⟩
      clear hlk hv hu
      go_wp2_with fail
      go_region_with (go_at_call 105; refine (HE.out 1).mono ?_; rintro e w2 ⟨rfl, hk2⟩)
      all_goals
        go_wp2
        go_roundw
        case rel => exact ⟨k + 1, by omega, by go_num, hk2⟩
        case measure => simp [intOf]; omega
    · go_wp2
      go_ret
      exact ⟨rfl, HW⟩
theorem eqTS2 (w : World) (lo hi lo' hi' : Nat) (a b : Option Addr) (n ca cb : Nat) (vs us : List Ste) (f : TS w lo hi a n vs) (g : TS w lo' hi' b n us) (hlk : vs.map nk = us.map nk) (hn : n ≤ 1099511627776) :
    Calls Try.prog 52 #[.slice a n ca, .slice b n cb] w fun e w' => e = .returned (.bool true) ∧ Kept 0 0 w w' := by
  rcases f.at_ with rfl | ⟨g1, o1, rfl, a1, a2, a3, a4⟩
  · exact (eqTS_zero w a b ca cb).mono fun _ _ h => ⟨h.1, by rw [h.2]; exact Kept.refl _ _ _⟩
  · rcases g.at_ with rfl | ⟨g2, o2, rfl, b1, b2, b3, b4⟩
    · exact (eqTS_zero w _ b ca cb).mono fun _ _ h => ⟨h.1, by rw [h.2]; exact Kept.refl _ _ _⟩
    · exact eqTS2_pos w g1 o1 g2 o2 n ca cb vs us hn (fun k => by rw [← getD_nk, hlk, getD_nk]) g.lt a3 b3 f.lt a4 b4
set_option maxRecDepth 100000 in
set_option maxHeartbeats 2000000 in
theorem eqCode2 (w : World) (a1 a2 a3 a1' a2' a3' : Option Addr) (n1 c1 n2 c2 n3 c3 c1' c2' c3' : Nat) (pk : Int) (ins : List Int) (ss ss' : List Ste) (os : List Spn) (f : CS w a1 n1 a2 n2 a3 n3 ins ss os) (g : CS w a1' n1 a2' n2 a3' n3 ins ss' os) (hlk : ss.map nk = ss'.map nk) (h1 : n1 ≤ 1048576) (h2 : n2 ≤ 1048576) (h3 : n3 ≤ 1048576) :
    Calls Try.prog 16 #[cagg a1 n1 c1 a2 n2 c2 a3 n3 c3 pk, cagg a1' n1 c1' a2' n2 c2' a3' n3 c3' pk] w fun e w' => e = .returned (.bool true) ∧ Kept 0 0 w w' := by
  have hK := (kept_alloc 0 0 w (cbox a1 n1 c1 a2 n2 c2 a3 n3 c3 pk)).trans (kept_alloc 0 0 _ (cbox a1' n1 c1' a2' n2 c2' a3' n3 c3' pk))
  have hB := ec_start w (.slice a1 n1 c1) (.slice a2 n2 c2) (.slice a3 n3 c3) (.int .i64 pk) (.slice a1' n1 c1') (.slice a2' n2 c2') (.slice a3' n3 c3') (.int .i64 pk)
  have f' := f.keep hK
  have g' := g.keep hK
  have HLK : Hid _ := hlk
  clear f g hlk
  go_enter Try.func16, Try.ntmps16
  go_wp2_with fail
  generalize hw3 : (w.alloc (cbox a1 n1 c1 a2 n2 c2 a3 n3 c3 pk)).alloc (cbox a1' n1 c1' a2' n2 c2' a3' n3 c3' pk) = w3 at hB hK f' g' ⊢
  clear hw3
  refine (eqI _ _ _ _ _ _ _ _ _ _ _ f'.i g'.i (by omega)).mono ?_
  rintro e w4 ⟨rfl, k4'⟩
  have k4 := k4'.kept 0 0
  clear k4'
  replace hB := hB.keep k4
  replace f' := f'.keep k4
  replace g' := g'.keep k4
  replace hK := hK.trans k4
  clear k4
  have q1 := hB.q1
  have q2 := hB.r1
  go_wp2_with fail
  clear q1 q2
  refine (eqTS2 _ _ _ _ _ _ _ _ _ _ _ _ f'.s g'.s HLK.out (by omega)).mono ?_
  rintro e w5 ⟨rfl, k5⟩
  replace hB := hB.keep k5
  replace f' := f'.keep k5
  replace g' := g'.keep k5
  replace hK := hK.trans k5
  clear k5
  have q1 := hB.q2
  have q2 := hB.r2
  go_wp2_with fail
  clear q1 q2
  refine (eqPS _ _ _ _ _ _ _ _ _ _ _ f'.o g'.o (by omega)).mono ?_
  rintro e w6 ⟨rfl, k6⟩
  replace hB := hB.keep k6
  replace hK := hK.trans k6
  have q1 := hB.q3
  have q2 := hB.r3
  clear k6 hB f' g'
  go_wp2_with fail
  all_goals first
    | (go_ret; exact ⟨rfl, hK⟩)
    | (go_quiet (fail); go_wp2; go_ret; exact ⟨rfl, hK.trans (kept_drewN 0 0 _ _)⟩)
    | (go_region_with (fail)
       all_goals
         go_wp2
         go_ret
         exact ⟨rfl, hK.trans (kept_drewN 0 0 _ _)⟩)
end Go.Proofs.Ytdkjdlimcnddkaa

namespace Go.Proofs.Ytdkjdlimcnddkaa
open Go.RowKit Flt
attribute [local go_sem] alloc_drewN setCell_drewN run_store_float

/-- What LoadCode answers, field by field. -/
def uI (bs : List Int) : List Int := if loadB bs = true then insL bs else []
def uS (bs : List Int) : List Ste := if loadB bs = true then ssL bs else []
def uO (bs : List Int) : List Spn := if loadB bs = true then osL bs else []
def uP (bs : List Int) : Int := if loadB bs = true then pkL bs else 0
def uC (bs : List Int) : Int := if loadB bs = true then 0 else 1
/-- Both LoadCodes as one contract. -/
def LDu (w : World) (bs : List Int) (e : Ending) (w' : World) : Prop :=
  ∃ a1 d1 a2 d2 a3 d3, ∃ ss : List Ste, e = .returned (.tuple #[cagg a1 (uI bs).length d1 a2 (uS bs).length d2 a3 (uO bs).length d3 (uP bs), .int .i64 (uC bs)]) ∧ ss.map nk = (uS bs).map nk ∧ OCd w' w.heap.size (.slice a1 (uI bs).length d1) (.slice a2 (uS bs).length d2) (.slice a3 (uO bs).length d3) (uI bs) ss (uO bs) ∧ Kept 0 0 w w'
theorem LDo.u {w : World} {bs : List Int} {e : Ending} {w' : World} (h : LDo w bs e w') : LDu w bs e w' := by
  obtain ⟨h1, h2, h3⟩ := h
  unfold LDu uI uS uO uP uC
  cases hl : loadB bs
  · rw [if_neg (by simp), if_neg (by simp), if_neg (by simp), if_neg (by simp), if_neg (by simp)]
    exact ⟨none, 0, none, 0, none, 0, [], h1 hl, rfl, OCd.setI (World.ownsRow_nil _ _ _ _), h3⟩
  · rw [if_pos rfl, if_pos rfl, if_pos rfl, if_pos rfl, if_pos rfl]
    obtain ⟨a1, d1, a2, d2, a3, d3, ss, e1, e2, e3⟩ := h2 hl
    have l1 : (insL bs).length = n1L bs := cntsAt_len _ _ _
    have l2 : (ssL bs).length = n2L bs := stesAt_len _ _ _
    have l3 : (osL bs).length = n3L bs := spnsAt_len _ _ _
    rw [l1, l2, l3]
    exact ⟨a1, d1, a2, d2, a3, d3, ss, e1, e2, e3, h3⟩
theorem u_len (bs : List Int) : (uI bs).length ≤ 20 ∧ (uS bs).length ≤ 2000 ∧ (uO bs).length ≤ 50 := by
  unfold uI uS uO
  cases hl : loadB bs
  · rw [if_neg (by simp), if_neg (by simp), if_neg (by simp)]; simp
  · rw [if_pos rfl, if_pos rfl, if_pos rfl]
    unfold loadB at hl
    simp only [Bool.and_eq_true, beq_iff_eq] at hl
    have hv : verM (insL bs) (ssL bs) (osL bs) (pkL bs) = true := by
      cases hv : verM (insL bs) (ssL bs) (osL bs) (pkL bs)
      · have h2 := hl.2
        unfold savM at h2
        rw [hv, if_neg (by simp)] at h2
        have h4 : p4L bs + 2 ≤ bs.length := of_decide_eq_true hl.1
        rw [← h2] at h4
        simp at h4
      · rfl
    have o := svOK_of hv
    exact ⟨o.li, o.ls, o.lo⟩
/-- toByteS: a block of its own. -/
theorem toYR (w : World) (a : Option Addr) (n cap : Nat) (xs : List Int) (f : YS w a n xs) (hn : n ≤ 1048576) :
    Calls Try.prog 27 #[.slice a n cap] w fun e w' => e = .returned (.slice (some ⟨w.heap.size, 0, none⟩) n n) ∧ YZ w' w.heap.size (some ⟨w.heap.size, 0, none⟩) n xs ∧ Kept 0 0 w w' := by
  have key : ∀ w' : World, YR w' w.heap.size xs → YZ w' w.heap.size (some ⟨w.heap.size, 0, none⟩) n xs := fun w' h => ⟨f.len, .inr ⟨rfl, f.len, h.lt, fun k hk => h.cell k (by rw [f.len]; exact hk), h.free⟩⟩
  rcases f.at_ with rfl | ⟨g, off, rfl, h3, h4⟩
  · have : xs = [] := List.length_eq_zero_iff.1 f.len
    subst this
    exact (toY_zero w a cap).mono fun _ _ h => ⟨h.1, key _ h.2.1, h.2.2⟩
  · exact (toY_pos w g off n cap xs f.len hn h3 h4).mono fun _ _ h => ⟨h.1, key _ h.2.1, h.2.2⟩
set_option maxRecDepth 100000 in
set_option maxHeartbeats 2000000 in
theorem fnLoad_long (w : World) (a : Option Addr) (n c : Nat) (h : ¬ n ≤ 1048576) :
    Calls Try.prog 6 #[.slice a n c] w fun e w' => e = .returned (.bool true) ∧ Kept 0 0 w w' := by
  have hg : (1048576 : Int) < (n : Int) := by omega
  clear h
  go_enter Try.func6, Try.ntmps6
  go_wp2_with fail
  go_ret
  exact ⟨rfl, Kept.refl _ _ _⟩
set_option maxRecDepth 100000 in
set_option maxHeartbeats 8000000 in
theorem fnLoad (w : World) (a : Option Addr) (n c : Nat) (bs : List Int) (f : YS w a n bs) (hn : n ≤ 1048576) :
    Calls Try.prog 6 #[.slice a n c] w fun e w' => e = .returned (.bool true) ∧ Kept 0 0 w w' := by
  have hg : ¬ ((1048576 : Int) < (n : Int)) := by omega
  have HYL : Hid (Bts bs) := f.lt
  have HF : Hid _ := f
  have HI : Hid (∀ W b, YS W b n bs → Calls Try.prog 28 #[.slice b n n] W fun e w' => LDu W bs e w') := fun W b y => (implLoad W b n n bs y (Nat.le_refl _) (by omega)).mono fun _ _ h => h.u
  have HS : Hid (∀ W b, YS W b n bs → Calls Try.prog 26 #[.slice b n n] W fun e w' => LDu W bs e w') := fun W b y => (specLoad W b n n bs y hn).mono fun _ _ h => h.u
  have hul := u_len bs
  unfold LDu at HI HS
  obtain ⟨us, hus⟩ : ∃ us, us = uS bs := ⟨_, rfl⟩
  rw [← hus] at HI HS hul
  generalize uI bs = ui at HI HS hul
  generalize uO bs = uo at HI HS hul
  generalize uP bs = pk at HI HS
  generalize uC bs = cd at HI HS
  obtain ⟨m1, hm1⟩ : ∃ m, m = ui.length := ⟨_, rfl⟩
  obtain ⟨m2, hm2⟩ : ∃ m, m = us.length := ⟨_, rfl⟩
  obtain ⟨m3, hm3⟩ : ∃ m, m = uo.length := ⟨_, rfl⟩
  rw [← hm1, ← hm2, ← hm3] at HI HS hul
  obtain ⟨b1, b2, b3⟩ := hul
  have HM : Hid (ui.length = m1 ∧ us.length = m2 ∧ uo.length = m3) := ⟨hm1.symm, hm2.symm, hm3.symm⟩
  have HSN : Hid (∀ ss : List Ste, ss.map nk = us.map nk → ss.length = m2) := fun ss h => by rw [← List.length_map nk, h, List.length_map, hm2]
  have ecd : (cd != cd) = false := by simp
  clear f hus hm1 hm2 hm3
  go_enter Try.func6, Try.ntmps6
  go_wp2_with fail
  refine Calls.mono (toYR w a n c bs HF.out hn) ?_
  rintro e w1 ⟨rfl, y1, k1⟩
  have HY1 : Hid _ := y1.ys HYL.out
  have HK1 : Hid _ := k1
  clear y1 k1
  generalize w.heap.size = X0 at HY1 ⊢
  go_wp2_with fail
  refine Calls.mono (HS.out w1 _ HY1.out) ?_
  rintro e w2 ⟨a1, d1, a2, d2, a3, d3, ss, rfl, hlk, hO, k2⟩
  have ka := kept_alloc 0 0 w2 (cbox a1 m1 d1 a2 m2 d2 a3 m3 d3 pk)
  have HCS : Hid _ := (hO.keep ka).cs HM.out.1 (HSN.out ss hlk) HM.out.2.2
  have HLK : Hid _ := hlk
  have HBX : Hid _ := c0_start w2 (.slice a1 m1 d1) (.slice a2 m2 d2) (.slice a3 m3 d3) (.int .i64 pk)
  have HK3 : Hid _ := (HK1.out.trans k2).trans ka
  clear hlk hO k2 ka HY1 HK1
  go_upto_region 4 with fail
  generalize w2.alloc (cbox a1 m1 d1 a2 m2 d2 a3 m3 d3 pk) = w3 at HCS HBX HK3 ⊢
  have HW3 : Hid (LwC w3 w3 w2.heap.size a1 m1 d1 a2 m2 d2 a3 m3 d3 pk ui ss uo) := ⟨HCS.out, HBX.out, (Kept.refl 0 0 w3).chg⟩
  generalize w2.heap.size = p3 at HBX HW3 ⊢
  go_wp2_with fail
  refine Calls.mono (toYR w3 a n c bs (HF.out.keep HK3.out) hn) ?_
  rintro e w4 ⟨rfl, y4, k4⟩
  have HY4 : Hid _ := y4
  have HW4 : Hid _ := HW3.out.keep k4
  have HK4 : Hid _ := HK3.out.trans k4
  have HX : Hid (w3.heap.size < w4.heap.size ∨ n = 0) := by
    rcases y4.at_ with h | ⟨_, q⟩
    · exact .inr h
    · exact .inl q.lt
  have HX4 : Hid (w3.heap.size ≤ w4.heap.size) := k4.size
  clear y4 k4 HW3
  generalize hX : w3.heap.size = X at HY4 HX HX4 ⊢
  have HXX : Hid (w3.heap.size = X) := hX
  clear hX
  go_wp2_with fail
  refine Calls.mono (HI.out w4 _ (HY4.out.ys HYL.out)) ?_
  rintro e w5 ⟨x1, e1, x2, e2, x3, e3, st, rfl, hlk, hO, k5⟩
  have ka := kept_alloc 0 0 w5 (cbox x1 m1 e1 x2 m2 e2 x3 m3 e3 pk)
  have HO6 : Hid _ := hO.keep ka
  have HLK2 : Hid _ := hlk
  have HB6 : Hid _ := c0_start w5 (.slice x1 m1 e1) (.slice x2 m2 e2) (.slice x3 m3 e3) (.int .i64 pk)
  have HY6 : Hid _ := (HY4.out.keep k5).keep ka
  have HW6 : Hid _ := (HW4.out.keep k5).keep ka
  have HK6 : Hid _ := (HK4.out.trans k5).trans ka
  have HZ5 : Hid (w4.heap.size ≤ w5.heap.size) := k5.size
  have HOB : Hid (∀ g, ((Value.slice x1 m1 e1).ownBlock = some g ∨ (Value.slice x2 m2 e2).ownBlock = some g ∨ (Value.slice x3 m3 e3).ownBlock = some g) → g < w5.heap.size) := fun g hg => by
    rcases hg with h | h | h
    · exact (own_blkV hO.r1 h).2
    · exact (own_blkV hO.r2 h).2
    · exact (own_blkV hO.r3 h).2
  clear hlk hO k5 ka HY4 HW4 HK4
  go_upto_region 6 with fail
  generalize w5.alloc (cbox x1 m1 e1 x2 m2 e2 x3 m3 e3 pk) = w6 at HO6 HB6 HY6 HW6 HK6 ⊢
  generalize hp6 : w5.heap.size = p6 at HB6 HZ5 HOB ⊢
  clear hp6
  have HLA : Hid (st.map nk = ss.map nk) := by show _ = _; rw [HLK2.out, HLK.out]
  have HEQ : Hid (∀ W, OCd W w4.heap.size (.slice x1 m1 e1) (.slice x2 m2 e2) (.slice x3 m3 e3) ui st uo → CS W a1 m1 a2 m2 a3 m3 ui ss uo → _) := fun W h1 h2 => eqCode2 W x1 x2 x3 a1 a2 a3 m1 e1 m2 e2 m3 e3 d1 d2 d3 pk ui st ss uo (h1.cs HM.out.1 (HSN.out st HLK2.out) HM.out.2.2) h2 HLA.out (by omega) (by omega) (by omega)
  obtain ⟨_, q0, q1, q2, q3⟩ := HW6.out.b
  obtain ⟨_, y0, y1, y2, y3⟩ := HB6.out
  go_wp2_with fail
  refine Calls.mono (HEQ.out w6 HO6.out HW6.out.f) ?_
  rintro e w7 ⟨rfl, k7⟩
  have HO7 : Hid _ := HO6.out.keep k7
  have HB7 : Hid _ := HB6.out.keep k7
  have HY7 : Hid _ := HY6.out.keep k7
  have HW7 : Hid _ := HW6.out.keep k7
  have HK7 : Hid _ := HK6.out.trans k7
  clear k7 HO6 HB6 HY6 HW6 HK6 q0 q1 q2 q3 y0 y1 y2 y3
  go_wp2_with fail
  refine Calls.mono (toYR w7 a n c bs (HF.out.keep HK7.out) hn) ?_
  rintro e w8 ⟨rfl, y8, k8⟩
  have HY8 : Hid _ := y8.ys HYL.out
  have HO8 : Hid _ := HO7.out.keep k8
  have HB8 : Hid _ := HB7.out.keep k8
  have HX8 : Hid _ := HY7.out.keep k8
  have HW8 : Hid _ := HW7.out.keep k8
  have HK8 : Hid _ := HK7.out.trans k8
  clear y8 k8 HO7 HB7 HY7 HW7 HK7
  generalize w7.heap.size = X7 at HY8 ⊢
  go_wp2_with fail
  refine Calls.mono (eqY _ _ _ n _ _ bs (HX8.out.ys HYL.out) HY8.out (by omega)) ?_
  rintro e w9 ⟨rfl, n9, rfl⟩
  have k9 := kept_drewN 0 0 w8 n9
  have HO9 : Hid _ := HO8.out.keep k9
  have HB9 : Hid _ := HB8.out.keep k9
  have HX9 : Hid _ := HX8.out.keep k9
  have HW9 : Hid _ := HW8.out.keep k9
  have HK9 : Hid _ := HK8.out.trans k9
  clear k9 HO8 HB8 HX8 HW8 HK8 HY8
  generalize w8.drewN n9 = w9 at HO9 HB9 HX9 HW9 HK9 ⊢
  go_wp2_with fail
  refine Calls.mono (markYZ w9 X n _ _ 1 bs HX9.out (by decide) (by decide) (by omega)) ?_
  rintro e w10 ⟨rfl, _, c10⟩
  have HO10 : Hid _ := HO9.out.keepC c10 (fun g hg _ e => by have := HX.out; omega)
  have HB10 : Hid _ := HB9.out.keepC c10 (fun e => by have := HX.out; have := HZ5.out; omega)
  have HW10 : Hid _ := LwC.turn HCS.out HBX.out HW9.out c10 (fun i hi => by have := HXX.out; omega)
  have HK10 : Hid _ := Chg.kept HK9.out c10 (fun i hi => by have := HXX.out; have := HK3.out.size; omega)
  clear c10 HO9 HB9 HX9 HW9 HK9
  have hk1 : ¬ ((1 : Int) + n < 0) := by omega
  generalize (1 : Int) + n = kv at hk1 ⊢
  obtain ⟨_, q0, q1, q2, q3⟩ := HW10.out.b
  obtain ⟨_, y0, y1, y2, y3⟩ := HB10.out
  go_wp2_with fail
  refine Calls.mono (HEQ.out w10 HO10.out HW10.out.f) ?_
  rintro e w11 ⟨rfl, k11⟩
  have HO11 : Hid _ := HO10.out.keep k11
  have HB11 : Hid _ := HB10.out.keep k11
  have HW11 : Hid _ := HW10.out.keep k11
  have HK11 : Hid _ := HK10.out.trans k11
  have HZ11 : Hid (w4.heap.size ≤ w11.heap.size) := by show _ ≤ _; have := HB11.out.sz; have := HZ5.out; omega
  clear k11 HO10 HB10 HW10 HK10 q0 q1 q2 q3 y0 y1 y2 y3
  obtain ⟨_, y0, y1, y2, y3⟩ := HB11.out
  go_wp2_with fail
  clear y0 y1 y2 y3
  obtain ⟨g1, g2, g3, hoc, z1, z2, z3, z4, z5, z6, w7', w8', w9'⟩ := HO11.out.oc3 HM.out.1 (HSN.out st HLK2.out) HM.out.2.2 HZ11.out
  have hp6 : p6 < w11.heap.size := HB11.out.sz
  have hpn : ¬ (p6 = g1 ∨ p6 = g2 ∨ p6 = g3) := by
    intro h
    rcases h with h | h | h
    · rcases w7' with o | o
      · have := HOB.out g1 (.inl o); omega
      · omega
    · rcases w8' with o | o
      · have := HOB.out g2 (.inr (.inl o)); omega
      · omega
    · rcases w9' with o | o
      · have := HOB.out g3 (.inr (.inr o)); omega
      · omega
  refine Calls.mono (markOC w11 g1 g2 g3 m1 m2 m3 e1 e2 e3 x1 x2 x3 pk ui st uo hoc z4 z5 z6 1 (by decide) (by decide) (by omega) (by omega) (by omega)) ?_
  rintro e w12 ⟨rfl, m12, c12⟩
  have HM12 : Hid _ := m12
  have HW12 : Hid _ := LwC.turn HCS.out HBX.out HW11.out c12 (fun i hi => by have := HXX.out; have := HX4.out; omega)
  have HK12 : Hid _ := Chg.kept HK11.out c12 (fun i hi => by have := HXX.out; have := HX4.out; have := HK3.out.size; omega)
  have HB12 : Hid _ := HB11.out.keepC c12 hpn
  clear hoc z1 z2 z3 z4 z5 z6 w7' w8' w9' hp6 hpn m12 c12 HW11 HK11 HB11 HO11
  obtain ⟨_, y0, y1, y2, y3⟩ := HB12.out
  go_wp2_with fail
  clear y0 y1 y2 y3
  refine Calls.mono (heldOC w12 g1 g2 g3 m1 m2 m3 e1 e2 e3 x1 x2 x3 pk 1 HM12.out (by decide) (by decide) (by omega) (by omega) (by omega)) ?_
  rintro e w13 ⟨rfl, k13⟩
  have HW13 : Hid _ := HW12.out.keep k13
  have HK13 : Hid _ := HK12.out.trans k13
  clear k13 HW12 HK12 HM12 HB12
  have hk2 : ¬ ((1 : Int) + m1 + 8 * m2 + 2 * m3 < 0) := by omega
  generalize (1 : Int) + m1 + 8 * m2 + 2 * m3 = kv2 at hk2 ⊢
  have e1' : (kv2 != kv2) = false := by simp
  go_wp2_with fail
  refine Calls.mono (toYR w13 a n c bs (HF.out.keep HK13.out) hn) ?_
  rintro e w14 ⟨rfl, y14, k14⟩
  have HY14 : Hid _ := y14.ys HYL.out
  have HW14 : Hid _ := HW13.out.keep k14
  have HK14 : Hid _ := HK13.out.trans k14
  clear y14 k14 HW13 HK13
  generalize w13.heap.size = X13 at HY14 ⊢
  go_wp2_with fail
  refine Calls.mono (HI.out w14 _ HY14.out) ?_
  rintro e w15 ⟨u1, f1, u2, f2, u3, f3, sh, rfl, hlk, hO, k15⟩
  have ka := kept_alloc 0 0 w15 (cbox u1 m1 f1 u2 m2 f2 u3 m3 f3 pk)
  have HO16 : Hid _ := (hO.keep ka).cs HM.out.1 (HSN.out sh hlk) HM.out.2.2
  have HLH : Hid (sh.map nk = ss.map nk) := by show _ = _; rw [hlk, HLK.out]
  have HB16 : Hid _ := c0_start w15 (.slice u1 m1 f1) (.slice u2 m2 f2) (.slice u3 m3 f3) (.int .i64 pk)
  have HW16 : Hid _ := (HW14.out.keep k15).keep ka
  have HK16 : Hid _ := (HK14.out.trans k15).trans ka
  clear hlk hO k15 ka HW14 HK14 HY14
  go_upto_region 23 with fail
  generalize w15.alloc (cbox u1 m1 f1 u2 m2 f2 u3 m3 f3 pk) = w16 at HO16 HB16 HW16 HK16 ⊢
  generalize w15.heap.size = p16 at HB16 ⊢
  obtain ⟨_, q0, q1, q2, q3⟩ := HW16.out.b
  obtain ⟨_, y0, y1, y2, y3⟩ := HB16.out
  go_wp2_with fail
  refine Calls.mono (eqCode2 w16 u1 u2 u3 a1 a2 a3 m1 f1 m2 f2 m3 f3 d1 d2 d3 pk ui sh ss uo HO16.out HW16.out.f HLH.out (by omega) (by omega) (by omega)) ?_
  rintro e w17 ⟨rfl, k17⟩
  have R : Hid _ := HK16.out.trans k17
  clear k17 q0 q1 q2 q3 y0 y1 y2 y3
  go_wp2_with fail
  go_ret
  exact ⟨rfl, R.out⟩
end Go.Proofs.Ytdkjdlimcnddkaa

namespace Go.Proofs.Ytdkjdlimcnddkaa
open Go.ChangeShapes Go.WideShapes Go.ChangeAt Go.RowKit Flt

theorem cellsByte : Try.prog.cellsOf 5 = 1 := by kernel_rfl
theorem laidOutQ : laidOutB Try.prog = true := by kernel_rfl
/-- A slice of bytes that came in. -/
theorem open_bytes {H : Type} {enc : TypeId × Value → H} {w : World} {base : Nat} {spare : Nat → Bool} {held : Bool} {a : Option Addr} {n cap : Nat} {d : DataW H} {ps : List MemPlace}
    (h : DataW.Trod enc Try.prog w base spare held 50 (.slice a n cap) d ps) : n ≤ cap ∧ ∃ xs, YS w a n xs := by
  obtain ⟨fuel, hf⟩ := h
  rcases Deep.open_slice1 Try.underlying50 cellsByte hf with ⟨hcs, _⟩ | ⟨x, l, c, m, n', V, D, Pl, hcs, _, hl, _, hm, _, hV⟩
  · simp [Value.cells] at hcs
    obtain ⟨rfl, rfl, rfl⟩ := hcs
    exact ⟨Nat.le_refl _, [], rfl, by simp, .inl rfl⟩
  · simp [Value.cells] at hcs
    obtain ⟨rfl, rfl, rfl⟩ := hcs
    refine ⟨hl, ?_⟩
    have hlm : n ≤ m := by rw [hm]; split <;> omega
    have key : ∀ i, i < n → ∃ b : Int, w.cell? (x.add i) = some (.int .u8 b) ∧ 0 ≤ b ∧ b < 256 := fun i hi => by
      obtain ⟨h1, h2⟩ := hV i (by omega)
      obtain ⟨b, e, hw⟩ := DataW.trod_int Try.underlying5 h2
      simp at e
      have hb : 0 ≤ b ∧ b < 256 := by
        have := hw.2
        simp [Lit.wf, IntKind.min, IntKind.max, IntKind.signed, IntKind.bits] at this
        omega
      exact ⟨b, by rw [h1, e], hb.1, hb.2⟩
    obtain ⟨f, hf'⟩ := Deep.choose_lt (α := Int) (p := fun i b => w.cell? (x.add i) = some (.int .u8 b) ∧ 0 ≤ b ∧ b < 256) key
    refine ⟨(List.range n).map f, by simp, ?_, ?_⟩
    · intro y hy
      simp only [List.mem_map, List.mem_range] at hy
      obtain ⟨i, hi, rfl⟩ := hy
      exact (hf' i hi).2
    · rcases Nat.eq_zero_or_pos n with h0 | h0
      · exact .inl h0
      · obtain ⟨b, off, spot⟩ := x
        have hspot : spot = none := by simpa [Addr.add] using World.cell?_spot (hf' 0 h0).1
        subst hspot
        have h2 : ∀ k, k < n → w.cell? ⟨b, off + k, none⟩ = some (.int .u8 (((List.range n).map f).getD k 0)) := fun k hk => by
          have h1 := (hf' k hk).1
          rw [show ((List.range n).map f).getD k 0 = f k by simp [List.getD_eq_getElem?_getD, hk]]
          by_cases hk0 : k = 0
          · subst hk0; simpa [Addr.add] using h1
          · simpa [Addr.add, hk0] using h1
        have hb := World.block_lt_of_cell? (h := h2 0 h0)
        exact .inr ⟨b, off, rfl, hb, h2⟩

end Go.Proofs.Ytdkjdlimcnddkaa

namespace Go.Proofs.Ytdkjdlimcnddkaa
open Go.ChangeShapes Go.WideShapes Go.ChangeAt Go.RowKit Flt

namespace PLoad
set_option maxRecDepth 100000 in
theorem lifted (os : Os) (started : os.Started) (H : Type) (enc : TypeId × Value → H) :
    ReturnsInHanded {} Try.checked os 6 .any (Rows.fnExactLoadCodeSpec.pre6 enc Try.prog Try.f6 Rows.fnExactLoadCodeRow.domain false) (Rows.fnExactLoadCodeSpec.post enc Try.prog Try.f6 false true false false) := by
  refine returnsInHanded_of_change (C := Try.checked) own started (by kernel_rfl) Try.func6
    (ChangeSpec.witness6 (enc := enc) (C := Try.checked) false ⟨#[], #[.slice none 0 0], []⟩ 8 (by kernel_rfl) (by kernel_rfl) (by kernel_rfl) (by kernel_rfl)) ?_
  intro W base args ds gs before hval0 hW hcnd _
  have hval : ∀ (j : Nat) t v, Try.f6.params[j]? = some t → args[j]? = some v → Value.okWide Try.prog W .any base t v := hval0
  have hW' := hW
  obtain ⟨p, q, hA0, hV, rfl, hfz, hnd⟩ := hW
  have hA : DataW.TrodAll enc Try.prog W 0 (fun _ => true) true Try.f6.params.toList args.toList ds p := hA0
  rw [Try.params6] at hA hval
  obtain ⟨v0, vs0, d0, ds0, p0, q0, hargs, rfl, rfl, h0, r0⟩ := trodAll_cons hA
  obtain ⟨rfl, rfl, rfl⟩ := trodAll_nil r0
  obtain rfl : args = #[v0] := by cases args; simp_all
  obtain ⟨rfl, rfl⟩ := trodVars_none hV
  have lt0 : ∀ x ∈ p0, x.block < W.heap.size := by obtain ⟨m, hm⟩ := h0; exact DataW.trod_lt m _ _ _ hm
  obtain ⟨a, la, ca, rfl⟩ := okWide_slice Try.underlying50 (hval 0 50 v0 rfl rfl)
  obtain ⟨_, xa, fa⟩ := open_bytes h0
  clear hA0 hval0
  have walk : Calls Try.prog 6 #[.slice a la ca] W fun e w' => e = .returned (.bool true) ∧ Below W.heap.size W w' := by
    by_cases hl : la ≤ 1048576
    · exact (fnLoad W a la ca xa fa hl).mono fun _ _ h => ⟨h.1, h.2.below⟩
    · exact (fnLoad_long W a la ca hl).mono fun _ _ h => ⟨h.1, h.2.below⟩
  refine walk.mono fun e W' ⟨he, bel⟩ => ?_
  subst he
  exact ⟨_, rfl, _, _, _, [], _, [], hW', trodAll_mk1 (shut_bool Try.underlying4 _), (trodAll_cons_mk (Below.trod laidOutQ (by kernel_rfl) (of_decide_eq_true (by kernel_rfl)) h0 bel lt0) trodAll_mk0), rfl, bel.frame _, fun h => by cases h⟩
end PLoad

theorem fnExactLoadCode_holds : Rows.FnExactLoadCodeSaid :=
  OpenClaim.holds_of_wide 6 Try.f6 rfl rfl rfl rfl rfl rfl rfl ⟨rfl, rfl, rfl, rfl, rfl⟩ rfl rfl rfl rfl rfl (by kernel_rfl) Try.func6 (by kernel_rfl)
    (of_decide_eq_true (by kernel_rfl)) (by unfold Func.isWrapper; first | (rw [if_pos (by decide +kernel)]; kernel_rfl) | (rw [if_neg (by decide +kernel)]; exact ⟨rfl, rfl⟩))
    (fun os started H enc _ => PLoad.lifted os started H enc)
#print axioms fnExactLoadCode_holds
end Go.Proofs.Ytdkjdlimcnddkaa
