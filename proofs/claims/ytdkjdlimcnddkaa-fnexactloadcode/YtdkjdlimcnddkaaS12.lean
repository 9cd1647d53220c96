import Derived.Test.YtdkjdlimcnddkaaS01
import Derived.Test.YtdkjdlimcnddkaaV02
namespace Go.Proofs.Ytdkjdlimcnddkaa
open Go.RowKit Flt
attribute [local go_sem] alloc_drewN setCell_drewN run_store_float

set_option maxRecDepth 100000 in
set_option maxHeartbeats 4000000 in
theorem markT (w : World) (g n cap : Nat) (k : Int) (vs : List Ste) (hF : TA w g n vs) (h0 : 0 ≤ k) (h1 : k ≤ 1099511627776) (hn : n ≤ 1099511627776) :
    Calls Try.prog 54 #[.slice (some ⟨g, 0, none⟩) n cap, .int .i64 k] w fun e w' => e = .returned (.int .i64 (k + 8 * n)) ∧ Kept g (g + 1) w w' := by
  go_enter Try.func54, Try.ntmps54
  go_wp2_with fail
  go_loopw [1, 5] (fun kv i W => ∃ j : Nat, j ≤ n ∧ i = .int .i64 j ∧ kv = .int .i64 (k + 8 * j) ∧ (∃ ys, TA W g n ys) ∧ Kept g (g + 1) w W) (fun _ i _ => n - (intOf i).toNat)
  case atStart => exact ⟨0, Nat.zero_le _, rfl, by simp, ⟨vs, hF⟩, Kept.refl _ _ _⟩
  case round =>
    obtain ⟨j, hj, rfl, rfl, ⟨ys, hFW⟩, hKW⟩ := hrel
    by_cases hlt : j < n
    · obtain ⟨d0, d1, d2, d3, d4, d5, d6, d7⟩ := hFW.at_ j hlt
      have c3 := hFW.free
      generalize hkk : k + 8 * (j : Int) = kk
      have b0 : 0 ≤ kk := by omega
      have b1 : kk ≤ 10995116277760 := by omega
      have R1 : Hid _ := hFW.step j hlt ⟨kk, kk + 1, kk + 1 + 1, kk + 1 + 1 + 1, kk + 1 + 1 + 1 + 1, kk + 1 + 1 + 1 + 1 + 1, kk + 1 + 1 + 1 + 1 + 1 + 1, floatOfInt .f64 (kk + 1 + 1 + 1 + 1 + 1 + 1 + 1)⟩
      have R2 : Hid _ := hKW.trans (put8_kept wr g (j * 8) ⟨kk, kk + 1, kk + 1 + 1, kk + 1 + 1 + 1, kk + 1 + 1 + 1 + 1, kk + 1 + 1 + 1 + 1 + 1, kk + 1 + 1 + 1 + 1 + 1 + 1, floatOfInt .f64 (kk + 1 + 1 + 1 + 1 + 1 + 1 + 1)⟩)
      have R3 : Hid (k + 8 * (j : Int) = kk) := hkk
      clear hFW hKW hF hkk
      go_wp2
      go_roundw
      case rel => exact ⟨j + 1, by omega, by go_num, by have := R3.out; congr 1; omega, ⟨_, R1.out⟩, R2.out⟩
      case measure => simp [intOf]; omega
    · obtain rfl : j = n := by omega
      clear hF hFW
      go_wp2
      go_ret
      exact ⟨rfl, hKW⟩
set_option maxRecDepth 100000 in
set_option maxHeartbeats 4000000 in
theorem markP (w : World) (g n cap : Nat) (k : Int) (vs : List Spn) (hF : PA w g n vs) (h0 : 0 ≤ k) (h1 : k ≤ 1099511627776) (hn : n ≤ 1099511627776) :
    Calls Try.prog 55 #[.slice (some ⟨g, 0, none⟩) n cap, .int .i64 k] w fun e w' => e = .returned (.int .i64 (k + 2 * n)) ∧ Kept g (g + 1) w w' := by
  go_enter Try.func55, Try.ntmps55
  go_wp2_with fail
  go_loopw [1, 5] (fun kv i W => ∃ j : Nat, j ≤ n ∧ i = .int .i64 j ∧ kv = .int .i64 (k + 2 * j) ∧ (∃ ys, PA W g n ys) ∧ Kept g (g + 1) w W) (fun _ i _ => n - (intOf i).toNat)
  case atStart => exact ⟨0, Nat.zero_le _, rfl, by simp, ⟨vs, hF⟩, Kept.refl _ _ _⟩
  case round =>
    obtain ⟨j, hj, rfl, rfl, ⟨ys, hFW⟩, hKW⟩ := hrel
    by_cases hlt : j < n
    · obtain ⟨d0, d1⟩ := hFW.at_ j hlt
      have c3 := hFW.free
      generalize hkk : k + 2 * (j : Int) = kk
      have b0 : 0 ≤ kk := by omega
      have b1 : kk ≤ 10995116277760 := by omega
      have R1 : Hid _ := hFW.step j hlt ⟨kk, kk + 1⟩
      have R2 : Hid _ := hKW.trans (put2p_kept wr g (j * 2) ⟨kk, kk + 1⟩)
      have R3 : Hid (k + 2 * (j : Int) = kk) := hkk
      clear hFW hKW hF hkk
      go_wp2
      go_roundw
      case rel => exact ⟨j + 1, by omega, by go_num, by have := R3.out; congr 1; omega, ⟨_, R1.out⟩, R2.out⟩
      case measure => simp [intOf]; omega
    · obtain rfl : j = n := by omega
      clear hF hFW
      go_wp2
      go_ret
      exact ⟨rfl, hKW⟩
set_option maxRecDepth 100000 in
set_option maxHeartbeats 2000000 in
theorem markC (w : World) (lo g1 g2 g3 n1 n2 n3 c1 c2 c3 : Nat) (pk : Int) (ins : List Int) (ss : List Ste) (os : List Spn) (f : CO w lo g1 g2 g3 n2 n3 ins ss os) (hn1 : ins.length = n1) (k : Int) (h0 : 0 ≤ k) (h1 : k ≤ 1000000000) (b1 : n1 ≤ 1048576) (b2 : n2 ≤ 1048576) (b3 : n3 ≤ 1048576) :
    Calls Try.prog 17 #[cagg (some ⟨g1, 0, none⟩) n1 c1 (some ⟨g2, 0, none⟩) n2 c2 (some ⟨g3, 0, none⟩) n3 c3 pk, .int .i64 k] w fun e w' => e = .returned (.int .i64 (k + n1 + 8 * n2 + 2 * n3)) ∧ Kept lo (g3 + 1) w w' := by
  have hK := kept_alloc lo (g3 + 1) w (cbox (some ⟨g1, 0, none⟩) n1 c1 (some ⟨g2, 0, none⟩) n2 c2 (some ⟨g3, 0, none⟩) n3 c3 pk)
  have hB := c0_start w (.slice (some ⟨g1, 0, none⟩) n1 c1) (.slice (some ⟨g2, 0, none⟩) n2 c2) (.slice (some ⟨g3, 0, none⟩) n3 c3) (.int .i64 pk)
  have ka := kept_alloc 0 0 w (cbox (some ⟨g1, 0, none⟩) n1 c1 (some ⟨g2, 0, none⟩) n2 c2 (some ⟨g3, 0, none⟩) n3 c3 pk)
  have fi := f.i.keep ka (.inr (.inr (Nat.le_refl _)))
  have fv := f.s.keep ka (.inr (.inr (Nat.le_refl _)))
  have fo := f.o.keep ka (.inr (.inr (Nat.le_refl _)))
  have HO : Hid (lo ≤ g1 ∧ g1 < g2 ∧ g2 < g3 ∧ g3 < w.heap.size) := ⟨f.l1, f.l2, f.l3, f.o.lt⟩
  have HFI : Hid _ := fi
  have HFV : Hid _ := fv
  have HFO : Hid _ := fo
  have HB : Hid _ := hB
  have HK : Hid _ := hK
  have HN : Hid (ins.length = n1) := hn1
  clear f ka fi fv fo hB hK hn1
  go_enter Try.func17, Try.ntmps17
  go_wp2_with fail
  generalize hw1 : w.alloc (cbox (some ⟨g1, 0, none⟩) n1 c1 (some ⟨g2, 0, none⟩) n2 c2 (some ⟨g3, 0, none⟩) n3 c3 pk) = w1 at HFI HFV HFO HB HK ⊢
  clear hw1
  refine Calls.mono (markIO _ g1 n1 _ k ins (IR.io HFI.out HN.out) h0 (by omega) (by omega)) ?_
  rintro e w2 ⟨rfl, _, k2⟩
  have HFV2 : Hid _ := TA.keep HFV.out k2 (by have := HO.out; omega)
  have HFO2 : Hid _ := PA.keep HFO.out k2 (by have := HO.out; omega)
  have HB2 : Hid _ := C0.keepR HB.out k2 (by have := HO.out; omega)
  have HK2 : Hid _ := Kept.trans HK.out (k2.growT (by have := HO.out; omega) (by have := HO.out; omega))
  clear k2 HFI HFV HFO HB HK
  obtain ⟨_, q0, q1, q2, q3⟩ := HB2.out
  go_wp2_with fail
  clear q0 q1 q2 q3
  refine Calls.mono (markT _ g2 n2 _ (k + n1) ss HFV2.out (by omega) (by omega) (by omega)) ?_
  rintro e w3 ⟨rfl, k3⟩
  have HFO3 : Hid _ := PA.keep HFO2.out k3 (by have := HO.out; omega)
  have HB3 : Hid _ := C0.keepR HB2.out k3 (by have := HO.out; omega)
  have HK3 : Hid _ := Kept.trans HK2.out (k3.growT (by have := HO.out; omega) (by have := HO.out; omega))
  clear k3 HFV2 HFO2 HB2 HK2
  obtain ⟨_, q0, q1, q2, q3⟩ := HB3.out
  go_wp2_with fail
  clear q0 q1 q2 q3
  refine Calls.mono (markP _ g3 n3 _ (k + n1 + 8 * n2) os HFO3.out (by omega) (by omega) (by omega)) ?_
  rintro e w4 ⟨rfl, k4⟩
  have HK4 : Hid _ := Kept.trans HK3.out (k4.growT (by have := HO.out; omega) (by have := HO.out; omega))
  clear k4 HFO3 HB3 HK3
  go_wp2
  go_ret
  exact ⟨rfl, HK4.out⟩

end Go.Proofs.Ytdkjdlimcnddkaa
