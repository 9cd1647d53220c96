import Derived.Test.YtjaklhpdkfmipaaR12
import Derived.Test.YtjaklhpdkfmipaaR07
import Derived.Test.YtjaklhpdkfmipaaV02
namespace Go.Proofs.Ytjaklhpdkfmipaa
open Go.RowKit Flt
attribute [local go_sem] alloc_drewN setCell_drewN run_store_float

set_option maxRecDepth 100000 in
set_option maxHeartbeats 2000000 in
theorem specRun_bad (w : World) (a1 a2 a3 b : Option Addr) (n1 c1 n2 c2 n3 c3 m cb : Nat) (pk : Int) (ins : List Int) (ss : List Ste) (os : List Spn) (f : CS w a1 n1 a2 n2 a3 n3 ins ss os) (h : verM ins ss os pk = false) :
    Calls Try.prog 27 #[cagg a1 n1 c1 a2 n2 c2 a3 n3 c3 pk, .slice b m cb] w fun e w' => e = .returned (.tuple #[.slice none 0 0, .int .i64 0, .int .i64 1]) ∧ Kept 0 0 w w' := by
  have hK := kept_alloc 0 0 w (cbox a1 n1 c1 a2 n2 c2 a3 n3 c3 pk)
  have HX : Hid _ := specVer _ a1 a2 a3 n1 c1 n2 c2 n3 c3 pk ins ss os (f.keep hK)
  rw [h] at HX
  have HK : Hid _ := hK
  clear hK h f
  go_enter Try.func27, Try.ntmps27
  go_wp2_with fail
  refine Calls.mono HX.out ?_
  rintro e w2 ⟨rfl, k2⟩
  go_wp2
  go_ret3
  exact ⟨rfl, Kept.trans HK.out k2⟩
set_option maxRecDepth 100000 in
set_option maxHeartbeats 2000000 in
theorem specRun_shape (w : World) (a1 a2 a3 b : Option Addr) (n1 c1 n2 c2 n3 c3 m cb : Nat) (pk : Int) (ins : List Int) (ss : List Ste) (os : List Spn) (xss : List (List Nat)) (f : CS w a1 n1 a2 n2 a3 n3 ins ss os) (s : SS w b m xss) (h : verM ins ss os pk = true) (h2 : inB ins xss = false) (hn : n1 ≤ 1048576) :
    Calls Try.prog 27 #[cagg a1 n1 c1 a2 n2 c2 a3 n3 c3 pk, .slice b m cb] w fun e w' => e = .returned (.tuple #[.slice none 0 0, .int .i64 0, .int .i64 4]) ∧ Kept 0 0 w w' := by
  have hK := kept_alloc 0 0 w (cbox a1 n1 c1 a2 n2 c2 a3 n3 c3 pk)
  have HX : Hid _ := specVer _ a1 a2 a3 n1 c1 n2 c2 n3 c3 pk ins ss os (f.keep hK)
  rw [h] at HX
  have HB : Hid _ := c0_start w (.slice a1 n1 c1) (.slice a2 n2 c2) (.slice a3 n3 c3) (.int .i64 pk)
  have HF : Hid _ := f.keep hK
  have HS : Hid _ := s.keep hK
  have HK : Hid _ := hK
  clear hK h f s
  go_enter Try.func27, Try.ntmps27
  go_wp2_with fail
  refine Calls.mono HX.out ?_
  rintro e w2 ⟨rfl, k2⟩
  obtain ⟨_, q0, q1, q2, q3⟩ := C0.keep HB.out k2
  have HY : Hid _ := shapes w2 _ _ a1 b n1 m c1 cb ins xss (CS.keep HF.out k2).i (SS.keep HS.out k2) (by omega)
  rw [h2] at HY
  have HK2 : Hid _ := Kept.trans HK.out k2
  clear k2 HX HK HF HS HB
  go_wp2_with fail
  refine Calls.mono HY.out ?_
  rintro e w3 ⟨rfl, k3⟩
  go_wp2
  go_ret3
  exact ⟨rfl, Kept.trans HK2.out (k3.kept 0 0)⟩
set_option maxRecDepth 100000 in
set_option maxHeartbeats 2000000 in
theorem specRun_ok (w : World) (a1 a2 a3 b : Option Addr) (n1 c1 n2 c2 n3 c3 m cb : Nat) (pk : Int) (ins : List Int) (ss : List Ste) (os : List Spn) (xss : List (List Nat)) (f : CS w a1 n1 a2 n2 a3 n3 ins ss os) (s : SS w b m xss) (hw : Words xss) (h : verM ins ss os pk = true) (h2 : inB ins xss = true) (hn : n1 ≤ 1048576) :
    Calls Try.prog 27 #[cagg a1 n1 c1 a2 n2 c2 a3 n3 c3 pk, .slice b m cb] w fun e w' => ∃ a cap zss, e = .returned (.tuple #[.slice a n3 cap, .int .i64 (n2 : Int), .int .i64 0]) ∧ SS w' a n3 zss ∧ (∀ j, j < n3 → same (zss.getD j []) ((runM xss ss os).getD j [])) ∧ Kept 0 0 w w' := by
  have hK := kept_alloc 0 0 w (cbox a1 n1 c1 a2 n2 c2 a3 n3 c3 pk)
  have HX : Hid _ := specVer _ a1 a2 a3 n1 c1 n2 c2 n3 c3 pk ins ss os (f.keep hK)
  have HV : Hid _ := h
  rw [h] at HX
  have HB : Hid _ := c0_start w (.slice a1 n1 c1) (.slice a2 n2 c2) (.slice a3 n3 c3) (.int .i64 pk)
  have HF : Hid _ := f.keep hK
  have HS : Hid _ := s.keep hK
  have HK : Hid _ := hK
  have HW : Hid _ := hw
  clear hK h f s hw
  go_enter Try.func27, Try.ntmps27
  go_wp2_with fail
  refine Calls.mono HX.out ?_
  rintro e w2 ⟨rfl, k2⟩
  obtain ⟨_, q0, q1, q2, q3⟩ := C0.keep HB.out k2
  have HY : Hid _ := shapes w2 _ _ a1 b n1 m c1 cb ins xss (CS.keep HF.out k2).i (SS.keep HS.out k2) (by omega)
  rw [h2] at HY
  have HK2 : Hid _ := k2
  clear k2 HX
  go_wp2_with fail
  clear q0 q1 q2 q3
  refine Calls.mono HY.out ?_
  rintro e w3 ⟨rfl, d3⟩
  have k3 := Kept.trans HK2.out (d3.kept 0 0)
  have HBW : Hid _ := C0.keep HB.out k3
  obtain ⟨_, q0, q1, q2, q3⟩ := HBW.out
  have HR : Hid (∀ n, Calls Try.prog 82 #[cagg a1 n1 c1 a2 n2 c2 a3 n3 c3 pk, .slice b m cb] (w3.drewN n) fun e w' => ∃ a cap zss, e = .returned (.slice a n3 cap) ∧ SS w' a n3 zss ∧ (∀ j, j < n3 → same (zss.getD j []) ((runM xss ss os).getD j [])) ∧ Kept 0 0 w3 w') := fun n =>
    (l5run (w3.drewN n) a1 a2 a3 b n1 c1 n2 c2 n3 c3 m cb pk ins ss os xss (CS.keep HF.out (Kept.trans k3 (kept_drewN 0 0 w3 n))) (SS.keep HS.out (Kept.trans k3 (kept_drewN 0 0 w3 n))) HW.out HV.out h2).mono fun e w' ⟨a, cap, zss, r1, r2, r3, r4⟩ => ⟨a, cap, zss, r1, r2, r3, Kept.trans (kept_drewN 0 0 w3 n) r4⟩
  have HK3 : Hid _ := Kept.trans HK.out k3
  clear d3 k3 HY HK2 HF HS HW
  go_wp2_with fail
  go_region_held3 (fun w' => w'.cell? ⟨w.heap.size, 0, none⟩ = some (.slice a1 n1 c1) ∧ w'.cell? ⟨w.heap.size, 1, none⟩ = some (.slice a2 n2 c2) ∧ w'.cell? ⟨w.heap.size, 2, none⟩ = some (.slice a3 n3 c3) ∧ w'.cell? ⟨w.heap.size, 3, none⟩ = some (.int .i64 pk)) (go_keep)
    (first | (go_at_call 82; refine Calls.mono (HR.out 1) ?_; rintro e w5 ⟨a, cap, zss, rfl, r1, r2, r3⟩; obtain ⟨_, m0, m1', m2', m3'⟩ := C0.keep HBW.out r3))
  all_goals
    go_wp2
    go_ret3
    exact ⟨a, cap, zss, rfl, r1, r2, Kept.trans HK3.out r3⟩
end Go.Proofs.Ytjaklhpdkfmipaa

namespace Go.Proofs.Ytjaklhpdkfmipaa
open Go.RowKit Flt
attribute [local go_sem] alloc_drewN setCell_drewN run_store_float

set_option maxRecDepth 100000 in
set_option maxHeartbeats 4000000 in
theorem markT (w : World) (g n cap : Nat) (k : Int) (vs : List Ste) (hF : TA w g n vs) (h0 : 0 ≤ k) (h1 : k ≤ 1099511627776) (hn : n ≤ 1099511627776) :
    Calls Try.prog 60 #[.slice (some ⟨g, 0, none⟩) n cap, .int .i64 k] w fun e w' => e = .returned (.int .i64 (k + 8 * n)) ∧ Kept g (g + 1) w w' := by
  go_enter Try.func60, Try.ntmps60
  go_wp2_with fail
  go_loopw [1, 5] (fun kv i W => ∃ j : Nat, j ≤ n ∧ i = .int .i64 j ∧ kv = .int .i64 (k + 8 * j) ∧ (∃ ys, TA W g n ys) ∧ Kept g (g + 1) w W) (fun _ i _ => n - (intOf i).toNat)
  case atStart => exact ⟨0, Nat.zero_le _, rfl, by simp, ⟨vs, hF⟩, Kept.refl _ _ _⟩
  case round =>
    obtain ⟨j, hj, rfl, rfl, ⟨ys, hFW⟩, hKW⟩ := hrel
    by_cases hlt : j < n
    · obtain ⟨d0, d1, d2, d3, d4, d5, d6, d7⟩ := hFW.at_ j hlt
      have c3 := hFW.free
      generalize hkk : k + 8 * (j : Int) = kk
      have b0 : 0 ≤ kk := by omega
      have b1 : kk ≤ 10995116277760 := by omega
      have R1 : Hid _ := hFW.step j hlt ⟨kk, kk + 1, kk + 1 + 1, kk + 1 + 1 + 1, kk + 1 + 1 + 1 + 1, kk + 1 + 1 + 1 + 1 + 1, kk + 1 + 1 + 1 + 1 + 1 + 1, floatOfInt .f64 (kk + 1 + 1 + 1 + 1 + 1 + 1 + 1)⟩
      have R2 : Hid _ := hKW.trans (put8_kept wr g (j * 8) ⟨kk, kk + 1, kk + 1 + 1, kk + 1 + 1 + 1, kk + 1 + 1 + 1 + 1, kk + 1 + 1 + 1 + 1 + 1, kk + 1 + 1 + 1 + 1 + 1 + 1, floatOfInt .f64 (kk + 1 + 1 + 1 + 1 + 1 + 1 + 1)⟩)
      have R3 : Hid (k + 8 * (j : Int) = kk) := hkk
      clear hFW hKW hF hkk
      go_wp2
      go_roundw
      case rel => exact ⟨j + 1, by omega, by go_num, by have := R3.out; congr 1; omega, ⟨_, R1.out⟩, R2.out⟩
      case measure => simp [intOf]; omega
    · obtain rfl : j = n := by omega
      clear hF hFW
      go_wp2
      go_ret
      exact ⟨rfl, hKW⟩
set_option maxRecDepth 100000 in
set_option maxHeartbeats 4000000 in
theorem markP (w : World) (g n cap : Nat) (k : Int) (vs : List Spn) (hF : PA w g n vs) (h0 : 0 ≤ k) (h1 : k ≤ 1099511627776) (hn : n ≤ 1099511627776) :
    Calls Try.prog 61 #[.slice (some ⟨g, 0, none⟩) n cap, .int .i64 k] w fun e w' => e = .returned (.int .i64 (k + 2 * n)) ∧ Kept g (g + 1) w w' := by
  go_enter Try.func61, Try.ntmps61
  go_wp2_with fail
  go_loopw [1, 5] (fun kv i W => ∃ j : Nat, j ≤ n ∧ i = .int .i64 j ∧ kv = .int .i64 (k + 2 * j) ∧ (∃ ys, PA W g n ys) ∧ Kept g (g + 1) w W) (fun _ i _ => n - (intOf i).toNat)
  case atStart => exact ⟨0, Nat.zero_le _, rfl, by simp, ⟨vs, hF⟩, Kept.refl _ _ _⟩
  case round =>
    obtain ⟨j, hj, rfl, rfl, ⟨ys, hFW⟩, hKW⟩ := hrel
    by_cases hlt : j < n
    · obtain ⟨d0, d1⟩ := hFW.at_ j hlt
      have c3 := hFW.free
      generalize hkk : k + 2 * (j : Int) = kk
      have b0 : 0 ≤ kk := by omega
      have b1 : kk ≤ 10995116277760 := by omega
      have R1 : Hid _ := hFW.step j hlt ⟨kk, kk + 1⟩
      have R2 : Hid _ := hKW.trans (put2p_kept wr g (j * 2) ⟨kk, kk + 1⟩)
      have R3 : Hid (k + 2 * (j : Int) = kk) := hkk
      clear hFW hKW hF hkk
      go_wp2
      go_roundw
      case rel => exact ⟨j + 1, by omega, by go_num, by have := R3.out; congr 1; omega, ⟨_, R1.out⟩, R2.out⟩
      case measure => simp [intOf]; omega
    · obtain rfl : j = n := by omega
      clear hF hFW
      go_wp2
      go_ret
      exact ⟨rfl, hKW⟩
set_option maxRecDepth 100000 in
set_option maxHeartbeats 2000000 in
theorem markC (w : World) (lo g1 g2 g3 n1 n2 n3 c1 c2 c3 : Nat) (pk : Int) (ins : List Int) (ss : List Ste) (os : List Spn) (f : CO w lo g1 g2 g3 n2 n3 ins ss os) (hn1 : ins.length = n1) (k : Int) (h0 : 0 ≤ k) (h1 : k ≤ 1000000000) (b1 : n1 ≤ 1048576) (b2 : n2 ≤ 1048576) (b3 : n3 ≤ 1048576) :
    Calls Try.prog 20 #[cagg (some ⟨g1, 0, none⟩) n1 c1 (some ⟨g2, 0, none⟩) n2 c2 (some ⟨g3, 0, none⟩) n3 c3 pk, .int .i64 k] w fun e w' => e = .returned (.int .i64 (k + n1 + 8 * n2 + 2 * n3)) ∧ Kept lo (g3 + 1) w w' := by
  have hK := kept_alloc lo (g3 + 1) w (cbox (some ⟨g1, 0, none⟩) n1 c1 (some ⟨g2, 0, none⟩) n2 c2 (some ⟨g3, 0, none⟩) n3 c3 pk)
  have hB := c0_start w (.slice (some ⟨g1, 0, none⟩) n1 c1) (.slice (some ⟨g2, 0, none⟩) n2 c2) (.slice (some ⟨g3, 0, none⟩) n3 c3) (.int .i64 pk)
  have ka := kept_alloc 0 0 w (cbox (some ⟨g1, 0, none⟩) n1 c1 (some ⟨g2, 0, none⟩) n2 c2 (some ⟨g3, 0, none⟩) n3 c3 pk)
  have fi := f.i.keep ka (.inr (.inr (Nat.le_refl _)))
  have fv := f.s.keep ka (.inr (.inr (Nat.le_refl _)))
  have fo := f.o.keep ka (.inr (.inr (Nat.le_refl _)))
  have HO : Hid (lo ≤ g1 ∧ g1 < g2 ∧ g2 < g3 ∧ g3 < w.heap.size) := ⟨f.l1, f.l2, f.l3, f.o.lt⟩
  have HFI : Hid _ := fi
  have HFV : Hid _ := fv
  have HFO : Hid _ := fo
  have HB : Hid _ := hB
  have HK : Hid _ := hK
  have HN : Hid (ins.length = n1) := hn1
  clear f ka fi fv fo hB hK hn1
  go_enter Try.func20, Try.ntmps20
  go_wp2_with fail
  generalize hw1 : w.alloc (cbox (some ⟨g1, 0, none⟩) n1 c1 (some ⟨g2, 0, none⟩) n2 c2 (some ⟨g3, 0, none⟩) n3 c3 pk) = w1 at HFI HFV HFO HB HK ⊢
  clear hw1
  refine Calls.mono (markI _ g1 n1 _ k ins HFI.out HN.out h0 (by omega) (by omega)) ?_
  rintro e w2 ⟨rfl, k2⟩
  have HFV2 : Hid _ := TA.keep HFV.out k2 (by have := HO.out; omega)
  have HFO2 : Hid _ := PA.keep HFO.out k2 (by have := HO.out; omega)
  have HB2 : Hid _ := C0.keepR HB.out k2 (by have := HO.out; omega)
  have HK2 : Hid _ := Kept.trans HK.out (k2.grow (by have := HO.out; omega) (by have := HO.out; omega))
  clear k2 HFI HFV HFO HB HK
  obtain ⟨_, q0, q1, q2, q3⟩ := HB2.out
  go_wp2_with fail
  clear q0 q1 q2 q3
  refine Calls.mono (markT _ g2 n2 _ (k + n1) ss HFV2.out (by omega) (by omega) (by omega)) ?_
  rintro e w3 ⟨rfl, k3⟩
  have HFO3 : Hid _ := PA.keep HFO2.out k3 (by have := HO.out; omega)
  have HB3 : Hid _ := C0.keepR HB2.out k3 (by have := HO.out; omega)
  have HK3 : Hid _ := Kept.trans HK2.out (k3.grow (by have := HO.out; omega) (by have := HO.out; omega))
  clear k3 HFV2 HFO2 HB2 HK2
  obtain ⟨_, q0, q1, q2, q3⟩ := HB3.out
  go_wp2_with fail
  clear q0 q1 q2 q3
  refine Calls.mono (markP _ g3 n3 _ (k + n1 + 8 * n2) os HFO3.out (by omega) (by omega) (by omega)) ?_
  rintro e w4 ⟨rfl, k4⟩
  have HK4 : Hid _ := Kept.trans HK3.out (k4.grow (by have := HO.out; omega) (by have := HO.out; omega))
  clear k4 HFO3 HB3 HK3
  go_wp2
  go_ret
  exact ⟨rfl, HK4.out⟩

end Go.Proofs.Ytjaklhpdkfmipaa
