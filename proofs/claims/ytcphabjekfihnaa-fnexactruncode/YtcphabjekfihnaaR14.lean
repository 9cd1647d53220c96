import Derived.Test.YtcphabjekfihnaaR13
namespace Go.Proofs.Ytcphabjekfihnaa
open Go.RowKit Flt
attribute [local go_sem] alloc_drewN setCell_drewN run_store_float

set_option maxRecDepth 100000 in
set_option maxHeartbeats 2000000 in
theorem specRun_bad (w : World) (a1 a2 a3 b : Option Addr) (n1 c1 n2 c2 n3 c3 m cb : Nat) (pk : Int) (ins : List Int) (ss : List Ste) (os : List Spn) (f : CS w a1 n1 a2 n2 a3 n3 ins ss os) (h : verM ins ss os pk = false) :
    Calls Try.prog 60 #[cagg a1 n1 c1 a2 n2 c2 a3 n3 c3 pk, .slice b m cb] w fun e w' => e = .returned (.tuple #[.slice none 0 0, .int .i64 0, .int .i64 1]) ∧ Kept 0 0 w w' := by
  have hK := kept_alloc 0 0 w (cbox a1 n1 c1 a2 n2 c2 a3 n3 c3 pk)
  have HX : Hid _ := specVer _ a1 a2 a3 n1 c1 n2 c2 n3 c3 pk ins ss os (f.keep hK)
  rw [h] at HX
  have HK : Hid _ := hK
  clear hK h f
  go_enter Try.func60, Try.ntmps60
  go_wp2_with fail
  refine Calls.mono HX.out ?_
  rintro e w2 ⟨rfl, k2⟩
  go_wp2
  go_ret3
  exact ⟨rfl, Kept.trans HK.out k2⟩
set_option maxRecDepth 100000 in
set_option maxHeartbeats 2000000 in
theorem specRun_shape (w : World) (a1 a2 a3 b : Option Addr) (n1 c1 n2 c2 n3 c3 m cb : Nat) (pk : Int) (ins : List Int) (ss : List Ste) (os : List Spn) (xss : List (List Nat)) (f : CS w a1 n1 a2 n2 a3 n3 ins ss os) (s : SS w b m xss) (h : verM ins ss os pk = true) (h2 : inB ins xss = false) (hn : n1 ≤ 1048576) :
    Calls Try.prog 60 #[cagg a1 n1 c1 a2 n2 c2 a3 n3 c3 pk, .slice b m cb] w fun e w' => e = .returned (.tuple #[.slice none 0 0, .int .i64 0, .int .i64 4]) ∧ Kept 0 0 w w' := by
  have hK := kept_alloc 0 0 w (cbox a1 n1 c1 a2 n2 c2 a3 n3 c3 pk)
  have HX : Hid _ := specVer _ a1 a2 a3 n1 c1 n2 c2 n3 c3 pk ins ss os (f.keep hK)
  rw [h] at HX
  have HB : Hid _ := c0_start w (.slice a1 n1 c1) (.slice a2 n2 c2) (.slice a3 n3 c3) (.int .i64 pk)
  have HF : Hid _ := f.keep hK
  have HS : Hid _ := s.keep hK
  have HK : Hid _ := hK
  clear hK h f s
  go_enter Try.func60, Try.ntmps60
  go_wp2_with fail
  refine Calls.mono HX.out ?_
  rintro e w2 ⟨rfl, k2⟩
  obtain ⟨_, q0, q1, q2, q3⟩ := C0.keep HB.out k2
  have HY : Hid _ := shapes w2 _ _ a1 b n1 m c1 cb ins xss (CS.keep HF.out k2).i (SS.keep HS.out k2) (by omega)
  rw [h2] at HY
  have HK2 : Hid _ := Kept.trans HK.out k2
  clear k2 HX HK HF HS HB
  go_wp2_with fail
  refine Calls.mono HY.out ?_
  rintro e w3 ⟨rfl, k3⟩
  go_wp2
  go_ret3
  exact ⟨rfl, Kept.trans HK2.out (k3.kept 0 0)⟩
set_option maxRecDepth 100000 in
set_option maxHeartbeats 2000000 in
theorem specRun_ok (w : World) (a1 a2 a3 b : Option Addr) (n1 c1 n2 c2 n3 c3 m cb : Nat) (pk : Int) (ins : List Int) (ss : List Ste) (os : List Spn) (xss : List (List Nat)) (f : CS w a1 n1 a2 n2 a3 n3 ins ss os) (s : SS w b m xss) (hw : Words xss) (h : verM ins ss os pk = true) (h2 : inB ins xss = true) (hn : n1 ≤ 1048576) :
    Calls Try.prog 60 #[cagg a1 n1 c1 a2 n2 c2 a3 n3 c3 pk, .slice b m cb] w fun e w' => ∃ a cap zss, e = .returned (.tuple #[.slice a n3 cap, .int .i64 (n2 : Int), .int .i64 0]) ∧ SS w' a n3 zss ∧ (∀ j, j < n3 → same (zss.getD j []) ((runM xss ss os).getD j [])) ∧ Kept 0 0 w w' := by
  have hK := kept_alloc 0 0 w (cbox a1 n1 c1 a2 n2 c2 a3 n3 c3 pk)
  have HX : Hid _ := specVer _ a1 a2 a3 n1 c1 n2 c2 n3 c3 pk ins ss os (f.keep hK)
  have HV : Hid _ := h
  rw [h] at HX
  have HB : Hid _ := c0_start w (.slice a1 n1 c1) (.slice a2 n2 c2) (.slice a3 n3 c3) (.int .i64 pk)
  have HF : Hid _ := f.keep hK
  have HS : Hid _ := s.keep hK
  have HK : Hid _ := hK
  have HW : Hid _ := hw
  clear hK h f s hw
  go_enter Try.func60, Try.ntmps60
  go_wp2_with fail
  refine Calls.mono HX.out ?_
  rintro e w2 ⟨rfl, k2⟩
  obtain ⟨_, q0, q1, q2, q3⟩ := C0.keep HB.out k2
  have HY : Hid _ := shapes w2 _ _ a1 b n1 m c1 cb ins xss (CS.keep HF.out k2).i (SS.keep HS.out k2) (by omega)
  rw [h2] at HY
  have HK2 : Hid _ := k2
  clear k2 HX
  go_wp2_with fail
  clear q0 q1 q2 q3
  refine Calls.mono HY.out ?_
  rintro e w3 ⟨rfl, d3⟩
  have k3 := Kept.trans HK2.out (d3.kept 0 0)
  have HBW : Hid _ := C0.keep HB.out k3
  obtain ⟨_, q0, q1, q2, q3⟩ := HBW.out
  have HR : Hid (∀ n, Calls Try.prog 142 #[cagg a1 n1 c1 a2 n2 c2 a3 n3 c3 pk, .slice b m cb] (w3.drewN n) fun e w' => ∃ a cap zss, e = .returned (.slice a n3 cap) ∧ SS w' a n3 zss ∧ (∀ j, j < n3 → same (zss.getD j []) ((runM xss ss os).getD j [])) ∧ Kept 0 0 w3 w') := fun n =>
    (l5run (w3.drewN n) a1 a2 a3 b n1 c1 n2 c2 n3 c3 m cb pk ins ss os xss (CS.keep HF.out (Kept.trans k3 (kept_drewN 0 0 w3 n))) (SS.keep HS.out (Kept.trans k3 (kept_drewN 0 0 w3 n))) HW.out HV.out h2).mono fun e w' ⟨a, cap, zss, r1, r2, r3, r4⟩ => ⟨a, cap, zss, r1, r2, r3, Kept.trans (kept_drewN 0 0 w3 n) r4⟩
  have HK3 : Hid _ := Kept.trans HK.out k3
  clear d3 k3 HY HK2 HF HS HW
  go_wp2_with fail
  go_region_held3 (fun w' => w'.cell? ⟨w.heap.size, 0, none⟩ = some (.slice a1 n1 c1) ∧ w'.cell? ⟨w.heap.size, 1, none⟩ = some (.slice a2 n2 c2) ∧ w'.cell? ⟨w.heap.size, 2, none⟩ = some (.slice a3 n3 c3) ∧ w'.cell? ⟨w.heap.size, 3, none⟩ = some (.int .i64 pk)) (go_keep)
    (first | (go_at_call 142; refine Calls.mono (HR.out 1) ?_; rintro e w5 ⟨a, cap, zss, rfl, r1, r2, r3⟩; obtain ⟨_, m0, m1', m2', m3'⟩ := C0.keep HBW.out r3))
  all_goals
    go_wp2
    go_ret3
    exact ⟨a, cap, zss, rfl, r1, r2, Kept.trans HK3.out r3⟩
end Go.Proofs.Ytcphabjekfihnaa
