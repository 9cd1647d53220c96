import Derived.Test.YtcphabjekfihnaaJ15
namespace Go.Proofs.Ytcphabjekfihnaa
open Go.RowKit Flt
attribute [local go_sem] alloc_drewN setCell_drewN run_store_float

set_option maxRecDepth 1000000 in
set_option maxHeartbeats 8000000 in
theorem mv_mula (w : World) (b1 b3 : Option Addr) (m1 e1 cap m3 e3 base g2 i : Nat) (vs : List Vl) (ln va vb vc : Int) (vk : Nat) (ta tb tc : Int) (h : w.ownsRow base 40 6 (.slice (some ⟨g2, 0, none⟩) vs.length cap) vs.length (flat vs)) (hb : base ≤ w.heap.size) (hn : vs.length ≤ 800000) (hi : i < vs.length) (hv : At w g2 (i * 6) ⟨4, ln, va, vb, vc, vk⟩) (ha : 0 ≤ ta) (hb' : tb < 0) :
    Calls Try.prog 152 #[gagg b1 m1 e1 (some ⟨g2, 0, none⟩) vs.length cap b3 m3 e3, .int .i64 (i : Int), .int .i64 ta, .int .i64 tb, .int .i64 tc] w fun e w' => MvP w b1 m1 e1 b3 m3 e3 vs base (some g2) ([vput 4 ln ta vb 0], ((vs.length : Nat) : Int)) e w' := by
  obtain ⟨v0, v1, v2, v3, v4, v5⟩ := hv
  have j0 : (0 : Int) ≤ (i : Int) := by omega
  have j1 : (i : Int) < (vs.length : Int) := by omega
  have hM : MS w _ b1 m1 e1 b3 m3 e3 vs ⟨4, ln, va, vb, vc, vk⟩ base (some g2) (some g2) (some ⟨g2, 0, none⟩) cap := MS.start ⟨4, ln, va, vb, vc, vk⟩ h hb
  have HM : Hid _ := hM
  have hbd : vs.length ≤ 900000 := by omega
  have hg2 : g2 < w.heap.size := (own_blkV h (k := g2) rfl).2
  have HO : Hid _ := h
  clear h hM
  go_enter Try.func152, Try.ntmps152
  go_wp2_with fail
  generalize ((w.alloc (gbox b1 m1 e1 (some ⟨g2, 0, none⟩) vs.length cap b3 m3 e3)).alloc nbox).alloc (vbox 4 ln va vb vc vk) = wB at HM ⊢
  clear v0 v1 v2 v3 v4 v5
  refine wp_on (mput17 HM hbd ?_)
  intro wc g' cap' _ _ _ _ _ _ _ _ _ HM1
  clear HM
  generalize hv1 : vs ++ [(vput 4 ln ta vb 0)] = vs1 at HM1
  have HV1 : Hid (vs1 = vs ++ [(vput 4 ln ta vb 0)]) := hv1.symm
  have HL1 : Hid (vs1.length = vs.length + 1) := by show _ = _; rw [HV1.out]; simp
  have hL1 : vs1.length ≤ vs.length + 1 := by rw [HL1.out]; omega
  have hbd : vs1.length ≤ 900000 := by omega
  clear hv1
  have HM : Hid _ := HM1.out
  clear HM1
  have s0 := HM.out.g.c0
  have s1 := HM.out.g.c1
  have s2 := HM.out.g.c2
  have HLast : Hid (∀ W : World, _) := fun W => l2last W b1 (some ⟨g', 0, none⟩) b3 m1 e1 vs1.length cap' m3 e3 (by omega)
  rw [show (vs1.length : Int) - 1 = ((vs.length : Nat) : Int) by have := HL1.out; omega] at HLast
  go_wp2_with fail
  refine Calls.mono (HLast.out _) ?_
  rintro e wl ⟨rfl, kl⟩
  have HM2 : Hid _ := MS.keep HM.out kl
  clear HM HLast kl s0 s1 s2
  have HM : Hid _ := HM2.out
  clear HM2
  have v0 := HM.out.v.c0
  have tp0 : (0 : Int) ≤ ((vs.length : Nat) : Int) := by omega
  have s0 := HM.out.g.c0
  have s1 := HM.out.g.c1
  have s2 := HM.out.g.c2
  obtain ⟨_, t0, t1, t2, x0, x1, x2⟩ := HM.out.b
  have R1 : Hid _ := MS.fin (vs0 := vs) (M := ([vput 4 ln ta vb 0], ((vs.length : Nat) : Int))) HM.out (Kept.refl 0 0 _) (by rw [HV1.out] <;> simp)
  go_wp2_with fail
  obtain ⟨y0, y1, y2⟩ := put3_0 wl (w.heap.size + 1) _ _ _ t0 t1 t2 (.slice b1 m1 e1) (.slice (some ⟨g', 0, none⟩) vs1.length cap') (.slice b3 m3 e3)
  refine bodyPost_ret (v := .tuple #[gagg b1 m1 e1 (some ⟨g', 0, none⟩) vs1.length cap' b3 m3 e3, .int .i64 ((vs.length : Nat) : Int)]) (by simp [results, Try.results152, go_sem, y0, y1, y2]) rfl R1.out
set_option maxRecDepth 1000000 in
set_option maxHeartbeats 8000000 in
theorem mv_mulb (w : World) (b1 b3 : Option Addr) (m1 e1 cap m3 e3 base g2 i : Nat) (vs : List Vl) (ln va vb vc : Int) (vk : Nat) (ta tb tc : Int) (h : w.ownsRow base 40 6 (.slice (some ⟨g2, 0, none⟩) vs.length cap) vs.length (flat vs)) (hb : base ≤ w.heap.size) (hn : vs.length ≤ 800000) (hi : i < vs.length) (hv : At w g2 (i * 6) ⟨4, ln, va, vb, vc, vk⟩) (ha : ta < 0) (hb' : 0 ≤ tb) :
    Calls Try.prog 152 #[gagg b1 m1 e1 (some ⟨g2, 0, none⟩) vs.length cap b3 m3 e3, .int .i64 (i : Int), .int .i64 ta, .int .i64 tb, .int .i64 tc] w fun e w' => MvP w b1 m1 e1 b3 m3 e3 vs base (some g2) ([vput 4 ln va tb 0], ((vs.length : Nat) : Int)) e w' := by
  obtain ⟨v0, v1, v2, v3, v4, v5⟩ := hv
  have j0 : (0 : Int) ≤ (i : Int) := by omega
  have j1 : (i : Int) < (vs.length : Int) := by omega
  have hM : MS w _ b1 m1 e1 b3 m3 e3 vs ⟨4, ln, va, vb, vc, vk⟩ base (some g2) (some g2) (some ⟨g2, 0, none⟩) cap := MS.start ⟨4, ln, va, vb, vc, vk⟩ h hb
  have HM : Hid _ := hM
  have hbd : vs.length ≤ 900000 := by omega
  have hg2 : g2 < w.heap.size := (own_blkV h (k := g2) rfl).2
  have HO : Hid _ := h
  clear h hM
  go_enter Try.func152, Try.ntmps152
  go_wp2_with fail
  generalize ((w.alloc (gbox b1 m1 e1 (some ⟨g2, 0, none⟩) vs.length cap b3 m3 e3)).alloc nbox).alloc (vbox 4 ln va vb vc vk) = wB at HM ⊢
  clear v0 v1 v2 v3 v4 v5
  refine wp_on (mput20 HM hbd ?_)
  intro wc g' cap' _ _ _ _ _ _ _ HM1
  clear HM
  generalize hv1 : vs ++ [(vput 4 ln va tb 0)] = vs1 at HM1
  have HV1 : Hid (vs1 = vs ++ [(vput 4 ln va tb 0)]) := hv1.symm
  have HL1 : Hid (vs1.length = vs.length + 1) := by show _ = _; rw [HV1.out]; simp
  have hL1 : vs1.length ≤ vs.length + 1 := by rw [HL1.out]; omega
  have hbd : vs1.length ≤ 900000 := by omega
  clear hv1
  have HM : Hid _ := HM1.out
  clear HM1
  have s0 := HM.out.g.c0
  have s1 := HM.out.g.c1
  have s2 := HM.out.g.c2
  have HLast : Hid (∀ W : World, _) := fun W => l2last W b1 (some ⟨g', 0, none⟩) b3 m1 e1 vs1.length cap' m3 e3 (by omega)
  rw [show (vs1.length : Int) - 1 = ((vs.length : Nat) : Int) by have := HL1.out; omega] at HLast
  go_wp2_with fail
  refine Calls.mono (HLast.out _) ?_
  rintro e wl ⟨rfl, kl⟩
  have HM2 : Hid _ := MS.keep HM.out kl
  clear HM HLast kl s0 s1 s2
  have HM : Hid _ := HM2.out
  clear HM2
  have v0 := HM.out.v.c0
  have tp0 : (0 : Int) ≤ ((vs.length : Nat) : Int) := by omega
  have s0 := HM.out.g.c0
  have s1 := HM.out.g.c1
  have s2 := HM.out.g.c2
  obtain ⟨_, t0, t1, t2, x0, x1, x2⟩ := HM.out.b
  have R1 : Hid _ := MS.fin (vs0 := vs) (M := ([vput 4 ln va tb 0], ((vs.length : Nat) : Int))) HM.out (Kept.refl 0 0 _) (by rw [HV1.out] <;> simp)
  go_wp2_with fail
  obtain ⟨y0, y1, y2⟩ := put3_0 wl (w.heap.size + 1) _ _ _ t0 t1 t2 (.slice b1 m1 e1) (.slice (some ⟨g', 0, none⟩) vs1.length cap') (.slice b3 m3 e3)
  refine bodyPost_ret (v := .tuple #[gagg b1 m1 e1 (some ⟨g', 0, none⟩) vs1.length cap' b3 m3 e3, .int .i64 ((vs.length : Nat) : Int)]) (by simp [results, Try.results152, go_sem, y0, y1, y2]) rfl R1.out
set_option maxRecDepth 1000000 in
set_option maxHeartbeats 8000000 in
theorem mv_exp (w : World) (b1 b3 : Option Addr) (m1 e1 cap m3 e3 base g2 i : Nat) (vs : List Vl) (ln va vb vc : Int) (vk : Nat) (ta tb tc : Int) (h : w.ownsRow base 40 6 (.slice (some ⟨g2, 0, none⟩) vs.length cap) vs.length (flat vs)) (hb : base ≤ w.heap.size) (hn : vs.length ≤ 800000) (hi : i < vs.length) (hv : At w g2 (i * 6) ⟨13, ln, va, vb, vc, vk⟩) (ha : 0 ≤ ta) :
    Calls Try.prog 152 #[gagg b1 m1 e1 (some ⟨g2, 0, none⟩) vs.length cap b3 m3 e3, .int .i64 (i : Int), .int .i64 ta, .int .i64 tb, .int .i64 tc] w fun e w' => MvP w b1 m1 e1 b3 m3 e3 vs base (some g2) ([vput 4 ln ta (i : Int) 0], ((vs.length : Nat) : Int)) e w' := by
  obtain ⟨v0, v1, v2, v3, v4, v5⟩ := hv
  have j0 : (0 : Int) ≤ (i : Int) := by omega
  have j1 : (i : Int) < (vs.length : Int) := by omega
  have hM : MS w _ b1 m1 e1 b3 m3 e3 vs ⟨13, ln, va, vb, vc, vk⟩ base (some g2) (some g2) (some ⟨g2, 0, none⟩) cap := MS.start ⟨13, ln, va, vb, vc, vk⟩ h hb
  have HM : Hid _ := hM
  have hbd : vs.length ≤ 900000 := by omega
  have hg2 : g2 < w.heap.size := (own_blkV h (k := g2) rfl).2
  have HO : Hid _ := h
  clear h hM
  go_enter Try.func152, Try.ntmps152
  go_wp2_with fail
  generalize ((w.alloc (gbox b1 m1 e1 (some ⟨g2, 0, none⟩) vs.length cap b3 m3 e3)).alloc nbox).alloc (vbox 13 ln va vb vc vk) = wB at HM ⊢
  clear v0 v1 v2 v3 v4 v5
  refine wp_on (mput57 HM hbd ?_)
  intro wc g' cap' _ _ _ _ _ _ HM1
  clear HM
  generalize hv1 : vs ++ [(vput 4 ln ta (i : Int) 0)] = vs1 at HM1
  have HV1 : Hid (vs1 = vs ++ [(vput 4 ln ta (i : Int) 0)]) := hv1.symm
  have HL1 : Hid (vs1.length = vs.length + 1) := by show _ = _; rw [HV1.out]; simp
  have hL1 : vs1.length ≤ vs.length + 1 := by rw [HL1.out]; omega
  have hbd : vs1.length ≤ 900000 := by omega
  clear hv1
  have HM : Hid _ := HM1.out
  clear HM1
  go_wp2_with fail
  refine wp_on (mret59 HM hbd (show (vs1.length : Int) - 1 = ((vs.length : Nat) : Int) by have := HL1.out; omega) ?_)
  intro W3 _ _ _ y0 y1 y2 HR
  have R1 : Hid (MvP w b1 m1 e1 b3 m3 e3 vs base (some g2) ([vput 4 ln ta (i : Int) 0], ((vs.length : Nat) : Int)) (.returned (.tuple #[gagg b1 m1 e1 (some ⟨g', 0, none⟩) vs1.length cap' b3 m3 e3, .int .i64 ((vs.length : Nat) : Int)])) W3) := by
    obtain ⟨w3, k3, e3⟩ := HR.out
    rw [e3]
    exact MS.fin (vs0 := vs) (M := ([vput 4 ln ta (i : Int) 0], ((vs.length : Nat) : Int))) HM.out k3 (by rw [HV1.out] <;> simp)
  go_wp2_with fail
  refine bodyPost_ret (v := .tuple #[gagg b1 m1 e1 (some ⟨g', 0, none⟩) vs1.length cap' b3 m3 e3, .int .i64 ((vs.length : Nat) : Int)]) (by simp [results, Try.results152, go_sem, y0, y1, y2]) rfl R1.out
end Go.Proofs.Ytcphabjekfihnaa

namespace Go.Proofs.Ytcphabjekfihnaa
open Go.RowKit Flt
attribute [local go_sem] alloc_drewN setCell_drewN run_store_float

set_option maxRecDepth 1000000 in
set_option maxHeartbeats 8000000 in
theorem mv_divb (w : World) (b1 b3 : Option Addr) (m1 e1 cap m3 e3 base g2 i : Nat) (vs : List Vl) (ln va vb vc : Int) (vk : Nat) (ta tb tc : Int) (h : w.ownsRow base 40 6 (.slice (some ⟨g2, 0, none⟩) vs.length cap) vs.length (flat vs)) (hb : base ≤ w.heap.size) (hn : vs.length ≤ 800000) (hi : i < vs.length) (hv : At w g2 (i * 6) ⟨5, ln, va, vb, vc, vk⟩) (ha : ta < 0) (hb' : 0 ≤ tb) :
    Calls Try.prog 152 #[gagg b1 m1 e1 (some ⟨g2, 0, none⟩) vs.length cap b3 m3 e3, .int .i64 (i : Int), .int .i64 ta, .int .i64 tb, .int .i64 tc] w fun e w' => MvP w b1 m1 e1 b3 m3 e3 vs base (some g2) ([vput 4 ln (i : Int) tb 0, vput 5 ln ((vs.length : Nat) : Int) vb 0, vput 6 ln (((vs.length : Nat) : Int) + 1) 0 0], (((vs.length : Nat) : Int) + 2)) e w' := by
  obtain ⟨v0, v1, v2, v3, v4, v5⟩ := hv
  have j0 : (0 : Int) ≤ (i : Int) := by omega
  have j1 : (i : Int) < (vs.length : Int) := by omega
  have hM : MS w _ b1 m1 e1 b3 m3 e3 vs ⟨5, ln, va, vb, vc, vk⟩ base (some g2) (some g2) (some ⟨g2, 0, none⟩) cap := MS.start ⟨5, ln, va, vb, vc, vk⟩ h hb
  have HM : Hid _ := hM
  have hbd : vs.length ≤ 900000 := by omega
  have hg2 : g2 < w.heap.size := (own_blkV h (k := g2) rfl).2
  have HO : Hid _ := h
  clear h hM
  go_enter Try.func152, Try.ntmps152
  go_wp2_with fail
  generalize ((w.alloc (gbox b1 m1 e1 (some ⟨g2, 0, none⟩) vs.length cap b3 m3 e3)).alloc nbox).alloc (vbox 5 ln va vb vc vk) = wB at HM ⊢
  clear v0 v1 v2 v3 v4 v5
  refine wp_on (mput23 HM hbd ?_)
  intro wc g' cap' _ _ _ _ _ _ HM1
  clear HM
  generalize hv1 : vs ++ [(vput 4 ln (i : Int) tb 0)] = vs1 at HM1
  have HV1 : Hid (vs1 = vs ++ [(vput 4 ln (i : Int) tb 0)]) := hv1.symm
  have HL1 : Hid (vs1.length = vs.length + 1) := by show _ = _; rw [HV1.out]; simp
  have hL1 : vs1.length ≤ vs.length + 1 := by rw [HL1.out]; omega
  have hbd : vs1.length ≤ 900000 := by omega
  clear hv1
  have HM : Hid _ := HM1.out
  clear HM1
  go_wp2_with fail
  refine wp_on (mput24 HM hbd (show (vs1.length : Int) - 1 = ((vs.length : Nat) : Int) by have := HL1.out; omega) ?_)
  intro wc g' cap' _ _ _ _ _ _ _ _ HM1
  clear HM
  generalize hv2 : vs1 ++ [(vput 5 ln ((vs.length : Nat) : Int) vb 0)] = vs2 at HM1
  have HV2 : Hid (vs2 = vs1 ++ [(vput 5 ln ((vs.length : Nat) : Int) vb 0)]) := hv2.symm
  have HL2 : Hid (vs2.length = vs1.length + 1) := by show _ = _; rw [HV2.out]; simp
  have hL2 : vs2.length ≤ vs1.length + 1 := by rw [HL2.out]; omega
  have hbd : vs2.length ≤ 900000 := by omega
  clear hv2
  have HM : Hid _ := HM1.out
  clear HM1
  have s0 := HM.out.g.c0
  have s1 := HM.out.g.c1
  have s2 := HM.out.g.c2
  have HLast : Hid (∀ W : World, _) := fun W => l2last W b1 (some ⟨g', 0, none⟩) b3 m1 e1 vs2.length cap' m3 e3 (by omega)
  rw [show (vs2.length : Int) - 1 = (((vs.length : Nat) : Int) + 1) by have := HL1.out; have := HL2.out; omega] at HLast
  go_wp2_with fail
  refine Calls.mono (HLast.out _) ?_
  rintro e wl ⟨rfl, kl⟩
  have HM2 : Hid _ := MS.keep HM.out kl
  clear HM HLast kl s0 s1 s2
  have HM : Hid _ := HM2.out
  clear HM2
  have v0 := HM.out.v.c0
  have tp0 : (0 : Int) ≤ (((vs.length : Nat) : Int) + 1) := by omega
  go_wp2_with fail
  clear v0
  refine wp_on (mput33 HM hbd ?_)
  intro wc g' cap' _ _ _ _ _ HM1
  clear HM
  generalize hv3 : vs2 ++ [(vput 6 ln (((vs.length : Nat) : Int) + 1) 0 0)] = vs3 at HM1
  have HV3 : Hid (vs3 = vs2 ++ [(vput 6 ln (((vs.length : Nat) : Int) + 1) 0 0)]) := hv3.symm
  have HL3 : Hid (vs3.length = vs2.length + 1) := by show _ = _; rw [HV3.out]; simp
  have hL3 : vs3.length ≤ vs2.length + 1 := by rw [HL3.out]; omega
  have hbd : vs3.length ≤ 900000 := by omega
  clear hv3
  have HM : Hid _ := HM1.out
  clear HM1
  go_wp2_with fail
  refine wp_on (mret34 HM hbd (show (vs3.length : Int) - 1 = (((vs.length : Nat) : Int) + 2) by have := HL1.out; have := HL2.out; have := HL3.out; omega) ?_)
  intro W3 _ _ _ y0 y1 y2 HR
  have R1 : Hid (MvP w b1 m1 e1 b3 m3 e3 vs base (some g2) ([vput 4 ln (i : Int) tb 0, vput 5 ln ((vs.length : Nat) : Int) vb 0, vput 6 ln (((vs.length : Nat) : Int) + 1) 0 0], (((vs.length : Nat) : Int) + 2)) (.returned (.tuple #[gagg b1 m1 e1 (some ⟨g', 0, none⟩) vs3.length cap' b3 m3 e3, .int .i64 (((vs.length : Nat) : Int) + 2)])) W3) := by
    obtain ⟨w3, k3, e3⟩ := HR.out
    rw [e3]
    exact MS.fin (vs0 := vs) (M := ([vput 4 ln (i : Int) tb 0, vput 5 ln ((vs.length : Nat) : Int) vb 0, vput 6 ln (((vs.length : Nat) : Int) + 1) 0 0], (((vs.length : Nat) : Int) + 2))) HM.out k3 (by rw [HV3.out, HV2.out, HV1.out] <;> simp)
  go_wp2_with fail
  refine bodyPost_ret (v := .tuple #[gagg b1 m1 e1 (some ⟨g', 0, none⟩) vs3.length cap' b3 m3 e3, .int .i64 (((vs.length : Nat) : Int) + 2)]) (by simp [results, Try.results152, go_sem, y0, y1, y2]) rfl R1.out
end Go.Proofs.Ytcphabjekfihnaa
