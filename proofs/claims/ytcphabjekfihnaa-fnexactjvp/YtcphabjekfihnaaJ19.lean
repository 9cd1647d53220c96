import Derived.Test.YtcphabjekfihnaaJ15
namespace Go.Proofs.Ytcphabjekfihnaa
open Go.RowKit Flt
attribute [local go_sem] alloc_drewN setCell_drewN run_store_float

set_option maxRecDepth 1000000 in
set_option maxHeartbeats 8000000 in
theorem mv_div2 (w : World) (b1 b3 : Option Addr) (m1 e1 cap m3 e3 base g2 i : Nat) (vs : List Vl) (ln va vb vc : Int) (vk : Nat) (ta tb tc : Int) (h : w.ownsRow base 40 6 (.slice (some ⟨g2, 0, none⟩) vs.length cap) vs.length (flat vs)) (hb : base ≤ w.heap.size) (hn : vs.length ≤ 800000) (hi : i < vs.length) (hv : At w g2 (i * 6) ⟨5, ln, va, vb, vc, vk⟩) (ha : 0 ≤ ta) (hb' : 0 ≤ tb) :
    Calls Try.prog 152 #[gagg b1 m1 e1 (some ⟨g2, 0, none⟩) vs.length cap b3 m3 e3, .int .i64 (i : Int), .int .i64 ta, .int .i64 tb, .int .i64 tc] w fun e w' => MvP w b1 m1 e1 b3 m3 e3 vs base (some g2) ([vput 5 ln ta vb 0, vput 4 ln (i : Int) tb 0, vput 5 ln (((vs.length : Nat) : Int) + 1) vb 0, vput 3 ln ((vs.length : Nat) : Int) (((vs.length : Nat) : Int) + 2) 0], (((vs.length : Nat) : Int) + 3)) e w' := by
  obtain ⟨v0, v1, v2, v3, v4, v5⟩ := hv
  have j0 : (0 : Int) ≤ (i : Int) := by omega
  have j1 : (i : Int) < (vs.length : Int) := by omega
  have hM : MS w _ b1 m1 e1 b3 m3 e3 vs ⟨5, ln, va, vb, vc, vk⟩ base (some g2) (some g2) (some ⟨g2, 0, none⟩) cap := MS.start ⟨5, ln, va, vb, vc, vk⟩ h hb
  have HM : Hid _ := hM
  have hbd : vs.length ≤ 900000 := by omega
  have hg2 : g2 < w.heap.size := (own_blkV h (k := g2) rfl).2
  have HO : Hid _ := h
  clear h hM
  go_enter Try.func152, Try.ntmps152
  go_wp2_with fail
  generalize ((w.alloc (gbox b1 m1 e1 (some ⟨g2, 0, none⟩) vs.length cap b3 m3 e3)).alloc nbox).alloc (vbox 5 ln va vb vc vk) = wB at HM ⊢
  clear v0 v1 v2 v3 v4 v5
  refine wp_on (mput17 HM hbd ?_)
  intro wc g' cap' _ _ _ _ _ _ _ _ _ HM1
  clear HM
  generalize hv1 : vs ++ [(vput 5 ln ta vb 0)] = vs1 at HM1
  have HV1 : Hid (vs1 = vs ++ [(vput 5 ln ta vb 0)]) := hv1.symm
  have HL1 : Hid (vs1.length = vs.length + 1) := by show _ = _; rw [HV1.out]; simp
  have hL1 : vs1.length ≤ vs.length + 1 := by rw [HL1.out]; omega
  have hbd : vs1.length ≤ 900000 := by omega
  clear hv1
  have HM : Hid _ := HM1.out
  clear HM1
  have s0 := HM.out.g.c0
  have s1 := HM.out.g.c1
  have s2 := HM.out.g.c2
  have HLast : Hid (∀ W : World, _) := fun W => l2last W b1 (some ⟨g', 0, none⟩) b3 m1 e1 vs1.length cap' m3 e3 (by omega)
  rw [show (vs1.length : Int) - 1 = ((vs.length : Nat) : Int) by have := HL1.out; omega] at HLast
  go_wp2_with fail
  refine Calls.mono (HLast.out _) ?_
  rintro e wl ⟨rfl, kl⟩
  have HM2 : Hid _ := MS.keep HM.out kl
  clear HM HLast kl s0 s1 s2
  have HM : Hid _ := HM2.out
  clear HM2
  have v0 := HM.out.v.c0
  go_wp2_with fail
  clear v0
  refine wp_on (mput23 HM hbd ?_)
  intro wc g' cap' _ _ _ _ _ _ HM1
  clear HM
  generalize hv2 : vs1 ++ [(vput 4 ln (i : Int) tb 0)] = vs2 at HM1
  have HV2 : Hid (vs2 = vs1 ++ [(vput 4 ln (i : Int) tb 0)]) := hv2.symm
  have HL2 : Hid (vs2.length = vs1.length + 1) := by show _ = _; rw [HV2.out]; simp
  have hL2 : vs2.length ≤ vs1.length + 1 := by rw [HL2.out]; omega
  have hbd : vs2.length ≤ 900000 := by omega
  clear hv2
  have HM : Hid _ := HM1.out
  clear HM1
  go_wp2_with fail
  refine wp_on (mput24 HM hbd (show (vs2.length : Int) - 1 = (((vs.length : Nat) : Int) + 1) by have := HL1.out; have := HL2.out; omega) ?_)
  intro wc g' cap' _ _ _ _ _ _ _ _ HM1
  clear HM
  generalize hv3 : vs2 ++ [(vput 5 ln (((vs.length : Nat) : Int) + 1) vb 0)] = vs3 at HM1
  have HV3 : Hid (vs3 = vs2 ++ [(vput 5 ln (((vs.length : Nat) : Int) + 1) vb 0)]) := hv3.symm
  have HL3 : Hid (vs3.length = vs2.length + 1) := by show _ = _; rw [HV3.out]; simp
  have hL3 : vs3.length ≤ vs2.length + 1 := by rw [HL3.out]; omega
  have hbd : vs3.length ≤ 900000 := by omega
  clear hv3
  have HM : Hid _ := HM1.out
  clear HM1
  have s0 := HM.out.g.c0
  have s1 := HM.out.g.c1
  have s2 := HM.out.g.c2
  have HLast : Hid (∀ W : World, _) := fun W => l2last W b1 (some ⟨g', 0, none⟩) b3 m1 e1 vs3.length cap' m3 e3 (by omega)
  rw [show (vs3.length : Int) - 1 = (((vs.length : Nat) : Int) + 2) by have := HL1.out; have := HL2.out; have := HL3.out; omega] at HLast
  go_wp2_with fail
  refine Calls.mono (HLast.out _) ?_
  rintro e wl ⟨rfl, kl⟩
  have HM2 : Hid _ := MS.keep HM.out kl
  clear HM HLast kl s0 s1 s2
  have HM : Hid _ := HM2.out
  clear HM2
  have v0 := HM.out.v.c0
  have tp0 : (0 : Int) ≤ ((vs.length : Nat) : Int) := by omega
  have tp1 : (0 : Int) ≤ (((vs.length : Nat) : Int) + 2) := by omega
  go_wp2_with fail
  clear v0
  refine wp_on (mput30 HM hbd ?_)
  intro wc g' cap' _ _ _ _ _ _ _ HM1
  clear HM
  generalize hv4 : vs3 ++ [(vput 3 ln ((vs.length : Nat) : Int) (((vs.length : Nat) : Int) + 2) 0)] = vs4 at HM1
  have HV4 : Hid (vs4 = vs3 ++ [(vput 3 ln ((vs.length : Nat) : Int) (((vs.length : Nat) : Int) + 2) 0)]) := hv4.symm
  have HL4 : Hid (vs4.length = vs3.length + 1) := by show _ = _; rw [HV4.out]; simp
  have hL4 : vs4.length ≤ vs3.length + 1 := by rw [HL4.out]; omega
  have hbd : vs4.length ≤ 900000 := by omega
  clear hv4
  have HM : Hid _ := HM1.out
  clear HM1
  go_wp2_with fail
  refine wp_on (mret31 HM hbd (show (vs4.length : Int) - 1 = (((vs.length : Nat) : Int) + 3) by have := HL1.out; have := HL2.out; have := HL3.out; have := HL4.out; omega) ?_)
  intro W3 _ _ _ y0 y1 y2 HR
  have R1 : Hid (MvP w b1 m1 e1 b3 m3 e3 vs base (some g2) ([vput 5 ln ta vb 0, vput 4 ln (i : Int) tb 0, vput 5 ln (((vs.length : Nat) : Int) + 1) vb 0, vput 3 ln ((vs.length : Nat) : Int) (((vs.length : Nat) : Int) + 2) 0], (((vs.length : Nat) : Int) + 3)) (.returned (.tuple #[gagg b1 m1 e1 (some ⟨g', 0, none⟩) vs4.length cap' b3 m3 e3, .int .i64 (((vs.length : Nat) : Int) + 3)])) W3) := by
    obtain ⟨w3, k3, e3⟩ := HR.out
    rw [e3]
    exact MS.fin (vs0 := vs) (M := ([vput 5 ln ta vb 0, vput 4 ln (i : Int) tb 0, vput 5 ln (((vs.length : Nat) : Int) + 1) vb 0, vput 3 ln ((vs.length : Nat) : Int) (((vs.length : Nat) : Int) + 2) 0], (((vs.length : Nat) : Int) + 3))) HM.out k3 (by rw [HV4.out, HV3.out, HV2.out, HV1.out] <;> simp)
  go_wp2_with fail
  refine bodyPost_ret (v := .tuple #[gagg b1 m1 e1 (some ⟨g', 0, none⟩) vs4.length cap' b3 m3 e3, .int .i64 (((vs.length : Nat) : Int) + 3)]) (by simp [results, Try.results152, go_sem, y0, y1, y2]) rfl R1.out
end Go.Proofs.Ytcphabjekfihnaa

namespace Go.Proofs.Ytcphabjekfihnaa
open Go.RowKit Flt
attribute [local go_sem] alloc_drewN setCell_drewN run_store_float

set_option maxRecDepth 1000000 in
set_option maxHeartbeats 8000000 in
theorem mv_maxa (w : World) (b1 b3 : Option Addr) (m1 e1 cap m3 e3 base g2 i : Nat) (vs : List Vl) (ln va vb vc : Int) (vk : Nat) (ta tb tc : Int) (h : w.ownsRow base 40 6 (.slice (some ⟨g2, 0, none⟩) vs.length cap) vs.length (flat vs)) (hb : base ≤ w.heap.size) (hn : vs.length ≤ 800000) (hi : i < vs.length) (hv : At w g2 (i * 6) ⟨7, ln, va, vb, vc, vk⟩) (ha : 0 ≤ ta) (hb' : -1 ≤ tb) :
    Calls Try.prog 152 #[gagg b1 m1 e1 (some ⟨g2, 0, none⟩) vs.length cap b3 m3 e3, .int .i64 (i : Int), .int .i64 ta, .int .i64 tb, .int .i64 tc] w fun e w' => MvP w b1 m1 e1 b3 m3 e3 vs base (some g2) ([vput 3 ln va vb 0] ++ (chM ln ((vs.length : Nat) : Int) ta tb (vs.length + 1)).1, (chM ln ((vs.length : Nat) : Int) ta tb (vs.length + 1)).2) e w' := by
  obtain ⟨v0, v1, v2, v3, v4, v5⟩ := hv
  have j0 : (0 : Int) ≤ (i : Int) := by omega
  have j1 : (i : Int) < (vs.length : Int) := by omega
  have hM : MS w _ b1 m1 e1 b3 m3 e3 vs ⟨7, ln, va, vb, vc, vk⟩ base (some g2) (some g2) (some ⟨g2, 0, none⟩) cap := MS.start ⟨7, ln, va, vb, vc, vk⟩ h hb
  have HM : Hid _ := hM
  have hbd : vs.length ≤ 900000 := by omega
  have hg2 : g2 < w.heap.size := (own_blkV h (k := g2) rfl).2
  have HO : Hid _ := h
  clear h hM
  go_enter Try.func152, Try.ntmps152
  go_wp2_with fail
  generalize ((w.alloc (gbox b1 m1 e1 (some ⟨g2, 0, none⟩) vs.length cap b3 m3 e3)).alloc nbox).alloc (vbox 7 ln va vb vc vk) = wB at HM ⊢
  clear v0 v1 v2 v3 v4 v5
  refine wp_on (mput48 HM hbd ?_)
  intro wc g' cap' _ _ _ _ _ _ _ _ HM1
  clear HM
  generalize hv1 : vs ++ [(vput 3 ln va vb 0)] = vs1 at HM1
  have HV1 : Hid (vs1 = vs ++ [(vput 3 ln va vb 0)]) := hv1.symm
  have HL1 : Hid (vs1.length = vs.length + 1) := by show _ = _; rw [HV1.out]; simp
  have hL1 : vs1.length ≤ vs.length + 1 := by rw [HL1.out]; omega
  have hbd : vs1.length ≤ 900000 := by omega
  clear hv1
  have HM : Hid _ := HM1.out
  clear HM1
  have s0 := HM.out.g.c0
  have s1 := HM.out.g.c1
  have s2 := HM.out.g.c2
  have HLast : Hid (∀ W : World, _) := fun W => l2last W b1 (some ⟨g', 0, none⟩) b3 m1 e1 vs1.length cap' m3 e3 (by omega)
  rw [show (vs1.length : Int) - 1 = ((vs.length : Nat) : Int) by have := HL1.out; omega] at HLast
  go_wp2_with fail
  refine Calls.mono (HLast.out _) ?_
  rintro e wl ⟨rfl, kl⟩
  have HM2 : Hid _ := MS.keep HM.out kl
  clear HM HLast kl s0 s1 s2
  have HM : Hid _ := HM2.out
  clear HM2
  have s0 := HM.out.g.c0
  have s1 := HM.out.g.c1
  have s2 := HM.out.g.c2
  go_wp2_with fail
  refine Calls.mono (MS.orAny HM.out (Kept.refl 0 0 _) ta ln (by omega)) ?_
  rintro e w2 ⟨vs2, mm2, aa2, cc2, RR2, HV2, hL2, rfl, ⟨_, r0⟩, ⟨_, r1⟩, ⟨_, r2⟩, rf, _, hM2⟩
  have rf0 := rf 0
  have rf1 := rf 1
  have rf2 := rf 2
  clear rf HM s0 s1 s2
  have hbd : vs2.length ≤ 900000 := by omega
  go_wp2_with fail
  have HM0 : Hid (MS w (((w2.setCell ⟨w.heap.size, 0, none⟩ (.slice b1 m1 e1)).setCell ⟨w.heap.size, 1, none⟩ (.slice aa2 vs2.length cc2)).setCell ⟨w.heap.size, 2, none⟩ (.slice b3 m3 e3)) b1 m1 e1 b3 m3 e3 vs2 ⟨7, ln, va, vb, vc, vk⟩ base (some g2) RR2 aa2 cc2) := hM2.out
  generalize ((w2.setCell ⟨w.heap.size, 0, none⟩ (.slice b1 m1 e1)).setCell ⟨w.heap.size, 1, none⟩ (.slice aa2 vs2.length cc2)).setCell ⟨w.heap.size, 2, none⟩ (.slice b3 m3 e3) = wd at HM0 ⊢
  have HM : Hid _ := HM0.out
  clear HM0 hM2 r0 r1 r2 rf0 rf1 rf2
  have s0 := HM.out.g.c0
  have s1 := HM.out.g.c1
  have s2 := HM.out.g.c2
  go_wp2_with fail
  refine Calls.mono (MS.orAny HM.out (Kept.refl 0 0 _) tb ln (by omega)) ?_
  rintro e w2 ⟨vs3, mm3, aa3, cc3, RR3, HV3, hL3, rfl, ⟨_, r0⟩, ⟨_, r1⟩, ⟨_, r2⟩, rf, _, hM2⟩
  have rf0 := rf 0
  have rf1 := rf 1
  have rf2 := rf 2
  clear rf HM s0 s1 s2
  have hbd : vs3.length ≤ 900000 := by omega
  go_wp2_with fail
  have HM0 : Hid (MS w (((w2.setCell ⟨w.heap.size, 0, none⟩ (.slice b1 m1 e1)).setCell ⟨w.heap.size, 1, none⟩ (.slice aa3 vs3.length cc3)).setCell ⟨w.heap.size, 2, none⟩ (.slice b3 m3 e3)) b1 m1 e1 b3 m3 e3 vs3 ⟨7, ln, va, vb, vc, vk⟩ base (some g2) RR3 aa3 cc3) := hM2.out
  generalize ((w2.setCell ⟨w.heap.size, 0, none⟩ (.slice b1 m1 e1)).setCell ⟨w.heap.size, 1, none⟩ (.slice aa3 vs3.length cc3)).setCell ⟨w.heap.size, 2, none⟩ (.slice b3 m3 e3) = wd at HM0 ⊢
  have HM : Hid _ := HM0.out
  clear HM0 hM2 r0 r1 r2 rf0 rf1 rf2
  refine wp_on (mput52 HM hbd ?_)
  intro wc g' cap' _ _ _ _ _ _ _ HM1
  clear HM
  generalize hv4 : vs3 ++ [(vput 8 ln ((vs.length : Nat) : Int) mm2 mm3)] = vs4 at HM1
  have HV4 : Hid (vs4 = vs3 ++ [(vput 8 ln ((vs.length : Nat) : Int) mm2 mm3)]) := hv4.symm
  have HL4 : Hid (vs4.length = vs3.length + 1) := by show _ = _; rw [HV4.out]; simp
  have hL4 : vs4.length ≤ vs3.length + 1 := by rw [HL4.out]; omega
  have hbd : vs4.length ≤ 900000 := by omega
  clear hv4
  have HM : Hid _ := HM1.out
  clear HM1
  go_wp2_with fail
  have hE := max_eq (vs := vs) (ln := ln) (va := va) (vb := vb) (ta := ta) (tb := tb) (by omega) (by omega) HV1.out HV2.out HV3.out HV4.out
  have HE : Hid _ := hE
  clear hE
  refine wp_on (mret53 HM hbd (HE.out.2) ?_)
  intro W3 _ _ _ y0 y1 y2 HR
  have R1 : Hid (MvP w b1 m1 e1 b3 m3 e3 vs base (some g2) ([vput 3 ln va vb 0] ++ (chM ln ((vs.length : Nat) : Int) ta tb (vs.length + 1)).1, (chM ln ((vs.length : Nat) : Int) ta tb (vs.length + 1)).2) (.returned (.tuple #[gagg b1 m1 e1 (some ⟨g', 0, none⟩) vs4.length cap' b3 m3 e3, .int .i64 (chM ln ((vs.length : Nat) : Int) ta tb (vs.length + 1)).2])) W3) := by
    obtain ⟨w3, k3, e3⟩ := HR.out
    rw [e3]
    exact MS.fin (vs0 := vs) (M := ([vput 3 ln va vb 0] ++ (chM ln ((vs.length : Nat) : Int) ta tb (vs.length + 1)).1, (chM ln ((vs.length : Nat) : Int) ta tb (vs.length + 1)).2)) HM.out k3 HE.out.1
  go_wp2_with fail
  refine bodyPost_ret (v := .tuple #[gagg b1 m1 e1 (some ⟨g', 0, none⟩) vs4.length cap' b3 m3 e3, .int .i64 (chM ln ((vs.length : Nat) : Int) ta tb (vs.length + 1)).2]) (by simp [results, Try.results152, go_sem, y0, y1, y2]) rfl R1.out
set_option maxRecDepth 1000000 in
set_option maxHeartbeats 8000000 in
theorem mv_selb (w : World) (b1 b3 : Option Addr) (m1 e1 cap m3 e3 base g2 i : Nat) (vs : List Vl) (ln va vb vc : Int) (vk : Nat) (ta tb tc : Int) (h : w.ownsRow base 40 6 (.slice (some ⟨g2, 0, none⟩) vs.length cap) vs.length (flat vs)) (hb : base ≤ w.heap.size) (hn : vs.length ≤ 800000) (hi : i < vs.length) (hv : At w g2 (i * 6) ⟨8, ln, va, vb, vc, vk⟩) (hb' : 0 ≤ tb) (hc : -1 ≤ tc) :
    Calls Try.prog 152 #[gagg b1 m1 e1 (some ⟨g2, 0, none⟩) vs.length cap b3 m3 e3, .int .i64 (i : Int), .int .i64 ta, .int .i64 tb, .int .i64 tc] w fun e w' => MvP w b1 m1 e1 b3 m3 e3 vs base (some g2) (chM ln va tb tc vs.length) e w' := by
  obtain ⟨v0, v1, v2, v3, v4, v5⟩ := hv
  have j0 : (0 : Int) ≤ (i : Int) := by omega
  have j1 : (i : Int) < (vs.length : Int) := by omega
  have hM : MS w _ b1 m1 e1 b3 m3 e3 vs ⟨8, ln, va, vb, vc, vk⟩ base (some g2) (some g2) (some ⟨g2, 0, none⟩) cap := MS.start ⟨8, ln, va, vb, vc, vk⟩ h hb
  have HM : Hid _ := hM
  have hbd : vs.length ≤ 900000 := by omega
  have hg2 : g2 < w.heap.size := (own_blkV h (k := g2) rfl).2
  have HO : Hid _ := h
  clear h hM
  go_enter Try.func152, Try.ntmps152
  go_wp2_with fail
  generalize ((w.alloc (gbox b1 m1 e1 (some ⟨g2, 0, none⟩) vs.length cap b3 m3 e3)).alloc nbox).alloc (vbox 8 ln va vb vc vk) = wB at HM ⊢
  clear v0 v1 v2 v3 v4 v5
  have s0 := HM.out.g.c0
  have s1 := HM.out.g.c1
  have s2 := HM.out.g.c2
  refine Calls.mono (MS.orAny HM.out (Kept.refl 0 0 _) tb ln (by omega)) ?_
  rintro e w2 ⟨vs1, mm1, aa1, cc1, RR1, HV1, hL1, rfl, ⟨_, r0⟩, ⟨_, r1⟩, ⟨_, r2⟩, rf, _, hM2⟩
  have rf0 := rf 0
  have rf1 := rf 1
  have rf2 := rf 2
  clear rf HM s0 s1 s2
  have hbd : vs1.length ≤ 900000 := by omega
  go_wp2_with fail
  have HM0 : Hid (MS w (((w2.setCell ⟨w.heap.size, 0, none⟩ (.slice b1 m1 e1)).setCell ⟨w.heap.size, 1, none⟩ (.slice aa1 vs1.length cc1)).setCell ⟨w.heap.size, 2, none⟩ (.slice b3 m3 e3)) b1 m1 e1 b3 m3 e3 vs1 ⟨8, ln, va, vb, vc, vk⟩ base (some g2) RR1 aa1 cc1) := hM2.out
  generalize ((w2.setCell ⟨w.heap.size, 0, none⟩ (.slice b1 m1 e1)).setCell ⟨w.heap.size, 1, none⟩ (.slice aa1 vs1.length cc1)).setCell ⟨w.heap.size, 2, none⟩ (.slice b3 m3 e3) = wd at HM0 ⊢
  have HM : Hid _ := HM0.out
  clear HM0 hM2 r0 r1 r2 rf0 rf1 rf2
  have s0 := HM.out.g.c0
  have s1 := HM.out.g.c1
  have s2 := HM.out.g.c2
  go_wp2_with fail
  refine Calls.mono (MS.orAny HM.out (Kept.refl 0 0 _) tc ln (by omega)) ?_
  rintro e w2 ⟨vs2, mm2, aa2, cc2, RR2, HV2, hL2, rfl, ⟨_, r0⟩, ⟨_, r1⟩, ⟨_, r2⟩, rf, _, hM2⟩
  have rf0 := rf 0
  have rf1 := rf 1
  have rf2 := rf 2
  clear rf HM s0 s1 s2
  have hbd : vs2.length ≤ 900000 := by omega
  go_wp2_with fail
  have HM0 : Hid (MS w (((w2.setCell ⟨w.heap.size, 0, none⟩ (.slice b1 m1 e1)).setCell ⟨w.heap.size, 1, none⟩ (.slice aa2 vs2.length cc2)).setCell ⟨w.heap.size, 2, none⟩ (.slice b3 m3 e3)) b1 m1 e1 b3 m3 e3 vs2 ⟨8, ln, va, vb, vc, vk⟩ base (some g2) RR2 aa2 cc2) := hM2.out
  generalize ((w2.setCell ⟨w.heap.size, 0, none⟩ (.slice b1 m1 e1)).setCell ⟨w.heap.size, 1, none⟩ (.slice aa2 vs2.length cc2)).setCell ⟨w.heap.size, 2, none⟩ (.slice b3 m3 e3) = wd at HM0 ⊢
  have HM : Hid _ := HM0.out
  clear HM0 hM2 r0 r1 r2 rf0 rf1 rf2
  refine wp_on (mput52 HM hbd ?_)
  intro wc g' cap' _ _ _ _ _ _ _ HM1
  clear HM
  generalize hv3 : vs2 ++ [(vput 8 ln va mm1 mm2)] = vs3 at HM1
  have HV3 : Hid (vs3 = vs2 ++ [(vput 8 ln va mm1 mm2)]) := hv3.symm
  have HL3 : Hid (vs3.length = vs2.length + 1) := by show _ = _; rw [HV3.out]; simp
  have hL3 : vs3.length ≤ vs2.length + 1 := by rw [HL3.out]; omega
  have hbd : vs3.length ≤ 900000 := by omega
  clear hv3
  have HM : Hid _ := HM1.out
  clear HM1
  go_wp2_with fail
  have hE := sel_eq (vs := vs) (ln := ln) (va := va) (tb := tb) (tc := tc) (by omega) (by omega) HV1.out HV2.out HV3.out
  have HE : Hid _ := hE
  clear hE
  refine wp_on (mret53 HM hbd (HE.out.2) ?_)
  intro W3 _ _ _ y0 y1 y2 HR
  have R1 : Hid (MvP w b1 m1 e1 b3 m3 e3 vs base (some g2) (chM ln va tb tc vs.length) (.returned (.tuple #[gagg b1 m1 e1 (some ⟨g', 0, none⟩) vs3.length cap' b3 m3 e3, .int .i64 (chM ln va tb tc vs.length).2])) W3) := by
    obtain ⟨w3, k3, e3⟩ := HR.out
    rw [e3]
    exact MS.fin (vs0 := vs) (M := (chM ln va tb tc vs.length)) HM.out k3 HE.out.1
  go_wp2_with fail
  refine bodyPost_ret (v := .tuple #[gagg b1 m1 e1 (some ⟨g', 0, none⟩) vs3.length cap' b3 m3 e3, .int .i64 (chM ln va tb tc vs.length).2]) (by simp [results, Try.results152, go_sem, y0, y1, y2]) rfl R1.out
end Go.Proofs.Ytcphabjekfihnaa
