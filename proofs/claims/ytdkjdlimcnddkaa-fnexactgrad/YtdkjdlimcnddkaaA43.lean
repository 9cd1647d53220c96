import Derived.Test.YtdkjdlimcnddkaaA30
import Derived.Test.YtdkjdlimcnddkaaA35
import Derived.Test.YtdkjdlimcnddkaaA36
import Derived.Test.YtdkjdlimcnddkaaA38
namespace Go.Proofs.Ytdkjdlimcnddkaa
open Go.RowKit Flt
attribute [local go_sem] alloc_drewN setCell_drewN run_store_float

set_option maxRecDepth 1000000 in
set_option maxHeartbeats 8000000 in
theorem pt_div1 (w : World) (b1 b3 : Option Addr) (m1 e1 cap m3 e3 base g2 i : Nat) (vs : List Vl) (ln va vb vc : Int) (vk : Nat) (d : Int) (h : w.ownsRow base 64 6 (.slice (some ⟨g2, 0, none⟩) vs.length cap) vs.length (flat vs)) (hb : base ≤ w.heap.size) (hn : vs.length ≤ 800000) (hi : i < vs.length) (hv : At w g2 (i * 6) ⟨5, ln, va, vb, vc, vk⟩)  :
    Calls Try.prog 86 #[gagg b1 m1 e1 (some ⟨g2, 0, none⟩) vs.length cap b3 m3 e3, .int .i64 (i : Int), .int .i64 1, .int .i64 d] w fun e w' => PtP w b1 m1 e1 b3 m3 e3 vs base (some g2) ([vput 4 ln d (i : Int) 0, vput 5 ln ((vs.length : Nat) : Int) vb 0, vput 6 ln (((vs.length : Nat) : Int) + 1) 0 0], (((vs.length : Nat) : Int) + 2)) true e w' := by
  obtain ⟨v0, v1, v2, v3, v4, v5⟩ := hv
  have j0 : (0 : Int) ≤ (i : Int) := by omega
  have j1 : (i : Int) < (vs.length : Int) := by omega
  have hM : MS w _ b1 m1 e1 b3 m3 e3 vs ⟨5, ln, va, vb, vc, vk⟩ base (some g2) (some g2) (some ⟨g2, 0, none⟩) cap := MS.start ⟨5, ln, va, vb, vc, vk⟩ h hb
  have HM : Hid _ := hM
  have hbd : vs.length ≤ 900000 := by omega
  have hg2 : g2 < w.heap.size := (own_blkV h (k := g2) rfl).2
  have HO : Hid _ := h
  clear h hM
  go_enter Try.func86, Try.ntmps86
  go_wp2_with fail
  generalize ((w.alloc (gbox b1 m1 e1 (some ⟨g2, 0, none⟩) vs.length cap b3 m3 e3)).alloc nbox).alloc (vbox 5 ln va vb vc vk) = wB at HM ⊢
  clear v0 v1 v2 v3 v4 v5
  refine wp_on (pput12 HM hbd ?_)
  intro wc g' cap' _ _ _ _ _ _ HM1
  clear HM
  generalize hv1 : vs ++ [(vput 4 ln d (i : Int) 0)] = vs1 at HM1
  have HV1 : Hid (vs1 = vs ++ [(vput 4 ln d (i : Int) 0)]) := hv1.symm
  have HL1 : Hid (vs1.length = vs.length + 1) := by show _ = _; rw [HV1.out]; simp
  have hL1 : vs1.length ≤ vs.length + 1 := by rw [HL1.out]; omega
  have hbd : vs1.length ≤ 900000 := by omega
  clear hv1
  have HM : Hid _ := HM1.out
  clear HM1
  go_wp2_with fail
  refine wp_on (pput13 HM hbd (show (vs1.length : Int) - 1 = ((vs.length : Nat) : Int) by have := HL1.out; omega) ?_)
  intro wc g' cap' _ _ _ _ _ _ _ _ HM1
  clear HM
  generalize hv2 : vs1 ++ [(vput 5 ln ((vs.length : Nat) : Int) vb 0)] = vs2 at HM1
  have HV2 : Hid (vs2 = vs1 ++ [(vput 5 ln ((vs.length : Nat) : Int) vb 0)]) := hv2.symm
  have HL2 : Hid (vs2.length = vs1.length + 1) := by show _ = _; rw [HV2.out]; simp
  have hL2 : vs2.length ≤ vs1.length + 1 := by rw [HL2.out]; omega
  have hbd : vs2.length ≤ 900000 := by omega
  clear hv2
  have HM : Hid _ := HM1.out
  clear HM1
  go_wp2_with fail
  refine wp_on (pput14 HM hbd (show (vs2.length : Int) - 1 = (((vs.length : Nat) : Int) + 1) by have := HL1.out; have := HL2.out; omega) ?_)
  intro wc g' cap' _ _ _ _ _ _ HM1
  clear HM
  generalize hv3 : vs2 ++ [(vput 6 ln (((vs.length : Nat) : Int) + 1) 0 0)] = vs3 at HM1
  have HV3 : Hid (vs3 = vs2 ++ [(vput 6 ln (((vs.length : Nat) : Int) + 1) 0 0)]) := hv3.symm
  have HL3 : Hid (vs3.length = vs2.length + 1) := by show _ = _; rw [HV3.out]; simp
  have hL3 : vs3.length ≤ vs2.length + 1 := by rw [HL3.out]; omega
  have hbd : vs3.length ≤ 900000 := by omega
  clear hv3
  have HM : Hid _ := HM1.out
  clear HM1
  go_wp2_with fail
  refine wp_on (pret38 HM hbd (show (vs3.length : Int) - 1 = (((vs.length : Nat) : Int) + 2) by have := HL1.out; have := HL2.out; have := HL3.out; omega) ?_)
  intro W3 _ _ _ y0 y1 y2 HR
  have R1 : Hid (PtP w b1 m1 e1 b3 m3 e3 vs base (some g2) ([vput 4 ln d (i : Int) 0, vput 5 ln ((vs.length : Nat) : Int) vb 0, vput 6 ln (((vs.length : Nat) : Int) + 1) 0 0], (((vs.length : Nat) : Int) + 2)) true (.returned (.tuple #[gagg b1 m1 e1 (some ⟨g', 0, none⟩) vs3.length cap' b3 m3 e3, .int .i64 (((vs.length : Nat) : Int) + 2), .bool true])) W3) := by
    obtain ⟨w3, k3, e3⟩ := HR.out
    rw [e3]
    exact MS.finP (vs0 := vs) (M := ([vput 4 ln d (i : Int) 0, vput 5 ln ((vs.length : Nat) : Int) vb 0, vput 6 ln (((vs.length : Nat) : Int) + 1) 0 0], (((vs.length : Nat) : Int) + 2))) HM.out k3 (by rw [HV3.out, HV2.out, HV1.out] <;> simp) true
  go_wp2_with fail
  refine bodyPost_ret (v := .tuple #[gagg b1 m1 e1 (some ⟨g', 0, none⟩) vs3.length cap' b3 m3 e3, .int .i64 (((vs.length : Nat) : Int) + 2), .bool true]) (by simp [results, Try.results86, go_sem, y0, y1, y2]) rfl R1.out
set_option maxRecDepth 1000000 in
set_option maxHeartbeats 8000000 in
theorem pt_put (w : World) (b1 b3 : Option Addr) (m1 e1 cap m3 e3 base g2 i : Nat) (vs : List Vl) (ln va vb vc : Int) (vk : Nat) (d : Int) (h : w.ownsRow base 64 6 (.slice (some ⟨g2, 0, none⟩) vs.length cap) vs.length (flat vs)) (hb : base ≤ w.heap.size) (hn : vs.length ≤ 800000) (hi : i < vs.length) (hv : At w g2 (i * 6) ⟨12, ln, va, vb, vc, vk⟩)  :
    Calls Try.prog 86 #[gagg b1 m1 e1 (some ⟨g2, 0, none⟩) vs.length cap b3 m3 e3, .int .i64 (i : Int), .int .i64 0, .int .i64 d] w fun e w' => PtP w b1 m1 e1 b3 m3 e3 vs base (some g2) ([vput 11 1 d 0 vc], ((vs.length : Nat) : Int)) true e w' := by
  obtain ⟨v0, v1, v2, v3, v4, v5⟩ := hv
  have j0 : (0 : Int) ≤ (i : Int) := by omega
  have j1 : (i : Int) < (vs.length : Int) := by omega
  have hM : MS w _ b1 m1 e1 b3 m3 e3 vs ⟨12, ln, va, vb, vc, vk⟩ base (some g2) (some g2) (some ⟨g2, 0, none⟩) cap := MS.start ⟨12, ln, va, vb, vc, vk⟩ h hb
  have HM : Hid _ := hM
  have hbd : vs.length ≤ 900000 := by omega
  have hg2 : g2 < w.heap.size := (own_blkV h (k := g2) rfl).2
  have HO : Hid _ := h
  clear h hM
  go_enter Try.func86, Try.ntmps86
  go_wp2_with fail
  generalize ((w.alloc (gbox b1 m1 e1 (some ⟨g2, 0, none⟩) vs.length cap b3 m3 e3)).alloc nbox).alloc (vbox 12 ln va vb vc vk) = wB at HM ⊢
  clear v0 v1 v2 v3 v4 v5
  refine wp_on (pput36 HM hbd ?_)
  intro wc g' cap' _ _ _ _ _ _ HM1
  clear HM
  generalize hv1 : vs ++ [(vput 11 1 d 0 vc)] = vs1 at HM1
  have HV1 : Hid (vs1 = vs ++ [(vput 11 1 d 0 vc)]) := hv1.symm
  have HL1 : Hid (vs1.length = vs.length + 1) := by show _ = _; rw [HV1.out]; simp
  have hL1 : vs1.length ≤ vs.length + 1 := by rw [HL1.out]; omega
  have hbd : vs1.length ≤ 900000 := by omega
  clear hv1
  have HM : Hid _ := HM1.out
  clear HM1
  go_wp2_with fail
  refine wp_on (pret38 HM hbd (show (vs1.length : Int) - 1 = ((vs.length : Nat) : Int) by have := HL1.out; omega) ?_)
  intro W3 _ _ _ y0 y1 y2 HR
  have R1 : Hid (PtP w b1 m1 e1 b3 m3 e3 vs base (some g2) ([vput 11 1 d 0 vc], ((vs.length : Nat) : Int)) true (.returned (.tuple #[gagg b1 m1 e1 (some ⟨g', 0, none⟩) vs1.length cap' b3 m3 e3, .int .i64 ((vs.length : Nat) : Int), .bool true])) W3) := by
    obtain ⟨w3, k3, e3⟩ := HR.out
    rw [e3]
    exact MS.finP (vs0 := vs) (M := ([vput 11 1 d 0 vc], ((vs.length : Nat) : Int))) HM.out k3 (by rw [HV1.out] <;> simp) true
  go_wp2_with fail
  refine bodyPost_ret (v := .tuple #[gagg b1 m1 e1 (some ⟨g', 0, none⟩) vs1.length cap' b3 m3 e3, .int .i64 ((vs.length : Nat) : Int), .bool true]) (by simp [results, Try.results86, go_sem, y0, y1, y2]) rfl R1.out
end Go.Proofs.Ytdkjdlimcnddkaa
