import Derived.Test.YtdkjdlimcnddkaaA30
import Derived.Test.YtdkjdlimcnddkaaA34
import Derived.Test.YtdkjdlimcnddkaaA35
import Derived.Test.YtdkjdlimcnddkaaA41
namespace Go.Proofs.Ytdkjdlimcnddkaa
open Go.RowKit Flt
attribute [local go_sem] alloc_drewN setCell_drewN run_store_float

set_option maxRecDepth 1000000 in
set_option maxHeartbeats 8000000 in
theorem pt_add (w : World) (b1 b3 : Option Addr) (m1 e1 cap m3 e3 base g2 i : Nat) (vs : List Vl) (ln va vb vc : Int) (vk : Nat) (d : Int) (kk : Nat) (h : w.ownsRow base 64 6 (.slice (some ⟨g2, 0, none⟩) vs.length cap) vs.length (flat vs)) (hb : base ≤ w.heap.size) (hn : vs.length ≤ 800000) (hi : i < vs.length) (hv : At w g2 (i * 6) ⟨2, ln, va, vb, vc, vk⟩)  :
    Calls Try.prog 86 #[gagg b1 m1 e1 (some ⟨g2, 0, none⟩) vs.length cap b3 m3 e3, .int .i64 (i : Int), .int .i64 (kk : Int), .int .i64 d] w fun e w' => PtP w b1 m1 e1 b3 m3 e3 vs base (some g2) ([], d) true e w' := by
  obtain ⟨v0, v1, v2, v3, v4, v5⟩ := hv
  have j0 : (0 : Int) ≤ (i : Int) := by omega
  have j1 : (i : Int) < (vs.length : Int) := by omega
  have hM : MS w _ b1 m1 e1 b3 m3 e3 vs ⟨2, ln, va, vb, vc, vk⟩ base (some g2) (some g2) (some ⟨g2, 0, none⟩) cap := MS.start ⟨2, ln, va, vb, vc, vk⟩ h hb
  have HM : Hid _ := hM
  have hbd : vs.length ≤ 900000 := by omega
  have hg2 : g2 < w.heap.size := (own_blkV h (k := g2) rfl).2
  have HO : Hid _ := h
  clear h hM
  go_enter Try.func86, Try.ntmps86
  go_wp2_with fail
  refine bodyPost_ret (v := .tuple #[gagg b1 m1 e1 (some ⟨g2, 0, none⟩) vs.length cap b3 m3 e3, .int .i64 d, .bool true]) (by simp [results, Try.results86, go_sem]) rfl (pt_same HO.out (((kept_alloc 0 0 w _).trans (kept_alloc 0 0 _ _)).trans (kept_alloc 0 0 _ _)) _ _)
set_option maxRecDepth 1000000 in
set_option maxHeartbeats 8000000 in
theorem pt_sub0 (w : World) (b1 b3 : Option Addr) (m1 e1 cap m3 e3 base g2 i : Nat) (vs : List Vl) (ln va vb vc : Int) (vk : Nat) (d : Int) (h : w.ownsRow base 64 6 (.slice (some ⟨g2, 0, none⟩) vs.length cap) vs.length (flat vs)) (hb : base ≤ w.heap.size) (hn : vs.length ≤ 800000) (hi : i < vs.length) (hv : At w g2 (i * 6) ⟨3, ln, va, vb, vc, vk⟩)  :
    Calls Try.prog 86 #[gagg b1 m1 e1 (some ⟨g2, 0, none⟩) vs.length cap b3 m3 e3, .int .i64 (i : Int), .int .i64 0, .int .i64 d] w fun e w' => PtP w b1 m1 e1 b3 m3 e3 vs base (some g2) ([], d) true e w' := by
  obtain ⟨v0, v1, v2, v3, v4, v5⟩ := hv
  have j0 : (0 : Int) ≤ (i : Int) := by omega
  have j1 : (i : Int) < (vs.length : Int) := by omega
  have hM : MS w _ b1 m1 e1 b3 m3 e3 vs ⟨3, ln, va, vb, vc, vk⟩ base (some g2) (some g2) (some ⟨g2, 0, none⟩) cap := MS.start ⟨3, ln, va, vb, vc, vk⟩ h hb
  have HM : Hid _ := hM
  have hbd : vs.length ≤ 900000 := by omega
  have hg2 : g2 < w.heap.size := (own_blkV h (k := g2) rfl).2
  have HO : Hid _ := h
  clear h hM
  go_enter Try.func86, Try.ntmps86
  go_wp2_with fail
  refine bodyPost_ret (v := .tuple #[gagg b1 m1 e1 (some ⟨g2, 0, none⟩) vs.length cap b3 m3 e3, .int .i64 d, .bool true]) (by simp [results, Try.results86, go_sem]) rfl (pt_same HO.out (((kept_alloc 0 0 w _).trans (kept_alloc 0 0 _ _)).trans (kept_alloc 0 0 _ _)) _ _)
set_option maxRecDepth 1000000 in
set_option maxHeartbeats 8000000 in
theorem pt_sub1 (w : World) (b1 b3 : Option Addr) (m1 e1 cap m3 e3 base g2 i : Nat) (vs : List Vl) (ln va vb vc : Int) (vk : Nat) (d : Int) (h : w.ownsRow base 64 6 (.slice (some ⟨g2, 0, none⟩) vs.length cap) vs.length (flat vs)) (hb : base ≤ w.heap.size) (hn : vs.length ≤ 800000) (hi : i < vs.length) (hv : At w g2 (i * 6) ⟨3, ln, va, vb, vc, vk⟩)  :
    Calls Try.prog 86 #[gagg b1 m1 e1 (some ⟨g2, 0, none⟩) vs.length cap b3 m3 e3, .int .i64 (i : Int), .int .i64 1, .int .i64 d] w fun e w' => PtP w b1 m1 e1 b3 m3 e3 vs base (some g2) ([vput 6 ln d 0 0], ((vs.length : Nat) : Int)) true e w' := by
  obtain ⟨v0, v1, v2, v3, v4, v5⟩ := hv
  have j0 : (0 : Int) ≤ (i : Int) := by omega
  have j1 : (i : Int) < (vs.length : Int) := by omega
  have hM : MS w _ b1 m1 e1 b3 m3 e3 vs ⟨3, ln, va, vb, vc, vk⟩ base (some g2) (some g2) (some ⟨g2, 0, none⟩) cap := MS.start ⟨3, ln, va, vb, vc, vk⟩ h hb
  have HM : Hid _ := hM
  have hbd : vs.length ≤ 900000 := by omega
  have hg2 : g2 < w.heap.size := (own_blkV h (k := g2) rfl).2
  have HO : Hid _ := h
  clear h hM
  go_enter Try.func86, Try.ntmps86
  go_wp2_with fail
  generalize ((w.alloc (gbox b1 m1 e1 (some ⟨g2, 0, none⟩) vs.length cap b3 m3 e3)).alloc nbox).alloc (vbox 3 ln va vb vc vk) = wB at HM ⊢
  clear v0 v1 v2 v3 v4 v5
  refine wp_on (pput6 HM hbd ?_)
  intro wc g' cap' _ _ _ _ _ HM1
  clear HM
  generalize hv1 : vs ++ [(vput 6 ln d 0 0)] = vs1 at HM1
  have HV1 : Hid (vs1 = vs ++ [(vput 6 ln d 0 0)]) := hv1.symm
  have HL1 : Hid (vs1.length = vs.length + 1) := by show _ = _; rw [HV1.out]; simp
  have hL1 : vs1.length ≤ vs.length + 1 := by rw [HL1.out]; omega
  have hbd : vs1.length ≤ 900000 := by omega
  clear hv1
  have HM : Hid _ := HM1.out
  clear HM1
  go_wp2_with fail
  refine wp_on (pret38 HM hbd (show (vs1.length : Int) - 1 = ((vs.length : Nat) : Int) by have := HL1.out; omega) ?_)
  intro W3 _ _ _ y0 y1 y2 HR
  have R1 : Hid (PtP w b1 m1 e1 b3 m3 e3 vs base (some g2) ([vput 6 ln d 0 0], ((vs.length : Nat) : Int)) true (.returned (.tuple #[gagg b1 m1 e1 (some ⟨g', 0, none⟩) vs1.length cap' b3 m3 e3, .int .i64 ((vs.length : Nat) : Int), .bool true])) W3) := by
    obtain ⟨w3, k3, e3⟩ := HR.out
    rw [e3]
    exact MS.finP (vs0 := vs) (M := ([vput 6 ln d 0 0], ((vs.length : Nat) : Int))) HM.out k3 (by rw [HV1.out] <;> simp) true
  go_wp2_with fail
  refine bodyPost_ret (v := .tuple #[gagg b1 m1 e1 (some ⟨g', 0, none⟩) vs1.length cap' b3 m3 e3, .int .i64 ((vs.length : Nat) : Int), .bool true]) (by simp [results, Try.results86, go_sem, y0, y1, y2]) rfl R1.out
set_option maxRecDepth 1000000 in
set_option maxHeartbeats 8000000 in
theorem pt_neg (w : World) (b1 b3 : Option Addr) (m1 e1 cap m3 e3 base g2 i : Nat) (vs : List Vl) (ln va vb vc : Int) (vk : Nat) (d : Int) (h : w.ownsRow base 64 6 (.slice (some ⟨g2, 0, none⟩) vs.length cap) vs.length (flat vs)) (hb : base ≤ w.heap.size) (hn : vs.length ≤ 800000) (hi : i < vs.length) (hv : At w g2 (i * 6) ⟨6, ln, va, vb, vc, vk⟩)  :
    Calls Try.prog 86 #[gagg b1 m1 e1 (some ⟨g2, 0, none⟩) vs.length cap b3 m3 e3, .int .i64 (i : Int), .int .i64 0, .int .i64 d] w fun e w' => PtP w b1 m1 e1 b3 m3 e3 vs base (some g2) ([vput 6 ln d 0 0], ((vs.length : Nat) : Int)) true e w' := by
  obtain ⟨v0, v1, v2, v3, v4, v5⟩ := hv
  have j0 : (0 : Int) ≤ (i : Int) := by omega
  have j1 : (i : Int) < (vs.length : Int) := by omega
  have hM : MS w _ b1 m1 e1 b3 m3 e3 vs ⟨6, ln, va, vb, vc, vk⟩ base (some g2) (some g2) (some ⟨g2, 0, none⟩) cap := MS.start ⟨6, ln, va, vb, vc, vk⟩ h hb
  have HM : Hid _ := hM
  have hbd : vs.length ≤ 900000 := by omega
  have hg2 : g2 < w.heap.size := (own_blkV h (k := g2) rfl).2
  have HO : Hid _ := h
  clear h hM
  go_enter Try.func86, Try.ntmps86
  go_wp2_with fail
  generalize ((w.alloc (gbox b1 m1 e1 (some ⟨g2, 0, none⟩) vs.length cap b3 m3 e3)).alloc nbox).alloc (vbox 6 ln va vb vc vk) = wB at HM ⊢
  clear v0 v1 v2 v3 v4 v5
  refine wp_on (pput6 HM hbd ?_)
  intro wc g' cap' _ _ _ _ _ HM1
  clear HM
  generalize hv1 : vs ++ [(vput 6 ln d 0 0)] = vs1 at HM1
  have HV1 : Hid (vs1 = vs ++ [(vput 6 ln d 0 0)]) := hv1.symm
  have HL1 : Hid (vs1.length = vs.length + 1) := by show _ = _; rw [HV1.out]; simp
  have hL1 : vs1.length ≤ vs.length + 1 := by rw [HL1.out]; omega
  have hbd : vs1.length ≤ 900000 := by omega
  clear hv1
  have HM : Hid _ := HM1.out
  clear HM1
  go_wp2_with fail
  refine wp_on (pret38 HM hbd (show (vs1.length : Int) - 1 = ((vs.length : Nat) : Int) by have := HL1.out; omega) ?_)
  intro W3 _ _ _ y0 y1 y2 HR
  have R1 : Hid (PtP w b1 m1 e1 b3 m3 e3 vs base (some g2) ([vput 6 ln d 0 0], ((vs.length : Nat) : Int)) true (.returned (.tuple #[gagg b1 m1 e1 (some ⟨g', 0, none⟩) vs1.length cap' b3 m3 e3, .int .i64 ((vs.length : Nat) : Int), .bool true])) W3) := by
    obtain ⟨w3, k3, e3⟩ := HR.out
    rw [e3]
    exact MS.finP (vs0 := vs) (M := ([vput 6 ln d 0 0], ((vs.length : Nat) : Int))) HM.out k3 (by rw [HV1.out] <;> simp) true
  go_wp2_with fail
  refine bodyPost_ret (v := .tuple #[gagg b1 m1 e1 (some ⟨g', 0, none⟩) vs1.length cap' b3 m3 e3, .int .i64 ((vs.length : Nat) : Int), .bool true]) (by simp [results, Try.results86, go_sem, y0, y1, y2]) rfl R1.out
set_option maxRecDepth 1000000 in
set_option maxHeartbeats 8000000 in
theorem pt_sel0 (w : World) (b1 b3 : Option Addr) (m1 e1 cap m3 e3 base g2 i : Nat) (vs : List Vl) (ln va vb vc : Int) (vk : Nat) (d : Int) (h : w.ownsRow base 64 6 (.slice (some ⟨g2, 0, none⟩) vs.length cap) vs.length (flat vs)) (hb : base ≤ w.heap.size) (hn : vs.length ≤ 800000) (hi : i < vs.length) (hv : At w g2 (i * 6) ⟨8, ln, va, vb, vc, vk⟩)  :
    Calls Try.prog 86 #[gagg b1 m1 e1 (some ⟨g2, 0, none⟩) vs.length cap b3 m3 e3, .int .i64 (i : Int), .int .i64 0, .int .i64 d] w fun e w' => PtP w b1 m1 e1 b3 m3 e3 vs base (some g2) ([], 0) false e w' := by
  obtain ⟨v0, v1, v2, v3, v4, v5⟩ := hv
  have j0 : (0 : Int) ≤ (i : Int) := by omega
  have j1 : (i : Int) < (vs.length : Int) := by omega
  have hM : MS w _ b1 m1 e1 b3 m3 e3 vs ⟨8, ln, va, vb, vc, vk⟩ base (some g2) (some g2) (some ⟨g2, 0, none⟩) cap := MS.start ⟨8, ln, va, vb, vc, vk⟩ h hb
  have HM : Hid _ := hM
  have hbd : vs.length ≤ 900000 := by omega
  have hg2 : g2 < w.heap.size := (own_blkV h (k := g2) rfl).2
  have HO : Hid _ := h
  clear h hM
  go_enter Try.func86, Try.ntmps86
  go_wp2_with fail
  refine bodyPost_ret (v := .tuple #[gagg b1 m1 e1 (some ⟨g2, 0, none⟩) vs.length cap b3 m3 e3, .int .i64 0, .bool false]) (by simp [results, Try.results86, go_sem]) rfl (pt_same HO.out (((kept_alloc 0 0 w _).trans (kept_alloc 0 0 _ _)).trans (kept_alloc 0 0 _ _)) _ _)
end Go.Proofs.Ytdkjdlimcnddkaa

namespace Go.Proofs.Ytdkjdlimcnddkaa
open Go.RowKit Flt
attribute [local go_sem] alloc_drewN setCell_drewN run_store_float

set_option maxRecDepth 1000000 in
set_option maxHeartbeats 8000000 in
theorem pt_mul (w : World) (b1 b3 : Option Addr) (m1 e1 cap m3 e3 base g2 i : Nat) (vs : List Vl) (ln va vb vc : Int) (vk : Nat) (d : Int) (kk : Nat) (F : Int) (h : w.ownsRow base 64 6 (.slice (some ⟨g2, 0, none⟩) vs.length cap) vs.length (flat vs)) (hb : base ≤ w.heap.size) (hn : vs.length ≤ 800000) (hi : i < vs.length) (hv : At w g2 (i * 6) ⟨4, ln, va, vb, vc, vk⟩) (hkk : kk < 2) (hF : fld ⟨4, ln, va, vb, vc, vk⟩ (1 - kk) = F) :
    Calls Try.prog 86 #[gagg b1 m1 e1 (some ⟨g2, 0, none⟩) vs.length cap b3 m3 e3, .int .i64 (i : Int), .int .i64 (kk : Int), .int .i64 d] w fun e w' => PtP w b1 m1 e1 b3 m3 e3 vs base (some g2) ([vput 4 ln d F 0], ((vs.length : Nat) : Int)) true e w' := by
  obtain ⟨v0, v1, v2, v3, v4, v5⟩ := hv
  have j0 : (0 : Int) ≤ (i : Int) := by omega
  have j1 : (i : Int) < (vs.length : Int) := by omega
  have HF : Hid _ := hF
  clear hF
  have hM : MS w _ b1 m1 e1 b3 m3 e3 vs ⟨4, ln, va, vb, vc, vk⟩ base (some g2) (some g2) (some ⟨g2, 0, none⟩) cap := MS.start ⟨4, ln, va, vb, vc, vk⟩ h hb
  have HM : Hid _ := hM
  have hbd : vs.length ≤ 900000 := by omega
  have hg2 : g2 < w.heap.size := (own_blkV h (k := g2) rfl).2
  have HO : Hid _ := h
  clear h hM
  go_enter Try.func86, Try.ntmps86
  go_wp2_with fail
  generalize ((w.alloc (gbox b1 m1 e1 (some ⟨g2, 0, none⟩) vs.length cap b3 m3 e3)).alloc nbox).alloc (vbox 4 ln va vb vc vk) = wB at HM ⊢
  clear v0 v1 v2 v3 v4 v5
  refine wp_on (pput8 HM hbd hkk HF.out ?_)
  intro wc g' cap' _ _ _ _ _ _ _ _ _ HM1
  clear HM
  generalize hv1 : vs ++ [(vput 4 ln d F 0)] = vs1 at HM1
  have HV1 : Hid (vs1 = vs ++ [(vput 4 ln d F 0)]) := hv1.symm
  have HL1 : Hid (vs1.length = vs.length + 1) := by show _ = _; rw [HV1.out]; simp
  have hL1 : vs1.length ≤ vs.length + 1 := by rw [HL1.out]; omega
  have hbd : vs1.length ≤ 900000 := by omega
  clear hv1
  have HM : Hid _ := HM1.out
  clear HM1
  go_wp2_with fail
  refine wp_on (pret38 HM hbd (show (vs1.length : Int) - 1 = ((vs.length : Nat) : Int) by have := HL1.out; omega) ?_)
  intro W3 _ _ _ y0 y1 y2 HR
  have R1 : Hid (PtP w b1 m1 e1 b3 m3 e3 vs base (some g2) ([vput 4 ln d F 0], ((vs.length : Nat) : Int)) true (.returned (.tuple #[gagg b1 m1 e1 (some ⟨g', 0, none⟩) vs1.length cap' b3 m3 e3, .int .i64 ((vs.length : Nat) : Int), .bool true])) W3) := by
    obtain ⟨w3, k3, e3⟩ := HR.out
    rw [e3]
    exact MS.finP (vs0 := vs) (M := ([vput 4 ln d F 0], ((vs.length : Nat) : Int))) HM.out k3 (by rw [HV1.out] <;> simp) true
  go_wp2_with fail
  refine bodyPost_ret (v := .tuple #[gagg b1 m1 e1 (some ⟨g', 0, none⟩) vs1.length cap' b3 m3 e3, .int .i64 ((vs.length : Nat) : Int), .bool true]) (by simp [results, Try.results86, go_sem, y0, y1, y2]) rfl R1.out
set_option maxRecDepth 1000000 in
set_option maxHeartbeats 8000000 in
theorem pt_div0 (w : World) (b1 b3 : Option Addr) (m1 e1 cap m3 e3 base g2 i : Nat) (vs : List Vl) (ln va vb vc : Int) (vk : Nat) (d : Int) (h : w.ownsRow base 64 6 (.slice (some ⟨g2, 0, none⟩) vs.length cap) vs.length (flat vs)) (hb : base ≤ w.heap.size) (hn : vs.length ≤ 800000) (hi : i < vs.length) (hv : At w g2 (i * 6) ⟨5, ln, va, vb, vc, vk⟩)  :
    Calls Try.prog 86 #[gagg b1 m1 e1 (some ⟨g2, 0, none⟩) vs.length cap b3 m3 e3, .int .i64 (i : Int), .int .i64 0, .int .i64 d] w fun e w' => PtP w b1 m1 e1 b3 m3 e3 vs base (some g2) ([vput 5 ln d vb 0], ((vs.length : Nat) : Int)) true e w' := by
  obtain ⟨v0, v1, v2, v3, v4, v5⟩ := hv
  have j0 : (0 : Int) ≤ (i : Int) := by omega
  have j1 : (i : Int) < (vs.length : Int) := by omega
  have hM : MS w _ b1 m1 e1 b3 m3 e3 vs ⟨5, ln, va, vb, vc, vk⟩ base (some g2) (some g2) (some ⟨g2, 0, none⟩) cap := MS.start ⟨5, ln, va, vb, vc, vk⟩ h hb
  have HM : Hid _ := hM
  have hbd : vs.length ≤ 900000 := by omega
  have hg2 : g2 < w.heap.size := (own_blkV h (k := g2) rfl).2
  have HO : Hid _ := h
  clear h hM
  go_enter Try.func86, Try.ntmps86
  go_wp2_with fail
  generalize ((w.alloc (gbox b1 m1 e1 (some ⟨g2, 0, none⟩) vs.length cap b3 m3 e3)).alloc nbox).alloc (vbox 5 ln va vb vc vk) = wB at HM ⊢
  clear v0 v1 v2 v3 v4 v5
  refine wp_on (pput10 HM hbd ?_)
  intro wc g' cap' _ _ _ _ _ _ _ HM1
  clear HM
  generalize hv1 : vs ++ [(vput 5 ln d vb 0)] = vs1 at HM1
  have HV1 : Hid (vs1 = vs ++ [(vput 5 ln d vb 0)]) := hv1.symm
  have HL1 : Hid (vs1.length = vs.length + 1) := by show _ = _; rw [HV1.out]; simp
  have hL1 : vs1.length ≤ vs.length + 1 := by rw [HL1.out]; omega
  have hbd : vs1.length ≤ 900000 := by omega
  clear hv1
  have HM : Hid _ := HM1.out
  clear HM1
  go_wp2_with fail
  refine wp_on (pret38 HM hbd (show (vs1.length : Int) - 1 = ((vs.length : Nat) : Int) by have := HL1.out; omega) ?_)
  intro W3 _ _ _ y0 y1 y2 HR
  have R1 : Hid (PtP w b1 m1 e1 b3 m3 e3 vs base (some g2) ([vput 5 ln d vb 0], ((vs.length : Nat) : Int)) true (.returned (.tuple #[gagg b1 m1 e1 (some ⟨g', 0, none⟩) vs1.length cap' b3 m3 e3, .int .i64 ((vs.length : Nat) : Int), .bool true])) W3) := by
    obtain ⟨w3, k3, e3⟩ := HR.out
    rw [e3]
    exact MS.finP (vs0 := vs) (M := ([vput 5 ln d vb 0], ((vs.length : Nat) : Int))) HM.out k3 (by rw [HV1.out] <;> simp) true
  go_wp2_with fail
  refine bodyPost_ret (v := .tuple #[gagg b1 m1 e1 (some ⟨g', 0, none⟩) vs1.length cap' b3 m3 e3, .int .i64 ((vs.length : Nat) : Int), .bool true]) (by simp [results, Try.results86, go_sem, y0, y1, y2]) rfl R1.out
set_option maxRecDepth 1000000 in
set_option maxHeartbeats 8000000 in
theorem pt_exp (w : World) (b1 b3 : Option Addr) (m1 e1 cap m3 e3 base g2 i : Nat) (vs : List Vl) (ln va vb vc : Int) (vk : Nat) (d : Int) (h : w.ownsRow base 64 6 (.slice (some ⟨g2, 0, none⟩) vs.length cap) vs.length (flat vs)) (hb : base ≤ w.heap.size) (hn : vs.length ≤ 800000) (hi : i < vs.length) (hv : At w g2 (i * 6) ⟨13, ln, va, vb, vc, vk⟩)  :
    Calls Try.prog 86 #[gagg b1 m1 e1 (some ⟨g2, 0, none⟩) vs.length cap b3 m3 e3, .int .i64 (i : Int), .int .i64 0, .int .i64 d] w fun e w' => PtP w b1 m1 e1 b3 m3 e3 vs base (some g2) ([vput 4 ln d (i : Int) 0], ((vs.length : Nat) : Int)) true e w' := by
  obtain ⟨v0, v1, v2, v3, v4, v5⟩ := hv
  have j0 : (0 : Int) ≤ (i : Int) := by omega
  have j1 : (i : Int) < (vs.length : Int) := by omega
  have hM : MS w _ b1 m1 e1 b3 m3 e3 vs ⟨13, ln, va, vb, vc, vk⟩ base (some g2) (some g2) (some ⟨g2, 0, none⟩) cap := MS.start ⟨13, ln, va, vb, vc, vk⟩ h hb
  have HM : Hid _ := hM
  have hbd : vs.length ≤ 900000 := by omega
  have hg2 : g2 < w.heap.size := (own_blkV h (k := g2) rfl).2
  have HO : Hid _ := h
  clear h hM
  go_enter Try.func86, Try.ntmps86
  go_wp2_with fail
  generalize ((w.alloc (gbox b1 m1 e1 (some ⟨g2, 0, none⟩) vs.length cap b3 m3 e3)).alloc nbox).alloc (vbox 13 ln va vb vc vk) = wB at HM ⊢
  clear v0 v1 v2 v3 v4 v5
  refine wp_on (pput37 HM hbd ?_)
  intro wc g' cap' _ _ _ _ _ _ HM1
  clear HM
  generalize hv1 : vs ++ [(vput 4 ln d (i : Int) 0)] = vs1 at HM1
  have HV1 : Hid (vs1 = vs ++ [(vput 4 ln d (i : Int) 0)]) := hv1.symm
  have HL1 : Hid (vs1.length = vs.length + 1) := by show _ = _; rw [HV1.out]; simp
  have hL1 : vs1.length ≤ vs.length + 1 := by rw [HL1.out]; omega
  have hbd : vs1.length ≤ 900000 := by omega
  clear hv1
  have HM : Hid _ := HM1.out
  clear HM1
  go_wp2_with fail
  refine wp_on (pret38 HM hbd (show (vs1.length : Int) - 1 = ((vs.length : Nat) : Int) by have := HL1.out; omega) ?_)
  intro W3 _ _ _ y0 y1 y2 HR
  have R1 : Hid (PtP w b1 m1 e1 b3 m3 e3 vs base (some g2) ([vput 4 ln d (i : Int) 0], ((vs.length : Nat) : Int)) true (.returned (.tuple #[gagg b1 m1 e1 (some ⟨g', 0, none⟩) vs1.length cap' b3 m3 e3, .int .i64 ((vs.length : Nat) : Int), .bool true])) W3) := by
    obtain ⟨w3, k3, e3⟩ := HR.out
    rw [e3]
    exact MS.finP (vs0 := vs) (M := ([vput 4 ln d (i : Int) 0], ((vs.length : Nat) : Int))) HM.out k3 (by rw [HV1.out] <;> simp) true
  go_wp2_with fail
  refine bodyPost_ret (v := .tuple #[gagg b1 m1 e1 (some ⟨g', 0, none⟩) vs1.length cap' b3 m3 e3, .int .i64 ((vs.length : Nat) : Int), .bool true]) (by simp [results, Try.results86, go_sem, y0, y1, y2]) rfl R1.out
end Go.Proofs.Ytdkjdlimcnddkaa
