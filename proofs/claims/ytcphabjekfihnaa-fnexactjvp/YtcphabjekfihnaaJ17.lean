import Derived.Test.YtcphabjekfihnaaJ15
namespace Go.Proofs.Ytcphabjekfihnaa
open Go.RowKit Flt
attribute [local go_sem] alloc_drewN setCell_drewN run_store_float

set_option maxRecDepth 1000000 in
set_option maxHeartbeats 8000000 in
theorem mv_sub2 (w : World) (b1 b3 : Option Addr) (m1 e1 cap m3 e3 base g2 i : Nat) (vs : List Vl) (ln va vb vc : Int) (vk : Nat) (ta tb tc : Int) (h : w.ownsRow base 40 6 (.slice (some ⟨g2, 0, none⟩) vs.length cap) vs.length (flat vs)) (hb : base ≤ w.heap.size) (hn : vs.length ≤ 800000) (hi : i < vs.length) (hv : At w g2 (i * 6) ⟨3, ln, va, vb, vc, vk⟩) (ha : 0 ≤ ta) (hb' : 0 ≤ tb) :
    Calls Try.prog 152 #[gagg b1 m1 e1 (some ⟨g2, 0, none⟩) vs.length cap b3 m3 e3, .int .i64 (i : Int), .int .i64 ta, .int .i64 tb, .int .i64 tc] w fun e w' => MvP w b1 m1 e1 b3 m3 e3 vs base (some g2) ([vput 3 ln ta tb 0], ((vs.length : Nat) : Int)) e w' := by
  obtain ⟨v0, v1, v2, v3, v4, v5⟩ := hv
  have j0 : (0 : Int) ≤ (i : Int) := by omega
  have j1 : (i : Int) < (vs.length : Int) := by omega
  have hM : MS w _ b1 m1 e1 b3 m3 e3 vs ⟨3, ln, va, vb, vc, vk⟩ base (some g2) (some g2) (some ⟨g2, 0, none⟩) cap := MS.start ⟨3, ln, va, vb, vc, vk⟩ h hb
  have HM : Hid _ := hM
  have hbd : vs.length ≤ 900000 := by omega
  have hg2 : g2 < w.heap.size := (own_blkV h (k := g2) rfl).2
  have HO : Hid _ := h
  clear h hM
  go_enter Try.func152, Try.ntmps152
  go_wp2_with fail
  generalize ((w.alloc (gbox b1 m1 e1 (some ⟨g2, 0, none⟩) vs.length cap b3 m3 e3)).alloc nbox).alloc (vbox 3 ln va vb vc vk) = wB at HM ⊢
  clear v0 v1 v2 v3 v4 v5
  refine wp_on (mput5 HM hbd ?_)
  intro wc g' cap' _ _ _ _ _ _ _ _ HM1
  clear HM
  generalize hv1 : vs ++ [(vput 3 ln ta tb 0)] = vs1 at HM1
  have HV1 : Hid (vs1 = vs ++ [(vput 3 ln ta tb 0)]) := hv1.symm
  have HL1 : Hid (vs1.length = vs.length + 1) := by show _ = _; rw [HV1.out]; simp
  have hL1 : vs1.length ≤ vs.length + 1 := by rw [HL1.out]; omega
  have hbd : vs1.length ≤ 900000 := by omega
  clear hv1
  have HM : Hid _ := HM1.out
  clear HM1
  go_wp2_with fail
  refine wp_on (mret6 HM hbd (show (vs1.length : Int) - 1 = ((vs.length : Nat) : Int) by have := HL1.out; omega) ?_)
  intro W3 _ _ _ y0 y1 y2 HR
  have R1 : Hid (MvP w b1 m1 e1 b3 m3 e3 vs base (some g2) ([vput 3 ln ta tb 0], ((vs.length : Nat) : Int)) (.returned (.tuple #[gagg b1 m1 e1 (some ⟨g', 0, none⟩) vs1.length cap' b3 m3 e3, .int .i64 ((vs.length : Nat) : Int)])) W3) := by
    obtain ⟨w3, k3, e3⟩ := HR.out
    rw [e3]
    exact MS.fin (vs0 := vs) (M := ([vput 3 ln ta tb 0], ((vs.length : Nat) : Int))) HM.out k3 (by rw [HV1.out] <;> simp)
  go_wp2_with fail
  refine bodyPost_ret (v := .tuple #[gagg b1 m1 e1 (some ⟨g', 0, none⟩) vs1.length cap' b3 m3 e3, .int .i64 ((vs.length : Nat) : Int)]) (by simp [results, Try.results152, go_sem, y0, y1, y2]) rfl R1.out
set_option maxRecDepth 1000000 in
set_option maxHeartbeats 8000000 in
theorem mv_suba (w : World) (b1 b3 : Option Addr) (m1 e1 cap m3 e3 base g2 i : Nat) (vs : List Vl) (ln va vb vc : Int) (vk : Nat) (ta tb tc : Int) (h : w.ownsRow base 40 6 (.slice (some ⟨g2, 0, none⟩) vs.length cap) vs.length (flat vs)) (hb : base ≤ w.heap.size) (hn : vs.length ≤ 800000) (hi : i < vs.length) (hv : At w g2 (i * 6) ⟨3, ln, va, vb, vc, vk⟩) (ha : 0 ≤ ta) (hb' : tb < 0) :
    Calls Try.prog 152 #[gagg b1 m1 e1 (some ⟨g2, 0, none⟩) vs.length cap b3 m3 e3, .int .i64 (i : Int), .int .i64 ta, .int .i64 tb, .int .i64 tc] w fun e w' => MvP w b1 m1 e1 b3 m3 e3 vs base (some g2) ([], ta) e w' := by
  obtain ⟨v0, v1, v2, v3, v4, v5⟩ := hv
  have j0 : (0 : Int) ≤ (i : Int) := by omega
  have j1 : (i : Int) < (vs.length : Int) := by omega
  have hM : MS w _ b1 m1 e1 b3 m3 e3 vs ⟨3, ln, va, vb, vc, vk⟩ base (some g2) (some g2) (some ⟨g2, 0, none⟩) cap := MS.start ⟨3, ln, va, vb, vc, vk⟩ h hb
  have HM : Hid _ := hM
  have hbd : vs.length ≤ 900000 := by omega
  have hg2 : g2 < w.heap.size := (own_blkV h (k := g2) rfl).2
  have HO : Hid _ := h
  clear h hM
  go_enter Try.func152, Try.ntmps152
  go_wp2_with fail
  refine bodyPost_ret (v := .tuple #[gagg b1 m1 e1 (some ⟨g2, 0, none⟩) vs.length cap b3 m3 e3, .int .i64 ta]) (by simp [results, Try.results152, go_sem]) rfl (mv_same HO.out (((kept_alloc 0 0 w _).trans (kept_alloc 0 0 _ _)).trans (kept_alloc 0 0 _ _)) _)
set_option maxRecDepth 1000000 in
set_option maxHeartbeats 8000000 in
theorem mv_subb (w : World) (b1 b3 : Option Addr) (m1 e1 cap m3 e3 base g2 i : Nat) (vs : List Vl) (ln va vb vc : Int) (vk : Nat) (ta tb tc : Int) (h : w.ownsRow base 40 6 (.slice (some ⟨g2, 0, none⟩) vs.length cap) vs.length (flat vs)) (hb : base ≤ w.heap.size) (hn : vs.length ≤ 800000) (hi : i < vs.length) (hv : At w g2 (i * 6) ⟨3, ln, va, vb, vc, vk⟩) (ha : ta < 0) (hb' : 0 ≤ tb) :
    Calls Try.prog 152 #[gagg b1 m1 e1 (some ⟨g2, 0, none⟩) vs.length cap b3 m3 e3, .int .i64 (i : Int), .int .i64 ta, .int .i64 tb, .int .i64 tc] w fun e w' => MvP w b1 m1 e1 b3 m3 e3 vs base (some g2) ([vput 6 ln tb 0 0], ((vs.length : Nat) : Int)) e w' := by
  obtain ⟨v0, v1, v2, v3, v4, v5⟩ := hv
  have j0 : (0 : Int) ≤ (i : Int) := by omega
  have j1 : (i : Int) < (vs.length : Int) := by omega
  have hM : MS w _ b1 m1 e1 b3 m3 e3 vs ⟨3, ln, va, vb, vc, vk⟩ base (some g2) (some g2) (some ⟨g2, 0, none⟩) cap := MS.start ⟨3, ln, va, vb, vc, vk⟩ h hb
  have HM : Hid _ := hM
  have hbd : vs.length ≤ 900000 := by omega
  have hg2 : g2 < w.heap.size := (own_blkV h (k := g2) rfl).2
  have HO : Hid _ := h
  clear h hM
  go_enter Try.func152, Try.ntmps152
  go_wp2_with fail
  generalize ((w.alloc (gbox b1 m1 e1 (some ⟨g2, 0, none⟩) vs.length cap b3 m3 e3)).alloc nbox).alloc (vbox 3 ln va vb vc vk) = wB at HM ⊢
  clear v0 v1 v2 v3 v4 v5
  refine wp_on (mput10 HM hbd ?_)
  intro wc g' cap' _ _ _ _ _ HM1
  clear HM
  generalize hv1 : vs ++ [(vput 6 ln tb 0 0)] = vs1 at HM1
  have HV1 : Hid (vs1 = vs ++ [(vput 6 ln tb 0 0)]) := hv1.symm
  have HL1 : Hid (vs1.length = vs.length + 1) := by show _ = _; rw [HV1.out]; simp
  have hL1 : vs1.length ≤ vs.length + 1 := by rw [HL1.out]; omega
  have hbd : vs1.length ≤ 900000 := by omega
  clear hv1
  have HM : Hid _ := HM1.out
  clear HM1
  go_wp2_with fail
  refine wp_on (mret11 HM hbd (show (vs1.length : Int) - 1 = ((vs.length : Nat) : Int) by have := HL1.out; omega) ?_)
  intro W3 _ _ _ y0 y1 y2 HR
  have R1 : Hid (MvP w b1 m1 e1 b3 m3 e3 vs base (some g2) ([vput 6 ln tb 0 0], ((vs.length : Nat) : Int)) (.returned (.tuple #[gagg b1 m1 e1 (some ⟨g', 0, none⟩) vs1.length cap' b3 m3 e3, .int .i64 ((vs.length : Nat) : Int)])) W3) := by
    obtain ⟨w3, k3, e3⟩ := HR.out
    rw [e3]
    exact MS.fin (vs0 := vs) (M := ([vput 6 ln tb 0 0], ((vs.length : Nat) : Int))) HM.out k3 (by rw [HV1.out] <;> simp)
  go_wp2_with fail
  refine bodyPost_ret (v := .tuple #[gagg b1 m1 e1 (some ⟨g', 0, none⟩) vs1.length cap' b3 m3 e3, .int .i64 ((vs.length : Nat) : Int)]) (by simp [results, Try.results152, go_sem, y0, y1, y2]) rfl R1.out
set_option maxRecDepth 1000000 in
set_option maxHeartbeats 8000000 in
theorem mv_oth (w : World) (b1 b3 : Option Addr) (m1 e1 cap m3 e3 base g2 i : Nat) (vs : List Vl) (o : Int) (ln va vb vc : Int) (vk : Nat) (ta tb tc : Int) (h : w.ownsRow base 40 6 (.slice (some ⟨g2, 0, none⟩) vs.length cap) vs.length (flat vs)) (hb : base ≤ w.heap.size) (hn : vs.length ≤ 800000) (hi : i < vs.length) (hv : At w g2 (i * 6) ⟨o, ln, va, vb, vc, vk⟩) (ho : o ≠ 2 ∧ o ≠ 3 ∧ o ≠ 4 ∧ o ≠ 5 ∧ o ≠ 7 ∧ o ≠ 8 ∧ o ≠ 13) (ha : 0 ≤ ta) :
    Calls Try.prog 152 #[gagg b1 m1 e1 (some ⟨g2, 0, none⟩) vs.length cap b3 m3 e3, .int .i64 (i : Int), .int .i64 ta, .int .i64 tb, .int .i64 tc] w fun e w' => MvP w b1 m1 e1 b3 m3 e3 vs base (some g2) ([vput o ln ta 0 vc], ((vs.length : Nat) : Int)) e w' := by
  obtain ⟨v0, v1, v2, v3, v4, v5⟩ := hv
  have j0 : (0 : Int) ≤ (i : Int) := by omega
  have j1 : (i : Int) < (vs.length : Int) := by omega
  have t2 : (o == 2) = false := beq_eq_false_iff_ne.2 ho.1
  have t3 : (o == 3) = false := beq_eq_false_iff_ne.2 ho.2.1
  have t4 : (o == 4) = false := beq_eq_false_iff_ne.2 ho.2.2.1
  have t5 : (o == 5) = false := beq_eq_false_iff_ne.2 ho.2.2.2.1
  have t7 : (o == 7) = false := beq_eq_false_iff_ne.2 ho.2.2.2.2.1
  have t8 : (o == 8) = false := beq_eq_false_iff_ne.2 ho.2.2.2.2.2.1
  have t13 : (o == 13) = false := beq_eq_false_iff_ne.2 ho.2.2.2.2.2.2
  clear ho
  have hM : MS w _ b1 m1 e1 b3 m3 e3 vs ⟨o, ln, va, vb, vc, vk⟩ base (some g2) (some g2) (some ⟨g2, 0, none⟩) cap := MS.start ⟨o, ln, va, vb, vc, vk⟩ h hb
  have HM : Hid _ := hM
  have hbd : vs.length ≤ 900000 := by omega
  have hg2 : g2 < w.heap.size := (own_blkV h (k := g2) rfl).2
  have HO : Hid _ := h
  clear h hM
  go_enter Try.func152, Try.ntmps152
  go_wp2_with fail
  generalize ((w.alloc (gbox b1 m1 e1 (some ⟨g2, 0, none⟩) vs.length cap b3 m3 e3)).alloc nbox).alloc (vbox o ln va vb vc vk) = wB at HM ⊢
  clear v0 v1 v2 v3 v4 v5
  refine wp_on (mput58 HM hbd ?_)
  intro wc g' cap' _ _ _ _ _ _ _ _ _ HM1
  clear HM
  generalize hv1 : vs ++ [(vput o ln ta 0 vc)] = vs1 at HM1
  have HV1 : Hid (vs1 = vs ++ [(vput o ln ta 0 vc)]) := hv1.symm
  have HL1 : Hid (vs1.length = vs.length + 1) := by show _ = _; rw [HV1.out]; simp
  have hL1 : vs1.length ≤ vs.length + 1 := by rw [HL1.out]; omega
  have hbd : vs1.length ≤ 900000 := by omega
  clear hv1
  have HM : Hid _ := HM1.out
  clear HM1
  go_wp2_with fail
  refine wp_on (mret59 HM hbd (show (vs1.length : Int) - 1 = ((vs.length : Nat) : Int) by have := HL1.out; omega) ?_)
  intro W3 _ _ _ y0 y1 y2 HR
  have R1 : Hid (MvP w b1 m1 e1 b3 m3 e3 vs base (some g2) ([vput o ln ta 0 vc], ((vs.length : Nat) : Int)) (.returned (.tuple #[gagg b1 m1 e1 (some ⟨g', 0, none⟩) vs1.length cap' b3 m3 e3, .int .i64 ((vs.length : Nat) : Int)])) W3) := by
    obtain ⟨w3, k3, e3⟩ := HR.out
    rw [e3]
    exact MS.fin (vs0 := vs) (M := ([vput o ln ta 0 vc], ((vs.length : Nat) : Int))) HM.out k3 (by rw [HV1.out] <;> simp)
  go_wp2_with fail
  refine bodyPost_ret (v := .tuple #[gagg b1 m1 e1 (some ⟨g', 0, none⟩) vs1.length cap' b3 m3 e3, .int .i64 ((vs.length : Nat) : Int)]) (by simp [results, Try.results152, go_sem, y0, y1, y2]) rfl R1.out
set_option maxRecDepth 1000000 in
set_option maxHeartbeats 8000000 in
theorem mv_sel0 (w : World) (b1 b3 : Option Addr) (m1 e1 cap m3 e3 base g2 i : Nat) (vs : List Vl) (ln va vb vc : Int) (vk : Nat) (ta tb tc : Int) (h : w.ownsRow base 40 6 (.slice (some ⟨g2, 0, none⟩) vs.length cap) vs.length (flat vs)) (hb : base ≤ w.heap.size) (hn : vs.length ≤ 800000) (hi : i < vs.length) (hv : At w g2 (i * 6) ⟨8, ln, va, vb, vc, vk⟩) (hb' : tb < 0) (hc : tc < 0) :
    Calls Try.prog 152 #[gagg b1 m1 e1 (some ⟨g2, 0, none⟩) vs.length cap b3 m3 e3, .int .i64 (i : Int), .int .i64 ta, .int .i64 tb, .int .i64 tc] w fun e w' => MvP w b1 m1 e1 b3 m3 e3 vs base (some g2) ([], -1) e w' := by
  obtain ⟨v0, v1, v2, v3, v4, v5⟩ := hv
  have j0 : (0 : Int) ≤ (i : Int) := by omega
  have j1 : (i : Int) < (vs.length : Int) := by omega
  have hM : MS w _ b1 m1 e1 b3 m3 e3 vs ⟨8, ln, va, vb, vc, vk⟩ base (some g2) (some g2) (some ⟨g2, 0, none⟩) cap := MS.start ⟨8, ln, va, vb, vc, vk⟩ h hb
  have HM : Hid _ := hM
  have hbd : vs.length ≤ 900000 := by omega
  have hg2 : g2 < w.heap.size := (own_blkV h (k := g2) rfl).2
  have HO : Hid _ := h
  clear h hM
  go_enter Try.func152, Try.ntmps152
  go_wp2_with fail
  refine bodyPost_ret (v := .tuple #[gagg b1 m1 e1 (some ⟨g2, 0, none⟩) vs.length cap b3 m3 e3, .int .i64 (-1)]) (by simp [results, Try.results152, go_sem]) rfl (mv_same HO.out (((kept_alloc 0 0 w _).trans (kept_alloc 0 0 _ _)).trans (kept_alloc 0 0 _ _)) _)
end Go.Proofs.Ytcphabjekfihnaa
