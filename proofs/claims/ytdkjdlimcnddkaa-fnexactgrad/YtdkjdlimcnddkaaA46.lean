import Derived.Test.YtdkjdlimcnddkaaA30
import Derived.Test.YtdkjdlimcnddkaaA34
import Derived.Test.YtdkjdlimcnddkaaA35
import Derived.Test.YtdkjdlimcnddkaaA39
import Derived.Test.YtdkjdlimcnddkaaA40
import Derived.Test.YtdkjdlimcnddkaaA42
import Derived.Test.YtdkjdlimcnddkaaA43
import Derived.Test.YtdkjdlimcnddkaaA44
import Derived.Test.YtdkjdlimcnddkaaA45
namespace Go.Proofs.Ytdkjdlimcnddkaa
open Go.RowKit Flt
attribute [local go_sem] alloc_drewN setCell_drewN run_store_float

set_option maxRecDepth 1000000 in
set_option maxHeartbeats 8000000 in
theorem pt_sum (w : World) (b1 b3 : Option Addr) (m1 e1 cap m3 e3 base g2 i : Nat) (vs : List Vl) (ln vb vc : Int) (vk : Nat) (d : Int) (j : Nat) (la : Int) (h : w.ownsRow base 64 6 (.slice (some ⟨g2, 0, none⟩) vs.length cap) vs.length (flat vs)) (hb : base ≤ w.heap.size) (hn : vs.length ≤ 800000) (hi : i < vs.length) (hv : At w g2 (i * 6) ⟨9, ln, (j : Int), vb, vc, vk⟩) (hj : j < vs.length) (hla : (vs.getD j Vl.zero).len = la) :
    Calls Try.prog 86 #[gagg b1 m1 e1 (some ⟨g2, 0, none⟩) vs.length cap b3 m3 e3, .int .i64 (i : Int), .int .i64 0, .int .i64 d] w fun e w' => PtP w b1 m1 e1 b3 m3 e3 vs base (some g2) ([vput 10 la d 0 0], ((vs.length : Nat) : Int)) true e w' := by
  obtain ⟨v0, v1, v2, v3, v4, v5⟩ := hv
  have j0 : (0 : Int) ≤ (i : Int) := by omega
  have j1 : (i : Int) < (vs.length : Int) := by omega
  have HLA : Hid _ := hla
  clear hla
  have hM : MS w _ b1 m1 e1 b3 m3 e3 vs ⟨9, ln, (j : Int), vb, vc, vk⟩ base (some g2) (some g2) (some ⟨g2, 0, none⟩) cap := MS.start ⟨9, ln, (j : Int), vb, vc, vk⟩ h hb
  have HM : Hid _ := hM
  have hbd : vs.length ≤ 900000 := by omega
  have hg2 : g2 < w.heap.size := (own_blkV h (k := g2) rfl).2
  have HO : Hid _ := h
  clear h hM
  go_enter Try.func86, Try.ntmps86
  go_wp2_with fail
  generalize ((w.alloc (gbox b1 m1 e1 (some ⟨g2, 0, none⟩) vs.length cap b3 m3 e3)).alloc nbox).alloc (vbox 9 ln (j : Int) vb vc vk) = wB at HM ⊢
  clear v0 v1 v2 v3 v4 v5
  refine wp_on (pput30 HM hbd hj HLA.out ?_)
  intro wc g' cap' _ _ _ _ _ _ _ _ _ _ _ HM1
  clear HM
  generalize hv1 : vs ++ [(vput 10 la d 0 0)] = vs1 at HM1
  have HV1 : Hid (vs1 = vs ++ [(vput 10 la d 0 0)]) := hv1.symm
  have HL1 : Hid (vs1.length = vs.length + 1) := by show _ = _; rw [HV1.out]; simp
  have hL1 : vs1.length ≤ vs.length + 1 := by rw [HL1.out]; omega
  have hbd : vs1.length ≤ 900000 := by omega
  clear hv1
  have HM : Hid _ := HM1.out
  clear HM1
  go_wp2_with fail
  refine wp_on (pret38 HM hbd (show (vs1.length : Int) - 1 = ((vs.length : Nat) : Int) by have := HL1.out; omega) ?_)
  intro W3 _ _ _ y0 y1 y2 HR
  have R1 : Hid (PtP w b1 m1 e1 b3 m3 e3 vs base (some g2) ([vput 10 la d 0 0], ((vs.length : Nat) : Int)) true (.returned (.tuple #[gagg b1 m1 e1 (some ⟨g', 0, none⟩) vs1.length cap' b3 m3 e3, .int .i64 ((vs.length : Nat) : Int), .bool true])) W3) := by
    obtain ⟨w3, k3, e3⟩ := HR.out
    rw [e3]
    exact MS.finP (vs0 := vs) (M := ([vput 10 la d 0 0], ((vs.length : Nat) : Int))) HM.out k3 (by rw [HV1.out] <;> simp) true
  go_wp2_with fail
  refine bodyPost_ret (v := .tuple #[gagg b1 m1 e1 (some ⟨g', 0, none⟩) vs1.length cap' b3 m3 e3, .int .i64 ((vs.length : Nat) : Int), .bool true]) (by simp [results, Try.results86, go_sem, y0, y1, y2]) rfl R1.out
set_option maxRecDepth 1000000 in
set_option maxHeartbeats 8000000 in
theorem pt_fill (w : World) (b1 b3 : Option Addr) (m1 e1 cap m3 e3 base g2 i : Nat) (vs : List Vl) (ln va vb vc : Int) (vk : Nat) (d : Int) (h : w.ownsRow base 64 6 (.slice (some ⟨g2, 0, none⟩) vs.length cap) vs.length (flat vs)) (hb : base ≤ w.heap.size) (hn : vs.length ≤ 800000) (hi : i < vs.length) (hv : At w g2 (i * 6) ⟨10, ln, va, vb, vc, vk⟩)  :
    Calls Try.prog 86 #[gagg b1 m1 e1 (some ⟨g2, 0, none⟩) vs.length cap b3 m3 e3, .int .i64 (i : Int), .int .i64 0, .int .i64 d] w fun e w' => PtP w b1 m1 e1 b3 m3 e3 vs base (some g2) ([vput 9 1 d 0 0], ((vs.length : Nat) : Int)) true e w' := by
  obtain ⟨v0, v1, v2, v3, v4, v5⟩ := hv
  have j0 : (0 : Int) ≤ (i : Int) := by omega
  have j1 : (i : Int) < (vs.length : Int) := by omega
  have hM : MS w _ b1 m1 e1 b3 m3 e3 vs ⟨10, ln, va, vb, vc, vk⟩ base (some g2) (some g2) (some ⟨g2, 0, none⟩) cap := MS.start ⟨10, ln, va, vb, vc, vk⟩ h hb
  have HM : Hid _ := hM
  have hbd : vs.length ≤ 900000 := by omega
  have hg2 : g2 < w.heap.size := (own_blkV h (k := g2) rfl).2
  have HO : Hid _ := h
  clear h hM
  go_enter Try.func86, Try.ntmps86
  go_wp2_with fail
  generalize ((w.alloc (gbox b1 m1 e1 (some ⟨g2, 0, none⟩) vs.length cap b3 m3 e3)).alloc nbox).alloc (vbox 10 ln va vb vc vk) = wB at HM ⊢
  clear v0 v1 v2 v3 v4 v5
  refine wp_on (pput32 HM hbd ?_)
  intro wc g' cap' _ _ _ _ HM1
  clear HM
  generalize hv1 : vs ++ [(vput 9 1 d 0 0)] = vs1 at HM1
  have HV1 : Hid (vs1 = vs ++ [(vput 9 1 d 0 0)]) := hv1.symm
  have HL1 : Hid (vs1.length = vs.length + 1) := by show _ = _; rw [HV1.out]; simp
  have hL1 : vs1.length ≤ vs.length + 1 := by rw [HL1.out]; omega
  have hbd : vs1.length ≤ 900000 := by omega
  clear hv1
  have HM : Hid _ := HM1.out
  clear HM1
  go_wp2_with fail
  refine wp_on (pret38 HM hbd (show (vs1.length : Int) - 1 = ((vs.length : Nat) : Int) by have := HL1.out; omega) ?_)
  intro W3 _ _ _ y0 y1 y2 HR
  have R1 : Hid (PtP w b1 m1 e1 b3 m3 e3 vs base (some g2) ([vput 9 1 d 0 0], ((vs.length : Nat) : Int)) true (.returned (.tuple #[gagg b1 m1 e1 (some ⟨g', 0, none⟩) vs1.length cap' b3 m3 e3, .int .i64 ((vs.length : Nat) : Int), .bool true])) W3) := by
    obtain ⟨w3, k3, e3⟩ := HR.out
    rw [e3]
    exact MS.finP (vs0 := vs) (M := ([vput 9 1 d 0 0], ((vs.length : Nat) : Int))) HM.out k3 (by rw [HV1.out] <;> simp) true
  go_wp2_with fail
  refine bodyPost_ret (v := .tuple #[gagg b1 m1 e1 (some ⟨g', 0, none⟩) vs1.length cap' b3 m3 e3, .int .i64 ((vs.length : Nat) : Int), .bool true]) (by simp [results, Try.results86, go_sem, y0, y1, y2]) rfl R1.out
set_option maxRecDepth 1000000 in
set_option maxHeartbeats 8000000 in
theorem pt_pick (w : World) (b1 b3 : Option Addr) (m1 e1 cap m3 e3 base g2 i : Nat) (vs : List Vl) (ln vb vc : Int) (vk : Nat) (d : Int) (j : Nat) (la : Int) (h : w.ownsRow base 64 6 (.slice (some ⟨g2, 0, none⟩) vs.length cap) vs.length (flat vs)) (hb : base ≤ w.heap.size) (hn : vs.length ≤ 800000) (hi : i < vs.length) (hv : At w g2 (i * 6) ⟨11, ln, (j : Int), vb, vc, vk⟩) (hj : j < vs.length) (hla : (vs.getD j Vl.zero).len = la) :
    Calls Try.prog 86 #[gagg b1 m1 e1 (some ⟨g2, 0, none⟩) vs.length cap b3 m3 e3, .int .i64 (i : Int), .int .i64 0, .int .i64 d] w fun e w' => PtP w b1 m1 e1 b3 m3 e3 vs base (some g2) ([vput 12 la d 0 vc], ((vs.length : Nat) : Int)) true e w' := by
  obtain ⟨v0, v1, v2, v3, v4, v5⟩ := hv
  have j0 : (0 : Int) ≤ (i : Int) := by omega
  have j1 : (i : Int) < (vs.length : Int) := by omega
  have HLA : Hid _ := hla
  clear hla
  have hM : MS w _ b1 m1 e1 b3 m3 e3 vs ⟨11, ln, (j : Int), vb, vc, vk⟩ base (some g2) (some g2) (some ⟨g2, 0, none⟩) cap := MS.start ⟨11, ln, (j : Int), vb, vc, vk⟩ h hb
  have HM : Hid _ := hM
  have hbd : vs.length ≤ 900000 := by omega
  have hg2 : g2 < w.heap.size := (own_blkV h (k := g2) rfl).2
  have HO : Hid _ := h
  clear h hM
  go_enter Try.func86, Try.ntmps86
  go_wp2_with fail
  generalize ((w.alloc (gbox b1 m1 e1 (some ⟨g2, 0, none⟩) vs.length cap b3 m3 e3)).alloc nbox).alloc (vbox 11 ln (j : Int) vb vc vk) = wB at HM ⊢
  clear v0 v1 v2 v3 v4 v5
  refine wp_on (pput34 HM hbd hj HLA.out ?_)
  intro wc g' cap' _ _ _ _ _ _ _ _ _ _ _ _ _ HM1
  clear HM
  generalize hv1 : vs ++ [(vput 12 la d 0 vc)] = vs1 at HM1
  have HV1 : Hid (vs1 = vs ++ [(vput 12 la d 0 vc)]) := hv1.symm
  have HL1 : Hid (vs1.length = vs.length + 1) := by show _ = _; rw [HV1.out]; simp
  have hL1 : vs1.length ≤ vs.length + 1 := by rw [HL1.out]; omega
  have hbd : vs1.length ≤ 900000 := by omega
  clear hv1
  have HM : Hid _ := HM1.out
  clear HM1
  go_wp2_with fail
  refine wp_on (pret38 HM hbd (show (vs1.length : Int) - 1 = ((vs.length : Nat) : Int) by have := HL1.out; omega) ?_)
  intro W3 _ _ _ y0 y1 y2 HR
  have R1 : Hid (PtP w b1 m1 e1 b3 m3 e3 vs base (some g2) ([vput 12 la d 0 vc], ((vs.length : Nat) : Int)) true (.returned (.tuple #[gagg b1 m1 e1 (some ⟨g', 0, none⟩) vs1.length cap' b3 m3 e3, .int .i64 ((vs.length : Nat) : Int), .bool true])) W3) := by
    obtain ⟨w3, k3, e3⟩ := HR.out
    rw [e3]
    exact MS.finP (vs0 := vs) (M := ([vput 12 la d 0 vc], ((vs.length : Nat) : Int))) HM.out k3 (by rw [HV1.out] <;> simp) true
  go_wp2_with fail
  refine bodyPost_ret (v := .tuple #[gagg b1 m1 e1 (some ⟨g', 0, none⟩) vs1.length cap' b3 m3 e3, .int .i64 ((vs.length : Nat) : Int), .bool true]) (by simp [results, Try.results86, go_sem, y0, y1, y2]) rfl R1.out
end Go.Proofs.Ytdkjdlimcnddkaa

namespace Go.Proofs.Ytdkjdlimcnddkaa
open Go.RowKit Flt
/-- The model's part, as data. -/
def ptM (i : Int) (v : Vl) (la : Int) (k : Nat) (d : Int) (N : Nat) : List Vl × Int := if prtB v k = true then prtM i v la k d N else ([], 0)
theorem l2part (w : World) (b1 b3 : Option Addr) (m1 e1 cap m3 e3 base g2 i : Nat) (vs : List Vl) (v : Vl) (la : Int) (k : Nat) (d : Int) (h : w.ownsRow base 64 6 (.slice (some ⟨g2, 0, none⟩) vs.length cap) vs.length (flat vs)) (hb : base ≤ w.heap.size) (hn : vs.length ≤ 800000) (hi : i < vs.length) (hv : At w g2 (i * 6) v)
    (hop : 0 ≤ v.op ∧ v.op ≤ 13) (hk : k < cnt v.op) (hla : (v.op = 9 ∨ v.op = 11) → ∃ j : Nat, v.a = (j : Int) ∧ j < vs.length ∧ (vs.getD j Vl.zero).len = la) :
    Calls Try.prog 86 #[gagg b1 m1 e1 (some ⟨g2, 0, none⟩) vs.length cap b3 m3 e3, .int .i64 (i : Int), .int .i64 (k : Int), .int .i64 d] w fun e w' => PtP w b1 m1 e1 b3 m3 e3 vs base (some g2) (ptM (i : Int) v la k d vs.length) (prtB v k) e w' := by
  obtain ⟨o, ln, va, vb, vc, vk⟩ := v
  simp only at hop hk hla
  have hc : o = 2 ∨ o = 3 ∨ o = 4 ∨ o = 5 ∨ o = 6 ∨ o = 7 ∨ o = 8 ∨ o = 9 ∨ o = 10 ∨ o = 11 ∨ o = 12 ∨ o = 13 := by
    by_cases c0 : o = 0
    · subst c0; rw [show cnt 0 = 0 from rfl] at hk; omega
    by_cases c1 : o = 1
    · subst c1; rw [show cnt 1 = 0 from rfl] at hk; omega
    omega
  rcases hc with rfl | rfl | rfl | rfl | rfl | rfl | rfl | rfl | rfl | rfl | rfl | rfl
  · have e : ptM (i : Int) ⟨2, ln, va, vb, vc, vk⟩ la k d vs.length = ([], d) := by simp [ptM, prtM, prtB]
    rw [e, show prtB ⟨2, ln, va, vb, vc, vk⟩ k = true by simp [prtB]]
    exact pt_add w b1 b3 m1 e1 cap m3 e3 base g2 i vs ln va vb vc vk d k h hb hn hi hv
  · rcases (by have : cnt 3 = 2 := rfl; omega : k = 0 ∨ k = 1) with rfl | rfl
    · exact pt_sub0 w b1 b3 m1 e1 cap m3 e3 base g2 i vs ln va vb vc vk d h hb hn hi hv
    · exact pt_sub1 w b1 b3 m1 e1 cap m3 e3 base g2 i vs ln va vb vc vk d h hb hn hi hv
  · have e : ptM (i : Int) ⟨4, ln, va, vb, vc, vk⟩ la k d vs.length = ([vput 4 ln d (fld ⟨4, ln, va, vb, vc, vk⟩ (1 - k)) 0], ((vs.length : Nat) : Int)) := by
      rcases (by have : cnt 4 = 2 := rfl; omega : k = 0 ∨ k = 1) with rfl | rfl <;> rfl
    rw [e, show prtB ⟨4, ln, va, vb, vc, vk⟩ k = true by simp [prtB]]
    exact pt_mul w b1 b3 m1 e1 cap m3 e3 base g2 i vs ln va vb vc vk d k _ h hb hn hi hv hk rfl
  · rcases (by have : cnt 5 = 2 := rfl; omega : k = 0 ∨ k = 1) with rfl | rfl
    · exact pt_div0 w b1 b3 m1 e1 cap m3 e3 base g2 i vs ln va vb vc vk d h hb hn hi hv
    · exact pt_div1 w b1 b3 m1 e1 cap m3 e3 base g2 i vs ln va vb vc vk d h hb hn hi hv
  · obtain rfl : k = 0 := by have : cnt 6 = 1 := rfl; omega
    exact pt_neg w b1 b3 m1 e1 cap m3 e3 base g2 i vs ln va vb vc vk d h hb hn hi hv
  · rcases (by have : cnt 7 = 2 := rfl; omega : k = 0 ∨ k = 1) with rfl | rfl
    · exact pt_max0 w b1 b3 m1 e1 cap m3 e3 base g2 i vs ln va vb vc vk d h hb hn hi hv
    · exact pt_max1 w b1 b3 m1 e1 cap m3 e3 base g2 i vs ln va vb vc vk d h hb hn hi hv
  · rcases (by have : cnt 8 = 3 := rfl; omega : k = 0 ∨ k = 1 ∨ k = 2) with rfl | rfl | rfl
    · exact pt_sel0 w b1 b3 m1 e1 cap m3 e3 base g2 i vs ln va vb vc vk d h hb hn hi hv
    · exact pt_sel1 w b1 b3 m1 e1 cap m3 e3 base g2 i vs ln va vb vc vk d h hb hn hi hv
    · exact pt_sel2 w b1 b3 m1 e1 cap m3 e3 base g2 i vs ln va vb vc vk d h hb hn hi hv
  · obtain rfl : k = 0 := by have : cnt 9 = 1 := rfl; omega
    obtain ⟨j, rfl, hj, hl⟩ := hla (.inl rfl)
    exact pt_sum w b1 b3 m1 e1 cap m3 e3 base g2 i vs ln vb vc vk d j la h hb hn hi hv hj hl
  · obtain rfl : k = 0 := by have : cnt 10 = 1 := rfl; omega
    exact pt_fill w b1 b3 m1 e1 cap m3 e3 base g2 i vs ln va vb vc vk d h hb hn hi hv
  · obtain rfl : k = 0 := by have : cnt 11 = 1 := rfl; omega
    obtain ⟨j, rfl, hj, hl⟩ := hla (.inr rfl)
    exact pt_pick w b1 b3 m1 e1 cap m3 e3 base g2 i vs ln vb vc vk d j la h hb hn hi hv hj hl
  · obtain rfl : k = 0 := by have : cnt 12 = 1 := rfl; omega
    exact pt_put w b1 b3 m1 e1 cap m3 e3 base g2 i vs ln va vb vc vk d h hb hn hi hv
  · obtain rfl : k = 0 := by have : cnt 13 = 1 := rfl; omega
    exact pt_exp w b1 b3 m1 e1 cap m3 e3 base g2 i vs ln va vb vc vk d h hb hn hi hv
end Go.Proofs.Ytdkjdlimcnddkaa
