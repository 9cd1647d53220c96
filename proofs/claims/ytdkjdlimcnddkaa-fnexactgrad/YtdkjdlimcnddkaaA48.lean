import Derived.Test.YtdkjdlimcnddkaaA32
import Derived.Test.YtdkjdlimcnddkaaA47
import Derived.Test.YtdkjdlimcnddkaaA31
import Derived.Test.YtdkjdlimcnddkaaA17
import Derived.Test.YtdkjdlimcnddkaaA10
namespace Go.Proofs.Ytdkjdlimcnddkaa
open Go.RowKit Flt
attribute [local go_sem] alloc_drewN setCell_drewN run_store_float
theorem l2grad (w : World) (lo g1 g2 g3 n1 c1 n2 c2 n3 c3 : Nat) (s x : Nat) (ins : List Int) (vs : List Vl) (outs : List Int) (f : GO w lo g1 g2 g3 n2 ins vs outs) (e1 : ins.length = n1) (e3 : outs.length = n3) (l1 : n1 ≤ 1000000) (l2 : n2 ≤ 2000) (l3 : n3 ≤ 1000000) (hok : (List.range n2).all (okV ins vs) = true) (hc5 : cellsV vs ≤ 50000) (hs : s < n2) (hx : x < n2) :
    Calls Try.prog 32 #[gagg (some ⟨g1, 0, none⟩) n1 c1 (some ⟨g2, 0, none⟩) n2 c2 (some ⟨g3, 0, none⟩) n3 c3, .int .i64 (s : Int), .int .i64 (x : Int)] w fun e w' => GOut w w' n1 n3 ins outs (grM vs s x) e ∧ Kept 0 0 w w' := by
  cases ha : (actM vs x (s - x)).getD s false
  · exact l2grad_idle w lo g1 g2 g3 n1 c1 n2 c2 n3 c3 s x ins vs outs f e1 e3 l1 l2 l3 hok hc5 hs hx ha
  · exact l2grad_run w lo g1 g2 g3 n1 c1 n2 c2 n3 c3 s x ins vs outs f e1 e3 l1 l2 l3 hok hc5 hs hx ha
/-- What spec.Grad answers with code 0. -/
def GSOut (w' : World) (n1 n3 : Nat) (ins outs : List Int) (M : List Vl × Int) (e : Ending) : Prop :=
  ∃ b1 d1 b3 d3 a2 cap, e = .returned (.tuple #[gagg b1 n1 d1 a2 M.1.length cap b3 n3 d3, .int .i64 M.2, .int .i64 0]) ∧ GS w' b1 n1 a2 M.1.length b3 n3 ins M.1 outs
set_option maxRecDepth 100000 in
set_option maxHeartbeats 2000000 in
theorem specGrad_inv (w : World) (a1 a2 a3 : Option Addr) (n1 c1 n2 c2 n3 c3 : Nat) (s x : Int) (ins : List Int) (vs : List Vl) (outs : List Int) (f : GS w a1 n1 a2 n2 a3 n3 ins vs outs) (h : okG ins vs outs = false) :
    Calls Try.prog 8 #[gagg a1 n1 c1 a2 n2 c2 a3 n3 c3, .int .i64 s, .int .i64 x] w fun e w' => e = .returned (.tuple #[gnil, .int .i64 0, .int .i64 1]) ∧ Kept 0 0 w w' := by
  have hK := (kept_alloc 0 0 w (gbox a1 n1 c1 a2 n2 c2 a3 n3 c3)).trans (kept_alloc 0 0 _ nbox)
  have HX : Hid _ := specValid _ a1 a2 a3 n1 c1 n2 c2 n3 c3 ins vs outs (f.keep hK)
  rw [h] at HX
  have HK : Hid _ := hK
  have hN := rb_start (w.alloc (gbox a1 n1 c1 a2 n2 c2 a3 n3 c3))
  rw [show (w.alloc (gbox a1 n1 c1 a2 n2 c2 a3 n3 c3)).heap.size = w.heap.size + 1 by simp] at hN
  have HN : Hid _ := hN
  clear hK h f hN
  go_enter Try.func8, Try.ntmps8
  go_wp2_with fail
  refine Calls.mono HX.out ?_
  rintro e w2 ⟨rfl, k2⟩
  obtain ⟨_, q0, q1, q2, f0, f1, f2⟩ := RB.keep HN.out k2
  obtain ⟨y0, y1, y2⟩ := put3_0 w2 (w.heap.size + 1) _ _ _ q0 q1 q2 (.slice none 0 0) (.slice none 0 0) (.slice none 0 0)
  have R : Hid (Kept 0 0 w _) := Kept.new (Kept.trans HK.out k2) (put3_kept w2 (w.heap.size + 1) (.slice none 0 0) (.slice none 0 0) (.slice none 0 0)) (by omega)
  clear k2 HX HN HK
  go_wp2_with fail
  refine bodyPost_ret (v := .tuple #[gnil, .int .i64 0, .int .i64 1]) (by simp [results, Try.results8, go_sem, y0, y1, y2]) rfl ⟨rfl, R.out⟩

set_option maxRecDepth 100000 in
set_option maxHeartbeats 4000000 in
theorem specGrad_idx (w : World) (a1 a2 a3 : Option Addr) (n1 c1 n2 c2 n3 c3 : Nat) (s x : Int) (ins : List Int) (vs : List Vl) (outs : List Int) (f : GS w a1 n1 a2 n2 a3 n3 ins vs outs) (h : okG ins vs outs = true) (h2 : ¬ ((0 ≤ s ∧ s < n2) ∧ (0 ≤ x ∧ x < n2))) :
    Calls Try.prog 8 #[gagg a1 n1 c1 a2 n2 c2 a3 n3 c3, .int .i64 s, .int .i64 x] w fun e w' => e = .returned (.tuple #[gnil, .int .i64 0, .int .i64 1]) ∧ Kept 0 0 w w' := by
  have hK := (kept_alloc 0 0 w (gbox a1 n1 c1 a2 n2 c2 a3 n3 c3)).trans (kept_alloc 0 0 _ nbox)
  have HX : Hid _ := specValid _ a1 a2 a3 n1 c1 n2 c2 n3 c3 ins vs outs (f.keep hK)
  rw [h] at HX
  have HK : Hid _ := hK
  have hN := rb_start (w.alloc (gbox a1 n1 c1 a2 n2 c2 a3 n3 c3))
  rw [show (w.alloc (gbox a1 n1 c1 a2 n2 c2 a3 n3 c3)).heap.size = w.heap.size + 1 by simp] at hN
  have HN : Hid _ := hN
  have HB : Hid _ := (g0_start w (.slice a1 n1 c1) (.slice a2 n2 c2) (.slice a3 n3 c3)).keep (kept_alloc 0 0 _ nbox)
  clear hK h f hN
  have six : s < 0 ∨ (0 ≤ s ∧ (n2 : Int) ≤ s) ∨ ((0 ≤ s ∧ s < n2) ∧ x < 0) ∨ ((0 ≤ s ∧ s < n2) ∧ 0 ≤ x ∧ (n2 : Int) ≤ x) := by omega
  clear h2
  go_enter Try.func8, Try.ntmps8
  go_wp2_with fail
  refine Calls.mono HX.out ?_
  rintro e w2 ⟨rfl, k2⟩
  obtain ⟨_, p0, p1, p2⟩ := G0.keep HB.out k2
  obtain ⟨_, q0, q1, q2, f0, f1, f2⟩ := RB.keep HN.out k2
  obtain ⟨y0, y1, y2⟩ := put3_0 w2 (w.heap.size + 1) _ _ _ q0 q1 q2 (.slice none 0 0) (.slice none 0 0) (.slice none 0 0)
  have R : Hid (Kept 0 0 w _) := Kept.new (Kept.trans HK.out k2) (put3_kept w2 (w.heap.size + 1) (.slice none 0 0) (.slice none 0 0) (.slice none 0 0)) (by omega)
  clear k2 HX HN HK
  rcases six with h1 | ⟨h1, h2⟩ | ⟨⟨h1, h2⟩, h3⟩ | ⟨⟨h1, h2⟩, h3, h4⟩
  all_goals
    go_wp2_with fail
    refine bodyPost_ret (v := .tuple #[gnil, .int .i64 0, .int .i64 1]) (by simp [results, Try.results8, go_sem, y0, y1, y2]) rfl ⟨rfl, R.out⟩

set_option maxRecDepth 100000 in
set_option maxHeartbeats 4000000 in
theorem specGrad_shape (w : World) (a1 a2 a3 : Option Addr) (n1 c1 n2 c2 n3 c3 : Nat) (s x : Nat) (ins : List Int) (vs : List Vl) (outs : List Int) (f : GS w a1 n1 a2 n2 a3 n3 ins vs outs) (h : okG ins vs outs = true) (hs : s < n2) (hx : x < n2) (h3 : (vs.getD s Vl.zero).len ≠ 1) :
    Calls Try.prog 8 #[gagg a1 n1 c1 a2 n2 c2 a3 n3 c3, .int .i64 (s : Int), .int .i64 (x : Int)] w fun e w' => e = .returned (.tuple #[gnil, .int .i64 0, .int .i64 4]) ∧ Kept 0 0 w w' := by
  have hK := (kept_alloc 0 0 w (gbox a1 n1 c1 a2 n2 c2 a3 n3 c3)).trans (kept_alloc 0 0 _ nbox)
  have HX : Hid _ := specValid _ a1 a2 a3 n1 c1 n2 c2 n3 c3 ins vs outs (f.keep hK)
  rw [h] at HX
  have HK : Hid _ := hK
  have hN := rb_start (w.alloc (gbox a1 n1 c1 a2 n2 c2 a3 n3 c3))
  rw [show (w.alloc (gbox a1 n1 c1 a2 n2 c2 a3 n3 c3)).heap.size = w.heap.size + 1 by simp] at hN
  have HN : Hid _ := hN
  have HB : Hid _ := (g0_start w (.slice a1 n1 c1) (.slice a2 n2 c2) (.slice a3 n3 c3)).keep (kept_alloc 0 0 _ nbox)
  have HF : Hid _ := f.keep hK
  have t3 : ((vs.getD s Vl.zero).len != 1) = true := by simpa using h3
  have i0 : (0 : Int) ≤ (s : Int) := by omega
  have i1 : (s : Int) < (n2 : Int) := by omega
  have i2 : (0 : Int) ≤ (x : Int) := by omega
  have i3 : (x : Int) < (n2 : Int) := by omega
  clear hK h f hN h3
  go_enter Try.func8, Try.ntmps8
  go_wp2_with fail
  refine Calls.mono HX.out ?_
  rintro e w2 ⟨rfl, k2⟩
  have HK2 : Hid _ := k2
  obtain ⟨_, p0, p1, p2⟩ := G0.keep HB.out k2
  rcases (GS.keep HF.out k2).v.at_ with z0 | ⟨ga, oa, ea, z1, z2, z3, z4⟩
  · omega
  have ct := (z4 s hs).c1
  generalize (vs.getD s Vl.zero).len = lt at ct t3
  subst ea
  clear z1 z2 z3 z4 k2 HX HB HF
  have HN5 : Hid _ := RB.keep HN.out HK2.out
  have HK5 : Hid _ := Kept.trans HK.out HK2.out
  obtain ⟨_, q0, q1, q2, f0, f1, f2⟩ := HN5.out
  obtain ⟨y0, y1, y2⟩ := put3_0 w2 (w.heap.size + 1) _ _ _ q0 q1 q2 (.slice none 0 0) (.slice none 0 0) (.slice none 0 0)
  have R : Hid (Kept 0 0 w _) := Kept.new HK5.out (put3_kept w2 (w.heap.size + 1) (.slice none 0 0) (.slice none 0 0) (.slice none 0 0)) (by omega)
  go_wp2_with fail
  refine bodyPost_ret (v := .tuple #[gnil, .int .i64 0, .int .i64 4]) (by simp [results, Try.results8, go_sem, y0, y1, y2]) rfl ⟨rfl, R.out⟩
set_option maxRecDepth 100000 in
set_option maxHeartbeats 4000000 in
theorem specGrad_run (w : World) (lo g1 g2 g3 n1 c1 n2 c2 n3 c3 : Nat) (s x : Nat) (ins : List Int) (vs : List Vl) (outs : List Int) (f : GO w lo g1 g2 g3 n2 ins vs outs) (e1 : ins.length = n1) (e3 : outs.length = n3) (hlt : ∀ v ∈ vs, v.k < 18446744073709551616) (h : okG ins vs outs = true) (hs : s < n2) (hx : x < n2) (h3 : (vs.getD s Vl.zero).len = 1) :
    Calls Try.prog 8 #[gagg (some ⟨g1, 0, none⟩) n1 c1 (some ⟨g2, 0, none⟩) n2 c2 (some ⟨g3, 0, none⟩) n3 c3, .int .i64 (s : Int), .int .i64 (x : Int)] w fun e w' => (limB (grM vs s x).1 = true → e = .returned (.tuple #[gnil, .int .i64 0, .int .i64 5])) ∧ (limB (grM vs s x).1 = false → GSOut w' n1 n3 ins outs (grM vs s x) e) ∧ Kept 0 0 w w' := by
  have hgs := f.gs hlt
  rw [e1, e3] at hgs
  have e2 : vs.length = n2 := f.v.len
  have hok := h
  unfold okG at hok
  simp only [Bool.and_eq_true, decide_eq_true_eq, e1, e2, e3] at hok
  obtain ⟨⟨l1, l2, l3⟩, _, hv, _, hc5⟩ := hok
  have hK := (kept_alloc 0 0 w (gbox (some ⟨g1, 0, none⟩) n1 c1 (some ⟨g2, 0, none⟩) n2 c2 (some ⟨g3, 0, none⟩) n3 c3)).trans (kept_alloc 0 0 _ nbox)
  have HX : Hid _ := specValid _ (some ⟨g1, 0, none⟩) (some ⟨g2, 0, none⟩) (some ⟨g3, 0, none⟩) n1 c1 n2 c2 n3 c3 ins vs outs (hgs.keep hK)
  rw [h] at HX
  have HK : Hid _ := hK
  have hN := rb_start (w.alloc (gbox (some ⟨g1, 0, none⟩) n1 c1 (some ⟨g2, 0, none⟩) n2 c2 (some ⟨g3, 0, none⟩) n3 c3))
  rw [show (w.alloc (gbox (some ⟨g1, 0, none⟩) n1 c1 (some ⟨g2, 0, none⟩) n2 c2 (some ⟨g3, 0, none⟩) n3 c3)).heap.size = w.heap.size + 1 by simp] at hN
  have HN : Hid _ := hN
  have HB : Hid _ := (g0_start w (.slice (some ⟨g1, 0, none⟩) n1 c1) (.slice (some ⟨g2, 0, none⟩) n2 c2) (.slice (some ⟨g3, 0, none⟩) n3 c3)).keep (kept_alloc 0 0 _ nbox)
  have HF : Hid _ := GO.keepJ f hK
  have HL3 : Hid _ := h3
  have HE : Hid (ins.length = n1 ∧ outs.length = n3 ∧ vs.length = n2) := ⟨e1, e3, e2⟩
  have hgr : AllV (grM vs s x).1 := grM_ok (gvs_of (ins := ins) (by rw [e2]; exact hv) hlt) (by omega) (by omega)
  have HJL : Hid (∀ k, k < (grM vs s x).1.length → 1 ≤ ((grM vs s x).1.getD k Vl.zero).len ∧ ((grM vs s x).1.getD k Vl.zero).len ≤ 1000) := fun k hk => by
    rw [List.getD_eq_getElem?_getD, List.getElem?_eq_getElem hk]
    have := hgr _ (List.getElem_mem hk)
    exact ⟨this.1, this.2.1⟩
  have HJK : Hid (∀ u ∈ (grM vs s x).1, u.k < 18446744073709551616) := fun u hu => (hgr u hu).2.2
  have HLJ : Hid (∀ W, GO W lo g1 g2 g3 n2 ins vs outs → _) := fun W (fw : GO W lo g1 g2 g3 n2 ins vs outs) => l2grad W lo g1 g2 g3 n1 c1 n2 c2 n3 c3 s x ins vs outs fw e1 e3 (by omega) l2 (by omega) hv hc5 hs hx
  have i0 : (0 : Int) ≤ (s : Int) := by omega
  have i1 : (s : Int) < (n2 : Int) := by omega
  have i2 : (0 : Int) ≤ (x : Int) := by omega
  have i3 : (x : Int) < (n2 : Int) := by omega
  clear hK h f hN h3 hv hc5 hgs hlt e2 e1 e3 hgr
  go_enter Try.func8, Try.ntmps8
  go_wp2_with fail
  generalize (w.alloc (gbox (some ⟨g1, 0, none⟩) n1 c1 (some ⟨g2, 0, none⟩) n2 c2 (some ⟨g3, 0, none⟩) n3 c3)).alloc nbox = wB at HX HK HN HB HF ⊢
  refine Calls.mono HX.out ?_
  rintro e w2 ⟨rfl, k2⟩
  have HK2 : Hid _ := k2
  obtain ⟨_, p0, p1, p2⟩ := G0.keep HB.out k2
  have hVA := (GO.keepJ HF.out k2).v
  have ct := (hVA.at_ s hs).c1
  rw [HL3.out] at ct
  clear hVA k2 HX
  go_wp2_with fail
  have HK5 : Hid _ := HK2.out
  generalize w2 = w5 at HK2 HK5 p0 p1 p2 ct ⊢
  clear HK2 p0 p1 p2 ct
  refine Calls.mono (HLJ.out w5 (GO.keepJ HF.out HK5.out)) ?_
  rintro e w6 ⟨⟨b1, d1, b3, d3, a2, cap, rfl, o1, o2, o3⟩, k6⟩
  have ka := kept_alloc 0 0 w6 (.cells #[.slice b1 n1 d1, .slice a2 (grM vs s x).1.length cap, .slice b3 n3 d3] 29)
  have HG : Hid (GL w6 w5.heap.size b1 n1 a2 (grM vs s x).1.length b3 n3 ins (grM vs s x).1 outs) := GL.of o1 o2 o3 HE.out.1 HE.out.2.1 HJK.out
  have HKZ : Hid (w.heap.size + 1 < w5.heap.size) := by have h1 := HN.out.sz; have h2 := HK5.out.size; exact Nat.lt_of_lt_of_le h1 h2
  have HK6 : Hid _ := Kept.trans HK5.out k6
  have HK65 : Hid (w5.heap.size ≤ w6.heap.size) := k6.size
  clear o1 o2 o3 k6 HLJ HK5 HB HF
  generalize hM : grM vs s x = M at HG HJL
  have HM : Hid (grM vs s x = M) := hM
  clear hM HJK
  obtain ⟨Ml, Mi⟩ := M
  simp only at HG HJL
  have HFT : Hid _ := l2fits _ b1 a2 b3 n1 d1 Ml.length cap n3 d3 ins Ml outs (HG.out.keep (kept_alloc 0 0 w6 (.cells #[.slice b1 n1 d1, .slice a2 Ml.length cap, .slice b3 n3 d3] 29)) (.inr (Nat.le_refl _))).gs HJL.out
  have HBX : Hid _ := g0_start w6 (.slice b1 n1 d1) (.slice a2 Ml.length cap) (.slice b3 n3 d3)
  have HK7 : Hid _ := Kept.trans HK6.out (kept_alloc 0 0 w6 (.cells #[.slice b1 n1 d1, .slice a2 Ml.length cap, .slice b3 n3 d3] 29))
  have HG7 : Hid _ := HG.out.keep (kept_alloc 0 0 w6 (.cells #[.slice b1 n1 d1, .slice a2 Ml.length cap, .slice b3 n3 d3] 29)) (.inr (Nat.le_refl _))
  clear HG HK6 ka
  simp only
  go_wp2_with fail
  generalize w6.alloc (.cells #[.slice b1 n1 d1, .slice a2 Ml.length cap, .slice b3 n3 d3] 29) = w7 at HFT HBX HK7 HG7 ⊢
  refine Calls.mono HFT.out ?_
  rintro e w8 ⟨rfl, k8⟩
  obtain ⟨_, r0, r1, r2⟩ := G0.keep HBX.out k8
  have HK8 : Hid _ := Kept.trans HK7.out k8
  have HG8 : Hid _ := HG7.out.keep k8 (.inr (Nat.le_refl _))
  have hXQ : w6.heap.size ≠ w.heap.size + 1 := by have := HKZ.out; have := HK65.out; omega
  obtain ⟨_, q0, q1, q2, f0, f1, f2⟩ := RB.keep HN.out HK8.out
  clear k8 HFT HBX HK7 HG7
  cases hlim : limB Ml
  · obtain ⟨y0, y1, y2⟩ := put3_0 w8 (w.heap.size + 1) _ _ _ q0 q1 q2 (.slice b1 n1 d1) (.slice a2 Ml.length cap) (.slice b3 n3 d3)
    have kp := put3_kept w8 (w.heap.size + 1) (.slice b1 n1 d1) (.slice a2 Ml.length cap) (.slice b3 n3 d3)
    have R0 : Hid (Kept 0 0 w _) := Kept.new (Kept.trans HK.out HK8.out) kp (by omega)
    have R1 : Hid (GS (((w8.setCell ⟨w.heap.size + 1, 0, none⟩ (.slice b1 n1 d1)).setCell ⟨w.heap.size + 1, 1, none⟩ (.slice a2 Ml.length cap)).setCell ⟨w.heap.size + 1, 2, none⟩ (.slice b3 n3 d3)) b1 n1 a2 Ml.length b3 n3 ins Ml outs) := (HG8.out.keep kp (.inl (by have := HKZ.out; omega))).gs
    clear kp
    go_wp2_with fail
    refine bodyPost_ret (v := .tuple #[gagg b1 n1 d1 a2 Ml.length cap b3 n3 d3, .int .i64 Mi, .int .i64 0]) (by simp [results, Try.results8, go_sem, y0, y1, y2]) rfl ⟨fun hf => ?_, fun _ => ?_, R0.out⟩
    · rw [HM.out, hlim] at hf
      cases hf
    · rw [HM.out]
      exact ⟨b1, d1, b3, d3, a2, cap, rfl, R1.out⟩
  · obtain ⟨y0, y1, y2⟩ := put3_0 w8 (w.heap.size + 1) _ _ _ q0 q1 q2 (.slice none 0 0) (.slice none 0 0) (.slice none 0 0)
    have R0 : Hid (Kept 0 0 w _) := Kept.new (Kept.trans HK.out HK8.out) (put3_kept w8 (w.heap.size + 1) (.slice none 0 0) (.slice none 0 0) (.slice none 0 0)) (by omega)
    go_wp2_with fail
    refine bodyPost_ret (v := .tuple #[gnil, .int .i64 0, .int .i64 5]) (by simp [results, Try.results8, go_sem, y0, y1, y2]) rfl ⟨fun _ => rfl, fun hf => ?_, R0.out⟩
    rw [HM.out, hlim] at hf
    cases hf
end Go.Proofs.Ytdkjdlimcnddkaa
