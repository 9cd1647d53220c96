import Derived.Test.YtcphabjekfihnaaJ23
import Derived.Test.YtcphabjekfihnaaP20
namespace Go.Proofs.Ytcphabjekfihnaa
open Go.RowKit Flt
attribute [local go_sem] alloc_drewN setCell_drewN run_store_float

set_option maxRecDepth 100000 in
set_option maxHeartbeats 2000000 in
theorem fnJvp_long (w : World) (a1 a2 a3 : Option Addr) (n1 c1 n2 c2 n3 c3 : Nat) (s x t : Int) (hn1 : n1 ≤ 9223372036854775807) (hn2 : n2 ≤ 9223372036854775807) (hn3 : n3 ≤ 9223372036854775807) (h : (1048576 : Int) - n1 - n2 - n3 < 0) :
    Calls Try.prog 11 #[gagg a1 n1 c1 a2 n2 c2 a3 n3 c3, .int .i64 s, .int .i64 x, .int .i64 t] w fun e w' => e = .returned (.bool true) ∧ Below w.heap.size w w' := by
  have HZ : Hid _ := szGraph (w.alloc (.cells #[.slice a1 n1 c1, .slice a2 n2 c2, .slice a3 n3 c3] 49)) a1 a2 a3 n1 c1 n2 c2 n3 c3 1048576 (by omega) (by omega) hn1 hn2 hn3
  rw [if_pos h] at HZ
  clear hn1 hn2 hn3 h
  go_enter Try.func11, Try.ntmps11
  go_wp2_with fail
  refine Calls.mono HZ.out ?_
  rintro e w1 ⟨rfl, k1⟩
  go_wp2
  go_ret
  exact ⟨rfl, ((kept_alloc 0 0 w _).trans k1).below⟩

set_option maxRecDepth 100000 in
set_option maxHeartbeats 8000000 in
theorem fnJvp (w : World) (a1 a2 a3 : Option Addr) (n1 c1 n2 c2 n3 c3 : Nat) (s x t : Int) (ins : List Int) (vs : List Vl) (outs : List Int) (f : GS w a1 n1 a2 n2 a3 n3 ins vs outs) (h : ¬ ((1048576 : Int) - n1 - n2 - n3 < 0)) :
    Calls Try.prog 11 #[gagg a1 n1 c1 a2 n2 c2 a3 n3 c3, .int .i64 s, .int .i64 x, .int .i64 t] w fun e w' => e = .returned (.bool true) ∧ Below w.heap.size w w' := by
  have HZ : Hid _ := szGraph (w.alloc (.cells #[.slice a1 n1 c1, .slice a2 n2 c2, .slice a3 n3 c3] 49)) a1 a2 a3 n1 c1 n2 c2 n3 c3 1048576 (by omega) (by omega) (by omega) (by omega) (by omega)
  rw [if_neg h] at HZ
  have l1 : n1 ≤ 1048576 := by omega
  have l2 : n2 ≤ 1048576 := by omega
  have l3 : n3 ≤ 1048576 := by omega
  have HIL : Hid (ins.length = n1 ∧ outs.length = n3 ∧ vs.length = n2) := ⟨f.i.len, f.o.len, f.v.len⟩
  have HLT : Hid _ := f.v.lt
  have HJL : Hid _ := jres_len (ins := ins) (vs := vs) (outs := outs) (s := s) (x := x) (t := t) (by rw [f.i.len]; exact l1) (by rw [f.o.len]; exact l3)
  go_enter Try.func11, Try.ntmps11
  go_wp2_with fail
  refine Calls.mono HZ.out ?_
  rintro e w1 ⟨rfl, k1⟩
  have hK := (kept_alloc 0 0 w (.cells #[.slice a1 n1 c1, .slice a2 n2 c2, .slice a3 n3 c3] 49)).trans k1
  have hB := (g0_startL w (.slice a1 n1 c1) (.slice a2 n2 c2) (.slice a3 n3 c3)).keep k1
  have HF : Hid _ := f.keep hK
  have HK1 : Hid _ := hK
  have HB1 : Hid _ := hB
  obtain ⟨_, q0, q1, q2⟩ := hB
  clear k1 HZ hK f
  generalize hJ : jres ins vs outs s x t = J at HJL
  have HJ : Hid (jres ins vs outs s x t = J) := hJ
  clear hJ
  obtain ⟨Ji, Jv, Jo, Ja, Jc⟩ := J
  go_wp2_with fail
  clear q0 q1 q2
  refine Calls.mono (toGraph _ a1 a2 a3 n1 c1 n2 c2 n3 c3 ins vs outs HF.out l1 l2 l3) ?_
  rintro e w2 ⟨g1, g2, g3, rfl, hO, k2⟩
  have HSP : Hid _ := specJ w2 0 g1 g2 g3 n1 n1 n2 n2 n3 n3 s x t ins vs outs hO.gn HIL.out.1 HIL.out.2.1 HLT.out
  rw [HJ.out] at HSP
  have HK2 : Hid _ := k2
  clear k2 hO
  go_wp2_with fail
  refine Calls.mono HSP.out ?_
  rintro e w3 ⟨⟨p1, d1, p2, d2, p3, d3, rfl, hW⟩, k3⟩
  have k4 := kept_alloc 0 0 w3 (gbox p1 Ji.length d1 p2 Jv.length d2 p3 Jo.length d3)
  have HF4 : Hid _ := GS.keep HF.out ((HK2.out.trans k3).trans k4)
  have HB4 : Hid _ := G0.keep HB1.out ((HK2.out.trans k3).trans k4)
  have HK4 : Hid _ := HK1.out.trans ((HK2.out.trans k3).trans k4)
  have HW4 : Hid _ := hW.keep k4
  have HX4 : Hid _ := g0_start w3 (.slice p1 Ji.length d1) (.slice p2 Jv.length d2) (.slice p3 Jo.length d3)
  clear k3 k4 hW HF HB1 HK1 HK2 HSP
  simp only at HW4 HX4 HJL ⊢
  obtain ⟨_, q0, q1, q2⟩ := HB4.out
  go_wp2_with fail
  clear q0 q1 q2
  generalize w3.alloc (gbox p1 Ji.length d1 p2 Jv.length d2 p3 Jo.length d3) = w4 at HF4 HB4 HK4 HW4 HX4 ⊢
  generalize hX10 : w3.heap.size = X10 at HX4 ⊢
  clear hX10
  refine Calls.mono (toGraph w4 a1 a2 a3 n1 c1 n2 c2 n3 c3 ins vs outs HF4.out l1 l2 l3) ?_
  rintro e w5 ⟨x1, x2, x3, rfl, hO5, k5⟩
  have k6 := kept_alloc 0 0 w5 (gbox (some ⟨x1, 0, none⟩) n1 n1 (some ⟨x2, 0, none⟩) n2 n2 (some ⟨x3, 0, none⟩) n3 n3)
  have HO6 : Hid _ := GO.keepJ hO5 k6
  have HX6 : Hid _ := g0_start w5 (.slice (some ⟨x1, 0, none⟩) n1 n1) (.slice (some ⟨x2, 0, none⟩) n2 n2) (.slice (some ⟨x3, 0, none⟩) n3 n3)
  have HK46 : Hid _ := k5.trans k6
  have HXL : Hid (w4.heap.size ≤ x1 ∧ x1 < x2 ∧ x2 < x3 ∧ x3 < w5.heap.size) := ⟨hO5.l1, hO5.l2, hO5.l3, hO5.o.lt⟩
  have HZ6 : Hid ((w5.alloc (gbox (some ⟨x1, 0, none⟩) n1 n1 (some ⟨x2, 0, none⟩) n2 n2 (some ⟨x3, 0, none⟩) n3 n3)).heap.size = w5.heap.size + 1) := by show _ = _; simp
  clear k5 k6 hO5
  obtain ⟨_, y0, y1, y2⟩ := HX6.out
  go_wp2_with fail
  clear y0 y1 y2
  generalize w5.alloc (gbox (some ⟨x1, 0, none⟩) n1 n1 (some ⟨x2, 0, none⟩) n2 n2 (some ⟨x3, 0, none⟩) n3 n3) = w6 at HO6 HX6 HK46 HZ6 ⊢
  have HIM : Hid _ := implJ w6 0 x1 x2 x3 n1 n1 n2 n2 n3 n3 s x t ins vs outs HO6.out.gn HIL.out.1 HIL.out.2.1 HLT.out
  rw [HJ.out] at HIM
  refine Calls.mono HIM.out ?_
  rintro e w7 ⟨⟨r1, v1, r2, v2, r3, v3, rfl, hKb, hOG⟩, k7⟩
  simp only at hKb hOG ⊢
  have HKb : Hid _ := hKb
  have HOG : Hid _ := hOG
  have k8 := kept_alloc 0 0 w7 (gbox r1 Ji.length v1 r2 Jv.length v2 r3 Jo.length v3)
  have HK8 : Hid _ := k7.trans k8
  have HY8 : Hid _ := g0_start w7 (.slice r1 Ji.length v1) (.slice r2 Jv.length v2) (.slice r3 Jo.length v3)
  have HZ8 : Hid (w6.heap.size ≤ w7.heap.size ∧ (w7.alloc (gbox r1 Ji.length v1 r2 Jv.length v2 r3 Jo.length v3)).heap.size = w7.heap.size + 1) := ⟨k7.size, by simp⟩
  have HG8 : Hid (GS (w7.alloc (gbox r1 Ji.length v1 r2 Jv.length v2 r3 Jo.length v3)) r1 Ji.length r2 Jv.length r3 Jo.length Ji Jv Jo) := by
    obtain ⟨h1, h2, h3, ho, _, _⟩ := hOG w7.heap.size (Nat.le_refl _)
    exact (ho.gs rfl rfl rfl hKb).keep k8
  have HO8 : Hid (∀ H, (w7.alloc (gbox r1 Ji.length v1 r2 Jv.length v2 r3 Jo.length v3)).heap.size ≤ H → ∃ g1 g2 g3, OG (w7.alloc (gbox r1 Ji.length v1 r2 Jv.length v2 r3 Jo.length v3)) g1 g2 g3 r1 Ji.length r2 Jv.length r3 Jo.length Ji Jv Jo ∧ (w6.heap.size ≤ g1 ∧ w6.heap.size ≤ g2 ∧ w6.heap.size ≤ g3) ∧ ((g1 < w7.heap.size ∨ H < g1) ∧ (g2 < w7.heap.size ∨ H < g2) ∧ (g3 < w7.heap.size ∨ H < g3))) := fun H hH => by
    obtain ⟨h1, h2, h3, ho, hp, hq⟩ := hOG H (by simp at hH; omega)
    exact ⟨h1, h2, h3, ho.keep k8, hp, hq⟩
  have HX8 : Hid _ := G0.keep HX6.out (k7.trans k8)
  have HO68 : Hid _ := GO.keepJ HO6.out (k7.trans k8)
  have HK48 : Hid _ := HK46.out.trans (k7.trans k8)
  clear k7 k8 hKb hOG HIM HOG HO6 HX6
  have HQ8 : Hid _ := G0.keep HX4.out HK48.out
  obtain ⟨_, u0, u1, u2⟩ := HY8.out
  obtain ⟨_, y0, y1, y2⟩ := HQ8.out
  have HE8 : Hid _ := eqGraph _ r1 r2 r3 p1 p2 p3 Ji.length v1 Jv.length v2 Jo.length v3 d1 d2 d3 Ji Jv Jo HG8.out (GS.keep HW4.out HK48.out) HJL.out.1 HJL.out.2.1 HJL.out.2.2
  have ta : (Ja != Ja) = false := by simp
  have tc : (Jc != Jc) = false := by simp
  go_wp2_with fail
  clear u0 u1 u2 y0 y1 y2
  generalize w7.alloc (gbox r1 Ji.length v1 r2 Jv.length v2 r3 Jo.length v3) = w8 at HK8 HY8 HZ8 HG8 HO8 HX8 HO68 HK48 HE8 HQ8 ⊢
  refine Calls.mono HE8.out ?_
  rintro e w9 ⟨rfl, k9⟩
  have HK9 : Hid _ := k9
  clear HE8 k9
  have HB9 : Hid _ := G0.keep HB4.out (HK48.out.trans HK9.out)
  have HF9 : Hid _ := GS.keep HF4.out (HK48.out.trans HK9.out)
  have HX9 : Hid _ := G0.keep HX8.out HK9.out
  have HO9 : Hid _ := GO.keepJ HO68.out HK9.out
  have HG9 : Hid _ := HO9.out.gs HLT.out
  rw [HIL.out.1, HIL.out.2.1] at HG9
  go_upto_region 10 with fail
  go_cut [67] (fun c wx => c = .bool false ∧ Hid (Kept 0 0 w9 wx))
  case first =>
    obtain ⟨_, q0, q1, q2⟩ := HB9.out
    obtain ⟨_, y0, y1, y2⟩ := HX9.out
    go_region_with (first
      | (go_at_call 37; refine Calls.mono (toGraph w9.drew a1 a2 a3 n1 c1 n2 c2 n3 c3 ins vs outs (GS.keep HF9.out (kept_drew w9)) l1 l2 l3) ?_; rintro e w10 ⟨z1, z2, z3, rfl, hO, k10⟩; obtain ⟨_, u0, u1, u2⟩ := G0.keep HX9.out ((kept_drew w9).trans k10))
      | (go_at_call 39; refine Calls.mono (eqGraph _ _ _ _ _ _ _ n1 n1 n2 n2 n3 n3 n1 n2 n3 ins vs outs (GS.keep HG9.out ((kept_drew w9).trans k10)) (by have := hO.gs HLT.out; rw [HIL.out.1, HIL.out.2.1] at this; exact this) l1 l2 l3) ?_; rintro e w11 ⟨rfl, k11⟩))
    all_goals (go_wp2_with fail; go_meet; exact ⟨rfl, ((kept_drew w9).trans k10).trans k11⟩)
  case rest =>
    obtain ⟨rfl, hk⟩ := hcut
    have HX10 : Hid _ := G0.keep HX9.out hk.out
    have HO10 : Hid _ := GO.keepJ HO9.out hk.out
    have HK10 : Hid _ := HK48.out.trans (HK9.out.trans hk.out)
    have HKT : Hid _ := HK9.out.trans hk.out
    clear HB9 HF9 HX9 HO9 HG9 HK9 hk HX8 HO68
    have hsz8 : w8.heap.size ≤ wc.heap.size := HKT.out.size
    have HMK : Hid _ := markOG wc x1 x2 x3 n1 n2 n3 n1 n2 n3 _ _ _ ins vs outs (HO10.out.og HIL.out.1 HIL.out.2.1) (by have h1 := HXL.out; have h2 := HZ6.out; have h3 := HZ8.out; omega) (by have h1 := HXL.out; have h2 := HZ6.out; have h3 := HZ8.out; omega) (by have h1 := HXL.out; have h2 := HZ6.out; have h3 := HZ8.out; omega) 1 (by omega) (by omega) l1 l2 l3
    obtain ⟨_, y0, y1, y2⟩ := HX10.out
    go_wp2_with fail
    clear y0 y1 y2
    refine Calls.mono HMK.out ?_
    rintro e w12 ⟨rfl, _, hc12⟩
    have HK12 : Hid (Kept 0 0 w4 w12) := Chg.kept HK10.out hc12 (fun i hi => by have h1 := HXL.out; omega)
    have HC12 : Hid _ := hc12
    have hz12 := hc12.size
    have HY12 : Hid _ := (G0.keep HY8.out HKT.out).keepC hc12 (by have h1 := HXL.out; have h2 := HZ6.out; have h3 := HZ8.out; omega)
    have HO12 : Hid (∀ H, w12.heap.size ≤ H → ∃ g1 g2 g3, OG w12 g1 g2 g3 r1 Ji.length r2 Jv.length r3 Jo.length Ji Jv Jo ∧ (w6.heap.size ≤ g1 ∧ w6.heap.size ≤ g2 ∧ w6.heap.size ≤ g3) ∧ ((g1 < w7.heap.size ∨ H < g1) ∧ (g2 < w7.heap.size ∨ H < g2) ∧ (g3 < w7.heap.size ∨ H < g3))) := fun H hH => by
      obtain ⟨h1, h2, h3, ho, hp, hq⟩ := HO8.out H (by omega)
      have e1 := HXL.out
      have e2 := HZ6.out
      exact ⟨h1, h2, h3, (ho.keep HKT.out).keepC hc12 (by omega) (by omega) (by omega), hp, hq⟩
    have HG12 : Hid (GS w12 r1 Ji.length r2 Jv.length r3 Jo.length Ji Jv Jo) := by
      obtain ⟨h1, h2, h3, ho, _, _⟩ := HO12.out w12.heap.size (Nat.le_refl _)
      exact ho.gs rfl rfl rfl HKb.out
    have HE12 : Hid _ := eqGraph _ r1 r2 r3 p1 p2 p3 Ji.length v1 Jv.length v2 Jo.length v3 d1 d2 d3 Ji Jv Jo HG12.out (GS.keep HW4.out HK12.out) HJL.out.1 HJL.out.2.1 HJL.out.2.2
    have hx1 : ¬ ((1 : Int) + n1 + 6 * n2 + n3 < 0) := by omega
    clear hc12 HMK HX10 HO10 HK10 HKT HO8 HG8 HC12
    obtain ⟨_, u0, u1, u2⟩ := HY12.out
    obtain ⟨_, y0, y1, y2⟩ := G0.keep HX4.out HK12.out
    go_wp2_with fail
    clear u0 u1 u2 y0 y1 y2
    refine Calls.mono HE12.out ?_
    rintro e w13 ⟨rfl, k13⟩
    have HK13 : Hid _ := HK12.out.trans k13
    have HY13 : Hid _ := G0.keep HY12.out k13
    have hz13 := k13.size
    obtain ⟨h1, h2, h3, ho, hp, hq⟩ := HO12.out w13.heap.size hz13
    have HO13 : Hid _ := ho.keep k13
    have HPQ : Hid ((w6.heap.size ≤ h1 ∧ w6.heap.size ≤ h2 ∧ w6.heap.size ≤ h3) ∧ ((h1 < w7.heap.size ∨ w13.heap.size < h1) ∧ (h2 < w7.heap.size ∨ w13.heap.size < h2) ∧ (h3 < w7.heap.size ∨ w13.heap.size < h3)) ∧ w7.heap.size < w13.heap.size) := ⟨hp, hq, by have q3 := HZ8.out; omega⟩
    have HMK : Hid _ := markOG w13 h1 h2 h3 Ji.length Jv.length Jo.length v1 v2 v3 r1 r2 r3 Ji Jv Jo HO13.out (by have := HPQ.out; omega) (by have := HPQ.out; omega) (by have := HPQ.out; omega) 1 (by omega) (by omega) HJL.out.1 HJL.out.2.1 HJL.out.2.2
    clear HE12 HK12 HY12 HO12 HG12 k13 ho hp hq
    obtain ⟨_, u0, u1, u2⟩ := HY13.out
    go_wp2_with fail
    clear u0 u1 u2
    refine Calls.mono HMK.out ?_
    rintro e w14 ⟨rfl, hM14, hc14⟩
    have HK14 : Hid (Kept 0 0 w4 w14) := Chg.kept HK13.out hc14 (fun i hi => by have q1 := HPQ.out; have q2 := HK46.out.size; omega)
    have HY14 : Hid _ := HY13.out.keepC hc14 (by have := HPQ.out; omega)
    have HHD : Hid _ := heldOM w14 h1 h2 h3 Ji.length Jv.length Jo.length v1 v2 v3 r1 r2 r3 1 hM14 (by omega) (by omega) HJL.out.1 HJL.out.2.1 HJL.out.2.2
    clear hM14 hc14 HMK HO13 HK13 HY13
    obtain ⟨_, u0, u1, u2⟩ := HY14.out
    go_wp2_with fail
    clear u0 u1 u2
    refine Calls.mono HHD.out ?_
    rintro e w15 ⟨rfl, k15⟩
    have HK15 : Hid _ := HK14.out.trans k15
    clear HHD k15 HK14 HY14
    have hx2 : ¬ ((1 : Int) + Ji.length + 6 * Jv.length + Jo.length < 0) := by omega
    have hx3 : ((1 : Int) + Ji.length + 6 * Jv.length + Jo.length != 1 + Ji.length + 6 * Jv.length + Jo.length) = false := by simp
    obtain ⟨_, q0, q1, q2⟩ := G0.keep HB4.out HK15.out
    go_wp2_with fail
    clear q0 q1 q2
    refine Calls.mono (toGraph w15 a1 a2 a3 n1 c1 n2 c2 n3 c3 ins vs outs (GS.keep HF4.out HK15.out) l1 l2 l3) ?_
    rintro e w16 ⟨z1, z2, z3, rfl, hO16, k16⟩
    have HIM : Hid _ := implJ w16 0 z1 z2 z3 n1 n1 n2 n2 n3 n3 s x t ins vs outs hO16.gn HIL.out.1 HIL.out.2.1 HLT.out
    rw [HJ.out] at HIM
    have HK16 : Hid _ := HK15.out.trans k16
    clear hO16 k16 HK15
    go_wp2_with fail
    refine Calls.mono HIM.out ?_
    rintro e w17 ⟨⟨s1, f1, s2, f2, s3, f3, rfl, hKb2, hOG2⟩, k17⟩
    simp only at hKb2 hOG2 ⊢
    have k18 := kept_alloc 0 0 w17 (gbox s1 Ji.length f1 s2 Jv.length f2 s3 Jo.length f3)
    have HG18 : Hid (GS (w17.alloc (gbox s1 Ji.length f1 s2 Jv.length f2 s3 Jo.length f3)) s1 Ji.length s2 Jv.length s3 Jo.length Ji Jv Jo) := by
      obtain ⟨_, _, _, ho, _, _⟩ := hOG2 w17.heap.size (Nat.le_refl _)
      exact (ho.gs rfl rfl rfl hKb2).keep k18
    have HY18 : Hid _ := g0_start w17 (.slice s1 Ji.length f1) (.slice s2 Jv.length f2) (.slice s3 Jo.length f3)
    have HK18 : Hid _ := HK16.out.trans (k17.trans k18)
    have HE18 : Hid _ := eqGraph _ s1 s2 s3 p1 p2 p3 Ji.length f1 Jv.length f2 Jo.length f3 d1 d2 d3 Ji Jv Jo HG18.out (GS.keep HW4.out HK18.out) HJL.out.1 HJL.out.2.1 HJL.out.2.2
    obtain ⟨_, u0, u1, u2⟩ := HY18.out
    obtain ⟨_, y0, y1, y2⟩ := G0.keep HX4.out HK18.out
    clear k17 k18 hKb2 hOG2 HIM HK16 HG18
    go_wp2_with fail
    clear u0 u1 u2 y0 y1 y2
    generalize w17.alloc (gbox s1 Ji.length f1 s2 Jv.length f2 s3 Jo.length f3) = w18 at HY18 HK18 HE18 ⊢
    refine Calls.mono HE18.out ?_
    rintro e w19 ⟨rfl, k19⟩
    have R : Hid _ := HK4.out.trans (HK18.out.trans k19)
    clear k19 HE18
    go_wp2
    go_ret
    exact ⟨rfl, R.out.below⟩
end Go.Proofs.Ytcphabjekfihnaa
