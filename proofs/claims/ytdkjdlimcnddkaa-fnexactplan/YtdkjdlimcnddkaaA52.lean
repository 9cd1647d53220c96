import Derived.Test.YtdkjdlimcnddkaaA51
namespace Go.Proofs.Ytdkjdlimcnddkaa
open Go.RowKit Flt
attribute [local go_sem] alloc_drewN setCell_drewN run_store_float
set_option maxRecDepth 100000 in
set_option maxHeartbeats 8000000 in
theorem fnPlan (w : World) (a1 a2 a3 : Option Addr) (n1 c1 n2 c2 n3 c3 : Nat) (bud : Int) (ins : List Int) (vs : List Vl) (outs : List Int) (f : GS w a1 n1 a2 n2 a3 n3 ins vs outs) (h : ¬ ((1048576 : Int) - n1 - n2 - n3 < 0)) :
    Calls Try.prog 4 #[gagg a1 n1 c1 a2 n2 c2 a3 n3 c3, .int .i64 bud] w fun e w' => e = .returned (.bool true) ∧ Below w.heap.size w w' := by
  have HZ : Hid _ := szGraph (w.alloc (.cells #[.slice a1 n1 c1, .slice a2 n2 c2, .slice a3 n3 c3] 25)) a1 a2 a3 n1 c1 n2 c2 n3 c3 1048576 (by omega) (by omega) (by omega) (by omega) (by omega)
  rw [if_neg h] at HZ
  have l1 : n1 ≤ 1048576 := by omega
  have l2 : n2 ≤ 1048576 := by omega
  have l3 : n3 ≤ 1048576 := by omega
  have HIL : Hid (ins.length = n1 ∧ outs.length = n3 ∧ vs.length = n2) := ⟨f.i.len, f.o.len, f.v.len⟩
  have HLT : Hid _ := f.v.lt
  have HSP : Hid (∀ W lo g1 g2 g3, GO W lo g1 g2 g3 n2 ins vs outs → _) := fun W lo g1 g2 g3 hO => specPl W lo g1 g2 g3 n1 n1 n2 n2 n3 n3 bud ins vs outs hO HIL.out.1 HIL.out.2.1 HLT.out
  have HIM : Hid (∀ W lo g1 g2 g3, GO W lo g1 g2 g3 n2 ins vs outs → _) := fun W lo g1 g2 g3 hO => implPl W lo g1 g2 g3 n1 n1 n2 n2 n3 n3 bud ins vs outs hO HIL.out.1 HIL.out.2.1 HLT.out
  have hul := q_len ins vs outs bud
  unfold PLv at HSP
  unfold PLu at HIM
  generalize qI ins vs outs bud = ui at HSP HIM hul
  generalize qS ins vs outs bud = us at HSP HIM hul
  generalize qO ins vs outs bud = uo at HSP HIM hul
  generalize qP ins vs outs bud = pk at HSP HIM
  generalize qC ins vs outs bud = cd at HSP HIM
  obtain ⟨m1, hm1⟩ : ∃ m, m = ui.length := ⟨_, rfl⟩
  obtain ⟨m2, hm2⟩ : ∃ m, m = us.length := ⟨_, rfl⟩
  obtain ⟨m3, hm3⟩ : ∃ m, m = uo.length := ⟨_, rfl⟩
  rw [← hm1, ← hm2, ← hm3] at HSP HIM hul
  obtain ⟨b1, b2, b3⟩ := hul
  have HM : Hid (ui.length = m1 ∧ us.length = m2 ∧ uo.length = m3) := ⟨hm1.symm, hm2.symm, hm3.symm⟩
  have ecd : (cd != cd) = false := by simp
  clear hm1 hm2 hm3
  go_enter Try.func4, Try.ntmps4
  go_wp2_with fail
  refine Calls.mono HZ.out ?_
  rintro e w1 ⟨rfl, k1⟩
  have hK := (kept_alloc 0 0 w (.cells #[.slice a1 n1 c1, .slice a2 n2 c2, .slice a3 n3 c3] 25)).trans k1
  have hB := (g0_startL w (.slice a1 n1 c1) (.slice a2 n2 c2) (.slice a3 n3 c3)).keep k1
  have HF : Hid _ := f.keep hK
  have HK1 : Hid _ := hK
  have HB1 : Hid _ := hB
  obtain ⟨_, q0, q1, q2⟩ := hB
  clear k1 HZ hK f
  go_wp2_with fail
  clear q0 q1 q2
  refine Calls.mono (toGraph _ a1 a2 a3 n1 c1 n2 c2 n3 c3 ins vs outs HF.out l1 l2 l3) ?_
  rintro e w2 ⟨g1, g2, g3, rfl, hO, k2⟩
  have HK2 : Hid _ := k2
  have HO2 : Hid _ := HSP.out w2 _ g1 g2 g3 hO
  clear k2 hO
  go_wp2_with fail
  refine Calls.mono HO2.out ?_
  rintro e w3 ⟨p1, d1, p2, d2, p3, d3, rfl, hW, k3⟩
  have k4 := kept_alloc 0 0 w3 (cbox p1 m1 d1 p2 m2 d2 p3 m3 d3 pk)
  have HF4 : Hid _ := GS.keep HF.out ((HK2.out.trans k3).trans k4)
  have HB4 : Hid _ := G0.keep HB1.out ((HK2.out.trans k3).trans k4)
  have HK4 : Hid _ := HK1.out.trans ((HK2.out.trans k3).trans k4)
  have HW4 : Hid _ := hW.keep k4
  have HX4 : Hid _ := c0_start w3 (.slice p1 m1 d1) (.slice p2 m2 d2) (.slice p3 m3 d3) (.int .i64 pk)
  clear k3 k4 hW HF HB1 HK1 HK2 HSP HO2
  go_upto_region 6 with fail
  generalize w3.alloc (cbox p1 m1 d1 p2 m2 d2 p3 m3 d3 pk) = w4 at HF4 HB4 HK4 HW4 HX4 ⊢
  generalize hX10 : w3.heap.size = X10 at HX4 ⊢
  clear hX10
  obtain ⟨_, q0, q1, q2⟩ := HB4.out
  go_wp2_with fail
  clear q0 q1 q2
  refine Calls.mono (toGraph w4 a1 a2 a3 n1 c1 n2 c2 n3 c3 ins vs outs HF4.out l1 l2 l3) ?_
  rintro e w5 ⟨x1, x2, x3, rfl, hO5, k5⟩
  have k6 := kept_alloc 0 0 w5 (gbox (some ⟨x1, 0, none⟩) n1 n1 (some ⟨x2, 0, none⟩) n2 n2 (some ⟨x3, 0, none⟩) n3 n3)
  have HO6 : Hid _ := GO.keepJ hO5 k6
  have HX6 : Hid _ := g0_start w5 (.slice (some ⟨x1, 0, none⟩) n1 n1) (.slice (some ⟨x2, 0, none⟩) n2 n2) (.slice (some ⟨x3, 0, none⟩) n3 n3)
  have HK46 : Hid _ := k5.trans k6
  have HXL : Hid (w4.heap.size ≤ x1 ∧ x1 < x2 ∧ x2 < x3 ∧ x3 < w5.heap.size) := ⟨hO5.l1, hO5.l2, hO5.l3, hO5.o.lt⟩
  have HZ6 : Hid ((w5.alloc (gbox (some ⟨x1, 0, none⟩) n1 n1 (some ⟨x2, 0, none⟩) n2 n2 (some ⟨x3, 0, none⟩) n3 n3)).heap.size = w5.heap.size + 1) := by show _ = _; simp
  clear k5 k6 hO5
  go_upto_region 7 with fail
  generalize w5.alloc (gbox (some ⟨x1, 0, none⟩) n1 n1 (some ⟨x2, 0, none⟩) n2 n2 (some ⟨x3, 0, none⟩) n3 n3) = w6 at HO6 HX6 HK46 HZ6 ⊢
  obtain ⟨_, y0, y1, y2⟩ := HX6.out
  go_wp2_with fail
  clear y0 y1 y2
  refine Calls.mono (HIM.out w6 _ x1 x2 x3 HO6.out) ?_
  rintro e w7 ⟨r1, v1, r2, v2, r3, v3, rfl, hOC, k7⟩
  have k8 := kept_alloc 0 0 w7 (cbox r1 m1 v1 r2 m2 v2 r3 m3 v3 pk)
  have HY8 : Hid _ := c0_start w7 (.slice r1 m1 v1) (.slice r2 m2 v2) (.slice r3 m3 v3) (.int .i64 pk)
  have HO8 : Hid _ := hOC.keep k8
  have HOB : Hid (∀ g, ((Value.slice r1 m1 v1).ownBlock = some g ∨ (Value.slice r2 m2 v2).ownBlock = some g ∨ (Value.slice r3 m3 v3).ownBlock = some g) → g < w7.heap.size) := fun g hg => by
    rcases hg with h | h | h
    · exact (own_blkV hOC.r1 h).2
    · exact (own_blkV hOC.r2 h).2
    · exact (own_blkV hOC.r3 h).2
  have HZ8 : Hid (w6.heap.size ≤ w7.heap.size ∧ (w7.alloc (cbox r1 m1 v1 r2 m2 v2 r3 m3 v3 pk)).heap.size = w7.heap.size + 1) := ⟨k7.size, by simp⟩
  have HX8 : Hid _ := G0.keep HX6.out (k7.trans k8)
  have HO68 : Hid _ := GO.keepJ HO6.out (k7.trans k8)
  have HK48 : Hid _ := HK46.out.trans (k7.trans k8)
  clear k7 k8 hOC HO6 HX6
  go_upto_region 8 with fail
  generalize w7.alloc (cbox r1 m1 v1 r2 m2 v2 r3 m3 v3 pk) = w8 at HY8 HO8 HZ8 HX8 HO68 HK48 ⊢
  generalize hp7 : w7.heap.size = p7 at HY8 HZ8 HOB ⊢
  clear hp7
  have HEQ : Hid (∀ W, OCd W w6.heap.size (.slice r1 m1 v1) (.slice r2 m2 v2) (.slice r3 m3 v3) ui us uo → CS W p1 m1 p2 m2 p3 m3 ui us uo → _) := fun W h1 h2 => eqCode W r1 r2 r3 p1 p2 p3 m1 v1 m2 v2 m3 v3 d1 d2 d3 pk ui us uo (h1.cs HM.out.1 HM.out.2.1 HM.out.2.2) h2 b1 b2 b3
  obtain ⟨_, y0, y1, y2, y3⟩ := HY8.out
  obtain ⟨_, q0, q1, q2, q3⟩ := C0.keep HX4.out HK48.out
  go_wp2_with fail
  clear y0 y1 y2 y3 q0 q1 q2 q3
  refine Calls.mono (HEQ.out w8 HO8.out (CS.keep HW4.out HK48.out)) ?_
  rintro e w9 ⟨rfl, k9⟩
  have HK9 : Hid _ := k9
  clear k9
  have HB9 : Hid _ := G0.keep HB4.out (HK48.out.trans HK9.out)
  have HF9 : Hid _ := GS.keep HF4.out (HK48.out.trans HK9.out)
  have HX9 : Hid _ := G0.keep HX8.out HK9.out
  have HO9 : Hid _ := GO.keepJ HO68.out HK9.out
  have HG9 : Hid _ := HO9.out.gs HLT.out
  rw [HIL.out.1, HIL.out.2.1] at HG9
  go_upto_region 10 with fail
  go_cut [49] (fun c wx => c = .bool false ∧ Hid (Kept 0 0 w9 wx))
  case first =>
    obtain ⟨_, q0, q1, q2⟩ := HB9.out
    obtain ⟨_, y0, y1, y2⟩ := HX9.out
    go_region_with (first
      | (go_at_call 9; refine Calls.mono (toGraph w9.drew a1 a2 a3 n1 c1 n2 c2 n3 c3 ins vs outs (GS.keep HF9.out (kept_drew w9)) l1 l2 l3) ?_; rintro e w10 ⟨z1, z2, z3, rfl, hO, k10⟩; obtain ⟨_, u0, u1, u2⟩ := G0.keep HX9.out ((kept_drew w9).trans k10))
      | (go_at_call 11; refine Calls.mono (eqGraph _ _ _ _ _ _ _ n1 n1 n2 n2 n3 n3 n1 n2 n3 ins vs outs (GS.keep HG9.out ((kept_drew w9).trans k10)) (by have := hO.gs HLT.out; rw [HIL.out.1, HIL.out.2.1] at this; exact this) l1 l2 l3) ?_; rintro e w11 ⟨rfl, k11⟩))
    all_goals (go_wp2_with fail; go_meet; exact ⟨rfl, ((kept_drew w9).trans k10).trans k11⟩)
  case rest =>
    obtain ⟨rfl, hk⟩ := hcut
    have HX10 : Hid _ := G0.keep HX9.out hk.out
    have HO10 : Hid _ := GO.keepJ HO9.out hk.out
    have HK10 : Hid _ := HK48.out.trans (HK9.out.trans hk.out)
    have HKT : Hid _ := HK9.out.trans hk.out
    clear HB9 HF9 HX9 HO9 HG9 HK9 hk HX8 HO68
    have hsz8 : w8.heap.size ≤ wc.heap.size := HKT.out.size
    have HMK : Hid _ := markOG wc x1 x2 x3 n1 n2 n3 n1 n2 n3 _ _ _ ins vs outs (HO10.out.og HIL.out.1 HIL.out.2.1) (by have h1 := HXL.out; have h2 := HZ6.out; have h3 := HZ8.out; omega) (by have h1 := HXL.out; have h2 := HZ6.out; have h3 := HZ8.out; omega) (by have h1 := HXL.out; have h2 := HZ6.out; have h3 := HZ8.out; omega) 1 (by omega) (by omega) l1 l2 l3
    obtain ⟨_, y0, y1, y2⟩ := HX10.out
    go_wp2_with fail
    clear y0 y1 y2
    refine Calls.mono HMK.out ?_
    rintro e w12 ⟨rfl, _, hc12⟩
    have HK12 : Hid (Kept 0 0 w4 w12) := Chg.kept HK10.out hc12 (fun i hi => by have h1 := HXL.out; omega)
    have HY12 : Hid _ := (C0.keep HY8.out HKT.out).keepC hc12 (by have h1 := HXL.out; have h2 := HZ6.out; have h3 := HZ8.out; omega)
    have HO12 : Hid _ := (HO8.out.keep HKT.out).keepC hc12 (fun g h1 _ h2 => by have e1 := HXL.out; have e2 := HZ6.out; omega)
    have HZ12 : Hid (p7 < w12.heap.size) := by have := hc12.size; have := HZ8.out; show _ < _; omega
    have hx1 : ¬ ((1 : Int) + n1 + 6 * n2 + n3 < 0) := by omega
    clear hc12 HMK HX10 HO10 HK10 HKT HO8 HY8
    obtain ⟨_, y0, y1, y2, y3⟩ := HY12.out
    obtain ⟨_, q0, q1, q2, q3⟩ := C0.keep HX4.out HK12.out
    go_wp2_with fail
    clear y0 y1 y2 y3 q0 q1 q2 q3
    refine Calls.mono (HEQ.out w12 HO12.out (CS.keep HW4.out HK12.out)) ?_
    rintro e w13 ⟨rfl, k13⟩
    have HK13 : Hid _ := HK12.out.trans k13
    have HY13 : Hid _ := C0.keep HY12.out k13
    have HO13 : Hid _ := HO12.out.keep k13
    have HZ13 : Hid (p7 < w13.heap.size) := Nat.lt_of_lt_of_le HZ12.out k13.size
    have hb13 : w6.heap.size ≤ w13.heap.size := by have := HZ8.out; have := HZ13.out; omega
    obtain ⟨h1, h2, h3, hoc, z1, z2, z3, z4, z5, z6, w7', w8', w9'⟩ := HO13.out.oc3 HM.out.1 HM.out.2.1 HM.out.2.2 hb13
    have hpn : ¬ (p7 = h1 ∨ p7 = h2 ∨ p7 = h3) := by
      have hlt := HZ13.out
      intro h
      rcases h with h | h | h
      · rcases w7' with o | o
        · have := HOB.out h1 (.inl o); omega
        · omega
      · rcases w8' with o | o
        · have := HOB.out h2 (.inr (.inl o)); omega
        · omega
      · rcases w9' with o | o
        · have := HOB.out h3 (.inr (.inr o)); omega
        · omega
    have HPN : Hid _ := hpn
    have HMK : Hid _ := markOC w13 h1 h2 h3 m1 m2 m3 v1 v2 v3 r1 r2 r3 pk ui us uo hoc z4 z5 z6 1 (by decide) (by decide) b1 b2 b3
    have HZB : Hid (w6.heap.size ≤ h1 ∧ w6.heap.size ≤ h2 ∧ w6.heap.size ≤ h3) := ⟨z1, z2, z3⟩
    clear HK12 HY12 HO12 HZ12 k13 hoc z1 z2 z3 z4 z5 z6 w7' w8' w9' hpn HO13 hb13
    obtain ⟨_, y0, y1, y2, y3⟩ := HY13.out
    go_wp2_with fail
    clear y0 y1 y2 y3
    refine Calls.mono HMK.out ?_
    rintro e w14 ⟨rfl, hM14, hc14⟩
    have HK14 : Hid (Kept 0 0 w4 w14) := Chg.kept HK13.out hc14 (fun i hi => by have q1 := HZB.out; have q2 := HK46.out.size; omega)
    have HY14 : Hid _ := HY13.out.keepC hc14 HPN.out
    have HM14 : Hid _ := hM14
    clear hM14 hc14 HMK HK13 HY13
    obtain ⟨_, y0, y1, y2, y3⟩ := HY14.out
    go_wp2_with fail
    clear y0 y1 y2 y3
    refine Calls.mono (heldOC w14 h1 h2 h3 m1 m2 m3 v1 v2 v3 r1 r2 r3 pk 1 HM14.out (by decide) (by decide) b1 b2 b3) ?_
    rintro e w15 ⟨rfl, k15⟩
    have HK15 : Hid _ := HK14.out.trans k15
    clear k15 HK14 HY14 HM14
    have hk2 : ¬ ((1 : Int) + m1 + 8 * m2 + 2 * m3 < 0) := by omega
    generalize (1 : Int) + m1 + 8 * m2 + 2 * m3 = kv2 at hk2 ⊢
    have e1' : (kv2 != kv2) = false := by simp
    obtain ⟨_, q0, q1, q2⟩ := G0.keep HB4.out HK15.out
    go_wp2_with fail
    clear q0 q1 q2
    refine Calls.mono (toGraph w15 a1 a2 a3 n1 c1 n2 c2 n3 c3 ins vs outs (GS.keep HF4.out HK15.out) l1 l2 l3) ?_
    rintro e w16 ⟨z1, z2, z3, rfl, hO16, k16⟩
    have HK16 : Hid _ := HK15.out.trans k16
    have HI16 : Hid _ := HIM.out w16 _ z1 z2 z3 hO16
    clear hO16 k16 HK15
    go_wp2_with fail
    refine Calls.mono HI16.out ?_
    rintro e w17 ⟨s1, f1, s2, f2, s3, f3, rfl, hOC, k17⟩
    have k18 := kept_alloc 0 0 w17 (cbox s1 m1 f1 s2 m2 f2 s3 m3 f3 pk)
    have HG18 : Hid _ := (hOC.keep k18).cs HM.out.1 HM.out.2.1 HM.out.2.2
    have HY18 : Hid _ := c0_start w17 (.slice s1 m1 f1) (.slice s2 m2 f2) (.slice s3 m3 f3) (.int .i64 pk)
    have HK18 : Hid _ := HK16.out.trans (k17.trans k18)
    clear k17 k18 hOC HK16 HI16 HIM
    go_upto_region 25 with fail
    generalize w17.alloc (cbox s1 m1 f1 s2 m2 f2 s3 m3 f3 pk) = w18 at HG18 HY18 HK18 ⊢
    generalize w17.heap.size = p17 at HY18 ⊢
    obtain ⟨_, u0, u1, u2, u3⟩ := HY18.out
    obtain ⟨_, y0, y1, y2, y3⟩ := C0.keep HX4.out HK18.out
    go_wp2_with fail
    clear u0 u1 u2 u3 y0 y1 y2 y3
    refine Calls.mono (eqCode w18 s1 s2 s3 p1 p2 p3 m1 f1 m2 f2 m3 f3 d1 d2 d3 pk ui us uo HG18.out (CS.keep HW4.out HK18.out) b1 b2 b3) ?_
    rintro e w19 ⟨rfl, k19⟩
    have R : Hid _ := HK4.out.trans (HK18.out.trans k19)
    clear k19
    go_wp2
    go_ret
    exact ⟨rfl, R.out.below⟩
end Go.Proofs.Ytdkjdlimcnddkaa
