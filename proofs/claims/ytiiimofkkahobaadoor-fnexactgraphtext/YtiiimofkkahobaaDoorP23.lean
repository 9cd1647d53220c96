import Derived.Test.YtiiimofkkahobaaDoorP22
import Derived.Test.YtiiimofkkahobaaDoorP09
namespace Go.Proofs.YtiiimofkkahobaaDoor
open Go.RowKit Flt
attribute [local go_sem] alloc_drewN setCell_drewN run_store_float

set_option maxRecDepth 100000 in
set_option maxHeartbeats 2000000 in
theorem fnText_long (w : World) (a1 a2 a3 : Option Addr) (n1 c1 n2 c2 n3 c3 : Nat) (hn1 : n1 ≤ 9223372036854775807) (hn2 : n2 ≤ 9223372036854775807) (hn3 : n3 ≤ 9223372036854775807) (h : (1048576 : Int) - n1 - n2 - n3 < 0) :
    Calls Tryd.prog 3 #[gagg a1 n1 c1 a2 n2 c2 a3 n3 c3] w fun e w' => e = .returned (.bool true) ∧ Below w.heap.size w w' := by
  have HZ : Hid _ := szGraph (w.alloc (.cells #[.slice a1 n1 c1, .slice a2 n2 c2, .slice a3 n3 c3] 25)) a1 a2 a3 n1 c1 n2 c2 n3 c3 1048576 (by omega) (by omega) hn1 hn2 hn3
  rw [if_pos h] at HZ
  clear hn1 hn2 hn3 h
  go_enter Tryd.func3, Tryd.ntmps3
  go_wp2_with fail
  refine Calls.mono HZ.out ?_
  rintro e w1 ⟨rfl, k1⟩
  go_wp2
  go_ret
  exact ⟨rfl, ((kept_alloc 0 0 w _).trans k1).below⟩
/-- What stands through the law from w3 on: the argument, its box, the model's text, the tables. -/
structure LwT (w3 W : World) (p : Nat) (a1 : Option Addr) (n1 c1 : Nat) (a2 : Option Addr) (n2 c2 : Nat) (a3 : Option Addr) (n3 c3 : Nat) (ins : List Int) (vs : List Vl) (outs : List Int) (aw : Option Addr) (N : Nat) (bs : List Int) : Prop where
  f : GS W a1 n1 a2 n2 a3 n3 ins vs outs
  b : G0 W p (.slice a1 n1 c1) (.slice a2 n2 c2) (.slice a3 n3 c3)
  y : YS W aw N bs
  t : Tabs W
  k : Kept 0 0 w3 W
theorem LwT.keep {w3 W W' : World} {p : Nat} {a1 : Option Addr} {n1 c1 : Nat} {a2 : Option Addr} {n2 c2 : Nat} {a3 : Option Addr} {n3 c3 : Nat} {ins : List Int} {vs : List Vl} {outs : List Int} {aw : Option Addr} {N : Nat} {bs : List Int} (h : LwT w3 W p a1 n1 c1 a2 n2 c2 a3 n3 c3 ins vs outs aw N bs) (k : Kept 0 0 W W') : LwT w3 W' p a1 n1 c1 a2 n2 c2 a3 n3 c3 ins vs outs aw N bs :=
  ⟨h.f.keep k, h.b.keep k, h.y.keep k, h.t.keep k, h.k.trans k⟩
theorem LwT.turn {w3 W W' : World} {p : Nat} {a1 : Option Addr} {n1 c1 : Nat} {a2 : Option Addr} {n2 c2 : Nat} {a3 : Option Addr} {n3 c3 : Nat} {ins : List Int} {vs : List Vl} {outs : List Int} {aw : Option Addr} {N : Nat} {bs : List Int} (h0 : LwT w3 w3 p a1 n1 c1 a2 n2 c2 a3 n3 c3 ins vs outs aw N bs) (h : LwT w3 W p a1 n1 c1 a2 n2 c2 a3 n3 c3 ins vs outs aw N bs) {S : Nat → Prop} (k : Chg S W W') (hS : ∀ i, S i → w3.heap.size ≤ i) : LwT w3 W' p a1 n1 c1 a2 n2 c2 a3 n3 c3 ins vs outs aw N bs := by
  have kk : Kept 0 0 w3 W' := Chg.kept h.k k hS
  exact ⟨h0.f.keep kk, h0.b.keep kk, h0.y.keep kk, h0.t.keep kk, kk⟩
set_option maxRecDepth 100000 in
set_option maxHeartbeats 4000000 in
theorem fnText (w : World) (a1 a2 a3 : Option Addr) (n1 c1 n2 c2 n3 c3 : Nat) (ins : List Int) (vs : List Vl) (outs : List Int) (f : GS w a1 n1 a2 n2 a3 n3 ins vs outs) (T : Tabs w) (h : ¬ ((1048576 : Int) - n1 - n2 - n3 < 0)) :
    Calls Tryd.prog 3 #[gagg a1 n1 c1 a2 n2 c2 a3 n3 c3] w fun e w' => e = .returned (.bool true) ∧ Below w.heap.size w w' := by
  have HZ : Hid _ := szGraph (w.alloc (.cells #[.slice a1 n1 c1, .slice a2 n2 c2, .slice a3 n3 c3] 25)) a1 a2 a3 n1 c1 n2 c2 n3 c3 1048576 (by omega) (by omega) (by omega) (by omega) (by omega)
  rw [if_neg h] at HZ
  have l1 : n1 ≤ 1048576 := by omega
  have l2 : n2 ≤ 1048576 := by omega
  have l3 : n3 ≤ 1048576 := by omega
  have HIL : Hid (ins.length = n1 ∧ outs.length = n3 ∧ vs.length = n2) := ⟨f.i.len, f.o.len, f.v.len⟩
  have HLT : Hid _ := f.v.lt
  have HYL : Hid _ := tx_lt ins vs outs
  have hN := tx_len ins vs outs f.v.lt
  have HIS : Hid (∀ W a1 a2 a3 c1 c2 c3, GS W a1 n1 a2 n2 a3 n3 ins vs outs → Tabs W → _) := fun W a1 a2 a3 c1 c2 c3 f T => implTx W a1 a2 a3 n1 c1 n2 c2 n3 c3 ins vs outs f T
  have HSS : Hid (∀ W lo g1 g2 g3 c1 c2 c3, GO W lo g1 g2 g3 n2 ins vs outs → _) := fun W lo g1 g2 g3 c1 c2 c3 f => specTx W lo g1 g2 g3 n1 c1 n2 c2 n3 c3 ins vs outs f HIL.out.1 HIL.out.2.1 HLT.out
  generalize txM ins vs outs = bs at HYL hN HIS HSS
  obtain ⟨N, hbN⟩ : ∃ N, N = bs.length := ⟨_, rfl⟩
  rw [← hbN] at hN HIS HSS
  clear hbN
  go_enter Tryd.func3, Tryd.ntmps3
  go_wp2_with fail
  refine Calls.mono HZ.out ?_
  rintro e w1 ⟨rfl, k1⟩
  have hK := (kept_alloc 0 0 w (.cells #[.slice a1 n1 c1, .slice a2 n2 c2, .slice a3 n3 c3] 25)).trans k1
  have hB := (g0_startL w (.slice a1 n1 c1) (.slice a2 n2 c2) (.slice a3 n3 c3)).keep k1
  have HF1 : Hid _ := f.keep hK
  have HK1 : Hid _ := hK
  have HB1 : Hid _ := hB
  have HT1 : Hid _ := T.keep hK
  obtain ⟨_, q0, q1, q2⟩ := hB
  clear k1 HZ hK f T
  go_wp2_with fail
  clear q0 q1 q2
  refine Calls.mono (toGraph _ a1 a2 a3 n1 c1 n2 c2 n3 c3 ins vs outs HF1.out l1 l2 l3) ?_
  rintro e w2 ⟨g1, g2, g3, rfl, hO, k2⟩
  have HK2 : Hid _ := k2
  have HO2 : Hid _ := hO
  clear k2 hO
  go_wp2_with fail
  refine Calls.mono (HSS.out _ _ _ _ _ n1 n2 n3 HO2.out) ?_
  rintro e w3 ⟨aw, cw, rfl, yw, k3⟩
  have hk3 := HK2.out.trans k3
  have HW3 : Hid (LwT w3 w3 w.heap.size a1 n1 c1 a2 n2 c2 a3 n3 c3 ins vs outs aw N bs) := ⟨HF1.out.keep hk3, HB1.out.keep hk3, yw, HT1.out.keep hk3, Kept.refl 0 0 w3⟩
  have HK3 : Hid _ := HK1.out.trans hk3
  clear k3 yw hk3 HK1 HK2 HO2 HF1 HB1 HT1
  obtain ⟨_, q0, q1, q2⟩ := HW3.out.b
  go_wp2_with fail
  clear q0 q1 q2
  refine Calls.mono (toGraph _ a1 a2 a3 n1 c1 n2 c2 n3 c3 ins vs outs HW3.out.f l1 l2 l3) ?_
  rintro e w4 ⟨x1, x2, x3, rfl, hO, k4⟩
  have HW4 : Hid _ := HW3.out.keep k4
  have HX4 : Hid _ := hO
  have HZ4 : Hid (w3.heap.size ≤ x1 ∧ x1 < x2 ∧ x2 < x3 ∧ x3 < w4.heap.size) := ⟨hO.l1, hO.l2, hO.l3, hO.o.lt⟩
  clear k4 hO
  go_upto_region 7 with fail
  have ka := kept_alloc 0 0 w4 (gbox (some ⟨x1, 0, none⟩) n1 n1 (some ⟨x2, 0, none⟩) n2 n2 (some ⟨x3, 0, none⟩) n3 n3)
  have HY5 : Hid _ := g0_start w4 (.slice (some ⟨x1, 0, none⟩) n1 n1) (.slice (some ⟨x2, 0, none⟩) n2 n2) (.slice (some ⟨x3, 0, none⟩) n3 n3)
  have HW5 : Hid _ := HW4.out.keep ka
  have HX5 : Hid _ := GO.keepJ HX4.out ka
  have HZ5 : Hid ((w4.alloc (gbox (some ⟨x1, 0, none⟩) n1 n1 (some ⟨x2, 0, none⟩) n2 n2 (some ⟨x3, 0, none⟩) n3 n3)).heap.size = w4.heap.size + 1) := by show _ = _; simp
  clear ka HW4 HX4
  generalize w4.alloc (gbox (some ⟨x1, 0, none⟩) n1 n1 (some ⟨x2, 0, none⟩) n2 n2 (some ⟨x3, 0, none⟩) n3 n3) = w5 at HY5 HW5 HX5 HZ5 ⊢
  obtain ⟨_, y0, y1, y2⟩ := HY5.out
  go_wp2_with fail
  clear y0 y1 y2
  have HS : Hid _ := HX5.out.gs HLT.out
  rw [HIL.out.1, HIL.out.2.1] at HS
  refine Calls.mono (HIS.out _ _ _ _ n1 n2 n3 HS.out HW5.out.t) ?_
  rintro e w6 ⟨gi, ai, ci, rfl, yi, li, k6⟩
  have HW6 : Hid _ := HW5.out.keep k6
  have HX6 : Hid _ := GO.keepJ HX5.out k6
  have HY6 : Hid _ := HY5.out.keep k6
  have HYI6 : Hid _ := yi
  have HGI : Hid (0 < N → w5.heap.size ≤ gi) := li
  have HZ6 : Hid (w5.heap.size ≤ w6.heap.size) := k6.size
  clear k6 yi li HW5 HX5 HY5 HS
  go_wp2_with fail
  refine Calls.mono (eqY _ _ _ N _ _ bs (HYI6.out.ys HYL.out) HW6.out.y (by omega)) ?_
  rintro e w7 ⟨rfl, n7, rfl⟩
  have k7 := kept_drewN 0 0 w6 n7
  have HW7 : Hid _ := HW6.out.keep k7
  have HX7 : Hid _ := GO.keepJ HX6.out k7
  have HY7 : Hid _ := HY6.out.keep k7
  have HYI7 : Hid _ := HYI6.out.keep k7
  have HZ7 : Hid (w5.heap.size ≤ (w6.drewN n7).heap.size) := HZ6.out
  clear k7 HW6 HX6 HY6 HYI6
  generalize w6.drewN n7 = w7 at HW7 HX7 HY7 HYI7 HZ7 ⊢
  have HXS : Hid _ := HX7.out.gs HLT.out
  rw [HIL.out.1, HIL.out.2.1] at HXS
  go_upto_region 10 with fail
  go_cut [31] (fun c wx => c = .bool false ∧ Hid (Kept 0 0 w7 wx))
  case first =>
    obtain ⟨_, q0, q1, q2⟩ := HW7.out.b
    obtain ⟨_, y0, y1, y2⟩ := HY7.out
    go_region_with (first
      | (go_at_call 6; refine Calls.mono (toGraph w7.drew a1 a2 a3 n1 c1 n2 c2 n3 c3 ins vs outs (GS.keep HW7.out.f (kept_drew w7)) l1 l2 l3) ?_; rintro e w10 ⟨z1, z2, z3, rfl, hO, k10⟩; obtain ⟨_, u0, u1, u2⟩ := G0.keep HY7.out ((kept_drew w7).trans k10))
      | (go_at_call 9; refine Calls.mono (eqGraph _ _ _ _ _ _ _ n1 n1 n2 n2 n3 n3 n1 n2 n3 ins vs outs (GS.keep HXS.out ((kept_drew w7).trans k10)) (by have := hO.gs HLT.out; rw [HIL.out.1, HIL.out.2.1] at this; exact this) l1 l2 l3) ?_; rintro e w11 ⟨rfl, k11⟩))
    all_goals (go_wp2_with fail; go_meet; exact ⟨rfl, ((kept_drew w7).trans k10).trans k11⟩)
  case rest =>
    obtain ⟨rfl, hk⟩ := hcut
    have HW9 : Hid _ := HW7.out.keep hk.out
    have HX9 : Hid _ := GO.keepJ HX7.out hk.out
    have HY9 : Hid _ := G0.keep HY7.out hk.out
    have HYI9 : Hid _ := HYI7.out.keep hk.out
    have HZ9 : Hid (w4.heap.size < wc.heap.size) := by show _ < _; have := HZ5.out; have := HZ7.out; have := hk.out.size; omega
    clear hk HW7 HX7 HY7 HYI7 HXS
    obtain ⟨_, y0, y1, y2⟩ := HY9.out
    have HMK : Hid _ := markOG wc x1 x2 x3 n1 n2 n3 n1 n2 n3 _ _ _ ins vs outs (HX9.out.og HIL.out.1 HIL.out.2.1) (by have := HZ4.out; have := HZ9.out; omega) (by have := HZ4.out; have := HZ9.out; omega) (by have := HZ4.out; have := HZ9.out; omega) 1 (by omega) (by omega) l1 l2 l3
    go_wp2_with fail
    clear y0 y1 y2
    refine Calls.mono HMK.out ?_
    rintro e w10 ⟨rfl, _, hC⟩
    have HW10 : Hid _ := LwT.turn HW3.out HW9.out hC (fun i hi => by have := HZ4.out; omega)
    have HYI10 : Hid _ := HYI9.out.keepC hC (fun hn c => by have := HGI.out hn; have := HZ5.out; have := HZ4.out; omega)
    clear hC HW9 HX9 HY9 HYI9 HMK
    have hkk : ¬ ((1 : Int) + n1 + 6 * n2 + n3 < 0) := by omega
    generalize (1 : Int) + n1 + 6 * n2 + n3 = kv at hkk ⊢
    go_wp2_with fail
    refine Calls.mono (eqY _ _ _ N _ _ bs (HYI10.out.ys HYL.out) HW10.out.y (by omega)) ?_
    rintro e w11 ⟨rfl, n11, rfl⟩
    have k11 := kept_drewN 0 0 w10 n11
    have HW11 : Hid _ := HW10.out.keep k11
    have HYI11 : Hid _ := HYI10.out.keep k11
    clear k11 HW10 HYI10
    generalize w10.drewN n11 = w11 at HW11 HYI11 ⊢
    go_wp2_with fail
    refine Calls.mono (markYZ w11 gi N _ ai 1 bs HYI11.out (by decide) (by decide) (by omega)) ?_
    rintro e w12 ⟨rfl, m12, c12⟩
    have HM12 : Hid _ := m12
    have HW12 : Hid _ := LwT.turn HW3.out HW11.out c12 (fun i hi => by have := HGI.out hi.1; have := HZ5.out; have := HZ4.out; omega)
    clear m12 c12 HW11 HYI11
    go_wp2_with fail
    refine Calls.mono (heldYM w12 gi N _ ai 1 HM12.out (by decide) (by decide) (by omega)) ?_
    rintro e w13 ⟨rfl, n13, rfl⟩
    have k13 := kept_drewN 0 0 w12 n13
    have HW13 : Hid _ := HW12.out.keep k13
    clear k13 HW12 HM12
    generalize w12.drewN n13 = w13 at HW13 ⊢
    have hkk2 : ¬ ((1 : Int) + N < 0) := by omega
    generalize (1 : Int) + N = kv2 at hkk2 ⊢
    have e1 : (kv2 != kv2) = false := by simp
    obtain ⟨_, q0, q1, q2⟩ := HW13.out.b
    go_wp2_with fail
    clear q0 q1 q2
    refine Calls.mono (toGraph _ a1 a2 a3 n1 c1 n2 c2 n3 c3 ins vs outs HW13.out.f l1 l2 l3) ?_
    rintro e w14 ⟨g1', g2', g3', rfl, hO, k14⟩
    have HW14 : Hid _ := HW13.out.keep k14
    have HS : Hid _ := hO.gs HLT.out
    clear k14 hO HW13
    rw [HIL.out.1, HIL.out.2.1] at HS
    go_wp2_with fail
    refine Calls.mono (HIS.out _ _ _ _ n1 n2 n3 HS.out HW14.out.t) ?_
    rintro e w15 ⟨gh, ah, ch, rfl, yh, _, k15⟩
    have HW15 : Hid _ := HW14.out.keep k15
    have HYH : Hid _ := yh
    clear k15 yh HS HW14
    go_wp2_with fail
    refine Calls.mono (eqY _ _ _ N _ _ bs (HYH.out.ys HYL.out) HW15.out.y (by omega)) ?_
    rintro e w16 ⟨rfl, n16, rfl⟩
    have R : Hid _ := HK3.out.trans (HW15.out.k.trans (kept_drewN 0 0 w15 n16))
    go_wp2
    go_ret
    exact ⟨rfl, R.out.below⟩
end Go.Proofs.YtiiimofkkahobaaDoor
