import Derived.Test.YtpglbgejlpeckabP19
namespace Go.Proofs.Ytpglbgejlpeckab
open Go.RowKit Flt
attribute [local go_sem] alloc_drewN setCell_drewN run_store_float

theorem g0_startL (w : World) (b0 b1 b2 : Value) : G0 (w.alloc (.cells #[b0, b1, b2] 43)) w.heap.size b0 b1 b2 := by
  refine ⟨?_, ?_, ?_, ?_⟩
  all_goals first | (go_simp; done) | (simp; done)

set_option maxRecDepth 100000 in
set_option maxHeartbeats 2000000 in
theorem fnValid_long (w : World) (a1 a2 a3 : Option Addr) (n1 c1 n2 c2 n3 c3 : Nat) (hn1 : n1 ≤ 9223372036854775807) (hn2 : n2 ≤ 9223372036854775807) (hn3 : n3 ≤ 9223372036854775807) (h : (1048576 : Int) - n1 - n2 - n3 < 0) :
    Calls Try.prog 8 #[gagg a1 n1 c1 a2 n2 c2 a3 n3 c3] w fun e w' => e = .returned (.bool true) ∧ Below w.heap.size w w' := by
  have HZ : Hid _ := szGraph (w.alloc (.cells #[.slice a1 n1 c1, .slice a2 n2 c2, .slice a3 n3 c3] 43)) a1 a2 a3 n1 c1 n2 c2 n3 c3 1048576 (by omega) (by omega) hn1 hn2 hn3
  rw [if_pos h] at HZ
  clear hn1 hn2 hn3 h
  go_enter Try.func8, Try.ntmps8
  go_wp2_with fail
  refine Calls.mono HZ.out ?_
  rintro e w1 ⟨rfl, k1⟩
  go_wp2
  go_ret
  exact ⟨rfl, ((kept_alloc 0 0 w _).trans k1).below⟩

set_option maxRecDepth 100000 in
set_option maxHeartbeats 2000000 in
theorem fnValid (w : World) (a1 a2 a3 : Option Addr) (n1 c1 n2 c2 n3 c3 : Nat) (ins : List Int) (vs : List Vl) (outs : List Int) (f : GS w a1 n1 a2 n2 a3 n3 ins vs outs) (h : ¬ ((1048576 : Int) - n1 - n2 - n3 < 0)) :
    Calls Try.prog 8 #[gagg a1 n1 c1 a2 n2 c2 a3 n3 c3] w fun e w' => e = .returned (.bool true) ∧ Below w.heap.size w w' := by
  have HZ : Hid _ := szGraph (w.alloc (.cells #[.slice a1 n1 c1, .slice a2 n2 c2, .slice a3 n3 c3] 43)) a1 a2 a3 n1 c1 n2 c2 n3 c3 1048576 (by omega) (by omega) (by omega) (by omega) (by omega)
  rw [if_neg h] at HZ
  have h1 : n1 ≤ 1048576 := by omega
  have h2 : n2 ≤ 1048576 := by omega
  have h3 : n3 ≤ 1048576 := by omega
  go_enter Try.func8, Try.ntmps8
  go_wp2_with fail
  refine Calls.mono HZ.out ?_
  rintro e w1 ⟨rfl, k1⟩
  have hK := (kept_alloc 0 0 w (.cells #[.slice a1 n1 c1, .slice a2 n2 c2, .slice a3 n3 c3] 43)).trans k1
  have hB := (g0_startL w (.slice a1 n1 c1) (.slice a2 n2 c2) (.slice a3 n3 c3)).keep k1
  have HF : Hid _ := f.keep hK
  have HK1 : Hid _ := hK
  have HB1 : Hid _ := hB
  obtain ⟨_, q0, q1, q2⟩ := hB
  have HLT : Hid _ := f.v.lt
  clear k1 HZ hK f
  go_wp2_with fail
  clear q0 q1 q2
  refine Calls.mono (toGraph _ a1 a2 a3 n1 c1 n2 c2 n3 c3 ins vs outs HF.out h1 h2 h3) ?_
  rintro e w2 ⟨g1, g2, g3, rfl, hO, k2⟩
  have HF2 : Hid _ := GS.keep HF.out k2
  have HK2 : Hid _ := Kept.trans HK1.out k2
  have HB2 : Hid _ := G0.keep HB1.out k2
  have HS : Hid _ := hO.gs HLT.out
  clear k2 hO HF HK1 HB1
  rw [HF2.out.i.len, HF2.out.o.len] at HS
  go_wp2_with fail
  refine Calls.mono (specValid _ _ _ _ n1 n1 n2 n2 n3 n3 ins vs outs HS.out) ?_
  rintro e w3 ⟨rfl, k3⟩
  have HF3 : Hid _ := GS.keep HF2.out k3
  have HK3 : Hid _ := Kept.trans HK2.out k3
  have HB3 : Hid _ := G0.keep HB2.out k3
  clear k3 HF2 HK2 HB2 HS
  obtain ⟨_, q0, q1, q2⟩ := HB3.out
  go_wp2_with fail
  clear q0 q1 q2
  refine Calls.mono (toGraph _ a1 a2 a3 n1 c1 n2 c2 n3 c3 ins vs outs HF3.out h1 h2 h3) ?_
  rintro e w4 ⟨x1, x2, x3, rfl, hO, k4⟩
  have HF4 : Hid _ := GS.keep HF3.out k4
  have HK4 : Hid _ := Kept.trans HK3.out k4
  have HB4 : Hid _ := G0.keep HB3.out k4
  have HX4 : Hid _ := hO.gs HLT.out
  clear k4 hO HF3 HK3 HB3
  rw [HF4.out.i.len, HF4.out.o.len] at HX4
  go_wp2_with fail
  have ka := kept_alloc 0 0 w4 (gbox (some ⟨x1, 0, none⟩) n1 n1 (some ⟨x2, 0, none⟩) n2 n2 (some ⟨x3, 0, none⟩) n3 n3)
  have HY5 : Hid _ := g0_start w4 (.slice (some ⟨x1, 0, none⟩) n1 n1) (.slice (some ⟨x2, 0, none⟩) n2 n2) (.slice (some ⟨x3, 0, none⟩) n3 n3)
  refine Calls.mono (implValid _ _ _ _ n1 n1 n2 n2 n3 n3 ins vs outs (GS.keep HX4.out ka)) ?_
  rintro e w6 ⟨rfl, k6⟩
  have HF6 : Hid _ := GS.keep HF4.out (ka.trans k6)
  have HK6 : Hid _ := Kept.trans HK4.out (ka.trans k6)
  have HB6 : Hid _ := G0.keep HB4.out (ka.trans k6)
  have HX6 : Hid _ := GS.keep HX4.out (ka.trans k6)
  have HY6 : Hid _ := G0.keep HY5.out k6
  clear k6 ka HF4 HK4 HB4 HX4 HY5
  have tt : (okG ins vs outs != okG ins vs outs) = false := by cases okG ins vs outs <;> rfl
  generalize okG ins vs outs = b at tt ⊢
  obtain ⟨_, q0, q1, q2⟩ := HB6.out
  obtain ⟨_, y0, y1, y2⟩ := HY6.out
  have HT : Hid (∀ m, _) := fun m => toGraph (w6.drewN m) a1 a2 a3 n1 c1 n2 c2 n3 c3 ins vs outs (GS.keep HF6.out (kept_drewN 0 0 w6 m)) h1 h2 h3
  go_wp2_with fail
  go_region_with (first
    | (go_at_call 31; refine Calls.mono (HT.out 1) ?_; rintro e w7 ⟨z1, z2, z3, rfl, hO, k7⟩; have hy := G0.keep HY6.out (Kept.trans (kept_drewN 0 0 w6 1) k7); obtain ⟨_, u0, u1, u2⟩ := hy)
    | (go_at_call 33; refine Calls.mono (eqGraph _ _ _ _ _ _ _ n1 n1 n2 n2 n3 n3 n1 n2 n3 ins vs outs (GS.keep HX6.out (Kept.trans (kept_drewN 0 0 w6 1) k7)) (by have := hO.gs HLT.out; rw [HF6.out.i.len, HF6.out.o.len] at this; exact this) h1 h2 h3) ?_; rintro e w8 ⟨rfl, k8⟩))
  all_goals
    go_wp2
    go_ret
    exact ⟨rfl, (Kept.trans HK6.out ((Kept.trans (kept_drewN 0 0 w6 1) k7).trans k8)).below⟩
end Go.Proofs.Ytpglbgejlpeckab
