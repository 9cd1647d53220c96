import Derived.Test.YtdkjdlimcnddkaaA35
namespace Go.Proofs.Ytdkjdlimcnddkaa
open Go.RowKit Flt
attribute [local go_sem] alloc_drewN setCell_drewN run_store_float

abbrev cnil : Value := cagg none 0 0 none 0 0 none 0 0 0
/-- What the model's Plan answers for a valid graph. -/
def PLo (w : World) (n1 n2 n3 : Nat) (bud pk : Int) (ins : List Int) (ss : List Ste) (os : List Spn) (e : Ending) (w' : World) : Prop :=
  (bud < pk → e = .returned (.tuple #[cnil, .int .i64 7])) ∧
  (¬ bud < pk → ∃ a1 d1 a2 d2 a3 d3, e = .returned (.tuple #[cagg a1 n1 d1 a2 n2 d2 a3 n3 d3 pk, .int .i64 0]) ∧ CL w' w.heap.size a1 n1 a2 n2 a3 n3 ins ss os) ∧ Kept 0 0 w w'
set_option maxRecDepth 100000 in
set_option maxHeartbeats 4000000 in
theorem specPlan_bad (w : World) (b1 b2 b3 : Option Addr) (n1 c1 n2 c2 n3 c3 : Nat) (bud : Int) (ins : List Int) (vs : List Vl) (outs : List Int) (f : GS w b1 n1 b2 n2 b3 n3 ins vs outs) (hok : okG ins vs outs = false) :
    Calls Try.prog 14 #[gagg b1 n1 c1 b2 n2 c2 b3 n3 c3, .int .i64 bud] w fun e w' => e = .returned (.tuple #[cnil, .int .i64 1]) ∧ Kept 0 0 w w' := by
  have k0 := kept_alloc 0 0 w (gbox b1 n1 c1 b2 n2 c2 b3 n3 c3)
  have hB := g0_start w (.slice b1 n1 c1) (.slice b2 n2 c2) (.slice b3 n3 c3)
  have k1 := kept_alloc 0 0 (w.alloc (gbox b1 n1 c1 b2 n2 c2 b3 n3 c3)) cbox0
  have HB : Hid _ := hB.keep k1
  have HV : Hid _ := specValid _ b1 b2 b3 n1 c1 n2 c2 n3 c3 ins vs outs ((f.keep k0).keep k1)
  rw [hok] at HV
  have HK : Hid _ := k0.trans k1
  have HR : Hid _ := kb_start (w.alloc (gbox b1 n1 c1 b2 n2 c2 b3 n3 c3))
  have hz : (w.alloc (gbox b1 n1 c1 b2 n2 c2 b3 n3 c3)).heap.size = w.heap.size + 1 := by simp
  rw [hz] at HR
  clear f hok k0 k1 hz
  obtain ⟨_, q0, q1, q2⟩ := HB.out
  go_enter Try.func14, Try.ntmps14
  go_wp2_with fail
  refine Calls.mono HV.out ?_
  rintro e w2 ⟨rfl, k2⟩
  obtain ⟨_, r0, r1, r2, r3, f0, f1, f2, f3⟩ := HR.out.keep k2
  have HK2 : Hid _ := HK.out.trans k2
  clear HV HB HR HK q0 q1 q2 hB k2
  go_wp2_with fail
  obtain ⟨y0, y1, y2, y3⟩ := put4_0 w2 (w.heap.size + 1) _ _ _ _ r0 r1 r2 r3 (.slice none 0 0) (.slice none 0 0) (.slice none 0 0) (.int .i64 0)
  have kp := put4_kept w2 (w.heap.size + 1) (.slice none 0 0) (.slice none 0 0) (.slice none 0 0) (.int .i64 0)
  refine bodyPost_ret (v := .tuple #[cnil, .int .i64 1]) (by simp [results, Try.results14, go_sem, y0, y1, y2, y3]) rfl ⟨rfl, HK2.out.new kp (by omega)⟩
set_option maxRecDepth 100000 in
set_option maxHeartbeats 4000000 in
theorem specPlan_in (w : World) (b1 b2 b3 : Option Addr) (n1 c1 n2 c2 n3 c3 : Nat) (bud : Int) (ins : List Int) (vs : List Vl) (outs : List Int) (f : GS w b1 n1 b2 n2 b3 n3 ins vs outs) (hok : okG ins vs outs = true) :
    Calls Try.prog 14 #[gagg b1 n1 c1 b2 n2 c2 b3 n3 c3, .int .i64 bud] w fun e w' => PLo w n1 n2 n3 bud (peakTo vs (plTo vs outs n2) n2) ins (stesTo vs (plTo vs outs n2) n2) (outs.map (spnM vs (plTo vs outs n2))) e w' := by
  have k0 := kept_alloc 0 0 w (gbox b1 n1 c1 b2 n2 c2 b3 n3 c3)
  have hB := g0_start w (.slice b1 n1 c1) (.slice b2 n2 c2) (.slice b3 n3 c3)
  have k1 := kept_alloc 0 0 (w.alloc (gbox b1 n1 c1 b2 n2 c2 b3 n3 c3)) cbox0
  have HB : Hid _ := hB.keep k1
  have HF : Hid _ := (f.keep k0).keep k1
  have HV : Hid _ := specValid _ b1 b2 b3 n1 c1 n2 c2 n3 c3 ins vs outs ((f.keep k0).keep k1)
  rw [hok] at HV
  have HOK : Hid _ := hok
  have HK : Hid _ := k0.trans k1
  have HR : Hid _ := kb_start (w.alloc (gbox b1 n1 c1 b2 n2 c2 b3 n3 c3))
  have hz : (w.alloc (gbox b1 n1 c1 b2 n2 c2 b3 n3 c3)).heap.size = w.heap.size + 1 := by simp
  rw [hz] at HR
  clear f hok k0 k1 hz
  obtain ⟨_, q0, q1, q2⟩ := HB.out
  go_enter Try.func14, Try.ntmps14
  go_wp2_with fail
  refine Calls.mono HV.out ?_
  rintro e w2 ⟨rfl, k2⟩
  have HR2 : Hid _ := HR.out.keep k2
  have HK2 : Hid _ := HK.out.trans k2
  have HB2 : Hid _ := HB.out.keep k2
  have HPL : Hid _ := l5plan w2 b1 b2 b3 n1 c1 n2 c2 n3 c3 ins vs outs (HF.out.keep k2) HOK.out
  clear HV HB HR HK HF q0 q1 q2 hB k2
  obtain ⟨_, q0, q1, q2⟩ := HB2.out
  go_wp2_with fail
  refine Calls.mono HPL.out ?_
  rintro e w3 ⟨a1, d1, a2, d2, a3, d3, rfl, hcs, k3⟩
  obtain ⟨pkk, hpkk⟩ : ∃ z, z = peakTo vs (plTo vs outs n2) n2 := ⟨_, rfl⟩
  rw [← hpkk]
  have HPQ : Hid _ := hpkk
  have kc := kept_alloc 0 0 w3 (cbox a1 n1 d1 a2 n2 d2 a3 n3 d3 pkk)
  have HZ : Hid (w.heap.size + 1 < w2.heap.size) := HR2.out.sz
  have HCL : Hid _ := (hcs.keep kc (.inr (Nat.le_refl _)))
  have HR3 : Hid _ := (HR2.out.keep k3).keep kc
  have HK3 : Hid _ := (HK2.out.trans k3).trans kc
  have HC0 : Hid _ := c0_start w3 (.slice a1 n1 d1) (.slice a2 n2 d2) (.slice a3 n3 d3) (.int .i64 pkk)
  have hzz : w.heap.size + 1 < w3.heap.size := (HR2.out.keep k3).sz
  clear HPL HR2 HK2 HB2 q0 q1 q2 hcs hpkk k3 kc
  obtain ⟨_, r0, r1, r2, r3, f0, f1, f2, f3⟩ := HR3.out
  obtain ⟨_, x0, x1, x2, x3⟩ := HC0.out
  go_upto_region 4 with fail
  generalize w3.alloc (cbox a1 n1 d1 a2 n2 d2 a3 n3 d3 pkk) = w4 at HCL HR3 HK3 HC0 r0 r1 r2 r3 f0 f1 f2 f3 x0 x1 x2 x3 ⊢
  by_cases hgt : bud < pkk
  · have HGT : Hid _ := hgt
    go_wp2_with fail
    obtain ⟨y0, y1, y2, y3⟩ := put4_0 w4 (w.heap.size + 1) _ _ _ _ r0 r1 r2 r3 (.slice none 0 0) (.slice none 0 0) (.slice none 0 0) (.int .i64 0)
    have kp := put4_kept w4 (w.heap.size + 1) (.slice none 0 0) (.slice none 0 0) (.slice none 0 0) (.int .i64 0)
    refine bodyPost_ret (v := .tuple #[cnil, .int .i64 7]) (by simp [results, Try.results14, go_sem, y0, y1, y2, y3]) rfl ?_
    rw [← HPQ.out]
    exact ⟨fun _ => rfl, fun h => absurd HGT.out h, HK3.out.new kp (by omega)⟩
  · have HGT : Hid _ := hgt
    go_wp2_with fail
    obtain ⟨y0, y1, y2, y3⟩ := put4_0 w4 (w.heap.size + 1) _ _ _ _ r0 r1 r2 r3 (.slice a1 n1 d1) (.slice a2 n2 d2) (.slice a3 n3 d3) (.int .i64 pkk)
    have kp := put4_kept w4 (w.heap.size + 1) (.slice a1 n1 d1) (.slice a2 n2 d2) (.slice a3 n3 d3) (.int .i64 pkk)
    refine bodyPost_ret (v := .tuple #[cagg a1 n1 d1 a2 n2 d2 a3 n3 d3 pkk, .int .i64 0]) (by simp [results, Try.results14, go_sem, y0, y1, y2, y3]) rfl ?_
    rw [← HPQ.out]
    exact ⟨fun h => absurd h HGT.out, fun _ => ⟨a1, d1, a2, d2, a3, d3, rfl, (HCL.out.keep kp (.inl (by have := HZ.out; omega))).mono (by have := HZ.out; omega)⟩, HK3.out.new kp (by omega)⟩
end Go.Proofs.Ytdkjdlimcnddkaa
