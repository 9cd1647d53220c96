import Derived.Test.YtdkjdlimcnddkaaA29
import Derived.Test.YtdkjdlimcnddkaaA16
namespace Go.Proofs.Ytdkjdlimcnddkaa
open Go.RowKit Flt
attribute [local go_sem] alloc_drewN setCell_drewN run_store_float
theorem list2g (w : World) (s x : Int) : ∀ k, k < 2 → (w.alloc (.cells #[.int .i64 s, .int .i64 x] 3)).cell? ⟨w.heap.size, k, none⟩ = some (.int .i64 ([s, x].getD k 0)) := fun k hk => by
  rcases (by omega : k = 0 ∨ k = 1) with rfl | rfl <;> simp
theorem giveM_app (vs0 : List Vl) (o : Nat) (p : Int) (st : List Vl × List Int) : Pre st.1 (giveM vs0 o p st).1 := by
  unfold giveM
  split
  · exact ⟨[], by simp⟩
  · exact ⟨_, rfl⟩
theorem pre_trans {a b c : List Vl} (h : Pre a b) (k : Pre b c) : Pre a c := by
  obtain ⟨r, rfl⟩ := h
  obtain ⟨q, rfl⟩ := k
  exact ⟨r ++ q, by simp⟩
theorem pre_refl (a : List Vl) : Pre a a := ⟨[], by simp⟩
theorem gkM_app (vs0 : List Vl) (act : List Bool) (i k : Nat) (st : List Vl × List Int) : Pre st.1 (gkM vs0 act i k st).1 := by
  unfold gkM
  split
  · exact pre_trans ⟨_, rfl⟩ (giveM_app vs0 _ _ (st.1 ++ _, st.2))
  · exact pre_refl _
theorem gkTo_app (vs0 : List Vl) (act : List Bool) (i : Nat) (st : List Vl × List Int) : ∀ k, Pre st.1 (gkTo vs0 act i st k).1
  | 0 => pre_refl _
  | k + 1 => pre_trans (gkTo_app vs0 act i st k) (gkM_app vs0 act i k _)
theorem giM_app (vs0 : List Vl) (act : List Bool) (i : Nat) (st : List Vl × List Int) : Pre st.1 (giM vs0 act i st).1 := by
  unfold giM
  split
  · exact pre_refl _
  · exact gkTo_app vs0 act i st _
theorem gfold_pre (vs0 : List Vl) (act : List Bool) (x : Nat) : ∀ (st : List Vl × List Int) (js : List Nat), Pre st.1 (gfold vs0 act x st js).1
  | _, [] => pre_refl _
  | st, j :: js => pre_trans (giM_app vs0 act (x + 1 + j) st) (gfold_pre vs0 act x (giM vs0 act (x + 1 + j) st) js)
theorem grM_pos (vs : List Vl) (s x : Nat) : 0 < (grM vs s x).1.length := by
  unfold grM
  split
  · unfold gfin
    have h : 0 < (gfold vs (actM vs x (s - x)) x (gst0 vs s) (downs (s - x))).1.length := by
      have hp : Pre (gst0 vs s).1 (gfold vs (actM vs x (s - x)) x (gst0 vs s) (downs (s - x))).1 := gfold_pre vs _ x _ _
      obtain ⟨r, e⟩ := hp
      rw [e]
      simp [gst0]
      omega
    split
    · simp
    · exact h
  · simp
set_option maxRecDepth 100000 in
set_option maxHeartbeats 2000000 in
theorem implGrad_inv (w : World) (a1 a2 a3 : Option Addr) (n1 c1 n2 c2 n3 c3 : Nat) (s x : Int) (ins : List Int) (vs : List Vl) (outs : List Int) (f : GS w a1 n1 a2 n2 a3 n3 ins vs outs) (h : okG ins vs outs = false) :
    Calls Try.prog 10 #[gagg a1 n1 c1 a2 n2 c2 a3 n3 c3, .int .i64 s, .int .i64 x] w fun e w' => e = .returned (.tuple #[gnil, .int .i64 0, .int .i64 1]) ∧ Kept 0 0 w w' := by
  have hK := (kept_alloc 0 0 w (gbox a1 n1 c1 a2 n2 c2 a3 n3 c3)).trans (kept_alloc 0 0 _ nbox)
  have HX : Hid _ := implValid _ a1 a2 a3 n1 c1 n2 c2 n3 c3 ins vs outs (f.keep hK)
  rw [h] at HX
  have HK : Hid _ := hK
  have hN := rb_start (w.alloc (gbox a1 n1 c1 a2 n2 c2 a3 n3 c3))
  rw [show (w.alloc (gbox a1 n1 c1 a2 n2 c2 a3 n3 c3)).heap.size = w.heap.size + 1 by simp] at hN
  have HN : Hid _ := hN
  clear hK h f hN
  go_enter Try.func10, Try.ntmps10
  go_wp2_with fail
  refine Calls.mono HX.out ?_
  rintro e w2 ⟨rfl, k2⟩
  obtain ⟨_, q0, q1, q2, f0, f1, f2⟩ := RB.keep HN.out k2
  obtain ⟨y0, y1, y2⟩ := put3_0 w2 (w.heap.size + 1) _ _ _ q0 q1 q2 (.slice none 0 0) (.slice none 0 0) (.slice none 0 0)
  have R : Hid (Kept 0 0 w _) := Kept.new (Kept.trans HK.out k2) (put3_kept w2 (w.heap.size + 1) (.slice none 0 0) (.slice none 0 0) (.slice none 0 0)) (by omega)
  clear k2 HX HN HK
  go_wp2_with fail
  refine bodyPost_ret (v := .tuple #[gnil, .int .i64 0, .int .i64 1]) (by simp [results, Try.results10, go_sem, y0, y1, y2]) rfl ⟨rfl, R.out⟩
set_option maxRecDepth 100000 in
set_option maxHeartbeats 2000000 in
theorem implGrad_idx (w : World) (a1 a2 a3 : Option Addr) (n1 c1 n2 c2 n3 c3 : Nat) (s x : Int) (ins : List Int) (vs : List Vl) (outs : List Int) (f : GS w a1 n1 a2 n2 a3 n3 ins vs outs) (h : okG ins vs outs = true) (h2 : ([s, x].all (idxB · n2)) = false) :
    Calls Try.prog 10 #[gagg a1 n1 c1 a2 n2 c2 a3 n3 c3, .int .i64 s, .int .i64 x] w fun e w' => e = .returned (.tuple #[gnil, .int .i64 0, .int .i64 1]) ∧ Kept 0 0 w w' := by
  have hK := (kept_alloc 0 0 w (gbox a1 n1 c1 a2 n2 c2 a3 n3 c3)).trans (kept_alloc 0 0 _ nbox)
  have HX : Hid _ := implValid _ a1 a2 a3 n1 c1 n2 c2 n3 c3 ins vs outs (f.keep hK)
  rw [h] at HX
  have HK : Hid _ := hK
  have hN := rb_start (w.alloc (gbox a1 n1 c1 a2 n2 c2 a3 n3 c3))
  rw [show (w.alloc (gbox a1 n1 c1 a2 n2 c2 a3 n3 c3)).heap.size = w.heap.size + 1 by simp] at hN
  have HN : Hid _ := hN
  have HB : Hid _ := (g0_start w (.slice a1 n1 c1) (.slice a2 n2 c2) (.slice a3 n3 c3)).keep (kept_alloc 0 0 _ nbox)
  have HI : Hid (∀ w2 : World, _) := fun w2 => allIdx (w2.alloc (.cells #[.int .i64 s, .int .i64 x] 3)) w2.heap.size 2 2 (n2 : Int) [s, x] rfl (by omega) (list2g w2 s x)
  rw [h2] at HI
  clear hK h f hN h2
  go_enter Try.func10, Try.ntmps10
  go_wp2_with fail
  refine Calls.mono HX.out ?_
  rintro e w2 ⟨rfl, k2⟩
  obtain ⟨_, p0, p1, p2⟩ := G0.keep HB.out k2
  go_wp2_with fail
  refine Calls.mono (HI.out w2) ?_
  rintro e w3 ⟨rfl, rfl⟩
  have k3 := kept_alloc 0 0 w2 (.cells #[.int .i64 s, .int .i64 x] 3)
  obtain ⟨_, q0, q1, q2, f0, f1, f2⟩ := RB.keep HN.out (k2.trans k3)
  have HKK : Hid _ := Kept.trans HK.out (k2.trans k3)
  clear k2 k3 HX HN HK HB HI p0 p1 p2
  generalize w2.alloc (.cells #[.int .i64 s, .int .i64 x] 3) = w4 at q0 q1 q2 f0 f1 f2 HKK ⊢
  obtain ⟨y0, y1, y2⟩ := put3_0 w4 (w.heap.size + 1) _ _ _ q0 q1 q2 (.slice none 0 0) (.slice none 0 0) (.slice none 0 0)
  have R : Hid (Kept 0 0 w _) := Kept.new HKK.out (put3_kept w4 (w.heap.size + 1) (.slice none 0 0) (.slice none 0 0) (.slice none 0 0)) (by omega)
  go_wp2_with fail
  refine bodyPost_ret (v := .tuple #[gnil, .int .i64 0, .int .i64 1]) (by simp [results, Try.results10, go_sem, y0, y1, y2]) rfl ⟨rfl, R.out⟩

set_option maxRecDepth 100000 in
set_option maxHeartbeats 2000000 in
theorem implGrad_shape (w : World) (a1 a2 a3 : Option Addr) (n1 c1 n2 c2 n3 c3 : Nat) (s x : Nat) (ins : List Int) (vs : List Vl) (outs : List Int) (f : GS w a1 n1 a2 n2 a3 n3 ins vs outs) (h : okG ins vs outs = true) (hs : s < n2) (hx : x < n2) (h3 : (vs.getD s Vl.zero).len ≠ 1) :
    Calls Try.prog 10 #[gagg a1 n1 c1 a2 n2 c2 a3 n3 c3, .int .i64 (s : Int), .int .i64 (x : Int)] w fun e w' => e = .returned (.tuple #[gnil, .int .i64 0, .int .i64 4]) ∧ Kept 0 0 w w' := by
  have hK := (kept_alloc 0 0 w (gbox a1 n1 c1 a2 n2 c2 a3 n3 c3)).trans (kept_alloc 0 0 _ nbox)
  have HX : Hid _ := implValid _ a1 a2 a3 n1 c1 n2 c2 n3 c3 ins vs outs (f.keep hK)
  rw [h] at HX
  have HK : Hid _ := hK
  have hN := rb_start (w.alloc (gbox a1 n1 c1 a2 n2 c2 a3 n3 c3))
  rw [show (w.alloc (gbox a1 n1 c1 a2 n2 c2 a3 n3 c3)).heap.size = w.heap.size + 1 by simp] at hN
  have HN : Hid _ := hN
  have HB : Hid _ := (g0_start w (.slice a1 n1 c1) (.slice a2 n2 c2) (.slice a3 n3 c3)).keep (kept_alloc 0 0 _ nbox)
  have HI : Hid (∀ w2 : World, _) := fun w2 => allIdx (w2.alloc (.cells #[.int .i64 (s : Int), .int .i64 (x : Int)] 3)) w2.heap.size 2 2 (n2 : Int) [(s : Int), (x : Int)] rfl (by omega) (list2g w2 s x)
  rw [show ([(s : Int), (x : Int)].all (idxB · (n2 : Int))) = true by simp [idxB]; omega] at HI
  have HF : Hid _ := f.keep hK
  have t3 : ((vs.getD s Vl.zero).len != 1) = true := by simpa using h3
  clear hK h f hN h3
  go_enter Try.func10, Try.ntmps10
  go_wp2_with fail
  refine Calls.mono HX.out ?_
  rintro e w2 ⟨rfl, k2⟩
  obtain ⟨_, p0, p1, p2⟩ := G0.keep HB.out k2
  go_wp2_with fail
  clear p0 p1 p2
  refine Calls.mono (HI.out w2) ?_
  rintro e w3 ⟨rfl, rfl⟩
  have k3 := kept_alloc 0 0 w2 (.cells #[.int .i64 (s : Int), .int .i64 (x : Int)] 3)
  have HN4 : Hid _ := RB.keep HN.out (k2.trans k3)
  have HKK : Hid _ := Kept.trans HK.out (k2.trans k3)
  have HF4 : Hid _ := GS.keep HF.out (k2.trans k3)
  have HB4 : Hid _ := G0.keep HB.out (k2.trans k3)
  clear k2 k3 HX HN HK HB HI HF
  generalize w2.alloc (.cells #[.int .i64 (s : Int), .int .i64 (x : Int)] 3) = w4 at HN4 HKK HF4 HB4 ⊢
  obtain ⟨_, p0, p1, p2⟩ := HB4.out
  rcases HF4.out.v.at_ with z0 | ⟨ga, oa, ea, z1, z2, z3, z4⟩
  · omega
  have ct := (z4 s hs).c1
  generalize (vs.getD s Vl.zero).len = lt at ct t3
  subst ea
  clear z1 z2 z3 z4
  have j0 : (0 : Int) ≤ (s : Int) := by omega
  have j1 : (s : Int) < (n2 : Int) := by omega
  obtain ⟨_, q0, q1, q2, f0, f1, f2⟩ := HN4.out
  obtain ⟨y0, y1, y2⟩ := put3_0 w4 (w.heap.size + 1) _ _ _ q0 q1 q2 (.slice none 0 0) (.slice none 0 0) (.slice none 0 0)
  have R : Hid (Kept 0 0 w _) := Kept.new HKK.out (put3_kept w4 (w.heap.size + 1) (.slice none 0 0) (.slice none 0 0) (.slice none 0 0)) (by omega)
  go_wp2_with fail
  refine bodyPost_ret (v := .tuple #[gnil, .int .i64 0, .int .i64 4]) (by simp [results, Try.results10, go_sem, y0, y1, y2]) rfl ⟨rfl, R.out⟩
set_option maxRecDepth 100000 in
set_option maxHeartbeats 4000000 in
theorem implGrad_run (w : World) (lo g1 g2 g3 n1 c1 n2 c2 n3 c3 : Nat) (s x : Nat) (ins : List Int) (vs : List Vl) (outs : List Int) (f : GO w lo g1 g2 g3 n2 ins vs outs) (e1 : ins.length = n1) (e3 : outs.length = n3) (hlt : ∀ v ∈ vs, v.k < 18446744073709551616) (h : okG ins vs outs = true) (hs : s < n2) (hx : x < n2) (h3 : (vs.getD s Vl.zero).len = 1) :
    Calls Try.prog 10 #[gagg (some ⟨g1, 0, none⟩) n1 c1 (some ⟨g2, 0, none⟩) n2 c2 (some ⟨g3, 0, none⟩) n3 c3, .int .i64 (s : Int), .int .i64 (x : Int)] w fun e w' => (limB (grM vs s x).1 = true → e = .returned (.tuple #[gnil, .int .i64 0, .int .i64 5])) ∧ (limB (grM vs s x).1 = false → JOut w w' n1 n3 ins outs (grM vs s x) e) ∧ Kept 0 0 w w' := by
  have hgs := f.gs hlt
  rw [e1, e3] at hgs
  have e2 : vs.length = n2 := f.v.len
  have hok := h
  unfold okG at hok
  simp only [Bool.and_eq_true, decide_eq_true_eq, e1, e2, e3] at hok
  obtain ⟨⟨l1, l2, l3⟩, _, hv, _, hc5⟩ := hok
  have HOK : Hid _ := hv
  have HC5 : Hid _ := hc5
  have HLN : Hid (vs.length = n2) := e2
  have hK := (kept_alloc 0 0 w (gbox (some ⟨g1, 0, none⟩) n1 c1 (some ⟨g2, 0, none⟩) n2 c2 (some ⟨g3, 0, none⟩) n3 c3)).trans (kept_alloc 0 0 _ nbox)
  have HX : Hid _ := implValid _ (some ⟨g1, 0, none⟩) (some ⟨g2, 0, none⟩) (some ⟨g3, 0, none⟩) n1 c1 n2 c2 n3 c3 ins vs outs (hgs.keep hK)
  rw [h] at HX
  have HK : Hid _ := hK
  have hN := rb_start (w.alloc (gbox (some ⟨g1, 0, none⟩) n1 c1 (some ⟨g2, 0, none⟩) n2 c2 (some ⟨g3, 0, none⟩) n3 c3))
  rw [show (w.alloc (gbox (some ⟨g1, 0, none⟩) n1 c1 (some ⟨g2, 0, none⟩) n2 c2 (some ⟨g3, 0, none⟩) n3 c3)).heap.size = w.heap.size + 1 by simp] at hN
  have HN : Hid _ := hN
  have HB : Hid _ := (g0_start w (.slice (some ⟨g1, 0, none⟩) n1 c1) (.slice (some ⟨g2, 0, none⟩) n2 c2) (.slice (some ⟨g3, 0, none⟩) n3 c3)).keep (kept_alloc 0 0 _ nbox)
  have HI : Hid (∀ w2 : World, _) := fun w2 => allIdx (w2.alloc (.cells #[.int .i64 (s : Int), .int .i64 (x : Int)] 3)) w2.heap.size 2 2 (n2 : Int) [(s : Int), (x : Int)] rfl (by omega) (list2g w2 s x)
  rw [show ([(s : Int), (x : Int)].all (idxB · (n2 : Int))) = true by simp [idxB]; omega] at HI
  have HF : Hid _ := GO.keepJ f hK
  have HL3 : Hid _ := h3
  have HE : Hid (ins.length = n1 ∧ outs.length = n3) := ⟨e1, e3⟩
  clear hK h f hN h3 hv hc5 hgs hlt e2 e1 e3
  go_enter Try.func10, Try.ntmps10
  go_wp2_with fail
  generalize (w.alloc (gbox (some ⟨g1, 0, none⟩) n1 c1 (some ⟨g2, 0, none⟩) n2 c2 (some ⟨g3, 0, none⟩) n3 c3)).alloc nbox = wB at HX HK HN HB HF ⊢
  refine Calls.mono HX.out ?_
  rintro e w2 ⟨rfl, k2⟩
  obtain ⟨_, p0, p1, p2⟩ := G0.keep HB.out k2
  go_wp2_with fail
  clear p0 p1 p2
  refine Calls.mono (HI.out w2) ?_
  rintro e w3 ⟨rfl, rfl⟩
  have k3 := kept_alloc 0 0 w2 (.cells #[.int .i64 (s : Int), .int .i64 (x : Int)] 3)
  have HK4 : Hid _ := k2.trans k3
  clear k2 k3 HX HI
  generalize w2.alloc (.cells #[.int .i64 (s : Int), .int .i64 (x : Int)] 3) = w4 at HK4 ⊢
  obtain ⟨_, p0, p1, p2⟩ := G0.keep HB.out HK4.out
  have hVA := (GO.keepJ HF.out HK4.out).v
  have ct := (hVA.at_ s hs).c1
  rw [HL3.out] at ct
  clear hVA
  have j0 : (0 : Int) ≤ (s : Int) := by omega
  have j1 : (s : Int) < (n2 : Int) := by omega
  go_wp2_with fail
  have HK5 : Hid _ := HK4.out
  generalize w4 = w5 at HK4 HK5 p0 p1 p2 ct ⊢
  clear ct HK4
  clear p0 p1 p2
  refine Calls.mono (newBuilder w5 lo g1 g2 g3 n1 c1 n2 c2 n3 c3 ins vs outs (GO.keepJ HF.out HK5.out) HE.out.1 HE.out.2 (by omega) l2 (by omega) (fun k hk => okV_len (List.all_eq_true.1 HOK.out k (List.mem_range.2 hk)))) ?_
  rintro e w6 ⟨P, G1, d1, G3, d3, R, vv, rfl, hBS, hO1, hO3, ⟨d1', d2', d3', d4', d5', d6', d7'⟩, k6⟩
  have HK6 : Hid _ := Kept.trans HK5.out k6
  have hz5 := HK5.out.size
  have hz6 := k6.size
  have HB6 : Hid _ := hBS
  have HO1 : Hid _ := hO1
  have HO3 : Hid _ := hO3
  have HDD : Hid ((w5.heap.size ≤ P ∧ G1 ≠ P ∧ G3 ≠ P ∧ G1 ≠ G3 ∧ R ≠ some G1 ∧ R ≠ some G3) ∧ wB.heap.size ≤ w5.heap.size ∧ w5.heap.size ≤ w6.heap.size) := ⟨⟨d1', d2', d3', d4', d5', d6'⟩, hz5, hz6⟩
  clear hBS hO1 hO3 d1' d2' d3' d4' d5' d6' d7' k6 hz5 hz6 HK5
  have HJ0 : Hid (GJ w6 wB P G1 d1 n1 G3 d3 n3 w5.heap.size ins outs vs R vv) := {
    b := HB6.out
    i := HO1.out
    o := HO3.out
    k := HK6.out
    dP := by have := HDD.out; omega
    dB := HDD.out.2.1
    ne2 := HDD.out.1.2.1
    ne3 := HDD.out.1.2.2.1
    r2 := HDD.out.1.2.2.2.2.1
    r3 := HDD.out.1.2.2.2.2.2 }
  have HPD : Hid _ := putGrad w6 P _ _ vv ins vs w5.heap.size R n2 s x HB6.out HLN.out l2 hs hx HOK.out HC5.out
  have HPO : Hid (0 < (grM vs s x).1.length) := grM_pos vs s x
  clear HB6 HO1 HO3
  go_wp2_with fail
  generalize hM0 : grM vs s x = M at HPD HPO
  have HM0 : Hid (grM vs s x = M) := hM0
  clear hM0
  refine Calls.mono HPD.out ?_
  rintro e w10 ⟨rfl, R2, vv2, hb2, hs2⟩
  have hJ3 := HJ0.out.step hb2 hs2
  obtain ⟨gv2, cap2, rfl, _, _⟩ := hJ3.b.read HPO.out
  have HJ3 : Hid _ := hJ3
  clear hJ3 HPD hb2 hs2 HJ0 HPO
  obtain ⟨M1, mm⟩ := M
  simp only at HJ3
  cases hlim : limB M1
  · have hl' := of_decide_eq_false hlim
    have HA : Hid _ := answer_ok w10 P _ _ n1 d1 n3 d3 _ _ _ R2 gv2 cap2 mm HJ3.out.b (by omega) (by omega)
    clear hl'
    go_wp2_with fail
    refine Calls.mono HA.out ?_
    rintro e wA ⟨rfl, kA⟩
    have HKA : Hid _ := kA
    obtain ⟨_, q0, q1, q2, f0, f1, f2⟩ := RB.keep HN.out (Kept.trans HJ3.out.k kA)
    obtain ⟨y0, y1, y2⟩ := put3_0 wA (w.heap.size + 1) _ _ _ q0 q1 q2 (.slice (some ⟨G1, 0, none⟩) n1 d1) (.slice (some ⟨gv2, 0, none⟩) M1.length cap2) (.slice (some ⟨G3, 0, none⟩) n3 d3)
    have kp := put3_kept wA (w.heap.size + 1) (.slice (some ⟨G1, 0, none⟩) n1 d1) (.slice (some ⟨gv2, 0, none⟩) M1.length cap2) (.slice (some ⟨G3, 0, none⟩) n3 d3)
    have R0 : Hid (Kept 0 0 w _) := Kept.new (Kept.trans HK.out (Kept.trans HJ3.out.k kA)) kp (by omega)
    have R1 : Hid _ := gout (w := w) HJ3.out kA kp (by have h1 := HN.out.sz; have := HDD.out; omega) (by have h1 := HK.out.size; have := HDD.out; omega) HDD.out.1.2.2.2.1 mm
    clear kA HA kp
    go_wp2_with fail
    refine bodyPost_ret (v := .tuple #[.agg #[.slice (some ⟨G1, 0, none⟩) n1 d1, .slice (some ⟨gv2, 0, none⟩) M1.length cap2, .slice (some ⟨G3, 0, none⟩) n3 d3], .int .i64 mm, .int .i64 0]) (by simp [results, Try.results10, go_sem, y0, y1, y2]) rfl ⟨fun hf => ?_, fun _ => ?_, R0.out⟩
    · rw [HM0.out, hlim] at hf
      cases hf
    · rw [HM0.out]
      exact R1.out
  · have HA : Hid _ := answer_lim w10 P _ _ _ _ R2 gv2 cap2 mm HJ3.out.b hlim
    go_wp2_with fail
    refine Calls.mono HA.out ?_
    rintro e wA ⟨rfl, kA⟩
    have HKA : Hid _ := kA
    obtain ⟨_, q0, q1, q2, f0, f1, f2⟩ := RB.keep HN.out (Kept.trans HJ3.out.k kA)
    obtain ⟨y0, y1, y2⟩ := put3_0 wA (w.heap.size + 1) _ _ _ q0 q1 q2 (.slice none 0 0) (.slice none 0 0) (.slice none 0 0)
    have R0 : Hid (Kept 0 0 w _) := Kept.new (Kept.trans HK.out (Kept.trans HJ3.out.k kA)) (put3_kept wA (w.heap.size + 1) (.slice none 0 0) (.slice none 0 0) (.slice none 0 0)) (by omega)
    clear kA HA
    go_wp2_with fail
    refine bodyPost_ret (v := .tuple #[gnil, .int .i64 0, .int .i64 5]) (by simp [results, Try.results10, go_sem, y0, y1, y2]) rfl ⟨fun _ => rfl, fun hf => ?_, R0.out⟩
    rw [HM0.out, hlim] at hf
    cases hf
end Go.Proofs.Ytdkjdlimcnddkaa

namespace Go.Proofs.Ytdkjdlimcnddkaa
open Go.RowKit Flt
/-- Region n of l2part. -/
noncomputable abbrev preg (n : Nat) : Code := (Try.f86.body.bind (findR n)).getD .skip
/-- What l2part answers. -/
def PtP (w : World) (b1 : Option Addr) (m1 e1 : Nat) (b3 : Option Addr) (m3 e3 : Nat) (vs : List Vl) (base : Nat) (R : Option Nat) (M : List Vl × Int) (bb : Bool) (e : Ending) (w' : World) : Prop :=
  ∃ a2' cap' R', e = .returned (.tuple #[gagg b1 m1 e1 a2' (vs ++ M.1).length cap' b3 m3 e3, .int .i64 M.2, .bool bb]) ∧ w'.ownsRow base 64 6 (.slice a2' (vs ++ M.1).length cap') (vs ++ M.1).length (flat (vs ++ M.1)) ∧ (Value.slice a2' (vs ++ M.1).length cap').ownBlock = R' ∧ StQ (fun _ => False) R w R' w'
theorem MS.finP {w W W' : World} {m1 e1 m3 e3 base cap : Nat} {b1 b3 a2 : Option Addr} {vs vs0 : List Vl} {v : Vl} {R R' : Option Nat} {M : List Vl × Int} (h : MS w W b1 m1 e1 b3 m3 e3 vs v base R R' a2 cap) (k : Kept 0 0 W W') (hv : vs = vs0 ++ M.1) (bb : Bool) :
    PtP w b1 m1 e1 b3 m3 e3 vs0 base R M bb (.returned (.tuple #[gagg b1 m1 e1 a2 vs.length cap b3 m3 e3, .int .i64 M.2, .bool bb])) (Put3 W' (w.heap.size + 1) (.slice b1 m1 e1) (.slice a2 vs.length cap) (.slice b3 m3 e3)) := by
  subst hv
  have nB : (Value.slice a2 (vs0 ++ M.1).length cap).ownBlock ≠ some (w.heap.size + 1) := by rw [h.g.row]; exact h.n1
  exact ⟨a2, cap, R', rfl, own_setCell (own_setCell (own_setCell (own_keepJ h.g.own k) nB) nB) nB, h.g.row, (h.s.keepQ k).new (put3_kept W' (w.heap.size + 1) _ _ _) (by omega)⟩
theorem pt_same {w W' : World} {m1 e1 m3 e3 base cap g2 : Nat} {b1 b3 : Option Addr} {vs : List Vl} (h : w.ownsRow base 64 6 (.slice (some ⟨g2, 0, none⟩) vs.length cap) vs.length (flat vs)) (k : Kept 0 0 w W') (r : Int) (bb : Bool) :
    PtP w b1 m1 e1 b3 m3 e3 vs base (some g2) ([], r) bb (.returned (.tuple #[gagg b1 m1 e1 (some ⟨g2, 0, none⟩) vs.length cap b3 m3 e3, .int .i64 r, .bool bb])) W' := by
  unfold PtP
  simp only [List.append_nil]
  exact ⟨_, _, _, rfl, own_keepJ h k, rfl, (StQ.refl _ _ w).keepQ k⟩
theorem MS.len1 {w W : World} {m1 e1 m3 e3 base cap g2 : Nat} {b1 b3 : Option Addr} {vs : List Vl} {v : Vl} {R R' : Option Nat} (h : MS w W b1 m1 e1 b3 m3 e3 vs v base R R' (some ⟨g2, 0, none⟩) cap) {j : Nat} {la : Int} (hj : j < vs.length) (hla : (vs.getD j Vl.zero).len = la) : W.cell? ⟨g2, j * 6 + 1, none⟩ = some (.int .i64 la) := by
  obtain ⟨g, c, e, _, _, _, hva⟩ := row_at h.g.own (by omega) rfl
  cases e
  have := (hva.at_ j hj).c1
  rw [hla] at this
  exact this
end Go.Proofs.Ytdkjdlimcnddkaa
