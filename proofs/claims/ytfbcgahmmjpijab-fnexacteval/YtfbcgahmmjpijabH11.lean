import Derived.Test.YtfbcgahmmjpijabH10
namespace Go.Proofs.Ytfbcgahmmjpijab
open Go.RowKit Flt
attribute [local go_sem] alloc_drewN setCell_drewN run_store_float

set_option maxRecDepth 100000 in
set_option maxHeartbeats 2000000 in
theorem specEval_bad (w : World) (a1 a2 a3 b : Option Addr) (n1 c1 n2 c2 n3 c3 m cb : Nat) (ins : List Int) (vs : List Vl) (outs : List Int) (f : GS w a1 n1 a2 n2 a3 n3 ins vs outs) (h : okG ins vs outs = false) :
    Calls Try.prog 34 #[gagg a1 n1 c1 a2 n2 c2 a3 n3 c3, .slice b m cb] w fun e w' => e = .returned (.tuple #[.slice none 0 0, .int .i64 1]) ∧ Kept 0 0 w w' := by
  have hK := kept_alloc 0 0 w (gbox a1 n1 c1 a2 n2 c2 a3 n3 c3)
  have HX : Hid _ := specValid _ a1 a2 a3 n1 c1 n2 c2 n3 c3 ins vs outs (f.keep hK)
  rw [h] at HX
  have HK : Hid _ := hK
  clear hK h f
  go_enter Try.func34, Try.ntmps34
  go_wp2_with fail
  refine Calls.mono HX.out ?_
  rintro e w2 ⟨rfl, k2⟩
  go_wp2
  go_ret2
  exact ⟨rfl, Kept.trans HK.out k2⟩

set_option maxRecDepth 100000 in
set_option maxHeartbeats 2000000 in
theorem specEval_shape (w : World) (a1 a2 a3 b : Option Addr) (n1 c1 n2 c2 n3 c3 m cb : Nat) (ins : List Int) (vs : List Vl) (outs : List Int) (xss : List (List Nat)) (f : GS w a1 n1 a2 n2 a3 n3 ins vs outs) (s : SS w b m xss) (h : okG ins vs outs = true) (h2 : inB ins xss = false) (hn : n1 ≤ 1048576) :
    Calls Try.prog 34 #[gagg a1 n1 c1 a2 n2 c2 a3 n3 c3, .slice b m cb] w fun e w' => e = .returned (.tuple #[.slice none 0 0, .int .i64 4]) ∧ Kept 0 0 w w' := by
  have hK := kept_alloc 0 0 w (gbox a1 n1 c1 a2 n2 c2 a3 n3 c3)
  have HX : Hid _ := specValid _ a1 a2 a3 n1 c1 n2 c2 n3 c3 ins vs outs (f.keep hK)
  rw [h] at HX
  have HB : Hid _ := g0_start w (.slice a1 n1 c1) (.slice a2 n2 c2) (.slice a3 n3 c3)
  have HF : Hid _ := f.keep hK
  have HS : Hid _ := s.keep hK
  have HK : Hid _ := hK
  clear hK h f s
  go_enter Try.func34, Try.ntmps34
  go_wp2_with fail
  refine Calls.mono HX.out ?_
  rintro e w2 ⟨rfl, k2⟩
  obtain ⟨_, q0, q1, q2⟩ := G0.keep HB.out k2
  have HY : Hid _ := shapes w2 _ _ a1 b n1 m c1 cb ins xss (GS.keep HF.out k2).i (SS.keep HS.out k2) (by omega)
  rw [h2] at HY
  have HK2 : Hid _ := Kept.trans HK.out k2
  clear k2 HX HK HF HS HB
  go_wp2_with fail
  refine Calls.mono HY.out ?_
  rintro e w3 ⟨rfl, k3⟩
  go_wp2
  go_ret2
  exact ⟨rfl, Kept.trans HK2.out (k3.kept 0 0)⟩

set_option maxRecDepth 100000 in
set_option maxHeartbeats 2000000 in
theorem specEval_ok (w : World) (a1 a2 a3 b : Option Addr) (n1 c1 n2 c2 n3 c3 m cb : Nat) (ins : List Int) (vs : List Vl) (outs : List Int) (xss : List (List Nat)) (f : GS w a1 n1 a2 n2 a3 n3 ins vs outs) (s : SS w b m xss) (hw : Words xss) (h : okG ins vs outs = true) (h2 : inB ins xss = true) :
    Calls Try.prog 34 #[gagg a1 n1 c1 a2 n2 c2 a3 n3 c3, .slice b m cb] w fun e w' => ∃ a cap zss, e = .returned (.tuple #[.slice a n3 cap, .int .i64 0]) ∧ SS w' a n3 zss ∧ (∀ j, j < n3 → same (zss.getD j []) ((valsTo xss vs n2).getD (outs.getD j 0).toNat [])) ∧ Kept 0 0 w w' := by
  obtain ⟨i0, hi, hz0, hz1, hz2⟩ := info_parts infoS
  have hok := h
  have e1 := f.i.len
  have e2 := f.v.len
  have e3 := f.o.len
  unfold okG at hok
  simp only [Bool.and_eq_true, decide_eq_true_eq, e1, e2, e3] at hok
  obtain ⟨⟨l1, l2, l3⟩, _, hv, ho, _⟩ := hok
  have HV : Hid _ := hv
  have HO : Hid _ := ho
  have HWX : Hid _ := hw
  have HLEN : Hid _ := vals_len (vs := vs) h2 n2 hv
  have hK := kept_alloc 0 0 w (gbox a1 n1 c1 a2 n2 c2 a3 n3 c3)
  have HX : Hid _ := specValid _ a1 a2 a3 n1 c1 n2 c2 n3 c3 ins vs outs (f.keep hK)
  rw [h] at HX
  have HB : Hid _ := g0_start w (.slice a1 n1 c1) (.slice a2 n2 c2) (.slice a3 n3 c3)
  have HF : Hid _ := f.keep hK
  have HS : Hid _ := s.keep hK
  have HK : Hid _ := hK
  clear hK h f s ho hv hw
  go_enter Try.func34, Try.ntmps34
  go_wp2_with fail
  generalize w.alloc (gbox a1 n1 c1 a2 n2 c2 a3 n3 c3) = w1 at HX HB HF HS HK ⊢
  refine Calls.mono HX.out ?_
  rintro e w2 ⟨rfl, k2⟩
  obtain ⟨_, q0, q1, q2⟩ := G0.keep HB.out k2
  have HY : Hid _ := shapes w2 _ _ a1 b n1 m c1 cb ins xss (GS.keep HF.out k2).i (SS.keep HS.out k2) (by omega)
  rw [h2] at HY
  have HK2 : Hid _ := k2
  clear k2 HX
  go_wp2_with fail
  clear q0 q1 q2
  refine Calls.mono HY.out ?_
  rintro e w3 ⟨rfl, d3⟩
  have k3 := Kept.trans HK2.out (d3.kept 0 0)
  obtain ⟨_, q0, q1, q2⟩ := G0.keep HB.out k3
  have HZ : Hid _ := l1values w3 a1 a2 a3 b n1 c1 n2 c2 n3 c3 m cb ins vs outs xss (GS.keep HF.out k3) (SS.keep HS.out k3) HWX.out HV.out h2 l2
  have HK3 : Hid _ := k3
  clear d3 k3 HY HK2
  go_wp2_with fail
  clear q0 q1 q2
  refine Calls.mono HZ.out ?_
  rintro e w4 ⟨aA, capA, zss, rfl, hA, hs, k4⟩
  have HA : Hid _ := hA
  have HSM : Hid _ := hs
  have HK4 : Hid _ := Kept.trans HK3.out k4
  clear HZ HK3 k4 hA hs
  go_wp2_with fail
  go_loopw [7, 8] (fun u i W => ∃ k : Nat, k ≤ n3 ∧ i = .int .i64 k ∧ Hid (AR W w4.heap.size u k (outs.map fun o => (valsTo xss vs n2).getD o.toNat [])) ∧ Hid (Kept 0 0 w4 W)) (fun _ i _ => n3 - (intOf i).toNat)
  case atStart => exact ⟨0, Nat.zero_le _, rfl, AR.nil _ _ _, Kept.refl _ _ _⟩
  case round =>
    obtain ⟨j, hj, rfl, hP, hK⟩ := hrel
    have q2 := (G0.keep HB.out (Kept.trans HK4.out hK.out)).q2
    by_cases hlt : j < n3
    · rcases (GS.keep HF.out (Kept.trans HK4.out hK.out)).o.at_ with z0 | ⟨ga, oa, ea, z1, z2, z3, z4⟩
      · omega
      have c1 := z4 j hlt
      have hix : idxB (outs.getD j 0) n2 = true := List.all_eq_true.1 HO.out (outs.getD j 0) (getD_mem (by omega))
      have hix2 := of_decide_eq_true hix
      have hy := map_getD outs (valsTo xss vs n2) (j := j) (by omega)
      obtain ⟨o, ho⟩ : ∃ o : Nat, outs.getD j 0 = o := ⟨(outs.getD j 0).toNat, by omega⟩
      rw [ho, Int.toNat_natCast] at hy
      rw [ho] at c1 hix2
      have HYY : Hid _ := hy
      have hon : o < n2 := by omega
      rcases (SS.keep HA.out hK.out).at_ with z0 | ⟨gb, ob, eb, y1, y2⟩
      · omega
      obtain ⟨b1, cc1, g1, g2, g3⟩ := y2 o hon
      have hsm := HSM.out o hon
      have hlen : 1 ≤ (zss.getD o []).length ∧ (zss.getD o []).length ≤ 1000 := by
        have s1 := same_len hsm
        have s2 := HLEN.out o hon
        have s3 := okV_len (List.all_eq_true.1 HV.out o (List.mem_range.2 hon))
        omega
      have HSO : Hid _ := hsm
      rcases g3.at_ with z0 | ⟨gc, oc, ec, x1, x2, x3, x4⟩
      · omega
      have HC : Hid _ := l1copy wr gc oc (zss.getD o []).length cc1 (zss.getD o []) hlen.1 (by omega) rfl g3.lt x4
      obtain ⟨us, hown, hus⟩ := hP.out
      have HUS : Hid _ := hus
      subst ea eb ec
      clear z1 z2 z3 z4 y1 y2 g2 g3 x1 x2 x3 x4 hy hix hix2 hP ho hsm hus
      generalize zss.getD o [] = ys at g1 HC HSO hlen
      obtain ⟨ny, hny⟩ : ∃ ny, ny = ys.length := ⟨_, rfl⟩
      rw [← hny] at g1 HC hlen
      clear hny
      go_wp2_with fail
      refine Calls.mono HC.out ?_
      rintro e w5 ⟨G, cap, rfl, h7, f7, b7, k7⟩
      have hown5 := own_keep hown k7
      have hz5 : w4.heap.size ≤ w5.heap.size := (Kept.trans hK.out k7).size
      clear HC g1 q2 c1
      go_wp2_with (first | (at_builtin; refine wpList_append_lies _ rfl _ _ 52 rfl w4.heap.size 32 i0 (.slice none 0 0) 1 24 Try.underlying52 hi hz0 hz1 hz2 rfl (by decide) _ _ us rfl (hown5.alloc _) ⟨w5.heap.size, 0, none⟩ 1 1 [.slice (some ⟨G, 0, none⟩) ny cap] rfl rfl ?c1 ?c2 (by decide) ?c3 ?c4 ?c5 _ rfl ?_))
      case c1 => exact cell_one_new _ _ _
      case c2 => intro u hu; simp at hu; subst hu; rfl
      case c3 => unfold maxLen; omega
      case c4 => omega
      case c5 => simp; omega
      intro g9 cap9 w9 hown9 hg9 hat9 _
      have R1 : Hid (AR w9 w4.heap.size (.slice (some ⟨g9, 0, none⟩) (j + 1) cap9) (j + 1) (outs.map fun o => (valsTo xss vs n2).getD o.toNat [])) :=
        AR.step (W := w5) (Vs := outs.map fun o => (valsTo xss vs n2).getD o.toNat []) hown5 (us_keep HUS.out k7) (x := (valsTo xss vs n2).getD o []) ⟨_, _, _, ys, rfl, h7, f7.fs, HSO.out⟩ (fun _ p hp c => by
          cases hp
          have := (own_blk hown (k := G) c).2
          omega) hown9 hg9 (by rcases hat9 with h | h; exact .inl h; exact .inr (by rw [h]; simp)) (fun _ _ => rfl) HYY.out
      have R2 : Hid _ := grown_kept (base := w4.heap.size) hg9 (fun i hi => (own_blk hown5 hi).1) ((Kept.trans hK.out k7).trans (kept_alloc 0 0 w5 _)) (Nat.le_refl _)
      clear hown9 hg9 hat9 hown hown5 k7 f7 HUS hK
      go_wp2
      go_roundw
      case rel => exact ⟨j + 1, by omega, by go_num, R1, R2⟩
      case measure => simp [intOf]; omega
    · obtain rfl : j = n3 := by omega
      obtain ⟨a, cap, yss, rfl, r1, r2⟩ := AR.ss hP.out
      have R1 : Hid _ := r1
      have R2 : Hid (∀ i, i < j → same (yss.getD i []) ((valsTo xss vs n2).getD (outs.getD i 0).toNat [])) := fun i hi => by
        rw [← map_getD outs (valsTo xss vs n2) (by omega)]
        exact r2 i hi
      have R3 : Hid (Kept 0 0 w wr) := Kept.trans HK.out (Kept.trans HK4.out hK.out)
      clear r1 r2 hP hK
      go_wp2
      go_ret2
      exact ⟨a, cap, yss, rfl, R1.out, R2.out, R3.out⟩
end Go.Proofs.Ytfbcgahmmjpijab
