import Derived.Test.YtfbcgahmmjpijabH7
namespace Go.Proofs.Ytfbcgahmmjpijab
open Go.RowKit Flt
attribute [local go_sem] alloc_drewN setCell_drewN run_store_float

theorem map_getD (outs : List Int) (zss : List (List Nat)) {j : Nat} (h : j < outs.length) : (outs.map fun o => zss.getD o.toNat []).getD j [] = zss.getD (outs.getD j 0).toNat [] := by
  have e : outs.getD j 0 = outs[j] := by rw [List.getD_eq_getElem?_getD, List.getElem?_eq_getElem h]; rfl
  rw [e, List.getD_eq_getElem?_getD, List.getElem?_map, List.getElem?_eq_getElem h]
  rfl

set_option maxRecDepth 100000 in
set_option maxHeartbeats 2000000 in
theorem implEval_bad (w : World) (a1 a2 a3 b : Option Addr) (n1 c1 n2 c2 n3 c3 m cb : Nat) (ins : List Int) (vs : List Vl) (outs : List Int) (f : GS w a1 n1 a2 n2 a3 n3 ins vs outs) (h : okG ins vs outs = false) :
    Calls Try.prog 36 #[gagg a1 n1 c1 a2 n2 c2 a3 n3 c3, .slice b m cb] w fun e w' => e = .returned (.tuple #[.slice none 0 0, .int .i64 1]) ∧ Kept 0 0 w w' := by
  have hK := kept_alloc 0 0 w (gbox a1 n1 c1 a2 n2 c2 a3 n3 c3)
  have HX : Hid _ := implValid _ a1 a2 a3 n1 c1 n2 c2 n3 c3 ins vs outs (f.keep hK)
  rw [h] at HX
  have HK : Hid _ := hK
  clear hK h f
  go_enter Try.func36, Try.ntmps36
  go_wp2_with fail
  refine Calls.mono HX.out ?_
  rintro e w2 ⟨rfl, k2⟩
  go_wp2
  go_ret2
  exact ⟨rfl, Kept.trans HK.out k2⟩

set_option maxRecDepth 100000 in
set_option maxHeartbeats 2000000 in
theorem implEval_shape (w : World) (a1 a2 a3 b : Option Addr) (n1 c1 n2 c2 n3 c3 m cb : Nat) (ins : List Int) (vs : List Vl) (outs : List Int) (xss : List (List Nat)) (f : GS w a1 n1 a2 n2 a3 n3 ins vs outs) (s : SS w b m xss) (h : okG ins vs outs = true) (h2 : inB ins xss = false) (hn : n1 ≤ 1048576) :
    Calls Try.prog 36 #[gagg a1 n1 c1 a2 n2 c2 a3 n3 c3, .slice b m cb] w fun e w' => e = .returned (.tuple #[.slice none 0 0, .int .i64 4]) ∧ Kept 0 0 w w' := by
  have hK := kept_alloc 0 0 w (gbox a1 n1 c1 a2 n2 c2 a3 n3 c3)
  have HX : Hid _ := implValid _ a1 a2 a3 n1 c1 n2 c2 n3 c3 ins vs outs (f.keep hK)
  rw [h] at HX
  have HB : Hid _ := g0_start w (.slice a1 n1 c1) (.slice a2 n2 c2) (.slice a3 n3 c3)
  have HF : Hid _ := f.keep hK
  have HS : Hid _ := s.keep hK
  have HK : Hid _ := hK
  clear hK h f s
  go_enter Try.func36, Try.ntmps36
  go_wp2_with fail
  refine Calls.mono HX.out ?_
  rintro e w2 ⟨rfl, k2⟩
  obtain ⟨_, q0, q1, q2⟩ := G0.keep HB.out k2
  have HY : Hid _ := inputsFit w2 _ _ a1 b n1 m c1 cb ins xss (GS.keep HF.out k2).i (SS.keep HS.out k2) (by omega)
  rw [h2] at HY
  have HK2 : Hid _ := Kept.trans HK.out k2
  clear k2 HX HK HF HS HB
  go_wp2_with fail
  refine Calls.mono HY.out ?_
  rintro e w3 ⟨rfl, k3⟩
  go_wp2
  go_ret2
  exact ⟨rfl, Kept.trans HK2.out (k3.kept 0 0)⟩

set_option maxRecDepth 100000 in
set_option maxHeartbeats 2000000 in
theorem implEval_ok (w : World) (a1 a2 a3 b : Option Addr) (n1 c1 n2 c2 n3 c3 m cb : Nat) (ins : List Int) (vs : List Vl) (outs : List Int) (xss : List (List Nat)) (f : GS w a1 n1 a2 n2 a3 n3 ins vs outs) (s : SS w b m xss) (hw : Words xss) (h : okG ins vs outs = true) (h2 : inB ins xss = true) :
    Calls Try.prog 36 #[gagg a1 n1 c1 a2 n2 c2 a3 n3 c3, .slice b m cb] w fun e w' => ∃ G gf cf zss, e = .returned (.tuple #[.slice (some ⟨G, 0, none⟩) n3 n3, .int .i64 0]) ∧ w.heap.size ≤ G ∧ SP w' G n3 n3 gf cf zss ∧ zss.length = n3 ∧ (∀ j, j < n3 → same (zss.getD j []) ((valsTo xss vs n2).getD (outs.getD j 0).toNat [])) ∧ Kept 0 0 w w' := by
  have hok := h
  have e1 := f.i.len
  have e2 := f.v.len
  have e3 := f.o.len
  unfold okG at hok
  simp only [Bool.and_eq_true, decide_eq_true_eq, e1, e2, e3] at hok
  obtain ⟨⟨l1, l2, l3⟩, _, hv, ho, _⟩ := hok
  have HV : Hid _ := hv
  have HO : Hid _ := ho
  have HW : Hid _ := vals_lt (vs := vs) hw (fun k => by
    rw [List.getD_eq_getElem?_getD]
    cases hh : vs[k]? with
    | none => decide
    | some v => exact f.v.lt v (List.mem_of_getElem? hh))
  have HLEN : Hid _ := vals_len (vs := vs) h2 n2 hv
  have HM : Hid (m = n1) := by
    have := h2
    unfold inB at this
    simp only [Bool.and_eq_true, decide_eq_true_eq, e1, s.len] at this
    exact this.1
  have hK := kept_alloc 0 0 w (gbox a1 n1 c1 a2 n2 c2 a3 n3 c3)
  have HX : Hid _ := implValid _ a1 a2 a3 n1 c1 n2 c2 n3 c3 ins vs outs (f.keep hK)
  rw [h] at HX
  have HB : Hid _ := g0_start w (.slice a1 n1 c1) (.slice a2 n2 c2) (.slice a3 n3 c3)
  have HF : Hid _ := f.keep hK
  have HS : Hid _ := s.keep hK
  have HK : Hid _ := hK
  have HZ : Hid (w.heap.size + 1 ≤ (w.alloc (gbox a1 n1 c1 a2 n2 c2 a3 n3 c3)).heap.size) := by show _ ≤ _; simp
  clear hK h f s ho hv hw
  go_enter Try.func36, Try.ntmps36
  go_wp2_with fail
  generalize w.alloc (gbox a1 n1 c1 a2 n2 c2 a3 n3 c3) = w1 at HX HB HF HS HK HZ ⊢
  refine Calls.mono HX.out ?_
  rintro e w2 ⟨rfl, k2⟩
  obtain ⟨_, q0, q1, q2⟩ := G0.keep HB.out k2
  have HY : Hid _ := inputsFit w2 _ _ a1 b n1 m c1 cb ins xss (GS.keep HF.out k2).i (SS.keep HS.out k2) (by omega)
  rw [h2] at HY
  have HK2 : Hid _ := k2
  clear k2 HX
  go_wp2_with fail
  clear q0 q1 q2
  refine Calls.mono HY.out ?_
  rintro e w3 ⟨rfl, d3⟩
  have k3 := Kept.trans HK2.out (d3.kept 0 0)
  have hm := make_s n2 w3 (by omega)
  have HP : Hid _ := LV.made w3 n2 (valsTo xss vs 0)
  have k4 := k3.trans (kept_alloc 0 0 w3 (.cells (madeCells #[.slice none 0 0] n2) 32))
  have q1' := (G0.keep HB.out k3).q1
  obtain ⟨_, q0, q1, q2⟩ := G0.keep HB.out k4
  have HK3 : Hid _ := k4
  have HZ3 : Hid (w1.heap.size ≤ w3.heap.size) := k3.size
  clear d3 k3 k4 HY HK2
  generalize w3.alloc (.cells (madeCells #[.slice none 0 0] n2) 32) = w4 at hm HP HK3 q0 q1 q2
  go_wp2_with fail
  clear hm q1' q0 q1 q2
  go_loopw [27] (fun i W => ∃ k : Nat, k ≤ n2 ∧ i = .int .i64 k ∧ Hid (LV W w3.heap.size n2 k (valsTo xss vs k)) ∧ Hid (Kept 0 0 w1 W)) (fun i _ => n2 - (intOf i).toNat)
  case atStart => exact ⟨0, Nat.zero_le _, rfl, HP, HK3⟩
  case round =>
    obtain ⟨k, hk, rfl, hP, hK⟩ := hrel
    clear HP HK3
    by_cases hlt : k < n2
    · have hF := GS.keep HF.out hK.out
      rcases hF.v.at_ with z0 | ⟨ga, oa, ea, z1, z2, z3, z4⟩
      · omega
      have hat := z4 k hlt
      have hvk := hF.v.lt
      have ok : okV ins vs k = true := List.all_eq_true.1 HV.out k (List.mem_range.2 hlt)
      have kb := kept_alloc 0 0 wr (vbox (vs.getD k Vl.zero).op (vs.getD k Vl.zero).len (vs.getD k Vl.zero).a (vs.getD k Vl.zero).b (vs.getD k Vl.zero).c (vs.getD k Vl.zero).k)
      have HX : Hid _ := elementsOf _ (vs.getD k Vl.zero) w3.heap.size n2 n2 m cb k b xss (valsTo xss vs k) (hP.out.keep kb) (SS.keep HS.out (Kept.trans hK.out kb)) hk (by
          rw [List.getD_eq_getElem?_getD]
          cases hh : vs[k]? with
          | none => decide
          | some v => exact hvk v (List.mem_of_getElem? hh)) (HW.out k) (fun h0 => by
          unfold okV at ok
          rw [if_pos h0] at ok
          simp only [Bool.and_eq_true] at ok
          have := of_decide_eq_true ok.2.1
          rw [e1] at this
          rw [HM.out]
          exact this) (fun h0 => by
          unfold okV at ok
          rw [if_neg h0] at ok
          simp only [Bool.and_eq_true] at ok
          exact ok.2.1)
      have HS1 : Hid (∀ {w' : World} {b : Option Addr} {m c : Nat}, Kept 0 0 wr w' → Cl w' (.slice b m c) (one xss (vs.getD k Vl.zero) (valsTo xss vs k)) → _) := fun q hu => hP.out.step hlt q hu
      have HKB : Hid _ := kb
      clear z1 z2 z3 z4 ok hvk hF kb
      generalize vs.getD k Vl.zero = v at hat HX HS1 HKB
      obtain ⟨d0, d1, d2, d3, d4, d5⟩ := hat
      subst ea
      go_wp2_with fail
      refine Calls.mono HX.out ?_
      rintro e w5 ⟨b5, m5, c5, rfl, hc5, k5⟩
      have k6 := Kept.trans HKB.out k5
      have P5 := hP.out.keep k6
      obtain ⟨b6, m6, c6, y1, _⟩ := P5.at_ k hlt
      have y2 := P5.free k
      have R1 : Hid _ := HS1.out k6 hc5
      have R2 : Hid _ := kept_put w1 w5 (Kept.trans hK.out k6) w3.heap.size k (.slice b5 m5 c5) HZ3.out
      clear P5 k6 k5 hc5 HX HS1 HKB d0 d1 d2 d3 d4 d5 hP hK
      go_wp2
      go_roundw
      case rel => exact ⟨k + 1, by omega, by go_num, R1, R2⟩
      case measure => simp [intOf]; omega
    · obtain rfl : k = n2 := by omega
      obtain ⟨w5, hw5⟩ : ∃ w5, w5 = wr := ⟨_, rfl⟩
      subst hw5
      obtain ⟨zss, hZ, hZs⟩ := hP.out.ss
      have q2 := (G0.keep HB.out hK.out).q2
      have hm := make_s n3 w5 (by omega)
      have kk := kept_alloc 0 0 w5 (.cells (madeCells #[.slice none 0 0] n3) 32)
      have q2' := (G0.keep HB.out (Kept.trans hK.out kk)).q2
      have HZ4 : Hid _ := hZ
      have HZS : Hid _ := hZs
      have HS0 : Hid _ := SP.made w5 n3 id id (outs.map fun o => zss.getD o.toNat [])
      have HK5 : Hid _ := kk
      have HK : Hid _ := Kept.trans HK.out hK.out
      have HLZ : Hid (w1.heap.size ≤ w5.heap.size) := hK.out.size
      have HKW : Hid _ := hK.out
      clear hP hZ hZs kk hK
      generalize w5.alloc (.cells (madeCells #[.slice none 0 0] n3) 32) = w6 at hm HS0 HK5 q2'
      go_wp2_with fail
      clear hm q2 q2'
      go_loopw [47] (fun i W => ∃ k : Nat, k ≤ n3 ∧ i = .int .i64 k ∧ Hid (∃ gf cf, SP W w5.heap.size n3 k gf cf (outs.map fun o => zss.getD o.toNat [])) ∧ Hid (Kept 0 0 w5 W)) (fun i _ => n3 - (intOf i).toNat)
      case atStart => exact ⟨0, Nat.zero_le _, rfl, ⟨id, id, HS0.out⟩, HK5⟩
      case round =>
        obtain ⟨j, hj, rfl, hP, hK⟩ := hrel
        clear HS0 HK5
        obtain ⟨gf, cf, hP⟩ := hP.out
        by_cases hlt : j < n3
        · rcases (GS.keep HF.out (Kept.trans HKW.out hK.out)).o.at_ with z0 | ⟨ga, oa, ea, z1, z2, z3, z4⟩
          · omega
          have c1 := z4 j hlt
          have hix : idxB (outs.getD j 0) k = true := List.all_eq_true.1 HO.out (outs.getD j 0) (by
            rw [List.getD_eq_getElem?_getD, List.getElem?_eq_getElem (by omega)]
            exact List.getElem_mem _)
          have hix2 := of_decide_eq_true hix
          have hy : (outs.map fun o => zss.getD o.toNat []).getD j [] = zss.getD (outs.getD j 0).toNat [] := by
            exact map_getD _ _ (by omega)
          have HST : Hid (∀ {w' : World} {G c : Nat}, Kept 0 0 wr w' → FO w' G _ _ → wr.heap.size ≤ G → _ ≤ c → _) := fun q ho hG hc => hP.step hlt q ho hG hc
          rw [hy] at HST
          obtain ⟨o, ho⟩ : ∃ o : Nat, outs.getD j 0 = o := ⟨(outs.getD j 0).toNat, by omega⟩
          rw [ho, Int.toNat_natCast] at HST
          rw [ho] at c1 hix2
          have hon : o < k := by omega
          rcases (SS.keep HZ4.out hK.out).at_ with z0 | ⟨gb, ob, eb, y1, y2⟩
          · omega
          cases eb
          obtain ⟨b1, cc1, g1, g2, g3⟩ := y2 o hon
          rw [Nat.zero_add] at g1
          have hlen : 1 ≤ (zss.getD o []).length ∧ (zss.getD o []).length ≤ 1000 := by
            have s1 := same_len (HZS.out o hon)
            have s2 := HLEN.out o hon
            have s3 := okV_len (List.all_eq_true.1 HV.out o (List.mem_range.2 hon))
            omega
          rcases g3.at_ with z0 | ⟨gc, oc, ec, x1, x2, x3, x4⟩
          · omega
          have HC : Hid _ := clone wr gc oc (zss.getD o []).length cc1 (zss.getD o []) hlen.1 (by omega) x3 rfl g3.lt x4
          have HPK : Hid (∀ w', Kept 0 0 wr w' → w'.frozen? ⟨w5.heap.size, j, none⟩ = false ∧ ∃ u, w'.cell? ⟨w5.heap.size, j, none⟩ = some u) := fun w' q => ⟨(hP.keep q).free j, (hP.keep q).rest j hlt⟩
          subst ea ec
          clear z1 z2 z3 z4 y1 y2 g2 g3 x1 x2 x3 x4 hy hix hix2 hP ho
          generalize zss.getD o [] = ys at g1 HC HST hlen
          generalize ys.length = ny at g1 HC HST hlen
          go_wp2_with fail
          refine Calls.mono HC.out ?_
          rintro e w7 ⟨G, cap, rfl, h7, f7, b7, k7⟩
          have R1 : Hid _ := HST.out k7 f7 b7 h7
          have R2 : Hid _ := kept_put w5 w7 (Kept.trans hK.out k7) w5.heap.size j (.slice (some ⟨G, 0, none⟩) ny cap) (Nat.le_refl _)
          obtain ⟨fz, u, hu⟩ := HPK.out w7 k7
          clear HC HST HPK g1 f7 k7 c1 hK
          go_wp2
          go_roundw
          case rel => exact ⟨j + 1, by omega, by go_num, ⟨_, _, R1.out⟩, R2⟩
          case measure => simp [intOf]; omega
        · obtain rfl : j = n3 := by omega
          have R1 : Hid (Kept 0 0 w wr) := Kept.trans HK.out hK.out
          have R2 : Hid (∀ i, i < j → same ((outs.map fun o => zss.getD o.toNat []).getD i []) ((valsTo xss vs k).getD (outs.getD i 0).toNat [])) := fun i hi => by
            have hix : idxB (outs.getD i 0) k = true := List.all_eq_true.1 HO.out (outs.getD i 0) (by
              rw [List.getD_eq_getElem?_getD, List.getElem?_eq_getElem (by omega)]
              exact List.getElem_mem _)
            have hix2 := of_decide_eq_true hix
            have hy : (outs.map fun o => zss.getD o.toNat []).getD i [] = zss.getD (outs.getD i 0).toNat [] := by
              exact map_getD _ _ (by omega)
            rw [hy]
            exact HZS.out _ (by omega)
          have R3 : Hid _ := hP
          clear hP hK
          go_wp2
          go_ret2
          exact ⟨w5.heap.size, gf, cf, _, rfl, by have := HLZ.out; have := HZ.out; omega, R3.out, by rw [List.length_map]; exact e3, R2.out, R1.out⟩
end Go.Proofs.Ytfbcgahmmjpijab
