import Derived.Test.YtiiimofkkahobaaDoorP20
namespace Go.Proofs.YtiiimofkkahobaaDoor
open Go.RowKit Flt
attribute [local go_sem] alloc_drewN setCell_drewN run_store_float
theorem YB.down {W : World} {B B' : Nat} {v : Value} {bs : List Int} (f : YB W B v bs) (h : B' ≤ B) : YB W B' v bs := by
  refine ⟨f.1, ?_⟩
  rcases f.2 with c | ⟨g, cap, cur, e, b1, b2⟩
  · exact .inl c
  · exact .inr ⟨g, cap, cur, e, Nat.le_trans h b1, b2⟩
set_option maxRecDepth 1000000 in
set_option maxHeartbeats 8000000 in
theorem implText_in (w : World) (a1 a2 a3 : Option Addr) (n1 c1 n2 c2 n3 c3 : Nat) (ins : List Int) (vs : List Vl) (outs : List Int) (f : GS w a1 n1 a2 n2 a3 n3 ins vs outs) (T : Tabs w) (h : okG ins vs outs = true) (hS : SmG ins vs outs) (l1 : n1 ≤ 20) (l2 : n2 ≤ 2000) (l3 : n3 ≤ 50) :
    Calls Tryd.prog 7 #[gagg a1 n1 c1 a2 n2 c2 a3 n3 c3] w fun e w' => ∃ v, e = .returned v ∧ YB w' w.heap.size v (bytesOf (textM ins vs outs)) ∧ Kept 0 0 w w' := by
  have hK := kept_alloc 0 0 w (gbox a1 n1 c1 a2 n2 c2 a3 n3 c3)
  have HX : Hid _ := implValid _ a1 a2 a3 n1 c1 n2 c2 n3 c3 ins vs outs (f.keep hK)
  rw [h] at HX
  have HB : Hid _ := g0_start w (.slice a1 n1 c1) (.slice a2 n2 c2) (.slice a3 n3 c3)
  have HF : Hid _ := f.keep hK
  have HK : Hid _ := hK
  have HT : Hid _ := T.keep hK
  have HS : Hid _ := hS
  have HE : Hid (ins.length = n1 ∧ outs.length = n3 ∧ vs.length = n2) := ⟨f.i.len, f.o.len, f.v.len⟩
  clear hK h f hS T
  go_enter Tryd.func7, Tryd.ntmps7
  go_wp2_with fail
  generalize w.alloc (gbox a1 n1 c1 a2 n2 c2 a3 n3 c3) = wB at HX HK HB HF HT ⊢
  refine Calls.mono HX.out ?_
  rintro e w2 ⟨rfl, k2⟩
  obtain ⟨_, q0, q1, q2⟩ := G0.keep HB.out k2
  have HG : Hid _ := G0.keep HB.out k2
  have F2 : Hid _ := GS.keep HF.out k2
  have T2 : Hid _ := HT.out.keep k2
  have K2 : Hid _ := HK.out.trans k2
  clear k2 HX HF HT HB HK
  go_wp2_with fail
  go_loopw [3, 17] (fun u i W => ∃ k : Nat, k ≤ n1 ∧ i = .int .i64 k ∧ Hid (YB W w2.heap.size u (bytesOf (insT ins k))) ∧ Hid (Kept 0 0 w2 W)) (fun _ i _ => n1 - (intOf i).toNat)
  case atStart => exact ⟨0, Nat.zero_le _, rfl, YB.nil _ _, Kept.refl 0 0 w2⟩
  case round =>
    obtain ⟨k, hk, rfl, hR, hK⟩ := hrel
    by_cases hlt : k < n1
    · have hI := IS.keep F2.out.i hK.out (.inr (.inr (Nat.le_refl _)))
      rcases hI.at_ with z | ⟨ga, off, rfl, z1, z2, z3, z4⟩
      · omega
      have c1 := z4 k hlt
      have hs := HS.out.i k (by rw [HE.out.1]; exact hlt)
      have HV : Hid _ := itoaS (ins.getD k 0) hs.1 (by have := hs.2; omega) wr (T2.out.keep hK.out)
      have HO : Hid (insT ins (k + 1) = insT ins k ++ (joinW [[105, 110], decI (ins.getD k 0)] ++ [10])) := by show _ = _; rw [line_in]; rfl
      have HL : Hid ((insT ins k).length ≤ 200 ∧ 0 < (joinW [[105, 110], decI (ins.getD k 0)]).length ∧ (joinW [[105, 110], decI (ins.getD k 0)]).length ≤ 100) := by
        have h1 := insT_le HS.out.i k (by rw [HE.out.1]; omega)
        have h2 := decI_le hs
        refine ⟨by omega, ?_, ?_⟩
        · rw [joinW_cons]; simp
        · rw [joinW_cons, jn_one]; simp only [List.length_append, List.length_cons, List.length_nil]; omega
      clear hI z1 z2 z3 z4 hs
      generalize decI (ins.getD k 0) = l at HV HO HL
      generalize ins.getD k 0 = y at c1 HV
      have hk20 : k < 20 := by omega
      go_wp2_with (first
        | (go_at_call 26; refine Calls.mono HV.out ?_; rintro e w3 ⟨rfl, k3⟩)
        | fail)
      have HW : Hid _ := withLineS _ w2.heap.size _ _ ((hR.out.keep k3).keep (kept_alloc 0 0 w3 (.cells #[strL [105, 110], strL l] 9))) w3.heap.size 0 2 2 [[105, 110], l] rfl (cells2 w3 [105, 110] l) (by simp) (by simp) HL.out.2.1 (by have := HL.out.2.2; omega) (by simp) (by have := HL.out.1; rw [bytesOf_len]; omega) (by have := hK.out.size; have := k3.size; simp; omega)
      refine Calls.mono HW.out ?_
      rintro e w4 ⟨u4, rfl, r1, r2, r3⟩
      have R1 : Hid _ := r1
      have R2 : Hid _ := yb_kept (Nat.le_refl _) ((hK.out.trans k3).trans (kept_alloc 0 0 w3 _)) ((hR.out.keep k3).keep (kept_alloc 0 0 w3 _)) r2
      clear r1 r2 r3
      rw [← bytesOf_app, ← HO.out] at R1
      go_wp2_with fail
      go_roundw
      case rel => exact ⟨k + 1, by omega, by go_num, R1, R2⟩
      case measure => simp [intOf]; omega
    · obtain rfl : k = n1 := by omega
      obtain ⟨_, q0, q1, q2⟩ := G0.keep HG.out hK.out
      rw [show insT ins k = insT ins ins.length by rw [HE.out.1]] at hR
      have P1 : Hid _ := hR
      have P2 : Hid _ := hK
      clear hR hK
      go_wp2_with fail
      go_loopw [3, 30] (fun u i W => ∃ j : Nat, j ≤ n2 ∧ i = .int .i64 j ∧ Hid (YB W w2.heap.size u (bytesOf (insT ins ins.length ++ valsT vs j))) ∧ Hid (Kept 0 0 w2 W)) (fun _ i _ => n2 - (intOf i).toNat)
      case atStart => exact ⟨0, Nat.zero_le _, rfl, by rw [valsT, List.append_nil]; exact P1.out, P2.out⟩
      case round =>
        obtain ⟨j, hj, rfl, hR, hK⟩ := hrel
        by_cases hlt : j < n2
        · rcases F2.out.v.at_ with z0 | ⟨ga, oa, rfl, z1, z2, z3, z4⟩
          · omega
          have hat := (z4 j hlt).keep z3 hK.out (.inr (.inr (Nat.le_refl _)))
          have SV : Hid _ := HS.out.v j (by rw [HE.out.2.2]; exact hlt)
          have HO : Hid (valsT vs (j + 1) = valsT vs j ++ valL j (vs.getD j Vl.zero)) := rfl
          clear z1 z2 z3 z4
          generalize vs.getD j Vl.zero = v at hat SV HO
          obtain ⟨e0, e1, e2, e3, e4, e5⟩ := hat
          go_wp2_with fail
          have HA : Hid (Kept 0 0 w2 (wr.alloc (vbox v.op v.len v.a v.b v.c v.k))) := hK.out.trans (kept_alloc 0 0 wr _)
          have hAt : At (wr.alloc (vbox v.op v.len v.a v.b v.c v.k)) wr.heap.size 0 v := vbox_atT wr v
          have hZ : Hid (wr.heap.size < (wr.alloc (vbox v.op v.len v.a v.b v.c v.k)).heap.size) := by show _ < _; simp
          obtain ⟨p, hp⟩ : ∃ p : Nat, v.op = (p : Int) := ⟨v.op.toNat, by have := SV.out.op.1; omega⟩
          have HRw : Hid _ := hR.out.keep (kept_alloc 0 0 wr (vbox v.op v.len v.a v.b v.c v.k))
          clear e0 e1 e2 e3 e4 e5 hR hK
          generalize wr.alloc (vbox v.op v.len v.a v.b v.c v.k) = wA at HA hAt HRw hZ ⊢
          have HV : Hid (∀ X, Kept 0 0 wA X → Calls Tryd.prog 28 #[.int .i64 (j : Int)] X fun e w' => e = .returned (strL ([118] ++ dec10 j)) ∧ Kept 0 0 X w') := fun X kX => valNameS (j : Int) (by omega) (by omega) X (T2.out.keep (HA.out.trans kX))
          have HPt : Hid (∀ X, Kept 0 0 wA X → Calls Tryd.prog 29 #[v.agg] X (PtO X v)) := fun X kX => partsS X (T2.out.keep (HA.out.trans kX)) v SV.out
          have HIt : Hid (∀ X, Kept 0 0 wA X → Calls Tryd.prog 26 #[.int .i64 v.len] X fun e w' => e = .returned (strL (decI v.len)) ∧ Kept 0 0 X w') := fun X kX => itoaS v.len SV.out.len.1 (by have := SV.out.len.2; omega) X (T2.out.keep (HA.out.trans kX))
          have hp14 : p < 14 := by have := SV.out.op.2; omega
          have HPL : Hid (0 < (partsW v).length ∧ (partsW v).length ≤ 100) := by
            have h1 := parts_len v (fun _ => SV.out.op.2) SV.out.op.1
            exact ⟨h1.1, by omega⟩
          have HCc : Hid (∀ W, Kept 0 0 wA W → (W.cell? ⟨wr.heap.size, 0, none⟩ = some (.int .i64 (p : Int)) ∧ W.cell? ⟨wr.heap.size, 1, none⟩ = some (.int .i64 v.len) ∧ W.cell? ⟨wr.heap.size, 2, none⟩ = some (.int .i64 v.a) ∧ W.cell? ⟨wr.heap.size, 3, none⟩ = some (.int .i64 v.b) ∧ W.cell? ⟨wr.heap.size, 4, none⟩ = some (.int .i64 v.c) ∧ W.cell? ⟨wr.heap.size, 5, none⟩ = some (.float .f64 v.k) ∧ W.cell? ⟨0, p, none⟩ = some (strL (opW v.op)))) := fun W kW => by
            obtain ⟨e0, e1, e2, e3, e4, e5⟩ := hAt.keep hZ.out kW (by omega)
            rw [hp] at e0
            simp only [Nat.zero_add] at e1 e2 e3 e4 e5
            refine ⟨e0, e1, e2, e3, e4, e5, ?_⟩
            rw [hp]
            exact (T2.out.keep (HA.out.trans kW)).ops p hp14
          have hag : v.agg = .agg #[.int .i64 (p : Int), .int .i64 v.len, .int .i64 v.a, .int .i64 v.b, .int .i64 v.c, .float .f64 v.k] := by rw [← hp]
          rw [hag] at HPt
          have HWl : Hid (wordsV j v = [[118] ++ dec10 j, [61], opW v.op] ++ partsW v ++ [[58], decI v.len]) := rfl
          have HWL : Hid _ := words_le j v SV.out (by omega)
          have HVL : Hid (valL j v = joinW (wordsV j v) ++ [10]) := (line_val j v).symm
          clear hag hAt hp
          refine wp_onG (reg12 hp14 HV HPt HIt HPL HCc ?_)
          intro w6 v6 u35 u36 u37 u38 u39 u40 u41 u42 u43 u44 u45 u46 u47 u48 u49 r6 k6
          rw [← HWl.out] at r6
          have HL : Hid ((insT ins ins.length ++ valsT vs j).length ≤ 1000000) := by
            show _ ≤ _
            have h1 := insT_le HS.out.i _ (Nat.le_refl _)
            have h3 := valsT_le HS.out (by rw [HE.out.2.2]; exact l2) j (by rw [HE.out.2.2]; omega)
            have h5 := HE.out
            rw [List.length_append]; omega
          obtain ⟨g6, q6, rfl, b6, z6, y6, p6⟩ := WB.at_ r6 (by have h := HWl.out; rw [h]; simp)
          have HW : Hid _ := withLineS w6 w2.heap.size _ _ (YB.keep HRw.out k6) g6 0 q6 _ (wordsV j v) rfl (fun j x hx => by have := y6 j x hx; rwa [add_addr] at this) z6 p6 HWL.out.2.1 (by have := HWL.out.2.2; omega) (by have := HWL.out.1; omega) (by have := HL.out; rw [bytesOf_len]; omega) (by have := HA.out.size; have := k6.size; omega)
          have hj2 : j < 2000 := by omega
          have HK6 : Hid _ := HA.out.trans k6
          have HR6 : Hid _ := YB.keep HRw.out k6
          clear r6 k6 y6 z6 p6 b6 HRw HV HPt HIt HPL HCc HWL
          generalize hwl : (wordsV j v).length = nw at HW ⊢
          clear hwl
          go_wp2_with (first | (go_at_call 25; refine Calls.mono HW.out ?_; rintro e w4 ⟨u4, rfl, r1, r2, r3⟩) | fail)
          have R1 : Hid _ := r1
          have R2 : Hid _ := yb_kept (Nat.le_refl _) HK6.out HR6.out r2
          clear r1 r2 r3
          rw [← bytesOf_app, List.append_assoc (insT ins ins.length), ← HVL.out, ← HO.out] at R1
          go_wp2_with fail
          go_roundw
          case rel => exact ⟨j + 1, by omega, by go_num, R1, R2⟩
          case measure => simp [intOf]; omega
        · obtain rfl : j = n2 := by omega
          obtain ⟨_, q0, q1, q2⟩ := G0.keep HG.out hK.out
          rw [show valsT vs j = valsT vs vs.length by rw [HE.out.2.2]] at hR
          have P3 : Hid _ := hR
          have P4 : Hid _ := hK
          clear hR hK
          go_wp2_with fail
          go_loopw [3, 57] (fun u i W => ∃ m : Nat, m ≤ n3 ∧ i = .int .i64 m ∧ Hid (YB W w2.heap.size u (bytesOf (insT ins ins.length ++ valsT vs vs.length ++ outsT outs m))) ∧ Hid (Kept 0 0 w2 W)) (fun _ i _ => n3 - (intOf i).toNat)
          case atStart => exact ⟨0, Nat.zero_le _, rfl, by rw [outsT, List.append_nil]; exact P3.out, P4.out⟩
          case round =>
            obtain ⟨m, hm, rfl, hR, hK⟩ := hrel
            by_cases hlt : m < n3
            · have hI := IS.keep F2.out.o hK.out (.inr (.inr (Nat.le_refl _)))
              rcases hI.at_ with z | ⟨ga, off, rfl, z1, z2, z3, z4⟩
              · omega
              have c1 := z4 m hlt
              have hs := HS.out.o m (by rw [HE.out.2.1]; exact hlt)
              have HV : Hid _ := valNameS (outs.getD m 0) hs.1 (by have := hs.2; omega) wr (T2.out.keep hK.out)
              have HO : Hid (outsT outs (m + 1) = outsT outs m ++ (joinW [[111, 117, 116], [118] ++ decI (outs.getD m 0)] ++ [10])) := by show _ = _; rw [line_out]; rfl
              have HL : Hid ((insT ins ins.length ++ valsT vs vs.length ++ outsT outs m).length ≤ 1000000 ∧ 0 < (joinW [[111, 117, 116], [118] ++ decI (outs.getD m 0)]).length ∧ (joinW [[111, 117, 116], [118] ++ decI (outs.getD m 0)]).length ≤ 100) := by
                have h1 := insT_le HS.out.i _ (Nat.le_refl _)
                have h3 := valsT_le HS.out (by rw [HE.out.2.2]; exact l2) _ (Nat.le_refl _)
                have h4 := outsT_le HS.out.o m (by rw [HE.out.2.1]; omega)
                have h2 := decI_le hs
                have h5 := HE.out
                refine ⟨by rw [List.length_append, List.length_append]; omega, ?_, ?_⟩
                · rw [joinW_cons]; simp
                · rw [joinW_cons, jn_one]; simp only [List.length_append, List.length_cons, List.length_nil]; omega
              clear hI z1 z2 z3 z4 hs
              generalize [118] ++ decI (outs.getD m 0) = l at HV HO HL
              generalize outs.getD m 0 = y at c1 HV
              have hm50 : m < 50 := by omega
              go_wp2_with (first
                | (go_at_call 28; refine Calls.mono HV.out ?_; rintro e w3 ⟨rfl, k3⟩)
                | fail)
              have HW : Hid _ := withLineS _ w2.heap.size _ _ ((hR.out.keep k3).keep (kept_alloc 0 0 w3 (.cells #[strL [111, 117, 116], strL l] 9))) w3.heap.size 0 2 2 [[111, 117, 116], l] rfl (cells2 w3 [111, 117, 116] l) (by simp) (by simp) HL.out.2.1 (by have := HL.out.2.2; omega) (by simp) (by have := HL.out.1; rw [bytesOf_len]; omega) (by have := hK.out.size; have := k3.size; simp; omega)
              refine Calls.mono HW.out ?_
              rintro e w4 ⟨u4, rfl, r1, r2, r3⟩
              have R1 : Hid _ := r1
              have R2 : Hid _ := yb_kept (Nat.le_refl _) ((hK.out.trans k3).trans (kept_alloc 0 0 w3 _)) ((hR.out.keep k3).keep (kept_alloc 0 0 w3 _)) r2
              clear r1 r2 r3
              rw [← bytesOf_app, List.append_assoc (insT ins ins.length ++ valsT vs vs.length), ← HO.out] at R1
              go_wp2_with fail
              go_roundw
              case rel => exact ⟨m + 1, by omega, by go_num, R1, R2⟩
              case measure => simp [intOf]; omega
            · obtain rfl : m = n3 := by omega
              rw [show outsT outs m = outsT outs outs.length by rw [HE.out.2.1]] at hR
              go_wp2_with fail
              go_ret
              exact ⟨_, rfl, YB.down hR.out K2.out.size, K2.out.trans hK.out⟩
end Go.Proofs.YtiiimofkkahobaaDoor
