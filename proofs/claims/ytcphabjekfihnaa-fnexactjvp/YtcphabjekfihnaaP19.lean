import Derived.Test.YtcphabjekfihnaaP18
namespace Go.Proofs.Ytcphabjekfihnaa
open Go.RowKit Flt
attribute [local go_sem] alloc_drewN setCell_drewN run_store_float

theorem okF_all {v : Vl} {i : Nat} (h0 : v.op ≠ 0) : (List.range 3).all (okF v i) = (spareB v && (opsOf v).all (idxB · i)) := by
  have hc := cnt_le v.op
  have t : (v.op == 0) = false := beq_eq_false_iff_ne.2 h0
  have e3 : (List.range 3).all (okF v i) = (okF v i 0 && (okF v i 1 && (okF v i 2 && true))) := rfl
  rw [e3]
  unfold okF spareB opsOf bne
  rw [t]
  have f0 : fld v 0 = v.a := rfl
  have f1 : fld v 1 = v.b := rfl
  have f2 : fld v 2 = v.c := rfl
  rw [f0, f1, f2]
  rcases (by omega : cnt v.op = 0 ∨ cnt v.op = 1 ∨ cnt v.op = 2 ∨ cnt v.op = 3) with h | h | h | h
  all_goals
    rw [h]
    simp only [List.take_succ_cons, List.take_zero, List.all_cons, List.all_nil]
    generalize (v.a == 0) = x
    generalize (v.b == 0) = y
    generalize (v.c == 0) = z
    generalize placeB v.op = p
    generalize idxB v.a i = r
    generalize idxB v.b i = s
    generalize idxB v.c i = t
    revert x y z p r s t
    decide
theorem lens_eq {vs : List Vl} {v : Vl} {i : Nat} (hl : ∀ k, k < i → 1 ≤ (vs.getD k Vl.zero).len ∧ (vs.getD k Vl.zero).len ≤ 1000) (h : (opsOf v).all (idxB · i) = true) :
    ([(lenN vs v 0 : Int), (lenN vs v 1 : Int), (lenN vs v 2 : Int)]).take (cnt v.op) = (opsOf v).map fun o => (vs.getD o.toNat Vl.zero).len := by
  have key : ∀ o, idxB o i = true → ((vs.getD o.toNat Vl.zero).len.toNat : Int) = (vs.getD o.toNat Vl.zero).len := fun o ho => by
    have := of_decide_eq_true ho
    have := hl o.toNat (by omega)
    omega
  have hc := cnt_le v.op
  have n0 : 0 < cnt v.op → lenN vs v 0 = (vs.getD v.a.toNat Vl.zero).len.toNat := fun c => if_pos c
  have n1 : 1 < cnt v.op → lenN vs v 1 = (vs.getD v.b.toNat Vl.zero).len.toNat := fun c => if_pos c
  have n2 : 2 < cnt v.op → lenN vs v 2 = (vs.getD v.c.toNat Vl.zero).len.toNat := fun c => if_pos c
  unfold opsOf at h ⊢
  rcases (by omega : cnt v.op = 0 ∨ cnt v.op = 1 ∨ cnt v.op = 2 ∨ cnt v.op = 3) with e | e | e | e
  · rw [e]; rfl
  · rw [n0 (by omega)]
    rw [e] at h ⊢
    simp only [List.take_succ_cons, List.take_zero, List.all_cons, List.all_nil, Bool.and_true] at h
    simp only [List.take_succ_cons, List.take_zero, List.map_cons, List.map_nil]
    rw [key _ h]
  · rw [n0 (by omega), n1 (by omega)]
    rw [e] at h ⊢
    simp only [List.take_succ_cons, List.take_zero, List.all_cons, List.all_nil, Bool.and_true, Bool.and_eq_true] at h
    simp only [List.take_succ_cons, List.take_zero, List.map_cons, List.map_nil]
    rw [key _ h.1, key _ h.2]
  · rw [n0 (by omega), n1 (by omega), n2 (by omega)]
    rw [e] at h ⊢
    simp only [List.take_succ_cons, List.take_zero, List.all_cons, List.all_nil, Bool.and_true, Bool.and_eq_true] at h
    simp only [List.take_succ_cons, List.take_zero, List.map_cons, List.map_nil]
    rw [key _ h.1, key _ h.2.1, key _ h.2.2]
theorem cnt_out {op : Int} (h : ¬ (0 ≤ op ∧ op ≤ 13)) : cnt op = 0 := by
  unfold cnt
  rw [if_neg (by omega), if_neg (by omega), if_neg (by omega)]
theorem shape_out {op len C : Int} {xs : List Int} (h : ¬ (0 ≤ op ∧ op ≤ 13)) : shapeB op len C xs = false := by
  unfold shapeB
  rw [if_neg (by omega), if_neg (by omega), if_neg (by omega), if_neg (by omega), if_neg (by omega)]

theorem valOK (w : World) (a1 a2 a3 : Option Addr) (n1 c1 n2 c2 n3 c3 i : Nat) (ins : List Int) (vs : List Vl) (outs : List Int) (f : GS w a1 n1 a2 n2 a3 n3 ins vs outs) (hi : i < n2)
    (hlens : ∀ k, k < i → 1 ≤ (vs.getD k Vl.zero).len ∧ (vs.getD k Vl.zero).len ≤ 1000) :
    Calls Try.prog 98 #[gagg a1 n1 c1 a2 n2 c2 a3 n3 c3, .int .i64 (i : Int)] w fun e w' => e = .returned (.bool (okV ins vs i)) ∧ Kept 0 0 w w' := by
  rcases f.v.at_ with h0 | ⟨g2, o2, rfl, b1, b2, b3, b4⟩
  · omega
  have hat := b4 i hi
  unfold okV
  generalize hv : vs.getD i Vl.zero = v at hat
  by_cases hb : 0 ≤ v.op ∧ v.op ≤ 13 ∧ 1 ≤ v.len ∧ v.len ≤ 1000
  · rw [lenB_true hb.2.2.1 hb.2.2.2, Bool.true_and]
    by_cases h0 : v.op = 0
    · rw [if_pos h0, f.i.len]
      obtain ⟨op, len, A, B, C, K⟩ := v
      simp only at h0 hb
      subst h0
      have e : (spareB ⟨0, len, A, B, C, K⟩ && (idxB A n1 && len == ins.getD A.toNat 0)) = (((idxB A n1 && len == ins.getD A.toNat 0) && B == 0) && C == 0) := by
        have t : spareB ⟨0, len, A, B, C, K⟩ = (B == 0 && C == 0) := by
          simp [spareB, cnt, placeB, bne]
        rw [t]
        cases idxB A n1 <;> cases (len == ins.getD A.toNat 0) <;> cases (B == 0) <;> cases (C == 0) <;> rfl
      show Calls _ _ _ _ fun e w' => e = .returned (.bool (spareB ⟨0, len, A, B, C, K⟩ && (idxB A n1 && len == ins.getD A.toNat 0))) ∧ _
      rw [e]
      exact valOK_input w a1 a3 n1 c1 n2 c2 n3 c3 g2 o2 i len A B C K ins f.i b3 hi hat hb.2.2.1 hb.2.2.2
    · rw [if_neg h0]
      have e : (spareB v && ((opsOf v).all (idxB · i) && shapeB v.op v.len v.c ((opsOf v).map fun o => (vs.getD o.toNat Vl.zero).len))) = ((List.range 3).all (okF v i) && fitB v.op v.len v.c (lenN vs v 0) (lenN vs v 1) (lenN vs v 2)) := by
        rw [okF_all h0, ← Bool.and_assoc]
        cases hA : (opsOf v).all (idxB · i)
        · simp
        · unfold fitB
          rw [lens_eq hlens hA, lenB_true hb.2.2.1 hb.2.2.2, Bool.true_and]
      rw [e]
      exact valOK_ops w a1 a3 n1 c1 n2 c2 n3 c3 g2 o2 i v vs b3 hi b4 hlens hv (by omega) hb.2.1 hb.2.2.1 hb.2.2.2
  · have e : ((lenB v.len && spareB v) && (if v.op = 0 then idxB v.a ins.length && v.len == ins.getD v.a.toNat 0 else (opsOf v).all (idxB · i) && shapeB v.op v.len v.c ((opsOf v).map fun o => (vs.getD o.toNat Vl.zero).len))) = false := by
      by_cases hl : 1 ≤ v.len ∧ v.len ≤ 1000
      · have ho : ¬ (0 ≤ v.op ∧ v.op ≤ 13) := by omega
        rw [if_neg (by omega), shape_out ho, Bool.and_false, Bool.and_false]
      · rw [lenB_false hl, Bool.false_and, Bool.false_and]
    rw [e]
    exact valOK_bad w a1 a3 n1 c1 n2 c2 n3 c3 g2 o2 i v b3 hi hat hb

theorem all_lens {ins : List Int} {vs : List Vl} {k : Nat} (h : (List.range k).all (okV ins vs) = true) : ∀ j, j < k → 1 ≤ (vs.getD j Vl.zero).len ∧ (vs.getD j Vl.zero).len ≤ 1000 := fun j hj =>
  okV_len (List.all_eq_true.1 h j (List.mem_range.2 hj))

set_option maxRecDepth 100000 in
set_option maxHeartbeats 8000000 in
theorem specValid_in (w : World) (a1 a2 a3 : Option Addr) (n1 c1 n2 c2 n3 c3 : Nat) (ins : List Int) (vs : List Vl) (outs : List Int) (f : GS w a1 n1 a2 n2 a3 n3 ins vs outs) (h2 : n2 ≤ 2000) (h3 : n3 ≤ 50) (hI : (decide (n1 ≤ 20) && ins.all lenB) = true) :
    Calls Try.prog 36 #[gagg a1 n1 c1 a2 n2 c2 a3 n3 c3] w fun e w' => e = .returned (.bool ((List.range n2).all (okV ins vs) && (outs.all (idxB · n2) && decide (cellsV vs ≤ 50000)))) ∧ Kept 0 0 w w' := by
  have hK : Hid _ := kept_alloc 0 0 w (gbox a1 n1 c1 a2 n2 c2 a3 n3 c3)
  have hB := g0_start w (.slice a1 n1 c1) (.slice a2 n2 c2) (.slice a3 n3 c3)
  have HF : Hid _ := f.keep hK.out
  have HL2 : Hid (vs.length = n2) := f.v.len
  have HL3 : Hid (outs.length = n3) := f.o.len
  have HIN : Hid _ := l1insOK _ _ _ _ _ c1 _ (f.keep hK.out).i
  rw [hI] at HIN
  clear f hI
  go_enter Try.func36, Try.ntmps36
  go_wp2_with fail
  refine Calls.mono HIN.out ?_
  rintro e w1 ⟨rfl, k1⟩
  replace hB := hB.keep k1
  have HF1 : Hid _ := HF.out.keep k1
  have HK1 : Hid _ := hK.out.trans k1
  clear k1 HF hK HIN
  have q1 := hB.q1
  have q2 := hB.q2
  go_wp2_with fail
  clear q1 q2
  have HB : Hid _ := hB
  clear hB
  go_loopw [3] (fun i W => ∃ k : Nat, k ≤ n2 ∧ i = .int .i64 k ∧ Hid ((List.range k).all (okV ins vs) = true) ∧ Kept 0 0 w1 W) (fun i _ => n2 - (intOf i).toNat)
  case atStart => exact ⟨0, Nat.zero_le _, rfl, rfl, Kept.refl _ _ _⟩
  case round =>
    obtain ⟨k, hk, rfl, hA, hKW⟩ := hrel
    obtain ⟨_, q0, q1, q2⟩ := HB.out.keep hKW
    by_cases hlt : k < n2
    · have HX : Hid _ := valOK wr a1 a2 a3 n1 c1 n2 c2 n3 c3 k ins vs outs (HF1.out.keep hKW) hlt (all_lens hA.out)
      cases hx : okV ins vs k
      · rw [hx] at HX
        have R : Hid ((List.range n2).all (okV ins vs) = false) := range_bad hlt hx
        have R2 : Hid _ := HK1.out.trans hKW
        clear hx hA hKW
        go_wp2_with fail
        refine Calls.mono HX.out ?_
        rintro e w2 ⟨rfl, hk2⟩
        clear q0 q1 q2
        go_wp2
        go_ret
        exact ⟨by rw [R.out]; rfl, R2.out.trans hk2⟩
      · rw [hx] at HX
        have R : Hid _ := range_snoc hA.out hx
        have HKW : Hid _ := hKW
        clear hx hA hKW
        go_wp2_with fail
        refine Calls.mono HX.out ?_
        rintro e w2 ⟨rfl, hk2⟩
        have R2 : Hid _ := HKW.out.trans hk2
        clear q0 q1 q2 hk2
        go_wp2
        go_roundw
        case rel => exact ⟨k + 1, by omega, by go_num, R, R2.out⟩
        case measure => simp [intOf]; omega
    · have R1 : Hid ((List.range n2).all (okV ins vs) = true) := by
        have := hA.out
        rw [show k = n2 by omega] at this
        exact this
      have HF2 : Hid _ := HF1.out.keep hKW
      have HK2 : Hid _ := HK1.out.trans hKW
      have HC : Hid (∀ W, Drawn wr W → _) := fun W hd => l1cells W a1 a2 a3 n1 c1 n2 c2 n3 c3 ins vs outs (HF2.out.keep (hd.kept 0 0)) h2 (all_lens R1.out)
      have HQ : Hid (∀ W, Drawn wr W → W.cell? ⟨w.heap.size, 0, none⟩ = some (.slice a1 n1 c1) ∧ W.cell? ⟨w.heap.size, 1, none⟩ = some (.slice a2 n2 c2) ∧ W.cell? ⟨w.heap.size, 2, none⟩ = some (.slice a3 n3 c3)) := fun W hd => ⟨by rw [hd.cell]; exact q0, by rw [hd.cell]; exact q1, by rw [hd.cell]; exact q2⟩
      clear hA hKW
      go_wp2_with fail
      clear q0 q1 q2
      go_loopw [4] (fun i W => ∃ k : Nat, k ≤ n3 ∧ i = .int .i64 k ∧ Hid ((outs.take k).all (idxB · n2) = true) ∧ Drawn wr W) (fun i _ => n3 - (intOf i).toNat)
      case atStart => exact ⟨0, Nat.zero_le _, rfl, rfl, Drawn.refl _⟩
      case round =>
        obtain ⟨k3, hk3, rfl, hA, hD⟩ := hrel
        obtain ⟨q0, q1, q2⟩ := HQ.out _ hD
        have HD : Hid _ := hD
        by_cases hlt3 : k3 < n3
        · rcases HF2.out.o.at_ with z0 | ⟨ga, oa, ea, z1, z2, z3, z4⟩
          · omega
          have c := (hD.cell _).trans (z4 k3 hlt3)
          have j0 : (0 : Int) ≤ (k3 : Int) := by omega
          have j1 : (k3 : Int) < (n3 : Int) := by omega
          subst ea
          clear z1 z2 z3 z4 hD
          cases hx : idxB (outs.getD k3 0) n2
          · have R : Hid (outs.all (idxB · n2) = false) := allI_bad (by rw [HL3.out]; exact hlt3) hx
            have hx' : ¬ (0 ≤ outs.getD k3 0 ∧ outs.getD k3 0 < n2) := of_decide_eq_false hx
            generalize outs.getD k3 0 = y at c hx'
            clear hx hA
            rcases (by omega : y < 0 ∨ (0 ≤ y ∧ (n2 : Int) ≤ y)) with hy | ⟨hy, hy'⟩
            · have t1 : decide (y < 0) = true := decide_eq_true hy
              clear hx'
              go_wp2_with fail
              go_quiet (fail)
              go_wp2
              go_ret
              exact ⟨by rw [R1.out, R.out]; rfl, (HK2.out.trans (Drawn.kept HD.out 0 0)).trans (kept_drewN 0 0 _ _)⟩
            · have t1 : decide (y < 0) = false := decide_eq_false (by omega)
              have t2 : decide ((n2 : Int) ≤ y) = true := decide_eq_true hy'
              clear hx'
              go_wp2_with fail
              go_quiet (fail)
              go_wp2
              go_ret
              exact ⟨by rw [R1.out, R.out]; rfl, (HK2.out.trans (Drawn.kept HD.out 0 0)).trans (kept_drewN 0 0 _ _)⟩
          · have R : Hid _ := allI_snoc (p := (idxB · n2)) (by rw [HL3.out]; exact hlt3) hA.out hx
            have hx' : 0 ≤ outs.getD k3 0 ∧ outs.getD k3 0 < n2 := of_decide_eq_true hx
            generalize outs.getD k3 0 = y at c hx'
            obtain ⟨hy, hy'⟩ := hx'
            have t1 : decide (y < 0) = false := decide_eq_false (by omega)
            have t2 : decide ((n2 : Int) ≤ y) = false := decide_eq_false (by omega)
            clear hx hA
            go_wp2_with fail
            go_quiet (fail)
            go_wp2
            go_roundw
            case rel => exact ⟨k3 + 1, by omega, by go_num, R, Drawn.more HD.out _⟩
            case measure => simp [intOf]; omega
        · have R4 : Hid (outs.all (idxB · n2) = true) := by
            have := hA.out
            rw [List.take_of_length_le (by rw [HL3.out]; omega)] at this
            exact this
          have HC2 : Hid _ := HC.out _ hD
          clear hA hD
          go_wp2_with fail
          refine Calls.mono HC2.out ?_
          rintro e w9 ⟨rfl, hk9⟩
          clear q0 q1 q2
          go_wp2
          go_ret
          exact ⟨by rw [R1.out, R4.out]; rfl, (HK2.out.trans (Drawn.kept HD.out 0 0)).trans hk9⟩

set_option maxRecDepth 100000 in
set_option maxHeartbeats 2000000 in
theorem specValid_great (w : World) (a1 a2 a3 : Option Addr) (n1 c1 n2 c2 n3 c3 : Nat) (ins : List Int) (vs : List Vl) (outs : List Int) (f : GS w a1 n1 a2 n2 a3 n3 ins vs outs) (h : ¬ (((decide (n1 ≤ 20) && ins.all lenB) = true) ∧ n2 ≤ 2000 ∧ n3 ≤ 50)) :
    Calls Try.prog 36 #[gagg a1 n1 c1 a2 n2 c2 a3 n3 c3] w fun e w' => e = .returned (.bool false) ∧ Kept 0 0 w w' := by
  have hK : Hid _ := kept_alloc 0 0 w (gbox a1 n1 c1 a2 n2 c2 a3 n3 c3)
  have hB := g0_start w (.slice a1 n1 c1) (.slice a2 n2 c2) (.slice a3 n3 c3)
  have HIN : Hid _ := l1insOK _ _ _ _ _ c1 _ (f.keep hK.out).i
  clear f
  cases hI : (decide (n1 ≤ 20) && ins.all lenB)
  · rw [hI] at HIN
    clear h hI
    go_enter Try.func36, Try.ntmps36
    go_wp2_with fail
    refine Calls.mono HIN.out ?_
    rintro e w1 ⟨rfl, k1⟩
    obtain ⟨_, q0, q1, q2⟩ := hB.keep k1
    clear hB
    go_wp2
    go_ret
    exact ⟨rfl, hK.out.trans k1⟩
  · rw [hI] at HIN
    by_cases h2 : n2 ≤ 2000
    · have h3 : 50 < n3 := by
        rcases Nat.lt_or_ge 50 n3 with c | c
        · exact c
        · exact absurd ⟨hI, h2, c⟩ h
      clear h hI
      go_enter Try.func36, Try.ntmps36
      go_wp2_with fail
      refine Calls.mono HIN.out ?_
      rintro e w1 ⟨rfl, k1⟩
      obtain ⟨_, q0, q1, q2⟩ := hB.keep k1
      clear hB
      go_wp2
      go_ret
      exact ⟨rfl, hK.out.trans k1⟩
    · have h3 : 2000 < n2 := by omega
      clear h hI h2
      go_enter Try.func36, Try.ntmps36
      go_wp2_with fail
      refine Calls.mono HIN.out ?_
      rintro e w1 ⟨rfl, k1⟩
      obtain ⟨_, q0, q1, q2⟩ := hB.keep k1
      clear hB
      go_wp2
      all_goals
        go_ret
        exact ⟨rfl, hK.out.trans k1⟩

theorem specValid (w : World) (a1 a2 a3 : Option Addr) (n1 c1 n2 c2 n3 c3 : Nat) (ins : List Int) (vs : List Vl) (outs : List Int) (f : GS w a1 n1 a2 n2 a3 n3 ins vs outs) :
    Calls Try.prog 36 #[gagg a1 n1 c1 a2 n2 c2 a3 n3 c3] w fun e w' => e = .returned (.bool (okG ins vs outs)) ∧ Kept 0 0 w w' := by
  unfold okG
  rw [f.i.len, f.v.len, f.o.len]
  by_cases h : ((decide (n1 ≤ 20) && ins.all lenB) = true) ∧ n2 ≤ 2000 ∧ n3 ≤ 50
  · have h' := h.1
    rw [Bool.and_eq_true] at h'
    rw [decide_eq_true (show n1 ≤ 20 ∧ n2 ≤ 2000 ∧ n3 ≤ 50 from ⟨of_decide_eq_true h'.1, h.2⟩), h'.2, Bool.true_and, Bool.true_and]
    exact specValid_in w a1 a2 a3 n1 c1 n2 c2 n3 c3 ins vs outs f h.2.1 h.2.2 h.1
  · have e : (decide (n1 ≤ 20 ∧ n2 ≤ 2000 ∧ n3 ≤ 50) && (ins.all lenB && ((List.range n2).all (okV ins vs) && (outs.all (idxB · n2) && decide (cellsV vs ≤ 50000))))) = false := by
      rw [Bool.and_eq_false_iff]
      by_cases hn : n1 ≤ 20 ∧ n2 ≤ 2000 ∧ n3 ≤ 50
      · right
        rw [Bool.and_eq_false_iff]
        left
        rw [Bool.eq_false_iff]
        intro c
        exact h ⟨by rw [Bool.and_eq_true]; exact ⟨decide_eq_true hn.1, c⟩, hn.2⟩
      · left; exact decide_eq_false hn
    rw [e]
    exact specValid_great w a1 a2 a3 n1 c1 n2 c2 n3 c3 ins vs outs f h
end Go.Proofs.Ytcphabjekfihnaa
