import Derived.Test.YtiiimofkkahobaaDoorP08
import Derived.Test.YtiiimofkkahobaaDoorP02
import Derived.Deep.Slices
namespace Go.Proofs.YtiiimofkkahobaaDoor
open Go.RowKit Flt
attribute [local go_sem] alloc_drewN setCell_drewN run_store_float

theorem okF_all {v : Vl} {i : Nat} (h0 : v.op ≠ 0) : (List.range 3).all (okF v i) = (spareB v && (opsOf v).all (idxB · i)) := by
  have hc := cnt_le v.op
  have t : (v.op == 0) = false := beq_eq_false_iff_ne.2 h0
  have e3 : (List.range 3).all (okF v i) = (okF v i 0 && (okF v i 1 && (okF v i 2 && true))) := rfl
  rw [e3]
  unfold okF spareB opsOf bne
  rw [t]
  have f0 : fld v 0 = v.a := rfl
  have f1 : fld v 1 = v.b := rfl
  have f2 : fld v 2 = v.c := rfl
  rw [f0, f1, f2]
  rcases (by omega : cnt v.op = 0 ∨ cnt v.op = 1 ∨ cnt v.op = 2 ∨ cnt v.op = 3) with h | h | h | h
  all_goals
    rw [h]
    simp only [List.take_succ_cons, List.take_zero, List.all_cons, List.all_nil]
    generalize (v.a == 0) = x
    generalize (v.b == 0) = y
    generalize (v.c == 0) = z
    generalize placeB v.op = p
    generalize idxB v.a i = r
    generalize idxB v.b i = s
    generalize idxB v.c i = t
    revert x y z p r s t
    decide
theorem lens_eq {vs : List Vl} {v : Vl} {i : Nat} (hl : ∀ k, k < i → 1 ≤ (vs.getD k Vl.zero).len ∧ (vs.getD k Vl.zero).len ≤ 1000) (h : (opsOf v).all (idxB · i) = true) :
    ([(lenN vs v 0 : Int), (lenN vs v 1 : Int), (lenN vs v 2 : Int)]).take (cnt v.op) = (opsOf v).map fun o => (vs.getD o.toNat Vl.zero).len := by
  have key : ∀ o, idxB o i = true → ((vs.getD o.toNat Vl.zero).len.toNat : Int) = (vs.getD o.toNat Vl.zero).len := fun o ho => by
    have := of_decide_eq_true ho
    have := hl o.toNat (by omega)
    omega
  have hc := cnt_le v.op
  have n0 : 0 < cnt v.op → lenN vs v 0 = (vs.getD v.a.toNat Vl.zero).len.toNat := fun c => if_pos c
  have n1 : 1 < cnt v.op → lenN vs v 1 = (vs.getD v.b.toNat Vl.zero).len.toNat := fun c => if_pos c
  have n2 : 2 < cnt v.op → lenN vs v 2 = (vs.getD v.c.toNat Vl.zero).len.toNat := fun c => if_pos c
  unfold opsOf at h ⊢
  rcases (by omega : cnt v.op = 0 ∨ cnt v.op = 1 ∨ cnt v.op = 2 ∨ cnt v.op = 3) with e | e | e | e
  · rw [e]; rfl
  · rw [n0 (by omega)]
    rw [e] at h ⊢
    simp only [List.take_succ_cons, List.take_zero, List.all_cons, List.all_nil, Bool.and_true] at h
    simp only [List.take_succ_cons, List.take_zero, List.map_cons, List.map_nil]
    rw [key _ h]
  · rw [n0 (by omega), n1 (by omega)]
    rw [e] at h ⊢
    simp only [List.take_succ_cons, List.take_zero, List.all_cons, List.all_nil, Bool.and_true, Bool.and_eq_true] at h
    simp only [List.take_succ_cons, List.take_zero, List.map_cons, List.map_nil]
    rw [key _ h.1, key _ h.2]
  · rw [n0 (by omega), n1 (by omega), n2 (by omega)]
    rw [e] at h ⊢
    simp only [List.take_succ_cons, List.take_zero, List.all_cons, List.all_nil, Bool.and_true, Bool.and_eq_true] at h
    simp only [List.take_succ_cons, List.take_zero, List.map_cons, List.map_nil]
    rw [key _ h.1, key _ h.2.1, key _ h.2.2]
theorem cnt_out {op : Int} (h : ¬ (0 ≤ op ∧ op ≤ 13)) : cnt op = 0 := by
  unfold cnt
  rw [if_neg (by omega), if_neg (by omega), if_neg (by omega)]
theorem shape_out {op len C : Int} {xs : List Int} (h : ¬ (0 ≤ op ∧ op ≤ 13)) : shapeB op len C xs = false := by
  unfold shapeB
  rw [if_neg (by omega), if_neg (by omega), if_neg (by omega), if_neg (by omega), if_neg (by omega)]

theorem valOK (w : World) (a1 a2 a3 : Option Addr) (n1 c1 n2 c2 n3 c3 i : Nat) (ins : List Int) (vs : List Vl) (outs : List Int) (f : GS w a1 n1 a2 n2 a3 n3 ins vs outs) (hi : i < n2)
    (hlens : ∀ k, k < i → 1 ≤ (vs.getD k Vl.zero).len ∧ (vs.getD k Vl.zero).len ≤ 1000) :
    Calls Tryd.prog 35 #[gagg a1 n1 c1 a2 n2 c2 a3 n3 c3, .int .i64 (i : Int)] w fun e w' => e = .returned (.bool (okV ins vs i)) ∧ Kept 0 0 w w' := by
  rcases f.v.at_ with h0 | ⟨g2, o2, rfl, b1, b2, b3, b4⟩
  · omega
  have hat := b4 i hi
  unfold okV
  generalize hv : vs.getD i Vl.zero = v at hat
  by_cases hb : 0 ≤ v.op ∧ v.op ≤ 13 ∧ 1 ≤ v.len ∧ v.len ≤ 1000
  · rw [lenB_true hb.2.2.1 hb.2.2.2, Bool.true_and]
    by_cases h0 : v.op = 0
    · rw [if_pos h0, f.i.len]
      obtain ⟨op, len, A, B, C, K⟩ := v
      simp only at h0 hb
      subst h0
      have e : (spareB ⟨0, len, A, B, C, K⟩ && (idxB A n1 && len == ins.getD A.toNat 0)) = (((idxB A n1 && len == ins.getD A.toNat 0) && B == 0) && C == 0) := by
        have t : spareB ⟨0, len, A, B, C, K⟩ = (B == 0 && C == 0) := by
          simp [spareB, cnt, placeB, bne]
        rw [t]
        cases idxB A n1 <;> cases (len == ins.getD A.toNat 0) <;> cases (B == 0) <;> cases (C == 0) <;> rfl
      show Calls _ _ _ _ fun e w' => e = .returned (.bool (spareB ⟨0, len, A, B, C, K⟩ && (idxB A n1 && len == ins.getD A.toNat 0))) ∧ _
      rw [e]
      exact valOK_input w a1 a3 n1 c1 n2 c2 n3 c3 g2 o2 i len A B C K ins f.i b3 hi hat hb.2.2.1 hb.2.2.2
    · rw [if_neg h0]
      have e : (spareB v && ((opsOf v).all (idxB · i) && shapeB v.op v.len v.c ((opsOf v).map fun o => (vs.getD o.toNat Vl.zero).len))) = ((List.range 3).all (okF v i) && fitB v.op v.len v.c (lenN vs v 0) (lenN vs v 1) (lenN vs v 2)) := by
        rw [okF_all h0, ← Bool.and_assoc]
        cases hA : (opsOf v).all (idxB · i)
        · simp
        · unfold fitB
          rw [lens_eq hlens hA, lenB_true hb.2.2.1 hb.2.2.2, Bool.true_and]
      rw [e]
      exact valOK_ops w a1 a3 n1 c1 n2 c2 n3 c3 g2 o2 i v vs b3 hi b4 hlens hv (by omega) hb.2.1 hb.2.2.1 hb.2.2.2
  · have e : ((lenB v.len && spareB v) && (if v.op = 0 then idxB v.a ins.length && v.len == ins.getD v.a.toNat 0 else (opsOf v).all (idxB · i) && shapeB v.op v.len v.c ((opsOf v).map fun o => (vs.getD o.toNat Vl.zero).len))) = false := by
      by_cases hl : 1 ≤ v.len ∧ v.len ≤ 1000
      · have ho : ¬ (0 ≤ v.op ∧ v.op ≤ 13) := by omega
        rw [if_neg (by omega), shape_out ho, Bool.and_false, Bool.and_false]
      · rw [lenB_false hl, Bool.false_and, Bool.false_and]
    rw [e]
    exact valOK_bad w a1 a3 n1 c1 n2 c2 n3 c3 g2 o2 i v b3 hi hat hb

theorem all_lens {ins : List Int} {vs : List Vl} {k : Nat} (h : (List.range k).all (okV ins vs) = true) : ∀ j, j < k → 1 ≤ (vs.getD j Vl.zero).len ∧ (vs.getD j Vl.zero).len ≤ 1000 := fun j hj =>
  okV_len (List.all_eq_true.1 h j (List.mem_range.2 hj))

set_option maxRecDepth 100000 in
set_option maxHeartbeats 8000000 in
theorem specValid_in (w : World) (a1 a2 a3 : Option Addr) (n1 c1 n2 c2 n3 c3 : Nat) (ins : List Int) (vs : List Vl) (outs : List Int) (f : GS w a1 n1 a2 n2 a3 n3 ins vs outs) (h2 : n2 ≤ 2000) (h3 : n3 ≤ 50) (hI : (decide (n1 ≤ 20) && ins.all lenB) = true) :
    Calls Tryd.prog 15 #[gagg a1 n1 c1 a2 n2 c2 a3 n3 c3] w fun e w' => e = .returned (.bool ((List.range n2).all (okV ins vs) && (outs.all (idxB · n2) && decide (cellsV vs ≤ 50000)))) ∧ Kept 0 0 w w' := by
  have hK : Hid _ := kept_alloc 0 0 w (gbox a1 n1 c1 a2 n2 c2 a3 n3 c3)
  have hB := g0_start w (.slice a1 n1 c1) (.slice a2 n2 c2) (.slice a3 n3 c3)
  have HF : Hid _ := f.keep hK.out
  have HL2 : Hid (vs.length = n2) := f.v.len
  have HL3 : Hid (outs.length = n3) := f.o.len
  have HIN : Hid _ := l1insOK _ _ _ _ _ c1 _ (f.keep hK.out).i
  rw [hI] at HIN
  clear f hI
  go_enter Tryd.func15, Tryd.ntmps15
  go_wp2_with fail
  refine Calls.mono HIN.out ?_
  rintro e w1 ⟨rfl, k1⟩
  replace hB := hB.keep k1
  have HF1 : Hid _ := HF.out.keep k1
  have HK1 : Hid _ := hK.out.trans k1
  clear k1 HF hK HIN
  have q1 := hB.q1
  have q2 := hB.q2
  go_wp2_with fail
  clear q1 q2
  have HB : Hid _ := hB
  clear hB
  go_loopw [3] (fun i W => ∃ k : Nat, k ≤ n2 ∧ i = .int .i64 k ∧ Hid ((List.range k).all (okV ins vs) = true) ∧ Kept 0 0 w1 W) (fun i _ => n2 - (intOf i).toNat)
  case atStart => exact ⟨0, Nat.zero_le _, rfl, rfl, Kept.refl _ _ _⟩
  case round =>
    obtain ⟨k, hk, rfl, hA, hKW⟩ := hrel
    obtain ⟨_, q0, q1, q2⟩ := HB.out.keep hKW
    by_cases hlt : k < n2
    · have HX : Hid _ := valOK wr a1 a2 a3 n1 c1 n2 c2 n3 c3 k ins vs outs (HF1.out.keep hKW) hlt (all_lens hA.out)
      cases hx : okV ins vs k
      · rw [hx] at HX
        have R : Hid ((List.range n2).all (okV ins vs) = false) := range_bad hlt hx
        have R2 : Hid _ := HK1.out.trans hKW
        clear hx hA hKW
        go_wp2_with fail
        refine Calls.mono HX.out ?_
        rintro e w2 ⟨rfl, hk2⟩
        clear q0 q1 q2
        go_wp2
        go_ret
        exact ⟨by rw [R.out]; rfl, R2.out.trans hk2⟩
      · rw [hx] at HX
        have R : Hid _ := range_snoc hA.out hx
        have HKW : Hid _ := hKW
        clear hx hA hKW
        go_wp2_with fail
        refine Calls.mono HX.out ?_
        rintro e w2 ⟨rfl, hk2⟩
        have R2 : Hid _ := HKW.out.trans hk2
        clear q0 q1 q2 hk2
        go_wp2
        go_roundw
        case rel => exact ⟨k + 1, by omega, by go_num, R, R2.out⟩
        case measure => simp [intOf]; omega
    · have R1 : Hid ((List.range n2).all (okV ins vs) = true) := by
        have := hA.out
        rw [show k = n2 by omega] at this
        exact this
      have HF2 : Hid _ := HF1.out.keep hKW
      have HK2 : Hid _ := HK1.out.trans hKW
      have HC : Hid (∀ W, Drawn wr W → _) := fun W hd => l1cells W a1 a2 a3 n1 c1 n2 c2 n3 c3 ins vs outs (HF2.out.keep (hd.kept 0 0)) h2 (all_lens R1.out)
      have HQ : Hid (∀ W, Drawn wr W → W.cell? ⟨w.heap.size, 0, none⟩ = some (.slice a1 n1 c1) ∧ W.cell? ⟨w.heap.size, 1, none⟩ = some (.slice a2 n2 c2) ∧ W.cell? ⟨w.heap.size, 2, none⟩ = some (.slice a3 n3 c3)) := fun W hd => ⟨by rw [hd.cell]; exact q0, by rw [hd.cell]; exact q1, by rw [hd.cell]; exact q2⟩
      clear hA hKW
      go_wp2_with fail
      clear q0 q1 q2
      go_loopw [4] (fun i W => ∃ k : Nat, k ≤ n3 ∧ i = .int .i64 k ∧ Hid ((outs.take k).all (idxB · n2) = true) ∧ Drawn wr W) (fun i _ => n3 - (intOf i).toNat)
      case atStart => exact ⟨0, Nat.zero_le _, rfl, rfl, Drawn.refl _⟩
      case round =>
        obtain ⟨k3, hk3, rfl, hA, hD⟩ := hrel
        obtain ⟨q0, q1, q2⟩ := HQ.out _ hD
        have HD : Hid _ := hD
        by_cases hlt3 : k3 < n3
        · rcases HF2.out.o.at_ with z0 | ⟨ga, oa, ea, z1, z2, z3, z4⟩
          · omega
          have c := (hD.cell _).trans (z4 k3 hlt3)
          have j0 : (0 : Int) ≤ (k3 : Int) := by omega
          have j1 : (k3 : Int) < (n3 : Int) := by omega
          subst ea
          clear z1 z2 z3 z4 hD
          cases hx : idxB (outs.getD k3 0) n2
          · have R : Hid (outs.all (idxB · n2) = false) := allI_bad (by rw [HL3.out]; exact hlt3) hx
            have hx' : ¬ (0 ≤ outs.getD k3 0 ∧ outs.getD k3 0 < n2) := of_decide_eq_false hx
            generalize outs.getD k3 0 = y at c hx'
            clear hx hA
            rcases (by omega : y < 0 ∨ (0 ≤ y ∧ (n2 : Int) ≤ y)) with hy | ⟨hy, hy'⟩
            · have t1 : decide (y < 0) = true := decide_eq_true hy
              clear hx'
              go_wp2_with fail
              go_quiet (fail)
              go_wp2
              go_ret
              exact ⟨by rw [R1.out, R.out]; rfl, (HK2.out.trans (Drawn.kept HD.out 0 0)).trans (kept_drewN 0 0 _ _)⟩
            · have t1 : decide (y < 0) = false := decide_eq_false (by omega)
              have t2 : decide ((n2 : Int) ≤ y) = true := decide_eq_true hy'
              clear hx'
              go_wp2_with fail
              go_quiet (fail)
              go_wp2
              go_ret
              exact ⟨by rw [R1.out, R.out]; rfl, (HK2.out.trans (Drawn.kept HD.out 0 0)).trans (kept_drewN 0 0 _ _)⟩
          · have R : Hid _ := allI_snoc (p := (idxB · n2)) (by rw [HL3.out]; exact hlt3) hA.out hx
            have hx' : 0 ≤ outs.getD k3 0 ∧ outs.getD k3 0 < n2 := of_decide_eq_true hx
            generalize outs.getD k3 0 = y at c hx'
            obtain ⟨hy, hy'⟩ := hx'
            have t1 : decide (y < 0) = false := decide_eq_false (by omega)
            have t2 : decide ((n2 : Int) ≤ y) = false := decide_eq_false (by omega)
            clear hx hA
            go_wp2_with fail
            go_quiet (fail)
            go_wp2
            go_roundw
            case rel => exact ⟨k3 + 1, by omega, by go_num, R, Drawn.more HD.out _⟩
            case measure => simp [intOf]; omega
        · have R4 : Hid (outs.all (idxB · n2) = true) := by
            have := hA.out
            rw [List.take_of_length_le (by rw [HL3.out]; omega)] at this
            exact this
          have HC2 : Hid _ := HC.out _ hD
          clear hA hD
          go_wp2_with fail
          refine Calls.mono HC2.out ?_
          rintro e w9 ⟨rfl, hk9⟩
          clear q0 q1 q2
          go_wp2
          go_ret
          exact ⟨by rw [R1.out, R4.out]; rfl, (HK2.out.trans (Drawn.kept HD.out 0 0)).trans hk9⟩

set_option maxRecDepth 100000 in
set_option maxHeartbeats 2000000 in
theorem specValid_great (w : World) (a1 a2 a3 : Option Addr) (n1 c1 n2 c2 n3 c3 : Nat) (ins : List Int) (vs : List Vl) (outs : List Int) (f : GS w a1 n1 a2 n2 a3 n3 ins vs outs) (h : ¬ (((decide (n1 ≤ 20) && ins.all lenB) = true) ∧ n2 ≤ 2000 ∧ n3 ≤ 50)) :
    Calls Tryd.prog 15 #[gagg a1 n1 c1 a2 n2 c2 a3 n3 c3] w fun e w' => e = .returned (.bool false) ∧ Kept 0 0 w w' := by
  have hK : Hid _ := kept_alloc 0 0 w (gbox a1 n1 c1 a2 n2 c2 a3 n3 c3)
  have hB := g0_start w (.slice a1 n1 c1) (.slice a2 n2 c2) (.slice a3 n3 c3)
  have HIN : Hid _ := l1insOK _ _ _ _ _ c1 _ (f.keep hK.out).i
  clear f
  cases hI : (decide (n1 ≤ 20) && ins.all lenB)
  · rw [hI] at HIN
    clear h hI
    go_enter Tryd.func15, Tryd.ntmps15
    go_wp2_with fail
    refine Calls.mono HIN.out ?_
    rintro e w1 ⟨rfl, k1⟩
    obtain ⟨_, q0, q1, q2⟩ := hB.keep k1
    clear hB
    go_wp2
    go_ret
    exact ⟨rfl, hK.out.trans k1⟩
  · rw [hI] at HIN
    by_cases h2 : n2 ≤ 2000
    · have h3 : 50 < n3 := by
        rcases Nat.lt_or_ge 50 n3 with c | c
        · exact c
        · exact absurd ⟨hI, h2, c⟩ h
      clear h hI
      go_enter Tryd.func15, Tryd.ntmps15
      go_wp2_with fail
      refine Calls.mono HIN.out ?_
      rintro e w1 ⟨rfl, k1⟩
      obtain ⟨_, q0, q1, q2⟩ := hB.keep k1
      clear hB
      go_wp2
      go_ret
      exact ⟨rfl, hK.out.trans k1⟩
    · have h3 : 2000 < n2 := by omega
      clear h hI h2
      go_enter Tryd.func15, Tryd.ntmps15
      go_wp2_with fail
      refine Calls.mono HIN.out ?_
      rintro e w1 ⟨rfl, k1⟩
      obtain ⟨_, q0, q1, q2⟩ := hB.keep k1
      clear hB
      go_wp2
      all_goals
        go_ret
        exact ⟨rfl, hK.out.trans k1⟩

theorem specValid (w : World) (a1 a2 a3 : Option Addr) (n1 c1 n2 c2 n3 c3 : Nat) (ins : List Int) (vs : List Vl) (outs : List Int) (f : GS w a1 n1 a2 n2 a3 n3 ins vs outs) :
    Calls Tryd.prog 15 #[gagg a1 n1 c1 a2 n2 c2 a3 n3 c3] w fun e w' => e = .returned (.bool (okG ins vs outs)) ∧ Kept 0 0 w w' := by
  unfold okG
  rw [f.i.len, f.v.len, f.o.len]
  by_cases h : ((decide (n1 ≤ 20) && ins.all lenB) = true) ∧ n2 ≤ 2000 ∧ n3 ≤ 50
  · have h' := h.1
    rw [Bool.and_eq_true] at h'
    rw [decide_eq_true (show n1 ≤ 20 ∧ n2 ≤ 2000 ∧ n3 ≤ 50 from ⟨of_decide_eq_true h'.1, h.2⟩), h'.2, Bool.true_and, Bool.true_and]
    exact specValid_in w a1 a2 a3 n1 c1 n2 c2 n3 c3 ins vs outs f h.2.1 h.2.2 h.1
  · have e : (decide (n1 ≤ 20 ∧ n2 ≤ 2000 ∧ n3 ≤ 50) && (ins.all lenB && ((List.range n2).all (okV ins vs) && (outs.all (idxB · n2) && decide (cellsV vs ≤ 50000))))) = false := by
      rw [Bool.and_eq_false_iff]
      by_cases hn : n1 ≤ 20 ∧ n2 ≤ 2000 ∧ n3 ≤ 50
      · right
        rw [Bool.and_eq_false_iff]
        left
        rw [Bool.eq_false_iff]
        intro c
        exact h ⟨by rw [Bool.and_eq_true]; exact ⟨decide_eq_true hn.1, c⟩, hn.2⟩
      · left; exact decide_eq_false hn
    rw [e]
    exact specValid_great w a1 a2 a3 n1 c1 n2 c2 n3 c3 ins vs outs f h
end Go.Proofs.YtiiimofkkahobaaDoor

namespace Go.Proofs.YtiiimofkkahobaaDoor
open Go.RowKit Flt
attribute [local go_sem] alloc_drewN setCell_drewN run_store_float

theorem g0_startL (w : World) (b0 b1 b2 : Value) : G0 (w.alloc (.cells #[b0, b1, b2] 25)) w.heap.size b0 b1 b2 := by
  refine ⟨?_, ?_, ?_, ?_⟩
  all_goals first | (go_simp; done) | (simp; done)

end Go.Proofs.YtiiimofkkahobaaDoor

namespace Go.Proofs.YtiiimofkkahobaaDoor
open Go.ChangeShapes Go.WideShapes Go.ChangeAt Go.RowKit Flt

theorem trod_float {H : Type} {enc : TypeId × Value → H} {P : Program} {w : World} {base : Nat} {spare : Nat → Bool} {held : Bool} {t : TypeId} {fuel : Nat} {cs : List Value} {x : DataW H × List MemPlace} {k : FloatKind}
    (ht : P.underlying t = some (.float k)) (h : DataW.trod enc P w base spare held fuel t cs = some x) : ∃ b, cs = [.float k b] ∧ (Lit.float k b).wf = true := by
  cases fuel with
  | zero => simp [DataW.trod] at h
  | succ n =>
    unfold DataW.trod at h
    rw [ht] at h
    split at h <;> simp_all
theorem array6 {α : Type} {cs : Array α} (h : cs.size = 6) : ∃ c0 c1 c2 c3 c4 c5, cs = #[c0, c1, c2, c3, c4, c5] := by
  obtain ⟨l⟩ := cs
  match l, h with
  | [c0, c1, c2, c3, c4, c5], _ => exact ⟨c0, c1, c2, c3, c4, c5, rfl⟩
theorem cellsInt : Tryd.prog.cellsOf 3 = 1 := by kernel_rfl
theorem cellsFloat : Tryd.prog.cellsOf 42 = 1 := by kernel_rfl
theorem cellsLVal : Tryd.prog.cellsOf 66 = 6 := by kernel_rfl

set_option maxRecDepth 100000 in
/-- A value of a graph that came in, by value. -/
theorem open_val {H : Type} {enc : TypeId × Value → H} {w : World} {r : Reach} {b0 base : Nat} {spare : Nat → Bool} {held : Bool} {v : Value} {d : DataW H} {ps : List MemPlace}
    (hv : Value.okWide Tryd.prog w r b0 66 v) (h : DataW.Trod enc Tryd.prog w base spare held 66 v d ps) : ∃ (op len A B C : Int) (K : Nat), v = vagg op len A B C K ∧ K < 18446744073709551616 := by
  obtain ⟨cs, rfl, hsz⟩ := okWide_struct Tryd.underlying66 hv
  obtain ⟨c0, c1, c2, c3, c4, c5, rfl⟩ := array6 (hsz.trans cellsLVal)
  obtain ⟨fuel, hf⟩ := h
  obtain ⟨xs, n, _, _, _, hlen, hfs⟩ := DataW.trod_struct Tryd.underlying66 hf
  match xs, hlen with
  | [y0, y1, y2, y3, y4, y5], _ =>
    have h0 := hfs 0 _ rfl
    have h1 := hfs 1 _ rfl
    have h2 := hfs 2 _ rfl
    have h3 := hfs 3 _ rfl
    have h4 := hfs 4 _ rfl
    have h5 := hfs 5 _ rfl
    simp [Value.cells, cellsInt, cellsFloat] at h0 h1 h2 h3 h4 h5
    obtain ⟨a0, e0, _, _⟩ := DataW.trod_int Tryd.underlying3 h0
    obtain ⟨a1, e1, _, _⟩ := DataW.trod_int Tryd.underlying3 h1
    obtain ⟨a2, e2, _, _⟩ := DataW.trod_int Tryd.underlying3 h2
    obtain ⟨a3, e3, _, _⟩ := DataW.trod_int Tryd.underlying3 h3
    obtain ⟨a4, e4, _, _⟩ := DataW.trod_int Tryd.underlying3 h4
    obtain ⟨a5, e5, hw⟩ := trod_float Tryd.underlying42 h5
    simp at e0 e1 e2 e3 e4 e5
    subst e0 e1 e2 e3 e4 e5
    exact ⟨a0, a1, a2, a3, a4, a5, rfl, f64_lt hw⟩

theorem laidOut : laidOutB Tryd.prog = true := by kernel_rfl
end Go.Proofs.YtiiimofkkahobaaDoor

namespace Go.Proofs.YtiiimofkkahobaaDoor
open Go.ChangeShapes Go.WideShapes Go.ChangeAt Go.RowKit Flt

theorem cellsInts : Tryd.prog.cellsOf 22 = 1 := by kernel_rfl
theorem cellsLVals : Tryd.prog.cellsOf 23 = 1 := by kernel_rfl
theorem cellsLGraph : Tryd.prog.cellsOf 25 = 3 := by kernel_rfl
theorem array3 {α : Type} {cs : Array α} (h : cs.size = 3) : ∃ c0 c1 c2, cs = #[c0, c1, c2] := by
  obtain ⟨l⟩ := cs
  match l, h with
  | [c0, c1, c2], _ => exact ⟨c0, c1, c2, rfl⟩

set_option maxRecDepth 100000 in
/-- A slice of ints that came in. -/
theorem trod_ints {H : Type} {enc : TypeId × Value → H} {w : World} {base fuel : Nat} {spare : Nat → Bool} {held : Bool} {cs : List Value} {x : DataW H × List MemPlace}
    (hf : DataW.trod enc Tryd.prog w base spare held fuel 22 cs = some x) : ∃ a n cap, cs = [.slice a n cap] ∧ n ≤ 9223372036854775807 ∧ ∃ xs, IS w 0 w.heap.size a n xs := by
  rcases Deep.open_slice1 Tryd.underlying22 cellsInt hf with ⟨hcs, _⟩ | ⟨x, l, c, m, n', V, D, Pl, hcs, _, hl, hc, hm, _, hV⟩
  · exact ⟨_, _, _, hcs, by omega, [], rfl, .inl rfl⟩
  · refine ⟨_, _, _, hcs, by unfold maxLen at hc; omega, ?_⟩
    have hlm : l ≤ m := by rw [hm]; split <;> omega
    have key : ∀ i, i < l → ∃ b, w.cell? (x.add i) = some (.int .i64 b) := fun i hi => by
      obtain ⟨h1, h2⟩ := hV i (by omega)
      obtain ⟨b, e, _, _⟩ := DataW.trod_int Tryd.underlying3 h2
      simp at e
      exact ⟨b, by rw [h1, e]⟩
    obtain ⟨f, hf'⟩ := Deep.choose_lt (α := Int) (p := fun i b => w.cell? (x.add i) = some (.int .i64 b)) key
    refine ⟨(List.range l).map f, by simp, ?_⟩
    rcases Nat.eq_zero_or_pos l with h0 | h0
    · exact .inl h0
    · obtain ⟨b, off, spot⟩ := x
      have hspot : spot = none := by simpa [Addr.add] using World.cell?_spot (hf' 0 h0)
      subst hspot
      have h2 : ∀ k, k < l → w.cell? ⟨b, off + k, none⟩ = some (.int .i64 (((List.range l).map f).getD k 0)) := fun k hk => by
        have h1 := hf' k hk
        rw [show ((List.range l).map f).getD k 0 = f k by simp [List.getD_eq_getElem?_getD, hk]]
        by_cases hk0 : k = 0
        · subst hk0; simpa [Addr.add] using h1
        · simpa [Addr.add, hk0] using h1
      have hb := World.block_lt_of_cell? (h := h2 0 h0)
      exact .inr ⟨b, off, rfl, Nat.zero_le _, hb, hb, h2⟩

set_option maxRecDepth 100000 in
/-- A value of a graph among the cells. -/
theorem trod_val {H : Type} {enc : TypeId × Value → H} {w : World} {base fuel : Nat} {spare : Nat → Bool} {held : Bool} {cs : List Value} {x : DataW H × List MemPlace}
    (hl : cs.length = 6) (hf : DataW.trod enc Tryd.prog w base spare held fuel 66 cs = some x) : ∃ v : Vl, cs = v.cells ∧ v.k < 18446744073709551616 := by
  obtain ⟨xs, n, _, _, _, hlen, hfs⟩ := DataW.trod_struct Tryd.underlying66 hf
  match cs, hl with
  | [b0, b1, b2, b3, b4, b5], _ =>
  match xs, hlen with
  | [y0, y1, y2, y3, y4, y5], _ =>
    have h0 := hfs 0 _ rfl
    have h1 := hfs 1 _ rfl
    have h2 := hfs 2 _ rfl
    have h3 := hfs 3 _ rfl
    have h4 := hfs 4 _ rfl
    have h5 := hfs 5 _ rfl
    simp [cellsInt, cellsFloat] at h0 h1 h2 h3 h4 h5
    obtain ⟨a0, e0, _, _⟩ := DataW.trod_int Tryd.underlying3 h0
    obtain ⟨a1, e1, _, _⟩ := DataW.trod_int Tryd.underlying3 h1
    obtain ⟨a2, e2, _, _⟩ := DataW.trod_int Tryd.underlying3 h2
    obtain ⟨a3, e3, _, _⟩ := DataW.trod_int Tryd.underlying3 h3
    obtain ⟨a4, e4, _, _⟩ := DataW.trod_int Tryd.underlying3 h4
    obtain ⟨a5, e5, hw⟩ := trod_float Tryd.underlying42 h5
    simp at e0 e1 e2 e3 e4 e5
    subst e0 e1 e2 e3 e4 e5
    exact ⟨⟨a0, a1, a2, a3, a4, a5⟩, rfl, f64_lt hw⟩
instance : Inhabited Vl := ⟨Vl.zero⟩
set_option maxRecDepth 100000 in
/-- A slice of values that came in. -/
theorem trod_vals {H : Type} {enc : TypeId × Value → H} {w : World} {base fuel : Nat} {spare : Nat → Bool} {held : Bool} {cs : List Value} {x : DataW H × List MemPlace}
    (hf : DataW.trod enc Tryd.prog w base spare held fuel 23 cs = some x) : ∃ a n cap, cs = [.slice a n cap] ∧ n ≤ 9223372036854775807 ∧ ∃ vs, VS w 0 w.heap.size a n vs := by
  rcases Deep.open_slice Tryd.underlying23 hf with ⟨hcs, _⟩ | ⟨x, l, c, m, n', D, Pl, hcs, _, hl, hc, hm, _, hV⟩
  · exact ⟨_, _, _, hcs, by omega, [], rfl, by simp, .inl rfl⟩
  · refine ⟨_, _, _, hcs, by unfold maxLen at hc; omega, ?_⟩
    have hlm : l ≤ m := by rw [hm]; split <;> omega
    have key : ∀ i, i < l → ∃ v : Vl, (∀ j, j < 6 → w.cell? (x.add (i * 6 + j)) = v.cells[j]?) ∧ v.k < 18446744073709551616 := fun i hi => by
      obtain ⟨cs', h1, h2⟩ := hV i (by omega)
      rw [cellsLVal] at h1
      obtain ⟨_, h3, h4⟩ := World.cells?_some h1
      obtain ⟨v, rfl, hk⟩ := trod_val h3 h2
      exact ⟨v, fun j hj => by rw [← h4 j hj, Deep.add_add], hk⟩
    obtain ⟨f, hf'⟩ := Deep.choose_lt (α := Vl) (p := fun i v => (∀ j, j < 6 → w.cell? (x.add (i * 6 + j)) = v.cells[j]?) ∧ v.k < 18446744073709551616) key
    refine ⟨(List.range l).map f, by simp, ?_, ?_⟩
    · intro y hy
      simp only [List.mem_map, List.mem_range] at hy
      obtain ⟨i, hi, rfl⟩ := hy
      exact (hf' i hi).2
    · rcases Nat.eq_zero_or_pos l with h0 | h0
      · exact .inl h0
      · obtain ⟨b, off, spot⟩ := x
        have hspot : spot = none := by
          have := (hf' 0 h0).1 0 (by omega)
          simpa [Addr.add] using World.cell?_spot this
        subst hspot
        have h1 : ∀ i j, i < l → j < 6 → w.cell? ⟨b, off + (i * 6 + j), none⟩ = (f i).cells[j]? := fun i j hi hj => by
          have := (hf' i hi).1 j hj
          by_cases hk0 : i * 6 + j = 0
          · rw [hk0] at this ⊢; simpa [Addr.add] using this
          · unfold Addr.add at this
            rw [if_neg hk0] at this
            exact this
        have h2 : ∀ k, k < l → At w b (off + k * 6) (((List.range l).map f).getD k Vl.zero) := fun k hk => by
          rw [show ((List.range l).map f).getD k Vl.zero = f k by simp [List.getD_eq_getElem?_getD, hk]]
          have g := fun j hj => h1 k j hk hj
          have r : ∀ j, off + k * 6 + j = off + (k * 6 + j) := fun j => by omega
          refine ⟨?_, ?_, ?_, ?_, ?_, ?_⟩
          · exact g 0 (by omega)
          · rw [r]; exact g 1 (by omega)
          · rw [r]; exact g 2 (by omega)
          · rw [r]; exact g 3 (by omega)
          · rw [r]; exact g 4 (by omega)
          · rw [r]; exact g 5 (by omega)
        have hb := World.block_lt_of_cell? (h := (h2 0 h0).c0)
        exact .inr ⟨b, off, rfl, Nat.zero_le _, hb, hb, h2⟩

set_option maxRecDepth 100000 in
/-- A graph that came in. -/
theorem open_graph {H : Type} {enc : TypeId × Value → H} {w : World} {r : Reach} {b0 base : Nat} {spare : Nat → Bool} {held : Bool} {v : Value} {d : DataW H} {ps : List MemPlace}
    (hv : Value.okWide Tryd.prog w r b0 25 v) (h : DataW.Trod enc Tryd.prog w base spare held 25 v d ps) :
    ∃ a1 n1 c1 a2 n2 c2 a3 n3 c3 ins vs outs, v = gagg a1 n1 c1 a2 n2 c2 a3 n3 c3 ∧ GS w a1 n1 a2 n2 a3 n3 ins vs outs ∧ n1 ≤ 9223372036854775807 ∧ n2 ≤ 9223372036854775807 ∧ n3 ≤ 9223372036854775807 := by
  obtain ⟨cs, rfl, hsz⟩ := okWide_struct Tryd.underlying25 hv
  obtain ⟨b0, b1, b2, rfl⟩ := array3 (hsz.trans cellsLGraph)
  obtain ⟨fuel, hf⟩ := h
  obtain ⟨xs, n, _, _, _, hlen, hfs⟩ := DataW.trod_struct Tryd.underlying25 hf
  match xs, hlen with
  | [y0, y1, y2], _ =>
    have h0 := hfs 0 _ rfl
    have h1 := hfs 1 _ rfl
    have h2 := hfs 2 _ rfl
    simp [Value.cells, cellsInts, cellsLVals] at h0 h1 h2
    obtain ⟨a1, n1, c1, e1, l1, ins, f1⟩ := trod_ints h0
    obtain ⟨a2, n2, c2, e2, l2, vs, f2⟩ := trod_vals h1
    obtain ⟨a3, n3, c3, e3, l3, outs, f3⟩ := trod_ints h2
    simp at e1 e2 e3
    subst e1 e2 e3
    exact ⟨a1, n1, c1, a2, n2, c2, a3, n3, c3, ins, vs, outs, rfl, ⟨f1, f2, f3⟩, l1, l2, l3⟩
end Go.Proofs.YtiiimofkkahobaaDoor
