import Derived.Test.YtcphabjekfihnabGreatP27
import Derived.Test.YtcphabjekfihnabGreatP33
namespace Go.Proofs.YtcphabjekfihnabGreat
open Go.RowKit Flt Go.Maps
attribute [local go_sem] alloc_drewN setCell_drewN run_store_float

theorem wf64 {x : Int} (h : 0 ≤ x ∧ x ≤ 2000) : (Lit.int .i64 x).wf = true := by
  have e1 : IntKind.i64.min = -9223372036854775808 := by decide
  have e2 : IntKind.i64.max = 9223372036854775807 := by decide
  show (decide (IntKind.i64.min ≤ x) && decide (x ≤ IntKind.i64.max)) = true
  rw [e1, e2, Bool.and_eq_true]
  exact ⟨decide_eq_true (by omega), decide_eq_true (by omega)⟩
theorem fb_ltX {x : Nat} (h : x < 18446744073709551616) : fb x < 18446744073709551616 := by
  unfold fb
  split
  · decide
  · exact h
theorem wfU {x : Nat} (h : x < 18446744073709551616) : (Lit.int .u64 (x : Nat)).wf = true := by
  have e1 : IntKind.u64.min = 0 := by decide
  have e2 : IntKind.u64.max = 18446744073709551615 := by decide
  show (decide (IntKind.u64.min ≤ (x : Int)) && decide ((x : Int) ≤ IntKind.u64.max)) = true
  rw [e1, e2, Bool.and_eq_true]
  exact ⟨decide_eq_true (by omega), decide_eq_true (by omega)⟩
theorem okV_wf {ins : List Int} {vs : List Vl} {i : Nat} (h : okV ins vs i = true) (hi : i ≤ 2000) (hl : ins.length ≤ 20) (hlen : ∀ j, j < i → lenB (vs.getD j Vl.zero).len = true) (hk : (vs.getD i Vl.zero).k < 18446744073709551616) : Wf (vs.getD i Vl.zero) := by
  obtain ⟨h0, h1, h2, h3, h4⟩ := okV_small h hi hl hlen
  refine ⟨wf64 (by omega), wf64 h1, wf64 h2, wf64 h3, wf64 h4, wfU ?_⟩
  unfold likeK
  split
  · exact fb_ltX hk
  · decide

/-! What the closures see: the first i values are new, value i is nv. -/
theorem mid3_lt {A R : List Vl} {nv : Vl} {i o : Nat} (hl : A.length = i) (ho : o < i) : (A ++ [nv] ++ R).getD o Vl.zero = A.getD o Vl.zero := by
  rw [List.append_assoc, List.getD_eq_getElem?_getD, List.getElem?_append_left (by omega), ← List.getD_eq_getElem?_getD]
theorem mid3_at {A R : List Vl} {nv : Vl} {i : Nat} (hl : A.length = i) : (A ++ [nv] ++ R).getD i Vl.zero = nv := by
  subst hl
  rw [List.append_assoc, List.getD_eq_getElem?_getD, List.getElem?_append_right (Nat.le_refl _), Nat.sub_self]
  rfl
theorem negR_eq {A R : List Vl} {nv : Vl} {i : Nat} (hl : A.length = i) (hn : ∀ o ∈ opsOf nv, 0 ≤ o ∧ o < i) :
    (if nv.op = 6 ∧ ((A ++ [nv] ++ R).getD nv.a.toNat Vl.zero).op = 6 then ((A ++ [nv] ++ R).getD nv.a.toNat Vl.zero).a else (i : Int)) = sameAt 3 A nv i := by
  unfold sameAt
  rw [if_neg (by decide : ¬ (3 : Int) = 1), if_pos (rfl : (3 : Int) = 3)]
  by_cases c : nv.op = 6
  · have := hn _ (opsOf_a (v := nv) (by rw [c]; decide))
    rw [mid3_lt hl (by omega)]
  · rw [if_neg (fun h => c h.1), if_neg (fun h => c h.1)]
theorem unitR_eq {A R : List Vl} {nv : Vl} {i : Nat} (hl : A.length = i) (hn : ∀ o ∈ opsOf nv, 0 ≤ o ∧ o < i) : unitR (A ++ [nv] ++ R) nv i = sameAt 4 A nv i := by
  unfold sameAt unitR
  rw [if_neg (by decide : ¬ (4 : Int) = 1), if_neg (by decide : ¬ (4 : Int) = 3)]
  cases hu : unitB nv.op
  · have := of_decide_eq_false hu
    rw [if_neg (by simp), if_neg (by omega), if_neg (by omega), if_neg (by omega), if_neg (by omega), if_neg (by omega)]
  · have hc := unitB_cnt hu
    have ha := hn _ (opsOf_a (v := nv) (by omega))
    have hb := hn _ (opsOf_b (v := nv) (by omega))
    have ea : ∀ k, isC (A ++ [nv] ++ R) nv.a k = isC A nv.a k := fun k => by unfold isC; rw [mid3_lt hl (by omega)]
    have eb : ∀ k, isC (A ++ [nv] ++ R) nv.b k = isC A nv.b k := fun k => by unfold isC; rw [mid3_lt hl (by omega)]
    rw [if_pos rfl, ea, eb]
    have ho := of_decide_eq_true hu
    unfold unitF eitherB
    rcases ho with e | e | e | e
    all_goals simp [e]
/-- What a pass answers. -/
def PO (w : World) (g1 n1 c1 g2 g3 n3 c3 : Nat) (ins : List Int) (M : List Vl × List Int) (e : Ending) (w' : World) : Prop :=
  ∃ G2 n2 c2 us, e = .returned (gagg (some ⟨g1, 0, none⟩) n1 c1 (some ⟨G2, 0, none⟩) n2 c2 (some ⟨g3, 0, none⟩) n3 c3) ∧ PG w' g1 G2 g3 n1 n2 n3 ins us M.2 ∧ Lk us M.1 ∧ Kb us ∧ Chg (fun b => b = g2 ∨ b = g3) w w' ∧ (G2 = g2 ∨ w.heap.size ≤ G2)
theorem eqSt_succ (p : Int) (vs : List Vl) (i : Nat) : (eqSt p vs (i + 1)).1 ++ vs.drop (i + 1) = (eqSt p vs i).1 ++ [rnm (eqSt p vs i).2 (vs.getD i Vl.zero)] ++ vs.drop (i + 1) := rfl

set_option maxRecDepth 100000 in
set_option maxHeartbeats 4000000 in
theorem withoutNeg (w : World) (g1 n1 c1 g2 n2 c2 g3 n3 c3 : Nat) (ins : List Int) (vs : List Vl) (outs : List Int) (hP : PG w g1 g2 g3 n1 n2 n3 ins vs outs) (hok : okG ins vs outs = true) (hkb : Kb vs) :
    Calls Tryz.prog 47 #[gagg (some ⟨g1, 0, none⟩) n1 c1 (some ⟨g2, 0, none⟩) n2 c2 (some ⟨g3, 0, none⟩) n3 c3] w fun e w' => PO w g1 n1 c1 g2 g3 n3 c3 ins (eqM 3 vs outs) e w' := by
  have k0 := kept_alloc 0 0 w (gbox (some ⟨g1, 0, none⟩) n1 c1 (some ⟨g2, 0, none⟩) n2 c2 (some ⟨g3, 0, none⟩) n3 c3)
  have hB := g0_start w (.slice (some ⟨g1, 0, none⟩) n1 c1) (.slice (some ⟨g2, 0, none⟩) n2 c2) (.slice (some ⟨g3, 0, none⟩) n3 c3)
  have hz : (w.alloc (gbox (some ⟨g1, 0, none⟩) n1 c1 (some ⟨g2, 0, none⟩) n2 c2 (some ⟨g3, 0, none⟩) n3 c3)).heap.size = w.heap.size + 1 := by simp
  have k1 := kept_alloc 0 0 (w.alloc (gbox (some ⟨g1, 0, none⟩) n1 c1 (some ⟨g2, 0, none⟩) n2 c2 (some ⟨g3, 0, none⟩) n3 c3)) nbox
  have hR := rb_start (w.alloc (gbox (some ⟨g1, 0, none⟩) n1 c1 (some ⟨g2, 0, none⟩) n2 c2 (some ⟨g3, 0, none⟩) n3 c3))
  rw [hz] at hR
  have HB : Hid _ := hB.keep k1
  have HR : Hid _ := hR
  have HK : Hid _ := k0.trans k1
  have HG : Hid (g1 < w.heap.size ∧ g2 < w.heap.size ∧ g3 < w.heap.size) := ⟨hP.i.lt, hP.v.lt, hP.o.lt⟩
  have hvl : vs.length = n2 := hP.v.len
  obtain ⟨_, _, hv, _, _⟩ := okG_parts hok
  have HW : Hid _ := withEqual_neg ((w.alloc (gbox (some ⟨g1, 0, none⟩) n1 c1 (some ⟨g2, 0, none⟩) n2 c2 (some ⟨g3, 0, none⟩) n3 c3)).alloc nbox) g1 n1 c1 g2 n2 c2 g3 n3 c3 3 ins vs outs (fun _ => False) (fun _ _ => True) (hP.keep (k0.trans k1)) hok (fun _ c => c.elim) trivial (fun _ _ _ _ _ => trivial) (fun i W hi _ hVA => by
    have E := eqI_all ins vs 3 i (fun j hj => hv j (by omega))
    have hop := rnm_opr E (hv i (by omega))
    rw [eqSt_succ] at hVA
    refine (neg1 W g2 n2 c2 i _ hVA hi ?_).mono ?_
    · rw [mid3_at E.l1]
      intro c
      have := (hop _ (opsOf_a (v := rnm (eqSt 3 vs i).2 (vs.getD i Vl.zero)) (by rw [c]; decide))).1
      omega
    · rw [mid3_at E.l1, negR_eq E.l1 (fun o ho => (hop o ho).1)]
      exact fun e w' h => ⟨h.1, h.2.chg, trivial⟩)
  have HKB : Hid _ := hkb
  clear hP hok hv hvl k0 k1 hR hz hkb
  obtain ⟨_, p0, p1, p2⟩ := HB.out
  go_enter Tryz.func47, Tryz.ntmps47
  go_wp2_with fail
  clear p0 p1 p2 hB
  generalize (w.alloc (gbox (some ⟨g1, 0, none⟩) n1 c1 (some ⟨g2, 0, none⟩) n2 c2 (some ⟨g3, 0, none⟩) n3 c3)).alloc nbox = w1 at HB HR HK HW ⊢
  refine Calls.mono HW.out ?_
  rintro e w2 ⟨rfl, hP2, c2'⟩
  have HP2 : Hid _ := hP2
  have HC2 : Hid _ := c2'
  have HR2 : Hid _ := RB.keepC HR.out c2' (by rintro (c | c | c) <;> first | (have := HG.out; omega) | exact c)
  clear hP2 c2' HW
  obtain ⟨_, r0, r1, r2, f0, f1, f2⟩ := HR2.out
  go_wp2_with fail
  obtain ⟨y0, y1, y2⟩ := put3_0 w2 (w.heap.size + 1) _ _ _ r0 r1 r2 (.slice (some ⟨g1, 0, none⟩) n1 c1) (.slice (some ⟨g2, 0, none⟩) n2 c2) (.slice (some ⟨g3, 0, none⟩) n3 c3)
  have kp := put3_kept w2 (w.heap.size + 1) (.slice (some ⟨g1, 0, none⟩) n1 c1) (.slice (some ⟨g2, 0, none⟩) n2 c2) (.slice (some ⟨g3, 0, none⟩) n3 c3)
  refine bodyPost_ret (v := gagg (some ⟨g1, 0, none⟩) n1 c1 (some ⟨g2, 0, none⟩) n2 c2 (some ⟨g3, 0, none⟩) n3 c3) (by simp [results, Tryz.results47, go_sem, y0, y1, y2]) rfl ⟨g2, n2, c2, (eqM 3 vs outs).1, rfl, ⟨?_, ?_, ?_, HP2.out.d12, HP2.out.d13, HP2.out.d23⟩, Lk.refl _, ?_, ?_, .inl rfl⟩
  · exact HP2.out.i.keep kp (by have := HG.out; omega)
  · exact HP2.out.v.keep kp (by have := HG.out; omega)
  · exact HP2.out.o.keep kp (by have := HG.out; omega)
  · exact eqSt_kb HKB.out 3 _
  · refine Chg.new (Chg.new HK.out.chg HC2.out (fun b hb c => ?_)) (kp.chg1 (S := fun b => b = w.heap.size + 1) rfl) (fun b hb c => by omega)
    rcases c with c | c | c
    · exact .inl c
    · exact .inr c
    · exact c.elim

set_option maxRecDepth 100000 in
set_option maxHeartbeats 4000000 in
theorem withoutUnits (w : World) (g1 n1 c1 g2 n2 c2 g3 n3 c3 : Nat) (ins : List Int) (vs : List Vl) (outs : List Int) (hP : PG w g1 g2 g3 n1 n2 n3 ins vs outs) (hok : okG ins vs outs = true) (hkb : Kb vs) :
    Calls Tryz.prog 48 #[gagg (some ⟨g1, 0, none⟩) n1 c1 (some ⟨g2, 0, none⟩) n2 c2 (some ⟨g3, 0, none⟩) n3 c3] w fun e w' => PO w g1 n1 c1 g2 g3 n3 c3 ins (eqM 4 vs outs) e w' := by
  have k0 := kept_alloc 0 0 w (gbox (some ⟨g1, 0, none⟩) n1 c1 (some ⟨g2, 0, none⟩) n2 c2 (some ⟨g3, 0, none⟩) n3 c3)
  have hB := g0_start w (.slice (some ⟨g1, 0, none⟩) n1 c1) (.slice (some ⟨g2, 0, none⟩) n2 c2) (.slice (some ⟨g3, 0, none⟩) n3 c3)
  have hz : (w.alloc (gbox (some ⟨g1, 0, none⟩) n1 c1 (some ⟨g2, 0, none⟩) n2 c2 (some ⟨g3, 0, none⟩) n3 c3)).heap.size = w.heap.size + 1 := by simp
  have k1 := kept_alloc 0 0 (w.alloc (gbox (some ⟨g1, 0, none⟩) n1 c1 (some ⟨g2, 0, none⟩) n2 c2 (some ⟨g3, 0, none⟩) n3 c3)) nbox
  have hR := rb_start (w.alloc (gbox (some ⟨g1, 0, none⟩) n1 c1 (some ⟨g2, 0, none⟩) n2 c2 (some ⟨g3, 0, none⟩) n3 c3))
  rw [hz] at hR
  have HB : Hid _ := hB.keep k1
  have HR : Hid _ := hR
  have HK : Hid _ := k0.trans k1
  have HG : Hid (g1 < w.heap.size ∧ g2 < w.heap.size ∧ g3 < w.heap.size) := ⟨hP.i.lt, hP.v.lt, hP.o.lt⟩
  have hvl : vs.length = n2 := hP.v.len
  obtain ⟨_, _, hv, _, _⟩ := okG_parts hok
  have HW : Hid _ := withEqual_unit ((w.alloc (gbox (some ⟨g1, 0, none⟩) n1 c1 (some ⟨g2, 0, none⟩) n2 c2 (some ⟨g3, 0, none⟩) n3 c3)).alloc nbox) g1 n1 c1 g2 n2 c2 g3 n3 c3 4 ins vs outs (fun _ => False) (fun _ _ => True) (hP.keep (k0.trans k1)) hok (fun _ c => c.elim) trivial (fun _ _ _ _ _ => trivial) (fun i W hi _ hVA => by
    have E := eqI_all ins vs 4 i (fun j hj => hv j (by omega))
    have hop := rnm_opr E (hv i (by omega))
    rw [eqSt_succ] at hVA
    refine (unit1 W g2 n2 c2 i _ hVA hi ?_).mono ?_
    · rw [mid3_at E.l1]
      intro c
      have hc := unitB_cnt c
      have h1 := (hop _ (opsOf_a (v := rnm (eqSt 4 vs i).2 (vs.getD i Vl.zero)) (by omega))).1
      have h2 := (hop _ (opsOf_b (v := rnm (eqSt 4 vs i).2 (vs.getD i Vl.zero)) (by omega))).1
      omega
    · rw [mid3_at E.l1, unitR_eq E.l1 (fun o ho => (hop o ho).1)]
      exact fun e w' h => ⟨h.1, h.2.chg, trivial⟩)
  have HKB : Hid _ := hkb
  clear hP hok hv hvl k0 k1 hR hz hkb
  obtain ⟨_, p0, p1, p2⟩ := HB.out
  go_enter Tryz.func48, Tryz.ntmps48
  go_wp2_with fail
  clear p0 p1 p2 hB
  generalize (w.alloc (gbox (some ⟨g1, 0, none⟩) n1 c1 (some ⟨g2, 0, none⟩) n2 c2 (some ⟨g3, 0, none⟩) n3 c3)).alloc nbox = w1 at HB HR HK HW ⊢
  refine Calls.mono HW.out ?_
  rintro e w2 ⟨rfl, hP2, c2'⟩
  have HP2 : Hid _ := hP2
  have HC2 : Hid _ := c2'
  have HR2 : Hid _ := RB.keepC HR.out c2' (by rintro (c | c | c) <;> first | (have := HG.out; omega) | exact c)
  clear hP2 c2' HW
  obtain ⟨_, r0, r1, r2, f0, f1, f2⟩ := HR2.out
  go_wp2_with fail
  obtain ⟨y0, y1, y2⟩ := put3_0 w2 (w.heap.size + 1) _ _ _ r0 r1 r2 (.slice (some ⟨g1, 0, none⟩) n1 c1) (.slice (some ⟨g2, 0, none⟩) n2 c2) (.slice (some ⟨g3, 0, none⟩) n3 c3)
  have kp := put3_kept w2 (w.heap.size + 1) (.slice (some ⟨g1, 0, none⟩) n1 c1) (.slice (some ⟨g2, 0, none⟩) n2 c2) (.slice (some ⟨g3, 0, none⟩) n3 c3)
  refine bodyPost_ret (v := gagg (some ⟨g1, 0, none⟩) n1 c1 (some ⟨g2, 0, none⟩) n2 c2 (some ⟨g3, 0, none⟩) n3 c3) (by simp [results, Tryz.results48, go_sem, y0, y1, y2]) rfl ⟨g2, n2, c2, (eqM 4 vs outs).1, rfl, ⟨?_, ?_, ?_, HP2.out.d12, HP2.out.d13, HP2.out.d23⟩, Lk.refl _, ?_, ?_, .inl rfl⟩
  · exact HP2.out.i.keep kp (by have := HG.out; omega)
  · exact HP2.out.v.keep kp (by have := HG.out; omega)
  · exact HP2.out.o.keep kp (by have := HG.out; omega)
  · exact eqSt_kb HKB.out 4 _
  · refine Chg.new (Chg.new HK.out.chg HC2.out (fun b hb c => ?_)) (kp.chg1 (S := fun b => b = w.heap.size + 1) rfl) (fun b hb c => by omega)
    rcases c with c | c | c
    · exact .inl c
    · exact .inr c
    · exact c.elim
end Go.Proofs.YtcphabjekfihnabGreat
