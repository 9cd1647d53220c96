import Derived.Test.YtcphabjekfihnaaV04
import Derived.Deep.QuietTactic
import Derived.BigQuiet
namespace Go.Proofs.Ytcphabjekfihnaa
open Go.RowKit Flt
attribute [local go_sem] alloc_drewN setCell_drewN run_store_float

/-- The boxes of a code and a step. -/
structure CSB (W : World) (p : Nat) (b0 b1 b2 b3 : Value) (s : Ste) : Prop where
  c : C0 W p b0 b1 b2 b3
  lt : p + 1 < W.heap.size
  s : AtT W (p + 1) 0 s
theorem CSB.keep {W W' : World} {p : Nat} {b0 b1 b2 b3 : Value} {s : Ste} (t : CSB W p b0 b1 b2 b3 s) (k : Kept 0 0 W W') : CSB W' p b0 b1 b2 b3 s :=
  ⟨t.c.keep k, Nat.lt_of_lt_of_le t.lt k.size, t.s.keep t.lt k (.inr (.inr (Nat.le_refl _)))⟩
theorem ste_box (w : World) (s : Ste) : AtT (w.alloc s.box) w.heap.size 0 s := by
  refine ⟨?_, ?_, ?_, ?_, ?_, ?_, ?_, ?_⟩
  all_goals first | (go_simp; done) | (simp; done)
theorem csb_start (w : World) (b0 b1 b2 b3 : Value) (s : Ste) : CSB ((w.alloc (.cells #[b0, b1, b2, b3] 82)).alloc s.box) w.heap.size b0 b1 b2 b3 s := by
  have h1 : (w.alloc (.cells #[b0, b1, b2, b3] 82)).heap.size = w.heap.size + 1 := by simp
  refine ⟨(c0_start w b0 b1 b2 b3).keep (kept_alloc 0 0 _ _), by simp, ?_⟩
  have := ste_box (w.alloc (.cells #[b0, b1, b2, b3] 82)) s
  rw [h1] at this
  exact this

set_option maxRecDepth 100000 in
set_option maxHeartbeats 8000000 in
theorem l5form_in (w : World) (lo hi : Nat) (a1 a2 a3 : Option Addr) (n1 c1 n2 c2 n3 c3 : Nat) (pk : Int) (s : Ste) (ins : List Int) (f : IS w lo hi a1 n1 ins) (g0 : 0 ≤ s.op) (g1 : s.op ≤ 13) (g2 : 1 ≤ s.len) (g3 : s.len ≤ 1000) :
    Calls Try.prog 129 #[cagg a1 n1 c1 a2 n2 c2 a3 n3 c3 pk, s.agg] w fun e w' => e = .returned (.bool (formB ins s)) ∧ Kept 0 0 w w' := by
  have hK := (kept_alloc 0 0 w (cbox a1 n1 c1 a2 n2 c2 a3 n3 c3 pk)).trans (kept_alloc 0 0 _ s.box)
  have HB : Hid _ := csb_start w (.slice a1 n1 c1) (.slice a2 n2 c2) (.slice a3 n3 c3) (.int .i64 pk) s
  have HO : Hid (∀ w, Calls Try.prog 79 #[.int .i64 s.op] w fun e w' => e = .returned (.int .i64 (cnt s.op : Nat)) ∧ w' = w) := fun w => by
    have := l1operands s.op w g0 g1
    rw [ops13 g0 g1] at this
    exact this
  have HF : Hid _ := f
  have HK : Hid _ := hK
  have hc3 := cnt_le s.op
  have HLB : Hid (lenB s.len = true) := lenB_true g2 g3
  clear hK f
  go_enter Try.func129, Try.ntmps129
  go_wp2_with (first | (go_at_call 79; refine (HO.out _).mono ?_; rintro e w2 ⟨rfl, rfl⟩) | fail)
  generalize (w.alloc (cbox a1 n1 c1 a2 n2 c2 a3 n3 c3 pk)).alloc s.box = w1 at HB HK ⊢
  go_loopw [6] (fun i W => ∃ k : Nat, cnt s.op ≤ k ∧ k ≤ 3 ∧ i = .int .i64 k ∧ Hid ((List.range k).all (okFld s) = true) ∧ Hid (Kept 0 0 w1 W)) (fun i _ => 3 - (intOf i).toNat)
  case atStart => exact ⟨cnt s.op, Nat.le_refl _, hc3, rfl, okFld_start s, Kept.refl _ _ _⟩
  case round =>
    obtain ⟨k, hk0, hk, rfl, hA, hW⟩ := hrel
    obtain ⟨⟨_, q0, q1, q2, q3⟩, _, ⟨d0, d1, d2, d3, d4, d5, d6, d7⟩⟩ := HB.out.keep hW.out
    simp only [Nat.zero_add] at d1 d2 d3 d4 d5 d6 d7
    by_cases hlt : k < 3
    · have HX : Hid _ := l5field wr s k hlt
      rcases (by omega : k = 0 ∨ k = 1 ∨ k = 2) with rfl | rfl | rfl
      · have e := okFld0 hk0
        cases t : (s.op == 0) <;> cases u : (s.a != 0)
        all_goals
          rw [t, u] at e
          go_wp2_with fail
          refine Calls.mono HX.out ?_
          rintro e9 w2 ⟨rfl, hk2⟩
          have R2 : Hid _ := Kept.trans hW.out hk2
          have R3 : Hid _ := Kept.trans HK.out R2.out
          rw [show fldS s 0 = s.a from rfl]
          clear HX hk2 q0 q1 q2 q3 d0 d1 d2 d3 d4 d5 d6 d7
          first
          | (have R : Hid _ := range_snoc hA.out e
             go_wp2
             go_roundw
             case rel => exact ⟨1, by omega, by omega, by go_num, R, R2⟩
             case measure => simp [intOf])
          | (have R : Hid (formB ins s = false) := form_spare (by rw [spare_fld]; exact range_bad (by omega) e)
             go_wp2
             go_ret
             exact ⟨by rw [R.out]; rfl, R3.out⟩)
      · have e := okFld1 hk0
        cases u : (s.b != 0)
        all_goals
          rw [u] at e
          go_wp2_with fail
          refine Calls.mono HX.out ?_
          rintro e9 w2 ⟨rfl, hk2⟩
          have R2 : Hid _ := Kept.trans hW.out hk2
          have R3 : Hid _ := Kept.trans HK.out R2.out
          rw [show fldS s 1 = s.b from rfl]
          clear HX hk2 q0 q1 q2 q3 d0 d1 d2 d3 d4 d5 d6 d7
          first
          | (have R : Hid _ := range_snoc hA.out e
             go_wp2
             go_roundw
             case rel => exact ⟨2, by omega, by omega, by go_num, R, R2⟩
             case measure => simp [intOf])
          | (have R : Hid (formB ins s = false) := form_spare (by rw [spare_fld]; exact range_bad (by omega) e)
             go_wp2
             go_ret
             exact ⟨by rw [R.out]; rfl, R3.out⟩)
      · have e := okFld2 hk0
        cases t : (s.op == 11) <;> cases t' : (s.op == 12) <;> cases u : (s.c != 0)
        all_goals
          rw [t, t', u] at e
          go_wp2_with fail
          refine Calls.mono HX.out ?_
          rintro e9 w2 ⟨rfl, hk2⟩
          have R2 : Hid _ := Kept.trans hW.out hk2
          have R3 : Hid _ := Kept.trans HK.out R2.out
          rw [show fldS s 2 = s.c from rfl]
          clear HX hk2 q0 q1 q2 q3 d0 d1 d2 d3 d4 d5 d6 d7
          first
          | (have R : Hid _ := range_snoc hA.out e
             go_wp2
             go_roundw
             case rel => exact ⟨3, by omega, by omega, by go_num, R, R2⟩
             case measure => simp [intOf])
          | (have R : Hid (formB ins s = false) := form_spare (by rw [spare_fld]; exact range_bad (by omega) e)
             go_wp2
             go_ret
             exact ⟨by rw [R.out]; rfl, R3.out⟩)
    · have hS : spareB (vlOf s) = true := by rw [spare_fld]; have := hA.out; rw [show k = 3 by omega] at this; exact this
      have R3 : Hid _ := Kept.trans HK.out hW.out
      have HQ : Hid (formB ins s = ((!(decide (cnt s.op = 0) && s.n != 0)) && (if s.op = 0 then idxB s.a ins.length && ins.getD s.a.toNat 0 == s.len else shapeB s.op s.len s.c ([s.n, s.len, s.len].take (cnt s.op))))) := by
        show _ = _
        unfold formB
        rw [HLB.out, hS]; simp
      have HFW : Hid _ := IS.keep HF.out R3.out (.inr (.inr (Nat.le_refl _)))
      clear hA hW hS
      by_cases h0 : s.op = 0
      · have t0 : (s.op == 0) = true := beq_iff_eq.2 h0
        have hlen := HFW.out.len
        have eq : formB ins s = ((s.n == 0) && (idxB s.a n1 && ins.getD s.a.toNat 0 == s.len)) := by
          rw [HQ.out, if_pos h0, h0, hlen]
          show (!(true && !(s.n == 0)) && _) = _
          generalize (s.n == 0) = b
          cases b <;> rfl
        clear HQ
        cases u0 : (s.n == 0)
        · have EQ : Hid (formB ins s = false) := by show _ = _; rw [eq, u0]; rfl
          clear eq
          go_wp2_with fail
          go_quiet (fail)
          go_wp2
          go_ret
          exact ⟨by rw [EQ.out]; rfl, Kept.trans R3.out (kept_drewN 0 0 _ _)⟩
        · by_cases u1 : 0 ≤ s.a
          · by_cases u2 : s.a < n1
            · have ui : idxB s.a n1 = true := decide_eq_true ⟨u1, u2⟩
              rcases HFW.out.at_ with z0 | ⟨ga, oa, ea, z1, z2, z3, z4⟩
              · omega
              have c := z4 s.a.toNat (by omega)
              obtain ⟨j, hj⟩ : ∃ j : Nat, s.a = j := ⟨s.a.toNat, by omega⟩
              have EQ : Hid (formB ins s = (ins.getD j 0 == s.len)) := by show _ = _; rw [eq, u0, ui, hj]; rfl
              subst ea
              rw [hj] at c d4 u2
              rw [Int.toNat_natCast] at c
              generalize ins.getD j 0 = y at c EQ
              have hu2 : j < n1 := by omega
              clear z1 z2 z3 z4 u1 ui hj eq
              go_wp2_with fail
              go_quiet (fail)
              go_wp2
              go_ret
              exact ⟨by rw [EQ.out]; rfl, Kept.trans R3.out (kept_drewN 0 0 _ _)⟩
            · have EQ : Hid (formB ins s = false) := by show _ = _; rw [eq, show idxB s.a n1 = false from decide_eq_false (fun c => u2 c.2)]; simp
              have u2' : decide (s.a < n1) = false := decide_eq_false u2
              have u1' : decide (0 ≤ s.a) = true := decide_eq_true u1
              clear eq
              go_wp2_with fail
              go_quiet (fail)
              go_wp2
              go_ret
              exact ⟨by rw [EQ.out]; rfl, Kept.trans R3.out (kept_drewN 0 0 _ _)⟩
          · have EQ : Hid (formB ins s = false) := by show _ = _; rw [eq, show idxB s.a n1 = false from decide_eq_false (fun c => u1 c.1)]; simp
            have u1' : decide (0 ≤ s.a) = false := decide_eq_false u1
            clear eq
            go_wp2_with fail
            go_quiet (fail)
            go_wp2
            go_ret
            exact ⟨by rw [EQ.out]; rfl, Kept.trans R3.out (kept_drewN 0 0 _ _)⟩
      · have t0 : (s.op == 0) = false := beq_eq_false_iff_ne.2 h0
        by_cases h1 : s.op = 1
        · have t1 : (s.op == 1) = true := beq_iff_eq.2 h1
          have eq : formB ins s = (s.n == 0) := by
            rw [HQ.out, if_neg h0, h1]
            show (!(true && !(s.n == 0)) && true) = _
            generalize (s.n == 0) = b
            cases b <;> rfl
          have EQ : Hid _ := eq
          clear eq HQ
          go_wp2
          go_ret
          exact ⟨by rw [EQ.out]; rfl, R3.out⟩
        · have t1 : (s.op == 1) = false := beq_eq_false_iff_ne.2 h1
          have hcp : 0 < cnt s.op := by
            rcases (by omega : s.op = 2 ∨ s.op = 3 ∨ s.op = 4 ∨ s.op = 5 ∨ s.op = 6 ∨ s.op = 7 ∨ s.op = 8 ∨ s.op = 9 ∨ s.op = 10 ∨ s.op = 11 ∨ s.op = 12 ∨ s.op = 13) with e | e | e | e | e | e | e | e | e | e | e | e <;> rw [e] <;> decide
          have eq : formB ins s = shapeB s.op s.len s.c ([s.n, s.len, s.len].take (cnt s.op)) := by
            rw [HQ.out, if_neg h0, decide_eq_false (by omega)]; simp
          clear HQ
          by_cases hn : 0 ≤ s.n
          · have HL : Hid _ := l1fits wr s.op s.len 0 0 s.c 0 s.n.toNat s.len.toNat s.len.toNat
            rw [Int.toNat_of_nonneg hn, Int.toNat_of_nonneg (by omega)] at HL
            have ef : fitB s.op s.len s.c s.n.toNat s.len.toNat s.len.toNat = shapeB s.op s.len s.c ([s.n, s.len, s.len].take (cnt s.op)) := by
              unfold fitB
              rw [HLB.out, Int.toNat_of_nonneg hn, Int.toNat_of_nonneg (by omega), Bool.true_and]
            rw [ef, ← eq] at HL
            clear ef eq
            go_wp2_with fail
            refine Calls.mono HL.out ?_
            rintro e w2 ⟨rfl, rfl⟩
            go_wp2
            go_ret
            exact ⟨rfl, Kept.trans R3.out (kept_alloc 0 0 _ _)⟩
          · have HL : Hid _ := fits_neg wr s.op s.len 0 0 s.c s.n s.len s.len 0 (by omega) g1 g2 g3 (by omega)
            have ef : shapeB s.op s.len s.c ([s.n, s.len, s.len].take (cnt s.op)) = false := by
              cases hb : shapeB s.op s.len s.c ([s.n, s.len, s.len].take (cnt s.op))
              · rfl
              · have hf : formB ins s = true := by rw [eq]; exact hb
                have := form_n hf hcp
                omega
            have EQ : Hid (formB ins s = false) := by show _ = _; rw [eq, ef]
            clear ef eq
            go_wp2_with fail
            refine Calls.mono HL.out ?_
            rintro e w2 ⟨rfl, rfl⟩
            go_wp2
            go_ret
            exact ⟨by rw [EQ.out]; rfl, Kept.trans R3.out (kept_alloc 0 0 _ _)⟩
theorem l5form (w : World) (lo hi : Nat) (a1 a2 a3 : Option Addr) (n1 c1 n2 c2 n3 c3 : Nat) (pk : Int) (s : Ste) (ins : List Int) (f : IS w lo hi a1 n1 ins) :
    Calls Try.prog 129 #[cagg a1 n1 c1 a2 n2 c2 a3 n3 c3 pk, s.agg] w fun e w' => e = .returned (.bool (formB ins s)) ∧ Kept 0 0 w w' := by
  by_cases h : 0 ≤ s.op ∧ s.op ≤ 13 ∧ 1 ≤ s.len ∧ s.len ≤ 1000
  · exact l5form_in w lo hi a1 a2 a3 n1 c1 n2 c2 n3 c3 pk s ins f h.1 h.2.1 h.2.2.1 h.2.2.2
  · rw [form_bad h]
    exact l5form_bad w a1 a2 a3 n1 c1 n2 c2 n3 c3 pk s h
end Go.Proofs.Ytcphabjekfihnaa
