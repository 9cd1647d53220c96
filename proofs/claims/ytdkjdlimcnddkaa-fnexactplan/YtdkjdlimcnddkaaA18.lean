import Derived.Test.YtdkjdlimcnddkaaA17
import Derived.Deep.QuietTactic
import Derived.BigQuiet
namespace Go.Proofs.Ytdkjdlimcnddkaa
open Go.RowKit Flt
attribute [local go_sem] alloc_drewN setCell_drewN run_store_float

/-- The boxes of a code and a step. -/
structure CSB (W : World) (p : Nat) (b0 b1 b2 b3 : Value) (s : Ste) : Prop where
  c : C0 W p b0 b1 b2 b3
  lt : p + 1 < W.heap.size
  s : AtT W (p + 1) 0 s
theorem CSB.keep {W W' : World} {p : Nat} {b0 b1 b2 b3 : Value} {s : Ste} (t : CSB W p b0 b1 b2 b3 s) (k : Kept 0 0 W W') : CSB W' p b0 b1 b2 b3 s :=
  ⟨t.c.keep k, Nat.lt_of_lt_of_le t.lt k.size, t.s.keep t.lt k (.inr (.inr (Nat.le_refl _)))⟩
theorem ste_box (w : World) (s : Ste) : AtT (w.alloc s.box) w.heap.size 0 s := by
  refine ⟨?_, ?_, ?_, ?_, ?_, ?_, ?_, ?_⟩
  all_goals first | (go_simp; done) | (simp; done)
theorem csb_start (w : World) (b0 b1 b2 b3 : Value) (s : Ste) : CSB ((w.alloc (.cells #[b0, b1, b2, b3] 39)).alloc s.box) w.heap.size b0 b1 b2 b3 s := by
  have h1 : (w.alloc (.cells #[b0, b1, b2, b3] 39)).heap.size = w.heap.size + 1 := by simp
  refine ⟨(c0_start w b0 b1 b2 b3).keep (kept_alloc 0 0 _ _), by simp, ?_⟩
  have := ste_box (w.alloc (.cells #[b0, b1, b2, b3] 39)) s
  rw [h1] at this
  exact this

set_option maxRecDepth 100000 in
set_option maxHeartbeats 8000000 in
theorem l5form_in (w : World) (lo hi : Nat) (a1 a2 a3 : Option Addr) (n1 c1 n2 c2 n3 c3 : Nat) (pk : Int) (s : Ste) (ins : List Int) (f : IS w lo hi a1 n1 ins) (g0 : 0 ≤ s.op) (g1 : s.op ≤ 13) (g2 : 1 ≤ s.len) (g3 : s.len ≤ 1000) :
    Calls Try.prog 107 #[cagg a1 n1 c1 a2 n2 c2 a3 n3 c3 pk, s.agg] w fun e w' => e = .returned (.bool (formB ins s)) ∧ Kept 0 0 w w' := by
  have hK := (kept_alloc 0 0 w (cbox a1 n1 c1 a2 n2 c2 a3 n3 c3 pk)).trans (kept_alloc 0 0 _ s.box)
  have HB : Hid _ := csb_start w (.slice a1 n1 c1) (.slice a2 n2 c2) (.slice a3 n3 c3) (.int .i64 pk) s
  have HO : Hid (∀ w, Calls Try.prog 84 #[.int .i64 s.op] w fun e w' => e = .returned (.int .i64 (cnt s.op : Nat)) ∧ w' = w) := fun w => by
    have := l1operands s.op w g0 g1
    rw [ops13 g0 g1] at this
    exact this
  have HF : Hid _ := f
  have HK : Hid _ := hK
  have hc3 := cnt_le s.op
  have HLB : Hid (lenB s.len = true) := lenB_true g2 g3
  clear hK f
  go_enter Try.func107, Try.ntmps107
  go_wp2_with (first | (go_at_call 84; refine (HO.out _).mono ?_; rintro e w2 ⟨rfl, rfl⟩) | fail)
  generalize (w.alloc (cbox a1 n1 c1 a2 n2 c2 a3 n3 c3 pk)).alloc s.box = w1 at HB HK ⊢
  go_loopw [6] (fun i W => ∃ k : Nat, cnt s.op ≤ k ∧ k ≤ 3 ∧ i = .int .i64 k ∧ Hid ((List.range k).all (okFld s) = true) ∧ Hid (Kept 0 0 w1 W)) (fun i _ => 3 - (intOf i).toNat)
  case atStart => exact ⟨cnt s.op, Nat.le_refl _, hc3, rfl, okFld_start s, Kept.refl _ _ _⟩
  case round =>
    obtain ⟨k, hk0, hk, rfl, hA, hW⟩ := hrel
    obtain ⟨⟨_, q0, q1, q2, q3⟩, _, ⟨d0, d1, d2, d3, d4, d5, d6, d7⟩⟩ := HB.out.keep hW.out
    simp only [Nat.zero_add] at d1 d2 d3 d4 d5 d6 d7
    by_cases hlt : k < 3
    · have HX : Hid _ := l5field wr s k hlt
      rcases (by omega : k = 0 ∨ k = 1 ∨ k = 2) with rfl | rfl | rfl
      · have e := okFld0 hk0
        cases t : (s.op == 0) <;> cases u : (s.a != 0)
        all_goals
          rw [t, u] at e
          go_wp2_with fail
          refine Calls.mono HX.out ?_
          rintro e9 w2 ⟨rfl, hk2⟩
          have R2 : Hid _ := Kept.trans hW.out hk2
          have R3 : Hid _ := Kept.trans HK.out R2.out
          rw [show fldS s 0 = s.a from rfl]
          clear HX hk2 q0 q1 q2 q3 d0 d1 d2 d3 d4 d5 d6 d7
          first
          | (have R : Hid _ := range_snoc hA.out e
             go_wp2
             go_roundw
             case rel => exact ⟨1, by omega, by omega, by go_num, R, R2⟩
             case measure => simp [intOf])
          | (have R : Hid (formB ins s = false) := form_spare (by rw [spare_fld]; exact range_bad (by omega) e)
             go_wp2
             go_ret
             exact ⟨by rw [R.out]; rfl, R3.out⟩)
      · have e := okFld1 hk0
        cases u : (s.b != 0)
        all_goals
          rw [u] at e
          go_wp2_with fail
          refine Calls.mono HX.out ?_
          rintro e9 w2 ⟨rfl, hk2⟩
          have R2 : Hid _ := Kept.trans hW.out hk2
          have R3 : Hid _ := Kept.trans HK.out R2.out
          rw [show fldS s 1 = s.b from rfl]
          clear HX hk2 q0 q1 q2 q3 d0 d1 d2 d3 d4 d5 d6 d7
          first
          | (have R : Hid _ := range_snoc hA.out e
             go_wp2
             go_roundw
             case rel => exact ⟨2, by omega, by omega, by go_num, R, R2⟩
             case measure => simp [intOf])
          | (have R : Hid (formB ins s = false) := form_spare (by rw [spare_fld]; exact range_bad (by omega) e)
             go_wp2
             go_ret
             exact ⟨by rw [R.out]; rfl, R3.out⟩)
      · have e := okFld2 hk0
        cases t : (s.op == 11) <;> cases t' : (s.op == 12) <;> cases u : (s.c != 0)
        all_goals
          rw [t, t', u] at e
          go_wp2_with fail
          refine Calls.mono HX.out ?_
          rintro e9 w2 ⟨rfl, hk2⟩
          have R2 : Hid _ := Kept.trans hW.out hk2
          have R3 : Hid _ := Kept.trans HK.out R2.out
          rw [show fldS s 2 = s.c from rfl]
          clear HX hk2 q0 q1 q2 q3 d0 d1 d2 d3 d4 d5 d6 d7
          first
          | (have R : Hid _ := range_snoc hA.out e
             go_wp2
             go_roundw
             case rel => exact ⟨3, by omega, by omega, by go_num, R, R2⟩
             case measure => simp [intOf])
          | (have R : Hid (formB ins s = false) := form_spare (by rw [spare_fld]; exact range_bad (by omega) e)
             go_wp2
             go_ret
             exact ⟨by rw [R.out]; rfl, R3.out⟩)
    · have hS : spareB (vlOf s) = true := by rw [spare_fld]; have := hA.out; rw [show k = 3 by omega] at this; exact this
      have R3 : Hid _ := Kept.trans HK.out hW.out
      have HQ : Hid (formB ins s = ((!(decide (cnt s.op = 0) && s.n != 0)) && (if s.op = 0 then idxB s.a ins.length && ins.getD s.a.toNat 0 == s.len else shapeB s.op s.len s.c ([s.n, s.len, s.len].take (cnt s.op))))) := by
        show _ = _
        unfold formB
        rw [HLB.out, hS]; simp
      have HFW : Hid _ := IS.keep HF.out R3.out (.inr (.inr (Nat.le_refl _)))
      clear hA hW hS
      by_cases h0 : s.op = 0
      · have t0 : (s.op == 0) = true := beq_iff_eq.2 h0
        have hlen := HFW.out.len
        have eq : formB ins s = ((s.n == 0) && (idxB s.a n1 && ins.getD s.a.toNat 0 == s.len)) := by
          rw [HQ.out, if_pos h0, h0, hlen]
          show (!(true && !(s.n == 0)) && _) = _
          generalize (s.n == 0) = b
          cases b <;> rfl
        clear HQ
        cases u0 : (s.n == 0)
        · have EQ : Hid (formB ins s = false) := by show _ = _; rw [eq, u0]; rfl
          clear eq
          go_wp2_with fail
          go_quiet (fail)
          go_wp2
          go_ret
          exact ⟨by rw [EQ.out]; rfl, Kept.trans R3.out (kept_drewN 0 0 _ _)⟩
        · by_cases u1 : 0 ≤ s.a
          · by_cases u2 : s.a < n1
            · have ui : idxB s.a n1 = true := decide_eq_true ⟨u1, u2⟩
              rcases HFW.out.at_ with z0 | ⟨ga, oa, ea, z1, z2, z3, z4⟩
              · omega
              have c := z4 s.a.toNat (by omega)
              obtain ⟨j, hj⟩ : ∃ j : Nat, s.a = j := ⟨s.a.toNat, by omega⟩
              have EQ : Hid (formB ins s = (ins.getD j 0 == s.len)) := by show _ = _; rw [eq, u0, ui, hj]; rfl
              subst ea
              rw [hj] at c d4 u2
              rw [Int.toNat_natCast] at c
              generalize ins.getD j 0 = y at c EQ
              have hu2 : j < n1 := by omega
              clear z1 z2 z3 z4 u1 ui hj eq
              go_wp2_with fail
              go_quiet (fail)
              go_wp2
              go_ret
              exact ⟨by rw [EQ.out]; rfl, Kept.trans R3.out (kept_drewN 0 0 _ _)⟩
            · have EQ : Hid (formB ins s = false) := by show _ = _; rw [eq, show idxB s.a n1 = false from decide_eq_false (fun c => u2 c.2)]; simp
              have u2' : decide (s.a < n1) = false := decide_eq_false u2
              have u1' : decide (0 ≤ s.a) = true := decide_eq_true u1
              clear eq
              go_wp2_with fail
              go_quiet (fail)
              go_wp2
              go_ret
              exact ⟨by rw [EQ.out]; rfl, Kept.trans R3.out (kept_drewN 0 0 _ _)⟩
          · have EQ : Hid (formB ins s = false) := by show _ = _; rw [eq, show idxB s.a n1 = false from decide_eq_false (fun c => u1 c.1)]; simp
            have u1' : decide (0 ≤ s.a) = false := decide_eq_false u1
            clear eq
            go_wp2_with fail
            go_quiet (fail)
            go_wp2
            go_ret
            exact ⟨by rw [EQ.out]; rfl, Kept.trans R3.out (kept_drewN 0 0 _ _)⟩
      · have t0 : (s.op == 0) = false := beq_eq_false_iff_ne.2 h0
        by_cases h1 : s.op = 1
        · have t1 : (s.op == 1) = true := beq_iff_eq.2 h1
          have eq : formB ins s = (s.n == 0) := by
            rw [HQ.out, if_neg h0, h1]
            show (!(true && !(s.n == 0)) && true) = _
            generalize (s.n == 0) = b
            cases b <;> rfl
          have EQ : Hid _ := eq
          clear eq HQ
          go_wp2
          go_ret
          exact ⟨by rw [EQ.out]; rfl, R3.out⟩
        · have t1 : (s.op == 1) = false := beq_eq_false_iff_ne.2 h1
          have hcp : 0 < cnt s.op := by
            rcases (by omega : s.op = 2 ∨ s.op = 3 ∨ s.op = 4 ∨ s.op = 5 ∨ s.op = 6 ∨ s.op = 7 ∨ s.op = 8 ∨ s.op = 9 ∨ s.op = 10 ∨ s.op = 11 ∨ s.op = 12 ∨ s.op = 13) with e | e | e | e | e | e | e | e | e | e | e | e <;> rw [e] <;> decide
          have eq : formB ins s = shapeB s.op s.len s.c ([s.n, s.len, s.len].take (cnt s.op)) := by
            rw [HQ.out, if_neg h0, decide_eq_false (by omega)]; simp
          clear HQ
          by_cases hn : 0 ≤ s.n
          · have HL : Hid _ := l1fits wr s.op s.len 0 0 s.c 0 s.n.toNat s.len.toNat s.len.toNat
            rw [Int.toNat_of_nonneg hn, Int.toNat_of_nonneg (by omega)] at HL
            have ef : fitB s.op s.len s.c s.n.toNat s.len.toNat s.len.toNat = shapeB s.op s.len s.c ([s.n, s.len, s.len].take (cnt s.op)) := by
              unfold fitB
              rw [HLB.out, Int.toNat_of_nonneg hn, Int.toNat_of_nonneg (by omega), Bool.true_and]
            rw [ef, ← eq] at HL
            clear ef eq
            go_wp2_with fail
            refine Calls.mono HL.out ?_
            rintro e w2 ⟨rfl, rfl⟩
            go_wp2
            go_ret
            exact ⟨rfl, Kept.trans R3.out (kept_alloc 0 0 _ _)⟩
          · have HL : Hid _ := fits_neg wr s.op s.len 0 0 s.c s.n s.len s.len 0 (by omega) g1 g2 g3 (by omega)
            have ef : shapeB s.op s.len s.c ([s.n, s.len, s.len].take (cnt s.op)) = false := by
              cases hb : shapeB s.op s.len s.c ([s.n, s.len, s.len].take (cnt s.op))
              · rfl
              · have hf : formB ins s = true := by rw [eq]; exact hb
                have := form_n hf hcp
                omega
            have EQ : Hid (formB ins s = false) := by show _ = _; rw [eq, ef]
            clear ef eq
            go_wp2_with fail
            refine Calls.mono HL.out ?_
            rintro e w2 ⟨rfl, rfl⟩
            go_wp2
            go_ret
            exact ⟨by rw [EQ.out]; rfl, Kept.trans R3.out (kept_alloc 0 0 _ _)⟩
theorem l5form (w : World) (lo hi : Nat) (a1 a2 a3 : Option Addr) (n1 c1 n2 c2 n3 c3 : Nat) (pk : Int) (s : Ste) (ins : List Int) (f : IS w lo hi a1 n1 ins) :
    Calls Try.prog 107 #[cagg a1 n1 c1 a2 n2 c2 a3 n3 c3 pk, s.agg] w fun e w' => e = .returned (.bool (formB ins s)) ∧ Kept 0 0 w w' := by
  by_cases h : 0 ≤ s.op ∧ s.op ≤ 13 ∧ 1 ≤ s.len ∧ s.len ≤ 1000
  · exact l5form_in w lo hi a1 a2 a3 n1 c1 n2 c2 n3 c3 pk s ins f h.1 h.2.1 h.2.2.1 h.2.2.2
  · rw [form_bad h]
    exact l5form_bad w a1 a2 a3 n1 c1 n2 c2 n3 c3 pk s h
end Go.Proofs.Ytdkjdlimcnddkaa

namespace Go.Proofs.Ytdkjdlimcnddkaa
open Go.RowKit Flt
attribute [local go_sem] alloc_drewN setCell_drewN run_store_float

/-- The first n steps lie where they may. -/
def Lie (ss : List Ste) (n : Nat) : Prop := ∀ k, k < n → 0 ≤ (ss.getD k Ste.zero).dst ∧ (ss.getD k Ste.zero).dst ≤ 50000 ∧ 1 ≤ (ss.getD k Ste.zero).len ∧ (ss.getD k Ste.zero).len ≤ 1000
theorem wrote_false {ss : List Ste} {n : Nat} {c : Int} (hn : n ≤ ss.length) (h : ∀ k, k < n → ¬ ((ss.getD k Ste.zero).dst ≤ c ∧ c < (ss.getD k Ste.zero).dst + (ss.getD k Ste.zero).len)) : wroteB ss n c = false := by
  induction n with
  | zero => exact wrote_zero ss c
  | succ n ih =>
    rw [wrote_succ (by omega), ih (by omega) (fun k hk => h k (by omega)), decide_eq_false (h n (by omega))]; rfl

set_option maxRecDepth 100000 in
set_option maxHeartbeats 4000000 in
theorem l5wrote (w : World) (lo hi : Nat) (a1 a2 a3 : Option Addr) (n1 c1 n2 c2 n3 c3 : Nat) (pk : Int) (ss : List Ste) (f : TS w lo hi a2 n2 ss) (n : Nat) (hn : n ≤ n2) (hn2 : n2 ≤ 1048576) (hb : Lie ss n) (cell : Int) :
    Calls Try.prog 145 #[cagg a1 n1 c1 a2 n2 c2 a3 n3 c3 pk, .int .i64 (n : Int), .int .i64 cell] w fun e w' => e = .returned (.bool (wroteB ss n cell)) ∧ Kept 0 0 w w' := by
  have hK := kept_alloc 0 0 w (cbox a1 n1 c1 a2 n2 c2 a3 n3 c3 pk)
  have HB : Hid _ := c0_start w (.slice a1 n1 c1) (.slice a2 n2 c2) (.slice a3 n3 c3) (.int .i64 pk)
  have HF : Hid _ := f.keep hK (.inr (.inr (Nat.le_refl _)))
  have HL : Hid _ := hb
  have HN : Hid (ss.length = n2) := f.len
  have HK : Hid _ := hK
  clear hK f hb
  go_enter Try.func145, Try.ntmps145
  go_wp2_with fail
  generalize w.alloc (cbox a1 n1 c1 a2 n2 c2 a3 n3 c3 pk) = w1 at HB HK HF ⊢
  go_loopw [7] (fun i W => ∃ k : Nat, k ≤ n ∧ i = .int .i64 k ∧ Hid (∀ j, j < k → ¬ ((ss.getD j Ste.zero).dst ≤ cell ∧ cell < (ss.getD j Ste.zero).dst + (ss.getD j Ste.zero).len)) ∧ Hid (Kept 0 0 w1 W)) (fun i _ => n - (intOf i).toNat)
  case atStart => exact ⟨0, Nat.zero_le _, rfl, fun j hj => by omega, Kept.refl _ _ _⟩
  case round =>
    obtain ⟨k, hk, rfl, hA, hW⟩ := hrel
    obtain ⟨_, q0, q1, q2, q3⟩ := HB.out.keep hW.out
    by_cases hlt : k < n
    · rcases HF.out.at_ with z0 | ⟨ga, oa, ea, z1, z2, z3, z4⟩
      · omega
      have hat := (z4 k (by omega)).keep z3 hW.out (.inr (.inr (Nat.le_refl _)))
      have hl := HL.out k hlt
      have HA2 : Hid (¬ ((ss.getD k Ste.zero).dst ≤ cell ∧ cell < (ss.getD k Ste.zero).dst + (ss.getD k Ste.zero).len) → ∀ j, j < k + 1 → ¬ ((ss.getD j Ste.zero).dst ≤ cell ∧ cell < (ss.getD j Ste.zero).dst + (ss.getD j Ste.zero).len)) := fun h j hj => by
        by_cases e : j < k
        · exact hA.out j e
        · rw [show j = k by omega]; exact h
      have HT : Hid ((ss.getD k Ste.zero).dst ≤ cell ∧ cell < (ss.getD k Ste.zero).dst + (ss.getD k Ste.zero).len → wroteB ss n cell = true) := fun h => wrote_true hlt (by rw [HN.out]; exact hn) h
      subst ea
      clear z1 z2 z3 z4 hA
      generalize ss.getD k Ste.zero = s at hat hl HA2 HT
      obtain ⟨d0, d1, d2, d3, d4, d5, d6, d7⟩ := hat
      have hwr : IntKind.i64.wrap (s.dst + s.len) = s.dst + s.len := by rw [IntKind.wrap_i64]; omega
      have hkn : k < n2 := by omega
      by_cases u : s.dst ≤ cell
      · by_cases u2 : cell < s.dst + s.len
        · have R : Hid _ := HT.out ⟨u, u2⟩
          have R2 : Hid _ := Kept.trans HK.out hW.out
          clear HT HA2 hW hl
          go_wp2_with fail
          go_quiet (fail)
          go_wp2
          go_ret
          exact ⟨by rw [R.out]; rfl, Kept.trans R2.out (kept_drewN 0 0 _ _)⟩
        · have R : Hid _ := HA2.out (fun c => u2 c.2)
          have u2' : decide (cell < s.dst + s.len) = false := decide_eq_false u2
          clear HT HA2 hl
          go_wp2_with fail
          go_quiet (fail)
          go_wp2
          go_roundw
          case rel => exact ⟨k + 1, by omega, by go_num, R, Kept.trans hW.out (kept_drewN 0 0 _ _)⟩
          case measure => simp [intOf]; omega
      · have R : Hid _ := HA2.out (fun c => u c.1)
        have u' : decide (s.dst ≤ cell) = false := decide_eq_false u
        clear HT HA2 hl
        go_wp2_with fail
        go_quiet (fail)
        go_wp2
        go_roundw
        case rel => exact ⟨k + 1, by omega, by go_num, R, Kept.trans hW.out (kept_drewN 0 0 _ _)⟩
        case measure => simp [intOf]; omega
    · have R : Hid (wroteB ss n cell = false) := by
        have := hA.out
        rw [show k = n by omega] at this
        exact wrote_false (by rw [HN.out]; exact hn) this
      have R2 : Hid _ := Kept.trans HK.out hW.out
      clear hA hW
      go_wp2
      go_ret
      exact ⟨by rw [R.out]; rfl, R2.out⟩

theorem hold_out {ss : List Ste} {n : Nat} {peak off len : Int} (h : withB off len peak = false) : holdB ss n peak off len = false := by
  unfold holdB; rw [h]; rfl
set_option maxRecDepth 100000 in
set_option maxHeartbeats 4000000 in
theorem l5span_bad (w : World) (a1 a2 a3 : Option Addr) (n1 c1 n2 c2 n3 c3 : Nat) (pk : Int) (p0 : 0 ≤ pk) (p1 : pk ≤ 50000) (n : Nat) (off size : Int) (h : ¬ (1 ≤ size ∧ size ≤ 1000 ∧ 0 ≤ off ∧ off ≤ pk - size)) :
    Calls Try.prog 110 #[cagg a1 n1 c1 a2 n2 c2 a3 n3 c3 pk, .int .i64 (n : Int), .int .i64 off, .int .i64 size] w fun e w' => e = .returned (.bool false) ∧ Kept 0 0 w w' := by
  have hK := kept_alloc 0 0 w (cbox a1 n1 c1 a2 n2 c2 a3 n3 c3 pk)
  by_cases a0 : size < 1
  · go_enter Try.func110, Try.ntmps110
    go_wp2
    go_ret
    exact ⟨rfl, hK⟩
  · have b0 : decide (size < 1) = false := decide_eq_false a0
    by_cases a1 : 1000 < size
    · go_enter Try.func110, Try.ntmps110
      go_wp2
      go_ret
      exact ⟨rfl, hK⟩
    · have b1 : decide (1000 < size) = false := decide_eq_false a1
      by_cases a2 : off < 0
      · go_enter Try.func110, Try.ntmps110
        go_wp2
        go_ret
        exact ⟨rfl, hK⟩
      · have b2 : decide (off < 0) = false := decide_eq_false a2
        have a3 : pk - size < off := by omega
        have hwr : IntKind.i64.wrap (pk - size) = pk - size := by rw [IntKind.wrap_i64]; omega
        go_enter Try.func110, Try.ntmps110
        go_wp2
        go_ret
        exact ⟨rfl, hK⟩
set_option maxRecDepth 100000 in
set_option maxHeartbeats 4000000 in
theorem l5span_in (w : World) (lo hi : Nat) (a1 a2 a3 : Option Addr) (n1 c1 n2 c2 n3 c3 : Nat) (pk : Int) (p0 : 0 ≤ pk) (p1 : pk ≤ 50000) (ss : List Ste) (f : TS w lo hi a2 n2 ss) (n : Nat) (hn : n ≤ n2) (hn2 : n2 ≤ 1048576) (hb : Lie ss n) (off : Int) (size : Nat) (h1 : 1 ≤ size) (h2 : size ≤ 1000) (h3 : 0 ≤ off) (h4 : off ≤ pk - size) :
    Calls Try.prog 110 #[cagg a1 n1 c1 a2 n2 c2 a3 n3 c3 pk, .int .i64 (n : Int), .int .i64 off, .int .i64 (size : Int)] w fun e w' => e = .returned (.bool ((List.range size).all fun j => wroteB ss n (off + (j : Nat)))) ∧ Kept 0 0 w w' := by
  have hK := kept_alloc 0 0 w (cbox a1 n1 c1 a2 n2 c2 a3 n3 c3 pk)
  have HB : Hid _ := c0_start w (.slice a1 n1 c1) (.slice a2 n2 c2) (.slice a3 n3 c3) (.int .i64 pk)
  have HF : Hid _ := f.keep hK (.inr (.inr (Nat.le_refl _)))
  have HL : Hid _ := hb
  have HK : Hid _ := hK
  have hwr : IntKind.i64.wrap (pk - size) = pk - size := by rw [IntKind.wrap_i64]; omega
  have b0 : decide ((size : Int) < 1) = false := decide_eq_false (by omega)
  have b1 : decide (1000 < (size : Int)) = false := decide_eq_false (by omega)
  have b2 : decide (off < 0) = false := decide_eq_false (by omega)
  have b3 : decide (pk - size < off) = false := decide_eq_false (by omega)
  clear hK f hb
  go_enter Try.func110, Try.ntmps110
  go_wp2_with fail
  clear b0 b1 b2 b3 hwr
  generalize w.alloc (cbox a1 n1 c1 a2 n2 c2 a3 n3 c3 pk) = w1 at HB HK HF ⊢
  go_loopw [9] (fun i W => ∃ k : Nat, k ≤ size ∧ i = .int .i64 k ∧ Hid ((List.range k).all (fun j => wroteB ss n (off + (j : Nat))) = true) ∧ Hid (Kept 0 0 w1 W)) (fun i _ => size - (intOf i).toNat)
  case atStart => exact ⟨0, Nat.zero_le _, rfl, rfl, Kept.refl _ _ _⟩
  case round =>
    obtain ⟨k, hk, rfl, hA, hW⟩ := hrel
    obtain ⟨_, q0, q1, q2, q3⟩ := HB.out.keep hW.out
    by_cases hlt : k < size
    · have HX : Hid _ := l5wrote wr lo hi a1 a2 a3 n1 c1 n2 c2 n3 c3 pk ss (HF.out.keep hW.out (.inr (.inr (Nat.le_refl _)))) n hn hn2 HL.out (off + (k : Nat))
      have hwr : IntKind.i64.wrap (off + (k : Nat)) = off + (k : Nat) := by rw [IntKind.wrap_i64]; omega
      cases t : wroteB ss n (off + (k : Nat))
      · have R : Hid ((List.range size).all (fun j => wroteB ss n (off + (j : Nat))) = false) := range_bad (p := fun j => wroteB ss n (off + (j : Nat))) hlt t
        rw [t] at HX
        go_wp2_with fail
        refine Calls.mono HX.out ?_
        rintro e w2 ⟨rfl, hk2⟩
        have R2 : Hid _ := Kept.trans HK.out (Kept.trans hW.out hk2)
        clear hk2 HX hA hW q0 q1 q2 q3
        go_wp2
        go_ret
        exact ⟨by rw [R.out]; rfl, R2.out⟩
      · have R : Hid _ := range_snoc (p := fun j => wroteB ss n (off + (j : Nat))) hA.out t
        rw [t] at HX
        go_wp2_with fail
        refine Calls.mono HX.out ?_
        rintro e w2 ⟨rfl, hk2⟩
        have R2 : Hid _ := Kept.trans hW.out hk2
        clear hk2 HX hA hW q0 q1 q2 q3
        go_wp2
        go_roundw
        case rel => exact ⟨k + 1, by omega, by go_num, R, R2⟩
        case measure => simp [intOf]; omega
    · have R : Hid ((List.range size).all (fun j => wroteB ss n (off + (j : Nat))) = true) := by
        have := hA.out
        rw [show k = size by omega] at this
        exact this
      have R2 : Hid _ := Kept.trans HK.out hW.out
      clear hA hW
      go_wp2
      go_ret
      exact ⟨by rw [R.out]; rfl, R2.out⟩
theorem l5span (w : World) (lo hi : Nat) (a1 a2 a3 : Option Addr) (n1 c1 n2 c2 n3 c3 : Nat) (pk : Int) (p0 : 0 ≤ pk) (p1 : pk ≤ 50000) (ss : List Ste) (f : TS w lo hi a2 n2 ss) (n : Nat) (hn : n ≤ n2) (hn2 : n2 ≤ 1048576) (hb : Lie ss n) (off size : Int) :
    Calls Try.prog 110 #[cagg a1 n1 c1 a2 n2 c2 a3 n3 c3 pk, .int .i64 (n : Int), .int .i64 off, .int .i64 size] w fun e w' => e = .returned (.bool (lenB size && holdB ss n pk off size)) ∧ Kept 0 0 w w' := by
  by_cases h : 1 ≤ size ∧ size ≤ 1000 ∧ 0 ≤ off ∧ off ≤ pk - size
  · obtain ⟨h1, h2, h3, h4⟩ := h
    obtain ⟨m, rfl⟩ := Int.eq_ofNat_of_zero_le (by omega : 0 ≤ size)
    have e : (lenB (m : Int) && holdB ss n pk off (m : Int)) = ((List.range m).all fun j => wroteB ss n (off + (j : Nat))) := by
      unfold holdB withB
      rw [lenB_true h1 h2, decide_eq_true ⟨h3, h4⟩, Int.toNat_natCast]; rfl
    rw [e]
    exact l5span_in w lo hi a1 a2 a3 n1 c1 n2 c2 n3 c3 pk p0 p1 ss f n hn hn2 hb off m (by omega) (by omega) h3 h4
  · have e : (lenB size && holdB ss n pk off size) = false := by
      by_cases hl : 1 ≤ size ∧ size ≤ 1000
      · rw [hold_out (decide_eq_false (fun c => h ⟨hl.1, hl.2, c.1, c.2⟩)), Bool.and_false]
      · rw [lenB_false hl]; rfl
    rw [e]
    exact l5span_bad w a1 a2 a3 n1 c1 n2 c2 n3 c3 pk p0 p1 n off size h
end Go.Proofs.Ytdkjdlimcnddkaa
