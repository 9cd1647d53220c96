import Derived.Test.YtcphabjekfihnaaV06
import Derived.Deep.RegionWith
namespace Go.Proofs.Ytcphabjekfihnaa
open Go.RowKit Flt
attribute [local go_sem] alloc_drewN setCell_drewN run_store_float

theorem ver_lim {ins : List Int} {ss : List Ste} {os : List Spn} {pk : Int} (h : limC ins ss.length os.length pk = false) : verM ins ss os pk = false := by
  unfold verM; rw [h]; rfl
theorem ver_step {ins : List Int} {ss : List Ste} {os : List Spn} {pk : Int} {i : Nat} (hi : i < ss.length) (h : stepB ins ss pk i = false) : verM ins ss os pk = false := by
  unfold verM; rw [range_bad hi h]; simp
theorem all_badS {os : List Spn} {q : Spn → Bool} {k : Nat} (hk : k < os.length) (t : q (os.getD k Spn.zero) = false) : os.all q = false := by
  rw [List.all_eq_false]
  rw [List.getD_eq_getElem?_getD, List.getElem?_eq_getElem hk] at t
  exact ⟨os[k], List.getElem_mem _, by simpa using t⟩
theorem all_snocS {os : List Spn} {q : Spn → Bool} {k : Nat} (hk : k < os.length) (h : (os.take k).all q = true) (t : q (os.getD k Spn.zero) = true) : (os.take (k + 1)).all q = true := by
  rw [List.take_succ_eq_append_getElem hk, List.all_append, h]
  rw [List.getD_eq_getElem?_getD, List.getElem?_eq_getElem hk] at t
  simpa using t
theorem ver_out {ins : List Int} {ss : List Ste} {os : List Spn} {pk : Int} {i : Nat} (hi : i < os.length) (h : outB ss pk (os.getD i Spn.zero) = false) : verM ins ss os pk = false := by
  unfold verM; rw [all_badS hi h]; simp

set_option maxRecDepth 100000 in
set_option maxHeartbeats 4000000 in
theorem specVer_lim (w : World) (lo hi : Nat) (a1 a2 a3 : Option Addr) (n1 c1 n2 c2 n3 c3 : Nat) (pk : Int) (ins : List Int) (f : IS w lo hi a1 n1 ins) (h : limC ins n2 n3 pk = false) :
    Calls Try.prog 56 #[cagg a1 n1 c1 a2 n2 c2 a3 n3 c3 pk] w fun e w' => e = .returned (.bool false) ∧ Kept 0 0 w w' := by
  have hK := kept_alloc 0 0 w (cbox a1 n1 c1 a2 n2 c2 a3 n3 c3 pk)
  have HX : Hid _ := l1insOK (w.alloc (cbox a1 n1 c1 a2 n2 c2 a3 n3 c3 pk)) lo hi a1 n1 c1 ins (f.keep hK (.inr (.inr (Nat.le_refl _))))
  have hl := f.len
  unfold limC at h
  rw [hl] at h
  clear f
  have HB : Hid _ := c0_start w (.slice a1 n1 c1) (.slice a2 n2 c2) (.slice a3 n3 c3) (.int .i64 pk)
  have HK : Hid _ := hK
  clear hK
  cases t : (decide (n1 ≤ 20) && ins.all lenB)
  · rw [t] at HX
    go_enter Try.func56, Try.ntmps56
    go_wp2_with fail
    refine Calls.mono HX.out ?_
    rintro e w2 ⟨rfl, hk2⟩
    go_wp2
    go_ret
    exact ⟨rfl, Kept.trans HK.out hk2⟩
  · rw [t] at HX
    have t1 : decide (n1 ≤ 20) = true ∧ ins.all lenB = true := by simpa using t
    rw [t1.1, t1.2] at h
    go_enter Try.func56, Try.ntmps56
    go_wp2_with fail
    refine Calls.mono HX.out ?_
    rintro e w2 ⟨rfl, hk2⟩
    obtain ⟨_, q0, q1, q2, q3⟩ := HB.out.keep hk2
    have R : Hid _ := Kept.trans HK.out hk2
    by_cases g2 : n2 ≤ 2000
    · by_cases g3 : n3 ≤ 50
      · rw [decide_eq_true g2, decide_eq_true g3] at h
        have h' : ¬ (0 ≤ pk ∧ pk ≤ 50000) := of_decide_eq_false (by simpa using h)
        clear h hk2 HX t t1
        have b2 : decide ((2000 : Int) < (n2 : Int)) = false := decide_eq_false (by omega)
        have b3 : decide ((50 : Int) < (n3 : Int)) = false := decide_eq_false (by omega)
        by_cases g4 : pk < 0
        · go_wp2
          go_ret
          exact ⟨rfl, R.out⟩
        · have g4' : decide (pk < 0) = false := decide_eq_false g4
          have g5 : 50000 < pk := by omega
          go_wp2
          go_ret
          exact ⟨rfl, R.out⟩
      · clear h hk2 HX t t1
        have b2 : decide ((2000 : Int) < (n2 : Int)) = false := decide_eq_false (by omega)
        have b3 : decide ((50 : Int) < (n3 : Int)) = true := decide_eq_true (by omega)
        go_wp2
        go_ret
        exact ⟨rfl, R.out⟩
    · clear h hk2 HX t t1
      have b2 : decide ((2000 : Int) < (n2 : Int)) = true := decide_eq_true (by omega)
      go_wp2
      go_ret
      exact ⟨rfl, R.out⟩

/-- Operand k of a step, as the model looks at it. -/
theorem takeB_at {ss : List Ste} {i : Nat} {pk : Int} {s : Ste} {k : Nat} (hk : k < cnt s.op) (v : Bool) (h : (holdB ss i pk (fldS s k) (lenT s k) && !decide (s.dst < fldS s k + lenT s k ∧ fldS s k < s.dst + s.len)) = v) : ∃ p, (spansOf s)[k]? = some p ∧ takeB ss i pk s p = v := by
  obtain ⟨p, h1, h2, h3⟩ := spansOf_at hk
  refine ⟨p, h1, ?_⟩
  unfold takeB meetB
  rw [h2, h3]
  exact h
theorem spans_bad {q : Spn → Bool} {s : Ste} {k : Nat} {p : Spn} (h : (spansOf s)[k]? = some p) (t : q p = false) : (spansOf s).all q = false := by
  rw [List.all_eq_false]
  exact ⟨p, List.mem_of_getElem? h, by simpa using t⟩
theorem spans_snoc {q : Spn → Bool} {s : Ste} {k : Nat} {p : Spn} (h : (spansOf s)[k]? = some p) (t : q p = true) (hA : ((spansOf s).take k).all q = true) : ((spansOf s).take (k + 1)).all q = true := by
  obtain ⟨hk, e⟩ := List.getElem?_eq_some_iff.1 h
  rw [List.take_succ_eq_append_getElem hk, List.all_append, hA, e]
  simpa using t
theorem lie_of {ins : List Int} {ss : List Ste} {pk : Int} {n : Nat} (hp : pk ≤ 50000) (h : (List.range n).all (stepB ins ss pk) = true) : Lie ss n := fun k hk => by
  have := step_bounds hp h k hk
  omega
theorem form_lenS {ins : List Int} {s : Ste} (h : formB ins s = true) {k : Nat} (hk : k < cnt s.op) : 1 ≤ lenT s k ∧ lenT s k ≤ 1000 := by
  unfold lenT
  split
  · exact form_n h (by omega)
  · exact form_len h
theorem hold_off {ss : List Ste} {n : Nat} {pk off len : Int} (h : holdB ss n pk off len = true) : 0 ≤ off ∧ off ≤ pk - len := by
  unfold holdB withB at h
  rw [Bool.and_eq_true] at h
  exact of_decide_eq_true h.1

set_option maxRecDepth 100000 in
set_option maxHeartbeats 16000000 in
theorem specVer_in (w : World) (a1 a2 a3 : Option Addr) (n1 c1 n2 c2 n3 c3 : Nat) (pk : Int) (ins : List Int) (ss : List Ste) (os : List Spn) (f : CS w a1 n1 a2 n2 a3 n3 ins ss os) (h : limC ins n2 n3 pk = true) :
    Calls Try.prog 56 #[cagg a1 n1 c1 a2 n2 c2 a3 n3 c3 pk] w fun e w' => e = .returned (.bool (verM ins ss os pk)) ∧ Kept 0 0 w w' := by
  have hK := kept_alloc 0 0 w (cbox a1 n1 c1 a2 n2 c2 a3 n3 c3 pk)
  have f' := f.keep hK
  have HX : Hid _ := l1insOK (w.alloc (cbox a1 n1 c1 a2 n2 c2 a3 n3 c3 pk)) _ _ a1 n1 c1 ins f'.i
  have h' := h
  unfold limC at h'
  rw [f.i.len] at h'
  simp only [Bool.and_eq_true, decide_eq_true_eq] at h'
  obtain ⟨⟨⟨⟨l1, l2⟩, l3⟩, l4⟩, p0, p1⟩ := h'
  rw [l4, decide_eq_true l1] at HX
  have HM : Hid (limC ins ss.length os.length pk = true) := by rw [f.s.len, f.o.len]; exact h
  have HN : Hid (ss.length = n2 ∧ os.length = n3) := ⟨f.s.len, f.o.len⟩
  have HF : Hid _ := f'
  have HB : Hid _ := c0_start w (.slice a1 n1 c1) (.slice a2 n2 c2) (.slice a3 n3 c3) (.int .i64 pk)
  have HK : Hid _ := hK
  have b2 : decide ((2000 : Int) < (n2 : Int)) = false := decide_eq_false (by omega)
  have b3 : decide ((50 : Int) < (n3 : Int)) = false := decide_eq_false (by omega)
  have g4 : decide (pk < 0) = false := decide_eq_false (by omega)
  have g5 : decide (50000 < pk) = false := decide_eq_false (by omega)
  clear hK f f' h l4
  go_enter Try.func56, Try.ntmps56
  go_wp2_with fail
  refine Calls.mono HX.out ?_
  rintro e w2 ⟨rfl, hk2⟩
  replace HF : Hid _ := HF.out.keep hk2
  replace HB : Hid _ := HB.out.keep hk2
  replace HK : Hid _ := Kept.trans HK.out hk2
  clear hk2 HX
  obtain ⟨_, q0, q1, q2, q3⟩ := HB.out
  go_wp2_with fail
  clear q0 q1 q2 q3 b2 b3 g4 g5
  go_loopw [3] (fun i W => ∃ k : Nat, k ≤ n2 ∧ i = .int .i64 k ∧ Hid ((List.range k).all (stepB ins ss pk) = true) ∧ Hid (Kept 0 0 w2 W)) (fun i _ => n2 - (intOf i).toNat)
  case atStart => exact ⟨0, Nat.zero_le _, rfl, rfl, Kept.refl _ _ _⟩
  case round =>
    obtain ⟨k, hk, rfl, hA, hW⟩ := hrel
    obtain ⟨_, q0, q1, q2, q3⟩ := HB.out.keep hW.out
    have HFW : Hid _ := HF.out.keep hW.out
    by_cases hlt : k < n2
    · rcases HFW.out.s.at_ with z0 | ⟨ga, oa, ea, z1, z2, z3, z4⟩
      · omega
      have HLie : Hid _ := lie_of p1 hA.out
      have HS0 : Hid (stepB ins ss pk k = (formB ins (ss.getD k Ste.zero) && (withB (ss.getD k Ste.zero).dst (ss.getD k Ste.zero).len pk && (spansOf (ss.getD k Ste.zero)).all (takeB ss k pk (ss.getD k Ste.zero))))) := rfl
      have hat := z4 k hlt
      have ka := kept_alloc 0 0 wr (ss.getD k Ste.zero).box
      have HS1 : Hid _ := ste_box wr (ss.getD k Ste.zero)
      generalize ss.getD k Ste.zero = s at hat HS0 HS1 ka
      subst ea
      obtain ⟨d0, d1, d2, d3, d4, d5, d6, d7⟩ := hat
      clear z1 z2 z3 z4
      have HB3 : Hid (C0 (wr.alloc s.box) w.heap.size _ _ _ _) := (HB.out.keep hW.out).keep ka
      have HF3 : Hid _ := HFW.out.keep ka
      have HK3 : Hid _ := Kept.trans hW.out ka
      have hP : wr.heap.size < (wr.alloc s.box).heap.size := by simp
      have hP0 : w.heap.size < wr.heap.size := Nat.lt_of_lt_of_le HB.out.sz hW.out.size
      go_wp2_with fail
      clear d0 d1 d2 d3 d4 d5 d6 d7 q0 q1 q2 q3
      generalize hP9 : wr.heap.size = P at HS1 hP hP0 ⊢
      generalize wr.alloc s.box = w3 at HS1 HB3 HF3 HK3 hP ka ⊢
      clear HFW hP9 hW ka
      refine Calls.mono (l5form w3 _ _ a1 _ a3 n1 c1 n2 c2 n3 c3 pk s ins HF3.out.i) ?_
      rintro e w4 ⟨rfl, hk4⟩
      have HB4 : Hid _ := HB3.out.keep hk4
      have HF4 : Hid _ := HF3.out.keep hk4
      have HS4 : Hid _ := HS1.out.keep hP hk4 (.inr (.inr (Nat.le_refl _)))
      have HK4 : Hid _ := Kept.trans HK3.out hk4
      have hP4 : P < w4.heap.size := Nat.lt_of_lt_of_le hP hk4.size
      clear HB3 HF3 HS1 HK3 hk4 hP
      obtain ⟨_, q0, q1, q2, q3⟩ := HB4.out
      obtain ⟨d0, d1, d2, d3, d4, d5, d6, d7⟩ := HS4.out
      simp only [Nat.zero_add] at d1 d2 d3 d4 d5 d6 d7
      cases tf : formB ins s
      · have R : Hid (verM ins ss os pk = false) := ver_step (by rw [HN.out.1]; exact hlt) (by rw [HS0.out, tf]; rfl)
        have R2 : Hid _ := Kept.trans HK.out HK4.out
        go_wp2
        go_ret
        exact ⟨by rw [R.out]; rfl, R2.out⟩
      · have hfl := form_len tf
        have hwr : IntKind.i64.wrap (pk - s.len) = pk - s.len := by rw [IntKind.wrap_i64]; omega
        by_cases u1 : s.dst < 0
        · have R : Hid (verM ins ss os pk = false) := ver_step (by rw [HN.out.1]; exact hlt) (by rw [HS0.out, tf, show withB s.dst s.len pk = false from decide_eq_false (by omega)]; rfl)
          have R2 : Hid _ := Kept.trans HK.out HK4.out
          go_wp2
          go_ret
          exact ⟨by rw [R.out]; rfl, R2.out⟩
        by_cases u2 : pk - s.len < s.dst
        · have R : Hid (verM ins ss os pk = false) := ver_step (by rw [HN.out.1]; exact hlt) (by rw [HS0.out, tf, show withB s.dst s.len pk = false from decide_eq_false (by omega)]; rfl)
          have R2 : Hid _ := Kept.trans HK.out HK4.out
          have u1' : decide (s.dst < 0) = false := decide_eq_false u1
          go_wp2
          go_ret
          exact ⟨by rw [R.out]; rfl, R2.out⟩
        have u1' : decide (s.dst < 0) = false := decide_eq_false u1
        have u2' : decide (pk - s.len < s.dst) = false := decide_eq_false u2
        have HS0' : Hid (stepB ins ss pk k = (spansOf s).all (takeB ss k pk s)) := by
          show _ = _
          rw [HS0.out, tf, show withB s.dst s.len pk = true from decide_eq_true (by omega)]; rfl
        have hop := form_op tf
        have HO : Hid (∀ w, Calls Try.prog 79 #[.int .i64 s.op] w fun e w' => e = .returned (.int .i64 (cnt s.op : Nat)) ∧ w' = w) := fun w => by
          have := l1operands s.op w hop.1 hop.2
          rw [ops13 hop.1 hop.2] at this
          exact this
        have hc3 := cnt_le s.op
        go_wp2_with fail
        clear d0 d1 d2 d3 d4 d5 d6 d7 q0 q1 q2 q3 HS0 u1' u2' hwr
        go_loopw [5] (fun x W => ∃ q : Nat, q ≤ cnt s.op ∧ x = .int .i64 q ∧ Hid (((spansOf s).take q).all (takeB ss k pk s) = true) ∧ Hid (Kept 0 0 w4 W)) (fun x _ => 3 - (intOf x).toNat)
        case atStart => exact ⟨0, Nat.zero_le _, rfl, rfl, Kept.refl _ _ _⟩
        case round =>
          obtain ⟨q, hq, rfl, hQ, hV⟩ := hrel
          obtain ⟨_, q0, q1, q2, q3⟩ := HB4.out.keep hV.out
          obtain ⟨d0, d1, d2, d3, d4, d5, d6, d7⟩ := HS4.out.keep hP4 hV.out (.inr (.inr (Nat.le_refl _)))
          simp only [Nat.zero_add] at d1 d2 d3 d4 d5 d6 d7
          by_cases hqc : q < cnt s.op
          · go_wp2_with (first | (go_at_call 79; refine (HO.out _).mono ?_; rintro e w5 ⟨rfl, rfl⟩) | fail)
            refine Calls.mono (l5field _ s q (by omega)) ?_
            rintro e w5 ⟨rfl, hk5⟩
            replace hV : Hid _ := Kept.trans hV.out hk5
            clear hk5 q0 q1 q2 q3 d0 d1 d2 d3 d4 d5 d6 d7
            obtain ⟨_, q0, q1, q2, q3⟩ := HB4.out.keep hV.out
            obtain ⟨d0, d1, d2, d3, d4, d5, d6, d7⟩ := HS4.out.keep hP4 hV.out (.inr (.inr (Nat.le_refl _)))
            simp only [Nat.zero_add] at d1 d2 d3 d4 d5 d6 d7
            go_wp2_with fail
            refine Calls.mono (l5olen _ s q (by omega)) ?_
            rintro e w6 ⟨rfl, hk6⟩
            replace hV : Hid _ := Kept.trans hV.out hk6
            clear hk6 q0 q1 q2 q3 d0 d1 d2 d3 d4 d5 d6 d7
            obtain ⟨_, q0, q1, q2, q3⟩ := HB4.out.keep hV.out
            obtain ⟨d0, d1, d2, d3, d4, d5, d6, d7⟩ := HS4.out.keep hP4 hV.out (.inr (.inr (Nat.le_refl _)))
            simp only [Nat.zero_add] at d1 d2 d3 d4 d5 d6 d7
            go_wp2_with fail
            refine Calls.mono (l5span _ _ _ a1 _ a3 n1 c1 n2 c2 n3 c3 pk p0 p1 ss (HF4.out.keep hV.out).s k (by omega) (by omega) HLie.out (fldS s q) (lenT s q)) ?_
            rintro e w7 ⟨rfl, hk7⟩
            replace hV : Hid _ := Kept.trans hV.out hk7
            clear hk7 q0 q1 q2 q3 d0 d1 d2 d3 d4 d5 d6 d7
            obtain ⟨_, q0, q1, q2, q3⟩ := HB4.out.keep hV.out
            obtain ⟨d0, d1, d2, d3, d4, d5, d6, d7⟩ := HS4.out.keep hP4 hV.out (.inr (.inr (Nat.le_refl _)))
            simp only [Nat.zero_add] at d1 d2 d3 d4 d5 d6 d7
            have hls := form_lenS tf hqc
            rw [lenB_true hls.1 hls.2, Bool.true_and]
            have HT : Hid (∀ v : Bool, (holdB ss k pk (fldS s q) (lenT s q) && !decide (s.dst < fldS s q + lenT s q ∧ fldS s q < s.dst + s.len)) = v → ∃ p, (spansOf s)[q]? = some p ∧ takeB ss k pk s p = v) := fun v h => takeB_at hqc v h
            cases th : holdB ss k pk (fldS s q) (lenT s q)
            · have R : Hid (verM ins ss os pk = false) := by
                obtain ⟨p, e1, e2⟩ := HT.out false (by rw [th]; rfl)
                exact ver_step (by rw [HN.out.1]; exact hlt) (by rw [HS0'.out]; exact spans_bad e1 e2)
              have R2 : Hid _ := Kept.trans HK.out (Kept.trans HK4.out hV.out)
              go_wp2
              go_ret
              exact ⟨by rw [R.out]; rfl, R2.out⟩
            · have hoo := hold_off th
              have hm : (s.dst < fldS s q + lenT s q ∧ fldS s q < s.dst + s.len) ∨ ¬ (s.dst < fldS s q + lenT s q ∧ fldS s q < s.dst + s.len) := Decidable.em _
              rw [th] at HT
              have R2 : Hid _ := Kept.trans HK.out (Kept.trans HK4.out hV.out)
              generalize fldS s q = x at hls hoo hm HT ⊢
              generalize lenT s q = y at hls hoo hm HT ⊢
              have hw1 : IntKind.i64.wrap (s.dst + s.len) = s.dst + s.len := by rw [IntKind.wrap_i64]; omega
              have hw2 : IntKind.i64.wrap (x + y) = x + y := by rw [IntKind.wrap_i64]; omega
              clear th
              rcases hm with hm | hm
              · have R : Hid (verM ins ss os pk = false) := by
                  obtain ⟨p, e1, e2⟩ := HT.out false (by rw [decide_eq_true hm]; rfl)
                  exact ver_step (by rw [HN.out.1]; exact hlt) (by rw [HS0'.out]; exact spans_bad e1 e2)
                have m1 : x < s.dst + s.len := hm.2
                have m2 : s.dst < x + y := hm.1
                clear hm HT
                go_wp2
                go_ret
                exact ⟨by rw [R.out]; rfl, R2.out⟩
              · have R : Hid (((spansOf s).take (q + 1)).all (takeB ss k pk s) = true) := by
                  obtain ⟨p, e1, e2⟩ := HT.out true (by rw [decide_eq_false hm]; rfl)
                  exact spans_snoc e1 e2 hQ.out
                by_cases m1 : x < s.dst + s.len
                · have m2 : decide (s.dst < x + y) = false := decide_eq_false (fun c => hm ⟨c, m1⟩)
                  clear hm HT
                  go_wp2
                  go_roundw
                  case rel => exact ⟨q + 1, by omega, by go_num, R, hV⟩
                  case measure => simp [intOf]; omega
                · have m2 : decide (x < s.dst + s.len) = false := decide_eq_false m1
                  clear hm HT
                  go_wp2
                  go_roundw
                  case rel => exact ⟨q + 1, by omega, by go_num, R, hV⟩
                  case measure => simp [intOf]; omega
          · have R : Hid _ := range_snoc hA.out (show stepB ins ss pk k = true by
              rw [HS0'.out]
              have := hQ.out
              rw [List.take_of_length_le (by rw [spans_len]; omega)] at this
              exact this)
            have R2 : Hid _ := Kept.trans HK4.out hV.out
            go_wp2_with (first | (go_at_call 79; refine (HO.out _).mono ?_; rintro e w5 ⟨rfl, rfl⟩) | fail)
            go_roundw
            case rel => exact ⟨k + 1, by omega, by go_num, R, R2⟩
            case measure => simp [intOf]; omega
    · have HA : Hid ((List.range n2).all (stepB ins ss pk) = true) := by
        have := hA.out
        rw [show k = n2 by omega] at this
        exact this
      have HLie : Hid _ := lie_of p1 HA.out
      clear hA
      go_wp2_with fail
      clear q0 q1 q2 q3
      go_loopw [8] (fun i W => ∃ k : Nat, k ≤ n3 ∧ i = .int .i64 k ∧ Hid ((os.take k).all (outB ss pk) = true) ∧ Hid (Kept 0 0 w2 W)) (fun i _ => n3 - (intOf i).toNat)
      case atStart => exact ⟨0, Nat.zero_le _, rfl, rfl, hW⟩
      case round =>
        rename_i wr0
        obtain ⟨j, hj, rfl, hO, hV⟩ := hrel
        obtain ⟨_, q0, q1, q2, q3⟩ := HB.out.keep hV.out
        by_cases hlt2 : j < n3
        · rcases (HF.out.keep hV.out).o.at_ with z0 | ⟨ga, oa, ea, z1, z2, z3, z4⟩
          · omega
          have hat := z4 j hlt2
          have HX : Hid (∀ m, Calls Try.prog 132 #[cagg a1 n1 c1 a2 n2 c2 a3 n3 c3 pk, .int .i64 (n2 : Int), .int .i64 (os.getD j Spn.zero).off, .int .i64 (os.getD j Spn.zero).len] (wr.drewN m) fun e w' => e = .returned (.bool (outB ss pk (os.getD j Spn.zero))) ∧ Kept 0 0 w2 w' ∧ Kept 0 0 wr w') := fun m => by
            have := l5span (wr.drewN m) _ _ a1 a2 a3 n1 c1 n2 c2 n3 c3 pk p0 p1 ss ((HF.out.keep hV.out).keep (kept_drewN 0 0 wr m)).s n2 (Nat.le_refl _) (by omega) HLie.out (os.getD j Spn.zero).off (os.getD j Spn.zero).len
            refine this.mono fun e w' h => ⟨?_, Kept.trans hV.out (Kept.trans (kept_drewN 0 0 wr m) h.2), Kept.trans (kept_drewN 0 0 wr m) h.2⟩
            rw [h.1]; unfold outB; rw [HN.out.1]
          subst ea
          cases tou : outB ss pk (os.getD j Spn.zero)
          · have R : Hid (verM ins ss os pk = false) := ver_out (by rw [HN.out.2]; exact hlt2) tou
            rw [tou] at HX
            generalize os.getD j Spn.zero = p at hat HX
            have HAT : Hid _ := hat
            have HZ3 : Hid _ := z3
            obtain ⟨d0, d1⟩ := hat
            have i1 : (0 : Int) ≤ (j : Int) := by omega
            have i2 : (j : Int) < (n3 : Int) := by omega
            clear z1 z2 z3 z4 tou hO
            go_wp2_with fail
            go_region_held3 (fun w' => w'.cell? ⟨w.heap.size, 0, none⟩ = some (.slice a1 n1 c1) ∧ w'.cell? ⟨w.heap.size, 1, none⟩ = some (.slice a2 n2 c2) ∧ w'.cell? ⟨w.heap.size, 2, none⟩ = some (.slice (some ⟨ga, oa, none⟩) n3 c3) ∧ w'.cell? ⟨w.heap.size, 3, none⟩ = some (.int .i64 pk) ∧ w'.cell? ⟨ga, oa + j * 2, none⟩ = some (.int .i64 p.off) ∧ w'.cell? ⟨ga, oa + j * 2 + 1, none⟩ = some (.int .i64 p.len)) (go_keep)
              (first | (go_at_call 132; refine Calls.mono (HX.out 1) ?_; rintro e w5 ⟨rfl, hk5, hk6⟩; obtain ⟨_, x0, x1, x2, x3⟩ := C0.keep HB.out hk5; obtain ⟨y0, y1⟩ := AtP.keep HAT.out HZ3.out hk6 (.inr (.inr (Nat.le_refl _)))))
            all_goals
              have R2 : Hid _ := Kept.trans HK.out hk5
              go_wp2
              go_ret
              exact ⟨by rw [R.out]; rfl, R2.out⟩
          · have R : Hid _ := all_snocS (by rw [HN.out.2]; exact hlt2) hO.out tou
            rw [tou] at HX
            generalize os.getD j Spn.zero = p at hat HX
            have HAT : Hid _ := hat
            have HZ3 : Hid _ := z3
            obtain ⟨d0, d1⟩ := hat
            have i1 : (0 : Int) ≤ (j : Int) := by omega
            have i2 : (j : Int) < (n3 : Int) := by omega
            clear z1 z2 z3 z4 tou hO
            go_wp2_with fail
            go_region_held3 (fun w' => w'.cell? ⟨w.heap.size, 0, none⟩ = some (.slice a1 n1 c1) ∧ w'.cell? ⟨w.heap.size, 1, none⟩ = some (.slice a2 n2 c2) ∧ w'.cell? ⟨w.heap.size, 2, none⟩ = some (.slice (some ⟨ga, oa, none⟩) n3 c3) ∧ w'.cell? ⟨w.heap.size, 3, none⟩ = some (.int .i64 pk) ∧ w'.cell? ⟨ga, oa + j * 2, none⟩ = some (.int .i64 p.off) ∧ w'.cell? ⟨ga, oa + j * 2 + 1, none⟩ = some (.int .i64 p.len)) (go_keep)
              (first | (go_at_call 132; refine Calls.mono (HX.out 1) ?_; rintro e w5 ⟨rfl, hk5, hk6⟩; obtain ⟨_, x0, x1, x2, x3⟩ := C0.keep HB.out hk5; obtain ⟨y0, y1⟩ := AtP.keep HAT.out HZ3.out hk6 (.inr (.inr (Nat.le_refl _)))))
            all_goals
              go_wp2
              go_roundw
              case rel => exact ⟨j + 1, by omega, by go_num, R, hk5⟩
              case measure => simp [intOf]; omega
        · have R : Hid (verM ins ss os pk = true) := by
            show _ = _
            have := hO.out
            rw [List.take_of_length_le (by rw [HN.out.2]; omega)] at this
            unfold verM
            rw [HM.out, this, HN.out.1, HA.out]; rfl
          have R2 : Hid _ := Kept.trans HK.out hV.out
          go_wp2
          go_ret
          exact ⟨by rw [R.out]; rfl, R2.out⟩
theorem specVer (w : World) (a1 a2 a3 : Option Addr) (n1 c1 n2 c2 n3 c3 : Nat) (pk : Int) (ins : List Int) (ss : List Ste) (os : List Spn) (f : CS w a1 n1 a2 n2 a3 n3 ins ss os) :
    Calls Try.prog 56 #[cagg a1 n1 c1 a2 n2 c2 a3 n3 c3 pk] w fun e w' => e = .returned (.bool (verM ins ss os pk)) ∧ Kept 0 0 w w' := by
  cases h : limC ins n2 n3 pk
  · rw [ver_lim (by rw [f.s.len, f.o.len]; exact h)]
    exact specVer_lim w _ _ a1 a2 a3 n1 c1 n2 c2 n3 c3 pk ins f.i h
  · exact specVer_in w a1 a2 a3 n1 c1 n2 c2 n3 c3 pk ins ss os f h
end Go.Proofs.Ytcphabjekfihnaa
