import Derived.Test.YtdkjdlimcnddkaaA23
namespace Go.Proofs.Ytdkjdlimcnddkaa
open Go.RowKit Flt
attribute [local go_sem] alloc_drewN setCell_drewN run_store_float

set_option maxRecDepth 100000 in
set_option maxHeartbeats 4000000 in
theorem keepLim (w : World) (lo hi : Nat) (a1 a2 a3 : Option Addr) (n1 c1 n2 c2 n3 c3 : Nat) (pk : Int) (ins : List Int) (f : IS w lo hi a1 n1 ins) :
    Calls Try.prog 115 #[cagg a1 n1 c1 a2 n2 c2 a3 n3 c3 pk] w fun e w' => e = .returned (.bool (limB ins n2 n3 pk)) ∧ Kept 0 0 w w' := by
  have hK := kept_alloc 0 0 w (cbox a1 n1 c1 a2 n2 c2 a3 n3 c3 pk)
  have HF : Hid _ := f.keep hK (.inr (.inr (Nat.le_refl _)))
  have HL : Hid (ins.length = n1) := f.len
  have HB : Hid _ := c0_start w (.slice a1 n1 c1) (.slice a2 n2 c2) (.slice a3 n3 c3) (.int .i64 pk)
  have HK : Hid _ := hK
  clear f hK
  by_cases g1 : n1 ≤ 20
  · have b1 : decide ((20 : Int) < (n1 : Int)) = false := decide_eq_false (by omega)
    by_cases g2 : n2 ≤ 2000
    · have b2 : decide ((2000 : Int) < (n2 : Int)) = false := decide_eq_false (by omega)
      by_cases g3 : n3 ≤ 50
      · have b3 : decide ((50 : Int) < (n3 : Int)) = false := decide_eq_false (by omega)
        have HQ : Hid (limB ins n2 n3 pk = (ins.all lenB && decide (0 ≤ pk ∧ pk ≤ 50000))) := by
          show _ = _
          unfold limB
          rw [HL.out, decide_eq_true g1, decide_eq_true g2, decide_eq_true g3]; rfl
        go_enter Try.func115, Try.ntmps115
        go_wp2_with fail
        generalize w.alloc (cbox a1 n1 c1 a2 n2 c2 a3 n3 c3 pk) = w1 at HF HB HK ⊢
        go_loop [24] (fun i => ∃ k : Nat, k ≤ n1 ∧ i = .int .i64 k ∧ Hid ((ins.take k).all lenB = true)) (fun i => n1 - (intOf i).toNat)
        case atStart => exact ⟨0, Nat.zero_le _, rfl, rfl⟩
        case round =>
          obtain ⟨k, hk, rfl, hA⟩ := hrel
          by_cases hlt : k < n1
          · rcases HF.out.at_ with z0 | ⟨ga, oa, ea, z1, z2, z3, z4⟩
            · omega
            have c := z4 k hlt
            subst ea
            clear z1 z2 z3 z4
            cases hx : lenB (ins.getD k 0)
            · have R : Hid (limB ins n2 n3 pk = false) := by
                show _ = _
                rw [HQ.out, allI_bad (by rw [HL.out]; exact hlt) hx]; rfl
              have HI : Hid _ := isLength_any (ins.getD k 0) w1
              rw [hx] at HI
              generalize ins.getD k 0 = y at c HI
              clear hx hA
              go_wp2_with fail
              refine Calls.mono HI.out ?_
              rintro e w2 ⟨rfl, rfl⟩
              go_wp2
              go_ret
              exact ⟨by rw [R.out]; rfl, HK.out⟩
            · have R : Hid _ := allI_snoc (p := lenB) (by rw [HL.out]; exact hlt) hA.out hx
              have HI : Hid _ := isLength_any (ins.getD k 0) w1
              rw [hx] at HI
              generalize ins.getD k 0 = y at c HI
              clear hx hA
              go_wp2_with fail
              refine Calls.mono HI.out ?_
              rintro e w2 ⟨rfl, rfl⟩
              go_wp2
              go_round
              case rel => exact ⟨k + 1, by omega, by go_num, R⟩
              case measure => simp [intOf]; omega
          · have HA : Hid (limB ins n2 n3 pk = decide (0 ≤ pk ∧ pk ≤ 50000)) := by
              show _ = _
              have := hA.out
              rw [List.take_of_length_le (by rw [HL.out]; omega)] at this
              rw [HQ.out, this]; rfl
            obtain ⟨_, q0, q1, q2, q3⟩ := HB.out
            clear hA
            by_cases u1 : 0 ≤ pk
            · have R : Hid (limB ins n2 n3 pk = decide (pk ≤ 50000)) := by
                show _ = _
                rw [HA.out, Bool.eq_iff_iff]; simp [u1]
              have u1' : decide (0 ≤ pk) = true := decide_eq_true u1
              go_wp2
              go_ret
              exact ⟨by rw [R.out]; rfl, HK.out⟩
            · have R : Hid (limB ins n2 n3 pk = false) := by
                show _ = _
                rw [HA.out]; exact decide_eq_false (fun c => u1 c.1)
              have u1' : decide (0 ≤ pk) = false := decide_eq_false u1
              go_wp2
              go_ret
              exact ⟨by rw [R.out]; rfl, HK.out⟩
      · have R : Hid (limB ins n2 n3 pk = false) := by
          show _ = _
          unfold limB; rw [decide_eq_false g3]; simp
        have b3 : decide ((50 : Int) < (n3 : Int)) = true := decide_eq_true (by omega)
        go_enter Try.func115, Try.ntmps115
        go_wp2
        go_ret
        exact ⟨by rw [R.out]; rfl, HK.out⟩
    · have R : Hid (limB ins n2 n3 pk = false) := by
        show _ = _
        unfold limB; rw [decide_eq_false g2]; simp
      have b2 : decide ((2000 : Int) < (n2 : Int)) = true := decide_eq_true (by omega)
      go_enter Try.func115, Try.ntmps115
      go_wp2
      go_ret
      exact ⟨by rw [R.out]; rfl, HK.out⟩
  · have R : Hid (limB ins n2 n3 pk = false) := by
      show _ = _
      unfold limB; rw [HL.out, decide_eq_false g1]; simp
    have b1 : decide ((20 : Int) < (n1 : Int)) = true := decide_eq_true (by omega)
    go_enter Try.func115, Try.ntmps115
    go_wp2
    go_ret
    exact ⟨by rw [R.out]; rfl, HK.out⟩
end Go.Proofs.Ytdkjdlimcnddkaa

namespace Go.Proofs.Ytdkjdlimcnddkaa
open Go.RowKit Flt
attribute [local go_sem] alloc_drewN setCell_drewN run_store_float

/-- The boxes of fieldsFit: the step's and the value's. -/
structure FB (W : World) (p q : Nat) (s : Ste) : Prop where
  sa : AtT W p 0 s
  va : At W q 0 (vlOf s)
  lp : p < W.heap.size
  lq : q < W.heap.size
theorem FB.keep {W W' : World} {p q : Nat} {s : Ste} (t : FB W p q s) (k : Kept 0 0 W W') : FB W' p q s :=
  ⟨t.sa.keep t.lp k (.inr (.inr (Nat.le_refl _))), t.va.keep t.lq k (.inr (.inr (Nat.le_refl _))), Nat.lt_of_lt_of_le t.lp k.size, Nat.lt_of_lt_of_le t.lq k.size⟩
theorem is3 (w : World) (x y z : Int) (m : Nat) (hm : m ≤ 3) : IS (w.alloc (.cells #[.int .i64 x, .int .i64 y, .int .i64 z] 3)) 0 (w.heap.size + 1) (some ⟨w.heap.size, 0, none⟩) m ([x, y, z].take m) := by
  refine ⟨by simp; omega, .inr ⟨w.heap.size, 0, rfl, Nat.zero_le _, by omega, by simp, fun k hk => ?_⟩⟩
  rw [List.getD_eq_getElem?_getD, List.getElem?_take_of_lt hk, ← List.getD_eq_getElem?_getD]
  rcases (by omega : k = 0 ∨ k = 1 ∨ k = 2) with rfl | rfl | rfl
  all_goals first | (go_simp; done) | (simp; done)
theorem vl_box (w : World) (v : Vl) : At (w.alloc (vbox v.op v.len v.a v.b v.c v.k)) w.heap.size 0 v := by
  refine ⟨?_, ?_, ?_, ?_, ?_, ?_⟩
  all_goals first | (go_simp; done) | (simp; done)
set_option maxRecDepth 100000 in
set_option maxHeartbeats 8000000 in
theorem fieldsFit (w : World) (lo hi : Nat) (s : Ste) (a : Option Addr) (n cap : Nat) (ins : List Int) (f : IS w lo hi a n ins) :
    Calls Try.prog 116 #[s.agg, .slice a n cap] w fun e w' => e = .returned (.bool (formB ins s)) ∧ Kept 0 0 w w' := by
  have HF : Hid _ := f
  have HL : Hid (ins.length = n) := f.len
  have k0 := kept_alloc 0 0 w s.box
  have HB0 : Hid _ := ste_box w s
  have hz0 : w.heap.size < (w.alloc s.box).heap.size := by simp
  have HI : Hid (∀ w, Calls Try.prog 89 #[.int .i64 s.len] w fun e w' => e = .returned (.bool (lenB s.len)) ∧ w' = w) := fun w => isLength_any s.len w
  have HS : Hid (∀ w, Calls Try.prog 125 #[(vlOf s).agg] w fun e w' => e = .returned (.bool (spareB (vlOf s))) ∧ Kept 0 0 w w') := fun w => spareFields w (vlOf s)
  have HC : Hid (∀ w, Calls Try.prog 104 #[.int .i64 s.op] w fun e w' => e = .returned (.int .i64 (cnt s.op : Nat)) ∧ w' = w) := fun w => opCount s.op w
  clear f
  go_enter Try.func116, Try.ntmps116
  go_wp2_with fail
  refine (valOf _ s).mono ?_
  rintro e w1 ⟨rfl, k1⟩
  have ka := kept_alloc 0 0 w1 (vbox (vlOf s).op (vlOf s).len (vlOf s).a (vlOf s).b (vlOf s).c (vlOf s).k)
  have HB : Hid (FB (w1.alloc (vbox (vlOf s).op (vlOf s).len (vlOf s).a (vlOf s).b (vlOf s).c (vlOf s).k)) w.heap.size w1.heap.size s) := ⟨HB0.out.keep hz0 (k1.trans ka) (.inr (.inr (Nat.le_refl _))), vl_box w1 (vlOf s), by have := k1.size; simp at this ⊢; omega, by simp⟩
  have HK : Hid _ := (k0.trans k1).trans ka
  obtain ⟨⟨d0, d1, d2, d3, d4, d5, d6, d7⟩, ⟨v0, v1, v2, v3, v4, v5⟩, _, _⟩ := HB.out
  simp only [Nat.zero_add] at d1 d2 d3 d4 d5 d6 d7 v1 v2 v3 v4 v5
  clear k0 k1 ka HB0 hz0
  go_wp2_with fail
  generalize hQ9 : w1.heap.size = Q at HB v0 v1 v2 v3 v4 v5 ⊢
  generalize w1.alloc (vbox (vlOf s).op (vlOf s).len (vlOf s).a (vlOf s).b (vlOf s).c (vlOf s).k) = w2 at HB HK d0 d1 d2 d3 d4 d5 d6 d7 v0 v1 v2 v3 v4 v5 ⊢
  clear hQ9
  refine (HI.out _).mono ?_
  rintro e w3 ⟨rfl, rfl⟩
  cases tl : lenB s.len
  · have R : Hid (formB ins s = false) := by show _ = _; unfold formB; rw [tl]; simp
    go_wp2
    go_ret
    exact ⟨by rw [R.out]; rfl, HK.out⟩
  go_wp2_with fail
  refine (HS.out _).mono ?_
  rintro e w4 ⟨rfl, k4⟩
  replace HB : Hid _ := HB.out.keep k4
  replace HK : Hid _ := Kept.trans HK.out k4
  clear k4 d0 d1 d2 d3 d4 d5 d6 d7 v0 v1 v2 v3 v4 v5
  obtain ⟨⟨d0, d1, d2, d3, d4, d5, d6, d7⟩, ⟨v0, v1, v2, v3, v4, v5⟩, _, _⟩ := HB.out
  simp only [Nat.zero_add] at d1 d2 d3 d4 d5 d6 d7 v1 v2 v3 v4 v5
  cases ts : spareB (vlOf s)
  · have R : Hid (formB ins s = false) := form_spare ts
    go_wp2
    go_ret
    exact ⟨by rw [R.out]; rfl, HK.out⟩
  have HQ : Hid (formB ins s = ((!(decide (cnt s.op = 0) && s.n != 0)) && (if s.op = 0 then idxB s.a ins.length && ins.getD s.a.toNat 0 == s.len else shapeB s.op s.len s.c ([s.n, s.len, s.len].take (cnt s.op))))) := by
    show _ = _
    unfold formB
    rw [tl, ts]; simp
  go_wp2_with fail
  refine (HC.out _).mono ?_
  rintro e w5 ⟨rfl, rfl⟩
  have hc3 := cnt_le s.op
  cases tc : decide (cnt s.op = 0) && s.n != 0
  case true =>
    have R : Hid (formB ins s = false) := by show _ = _; rw [HQ.out, tc]; rfl
    have t2 : cnt s.op = 0 ∧ (s.n != 0) = true := by
      rw [Bool.and_eq_true] at tc
      exact ⟨of_decide_eq_true tc.1, tc.2⟩
    have t3 : (((cnt s.op : Nat) : Int) == 0) = true := by rw [t2.1]; rfl
    have t4 := t2.2
    go_wp2
    go_ret
    exact ⟨by rw [R.out]; rfl, HK.out⟩
  have HQ2 : Hid (formB ins s = (if s.op = 0 then idxB s.a ins.length && ins.getD s.a.toNat 0 == s.len else shapeB s.op s.len s.c ([s.n, s.len, s.len].take (cnt s.op)))) := by
    show _ = _
    rw [HQ.out, tc]; rfl
  have HTC : Hid _ := tc
  clear HQ tc
  by_cases hc0 : cnt s.op = 0
  · have t3 : (((cnt s.op : Nat) : Int) == 0) = true := by rw [hc0]; rfl
    have t4 : (s.n != 0) = false := by
      have := HTC.out
      rw [decide_eq_true hc0, Bool.true_and] at this
      exact this
    by_cases h0 : s.op = 0
    · have t0 : (s.op == 0) = true := beq_iff_eq.2 h0
      have HFW : Hid _ := IS.keep HF.out HK.out (.inr (.inr (Nat.le_refl _)))
      by_cases hA : 0 ≤ s.a ∧ s.a < n
      · obtain ⟨j, hj⟩ : ∃ j : Nat, s.a = j := ⟨s.a.toNat, by omega⟩
        have hjn : j < n := by omega
        have EQ : Hid (formB ins s = (ins.getD j 0 == s.len)) := by
          show _ = _
          rw [HQ2.out, if_pos h0, HL.out, show idxB s.a n = true from decide_eq_true hA, hj]; rfl
        have hI : Hid (∀ w, Calls Try.prog 91 #[.int .i64 (j : Int), .int .i64 (n : Int)] w fun e w' => e = .returned (.bool true) ∧ w' = w) := fun w => by
          have := isIndex_any (j : Int) n w
          rw [show idxB (j : Int) n = true from decide_eq_true (by omega)] at this
          exact this
        rcases HFW.out.at_ with z0 | ⟨ga, oa, ea, z1, z2, z3, z4⟩
        · omega
        have c0 := z4 j hjn
        subst ea
        rw [hj] at d4
        generalize ins.getD j 0 = y at c0 EQ
        have j0 : (0 : Int) ≤ (j : Int) := by omega
        have j1 : (j : Int) < (n : Int) := by omega
        clear z1 z2 z3 z4 hA hj
        go_wp2_with fail
        go_quiet ((go_at_call 91; exact Calls.quiet_of_same (hI.out _)))
        go_wp2
        go_ret
        exact ⟨by rw [EQ.out]; rfl, HK.out.trans (kept_drewN 0 0 _ _)⟩
      · have EQ : Hid (formB ins s = false) := by
          show _ = _
          rw [HQ2.out, if_pos h0, HL.out, show idxB s.a n = false from decide_eq_false hA]; rfl
        have hI : Hid (∀ w, Calls Try.prog 91 #[.int .i64 s.a, .int .i64 (n : Int)] w fun e w' => e = .returned (.bool false) ∧ w' = w) := fun w => by
          have := isIndex_any s.a n w
          rw [show idxB s.a n = false from decide_eq_false hA] at this
          exact this
        clear hA
        go_wp2_with fail
        go_quiet ((go_at_call 91; exact Calls.quiet_of_same (hI.out _)))
        go_wp2
        go_ret
        exact ⟨by rw [EQ.out]; rfl, HK.out.trans (kept_drewN 0 0 _ _)⟩
    · have t0 : (s.op == 0) = false := beq_eq_false_iff_ne.2 h0
      have EQ : Hid _ := HQ2.out
      rw [if_neg h0] at EQ
      have i1 : (0 : Int) ≤ ((cnt s.op : Nat) : Int) := by omega
      have i2 : ((cnt s.op : Nat) : Int) ≤ (3 : Int) := by omega
      have ka := kept_alloc 0 0 w5 (.cells #[.int .i64 s.n, .int .i64 s.len, .int .i64 s.len] 3)
      have HB' : Hid _ := HB.out.keep ka
      have HK' : Hid _ := Kept.trans HK.out ka
      obtain ⟨⟨x0, x1, x2, x3, x4, x5, x6, x7⟩, ⟨y0, y1, y2, y3, y4, y5⟩, _, _⟩ := HB'.out
      simp only [Nat.zero_add] at x1 x2 x3 x4 x5 x6 x7 y1 y2 y3 y4 y5
      have HI3 : Hid _ := is3 w5 s.n s.len s.len (cnt s.op) hc3
      clear ka
      go_wp2_with fail
      clear d0 d1 d2 d3 d4 d5 d6 d7 v0 v1 v2 v3 v4 v5
      have HSF : Hid (∀ m, Calls Try.prog 126 #[(vlOf s).agg, .slice (some ⟨w5.heap.size, 0, none⟩) (cnt s.op) 3] ((w5.alloc (.cells #[.int .i64 s.n, .int .i64 s.len, .int .i64 s.len] 3)).drewN m) fun e w' => e = .returned (.bool (shapeB s.op s.len s.c ([s.n, s.len, s.len].take (cnt s.op)))) ∧ Kept 0 0 w w' ∧ Kept 0 0 (w5.alloc (.cells #[.int .i64 s.n, .int .i64 s.len, .int .i64 s.len] 3)) w') := fun m => (shapeFits _ (vlOf s).op (vlOf s).len (vlOf s).a (vlOf s).b (vlOf s).c (vlOf s).k _ _ _ _ _ _ (IS.keep HI3.out (kept_drewN 0 0 _ m) (.inr (.inr (Nat.le_refl _)))) rfl).mono fun e w' h => ⟨h.1, Kept.trans HK'.out (Kept.trans (kept_drewN 0 0 _ m) h.2), Kept.trans (kept_drewN 0 0 _ m) h.2⟩
      generalize w5.alloc (.cells #[.int .i64 s.n, .int .i64 s.len, .int .i64 s.len] 3) = w6 at HB' HK' HI3 HSF x0 x1 x2 x3 x4 x5 x6 x7 y0 y1 y2 y3 y4 y5 ⊢
      rw [hc0] at HSF EQ
      clear hc0 t3 t4 t0 h0 HQ2 HTC hc3 x0 x1 x2 x3 x4 x5 x6 x7 tl ts HI HS HC HF HL HI3 HK HB
      go_region_held3 (fun w' => w'.cell? ⟨Q, 0, none⟩ = some (.int .i64 (vlOf s).op) ∧ w'.cell? ⟨Q, 1, none⟩ = some (.int .i64 (vlOf s).len) ∧ w'.cell? ⟨Q, 2, none⟩ = some (.int .i64 (vlOf s).a) ∧ w'.cell? ⟨Q, 3, none⟩ = some (.int .i64 (vlOf s).b) ∧ w'.cell? ⟨Q, 4, none⟩ = some (.int .i64 (vlOf s).c) ∧ w'.cell? ⟨Q, 5, none⟩ = some (.float .f64 (vlOf s).k)) (go_keep) (first | (go_at_call 126; refine Calls.mono (HSF.out 1) ?_; rintro e w7 ⟨rfl, k7, k8⟩; obtain ⟨_, ⟨z0, z1, z2, z3, z4, z5⟩, _, _⟩ := FB.keep HB'.out k8; simp only [Nat.zero_add] at z1 z2 z3 z4 z5))
      all_goals
        go_wp2
        go_ret
        exact ⟨by rw [EQ.out]; rfl, k7⟩
  · have t3 : (((cnt s.op : Nat) : Int) == 0) = false := by rw [beq_eq_false_iff_ne]; omega
    have h0 : s.op ≠ 0 := fun e => hc0 (by rw [e]; rfl)
    have t0 : (s.op == 0) = false := beq_eq_false_iff_ne.2 h0
    have EQ : Hid _ := HQ2.out
    rw [if_neg h0] at EQ
    have i1 : (0 : Int) ≤ ((cnt s.op : Nat) : Int) := by omega
    have i2 : ((cnt s.op : Nat) : Int) ≤ (3 : Int) := by omega
    have ka := kept_alloc 0 0 w5 (.cells #[.int .i64 s.n, .int .i64 s.len, .int .i64 s.len] 3)
    have HB' : Hid _ := HB.out.keep ka
    have HK' : Hid _ := Kept.trans HK.out ka
    obtain ⟨⟨x0, x1, x2, x3, x4, x5, x6, x7⟩, ⟨y0, y1, y2, y3, y4, y5⟩, _, _⟩ := HB'.out
    simp only [Nat.zero_add] at x1 x2 x3 x4 x5 x6 x7 y1 y2 y3 y4 y5
    have HI3 : Hid _ := is3 w5 s.n s.len s.len (cnt s.op) hc3
    clear ka
    go_wp2_with fail
    clear d0 d1 d2 d3 d4 d5 d6 d7 v0 v1 v2 v3 v4 v5
    have HSF : Hid (∀ m, Calls Try.prog 126 #[(vlOf s).agg, .slice (some ⟨w5.heap.size, 0, none⟩) (cnt s.op) 3] ((w5.alloc (.cells #[.int .i64 s.n, .int .i64 s.len, .int .i64 s.len] 3)).drewN m) fun e w' => e = .returned (.bool (shapeB s.op s.len s.c ([s.n, s.len, s.len].take (cnt s.op)))) ∧ Kept 0 0 w w' ∧ Kept 0 0 (w5.alloc (.cells #[.int .i64 s.n, .int .i64 s.len, .int .i64 s.len] 3)) w') := fun m => (shapeFits _ (vlOf s).op (vlOf s).len (vlOf s).a (vlOf s).b (vlOf s).c (vlOf s).k _ _ _ _ _ _ (IS.keep HI3.out (kept_drewN 0 0 _ m) (.inr (.inr (Nat.le_refl _)))) rfl).mono fun e w' h => ⟨h.1, Kept.trans HK'.out (Kept.trans (kept_drewN 0 0 _ m) h.2), Kept.trans (kept_drewN 0 0 _ m) h.2⟩
    generalize w5.alloc (.cells #[.int .i64 s.n, .int .i64 s.len, .int .i64 s.len] 3) = w6 at HB' HK' HI3 HSF x0 x1 x2 x3 x4 x5 x6 x7 y0 y1 y2 y3 y4 y5 ⊢
    clear hc0 t3 t0 h0 HQ2 HTC hc3 x0 x1 x2 x3 x4 x5 x6 x7 tl ts HI HS HC HF HL HI3 HK HB
    go_region_held3 (fun w' => w'.cell? ⟨Q, 0, none⟩ = some (.int .i64 (vlOf s).op) ∧ w'.cell? ⟨Q, 1, none⟩ = some (.int .i64 (vlOf s).len) ∧ w'.cell? ⟨Q, 2, none⟩ = some (.int .i64 (vlOf s).a) ∧ w'.cell? ⟨Q, 3, none⟩ = some (.int .i64 (vlOf s).b) ∧ w'.cell? ⟨Q, 4, none⟩ = some (.int .i64 (vlOf s).c) ∧ w'.cell? ⟨Q, 5, none⟩ = some (.float .f64 (vlOf s).k)) (go_keep) (first | (go_at_call 126; refine Calls.mono (HSF.out 1) ?_; rintro e w7 ⟨rfl, k7, k8⟩; obtain ⟨_, ⟨z0, z1, z2, z3, z4, z5⟩, _, _⟩ := FB.keep HB'.out k8; simp only [Nat.zero_add] at z1 z2 z3 z4 z5))
    all_goals
      go_wp2
      go_ret
      exact ⟨by rw [EQ.out]; rfl, k7⟩
end Go.Proofs.Ytdkjdlimcnddkaa

namespace Go.Proofs.Ytdkjdlimcnddkaa
open Go.RowKit Flt
attribute [local go_sem] alloc_drewN setCell_drewN run_store_float

theorem infoB : (Try.prog.info? 4).map (fun i => (i.zero, i.size, i.bytes)) = some (some (.bool false), 1, 1) := by kernel_rfl
theorem make_bV (n : Nat) (w : World) (hn : n ≤ 1099511627776) :
    (Instr.makeSlice 152 (.int .i64 (n : Int)) (.int .i64 (n : Int))).run Try.prog w = .ok (.slice (some ⟨w.heap.size, 0, none⟩) n n) (w.alloc (.cells (madeCells #[.bool false] n) 4)) := by
  obtain ⟨i, hi, hz0, hz1, hz2⟩ := info_parts infoB
  have := run_make (P := Try.prog) w 152 4 i (.bool false) Try.underlying152 hi hz0 .i64 .i64 n n (by omega) (by omega) (by rw [hz2]; omega) (by omega)
  rw [hz1, Nat.mul_one, Int.toNat_natCast] at this
  exact this
theorem BL.made (w : World) (n : Nat) : BL (w.alloc (.cells (madeCells #[.bool false] n) 4)) w.heap.size n (fun _ => false) := by
  refine ⟨by simp, fun k hk => ?_, fun o => by simp⟩
  rw [World.cell?_alloc_new]
  simp only [madeCells]
  rw [Array.getElem?_map, Array.getElem?_range, if_pos hk]
  simp [Nat.mod_one]
theorem after_all {ss : List Ste} {k : Nat} (h : k < ss.length) (j : Nat) : afterB ss k (ss.getD k Ste.zero) ((ss.getD k Ste.zero).dst + (ss.getD k Ste.zero).len) j = wroteB ss (k + 1) (j : Nat) := by
  rw [wrote_succ h]; rfl
theorem step_fol {ins : List Int} {ss : List Ste} {n k : Nat} : stepB ins ss (n : Int) k = (formB ins (ss.getD k Ste.zero) && folB ss k n (ss.getD k Ste.zero)) := rfl
theorem span_getD {ins : List Int} {s : Ste} (h : formB ins s = true) : ∀ q, q < cnt s.op → 1 ≤ ((spansOf s).getD q Spn.zero).len ∧ ((spansOf s).getD q Spn.zero).len ≤ 1000 := fun q hq => by
  have hq' : q < (spansOf s).length := by rw [spans_len]; exact hq
  rw [List.getD_eq_getElem?_getD, List.getElem?_eq_getElem hq']
  exact spans_lens h (List.getElem_mem _)
theorem ver_limP {ins : List Int} {ss : List Ste} {os : List Spn} {pk : Int} (h : limB ins ss.length os.length pk = false) : verM ins ss os pk = false := by
  unfold verM; rw [h]; rfl
theorem ver_stepP {ins : List Int} {ss : List Ste} {os : List Spn} {pk : Int} {i : Nat} (hi : i < ss.length) (h : stepB ins ss pk i = false) : verM ins ss os pk = false := by
  unfold verM; rw [range_bad hi h]; simp
theorem all_badP {os : List Spn} {q : Spn → Bool} {k : Nat} (hk : k < os.length) (t : q (os.getD k Spn.zero) = false) : os.all q = false := by
  rw [List.all_eq_false]
  rw [List.getD_eq_getElem?_getD, List.getElem?_eq_getElem hk] at t
  exact ⟨os[k], List.getElem_mem _, by simpa using t⟩
theorem all_snocP {os : List Spn} {q : Spn → Bool} {k : Nat} (hk : k < os.length) (h : (os.take k).all q = true) (t : q (os.getD k Spn.zero) = true) : (os.take (k + 1)).all q = true := by
  rw [List.take_succ_eq_append_getElem hk, List.all_append, h]
  rw [List.getD_eq_getElem?_getD, List.getElem?_eq_getElem hk] at t
  simpa using t
theorem ver_outP {ins : List Int} {ss : List Ste} {os : List Spn} {pk : Int} {i : Nat} (hi : i < os.length) (h : outB ss pk (os.getD i Spn.zero) = false) : verM ins ss os pk = false := by
  unfold verM; rw [all_badP hi h]; simp

/-- opStepOf and follow, one behind the other. -/
theorem followS (w : World) (g n cap : Nat) (ins : List Int) (ss : List Ste) (i : Nat) (s : Ste) (hn : n ≤ 50000) (hcap : n ≤ cap) (f : BL w g n (fun k => wroteB ss i (k : Nat))) (hf : formB ins s = true) (v : Value)
    (hv : (s.op = 0 ∧ v = .iface 192 (inAgg s)) ∨ ∃ G, G ≠ g ∧ v = .iface 194 (kAgg s G (cnt s.op)) ∧ SB w G (cnt s.op) (spansOf s)) :
    Calls Try.prog 117 #[.slice (some ⟨g, 0, none⟩) n cap, v] w fun e w' => e = .returned (.bool (folB ss i n s)) ∧ Kept g (g + 1) w w' ∧ (folB ss i n s = true → BL w' g n (afterB ss i s (s.dst + s.len))) := by
  have hl := form_len hf
  rcases hv with ⟨h0, rfl⟩ | ⟨G, hG, rfl, hS⟩
  · exact follow_in w g n cap ss i s hn hcap f hl.1 hl.2 (span_getD hf) h0
  · exact follow_k w g n cap ss i s hn hcap f hl.1 hl.2 (span_getD hf) G hS hG
theorem opStepS (w : World) (s : Ste) :
    Calls Try.prog 118 #[s.agg] w fun e w' => ∃ v, e = .returned v ∧ ((s.op = 0 ∧ v = .iface 192 (inAgg s)) ∨ ∃ G, w.heap.size ≤ G ∧ v = .iface 194 (kAgg s G (cnt s.op)) ∧ SB w' G (cnt s.op) (spansOf s)) ∧ Kept 0 0 w w' := by
  by_cases h : s.op = 0
  · exact (opStep_in w s h).mono fun e w' hh => ⟨_, hh.1, .inl ⟨h, rfl⟩, hh.2⟩
  · exact (opStep_k w s h).mono fun e w' ⟨G, h1, h2, h3, h4⟩ => ⟨_, h1, .inr ⟨G, h3, rfl, h2⟩, h4⟩

set_option maxRecDepth 100000 in
set_option maxHeartbeats 16000000 in
theorem implVer (w : World) (a1 a2 a3 : Option Addr) (n1 c1 n2 c2 n3 c3 : Nat) (pk : Int) (ins : List Int) (ss : List Ste) (os : List Spn) (f : CS w a1 n1 a2 n2 a3 n3 ins ss os) :
    Calls Try.prog 64 #[cagg a1 n1 c1 a2 n2 c2 a3 n3 c3 pk] w fun e w' => e = .returned (.bool (verM ins ss os pk)) ∧ Kept 0 0 w w' := by
  have hK := kept_alloc 0 0 w (cbox a1 n1 c1 a2 n2 c2 a3 n3 c3 pk)
  have f' := f.keep hK
  have HX : Hid _ := keepLim (w.alloc (cbox a1 n1 c1 a2 n2 c2 a3 n3 c3 pk)) _ _ a1 a2 a3 n1 c1 n2 c2 n3 c3 pk ins f'.i
  have HN : Hid (ss.length = n2 ∧ os.length = n3 ∧ ins.length = n1) := ⟨f.s.len, f.o.len, f.i.len⟩
  have HF : Hid _ := f'
  have HB : Hid _ := c0_start w (.slice a1 n1 c1) (.slice a2 n2 c2) (.slice a3 n3 c3) (.int .i64 pk)
  have HK : Hid _ := hK
  clear hK f f'
  cases h : limB ins n2 n3 pk
  · have R : Hid (verM ins ss os pk = false) := ver_limP (by rw [HN.out.1, HN.out.2.1]; exact h)
    rw [h] at HX
    go_enter Try.func64, Try.ntmps64
    go_wp2_with fail
    refine Calls.mono HX.out ?_
    rintro e w2 ⟨rfl, hk2⟩
    go_wp2
    go_ret
    exact ⟨by rw [R.out]; rfl, Kept.trans HK.out hk2⟩
  have HM : Hid (limB ins ss.length os.length pk = true) := by rw [HN.out.1, HN.out.2.1]; exact h
  rw [h] at HX
  unfold limB at h
  rw [HN.out.2.2] at h
  simp only [Bool.and_eq_true, decide_eq_true_eq] at h
  obtain ⟨⟨⟨⟨l1, l2⟩, l3⟩, _⟩, p0, p1⟩ := h
  obtain ⟨N, rfl⟩ := Int.eq_ofNat_of_zero_le p0
  go_enter Try.func64, Try.ntmps64
  go_wp2_with fail
  refine Calls.mono HX.out ?_
  rintro e w2 ⟨rfl, hk2⟩
  replace HF : Hid _ := HF.out.keep hk2
  replace HB : Hid _ := HB.out.keep hk2
  replace HK : Hid _ := Kept.trans HK.out hk2
  have hm := make_bV N w2 (by omega)
  have ka := kept_alloc 0 0 w2 (.cells (madeCells #[.bool false] N) 4)
  have HW : Hid (BL (w2.alloc (.cells (madeCells #[.bool false] N) 4)) w2.heap.size N (fun k => wroteB ss 0 (k : Nat))) := BL.congr (BL.made w2 N) (fun k _ => (wrote_zero ss _).symm)
  have HG : Hid (w.heap.size < w2.heap.size) := HB.out.sz
  have HI3 : Hid (IS (w2.alloc (.cells (madeCells #[.bool false] N) 4)) 0 w2.heap.size a1 n1 ins) := HF.out.i.keep ka (.inr (.inr (Nat.le_refl _)))
  have HT3 : Hid (TS (w2.alloc (.cells (madeCells #[.bool false] N) 4)) 0 w2.heap.size a2 n2 ss) := HF.out.s.keep ka (.inr (.inr (Nat.le_refl _)))
  have HO3 : Hid (PS (w2.alloc (.cells (madeCells #[.bool false] N) 4)) 0 w2.heap.size a3 n3 os) := HF.out.o.keep ka (.inr (.inr (Nat.le_refl _)))
  clear hk2 HX HF
  obtain ⟨_, q0, q1, q2, q3⟩ := HB.out
  replace HB : Hid _ := HB.out.keep ka
  obtain ⟨_, r0, r1, r2, r3⟩ := HB.out
  replace HK : Hid _ := Kept.trans HK.out ka
  have HG2 : Hid (w2.heap.size < (w2.alloc (.cells (madeCells #[.bool false] N) 4)).heap.size) := by show _ < _; simp
  generalize hg9 : w2.heap.size = g at hm HW HG HG2 HI3 HT3 HO3
  generalize w2.alloc (.cells (madeCells #[.bool false] N) 4) = w3 at hm HB HK HW HG2 HI3 HT3 HO3 r0 r1 r2 r3
  clear ka hg9
  go_wp2_with fail
  clear q0 q1 q2 q3 r0 r1 r2 r3 hm
  go_loopw [17] (fun x W => ∃ k : Nat, k ≤ n2 ∧ x = .int .i64 k ∧ Hid ((List.range k).all (stepB ins ss (N : Int)) = true) ∧ Hid (BL W g N (fun j => wroteB ss k (j : Nat))) ∧ Hid (Kept g (g + 1) w3 W)) (fun x _ => n2 - (intOf x).toNat)
  case atStart => exact ⟨0, Nat.zero_le _, rfl, rfl, HW, Kept.refl _ _ _⟩
  case round =>
    obtain ⟨k, hk, rfl, hA, hBL, hV⟩ := hrel
    clear HW
    obtain ⟨_, q0, q1, q2, q3⟩ := HB.out.keepR hV.out (.inl HG.out)
    by_cases hlt : k < n2
    · rcases (HT3.out.keep hV.out (.inl (Nat.le_refl _))).at_ with z0 | ⟨ga, oa, ea, z1, z2, z3, z4⟩
      · omega
      have hat := z4 k hlt
      have HS0 : Hid (stepB ins ss (N : Int) k = (formB ins (ss.getD k Ste.zero) && folB ss k N (ss.getD k Ste.zero))) := step_fol
      have HAF : Hid (∀ j, afterB ss k (ss.getD k Ste.zero) ((ss.getD k Ste.zero).dst + (ss.getD k Ste.zero).len) j = wroteB ss (k + 1) (j : Nat)) := fun j => after_all (by rw [HN.out.1]; exact hlt) j
      have hgw : g < wr.heap.size := Nat.lt_of_lt_of_le HG2.out hV.out.size
      generalize ss.getD k Ste.zero = s at hat HS0 HAF
      have ka := kept_alloc 0 0 wr s.box
      have HP : Hid _ := ste_box wr s
      have hP : wr.heap.size < (wr.alloc s.box).heap.size := by simp
      subst ea
      obtain ⟨d0, d1, d2, d3, d4, d5, d6, d7⟩ := hat
      clear z1 z2 z3 z4
      have HI4 : Hid _ := (HI3.out.keep hV.out (.inl (Nat.le_refl _))).keep ka (.inr (.inr (Nat.le_refl _)))
      have HBL4 : Hid _ := BL.keep hBL.out ka (.inr (.inr (Nat.le_refl _)))
      have HB4 : Hid _ := (HB.out.keepR hV.out (.inl HG.out)).keep ka
      obtain ⟨_, t0, t1, t2, t3⟩ := HB4.out
      go_wp2_with fail
      clear d0 d1 d2 d3 d4 d5 d6 d7 q0 q1 q2 q3 t0 t1 t2 t3 HB4
      generalize hP9 : wr.heap.size = P at HP hP hgw ⊢
      have HV4 : Hid (Kept g (g + 1) w3 (wr.alloc s.box)) := Kept.trans hV.out (ka.mono fun b _ c => by omega)
      generalize wr.alloc s.box = w4 at HP hP HI4 HBL4 HV4 ka ⊢
      clear hP9 ka hBL hV
      refine Calls.mono (fieldsFit w4 _ _ s a1 n1 c1 ins HI4.out) ?_
      rintro e w5 ⟨rfl, k5⟩
      have HV5 : Hid _ := Kept.trans HV4.out (k5.mono (lo' := g) (hi' := g + 1) fun b _ c => by omega)
      have HBL5 : Hid _ := BL.keep HBL4.out k5 (.inr (.inr (Nat.le_refl _)))
      have HP5 : Hid _ := AtT.keep HP.out hP k5 (.inr (.inr (Nat.le_refl _)))
      have hz5 : P < w5.heap.size := Nat.lt_of_lt_of_le hP k5.size
      clear k5 HI4 HBL4 HP HV4 hP
      simp only
      cases tf : formB ins s
      · have R : Hid (verM ins ss os (N : Int) = false) := ver_stepP (by rw [HN.out.1]; exact hlt) (by rw [HS0.out, tf]; rfl)
        have R2 : Hid _ := HK.out.new HV5.out (Nat.le_of_lt HG.out)
        go_wp2
        go_ret
        exact ⟨by rw [R.out]; rfl, R2.out⟩
      obtain ⟨d0, d1, d2, d3, d4, d5, d6, d7⟩ := HP5.out
      simp only [Nat.zero_add] at d1 d2 d3 d4 d5 d6 d7
      go_wp2_with fail
      clear d0 d1 d2 d3 d4 d5 d6 d7
      refine Calls.mono (opStepS w5 s) ?_
      rintro e w6 ⟨v, rfl, hv, k6⟩
      have HV6 : Hid _ := Kept.trans HV5.out (k6.mono (lo' := g) (hi' := g + 1) fun b _ c => by omega)
      have HBL6 : Hid _ := BL.keep HBL5.out k6 (.inr (.inr (Nat.le_refl _)))
      have HFO : Hid _ := followS w6 g N N ins ss k s (by omega) (Nat.le_refl _) HBL6.out tf v (hv.imp id fun ⟨G, h1, h2, h3⟩ => ⟨G, by omega, h2, h3⟩)
      clear k6 HV5 HBL5 HP5 hv
      go_wp2_with fail
      refine Calls.mono HFO.out ?_
      rintro e w7 ⟨rfl, k7, hb7⟩
      have HV7 : Hid _ := Kept.trans HV6.out k7
      have HB7 : Hid _ := hb7
      clear k7 HV6 HBL6 HFO hb7
      simp only
      cases to7 : folB ss k N s
      · have R : Hid (verM ins ss os (N : Int) = false) := ver_stepP (by rw [HN.out.1]; exact hlt) (by rw [HS0.out, to7, Bool.and_false])
        have R2 : Hid _ := HK.out.new HV7.out (Nat.le_of_lt HG.out)
        go_wp2
        go_ret
        exact ⟨by rw [R.out]; rfl, R2.out⟩
      · have R : Hid _ := range_snoc hA.out (show stepB ins ss (N : Int) k = true by rw [HS0.out, tf, to7]; rfl)
        have R1 : Hid (BL w7 g N (fun j => wroteB ss (k + 1) (j : Nat))) := BL.congr (HB7.out to7) (fun j _ => HAF.out j)
        go_wp2
        go_roundw
        case rel => exact ⟨k + 1, by omega, by go_num, R, R1, HV7⟩
        case measure => simp [intOf]; omega
    · have HA : Hid ((List.range n2).all (stepB ins ss (N : Int)) = true) := by
        have := hA.out
        rw [show k = n2 by omega] at this
        exact this
      have HBL1 : Hid (BL wr g N (fun j => wroteB ss ss.length (j : Nat))) := by
        have := hBL.out
        rw [show k = n2 by omega, ← HN.out.1] at this
        exact this
      clear hA hBL
      go_wp2_with fail
      clear q0 q1 q2 q3
      go_loopw [37] (fun x W => ∃ k : Nat, k ≤ n3 ∧ x = .int .i64 k ∧ Hid ((os.take k).all (outB ss (N : Int)) = true) ∧ Hid (BL W g N (fun j => wroteB ss ss.length (j : Nat))) ∧ Hid (Kept g (g + 1) w3 W)) (fun x _ => n3 - (intOf x).toNat)
      case atStart => exact ⟨0, Nat.zero_le _, rfl, rfl, HBL1, hV⟩
      case round =>
        clear HBL1 hV
        obtain ⟨j, hj, rfl, hO, hBL, hV⟩ := hrel
        by_cases hlt2 : j < n3
        · rcases (HO3.out.keep hV.out (.inl (Nat.le_refl _))).at_ with z0 | ⟨ga, oa, ea, z1, z2, z3, z4⟩
          · omega
          have hat := z4 j hlt2
          have HBAD : Hid (outB ss (N : Int) (os.getD j Spn.zero) = false → verM ins ss os (N : Int) = false) := fun h => ver_outP (by rw [HN.out.2.1]; exact hlt2) h
          have HSN : Hid (outB ss (N : Int) (os.getD j Spn.zero) = true → (os.take (j + 1)).all (outB ss (N : Int)) = true) := fun h => all_snocP (by rw [HN.out.2.1]; exact hlt2) hO.out h
          have hgw : g < wr.heap.size := Nat.lt_of_lt_of_le HG2.out hV.out.size
          generalize os.getD j Spn.zero = p at hat HBAD HSN
          have ka := kept_alloc 0 0 wr p.box
          have HP : Hid _ := spn_box wr p
          have hP : wr.heap.size < (wr.alloc p.box).heap.size := by simp
          subst ea
          obtain ⟨d0, d1⟩ := hat
          clear z1 z2 z3 z4
          have HBL4 : Hid _ := BL.keep hBL.out ka (.inr (.inr (Nat.le_refl _)))
          have HLn : Hid (∀ w, Calls Try.prog 89 #[.int .i64 p.len] w fun e w' => e = .returned (.bool (lenB p.len)) ∧ w' = w) := fun w => isLength_any p.len w
          have HV4 : Hid (Kept g (g + 1) w3 (wr.alloc p.box)) := Kept.trans hV.out (ka.mono fun b _ c => by omega)
          go_wp2_with fail
          clear d0 d1
          generalize hP9 : wr.heap.size = P at HP hP hgw ⊢
          generalize wr.alloc p.box = w4 at HP hP HBL4 HV4 ka ⊢
          clear hP9 ka hBL hV
          refine Calls.mono (HLn.out _) ?_
          rintro e w5 ⟨rfl, rfl⟩
          cases tl : lenB p.len
          · have R : Hid _ := HBAD.out (by unfold outB; rw [tl]; rfl)
            have R2 : Hid _ := HK.out.new HV4.out (Nat.le_of_lt HG.out)
            go_wp2
            go_ret
            exact ⟨by rw [R.out]; rfl, R2.out⟩
          have hl := of_decide_eq_true tl
          obtain ⟨d0, d1⟩ := HP.out
          rw [Nat.zero_add] at d1
          have HH : Hid _ := hold w5 g N N ss ss.length (by omega) (Nat.le_refl _) HBL4.out p hl.1 hl.2
          go_wp2_with fail
          refine Calls.mono HH.out ?_
          rintro e w6 ⟨rfl, k6⟩
          have HV6 : Hid _ := Kept.trans HV4.out (k6.mono (lo' := g) (hi' := g + 1) fun b _ c => by omega)
          have HBL6 : Hid _ := BL.keep HBL4.out k6 (.inr (.inr (Nat.le_refl _)))
          clear d0 d1 k6 HH HV4 HBL4 HP
          simp only
          cases th : holdB ss ss.length (N : Int) p.off p.len
          · have R : Hid _ := HBAD.out (by unfold outB; rw [th, Bool.and_false])
            have R2 : Hid _ := HK.out.new HV6.out (Nat.le_of_lt HG.out)
            go_wp2
            go_ret
            exact ⟨by rw [R.out]; rfl, R2.out⟩
          · have R : Hid _ := HSN.out (by unfold outB; rw [tl, th]; rfl)
            go_wp2
            go_roundw
            case rel => exact ⟨j + 1, by omega, by go_num, R, HBL6, HV6⟩
            case measure => simp [intOf]; omega
        · have R : Hid (verM ins ss os (N : Int) = true) := by
            show _ = _
            have := hO.out
            rw [List.take_of_length_le (by rw [HN.out.2.1]; omega)] at this
            unfold verM
            rw [HM.out, this, HN.out.1, HA.out]; rfl
          have R2 : Hid _ := HK.out.new hV.out (Nat.le_of_lt HG.out)
          go_wp2
          go_ret
          exact ⟨by rw [R.out]; rfl, R2.out⟩
end Go.Proofs.Ytdkjdlimcnddkaa
