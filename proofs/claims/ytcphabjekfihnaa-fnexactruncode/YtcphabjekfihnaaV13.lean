import Derived.Test.YtcphabjekfihnaaV12
import Derived.Test.YtcphabjekfihnaaV11
namespace Go.Proofs.Ytcphabjekfihnaa
open Go.RowKit Flt
attribute [local go_sem] alloc_drewN setCell_drewN run_store_float

set_option maxRecDepth 100000 in
set_option maxHeartbeats 4000000 in
theorem keepLim (w : World) (lo hi : Nat) (a1 a2 a3 : Option Addr) (n1 c1 n2 c2 n3 c3 : Nat) (pk : Int) (ins : List Int) (f : IS w lo hi a1 n1 ins) :
    Calls Try.prog 135 #[cagg a1 n1 c1 a2 n2 c2 a3 n3 c3 pk] w fun e w' => e = .returned (.bool (limC ins n2 n3 pk)) ∧ Kept 0 0 w w' := by
  have hK := kept_alloc 0 0 w (cbox a1 n1 c1 a2 n2 c2 a3 n3 c3 pk)
  have HF : Hid _ := f.keep hK (.inr (.inr (Nat.le_refl _)))
  have HL : Hid (ins.length = n1) := f.len
  have HB : Hid _ := c0_start w (.slice a1 n1 c1) (.slice a2 n2 c2) (.slice a3 n3 c3) (.int .i64 pk)
  have HK : Hid _ := hK
  clear f hK
  by_cases g1 : n1 ≤ 20
  · have b1 : decide ((20 : Int) < (n1 : Int)) = false := decide_eq_false (by omega)
    by_cases g2 : n2 ≤ 2000
    · have b2 : decide ((2000 : Int) < (n2 : Int)) = false := decide_eq_false (by omega)
      by_cases g3 : n3 ≤ 50
      · have b3 : decide ((50 : Int) < (n3 : Int)) = false := decide_eq_false (by omega)
        have HQ : Hid (limC ins n2 n3 pk = (ins.all lenB && decide (0 ≤ pk ∧ pk ≤ 50000))) := by
          show _ = _
          unfold limC
          rw [HL.out, decide_eq_true g1, decide_eq_true g2, decide_eq_true g3]; rfl
        go_enter Try.func135, Try.ntmps135
        go_wp2_with fail
        generalize w.alloc (cbox a1 n1 c1 a2 n2 c2 a3 n3 c3 pk) = w1 at HF HB HK ⊢
        go_loop [24] (fun i => ∃ k : Nat, k ≤ n1 ∧ i = .int .i64 k ∧ Hid ((ins.take k).all lenB = true)) (fun i => n1 - (intOf i).toNat)
        case atStart => exact ⟨0, Nat.zero_le _, rfl, rfl⟩
        case round =>
          obtain ⟨k, hk, rfl, hA⟩ := hrel
          by_cases hlt : k < n1
          · rcases HF.out.at_ with z0 | ⟨ga, oa, ea, z1, z2, z3, z4⟩
            · omega
            have c := z4 k hlt
            subst ea
            clear z1 z2 z3 z4
            cases hx : lenB (ins.getD k 0)
            · have R : Hid (limC ins n2 n3 pk = false) := by
                show _ = _
                rw [HQ.out, allI_bad (by rw [HL.out]; exact hlt) hx]; rfl
              have HI : Hid _ := isLength_any (ins.getD k 0) w1
              rw [hx] at HI
              generalize ins.getD k 0 = y at c HI
              clear hx hA
              go_wp2_with fail
              refine Calls.mono HI.out ?_
              rintro e w2 ⟨rfl, rfl⟩
              go_wp2
              go_ret
              exact ⟨by rw [R.out]; rfl, HK.out⟩
            · have R : Hid _ := allI_snoc (p := lenB) (by rw [HL.out]; exact hlt) hA.out hx
              have HI : Hid _ := isLength_any (ins.getD k 0) w1
              rw [hx] at HI
              generalize ins.getD k 0 = y at c HI
              clear hx hA
              go_wp2_with fail
              refine Calls.mono HI.out ?_
              rintro e w2 ⟨rfl, rfl⟩
              go_wp2
              go_round
              case rel => exact ⟨k + 1, by omega, by go_num, R⟩
              case measure => simp [intOf]; omega
          · have HA : Hid (limC ins n2 n3 pk = decide (0 ≤ pk ∧ pk ≤ 50000)) := by
              show _ = _
              have := hA.out
              rw [List.take_of_length_le (by rw [HL.out]; omega)] at this
              rw [HQ.out, this]; rfl
            obtain ⟨_, q0, q1, q2, q3⟩ := HB.out
            clear hA
            by_cases u1 : 0 ≤ pk
            · have R : Hid (limC ins n2 n3 pk = decide (pk ≤ 50000)) := by
                show _ = _
                rw [HA.out, Bool.eq_iff_iff]; simp [u1]
              have u1' : decide (0 ≤ pk) = true := decide_eq_true u1
              go_wp2
              go_ret
              exact ⟨by rw [R.out]; rfl, HK.out⟩
            · have R : Hid (limC ins n2 n3 pk = false) := by
                show _ = _
                rw [HA.out]; exact decide_eq_false (fun c => u1 c.1)
              have u1' : decide (0 ≤ pk) = false := decide_eq_false u1
              go_wp2
              go_ret
              exact ⟨by rw [R.out]; rfl, HK.out⟩
      · have R : Hid (limC ins n2 n3 pk = false) := by
          show _ = _
          unfold limC; rw [decide_eq_false g3]; simp
        have b3 : decide ((50 : Int) < (n3 : Int)) = true := decide_eq_true (by omega)
        go_enter Try.func135, Try.ntmps135
        go_wp2
        go_ret
        exact ⟨by rw [R.out]; rfl, HK.out⟩
    · have R : Hid (limC ins n2 n3 pk = false) := by
        show _ = _
        unfold limC; rw [decide_eq_false g2]; simp
      have b2 : decide ((2000 : Int) < (n2 : Int)) = true := decide_eq_true (by omega)
      go_enter Try.func135, Try.ntmps135
      go_wp2
      go_ret
      exact ⟨by rw [R.out]; rfl, HK.out⟩
  · have R : Hid (limC ins n2 n3 pk = false) := by
      show _ = _
      unfold limC; rw [HL.out, decide_eq_false g1]; simp
    have b1 : decide ((20 : Int) < (n1 : Int)) = true := decide_eq_true (by omega)
    go_enter Try.func135, Try.ntmps135
    go_wp2
    go_ret
    exact ⟨by rw [R.out]; rfl, HK.out⟩
end Go.Proofs.Ytcphabjekfihnaa

namespace Go.Proofs.Ytcphabjekfihnaa
open Go.RowKit Flt
attribute [local go_sem] alloc_drewN setCell_drewN run_store_float

/-- The boxes of fieldsFit: the step's and the value's. -/
structure FB (W : World) (p q : Nat) (s : Ste) : Prop where
  sa : AtT W p 0 s
  va : At W q 0 (vlOf s)
  lp : p < W.heap.size
  lq : q < W.heap.size
theorem FB.keep {W W' : World} {p q : Nat} {s : Ste} (t : FB W p q s) (k : Kept 0 0 W W') : FB W' p q s :=
  ⟨t.sa.keep t.lp k (.inr (.inr (Nat.le_refl _))), t.va.keep t.lq k (.inr (.inr (Nat.le_refl _))), Nat.lt_of_lt_of_le t.lp k.size, Nat.lt_of_lt_of_le t.lq k.size⟩
theorem is3 (w : World) (x y z : Int) (m : Nat) (hm : m ≤ 3) : IS (w.alloc (.cells #[.int .i64 x, .int .i64 y, .int .i64 z] 3)) 0 (w.heap.size + 1) (some ⟨w.heap.size, 0, none⟩) m ([x, y, z].take m) := by
  refine ⟨by simp; omega, .inr ⟨w.heap.size, 0, rfl, Nat.zero_le _, by omega, by simp, fun k hk => ?_⟩⟩
  rw [List.getD_eq_getElem?_getD, List.getElem?_take_of_lt hk, ← List.getD_eq_getElem?_getD]
  rcases (by omega : k = 0 ∨ k = 1 ∨ k = 2) with rfl | rfl | rfl
  all_goals first | (go_simp; done) | (simp; done)
theorem vl_box (w : World) (v : Vl) : At (w.alloc (vbox v.op v.len v.a v.b v.c v.k)) w.heap.size 0 v := by
  refine ⟨?_, ?_, ?_, ?_, ?_, ?_⟩
  all_goals first | (go_simp; done) | (simp; done)
set_option maxRecDepth 100000 in
set_option maxHeartbeats 8000000 in
theorem fieldsFit (w : World) (lo hi : Nat) (s : Ste) (a : Option Addr) (n cap : Nat) (ins : List Int) (f : IS w lo hi a n ins) :
    Calls Try.prog 136 #[s.agg, .slice a n cap] w fun e w' => e = .returned (.bool (formB ins s)) ∧ Kept 0 0 w w' := by
  have HF : Hid _ := f
  have HL : Hid (ins.length = n) := f.len
  have k0 := kept_alloc 0 0 w s.box
  have HB0 : Hid _ := ste_box w s
  have hz0 : w.heap.size < (w.alloc s.box).heap.size := by simp
  have HI : Hid (∀ w, Calls Try.prog 82 #[.int .i64 s.len] w fun e w' => e = .returned (.bool (lenB s.len)) ∧ w' = w) := fun w => isLength_any s.len w
  have HS : Hid (∀ w, Calls Try.prog 148 #[(vlOf s).agg] w fun e w' => e = .returned (.bool (spareB (vlOf s))) ∧ Kept 0 0 w w') := fun w => spareFields w (vlOf s)
  have HC : Hid (∀ w, Calls Try.prog 84 #[.int .i64 s.op] w fun e w' => e = .returned (.int .i64 (cnt s.op : Nat)) ∧ w' = w) := fun w => opCount s.op w
  clear f
  go_enter Try.func136, Try.ntmps136
  go_wp2_with fail
  refine (valOf _ s).mono ?_
  rintro e w1 ⟨rfl, k1⟩
  have ka := kept_alloc 0 0 w1 (vbox (vlOf s).op (vlOf s).len (vlOf s).a (vlOf s).b (vlOf s).c (vlOf s).k)
  have HB : Hid (FB (w1.alloc (vbox (vlOf s).op (vlOf s).len (vlOf s).a (vlOf s).b (vlOf s).c (vlOf s).k)) w.heap.size w1.heap.size s) := ⟨HB0.out.keep hz0 (k1.trans ka) (.inr (.inr (Nat.le_refl _))), vl_box w1 (vlOf s), by have := k1.size; simp at this ⊢; omega, by simp⟩
  have HK : Hid _ := (k0.trans k1).trans ka
  obtain ⟨⟨d0, d1, d2, d3, d4, d5, d6, d7⟩, ⟨v0, v1, v2, v3, v4, v5⟩, _, _⟩ := HB.out
  simp only [Nat.zero_add] at d1 d2 d3 d4 d5 d6 d7 v1 v2 v3 v4 v5
  clear k0 k1 ka HB0 hz0
  go_wp2_with fail
  generalize hQ9 : w1.heap.size = Q at HB v0 v1 v2 v3 v4 v5 ⊢
  generalize w1.alloc (vbox (vlOf s).op (vlOf s).len (vlOf s).a (vlOf s).b (vlOf s).c (vlOf s).k) = w2 at HB HK d0 d1 d2 d3 d4 d5 d6 d7 v0 v1 v2 v3 v4 v5 ⊢
  clear hQ9
  refine (HI.out _).mono ?_
  rintro e w3 ⟨rfl, rfl⟩
  cases tl : lenB s.len
  · have R : Hid (formB ins s = false) := by show _ = _; unfold formB; rw [tl]; simp
    go_wp2
    go_ret
    exact ⟨by rw [R.out]; rfl, HK.out⟩
  go_wp2_with fail
  refine (HS.out _).mono ?_
  rintro e w4 ⟨rfl, k4⟩
  replace HB : Hid _ := HB.out.keep k4
  replace HK : Hid _ := Kept.trans HK.out k4
  clear k4 d0 d1 d2 d3 d4 d5 d6 d7 v0 v1 v2 v3 v4 v5
  obtain ⟨⟨d0, d1, d2, d3, d4, d5, d6, d7⟩, ⟨v0, v1, v2, v3, v4, v5⟩, _, _⟩ := HB.out
  simp only [Nat.zero_add] at d1 d2 d3 d4 d5 d6 d7 v1 v2 v3 v4 v5
  cases ts : spareB (vlOf s)
  · have R : Hid (formB ins s = false) := form_spare ts
    go_wp2
    go_ret
    exact ⟨by rw [R.out]; rfl, HK.out⟩
  have HQ : Hid (formB ins s = ((!(decide (cnt s.op = 0) && s.n != 0)) && (if s.op = 0 then idxB s.a ins.length && ins.getD s.a.toNat 0 == s.len else shapeB s.op s.len s.c ([s.n, s.len, s.len].take (cnt s.op))))) := by
    show _ = _
    unfold formB
    rw [tl, ts]; simp
  go_wp2_with fail
  refine (HC.out _).mono ?_
  rintro e w5 ⟨rfl, rfl⟩
  have hc3 := cnt_le s.op
  cases tc : decide (cnt s.op = 0) && s.n != 0
  case true =>
    have R : Hid (formB ins s = false) := by show _ = _; rw [HQ.out, tc]; rfl
    have t2 : cnt s.op = 0 ∧ (s.n != 0) = true := by
      rw [Bool.and_eq_true] at tc
      exact ⟨of_decide_eq_true tc.1, tc.2⟩
    have t3 : (((cnt s.op : Nat) : Int) == 0) = true := by rw [t2.1]; rfl
    have t4 := t2.2
    go_wp2
    go_ret
    exact ⟨by rw [R.out]; rfl, HK.out⟩
  have HQ2 : Hid (formB ins s = (if s.op = 0 then idxB s.a ins.length && ins.getD s.a.toNat 0 == s.len else shapeB s.op s.len s.c ([s.n, s.len, s.len].take (cnt s.op)))) := by
    show _ = _
    rw [HQ.out, tc]; rfl
  have HTC : Hid _ := tc
  clear HQ tc
  by_cases hc0 : cnt s.op = 0
  · have t3 : (((cnt s.op : Nat) : Int) == 0) = true := by rw [hc0]; rfl
    have t4 : (s.n != 0) = false := by
      have := HTC.out
      rw [decide_eq_true hc0, Bool.true_and] at this
      exact this
    by_cases h0 : s.op = 0
    · have t0 : (s.op == 0) = true := beq_iff_eq.2 h0
      have HFW : Hid _ := IS.keep HF.out HK.out (.inr (.inr (Nat.le_refl _)))
      by_cases hA : 0 ≤ s.a ∧ s.a < n
      · obtain ⟨j, hj⟩ : ∃ j : Nat, s.a = j := ⟨s.a.toNat, by omega⟩
        have hjn : j < n := by omega
        have EQ : Hid (formB ins s = (ins.getD j 0 == s.len)) := by
          show _ = _
          rw [HQ2.out, if_pos h0, HL.out, show idxB s.a n = true from decide_eq_true hA, hj]; rfl
        have hI : Hid (∀ w, Calls Try.prog 103 #[.int .i64 (j : Int), .int .i64 (n : Int)] w fun e w' => e = .returned (.bool true) ∧ w' = w) := fun w => by
          have := isIndex_any (j : Int) n w
          rw [show idxB (j : Int) n = true from decide_eq_true (by omega)] at this
          exact this
        rcases HFW.out.at_ with z0 | ⟨ga, oa, ea, z1, z2, z3, z4⟩
        · omega
        have c0 := z4 j hjn
        subst ea
        rw [hj] at d4
        generalize ins.getD j 0 = y at c0 EQ
        have j0 : (0 : Int) ≤ (j : Int) := by omega
        have j1 : (j : Int) < (n : Int) := by omega
        clear z1 z2 z3 z4 hA hj
        go_wp2_with fail
        go_quiet ((go_at_call 103; exact Calls.quiet_of_same (hI.out _)))
        go_wp2
        go_ret
        exact ⟨by rw [EQ.out]; rfl, HK.out.trans (kept_drewN 0 0 _ _)⟩
      · have EQ : Hid (formB ins s = false) := by
          show _ = _
          rw [HQ2.out, if_pos h0, HL.out, show idxB s.a n = false from decide_eq_false hA]; rfl
        have hI : Hid (∀ w, Calls Try.prog 103 #[.int .i64 s.a, .int .i64 (n : Int)] w fun e w' => e = .returned (.bool false) ∧ w' = w) := fun w => by
          have := isIndex_any s.a n w
          rw [show idxB s.a n = false from decide_eq_false hA] at this
          exact this
        clear hA
        go_wp2_with fail
        go_quiet ((go_at_call 103; exact Calls.quiet_of_same (hI.out _)))
        go_wp2
        go_ret
        exact ⟨by rw [EQ.out]; rfl, HK.out.trans (kept_drewN 0 0 _ _)⟩
    · have t0 : (s.op == 0) = false := beq_eq_false_iff_ne.2 h0
      have EQ : Hid _ := HQ2.out
      rw [if_neg h0] at EQ
      have i1 : (0 : Int) ≤ ((cnt s.op : Nat) : Int) := by omega
      have i2 : ((cnt s.op : Nat) : Int) ≤ (3 : Int) := by omega
      have ka := kept_alloc 0 0 w5 (.cells #[.int .i64 s.n, .int .i64 s.len, .int .i64 s.len] 3)
      have HB' : Hid _ := HB.out.keep ka
      have HK' : Hid _ := Kept.trans HK.out ka
      obtain ⟨⟨x0, x1, x2, x3, x4, x5, x6, x7⟩, ⟨y0, y1, y2, y3, y4, y5⟩, _, _⟩ := HB'.out
      simp only [Nat.zero_add] at x1 x2 x3 x4 x5 x6 x7 y1 y2 y3 y4 y5
      have HI3 : Hid _ := is3 w5 s.n s.len s.len (cnt s.op) hc3
      clear ka
      go_wp2_with fail
      clear d0 d1 d2 d3 d4 d5 d6 d7 v0 v1 v2 v3 v4 v5
      have HSF : Hid (∀ m, Calls Try.prog 83 #[(vlOf s).agg, .slice (some ⟨w5.heap.size, 0, none⟩) (cnt s.op) 3] ((w5.alloc (.cells #[.int .i64 s.n, .int .i64 s.len, .int .i64 s.len] 3)).drewN m) fun e w' => e = .returned (.bool (shapeB s.op s.len s.c ([s.n, s.len, s.len].take (cnt s.op)))) ∧ Kept 0 0 w w' ∧ Kept 0 0 (w5.alloc (.cells #[.int .i64 s.n, .int .i64 s.len, .int .i64 s.len] 3)) w') := fun m => (shapeFits _ (vlOf s).op (vlOf s).len (vlOf s).a (vlOf s).b (vlOf s).c (vlOf s).k _ _ _ _ _ _ (IS.keep HI3.out (kept_drewN 0 0 _ m) (.inr (.inr (Nat.le_refl _)))) rfl).mono fun e w' h => ⟨h.1, Kept.trans HK'.out (Kept.trans (kept_drewN 0 0 _ m) h.2), Kept.trans (kept_drewN 0 0 _ m) h.2⟩
      generalize w5.alloc (.cells #[.int .i64 s.n, .int .i64 s.len, .int .i64 s.len] 3) = w6 at HB' HK' HI3 HSF x0 x1 x2 x3 x4 x5 x6 x7 y0 y1 y2 y3 y4 y5 ⊢
      rw [hc0] at HSF EQ
      clear hc0 t3 t4 t0 h0 HQ2 HTC hc3 x0 x1 x2 x3 x4 x5 x6 x7 tl ts HI HS HC HF HL HI3 HK HB
      go_region_held3 (fun w' => w'.cell? ⟨Q, 0, none⟩ = some (.int .i64 (vlOf s).op) ∧ w'.cell? ⟨Q, 1, none⟩ = some (.int .i64 (vlOf s).len) ∧ w'.cell? ⟨Q, 2, none⟩ = some (.int .i64 (vlOf s).a) ∧ w'.cell? ⟨Q, 3, none⟩ = some (.int .i64 (vlOf s).b) ∧ w'.cell? ⟨Q, 4, none⟩ = some (.int .i64 (vlOf s).c) ∧ w'.cell? ⟨Q, 5, none⟩ = some (.float .f64 (vlOf s).k)) (go_keep) (first | (go_at_call 83; refine Calls.mono (HSF.out 1) ?_; rintro e w7 ⟨rfl, k7, k8⟩; obtain ⟨_, ⟨z0, z1, z2, z3, z4, z5⟩, _, _⟩ := FB.keep HB'.out k8; simp only [Nat.zero_add] at z1 z2 z3 z4 z5))
      all_goals
        go_wp2
        go_ret
        exact ⟨by rw [EQ.out]; rfl, k7⟩
  · have t3 : (((cnt s.op : Nat) : Int) == 0) = false := by rw [beq_eq_false_iff_ne]; omega
    have h0 : s.op ≠ 0 := fun e => hc0 (by rw [e]; rfl)
    have t0 : (s.op == 0) = false := beq_eq_false_iff_ne.2 h0
    have EQ : Hid _ := HQ2.out
    rw [if_neg h0] at EQ
    have i1 : (0 : Int) ≤ ((cnt s.op : Nat) : Int) := by omega
    have i2 : ((cnt s.op : Nat) : Int) ≤ (3 : Int) := by omega
    have ka := kept_alloc 0 0 w5 (.cells #[.int .i64 s.n, .int .i64 s.len, .int .i64 s.len] 3)
    have HB' : Hid _ := HB.out.keep ka
    have HK' : Hid _ := Kept.trans HK.out ka
    obtain ⟨⟨x0, x1, x2, x3, x4, x5, x6, x7⟩, ⟨y0, y1, y2, y3, y4, y5⟩, _, _⟩ := HB'.out
    simp only [Nat.zero_add] at x1 x2 x3 x4 x5 x6 x7 y1 y2 y3 y4 y5
    have HI3 : Hid _ := is3 w5 s.n s.len s.len (cnt s.op) hc3
    clear ka
    go_wp2_with fail
    clear d0 d1 d2 d3 d4 d5 d6 d7 v0 v1 v2 v3 v4 v5
    have HSF : Hid (∀ m, Calls Try.prog 83 #[(vlOf s).agg, .slice (some ⟨w5.heap.size, 0, none⟩) (cnt s.op) 3] ((w5.alloc (.cells #[.int .i64 s.n, .int .i64 s.len, .int .i64 s.len] 3)).drewN m) fun e w' => e = .returned (.bool (shapeB s.op s.len s.c ([s.n, s.len, s.len].take (cnt s.op)))) ∧ Kept 0 0 w w' ∧ Kept 0 0 (w5.alloc (.cells #[.int .i64 s.n, .int .i64 s.len, .int .i64 s.len] 3)) w') := fun m => (shapeFits _ (vlOf s).op (vlOf s).len (vlOf s).a (vlOf s).b (vlOf s).c (vlOf s).k _ _ _ _ _ _ (IS.keep HI3.out (kept_drewN 0 0 _ m) (.inr (.inr (Nat.le_refl _)))) rfl).mono fun e w' h => ⟨h.1, Kept.trans HK'.out (Kept.trans (kept_drewN 0 0 _ m) h.2), Kept.trans (kept_drewN 0 0 _ m) h.2⟩
    generalize w5.alloc (.cells #[.int .i64 s.n, .int .i64 s.len, .int .i64 s.len] 3) = w6 at HB' HK' HI3 HSF x0 x1 x2 x3 x4 x5 x6 x7 y0 y1 y2 y3 y4 y5 ⊢
    clear hc0 t3 t0 h0 HQ2 HTC hc3 x0 x1 x2 x3 x4 x5 x6 x7 tl ts HI HS HC HF HL HI3 HK HB
    go_region_held3 (fun w' => w'.cell? ⟨Q, 0, none⟩ = some (.int .i64 (vlOf s).op) ∧ w'.cell? ⟨Q, 1, none⟩ = some (.int .i64 (vlOf s).len) ∧ w'.cell? ⟨Q, 2, none⟩ = some (.int .i64 (vlOf s).a) ∧ w'.cell? ⟨Q, 3, none⟩ = some (.int .i64 (vlOf s).b) ∧ w'.cell? ⟨Q, 4, none⟩ = some (.int .i64 (vlOf s).c) ∧ w'.cell? ⟨Q, 5, none⟩ = some (.float .f64 (vlOf s).k)) (go_keep) (first | (go_at_call 83; refine Calls.mono (HSF.out 1) ?_; rintro e w7 ⟨rfl, k7, k8⟩; obtain ⟨_, ⟨z0, z1, z2, z3, z4, z5⟩, _, _⟩ := FB.keep HB'.out k8; simp only [Nat.zero_add] at z1 z2 z3 z4 z5))
    all_goals
      go_wp2
      go_ret
      exact ⟨by rw [EQ.out]; rfl, k7⟩
end Go.Proofs.Ytcphabjekfihnaa
