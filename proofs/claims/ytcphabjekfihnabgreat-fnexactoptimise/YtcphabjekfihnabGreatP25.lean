import Derived.Test.YtcphabjekfihnabGreatP24
namespace Go.Proofs.YtcphabjekfihnabGreat
open Go.RowKit Flt
attribute [local go_sem] alloc_drewN setCell_drewN run_store_float

/-! The two plain closures of withEqual. -/
set_option maxRecDepth 100000 in
set_option maxHeartbeats 2000000 in
theorem neg1 (w : World) (g n c i : Nat) (us : List Vl) (h : VA w g n us) (hi : i < n) (ha : (us.getD i Vl.zero).op = 6 → 0 ≤ (us.getD i Vl.zero).a ∧ (us.getD i Vl.zero).a < n) :
    Calls Tryz.prog 74 #[.slice (some ⟨g, 0, none⟩) n c, .int .i64 (i : Nat)] w fun e w' => e = .returned (.int .i64 (if (us.getD i Vl.zero).op = 6 ∧ (us.getD (us.getD i Vl.zero).a.toNat Vl.zero).op = 6 then (us.getD (us.getD i Vl.zero).a.toNat Vl.zero).a else i)) ∧ Kept 0 0 w w' := by
  obtain ⟨c0, c1, c2, c3, c4, c5⟩ := h.at_ i hi
  have HV : Hid _ := h
  clear h
  generalize us.getD i Vl.zero = v at *
  cases t1 : (v.op == 6)
  · have e1 : ¬ (v.op = 6 ∧ (us.getD v.a.toNat Vl.zero).op = 6) := fun q => by rw [q.1] at t1; cases t1
    rw [if_neg e1]
    clear e1 ha HV
    go_enter Tryz.func74, Tryz.ntmps74
    go_wp2
    go_ret
    exact ⟨rfl, kept_alloc _ _ _ _⟩
  · have h6 : v.op = 6 := by simpa using t1
    obtain ⟨A, hA, hAn⟩ : ∃ A : Nat, v.a = A ∧ A < n := ⟨v.a.toNat, by have := ha h6; omega, by have := ha h6; omega⟩
    obtain ⟨d0, d1, d2, d3, d4, d5⟩ := HV.out.at_ A hAn
    have hlt := HV.out.lt
    have k0 := kept_alloc 0 0 w (vbox v.op v.len v.a v.b v.c v.k)
    replace d0 := kcell k0 hlt d0
    replace d2 := kcell k0 hlt d2
    rw [hA] at c2 d0 d2
    rw [hA, Int.toNat_natCast]
    generalize us.getD A Vl.zero = u at *
    clear HV d1 d3 d4 d5 k0 ha
    cases t2 : (u.op == 6)
    · have e1 : ¬ (v.op = 6 ∧ u.op = 6) := fun q => by rw [q.2] at t2; cases t2
      rw [if_neg e1]
      clear e1 h6
      go_enter Tryz.func74, Tryz.ntmps74
      go_wp2
      go_ret
      exact ⟨rfl, kept_alloc _ _ _ _⟩
    · have e1 : v.op = 6 ∧ u.op = 6 := ⟨h6, by simpa using t2⟩
      rw [if_pos e1]
      clear e1 h6
      go_enter Tryz.func74, Tryz.ntmps74
      go_wp2
      go_ret
      exact ⟨rfl, kept_alloc _ _ _ _⟩
/-- What the unit's closure answers. -/
def unitR (us : List Vl) (v : Vl) (i : Nat) : Int :=
  if unitB v.op = true then (if isC us v.b (unitF v.op) = true then v.a else if eitherB v.op = true ∧ isC us v.a (unitF v.op) = true then v.b else i) else i
theorem fb_unitF (op : Int) : fb (unitF op) = unitF op := by
  unfold unitF
  split
  · decide
  · split <;> decide
theorem unitB_cnt {op : Int} (h : unitB op = true) : cnt op = 2 := cnt2 (by have := of_decide_eq_true h; omega)
set_option maxRecDepth 100000 in
set_option maxHeartbeats 4000000 in
theorem unit1 (w : World) (g n c i : Nat) (us : List Vl) (h : VA w g n us) (hi : i < n) (hab : unitB (us.getD i Vl.zero).op = true → (0 ≤ (us.getD i Vl.zero).a ∧ (us.getD i Vl.zero).a < n) ∧ (0 ≤ (us.getD i Vl.zero).b ∧ (us.getD i Vl.zero).b < n)) :
    Calls Tryz.prog 75 #[.slice (some ⟨g, 0, none⟩) n c, .int .i64 (i : Nat)] w fun e w' => e = .returned (.int .i64 (unitR us (us.getD i Vl.zero) i)) ∧ Kept 0 0 w w' := by
  obtain ⟨c0, c1, c2, c3, c4, c5⟩ := h.at_ i hi
  have HV : Hid _ := h
  clear h
  generalize us.getD i Vl.zero = v at *
  have HR : Hid (∀ w, Calls Tryz.prog 76 #[.int .i64 v.op] w fun e w' => e = .returned (.tuple #[.float .f64 (unitF v.op), .bool (unitB v.op)]) ∧ w' = w) := rightUnit v.op
  have HE : Hid (∀ w, Calls Tryz.prog 78 #[.int .i64 v.op] w fun e w' => e = .returned (.bool (eitherB v.op)) ∧ w' = w) := isEither v.op
  have hfu := fb_unitF v.op
  unfold unitR
  cases hu : unitB v.op
  · rw [if_neg (by simp)]
    rw [hu] at HR
    clear hab HV HE hfu
    go_enter Tryz.func75, Tryz.ntmps75
    go_wp2_with (go_at_call 76; refine Calls.mono (HR.out _) ?_; rintro e w2 ⟨rfl, rfl⟩)
    go_ret
    exact ⟨rfl, kept_alloc _ _ _ _⟩
  rw [if_pos rfl]
  rw [hu] at HR
  obtain ⟨⟨a0, a1⟩, b0, b1⟩ := hab hu
  obtain ⟨A, hA, hAn⟩ : ∃ A : Nat, v.a = A ∧ A < n := ⟨v.a.toNat, by omega, by omega⟩
  obtain ⟨B, hB, hBn⟩ : ∃ B : Nat, v.b = B ∧ B < n := ⟨v.b.toNat, by omega, by omega⟩
  have HCB : Hid (∀ w, Calls Tryz.prog 77 #[(us.getD B Vl.zero).agg, .float .f64 (unitF v.op)] w fun e w' => e = .returned (.bool (isC us v.b (unitF v.op))) ∧ Kept 0 0 w w') := fun w => by
    have := isConstOf w (us.getD B Vl.zero) (unitF v.op)
    rw [hfu] at this
    unfold isC
    rw [hB, Int.toNat_natCast]
    exact this
  have HCA : Hid (∀ w, Calls Tryz.prog 77 #[(us.getD A Vl.zero).agg, .float .f64 (unitF v.op)] w fun e w' => e = .returned (.bool (isC us v.a (unitF v.op))) ∧ Kept 0 0 w w') := fun w => by
    have := isConstOf w (us.getD A Vl.zero) (unitF v.op)
    rw [hfu] at this
    unfold isC
    rw [hA, Int.toNat_natCast]
    exact this
  clear a0 a1 b0 b1 hab hfu
  generalize isC us v.b (unitF v.op) = qb at HCB ⊢
  generalize isC us v.a (unitF v.op) = qa at HCA ⊢
  generalize unitF v.op = uf at HR HCA HCB
  obtain ⟨vo, vl, va, vb, vc, vk⟩ := v
  simp only at hA hB c0 c1 c2 c3 c4 c5 HR HE HCA HCB hu ⊢
  subst hA hB
  have k0 := kept_alloc 0 0 w (vbox vo vl A B vc vk)
  have hlt := HV.out.lt
  have HX : Hid (At (w.alloc (vbox vo vl A B vc vk)) w.heap.size 0 ⟨vo, vl, A, B, vc, vk⟩) := vbox_atJ w ⟨vo, vl, A, B, vc, vk⟩
  have HA : Hid _ := (HV.out.at_ A hAn).keep hlt k0 (.inr (.inr (Nat.le_refl _)))
  have HB : Hid _ := (HV.out.at_ B hBn).keep hlt k0 (.inr (.inr (Nat.le_refl _)))
  have HZ : Hid (w.heap.size < (w.alloc (vbox vo vl A B vc vk)).heap.size ∧ g < (w.alloc (vbox vo vl A B vc vk)).heap.size) := ⟨by simp, Nat.lt_of_lt_of_le hlt k0.size⟩
  have HK0 : Hid _ := k0
  generalize eitherB vo = eb at HE ⊢
  generalize us.getD A Vl.zero = ua at HA HCA
  generalize us.getD B Vl.zero = ub at HB HCB
  clear HV k0 hlt hu
  obtain ⟨s0, s1, s2, s3, s4, s5⟩ := HB.out
  go_enter Tryz.func75, Tryz.ntmps75
  go_wp2_with (first | (go_at_call 76; refine Calls.mono (HR.out _) ?_; rintro e w2 ⟨rfl, rfl⟩) | fail)
  generalize w.alloc (vbox vo vl A B vc vk) = w1 at HX HA HB HZ HK0 ⊢
  clear c0 c1 c2 c3 c4 c5 s0 s1 s2 s3 s4 s5 HB
  refine Calls.mono (HCB.out _) ?_
  rintro e w2 ⟨rfl, k2⟩
  obtain ⟨x0, x1, x2, x3, x4, x5⟩ := HX.out.keep HZ.out.1 k2 (.inr (.inr (Nat.le_refl _)))
  obtain ⟨t0, t1, t2, t3, t4, t5⟩ := HA.out.keep HZ.out.2 k2 (.inr (.inr (Nat.le_refl _)))
  have HK2 : Hid _ := HK0.out.trans k2
  have HX2 : Hid (w.heap.size < w2.heap.size) := Nat.lt_of_lt_of_le HZ.out.1 k2.size
  clear k2 HX HA HZ HK0
  cases qb
  · cases eb
    · go_wp2_with (go_at_call 78; refine Calls.mono (HE.out _) ?_; rintro e w3 ⟨rfl, rfl⟩)
      go_ret
      exact ⟨rfl, HK2.out⟩
    · go_wp2_with (first | (go_at_call 78; refine Calls.mono (HE.out _) ?_; rintro e w3 ⟨rfl, rfl⟩) | fail)
      refine Calls.mono (HCA.out _) ?_
      rintro e w3 ⟨rfl, k3⟩
      have y3 := kcell k3 HX2.out x3
      have HK3 : Hid _ := HK2.out.trans k3
      clear k3
      cases qa
      · go_wp2
        go_ret
        exact ⟨rfl, HK3.out⟩
      · go_wp2
        go_ret
        exact ⟨rfl, HK3.out⟩
  · go_wp2
    go_ret
    exact ⟨rfl, HK2.out⟩
end Go.Proofs.YtcphabjekfihnabGreat
