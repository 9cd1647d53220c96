import Derived.Test.YtcphabjekfihnabGreatP43
namespace Go.Proofs.YtcphabjekfihnabGreat
open Go.RowKit Flt
attribute [local go_sem] alloc_drewN setCell_drewN run_store_float

theorem run_neg0 (w : World) : (Op.unary .neg (.float .f64 0)).run Tryz.prog w = .ok (.float .f64 9223372036854775808) w := rfl
/-- The operand to which a value is equal by PassUnit, or -1. -/
def unitS (us : List Vl) (v : Vl) : Int :=
  if (v.op = 4 ∨ v.op = 5) ∧ isC us v.b 4607182418800017408 = true then v.a
  else if v.op = 4 ∧ isC us v.a 4607182418800017408 = true then v.b
  else if v.op = 3 ∧ isC us v.b 0 = true then v.a
  else if v.op = 2 ∧ isC us v.b 9223372036854775808 = true then v.a
  else if v.op = 2 ∧ isC us v.a 9223372036854775808 = true then v.b
  else -1
theorem unitS_same {us : List Vl} {v : Vl} {i : Nat} (h : unitB v.op = true → (0 ≤ v.a ∧ v.a < i) ∧ (0 ≤ v.b ∧ v.b < i)) : sameAt 4 us v i = (if 0 ≤ unitS us v then unitS us v else (i : Int)) := by
  unfold sameAt unitS
  rw [if_neg (by decide : ¬ (4 : Int) = 1), if_neg (by decide : ¬ (4 : Int) = 3)]
  cases hu : unitB v.op
  · have := of_decide_eq_false hu
    have m4 : ¬ v.op = 4 := by omega
    have m5 : ¬ v.op = 5 := by omega
    have m3 : ¬ v.op = 3 := by omega
    have m2 : ¬ v.op = 2 := by omega
    simp [m4, m5, m3, m2]
  · obtain ⟨⟨ha, _⟩, hb, _⟩ := h hu
    split
    · first | rfl | rw [if_pos ha]
    · split
      · first | rfl | rw [if_pos hb]
      · split
        · first | rfl | rw [if_pos ha]
        · split
          · first | rfl | rw [if_pos ha]
          · split
            · first | rfl | rw [if_pos hb]
            · first | rfl | rw [if_neg (by decide)]
/-- Both operands can be asked. -/
def Asked (w : World) (G : Value) (us : List Vl) (v : Vl) : Prop := ∀ W, Kept 0 0 w W → ∀ o, o = v.a ∨ o = v.b → ∀ K, K = 4607182418800017408 ∨ K = 0 ∨ K = 9223372036854775808 → Calls Tryz.prog 83 #[G, .int .i64 o, .float .f64 K] W fun e w' => e = .returned (.bool (isC us o K)) ∧ Kept 0 0 W w'
theorem asked {w : World} {a1 a2 a3 : Option Addr} {n1 c1 n2 c2 n3 c3 lo hi i : Nat} {us : List Vl} {v : Vl} (f : VS w lo hi a2 n2 us) (ha : 0 ≤ v.a ∧ v.a < i) (hb : 0 ≤ v.b ∧ v.b < i) (hi2 : i ≤ n2) : Asked w (gagg a1 n1 c1 a2 n2 c2 a3 n3 c3) us v := by
  intro W kW o ho K hK
  have h : 0 ≤ o ∧ o < i := by rcases ho with rfl | rfl <;> assumption
  obtain ⟨m, rfl⟩ := Int.eq_ofNat_of_zero_le h.1
  obtain ⟨g, off, rfl, hg, _, _, hat⟩ := (f.keep kW (.inr (.inr (Nat.le_refl _)))).at_idx (i := m) (by omega)
  have hk : (us.getD m Vl.zero).k < 18446744073709551616 := by
    rw [List.getD_eq_getElem?_getD]
    cases hh : us[m]? with
    | none => decide
    | some x => exact f.lt x (List.mem_of_getElem? hh)
  refine (l4isConst W a1 a3 n1 c1 n2 c2 n3 c3 g off m (us.getD m Vl.zero) K hg (by omega) hat hk (by rcases hK with rfl | rfl | rfl <;> decide)).mono fun e w' q => ?_
  refine ⟨?_, q.2⟩
  rw [q.1]
  unfold isC
  rw [Int.toNat_natCast]
  have : fb K = K := by rcases hK with rfl | rfl | rfl <;> decide
  rw [this]

set_option maxRecDepth 100000 in
set_option maxHeartbeats 4000000 in
theorem l4unit_no (w : World) (a1 a2 a3 : Option Addr) (n1 c1 n2 c2 n3 c3 : Nat) (op len A B C : Int) (K : Nat) (h2 : (op == 2) = false) (h3 : (op == 3) = false) (h4 : (op == 4) = false) (h5 : (op == 5) = false) :
    Calls Tryz.prog 60 #[gagg a1 n1 c1 a2 n2 c2 a3 n3 c3, vagg op len A B C K] w fun e w' => e = .returned (.int .i64 (-1)) ∧ Kept 0 0 w w' := by
  go_enter Tryz.func60, Tryz.ntmps60
  go_wp2
  go_ret
  exact ⟨rfl, (kept_alloc 0 0 w _).trans (kept_alloc 0 0 _ _)⟩

set_option maxRecDepth 100000 in
set_option maxHeartbeats 4000000 in
theorem l4unit_4 (w : World) (a1 a2 a3 : Option Addr) (n1 c1 n2 c2 n3 c3 : Nat) (us : List Vl) (len A B C : Int) (K : Nat) (h : Asked w (gagg a1 n1 c1 a2 n2 c2 a3 n3 c3) us ⟨4, len, A, B, C, K⟩) :
    Calls Tryz.prog 60 #[gagg a1 n1 c1 a2 n2 c2 a3 n3 c3, vagg 4 len A B C K] w fun e w' => e = .returned (.int .i64 (if isC us B 4607182418800017408 = true then A else if isC us A 4607182418800017408 = true then B else -1)) ∧ Kept 0 0 w w' := by
  have k1 := (kept_alloc 0 0 w (gbox a1 n1 c1 a2 n2 c2 a3 n3 c3)).trans (kept_alloc 0 0 _ (vbox 4 len A B C K))
  have HB : Hid _ := (g0_start w (.slice a1 n1 c1) (.slice a2 n2 c2) (.slice a3 n3 c3)).keep (kept_alloc 0 0 _ (vbox 4 len A B C K))
  have hz : (w.alloc (gbox a1 n1 c1 a2 n2 c2 a3 n3 c3)).heap.size = w.heap.size + 1 := by simp
  have hX := vbox_atJ (w.alloc (gbox a1 n1 c1 a2 n2 c2 a3 n3 c3)) ⟨4, len, A, B, C, K⟩
  rw [hz] at hX
  have HX : Hid _ := hX
  have HK1 : Hid _ := k1
  have HZ : Hid (w.heap.size + 1 < ((w.alloc (gbox a1 n1 c1 a2 n2 c2 a3 n3 c3)).alloc (vbox 4 len A B C K)).heap.size) := by show _ < _; simp
  have HB1 : Hid (∀ W, Kept 0 0 w W → Calls Tryz.prog 83 #[gagg a1 n1 c1 a2 n2 c2 a3 n3 c3, .int .i64 B, .float .f64 4607182418800017408] W fun e w' => e = .returned (.bool (isC us B 4607182418800017408)) ∧ Kept 0 0 W w') := fun W kW => h W kW B (.inr rfl) 4607182418800017408 (by decide)
  have HA1 : Hid (∀ W, Kept 0 0 w W → Calls Tryz.prog 83 #[gagg a1 n1 c1 a2 n2 c2 a3 n3 c3, .int .i64 A, .float .f64 4607182418800017408] W fun e w' => e = .returned (.bool (isC us A 4607182418800017408)) ∧ Kept 0 0 W w') := fun W kW => h W kW A (.inl rfl) 4607182418800017408 (by decide)
  generalize isC us B 4607182418800017408 = qb at HB1 ⊢
  generalize isC us A 4607182418800017408 = qa at HA1 ⊢
  have hng := run_neg0
  clear k1 hz hX h
  go_enter Tryz.func60, Tryz.ntmps60
  go_wp2_with fail
  generalize (w.alloc (gbox a1 n1 c1 a2 n2 c2 a3 n3 c3)).alloc (vbox 4 len A B C K) = w1 at HB HX HK1 HZ ⊢
  refine Calls.mono (HB1.out w1 HK1.out) ?_
  rintro e w2 ⟨rfl, k2⟩
  have HK2 : Hid _ := HK1.out.trans k2
  have HB2 : Hid _ := HB.out.keep k2
  have HX2 : Hid _ := HX.out.keep HZ.out k2 (.inr (.inr (Nat.le_refl _)))
  have HZ2 : Hid (w.heap.size + 1 < w2.heap.size) := Nat.lt_of_lt_of_le HZ.out k2.size
  clear k2 HB HX HK1 HZ
  obtain ⟨_, p0, p1, p2⟩ := HB2.out
  obtain ⟨x0, x1, x2, x3, x4, x5⟩ := HX2.out
  simp only [Nat.zero_add] at x1 x2 x3 x4 x5
  cases qb
  · go_wp2_with fail
    refine Calls.mono (HA1.out w2 HK2.out) ?_
    rintro e w3 ⟨rfl, k3⟩
    have HK3 : Hid _ := HK2.out.trans k3
    obtain ⟨z0, z1, z2, z3, z4, z5⟩ := HX2.out.keep HZ2.out k3 (.inr (.inr (Nat.le_refl _)))
    simp only [Nat.zero_add] at z1 z2 z3 z4 z5
    clear k3 p0 p1 p2 x0 x1 x2 x3 x4 x5
    cases qa
    · go_wp2
      go_ret
      exact ⟨rfl, HK3.out⟩
    · go_wp2
      go_ret
      exact ⟨rfl, HK3.out⟩
  · go_wp2
    go_ret
    exact ⟨rfl, HK2.out⟩

set_option maxRecDepth 100000 in
set_option maxHeartbeats 4000000 in
theorem l4unit_5 (w : World) (a1 a2 a3 : Option Addr) (n1 c1 n2 c2 n3 c3 : Nat) (us : List Vl) (len A B C : Int) (K : Nat) (h : Asked w (gagg a1 n1 c1 a2 n2 c2 a3 n3 c3) us ⟨5, len, A, B, C, K⟩) :
    Calls Tryz.prog 60 #[gagg a1 n1 c1 a2 n2 c2 a3 n3 c3, vagg 5 len A B C K] w fun e w' => e = .returned (.int .i64 (if isC us B 4607182418800017408 = true then A else -1)) ∧ Kept 0 0 w w' := by
  have k1 := (kept_alloc 0 0 w (gbox a1 n1 c1 a2 n2 c2 a3 n3 c3)).trans (kept_alloc 0 0 _ (vbox 5 len A B C K))
  have HB : Hid _ := (g0_start w (.slice a1 n1 c1) (.slice a2 n2 c2) (.slice a3 n3 c3)).keep (kept_alloc 0 0 _ (vbox 5 len A B C K))
  have hz : (w.alloc (gbox a1 n1 c1 a2 n2 c2 a3 n3 c3)).heap.size = w.heap.size + 1 := by simp
  have hX := vbox_atJ (w.alloc (gbox a1 n1 c1 a2 n2 c2 a3 n3 c3)) ⟨5, len, A, B, C, K⟩
  rw [hz] at hX
  have HX : Hid _ := hX
  have HK1 : Hid _ := k1
  have HZ : Hid (w.heap.size + 1 < ((w.alloc (gbox a1 n1 c1 a2 n2 c2 a3 n3 c3)).alloc (vbox 5 len A B C K)).heap.size) := by show _ < _; simp
  have HB1 : Hid (∀ W, Kept 0 0 w W → Calls Tryz.prog 83 #[gagg a1 n1 c1 a2 n2 c2 a3 n3 c3, .int .i64 B, .float .f64 4607182418800017408] W fun e w' => e = .returned (.bool (isC us B 4607182418800017408)) ∧ Kept 0 0 W w') := fun W kW => h W kW B (.inr rfl) 4607182418800017408 (by decide)
  have HA1 : Hid (∀ W, Kept 0 0 w W → Calls Tryz.prog 83 #[gagg a1 n1 c1 a2 n2 c2 a3 n3 c3, .int .i64 A, .float .f64 4607182418800017408] W fun e w' => e = .returned (.bool (isC us A 4607182418800017408)) ∧ Kept 0 0 W w') := fun W kW => h W kW A (.inl rfl) 4607182418800017408 (by decide)
  generalize isC us B 4607182418800017408 = qb at HB1 ⊢
  generalize isC us A 4607182418800017408 = qa at HA1
  have hng := run_neg0
  clear k1 hz hX h
  go_enter Tryz.func60, Tryz.ntmps60
  go_wp2_with fail
  generalize (w.alloc (gbox a1 n1 c1 a2 n2 c2 a3 n3 c3)).alloc (vbox 5 len A B C K) = w1 at HB HX HK1 HZ ⊢
  refine Calls.mono (HB1.out w1 HK1.out) ?_
  rintro e w2 ⟨rfl, k2⟩
  have HK2 : Hid _ := HK1.out.trans k2
  have HB2 : Hid _ := HB.out.keep k2
  have HX2 : Hid _ := HX.out.keep HZ.out k2 (.inr (.inr (Nat.le_refl _)))
  have HZ2 : Hid (w.heap.size + 1 < w2.heap.size) := Nat.lt_of_lt_of_le HZ.out k2.size
  clear k2 HB HX HK1 HZ
  obtain ⟨_, p0, p1, p2⟩ := HB2.out
  obtain ⟨x0, x1, x2, x3, x4, x5⟩ := HX2.out
  simp only [Nat.zero_add] at x1 x2 x3 x4 x5
  cases qb
  · go_wp2
    go_ret
    exact ⟨rfl, HK2.out⟩
  · go_wp2
    go_ret
    exact ⟨rfl, HK2.out⟩

set_option maxRecDepth 100000 in
set_option maxHeartbeats 4000000 in
theorem l4unit_3 (w : World) (a1 a2 a3 : Option Addr) (n1 c1 n2 c2 n3 c3 : Nat) (us : List Vl) (len A B C : Int) (K : Nat) (h : Asked w (gagg a1 n1 c1 a2 n2 c2 a3 n3 c3) us ⟨3, len, A, B, C, K⟩) :
    Calls Tryz.prog 60 #[gagg a1 n1 c1 a2 n2 c2 a3 n3 c3, vagg 3 len A B C K] w fun e w' => e = .returned (.int .i64 (if isC us B 0 = true then A else -1)) ∧ Kept 0 0 w w' := by
  have k1 := (kept_alloc 0 0 w (gbox a1 n1 c1 a2 n2 c2 a3 n3 c3)).trans (kept_alloc 0 0 _ (vbox 3 len A B C K))
  have HB : Hid _ := (g0_start w (.slice a1 n1 c1) (.slice a2 n2 c2) (.slice a3 n3 c3)).keep (kept_alloc 0 0 _ (vbox 3 len A B C K))
  have hz : (w.alloc (gbox a1 n1 c1 a2 n2 c2 a3 n3 c3)).heap.size = w.heap.size + 1 := by simp
  have hX := vbox_atJ (w.alloc (gbox a1 n1 c1 a2 n2 c2 a3 n3 c3)) ⟨3, len, A, B, C, K⟩
  rw [hz] at hX
  have HX : Hid _ := hX
  have HK1 : Hid _ := k1
  have HZ : Hid (w.heap.size + 1 < ((w.alloc (gbox a1 n1 c1 a2 n2 c2 a3 n3 c3)).alloc (vbox 3 len A B C K)).heap.size) := by show _ < _; simp
  have HB1 : Hid (∀ W, Kept 0 0 w W → Calls Tryz.prog 83 #[gagg a1 n1 c1 a2 n2 c2 a3 n3 c3, .int .i64 B, .float .f64 0] W fun e w' => e = .returned (.bool (isC us B 0)) ∧ Kept 0 0 W w') := fun W kW => h W kW B (.inr rfl) 0 (by decide)
  have HA1 : Hid (∀ W, Kept 0 0 w W → Calls Tryz.prog 83 #[gagg a1 n1 c1 a2 n2 c2 a3 n3 c3, .int .i64 A, .float .f64 0] W fun e w' => e = .returned (.bool (isC us A 0)) ∧ Kept 0 0 W w') := fun W kW => h W kW A (.inl rfl) 0 (by decide)
  generalize isC us B 0 = qb at HB1 ⊢
  generalize isC us A 0 = qa at HA1
  have hng := run_neg0
  clear k1 hz hX h
  go_enter Tryz.func60, Tryz.ntmps60
  go_wp2_with fail
  generalize (w.alloc (gbox a1 n1 c1 a2 n2 c2 a3 n3 c3)).alloc (vbox 3 len A B C K) = w1 at HB HX HK1 HZ ⊢
  refine Calls.mono (HB1.out w1 HK1.out) ?_
  rintro e w2 ⟨rfl, k2⟩
  have HK2 : Hid _ := HK1.out.trans k2
  have HB2 : Hid _ := HB.out.keep k2
  have HX2 : Hid _ := HX.out.keep HZ.out k2 (.inr (.inr (Nat.le_refl _)))
  have HZ2 : Hid (w.heap.size + 1 < w2.heap.size) := Nat.lt_of_lt_of_le HZ.out k2.size
  clear k2 HB HX HK1 HZ
  obtain ⟨_, p0, p1, p2⟩ := HB2.out
  obtain ⟨x0, x1, x2, x3, x4, x5⟩ := HX2.out
  simp only [Nat.zero_add] at x1 x2 x3 x4 x5
  cases qb
  · go_wp2
    go_ret
    exact ⟨rfl, HK2.out⟩
  · go_wp2
    go_ret
    exact ⟨rfl, HK2.out⟩

set_option maxRecDepth 100000 in
set_option maxHeartbeats 4000000 in
theorem l4unit_2 (w : World) (a1 a2 a3 : Option Addr) (n1 c1 n2 c2 n3 c3 : Nat) (us : List Vl) (len A B C : Int) (K : Nat) (h : Asked w (gagg a1 n1 c1 a2 n2 c2 a3 n3 c3) us ⟨2, len, A, B, C, K⟩) :
    Calls Tryz.prog 60 #[gagg a1 n1 c1 a2 n2 c2 a3 n3 c3, vagg 2 len A B C K] w fun e w' => e = .returned (.int .i64 (if isC us B 9223372036854775808 = true then A else if isC us A 9223372036854775808 = true then B else -1)) ∧ Kept 0 0 w w' := by
  have k1 := (kept_alloc 0 0 w (gbox a1 n1 c1 a2 n2 c2 a3 n3 c3)).trans (kept_alloc 0 0 _ (vbox 2 len A B C K))
  have HB : Hid _ := (g0_start w (.slice a1 n1 c1) (.slice a2 n2 c2) (.slice a3 n3 c3)).keep (kept_alloc 0 0 _ (vbox 2 len A B C K))
  have hz : (w.alloc (gbox a1 n1 c1 a2 n2 c2 a3 n3 c3)).heap.size = w.heap.size + 1 := by simp
  have hX := vbox_atJ (w.alloc (gbox a1 n1 c1 a2 n2 c2 a3 n3 c3)) ⟨2, len, A, B, C, K⟩
  rw [hz] at hX
  have HX : Hid _ := hX
  have HK1 : Hid _ := k1
  have HZ : Hid (w.heap.size + 1 < ((w.alloc (gbox a1 n1 c1 a2 n2 c2 a3 n3 c3)).alloc (vbox 2 len A B C K)).heap.size) := by show _ < _; simp
  have HB1 : Hid (∀ W, Kept 0 0 w W → Calls Tryz.prog 83 #[gagg a1 n1 c1 a2 n2 c2 a3 n3 c3, .int .i64 B, .float .f64 9223372036854775808] W fun e w' => e = .returned (.bool (isC us B 9223372036854775808)) ∧ Kept 0 0 W w') := fun W kW => h W kW B (.inr rfl) 9223372036854775808 (by decide)
  have HA1 : Hid (∀ W, Kept 0 0 w W → Calls Tryz.prog 83 #[gagg a1 n1 c1 a2 n2 c2 a3 n3 c3, .int .i64 A, .float .f64 9223372036854775808] W fun e w' => e = .returned (.bool (isC us A 9223372036854775808)) ∧ Kept 0 0 W w') := fun W kW => h W kW A (.inl rfl) 9223372036854775808 (by decide)
  generalize isC us B 9223372036854775808 = qb at HB1 ⊢
  generalize isC us A 9223372036854775808 = qa at HA1 ⊢
  have hng := run_neg0
  clear k1 hz hX h
  go_enter Tryz.func60, Tryz.ntmps60
  go_wp2_with fail
  generalize (w.alloc (gbox a1 n1 c1 a2 n2 c2 a3 n3 c3)).alloc (vbox 2 len A B C K) = w1 at HB HX HK1 HZ ⊢
  refine Calls.mono (HB1.out w1 HK1.out) ?_
  rintro e w2 ⟨rfl, k2⟩
  have HK2 : Hid _ := HK1.out.trans k2
  have HB2 : Hid _ := HB.out.keep k2
  have HX2 : Hid _ := HX.out.keep HZ.out k2 (.inr (.inr (Nat.le_refl _)))
  have HZ2 : Hid (w.heap.size + 1 < w2.heap.size) := Nat.lt_of_lt_of_le HZ.out k2.size
  clear k2 HB HX HK1 HZ
  obtain ⟨_, p0, p1, p2⟩ := HB2.out
  obtain ⟨x0, x1, x2, x3, x4, x5⟩ := HX2.out
  simp only [Nat.zero_add] at x1 x2 x3 x4 x5
  cases qb
  · go_wp2_with fail
    refine Calls.mono (HA1.out w2 HK2.out) ?_
    rintro e w3 ⟨rfl, k3⟩
    have HK3 : Hid _ := HK2.out.trans k3
    obtain ⟨z0, z1, z2, z3, z4, z5⟩ := HX2.out.keep HZ2.out k3 (.inr (.inr (Nat.le_refl _)))
    simp only [Nat.zero_add] at z1 z2 z3 z4 z5
    clear k3 p0 p1 p2 x0 x1 x2 x3 x4 x5
    cases qa
    · go_wp2
      go_ret
      exact ⟨rfl, HK3.out⟩
    · go_wp2
      go_ret
      exact ⟨rfl, HK3.out⟩
  · go_wp2
    go_ret
    exact ⟨rfl, HK2.out⟩

theorem l4unit (w : World) (a1 a2 a3 : Option Addr) (n1 c1 n2 c2 n3 c3 lo hi i : Nat) (us : List Vl) (v : Vl) (f : VS w lo hi a2 n2 us) (h : unitB v.op = true → (0 ≤ v.a ∧ v.a < i) ∧ (0 ≤ v.b ∧ v.b < i)) (hi2 : i ≤ n2) :
    Calls Tryz.prog 60 #[gagg a1 n1 c1 a2 n2 c2 a3 n3 c3, v.agg] w fun e w' => e = .returned (.int .i64 (unitS us v)) ∧ Kept 0 0 w w' := by
  cases hu : unitB v.op
  · have hn := of_decide_eq_false hu
    have e : unitS us v = -1 := by unfold unitS; rw [if_neg (by omega), if_neg (by omega), if_neg (by omega), if_neg (by omega), if_neg (by omega)]
    rw [e]
    exact l4unit_no w a1 a2 a3 n1 c1 n2 c2 n3 c3 v.op v.len v.a v.b v.c v.k (beq_eq_false_iff_ne.2 (by omega)) (beq_eq_false_iff_ne.2 (by omega)) (beq_eq_false_iff_ne.2 (by omega)) (beq_eq_false_iff_ne.2 (by omega))
  · obtain ⟨ha, hb⟩ := h hu
    have hA := asked (a1 := a1) (a3 := a3) (n1 := n1) (c1 := c1) (c2 := c2) (n3 := n3) (c3 := c3) f ha hb hi2
    have ho := of_decide_eq_true hu
    obtain ⟨op, len, A, B, C, K⟩ := v
    simp only at ho hA ⊢
    unfold unitS
    rcases ho with rfl | rfl | rfl | rfl
    · have := l4unit_4 w a1 a2 a3 n1 c1 n2 c2 n3 c3 us len A B C K hA
      simpa using this
    · have := l4unit_5 w a1 a2 a3 n1 c1 n2 c2 n3 c3 us len A B C K hA
      simpa using this
    · have := l4unit_3 w a1 a2 a3 n1 c1 n2 c2 n3 c3 us len A B C K hA
      simpa using this
    · have := l4unit_2 w a1 a2 a3 n1 c1 n2 c2 n3 c3 us len A B C K hA
      simpa using this
end Go.Proofs.YtcphabjekfihnabGreat
