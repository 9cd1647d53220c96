import Derived.Test.YtdkjdlimcnddkaaS13
namespace Go.Proofs.Ytdkjdlimcnddkaa
open Go.RowKit Flt
attribute [local go_sem] alloc_drewN setCell_drewN run_store_float

theorem Kept.chgR {l h : Nat} {w w' : World} (k : Kept l h w w') : Chg (fun i => l ≤ i ∧ i < h) w w' := ⟨k.os, k.tape, k.output, k.size, fun i hi hn => k.block i hi hn⟩
theorem TS.keepC {w w' : World} {S : Nat → Prop} {lo hi : Nat} {a : Option Addr} {n : Nat} {vs : List Ste} (f : TS w lo hi a n vs) (k : Chg S w w') (hd : ∀ g, lo ≤ g → g < hi → ¬ S g) : TS w' lo hi a n vs :=
  ⟨f.len, f.lt, by
    rcases f.at_ with h0 | ⟨g, off, e, h1, h2, h3, h4⟩
    · exact .inl h0
    · refine .inr ⟨g, off, e, h1, h2, Nat.lt_of_lt_of_le h3 k.size, fun j hj => ?_⟩
      have e : ∀ o, w'.cell? ⟨g, o, none⟩ = w.cell? ⟨g, o, none⟩ := fun o => k.cell (p := ⟨g, o, none⟩) h3 (hd g h1 h2)
      obtain ⟨c0, c1, c2, c3, c4, c5, c6, c7⟩ := h4 j hj
      exact ⟨by rw [e]; exact c0, by rw [e]; exact c1, by rw [e]; exact c2, by rw [e]; exact c3, by rw [e]; exact c4, by rw [e]; exact c5, by rw [e]; exact c6, by rw [e]; exact c7⟩⟩
theorem PS.keepC {w w' : World} {S : Nat → Prop} {lo hi : Nat} {a : Option Addr} {n : Nat} {vs : List Spn} (f : PS w lo hi a n vs) (k : Chg S w w') (hd : ∀ g, lo ≤ g → g < hi → ¬ S g) : PS w' lo hi a n vs :=
  ⟨f.len, by
    rcases f.at_ with h0 | ⟨g, off, e, h1, h2, h3, h4⟩
    · exact .inl h0
    · refine .inr ⟨g, off, e, h1, h2, Nat.lt_of_lt_of_le h3 k.size, fun j hj => ?_⟩
      have e : ∀ o, w'.cell? ⟨g, o, none⟩ = w.cell? ⟨g, o, none⟩ := fun o => k.cell (p := ⟨g, o, none⟩) h3 (hd g h1 h2)
      obtain ⟨c0, c1⟩ := h4 j hj
      exact ⟨by rw [e]; exact c0, by rw [e]; exact c1⟩⟩
/-- Nothing below w turned: a code of w stands. -/
theorem CS.keepC {w w' : World} {a1 a2 a3 : Option Addr} {n1 n2 n3 : Nat} {ins : List Int} {ss : List Ste} {os : List Spn} (f : CS w a1 n1 a2 n2 a3 n3 ins ss os) (k : Chg (fun b => w.heap.size ≤ b) w w') : CS w' a1 n1 a2 n2 a3 n3 ins ss os :=
  ⟨(f.i.keepC k (fun g _ h => by omega)).mono (Nat.le_refl _) k.size, (f.s.keepC k (fun g _ h => by omega)).mono (Nat.le_refl _) k.size, (f.o.keepC k (fun g _ h => by omega)).mono (Nat.le_refl _) k.size⟩
theorem C0.keepC {W W' : World} {S : Nat → Prop} {p : Nat} {b0 b1 b2 b3 : Value} (t : C0 W p b0 b1 b2 b3) (k : Chg S W W') (hd : ¬ S p) : C0 W' p b0 b1 b2 b3 := by
  have e : ∀ o, W'.cell? ⟨p, o, none⟩ = W.cell? ⟨p, o, none⟩ := fun o => k.cell (p := ⟨p, o, none⟩) t.sz hd
  exact ⟨Nat.lt_of_lt_of_le t.sz k.size, by rw [e]; exact t.q0, by rw [e]; exact t.q1, by rw [e]; exact t.q2, by rw [e]; exact t.q3⟩
/-- What stands through the law: the argument and its box. -/
structure LwC (w1 W : World) (p : Nat) (a1 : Option Addr) (n1 c1 : Nat) (a2 : Option Addr) (n2 c2 : Nat) (a3 : Option Addr) (n3 c3 : Nat) (pk : Int) (ins : List Int) (ss : List Ste) (os : List Spn) : Prop where
  f : CS W a1 n1 a2 n2 a3 n3 ins ss os
  b : C0 W p (.slice a1 n1 c1) (.slice a2 n2 c2) (.slice a3 n3 c3) (.int .i64 pk)
  k : Chg (fun b => w1.heap.size ≤ b) w1 W
theorem LwC.keep {w1 W W' : World} {p : Nat} {a1 : Option Addr} {n1 c1 : Nat} {a2 : Option Addr} {n2 c2 : Nat} {a3 : Option Addr} {n3 c3 : Nat} {pk : Int} {ins : List Int} {ss : List Ste} {os : List Spn} (h : LwC w1 W p a1 n1 c1 a2 n2 c2 a3 n3 c3 pk ins ss os) (k : Kept 0 0 W W') : LwC w1 W' p a1 n1 c1 a2 n2 c2 a3 n3 c3 pk ins ss os :=
  ⟨h.f.keep k, h.b.keep k, Chg.andThen h.k k.chg⟩
theorem LwC.turn {w1 W W' : World} {p : Nat} {a1 : Option Addr} {n1 c1 : Nat} {a2 : Option Addr} {n2 c2 : Nat} {a3 : Option Addr} {n3 c3 : Nat} {pk : Int} {ins : List Int} {ss : List Ste} {os : List Spn} (f : CS w1 a1 n1 a2 n2 a3 n3 ins ss os) (b : C0 w1 p (.slice a1 n1 c1) (.slice a2 n2 c2) (.slice a3 n3 c3) (.int .i64 pk)) (h : LwC w1 W p a1 n1 c1 a2 n2 c2 a3 n3 c3 pk ins ss os) {S : Nat → Prop} (k : Chg S W W') (hS : ∀ i, S i → w1.heap.size ≤ i) : LwC w1 W' p a1 n1 c1 a2 n2 c2 a3 n3 c3 pk ins ss os := by
  have kk : Chg (fun b => w1.heap.size ≤ b) w1 W' := Chg.andThen h.k ⟨k.os, k.tape, k.output, k.size, fun i hi hn => k.block i hi (fun c => hn (hS i c))⟩
  exact ⟨f.keepC kk, b.keepC kk (by have := b.sz; omega), kk⟩

set_option maxRecDepth 100000 in
set_option maxHeartbeats 2000000 in
theorem fnSave_long (w : World) (a1 a2 a3 : Option Addr) (n1 c1 n2 c2 n3 c3 : Nat) (pk : Int) (hn1 : n1 ≤ 9223372036854775807) (hn2 : n2 ≤ 9223372036854775807) (hn3 : n3 ≤ 9223372036854775807) (h : (1048576 : Int) - n1 - n2 - n3 < 0) :
    Calls Try.prog 5 #[cagg a1 n1 c1 a2 n2 c2 a3 n3 c3 pk] w fun e w' => e = .returned (.bool true) ∧ Below w.heap.size w w' := by
  have HZ : Hid _ := szCode (w.alloc (lcbox a1 n1 c1 a2 n2 c2 a3 n3 c3 pk)) a1 a2 a3 n1 c1 n2 c2 n3 c3 pk 1048576 (by omega) (by omega) hn1 hn2 hn3
  rw [if_pos h] at HZ
  clear hn1 hn2 hn3 h
  go_enter Try.func5, Try.ntmps5
  go_wp2_with fail
  refine Calls.mono HZ.out ?_
  rintro e w1 ⟨rfl, k1⟩
  go_wp2
  go_ret
  exact ⟨rfl, ((kept_alloc 0 0 w _).trans k1).below⟩

set_option maxRecDepth 100000 in
set_option maxHeartbeats 4000000 in
theorem fnSave (w : World) (a1 a2 a3 : Option Addr) (n1 c1 n2 c2 n3 c3 : Nat) (pk : Int) (ins : List Int) (ss : List Ste) (os : List Spn) (f : CS w a1 n1 a2 n2 a3 n3 ins ss os) (h : ¬ ((1048576 : Int) - n1 - n2 - n3 < 0)) :
    Calls Try.prog 5 #[cagg a1 n1 c1 a2 n2 c2 a3 n3 c3 pk] w fun e w' => e = .returned (.bool true) ∧ Below w.heap.size w w' := by
  have HZ : Hid _ := szCode (w.alloc (lcbox a1 n1 c1 a2 n2 c2 a3 n3 c3 pk)) a1 a2 a3 n1 c1 n2 c2 n3 c3 pk 1048576 (by omega) (by omega) (by omega) (by omega) (by omega)
  rw [if_neg h] at HZ
  have h1 : n1 ≤ 1048576 := by omega
  have h2 : n2 ≤ 1048576 := by omega
  have h3 : n3 ≤ 1048576 := by omega
  have HYL : Hid _ := sav_lt ins ss os pk
  have hN := sav_len ins ss os pk
  have HIS : Hid (∀ W a1 a2 a3 c1 c2 c3, CS W a1 n1 a2 n2 a3 n3 ins ss os → _) := fun W a1 a2 a3 c1 c2 c3 f => implSave W a1 a2 a3 n1 c1 n2 c2 n3 c3 pk ins ss os f
  have HSS : Hid (∀ W a1 a2 a3 c1 c2 c3, CS W a1 n1 a2 n2 a3 n3 ins ss os → _) := fun W a1 a2 a3 c1 c2 c3 f => specSave W a1 a2 a3 n1 c1 n2 c2 n3 c3 pk ins ss os f
  generalize savM ins ss os pk = bs at HYL hN HIS HSS
  obtain ⟨N, hbN⟩ : ∃ N, N = bs.length := ⟨_, rfl⟩
  rw [← hbN] at hN HIS HSS
  have HLT : Hid _ := f.s.lt
  have HIL : Hid (ins.length = n1) := f.i.len
  clear hbN
  go_enter Try.func5, Try.ntmps5
  go_wp2_with fail
  refine Calls.mono HZ.out ?_
  rintro e w1 ⟨rfl, k1⟩
  have hK := (kept_alloc 0 0 w (lcbox a1 n1 c1 a2 n2 c2 a3 n3 c3 pk)).trans k1
  have hB := (c0_startL w (.slice a1 n1 c1) (.slice a2 n2 c2) (.slice a3 n3 c3) (.int .i64 pk)).keep k1
  have HF1 : Hid _ := f.keep hK
  have HK1 : Hid _ := hK
  have HB1 : Hid _ := hB
  have HW1 : Hid (LwC w1 w1 w.heap.size a1 n1 c1 a2 n2 c2 a3 n3 c3 pk ins ss os) := ⟨f.keep hK, hB, (Kept.refl 0 0 w1).chg⟩
  clear k1 HZ hK f hB
  obtain ⟨_, q0, q1, q2, q3⟩ := HW1.out.b
  go_wp2_with fail
  clear q0 q1 q2 q3
  refine Calls.mono (toCode _ a1 a2 a3 n1 c1 n2 c2 n3 c3 pk ins ss os HW1.out.f h1 h2 h3) ?_
  rintro e w2 ⟨g1, g2, g3, rfl, hO, k2⟩
  have HW2 : Hid _ := HW1.out.keep k2
  have HS : Hid _ := hO.cs HLT.out
  clear k2 hO HW1
  rw [HIL.out] at HS
  go_wp2_with fail
  refine Calls.mono (HSS.out _ _ _ _ n1 n2 n3 HS.out) ?_
  rintro e w3 ⟨gw, aw, cw, rfl, yw, _, k3⟩
  have HW3 : Hid _ := HW2.out.keep k3
  have HYW : Hid _ := yw
  clear k3 yw HW2 HS
  obtain ⟨_, q0, q1, q2, q3⟩ := HW3.out.b
  go_wp2_with fail
  clear q0 q1 q2 q3
  refine Calls.mono (toCode _ a1 a2 a3 n1 c1 n2 c2 n3 c3 pk ins ss os HW3.out.f h1 h2 h3) ?_
  rintro e w4 ⟨x1, x2, x3, rfl, hO, k4⟩
  have HW4 : Hid _ := HW3.out.keep k4
  have HYW4 : Hid _ := HYW.out.keep k4
  have HX4 : Hid _ := hO
  have HG4 : Hid (∀ _ : 0 < N, gw < w3.heap.size) := fun hn => HYW.out.blk hn
  have HZ4 : Hid (w1.heap.size ≤ w3.heap.size ∧ w3.heap.size ≤ w4.heap.size) := ⟨HW3.out.k.size, k4.size⟩
  clear k4 hO HW3 HYW
  go_upto_region 7 with fail
  have ka := kept_alloc 0 0 w4 (cbox (some ⟨x1, 0, none⟩) n1 n1 (some ⟨x2, 0, none⟩) n2 n2 (some ⟨x3, 0, none⟩) n3 n3 pk)
  have HY5 : Hid _ := c0_start w4 (.slice (some ⟨x1, 0, none⟩) n1 n1) (.slice (some ⟨x2, 0, none⟩) n2 n2) (.slice (some ⟨x3, 0, none⟩) n3 n3) (.int .i64 pk)
  have HW5 : Hid _ := HW4.out.keep ka
  have HYW5 : Hid _ := HYW4.out.keep ka
  have HX5 : Hid _ := HX4.out.keep ka
  have HZ5 : Hid (x3 < (w4.alloc (cbox (some ⟨x1, 0, none⟩) n1 n1 (some ⟨x2, 0, none⟩) n2 n2 (some ⟨x3, 0, none⟩) n3 n3 pk)).heap.size ∧ x3 < w4.heap.size) := ⟨HX5.out.o.lt, HX4.out.o.lt⟩
  clear ka HW4 HYW4 HX4
  generalize w4.alloc (cbox (some ⟨x1, 0, none⟩) n1 n1 (some ⟨x2, 0, none⟩) n2 n2 (some ⟨x3, 0, none⟩) n3 n3 pk) = w5 at HY5 HW5 HYW5 HX5 HZ5 ⊢
  obtain ⟨_, y0, y1, y2, y3⟩ := HY5.out
  go_wp2_with fail
  clear y0 y1 y2 y3
  have HS : Hid _ := HX5.out.cs HLT.out
  rw [HIL.out] at HS
  refine Calls.mono (HIS.out _ _ _ _ n1 n2 n3 HS.out) ?_
  rintro e w6 ⟨gi, ai, ci, rfl, yi, li, k6⟩
  have HW6 : Hid _ := HW5.out.keep k6
  have HYW6 : Hid _ := HYW5.out.keep k6
  have HX6 : Hid _ := HX5.out.keep k6
  have HY6 : Hid _ := HY5.out.keep k6
  have HYI6 : Hid _ := yi
  have HGI : Hid (0 < N → w5.heap.size ≤ gi) := li
  clear k6 yi li HW5 HYW5 HX5 HY5 HS
  go_wp2_with fail
  refine Calls.mono (eqY _ _ _ N _ _ bs (HYI6.out.ys HYL.out) (HYW6.out.ys HYL.out) (by omega)) ?_
  rintro e w7 ⟨rfl, n7, rfl⟩
  have k7 := kept_drewN 0 0 w6 n7
  have HW7 : Hid _ := HW6.out.keep k7
  have HYW7 : Hid _ := HYW6.out.keep k7
  have HX7 : Hid _ := HX6.out.keep k7
  have HY7 : Hid _ := HY6.out.keep k7
  have HYI7 : Hid _ := HYI6.out.keep k7
  clear k7 HW6 HYW6 HX6 HY6 HYI6
  generalize w6.drewN n7 = w7 at HW7 HYW7 HX7 HY7 HYI7 ⊢
  obtain ⟨_, q0, q1, q2, q3⟩ := HW7.out.b
  obtain ⟨_, y0, y1, y2, y3⟩ := HY7.out
  go_wp2_with fail
  have HT : Hid (∀ m, _) := fun m => toCode (w7.drewN m) a1 a2 a3 n1 c1 n2 c2 n3 c3 pk ins ss os (CS.keep HW7.out.f (kept_drewN 0 0 w7 m)) h1 h2 h3
  have HXS : Hid _ := HX7.out.cs HLT.out
  rw [HIL.out] at HXS
  go_region_with (first
    | (go_at_call 21; refine Calls.mono (HT.out 1) ?_; rintro e w8 ⟨z1, z2, z3, rfl, hO, k8⟩; have hy := C0.keep HY7.out (Kept.trans (kept_drewN 0 0 w7 1) k8); obtain ⟨_, u0, u1, u2, u3⟩ := hy)
    | (go_at_call 16; refine Calls.mono (eqCode _ _ _ _ _ _ _ n1 n1 n2 n2 n3 n3 n1 n2 n3 pk ins ss os (CS.keep HXS.out (Kept.trans (kept_drewN 0 0 w7 1) k8)) (by have := hO.cs HLT.out; rw [HIL.out] at this; exact this) h1 h2 h3) ?_; rintro e w9 ⟨rfl, k9⟩))
  all_goals
    have kk : Kept 0 0 w7 w9 := (Kept.trans (kept_drewN 0 0 w7 1) k8).trans k9
    have HW9 : Hid _ := HW7.out.keep kk
    have HYW9 : Hid _ := HYW7.out.keep kk
    have HX9 : Hid _ := HX7.out.keep kk
    have HY9 : Hid _ := HY7.out.keep kk
    have HYI9 : Hid _ := HYI7.out.keep kk
    clear kk k8 k9 hO HW7 HYW7 HX7 HY7 HYI7 HT HXS q0 q1 q2 q3 y0 y1 y2 y3
    try clear u0 u1 u2 u3
    obtain ⟨_, y0, y1, y2, y3⟩ := HY9.out
    go_wp2_with fail
    clear y0 y1 y2 y3
    refine Calls.mono (markC w9 _ x1 x2 x3 n1 n2 n3 n1 n2 n3 pk ins ss os HX9.out HIL.out 1 (by decide) (by decide) h1 h2 h3) ?_
    rintro e w10 ⟨rfl, k10⟩
    have hC := k10.chgR
    have HW10 : Hid _ := LwC.turn HF1.out HB1.out HW9.out hC (fun i hi => by have := HZ4.out; omega)
    have HYW10 : Hid _ := HYW9.out.keepC hC (fun hn c => by have := HG4.out hn; omega)
    have HYI10 : Hid _ := HYI9.out.keepC hC (fun hn c => by have := HGI.out hn; have := HZ5.out; omega)
    clear k10 hC HW9 HYW9 HX9 HY9 HYI9
    have hkk : ¬ ((1 : Int) + n1 + 8 * n2 + 2 * n3 < 0) := by omega
    generalize (1 : Int) + n1 + 8 * n2 + 2 * n3 = kv at hkk ⊢
    go_wp2_with fail
    refine Calls.mono (eqY _ _ _ N _ _ bs (HYI10.out.ys HYL.out) (HYW10.out.ys HYL.out) (by omega)) ?_
    rintro e w11 ⟨rfl, n11, rfl⟩
    have k11 := kept_drewN 0 0 w10 n11
    have HW11 : Hid _ := HW10.out.keep k11
    have HYW11 : Hid _ := HYW10.out.keep k11
    have HYI11 : Hid _ := HYI10.out.keep k11
    clear k11 HW10 HYW10 HYI10
    generalize w10.drewN n11 = w11 at HW11 HYW11 HYI11 ⊢
    go_wp2_with fail
    refine Calls.mono (markYZ w11 gi N _ ai 1 bs HYI11.out (by decide) (by decide) (by omega)) ?_
    rintro e w12 ⟨rfl, m12, c12⟩
    have HM12 : Hid _ := m12
    have HW12 : Hid _ := LwC.turn HF1.out HB1.out HW11.out c12 (fun i hi => by have := HGI.out hi.1; have := HZ5.out; have := HZ4.out; omega)
    have HYW12 : Hid _ := HYW11.out.keepC c12 (fun hn c => by have := HG4.out hn; have := HGI.out hn; have := HZ5.out; have := HZ4.out; omega)
    clear m12 c12 HW11 HYW11 HYI11
    go_wp2_with fail
    refine Calls.mono (heldYM w12 gi N _ ai 1 HM12.out (by decide) (by decide) (by omega)) ?_
    rintro e w13 ⟨rfl, n13, rfl⟩
    have k13 := kept_drewN 0 0 w12 n13
    have HW13 : Hid _ := HW12.out.keep k13
    have HYW13 : Hid _ := HYW12.out.keep k13
    clear k13 HW12 HYW12 HM12
    generalize w12.drewN n13 = w13 at HW13 HYW13 ⊢
    have hkk2 : ¬ ((1 : Int) + N < 0) := by omega
    generalize (1 : Int) + N = kv2 at hkk2 ⊢
    have e1 : (kv2 != kv2) = false := by simp
    obtain ⟨_, q0, q1, q2, q3⟩ := HW13.out.b
    go_wp2_with fail
    clear q0 q1 q2 q3
    refine Calls.mono (toCode _ a1 a2 a3 n1 c1 n2 c2 n3 c3 pk ins ss os HW13.out.f h1 h2 h3) ?_
    rintro e w14 ⟨g1', g2', g3', rfl, hO, k14⟩
    have HW14 : Hid _ := HW13.out.keep k14
    have HYW14 : Hid _ := HYW13.out.keep k14
    have HS : Hid _ := hO.cs HLT.out
    clear k14 hO HW13 HYW13
    rw [HIL.out] at HS
    go_wp2_with fail
    refine Calls.mono (HIS.out _ _ _ _ n1 n2 n3 HS.out) ?_
    rintro e w15 ⟨gh, ah, ch, rfl, yh, _, k15⟩
    have HW15 : Hid _ := HW14.out.keep k15
    have HYW15 : Hid _ := HYW14.out.keep k15
    have HYH : Hid _ := yh
    clear k15 yh HS HW14 HYW14
    go_wp2_with fail
    refine Calls.mono (eqY _ _ _ N _ _ bs (HYH.out.ys HYL.out) (HYW15.out.ys HYL.out) (by omega)) ?_
    rintro e w16 ⟨rfl, n16, rfl⟩
    have R : Hid _ := HW15.out.keep (kept_drewN 0 0 w15 n16)
    go_wp2
    go_ret
    exact ⟨rfl, (Chg.kept HK1.out R.out.k (fun i hi => Nat.le_trans HK1.out.size hi)).below⟩
end Go.Proofs.Ytdkjdlimcnddkaa
