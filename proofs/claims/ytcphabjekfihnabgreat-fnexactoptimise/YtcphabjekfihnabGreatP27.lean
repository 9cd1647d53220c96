import Derived.Test.YtcphabjekfihnabGreatP26
import Derived.Deep.DrawnRows
namespace Go.Proofs.YtcphabjekfihnabGreat
open Go.RowKit Flt
attribute [local go_sem] alloc_drewN setCell_drewN run_store_float
attribute [local go_sem ↓] Go.wp_at_zero Go.wp_at_succ

theorem IR.isAt {w : World} {g n : Nat} {xs : List Int} (h : IR w g xs) (hl : xs.length = n) : IS w g (g + 1) (some ⟨g, 0, none⟩) n xs :=
  ⟨hl, .inr ⟨g, 0, rfl, Nat.le_refl _, Nat.lt_succ_self _, h.lt, fun k hk => by rw [Nat.zero_add]; exact h.cell k (by omega)⟩⟩
theorem Chg.refl (S : Nat → Prop) (w : World) : Chg S w w := (Kept.refl 0 0 w).chg
theorem mid_at {us vs : List Vl} {i : Nat} (hl : us.length = i) : (us ++ vs.drop i).getD i Vl.zero = vs.getD i Vl.zero := by
  rw [List.getD_eq_getElem?_getD, List.getElem?_append_right (by omega), List.getD_eq_getElem?_getD, List.getElem?_drop]
  congr 2
  omega
theorem mid_set {us vs : List Vl} {i : Nat} {v : Vl} (hl : us.length = i) (hi : i < vs.length) : (us ++ vs.drop i).set i v = us ++ [v] ++ vs.drop (i + 1) := by
  subst hl
  rw [drop_cons hi, set_mid]
  simp
theorem RB.keepC {W W' : World} {S : Nat → Prop} {p : Nat} {b0 b1 b2 : Value} (t : RB W p b0 b1 b2) (k : Chg S W W') (hd : ¬ S p) : RB W' p b0 b1 b2 := by
  have e : ∀ o, W'.cell? ⟨p, o, none⟩ = W.cell? ⟨p, o, none⟩ := fun o => k.cell (p := ⟨p, o, none⟩) t.sz hd
  have f : ∀ o, W'.frozen? ⟨p, o, none⟩ = W.frozen? ⟨p, o, none⟩ := fun o => k.frozen (p := ⟨p, o, none⟩) t.sz hd
  exact ⟨Nat.lt_of_lt_of_le t.sz k.size, by rw [e]; exact t.q0, by rw [e]; exact t.q1, by rw [e]; exact t.q2, by rw [f]; exact t.f0, by rw [f]; exact t.f1, by rw [f]; exact t.f2⟩
theorem hcl_at {P : Program} {F i n r : Nat} {s : Int} {args : Array Value} {Inv Inv' : World → Prop} {V : World → Prop} {S : Nat → Prop} (h : ∀ W, i < n → Inv W → V W → Calls P F args W fun e w' => e = .returned (.int .i64 s) ∧ Chg S W w' ∧ Inv' w') (hlt : i < n) (hr : s = (r : Nat)) : ∀ W, Inv W → V W → Calls P F args W fun e w' => e = .returned (.int .i64 (r : Nat)) ∧ Chg S W w' ∧ Inv' w' := by
  subst hr
  exact fun W h1 h2 => h W hlt h1 h2
theorem tq_set {tq : List Int} {i n : Nat} {a r : Int} (hl : tq.length = i) (hi : i < n) : ((tq ++ List.replicate (n - i) 0).set i a).set i r = (tq ++ [r]) ++ List.replicate (n - (i + 1)) 0 := by
  subst hl
  have e : n - tq.length = (n - (tq.length + 1)) + 1 := by omega
  rw [e, List.replicate_succ, List.set_set, set_mid]
  simp
theorem tq_at {tq : List Int} {i n r : Nat} (hl : tq.length = i) (hi : i < n) (hr : r ≤ i) (h : r < i → tq.getD r 0 = (r : Int)) : ((tq ++ List.replicate (n - i) 0).set i (i : Nat)).getD r 0 = (r : Int) := by
  rw [set_atI _ _ _ _ (by simp; omega)]
  by_cases c : i = r
  · rw [if_pos c, c]
  · rw [if_neg c, ← h (by omega), List.getD_eq_getElem?_getD, List.getElem?_append_left (by omega), ← List.getD_eq_getElem?_getD]
set_option maxRecDepth 100000 in
set_option maxHeartbeats 8000000 in
theorem withEqual_neg (w : World) (g1 n1 c1 g2 n2 c2 g3 n3 c3 : Nat) (p : Int) (ins : List Int) (vs : List Vl) (outs : List Int) (S : Nat → Prop) (Inv : Nat → World → Prop) (hP : PG w g1 g2 g3 n1 n2 n3 ins vs outs) (hok : okG ins vs outs = true)
    (hS : ∀ b, S b → b < w.heap.size ∧ b ≠ g1 ∧ b ≠ g2 ∧ b ≠ g3) (h0 : Inv 0 w) (hI : ∀ i W W', Inv i W → Chg (fun b => b = g2 ∨ w.heap.size ≤ b) W W' → Inv i W')
    (hC : ∀ i W, i < n2 → Inv i W → VA W g2 n2 ((eqSt p vs (i + 1)).1 ++ vs.drop (i + 1)) → Calls Tryz.prog 74 #[.slice (some ⟨g2, 0, none⟩) n2 c2, .int .i64 (i : Nat)] W fun e w' => e = .returned (.int .i64 (sameAt p (eqSt p vs i).1 (rnm (eqSt p vs i).2 (vs.getD i Vl.zero)) i)) ∧ Chg S W w' ∧ Inv (i + 1) w') :
    Calls Tryz.prog 68 #[gagg (some ⟨g1, 0, none⟩) n1 c1 (some ⟨g2, 0, none⟩) n2 c2 (some ⟨g3, 0, none⟩) n3 c3, .func (.func 74) #[] #[]] w fun e w' =>
      e = .returned (gagg (some ⟨g1, 0, none⟩) n1 c1 (some ⟨g2, 0, none⟩) n2 c2 (some ⟨g3, 0, none⟩) n3 c3) ∧ PG w' g1 g2 g3 n1 n2 n3 ins (eqM p vs outs).1 (eqM p vs outs).2 ∧ Chg (fun b => b = g2 ∨ b = g3 ∨ S b) w w' := by
  obtain ⟨⟨hl1, hl2, hl3⟩, _, hv, ho, _⟩ := okG_parts hok
  have hvl : vs.length = n2 := hP.v.len
  have hol : outs.length = n3 := hP.o.len
  have hn2 : n2 ≤ 2000 := by omega
  have hn3 : n3 ≤ 50 := by omega
  have HE : Hid (∀ i, i ≤ n2 → EqI ins vs i (eqSt p vs i)) := fun i hi => eqI_all ins vs p i (fun j hj => hv j (by omega))
  have HV : Hid (∀ j, j < n2 → okV ins vs j = true) := fun j hj => hv j (by omega)
  have HOUT : Hid (∀ o ∈ outs, 0 ≤ o ∧ o < n2) := fun o h => by have := ho o h; omega
  have HL : Hid (vs.length = n2 ∧ outs.length = n3) := ⟨hvl, hol⟩
  have k0 := kept_alloc 0 0 w (gbox (some ⟨g1, 0, none⟩) n1 c1 (some ⟨g2, 0, none⟩) n2 c2 (some ⟨g3, 0, none⟩) n3 c3)
  have hB := g0_start w (.slice (some ⟨g1, 0, none⟩) n1 c1) (.slice (some ⟨g2, 0, none⟩) n2 c2) (.slice (some ⟨g3, 0, none⟩) n3 c3)
  have hz : (w.alloc (gbox (some ⟨g1, 0, none⟩) n1 c1 (some ⟨g2, 0, none⟩) n2 c2 (some ⟨g3, 0, none⟩) n3 c3)).heap.size = w.heap.size + 1 := by simp
  have k1 := kept_alloc 0 0 (w.alloc (gbox (some ⟨g1, 0, none⟩) n1 c1 (some ⟨g2, 0, none⟩) n2 c2 (some ⟨g3, 0, none⟩) n3 c3)) nbox
  have hR := rb_start (w.alloc (gbox (some ⟨g1, 0, none⟩) n1 c1 (some ⟨g2, 0, none⟩) n2 c2 (some ⟨g3, 0, none⟩) n3 c3))
  have hz1 : ((w.alloc (gbox (some ⟨g1, 0, none⟩) n1 c1 (some ⟨g2, 0, none⟩) n2 c2 (some ⟨g3, 0, none⟩) n3 c3)).alloc nbox).heap.size = w.heap.size + 1 + 1 := by simp
  have hm := make_i n2 ((w.alloc (gbox (some ⟨g1, 0, none⟩) n1 c1 (some ⟨g2, 0, none⟩) n2 c2 (some ⟨g3, 0, none⟩) n3 c3)).alloc nbox) (by omega)
  have hT := IR.made ((w.alloc (gbox (some ⟨g1, 0, none⟩) n1 c1 (some ⟨g2, 0, none⟩) n2 c2 (some ⟨g3, 0, none⟩) n3 c3)).alloc nbox) n2
  have k2 := kept_alloc 0 0 ((w.alloc (gbox (some ⟨g1, 0, none⟩) n1 c1 (some ⟨g2, 0, none⟩) n2 c2 (some ⟨g3, 0, none⟩) n3 c3)).alloc nbox) (.cells (madeCells #[.int .i64 0] n2) 3)
  rw [hz1] at hm hT
  rw [hz] at hR
  have HB : Hid _ := (hB.keep k1).keep k2
  have HR : Hid _ := hR.keep k2
  have HP : Hid _ := hP.keep ((k0.trans k1).trans k2)
  have HK : Hid _ := (k0.trans k1).trans k2
  have HT : Hid _ := hT
  have HG : Hid (g1 < w.heap.size ∧ g2 < w.heap.size ∧ g3 < w.heap.size ∧ g1 ≠ g2 ∧ g1 ≠ g3 ∧ g2 ≠ g3) := ⟨hP.i.lt, hP.v.lt, hP.o.lt, hP.d12, hP.d13, hP.d23⟩
  have HS : Hid _ := hS
  have HI : Hid _ := hI
  have HC : Hid _ := hC
  have HI0 : Hid _ := hI 0 _ _ h0 ((k0.trans k1).trans k2).chg
  have HT2 : Hid (w.heap.size + 3 ≤ (((w.alloc (gbox (some ⟨g1, 0, none⟩) n1 c1 (some ⟨g2, 0, none⟩) n2 c2 (some ⟨g3, 0, none⟩) n3 c3)).alloc nbox).alloc (.cells (madeCells #[.int .i64 0] n2) 3)).heap.size) := by show _ ≤ _; simp
  clear hP hok hl1 hl2 hl3 hv ho hvl hol hS hI hC h0 hT hR hz hz1 k0 k1 k2
  obtain ⟨_, b0, b1, b2⟩ := hB
  obtain ⟨_, q0, q1, q2⟩ := HB.out
  have b1' := (HB.out).q1
  go_enter Tryz.func68, Tryz.ntmps68
  go_wp2_with fail
  clear q0 q1 q2 b0 b1 b2 hm b1'
  generalize ((w.alloc (gbox (some ⟨g1, 0, none⟩) n1 c1 (some ⟨g2, 0, none⟩) n2 c2 (some ⟨g3, 0, none⟩) n3 c3)).alloc nbox).alloc (.cells (madeCells #[.int .i64 0] n2) 3) = w1 at HB HR HP HK HT HI0 HT2 ⊢
  go_loopw [15] (fun x W => ∃ i : Nat, i ≤ n2 ∧ x = .int .i64 i ∧ Hid (VA W g2 n2 ((eqSt p vs i).1 ++ vs.drop i)) ∧ Hid (IR W (w.heap.size + 1 + 1) ((eqSt p vs i).2 ++ List.replicate (n2 - i) 0)) ∧ Hid (Inv i W) ∧ Hid (Chg (fun b => b = g2 ∨ b = w.heap.size + 1 + 1 ∨ S b) w1 W)) (fun x _ => n2 - (intOf x).toNat)
  case atStart => exact ⟨0, Nat.zero_le _, rfl, by show VA _ _ _ _; simpa [eqSt] using HP.out.v, by show IR _ _ _; rw [Nat.sub_zero]; exact HT.out, HI0, Chg.refl _ _⟩
  case round =>
    obtain ⟨i, hi, rfl, hA, hQ, hN, hK⟩ := hrel
    clear HI0 HT
    by_cases hlt : i < n2
    · have E0 := HE.out i (by omega)
      have E1 := HE.out (i + 1) hlt
      have hz8 : w1.heap.size ≤ wr.heap.size := hK.out.size
      have hz9 : w.heap.size + 3 ≤ w1.heap.size := HT2.out
      have hat := hA.out.at_ i hlt
      have evi : ((eqSt p vs i).1 ++ vs.drop i).getD i Vl.zero = vs.getD i Vl.zero := mid_at E0.l1
      rw [evi] at hat
      have HAT : Hid _ := hat
      have hops := okV_ops (HV.out i hlt)
      have hgP : g2 ≠ w.heap.size := by have := HG.out; omega
      have hgV : g2 ≠ wr.heap.size := by have := HG.out; omega
      have HB5 : Hid _ := G0.keepC HB.out hK.out (by rintro (c | c | c) <;> first | omega | (have := (HS.out _ c).1; omega))
      have HRN : Hid (∀ W, Kept 0 0 wr W → Calls Tryz.prog 66 #[(vs.getD i Vl.zero).agg, .slice (some ⟨w.heap.size + 1 + 1, 0, none⟩) n2 n2] W fun e w' => e = .returned (rnm (eqSt p vs i).2 (vs.getD i Vl.zero)).agg ∧ Kept 0 0 W w') := fun W kW => by
        have := renum W (vs.getD i Vl.zero) _ _ (some ⟨w.heap.size + 1 + 1, 0, none⟩) n2 n2 _ (IR.isAt (IR.keep hQ.out kW (.inr (.inr (Nat.le_refl _)))) (by simp [E0.l2]; omega)) (fun o h => by have := hops o h; omega)
        rw [rnm_pad (fun o h => by have := hops o h; rw [E0.l2]; omega)] at this
        exact this
      have HR1 : Hid (∀ W, VA W g2 n2 ((eqSt p vs i).1 ++ vs.drop i) → VA (put6 W g2 (i * 6) (rnm (eqSt p vs i).2 (vs.getD i Vl.zero))) g2 n2 ((eqSt p vs (i + 1)).1 ++ vs.drop (i + 1))) := fun W h => by
        have := h.step i hlt (rnm (eqSt p vs i).2 (vs.getD i Vl.zero))
        rw [mid_set E0.l1 (by rw [HL.out.1]; exact hlt)] at this
        exact this
      have hs : ∃ r : Nat, sameAt p (eqSt p vs i).1 (rnm (eqSt p vs i).2 (vs.getD i Vl.zero)) i = (r : Int) ∧ r ≤ i ∧ (eqSt p vs (i + 1)).2.getD r 0 = (r : Int) := by
        have el : (eqSt p vs (i + 1)).2.getD i 0 = sameAt p (eqSt p vs i).1 (rnm (eqSt p vs i).2 (vs.getD i Vl.zero)) i := by
          have := getD_lastI (eqSt p vs i).2 (sameAt p (eqSt p vs i).1 (rnm (eqSt p vs i).2 (vs.getD i Vl.zero)) i)
          rw [E0.l2] at this
          exact this
        have h1 := E1.to0 i (Nat.lt_succ_self _)
        have h2 := E1.root i (Nat.lt_succ_self _)
        rw [el] at h1 h2
        exact ⟨_, (Int.toNat_of_nonneg h1.1).symm, by omega, by rw [h2]; exact (Int.toNat_of_nonneg h1.1).symm⟩
      obtain ⟨r, hr, hri, hrr⟩ := hs
      have HCi : Hid _ := hcl_at (HC.out i) hlt hr
      have HQ3 : Hid ((eqSt p vs (i + 1)).2 = (eqSt p vs i).2 ++ [(r : Int)] ∧ (eqSt p vs i).2.length = i) := ⟨by rw [← hr]; rfl, E0.l2⟩
      have HRR : Hid (r < i → (eqSt p vs i).2.getD r 0 = (r : Int)) := fun h => by
        have := hrr
        rw [HQ3.out.1, getD_fstI _ _ (by rw [E0.l2]; exact h)] at this
        exact this
      clear E0 E1 evi hops hr hrr
      generalize vs.getD i Vl.zero = v at hat HAT HRN HR1 HCi
      generalize hnv : rnm (eqSt p vs i).2 v = nv at HRN HR1
      clear hnv
      obtain ⟨y0, y1, y2, y3, y4, y5⟩ := hat
      obtain ⟨_, p0, p1, p2⟩ := HB5.out
      go_wp2_with fail
      clear y0 y1 y2 y3 y4 y5 p0 p1 p2
      have ka := kept_alloc 0 0 wr (vbox v.op v.len v.a v.b v.c v.k)
      have HKA : Hid _ := ka
      have HX : Hid (At (wr.alloc (vbox v.op v.len v.a v.b v.c v.k)) wr.heap.size 0 v) := vbox_atJ wr v
      have HB6 : Hid _ := HB5.out.keep ka
      have HA6 : Hid _ := hA.out.keep ka (.inr (.inr (Nat.le_refl _)))
      have HZ6 : Hid (wr.heap.size < (wr.alloc (vbox v.op v.len v.a v.b v.c v.k)).heap.size) := by show _ < _; simp
      obtain ⟨_, p0, p1, p2⟩ := HB6.out
      obtain ⟨x0, x1, x2, x3, x4, x5⟩ := HX.out
      simp only [Nat.zero_add] at x1 x2 x3 x4 x5
      clear ka
      generalize wr.alloc (vbox v.op v.len v.a v.b v.c v.k) = w2 at HKA HX HB6 HA6 HZ6 p0 p1 p2 x0 x1 x2 x3 x4 x5 ⊢
      go_region_held3 (fun W : World => W.cell? ⟨w.heap.size, 1, none⟩ = some (.slice (some ⟨g2, 0, none⟩) n2 c2) ∧ W.cell? ⟨wr.heap.size, 0, none⟩ = some (.int .i64 v.op) ∧ W.cell? ⟨wr.heap.size, 1, none⟩ = some (.int .i64 v.len) ∧ W.cell? ⟨wr.heap.size, 2, none⟩ = some (.int .i64 v.a) ∧ W.cell? ⟨wr.heap.size, 3, none⟩ = some (.int .i64 v.b) ∧ W.cell? ⟨wr.heap.size, 4, none⟩ = some (.int .i64 v.c) ∧ W.cell? ⟨wr.heap.size, 5, none⟩ = some (.float .f64 v.k)) (first | go_keep | (exact ⟨(put6_out w3 g2 (i * 6) _ _ nv (.inl hgP)).trans t1, (put6_out w3 g2 (i * 6) _ _ nv (.inl hgV)).trans s0, (put6_out w3 g2 (i * 6) _ _ nv (.inl hgV)).trans s1, (put6_out w3 g2 (i * 6) _ _ nv (.inl hgV)).trans s2, (put6_out w3 g2 (i * 6) _ _ nv (.inl hgV)).trans s3, (put6_out w3 g2 (i * 6) _ _ nv (.inl hgV)).trans s4, (put6_out w3 g2 (i * 6) _ _ nv (.inl hgV)).trans s5⟩))
        ((go_at_call 66; refine Calls.mono (HRN.out _ (HKA.out.trans (kept_drewN 0 0 w2 1))) ?_; rintro e w3 ⟨rfl, k3⟩; have k3' := Kept.trans (kept_drewN 0 0 w2 1) k3; obtain ⟨_, t0, t1, t2⟩ := G0.keep HB6.out k3'; obtain ⟨s0, s1, s2, s3, s4, s5⟩ := At.keep HX.out HZ6.out k3' (.inr (.inr (Nat.le_refl _))); simp only [Nat.zero_add] at s1 s2 s3 s4 s5; obtain ⟨u0, u1, u2, u3, u4, u5⟩ := At.keep HAT.out hA.out.lt (HKA.out.trans k3') (.inr (.inr (Nat.le_refl _))); have ufz := (VA.keep HA6.out k3' (.inr (.inr (Nat.le_refl _)))).free))
      have kw := HKA.out.trans k3'
      have kp : Kept g2 (g2 + 1) w3 ((((((w3.setCell ⟨g2, i * 6, none⟩ (.int .i64 nv.op)).setCell ⟨g2, i * 6 + 1, none⟩ (.int .i64 nv.len)).setCell ⟨g2, i * 6 + 2, none⟩ (.int .i64 nv.a)).setCell ⟨g2, i * 6 + 3, none⟩ (.int .i64 nv.b)).setCell ⟨g2, i * 6 + 4, none⟩ (.int .i64 nv.c)).setCell ⟨g2, i * 6 + 5, none⟩ (.float .f64 nv.k)) := put6_kept w3 g2 (i * 6) nv
      have HV7 : Hid (VA ((((((w3.setCell ⟨g2, i * 6, none⟩ (.int .i64 nv.op)).setCell ⟨g2, i * 6 + 1, none⟩ (.int .i64 nv.len)).setCell ⟨g2, i * 6 + 2, none⟩ (.int .i64 nv.a)).setCell ⟨g2, i * 6 + 3, none⟩ (.int .i64 nv.b)).setCell ⟨g2, i * 6 + 4, none⟩ (.int .i64 nv.c)).setCell ⟨g2, i * 6 + 5, none⟩ (.float .f64 nv.k)) g2 n2 ((eqSt p vs (i + 1)).1 ++ vs.drop (i + 1))) := HR1.out w3 (VA.keep HA6.out k3' (.inr (.inr (Nat.le_refl _))))
      have HQ7 : Hid (IR ((((((w3.setCell ⟨g2, i * 6, none⟩ (.int .i64 nv.op)).setCell ⟨g2, i * 6 + 1, none⟩ (.int .i64 nv.len)).setCell ⟨g2, i * 6 + 2, none⟩ (.int .i64 nv.a)).setCell ⟨g2, i * 6 + 3, none⟩ (.int .i64 nv.b)).setCell ⟨g2, i * 6 + 4, none⟩ (.int .i64 nv.c)).setCell ⟨g2, i * 6 + 5, none⟩ (.float .f64 nv.k)) (w.heap.size + 1 + 1) ((eqSt p vs i).2 ++ List.replicate (n2 - i) 0)) := (IR.keep hQ.out kw (.inr (.inr (Nat.le_refl _)))).keep kp (by have := HG.out; omega)
      have HN7 : Hid (Inv i ((((((w3.setCell ⟨g2, i * 6, none⟩ (.int .i64 nv.op)).setCell ⟨g2, i * 6 + 1, none⟩ (.int .i64 nv.len)).setCell ⟨g2, i * 6 + 2, none⟩ (.int .i64 nv.a)).setCell ⟨g2, i * 6 + 3, none⟩ (.int .i64 nv.b)).setCell ⟨g2, i * 6 + 4, none⟩ (.int .i64 nv.c)).setCell ⟨g2, i * 6 + 5, none⟩ (.float .f64 nv.k))) := HI.out i _ _ hN.out (Chg.trans kw.chg (kp.chg1 (.inl rfl)))
      have HK7 : Hid (Chg (fun b => b = g2 ∨ b = w.heap.size + 1 + 1 ∨ S b) w1 ((((((w3.setCell ⟨g2, i * 6, none⟩ (.int .i64 nv.op)).setCell ⟨g2, i * 6 + 1, none⟩ (.int .i64 nv.len)).setCell ⟨g2, i * 6 + 2, none⟩ (.int .i64 nv.a)).setCell ⟨g2, i * 6 + 3, none⟩ (.int .i64 nv.b)).setCell ⟨g2, i * 6 + 4, none⟩ (.int .i64 nv.c)).setCell ⟨g2, i * 6 + 5, none⟩ (.float .f64 nv.k))) := Chg.trans hK.out (Chg.trans kw.chg (kp.chg1 (.inl rfl)))
      have HB7 : Hid (G0 ((((((w3.setCell ⟨g2, i * 6, none⟩ (.int .i64 nv.op)).setCell ⟨g2, i * 6 + 1, none⟩ (.int .i64 nv.len)).setCell ⟨g2, i * 6 + 2, none⟩ (.int .i64 nv.a)).setCell ⟨g2, i * 6 + 3, none⟩ (.int .i64 nv.b)).setCell ⟨g2, i * 6 + 4, none⟩ (.int .i64 nv.c)).setCell ⟨g2, i * 6 + 5, none⟩ (.float .f64 nv.k)) w.heap.size (.slice (some ⟨g1, 0, none⟩) n1 c1) (.slice (some ⟨g2, 0, none⟩) n2 c2) (.slice (some ⟨g3, 0, none⟩) n3 c3)) := G0.keepT (G0.keep HB6.out k3') kp (by have := HG.out; omega)
      generalize ((((((w3.setCell ⟨g2, i * 6, none⟩ (.int .i64 nv.op)).setCell ⟨g2, i * 6 + 1, none⟩ (.int .i64 nv.len)).setCell ⟨g2, i * 6 + 2, none⟩ (.int .i64 nv.a)).setCell ⟨g2, i * 6 + 3, none⟩ (.int .i64 nv.b)).setCell ⟨g2, i * 6 + 4, none⟩ (.int .i64 nv.c)).setCell ⟨g2, i * 6 + 5, none⟩ (.float .f64 nv.k)) = w7 at HV7 HQ7 HN7 HK7 HB7 ⊢
      clear kw kp k3 k3' t0 t1 t2 s0 s1 s2 s3 s4 s5 u0 u1 u2 u3 u4 u5 ufz p0 p1 p2 x0 x1 x2 x3 x4 x5 HKA HX HB6 HA6 HZ6 HAT HRN HR1 hA hQ hN hK
      obtain ⟨_, p0, p1, p2⟩ := HB7.out
      have cT := HQ7.out.cell i (by rw [List.length_append, List.length_replicate, HQ3.out.2]; omega)
      have fT := HQ7.out.free i
      generalize ((eqSt p vs i).2 ++ List.replicate (n2 - i) 0).getD i 0 = zz at cT
      go_wp2_with fail
      have kq := kept_setCell (lo := w.heap.size + 1 + 1) (hi := w.heap.size + 1 + 1 + 1) w7 ⟨w.heap.size + 1 + 1, i, none⟩ (.int .i64 (i : Nat)) (.inl ⟨Nat.le_refl _, Nat.lt_succ_self _⟩)
      have HQ8 : Hid _ := IR.set HQ7.out i (i : Nat)
      have HN8 : Hid _ := HI.out i _ _ HN7.out (kq.chg1 (.inr (by omega)))
      have HV8 : Hid _ := HV7.out.keep kq (by have := HG.out; omega)
      have HK8 : Hid _ := Chg.trans HK7.out (kq.chg1 (.inr (.inl rfl)))
      generalize w7.setCell ⟨w.heap.size + 1 + 1, i, none⟩ (.int .i64 (i : Nat)) = w8 at HQ8 HN8 HV8 HK8 ⊢
      clear kq cT fT p0 p1 p2 HB7 HV7 HQ7 HN7 HK7
      refine Calls.mono (HCi.out w8 HN8.out HV8.out) ?_
      rintro e w9 ⟨rfl, c9, hN9⟩
      have HQ9 : Hid _ := IR.keepC HQ8.out c9 (fun c => by have := (HS.out _ c).1; omega)
      have HV9 : Hid _ := VA.keepC HV8.out c9 (fun c => (HS.out _ c).2.2.1 rfl)
      have HK9 : Hid _ := Chg.trans HK8.out (c9.mono fun b _ c => .inr (.inr c))
      have HN9 : Hid _ := hN9
      have cR := IR.cell HQ9.out r (by rw [List.length_set, List.length_append, List.length_replicate, HQ3.out.2]; omega)
      rw [tq_at HQ3.out.2 hlt hri HRR.out] at cR
      have cT := IR.cell HQ9.out i (by rw [List.length_set, List.length_append, List.length_replicate, HQ3.out.2]; omega)
      have fT := IR.free HQ9.out i
      generalize (((eqSt p vs i).2 ++ List.replicate (n2 - i) 0).set i (i : Nat)).getD i 0 = zz at cT
      have kq := kept_setCell (lo := w.heap.size + 1 + 1) (hi := w.heap.size + 1 + 1 + 1) w9 ⟨w.heap.size + 1 + 1, i, none⟩ (.int .i64 (r : Nat)) (.inl ⟨Nat.le_refl _, Nat.lt_succ_self _⟩)
      have R1 : Hid _ := HV9.out.keep kq (by have := HG.out; omega)
      have R2 : Hid _ := IR.set HQ9.out i (r : Nat)
      rw [tq_set HQ3.out.2 hlt, ← HQ3.out.1] at R2
      have R3 : Hid _ := HI.out _ _ _ HN9.out (kq.chg1 (.inr (by omega)))
      have R4 : Hid _ := Chg.trans HK9.out (kq.chg1 (.inr (.inl rfl)))
      have hrn : r < n2 := by omega
      clear kq c9 hN9 HQ8 HN8 HV8 HK8 HQ9 HV9 HK9 HN9 HCi HQ3 HRR
      go_wp2
      go_roundw
      case rel => exact ⟨i + 1, by omega, by go_num, R1, R2, R3, R4⟩
      case measure => simp [intOf]; omega
    · obtain rfl : i = n2 := by omega
      have hz8 : w1.heap.size ≤ wr.heap.size := hK.out.size
      have hz9 : w.heap.size + 3 ≤ w1.heap.size := HT2.out
      have E0 := HE.out i (Nat.le_refl _)
      have hS1 : ∀ b, w.heap.size ≤ b → ¬ S b := fun b hb c => by have := (HS.out _ c).1; omega
      have HA9 : Hid (VA wr g2 i (eqSt p vs i).1) := by
        have := hA.out
        rw [List.drop_of_length_le (by rw [HL.out.1]; omega), List.append_nil] at this
        exact this
      have HQ9 : Hid (IS wr (w.heap.size + 1 + 1) (w.heap.size + 1 + 1 + 1) (some ⟨w.heap.size + 1 + 1, 0, none⟩) i (eqSt p vs i).2) := by
        have := hQ.out
        rw [Nat.sub_self, List.replicate_zero, List.append_nil] at this
        exact this.isAt E0.l2
      have HB9 : Hid _ := G0.keepC HB.out hK.out (by rintro (c | c | c) <;> first | (have := HG.out; omega) | exact hS1 _ (by omega) c)
      have HR9 : Hid _ := RB.keepC HR.out hK.out (by rintro (c | c | c) <;> first | (have := HG.out; omega) | exact hS1 _ (by omega) c)
      have HI9 : Hid _ := IBk.keepC HP.out.i hK.out (by rintro (c | c | c) <;> first | (have := HG.out; omega) | exact (HS.out _ c).2.1 rfl)
      have HO9 : Hid _ := IBk.keepC HP.out.o hK.out (by rintro (c | c | c) <;> first | (have := HG.out; omega) | exact (HS.out _ c).2.2.2 rfl)
      have HRO : Hid _ := renumberOuts wr (some ⟨g1, 0, none⟩) (some ⟨g2, 0, none⟩) n1 c1 i c2 g3 n3 c3 _ _ _ i i (eqSt p vs i).2 outs HO9.out HQ9.out (by have := HG.out; omega) HOUT.out (by omega)
      have HK9 : Hid (Chg (fun b => b = g2 ∨ b = g3 ∨ S b) w wr) := Chg.new HK.out.chg hK.out (fun b hb c => by rcases c with c | c | c <;> first | exact .inl c | exact .inr (.inr c) | omega)
      clear E0 hA hQ hN hK HR HB
      obtain ⟨_, p0, p1, p2⟩ := HB9.out
      go_wp2_with fail
      clear p0 p1 p2
      refine Calls.mono HRO.out ?_
      rintro e w2 ⟨rfl, hO2, k2⟩
      have HB2 : Hid _ := G0.keepT HB9.out k2 (by have := HG.out; omega)
      have HA2 : Hid _ := HA9.out.keep k2 (by have := HG.out; omega)
      have HI2 : Hid _ := HI9.out.keep k2 (by have := HG.out; omega)
      have HO2 : Hid _ := hO2
      have HK2 : Hid (Chg (fun b => b = g2 ∨ b = g3 ∨ S b) w w2) := Chg.trans HK9.out (k2.chg1 (.inr (.inl rfl)))
      have HR2 : Hid _ := RB.keepC HR9.out (k2.chg1 (S := fun b => b = g3) rfl) (by have := HG.out; omega)
      clear hO2 HRO HB9 HA9 HQ9 HI9 HO9 HK9
      obtain ⟨_, p0, p1, p2⟩ := HB2.out
      obtain ⟨_, r0, r1, r2, f0, f1, f2⟩ := HR2.out
      go_wp2_with fail
      obtain ⟨y0, y1, y2⟩ := put3_0 w2 (w.heap.size + 1) _ _ _ r0 r1 r2 (.slice (some ⟨g1, 0, none⟩) n1 c1) (.slice (some ⟨g2, 0, none⟩) i c2) (.slice (some ⟨g3, 0, none⟩) n3 c3)
      have kp := put3_kept w2 (w.heap.size + 1) (.slice (some ⟨g1, 0, none⟩) n1 c1) (.slice (some ⟨g2, 0, none⟩) i c2) (.slice (some ⟨g3, 0, none⟩) n3 c3)
      refine bodyPost_ret (v := gagg (some ⟨g1, 0, none⟩) n1 c1 (some ⟨g2, 0, none⟩) i c2 (some ⟨g3, 0, none⟩) n3 c3) (by simp [results, Tryz.results68, go_sem, y0, y1, y2]) rfl ⟨rfl, ⟨?_, ?_, ?_, ?_, ?_, ?_⟩, ?_⟩
      · exact HI2.out.keep kp (by have := HG.out; omega)
      · have := HA2.out.keep kp (by have := HG.out; omega)
        unfold eqM
        rw [HL.out.1]
        exact this
      · have := HO2.out.keep kp (by have := HG.out; omega)
        unfold eqM
        rw [HL.out.1]
        exact this
      · exact HG.out.2.2.2.1
      · exact HG.out.2.2.2.2.1
      · exact HG.out.2.2.2.2.2
      · exact Chg.new HK2.out (kp.chg1 (S := fun b => b = w.heap.size + 1) rfl) (fun b hb c => by omega)
set_option maxRecDepth 100000 in
set_option maxHeartbeats 8000000 in
theorem withEqual_unit (w : World) (g1 n1 c1 g2 n2 c2 g3 n3 c3 : Nat) (p : Int) (ins : List Int) (vs : List Vl) (outs : List Int) (S : Nat → Prop) (Inv : Nat → World → Prop) (hP : PG w g1 g2 g3 n1 n2 n3 ins vs outs) (hok : okG ins vs outs = true)
    (hS : ∀ b, S b → b < w.heap.size ∧ b ≠ g1 ∧ b ≠ g2 ∧ b ≠ g3) (h0 : Inv 0 w) (hI : ∀ i W W', Inv i W → Chg (fun b => b = g2 ∨ w.heap.size ≤ b) W W' → Inv i W')
    (hC : ∀ i W, i < n2 → Inv i W → VA W g2 n2 ((eqSt p vs (i + 1)).1 ++ vs.drop (i + 1)) → Calls Tryz.prog 75 #[.slice (some ⟨g2, 0, none⟩) n2 c2, .int .i64 (i : Nat)] W fun e w' => e = .returned (.int .i64 (sameAt p (eqSt p vs i).1 (rnm (eqSt p vs i).2 (vs.getD i Vl.zero)) i)) ∧ Chg S W w' ∧ Inv (i + 1) w') :
    Calls Tryz.prog 68 #[gagg (some ⟨g1, 0, none⟩) n1 c1 (some ⟨g2, 0, none⟩) n2 c2 (some ⟨g3, 0, none⟩) n3 c3, .func (.func 75) #[] #[]] w fun e w' =>
      e = .returned (gagg (some ⟨g1, 0, none⟩) n1 c1 (some ⟨g2, 0, none⟩) n2 c2 (some ⟨g3, 0, none⟩) n3 c3) ∧ PG w' g1 g2 g3 n1 n2 n3 ins (eqM p vs outs).1 (eqM p vs outs).2 ∧ Chg (fun b => b = g2 ∨ b = g3 ∨ S b) w w' := by
  obtain ⟨⟨hl1, hl2, hl3⟩, _, hv, ho, _⟩ := okG_parts hok
  have hvl : vs.length = n2 := hP.v.len
  have hol : outs.length = n3 := hP.o.len
  have hn2 : n2 ≤ 2000 := by omega
  have hn3 : n3 ≤ 50 := by omega
  have HE : Hid (∀ i, i ≤ n2 → EqI ins vs i (eqSt p vs i)) := fun i hi => eqI_all ins vs p i (fun j hj => hv j (by omega))
  have HV : Hid (∀ j, j < n2 → okV ins vs j = true) := fun j hj => hv j (by omega)
  have HOUT : Hid (∀ o ∈ outs, 0 ≤ o ∧ o < n2) := fun o h => by have := ho o h; omega
  have HL : Hid (vs.length = n2 ∧ outs.length = n3) := ⟨hvl, hol⟩
  have k0 := kept_alloc 0 0 w (gbox (some ⟨g1, 0, none⟩) n1 c1 (some ⟨g2, 0, none⟩) n2 c2 (some ⟨g3, 0, none⟩) n3 c3)
  have hB := g0_start w (.slice (some ⟨g1, 0, none⟩) n1 c1) (.slice (some ⟨g2, 0, none⟩) n2 c2) (.slice (some ⟨g3, 0, none⟩) n3 c3)
  have hz : (w.alloc (gbox (some ⟨g1, 0, none⟩) n1 c1 (some ⟨g2, 0, none⟩) n2 c2 (some ⟨g3, 0, none⟩) n3 c3)).heap.size = w.heap.size + 1 := by simp
  have k1 := kept_alloc 0 0 (w.alloc (gbox (some ⟨g1, 0, none⟩) n1 c1 (some ⟨g2, 0, none⟩) n2 c2 (some ⟨g3, 0, none⟩) n3 c3)) nbox
  have hR := rb_start (w.alloc (gbox (some ⟨g1, 0, none⟩) n1 c1 (some ⟨g2, 0, none⟩) n2 c2 (some ⟨g3, 0, none⟩) n3 c3))
  have hz1 : ((w.alloc (gbox (some ⟨g1, 0, none⟩) n1 c1 (some ⟨g2, 0, none⟩) n2 c2 (some ⟨g3, 0, none⟩) n3 c3)).alloc nbox).heap.size = w.heap.size + 1 + 1 := by simp
  have hm := make_i n2 ((w.alloc (gbox (some ⟨g1, 0, none⟩) n1 c1 (some ⟨g2, 0, none⟩) n2 c2 (some ⟨g3, 0, none⟩) n3 c3)).alloc nbox) (by omega)
  have hT := IR.made ((w.alloc (gbox (some ⟨g1, 0, none⟩) n1 c1 (some ⟨g2, 0, none⟩) n2 c2 (some ⟨g3, 0, none⟩) n3 c3)).alloc nbox) n2
  have k2 := kept_alloc 0 0 ((w.alloc (gbox (some ⟨g1, 0, none⟩) n1 c1 (some ⟨g2, 0, none⟩) n2 c2 (some ⟨g3, 0, none⟩) n3 c3)).alloc nbox) (.cells (madeCells #[.int .i64 0] n2) 3)
  rw [hz1] at hm hT
  rw [hz] at hR
  have HB : Hid _ := (hB.keep k1).keep k2
  have HR : Hid _ := hR.keep k2
  have HP : Hid _ := hP.keep ((k0.trans k1).trans k2)
  have HK : Hid _ := (k0.trans k1).trans k2
  have HT : Hid _ := hT
  have HG : Hid (g1 < w.heap.size ∧ g2 < w.heap.size ∧ g3 < w.heap.size ∧ g1 ≠ g2 ∧ g1 ≠ g3 ∧ g2 ≠ g3) := ⟨hP.i.lt, hP.v.lt, hP.o.lt, hP.d12, hP.d13, hP.d23⟩
  have HS : Hid _ := hS
  have HI : Hid _ := hI
  have HC : Hid _ := hC
  have HI0 : Hid _ := hI 0 _ _ h0 ((k0.trans k1).trans k2).chg
  have HT2 : Hid (w.heap.size + 3 ≤ (((w.alloc (gbox (some ⟨g1, 0, none⟩) n1 c1 (some ⟨g2, 0, none⟩) n2 c2 (some ⟨g3, 0, none⟩) n3 c3)).alloc nbox).alloc (.cells (madeCells #[.int .i64 0] n2) 3)).heap.size) := by show _ ≤ _; simp
  clear hP hok hl1 hl2 hl3 hv ho hvl hol hS hI hC h0 hT hR hz hz1 k0 k1 k2
  obtain ⟨_, b0, b1, b2⟩ := hB
  obtain ⟨_, q0, q1, q2⟩ := HB.out
  have b1' := (HB.out).q1
  go_enter Tryz.func68, Tryz.ntmps68
  go_wp2_with fail
  clear q0 q1 q2 b0 b1 b2 hm b1'
  generalize ((w.alloc (gbox (some ⟨g1, 0, none⟩) n1 c1 (some ⟨g2, 0, none⟩) n2 c2 (some ⟨g3, 0, none⟩) n3 c3)).alloc nbox).alloc (.cells (madeCells #[.int .i64 0] n2) 3) = w1 at HB HR HP HK HT HI0 HT2 ⊢
  go_loopw [15] (fun x W => ∃ i : Nat, i ≤ n2 ∧ x = .int .i64 i ∧ Hid (VA W g2 n2 ((eqSt p vs i).1 ++ vs.drop i)) ∧ Hid (IR W (w.heap.size + 1 + 1) ((eqSt p vs i).2 ++ List.replicate (n2 - i) 0)) ∧ Hid (Inv i W) ∧ Hid (Chg (fun b => b = g2 ∨ b = w.heap.size + 1 + 1 ∨ S b) w1 W)) (fun x _ => n2 - (intOf x).toNat)
  case atStart => exact ⟨0, Nat.zero_le _, rfl, by show VA _ _ _ _; simpa [eqSt] using HP.out.v, by show IR _ _ _; rw [Nat.sub_zero]; exact HT.out, HI0, Chg.refl _ _⟩
  case round =>
    obtain ⟨i, hi, rfl, hA, hQ, hN, hK⟩ := hrel
    clear HI0 HT
    by_cases hlt : i < n2
    · have E0 := HE.out i (by omega)
      have E1 := HE.out (i + 1) hlt
      have hz8 : w1.heap.size ≤ wr.heap.size := hK.out.size
      have hz9 : w.heap.size + 3 ≤ w1.heap.size := HT2.out
      have hat := hA.out.at_ i hlt
      have evi : ((eqSt p vs i).1 ++ vs.drop i).getD i Vl.zero = vs.getD i Vl.zero := mid_at E0.l1
      rw [evi] at hat
      have HAT : Hid _ := hat
      have hops := okV_ops (HV.out i hlt)
      have hgP : g2 ≠ w.heap.size := by have := HG.out; omega
      have hgV : g2 ≠ wr.heap.size := by have := HG.out; omega
      have HB5 : Hid _ := G0.keepC HB.out hK.out (by rintro (c | c | c) <;> first | omega | (have := (HS.out _ c).1; omega))
      have HRN : Hid (∀ W, Kept 0 0 wr W → Calls Tryz.prog 66 #[(vs.getD i Vl.zero).agg, .slice (some ⟨w.heap.size + 1 + 1, 0, none⟩) n2 n2] W fun e w' => e = .returned (rnm (eqSt p vs i).2 (vs.getD i Vl.zero)).agg ∧ Kept 0 0 W w') := fun W kW => by
        have := renum W (vs.getD i Vl.zero) _ _ (some ⟨w.heap.size + 1 + 1, 0, none⟩) n2 n2 _ (IR.isAt (IR.keep hQ.out kW (.inr (.inr (Nat.le_refl _)))) (by simp [E0.l2]; omega)) (fun o h => by have := hops o h; omega)
        rw [rnm_pad (fun o h => by have := hops o h; rw [E0.l2]; omega)] at this
        exact this
      have HR1 : Hid (∀ W, VA W g2 n2 ((eqSt p vs i).1 ++ vs.drop i) → VA (put6 W g2 (i * 6) (rnm (eqSt p vs i).2 (vs.getD i Vl.zero))) g2 n2 ((eqSt p vs (i + 1)).1 ++ vs.drop (i + 1))) := fun W h => by
        have := h.step i hlt (rnm (eqSt p vs i).2 (vs.getD i Vl.zero))
        rw [mid_set E0.l1 (by rw [HL.out.1]; exact hlt)] at this
        exact this
      have hs : ∃ r : Nat, sameAt p (eqSt p vs i).1 (rnm (eqSt p vs i).2 (vs.getD i Vl.zero)) i = (r : Int) ∧ r ≤ i ∧ (eqSt p vs (i + 1)).2.getD r 0 = (r : Int) := by
        have el : (eqSt p vs (i + 1)).2.getD i 0 = sameAt p (eqSt p vs i).1 (rnm (eqSt p vs i).2 (vs.getD i Vl.zero)) i := by
          have := getD_lastI (eqSt p vs i).2 (sameAt p (eqSt p vs i).1 (rnm (eqSt p vs i).2 (vs.getD i Vl.zero)) i)
          rw [E0.l2] at this
          exact this
        have h1 := E1.to0 i (Nat.lt_succ_self _)
        have h2 := E1.root i (Nat.lt_succ_self _)
        rw [el] at h1 h2
        exact ⟨_, (Int.toNat_of_nonneg h1.1).symm, by omega, by rw [h2]; exact (Int.toNat_of_nonneg h1.1).symm⟩
      obtain ⟨r, hr, hri, hrr⟩ := hs
      have HCi : Hid _ := hcl_at (HC.out i) hlt hr
      have HQ3 : Hid ((eqSt p vs (i + 1)).2 = (eqSt p vs i).2 ++ [(r : Int)] ∧ (eqSt p vs i).2.length = i) := ⟨by rw [← hr]; rfl, E0.l2⟩
      have HRR : Hid (r < i → (eqSt p vs i).2.getD r 0 = (r : Int)) := fun h => by
        have := hrr
        rw [HQ3.out.1, getD_fstI _ _ (by rw [E0.l2]; exact h)] at this
        exact this
      clear E0 E1 evi hops hr hrr
      generalize vs.getD i Vl.zero = v at hat HAT HRN HR1 HCi
      generalize hnv : rnm (eqSt p vs i).2 v = nv at HRN HR1
      clear hnv
      obtain ⟨y0, y1, y2, y3, y4, y5⟩ := hat
      obtain ⟨_, p0, p1, p2⟩ := HB5.out
      go_wp2_with fail
      clear y0 y1 y2 y3 y4 y5 p0 p1 p2
      have ka := kept_alloc 0 0 wr (vbox v.op v.len v.a v.b v.c v.k)
      have HKA : Hid _ := ka
      have HX : Hid (At (wr.alloc (vbox v.op v.len v.a v.b v.c v.k)) wr.heap.size 0 v) := vbox_atJ wr v
      have HB6 : Hid _ := HB5.out.keep ka
      have HA6 : Hid _ := hA.out.keep ka (.inr (.inr (Nat.le_refl _)))
      have HZ6 : Hid (wr.heap.size < (wr.alloc (vbox v.op v.len v.a v.b v.c v.k)).heap.size) := by show _ < _; simp
      obtain ⟨_, p0, p1, p2⟩ := HB6.out
      obtain ⟨x0, x1, x2, x3, x4, x5⟩ := HX.out
      simp only [Nat.zero_add] at x1 x2 x3 x4 x5
      clear ka
      generalize wr.alloc (vbox v.op v.len v.a v.b v.c v.k) = w2 at HKA HX HB6 HA6 HZ6 p0 p1 p2 x0 x1 x2 x3 x4 x5 ⊢
      go_region_held3 (fun W : World => W.cell? ⟨w.heap.size, 1, none⟩ = some (.slice (some ⟨g2, 0, none⟩) n2 c2) ∧ W.cell? ⟨wr.heap.size, 0, none⟩ = some (.int .i64 v.op) ∧ W.cell? ⟨wr.heap.size, 1, none⟩ = some (.int .i64 v.len) ∧ W.cell? ⟨wr.heap.size, 2, none⟩ = some (.int .i64 v.a) ∧ W.cell? ⟨wr.heap.size, 3, none⟩ = some (.int .i64 v.b) ∧ W.cell? ⟨wr.heap.size, 4, none⟩ = some (.int .i64 v.c) ∧ W.cell? ⟨wr.heap.size, 5, none⟩ = some (.float .f64 v.k)) (first | go_keep | (exact ⟨(put6_out w3 g2 (i * 6) _ _ nv (.inl hgP)).trans t1, (put6_out w3 g2 (i * 6) _ _ nv (.inl hgV)).trans s0, (put6_out w3 g2 (i * 6) _ _ nv (.inl hgV)).trans s1, (put6_out w3 g2 (i * 6) _ _ nv (.inl hgV)).trans s2, (put6_out w3 g2 (i * 6) _ _ nv (.inl hgV)).trans s3, (put6_out w3 g2 (i * 6) _ _ nv (.inl hgV)).trans s4, (put6_out w3 g2 (i * 6) _ _ nv (.inl hgV)).trans s5⟩))
        ((go_at_call 66; refine Calls.mono (HRN.out _ (HKA.out.trans (kept_drewN 0 0 w2 1))) ?_; rintro e w3 ⟨rfl, k3⟩; have k3' := Kept.trans (kept_drewN 0 0 w2 1) k3; obtain ⟨_, t0, t1, t2⟩ := G0.keep HB6.out k3'; obtain ⟨s0, s1, s2, s3, s4, s5⟩ := At.keep HX.out HZ6.out k3' (.inr (.inr (Nat.le_refl _))); simp only [Nat.zero_add] at s1 s2 s3 s4 s5; obtain ⟨u0, u1, u2, u3, u4, u5⟩ := At.keep HAT.out hA.out.lt (HKA.out.trans k3') (.inr (.inr (Nat.le_refl _))); have ufz := (VA.keep HA6.out k3' (.inr (.inr (Nat.le_refl _)))).free))
      have kw := HKA.out.trans k3'
      have kp : Kept g2 (g2 + 1) w3 ((((((w3.setCell ⟨g2, i * 6, none⟩ (.int .i64 nv.op)).setCell ⟨g2, i * 6 + 1, none⟩ (.int .i64 nv.len)).setCell ⟨g2, i * 6 + 2, none⟩ (.int .i64 nv.a)).setCell ⟨g2, i * 6 + 3, none⟩ (.int .i64 nv.b)).setCell ⟨g2, i * 6 + 4, none⟩ (.int .i64 nv.c)).setCell ⟨g2, i * 6 + 5, none⟩ (.float .f64 nv.k)) := put6_kept w3 g2 (i * 6) nv
      have HV7 : Hid (VA ((((((w3.setCell ⟨g2, i * 6, none⟩ (.int .i64 nv.op)).setCell ⟨g2, i * 6 + 1, none⟩ (.int .i64 nv.len)).setCell ⟨g2, i * 6 + 2, none⟩ (.int .i64 nv.a)).setCell ⟨g2, i * 6 + 3, none⟩ (.int .i64 nv.b)).setCell ⟨g2, i * 6 + 4, none⟩ (.int .i64 nv.c)).setCell ⟨g2, i * 6 + 5, none⟩ (.float .f64 nv.k)) g2 n2 ((eqSt p vs (i + 1)).1 ++ vs.drop (i + 1))) := HR1.out w3 (VA.keep HA6.out k3' (.inr (.inr (Nat.le_refl _))))
      have HQ7 : Hid (IR ((((((w3.setCell ⟨g2, i * 6, none⟩ (.int .i64 nv.op)).setCell ⟨g2, i * 6 + 1, none⟩ (.int .i64 nv.len)).setCell ⟨g2, i * 6 + 2, none⟩ (.int .i64 nv.a)).setCell ⟨g2, i * 6 + 3, none⟩ (.int .i64 nv.b)).setCell ⟨g2, i * 6 + 4, none⟩ (.int .i64 nv.c)).setCell ⟨g2, i * 6 + 5, none⟩ (.float .f64 nv.k)) (w.heap.size + 1 + 1) ((eqSt p vs i).2 ++ List.replicate (n2 - i) 0)) := (IR.keep hQ.out kw (.inr (.inr (Nat.le_refl _)))).keep kp (by have := HG.out; omega)
      have HN7 : Hid (Inv i ((((((w3.setCell ⟨g2, i * 6, none⟩ (.int .i64 nv.op)).setCell ⟨g2, i * 6 + 1, none⟩ (.int .i64 nv.len)).setCell ⟨g2, i * 6 + 2, none⟩ (.int .i64 nv.a)).setCell ⟨g2, i * 6 + 3, none⟩ (.int .i64 nv.b)).setCell ⟨g2, i * 6 + 4, none⟩ (.int .i64 nv.c)).setCell ⟨g2, i * 6 + 5, none⟩ (.float .f64 nv.k))) := HI.out i _ _ hN.out (Chg.trans kw.chg (kp.chg1 (.inl rfl)))
      have HK7 : Hid (Chg (fun b => b = g2 ∨ b = w.heap.size + 1 + 1 ∨ S b) w1 ((((((w3.setCell ⟨g2, i * 6, none⟩ (.int .i64 nv.op)).setCell ⟨g2, i * 6 + 1, none⟩ (.int .i64 nv.len)).setCell ⟨g2, i * 6 + 2, none⟩ (.int .i64 nv.a)).setCell ⟨g2, i * 6 + 3, none⟩ (.int .i64 nv.b)).setCell ⟨g2, i * 6 + 4, none⟩ (.int .i64 nv.c)).setCell ⟨g2, i * 6 + 5, none⟩ (.float .f64 nv.k))) := Chg.trans hK.out (Chg.trans kw.chg (kp.chg1 (.inl rfl)))
      have HB7 : Hid (G0 ((((((w3.setCell ⟨g2, i * 6, none⟩ (.int .i64 nv.op)).setCell ⟨g2, i * 6 + 1, none⟩ (.int .i64 nv.len)).setCell ⟨g2, i * 6 + 2, none⟩ (.int .i64 nv.a)).setCell ⟨g2, i * 6 + 3, none⟩ (.int .i64 nv.b)).setCell ⟨g2, i * 6 + 4, none⟩ (.int .i64 nv.c)).setCell ⟨g2, i * 6 + 5, none⟩ (.float .f64 nv.k)) w.heap.size (.slice (some ⟨g1, 0, none⟩) n1 c1) (.slice (some ⟨g2, 0, none⟩) n2 c2) (.slice (some ⟨g3, 0, none⟩) n3 c3)) := G0.keepT (G0.keep HB6.out k3') kp (by have := HG.out; omega)
      generalize ((((((w3.setCell ⟨g2, i * 6, none⟩ (.int .i64 nv.op)).setCell ⟨g2, i * 6 + 1, none⟩ (.int .i64 nv.len)).setCell ⟨g2, i * 6 + 2, none⟩ (.int .i64 nv.a)).setCell ⟨g2, i * 6 + 3, none⟩ (.int .i64 nv.b)).setCell ⟨g2, i * 6 + 4, none⟩ (.int .i64 nv.c)).setCell ⟨g2, i * 6 + 5, none⟩ (.float .f64 nv.k)) = w7 at HV7 HQ7 HN7 HK7 HB7 ⊢
      clear kw kp k3 k3' t0 t1 t2 s0 s1 s2 s3 s4 s5 u0 u1 u2 u3 u4 u5 ufz p0 p1 p2 x0 x1 x2 x3 x4 x5 HKA HX HB6 HA6 HZ6 HAT HRN HR1 hA hQ hN hK
      obtain ⟨_, p0, p1, p2⟩ := HB7.out
      have cT := HQ7.out.cell i (by rw [List.length_append, List.length_replicate, HQ3.out.2]; omega)
      have fT := HQ7.out.free i
      generalize ((eqSt p vs i).2 ++ List.replicate (n2 - i) 0).getD i 0 = zz at cT
      go_wp2_with fail
      have kq := kept_setCell (lo := w.heap.size + 1 + 1) (hi := w.heap.size + 1 + 1 + 1) w7 ⟨w.heap.size + 1 + 1, i, none⟩ (.int .i64 (i : Nat)) (.inl ⟨Nat.le_refl _, Nat.lt_succ_self _⟩)
      have HQ8 : Hid _ := IR.set HQ7.out i (i : Nat)
      have HN8 : Hid _ := HI.out i _ _ HN7.out (kq.chg1 (.inr (by omega)))
      have HV8 : Hid _ := HV7.out.keep kq (by have := HG.out; omega)
      have HK8 : Hid _ := Chg.trans HK7.out (kq.chg1 (.inr (.inl rfl)))
      generalize w7.setCell ⟨w.heap.size + 1 + 1, i, none⟩ (.int .i64 (i : Nat)) = w8 at HQ8 HN8 HV8 HK8 ⊢
      clear kq cT fT p0 p1 p2 HB7 HV7 HQ7 HN7 HK7
      refine Calls.mono (HCi.out w8 HN8.out HV8.out) ?_
      rintro e w9 ⟨rfl, c9, hN9⟩
      have HQ9 : Hid _ := IR.keepC HQ8.out c9 (fun c => by have := (HS.out _ c).1; omega)
      have HV9 : Hid _ := VA.keepC HV8.out c9 (fun c => (HS.out _ c).2.2.1 rfl)
      have HK9 : Hid _ := Chg.trans HK8.out (c9.mono fun b _ c => .inr (.inr c))
      have HN9 : Hid _ := hN9
      have cR := IR.cell HQ9.out r (by rw [List.length_set, List.length_append, List.length_replicate, HQ3.out.2]; omega)
      rw [tq_at HQ3.out.2 hlt hri HRR.out] at cR
      have cT := IR.cell HQ9.out i (by rw [List.length_set, List.length_append, List.length_replicate, HQ3.out.2]; omega)
      have fT := IR.free HQ9.out i
      generalize (((eqSt p vs i).2 ++ List.replicate (n2 - i) 0).set i (i : Nat)).getD i 0 = zz at cT
      have kq := kept_setCell (lo := w.heap.size + 1 + 1) (hi := w.heap.size + 1 + 1 + 1) w9 ⟨w.heap.size + 1 + 1, i, none⟩ (.int .i64 (r : Nat)) (.inl ⟨Nat.le_refl _, Nat.lt_succ_self _⟩)
      have R1 : Hid _ := HV9.out.keep kq (by have := HG.out; omega)
      have R2 : Hid _ := IR.set HQ9.out i (r : Nat)
      rw [tq_set HQ3.out.2 hlt, ← HQ3.out.1] at R2
      have R3 : Hid _ := HI.out _ _ _ HN9.out (kq.chg1 (.inr (by omega)))
      have R4 : Hid _ := Chg.trans HK9.out (kq.chg1 (.inr (.inl rfl)))
      have hrn : r < n2 := by omega
      clear kq c9 hN9 HQ8 HN8 HV8 HK8 HQ9 HV9 HK9 HN9 HCi HQ3 HRR
      go_wp2
      go_roundw
      case rel => exact ⟨i + 1, by omega, by go_num, R1, R2, R3, R4⟩
      case measure => simp [intOf]; omega
    · obtain rfl : i = n2 := by omega
      have hz8 : w1.heap.size ≤ wr.heap.size := hK.out.size
      have hz9 : w.heap.size + 3 ≤ w1.heap.size := HT2.out
      have E0 := HE.out i (Nat.le_refl _)
      have hS1 : ∀ b, w.heap.size ≤ b → ¬ S b := fun b hb c => by have := (HS.out _ c).1; omega
      have HA9 : Hid (VA wr g2 i (eqSt p vs i).1) := by
        have := hA.out
        rw [List.drop_of_length_le (by rw [HL.out.1]; omega), List.append_nil] at this
        exact this
      have HQ9 : Hid (IS wr (w.heap.size + 1 + 1) (w.heap.size + 1 + 1 + 1) (some ⟨w.heap.size + 1 + 1, 0, none⟩) i (eqSt p vs i).2) := by
        have := hQ.out
        rw [Nat.sub_self, List.replicate_zero, List.append_nil] at this
        exact this.isAt E0.l2
      have HB9 : Hid _ := G0.keepC HB.out hK.out (by rintro (c | c | c) <;> first | (have := HG.out; omega) | exact hS1 _ (by omega) c)
      have HR9 : Hid _ := RB.keepC HR.out hK.out (by rintro (c | c | c) <;> first | (have := HG.out; omega) | exact hS1 _ (by omega) c)
      have HI9 : Hid _ := IBk.keepC HP.out.i hK.out (by rintro (c | c | c) <;> first | (have := HG.out; omega) | exact (HS.out _ c).2.1 rfl)
      have HO9 : Hid _ := IBk.keepC HP.out.o hK.out (by rintro (c | c | c) <;> first | (have := HG.out; omega) | exact (HS.out _ c).2.2.2 rfl)
      have HRO : Hid _ := renumberOuts wr (some ⟨g1, 0, none⟩) (some ⟨g2, 0, none⟩) n1 c1 i c2 g3 n3 c3 _ _ _ i i (eqSt p vs i).2 outs HO9.out HQ9.out (by have := HG.out; omega) HOUT.out (by omega)
      have HK9 : Hid (Chg (fun b => b = g2 ∨ b = g3 ∨ S b) w wr) := Chg.new HK.out.chg hK.out (fun b hb c => by rcases c with c | c | c <;> first | exact .inl c | exact .inr (.inr c) | omega)
      clear E0 hA hQ hN hK HR HB
      obtain ⟨_, p0, p1, p2⟩ := HB9.out
      go_wp2_with fail
      clear p0 p1 p2
      refine Calls.mono HRO.out ?_
      rintro e w2 ⟨rfl, hO2, k2⟩
      have HB2 : Hid _ := G0.keepT HB9.out k2 (by have := HG.out; omega)
      have HA2 : Hid _ := HA9.out.keep k2 (by have := HG.out; omega)
      have HI2 : Hid _ := HI9.out.keep k2 (by have := HG.out; omega)
      have HO2 : Hid _ := hO2
      have HK2 : Hid (Chg (fun b => b = g2 ∨ b = g3 ∨ S b) w w2) := Chg.trans HK9.out (k2.chg1 (.inr (.inl rfl)))
      have HR2 : Hid _ := RB.keepC HR9.out (k2.chg1 (S := fun b => b = g3) rfl) (by have := HG.out; omega)
      clear hO2 HRO HB9 HA9 HQ9 HI9 HO9 HK9
      obtain ⟨_, p0, p1, p2⟩ := HB2.out
      obtain ⟨_, r0, r1, r2, f0, f1, f2⟩ := HR2.out
      go_wp2_with fail
      obtain ⟨y0, y1, y2⟩ := put3_0 w2 (w.heap.size + 1) _ _ _ r0 r1 r2 (.slice (some ⟨g1, 0, none⟩) n1 c1) (.slice (some ⟨g2, 0, none⟩) i c2) (.slice (some ⟨g3, 0, none⟩) n3 c3)
      have kp := put3_kept w2 (w.heap.size + 1) (.slice (some ⟨g1, 0, none⟩) n1 c1) (.slice (some ⟨g2, 0, none⟩) i c2) (.slice (some ⟨g3, 0, none⟩) n3 c3)
      refine bodyPost_ret (v := gagg (some ⟨g1, 0, none⟩) n1 c1 (some ⟨g2, 0, none⟩) i c2 (some ⟨g3, 0, none⟩) n3 c3) (by simp [results, Tryz.results68, go_sem, y0, y1, y2]) rfl ⟨rfl, ⟨?_, ?_, ?_, ?_, ?_, ?_⟩, ?_⟩
      · exact HI2.out.keep kp (by have := HG.out; omega)
      · have := HA2.out.keep kp (by have := HG.out; omega)
        unfold eqM
        rw [HL.out.1]
        exact this
      · have := HO2.out.keep kp (by have := HG.out; omega)
        unfold eqM
        rw [HL.out.1]
        exact this
      · exact HG.out.2.2.2.1
      · exact HG.out.2.2.2.2.1
      · exact HG.out.2.2.2.2.2
      · exact Chg.new HK2.out (kp.chg1 (S := fun b => b = w.heap.size + 1) rfl) (fun b hb c => by omega)
set_option maxRecDepth 100000 in
set_option maxHeartbeats 8000000 in
theorem withEqual_com (w : World) (g1 n1 c1 g2 n2 c2 g3 n3 c3 FB : Nat) (p : Int) (ins : List Int) (vs : List Vl) (outs : List Int) (S : Nat → Prop) (Inv : Nat → World → Prop) (hP : PG w g1 g2 g3 n1 n2 n3 ins vs outs) (hok : okG ins vs outs = true)
    (hS : ∀ b, S b → b < w.heap.size ∧ b ≠ g1 ∧ b ≠ g2 ∧ b ≠ g3) (h0 : Inv 0 w) (hI : ∀ i W W', Inv i W → Chg (fun b => b = g2 ∨ w.heap.size ≤ b) W W' → Inv i W')
    (hC : ∀ i W, i < n2 → Inv i W → VA W g2 n2 ((eqSt p vs (i + 1)).1 ++ vs.drop (i + 1)) → Calls Tryz.prog 69 #[.slice (some ⟨g2, 0, none⟩) n2 c2, .int .i64 (i : Nat), .pointer (some ⟨FB, 0, none⟩)] W fun e w' => e = .returned (.int .i64 (sameAt p (eqSt p vs i).1 (rnm (eqSt p vs i).2 (vs.getD i Vl.zero)) i)) ∧ Chg S W w' ∧ Inv (i + 1) w') :
    Calls Tryz.prog 68 #[gagg (some ⟨g1, 0, none⟩) n1 c1 (some ⟨g2, 0, none⟩) n2 c2 (some ⟨g3, 0, none⟩) n3 c3, .func (.func 69) #[] #[.pointer (some ⟨FB, 0, none⟩)]] w fun e w' =>
      e = .returned (gagg (some ⟨g1, 0, none⟩) n1 c1 (some ⟨g2, 0, none⟩) n2 c2 (some ⟨g3, 0, none⟩) n3 c3) ∧ PG w' g1 g2 g3 n1 n2 n3 ins (eqM p vs outs).1 (eqM p vs outs).2 ∧ Chg (fun b => b = g2 ∨ b = g3 ∨ S b) w w' := by
  obtain ⟨⟨hl1, hl2, hl3⟩, _, hv, ho, _⟩ := okG_parts hok
  have hvl : vs.length = n2 := hP.v.len
  have hol : outs.length = n3 := hP.o.len
  have hn2 : n2 ≤ 2000 := by omega
  have hn3 : n3 ≤ 50 := by omega
  have HE : Hid (∀ i, i ≤ n2 → EqI ins vs i (eqSt p vs i)) := fun i hi => eqI_all ins vs p i (fun j hj => hv j (by omega))
  have HV : Hid (∀ j, j < n2 → okV ins vs j = true) := fun j hj => hv j (by omega)
  have HOUT : Hid (∀ o ∈ outs, 0 ≤ o ∧ o < n2) := fun o h => by have := ho o h; omega
  have HL : Hid (vs.length = n2 ∧ outs.length = n3) := ⟨hvl, hol⟩
  have k0 := kept_alloc 0 0 w (gbox (some ⟨g1, 0, none⟩) n1 c1 (some ⟨g2, 0, none⟩) n2 c2 (some ⟨g3, 0, none⟩) n3 c3)
  have hB := g0_start w (.slice (some ⟨g1, 0, none⟩) n1 c1) (.slice (some ⟨g2, 0, none⟩) n2 c2) (.slice (some ⟨g3, 0, none⟩) n3 c3)
  have hz : (w.alloc (gbox (some ⟨g1, 0, none⟩) n1 c1 (some ⟨g2, 0, none⟩) n2 c2 (some ⟨g3, 0, none⟩) n3 c3)).heap.size = w.heap.size + 1 := by simp
  have k1 := kept_alloc 0 0 (w.alloc (gbox (some ⟨g1, 0, none⟩) n1 c1 (some ⟨g2, 0, none⟩) n2 c2 (some ⟨g3, 0, none⟩) n3 c3)) nbox
  have hR := rb_start (w.alloc (gbox (some ⟨g1, 0, none⟩) n1 c1 (some ⟨g2, 0, none⟩) n2 c2 (some ⟨g3, 0, none⟩) n3 c3))
  have hz1 : ((w.alloc (gbox (some ⟨g1, 0, none⟩) n1 c1 (some ⟨g2, 0, none⟩) n2 c2 (some ⟨g3, 0, none⟩) n3 c3)).alloc nbox).heap.size = w.heap.size + 1 + 1 := by simp
  have hm := make_i n2 ((w.alloc (gbox (some ⟨g1, 0, none⟩) n1 c1 (some ⟨g2, 0, none⟩) n2 c2 (some ⟨g3, 0, none⟩) n3 c3)).alloc nbox) (by omega)
  have hT := IR.made ((w.alloc (gbox (some ⟨g1, 0, none⟩) n1 c1 (some ⟨g2, 0, none⟩) n2 c2 (some ⟨g3, 0, none⟩) n3 c3)).alloc nbox) n2
  have k2 := kept_alloc 0 0 ((w.alloc (gbox (some ⟨g1, 0, none⟩) n1 c1 (some ⟨g2, 0, none⟩) n2 c2 (some ⟨g3, 0, none⟩) n3 c3)).alloc nbox) (.cells (madeCells #[.int .i64 0] n2) 3)
  rw [hz1] at hm hT
  rw [hz] at hR
  have HB : Hid _ := (hB.keep k1).keep k2
  have HR : Hid _ := hR.keep k2
  have HP : Hid _ := hP.keep ((k0.trans k1).trans k2)
  have HK : Hid _ := (k0.trans k1).trans k2
  have HT : Hid _ := hT
  have HG : Hid (g1 < w.heap.size ∧ g2 < w.heap.size ∧ g3 < w.heap.size ∧ g1 ≠ g2 ∧ g1 ≠ g3 ∧ g2 ≠ g3) := ⟨hP.i.lt, hP.v.lt, hP.o.lt, hP.d12, hP.d13, hP.d23⟩
  have HS : Hid _ := hS
  have HI : Hid _ := hI
  have HC : Hid _ := hC
  have HI0 : Hid _ := hI 0 _ _ h0 ((k0.trans k1).trans k2).chg
  have HT2 : Hid (w.heap.size + 3 ≤ (((w.alloc (gbox (some ⟨g1, 0, none⟩) n1 c1 (some ⟨g2, 0, none⟩) n2 c2 (some ⟨g3, 0, none⟩) n3 c3)).alloc nbox).alloc (.cells (madeCells #[.int .i64 0] n2) 3)).heap.size) := by show _ ≤ _; simp
  clear hP hok hl1 hl2 hl3 hv ho hvl hol hS hI hC h0 hT hR hz hz1 k0 k1 k2
  obtain ⟨_, b0, b1, b2⟩ := hB
  obtain ⟨_, q0, q1, q2⟩ := HB.out
  have b1' := (HB.out).q1
  go_enter Tryz.func68, Tryz.ntmps68
  go_wp2_with fail
  clear q0 q1 q2 b0 b1 b2 hm b1'
  generalize ((w.alloc (gbox (some ⟨g1, 0, none⟩) n1 c1 (some ⟨g2, 0, none⟩) n2 c2 (some ⟨g3, 0, none⟩) n3 c3)).alloc nbox).alloc (.cells (madeCells #[.int .i64 0] n2) 3) = w1 at HB HR HP HK HT HI0 HT2 ⊢
  go_loopw [15] (fun x W => ∃ i : Nat, i ≤ n2 ∧ x = .int .i64 i ∧ Hid (VA W g2 n2 ((eqSt p vs i).1 ++ vs.drop i)) ∧ Hid (IR W (w.heap.size + 1 + 1) ((eqSt p vs i).2 ++ List.replicate (n2 - i) 0)) ∧ Hid (Inv i W) ∧ Hid (Chg (fun b => b = g2 ∨ b = w.heap.size + 1 + 1 ∨ S b) w1 W)) (fun x _ => n2 - (intOf x).toNat)
  case atStart => exact ⟨0, Nat.zero_le _, rfl, by show VA _ _ _ _; simpa [eqSt] using HP.out.v, by show IR _ _ _; rw [Nat.sub_zero]; exact HT.out, HI0, Chg.refl _ _⟩
  case round =>
    obtain ⟨i, hi, rfl, hA, hQ, hN, hK⟩ := hrel
    clear HI0 HT
    by_cases hlt : i < n2
    · have E0 := HE.out i (by omega)
      have E1 := HE.out (i + 1) hlt
      have hz8 : w1.heap.size ≤ wr.heap.size := hK.out.size
      have hz9 : w.heap.size + 3 ≤ w1.heap.size := HT2.out
      have hat := hA.out.at_ i hlt
      have evi : ((eqSt p vs i).1 ++ vs.drop i).getD i Vl.zero = vs.getD i Vl.zero := mid_at E0.l1
      rw [evi] at hat
      have HAT : Hid _ := hat
      have hops := okV_ops (HV.out i hlt)
      have hgP : g2 ≠ w.heap.size := by have := HG.out; omega
      have hgV : g2 ≠ wr.heap.size := by have := HG.out; omega
      have HB5 : Hid _ := G0.keepC HB.out hK.out (by rintro (c | c | c) <;> first | omega | (have := (HS.out _ c).1; omega))
      have HRN : Hid (∀ W, Kept 0 0 wr W → Calls Tryz.prog 66 #[(vs.getD i Vl.zero).agg, .slice (some ⟨w.heap.size + 1 + 1, 0, none⟩) n2 n2] W fun e w' => e = .returned (rnm (eqSt p vs i).2 (vs.getD i Vl.zero)).agg ∧ Kept 0 0 W w') := fun W kW => by
        have := renum W (vs.getD i Vl.zero) _ _ (some ⟨w.heap.size + 1 + 1, 0, none⟩) n2 n2 _ (IR.isAt (IR.keep hQ.out kW (.inr (.inr (Nat.le_refl _)))) (by simp [E0.l2]; omega)) (fun o h => by have := hops o h; omega)
        rw [rnm_pad (fun o h => by have := hops o h; rw [E0.l2]; omega)] at this
        exact this
      have HR1 : Hid (∀ W, VA W g2 n2 ((eqSt p vs i).1 ++ vs.drop i) → VA (put6 W g2 (i * 6) (rnm (eqSt p vs i).2 (vs.getD i Vl.zero))) g2 n2 ((eqSt p vs (i + 1)).1 ++ vs.drop (i + 1))) := fun W h => by
        have := h.step i hlt (rnm (eqSt p vs i).2 (vs.getD i Vl.zero))
        rw [mid_set E0.l1 (by rw [HL.out.1]; exact hlt)] at this
        exact this
      have hs : ∃ r : Nat, sameAt p (eqSt p vs i).1 (rnm (eqSt p vs i).2 (vs.getD i Vl.zero)) i = (r : Int) ∧ r ≤ i ∧ (eqSt p vs (i + 1)).2.getD r 0 = (r : Int) := by
        have el : (eqSt p vs (i + 1)).2.getD i 0 = sameAt p (eqSt p vs i).1 (rnm (eqSt p vs i).2 (vs.getD i Vl.zero)) i := by
          have := getD_lastI (eqSt p vs i).2 (sameAt p (eqSt p vs i).1 (rnm (eqSt p vs i).2 (vs.getD i Vl.zero)) i)
          rw [E0.l2] at this
          exact this
        have h1 := E1.to0 i (Nat.lt_succ_self _)
        have h2 := E1.root i (Nat.lt_succ_self _)
        rw [el] at h1 h2
        exact ⟨_, (Int.toNat_of_nonneg h1.1).symm, by omega, by rw [h2]; exact (Int.toNat_of_nonneg h1.1).symm⟩
      obtain ⟨r, hr, hri, hrr⟩ := hs
      have HCi : Hid _ := hcl_at (HC.out i) hlt hr
      have HQ3 : Hid ((eqSt p vs (i + 1)).2 = (eqSt p vs i).2 ++ [(r : Int)] ∧ (eqSt p vs i).2.length = i) := ⟨by rw [← hr]; rfl, E0.l2⟩
      have HRR : Hid (r < i → (eqSt p vs i).2.getD r 0 = (r : Int)) := fun h => by
        have := hrr
        rw [HQ3.out.1, getD_fstI _ _ (by rw [E0.l2]; exact h)] at this
        exact this
      clear E0 E1 evi hops hr hrr
      generalize vs.getD i Vl.zero = v at hat HAT HRN HR1 HCi
      generalize hnv : rnm (eqSt p vs i).2 v = nv at HRN HR1
      clear hnv
      obtain ⟨y0, y1, y2, y3, y4, y5⟩ := hat
      obtain ⟨_, p0, p1, p2⟩ := HB5.out
      go_wp2_with fail
      clear y0 y1 y2 y3 y4 y5 p0 p1 p2
      have ka := kept_alloc 0 0 wr (vbox v.op v.len v.a v.b v.c v.k)
      have HKA : Hid _ := ka
      have HX : Hid (At (wr.alloc (vbox v.op v.len v.a v.b v.c v.k)) wr.heap.size 0 v) := vbox_atJ wr v
      have HB6 : Hid _ := HB5.out.keep ka
      have HA6 : Hid _ := hA.out.keep ka (.inr (.inr (Nat.le_refl _)))
      have HZ6 : Hid (wr.heap.size < (wr.alloc (vbox v.op v.len v.a v.b v.c v.k)).heap.size) := by show _ < _; simp
      obtain ⟨_, p0, p1, p2⟩ := HB6.out
      obtain ⟨x0, x1, x2, x3, x4, x5⟩ := HX.out
      simp only [Nat.zero_add] at x1 x2 x3 x4 x5
      clear ka
      generalize wr.alloc (vbox v.op v.len v.a v.b v.c v.k) = w2 at HKA HX HB6 HA6 HZ6 p0 p1 p2 x0 x1 x2 x3 x4 x5 ⊢
      go_region_held3 (fun W : World => W.cell? ⟨w.heap.size, 1, none⟩ = some (.slice (some ⟨g2, 0, none⟩) n2 c2) ∧ W.cell? ⟨wr.heap.size, 0, none⟩ = some (.int .i64 v.op) ∧ W.cell? ⟨wr.heap.size, 1, none⟩ = some (.int .i64 v.len) ∧ W.cell? ⟨wr.heap.size, 2, none⟩ = some (.int .i64 v.a) ∧ W.cell? ⟨wr.heap.size, 3, none⟩ = some (.int .i64 v.b) ∧ W.cell? ⟨wr.heap.size, 4, none⟩ = some (.int .i64 v.c) ∧ W.cell? ⟨wr.heap.size, 5, none⟩ = some (.float .f64 v.k)) (first | go_keep | (exact ⟨(put6_out w3 g2 (i * 6) _ _ nv (.inl hgP)).trans t1, (put6_out w3 g2 (i * 6) _ _ nv (.inl hgV)).trans s0, (put6_out w3 g2 (i * 6) _ _ nv (.inl hgV)).trans s1, (put6_out w3 g2 (i * 6) _ _ nv (.inl hgV)).trans s2, (put6_out w3 g2 (i * 6) _ _ nv (.inl hgV)).trans s3, (put6_out w3 g2 (i * 6) _ _ nv (.inl hgV)).trans s4, (put6_out w3 g2 (i * 6) _ _ nv (.inl hgV)).trans s5⟩))
        ((go_at_call 66; refine Calls.mono (HRN.out _ (HKA.out.trans (kept_drewN 0 0 w2 1))) ?_; rintro e w3 ⟨rfl, k3⟩; have k3' := Kept.trans (kept_drewN 0 0 w2 1) k3; obtain ⟨_, t0, t1, t2⟩ := G0.keep HB6.out k3'; obtain ⟨s0, s1, s2, s3, s4, s5⟩ := At.keep HX.out HZ6.out k3' (.inr (.inr (Nat.le_refl _))); simp only [Nat.zero_add] at s1 s2 s3 s4 s5; obtain ⟨u0, u1, u2, u3, u4, u5⟩ := At.keep HAT.out hA.out.lt (HKA.out.trans k3') (.inr (.inr (Nat.le_refl _))); have ufz := (VA.keep HA6.out k3' (.inr (.inr (Nat.le_refl _)))).free))
      have kw := HKA.out.trans k3'
      have kp : Kept g2 (g2 + 1) w3 ((((((w3.setCell ⟨g2, i * 6, none⟩ (.int .i64 nv.op)).setCell ⟨g2, i * 6 + 1, none⟩ (.int .i64 nv.len)).setCell ⟨g2, i * 6 + 2, none⟩ (.int .i64 nv.a)).setCell ⟨g2, i * 6 + 3, none⟩ (.int .i64 nv.b)).setCell ⟨g2, i * 6 + 4, none⟩ (.int .i64 nv.c)).setCell ⟨g2, i * 6 + 5, none⟩ (.float .f64 nv.k)) := put6_kept w3 g2 (i * 6) nv
      have HV7 : Hid (VA ((((((w3.setCell ⟨g2, i * 6, none⟩ (.int .i64 nv.op)).setCell ⟨g2, i * 6 + 1, none⟩ (.int .i64 nv.len)).setCell ⟨g2, i * 6 + 2, none⟩ (.int .i64 nv.a)).setCell ⟨g2, i * 6 + 3, none⟩ (.int .i64 nv.b)).setCell ⟨g2, i * 6 + 4, none⟩ (.int .i64 nv.c)).setCell ⟨g2, i * 6 + 5, none⟩ (.float .f64 nv.k)) g2 n2 ((eqSt p vs (i + 1)).1 ++ vs.drop (i + 1))) := HR1.out w3 (VA.keep HA6.out k3' (.inr (.inr (Nat.le_refl _))))
      have HQ7 : Hid (IR ((((((w3.setCell ⟨g2, i * 6, none⟩ (.int .i64 nv.op)).setCell ⟨g2, i * 6 + 1, none⟩ (.int .i64 nv.len)).setCell ⟨g2, i * 6 + 2, none⟩ (.int .i64 nv.a)).setCell ⟨g2, i * 6 + 3, none⟩ (.int .i64 nv.b)).setCell ⟨g2, i * 6 + 4, none⟩ (.int .i64 nv.c)).setCell ⟨g2, i * 6 + 5, none⟩ (.float .f64 nv.k)) (w.heap.size + 1 + 1) ((eqSt p vs i).2 ++ List.replicate (n2 - i) 0)) := (IR.keep hQ.out kw (.inr (.inr (Nat.le_refl _)))).keep kp (by have := HG.out; omega)
      have HN7 : Hid (Inv i ((((((w3.setCell ⟨g2, i * 6, none⟩ (.int .i64 nv.op)).setCell ⟨g2, i * 6 + 1, none⟩ (.int .i64 nv.len)).setCell ⟨g2, i * 6 + 2, none⟩ (.int .i64 nv.a)).setCell ⟨g2, i * 6 + 3, none⟩ (.int .i64 nv.b)).setCell ⟨g2, i * 6 + 4, none⟩ (.int .i64 nv.c)).setCell ⟨g2, i * 6 + 5, none⟩ (.float .f64 nv.k))) := HI.out i _ _ hN.out (Chg.trans kw.chg (kp.chg1 (.inl rfl)))
      have HK7 : Hid (Chg (fun b => b = g2 ∨ b = w.heap.size + 1 + 1 ∨ S b) w1 ((((((w3.setCell ⟨g2, i * 6, none⟩ (.int .i64 nv.op)).setCell ⟨g2, i * 6 + 1, none⟩ (.int .i64 nv.len)).setCell ⟨g2, i * 6 + 2, none⟩ (.int .i64 nv.a)).setCell ⟨g2, i * 6 + 3, none⟩ (.int .i64 nv.b)).setCell ⟨g2, i * 6 + 4, none⟩ (.int .i64 nv.c)).setCell ⟨g2, i * 6 + 5, none⟩ (.float .f64 nv.k))) := Chg.trans hK.out (Chg.trans kw.chg (kp.chg1 (.inl rfl)))
      have HB7 : Hid (G0 ((((((w3.setCell ⟨g2, i * 6, none⟩ (.int .i64 nv.op)).setCell ⟨g2, i * 6 + 1, none⟩ (.int .i64 nv.len)).setCell ⟨g2, i * 6 + 2, none⟩ (.int .i64 nv.a)).setCell ⟨g2, i * 6 + 3, none⟩ (.int .i64 nv.b)).setCell ⟨g2, i * 6 + 4, none⟩ (.int .i64 nv.c)).setCell ⟨g2, i * 6 + 5, none⟩ (.float .f64 nv.k)) w.heap.size (.slice (some ⟨g1, 0, none⟩) n1 c1) (.slice (some ⟨g2, 0, none⟩) n2 c2) (.slice (some ⟨g3, 0, none⟩) n3 c3)) := G0.keepT (G0.keep HB6.out k3') kp (by have := HG.out; omega)
      generalize ((((((w3.setCell ⟨g2, i * 6, none⟩ (.int .i64 nv.op)).setCell ⟨g2, i * 6 + 1, none⟩ (.int .i64 nv.len)).setCell ⟨g2, i * 6 + 2, none⟩ (.int .i64 nv.a)).setCell ⟨g2, i * 6 + 3, none⟩ (.int .i64 nv.b)).setCell ⟨g2, i * 6 + 4, none⟩ (.int .i64 nv.c)).setCell ⟨g2, i * 6 + 5, none⟩ (.float .f64 nv.k)) = w7 at HV7 HQ7 HN7 HK7 HB7 ⊢
      clear kw kp k3 k3' t0 t1 t2 s0 s1 s2 s3 s4 s5 u0 u1 u2 u3 u4 u5 ufz p0 p1 p2 x0 x1 x2 x3 x4 x5 HKA HX HB6 HA6 HZ6 HAT HRN HR1 hA hQ hN hK
      obtain ⟨_, p0, p1, p2⟩ := HB7.out
      have cT := HQ7.out.cell i (by rw [List.length_append, List.length_replicate, HQ3.out.2]; omega)
      have fT := HQ7.out.free i
      generalize ((eqSt p vs i).2 ++ List.replicate (n2 - i) 0).getD i 0 = zz at cT
      go_wp2_with fail
      have kq := kept_setCell (lo := w.heap.size + 1 + 1) (hi := w.heap.size + 1 + 1 + 1) w7 ⟨w.heap.size + 1 + 1, i, none⟩ (.int .i64 (i : Nat)) (.inl ⟨Nat.le_refl _, Nat.lt_succ_self _⟩)
      have HQ8 : Hid _ := IR.set HQ7.out i (i : Nat)
      have HN8 : Hid _ := HI.out i _ _ HN7.out (kq.chg1 (.inr (by omega)))
      have HV8 : Hid _ := HV7.out.keep kq (by have := HG.out; omega)
      have HK8 : Hid _ := Chg.trans HK7.out (kq.chg1 (.inr (.inl rfl)))
      generalize w7.setCell ⟨w.heap.size + 1 + 1, i, none⟩ (.int .i64 (i : Nat)) = w8 at HQ8 HN8 HV8 HK8 ⊢
      clear kq cT fT p0 p1 p2 HB7 HV7 HQ7 HN7 HK7
      refine Calls.mono (HCi.out w8 HN8.out HV8.out) ?_
      rintro e w9 ⟨rfl, c9, hN9⟩
      have HQ9 : Hid _ := IR.keepC HQ8.out c9 (fun c => by have := (HS.out _ c).1; omega)
      have HV9 : Hid _ := VA.keepC HV8.out c9 (fun c => (HS.out _ c).2.2.1 rfl)
      have HK9 : Hid _ := Chg.trans HK8.out (c9.mono fun b _ c => .inr (.inr c))
      have HN9 : Hid _ := hN9
      have cR := IR.cell HQ9.out r (by rw [List.length_set, List.length_append, List.length_replicate, HQ3.out.2]; omega)
      rw [tq_at HQ3.out.2 hlt hri HRR.out] at cR
      have cT := IR.cell HQ9.out i (by rw [List.length_set, List.length_append, List.length_replicate, HQ3.out.2]; omega)
      have fT := IR.free HQ9.out i
      generalize (((eqSt p vs i).2 ++ List.replicate (n2 - i) 0).set i (i : Nat)).getD i 0 = zz at cT
      have kq := kept_setCell (lo := w.heap.size + 1 + 1) (hi := w.heap.size + 1 + 1 + 1) w9 ⟨w.heap.size + 1 + 1, i, none⟩ (.int .i64 (r : Nat)) (.inl ⟨Nat.le_refl _, Nat.lt_succ_self _⟩)
      have R1 : Hid _ := HV9.out.keep kq (by have := HG.out; omega)
      have R2 : Hid _ := IR.set HQ9.out i (r : Nat)
      rw [tq_set HQ3.out.2 hlt, ← HQ3.out.1] at R2
      have R3 : Hid _ := HI.out _ _ _ HN9.out (kq.chg1 (.inr (by omega)))
      have R4 : Hid _ := Chg.trans HK9.out (kq.chg1 (.inr (.inl rfl)))
      have hrn : r < n2 := by omega
      clear kq c9 hN9 HQ8 HN8 HV8 HK8 HQ9 HV9 HK9 HN9 HCi HQ3 HRR
      go_wp2
      go_roundw
      case rel => exact ⟨i + 1, by omega, by go_num, R1, R2, R3, R4⟩
      case measure => simp [intOf]; omega
    · obtain rfl : i = n2 := by omega
      have hz8 : w1.heap.size ≤ wr.heap.size := hK.out.size
      have hz9 : w.heap.size + 3 ≤ w1.heap.size := HT2.out
      have E0 := HE.out i (Nat.le_refl _)
      have hS1 : ∀ b, w.heap.size ≤ b → ¬ S b := fun b hb c => by have := (HS.out _ c).1; omega
      have HA9 : Hid (VA wr g2 i (eqSt p vs i).1) := by
        have := hA.out
        rw [List.drop_of_length_le (by rw [HL.out.1]; omega), List.append_nil] at this
        exact this
      have HQ9 : Hid (IS wr (w.heap.size + 1 + 1) (w.heap.size + 1 + 1 + 1) (some ⟨w.heap.size + 1 + 1, 0, none⟩) i (eqSt p vs i).2) := by
        have := hQ.out
        rw [Nat.sub_self, List.replicate_zero, List.append_nil] at this
        exact this.isAt E0.l2
      have HB9 : Hid _ := G0.keepC HB.out hK.out (by rintro (c | c | c) <;> first | (have := HG.out; omega) | exact hS1 _ (by omega) c)
      have HR9 : Hid _ := RB.keepC HR.out hK.out (by rintro (c | c | c) <;> first | (have := HG.out; omega) | exact hS1 _ (by omega) c)
      have HI9 : Hid _ := IBk.keepC HP.out.i hK.out (by rintro (c | c | c) <;> first | (have := HG.out; omega) | exact (HS.out _ c).2.1 rfl)
      have HO9 : Hid _ := IBk.keepC HP.out.o hK.out (by rintro (c | c | c) <;> first | (have := HG.out; omega) | exact (HS.out _ c).2.2.2 rfl)
      have HRO : Hid _ := renumberOuts wr (some ⟨g1, 0, none⟩) (some ⟨g2, 0, none⟩) n1 c1 i c2 g3 n3 c3 _ _ _ i i (eqSt p vs i).2 outs HO9.out HQ9.out (by have := HG.out; omega) HOUT.out (by omega)
      have HK9 : Hid (Chg (fun b => b = g2 ∨ b = g3 ∨ S b) w wr) := Chg.new HK.out.chg hK.out (fun b hb c => by rcases c with c | c | c <;> first | exact .inl c | exact .inr (.inr c) | omega)
      clear E0 hA hQ hN hK HR HB
      obtain ⟨_, p0, p1, p2⟩ := HB9.out
      go_wp2_with fail
      clear p0 p1 p2
      refine Calls.mono HRO.out ?_
      rintro e w2 ⟨rfl, hO2, k2⟩
      have HB2 : Hid _ := G0.keepT HB9.out k2 (by have := HG.out; omega)
      have HA2 : Hid _ := HA9.out.keep k2 (by have := HG.out; omega)
      have HI2 : Hid _ := HI9.out.keep k2 (by have := HG.out; omega)
      have HO2 : Hid _ := hO2
      have HK2 : Hid (Chg (fun b => b = g2 ∨ b = g3 ∨ S b) w w2) := Chg.trans HK9.out (k2.chg1 (.inr (.inl rfl)))
      have HR2 : Hid _ := RB.keepC HR9.out (k2.chg1 (S := fun b => b = g3) rfl) (by have := HG.out; omega)
      clear hO2 HRO HB9 HA9 HQ9 HI9 HO9 HK9
      obtain ⟨_, p0, p1, p2⟩ := HB2.out
      obtain ⟨_, r0, r1, r2, f0, f1, f2⟩ := HR2.out
      go_wp2_with fail
      obtain ⟨y0, y1, y2⟩ := put3_0 w2 (w.heap.size + 1) _ _ _ r0 r1 r2 (.slice (some ⟨g1, 0, none⟩) n1 c1) (.slice (some ⟨g2, 0, none⟩) i c2) (.slice (some ⟨g3, 0, none⟩) n3 c3)
      have kp := put3_kept w2 (w.heap.size + 1) (.slice (some ⟨g1, 0, none⟩) n1 c1) (.slice (some ⟨g2, 0, none⟩) i c2) (.slice (some ⟨g3, 0, none⟩) n3 c3)
      refine bodyPost_ret (v := gagg (some ⟨g1, 0, none⟩) n1 c1 (some ⟨g2, 0, none⟩) i c2 (some ⟨g3, 0, none⟩) n3 c3) (by simp [results, Tryz.results68, go_sem, y0, y1, y2]) rfl ⟨rfl, ⟨?_, ?_, ?_, ?_, ?_, ?_⟩, ?_⟩
      · exact HI2.out.keep kp (by have := HG.out; omega)
      · have := HA2.out.keep kp (by have := HG.out; omega)
        unfold eqM
        rw [HL.out.1]
        exact this
      · have := HO2.out.keep kp (by have := HG.out; omega)
        unfold eqM
        rw [HL.out.1]
        exact this
      · exact HG.out.2.2.2.1
      · exact HG.out.2.2.2.2.1
      · exact HG.out.2.2.2.2.2
      · exact Chg.new HK2.out (kp.chg1 (S := fun b => b = w.heap.size + 1) rfl) (fun b hb c => by omega)
end Go.Proofs.YtcphabjekfihnabGreat
