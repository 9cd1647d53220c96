import Derived.Test.YtdkjdlimcnddkaaA31
namespace Go.Proofs.Ytdkjdlimcnddkaa
open Go.RowKit Flt
attribute [local go_sem] alloc_drewN setCell_drewN run_store_float

set_option maxRecDepth 100000 in
set_option maxHeartbeats 16000000 in
theorem l5plan (w : World) (b1 b2 b3 : Option Addr) (n1 c1 n2 c2 n3 c3 : Nat) (ins : List Int) (vs : List Vl) (outs : List Int) (f : GS w b1 n1 b2 n2 b3 n3 ins vs outs) (hok : okG ins vs outs = true) :
    Calls Try.prog 47 #[gagg b1 n1 c1 b2 n2 c2 b3 n3 c3] w fun e w' => ∃ a1 d1 a2 d2 a3 d3, e = .returned (cagg a1 n1 d1 a2 n2 d2 a3 n3 d3 (peakTo vs (plTo vs outs n2) n2)) ∧ CL w' w.heap.size a1 n1 a2 n2 a3 n3 ins (stesTo vs (plTo vs outs n2) n2) (outs.map (spnM vs (plTo vs outs n2))) ∧ Kept 0 0 w w' := by
  obtain ⟨i0, hii, hz0, hz1, hz2⟩ := info_parts infoSte
  obtain ⟨j0, hjj, hy0, hy1, hy2⟩ := info_parts infoSpn
  obtain ⟨⟨hl1, hl2, hl3⟩, _, hv, ho, hcl⟩ := okG_parts hok
  have hvl : vs.length = n2 := f.v.len
  have hol : outs.length = n3 := f.o.len
  have hil : ins.length = n1 := f.i.len
  have hn1 : n1 ≤ 20 := by omega
  have hn2 : n2 ≤ 2000 := by omega
  have hn3 : n3 ≤ 50 := by omega
  have HV : Hid (∀ j, j < n2 → okV ins vs j = true) := fun j hj => hv j (by omega)
  have HO : Hid (∀ o ∈ outs, 0 ≤ o ∧ o < (n2 : Int)) := fun o h => by have := ho o h; omega
  have HS : Hid (sumL vs n2 ≤ 50000) := by
    show _ ≤ _
    rw [sumL_cells vs n2 (by omega), List.take_of_length_le (by omega)]; exact hcl
  have HBD : Hid _ := pl_bound (outs := outs) (n := n2) (fun k hk => (okV_len (HV.out k hk)).1) HS.out n2 (Nat.le_refl _)
  have HSM : Hid (∀ j, j ≤ n2 → sumL vs j ≤ 50000) := fun j hj => Int.le_trans (sumL_mono (n := n2) (fun k hk => (okV_len (HV.out k hk)).1) hj (Nat.le_refl _)) HS.out
  have HVK : Hid (∀ v ∈ vs, v.k < 18446744073709551616) := f.v.lt
  have HLL : Hid (vs.length = n2 ∧ outs.length = n3 ∧ ins.length = n1) := ⟨hvl, hol, hil⟩
  have k0 := kept_alloc 0 0 w (gbox b1 n1 c1 b2 n2 c2 b3 n3 c3)
  have hB := g0_start w (.slice b1 n1 c1) (.slice b2 n2 c2) (.slice b3 n3 c3)
  have k1 := kept_alloc 0 0 (w.alloc (gbox b1 n1 c1 b2 n2 c2 b3 n3 c3)) cbox0
  have HB : Hid _ := hB.keep k1
  have HF : Hid _ := (f.keep k0).keep k1
  have HK : Hid _ := k0.trans k1
  have HC : Hid _ := l5places _ b1 b2 b3 n1 c1 n2 c2 n3 c3 ins vs outs ((f.keep k0).keep k1) hok
  clear f hok hl1 hl2 hl3 hv ho hvl hol hil hcl k0 k1 HS
  obtain ⟨_, q0, q1, q2⟩ := HB.out
  go_enter Try.func47, Try.ntmps47
  go_wp2_with fail
  refine Calls.mono HC.out ?_
  rintro e w2 ⟨pa, pc, rfl, hps, k2⟩
  have HP : Hid _ := hps
  have HK2 : Hid _ := HK.out.trans k2
  have HB2 : Hid _ := HB.out.keep k2
  have HF2 : Hid _ := HF.out.keep k2
  have HCI : Hid _ := l2copyIntsS w2 _ _ b1 n1 c1 ins (by omega) (HF.out.keep k2).i
  have HRB : Hid _ := (kb_start (w.alloc (gbox b1 n1 c1 b2 n2 c2 b3 n3 c3))).keep k2
  have HRL : Hid ((w.alloc (gbox b1 n1 c1 b2 n2 c2 b3 n3 c3)).heap.size = w.heap.size + 1) := by show _ = _; simp
  rw [HRL.out] at HRB
  have HZ2 : Hid (w.heap.size + 1 < w2.heap.size) := HRB.out.sz
  clear HC HB HF HK hps k2 q0 q1 q2 hB HRL
  obtain ⟨_, q0, q1, q2⟩ := HB2.out
  go_wp2_with fail
  refine Calls.mono HCI.out ?_
  rintro e w3 ⟨ia, id, rfl, hio, k3⟩
  have HIO : Hid _ := own_is hio HLL.out.2.2
  have HIOW : Hid _ := hio
  have HK3 : Hid _ := HK2.out.trans k3
  have HB3 : Hid _ := HB2.out.keep k3
  have HF3 : Hid _ := HF2.out.keep k3
  have HP3 : Hid _ := IS.mono (HP.out.keep k3 (.inr (.inr (Nat.le_refl _)))) (Nat.le_refl _) k3.size
  have HR3 : Hid _ := HRB.out.keep k3
  clear HCI HB2 HF2 HK2 HP HRB hio k3 q0 q1 q2
  go_wp2_with fail
  have HZ3 : Hid (w.heap.size + 1 < w3.heap.size) := HR3.out.sz
  have HLP : Hid _ := lp_start w3 (.slice ia n1 id)
  go_loopw [5] (fun x W => ∃ (k : Nat) (u : Value), k ≤ n2 ∧ x = .int .i64 k ∧ Hid (LP W w3 w3.heap.size (w3.heap.size + 1) (.slice ia n1 id) u (.slice none 0 0) k 0 (peakTo vs (plTo vs outs n2) k) (stesTo vs (plTo vs outs n2) k) [])) (fun x _ => n2 - (intOf x).toNat)
  case atStart => exact ⟨0, _, Nat.zero_le _, rfl, HLP⟩
  case round =>
    obtain ⟨i, u, hi, rfl, hP⟩ := hrel
    clear HLP
    have HKW : Hid (Kept 0 0 w3 wr) := Chg.kept (Kept.refl 0 0 w3) hP.out.ch (fun b hb => by rcases hb with h | h <;> omega)
    obtain ⟨_, q0, q1, q2⟩ := HB3.out.keep HKW.out
    by_cases hlt : i < n2
    · obtain ⟨g, off, rfl, hg, hgw, _, y0, y1, y2, y3, y4, y5⟩ := HF3.out.v.keep HKW.out (.inr (.inr (Nat.le_refl _))) |>.at_idx hlt
      obtain ⟨pg, po, pk, e1, e2, _, hpg, cp⟩ := (HP3.out.keep HKW.out (.inr (.inr (Nat.le_refl _)))).at_idx (o := i) (by omega) (by omega)
      subst e1
      have hpw0 : pg < w3.heap.size := by
        rcases HP3.out.at_ with z | ⟨g', o', e', _, _, z3, _⟩
        · omega
        · cases e'; exact z3
      obtain rfl : i = pk := by omega
      rw [Int.toNat_natCast] at cp
      have HVI : Hid _ := HV.out i hlt
      have HST : Hid _ := stesTo_succ vs (plTo vs outs n2) i
      generalize hvv : vs.getD i Vl.zero = v at y0 y1 y2 y3 y4 y5
      have HAV : Hid _ := atV_new wr v
      have k4 := kept_alloc 0 0 wr (vbox v.op v.len v.a v.b v.c v.k)
      have HLP4 : Hid _ := hP.out.keep k4
      have HK4 : Hid _ := HKW.out.trans k4
      have hz4 : (wr.alloc (vbox v.op v.len v.a v.b v.c v.k)).heap.size = wr.heap.size + 1 := by simp
      have cp4 : (wr.alloc (vbox v.op v.len v.a v.b v.c v.k)).cell? ⟨pg, po + i, none⟩ = some (.int .i64 ((plTo vs outs n2).getD i 0)) := by rw [k4.cell (p := ⟨pg, po + i, none⟩) hpg (by omega)]; exact cp
      go_wp2_with fail
      have HZR : Hid (w3.heap.size ≤ wr.heap.size) := HKW.out.size
      have HPG : Hid (pg < w3.heap.size) := hpw0
      have HBV : Hid (w3.heap.size + 1 ≤ wr.heap.size) := hP.out.bz
      have HUN0 : Hid (∀ g, u.ownBlock = some g → g < wr.heap.size) := fun g h => (own_blkV hP.out.pu h).2
      clear k4 y0 y1 y2 y3 y4 y5 q0 q1 q2 cp hP HKW
      generalize wr.alloc (vbox v.op v.len v.a v.b v.c v.k) = w4 at HAV HLP4 HK4 hz4 cp4 ⊢
      obtain ⟨y0, y1, y2, y3, y4, y5⟩ := HAV.out
      simp only [Nat.zero_add] at y1 y2 y3 y4 y5
      generalize hpp : (plTo vs outs n2).getD i 0 = P at cp4
      have HUN : Hid (∀ g, u.ownBlock = some g → g < wr.heap.size) := HUN0.out
      go_cut [7] (fun p wx => p = .pointer (some ⟨wr.heap.size + 1, 0, none⟩) ∧ Hid (RD wx w3 w3.heap.size (w3.heap.size + 1) wr.heap.size (wr.heap.size + 1) (.slice ia n1 id) u i (peakTo vs (plTo vs outs n2) i) (stesTo vs (plTo vs outs n2) i) v ⟨v.op, v.len, 0, P, v.a, v.b, v.c, 0⟩))
      case first =>
        have R : Hid _ := RD.start HLP4.out HAV.out hz4 HBV.out (Nat.lt_succ_self _) HUN.out ⟨v.op, v.len, 0, P, v.a, v.b, v.c, 0⟩
        go_region
        all_goals
          go_wp2_with fail
          go_meet
          exact ⟨rfl, R.out.keep (kept_drew _)⟩
      case rest =>
        obtain ⟨rfl, hR⟩ := hcut
        clear HAV HLP4 HK4 cp4 y0 y1 y2 y3 y4 y5
        have hop := okV_opR HVI.out
        have hops := okV_ops HVI.out
        rw [hvv] at hop hops
        have HL1 : Hid _ := l1ops v.op hop.1 hop.2
        obtain ⟨_, q0, q1, q2⟩ := HB3.out.keep (hR.out.kept (Nat.le_refl _))
        obtain ⟨y0, y1, y2, y3, y4, y5⟩ := hR.out.va
        obtain ⟨t0, t1, t2, t3, t4, t5, t6, t7⟩ := hR.out.ta
        simp only [Nat.zero_add] at y1 y2 y3 y4 y5 t1 t2 t3 t4 t5 t6 t7
        have z2 := hR.out.tf 2
        have z4 := hR.out.tf 4
        have z5 := hR.out.tf 5
        have z6 := hR.out.tf 6
        have z7 := hR.out.tf 7
        have HKR : Hid _ := hR.out.kept (Nat.le_refl _)
        have hzw : w.heap.size + 1 < w3.heap.size := HZ3.out
        have hzr : w3.heap.size ≤ wr.heap.size := HZR.out
        have HPC : Hid (∀ m : Nat, m < n2 → wc.cell? ⟨pg, po + m, none⟩ = some (.int .i64 ((plTo vs outs n2).getD m 0))) := fun m hm => by
          obtain ⟨pg', po', pk', e1, e2, _, _, c⟩ := (HP3.out.keep HKR.out (.inr (.inr (Nat.le_refl _)))).at_idx (o := m) (by omega) (by omega)
          cases e1
          obtain rfl : m = pk' := by omega
          rw [Int.toNat_natCast] at c
          exact c
        have HGC : Hid (∀ m : Nat, m < n2 → wc.cell? ⟨g, off + m * 6 + 1, none⟩ = some (.int .i64 (vs.getD m Vl.zero).len)) := fun m hm => by
          obtain ⟨g', off', e1, _, _, _, c⟩ := (HF3.out.v.keep HKR.out (.inr (.inr (Nat.le_refl _)))).at_idx hm
          cases e1
          exact c.c1
        have hpw : pg < w3.heap.size := HPG.out
        have hgw3 : g < w3.heap.size := hgw
        rcases (by have := cnt_le v.op; omega : cnt v.op = 0 ∨ cnt v.op = 1 ∨ cnt v.op = 2 ∨ cnt v.op = 3) with hc | hc | hc | hc
        · rw [hc] at HL1
          by_cases hone : v.op = 1
          · have HE : Hid (steM vs (plTo vs outs n2) i = ⟨v.op, v.len, 0, P, v.a, v.b, v.c, v.k⟩) := by
              show _ = _
              unfold steM; rw [hvv, hc, hpp]; simp [hone]
            have R : Hid _ := hR.out.set (AtT.put7 hR.out.ta v.k)
            rw [hone] at y0 HL1
            clear hone hop hops hc
            go_upto_region 18 with (first | (go_at_call 84; refine Calls.mono (HL1.out _) ?_; rintro e w9 ⟨rfl, rfl⟩) | fail)
            generalize wc.setCell ⟨wr.heap.size + 1, 7, none⟩ (.float .f64 v.k) = wS at R ⊢
            rw [← HE.out] at R
            have HST2 : Hid _ := HST.out
            generalize steM vs (plTo vs outs n2) i = st at R HST2
            have hbd := HBD.out i hlt
            have hsm := HSM.out (i + 1) (by omega)
            rw [hpp, hvv] at hbd
            have HPK : Hid (peakTo vs (plTo vs outs n2) (i + 1) = if peakTo vs (plTo vs outs n2) i < P + v.len then P + v.len else peakTo vs (plTo vs outs n2) i) := by
              show _ = _
              rw [peakTo, hpp, hvv]
            generalize peakTo vs (plTo vs outs n2) i = pk at R HPK
            obtain ⟨_, x0, x1, x2, x3, _, f1, _, f3⟩ := R.out.lp.bx
            obtain ⟨s0, s1, s2, s3, s4, s5, s6, s7⟩ := R.out.ta
            simp only [Nat.zero_add] at s1 s2 s3 s4 s5 s6 s7
            have hBz := R.out.lp.bz
            have hVS := R.out.lt
            go_wp2_with (first | (at_builtin; refine wpList_append_lies _ rfl _ _ 36 rfl (w3.heap.size + 1) 80 i0 Ste.zero.agg 8 64 Try.underlying36 hii hz0 hz1 hz2 rfl (by decide) _ _ (flatT (stesTo vs (plTo vs outs n2) i)) rfl (R.out.lp.pu.alloc _) ⟨wS.heap.size, 0, none⟩ 1 1 st.cells rfl rfl (news8 wS st 0) (one8 st) (by decide) (by unfold maxLen; omega) (by omega) (by simp; omega) _ rfl ?_; intro g9 cap9 w9 hown9 hg9 hat9 hlt9; obtain ⟨_, m0, m1, m2, m3, _, mf1, _, mf3⟩ := LP.mid (z := 0) R.out.lp (Nat.lt_succ_self _) hg9) | fail)
            have hat' : u.ownBlock = some g9 ∨ g9 = wS.heap.size + 1 := hat9.imp (fun h => h) (fun e => by rw [e]; simp)
            have R2 : Hid _ := LP.putU (z := 0) (s := st) R.out.lp (Nat.lt_succ_self _) hown9 hg9 hat'
            rw [← HST2.out] at R2
            have hvc : w9.cell? ⟨wr.heap.size, 1, none⟩ = some (.int .i64 v.len) := far1 (m := 0) hg9 (by have := R.out.vs; omega) (fun c => by have := HUN.out _ c; omega) (by have := R.out.va.c1; rw [Nat.zero_add] at this; exact this)
            have hvc2 : (w9.setCell ⟨w3.heap.size, 1, none⟩ (.slice (some ⟨g9, 0, none⟩) (i + 1) cap9)).cell? ⟨wr.heap.size, 1, none⟩ = some (.int .i64 v.len) := by
              rw [cell_ne _ _ _ _ _ _ (.inl (by have := R.out.bv; omega))]; exact hvc
            have HQ : Hid (Kept 0 0 w3 (w9.setCell ⟨w3.heap.size, 1, none⟩ (.slice (some ⟨g9, 0, none⟩) (i + 1) cap9))) := Chg.kept (Kept.refl 0 0 w3) R2.out.ch (fun b hb => by rcases hb with h | h <;> omega)
            have HVL : Hid (wr.heap.size < (w9.setCell ⟨w3.heap.size, 1, none⟩ (.slice (some ⟨g9, 0, none⟩) (i + 1) cap9)).heap.size) := World.block_lt_of_cell? _ _ hvc2
            clear hown9 hg9 hat9 hat' hlt9 m0 m1 m2 m3 mf1 mf3 x0 x1 x2 x3 f1 f3 s0 s1 s2 s3 s4 s5 s6 s7 hvc R HST2 hR
            generalize w9.setCell ⟨w3.heap.size, 1, none⟩ (.slice (some ⟨g9, 0, none⟩) (i + 1) cap9) = wT at R2 hvc2 HQ HVL ⊢
            obtain ⟨_, x0, x1, x2, x3, _, _, _, f3⟩ := R2.out.bx
            obtain ⟨pg', po', pk', e1, e2, _, hpg', cT⟩ := (HP3.out.keep HQ.out (.inr (.inr (Nat.le_refl _)))).at_idx (o := i) (by omega) (by omega)
            cases e1
            obtain rfl : i = pk' := by omega
            rw [Int.toNat_natCast, hpp] at cT
            have hlv := okV_len HVI.out
            rw [hvv] at hlv
            by_cases hgt : pk < P + v.len
            · rw [if_pos hgt] at HPK
              have R3 : Hid _ := LP.putP R2.out (Nat.lt_succ_self _) (P + v.len)
              go_region
              all_goals
                go_wp2_with fail
                go_region
                all_goals
                  go_wp2
                  go_roundw
                  case rel => exact ⟨i + 1, _, by omega, by go_num, by rw [HPK.out]; exact R3.out.keep ((kept_drew _).trans (kept_drew _))⟩
                  case measure => simp [intOf]; omega
            · rw [if_neg hgt] at HPK
              rw [← HPK.out] at R2
              go_region
              all_goals
                go_wp2
                go_roundw
                case rel => exact ⟨i + 1, _, by omega, by go_num, R2.out.keep (kept_drew _)⟩
                case measure => simp [intOf]; omega
          · have HE : Hid (steM vs (plTo vs outs n2) i = ⟨v.op, v.len, 0, P, v.a, v.b, v.c, 0⟩) := by
              show _ = _
              unfold steM; rw [hvv, hc, hpp]; simp [hone]
            have R : Hid _ := hR.out
            go_upto_region 18 with (first | (go_at_call 84; refine Calls.mono (HL1.out _) ?_; rintro e w9 ⟨rfl, rfl⟩) | fail)
            generalize wc = wS at R ⊢
            rw [← HE.out] at R
            have HST2 : Hid _ := HST.out
            generalize steM vs (plTo vs outs n2) i = st at R HST2
            have hbd := HBD.out i hlt
            have hsm := HSM.out (i + 1) (by omega)
            rw [hpp, hvv] at hbd
            have HPK : Hid (peakTo vs (plTo vs outs n2) (i + 1) = if peakTo vs (plTo vs outs n2) i < P + v.len then P + v.len else peakTo vs (plTo vs outs n2) i) := by
              show _ = _
              rw [peakTo, hpp, hvv]
            generalize peakTo vs (plTo vs outs n2) i = pk at R HPK
            obtain ⟨_, x0, x1, x2, x3, _, f1, _, f3⟩ := R.out.lp.bx
            obtain ⟨s0, s1, s2, s3, s4, s5, s6, s7⟩ := R.out.ta
            simp only [Nat.zero_add] at s1 s2 s3 s4 s5 s6 s7
            have hBz := R.out.lp.bz
            have hVS := R.out.lt
            go_wp2_with (first | (at_builtin; refine wpList_append_lies _ rfl _ _ 36 rfl (w3.heap.size + 1) 80 i0 Ste.zero.agg 8 64 Try.underlying36 hii hz0 hz1 hz2 rfl (by decide) _ _ (flatT (stesTo vs (plTo vs outs n2) i)) rfl (R.out.lp.pu.alloc _) ⟨wS.heap.size, 0, none⟩ 1 1 st.cells rfl rfl (news8 wS st 0) (one8 st) (by decide) (by unfold maxLen; omega) (by omega) (by simp; omega) _ rfl ?_; intro g9 cap9 w9 hown9 hg9 hat9 hlt9; obtain ⟨_, m0, m1, m2, m3, _, mf1, _, mf3⟩ := LP.mid (z := 0) R.out.lp (Nat.lt_succ_self _) hg9) | fail)
            have hat' : u.ownBlock = some g9 ∨ g9 = wS.heap.size + 1 := hat9.imp (fun h => h) (fun e => by rw [e]; simp)
            have R2 : Hid _ := LP.putU (z := 0) (s := st) R.out.lp (Nat.lt_succ_self _) hown9 hg9 hat'
            rw [← HST2.out] at R2
            have hvc : w9.cell? ⟨wr.heap.size, 1, none⟩ = some (.int .i64 v.len) := far1 (m := 0) hg9 (by have := R.out.vs; omega) (fun c => by have := HUN.out _ c; omega) (by have := R.out.va.c1; rw [Nat.zero_add] at this; exact this)
            have hvc2 : (w9.setCell ⟨w3.heap.size, 1, none⟩ (.slice (some ⟨g9, 0, none⟩) (i + 1) cap9)).cell? ⟨wr.heap.size, 1, none⟩ = some (.int .i64 v.len) := by
              rw [cell_ne _ _ _ _ _ _ (.inl (by have := R.out.bv; omega))]; exact hvc
            have HQ : Hid (Kept 0 0 w3 (w9.setCell ⟨w3.heap.size, 1, none⟩ (.slice (some ⟨g9, 0, none⟩) (i + 1) cap9))) := Chg.kept (Kept.refl 0 0 w3) R2.out.ch (fun b hb => by rcases hb with h | h <;> omega)
            have HVL : Hid (wr.heap.size < (w9.setCell ⟨w3.heap.size, 1, none⟩ (.slice (some ⟨g9, 0, none⟩) (i + 1) cap9)).heap.size) := World.block_lt_of_cell? _ _ hvc2
            clear hown9 hg9 hat9 hat' hlt9 m0 m1 m2 m3 mf1 mf3 x0 x1 x2 x3 f1 f3 s0 s1 s2 s3 s4 s5 s6 s7 hvc R HST2 hR
            generalize w9.setCell ⟨w3.heap.size, 1, none⟩ (.slice (some ⟨g9, 0, none⟩) (i + 1) cap9) = wT at R2 hvc2 HQ HVL ⊢
            obtain ⟨_, x0, x1, x2, x3, _, _, _, f3⟩ := R2.out.bx
            obtain ⟨pg', po', pk', e1, e2, _, hpg', cT⟩ := (HP3.out.keep HQ.out (.inr (.inr (Nat.le_refl _)))).at_idx (o := i) (by omega) (by omega)
            cases e1
            obtain rfl : i = pk' := by omega
            rw [Int.toNat_natCast, hpp] at cT
            have hlv := okV_len HVI.out
            rw [hvv] at hlv
            by_cases hgt : pk < P + v.len
            · rw [if_pos hgt] at HPK
              have R3 : Hid _ := LP.putP R2.out (Nat.lt_succ_self _) (P + v.len)
              go_region
              all_goals
                go_wp2_with fail
                go_region
                all_goals
                  go_wp2
                  go_roundw
                  case rel => exact ⟨i + 1, _, by omega, by go_num, by rw [HPK.out]; exact R3.out.keep ((kept_drew _).trans (kept_drew _))⟩
                  case measure => simp [intOf]; omega
            · rw [if_neg hgt] at HPK
              rw [← HPK.out] at R2
              go_region
              all_goals
                go_wp2
                go_roundw
                case rel => exact ⟨i + 1, _, by omega, by go_num, R2.out.keep (kept_drew _)⟩
                case measure => simp [intOf]; omega
        · obtain ⟨ma, ea, hxa⟩ : ∃ m : Nat, v.a = (m : Int) ∧ m < i := by
            have := hops v.a (by unfold opsOf; rw [hc]; simp)
            exact ⟨v.a.toNat, by omega, by omega⟩
          rw [ea] at y2
          have pa := HPC.out ma (by omega)
          have hn1' : ¬ v.op = 1 := by intro e; rw [e] at hc; simp [cnt] at hc
          have gA := HGC.out ma (by omega)
          rw [hc] at HL1
          obtain ⟨A, hA⟩ : ∃ A, A = (plTo vs outs n2).getD ma 0 := ⟨_, rfl⟩
          obtain ⟨LA, hLA⟩ : ∃ A, A = (vs.getD ma Vl.zero).len := ⟨_, rfl⟩
          have HE : Hid (steM vs (plTo vs outs n2) i = ⟨v.op, v.len, LA, P, A, v.b, v.c, 0⟩) := by
            show _ = _
            unfold steM; rw [hvv, hc, hpp, ea, hA, hLA]; simp [hn1']
          rw [← hA] at pa
          rw [← hLA] at gA
          have R0 := RD.set hR.out (AtT.put4 (hR.out).ta A)
          have R1 := RD.set R0 (AtT.put2 (R0).ta LA)
          have R : Hid _ := R1
          clear R0 R1 hA hLA
          go_upto_region 18 with (first | (go_at_call 84; refine Calls.mono (HL1.out _) ?_; rintro e w9 ⟨rfl, rfl⟩) | fail)
          generalize ((wc.setCell ⟨wr.heap.size + 1, 4, none⟩ (.int .i64 A)).setCell ⟨wr.heap.size + 1, 2, none⟩ (.int .i64 LA)) = wS at R ⊢
          rw [← HE.out] at R
          have HST2 : Hid _ := HST.out
          generalize steM vs (plTo vs outs n2) i = st at R HST2
          have hbd := HBD.out i hlt
          have hsm := HSM.out (i + 1) (by omega)
          rw [hpp, hvv] at hbd
          have HPK : Hid (peakTo vs (plTo vs outs n2) (i + 1) = if peakTo vs (plTo vs outs n2) i < P + v.len then P + v.len else peakTo vs (plTo vs outs n2) i) := by
            show _ = _
            rw [peakTo, hpp, hvv]
          generalize peakTo vs (plTo vs outs n2) i = pk at R HPK
          obtain ⟨_, x0, x1, x2, x3, _, f1, _, f3⟩ := R.out.lp.bx
          obtain ⟨s0, s1, s2, s3, s4, s5, s6, s7⟩ := R.out.ta
          simp only [Nat.zero_add] at s1 s2 s3 s4 s5 s6 s7
          have hBz := R.out.lp.bz
          have hVS := R.out.lt
          go_wp2_with (first | (at_builtin; refine wpList_append_lies _ rfl _ _ 36 rfl (w3.heap.size + 1) 80 i0 Ste.zero.agg 8 64 Try.underlying36 hii hz0 hz1 hz2 rfl (by decide) _ _ (flatT (stesTo vs (plTo vs outs n2) i)) rfl (R.out.lp.pu.alloc _) ⟨wS.heap.size, 0, none⟩ 1 1 st.cells rfl rfl (news8 wS st 0) (one8 st) (by decide) (by unfold maxLen; omega) (by omega) (by simp; omega) _ rfl ?_; intro g9 cap9 w9 hown9 hg9 hat9 hlt9; obtain ⟨_, m0, m1, m2, m3, _, mf1, _, mf3⟩ := LP.mid (z := 0) R.out.lp (Nat.lt_succ_self _) hg9) | fail)
          have hat' : u.ownBlock = some g9 ∨ g9 = wS.heap.size + 1 := hat9.imp (fun h => h) (fun e => by rw [e]; simp)
          have R2 : Hid _ := LP.putU (z := 0) (s := st) R.out.lp (Nat.lt_succ_self _) hown9 hg9 hat'
          rw [← HST2.out] at R2
          have hvc : w9.cell? ⟨wr.heap.size, 1, none⟩ = some (.int .i64 v.len) := far1 (m := 0) hg9 (by have := R.out.vs; omega) (fun c => by have := HUN.out _ c; omega) (by have := R.out.va.c1; rw [Nat.zero_add] at this; exact this)
          have hvc2 : (w9.setCell ⟨w3.heap.size, 1, none⟩ (.slice (some ⟨g9, 0, none⟩) (i + 1) cap9)).cell? ⟨wr.heap.size, 1, none⟩ = some (.int .i64 v.len) := by
            rw [cell_ne _ _ _ _ _ _ (.inl (by have := R.out.bv; omega))]; exact hvc
          have HQ : Hid (Kept 0 0 w3 (w9.setCell ⟨w3.heap.size, 1, none⟩ (.slice (some ⟨g9, 0, none⟩) (i + 1) cap9))) := Chg.kept (Kept.refl 0 0 w3) R2.out.ch (fun b hb => by rcases hb with h | h <;> omega)
          have HVL : Hid (wr.heap.size < (w9.setCell ⟨w3.heap.size, 1, none⟩ (.slice (some ⟨g9, 0, none⟩) (i + 1) cap9)).heap.size) := World.block_lt_of_cell? _ _ hvc2
          clear hown9 hg9 hat9 hat' hlt9 m0 m1 m2 m3 mf1 mf3 x0 x1 x2 x3 f1 f3 s0 s1 s2 s3 s4 s5 s6 s7 hvc R HST2 hR
          generalize w9.setCell ⟨w3.heap.size, 1, none⟩ (.slice (some ⟨g9, 0, none⟩) (i + 1) cap9) = wT at R2 hvc2 HQ HVL ⊢
          obtain ⟨_, x0, x1, x2, x3, _, _, _, f3⟩ := R2.out.bx
          obtain ⟨pg', po', pk', e1, e2, _, hpg', cT⟩ := (HP3.out.keep HQ.out (.inr (.inr (Nat.le_refl _)))).at_idx (o := i) (by omega) (by omega)
          cases e1
          obtain rfl : i = pk' := by omega
          rw [Int.toNat_natCast, hpp] at cT
          have hlv := okV_len HVI.out
          rw [hvv] at hlv
          by_cases hgt : pk < P + v.len
          · rw [if_pos hgt] at HPK
            have R3 : Hid _ := LP.putP R2.out (Nat.lt_succ_self _) (P + v.len)
            go_region
            all_goals
              go_wp2_with fail
              go_region
              all_goals
                go_wp2
                go_roundw
                case rel => exact ⟨i + 1, _, by omega, by go_num, by rw [HPK.out]; exact R3.out.keep ((kept_drew _).trans (kept_drew _))⟩
                case measure => simp [intOf]; omega
          · rw [if_neg hgt] at HPK
            rw [← HPK.out] at R2
            go_region
            all_goals
              go_wp2
              go_roundw
              case rel => exact ⟨i + 1, _, by omega, by go_num, R2.out.keep (kept_drew _)⟩
              case measure => simp [intOf]; omega
        · obtain ⟨ma, ea, hxa⟩ : ∃ m : Nat, v.a = (m : Int) ∧ m < i := by
            have := hops v.a (by unfold opsOf; rw [hc]; simp)
            exact ⟨v.a.toNat, by omega, by omega⟩
          rw [ea] at y2
          have pa := HPC.out ma (by omega)
          obtain ⟨mb, eb, hxb⟩ : ∃ m : Nat, v.b = (m : Int) ∧ m < i := by
            have := hops v.b (by unfold opsOf; rw [hc]; simp)
            exact ⟨v.b.toNat, by omega, by omega⟩
          rw [eb] at y3
          have pb := HPC.out mb (by omega)
          have hn1' : ¬ v.op = 1 := by intro e; rw [e] at hc; simp [cnt] at hc
          have gA := HGC.out ma (by omega)
          rw [hc] at HL1
          obtain ⟨A, hA⟩ : ∃ A, A = (plTo vs outs n2).getD ma 0 := ⟨_, rfl⟩
          obtain ⟨LA, hLA⟩ : ∃ A, A = (vs.getD ma Vl.zero).len := ⟨_, rfl⟩
          obtain ⟨Bq, hBq⟩ : ∃ A, A = (plTo vs outs n2).getD mb 0 := ⟨_, rfl⟩
          have HE : Hid (steM vs (plTo vs outs n2) i = ⟨v.op, v.len, LA, P, A, Bq, v.c, 0⟩) := by
            show _ = _
            unfold steM; rw [hvv, hc, hpp, ea, eb, hA, hLA, hBq]; simp [hn1']
          rw [← hA] at pa
          rw [← hLA] at gA
          rw [← hBq] at pb
          have R0 := RD.set hR.out (AtT.put4 (hR.out).ta A)
          have R1 := RD.set R0 (AtT.put2 (R0).ta LA)
          have R2 := RD.set R1 (AtT.put5 (R1).ta Bq)
          have R : Hid _ := R2
          clear R0 R1 R2 hA hLA hBq
          go_upto_region 18 with (first | (go_at_call 84; refine Calls.mono (HL1.out _) ?_; rintro e w9 ⟨rfl, rfl⟩) | fail)
          generalize (((wc.setCell ⟨wr.heap.size + 1, 4, none⟩ (.int .i64 A)).setCell ⟨wr.heap.size + 1, 2, none⟩ (.int .i64 LA)).setCell ⟨wr.heap.size + 1, 5, none⟩ (.int .i64 Bq)) = wS at R ⊢
          rw [← HE.out] at R
          have HST2 : Hid _ := HST.out
          generalize steM vs (plTo vs outs n2) i = st at R HST2
          have hbd := HBD.out i hlt
          have hsm := HSM.out (i + 1) (by omega)
          rw [hpp, hvv] at hbd
          have HPK : Hid (peakTo vs (plTo vs outs n2) (i + 1) = if peakTo vs (plTo vs outs n2) i < P + v.len then P + v.len else peakTo vs (plTo vs outs n2) i) := by
            show _ = _
            rw [peakTo, hpp, hvv]
          generalize peakTo vs (plTo vs outs n2) i = pk at R HPK
          obtain ⟨_, x0, x1, x2, x3, _, f1, _, f3⟩ := R.out.lp.bx
          obtain ⟨s0, s1, s2, s3, s4, s5, s6, s7⟩ := R.out.ta
          simp only [Nat.zero_add] at s1 s2 s3 s4 s5 s6 s7
          have hBz := R.out.lp.bz
          have hVS := R.out.lt
          go_wp2_with (first | (at_builtin; refine wpList_append_lies _ rfl _ _ 36 rfl (w3.heap.size + 1) 80 i0 Ste.zero.agg 8 64 Try.underlying36 hii hz0 hz1 hz2 rfl (by decide) _ _ (flatT (stesTo vs (plTo vs outs n2) i)) rfl (R.out.lp.pu.alloc _) ⟨wS.heap.size, 0, none⟩ 1 1 st.cells rfl rfl (news8 wS st 0) (one8 st) (by decide) (by unfold maxLen; omega) (by omega) (by simp; omega) _ rfl ?_; intro g9 cap9 w9 hown9 hg9 hat9 hlt9; obtain ⟨_, m0, m1, m2, m3, _, mf1, _, mf3⟩ := LP.mid (z := 0) R.out.lp (Nat.lt_succ_self _) hg9) | fail)
          have hat' : u.ownBlock = some g9 ∨ g9 = wS.heap.size + 1 := hat9.imp (fun h => h) (fun e => by rw [e]; simp)
          have R2 : Hid _ := LP.putU (z := 0) (s := st) R.out.lp (Nat.lt_succ_self _) hown9 hg9 hat'
          rw [← HST2.out] at R2
          have hvc : w9.cell? ⟨wr.heap.size, 1, none⟩ = some (.int .i64 v.len) := far1 (m := 0) hg9 (by have := R.out.vs; omega) (fun c => by have := HUN.out _ c; omega) (by have := R.out.va.c1; rw [Nat.zero_add] at this; exact this)
          have hvc2 : (w9.setCell ⟨w3.heap.size, 1, none⟩ (.slice (some ⟨g9, 0, none⟩) (i + 1) cap9)).cell? ⟨wr.heap.size, 1, none⟩ = some (.int .i64 v.len) := by
            rw [cell_ne _ _ _ _ _ _ (.inl (by have := R.out.bv; omega))]; exact hvc
          have HQ : Hid (Kept 0 0 w3 (w9.setCell ⟨w3.heap.size, 1, none⟩ (.slice (some ⟨g9, 0, none⟩) (i + 1) cap9))) := Chg.kept (Kept.refl 0 0 w3) R2.out.ch (fun b hb => by rcases hb with h | h <;> omega)
          have HVL : Hid (wr.heap.size < (w9.setCell ⟨w3.heap.size, 1, none⟩ (.slice (some ⟨g9, 0, none⟩) (i + 1) cap9)).heap.size) := World.block_lt_of_cell? _ _ hvc2
          clear hown9 hg9 hat9 hat' hlt9 m0 m1 m2 m3 mf1 mf3 x0 x1 x2 x3 f1 f3 s0 s1 s2 s3 s4 s5 s6 s7 hvc R HST2 hR
          generalize w9.setCell ⟨w3.heap.size, 1, none⟩ (.slice (some ⟨g9, 0, none⟩) (i + 1) cap9) = wT at R2 hvc2 HQ HVL ⊢
          obtain ⟨_, x0, x1, x2, x3, _, _, _, f3⟩ := R2.out.bx
          obtain ⟨pg', po', pk', e1, e2, _, hpg', cT⟩ := (HP3.out.keep HQ.out (.inr (.inr (Nat.le_refl _)))).at_idx (o := i) (by omega) (by omega)
          cases e1
          obtain rfl : i = pk' := by omega
          rw [Int.toNat_natCast, hpp] at cT
          have hlv := okV_len HVI.out
          rw [hvv] at hlv
          by_cases hgt : pk < P + v.len
          · rw [if_pos hgt] at HPK
            have R3 : Hid _ := LP.putP R2.out (Nat.lt_succ_self _) (P + v.len)
            go_region
            all_goals
              go_wp2_with fail
              go_region
              all_goals
                go_wp2
                go_roundw
                case rel => exact ⟨i + 1, _, by omega, by go_num, by rw [HPK.out]; exact R3.out.keep ((kept_drew _).trans (kept_drew _))⟩
                case measure => simp [intOf]; omega
          · rw [if_neg hgt] at HPK
            rw [← HPK.out] at R2
            go_region
            all_goals
              go_wp2
              go_roundw
              case rel => exact ⟨i + 1, _, by omega, by go_num, R2.out.keep (kept_drew _)⟩
              case measure => simp [intOf]; omega
        · obtain ⟨ma, ea, hxa⟩ : ∃ m : Nat, v.a = (m : Int) ∧ m < i := by
            have := hops v.a (by unfold opsOf; rw [hc]; simp)
            exact ⟨v.a.toNat, by omega, by omega⟩
          rw [ea] at y2
          have pa := HPC.out ma (by omega)
          obtain ⟨mb, eb, hxb⟩ : ∃ m : Nat, v.b = (m : Int) ∧ m < i := by
            have := hops v.b (by unfold opsOf; rw [hc]; simp)
            exact ⟨v.b.toNat, by omega, by omega⟩
          rw [eb] at y3
          have pb := HPC.out mb (by omega)
          obtain ⟨mc, ec, hxc⟩ : ∃ m : Nat, v.c = (m : Int) ∧ m < i := by
            have := hops v.c (by unfold opsOf; rw [hc]; simp)
            exact ⟨v.c.toNat, by omega, by omega⟩
          rw [ec] at y4
          have pc3 := HPC.out mc (by omega)
          have hn1' : ¬ v.op = 1 := by intro e; rw [e] at hc; simp [cnt] at hc
          have gA := HGC.out ma (by omega)
          rw [hc] at HL1
          obtain ⟨A, hA⟩ : ∃ A, A = (plTo vs outs n2).getD ma 0 := ⟨_, rfl⟩
          obtain ⟨LA, hLA⟩ : ∃ A, A = (vs.getD ma Vl.zero).len := ⟨_, rfl⟩
          obtain ⟨Bq, hBq⟩ : ∃ A, A = (plTo vs outs n2).getD mb 0 := ⟨_, rfl⟩
          obtain ⟨Cq, hCq⟩ : ∃ A, A = (plTo vs outs n2).getD mc 0 := ⟨_, rfl⟩
          have HE : Hid (steM vs (plTo vs outs n2) i = ⟨v.op, v.len, LA, P, A, Bq, Cq, 0⟩) := by
            show _ = _
            unfold steM; rw [hvv, hc, hpp, ea, eb, ec, hA, hLA, hBq, hCq]; simp [hn1']
          rw [← hA] at pa
          rw [← hLA] at gA
          rw [← hBq] at pb
          rw [← hCq] at pc3
          have R0 := RD.set hR.out (AtT.put4 (hR.out).ta A)
          have R1 := RD.set R0 (AtT.put2 (R0).ta LA)
          have R2 := RD.set R1 (AtT.put5 (R1).ta Bq)
          have R3 := RD.set R2 (AtT.put6 (R2).ta Cq)
          have R : Hid _ := R3
          clear R0 R1 R2 R3 hA hLA hBq hCq
          go_upto_region 18 with (first | (go_at_call 84; refine Calls.mono (HL1.out _) ?_; rintro e w9 ⟨rfl, rfl⟩) | fail)
          generalize ((((wc.setCell ⟨wr.heap.size + 1, 4, none⟩ (.int .i64 A)).setCell ⟨wr.heap.size + 1, 2, none⟩ (.int .i64 LA)).setCell ⟨wr.heap.size + 1, 5, none⟩ (.int .i64 Bq)).setCell ⟨wr.heap.size + 1, 6, none⟩ (.int .i64 Cq)) = wS at R ⊢
          rw [← HE.out] at R
          have HST2 : Hid _ := HST.out
          generalize steM vs (plTo vs outs n2) i = st at R HST2
          have hbd := HBD.out i hlt
          have hsm := HSM.out (i + 1) (by omega)
          rw [hpp, hvv] at hbd
          have HPK : Hid (peakTo vs (plTo vs outs n2) (i + 1) = if peakTo vs (plTo vs outs n2) i < P + v.len then P + v.len else peakTo vs (plTo vs outs n2) i) := by
            show _ = _
            rw [peakTo, hpp, hvv]
          generalize peakTo vs (plTo vs outs n2) i = pk at R HPK
          obtain ⟨_, x0, x1, x2, x3, _, f1, _, f3⟩ := R.out.lp.bx
          obtain ⟨s0, s1, s2, s3, s4, s5, s6, s7⟩ := R.out.ta
          simp only [Nat.zero_add] at s1 s2 s3 s4 s5 s6 s7
          have hBz := R.out.lp.bz
          have hVS := R.out.lt
          go_wp2_with (first | (at_builtin; refine wpList_append_lies _ rfl _ _ 36 rfl (w3.heap.size + 1) 80 i0 Ste.zero.agg 8 64 Try.underlying36 hii hz0 hz1 hz2 rfl (by decide) _ _ (flatT (stesTo vs (plTo vs outs n2) i)) rfl (R.out.lp.pu.alloc _) ⟨wS.heap.size, 0, none⟩ 1 1 st.cells rfl rfl (news8 wS st 0) (one8 st) (by decide) (by unfold maxLen; omega) (by omega) (by simp; omega) _ rfl ?_; intro g9 cap9 w9 hown9 hg9 hat9 hlt9; obtain ⟨_, m0, m1, m2, m3, _, mf1, _, mf3⟩ := LP.mid (z := 0) R.out.lp (Nat.lt_succ_self _) hg9) | fail)
          have hat' : u.ownBlock = some g9 ∨ g9 = wS.heap.size + 1 := hat9.imp (fun h => h) (fun e => by rw [e]; simp)
          have R2 : Hid _ := LP.putU (z := 0) (s := st) R.out.lp (Nat.lt_succ_self _) hown9 hg9 hat'
          rw [← HST2.out] at R2
          have hvc : w9.cell? ⟨wr.heap.size, 1, none⟩ = some (.int .i64 v.len) := far1 (m := 0) hg9 (by have := R.out.vs; omega) (fun c => by have := HUN.out _ c; omega) (by have := R.out.va.c1; rw [Nat.zero_add] at this; exact this)
          have hvc2 : (w9.setCell ⟨w3.heap.size, 1, none⟩ (.slice (some ⟨g9, 0, none⟩) (i + 1) cap9)).cell? ⟨wr.heap.size, 1, none⟩ = some (.int .i64 v.len) := by
            rw [cell_ne _ _ _ _ _ _ (.inl (by have := R.out.bv; omega))]; exact hvc
          have HQ : Hid (Kept 0 0 w3 (w9.setCell ⟨w3.heap.size, 1, none⟩ (.slice (some ⟨g9, 0, none⟩) (i + 1) cap9))) := Chg.kept (Kept.refl 0 0 w3) R2.out.ch (fun b hb => by rcases hb with h | h <;> omega)
          have HVL : Hid (wr.heap.size < (w9.setCell ⟨w3.heap.size, 1, none⟩ (.slice (some ⟨g9, 0, none⟩) (i + 1) cap9)).heap.size) := World.block_lt_of_cell? _ _ hvc2
          clear hown9 hg9 hat9 hat' hlt9 m0 m1 m2 m3 mf1 mf3 x0 x1 x2 x3 f1 f3 s0 s1 s2 s3 s4 s5 s6 s7 hvc R HST2 hR
          generalize w9.setCell ⟨w3.heap.size, 1, none⟩ (.slice (some ⟨g9, 0, none⟩) (i + 1) cap9) = wT at R2 hvc2 HQ HVL ⊢
          obtain ⟨_, x0, x1, x2, x3, _, _, _, f3⟩ := R2.out.bx
          obtain ⟨pg', po', pk', e1, e2, _, hpg', cT⟩ := (HP3.out.keep HQ.out (.inr (.inr (Nat.le_refl _)))).at_idx (o := i) (by omega) (by omega)
          cases e1
          obtain rfl : i = pk' := by omega
          rw [Int.toNat_natCast, hpp] at cT
          have hlv := okV_len HVI.out
          rw [hvv] at hlv
          by_cases hgt : pk < P + v.len
          · rw [if_pos hgt] at HPK
            have R3 : Hid _ := LP.putP R2.out (Nat.lt_succ_self _) (P + v.len)
            go_region
            all_goals
              go_wp2_with fail
              go_region
              all_goals
                go_wp2
                go_roundw
                case rel => exact ⟨i + 1, _, by omega, by go_num, by rw [HPK.out]; exact R3.out.keep ((kept_drew _).trans (kept_drew _))⟩
                case measure => simp [intOf]; omega
          · rw [if_neg hgt] at HPK
            rw [← HPK.out] at R2
            go_region
            all_goals
              go_wp2
              go_roundw
              case rel => exact ⟨i + 1, _, by omega, by go_num, R2.out.keep (kept_drew _)⟩
              case measure => simp [intOf]; omega
    · obtain rfl : i = n2 := by omega
      go_wp2_with fail
      go_loopw [9] (fun x W => ∃ (k : Nat) (v' : Value), k ≤ n3 ∧ x = .int .i64 k ∧ Hid (LP W w3 w3.heap.size (w3.heap.size + 1) (.slice ia n1 id) u v' i k (peakTo vs (plTo vs outs i) i) (stesTo vs (plTo vs outs i) i) ((outs.take k).map (spnM vs (plTo vs outs i))))) (fun x _ => n3 - (intOf x).toNat)
      case atStart => exact ⟨0, _, Nat.zero_le _, rfl, by rw [List.take_zero]; exact hP⟩
      case round =>
        obtain ⟨k, v', hk, rfl, hP2⟩ := hrel
        clear hP HKW q0 q1 q2
        have HKW : Hid (Kept 0 0 w3 wr) := Chg.kept (Kept.refl 0 0 w3) hP2.out.ch (fun b hb => by rcases hb with h | h <;> omega)
        obtain ⟨_, q0, q1, q2⟩ := HB3.out.keep HKW.out
        obtain ⟨_, x0, x1, x2, x3, _, _, f2, _⟩ := hP2.out.bx
        by_cases hkn : k < n3
        · have hom := getD_memJ (xs := outs) (q := k) (by rw [HLL.out.2.1]; exact hkn)
          have hob := HO.out _ hom
          obtain ⟨m, em, hm⟩ : ∃ m : Nat, outs.getD k 0 = m ∧ m < i := ⟨(outs.getD k 0).toNat, by omega, by omega⟩
          obtain ⟨og, oo, kk, rfl, ek, _, hog, cO⟩ := (HF3.out.o.keep HKW.out (.inr (.inr (Nat.le_refl _)))).at_idx (o := k) (by omega) (by omega)
          obtain rfl : k = kk := by omega
          rw [Int.toNat_natCast, em] at cO
          obtain ⟨pg, po, pk, rfl, e2, _, hpg, cp⟩ := (HP3.out.keep HKW.out (.inr (.inr (Nat.le_refl _)))).at_idx (o := m) (by omega) (by omega)
          obtain rfl : m = pk := by omega
          rw [Int.toNat_natCast] at cp
          obtain ⟨g, off, rfl, hg, _, _, hat⟩ := (HF3.out.v.keep HKW.out (.inr (.inr (Nat.le_refl _)))).at_idx hm
          have cl := hat.c1
          have HX : Hid ((outs.take (k + 1)).map (spnM vs (plTo vs outs i)) = (outs.take k).map (spnM vs (plTo vs outs i)) ++ [⟨(plTo vs outs i).getD m 0, (vs.getD m Vl.zero).len⟩]) := by
            show _ = _
            rw [List.take_succ_eq_append_getElem (by rw [HLL.out.2.1]; exact hkn), List.map_append]
            have e : outs[k]'(by rw [HLL.out.2.1]; exact hkn) = (m : Int) := by
              rw [← em, List.getD_eq_getElem?_getD, List.getElem?_eq_getElem (by rw [HLL.out.2.1]; exact hkn)]; rfl
            rw [List.map_singleton, e]
            rfl
          generalize (plTo vs outs i).getD m 0 = A at cp HX
          generalize (vs.getD m Vl.zero).len = LA at cl HX
          have hbz := hP2.out.bz
          obtain ⟨ax, cx, rfl⟩ := own_form hP2.out.pv
          clear hom hob em hat
          go_wp2_with fail
          go_region_law ((refine step_append_lies _ rfl (.tmp 122) (.tmp 134) 37 rfl (w3.heap.size + 1) 83 j0 Spn.zero.agg 2 16 Try.underlying37 hjj hy0 hy1 hy2 rfl (by decide) _ _ (flatP ((outs.take k).map (spnM vs (plTo vs outs i)))) (by simp [Act.eval]) (own_drewA hP2.out.pv 1 _) ⟨wr.heap.size, 0, none⟩ 1 1 (Spn.cells ⟨A, LA⟩) (by simp [Act.eval]) rfl (news2 wr ⟨A, LA⟩ 1) (one2 _) (by decide) (by unfold maxLen; omega) (by omega) (by simp; omega) _ rfl ?_; intro g9 cap9 w9 hown9 hg9 hat9 hlt9; obtain ⟨_, s0, s1, s2, s3, _, _, sf2, _⟩ := LP.midV hP2.out (Nat.lt_succ_self _) hg9))
          all_goals
            have hat' : (Value.slice ax k cx).ownBlock = some g9 ∨ g9 = wr.heap.size + 1 := hat9.imp (fun h => h) (fun e => by rw [e]; show (wr.alloc _).heap.size = _; simp)
            have R : Hid _ := LP.putV (s := ⟨A, LA⟩) hP2.out (Nat.lt_succ_self _) hown9 hg9 hat'
            rw [← HX.out] at R
            clear hown9 hg9 hat9 hat' hlt9
            go_wp2
            go_roundw
            case rel => exact ⟨k + 1, _, by omega, by go_num, R⟩
            case measure => simp [intOf]; omega
        · obtain rfl : k = n3 := by omega
          obtain ⟨a2, d2, rfl⟩ := own_form hP2.out.pu
          obtain ⟨a3, d3, rfl⟩ := own_form hP2.out.pv
          have hR := HR3.out.keep HKW.out
          obtain ⟨_, r0, r1, r2, r3, rf0, rf1, rf2, rf3⟩ := hR
          have HKF : Hid (Kept 0 0 w wr) := HK3.out.trans HKW.out
          have HQI : Hid _ := own_keepJ HIOW.out HKW.out
          have HQS : Hid _ := hP2.out.pu
          have HQO : Hid (wr.ownsRow (w3.heap.size + 1) 83 2 (.slice a3 k d3) k (flatP (outs.map (spnM vs (plTo vs outs i))))) := by
            have := hP2.out.pv
            rw [List.take_of_length_le (by rw [HLL.out.2.1]; exact Nat.le_refl _)] at this
            exact this
          have hzw : w.heap.size + 1 < w3.heap.size := HZ3.out
          have hzw2 : w.heap.size + 1 < w2.heap.size := HZ2.out
          clear hP2
          obtain ⟨pkk, hpkk⟩ : ∃ z, z = peakTo vs (plTo vs outs i) i := ⟨_, rfl⟩
          rw [← hpkk] at x3
          have HPQ : Hid _ := hpkk
          clear hpkk
          go_wp2_with fail
          obtain ⟨y0, y1, y2, y3⟩ := put4_0 wr (w.heap.size + 1) _ _ _ _ r0 r1 r2 r3 (.slice ia n1 id) (.slice a2 i d2) (.slice a3 k d3) (.int .i64 pkk)
          have kp := put4_kept wr (w.heap.size + 1) (.slice ia n1 id) (.slice a2 i d2) (.slice a3 k d3) (.int .i64 pkk)
          refine bodyPost_ret (v := cagg ia n1 id a2 i d2 a3 k d3 pkk) (by simp [results, Try.results47, go_sem, y0, y1, y2, y3]) rfl ⟨ia, id, a2, d2, a3, d3, by rw [HPQ.out], ⟨?_, ?_, ?_⟩, HKF.out.new kp (by omega)⟩
          · exact (own_isL (own_keepR HQI.out kp (fun b hb => by have := own_blkV HQI.out hb; omega)) HLL.out.2.2).mono (by omega) (Nat.le_refl _)
          · refine (own_tsL (own_keepR HQS.out kp (fun b hb => by have := own_blkV HQS.out hb; omega)) (stesTo_len _ _ _) ?_).mono (by omega) (Nat.le_refl _)
            intro s hs
            unfold stesTo at hs
            obtain ⟨q, _, rfl⟩ := List.mem_map.1 hs
            unfold steM
            dsimp only
            split
            · exact getK_lt HVK.out q
            · decide
          · exact (own_psL (own_keepR HQO.out kp (fun b hb => by have := own_blkV HQO.out hb; omega)) (by rw [List.length_map]; exact HLL.out.2.1)).mono (by omega) (Nat.le_refl _)
end Go.Proofs.Ytdkjdlimcnddkaa
