import Derived.Test.YtcphabjekfihnabGreatP41
namespace Go.Proofs.YtcphabjekfihnabGreat
open Go.RowKit Flt
attribute [local go_sem] alloc_drewN setCell_drewN run_store_float run_store_func

/-- The answer of Optimise where all is well. -/
def PR (w : World) (n1 n3 : Nat) (ins : List Int) (M : List Vl × List Int) (e : Ending) (w' : World) : Prop :=
  ∃ G1 d1 G2 n2 d2 G3 d3 us, e = .returned (.tuple #[gagg (some ⟨G1, 0, none⟩) n1 d1 (some ⟨G2, 0, none⟩) n2 d2 (some ⟨G3, 0, none⟩) n3 d3, .int .i64 0]) ∧ PG w' G1 G2 G3 n1 n2 n3 ins us M.2 ∧ Lk us M.1 ∧ Kb us ∧ (w.heap.size ≤ G1 ∧ w.heap.size ≤ G2 ∧ w.heap.size ≤ G3) ∧ Kept 0 0 w w'
theorem passM_0 (vs : List Vl) (outs : List Int) : deadM vs outs = passM 0 vs outs := by unfold passM; rw [if_pos rfl]
theorem passM_2 (vs : List Vl) (outs : List Int) : (foldSt vs vs.length, outs) = passM 2 vs outs := by unfold passM; rw [if_neg (by decide : ¬ (2 : Int) = 0), if_pos (rfl : (2 : Int) = 2)]
theorem passM_e {p : Int} (h0 : p ≠ 0) (h2 : p ≠ 2) (vs : List Vl) (outs : List Int) : eqM p vs outs = passM p vs outs := by unfold passM; rw [if_neg h0, if_neg h2]
/-- A pass on data that is alike. -/
theorem po_next {w : World} {g1 n1 c1 g2 g3 n3 c3 : Nat} {ins : List Int} {us : List Vl} {M : List Vl × List Int} {p : Int} {e : Ending} {w' : World} (h : PO w g1 n1 c1 g2 g3 n3 c3 ins (passM p us M.2) e w') (hl : Lk us M.1) (k1 : Kb us) (k2 : Kb M.1) : PO w g1 n1 c1 g2 g3 n3 c3 ins (passM p M.1 M.2) e w' := by
  obtain ⟨G2, n2, c2, us', h1, h2, h3, h4, h5, h6⟩ := h
  have q := passM_lk (outs := M.2) p hl k1 k2
  exact ⟨G2, n2, c2, us', h1, by rw [← q.2]; exact h2, h3.trans q.1, h4, h5, h6⟩

set_option maxRecDepth 100000 in
set_option maxHeartbeats 16000000 in
theorem implOpt_run (w : World) (lo g1 g2 g3 n1 c1 n2 c2 n3 c3 plo phi : Nat) (ap : Option Addr) (m cp : Nat) (ins : List Int) (vs : List Vl) (outs ps : List Int) (f : GO w lo g1 g2 g3 n2 ins vs outs) (e1 : ins.length = n1) (e3 : outs.length = n3) (hlt : Kb vs) (h : okG ins vs outs = true) (hp : IS w plo phi ap m ps) (hm : m ≤ 50) (hi5 : ps.all (idxB · 5) = true) :
    Calls Tryz.prog 14 #[gagg (some ⟨g1, 0, none⟩) n1 c1 (some ⟨g2, 0, none⟩) n2 c2 (some ⟨g3, 0, none⟩) n3 c3, .slice ap m cp] w fun e w' => PR w n1 n3 ins (optTo vs outs ps m) e w' := by
  have hm' : ¬ (50 : Int) < (m : Int) := by omega
  obtain ⟨⟨hl1, hl2, hl3⟩, _, _, _, _⟩ := okG_parts h
  have hgs := f.gs hlt
  rw [e1, e3] at hgs
  have hvl : vs.length = n2 := f.v.len
  have k0 := kept_alloc 0 0 w (gbox (some ⟨g1, 0, none⟩) n1 c1 (some ⟨g2, 0, none⟩) n2 c2 (some ⟨g3, 0, none⟩) n3 c3)
  have k0' := kept_alloc 0 0 (w.alloc (gbox (some ⟨g1, 0, none⟩) n1 c1 (some ⟨g2, 0, none⟩) n2 c2 (some ⟨g3, 0, none⟩) n3 c3)) nbox
  have hK := k0.trans k0'
  have HX : Hid _ := implValid _ _ _ _ n1 c1 n2 c2 n3 c3 ins vs outs (hgs.keep hK)
  rw [h] at HX
  have HI : Hid (∀ W, Kept 0 0 w W → Calls Tryz.prog 29 #[.int .i64 5, .slice ap m cp] W fun e w' => e = .returned (.bool true) ∧ W = w') := fun W kW => by
    have := allIdxS W _ _ ap m cp 5 ps (hp.keep kW (.inr (.inr (Nat.le_refl _)))) (by omega)
    rw [hi5] at this
    exact this
  have HPS : Hid _ := hp
  have HP5 : Hid (∀ k, k < m → 0 ≤ ps.getD k 0 ∧ ps.getD k 0 < 5) := fun k hk => by
    have := List.all_eq_true.1 hi5 _ (getD_memJ (xs := ps) (q := k) (by rw [hp.len]; exact hk))
    exact of_decide_eq_true this
  have HCP : Hid (∀ W, Kept 0 0 w W → _) := fun W kW => copyGraph W lo g1 g2 g3 n1 c1 n2 c2 n3 c3 ins vs outs (GO.keepJ f kW).gn e1 e3 (by omega) (by omega) (by omega)
  have HOK : Hid (∀ k, okG ins (optTo vs outs ps k).1 (optTo vs outs ps k).2 = true) := fun k => optTo_ok ps h k
  have HKB : Hid (∀ k, Kb (optTo vs outs ps k).1) := fun k => optTo_kb ps hlt k
  have HB : Hid _ := (g0_start w (.slice (some ⟨g1, 0, none⟩) n1 c1) (.slice (some ⟨g2, 0, none⟩) n2 c2) (.slice (some ⟨g3, 0, none⟩) n3 c3)).keep k0'
  have hN := rb_start (w.alloc (gbox (some ⟨g1, 0, none⟩) n1 c1 (some ⟨g2, 0, none⟩) n2 c2 (some ⟨g3, 0, none⟩) n3 c3))
  rw [show (w.alloc (gbox (some ⟨g1, 0, none⟩) n1 c1 (some ⟨g2, 0, none⟩) n2 c2 (some ⟨g3, 0, none⟩) n3 c3)).heap.size = w.heap.size + 1 by simp] at hN
  have HN : Hid _ := hN
  have HK : Hid _ := hK
  have HZ1 : Hid (((w.alloc (gbox (some ⟨g1, 0, none⟩) n1 c1 (some ⟨g2, 0, none⟩) n2 c2 (some ⟨g3, 0, none⟩) n3 c3)).alloc nbox).heap.size = w.heap.size + 1 + 1) := by show _ = _; simp
  have HK0 : Hid (Kb vs) := hlt
  clear hK h f hN hp hi5 hgs k0 k0' e1 e3 hlt hl1 hl2 hl3 hvl
  obtain ⟨_, p0, p1, p2⟩ := HB.out
  go_enter Tryz.func14, Tryz.ntmps14
  go_wp2_with fail
  clear p0 p1 p2
  generalize (w.alloc (gbox (some ⟨g1, 0, none⟩) n1 c1 (some ⟨g2, 0, none⟩) n2 c2 (some ⟨g3, 0, none⟩) n3 c3)).alloc nbox = w1 at HB HN HK HX HZ1 ⊢
  refine Calls.mono HX.out ?_
  rintro e w2 ⟨rfl, k2⟩
  have HK2 : Hid _ := HK.out.trans k2
  have HB2 : Hid _ := HB.out.keep k2
  have HN2 : Hid _ := HN.out.keep k2
  have HZ2 : Hid (w.heap.size + 1 + 1 ≤ w2.heap.size) := by have := k2.size; rw [HZ1.out] at this; exact this
  clear k2 HX HK HB HN HZ1
  go_wp2_with fail
  refine Calls.mono (HI.out w2 HK2.out) ?_
  rintro e w3 ⟨rfl, rfl⟩
  go_wp2_with fail
  refine Calls.mono (allPasses _) ?_
  rintro e w4 ⟨rfl, k4⟩
  have ka := kept_alloc 0 0 w4 apbox
  have HAP : Hid _ := ap_start w4
  have HK5 : Hid _ := HK2.out.trans (k4.trans ka)
  have HB5 : Hid _ := HB2.out.keep (k4.trans ka)
  have HN5 : Hid _ := HN2.out.keep (k4.trans ka)
  have HZ5 : Hid (w.heap.size + 1 + 1 ≤ w4.heap.size ∧ (w4.alloc apbox).heap.size = w4.heap.size + 1) := ⟨by have := HZ2.out; have := k4.size; omega, by simp⟩
  obtain ⟨_, p0, p1, p2⟩ := HB5.out
  clear k4 ka HK2 HB2 HN2 HZ2
  go_wp2_with fail
  clear p0 p1 p2
  generalize w4.alloc apbox = w5 at HAP HK5 HB5 HN5 HZ5 ⊢
  refine Calls.mono (HCP.out w5 HK5.out) ?_
  rintro e w6 ⟨G1, d1, G2, d2, G3, d3, rfl, hPG, hlo, k6⟩
  have kb := kept_alloc 0 0 w6 (gbox (some ⟨G1, 0, none⟩) n1 d1 (some ⟨G2, 0, none⟩) n2 d2 (some ⟨G3, 0, none⟩) n3 d3)
  have HPI : Hid (PI (w6.alloc (gbox (some ⟨G1, 0, none⟩) n1 d1 (some ⟨G2, 0, none⟩) n2 d2 (some ⟨G3, 0, none⟩) n3 d3)) w w4.heap.size w6.heap.size (w.heap.size + 1) G1 n1 d1 G2 n2 d2 G3 n3 d3 ins vs (optTo vs outs ps 0)) := by
    have h5 := HZ5.out
    have h6 := k6.size
    have q1 := hPG.i.lt
    have q2 := hPG.v.lt
    have q3 := hPG.o.lt
    refine ⟨hPG.keep kb, Lk.refl _, HK0.out, HAP.out.keepC (S := fun _ => False) (k6.trans kb).chg id, rb_box w6 _ _ _, HN5.out.keep (k6.trans kb), ⟨⟨by omega, by omega, by omega⟩, by omega, by omega, by omega⟩, ⟨⟨by omega, by omega, by omega⟩, ⟨by omega, by omega, by omega⟩, ⟨by omega, by omega, by omega⟩, by omega, by omega, by omega⟩, HK5.out.trans (k6.trans kb)⟩
  clear hPG hlo k6 kb HAP HK5 HB5 HN5 HCP HI
  go_wp2_with fail
  generalize w6.alloc (gbox (some ⟨G1, 0, none⟩) n1 d1 (some ⟨G2, 0, none⟩) n2 d2 (some ⟨G3, 0, none⟩) n3 d3) = w7 at HPI ⊢
  go_loopw [28] (fun x W => ∃ (k G2 n2 d2 : Nat) (us : List Vl), k ≤ m ∧ x = .int .i64 k ∧ Hid (PI W w w4.heap.size w6.heap.size (w.heap.size + 1) G1 n1 d1 G2 n2 d2 G3 n3 d3 ins us (optTo vs outs ps k))) (fun x _ => m - (intOf x).toNat)
  case atStart => exact ⟨0, G2, n2, d2, vs, Nat.zero_le _, rfl, HPI⟩
  case round =>
    obtain ⟨k, G2, n2, d2, us, hk, rfl, hI⟩ := hrel
    clear HPI
    by_cases hkm : k < m
    · obtain ⟨gp, op, kk, rfl, ek, _, _, cP⟩ := (IS.keep HPS.out hI.out.ke (.inr (.inr (Nat.le_refl _)))).at_idx (o := k) (by omega) (by omega)
      obtain rfl : k = kk := by omega
      rw [Int.toNat_natCast] at cP
      have h5 := HP5.out k hkm
      have HOKu : Hid (okG ins us (optTo vs outs ps k).2 = true) := by show _ = _; rw [hI.out.lk.okG]; exact HOK.out k
      have HKBk : Hid _ := HKB.out k
      have HNX : Hid (optTo vs outs ps (k + 1) = passM (ps.getD k 0) (optTo vs outs ps k).1 (optTo vs outs ps k).2) := rfl
      obtain ⟨_, r0, r1, r2, f0, f1, f2⟩ := hI.out.out
      obtain ⟨_, a0, a1, a2, a3, a4⟩ := hI.out.arr
      have HPN : Hid (∀ W' W2 G2' n2' c2' us', Kept 0 0 wr W' → PG W2 G1 G2' G3 n1 n2' n3 ins us' (optTo vs outs ps (k + 1)).2 → Lk us' (optTo vs outs ps (k + 1)).1 → Kb us' → Chg (fun b => b = G2 ∨ b = G3) W' W2 → (G2' = G2 ∨ W'.heap.size ≤ G2') → _) := fun W' W2 G2' n2' c2' us' kW x1 x2 x3 x4 x5 => PI.next (c2' := c2') hI.out kW x1 x2 x3 x4 x5
      have HPG : Hid (∀ W', Kept 0 0 wr W' → PG W' G1 G2 G3 n1 n2 n3 ins us (optTo vs outs ps k).2) := fun W' kW => hI.out.pg.keep kW
      have HLK : Hid (Lk us (optTo vs outs ps k).1 ∧ Kb us) := ⟨hI.out.lk, hI.out.kb⟩
      have hOA : w6.heap.size ≠ w4.heap.size := hI.out.ne.2.2.2.1
      rcases (by omega : ps.getD k 0 = 0 ∨ ps.getD k 0 = 1 ∨ ps.getD k 0 = 2 ∨ ps.getD k 0 = 3 ∨ ps.getD k 0 = 4) with hpk | hpk | hpk | hpk | hpk
      · rw [hpk] at HNX cP
        have HCL : Hid (∀ W', Kept 0 0 wr W' → Calls Tryz.prog 44 #[gagg (some ⟨G1, 0, none⟩) n1 d1 (some ⟨G2, 0, none⟩) n2 d2 (some ⟨G3, 0, none⟩) n3 d3] W' fun e w' => PO W' G1 n1 d1 G2 G3 n3 d3 ins (optTo vs outs ps (k + 1)) e w') := fun W' kW => (withoutDead W' G1 n1 d1 G2 n2 d2 G3 n3 d3 ins us _ (HPG.out W' kW) HOKu.out HLK.out.2).mono fun e w' h => by
          rw [passM_0] at h
          rw [HNX.out]
          exact po_next h HLK.out.1 HLK.out.2 HKBk.out
        clear hpk HNX h5 hI HOKu HKBk HPG HLK
        go_wp2_with fail
        go_region_with ((go_at_call 44; refine Calls.mono (HCL.out _ (kept_drew wr)) ?_; rintro e w8 ⟨G2', n2', c2', us', rfl, z1, z2, z3, z4, z5⟩; obtain ⟨rb8, pi8⟩ := HPN.out _ w8 G2' n2' c2' us' (kept_drew wr) z1 z2 z3 z4 z5; obtain ⟨_, j0, j1, j2, h0, h1, h2⟩ := rb8; have R : Hid _ := pi8; clear pi8 z1 z2 z3 z4 z5))
        all_goals
          go_wp2
          go_roundw
          case rel => exact ⟨k + 1, G2', n2', c2', us', by omega, by go_num, R⟩
          case measure => simp [intOf]; omega
      · rw [hpk] at HNX cP
        have HCL : Hid (∀ W', Kept 0 0 wr W' → Calls Tryz.prog 45 #[gagg (some ⟨G1, 0, none⟩) n1 d1 (some ⟨G2, 0, none⟩) n2 d2 (some ⟨G3, 0, none⟩) n3 d3] W' fun e w' => PO W' G1 n1 d1 G2 G3 n3 d3 ins (optTo vs outs ps (k + 1)) e w') := fun W' kW => (withoutCommon W' G1 n1 d1 G2 n2 d2 G3 n3 d3 ins us _ (HPG.out W' kW) HOKu.out HLK.out.2).mono fun e w' h => by
          rw [passM_e (by decide : (1 : Int) ≠ 0) (by decide : (1 : Int) ≠ 2)] at h
          rw [HNX.out]
          exact po_next h HLK.out.1 HLK.out.2 HKBk.out
        clear hpk HNX h5 hI HOKu HKBk HPG HLK
        go_wp2_with fail
        go_region_with ((go_at_call 45; refine Calls.mono (HCL.out _ (kept_drew wr)) ?_; rintro e w8 ⟨G2', n2', c2', us', rfl, z1, z2, z3, z4, z5⟩; obtain ⟨rb8, pi8⟩ := HPN.out _ w8 G2' n2' c2' us' (kept_drew wr) z1 z2 z3 z4 z5; obtain ⟨_, j0, j1, j2, h0, h1, h2⟩ := rb8; have R : Hid _ := pi8; clear pi8 z1 z2 z3 z4 z5))
        all_goals
          go_wp2
          go_roundw
          case rel => exact ⟨k + 1, G2', n2', c2', us', by omega, by go_num, R⟩
          case measure => simp [intOf]; omega
      · rw [hpk] at HNX cP
        have HCL : Hid (∀ W', Kept 0 0 wr W' → Calls Tryz.prog 46 #[gagg (some ⟨G1, 0, none⟩) n1 d1 (some ⟨G2, 0, none⟩) n2 d2 (some ⟨G3, 0, none⟩) n3 d3] W' fun e w' => PO W' G1 n1 d1 G2 G3 n3 d3 ins (optTo vs outs ps (k + 1)) e w') := fun W' kW => (withFolded W' G1 n1 d1 G2 n2 d2 G3 n3 d3 ins us _ (HPG.out W' kW) HOKu.out HLK.out.2).mono fun e w' h => by
          rw [passM_2] at h
          rw [HNX.out]
          exact po_next h HLK.out.1 HLK.out.2 HKBk.out
        clear hpk HNX h5 hI HOKu HKBk HPG HLK
        go_wp2_with fail
        go_region_with ((go_at_call 46; refine Calls.mono (HCL.out _ (kept_drew wr)) ?_; rintro e w8 ⟨G2', n2', c2', us', rfl, z1, z2, z3, z4, z5⟩; obtain ⟨rb8, pi8⟩ := HPN.out _ w8 G2' n2' c2' us' (kept_drew wr) z1 z2 z3 z4 z5; obtain ⟨_, j0, j1, j2, h0, h1, h2⟩ := rb8; have R : Hid _ := pi8; clear pi8 z1 z2 z3 z4 z5))
        all_goals
          go_wp2
          go_roundw
          case rel => exact ⟨k + 1, G2', n2', c2', us', by omega, by go_num, R⟩
          case measure => simp [intOf]; omega
      · rw [hpk] at HNX cP
        have HCL : Hid (∀ W', Kept 0 0 wr W' → Calls Tryz.prog 47 #[gagg (some ⟨G1, 0, none⟩) n1 d1 (some ⟨G2, 0, none⟩) n2 d2 (some ⟨G3, 0, none⟩) n3 d3] W' fun e w' => PO W' G1 n1 d1 G2 G3 n3 d3 ins (optTo vs outs ps (k + 1)) e w') := fun W' kW => (withoutNeg W' G1 n1 d1 G2 n2 d2 G3 n3 d3 ins us _ (HPG.out W' kW) HOKu.out HLK.out.2).mono fun e w' h => by
          rw [passM_e (by decide : (3 : Int) ≠ 0) (by decide : (3 : Int) ≠ 2)] at h
          rw [HNX.out]
          exact po_next h HLK.out.1 HLK.out.2 HKBk.out
        clear hpk HNX h5 hI HOKu HKBk HPG HLK
        go_wp2_with fail
        go_region_with ((go_at_call 47; refine Calls.mono (HCL.out _ (kept_drew wr)) ?_; rintro e w8 ⟨G2', n2', c2', us', rfl, z1, z2, z3, z4, z5⟩; obtain ⟨rb8, pi8⟩ := HPN.out _ w8 G2' n2' c2' us' (kept_drew wr) z1 z2 z3 z4 z5; obtain ⟨_, j0, j1, j2, h0, h1, h2⟩ := rb8; have R : Hid _ := pi8; clear pi8 z1 z2 z3 z4 z5))
        all_goals
          go_wp2
          go_roundw
          case rel => exact ⟨k + 1, G2', n2', c2', us', by omega, by go_num, R⟩
          case measure => simp [intOf]; omega
      · rw [hpk] at HNX cP
        have HCL : Hid (∀ W', Kept 0 0 wr W' → Calls Tryz.prog 48 #[gagg (some ⟨G1, 0, none⟩) n1 d1 (some ⟨G2, 0, none⟩) n2 d2 (some ⟨G3, 0, none⟩) n3 d3] W' fun e w' => PO W' G1 n1 d1 G2 G3 n3 d3 ins (optTo vs outs ps (k + 1)) e w') := fun W' kW => (withoutUnits W' G1 n1 d1 G2 n2 d2 G3 n3 d3 ins us _ (HPG.out W' kW) HOKu.out HLK.out.2).mono fun e w' h => by
          rw [passM_e (by decide : (4 : Int) ≠ 0) (by decide : (4 : Int) ≠ 2)] at h
          rw [HNX.out]
          exact po_next h HLK.out.1 HLK.out.2 HKBk.out
        clear hpk HNX h5 hI HOKu HKBk HPG HLK
        go_wp2_with fail
        go_region_with ((go_at_call 48; refine Calls.mono (HCL.out _ (kept_drew wr)) ?_; rintro e w8 ⟨G2', n2', c2', us', rfl, z1, z2, z3, z4, z5⟩; obtain ⟨rb8, pi8⟩ := HPN.out _ w8 G2' n2' c2' us' (kept_drew wr) z1 z2 z3 z4 z5; obtain ⟨_, j0, j1, j2, h0, h1, h2⟩ := rb8; have R : Hid _ := pi8; clear pi8 z1 z2 z3 z4 z5))
        all_goals
          go_wp2
          go_roundw
          case rel => exact ⟨k + 1, G2', n2', c2', us', by omega, by go_num, R⟩
          case measure => simp [intOf]; omega
    · obtain rfl : k = m := by omega
      obtain ⟨_, r0, r1, r2, f0, f1, f2⟩ := hI.out.out
      obtain ⟨_, s0, s1, s2, v0, v1, v2⟩ := hI.out.res
      have HI9 : Hid _ := hI.out
      clear hI
      go_wp2_with fail
      obtain ⟨y0, y1, y2⟩ := put3_0 wr (w.heap.size + 1) _ _ _ s0 s1 s2 (.slice (some ⟨G1, 0, none⟩) n1 d1) (.slice (some ⟨G2, 0, none⟩) n2 d2) (.slice (some ⟨G3, 0, none⟩) n3 d3)
      have kp := put3_kept wr (w.heap.size + 1) (.slice (some ⟨G1, 0, none⟩) n1 d1) (.slice (some ⟨G2, 0, none⟩) n2 d2) (.slice (some ⟨G3, 0, none⟩) n3 d3)
      have hne := HI9.out.ne
      refine bodyPost_ret (v := .tuple #[gagg (some ⟨G1, 0, none⟩) n1 d1 (some ⟨G2, 0, none⟩) n2 d2 (some ⟨G3, 0, none⟩) n3 d3, .int .i64 0]) (by simp [results, Tryz.results14, go_sem, y0, y1, y2]) rfl ⟨G1, d1, G2, n2, d2, G3, d3, us, rfl, ⟨HI9.out.pg.i.keep kp (by omega), HI9.out.pg.v.keep kp (by omega), HI9.out.pg.o.keep kp (by omega), HI9.out.pg.d12, HI9.out.pg.d13, HI9.out.pg.d23⟩, HI9.out.lk, HI9.out.kb, HI9.out.lo.1, HI9.out.ke.new kp (by omega)⟩
end Go.Proofs.YtcphabjekfihnabGreat
