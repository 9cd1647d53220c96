import Derived.Test.YtdkjdlimcnddkaaA47
namespace Go.Proofs.Ytdkjdlimcnddkaa
open Go.RowKit Flt
attribute [local go_sem] alloc_drewN setCell_drewN run_store_float
/-- What placesOf holds while it goes: the free cells at R, the places in G. -/
structure PW (W w4 : World) (R g0 G g cap : Nat) (l : List Spn) (n : Nat) (pl : List Spn) : Prop where
  fr : Fr W R g cap l
  pa : PA W G n pl
  ch : Chg (fun b => b = R ∨ b = g0 ∨ b = G ∨ w4.heap.size ≤ b) w4 W
  gg : g = g0 ∨ w4.heap.size ≤ g
  cs : R ≠ G ∧ g0 ≠ G ∧ G < w4.heap.size
theorem PW.keep {W W' w4 : World} {R g0 G g cap n : Nat} {l pl : List Spn} (f : PW W w4 R g0 G g cap l n pl) (k : Kept 0 0 W W') : PW W' w4 R g0 G g cap l n pl :=
  ⟨f.fr.keepC (k.chg (S := fun _ => False)) (fun h => h) (fun h => h), f.pa.keepC (k.chg (S := fun _ => False)) (fun h => h), Chg.andThen f.ch k.chg, f.gg, f.cs⟩
theorem PW.next {W W' w4 : World} {R g0 G g cap g' cap' n : Nat} {l l' pl : List Spn} (f : PW W w4 R g0 G g cap l n pl) (F : Fr W' R g' cap' l') (k : Chg (fun b => b = R ∨ b = g) W W') (hg : g' = g ∨ W.heap.size ≤ g') : PW W' w4 R g0 G g' cap' l' n pl := by
  have h1 := f.gg
  have h2 := f.cs
  have h3 := f.ch.size
  refine ⟨F, f.pa.keepC k (by omega), Chg.andThen f.ch (k.mono fun b _ h => by omega), by omega, f.cs⟩
theorem PW.put {W w4 : World} {R g0 G g cap n : Nat} {l pl : List Spn} (f : PW W w4 R g0 G g cap l n pl) {i : Nat} (hi : i < n) (s : Spn) : PW (put2p W G (i * 2) s) w4 R g0 G g cap l n (pl.set i s) := by
  have h1 := f.gg
  have h2 := f.cs
  have k := (put2p_kept W G (i * 2) s).chg1 (S := fun b => b = G) rfl
  exact ⟨f.fr.keepC k (by omega) (by omega), f.pa.step i hi s, Chg.andThen f.ch (k.mono fun b _ h => by omega), f.gg, f.cs⟩
set_option maxRecDepth 100000 in
set_option maxHeartbeats 16000000 in
theorem placesOf (w : World) (b1 b2 b3 : Option Addr) (n1 c1 n2 c2 n3 c3 : Nat) (ins : List Int) (vs : List Vl) (outs : List Int) (f : GS w b1 n1 b2 n2 b3 n3 ins vs outs) (hok : okG ins vs outs = true) :
    Calls Try.prog 48 #[gagg b1 n1 c1 b2 n2 c2 b3 n3 c3] w fun e w' => PsO w n2 (plUp vs (plTo vs outs n2) n2 n2) e w' := by
  obtain ⟨⟨hl1, hl2, hl3⟩, _, hv, _, hcl⟩ := okG_parts hok
  have hvl : vs.length = n2 := f.v.len
  have hn2 : n2 ≤ 2000 := by omega
  have HV : Hid (∀ j, j < n2 → 1 ≤ (vs.getD j Vl.zero).len) := fun j hj => (okV_len (hv j (by omega))).1
  have HS : Hid (sumL vs n2 ≤ 50000) := by
    show _ ≤ _
    rw [sumL_cells vs n2 (by omega), List.take_of_length_le (by omega)]; exact hcl
  have HSP : Hid (∀ j, j < n2 → InB (spanOf vs (plTo vs outs n2) j) ∧ 1 ≤ (spanOf vs (plTo vs outs n2) j).len) := fun j hj => by
    have h1 := pl_bound (outs := outs) HV.out HS.out n2 (Nat.le_refl _) j hj
    have h2 := sumL_mono HV.out (i := j + 1) (j := n2) (by omega) (by omega)
    have h3 := HV.out j hj
    have h4 := HS.out
    refine ⟨⟨h1.1, ?_, ?_⟩, h3⟩
    · show 0 ≤ (vs.getD j Vl.zero).len; omega
    · show (plTo vs outs n2).getD j 0 + (vs.getD j Vl.zero).len ≤ 50000; omega
  have HLL : Hid (vs.length = n2) := hvl
  have HOK : Hid _ := hok
  have k0 := kept_alloc 0 0 w (gbox b1 n1 c1 b2 n2 c2 b3 n3 c3)
  have HB : Hid _ := g0_start w (.slice b1 n1 c1) (.slice b2 n2 c2) (.slice b3 n3 c3)
  have HF : Hid _ := f.keep k0
  have HK : Hid _ := k0
  have HZ : Hid ((w.alloc (gbox b1 n1 c1 b2 n2 c2 b3 n3 c3)).heap.size = w.heap.size + 1) := by show _ = _; simp
  clear f hok hl1 hl2 hl3 hv hvl hcl k0
  go_enter Try.func48, Try.ntmps48
  go_upto_region 1 with fail
  generalize w.alloc (gbox b1 n1 c1 b2 n2 c2 b3 n3 c3) = w1 at HB HF HK HZ ⊢
  go_wp2_with fail
  refine Calls.mono (allFreeS w1) ?_
  rintro e w2 ⟨R, g0, rfl, F2, k2, hR2, hg2⟩
  obtain ⟨_, q0, q1, q2⟩ := HB.out.keep k2
  have HDW : Hid _ := doneWith w2 b1 b2 b3 n1 c1 n2 c2 n3 c3 ins vs outs (HF.out.keep k2) HOK.out
  have HF2 : Hid _ := F2
  have HK2 : Hid _ := k2
  clear F2 k2
  go_wp2_with fail
  refine Calls.mono HDW.out ?_
  rintro e w3 ⟨D, B, u, rfl, hD, hD1, hD2, hD3, k3⟩
  have HD3 : Hid _ := hD.rd
  have HK3 : Hid _ := HK2.out.trans k3
  have HF3 : Hid _ := HF2.out.keepC (k3.chg (S := fun _ => False)) (fun h => h) (fun h => h)
  have hm := make_Spn n2 w3 (by omega)
  have k4 := kept_alloc 0 0 w3 (.cells (madeCells #[.int .i64 0, .int .i64 0] (n2 * 2)) 83)
  have HK4 : Hid _ := HK3.out.trans k4
  have HD4 : Hid (DRd (w3.alloc (.cells (madeCells #[.int .i64 0, .int .i64 0] (n2 * 2)) 83)) D B w3.heap.size n2 (doneL vs outs n2)) := hD.rd.keepC (k4.chg (S := fun _ => False)) (fun h => h) (fun _ _ _ h => h)
  have HPW : Hid (PW (w3.alloc (.cells (madeCells #[.int .i64 0, .int .i64 0] (n2 * 2)) 83)) (w3.alloc (.cells (madeCells #[.int .i64 0, .int .i64 0] (n2 * 2)) 83)) R g0 w3.heap.size g0 1 [Spn.mk 0 50000] n2 (plUp vs (plTo vs outs n2) n2 0)) :=
    ⟨HF3.out.keepC (k4.chg (S := fun _ => False)) (fun h => h) (fun h => h), by rw [plUp_zero]; exact PA.made w3 n2, (Kept.refl 0 0 _).chg, .inl rfl, by have := HF3.out.lt; have := HF3.out.row.lt; refine ⟨by omega, by omega, by simp⟩⟩
  have HZ4 : Hid ((w3.alloc (.cells (madeCells #[.int .i64 0, .int .i64 0] (n2 * 2)) 83)).heap.size = w3.heap.size + 1 ∧ w1.heap.size ≤ R ∧ w1.heap.size ≤ g0 ∧ R < D ∧ g0 < D ∧ D < B ∧ B ≤ w3.heap.size ∧ w1.heap.size ≤ w3.heap.size) := ⟨by simp, hR2, hg2, by have := HF2.out.lt; omega, by have := HF2.out.row.lt; omega, hD2, hD3, HK3.out.size⟩
  obtain ⟨_, p0, p1, p2⟩ := HB.out.keep HK3.out
  obtain ⟨_, r0, r1, r2⟩ := HB.out.keep HK4.out
  clear HDW hD hD1 hD2 hD3 k3 k4 hR2 hg2 HF3 HD3 HF2 HK2 q0 q1 q2
  go_wp2_with fail
  clear p0 p1 p2 r0 r1 r2 hm
  generalize w3.alloc (.cells (madeCells #[.int .i64 0, .int .i64 0] (n2 * 2)) 83) = w4 at HK4 HD4 HPW HZ4 ⊢
  obtain ⟨G, hG⟩ : ∃ G, G = w3.heap.size := ⟨_, rfl⟩
  rw [← hG] at HD4 HPW HZ4 ⊢
  clear hG HK3
  go_loopw [20] (fun x W => ∃ (i g cap : Nat) (l : List Spn), i ≤ n2 ∧ x = .int .i64 i ∧ Hid (PW W w4 R g0 G g cap l n2 (plUp vs (plTo vs outs n2) n2 i)) ∧ Hid (PlI vs (plTo vs outs n2) l (fun j => j < i ∧ (i : Int) ≤ lastM vs outs j))) (fun x _ => n2 - (intOf x).toNat)
  case atStart => exact ⟨0, g0, 1, _, Nat.zero_le _, rfl, HPW, (pl_start vs (plTo vs outs n2)).congr (fun j => ⟨fun h => h.elim, fun h => by omega⟩)⟩
  case round =>
    obtain ⟨i, g, cap, l, hi, rfl, hW, hP⟩ := hrel
    clear HPW
    have HKW : Hid (Kept 0 0 w1 wr) := Chg.kept HK4.out hW.out.ch (fun b e => by have := HZ4.out; omega)
    obtain ⟨_, q0, q1, q2⟩ := HB.out.keep HKW.out
    by_cases hlt : i < n2
    · obtain ⟨ga, off, rfl, hga, _, _, hat⟩ := (HF.out.keep HKW.out).v.at_idx hlt
      obtain ⟨k, hk, hsp, hP2⟩ := pl_take HV.out HS.out hlt hP.out
      have HP2 : Hid _ := hP2
      have hlen := HV.out i hlt
      have HSPI : Hid (∀ s, s = spanOf vs (plTo vs outs n2) i → (plUp vs (plTo vs outs n2) n2 i).set i s = plUp vs (plTo vs outs n2) n2 (i + 1)) := fun s hs => by rw [hs]; exact plUp_set _ _ _ _
      rw [← hsp] at HSPI
      generalize hve : vs.getD i Vl.zero = v at hat hk hsp HP2 hlen HSPI
      have HTK : Hid (∀ W, Kept 0 0 wr W → Calls Try.prog 101 #[.pointer (some ⟨R, 0, none⟩), .int .i64 v.len] W fun e w' => TkO W R g k l v.len e w') := fun W kW =>
        takeS W R g cap k l v.len (hW.out.keep kW).fr hP.out.fl.runs (by have := hP.out.few; omega) hlen hP.out.fl.top hk
      obtain ⟨y0, y1, y2, y3, y4, y5⟩ := hat
      obtain ⟨z0, z1, z2, z3, z4, z5⟩ := vbox_atJ wr v
      simp only [Nat.zero_add] at z1 z2 z3 z4 z5
      have HW1 : Hid _ := hW.out.keep (kept_alloc 0 0 wr (vbox v.op v.len v.a v.b v.c v.k))
      clear hP2 hsp hk hW hP hve hlen
      go_wp2_with fail
      clear y0 y1 y2 y3 y4 y5 z0 z1 z2 z3 z4 z5 hga q0 q1 q2
      refine Calls.mono (HTK.out _ (kept_alloc 0 0 wr _)) ?_
      rintro e w5 ⟨g', cap', rfl, F5, C5, e5⟩
      obtain ⟨s, hs⟩ : ∃ s, s = Spn.mk (l.getD k Spn.zero).off v.len := ⟨_, rfl⟩
      rw [← hs] at HSPI
      have hs1 : s.off = (l.getD k Spn.zero).off := by rw [hs]
      have hs2 : s.len = v.len := by rw [hs]
      rw [← hs1, ← hs2]
      have HW5 : Hid _ := HW1.out.next F5 C5 e5
      have HW6 : Hid _ := HW5.out.put hlt s
      rw [HSPI.out s rfl] at HW6
      obtain ⟨d0, d1⟩ := HW5.out.pa.at_ i hlt
      have df := HW5.out.pa.free
      generalize hqq : (plUp vs (plTo vs outs n2) n2 i).getD i Spn.zero = qq at d0 d1
      have hi1 : (0 : Int) ≤ (i : Int) := by omega
      have hi2 : (i : Int) < (n2 : Int) := by omega
      have HP3 : Hid (PlI vs (plTo vs outs n2) (takeL l k v.len) (heldQ vs outs n2 i 0)) := HP2.out.congr (heldQ_start vs outs n2 i)
      generalize takeL l k v.len = l2 at HW5 HW6 HP3
      clear HW1 HTK F5 C5 e5 HP2 HSPI HKW hqq hs hs1 hs2
      go_upto_region 8 with fail
      clear d0 d1 df
      obtain ⟨a, c, cD4, hIS4⟩ := HD4.out.2 i hlt
      have HIS : Hid _ := hIS4
      have hD4 := HD4.out.1
      have cD : (put2p w5 G (i * 2) s).cell? ⟨D, i, none⟩ = some (.slice a (doneL vs outs n2 i).length c) := by
        rw [HW6.out.ch.cell (p := ⟨D, i, none⟩) hD4 (by have := HZ4.out; show ¬ (D = R ∨ D = g0 ∨ D = G ∨ w4.heap.size ≤ D); omega)]; exact cD4
      have hml := doneL_len vs outs n2 i
      have HIT : Hid (∀ q, q < (doneL vs outs n2 i).length → ∃ j0 : Nat, (doneL vs outs n2 i).getD q 0 = (j0 : Int) ∧ j0 ≤ i ∧ heldQ vs outs n2 i q j0) := fun q hq => heldQ_it hq
      have HNX : Hid (∀ q j0, q < (doneL vs outs n2 i).length → (doneL vs outs n2 i).getD q 0 = ((j0 : Nat) : Int) → ∀ j, (heldQ vs outs n2 i q j ∧ j ≠ j0) ↔ heldQ vs outs n2 i (q + 1) j) := fun q j0 hq e j => heldQ_next hq e j
      have HEN : Hid (∀ j, heldQ vs outs n2 i (doneL vs outs n2 i).length j ↔ (j < i + 1 ∧ ((i + 1 : Nat) : Int) ≤ lastM vs outs j)) := fun j => heldQ_end HLL.out hlt j
      obtain ⟨m, hm⟩ : ∃ m, m = (doneL vs outs n2 i).length := ⟨_, rfl⟩
      rw [← hm] at HIS cD hml HIT HNX HEN
      clear hm cD4 hIS4 hD4
      unfold put2p at HW6 cD
      generalize (w5.setCell ⟨G, i * 2, none⟩ (.int .i64 s.off)).setCell ⟨G, i * 2 + 1, none⟩ (.int .i64 s.len) = w6 at HW6 cD ⊢
      clear HW5
      go_wp2_with fail
      clear cD
      go_loopw [37] (fun x W => ∃ (q g cap : Nat) (l : List Spn), q ≤ m ∧ x = .int .i64 q ∧ Hid (PW W w4 R g0 G g cap l n2 (plUp vs (plTo vs outs n2) n2 (i + 1))) ∧ Hid (PlI vs (plTo vs outs n2) l (heldQ vs outs n2 i q))) (fun x _ => m - (intOf x).toNat)
      case atStart => exact ⟨0, g', cap', l2, Nat.zero_le _, rfl, HW6, HP3⟩
      case round =>
        obtain ⟨q, g, cap, l, hq, rfl, hW, hP⟩ := hrel
        clear HW6 HP3
        by_cases hqm : q < m
        · rcases (HIS.out.keepC hW.out.ch (fun b h1 h2 => by have := HZ4.out; omega)).at_ with z | ⟨gd, od, rfl, _, _, _, z4⟩
          · omega
          have cq := z4 q hqm
          obtain ⟨j0, hj0, hji, hheld⟩ := HIT.out q hqm
          rw [hj0] at cq
          obtain ⟨e0, e1⟩ := hW.out.pa.at_ j0 (by omega)
          rw [plUp_at vs _ (show j0 < n2 by omega), if_pos (show j0 < i + 1 by omega)] at e0 e1
          have hin := HSP.out j0 (by omega)
          have HRR : Hid (∀ l' i', l' = relF (l.take i') (spanOf vs (plTo vs outs n2) j0) (l.drop i') → LbS l (spanOf vs (plTo vs outs n2) j0).off i' → PlI vs (plTo vs outs n2) l' (heldQ vs outs n2 i (q + 1))) := fun l' i' el lb => by
            rw [el]
            have hf := hP.out
            rw [← List.take_append_drop i' l] at hf
            exact (pl_rel hf hheld rfl hin.2 hin.1.1 hin.1.2.2 (lbs_take lb) (lbs_drop lb)).congr (HNX.out q j0 hqm hj0)
          have HRL : Hid _ := releaseS wr R g cap l (spanOf vs (plTo vs outs n2) j0) hW.out.fr hP.out.fl.runs (by have := hP.out.few; omega) hP.out.inb hin.1
          generalize spanOf vs (plTo vs outs n2) j0 = x at e0 e1 HRR HRL
          have hj1 : (0 : Int) ≤ (j0 : Int) := by omega
          have hj2 : (j0 : Int) < (n2 : Int) := by omega
          have HWW : Hid _ := hW.out
          clear z4 hj0 hheld hin hW hP
          go_wp2_with fail
          refine Calls.mono HRL.out ?_
          rintro e w7 ⟨i', g', cap', rfl, lb, F7, C7, e7⟩
          have HR1 : Hid _ := HWW.out.next F7 C7 e7
          have HR2 : Hid _ := HRR.out _ i' rfl lb
          clear F7 C7 e7 lb HRL HRR HWW
          go_wp2_with fail
          go_roundw
          case rel => exact ⟨q + 1, g', cap', _, by omega, by go_num, HR1, HR2⟩
          case measure => simp [intOf]; omega
        · obtain rfl : q = m := by omega
          have HR2 : Hid (PlI vs (plTo vs outs n2) l (fun j => j < i + 1 ∧ ((i + 1 : Nat) : Int) ≤ lastM vs outs j)) := hP.out.congr HEN.out
          clear hP
          go_wp2_with fail
          go_roundw
          case rel => exact ⟨i + 1, g, cap, l, by omega, by go_num, hW, HR2⟩
          case measure => simp [intOf]; omega
    · obtain rfl : i = n2 := by omega
      have HW9 : Hid _ := hW.out
      clear hW hP
      go_wp2_with fail
      go_ret
      unfold PsO
      exact ⟨G, rfl, HW9.out.pa, by have := HZ4.out; have := HZ.out; omega, HK.out.trans HKW.out⟩
end Go.Proofs.Ytdkjdlimcnddkaa
