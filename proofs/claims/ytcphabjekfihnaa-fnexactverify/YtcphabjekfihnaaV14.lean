import Derived.Test.YtcphabjekfihnaaV13
namespace Go.Proofs.Ytcphabjekfihnaa
open Go.RowKit Flt
attribute [local go_sem] alloc_drewN setCell_drewN run_store_float

theorem infoB : (Try.prog.info? 4).map (fun i => (i.zero, i.size, i.bytes)) = some (some (.bool false), 1, 1) := by kernel_rfl
theorem make_bV (n : Nat) (w : World) (hn : n ≤ 1099511627776) :
    (Instr.makeSlice 147 (.int .i64 (n : Int)) (.int .i64 (n : Int))).run Try.prog w = .ok (.slice (some ⟨w.heap.size, 0, none⟩) n n) (w.alloc (.cells (madeCells #[.bool false] n) 4)) := by
  obtain ⟨i, hi, hz0, hz1, hz2⟩ := info_parts infoB
  have := run_make (P := Try.prog) w 147 4 i (.bool false) Try.underlying147 hi hz0 .i64 .i64 n n (by omega) (by omega) (by rw [hz2]; omega) (by omega)
  rw [hz1, Nat.mul_one, Int.toNat_natCast] at this
  exact this
theorem BL.made (w : World) (n : Nat) : BL (w.alloc (.cells (madeCells #[.bool false] n) 4)) w.heap.size n (fun _ => false) := by
  refine ⟨by simp, fun k hk => ?_, fun o => by simp⟩
  rw [World.cell?_alloc_new]
  simp only [madeCells]
  rw [Array.getElem?_map, Array.getElem?_range, if_pos hk]
  simp [Nat.mod_one]
theorem after_all {ss : List Ste} {k : Nat} (h : k < ss.length) (j : Nat) : afterB ss k (ss.getD k Ste.zero) ((ss.getD k Ste.zero).dst + (ss.getD k Ste.zero).len) j = wroteB ss (k + 1) (j : Nat) := by
  rw [wrote_succ h]; rfl
theorem step_fol {ins : List Int} {ss : List Ste} {n k : Nat} : stepB ins ss (n : Int) k = (formB ins (ss.getD k Ste.zero) && folB ss k n (ss.getD k Ste.zero)) := rfl
theorem span_getD {ins : List Int} {s : Ste} (h : formB ins s = true) : ∀ q, q < cnt s.op → 1 ≤ ((spansOf s).getD q Spn.zero).len ∧ ((spansOf s).getD q Spn.zero).len ≤ 1000 := fun q hq => by
  have hq' : q < (spansOf s).length := by rw [spans_len]; exact hq
  rw [List.getD_eq_getElem?_getD, List.getElem?_eq_getElem hq']
  exact spans_lens h (List.getElem_mem _)
theorem ver_limP {ins : List Int} {ss : List Ste} {os : List Spn} {pk : Int} (h : limC ins ss.length os.length pk = false) : verM ins ss os pk = false := by
  unfold verM; rw [h]; rfl
theorem ver_stepP {ins : List Int} {ss : List Ste} {os : List Spn} {pk : Int} {i : Nat} (hi : i < ss.length) (h : stepB ins ss pk i = false) : verM ins ss os pk = false := by
  unfold verM; rw [range_bad hi h]; simp
theorem all_badP {os : List Spn} {q : Spn → Bool} {k : Nat} (hk : k < os.length) (t : q (os.getD k Spn.zero) = false) : os.all q = false := by
  rw [List.all_eq_false]
  rw [List.getD_eq_getElem?_getD, List.getElem?_eq_getElem hk] at t
  exact ⟨os[k], List.getElem_mem _, by simpa using t⟩
theorem all_snocP {os : List Spn} {q : Spn → Bool} {k : Nat} (hk : k < os.length) (h : (os.take k).all q = true) (t : q (os.getD k Spn.zero) = true) : (os.take (k + 1)).all q = true := by
  rw [List.take_succ_eq_append_getElem hk, List.all_append, h]
  rw [List.getD_eq_getElem?_getD, List.getElem?_eq_getElem hk] at t
  simpa using t
theorem ver_outP {ins : List Int} {ss : List Ste} {os : List Spn} {pk : Int} {i : Nat} (hi : i < os.length) (h : outB ss pk (os.getD i Spn.zero) = false) : verM ins ss os pk = false := by
  unfold verM; rw [all_badP hi h]; simp

/-- opStepOf and follow, one behind the other. -/
theorem followS (w : World) (g n cap : Nat) (ins : List Int) (ss : List Ste) (i : Nat) (s : Ste) (hn : n ≤ 50000) (hcap : n ≤ cap) (f : BL w g n (fun k => wroteB ss i (k : Nat))) (hf : formB ins s = true) (v : Value)
    (hv : (s.op = 0 ∧ v = .iface 188 (inAgg s)) ∨ ∃ G, G ≠ g ∧ v = .iface 190 (kAgg s G (cnt s.op)) ∧ SB w G (cnt s.op) (spansOf s)) :
    Calls Try.prog 137 #[.slice (some ⟨g, 0, none⟩) n cap, v] w fun e w' => e = .returned (.bool (folB ss i n s)) ∧ Kept g (g + 1) w w' ∧ (folB ss i n s = true → BL w' g n (afterB ss i s (s.dst + s.len))) := by
  have hl := form_len hf
  rcases hv with ⟨h0, rfl⟩ | ⟨G, hG, rfl, hS⟩
  · exact follow_in w g n cap ss i s hn hcap f hl.1 hl.2 (span_getD hf) h0
  · exact follow_k w g n cap ss i s hn hcap f hl.1 hl.2 (span_getD hf) G hS hG
theorem opStepS (w : World) (s : Ste) :
    Calls Try.prog 138 #[s.agg] w fun e w' => ∃ v, e = .returned v ∧ ((s.op = 0 ∧ v = .iface 188 (inAgg s)) ∨ ∃ G, w.heap.size ≤ G ∧ v = .iface 190 (kAgg s G (cnt s.op)) ∧ SB w' G (cnt s.op) (spansOf s)) ∧ Kept 0 0 w w' := by
  by_cases h : s.op = 0
  · exact (opStep_in w s h).mono fun e w' hh => ⟨_, hh.1, .inl ⟨h, rfl⟩, hh.2⟩
  · exact (opStep_k w s h).mono fun e w' ⟨G, h1, h2, h3, h4⟩ => ⟨_, h1, .inr ⟨G, h3, rfl, h2⟩, h4⟩

set_option maxRecDepth 100000 in
set_option maxHeartbeats 16000000 in
theorem implVer (w : World) (a1 a2 a3 : Option Addr) (n1 c1 n2 c2 n3 c3 : Nat) (pk : Int) (ins : List Int) (ss : List Ste) (os : List Spn) (f : CS w a1 n1 a2 n2 a3 n3 ins ss os) :
    Calls Try.prog 58 #[cagg a1 n1 c1 a2 n2 c2 a3 n3 c3 pk] w fun e w' => e = .returned (.bool (verM ins ss os pk)) ∧ Kept 0 0 w w' := by
  have hK := kept_alloc 0 0 w (cbox a1 n1 c1 a2 n2 c2 a3 n3 c3 pk)
  have f' := f.keep hK
  have HX : Hid _ := keepLim (w.alloc (cbox a1 n1 c1 a2 n2 c2 a3 n3 c3 pk)) _ _ a1 a2 a3 n1 c1 n2 c2 n3 c3 pk ins f'.i
  have HN : Hid (ss.length = n2 ∧ os.length = n3 ∧ ins.length = n1) := ⟨f.s.len, f.o.len, f.i.len⟩
  have HF : Hid _ := f'
  have HB : Hid _ := c0_start w (.slice a1 n1 c1) (.slice a2 n2 c2) (.slice a3 n3 c3) (.int .i64 pk)
  have HK : Hid _ := hK
  clear hK f f'
  cases h : limC ins n2 n3 pk
  · have R : Hid (verM ins ss os pk = false) := ver_limP (by rw [HN.out.1, HN.out.2.1]; exact h)
    rw [h] at HX
    go_enter Try.func58, Try.ntmps58
    go_wp2_with fail
    refine Calls.mono HX.out ?_
    rintro e w2 ⟨rfl, hk2⟩
    go_wp2
    go_ret
    exact ⟨by rw [R.out]; rfl, Kept.trans HK.out hk2⟩
  have HM : Hid (limC ins ss.length os.length pk = true) := by rw [HN.out.1, HN.out.2.1]; exact h
  rw [h] at HX
  unfold limC at h
  rw [HN.out.2.2] at h
  simp only [Bool.and_eq_true, decide_eq_true_eq] at h
  obtain ⟨⟨⟨⟨l1, l2⟩, l3⟩, _⟩, p0, p1⟩ := h
  obtain ⟨N, rfl⟩ := Int.eq_ofNat_of_zero_le p0
  go_enter Try.func58, Try.ntmps58
  go_wp2_with fail
  refine Calls.mono HX.out ?_
  rintro e w2 ⟨rfl, hk2⟩
  replace HF : Hid _ := HF.out.keep hk2
  replace HB : Hid _ := HB.out.keep hk2
  replace HK : Hid _ := Kept.trans HK.out hk2
  have hm := make_bV N w2 (by omega)
  have ka := kept_alloc 0 0 w2 (.cells (madeCells #[.bool false] N) 4)
  have HW : Hid (BL (w2.alloc (.cells (madeCells #[.bool false] N) 4)) w2.heap.size N (fun k => wroteB ss 0 (k : Nat))) := BL.congr (BL.made w2 N) (fun k _ => (wrote_zero ss _).symm)
  have HG : Hid (w.heap.size < w2.heap.size) := HB.out.sz
  have HI3 : Hid (IS (w2.alloc (.cells (madeCells #[.bool false] N) 4)) 0 w2.heap.size a1 n1 ins) := HF.out.i.keep ka (.inr (.inr (Nat.le_refl _)))
  have HT3 : Hid (TS (w2.alloc (.cells (madeCells #[.bool false] N) 4)) 0 w2.heap.size a2 n2 ss) := HF.out.s.keep ka (.inr (.inr (Nat.le_refl _)))
  have HO3 : Hid (PS (w2.alloc (.cells (madeCells #[.bool false] N) 4)) 0 w2.heap.size a3 n3 os) := HF.out.o.keep ka (.inr (.inr (Nat.le_refl _)))
  clear hk2 HX HF
  obtain ⟨_, q0, q1, q2, q3⟩ := HB.out
  replace HB : Hid _ := HB.out.keep ka
  obtain ⟨_, r0, r1, r2, r3⟩ := HB.out
  replace HK : Hid _ := Kept.trans HK.out ka
  have HG2 : Hid (w2.heap.size < (w2.alloc (.cells (madeCells #[.bool false] N) 4)).heap.size) := by show _ < _; simp
  generalize hg9 : w2.heap.size = g at hm HW HG HG2 HI3 HT3 HO3
  generalize w2.alloc (.cells (madeCells #[.bool false] N) 4) = w3 at hm HB HK HW HG2 HI3 HT3 HO3 r0 r1 r2 r3
  clear ka hg9
  go_wp2_with fail
  clear q0 q1 q2 q3 r0 r1 r2 r3 hm
  go_loopw [17] (fun x W => ∃ k : Nat, k ≤ n2 ∧ x = .int .i64 k ∧ Hid ((List.range k).all (stepB ins ss (N : Int)) = true) ∧ Hid (BL W g N (fun j => wroteB ss k (j : Nat))) ∧ Hid (Kept g (g + 1) w3 W)) (fun x _ => n2 - (intOf x).toNat)
  case atStart => exact ⟨0, Nat.zero_le _, rfl, rfl, HW, Kept.refl _ _ _⟩
  case round =>
    obtain ⟨k, hk, rfl, hA, hBL, hV⟩ := hrel
    clear HW
    obtain ⟨_, q0, q1, q2, q3⟩ := HB.out.keepR hV.out (.inl HG.out)
    by_cases hlt : k < n2
    · rcases (HT3.out.keep hV.out (.inl (Nat.le_refl _))).at_ with z0 | ⟨ga, oa, ea, z1, z2, z3, z4⟩
      · omega
      have hat := z4 k hlt
      have HS0 : Hid (stepB ins ss (N : Int) k = (formB ins (ss.getD k Ste.zero) && folB ss k N (ss.getD k Ste.zero))) := step_fol
      have HAF : Hid (∀ j, afterB ss k (ss.getD k Ste.zero) ((ss.getD k Ste.zero).dst + (ss.getD k Ste.zero).len) j = wroteB ss (k + 1) (j : Nat)) := fun j => after_all (by rw [HN.out.1]; exact hlt) j
      have hgw : g < wr.heap.size := Nat.lt_of_lt_of_le HG2.out hV.out.size
      generalize ss.getD k Ste.zero = s at hat HS0 HAF
      have ka := kept_alloc 0 0 wr s.box
      have HP : Hid _ := ste_box wr s
      have hP : wr.heap.size < (wr.alloc s.box).heap.size := by simp
      subst ea
      obtain ⟨d0, d1, d2, d3, d4, d5, d6, d7⟩ := hat
      clear z1 z2 z3 z4
      have HI4 : Hid _ := (HI3.out.keep hV.out (.inl (Nat.le_refl _))).keep ka (.inr (.inr (Nat.le_refl _)))
      have HBL4 : Hid _ := BL.keep hBL.out ka (.inr (.inr (Nat.le_refl _)))
      have HB4 : Hid _ := (HB.out.keepR hV.out (.inl HG.out)).keep ka
      obtain ⟨_, t0, t1, t2, t3⟩ := HB4.out
      go_wp2_with fail
      clear d0 d1 d2 d3 d4 d5 d6 d7 q0 q1 q2 q3 t0 t1 t2 t3 HB4
      generalize hP9 : wr.heap.size = P at HP hP hgw ⊢
      have HV4 : Hid (Kept g (g + 1) w3 (wr.alloc s.box)) := Kept.trans hV.out (ka.mono fun b _ c => by omega)
      generalize wr.alloc s.box = w4 at HP hP HI4 HBL4 HV4 ka ⊢
      clear hP9 ka hBL hV
      refine Calls.mono (fieldsFit w4 _ _ s a1 n1 c1 ins HI4.out) ?_
      rintro e w5 ⟨rfl, k5⟩
      have HV5 : Hid _ := Kept.trans HV4.out (k5.mono (lo' := g) (hi' := g + 1) fun b _ c => by omega)
      have HBL5 : Hid _ := BL.keep HBL4.out k5 (.inr (.inr (Nat.le_refl _)))
      have HP5 : Hid _ := AtT.keep HP.out hP k5 (.inr (.inr (Nat.le_refl _)))
      have hz5 : P < w5.heap.size := Nat.lt_of_lt_of_le hP k5.size
      clear k5 HI4 HBL4 HP HV4 hP
      simp only
      cases tf : formB ins s
      · have R : Hid (verM ins ss os (N : Int) = false) := ver_stepP (by rw [HN.out.1]; exact hlt) (by rw [HS0.out, tf]; rfl)
        have R2 : Hid _ := HK.out.new HV5.out (Nat.le_of_lt HG.out)
        go_wp2
        go_ret
        exact ⟨by rw [R.out]; rfl, R2.out⟩
      obtain ⟨d0, d1, d2, d3, d4, d5, d6, d7⟩ := HP5.out
      simp only [Nat.zero_add] at d1 d2 d3 d4 d5 d6 d7
      go_wp2_with fail
      clear d0 d1 d2 d3 d4 d5 d6 d7
      refine Calls.mono (opStepS w5 s) ?_
      rintro e w6 ⟨v, rfl, hv, k6⟩
      have HV6 : Hid _ := Kept.trans HV5.out (k6.mono (lo' := g) (hi' := g + 1) fun b _ c => by omega)
      have HBL6 : Hid _ := BL.keep HBL5.out k6 (.inr (.inr (Nat.le_refl _)))
      have HFO : Hid _ := followS w6 g N N ins ss k s (by omega) (Nat.le_refl _) HBL6.out tf v (hv.imp id fun ⟨G, h1, h2, h3⟩ => ⟨G, by omega, h2, h3⟩)
      clear k6 HV5 HBL5 HP5 hv
      go_wp2_with fail
      refine Calls.mono HFO.out ?_
      rintro e w7 ⟨rfl, k7, hb7⟩
      have HV7 : Hid _ := Kept.trans HV6.out k7
      have HB7 : Hid _ := hb7
      clear k7 HV6 HBL6 HFO hb7
      simp only
      cases to7 : folB ss k N s
      · have R : Hid (verM ins ss os (N : Int) = false) := ver_stepP (by rw [HN.out.1]; exact hlt) (by rw [HS0.out, to7, Bool.and_false])
        have R2 : Hid _ := HK.out.new HV7.out (Nat.le_of_lt HG.out)
        go_wp2
        go_ret
        exact ⟨by rw [R.out]; rfl, R2.out⟩
      · have R : Hid _ := range_snoc hA.out (show stepB ins ss (N : Int) k = true by rw [HS0.out, tf, to7]; rfl)
        have R1 : Hid (BL w7 g N (fun j => wroteB ss (k + 1) (j : Nat))) := BL.congr (HB7.out to7) (fun j _ => HAF.out j)
        go_wp2
        go_roundw
        case rel => exact ⟨k + 1, by omega, by go_num, R, R1, HV7⟩
        case measure => simp [intOf]; omega
    · have HA : Hid ((List.range n2).all (stepB ins ss (N : Int)) = true) := by
        have := hA.out
        rw [show k = n2 by omega] at this
        exact this
      have HBL1 : Hid (BL wr g N (fun j => wroteB ss ss.length (j : Nat))) := by
        have := hBL.out
        rw [show k = n2 by omega, ← HN.out.1] at this
        exact this
      clear hA hBL
      go_wp2_with fail
      clear q0 q1 q2 q3
      go_loopw [37] (fun x W => ∃ k : Nat, k ≤ n3 ∧ x = .int .i64 k ∧ Hid ((os.take k).all (outB ss (N : Int)) = true) ∧ Hid (BL W g N (fun j => wroteB ss ss.length (j : Nat))) ∧ Hid (Kept g (g + 1) w3 W)) (fun x _ => n3 - (intOf x).toNat)
      case atStart => exact ⟨0, Nat.zero_le _, rfl, rfl, HBL1, hV⟩
      case round =>
        clear HBL1 hV
        obtain ⟨j, hj, rfl, hO, hBL, hV⟩ := hrel
        by_cases hlt2 : j < n3
        · rcases (HO3.out.keep hV.out (.inl (Nat.le_refl _))).at_ with z0 | ⟨ga, oa, ea, z1, z2, z3, z4⟩
          · omega
          have hat := z4 j hlt2
          have HBAD : Hid (outB ss (N : Int) (os.getD j Spn.zero) = false → verM ins ss os (N : Int) = false) := fun h => ver_outP (by rw [HN.out.2.1]; exact hlt2) h
          have HSN : Hid (outB ss (N : Int) (os.getD j Spn.zero) = true → (os.take (j + 1)).all (outB ss (N : Int)) = true) := fun h => all_snocP (by rw [HN.out.2.1]; exact hlt2) hO.out h
          have hgw : g < wr.heap.size := Nat.lt_of_lt_of_le HG2.out hV.out.size
          generalize os.getD j Spn.zero = p at hat HBAD HSN
          have ka := kept_alloc 0 0 wr p.box
          have HP : Hid _ := spn_box wr p
          have hP : wr.heap.size < (wr.alloc p.box).heap.size := by simp
          subst ea
          obtain ⟨d0, d1⟩ := hat
          clear z1 z2 z3 z4
          have HBL4 : Hid _ := BL.keep hBL.out ka (.inr (.inr (Nat.le_refl _)))
          have HLn : Hid (∀ w, Calls Try.prog 82 #[.int .i64 p.len] w fun e w' => e = .returned (.bool (lenB p.len)) ∧ w' = w) := fun w => isLength_any p.len w
          have HV4 : Hid (Kept g (g + 1) w3 (wr.alloc p.box)) := Kept.trans hV.out (ka.mono fun b _ c => by omega)
          go_wp2_with fail
          clear d0 d1
          generalize hP9 : wr.heap.size = P at HP hP hgw ⊢
          generalize wr.alloc p.box = w4 at HP hP HBL4 HV4 ka ⊢
          clear hP9 ka hBL hV
          refine Calls.mono (HLn.out _) ?_
          rintro e w5 ⟨rfl, rfl⟩
          cases tl : lenB p.len
          · have R : Hid _ := HBAD.out (by unfold outB; rw [tl]; rfl)
            have R2 : Hid _ := HK.out.new HV4.out (Nat.le_of_lt HG.out)
            go_wp2
            go_ret
            exact ⟨by rw [R.out]; rfl, R2.out⟩
          have hl := of_decide_eq_true tl
          obtain ⟨d0, d1⟩ := HP.out
          rw [Nat.zero_add] at d1
          have HH : Hid _ := hold w5 g N N ss ss.length (by omega) (Nat.le_refl _) HBL4.out p hl.1 hl.2
          go_wp2_with fail
          refine Calls.mono HH.out ?_
          rintro e w6 ⟨rfl, k6⟩
          have HV6 : Hid _ := Kept.trans HV4.out (k6.mono (lo' := g) (hi' := g + 1) fun b _ c => by omega)
          have HBL6 : Hid _ := BL.keep HBL4.out k6 (.inr (.inr (Nat.le_refl _)))
          clear d0 d1 k6 HH HV4 HBL4 HP
          simp only
          cases th : holdB ss ss.length (N : Int) p.off p.len
          · have R : Hid _ := HBAD.out (by unfold outB; rw [th, Bool.and_false])
            have R2 : Hid _ := HK.out.new HV6.out (Nat.le_of_lt HG.out)
            go_wp2
            go_ret
            exact ⟨by rw [R.out]; rfl, R2.out⟩
          · have R : Hid _ := HSN.out (by unfold outB; rw [tl, th]; rfl)
            go_wp2
            go_roundw
            case rel => exact ⟨j + 1, by omega, by go_num, R, HBL6, HV6⟩
            case measure => simp [intOf]; omega
        · have R : Hid (verM ins ss os (N : Int) = true) := by
            show _ = _
            have := hO.out
            rw [List.take_of_length_le (by rw [HN.out.2.1]; omega)] at this
            unfold verM
            rw [HM.out, this, HN.out.1, HA.out]; rfl
          have R2 : Hid _ := HK.out.new hV.out (Nat.le_of_lt HG.out)
          go_wp2
          go_ret
          exact ⟨by rw [R.out]; rfl, R2.out⟩
end Go.Proofs.Ytcphabjekfihnaa
