import Derived.Test.YtdkjdlimcnddkaaL06
import Derived.Deep.RegionWith
namespace Go.Proofs.Ytdkjdlimcnddkaa
open Go.RowKit Flt
attribute [local go_sem] alloc_drewN setCell_drewN run_store_float

theorem fb_canon : fb 9221120237041090560 = 9221120237041090560 := by
  have := fb_nan (s := false) (r := 9221120237041090560) (by decide) (by decide)
  exact this
theorem fb_fb (x : Nat) : fb (fb x) = fb x := by
  by_cases h : (FloatKind.f64.format.order x x != some .eq) = true
  · have e : fb x = 9221120237041090560 := by unfold fb; rw [if_pos h]
    rw [e, fb_canon]
  · have e : fb x = x := by unfold fb; rw [if_neg h]
    rw [e, e]
theorem nk_zero : nk Ste.zero = Ste.zero := by
  unfold nk Ste.zero
  simp only
  rw [fb_zero]
theorem getD_nk (ss : List Ste) (i : Nat) : (ss.map nk).getD i Ste.zero = nk (ss.getD i Ste.zero) := by
  rw [List.getD_eq_getElem?_getD, List.getElem?_map, List.getD_eq_getElem?_getD]
  cases ss[i]? with
  | none => exact nk_zero.symm
  | some s => rfl
theorem wrote_nk (ss : List Ste) (n : Nat) (c : Int) : wroteB (ss.map nk) n c = wroteB ss n c := by
  unfold wroteB
  rw [← List.map_take, List.any_map]
  rfl
theorem hold_nk (ss : List Ste) (n : Nat) (peak off len : Int) : holdB (ss.map nk) n peak off len = holdB ss n peak off len := by
  unfold holdB
  simp only [wrote_nk]
theorem step_nk (ins : List Int) (ss : List Ste) (peak : Int) (i : Nat) : stepB ins (ss.map nk) peak i = stepB ins ss peak i := by
  unfold stepB
  rw [getD_nk]
  have e1 : formB ins (nk (ss.getD i Ste.zero)) = formB ins (ss.getD i Ste.zero) := rfl
  have e2 : spansOf (nk (ss.getD i Ste.zero)) = spansOf (ss.getD i Ste.zero) := rfl
  have e3 : takeB (ss.map nk) i peak (nk (ss.getD i Ste.zero)) = takeB ss i peak (ss.getD i Ste.zero) := by
    funext p
    unfold takeB
    rw [hold_nk]
    rfl
  rw [e1, e2, e3]
  rfl
theorem ver_nk (ins : List Int) (ss : List Ste) (os : List Spn) (pk : Int) : verM ins (ss.map nk) os pk = verM ins ss os pk := by
  unfold verM
  have e : ∀ l : List Nat, l.all (stepB ins (ss.map nk) pk) = l.all (stepB ins ss pk) := fun l => by
    congr 1
    funext i
    exact step_nk ins ss pk i
  have e2 : outB (ss.map nk) pk = outB ss pk := by
    funext p
    unfold outB
    rw [hold_nk, List.length_map]
  rw [e, e2, List.length_map]
theorem ver_like {ins : List Int} {ss ss' : List Ste} {os : List Spn} {pk : Int} (h : ss.map nk = ss'.map nk) : verM ins ss os pk = verM ins ss' os pk := by rw [← ver_nk ins ss, h, ver_nk]
theorem steB_nk (s : Ste) : steB (nk s) = steB s := by
  unfold steB
  show [s.op] ++ (fieldsOf s).flatMap cntB ++ (if s.op = 1 then bytesN (fb (fb s.k)) 8 else []) = _
  rw [fb_fb]
theorem save_like {ins : List Int} {ss ss' : List Ste} {os : List Spn} {pk : Int} (h : ss.map nk = ss'.map nk) : saveM ins ss os pk = saveM ins ss' os pk := by
  have e : ∀ l : List Ste, l.flatMap steB = (l.map nk).flatMap steB := fun l => by
    rw [List.flatMap_map]
    congr 1
    funext s
    exact (steB_nk s).symm
  have hl : ss.length = ss'.length := by rw [← List.length_map nk, h, List.length_map]
  unfold saveM
  rw [e ss, e ss', h, hl]
theorem load_eq {bs : List Int} {ss : List Ste} (hfit : fitL bs = true) (h : ss.map nk = (ssL bs).map nk) : loadB bs = (verM (insL bs) ss (osL bs) (pkL bs) && (saveM (insL bs) ss (osL bs) (pkL bs) == bs)) := by
  unfold loadB savM
  rw [hfit, Bool.true_and, ver_like h, save_like h]
  have hl : 4 ≤ bs.length := by
    have h4 : p4L bs + 2 ≤ bs.length := of_decide_eq_true hfit
    have := p3L_le bs
    unfold p4L at h4
    unfold p1L at this
    omega
  cases hv : verM (insL bs) (ssL bs) (osL bs) (pkL bs)
  · rw [if_neg (by simp), Bool.false_and]
    rw [beq_eq_false_iff_ne]
    intro e
    rw [← e] at hl
    simp at hl
  · rw [if_pos rfl, Bool.true_and]
set_option maxRecDepth 100000 in
set_option maxHeartbeats 8000000 in
theorem specLoad (w : World) (a : Option Addr) (n c : Nat) (bs : List Int) (f : YS w a n bs) (hn : n ≤ 1048576) :
    Calls Try.prog 26 #[.slice a n c] w fun e w' => LDo w bs e w' := by
  have HB : Hid (Bts bs) := f.lt
  have ka := kept_alloc 0 0 w cbox0
  have HLL : Hid _ := l6load (w.alloc cbox0) a n c bs (f.keep ka) hn
  have HA : Hid _ := kb_start w
  have HYS : Hid _ := f
  have HK : Hid _ := ka
  have HZ : Hid ((w.alloc cbox0).heap.size = w.heap.size + 1) := by show _ = _; simp
  clear f ka
  go_enter Try.func26, Try.ntmps26
  go_wp2_with fail
  generalize w.alloc cbox0 = w1 at HLL HA HK HZ ⊢
  refine Calls.mono HLL.out ?_
  rintro e w2 ⟨hno, hyes, k2⟩
  have HA2 : Hid _ := HA.out.keep k2
  have HK2 : Hid _ := HK.out.trans k2
  cases hfit : fitL bs
  · obtain ⟨a1, m1, d1, a2, m2, d2, a3, m3, d3, pk, rfl⟩ := hno hfit
    have HLD : Hid (loadB bs = false) := by show _ = _; unfold loadB; rw [hfit]; rfl
    clear hno hyes hfit k2 HLL HA HK
    have kc := kept_alloc 0 0 w2 (cbox a1 m1 d1 a2 m2 d2 a3 m3 d3 pk)
    have HA3 : Hid _ := HA2.out.keep kc
    have HC3 : Hid _ := c0_start w2 (.slice a1 m1 d1) (.slice a2 m2 d2) (.slice a3 m3 d3) (.int .i64 pk)
    have HK3 : Hid _ := HK2.out.trans kc
    clear kc HA2 HK2
    go_upto_region 2 with fail
    generalize w2.alloc (cbox a1 m1 d1 a2 m2 d2 a3 m3 d3 pk) = w3 at HA3 HC3 HK3 ⊢
    first | (go_region_with (fail)) | fail
    all_goals
      have HA4 : Hid _ := HA3.out.keep (kept_drew w3)
      have HK4 : Hid _ := HK3.out.trans (kept_drew w3)
      clear HA3 HK3 HC3
      generalize w3.drew = w4 at HA4 HK4 ⊢
      obtain ⟨_, r0, r1, r2, r3, g0, g1, g2, g3⟩ := HA4.out
      go_wp2_with fail
      obtain ⟨y0, y1, y2, y3⟩ := put4_0 w4 w.heap.size _ _ _ _ r0 r1 r2 r3 (.slice none 0 0) (.slice none 0 0) (.slice none 0 0) (.int .i64 0)
      have kp := put4_kept w4 w.heap.size (.slice none 0 0) (.slice none 0 0) (.slice none 0 0) (.int .i64 0)
      refine bodyPost_ret (v := .tuple #[cnl, .int .i64 1]) (by simp [results, Try.results26, go_sem, y0, y1, y2, y3]) rfl ⟨fun _ => rfl, fun h => ?_, HK4.out.new kp (by omega)⟩
      rw [HLD.out] at h; cases h
  · obtain ⟨a1, d1, a2, d2, a3, d3, ss, rfl, hlike, hO⟩ := hyes hfit
    have HLB : Hid _ := load_eq hfit hlike
    have HLK : Hid _ := hlike
    have hl1 : (insL bs).length = n1L bs := cntsAt_len _ _ _
    have hl2 : ss.length = n2L bs := by rw [← List.length_map nk, hlike, List.length_map]; exact stesAt_len _ _ _
    have hl3 : (osL bs).length = n3L bs := spnsAt_len _ _ _
    obtain ⟨m1, hm1⟩ : ∃ m, m = n1L bs := ⟨_, rfl⟩
    obtain ⟨m2, hm2⟩ : ∃ m, m = n2L bs := ⟨_, rfl⟩
    obtain ⟨m3, hm3⟩ : ∃ m, m = n3L bs := ⟨_, rfl⟩
    obtain ⟨pk, hpk⟩ : ∃ p, p = pkL bs := ⟨_, rfl⟩
    rw [← hm1, ← hm2, ← hm3] at hO
    rw [← hm1] at hl1
    rw [← hm2] at hl2
    rw [← hm3] at hl3
    rw [← hpk] at HLB
    rw [← hm1, ← hm2, ← hm3, ← hpk]
    have HMM : Hid (m1 = n1L bs ∧ m2 = n2L bs ∧ m3 = n3L bs ∧ pk = pkL bs) := ⟨hm1, hm2, hm3, hpk⟩
    have kc := kept_alloc 0 0 w2 (cbox a1 m1 d1 a2 m2 d2 a3 m3 d3 pk)
    have HA3 : Hid _ := HA2.out.keep kc
    have HC3 : Hid _ := c0_start w2 (.slice a1 m1 d1) (.slice a2 m2 d2) (.slice a3 m3 d3) (.int .i64 pk)
    have HK3 : Hid _ := HK2.out.trans kc
    have HO3 : Hid _ := hO.keep kc
    have HCS3 : Hid _ := (hO.keep kc).cs hl1 hl2 hl3
    have HW1 : Hid (w.heap.size < w1.heap.size ∧ w1.heap.size ≤ w2.heap.size) := ⟨by have := HZ.out; omega, k2.size⟩
    clear hno hyes hfit k2 HLL HA HK kc HA2 HK2 hO hlike hl1 hl2 hl3 hm1 hm2 hm3 hpk
    go_upto_region 2 with fail
    generalize w2.alloc (cbox a1 m1 d1 a2 m2 d2 a3 m3 d3 pk) = w3 at HA3 HC3 HK3 HO3 HCS3 ⊢
    generalize w2.heap.size = C at HC3 HW1 ⊢
    have HV : Hid (∀ W, Kept 0 0 w3 W → _) := fun W k => specVer W a1 a2 a3 m1 d1 m2 d2 m3 d3 pk (insL bs) ss (osL bs) (HCS3.out.keep k)
    cases hver : verM (insL bs) ss (osL bs) pk
    · have HLD : Hid (loadB bs = false) := by show _ = _; rw [HLB.out, hver]; rfl
      rw [hver] at HV
      clear hver HLB
      obtain ⟨_, q0, q1, q2, q3⟩ := HC3.out
      first | (go_region_with (first | (go_at_call 60; refine Calls.mono (HV.out _ (kept_drew w3)) ?_; rintro e w4 ⟨rfl, k4⟩))) | fail
      all_goals
        have HA4 : Hid _ := HA3.out.keep ((kept_drew w3).trans k4)
        have HK4 : Hid _ := HK3.out.trans ((kept_drew w3).trans k4)
        clear HA3 HK3 HC3 q0 q1 q2 q3 k4
        obtain ⟨_, r0, r1, r2, r3, g0, g1, g2, g3⟩ := HA4.out
        go_wp2_with fail
        obtain ⟨y0, y1, y2, y3⟩ := put4_0 w4 w.heap.size _ _ _ _ r0 r1 r2 r3 (.slice none 0 0) (.slice none 0 0) (.slice none 0 0) (.int .i64 0)
        have kp := put4_kept w4 w.heap.size (.slice none 0 0) (.slice none 0 0) (.slice none 0 0) (.int .i64 0)
        refine bodyPost_ret (v := .tuple #[cnl, .int .i64 1]) (by simp [results, Try.results26, go_sem, y0, y1, y2, y3]) rfl ⟨fun _ => rfl, fun h => ?_, HK4.out.new kp (by omega)⟩
        rw [HLD.out] at h; cases h
    · have hsv := svOK_of hver
      have HSV : Hid (∀ W, Kept 0 0 w3 W → _) := fun W k => l6save W a1 a2 a3 m1 d1 m2 d2 m3 d3 pk (insL bs) ss (osL bs) (HCS3.out.keep k) hsv
      have HSL : Hid _ := save_lt hsv
      rw [hver, Bool.true_and] at HLB
      rw [hver] at HV
      have hlen : (saveM (insL bs) ss (osL bs) pk).length = (saveM (insL bs) ss (osL bs) pk).length := rfl
      generalize saveM (insL bs) ss (osL bs) pk = sb at HSV HSL HLB
      have HSI : Hid _ := str_inj (xs := sb) (ys := bs) HSL.out HB.out
      have HYA : Hid (∀ W, Kept 0 0 w3 W → (convert 50 9 (.slice a n c)).run Try.prog W = .ok (.string (strOfNums bs)) W) := fun W k => convY (HYS.out.keep (HK3.out.trans k))
      clear hver hsv hlen
      obtain ⟨_, q0, q1, q2, q3⟩ := HC3.out
      first | (go_region_with (first | (go_at_call 60; refine Calls.mono (HV.out _ (kept_drew w3)) ?_; rintro e w4 ⟨rfl, k4⟩; have cv4 := HYA.out w4 ((kept_drew w3).trans k4); obtain ⟨_, p0, p1, p2, p3⟩ := HC3.out.keep ((kept_drew w3).trans k4)) | (go_at_call 61; refine Calls.mono (HSV.out w4 ((kept_drew w3).trans k4)) ?_; rintro e w5 ⟨v5, rfl, b5, k5⟩; obtain ⟨gy, ay, cy, rfl, yz5, _⟩ := b5.yz; have cv5 := convY (c := cy) (yz5.ys HSL.out); have cw5 := HYA.out w5 (((kept_drew w3).trans k4).trans k5)))) | fail
      all_goals
        have kk : Kept 0 0 w3 w5 := ((kept_drew w3).trans k4).trans k5
        have HA5 : Hid _ := HA3.out.keep kk
        have HK5 : Hid _ := HK3.out.trans kk
        have HC5 : Hid _ := HC3.out.keep kk
        have HO5 : Hid _ := HO3.out.keep kk
        clear kk k4 k5 b5 yz5 cv4 cv5 cw5 q0 q1 q2 q3 p0 p1 p2 p3 HA3 HK3 HC3 HO3 HV HSV HYA HCS3
        obtain ⟨_, r0, r1, r2, r3, g0, g1, g2, g3⟩ := HA5.out
        obtain ⟨_, q0, q1, q2, q3⟩ := HC5.out
        generalize sb.length = sbl
        cases hq : (sb == bs)
        · have HLD : Hid (loadB bs = false) := by show _ = _; rw [HLB.out, hq]
          have hs := HSI.out
          rw [hq] at hs
          have hs2 : (!((strOfNums sb).toList == (strOfNums bs).toList)) = true := by rw [hs]; rfl
          clear hq HLB HSI
          generalize strOfNums sb = sx at hs hs2 ⊢
          generalize strOfNums bs = sy at hs hs2 ⊢
          go_wp2_with fail
          all_goals first
            | (exfalso; rename_i hx; rw [hs2] at hx; cases hx; done)
            | (obtain ⟨y0, y1, y2, y3⟩ := put4_0 w5 w.heap.size _ _ _ _ r0 r1 r2 r3 (.slice none 0 0) (.slice none 0 0) (.slice none 0 0) (.int .i64 0)
               have kp := put4_kept w5 w.heap.size (.slice none 0 0) (.slice none 0 0) (.slice none 0 0) (.int .i64 0)
               refine bodyPost_ret (v := .tuple #[cnl, .int .i64 1]) (by simp [results, Try.results26, go_sem, y0, y1, y2, y3]) rfl ⟨fun _ => rfl, fun h => ?_, HK5.out.new kp (by omega)⟩
               rw [HLD.out] at h; cases h)
        · have HLD : Hid (loadB bs = true) := by show _ = _; rw [HLB.out, hq]
          have hs := HSI.out
          rw [hq] at hs
          have hs2 : (!((strOfNums sb).toList == (strOfNums bs).toList)) = false := by rw [hs]; rfl
          clear hq HLB HSI
          generalize strOfNums sb = sx at hs hs2 ⊢
          generalize strOfNums bs = sy at hs hs2 ⊢
          go_wp2_with fail
          all_goals first
            | (exfalso; rename_i hx; rw [hs2] at hx; cases hx; done)
            | (obtain ⟨y0, y1, y2, y3⟩ := put4_0 w5 w.heap.size _ _ _ _ r0 r1 r2 r3 (.slice a1 m1 d1) (.slice a2 m2 d2) (.slice a3 m3 d3) (.int .i64 pk)
               have kp := put4_kept w5 w.heap.size (.slice a1 m1 d1) (.slice a2 m2 d2) (.slice a3 m3 d3) (.int .i64 pk)
               refine bodyPost_ret (v := .tuple #[cagg a1 m1 d1 a2 m2 d2 a3 m3 d3 pk, .int .i64 0]) (by simp [results, Try.results26, go_sem, y0, y1, y2, y3]) rfl ⟨fun h => ?_, fun _ => ⟨a1, d1, a2, d2, a3, d3, ss, ?_, HLK.out, ?_⟩, HK5.out.new kp (by omega)⟩
               · rw [HLD.out] at h; cases h
               · rw [← HMM.out.1, ← HMM.out.2.1, ← HMM.out.2.2.1, ← HMM.out.2.2.2]
               · rw [← HMM.out.1, ← HMM.out.2.1, ← HMM.out.2.2.1]
                 exact (HO5.out.keepC (kp.chg1 (S := fun b => b = w.heap.size) rfl) (fun g hg _ e => by have := HW1.out; omega)).mono (by have := HW1.out; omega))
end Go.Proofs.Ytdkjdlimcnddkaa
