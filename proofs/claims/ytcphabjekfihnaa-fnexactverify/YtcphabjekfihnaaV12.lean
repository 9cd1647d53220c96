import Derived.Test.YtcphabjekfihnaaV11
namespace Go.Proofs.Ytcphabjekfihnaa
open Go.RowKit Flt
attribute [local go_sem] alloc_drewN setCell_drewN run_store_float

set_option maxRecDepth 100000 in
set_option maxHeartbeats 2000000 in
theorem written (w : World) (p : Spn) :
    Calls Try.prog 217 #[p.agg] w fun e w' => e = .returned p.agg ∧ Kept 0 0 w w' := by
  go_enter Try.func217, Try.ntmps217
  go_wp2
  refine bodyPost_ret (v := p.agg) (by simp [results, Try.results217, go_sem]) rfl ⟨rfl, ?_⟩
  exact (kept_alloc 0 0 w _).trans (kept_alloc 0 0 _ _)
set_option maxRecDepth 100000 in
set_option maxHeartbeats 2000000 in
theorem taken_in (w : World) (s : Ste) :
    Calls Try.prog 219 #[inAgg s] w fun e w' => e = .returned (.slice none 0 0) ∧ Kept 0 0 w w' := by
  go_enter Try.func219, Try.ntmps219
  go_wp2
  go_ret
  exact ⟨rfl, kept_alloc 0 0 w _⟩
set_option maxRecDepth 100000 in
set_option maxHeartbeats 2000000 in
theorem taken_k (w : World) (s : Ste) (G n : Nat) :
    Calls Try.prog 221 #[kAgg s G n] w fun e w' => e = .returned (.slice (some ⟨G, 0, none⟩) n 3) ∧ Kept 0 0 w w' := by
  go_enter Try.func221, Try.ntmps221
  go_wp2
  go_ret
  exact ⟨rfl, kept_alloc 0 0 w _⟩
/-- The cells that have been written behind a step, up to x. -/
def afterB (ss : List Ste) (i : Nat) (s : Ste) (x : Int) (k : Nat) : Bool := wroteB ss i (k : Nat) || decide (s.dst ≤ (k : Int) ∧ (k : Int) < x)
theorem after_start (ss : List Ste) (i : Nat) (s : Ste) (k : Nat) : wroteB ss i (k : Nat) = afterB ss i s s.dst k := by
  unfold afterB
  rw [decide_eq_false (by omega), Bool.or_false]
theorem after_step (ss : List Ste) (i : Nat) (s : Ste) (x k : Nat) (h : s.dst ≤ (x : Int)) : (if k = x then true else afterB ss i s (x : Int) k) = afterB ss i s ((x : Int) + 1) k := by
  unfold afterB
  by_cases e : k = x
  · rw [if_pos e, decide_eq_true (by omega), Bool.or_true]
  · rw [if_neg e]
    congr 1
    rw [Bool.eq_iff_iff]; simp only [decide_eq_true_eq]; omega
def folB (ss : List Ste) (i : Nat) (n : Nat) (s : Ste) : Bool := withB s.dst s.len n && (spansOf s).all (takeB ss i n s)
theorem hold_offP {ss : List Ste} {n : Nat} {pk off len : Int} (h : holdB ss n pk off len = true) : 0 ≤ off ∧ off ≤ pk - len := by
  unfold holdB withB at h
  rw [Bool.and_eq_true] at h
  exact of_decide_eq_true h.1
theorem fol_bad {ss : List Ste} {i n : Nat} {s : Ste} {q : Nat} (hq : q < cnt s.op) (h : takeB ss i n s ((spansOf s).getD q Spn.zero) = false) : folB ss i n s = false := by
  unfold folB
  have hq' : q < (spansOf s).length := by rw [spans_len]; exact hq
  have : (spansOf s).all (takeB ss i n s) = false := by
    rw [List.all_eq_false]
    rw [List.getD_eq_getElem?_getD, List.getElem?_eq_getElem hq'] at h
    exact ⟨(spansOf s)[q], List.getElem_mem _, by simpa using h⟩
  rw [this, Bool.and_false]
theorem fol_snoc {ss : List Ste} {i n : Nat} {s : Ste} {q : Nat} (hq : q < cnt s.op) (hA : ((spansOf s).take q).all (takeB ss i n s) = true) (h : takeB ss i n s ((spansOf s).getD q Spn.zero) = true) : ((spansOf s).take (q + 1)).all (takeB ss i n s) = true := by
  have hq' : q < (spansOf s).length := by rw [spans_len]; exact hq
  rw [List.take_succ_eq_append_getElem hq', List.all_append, hA]
  rw [List.getD_eq_getElem?_getD, List.getElem?_eq_getElem hq'] at h
  simpa using h
set_option maxRecDepth 100000 in
set_option maxHeartbeats 16000000 in
theorem follow_in (w : World) (g n cap : Nat) (ss : List Ste) (i : Nat) (s : Ste) (hn : n ≤ 50000) (_hcap : n ≤ cap) (f : BL w g n (fun k => wroteB ss i (k : Nat))) (hl1 : 1 ≤ s.len) (hl2 : s.len ≤ 1000) (hsp : ∀ q, q < cnt s.op → 1 ≤ ((spansOf s).getD q Spn.zero).len ∧ ((spansOf s).getD q Spn.zero).len ≤ 1000) (h0 : s.op = 0) :
    Calls Try.prog 137 #[.slice (some ⟨g, 0, none⟩) n cap, .iface 188 (inAgg s)] w fun e w' => e = .returned (.bool (folB ss i n s)) ∧ Kept g (g + 1) w w' ∧ (folB ss i n s = true → BL w' g n (afterB ss i s (s.dst + s.len))) := by
  have HM1 : ∀ w : World, (method 325 188 (inAgg s) "loop.example/s08086/impl.written").run Try.prog w = .ok (217, (Spn.mk s.dst s.len).agg) w := fun _ => by kernel_rfl
  have HM2 : ∀ w : World, (method 325 188 (inAgg s) "loop.example/s08086/impl.taken").run Try.prog w = .ok (219, (inAgg s)) w := fun _ => by kernel_rfl
  have HF : Hid _ := f
  have HSP : Hid _ := hsp
  have HG : Hid (g < w.heap.size) := f.lt
  clear f hsp
  go_enter Try.func137, Try.ntmps137
  go_wp2_with (first | (go_at_call 217; refine (written _ (Spn.mk s.dst s.len)).mono ?_; rintro e w1 ⟨rfl, k1⟩) | fail)
  have ka := kept_alloc 0 0 w1 (Spn.mk s.dst s.len).box
  have HB : Hid _ := spn_box w1 (Spn.mk s.dst s.len)
  have hP : w1.heap.size < (w1.alloc (Spn.mk s.dst s.len).box).heap.size := by simp
  have HK : Hid _ := Kept.trans k1 ka
  have HP0 : Hid (w.heap.size ≤ w1.heap.size) := k1.size
  generalize hP9 : w1.heap.size = P at HB hP HP0 ⊢
  generalize w1.alloc (Spn.mk s.dst s.len).box = w2 at HB hP HK ka ⊢
  clear hP9 ka k1
  refine (within w2 (Spn.mk s.dst s.len) (n : Int) hl1 hl2 (by omega) (by omega)).mono ?_
  rintro e w3 ⟨rfl, k3⟩
  replace HK : Hid _ := Kept.trans HK.out k3
  replace HB : Hid _ := AtP.keep HB.out hP k3 (.inr (.inr (Nat.le_refl _)))
  replace hP : P < w3.heap.size := Nat.lt_of_lt_of_le hP k3.size
  clear k3
  simp only
  cases tw : withB s.dst s.len n
  · have R : Hid (folB ss i n s = false) := by show _ = _; unfold folB; rw [tw]; rfl
    have R2 : Hid _ := (HK.out.mono (lo' := g) (hi' := g + 1) fun b _ c => by omega)
    go_wp2
    go_ret
    exact ⟨by rw [R.out]; rfl, R2.out, fun h => by rw [R.out] at h; cases h⟩
  have hw := of_decide_eq_true tw
  obtain ⟨q0, q1⟩ := HB.out
  rw [Nat.zero_add] at q1
  go_wp2_with (first | (go_at_call 219; refine (taken_in _ s).mono ?_; rintro e w4 ⟨rfl, k4⟩) | fail)
  replace HK : Hid _ := Kept.trans HK.out k4
  replace HB : Hid _ := AtP.keep HB.out hP k4 (.inr (.inr (Nat.le_refl _)))
  replace hP : P < w4.heap.size := Nat.lt_of_lt_of_le hP k4.size
  clear k4 q0 q1
  refine wp_loop_rounds 1 ?_
  rw [rounds_succ]
  have R : Hid (folB ss i n s = true) := by
    show _ = _
    unfold folB spansOf; rw [tw, h0]; rfl
  have hPw : P < w4.heap.size := hP
  obtain ⟨q0, q1⟩ := HB.out
  rw [Nat.zero_add] at q1
  have HF9 : Hid _ := BL.keep HF.out HK.out (.inr (.inr (Nat.le_refl _)))
  have HK9 : Hid _ := HK
  have HB9 : Hid _ := HB
  clear HK HB HF
  obtain ⟨D, hD⟩ := Int.eq_ofNat_of_zero_le hw.1
  obtain ⟨LL, hLL⟩ := Int.eq_ofNat_of_zero_le (show 0 ≤ s.len by omega)
  have HD : Hid (s.dst + s.len = ((D + LL : Nat) : Int)) := by show _ = _; omega
  have hDL : D + LL ≤ n := by omega
  have HGP : Hid (g ≠ P) := by show _ ≠ _; have := HG.out; have := HP0.out; omega
  have HE : Hid (∀ w, Calls Try.prog 170 #[(Spn.mk (D : Int) (LL : Int)).agg] w fun e w' => e = .returned (.int .i64 ((D : Int) + (LL : Int))) ∧ Kept 0 0 w w') := fun w => spanEnd w (Spn.mk (D : Int) (LL : Int)) (by show -1000000 ≤ (D : Int) + (LL : Int) ∧ (D : Int) + (LL : Int) ≤ 1000000; omega)
  have HB9' : Hid (AtP _ P 0 (Spn.mk s.dst s.len) ∧ P < _) := ⟨HB9.out, hPw⟩
  have HK9' : Hid _ := (HK9.out.mono (lo' := g) (hi' := g + 1) fun b _ c => by omega)
  have HF9' : Hid (BL _ g n (afterB ss i s (D : Int))) := BL.congr HF9.out (fun k _ => by rw [after_start ss i s k, hD])
  rw [hD] at q0
  go_wp2_with fail
  clear q0 q1 HB9 HK9 HF9
  go_loopw [8] (fun x W => ∃ j : Nat, D ≤ j ∧ j ≤ D + LL ∧ x = .int .i64 j ∧ Hid (BL W g n (afterB ss i s (j : Int))) ∧ Hid (AtP W P 0 (Spn.mk s.dst s.len) ∧ P < W.heap.size) ∧ Hid (Kept g (g + 1) w W)) (fun x _ => D + LL - (intOf x).toNat)
  case atStart => exact ⟨D, Nat.le_refl _, by omega, rfl, HF9', HB9', HK9'⟩
  case round =>
    obtain ⟨j, hj1, hj2, rfl, hBL, hAP, hV⟩ := hrel
    obtain ⟨q0, q1⟩ := hAP.out.1
    rw [Nat.zero_add] at q1
    go_wp2_with fail
    refine Calls.mono (HE.out _) ?_
    rintro e w8 ⟨rfl, k8⟩
    have hBL8 : Hid _ := BL.keep hBL.out k8 (.inr (.inr (Nat.le_refl _)))
    have hV8 : Hid _ := Kept.trans hV.out (k8.mono (lo' := g) (hi' := g + 1) fun b _ c => by omega)
    have hAP8 : Hid (AtP w8 P 0 (Spn.mk s.dst s.len) ∧ P < w8.heap.size) := ⟨AtP.keep hAP.out.1 hAP.out.2 k8 (.inr (.inr (Nat.le_refl _))), Nat.lt_of_lt_of_le hAP.out.2 k8.size⟩
    clear q0 q1 k8 hBL hV hAP
    simp only
    by_cases hjl : j < D + LL
    · have cj := hBL8.out.at_ j (by omega)
      have fj := hBL8.out.free j
      have R1 : Hid (BL (w8.setCell ⟨g, j, none⟩ (.bool true)) g n (afterB ss i s ((j + 1 : Nat) : Int))) := BL.congr (BL.set hBL8.out j (by omega)) (fun k _ => after_step ss i s j k (by omega))
      have kp := kept_setCell (lo := g) (hi := g + 1) w8 ⟨g, j, none⟩ (.bool true) (.inl ⟨Nat.le_refl _, Nat.lt_succ_self _⟩)
      have R2 : Hid _ := Kept.trans hV8.out kp
      have R3 : Hid (AtP (w8.setCell ⟨g, j, none⟩ (.bool true)) P 0 (Spn.mk s.dst s.len) ∧ P < (w8.setCell ⟨g, j, none⟩ (.bool true)).heap.size) := ⟨AtP.keep hAP8.out.1 hAP8.out.2 kp (by have := HGP.out; omega), Nat.lt_of_lt_of_le hAP8.out.2 kp.size⟩
      have hjn : j < n := by omega
      generalize afterB ss i s (j : Int) j = z at cj
      clear hBL8 hV8 hAP8 kp
      go_wp2
      go_roundw
      case rel => exact ⟨j + 1, by omega, by omega, by go_num, R1, R3, R2⟩
      case measure => simp [intOf]; omega
    · have R1 : Hid (BL w8 g n (afterB ss i s (s.dst + s.len))) := by
        have := hBL8.out
        rw [show j = D + LL by omega, ← HD.out] at this
        exact this
      go_wp2
      go_ret
      exact ⟨by rw [R.out]; rfl, hV8.out, fun _ => R1.out⟩
set_option maxRecDepth 100000 in
set_option maxHeartbeats 16000000 in
theorem follow_k (w : World) (g n cap : Nat) (ss : List Ste) (i : Nat) (s : Ste) (hn : n ≤ 50000) (hcap : n ≤ cap) (f : BL w g n (fun k => wroteB ss i (k : Nat))) (hl1 : 1 ≤ s.len) (hl2 : s.len ≤ 1000) (hsp : ∀ q, q < cnt s.op → 1 ≤ ((spansOf s).getD q Spn.zero).len ∧ ((spansOf s).getD q Spn.zero).len ≤ 1000) (G : Nat) (hS : SB w G (cnt s.op) (spansOf s)) (_hG : G ≠ g) :
    Calls Try.prog 137 #[.slice (some ⟨g, 0, none⟩) n cap, .iface 190 (kAgg s G (cnt s.op))] w fun e w' => e = .returned (.bool (folB ss i n s)) ∧ Kept g (g + 1) w w' ∧ (folB ss i n s = true → BL w' g n (afterB ss i s (s.dst + s.len))) := by
  have HM1 : ∀ w : World, (method 325 190 (kAgg s G (cnt s.op)) "loop.example/s08086/impl.written").run Try.prog w = .ok (217, (Spn.mk s.dst s.len).agg) w := fun _ => by kernel_rfl
  have HM2 : ∀ w : World, (method 325 190 (kAgg s G (cnt s.op)) "loop.example/s08086/impl.taken").run Try.prog w = .ok (221, (kAgg s G (cnt s.op))) w := fun _ => by kernel_rfl
  have HF : Hid _ := f
  have HSP : Hid _ := hsp
  have HS : Hid _ := hS
  have HG : Hid (g < w.heap.size) := f.lt
  clear f hsp hS
  go_enter Try.func137, Try.ntmps137
  go_wp2_with (first | (go_at_call 217; refine (written _ (Spn.mk s.dst s.len)).mono ?_; rintro e w1 ⟨rfl, k1⟩) | fail)
  have ka := kept_alloc 0 0 w1 (Spn.mk s.dst s.len).box
  have HB : Hid _ := spn_box w1 (Spn.mk s.dst s.len)
  have hP : w1.heap.size < (w1.alloc (Spn.mk s.dst s.len).box).heap.size := by simp
  have HK : Hid _ := Kept.trans k1 ka
  have HP0 : Hid (w.heap.size ≤ w1.heap.size) := k1.size
  generalize hP9 : w1.heap.size = P at HB hP HP0 ⊢
  generalize w1.alloc (Spn.mk s.dst s.len).box = w2 at HB hP HK ka ⊢
  clear hP9 ka k1
  refine (within w2 (Spn.mk s.dst s.len) (n : Int) hl1 hl2 (by omega) (by omega)).mono ?_
  rintro e w3 ⟨rfl, k3⟩
  replace HK : Hid _ := Kept.trans HK.out k3
  replace HB : Hid _ := AtP.keep HB.out hP k3 (.inr (.inr (Nat.le_refl _)))
  replace hP : P < w3.heap.size := Nat.lt_of_lt_of_le hP k3.size
  clear k3
  simp only
  cases tw : withB s.dst s.len n
  · have R : Hid (folB ss i n s = false) := by show _ = _; unfold folB; rw [tw]; rfl
    have R2 : Hid _ := (HK.out.mono (lo' := g) (hi' := g + 1) fun b _ c => by omega)
    go_wp2
    go_ret
    exact ⟨by rw [R.out]; rfl, R2.out, fun h => by rw [R.out] at h; cases h⟩
  have hw := of_decide_eq_true tw
  obtain ⟨q0, q1⟩ := HB.out
  rw [Nat.zero_add] at q1
  go_wp2_with (first | (go_at_call 221; refine (taken_k _ s G (cnt s.op)).mono ?_; rintro e w4 ⟨rfl, k4⟩) | fail)
  replace HK : Hid _ := Kept.trans HK.out k4
  replace HB : Hid _ := AtP.keep HB.out hP k4 (.inr (.inr (Nat.le_refl _)))
  replace hP : P < w4.heap.size := Nat.lt_of_lt_of_le hP k4.size
  clear k4 q0 q1
  go_loopw [19] (fun x W => ∃ q : Nat, q ≤ cnt s.op ∧ x = .int .i64 q ∧ Hid (((spansOf s).take q).all (takeB ss i n s) = true) ∧ Hid (Kept 0 0 w4 W)) (fun x _ => cnt s.op - (intOf x).toNat)
  case atStart => exact ⟨0, Nat.zero_le _, rfl, rfl, Kept.refl _ _ _⟩
  case round =>
    obtain ⟨q, hq, rfl, hQ, hV⟩ := hrel
    have HKV : Hid _ := Kept.trans HK.out hV.out
    have HBV : Hid _ := AtP.keep HB.out hP hV.out (.inr (.inr (Nat.le_refl _)))
    by_cases hqc : q < cnt s.op
    · have hat := (HS.out.keep HKV.out (.inr (.inr (Nat.le_refl _)))).at_ q hqc
      have hsl := HSP.out q hqc
      have HBAD : Hid (takeB ss i n s ((spansOf s).getD q Spn.zero) = false → folB ss i n s = false) := fun h => fol_bad hqc h
      have HSN : Hid (takeB ss i n s ((spansOf s).getD q Spn.zero) = true → ((spansOf s).take (q + 1)).all (takeB ss i n s) = true) := fun h => fol_snoc hqc hQ.out h
      generalize (spansOf s).getD q Spn.zero = p at hat hsl HBAD HSN
      obtain ⟨d0, d1⟩ := hat
      have ka := kept_alloc 0 0 wr p.box
      have HBp : Hid _ := spn_box wr p
      have hPp : wr.heap.size < (wr.alloc p.box).heap.size := by simp
      have hc3 := cnt_le s.op
      have hPw : P < wr.heap.size := Nat.lt_of_lt_of_le hP hV.out.size
      go_wp2_with fail
      clear d0 d1
      have HKV' : Hid _ := Kept.trans HKV.out ka
      have HB' : Hid _ := AtP.keep HBV.out hPw ka (.inr (.inr (Nat.le_refl _)))
      have HV' : Hid _ := Kept.trans hV.out ka
      generalize hP9 : wr.heap.size = P2 at HBp hPp hPw ⊢
      generalize wr.alloc p.box = w5 at HBp hPp HKV' HB' HV' ka ⊢
      clear hP9 ka HKV HBV hV
      refine Calls.mono (hold w5 g n cap ss i hn hcap (BL.keep HF.out HKV'.out (.inr (.inr (Nat.le_refl _)))) p hsl.1 hsl.2) ?_
      rintro e w6 ⟨rfl, k6⟩
      have HKV6 : Hid _ := Kept.trans HKV'.out k6
      have HB6 : Hid _ := AtP.keep HB'.out (by omega) k6 (.inr (.inr (Nat.le_refl _)))
      have HBp6 : Hid _ := AtP.keep HBp.out hPp k6 (.inr (.inr (Nat.le_refl _)))
      have HV6 : Hid _ := Kept.trans HV'.out k6
      clear k6 HKV' HB' HBp HV'
      simp only
      cases th : holdB ss i n p.off p.len
      · have R : Hid _ := HBAD.out (by unfold takeB; rw [th]; rfl)
        have R2 : Hid _ := (HKV6.out.mono (lo' := g) (hi' := g + 1) fun b _ c => by omega)
        go_wp2
        go_ret
        exact ⟨by rw [R.out]; rfl, R2.out, fun h => by rw [R.out] at h; cases h⟩
      · have hoo := hold_offP th
        obtain ⟨x0, x1⟩ := HB6.out
        obtain ⟨y0, y1⟩ := HBp6.out
        rw [Nat.zero_add] at x1 y1
        have HMt : Hid _ := meets w6 (Spn.mk s.dst s.len) p (by show -1000000 ≤ s.dst + s.len ∧ s.dst + s.len ≤ 1000000; omega) (by omega)
        have hmt : takeB ss i n s p = !decide (s.dst < p.off + p.len ∧ p.off < s.dst + s.len) := by unfold takeB meetB; rw [th]; rfl
        rw [hmt] at HBAD HSN
        simp only at HMt
        go_wp2_with fail
        refine Calls.mono HMt.out ?_
        rintro e w7 ⟨rfl, k7⟩
        have HKV7 : Hid _ := Kept.trans HKV6.out k7
        have HV7 : Hid _ := Kept.trans HV6.out k7
        clear k7 HKV6 HV6 HB6 HBp6 x0 x1 y0 y1 HMt hmt th
        simp only
        cases tm : decide (s.dst < p.off + p.len ∧ p.off < s.dst + s.len)
        · have R : Hid _ := HSN.out (by rw [tm]; rfl)
          go_wp2
          go_roundw
          case rel => exact ⟨q + 1, by omega, by go_num, R, HV7⟩
          case measure => simp [intOf]; omega
        · have R : Hid _ := HBAD.out (by rw [tm]; rfl)
          have R2 : Hid _ := (HKV7.out.mono (lo' := g) (hi' := g + 1) fun b _ c => by omega)
          go_wp2
          go_ret
          exact ⟨by rw [R.out]; rfl, R2.out, fun h => by rw [R.out] at h; cases h⟩
    · have R : Hid (folB ss i n s = true) := by
        show _ = _
        have := hQ.out
        rw [List.take_of_length_le (by rw [spans_len]; omega)] at this
        unfold folB; rw [tw, this]; rfl
      have hPw : P < wr.heap.size := Nat.lt_of_lt_of_le hP hV.out.size
      obtain ⟨q0, q1⟩ := HBV.out
      rw [Nat.zero_add] at q1
      have HF9 : Hid _ := BL.keep HF.out HKV.out (.inr (.inr (Nat.le_refl _)))
      have HK9 : Hid _ := HKV
      have HB9 : Hid _ := HBV
      clear hQ hV HBV HKV HK HB HF
      obtain ⟨D, hD⟩ := Int.eq_ofNat_of_zero_le hw.1
      obtain ⟨LL, hLL⟩ := Int.eq_ofNat_of_zero_le (show 0 ≤ s.len by omega)
      have HD : Hid (s.dst + s.len = ((D + LL : Nat) : Int)) := by show _ = _; omega
      have hDL : D + LL ≤ n := by omega
      have HGP : Hid (g ≠ P) := by show _ ≠ _; have := HG.out; have := HP0.out; omega
      have HE : Hid (∀ w, Calls Try.prog 170 #[(Spn.mk (D : Int) (LL : Int)).agg] w fun e w' => e = .returned (.int .i64 ((D : Int) + (LL : Int))) ∧ Kept 0 0 w w') := fun w => spanEnd w (Spn.mk (D : Int) (LL : Int)) (by show -1000000 ≤ (D : Int) + (LL : Int) ∧ (D : Int) + (LL : Int) ≤ 1000000; omega)
      have HB9' : Hid (AtP _ P 0 (Spn.mk s.dst s.len) ∧ P < _) := ⟨HB9.out, hPw⟩
      have HK9' : Hid _ := (HK9.out.mono (lo' := g) (hi' := g + 1) fun b _ c => by omega)
      have HF9' : Hid (BL _ g n (afterB ss i s (D : Int))) := BL.congr HF9.out (fun k _ => by rw [after_start ss i s k, hD])
      rw [hD] at q0
      go_wp2_with fail
      clear q0 q1 HB9 HK9 HF9
      go_loopw [8] (fun x W => ∃ j : Nat, D ≤ j ∧ j ≤ D + LL ∧ x = .int .i64 j ∧ Hid (BL W g n (afterB ss i s (j : Int))) ∧ Hid (AtP W P 0 (Spn.mk s.dst s.len) ∧ P < W.heap.size) ∧ Hid (Kept g (g + 1) w W)) (fun x _ => D + LL - (intOf x).toNat)
      case atStart => exact ⟨D, Nat.le_refl _, by omega, rfl, HF9', HB9', HK9'⟩
      case round =>
        obtain ⟨j, hj1, hj2, rfl, hBL, hAP, hV⟩ := hrel
        obtain ⟨q0, q1⟩ := hAP.out.1
        rw [Nat.zero_add] at q1
        go_wp2_with fail
        refine Calls.mono (HE.out _) ?_
        rintro e w8 ⟨rfl, k8⟩
        have hBL8 : Hid _ := BL.keep hBL.out k8 (.inr (.inr (Nat.le_refl _)))
        have hV8 : Hid _ := Kept.trans hV.out (k8.mono (lo' := g) (hi' := g + 1) fun b _ c => by omega)
        have hAP8 : Hid (AtP w8 P 0 (Spn.mk s.dst s.len) ∧ P < w8.heap.size) := ⟨AtP.keep hAP.out.1 hAP.out.2 k8 (.inr (.inr (Nat.le_refl _))), Nat.lt_of_lt_of_le hAP.out.2 k8.size⟩
        clear q0 q1 k8 hBL hV hAP
        simp only
        by_cases hjl : j < D + LL
        · have cj := hBL8.out.at_ j (by omega)
          have fj := hBL8.out.free j
          have R1 : Hid (BL (w8.setCell ⟨g, j, none⟩ (.bool true)) g n (afterB ss i s ((j + 1 : Nat) : Int))) := BL.congr (BL.set hBL8.out j (by omega)) (fun k _ => after_step ss i s j k (by omega))
          have kp := kept_setCell (lo := g) (hi := g + 1) w8 ⟨g, j, none⟩ (.bool true) (.inl ⟨Nat.le_refl _, Nat.lt_succ_self _⟩)
          have R2 : Hid _ := Kept.trans hV8.out kp
          have R3 : Hid (AtP (w8.setCell ⟨g, j, none⟩ (.bool true)) P 0 (Spn.mk s.dst s.len) ∧ P < (w8.setCell ⟨g, j, none⟩ (.bool true)).heap.size) := ⟨AtP.keep hAP8.out.1 hAP8.out.2 kp (by have := HGP.out; omega), Nat.lt_of_lt_of_le hAP8.out.2 kp.size⟩
          have hjn : j < n := by omega
          generalize afterB ss i s (j : Int) j = z at cj
          clear hBL8 hV8 hAP8 kp
          go_wp2
          go_roundw
          case rel => exact ⟨j + 1, by omega, by omega, by go_num, R1, R3, R2⟩
          case measure => simp [intOf]; omega
        · have R1 : Hid (BL w8 g n (afterB ss i s (s.dst + s.len))) := by
            have := hBL8.out
            rw [show j = D + LL by omega, ← HD.out] at this
            exact this
          go_wp2
          go_ret
          exact ⟨by rw [R.out]; rfl, hV8.out, fun _ => R1.out⟩
end Go.Proofs.Ytcphabjekfihnaa
