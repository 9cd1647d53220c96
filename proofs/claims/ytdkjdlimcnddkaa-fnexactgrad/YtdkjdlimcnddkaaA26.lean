import Derived.Test.YtdkjdlimcnddkaaA25
namespace Go.Proofs.Ytdkjdlimcnddkaa
open Go.RowKit Flt
attribute [local go_sem] alloc_drewN setCell_drewN run_store_float run_store_func
set_option maxRecDepth 100000 in
set_option maxHeartbeats 16000000 in
theorem newBackward (w : World) (P : Nat) (u1 u3 vv : Value) (vs0 : List Vl) (base : Nat) (R : Option Nat) (n s x : Nat) (h : BS w P u1 u3 vs0 (cellsV vs0) base R vv) (hn : vs0.length = n) (hl : n ≤ 2000) (hs : s < n) (hx : x < n)
    (hlen : ∀ j, j < n → 1 ≤ (vs0.getD j Vl.zero).len ∧ (vs0.getD j Vl.zero).len ≤ 1000) (hop : ∀ j, j < n → 0 ≤ (vs0.getD j Vl.zero).op ∧ (vs0.getD j Vl.zero).op ≤ 13) (hops : ∀ j, j < n → ∀ k, k < cnt (vs0.getD j Vl.zero).op → 0 ≤ fld (vs0.getD j Vl.zero) k ∧ fld (vs0.getD j Vl.zero) k < j)
    (hA : ∀ i, i < n → ((vs0.getD i Vl.zero).op = 9 ∨ (vs0.getD i Vl.zero).op = 11) → ∃ j : Nat, (vs0.getD i Vl.zero).a = (j : Int) ∧ j < vs0.length ∧ (vs0.getD j Vl.zero).len = laM vs0 i ∧ 1 ≤ laM vs0 i ∧ laM vs0 i ≤ 1000) :
    Calls Try.prog 94 #[.pointer (some ⟨P, 0, none⟩), .int .i64 (s : Int), .int .i64 (x : Int)] w fun e w' => NbO w P n u1 u3 vs0 x (s - x) base R vv e w' := by
  obtain ⟨i0, hii, hz0, hz1, hz2⟩ := info_parts infoFn
  have y1 := h.c1
  obtain ⟨g, cap, rfl, _, hgl, _, _⟩ := row_at h.own (by omega) rfl
  rw [hn] at y1
  have HBS : Hid _ := h
  have HNN : Hid (vs0.length = n) := hn
  have HLE : Hid _ := hlen
  have HOP : Hid _ := hop
  have HOS : Hid _ := hops
  have HAA : Hid _ := hA
  have HRB : Hid (∀ b, R = some b → b < w.heap.size) := fun b hb => (own_blkV h.own (by rw [h.row]; exact hb)).2
  have hm := make_b n w.drew (by omega)
  have HA0 : Hid _ := BR.made w.drew n
  clear h hlen hop hops hA hgl hn
  go_enter Try.func94, Try.ntmps94
  go_upto_region 2 with fail
  go_cut [8] (fun p wx => ∃ K A S, p = .pointer (some ⟨K, 0, none⟩) ∧ Hid (NB0 w wx P n K A S))
  case first =>
    have HND : Hid (∀ W, _) := fun W => nones W n (by omega)
    have hmm : ∀ W, Sem.run Try.prog (Instr.makeSlice 111 (.int .i64 (n : Int)) (.int .i64 (n : Int))) W = .ok (.slice (some ⟨W.heap.size, 0, none⟩) n n) (W.alloc (.cells (madeCells #[.bool false] n) 4)) := fun W => make_b n W (by omega)
    clear hm
    first | (go_region_with (go_at_call 128; first
      | (refine Calls.mono (HND.out w.drew) ?_; rintro e w2 ⟨rfl, i2, k2⟩)
      | (refine Calls.mono (HND.out (w.alloc (.cells (madeCells #[.bool false] n) 4)).drew) ?_; rintro e w2 ⟨rfl, i2, k2⟩))) | fail
    · have R1 : Hid (NB0 w (w2.alloc (.cells #[.pointer (some ⟨P, 0, none⟩), .slice (some ⟨w.heap.size, 0, none⟩) n n, .slice (some ⟨w.heap.size + 1, 0, none⟩) n n, .slice none 0 0] 172)) P n w2.heap.size w.heap.size (w.heap.size + 1)) := by
        have kk := (kept_drew (w.alloc (.cells (madeCells #[.bool false] n) 4))).trans k2
        have e : (w.alloc (.cells (madeCells #[.bool false] n) 4)).drew.heap.size = w.heap.size + 1 := by show (w.alloc _).heap.size = _; simp
        rw [e] at i2
        exact nb0_box w w2 P n _ _ ((kept_alloc 0 0 w _).trans kk) (BR.keep (BR.made w n) kk (.inr (.inr (Nat.le_refl _)))) i2 (Nat.le_refl _) (by omega) (by omega)
      clear i2 k2 hmm
      go_wp2_with fail
      go_meet
      exact ⟨_, _, _, rfl, R1⟩
    · have R1 : Hid (NB0 w ((w2.alloc (.cells (madeCells #[.bool false] n) 4)).alloc (.cells #[.pointer (some ⟨P, 0, none⟩), .slice (some ⟨w2.heap.size, 0, none⟩) n n, .slice (some ⟨w.heap.size, 0, none⟩) n n, .slice none 0 0] 172)) P n (w2.heap.size + 1) w2.heap.size w.heap.size) := by
        have kk := (kept_drew w).trans k2
        have ka := kept_alloc 0 0 w2 (.cells (madeCells #[.bool false] n) 4)
        have hS : IR w2 w.heap.size (List.replicate n (-1)) := i2
        have hlt := hS.lt
        have := nb0_box w (w2.alloc (.cells (madeCells #[.bool false] n) 4)) P n w2.heap.size w.heap.size (kk.trans ka) (BR.made w2 n) (IR.keep hS ka (.inr (.inr (Nat.le_refl _)))) kk.size (Nat.le_refl _) (by omega)
        have e : (w2.alloc (.cells (madeCells #[.bool false] n) 4)).heap.size = w2.heap.size + 1 := by simp
        rw [e] at this
        exact this
      clear i2 k2 hmm
      go_wp2_with fail
      go_meet
      exact ⟨_, _, _, rfl, R1⟩
  case rest =>
    obtain ⟨K, A, S, rfl, hN⟩ := hcut
    clear hm HA0
    have hPl := HBS.out.lt
    obtain ⟨hk1, hk2, hk3⟩ := hN.out.lo_
    have HC : Hid (NbC wc.heap.size P K A S R) := ⟨⟨by omega, by omega, by omega, hN.out.ne.1, hN.out.ne.2.1, hN.out.ne.2.2, fun e => by have := HRB.out K e; omega, fun e => by have := HRB.out A e; omega, fun e => by have := HRB.out S e; omega⟩, by have := hN.out.kp.size; omega, hN.out.bk.lt, hN.out.bk.ac.lt, hN.out.bk.sp.lt, fun b hb => by have := HRB.out b hb; have := hN.out.kp.size; omega⟩
    have HLO : Hid (w.heap.size ≤ K ∧ w.heap.size ≤ A ∧ w.heap.size ≤ S ∧ w.heap.size ≤ wc.heap.size) := ⟨hk1, hk2, hk3, hN.out.kp.size⟩
    have HKW : Hid (Kept 0 0 w wc) := hN.out.kp
    have HNB : Hid (NB (wc.setCell ⟨A, x, none⟩ (.bool true)) (wc.setCell ⟨A, x, none⟩ (.bool true)) wc.heap.size P K A S n u1 u3 (.slice (some ⟨g, 0, none⟩) vs0.length cap) (.slice none 0 0) vs0 x 0 base R []) := by
      refine ⟨BS.setS (BS.keep HBS.out hN.out.kp) HC.out.dj.ap HC.out.dj.ra, ?_, World.ownsRow_nil _ _ _ _, fun j u hu => by simp at hu, (Kept.refl 0 0 _).chg, by simp⟩
      have := hN.out.bk.setA HC.out.dj x true
      rw [actM, HNN.out]
      exact this
    have HK5 : Hid (Kept 0 0 w (wc.setCell ⟨A, x, none⟩ (.bool true))) := HKW.out.new (kept_setCell (lo := A) (hi := A + 1) wc ⟨A, x, none⟩ (.bool true) (.inl ⟨Nat.le_refl _, Nat.lt_succ_self _⟩)) hk2
    have z1 := hN.out.bk.c1
    have zA := BR.cell hN.out.bk.ac x (by simp; omega)
    have zF := BR.free hN.out.bk.ac x
    generalize (List.replicate n false).getD x false = zz at zA
    have hx1 : (0 : Int) ≤ (x : Int) := by omega
    have hx2 : (x : Int) < (n : Int) := by omega
    have hxw : IntKind.i64.wrap ((x : Int) + 1) = (x : Int) + 1 := by rw [IntKind.wrap_i64]; omega
    obtain ⟨lo, hlo⟩ : ∃ lo, lo = wc.heap.size := ⟨_, rfl⟩
    rw [← hlo] at HC HNB HLO
    have HLOW : Hid _ := hlo
    clear hN hk1 hk2 hk3 hPl hlo
    go_wp2_with fail
    clear z1 zA zF
    generalize wc.setCell ⟨A, x, none⟩ (.bool true) = w5 at HNB HK5 ⊢
    go_loopw [9] (fun v W => ∃ (i m : Nat) (rv : Value) (rs : List Value), v = .int .i64 (i : Int) ∧ i = x + 1 + m ∧ m ≤ s - x ∧ Hid (NB W w5 lo P K A S n u1 u3 (.slice (some ⟨g, 0, none⟩) vs0.length cap) rv vs0 x m base R rs)) (fun v _ => s + 1 - (intOf v).toNat)
    case atStart => exact ⟨x + 1, 0, _, [], by go_num, rfl, Nat.zero_le _, HNB⟩
    case round =>
      obtain ⟨i, m, rv, rs, rfl, him, hms, hN⟩ := hrel
      clear HNB
      by_cases his : i ≤ s
      · have hi1 : (0 : Int) ≤ (i : Int) := by omega
        have hi2 : (i : Int) < (n : Int) := by omega
        have hi3 : (i : Int) ≤ (s : Int) := by omega
        have HRE : Hid (∀ W, Kept 0 0 wr W → Calls Try.prog 129 #[.pointer (some ⟨K, 0, none⟩), .int .i64 (i : Int)] W fun e w' => e = .returned (.bool (reachB (actM vs0 x m) (vs0.getD i Vl.zero))) ∧ Kept 0 0 W w') := fun W kW => reaches W P K A S n u1 u3 rv _ (actM vs0 x m) vs0 (List.replicate n (-1)) (cellsV vs0) base R (BS.keep hN.out.bs kW) (hN.out.bk.keep kW) i (by have := HNN.out; omega) HNN.out _ rfl (HOS.out i (by omega))
        obtain ⟨bb, hbb⟩ : ∃ bb, bb = reachB (actM vs0 x m) (vs0.getD i Vl.zero) := ⟨_, rfl⟩
        rw [← hbb] at HRE
        have HMK : Hid (∀ W, Kept 0 0 wr W → BS (W.setCell ⟨A, i, none⟩ (.bool bb)) P u1 u3 vs0 (cellsV vs0) base R (.slice (some ⟨g, 0, none⟩) vs0.length cap) ∧ BK (W.setCell ⟨A, i, none⟩ (.bool bb)) K P A S n rv (actM vs0 x (m + 1)) (List.replicate n (-1)) ∧ (W.setCell ⟨A, i, none⟩ (.bool bb)).ownsRow lo 1 1 rv m rs ∧ RulesL (W.setCell ⟨A, i, none⟩ (.bool bb)) lo P K vs0 x rv rs ∧ Chg (fun b => b = K ∨ b = A ∨ lo ≤ b) w5 (W.setCell ⟨A, i, none⟩ (.bool bb)) ∧ lo ≤ (W.setCell ⟨A, i, none⟩ (.bool bb)).heap.size) := fun W kW => by
          have h := (hN.out.keep kW).mark HC.out bb (by rw [hbb, him])
          rw [← him] at h
          exact ⟨h.1, h.2.1, h.2.2.1, h.2.2.2.1, h.2.2.2.2, by have := (hN.out.keep kW).sz; simpa using this⟩
        have HN1 : Hid _ := hN.out
        have HIM : Hid (i = x + 1 + m ∧ m ≤ s - x) := ⟨him, hms⟩
        clear hN hbb him hms
        go_wp2_with fail
        go_cut [] (fun wx => Hid (BS wx P u1 u3 vs0 (cellsV vs0) base R (.slice (some ⟨g, 0, none⟩) vs0.length cap) ∧ BK wx K P A S n rv (actM vs0 x (m + 1)) (List.replicate n (-1)) ∧ wx.ownsRow lo 1 1 rv m rs ∧ RulesL wx lo P K vs0 x rv rs ∧ Chg (fun b => b = K ∨ b = A ∨ lo ≤ b) w5 wx ∧ lo ≤ wx.heap.size))
        case first =>
          have z1 := HN1.out.bk.c1
          go_region_held3 (fun w' => w'.cell? ⟨K, 1, none⟩ = some (.slice (some ⟨A, 0, none⟩) n n)) (first | go_keep | (rw [cell_ne _ _ _ _ _ _ (.inl (fun e => HC.out.dj.ka e.symm))]; exact z2)) (first | (go_at_call 129; refine Calls.mono (HRE.out wr.drew (kept_drew wr)) ?_; rintro e w2 ⟨rfl, k2⟩; have kk : Kept 0 0 wr w2 := (kept_drew wr).trans k2; have hb2 := HN1.out.bk.keep kk; have z2 := hb2.c1; have zA := BR.cell hb2.ac i (by rw [hb2.al]; omega); have zF := BR.free hb2.ac i; clear hb2))
          all_goals
            have R1 : Hid _ := HMK.out w2 kk
            clear kk k2 HMK HRE
            go_wp2_with fail
            go_meet
            exact R1
        case rest =>
          have HR : Hid _ := hcut
          clear hcut HMK HRE HN1
          obtain ⟨ar, cr, rfl⟩ := own_form HR.out.2.2.1
          have HRU : Hid (∀ W, Kept 0 0 wc W → Calls Try.prog 130 #[.pointer (some ⟨K, 0, none⟩), .int .i64 (i : Int)] W fun e w' => RuO W P K vs0 i e w') := fun W kW => ruleOf W P K A S n u1 u3 _ _ (actM vs0 x (m + 1)) vs0 (List.replicate n (-1)) base R (BS.keep HR.out.1 kW) (HR.out.2.1.keep kW) HNN.out (by omega) i (by omega) (HLE.out i (by omega)).1 (HLE.out i (by omega)).2 (HOP.out i (by omega)) (HAA.out i (by omega))
          have z3 := HR.out.2.1.c3
          have hmb : m ≤ 2000 := by have := HIM.out; omega
          have hlw : lo ≤ wc.heap.size := HR.out.2.2.2.2.2
          have HKF : Hid (∀ W, Kept 0 0 wc W → W.cell? ⟨K, 3, none⟩ = some (.slice ar m cr) ∧ W.ownsRow lo 1 1 (.slice ar m cr) m rs) := fun W kW => ⟨(HR.out.2.1.keep kW).c3, own_keepJ HR.out.2.2.1 kW⟩
          have HFR : Hid (∀ W w9, Kept 0 0 wc W → W.grownBy w9 (Value.slice ar m cr).ownBlock → w9.cell? ⟨K, 3, none⟩ = some (.slice ar m cr) ∧ w9.frozen? ⟨K, 3, none⟩ = false) := fun W w9 kW hg => by
            have b := HR.out.2.1.keep kW
            have hne : ¬ (Value.slice ar m cr).ownBlock = some K := fun e => by have := (own_blkV HR.out.2.2.1 e).1; have := HC.out.k; omega
            exact ⟨((chg_grow hg).cell (p := ⟨K, 3, none⟩) b.lt hne).trans b.c3, ((chg_grow hg).frozen (p := ⟨K, 3, none⟩) b.lt hne).trans (b.fr 3)⟩
          go_wp2_with fail
          go_region_law (first
            | ((fail_if_success (exfalso; refine absurd kk6.size ?_)); go_simp; go_wp2_with (first | (go_at_call 130; refine Calls.mono (HRU.out wc.drew (kept_drew wc)) ?_; rintro e w6 ⟨xw, xi, xo, xp, go, a6, mp6, cp6, fv6, rfl, ri6, k6⟩; have kk6 : Kept 0 0 wc w6 := (kept_drew wc).trans k6; obtain ⟨t3, h6⟩ := HKF.out w6 kk6; have t3a := (HKF.out (w6.alloc (.cells #[.func (.func 158) #[] #[.pointer (some ⟨xw, 0, none⟩), .pointer (some ⟨xi, 0, none⟩), .pointer (some ⟨xo, 0, none⟩), .pointer (some ⟨xp, 0, none⟩)]] 1)) (kk6.trans (kept_alloc 0 0 w6 _))).1; have H6 : Hid (w6.ownsRow lo 1 1 (.slice ar m cr) m rs) := h6; have H6a : Hid ((w6.alloc (.cells #[rclo xw xi xo xp] 1)).ownsRow lo 1 1 (.slice ar m cr) m rs) := World.ownsRow.alloc h6 _; clear h6 HRU) | fail))
            | ((first | rw [if_pos (by simp [Region.wanted])] | fail "rw"); (first | refine wp_append_lies (w6.alloc (.cells #[rclo xw xi xo xp] 1)) (.tmp 49) (.tmp 53) 170 rfl lo 1 i0 .nilFunc 1 8 Try.underlying170 hii hz0 hz1 hz2 rfl (by decide) (.slice ar m cr) m rs ?_ H6a.out ⟨w6.heap.size, 0, none⟩ 1 1 [rclo xw xi xo xp] ?_ rfl (cell_one_new _ _ _) ?_ (by decide) ?_ ?_ ?_ _ rfl ?_ | fail "refine"); (focus first | rfl | simp [Act.eval] | fail "e1"); (focus first | rfl | simp [Act.eval] | fail "e2"); (focus first | (intro u hu; cases hu with | head => rfl | tail _ h => cases h) | fail "e3"); (focus first | exact Nat.le_trans (show m + 1 ≤ 2001 by omega) (by decide) | fail "e4"); (focus first | exact (show (m + 1) * 8 ≤ 140737488355328 by omega) | fail "e5"); (focus first | exact Nat.le_trans (Nat.le_trans hlw kk6.size) (by simp) | fail "e6"); (first | intro g9 cap9 w9 hown9 hg9 hat9 hlt9 | fail "intro"); (first | obtain ⟨m3, mf3⟩ := HFR.out _ w9 (kk6.trans (kept_alloc 0 0 w6 _)) hg9 | fail "obtain")))
          all_goals
            have R9 : Hid (NB (w9.setCell ⟨K, 3, none⟩ (.slice (some ⟨g9, 0, none⟩) (m + 1) cap9)) w5 lo P K A S n u1 u3 (.slice (some ⟨g, 0, none⟩) vs0.length cap) (.slice (some ⟨g9, 0, none⟩) (m + 1) cap9) vs0 x (m + 1) base R (rs ++ [rclo xw xi xo xp])) := NB.push HR.out HC.out kk6 (by rw [← HIM.out.1]; exact ri6) hown9 hg9 (hat9.imp (fun h => h) (fun e => e.trans (by simp)))
            have hiw : IntKind.i64.wrap ((i : Int) + 1) = (i : Int) + 1 := by rw [IntKind.wrap_i64]; omega
            have hd1 : s + 1 - (i + 1) < s + 1 - i := by omega
            clear hown9 hg9 hat9 hlt9 m3 mf3 ri6 k6 kk6 H6 HKF HFR HR t3 t3a z3
            go_wp2_with fail
            go_roundw
            case rel => exact ⟨i + 1, m + 1, _, _, by go_num, by have := HIM.out; omega, by have := HIM.out; omega, R9⟩
            case measure => simp [intOf]; omega
      · have hms2 : m = s - x := by omega
        have HN1 : Hid _ := hN.out
        have hi3 : ¬ ((i : Int) ≤ (s : Int)) := by omega
        clear hN him
        go_wp2_with fail
        go_ret
        unfold NbO
        have hC := HC.out
        refine ⟨lo, K, A, S, rv, rs, rfl, ⟨HN1.out.bs, ?_, ?_, HN1.out.rl, (Kept.refl 0 0 _).chg, HN1.out.sz⟩, HC.out, ?_, Chg.kept HK5.out HN1.out.ch (fun b hb => ?_)⟩
        · rw [← hms2]; exact HN1.out.bk
        · rw [← hms2]; exact HN1.out.row
        · exact HLO.out
        · have := HLO.out; omega
end Go.Proofs.Ytdkjdlimcnddkaa
