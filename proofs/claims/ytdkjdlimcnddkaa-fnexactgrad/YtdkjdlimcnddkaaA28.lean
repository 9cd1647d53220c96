import Derived.Test.YtdkjdlimcnddkaaA27
namespace Go.Proofs.Ytdkjdlimcnddkaa
open Go.RowKit Flt
attribute [local go_sem] alloc_drewN setCell_drewN run_store_float run_store_func
attribute [local go_sem] Oper.semAt_some
/-- Before the rules are called: the slope of s is laid. -/
structure G1S (w wx : World) (P K A S n : Nat) (u1 u3 rv : Value) (act : List Bool) (base : Nat) (R R1 : Option Nat) (vv1 : Value) (st : List Vl × List Int) : Prop where
  bs : BS wx P u1 u3 st.1 (cellsV st.1) base R1 vv1
  bk : BK wx K P A S n rv act st.2
  dj : Dj P K A S R1
  stq : StQ (fun b => b = P ∨ b = S) R w R1 wx
theorem G1S.gi {w wx : World} {lo P K A S n : Nat} {u1 u3 rv : Value} {act : List Bool} {base : Nat} {R R1 : Option Nat} {vv1 : Value} {st : List Vl × List Int} (f : G1S w wx P K A S n u1 u3 rv act base R R1 vv1 st) (hC : NbC lo P K A S R) (o : Obj) : GI w (wx.alloc o) (wx.alloc o) lo P K A S n wx.heap.size u1 u3 rv act base R1 st := by
  have k := kept_alloc 0 0 wx o
  have hsz : (wx.alloc o).heap.size = wx.heap.size + 1 := by simp
  have hw := f.stq.chg.size
  refine ⟨R1, vv1, ⟨?_, ⟨hC.p, fun b hb => ?_⟩, BS.keep f.bs k, f.bk.keep k, f.dj, StQ.refl _ _ _⟩, Same.refl (by omega), fun e => ?_⟩
  · refine Same.chg (Same.chg (Same.refl (Nat.le_refl _)) f.stq.chg (fun b b1 b2 c => ?_)) (k.chg (S := fun _ => False)) (fun _ _ _ h => h)
    have h1 := hC.p
    have h2 := hC.s
    rcases c with (c | c) | c
    · omega
    · omega
    · have := hC.r b c; omega
  · rcases f.stq.row with c | ⟨r, c, hr⟩
    · exact .inl (hC.r b (by rw [← c]; exact hb))
    · rw [c] at hb; cases hb; exact .inr hr
  · have := (own_blkV f.bs.own (by rw [f.bs.row]; exact e)).2
    omega
theorem NB.rows {w : World} {lo P K A S n x m base cr : Nat} {ar : Option Addr} {u1 u3 vv : Value} {vs0 : List Vl} {R : Option Nat} {rs : List Value} (f : NB w w lo P K A S n u1 u3 vv (.slice ar m cr) vs0 x m base R rs) : ∃ g, (0 < m → lo ≤ g ∧ g < w.heap.size) ∧ ∀ j, j < m → ar = some ⟨g, 0, none⟩ ∧ ∃ N bs, rs[j]?.getD .nilFunc = .func (.func N) #[] bs ∧ w.cell? ⟨g, j, none⟩ = some (.func (.func N) #[] bs) := by
  by_cases h0 : 0 < m
  · obtain ⟨g, cap, e, hb, hg⟩ := f.row.form h0
    cases e
    refine ⟨g, fun _ => ⟨hb, hg⟩, fun j hj => ⟨rfl, ?_⟩⟩
    have hrl : rs.length = m := by have := f.row.1; omega
    have hc := f.row.cellAt j (by omega)
    obtain ⟨u, hu⟩ : ∃ u, rs[j]? = some u := ⟨_, List.getElem?_eq_getElem (by omega)⟩
    obtain ⟨lo', hi', xw, xi, xo, xp, go, a, mp, cp, fv, _, _, _, rfl, _⟩ := f.rl j u hu
    rw [hu] at hc ⊢
    exact ⟨_, _, rfl, hc⟩
  · exact ⟨0, fun h => absurd h h0, fun j hj => absurd hj (by omega)⟩
theorem NB.rule {w : World} {lo P K A S n x m base : Nat} {u1 u3 vv rv : Value} {vs0 : List Vl} {R : Option Nat} {rs : List Value} (f : NB w w lo P K A S n u1 u3 vv rv vs0 x m base R rs) (j : Nat) (hj : j < m) : ∃ xw xi xo xp go a mp cp fv, rs[j]?.getD .nilFunc = rclo xw xi xo xp ∧ RuleIn w lo w.heap.size P K vs0 (x + 1 + j) xw xi xo xp go a mp cp fv := by
  have hrl : rs.length = m := by have := f.row.1; omega
  obtain ⟨u, hu⟩ : ∃ u, rs[j]? = some u := ⟨_, List.getElem?_eq_getElem (by omega)⟩
  obtain ⟨lo', hi', xw, xi, xo, xp, go, a, mp, cp, fv, h1, h2, _, rfl, h5⟩ := f.rl j u hu
  exact ⟨xw, xi, xo, xp, go, a, mp, cp, fv, by rw [hu]; rfl, h5.mono (Same.refl h2) h1 h2⟩
theorem bki_start {w wc : World} {lo P K A S n x m base cr : Nat} {ar : Option Addr} {u1 u3 vv : Value} {vs0 : List Vl} {R R1 : Option Nat} {rs : List Value} {vv1 : Value} {act : List Bool} {st : List Vl × List Int} (f : NB w w lo P K A S n u1 u3 vv (.slice ar m cr) vs0 x m base R rs) (hC : NbC lo P K A S R) (h : G1S w wc P K A S n u1 u3 (.slice ar m cr) act base R R1 vv1 st) (T : TypeId) : ∃ g, (0 < m → lo ≤ g ∧ g < w.heap.size) ∧ ∀ W, Below (wc.alloc (.cells #[.slice ar m cr] T)).heap.size (wc.alloc (.cells #[.slice ar m cr] T)) W → BkI W wc.heap.size g m cr ar rs := by
  obtain ⟨g, hg, hr⟩ := f.rows
  have hw := h.stq.chg.size
  refine ⟨g, hg, fun W hW => ⟨?_, fun j hj => ?_⟩⟩
  · rw [hW.cell (p := ⟨wc.heap.size, 0, none⟩) (by simp), World.cell?_alloc_at _ _ wc.heap.size _ rfl]
    rfl
  · obtain ⟨e, N, bs, h1, h2⟩ := hr j hj
    obtain ⟨g1, g2⟩ := hg (by omega)
    refine ⟨e, N, bs, h1, ?_⟩
    rw [hW.cell (p := ⟨g, j, none⟩) (by simp; omega), (kept_alloc 0 0 wc _).chg (S := fun _ => False) |>.cell (p := ⟨g, j, none⟩) (by show g < _; omega) (fun h => h), h.stq.chg.cell (p := ⟨g, j, none⟩) g2 ?_]
    · exact h2
    · have p1 := hC.p
      have p2 := hC.s
      rintro ((c | c) | c)
      · have c : g = P := c; omega
      · have c : g = S := c; omega
      · have := hC.r g c; omega
theorem gr_end {Q : Nat → Prop} {w W : World} {P base D : Nat} {u1 u3 vv : Value} {us : List Vl} {c : Int} {R R' : Option Nat} (h : BS W P u1 u3 us c base R' vv) (s : StQ Q R w R' W) (hD : w.heap.size ≤ D) (hK : W.heap[D]? = some (.deferred (some []))) : BS (W.putObj D (.deferred none)) P u1 u3 us c base R' vv ∧ StQ Q R w R' (W.putObj D (.deferred none)) := by
  have g := grownBy_putObj' W D (.deferred none)
  have hr : ∀ r, some D = some r → w.heap.size ≤ r ∧ ∃ o : Obj, W.heap[r]? = some o ∧ o.isCells = false := fun r e => by cases e; exact ⟨hD, _, hK, rfl⟩
  exact ⟨BS.chg h (chg_grow g) (not_row hr (fun o ho => cell_cells h.c0 ho)) (fun b hb => not_row hr (fun o ho => own_cells h.own (by rw [h.row]; exact hb) ho)), s.own g (fun r e => (hr r e).1)⟩
set_option maxRecDepth 100000 in
set_option maxHeartbeats 8000000 in
/-- s hangs on x: the rules from the last to the first. -/
theorem gradient_run (w : World) (lo P K A S n s x m base : Nat) (u1 u3 vv rv : Value) (vs0 : List Vl) (R : Option Nat) (rs : List Value) (hm : m = s - x) (hN : NB w w lo P K A S n u1 u3 vv rv vs0 x m base R rs) (hC : NbC lo P K A S R) (hn : vs0.length = n) (hl : n ≤ 2000) (hs : s < n) (hx : x < n)
    (hlen : ∀ j, j < n → 1 ≤ (vs0.getD j Vl.zero).len ∧ (vs0.getD j Vl.zero).len ≤ 1000) (hz : SzU 2000 50000 vs0) (hops : ∀ j, j < n → ∀ k, k < cnt (vs0.getD j Vl.zero).op → 0 ≤ fld (vs0.getD j Vl.zero) k ∧ fld (vs0.getD j Vl.zero) k < j) (ha : (actM vs0 x (s - x)).getD s false = true) :
    Calls Try.prog 95 #[.pointer (some ⟨K, 0, none⟩), .int .i64 (s : Int), .int .i64 (x : Int)] w fun e w' => GrO w P S u1 u3 base R (grM vs0 s x) e w' := by
  have HG : Hid (grM vs0 s x = gfin vs0 x (gfold vs0 (actM vs0 x (s - x)) x (gst0 vs0 s) (downs (s - x)))) := by
    show _ = _
    unfold grM
    rw [if_pos ha]
  rw [← hm] at ha HG
  have y0 := hN.bk.c0
  have y1 := hN.bk.c1
  have y2 := hN.bk.c2
  have y3 := hN.bk.c3
  have yA := BR.cell hN.bk.ac s (by rw [hN.bk.al]; exact hs)
  rw [ha] at yA
  have hb := bndZ hz (by omega) (by omega)
  have HX : Hid _ := putConst_bd w.drew P u1 u3 vs0 (cellsV vs0) base R vv 1 4607182418800017408 (BS.keep hN.bs (kept_drew w)) (by omega) (by omega) (by omega) (by omega) (by omega)
  have hs1 : (0 : Int) ≤ (s : Int) := by omega
  have hs2 : (s : Int) < (n : Int) := by omega
  have hx1 : (0 : Int) ≤ (x : Int) := by omega
  have hx2 : (x : Int) < (n : Int) := by omega
  have HN : Hid _ := hN
  have HC : Hid _ := hC
  have HM : Hid (m = s - x) := hm
  have HLE : Hid _ := hlen
  have HZ : Hid _ := hz
  have HOS : Hid _ := hops
  have HNN : Hid (vs0.length = n) := hn
  clear hN hlen hz ha hb hC hm hops hn
  refine callsIn_wide.1 (callsIn_of_wp_marks (F := Fence.wide) (n := 3) Try.func95 rfl trivial ?_ rfl)
  simp only [Try.ntmps95, List.size_toArray, List.length_cons, List.length_nil, Nat.reduceAdd, Nat.reduceSub, Array.replicate_succ, Array.replicate_zero, List.push_toArray, List.append_toArray, List.nil_append, List.cons_append]
  rw [wpIn_wide]
  go_wp2_with fail
  go_cut [] from 9 to 61 (fun wx => ∃ R1 vv1, Hid (G1S w wx P K A S n u1 u3 rv (actM vs0 x m) base R R1 vv1 (gst0 vs0 s)))
  case first =>
    go_region_held3 (fun w' => w'.cell? ⟨K, 0, none⟩ = some (.pointer (some ⟨P, 0, none⟩)) ∧ w'.cell? ⟨K, 2, none⟩ = some (.slice (some ⟨S, 0, none⟩) n n)) (first | go_keep | (refine ⟨?_, ?_⟩ <;> (rw [cell_ne _ _ _ _ _ _ (.inl (fun e => HC.out.dj.ks e.symm))]; assumption))) (first
      | (go_at_call 131; refine Calls.mono HX.out ?_; rintro e w2 ⟨rfl, R2, vv2, h2, s2⟩; have s9 : Stp P R w R2 w2 := StQ.trans ⟨(kept_drew w).chg, .inl rfl⟩ s2; have HS9 : Hid _ := s9; have H2 : Hid _ := h2; have HB2 : Hid _ := HN.out.bk.step HC.out.dj s9; have z0 := HB2.out.c0; have z2 := HB2.out.c2; have zS := IR.cell HB2.out.sp s (by simp; exact hs); have zf := IR.free HB2.out.sp s; generalize (List.replicate n (-1 : Int)).getD s 0 = zz at zS; clear s9 h2 s2))
    all_goals
      have HD2 : Hid _ := HC.out.dj.step HS9.out HN.out.bk.lt HN.out.bk.ac.lt HN.out.bk.sp.lt
      have R1 : Hid (G1S w (w2.setCell ⟨S, s, none⟩ (.int .i64 ((vs0.length : Nat) : Int))) P K A S n u1 u3 rv (actM vs0 x m) base R R2 vv2 (gst0 vs0 s)) := by
        refine ⟨?_, ?_, HD2.out, StQ.trans (HS9.out.mono fun b c => .inl c) ⟨chg_setCell w2 S s _ (.inl (.inr rfl)), .inl rfl⟩⟩
        · show BS _ _ _ _ (vs0 ++ _) (cellsV (vs0 ++ _)) _ _ _
          rw [cellsV_app]
          exact BS.setS H2.out HD2.out.sp HD2.out.rs
        · have := HB2.out.set HD2.out s ((vs0.length : Nat) : Int)
          unfold gst0
          rw [HNN.out] at this ⊢
          exact this
      clear HB2 H2 HS9 HD2
      go_wp2_with fail
      go_meet
      exact ⟨_, _, R1⟩
  case rest =>
    obtain ⟨R1, vv1, H1⟩ := hcut
    clear HX y0 y1 y2 y3 yA
    have z3 := H1.out.bk.c3
    obtain ⟨ar, cr, rfl⟩ := own_form HN.out.row
    go_wp2_with (first | (go_at_call 132; refine Calls.mono (callsIn_wide.1 (backward_in Fence.wide 3 trivial rfl _ _ _ _)) ?_; rintro e w2 ⟨rfl, rfl⟩) | fail)
    have hT := bki_start HN.out HC.out H1.out 170
    obtain ⟨g, hg, hBk⟩ := hT
    have HGI : Hid _ := H1.out.gi HC.out (.cells #[.slice ar m cr] 170)
    have hlo : lo ≤ wc.heap.size := by have := H1.out.stq.chg.size; have := HN.out.sz; omega
    have hw0 : w.heap.size ≤ (wc.alloc (.cells #[.slice ar m cr] 170)).heap.size := by have := H1.out.stq.chg.size; simp; omega
    have hBs : wc.heap.size + 1 ≤ (wc.alloc (.cells #[.slice ar m cr] 170)).heap.size := by simp
    have HS1 : Hid (StQ (fun b => b = P ∨ b = S) R w R1 (wc.alloc (.cells #[.slice ar m cr] 170))) := StQ.trans H1.out.stq ⟨(kept_alloc 0 0 wc _).chg, .inl rfl⟩
    have HST : Hid (SzU 2001 51000 (gst0 vs0 s).1 ∧ Pre vs0 (gst0 vs0 s).1) := ⟨SzU.app (L' := 1) (C' := 1000) HZ.out ⟨by simp, by simp [cellsV], by simp [cellsV]⟩, ⟨_, rfl⟩⟩
    clear z3
    generalize hW1 : wc.alloc (.cells #[.slice ar m cr] 170) = W1 at HGI hw0 hBk hBs HS1 ⊢
    generalize hBB : wc.heap.size = Bs at HGI hBk hlo hBs ⊢
    clear H1 hW1
    refine (wpIn_wide (n := 3)).1 ?_
    refine wpIn_rangeFunc_ownG (F := Fence.wide) rfl (by decide) (gf := 161) (lb := #[.pointer (some ⟨Bs, 0, none⟩)]) rfl trivial (enters_of Try.func161 (by kernel_rfl) rfl)
      (back_stops Fence.wide (3 - 1) trivial rfl (by decide) Bs g m cr ar rs (by have := HM.out; omega) (Kpp lo w.heap.size Bs) (fun A B k h => bki_same k hg h) W1 hBk)
      (fun h k => ⟨h.1.trans k.1 (Nat.le_refl _) (Nat.le_refl _), h.2.trans k.2 (Nat.le_refl _) (Nat.le_refl _)⟩) (fun W l o o' hl h _ _ => ⟨Same.put W l o o' hw0 hl h, Same.put W l o o' hBs hl h⟩) (Below.refl _ _) (fun _ => rfl)
      (fun pre W => GI w W1 W lo P K A S n Bs u1 u3 (.slice ar m cr) (actM vs0 x m) base R1 (gfold vs0 (actM vs0 x m) x (gst0 vs0 s) (pre.map Fin.val))) (fun _ _ _ => False)
      (fun pre A B row h hgr hr => h.own hw0 hgr hr) (fun _ _ _ _ _ h _ _ => h) HGI.out
      (fun y : Fin m => { tmps := #[.pointer (some ⟨K, 0, none⟩), .int .i64 (s : Int), .int .i64 (x : Int), undef, undef, undef, .int .i64 0, undef, rs[y.1]?.getD .nilFunc, u9, u10, u11, u12, u13, u14, u15, u16, u17, u18, u19, u20, u21, u22, u23, u24, u25, u26, .pointer (some ⟨K, 0, none⟩), .pointer (some ⟨K, 0, none⟩), .pointer (some ⟨K, 3, none⟩), .slice ar m cr, .func (.func 161) #[] #[.pointer (some ⟨Bs, 0, none⟩)], .int .i64 (y.1 : Int), rs[y.1]?.getD .nilFunc, u34, u35, u36, u37, u38, u39, u40, u41, u42, u43, u44, u45, u46, u47, u48, u49, u50, u51, u52, u53, u54, u55, u56, u57, u58, u59, u60, u61], defers := [] }) ?assign ?body ?done ?stop
    case assign =>
      intro l y W K hK
      gi_wp2
      exact hK
    case body =>
      rintro l pre y W hI hlen
      obtain ⟨xw, xi, xo, xp, go, a6, mp6, cp6, fv6, hr6, ri6⟩ := HN.out.rule y.1 y.2
      have hy : x + 1 + y.1 < n := by have := HM.out; have := y.2; omega
      have hinv := gfold_inv (act := actM vs0 x m) (x := x) (lnB_of (by rw [HNN.out]; exact HLE.out)) (pre.map Fin.val) 2001 51000 (gst0 vs0 s) HST.out.1 HST.out.2
      have hm2 : m ≤ 2000 := by have := HM.out; omega
      have HRU : Hid _ := gi_rule ri6 hI HC.out.s hlo hy HNN.out hinv.2.1 hinv.1 (by simp; omega) (by simp; omega) HLE.out (HOS.out _ hy)
      rw [hr6]
      clear hI hinv ri6 hr6
      gi_wp2_with ((try refine ⟨trivial, ?_⟩); gi_at_call 158; refine (CallsIn.inRound l (callsIn_wide.2 HRU.out)).mono ?_; rintro e W' ⟨rfl, ko, kp, gi⟩)
      refine ⟨ko.from _, kp, ?_⟩
      dsimp only
      rw [List.map_append, List.map_cons, List.map_nil, gfold_snoc]
      exact gi
    case done =>
      rintro D ys W hD hS hI hK
      rw [hS] at hI
      have hinv := gfold_inv (act := actM vs0 x m) (x := x) (lnB_of (by rw [HNN.out]; exact HLE.out)) (downs m) 2001 51000 (gst0 vs0 s) HST.out.1 HST.out.2
      have hdl : (downs m).length = m := by simp [downs]
      have hm2 : m ≤ 2000 := by have := HM.out; omega
      rw [hdl] at hinv
      obtain ⟨R2, vv2, f, _, _⟩ := hI
      change RSt _ _ _ _ _ _ _ _ _ _ _ _ _ _ _ _ _ _ (gfold vs0 (actM vs0 x m) x (gst0 vs0 s) (downs m)) at f
      generalize gfold vs0 (actM vs0 x m) x (gst0 vs0 s) (downs m) = st at f hinv HG
      have hD0 : w.heap.size ≤ D := Nat.le_trans hw0 hD
      have HST2 : Hid (StQ (fun b => b = P ∨ b = S) R w R2 W) := StQ.trans HS1.out f.stq
      have HF : Hid _ := f
      have hb := bndZ hinv.1 (by omega) (by omega)
      have y0 := f.bk.c0
      have y2 := f.bk.c2
      have yS := IR.cell f.bk.sp x (by rw [f.bk.ln]; exact hx)
      have hxl := HLE.out x hx
      have hpx := hinv.2.1.at_ (show x < vs0.length by rw [HNN.out]; exact hx)
      by_cases hq : st.2.getD x 0 = -1
      · rw [hq] at yS
        have HG2 : Hid (grM vs0 s x = (st.1 ++ [vput 1 (vs0.getD x Vl.zero).len 0 0 0], ((st.1.length : Nat) : Int))) := by
          show _ = _
          rw [HG.out]
          unfold gfin
          rw [if_pos hq]
        have HX : Hid _ := putZeros_bd W.drew P u1 u3 st.1 (cellsV st.1) base R2 vv2 (vs0.getD x Vl.zero).len (BS.keep f.bs (kept_drew W)) (by omega) (by omega) (by omega) (by omega) (by omega)
        have HL : Hid _ := bldLen W.drew P u1 u3 st.1 (cellsV st.1) base R2 vv2 (BS.keep f.bs (kept_drew W)) x hpx.2 (by omega)
        rw [hpx.1] at HL
        generalize (vs0.getD x Vl.zero).len = L at HX HL HG2
        have HKD : Hid (W.drew.heap[D]? = some (.deferred (some []))) := hK
        clear f hinv hb hxl hpx hq HG HGI hBk HST hK hS
        go_wp2_with fail
        go_region_held3 (fun w' => w'.cell? ⟨K, 0, none⟩ = some (.pointer (some ⟨P, 0, none⟩))) (go_keep) (first
          | (go_at_call 134; refine Calls.mono HL.out ?_; rintro e w1 ⟨rfl, rfl⟩)
          | (go_at_call 133; refine Calls.mono HX.out ?_; rintro e w2 ⟨rfl, R3, vv3, h2, s2⟩; have H2 : Hid _ := h2; have S2 : Hid _ := s2; have z0 := (HF.out.bk.step HF.out.dj (StQ.trans ⟨(kept_drew W).chg, .inl rfl⟩ s2)).c0; have HK2 : Hid (w2.heap[D]? = some (.deferred (some []))) := (StQ.others (s2.mono fun b c => .inl c) (BS.keep HF.out.bs (kept_drew W)) (HF.out.bk.keep (kept_drew W))).same D _ HKD.out rfl; clear h2 s2))
        all_goals
          go_wp2_with fail
          refine ⟨by simp, .inl ⟨_, _, rfl, run_takeDeferred HK2.out, ?_⟩⟩
          have hst : StQ (fun b => b = P ∨ b = S) R w R3 w2 := StQ.trans HST2.out (StQ.trans ⟨(kept_drew W).chg, .inl rfl⟩ (S2.out.mono fun b c => .inl c))
          have hbs : BS w2 P u1 u3 (st.1 ++ [vput 1 L 0 0 0]) (cellsV (st.1 ++ [vput 1 L 0 0 0])) base R3 vv3 := by
            rw [cellsV_app]
            exact H2.out
          have he := gr_end hbs hst hD0 HK2.out
          refine ⟨_, results_tmp rfl _ _ _, ?_⟩
          rw [HG2.out]
          exact ⟨rfl, R3, vv3, he.1, he.2⟩
      · have hq1 : (st.2.getD x 0 == -1) = false := by simp; exact hq
        have HG2 : Hid (grM vs0 s x = (st.1, st.2.getD x 0)) := by
          show _ = _
          rw [HG.out]
          unfold gfin
          rw [if_neg hq]
        generalize st.2.getD x 0 = q at yS hq1 HG2
        have HKD : Hid (W.heap[D]? = some (.deferred (some []))) := hK
        clear f hinv hb hxl hpx hq HG HGI hBk HST hK hS
        go_wp2_with fail
        refine ⟨by simp, .inl ⟨_, _, rfl, run_takeDeferred HKD.out, ?_⟩⟩
        have he := gr_end HF.out.bs HST2.out hD0 HKD.out
        refine ⟨_, results_tmp rfl _ _ _, ?_⟩
        rw [HG2.out]
        exact ⟨rfl, R2, vv2, he.1, he.2⟩
    case stop =>
      rintro D c pre W _ _ h _
      exact h.elim
end Go.Proofs.Ytdkjdlimcnddkaa
