import Derived.Test.YtcphabjekfihnaaR05
namespace Go.Proofs.Ytcphabjekfihnaa
open Go.RowKit Flt
attribute [local go_sem] alloc_drewN setCell_drewN run_store_float

theorem fld_at (v : Vl) {q : Nat} (hq : q < 3) : fld v q = [v.a, v.b, v.c].getD q 0 := by
  rcases (by omega : q = 0 ∨ q = 1 ∨ q = 2) with rfl | rfl | rfl <;> rfl
theorem opl_in (v : Vl) (Vs : List (List Nat)) {q : Nat} (hq : q < cnt v.op) : (opl v Vs (cnt v.op)).getD q [] = Vs.getD (fld v q).toNat [] := by
  have := cnt_le v.op
  rcases (by omega : q = 0 ∨ q = 1 ∨ q = 2) with rfl | rfl | rfl
  · show (if 0 < cnt v.op then _ else _) = _; rw [if_pos hq]; rfl
  · show (if 1 < cnt v.op then _ else _) = _; rw [if_pos hq]; rfl
  · show (if 2 < cnt v.op then _ else _) = _; rw [if_pos hq]; rfl
theorem opl_out (v : Vl) (Vs : List (List Nat)) {q : Nat} (hq : q < 3) (h : ¬ q < cnt v.op) : (opl v Vs (cnt v.op)).getD q [] = [] := by
  rcases (by omega : q = 0 ∨ q = 1 ∨ q = 2) with rfl | rfl | rfl
  · show (if 0 < cnt v.op then _ else _) = _; rw [if_neg h]
  · show (if 1 < cnt v.op then _ else _) = _; rw [if_neg h]
  · show (if 2 < cnt v.op then _ else _) = _; rw [if_neg h]
theorem own_blk {base e size n : Nat} {v : Value} {xs : List Value} {W : World} (h : W.ownsRow base e size v n xs) {k : Nat} (hk : v.ownBlock = some k) : base ≤ k ∧ k < W.heap.size := by
  rcases h.2 with ⟨rfl, _⟩ | ⟨g, cap, cur, rfl, b1, b2, _⟩
  · simp [Value.ownBlock] at hk
  · have e : g = k := by simpa [Value.ownBlock] using hk
    subst e
    refine ⟨b1, ?_⟩
    rcases Nat.lt_or_ge g W.heap.size with c | c
    · exact c
    · rw [Array.getElem?_eq_none c] at b2; cases b2
theorem us_keep {W W' : World} {us : List Value} {k : Nat} {v : Value} {Vs : List (List Nat)} (h : ∀ j, j < k → ∃ b n c, us[j]? = some (.slice b n c) ∧ Cl W (.slice b n c) (Vs.getD j []) ∧ (0 < n → ∀ p, b = some p → v.ownBlock ≠ some p.block)) (q : Kept 0 0 W W') :
    ∀ j, j < k → ∃ b n c, us[j]? = some (.slice b n c) ∧ Cl W' (.slice b n c) (Vs.getD j []) ∧ (0 < n → ∀ p, b = some p → v.ownBlock ≠ some p.block) := fun j hj => by
  obtain ⟨b, n, c, a1, a2, a3⟩ := h j hj
  exact ⟨b, n, c, a1, a2.keep q, a3⟩
theorem getD_last {xss : List (List Nat)} {ys : List Nat} {k : Nat} (h : xss.length = k) : (xss ++ [ys]).getD k [] = ys := by
  rw [List.getD_eq_getElem?_getD, List.getElem?_append_right (by omega), h, Nat.sub_self]; rfl
theorem getD_mem {xs : List Int} {q : Nat} (h : q < xs.length) : xs.getD q 0 ∈ xs := by
  rw [List.getD_eq_getElem?_getD, List.getElem?_eq_getElem h]
  exact List.getElem_mem _
/-- What a valid value says of its operands. -/
theorem ok_ops {ins : List Int} {vs : List Vl} {k : Nat} (ok : okV ins vs k = true) (h0 : (vs.getD k Vl.zero).op ≠ 0) :
    (1 ≤ (vs.getD k Vl.zero).op ∧ (vs.getD k Vl.zero).op ≤ 13) ∧ ∀ q, q < cnt (vs.getD k Vl.zero).op → 0 ≤ fld (vs.getD k Vl.zero) q ∧ fld (vs.getD k Vl.zero) q < k := by
  unfold okV at ok
  rw [if_neg h0] at ok
  simp only [Bool.and_eq_true] at ok
  refine ⟨?_, fun q hq => ?_⟩
  · by_cases c : 0 ≤ (vs.getD k Vl.zero).op ∧ (vs.getD k Vl.zero).op ≤ 13
    · omega
    · have := ok.2.2
      rw [shape_out c] at this
      cases this
  · have h := List.all_eq_true.1 ok.2.1 ((opsOf (vs.getD k Vl.zero)).getD q 0) (getD_mem (by rw [opsOf_len]; exact hq))
    have h2 := of_decide_eq_true h
    rw [opsOf_at _ hq, ← fld_at _ (by have := cnt_le (vs.getD k Vl.zero).op; omega)] at h2
    exact h2
theorem ok_in {ins : List Int} {vs : List Vl} {k : Nat} (ok : okV ins vs k = true) (h0 : (vs.getD k Vl.zero).op = 0) :
    0 ≤ (vs.getD k Vl.zero).a ∧ (vs.getD k Vl.zero).a < ins.length ∧ 1 ≤ (vs.getD k Vl.zero).len ∧ (vs.getD k Vl.zero).len ≤ 1000 ∧ (vs.getD k Vl.zero).len = ins.getD (vs.getD k Vl.zero).a.toNat 0 := by
  have l := okV_len ok
  unfold okV at ok
  rw [if_pos h0] at ok
  simp only [Bool.and_eq_true] at ok
  have := of_decide_eq_true ok.2.1
  exact ⟨this.1, this.2, l.1, l.2, by simpa using ok.2.2⟩

/-- The cells that are read ahead of Kernel: the value's box at A, the list of arguments at B. -/
def NC (w' : World) (A B : Nat) (v : Vl) (x0 x1 x2 : Value) : Prop :=
  w'.cell? ⟨A, 0, none⟩ = some (.int .i64 v.op) ∧ w'.cell? ⟨A, 0 + 1, none⟩ = some (.int .i64 v.len) ∧ w'.cell? ⟨A, 0 + 2, none⟩ = some (.int .i64 v.a) ∧ w'.cell? ⟨A, 0 + 3, none⟩ = some (.int .i64 v.b) ∧ w'.cell? ⟨A, 0 + 4, none⟩ = some (.int .i64 v.c) ∧ w'.cell? ⟨A, 0 + 5, none⟩ = some (.float .f64 v.k) ∧ w'.cell? ⟨B, 0, none⟩ = some x0 ∧ w'.cell? ⟨B, 1, none⟩ = some x1 ∧ w'.cell? ⟨B, 2, none⟩ = some x2
theorem NC.of {w w' : World} {A B : Nat} {v : Vl} {x0 x1 x2 : Value} (h : NC w A B v x0 x1 x2) (e : ∀ g o u, (g = A ∨ g = B) → w.cell? ⟨g, o, none⟩ = some u → w'.cell? ⟨g, o, none⟩ = some u) : NC w' A B v x0 x1 x2 := by
  obtain ⟨h0, h1, h2, h3, h4, h5, h6, h7, h8⟩ := h
  exact ⟨e _ _ _ (.inl rfl) h0, e _ _ _ (.inl rfl) h1, e _ _ _ (.inl rfl) h2, e _ _ _ (.inl rfl) h3, e _ _ _ (.inl rfl) h4, e _ _ _ (.inl rfl) h5, e _ _ _ (.inr rfl) h6, e _ _ _ (.inr rfl) h7, e _ _ _ (.inr rfl) h8⟩
theorem NC.keep {w w' : World} {A B : Nat} {v : Vl} {x0 x1 x2 : Value} (h : NC w A B v x0 x1 x2) (k : Kept 0 0 w w') (hA : A < w.heap.size) (hB : B < w.heap.size) : NC w' A B v x0 x1 x2 :=
  h.of fun g o u hg hc => kcell k (by rcases hg with rfl | rfl; exact hA; exact hB) hc
theorem NC.far {w w' : World} {row : Option Nat} {A B N : Nat} {v : Vl} {x0 x1 x2 : Value} (h : NC w A B v x0 x1 x2) (hg : w.grownBy w' row) (hr : ∀ i, row = some i → i < N) (nA : N ≤ A) (nB : N ≤ B) (hA : A < w.heap.size) (hB : B < w.heap.size) : NC w' A B v x0 x1 x2 :=
  h.of fun g o u hg' hc => by
    rw [hg.cell_far ⟨g, o, none⟩ (by rcases hg' with rfl | rfl; exact hA; exact hB) (fun c => by have := hr g c.symm; omega)]
    exact hc

set_option maxRecDepth 100000 in
set_option maxHeartbeats 4000000 in
theorem l1values (w : World) (a1 a2 a3 b : Option Addr) (n1 c1 n2 c2 n3 c3 m cb : Nat) (ins : List Int) (vs : List Vl) (outs : List Int) (xss : List (List Nat)) (f : GS w a1 n1 a2 n2 a3 n3 ins vs outs) (s : SS w b m xss) (hw : Words xss) (h : (List.range n2).all (okV ins vs) = true) (h2 : inB ins xss = true) (l2 : n2 ≤ 2000) :
    Calls Try.prog 108 #[gagg a1 n1 c1 a2 n2 c2 a3 n3 c3, .slice b m cb] w fun e w' => ∃ a cap zss, e = .returned (.slice a n2 cap) ∧ SS w' a n2 zss ∧ (∀ j, j < n2 → same (zss.getD j []) ((valsTo xss vs n2).getD j [])) ∧ Kept 0 0 w w' := by
  obtain ⟨i0, hi, hz0, hz1, hz2⟩ := info_parts infoS
  have e1 := f.i.len
  have e2 := f.v.len
  have HV : Hid _ := h
  have HW : Hid _ := vals_lt (vs := vs) hw (fun k => by
    rw [List.getD_eq_getElem?_getD]
    cases hh : vs[k]? with
    | none => decide
    | some v => exact f.v.lt v (List.mem_of_getElem? hh))
  have HI : Hid (∀ i, i < n1 → ((xss.getD i []).length : Int) = ins.getD i 0) := fun i hi => by
    have := h2
    unfold inB at this
    simp only [Bool.and_eq_true, e1] at this
    simpa using List.all_eq_true.1 this.2 i (List.mem_range.2 hi)
  have HM : Hid (m = n1) := by
    have := h2
    unfold inB at this
    simp only [Bool.and_eq_true, decide_eq_true_eq, e1, s.len] at this
    exact this.1
  have hK := kept_alloc 0 0 w (gbox a1 n1 c1 a2 n2 c2 a3 n3 c3)
  have HB : Hid _ := g0_start w (.slice a1 n1 c1) (.slice a2 n2 c2) (.slice a3 n3 c3)
  have HF : Hid _ := f.keep hK
  have HS : Hid _ := s.keep hK
  have HK : Hid _ := hK
  have HZ : Hid (w.heap.size + 1 ≤ (w.alloc (gbox a1 n1 c1 a2 n2 c2 a3 n3 c3)).heap.size) := by show _ ≤ _; simp
  clear hK h f s hw
  go_enter Try.func108, Try.ntmps108
  go_wp2_with fail
  generalize w.alloc (gbox a1 n1 c1 a2 n2 c2 a3 n3 c3) = w1 at HB HF HS HK HZ ⊢
  go_loopw [5, 6] (fun u i W => ∃ k : Nat, k ≤ n2 ∧ i = .int .i64 k ∧ Hid (AR W w1.heap.size u k (valsTo xss vs k)) ∧ Hid (Kept 0 0 w1 W)) (fun _ i _ => n2 - (intOf i).toNat)
  case atStart => exact ⟨0, Nat.zero_le _, rfl, AR.nil _ _ _, Kept.refl _ _ _⟩
  case round =>
    obtain ⟨k, hk, rfl, hP, hK⟩ := hrel
    have q1 := (G0.keep HB.out hK.out).q1
    by_cases hlt : k < n2
    · have hF := GS.keep HF.out hK.out
      rcases hF.v.at_ with z0 | ⟨ga, oa, ea, z1, z2, z3, z4⟩
      · omega
      have hat := z4 k hlt
      have ok : okV ins vs k = true := List.all_eq_true.1 HV.out k (List.mem_range.2 hlt)
      have hvk : (vs.getD k Vl.zero).k < 18446744073709551616 := by
        rw [List.getD_eq_getElem?_getD]
        cases hh : vs[k]? with
        | none => decide
        | some v => exact hF.v.lt v (List.mem_of_getElem? hh)
      have HVK : Hid _ := hvk
      have kb := kept_alloc 0 0 wr (vbox (vs.getD k Vl.zero).op (vs.getD k Vl.zero).len (vs.getD k Vl.zero).a (vs.getD k Vl.zero).b (vs.getD k Vl.zero).c (vs.getD k Vl.zero).k)
      have HKB : Hid _ := kb
      obtain ⟨us, hown, hus⟩ := hP.out
      have HRB : Hid (∀ i, u5.ownBlock = some i → i < wr.heap.size) := fun i hi => (own_blk hown hi).2
      have HOWN : Hid _ := own_keep hown kb
      have HUS : Hid _ := hus
      clear hown hus
      by_cases hop : (vs.getD k Vl.zero).op = 0
      · have HV9 : Hid (valsTo xss vs (k + 1) = valsTo xss vs k ++ [xss.getD (vs.getD k Vl.zero).a.toNat []]) := by
          show _ = _
          rw [valsTo]
          unfold one
          rw [if_pos hop]
        have hin := ok_in ok hop
        rw [e1] at hin
        have hin2 := HI.out (vs.getD k Vl.zero).a.toNat (by omega)
        rw [← hin.2.2.2.2] at hin2
        clear z1 z2 z3 z4 ok hF kb hvk
        generalize vs.getD k Vl.zero = v at hat HKB HOWN HV9 hop hin hin2 HVK
        obtain ⟨op, len, A, B, C, K⟩ := v
        simp only at hop hin hin2 HV9
        subst hop
        obtain ⟨x, rfl⟩ : ∃ x : Nat, A = x := ⟨A.toNat, by omega⟩
        rw [Int.toNat_natCast] at hin2 HV9
        have hxm : x < m := by have := HM.out; omega
        rcases (SS.keep HS.out (Kept.trans hK.out HKB.out)).at_ with z0 | ⟨gb, ob, eb, y1, y2⟩
        · omega
        obtain ⟨b1, cc1, g1, g2, g3⟩ := y2 x hxm
        rcases g3.at_ with z0 | ⟨gc, oc, ec, x1, x2, x3, x4⟩
        · omega
        have HC : Hid _ := l1copy _ gc oc (xss.getD x []).length cc1 (xss.getD x []) (by omega) (by omega) rfl g3.lt x4
        subst ea eb ec
        clear y1 y2 g2 g3 x1 x2 x3 x4
        generalize xss.getD x [] = ys at g1 HC HV9 hin2
        obtain ⟨ny, hny⟩ : ∃ ny, ny = ys.length := ⟨_, rfl⟩
        rw [← hny] at g1 HC hin2
        have HNY : Hid (ny = ys.length ∧ 1 ≤ ny ∧ ny ≤ 1000) := ⟨hny, by omega, by omega⟩
        clear hin hin2 hny
        obtain ⟨d0, d1, d2, d3, d4, d5⟩ := hat
        simp only at d0 d1 d2 d3 d4 d5
        go_wp2_with fail
        refine Calls.mono HC.out ?_
        rintro e w5 ⟨G, cap, rfl, h7, f7, b7, k7⟩
        have hown := own_keep HOWN.out k7
        have hz5 : w1.heap.size ≤ w5.heap.size := (Kept.trans hK.out (Kept.trans HKB.out k7)).size
        clear HC g1 d0 d1 d2 d3 d4 d5 q1
        go_wp2_with (first | (at_builtin; refine wpList_append_lies _ rfl _ _ 58 rfl w1.heap.size 38 i0 (.slice none 0 0) 1 24 Try.underlying58 hi hz0 hz1 hz2 rfl (by decide) _ _ us rfl (hown.alloc _) ⟨w5.heap.size, 0, none⟩ 1 1 [.slice (some ⟨G, 0, none⟩) ny cap] rfl rfl ?c1 ?c2 (by decide) ?c3 ?c4 ?c5 _ rfl ?_))
        case c1 => exact cell_one_new _ _ _
        case c2 => intro u hu; simp at hu; subst hu; rfl
        case c3 => unfold maxLen; omega
        case c4 => omega
        case c5 => simp; omega
        intro g9 cap9 w9 hown9 hg9 hat9 _
        have R1 : Hid (AR w9 w1.heap.size (.slice (some ⟨g9, 0, none⟩) (k + 1) cap9) (k + 1) (valsTo xss vs (k + 1))) :=
          AR.step (W := w5) (Vs := valsTo xss vs k) hown (us_keep HUS.out (Kept.trans HKB.out k7)) (x := ys) ⟨_, _, _, ys, rfl, h7, f7.fs, rfl⟩ (fun _ p hp c => by
            cases hp
            have := (own_blk HOWN.out (k := G) c).2
            omega) hown9 hg9 (by rcases hat9 with h | h; exact .inl h; exact .inr (by rw [h]; simp)) (fun j hj => valsTo_lt _ _ hj) (by rw [HV9.out]; exact getD_last (valsTo_len _ _ _))
        have R2 : Hid _ := grown_kept (base := w1.heap.size) hg9 (fun i hi => (own_blk hown hi).1) ((Kept.trans hK.out (Kept.trans HKB.out k7)).trans (kept_alloc 0 0 w5 _)) (Nat.le_refl _)
        clear hown9 hg9 hat9 hown k7 f7 HUS HOWN HKB hP hK
        go_wp2
        go_roundw
        case rel => exact ⟨k + 1, by omega, by go_num, R1, R2⟩
        case measure => simp [intOf]; omega
      · have HV9 : Hid (valsTo xss vs (k + 1) = valsTo xss vs k ++ [kop (vs.getD k Vl.zero) (valsTo xss vs k)]) := by
          show _ = _
          rw [valsTo]
          unfold one
          rw [if_neg hop]
          rfl
        have hops := ok_ops ok hop
        have HOPS : Hid _ := hops.2
        have hr := hops.1
        clear hops z1 z2 z3 z4 ok hF kb hvk
        generalize vs.getD k Vl.zero = v at hat HKB HOWN HV9 hop hr HOPS HVK
        subst ea
        have HVB : Hid _ := vbox_at wr v
        have HVZ : Hid (wr.heap.size < (wr.alloc (vbox v.op v.len v.a v.b v.c v.k)).heap.size) := by show _ < _; simp
        obtain ⟨d0, d1, d2, d3, d4, d5⟩ := hat
        have t0 : (v.op == 0) = false := beq_eq_false_iff_ne.2 hop
        clear hop
        obtain ⟨w2, hw2⟩ : ∃ w2, w2 = wr := ⟨_, rfl⟩
        subst hw2
        go_wp2_with fail
        clear d0 d1 d2 d3 d4 d5 q1 t0
        have HALL : Hid _ := (⟨us, HOWN.out, us_keep HUS.out HKB.out⟩ : AR _ w1.heap.size _ k (valsTo xss vs k))
        have HK3 : Hid _ := Kept.trans hK.out HKB.out
        have HKV := HKB
        clear HKB HOWN HUS hK
        generalize w2.alloc (vbox v.op v.len v.a v.b v.c v.k) = w3 at HVB HVZ HALL HK3 HKV ⊢
        go_loopw [8, 9] (fun a i W => ∃ q : Nat, q ≤ 3 ∧ i = .int .i64 q ∧ Hid (AR W w3.heap.size a q (opl v (valsTo xss vs k) (cnt v.op))) ∧ Hid (Kept 0 0 w3 W)) (fun _ i _ => 3 - (intOf i).toNat)
        case atStart => exact ⟨0, Nat.zero_le _, rfl, AR.nil _ _ _, Kept.refl _ _ _⟩
        case round =>
          obtain ⟨q, hq, rfl, hA, hKW⟩ := hrel
          obtain ⟨s0, s1, s2, s3, s4, s5⟩ := HVB.out.keep HVZ.out hKW.out (.inr (.inr (Nat.le_refl _)))
          have HO : Hid _ := l1operands_r v.op wr (by omega) (by omega)
          rw [ops1_cnt hr.1 hr.2] at HO
          have hc3 := cnt_le v.op
          by_cases hlt3 : q < 3
          · obtain ⟨vs3, hown3, hvs3⟩ := hA.out
            by_cases hqc : q < cnt v.op
            · have hfq := HOPS.out q hqc
              have tq : (q : Int) < (cnt v.op : Int) := by omega
              obtain ⟨o, ho⟩ : ∃ o : Nat, fld v q = o := ⟨(fld v q).toNat, by omega⟩
              have hX := l1field wr v q (by omega)
              have hE := opl_in v (valsTo xss vs k) hqc
              rw [ho] at hX hfq hE
              rw [Int.toNat_natCast] at hE
              have HX : Hid _ := hX
              have HE : Hid _ := hE
              obtain ⟨gA, capA, eA, bA, ltA, cA⟩ := AR.cell HALL.out (by omega)
              obtain ⟨b1, m1, cc1, g1, g2, _⟩ := cA o (by omega)
              have HG2 : Hid _ := g2
              have hok : o < k := by omega
              subst eA
              clear cA bA g2
              go_wp2_with (first | (go_at_call 79; refine Calls.mono HO.out ?_; rintro e w4 ⟨rfl, rfl⟩) | fail)
              refine Calls.mono HX.out ?_
              rintro e w5 ⟨rfl, k5⟩
              have hown5 := own_keep hown3 k5
              have g3 := kcell (Kept.trans hKW.out k5) ltA g1
              have hz5 : w3.heap.size ≤ w5.heap.size := (Kept.trans hKW.out k5).size
              clear s0 s1 s2 s3 s4 s5 HX HO
              go_wp2_with (first | (at_builtin; refine wpList_append_lies _ rfl _ _ 58 rfl w3.heap.size 38 i0 (.slice none 0 0) 1 24 Try.underlying58 hi hz0 hz1 hz2 rfl (by decide) _ _ vs3 rfl (hown5.alloc _) ⟨w5.heap.size, 0, none⟩ 1 1 [.slice b1 m1 cc1] rfl rfl ?c1 ?c2 (by decide) ?c3 ?c4 ?c5 _ rfl ?_))
              case c1 => exact cell_one_new _ _ _
              case c2 => intro u hu; simp at hu; subst hu; rfl
              case c3 => unfold maxLen; omega
              case c4 => omega
              case c5 => simp; omega
              intro g9 cap9 w9 hown9 hg9 hat9 _
              have R1 : Hid (AR w9 w3.heap.size (.slice (some ⟨g9, 0, none⟩) (q + 1) cap9) (q + 1) (opl v (valsTo xss vs k) (cnt v.op))) :=
                AR.step (W := w5) (Vs := opl v (valsTo xss vs k) (cnt v.op)) hown5 (us_keep hvs3 k5) (x := (valsTo xss vs k).getD o []) (Cl.keep HG2.out (Kept.trans hKW.out k5)) (fun hn p hp c => by
                  have h1 := (own_blk hown5 c).1
                  have h2 := Cl.lt HG2.out hn p hp
                  omega) hown9 hg9 (by rcases hat9 with h | h; exact .inl h; exact .inr (by rw [h]; simp)) (fun j hj => rfl) HE.out
              have R2 : Hid _ := grown_kept (base := w3.heap.size) hg9 (fun i hi => (own_blk hown5 hi).1) ((Kept.trans hKW.out k5).trans (kept_alloc 0 0 w5 _)) (Nat.le_refl _)
              clear hown9 hg9 hat9 hown5 k5 hvs3 hown3 hA hKW g3 g1
              go_wp2
              go_roundw
              case rel => exact ⟨q + 1, by omega, by go_num, R1, R2⟩
              case measure => simp [intOf]; omega
            · have tq : ¬ ((q : Int) < (cnt v.op : Int)) := by omega
              have HE : Hid _ := opl_out v (valsTo xss vs k) hlt3 hqc
              have hz5 : w3.heap.size ≤ wr.heap.size := hKW.out.size
              go_wp2_with (first | (go_at_call 79; refine Calls.mono HO.out ?_; rintro e w4 ⟨rfl, rfl⟩) | (at_builtin; refine wpList_append_lies _ rfl _ _ 58 rfl w3.heap.size 38 i0 (.slice none 0 0) 1 24 Try.underlying58 hi hz0 hz1 hz2 rfl (by decide) _ _ vs3 rfl (hown3.alloc _) ⟨wr.heap.size, 0, none⟩ 1 1 [.slice none 0 0] rfl rfl ?c1 ?c2 (by decide) ?c3 ?c4 ?c5 _ rfl ?_))
              case c1 => exact cell_one_new _ _ _
              case c2 => intro u hu; simp at hu; subst hu; rfl
              case c3 => unfold maxLen; omega
              case c4 => omega
              case c5 => simp; omega
              intro g9 cap9 w9 hown9 hg9 hat9 _
              have R1 : Hid (AR w9 w3.heap.size (.slice (some ⟨g9, 0, none⟩) (q + 1) cap9) (q + 1) (opl v (valsTo xss vs k) (cnt v.op))) :=
                AR.step (W := wr) (Vs := opl v (valsTo xss vs k) (cnt v.op)) hown3 hvs3 (x := []) (Cl.nil _) (fun hn => absurd hn (Nat.lt_irrefl _)) hown9 hg9 (by rcases hat9 with h | h; exact .inl h; exact .inr (by rw [h]; simp)) (fun j hj => rfl) HE.out
              have R2 : Hid _ := grown_kept (base := w3.heap.size) hg9 (fun i hi => (own_blk hown3 hi).1) (Kept.trans hKW.out (kept_alloc 0 0 wr _)) (Nat.le_refl _)
              clear hown9 hg9 hat9 hvs3 hown3 hA hKW s0 s1 s2 s3 s4 s5 HO
              go_wp2
              go_roundw
              case rel => exact ⟨q + 1, by omega, by go_num, R1, R2⟩
              case measure => simp [intOf]; omega
          · obtain rfl : q = 3 := by omega
            obtain ⟨gB, capB, eB, bB, ltB, cB⟩ := AR.cell hA.out (by omega)
            obtain ⟨x0, y0, p0, g0, f0, _⟩ := cB 0 (by omega)
            obtain ⟨x1, y1, p1, g1, f1, _⟩ := cB 1 (by omega)
            obtain ⟨x2, y2, p2, g2, f2, _⟩ := cB 2 (by omega)
            have HE : Hid (∀ m, _) := fun m => specKernelC (wr.drewN m) v HVK.out _ _ _ _ _ _ (f0.keep (kept_drewN 0 0 wr m)) (f1.keep (kept_drewN 0 0 wr m)) (f2.keep (kept_drewN 0 0 wr m)) (ite_lt (HW.out k _))
            obtain ⟨us, hownA, husA⟩ := AR.keep HALL.out hKW.out
            have HUSA : Hid _ := husA
            have HKX : Hid _ := Kept.trans HK3.out hKW.out
            have hzw : w1.heap.size ≤ wr.heap.size := HKX.out.size
            subst eB
            have bB' := bB
            clear cB bB f0 f1 f2 husA hA HO HALL
            go_wp2_with fail
            have HNC : Hid (NC wr w2.heap.size gB v (.slice x0 y0 p0) (.slice x1 y1 p1) (.slice x2 y2 p2)) := ⟨s0, s1, s2, s3, s4, s5, g0, g1, g2⟩
            have HGB : Hid (w3.heap.size ≤ gB ∧ gB < wr.heap.size ∧ w2.heap.size < wr.heap.size ∧ w2.heap.size ≤ gB) := ⟨bB', ltB, by have := hKW.out.size; have := HVZ.out; omega, by have := HVZ.out; omega⟩
            go_region_held3 (fun w' => w'.cell? ⟨w2.heap.size, 0, none⟩ = some (.int .i64 v.op) ∧ w'.cell? ⟨w2.heap.size, 0 + 1, none⟩ = some (.int .i64 v.len) ∧ w'.cell? ⟨w2.heap.size, 0 + 2, none⟩ = some (.int .i64 v.a) ∧ w'.cell? ⟨w2.heap.size, 0 + 3, none⟩ = some (.int .i64 v.b) ∧ w'.cell? ⟨w2.heap.size, 0 + 4, none⟩ = some (.int .i64 v.c) ∧ w'.cell? ⟨w2.heap.size, 0 + 5, none⟩ = some (.float .f64 v.k) ∧ w'.cell? ⟨gB, 0, none⟩ = some (.slice x0 y0 p0) ∧ w'.cell? ⟨gB, 1, none⟩ = some (.slice x1 y1 p1) ∧ w'.cell? ⟨gB, 2, none⟩ = some (.slice x2 y2 p2)) (go_keep)
              (first
                | (go_at_call 28; refine Calls.mono (HE.out _) ?_; rintro e w5 ⟨u, rfl, ⟨b5, m5, c5, zs5, rfl, i1, i2, i3⟩, k5⟩; have hn5 := NC.keep HNC.out (Kept.trans (kept_drewN 0 0 wr 1) k5) HGB.out.2.2.1 HGB.out.2.1; obtain ⟨j0, j1, j2, j3, j4, j5, j6, j7, j8⟩ := hn5)
                | (refine step_append_lies _ rfl (.tmp 55) (.tmp 67) 58 rfl w1.heap.size 38 i0 (.slice none 0 0) 1 24 Try.underlying58 hi hz0 hz1 hz2 rfl (by decide) _ _ us (by simp [Act.eval]) ((own_keep hownA (Kept.trans (kept_drewN 0 0 wr 1) k5)).alloc _) ⟨w5.heap.size, 0, none⟩ 1 1 [.slice b5 m5 c5] (by simp [Act.eval]) rfl (cell_one_new _ _ _) (by intro u hu; simp at hu; subst hu; rfl) (by decide) (by unfold maxLen; omega) (by omega) (by have := k5.size; simp at this; simp; omega) _ rfl ?_; intro g9 cap9 w9 hown9 hg9 hat9 _; have hn9 := NC.far (NC.keep HNC.out ((Kept.trans (kept_drewN 0 0 wr 1) k5).trans (kept_alloc 0 0 w5 (.cells #[.slice b5 m5 c5] 38))) HGB.out.2.2.1 HGB.out.2.1) hg9 HRB.out (Nat.le_refl _) HGB.out.2.2.2 (by have := k5.size; have := HGB.out; simp at *; omega) (by have := k5.size; have := HGB.out; simp at *; omega); obtain ⟨l0, l1, l2, l3, l4, l5, l6, l7, l8⟩ := hn9))
            have hk5 : Kept 0 0 wr w5 := Kept.trans (kept_drewN 0 0 wr 1) k5
            have R1 : Hid (AR w9 w1.heap.size (.slice (some ⟨g9, 0, none⟩) (k + 1) cap9) (k + 1) (valsTo xss vs (k + 1))) :=
              AR.step (W := w5) (Vs := valsTo xss vs k) (own_keep hownA hk5) (us_keep HUSA.out hk5) (x := kop v (valsTo xss vs k)) (Cn.cl ⟨_, _, _, zs5, rfl, i1, i2, i3⟩) (fun h0 p hp c => by
                have h1 := (own_blk hownA c).2
                have h2 := Cn.ge (W := w5) (lo := (wr.drewN 1).heap.size) ⟨_, _, _, zs5, rfl, i1, i2, i3⟩ h0 p hp
                have h3 : (wr.drewN 1).heap.size = wr.heap.size := rfl
                omega) hown9 hg9 (by rcases hat9 with h | h; exact .inl h; exact .inr h) (fun j hj => valsTo_lt _ _ hj) (by rw [HV9.out]; exact getD_last (valsTo_len _ _ _))
            have R2 : Hid _ := grown_kept (base := w1.heap.size) hg9 (fun i hi => (own_blk hownA hi).1) ((Kept.trans HKX.out hk5).trans (kept_alloc 0 0 w5 _)) (Nat.le_refl _)
            clear hown9 hg9 hat9 hownA HUSA HE HKX HNC HGB k5 hk5 i1 i2 i3 l0 l1 l2 l3 l4 l5 l6 l7 l8 j0 j1 j2 j3 j4 j5 j6 j7 j8 s0 s1 s2 s3 s4 s5
            go_wp2
            go_roundw
            case rel => exact ⟨k + 1, by omega, by go_num, R1, R2⟩
            case measure => simp [intOf]; omega
    · obtain rfl : k = n2 := by omega
      obtain ⟨a, cap, zss, rfl, r1, r2⟩ := hP.out.ss
      have R1 : Hid _ := r1
      have R2 : Hid _ := r2
      have R3 : Hid _ := Kept.trans HK.out hK.out
      clear r1 r2 hP hK
      go_wp2
      go_ret
      exact ⟨a, cap, zss, rfl, R1.out, R2.out, R3.out⟩
end Go.Proofs.Ytcphabjekfihnaa
