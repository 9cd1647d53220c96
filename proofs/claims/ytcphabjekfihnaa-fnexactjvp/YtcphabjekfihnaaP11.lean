import Derived.Test.YtcphabjekfihnaaP10
namespace Go.Proofs.Ytcphabjekfihnaa
open Go.RowKit Flt
attribute [local go_sem] alloc_drewN setCell_drewN run_store_float

/-- Whether value i keeps its rules, as the graph stands. -/
def okV (ins : List Int) (vs : List Vl) (i : Nat) : Bool :=
  (lenB (vs.getD i Vl.zero).len && spareB (vs.getD i Vl.zero)) &&
    (if (vs.getD i Vl.zero).op = 0 then idxB (vs.getD i Vl.zero).a ins.length && (vs.getD i Vl.zero).len == ins.getD (vs.getD i Vl.zero).a.toNat 0
     else (opsOf (vs.getD i Vl.zero)).all (idxB · i) && shapeB (vs.getD i Vl.zero).op (vs.getD i Vl.zero).len (vs.getD i Vl.zero).c ((opsOf (vs.getD i Vl.zero)).map fun o => (vs.getD o.toNat Vl.zero).len))

abbrev gbox (a1 : Option Addr) (n1 c1 : Nat) (a2 : Option Addr) (n2 c2 : Nat) (a3 : Option Addr) (n3 c3 : Nat) : Obj := .cells #[.slice a1 n1 c1, .slice a2 n2 c2, .slice a3 n3 c3] 54

set_option maxRecDepth 100000 in
set_option maxHeartbeats 2000000 in
theorem validVal_short (w : World) (a1 a3 : Option Addr) (n1 c1 n2 c2 n3 c3 g2 o2 i : Nat) (v : Vl) (hg : g2 < w.heap.size) (hi : i < n2) (hat : At w g2 (o2 + i * 6) v) (hl : lenB v.len = false) :
    Calls Try.prog 102 #[gagg a1 n1 c1 (some ⟨g2, o2, none⟩) n2 c2 a3 n3 c3, .int .i64 (i : Int)] w fun e w' => e = .returned (.bool false) ∧ Kept 0 0 w w' := by
  have hL : Hid (∀ w, Calls Try.prog 82 #[.int .i64 v.len] w fun e w' => e = .returned (.bool false) ∧ w' = w) := fun w => by
    have := isLength_any v.len w
    rw [hl] at this
    exact this
  clear hl
  have hK := kept_alloc 0 0 w (gbox a1 n1 c1 (some ⟨g2, o2, none⟩) n2 c2 a3 n3 c3)
  obtain ⟨e0, e1, e2, e3, e4, e5⟩ := hat.keep hg hK (.inr (.inr (Nat.le_refl _)))
  clear hat hK
  go_enter Try.func102, Try.ntmps102
  go_wp2_with (go_at_call 82; refine (hL.out _).mono ?_; rintro e w2 ⟨rfl, rfl⟩)
  go_ret
  exact ⟨rfl, (kept_alloc 0 0 w _).trans (kept_alloc 0 0 _ _)⟩

set_option maxRecDepth 100000 in
set_option maxHeartbeats 2000000 in
theorem validVal_spare (w : World) (a1 a3 : Option Addr) (n1 c1 n2 c2 n3 c3 g2 o2 i : Nat) (v : Vl) (hg : g2 < w.heap.size) (hi : i < n2) (hat : At w g2 (o2 + i * 6) v) (hl : lenB v.len = true) (hs : spareB v = false) :
    Calls Try.prog 102 #[gagg a1 n1 c1 (some ⟨g2, o2, none⟩) n2 c2 a3 n3 c3, .int .i64 (i : Int)] w fun e w' => e = .returned (.bool false) ∧ Kept 0 0 w w' := by
  have hL : Hid (∀ w, Calls Try.prog 82 #[.int .i64 v.len] w fun e w' => e = .returned (.bool true) ∧ w' = w) := fun w => by
    have := isLength_any v.len w
    rw [hl] at this
    exact this
  have hS : Hid (∀ w, Calls Try.prog 148 #[v.agg] w fun e w' => e = .returned (.bool false) ∧ Kept 0 0 w w') := fun w => by
    have := spareFields w v
    rw [hs] at this
    exact this
  clear hl hs
  have hK := kept_alloc 0 0 w (gbox a1 n1 c1 (some ⟨g2, o2, none⟩) n2 c2 a3 n3 c3)
  obtain ⟨e0, e1, e2, e3, e4, e5⟩ := hat.keep hg hK (.inr (.inr (Nat.le_refl _)))
  clear hat hK
  go_enter Try.func102, Try.ntmps102
  go_wp2_with (first | (go_at_call 82; refine (hL.out _).mono ?_; rintro e w2 ⟨rfl, rfl⟩) | (go_at_call 148; refine (hS.out _).mono ?_; rintro e w2 ⟨rfl, hk2⟩))
  go_ret
  exact ⟨rfl, ((kept_alloc 0 0 w _).trans (kept_alloc 0 0 _ _)).trans hk2⟩

/-- What validVal holds on to: the box of the graph and the box of the value. -/
structure GB (W : World) (p : Nat) (b0 b1 b2 : Value) (v : Vl) : Prop where
  sz : p + 1 < W.heap.size
  q0 : W.cell? ⟨p, 0, none⟩ = some b0
  q1 : W.cell? ⟨p, 1, none⟩ = some b1
  q2 : W.cell? ⟨p, 2, none⟩ = some b2
  vt : At W (p + 1) 0 v
theorem GB.keep {W W' : World} {p : Nat} {b0 b1 b2 : Value} {v : Vl} (t : GB W p b0 b1 b2 v) (k : Kept 0 0 W W') : GB W' p b0 b1 b2 v := by
  have e : ∀ g o, g ≤ p + 1 → W'.cell? ⟨g, o, none⟩ = W.cell? ⟨g, o, none⟩ := fun g o h => k.cell (p := ⟨g, o, none⟩) (Nat.lt_of_le_of_lt h t.sz) (by omega)
  exact ⟨Nat.lt_of_lt_of_le t.sz k.size, by rw [e _ _ (by omega)]; exact t.q0, by rw [e _ _ (by omega)]; exact t.q1, by rw [e _ _ (by omega)]; exact t.q2, t.vt.keep t.sz k (.inr (.inr (Nat.le_refl _)))⟩
theorem gb_start (w : World) (b0 b1 b2 : Value) (v : Vl) : GB ((w.alloc (.cells #[b0, b1, b2] 54)).alloc (vbox v.op v.len v.a v.b v.c v.k)) w.heap.size b0 b1 b2 v := by
  have h1 : (w.alloc (.cells #[b0, b1, b2] 54)).heap.size = w.heap.size + 1 := by simp
  refine ⟨?_, ?_, ?_, ?_, ?_, ?_, ?_, ?_, ?_, ?_⟩
  all_goals first | (go_simp; done) | (simp; done)

set_option maxRecDepth 100000 in
set_option maxHeartbeats 2000000 in
theorem validVal_input (w : World) (a1 a3 : Option Addr) (n1 c1 n2 c2 n3 c3 g2 o2 i : Nat) (len A B C : Int) (K : Nat) (ins : List Int) (f : IS w 0 w.heap.size a1 n1 ins) (hg : g2 < w.heap.size) (hi : i < n2) (hat : At w g2 (o2 + i * 6) ⟨0, len, A, B, C, K⟩) (hl : lenB len = true) (hs : spareB ⟨0, len, A, B, C, K⟩ = true) :
    Calls Try.prog 102 #[gagg a1 n1 c1 (some ⟨g2, o2, none⟩) n2 c2 a3 n3 c3, .int .i64 (i : Int)] w fun e w' => e = .returned (.bool (idxB A n1 && len == ins.getD A.toNat 0)) ∧ Kept 0 0 w w' := by
  have hL : Hid (∀ w, Calls Try.prog 82 #[.int .i64 len] w fun e w' => e = .returned (.bool true) ∧ w' = w) := fun w => by
    have := isLength_any len w
    rw [hl] at this
    exact this
  have hS : Hid (∀ w, Calls Try.prog 148 #[vagg 0 len A B C K] w fun e w' => e = .returned (.bool true) ∧ Kept 0 0 w w') := fun w => by
    have := spareFields w ⟨0, len, A, B, C, K⟩
    rw [hs] at this
    exact this
  clear hl hs
  have hK := kept_alloc 0 0 w (gbox a1 n1 c1 (some ⟨g2, o2, none⟩) n2 c2 a3 n3 c3)
  obtain ⟨e0, e1, e2, e3, e4, e5⟩ := hat.keep hg hK (.inr (.inr (Nat.le_refl _)))
  have hK2 : Hid _ := hK.trans (kept_alloc 0 0 _ (vbox 0 len A B C K))
  have hB : Hid _ := gb_start w (.slice a1 n1 c1) (.slice (some ⟨g2, o2, none⟩) n2 c2) (.slice a3 n3 c3) ⟨0, len, A, B, C, K⟩
  clear hat hK
  simp only at e0 e1 e2 e3 e4 e5
  by_cases hA : 0 ≤ A ∧ A < n1
  · obtain ⟨j, rfl⟩ : ∃ j : Nat, A = j := ⟨A.toNat, by omega⟩
    rw [show idxB (j : Int) n1 = true from decide_eq_true hA, Bool.true_and, Int.toNat_natCast]
    have hj : j < n1 := by omega
    have hI : Hid (∀ w, Calls Try.prog 103 #[.int .i64 (j : Int), .int .i64 (n1 : Int)] w fun e w' => e = .returned (.bool true) ∧ w' = w) := fun w => by
      have := isIndex_any (j : Int) n1 w
      rw [show idxB (j : Int) n1 = true from decide_eq_true hA] at this
      exact this
    clear hA
    rcases f.at_ with h0 | ⟨g1, o1, rfl, b1, b2, b3, b4⟩
    · omega
    have c0 := b4 j hj
    clear b4 f b1 b2
    generalize ins.getD j 0 = y at c0 ⊢
    go_enter Try.func102, Try.ntmps102
    go_wp2_with (first | (go_at_call 82; refine (hL.out _).mono ?_; rintro e w2 ⟨rfl, rfl⟩) | fail)
    refine (hS.out _).mono ?_
    rintro e w3 ⟨rfl, hk3⟩
    have hK3 := hK2.out.trans hk3
    have hB3 := hB.out.keep hk3
    have q0 := hB3.q0
    have d0 := hB3.vt.c0
    have d1 := hB3.vt.c1
    have d2 := hB3.vt.c2
    have c1 := kcell hK3 b3 c0
    have HK3 : Hid _ := hK3
    simp only at d0 d1 d2
    clear hK3 hB3 hk3 c0 e0 e1 e2 e3 e4 e5
    have j0 : (0 : Int) ≤ (j : Int) := by omega
    have j1 : (j : Int) < (n1 : Int) := by omega
    go_wp2_with fail
    go_quiet ((go_at_call 103; exact Calls.quiet_of_same (hI.out _)))
    go_wp2
    go_ret
    exact ⟨rfl, HK3.out.trans (kept_drewN 0 0 _ _)⟩
  · rw [show idxB A n1 = false from decide_eq_false hA, Bool.false_and]
    have hI : Hid (∀ w, Calls Try.prog 103 #[.int .i64 A, .int .i64 (n1 : Int)] w fun e w' => e = .returned (.bool false) ∧ w' = w) := fun w => by
      have := isIndex_any A n1 w
      rw [show idxB A n1 = false from decide_eq_false hA] at this
      exact this
    clear hA
    go_enter Try.func102, Try.ntmps102
    go_wp2_with (first | (go_at_call 82; refine (hL.out _).mono ?_; rintro e w2 ⟨rfl, rfl⟩) | fail)
    refine (hS.out _).mono ?_
    rintro e w3 ⟨rfl, hk3⟩
    have hK3 := hK2.out.trans hk3
    have hB3 := hB.out.keep hk3
    have q0 := hB3.q0
    have d0 := hB3.vt.c0
    have d1 := hB3.vt.c1
    have d2 := hB3.vt.c2
    have HK3 : Hid _ := hK3
    simp only at d0 d1 d2
    clear hK3 hB3 hk3 e0 e1 e2 e3 e4 e5
    go_wp2_with fail
    go_quiet ((go_at_call 103; exact Calls.quiet_of_same (hI.out _)))
    go_wp2
    go_ret
    exact ⟨rfl, HK3.out.trans (kept_drewN 0 0 _ _)⟩

theorem allI_snoc {xs : List Int} {p : Int → Bool} {k : Nat} (hk : k < xs.length) (h : (xs.take k).all p = true) (t : p (xs.getD k 0) = true) : (xs.take (k + 1)).all p = true := by
  rw [List.take_succ_eq_append_getElem hk, List.all_append, h]
  rw [List.getD_eq_getElem?_getD, List.getElem?_eq_getElem hk] at t
  simpa using t
theorem allI_bad {xs : List Int} {p : Int → Bool} {k : Nat} (hk : k < xs.length) (t : p (xs.getD k 0) = false) : xs.all p = false := by
  rw [List.getD_eq_getElem?_getD, List.getElem?_eq_getElem hk] at t
  rw [List.all_eq_false]
  exact ⟨xs[k], List.getElem_mem _, by simpa using t⟩
theorem mapI_getD {xs : List Int} {f : Int → Int} {k : Nat} (hk : k < xs.length) : (xs.map f).getD k 0 = f (xs.getD k 0) := by
  simp [List.getD_eq_getElem?_getD, List.getElem?_eq_getElem hk]

set_option maxRecDepth 100000 in
set_option maxHeartbeats 4000000 in
theorem validVal_ops (w : World) (a1 a3 : Option Addr) (n1 c1 n2 c2 n3 c3 g2 o2 i : Nat) (v : Vl) (vs : List Vl) (hg : g2 < w.heap.size) (hi : i < n2)
    (hall : ∀ k, k < n2 → At w g2 (o2 + k * 6) (vs.getD k Vl.zero)) (hv : vs.getD i Vl.zero = v) (hl : lenB v.len = true) (hs : spareB v = true) (h0 : v.op ≠ 0) :
    Calls Try.prog 102 #[gagg a1 n1 c1 (some ⟨g2, o2, none⟩) n2 c2 a3 n3 c3, .int .i64 (i : Int)] w fun e w' => e = .returned (.bool ((opsOf v).all (idxB · i) && shapeB v.op v.len v.c ((opsOf v).map fun o => (vs.getD o.toNat Vl.zero).len))) ∧ Kept 0 0 w w' := by
  have hL : Hid (∀ w, Calls Try.prog 82 #[.int .i64 v.len] w fun e w' => e = .returned (.bool true) ∧ w' = w) := fun w => by
    have := isLength_any v.len w
    rw [hl] at this
    exact this
  have hS : Hid (∀ w, Calls Try.prog 148 #[v.agg] w fun e w' => e = .returned (.bool true) ∧ Kept 0 0 w w') := fun w => by
    have := spareFields w v
    rw [hs] at this
    exact this
  clear hl hs
  have hK := kept_alloc 0 0 w (gbox a1 n1 c1 (some ⟨g2, o2, none⟩) n2 c2 a3 n3 c3)
  have hat := hall i hi
  rw [hv] at hat
  have HA : Hid (∀ k, k < n2 → At w g2 (o2 + k * 6) (vs.getD k Vl.zero)) := hall
  clear hall hv
  obtain ⟨e0, e1, e2, e3, e4, e5⟩ := hat.keep hg hK (.inr (.inr (Nat.le_refl _)))
  have hK2 : Hid _ := hK.trans (kept_alloc 0 0 _ (vbox v.op v.len v.a v.b v.c v.k))
  have hB : Hid _ := gb_start w (.slice a1 n1 c1) (.slice (some ⟨g2, o2, none⟩) n2 c2) (.slice a3 n3 c3) v
  clear hat hK
  have t0 : (v.op == 0) = false := beq_eq_false_iff_ne.2 h0
  clear h0
  go_enter Try.func102, Try.ntmps102
  go_wp2_with (first | (go_at_call 82; refine (hL.out _).mono ?_; rintro e w2 ⟨rfl, rfl⟩) | fail)
  refine (hS.out _).mono ?_
  rintro e w3 ⟨rfl, hk3⟩
  have hK3 := hK2.out.trans hk3
  have hB3 := hB.out.keep hk3
  obtain ⟨d0, d1, d2, d3, d4, d5⟩ := hB3.vt
  have HK3 : Hid _ := hK3
  have HB3 : Hid _ := hB3
  clear hK3 hB3 hk3 hB hK2 e0 e1 e2 e3 e4 e5
  simp only [Nat.zero_add] at d1 d2 d3 d4 d5
  go_wp2_with fail
  refine (operandsOf _ v).mono ?_
  rintro e w4 ⟨G, rfl, fo, hG, hk4⟩
  have HK4 : Hid _ := HK3.out.trans hk4
  have HB4 : Hid _ := HB3.out.keep hk4
  have HG : Hid (G + 1 = w4.heap.size) := hG
  clear HK3 HB3 hk4 d0 d1 d2 d3 d4 d5 hG
  have hq : cnt v.op ≤ 3 := cnt_le _
  have hm := make_i (cnt v.op) w4 (by omega)
  have hIR := IR.made w4 (cnt v.op)
  have hKm := kept_alloc 0 0 w4 (.cells (madeCells #[.int .i64 0] (cnt v.op)) 3)
  have HOL : Hid ((opsOf v).length = cnt v.op) := opsOf_len v
  have HF : Hid (∀ W a cap xs, IS W 0 W.heap.size a (cnt v.op) xs → Calls Try.prog 83 #[v.agg, .slice a (cnt v.op) cap] W fun e w' => e = .returned (.bool (shapeB v.op v.len v.c xs)) ∧ Kept 0 0 W w') := fun W a cap xs f => shapeFits W v.op v.len v.a v.b v.c v.k 0 W.heap.size a (cnt v.op) cap xs f rfl
  generalize cnt v.op = q at hq hm hIR hKm HOL HF fo
  generalize hos : opsOf v = os at HOL fo
  have HOS : Hid (opsOf v = os) := hos
  clear hos
  generalize hw5 : w4.alloc (.cells (madeCells #[.int .i64 0] q) 3) = w5 at hm hIR hKm
  clear hw5
  go_wp2_with fail
  clear hm
  have hLq : Hid ((os.map fun o : Int => (vs.getD o.toNat Vl.zero).len).length = q) := by show (os.map _).length = q; rw [List.length_map]; exact HOL.out
  have HMP : Hid (∀ k, k < q → (os.map fun o : Int => (vs.getD o.toNat Vl.zero).len).getD k 0 = (vs.getD (os.getD k 0).toNat Vl.zero).len) := fun k hk => mapI_getD (by rw [HOL.out]; exact hk)
  have fo' : Hid _ := fo
  go_loopw [51] (fun ix W => ∃ k : Nat, k ≤ q ∧ ix = .int .i64 k ∧ Hid ((os.take k).all (idxB · i) = true) ∧ IR W w4.heap.size ((os.map fun o : Int => (vs.getD o.toNat Vl.zero).len).take k ++ (List.replicate q 0).drop k) ∧ Kept 0 0 w4 W) (fun ix _ => q - (intOf ix).toNat)
  case atStart => exact ⟨0, Nat.zero_le _, rfl, rfl, by simpa using hIR, hKm⟩
  case round =>
    obtain ⟨k, hk, rfl, hA, hF, hKW⟩ := hrel
    clear hIR hKm
    by_cases hlt : k < q
    · rcases fo.at_ with z0 | ⟨ga, oa, ea, z1, z2, z3, z4⟩
      · omega
      cases ea
      have c1 := kcell hKW z3 (z4 k hlt)
      rw [Nat.zero_add] at c1
      clear z4 z1 z2 z3 fo
      by_cases hx : idxB (os.getD k 0) i = true
      · have hx' := of_decide_eq_true hx
        obtain ⟨j, hj⟩ : ∃ j : Nat, os.getD k 0 = j := ⟨(os.getD k 0).toNat, by omega⟩
        have hA' : Hid _ := allI_snoc (p := (idxB · i)) (by rw [HOL.out]; exact hlt) hA.out hx
        have hML := HMP.out k hlt
        rw [hj] at c1 hx hx' hML
        rw [Int.toNat_natCast] at hML
        have hji : j < i := by omega
        have hI : Hid (∀ w, Calls Try.prog 103 #[.int .i64 (j : Int), .int .i64 (i : Int)] w fun e w' => e = .returned (.bool true) ∧ w' = w) := fun w => by
          have := isIndex_any (j : Int) i w
          rw [hx] at this
          exact this
        have u := (kcell (HK4.out.trans hKW) hg (HA.out j (by omega)).c1)
        have q1 := (HB4.out.keep hKW).q1
        have s1 := hF.free k
        have hll : ((os.map fun o : Int => (vs.getD o.toNat Vl.zero).len).take k ++ (List.replicate q 0).drop k).length = q := by rw [List.length_append, List.length_take, List.length_drop, hLq.out, List.length_replicate]; omega
        have s2 := hF.cell k (by omega)
        rw [← hML] at u
        have R1 : Hid _ := hF.set k ((os.map fun o : Int => (vs.getD o.toNat Vl.zero).len).getD k 0)
        have R2 : Hid _ := hKW.new (kept_setCell (lo := w4.heap.size) (hi := w4.heap.size + 1) wr ⟨w4.heap.size, k, none⟩ (.int .i64 ((os.map fun o : Int => (vs.getD o.toNat Vl.zero).len).getD k 0)) (.inl ⟨Nat.le_refl _, Nat.lt_succ_self _⟩)) (Nat.le_refl _)
        have R3 : Hid _ := set_takeI (os.map fun o : Int => (vs.getD o.toNat Vl.zero).len) (List.replicate q 0) k (by rw [hLq.out]; exact hlt) (by rw [hLq.out]; simp)
        generalize (os.map fun o : Int => (vs.getD o.toNat Vl.zero).len).getD k 0 = y at u R1 R2 R3
        clear hML hF hKW hll hx hx' hj hA
        go_wp2_with ((go_at_call 103; refine (hI.out _).mono ?_; rintro e w2 ⟨rfl, rfl⟩))
        go_roundw
        case rel =>
          refine ⟨k + 1, by omega, by go_num, hA', ?_, R2.out⟩
          have := R1.out
          rw [R3.out] at this
          exact this
        case measure => simp [intOf]; omega
      · have hx' : idxB (os.getD k 0) i = false := by simpa using hx
        have R : Hid (os.all (idxB · i) = false) := allI_bad (by rw [HOL.out]; exact hlt) hx'
        have hI : Hid (∀ w, Calls Try.prog 103 #[.int .i64 (os.getD k 0), .int .i64 (i : Int)] w fun e w' => e = .returned (.bool false) ∧ w' = w) := fun w => by
          have := isIndex_any (os.getD k 0) i w
          rw [hx'] at this
          exact this
        have R2 : Hid _ := HK4.out.trans hKW
        clear hx hx' hKW hF hA
        go_wp2_with ((go_at_call 103; refine (hI.out _).mono ?_; rintro e w2 ⟨rfl, rfl⟩))
        go_ret
        exact ⟨by rw [HOS.out, R.out]; rfl, R2.out⟩
    · obtain rfl : k = q := by omega
      have R : Hid (os.all (idxB · i) = true) := by
        have := hA.out
        rw [List.take_of_length_le (by rw [HOL.out]; omega)] at this
        exact this
      have hF2 : IR wr w4.heap.size (os.map fun o : Int => (vs.getD o.toNat Vl.zero).len) := by
        rw [List.take_of_length_le (by rw [hLq.out]; omega), List.drop_of_length_le (by simp), List.append_nil] at hF
        exact hF
      have hI := hF2.is
      rw [hLq.out] at hI
      have hC : Hid _ := fun cap => HF.out wr _ cap _ hI
      have R2 : Hid _ := HK4.out.trans hKW
      obtain ⟨d0, d1, d2, d3, d4, d5⟩ := (HB4.out.keep hKW).vt
      simp only [Nat.zero_add] at d1 d2 d3 d4 d5
      clear hI hF2 hF hA hKW fo
      go_wp2_with fail
      refine (hC.out _).mono ?_
      rintro e w9 ⟨rfl, hk9⟩
      have R3 : Hid _ := R2.out.trans hk9
      clear hk9 d0 d1 d2 d3 d4 d5
      go_wp2
      go_ret
      exact ⟨by rw [HOS.out, R.out]; rfl, R3.out⟩
theorem validVal (w : World) (a1 a2 a3 : Option Addr) (n1 c1 n2 c2 n3 c3 i : Nat) (ins : List Int) (vs : List Vl) (outs : List Int) (f : GS w a1 n1 a2 n2 a3 n3 ins vs outs) (hi : i < n2) :
    Calls Try.prog 102 #[gagg a1 n1 c1 a2 n2 c2 a3 n3 c3, .int .i64 (i : Int)] w fun e w' => e = .returned (.bool (okV ins vs i)) ∧ Kept 0 0 w w' := by
  rcases f.v.at_ with h0 | ⟨g2, o2, rfl, b1, b2, b3, b4⟩
  · omega
  have hat := b4 i hi
  unfold okV
  generalize hv : vs.getD i Vl.zero = v at hat
  cases hl : lenB v.len
  · exact validVal_short w a1 a3 n1 c1 n2 c2 n3 c3 g2 o2 i v b3 hi hat hl
  cases hs : spareB v
  · exact validVal_spare w a1 a3 n1 c1 n2 c2 n3 c3 g2 o2 i v b3 hi hat hl hs
  by_cases h0 : v.op = 0
  · rw [if_pos h0, f.i.len]
    obtain ⟨op, len, A, B, C, K⟩ := v
    simp only at h0
    subst h0
    exact validVal_input w a1 a3 n1 c1 n2 c2 n3 c3 g2 o2 i len A B C K ins f.i b3 hi hat hl hs
  · rw [if_neg h0]
    exact validVal_ops w a1 a3 n1 c1 n2 c2 n3 c3 g2 o2 i v vs b3 hi b4 hv hl hs h0
end Go.Proofs.Ytcphabjekfihnaa
