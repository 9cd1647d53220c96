import Derived.Test.YtcphabjekfihnaaR04
namespace Go.Proofs.Ytcphabjekfihnaa
open Go.RowKit Flt
attribute [local go_sem] alloc_drewN setCell_drewN run_store_float

set_option maxRecDepth 100000 in
set_option maxHeartbeats 2000000 in
theorem elementsOf_in (w : World) (len A B C : Int) (K : Nat) (g n c m cb : Nat) (b : Option Addr) (xss : List (List Nat)) (hS : SS w b m xss) (h0 : 0 ≤ A) (h1 : A < m) :
    Calls Try.prog 111 #[vagg 0 len A B C K, .slice (some ⟨g, 0, none⟩) n c, .slice b m cb] w fun e w' => ∃ b' n' c', e = .returned (.slice b' n' c') ∧ Cl w' (.slice b' n' c') (xss.getD A.toNat []) ∧ Kept 0 0 w w' := by
  obtain ⟨j, rfl⟩ : ∃ j : Nat, A = j := ⟨A.toNat, by omega⟩
  rw [Int.toNat_natCast]
  rcases hS.at_ with z | ⟨gb, ob, rfl, y1, y2⟩
  · omega
  obtain ⟨b2, cc2, c2, c3, c4⟩ := y2 j (by omega)
  have hK := kept_alloc 0 0 w (vbox 0 len j B C K)
  have R : Hid (Cl (w.alloc (vbox 0 len j B C K)) (.slice b2 (xss.getD j []).length cc2) (xss.getD j [])) := Cl.keep ⟨_, _, _, _, rfl, c3, c4, rfl⟩ hK
  have c5 := kcell hK y1 c2
  clear c2 c3 c4 y2 hS
  generalize xss.getD j [] = xs at R c5 ⊢
  go_enter Try.func111, Try.ntmps111
  go_wp2
  go_ret
  exact ⟨_, _, _, rfl, R.out, hK⟩

/-- The lists of a value's first q operands. -/
def opl (v : Vl) (Vs : List (List Nat)) (q : Nat) : List (List Nat) := [if 0 < q then Vs.getD v.a.toNat [] else [], if 1 < q then Vs.getD v.b.toNat [] else [], if 2 < q then Vs.getD v.c.toNat [] else []]
/-- What Kernel gives of them. -/
def kop (v : Vl) (Vs : List (List Nat)) : List Nat := kern v.op v.len v.c v.k ((opl v Vs (cnt v.op)).getD 0 []) ((opl v Vs (cnt v.op)).getD 1 []) ((opl v Vs (cnt v.op)).getD 2 [])
theorem opl_set (v : Vl) (Vs : List (List Nat)) {q : Nat} (hq : q < 3) : (opl v Vs q).set q (Vs.getD ([v.a, v.b, v.c].getD q 0).toNat []) = opl v Vs (q + 1) := by
  have : q = 0 ∨ q = 1 ∨ q = 2 := by omega
  rcases this with rfl | rfl | rfl <;> simp [opl]
theorem opsOf_at (v : Vl) {q : Nat} (hq : q < cnt v.op) : (opsOf v).getD q 0 = [v.a, v.b, v.c].getD q 0 := by
  unfold opsOf
  rw [List.getD_eq_getElem?_getD, List.getD_eq_getElem?_getD, List.getElem?_take_of_lt hq]
theorem LV.put {w w' : World} {g n : Nat} {Vs : List (List Nat)} (f : LV w g n n Vs) {j : Nat} (hj : j < n) (hl : Vs.length = n) (q : Kept 0 0 w w') {b : Option Addr} {m c : Nat} {x : List Nat} (hu : Cl w' (.slice b m c) x) :
    LV (w'.setCell ⟨g, j, none⟩ (.slice b m c)) g n n (Vs.set j x) := by
  have f' := f.keep q
  obtain ⟨b0, m0, c0, hc, _⟩ := f'.at_ j hj
  refine ⟨by simpa using f'.lt, fun o => by simp [f'.free o], fun i hi => ?_⟩
  by_cases e : i = j
  · subst e
    refine ⟨b, m, c, cell_eq _ _ _ _ _ hc, fun _ => ?_⟩
    rw [List.getD_eq_getElem?_getD, List.getElem?_set, if_pos rfl, if_pos (by omega)]
    exact hu.setS hc (not_float_slice _ _ _) _
  · obtain ⟨b1, m1, c1, h1, h2⟩ := f'.at_ i hi
    refine ⟨b1, m1, c1, by rw [cell_ne _ _ _ _ _ _ (.inr (Ne.symm e))]; exact h1, fun h => ?_⟩
    rw [List.getD_eq_getElem?_getD, List.getElem?_set, if_neg (Ne.symm e), ← List.getD_eq_getElem?_getD]
    exact (h2 h).setS hc (not_float_slice _ _ _) _
theorem LV.other {w : World} {g n k P j : Nat} {Vs : List (List Nat)} {u : Value} (f : LV w g n k Vs) (hne : P ≠ g) (hc : w.cell? ⟨P, j, none⟩ = some u) (hu : ∀ x, u ≠ .float .f64 x) (v : Value) : LV (w.setCell ⟨P, j, none⟩ v) g n k Vs := by
  refine ⟨by simpa using f.lt, fun o => by simp [f.free o], fun i hi => ?_⟩
  obtain ⟨b1, m1, c1, h1, h2⟩ := f.at_ i hi
  exact ⟨b1, m1, c1, by rw [cell_ne _ _ _ _ _ _ (.inl hne)]; exact h1, fun h => (h2 h).setS hc hu _⟩
theorem arr_start (w : World) : LV (w.alloc (.cells #[.slice none 0 0, .slice none 0 0, .slice none 0 0] 167)) w.heap.size 3 3 [[], [], []] where
  lt := by simp
  free := fun o => by simp
  at_ := fun j hj => by
    have : j = 0 ∨ j = 1 ∨ j = 2 := by omega
    refine ⟨none, 0, 0, ?_, fun _ => ?_⟩
    · rcases this with rfl | rfl | rfl <;> simp
    · rcases this with rfl | rfl | rfl <;> exact Cl.nil _
theorem vbox_at (w : World) (v : Vl) : At (w.alloc (vbox v.op v.len v.a v.b v.c v.k)) w.heap.size 0 v := by
  refine ⟨?_, ?_, ?_, ?_, ?_, ?_⟩
  all_goals first | (go_simp; done) | (simp; done)

set_option maxRecDepth 100000 in
set_option maxHeartbeats 2000000 in
theorem elementsOf_op (w : World) (v : Vl) (h0 : v.op ≠ 0) (g n c m cb k : Nat) (b : Option Addr) (Vs : List (List Nat)) (hL : LV w g n k Vs) (hkn : k ≤ n) (hk : v.k < 18446744073709551616) (hW : Words Vs) (h1 : (opsOf v).all (idxB · k) = true) :
    Calls Try.prog 111 #[v.agg, .slice (some ⟨g, 0, none⟩) n c, .slice b m cb] w fun e w' => ∃ b' n' c', e = .returned (.slice b' n' c') ∧ Cn w' w.heap.size (.slice b' n' c') (kop v Vs) ∧ Kept 0 0 w w' := by
  have t : (v.op == 0) = false := beq_eq_false_iff_ne.2 h0
  have hc3 := cnt_le v.op
  have k1 := kept_alloc 0 0 w (vbox v.op v.len v.a v.b v.c v.k)
  have k2 := kept_alloc 0 0 (w.alloc (vbox v.op v.len v.a v.b v.c v.k)) (.cells #[.slice none 0 0, .slice none 0 0, .slice none 0 0] 167)
  have HA : Hid _ := arr_start (w.alloc (vbox v.op v.len v.a v.b v.c v.k))
  have HV : Hid _ := (vbox_at w v).keep (by simp) k2 (.inr (.inr (Nat.le_refl _)))
  have HL : Hid _ := hL.keep (k1.trans k2)
  have HK : Hid _ := k1.trans k2
  have HZ : Hid (w.heap.size + 1 < ((w.alloc (vbox v.op v.len v.a v.b v.c v.k)).alloc (.cells #[.slice none 0 0, .slice none 0 0, .slice none 0 0] 167)).heap.size) := by show _ < _; simp
  have HG : Hid (g < w.heap.size) := hL.lt
  have HW : Hid _ := hW
  have H1 : Hid _ := h1
  clear h0 k1 k2 hL hW h1
  obtain ⟨v0, v1, v2, v3, v4, v5⟩ := HV.out
  go_enter Try.func111, Try.ntmps111
  go_wp2_with fail
  clear v0 v1 v2 v3 v4 v5
  generalize ((w.alloc (vbox v.op v.len v.a v.b v.c v.k)).alloc (.cells #[.slice none 0 0, .slice none 0 0, .slice none 0 0] 167)) = w1 at HA HV HL HK HZ ⊢
  refine (operandsOf _ v).mono ?_
  rintro e w2 ⟨G, rfl, hI, hG, k3⟩
  have HI : Hid _ := hI
  have hA2 : LV w2 (w.heap.size + 1) 3 3 (opl v Vs 0) := by
    have := HA.out.keep k3
    rw [show (w.alloc (vbox v.op v.len v.a v.b v.c v.k)).heap.size = w.heap.size + 1 by simp] at this
    exact this
  have hV2 := HV.out.keep (by have := HZ.out; omega) k3 (.inr (.inr (Nat.le_refl _)))
  have hL2 := HL.out.keep k3
  have hK2 := HK.out.trans k3
  have HA2 : Hid _ := hA2
  have HV2 : Hid _ := hV2
  have HL2 : Hid _ := hL2
  have HK2 : Hid _ := hK2
  have HS2 : Hid (w1.heap.size ≤ w2.heap.size) := k3.size
  clear hI hA2 hV2 hL2 hK2 k3 HA HV HL HK
  go_wp2_with fail
  go_loopw [21] (fun i W => ∃ q : Nat, q ≤ cnt v.op ∧ i = .int .i64 q ∧ Hid (LV W (w.heap.size + 1) 3 3 (opl v Vs q)) ∧ Hid (At W w.heap.size 0 v) ∧ Hid (LV W g n k Vs) ∧ Hid (IS W w1.heap.size w2.heap.size (some ⟨G, 0, none⟩) (cnt v.op) (opsOf v)) ∧ Hid (Kept 0 0 w W)) (fun i _ => cnt v.op - (intOf i).toNat)
  case atStart => exact ⟨0, Nat.zero_le _, rfl, HA2, HV2, HL2, HI, HK2⟩
  case round =>
    obtain ⟨q, hq, rfl, hA, hV, hL, hI, hK⟩ := hrel
    clear HA2 HV2 HL2 HI HK2
    by_cases hlt : q < cnt v.op
    · rcases hI.out.at_ with z0 | ⟨ga, oa, ea, z1, z2, z3, z4⟩
      · omega
      have c1 := z4 q hlt
      cases ea
      obtain ⟨o, ho⟩ : ∃ o : Nat, (opsOf v).getD q 0 = o ∧ o < k := by
        have h := List.all_eq_true.1 H1.out ((opsOf v).getD q 0) (by
          rw [List.getD_eq_getElem?_getD, List.getElem?_eq_getElem (by rw [opsOf_len]; exact hlt)]
          exact List.getElem_mem _)
        have := of_decide_eq_true h
        exact ⟨((opsOf v).getD q 0).toNat, by omega, by omega⟩
      rw [ho.1, Nat.zero_add] at c1
      obtain ⟨b1, m1, d1, c2, c3⟩ := hL.out.at_ o (by omega)
      have c4 := c3 ho.2
      obtain ⟨b0, m0, d0, c5, _⟩ := hA.out.at_ q (by omega)
      have fz := hA.out.free q
      have R1 : Hid (LV (wr.setCell ⟨w.heap.size + 1, q, none⟩ (.slice b1 m1 d1)) (w.heap.size + 1) 3 3 (opl v Vs (q + 1))) := by
        have := hA.out.put (j := q) (by omega) rfl (Kept.refl _ _ _) c4
        rw [← opl_set v Vs (by omega), ← opsOf_at v hlt, ho.1]
        exact this
      have kp : Kept (w.heap.size + 1) (w.heap.size + 2) wr (wr.setCell ⟨w.heap.size + 1, q, none⟩ (.slice b1 m1 d1)) := kept_setCell _ _ _ (.inl ⟨Nat.le_refl _, Nat.lt_succ_self _⟩)
      have R2 : Hid _ := hV.out.keep (by have := hA.out.lt; omega) kp (.inl (by omega))
      have R3 : Hid _ := hL.out.other (by have := HG.out; omega) c5 (not_float_slice _ _ _) (.slice b1 m1 d1)
      have R4 : Hid _ := hI.out.keep kp (.inr (.inl (by have := HZ.out; omega)))
      have R5 : Hid _ := hK.out.new kp (by omega)
      have hq3 : q < 3 := by omega
      have hon : o < n := by omega
      clear z1 z2 z3 z4 c3 c4 kp hA hV hL hI hK H1 ho
      go_wp2
      go_roundw
      case rel => exact ⟨q + 1, by omega, by go_num, R1, R2, R3, R4, R5⟩
      case measure => simp [intOf]; omega
    · obtain rfl : q = cnt v.op := by omega
      obtain ⟨b0, m0, d0, c0, e0⟩ := hA.out.at_ 0 (by omega)
      obtain ⟨b1, m1, d1, c1, e1⟩ := hA.out.at_ 1 (by omega)
      obtain ⟨b2, m2, d2, c2, e2⟩ := hA.out.at_ 2 (by omega)
      have HE : Hid _ := implKernelN wr v hk _ _ _ _ _ _ (e0 (by omega)) (e1 (by omega)) (e2 (by omega)) (ite_lt (HW.out _))
      obtain ⟨v0, v1, v2, v3, v4, v5⟩ := hV.out
      clear e0 e1 e2 hA hL hI
      go_wp2_with fail
      refine Calls.mono HE.out ?_
      rintro e w9 ⟨u, rfl, hc9, k9⟩
      obtain ⟨b9, n9, c9, zs, rfl, h2, h3, h4⟩ := hc9
      have R : Hid _ := hK.out.trans k9
      have R2 : Hid (Cn w9 w.heap.size (.slice b9 n9 c9) (kop v Vs)) := ⟨b9, n9, c9, zs, rfl, h2, h3.mono hK.out.size (Nat.le_refl _), h4⟩
      clear HE c0 c1 c2 v0 v1 v2 v3 v4 v5 h2 h3 h4 k9 hK hV
      go_wp2
      go_ret
      exact ⟨b9, n9, c9, rfl, R2.out, R.out⟩

theorem elementsOf (w : World) (v : Vl) (g n c m cb k : Nat) (b : Option Addr) (xss Vs : List (List Nat)) (hL : LV w g n k Vs) (hS : SS w b m xss) (hkn : k ≤ n) (hk : v.k < 18446744073709551616) (hW : Words Vs) (h0 : v.op = 0 → 0 ≤ v.a ∧ v.a < m) (h1 : v.op ≠ 0 → (opsOf v).all (idxB · k) = true) :
    Calls Try.prog 111 #[v.agg, .slice (some ⟨g, 0, none⟩) n c, .slice b m cb] w fun e w' => ∃ b' n' c', e = .returned (.slice b' n' c') ∧ Cl w' (.slice b' n' c') (one xss v Vs) ∧ Kept 0 0 w w' := by
  unfold one
  by_cases h : v.op = 0
  · rw [if_pos h]
    have := elementsOf_in w v.len v.a v.b v.c v.k g n c m cb b xss hS (h0 h).1 (h0 h).2
    rw [← h] at this
    exact this
  · rw [if_neg h]
    exact (elementsOf_op w v h g n c m cb k b Vs hL hkn hk hW (h1 h)).mono fun _ _ ⟨b', n', c', q1, q2, q3⟩ => ⟨b', n', c', q1, q2.cl, q3⟩
end Go.Proofs.Ytcphabjekfihnaa

namespace Go.Proofs.Ytcphabjekfihnaa
open Go.RowKit Flt
attribute [local go_sem] alloc_drewN setCell_drewN run_store_float

theorem map_getD (outs : List Int) (zss : List (List Nat)) {j : Nat} (h : j < outs.length) : (outs.map fun o => zss.getD o.toNat []).getD j [] = zss.getD (outs.getD j 0).toNat [] := by
  have e : outs.getD j 0 = outs[j] := by rw [List.getD_eq_getElem?_getD, List.getElem?_eq_getElem h]; rfl
  rw [e, List.getD_eq_getElem?_getD, List.getElem?_map, List.getElem?_eq_getElem h]
  rfl

set_option maxRecDepth 100000 in
set_option maxHeartbeats 2000000 in
theorem implEval_bad (w : World) (a1 a2 a3 b : Option Addr) (n1 c1 n2 c2 n3 c3 m cb : Nat) (ins : List Int) (vs : List Vl) (outs : List Int) (f : GS w a1 n1 a2 n2 a3 n3 ins vs outs) (h : okG ins vs outs = false) :
    Calls Try.prog 43 #[gagg a1 n1 c1 a2 n2 c2 a3 n3 c3, .slice b m cb] w fun e w' => e = .returned (.tuple #[.slice none 0 0, .int .i64 1]) ∧ Kept 0 0 w w' := by
  have hK := kept_alloc 0 0 w (gbox a1 n1 c1 a2 n2 c2 a3 n3 c3)
  have HX : Hid _ := implValid _ a1 a2 a3 n1 c1 n2 c2 n3 c3 ins vs outs (f.keep hK)
  rw [h] at HX
  have HK : Hid _ := hK
  clear hK h f
  go_enter Try.func43, Try.ntmps43
  go_wp2_with fail
  refine Calls.mono HX.out ?_
  rintro e w2 ⟨rfl, k2⟩
  go_wp2
  go_ret2
  exact ⟨rfl, Kept.trans HK.out k2⟩

set_option maxRecDepth 100000 in
set_option maxHeartbeats 2000000 in
theorem implEval_shape (w : World) (a1 a2 a3 b : Option Addr) (n1 c1 n2 c2 n3 c3 m cb : Nat) (ins : List Int) (vs : List Vl) (outs : List Int) (xss : List (List Nat)) (f : GS w a1 n1 a2 n2 a3 n3 ins vs outs) (s : SS w b m xss) (h : okG ins vs outs = true) (h2 : inB ins xss = false) (hn : n1 ≤ 1048576) :
    Calls Try.prog 43 #[gagg a1 n1 c1 a2 n2 c2 a3 n3 c3, .slice b m cb] w fun e w' => e = .returned (.tuple #[.slice none 0 0, .int .i64 4]) ∧ Kept 0 0 w w' := by
  have hK := kept_alloc 0 0 w (gbox a1 n1 c1 a2 n2 c2 a3 n3 c3)
  have HX : Hid _ := implValid _ a1 a2 a3 n1 c1 n2 c2 n3 c3 ins vs outs (f.keep hK)
  rw [h] at HX
  have HB : Hid _ := g0_start w (.slice a1 n1 c1) (.slice a2 n2 c2) (.slice a3 n3 c3)
  have HF : Hid _ := f.keep hK
  have HS : Hid _ := s.keep hK
  have HK : Hid _ := hK
  clear hK h f s
  go_enter Try.func43, Try.ntmps43
  go_wp2_with fail
  refine Calls.mono HX.out ?_
  rintro e w2 ⟨rfl, k2⟩
  obtain ⟨_, q0, q1, q2⟩ := G0.keep HB.out k2
  have HY : Hid _ := inputsFit w2 _ _ a1 b n1 m c1 cb ins xss (GS.keep HF.out k2).i (SS.keep HS.out k2) (by omega)
  rw [h2] at HY
  have HK2 : Hid _ := Kept.trans HK.out k2
  clear k2 HX HK HF HS HB
  go_wp2_with fail
  refine Calls.mono HY.out ?_
  rintro e w3 ⟨rfl, k3⟩
  go_wp2
  go_ret2
  exact ⟨rfl, Kept.trans HK2.out (k3.kept 0 0)⟩

set_option maxRecDepth 100000 in
set_option maxHeartbeats 2000000 in
theorem implEval_ok (w : World) (a1 a2 a3 b : Option Addr) (n1 c1 n2 c2 n3 c3 m cb : Nat) (ins : List Int) (vs : List Vl) (outs : List Int) (xss : List (List Nat)) (f : GS w a1 n1 a2 n2 a3 n3 ins vs outs) (s : SS w b m xss) (hw : Words xss) (h : okG ins vs outs = true) (h2 : inB ins xss = true) :
    Calls Try.prog 43 #[gagg a1 n1 c1 a2 n2 c2 a3 n3 c3, .slice b m cb] w fun e w' => ∃ G gf cf zss, e = .returned (.tuple #[.slice (some ⟨G, 0, none⟩) n3 n3, .int .i64 0]) ∧ w.heap.size ≤ G ∧ SP w' G n3 n3 gf cf zss ∧ zss.length = n3 ∧ (∀ j, j < n3 → same (zss.getD j []) ((valsTo xss vs n2).getD (outs.getD j 0).toNat [])) ∧ Kept 0 0 w w' := by
  have hok := h
  have e1 := f.i.len
  have e2 := f.v.len
  have e3 := f.o.len
  unfold okG at hok
  simp only [Bool.and_eq_true, decide_eq_true_eq, e1, e2, e3] at hok
  obtain ⟨⟨l1, l2, l3⟩, _, hv, ho, _⟩ := hok
  have HV : Hid _ := hv
  have HO : Hid _ := ho
  have HW : Hid _ := vals_lt (vs := vs) hw (fun k => by
    rw [List.getD_eq_getElem?_getD]
    cases hh : vs[k]? with
    | none => decide
    | some v => exact f.v.lt v (List.mem_of_getElem? hh))
  have HLEN : Hid _ := vals_len (vs := vs) h2 n2 hv
  have HM : Hid (m = n1) := by
    have := h2
    unfold inB at this
    simp only [Bool.and_eq_true, decide_eq_true_eq, e1, s.len] at this
    exact this.1
  have hK := kept_alloc 0 0 w (gbox a1 n1 c1 a2 n2 c2 a3 n3 c3)
  have HX : Hid _ := implValid _ a1 a2 a3 n1 c1 n2 c2 n3 c3 ins vs outs (f.keep hK)
  rw [h] at HX
  have HB : Hid _ := g0_start w (.slice a1 n1 c1) (.slice a2 n2 c2) (.slice a3 n3 c3)
  have HF : Hid _ := f.keep hK
  have HS : Hid _ := s.keep hK
  have HK : Hid _ := hK
  have HZ : Hid (w.heap.size + 1 ≤ (w.alloc (gbox a1 n1 c1 a2 n2 c2 a3 n3 c3)).heap.size) := by show _ ≤ _; simp
  clear hK h f s ho hv hw
  go_enter Try.func43, Try.ntmps43
  go_wp2_with fail
  generalize w.alloc (gbox a1 n1 c1 a2 n2 c2 a3 n3 c3) = w1 at HX HB HF HS HK HZ ⊢
  refine Calls.mono HX.out ?_
  rintro e w2 ⟨rfl, k2⟩
  obtain ⟨_, q0, q1, q2⟩ := G0.keep HB.out k2
  have HY : Hid _ := inputsFit w2 _ _ a1 b n1 m c1 cb ins xss (GS.keep HF.out k2).i (SS.keep HS.out k2) (by omega)
  rw [h2] at HY
  have HK2 : Hid _ := k2
  clear k2 HX
  go_wp2_with fail
  clear q0 q1 q2
  refine Calls.mono HY.out ?_
  rintro e w3 ⟨rfl, d3⟩
  have k3 := Kept.trans HK2.out (d3.kept 0 0)
  have hm := make_s n2 w3 (by omega)
  have HP : Hid _ := LV.made w3 n2 (valsTo xss vs 0)
  have k4 := k3.trans (kept_alloc 0 0 w3 (.cells (madeCells #[.slice none 0 0] n2) 38))
  have q1' := (G0.keep HB.out k3).q1
  obtain ⟨_, q0, q1, q2⟩ := G0.keep HB.out k4
  have HK3 : Hid _ := k4
  have HZ3 : Hid (w1.heap.size ≤ w3.heap.size) := k3.size
  clear d3 k3 k4 HY HK2
  generalize w3.alloc (.cells (madeCells #[.slice none 0 0] n2) 38) = w4 at hm HP HK3 q0 q1 q2
  go_wp2_with fail
  clear hm q1' q0 q1 q2
  go_loopw [27] (fun i W => ∃ k : Nat, k ≤ n2 ∧ i = .int .i64 k ∧ Hid (LV W w3.heap.size n2 k (valsTo xss vs k)) ∧ Hid (Kept 0 0 w1 W)) (fun i _ => n2 - (intOf i).toNat)
  case atStart => exact ⟨0, Nat.zero_le _, rfl, HP, HK3⟩
  case round =>
    obtain ⟨k, hk, rfl, hP, hK⟩ := hrel
    clear HP HK3
    by_cases hlt : k < n2
    · have hF := GS.keep HF.out hK.out
      rcases hF.v.at_ with z0 | ⟨ga, oa, ea, z1, z2, z3, z4⟩
      · omega
      have hat := z4 k hlt
      have hvk := hF.v.lt
      have ok : okV ins vs k = true := List.all_eq_true.1 HV.out k (List.mem_range.2 hlt)
      have kb := kept_alloc 0 0 wr (vbox (vs.getD k Vl.zero).op (vs.getD k Vl.zero).len (vs.getD k Vl.zero).a (vs.getD k Vl.zero).b (vs.getD k Vl.zero).c (vs.getD k Vl.zero).k)
      have HX : Hid _ := elementsOf _ (vs.getD k Vl.zero) w3.heap.size n2 n2 m cb k b xss (valsTo xss vs k) (hP.out.keep kb) (SS.keep HS.out (Kept.trans hK.out kb)) hk (by
          rw [List.getD_eq_getElem?_getD]
          cases hh : vs[k]? with
          | none => decide
          | some v => exact hvk v (List.mem_of_getElem? hh)) (HW.out k) (fun h0 => by
          unfold okV at ok
          rw [if_pos h0] at ok
          simp only [Bool.and_eq_true] at ok
          have := of_decide_eq_true ok.2.1
          rw [e1] at this
          rw [HM.out]
          exact this) (fun h0 => by
          unfold okV at ok
          rw [if_neg h0] at ok
          simp only [Bool.and_eq_true] at ok
          exact ok.2.1)
      have HS1 : Hid (∀ {w' : World} {b : Option Addr} {m c : Nat}, Kept 0 0 wr w' → Cl w' (.slice b m c) (one xss (vs.getD k Vl.zero) (valsTo xss vs k)) → _) := fun q hu => hP.out.step hlt q hu
      have HKB : Hid _ := kb
      clear z1 z2 z3 z4 ok hvk hF kb
      generalize vs.getD k Vl.zero = v at hat HX HS1 HKB
      obtain ⟨d0, d1, d2, d3, d4, d5⟩ := hat
      subst ea
      go_wp2_with fail
      refine Calls.mono HX.out ?_
      rintro e w5 ⟨b5, m5, c5, rfl, hc5, k5⟩
      have k6 := Kept.trans HKB.out k5
      have P5 := hP.out.keep k6
      obtain ⟨b6, m6, c6, y1, _⟩ := P5.at_ k hlt
      have y2 := P5.free k
      have R1 : Hid _ := HS1.out k6 hc5
      have R2 : Hid _ := kept_put w1 w5 (Kept.trans hK.out k6) w3.heap.size k (.slice b5 m5 c5) HZ3.out
      clear P5 k6 k5 hc5 HX HS1 HKB d0 d1 d2 d3 d4 d5 hP hK
      go_wp2
      go_roundw
      case rel => exact ⟨k + 1, by omega, by go_num, R1, R2⟩
      case measure => simp [intOf]; omega
    · obtain rfl : k = n2 := by omega
      obtain ⟨w5, hw5⟩ : ∃ w5, w5 = wr := ⟨_, rfl⟩
      subst hw5
      obtain ⟨zss, hZ, hZs⟩ := hP.out.ss
      have q2 := (G0.keep HB.out hK.out).q2
      have hm := make_s n3 w5 (by omega)
      have kk := kept_alloc 0 0 w5 (.cells (madeCells #[.slice none 0 0] n3) 38)
      have q2' := (G0.keep HB.out (Kept.trans hK.out kk)).q2
      have HZ4 : Hid _ := hZ
      have HZS : Hid _ := hZs
      have HS0 : Hid _ := SP.made w5 n3 id id (outs.map fun o => zss.getD o.toNat [])
      have HK5 : Hid _ := kk
      have HK : Hid _ := Kept.trans HK.out hK.out
      have HLZ : Hid (w1.heap.size ≤ w5.heap.size) := hK.out.size
      have HKW : Hid _ := hK.out
      clear hP hZ hZs kk hK
      generalize w5.alloc (.cells (madeCells #[.slice none 0 0] n3) 38) = w6 at hm HS0 HK5 q2'
      go_wp2_with fail
      clear hm q2 q2'
      go_loopw [47] (fun i W => ∃ k : Nat, k ≤ n3 ∧ i = .int .i64 k ∧ Hid (∃ gf cf, SP W w5.heap.size n3 k gf cf (outs.map fun o => zss.getD o.toNat [])) ∧ Hid (Kept 0 0 w5 W)) (fun i _ => n3 - (intOf i).toNat)
      case atStart => exact ⟨0, Nat.zero_le _, rfl, ⟨id, id, HS0.out⟩, HK5⟩
      case round =>
        obtain ⟨j, hj, rfl, hP, hK⟩ := hrel
        clear HS0 HK5
        obtain ⟨gf, cf, hP⟩ := hP.out
        by_cases hlt : j < n3
        · rcases (GS.keep HF.out (Kept.trans HKW.out hK.out)).o.at_ with z0 | ⟨ga, oa, ea, z1, z2, z3, z4⟩
          · omega
          have c1 := z4 j hlt
          have hix : idxB (outs.getD j 0) k = true := List.all_eq_true.1 HO.out (outs.getD j 0) (by
            rw [List.getD_eq_getElem?_getD, List.getElem?_eq_getElem (by omega)]
            exact List.getElem_mem _)
          have hix2 := of_decide_eq_true hix
          have hy : (outs.map fun o => zss.getD o.toNat []).getD j [] = zss.getD (outs.getD j 0).toNat [] := by
            exact map_getD _ _ (by omega)
          have HST : Hid (∀ {w' : World} {G c : Nat}, Kept 0 0 wr w' → FO w' G _ _ → wr.heap.size ≤ G → _ ≤ c → _) := fun q ho hG hc => hP.step hlt q ho hG hc
          rw [hy] at HST
          obtain ⟨o, ho⟩ : ∃ o : Nat, outs.getD j 0 = o := ⟨(outs.getD j 0).toNat, by omega⟩
          rw [ho, Int.toNat_natCast] at HST
          rw [ho] at c1 hix2
          have hon : o < k := by omega
          rcases (SS.keep HZ4.out hK.out).at_ with z0 | ⟨gb, ob, eb, y1, y2⟩
          · omega
          cases eb
          obtain ⟨b1, cc1, g1, g2, g3⟩ := y2 o hon
          rw [Nat.zero_add] at g1
          have hlen : 1 ≤ (zss.getD o []).length ∧ (zss.getD o []).length ≤ 1000 := by
            have s1 := same_len (HZS.out o hon)
            have s2 := HLEN.out o hon
            have s3 := okV_len (List.all_eq_true.1 HV.out o (List.mem_range.2 hon))
            omega
          rcases g3.at_ with z0 | ⟨gc, oc, ec, x1, x2, x3, x4⟩
          · omega
          have HC : Hid _ := clone wr gc oc (zss.getD o []).length cc1 (zss.getD o []) hlen.1 (by omega) x3 rfl g3.lt x4
          have HPK : Hid (∀ w', Kept 0 0 wr w' → w'.frozen? ⟨w5.heap.size, j, none⟩ = false ∧ ∃ u, w'.cell? ⟨w5.heap.size, j, none⟩ = some u) := fun w' q => ⟨(hP.keep q).free j, (hP.keep q).rest j hlt⟩
          subst ea ec
          clear z1 z2 z3 z4 y1 y2 g2 g3 x1 x2 x3 x4 hy hix hix2 hP ho
          generalize zss.getD o [] = ys at g1 HC HST hlen
          generalize ys.length = ny at g1 HC HST hlen
          go_wp2_with fail
          refine Calls.mono HC.out ?_
          rintro e w7 ⟨G, cap, rfl, h7, f7, b7, k7⟩
          have R1 : Hid _ := HST.out k7 f7 b7 h7
          have R2 : Hid _ := kept_put w5 w7 (Kept.trans hK.out k7) w5.heap.size j (.slice (some ⟨G, 0, none⟩) ny cap) (Nat.le_refl _)
          obtain ⟨fz, u, hu⟩ := HPK.out w7 k7
          clear HC HST HPK g1 f7 k7 c1 hK
          go_wp2
          go_roundw
          case rel => exact ⟨j + 1, by omega, by go_num, ⟨_, _, R1.out⟩, R2⟩
          case measure => simp [intOf]; omega
        · obtain rfl : j = n3 := by omega
          have R1 : Hid (Kept 0 0 w wr) := Kept.trans HK.out hK.out
          have R2 : Hid (∀ i, i < j → same ((outs.map fun o => zss.getD o.toNat []).getD i []) ((valsTo xss vs k).getD (outs.getD i 0).toNat [])) := fun i hi => by
            have hix : idxB (outs.getD i 0) k = true := List.all_eq_true.1 HO.out (outs.getD i 0) (by
              rw [List.getD_eq_getElem?_getD, List.getElem?_eq_getElem (by omega)]
              exact List.getElem_mem _)
            have hix2 := of_decide_eq_true hix
            have hy : (outs.map fun o => zss.getD o.toNat []).getD i [] = zss.getD (outs.getD i 0).toNat [] := by
              exact map_getD _ _ (by omega)
            rw [hy]
            exact HZS.out _ (by omega)
          have R3 : Hid _ := hP
          clear hP hK
          go_wp2
          go_ret2
          exact ⟨w5.heap.size, gf, cf, _, rfl, by have := HLZ.out; have := HZ.out; omega, R3.out, by rw [List.length_map]; exact e3, R2.out, R1.out⟩
end Go.Proofs.Ytcphabjekfihnaa

namespace Go.Proofs.Ytcphabjekfihnaa
open Go.RowKit Flt
attribute [local go_sem] alloc_drewN setCell_drewN run_store_float

set_option maxRecDepth 100000 in
set_option maxHeartbeats 2000000 in
theorem shapes (w : World) (lo hi : Nat) (a b : Option Addr) (n m ca cb : Nat) (ins : List Int) (xss : List (List Nat)) (f : IS w lo hi a n ins) (g : SS w b m xss) (hn : n ≤ 1099511627776) :
    Calls Try.prog 107 #[.slice a n ca, .slice b m cb] w fun e w' => e = .returned (.bool (inB ins xss)) ∧ Drawn w w' := by
  have HF : Hid _ := f
  have HG : Hid _ := g
  have HL : Hid (ins.length = n ∧ xss.length = m) := ⟨f.len, g.len⟩
  clear f g
  by_cases hnm : m = n
  · subst hnm
    go_enter Try.func107, Try.ntmps107
    go_wp2_with fail
    go_loopw [5] (fun i W => ∃ k : Nat, k ≤ m ∧ i = .int .i64 k ∧ Hid ((List.range k).all (fun i => ((xss.getD i []).length : Int) == ins.getD i 0) = true) ∧ Hid (Drawn w W)) (fun i _ => m - (intOf i).toNat)
    case atStart => exact ⟨0, Nat.zero_le _, rfl, rfl, Drawn.refl _⟩
    case round =>
      obtain ⟨k, hk, rfl, hA, hD⟩ := hrel
      by_cases hlt : k < m
      · rcases HF.out.at_ with z0 | ⟨ga, oa, ea, z1, z2, z3, z4⟩
        · omega
        rcases HG.out.at_ with z0 | ⟨gb, ob, eb, y1, y2⟩
        · omega
        have c1 := (hD.out.cell _).trans (z4 k hlt)
        obtain ⟨b2, cc2, c2', _, _⟩ := y2 k hlt
        have c2 := (hD.out.cell _).trans c2'
        have j0 : (0 : Int) ≤ (k : Int) := by omega
        have j1 : (k : Int) < (m : Int) := by omega
        subst ea eb
        clear z1 z2 z3 z4 y1 y2 c2'
        cases hx : (((xss.getD k []).length : Int) == ins.getD k 0)
        · have R : Hid (inB ins xss = false) := by
            show inB ins xss = false
            unfold inB
            rw [HL.out.1, range_bad (p := fun i => ((xss.getD i []).length : Int) == ins.getD i 0) hlt hx, Bool.and_false]
          have hx' : (((xss.getD k []).length : Int) != ins.getD k 0) = true := by rw [bne, hx]; rfl
          generalize (xss.getD k []).length = y at c2 hx'
          generalize ins.getD k 0 = x at c1 hx'
          clear hx hA
          go_wp2_with fail
          go_quiet (fail)
          go_wp2
          go_ret
          exact ⟨by rw [R.out]; rfl, Drawn.more hD.out _⟩
        · have R : Hid _ := range_snoc (p := fun i => ((xss.getD i []).length : Int) == ins.getD i 0) hA.out hx
          have hx' : (((xss.getD k []).length : Int) != ins.getD k 0) = false := by rw [bne, hx]; rfl
          generalize (xss.getD k []).length = y at c2 hx'
          generalize ins.getD k 0 = x at c1 hx'
          clear hx hA
          go_wp2_with fail
          go_quiet (fail)
          go_wp2
          go_roundw
          case rel => exact ⟨k + 1, by omega, by go_num, R, Drawn.more hD.out _⟩
          case measure => simp [intOf]; omega
      · have R : Hid (inB ins xss = true) := by
          have h1 := hA.out
          rw [show k = m by omega] at h1
          show inB ins xss = true
          unfold inB
          rw [HL.out.1, HL.out.2, h1, decide_eq_true rfl]; rfl
        clear hA
        go_wp2
        go_ret
        exact ⟨by rw [R.out]; rfl, hD.out⟩
  · have e : inB ins xss = false := by
      unfold inB
      rw [HL.out.1, HL.out.2, decide_eq_false hnm, Bool.false_and]
    rw [e]
    have t : ((n : Int) != (m : Int)) = true := by simp; omega
    go_enter Try.func107, Try.ntmps107
    go_wp2
    go_ret
    exact ⟨rfl, Drawn.refl _⟩

set_option maxRecDepth 100000 in
set_option maxHeartbeats 2000000 in
theorem l1copy (w : World) (g off n c : Nat) (xs : List Nat) (hn : 1 ≤ n) (hn2 : n ≤ 1000000) (hx : xs.length = n) (hlt : ∀ x ∈ xs, x < 18446744073709551616) (hc : ∀ k, k < n → w.cell? ⟨g, off + k, none⟩ = some (.float .f64 (xs.getD k 0))) :
    Calls Try.prog 109 #[.slice (some ⟨g, off, none⟩) n c] w fun e w' => ∃ G cap, e = .returned (.slice (some ⟨G, 0, none⟩) n cap) ∧ n ≤ cap ∧ FO w' G n xs ∧ w.heap.size ≤ G ∧ Kept 0 0 w w' := by
  obtain ⟨i0, hi, hz0, hz1, hz2⟩ := info_parts infoF
  have HN : Hid _ := news_of (w := w) (g := g) (off := off) hx hc
  have HO : Hid _ := World.ownsRow_nil w w.heap.size 23 1
  have HX : Hid (xs.length = n) := hx
  have HLT : Hid _ := hlt
  clear hc hx hlt
  go_enter Try.func109, Try.ntmps109
  go_wp2_with (first | (at_builtin; refine wpList_append_own _ rfl _ _ 38 rfl w.heap.size 23 i0 (.float .f64 0) 1 8 Try.underlying38 hi hz0 hz1 hz2 rfl (by decide) _ _ _ rfl HO.out ⟨g, off, none⟩ n c (xs.map (Value.float .f64)) rfl ?c0 HN.out ?c2 ?c3 ?c4 ?c5 ?_))
  case c0 => exact HX.out
  case c2 => intro u hu; rfl
  case c3 => unfold maxLen; omega
  case c4 => omega
  intro v' w9 hown9 hg9 _
  have hown : w9.ownsRow w.heap.size 23 1 v' n (xs.map (Value.float .f64)) := by simpa using hown9
  obtain ⟨G, cap, rfl, b1, b2, b3⟩ := FO.of_own hown (by omega) HX.out HLT.out
  have R : Hid _ := grown_kept (base := w.heap.size) hg9 (fun k hk => by simp [Value.ownBlock] at hk) (Kept.refl 0 0 w) (Nat.le_refl _)
  clear hown9 hg9 hown
  go_wp2
  go_ret
  exact ⟨G, cap, by simp, b2, b3, b1, R.out⟩
end Go.Proofs.Ytcphabjekfihnaa
