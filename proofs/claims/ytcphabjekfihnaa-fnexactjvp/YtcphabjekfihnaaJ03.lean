import Derived.Test.YtcphabjekfihnaaP12
import Derived.Test.YtcphabjekfihnaaJ01
import Derived.Test.YtcphabjekfihnaaP01
import Derived.Test.YtcphabjekfihnaaP11
import Derived.Test.YtcphabjekfihnaaP13
import Derived.Test.YtcphabjekfihnaaJ02
namespace Go.Proofs.Ytcphabjekfihnaa
open Go.RowKit Flt

theorem fb_fb0 (x : Nat) : fb (fb x) = fb x := by
  cases h : (f64.read x).isNaN
  · rw [fb_of_num h, fb_of_num h]
  · rw [fb_of_nan h]; decide
theorem fb_zero : fb 0 = 0 := by decide

/-- A value with one NaN for all. -/
def cv (v : Vl) : Vl := ⟨v.op, v.len, v.a, v.b, v.c, fb v.k⟩
/-- Two lists of values, the same but for the bits of NaNs. -/
def Lk (us vs : List Vl) : Prop := us.map cv = vs.map cv
theorem cv_cv (v : Vl) : cv (cv v) = cv v := by simp [cv, fb_fb0]
theorem cv_zero : cv Vl.zero = Vl.zero := by simp [cv, Vl.zero, fb_zero]
theorem getD_cv (vs : List Vl) (k : Nat) : (vs.map cv).getD k Vl.zero = cv (vs.getD k Vl.zero) := by
  rw [List.getD_eq_getElem?_getD, List.getD_eq_getElem?_getD, List.getElem?_map]
  cases vs[k]? with
  | none => exact cv_zero.symm
  | some x => rfl
theorem Lk.len {us vs : List Vl} (h : Lk us vs) : us.length = vs.length := by
  have := congrArg List.length h
  simpa using this
theorem Lk.at_ {us vs : List Vl} (h : Lk us vs) (k : Nat) : cv (us.getD k Vl.zero) = cv (vs.getD k Vl.zero) := by
  rw [← getD_cv, ← getD_cv, h]
theorem Lk.refl (us : List Vl) : Lk us us := rfl
theorem Lk.symm {us vs : List Vl} (h : Lk us vs) : Lk vs us := Eq.symm h
theorem Lk.trans {us vs ws : List Vl} (h : Lk us vs) (h' : Lk vs ws) : Lk us ws := Eq.trans h h'
theorem Lk.app {us vs : List Vl} {u v : Vl} (h : Lk us vs) (h' : cv u = cv v) : Lk (us ++ [u]) (vs ++ [v]) := by
  unfold Lk at *; simp [h, h']
theorem lk_of {us vs : List Vl} (hl : us.length = vs.length) (h : ∀ k, k < us.length → cv (us.getD k Vl.zero) = cv (vs.getD k Vl.zero)) : Lk us vs := by
  unfold Lk
  apply List.ext_getElem (by simp [hl])
  intro k h1 h2
  have := h k (by simpa using h1)
  rw [List.getD_eq_getElem?_getD, List.getD_eq_getElem?_getD, List.getElem?_eq_getElem (by simpa using h1), List.getElem?_eq_getElem (by simpa using h2)] at this
  simpa using this
theorem lk_cv (vs : List Vl) : Lk (vs.map cv) vs := by
  unfold Lk
  rw [List.map_map]
  congr 1
  funext v
  exact cv_cv v

/-! A graph's rules do not ask for K. -/
theorem okV_cv (ins : List Int) (vs : List Vl) (i : Nat) : okV ins (vs.map cv) i = okV ins vs i := by
  unfold okV
  rw [getD_cv]
  have e : ∀ o : Int, ((vs.map cv).getD o.toNat Vl.zero).len = (vs.getD o.toNat Vl.zero).len := fun o => by rw [getD_cv]; rfl
  simp only [e]
  rfl
theorem cellsV_cv (vs : List Vl) : cellsV (vs.map cv) = cellsV vs := by
  induction vs with
  | nil => rfl
  | cons v r ih => simp [cellsV, ih, cv]
theorem okG_cv (ins : List Int) (vs : List Vl) (outs : List Int) : okG ins (vs.map cv) outs = okG ins vs outs := by
  unfold okG
  rw [cellsV_cv, List.length_map]
  have : okV ins (vs.map cv) = okV ins vs := funext (okV_cv ins vs)
  rw [this]
theorem Lk.okG {ins : List Int} {us vs : List Vl} {outs : List Int} (h : Lk us vs) : okG ins us outs = okG ins vs outs := by
  rw [← okG_cv ins us, ← okG_cv ins vs, h]

/-- The operands replaced. -/
def rnm (tq : List Int) (v : Vl) : Vl :=
  ⟨v.op, v.len, if 0 < cnt v.op then tq.getD v.a.toNat 0 else v.a, if 1 < cnt v.op then tq.getD v.b.toNat 0 else v.b, if 2 < cnt v.op then tq.getD v.c.toNat 0 else v.c, v.k⟩
theorem cv_rnm (tq : List Int) (v : Vl) : cv (rnm tq v) = rnm tq (cv v) := rfl
theorem opsOf_rnm (tq : List Int) (v : Vl) : opsOf (rnm tq v) = (opsOf v).map fun o => tq.getD o.toNat 0 := by
  have h := cnt_le v.op
  unfold opsOf rnm
  simp only
  rcases (by omega : cnt v.op = 0 ∨ cnt v.op = 1 ∨ cnt v.op = 2 ∨ cnt v.op = 3) with e | e | e | e <;> simp [e]

/-- A value stays by the rules where its operands go tq values as long. -/
theorem okV_of {ins : List Int} {vs us : List Vl} {i j : Nat} (h : okV ins vs i = true) (r : Int → Int) (hop : (us.getD j Vl.zero).op = (vs.getD i Vl.zero).op) (hlen : (us.getD j Vl.zero).len = (vs.getD i Vl.zero).len)
    (ha : cnt (vs.getD i Vl.zero).op < 1 → (us.getD j Vl.zero).a = (vs.getD i Vl.zero).a) (hb : cnt (vs.getD i Vl.zero).op < 2 → (us.getD j Vl.zero).b = (vs.getD i Vl.zero).b) (hc : cnt (vs.getD i Vl.zero).op < 3 → (us.getD j Vl.zero).c = (vs.getD i Vl.zero).c)
    (hops : opsOf (us.getD j Vl.zero) = (opsOf (vs.getD i Vl.zero)).map r) (hr : ∀ o ∈ opsOf (vs.getD i Vl.zero), 0 ≤ o → o < i → (0 ≤ r o ∧ r o < j) ∧ (us.getD (r o).toNat Vl.zero).len = (vs.getD o.toNat Vl.zero).len) : okV ins us j = true := by
  unfold okV at h ⊢
  generalize us.getD j Vl.zero = u at *
  generalize vs.getD i Vl.zero = v at *
  rw [Bool.and_eq_true, Bool.and_eq_true] at h
  obtain ⟨⟨h1, h2⟩, h3⟩ := h
  have s2 : spareB u = true := by
    rw [← h2]
    unfold spareB
    rw [hop]
    by_cases c1 : cnt v.op < 1
    · rw [ha c1, hb (by omega), hc (by omega)]
    · by_cases c2 : cnt v.op < 2
      · rw [hb c2, hc (by omega)]; simp [c1]
      · by_cases c3 : cnt v.op < 3
        · rw [hc c3]; simp [c1, c2]
        · simp [c1, c2, c3]
  rw [hlen, h1, s2, hop]
  simp only [Bool.true_and]
  by_cases h0 : v.op = 0
  · have c0 : cnt v.op < 1 := by rw [h0]; decide
    rw [if_pos h0] at h3 ⊢
    rw [ha c0]; exact h3
  · rw [if_neg h0] at h3 ⊢
    rw [Bool.and_eq_true] at h3 ⊢
    have key : ∀ o ∈ opsOf v, (0 ≤ r o ∧ r o < j) ∧ (us.getD (r o).toNat Vl.zero).len = (vs.getD o.toNat Vl.zero).len := fun o ho => by
      have := of_decide_eq_true (List.all_eq_true.1 h3.1 o ho)
      exact hr o ho this.1 this.2
    rw [hops]
    refine ⟨?_, ?_⟩
    · rw [List.all_map, List.all_eq_true]
      intro o ho
      exact decide_eq_true (key o ho).1
    · have e : ((opsOf v).map r).map (fun o => (us.getD o.toNat Vl.zero).len) = (opsOf v).map fun o => (vs.getD o.toNat Vl.zero).len := by
        rw [List.map_map]
        apply List.map_congr_left
        intro o ho
        exact (key o ho).2
      rw [e]
      by_cases c3 : cnt v.op < 3
      · rw [hc c3]; exact h3.2
      · have h8 : v.op = 8 := by
          unfold cnt at c3
          split at c3
          · omega
          · split at c3
            · omega
            · split at c3
              · assumption
              · omega
        rw [h8] at h3 ⊢
        simpa [shapeB] using h3.2
theorem okV_app {ins : List Int} {vs : List Vl} {v : Vl} {i : Nat} (hi : i < vs.length) (h : okV ins vs i = true) : okV ins (vs ++ [v]) i = true := by
  have e : ∀ k, k < vs.length → (vs ++ [v]).getD k Vl.zero = vs.getD k Vl.zero := fun k hk => by
    rw [List.getD_eq_getElem?_getD, List.getElem?_append_left hk, ← List.getD_eq_getElem?_getD]
  refine okV_of h id ?_ ?_ ?_ ?_ ?_ ?_ ?_
  · rw [e i hi]
  · rw [e i hi]
  · intro _; rw [e i hi]
  · intro _; rw [e i hi]
  · intro _; rw [e i hi]
  · rw [e i hi]; simp
  · intro o _ h0 h1
    refine ⟨⟨h0, h1⟩, ?_⟩
    rw [e _ (by simp only [id]; omega)]; rfl
theorem getD_lastV (vs : List Vl) (v : Vl) : (vs ++ [v]).getD vs.length Vl.zero = v := by
  rw [List.getD_eq_getElem?_getD, List.getElem?_append_right (Nat.le_refl _), Nat.sub_self]; rfl
theorem getD_fstV (vs : List Vl) (v : Vl) {k : Nat} (hk : k < vs.length) : (vs ++ [v]).getD k Vl.zero = vs.getD k Vl.zero := by
  rw [List.getD_eq_getElem?_getD, List.getElem?_append_left hk, ← List.getD_eq_getElem?_getD]
theorem getD_lastI (xs : List Int) (x : Int) : (xs ++ [x]).getD xs.length 0 = x := by
  rw [List.getD_eq_getElem?_getD, List.getElem?_append_right (Nat.le_refl _), Nat.sub_self]; rfl
theorem getD_fstI (xs : List Int) (x : Int) {k : Nat} (hk : k < xs.length) : (xs ++ [x]).getD k 0 = xs.getD k 0 := by
  rw [List.getD_eq_getElem?_getD, List.getElem?_append_left hk, ← List.getD_eq_getElem?_getD]

/-! PassCommon, PassNeg, PassUnit. -/
/-- One operation on the same operands. -/
def alike (u v : Vl) : Bool := (u.op == v.op && (u.len == v.len && (u.a == v.a && (u.b == v.b && u.c == v.c)))) && (u.op != 1 || fb u.k == fb v.k)
def isC (vs : List Vl) (i : Int) (k : Nat) : Bool := (vs.getD i.toNat Vl.zero).op == 1 && fb (vs.getD i.toNat Vl.zero).k == k
/-- The index tq which value i, its operands replaced, is found equal. -/
def sameAt (p : Int) (news : List Vl) (v : Vl) (i : Nat) : Int :=
  if p = 1 then (news.findIdx (alike · v) : Int)
  else if p = 3 then (if v.op = 6 ∧ (news.getD v.a.toNat Vl.zero).op = 6 then (news.getD v.a.toNat Vl.zero).a else i)
  else if (v.op = 4 ∨ v.op = 5) ∧ isC news v.b 4607182418800017408 = true then v.a
  else if v.op = 4 ∧ isC news v.a 4607182418800017408 = true then v.b
  else if v.op = 3 ∧ isC news v.b 0 = true then v.a
  else if v.op = 2 ∧ isC news v.b 9223372036854775808 = true then v.a
  else if v.op = 2 ∧ isC news v.a 9223372036854775808 = true then v.b
  else i
def eqSt (p : Int) (vs : List Vl) : Nat → List Vl × List Int
  | 0 => ([], [])
  | i + 1 => ((eqSt p vs i).1 ++ [rnm (eqSt p vs i).2 (vs.getD i Vl.zero)], (eqSt p vs i).2 ++ [sameAt p (eqSt p vs i).1 (rnm (eqSt p vs i).2 (vs.getD i Vl.zero)) i])
theorem alike_cv (u v : Vl) : alike (cv u) (cv v) = alike u v := by
  unfold alike cv
  simp [fb_fb0]
theorem isC_cv (vs : List Vl) (i : Int) (k : Nat) : isC (vs.map cv) i k = isC vs i k := by
  unfold isC
  rw [getD_cv]
  simp [cv, fb_fb0]
theorem sameAt_cv (p : Int) (news : List Vl) (v : Vl) (i : Nat) : sameAt p (news.map cv) (cv v) i = sameAt p news v i := by
  unfold sameAt
  have e : (news.map cv).findIdx (alike · (cv v)) = news.findIdx (alike · v) := by
    rw [List.findIdx_map]
    congr 1
    funext u
    exact alike_cv u v
  rw [e]
  simp only [isC_cv, getD_cv]
  rfl
theorem eqSt_cv (p : Int) (vs : List Vl) : ∀ i, (eqSt p (vs.map cv) i) = ((eqSt p vs i).1.map cv, (eqSt p vs i).2)
  | 0 => rfl
  | i + 1 => by
    have ih := eqSt_cv p vs i
    unfold eqSt
    rw [ih]
    simp only
    rw [getD_cv, ← cv_rnm, sameAt_cv]
    simp
theorem eqSt_len (p : Int) (vs : List Vl) : ∀ i, (eqSt p vs i).1.length = i ∧ (eqSt p vs i).2.length = i
  | 0 => ⟨rfl, rfl⟩
  | i + 1 => by
    have ih := eqSt_len p vs i
    unfold eqSt
    simp [ih.1, ih.2]
/-- What holds of the first i values. -/
structure EqI (ins : List Int) (vs : List Vl) (i : Nat) (S : List Vl × List Int) : Prop where
  l1 : S.1.length = i
  l2 : S.2.length = i
  to0 : ∀ j, j < i → 0 ≤ S.2.getD j 0 ∧ S.2.getD j 0 ≤ j
  root : ∀ j, j < i → S.2.getD (S.2.getD j 0).toNat 0 = S.2.getD j 0
  tlen : ∀ j, j < i → (S.1.getD (S.2.getD j 0).toNat Vl.zero).len = (vs.getD j Vl.zero).len
  len : ∀ j, j < i → (S.1.getD j Vl.zero).len = (vs.getD j Vl.zero).len
  ok : ∀ j, j < i → okV ins S.1 j = true
  opr : ∀ j, j < i → ∀ o ∈ opsOf (S.1.getD j Vl.zero), (0 ≤ o ∧ o < j) ∧ S.2.getD o.toNat 0 = o
theorem okV_ops {ins : List Int} {vs : List Vl} {i : Nat} (h : okV ins vs i = true) : ∀ o ∈ opsOf (vs.getD i Vl.zero), 0 ≤ o ∧ o < i := by
  intro o ho
  unfold okV at h
  generalize vs.getD i Vl.zero = v at *
  rw [Bool.and_eq_true] at h
  have h3 := h.2
  by_cases h0 : v.op = 0
  · have c0 : cnt v.op = 0 := by rw [h0]; rfl
    unfold opsOf at ho
    rw [c0] at ho
    simp at ho
  · rw [if_neg h0, Bool.and_eq_true] at h3
    exact of_decide_eq_true (List.all_eq_true.1 h3.1 o ho)
/-- In an elementwise operation every operand is as long as the value. -/
theorem okV_each {ins : List Int} {vs : List Vl} {i : Nat} (h : okV ins vs i = true) (he : (vs.getD i Vl.zero).op = 2 ∨ (vs.getD i Vl.zero).op = 3 ∨ (vs.getD i Vl.zero).op = 4 ∨ (vs.getD i Vl.zero).op = 5 ∨ (vs.getD i Vl.zero).op = 6) : ∀ o ∈ opsOf (vs.getD i Vl.zero), (vs.getD o.toNat Vl.zero).len = (vs.getD i Vl.zero).len := by
  intro o ho
  unfold okV at h
  generalize vs.getD i Vl.zero = v at *
  rw [Bool.and_eq_true] at h
  have h3 := h.2
  rw [if_neg (by omega), Bool.and_eq_true] at h3
  have h4 := h3.2
  unfold shapeB at h4
  rw [if_neg (by omega), if_neg (by omega), if_neg (by omega), if_neg (by omega), if_pos (by omega)] at h4
  have := List.all_eq_true.1 h4 _ (List.mem_map_of_mem ho)
  exact beq_iff_eq.1 this
theorem opsOf_a {v : Vl} (h : 1 ≤ cnt v.op) : v.a ∈ opsOf v := by
  have := cnt_le v.op
  unfold opsOf
  rcases (by omega : cnt v.op = 1 ∨ cnt v.op = 2 ∨ cnt v.op = 3) with e | e | e <;> simp [e]
theorem opsOf_b {v : Vl} (h : 2 ≤ cnt v.op) : v.b ∈ opsOf v := by
  have := cnt_le v.op
  unfold opsOf
  rcases (by omega : cnt v.op = 2 ∨ cnt v.op = 3) with e | e <;> simp [e]
theorem opsOf_c {v : Vl} (h : 3 ≤ cnt v.op) : v.c ∈ opsOf v := by
  have := cnt_le v.op
  unfold opsOf
  simp [(by omega : cnt v.op = 3)]
theorem cnt2 {op : Int} (h : op = 2 ∨ op = 3 ∨ op = 4 ∨ op = 5) : cnt op = 2 := by
  rcases h with rfl | rfl | rfl | rfl <;> decide
theorem alike_len {u v : Vl} (h : alike u v = true) : u.len = v.len := by
  unfold alike at h
  simp only [Bool.and_eq_true, beq_iff_eq] at h
  exact h.1.2.1
theorem alike_to {u v : Vl} (h : alike u v = true) (x : Vl) : alike x u = alike x v := by
  unfold alike at h ⊢
  simp only [Bool.and_eq_true, beq_iff_eq, Bool.or_eq_true] at h
  obtain ⟨⟨q1, q2, q3, q4, q5⟩, q6⟩ := h
  rw [q1, q2, q3, q4, q5]
  rcases q6 with q6 | q6
  · rw [q1] at q6
    by_cases hu : x.op = v.op
    · simp [hu, q6]
    · have : (x.op == v.op) = false := beq_eq_false_iff_ne.2 hu
      simp [this]
  · rw [q6]
theorem rnm_ok {ins : List Int} {vs : List Vl} {i : Nat} {S : List Vl × List Int} (E : EqI ins vs i S) (h : okV ins vs i = true) : okV ins (S.1 ++ [rnm S.2 (vs.getD i Vl.zero)]) i = true := by
  have el : (S.1 ++ [rnm S.2 (vs.getD i Vl.zero)]).getD i Vl.zero = rnm S.2 (vs.getD i Vl.zero) := by
    have := getD_lastV S.1 (rnm S.2 (vs.getD i Vl.zero))
    rw [E.l1] at this
    exact this
  refine okV_of h (fun o => S.2.getD o.toNat 0) ?_ ?_ ?_ ?_ ?_ ?_ ?_
  · rw [el]; rfl
  · rw [el]; rfl
  · intro c; rw [el]; unfold rnm; simp only; rw [if_neg (by omega)]
  · intro c; rw [el]; unfold rnm; simp only; rw [if_neg (by omega)]
  · intro c; rw [el]; unfold rnm; simp only; rw [if_neg (by omega)]
  · rw [el]; exact opsOf_rnm _ _
  · intro o _ h0 h1
    have t := E.to0 o.toNat (by omega)
    refine ⟨⟨t.1, by omega⟩, ?_⟩
    rw [getD_fstV _ _ (by rw [E.l1]; omega)]
    exact E.tlen o.toNat (by omega)
theorem rnm_opr {ins : List Int} {vs : List Vl} {i : Nat} {S : List Vl × List Int} (E : EqI ins vs i S) (h : okV ins vs i = true) : ∀ o ∈ opsOf (rnm S.2 (vs.getD i Vl.zero)), (0 ≤ o ∧ o < i) ∧ S.2.getD o.toNat 0 = o := by
  intro o ho
  rw [opsOf_rnm] at ho
  obtain ⟨q, hq, rfl⟩ := List.mem_map.1 ho
  have hb := okV_ops h q hq
  have t := E.to0 q.toNat (by omega)
  exact ⟨⟨t.1, by omega⟩, E.root q.toNat (by omega)⟩
/-- What value i is found equal tq: an earlier one or itself, a root, as long. -/
theorem sameAt_ok {ins : List Int} {vs : List Vl} {i : Nat} {S : List Vl × List Int} (E : EqI ins vs i S) (h : okV ins vs i = true) (p : Int) (hcom : ∀ j, j < i → (S.1.findIdx (alike · (S.1.getD j Vl.zero)) = j → S.2.getD j 0 = j ∨ p ≠ 1)) :
    (sameAt p S.1 (rnm S.2 (vs.getD i Vl.zero)) i = i) ∨ ((0 ≤ sameAt p S.1 (rnm S.2 (vs.getD i Vl.zero)) i ∧ sameAt p S.1 (rnm S.2 (vs.getD i Vl.zero)) i < i) ∧ S.2.getD (sameAt p S.1 (rnm S.2 (vs.getD i Vl.zero)) i).toNat 0 = sameAt p S.1 (rnm S.2 (vs.getD i Vl.zero)) i ∧ (S.1.getD (sameAt p S.1 (rnm S.2 (vs.getD i Vl.zero)) i).toNat Vl.zero).len = (vs.getD i Vl.zero).len) := by
  have hop := rnm_opr E h
  have hok := rnm_ok E h
  have el : (S.1 ++ [rnm S.2 (vs.getD i Vl.zero)]).getD i Vl.zero = rnm S.2 (vs.getD i Vl.zero) := by
    have := getD_lastV S.1 (rnm S.2 (vs.getD i Vl.zero))
    rw [E.l1] at this
    exact this
  have hlen : (rnm S.2 (vs.getD i Vl.zero)).len = (vs.getD i Vl.zero).len := rfl
  have heach : ((rnm S.2 (vs.getD i Vl.zero)).op = 2 ∨ (rnm S.2 (vs.getD i Vl.zero)).op = 3 ∨ (rnm S.2 (vs.getD i Vl.zero)).op = 4 ∨ (rnm S.2 (vs.getD i Vl.zero)).op = 5 ∨ (rnm S.2 (vs.getD i Vl.zero)).op = 6) → ∀ o ∈ opsOf (rnm S.2 (vs.getD i Vl.zero)), (S.1.getD o.toNat Vl.zero).len = (vs.getD i Vl.zero).len := by
    intro he o ho
    have := okV_each hok (by rw [el]; exact he) o (by rw [el]; exact ho)
    rw [el, hlen, getD_fstV _ _ (by rw [E.l1]; have := (hop o ho).1; omega)] at this
    exact this
  generalize hv : rnm S.2 (vs.getD i Vl.zero) = v at *
  have viaOp : ∀ o, o ∈ opsOf v → (v.op = 2 ∨ v.op = 3 ∨ v.op = 4 ∨ v.op = 5 ∨ v.op = 6) → (0 ≤ o ∧ o < i) ∧ S.2.getD o.toNat 0 = o ∧ (S.1.getD o.toNat Vl.zero).len = (vs.getD i Vl.zero).len :=
    fun o ho he => ⟨(hop o ho).1, (hop o ho).2, heach he o ho⟩
  unfold sameAt
  by_cases p1 : p = 1
  · rw [if_pos p1]
    by_cases hf : S.1.findIdx (alike · v) < S.1.length
    · right
      have hal := List.findIdx_getElem (w := hf)
      have hj : S.1.findIdx (alike · v) < i := by rw [← E.l1]; exact hf
      have eg : S.1.getD (S.1.findIdx (alike · v)) Vl.zero = S.1[S.1.findIdx (alike · v)] := by
        rw [List.getD_eq_getElem?_getD, List.getElem?_eq_getElem hf]; rfl
      refine ⟨by omega, ?_, ?_⟩
      · rw [Int.toNat_natCast]
        refine Or.elim (hcom _ hj ?_) id (fun c => absurd p1 c)
        congr 1
        funext u
        rw [eg, alike_to hal u]
      · rw [Int.toNat_natCast, eg]
        rw [alike_len hal]
        exact hlen
    · left
      have := List.findIdx_le_length (p := (alike · v)) (xs := S.1)
      rw [E.l1] at this hf
      omega
  · rw [if_neg p1]
    by_cases p3 : p = 3
    · rw [if_pos p3]
      by_cases c : v.op = 6 ∧ (S.1.getD v.a.toNat Vl.zero).op = 6
      · rw [if_pos c]
        right
        have hc1 : 1 ≤ cnt v.op := by rw [c.1]; decide
        have h1 := viaOp v.a (opsOf_a hc1) (by omega)
        have hj : v.a.toNat < i := by omega
        have hc2 : 1 ≤ cnt (S.1.getD v.a.toNat Vl.zero).op := by rw [c.2]; decide
        have h2 := E.opr v.a.toNat hj _ (opsOf_a hc2)
        have h3 := okV_each (E.ok v.a.toNat hj) (by omega) _ (opsOf_a hc2)
        exact ⟨⟨h2.1.1, by omega⟩, h2.2, by rw [h3]; exact h1.2.2⟩
      · rw [if_neg c]; left; rfl
    · rw [if_neg p3]
      by_cases c : (v.op = 4 ∨ v.op = 5) ∧ isC S.1 v.b 4607182418800017408 = true
      · rw [if_pos c]; right
        exact viaOp v.a (opsOf_a (by rw [cnt2 (by omega)]; omega)) (by omega)
      rw [if_neg c]
      clear c
      by_cases c : v.op = 4 ∧ isC S.1 v.a 4607182418800017408 = true
      · rw [if_pos c]; right
        exact viaOp v.b (opsOf_b (by rw [cnt2 (by omega)]; omega)) (by omega)
      rw [if_neg c]
      clear c
      by_cases c : v.op = 3 ∧ isC S.1 v.b 0 = true
      · rw [if_pos c]; right
        exact viaOp v.a (opsOf_a (by rw [cnt2 (by omega)]; omega)) (by omega)
      rw [if_neg c]
      clear c
      by_cases c : v.op = 2 ∧ isC S.1 v.b 9223372036854775808 = true
      · rw [if_pos c]; right
        exact viaOp v.a (opsOf_a (by rw [cnt2 (by omega)]; omega)) (by omega)
      rw [if_neg c]
      clear c
      by_cases c : v.op = 2 ∧ isC S.1 v.a 9223372036854775808 = true
      · rw [if_pos c]; right
        exact viaOp v.b (opsOf_b (by rw [cnt2 (by omega)]; omega)) (by omega)
      rw [if_neg c]; left; rfl
/-- With PassCommon a value that is alike tq no earlier one is found equal tq itself. -/
theorem eqSt_first (vs : List Vl) : ∀ i j, j < i → (eqSt 1 vs i).1.findIdx (alike · ((eqSt 1 vs i).1.getD j Vl.zero)) = j → (eqSt 1 vs i).2.getD j 0 = j
  | 0, j, hj, _ => by omega
  | i + 1, j, hj, hf => by
    have hl := eqSt_len 1 vs i
    have e : eqSt 1 vs (i + 1) = ((eqSt 1 vs i).1 ++ [rnm (eqSt 1 vs i).2 (vs.getD i Vl.zero)], (eqSt 1 vs i).2 ++ [sameAt 1 (eqSt 1 vs i).1 (rnm (eqSt 1 vs i).2 (vs.getD i Vl.zero)) i]) := rfl
    rw [e] at hf ⊢
    simp only at hf ⊢
    by_cases hji : j < i
    · rw [getD_fstI _ _ (by rw [hl.2]; exact hji)]
      rw [getD_fstV _ _ (by rw [hl.1]; exact hji), List.findIdx_append] at hf
      by_cases hc : (eqSt 1 vs i).1.findIdx (alike · ((eqSt 1 vs i).1.getD j Vl.zero)) < (eqSt 1 vs i).1.length
      · rw [if_pos hc] at hf
        exact eqSt_first vs i j hji hf
      · rw [if_neg hc] at hf
        rw [hl.1] at hf hc
        omega
    · have ej : j = i := by omega
      subst ej
      have e1 : ((eqSt 1 vs j).2 ++ [sameAt 1 (eqSt 1 vs j).1 (rnm (eqSt 1 vs j).2 (vs.getD j Vl.zero)) j]).getD j 0 = sameAt 1 (eqSt 1 vs j).1 (rnm (eqSt 1 vs j).2 (vs.getD j Vl.zero)) j := by
        have := getD_lastI (eqSt 1 vs j).2 (sameAt 1 (eqSt 1 vs j).1 (rnm (eqSt 1 vs j).2 (vs.getD j Vl.zero)) j)
        rw [hl.2] at this
        exact this
      have e2 : ((eqSt 1 vs j).1 ++ [rnm (eqSt 1 vs j).2 (vs.getD j Vl.zero)]).getD j Vl.zero = rnm (eqSt 1 vs j).2 (vs.getD j Vl.zero) := by
        have := getD_lastV (eqSt 1 vs j).1 (rnm (eqSt 1 vs j).2 (vs.getD j Vl.zero))
        rw [hl.1] at this
        exact this
      rw [e1]
      rw [e2, List.findIdx_append] at hf
      unfold sameAt
      rw [if_pos rfl]
      by_cases hc : (eqSt 1 vs j).1.findIdx (alike · (rnm (eqSt 1 vs j).2 (vs.getD j Vl.zero))) < (eqSt 1 vs j).1.length
      · rw [if_pos hc] at hf
        rw [hf]
      · have := List.findIdx_le_length (p := (alike · (rnm (eqSt 1 vs j).2 (vs.getD j Vl.zero)))) (xs := (eqSt 1 vs j).1)
        rw [hl.1] at this hc
        omega
theorem eqI_step {ins : List Int} {vs : List Vl} {i : Nat} {S : List Vl × List Int} (E : EqI ins vs i S) (h : okV ins vs i = true) (s : Int) (hs : s = i ∨ ((0 ≤ s ∧ s < i) ∧ S.2.getD s.toNat 0 = s ∧ (S.1.getD s.toNat Vl.zero).len = (vs.getD i Vl.zero).len)) :
    EqI ins vs (i + 1) (S.1 ++ [rnm S.2 (vs.getD i Vl.zero)], S.2 ++ [s]) := by
  have hok := rnm_ok E h
  have hop := rnm_opr E h
  have v0 : ∀ k, k < i → (S.1 ++ [rnm S.2 (vs.getD i Vl.zero)]).getD k Vl.zero = S.1.getD k Vl.zero := fun k hk => getD_fstV _ _ (by rw [E.l1]; exact hk)
  have v1 : (S.1 ++ [rnm S.2 (vs.getD i Vl.zero)]).getD i Vl.zero = rnm S.2 (vs.getD i Vl.zero) := by
    have := getD_lastV S.1 (rnm S.2 (vs.getD i Vl.zero))
    rw [E.l1] at this
    exact this
  have t0 : ∀ k, k < i → (S.2 ++ [s]).getD k 0 = S.2.getD k 0 := fun k hk => getD_fstI _ _ (by rw [E.l2]; exact hk)
  have t1 : (S.2 ++ [s]).getD i 0 = s := by
    have := getD_lastI S.2 s
    rw [E.l2] at this
    exact this
  refine ⟨by simp [E.l1], by simp [E.l2], ?_, ?_, ?_, ?_, ?_, ?_⟩
  · intro j hj
    simp only
    by_cases c : j < i
    · rw [t0 j c]; exact E.to0 j c
    · have : j = i := by omega
      subst this
      rw [t1]; omega
  · intro j hj
    simp only
    by_cases c : j < i
    · have := E.to0 j c
      rw [t0 j c, t0 _ (by omega)]; exact E.root j c
    · have : j = i := by omega
      subst this
      rw [t1]
      rcases hs with hs | ⟨hs1, hs2, _⟩
      · have e9 : s.toNat = j := by omega
        rw [e9, t1]
      · rw [t0 _ (by omega)]; exact hs2
  · intro j hj
    simp only
    by_cases c : j < i
    · have := E.to0 j c
      rw [t0 j c, v0 _ (by omega)]; exact E.tlen j c
    · have : j = i := by omega
      subst this
      rw [t1]
      rcases hs with hs | ⟨hs1, _, hs3⟩
      · have e9 : s.toNat = j := by omega
        rw [e9, v1]; rfl
      · rw [v0 _ (by omega)]; exact hs3
  · intro j hj
    simp only
    by_cases c : j < i
    · rw [v0 j c]; exact E.len j c
    · have : j = i := by omega
      subst this
      rw [v1]; rfl
  · intro j hj
    simp only
    by_cases c : j < i
    · exact okV_app (by rw [E.l1]; exact c) (E.ok j c)
    · have : j = i := by omega
      subst this
      exact hok
  · intro j hj o ho
    simp only at ho ⊢
    by_cases c : j < i
    · rw [v0 j c] at ho
      have := E.opr j c o ho
      exact ⟨this.1, by rw [t0 _ (by omega)]; exact this.2⟩
    · have : j = i := by omega
      subst this
      rw [v1] at ho
      have := hop o ho
      exact ⟨this.1, by rw [t0 _ (by omega)]; exact this.2⟩
theorem eqI_all (ins : List Int) (vs : List Vl) (p : Int) : ∀ i, (∀ j, j < i → okV ins vs j = true) → EqI ins vs i (eqSt p vs i)
  | 0, _ => ⟨rfl, rfl, by intro j hj; omega, by intro j hj; omega, by intro j hj; omega, by intro j hj; omega, by intro j hj; omega, by intro j hj; omega⟩
  | i + 1, h => by
    have E := eqI_all ins vs p i (fun j hj => h j (by omega))
    refine eqI_step E (h i (by omega)) _ (sameAt_ok E (h i (by omega)) p ?_)
    intro j hj hf
    by_cases hp : p = 1
    · subst hp
      exact .inl (eqSt_first vs i j hj hf)
    · exact .inr hp

/-! A whole pass on the lists: the values, the outputs. -/
def mapO (tq : List Int) (outs : List Int) : List Int := outs.map fun o => tq.getD o.toNat 0
def eqM (p : Int) (vs : List Vl) (outs : List Int) : List Vl × List Int := ((eqSt p vs vs.length).1, mapO (eqSt p vs vs.length).2 outs)
theorem okG_parts {ins : List Int} {vs : List Vl} {outs : List Int} (h : okG ins vs outs = true) : (ins.length ≤ 20 ∧ vs.length ≤ 2000 ∧ outs.length ≤ 50) ∧ ins.all lenB = true ∧ (∀ j, j < vs.length → okV ins vs j = true) ∧ (∀ o ∈ outs, 0 ≤ o ∧ o < vs.length) ∧ cellsV vs ≤ 50000 := by
  unfold okG at h
  simp only [Bool.and_eq_true] at h
  obtain ⟨h1, h2, h3, h4, h5⟩ := h
  exact ⟨of_decide_eq_true h1, h2, fun j hj => List.all_eq_true.1 h3 j (List.mem_range.2 hj), fun o ho => of_decide_eq_true (List.all_eq_true.1 h4 o ho), of_decide_eq_true h5⟩
theorem okG_make {ins : List Int} {vs : List Vl} {outs : List Int} (h1 : ins.length ≤ 20 ∧ vs.length ≤ 2000 ∧ outs.length ≤ 50) (h2 : ins.all lenB = true) (h3 : ∀ j, j < vs.length → okV ins vs j = true) (h4 : ∀ o ∈ outs, 0 ≤ o ∧ o < vs.length) (h5 : cellsV vs ≤ 50000) : okG ins vs outs = true := by
  unfold okG
  simp only [Bool.and_eq_true]
  exact ⟨decide_eq_true h1, h2, List.all_eq_true.2 fun j hj => h3 j (List.mem_range.1 hj), List.all_eq_true.2 fun o ho => decide_eq_true (h4 o ho), decide_eq_true h5⟩
theorem cellsV_eq : ∀ (us vs : List Vl), us.length = vs.length → (∀ j, j < us.length → (us.getD j Vl.zero).len = (vs.getD j Vl.zero).len) → cellsV us = cellsV vs
  | [], [], _, _ => rfl
  | u :: us, v :: vs, hl, h => by
    have h0 := h 0 (by simp)
    have := cellsV_eq us vs (by simpa using hl) (fun j hj => by
      have := h (j + 1) (by simp; omega)
      simpa using this)
    simp only [cellsV, this]
    have h0' : u.len = v.len := by simpa using h0
    rw [h0']
theorem eqM_ok {ins : List Int} {vs : List Vl} {outs : List Int} (p : Int) (h : okG ins vs outs = true) : okG ins (eqM p vs outs).1 (eqM p vs outs).2 = true := by
  obtain ⟨h1, h2, h3, h4, h5⟩ := okG_parts h
  have E := eqI_all ins vs p vs.length h3
  have l1 := E.l1
  unfold eqM
  refine okG_make ⟨h1.1, by rw [l1]; exact h1.2.1, by simp [mapO]; exact h1.2.2⟩ h2 (fun j hj => E.ok j (by rw [← l1]; exact hj)) ?_ ?_
  · intro o ho
    simp only [mapO, List.mem_map] at ho
    obtain ⟨q, hq, rfl⟩ := ho
    have hb := h4 q hq
    have := E.to0 q.toNat (by omega)
    rw [l1]
    omega
  · rw [cellsV_eq _ vs l1 (fun j hj => E.len j (by rw [← l1]; exact hj))]
    exact h5
theorem eqM_lk {us vs : List Vl} {outs : List Int} (p : Int) (h : Lk us vs) : Lk (eqM p us outs).1 (eqM p vs outs).1 ∧ (eqM p us outs).2 = (eqM p vs outs).2 := by
  have a := eqSt_cv p us us.length
  have b := eqSt_cv p vs us.length
  rw [h] at a
  rw [a] at b
  unfold eqM
  rw [← h.len]
  exact ⟨congrArg Prod.fst b, by rw [congrArg Prod.snd b]⟩
def Kb (vs : List Vl) : Prop := ∀ v ∈ vs, v.k < 18446744073709551616
theorem Kb.at_ {vs : List Vl} (h : Kb vs) (k : Nat) : (vs.getD k Vl.zero).k < 18446744073709551616 := by
  rw [List.getD_eq_getElem?_getD]
  by_cases hk : k < vs.length
  · rw [List.getElem?_eq_getElem hk]; exact h _ (List.getElem_mem _)
  · rw [List.getElem?_eq_none (by omega)]; exact (by decide : Vl.zero.k < 18446744073709551616)
theorem Kb.app {vs : List Vl} {v : Vl} (h : Kb vs) (hv : v.k < 18446744073709551616) : Kb (vs ++ [v]) := by
  intro u hu
  simp only [List.mem_append, List.mem_singleton] at hu
  rcases hu with c | rfl
  · exact h u c
  · exact hv
theorem okV_lenB {ins : List Int} {vs : List Vl} {i : Nat} (h : okV ins vs i = true) : lenB (vs.getD i Vl.zero).len = true := by
  unfold okV at h
  simp only [Bool.and_eq_true] at h
  exact h.1.1
/-! PassDead. -/
def setAll (F : List Bool) (os : List Int) : List Bool := os.foldl (fun F o => F.set o.toNat true) F
theorem setAll_len (os : List Int) : ∀ F, (setAll F os).length = F.length := by
  induction os with
  | nil => intro F; rfl
  | cons o r ih => intro F; show (setAll (F.set o.toNat true) r).length = _; rw [ih]; simp
theorem setAll_at (os : List Int) (i : Nat) : ∀ F : List Bool, i < F.length → (setAll F os).getD i false = (F.getD i false || os.any fun o => o.toNat == i) := by
  induction os with
  | nil => intro F _; simp [setAll]
  | cons o r ih =>
    intro F hi
    show (setAll (F.set o.toNat true) r).getD i false = _
    rw [ih _ (by simp; exact hi)]
    have e : (F.set o.toNat true).getD i false = (F.getD i false || o.toNat == i) := by
      rw [List.getD_eq_getElem?_getD, List.getElem?_set, List.getD_eq_getElem?_getD]
      by_cases c : o.toNat = i
      · subst c; simp [hi]
      · simp [c]
    rw [e, List.any_cons, Bool.or_assoc]
def isO (outs : List Int) (i : Nat) : Bool := outs.any fun o => o == (i : Int)
/-- Which values are needed, k of them looked at, from the last one on. -/
def ndI (vs : List Vl) (outs : List Int) : Nat → List Bool
  | 0 => setAll (List.replicate vs.length false) outs
  | k + 1 => if (ndI vs outs k).getD (vs.length - 1 - k) false = true then setAll (ndI vs outs k) (opsOf (vs.getD (vs.length - 1 - k) Vl.zero)) else ndI vs outs k
def ndG (outs : List Int) (G : List Bool) (i : Nat) : List Bool := G.set i (G.getD i false || isO outs i)
def ndS (vs : List Vl) (outs : List Int) : Nat → List Bool
  | 0 => List.replicate vs.length false
  | k + 1 => if (ndG outs (ndS vs outs k) (vs.length - 1 - k)).getD (vs.length - 1 - k) false = true then setAll (ndG outs (ndS vs outs k) (vs.length - 1 - k)) (opsOf (vs.getD (vs.length - 1 - k) Vl.zero)) else ndG outs (ndS vs outs k) (vs.length - 1 - k)
theorem ndI_len (vs : List Vl) (outs : List Int) : ∀ k, (ndI vs outs k).length = vs.length
  | 0 => by simp [ndI, setAll_len]
  | k + 1 => by
    rw [ndI]
    split
    · rw [setAll_len]; exact ndI_len vs outs k
    · exact ndI_len vs outs k
theorem ndS_len (vs : List Vl) (outs : List Int) : ∀ k, (ndS vs outs k).length = vs.length
  | 0 => by simp [ndS]
  | k + 1 => by
    rw [ndS]
    split
    · rw [setAll_len]; simp [ndG, ndS_len vs outs k]
    · simp [ndG, ndS_len vs outs k]
theorem set_atB (G : List Bool) (j : Nat) (b : Bool) (i : Nat) (hi : i < G.length) : (G.set j b).getD i false = if j = i then b else G.getD i false := by
  rw [List.getD_eq_getElem?_getD, List.getElem?_set, List.getD_eq_getElem?_getD]
  by_cases c : j = i
  · subst c; simp [hi]
  · simp [c]
theorem nd_same (vs : List Vl) (outs : List Int) (ho : ∀ o ∈ outs, 0 ≤ o ∧ o < vs.length) : ∀ k, k ≤ vs.length → ∀ i, i < vs.length → (ndI vs outs k).getD i false = ((ndS vs outs k).getD i false || isO outs i)
  | 0, _, i, hi => by
    rw [ndI, setAll_at _ _ _ (by simpa using hi), ndS]
    congr 1
    unfold isO
    rw [Bool.eq_iff_iff, List.any_eq_true, List.any_eq_true]
    constructor
    · rintro ⟨o, h1, h2⟩
      have := ho o h1
      have h2' : o.toNat = i := by simpa using h2
      exact ⟨o, h1, by rw [beq_iff_eq]; omega⟩
    · rintro ⟨o, h1, h2⟩
      rw [beq_iff_eq] at h2
      exact ⟨o, h1, by rw [beq_iff_eq]; omega⟩
  | k + 1, hk, i, hi => by
    have ih := nd_same vs outs ho k (by omega)
    have l1 := ndI_len vs outs k
    have l2 := ndS_len vs outs k
    have hj : vs.length - 1 - k < vs.length := by omega
    rw [ndI, ndS]
    generalize vs.length - 1 - k = j at *
    have l3 : (ndG outs (ndS vs outs k) j).length = vs.length := by simp [ndG, l2]
    have g : ∀ i, i < vs.length → (ndG outs (ndS vs outs k) j).getD i false = if j = i then ((ndS vs outs k).getD j false || isO outs j) else (ndS vs outs k).getD i false := fun i hi => by
      unfold ndG; rw [set_atB _ _ _ _ (by rw [l2]; exact hi)]
    have e0 : (ndG outs (ndS vs outs k) j).getD j false = (ndI vs outs k).getD j false := by
      rw [g j hj, if_pos rfl, ih j hj]
    have key : (ndI vs outs k).getD i false = ((ndG outs (ndS vs outs k) j).getD i false || isO outs i) := by
      rw [g i hi, ih i hi]
      by_cases c : j = i
      · subst c; rw [if_pos rfl, Bool.or_assoc, Bool.or_self]
      · rw [if_neg c]
    rw [e0]
    by_cases c : (ndI vs outs k).getD j false = true
    · rw [if_pos c, if_pos c, setAll_at _ _ _ (by rw [l1]; exact hi), setAll_at _ _ _ (by rw [l3]; exact hi), key, Bool.or_assoc, Bool.or_assoc, Bool.or_comm (isO outs i)]
    · rw [if_neg c, if_neg c]; exact key
theorem ndS_out (vs : List Vl) (outs : List Int) : ∀ k, k ≤ vs.length → ∀ i, vs.length - k ≤ i → i < vs.length → isO outs i = true → (ndS vs outs k).getD i false = true
  | 0, _, i, h1, h2, _ => by omega
  | k + 1, hk, i, h1, h2, h3 => by
    have ih := ndS_out vs outs k (by omega) i
    have l2 := ndS_len vs outs k
    rw [ndS]
    have hj : vs.length - 1 - k < vs.length := by omega
    have hjk : vs.length - k = (vs.length - 1 - k) + 1 := by omega
    have hjk' : vs.length - (k + 1) = vs.length - 1 - k := by omega
    rw [hjk] at ih
    rw [hjk'] at h1
    generalize vs.length - 1 - k = j at *
    have l3 : (ndG outs (ndS vs outs k) j).length = vs.length := by simp [ndG, l2]
    have g : (ndG outs (ndS vs outs k) j).getD i false = true := by
      unfold ndG; rw [set_atB _ _ _ _ (by rw [l2]; exact h2)]
      by_cases c : j = i
      · subst c; rw [if_pos rfl, h3, Bool.or_true]
      · rw [if_neg c]; exact ih (by omega) h2 h3
    split
    · rw [setAll_at _ _ _ (by rw [l3]; exact h2), g, Bool.true_or]
    · exact g
theorem nd_eq (vs : List Vl) (outs : List Int) (ho : ∀ o ∈ outs, 0 ≤ o ∧ o < vs.length) : ndS vs outs vs.length = ndI vs outs vs.length := by
  have l1 := ndI_len vs outs vs.length
  have l2 := ndS_len vs outs vs.length
  apply List.ext_getElem (by rw [l1, l2])
  intro i h1 h2
  have a := nd_same vs outs ho vs.length (Nat.le_refl _) i (by omega)
  rw [List.getD_eq_getElem?_getD, List.getElem?_eq_getElem h2, List.getD_eq_getElem?_getD, List.getElem?_eq_getElem h1] at a
  simp only [Option.getD_some] at a
  rw [a]
  cases hq : isO outs i
  · simp
  · have b := ndS_out vs outs vs.length (Nat.le_refl _) i (by omega) (by omega) hq
    rw [List.getD_eq_getElem?_getD, List.getElem?_eq_getElem h1] at b
    simp only [Option.getD_some] at b
    rw [b]; rfl
theorem ndI_mono {vs : List Vl} {outs : List Int} {k i : Nat} (h : (ndI vs outs k).getD i false = true) : (ndI vs outs (k + 1)).getD i false = true := by
  have hi : i < (ndI vs outs k).length := by
    rcases Nat.lt_or_ge i (ndI vs outs k).length with c | c
    · exact c
    · rw [List.getD_eq_getElem?_getD, List.getElem?_eq_none c] at h; cases h
  rw [ndI]
  split
  · rw [setAll_at _ _ _ hi, h, Bool.true_or]
  · exact h
/-- The operands of a value that is needed are needed. -/
theorem ndI_closed {ins : List Int} {vs : List Vl} {outs : List Int} (hv : ∀ j, j < vs.length → okV ins vs j = true) : ∀ k, k ≤ vs.length → ∀ i, vs.length - k ≤ i → i < vs.length → (ndI vs outs k).getD i false = true → ∀ o ∈ opsOf (vs.getD i Vl.zero), (ndI vs outs k).getD o.toNat false = true
  | 0, _, i, h1, h2, _, _, _ => by omega
  | k + 1, hk, i, h1, h2, h3, o, ho => by
    have l1 := ndI_len vs outs k
    have hb := okV_ops (hv i h2) o ho
    by_cases c : vs.length - k ≤ i
    · refine ndI_mono (ndI_closed hv k (by omega) i c h2 ?_ o ho)
      rw [ndI] at h3
      split at h3
      · rw [setAll_at _ _ _ (by rw [l1]; exact h2), Bool.or_eq_true] at h3
        rcases h3 with h3 | h3
        · exact h3
        · exfalso
          rw [List.any_eq_true] at h3
          obtain ⟨q, q1, q2⟩ := h3
          have := okV_ops (hv _ (by omega)) q q1
          rw [beq_iff_eq] at q2
          omega
      · exact h3
    · have ei : i = vs.length - 1 - k := by omega
      rw [ndI] at h3 ⊢
      rw [← ei] at h3 ⊢
      by_cases d : (ndI vs outs k).getD i false = true
      · rw [if_pos d, setAll_at _ _ _ (by rw [l1]; omega), Bool.or_eq_true]
        right
        rw [List.any_eq_true]
        exact ⟨o, ho, by rw [beq_iff_eq]⟩
      · rw [if_neg d] at h3
        exact absurd h3 d
theorem ndI_outs {vs : List Vl} {outs : List Int} (ho : ∀ o ∈ outs, 0 ≤ o ∧ o < vs.length) : ∀ k, ∀ o ∈ outs, (ndI vs outs k).getD o.toNat false = true
  | 0, o, h => by
    have := ho o h
    rw [ndI, setAll_at _ _ _ (by simp; omega), Bool.or_eq_true]
    right
    rw [List.any_eq_true]
    exact ⟨o, h, by rw [beq_iff_eq]⟩
  | k + 1, o, h => ndI_mono (ndI_outs ho k o h)
/-- The values that are kept, and where each went. -/
def dkSt (F : List Bool) (vs : List Vl) : Nat → List Vl × List Int
  | 0 => ([], List.replicate vs.length 0)
  | i + 1 => if F.getD i false = true then ((dkSt F vs i).1 ++ [rnm ((dkSt F vs i).2.set i (dkSt F vs i).1.length) (vs.getD i Vl.zero)], (dkSt F vs i).2.set i (dkSt F vs i).1.length) else dkSt F vs i
def deadM (vs : List Vl) (outs : List Int) : List Vl × List Int := ((dkSt (ndI vs outs vs.length) vs vs.length).1, mapO (dkSt (ndI vs outs vs.length) vs vs.length).2 outs)
theorem ndI_cv (vs : List Vl) (outs : List Int) : ∀ k, ndI (vs.map cv) outs k = ndI vs outs k
  | 0 => by simp [ndI]
  | k + 1 => by
    rw [ndI, ndI, ndI_cv vs outs k, List.length_map, getD_cv]
    rfl
theorem dkSt_cv (F : List Bool) (vs : List Vl) : ∀ i, dkSt F (vs.map cv) i = ((dkSt F vs i).1.map cv, (dkSt F vs i).2)
  | 0 => by simp [dkSt]
  | i + 1 => by
    rw [dkSt, dkSt, dkSt_cv F vs i]
    simp only [List.length_map]
    split
    · rw [getD_cv, ← cv_rnm]
      simp
    · rfl
theorem deadM_lk {us vs : List Vl} {outs : List Int} (h : Lk us vs) : Lk (deadM us outs).1 (deadM vs outs).1 ∧ (deadM us outs).2 = (deadM vs outs).2 := by
  have e : ndI us outs us.length = ndI vs outs us.length := by rw [← ndI_cv us, ← ndI_cv vs, h]
  unfold deadM
  rw [← h.len, e]
  have a := dkSt_cv (ndI vs outs us.length) us us.length
  have b := dkSt_cv (ndI vs outs us.length) vs us.length
  rw [h] at a
  rw [a] at b
  exact ⟨congrArg Prod.fst b, by rw [congrArg Prod.snd b]⟩
structure DkI (ins : List Int) (F : List Bool) (vs : List Vl) (i : Nat) (S : List Vl × List Int) : Prop where
  l2 : S.2.length = vs.length
  l1 : S.1.length ≤ i
  to0 : ∀ j, j < i → F.getD j false = true → 0 ≤ S.2.getD j 0 ∧ S.2.getD j 0 < S.1.length
  tlen : ∀ j, j < i → F.getD j false = true → (S.1.getD (S.2.getD j 0).toNat Vl.zero).len = (vs.getD j Vl.zero).len
  ok : ∀ j, j < S.1.length → okV ins S.1 j = true
  cells : cellsV S.1 ≤ cellsV (vs.take i)
theorem set_atI (G : List Int) (j : Nat) (b : Int) (i : Nat) (hi : i < G.length) : (G.set j b).getD i 0 = if j = i then b else G.getD i 0 := by
  rw [List.getD_eq_getElem?_getD, List.getElem?_set, List.getD_eq_getElem?_getD]
  by_cases c : j = i
  · subst c; simp [hi]
  · simp [c]
theorem dkI_all {ins : List Int} {F : List Bool} {vs : List Vl} (hv : ∀ j, j < vs.length → okV ins vs j = true) (hF : ∀ i, i < vs.length → F.getD i false = true → ∀ o ∈ opsOf (vs.getD i Vl.zero), F.getD o.toNat false = true) : ∀ i, i ≤ vs.length → DkI ins F vs i (dkSt F vs i)
  | 0, _ => ⟨by simp [dkSt], Nat.le_refl _, by intro j hj; omega, by intro j hj; omega, by intro j hj; simp [dkSt] at hj, by simp [dkSt]⟩
  | i + 1, hi => by
    have D := dkI_all hv hF i (by omega)
    have hlen : 1 ≤ (vs.getD i Vl.zero).len := by
      have := okV_lenB (hv i (by omega))
      have := of_decide_eq_true this
      omega
    rw [dkSt]
    by_cases c : F.getD i false = true
    · rw [if_pos c]
      generalize hS : dkSt F vs i = S at *
      have tt : ∀ j, j < vs.length → (S.2.set i S.1.length).getD j 0 = if i = j then (S.1.length : Int) else S.2.getD j 0 := fun j hj => set_atI _ _ _ _ (by rw [D.l2]; exact hj)
      have okN : okV ins (S.1 ++ [rnm (S.2.set i S.1.length) (vs.getD i Vl.zero)]) S.1.length = true := by
        have el := getD_lastV S.1 (rnm (S.2.set i S.1.length) (vs.getD i Vl.zero))
        refine okV_of (hv i (by omega)) (fun o => (S.2.set i S.1.length).getD o.toNat 0) ?_ ?_ ?_ ?_ ?_ ?_ ?_
        · rw [el]; rfl
        · rw [el]; rfl
        · intro c; rw [el]; unfold rnm; simp only; rw [if_neg (by omega)]
        · intro c; rw [el]; unfold rnm; simp only; rw [if_neg (by omega)]
        · intro c; rw [el]; unfold rnm; simp only; rw [if_neg (by omega)]
        · rw [el]; exact opsOf_rnm _ _
        · intro o ho h0 h1
          have hFo := hF i (by omega) c o ho
          have t := D.to0 o.toNat (by omega) hFo
          rw [tt _ (by omega), if_neg (by omega)]
          refine ⟨t, ?_⟩
          rw [getD_fstV _ _ (by omega)]
          exact D.tlen o.toNat (by omega) hFo
      refine ⟨by simp [D.l2], by simp; have := D.l1; omega, ?_, ?_, ?_, ?_⟩
      · intro j hj hFj
        simp only
        rw [tt _ (by omega)]
        rw [List.length_append, List.length_singleton]
        by_cases e : i = j
        · rw [if_pos e]; omega
        · rw [if_neg e]
          have := D.to0 j (by omega) hFj
          omega
      · intro j hj hFj
        simp only
        rw [tt _ (by omega)]
        by_cases e : i = j
        · subst e
          rw [if_pos rfl, Int.toNat_natCast, getD_lastV]; rfl
        · rw [if_neg e]
          have := D.to0 j (by omega) hFj
          rw [getD_fstV _ _ (by omega)]
          exact D.tlen j (by omega) hFj
      · intro j hj
        simp only at hj ⊢
        rw [List.length_append, List.length_singleton] at hj
        by_cases e : j < S.1.length
        · exact okV_app e (D.ok j e)
        · have : j = S.1.length := by omega
          subst this
          exact okN
      · simp only
        rw [cellsV_append, cellsV_take (by omega)]
        have := D.cells
        have e : (rnm (S.2.set i S.1.length) (vs.getD i Vl.zero)).len = (vs.getD i Vl.zero).len := rfl
        omega
    · rw [if_neg c]
      refine ⟨D.l2, by have := D.l1; omega, ?_, ?_, D.ok, ?_⟩
      · intro j hj hFj
        by_cases e : j = i
        · subst e; exact absurd hFj c
        · exact D.to0 j (by omega) hFj
      · intro j hj hFj
        by_cases e : j = i
        · subst e; exact absurd hFj c
        · exact D.tlen j (by omega) hFj
      · rw [cellsV_take (by omega)]
        have := D.cells
        omega
theorem deadM_ok {ins : List Int} {vs : List Vl} {outs : List Int} (h : okG ins vs outs = true) : okG ins (deadM vs outs).1 (deadM vs outs).2 = true := by
  obtain ⟨h1, h2, h3, h4, h5⟩ := okG_parts h
  have D := dkI_all (F := ndI vs outs vs.length) h3 (fun i hi hF o ho => ndI_closed h3 vs.length (Nat.le_refl _) i (by omega) hi hF o ho) vs.length (Nat.le_refl _)
  have l1 := D.l1
  unfold deadM
  refine okG_make ⟨h1.1, by simp only; omega, by simp [mapO]; exact h1.2.2⟩ h2 D.ok ?_ ?_
  · intro o ho
    simp only [mapO, List.mem_map] at ho
    obtain ⟨q, hq, rfl⟩ := ho
    have hb := h4 q hq
    exact D.to0 q.toNat (by omega) (ndI_outs h4 _ q hq)
  · have := D.cells
    rw [List.take_of_length_le (Nat.le_refl _)] at this
    simp only
    omega
end Go.Proofs.Ytcphabjekfihnaa

namespace Go.Proofs.Ytcphabjekfihnaa
open Go.RowKit Flt

set_option maxHeartbeats 400000 in
theorem specSame (x y : Nat) (w : World) (hx : x < 18446744073709551616) (hy : y < 18446744073709551616) :
    Calls Try.prog 22 #[.float .f64 x, .float .f64 y] w fun e w' => e = .returned (.bool ((fb x : Int) == (fb y : Int))) ∧ w' = w := by
  obtain ⟨s, r, hr, rfl⟩ := split_word x hx
  obtain ⟨t, q, hq, rfl⟩ := split_word y hy
  clear hx hy
  by_cases h1 : r ≤ 9218868437227405312
  · have n1 := isn_num (s := s) h1
    by_cases h2 : q ≤ 9218868437227405312
    · have n2 := isn_num (s := t) h2
      rw [fb_num h1, fb_num h2, W_beq hr hq]
      have hE : (FloatKind.f64.format.order (W s r) (W t q) == some .eq) = _ := ord_eq_iff (s := s) (t := t) h1 h2
      by_cases hc : r = q ∧ (s = t ∨ r = 0)
      · rw [decide_eq_true hc] at hE
        rw [show decide (r = q ∧ s = t) = (s == t) by cases s <;> cases t <;> simp [hc.1]]
        clear hc
        go_enter Try.func22, Try.ntmps22
        go_wp2_with fail
        refine (l1nan_any _ _).mono ?_
        rintro e w' ⟨rfl, rfl⟩
        go_wp2_with fail
        refine (l1nan_any _ _).mono ?_
        rintro e w' ⟨rfl, rfl⟩
        go_wp2_with fail
        refine (l1minus_any s r _ h1).mono ?_
        rintro e w' ⟨rfl, rfl⟩
        go_wp2_with fail
        refine (l1minus_any t q _ h2).mono ?_
        rintro e w' ⟨rfl, rfl⟩
        go_wp2
        go_ret
        exact ⟨rfl, rfl⟩
      · rw [decide_eq_false hc] at hE
        rw [show decide (r = q ∧ s = t) = false from decide_eq_false (fun c => hc ⟨c.1, .inl c.2⟩)]
        clear hc
        go_enter Try.func22, Try.ntmps22
        go_wp2_with fail
        refine (l1nan_any _ _).mono ?_
        rintro e w' ⟨rfl, rfl⟩
        go_wp2_with fail
        refine (l1nan_any _ _).mono ?_
        rintro e w' ⟨rfl, rfl⟩
        go_wp2
        go_ret
        exact ⟨rfl, rfl⟩
    · have n2 := isn_nan (s := t) (by omega : 9218868437227405312 < q) hq
      rw [fb_num h1, fb_nan (by omega) hq, show (((9221120237041090560 : Nat)) : Int) = 9221120237041090560 from rfl, (W_ne_nan h1).1]
      go_enter Try.func22, Try.ntmps22
      go_wp2_with fail
      refine (l1nan_any _ _).mono ?_
      rintro e w' ⟨rfl, rfl⟩
      go_wp2_with fail
      refine (l1nan_any _ _).mono ?_
      rintro e w' ⟨rfl, rfl⟩
      go_wp2_with fail
      refine (l1nan_any _ _).mono ?_
      rintro e w' ⟨rfl, rfl⟩
      go_wp2
      go_ret
      exact ⟨rfl, rfl⟩
  · have n1 := isn_nan (s := s) (by omega : 9218868437227405312 < r) hr
    by_cases h2 : q ≤ 9218868437227405312
    · have n2 := isn_num (s := t) h2
      rw [fb_num h2, fb_nan (by omega) hr, show (((9221120237041090560 : Nat)) : Int) = 9221120237041090560 from rfl, (W_ne_nan h2).2]
      go_enter Try.func22, Try.ntmps22
      go_wp2_with fail
      refine (l1nan_any _ _).mono ?_
      rintro e w' ⟨rfl, rfl⟩
      go_wp2_with fail
      refine (l1nan_any _ _).mono ?_
      rintro e w' ⟨rfl, rfl⟩
      go_wp2_with fail
      refine (l1nan_any _ _).mono ?_
      rintro e w' ⟨rfl, rfl⟩
      go_wp2
      go_ret
      exact ⟨rfl, rfl⟩
    · have n2 := isn_nan (s := t) (by omega : 9218868437227405312 < q) hq
      rw [fb_nan (by omega) hr, fb_nan (by omega) hq, show (((9221120237041090560 : Nat) : Int) == ((9221120237041090560 : Nat) : Int)) = true from beq_self_eq_true _]
      go_enter Try.func22, Try.ntmps22
      go_wp2_with fail
      refine (l1nan_any _ _).mono ?_
      rintro e w' ⟨rfl, rfl⟩
      go_wp2_with fail
      refine (l1nan_any _ _).mono ?_
      rintro e w' ⟨rfl, rfl⟩
      go_wp2_with fail
      refine (l1nan_any _ _).mono ?_
      rintro e w' ⟨rfl, rfl⟩
      go_wp2
      go_ret
      exact ⟨rfl, rfl⟩

set_option maxHeartbeats 400000 in
theorem fnSame (x y : Nat) (w : World) (hx : x < 18446744073709551616) (hy : y < 18446744073709551616) :
    Calls Try.prog 4 #[.float .f64 x, .float .f64 y] w fun e w' => e = .returned (.bool true) ∧ w' = w := by
  go_enter Try.func4, Try.ntmps4
  go_wp2_with fail
  refine (specSame _ _ _ hx hy).mono ?_
  rintro e w' ⟨rfl, rfl⟩
  go_wp2_with fail
  refine (implSame _ _ _).mono ?_
  rintro e w' ⟨rfl, rfl⟩
  generalize ((fb x : Int) == (fb y : Int)) = b
  cases b
  all_goals
    go_wp2
    go_ret
    exact ⟨rfl, rfl⟩
end Go.Proofs.Ytcphabjekfihnaa

namespace Go.Proofs.Ytcphabjekfihnaa
open Go.RowKit Flt
attribute [local go_sem] alloc_drewN setCell_drewN run_store_float

set_option maxHeartbeats 400000 in
theorem implFromW (b : Int) (w : World) :
    Calls Try.prog 16 #[.int .u64 b] w fun e w' => e = .returned (.float .f64 b.toNat) ∧ w' = w := by
  have hc := call44
  go_enter Try.func16, Try.ntmps16
  go_wp2
  go_ret
  exact ⟨rfl, rfl⟩
theorem nat_beq (x y : Nat) : ((x : Int) == (y : Int)) = (x == y) := by
  rw [Bool.eq_iff_iff, beq_iff_eq, beq_iff_eq]; omega
def eitherB (op : Int) : Bool := op == 4 || op == 2
/-- What leaves the other operand as it is, on the right. -/
def unitF (op : Int) : Nat := if op = 4 ∨ op = 5 then 4607182418800017408 else if op = 2 then 9223372036854775808 else 0
def unitB (op : Int) : Bool := decide (op = 4 ∨ op = 5 ∨ op = 3 ∨ op = 2)
/-! The model's leaves. -/
/-- Four of the six cells hold what they held; the operands are being replaced. -/
theorem rnm_cases (tq : List Int) (v : Vl) (q : Nat) (hq : cnt v.op = q) : rnm tq v = ⟨v.op, v.len, if 0 < q then tq.getD v.a.toNat 0 else v.a, if 1 < q then tq.getD v.b.toNat 0 else v.b, if 2 < q then tq.getD v.c.toNat 0 else v.c, v.k⟩ := by
  unfold rnm; rw [hq]
end Go.Proofs.Ytcphabjekfihnaa

namespace Go.Proofs.Ytcphabjekfihnaa
open Go.RowKit Flt
attribute [local go_sem] alloc_drewN setCell_drewN run_store_float

theorem ops0 {op : Int} (h0 : 0 ≤ op) (h1 : op ≤ 13) : ops1 op = cnt op := by
  rcases (by omega : op = 0 ∨ op = 1 ∨ op = 2 ∨ op = 3 ∨ op = 4 ∨ op = 5 ∨ op = 6 ∨ op = 7 ∨ op = 8 ∨ op = 9 ∨ op = 10 ∨ op = 11 ∨ op = 12 ∨ op = 13) with rfl | rfl | rfl | rfl | rfl | rfl | rfl | rfl | rfl | rfl | rfl | rfl | rfl | rfl <;> decide
theorem okV_opR {ins : List Int} {vs : List Vl} {i : Nat} (h : okV ins vs i = true) : 0 ≤ (vs.getD i Vl.zero).op ∧ (vs.getD i Vl.zero).op ≤ 13 := by
  unfold okV at h
  generalize vs.getD i Vl.zero = v at *
  rw [Bool.and_eq_true] at h
  have h3 := h.2
  by_cases h0 : v.op = 0
  · omega
  · rw [if_neg h0, Bool.and_eq_true] at h3
    have h4 := h3.2
    unfold shapeB at h4
    by_cases c : 9 ≤ v.op ∧ v.op ≤ 12
    · omega
    · rw [if_neg (by omega), if_neg (by omega), if_neg (by omega), if_neg (by omega)] at h4
      by_cases d : 1 ≤ v.op ∧ v.op ≤ 13
      · omega
      · rw [if_neg d] at h4; cases h4
/-- An operand's cell in the list of where values went. -/
theorem IS.at_idx {w : World} {lo hi : Nat} {a : Option Addr} {n : Nat} {xs : List Int} (f : IS w lo hi a n xs) {o : Int} (h0 : 0 ≤ o) (h1 : o < n) : ∃ g off k, a = some ⟨g, off, none⟩ ∧ o = (k : Nat) ∧ k < n ∧ g < w.heap.size ∧ w.cell? ⟨g, off + k, none⟩ = some (.int .i64 (xs.getD o.toNat 0)) := by
  rcases f.at_ with z | ⟨g, off, e, _, _, z3, z4⟩
  · omega
  · exact ⟨g, off, o.toNat, e, by omega, by omega, z3, z4 o.toNat (by omega)⟩
theorem cell_in3 {w : World} {g o : Nat} {x : Value} (hg : g < w.heap.size) (h : w.cell? ⟨g, o, none⟩ = some x) (o1 o2 o3 : Obj) : (((w.alloc o1).alloc o2).alloc o3).cell? ⟨g, o, none⟩ = some x :=
  kcell (((kept_alloc 0 0 w o1).trans (kept_alloc 0 0 _ o2)).trans (kept_alloc 0 0 _ o3)) hg h
theorem kept_box (w : World) (o : Obj) (k : Nat) (x : Value) : Kept 0 0 w ((w.alloc o).setCell ⟨w.heap.size, k, none⟩ x) := kept_put w (w.alloc o) (kept_alloc 0 0 w o) w.heap.size k x (Nat.le_refl _)

end Go.Proofs.Ytcphabjekfihnaa

namespace Go.Proofs.Ytcphabjekfihnaa
open Go.RowKit Flt
attribute [local go_sem] alloc_drewN setCell_drewN run_store_float

/-- A whole block of bools that the call laid, not frozen. -/
def BR (w : World) (g : Nat) (xs : List Bool) : Prop := w.heap[g]? = some (.cells (xs.map Value.bool).toArray 4 (0, 0))
theorem BR.lt {w : World} {g : Nat} {xs : List Bool} (h : BR w g xs) : g < w.heap.size := by
  unfold BR at h
  rcases Nat.lt_or_ge g w.heap.size with c | c
  · exact c
  · rw [Array.getElem?_eq_none c] at h; cases h
theorem BR.cell {w : World} {g : Nat} {xs : List Bool} (h : BR w g xs) (k : Nat) (hk : k < xs.length) : w.cell? ⟨g, k, none⟩ = some (.bool (xs.getD k false)) := by
  rw [cell_of_row w g k _ _ _ h]
  simp [hk, List.getD_eq_getElem?_getD]
theorem BR.free {w : World} {g : Nat} {xs : List Bool} (h : BR w g xs) (k : Nat) : w.frozen? ⟨g, k, none⟩ = false := frozen_of_row w g k _ _ h
theorem BR.keep {w w' : World} {g l h : Nat} {xs : List Bool} (f : BR w g xs) (k : Kept l h w w') (hd : g < l ∨ h ≤ g ∨ h ≤ l) : BR w' g xs := by
  unfold BR
  rw [k.block g f.lt (by omega)]
  exact f
theorem BR.keepC {w w' : World} {S : Nat → Prop} {g : Nat} {xs : List Bool} (f : BR w g xs) (k : Chg S w w') (hd : ¬ S g) : BR w' g xs := by
  unfold BR
  rw [k.block g f.lt hd]
  exact f
theorem BR.set {w : World} {g : Nat} {xs : List Bool} (h : BR w g xs) (k : Nat) (x : Bool) : BR (w.setCell ⟨g, k, none⟩ (.bool x)) g (xs.set k x) := by
  unfold BR at h ⊢
  rw [heap_setCell_same w g k _ _ _ h]
  simp [List.map_set]
theorem BR.drewN {w : World} {g : Nat} {xs : List Bool} (h : BR w g xs) (m : Nat) : BR (w.drewN m) g xs := h
theorem BR.made (w : World) (n : Nat) : BR (w.alloc (.cells (madeCells #[.bool false] n) 4)) w.heap.size (List.replicate n false) := by
  unfold BR
  rw [heap_alloc_new]
  have : (madeCells #[.bool false] n) = (List.map Value.bool (List.replicate n false)).toArray := by
    apply Array.toList_inj.1
    rw [toList_madeCells_one]
    simp
  rw [this]
theorem infoB : (Try.prog.info? 4).map (fun i => (i.zero, i.size, i.bytes)) = some (some (.bool false), 1, 1) := by kernel_rfl
theorem make_b (n : Nat) (w : World) (hn : n ≤ 1099511627776) :
    (Instr.makeSlice 146 (.int .i64 (n : Int)) (.int .i64 (n : Int))).run Try.prog w = .ok (.slice (some ⟨w.heap.size, 0, none⟩) n n) (w.alloc (.cells (madeCells #[.bool false] n) 4)) := by
  obtain ⟨i, hi, hz0, hz1, hz2⟩ := info_parts infoB
  have := run_make (P := Try.prog) w 146 4 i (.bool false) Try.underlying146 hi hz0 .i64 .i64 n n (by omega) (by omega) (by rw [hz2]; omega) (by omega)
  rw [hz1, Nat.mul_one, Int.toNat_natCast] at this
  exact this
theorem IR.keepC {w w' : World} {S : Nat → Prop} {g : Nat} {xs : List Int} (f : IR w g xs) (k : Chg S w w') (hd : ¬ S g) : IR w' g xs := by
  unfold IR
  rw [k.block g f.lt hd]
  exact f
theorem VA.keepC {w w' : World} {S : Nat → Prop} {g n : Nat} {vs : List Vl} (q : VA w g n vs) (k : Chg S w w') (hd : ¬ S g) : VA w' g n vs :=
  ⟨q.len, Nat.lt_of_lt_of_le q.lt k.size, fun j hj => by
    have e : ∀ o, w'.cell? ⟨g, o, none⟩ = w.cell? ⟨g, o, none⟩ := fun o => k.cell (p := ⟨g, o, none⟩) q.lt hd
    obtain ⟨c0, c1, c2, c3, c4, c5⟩ := q.at_ j hj
    exact ⟨by rw [e]; exact c0, by rw [e]; exact c1, by rw [e]; exact c2, by rw [e]; exact c3, by rw [e]; exact c4, by rw [e]; exact c5⟩, fun o => by rw [k.frozen (p := ⟨g, o, none⟩) q.lt hd]; exact q.free o⟩
theorem IBk.keepC {w w' : World} {S : Nat → Prop} {g n : Nat} {xs : List Int} (q : IBk w g n xs) (k : Chg S w w') (hd : ¬ S g) : IBk w' g n xs :=
  ⟨q.len, Nat.lt_of_lt_of_le q.lt k.size, fun j hj => by rw [k.cell (p := ⟨g, j, none⟩) q.lt hd]; exact q.at_ j hj, fun o => by rw [k.frozen (p := ⟨g, o, none⟩) q.lt hd]; exact q.free o⟩
theorem Chg.mono {S T : Nat → Prop} {w w' : World} (h : Chg S w w') (hs : ∀ b, b < w.heap.size → S b → T b) : Chg T w w' :=
  ⟨h.os, h.tape, h.output, h.size, fun k hk hn => h.block k hk fun c => hn (hs k hk c)⟩
theorem Chg.trans {S : Nat → Prop} {a b c : World} (h : Chg S a b) (k : Chg S b c) : Chg S a c := Chg.andThen h k
/-- A stretch whose own blocks were laid behind a. -/
theorem Chg.new {S T : Nat → Prop} {a b c : World} (h : Chg S a b) (k : Chg T b c) (hT : ∀ i, i < a.heap.size → T i → S i) : Chg S a c :=
  ⟨k.os.trans h.os, k.tape.trans h.tape, k.output.trans h.output, Nat.le_trans h.size k.size, fun i hi hn => (k.block i (Nat.lt_of_lt_of_le hi h.size) (fun c => hn (hT i hi c))).trans (h.block i hi hn)⟩
theorem chg_setCell {S : Nat → Prop} (w : World) (g o : Nat) (v : Value) (h : S g) : Chg S w (w.setCell ⟨g, o, none⟩ v) :=
  (kept_setCell (lo := g) (hi := g + 1) w ⟨g, o, none⟩ v (.inl ⟨Nat.le_refl _, Nat.lt_succ_self _⟩)).chg1 h

/-- The graph that the passes write over: its three lists in blocks of their own. -/
structure PG (w : World) (g1 g2 g3 n1 n2 n3 : Nat) (ins : List Int) (vs : List Vl) (outs : List Int) : Prop where
  i : IBk w g1 n1 ins
  v : VA w g2 n2 vs
  o : IBk w g3 n3 outs
  d12 : g1 ≠ g2
  d13 : g1 ≠ g3
  d23 : g2 ≠ g3
theorem PG.keep {w w' : World} {g1 g2 g3 n1 n2 n3 : Nat} {ins : List Int} {vs : List Vl} {outs : List Int} (f : PG w g1 g2 g3 n1 n2 n3 ins vs outs) (k : Kept 0 0 w w') : PG w' g1 g2 g3 n1 n2 n3 ins vs outs :=
  ⟨f.i.keep k (.inr (.inr (Nat.le_refl _))), f.v.keep k (.inr (.inr (Nat.le_refl _))), f.o.keep k (.inr (.inr (Nat.le_refl _))), f.d12, f.d13, f.d23⟩
theorem IBk.is {w : World} {g n : Nat} {xs : List Int} (f : IBk w g n xs) : IS w 0 w.heap.size (some ⟨g, 0, none⟩) n xs :=
  ⟨f.len, .inr ⟨g, 0, rfl, Nat.zero_le _, f.lt, f.lt, fun k hk => by rw [Nat.zero_add]; exact f.at_ k hk⟩⟩
theorem rnm_pad {tq pad : List Int} {v : Vl} (h : ∀ o ∈ opsOf v, 0 ≤ o ∧ o < tq.length) : rnm (tq ++ pad) v = rnm tq v := by
  have key : ∀ o, o ∈ opsOf v → (tq ++ pad).getD o.toNat 0 = tq.getD o.toNat 0 := fun o ho => by
    have := h o ho
    rw [List.getD_eq_getElem?_getD, List.getElem?_append_left (by omega), ← List.getD_eq_getElem?_getD]
  unfold rnm
  have hc := cnt_le v.op
  congr 1
  · split
    · exact key _ (opsOf_a (by omega))
    · rfl
  · split
    · exact key _ (opsOf_b (by omega))
    · rfl
  · split
    · exact key _ (opsOf_c (by omega))
    · rfl
theorem set_mid {α : Type} (xs ys : List α) (y z : α) : (xs ++ y :: ys).set xs.length z = xs ++ z :: ys := by
  rw [List.set_append_right _ _ (Nat.le_refl _), Nat.sub_self]; rfl
theorem drop_cons {vs : List Vl} {i : Nat} (h : i < vs.length) : vs.drop i = vs.getD i Vl.zero :: vs.drop (i + 1) := by
  rw [List.drop_eq_getElem_cons h, List.getD_eq_getElem?_getD, List.getElem?_eq_getElem h]; rfl
end Go.Proofs.Ytcphabjekfihnaa

namespace Go.Proofs.Ytcphabjekfihnaa
open Go.RowKit Flt
attribute [local go_sem] alloc_drewN setCell_drewN run_store_float

theorem own_va {W : World} {base n gk cap : Nat} {ks : List Vl} (h : W.ownsRow base 40 6 (.slice (some ⟨gk, 0, none⟩) n cap) n (flat ks)) (hl : ks.length = n) : VA W gk n ks ∧ base ≤ gk := by
  rcases Nat.eq_zero_or_pos n with h0 | h0
  · subst h0
    rcases h.2 with ⟨e, _⟩ | ⟨g, c, cur, e, b1, b2, b3⟩
    · cases e
    · cases e
      have hlt : gk < W.heap.size := by
        rcases Nat.lt_or_ge gk W.heap.size with c | c
        · exact c
        · rw [Array.getElem?_eq_none c] at b2; cases b2
      exact ⟨⟨hl, hlt, fun k hk => by omega, fun o => frozen_of_row W gk o _ _ b2⟩, b1⟩
  · obtain ⟨g, c, e, h1, _, _, hA⟩ := row_at h h0 hl
    cases e
    exact ⟨hA, h1⟩
theorem own_ioS {W : World} {base n G cap : Nat} {xs : List Int} (h : OI W base G n cap xs) (hl : xs.length = n) : IBk W G n xs := by
  rcases Nat.eq_zero_or_pos n with h0 | h0
  · subst h0
    rcases h.2 with ⟨e, _⟩ | ⟨g, c, cur, e, b1, b2, b3⟩
    · cases e
    · cases e
      have hlt : G < W.heap.size := by
        rcases Nat.lt_or_ge G W.heap.size with c | c
        · exact c
        · rw [Array.getElem?_eq_none c] at b2; cases b2
      exact ⟨hl, hlt, fun k hk => by omega, fun o => frozen_of_row W G o _ _ b2⟩
  · rcases own_io h hl with h1 | ⟨g, e, _, h1⟩
    · omega
    · cases e; exact h1

set_option maxRecDepth 100000 in
set_option maxHeartbeats 4000000 in
theorem copyGraphO (w : World) (_lo g1 g2 g3 n1 c1 n2 c2 n3 c3 : Nat) (ins : List Int) (vs : List Vl) (outs : List Int) (f : GN w g1 g2 g3 n2 ins vs outs) (e1 : ins.length = n1) (e3 : outs.length = n3) (l1 : n1 ≤ 1000000) (l2 : n2 ≤ 2000) (l3 : n3 ≤ 1000000) :
    Calls Try.prog 156 #[gagg (some ⟨g1, 0, none⟩) n1 c1 (some ⟨g2, 0, none⟩) n2 c2 (some ⟨g3, 0, none⟩) n3 c3] w fun e w' => ∃ G1 d1 G2 d2 G3 d3, e = .returned (gagg (some ⟨G1, 0, none⟩) n1 d1 (some ⟨G2, 0, none⟩) n2 d2 (some ⟨G3, 0, none⟩) n3 d3) ∧ OI w' w.heap.size G1 n1 d1 ins ∧ w'.ownsRow w.heap.size 40 6 (.slice (some ⟨G2, 0, none⟩) n2 d2) n2 (flat vs) ∧ OI w' w.heap.size G3 n3 d3 outs ∧ (w.heap.size ≤ G1 ∧ G1 < G2 ∧ G2 < G3 ∧ G3 < w'.heap.size) ∧ Kept 0 0 w w' := by
  have k0 := kept_alloc 0 0 w (gbox (some ⟨g1, 0, none⟩) n1 c1 (some ⟨g2, 0, none⟩) n2 c2 (some ⟨g3, 0, none⟩) n3 c3)
  have k0' := kept_alloc 0 0 (w.alloc (gbox (some ⟨g1, 0, none⟩) n1 c1 (some ⟨g2, 0, none⟩) n2 c2 (some ⟨g3, 0, none⟩) n3 c3)) nbox
  have HB : Hid _ := (g0_start w (.slice (some ⟨g1, 0, none⟩) n1 c1) (.slice (some ⟨g2, 0, none⟩) n2 c2) (.slice (some ⟨g3, 0, none⟩) n3 c3)).keep k0'
  have hz : (w.alloc (gbox (some ⟨g1, 0, none⟩) n1 c1 (some ⟨g2, 0, none⟩) n2 c2 (some ⟨g3, 0, none⟩) n3 c3)).heap.size = w.heap.size + 1 := by simp
  have hR := rb_start (w.alloc (gbox (some ⟨g1, 0, none⟩) n1 c1 (some ⟨g2, 0, none⟩) n2 c2 (some ⟨g3, 0, none⟩) n3 c3))
  rw [hz] at hR
  have HR : Hid _ := hR
  have HK : Hid _ := k0.trans k0'
  have HI1 : Hid _ := f.i.keep (k0.trans k0') (.inr (.inr (Nat.le_refl _)))
  have HI2 : Hid _ := f.v.keep (k0.trans k0') (.inr (.inr (Nat.le_refl _)))
  have HI3 : Hid _ := f.o.keep (k0.trans k0') (.inr (.inr (Nat.le_refl _)))
  have HZ : Hid (((w.alloc (gbox (some ⟨g1, 0, none⟩) n1 c1 (some ⟨g2, 0, none⟩) n2 c2 (some ⟨g3, 0, none⟩) n3 c3)).alloc nbox).heap.size = w.heap.size + 1 + 1) := by show _ = _; simp
  have HVL : Hid (vs.length = n2) := f.v.len
  clear f k0 k0' hz hR
  obtain ⟨_, q0, q1, q2⟩ := HB.out
  go_enter Try.func156, Try.ntmps156
  go_wp2_with fail
  generalize (w.alloc (gbox (some ⟨g1, 0, none⟩) n1 c1 (some ⟨g2, 0, none⟩) n2 c2 (some ⟨g3, 0, none⟩) n3 c3)).alloc nbox = w1 at HB HR HK HI1 HI2 HI3 HZ q0 q1 q2 ⊢
  have hPR : w.heap.size ≠ w.heap.size + 1 := by omega
  go_region_held3 (fun w' => w'.cell? ⟨w.heap.size, 0, none⟩ = some (.slice (some ⟨g1, 0, none⟩) n1 c1) ∧ w'.cell? ⟨w.heap.size, 1, none⟩ = some (.slice (some ⟨g2, 0, none⟩) n2 c2) ∧ w'.cell? ⟨w.heap.size, 2, none⟩ = some (.slice (some ⟨g3, 0, none⟩) n3 c3)) (first | go_keep | (simp only [cell3c _ _ _ _ _ _ _ hPR]; exact ⟨r0, r1, r2⟩))
    (first
      | (go_at_call 179; refine Calls.mono (cloneI w3 g3 n3 c3 outs l3 (IE.keep HI3.out kk2 (.inr (.inr (Nat.le_refl _)))) e3) ?_; rintro e w4 ⟨G3, d3, rfl, b3, b3', o3, k3⟩; have kk3 := Kept.trans kk2 k3; obtain ⟨_, r0, r1, r2⟩ := G0.keep HB.out kk3; obtain ⟨_, j0, j1, j2, f0, f1, f2⟩ := RB.keep HR.out kk3)
      | (go_at_call 180; refine Calls.mono (cloneV w2 g2 n2 c2 vs (by omega) (VA.keep HI2.out kk1 (.inr (.inr (Nat.le_refl _))))) ?_; rintro e w3 ⟨G2, d2, rfl, b2, b2', o2, k2⟩; have kk2 := Kept.trans kk1 k2; obtain ⟨_, t0, t1, t2⟩ := G0.keep HB.out kk2)
      | (go_at_call 179; refine Calls.mono (cloneI (w1.drewN 1) g1 n1 c1 ins l1 (IE.drewN HI1.out 1) e1) ?_; rintro e w2 ⟨G1, d1, rfl, b1, b1', o1, k1⟩; have kk1 := Kept.trans (kept_drewN 0 0 w1 1) k1; obtain ⟨_, s0, s1, s2⟩ := G0.keep HB.out kk1))
  have hz1 : (w1.drewN 1).heap.size = w.heap.size + 1 + 1 := HZ.out
  have hz2 : (w1.drewN 1).heap.size ≤ w2.heap.size := k1.size
  have hz3 : w2.heap.size ≤ w3.heap.size := k2.size
  have hz4 : w3.heap.size ≤ w4.heap.size := k3.size
  have H1 : Hid (OI w4 w.heap.size G1 n1 d1 ins) := own_mono (own_keepJ o1 (k2.trans k3)) (by omega)
  have H2 : Hid (w4.ownsRow w.heap.size 40 6 (.slice (some ⟨G2, 0, none⟩) n2 d2) n2 (flat vs)) := own_mono (own_keepJ o2 k3) (by omega)
  have H3 : Hid (OI w4 w.heap.size G3 n3 d3 outs) := own_mono o3 (by omega)
  have HD : Hid (G1 < G2 ∧ G2 < G3 ∧ w.heap.size + 1 + 1 ≤ G1 ∧ G3 < w4.heap.size) := ⟨by omega, by omega, by omega, by omega⟩
  have HK4 : Hid _ := HK.out.trans kk3
  clear q0 q1 q2 s0 s1 s2 t0 t1 t2 r0 r1 r2 b1 b2 b3 b1' b2' b3' o1 o2 o3 k1 k2 k3 kk1 kk2 kk3 hz1 hz2 hz3 hz4 HI1 HI2 HI3 HB
  go_wp2_with fail
  obtain ⟨y0, y1, y2⟩ := put3_0 w4 (w.heap.size + 1) _ _ _ j0 j1 j2 (.slice (some ⟨G1, 0, none⟩) n1 d1) (.slice (some ⟨G2, 0, none⟩) n2 d2) (.slice (some ⟨G3, 0, none⟩) n3 d3)
  have kp := put3_kept w4 (w.heap.size + 1) (.slice (some ⟨G1, 0, none⟩) n1 d1) (.slice (some ⟨G2, 0, none⟩) n2 d2) (.slice (some ⟨G3, 0, none⟩) n3 d3)
  refine bodyPost_ret (v := gagg (some ⟨G1, 0, none⟩) n1 d1 (some ⟨G2, 0, none⟩) n2 d2 (some ⟨G3, 0, none⟩) n3 d3) (by simp [results, Try.results156, go_sem, y0, y1, y2]) rfl ⟨G1, d1, G2, d2, G3, d3, rfl, ?_, ?_, ?_, ?_, ?_⟩
  · exact own_keepR H1.out kp (fun g hg => by
      have e : g = G1 := by simpa [Value.ownBlock] using hg.symm
      have := HD.out; omega)
  · exact own_keepR H2.out kp (fun g hg => by
      have e : g = G2 := by simpa [Value.ownBlock] using hg.symm
      have := HD.out; omega)
  · exact own_keepR H3.out kp (fun g hg => by
      have e : g = G3 := by simpa [Value.ownBlock] using hg.symm
      have := HD.out; omega)
  · have := HD.out
    have := kp.size
    omega
  · exact HK4.out.new kp (by omega)
theorem copyGraph (w : World) (_lo g1 g2 g3 n1 c1 n2 c2 n3 c3 : Nat) (ins : List Int) (vs : List Vl) (outs : List Int) (f : GN w g1 g2 g3 n2 ins vs outs) (e1 : ins.length = n1) (e3 : outs.length = n3) (l1 : n1 ≤ 1000000) (l2 : n2 ≤ 2000) (l3 : n3 ≤ 1000000) :
    Calls Try.prog 156 #[gagg (some ⟨g1, 0, none⟩) n1 c1 (some ⟨g2, 0, none⟩) n2 c2 (some ⟨g3, 0, none⟩) n3 c3] w fun e w' => ∃ G1 d1 G2 d2 G3 d3, e = .returned (gagg (some ⟨G1, 0, none⟩) n1 d1 (some ⟨G2, 0, none⟩) n2 d2 (some ⟨G3, 0, none⟩) n3 d3) ∧ PG w' G1 G2 G3 n1 n2 n3 ins vs outs ∧ (w.heap.size ≤ G1 ∧ w.heap.size ≤ G2 ∧ w.heap.size ≤ G3) ∧ Kept 0 0 w w' := by
  have hv := f.v.len
  refine (copyGraphO w _lo g1 g2 g3 n1 c1 n2 c2 n3 c3 ins vs outs f e1 e3 l1 l2 l3).mono ?_
  rintro e w' ⟨G1, d1, G2, d2, G3, d3, rfl, o1, o2, o3, hd, hk⟩
  exact ⟨G1, d1, G2, d2, G3, d3, rfl, ⟨own_ioS o1 e1, (own_va o2 hv).1, own_ioS o3 e3, by omega, by omega, by omega⟩, by omega, hk⟩
end Go.Proofs.Ytcphabjekfihnaa
