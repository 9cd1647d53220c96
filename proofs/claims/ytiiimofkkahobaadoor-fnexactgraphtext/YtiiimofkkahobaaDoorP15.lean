import Derived.Test.YtiiimofkkahobaaDoorP05
import Derived.Test.YtiiimofkkahobaaDoorP13
import Derived.Test.YtiiimofkkahobaaDoorP01
import Derived.Test.YtiiimofkkahobaaDoorP04
namespace Go.Proofs.YtiiimofkkahobaaDoor
open Go.RowKit Flt

theorem fb_fb0 (x : Nat) : fb (fb x) = fb x := by
  cases h : (f64.read x).isNaN
  · rw [fb_of_num h, fb_of_num h]
  · rw [fb_of_nan h]; decide
theorem fb_zero : fb 0 = 0 := by decide

/-- A value with one NaN for all. -/
def cv (v : Vl) : Vl := ⟨v.op, v.len, v.a, v.b, v.c, fb v.k⟩
/-- Two lists of values, the same but for the bits of NaNs. -/
def Lk (us vs : List Vl) : Prop := us.map cv = vs.map cv
theorem cv_cv (v : Vl) : cv (cv v) = cv v := by simp [cv, fb_fb0]
theorem cv_zero : cv Vl.zero = Vl.zero := by simp [cv, Vl.zero, fb_zero]
theorem getD_cv (vs : List Vl) (k : Nat) : (vs.map cv).getD k Vl.zero = cv (vs.getD k Vl.zero) := by
  rw [List.getD_eq_getElem?_getD, List.getD_eq_getElem?_getD, List.getElem?_map]
  cases vs[k]? with
  | none => exact cv_zero.symm
  | some x => rfl
theorem Lk.len {us vs : List Vl} (h : Lk us vs) : us.length = vs.length := by
  have := congrArg List.length h
  simpa using this
theorem Lk.at_ {us vs : List Vl} (h : Lk us vs) (k : Nat) : cv (us.getD k Vl.zero) = cv (vs.getD k Vl.zero) := by
  rw [← getD_cv, ← getD_cv, h]
theorem Lk.refl (us : List Vl) : Lk us us := rfl
theorem Lk.symm {us vs : List Vl} (h : Lk us vs) : Lk vs us := Eq.symm h
theorem Lk.trans {us vs ws : List Vl} (h : Lk us vs) (h' : Lk vs ws) : Lk us ws := Eq.trans h h'
theorem Lk.app {us vs : List Vl} {u v : Vl} (h : Lk us vs) (h' : cv u = cv v) : Lk (us ++ [u]) (vs ++ [v]) := by
  unfold Lk at *; simp [h, h']
theorem lk_of {us vs : List Vl} (hl : us.length = vs.length) (h : ∀ k, k < us.length → cv (us.getD k Vl.zero) = cv (vs.getD k Vl.zero)) : Lk us vs := by
  unfold Lk
  apply List.ext_getElem (by simp [hl])
  intro k h1 h2
  have := h k (by simpa using h1)
  rw [List.getD_eq_getElem?_getD, List.getD_eq_getElem?_getD, List.getElem?_eq_getElem (by simpa using h1), List.getElem?_eq_getElem (by simpa using h2)] at this
  simpa using this
theorem lk_cv (vs : List Vl) : Lk (vs.map cv) vs := by
  unfold Lk
  rw [List.map_map]
  congr 1
  funext v
  exact cv_cv v

/-! A graph's rules do not ask for K. -/
theorem okV_cv (ins : List Int) (vs : List Vl) (i : Nat) : okV ins (vs.map cv) i = okV ins vs i := by
  unfold okV
  rw [getD_cv]
  have e : ∀ o : Int, ((vs.map cv).getD o.toNat Vl.zero).len = (vs.getD o.toNat Vl.zero).len := fun o => by rw [getD_cv]; rfl
  simp only [e]
  rfl
theorem cellsV_cv (vs : List Vl) : cellsV (vs.map cv) = cellsV vs := by
  induction vs with
  | nil => rfl
  | cons v r ih => simp [cellsV, ih, cv]
theorem okG_cv (ins : List Int) (vs : List Vl) (outs : List Int) : okG ins (vs.map cv) outs = okG ins vs outs := by
  unfold okG
  rw [cellsV_cv, List.length_map]
  have : okV ins (vs.map cv) = okV ins vs := funext (okV_cv ins vs)
  rw [this]
theorem Lk.okG {ins : List Int} {us vs : List Vl} {outs : List Int} (h : Lk us vs) : okG ins us outs = okG ins vs outs := by
  rw [← okG_cv ins us, ← okG_cv ins vs, h]

/-- The operands replaced. -/
def rnm (tq : List Int) (v : Vl) : Vl :=
  ⟨v.op, v.len, if 0 < cnt v.op then tq.getD v.a.toNat 0 else v.a, if 1 < cnt v.op then tq.getD v.b.toNat 0 else v.b, if 2 < cnt v.op then tq.getD v.c.toNat 0 else v.c, v.k⟩
theorem cv_rnm (tq : List Int) (v : Vl) : cv (rnm tq v) = rnm tq (cv v) := rfl
theorem opsOf_rnm (tq : List Int) (v : Vl) : opsOf (rnm tq v) = (opsOf v).map fun o => tq.getD o.toNat 0 := by
  have h := cnt_le v.op
  unfold opsOf rnm
  simp only
  rcases (by omega : cnt v.op = 0 ∨ cnt v.op = 1 ∨ cnt v.op = 2 ∨ cnt v.op = 3) with e | e | e | e <;> simp [e]

/-- A value stays by the rules where its operands go tq values as long. -/
theorem okV_of {ins : List Int} {vs us : List Vl} {i j : Nat} (h : okV ins vs i = true) (r : Int → Int) (hop : (us.getD j Vl.zero).op = (vs.getD i Vl.zero).op) (hlen : (us.getD j Vl.zero).len = (vs.getD i Vl.zero).len)
    (ha : cnt (vs.getD i Vl.zero).op < 1 → (us.getD j Vl.zero).a = (vs.getD i Vl.zero).a) (hb : cnt (vs.getD i Vl.zero).op < 2 → (us.getD j Vl.zero).b = (vs.getD i Vl.zero).b) (hc : cnt (vs.getD i Vl.zero).op < 3 → (us.getD j Vl.zero).c = (vs.getD i Vl.zero).c)
    (hops : opsOf (us.getD j Vl.zero) = (opsOf (vs.getD i Vl.zero)).map r) (hr : ∀ o ∈ opsOf (vs.getD i Vl.zero), 0 ≤ o → o < i → (0 ≤ r o ∧ r o < j) ∧ (us.getD (r o).toNat Vl.zero).len = (vs.getD o.toNat Vl.zero).len) : okV ins us j = true := by
  unfold okV at h ⊢
  generalize us.getD j Vl.zero = u at *
  generalize vs.getD i Vl.zero = v at *
  rw [Bool.and_eq_true, Bool.and_eq_true] at h
  obtain ⟨⟨h1, h2⟩, h3⟩ := h
  have s2 : spareB u = true := by
    rw [← h2]
    unfold spareB
    rw [hop]
    by_cases c1 : cnt v.op < 1
    · rw [ha c1, hb (by omega), hc (by omega)]
    · by_cases c2 : cnt v.op < 2
      · rw [hb c2, hc (by omega)]; simp [c1]
      · by_cases c3 : cnt v.op < 3
        · rw [hc c3]; simp [c1, c2]
        · simp [c1, c2, c3]
  rw [hlen, h1, s2, hop]
  simp only [Bool.true_and]
  by_cases h0 : v.op = 0
  · have c0 : cnt v.op < 1 := by rw [h0]; decide
    rw [if_pos h0] at h3 ⊢
    rw [ha c0]; exact h3
  · rw [if_neg h0] at h3 ⊢
    rw [Bool.and_eq_true] at h3 ⊢
    have key : ∀ o ∈ opsOf v, (0 ≤ r o ∧ r o < j) ∧ (us.getD (r o).toNat Vl.zero).len = (vs.getD o.toNat Vl.zero).len := fun o ho => by
      have := of_decide_eq_true (List.all_eq_true.1 h3.1 o ho)
      exact hr o ho this.1 this.2
    rw [hops]
    refine ⟨?_, ?_⟩
    · rw [List.all_map, List.all_eq_true]
      intro o ho
      exact decide_eq_true (key o ho).1
    · have e : ((opsOf v).map r).map (fun o => (us.getD o.toNat Vl.zero).len) = (opsOf v).map fun o => (vs.getD o.toNat Vl.zero).len := by
        rw [List.map_map]
        apply List.map_congr_left
        intro o ho
        exact (key o ho).2
      rw [e]
      by_cases c3 : cnt v.op < 3
      · rw [hc c3]; exact h3.2
      · have h8 : v.op = 8 := by
          unfold cnt at c3
          split at c3
          · omega
          · split at c3
            · omega
            · split at c3
              · assumption
              · omega
        rw [h8] at h3 ⊢
        simpa [shapeB] using h3.2
theorem okV_app {ins : List Int} {vs : List Vl} {v : Vl} {i : Nat} (hi : i < vs.length) (h : okV ins vs i = true) : okV ins (vs ++ [v]) i = true := by
  have e : ∀ k, k < vs.length → (vs ++ [v]).getD k Vl.zero = vs.getD k Vl.zero := fun k hk => by
    rw [List.getD_eq_getElem?_getD, List.getElem?_append_left hk, ← List.getD_eq_getElem?_getD]
  refine okV_of h id ?_ ?_ ?_ ?_ ?_ ?_ ?_
  · rw [e i hi]
  · rw [e i hi]
  · intro _; rw [e i hi]
  · intro _; rw [e i hi]
  · intro _; rw [e i hi]
  · rw [e i hi]; simp
  · intro o _ h0 h1
    refine ⟨⟨h0, h1⟩, ?_⟩
    rw [e _ (by simp only [id]; omega)]; rfl
theorem getD_lastV (vs : List Vl) (v : Vl) : (vs ++ [v]).getD vs.length Vl.zero = v := by
  rw [List.getD_eq_getElem?_getD, List.getElem?_append_right (Nat.le_refl _), Nat.sub_self]; rfl
theorem getD_fstV (vs : List Vl) (v : Vl) {k : Nat} (hk : k < vs.length) : (vs ++ [v]).getD k Vl.zero = vs.getD k Vl.zero := by
  rw [List.getD_eq_getElem?_getD, List.getElem?_append_left hk, ← List.getD_eq_getElem?_getD]
theorem getD_lastI (xs : List Int) (x : Int) : (xs ++ [x]).getD xs.length 0 = x := by
  rw [List.getD_eq_getElem?_getD, List.getElem?_append_right (Nat.le_refl _), Nat.sub_self]; rfl
theorem getD_fstI (xs : List Int) (x : Int) {k : Nat} (hk : k < xs.length) : (xs ++ [x]).getD k 0 = xs.getD k 0 := by
  rw [List.getD_eq_getElem?_getD, List.getElem?_append_left hk, ← List.getD_eq_getElem?_getD]

/-! PassCommon, PassNeg, PassUnit. -/
/-- One operation on the same operands. -/
def alike (u v : Vl) : Bool := (u.op == v.op && (u.len == v.len && (u.a == v.a && (u.b == v.b && u.c == v.c)))) && (u.op != 1 || fb u.k == fb v.k)
def isC (vs : List Vl) (i : Int) (k : Nat) : Bool := (vs.getD i.toNat Vl.zero).op == 1 && fb (vs.getD i.toNat Vl.zero).k == k
/-- The index tq which value i, its operands replaced, is found equal. -/
def sameAt (p : Int) (news : List Vl) (v : Vl) (i : Nat) : Int :=
  if p = 1 then (news.findIdx (alike · v) : Int)
  else if p = 3 then (if v.op = 6 ∧ (news.getD v.a.toNat Vl.zero).op = 6 then (news.getD v.a.toNat Vl.zero).a else i)
  else if (v.op = 4 ∨ v.op = 5) ∧ isC news v.b 4607182418800017408 = true then v.a
  else if v.op = 4 ∧ isC news v.a 4607182418800017408 = true then v.b
  else if v.op = 3 ∧ isC news v.b 0 = true then v.a
  else if v.op = 2 ∧ isC news v.b 9223372036854775808 = true then v.a
  else if v.op = 2 ∧ isC news v.a 9223372036854775808 = true then v.b
  else i
def eqSt (p : Int) (vs : List Vl) : Nat → List Vl × List Int
  | 0 => ([], [])
  | i + 1 => ((eqSt p vs i).1 ++ [rnm (eqSt p vs i).2 (vs.getD i Vl.zero)], (eqSt p vs i).2 ++ [sameAt p (eqSt p vs i).1 (rnm (eqSt p vs i).2 (vs.getD i Vl.zero)) i])
theorem alike_cv (u v : Vl) : alike (cv u) (cv v) = alike u v := by
  unfold alike cv
  simp [fb_fb0]
theorem isC_cv (vs : List Vl) (i : Int) (k : Nat) : isC (vs.map cv) i k = isC vs i k := by
  unfold isC
  rw [getD_cv]
  simp [cv, fb_fb0]
theorem sameAt_cv (p : Int) (news : List Vl) (v : Vl) (i : Nat) : sameAt p (news.map cv) (cv v) i = sameAt p news v i := by
  unfold sameAt
  have e : (news.map cv).findIdx (alike · (cv v)) = news.findIdx (alike · v) := by
    rw [List.findIdx_map]
    congr 1
    funext u
    exact alike_cv u v
  rw [e]
  simp only [isC_cv, getD_cv]
  rfl
theorem eqSt_cv (p : Int) (vs : List Vl) : ∀ i, (eqSt p (vs.map cv) i) = ((eqSt p vs i).1.map cv, (eqSt p vs i).2)
  | 0 => rfl
  | i + 1 => by
    have ih := eqSt_cv p vs i
    unfold eqSt
    rw [ih]
    simp only
    rw [getD_cv, ← cv_rnm, sameAt_cv]
    simp
theorem eqSt_len (p : Int) (vs : List Vl) : ∀ i, (eqSt p vs i).1.length = i ∧ (eqSt p vs i).2.length = i
  | 0 => ⟨rfl, rfl⟩
  | i + 1 => by
    have ih := eqSt_len p vs i
    unfold eqSt
    simp [ih.1, ih.2]
/-- What holds of the first i values. -/
structure EqI (ins : List Int) (vs : List Vl) (i : Nat) (S : List Vl × List Int) : Prop where
  l1 : S.1.length = i
  l2 : S.2.length = i
  to0 : ∀ j, j < i → 0 ≤ S.2.getD j 0 ∧ S.2.getD j 0 ≤ j
  root : ∀ j, j < i → S.2.getD (S.2.getD j 0).toNat 0 = S.2.getD j 0
  tlen : ∀ j, j < i → (S.1.getD (S.2.getD j 0).toNat Vl.zero).len = (vs.getD j Vl.zero).len
  len : ∀ j, j < i → (S.1.getD j Vl.zero).len = (vs.getD j Vl.zero).len
  ok : ∀ j, j < i → okV ins S.1 j = true
  opr : ∀ j, j < i → ∀ o ∈ opsOf (S.1.getD j Vl.zero), (0 ≤ o ∧ o < j) ∧ S.2.getD o.toNat 0 = o
theorem okV_ops {ins : List Int} {vs : List Vl} {i : Nat} (h : okV ins vs i = true) : ∀ o ∈ opsOf (vs.getD i Vl.zero), 0 ≤ o ∧ o < i := by
  intro o ho
  unfold okV at h
  generalize vs.getD i Vl.zero = v at *
  rw [Bool.and_eq_true] at h
  have h3 := h.2
  by_cases h0 : v.op = 0
  · have c0 : cnt v.op = 0 := by rw [h0]; rfl
    unfold opsOf at ho
    rw [c0] at ho
    simp at ho
  · rw [if_neg h0, Bool.and_eq_true] at h3
    exact of_decide_eq_true (List.all_eq_true.1 h3.1 o ho)
/-- In an elementwise operation every operand is as long as the value. -/
theorem okV_each {ins : List Int} {vs : List Vl} {i : Nat} (h : okV ins vs i = true) (he : (vs.getD i Vl.zero).op = 2 ∨ (vs.getD i Vl.zero).op = 3 ∨ (vs.getD i Vl.zero).op = 4 ∨ (vs.getD i Vl.zero).op = 5 ∨ (vs.getD i Vl.zero).op = 6) : ∀ o ∈ opsOf (vs.getD i Vl.zero), (vs.getD o.toNat Vl.zero).len = (vs.getD i Vl.zero).len := by
  intro o ho
  unfold okV at h
  generalize vs.getD i Vl.zero = v at *
  rw [Bool.and_eq_true] at h
  have h3 := h.2
  rw [if_neg (by omega), Bool.and_eq_true] at h3
  have h4 := h3.2
  unfold shapeB at h4
  rw [if_neg (by omega), if_neg (by omega), if_neg (by omega), if_neg (by omega), if_pos (by omega)] at h4
  have := List.all_eq_true.1 h4 _ (List.mem_map_of_mem ho)
  exact beq_iff_eq.1 this
theorem opsOf_a {v : Vl} (h : 1 ≤ cnt v.op) : v.a ∈ opsOf v := by
  have := cnt_le v.op
  unfold opsOf
  rcases (by omega : cnt v.op = 1 ∨ cnt v.op = 2 ∨ cnt v.op = 3) with e | e | e <;> simp [e]
theorem opsOf_b {v : Vl} (h : 2 ≤ cnt v.op) : v.b ∈ opsOf v := by
  have := cnt_le v.op
  unfold opsOf
  rcases (by omega : cnt v.op = 2 ∨ cnt v.op = 3) with e | e <;> simp [e]
theorem opsOf_c {v : Vl} (h : 3 ≤ cnt v.op) : v.c ∈ opsOf v := by
  have := cnt_le v.op
  unfold opsOf
  simp [(by omega : cnt v.op = 3)]
theorem cnt2 {op : Int} (h : op = 2 ∨ op = 3 ∨ op = 4 ∨ op = 5) : cnt op = 2 := by
  rcases h with rfl | rfl | rfl | rfl <;> decide
theorem alike_len {u v : Vl} (h : alike u v = true) : u.len = v.len := by
  unfold alike at h
  simp only [Bool.and_eq_true, beq_iff_eq] at h
  exact h.1.2.1
theorem alike_to {u v : Vl} (h : alike u v = true) (x : Vl) : alike x u = alike x v := by
  unfold alike at h ⊢
  simp only [Bool.and_eq_true, beq_iff_eq, Bool.or_eq_true] at h
  obtain ⟨⟨q1, q2, q3, q4, q5⟩, q6⟩ := h
  rw [q1, q2, q3, q4, q5]
  rcases q6 with q6 | q6
  · rw [q1] at q6
    by_cases hu : x.op = v.op
    · simp [hu, q6]
    · have : (x.op == v.op) = false := beq_eq_false_iff_ne.2 hu
      simp [this]
  · rw [q6]
theorem rnm_ok {ins : List Int} {vs : List Vl} {i : Nat} {S : List Vl × List Int} (E : EqI ins vs i S) (h : okV ins vs i = true) : okV ins (S.1 ++ [rnm S.2 (vs.getD i Vl.zero)]) i = true := by
  have el : (S.1 ++ [rnm S.2 (vs.getD i Vl.zero)]).getD i Vl.zero = rnm S.2 (vs.getD i Vl.zero) := by
    have := getD_lastV S.1 (rnm S.2 (vs.getD i Vl.zero))
    rw [E.l1] at this
    exact this
  refine okV_of h (fun o => S.2.getD o.toNat 0) ?_ ?_ ?_ ?_ ?_ ?_ ?_
  · rw [el]; rfl
  · rw [el]; rfl
  · intro c; rw [el]; unfold rnm; simp only; rw [if_neg (by omega)]
  · intro c; rw [el]; unfold rnm; simp only; rw [if_neg (by omega)]
  · intro c; rw [el]; unfold rnm; simp only; rw [if_neg (by omega)]
  · rw [el]; exact opsOf_rnm _ _
  · intro o _ h0 h1
    have t := E.to0 o.toNat (by omega)
    refine ⟨⟨t.1, by omega⟩, ?_⟩
    rw [getD_fstV _ _ (by rw [E.l1]; omega)]
    exact E.tlen o.toNat (by omega)
theorem rnm_opr {ins : List Int} {vs : List Vl} {i : Nat} {S : List Vl × List Int} (E : EqI ins vs i S) (h : okV ins vs i = true) : ∀ o ∈ opsOf (rnm S.2 (vs.getD i Vl.zero)), (0 ≤ o ∧ o < i) ∧ S.2.getD o.toNat 0 = o := by
  intro o ho
  rw [opsOf_rnm] at ho
  obtain ⟨q, hq, rfl⟩ := List.mem_map.1 ho
  have hb := okV_ops h q hq
  have t := E.to0 q.toNat (by omega)
  exact ⟨⟨t.1, by omega⟩, E.root q.toNat (by omega)⟩
/-- What value i is found equal tq: an earlier one or itself, a root, as long. -/
theorem sameAt_ok {ins : List Int} {vs : List Vl} {i : Nat} {S : List Vl × List Int} (E : EqI ins vs i S) (h : okV ins vs i = true) (p : Int) (hcom : ∀ j, j < i → (S.1.findIdx (alike · (S.1.getD j Vl.zero)) = j → S.2.getD j 0 = j ∨ p ≠ 1)) :
    (sameAt p S.1 (rnm S.2 (vs.getD i Vl.zero)) i = i) ∨ ((0 ≤ sameAt p S.1 (rnm S.2 (vs.getD i Vl.zero)) i ∧ sameAt p S.1 (rnm S.2 (vs.getD i Vl.zero)) i < i) ∧ S.2.getD (sameAt p S.1 (rnm S.2 (vs.getD i Vl.zero)) i).toNat 0 = sameAt p S.1 (rnm S.2 (vs.getD i Vl.zero)) i ∧ (S.1.getD (sameAt p S.1 (rnm S.2 (vs.getD i Vl.zero)) i).toNat Vl.zero).len = (vs.getD i Vl.zero).len) := by
  have hop := rnm_opr E h
  have hok := rnm_ok E h
  have el : (S.1 ++ [rnm S.2 (vs.getD i Vl.zero)]).getD i Vl.zero = rnm S.2 (vs.getD i Vl.zero) := by
    have := getD_lastV S.1 (rnm S.2 (vs.getD i Vl.zero))
    rw [E.l1] at this
    exact this
  have hlen : (rnm S.2 (vs.getD i Vl.zero)).len = (vs.getD i Vl.zero).len := rfl
  have heach : ((rnm S.2 (vs.getD i Vl.zero)).op = 2 ∨ (rnm S.2 (vs.getD i Vl.zero)).op = 3 ∨ (rnm S.2 (vs.getD i Vl.zero)).op = 4 ∨ (rnm S.2 (vs.getD i Vl.zero)).op = 5 ∨ (rnm S.2 (vs.getD i Vl.zero)).op = 6) → ∀ o ∈ opsOf (rnm S.2 (vs.getD i Vl.zero)), (S.1.getD o.toNat Vl.zero).len = (vs.getD i Vl.zero).len := by
    intro he o ho
    have := okV_each hok (by rw [el]; exact he) o (by rw [el]; exact ho)
    rw [el, hlen, getD_fstV _ _ (by rw [E.l1]; have := (hop o ho).1; omega)] at this
    exact this
  generalize hv : rnm S.2 (vs.getD i Vl.zero) = v at *
  have viaOp : ∀ o, o ∈ opsOf v → (v.op = 2 ∨ v.op = 3 ∨ v.op = 4 ∨ v.op = 5 ∨ v.op = 6) → (0 ≤ o ∧ o < i) ∧ S.2.getD o.toNat 0 = o ∧ (S.1.getD o.toNat Vl.zero).len = (vs.getD i Vl.zero).len :=
    fun o ho he => ⟨(hop o ho).1, (hop o ho).2, heach he o ho⟩
  unfold sameAt
  by_cases p1 : p = 1
  · rw [if_pos p1]
    by_cases hf : S.1.findIdx (alike · v) < S.1.length
    · right
      have hal := List.findIdx_getElem (w := hf)
      have hj : S.1.findIdx (alike · v) < i := by rw [← E.l1]; exact hf
      have eg : S.1.getD (S.1.findIdx (alike · v)) Vl.zero = S.1[S.1.findIdx (alike · v)] := by
        rw [List.getD_eq_getElem?_getD, List.getElem?_eq_getElem hf]; rfl
      refine ⟨by omega, ?_, ?_⟩
      · rw [Int.toNat_natCast]
        refine Or.elim (hcom _ hj ?_) id (fun c => absurd p1 c)
        congr 1
        funext u
        rw [eg, alike_to hal u]
      · rw [Int.toNat_natCast, eg]
        rw [alike_len hal]
        exact hlen
    · left
      have := List.findIdx_le_length (p := (alike · v)) (xs := S.1)
      rw [E.l1] at this hf
      omega
  · rw [if_neg p1]
    by_cases p3 : p = 3
    · rw [if_pos p3]
      by_cases c : v.op = 6 ∧ (S.1.getD v.a.toNat Vl.zero).op = 6
      · rw [if_pos c]
        right
        have hc1 : 1 ≤ cnt v.op := by rw [c.1]; decide
        have h1 := viaOp v.a (opsOf_a hc1) (by omega)
        have hj : v.a.toNat < i := by omega
        have hc2 : 1 ≤ cnt (S.1.getD v.a.toNat Vl.zero).op := by rw [c.2]; decide
        have h2 := E.opr v.a.toNat hj _ (opsOf_a hc2)
        have h3 := okV_each (E.ok v.a.toNat hj) (by omega) _ (opsOf_a hc2)
        exact ⟨⟨h2.1.1, by omega⟩, h2.2, by rw [h3]; exact h1.2.2⟩
      · rw [if_neg c]; left; rfl
    · rw [if_neg p3]
      by_cases c : (v.op = 4 ∨ v.op = 5) ∧ isC S.1 v.b 4607182418800017408 = true
      · rw [if_pos c]; right
        exact viaOp v.a (opsOf_a (by rw [cnt2 (by omega)]; omega)) (by omega)
      rw [if_neg c]
      clear c
      by_cases c : v.op = 4 ∧ isC S.1 v.a 4607182418800017408 = true
      · rw [if_pos c]; right
        exact viaOp v.b (opsOf_b (by rw [cnt2 (by omega)]; omega)) (by omega)
      rw [if_neg c]
      clear c
      by_cases c : v.op = 3 ∧ isC S.1 v.b 0 = true
      · rw [if_pos c]; right
        exact viaOp v.a (opsOf_a (by rw [cnt2 (by omega)]; omega)) (by omega)
      rw [if_neg c]
      clear c
      by_cases c : v.op = 2 ∧ isC S.1 v.b 9223372036854775808 = true
      · rw [if_pos c]; right
        exact viaOp v.a (opsOf_a (by rw [cnt2 (by omega)]; omega)) (by omega)
      rw [if_neg c]
      clear c
      by_cases c : v.op = 2 ∧ isC S.1 v.a 9223372036854775808 = true
      · rw [if_pos c]; right
        exact viaOp v.b (opsOf_b (by rw [cnt2 (by omega)]; omega)) (by omega)
      rw [if_neg c]; left; rfl
/-- With PassCommon a value that is alike tq no earlier one is found equal tq itself. -/
theorem eqSt_first (vs : List Vl) : ∀ i j, j < i → (eqSt 1 vs i).1.findIdx (alike · ((eqSt 1 vs i).1.getD j Vl.zero)) = j → (eqSt 1 vs i).2.getD j 0 = j
  | 0, j, hj, _ => by omega
  | i + 1, j, hj, hf => by
    have hl := eqSt_len 1 vs i
    have e : eqSt 1 vs (i + 1) = ((eqSt 1 vs i).1 ++ [rnm (eqSt 1 vs i).2 (vs.getD i Vl.zero)], (eqSt 1 vs i).2 ++ [sameAt 1 (eqSt 1 vs i).1 (rnm (eqSt 1 vs i).2 (vs.getD i Vl.zero)) i]) := rfl
    rw [e] at hf ⊢
    simp only at hf ⊢
    by_cases hji : j < i
    · rw [getD_fstI _ _ (by rw [hl.2]; exact hji)]
      rw [getD_fstV _ _ (by rw [hl.1]; exact hji), List.findIdx_append] at hf
      by_cases hc : (eqSt 1 vs i).1.findIdx (alike · ((eqSt 1 vs i).1.getD j Vl.zero)) < (eqSt 1 vs i).1.length
      · rw [if_pos hc] at hf
        exact eqSt_first vs i j hji hf
      · rw [if_neg hc] at hf
        rw [hl.1] at hf hc
        omega
    · have ej : j = i := by omega
      subst ej
      have e1 : ((eqSt 1 vs j).2 ++ [sameAt 1 (eqSt 1 vs j).1 (rnm (eqSt 1 vs j).2 (vs.getD j Vl.zero)) j]).getD j 0 = sameAt 1 (eqSt 1 vs j).1 (rnm (eqSt 1 vs j).2 (vs.getD j Vl.zero)) j := by
        have := getD_lastI (eqSt 1 vs j).2 (sameAt 1 (eqSt 1 vs j).1 (rnm (eqSt 1 vs j).2 (vs.getD j Vl.zero)) j)
        rw [hl.2] at this
        exact this
      have e2 : ((eqSt 1 vs j).1 ++ [rnm (eqSt 1 vs j).2 (vs.getD j Vl.zero)]).getD j Vl.zero = rnm (eqSt 1 vs j).2 (vs.getD j Vl.zero) := by
        have := getD_lastV (eqSt 1 vs j).1 (rnm (eqSt 1 vs j).2 (vs.getD j Vl.zero))
        rw [hl.1] at this
        exact this
      rw [e1]
      rw [e2, List.findIdx_append] at hf
      unfold sameAt
      rw [if_pos rfl]
      by_cases hc : (eqSt 1 vs j).1.findIdx (alike · (rnm (eqSt 1 vs j).2 (vs.getD j Vl.zero))) < (eqSt 1 vs j).1.length
      · rw [if_pos hc] at hf
        rw [hf]
      · have := List.findIdx_le_length (p := (alike · (rnm (eqSt 1 vs j).2 (vs.getD j Vl.zero)))) (xs := (eqSt 1 vs j).1)
        rw [hl.1] at this hc
        omega
theorem eqI_step {ins : List Int} {vs : List Vl} {i : Nat} {S : List Vl × List Int} (E : EqI ins vs i S) (h : okV ins vs i = true) (s : Int) (hs : s = i ∨ ((0 ≤ s ∧ s < i) ∧ S.2.getD s.toNat 0 = s ∧ (S.1.getD s.toNat Vl.zero).len = (vs.getD i Vl.zero).len)) :
    EqI ins vs (i + 1) (S.1 ++ [rnm S.2 (vs.getD i Vl.zero)], S.2 ++ [s]) := by
  have hok := rnm_ok E h
  have hop := rnm_opr E h
  have v0 : ∀ k, k < i → (S.1 ++ [rnm S.2 (vs.getD i Vl.zero)]).getD k Vl.zero = S.1.getD k Vl.zero := fun k hk => getD_fstV _ _ (by rw [E.l1]; exact hk)
  have v1 : (S.1 ++ [rnm S.2 (vs.getD i Vl.zero)]).getD i Vl.zero = rnm S.2 (vs.getD i Vl.zero) := by
    have := getD_lastV S.1 (rnm S.2 (vs.getD i Vl.zero))
    rw [E.l1] at this
    exact this
  have t0 : ∀ k, k < i → (S.2 ++ [s]).getD k 0 = S.2.getD k 0 := fun k hk => getD_fstI _ _ (by rw [E.l2]; exact hk)
  have t1 : (S.2 ++ [s]).getD i 0 = s := by
    have := getD_lastI S.2 s
    rw [E.l2] at this
    exact this
  refine ⟨by simp [E.l1], by simp [E.l2], ?_, ?_, ?_, ?_, ?_, ?_⟩
  · intro j hj
    simp only
    by_cases c : j < i
    · rw [t0 j c]; exact E.to0 j c
    · have : j = i := by omega
      subst this
      rw [t1]; omega
  · intro j hj
    simp only
    by_cases c : j < i
    · have := E.to0 j c
      rw [t0 j c, t0 _ (by omega)]; exact E.root j c
    · have : j = i := by omega
      subst this
      rw [t1]
      rcases hs with hs | ⟨hs1, hs2, _⟩
      · have e9 : s.toNat = j := by omega
        rw [e9, t1]
      · rw [t0 _ (by omega)]; exact hs2
  · intro j hj
    simp only
    by_cases c : j < i
    · have := E.to0 j c
      rw [t0 j c, v0 _ (by omega)]; exact E.tlen j c
    · have : j = i := by omega
      subst this
      rw [t1]
      rcases hs with hs | ⟨hs1, _, hs3⟩
      · have e9 : s.toNat = j := by omega
        rw [e9, v1]; rfl
      · rw [v0 _ (by omega)]; exact hs3
  · intro j hj
    simp only
    by_cases c : j < i
    · rw [v0 j c]; exact E.len j c
    · have : j = i := by omega
      subst this
      rw [v1]; rfl
  · intro j hj
    simp only
    by_cases c : j < i
    · exact okV_app (by rw [E.l1]; exact c) (E.ok j c)
    · have : j = i := by omega
      subst this
      exact hok
  · intro j hj o ho
    simp only at ho ⊢
    by_cases c : j < i
    · rw [v0 j c] at ho
      have := E.opr j c o ho
      exact ⟨this.1, by rw [t0 _ (by omega)]; exact this.2⟩
    · have : j = i := by omega
      subst this
      rw [v1] at ho
      have := hop o ho
      exact ⟨this.1, by rw [t0 _ (by omega)]; exact this.2⟩
theorem eqI_all (ins : List Int) (vs : List Vl) (p : Int) : ∀ i, (∀ j, j < i → okV ins vs j = true) → EqI ins vs i (eqSt p vs i)
  | 0, _ => ⟨rfl, rfl, by intro j hj; omega, by intro j hj; omega, by intro j hj; omega, by intro j hj; omega, by intro j hj; omega, by intro j hj; omega⟩
  | i + 1, h => by
    have E := eqI_all ins vs p i (fun j hj => h j (by omega))
    refine eqI_step E (h i (by omega)) _ (sameAt_ok E (h i (by omega)) p ?_)
    intro j hj hf
    by_cases hp : p = 1
    · subst hp
      exact .inl (eqSt_first vs i j hj hf)
    · exact .inr hp

/-! A whole pass on the lists: the values, the outputs. -/
def mapO (tq : List Int) (outs : List Int) : List Int := outs.map fun o => tq.getD o.toNat 0
def eqM (p : Int) (vs : List Vl) (outs : List Int) : List Vl × List Int := ((eqSt p vs vs.length).1, mapO (eqSt p vs vs.length).2 outs)
theorem okG_parts {ins : List Int} {vs : List Vl} {outs : List Int} (h : okG ins vs outs = true) : (ins.length ≤ 20 ∧ vs.length ≤ 2000 ∧ outs.length ≤ 50) ∧ ins.all lenB = true ∧ (∀ j, j < vs.length → okV ins vs j = true) ∧ (∀ o ∈ outs, 0 ≤ o ∧ o < vs.length) ∧ cellsV vs ≤ 50000 := by
  unfold okG at h
  simp only [Bool.and_eq_true] at h
  obtain ⟨h1, h2, h3, h4, h5⟩ := h
  exact ⟨of_decide_eq_true h1, h2, fun j hj => List.all_eq_true.1 h3 j (List.mem_range.2 hj), fun o ho => of_decide_eq_true (List.all_eq_true.1 h4 o ho), of_decide_eq_true h5⟩
theorem okG_make {ins : List Int} {vs : List Vl} {outs : List Int} (h1 : ins.length ≤ 20 ∧ vs.length ≤ 2000 ∧ outs.length ≤ 50) (h2 : ins.all lenB = true) (h3 : ∀ j, j < vs.length → okV ins vs j = true) (h4 : ∀ o ∈ outs, 0 ≤ o ∧ o < vs.length) (h5 : cellsV vs ≤ 50000) : okG ins vs outs = true := by
  unfold okG
  simp only [Bool.and_eq_true]
  exact ⟨decide_eq_true h1, h2, List.all_eq_true.2 fun j hj => h3 j (List.mem_range.1 hj), List.all_eq_true.2 fun o ho => decide_eq_true (h4 o ho), decide_eq_true h5⟩
theorem cellsV_eq : ∀ (us vs : List Vl), us.length = vs.length → (∀ j, j < us.length → (us.getD j Vl.zero).len = (vs.getD j Vl.zero).len) → cellsV us = cellsV vs
  | [], [], _, _ => rfl
  | u :: us, v :: vs, hl, h => by
    have h0 := h 0 (by simp)
    have := cellsV_eq us vs (by simpa using hl) (fun j hj => by
      have := h (j + 1) (by simp; omega)
      simpa using this)
    simp only [cellsV, this]
    have h0' : u.len = v.len := by simpa using h0
    rw [h0']
theorem eqM_ok {ins : List Int} {vs : List Vl} {outs : List Int} (p : Int) (h : okG ins vs outs = true) : okG ins (eqM p vs outs).1 (eqM p vs outs).2 = true := by
  obtain ⟨h1, h2, h3, h4, h5⟩ := okG_parts h
  have E := eqI_all ins vs p vs.length h3
  have l1 := E.l1
  unfold eqM
  refine okG_make ⟨h1.1, by rw [l1]; exact h1.2.1, by simp [mapO]; exact h1.2.2⟩ h2 (fun j hj => E.ok j (by rw [← l1]; exact hj)) ?_ ?_
  · intro o ho
    simp only [mapO, List.mem_map] at ho
    obtain ⟨q, hq, rfl⟩ := ho
    have hb := h4 q hq
    have := E.to0 q.toNat (by omega)
    rw [l1]
    omega
  · rw [cellsV_eq _ vs l1 (fun j hj => E.len j (by rw [← l1]; exact hj))]
    exact h5
theorem eqM_lk {us vs : List Vl} {outs : List Int} (p : Int) (h : Lk us vs) : Lk (eqM p us outs).1 (eqM p vs outs).1 ∧ (eqM p us outs).2 = (eqM p vs outs).2 := by
  have a := eqSt_cv p us us.length
  have b := eqSt_cv p vs us.length
  rw [h] at a
  rw [a] at b
  unfold eqM
  rw [← h.len]
  exact ⟨congrArg Prod.fst b, by rw [congrArg Prod.snd b]⟩
def Kb (vs : List Vl) : Prop := ∀ v ∈ vs, v.k < 18446744073709551616
theorem Kb.at_ {vs : List Vl} (h : Kb vs) (k : Nat) : (vs.getD k Vl.zero).k < 18446744073709551616 := by
  rw [List.getD_eq_getElem?_getD]
  by_cases hk : k < vs.length
  · rw [List.getElem?_eq_getElem hk]; exact h _ (List.getElem_mem _)
  · rw [List.getElem?_eq_none (by omega)]; exact (by decide : Vl.zero.k < 18446744073709551616)
theorem Kb.app {vs : List Vl} {v : Vl} (h : Kb vs) (hv : v.k < 18446744073709551616) : Kb (vs ++ [v]) := by
  intro u hu
  simp only [List.mem_append, List.mem_singleton] at hu
  rcases hu with c | rfl
  · exact h u c
  · exact hv
theorem okV_lenB {ins : List Int} {vs : List Vl} {i : Nat} (h : okV ins vs i = true) : lenB (vs.getD i Vl.zero).len = true := by
  unfold okV at h
  simp only [Bool.and_eq_true] at h
  exact h.1.1
/-! PassDead. -/
def setAll (F : List Bool) (os : List Int) : List Bool := os.foldl (fun F o => F.set o.toNat true) F
theorem setAll_len (os : List Int) : ∀ F, (setAll F os).length = F.length := by
  induction os with
  | nil => intro F; rfl
  | cons o r ih => intro F; show (setAll (F.set o.toNat true) r).length = _; rw [ih]; simp
theorem setAll_at (os : List Int) (i : Nat) : ∀ F : List Bool, i < F.length → (setAll F os).getD i false = (F.getD i false || os.any fun o => o.toNat == i) := by
  induction os with
  | nil => intro F _; simp [setAll]
  | cons o r ih =>
    intro F hi
    show (setAll (F.set o.toNat true) r).getD i false = _
    rw [ih _ (by simp; exact hi)]
    have e : (F.set o.toNat true).getD i false = (F.getD i false || o.toNat == i) := by
      rw [List.getD_eq_getElem?_getD, List.getElem?_set, List.getD_eq_getElem?_getD]
      by_cases c : o.toNat = i
      · subst c; simp [hi]
      · simp [c]
    rw [e, List.any_cons, Bool.or_assoc]
def isO (outs : List Int) (i : Nat) : Bool := outs.any fun o => o == (i : Int)
/-- Which values are needed, k of them looked at, from the last one on. -/
def ndI (vs : List Vl) (outs : List Int) : Nat → List Bool
  | 0 => setAll (List.replicate vs.length false) outs
  | k + 1 => if (ndI vs outs k).getD (vs.length - 1 - k) false = true then setAll (ndI vs outs k) (opsOf (vs.getD (vs.length - 1 - k) Vl.zero)) else ndI vs outs k
def ndG (outs : List Int) (G : List Bool) (i : Nat) : List Bool := G.set i (G.getD i false || isO outs i)
def ndS (vs : List Vl) (outs : List Int) : Nat → List Bool
  | 0 => List.replicate vs.length false
  | k + 1 => if (ndG outs (ndS vs outs k) (vs.length - 1 - k)).getD (vs.length - 1 - k) false = true then setAll (ndG outs (ndS vs outs k) (vs.length - 1 - k)) (opsOf (vs.getD (vs.length - 1 - k) Vl.zero)) else ndG outs (ndS vs outs k) (vs.length - 1 - k)
theorem ndI_len (vs : List Vl) (outs : List Int) : ∀ k, (ndI vs outs k).length = vs.length
  | 0 => by simp [ndI, setAll_len]
  | k + 1 => by
    rw [ndI]
    split
    · rw [setAll_len]; exact ndI_len vs outs k
    · exact ndI_len vs outs k
theorem ndS_len (vs : List Vl) (outs : List Int) : ∀ k, (ndS vs outs k).length = vs.length
  | 0 => by simp [ndS]
  | k + 1 => by
    rw [ndS]
    split
    · rw [setAll_len]; simp [ndG, ndS_len vs outs k]
    · simp [ndG, ndS_len vs outs k]
theorem set_atB (G : List Bool) (j : Nat) (b : Bool) (i : Nat) (hi : i < G.length) : (G.set j b).getD i false = if j = i then b else G.getD i false := by
  rw [List.getD_eq_getElem?_getD, List.getElem?_set, List.getD_eq_getElem?_getD]
  by_cases c : j = i
  · subst c; simp [hi]
  · simp [c]
theorem nd_same (vs : List Vl) (outs : List Int) (ho : ∀ o ∈ outs, 0 ≤ o ∧ o < vs.length) : ∀ k, k ≤ vs.length → ∀ i, i < vs.length → (ndI vs outs k).getD i false = ((ndS vs outs k).getD i false || isO outs i)
  | 0, _, i, hi => by
    rw [ndI, setAll_at _ _ _ (by simpa using hi), ndS]
    congr 1
    unfold isO
    rw [Bool.eq_iff_iff, List.any_eq_true, List.any_eq_true]
    constructor
    · rintro ⟨o, h1, h2⟩
      have := ho o h1
      have h2' : o.toNat = i := by simpa using h2
      exact ⟨o, h1, by rw [beq_iff_eq]; omega⟩
    · rintro ⟨o, h1, h2⟩
      rw [beq_iff_eq] at h2
      exact ⟨o, h1, by rw [beq_iff_eq]; omega⟩
  | k + 1, hk, i, hi => by
    have ih := nd_same vs outs ho k (by omega)
    have l1 := ndI_len vs outs k
    have l2 := ndS_len vs outs k
    have hj : vs.length - 1 - k < vs.length := by omega
    rw [ndI, ndS]
    generalize vs.length - 1 - k = j at *
    have l3 : (ndG outs (ndS vs outs k) j).length = vs.length := by simp [ndG, l2]
    have g : ∀ i, i < vs.length → (ndG outs (ndS vs outs k) j).getD i false = if j = i then ((ndS vs outs k).getD j false || isO outs j) else (ndS vs outs k).getD i false := fun i hi => by
      unfold ndG; rw [set_atB _ _ _ _ (by rw [l2]; exact hi)]
    have e0 : (ndG outs (ndS vs outs k) j).getD j false = (ndI vs outs k).getD j false := by
      rw [g j hj, if_pos rfl, ih j hj]
    have key : (ndI vs outs k).getD i false = ((ndG outs (ndS vs outs k) j).getD i false || isO outs i) := by
      rw [g i hi, ih i hi]
      by_cases c : j = i
      · subst c; rw [if_pos rfl, Bool.or_assoc, Bool.or_self]
      · rw [if_neg c]
    rw [e0]
    by_cases c : (ndI vs outs k).getD j false = true
    · rw [if_pos c, if_pos c, setAll_at _ _ _ (by rw [l1]; exact hi), setAll_at _ _ _ (by rw [l3]; exact hi), key, Bool.or_assoc, Bool.or_assoc, Bool.or_comm (isO outs i)]
    · rw [if_neg c, if_neg c]; exact key
theorem ndS_out (vs : List Vl) (outs : List Int) : ∀ k, k ≤ vs.length → ∀ i, vs.length - k ≤ i → i < vs.length → isO outs i = true → (ndS vs outs k).getD i false = true
  | 0, _, i, h1, h2, _ => by omega
  | k + 1, hk, i, h1, h2, h3 => by
    have ih := ndS_out vs outs k (by omega) i
    have l2 := ndS_len vs outs k
    rw [ndS]
    have hj : vs.length - 1 - k < vs.length := by omega
    have hjk : vs.length - k = (vs.length - 1 - k) + 1 := by omega
    have hjk' : vs.length - (k + 1) = vs.length - 1 - k := by omega
    rw [hjk] at ih
    rw [hjk'] at h1
    generalize vs.length - 1 - k = j at *
    have l3 : (ndG outs (ndS vs outs k) j).length = vs.length := by simp [ndG, l2]
    have g : (ndG outs (ndS vs outs k) j).getD i false = true := by
      unfold ndG; rw [set_atB _ _ _ _ (by rw [l2]; exact h2)]
      by_cases c : j = i
      · subst c; rw [if_pos rfl, h3, Bool.or_true]
      · rw [if_neg c]; exact ih (by omega) h2 h3
    split
    · rw [setAll_at _ _ _ (by rw [l3]; exact h2), g, Bool.true_or]
    · exact g
theorem nd_eq (vs : List Vl) (outs : List Int) (ho : ∀ o ∈ outs, 0 ≤ o ∧ o < vs.length) : ndS vs outs vs.length = ndI vs outs vs.length := by
  have l1 := ndI_len vs outs vs.length
  have l2 := ndS_len vs outs vs.length
  apply List.ext_getElem (by rw [l1, l2])
  intro i h1 h2
  have a := nd_same vs outs ho vs.length (Nat.le_refl _) i (by omega)
  rw [List.getD_eq_getElem?_getD, List.getElem?_eq_getElem h2, List.getD_eq_getElem?_getD, List.getElem?_eq_getElem h1] at a
  simp only [Option.getD_some] at a
  rw [a]
  cases hq : isO outs i
  · simp
  · have b := ndS_out vs outs vs.length (Nat.le_refl _) i (by omega) (by omega) hq
    rw [List.getD_eq_getElem?_getD, List.getElem?_eq_getElem h1] at b
    simp only [Option.getD_some] at b
    rw [b]; rfl
theorem ndI_mono {vs : List Vl} {outs : List Int} {k i : Nat} (h : (ndI vs outs k).getD i false = true) : (ndI vs outs (k + 1)).getD i false = true := by
  have hi : i < (ndI vs outs k).length := by
    rcases Nat.lt_or_ge i (ndI vs outs k).length with c | c
    · exact c
    · rw [List.getD_eq_getElem?_getD, List.getElem?_eq_none c] at h; cases h
  rw [ndI]
  split
  · rw [setAll_at _ _ _ hi, h, Bool.true_or]
  · exact h
/-- The operands of a value that is needed are needed. -/
theorem ndI_closed {ins : List Int} {vs : List Vl} {outs : List Int} (hv : ∀ j, j < vs.length → okV ins vs j = true) : ∀ k, k ≤ vs.length → ∀ i, vs.length - k ≤ i → i < vs.length → (ndI vs outs k).getD i false = true → ∀ o ∈ opsOf (vs.getD i Vl.zero), (ndI vs outs k).getD o.toNat false = true
  | 0, _, i, h1, h2, _, _, _ => by omega
  | k + 1, hk, i, h1, h2, h3, o, ho => by
    have l1 := ndI_len vs outs k
    have hb := okV_ops (hv i h2) o ho
    by_cases c : vs.length - k ≤ i
    · refine ndI_mono (ndI_closed hv k (by omega) i c h2 ?_ o ho)
      rw [ndI] at h3
      split at h3
      · rw [setAll_at _ _ _ (by rw [l1]; exact h2), Bool.or_eq_true] at h3
        rcases h3 with h3 | h3
        · exact h3
        · exfalso
          rw [List.any_eq_true] at h3
          obtain ⟨q, q1, q2⟩ := h3
          have := okV_ops (hv _ (by omega)) q q1
          rw [beq_iff_eq] at q2
          omega
      · exact h3
    · have ei : i = vs.length - 1 - k := by omega
      rw [ndI] at h3 ⊢
      rw [← ei] at h3 ⊢
      by_cases d : (ndI vs outs k).getD i false = true
      · rw [if_pos d, setAll_at _ _ _ (by rw [l1]; omega), Bool.or_eq_true]
        right
        rw [List.any_eq_true]
        exact ⟨o, ho, by rw [beq_iff_eq]⟩
      · rw [if_neg d] at h3
        exact absurd h3 d
theorem ndI_outs {vs : List Vl} {outs : List Int} (ho : ∀ o ∈ outs, 0 ≤ o ∧ o < vs.length) : ∀ k, ∀ o ∈ outs, (ndI vs outs k).getD o.toNat false = true
  | 0, o, h => by
    have := ho o h
    rw [ndI, setAll_at _ _ _ (by simp; omega), Bool.or_eq_true]
    right
    rw [List.any_eq_true]
    exact ⟨o, h, by rw [beq_iff_eq]⟩
  | k + 1, o, h => ndI_mono (ndI_outs ho k o h)
/-- The values that are kept, and where each went. -/
def dkSt (F : List Bool) (vs : List Vl) : Nat → List Vl × List Int
  | 0 => ([], List.replicate vs.length 0)
  | i + 1 => if F.getD i false = true then ((dkSt F vs i).1 ++ [rnm ((dkSt F vs i).2.set i (dkSt F vs i).1.length) (vs.getD i Vl.zero)], (dkSt F vs i).2.set i (dkSt F vs i).1.length) else dkSt F vs i
def deadM (vs : List Vl) (outs : List Int) : List Vl × List Int := ((dkSt (ndI vs outs vs.length) vs vs.length).1, mapO (dkSt (ndI vs outs vs.length) vs vs.length).2 outs)
theorem ndI_cv (vs : List Vl) (outs : List Int) : ∀ k, ndI (vs.map cv) outs k = ndI vs outs k
  | 0 => by simp [ndI]
  | k + 1 => by
    rw [ndI, ndI, ndI_cv vs outs k, List.length_map, getD_cv]
    rfl
theorem dkSt_cv (F : List Bool) (vs : List Vl) : ∀ i, dkSt F (vs.map cv) i = ((dkSt F vs i).1.map cv, (dkSt F vs i).2)
  | 0 => by simp [dkSt]
  | i + 1 => by
    rw [dkSt, dkSt, dkSt_cv F vs i]
    simp only [List.length_map]
    split
    · rw [getD_cv, ← cv_rnm]
      simp
    · rfl
theorem deadM_lk {us vs : List Vl} {outs : List Int} (h : Lk us vs) : Lk (deadM us outs).1 (deadM vs outs).1 ∧ (deadM us outs).2 = (deadM vs outs).2 := by
  have e : ndI us outs us.length = ndI vs outs us.length := by rw [← ndI_cv us, ← ndI_cv vs, h]
  unfold deadM
  rw [← h.len, e]
  have a := dkSt_cv (ndI vs outs us.length) us us.length
  have b := dkSt_cv (ndI vs outs us.length) vs us.length
  rw [h] at a
  rw [a] at b
  exact ⟨congrArg Prod.fst b, by rw [congrArg Prod.snd b]⟩
structure DkI (ins : List Int) (F : List Bool) (vs : List Vl) (i : Nat) (S : List Vl × List Int) : Prop where
  l2 : S.2.length = vs.length
  l1 : S.1.length ≤ i
  to0 : ∀ j, j < i → F.getD j false = true → 0 ≤ S.2.getD j 0 ∧ S.2.getD j 0 < S.1.length
  tlen : ∀ j, j < i → F.getD j false = true → (S.1.getD (S.2.getD j 0).toNat Vl.zero).len = (vs.getD j Vl.zero).len
  ok : ∀ j, j < S.1.length → okV ins S.1 j = true
  cells : cellsV S.1 ≤ cellsV (vs.take i)
theorem set_atI (G : List Int) (j : Nat) (b : Int) (i : Nat) (hi : i < G.length) : (G.set j b).getD i 0 = if j = i then b else G.getD i 0 := by
  rw [List.getD_eq_getElem?_getD, List.getElem?_set, List.getD_eq_getElem?_getD]
  by_cases c : j = i
  · subst c; simp [hi]
  · simp [c]
theorem dkI_all {ins : List Int} {F : List Bool} {vs : List Vl} (hv : ∀ j, j < vs.length → okV ins vs j = true) (hF : ∀ i, i < vs.length → F.getD i false = true → ∀ o ∈ opsOf (vs.getD i Vl.zero), F.getD o.toNat false = true) : ∀ i, i ≤ vs.length → DkI ins F vs i (dkSt F vs i)
  | 0, _ => ⟨by simp [dkSt], Nat.le_refl _, by intro j hj; omega, by intro j hj; omega, by intro j hj; simp [dkSt] at hj, by simp [dkSt]⟩
  | i + 1, hi => by
    have D := dkI_all hv hF i (by omega)
    have hlen : 1 ≤ (vs.getD i Vl.zero).len := by
      have := okV_lenB (hv i (by omega))
      have := of_decide_eq_true this
      omega
    rw [dkSt]
    by_cases c : F.getD i false = true
    · rw [if_pos c]
      generalize hS : dkSt F vs i = S at *
      have tt : ∀ j, j < vs.length → (S.2.set i S.1.length).getD j 0 = if i = j then (S.1.length : Int) else S.2.getD j 0 := fun j hj => set_atI _ _ _ _ (by rw [D.l2]; exact hj)
      have okN : okV ins (S.1 ++ [rnm (S.2.set i S.1.length) (vs.getD i Vl.zero)]) S.1.length = true := by
        have el := getD_lastV S.1 (rnm (S.2.set i S.1.length) (vs.getD i Vl.zero))
        refine okV_of (hv i (by omega)) (fun o => (S.2.set i S.1.length).getD o.toNat 0) ?_ ?_ ?_ ?_ ?_ ?_ ?_
        · rw [el]; rfl
        · rw [el]; rfl
        · intro c; rw [el]; unfold rnm; simp only; rw [if_neg (by omega)]
        · intro c; rw [el]; unfold rnm; simp only; rw [if_neg (by omega)]
        · intro c; rw [el]; unfold rnm; simp only; rw [if_neg (by omega)]
        · rw [el]; exact opsOf_rnm _ _
        · intro o ho h0 h1
          have hFo := hF i (by omega) c o ho
          have t := D.to0 o.toNat (by omega) hFo
          rw [tt _ (by omega), if_neg (by omega)]
          refine ⟨t, ?_⟩
          rw [getD_fstV _ _ (by omega)]
          exact D.tlen o.toNat (by omega) hFo
      refine ⟨by simp [D.l2], by simp; have := D.l1; omega, ?_, ?_, ?_, ?_⟩
      · intro j hj hFj
        simp only
        rw [tt _ (by omega)]
        rw [List.length_append, List.length_singleton]
        by_cases e : i = j
        · rw [if_pos e]; omega
        · rw [if_neg e]
          have := D.to0 j (by omega) hFj
          omega
      · intro j hj hFj
        simp only
        rw [tt _ (by omega)]
        by_cases e : i = j
        · subst e
          rw [if_pos rfl, Int.toNat_natCast, getD_lastV]; rfl
        · rw [if_neg e]
          have := D.to0 j (by omega) hFj
          rw [getD_fstV _ _ (by omega)]
          exact D.tlen j (by omega) hFj
      · intro j hj
        simp only at hj ⊢
        rw [List.length_append, List.length_singleton] at hj
        by_cases e : j < S.1.length
        · exact okV_app e (D.ok j e)
        · have : j = S.1.length := by omega
          subst this
          exact okN
      · simp only
        rw [cellsV_append, cellsV_take (by omega)]
        have := D.cells
        have e : (rnm (S.2.set i S.1.length) (vs.getD i Vl.zero)).len = (vs.getD i Vl.zero).len := rfl
        omega
    · rw [if_neg c]
      refine ⟨D.l2, by have := D.l1; omega, ?_, ?_, D.ok, ?_⟩
      · intro j hj hFj
        by_cases e : j = i
        · subst e; exact absurd hFj c
        · exact D.to0 j (by omega) hFj
      · intro j hj hFj
        by_cases e : j = i
        · subst e; exact absurd hFj c
        · exact D.tlen j (by omega) hFj
      · rw [cellsV_take (by omega)]
        have := D.cells
        omega
theorem deadM_ok {ins : List Int} {vs : List Vl} {outs : List Int} (h : okG ins vs outs = true) : okG ins (deadM vs outs).1 (deadM vs outs).2 = true := by
  obtain ⟨h1, h2, h3, h4, h5⟩ := okG_parts h
  have D := dkI_all (F := ndI vs outs vs.length) h3 (fun i hi hF o ho => ndI_closed h3 vs.length (Nat.le_refl _) i (by omega) hi hF o ho) vs.length (Nat.le_refl _)
  have l1 := D.l1
  unfold deadM
  refine okG_make ⟨h1.1, by simp only; omega, by simp [mapO]; exact h1.2.2⟩ h2 D.ok ?_ ?_
  · intro o ho
    simp only [mapO, List.mem_map] at ho
    obtain ⟨q, hq, rfl⟩ := ho
    have hb := h4 q hq
    exact D.to0 q.toNat (by omega) (ndI_outs h4 _ q hq)
  · have := D.cells
    rw [List.take_of_length_le (Nat.le_refl _)] at this
    simp only
    omega
end Go.Proofs.YtiiimofkkahobaaDoor

namespace Go.Proofs.YtiiimofkkahobaaDoor
open Go.RowKit Flt

end Go.Proofs.YtiiimofkkahobaaDoor

namespace Go.Proofs.YtiiimofkkahobaaDoor
open Go.RowKit Flt
attribute [local go_sem] alloc_drewN setCell_drewN run_store_float

theorem nat_beq (x y : Nat) : ((x : Int) == (y : Int)) = (x == y) := by
  rw [Bool.eq_iff_iff, beq_iff_eq, beq_iff_eq]; omega
def eitherB (op : Int) : Bool := op == 4 || op == 2
/-- What leaves the other operand as it is, on the right. -/
def unitF (op : Int) : Nat := if op = 4 ∨ op = 5 then 4607182418800017408 else if op = 2 then 9223372036854775808 else 0
def unitB (op : Int) : Bool := decide (op = 4 ∨ op = 5 ∨ op = 3 ∨ op = 2)
/-! The model's leaves. -/
/-- Four of the six cells hold what they held; the operands are being replaced. -/
theorem rnm_cases (tq : List Int) (v : Vl) (q : Nat) (hq : cnt v.op = q) : rnm tq v = ⟨v.op, v.len, if 0 < q then tq.getD v.a.toNat 0 else v.a, if 1 < q then tq.getD v.b.toNat 0 else v.b, if 2 < q then tq.getD v.c.toNat 0 else v.c, v.k⟩ := by
  unfold rnm; rw [hq]
end Go.Proofs.YtiiimofkkahobaaDoor

namespace Go.Proofs.YtiiimofkkahobaaDoor
open Go.RowKit Flt
attribute [local go_sem] alloc_drewN setCell_drewN run_store_float

theorem Kept.growT {lo hi l h : Nat} {w w' : World} (k : Kept l h w w') (h1 : lo ≤ l) (h2 : h ≤ hi) : Kept lo hi w w' := k.mono fun _ _ c => ⟨by omega, by omega⟩
/-- An own block whose first n cells are ints. -/
structure IBk (w : World) (g n : Nat) (xs : List Int) : Prop where
  len : xs.length = n
  lt : g < w.heap.size
  at_ : ∀ k, k < n → w.cell? ⟨g, k, none⟩ = some (.int .i64 (xs.getD k 0))
  free : ∀ o, w.frozen? ⟨g, o, none⟩ = false
theorem IBk.keep {w w' : World} {g n l h : Nat} {xs : List Int} (f : IBk w g n xs) (k : Kept l h w w') (hd : g < l ∨ h ≤ g ∨ h ≤ l) : IBk w' g n xs :=
  ⟨f.len, Nat.lt_of_lt_of_le f.lt k.size, fun j hj => by rw [k.cell (p := ⟨g, j, none⟩) f.lt (by show ¬ (l ≤ g ∧ g < h); omega)]; exact f.at_ j hj, fun o => by rw [k.frozen (p := ⟨g, o, none⟩) f.lt (by show ¬ (l ≤ g ∧ g < h); omega)]; exact f.free o⟩
theorem IBk.put {w : World} {g n : Nat} {xs : List Int} (f : IBk w g n xs) (j : Nat) (hj : j < n) (x : Int) : IBk (w.setCell ⟨g, j, none⟩ (.int .i64 x)) g n (xs.set j x) where
  len := by rw [List.length_set]; exact f.len
  lt := by simpa using f.lt
  at_ := fun k hk => by
    rw [List.getD_eq_getElem?_getD, List.getElem?_set]
    by_cases e : j = k
    · subst e
      rw [if_pos rfl, if_pos (by rw [f.len]; exact hj)]
      exact cell_eq _ _ _ _ _ (f.at_ j hj)
    · rw [if_neg e, cell_ne _ _ _ _ _ _ (.inr e), ← List.getD_eq_getElem?_getD]
      exact f.at_ k hk
  free := fun o => by simp [f.free o]
theorem IR.io {w : World} {g n : Nat} {xs : List Int} (f : IR w g xs) (h : xs.length = n) : IBk w g n xs := ⟨h, f.lt, fun k hk => f.cell k (by omega), f.free⟩
theorem getD_set {α : Type} (xs : List α) (z x : α) (j i : Nat) (hj : j < xs.length) : (xs.set j x).getD i z = if i = j then x else xs.getD i z := by
  rw [List.getD_eq_getElem?_getD, List.getElem?_set]
  by_cases e : j = i
  · subst e; rw [if_pos rfl, if_pos hj, if_pos rfl]; rfl
  · rw [if_neg e, if_neg (fun c => e c.symm), ← List.getD_eq_getElem?_getD]

set_option maxRecDepth 100000 in
set_option maxHeartbeats 1000000 in
theorem markIO (w : World) (g n cap : Nat) (k : Int) (xs : List Int) (hF : IBk w g n xs) (h0 : 0 ≤ k) (h1 : k ≤ 1099511627776) (hn : n ≤ 1099511627776) :
    Calls Tryd.prog 32 #[.slice (some ⟨g, 0, none⟩) n cap, .int .i64 k] w fun e w' => e = .returned (.int .i64 (k + n)) ∧ (∃ ys, IBk w' g n ys ∧ ∀ i, i < n → ys.getD i 0 = k + i) ∧ Kept g (g + 1) w w' := by
  go_enter Tryd.func32, Tryd.ntmps32
  go_wp2_with fail
  go_loopw [1, 5] (fun kv i W => ∃ j : Nat, j ≤ n ∧ i = .int .i64 j ∧ kv = .int .i64 (k + j) ∧ Hid (∃ ys, IBk W g n ys ∧ ∀ i, i < j → ys.getD i 0 = k + i) ∧ Kept g (g + 1) w W) (fun _ i _ => n - (intOf i).toNat)
  case atStart => exact ⟨0, Nat.zero_le _, rfl, by simp, ⟨xs, hF, fun i hi => by omega⟩, Kept.refl _ _ _⟩
  case round =>
    obtain ⟨j, hj, rfl, rfl, hY, hKW⟩ := hrel
    obtain ⟨ys, hFW, hy⟩ := hY.out
    by_cases hlt : j < n
    · have c2 := hFW.at_ j hlt
      have c3 := hFW.free j
      have R1 : Hid (∃ ys, IBk (wr.setCell ⟨g, j, none⟩ (.int .i64 (k + (j : Int)))) g n ys ∧ ∀ i, i < j + 1 → ys.getD i 0 = k + i) := ⟨_, hFW.put j hlt (k + (j : Int)), fun i hi => by
        rw [getD_set ys 0 _ j i (by rw [hFW.len]; exact hlt)]
        by_cases e : i = j
        · subst e; rw [if_pos rfl]
        · rw [if_neg e]; exact hy i (by omega)⟩
      have R2 : Hid _ := hKW.trans (kept_setCell (lo := g) (hi := g + 1) wr ⟨g, j, none⟩ (.int .i64 (k + (j : Int))) (.inl ⟨Nat.le_refl _, Nat.lt_succ_self _⟩))
      clear hFW hKW hF hy hY
      go_wp2
      go_roundw
      case rel => exact ⟨j + 1, by omega, by go_num, by go_num, R1, R2.out⟩
      case measure => simp [intOf]; omega
    · obtain rfl : j = n := by omega
      clear hF hFW hy
      go_wp2
      go_ret
      exact ⟨rfl, hY.out, hKW⟩
/-- The marks of value i. -/
def vm (k : Int) : Vl := ⟨k, k + 1, k + 1 + 1, k + 1 + 1 + 1, k + 1 + 1 + 1 + 1, floatOfInt .f64 (k + 1 + 1 + 1 + 1 + 1)⟩
set_option maxRecDepth 100000 in
set_option maxHeartbeats 4000000 in
theorem markVA (w : World) (g n cap : Nat) (k : Int) (vs : List Vl) (hF : VA w g n vs) (h0 : 0 ≤ k) (h1 : k ≤ 1099511627776) (hn : n ≤ 1099511627776) :
    Calls Tryd.prog 33 #[.slice (some ⟨g, 0, none⟩) n cap, .int .i64 k] w fun e w' => e = .returned (.int .i64 (k + 6 * n)) ∧ (∃ ys, VA w' g n ys ∧ ∀ i, i < n → ys.getD i Vl.zero = vm (k + 6 * i)) ∧ Kept g (g + 1) w w' := by
  go_enter Tryd.func33, Tryd.ntmps33
  go_wp2_with fail
  go_loopw [1, 5] (fun kv i W => ∃ j : Nat, j ≤ n ∧ i = .int .i64 j ∧ kv = .int .i64 (k + 6 * j) ∧ Hid (∃ ys, VA W g n ys ∧ ∀ i, i < j → ys.getD i Vl.zero = vm (k + 6 * i)) ∧ Kept g (g + 1) w W) (fun _ i _ => n - (intOf i).toNat)
  case atStart => exact ⟨0, Nat.zero_le _, rfl, by simp, ⟨vs, hF, fun i hi => by omega⟩, Kept.refl _ _ _⟩
  case round =>
    obtain ⟨j, hj, rfl, rfl, hY, hKW⟩ := hrel
    obtain ⟨ys, hFW, hy⟩ := hY.out
    by_cases hlt : j < n
    · obtain ⟨d0, d1, d2, d3, d4, d5⟩ := hFW.at_ j hlt
      have c3 := hFW.free
      have R0 : Hid (∀ i, i < j + 1 → (ys.set j (vm (k + 6 * (j : Int)))).getD i Vl.zero = vm (k + 6 * i)) := fun i hi => by
        rw [getD_set ys Vl.zero _ j i (by rw [hFW.len]; exact hlt)]
        by_cases e : i = j
        · subst e; rw [if_pos rfl]
        · rw [if_neg e]; exact hy i (by omega)
      generalize hkk : k + 6 * (j : Int) = kk at R0
      have b0 : 0 ≤ kk := by omega
      have b1 : kk ≤ 10995116277760 := by omega
      have R1 : Hid _ := hFW.step j hlt ⟨kk, kk + 1, kk + 1 + 1, kk + 1 + 1 + 1, kk + 1 + 1 + 1 + 1, floatOfInt .f64 (kk + 1 + 1 + 1 + 1 + 1)⟩
      have R2 : Hid _ := hKW.trans (put6_kept wr g (j * 6) ⟨kk, kk + 1, kk + 1 + 1, kk + 1 + 1 + 1, kk + 1 + 1 + 1 + 1, floatOfInt .f64 (kk + 1 + 1 + 1 + 1 + 1)⟩)
      have R3 : Hid (k + 6 * (j : Int) = kk) := hkk
      clear hFW hKW hF hkk hy hY
      go_wp2
      go_roundw
      case rel => exact ⟨j + 1, by omega, by go_num, by have := R3.out; congr 1; omega, ⟨_, R1.out, R0.out⟩, R2.out⟩
      case measure => simp [intOf]; omega
    · obtain rfl : j = n := by omega
      clear hF hFW hy
      go_wp2
      go_ret
      exact ⟨rfl, hY.out, hKW⟩
end Go.Proofs.YtiiimofkkahobaaDoor

namespace Go.Proofs.YtiiimofkkahobaaDoor
open Go.RowKit Flt
attribute [local go_sem] alloc_drewN setCell_drewN run_store_float

set_option maxRecDepth 100000 in
set_option maxHeartbeats 1000000 in
theorem markI_zero (w : World) (a : Option Addr) (cap : Nat) (k : Int) : Calls Tryd.prog 32 #[.slice a 0 cap, .int .i64 k] w fun e w' => e = .returned (.int .i64 k) ∧ w' = w := by
  go_enter Tryd.func32, Tryd.ntmps32
  go_wp2_with fail
  refine wp_loop_rounds 1 ?_
  rw [rounds_succ]
  go_wp2
  go_ret
  exact ⟨rfl, rfl⟩
set_option maxRecDepth 100000 in
set_option maxHeartbeats 1000000 in
theorem markV_zero (w : World) (a : Option Addr) (cap : Nat) (k : Int) : Calls Tryd.prog 33 #[.slice a 0 cap, .int .i64 k] w fun e w' => e = .returned (.int .i64 k) ∧ w' = w := by
  go_enter Tryd.func33, Tryd.ntmps33
  go_wp2_with fail
  refine wp_loop_rounds 1 ?_
  rw [rounds_succ]
  go_wp2
  go_ret
  exact ⟨rfl, rfl⟩
/-- A slice of ints in a block of its own, or an empty one. -/
def IZ (w : World) (g : Nat) (a : Option Addr) (n : Nat) (xs : List Int) : Prop := n = 0 ∨ (a = some ⟨g, 0, none⟩ ∧ IBk w g n xs)
def VZ (w : World) (g : Nat) (a : Option Addr) (n : Nat) (vs : List Vl) : Prop := n = 0 ∨ (a = some ⟨g, 0, none⟩ ∧ VA w g n vs)
theorem IZ.keep {w w' : World} {g n l h : Nat} {a : Option Addr} {xs : List Int} (f : IZ w g a n xs) (k : Kept l h w w') (hd : g < l ∨ h ≤ g ∨ h ≤ l) : IZ w' g a n xs := f.imp id fun ⟨e, q⟩ => ⟨e, q.keep k hd⟩
theorem VZ.keep {w w' : World} {g n l h : Nat} {a : Option Addr} {xs : List Vl} (f : VZ w g a n xs) (k : Kept l h w w') (hd : g < l ∨ h ≤ g ∨ h ≤ l) : VZ w' g a n xs := f.imp id fun ⟨e, q⟩ => ⟨e, q.keep k hd⟩
/-- The marks stand. -/
def IM (w : World) (g : Nat) (a : Option Addr) (n : Nat) (k : Int) : Prop := ∃ ys, IZ w g a n ys ∧ ∀ i, i < n → ys.getD i 0 = k + i
def VM (w : World) (g : Nat) (a : Option Addr) (n : Nat) (k : Int) : Prop := ∃ ys, VZ w g a n ys ∧ ∀ i, i < n → ys.getD i Vl.zero = vm (k + 6 * i)
theorem IM.keep {w w' : World} {g n l h : Nat} {a : Option Addr} {m : Int} (f : IM w g a n m) (k : Kept l h w w') (hd : g < l ∨ h ≤ g ∨ h ≤ l) : IM w' g a n m := by
  obtain ⟨ys, h1, h2⟩ := f
  exact ⟨ys, h1.keep k hd, h2⟩
theorem VM.keep {w w' : World} {g n l h : Nat} {a : Option Addr} {m : Int} (f : VM w g a n m) (k : Kept l h w w') (hd : g < l ∨ h ≤ g ∨ h ≤ l) : VM w' g a n m := by
  obtain ⟨ys, h1, h2⟩ := f
  exact ⟨ys, h1.keep k hd, h2⟩
theorem G0.keepT {W W' : World} {p l h : Nat} {b0 b1 b2 : Value} (t : G0 W p b0 b1 b2) (k : Kept l h W W') (hd : p < l ∨ h ≤ p ∨ h ≤ l) : G0 W' p b0 b1 b2 := by
  have e : ∀ o, W'.cell? ⟨p, o, none⟩ = W.cell? ⟨p, o, none⟩ := fun o => k.cell (p := ⟨p, o, none⟩) t.sz (by show ¬ (l ≤ p ∧ p < h); omega)
  exact ⟨Nat.lt_of_lt_of_le t.sz k.size, by rw [e]; exact t.q0, by rw [e]; exact t.q1, by rw [e]; exact t.q2⟩
theorem markIZ (w : World) (g n cap : Nat) (a : Option Addr) (k : Int) (xs : List Int) (hF : IZ w g a n xs) (h0 : 0 ≤ k) (h1 : k ≤ 1099511627776) (hn : n ≤ 1099511627776) :
    Calls Tryd.prog 32 #[.slice a n cap, .int .i64 k] w fun e w' => e = .returned (.int .i64 (k + n)) ∧ IM w' g a n k ∧ Kept g (g + 1) w w' := by
  rcases hF with rfl | ⟨rfl, hF⟩
  · exact (markI_zero w a cap k).mono fun e w' ⟨h1, h2⟩ => ⟨by rw [h1]; simp, ⟨[], .inl rfl, fun i hi => by omega⟩, by rw [h2]; exact Kept.refl _ _ _⟩
  · exact (markIO w g n cap k xs hF h0 h1 hn).mono fun e w' ⟨h1, ⟨ys, h2, h3⟩, h4⟩ => ⟨h1, ⟨ys, .inr ⟨rfl, h2⟩, h3⟩, h4⟩
theorem markVZ (w : World) (g n cap : Nat) (a : Option Addr) (k : Int) (xs : List Vl) (hF : VZ w g a n xs) (h0 : 0 ≤ k) (h1 : k ≤ 1099511627776) (hn : n ≤ 1099511627776) :
    Calls Tryd.prog 33 #[.slice a n cap, .int .i64 k] w fun e w' => e = .returned (.int .i64 (k + 6 * n)) ∧ VM w' g a n k ∧ Kept g (g + 1) w w' := by
  rcases hF with rfl | ⟨rfl, hF⟩
  · exact (markV_zero w a cap k).mono fun e w' ⟨h1, h2⟩ => ⟨by rw [h1]; simp, ⟨[], .inl rfl, fun i hi => by omega⟩, by rw [h2]; exact Kept.refl _ _ _⟩
  · exact (markVA w g n cap k xs hF h0 h1 hn).mono fun e w' ⟨h1, ⟨ys, h2, h3⟩, h4⟩ => ⟨h1, ⟨ys, .inr ⟨rfl, h2⟩, h3⟩, h4⟩
/-- A graph whose lists lie in three blocks of their own. -/
structure OG (w : World) (g1 g2 g3 : Nat) (a1 : Option Addr) (n1 : Nat) (a2 : Option Addr) (n2 : Nat) (a3 : Option Addr) (n3 : Nat) (ins : List Int) (vs : List Vl) (outs : List Int) : Prop where
  i : IZ w g1 a1 n1 ins
  v : VZ w g2 a2 n2 vs
  o : IZ w g3 a3 n3 outs
  d12 : g1 ≠ g2
  d13 : g1 ≠ g3
  d23 : g2 ≠ g3
theorem OG.keep {w w' : World} {g1 g2 g3 n1 n2 n3 : Nat} {a1 a2 a3 : Option Addr} {ins : List Int} {vs : List Vl} {outs : List Int} (f : OG w g1 g2 g3 a1 n1 a2 n2 a3 n3 ins vs outs) (k : Kept 0 0 w w') : OG w' g1 g2 g3 a1 n1 a2 n2 a3 n3 ins vs outs :=
  ⟨f.i.keep k (.inr (.inr (Nat.le_refl _))), f.v.keep k (.inr (.inr (Nat.le_refl _))), f.o.keep k (.inr (.inr (Nat.le_refl _))), f.d12, f.d13, f.d23⟩
theorem GO.og {w : World} {lo g1 g2 g3 n1 n2 n3 : Nat} {ins : List Int} {vs : List Vl} {outs : List Int} (f : GO w lo g1 g2 g3 n2 ins vs outs) (h1 : ins.length = n1) (h3 : outs.length = n3) : OG w g1 g2 g3 (some ⟨g1, 0, none⟩) n1 (some ⟨g2, 0, none⟩) n2 (some ⟨g3, 0, none⟩) n3 ins vs outs :=
  ⟨.inr ⟨rfl, f.i.io h1⟩, .inr ⟨rfl, f.v⟩, .inr ⟨rfl, f.o.io h3⟩, by have := f.l2; omega, by have := f.l2; have := f.l3; omega, by have := f.l3; omega⟩
theorem Kept.chg1 {S : Nat → Prop} {g : Nat} {w w' : World} (k : Kept g (g + 1) w w') (h : S g) : Chg S w w' :=
  ⟨k.os, k.tape, k.output, k.size, fun i hi hn => k.block i hi fun c => hn ((show g = i by omega) ▸ h)⟩
theorem Chg.andThen {S : Nat → Prop} {a b c : World} (h : Chg S a b) (k : Chg S b c) : Chg S a c :=
  ⟨k.os.trans h.os, k.tape.trans h.tape, k.output.trans h.output, Nat.le_trans h.size k.size, fun i hi hn => (k.block i (Nat.lt_of_lt_of_le hi h.size) hn).trans (h.block i hi hn)⟩
theorem IZ.keepC {w w' : World} {S : Nat → Prop} {g n : Nat} {a : Option Addr} {xs : List Int} (f : IZ w g a n xs) (k : Chg S w w') (hd : ¬ S g) : IZ w' g a n xs := f.imp id fun ⟨e, q⟩ => ⟨e, q.len, Nat.lt_of_lt_of_le q.lt k.size, fun j hj => by rw [k.cell (p := ⟨g, j, none⟩) q.lt hd]; exact q.at_ j hj, fun o => by rw [k.frozen (p := ⟨g, o, none⟩) q.lt hd]; exact q.free o⟩
theorem VZ.keepC {w w' : World} {S : Nat → Prop} {g n : Nat} {a : Option Addr} {vs : List Vl} (f : VZ w g a n vs) (k : Chg S w w') (hd : ¬ S g) : VZ w' g a n vs := f.imp id fun ⟨e, q⟩ => ⟨e, q.len, Nat.lt_of_lt_of_le q.lt k.size, fun j hj => by
  have e : ∀ o, w'.cell? ⟨g, o, none⟩ = w.cell? ⟨g, o, none⟩ := fun o => k.cell (p := ⟨g, o, none⟩) q.lt hd
  obtain ⟨c0, c1, c2, c3, c4, c5⟩ := q.at_ j hj
  exact ⟨by rw [e]; exact c0, by rw [e]; exact c1, by rw [e]; exact c2, by rw [e]; exact c3, by rw [e]; exact c4, by rw [e]; exact c5⟩, fun o => by rw [k.frozen (p := ⟨g, o, none⟩) q.lt hd]; exact q.free o⟩
theorem OG.keepC {w w' : World} {S : Nat → Prop} {g1 g2 g3 n1 n2 n3 : Nat} {a1 a2 a3 : Option Addr} {ins : List Int} {vs : List Vl} {outs : List Int} (f : OG w g1 g2 g3 a1 n1 a2 n2 a3 n3 ins vs outs) (k : Chg S w w') (h1 : ¬ S g1) (h2 : ¬ S g2) (h3 : ¬ S g3) : OG w' g1 g2 g3 a1 n1 a2 n2 a3 n3 ins vs outs :=
  ⟨f.i.keepC k h1, f.v.keepC k h2, f.o.keepC k h3, f.d12, f.d13, f.d23⟩
/-- Marks in all three lists. -/
structure OM3 (w : World) (g1 g2 g3 : Nat) (a1 : Option Addr) (n1 : Nat) (a2 : Option Addr) (n2 : Nat) (a3 : Option Addr) (n3 : Nat) (k : Int) : Prop where
  i : IM w g1 a1 n1 k
  v : VM w g2 a2 n2 (k + n1)
  o : IM w g3 a3 n3 (k + n1 + 6 * n2)

set_option maxRecDepth 100000 in
set_option maxHeartbeats 2000000 in
theorem markOG (w : World) (g1 g2 g3 n1 n2 n3 c1 c2 c3 : Nat) (a1 a2 a3 : Option Addr) (ins : List Int) (vs : List Vl) (outs : List Int) (f : OG w g1 g2 g3 a1 n1 a2 n2 a3 n3 ins vs outs) (q1 : g1 ≠ w.heap.size) (q2 : g2 ≠ w.heap.size) (q3 : g3 ≠ w.heap.size) (k : Int) (h0 : 0 ≤ k) (h1 : k ≤ 1000000000) (b1 : n1 ≤ 1048576) (b2 : n2 ≤ 1048576) (b3 : n3 ≤ 1048576) :
    Calls Tryd.prog 10 #[gagg a1 n1 c1 a2 n2 c2 a3 n3 c3, .int .i64 k] w fun e w' => e = .returned (.int .i64 (k + n1 + 6 * n2 + n3)) ∧ OM3 w' g1 g2 g3 a1 n1 a2 n2 a3 n3 k ∧ Chg (fun i => i = g1 ∨ i = g2 ∨ i = g3) w w' := by
  have ka := kept_alloc 0 0 w (gbox a1 n1 c1 a2 n2 c2 a3 n3 c3)
  have hB := g0_start w (.slice a1 n1 c1) (.slice a2 n2 c2) (.slice a3 n3 c3)
  have fw := f.keep ka
  have HO : Hid (g1 ≠ w.heap.size ∧ g2 ≠ w.heap.size ∧ g3 ≠ w.heap.size ∧ g1 ≠ g2 ∧ g1 ≠ g3 ∧ g2 ≠ g3) := ⟨q1, q2, q3, f.d12, f.d13, f.d23⟩
  have HFI : Hid _ := fw.i
  have HFV : Hid _ := fw.v
  have HFO : Hid _ := fw.o
  have HB : Hid _ := hB
  have HK : Hid (Chg (fun i => i = g1 ∨ i = g2 ∨ i = g3) w (w.alloc (gbox a1 n1 c1 a2 n2 c2 a3 n3 c3))) := ka.chg
  clear f ka fw hB q1 q2 q3
  go_enter Tryd.func10, Tryd.ntmps10
  go_wp2_with fail
  generalize hw1 : w.alloc (gbox a1 n1 c1 a2 n2 c2 a3 n3 c3) = w1 at HFI HFV HFO HB HK ⊢
  clear hw1
  refine Calls.mono (markIZ _ g1 n1 _ a1 k ins HFI.out h0 (by omega) (by omega)) ?_
  rintro e w2 ⟨rfl, m2, k2⟩
  have HM2 : Hid _ := m2
  have HFV2 : Hid _ := VZ.keep HFV.out k2 (by have := HO.out; omega)
  have HFO2 : Hid _ := IZ.keep HFO.out k2 (by have := HO.out; omega)
  have HB2 : Hid _ := G0.keepT HB.out k2 (by have := HO.out; omega)
  have HK2 : Hid _ := Chg.andThen HK.out (k2.chg1 (.inl rfl))
  clear k2 m2 HFI HFV HFO HB HK
  obtain ⟨_, q0, q1, q2⟩ := HB2.out
  go_wp2_with fail
  clear q0 q1 q2
  refine Calls.mono (markVZ _ g2 n2 _ a2 (k + n1) vs HFV2.out (by omega) (by omega) (by omega)) ?_
  rintro e w3 ⟨rfl, m3, k3⟩
  have HM2b : Hid _ := IM.keep HM2.out k3 (by have := HO.out; omega)
  have HM3 : Hid _ := m3
  have HFO3 : Hid _ := IZ.keep HFO2.out k3 (by have := HO.out; omega)
  have HB3 : Hid _ := G0.keepT HB2.out k3 (by have := HO.out; omega)
  have HK3 : Hid _ := Chg.andThen HK2.out (k3.chg1 (.inr (.inl rfl)))
  clear k3 m3 HFV2 HFO2 HB2 HK2 HM2
  obtain ⟨_, q0, q1, q2⟩ := HB3.out
  go_wp2_with fail
  clear q0 q1 q2
  refine Calls.mono (markIZ _ g3 n3 _ a3 (k + n1 + 6 * n2) outs HFO3.out (by omega) (by omega) (by omega)) ?_
  rintro e w4 ⟨rfl, m4, k4⟩
  have R1 : Hid _ := IM.keep HM2b.out k4 (by have := HO.out; omega)
  have R2 : Hid _ := VM.keep HM3.out k4 (by have := HO.out; omega)
  have R3 : Hid _ := m4
  have HK4 : Hid _ := Chg.andThen HK3.out (k4.chg1 (.inr (.inr rfl)))
  clear k4 m4 HFO3 HB3 HK3 HM2b HM3
  go_wp2
  go_ret
  exact ⟨rfl, ⟨R1.out, R2.out, R3.out⟩, HK4.out⟩

end Go.Proofs.YtiiimofkkahobaaDoor
