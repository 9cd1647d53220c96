import Derived.Test.YtcphabjekfihnabGreatP30
namespace Go.Proofs.YtcphabjekfihnabGreat
open Go.RowKit Flt

/-! The kernels, given operands that are the same, answer the same. -/
theorem neg_congr {x y : Nat} (hx : x < 18446744073709551616) (hy : y < 18446744073709551616) (h : fb x = fb y) : fb (Op.negFloat .f64 x) = fb (Op.negFloat .f64 y) := by
  rcases fb_cases h with rfl | ⟨a, b⟩
  · rfl
  · have key : ∀ z, z < 18446744073709551616 → (f64.read z).isNaN = true → (f64.read (Op.negFloat .f64 z)).isNaN = true := fun z hz hn => by
      obtain ⟨s, r, hr, rfl⟩ := split_word z hz
      rw [neg_W s hr]
      rcases Nat.lt_or_ge 9218868437227405312 r with c | c
      · rw [show f64.read (W (!s) r) = _ from read_nan c hr]; rfl
      · have := isn_num (s := s) c
        rw [isn_iff, hn] at this
        cases this
    exact fb_nan_eq (key x hx a) (key y hy b)
theorem greater_congr {x y x' y' : Nat} (h : fb x = fb x') (h' : fb y = fb y') : fb (greaterN x y) = fb (greaterN x' y') := by
  have e : FloatKind.f64.format.order x y = FloatKind.f64.format.order x' y' := order_congr h h'
  unfold greaterN
  rw [e]
  split
  · exact h
  · exact h'
theorem chosen_congr {x y z x' y' z' : Nat} (h : fb x = fb x') (h' : fb y = fb y') (h'' : fb z = fb z') : fb (chosenN x y z) = fb (chosenN x' y' z') := by
  have e : FloatKind.f64.format.order x 0 = FloatKind.f64.format.order x' 0 := order_congr h rfl
  unfold chosenN
  rw [e]
  split
  · exact h'
  · exact h''
theorem exp_congr {x y : Nat} (h : fb x = fb y) : fb (cexp x) = fb (cexp y) := by
  have e1 : FloatKind.f64.format.order x x = FloatKind.f64.format.order y y := order_congr h h
  have e2 : FloatKind.f64.format.order x 4652007308841189376 = FloatKind.f64.format.order y 4652007308841189376 := order_congr h rfl
  have e3 : FloatKind.f64.format.order x 13875379345695965184 = FloatKind.f64.format.order y 13875379345695965184 := order_congr h rfl
  unfold cexp
  rw [e1, e2, e3, cop_congr .quo h rfl]
  split
  · exact h
  · rfl
theorem csum_congr {xs ys : List Nat} (h : same xs ys) (h0 : 0 < xs.length) : fb (csum xs) = fb (csum ys) := by
  have hl := same_len h
  have key : ∀ k, 0 < k → k ≤ xs.length → fb (csum (xs.take k)) = fb (csum (ys.take k)) := fun k => by
    induction k with
    | zero => intro c; omega
    | succ k ih =>
      intro _ hk
      rcases Nat.eq_zero_or_pos k with c | c
      · subst c
        rw [csum_one xs h0, csum_one ys (by omega)]
        exact same_at h 0
      · rw [csum_take xs k c (by omega), csum_take ys k c (by omega), cop_congr .add (ih c (by omega)) (same_at h k)]
  have := key xs.length h0 (Nat.le_refl _)
  rw [List.take_of_length_le (Nat.le_refl _), List.take_of_length_le (by omega)] at this
  exact this
theorem fit_sum {op len C : Int} {la lb lc : Nat} (h : fitB op len C la lb lc = true) (h9 : op = 9) : 0 < la := by
  subst h9
  simp [fitB, shapeB, cnt, lenB] at h
  omega
theorem elem_congr {op C : Int} {K k : Nat} {xa xb xc ya yb yc : List Nat} (ha : same xa ya) (hb : same xb yb) (hc : same xc yc) (la : ∀ x ∈ xa, x < 18446744073709551616) (la' : ∀ x ∈ ya, x < 18446744073709551616) (h9 : op = 9 → 0 < xa.length) :
    fb (elem op C K xa xb xc k) = fb (elem op C K ya yb yc k) := by
  unfold elem
  by_cases c : op = 1
  · rw [if_pos c, if_pos c]
  rw [if_neg c, if_neg c]
  clear c
  by_cases c : op = 2
  · rw [if_pos c, if_pos c]
    exact congrArg fb (cop_congr .add (same_at ha k) (same_at hb k))
  rw [if_neg c, if_neg c]
  clear c
  by_cases c : op = 3
  · rw [if_pos c, if_pos c]
    exact congrArg fb (cop_congr .sub (same_at ha k) (same_at hb k))
  rw [if_neg c, if_neg c]
  clear c
  by_cases c : op = 4
  · rw [if_pos c, if_pos c]
    exact congrArg fb (cop_congr .mul (same_at ha k) (same_at hb k))
  rw [if_neg c, if_neg c]
  clear c
  by_cases c : op = 5
  · rw [if_pos c, if_pos c]
    exact congrArg fb (cop_congr .quo (same_at ha k) (same_at hb k))
  rw [if_neg c, if_neg c]
  clear c
  by_cases c : op = 6
  · rw [if_pos c, if_pos c]
    exact neg_congr (getD_lt la k) (getD_lt la' k) (same_at ha k)
  rw [if_neg c, if_neg c]
  clear c
  by_cases c : op = 7
  · rw [if_pos c, if_pos c]
    exact greater_congr (same_at ha k) (same_at hb k)
  rw [if_neg c, if_neg c]
  clear c
  by_cases c : op = 8
  · rw [if_pos c, if_pos c]
    exact chosen_congr (same_at ha k) (same_at hb k) (same_at hc k)
  rw [if_neg c, if_neg c]
  clear c
  by_cases c : op = 9
  · rw [if_pos c, if_pos c]
    exact csum_congr ha (h9 c)
  rw [if_neg c, if_neg c]
  clear c
  by_cases c : op = 10
  · rw [if_pos c, if_pos c]
    exact same_at ha 0
  rw [if_neg c, if_neg c]
  clear c
  by_cases c : op = 11
  · rw [if_pos c, if_pos c]
    exact same_at ha _
  rw [if_neg c, if_neg c]
  clear c
  by_cases c : op = 12
  · rw [if_pos c, if_pos c]
    by_cases d : k = C.toNat
    · rw [if_pos d, if_pos d]
      exact same_at ha 0
    · rw [if_neg d, if_neg d]
  rw [if_neg c, if_neg c]
  exact exp_congr (same_at ha k)
theorem kern_congr {op len C : Int} {K : Nat} {xa xb xc ya yb yc : List Nat} (ha : same xa ya) (hb : same xb yb) (hc : same xc yc) (la : ∀ x ∈ xa, x < 18446744073709551616) (la' : ∀ x ∈ ya, x < 18446744073709551616) :
    same (kern op len C K xa xb xc) (kern op len C K ya yb yc) := by
  unfold kern
  rw [← same_len ha, ← same_len hb, ← same_len hc]
  cases hf : fitB op len C xa.length xb.length xc.length
  · rfl
  · rw [if_pos rfl, if_pos rfl]
    refine same_of (by simp) fun k hk => ?_
    have hk' : k < len.toNat := by simpa using hk
    have e := elem_congr (op := op) (C := C) (K := K) (k := k) ha hb hc la la' (fun h9 => fit_sum hf h9)
    simpa [List.getD_eq_getElem?_getD, hk'] using e
theorem same_refl (xs : List Nat) : same xs xs := rfl
theorem same_trans {xs ys zs : List Nat} (h : same xs ys) (h' : same ys zs) : same xs zs := Eq.trans h h'
theorem same_symm {xs ys : List Nat} (h : same xs ys) : same ys xs := Eq.symm h

/-! What a graph means. -/
/-- The elements of value v, from those of the values before it. -/
def one (xss : List (List Nat)) (v : Vl) (Vs : List (List Nat)) : List Nat :=
  if v.op = 0 then xss.getD v.a.toNat [] else
    kern v.op v.len v.c v.k (if 0 < cnt v.op then Vs.getD v.a.toNat [] else []) (if 1 < cnt v.op then Vs.getD v.b.toNat [] else []) (if 2 < cnt v.op then Vs.getD v.c.toNat [] else [])
/-- The elements of the first i values. -/
def valsTo (xss : List (List Nat)) (vs : List Vl) : Nat → List (List Nat)
  | 0 => []
  | i + 1 => valsTo xss vs i ++ [one xss (vs.getD i Vl.zero) (valsTo xss vs i)]
theorem valsTo_len (xss : List (List Nat)) (vs : List Vl) : ∀ i, (valsTo xss vs i).length = i
  | 0 => rfl
  | i + 1 => by rw [valsTo, List.length_append, valsTo_len xss vs i]; rfl
theorem valsTo_lt (xss : List (List Nat)) (vs : List Vl) {i j : Nat} (h : j < i) : (valsTo xss vs (i + 1)).getD j [] = (valsTo xss vs i).getD j [] := by
  rw [valsTo, List.getD_eq_getElem?_getD, List.getElem?_append_left (by rw [valsTo_len]; exact h), ← List.getD_eq_getElem?_getD]
theorem valsTo_at (xss : List (List Nat)) (vs : List Vl) (i : Nat) : (valsTo xss vs (i + 1)).getD i [] = one xss (vs.getD i Vl.zero) (valsTo xss vs i) := by
  rw [valsTo, List.getD_eq_getElem?_getD, List.getElem?_append_right (by rw [valsTo_len]; exact Nat.le_refl _), valsTo_len, Nat.sub_self]; rfl
theorem valsTo_le (xss : List (List Nat)) (vs : List Vl) {i j : Nat} : ∀ n, j < i → (valsTo xss vs (i + n)).getD j [] = (valsTo xss vs i).getD j []
  | 0, _ => rfl
  | n + 1, h => by rw [← Nat.add_assoc, valsTo_lt _ _ (by omega)]; exact valsTo_le xss vs n h

/-- Whether the inputs are as many and as long as the graph says. -/
def inB (ins : List Int) (xss : List (List Nat)) : Bool := decide (xss.length = ins.length) && (List.range ins.length).all fun i => ((xss.getD i []).length : Int) == ins.getD i 0
theorem kern_len {op len C : Int} {K : Nat} {xa xb xc : List Nat} (h : fitB op len C xa.length xb.length xc.length = true) : (kern op len C K xa xb xc).length = len.toNat := by
  unfold kern; rw [if_pos h]; simp

/-- In a valid graph with inputs that fit every value has its length. -/
theorem vals_len {ins : List Int} {vs : List Vl} {xss : List (List Nat)} (hi : inB ins xss = true) : ∀ i, (List.range i).all (okV ins vs) = true → ∀ j, j < i → (((valsTo xss vs i).getD j []).length : Int) = (vs.getD j Vl.zero).len
  | 0, _, j, hj => by omega
  | i + 1, h, j, hj => by
    have hr : (List.range i).all (okV ins vs) = true := by rw [List.range_succ, List.all_append] at h; rw [Bool.and_eq_true] at h; exact h.1
    have ih := vals_len hi i hr
    by_cases e : j < i
    · rw [valsTo_lt _ _ e]; exact ih j e
    · have : j = i := by omega
      subst this
      rw [valsTo_at]
      have ho : okV ins vs j = true := List.all_eq_true.1 h j (List.mem_range.2 (Nat.lt_succ_self _))
      have hlen := okV_len ho
      unfold okV at ho
      generalize vs.getD j Vl.zero = v at ho hlen ⊢
      rw [Bool.and_eq_true, Bool.and_eq_true] at ho
      obtain ⟨⟨h1, h2⟩, h3⟩ := ho
      unfold one
      by_cases h0 : v.op = 0
      · rw [if_pos h0] at h3 ⊢
        rw [Bool.and_eq_true] at h3
        have ha := of_decide_eq_true h3.1
        unfold inB at hi
        rw [Bool.and_eq_true] at hi
        have hx := List.all_eq_true.1 hi.2 v.a.toNat (List.mem_range.2 (by omega))
        rw [beq_iff_eq.1 hx]
        exact (beq_iff_eq.1 h3.2).symm
      · rw [if_neg h0] at h3 ⊢
        rw [Bool.and_eq_true] at h3
        have hq := h3.1
        have hs := h3.2
        have hc := cnt_le v.op
        have key : ∀ o, idxB o j = true → (((valsTo xss vs j).getD o.toNat []).length : Int) = (vs.getD o.toNat Vl.zero).len := fun o ho => by
          have := of_decide_eq_true ho
          exact ih o.toNat (by omega)
        rw [kern_len]
        · omega
        · unfold fitB
          rw [h1, Bool.true_and]
          unfold opsOf at hq hs
          rcases (by omega : cnt v.op = 0 ∨ cnt v.op = 1 ∨ cnt v.op = 2 ∨ cnt v.op = 3) with e | e | e | e
          · rw [e] at hs ⊢; exact hs
          · rw [e] at hq hs ⊢
            simp only [List.take_succ_cons, List.take_zero, List.all_cons, List.all_nil, Bool.and_true, List.map_cons, List.map_nil] at hq hs ⊢
            rw [if_pos (by omega), key _ hq]
            exact hs
          · rw [e] at hq hs ⊢
            simp only [List.take_succ_cons, List.take_zero, List.all_cons, List.all_nil, Bool.and_true, Bool.and_eq_true, List.map_cons, List.map_nil] at hq hs ⊢
            rw [if_pos (by omega), if_pos (by omega), key _ hq.1, key _ hq.2]
            exact hs
          · rw [e] at hq hs ⊢
            simp only [List.take_succ_cons, List.take_zero, List.all_cons, List.all_nil, Bool.and_true, Bool.and_eq_true, List.map_cons, List.map_nil] at hq hs ⊢
            rw [if_pos (by omega), if_pos (by omega), if_pos (by omega), key _ hq.1, key _ hq.2.1, key _ hq.2.2]
            exact hs
end Go.Proofs.YtcphabjekfihnabGreat
