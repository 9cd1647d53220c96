import Derived.Test.YtcphabjekfihnaaR03
import Derived.Laws.Cover3
import Derived.Deep.AppendLies
namespace Go.Proofs.Ytcphabjekfihnaa
open Go.RowKit Flt

/-! The kernels, given operands that are the same, answer the same. -/
theorem neg_congr {x y : Nat} (hx : x < 18446744073709551616) (hy : y < 18446744073709551616) (h : fb x = fb y) : fb (Op.negFloat .f64 x) = fb (Op.negFloat .f64 y) := by
  rcases fb_cases h with rfl | ⟨a, b⟩
  · rfl
  · have key : ∀ z, z < 18446744073709551616 → (f64.read z).isNaN = true → (f64.read (Op.negFloat .f64 z)).isNaN = true := fun z hz hn => by
      obtain ⟨s, r, hr, rfl⟩ := split_word z hz
      rw [neg_W s hr]
      rcases Nat.lt_or_ge 9218868437227405312 r with c | c
      · rw [show f64.read (W (!s) r) = _ from read_nan c hr]; rfl
      · have := isn_num (s := s) c
        rw [isn_iff, hn] at this
        cases this
    exact fb_nan_eq (key x hx a) (key y hy b)
theorem greater_congr {x y x' y' : Nat} (h : fb x = fb x') (h' : fb y = fb y') : fb (greaterN x y) = fb (greaterN x' y') := by
  have e : FloatKind.f64.format.order x y = FloatKind.f64.format.order x' y' := order_congr h h'
  unfold greaterN
  rw [e]
  split
  · exact h
  · exact h'
theorem chosen_congr {x y z x' y' z' : Nat} (h : fb x = fb x') (h' : fb y = fb y') (h'' : fb z = fb z') : fb (chosenN x y z) = fb (chosenN x' y' z') := by
  have e : FloatKind.f64.format.order x 0 = FloatKind.f64.format.order x' 0 := order_congr h rfl
  unfold chosenN
  rw [e]
  split
  · exact h'
  · exact h''
theorem exp_congr {x y : Nat} (h : fb x = fb y) : fb (cexp x) = fb (cexp y) := by
  have e1 : FloatKind.f64.format.order x x = FloatKind.f64.format.order y y := order_congr h h
  have e2 : FloatKind.f64.format.order x 4652007308841189376 = FloatKind.f64.format.order y 4652007308841189376 := order_congr h rfl
  have e3 : FloatKind.f64.format.order x 13875379345695965184 = FloatKind.f64.format.order y 13875379345695965184 := order_congr h rfl
  unfold cexp
  rw [e1, e2, e3, cop_congr .quo h rfl]
  split
  · exact h
  · rfl
theorem csum_congr {xs ys : List Nat} (h : same xs ys) (h0 : 0 < xs.length) : fb (csum xs) = fb (csum ys) := by
  have hl := same_len h
  have key : ∀ k, 0 < k → k ≤ xs.length → fb (csum (xs.take k)) = fb (csum (ys.take k)) := fun k => by
    induction k with
    | zero => intro c; omega
    | succ k ih =>
      intro _ hk
      rcases Nat.eq_zero_or_pos k with c | c
      · subst c
        rw [csum_one xs h0, csum_one ys (by omega)]
        exact same_at h 0
      · rw [csum_take xs k c (by omega), csum_take ys k c (by omega), cop_congr .add (ih c (by omega)) (same_at h k)]
  have := key xs.length h0 (Nat.le_refl _)
  rw [List.take_of_length_le (Nat.le_refl _), List.take_of_length_le (by omega)] at this
  exact this
theorem fit_sum {op len C : Int} {la lb lc : Nat} (h : fitB op len C la lb lc = true) (h9 : op = 9) : 0 < la := by
  subst h9
  simp [fitB, shapeB, cnt, lenB] at h
  omega
theorem elem_congr {op C : Int} {K k : Nat} {xa xb xc ya yb yc : List Nat} (ha : same xa ya) (hb : same xb yb) (hc : same xc yc) (la : ∀ x ∈ xa, x < 18446744073709551616) (la' : ∀ x ∈ ya, x < 18446744073709551616) (h9 : op = 9 → 0 < xa.length) :
    fb (elem op C K xa xb xc k) = fb (elem op C K ya yb yc k) := by
  unfold elem
  by_cases c : op = 1
  · rw [if_pos c, if_pos c]
  rw [if_neg c, if_neg c]
  clear c
  by_cases c : op = 2
  · rw [if_pos c, if_pos c]
    exact congrArg fb (cop_congr .add (same_at ha k) (same_at hb k))
  rw [if_neg c, if_neg c]
  clear c
  by_cases c : op = 3
  · rw [if_pos c, if_pos c]
    exact congrArg fb (cop_congr .sub (same_at ha k) (same_at hb k))
  rw [if_neg c, if_neg c]
  clear c
  by_cases c : op = 4
  · rw [if_pos c, if_pos c]
    exact congrArg fb (cop_congr .mul (same_at ha k) (same_at hb k))
  rw [if_neg c, if_neg c]
  clear c
  by_cases c : op = 5
  · rw [if_pos c, if_pos c]
    exact congrArg fb (cop_congr .quo (same_at ha k) (same_at hb k))
  rw [if_neg c, if_neg c]
  clear c
  by_cases c : op = 6
  · rw [if_pos c, if_pos c]
    exact neg_congr (getD_lt la k) (getD_lt la' k) (same_at ha k)
  rw [if_neg c, if_neg c]
  clear c
  by_cases c : op = 7
  · rw [if_pos c, if_pos c]
    exact greater_congr (same_at ha k) (same_at hb k)
  rw [if_neg c, if_neg c]
  clear c
  by_cases c : op = 8
  · rw [if_pos c, if_pos c]
    exact chosen_congr (same_at ha k) (same_at hb k) (same_at hc k)
  rw [if_neg c, if_neg c]
  clear c
  by_cases c : op = 9
  · rw [if_pos c, if_pos c]
    exact csum_congr ha (h9 c)
  rw [if_neg c, if_neg c]
  clear c
  by_cases c : op = 10
  · rw [if_pos c, if_pos c]
    exact same_at ha 0
  rw [if_neg c, if_neg c]
  clear c
  by_cases c : op = 11
  · rw [if_pos c, if_pos c]
    exact same_at ha _
  rw [if_neg c, if_neg c]
  clear c
  by_cases c : op = 12
  · rw [if_pos c, if_pos c]
    by_cases d : k = C.toNat
    · rw [if_pos d, if_pos d]
      exact same_at ha 0
    · rw [if_neg d, if_neg d]
  rw [if_neg c, if_neg c]
  exact exp_congr (same_at ha k)
theorem kern_congr {op len C : Int} {K : Nat} {xa xb xc ya yb yc : List Nat} (ha : same xa ya) (hb : same xb yb) (hc : same xc yc) (la : ∀ x ∈ xa, x < 18446744073709551616) (la' : ∀ x ∈ ya, x < 18446744073709551616) :
    same (kern op len C K xa xb xc) (kern op len C K ya yb yc) := by
  unfold kern
  rw [← same_len ha, ← same_len hb, ← same_len hc]
  cases hf : fitB op len C xa.length xb.length xc.length
  · rfl
  · rw [if_pos rfl, if_pos rfl]
    refine same_of (by simp) fun k hk => ?_
    have hk' : k < len.toNat := by simpa using hk
    have e := elem_congr (op := op) (C := C) (K := K) (k := k) ha hb hc la la' (fun h9 => fit_sum hf h9)
    simpa [List.getD_eq_getElem?_getD, hk'] using e
theorem same_refl (xs : List Nat) : same xs xs := rfl
theorem same_trans {xs ys zs : List Nat} (h : same xs ys) (h' : same ys zs) : same xs zs := Eq.trans h h'
theorem same_symm {xs ys : List Nat} (h : same xs ys) : same ys xs := Eq.symm h

/-! What a graph means. -/
/-- The elements of value v, from those of the values before it. -/
def one (xss : List (List Nat)) (v : Vl) (Vs : List (List Nat)) : List Nat :=
  if v.op = 0 then xss.getD v.a.toNat [] else
    kern v.op v.len v.c v.k (if 0 < cnt v.op then Vs.getD v.a.toNat [] else []) (if 1 < cnt v.op then Vs.getD v.b.toNat [] else []) (if 2 < cnt v.op then Vs.getD v.c.toNat [] else [])
/-- The elements of the first i values. -/
def valsTo (xss : List (List Nat)) (vs : List Vl) : Nat → List (List Nat)
  | 0 => []
  | i + 1 => valsTo xss vs i ++ [one xss (vs.getD i Vl.zero) (valsTo xss vs i)]
theorem valsTo_len (xss : List (List Nat)) (vs : List Vl) : ∀ i, (valsTo xss vs i).length = i
  | 0 => rfl
  | i + 1 => by rw [valsTo, List.length_append, valsTo_len xss vs i]; rfl
theorem valsTo_lt (xss : List (List Nat)) (vs : List Vl) {i j : Nat} (h : j < i) : (valsTo xss vs (i + 1)).getD j [] = (valsTo xss vs i).getD j [] := by
  rw [valsTo, List.getD_eq_getElem?_getD, List.getElem?_append_left (by rw [valsTo_len]; exact h), ← List.getD_eq_getElem?_getD]
theorem valsTo_at (xss : List (List Nat)) (vs : List Vl) (i : Nat) : (valsTo xss vs (i + 1)).getD i [] = one xss (vs.getD i Vl.zero) (valsTo xss vs i) := by
  rw [valsTo, List.getD_eq_getElem?_getD, List.getElem?_append_right (by rw [valsTo_len]; exact Nat.le_refl _), valsTo_len, Nat.sub_self]; rfl
theorem valsTo_le (xss : List (List Nat)) (vs : List Vl) {i j : Nat} : ∀ n, j < i → (valsTo xss vs (i + n)).getD j [] = (valsTo xss vs i).getD j []
  | 0, _ => rfl
  | n + 1, h => by rw [← Nat.add_assoc, valsTo_lt _ _ (by omega)]; exact valsTo_le xss vs n h

/-- Whether the inputs are as many and as long as the graph says. -/
def inB (ins : List Int) (xss : List (List Nat)) : Bool := decide (xss.length = ins.length) && (List.range ins.length).all fun i => ((xss.getD i []).length : Int) == ins.getD i 0
theorem kern_len {op len C : Int} {K : Nat} {xa xb xc : List Nat} (h : fitB op len C xa.length xb.length xc.length = true) : (kern op len C K xa xb xc).length = len.toNat := by
  unfold kern; rw [if_pos h]; simp

/-- In a valid graph with inputs that fit every value has its length. -/
theorem vals_len {ins : List Int} {vs : List Vl} {xss : List (List Nat)} (hi : inB ins xss = true) : ∀ i, (List.range i).all (okV ins vs) = true → ∀ j, j < i → (((valsTo xss vs i).getD j []).length : Int) = (vs.getD j Vl.zero).len
  | 0, _, j, hj => by omega
  | i + 1, h, j, hj => by
    have hr : (List.range i).all (okV ins vs) = true := by rw [List.range_succ, List.all_append] at h; rw [Bool.and_eq_true] at h; exact h.1
    have ih := vals_len hi i hr
    by_cases e : j < i
    · rw [valsTo_lt _ _ e]; exact ih j e
    · have : j = i := by omega
      subst this
      rw [valsTo_at]
      have ho : okV ins vs j = true := List.all_eq_true.1 h j (List.mem_range.2 (Nat.lt_succ_self _))
      have hlen := okV_len ho
      unfold okV at ho
      generalize vs.getD j Vl.zero = v at ho hlen ⊢
      rw [Bool.and_eq_true, Bool.and_eq_true] at ho
      obtain ⟨⟨h1, h2⟩, h3⟩ := ho
      unfold one
      by_cases h0 : v.op = 0
      · rw [if_pos h0] at h3 ⊢
        rw [Bool.and_eq_true] at h3
        have ha := of_decide_eq_true h3.1
        unfold inB at hi
        rw [Bool.and_eq_true] at hi
        have hx := List.all_eq_true.1 hi.2 v.a.toNat (List.mem_range.2 (by omega))
        rw [beq_iff_eq.1 hx]
        exact (beq_iff_eq.1 h3.2).symm
      · rw [if_neg h0] at h3 ⊢
        rw [Bool.and_eq_true] at h3
        have hq := h3.1
        have hs := h3.2
        have hc := cnt_le v.op
        have key : ∀ o, idxB o j = true → (((valsTo xss vs j).getD o.toNat []).length : Int) = (vs.getD o.toNat Vl.zero).len := fun o ho => by
          have := of_decide_eq_true ho
          exact ih o.toNat (by omega)
        rw [kern_len]
        · omega
        · unfold fitB
          rw [h1, Bool.true_and]
          unfold opsOf at hq hs
          rcases (by omega : cnt v.op = 0 ∨ cnt v.op = 1 ∨ cnt v.op = 2 ∨ cnt v.op = 3) with e | e | e | e
          · rw [e] at hs ⊢; exact hs
          · rw [e] at hq hs ⊢
            simp only [List.take_succ_cons, List.take_zero, List.all_cons, List.all_nil, Bool.and_true, List.map_cons, List.map_nil] at hq hs ⊢
            rw [if_pos (by omega), key _ hq]
            exact hs
          · rw [e] at hq hs ⊢
            simp only [List.take_succ_cons, List.take_zero, List.all_cons, List.all_nil, Bool.and_true, Bool.and_eq_true, List.map_cons, List.map_nil] at hq hs ⊢
            rw [if_pos (by omega), if_pos (by omega), key _ hq.1, key _ hq.2]
            exact hs
          · rw [e] at hq hs ⊢
            simp only [List.take_succ_cons, List.take_zero, List.all_cons, List.all_nil, Bool.and_true, Bool.and_eq_true, List.map_cons, List.map_nil] at hq hs ⊢
            rw [if_pos (by omega), if_pos (by omega), if_pos (by omega), key _ hq.1, key _ hq.2.1, key _ hq.2.2]
            exact hs
end Go.Proofs.Ytcphabjekfihnaa

namespace Go.Proofs.Ytcphabjekfihnaa
open Go.RowKit Flt
attribute [local go_sem] alloc_drewN setCell_drewN run_store_float

set_option maxRecDepth 100000 in
set_option maxHeartbeats 2000000 in
theorem inputsFit (w : World) (lo hi : Nat) (a b : Option Addr) (n m ca cb : Nat) (ins : List Int) (xss : List (List Nat)) (f : IS w lo hi a n ins) (g : SS w b m xss) (hn : n ≤ 1099511627776) :
    Calls Try.prog 110 #[.slice a n ca, .slice b m cb] w fun e w' => e = .returned (.bool (inB ins xss)) ∧ Drawn w w' := by
  have HF : Hid _ := f
  have HG : Hid _ := g
  have HL : Hid (ins.length = n ∧ xss.length = m) := ⟨f.len, g.len⟩
  clear f g
  by_cases hnm : m = n
  · subst hnm
    go_enter Try.func110, Try.ntmps110
    go_wp2_with fail
    go_loop [14] (fun i => ∃ k : Nat, k ≤ m ∧ i = .int .i64 k ∧ Hid ((List.range k).all (fun i => ((xss.getD i []).length : Int) == ins.getD i 0) = true)) (fun i => m - (intOf i).toNat)
    case atStart => exact ⟨0, Nat.zero_le _, rfl, rfl⟩
    case round =>
      obtain ⟨k, hk, rfl, hA⟩ := hrel
      by_cases hlt : k < m
      · rcases HF.out.at_ with z0 | ⟨ga, oa, ea, z1, z2, z3, z4⟩
        · omega
        rcases HG.out.at_ with z0 | ⟨gb, ob, eb, y1, y2⟩
        · omega
        have c1 := z4 k hlt
        obtain ⟨b2, cc2, c2, _, _⟩ := y2 k hlt
        subst ea eb
        clear z1 z2 z3 z4 y1 y2
        cases hx : (((xss.getD k []).length : Int) == ins.getD k 0)
        · have R : Hid (inB ins xss = false) := by
            show inB ins xss = false
            unfold inB
            rw [HL.out.1, range_bad (p := fun i => ((xss.getD i []).length : Int) == ins.getD i 0) hlt hx, Bool.and_false]
          have hx' : (((xss.getD k []).length : Int) != ins.getD k 0) = true := by rw [bne, hx]; rfl
          generalize (xss.getD k []).length = y at c2 hx'
          generalize ins.getD k 0 = x at c1 hx'
          clear hx hA
          go_wp2
          go_ret
          exact ⟨by rw [R.out]; rfl, Drawn.refl _⟩
        · have R : Hid _ := range_snoc (p := fun i => ((xss.getD i []).length : Int) == ins.getD i 0) hA.out hx
          have hx' : (((xss.getD k []).length : Int) != ins.getD k 0) = false := by rw [bne, hx]; rfl
          generalize (xss.getD k []).length = y at c2 hx'
          generalize ins.getD k 0 = x at c1 hx'
          clear hx hA
          go_wp2
          go_round
          case rel => exact ⟨k + 1, by omega, by go_num, R⟩
          case measure => simp [intOf]; omega
      · have R : Hid (inB ins xss = true) := by
          have h1 := hA.out
          rw [show k = m by omega] at h1
          show inB ins xss = true
          unfold inB
          rw [HL.out.1, HL.out.2, h1, decide_eq_true rfl]; rfl
        clear hA
        go_wp2
        go_ret
        exact ⟨by rw [R.out]; rfl, Drawn.refl _⟩
  · have e : inB ins xss = false := by
      unfold inB
      rw [HL.out.1, HL.out.2, decide_eq_false hnm, Bool.false_and]
    rw [e]
    have t : ((m : Int) != (n : Int)) = true := by simp; omega
    go_enter Try.func110, Try.ntmps110
    go_wp2
    go_ret
    exact ⟨rfl, Drawn.refl _⟩

theorem FO.of_own {W : World} {base n : Nat} {v : Value} {xs : List Nat} (h : W.ownsRow base 23 1 v n (xs.map (Value.float .f64))) (hn : 0 < n) (hl : xs.length = n) (hb : ∀ x ∈ xs, x < 18446744073709551616) :
    ∃ g cap, v = .slice (some ⟨g, 0, none⟩) n cap ∧ base ≤ g ∧ n ≤ cap ∧ FO W g n xs := by
  rcases h.2 with ⟨_, c⟩ | ⟨g, cap, cur, rfl, b1, b2, b3, _, b5, b6⟩
  · omega
  · have hg : g < W.heap.size := by
      rcases Nat.lt_or_ge g W.heap.size with c | c
      · exact c
      · rw [Array.getElem?_eq_none c] at b2; cases b2
    refine ⟨g, cap, rfl, b1, b3, hl, hb, hg, fun j hj => ?_, fun o => frozen_of_row W g o _ _ b2⟩
    rw [cell_of_row W g _ cur _ _ b2, ← Array.getElem?_toList]
    have : (cur.toList.take (n * 1))[j]? = (xs.map (Value.float .f64))[j]? := by rw [b6]
    rw [List.getElem?_take_of_lt (by omega)] at this
    rw [this, List.getElem?_map, List.getElem?_eq_getElem (by omega : j < xs.length)]
    simp [List.getD_eq_getElem?_getD, List.getElem?_eq_getElem (by omega : j < xs.length)]
theorem news_of {w : World} {g off n : Nat} {xs : List Nat} (hx : xs.length = n) (hc : ∀ k, k < n → w.cell? ⟨g, off + k, none⟩ = some (.float .f64 (xs.getD k 0))) :
    ∀ j u, (xs.map (Value.float .f64))[j]? = some u → w.cell? ((⟨g, off, none⟩ : Addr).add j) = some u := fun j u hu => by
  have hj : j < n := by
    rcases Nat.lt_or_ge j n with c | c
    · exact c
    · rw [List.getElem?_eq_none (by simp; omega)] at hu; cases hu
  have h1 := hc j hj
  have e : (⟨g, off, none⟩ : Addr).add j = ⟨g, off + j, none⟩ := by
    unfold Addr.add
    split
    · rename_i h0; rw [h0]; rfl
    · rfl
  rw [e, h1]
  rw [List.getElem?_map, List.getElem?_eq_getElem (by omega : j < xs.length)] at hu
  simp only [Option.map_some] at hu
  rw [← hu, List.getD_eq_getElem?_getD, List.getElem?_eq_getElem (by omega : j < xs.length)]; rfl
theorem grown_kept {w w' : World} {row : Option Nat} {base : Nat} (h : w.grownBy w' row) (hr : ∀ k, row = some k → base ≤ k) {w0 : World} (k : Kept 0 0 w0 w) (hb : w0.heap.size ≤ base) : Kept 0 0 w0 w' :=
  ⟨h.os.trans k.os, h.tape.trans k.tape, h.output.trans k.output, Nat.le_trans k.size h.size, fun i hi _ => by
    rw [h.block i (Nat.lt_of_lt_of_le hi k.size) (fun c => by have := hr i c.symm; omega)]
    exact k.block i hi (by omega)⟩

set_option maxRecDepth 100000 in
set_option maxHeartbeats 2000000 in
theorem clone (w : World) (g off n c : Nat) (xs : List Nat) (hn : 1 ≤ n) (hn2 : n ≤ 1000000) (hg : g < w.heap.size) (hx : xs.length = n) (hlt : ∀ x ∈ xs, x < 18446744073709551616) (hc : ∀ k, k < n → w.cell? ⟨g, off + k, none⟩ = some (.float .f64 (xs.getD k 0))) :
    Calls Try.prog 112 #[.slice (some ⟨g, off, none⟩) n c] w fun e w' => ∃ G cap, e = .returned (.slice (some ⟨G, 0, none⟩) n cap) ∧ n ≤ cap ∧ FO w' G n xs ∧ w.heap.size ≤ G ∧ Kept 0 0 w w' := by
  obtain ⟨i0, hi, hz0, hz1, hz2⟩ := info_parts infoF
  have heq : (binOp .eql 38 (.slice (some ⟨g, off, none⟩) n c) (.slice none 0 0)).run Try.prog w = .ok (.bool false) w := by
    simp only [binOp]
    simp [run_equal_slice_nil w 38 23 (some ⟨g, off, none⟩) n c Try.underlying38]
  have ka := kept_alloc 0 0 w (.cells #[] 23)
  have HN : Hid _ := news_of (w := w.alloc (.cells #[] 23)) (g := g) (off := off) hx (fun k hk => kcell ka hg (hc k hk))
  have HO : Hid _ := World.ownsRow_made (base := w.heap.size) (e := 23) (size := 1) w #[] 0 (Nat.le_refl _) (by unfold maxLen; omega) rfl
  have HKA : Hid _ := ka
  have HX : Hid (xs.length = n) := hx
  have HLT : Hid _ := hlt
  clear hc hx hlt ka
  go_enter Try.func112, Try.ntmps112
  go_wp2_with (first | (at_builtin; refine wpList_append_own _ rfl _ _ 38 rfl w.heap.size 23 i0 (.float .f64 0) 1 8 Try.underlying38 hi hz0 hz1 hz2 rfl (by decide) _ _ _ rfl HO.out ⟨g, off, none⟩ n c (xs.map (Value.float .f64)) rfl ?c0 HN.out ?c2 ?c3 ?c4 ?c5 ?_))
  case c0 => exact HX.out
  case c2 => intro u hu; rfl
  case c3 => unfold maxLen; omega
  case c4 => omega
  intro v' w9 hown9 hg9 _
  obtain ⟨G, cap, rfl, b1, b2, b3⟩ := FO.of_own hown9 (by omega) HX.out HLT.out
  have R : Hid _ := grown_kept (base := w.heap.size) hg9 (fun k hk => by have : w.heap.size = k := (by simpa [Value.ownBlock] using hk); omega) HKA.out (Nat.le_refl _)
  clear hown9 hg9
  go_wp2
  go_ret
  exact ⟨G, cap, rfl, b2, b3, b1, R.out⟩
/-- One cell of a list of lists: a slice of floats that is the same as xs. -/
def Cl (w : World) (v : Value) (xs : List Nat) : Prop := ∃ b n c zs, v = .slice b n c ∧ n ≤ c ∧ FS w 0 w.heap.size b n zs ∧ same zs xs
theorem Cl.keep {w w' : World} {v : Value} {xs : List Nat} (h : Cl w v xs) (k : Kept 0 0 w w') : Cl w' v xs := by
  obtain ⟨b, n, c, zs, h1, h2, h3, h4⟩ := h
  exact ⟨b, n, c, zs, h1, h2, h3.keep0 k, h4⟩
theorem Cl.nil (w : World) : Cl w (.slice none 0 0) [] := ⟨none, 0, 0, [], rfl, Nat.le_refl _, ⟨rfl, by simp, .inl rfl⟩, rfl⟩

/-- As a cell, and in a block from lo on. -/
def Cn (w : World) (lo : Nat) (v : Value) (xs : List Nat) : Prop := ∃ b n c zs, v = .slice b n c ∧ n ≤ c ∧ FS w lo w.heap.size b n zs ∧ same zs xs
theorem Cn.cl {w : World} {lo : Nat} {v : Value} {xs : List Nat} (h : Cn w lo v xs) : Cl w v xs := by
  obtain ⟨b, n, c, zs, h1, h2, h3, h4⟩ := h
  exact ⟨b, n, c, zs, h1, h2, h3.mono (Nat.zero_le _) (Nat.le_refl _), h4⟩
/-- impl.Kernel and spec.Kernel on cells. -/
theorem implKernelN (w : World) (v : Vl) (hK : v.k < 18446744073709551616) (x y z : Value) (xa xb xc : List Nat) (ha : Cl w x xa) (hb : Cl w y xb) (hc : Cl w z xc) (la : ∀ q ∈ xa, q < 18446744073709551616) :
    Calls Try.prog 31 #[v.agg, x, y, z] w fun e w' => ∃ u, e = .returned u ∧ Cn w' w.heap.size u (kern v.op v.len v.c v.k xa xb xc) ∧ Kept 0 0 w w' := by
  obtain ⟨a, na, ca, za, rfl, a1, a2, a3⟩ := ha
  obtain ⟨b, nb, cb, zb, rfl, b1, b2, b3⟩ := hb
  obtain ⟨c, nc, cc, zc, rfl, c1, c2, c3⟩ := hc
  refine (implKernel' w v.op v.len v.a v.b v.c v.k hK a2 b2 c2 a1).mono ?_
  rintro e w' ⟨a', n, cap, zs, rfl, ho, hs, hk, hn⟩
  exact ⟨_, rfl, ⟨a', n, cap, zs, rfl, hn, ho.fs, same_trans hs (kern_congr a3 b3 c3 a2.lt la)⟩, hk⟩
theorem implKernelC (w : World) (v : Vl) (hK : v.k < 18446744073709551616) (x y z : Value) (xa xb xc : List Nat) (ha : Cl w x xa) (hb : Cl w y xb) (hc : Cl w z xc) (la : ∀ q ∈ xa, q < 18446744073709551616) :
    Calls Try.prog 31 #[v.agg, x, y, z] w fun e w' => ∃ u, e = .returned u ∧ Cl w' u (kern v.op v.len v.c v.k xa xb xc) ∧ Kept 0 0 w w' :=
  (implKernelN w v hK x y z xa xb xc ha hb hc la).mono fun _ _ ⟨u, h1, h2, h3⟩ => ⟨u, h1, h2.cl, h3⟩
theorem specKernelC (w : World) (v : Vl) (hK : v.k < 18446744073709551616) (x y z : Value) (xa xb xc : List Nat) (ha : Cl w x xa) (hb : Cl w y xb) (hc : Cl w z xc) (la : ∀ q ∈ xa, q < 18446744073709551616) :
    Calls Try.prog 28 #[v.agg, x, y, z] w fun e w' => ∃ u, e = .returned u ∧ Cn w' w.heap.size u (kern v.op v.len v.c v.k xa xb xc) ∧ Kept 0 0 w w' := by
  obtain ⟨a, na, ca, za, rfl, a1, a2, a3⟩ := ha
  obtain ⟨b, nb, cb, zb, rfl, b1, b2, b3⟩ := hb
  obtain ⟨c, nc, cc, zc, rfl, c1, c2, c3⟩ := hc
  refine (specKernel' w v.op v.len v.a v.b v.c v.k hK a2 b2 c2 a1).mono ?_
  rintro e w' ⟨a', n, cap, zs, rfl, ho, hs, hk, hn⟩
  exact ⟨_, rfl, ⟨a', n, cap, zs, rfl, hn, ho, same_trans hs (kern_congr a3 b3 c3 a2.lt la)⟩, hk⟩

/-! Elements are words of 64 bits. -/
theorem cop_lt (op : BinOp) (x y : Nat) : cop op x y < 18446744073709551616 := by
  unfold cop
  cases h : floatBits op .f64 x y with
  | none => decide
  | some r =>
    have := floatBits_wf h
    simpa [Lit.wf] using this
theorem cexp_lt {x : Nat} (hx : x < 18446744073709551616) : cexp x < 18446744073709551616 := by
  unfold cexp
  split
  · exact hx
  · split
    · decide
    · split
      · decide
      · exact cop_lt _ _ _
theorem fold_lt : ∀ (xs : List Nat) (x : Nat), x < 18446744073709551616 → xs.foldl (cop .add) x < 18446744073709551616
  | [], _, h => h
  | y :: ys, x, _ => fold_lt ys (cop .add x y) (cop_lt _ _ _)
theorem csum_lt {xs : List Nat} (h : ∀ x ∈ xs, x < 18446744073709551616) : csum xs < 18446744073709551616 := by
  cases xs with
  | nil => decide
  | cons x r => exact fold_lt r x (h x (by simp))
theorem ite_b {p : Prop} [Decidable p] {x y : Nat} (hx : x < 18446744073709551616) (hy : y < 18446744073709551616) : (if p then x else y) < 18446744073709551616 := by
  split
  · exact hx
  · exact hy
theorem elem_lt {op C : Int} {K : Nat} {xa xb xc : List Nat} (hK : K < 18446744073709551616) (ha : ∀ x ∈ xa, x < 18446744073709551616) (hb : ∀ x ∈ xb, x < 18446744073709551616) (hc : ∀ x ∈ xc, x < 18446744073709551616) (k : Nat) : elem op C K xa xb xc k < 18446744073709551616 := by
  have a0 := getD_lt ha
  have b0 := getD_lt hb
  have c0 := getD_lt hc
  unfold elem greaterN chosenN
  exact ite_b hK (ite_b (cop_lt _ _ _) (ite_b (cop_lt _ _ _) (ite_b (cop_lt _ _ _) (ite_b (cop_lt _ _ _) (ite_b (negf_lt (a0 _)) (ite_b (ite_b (a0 _) (b0 _)) (ite_b (ite_b (b0 _) (c0 _)) (ite_b (csum_lt ha) (ite_b (a0 _) (ite_b (a0 _) (ite_b (ite_b (a0 _) (by decide)) (cexp_lt (a0 _)))))))))))))
theorem kern_lt {op len C : Int} {K : Nat} {xa xb xc : List Nat} (hK : K < 18446744073709551616) (ha : ∀ x ∈ xa, x < 18446744073709551616) (hb : ∀ x ∈ xb, x < 18446744073709551616) (hc : ∀ x ∈ xc, x < 18446744073709551616) : ∀ x ∈ kern op len C K xa xb xc, x < 18446744073709551616 := by
  unfold kern
  split
  · intro x hx
    obtain ⟨k, _, rfl⟩ := List.mem_map.1 hx
    exact elem_lt hK ha hb hc k
  · intro x hx; cases hx
/-- A list of lists of words. -/
def Words (xss : List (List Nat)) : Prop := ∀ k, ∀ x ∈ xss.getD k [], x < 18446744073709551616
theorem ite_lt {p : Prop} [Decidable p] {xs : List Nat} (h : ∀ x ∈ xs, x < 18446744073709551616) : ∀ x ∈ (if p then xs else []), x < 18446744073709551616 := by
  split
  · exact h
  · intro x hx; cases hx
theorem one_lt {xss : List (List Nat)} {v : Vl} {Vs : List (List Nat)} (hx : Words xss) (hv : v.k < 18446744073709551616) (hV : Words Vs) : ∀ x ∈ one xss v Vs, x < 18446744073709551616 := by
  unfold one
  split
  · exact hx _
  · exact kern_lt hv (ite_lt (hV _)) (ite_lt (hV _)) (ite_lt (hV _))
theorem vals_lt {xss : List (List Nat)} {vs : List Vl} (hx : Words xss) (hv : ∀ k, (vs.getD k Vl.zero).k < 18446744073709551616) : ∀ i, Words (valsTo xss vs i)
  | 0 => fun k x h => by simp [valsTo] at h
  | i + 1 => fun k x h => by
    have ih := vals_lt hx hv i
    rcases Nat.lt_trichotomy k i with c | c | c
    · rw [valsTo_lt xss vs c] at h; exact ih k x h
    · subst c; rw [valsTo_at] at h; exact one_lt hx (hv _) ih x h
    · rw [List.getD_eq_getElem?_getD, List.getElem?_eq_none (by rw [valsTo_len]; omega)] at h; cases h
end Go.Proofs.Ytcphabjekfihnaa

namespace Go.Proofs.Ytcphabjekfihnaa
open Go.RowKit Flt
attribute [local go_sem] alloc_drewN setCell_drewN run_store_float

theorem FS.setS {w : World} {lo hi : Nat} {a : Option Addr} {n : Nat} {xs : List Nat} (f : FS w lo hi a n xs) {g k : Nat} {u : Value} (hc : w.cell? ⟨g, k, none⟩ = some u) (hu : ∀ x, u ≠ .float .f64 x) (v : Value) : FS (w.setCell ⟨g, k, none⟩ v) lo hi a n xs :=
  ⟨f.len, f.lt, by
    rcases f.at_ with h0 | ⟨g', off, e, h1, h2, h3, h4⟩
    · exact .inl h0
    · refine .inr ⟨g', off, e, h1, h2, by simpa using h3, fun j hj => ?_⟩
      by_cases c : g = g' ∧ k = off + j
      · obtain ⟨rfl, rfl⟩ := c
        have := h4 j hj
        rw [hc] at this
        injection this with this
        exact absurd this (hu _)
      · rw [cell_ne _ _ _ _ _ _ (by omega)]; exact h4 j hj⟩
theorem Cl.setS {w : World} {y : Value} {xs : List Nat} (f : Cl w y xs) {g k : Nat} {u : Value} (hc : w.cell? ⟨g, k, none⟩ = some u) (hu : ∀ x, u ≠ .float .f64 x) (v : Value) : Cl (w.setCell ⟨g, k, none⟩ v) y xs := by
  obtain ⟨b, n, c, zs, h1, h2, h3, h4⟩ := f
  exact ⟨b, n, c, zs, h1, h2, (h3.setS hc hu v).mono (Nat.le_refl _) (by simp), h4⟩
theorem not_float_slice (b : Option Addr) (n c : Nat) : ∀ x, (Value.slice b n c) ≠ .float .f64 x := fun _ h => by cases h

/-- The lists of a graph's values, in a block of the call's own, the first k of n laid. -/
structure LV (w : World) (g n k : Nat) (Vs : List (List Nat)) : Prop where
  lt : g < w.heap.size
  free : ∀ o, w.frozen? ⟨g, o, none⟩ = false
  at_ : ∀ j, j < n → ∃ b m c, w.cell? ⟨g, j, none⟩ = some (.slice b m c) ∧ (j < k → Cl w (.slice b m c) (Vs.getD j []))
theorem LV.keep {w w' : World} {g n k : Nat} {Vs : List (List Nat)} (f : LV w g n k Vs) (q : Kept 0 0 w w') : LV w' g n k Vs :=
  ⟨Nat.lt_of_lt_of_le f.lt q.size, fun o => by rw [q.frozen (p := ⟨g, o, none⟩) f.lt (by omega)]; exact f.free o, fun j hj => by
    obtain ⟨b, m, c, h1, h2⟩ := f.at_ j hj
    exact ⟨b, m, c, kcell q f.lt h1, fun h => (h2 h).keep q⟩⟩
theorem LV.made (w : World) (n : Nat) (Vs : List (List Nat)) : LV (w.alloc (.cells (madeCells #[.slice none 0 0] n) 38)) w.heap.size n 0 Vs where
  lt := by simp
  free := fun o => by simp
  at_ := fun j hj => by
    rw [World.cell?_alloc_new]
    refine ⟨none, 0, 0, ?_, fun h => absurd h (Nat.not_lt_zero _)⟩
    simp only [madeCells]
    rw [Array.getElem?_map, Array.getElem?_range, if_pos hj]
    have hm : j % 1 = 0 := Nat.mod_one j
    simp [hm]
theorem LV.step {w w' : World} {g n k : Nat} {xss : List (List Nat)} {vs : List Vl} (f : LV w g n k (valsTo xss vs k)) (hk : k < n) (q : Kept 0 0 w w') {b : Option Addr} {m c : Nat} (hu : Cl w' (.slice b m c) (one xss (vs.getD k Vl.zero) (valsTo xss vs k))) :
    LV (w'.setCell ⟨g, k, none⟩ (.slice b m c)) g n (k + 1) (valsTo xss vs (k + 1)) := by
  have f' := f.keep q
  obtain ⟨b0, m0, c0, hc, _⟩ := f'.at_ k hk
  refine ⟨by simpa using f'.lt, fun o => by simp [f'.free o], fun j hj => ?_⟩
  by_cases e : j = k
  · subst e
    exact ⟨b, m, c, cell_eq _ _ _ _ _ hc, fun _ => by rw [valsTo_at]; exact hu.setS hc (not_float_slice _ _ _) _⟩
  · obtain ⟨b1, m1, c1, h1, h2⟩ := f'.at_ j hj
    refine ⟨b1, m1, c1, by rw [cell_ne _ _ _ _ _ _ (.inr (Ne.symm e))]; exact h1, fun h => ?_⟩
    rw [valsTo_lt _ _ (by omega)]
    exact (h2 (by omega)).setS hc (not_float_slice _ _ _) _
theorem range_getD {n j : Nat} (F : Nat → List Nat) (h : j < n) : ((List.range n).map F).getD j [] = F j := by
  simp [List.getD_eq_getElem?_getD, h]
theorem LV.ss {w : World} {g n : Nat} {Vs : List (List Nat)} (f : LV w g n n Vs) : ∃ zss, SS w (some ⟨g, 0, none⟩) n zss ∧ ∀ j, j < n → same (zss.getD j []) (Vs.getD j []) := by
  have h : ∀ j, ∃ zs : List Nat, j < n → ∃ b c, w.cell? ⟨g, j, none⟩ = some (.slice b zs.length c) ∧ zs.length ≤ c ∧ FS w 0 w.heap.size b zs.length zs ∧ same zs (Vs.getD j []) := fun j => by
    by_cases hj : j < n
    · obtain ⟨b, m, c, h1, h2⟩ := f.at_ j hj
      obtain ⟨b', n', c', zs, e, a1, a2, a3⟩ := h2 hj
      cases e
      have e := a2.len
      subst e
      exact ⟨zs, fun _ => ⟨b, c, h1, a1, a2, a3⟩⟩
    · exact ⟨[], fun c => absurd c hj⟩
  obtain ⟨F, hF⟩ := Classical.axiomOfChoice h
  refine ⟨(List.range n).map F, ⟨by simp, .inr ⟨g, 0, rfl, f.lt, fun k hk => ?_⟩⟩, fun j hj => ?_⟩
  · rw [range_getD F hk, Nat.zero_add]
    obtain ⟨b, c, a1, a2, a3, _⟩ := hF k hk
    exact ⟨b, c, a1, a2, a3⟩
  · rw [range_getD F hj]
    obtain ⟨b, c, _, _, _, a4⟩ := hF j hj
    exact a4
end Go.Proofs.Ytcphabjekfihnaa

namespace Go.Proofs.Ytcphabjekfihnaa
open Go.RowKit Flt
attribute [local go_sem] alloc_drewN setCell_drewN run_store_float

theorem own_keep {base e size n : Nat} {v : Value} {xs : List Value} {W W' : World} (h : W.ownsRow base e size v n xs) (k : Kept 0 0 W W') : W'.ownsRow base e size v n xs := by
  refine ⟨h.1, h.2.imp id ?_⟩
  rintro ⟨g, cap, cur, e1, b1, b2, b3⟩
  refine ⟨g, cap, cur, e1, b1, ?_, b3⟩
  have hg : g < W.heap.size := by
    rcases Nat.lt_or_ge g W.heap.size with c | c
    · exact c
    · rw [Array.getElem?_eq_none c] at b2; cases b2
  rw [k.block g hg (by omega)]
  exact b2
theorem FS.grown {W W' : World} {row : Option Nat} {b : Option Addr} {n : Nat} {zs : List Nat} (f : FS W 0 W.heap.size b n zs) (hg : W.grownBy W' row) (hne : 0 < n → ∀ p, b = some p → row ≠ some p.block) : FS W' 0 W'.heap.size b n zs :=
  ⟨f.len, f.lt, by
    rcases f.at_ with h0 | ⟨g', off, e, h1, h2, h3, h4⟩
    · exact .inl h0
    · refine .inr ⟨g', off, e, h1, Nat.lt_of_lt_of_le h3 hg.size, Nat.lt_of_lt_of_le h3 hg.size, fun j hj => ?_⟩
      rw [hg.cell_far ⟨g', off + j, none⟩ h3 (fun c => hne (by omega) _ e c.symm)]
      exact h4 j hj⟩
theorem Cl.grown {W W' : World} {row : Option Nat} {b : Option Addr} {n c : Nat} {xs : List Nat} (f : Cl W (.slice b n c) xs) (hg : W.grownBy W' row) (hne : 0 < n → ∀ p, b = some p → row ≠ some p.block) : Cl W' (.slice b n c) xs := by
  obtain ⟨b', n', c', zs, e, h2, h3, h4⟩ := f
  cases e
  exact ⟨b, n, c, zs, rfl, h2, h3.grown hg hne, h4⟩
theorem Cl.lt {W : World} {b : Option Addr} {n c : Nat} {xs : List Nat} (f : Cl W (.slice b n c) xs) (hn : 0 < n) (p : Addr) (hp : b = some p) : p.block < W.heap.size := by
  obtain ⟨b', n', c', zs, e, h2, h3, h4⟩ := f
  cases e
  rcases h3.at_ with h0 | ⟨g', off, e, h1, h2, h3, h4⟩
  · omega
  · rw [e] at hp; cases hp; exact h3
theorem Cn.ge {W : World} {lo : Nat} {b : Option Addr} {n c : Nat} {xs : List Nat} (f : Cn W lo (.slice b n c) xs) (hn : 0 < n) (p : Addr) (hp : b = some p) : lo ≤ p.block := by
  obtain ⟨b', n', c', zs, e, h2, h3, h4⟩ := f
  cases e
  rcases h3.at_ with h0 | ⟨g', off, e, h1, h2, h3, h4⟩
  · omega
  · rw [e] at hp; cases hp; exact h1

/-- A list of lists of floats that grows by append, in the call's own blocks. -/
def AR (W : World) (base : Nat) (v : Value) (k : Nat) (Vs : List (List Nat)) : Prop :=
  ∃ us : List Value, W.ownsRow base 38 1 v k us ∧ ∀ j, j < k → ∃ b n c, us[j]? = some (.slice b n c) ∧ Cl W (.slice b n c) (Vs.getD j []) ∧ (0 < n → ∀ p, b = some p → v.ownBlock ≠ some p.block)
theorem AR.nil (W : World) (base : Nat) (Vs : List (List Nat)) : AR W base (.slice none 0 0) 0 Vs := ⟨[], World.ownsRow_nil _ _ _ _, fun _ hj => absurd hj (Nat.not_lt_zero _)⟩
theorem AR.keep {W W' : World} {base k : Nat} {v : Value} {Vs : List (List Nat)} (f : AR W base v k Vs) (q : Kept 0 0 W W') : AR W' base v k Vs := by
  obtain ⟨us, h1, h2⟩ := f
  refine ⟨us, own_keep h1 q, fun j hj => ?_⟩
  obtain ⟨b, n, c, a1, a2, a3⟩ := h2 j hj
  exact ⟨b, n, c, a1, a2.keep q, a3⟩
theorem AR.cell {W : World} {base k : Nat} {v : Value} {Vs : List (List Nat)} (f : AR W base v k Vs) (hk : 0 < k) :
    ∃ g cap, v = .slice (some ⟨g, 0, none⟩) k cap ∧ base ≤ g ∧ g < W.heap.size ∧ ∀ j, j < k → ∃ b n c, W.cell? ⟨g, j, none⟩ = some (.slice b n c) ∧ Cl W (.slice b n c) (Vs.getD j []) ∧ (0 < n → ∀ p, b = some p → g ≠ p.block) := by
  obtain ⟨us, h1, h2⟩ := f
  rcases h1.2 with ⟨_, c⟩ | ⟨g, cap, cur, rfl, b1, b2, b3, _, b5, b6⟩
  · omega
  · have hg : g < W.heap.size := by
      rcases Nat.lt_or_ge g W.heap.size with c | c
      · exact c
      · rw [Array.getElem?_eq_none c] at b2; cases b2
    refine ⟨g, cap, rfl, b1, hg, fun j hj => ?_⟩
    obtain ⟨b, n, c, a1, a2, a3⟩ := h2 j hj
    refine ⟨b, n, c, ?_, a2, fun hn p hp e => a3 hn p hp (by rw [← e]; rfl)⟩
    rw [cell_of_row W g _ cur _ _ b2, ← Array.getElem?_toList]
    have : (cur.toList.take (k * 1))[j]? = us[j]? := by rw [b6]
    rw [List.getElem?_take_of_lt (by omega)] at this
    rw [this, a1]
theorem AR.step {W : World} {base k : Nat} {v : Value} {Vs : List (List Nat)} {us : List Value} (h1 : W.ownsRow base 38 1 v k us)
    (h2 : ∀ j, j < k → ∃ b n c, us[j]? = some (.slice b n c) ∧ Cl W (.slice b n c) (Vs.getD j []) ∧ (0 < n → ∀ p, b = some p → v.ownBlock ≠ some p.block))
    {o : Obj} {b : Option Addr} {n c : Nat} {x : List Nat} (hC : Cl W (.slice b n c) x) (hn : 0 < n → ∀ p, b = some p → v.ownBlock ≠ some p.block) {g cap : Nat} {w9 : World}
    (hown9 : w9.ownsRow base 38 1 (.slice (some ⟨g, 0, none⟩) (k + 1) cap) (k + 1) (us ++ [.slice b n c])) (hg : (W.alloc o).grownBy w9 v.ownBlock) (hat : v.ownBlock = some g ∨ g = (W.alloc o).heap.size)
    {Vs' : List (List Nat)} (e1 : ∀ j, j < k → Vs'.getD j [] = Vs.getD j []) (e2 : Vs'.getD k [] = x) : AR w9 base (.slice (some ⟨g, 0, none⟩) (k + 1) cap) (k + 1) Vs' := by
  have hl : us.length = k := by have := h1.1; omega
  have ka := kept_alloc 0 0 W o
  have hs : W.heap.size < (W.alloc o).heap.size := by simp
  have key : ∀ (b : Option Addr) (n c : Nat) (x : List Nat), Cl W (.slice b n c) x → (0 < n → ∀ p, b = some p → v.ownBlock ≠ some p.block) → Cl w9 (.slice b n c) x ∧ (0 < n → ∀ p, b = some p → (Value.slice (some ⟨g, 0, none⟩) (k + 1) cap).ownBlock ≠ some p.block) := fun b n c x hc hv =>
    ⟨(hc.keep ka).grown hg hv, fun h0 p hp e => by
      have e' : g = p.block := by simpa [Value.ownBlock] using e
      rcases hat with h | h
      · exact hv h0 p hp (by rw [h, e'])
      · have := hc.lt h0 p hp
        omega⟩
  refine ⟨_, hown9, fun j hj => ?_⟩
  by_cases c' : j < k
  · obtain ⟨b', n', c'', a1, a2, a3⟩ := h2 j c'
    obtain ⟨k1, k2⟩ := key _ _ _ _ a2 a3
    exact ⟨b', n', c'', by rw [List.getElem?_append_left (by omega)]; exact a1, by rw [e1 j c']; exact k1, k2⟩
  · have : j = k := by omega
    subst this
    obtain ⟨k1, k2⟩ := key _ _ _ _ hC hn
    exact ⟨b, n, c, by rw [List.getElem?_append_right (by omega), hl, Nat.sub_self]; rfl, by rw [e2]; exact k1, k2⟩
theorem AR.ss {W : World} {base k : Nat} {v : Value} {Vs : List (List Nat)} (f : AR W base v k Vs) : ∃ a cap zss, v = .slice a k cap ∧ SS W a k zss ∧ ∀ j, j < k → same (zss.getD j []) (Vs.getD j []) := by
  rcases Nat.eq_zero_or_pos k with h0 | h0
  · subst h0
    obtain ⟨us, h1, _⟩ := f
    rcases h1.2 with ⟨rfl, _⟩ | ⟨g, cap, cur, rfl, _⟩
    · exact ⟨none, 0, [], rfl, ⟨rfl, .inl rfl⟩, fun j hj => absurd hj (Nat.not_lt_zero _)⟩
    · exact ⟨_, cap, [], rfl, ⟨rfl, .inl rfl⟩, fun j hj => absurd hj (Nat.not_lt_zero _)⟩
  · obtain ⟨g, cap, rfl, _, hg, hc⟩ := f.cell h0
    have h : ∀ j, ∃ zs : List Nat, j < k → ∃ b c, W.cell? ⟨g, j, none⟩ = some (.slice b zs.length c) ∧ zs.length ≤ c ∧ FS W 0 W.heap.size b zs.length zs ∧ same zs (Vs.getD j []) := fun j => by
      by_cases hj : j < k
      · obtain ⟨b, m, c, h1, h2, _⟩ := hc j hj
        obtain ⟨b', n', c', zs, e, a1, a2, a3⟩ := h2
        cases e
        have e := a2.len
        subst e
        exact ⟨zs, fun _ => ⟨b, c, h1, a1, a2, a3⟩⟩
      · exact ⟨[], fun c => absurd c hj⟩
    obtain ⟨F, hF⟩ := Classical.axiomOfChoice h
    refine ⟨_, cap, (List.range k).map F, rfl, ⟨by simp, .inr ⟨g, 0, rfl, hg, fun j hj => ?_⟩⟩, fun j hj => ?_⟩
    · rw [range_getD F hj, Nat.zero_add]
      obtain ⟨b, c, a1, a2, a3, _⟩ := hF j hj
      exact ⟨b, c, a1, a2, a3⟩
    · rw [range_getD F hj]
      obtain ⟨b, c, _, _, _, a4⟩ := hF j hj
      exact a4
end Go.Proofs.Ytcphabjekfihnaa
