import Derived.Test.YtcphabjekfihnaaX03
import Derived.Test.YtcphabjekfihnaaP20
namespace Go.Proofs.Ytcphabjekfihnaa
open Go.ChangeShapes Go.WideShapes Go.ChangeAt Go.RowKit Flt

theorem cellsFloats : Try.prog.cellsOf 38 = 1 := by kernel_rfl
set_option maxRecDepth 100000 in
/-- A slice of floats among the cells. -/
theorem trod_floats {H : Type} {enc : TypeId × Value → H} {w : World} {base fuel : Nat} {spare : Nat → Bool} {held : Bool} {v : Value} {x : DataW H × List MemPlace}
    (hf : DataW.trod enc Try.prog w base spare held fuel 38 [v] = some x) : ∃ a n cap, v = .slice a n cap ∧ n ≤ cap ∧ cap ≤ 9223372036854775807 ∧ ∃ xs, FS w 0 w.heap.size a n xs := by
  rcases Deep.open_slice1 Try.underlying38 cellsFloat hf with ⟨hcs, _⟩ | ⟨x, l, c, m, n', V, D, Pl, hcs, _, hl, hc, hm, _, hV⟩
  · simp at hcs
    exact ⟨_, _, _, hcs, Nat.le_refl _, by omega, [], rfl, by simp, .inl rfl⟩
  · simp at hcs
    refine ⟨_, _, _, hcs, hl, by unfold maxLen at hc; omega, ?_⟩
    have hlm : l ≤ m := by rw [hm]; split <;> omega
    have key : ∀ i, i < l → ∃ b, w.cell? (x.add i) = some (.float .f64 b) ∧ b < 18446744073709551616 := fun i hi => by
      obtain ⟨h1, h2⟩ := hV i (by omega)
      obtain ⟨b, e, hw⟩ := trod_float Try.underlying23 h2
      simp at e
      exact ⟨b, by rw [h1, e], f64_lt hw⟩
    obtain ⟨f, hf'⟩ := Deep.choose_lt (α := Nat) (p := fun i b => w.cell? (x.add i) = some (.float .f64 b) ∧ b < 18446744073709551616) key
    refine ⟨(List.range l).map f, by simp, ?_, ?_⟩
    · intro y hy
      simp only [List.mem_map, List.mem_range] at hy
      obtain ⟨i, hi, rfl⟩ := hy
      exact (hf' i hi).2
    · rcases Nat.eq_zero_or_pos l with h0 | h0
      · exact .inl h0
      · obtain ⟨b, off, spot⟩ := x
        have hspot : spot = none := by simpa [Addr.add] using World.cell?_spot (hf' 0 h0).1
        subst hspot
        have h2 : ∀ k, k < l → w.cell? ⟨b, off + k, none⟩ = some (.float .f64 (((List.range l).map f).getD k 0)) := fun k hk => by
          have h1 := (hf' k hk).1
          rw [show ((List.range l).map f).getD k 0 = f k by simp [List.getD_eq_getElem?_getD, hk]]
          by_cases hk0 : k = 0
          · subst hk0; simpa [Addr.add] using h1
          · simpa [Addr.add, hk0] using h1
        have hb := World.block_lt_of_cell? (h := h2 0 h0)
        exact .inr ⟨b, off, rfl, Nat.zero_le _, hb, hb, h2⟩

set_option maxRecDepth 100000 in
/-- A slice of slices of floats that came in. -/
theorem open_lists {H : Type} {enc : TypeId × Value → H} {w : World} {base : Nat} {spare : Nat → Bool} {held : Bool} {v : Value} {d : DataW H} {ps : List MemPlace}
    {a : Option Addr} {n cap : Nat} (hv : v = .slice a n cap) (h : DataW.Trod enc Try.prog w base spare held 58 v d ps) :
    n ≤ 9223372036854775807 ∧ ∃ xss, SS w a n xss ∧ Words xss ∧ ∀ k, k < n → (xss.getD k []).length ≤ 9223372036854775807 := by
  subst hv
  obtain ⟨fuel, hf⟩ := h
  rcases Deep.open_slice1 Try.underlying58 cellsFloats hf with ⟨hcs, _⟩ | ⟨x, l, c, m, n', V, D, Pl, hcs, _, hl, hc, hm, _, hV⟩
  · simp [Value.cells] at hcs
    obtain ⟨rfl, rfl, rfl⟩ := hcs
    exact ⟨by omega, [], ⟨rfl, .inl rfl⟩, fun k x hx => by simp at hx, fun k hk => absurd hk (Nat.not_lt_zero _)⟩
  · simp [Value.cells] at hcs
    obtain ⟨rfl, rfl, rfl⟩ := hcs
    refine ⟨by unfold maxLen at hc; omega, ?_⟩
    have hnm : n ≤ m := by rw [hm]; split <;> omega
    have key : ∀ i, i < n → ∃ zs : List Nat, ∃ b c, w.cell? (x.add i) = some (.slice b zs.length c) ∧ zs.length ≤ c ∧ c ≤ 9223372036854775807 ∧ FS w 0 w.heap.size b zs.length zs := fun i hi => by
      obtain ⟨h1, h2⟩ := hV i (by omega)
      obtain ⟨b, l', c', e, e1, e2, xs, f⟩ := trod_floats h2
      have := f.len
      subst this
      exact ⟨xs, b, c', by rw [h1, e], e1, e2, f⟩
    obtain ⟨F, hF⟩ := Deep.choose_lt (α := List Nat) (p := fun i zs => ∃ b c, w.cell? (x.add i) = some (.slice b zs.length c) ∧ zs.length ≤ c ∧ c ≤ 9223372036854775807 ∧ FS w 0 w.heap.size b zs.length zs) key
    refine ⟨(List.range n).map F, ⟨by simp, ?_⟩, ?_, ?_⟩
    · rcases Nat.eq_zero_or_pos n with h0 | h0
      · exact .inl h0
      · obtain ⟨b, off, spot⟩ := x
        have hspot : spot = none := by
          obtain ⟨b', c', q, _⟩ := hF 0 h0
          simpa [Addr.add] using World.cell?_spot q
        subst hspot
        have h2 : ∀ k, k < n → ∃ b' c', w.cell? ⟨b, off + k, none⟩ = some (.slice b' (((List.range n).map F).getD k []).length c') ∧ (((List.range n).map F).getD k []).length ≤ c' ∧ FS w 0 w.heap.size b' (((List.range n).map F).getD k []).length (((List.range n).map F).getD k []) := fun k hk => by
          rw [range_getD F hk]
          obtain ⟨b', c', q, q1, q2, q3⟩ := hF k hk
          refine ⟨b', c', ?_, q1, q3⟩
          by_cases hk0 : k = 0
          · subst hk0; simpa [Addr.add] using q
          · simpa [Addr.add, hk0] using q
        obtain ⟨_, _, q, _⟩ := h2 0 h0
        have hb := World.block_lt_of_cell? (h := q)
        exact .inr ⟨b, off, rfl, hb, h2⟩
    · intro k y hy
      by_cases hk : k < n
      · rw [range_getD F hk] at hy
        obtain ⟨b', c', q, q1, q2, q3⟩ := hF k hk
        exact q3.lt y hy
      · rw [List.getD_eq_getElem?_getD, List.getElem?_eq_none (by simp; omega)] at hy
        cases hy
    · intro k hk
      rw [range_getD F hk]
      obtain ⟨b', c', q, q1, q2, q3⟩ := hF k hk
      omega

namespace PEval
set_option maxRecDepth 100000 in
theorem lifted (os : Os) (started : os.Started) (H : Type) (enc : TypeId × Value → H) :
    ReturnsInHanded {} Try.checked os 10 .any (Rows.fnExactEvalSpec.pre6 enc Try.prog Try.f10 Rows.fnExactEvalRow.domain false) (Rows.fnExactEvalSpec.post enc Try.prog Try.f10 false true false false) := by
  refine returnsInHanded_of_change (C := Try.checked) own started (by kernel_rfl) Try.func10
    (ChangeSpec.witness6 (enc := enc) (C := Try.checked) false ⟨#[], #[.agg #[.slice none 0 0, .slice none 0 0, .slice none 0 0], .slice none 0 0], []⟩ 8 (by kernel_rfl) (by kernel_rfl) (by kernel_rfl) (by kernel_rfl)) ?_
  intro W base args ds gs before hval0 hW hcnd _
  have hval : ∀ (j : Nat) t v, Try.f10.params[j]? = some t → args[j]? = some v → Value.okWide Try.prog W .any base t v := hval0
  have hW' := hW
  obtain ⟨p, q, hA0, hV, rfl, hfz, hnd⟩ := hW
  have hA : DataW.TrodAll enc Try.prog W 0 (fun _ => true) true Try.f10.params.toList args.toList ds p := hA0
  rw [Try.params10] at hA hval
  obtain ⟨v0, vs0, d0, ds0, p0, q0, hargs, rfl, rfl, h0, r0⟩ := trodAll_cons hA
  obtain ⟨v1, vs1, d1, ds1, p1, q1, rfl, rfl, rfl, h1, r1⟩ := trodAll_cons r0
  obtain ⟨rfl, rfl, rfl⟩ := trodAll_nil r1
  obtain rfl : args = #[v0, v1] := by cases args; simp_all
  obtain ⟨rfl, rfl⟩ := trodVars_none hV
  have lt0 : ∀ x ∈ p0, x.block < W.heap.size := by obtain ⟨m, hm⟩ := h0; exact DataW.trod_lt m _ _ _ hm
  have lt1 : ∀ x ∈ p1, x.block < W.heap.size := by obtain ⟨m, hm⟩ := h1; exact DataW.trod_lt m _ _ _ hm
  obtain ⟨a1, n1, c1, a2, n2, c2, a3, n3, c3, ins, vs, outs, rfl, f, l1, l2, l3⟩ := open_graph (hval 0 49 v0 rfl rfl) h0
  obtain ⟨b, m, cb, rfl⟩ := okWide_slice Try.underlying58 (hval 1 58 v1 rfl rfl)
  obtain ⟨lm, xss, s, hw, hls⟩ := open_lists rfl h1
  clear hA0 hval0
  have walk : Calls Try.prog 10 #[gagg a1 n1 c1 a2 n2 c2 a3 n3 c3, .slice b m cb] W fun e w' => e = .returned (.bool true) ∧ Below W.heap.size W w' := by
    by_cases hl : (1048576 : Int) - n1 - n2 - n3 < 0
    · exact fnEval_long1 W a1 a2 a3 b n1 c1 n2 c2 n3 c3 m cb l1 l2 l3 hl
    · by_cases hl2 : (1048576 : Int) - n1 - n2 - n3 - m - total xss < 0
      · exact fnEval_long2 W a1 a2 a3 b n1 c1 n2 c2 n3 c3 m cb xss s hl lm hls hl2
      · exact fnEval W a1 a2 a3 b n1 c1 n2 c2 n3 c3 m cb ins vs outs xss f s hw hl2
  refine walk.mono fun e W' ⟨he, bel⟩ => ?_
  subst he
  exact ⟨_, rfl, _, _, _, [], _, [], hW', trodAll_mk1 (shut_bool Try.underlying4 _), (trodAll_cons_mk (Below.trod laidOut (by kernel_rfl) (of_decide_eq_true (by kernel_rfl)) h0 bel lt0) (trodAll_cons_mk (Below.trod laidOut (by kernel_rfl) (of_decide_eq_true (by kernel_rfl)) h1 bel lt1) trodAll_mk0)), rfl, bel.frame _, fun h => by cases h⟩
end PEval

theorem fnExactEval_holds : Rows.FnExactEvalSaid :=
  OpenClaim.holds_of_wide 10 Try.f10 rfl rfl rfl rfl rfl rfl rfl ⟨rfl, rfl, rfl, rfl, rfl⟩ rfl rfl rfl rfl rfl (by kernel_rfl) Try.func10 (by kernel_rfl)
    (of_decide_eq_true (by kernel_rfl)) (by unfold Func.isWrapper; first | (rw [if_pos (by decide +kernel)]; kernel_rfl) | (rw [if_neg (by decide +kernel)]; exact ⟨rfl, rfl⟩))
    (fun os started H enc _ => PEval.lifted os started H enc)
#print axioms fnExactEval_holds
end Go.Proofs.Ytcphabjekfihnaa
