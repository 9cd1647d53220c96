import Derived.Test.YtcphabjekfihnaaV02
import Derived.Test.YtcphabjekfihnaaP20
namespace Go.Proofs.Ytcphabjekfihnaa
open Go.ChangeShapes Go.WideShapes Go.ChangeAt Go.RowKit Flt

theorem cellsLStep : Try.prog.cellsOf 181 = 8 := by kernel_rfl
theorem cellsLSpan : Try.prog.cellsOf 183 = 2 := by kernel_rfl
theorem cellsLSteps : Try.prog.cellsOf 73 = 1 := by kernel_rfl
theorem cellsLSpans : Try.prog.cellsOf 74 = 1 := by kernel_rfl
theorem cellsLCode : Try.prog.cellsOf 76 = 4 := by kernel_rfl
theorem array4 {α : Type} {cs : Array α} (h : cs.size = 4) : ∃ c0 c1 c2 c3, cs = #[c0, c1, c2, c3] := by
  obtain ⟨l⟩ := cs
  match l, h with
  | [c0, c1, c2, c3], _ => exact ⟨c0, c1, c2, c3, rfl⟩

set_option maxRecDepth 100000 in
theorem trod_step {H : Type} {enc : TypeId × Value → H} {w : World} {base fuel : Nat} {spare : Nat → Bool} {held : Bool} {cs : List Value} {x : DataW H × List MemPlace}
    (hl : cs.length = 8) (hf : DataW.trod enc Try.prog w base spare held fuel 181 cs = some x) : ∃ v : Ste, cs = v.cells ∧ v.k < 18446744073709551616 := by
  obtain ⟨xs, n, _, _, _, hlen, hfs⟩ := DataW.trod_struct Try.underlying181 hf
  match cs, hl with
  | [b0, b1, b2, b3, b4, b5, b6, b7], _ =>
  match xs, hlen with
  | [y0, y1, y2, y3, y4, y5, y6, y7], _ =>
    have h0 := hfs 0 _ rfl
    have h1 := hfs 1 _ rfl
    have h2 := hfs 2 _ rfl
    have h3 := hfs 3 _ rfl
    have h4 := hfs 4 _ rfl
    have h5 := hfs 5 _ rfl
    have h6 := hfs 6 _ rfl
    have h7 := hfs 7 _ rfl
    simp [cellsInt, cellsFloat] at h0 h1 h2 h3 h4 h5 h6 h7
    obtain ⟨a0, e0, _, _⟩ := DataW.trod_int Try.underlying3 h0
    obtain ⟨a1, e1, _, _⟩ := DataW.trod_int Try.underlying3 h1
    obtain ⟨a2, e2, _, _⟩ := DataW.trod_int Try.underlying3 h2
    obtain ⟨a3, e3, _, _⟩ := DataW.trod_int Try.underlying3 h3
    obtain ⟨a4, e4, _, _⟩ := DataW.trod_int Try.underlying3 h4
    obtain ⟨a5, e5, _, _⟩ := DataW.trod_int Try.underlying3 h5
    obtain ⟨a6, e6, _, _⟩ := DataW.trod_int Try.underlying3 h6
    obtain ⟨a7, e7, hw⟩ := trod_float Try.underlying23 h7
    simp at e0 e1 e2 e3 e4 e5 e6 e7
    subst e0 e1 e2 e3 e4 e5 e6 e7
    exact ⟨⟨a0, a1, a2, a3, a4, a5, a6, a7⟩, rfl, f64_lt hw⟩
instance : Inhabited Ste := ⟨Ste.zero⟩
set_option maxRecDepth 100000 in
theorem trod_steps {H : Type} {enc : TypeId × Value → H} {w : World} {base fuel : Nat} {spare : Nat → Bool} {held : Bool} {cs : List Value} {x : DataW H × List MemPlace}
    (hf : DataW.trod enc Try.prog w base spare held fuel 73 cs = some x) : ∃ a n cap, cs = [.slice a n cap] ∧ n ≤ 9223372036854775807 ∧ ∃ vs, TS w 0 w.heap.size a n vs := by
  rcases Deep.open_slice Try.underlying73 hf with ⟨hcs, _⟩ | ⟨x, l, c, m, n', D, Pl, hcs, _, hl, hc, hm, _, hV⟩
  · exact ⟨_, _, _, hcs, by omega, [], rfl, by simp, .inl rfl⟩
  · refine ⟨_, _, _, hcs, by unfold maxLen at hc; omega, ?_⟩
    have hlm : l ≤ m := by rw [hm]; split <;> omega
    have key : ∀ i, i < l → ∃ v : Ste, (∀ j, j < 8 → w.cell? (x.add (i * 8 + j)) = v.cells[j]?) ∧ v.k < 18446744073709551616 := fun i hi => by
      obtain ⟨cs', h1, h2⟩ := hV i (by omega)
      rw [cellsLStep] at h1
      obtain ⟨_, h3, h4⟩ := World.cells?_some h1
      obtain ⟨v, rfl, hk⟩ := trod_step h3 h2
      exact ⟨v, fun j hj => by rw [← h4 j hj, Deep.add_add], hk⟩
    obtain ⟨f, hf'⟩ := Deep.choose_lt (α := Ste) (p := fun i v => (∀ j, j < 8 → w.cell? (x.add (i * 8 + j)) = v.cells[j]?) ∧ v.k < 18446744073709551616) key
    refine ⟨(List.range l).map f, by simp, ?_, ?_⟩
    · intro y hy
      simp only [List.mem_map, List.mem_range] at hy
      obtain ⟨i, hi, rfl⟩ := hy
      exact (hf' i hi).2
    · rcases Nat.eq_zero_or_pos l with h0 | h0
      · exact .inl h0
      · obtain ⟨b, off, spot⟩ := x
        have hspot : spot = none := by
          have := (hf' 0 h0).1 0 (by omega)
          simpa [Addr.add] using World.cell?_spot this
        subst hspot
        have h1 : ∀ i j, i < l → j < 8 → w.cell? ⟨b, off + (i * 8 + j), none⟩ = (f i).cells[j]? := fun i j hi hj => by
          have := (hf' i hi).1 j hj
          by_cases hk0 : i * 8 + j = 0
          · rw [hk0] at this ⊢; simpa [Addr.add] using this
          · unfold Addr.add at this
            rw [if_neg hk0] at this
            exact this
        have h2 : ∀ k, k < l → AtT w b (off + k * 8) (((List.range l).map f).getD k Ste.zero) := fun k hk => by
          rw [show ((List.range l).map f).getD k Ste.zero = f k by simp [List.getD_eq_getElem?_getD, hk]]
          have g := fun j hj => h1 k j hk hj
          have r : ∀ j, off + k * 8 + j = off + (k * 8 + j) := fun j => by omega
          refine ⟨?_, ?_, ?_, ?_, ?_, ?_, ?_, ?_⟩
          · exact g 0 (by omega)
          · rw [r]; exact g 1 (by omega)
          · rw [r]; exact g 2 (by omega)
          · rw [r]; exact g 3 (by omega)
          · rw [r]; exact g 4 (by omega)
          · rw [r]; exact g 5 (by omega)
          · rw [r]; exact g 6 (by omega)
          · rw [r]; exact g 7 (by omega)
        have hb := World.block_lt_of_cell? (h := (h2 0 h0).c0)
        exact .inr ⟨b, off, rfl, Nat.zero_le _, hb, hb, h2⟩

set_option maxRecDepth 100000 in
theorem trod_span {H : Type} {enc : TypeId × Value → H} {w : World} {base fuel : Nat} {spare : Nat → Bool} {held : Bool} {cs : List Value} {x : DataW H × List MemPlace}
    (hl : cs.length = 2) (hf : DataW.trod enc Try.prog w base spare held fuel 183 cs = some x) : ∃ v : Spn, cs = v.cells := by
  obtain ⟨xs, n, _, _, _, hlen, hfs⟩ := DataW.trod_struct Try.underlying183 hf
  match cs, hl with
  | [b0, b1], _ =>
  match xs, hlen with
  | [y0, y1], _ =>
    have h0 := hfs 0 _ rfl
    have h1 := hfs 1 _ rfl
    simp [cellsInt] at h0 h1
    obtain ⟨a0, e0, _, _⟩ := DataW.trod_int Try.underlying3 h0
    obtain ⟨a1, e1, _, _⟩ := DataW.trod_int Try.underlying3 h1
    simp at e0 e1
    subst e0 e1
    exact ⟨⟨a0, a1⟩, rfl⟩
instance : Inhabited Spn := ⟨Spn.zero⟩
set_option maxRecDepth 100000 in
theorem trod_spans {H : Type} {enc : TypeId × Value → H} {w : World} {base fuel : Nat} {spare : Nat → Bool} {held : Bool} {cs : List Value} {x : DataW H × List MemPlace}
    (hf : DataW.trod enc Try.prog w base spare held fuel 74 cs = some x) : ∃ a n cap, cs = [.slice a n cap] ∧ n ≤ 9223372036854775807 ∧ ∃ vs, PS w 0 w.heap.size a n vs := by
  rcases Deep.open_slice Try.underlying74 hf with ⟨hcs, _⟩ | ⟨x, l, c, m, n', D, Pl, hcs, _, hl, hc, hm, _, hV⟩
  · exact ⟨_, _, _, hcs, by omega, [], rfl, .inl rfl⟩
  · refine ⟨_, _, _, hcs, by unfold maxLen at hc; omega, ?_⟩
    have hlm : l ≤ m := by rw [hm]; split <;> omega
    have key : ∀ i, i < l → ∃ v : Spn, (∀ j, j < 2 → w.cell? (x.add (i * 2 + j)) = v.cells[j]?) := fun i hi => by
      obtain ⟨cs', h1, h2⟩ := hV i (by omega)
      rw [cellsLSpan] at h1
      obtain ⟨_, h3, h4⟩ := World.cells?_some h1
      obtain ⟨v, rfl⟩ := trod_span h3 h2
      exact ⟨v, fun j hj => by rw [← h4 j hj, Deep.add_add]⟩
    obtain ⟨f, hf'⟩ := Deep.choose_lt (α := Spn) (p := fun i v => (∀ j, j < 2 → w.cell? (x.add (i * 2 + j)) = v.cells[j]?)) key
    refine ⟨(List.range l).map f, by simp, ?_⟩
    · rcases Nat.eq_zero_or_pos l with h0 | h0
      · exact .inl h0
      · obtain ⟨b, off, spot⟩ := x
        have hspot : spot = none := by
          have := (hf' 0 h0) 0 (by omega)
          simpa [Addr.add] using World.cell?_spot this
        subst hspot
        have h1 : ∀ i j, i < l → j < 2 → w.cell? ⟨b, off + (i * 2 + j), none⟩ = (f i).cells[j]? := fun i j hi hj => by
          have := (hf' i hi) j hj
          by_cases hk0 : i * 2 + j = 0
          · rw [hk0] at this ⊢; simpa [Addr.add] using this
          · unfold Addr.add at this
            rw [if_neg hk0] at this
            exact this
        have h2 : ∀ k, k < l → AtP w b (off + k * 2) (((List.range l).map f).getD k Spn.zero) := fun k hk => by
          rw [show ((List.range l).map f).getD k Spn.zero = f k by simp [List.getD_eq_getElem?_getD, hk]]
          have g := fun j hj => h1 k j hk hj
          have r : ∀ j, off + k * 2 + j = off + (k * 2 + j) := fun j => by omega
          refine ⟨?_, ?_⟩
          · exact g 0 (by omega)
          · rw [r]; exact g 1 (by omega)
        have hb := World.block_lt_of_cell? (h := (h2 0 h0).c0)
        exact .inr ⟨b, off, rfl, Nat.zero_le _, hb, hb, h2⟩

set_option maxRecDepth 100000 in
/-- A code that came in. -/
theorem open_code {H : Type} {enc : TypeId × Value → H} {w : World} {r : Reach} {b0 base : Nat} {spare : Nat → Bool} {held : Bool} {v : Value} {d : DataW H} {ps : List MemPlace}
    (hv : Value.okWide Try.prog w r b0 76 v) (h : DataW.Trod enc Try.prog w base spare held 76 v d ps) :
    ∃ a1 n1 c1 a2 n2 c2 a3 n3 c3 pk ins ss os, v = cagg a1 n1 c1 a2 n2 c2 a3 n3 c3 pk ∧ CS w a1 n1 a2 n2 a3 n3 ins ss os ∧ n1 ≤ 9223372036854775807 ∧ n2 ≤ 9223372036854775807 ∧ n3 ≤ 9223372036854775807 := by
  obtain ⟨cs, rfl, hsz⟩ := okWide_struct Try.underlying76 hv
  obtain ⟨b0, b1, b2, b3, rfl⟩ := array4 (hsz.trans cellsLCode)
  obtain ⟨fuel, hf⟩ := h
  obtain ⟨xs, n, _, _, _, hlen, hfs⟩ := DataW.trod_struct Try.underlying76 hf
  match xs, hlen with
  | [y0, y1, y2, y3], _ =>
    have h0 := hfs 0 _ rfl
    have h1 := hfs 1 _ rfl
    have h2 := hfs 2 _ rfl
    have h3 := hfs 3 _ rfl
    simp [Value.cells, cellsInts, cellsLSteps, cellsLSpans, cellsInt] at h0 h1 h2 h3
    obtain ⟨a1, n1, c1, e1, l1, ins, f1⟩ := trod_ints h0
    obtain ⟨a2, n2, c2, e2, l2, ss, f2⟩ := trod_steps h1
    obtain ⟨a3, n3, c3, e3, l3, os, f3⟩ := trod_spans h2
    obtain ⟨pk, e4, _, _⟩ := DataW.trod_int Try.underlying3 h3
    simp at e1 e2 e3 e4
    subst e1 e2 e3 e4
    exact ⟨a1, n1, c1, a2, n2, c2, a3, n3, c3, pk, ins, ss, os, rfl, ⟨f1, f2, f3⟩, l1, l2, l3⟩
end Go.Proofs.Ytcphabjekfihnaa
