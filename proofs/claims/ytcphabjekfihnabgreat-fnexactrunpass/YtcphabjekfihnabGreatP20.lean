import Derived.Test.YtcphabjekfihnabGreatP19
import Derived.Test.YtcphabjekfihnabGreatP03
import Derived.Deep.Slices
namespace Go.Proofs.YtcphabjekfihnabGreat
open Go.RowKit Flt
attribute [local go_sem] alloc_drewN setCell_drewN run_store_float

theorem g0_startL (w : World) (b0 b1 b2 : Value) : G0 (w.alloc (.cells #[b0, b1, b2] 25)) w.heap.size b0 b1 b2 := by
  refine ⟨?_, ?_, ?_, ?_⟩
  all_goals first | (go_simp; done) | (simp; done)

end Go.Proofs.YtcphabjekfihnabGreat

namespace Go.Proofs.YtcphabjekfihnabGreat
open Go.ChangeShapes Go.WideShapes Go.ChangeAt Go.RowKit Flt

theorem trod_float {H : Type} {enc : TypeId × Value → H} {P : Program} {w : World} {base : Nat} {spare : Nat → Bool} {held : Bool} {t : TypeId} {fuel : Nat} {cs : List Value} {x : DataW H × List MemPlace} {k : FloatKind}
    (ht : P.underlying t = some (.float k)) (h : DataW.trod enc P w base spare held fuel t cs = some x) : ∃ b, cs = [.float k b] ∧ (Lit.float k b).wf = true := by
  cases fuel with
  | zero => simp [DataW.trod] at h
  | succ n =>
    unfold DataW.trod at h
    rw [ht] at h
    split at h <;> simp_all
theorem array6 {α : Type} {cs : Array α} (h : cs.size = 6) : ∃ c0 c1 c2 c3 c4 c5, cs = #[c0, c1, c2, c3, c4, c5] := by
  obtain ⟨l⟩ := cs
  match l, h with
  | [c0, c1, c2, c3, c4, c5], _ => exact ⟨c0, c1, c2, c3, c4, c5, rfl⟩
theorem cellsInt : Tryz.prog.cellsOf 3 = 1 := by kernel_rfl
theorem cellsFloat : Tryz.prog.cellsOf 57 = 1 := by kernel_rfl
theorem cellsLVal : Tryz.prog.cellsOf 61 = 6 := by kernel_rfl

set_option maxRecDepth 100000 in
/-- A value of a graph that came in, by value. -/
theorem open_val {H : Type} {enc : TypeId × Value → H} {w : World} {r : Reach} {b0 base : Nat} {spare : Nat → Bool} {held : Bool} {v : Value} {d : DataW H} {ps : List MemPlace}
    (hv : Value.okWide Tryz.prog w r b0 61 v) (h : DataW.Trod enc Tryz.prog w base spare held 61 v d ps) : ∃ (op len A B C : Int) (K : Nat), v = vagg op len A B C K ∧ K < 18446744073709551616 := by
  obtain ⟨cs, rfl, hsz⟩ := okWide_struct Tryz.underlying61 hv
  obtain ⟨c0, c1, c2, c3, c4, c5, rfl⟩ := array6 (hsz.trans cellsLVal)
  obtain ⟨fuel, hf⟩ := h
  obtain ⟨xs, n, _, _, _, hlen, hfs⟩ := DataW.trod_struct Tryz.underlying61 hf
  match xs, hlen with
  | [y0, y1, y2, y3, y4, y5], _ =>
    have h0 := hfs 0 _ rfl
    have h1 := hfs 1 _ rfl
    have h2 := hfs 2 _ rfl
    have h3 := hfs 3 _ rfl
    have h4 := hfs 4 _ rfl
    have h5 := hfs 5 _ rfl
    simp [Value.cells, cellsInt, cellsFloat] at h0 h1 h2 h3 h4 h5
    obtain ⟨a0, e0, _, _⟩ := DataW.trod_int Tryz.underlying3 h0
    obtain ⟨a1, e1, _, _⟩ := DataW.trod_int Tryz.underlying3 h1
    obtain ⟨a2, e2, _, _⟩ := DataW.trod_int Tryz.underlying3 h2
    obtain ⟨a3, e3, _, _⟩ := DataW.trod_int Tryz.underlying3 h3
    obtain ⟨a4, e4, _, _⟩ := DataW.trod_int Tryz.underlying3 h4
    obtain ⟨a5, e5, hw⟩ := trod_float Tryz.underlying57 h5
    simp at e0 e1 e2 e3 e4 e5
    subst e0 e1 e2 e3 e4 e5
    exact ⟨a0, a1, a2, a3, a4, a5, rfl, f64_lt hw⟩

/-- A slice of floats that came in. -/
theorem open_floats {H : Type} {enc : TypeId × Value → H} {w : World} {base : Nat} {spare : Nat → Bool} {held : Bool} {a : Option Addr} {n cap : Nat} {d : DataW H} {ps : List MemPlace}
    (h : DataW.Trod enc Tryz.prog w base spare held 72 (.slice a n cap) d ps) : n ≤ cap ∧ ∃ xs, FS w 0 w.heap.size a n xs := by
  obtain ⟨fuel, hf⟩ := h
  rcases Deep.open_slice1 Tryz.underlying72 cellsFloat hf with ⟨hcs, _⟩ | ⟨x, l, c, m, n', V, D, Pl, hcs, _, hl, _, hm, _, hV⟩
  · simp [Value.cells] at hcs
    obtain ⟨rfl, rfl, rfl⟩ := hcs
    exact ⟨Nat.le_refl _, [], rfl, by simp, .inl rfl⟩
  · simp [Value.cells] at hcs
    obtain ⟨rfl, rfl, rfl⟩ := hcs
    refine ⟨hl, ?_⟩
    have hlm : n ≤ m := by rw [hm]; split <;> omega
    have key : ∀ i, i < n → ∃ b, w.cell? (x.add i) = some (.float .f64 b) ∧ b < 18446744073709551616 := fun i hi => by
      obtain ⟨h1, h2⟩ := hV i (by omega)
      obtain ⟨b, e, hw⟩ := trod_float Tryz.underlying57 h2
      simp at e
      exact ⟨b, by rw [h1, e], f64_lt hw⟩
    obtain ⟨f, hf'⟩ := Deep.choose_lt (α := Nat) (p := fun i b => w.cell? (x.add i) = some (.float .f64 b) ∧ b < 18446744073709551616) key
    refine ⟨(List.range n).map f, by simp, ?_, ?_⟩
    · intro y hy
      simp only [List.mem_map, List.mem_range] at hy
      obtain ⟨i, hi, rfl⟩ := hy
      exact (hf' i hi).2
    · rcases Nat.eq_zero_or_pos n with h0 | h0
      · exact .inl h0
      · obtain ⟨b, off, spot⟩ := x
        have hspot : spot = none := by simpa [Addr.add] using World.cell?_spot (hf' 0 h0).1
        subst hspot
        have h2 : ∀ k, k < n → w.cell? ⟨b, off + k, none⟩ = some (.float .f64 (((List.range n).map f).getD k 0)) := fun k hk => by
          have h1 := (hf' k hk).1
          rw [show ((List.range n).map f).getD k 0 = f k by simp [List.getD_eq_getElem?_getD, hk]]
          by_cases hk0 : k = 0
          · subst hk0; simpa [Addr.add] using h1
          · simpa [Addr.add, hk0] using h1
        have hb := World.block_lt_of_cell? (h := h2 0 h0)
        exact .inr ⟨b, off, rfl, Nat.zero_le _, hb, hb, h2⟩

theorem laidOut : laidOutB Tryz.prog = true := by kernel_rfl
end Go.Proofs.YtcphabjekfihnabGreat

namespace Go.Proofs.YtcphabjekfihnabGreat
open Go.ChangeShapes Go.WideShapes Go.ChangeAt Go.RowKit Flt

theorem cellsInts : Tryz.prog.cellsOf 22 = 1 := by kernel_rfl
theorem cellsLVals : Tryz.prog.cellsOf 23 = 1 := by kernel_rfl
theorem cellsLGraph : Tryz.prog.cellsOf 25 = 3 := by kernel_rfl
theorem array3 {α : Type} {cs : Array α} (h : cs.size = 3) : ∃ c0 c1 c2, cs = #[c0, c1, c2] := by
  obtain ⟨l⟩ := cs
  match l, h with
  | [c0, c1, c2], _ => exact ⟨c0, c1, c2, rfl⟩

set_option maxRecDepth 100000 in
/-- A slice of ints that came in. -/
theorem trod_ints {H : Type} {enc : TypeId × Value → H} {w : World} {base fuel : Nat} {spare : Nat → Bool} {held : Bool} {cs : List Value} {x : DataW H × List MemPlace}
    (hf : DataW.trod enc Tryz.prog w base spare held fuel 22 cs = some x) : ∃ a n cap, cs = [.slice a n cap] ∧ n ≤ 9223372036854775807 ∧ ∃ xs, IS w 0 w.heap.size a n xs := by
  rcases Deep.open_slice1 Tryz.underlying22 cellsInt hf with ⟨hcs, _⟩ | ⟨x, l, c, m, n', V, D, Pl, hcs, _, hl, hc, hm, _, hV⟩
  · exact ⟨_, _, _, hcs, by omega, [], rfl, .inl rfl⟩
  · refine ⟨_, _, _, hcs, by unfold maxLen at hc; omega, ?_⟩
    have hlm : l ≤ m := by rw [hm]; split <;> omega
    have key : ∀ i, i < l → ∃ b, w.cell? (x.add i) = some (.int .i64 b) := fun i hi => by
      obtain ⟨h1, h2⟩ := hV i (by omega)
      obtain ⟨b, e, _, _⟩ := DataW.trod_int Tryz.underlying3 h2
      simp at e
      exact ⟨b, by rw [h1, e]⟩
    obtain ⟨f, hf'⟩ := Deep.choose_lt (α := Int) (p := fun i b => w.cell? (x.add i) = some (.int .i64 b)) key
    refine ⟨(List.range l).map f, by simp, ?_⟩
    rcases Nat.eq_zero_or_pos l with h0 | h0
    · exact .inl h0
    · obtain ⟨b, off, spot⟩ := x
      have hspot : spot = none := by simpa [Addr.add] using World.cell?_spot (hf' 0 h0)
      subst hspot
      have h2 : ∀ k, k < l → w.cell? ⟨b, off + k, none⟩ = some (.int .i64 (((List.range l).map f).getD k 0)) := fun k hk => by
        have h1 := hf' k hk
        rw [show ((List.range l).map f).getD k 0 = f k by simp [List.getD_eq_getElem?_getD, hk]]
        by_cases hk0 : k = 0
        · subst hk0; simpa [Addr.add] using h1
        · simpa [Addr.add, hk0] using h1
      have hb := World.block_lt_of_cell? (h := h2 0 h0)
      exact .inr ⟨b, off, rfl, Nat.zero_le _, hb, hb, h2⟩

set_option maxRecDepth 100000 in
/-- A value of a graph among the cells. -/
theorem trod_val {H : Type} {enc : TypeId × Value → H} {w : World} {base fuel : Nat} {spare : Nat → Bool} {held : Bool} {cs : List Value} {x : DataW H × List MemPlace}
    (hl : cs.length = 6) (hf : DataW.trod enc Tryz.prog w base spare held fuel 61 cs = some x) : ∃ v : Vl, cs = v.cells ∧ v.k < 18446744073709551616 := by
  obtain ⟨xs, n, _, _, _, hlen, hfs⟩ := DataW.trod_struct Tryz.underlying61 hf
  match cs, hl with
  | [b0, b1, b2, b3, b4, b5], _ =>
  match xs, hlen with
  | [y0, y1, y2, y3, y4, y5], _ =>
    have h0 := hfs 0 _ rfl
    have h1 := hfs 1 _ rfl
    have h2 := hfs 2 _ rfl
    have h3 := hfs 3 _ rfl
    have h4 := hfs 4 _ rfl
    have h5 := hfs 5 _ rfl
    simp [cellsInt, cellsFloat] at h0 h1 h2 h3 h4 h5
    obtain ⟨a0, e0, _, _⟩ := DataW.trod_int Tryz.underlying3 h0
    obtain ⟨a1, e1, _, _⟩ := DataW.trod_int Tryz.underlying3 h1
    obtain ⟨a2, e2, _, _⟩ := DataW.trod_int Tryz.underlying3 h2
    obtain ⟨a3, e3, _, _⟩ := DataW.trod_int Tryz.underlying3 h3
    obtain ⟨a4, e4, _, _⟩ := DataW.trod_int Tryz.underlying3 h4
    obtain ⟨a5, e5, hw⟩ := trod_float Tryz.underlying57 h5
    simp at e0 e1 e2 e3 e4 e5
    subst e0 e1 e2 e3 e4 e5
    exact ⟨⟨a0, a1, a2, a3, a4, a5⟩, rfl, f64_lt hw⟩
instance : Inhabited Vl := ⟨Vl.zero⟩
set_option maxRecDepth 100000 in
/-- A slice of values that came in. -/
theorem trod_vals {H : Type} {enc : TypeId × Value → H} {w : World} {base fuel : Nat} {spare : Nat → Bool} {held : Bool} {cs : List Value} {x : DataW H × List MemPlace}
    (hf : DataW.trod enc Tryz.prog w base spare held fuel 23 cs = some x) : ∃ a n cap, cs = [.slice a n cap] ∧ n ≤ 9223372036854775807 ∧ ∃ vs, VS w 0 w.heap.size a n vs := by
  rcases Deep.open_slice Tryz.underlying23 hf with ⟨hcs, _⟩ | ⟨x, l, c, m, n', D, Pl, hcs, _, hl, hc, hm, _, hV⟩
  · exact ⟨_, _, _, hcs, by omega, [], rfl, by simp, .inl rfl⟩
  · refine ⟨_, _, _, hcs, by unfold maxLen at hc; omega, ?_⟩
    have hlm : l ≤ m := by rw [hm]; split <;> omega
    have key : ∀ i, i < l → ∃ v : Vl, (∀ j, j < 6 → w.cell? (x.add (i * 6 + j)) = v.cells[j]?) ∧ v.k < 18446744073709551616 := fun i hi => by
      obtain ⟨cs', h1, h2⟩ := hV i (by omega)
      rw [cellsLVal] at h1
      obtain ⟨_, h3, h4⟩ := World.cells?_some h1
      obtain ⟨v, rfl, hk⟩ := trod_val h3 h2
      exact ⟨v, fun j hj => by rw [← h4 j hj, Deep.add_add], hk⟩
    obtain ⟨f, hf'⟩ := Deep.choose_lt (α := Vl) (p := fun i v => (∀ j, j < 6 → w.cell? (x.add (i * 6 + j)) = v.cells[j]?) ∧ v.k < 18446744073709551616) key
    refine ⟨(List.range l).map f, by simp, ?_, ?_⟩
    · intro y hy
      simp only [List.mem_map, List.mem_range] at hy
      obtain ⟨i, hi, rfl⟩ := hy
      exact (hf' i hi).2
    · rcases Nat.eq_zero_or_pos l with h0 | h0
      · exact .inl h0
      · obtain ⟨b, off, spot⟩ := x
        have hspot : spot = none := by
          have := (hf' 0 h0).1 0 (by omega)
          simpa [Addr.add] using World.cell?_spot this
        subst hspot
        have h1 : ∀ i j, i < l → j < 6 → w.cell? ⟨b, off + (i * 6 + j), none⟩ = (f i).cells[j]? := fun i j hi hj => by
          have := (hf' i hi).1 j hj
          by_cases hk0 : i * 6 + j = 0
          · rw [hk0] at this ⊢; simpa [Addr.add] using this
          · unfold Addr.add at this
            rw [if_neg hk0] at this
            exact this
        have h2 : ∀ k, k < l → At w b (off + k * 6) (((List.range l).map f).getD k Vl.zero) := fun k hk => by
          rw [show ((List.range l).map f).getD k Vl.zero = f k by simp [List.getD_eq_getElem?_getD, hk]]
          have g := fun j hj => h1 k j hk hj
          have r : ∀ j, off + k * 6 + j = off + (k * 6 + j) := fun j => by omega
          refine ⟨?_, ?_, ?_, ?_, ?_, ?_⟩
          · exact g 0 (by omega)
          · rw [r]; exact g 1 (by omega)
          · rw [r]; exact g 2 (by omega)
          · rw [r]; exact g 3 (by omega)
          · rw [r]; exact g 4 (by omega)
          · rw [r]; exact g 5 (by omega)
        have hb := World.block_lt_of_cell? (h := (h2 0 h0).c0)
        exact .inr ⟨b, off, rfl, Nat.zero_le _, hb, hb, h2⟩

set_option maxRecDepth 100000 in
/-- A graph that came in. -/
theorem open_graph {H : Type} {enc : TypeId × Value → H} {w : World} {r : Reach} {b0 base : Nat} {spare : Nat → Bool} {held : Bool} {v : Value} {d : DataW H} {ps : List MemPlace}
    (hv : Value.okWide Tryz.prog w r b0 25 v) (h : DataW.Trod enc Tryz.prog w base spare held 25 v d ps) :
    ∃ a1 n1 c1 a2 n2 c2 a3 n3 c3 ins vs outs, v = gagg a1 n1 c1 a2 n2 c2 a3 n3 c3 ∧ GS w a1 n1 a2 n2 a3 n3 ins vs outs ∧ n1 ≤ 9223372036854775807 ∧ n2 ≤ 9223372036854775807 ∧ n3 ≤ 9223372036854775807 := by
  obtain ⟨cs, rfl, hsz⟩ := okWide_struct Tryz.underlying25 hv
  obtain ⟨b0, b1, b2, rfl⟩ := array3 (hsz.trans cellsLGraph)
  obtain ⟨fuel, hf⟩ := h
  obtain ⟨xs, n, _, _, _, hlen, hfs⟩ := DataW.trod_struct Tryz.underlying25 hf
  match xs, hlen with
  | [y0, y1, y2], _ =>
    have h0 := hfs 0 _ rfl
    have h1 := hfs 1 _ rfl
    have h2 := hfs 2 _ rfl
    simp [Value.cells, cellsInts, cellsLVals] at h0 h1 h2
    obtain ⟨a1, n1, c1, e1, l1, ins, f1⟩ := trod_ints h0
    obtain ⟨a2, n2, c2, e2, l2, vs, f2⟩ := trod_vals h1
    obtain ⟨a3, n3, c3, e3, l3, outs, f3⟩ := trod_ints h2
    simp at e1 e2 e3
    subst e1 e2 e3
    exact ⟨a1, n1, c1, a2, n2, c2, a3, n3, c3, ins, vs, outs, rfl, ⟨f1, f2, f3⟩, l1, l2, l3⟩
end Go.Proofs.YtcphabjekfihnabGreat
