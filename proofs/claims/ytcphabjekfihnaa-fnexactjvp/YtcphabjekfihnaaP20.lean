import Derived.Test.YtcphabjekfihnaaP19
import Derived.Test.YtcphabjekfihnaaP03
import Derived.Deep.Slices
namespace Go.Proofs.Ytcphabjekfihnaa
open Go.RowKit Flt
attribute [local go_sem] alloc_drewN setCell_drewN run_store_float

theorem g0_startL (w : World) (b0 b1 b2 : Value) : G0 (w.alloc (.cells #[b0, b1, b2] 49)) w.heap.size b0 b1 b2 := by
  refine ⟨?_, ?_, ?_, ?_⟩
  all_goals first | (go_simp; done) | (simp; done)

set_option maxRecDepth 100000 in
set_option maxHeartbeats 2000000 in
theorem fnValid_long (w : World) (a1 a2 a3 : Option Addr) (n1 c1 n2 c2 n3 c3 : Nat) (hn1 : n1 ≤ 9223372036854775807) (hn2 : n2 ≤ 9223372036854775807) (hn3 : n3 ≤ 9223372036854775807) (h : (1048576 : Int) - n1 - n2 - n3 < 0) :
    Calls Try.prog 9 #[gagg a1 n1 c1 a2 n2 c2 a3 n3 c3] w fun e w' => e = .returned (.bool true) ∧ Below w.heap.size w w' := by
  have HZ : Hid _ := szGraph (w.alloc (.cells #[.slice a1 n1 c1, .slice a2 n2 c2, .slice a3 n3 c3] 49)) a1 a2 a3 n1 c1 n2 c2 n3 c3 1048576 (by omega) (by omega) hn1 hn2 hn3
  rw [if_pos h] at HZ
  clear hn1 hn2 hn3 h
  go_enter Try.func9, Try.ntmps9
  go_wp2_with fail
  refine Calls.mono HZ.out ?_
  rintro e w1 ⟨rfl, k1⟩
  go_wp2
  go_ret
  exact ⟨rfl, ((kept_alloc 0 0 w _).trans k1).below⟩

set_option maxRecDepth 100000 in
set_option maxHeartbeats 2000000 in
theorem fnValid (w : World) (a1 a2 a3 : Option Addr) (n1 c1 n2 c2 n3 c3 : Nat) (ins : List Int) (vs : List Vl) (outs : List Int) (f : GS w a1 n1 a2 n2 a3 n3 ins vs outs) (h : ¬ ((1048576 : Int) - n1 - n2 - n3 < 0)) :
    Calls Try.prog 9 #[gagg a1 n1 c1 a2 n2 c2 a3 n3 c3] w fun e w' => e = .returned (.bool true) ∧ Below w.heap.size w w' := by
  have HZ : Hid _ := szGraph (w.alloc (.cells #[.slice a1 n1 c1, .slice a2 n2 c2, .slice a3 n3 c3] 49)) a1 a2 a3 n1 c1 n2 c2 n3 c3 1048576 (by omega) (by omega) (by omega) (by omega) (by omega)
  rw [if_neg h] at HZ
  have h1 : n1 ≤ 1048576 := by omega
  have h2 : n2 ≤ 1048576 := by omega
  have h3 : n3 ≤ 1048576 := by omega
  go_enter Try.func9, Try.ntmps9
  go_wp2_with fail
  refine Calls.mono HZ.out ?_
  rintro e w1 ⟨rfl, k1⟩
  have hK := (kept_alloc 0 0 w (.cells #[.slice a1 n1 c1, .slice a2 n2 c2, .slice a3 n3 c3] 49)).trans k1
  have hB := (g0_startL w (.slice a1 n1 c1) (.slice a2 n2 c2) (.slice a3 n3 c3)).keep k1
  have HF : Hid _ := f.keep hK
  have HK1 : Hid _ := hK
  have HB1 : Hid _ := hB
  obtain ⟨_, q0, q1, q2⟩ := hB
  have HLT : Hid _ := f.v.lt
  clear k1 HZ hK f
  go_wp2_with fail
  clear q0 q1 q2
  refine Calls.mono (toGraph _ a1 a2 a3 n1 c1 n2 c2 n3 c3 ins vs outs HF.out h1 h2 h3) ?_
  rintro e w2 ⟨g1, g2, g3, rfl, hO, k2⟩
  have HF2 : Hid _ := GS.keep HF.out k2
  have HK2 : Hid _ := Kept.trans HK1.out k2
  have HB2 : Hid _ := G0.keep HB1.out k2
  have HS : Hid _ := hO.gs HLT.out
  clear k2 hO HF HK1 HB1
  rw [HF2.out.i.len, HF2.out.o.len] at HS
  go_wp2_with fail
  refine Calls.mono (specValid _ _ _ _ n1 n1 n2 n2 n3 n3 ins vs outs HS.out) ?_
  rintro e w3 ⟨rfl, k3⟩
  have HF3 : Hid _ := GS.keep HF2.out k3
  have HK3 : Hid _ := Kept.trans HK2.out k3
  have HB3 : Hid _ := G0.keep HB2.out k3
  clear k3 HF2 HK2 HB2 HS
  obtain ⟨_, q0, q1, q2⟩ := HB3.out
  go_wp2_with fail
  clear q0 q1 q2
  refine Calls.mono (toGraph _ a1 a2 a3 n1 c1 n2 c2 n3 c3 ins vs outs HF3.out h1 h2 h3) ?_
  rintro e w4 ⟨x1, x2, x3, rfl, hO, k4⟩
  have HF4 : Hid _ := GS.keep HF3.out k4
  have HK4 : Hid _ := Kept.trans HK3.out k4
  have HB4 : Hid _ := G0.keep HB3.out k4
  have HX4 : Hid _ := hO.gs HLT.out
  clear k4 hO HF3 HK3 HB3
  rw [HF4.out.i.len, HF4.out.o.len] at HX4
  go_wp2_with fail
  have ka := kept_alloc 0 0 w4 (gbox (some ⟨x1, 0, none⟩) n1 n1 (some ⟨x2, 0, none⟩) n2 n2 (some ⟨x3, 0, none⟩) n3 n3)
  have HY5 : Hid _ := g0_start w4 (.slice (some ⟨x1, 0, none⟩) n1 n1) (.slice (some ⟨x2, 0, none⟩) n2 n2) (.slice (some ⟨x3, 0, none⟩) n3 n3)
  refine Calls.mono (implValid _ _ _ _ n1 n1 n2 n2 n3 n3 ins vs outs (GS.keep HX4.out ka)) ?_
  rintro e w6 ⟨rfl, k6⟩
  have HF6 : Hid _ := GS.keep HF4.out (ka.trans k6)
  have HK6 : Hid _ := Kept.trans HK4.out (ka.trans k6)
  have HB6 : Hid _ := G0.keep HB4.out (ka.trans k6)
  have HX6 : Hid _ := GS.keep HX4.out (ka.trans k6)
  have HY6 : Hid _ := G0.keep HY5.out k6
  clear k6 ka HF4 HK4 HB4 HX4 HY5
  have tt : (okG ins vs outs != okG ins vs outs) = false := by cases okG ins vs outs <;> rfl
  generalize okG ins vs outs = b at tt ⊢
  obtain ⟨_, q0, q1, q2⟩ := HB6.out
  obtain ⟨_, y0, y1, y2⟩ := HY6.out
  have HT : Hid (∀ m, _) := fun m => toGraph (w6.drewN m) a1 a2 a3 n1 c1 n2 c2 n3 c3 ins vs outs (GS.keep HF6.out (kept_drewN 0 0 w6 m)) h1 h2 h3
  go_wp2_with fail
  go_region_with (first
    | (go_at_call 37; refine Calls.mono (HT.out 1) ?_; rintro e w7 ⟨z1, z2, z3, rfl, hO, k7⟩; have hy := G0.keep HY6.out (Kept.trans (kept_drewN 0 0 w6 1) k7); obtain ⟨_, u0, u1, u2⟩ := hy)
    | (go_at_call 39; refine Calls.mono (eqGraph _ _ _ _ _ _ _ n1 n1 n2 n2 n3 n3 n1 n2 n3 ins vs outs (GS.keep HX6.out (Kept.trans (kept_drewN 0 0 w6 1) k7)) (by have := hO.gs HLT.out; rw [HF6.out.i.len, HF6.out.o.len] at this; exact this) h1 h2 h3) ?_; rintro e w8 ⟨rfl, k8⟩))
  all_goals
    go_wp2
    go_ret
    exact ⟨rfl, (Kept.trans HK6.out ((Kept.trans (kept_drewN 0 0 w6 1) k7).trans k8)).below⟩
end Go.Proofs.Ytcphabjekfihnaa

namespace Go.Proofs.Ytcphabjekfihnaa
open Go.ChangeShapes Go.WideShapes Go.ChangeAt Go.RowKit Flt

theorem trod_float {H : Type} {enc : TypeId × Value → H} {P : Program} {w : World} {base : Nat} {spare : Nat → Bool} {held : Bool} {t : TypeId} {fuel : Nat} {cs : List Value} {x : DataW H × List MemPlace} {k : FloatKind}
    (ht : P.underlying t = some (.float k)) (h : DataW.trod enc P w base spare held fuel t cs = some x) : ∃ b, cs = [.float k b] ∧ (Lit.float k b).wf = true := by
  cases fuel with
  | zero => simp [DataW.trod] at h
  | succ n =>
    unfold DataW.trod at h
    rw [ht] at h
    split at h <;> simp_all
theorem array6 {α : Type} {cs : Array α} (h : cs.size = 6) : ∃ c0 c1 c2 c3 c4 c5, cs = #[c0, c1, c2, c3, c4, c5] := by
  obtain ⟨l⟩ := cs
  match l, h with
  | [c0, c1, c2, c3, c4, c5], _ => exact ⟨c0, c1, c2, c3, c4, c5, rfl⟩
theorem cellsInt : Try.prog.cellsOf 3 = 1 := by kernel_rfl
theorem cellsFloat : Try.prog.cellsOf 23 = 1 := by kernel_rfl
theorem cellsLVal : Try.prog.cellsOf 37 = 6 := by kernel_rfl

set_option maxRecDepth 100000 in
/-- A value of a graph that came in, by value. -/
theorem open_val {H : Type} {enc : TypeId × Value → H} {w : World} {r : Reach} {b0 base : Nat} {spare : Nat → Bool} {held : Bool} {v : Value} {d : DataW H} {ps : List MemPlace}
    (hv : Value.okWide Try.prog w r b0 37 v) (h : DataW.Trod enc Try.prog w base spare held 37 v d ps) : ∃ (op len A B C : Int) (K : Nat), v = vagg op len A B C K ∧ K < 18446744073709551616 := by
  obtain ⟨cs, rfl, hsz⟩ := okWide_struct Try.underlying37 hv
  obtain ⟨c0, c1, c2, c3, c4, c5, rfl⟩ := array6 (hsz.trans cellsLVal)
  obtain ⟨fuel, hf⟩ := h
  obtain ⟨xs, n, _, _, _, hlen, hfs⟩ := DataW.trod_struct Try.underlying37 hf
  match xs, hlen with
  | [y0, y1, y2, y3, y4, y5], _ =>
    have h0 := hfs 0 _ rfl
    have h1 := hfs 1 _ rfl
    have h2 := hfs 2 _ rfl
    have h3 := hfs 3 _ rfl
    have h4 := hfs 4 _ rfl
    have h5 := hfs 5 _ rfl
    simp [Value.cells, cellsInt, cellsFloat] at h0 h1 h2 h3 h4 h5
    obtain ⟨a0, e0, _, _⟩ := DataW.trod_int Try.underlying3 h0
    obtain ⟨a1, e1, _, _⟩ := DataW.trod_int Try.underlying3 h1
    obtain ⟨a2, e2, _, _⟩ := DataW.trod_int Try.underlying3 h2
    obtain ⟨a3, e3, _, _⟩ := DataW.trod_int Try.underlying3 h3
    obtain ⟨a4, e4, _, _⟩ := DataW.trod_int Try.underlying3 h4
    obtain ⟨a5, e5, hw⟩ := trod_float Try.underlying23 h5
    simp at e0 e1 e2 e3 e4 e5
    subst e0 e1 e2 e3 e4 e5
    exact ⟨a0, a1, a2, a3, a4, a5, rfl, f64_lt hw⟩

/-- A slice of floats that came in. -/
theorem open_floats {H : Type} {enc : TypeId × Value → H} {w : World} {base : Nat} {spare : Nat → Bool} {held : Bool} {a : Option Addr} {n cap : Nat} {d : DataW H} {ps : List MemPlace}
    (h : DataW.Trod enc Try.prog w base spare held 38 (.slice a n cap) d ps) : n ≤ cap ∧ ∃ xs, FS w 0 w.heap.size a n xs := by
  obtain ⟨fuel, hf⟩ := h
  rcases Deep.open_slice1 Try.underlying38 cellsFloat hf with ⟨hcs, _⟩ | ⟨x, l, c, m, n', V, D, Pl, hcs, _, hl, _, hm, _, hV⟩
  · simp [Value.cells] at hcs
    obtain ⟨rfl, rfl, rfl⟩ := hcs
    exact ⟨Nat.le_refl _, [], rfl, by simp, .inl rfl⟩
  · simp [Value.cells] at hcs
    obtain ⟨rfl, rfl, rfl⟩ := hcs
    refine ⟨hl, ?_⟩
    have hlm : n ≤ m := by rw [hm]; split <;> omega
    have key : ∀ i, i < n → ∃ b, w.cell? (x.add i) = some (.float .f64 b) ∧ b < 18446744073709551616 := fun i hi => by
      obtain ⟨h1, h2⟩ := hV i (by omega)
      obtain ⟨b, e, hw⟩ := trod_float Try.underlying23 h2
      simp at e
      exact ⟨b, by rw [h1, e], f64_lt hw⟩
    obtain ⟨f, hf'⟩ := Deep.choose_lt (α := Nat) (p := fun i b => w.cell? (x.add i) = some (.float .f64 b) ∧ b < 18446744073709551616) key
    refine ⟨(List.range n).map f, by simp, ?_, ?_⟩
    · intro y hy
      simp only [List.mem_map, List.mem_range] at hy
      obtain ⟨i, hi, rfl⟩ := hy
      exact (hf' i hi).2
    · rcases Nat.eq_zero_or_pos n with h0 | h0
      · exact .inl h0
      · obtain ⟨b, off, spot⟩ := x
        have hspot : spot = none := by simpa [Addr.add] using World.cell?_spot (hf' 0 h0).1
        subst hspot
        have h2 : ∀ k, k < n → w.cell? ⟨b, off + k, none⟩ = some (.float .f64 (((List.range n).map f).getD k 0)) := fun k hk => by
          have h1 := (hf' k hk).1
          rw [show ((List.range n).map f).getD k 0 = f k by simp [List.getD_eq_getElem?_getD, hk]]
          by_cases hk0 : k = 0
          · subst hk0; simpa [Addr.add] using h1
          · simpa [Addr.add, hk0] using h1
        have hb := World.block_lt_of_cell? (h := h2 0 h0)
        exact .inr ⟨b, off, rfl, Nat.zero_le _, hb, hb, h2⟩

theorem laidOut : laidOutB Try.prog = true := by kernel_rfl
end Go.Proofs.Ytcphabjekfihnaa

namespace Go.Proofs.Ytcphabjekfihnaa
open Go.ChangeShapes Go.WideShapes Go.ChangeAt Go.RowKit Flt

theorem cellsInts : Try.prog.cellsOf 46 = 1 := by kernel_rfl
theorem cellsLVals : Try.prog.cellsOf 47 = 1 := by kernel_rfl
theorem cellsLGraph : Try.prog.cellsOf 49 = 3 := by kernel_rfl
theorem array3 {α : Type} {cs : Array α} (h : cs.size = 3) : ∃ c0 c1 c2, cs = #[c0, c1, c2] := by
  obtain ⟨l⟩ := cs
  match l, h with
  | [c0, c1, c2], _ => exact ⟨c0, c1, c2, rfl⟩

set_option maxRecDepth 100000 in
/-- A slice of ints that came in. -/
theorem trod_ints {H : Type} {enc : TypeId × Value → H} {w : World} {base fuel : Nat} {spare : Nat → Bool} {held : Bool} {cs : List Value} {x : DataW H × List MemPlace}
    (hf : DataW.trod enc Try.prog w base spare held fuel 46 cs = some x) : ∃ a n cap, cs = [.slice a n cap] ∧ n ≤ 9223372036854775807 ∧ ∃ xs, IS w 0 w.heap.size a n xs := by
  rcases Deep.open_slice1 Try.underlying46 cellsInt hf with ⟨hcs, _⟩ | ⟨x, l, c, m, n', V, D, Pl, hcs, _, hl, hc, hm, _, hV⟩
  · exact ⟨_, _, _, hcs, by omega, [], rfl, .inl rfl⟩
  · refine ⟨_, _, _, hcs, by unfold maxLen at hc; omega, ?_⟩
    have hlm : l ≤ m := by rw [hm]; split <;> omega
    have key : ∀ i, i < l → ∃ b, w.cell? (x.add i) = some (.int .i64 b) := fun i hi => by
      obtain ⟨h1, h2⟩ := hV i (by omega)
      obtain ⟨b, e, _, _⟩ := DataW.trod_int Try.underlying3 h2
      simp at e
      exact ⟨b, by rw [h1, e]⟩
    obtain ⟨f, hf'⟩ := Deep.choose_lt (α := Int) (p := fun i b => w.cell? (x.add i) = some (.int .i64 b)) key
    refine ⟨(List.range l).map f, by simp, ?_⟩
    rcases Nat.eq_zero_or_pos l with h0 | h0
    · exact .inl h0
    · obtain ⟨b, off, spot⟩ := x
      have hspot : spot = none := by simpa [Addr.add] using World.cell?_spot (hf' 0 h0)
      subst hspot
      have h2 : ∀ k, k < l → w.cell? ⟨b, off + k, none⟩ = some (.int .i64 (((List.range l).map f).getD k 0)) := fun k hk => by
        have h1 := hf' k hk
        rw [show ((List.range l).map f).getD k 0 = f k by simp [List.getD_eq_getElem?_getD, hk]]
        by_cases hk0 : k = 0
        · subst hk0; simpa [Addr.add] using h1
        · simpa [Addr.add, hk0] using h1
      have hb := World.block_lt_of_cell? (h := h2 0 h0)
      exact .inr ⟨b, off, rfl, Nat.zero_le _, hb, hb, h2⟩

set_option maxRecDepth 100000 in
/-- A value of a graph among the cells. -/
theorem trod_val {H : Type} {enc : TypeId × Value → H} {w : World} {base fuel : Nat} {spare : Nat → Bool} {held : Bool} {cs : List Value} {x : DataW H × List MemPlace}
    (hl : cs.length = 6) (hf : DataW.trod enc Try.prog w base spare held fuel 37 cs = some x) : ∃ v : Vl, cs = v.cells ∧ v.k < 18446744073709551616 := by
  obtain ⟨xs, n, _, _, _, hlen, hfs⟩ := DataW.trod_struct Try.underlying37 hf
  match cs, hl with
  | [b0, b1, b2, b3, b4, b5], _ =>
  match xs, hlen with
  | [y0, y1, y2, y3, y4, y5], _ =>
    have h0 := hfs 0 _ rfl
    have h1 := hfs 1 _ rfl
    have h2 := hfs 2 _ rfl
    have h3 := hfs 3 _ rfl
    have h4 := hfs 4 _ rfl
    have h5 := hfs 5 _ rfl
    simp [cellsInt, cellsFloat] at h0 h1 h2 h3 h4 h5
    obtain ⟨a0, e0, _, _⟩ := DataW.trod_int Try.underlying3 h0
    obtain ⟨a1, e1, _, _⟩ := DataW.trod_int Try.underlying3 h1
    obtain ⟨a2, e2, _, _⟩ := DataW.trod_int Try.underlying3 h2
    obtain ⟨a3, e3, _, _⟩ := DataW.trod_int Try.underlying3 h3
    obtain ⟨a4, e4, _, _⟩ := DataW.trod_int Try.underlying3 h4
    obtain ⟨a5, e5, hw⟩ := trod_float Try.underlying23 h5
    simp at e0 e1 e2 e3 e4 e5
    subst e0 e1 e2 e3 e4 e5
    exact ⟨⟨a0, a1, a2, a3, a4, a5⟩, rfl, f64_lt hw⟩
instance : Inhabited Vl := ⟨Vl.zero⟩
set_option maxRecDepth 100000 in
/-- A slice of values that came in. -/
theorem trod_vals {H : Type} {enc : TypeId × Value → H} {w : World} {base fuel : Nat} {spare : Nat → Bool} {held : Bool} {cs : List Value} {x : DataW H × List MemPlace}
    (hf : DataW.trod enc Try.prog w base spare held fuel 47 cs = some x) : ∃ a n cap, cs = [.slice a n cap] ∧ n ≤ 9223372036854775807 ∧ ∃ vs, VS w 0 w.heap.size a n vs := by
  rcases Deep.open_slice Try.underlying47 hf with ⟨hcs, _⟩ | ⟨x, l, c, m, n', D, Pl, hcs, _, hl, hc, hm, _, hV⟩
  · exact ⟨_, _, _, hcs, by omega, [], rfl, by simp, .inl rfl⟩
  · refine ⟨_, _, _, hcs, by unfold maxLen at hc; omega, ?_⟩
    have hlm : l ≤ m := by rw [hm]; split <;> omega
    have key : ∀ i, i < l → ∃ v : Vl, (∀ j, j < 6 → w.cell? (x.add (i * 6 + j)) = v.cells[j]?) ∧ v.k < 18446744073709551616 := fun i hi => by
      obtain ⟨cs', h1, h2⟩ := hV i (by omega)
      rw [cellsLVal] at h1
      obtain ⟨_, h3, h4⟩ := World.cells?_some h1
      obtain ⟨v, rfl, hk⟩ := trod_val h3 h2
      exact ⟨v, fun j hj => by rw [← h4 j hj, Deep.add_add], hk⟩
    obtain ⟨f, hf'⟩ := Deep.choose_lt (α := Vl) (p := fun i v => (∀ j, j < 6 → w.cell? (x.add (i * 6 + j)) = v.cells[j]?) ∧ v.k < 18446744073709551616) key
    refine ⟨(List.range l).map f, by simp, ?_, ?_⟩
    · intro y hy
      simp only [List.mem_map, List.mem_range] at hy
      obtain ⟨i, hi, rfl⟩ := hy
      exact (hf' i hi).2
    · rcases Nat.eq_zero_or_pos l with h0 | h0
      · exact .inl h0
      · obtain ⟨b, off, spot⟩ := x
        have hspot : spot = none := by
          have := (hf' 0 h0).1 0 (by omega)
          simpa [Addr.add] using World.cell?_spot this
        subst hspot
        have h1 : ∀ i j, i < l → j < 6 → w.cell? ⟨b, off + (i * 6 + j), none⟩ = (f i).cells[j]? := fun i j hi hj => by
          have := (hf' i hi).1 j hj
          by_cases hk0 : i * 6 + j = 0
          · rw [hk0] at this ⊢; simpa [Addr.add] using this
          · unfold Addr.add at this
            rw [if_neg hk0] at this
            exact this
        have h2 : ∀ k, k < l → At w b (off + k * 6) (((List.range l).map f).getD k Vl.zero) := fun k hk => by
          rw [show ((List.range l).map f).getD k Vl.zero = f k by simp [List.getD_eq_getElem?_getD, hk]]
          have g := fun j hj => h1 k j hk hj
          have r : ∀ j, off + k * 6 + j = off + (k * 6 + j) := fun j => by omega
          refine ⟨?_, ?_, ?_, ?_, ?_, ?_⟩
          · exact g 0 (by omega)
          · rw [r]; exact g 1 (by omega)
          · rw [r]; exact g 2 (by omega)
          · rw [r]; exact g 3 (by omega)
          · rw [r]; exact g 4 (by omega)
          · rw [r]; exact g 5 (by omega)
        have hb := World.block_lt_of_cell? (h := (h2 0 h0).c0)
        exact .inr ⟨b, off, rfl, Nat.zero_le _, hb, hb, h2⟩

set_option maxRecDepth 100000 in
/-- A graph that came in. -/
theorem open_graph {H : Type} {enc : TypeId × Value → H} {w : World} {r : Reach} {b0 base : Nat} {spare : Nat → Bool} {held : Bool} {v : Value} {d : DataW H} {ps : List MemPlace}
    (hv : Value.okWide Try.prog w r b0 49 v) (h : DataW.Trod enc Try.prog w base spare held 49 v d ps) :
    ∃ a1 n1 c1 a2 n2 c2 a3 n3 c3 ins vs outs, v = gagg a1 n1 c1 a2 n2 c2 a3 n3 c3 ∧ GS w a1 n1 a2 n2 a3 n3 ins vs outs ∧ n1 ≤ 9223372036854775807 ∧ n2 ≤ 9223372036854775807 ∧ n3 ≤ 9223372036854775807 := by
  obtain ⟨cs, rfl, hsz⟩ := okWide_struct Try.underlying49 hv
  obtain ⟨b0, b1, b2, rfl⟩ := array3 (hsz.trans cellsLGraph)
  obtain ⟨fuel, hf⟩ := h
  obtain ⟨xs, n, _, _, _, hlen, hfs⟩ := DataW.trod_struct Try.underlying49 hf
  match xs, hlen with
  | [y0, y1, y2], _ =>
    have h0 := hfs 0 _ rfl
    have h1 := hfs 1 _ rfl
    have h2 := hfs 2 _ rfl
    simp [Value.cells, cellsInts, cellsLVals] at h0 h1 h2
    obtain ⟨a1, n1, c1, e1, l1, ins, f1⟩ := trod_ints h0
    obtain ⟨a2, n2, c2, e2, l2, vs, f2⟩ := trod_vals h1
    obtain ⟨a3, n3, c3, e3, l3, outs, f3⟩ := trod_ints h2
    simp at e1 e2 e3
    subst e1 e2 e3
    exact ⟨a1, n1, c1, a2, n2, c2, a3, n3, c3, ins, vs, outs, rfl, ⟨f1, f2, f3⟩, l1, l2, l3⟩
end Go.Proofs.Ytcphabjekfihnaa
