import Derived.Test.YtiiimofkkahobaaDoorP09
import Derived.Test.YtiiimofkkahobaaDoorP23
import Derived.Test.YtiiimofkkahobaaDoorRows
import Derived.LaidMore
import Derived.OpenVars
import Derived.Lib.LaidTab
import Derived.Stop.Joined
namespace Go.Proofs.YtiiimofkkahobaaDoor
open Go.ChangeShapes Go.WideShapes Go.ChangeAt Go.WideElems Go.RowKit Flt

namespace PText
abbrev lst : List (String × DataW Unit) := [("math/bits.deBruijn32tab", Rows.laid_math_bits_deBruijn32tab), ("math/bits.deBruijn64tab", Rows.laid_math_bits_deBruijn64tab), ("internal/strconv.uint64pow10", Rows.laid_internal_strconv_uint64pow10), ("loop.example/s08086/impl.opWords", Rows.laid_loop_example_s08086_impl_opWords)]
theorem g64 : Tryd.prog.globalNamed "math/bits.deBruijn64tab" = some 5 := by kernel_rfl
theorem gOps : Tryd.prog.globalNamed "loop.example/s08086/impl.opWords" = some 0 := by kernel_rfl
theorem t64 : (Tryd.prog.globals[5]?).map (·.type) = some 115 := by kernel_rfl
theorem tPow : (Tryd.prog.globals[2]?).map (·.type) = some 105 := by kernel_rfl
theorem tOps : (Tryd.prog.globals[0]?).map (·.type) = some 55 := by kernel_rfl
def tab64 : List Int := [0, 1, 56, 2, 57, 49, 28, 3, 61, 58, 42, 50, 38, 29, 17, 4, 62, 47, 59, 36, 45, 43, 51, 22, 53, 39, 33, 30, 24, 18, 12, 5, 63, 55, 48, 27, 60, 41, 37, 16, 46, 35, 44, 21, 52, 32, 23, 11, 54, 26, 40, 15, 34, 20, 31, 10, 25, 14, 19, 9, 13, 8, 7, 6]
theorem eq64 : (Rows.laid_math_bits_deBruijn64tab : DataW Unit) = Lib.tabData .u8 tab64 := rfl
theorem eqPow : (Rows.laid_internal_strconv_uint64pow10 : DataW Unit) = Lib.tabData .u64 Lib.pow10Tab := rfl
theorem eqOps : (Rows.laid_loop_example_s08086_impl_opWords : DataW Unit) = .agg ((List.range 14).map fun k : Nat => .lit (.string (opW (k : Int)))) := rfl
/-- The door's own heap meets the condition. -/
theorem door_met (os : Os) (args : Array Value) : laidMetH Tryd.prog lst ((World.doorLaid Tryd.prog 400 os).forCall (fun _ _ => 0) ⟨#[], args, []⟩).memory :=
  laidMetH_of_parts3 (fuel := 8) (laidMet_of_run' 8 (by kernel_rfl) (by kernel_rfl)) (by kernel_rfl) (by kernel_rfl)
set_option maxRecDepth 100000 in
theorem tabs_of {W : World} (h : laidMetH Tryd.prog lst W) : Tabs W := by
  rw [MakeChecks.laidMetH_plain _ _ _ (by kernel_rfl)] at h
  obtain ⟨ps, ⟨g0, t0, cs0, f0, p0, q0, hg0, ht0, hv0, hd0, ⟨g1, t1, cs1, f1, p1, q1, hg1, ht1, hv1, hd1, ⟨g2, t2, cs2, f2, p2, q2, hg2, ht2, hv2, hd2, ⟨g3, t3, cs3, f3, p3, q3, hg3, ht3, hv3, hd3, _, _⟩, _⟩, _⟩, _⟩, _, _⟩ := h
  obtain rfl := Option.some.inj (g64.symm.trans hg1)
  obtain rfl := Option.some.inj (pow_at.symm.trans hg2)
  obtain rfl := Option.some.inj (gOps.symm.trans hg3)
  obtain rfl := Option.some.inj (t64.symm.trans ht1)
  obtain rfl := Option.some.inj (tPow.symm.trans ht2)
  obtain rfl := Option.some.inj (tOps.symm.trans ht3)
  rw [eq64] at hd1
  rw [eqPow] at hd2
  rw [eqOps] at hd3
  have c5 : Tryd.prog.cellsOf 5 = 1 := by kernel_rfl
  have cs64 : Tryd.prog.cellsOf 115 = 64 := by kernel_rfl
  have c46 : Tryd.prog.cellsOf 46 = 1 := by kernel_rfl
  have csP : Tryd.prog.cellsOf 105 = 20 := by kernel_rfl
  have c9 : Tryd.prog.cellsOf 9 = 1 := by kernel_rfl
  have k1 := Lib.cells_of_tab Tryd.underlying115 Tryd.underlying5 c5 cs64 hd1
  have k2 := Lib.cells_of_tab Tryd.underlying105 Tryd.underlying46 c46 csP hd2
  have h5 : W.cell? ⟨5, 15, none⟩ = some (.int .u8 4) := by
    have := World.var?_cell hg1 hv1 15
    rw [this, ← Array.getElem?_toList, k1]
    rfl
  have hz : 5 < W.heap.size := by
    rcases Nat.lt_or_ge 5 W.heap.size with c | c
    · exact c
    · simp [World.cell?, Array.getElem?_eq_none c] at h5
  refine ⟨hz, ?_, h5, fun k hk => ?_⟩
  · unfold Lib.TabIs
    rw [hv2, ← k2]
  · obtain ⟨xs, m, rfl, hx1, hlen, hn3, hel⟩ := DataW.trod_array Tryd.underlying55 hd3
    have hk0 := hel k hk
    obtain ⟨y, hy⟩ : ∃ y, xs[k]? = some y := ⟨xs[k]'(by omega), List.getElem?_eq_getElem (by omega)⟩
    rw [hy] at hk0
    obtain ⟨s, e1, e2, _⟩ := DataW.trod_string Tryd.underlying9 hk0
    simp only [Prod.mk.injEq, DataW.agg.injEq] at hx1
    have e3 : (xs.map (·.1))[k]? = some y.1 := by rw [List.getElem?_map, hy]; rfl
    rw [← hx1.1, List.getElem?_map, List.getElem?_range hk] at e3
    have e4 : s.data.toList = opW (k : Int) := by
      rw [e2] at e3
      simpa using e3.symm
    rw [World.var?_cell hg3 hv3 k, ← Array.getElem?_toList]
    have e5 : (cs3.toList.drop (k * Tryd.prog.cellsOf 9)).take (Tryd.prog.cellsOf 9) = [.string s] := e1
    rw [c9, Nat.mul_one] at e5
    have e6 : cs3.toList[k]? = some (.string s) := by
      have := congrArg (·[0]?) e5
      simpa [List.getElem?_take, List.getElem?_drop] using this
    rw [e6]
    unfold strL
    rw [← e4]
set_option maxRecDepth 100000 in
theorem lifted (os : Os) (started : os.Started) (H : Type) (enc : TypeId × Value → H) :
    ReturnsInHanded {} Tryd.checked os 3 .any (fun w args => (Rows.fnExactGraphTextSpec.pre enc Tryd.prog Tryd.f3 [] false w args ∧ laidMetH Tryd.prog lst w) ∧ sizedMet enc Tryd.prog Tryd.f3 (OpenSpec.ofChange Rows.fnExactGraphTextSpec) false w args)
      (Rows.fnExactGraphTextSpec.post enc Tryd.prog Tryd.f3 false true false false) := by
  refine returnsInHanded_of_change_and (C := Tryd.checked) (X := fun w _ => laidMetH Tryd.prog lst w) (fun _ _ _ hh h => h.of_heap hh) own started (by kernel_rfl) Tryd.func3
    (ChangeSpec.witness_shaped (enc := enc) (C := Tryd.checked) (os := os) (X := fun w _ => laidMetH Tryd.prog lst w) false (World.doorLaid Tryd.prog 400 os) #[.agg #[.slice none 0 0, .slice none 0 0, .slice none 0 0]] 8 rfl (World.shaped_of_RefB (by kernel_rfl) (by kernel_rfl)) (by kernel_rfl) (by kernel_rfl) (by kernel_rfl) (door_met os _)) ?_
  intro W base args ds gs before hval0 hW _ _ hL _
  have hval : ∀ (j : Nat) t v, Tryd.f3.params[j]? = some t → args[j]? = some v → Value.okWide Tryd.prog W .any base t v := hval0
  have hW' := hW
  obtain ⟨p, q, hA0, hV0, rfl, hfz, hnd⟩ := hW
  have hA : DataW.TrodAll enc Tryd.prog W 0 (fun _ => true) true Tryd.f3.params.toList args.toList ds p := hA0
  have hV : DataW.TrodVars enc Tryd.prog W (fun _ => true) ["loop.example/s08086/impl.opWords"] gs q := hV0
  rw [Tryd.params3] at hA hval
  obtain ⟨v0, vs0, d0, ds0, p0, q0, hargs, rfl, rfl, h0, r0⟩ := trodAll_cons hA
  obtain ⟨rfl, rfl, rfl⟩ := trodAll_nil r0
  obtain rfl : args = #[v0] := by cases args; simp_all
  have lt0 : ∀ x ∈ p0, x.block < W.heap.size := by obtain ⟨m, hm⟩ := h0; exact DataW.trod_lt m _ _ _ hm
  obtain ⟨a1, n1, c1, a2, n2, c2, a3, n3, c3, ins, vs, outs, rfl, f, l1, l2, l3⟩ := open_graph (hval 0 25 v0 rfl rfl) h0
  have T := tabs_of hL
  clear hA0 hval0
  have walk : Calls Tryd.prog 3 #[gagg a1 n1 c1 a2 n2 c2 a3 n3 c3] W fun e w' => e = .returned (.bool true) ∧ Below W.heap.size W w' := by
    by_cases hl : (1048576 : Int) - n1 - n2 - n3 < 0
    · exact fnText_long W a1 a2 a3 n1 c1 n2 c2 n3 c3 l1 l2 l3 hl
    · exact fnText W a1 a2 a3 n1 c1 n2 c2 n3 c3 ins vs outs f T hl
  refine walk.mono fun e W' ⟨he, bel⟩ => ?_
  subst he
  obtain ⟨_, _, _, _, d1, _, rfl, _⟩ := trodVars_one hV
  exact ⟨_, rfl, _, _, _, [], _, _, hW', trodAll_mk1 (shut_bool Tryd.underlying4 _), (trodAll_cons_mk (Below.trod laidOut (by kernel_rfl) (of_decide_eq_true (by kernel_rfl)) h0 bel lt0) trodAll_mk0), Below.trodVars laidOut bel (by kernel_rfl) hV, bel.frame _, fun h => by cases h⟩
end PText

theorem fnExactGraphText_row : Rows.FnExactGraphTextSaid :=
  OpenClaim.holds_of_wide 3 Tryd.f3 rfl rfl rfl rfl rfl rfl rfl ⟨rfl, rfl, rfl, rfl, rfl⟩ rfl rfl rfl rfl rfl (by kernel_rfl) Tryd.func3 (by kernel_rfl)
    (of_decide_eq_true (by kernel_rfl)) (by unfold Func.isWrapper; first | (rw [if_pos (by decide +kernel)]; kernel_rfl) | (rw [if_neg (by decide +kernel)]; exact ⟨rfl, rfl⟩))
    (fun os started H enc _ => PText.lifted os started H enc)
#print axioms fnExactGraphText_row
end Go.Proofs.YtiiimofkkahobaaDoor
