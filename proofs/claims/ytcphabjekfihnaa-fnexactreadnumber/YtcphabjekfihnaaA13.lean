import Derived.Test.YtcphabjekfihnaaA10
import Derived.Deep.Slices
import Derived.Test.YtcphabjekfihnaaA12
namespace Go.Proofs.Ytcphabjekfihnaa
open Go.ChangeShapes Go.WideShapes Go.ChangeAt Go.RowKit Flt

theorem cellsByte : Try.prog.cellsOf 5 = 1 := by kernel_rfl
theorem laidOutQ : laidOutB Try.prog = true := by kernel_rfl
/-- A slice of bytes that came in. -/
theorem open_bytes {H : Type} {enc : TypeId × Value → H} {w : World} {base : Nat} {spare : Nat → Bool} {held : Bool} {a : Option Addr} {n cap : Nat} {d : DataW H} {ps : List MemPlace}
    (h : DataW.Trod enc Try.prog w base spare held 22 (.slice a n cap) d ps) : n ≤ cap ∧ ∃ xs, YS w a n xs := by
  obtain ⟨fuel, hf⟩ := h
  rcases Deep.open_slice1 Try.underlying22 cellsByte hf with ⟨hcs, _⟩ | ⟨x, l, c, m, n', V, D, Pl, hcs, _, hl, _, hm, _, hV⟩
  · simp [Value.cells] at hcs
    obtain ⟨rfl, rfl, rfl⟩ := hcs
    exact ⟨Nat.le_refl _, [], rfl, by simp, .inl rfl⟩
  · simp [Value.cells] at hcs
    obtain ⟨rfl, rfl, rfl⟩ := hcs
    refine ⟨hl, ?_⟩
    have hlm : n ≤ m := by rw [hm]; split <;> omega
    have key : ∀ i, i < n → ∃ b : Int, w.cell? (x.add i) = some (.int .u8 b) ∧ 0 ≤ b ∧ b < 256 := fun i hi => by
      obtain ⟨h1, h2⟩ := hV i (by omega)
      obtain ⟨b, e, hw⟩ := DataW.trod_int Try.underlying5 h2
      simp at e
      have hb : 0 ≤ b ∧ b < 256 := by
        have := hw.2
        simp [Lit.wf, IntKind.min, IntKind.max, IntKind.signed, IntKind.bits] at this
        omega
      exact ⟨b, by rw [h1, e], hb.1, hb.2⟩
    obtain ⟨f, hf'⟩ := Deep.choose_lt (α := Int) (p := fun i b => w.cell? (x.add i) = some (.int .u8 b) ∧ 0 ≤ b ∧ b < 256) key
    refine ⟨(List.range n).map f, by simp, ?_, ?_⟩
    · intro y hy
      simp only [List.mem_map, List.mem_range] at hy
      obtain ⟨i, hi, rfl⟩ := hy
      exact (hf' i hi).2
    · rcases Nat.eq_zero_or_pos n with h0 | h0
      · exact .inl h0
      · obtain ⟨b, off, spot⟩ := x
        have hspot : spot = none := by simpa [Addr.add] using World.cell?_spot (hf' 0 h0).1
        subst hspot
        have h2 : ∀ k, k < n → w.cell? ⟨b, off + k, none⟩ = some (.int .u8 (((List.range n).map f).getD k 0)) := fun k hk => by
          have h1 := (hf' k hk).1
          rw [show ((List.range n).map f).getD k 0 = f k by simp [List.getD_eq_getElem?_getD, hk]]
          by_cases hk0 : k = 0
          · subst hk0; simpa [Addr.add] using h1
          · simpa [Addr.add, hk0] using h1
        have hb := World.block_lt_of_cell? (h := h2 0 h0)
        exact .inr ⟨b, off, rfl, hb, h2⟩

end Go.Proofs.Ytcphabjekfihnaa

namespace Go.Proofs.Ytcphabjekfihnaa
open Go.ChangeShapes Go.WideShapes Go.ChangeAt Go.RowKit Flt

set_option maxRecDepth 100000 in
set_option maxHeartbeats 2000000 in
theorem fnRN (w : World) (a : Option Addr) (n cap : Nat) (xs : List Int) (f : YS w a n xs) (hn : n ≤ 1048576) :
    Calls Try.prog 12 #[.slice a n cap] w fun e w' => e = .returned (.bool true) ∧ Kept 0 0 w w' := by
  have h2 := convff
  have HF : Hid _ := f
  have HT : Hid (∀ W : World, Kept 0 0 w W → _) := fun W (k : Kept 0 0 w W) => toY W a n cap xs (f.keep k) hn
  have tn : ¬ ((1048576 : Int) < (n : Int)) := by omega
  clear f
  go_enter Try.func12, Try.ntmps12
  go_wp2_with fail
  refine Calls.mono (HT.out w (Kept.refl 0 0 w)) ?_
  rintro e w1 ⟨rfl, y1, k1⟩
  have HX : Hid _ := specRN w1 _ n n xs y1 hn
  clear y1
  go_wp2_with fail
  refine Calls.mono HX.out ?_
  rintro e w2 ⟨F, C, rfl, hr, d2⟩
  have k2 := k1.trans (d2.kept 0 0)
  have HR : Hid _ := hr
  clear hr HX d2 k1
  go_wp2_with fail
  refine Calls.mono (HT.out w2 k2) ?_
  rintro e w3 ⟨rfl, y3, k3⟩
  have HX : Hid _ := implRN w3 _ n n xs y3 hn
  have HY : Hid _ := y3
  clear y3
  go_wp2_with fail
  refine Calls.mono HX.out ?_
  rintro e w4 ⟨F2, C2, rfl, hr, d4⟩
  obtain ⟨s1, rfl, s3, s4⟩ := hr.same HR.out
  have k4 := (k2.trans k3).trans (d4.kept 0 0)
  have HS : Hid _ := sameF F2 F w4 s3 s4
  rw [show ((fb F2 : Int) == (fb F : Int)) = true by rw [s1]; exact beq_self_eq_true _] at HS
  have HY4 : Hid _ := YS.keep HY.out (d4.kept 0 0)
  clear hr HX d4 k2 k3 HR HY s1 s3 s4
  go_wp2_with fail
  refine Calls.mono HS.out ?_
  rintro e w5 ⟨rfl, rfl⟩
  have tC : (C2 != C2) = false := by simp
  go_wp2_with fail
  refine Calls.mono (HT.out _ k4) ?_
  rintro e w6 ⟨rfl, y6, k6⟩
  have HE : Hid _ := eqY w6 _ _ n n n xs (YS.keep HY4.out k6) y6 (by omega)
  clear y6
  go_wp2_with fail
  refine Calls.mono HE.out ?_
  rintro e w7 ⟨rfl, d7⟩
  have R : Hid _ := (k4.trans k6).trans (d7.kept 0 0)
  clear d7 k4 k6 HE
  go_wp2
  go_ret
  exact ⟨rfl, R.out⟩
set_option maxRecDepth 100000 in
set_option maxHeartbeats 1000000 in
theorem fnRN_long (w : World) (a : Option Addr) (n cap : Nat) (h : ¬ n ≤ 1048576) :
    Calls Try.prog 12 #[.slice a n cap] w fun e w' => e = .returned (.bool true) ∧ Kept 0 0 w w' := by
  have h3 : 1048576 < n := by omega
  clear h
  go_enter Try.func12, Try.ntmps12
  go_wp2
  go_ret
  exact ⟨rfl, Kept.refl 0 0 w⟩

namespace PRN
set_option maxRecDepth 100000 in
theorem lifted (os : Os) (started : os.Started) (H : Type) (enc : TypeId × Value → H) :
    ReturnsInHanded {} Try.checked os 12 .any (Rows.fnExactReadNumberSpec.pre6 enc Try.prog Try.f12 Rows.fnExactReadNumberRow.domain false) (Rows.fnExactReadNumberSpec.post enc Try.prog Try.f12 false true false false) := by
  refine returnsInHanded_of_change (C := Try.checked) own started (by kernel_rfl) Try.func12
    (ChangeSpec.witness6 (enc := enc) (C := Try.checked) false ⟨#[], #[.slice none 0 0], []⟩ 8 (by kernel_rfl) (by kernel_rfl) (by kernel_rfl) (by kernel_rfl)) ?_
  intro W base args ds gs before hval0 hW hcnd _
  have hval : ∀ (j : Nat) t v, Try.f12.params[j]? = some t → args[j]? = some v → Value.okWide Try.prog W .any base t v := hval0
  have hW' := hW
  obtain ⟨p, q, hA0, hV, rfl, hfz, hnd⟩ := hW
  have hA : DataW.TrodAll enc Try.prog W 0 (fun _ => true) true Try.f12.params.toList args.toList ds p := hA0
  rw [Try.params12] at hA hval
  obtain ⟨v0, vs0, d0, ds0, p0, q0, hargs, rfl, rfl, h0, r0⟩ := trodAll_cons hA
  obtain ⟨rfl, rfl, rfl⟩ := trodAll_nil r0
  obtain rfl : args = #[v0] := by cases args; simp_all
  obtain ⟨rfl, rfl⟩ := trodVars_none hV
  have lt0 : ∀ x ∈ p0, x.block < W.heap.size := by obtain ⟨m, hm⟩ := h0; exact DataW.trod_lt m _ _ _ hm
  obtain ⟨a, la, ca, rfl⟩ := okWide_slice Try.underlying22 (hval 0 22 v0 rfl rfl)
  obtain ⟨_, xa, fa⟩ := open_bytes h0
  clear hA0 hval0
  have walk : Calls Try.prog 12 #[.slice a la ca] W fun e w' => e = .returned (.bool true) ∧ Below W.heap.size W w' := by
    by_cases hl : la ≤ 1048576
    · exact (fnRN W a la ca xa fa hl).mono fun _ _ h => ⟨h.1, h.2.below⟩
    · exact (fnRN_long W a la ca hl).mono fun _ _ h => ⟨h.1, h.2.below⟩
  refine walk.mono fun e W' ⟨he, bel⟩ => ?_
  subst he
  exact ⟨_, rfl, _, _, _, [], _, [], hW', trodAll_mk1 (shut_bool Try.underlying4 _), (trodAll_cons_mk (Below.trod laidOutQ (by kernel_rfl) (of_decide_eq_true (by kernel_rfl)) h0 bel lt0) trodAll_mk0), rfl, bel.frame _, fun h => by cases h⟩
end PRN

theorem fnExactReadNumber_holds : Rows.FnExactReadNumberSaid :=
  OpenClaim.holds_of_wide 12 Try.f12 rfl rfl rfl rfl rfl rfl rfl ⟨rfl, rfl, rfl, rfl, rfl⟩ rfl rfl rfl rfl rfl (by kernel_rfl) Try.func12 (by kernel_rfl)
    (of_decide_eq_true (by kernel_rfl)) (by unfold Func.isWrapper; first | (rw [if_pos (by decide +kernel)]; kernel_rfl) | (rw [if_neg (by decide +kernel)]; exact ⟨rfl, rfl⟩))
    (fun os started H enc _ => PRN.lifted os started H enc)
#print axioms fnExactReadNumber_holds
end Go.Proofs.Ytcphabjekfihnaa
