import Derived.Test.YtcphabjekfihnaaA01
namespace Go.Proofs.Ytcphabjekfihnaa
open Go.RowKit Flt

set_option maxHeartbeats 400000 in
theorem specSame (x y : Nat) (w : World) (hx : x < 18446744073709551616) (hy : y < 18446744073709551616) :
    Calls Try.prog 22 #[.float .f64 x, .float .f64 y] w fun e w' => e = .returned (.bool ((fb x : Int) == (fb y : Int))) ∧ w' = w := by
  obtain ⟨s, r, hr, rfl⟩ := split_word x hx
  obtain ⟨t, q, hq, rfl⟩ := split_word y hy
  clear hx hy
  by_cases h1 : r ≤ 9218868437227405312
  · have n1 := isn_num (s := s) h1
    by_cases h2 : q ≤ 9218868437227405312
    · have n2 := isn_num (s := t) h2
      rw [fb_num h1, fb_num h2, W_beq hr hq]
      have hE : (FloatKind.f64.format.order (W s r) (W t q) == some .eq) = _ := ord_eq_iff (s := s) (t := t) h1 h2
      by_cases hc : r = q ∧ (s = t ∨ r = 0)
      · rw [decide_eq_true hc] at hE
        rw [show decide (r = q ∧ s = t) = (s == t) by cases s <;> cases t <;> simp [hc.1]]
        clear hc
        go_enter Try.func22, Try.ntmps22
        go_wp2_with fail
        refine (l1nan_any _ _).mono ?_
        rintro e w' ⟨rfl, rfl⟩
        go_wp2_with fail
        refine (l1nan_any _ _).mono ?_
        rintro e w' ⟨rfl, rfl⟩
        go_wp2_with fail
        refine (l1minus_any s r _ h1).mono ?_
        rintro e w' ⟨rfl, rfl⟩
        go_wp2_with fail
        refine (l1minus_any t q _ h2).mono ?_
        rintro e w' ⟨rfl, rfl⟩
        go_wp2
        go_ret
        exact ⟨rfl, rfl⟩
      · rw [decide_eq_false hc] at hE
        rw [show decide (r = q ∧ s = t) = false from decide_eq_false (fun c => hc ⟨c.1, .inl c.2⟩)]
        clear hc
        go_enter Try.func22, Try.ntmps22
        go_wp2_with fail
        refine (l1nan_any _ _).mono ?_
        rintro e w' ⟨rfl, rfl⟩
        go_wp2_with fail
        refine (l1nan_any _ _).mono ?_
        rintro e w' ⟨rfl, rfl⟩
        go_wp2
        go_ret
        exact ⟨rfl, rfl⟩
    · have n2 := isn_nan (s := t) (by omega : 9218868437227405312 < q) hq
      rw [fb_num h1, fb_nan (by omega) hq, show (((9221120237041090560 : Nat)) : Int) = 9221120237041090560 from rfl, (W_ne_nan h1).1]
      go_enter Try.func22, Try.ntmps22
      go_wp2_with fail
      refine (l1nan_any _ _).mono ?_
      rintro e w' ⟨rfl, rfl⟩
      go_wp2_with fail
      refine (l1nan_any _ _).mono ?_
      rintro e w' ⟨rfl, rfl⟩
      go_wp2_with fail
      refine (l1nan_any _ _).mono ?_
      rintro e w' ⟨rfl, rfl⟩
      go_wp2
      go_ret
      exact ⟨rfl, rfl⟩
  · have n1 := isn_nan (s := s) (by omega : 9218868437227405312 < r) hr
    by_cases h2 : q ≤ 9218868437227405312
    · have n2 := isn_num (s := t) h2
      rw [fb_num h2, fb_nan (by omega) hr, show (((9221120237041090560 : Nat)) : Int) = 9221120237041090560 from rfl, (W_ne_nan h2).2]
      go_enter Try.func22, Try.ntmps22
      go_wp2_with fail
      refine (l1nan_any _ _).mono ?_
      rintro e w' ⟨rfl, rfl⟩
      go_wp2_with fail
      refine (l1nan_any _ _).mono ?_
      rintro e w' ⟨rfl, rfl⟩
      go_wp2_with fail
      refine (l1nan_any _ _).mono ?_
      rintro e w' ⟨rfl, rfl⟩
      go_wp2
      go_ret
      exact ⟨rfl, rfl⟩
    · have n2 := isn_nan (s := t) (by omega : 9218868437227405312 < q) hq
      rw [fb_nan (by omega) hr, fb_nan (by omega) hq, show (((9221120237041090560 : Nat) : Int) == ((9221120237041090560 : Nat) : Int)) = true from beq_self_eq_true _]
      go_enter Try.func22, Try.ntmps22
      go_wp2_with fail
      refine (l1nan_any _ _).mono ?_
      rintro e w' ⟨rfl, rfl⟩
      go_wp2_with fail
      refine (l1nan_any _ _).mono ?_
      rintro e w' ⟨rfl, rfl⟩
      go_wp2_with fail
      refine (l1nan_any _ _).mono ?_
      rintro e w' ⟨rfl, rfl⟩
      go_wp2
      go_ret
      exact ⟨rfl, rfl⟩

set_option maxHeartbeats 400000 in
theorem fnSame (x y : Nat) (w : World) (hx : x < 18446744073709551616) (hy : y < 18446744073709551616) :
    Calls Try.prog 4 #[.float .f64 x, .float .f64 y] w fun e w' => e = .returned (.bool true) ∧ w' = w := by
  go_enter Try.func4, Try.ntmps4
  go_wp2_with fail
  refine (specSame _ _ _ hx hy).mono ?_
  rintro e w' ⟨rfl, rfl⟩
  go_wp2_with fail
  refine (implSame _ _ _).mono ?_
  rintro e w' ⟨rfl, rfl⟩
  generalize ((fb x : Int) == (fb y : Int)) = b
  cases b
  all_goals
    go_wp2
    go_ret
    exact ⟨rfl, rfl⟩
end Go.Proofs.Ytcphabjekfihnaa

namespace Go.Proofs.Ytcphabjekfihnaa
open Go.ChangeShapes Go.WideShapes Go.ChangeAt Go.RowKit

namespace PSame
set_option maxRecDepth 100000 in
theorem lifted (os : Os) (started : os.Started) (H : Type) (enc : TypeId × Value → H) :
    ReturnsInHanded {} Try.checked os 4 .any (Rows.fnExactSameFloatSpec.pre6 enc Try.prog Try.f4 Rows.fnExactSameFloatRow.domain false) (Rows.fnExactSameFloatSpec.post enc Try.prog Try.f4 false true false false) := by
  refine returnsInHanded_of_change (C := Try.checked) own started (by kernel_rfl) Try.func4
    (ChangeSpec.witness6 (enc := enc) (C := Try.checked) false ⟨#[], #[.float .f64 0, .float .f64 0], []⟩ 8 (by kernel_rfl) (by kernel_rfl) (by kernel_rfl) (by kernel_rfl)) ?_
  intro W base args ds gs before hval0 hW hcnd _
  have hval : ∀ (j : Nat) t v, Try.f4.params[j]? = some t → args[j]? = some v → Value.okWide Try.prog W .any base t v := hval0
  have hW' := hW
  obtain ⟨p, q, hA0, hV, rfl, hfz, hnd⟩ := hW
  have hA : DataW.TrodAll enc Try.prog W 0 (fun _ => true) true Try.f4.params.toList args.toList ds p := hA0
  rw [Try.params4] at hA hval
  obtain ⟨v0, v1, d0, d1, p0, p1, rfl, rfl, rfl, h0, h1⟩ := trodAll_two hA
  obtain ⟨rfl, rfl⟩ := trodVars_none hV
  obtain ⟨a, rfl, rfl, rfl, wa⟩ := open_float Try.underlying23 (hval 0 23 v0 rfl rfl) h0
  obtain ⟨b, rfl, rfl, rfl, wb⟩ := open_float Try.underlying23 (hval 1 23 v1 rfl rfl) h1
  clear hA0 hval0
  simp only [List.append_nil] at hW'
  refine (fnSame a b W (f64_lt wa) (f64_lt wb)).mono fun e W' ⟨he, hw⟩ => ?_
  subst he; subst hw
  exact ⟨_, rfl, post_of_same (pa := []) (pv := []) hW' (fun _ _ _ => trodAll_mk1 (shut_bool Try.underlying4 _)) (fun sp _ => trodAll_mk2 (shut_float Try.underlying23 wa) (shut_float Try.underlying23 wb)) (fun _ _ => rfl) rfl (World.keptBut_refl _ _) (fun _ => rfl) (ok_one (by kernel_rfl) rfl (okWide_bool_mk Try.underlying4 _))⟩
end PSame

theorem fnExactSameFloat_holds : Rows.FnExactSameFloatSaid :=
  OpenClaim.holds_of_wide 4 Try.f4 rfl rfl rfl rfl rfl rfl rfl ⟨rfl, rfl, rfl, rfl, rfl⟩ rfl rfl rfl rfl rfl (by kernel_rfl) Try.func4 (by kernel_rfl)
    (of_decide_eq_true (by kernel_rfl)) (by unfold Func.isWrapper; first | (rw [if_pos (by decide +kernel)]; kernel_rfl) | (rw [if_neg (by decide +kernel)]; exact ⟨rfl, rfl⟩))
    (fun os started H enc _ => PSame.lifted os started H enc)
#print axioms fnExactSameFloat_holds
end Go.Proofs.Ytcphabjekfihnaa
