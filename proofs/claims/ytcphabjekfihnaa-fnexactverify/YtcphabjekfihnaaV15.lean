import Derived.Test.YtcphabjekfihnaaV14
import Derived.Test.YtcphabjekfihnaaV07
namespace Go.Proofs.Ytcphabjekfihnaa
open Go.RowKit Flt
attribute [local go_sem] alloc_drewN setCell_drewN run_store_float

set_option maxRecDepth 100000 in
set_option maxHeartbeats 2000000 in
theorem fnVerify_long (w : World) (a1 a2 a3 : Option Addr) (n1 c1 n2 c2 n3 c3 : Nat) (pk : Int) (hn1 : n1 ≤ 9223372036854775807) (hn2 : n2 ≤ 9223372036854775807) (hn3 : n3 ≤ 9223372036854775807) (h : (1048576 : Int) - n1 - n2 - n3 < 0) :
    Calls Try.prog 13 #[cagg a1 n1 c1 a2 n2 c2 a3 n3 c3 pk] w fun e w' => e = .returned (.bool true) ∧ Below w.heap.size w w' := by
  have HZ : Hid _ := szCode (w.alloc (lcbox a1 n1 c1 a2 n2 c2 a3 n3 c3 pk)) a1 a2 a3 n1 c1 n2 c2 n3 c3 pk 1048576 (by omega) (by omega) hn1 hn2 hn3
  rw [if_pos h] at HZ
  clear hn1 hn2 hn3 h
  go_enter Try.func13, Try.ntmps13
  go_wp2_with fail
  refine Calls.mono HZ.out ?_
  rintro e w1 ⟨rfl, k1⟩
  go_wp2
  go_ret
  exact ⟨rfl, ((kept_alloc 0 0 w _).trans k1).below⟩

set_option maxRecDepth 100000 in
set_option maxHeartbeats 2000000 in
theorem fnVerify (w : World) (a1 a2 a3 : Option Addr) (n1 c1 n2 c2 n3 c3 : Nat) (pk : Int) (ins : List Int) (ss : List Ste) (os : List Spn) (f : CS w a1 n1 a2 n2 a3 n3 ins ss os) (h : ¬ ((1048576 : Int) - n1 - n2 - n3 < 0)) :
    Calls Try.prog 13 #[cagg a1 n1 c1 a2 n2 c2 a3 n3 c3 pk] w fun e w' => e = .returned (.bool true) ∧ Below w.heap.size w w' := by
  have HZ : Hid _ := szCode (w.alloc (lcbox a1 n1 c1 a2 n2 c2 a3 n3 c3 pk)) a1 a2 a3 n1 c1 n2 c2 n3 c3 pk 1048576 (by omega) (by omega) (by omega) (by omega) (by omega)
  rw [if_neg h] at HZ
  have h1 : n1 ≤ 1048576 := by omega
  have h2 : n2 ≤ 1048576 := by omega
  have h3 : n3 ≤ 1048576 := by omega
  go_enter Try.func13, Try.ntmps13
  go_wp2_with fail
  refine Calls.mono HZ.out ?_
  rintro e w1 ⟨rfl, k1⟩
  have hK := (kept_alloc 0 0 w (lcbox a1 n1 c1 a2 n2 c2 a3 n3 c3 pk)).trans k1
  have hB := (c0_startL w (.slice a1 n1 c1) (.slice a2 n2 c2) (.slice a3 n3 c3) (.int .i64 pk)).keep k1
  have HF : Hid _ := f.keep hK
  have HK1 : Hid _ := hK
  have HB1 : Hid _ := hB
  obtain ⟨_, q0, q1, q2, q3⟩ := hB
  have HLT : Hid _ := f.s.lt
  clear k1 HZ hK f
  go_wp2_with fail
  clear q0 q1 q2 q3
  refine Calls.mono (toCode _ a1 a2 a3 n1 c1 n2 c2 n3 c3 pk ins ss os HF.out h1 h2 h3) ?_
  rintro e w2 ⟨g1, g2, g3, rfl, hO, k2⟩
  have HF2 : Hid _ := CS.keep HF.out k2
  have HK2 : Hid _ := Kept.trans HK1.out k2
  have HB2 : Hid _ := C0.keep HB1.out k2
  have HS : Hid _ := hO.cs HLT.out
  clear k2 hO HF HK1 HB1
  rw [HF2.out.i.len] at HS
  go_wp2_with fail
  refine Calls.mono (specVer _ _ _ _ n1 n1 n2 n2 n3 n3 pk ins ss os HS.out) ?_
  rintro e w3 ⟨rfl, k3⟩
  have HF3 : Hid _ := CS.keep HF2.out k3
  have HK3 : Hid _ := Kept.trans HK2.out k3
  have HB3 : Hid _ := C0.keep HB2.out k3
  clear k3 HF2 HK2 HB2 HS
  obtain ⟨_, q0, q1, q2, q3⟩ := HB3.out
  go_wp2_with fail
  clear q0 q1 q2 q3
  refine Calls.mono (toCode _ a1 a2 a3 n1 c1 n2 c2 n3 c3 pk ins ss os HF3.out h1 h2 h3) ?_
  rintro e w4 ⟨x1, x2, x3, rfl, hO, k4⟩
  have HF4 : Hid _ := CS.keep HF3.out k4
  have HK4 : Hid _ := Kept.trans HK3.out k4
  have HB4 : Hid _ := C0.keep HB3.out k4
  have HX4 : Hid _ := hO.cs HLT.out
  clear k4 hO HF3 HK3 HB3
  rw [HF4.out.i.len] at HX4
  go_wp2_with fail
  have ka := kept_alloc 0 0 w4 (cbox (some ⟨x1, 0, none⟩) n1 n1 (some ⟨x2, 0, none⟩) n2 n2 (some ⟨x3, 0, none⟩) n3 n3 pk)
  have HY5 : Hid _ := c0_start w4 (.slice (some ⟨x1, 0, none⟩) n1 n1) (.slice (some ⟨x2, 0, none⟩) n2 n2) (.slice (some ⟨x3, 0, none⟩) n3 n3) (.int .i64 pk)
  refine Calls.mono (implVer _ _ _ _ n1 n1 n2 n2 n3 n3 pk ins ss os (CS.keep HX4.out ka)) ?_
  rintro e w6 ⟨rfl, k6⟩
  have HF6 : Hid _ := CS.keep HF4.out (ka.trans k6)
  have HK6 : Hid _ := Kept.trans HK4.out (ka.trans k6)
  have HB6 : Hid _ := C0.keep HB4.out (ka.trans k6)
  have HX6 : Hid _ := CS.keep HX4.out (ka.trans k6)
  have HY6 : Hid _ := C0.keep HY5.out k6
  clear k6 ka HF4 HK4 HB4 HX4 HY5
  have tt : (verM ins ss os pk != verM ins ss os pk) = false := by cases verM ins ss os pk <;> rfl
  generalize verM ins ss os pk = b at tt ⊢
  obtain ⟨_, q0, q1, q2, q3⟩ := HB6.out
  obtain ⟨_, y0, y1, y2, y3⟩ := HY6.out
  have HT : Hid (∀ m, _) := fun m => toCode (w6.drewN m) a1 a2 a3 n1 c1 n2 c2 n3 c3 pk ins ss os (CS.keep HF6.out (kept_drewN 0 0 w6 m)) h1 h2 h3
  go_wp2_with fail
  go_region_with (first
    | (go_at_call 57; refine Calls.mono (HT.out 1) ?_; rintro e w7 ⟨z1, z2, z3, rfl, hO, k7⟩; have hy := C0.keep HY6.out (Kept.trans (kept_drewN 0 0 w6 1) k7); obtain ⟨_, u0, u1, u2, u3⟩ := hy)
    | (go_at_call 59; refine Calls.mono (eqCode _ _ _ _ _ _ _ n1 n1 n2 n2 n3 n3 n1 n2 n3 pk ins ss os (CS.keep HX6.out (Kept.trans (kept_drewN 0 0 w6 1) k7)) (by have := hO.cs HLT.out; rw [HF6.out.i.len] at this; exact this) h1 h2 h3) ?_; rintro e w8 ⟨rfl, k8⟩))
  all_goals
    go_wp2
    go_ret
    exact ⟨rfl, (Kept.trans HK6.out ((Kept.trans (kept_drewN 0 0 w6 1) k7).trans k8)).below⟩
end Go.Proofs.Ytcphabjekfihnaa
