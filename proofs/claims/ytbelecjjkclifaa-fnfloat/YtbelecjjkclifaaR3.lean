import Derived.Test.YtbelecjjkclifaaR2
namespace Go.Proofs.Ytbelecjjkclifaa
open Go.RowKit Flt
attribute [local go_sem] alloc_drewN setCell_drewN

set_option maxRecDepth 100000 in
set_option maxHeartbeats 1000000 in
theorem drawF (w : World) (P : Nat) (a : Option Addr) (n cap i : Nat) (h : Rd w P a n cap i) :
    Calls Try.prog 12 #[.pointer (some ⟨P, 0, none⟩)] w fun e w' => FEnd P a n cap w e w' := by
  have f1 := @run_fquo Try.prog
  have f2 := @run_fmul Try.prog
  have f3 := run_fneg
  go_enter Try.func12, Try.ntmps12
  go_wp2_with fail
  refine (next_any _ _ _ _ _ _ h).mono ?_
  rintro e w1 ⟨x, i1, hx, rfl, h1, hb1, hz1⟩
  clear h
  rcases draw_at x with hk | hk | hk | hk | hk | hk | hk | hk | hk
  · have hk' : (x : Int) % 16 < 6 := by omega
    clear hk hz1
    go_wp2
    go_ret
    exact ⟨_, _, rfl, ofInt_lt _, h1, hb1⟩
  · have hk' : 6 ≤ (x : Int) % 16 := by omega
    have hk'' : (x : Int) % 16 < 9 := by omega
    clear hk hz1
    go_wp2
    go_ret
    exact ⟨_, _, rfl, neg_lt (ofInt_lt _), h1, hb1⟩
  · have hk' : (x : Int) % 16 = 9 := by omega
    clear hk hz1
    go_wp2
    go_ret
    exact ⟨_, _, rfl, fop_lt _ _ _ _, h1.keep (below_drewN' _ _), hb1.trans (below_drewN' _ _)⟩
  · have hk' : (x : Int) % 16 = 10 := by omega
    clear hk hz1
    go_wp2_with fail
    refine (next_any _ _ _ _ _ _ h1).mono ?_
    rintro e w2 ⟨x2, i2, hx2, rfl, h2, hb2, hz2⟩
    clear hz2
    go_wp2
    go_ret
    exact ⟨_, _, rfl, fop_lt _ _ _ _, h2.keep (below_drewN' _ _), hb1.trans (hb2.trans (below_drewN' _ _))⟩
  · have hx' : x = 11 ∨ x = 27 ∨ x = 43 ∨ x = 59 ∨ x = 75 ∨ x = 91 ∨ x = 107 ∨ x = 123 ∨ x = 139 ∨ x = 155 ∨ x = 171 ∨ x = 187 ∨ x = 203 ∨ x = 219 ∨ x = 235 ∨ x = 251 := by omega
    have hsz := h1.lt
    clear hk hz1 hx
    rcases hx' with rfl | rfl | rfl | rfl | rfl | rfl | rfl | rfl | rfl | rfl | rfl | rfl | rfl | rfl | rfl | rfl
    all_goals
      go_wp2
      go_ret
      refine ⟨_, _, rfl, ?_, h1.keep ?_, hb1.trans ?_⟩
      · first | exact fop_lt _ _ _ _ | exact neg_lt (by omega) | omega
      · exact below_drewN ((Below.refl _ _).alloc hsz _) _
      · exact below_drewN ((Below.refl _ _).alloc (Nat.le_of_lt hsz) _) _
  · have hk' : (x : Int) % 16 = 12 := by omega
    clear hk hz1
    go_wp2
    go_ret
    exact ⟨_, _, rfl, fop_lt _ _ _ _, h1.keep (below_drewN' _ _), hb1.trans (below_drewN' _ _)⟩
  · have hk' : (x : Int) % 16 = 13 := by omega
    clear hk hz1
    go_wp2
    go_ret
    exact ⟨_, _, rfl, fop_lt _ _ _ _, h1.keep (below_drewN' _ _), hb1.trans (below_drewN' _ _)⟩
  · have HK : Hid ((x : Int) % 16 = 14) := by show (x : Int) % 16 = 14; omega
    have hk' := HK.out
    clear hk hz1
    go_wp2_with fail
    clear f1 f2 f3 hk' hx
    go_loopw [9, 10] (fun b t W => ∃ (j i' : Nat) (bv : Int), j ≤ 8 ∧ t = .int .i64 (j : Nat) ∧ b = .int .u64 bv ∧ 0 ≤ bv ∧ bv < 18446744073709551616 ∧ Rd W P a n cap i' ∧ Below P w W) (fun _ t _ => 8 - (intOf t).toNat)
    case atStart => exact ⟨0, _, 0, by omega, rfl, rfl, by omega, by omega, h1, hb1⟩
    case round =>
      obtain ⟨j, i2, bv, hj, rfl, rfl, hb0, hb2, hR, hB⟩ := hrel
      by_cases hlt : j < 8
      · go_wp2_with fail
        refine (next_any _ _ _ _ _ _ hR).mono ?_
        rintro e w2 ⟨x2, i3, hx2, rfl, h2, hb3, hz2⟩
        clear hz2
        go_wp2
        go_roundw
        case rel => first | exact ⟨j + 1, _, _, by omega, by go_num, rfl, wrap_u64_nonneg _, wrap_u64_lt _, h2, hB.trans hb3⟩ | ((repeat apply Exists.intro); exact ⟨⟨j + 1, _, _, by omega, by go_num, rfl, wrap_u64_nonneg _, wrap_u64_lt _, h2, hB.trans hb3⟩, rfl⟩)
        case measure => simp [intOf]; omega
      · have hk' := HK.out
        have HB : Hid (0 ≤ bv ∧ bv < 18446744073709551616) := ⟨hb0, hb2⟩
        clear hb0 hb2
        go_wp2_with fail
        obtain ⟨nb, hnb, hlt2⟩ := or_u64 bv (IntKind.u64.wrap (IntKind.u64.wrap (wrap64 ((x : Int) / 16)) * 576460752303423488)) HB.out.1 HB.out.2 (wrap_u64_nonneg _) (wrap_u64_lt _)
        rw [hnb]
        refine (specFrom nb _ hlt2).mono ?_
        rintro e w2 ⟨y, rfl, hy, hyl, m, rfl⟩
        clear hnb hlt2 hy hk'
        go_wp2
        go_ret
        exact ⟨_, _, rfl, hyl, hR.keep (below_drewN' _ _), hB.trans (below_drewN' _ _)⟩
  · have HK : Hid ((x : Int) % 16 = 15) := by show (x : Int) % 16 = 15; omega
    have hk' := HK.out
    clear hk hz1
    go_wp2_with fail
    clear f1 f2 f3 hk' hx
    go_loopw [9, 10] (fun b t W => ∃ (j i' : Nat) (bv : Int), j ≤ 8 ∧ t = .int .i64 (j : Nat) ∧ b = .int .u64 bv ∧ 0 ≤ bv ∧ bv < 18446744073709551616 ∧ Rd W P a n cap i' ∧ Below P w W) (fun _ t _ => 8 - (intOf t).toNat)
    case atStart => exact ⟨0, _, 0, by omega, rfl, rfl, by omega, by omega, h1, hb1⟩
    case round =>
      obtain ⟨j, i2, bv, hj, rfl, rfl, hb0, hb2, hR, hB⟩ := hrel
      by_cases hlt : j < 8
      · go_wp2_with fail
        refine (next_any _ _ _ _ _ _ hR).mono ?_
        rintro e w2 ⟨x2, i3, hx2, rfl, h2, hb3, hz2⟩
        clear hz2
        go_wp2
        go_roundw
        case rel => first | exact ⟨j + 1, _, _, by omega, by go_num, rfl, wrap_u64_nonneg _, wrap_u64_lt _, h2, hB.trans hb3⟩ | ((repeat apply Exists.intro); exact ⟨⟨j + 1, _, _, by omega, by go_num, rfl, wrap_u64_nonneg _, wrap_u64_lt _, h2, hB.trans hb3⟩, rfl⟩)
        case measure => simp [intOf]; omega
      · have hk' := HK.out
        have HB : Hid (0 ≤ bv ∧ bv < 18446744073709551616) := ⟨hb0, hb2⟩
        clear hb0 hb2
        go_wp2_with fail
        obtain ⟨nb, hnb⟩ := Int.eq_ofNat_of_zero_le HB.out.1
        have hlt2 : nb < 18446744073709551616 := by have := HB.out.2; omega
        rw [hnb]
        clear hnb
        refine (specFrom nb _ hlt2).mono ?_
        rintro e w2 ⟨y, rfl, hy, hyl, m, rfl⟩
        clear hy hk'
        go_wp2
        go_ret
        exact ⟨_, _, rfl, hyl, hR.keep (below_drewN' _ _), hB.trans (below_drewN' _ _)⟩
end Go.Proofs.Ytbelecjjkclifaa
