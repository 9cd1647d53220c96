import Derived.Test.YtcphabjekfihnaaP12
import Derived.Test.YtcphabjekfihnaaP15
namespace Go.Proofs.Ytcphabjekfihnaa
open Go.RowKit Flt
attribute [local go_sem] alloc_drewN setCell_drewN run_store_float

/-- Field k of a value: A, B, C. -/
def fld (v : Vl) (k : Nat) : Int := if k = 0 then v.a else if k = 1 then v.b else v.c
set_option maxRecDepth 100000 in
set_option maxHeartbeats 1000000 in
theorem l1field (w : World) (v : Vl) (k : Nat) (hk : k < 3) :
    Calls Try.prog 147 #[v.agg, .int .i64 (k : Int)] w fun e w' => e = .returned (.int .i64 (fld v k)) ∧ Kept 0 0 w w' := by
  rcases (by omega : k = 0 ∨ k = 1 ∨ k = 2) with rfl | rfl | rfl
  all_goals
    go_enter Try.func147, Try.ntmps147
    go_wp2
    go_ret
    exact ⟨rfl, kept_alloc _ _ _ _⟩

set_option maxRecDepth 100000 in
set_option maxHeartbeats 2000000 in
theorem l1insOK_in (w : World) (lo hi : Nat) (a : Option Addr) (n cap : Nat) (xs : List Int) (f : IS w lo hi a n xs) (hn : n ≤ 20) :
    Calls Try.prog 97 #[.slice a n cap] w fun e w' => e = .returned (.bool (xs.all lenB)) ∧ Kept 0 0 w w' := by
  have HF : Hid _ := f
  have HL : Hid (xs.length = n) := f.len
  clear f
  go_enter Try.func97, Try.ntmps97
  go_wp2_with fail
  go_loop [3] (fun i => ∃ k : Nat, k ≤ n ∧ i = .int .i64 k ∧ Hid ((xs.take k).all lenB = true)) (fun i => n - (intOf i).toNat)
  case atStart => exact ⟨0, Nat.zero_le _, rfl, rfl⟩
  case round =>
    obtain ⟨k, hk, rfl, hA⟩ := hrel
    by_cases hlt : k < n
    · rcases HF.out.at_ with z0 | ⟨ga, oa, ea, z1, z2, z3, z4⟩
      · omega
      have c := z4 k hlt
      subst ea
      clear z1 z2 z3 z4
      cases hx : lenB (xs.getD k 0)
      · have R : Hid (xs.all lenB = false) := allI_bad (by rw [HL.out]; exact hlt) hx
        have hx' : ¬ (1 ≤ xs.getD k 0 ∧ xs.getD k 0 ≤ 1000) := of_decide_eq_false hx
        generalize xs.getD k 0 = y at c hx'
        clear hx hA
        by_cases hy : y < 1
        · clear hx'
          go_wp2
          go_ret
          exact ⟨by rw [R.out]; rfl, Kept.refl _ _ _⟩
        · have hy2 : 1000 < y := by omega
          clear hx'
          go_wp2
          go_ret
          exact ⟨by rw [R.out]; rfl, Kept.refl _ _ _⟩
      · have R : Hid _ := allI_snoc (p := lenB) (by rw [HL.out]; exact hlt) hA.out hx
        have hx' : 1 ≤ xs.getD k 0 ∧ xs.getD k 0 ≤ 1000 := of_decide_eq_true hx
        generalize xs.getD k 0 = y at c hx'
        obtain ⟨hx1, hx2⟩ := hx'
        clear hx hA
        go_wp2
        go_round
        case rel => exact ⟨k + 1, by omega, by go_num, R⟩
        case measure => simp [intOf]; omega
    · have R : Hid (xs.all lenB = true) := by
        have := hA.out
        rw [List.take_of_length_le (by rw [HL.out]; omega)] at this
        exact this
      clear hA
      go_wp2
      go_ret
      exact ⟨by rw [R.out]; rfl, Kept.refl _ _ _⟩
set_option maxRecDepth 100000 in
set_option maxHeartbeats 2000000 in
theorem l1insOK_great (w : World) (a : Option Addr) (n cap : Nat) (hn : 20 < n) :
    Calls Try.prog 97 #[.slice a n cap] w fun e w' => e = .returned (.bool false) ∧ Kept 0 0 w w' := by
  go_enter Try.func97, Try.ntmps97
  go_wp2
  go_ret
  exact ⟨rfl, Kept.refl _ _ _⟩
theorem l1insOK (w : World) (lo hi : Nat) (a : Option Addr) (n cap : Nat) (xs : List Int) (f : IS w lo hi a n xs) :
    Calls Try.prog 97 #[.slice a n cap] w fun e w' => e = .returned (.bool (decide (n ≤ 20) && xs.all lenB)) ∧ Kept 0 0 w w' := by
  by_cases h : n ≤ 20
  · rw [decide_eq_true h, Bool.true_and]
    exact l1insOK_in w lo hi a n cap xs f h
  · rw [decide_eq_false h, Bool.false_and]
    exact l1insOK_great w a n cap (by omega)
set_option maxRecDepth 100000 in
set_option maxHeartbeats 2000000 in
theorem l1cells (w : World) (a1 a2 a3 : Option Addr) (n1 c1 n2 c2 n3 c3 : Nat) (ins : List Int) (vs : List Vl) (outs : List Int) (f : GS w a1 n1 a2 n2 a3 n3 ins vs outs) (h2 : n2 ≤ 2000) (hl : ∀ k, k < n2 → 1 ≤ (vs.getD k Vl.zero).len ∧ (vs.getD k Vl.zero).len ≤ 1000) :
    Calls Try.prog 99 #[gagg a1 n1 c1 a2 n2 c2 a3 n3 c3] w fun e w' => e = .returned (.int .i64 (cellsV vs)) ∧ Kept 0 0 w w' := by
  have hK := kept_alloc 0 0 w (gbox a1 n1 c1 a2 n2 c2 a3 n3 c3)
  have hB := g0_start w (.slice a1 n1 c1) (.slice a2 n2 c2) (.slice a3 n3 c3)
  have HF : Hid _ := f.keep hK
  have HL : Hid (vs.length = n2) := f.v.len
  have HV : Hid _ := hl
  clear f hl hK
  go_enter Try.func99, Try.ntmps99
  go_wp2_with fail
  go_loop [3, 4] (fun c i => ∃ k : Nat, k ≤ n2 ∧ i = .int .i64 k ∧ c = .int .i64 (cellsV (vs.take k)) ∧ Hid (0 ≤ cellsV (vs.take k) ∧ cellsV (vs.take k) ≤ 1000 * k)) (fun _ i => n2 - (intOf i).toNat)
  case atStart => exact ⟨0, Nat.zero_le _, rfl, rfl, by constructor <;> simp [cellsV]⟩
  case round =>
    obtain ⟨k, hk, rfl, rfl, hb⟩ := hrel
    by_cases hlt : k < n2
    · rcases HF.out.v.at_ with z0 | ⟨ga, oa, ea, z1, z2, z3, z4⟩
      · omega
      have c := (z4 k hlt).c1
      have HST : Hid _ := cellsV_take (vs := vs) (k := k) (by rw [HL.out]; exact hlt)
      have hlv : Hid _ := HV.out k hlt
      subst ea
      clear z1 z2 z3 z4
      generalize vs.getD k Vl.zero = v at c HST hlv
      have hs1 : -1000000000 ≤ cellsV (vs.take k) + v.len := by have := hb.out; have := hlv.out; omega
      have hs2 : cellsV (vs.take k) + v.len ≤ 1000000000 := by have := hb.out; have := hlv.out; omega
      have HH : Hid (0 ≤ cellsV (vs.take (k + 1)) ∧ cellsV (vs.take (k + 1)) ≤ 1000 * ((k + 1 : Nat) : Int)) := by
        have g1 := hb.out
        have g2 := hlv.out
        have g3 := HST.out
        constructor <;> omega
      generalize hcc : cellsV (vs.take k) = cc at hs1 hs2 HST
      clear hb hcc
      go_wp2
      go_round
      case rel => exact ⟨k + 1, by omega, by go_num, by rw [HST.out], HH⟩
      case measure => simp [intOf]; omega
    · have R : Hid (cellsV (vs.take k) = cellsV vs) := by
        show cellsV (vs.take k) = cellsV vs
        rw [List.take_of_length_le (by rw [HL.out]; omega)]
      clear hb
      go_wp2
      go_ret
      exact ⟨by rw [← R.out]; rfl, kept_alloc _ _ _ _⟩
end Go.Proofs.Ytcphabjekfihnaa
