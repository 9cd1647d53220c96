import Derived.Test.YtiiimofkkahobaaDoorP05
import Derived.Test.YtiiimofkkahobaaDoorP06
namespace Go.Proofs.YtiiimofkkahobaaDoor
open Go.RowKit Flt
attribute [local go_sem] alloc_drewN setCell_drewN run_store_float

/-- Field k of a value: A, B, C. -/
def fld (v : Vl) (k : Nat) : Int := if k = 0 then v.a else if k = 1 then v.b else v.c
set_option maxRecDepth 100000 in
set_option maxHeartbeats 1000000 in
theorem l1field (w : World) (v : Vl) (k : Nat) (hk : k < 3) :
    Calls Tryd.prog 21 #[v.agg, .int .i64 (k : Int)] w fun e w' => e = .returned (.int .i64 (fld v k)) ∧ Kept 0 0 w w' := by
  rcases (by omega : k = 0 ∨ k = 1 ∨ k = 2) with rfl | rfl | rfl
  all_goals
    go_enter Tryd.func21, Tryd.ntmps21
    go_wp2
    go_ret
    exact ⟨rfl, kept_alloc _ _ _ _⟩

set_option maxRecDepth 100000 in
set_option maxHeartbeats 2000000 in
theorem l1insOK_in (w : World) (lo hi : Nat) (a : Option Addr) (n cap : Nat) (xs : List Int) (f : IS w lo hi a n xs) (hn : n ≤ 20) :
    Calls Tryd.prog 34 #[.slice a n cap] w fun e w' => e = .returned (.bool (xs.all lenB)) ∧ Kept 0 0 w w' := by
  have HF : Hid _ := f
  have HL : Hid (xs.length = n) := f.len
  clear f
  go_enter Tryd.func34, Tryd.ntmps34
  go_wp2_with fail
  go_loop [3] (fun i => ∃ k : Nat, k ≤ n ∧ i = .int .i64 k ∧ Hid ((xs.take k).all lenB = true)) (fun i => n - (intOf i).toNat)
  case atStart => exact ⟨0, Nat.zero_le _, rfl, rfl⟩
  case round =>
    obtain ⟨k, hk, rfl, hA⟩ := hrel
    by_cases hlt : k < n
    · rcases HF.out.at_ with z0 | ⟨ga, oa, ea, z1, z2, z3, z4⟩
      · omega
      have c := z4 k hlt
      subst ea
      clear z1 z2 z3 z4
      cases hx : lenB (xs.getD k 0)
      · have R : Hid (xs.all lenB = false) := allI_bad (by rw [HL.out]; exact hlt) hx
        have hx' : ¬ (1 ≤ xs.getD k 0 ∧ xs.getD k 0 ≤ 1000) := of_decide_eq_false hx
        generalize xs.getD k 0 = y at c hx'
        clear hx hA
        by_cases hy : y < 1
        · clear hx'
          go_wp2
          go_ret
          exact ⟨by rw [R.out]; rfl, Kept.refl _ _ _⟩
        · have hy2 : 1000 < y := by omega
          clear hx'
          go_wp2
          go_ret
          exact ⟨by rw [R.out]; rfl, Kept.refl _ _ _⟩
      · have R : Hid _ := allI_snoc (p := lenB) (by rw [HL.out]; exact hlt) hA.out hx
        have hx' : 1 ≤ xs.getD k 0 ∧ xs.getD k 0 ≤ 1000 := of_decide_eq_true hx
        generalize xs.getD k 0 = y at c hx'
        obtain ⟨hx1, hx2⟩ := hx'
        clear hx hA
        go_wp2
        go_round
        case rel => exact ⟨k + 1, by omega, by go_num, R⟩
        case measure => simp [intOf]; omega
    · have R : Hid (xs.all lenB = true) := by
        have := hA.out
        rw [List.take_of_length_le (by rw [HL.out]; omega)] at this
        exact this
      clear hA
      go_wp2
      go_ret
      exact ⟨by rw [R.out]; rfl, Kept.refl _ _ _⟩
set_option maxRecDepth 100000 in
set_option maxHeartbeats 2000000 in
theorem l1insOK_great (w : World) (a : Option Addr) (n cap : Nat) (hn : 20 < n) :
    Calls Tryd.prog 34 #[.slice a n cap] w fun e w' => e = .returned (.bool false) ∧ Kept 0 0 w w' := by
  go_enter Tryd.func34, Tryd.ntmps34
  go_wp2
  go_ret
  exact ⟨rfl, Kept.refl _ _ _⟩
theorem l1insOK (w : World) (lo hi : Nat) (a : Option Addr) (n cap : Nat) (xs : List Int) (f : IS w lo hi a n xs) :
    Calls Tryd.prog 34 #[.slice a n cap] w fun e w' => e = .returned (.bool (decide (n ≤ 20) && xs.all lenB)) ∧ Kept 0 0 w w' := by
  by_cases h : n ≤ 20
  · rw [decide_eq_true h, Bool.true_and]
    exact l1insOK_in w lo hi a n cap xs f h
  · rw [decide_eq_false h, Bool.false_and]
    exact l1insOK_great w a n cap (by omega)
set_option maxRecDepth 100000 in
set_option maxHeartbeats 2000000 in
theorem l1cells (w : World) (a1 a2 a3 : Option Addr) (n1 c1 n2 c2 n3 c3 : Nat) (ins : List Int) (vs : List Vl) (outs : List Int) (f : GS w a1 n1 a2 n2 a3 n3 ins vs outs) (h2 : n2 ≤ 2000) (hl : ∀ k, k < n2 → 1 ≤ (vs.getD k Vl.zero).len ∧ (vs.getD k Vl.zero).len ≤ 1000) :
    Calls Tryd.prog 36 #[gagg a1 n1 c1 a2 n2 c2 a3 n3 c3] w fun e w' => e = .returned (.int .i64 (cellsV vs)) ∧ Kept 0 0 w w' := by
  have hK := kept_alloc 0 0 w (gbox a1 n1 c1 a2 n2 c2 a3 n3 c3)
  have hB := g0_start w (.slice a1 n1 c1) (.slice a2 n2 c2) (.slice a3 n3 c3)
  have HF : Hid _ := f.keep hK
  have HL : Hid (vs.length = n2) := f.v.len
  have HV : Hid _ := hl
  clear f hl hK
  go_enter Tryd.func36, Tryd.ntmps36
  go_wp2_with fail
  go_loop [3, 4] (fun c i => ∃ k : Nat, k ≤ n2 ∧ i = .int .i64 k ∧ c = .int .i64 (cellsV (vs.take k)) ∧ Hid (0 ≤ cellsV (vs.take k) ∧ cellsV (vs.take k) ≤ 1000 * k)) (fun _ i => n2 - (intOf i).toNat)
  case atStart => exact ⟨0, Nat.zero_le _, rfl, rfl, by constructor <;> simp [cellsV]⟩
  case round =>
    obtain ⟨k, hk, rfl, rfl, hb⟩ := hrel
    by_cases hlt : k < n2
    · rcases HF.out.v.at_ with z0 | ⟨ga, oa, ea, z1, z2, z3, z4⟩
      · omega
      have c := (z4 k hlt).c1
      have HST : Hid _ := cellsV_take (vs := vs) (k := k) (by rw [HL.out]; exact hlt)
      have hlv : Hid _ := HV.out k hlt
      subst ea
      clear z1 z2 z3 z4
      generalize vs.getD k Vl.zero = v at c HST hlv
      have hs1 : -1000000000 ≤ cellsV (vs.take k) + v.len := by have := hb.out; have := hlv.out; omega
      have hs2 : cellsV (vs.take k) + v.len ≤ 1000000000 := by have := hb.out; have := hlv.out; omega
      have HH : Hid (0 ≤ cellsV (vs.take (k + 1)) ∧ cellsV (vs.take (k + 1)) ≤ 1000 * ((k + 1 : Nat) : Int)) := by
        have g1 := hb.out
        have g2 := hlv.out
        have g3 := HST.out
        constructor <;> omega
      generalize hcc : cellsV (vs.take k) = cc at hs1 hs2 HST
      clear hb hcc
      go_wp2
      go_round
      case rel => exact ⟨k + 1, by omega, by go_num, by rw [HST.out], HH⟩
      case measure => simp [intOf]; omega
    · have R : Hid (cellsV (vs.take k) = cellsV vs) := by
        show cellsV (vs.take k) = cellsV vs
        rw [List.take_of_length_le (by rw [HL.out]; omega)]
      clear hb
      go_wp2
      go_ret
      exact ⟨by rw [← R.out]; rfl, kept_alloc _ _ _ _⟩
end Go.Proofs.YtiiimofkkahobaaDoor

namespace Go.Proofs.YtiiimofkkahobaaDoor
open Go.RowKit Flt
attribute [local go_sem] alloc_drewN setCell_drewN run_store_float

set_option maxRecDepth 100000 in
set_option maxHeartbeats 2000000 in
theorem valOK_bad (w : World) (a1 a3 : Option Addr) (n1 c1 n2 c2 n3 c3 g2 o2 i : Nat) (v : Vl) (hg : g2 < w.heap.size) (hi : i < n2) (hat : At w g2 (o2 + i * 6) v) (hl : ¬ (0 ≤ v.op ∧ v.op ≤ 13 ∧ 1 ≤ v.len ∧ v.len ≤ 1000)) :
    Calls Tryd.prog 35 #[gagg a1 n1 c1 (some ⟨g2, o2, none⟩) n2 c2 a3 n3 c3, .int .i64 (i : Int)] w fun e w' => e = .returned (.bool false) ∧ Kept 0 0 w w' := by
  have hK := kept_alloc 0 0 w (gbox a1 n1 c1 (some ⟨g2, o2, none⟩) n2 c2 a3 n3 c3)
  obtain ⟨e0, e1, e2, e3, e4, e5⟩ := hat.keep hg hK (.inr (.inr (Nat.le_refl _)))
  clear hat hK
  rcases (by omega : v.op < 0 ∨ (0 ≤ v.op ∧ 13 < v.op) ∨ ((0 ≤ v.op ∧ v.op ≤ 13) ∧ v.len < 1) ∨ ((0 ≤ v.op ∧ v.op ≤ 13) ∧ 1 ≤ v.len ∧ 1000 < v.len)) with h | ⟨h, h'⟩ | ⟨⟨h, h'⟩, h''⟩ | ⟨⟨h, h'⟩, h'', h'''⟩
  all_goals
    clear hl
    go_enter Tryd.func35, Tryd.ntmps35
    go_wp2
    go_ret
    exact ⟨rfl, (kept_alloc 0 0 w _).trans (kept_alloc 0 0 _ _)⟩

set_option maxRecDepth 100000 in
set_option maxHeartbeats 2000000 in
theorem valOK_input (w : World) (a1 a3 : Option Addr) (n1 cc1 n2 c2 n3 c3 g2 o2 i : Nat) (len A B C : Int) (K : Nat) (ins : List Int) (f : IS w 0 w.heap.size a1 n1 ins) (hg : g2 < w.heap.size) (hi : i < n2) (hat : At w g2 (o2 + i * 6) ⟨0, len, A, B, C, K⟩) (hl1 : 1 ≤ len) (hl2 : len ≤ 1000) :
    Calls Tryd.prog 35 #[gagg a1 n1 cc1 (some ⟨g2, o2, none⟩) n2 c2 a3 n3 c3, .int .i64 (i : Int)] w fun e w' => e = .returned (.bool (((idxB A n1 && len == ins.getD A.toNat 0) && B == 0) && C == 0)) ∧ Kept 0 0 w w' := by
  have hK := kept_alloc 0 0 w (gbox a1 n1 cc1 (some ⟨g2, o2, none⟩) n2 c2 a3 n3 c3)
  obtain ⟨e0, e1, e2, e3, e4, e5⟩ := hat.keep hg hK (.inr (.inr (Nat.le_refl _)))
  have hK2 := hK.trans (kept_alloc 0 0 _ (vbox 0 len A B C K))
  have hB := gb_start w (.slice a1 n1 cc1) (.slice (some ⟨g2, o2, none⟩) n2 c2) (.slice a3 n3 c3) ⟨0, len, A, B, C, K⟩
  clear hat hK
  simp only at e0 e1 e2 e3 e4 e5
  obtain ⟨_, q0, q1, q2, vt⟩ := hB
  obtain ⟨d0, d1, d2, d3, d4, d5⟩ := vt
  simp only at d0 d1 d2 d3 d4 d5
  have HK2 : Hid _ := hK2
  by_cases hA : 0 ≤ A ∧ A < n1
  · obtain ⟨j, rfl⟩ : ∃ j : Nat, A = j := ⟨A.toNat, by omega⟩
    rw [show idxB (j : Int) n1 = true from decide_eq_true hA, Bool.true_and, Int.toNat_natCast]
    have hj : j < n1 := by omega
    clear hA
    rcases f.at_ with h0 | ⟨g1, o1, rfl, b1, b2, b3, b4⟩
    · omega
    have c1 := kcell hK2 b3 (b4 j hj)
    clear b4 f b1 b2 hK2
    generalize ins.getD j 0 = y at c1 ⊢
    have j0 : (0 : Int) ≤ (j : Int) := by omega
    have j1 : (j : Int) < (n1 : Int) := by omega
    cases t1 : (len == y) <;> cases t2 : (B == 0) <;> cases t3 : (C == 0)
    all_goals
      go_enter Tryd.func35, Tryd.ntmps35
      go_wp2_with fail
      generalize hwq : (w.alloc (gbox (some ⟨g1, o1, none⟩) n1 cc1 (some ⟨g2, o2, none⟩) n2 c2 a3 n3 c3)).alloc (vbox 0 len j B C K) = wq at HK2 c1 q0 q1 q2 d0 d1 d2 d3 d4 d5 ⊢
      clear hwq
      go_quiet (fail)
      go_wp2
      go_ret
      exact ⟨rfl, HK2.out.trans (kept_drewN 0 0 _ _)⟩
  · rw [show idxB A n1 = false from decide_eq_false hA]
    simp only [Bool.false_and]
    clear hK2 f
    rcases (by omega : A < 0 ∨ (0 ≤ A ∧ (n1 : Int) ≤ A)) with h | ⟨h, h'⟩
    · have t1 : decide (0 ≤ A) = false := decide_eq_false (by omega)
      clear hA
      go_enter Tryd.func35, Tryd.ntmps35
      go_wp2_with fail
      generalize hwq : (w.alloc (gbox a1 n1 cc1 (some ⟨g2, o2, none⟩) n2 c2 a3 n3 c3)).alloc (vbox 0 len A B C K) = wq at HK2 q0 q1 q2 d0 d1 d2 d3 d4 d5 ⊢
      clear hwq
      go_quiet (fail)
      go_wp2
      go_ret
      exact ⟨rfl, HK2.out.trans (kept_drewN 0 0 _ _)⟩
    · have t1 : decide (0 ≤ A) = true := decide_eq_true h
      have t2 : decide (A < (n1 : Int)) = false := decide_eq_false (by omega)
      clear hA
      go_enter Tryd.func35, Tryd.ntmps35
      go_wp2_with fail
      generalize hwq : (w.alloc (gbox a1 n1 cc1 (some ⟨g2, o2, none⟩) n2 c2 a3 n3 c3)).alloc (vbox 0 len A B C K) = wq at HK2 q0 q1 q2 d0 d1 d2 d3 d4 d5 ⊢
      clear hwq
      go_quiet (fail)
      go_wp2
      go_ret
      exact ⟨rfl, HK2.out.trans (kept_drewN 0 0 _ _)⟩
end Go.Proofs.YtiiimofkkahobaaDoor
