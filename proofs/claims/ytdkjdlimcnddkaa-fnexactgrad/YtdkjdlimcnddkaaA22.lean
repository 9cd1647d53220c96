import Derived.Test.YtdkjdlimcnddkaaA21
import Derived.Deep.DeepCutAuto
import Derived.Test.YtdkjdlimcnddkaaA13
namespace Go.Proofs.Ytdkjdlimcnddkaa
open Go.RowKit Flt
theorem run_store_func {P : Program} {w : World} {a : Addr} {m : Mode} (f : Fn) (r c : Array Value) : (store a (.func f r c) m).run P w = stored P w a (.func f r c) m := run_store P w a _ m rfl
attribute [local go_sem] alloc_drewN setCell_drewN run_store_float run_store_func
theorem Bx.grow {W0 W1 : World} {lo hi hi' b : Nat} {u : Value} (x : Bx W0 lo hi b u) (k : Kept 0 0 W0 W1) (h : hi = W0.heap.size) (h2 : hi' = W1.heap.size) : Bx W1 lo hi' b u := bx_keep x k (by omega) (Nat.le_refl _) (by have := k.size; omega)
theorem Vx.grow {W0 W1 : World} {lo hi hi' b : Nat} {v : Vl} (x : Vx W0 lo hi b v) (k : Kept 0 0 W0 W1) (h : hi = W0.heap.size) (h2 : hi' = W1.heap.size) : Vx W1 lo hi' b v := vx_keep x k (by omega) (Nat.le_refl _) (by have := k.size; omega)
theorem PtO.from {w w3 w4 : World} {P : Nat} {vs0 : List Vl} {i : Int} {v : Vl} {la : Int} {e : Ending} (k : Kept 0 0 w w3) (h : PtO w3 P vs0 i v la e w4) : PtO w P vs0 i v la e w4 := by
  obtain ⟨a, m, c, fv, h1, h2, h3, h4⟩ := h
  exact ⟨a, m, c, fv, h1, h2, h3.mono (Same.refl (Nat.le_refl _)) k.size (Nat.le_refl _), k.trans h4⟩
theorem parts_2 {w w5 : World} {P : Nat} {vs0 : List Vl} {i : Nat} {v : Vl} {la : Int} (n0 : 1 ≤ v.len) (n1 : v.len ≤ 1000) (ho : v.op = 2) (HK5 : Hid (Kept 0 0 w w5)) (HB5 : Hid (Bx w5 w.heap.size w5.heap.size w.heap.size (.pointer (some ⟨P, 0, none⟩)))) (HI5 : Hid (Bx w5 w.heap.size w5.heap.size (w.heap.size + 1) (.int .i64 (i : Int)))) (HV5 : Hid (Vx w5 w.heap.size w5.heap.size (w.heap.size + 2) v)) (HN5 : Hid (Bx w5 w.heap.size w5.heap.size (w.heap.size + 3) (.int .i64 v.len))) (HO5 : Hid (Bx w5 w.heap.size w5.heap.size (w.heap.size + 4) (.func (.func 173) #[] #[.pointer (some ⟨w.heap.size, 0, none⟩), .pointer (some ⟨w.heap.size + 3, 0, none⟩)]))) :
    ∀ t g, g = w5.heap.size → PtO w P vs0 (i : Int) v la (.returned (.slice (some ⟨g, 0, none⟩) 2 2)) (w5.alloc (.cells #[.func (.func 172) #[] #[], .func (.func 172) #[] #[]] t)) := by
    intro t g hg
    have _h1 := n0
    have _h2 := HB5
    have _h3 := HI5
    have _h4 := HV5
    have _h5 := HN5
    have _h6 := HO5
    have _h7 := n1
    refine PtO.mk HK5.out _ t 2 (by rw [ho]; decide) (fun k hk => ?_) g hg
    have hc : cnt v.op = 2 := by rw [ho]; rfl
    rcases (by omega : k = 0 ∨ k = 1) with rfl | rfl
    · refine ⟨_, rfl, fun _ => (pc_whole _ _ _ _ _).cast ?_, fun hb => ?_⟩
      · funext d N
        unfold prtM
        rw [ho]
        rfl
      · unfold prtB at hb
        rw [ho] at hb
        simp at hb
    · refine ⟨_, rfl, fun _ => (pc_whole _ _ _ _ _).cast ?_, fun hb => ?_⟩
      · funext d N
        unfold prtM
        rw [ho]
        rfl
      · unfold prtB at hb
        rw [ho] at hb
        simp at hb
theorem parts_3 {w w5 : World} {P : Nat} {vs0 : List Vl} {i : Nat} {v : Vl} {la : Int} (n0 : 1 ≤ v.len) (n1 : v.len ≤ 1000) (ho : v.op = 3) (HK5 : Hid (Kept 0 0 w w5)) (HB5 : Hid (Bx w5 w.heap.size w5.heap.size w.heap.size (.pointer (some ⟨P, 0, none⟩)))) (HI5 : Hid (Bx w5 w.heap.size w5.heap.size (w.heap.size + 1) (.int .i64 (i : Int)))) (HV5 : Hid (Vx w5 w.heap.size w5.heap.size (w.heap.size + 2) v)) (HN5 : Hid (Bx w5 w.heap.size w5.heap.size (w.heap.size + 3) (.int .i64 v.len))) (HO5 : Hid (Bx w5 w.heap.size w5.heap.size (w.heap.size + 4) (.func (.func 173) #[] #[.pointer (some ⟨w.heap.size, 0, none⟩), .pointer (some ⟨w.heap.size + 3, 0, none⟩)]))) :
    ∀ t g, g = w5.heap.size → PtO w P vs0 (i : Int) v la (.returned (.slice (some ⟨g, 0, none⟩) 2 2)) (w5.alloc (.cells #[.func (.func 172) #[] #[], .func (.func 173) #[] #[.pointer (some ⟨w.heap.size, 0, none⟩), .pointer (some ⟨w.heap.size + 3, 0, none⟩)]] t)) := by
    intro t g hg
    have _h1 := n0
    have _h2 := HB5
    have _h3 := HI5
    have _h4 := HV5
    have _h5 := HN5
    have _h6 := HO5
    have _h7 := n1
    refine PtO.mk HK5.out _ t 2 (by rw [ho]; decide) (fun k hk => ?_) g hg
    have hc : cnt v.op = 2 := by rw [ho]; rfl
    rcases (by omega : k = 0 ∨ k = 1) with rfl | rfl
    · refine ⟨_, rfl, fun _ => (pc_whole _ _ _ _ _).cast ?_, fun hb => ?_⟩
      · funext d N
        unfold prtM
        rw [ho]
        rfl
      · unfold prtB at hb
        rw [ho] at hb
        simp at hb
    · refine ⟨_, rfl, fun _ => (pc_opp HB5.out HN5.out (by omega) n1).cast ?_, fun hb => ?_⟩
      · funext d N
        unfold prtM
        rw [ho]
        rfl
      · unfold prtB at hb
        rw [ho] at hb
        simp at hb
theorem parts_4 {w w5 : World} {P : Nat} {vs0 : List Vl} {i : Nat} {v : Vl} {la : Int} (n0 : 1 ≤ v.len) (n1 : v.len ≤ 1000) (ho : v.op = 4) (HK5 : Hid (Kept 0 0 w w5)) (HB5 : Hid (Bx w5 w.heap.size w5.heap.size w.heap.size (.pointer (some ⟨P, 0, none⟩)))) (HI5 : Hid (Bx w5 w.heap.size w5.heap.size (w.heap.size + 1) (.int .i64 (i : Int)))) (HV5 : Hid (Vx w5 w.heap.size w5.heap.size (w.heap.size + 2) v)) (HN5 : Hid (Bx w5 w.heap.size w5.heap.size (w.heap.size + 3) (.int .i64 v.len))) (HO5 : Hid (Bx w5 w.heap.size w5.heap.size (w.heap.size + 4) (.func (.func 173) #[] #[.pointer (some ⟨w.heap.size, 0, none⟩), .pointer (some ⟨w.heap.size + 3, 0, none⟩)]))) :
    ∀ t g, g = w5.heap.size → PtO w P vs0 (i : Int) v la (.returned (.slice (some ⟨g, 0, none⟩) 2 2)) (w5.alloc (.cells #[.func (.func 175) #[] #[.pointer (some ⟨w.heap.size, 0, none⟩), .pointer (some ⟨w.heap.size + 3, 0, none⟩), .pointer (some ⟨w.heap.size + 2, 0, none⟩)], .func (.func 176) #[] #[.pointer (some ⟨w.heap.size, 0, none⟩), .pointer (some ⟨w.heap.size + 3, 0, none⟩), .pointer (some ⟨w.heap.size + 2, 0, none⟩)]] t)) := by
    intro t g hg
    have _h1 := n0
    have _h2 := HB5
    have _h3 := HI5
    have _h4 := HV5
    have _h5 := HN5
    have _h6 := HO5
    have _h7 := n1
    refine PtO.mk HK5.out _ t 2 (by rw [ho]; decide) (fun k hk => ?_) g hg
    have hc : cnt v.op = 2 := by rw [ho]; rfl
    rcases (by omega : k = 0 ∨ k = 1) with rfl | rfl
    · refine ⟨_, rfl, fun _ => (pc_mulB HB5.out HN5.out (by omega) n1 HV5.out).cast ?_, fun hb => ?_⟩
      · funext d N
        unfold prtM
        rw [ho]
        rfl
      · unfold prtB at hb
        rw [ho] at hb
        simp at hb
    · refine ⟨_, rfl, fun _ => (pc_mulA HB5.out HN5.out (by omega) n1 HV5.out).cast ?_, fun hb => ?_⟩
      · funext d N
        unfold prtM
        rw [ho]
        rfl
      · unfold prtB at hb
        rw [ho] at hb
        simp at hb
theorem parts_5 {w w5 : World} {P : Nat} {vs0 : List Vl} {i : Nat} {v : Vl} {la : Int} (n0 : 1 ≤ v.len) (n1 : v.len ≤ 1000) (ho : v.op = 5) (HK5 : Hid (Kept 0 0 w w5)) (HB5 : Hid (Bx w5 w.heap.size w5.heap.size w.heap.size (.pointer (some ⟨P, 0, none⟩)))) (HI5 : Hid (Bx w5 w.heap.size w5.heap.size (w.heap.size + 1) (.int .i64 (i : Int)))) (HV5 : Hid (Vx w5 w.heap.size w5.heap.size (w.heap.size + 2) v)) (HN5 : Hid (Bx w5 w.heap.size w5.heap.size (w.heap.size + 3) (.int .i64 v.len))) (HO5 : Hid (Bx w5 w.heap.size w5.heap.size (w.heap.size + 4) (.func (.func 173) #[] #[.pointer (some ⟨w.heap.size, 0, none⟩), .pointer (some ⟨w.heap.size + 3, 0, none⟩)]))) :
    ∀ t g, g = w5.heap.size → PtO w P vs0 (i : Int) v la (.returned (.slice (some ⟨g, 0, none⟩) 2 2)) (w5.alloc (.cells #[.func (.func 177) #[] #[.pointer (some ⟨w.heap.size, 0, none⟩), .pointer (some ⟨w.heap.size + 3, 0, none⟩), .pointer (some ⟨w.heap.size + 2, 0, none⟩)], .func (.func 178) #[] #[.pointer (some ⟨w.heap.size, 0, none⟩), .pointer (some ⟨w.heap.size + 3, 0, none⟩), .pointer (some ⟨w.heap.size + 1, 0, none⟩), .pointer (some ⟨w.heap.size + 4, 0, none⟩), .pointer (some ⟨w.heap.size + 2, 0, none⟩)]] t)) := by
    intro t g hg
    have _h1 := n0
    have _h2 := HB5
    have _h3 := HI5
    have _h4 := HV5
    have _h5 := HN5
    have _h6 := HO5
    have _h7 := n1
    refine PtO.mk HK5.out _ t 2 (by rw [ho]; decide) (fun k hk => ?_) g hg
    have hc : cnt v.op = 2 := by rw [ho]; rfl
    rcases (by omega : k = 0 ∨ k = 1) with rfl | rfl
    · refine ⟨_, rfl, fun _ => (pc_divA HB5.out HN5.out (by omega) n1 HV5.out).cast ?_, fun hb => ?_⟩
      · funext d N
        unfold prtM
        rw [ho]
        rfl
      · unfold prtB at hb
        rw [ho] at hb
        simp at hb
    · refine ⟨_, rfl, fun _ => (pc_divB HB5.out HN5.out (by omega) n1 HI5.out HO5.out HV5.out).cast ?_, fun hb => ?_⟩
      · funext d N
        unfold prtM
        rw [ho]
        rfl
      · unfold prtB at hb
        rw [ho] at hb
        simp at hb
theorem parts_6 {w w5 : World} {P : Nat} {vs0 : List Vl} {i : Nat} {v : Vl} {la : Int} (n0 : 1 ≤ v.len) (n1 : v.len ≤ 1000) (ho : v.op = 6) (HK5 : Hid (Kept 0 0 w w5)) (HB5 : Hid (Bx w5 w.heap.size w5.heap.size w.heap.size (.pointer (some ⟨P, 0, none⟩)))) (HI5 : Hid (Bx w5 w.heap.size w5.heap.size (w.heap.size + 1) (.int .i64 (i : Int)))) (HV5 : Hid (Vx w5 w.heap.size w5.heap.size (w.heap.size + 2) v)) (HN5 : Hid (Bx w5 w.heap.size w5.heap.size (w.heap.size + 3) (.int .i64 v.len))) (HO5 : Hid (Bx w5 w.heap.size w5.heap.size (w.heap.size + 4) (.func (.func 173) #[] #[.pointer (some ⟨w.heap.size, 0, none⟩), .pointer (some ⟨w.heap.size + 3, 0, none⟩)]))) :
    ∀ t g, g = w5.heap.size → PtO w P vs0 (i : Int) v la (.returned (.slice (some ⟨g, 0, none⟩) 1 1)) (w5.alloc (.cells #[.func (.func 173) #[] #[.pointer (some ⟨w.heap.size, 0, none⟩), .pointer (some ⟨w.heap.size + 3, 0, none⟩)]] t)) := by
    intro t g hg
    have _h1 := n0
    have _h2 := HB5
    have _h3 := HI5
    have _h4 := HV5
    have _h5 := HN5
    have _h6 := HO5
    have _h7 := n1
    refine PtO.mk HK5.out _ t 1 (by rw [ho]; decide) (fun k hk => ?_) g hg
    have hc : cnt v.op = 1 := by rw [ho]; rfl
    obtain rfl : k = 0 := by omega
    refine ⟨_, rfl, fun _ => (pc_opp HB5.out HN5.out (by omega) n1).cast ?_, fun hb => ?_⟩
    · funext d N
      unfold prtM
      rw [ho]
      rfl
    · unfold prtB at hb
      rw [ho] at hb
      simp at hb
theorem parts_13 {w w5 : World} {P : Nat} {vs0 : List Vl} {i : Nat} {v : Vl} {la : Int} (n0 : 1 ≤ v.len) (n1 : v.len ≤ 1000) (ho : v.op = 13) (HK5 : Hid (Kept 0 0 w w5)) (HB5 : Hid (Bx w5 w.heap.size w5.heap.size w.heap.size (.pointer (some ⟨P, 0, none⟩)))) (HI5 : Hid (Bx w5 w.heap.size w5.heap.size (w.heap.size + 1) (.int .i64 (i : Int)))) (HV5 : Hid (Vx w5 w.heap.size w5.heap.size (w.heap.size + 2) v)) (HN5 : Hid (Bx w5 w.heap.size w5.heap.size (w.heap.size + 3) (.int .i64 v.len))) (HO5 : Hid (Bx w5 w.heap.size w5.heap.size (w.heap.size + 4) (.func (.func 173) #[] #[.pointer (some ⟨w.heap.size, 0, none⟩), .pointer (some ⟨w.heap.size + 3, 0, none⟩)]))) :
    ∀ t g, g = w5.heap.size → PtO w P vs0 (i : Int) v la (.returned (.slice (some ⟨g, 0, none⟩) 1 1)) (w5.alloc (.cells #[.func (.func 179) #[] #[.pointer (some ⟨w.heap.size, 0, none⟩), .pointer (some ⟨w.heap.size + 3, 0, none⟩), .pointer (some ⟨w.heap.size + 1, 0, none⟩)]] t)) := by
    intro t g hg
    have _h1 := n0
    have _h2 := HB5
    have _h3 := HI5
    have _h4 := HV5
    have _h5 := HN5
    have _h6 := HO5
    have _h7 := n1
    refine PtO.mk HK5.out _ t 1 (by rw [ho]; decide) (fun k hk => ?_) g hg
    have hc : cnt v.op = 1 := by rw [ho]; rfl
    obtain rfl : k = 0 := by omega
    refine ⟨_, rfl, fun _ => (pc_exp HB5.out HN5.out (by omega) n1 HI5.out).cast ?_, fun hb => ?_⟩
    · funext d N
      unfold prtM
      rw [ho]
      rfl
    · unfold prtB at hb
      rw [ho] at hb
      simp at hb
set_option maxRecDepth 100000 in
set_option maxHeartbeats 8000000 in
theorem partsOf (w : World) (P : Nat) (u1 u3 : Value) (us : List Vl) (c : Int) (base : Nat) (R : Option Nat) (vv : Value) (h : BS w P u1 u3 us c base R vv) (hl : us.length ≤ 900000) (vs0 : List Vl) (i : Nat) (hi : i < us.length) (v : Vl) (hv : us.getD i Vl.zero = v) (la : Int) (n0 : 1 ≤ v.len) (n1 : v.len ≤ 1000) (hop : 0 ≤ v.op ∧ v.op ≤ 13)
    (hA : (v.op = 9 ∨ v.op = 11) → ∃ j : Nat, v.a = (j : Int) ∧ j < vs0.length ∧ (vs0.getD j Vl.zero).len = la ∧ 1 ≤ la ∧ la ≤ 1000) :
    Calls Try.prog 157 #[.pointer (some ⟨P, 0, none⟩), .int .i64 (i : Int)] w fun e w' => PtO w P vs0 (i : Int) v la e w' := by
  obtain ⟨g, cap, rfl, _, hgl, _, hva⟩ := row_at h.own (by omega) rfl
  have hat := hva.at_ i hi
  rw [hv] at hat
  have ka := kept_alloc 0 0 w (.cells #[.pointer (some ⟨P, 0, none⟩)] 70)
  have kb := kept_alloc 0 0 (w.alloc (.cells #[.pointer (some ⟨P, 0, none⟩)] 70)) (.cells #[.int .i64 (i : Int)] 3)
  have z1 : (w.alloc (.cells #[.pointer (some ⟨P, 0, none⟩)] 70)).heap.size = w.heap.size + 1 := by simp
  have z2 : ((w.alloc (.cells #[.pointer (some ⟨P, 0, none⟩)] 70)).alloc (.cells #[.int .i64 (i : Int)] 3)).heap.size = w.heap.size + 2 := by simp
  have hb : (w.alloc (.cells #[.pointer (some ⟨P, 0, none⟩)] 70)).cell? ⟨w.heap.size, 0, none⟩ = some (.pointer (some ⟨P, 0, none⟩)) := by
    rw [World.cell?_alloc_at _ _ w.heap.size 0 rfl]; rfl
  have hbi : ((w.alloc (.cells #[.pointer (some ⟨P, 0, none⟩)] 70)).alloc (.cells #[.int .i64 (i : Int)] 3)).cell? ⟨w.heap.size + 1, 0, none⟩ = some (.int .i64 (i : Int)) := by
    rw [World.cell?_alloc_at _ _ (w.heap.size + 1) 0 z1.symm]; rfl
  have HB1 : Hid (Bx ((w.alloc (.cells #[.pointer (some ⟨P, 0, none⟩)] 70)).alloc (.cells #[.int .i64 (i : Int)] 3)) w.heap.size (w.heap.size + 2) w.heap.size (.pointer (some ⟨P, 0, none⟩))) := ⟨Nat.le_refl _, by omega, by rw [kb.cell (p := ⟨w.heap.size, 0, none⟩) (by rw [z1]; exact Nat.lt_succ_self _) (by omega)]; exact hb⟩
  have HI1 : Hid (Bx ((w.alloc (.cells #[.pointer (some ⟨P, 0, none⟩)] 70)).alloc (.cells #[.int .i64 (i : Int)] 3)) w.heap.size (w.heap.size + 2) (w.heap.size + 1) (.int .i64 (i : Int))) := ⟨by omega, by omega, hbi⟩
  have HK1 : Hid _ := ka.trans kb
  have HZ1 : Hid _ := z2
  obtain ⟨n, hn⟩ : ∃ n, n = us.length := ⟨_, rfl⟩
  have HC1 : Hid (((w.alloc (.cells #[.pointer (some ⟨P, 0, none⟩)] 70)).alloc (.cells #[.int .i64 (i : Int)] 3)).cell? ⟨P, 1, none⟩ = some (.slice (some ⟨g, 0, none⟩) n cap)) := by
    show _ = _
    rw [(ka.trans kb).cell (p := ⟨P, 1, none⟩) h.lt (by omega), hn]; exact h.c1
  have HA1 : Hid (At ((w.alloc (.cells #[.pointer (some ⟨P, 0, none⟩)] 70)).alloc (.cells #[.int .i64 (i : Int)] 3)) g (i * 6) v) := hat.keep hgl (ka.trans kb) (.inr (.inr (Nat.le_refl _)))
  have HGL : Hid (P < w.heap.size ∧ g < w.heap.size) := ⟨h.lt, hgl⟩
  rw [← hn] at hi hl
  have hi1 : (0 : Int) ≤ (i : Int) := by omega
  have hi2 : (i : Int) < (n : Int) := by omega
  clear h hva hat ka kb z1 z2 hb hbi hn hgl hv
  go_enter Try.func157, Try.ntmps157
  go_upto_region 1 with fail
  generalize ((w.alloc (.cells #[.pointer (some ⟨P, 0, none⟩)] 70)).alloc (.cells #[.int .i64 (i : Int)] 3)) = w1 at HB1 HI1 HK1 HZ1 HC1 HA1 ⊢
  go_cut [5] (fun p wx => p = .pointer (some ⟨w.heap.size + 2, 0, none⟩) ∧ Hid (At wx (w.heap.size + 2) 0 v) ∧ Hid (Kept 0 0 w1 wx) ∧ Hid (wx.heap.size = w.heap.size + 3))
  case first =>
    have x0 := HB1.out.at_
    have x1 := HI1.out.at_
    have y1 := HC1.out
    obtain ⟨a0, a1, a2, a3, a4, a5⟩ := HA1.out
    have hz := HZ1.out
    have hg := HGL.out
    have kz := kept_alloc 0 0 w1 (vbox 0 0 0 0 0 0)
    have zz : ∀ b o, b < w.heap.size + 2 → (w1.alloc (vbox 0 0 0 0 0 0)).cell? ⟨b, o, none⟩ = w1.cell? ⟨b, o, none⟩ := fun b o hb => kz.cell (p := ⟨b, o, none⟩) (by show b < _; omega) (by omega)
    have x0' := (zz w.heap.size 0 (by omega)).trans x0
    have x1' := (zz (w.heap.size + 1) 0 (by omega)).trans x1
    have y1' := (zz P 1 (by omega)).trans y1
    have a0' := (zz g (i * 6) (by omega)).trans a0
    have a1' := (zz g (i * 6 + 1) (by omega)).trans a1
    have a2' := (zz g (i * 6 + 2) (by omega)).trans a2
    have a3' := (zz g (i * 6 + 3) (by omega)).trans a3
    have a4' := (zz g (i * 6 + 4) (by omega)).trans a4
    have a5' := (zz g (i * 6 + 5) (by omega)).trans a5
    clear hg kz zz
    go_region
    all_goals
      go_wp2_with fail
      go_meet
      have hv := vbox_atJ w1 v
      rw [HZ1.out] at hv
      exact ⟨rfl, hv.keep (by have := HZ1.out; simp; omega) (kept_drew _) (.inr (.inr (Nat.le_refl _))), (kept_alloc 0 0 w1 _).trans (kept_drew _), by have := HZ1.out; show (w1.alloc _).heap.size = _; simp; omega⟩
  case rest =>
    obtain ⟨rfl, hV, hK, hZ⟩ := hcut
    have kn := kept_alloc 0 0 wc (.cells #[.int .i64 v.len] 3)
    have zn : (wc.alloc (.cells #[.int .i64 v.len] 3)).heap.size = w.heap.size + 4 := by have := hZ.out; simp; omega
    have ko := kept_alloc 0 0 (wc.alloc (.cells #[.int .i64 v.len] 3)) (.cells #[.func (.func 173) #[] #[.pointer (some ⟨w.heap.size, 0, none⟩), .pointer (some ⟨w.heap.size + 3, 0, none⟩)]] 116)
    have zo : ((wc.alloc (.cells #[.int .i64 v.len] 3)).alloc (.cells #[.func (.func 173) #[] #[.pointer (some ⟨w.heap.size, 0, none⟩), .pointer (some ⟨w.heap.size + 3, 0, none⟩)]] 116)).heap.size = w.heap.size + 5 := by simp; have := hZ.out; omega
    have HK5 : Hid (Kept 0 0 w ((wc.alloc (.cells #[.int .i64 v.len] 3)).alloc (.cells #[.func (.func 173) #[] #[.pointer (some ⟨w.heap.size, 0, none⟩), .pointer (some ⟨w.heap.size + 3, 0, none⟩)]] 116))) := HK1.out.trans (hK.out.trans (kn.trans ko))
    have HB5 : Hid (Bx ((wc.alloc (.cells #[.int .i64 v.len] 3)).alloc (.cells #[.func (.func 173) #[] #[.pointer (some ⟨w.heap.size, 0, none⟩), .pointer (some ⟨w.heap.size + 3, 0, none⟩)]] 116)) w.heap.size ((wc.alloc (.cells #[.int .i64 v.len] 3)).alloc (.cells #[.func (.func 173) #[] #[.pointer (some ⟨w.heap.size, 0, none⟩), .pointer (some ⟨w.heap.size + 3, 0, none⟩)]] 116)).heap.size w.heap.size (.pointer (some ⟨P, 0, none⟩))) := HB1.out.grow (hK.out.trans (kn.trans ko)) HZ1.out.symm rfl
    have HI5 : Hid (Bx ((wc.alloc (.cells #[.int .i64 v.len] 3)).alloc (.cells #[.func (.func 173) #[] #[.pointer (some ⟨w.heap.size, 0, none⟩), .pointer (some ⟨w.heap.size + 3, 0, none⟩)]] 116)) w.heap.size ((wc.alloc (.cells #[.int .i64 v.len] 3)).alloc (.cells #[.func (.func 173) #[] #[.pointer (some ⟨w.heap.size, 0, none⟩), .pointer (some ⟨w.heap.size + 3, 0, none⟩)]] 116)).heap.size (w.heap.size + 1) (.int .i64 (i : Int))) := HI1.out.grow (hK.out.trans (kn.trans ko)) HZ1.out.symm rfl
    have HV5 : Hid (Vx ((wc.alloc (.cells #[.int .i64 v.len] 3)).alloc (.cells #[.func (.func 173) #[] #[.pointer (some ⟨w.heap.size, 0, none⟩), .pointer (some ⟨w.heap.size + 3, 0, none⟩)]] 116)) w.heap.size ((wc.alloc (.cells #[.int .i64 v.len] 3)).alloc (.cells #[.func (.func 173) #[] #[.pointer (some ⟨w.heap.size, 0, none⟩), .pointer (some ⟨w.heap.size + 3, 0, none⟩)]] 116)).heap.size (w.heap.size + 2) v) := (⟨by omega, by omega, hV.out⟩ : Vx wc w.heap.size (w.heap.size + 3) (w.heap.size + 2) v).grow (kn.trans ko) hZ.out.symm rfl
    have HN5 : Hid (Bx ((wc.alloc (.cells #[.int .i64 v.len] 3)).alloc (.cells #[.func (.func 173) #[] #[.pointer (some ⟨w.heap.size, 0, none⟩), .pointer (some ⟨w.heap.size + 3, 0, none⟩)]] 116)) w.heap.size ((wc.alloc (.cells #[.int .i64 v.len] 3)).alloc (.cells #[.func (.func 173) #[] #[.pointer (some ⟨w.heap.size, 0, none⟩), .pointer (some ⟨w.heap.size + 3, 0, none⟩)]] 116)).heap.size (w.heap.size + 3) (.int .i64 v.len)) := (⟨by omega, by omega, by rw [World.cell?_alloc_at _ _ (w.heap.size + 3) 0 hZ.out.symm]; rfl⟩ : Bx (wc.alloc (.cells #[.int .i64 v.len] 3)) w.heap.size (w.heap.size + 4) (w.heap.size + 3) (.int .i64 v.len)).grow ko zn.symm rfl
    have HO5 : Hid (Bx ((wc.alloc (.cells #[.int .i64 v.len] 3)).alloc (.cells #[.func (.func 173) #[] #[.pointer (some ⟨w.heap.size, 0, none⟩), .pointer (some ⟨w.heap.size + 3, 0, none⟩)]] 116)) w.heap.size ((wc.alloc (.cells #[.int .i64 v.len] 3)).alloc (.cells #[.func (.func 173) #[] #[.pointer (some ⟨w.heap.size, 0, none⟩), .pointer (some ⟨w.heap.size + 3, 0, none⟩)]] 116)).heap.size (w.heap.size + 4) (.func (.func 173) #[] #[.pointer (some ⟨w.heap.size, 0, none⟩), .pointer (some ⟨w.heap.size + 3, 0, none⟩)])) := ⟨by omega, by omega, by rw [World.cell?_alloc_at _ _ (w.heap.size + 4) 0 zn.symm]; rfl⟩
    have HZ5 : Hid _ := zo
    obtain ⟨v0, v1, v2, v3, v4, v5⟩ := hV.out
    simp only [Nat.zero_add] at v1 v2 v3 v4 v5
    clear kn zn ko zo HB1 HI1 HK1 HZ1 HC1 HA1 HGL
    go_upto_region 5 with fail
    rw [hZ.out]
    generalize (wc.alloc (.cells #[.int .i64 v.len] 3)).alloc (.cells #[.func (.func 173) #[] #[.pointer (some ⟨w.heap.size, 0, none⟩), .pointer (some ⟨w.heap.size + 3, 0, none⟩)]] 116) = w5 at HK5 HB5 HI5 HV5 HN5 HO5 HZ5 ⊢
    clear v0 v1 v2 v3 v4 v5 hV hK hZ
    obtain ⟨v0, v1, v2, v3, v4, v5⟩ := HV5.out.at_
    simp only [Nat.zero_add] at v1 v2 v3 v4 v5
    have x0 := HB5.out.at_
    have x4 := HO5.out.at_
    have hz5 := HZ5.out
    by_cases ho2 : v.op = 2
    · have R : Hid _ := parts_2 (P := P) (vs0 := vs0) (la := la) n0 n1 ho2 HK5 HB5 HI5 HV5 HN5 HO5
      rw [ho2] at v0
      clear HK5 HB5 HI5 HV5 HN5 HO5 hA
      go_wp2_with fail
      go_ret
      exact R.out _ _ (by rw [HZ5.out])
    by_cases ho3 : v.op = 3
    · have R : Hid _ := parts_3 (P := P) (vs0 := vs0) (la := la) n0 n1 ho3 HK5 HB5 HI5 HV5 HN5 HO5
      rw [ho3] at v0
      clear HK5 HB5 HI5 HV5 HN5 HO5 hA
      go_wp2_with fail
      go_ret
      exact R.out _ _ (by rw [HZ5.out])
    by_cases ho4 : v.op = 4
    · have R : Hid _ := parts_4 (P := P) (vs0 := vs0) (la := la) n0 n1 ho4 HK5 HB5 HI5 HV5 HN5 HO5
      rw [ho4] at v0
      clear HK5 HB5 HI5 HV5 HN5 HO5 hA
      go_wp2_with fail
      go_ret
      exact R.out _ _ (by rw [HZ5.out])
    by_cases ho5 : v.op = 5
    · have R : Hid _ := parts_5 (P := P) (vs0 := vs0) (la := la) n0 n1 ho5 HK5 HB5 HI5 HV5 HN5 HO5
      rw [ho5] at v0
      clear HK5 HB5 HI5 HV5 HN5 HO5 hA
      go_wp2_with fail
      go_ret
      exact R.out _ _ (by rw [HZ5.out])
    by_cases ho6 : v.op = 6
    · have R : Hid _ := parts_6 (P := P) (vs0 := vs0) (la := la) n0 n1 ho6 HK5 HB5 HI5 HV5 HN5 HO5
      rw [ho6] at v0
      clear HK5 HB5 HI5 HV5 HN5 HO5 hA
      go_wp2_with fail
      go_ret
      exact R.out _ _ (by rw [HZ5.out])
    by_cases ho13 : v.op = 13
    · have R : Hid _ := parts_13 (P := P) (vs0 := vs0) (la := la) n0 n1 ho13 HK5 HB5 HI5 HV5 HN5 HO5
      rw [ho13] at v0
      clear HK5 HB5 HI5 HV5 HN5 HO5 hA
      go_wp2_with fail
      go_ret
      exact R.out _ _ (by rw [HZ5.out])
    have HCH : Hid ((v.op = 7 ∨ v.op = 8) → _) := fun h => partsOfChoice w5 P vs0 (i : Int) v la (by omega) n1 h
    have HSH : Hid (_ → _) := fun h => partsOfShape w5 P vs0 (i : Int) v la h hA
    by_cases ho7 : v.op = 7
    · have HC : Hid _ := HCH.out (by omega)
      have t2 : (v.op == 2) = false := by simp; exact ho2
      have t3 : (v.op == 3) = false := by simp; exact ho3
      have t4 : (v.op == 4) = false := by simp; exact ho4
      have t5 : (v.op == 5) = false := by simp; exact ho5
      have t6 : (v.op == 6) = false := by simp; exact ho6
      have t13 : (v.op == 13) = false := by simp; exact ho13
      have t7 : (v.op == 7) = true := by simp; exact ho7
      clear ho7
      clear HB5 HI5 HV5 HN5 HO5 hA HCH HSH
      go_wp2_with fail
      refine Calls.mono HC.out ?_
      rintro e w6 ⟨a6, m6, c6, fv6, rfl, h6⟩
      have R : Hid (PtO w P vs0 (i : Int) v la (.returned (.slice a6 m6 c6)) w6) := PtO.from HK5.out ⟨a6, m6, c6, fv6, rfl, h6⟩
      clear h6
      go_wp2_with fail
      go_ret
      exact R.out
    by_cases ho8 : v.op = 8
    · have HC : Hid _ := HCH.out (by omega)
      have t2 : (v.op == 2) = false := by simp; exact ho2
      have t3 : (v.op == 3) = false := by simp; exact ho3
      have t4 : (v.op == 4) = false := by simp; exact ho4
      have t5 : (v.op == 5) = false := by simp; exact ho5
      have t6 : (v.op == 6) = false := by simp; exact ho6
      have t13 : (v.op == 13) = false := by simp; exact ho13
      have t7 : (v.op == 7) = false := by simp; exact ho7
      have t8 : (v.op == 8) = true := by simp; exact ho8
      clear ho8
      clear HB5 HI5 HV5 HN5 HO5 hA HCH HSH
      go_wp2_with fail
      refine Calls.mono HC.out ?_
      rintro e w6 ⟨a6, m6, c6, fv6, rfl, h6⟩
      have R : Hid (PtO w P vs0 (i : Int) v la (.returned (.slice a6 m6 c6)) w6) := PtO.from HK5.out ⟨a6, m6, c6, fv6, rfl, h6⟩
      clear h6
      go_wp2_with fail
      go_ret
      exact R.out
    have HC : Hid _ := HSH.out (by omega)
    have t2 : (v.op == 2) = false := by simp; exact ho2
    have t3 : (v.op == 3) = false := by simp; exact ho3
    have t4 : (v.op == 4) = false := by simp; exact ho4
    have t5 : (v.op == 5) = false := by simp; exact ho5
    have t6 : (v.op == 6) = false := by simp; exact ho6
    have t13 : (v.op == 13) = false := by simp; exact ho13
    have t7 : (v.op == 7) = false := by simp; exact ho7
    have t8 : (v.op == 8) = false := by simp; exact ho8
    clear HB5 HI5 HV5 HN5 HO5 hA HCH HSH
    go_wp2_with fail
    refine Calls.mono HC.out ?_
    rintro e w6 ⟨a6, m6, c6, fv6, rfl, h6⟩
    have R : Hid (PtO w P vs0 (i : Int) v la (.returned (.slice a6 m6 c6)) w6) := PtO.from HK5.out ⟨a6, m6, c6, fv6, rfl, h6⟩
    clear h6
    go_wp2_with fail
    go_ret
    exact R.out
end Go.Proofs.Ytdkjdlimcnddkaa

namespace Go.Proofs.Ytdkjdlimcnddkaa
open Go.RowKit Flt
attribute [local go_sem] alloc_drewN setCell_drewN run_store_float run_store_func

/-! One step back: pure. -/
/-- A slope is given to value o: the first one as it is, a further one by a sum. -/
def giveM (vs0 : List Vl) (o : Nat) (p : Int) (st : List Vl × List Int) : List Vl × List Int :=
  if st.2.getD o 0 = -1 then (st.1, st.2.set o p) else (st.1 ++ [vput 2 (vs0.getD o Vl.zero).len (st.2.getD o 0) p 0], st.2.set o (st.1.length : Nat))
def laM (vs0 : List Vl) (i : Nat) : Int := (vs0.getD (vs0.getD i Vl.zero).a.toNat Vl.zero).len
/-- The k-th operand of value i gets its part. -/
def gkM (vs0 : List Vl) (act : List Bool) (i k : Nat) (st : List Vl × List Int) : List Vl × List Int :=
  if act.getD (fld (vs0.getD i Vl.zero) k).toNat false = true ∧ prtB (vs0.getD i Vl.zero) k = true then
    giveM vs0 (fld (vs0.getD i Vl.zero) k).toNat (prtM (i : Int) (vs0.getD i Vl.zero) (laM vs0 i) k (st.2.getD i 0) st.1.length).2 (st.1 ++ (prtM (i : Int) (vs0.getD i Vl.zero) (laM vs0 i) k (st.2.getD i 0) st.1.length).1, st.2)
  else st
def gkTo (vs0 : List Vl) (act : List Bool) (i : Nat) (st : List Vl × List Int) : Nat → List Vl × List Int
  | 0 => st
  | k + 1 => gkM vs0 act i k (gkTo vs0 act i st k)
/-- The rule of value i. -/
def giM (vs0 : List Vl) (act : List Bool) (i : Nat) (st : List Vl × List Int) : List Vl × List Int :=
  if st.2.getD i 0 = -1 then st else gkTo vs0 act i st (cnt (vs0.getD i Vl.zero).op)
theorem StQ.mono {Q Q' : Nat → Prop} {R R' : Option Nat} {w w' : World} (s : StQ Q R w R' w') (h : ∀ b, Q b → Q' b) : StQ Q' R w R' w' :=
  ⟨s.chg.mono fun b _ c => c.imp (h b) id, s.row⟩
/-- The walk back at K: the builder, what is active in A, the slopes in S, the rules. -/
structure BK (W : World) (K P A S n : Nat) (rv : Value) (act : List Bool) (sl : List Int) : Prop where
  lt : K < W.heap.size
  fr : ∀ o, W.frozen? ⟨K, o, none⟩ = false
  c0 : W.cell? ⟨K, 0, none⟩ = some (.pointer (some ⟨P, 0, none⟩))
  c1 : W.cell? ⟨K, 1, none⟩ = some (.slice (some ⟨A, 0, none⟩) n n)
  c2 : W.cell? ⟨K, 2, none⟩ = some (.slice (some ⟨S, 0, none⟩) n n)
  c3 : W.cell? ⟨K, 3, none⟩ = some rv
  al : act.length = n
  ln : sl.length = n
  ac : BR W A act
  sp : IR W S sl
structure Dj (P K A S : Nat) (R : Option Nat) : Prop where
  kp : K ≠ P
  ap : A ≠ P
  sp : S ≠ P
  ka : K ≠ A
  ks : K ≠ S
  as_ : A ≠ S
  rk : R ≠ some K
  ra : R ≠ some A
  rs : R ≠ some S
theorem BK.keepC {W W' : World} {Q : Nat → Prop} {K P A S n : Nat} {rv : Value} {act : List Bool} {sl : List Int} (f : BK W K P A S n rv act sl) (k : Chg Q W W') (h1 : ¬ Q K) (h2 : ¬ Q A) (h3 : ¬ Q S) : BK W' K P A S n rv act sl := by
  have e : ∀ o, W'.cell? ⟨K, o, none⟩ = W.cell? ⟨K, o, none⟩ := fun o => k.cell (p := ⟨K, o, none⟩) f.lt h1
  exact ⟨Nat.lt_of_lt_of_le f.lt k.size, fun o => by rw [k.frozen (p := ⟨K, o, none⟩) f.lt h1]; exact f.fr o, by rw [e]; exact f.c0, by rw [e]; exact f.c1, by rw [e]; exact f.c2, by rw [e]; exact f.c3, f.al, f.ln, BR.keepC f.ac k h2, IR.keepC f.sp k h3⟩
theorem BK.keep {W W' : World} {K P A S n : Nat} {rv : Value} {act : List Bool} {sl : List Int} (f : BK W K P A S n rv act sl) (k : Kept 0 0 W W') : BK W' K P A S n rv act sl := f.keepC (S := S) (Q := fun _ => False) k.chg (fun h => h) (fun h => h) (fun h => h)
theorem BK.step {W W' : World} {K P A S n : Nat} {R R' : Option Nat} {rv : Value} {act : List Bool} {sl : List Int} (f : BK W K P A S n rv act sl) (d : Dj P K A S R) (s : Stp P R W R' W') : BK W' K P A S n rv act sl :=
  f.keepC s.chg (by rintro (c | c); exact d.kp c; exact d.rk c) (by rintro (c | c); exact d.ap c; exact d.ra c) (by rintro (c | c); exact d.sp c; exact d.rs c)
theorem Dj.step {W W' : World} {Q : Nat → Prop} {K P A S : Nat} {R R' : Option Nat} (d : Dj P K A S R) (s : StQ Q R W R' W') (hK : K < W.heap.size) (hA : A < W.heap.size) (hS : S < W.heap.size) : Dj P K A S R' := by
  rcases s.row with e | ⟨r, e, hr⟩
  · rw [e]; exact d
  · refine ⟨d.kp, d.ap, d.sp, d.ka, d.ks, d.as_, ?_, ?_, ?_⟩ <;> (rw [e]; intro c; cases c; omega)
/-- A slope is laid. -/
theorem BK.set {W : World} {K P A S n : Nat} {R : Option Nat} {rv : Value} {act : List Bool} {sl : List Int} (f : BK W K P A S n rv act sl) (d : Dj P K A S R) (o : Nat) (x : Int) : BK (W.setCell ⟨S, o, none⟩ (.int .i64 x)) K P A S n rv act (sl.set o x) := by
  have k := chg_setCell (S := fun b => b = S) W S o (.int .i64 x) rfl
  have e : ∀ q, (W.setCell ⟨S, o, none⟩ (.int .i64 x)).cell? ⟨K, q, none⟩ = W.cell? ⟨K, q, none⟩ := fun q => k.cell (p := ⟨K, q, none⟩) f.lt d.ks
  exact ⟨by simpa using f.lt, fun q => by rw [World.frozen?_setCell]; exact f.fr q, by rw [e]; exact f.c0, by rw [e]; exact f.c1, by rw [e]; exact f.c2, by rw [e]; exact f.c3, f.al, by rw [List.length_set]; exact f.ln, BR.keepC f.ac k d.as_, IR.set f.sp o x⟩
theorem BS.setS {W : World} {P S o : Nat} {u1 u3 u : Value} {us : List Vl} {c : Int} {base : Nat} {R : Option Nat} {vv : Value} (h : BS W P u1 u3 us c base R vv) (hP : S ≠ P) (hR : R ≠ some S) : BS (W.setCell ⟨S, o, none⟩ u) P u1 u3 us c base R vv := by
  have k := chg_setCell (S := fun b => b = S) W S o u rfl
  have e : ∀ q, (W.setCell ⟨S, o, none⟩ u).cell? ⟨P, q, none⟩ = W.cell? ⟨P, q, none⟩ := fun q => k.cell (p := ⟨P, q, none⟩) h.lt (fun c => hP c.symm)
  exact ⟨by simpa using h.lt, fun q => by rw [World.frozen?_setCell]; exact h.free q, by rw [e]; exact h.c0, by rw [e]; exact h.c1, by rw [e]; exact h.c2, by rw [e]; exact h.c3, own_setCell h.own (by rw [h.row]; exact hR), h.row, h.ne, by simpa using h.sz⟩
/-- What giving and rules leave. -/
def GvO (W : World) (P K A S n : Nat) (u1 u3 rv : Value) (act : List Bool) (base : Nat) (R : Option Nat) (st : List Vl × List Int) (e : Ending) (w' : World) : Prop :=
  e = .returned (.tuple #[]) ∧ ∃ R' vv', BS w' P u1 u3 st.1 (cellsV st.1) base R' vv' ∧ BK w' K P A S n rv act st.2 ∧ StQ (fun b => b = P ∨ b = S) R W R' w'
set_option maxRecDepth 100000 in
set_option maxHeartbeats 4000000 in
theorem giveS (W : World) (P K A S n : Nat) (u1 u3 rv vv : Value) (act : List Bool) (us : List Vl) (sl : List Int) (base : Nat) (R : Option Nat) (h : BS W P u1 u3 us (cellsV us) base R vv) (b : BK W K P A S n rv act sl) (d : Dj P K A S R) (vs0 : List Vl) (hp : Pre vs0 us) (B : Bnd us (cellsV us) 0) (o : Nat) (p : Int) (ho : o < n) (hv : vs0.length = n) (l0 : 1 ≤ (vs0.getD o Vl.zero).len) (l1 : (vs0.getD o Vl.zero).len ≤ 1000) :
    Calls Try.prog 159 #[.pointer (some ⟨K, 0, none⟩), .int .i64 (o : Int), .int .i64 p] W fun e w' => GvO W P K A S n u1 u3 rv act base R (giveM vs0 o p (us, sl)) e w' := by
  have y0 := b.c0
  have y2 := b.c2
  have y3 := IR.cell b.sp o (by rw [b.ln]; exact ho)
  have hfr := IR.free b.sp o
  have ho1 : (0 : Int) ≤ (o : Int) := by omega
  have ho2 : (o : Int) < (n : Int) := by omega
  have HG : Hid (∀ x, giveM vs0 o p (us, sl) = x → giveM vs0 o p (us, sl) = x) := fun x h => h
  unfold giveM
  by_cases hs : sl.getD o 0 = -1
  · rw [if_pos hs]
    rw [hs] at y3
    have HR1 : Hid _ := BS.setS (o := o) (u := .int .i64 p) h d.sp d.rs
    have HR2 : Hid _ := b.set d o p
    have HR3 : Hid (StQ (fun b => b = P ∨ b = S) R W R (W.setCell ⟨S, o, none⟩ (.int .i64 p))) := ⟨chg_setCell W S o _ (.inl (.inr rfl)), .inl rfl⟩
    clear h b d hp B hs HG
    go_enter Try.func159, Try.ntmps159
    go_wp2_with fail
    refine bodyPost_end (v := .tuple #[]) (by simp [results, Try.results159, go_sem]) rfl ?_
    exact ⟨rfl, R, vv, HR1.out, HR2.out, HR3.out⟩
  · rw [if_neg hs]
    have hs1 : (sl.getD o 0 == -1) = false := by simp; exact hs
    have HX : Hid _ := put_bd W.drew P u1 u3 us (cellsV us) base R vv 2 (vs0.getD o Vl.zero).len (sl.getD o 0) p 0 (BS.keep h (kept_drew W)) (by have := B.l; omega) (by have := B.c0; omega) (by have := B.c1; omega) (by omega) (by omega)
    have HL : Hid _ := bldLen W.drew P u1 u3 us (cellsV us) base R vv (BS.keep h (kept_drew W)) o (hp.at_ (by omega)).2 B.l
    rw [(hp.at_ (show o < vs0.length by omega)).1] at HL
    generalize (vs0.getD o Vl.zero).len = L at HX HL
    generalize sl.getD o 0 = q at y3 hs1 HX
    have HB : Hid _ := b
    have HD : Hid _ := d
    have HO : Hid (o < n) := ho
    clear h b d hp B hs HG hfr l0 l1
    go_enter Try.func159, Try.ntmps159
    go_wp2_with fail
    go_region_held3 (fun w' => w'.cell? ⟨K, 0, none⟩ = some (.pointer (some ⟨P, 0, none⟩)) ∧ w'.cell? ⟨K, 2, none⟩ = some (.slice (some ⟨S, 0, none⟩) n n) ∧ w'.cell? ⟨S, o, none⟩ = some (.int .i64 q)) (go_keep) (first
      | (go_at_call 134; refine Calls.mono HL.out ?_; rintro e w1 ⟨rfl, rfl⟩)
      | (go_at_call 174; refine Calls.mono HX.out ?_; rintro e w2 ⟨rfl, R2, vv2, h2, s2⟩; have s9 : Stp P R W R2 w2 := StQ.trans ⟨(kept_drew W).chg, .inl rfl⟩ s2; have HS9 : Hid _ := s9; have H2 : Hid _ := h2; have HB2 : Hid _ := HB.out.step HD.out s9; have z0 := HB2.out.c0; have z2 := HB2.out.c2; have zS : w2.cell? ⟨S, o, none⟩ = some (.int .i64 q) := (by rw [s9.chg.cell (p := ⟨S, o, none⟩) HB.out.sp.lt (by rintro (c | c); exact HD.out.sp c; exact HD.out.rs c)]; exact y3); have zf := IR.free HB2.out.sp o; clear s9 h2 s2))
    all_goals
      have HD2 : Hid _ := HD.out.step HS9.out HB.out.lt HB.out.ac.lt HB.out.sp.lt
      have HR1 := BS.setS (o := o) (u := .int .i64 (us.length : Nat)) H2.out HD2.out.sp HD2.out.rs
      have HR1' : Hid (BS (w2.setCell ⟨S, o, none⟩ (.int .i64 (us.length : Nat))) P u1 u3 (us ++ [vput 2 L q p 0]) (cellsV (us ++ [vput 2 L q p 0])) base R2 vv2) := by
        show BS _ _ _ _ _ _ _ _ _
        rw [cellsV_app]; exact HR1
      have HR2 : Hid _ := HB2.out.set HD2.out o (us.length : Nat)
      have HR3 : Hid (StQ (fun b => b = P ∨ b = S) R W R2 (w2.setCell ⟨S, o, none⟩ (.int .i64 (us.length : Nat)))) := StQ.trans (HS9.out.mono fun b c => .inl c) ⟨chg_setCell w2 S o _ (.inl (.inr rfl)), .inl rfl⟩
      clear HR1
      go_wp2_with fail
      refine bodyPost_end (v := .tuple #[]) (by simp [results, Try.results159, go_sem]) rfl ?_
      exact ⟨rfl, R2, vv2, HR1'.out, HR2.out, HR3.out⟩
end Go.Proofs.Ytdkjdlimcnddkaa

namespace Go.Proofs.Ytdkjdlimcnddkaa
open Go.RowKit Flt
attribute [local go_sem] alloc_drewN setCell_drewN run_store_float run_store_func
def SzP (M : List Vl × Int) : Prop := M.1.length ≤ 3 ∧ 0 ≤ cellsV M.1 ∧ cellsV M.1 ≤ 3000
theorem szp_ite {p : Prop} [Decidable p] {a b : List Vl × Int} (ha : SzP a) (hb : SzP b) : SzP (if p then a else b) := by split <;> assumption
theorem prt_size (i : Int) (v : Vl) (la : Int) (k : Nat) (d : Int) (N : Nat) (h0 : 0 ≤ v.len) (h1 : v.len ≤ 1000) (h2 : 0 ≤ la) (h3 : la ≤ 1000) : SzP (prtM i v la k d N) := by
  unfold prtM
  repeat' (apply szp_ite)
  all_goals (unfold SzP; simp only [cellsV, List.length_cons, List.length_nil]; omega)
structure Bz (us : List Vl) : Prop where
  l : us.length ≤ 800000
  c0 : 0 ≤ cellsV us
  c1 : cellsV us ≤ 800000000
theorem Bz.bnd {us a : List Vl} (b : Bz us) (h1 : a.length ≤ 10) (h2 : 0 ≤ cellsV a) (h3 : cellsV a ≤ 10000) : Bnd (us ++ a) (cellsV (us ++ a)) 0 := by
  have := b.l
  have := b.c0
  have := b.c1
  exact ⟨by rw [List.length_append]; omega, by rw [cellsV_app]; omega, by rw [cellsV_app]; omega, by decide, by decide⟩
theorem Bz.bnd0 {us : List Vl} (b : Bz us) : Bnd us (cellsV us) 0 := by
  have := b.l
  have := b.c0
  have := b.c1
  exact ⟨by omega, by omega, by omega, by decide, by decide⟩
theorem gkM_pre {vs0 : List Vl} {act : List Bool} {i k : Nat} {st : List Vl × List Int} (h : Pre vs0 st.1) : Pre vs0 (gkM vs0 act i k st).1 := by
  unfold gkM giveM
  split
  · split
    · exact h.app
    · exact h.app.app
  · exact h
theorem gkTo_pre {vs0 : List Vl} {act : List Bool} {i : Nat} {st : List Vl × List Int} (h : Pre vs0 st.1) : ∀ k, Pre vs0 (gkTo vs0 act i st k).1
  | 0 => h
  | k + 1 => gkM_pre (gkTo_pre h k)
theorem gkM_len {vs0 : List Vl} {act : List Bool} {i k : Nat} {st : List Vl × List Int} : (gkM vs0 act i k st).2.length = st.2.length := by
  unfold gkM giveM
  split
  · split <;> simp
  · rfl
theorem gkTo_len {vs0 : List Vl} {act : List Bool} {i : Nat} {st : List Vl × List Int} : ∀ k, (gkTo vs0 act i st k).2.length = st.2.length
  | 0 => rfl
  | k + 1 => by rw [gkTo, gkM_len, gkTo_len k]
/-- What a rule has caught, as data. -/
structure RuleIn (W0 : World) (lo hi P K : Nat) (vs0 : List Vl) (i xw xi xo xp go : Nat) (a : Option Addr) (mp cp : Nat) (fv : Nat → Value) : Prop where
  bw : Bx W0 lo hi xw (.pointer (some ⟨K, 0, none⟩))
  bi : Bx W0 lo hi xi (.int .i64 (i : Int))
  bo : Bx W0 lo hi xo (.slice (some ⟨go, 0, none⟩) (cnt (vs0.getD i Vl.zero).op) 3)
  go_ : ∀ k, k < cnt (vs0.getD i Vl.zero).op → lo ≤ go ∧ go < hi ∧ W0.cell? ⟨go, k, none⟩ = some (.int .i64 (fld (vs0.getD i Vl.zero) k))
  bp : Bx W0 lo hi xp (.slice a mp cp)
  mp_ : cnt (vs0.getD i Vl.zero).op ≤ mp
  pts : Pts W0 lo hi P vs0 (i : Int) (vs0.getD i Vl.zero) (laM vs0 i) a fv
theorem RuleIn.mono {W0 W1 : World} {lo hi lo' hi' P K : Nat} {vs0 : List Vl} {i xw xi xo xp go : Nat} {a : Option Addr} {mp cp : Nat} {fv : Nat → Value} (f : RuleIn W0 lo hi P K vs0 i xw xi xo xp go a mp cp fv) (s : Same lo hi W0 W1) (h1 : lo' ≤ lo) (h2 : hi ≤ hi') : RuleIn W1 lo' hi' P K vs0 i xw xi xo xp go a mp cp fv := by
  have g : ∀ {b u}, Bx W0 lo hi b u → Bx W1 lo' hi' b u := fun x => ⟨by have := x.lo_; omega, by have := x.hi_; omega, by rw [s.cell x.lo_ x.hi_]; exact x.at_⟩
  exact ⟨g f.bw, g f.bi, g f.bo, fun k hk => by
    obtain ⟨a1, a2, a3⟩ := f.go_ k hk
    exact ⟨by omega, by omega, by rw [s.cell a1 a2]; exact a3⟩, g f.bp, f.mp_, f.pts.mono s h1 h2⟩
/-- What holds between the steps of a rule. -/
structure RSt (W0 W1 W : World) (lo hi P K A S n : Nat) (u1 u3 rv : Value) (act : List Bool) (base : Nat) (R0 R : Option Nat) (vv : Value) (st : List Vl × List Int) : Prop where
  same : Same lo hi W0 W
  inr : InR lo hi P R
  bs : BS W P u1 u3 st.1 (cellsV st.1) base R vv
  bk : BK W K P A S n rv act st.2
  dj : Dj P K A S R
  stq : StQ (fun b => b = P ∨ b = S) R0 W1 R W
theorem RSt.keep {W0 W1 W W' : World} {lo hi P K A S n : Nat} {u1 u3 rv : Value} {act : List Bool} {base : Nat} {R0 R : Option Nat} {vv : Value} {st : List Vl × List Int} (f : RSt W0 W1 W lo hi P K A S n u1 u3 rv act base R0 R vv st) (k : Kept 0 0 W W') : RSt W0 W1 W' lo hi P K A S n u1 u3 rv act base R0 R vv st :=
  ⟨f.same.chg (k.chg (S := fun _ => False)) (fun _ _ _ h => h), f.inr, BS.keep f.bs k, f.bk.keep k, f.dj, f.stq.trans ⟨k.chg, .inl rfl⟩⟩
/-- Behind a part's closure. -/
theorem RSt.part {W0 W1 W W' : World} {lo hi P K A S n : Nat} {u1 u3 rv : Value} {act : List Bool} {base : Nat} {R0 R R' : Option Nat} {vv vv' : Value} {us a : List Vl} {sl : List Int} (f : RSt W0 W1 W lo hi P K A S n u1 u3 rv act base R0 R vv (us, sl)) (h : BS W' P u1 u3 (us ++ a) (cellsV us + cellsV a) base R' vv') (s : Stp P R W R' W') : RSt W0 W1 W' lo hi P K A S n u1 u3 rv act base R0 R' vv' (us ++ a, sl) :=
  ⟨f.same.step f.inr s, f.inr.step s (Nat.le_trans f.same.le f.same.size), by show BS _ _ _ _ (us ++ a) (cellsV (us ++ a)) _ _ _; rw [cellsV_app]; exact h, f.bk.step f.dj s, f.dj.step s f.bk.lt f.bk.ac.lt f.bk.sp.lt, f.stq.trans (s.mono fun b c => .inl c)⟩
/-- Behind a give. -/
theorem RSt.give {W0 W1 W W' : World} {lo hi P K A S n : Nat} {u1 u3 rv : Value} {act : List Bool} {base : Nat} {R0 R R' : Option Nat} {vv vv' : Value} {st st' : List Vl × List Int} (f : RSt W0 W1 W lo hi P K A S n u1 u3 rv act base R0 R vv st) (hS : S < lo) (h : BS W' P u1 u3 st'.1 (cellsV st'.1) base R' vv') (b : BK W' K P A S n rv act st'.2) (s : StQ (fun b => b = P ∨ b = S) R W R' W') : RSt W0 W1 W' lo hi P K A S n u1 u3 rv act base R0 R' vv' st' :=
  ⟨f.same.chg s.chg (fun b h1 h2 c => by
    rcases c with (c | c) | c
    · have := f.inr.p; omega
    · omega
    · have := f.inr.r b c; omega), ⟨f.inr.p, fun b hb => by
    rcases s.row with e | ⟨r, e, hr⟩
    · exact f.inr.r b (by rw [← e]; exact hb)
    · rw [e] at hb
      cases hb
      have := f.same.le
      have := f.same.size
      exact .inr (by omega)⟩, h, b, f.dj.step s f.bk.lt f.bk.ac.lt f.bk.sp.lt, f.stq.trans s⟩
end Go.Proofs.Ytdkjdlimcnddkaa
