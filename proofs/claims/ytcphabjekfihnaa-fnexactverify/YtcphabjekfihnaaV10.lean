import Derived.Test.YtcphabjekfihnaaV08
namespace Go.Proofs.Ytcphabjekfihnaa
open Go.RowKit Flt
attribute [local go_sem] alloc_drewN setCell_drewN run_store_float

set_option maxRecDepth 100000 in
set_option maxHeartbeats 4000000 in
theorem meets (w : World) (s p : Spn) (h1 : -1000000 ≤ s.off + s.len ∧ s.off + s.len ≤ 1000000) (h2 : -1000000 ≤ p.off + p.len ∧ p.off + p.len ≤ 1000000) :
    Calls Try.prog 169 #[s.agg, p.agg] w fun e w' => e = .returned (.bool (decide (s.off < p.off + p.len ∧ p.off < s.off + s.len))) ∧ Kept 0 0 w w' := by
  have hK := (kept_alloc 0 0 w s.box).trans (kept_alloc 0 0 _ p.box)
  have hz : (w.alloc s.box).heap.size = w.heap.size + 1 := by simp
  have hB1 := (spn_box w s).keep (by simp) (kept_alloc 0 0 (w.alloc s.box) p.box) (.inr (.inr (Nat.le_refl _)))
  have hB2 := spn_box (w.alloc s.box) p
  rw [hz] at hB2
  have HK : Hid _ := hK
  have HB1 : Hid _ := hB1
  have HB2 : Hid _ := hB2
  have HZ : Hid (w.heap.size + 1 < ((w.alloc s.box).alloc p.box).heap.size) := by show _ < _; simp
  have HE1 : Hid (∀ w, Calls Try.prog 170 #[s.agg] w fun e w' => e = .returned (.int .i64 (s.off + s.len)) ∧ Kept 0 0 w w') := fun w => spanEnd w s h1
  have HE2 : Hid (∀ w, Calls Try.prog 170 #[p.agg] w fun e w' => e = .returned (.int .i64 (p.off + p.len)) ∧ Kept 0 0 w w') := fun w => spanEnd w p h2
  obtain ⟨q0, q1⟩ := hB1
  obtain ⟨r0, r1⟩ := hB2
  rw [Nat.zero_add] at q1 r1
  clear hK hz
  by_cases u : s.off < p.off + p.len
  · have HR : Hid (decide (s.off < p.off + p.len ∧ p.off < s.off + s.len) = decide (p.off < s.off + s.len)) := by
      show _ = _
      rw [Bool.eq_iff_iff]; simp [u]
    have u' : decide (s.off < p.off + p.len) = true := decide_eq_true u
    go_enter Try.func169, Try.ntmps169
    go_wp2_with fail
    generalize (w.alloc s.box).alloc p.box = w1 at HK HB1 HB2 HZ q0 q1 r0 r1 ⊢
    go_region_held3 (fun w' => w'.cell? ⟨w.heap.size, 0, none⟩ = some (.int .i64 s.off) ∧ w'.cell? ⟨w.heap.size, 1, none⟩ = some (.int .i64 s.len) ∧ w'.cell? ⟨w.heap.size + 1, 0, none⟩ = some (.int .i64 p.off) ∧ w'.cell? ⟨w.heap.size + 1, 1, none⟩ = some (.int .i64 p.len)) (go_keep) (first
      | (go_at_call 170; refine Calls.mono (HE1.out _) ?_; rintro e w3 ⟨rfl, k3⟩; have kk3 := Kept.trans kk2 k3; obtain ⟨m0, m1⟩ := AtP.keep HB1.out (by have := HZ.out; omega) kk3 (.inr (.inr (Nat.le_refl _))); obtain ⟨l0, l1⟩ := AtP.keep HB2.out HZ.out kk3 (.inr (.inr (Nat.le_refl _))); rw [Nat.zero_add] at m1 l1)
      | (go_at_call 170; refine Calls.mono (HE2.out _) ?_; rintro e w2 ⟨rfl, k2⟩; have kk2 := Kept.trans (kept_drewN 0 0 w1 1) k2; obtain ⟨s0, s1⟩ := AtP.keep HB1.out (by have := HZ.out; omega) kk2 (.inr (.inr (Nat.le_refl _))); obtain ⟨t0, t1⟩ := AtP.keep HB2.out HZ.out kk2 (.inr (.inr (Nat.le_refl _))); rw [Nat.zero_add] at s1 t1))
    all_goals
      go_wp2
      go_ret
      exact ⟨by rw [HR.out]; rfl, Kept.trans HK.out kk3⟩
  · have HR : Hid (decide (s.off < p.off + p.len ∧ p.off < s.off + s.len) = false) := decide_eq_false (fun c => u c.1)
    have u' : decide (s.off < p.off + p.len) = false := decide_eq_false u
    go_enter Try.func169, Try.ntmps169
    go_wp2_with fail
    generalize (w.alloc s.box).alloc p.box = w1 at HK HB1 HB2 HZ q0 q1 r0 r1 ⊢
    first | (go_region_with (go_at_call 170; refine Calls.mono (HE2.out _) ?_; rintro e w2 ⟨rfl, k2⟩; have kk2 := Kept.trans (kept_drewN 0 0 w1 1) k2; obtain ⟨s0, s1⟩ := AtP.keep HB1.out (by have := HZ.out; omega) kk2 (.inr (.inr (Nat.le_refl _))); obtain ⟨t0, t1⟩ := AtP.keep HB2.out HZ.out kk2 (.inr (.inr (Nat.le_refl _))); rw [Nat.zero_add] at s1 t1)) | fail
    all_goals
      go_wp2
      go_ret
      exact ⟨by rw [HR.out]; rfl, Kept.trans HK.out kk2⟩
end Go.Proofs.Ytcphabjekfihnaa
