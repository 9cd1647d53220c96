import Derived.Test.YtcphabjekfihnaaV08
namespace Go.Proofs.Ytcphabjekfihnaa
open Go.RowKit Flt
attribute [local go_sem] alloc_drewN setCell_drewN run_store_float

set_option maxRecDepth 100000 in
set_option maxHeartbeats 4000000 in
theorem hold_not (w : World) (g n cap : Nat) (hn : n ≤ 50000) (p : Spn) (h1 : 1 ≤ p.len) (h2 : p.len ≤ 1000) (h3 : withB p.off p.len n = false) :
    Calls Try.prog 139 #[.slice (some ⟨g, 0, none⟩) n cap, p.agg] w fun e w' => e = .returned (.bool false) ∧ Kept 0 0 w w' := by
  have hK := kept_alloc 0 0 w p.box
  have hB := spn_box w p
  have HK : Hid _ := hK
  have HB : Hid _ := hB
  have HBL : Hid (w.heap.size < (w.alloc p.box).heap.size) := by show _ < _; simp
  obtain ⟨q0, q1⟩ := hB
  rw [Nat.zero_add] at q1
  have HW : Hid (∀ w, Calls Try.prog 168 #[p.agg, .int .i64 (n : Int)] w fun e w' => e = .returned (.bool false) ∧ Kept 0 0 w w') := fun w => by
    have := within w p (n : Int) h1 h2 (by omega) (by omega)
    rw [h3] at this
    exact this
  clear hK
  go_enter Try.func139, Try.ntmps139
  go_wp2_with fail
  generalize w.alloc p.box = w1 at HK HB HBL q0 q1 ⊢
  first | (go_region_with (go_at_call 168; refine Calls.mono (HW.out _) ?_; rintro e w2 ⟨rfl, k2⟩; have kk2 := Kept.trans (kept_drewN 0 0 w1 1) k2; obtain ⟨s0, s1⟩ := AtP.keep HB.out HBL.out kk2 (.inr (.inr (Nat.le_refl _))); rw [Nat.zero_add] at s1)) | fail
  all_goals
    go_wp2
    go_ret
    exact ⟨rfl, Kept.trans HK.out (Kept.trans (kept_drewN 0 0 w1 1) k2)⟩
/-- hold, by the pure model. -/
theorem hold (w : World) (g n cap : Nat) (ss : List Ste) (i : Nat) (hn : n ≤ 50000) (hcap : n ≤ cap) (f : BL w g n (fun k => wroteB ss i (k : Nat))) (p : Spn) (h1 : 1 ≤ p.len) (h2 : p.len ≤ 1000) :
    Calls Try.prog 139 #[.slice (some ⟨g, 0, none⟩) n cap, p.agg] w fun e w' => e = .returned (.bool (holdB ss i n p.off p.len)) ∧ Kept 0 0 w w' := by
  cases h3 : withB p.off p.len n
  · have e : holdB ss i n p.off p.len = false := by unfold holdB; rw [h3]; rfl
    rw [e]
    exact hold_not w g n cap hn p h1 h2 h3
  · have h4 := of_decide_eq_true h3
    obtain ⟨off, len⟩ := p
    simp only at h1 h2 h4 ⊢
    obtain ⟨o, rfl⟩ := Int.eq_ofNat_of_zero_le h4.1
    obtain ⟨m, rfl⟩ := Int.eq_ofNat_of_zero_le (by omega : 0 ≤ len)
    have e : holdB ss i n (o : Int) (m : Int) = ((List.range m).all fun j => wroteB ss i ((o + j : Nat) : Int)) := by
      unfold holdB
      rw [h3, Int.toNat_natCast, Bool.true_and]
      congr 1
    rw [e]
    exact hold_in w g n cap (fun k => wroteB ss i (k : Nat)) hn hcap f o m (by omega) (by omega) (by omega)

end Go.Proofs.Ytcphabjekfihnaa
