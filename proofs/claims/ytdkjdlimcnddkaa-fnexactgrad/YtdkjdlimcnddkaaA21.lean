import Derived.Test.YtdkjdlimcnddkaaA20
namespace Go.Proofs.Ytdkjdlimcnddkaa
open Go.RowKit Flt
attribute [local go_sem] alloc_drewN setCell_drewN run_store_float
theorem PtO.empty {w w3 : World} {P : Nat} {vs0 : List Vl} {i : Int} {v : Vl} {la : Int} (k3 : Kept 0 0 w w3) (hc : cnt v.op = 0) : PtO w P vs0 i v la (.returned (.slice none 0 0)) w3 :=
  ⟨none, 0, 0, fun _ => .nilFunc, rfl, by omega, ⟨fun k hk => by omega, fun k hk => by omega, fun k hk => by omega⟩, k3⟩
set_option maxRecDepth 100000 in
set_option maxHeartbeats 4000000 in
theorem partsOfShape (w : World) (P : Nat) (vs0 : List Vl) (i : Int) (v : Vl) (la : Int) (ho : v.op = 9 ∨ v.op = 10 ∨ v.op = 11 ∨ v.op = 12 ∨ v.op = 0 ∨ v.op = 1)
    (hA : (v.op = 9 ∨ v.op = 11) → ∃ j : Nat, v.a = (j : Int) ∧ j < vs0.length ∧ (vs0.getD j Vl.zero).len = la ∧ 1 ≤ la ∧ la ≤ 1000) :
    Calls Try.prog 181 #[.pointer (some ⟨P, 0, none⟩), v.agg] w fun e w' => PtO w P vs0 i v la e w' := by
  have ka := kept_alloc 0 0 w (.cells #[.pointer (some ⟨P, 0, none⟩)] 70)
  have kb := kept_alloc 0 0 (w.alloc (.cells #[.pointer (some ⟨P, 0, none⟩)] 70)) (vbox v.op v.len v.a v.b v.c v.k)
  have z1 : (w.alloc (.cells #[.pointer (some ⟨P, 0, none⟩)] 70)).heap.size = w.heap.size + 1 := by simp
  have hv := vbox_atJ (w.alloc (.cells #[.pointer (some ⟨P, 0, none⟩)] 70)) v
  rw [z1] at hv
  have z2 : ((w.alloc (.cells #[.pointer (some ⟨P, 0, none⟩)] 70)).alloc (vbox v.op v.len v.a v.b v.c v.k)).heap.size = w.heap.size + 2 := by simp
  have hb : (w.alloc (.cells #[.pointer (some ⟨P, 0, none⟩)] 70)).cell? ⟨w.heap.size, 0, none⟩ = some (.pointer (some ⟨P, 0, none⟩)) := by
    rw [World.cell?_alloc_at _ _ w.heap.size 0 rfl]; rfl
  have HK3 : Hid _ := ka.trans kb
  have HB3 : Hid (Bx ((w.alloc (.cells #[.pointer (some ⟨P, 0, none⟩)] 70)).alloc (vbox v.op v.len v.a v.b v.c v.k)) w.heap.size (w.heap.size + 2) w.heap.size (.pointer (some ⟨P, 0, none⟩))) := ⟨Nat.le_refl _, by omega, by rw [kb.cell (p := ⟨w.heap.size, 0, none⟩) (by rw [z1]; exact Nat.lt_succ_self _) (by omega)]; exact hb⟩
  have HV3 : Hid (Vx ((w.alloc (.cells #[.pointer (some ⟨P, 0, none⟩)] 70)).alloc (vbox v.op v.len v.a v.b v.c v.k)) w.heap.size (w.heap.size + 2) (w.heap.size + 1) v) := ⟨by omega, by omega, hv⟩
  have HZ3 : Hid _ := z2
  clear ka kb z1 hv z2 hb
  go_enter Try.func181, Try.ntmps181
  go_upto_region 1 with fail
  generalize (w.alloc (.cells #[.pointer (some ⟨P, 0, none⟩)] 70)).alloc (vbox v.op v.len v.a v.b v.c v.k) = w3 at HK3 HB3 HV3 HZ3 ⊢
  obtain ⟨v0, v1, v2, v3, v4, v5⟩ := HV3.out.at_
  simp only [Nat.zero_add] at v1 v2 v3 v4 v5
  have HB4 : Hid (Bx w3 w.heap.size w3.heap.size w.heap.size (.pointer (some ⟨P, 0, none⟩))) := by show Bx _ _ _ _ _; rw [HZ3.out]; exact HB3.out
  have HV4 : Hid (Vx w3 w.heap.size w3.heap.size (w.heap.size + 1) v) := by show Vx _ _ _ _ _; rw [HZ3.out]; exact HV3.out
  rcases ho with ho | ho | ho | ho | ho | ho
  · rw [ho] at v0
    obtain ⟨j, ej, hj, el, l0, l1⟩ := hA (by rw [ho]; decide)
    have R : Hid (∀ t g, g = w3.heap.size → PtO w P vs0 i v la (.returned (.slice (some ⟨g, 0, none⟩) 1 1)) (w3.alloc (.cells #[.func (.func 188) #[] #[.pointer (some ⟨w.heap.size, 0, none⟩), .pointer (some ⟨w.heap.size + 1, 0, none⟩)]] t))) := by
      intro t g hg
      refine PtO.mk HK3.out _ t 1 (by rw [ho]; decide) (fun k hk => ?_) g hg
      have hc : cnt v.op = 1 := by rw [ho]; rfl
      obtain rfl : k = 0 := by omega
      refine ⟨_, rfl, fun _ => (pc_sum HB4.out HV4.out ej hj (by rw [el]; exact l0) (by rw [el]; exact l1)).cast ?_, fun hb => ?_⟩
      · funext d N
        unfold prtM
        rw [ho, el]
        rfl
      · unfold prtB at hb
        rw [ho] at hb
        simp at hb
    clear HB3 HV3 HK3 HB4 HV4 ho hA
    have hz3 := HZ3.out
    go_wp2_with fail
    go_ret
    exact R.out _ _ (by rw [HZ3.out])
  · rw [ho] at v0
    have R : Hid (∀ t g, g = w3.heap.size → PtO w P vs0 i v la (.returned (.slice (some ⟨g, 0, none⟩) 1 1)) (w3.alloc (.cells #[.func (.func 189) #[] #[.pointer (some ⟨w.heap.size, 0, none⟩)]] t))) := by
      intro t g hg
      refine PtO.mk HK3.out _ t 1 (by rw [ho]; decide) (fun k hk => ?_) g hg
      have hc : cnt v.op = 1 := by rw [ho]; rfl
      obtain rfl : k = 0 := by omega
      refine ⟨_, rfl, fun _ => (pc_fill HB4.out).cast ?_, fun hb => ?_⟩
      · funext d N
        unfold prtM
        rw [ho]
        rfl
      · unfold prtB at hb
        rw [ho] at hb
        simp at hb
    clear HB3 HV3 HK3 HB4 HV4 ho hA
    have hz3 := HZ3.out
    go_wp2_with fail
    go_ret
    exact R.out _ _ (by rw [HZ3.out])
  · rw [ho] at v0
    obtain ⟨j, ej, hj, el, l0, l1⟩ := hA (by rw [ho]; decide)
    have R : Hid (∀ t g, g = w3.heap.size → PtO w P vs0 i v la (.returned (.slice (some ⟨g, 0, none⟩) 1 1)) (w3.alloc (.cells #[.func (.func 190) #[] #[.pointer (some ⟨w.heap.size, 0, none⟩), .pointer (some ⟨w.heap.size + 1, 0, none⟩)]] t))) := by
      intro t g hg
      refine PtO.mk HK3.out _ t 1 (by rw [ho]; decide) (fun k hk => ?_) g hg
      have hc : cnt v.op = 1 := by rw [ho]; rfl
      obtain rfl : k = 0 := by omega
      refine ⟨_, rfl, fun _ => (pc_pick HB4.out HV4.out ej hj (by rw [el]; exact l0) (by rw [el]; exact l1)).cast ?_, fun hb => ?_⟩
      · funext d N
        unfold prtM
        rw [ho, el]
        rfl
      · unfold prtB at hb
        rw [ho] at hb
        simp at hb
    clear HB3 HV3 HK3 HB4 HV4 ho hA
    have hz3 := HZ3.out
    go_wp2_with fail
    go_ret
    exact R.out _ _ (by rw [HZ3.out])
  · rw [ho] at v0
    have R : Hid (∀ t g, g = w3.heap.size → PtO w P vs0 i v la (.returned (.slice (some ⟨g, 0, none⟩) 1 1)) (w3.alloc (.cells #[.func (.func 191) #[] #[.pointer (some ⟨w.heap.size, 0, none⟩), .pointer (some ⟨w.heap.size + 1, 0, none⟩)]] t))) := by
      intro t g hg
      refine PtO.mk HK3.out _ t 1 (by rw [ho]; decide) (fun k hk => ?_) g hg
      have hc : cnt v.op = 1 := by rw [ho]; rfl
      obtain rfl : k = 0 := by omega
      refine ⟨_, rfl, fun _ => (pc_put HB4.out HV4.out).cast ?_, fun hb => ?_⟩
      · funext d N
        unfold prtM
        rw [ho]
        rfl
      · unfold prtB at hb
        rw [ho] at hb
        simp at hb
    clear HB3 HV3 HK3 HB4 HV4 ho hA
    have hz3 := HZ3.out
    go_wp2_with fail
    go_ret
    exact R.out _ _ (by rw [HZ3.out])
  · rw [ho] at v0
    have R : Hid (PtO w P vs0 i v la (.returned (.slice none 0 0)) w3) := PtO.empty HK3.out (by rw [ho]; rfl)
    clear HB3 HV3 HK3 HB4 HV4 ho hA
    go_wp2_with fail
    go_ret
    exact R.out
  · rw [ho] at v0
    have R : Hid (PtO w P vs0 i v la (.returned (.slice none 0 0)) w3) := PtO.empty HK3.out (by rw [ho]; rfl)
    clear HB3 HV3 HK3 HB4 HV4 ho hA
    go_wp2_with fail
    go_ret
    exact R.out
end Go.Proofs.Ytdkjdlimcnddkaa
