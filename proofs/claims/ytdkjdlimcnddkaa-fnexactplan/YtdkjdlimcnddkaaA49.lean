import Derived.Test.YtdkjdlimcnddkaaA48
import Derived.Test.YtdkjdlimcnddkaaA34
namespace Go.Proofs.Ytdkjdlimcnddkaa
open Go.RowKit Flt
attribute [local go_sem] alloc_drewN setCell_drewN run_store_float
theorem max_i (ats : Array TypeId) (ty : TypeId) (x y : Int) : Builtin.max_ ats ty #[.int .i64 x, .int .i64 y] = pure (.int .i64 (if y > x then y else x)) := rfl
/-- The step that the program lays is the model's. -/
theorem step_eq {vs : List Vl} {ps : List Int} {n i : Nat} (hi : i < n) (h : ∀ k, k < cnt (vs.getD i Vl.zero).op → 0 ≤ fld (vs.getD i Vl.zero) k ∧ fld (vs.getD i Vl.zero) k < i) : stepPl (plUp vs ps n n) (vs.getD i Vl.zero) (ps.getD i 0) = steM vs ps i := by
  unfold stepPl steM
  generalize vs.getD i Vl.zero = v at h ⊢
  have hc := cnt_le v.op
  have hp : ∀ k, k < cnt v.op → (plUp vs ps n n).getD (fld v k).toNat Spn.zero = spanOf vs ps (fld v k).toNat := fun k hk => by
    have := h k hk
    rw [plUp_at vs ps (by omega), if_pos (by omega)]
  generalize hcc : cnt v.op = c at *
  rcases (by omega : c = 0 ∨ c = 1 ∨ c = 2 ∨ c = 3) with rfl | rfl | rfl | rfl
  · rfl
  · have h0 := hp 0 (by omega)
    have e0 : fld v 0 = v.a := rfl
    rw [e0] at h0
    simp only [opTo, e0, h0]
    rfl
  · have h0 := hp 0 (by omega)
    have h1 := hp 1 (by omega)
    have e0 : fld v 0 = v.a := rfl
    have e1 : fld v 1 = v.b := rfl
    rw [e0] at h0
    rw [e1] at h1
    simp only [opTo, e0, e1, h0, h1]
    rfl
  · have h0 := hp 0 (by omega)
    have h1 := hp 1 (by omega)
    have h2 := hp 2 (by omega)
    have e0 : fld v 0 = v.a := rfl
    have e1 : fld v 1 = v.b := rfl
    have e2 : fld v 2 = v.c := rfl
    rw [e0] at h0
    rw [e1] at h1
    rw [e2] at h2
    simp only [opTo, e0, e1, e2, h0, h1, h2]
    rfl
set_option maxRecDepth 100000 in
set_option maxHeartbeats 4000000 in
theorem implPlan_bad (w : World) (b1 b2 b3 : Option Addr) (n1 c1 n2 c2 n3 c3 : Nat) (bud : Int) (ins : List Int) (vs : List Vl) (outs : List Int) (f : GS w b1 n1 b2 n2 b3 n3 ins vs outs) (hok : okG ins vs outs = false) :
    Calls Try.prog 15 #[gagg b1 n1 c1 b2 n2 c2 b3 n3 c3, .int .i64 bud] w fun e w' => e = .returned (.tuple #[cnl, .int .i64 1]) ∧ Kept 0 0 w w' := by
  have k0 := kept_alloc 0 0 w (gbox b1 n1 c1 b2 n2 c2 b3 n3 c3)
  have hB := g0_start w (.slice b1 n1 c1) (.slice b2 n2 c2) (.slice b3 n3 c3)
  have k1 := kept_alloc 0 0 (w.alloc (gbox b1 n1 c1 b2 n2 c2 b3 n3 c3)) cbox0
  have HB : Hid _ := hB.keep k1
  have HV : Hid _ := implValid _ b1 b2 b3 n1 c1 n2 c2 n3 c3 ins vs outs ((f.keep k0).keep k1)
  rw [hok] at HV
  have HK : Hid _ := k0.trans k1
  have HR : Hid _ := kb_start (w.alloc (gbox b1 n1 c1 b2 n2 c2 b3 n3 c3))
  have hz : (w.alloc (gbox b1 n1 c1 b2 n2 c2 b3 n3 c3)).heap.size = w.heap.size + 1 := by simp
  rw [hz] at HR
  clear f hok k0 k1 hz
  obtain ⟨_, q0, q1, q2⟩ := HB.out
  go_enter Try.func15, Try.ntmps15
  go_wp2_with fail
  refine Calls.mono HV.out ?_
  rintro e w2 ⟨rfl, k2⟩
  obtain ⟨_, r0, r1, r2, r3, f0, f1, f2, f3⟩ := HR.out.keep k2
  have HK2 : Hid _ := HK.out.trans k2
  clear HV HB HR HK q0 q1 q2 hB k2
  go_wp2_with fail
  obtain ⟨y0, y1, y2, y3⟩ := put4_0 w2 (w.heap.size + 1) _ _ _ _ r0 r1 r2 r3 (.slice none 0 0) (.slice none 0 0) (.slice none 0 0) (.int .i64 0)
  have kp := put4_kept w2 (w.heap.size + 1) (.slice none 0 0) (.slice none 0 0) (.slice none 0 0) (.int .i64 0)
  refine bodyPost_ret (v := .tuple #[cnl, .int .i64 1]) (by simp [results, Try.results15, go_sem, y0, y1, y2, y3]) rfl ⟨rfl, HK2.out.new kp (by omega)⟩
end Go.Proofs.Ytdkjdlimcnddkaa
