import Derived.Test.YtcphabjekfihnaaJ22
import Derived.Test.YtcphabjekfihnaaJ21
import Derived.Test.YtcphabjekfihnaaJ01
namespace Go.Proofs.Ytcphabjekfihnaa
open Go.RowKit Flt
attribute [local go_sem] alloc_drewN setCell_drewN run_store_float

set_option maxRecDepth 100000 in
set_option maxHeartbeats 2000000 in
theorem specJvp_inv (w : World) (a1 a2 a3 : Option Addr) (n1 c1 n2 c2 n3 c3 : Nat) (s x t : Int) (ins : List Int) (vs : List Vl) (outs : List Int) (f : GS w a1 n1 a2 n2 a3 n3 ins vs outs) (h : okG ins vs outs = false) :
    Calls Try.prog 48 #[gagg a1 n1 c1 a2 n2 c2 a3 n3 c3, .int .i64 s, .int .i64 x, .int .i64 t] w fun e w' => e = .returned (.tuple #[gnil, .int .i64 0, .int .i64 1]) ∧ Kept 0 0 w w' := by
  have hK := (kept_alloc 0 0 w (gbox a1 n1 c1 a2 n2 c2 a3 n3 c3)).trans (kept_alloc 0 0 _ nbox)
  have HX : Hid _ := specValid _ a1 a2 a3 n1 c1 n2 c2 n3 c3 ins vs outs (f.keep hK)
  rw [h] at HX
  have HK : Hid _ := hK
  have hN := rb_start (w.alloc (gbox a1 n1 c1 a2 n2 c2 a3 n3 c3))
  rw [show (w.alloc (gbox a1 n1 c1 a2 n2 c2 a3 n3 c3)).heap.size = w.heap.size + 1 by simp] at hN
  have HN : Hid _ := hN
  clear hK h f hN
  go_enter Try.func48, Try.ntmps48
  go_wp2_with fail
  refine Calls.mono HX.out ?_
  rintro e w2 ⟨rfl, k2⟩
  obtain ⟨_, q0, q1, q2, f0, f1, f2⟩ := RB.keep HN.out k2
  obtain ⟨y0, y1, y2⟩ := put3_0 w2 (w.heap.size + 1) _ _ _ q0 q1 q2 (.slice none 0 0) (.slice none 0 0) (.slice none 0 0)
  have R : Hid (Kept 0 0 w _) := Kept.new (Kept.trans HK.out k2) (put3_kept w2 (w.heap.size + 1) (.slice none 0 0) (.slice none 0 0) (.slice none 0 0)) (by omega)
  clear k2 HX HN HK
  go_wp2_with fail
  refine bodyPost_ret (v := .tuple #[gnil, .int .i64 0, .int .i64 1]) (by simp [results, Try.results48, go_sem, y0, y1, y2]) rfl ⟨rfl, R.out⟩

set_option maxRecDepth 100000 in
set_option maxHeartbeats 4000000 in
theorem specJvp_idx (w : World) (a1 a2 a3 : Option Addr) (n1 c1 n2 c2 n3 c3 : Nat) (s x t : Int) (ins : List Int) (vs : List Vl) (outs : List Int) (f : GS w a1 n1 a2 n2 a3 n3 ins vs outs) (h : okG ins vs outs = true) (h2 : ¬ ((0 ≤ s ∧ s < n2) ∧ (0 ≤ x ∧ x < n2) ∧ (0 ≤ t ∧ t < n2))) :
    Calls Try.prog 48 #[gagg a1 n1 c1 a2 n2 c2 a3 n3 c3, .int .i64 s, .int .i64 x, .int .i64 t] w fun e w' => e = .returned (.tuple #[gnil, .int .i64 0, .int .i64 1]) ∧ Kept 0 0 w w' := by
  have hK := (kept_alloc 0 0 w (gbox a1 n1 c1 a2 n2 c2 a3 n3 c3)).trans (kept_alloc 0 0 _ nbox)
  have HX : Hid _ := specValid _ a1 a2 a3 n1 c1 n2 c2 n3 c3 ins vs outs (f.keep hK)
  rw [h] at HX
  have HK : Hid _ := hK
  have hN := rb_start (w.alloc (gbox a1 n1 c1 a2 n2 c2 a3 n3 c3))
  rw [show (w.alloc (gbox a1 n1 c1 a2 n2 c2 a3 n3 c3)).heap.size = w.heap.size + 1 by simp] at hN
  have HN : Hid _ := hN
  clear hK h f hN
  have six : s < 0 ∨ (0 ≤ s ∧ (n2 : Int) ≤ s) ∨ ((0 ≤ s ∧ s < n2) ∧ x < 0) ∨ ((0 ≤ s ∧ s < n2) ∧ 0 ≤ x ∧ (n2 : Int) ≤ x) ∨ ((0 ≤ s ∧ s < n2) ∧ (0 ≤ x ∧ x < n2) ∧ t < 0) ∨ ((0 ≤ s ∧ s < n2) ∧ (0 ≤ x ∧ x < n2) ∧ 0 ≤ t ∧ (n2 : Int) ≤ t) := by omega
  clear h2
  go_enter Try.func48, Try.ntmps48
  go_wp2_with fail
  refine Calls.mono HX.out ?_
  rintro e w2 ⟨rfl, k2⟩
  obtain ⟨_, q0, q1, q2, f0, f1, f2⟩ := RB.keep HN.out k2
  obtain ⟨y0, y1, y2⟩ := put3_0 w2 (w.heap.size + 1) _ _ _ q0 q1 q2 (.slice none 0 0) (.slice none 0 0) (.slice none 0 0)
  have R : Hid (Kept 0 0 w _) := Kept.new (Kept.trans HK.out k2) (put3_kept w2 (w.heap.size + 1) (.slice none 0 0) (.slice none 0 0) (.slice none 0 0)) (by omega)
  clear k2 HX HN HK
  rcases six with h1 | ⟨h1, h2⟩ | ⟨⟨h1, h2⟩, h3⟩ | ⟨⟨h1, h2⟩, h3, h4⟩ | ⟨⟨h1, h2⟩, ⟨h3, h4⟩, h5⟩ | ⟨⟨h1, h2⟩, ⟨h3, h4⟩, h5, h6⟩
  all_goals
    go_wp2_with fail
    refine bodyPost_ret (v := .tuple #[gnil, .int .i64 0, .int .i64 1]) (by simp [results, Try.results48, go_sem, y0, y1, y2]) rfl ⟨rfl, R.out⟩

set_option maxRecDepth 100000 in
set_option maxHeartbeats 4000000 in
theorem specJvp_shape (w : World) (a1 a2 a3 : Option Addr) (n1 c1 n2 c2 n3 c3 : Nat) (s x t : Nat) (ins : List Int) (vs : List Vl) (outs : List Int) (f : GS w a1 n1 a2 n2 a3 n3 ins vs outs) (h : okG ins vs outs = true) (hs : s < n2) (hx : x < n2) (ht : t < n2) (h3 : (vs.getD t Vl.zero).len ≠ (vs.getD x Vl.zero).len) :
    Calls Try.prog 48 #[gagg a1 n1 c1 a2 n2 c2 a3 n3 c3, .int .i64 (s : Int), .int .i64 (x : Int), .int .i64 (t : Int)] w fun e w' => e = .returned (.tuple #[gnil, .int .i64 0, .int .i64 4]) ∧ Kept 0 0 w w' := by
  have hK := (kept_alloc 0 0 w (gbox a1 n1 c1 a2 n2 c2 a3 n3 c3)).trans (kept_alloc 0 0 _ nbox)
  have HX : Hid _ := specValid _ a1 a2 a3 n1 c1 n2 c2 n3 c3 ins vs outs (f.keep hK)
  rw [h] at HX
  have HK : Hid _ := hK
  have hN := rb_start (w.alloc (gbox a1 n1 c1 a2 n2 c2 a3 n3 c3))
  rw [show (w.alloc (gbox a1 n1 c1 a2 n2 c2 a3 n3 c3)).heap.size = w.heap.size + 1 by simp] at hN
  have HN : Hid _ := hN
  have HB : Hid _ := (g0_start w (.slice a1 n1 c1) (.slice a2 n2 c2) (.slice a3 n3 c3)).keep (kept_alloc 0 0 _ nbox)
  have HF : Hid _ := f.keep hK
  have t3 : ((vs.getD t Vl.zero).len != (vs.getD x Vl.zero).len) = true := by simpa using h3
  have i0 : (0 : Int) ≤ (s : Int) := by omega
  have i1 : (s : Int) < (n2 : Int) := by omega
  have i2 : (0 : Int) ≤ (x : Int) := by omega
  have i3 : (x : Int) < (n2 : Int) := by omega
  have i4 : (0 : Int) ≤ (t : Int) := by omega
  have i5 : (t : Int) < (n2 : Int) := by omega
  clear hK h f hN h3
  go_enter Try.func48, Try.ntmps48
  go_wp2_with fail
  refine Calls.mono HX.out ?_
  rintro e w2 ⟨rfl, k2⟩
  have HK2 : Hid _ := k2
  obtain ⟨_, p0, p1, p2⟩ := G0.keep HB.out k2
  rcases (GS.keep HF.out k2).v.at_ with z0 | ⟨ga, oa, ea, z1, z2, z3, z4⟩
  · omega
  have ct := (z4 t ht).c1
  have cx := (z4 x hx).c1
  generalize (vs.getD t Vl.zero).len = lt at ct t3
  generalize (vs.getD x Vl.zero).len = lx at cx t3
  subst ea
  clear z1 z2 z3 z4 k2 HX HB HF
  go_wp2_with fail
  go_quiet (fail)
  have kq := kept_drewN 0 0 w2 nq
  have HN5 : Hid _ := RB.keep HN.out (Kept.trans HK2.out kq)
  have HK5 : Hid _ := Kept.trans HK.out (Kept.trans HK2.out kq)
  clear kq HN HK HK2 p0 p1 p2 ct cx
  generalize w2.drewN nq = w5 at HN5 HK5 ⊢
  obtain ⟨_, q0, q1, q2, f0, f1, f2⟩ := HN5.out
  obtain ⟨y0, y1, y2⟩ := put3_0 w5 (w.heap.size + 1) _ _ _ q0 q1 q2 (.slice none 0 0) (.slice none 0 0) (.slice none 0 0)
  have R : Hid (Kept 0 0 w _) := Kept.new HK5.out (put3_kept w5 (w.heap.size + 1) (.slice none 0 0) (.slice none 0 0) (.slice none 0 0)) (by omega)
  go_wp2_with fail
  refine bodyPost_ret (v := .tuple #[gnil, .int .i64 0, .int .i64 4]) (by simp [results, Try.results48, go_sem, y0, y1, y2]) rfl ⟨rfl, R.out⟩
end Go.Proofs.Ytcphabjekfihnaa

namespace Go.Proofs.Ytcphabjekfihnaa
open Go.RowKit Flt
attribute [local go_sem] alloc_drewN setCell_drewN run_store_float

/-- Every K of the answer fits. -/
theorem ch_k (n d p q : Int) (N : Nat) : ∀ u ∈ (chM n d p q N).1, u.k = 0 := by
  intro u hu
  unfold chM at hu
  split at hu <;> split at hu <;> simp at hu
  · rcases hu with rfl | rfl <;> rfl
  · rcases hu with rfl | rfl <;> rfl
  · rcases hu with rfl | rfl <;> rfl
  · subst hu; rfl
def AllK (M : List Vl × Int) : Prop := ∀ u ∈ M.1, u.k = 0
theorem ak_ite {p : Prop} [Decidable p] {a b : List Vl × Int} (ha : AllK a) (hb : AllK b) : AllK (if p then a else b) := by
  by_cases h : p
  · rw [if_pos h]; exact ha
  · rw [if_neg h]; exact hb
theorem mvM_k (i : Int) (v : Vl) (ta tb tc : Int) (N : Nat) : AllK (mvM i v ta tb tc N) := by
  have z : ∀ {r : Int}, AllK ([], r) := by intro r u hu; simp at hu
  have o1 : ∀ {o l p q r : Int} {m : Int}, AllK ([vput o l p q r], m) := by intro o l p q r m u hu; simp at hu; subst hu; rfl
  have o3 : ∀ {o l p q r o' l' p' q' r' o'' l'' p'' q'' r'' : Int} {m : Int}, AllK ([vput o l p q r, vput o' l' p' q' r', vput o'' l'' p'' q'' r''], m) := by
    intro o l p q r o' l' p' q' r' o'' l'' p'' q'' r'' m u hu
    simp at hu
    rcases hu with rfl | rfl | rfl <;> rfl
  have o4 : ∀ {o l p q r o' l' p' q' r' o'' l'' p'' q'' r'' a l3 b c d : Int} {m : Int}, AllK ([vput o l p q r, vput o' l' p' q' r', vput o'' l'' p'' q'' r'', vput a l3 b c d], m) := by
    intro o l p q r o' l' p' q' r' o'' l'' p'' q'' r'' a l3 b c d m u hu
    simp at hu
    rcases hu with rfl | rfl | rfl | rfl <;> rfl
  have oc : AllK ([vput 3 v.len v.a v.b 0] ++ (chM v.len N ta tb (N + 1)).1, (chM v.len N ta tb (N + 1)).2) := by
    intro u hu
    simp only [List.mem_append] at hu
    rcases hu with h | h
    · simp at h; subst h; rfl
    · exact ch_k v.len N ta tb (N + 1) u h
  unfold mvM sumM difM mulM divM
  exact ak_ite z (ak_ite (ak_ite z (ak_ite z o1)) (ak_ite (ak_ite z (ak_ite o1 o1)) (ak_ite (ak_ite (ak_ite z o1) (ak_ite o1 o3)) (ak_ite (ak_ite (ak_ite z o3) (ak_ite o1 o4)) (ak_ite oc (ak_ite (ak_ite z (ch_k _ _ _ _ _)) (ak_ite o1 o1)))))))
theorem jst_k (vs : List Vl) (x t : Nat) (hk : ∀ v ∈ vs, v.k < 18446744073709551616) : ∀ k, ∀ u ∈ (jst vs x t k).1, u.k < 18446744073709551616
  | 0, u, hu => hk u hu
  | k + 1, u, hu => by
    unfold jst at hu
    simp only [List.mem_append] at hu
    rcases hu with h | h
    · exact jst_k vs x t hk k u h
    · unfold jmv at h
      rw [mvM_k _ _ _ _ _ _ u h]
      decide
theorem jfin_k (vs : List Vl) (s x t : Nat) (hk : ∀ v ∈ vs, v.k < 18446744073709551616) : ∀ u ∈ (jfin vs s x t).1, u.k < 18446744073709551616 := by
  intro u hu
  unfold jfin at hu
  split at hu
  · simp only [List.mem_append] at hu
    rcases hu with h | h
    · exact jst_k vs x t hk (s - x) u h
    · simp at h; subst h; exact (by decide : (0 : Nat) < 18446744073709551616)
  · exact jst_k vs x t hk (s - x) u hu

/-- What spec.Jvp answers with code 0. -/
def SOut (w' : World) (n1 n3 : Nat) (ins outs : List Int) (M : List Vl × Int) (e : Ending) : Prop :=
  ∃ b1 d1 b3 d3 a2 cap, e = .returned (.tuple #[gagg b1 n1 d1 a2 M.1.length cap b3 n3 d3, .int .i64 M.2, .int .i64 0]) ∧ GS w' b1 n1 a2 M.1.length b3 n3 ins M.1 outs

set_option maxRecDepth 100000 in
set_option maxHeartbeats 4000000 in
theorem specJvp_run (w : World) (_lo g1 g2 g3 n1 c1 n2 c2 n3 c3 : Nat) (s x t : Nat) (ins : List Int) (vs : List Vl) (outs : List Int) (f : GN w g1 g2 g3 n2 ins vs outs) (e1 : ins.length = n1) (e3 : outs.length = n3) (hlt : ∀ v ∈ vs, v.k < 18446744073709551616) (h : okG ins vs outs = true) (hs : s < n2) (hx : x < n2) (ht : t < n2) (h3 : (vs.getD t Vl.zero).len = (vs.getD x Vl.zero).len) :
    Calls Try.prog 48 #[gagg (some ⟨g1, 0, none⟩) n1 c1 (some ⟨g2, 0, none⟩) n2 c2 (some ⟨g3, 0, none⟩) n3 c3, .int .i64 (s : Int), .int .i64 (x : Int), .int .i64 (t : Int)] w fun e w' => (limB (jfin vs s x t).1 = true → e = .returned (.tuple #[gnil, .int .i64 0, .int .i64 5])) ∧ (limB (jfin vs s x t).1 = false → SOut w' n1 n3 ins outs (jfin vs s x t) e) ∧ Kept 0 0 w w' := by
  have hgs := f.gs hlt
  rw [e1, e3] at hgs
  have e2 : vs.length = n2 := f.v.len
  have hok := h
  unfold okG at hok
  simp only [Bool.and_eq_true, decide_eq_true_eq, e1, e2, e3] at hok
  obtain ⟨⟨l1, l2, l3⟩, _, hv, _, hc5⟩ := hok
  have hK := (kept_alloc 0 0 w (gbox (some ⟨g1, 0, none⟩) n1 c1 (some ⟨g2, 0, none⟩) n2 c2 (some ⟨g3, 0, none⟩) n3 c3)).trans (kept_alloc 0 0 _ nbox)
  have HX : Hid _ := specValid _ (some ⟨g1, 0, none⟩) (some ⟨g2, 0, none⟩) (some ⟨g3, 0, none⟩) n1 c1 n2 c2 n3 c3 ins vs outs (hgs.keep hK)
  rw [h] at HX
  have HK : Hid _ := hK
  have hN := rb_start (w.alloc (gbox (some ⟨g1, 0, none⟩) n1 c1 (some ⟨g2, 0, none⟩) n2 c2 (some ⟨g3, 0, none⟩) n3 c3))
  rw [show (w.alloc (gbox (some ⟨g1, 0, none⟩) n1 c1 (some ⟨g2, 0, none⟩) n2 c2 (some ⟨g3, 0, none⟩) n3 c3)).heap.size = w.heap.size + 1 by simp] at hN
  have HN : Hid _ := hN
  have HB : Hid _ := (g0_start w (.slice (some ⟨g1, 0, none⟩) n1 c1) (.slice (some ⟨g2, 0, none⟩) n2 c2) (.slice (some ⟨g3, 0, none⟩) n3 c3)).keep (kept_alloc 0 0 _ nbox)
  have HF : Hid _ := GN.keepJ f hK
  have HL3 : Hid _ := h3
  have HE : Hid (ins.length = n1 ∧ outs.length = n3 ∧ vs.length = n2) := ⟨e1, e3, e2⟩
  have hlen : ∀ j, j < vs.length → 1 ≤ (vs.getD j Vl.zero).len ∧ (vs.getD j Vl.zero).len ≤ 1000 := fun j hj => okV_len (List.all_eq_true.1 hv j (List.mem_range.2 (by omega)))
  have HJL : Hid _ := jfin_lens vs s x t hlen (by omega) (by omega)
  have HJK : Hid _ := jfin_k vs s x t hlt
  have HLJ : Hid (∀ W, GN W g1 g2 g3 n2 ins vs outs → _) := fun W (fw : GN W g1 g2 g3 n2 ins vs outs) => l2jvp W _lo g1 g2 g3 n1 c1 n2 c2 n3 c3 s x t ins vs outs fw e1 e3 (by omega) l2 (by omega) hv hc5 hs hx
  have i0 : (0 : Int) ≤ (s : Int) := by omega
  have i1 : (s : Int) < (n2 : Int) := by omega
  have i2 : (0 : Int) ≤ (x : Int) := by omega
  have i3 : (x : Int) < (n2 : Int) := by omega
  have i4 : (0 : Int) ≤ (t : Int) := by omega
  have i5 : (t : Int) < (n2 : Int) := by omega
  clear hK h f hN h3 hv hc5 hgs hlt e2 e1 e3 hlen
  go_enter Try.func48, Try.ntmps48
  go_wp2_with fail
  generalize (w.alloc (gbox (some ⟨g1, 0, none⟩) n1 c1 (some ⟨g2, 0, none⟩) n2 c2 (some ⟨g3, 0, none⟩) n3 c3)).alloc nbox = wB at HX HK HN HB HF ⊢
  refine Calls.mono HX.out ?_
  rintro e w2 ⟨rfl, k2⟩
  have HK2 : Hid _ := k2
  obtain ⟨_, p0, p1, p2⟩ := G0.keep HB.out k2
  have hVA := (GN.keepJ HF.out k2).v
  have ct := (hVA.at_ t ht).c1
  have cx := (hVA.at_ x hx).c1
  rw [HL3.out] at ct
  generalize (vs.getD x Vl.zero).len = lx at cx ct
  have j4 : (lx != lx) = false := by simp
  clear hVA k2 HX
  go_wp2_with fail
  go_quiet (fail)
  have HK5 : Hid _ := Kept.trans HK2.out (kept_drewN 0 0 w2 nq)
  clear HK2 p0 p1 p2 ct cx j4
  generalize w2.drewN nq = w5 at HK5 ⊢
  obtain ⟨_, p0, p1, p2⟩ := G0.keep HB.out HK5.out
  go_wp2_with fail
  clear p0 p1 p2
  refine Calls.mono (HLJ.out w5 (GN.keepJ HF.out HK5.out)) ?_
  rintro e w6 ⟨⟨b1, d1, b3, d3, a2, cap, rfl, o1, o2, o3⟩, k6⟩
  have ka := kept_alloc 0 0 w6 (.cells #[.slice b1 n1 d1, .slice a2 (jfin vs s x t).1.length cap, .slice b3 n3 d3] 54)
  have HG : Hid (GL w6 w5.heap.size b1 n1 a2 (jfin vs s x t).1.length b3 n3 ins (jfin vs s x t).1 outs) := GL.of o1 o2 o3 HE.out.1 HE.out.2.1 HJK.out
  have HKZ : Hid (w.heap.size + 1 < w5.heap.size) := by have h1 := HN.out.sz; have h2 := HK5.out.size; exact Nat.lt_of_lt_of_le h1 h2
  have HK6 : Hid _ := Kept.trans HK5.out k6
  have HK65 : Hid (w5.heap.size ≤ w6.heap.size) := k6.size
  clear o1 o2 o3 k6 HLJ HK5 HB HF
  generalize hM : jfin vs s x t = M at HG HJL
  have HM : Hid (jfin vs s x t = M) := hM
  clear hM HJK
  obtain ⟨Ml, Mi⟩ := M
  simp only at HG HJL
  have HFT : Hid _ := l2fits _ b1 a2 b3 n1 d1 Ml.length cap n3 d3 ins Ml outs (HG.out.keep (kept_alloc 0 0 w6 (.cells #[.slice b1 n1 d1, .slice a2 Ml.length cap, .slice b3 n3 d3] 54)) (.inr (Nat.le_refl _))).gs HJL.out
  have HBX : Hid _ := g0_start w6 (.slice b1 n1 d1) (.slice a2 Ml.length cap) (.slice b3 n3 d3)
  have HK7 : Hid _ := Kept.trans HK6.out (kept_alloc 0 0 w6 (.cells #[.slice b1 n1 d1, .slice a2 Ml.length cap, .slice b3 n3 d3] 54))
  have HG7 : Hid _ := HG.out.keep (kept_alloc 0 0 w6 (.cells #[.slice b1 n1 d1, .slice a2 Ml.length cap, .slice b3 n3 d3] 54)) (.inr (Nat.le_refl _))
  clear HG HK6 ka
  simp only
  go_wp2_with fail
  generalize w6.alloc (.cells #[.slice b1 n1 d1, .slice a2 Ml.length cap, .slice b3 n3 d3] 54) = w7 at HFT HBX HK7 HG7 ⊢
  refine Calls.mono HFT.out ?_
  rintro e w8 ⟨rfl, k8⟩
  obtain ⟨_, r0, r1, r2⟩ := G0.keep HBX.out k8
  have HK8 : Hid _ := Kept.trans HK7.out k8
  have HG8 : Hid _ := HG7.out.keep k8 (.inr (Nat.le_refl _))
  have hXQ : w6.heap.size ≠ w.heap.size + 1 := by have := HKZ.out; have := HK65.out; omega
  obtain ⟨_, q0, q1, q2, f0, f1, f2⟩ := RB.keep HN.out HK8.out
  clear k8 HFT HBX HK7 HG7
  cases hlim : limB Ml
  · obtain ⟨y0, y1, y2⟩ := put3_0 w8 (w.heap.size + 1) _ _ _ q0 q1 q2 (.slice b1 n1 d1) (.slice a2 Ml.length cap) (.slice b3 n3 d3)
    have kp := put3_kept w8 (w.heap.size + 1) (.slice b1 n1 d1) (.slice a2 Ml.length cap) (.slice b3 n3 d3)
    have R0 : Hid (Kept 0 0 w _) := Kept.new (Kept.trans HK.out HK8.out) kp (by omega)
    have R1 : Hid (GS (((w8.setCell ⟨w.heap.size + 1, 0, none⟩ (.slice b1 n1 d1)).setCell ⟨w.heap.size + 1, 1, none⟩ (.slice a2 Ml.length cap)).setCell ⟨w.heap.size + 1, 2, none⟩ (.slice b3 n3 d3)) b1 n1 a2 Ml.length b3 n3 ins Ml outs) := (HG8.out.keep kp (.inl (by have := HKZ.out; omega))).gs
    clear kp
    go_wp2_with fail
    refine bodyPost_ret (v := .tuple #[gagg b1 n1 d1 a2 Ml.length cap b3 n3 d3, .int .i64 Mi, .int .i64 0]) (by simp [results, Try.results48, go_sem, y0, y1, y2]) rfl ⟨fun hf => ?_, fun _ => ?_, R0.out⟩
    · rw [HM.out, hlim] at hf
      cases hf
    · rw [HM.out]
      exact ⟨b1, d1, b3, d3, a2, cap, rfl, R1.out⟩
  · obtain ⟨y0, y1, y2⟩ := put3_0 w8 (w.heap.size + 1) _ _ _ q0 q1 q2 (.slice none 0 0) (.slice none 0 0) (.slice none 0 0)
    have R0 : Hid (Kept 0 0 w _) := Kept.new (Kept.trans HK.out HK8.out) (put3_kept w8 (w.heap.size + 1) (.slice none 0 0) (.slice none 0 0) (.slice none 0 0)) (by omega)
    go_wp2_with fail
    refine bodyPost_ret (v := .tuple #[gnil, .int .i64 0, .int .i64 5]) (by simp [results, Try.results48, go_sem, y0, y1, y2]) rfl ⟨fun _ => rfl, fun hf => ?_, R0.out⟩
    rw [HM.out, hlim] at hf
    cases hf
end Go.Proofs.Ytcphabjekfihnaa

namespace Go.Proofs.Ytcphabjekfihnaa
open Go.RowKit Flt

/-- What Jvp answers, as data: the three lists, the index, the code. -/
structure JR where
  ins : List Int
  vs : List Vl
  outs : List Int
  at' : Int
  code : Int
def JR.bad (c : Int) : JR := ⟨[], [], [], 0, c⟩
def jres (ins : List Int) (vs : List Vl) (outs : List Int) (s x t : Int) : JR :=
  if okG ins vs outs = false then .bad 1
  else if ¬ ((0 ≤ s ∧ s < vs.length) ∧ (0 ≤ x ∧ x < vs.length) ∧ (0 ≤ t ∧ t < vs.length)) then .bad 1
  else if (vs.getD t.toNat Vl.zero).len ≠ (vs.getD x.toNat Vl.zero).len then .bad 4
  else if limB (jfin vs s.toNat x.toNat t.toNat).1 = true then .bad 5
  else ⟨ins, (jfin vs s.toNat x.toNat t.toNat).1, outs, (jfin vs s.toNat x.toNat t.toNat).2, 0⟩
/-- The answer of the model: a graph that is read. -/
def JS1 (w : World) (J : JR) (e : Ending) (w' : World) : Prop :=
  (∃ a1 c1 a2 c2 a3 c3, e = .returned (.tuple #[gagg a1 J.ins.length c1 a2 J.vs.length c2 a3 J.outs.length c3, .int .i64 J.at', .int .i64 J.code]) ∧ GS w' a1 J.ins.length a2 J.vs.length a3 J.outs.length J.ins J.vs J.outs) ∧ Kept 0 0 w w'
/-- The answer of the program: besides, its lists lie in blocks of their own that came behind w. -/
def JS2 (w : World) (J : JR) (e : Ending) (w' : World) : Prop :=
  (∃ a1 c1 a2 c2 a3 c3, e = .returned (.tuple #[gagg a1 J.ins.length c1 a2 J.vs.length c2 a3 J.outs.length c3, .int .i64 J.at', .int .i64 J.code]) ∧ (∀ v ∈ J.vs, v.k < 18446744073709551616) ∧
    ∀ H, w'.heap.size ≤ H → ∃ g1 g2 g3, OG w' g1 g2 g3 a1 J.ins.length a2 J.vs.length a3 J.outs.length J.ins J.vs J.outs ∧ (w.heap.size ≤ g1 ∧ w.heap.size ≤ g2 ∧ w.heap.size ≤ g3) ∧ ((g1 < w'.heap.size ∨ H < g1) ∧ (g2 < w'.heap.size ∨ H < g2) ∧ (g3 < w'.heap.size ∨ H < g3))) ∧ Kept 0 0 w w'
theorem js1_bad {w w' : World} (c : Int) (k : Kept 0 0 w w') : JS1 w (.bad c) (.returned (.tuple #[gnil, .int .i64 0, .int .i64 c])) w' := ⟨⟨none, 0, none, 0, none, 0, rfl, gs_nil w'⟩, k⟩
theorem js2_bad {w w' : World} (c : Int) (k : Kept 0 0 w w') : JS2 w (.bad c) (.returned (.tuple #[gnil, .int .i64 0, .int .i64 c])) w' :=
  ⟨⟨none, 0, none, 0, none, 0, rfl, by simp [JR.bad], fun H hH => ⟨H + 1, H + 2, H + 3, ⟨.inl rfl, .inl rfl, .inl rfl, by omega, by omega, by omega⟩, by have := k.size; omega, by omega⟩⟩, k⟩

theorem jres_len {ins : List Int} {vs : List Vl} {outs : List Int} {s x t : Int} (h1 : ins.length ≤ 1048576) (h3 : outs.length ≤ 1048576) : (jres ins vs outs s x t).ins.length ≤ 1048576 ∧ (jres ins vs outs s x t).vs.length ≤ 1048576 ∧ (jres ins vs outs s x t).outs.length ≤ 1048576 := by
  unfold jres
  repeat' split
  all_goals try exact ⟨Nat.zero_le _, Nat.zero_le _, Nat.zero_le _⟩
  rename_i hb
  have := of_decide_eq_false (by simpa using hb : limB (jfin vs s.toNat x.toNat t.toNat).1 = false)
  exact ⟨h1, by simp only; omega, h3⟩
theorem specJ (w : World) (_lo g1 g2 g3 n1 c1 n2 c2 n3 c3 : Nat) (s x t : Int) (ins : List Int) (vs : List Vl) (outs : List Int) (f : GN w g1 g2 g3 n2 ins vs outs) (e1 : ins.length = n1) (e3 : outs.length = n3) (hlt : ∀ v ∈ vs, v.k < 18446744073709551616) :
    Calls Try.prog 48 #[gagg (some ⟨g1, 0, none⟩) n1 c1 (some ⟨g2, 0, none⟩) n2 c2 (some ⟨g3, 0, none⟩) n3 c3, .int .i64 s, .int .i64 x, .int .i64 t] w fun e w' => JS1 w (jres ins vs outs s x t) e w' := by
  have hgs := f.gs hlt
  rw [e1, e3] at hgs
  have e2 : vs.length = n2 := f.v.len
  unfold jres
  cases h : okG ins vs outs
  · rw [if_pos rfl]
    exact (specJvp_inv w _ _ _ n1 c1 n2 c2 n3 c3 s x t ins vs outs hgs h).mono fun _ _ q => by rw [q.1]; exact js1_bad 1 q.2
  rw [if_neg (by simp), e2]
  by_cases hi : (0 ≤ s ∧ s < n2) ∧ (0 ≤ x ∧ x < n2) ∧ (0 ≤ t ∧ t < n2)
  · rw [if_neg (fun c => c hi)]
    obtain ⟨s', rfl⟩ := Int.eq_ofNat_of_zero_le hi.1.1
    obtain ⟨x', rfl⟩ := Int.eq_ofNat_of_zero_le hi.2.1.1
    obtain ⟨t', rfl⟩ := Int.eq_ofNat_of_zero_le hi.2.2.1
    simp only [Int.toNat_natCast]
    by_cases hl : (vs.getD t' Vl.zero).len = (vs.getD x' Vl.zero).len
    · rw [if_neg (fun c => c hl)]
      refine (specJvp_run w _lo g1 g2 g3 n1 c1 n2 c2 n3 c3 s' x' t' ins vs outs f e1 e3 hlt h (by omega) (by omega) (by omega) hl).mono fun e w' q => ?_
      cases hb : limB (jfin vs s' x' t').1
      · rw [if_neg (by simp)]
        obtain ⟨b1, d1, b3, d3, a2, cap, rfl, hg⟩ := q.2.1 hb
        subst e1 e3
        exact ⟨⟨b1, d1, a2, cap, b3, d3, rfl, hg⟩, q.2.2⟩
      · rw [if_pos rfl, q.1 hb]
        exact js1_bad 5 q.2.2
    · rw [if_pos hl]
      exact (specJvp_shape w _ _ _ n1 c1 n2 c2 n3 c3 s' x' t' ins vs outs hgs h (by omega) (by omega) (by omega) hl).mono fun _ _ q => by rw [q.1]; exact js1_bad 4 q.2
  · rw [if_pos hi]
    exact (specJvp_idx w _ _ _ n1 c1 n2 c2 n3 c3 s x t ins vs outs hgs h hi).mono fun _ _ q => by rw [q.1]; exact js1_bad 1 q.2

theorem implJ (w : World) (_lo g1 g2 g3 n1 c1 n2 c2 n3 c3 : Nat) (s x t : Int) (ins : List Int) (vs : List Vl) (outs : List Int) (f : GN w g1 g2 g3 n2 ins vs outs) (e1 : ins.length = n1) (e3 : outs.length = n3) (hlt : ∀ v ∈ vs, v.k < 18446744073709551616) :
    Calls Try.prog 49 #[gagg (some ⟨g1, 0, none⟩) n1 c1 (some ⟨g2, 0, none⟩) n2 c2 (some ⟨g3, 0, none⟩) n3 c3, .int .i64 s, .int .i64 x, .int .i64 t] w fun e w' => JS2 w (jres ins vs outs s x t) e w' := by
  have hgs := f.gs hlt
  rw [e1, e3] at hgs
  have e2 : vs.length = n2 := f.v.len
  unfold jres
  cases h : okG ins vs outs
  · rw [if_pos rfl]
    exact (implJvp_inv w _ _ _ n1 c1 n2 c2 n3 c3 s x t ins vs outs hgs h).mono fun _ _ q => by rw [q.1]; exact js2_bad 1 q.2
  rw [if_neg (by simp), e2]
  by_cases hi : (0 ≤ s ∧ s < n2) ∧ (0 ≤ x ∧ x < n2) ∧ (0 ≤ t ∧ t < n2)
  · rw [if_neg (fun c => c hi)]
    obtain ⟨s', rfl⟩ := Int.eq_ofNat_of_zero_le hi.1.1
    obtain ⟨x', rfl⟩ := Int.eq_ofNat_of_zero_le hi.2.1.1
    obtain ⟨t', rfl⟩ := Int.eq_ofNat_of_zero_le hi.2.2.1
    simp only [Int.toNat_natCast]
    by_cases hl : (vs.getD t' Vl.zero).len = (vs.getD x' Vl.zero).len
    · rw [if_neg (fun c => c hl)]
      refine (implJvp_run w _lo g1 g2 g3 n1 c1 n2 c2 n3 c3 s' x' t' ins vs outs f e1 e3 hlt h (by omega) (by omega) (by omega) hl).mono fun e w' q => ?_
      cases hb : limB (jfin vs s' x' t').1
      · rw [if_neg (by simp)]
        obtain ⟨G1, d1, G3, d3, gv, cap, rfl, o1, o3, o2, n13, nv1, nv3⟩ := q.2.1 hb
        subst e1 e3
        refine ⟨⟨_, d1, _, cap, _, d3, rfl, jfin_k vs s' x' t' hlt, fun H hH => ?_⟩, q.2.2⟩
        have key : ∀ {G d : Nat} {xs : List Int}, OI w' w.heap.size G xs.length d xs → IZ w' G (some ⟨G, 0, none⟩) xs.length xs ∧ w.heap.size ≤ G ∧ G < w'.heap.size := fun {G d xs} ho => by
          have hb := own_blkV ho (k := G) rfl
          refine ⟨?_, hb.1, hb.2⟩
          rcases own_io ho rfl with h0 | ⟨g, e, _, hio⟩
          · exact .inl h0
          · cases e; exact .inr ⟨rfl, hio⟩
        obtain ⟨i1, i2, i3⟩ := key o1
        obtain ⟨p1, p2, p3⟩ := key o3
        have hv := own_blkV o2 (k := gv) rfl
        have v1 : VZ w' gv (some ⟨gv, 0, none⟩) (jfin vs s' x' t').1.length (jfin vs s' x' t').1 := by
          rcases Nat.eq_zero_or_pos (jfin vs s' x' t').1.length with h0 | h0
          · exact .inl h0
          · obtain ⟨g, c, e, _, _, _, hA⟩ := row_at o2 h0 rfl
            cases e
            exact .inr ⟨rfl, hA⟩
        exact ⟨G1, gv, G3, ⟨i1, v1, p1, fun c => nv1 c.symm, n13, nv3⟩, ⟨i2, hv.1, p2⟩, ⟨by omega, by omega, by omega⟩⟩
      · rw [if_pos rfl, q.1 hb]
        exact js2_bad 5 q.2.2
    · rw [if_pos hl]
      exact (implJvp_shape w _ _ _ n1 c1 n2 c2 n3 c3 s' x' t' ins vs outs hgs h (by omega) (by omega) (by omega) hl).mono fun _ _ q => by rw [q.1]; exact js2_bad 4 q.2
  · rw [if_pos hi]
    refine (implJvp_idx w _ _ _ n1 c1 n2 c2 n3 c3 s x t ins vs outs hgs h ?_).mono fun _ _ q => by rw [q.1]; exact js2_bad 1 q.2
    cases hq : ([s, x, t].all (idxB · n2))
    · rfl
    · exfalso
      apply hi
      simp [idxB] at hq
      omega
end Go.Proofs.Ytcphabjekfihnaa
