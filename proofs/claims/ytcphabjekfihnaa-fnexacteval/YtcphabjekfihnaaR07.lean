import Derived.Test.YtcphabjekfihnaaR06
namespace Go.Proofs.Ytcphabjekfihnaa
open Go.RowKit Flt
attribute [local go_sem] alloc_drewN setCell_drewN run_store_float

set_option maxRecDepth 100000 in
set_option maxHeartbeats 2000000 in
theorem specEval_bad (w : World) (a1 a2 a3 b : Option Addr) (n1 c1 n2 c2 n3 c3 m cb : Nat) (ins : List Int) (vs : List Vl) (outs : List Int) (f : GS w a1 n1 a2 n2 a3 n3 ins vs outs) (h : okG ins vs outs = false) :
    Calls Try.prog 41 #[gagg a1 n1 c1 a2 n2 c2 a3 n3 c3, .slice b m cb] w fun e w' => e = .returned (.tuple #[.slice none 0 0, .int .i64 1]) ∧ Kept 0 0 w w' := by
  have hK := kept_alloc 0 0 w (gbox a1 n1 c1 a2 n2 c2 a3 n3 c3)
  have HX : Hid _ := specValid _ a1 a2 a3 n1 c1 n2 c2 n3 c3 ins vs outs (f.keep hK)
  rw [h] at HX
  have HK : Hid _ := hK
  clear hK h f
  go_enter Try.func41, Try.ntmps41
  go_wp2_with fail
  refine Calls.mono HX.out ?_
  rintro e w2 ⟨rfl, k2⟩
  go_wp2
  go_ret2
  exact ⟨rfl, Kept.trans HK.out k2⟩

set_option maxRecDepth 100000 in
set_option maxHeartbeats 2000000 in
theorem specEval_shape (w : World) (a1 a2 a3 b : Option Addr) (n1 c1 n2 c2 n3 c3 m cb : Nat) (ins : List Int) (vs : List Vl) (outs : List Int) (xss : List (List Nat)) (f : GS w a1 n1 a2 n2 a3 n3 ins vs outs) (s : SS w b m xss) (h : okG ins vs outs = true) (h2 : inB ins xss = false) (hn : n1 ≤ 1048576) :
    Calls Try.prog 41 #[gagg a1 n1 c1 a2 n2 c2 a3 n3 c3, .slice b m cb] w fun e w' => e = .returned (.tuple #[.slice none 0 0, .int .i64 4]) ∧ Kept 0 0 w w' := by
  have hK := kept_alloc 0 0 w (gbox a1 n1 c1 a2 n2 c2 a3 n3 c3)
  have HX : Hid _ := specValid _ a1 a2 a3 n1 c1 n2 c2 n3 c3 ins vs outs (f.keep hK)
  rw [h] at HX
  have HB : Hid _ := g0_start w (.slice a1 n1 c1) (.slice a2 n2 c2) (.slice a3 n3 c3)
  have HF : Hid _ := f.keep hK
  have HS : Hid _ := s.keep hK
  have HK : Hid _ := hK
  clear hK h f s
  go_enter Try.func41, Try.ntmps41
  go_wp2_with fail
  refine Calls.mono HX.out ?_
  rintro e w2 ⟨rfl, k2⟩
  obtain ⟨_, q0, q1, q2⟩ := G0.keep HB.out k2
  have HY : Hid _ := shapes w2 _ _ a1 b n1 m c1 cb ins xss (GS.keep HF.out k2).i (SS.keep HS.out k2) (by omega)
  rw [h2] at HY
  have HK2 : Hid _ := Kept.trans HK.out k2
  clear k2 HX HK HF HS HB
  go_wp2_with fail
  refine Calls.mono HY.out ?_
  rintro e w3 ⟨rfl, k3⟩
  go_wp2
  go_ret2
  exact ⟨rfl, Kept.trans HK2.out (k3.kept 0 0)⟩

set_option maxRecDepth 100000 in
set_option maxHeartbeats 2000000 in
theorem specEval_ok (w : World) (a1 a2 a3 b : Option Addr) (n1 c1 n2 c2 n3 c3 m cb : Nat) (ins : List Int) (vs : List Vl) (outs : List Int) (xss : List (List Nat)) (f : GS w a1 n1 a2 n2 a3 n3 ins vs outs) (s : SS w b m xss) (hw : Words xss) (h : okG ins vs outs = true) (h2 : inB ins xss = true) :
    Calls Try.prog 41 #[gagg a1 n1 c1 a2 n2 c2 a3 n3 c3, .slice b m cb] w fun e w' => ∃ a cap zss, e = .returned (.tuple #[.slice a n3 cap, .int .i64 0]) ∧ SS w' a n3 zss ∧ (∀ j, j < n3 → same (zss.getD j []) ((valsTo xss vs n2).getD (outs.getD j 0).toNat [])) ∧ Kept 0 0 w w' := by
  obtain ⟨i0, hi, hz0, hz1, hz2⟩ := info_parts infoS
  have hok := h
  have e1 := f.i.len
  have e2 := f.v.len
  have e3 := f.o.len
  unfold okG at hok
  simp only [Bool.and_eq_true, decide_eq_true_eq, e1, e2, e3] at hok
  obtain ⟨⟨l1, l2, l3⟩, _, hv, ho, _⟩ := hok
  have HV : Hid _ := hv
  have HO : Hid _ := ho
  have HWX : Hid _ := hw
  have HLEN : Hid _ := vals_len (vs := vs) h2 n2 hv
  have hK := kept_alloc 0 0 w (gbox a1 n1 c1 a2 n2 c2 a3 n3 c3)
  have HX : Hid _ := specValid _ a1 a2 a3 n1 c1 n2 c2 n3 c3 ins vs outs (f.keep hK)
  rw [h] at HX
  have HB : Hid _ := g0_start w (.slice a1 n1 c1) (.slice a2 n2 c2) (.slice a3 n3 c3)
  have HF : Hid _ := f.keep hK
  have HS : Hid _ := s.keep hK
  have HK : Hid _ := hK
  clear hK h f s ho hv hw
  go_enter Try.func41, Try.ntmps41
  go_wp2_with fail
  generalize w.alloc (gbox a1 n1 c1 a2 n2 c2 a3 n3 c3) = w1 at HX HB HF HS HK ⊢
  refine Calls.mono HX.out ?_
  rintro e w2 ⟨rfl, k2⟩
  obtain ⟨_, q0, q1, q2⟩ := G0.keep HB.out k2
  have HY : Hid _ := shapes w2 _ _ a1 b n1 m c1 cb ins xss (GS.keep HF.out k2).i (SS.keep HS.out k2) (by omega)
  rw [h2] at HY
  have HK2 : Hid _ := k2
  clear k2 HX
  go_wp2_with fail
  clear q0 q1 q2
  refine Calls.mono HY.out ?_
  rintro e w3 ⟨rfl, d3⟩
  have k3 := Kept.trans HK2.out (d3.kept 0 0)
  obtain ⟨_, q0, q1, q2⟩ := G0.keep HB.out k3
  have HZ : Hid _ := l1values w3 a1 a2 a3 b n1 c1 n2 c2 n3 c3 m cb ins vs outs xss (GS.keep HF.out k3) (SS.keep HS.out k3) HWX.out HV.out h2 l2
  have HK3 : Hid _ := k3
  clear d3 k3 HY HK2
  go_wp2_with fail
  clear q0 q1 q2
  refine Calls.mono HZ.out ?_
  rintro e w4 ⟨aA, capA, zss, rfl, hA, hs, k4⟩
  have HA : Hid _ := hA
  have HSM : Hid _ := hs
  have HK4 : Hid _ := Kept.trans HK3.out k4
  clear HZ HK3 k4 hA hs
  go_wp2_with fail
  go_loopw [7, 8] (fun u i W => ∃ k : Nat, k ≤ n3 ∧ i = .int .i64 k ∧ Hid (AR W w4.heap.size u k (outs.map fun o => (valsTo xss vs n2).getD o.toNat [])) ∧ Hid (Kept 0 0 w4 W)) (fun _ i _ => n3 - (intOf i).toNat)
  case atStart => exact ⟨0, Nat.zero_le _, rfl, AR.nil _ _ _, Kept.refl _ _ _⟩
  case round =>
    obtain ⟨j, hj, rfl, hP, hK⟩ := hrel
    have q2 := (G0.keep HB.out (Kept.trans HK4.out hK.out)).q2
    by_cases hlt : j < n3
    · rcases (GS.keep HF.out (Kept.trans HK4.out hK.out)).o.at_ with z0 | ⟨ga, oa, ea, z1, z2, z3, z4⟩
      · omega
      have c1 := z4 j hlt
      have hix : idxB (outs.getD j 0) n2 = true := List.all_eq_true.1 HO.out (outs.getD j 0) (getD_mem (by omega))
      have hix2 := of_decide_eq_true hix
      have hy := map_getD outs (valsTo xss vs n2) (j := j) (by omega)
      obtain ⟨o, ho⟩ : ∃ o : Nat, outs.getD j 0 = o := ⟨(outs.getD j 0).toNat, by omega⟩
      rw [ho, Int.toNat_natCast] at hy
      rw [ho] at c1 hix2
      have HYY : Hid _ := hy
      have hon : o < n2 := by omega
      rcases (SS.keep HA.out hK.out).at_ with z0 | ⟨gb, ob, eb, y1, y2⟩
      · omega
      obtain ⟨b1, cc1, g1, g2, g3⟩ := y2 o hon
      have hsm := HSM.out o hon
      have hlen : 1 ≤ (zss.getD o []).length ∧ (zss.getD o []).length ≤ 1000 := by
        have s1 := same_len hsm
        have s2 := HLEN.out o hon
        have s3 := okV_len (List.all_eq_true.1 HV.out o (List.mem_range.2 hon))
        omega
      have HSO : Hid _ := hsm
      rcases g3.at_ with z0 | ⟨gc, oc, ec, x1, x2, x3, x4⟩
      · omega
      have HC : Hid _ := l1copy wr gc oc (zss.getD o []).length cc1 (zss.getD o []) hlen.1 (by omega) rfl g3.lt x4
      obtain ⟨us, hown, hus⟩ := hP.out
      have HUS : Hid _ := hus
      subst ea eb ec
      clear z1 z2 z3 z4 y1 y2 g2 g3 x1 x2 x3 x4 hy hix hix2 hP ho hsm hus
      generalize zss.getD o [] = ys at g1 HC HSO hlen
      obtain ⟨ny, hny⟩ : ∃ ny, ny = ys.length := ⟨_, rfl⟩
      rw [← hny] at g1 HC hlen
      clear hny
      go_wp2_with fail
      refine Calls.mono HC.out ?_
      rintro e w5 ⟨G, cap, rfl, h7, f7, b7, k7⟩
      have hown5 := own_keep hown k7
      have hz5 : w4.heap.size ≤ w5.heap.size := (Kept.trans hK.out k7).size
      clear HC g1 q2 c1
      go_wp2_with (first | (at_builtin; refine wpList_append_lies _ rfl _ _ 58 rfl w4.heap.size 38 i0 (.slice none 0 0) 1 24 Try.underlying58 hi hz0 hz1 hz2 rfl (by decide) _ _ us rfl (hown5.alloc _) ⟨w5.heap.size, 0, none⟩ 1 1 [.slice (some ⟨G, 0, none⟩) ny cap] rfl rfl ?c1 ?c2 (by decide) ?c3 ?c4 ?c5 _ rfl ?_))
      case c1 => exact cell_one_new _ _ _
      case c2 => intro u hu; simp at hu; subst hu; rfl
      case c3 => unfold maxLen; omega
      case c4 => omega
      case c5 => simp; omega
      intro g9 cap9 w9 hown9 hg9 hat9 _
      have R1 : Hid (AR w9 w4.heap.size (.slice (some ⟨g9, 0, none⟩) (j + 1) cap9) (j + 1) (outs.map fun o => (valsTo xss vs n2).getD o.toNat [])) :=
        AR.step (W := w5) (Vs := outs.map fun o => (valsTo xss vs n2).getD o.toNat []) hown5 (us_keep HUS.out k7) (x := (valsTo xss vs n2).getD o []) ⟨_, _, _, ys, rfl, h7, f7.fs, HSO.out⟩ (fun _ p hp c => by
          cases hp
          have := (own_blk hown (k := G) c).2
          omega) hown9 hg9 (by rcases hat9 with h | h; exact .inl h; exact .inr (by rw [h]; simp)) (fun _ _ => rfl) HYY.out
      have R2 : Hid _ := grown_kept (base := w4.heap.size) hg9 (fun i hi => (own_blk hown5 hi).1) ((Kept.trans hK.out k7).trans (kept_alloc 0 0 w5 _)) (Nat.le_refl _)
      clear hown9 hg9 hat9 hown hown5 k7 f7 HUS hK
      go_wp2
      go_roundw
      case rel => exact ⟨j + 1, by omega, by go_num, R1, R2⟩
      case measure => simp [intOf]; omega
    · obtain rfl : j = n3 := by omega
      obtain ⟨a, cap, yss, rfl, r1, r2⟩ := AR.ss hP.out
      have R1 : Hid _ := r1
      have R2 : Hid (∀ i, i < j → same (yss.getD i []) ((valsTo xss vs n2).getD (outs.getD i 0).toNat [])) := fun i hi => by
        rw [← map_getD outs (valsTo xss vs n2) (by omega)]
        exact r2 i hi
      have R3 : Hid (Kept 0 0 w wr) := Kept.trans HK.out (Kept.trans HK4.out hK.out)
      clear r1 r2 hP hK
      go_wp2
      go_ret2
      exact ⟨a, cap, yss, rfl, R1.out, R2.out, R3.out⟩
end Go.Proofs.Ytcphabjekfihnaa

namespace Go.Proofs.Ytcphabjekfihnaa
open Go.RowKit Flt
attribute [local go_sem] alloc_drewN setCell_drewN run_store_float

theorem SP.keepR {w w' : World} {g n k l h : Nat} {gf cf : Nat → Nat} {xss : List (List Nat)} (f : SP w g n k gf cf xss) (q : Kept l h w w') (hd : h ≤ g) : SP w' g n k gf cf xss :=
  ⟨Nat.lt_of_lt_of_le f.lt q.size, fun o => by rw [q.frozen (p := ⟨g, o, none⟩) f.lt (by show ¬ (l ≤ g ∧ g < h); omega)]; exact f.free o,
    fun j hj => by rw [q.cell (p := ⟨g, j, none⟩) f.lt (by show ¬ (l ≤ g ∧ g < h); omega)]; exact f.cell j hj,
    fun j hj => by rw [q.cell (p := ⟨g, j, none⟩) f.lt (by show ¬ (l ≤ g ∧ g < h); omega)]; exact f.rest j hj,
    f.cap, fun j hj => (f.own j hj).keep q (.inr (.inl (by have := f.up j hj; omega))), f.up, f.inc⟩

/-- A list of lists in blocks of the call's own from lo on, or nil. -/
def OS (w : World) (lo : Nat) (a : Option Addr) (n cap : Nat) (zss : List (List Nat)) : Prop :=
  (a = none ∧ n = 0 ∧ cap = 0 ∧ zss = []) ∨ ∃ g gf cf, a = some ⟨g, 0, none⟩ ∧ lo ≤ g ∧ SP w g n n gf cf zss ∧ zss.length = n
theorem OS.ss {w : World} {lo : Nat} {a : Option Addr} {n cap : Nat} {zss : List (List Nat)} (h : OS w lo a n cap zss) : SS w a n zss := by
  rcases h with ⟨rfl, rfl, rfl, rfl⟩ | ⟨g, gf, cf, rfl, h1, h2, h3⟩
  · exact ⟨rfl, .inl rfl⟩
  · exact h2.ss h3
theorem OS.keep {w w' : World} {lo l h : Nat} {a : Option Addr} {n cap : Nat} {zss : List (List Nat)} (f : OS w lo a n cap zss) (q : Kept l h w w') (hd : h ≤ lo) : OS w' lo a n cap zss := by
  rcases f with f | ⟨g, gf, cf, e, h1, h2, h3⟩
  · exact .inl f
  · exact .inr ⟨g, gf, cf, e, h1, h2.keepR q (by omega), h3⟩
/-- The same, marked from k on. -/
def OM (w : World) (a : Option Addr) (n cap : Nat) (zss : List (List Nat)) (k : Int) : Prop :=
  (a = none ∧ n = 0 ∧ cap = 0 ∧ zss = []) ∨ ∃ (g : Nat) (gf cf : Nat → Nat), a = some ⟨g, 0, none⟩ ∧ zss.length = n ∧ (∀ i, i < n → w.cell? ⟨g, i, none⟩ = some (.slice (some ⟨gf i, 0, none⟩) (zss.getD i []).length (cf i))) ∧ ∀ i, i < n → FO w (gf i) (zss.getD i []).length (mk k zss i)

set_option maxRecDepth 100000 in
set_option maxHeartbeats 1000000 in
theorem markSS_zero (w : World) (a : Option Addr) (cap : Nat) (k : Int) :
    Calls Try.prog 46 #[.slice a 0 cap, .int .i64 k] w fun e w' => e = .returned (.int .i64 k) ∧ w' = w := by
  go_enter Try.func46, Try.ntmps46
  go_wp2_with fail
  refine wp_loop_rounds 1 ?_
  rw [rounds_succ]
  go_wp2
  go_ret
  exact ⟨rfl, rfl⟩
set_option maxRecDepth 100000 in
set_option maxHeartbeats 1000000 in
theorem heldSS_zero (w : World) (a : Option Addr) (cap : Nat) (k : Int) :
    Calls Try.prog 47 #[.slice a 0 cap, .int .i64 k] w fun e w' => e = .returned (.int .i64 k) ∧ w' = w := by
  go_enter Try.func47, Try.ntmps47
  go_wp2_with fail
  refine wp_loop_rounds 1 ?_
  rw [rounds_succ]
  go_wp2
  go_ret
  exact ⟨rfl, rfl⟩
theorem markOS (w : World) (lo : Nat) (a : Option Addr) (n cap : Nat) (zss : List (List Nat)) (k : Int) (f : OS w lo a n cap zss) (h0 : 0 ≤ k) (h1 : k + total zss ≤ 1099511627776) (hn : n ≤ 1099511627776) :
    Calls Try.prog 46 #[.slice a n cap, .int .i64 k] w fun e w' => e = .returned (.int .i64 (k + total zss)) ∧ OM w' a n cap zss k ∧ Kept lo w.heap.size w w' := by
  rcases f with ⟨rfl, rfl, rfl, rfl⟩ | ⟨g, gf, cf, rfl, g1, g2, g3⟩
  · exact (markSS_zero w none 0 k).mono fun e w' h => ⟨by rw [h.1]; simp [total], .inl ⟨rfl, rfl, rfl, rfl⟩, by rw [h.2]; exact Kept.refl _ _ _⟩
  · exact (markSS w g n cap gf cf zss k g2 g3 h0 h1 hn w.heap.size (fun i hi => (g2.own i hi).lt)).mono fun e w' h => ⟨h.1, .inr ⟨g, gf, cf, rfl, g3, fun i hi => by rw [h.2.2.cell (p := ⟨g, i, none⟩) g2.lt (by show ¬ (g + 1 ≤ g ∧ _); omega)]; exact g2.cell i hi, h.2.1⟩, h.2.2.mono fun b hb c => ⟨by omega, hb⟩⟩
theorem heldOMe (w : World) (a : Option Addr) (n cap : Nat) (zss : List (List Nat)) (k : Int) (f : OM w a n cap zss k) (h0 : 0 ≤ k) (h1 : k + total zss ≤ 1099511627776) (hn : n ≤ 1099511627776) :
    Calls Try.prog 47 #[.slice a n cap, .int .i64 k] w fun e w' => e = .returned (.int .i64 (k + total zss)) ∧ w = w' := by
  rcases f with ⟨rfl, rfl, rfl, rfl⟩ | ⟨g, gf, cf, rfl, g1, g2, g3⟩
  · exact (heldSS_zero w none 0 k).mono fun e w' h => ⟨by rw [h.1]; simp [total], h.2.symm⟩
  · exact heldSS w g n cap gf cf zss k g2 g3 g1 h0 h1 hn

/-- What Eval answers: so many lists N, the code Cd, list j the same as L j. -/
def EvS (ins : List Int) (vs : List Vl) (outs : List Int) (xss : List (List Nat)) (n2 n3 N : Nat) (Cd : Int) (L : Nat → List Nat) : Prop :=
  (okG ins vs outs = false ∧ N = 0 ∧ Cd = 1) ∨ (okG ins vs outs = true ∧ inB ins xss = false ∧ N = 0 ∧ Cd = 4) ∨ (okG ins vs outs = true ∧ inB ins xss = true ∧ N = n3 ∧ Cd = 0 ∧ ∀ j, L j = (valsTo xss vs n2).getD (outs.getD j 0).toNat [])
theorem EvS.some (ins : List Int) (vs : List Vl) (outs : List Int) (xss : List (List Nat)) (n2 n3 : Nat) : ∃ N Cd L, EvS ins vs outs xss n2 n3 N Cd L := by
  cases h1 : okG ins vs outs
  · exact ⟨0, 1, fun _ => [], .inl ⟨h1, rfl, rfl⟩⟩
  · cases h2 : inB ins xss
    · exact ⟨0, 4, fun _ => [], .inr (.inl ⟨h1, h2, rfl, rfl⟩)⟩
    · exact ⟨n3, 0, fun j => (valsTo xss vs n2).getD (outs.getD j 0).toNat [], .inr (.inr ⟨h1, h2, rfl, rfl, fun _ => rfl⟩)⟩
theorem total_cap {c : Nat} : ∀ {zss : List (List Nat)}, (∀ j, j < zss.length → (zss.getD j []).length ≤ c) → total zss ≤ c * zss.length
  | [], _ => by simp [total]
  | xs :: r, h => by
    have h0 := h 0 (by simp)
    have h1 := total_cap (zss := r) (fun j hj => h (j + 1) (by simp; omega))
    simp only [total, List.length_cons, Nat.mul_add, Nat.mul_one]
    have : (xs :: r).getD 0 [] = xs := rfl
    rw [this] at h0
    omega
theorem implEval (w : World) (a1 a2 a3 b : Option Addr) (n1 c1 n2 c2 n3 c3 m cb : Nat) (ins : List Int) (vs : List Vl) (outs : List Int) (xss : List (List Nat)) (f : GS w a1 n1 a2 n2 a3 n3 ins vs outs) (s : SS w b m xss) (hw : Words xss) (hn : n1 ≤ 1048576) (N : Nat) (Cd : Int) (L : Nat → List Nat) (h : EvS ins vs outs xss n2 n3 N Cd L) :
    Calls Try.prog 43 #[gagg a1 n1 c1 a2 n2 c2 a3 n3 c3, .slice b m cb] w fun e w' => ∃ a cap zss, e = .returned (.tuple #[.slice a N cap, .int .i64 Cd]) ∧ OS w' w.heap.size a N cap zss ∧ (∀ j, j < N → same (zss.getD j []) (L j)) ∧ (N ≤ 50 ∧ total zss ≤ 1000000 ∧ ∀ j, j < N → (zss.getD j []).length ≤ 1000) ∧ Kept 0 0 w w' := by
  rcases h with ⟨h1, rfl, rfl⟩ | ⟨h1, h2, rfl, rfl⟩ | ⟨h1, h2, rfl, rfl, h3⟩
  · exact (implEval_bad w a1 a2 a3 b n1 c1 n2 c2 n3 c3 m cb ins vs outs f h1).mono fun e w' h => ⟨none, 0, [], h.1, .inl ⟨rfl, rfl, rfl, rfl⟩, fun j hj => absurd hj (Nat.not_lt_zero _), ⟨by omega, by simp [total], fun j hj => absurd hj (Nat.not_lt_zero _)⟩, h.2⟩
  · exact (implEval_shape w a1 a2 a3 b n1 c1 n2 c2 n3 c3 m cb ins vs outs xss f s h1 h2 hn).mono fun e w' h => ⟨none, 0, [], h.1, .inl ⟨rfl, rfl, rfl, rfl⟩, fun j hj => absurd hj (Nat.not_lt_zero _), ⟨by omega, by simp [total], fun j hj => absurd hj (Nat.not_lt_zero _)⟩, h.2⟩
  · refine (implEval_ok w a1 a2 a3 b n1 c1 n2 c2 N c3 m cb ins vs outs xss f s hw h1 h2).mono ?_
    rintro e w' ⟨G, gf, cf, zss, r1, r2, r3, r4, r5, r6⟩
    have hok := h1
    unfold okG at hok
    simp only [Bool.and_eq_true, decide_eq_true_eq, f.v.len, f.o.len] at hok
    obtain ⟨⟨_, _, l3⟩, _, hv, ho, _⟩ := hok
    have hb : ∀ j, j < N → (zss.getD j []).length ≤ 1000 := fun j hj => by
      have s1 := same_len (r5 j hj)
      have hix := of_decide_eq_true (List.all_eq_true.1 ho (outs.getD j 0) (getD_mem (by rw [f.o.len]; exact hj)))
      have s2 := vals_len h2 n2 hv (outs.getD j 0).toNat (by omega)
      have s3 := okV_len (List.all_eq_true.1 hv (outs.getD j 0).toNat (List.mem_range.2 (by omega)))
      omega
    have ht := total_cap (zss := zss) (c := 1000) (fun j hj => hb j (by omega))
    exact ⟨_, N, zss, r1, .inr ⟨G, gf, cf, rfl, r2, r3, r4⟩, fun j hj => by rw [h3]; exact r5 j hj, ⟨l3, by rw [r4] at ht; omega, hb⟩, r6⟩
theorem specEval (w : World) (a1 a2 a3 b : Option Addr) (n1 c1 n2 c2 n3 c3 m cb : Nat) (ins : List Int) (vs : List Vl) (outs : List Int) (xss : List (List Nat)) (f : GS w a1 n1 a2 n2 a3 n3 ins vs outs) (s : SS w b m xss) (hw : Words xss) (hn : n1 ≤ 1048576) (N : Nat) (Cd : Int) (L : Nat → List Nat) (h : EvS ins vs outs xss n2 n3 N Cd L) :
    Calls Try.prog 41 #[gagg a1 n1 c1 a2 n2 c2 a3 n3 c3, .slice b m cb] w fun e w' => ∃ a cap zss, e = .returned (.tuple #[.slice a N cap, .int .i64 Cd]) ∧ SS w' a N zss ∧ (∀ j, j < N → same (zss.getD j []) (L j)) ∧ Kept 0 0 w w' := by
  rcases h with ⟨h1, rfl, rfl⟩ | ⟨h1, h2, rfl, rfl⟩ | ⟨h1, h2, rfl, rfl, h3⟩
  · exact (specEval_bad w a1 a2 a3 b n1 c1 n2 c2 n3 c3 m cb ins vs outs f h1).mono fun e w' h => ⟨none, 0, [], h.1, ⟨rfl, .inl rfl⟩, fun j hj => absurd hj (Nat.not_lt_zero _), h.2⟩
  · exact (specEval_shape w a1 a2 a3 b n1 c1 n2 c2 n3 c3 m cb ins vs outs xss f s h1 h2 hn).mono fun e w' h => ⟨none, 0, [], h.1, ⟨rfl, .inl rfl⟩, fun j hj => absurd hj (Nat.not_lt_zero _), h.2⟩
  · refine (specEval_ok w a1 a2 a3 b n1 c1 n2 c2 N c3 m cb ins vs outs xss f s hw h1 h2).mono ?_
    rintro e w' ⟨a, cap, zss, r1, r2, r3, r4⟩
    exact ⟨a, cap, zss, r1, r2, fun j hj => by rw [h3]; exact r3 j hj, r4⟩
end Go.Proofs.Ytcphabjekfihnaa
