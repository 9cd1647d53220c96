import Derived.Test.YtpglbgejlpeckabP08
namespace Go.Proofs.Ytpglbgejlpeckab
open Go.RowKit Flt
attribute [local go_sem] alloc_drewN setCell_drewN run_store_float

abbrev gagg (a1 : Option Addr) (n1 c1 : Nat) (a2 : Option Addr) (n2 c2 : Nat) (a3 : Option Addr) (n3 c3 : Nat) : Value := .agg #[.slice a1 n1 c1, .slice a2 n2 c2, .slice a3 n3 c3]

set_option maxRecDepth 100000 in
set_option maxHeartbeats 1000000 in
theorem szGraph (w : World) (a1 a2 a3 : Option Addr) (n1 c1 n2 c2 n3 c3 : Nat) (left : Int) (h0 : 0 ≤ left) (h1 : left ≤ 1048576) (hn1 : n1 ≤ 9223372036854775807) (hn2 : n2 ≤ 9223372036854775807) (hn3 : n3 ≤ 9223372036854775807) :
    Calls Try.prog 29 #[gagg a1 n1 c1 a2 n2 c2 a3 n3 c3, .int .i64 left] w fun e w' => e = .returned (.int .i64 (if left - n1 - n2 - n3 < 0 then -1 else left - n1 - n2 - n3)) ∧ Kept 0 0 w w' := by
  have hs1 := szI
  have HS1 : Hid _ := hs1
  have HS2 : Hid _ := szV
  clear hs1
  by_cases g1 : left - n1 < 0
  · rw [if_pos (by omega)]
    go_enter Try.func29, Try.ntmps29
    go_wp2_with fail
    refine (HS1.out _ _ _ _ _ h0 h1 hn1).mono ?_
    rintro e w2 ⟨rfl, rfl⟩
    rw [show leftOf left n1 = -1 from if_pos (by omega)]
    go_wp2
    go_ret
    exact ⟨rfl, kept_alloc _ _ _ _⟩
  · by_cases g2 : left - n1 - n2 < 0
    · rw [if_pos (by omega)]
      go_enter Try.func29, Try.ntmps29
      go_wp2_with fail
      refine (HS1.out _ _ _ _ _ h0 h1 hn1).mono ?_
      rintro e w2 ⟨rfl, rfl⟩
      rw [show leftOf left n1 = left - n1 from if_neg (by omega)]
      go_wp2_with fail
      refine (HS2.out _ _ _ _ _ (by omega) (by omega) hn2).mono ?_
      rintro e w2 ⟨rfl, rfl⟩
      rw [show leftOf (left - n1) n2 = -1 from if_pos (by omega)]
      go_wp2
      go_ret
      exact ⟨rfl, kept_alloc _ _ _ _⟩
    · by_cases g3 : left - n1 - n2 - n3 < 0
      · rw [if_pos g3]
        go_enter Try.func29, Try.ntmps29
        go_wp2_with fail
        refine (HS1.out _ _ _ _ _ h0 h1 hn1).mono ?_
        rintro e w2 ⟨rfl, rfl⟩
        rw [show leftOf left n1 = left - n1 from if_neg (by omega)]
        go_wp2_with fail
        refine (HS2.out _ _ _ _ _ (by omega) (by omega) hn2).mono ?_
        rintro e w2 ⟨rfl, rfl⟩
        rw [show leftOf (left - n1) n2 = left - n1 - n2 from if_neg (by omega)]
        go_wp2_with fail
        refine (HS1.out _ _ _ _ _ (by omega) (by omega) hn3).mono ?_
        rintro e w2 ⟨rfl, rfl⟩
        rw [show leftOf (left - n1 - n2) n3 = -1 from if_pos (by omega)]
        go_wp2
        go_ret
        exact ⟨rfl, kept_alloc _ _ _ _⟩
      · rw [if_neg g3]
        go_enter Try.func29, Try.ntmps29
        go_wp2_with fail
        refine (HS1.out _ _ _ _ _ h0 h1 hn1).mono ?_
        rintro e w2 ⟨rfl, rfl⟩
        rw [show leftOf left n1 = left - n1 from if_neg (by omega)]
        go_wp2_with fail
        refine (HS2.out _ _ _ _ _ (by omega) (by omega) hn2).mono ?_
        rintro e w2 ⟨rfl, rfl⟩
        rw [show leftOf (left - n1) n2 = left - n1 - n2 from if_neg (by omega)]
        go_wp2_with fail
        refine (HS1.out _ _ _ _ _ (by omega) (by omega) hn3).mono ?_
        rintro e w2 ⟨rfl, rfl⟩
        rw [show leftOf (left - n1 - n2) n3 = left - n1 - n2 - n3 from if_neg (by omega)]
        go_wp2
        go_ret
        exact ⟨rfl, kept_alloc _ _ _ _⟩

/-- A graph that came in or lies somewhere: its three lists. -/
structure GS (w : World) (a1 : Option Addr) (n1 : Nat) (a2 : Option Addr) (n2 : Nat) (a3 : Option Addr) (n3 : Nat) (ins : List Int) (vs : List Vl) (outs : List Int) : Prop where
  i : IS w 0 w.heap.size a1 n1 ins
  v : VS w 0 w.heap.size a2 n2 vs
  o : IS w 0 w.heap.size a3 n3 outs
theorem IS.mono {w : World} {lo hi lo' hi' : Nat} {a : Option Addr} {n : Nat} {xs : List Int} (f : IS w lo hi a n xs) (h1 : lo' ≤ lo) (h2 : hi ≤ hi') : IS w lo' hi' a n xs :=
  ⟨f.len, by
    rcases f.at_ with h0 | ⟨g, off, e, a1, a2, a3, a4⟩
    · exact .inl h0
    · exact .inr ⟨g, off, e, by omega, by omega, a3, a4⟩⟩
theorem VS.mono {w : World} {lo hi lo' hi' : Nat} {a : Option Addr} {n : Nat} {vs : List Vl} (f : VS w lo hi a n vs) (h1 : lo' ≤ lo) (h2 : hi ≤ hi') : VS w lo' hi' a n vs :=
  ⟨f.len, f.lt, by
    rcases f.at_ with h0 | ⟨g, off, e, a1, a2, a3, a4⟩
    · exact .inl h0
    · exact .inr ⟨g, off, e, by omega, by omega, a3, a4⟩⟩
theorem GS.keep {w w' : World} {a1 a2 a3 : Option Addr} {n1 n2 n3 : Nat} {ins : List Int} {vs : List Vl} {outs : List Int} (f : GS w a1 n1 a2 n2 a3 n3 ins vs outs) (k : Kept 0 0 w w') : GS w' a1 n1 a2 n2 a3 n3 ins vs outs :=
  ⟨(f.i.keep k (.inr (.inr (Nat.le_refl _)))).mono (Nat.le_refl _) k.size, (f.v.keep k (.inr (.inr (Nat.le_refl _)))).mono (Nat.le_refl _) k.size, (f.o.keep k (.inr (.inr (Nat.le_refl _)))).mono (Nat.le_refl _) k.size⟩

/-- A graph in new memory: three blocks of its own. -/
structure GO (w : World) (lo : Nat) (g1 g2 g3 : Nat) (n2 : Nat) (ins : List Int) (vs : List Vl) (outs : List Int) : Prop where
  i : IR w g1 ins
  v : VA w g2 n2 vs
  o : IR w g3 outs
  l1 : lo ≤ g1
  l2 : g1 < g2
  l3 : g2 < g3
theorem GO.gs {w : World} {lo g1 g2 g3 n2 : Nat} {ins : List Int} {vs : List Vl} {outs : List Int} (f : GO w lo g1 g2 g3 n2 ins vs outs) (hl : ∀ v ∈ vs, v.k < 18446744073709551616) :
    GS w (some ⟨g1, 0, none⟩) ins.length (some ⟨g2, 0, none⟩) n2 (some ⟨g3, 0, none⟩) outs.length ins vs outs := ⟨f.i.is, f.v.vs hl, f.o.is⟩

/-- The three boxes of toGraph while it goes. -/
structure TG (W : World) (p : Nat) (b0 b1 b2 s0 s1 s2 : Value) : Prop where
  sz : p + 2 < W.heap.size
  q0 : W.cell? ⟨p, 0, none⟩ = some b0
  q1 : W.cell? ⟨p, 1, none⟩ = some b1
  q2 : W.cell? ⟨p, 2, none⟩ = some b2
  r0 : W.cell? ⟨p + 1, 0, none⟩ = some (.slice none 0 0)
  r1 : W.cell? ⟨p + 1, 1, none⟩ = some (.slice none 0 0)
  r2 : W.cell? ⟨p + 1, 2, none⟩ = some (.slice none 0 0)
  o0 : W.cell? ⟨p + 1 + 1, 0, none⟩ = some s0
  o1 : W.cell? ⟨p + 1 + 1, 1, none⟩ = some s1
  o2 : W.cell? ⟨p + 1 + 1, 2, none⟩ = some s2
  f1 : ∀ o, W.frozen? ⟨p + 1, o, none⟩ = false
  f2 : ∀ o, W.frozen? ⟨p + 1 + 1, o, none⟩ = false
theorem TG.keep {W W' : World} {p : Nat} {b0 b1 b2 s0 s1 s2 : Value} (t : TG W p b0 b1 b2 s0 s1 s2) (k : Kept 0 0 W W') : TG W' p b0 b1 b2 s0 s1 s2 := by
  have e : ∀ g o, g ≤ p + 2 → W'.cell? ⟨g, o, none⟩ = W.cell? ⟨g, o, none⟩ := fun g o h => k.cell (p := ⟨g, o, none⟩) (Nat.lt_of_le_of_lt h t.sz) (by omega)
  have f : ∀ g o, g ≤ p + 2 → W'.frozen? ⟨g, o, none⟩ = W.frozen? ⟨g, o, none⟩ := fun g o h => k.frozen (p := ⟨g, o, none⟩) (Nat.lt_of_le_of_lt h t.sz) (by omega)
  exact ⟨Nat.lt_of_lt_of_le t.sz k.size, by rw [e _ _ (by omega)]; exact t.q0, by rw [e _ _ (by omega)]; exact t.q1, by rw [e _ _ (by omega)]; exact t.q2, by rw [e _ _ (by omega)]; exact t.r0, by rw [e _ _ (by omega)]; exact t.r1, by rw [e _ _ (by omega)]; exact t.r2, by rw [e _ _ (by omega)]; exact t.o0, by rw [e _ _ (by omega)]; exact t.o1, by rw [e _ _ (by omega)]; exact t.o2, fun o => by rw [f _ _ (by omega)]; exact t.f1 o, fun o => by rw [f _ _ (by omega)]; exact t.f2 o⟩
theorem TG.put0 {W : World} {p : Nat} {b0 b1 b2 s0 s1 s2 : Value} (t : TG W p b0 b1 b2 s0 s1 s2) (v : Value) : TG (W.setCell ⟨p + 1 + 1, 0, none⟩ v) p b0 b1 b2 v s1 s2 :=
  ⟨by simpa using t.sz, by rw [cell_ne _ _ _ _ _ _ (by omega)]; exact t.q0, by rw [cell_ne _ _ _ _ _ _ (by omega)]; exact t.q1, by rw [cell_ne _ _ _ _ _ _ (by omega)]; exact t.q2, by rw [cell_ne _ _ _ _ _ _ (by omega)]; exact t.r0, by rw [cell_ne _ _ _ _ _ _ (by omega)]; exact t.r1, by rw [cell_ne _ _ _ _ _ _ (by omega)]; exact t.r2, cell_eq _ _ _ _ _ t.o0, by rw [cell_ne _ _ _ _ _ _ (by omega)]; exact t.o1, by rw [cell_ne _ _ _ _ _ _ (by omega)]; exact t.o2, fun o => by simp [t.f1 o], fun o => by simp [t.f2 o]⟩
theorem TG.put1 {W : World} {p : Nat} {b0 b1 b2 s0 s1 s2 : Value} (t : TG W p b0 b1 b2 s0 s1 s2) (v : Value) : TG (W.setCell ⟨p + 1 + 1, 1, none⟩ v) p b0 b1 b2 s0 v s2 :=
  ⟨by simpa using t.sz, by rw [cell_ne _ _ _ _ _ _ (by omega)]; exact t.q0, by rw [cell_ne _ _ _ _ _ _ (by omega)]; exact t.q1, by rw [cell_ne _ _ _ _ _ _ (by omega)]; exact t.q2, by rw [cell_ne _ _ _ _ _ _ (by omega)]; exact t.r0, by rw [cell_ne _ _ _ _ _ _ (by omega)]; exact t.r1, by rw [cell_ne _ _ _ _ _ _ (by omega)]; exact t.r2, by rw [cell_ne _ _ _ _ _ _ (by omega)]; exact t.o0, cell_eq _ _ _ _ _ t.o1, by rw [cell_ne _ _ _ _ _ _ (by omega)]; exact t.o2, fun o => by simp [t.f1 o], fun o => by simp [t.f2 o]⟩
theorem TG.put2 {W : World} {p : Nat} {b0 b1 b2 s0 s1 s2 : Value} (t : TG W p b0 b1 b2 s0 s1 s2) (v : Value) : TG (W.setCell ⟨p + 1 + 1, 2, none⟩ v) p b0 b1 b2 s0 s1 v :=
  ⟨by simpa using t.sz, by rw [cell_ne _ _ _ _ _ _ (by omega)]; exact t.q0, by rw [cell_ne _ _ _ _ _ _ (by omega)]; exact t.q1, by rw [cell_ne _ _ _ _ _ _ (by omega)]; exact t.q2, by rw [cell_ne _ _ _ _ _ _ (by omega)]; exact t.r0, by rw [cell_ne _ _ _ _ _ _ (by omega)]; exact t.r1, by rw [cell_ne _ _ _ _ _ _ (by omega)]; exact t.r2, by rw [cell_ne _ _ _ _ _ _ (by omega)]; exact t.o0, by rw [cell_ne _ _ _ _ _ _ (by omega)]; exact t.o1, cell_eq _ _ _ _ _ t.o2, fun o => by simp [t.f1 o], fun o => by simp [t.f2 o]⟩
theorem tg_start (w : World) (b0 b1 b2 : Value) : TG (((w.alloc (.cells #[b0, b1, b2] 43)).alloc (.cells #[.slice none 0 0, .slice none 0 0, .slice none 0 0] 48)).alloc (.cells #[.slice none 0 0, .slice none 0 0, .slice none 0 0] 48)) w.heap.size b0 b1 b2 (.slice none 0 0) (.slice none 0 0) (.slice none 0 0) := by
  have h1 : (w.alloc (.cells #[b0, b1, b2] 43)).heap.size = w.heap.size + 1 := by simp
  have h2 : ((w.alloc (.cells #[b0, b1, b2] 43)).alloc (.cells #[.slice none 0 0, .slice none 0 0, .slice none 0 0] 48)).heap.size = w.heap.size + 1 + 1 := by simp
  constructor
  all_goals first | (go_simp; done) | (simp; done) | (intro o; simp; done)
theorem put3_kept (w : World) (g : Nat) (x y z : Value) : Kept g (g + 1) w (((w.setCell ⟨g, 0, none⟩ x).setCell ⟨g, 1, none⟩ y).setCell ⟨g, 2, none⟩ z) := by
  have k : ∀ (w : World) (a : Nat) (u : Value), Kept g (g + 1) w (w.setCell ⟨g, a, none⟩ u) := fun w a u => kept_setCell w ⟨g, a, none⟩ u (.inl ⟨Nat.le_refl _, Nat.lt_succ_self _⟩)
  exact ((k _ _ _).trans (k _ _ _)).trans (k _ _ _)
theorem kept_put (w W : World) (k : Kept 0 0 w W) (g o : Nat) (v : Value) (h : w.heap.size ≤ g) : Kept 0 0 w (W.setCell ⟨g, o, none⟩ v) :=
  k.new (kept_setCell (lo := g) (hi := g + 1) W ⟨g, o, none⟩ v (.inl ⟨Nat.le_refl _, Nat.lt_succ_self _⟩)) h

set_option maxRecDepth 100000 in
set_option maxHeartbeats 2000000 in
theorem toGraph (w : World) (a1 a2 a3 : Option Addr) (n1 c1 n2 c2 n3 c3 : Nat) (ins : List Int) (vs : List Vl) (outs : List Int) (f : GS w a1 n1 a2 n2 a3 n3 ins vs outs) (h1 : n1 ≤ 1048576) (h2 : n2 ≤ 1048576) (h3 : n3 ≤ 1048576) :
    Calls Try.prog 31 #[gagg a1 n1 c1 a2 n2 c2 a3 n3 c3] w fun e w' => ∃ g1 g2 g3, e = .returned (gagg (some ⟨g1, 0, none⟩) n1 n1 (some ⟨g2, 0, none⟩) n2 n2 (some ⟨g3, 0, none⟩) n3 n3) ∧ GO w' w.heap.size g1 g2 g3 n2 ins vs outs ∧ Kept 0 0 w w' := by
  have hT := tg_start w (.slice a1 n1 c1) (.slice a2 n2 c2) (.slice a3 n3 c3)
  have hK := ((kept_alloc 0 0 w (.cells #[.slice a1 n1 c1, .slice a2 n2 c2, .slice a3 n3 c3] 43)).trans (kept_alloc 0 0 _ (.cells #[.slice none 0 0, .slice none 0 0, .slice none 0 0] 48))).trans (kept_alloc 0 0 _ (.cells #[.slice none 0 0, .slice none 0 0, .slice none 0 0] 48))
  have fi := f.i.keep hK (.inr (.inr (Nat.le_refl _)))
  have fv := f.v.keep hK (.inr (.inr (Nat.le_refl _)))
  have fo := f.o.keep hK (.inr (.inr (Nat.le_refl _)))
  have HL : Hid (∀ v ∈ vs, v.k < 18446744073709551616) := f.v.lt
  clear f
  go_enter Try.func31, Try.ntmps31
  go_wp2_with fail
  generalize hw3 : ((w.alloc (.cells #[.slice a1 n1 c1, .slice a2 n2 c2, .slice a3 n3 c3] 43)).alloc (.cells #[.slice none 0 0, .slice none 0 0, .slice none 0 0] 48)).alloc (.cells #[.slice none 0 0, .slice none 0 0, .slice none 0 0] 48) = w3 at hT hK fi fv fo ⊢
  clear hw3
  have Z3 : Hid (w.heap.size + 2 < w3.heap.size) := hT.sz
  refine (toI _ _ _ _ _ _ _ fi h1).mono ?_
  rintro e w4 ⟨rfl, r1, k4⟩
  clear fi
  replace hT := hT.keep k4
  replace fv := fv.keep k4 (.inr (.inr (Nat.le_refl _)))
  replace fo := fo.keep k4 (.inr (.inr (Nat.le_refl _)))
  replace hK := hK.trans k4
  have Z4 : Hid (w3.heap.size < w4.heap.size) := r1.lt
  clear k4
  have pk := kept_setCell (lo := w.heap.size + 1 + 1) (hi := w.heap.size + 1 + 1 + 1) w4 ⟨w.heap.size + 1 + 1, 0, none⟩ (.slice (some ⟨w3.heap.size, 0, none⟩) n1 n1) (.inl ⟨Nat.le_refl _, Nat.lt_succ_self _⟩)
  replace r1 := r1.keep pk (by have := Z3.out; omega)
  replace fv := fv.keep pk (.inl (by omega))
  replace fo := fo.keep pk (.inl (by omega))
  replace hK := hK.new pk (by omega)
  have o0 := hT.o0
  have q1 := hT.q1
  have f2 := hT.f2
  replace hT := hT.put0 (.slice (some ⟨w3.heap.size, 0, none⟩) n1 n1)
  have S4 : Hid ((w4.setCell ⟨w.heap.size + 1 + 1, 0, none⟩ (.slice (some ⟨w3.heap.size, 0, none⟩) n1 n1)).heap.size = w4.heap.size) := World.size_setCell ..
  clear pk
  go_wp2_with fail
  clear o0 q1 f2
  generalize hw5 : w4.setCell ⟨w.heap.size + 1 + 1, 0, none⟩ (.slice (some ⟨w3.heap.size, 0, none⟩) n1 n1) = w5 at hT hK r1 fv fo S4 ⊢
  clear hw5
  refine (toVS _ _ _ _ _ _ _ fv h2).mono ?_
  rintro e w6 ⟨rfl, r2, k6⟩
  clear fv
  replace hT := hT.keep k6
  replace fo := fo.keep k6 (.inr (.inr (Nat.le_refl _)))
  replace r1 := r1.keep k6 (.inr (.inr (Nat.le_refl _)))
  replace hK := hK.trans k6
  have Z6 : Hid (w5.heap.size < w6.heap.size) := r2.lt
  clear k6
  have pk := kept_setCell (lo := w.heap.size + 1 + 1) (hi := w.heap.size + 1 + 1 + 1) w6 ⟨w.heap.size + 1 + 1, 1, none⟩ (.slice (some ⟨w5.heap.size, 0, none⟩) n2 n2) (.inl ⟨Nat.le_refl _, Nat.lt_succ_self _⟩)
  replace r1 := r1.keep pk (by have := Z3.out; omega)
  replace r2 := r2.keep pk (by have := Z3.out; have := Z4.out; have := S4.out; omega)
  replace fo := fo.keep pk (.inl (by omega))
  replace hK := hK.new pk (by omega)
  have o1 := hT.o1
  have q2 := hT.q2
  have f2 := hT.f2
  replace hT := hT.put1 (.slice (some ⟨w5.heap.size, 0, none⟩) n2 n2)
  have S6 : Hid ((w6.setCell ⟨w.heap.size + 1 + 1, 1, none⟩ (.slice (some ⟨w5.heap.size, 0, none⟩) n2 n2)).heap.size = w6.heap.size) := World.size_setCell ..
  clear pk
  go_wp2_with fail
  clear o1 q2 f2
  generalize hw7 : w6.setCell ⟨w.heap.size + 1 + 1, 1, none⟩ (.slice (some ⟨w5.heap.size, 0, none⟩) n2 n2) = w7 at hT hK r1 r2 fo S6 ⊢
  clear hw7
  refine (toI _ _ _ _ _ _ _ fo h3).mono ?_
  rintro e w8 ⟨rfl, r3, k8⟩
  clear fo
  replace hT := hT.keep k8
  replace r1 := r1.keep k8 (.inr (.inr (Nat.le_refl _)))
  replace r2 := r2.keep k8 (.inr (.inr (Nat.le_refl _)))
  replace hK := hK.trans k8
  clear k8
  have pk := kept_setCell (lo := w.heap.size + 1 + 1) (hi := w.heap.size + 1 + 1 + 1) w8 ⟨w.heap.size + 1 + 1, 2, none⟩ (.slice (some ⟨w7.heap.size, 0, none⟩) n3 n3) (.inl ⟨Nat.le_refl _, Nat.lt_succ_self _⟩)
  have o2 := hT.o2
  have o0 := hT.o0
  have o1 := hT.o1
  have f2 := hT.f2
  have f1 := hT.f1
  have d0 := hT.r0
  have d1 := hT.r1
  have d2 := hT.r2
  have ps := put3_kept (w8.setCell ⟨w.heap.size + 1 + 1, 2, none⟩ (.slice (some ⟨w7.heap.size, 0, none⟩) n3 n3)) (w.heap.size + 1) (.slice (some ⟨w3.heap.size, 0, none⟩) n1 n1) (.slice (some ⟨w5.heap.size, 0, none⟩) n2 n2) (.slice (some ⟨w7.heap.size, 0, none⟩) n3 n3)
  have GZ : Hid (w.heap.size + 2 < w3.heap.size ∧ w3.heap.size < w5.heap.size ∧ w5.heap.size < w7.heap.size) := ⟨Z3.out, by rw [S4.out]; exact Z4.out, by rw [S6.out]; exact Z6.out⟩
  replace r1 := (r1.keep pk (by have := GZ.out; omega)).keep ps (by have := GZ.out; omega)
  replace r2 := (r2.keep pk (by have := GZ.out; omega)).keep ps (by have := GZ.out; omega)
  replace r3 := (r3.keep pk (by have := GZ.out; omega)).keep ps (by have := GZ.out; omega)
  replace hK := (hK.new pk (by omega)).new ps (by omega)
  clear pk ps hT Z3 Z4 Z6 S4 S6
  go_wp2
  refine bodyPost_ret (v := gagg (some ⟨w3.heap.size, 0, none⟩) n1 n1 (some ⟨w5.heap.size, 0, none⟩) n2 n2 (some ⟨w7.heap.size, 0, none⟩) n3 n3) (by simp [results, Try.results31, go_sem, d0, d1, d2]) rfl ⟨_, _, _, rfl, ⟨r1, r2, r3, ?_, ?_, ?_⟩, hK⟩
  · have := GZ.out; omega
  · exact GZ.out.2.1
  · exact GZ.out.2.2

/-- The two boxes of eqGraph. -/
structure EG (W : World) (p : Nat) (b0 b1 b2 s0 s1 s2 : Value) : Prop where
  sz : p + 1 < W.heap.size
  q0 : W.cell? ⟨p, 0, none⟩ = some b0
  q1 : W.cell? ⟨p, 1, none⟩ = some b1
  q2 : W.cell? ⟨p, 2, none⟩ = some b2
  r0 : W.cell? ⟨p + 1, 0, none⟩ = some s0
  r1 : W.cell? ⟨p + 1, 1, none⟩ = some s1
  r2 : W.cell? ⟨p + 1, 2, none⟩ = some s2
theorem EG.keep {W W' : World} {p : Nat} {b0 b1 b2 s0 s1 s2 : Value} (t : EG W p b0 b1 b2 s0 s1 s2) (k : Kept 0 0 W W') : EG W' p b0 b1 b2 s0 s1 s2 := by
  have e : ∀ g o, g ≤ p + 1 → W'.cell? ⟨g, o, none⟩ = W.cell? ⟨g, o, none⟩ := fun g o h => k.cell (p := ⟨g, o, none⟩) (Nat.lt_of_le_of_lt h t.sz) (by omega)
  exact ⟨Nat.lt_of_lt_of_le t.sz k.size, by rw [e _ _ (by omega)]; exact t.q0, by rw [e _ _ (by omega)]; exact t.q1, by rw [e _ _ (by omega)]; exact t.q2, by rw [e _ _ (by omega)]; exact t.r0, by rw [e _ _ (by omega)]; exact t.r1, by rw [e _ _ (by omega)]; exact t.r2⟩
theorem eg_start (w : World) (b0 b1 b2 s0 s1 s2 : Value) : EG ((w.alloc (.cells #[b0, b1, b2] 48)).alloc (.cells #[s0, s1, s2] 48)) w.heap.size b0 b1 b2 s0 s1 s2 := by
  have h1 : (w.alloc (.cells #[b0, b1, b2] 48)).heap.size = w.heap.size + 1 := by simp
  constructor
  all_goals first | (go_simp; done) | (simp; done)

set_option maxRecDepth 100000 in
set_option maxHeartbeats 2000000 in
theorem eqGraph (w : World) (a1 a2 a3 a1' a2' a3' : Option Addr) (n1 c1 n2 c2 n3 c3 c1' c2' c3' : Nat) (ins : List Int) (vs : List Vl) (outs : List Int) (f : GS w a1 n1 a2 n2 a3 n3 ins vs outs) (g : GS w a1' n1 a2' n2 a3' n3 ins vs outs) (h1 : n1 ≤ 1048576) (h2 : n2 ≤ 1048576) (h3 : n3 ≤ 1048576) :
    Calls Try.prog 33 #[gagg a1 n1 c1 a2 n2 c2 a3 n3 c3, gagg a1' n1 c1' a2' n2 c2' a3' n3 c3'] w fun e w' => e = .returned (.bool true) ∧ Kept 0 0 w w' := by
  have hK := (kept_alloc 0 0 w (.cells #[.slice a1 n1 c1, .slice a2 n2 c2, .slice a3 n3 c3] 48)).trans (kept_alloc 0 0 _ (.cells #[.slice a1' n1 c1', .slice a2' n2 c2', .slice a3' n3 c3'] 48))
  have hB := eg_start w (.slice a1 n1 c1) (.slice a2 n2 c2) (.slice a3 n3 c3) (.slice a1' n1 c1') (.slice a2' n2 c2') (.slice a3' n3 c3')
  have f' := f.keep hK
  have g' := g.keep hK
  clear f g
  go_enter Try.func33, Try.ntmps33
  go_wp2_with fail
  generalize hw3 : (w.alloc (.cells #[.slice a1 n1 c1, .slice a2 n2 c2, .slice a3 n3 c3] 48)).alloc (.cells #[.slice a1' n1 c1', .slice a2' n2 c2', .slice a3' n3 c3'] 48) = w3 at hB hK f' g' ⊢
  clear hw3
  refine (eqI _ _ _ _ _ _ _ _ _ _ _ f'.i g'.i (by omega)).mono ?_
  rintro e w4 ⟨rfl, k4'⟩
  have k4 := k4'.kept 0 0
  clear k4'
  replace hB := hB.keep k4
  replace f' := f'.keep k4
  replace g' := g'.keep k4
  replace hK := hK.trans k4
  clear k4
  have q1 := hB.q1
  have q2 := hB.r1
  go_wp2_with fail
  clear q1 q2
  refine (eqVS _ _ _ _ _ _ _ _ _ _ _ f'.v g'.v (by omega)).mono ?_
  rintro e w5 ⟨rfl, k5⟩
  replace hB := hB.keep k5
  replace f' := f'.keep k5
  replace g' := g'.keep k5
  replace hK := hK.trans k5
  clear k5
  have q1 := hB.q2
  have q2 := hB.r2
  go_wp2_with fail
  clear q1 q2
  refine (eqI _ _ _ _ _ _ _ _ _ _ _ f'.o g'.o (by omega)).mono ?_
  rintro e w6 ⟨rfl, k6'⟩
  have k6 := k6'.kept 0 0
  replace hK := hK.trans k6
  clear k6' k6 hB f' g'
  go_wp2
  go_ret
  exact ⟨rfl, hK⟩
end Go.Proofs.Ytpglbgejlpeckab

namespace Go.Proofs.Ytpglbgejlpeckab
open Go.RowKit Flt
attribute [local go_sem] alloc_drewN setCell_drewN run_store_float

theorem Kept.growT {lo hi l h : Nat} {w w' : World} (k : Kept l h w w') (h1 : lo ≤ l) (h2 : h ≤ hi) : Kept lo hi w w' := k.mono fun _ _ c => ⟨by omega, by omega⟩
/-- An own block whose first n cells are ints. -/
structure IBk (w : World) (g n : Nat) (xs : List Int) : Prop where
  len : xs.length = n
  lt : g < w.heap.size
  at_ : ∀ k, k < n → w.cell? ⟨g, k, none⟩ = some (.int .i64 (xs.getD k 0))
  free : ∀ o, w.frozen? ⟨g, o, none⟩ = false
theorem IBk.keep {w w' : World} {g n l h : Nat} {xs : List Int} (f : IBk w g n xs) (k : Kept l h w w') (hd : g < l ∨ h ≤ g ∨ h ≤ l) : IBk w' g n xs :=
  ⟨f.len, Nat.lt_of_lt_of_le f.lt k.size, fun j hj => by rw [k.cell (p := ⟨g, j, none⟩) f.lt (by show ¬ (l ≤ g ∧ g < h); omega)]; exact f.at_ j hj, fun o => by rw [k.frozen (p := ⟨g, o, none⟩) f.lt (by show ¬ (l ≤ g ∧ g < h); omega)]; exact f.free o⟩
theorem IBk.put {w : World} {g n : Nat} {xs : List Int} (f : IBk w g n xs) (j : Nat) (hj : j < n) (x : Int) : IBk (w.setCell ⟨g, j, none⟩ (.int .i64 x)) g n (xs.set j x) where
  len := by rw [List.length_set]; exact f.len
  lt := by simpa using f.lt
  at_ := fun k hk => by
    rw [List.getD_eq_getElem?_getD, List.getElem?_set]
    by_cases e : j = k
    · subst e
      rw [if_pos rfl, if_pos (by rw [f.len]; exact hj)]
      exact cell_eq _ _ _ _ _ (f.at_ j hj)
    · rw [if_neg e, cell_ne _ _ _ _ _ _ (.inr e), ← List.getD_eq_getElem?_getD]
      exact f.at_ k hk
  free := fun o => by simp [f.free o]
theorem IR.io {w : World} {g n : Nat} {xs : List Int} (f : IR w g xs) (h : xs.length = n) : IBk w g n xs := ⟨h, f.lt, fun k hk => f.cell k (by omega), f.free⟩
theorem getD_set {α : Type} (xs : List α) (z x : α) (j i : Nat) (hj : j < xs.length) : (xs.set j x).getD i z = if i = j then x else xs.getD i z := by
  rw [List.getD_eq_getElem?_getD, List.getElem?_set]
  by_cases e : j = i
  · subst e; rw [if_pos rfl, if_pos hj, if_pos rfl]; rfl
  · rw [if_neg e, if_neg (fun c => e c.symm), ← List.getD_eq_getElem?_getD]

set_option maxRecDepth 100000 in
set_option maxHeartbeats 1000000 in
theorem markIO (w : World) (g n cap : Nat) (k : Int) (xs : List Int) (hF : IBk w g n xs) (h0 : 0 ≤ k) (h1 : k ≤ 1099511627776) (hn : n ≤ 1099511627776) :
    Calls Try.prog 98 #[.slice (some ⟨g, 0, none⟩) n cap, .int .i64 k] w fun e w' => e = .returned (.int .i64 (k + n)) ∧ (∃ ys, IBk w' g n ys ∧ ∀ i, i < n → ys.getD i 0 = k + i) ∧ Kept g (g + 1) w w' := by
  go_enter Try.func98, Try.ntmps98
  go_wp2_with fail
  go_loopw [1, 5] (fun kv i W => ∃ j : Nat, j ≤ n ∧ i = .int .i64 j ∧ kv = .int .i64 (k + j) ∧ Hid (∃ ys, IBk W g n ys ∧ ∀ i, i < j → ys.getD i 0 = k + i) ∧ Kept g (g + 1) w W) (fun _ i _ => n - (intOf i).toNat)
  case atStart => exact ⟨0, Nat.zero_le _, rfl, by simp, ⟨xs, hF, fun i hi => by omega⟩, Kept.refl _ _ _⟩
  case round =>
    obtain ⟨j, hj, rfl, rfl, hY, hKW⟩ := hrel
    obtain ⟨ys, hFW, hy⟩ := hY.out
    by_cases hlt : j < n
    · have c2 := hFW.at_ j hlt
      have c3 := hFW.free j
      have R1 : Hid (∃ ys, IBk (wr.setCell ⟨g, j, none⟩ (.int .i64 (k + (j : Int)))) g n ys ∧ ∀ i, i < j + 1 → ys.getD i 0 = k + i) := ⟨_, hFW.put j hlt (k + (j : Int)), fun i hi => by
        rw [getD_set ys 0 _ j i (by rw [hFW.len]; exact hlt)]
        by_cases e : i = j
        · subst e; rw [if_pos rfl]
        · rw [if_neg e]; exact hy i (by omega)⟩
      have R2 : Hid _ := hKW.trans (kept_setCell (lo := g) (hi := g + 1) wr ⟨g, j, none⟩ (.int .i64 (k + (j : Int))) (.inl ⟨Nat.le_refl _, Nat.lt_succ_self _⟩))
      clear hFW hKW hF hy hY
      go_wp2
      go_roundw
      case rel => exact ⟨j + 1, by omega, by go_num, by go_num, R1, R2.out⟩
      case measure => simp [intOf]; omega
    · obtain rfl : j = n := by omega
      clear hF hFW hy
      go_wp2
      go_ret
      exact ⟨rfl, hY.out, hKW⟩
set_option maxRecDepth 100000 in
set_option maxHeartbeats 1000000 in
theorem heldIO (w : World) (g n cap : Nat) (k : Int) (xs : List Int) (hF : IBk w g n xs) (hy : ∀ i, i < n → xs.getD i 0 = k + i) (h0 : 0 ≤ k) (h1 : k ≤ 1099511627776) (hn : n ≤ 1099511627776) :
    Calls Try.prog 106 #[.slice (some ⟨g, 0, none⟩) n cap, .int .i64 k] w fun e w' => e = .returned (.int .i64 (k + n)) ∧ Drawn w w' := by
  have HF : Hid _ := hF
  have HY : Hid _ := hy
  clear hF hy
  go_enter Try.func106, Try.ntmps106
  go_wp2_with fail
  go_loopw [1, 5] (fun kv i W => ∃ j : Nat, j ≤ n ∧ i = .int .i64 j ∧ kv = .int .i64 (k + j) ∧ Drawn w W) (fun _ i _ => n - (intOf i).toNat)
  case atStart => exact ⟨0, Nat.zero_le _, rfl, by simp, Drawn.refl _⟩
  case round =>
    obtain ⟨j, hj, rfl, rfl, HW⟩ := hrel
    by_cases hlt : j < n
    · have c2 : wr.cell? ⟨g, j, none⟩ = some (.int .i64 (k + j)) := by rw [HW.cell, ← HY.out j hlt]; exact HF.out.at_ j hlt
      have c3 : (k + (j : Int) != k + (j : Int)) = false := by simp
      go_wp2
      go_roundw
      case rel => exact ⟨j + 1, by omega, by go_num, by go_num, HW⟩
      case measure => simp [intOf]; omega
    · obtain rfl : j = n := by omega
      go_wp2
      go_ret
      exact ⟨rfl, HW⟩
/-- The marks of value i. -/
def vm (k : Int) : Vl := ⟨k, k + 1, k + 1 + 1, k + 1 + 1 + 1, k + 1 + 1 + 1 + 1, floatOfInt .f64 (k + 1 + 1 + 1 + 1 + 1)⟩
set_option maxRecDepth 100000 in
set_option maxHeartbeats 4000000 in
theorem markVA (w : World) (g n cap : Nat) (k : Int) (vs : List Vl) (hF : VA w g n vs) (h0 : 0 ≤ k) (h1 : k ≤ 1099511627776) (hn : n ≤ 1099511627776) :
    Calls Try.prog 99 #[.slice (some ⟨g, 0, none⟩) n cap, .int .i64 k] w fun e w' => e = .returned (.int .i64 (k + 6 * n)) ∧ (∃ ys, VA w' g n ys ∧ ∀ i, i < n → ys.getD i Vl.zero = vm (k + 6 * i)) ∧ Kept g (g + 1) w w' := by
  go_enter Try.func99, Try.ntmps99
  go_wp2_with fail
  go_loopw [1, 5] (fun kv i W => ∃ j : Nat, j ≤ n ∧ i = .int .i64 j ∧ kv = .int .i64 (k + 6 * j) ∧ Hid (∃ ys, VA W g n ys ∧ ∀ i, i < j → ys.getD i Vl.zero = vm (k + 6 * i)) ∧ Kept g (g + 1) w W) (fun _ i _ => n - (intOf i).toNat)
  case atStart => exact ⟨0, Nat.zero_le _, rfl, by simp, ⟨vs, hF, fun i hi => by omega⟩, Kept.refl _ _ _⟩
  case round =>
    obtain ⟨j, hj, rfl, rfl, hY, hKW⟩ := hrel
    obtain ⟨ys, hFW, hy⟩ := hY.out
    by_cases hlt : j < n
    · obtain ⟨d0, d1, d2, d3, d4, d5⟩ := hFW.at_ j hlt
      have c3 := hFW.free
      have R0 : Hid (∀ i, i < j + 1 → (ys.set j (vm (k + 6 * (j : Int)))).getD i Vl.zero = vm (k + 6 * i)) := fun i hi => by
        rw [getD_set ys Vl.zero _ j i (by rw [hFW.len]; exact hlt)]
        by_cases e : i = j
        · subst e; rw [if_pos rfl]
        · rw [if_neg e]; exact hy i (by omega)
      generalize hkk : k + 6 * (j : Int) = kk at R0
      have b0 : 0 ≤ kk := by omega
      have b1 : kk ≤ 10995116277760 := by omega
      have R1 : Hid _ := hFW.step j hlt ⟨kk, kk + 1, kk + 1 + 1, kk + 1 + 1 + 1, kk + 1 + 1 + 1 + 1, floatOfInt .f64 (kk + 1 + 1 + 1 + 1 + 1)⟩
      have R2 : Hid _ := hKW.trans (put6_kept wr g (j * 6) ⟨kk, kk + 1, kk + 1 + 1, kk + 1 + 1 + 1, kk + 1 + 1 + 1 + 1, floatOfInt .f64 (kk + 1 + 1 + 1 + 1 + 1)⟩)
      have R3 : Hid (k + 6 * (j : Int) = kk) := hkk
      clear hFW hKW hF hkk hy hY
      go_wp2
      go_roundw
      case rel => exact ⟨j + 1, by omega, by go_num, by have := R3.out; congr 1; omega, ⟨_, R1.out, R0.out⟩, R2.out⟩
      case measure => simp [intOf]; omega
    · obtain rfl : j = n := by omega
      clear hF hFW hy
      go_wp2
      go_ret
      exact ⟨rfl, hY.out, hKW⟩
set_option maxRecDepth 100000 in
set_option maxHeartbeats 4000000 in
theorem heldVA (w : World) (g n cap : Nat) (k : Int) (vs : List Vl) (hF : VA w g n vs) (hy : ∀ i, i < n → vs.getD i Vl.zero = vm (k + 6 * i)) (h0 : 0 ≤ k) (h1 : k ≤ 1099511627776) (hn : n ≤ 1099511627776) :
    Calls Try.prog 107 #[.slice (some ⟨g, 0, none⟩) n cap, .int .i64 k] w fun e w' => e = .returned (.int .i64 (k + 6 * n)) ∧ Drawn w w' := by
  have HF : Hid _ := hF
  have HY : Hid _ := hy
  clear hF hy
  go_enter Try.func107, Try.ntmps107
  go_wp2_with fail
  go_loopw [1, 5] (fun kv i W => ∃ j : Nat, j ≤ n ∧ i = .int .i64 j ∧ kv = .int .i64 (k + 6 * j) ∧ Drawn w W) (fun _ i _ => n - (intOf i).toNat)
  case atStart => exact ⟨0, Nat.zero_le _, rfl, by simp, Drawn.refl _⟩
  case round =>
    obtain ⟨j, hj, rfl, rfl, HW⟩ := hrel
    by_cases hlt : j < n
    · have hat := HF.out.at_ j hlt
      rw [HY.out j hlt] at hat
      obtain ⟨d0, d1, d2, d3, d4, d5⟩ := hat
      rw [← HW.cell] at d0 d1 d2 d3 d4 d5
      simp only [vm] at d0 d1 d2 d3 d4 d5
      generalize hkk : k + 6 * (j : Int) = kk at d0 d1 d2 d3 d4 d5
      have b0 : 0 ≤ kk := by omega
      have b1 : kk ≤ 10995116277760 := by omega
      have R3 : Hid (k + 6 * (j : Int) = kk) := hkk
      have e1 : ∀ x : Int, (x != x) = false := fun x => by simp
      have e2 := ofInt_num (kk + 1 + 1 + 1 + 1 + 1)
      clear hkk
      go_wp2
      go_roundw
      case rel => exact ⟨j + 1, by omega, by go_num, by have := R3.out; congr 1; omega, HW⟩
      case measure => simp [intOf]; omega
    · obtain rfl : j = n := by omega
      go_wp2
      go_ret
      exact ⟨rfl, HW⟩
end Go.Proofs.Ytpglbgejlpeckab
