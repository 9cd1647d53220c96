import Derived.Test.YtcphabjekfihnabGreatP05
namespace Go.Proofs.YtcphabjekfihnabGreat
open Go.RowKit Flt
attribute [local go_sem] alloc_drewN setCell_drewN run_store_float

abbrev gagg (a1 : Option Addr) (n1 c1 : Nat) (a2 : Option Addr) (n2 c2 : Nat) (a3 : Option Addr) (n3 c3 : Nat) : Value := .agg #[.slice a1 n1 c1, .slice a2 n2 c2, .slice a3 n3 c3]

set_option maxRecDepth 100000 in
set_option maxHeartbeats 1000000 in
theorem szGraph (w : World) (a1 a2 a3 : Option Addr) (n1 c1 n2 c2 n3 c3 : Nat) (left : Int) (h0 : 0 ≤ left) (h1 : left ≤ 1048576) (hn1 : n1 ≤ 9223372036854775807) (hn2 : n2 ≤ 9223372036854775807) (hn3 : n3 ≤ 9223372036854775807) :
    Calls Tryz.prog 5 #[gagg a1 n1 c1 a2 n2 c2 a3 n3 c3, .int .i64 left] w fun e w' => e = .returned (.int .i64 (if left - n1 - n2 - n3 < 0 then -1 else left - n1 - n2 - n3)) ∧ Kept 0 0 w w' := by
  have hs1 := szI
  have HS1 : Hid _ := hs1
  have HS2 : Hid _ := szV
  clear hs1
  by_cases g1 : left - n1 < 0
  · rw [if_pos (by omega)]
    go_enter Tryz.func5, Tryz.ntmps5
    go_wp2_with fail
    refine (HS1.out _ _ _ _ _ h0 h1 hn1).mono ?_
    rintro e w2 ⟨rfl, rfl⟩
    rw [show leftOf left n1 = -1 from if_pos (by omega)]
    go_wp2
    go_ret
    exact ⟨rfl, kept_alloc _ _ _ _⟩
  · by_cases g2 : left - n1 - n2 < 0
    · rw [if_pos (by omega)]
      go_enter Tryz.func5, Tryz.ntmps5
      go_wp2_with fail
      refine (HS1.out _ _ _ _ _ h0 h1 hn1).mono ?_
      rintro e w2 ⟨rfl, rfl⟩
      rw [show leftOf left n1 = left - n1 from if_neg (by omega)]
      go_wp2_with fail
      refine (HS2.out _ _ _ _ _ (by omega) (by omega) hn2).mono ?_
      rintro e w2 ⟨rfl, rfl⟩
      rw [show leftOf (left - n1) n2 = -1 from if_pos (by omega)]
      go_wp2
      go_ret
      exact ⟨rfl, kept_alloc _ _ _ _⟩
    · by_cases g3 : left - n1 - n2 - n3 < 0
      · rw [if_pos g3]
        go_enter Tryz.func5, Tryz.ntmps5
        go_wp2_with fail
        refine (HS1.out _ _ _ _ _ h0 h1 hn1).mono ?_
        rintro e w2 ⟨rfl, rfl⟩
        rw [show leftOf left n1 = left - n1 from if_neg (by omega)]
        go_wp2_with fail
        refine (HS2.out _ _ _ _ _ (by omega) (by omega) hn2).mono ?_
        rintro e w2 ⟨rfl, rfl⟩
        rw [show leftOf (left - n1) n2 = left - n1 - n2 from if_neg (by omega)]
        go_wp2_with fail
        refine (HS1.out _ _ _ _ _ (by omega) (by omega) hn3).mono ?_
        rintro e w2 ⟨rfl, rfl⟩
        rw [show leftOf (left - n1 - n2) n3 = -1 from if_pos (by omega)]
        go_wp2
        go_ret
        exact ⟨rfl, kept_alloc _ _ _ _⟩
      · rw [if_neg g3]
        go_enter Tryz.func5, Tryz.ntmps5
        go_wp2_with fail
        refine (HS1.out _ _ _ _ _ h0 h1 hn1).mono ?_
        rintro e w2 ⟨rfl, rfl⟩
        rw [show leftOf left n1 = left - n1 from if_neg (by omega)]
        go_wp2_with fail
        refine (HS2.out _ _ _ _ _ (by omega) (by omega) hn2).mono ?_
        rintro e w2 ⟨rfl, rfl⟩
        rw [show leftOf (left - n1) n2 = left - n1 - n2 from if_neg (by omega)]
        go_wp2_with fail
        refine (HS1.out _ _ _ _ _ (by omega) (by omega) hn3).mono ?_
        rintro e w2 ⟨rfl, rfl⟩
        rw [show leftOf (left - n1 - n2) n3 = left - n1 - n2 - n3 from if_neg (by omega)]
        go_wp2
        go_ret
        exact ⟨rfl, kept_alloc _ _ _ _⟩

/-- A graph that came in or lies somewhere: its three lists. -/
structure GS (w : World) (a1 : Option Addr) (n1 : Nat) (a2 : Option Addr) (n2 : Nat) (a3 : Option Addr) (n3 : Nat) (ins : List Int) (vs : List Vl) (outs : List Int) : Prop where
  i : IS w 0 w.heap.size a1 n1 ins
  v : VS w 0 w.heap.size a2 n2 vs
  o : IS w 0 w.heap.size a3 n3 outs
theorem IS.mono {w : World} {lo hi lo' hi' : Nat} {a : Option Addr} {n : Nat} {xs : List Int} (f : IS w lo hi a n xs) (h1 : lo' ≤ lo) (h2 : hi ≤ hi') : IS w lo' hi' a n xs :=
  ⟨f.len, by
    rcases f.at_ with h0 | ⟨g, off, e, a1, a2, a3, a4⟩
    · exact .inl h0
    · exact .inr ⟨g, off, e, by omega, by omega, a3, a4⟩⟩
theorem VS.mono {w : World} {lo hi lo' hi' : Nat} {a : Option Addr} {n : Nat} {vs : List Vl} (f : VS w lo hi a n vs) (h1 : lo' ≤ lo) (h2 : hi ≤ hi') : VS w lo' hi' a n vs :=
  ⟨f.len, f.lt, by
    rcases f.at_ with h0 | ⟨g, off, e, a1, a2, a3, a4⟩
    · exact .inl h0
    · exact .inr ⟨g, off, e, by omega, by omega, a3, a4⟩⟩
theorem GS.keep {w w' : World} {a1 a2 a3 : Option Addr} {n1 n2 n3 : Nat} {ins : List Int} {vs : List Vl} {outs : List Int} (f : GS w a1 n1 a2 n2 a3 n3 ins vs outs) (k : Kept 0 0 w w') : GS w' a1 n1 a2 n2 a3 n3 ins vs outs :=
  ⟨(f.i.keep k (.inr (.inr (Nat.le_refl _)))).mono (Nat.le_refl _) k.size, (f.v.keep k (.inr (.inr (Nat.le_refl _)))).mono (Nat.le_refl _) k.size, (f.o.keep k (.inr (.inr (Nat.le_refl _)))).mono (Nat.le_refl _) k.size⟩

/-- A graph in new memory: three blocks of its own. -/
structure GO (w : World) (lo : Nat) (g1 g2 g3 : Nat) (n2 : Nat) (ins : List Int) (vs : List Vl) (outs : List Int) : Prop where
  i : IR w g1 ins
  v : VA w g2 n2 vs
  o : IR w g3 outs
  l1 : lo ≤ g1
  l2 : g1 < g2
  l3 : g2 < g3
/-- A block whose first cells are ints. -/
structure IE (w : World) (g : Nat) (xs : List Int) : Prop where
  lt : g < w.heap.size
  cell : ∀ k, k < xs.length → w.cell? ⟨g, k, none⟩ = some (.int .i64 (xs.getD k 0))
theorem IR.ie {w : World} {g : Nat} {xs : List Int} (h : IR w g xs) : IE w g xs := ⟨h.lt, h.cell⟩
theorem IE.keep {w w' : World} {g l h : Nat} {xs : List Int} (f : IE w g xs) (k : Kept l h w w') (hd : g < l ∨ h ≤ g ∨ h ≤ l) : IE w' g xs :=
  ⟨Nat.lt_of_lt_of_le f.lt k.size, fun j hj => by rw [k.cell (p := ⟨g, j, none⟩) f.lt (by show ¬ (l ≤ g ∧ g < h); omega)]; exact f.cell j hj⟩
theorem IE.drewN {w : World} {g : Nat} {xs : List Int} (h : IE w g xs) (m : Nat) : IE (w.drewN m) g xs := h.keep (kept_drewN 0 0 w m) (.inr (.inr (Nat.le_refl _)))
theorem IE.is {w : World} {g : Nat} {xs : List Int} (h : IE w g xs) : IS w 0 w.heap.size (some ⟨g, 0, none⟩) xs.length xs :=
  ⟨rfl, .inr ⟨g, 0, rfl, Nat.zero_le _, h.lt, h.lt, fun k hk => by rw [Nat.zero_add]; exact h.cell k hk⟩⟩
/-- The same, its blocks in any order and with room. -/
structure GN (w : World) (g1 g2 g3 : Nat) (n2 : Nat) (ins : List Int) (vs : List Vl) (outs : List Int) : Prop where
  i : IE w g1 ins
  v : VA w g2 n2 vs
  o : IE w g3 outs
theorem GO.gn {w : World} {lo g1 g2 g3 n2 : Nat} {ins : List Int} {vs : List Vl} {outs : List Int} (f : GO w lo g1 g2 g3 n2 ins vs outs) : GN w g1 g2 g3 n2 ins vs outs := ⟨f.i.ie, f.v, f.o.ie⟩
theorem GN.gs {w : World} {g1 g2 g3 n2 : Nat} {ins : List Int} {vs : List Vl} {outs : List Int} (f : GN w g1 g2 g3 n2 ins vs outs) (hl : ∀ v ∈ vs, v.k < 18446744073709551616) :
    GS w (some ⟨g1, 0, none⟩) ins.length (some ⟨g2, 0, none⟩) n2 (some ⟨g3, 0, none⟩) outs.length ins vs outs := ⟨f.i.is, f.v.vs hl, f.o.is⟩
theorem GO.gs {w : World} {lo g1 g2 g3 n2 : Nat} {ins : List Int} {vs : List Vl} {outs : List Int} (f : GO w lo g1 g2 g3 n2 ins vs outs) (hl : ∀ v ∈ vs, v.k < 18446744073709551616) :
    GS w (some ⟨g1, 0, none⟩) ins.length (some ⟨g2, 0, none⟩) n2 (some ⟨g3, 0, none⟩) outs.length ins vs outs := ⟨f.i.is, f.v.vs hl, f.o.is⟩

/-- The three boxes of toGraph while it goes. -/
structure TG (W : World) (p : Nat) (b0 b1 b2 s0 s1 s2 : Value) : Prop where
  sz : p + 2 < W.heap.size
  q0 : W.cell? ⟨p, 0, none⟩ = some b0
  q1 : W.cell? ⟨p, 1, none⟩ = some b1
  q2 : W.cell? ⟨p, 2, none⟩ = some b2
  r0 : W.cell? ⟨p + 1, 0, none⟩ = some (.slice none 0 0)
  r1 : W.cell? ⟨p + 1, 1, none⟩ = some (.slice none 0 0)
  r2 : W.cell? ⟨p + 1, 2, none⟩ = some (.slice none 0 0)
  o0 : W.cell? ⟨p + 1 + 1, 0, none⟩ = some s0
  o1 : W.cell? ⟨p + 1 + 1, 1, none⟩ = some s1
  o2 : W.cell? ⟨p + 1 + 1, 2, none⟩ = some s2
  f1 : ∀ o, W.frozen? ⟨p + 1, o, none⟩ = false
  f2 : ∀ o, W.frozen? ⟨p + 1 + 1, o, none⟩ = false
theorem TG.keep {W W' : World} {p : Nat} {b0 b1 b2 s0 s1 s2 : Value} (t : TG W p b0 b1 b2 s0 s1 s2) (k : Kept 0 0 W W') : TG W' p b0 b1 b2 s0 s1 s2 := by
  have e : ∀ g o, g ≤ p + 2 → W'.cell? ⟨g, o, none⟩ = W.cell? ⟨g, o, none⟩ := fun g o h => k.cell (p := ⟨g, o, none⟩) (Nat.lt_of_le_of_lt h t.sz) (by omega)
  have f : ∀ g o, g ≤ p + 2 → W'.frozen? ⟨g, o, none⟩ = W.frozen? ⟨g, o, none⟩ := fun g o h => k.frozen (p := ⟨g, o, none⟩) (Nat.lt_of_le_of_lt h t.sz) (by omega)
  exact ⟨Nat.lt_of_lt_of_le t.sz k.size, by rw [e _ _ (by omega)]; exact t.q0, by rw [e _ _ (by omega)]; exact t.q1, by rw [e _ _ (by omega)]; exact t.q2, by rw [e _ _ (by omega)]; exact t.r0, by rw [e _ _ (by omega)]; exact t.r1, by rw [e _ _ (by omega)]; exact t.r2, by rw [e _ _ (by omega)]; exact t.o0, by rw [e _ _ (by omega)]; exact t.o1, by rw [e _ _ (by omega)]; exact t.o2, fun o => by rw [f _ _ (by omega)]; exact t.f1 o, fun o => by rw [f _ _ (by omega)]; exact t.f2 o⟩
theorem TG.put0 {W : World} {p : Nat} {b0 b1 b2 s0 s1 s2 : Value} (t : TG W p b0 b1 b2 s0 s1 s2) (v : Value) : TG (W.setCell ⟨p + 1 + 1, 0, none⟩ v) p b0 b1 b2 v s1 s2 :=
  ⟨by simpa using t.sz, by rw [cell_ne _ _ _ _ _ _ (by omega)]; exact t.q0, by rw [cell_ne _ _ _ _ _ _ (by omega)]; exact t.q1, by rw [cell_ne _ _ _ _ _ _ (by omega)]; exact t.q2, by rw [cell_ne _ _ _ _ _ _ (by omega)]; exact t.r0, by rw [cell_ne _ _ _ _ _ _ (by omega)]; exact t.r1, by rw [cell_ne _ _ _ _ _ _ (by omega)]; exact t.r2, cell_eq _ _ _ _ _ t.o0, by rw [cell_ne _ _ _ _ _ _ (by omega)]; exact t.o1, by rw [cell_ne _ _ _ _ _ _ (by omega)]; exact t.o2, fun o => by simp [t.f1 o], fun o => by simp [t.f2 o]⟩
theorem TG.put1 {W : World} {p : Nat} {b0 b1 b2 s0 s1 s2 : Value} (t : TG W p b0 b1 b2 s0 s1 s2) (v : Value) : TG (W.setCell ⟨p + 1 + 1, 1, none⟩ v) p b0 b1 b2 s0 v s2 :=
  ⟨by simpa using t.sz, by rw [cell_ne _ _ _ _ _ _ (by omega)]; exact t.q0, by rw [cell_ne _ _ _ _ _ _ (by omega)]; exact t.q1, by rw [cell_ne _ _ _ _ _ _ (by omega)]; exact t.q2, by rw [cell_ne _ _ _ _ _ _ (by omega)]; exact t.r0, by rw [cell_ne _ _ _ _ _ _ (by omega)]; exact t.r1, by rw [cell_ne _ _ _ _ _ _ (by omega)]; exact t.r2, by rw [cell_ne _ _ _ _ _ _ (by omega)]; exact t.o0, cell_eq _ _ _ _ _ t.o1, by rw [cell_ne _ _ _ _ _ _ (by omega)]; exact t.o2, fun o => by simp [t.f1 o], fun o => by simp [t.f2 o]⟩
theorem TG.put2 {W : World} {p : Nat} {b0 b1 b2 s0 s1 s2 : Value} (t : TG W p b0 b1 b2 s0 s1 s2) (v : Value) : TG (W.setCell ⟨p + 1 + 1, 2, none⟩ v) p b0 b1 b2 s0 s1 v :=
  ⟨by simpa using t.sz, by rw [cell_ne _ _ _ _ _ _ (by omega)]; exact t.q0, by rw [cell_ne _ _ _ _ _ _ (by omega)]; exact t.q1, by rw [cell_ne _ _ _ _ _ _ (by omega)]; exact t.q2, by rw [cell_ne _ _ _ _ _ _ (by omega)]; exact t.r0, by rw [cell_ne _ _ _ _ _ _ (by omega)]; exact t.r1, by rw [cell_ne _ _ _ _ _ _ (by omega)]; exact t.r2, by rw [cell_ne _ _ _ _ _ _ (by omega)]; exact t.o0, by rw [cell_ne _ _ _ _ _ _ (by omega)]; exact t.o1, cell_eq _ _ _ _ _ t.o2, fun o => by simp [t.f1 o], fun o => by simp [t.f2 o]⟩
theorem tg_start (w : World) (b0 b1 b2 : Value) : TG (((w.alloc (.cells #[b0, b1, b2] 25)).alloc (.cells #[.slice none 0 0, .slice none 0 0, .slice none 0 0] 29)).alloc (.cells #[.slice none 0 0, .slice none 0 0, .slice none 0 0] 29)) w.heap.size b0 b1 b2 (.slice none 0 0) (.slice none 0 0) (.slice none 0 0) := by
  have h1 : (w.alloc (.cells #[b0, b1, b2] 25)).heap.size = w.heap.size + 1 := by simp
  have h2 : ((w.alloc (.cells #[b0, b1, b2] 25)).alloc (.cells #[.slice none 0 0, .slice none 0 0, .slice none 0 0] 29)).heap.size = w.heap.size + 1 + 1 := by simp
  constructor
  all_goals first | (go_simp; done) | (simp; done) | (intro o; simp; done)
theorem put3_kept (w : World) (g : Nat) (x y z : Value) : Kept g (g + 1) w (((w.setCell ⟨g, 0, none⟩ x).setCell ⟨g, 1, none⟩ y).setCell ⟨g, 2, none⟩ z) := by
  have k : ∀ (w : World) (a : Nat) (u : Value), Kept g (g + 1) w (w.setCell ⟨g, a, none⟩ u) := fun w a u => kept_setCell w ⟨g, a, none⟩ u (.inl ⟨Nat.le_refl _, Nat.lt_succ_self _⟩)
  exact ((k _ _ _).trans (k _ _ _)).trans (k _ _ _)
theorem kept_put (w W : World) (k : Kept 0 0 w W) (g o : Nat) (v : Value) (h : w.heap.size ≤ g) : Kept 0 0 w (W.setCell ⟨g, o, none⟩ v) :=
  k.new (kept_setCell (lo := g) (hi := g + 1) W ⟨g, o, none⟩ v (.inl ⟨Nat.le_refl _, Nat.lt_succ_self _⟩)) h

set_option maxRecDepth 100000 in
set_option maxHeartbeats 2000000 in
theorem toGraph (w : World) (a1 a2 a3 : Option Addr) (n1 c1 n2 c2 n3 c3 : Nat) (ins : List Int) (vs : List Vl) (outs : List Int) (f : GS w a1 n1 a2 n2 a3 n3 ins vs outs) (h1 : n1 ≤ 1048576) (h2 : n2 ≤ 1048576) (h3 : n3 ≤ 1048576) :
    Calls Tryz.prog 7 #[gagg a1 n1 c1 a2 n2 c2 a3 n3 c3] w fun e w' => ∃ g1 g2 g3, e = .returned (gagg (some ⟨g1, 0, none⟩) n1 n1 (some ⟨g2, 0, none⟩) n2 n2 (some ⟨g3, 0, none⟩) n3 n3) ∧ GO w' w.heap.size g1 g2 g3 n2 ins vs outs ∧ Kept 0 0 w w' := by
  have hT := tg_start w (.slice a1 n1 c1) (.slice a2 n2 c2) (.slice a3 n3 c3)
  have hK := ((kept_alloc 0 0 w (.cells #[.slice a1 n1 c1, .slice a2 n2 c2, .slice a3 n3 c3] 25)).trans (kept_alloc 0 0 _ (.cells #[.slice none 0 0, .slice none 0 0, .slice none 0 0] 29))).trans (kept_alloc 0 0 _ (.cells #[.slice none 0 0, .slice none 0 0, .slice none 0 0] 29))
  have fi := f.i.keep hK (.inr (.inr (Nat.le_refl _)))
  have fv := f.v.keep hK (.inr (.inr (Nat.le_refl _)))
  have fo := f.o.keep hK (.inr (.inr (Nat.le_refl _)))
  have HL : Hid (∀ v ∈ vs, v.k < 18446744073709551616) := f.v.lt
  clear f
  go_enter Tryz.func7, Tryz.ntmps7
  go_wp2_with fail
  generalize hw3 : ((w.alloc (.cells #[.slice a1 n1 c1, .slice a2 n2 c2, .slice a3 n3 c3] 25)).alloc (.cells #[.slice none 0 0, .slice none 0 0, .slice none 0 0] 29)).alloc (.cells #[.slice none 0 0, .slice none 0 0, .slice none 0 0] 29) = w3 at hT hK fi fv fo ⊢
  clear hw3
  have Z3 : Hid (w.heap.size + 2 < w3.heap.size) := hT.sz
  refine (toI _ _ _ _ _ _ _ fi h1).mono ?_
  rintro e w4 ⟨rfl, r1, k4⟩
  clear fi
  replace hT := hT.keep k4
  replace fv := fv.keep k4 (.inr (.inr (Nat.le_refl _)))
  replace fo := fo.keep k4 (.inr (.inr (Nat.le_refl _)))
  replace hK := hK.trans k4
  have Z4 : Hid (w3.heap.size < w4.heap.size) := r1.lt
  clear k4
  have pk := kept_setCell (lo := w.heap.size + 1 + 1) (hi := w.heap.size + 1 + 1 + 1) w4 ⟨w.heap.size + 1 + 1, 0, none⟩ (.slice (some ⟨w3.heap.size, 0, none⟩) n1 n1) (.inl ⟨Nat.le_refl _, Nat.lt_succ_self _⟩)
  replace r1 := r1.keep pk (by have := Z3.out; omega)
  replace fv := fv.keep pk (.inl (by omega))
  replace fo := fo.keep pk (.inl (by omega))
  replace hK := hK.new pk (by omega)
  have o0 := hT.o0
  have q1 := hT.q1
  have f2 := hT.f2
  replace hT := hT.put0 (.slice (some ⟨w3.heap.size, 0, none⟩) n1 n1)
  have S4 : Hid ((w4.setCell ⟨w.heap.size + 1 + 1, 0, none⟩ (.slice (some ⟨w3.heap.size, 0, none⟩) n1 n1)).heap.size = w4.heap.size) := World.size_setCell ..
  clear pk
  go_wp2_with fail
  clear o0 q1 f2
  generalize hw5 : w4.setCell ⟨w.heap.size + 1 + 1, 0, none⟩ (.slice (some ⟨w3.heap.size, 0, none⟩) n1 n1) = w5 at hT hK r1 fv fo S4 ⊢
  clear hw5
  refine (toVS _ _ _ _ _ _ _ fv h2).mono ?_
  rintro e w6 ⟨rfl, r2, k6⟩
  clear fv
  replace hT := hT.keep k6
  replace fo := fo.keep k6 (.inr (.inr (Nat.le_refl _)))
  replace r1 := r1.keep k6 (.inr (.inr (Nat.le_refl _)))
  replace hK := hK.trans k6
  have Z6 : Hid (w5.heap.size < w6.heap.size) := r2.lt
  clear k6
  have pk := kept_setCell (lo := w.heap.size + 1 + 1) (hi := w.heap.size + 1 + 1 + 1) w6 ⟨w.heap.size + 1 + 1, 1, none⟩ (.slice (some ⟨w5.heap.size, 0, none⟩) n2 n2) (.inl ⟨Nat.le_refl _, Nat.lt_succ_self _⟩)
  replace r1 := r1.keep pk (by have := Z3.out; omega)
  replace r2 := r2.keep pk (by have := Z3.out; have := Z4.out; have := S4.out; omega)
  replace fo := fo.keep pk (.inl (by omega))
  replace hK := hK.new pk (by omega)
  have o1 := hT.o1
  have q2 := hT.q2
  have f2 := hT.f2
  replace hT := hT.put1 (.slice (some ⟨w5.heap.size, 0, none⟩) n2 n2)
  have S6 : Hid ((w6.setCell ⟨w.heap.size + 1 + 1, 1, none⟩ (.slice (some ⟨w5.heap.size, 0, none⟩) n2 n2)).heap.size = w6.heap.size) := World.size_setCell ..
  clear pk
  go_wp2_with fail
  clear o1 q2 f2
  generalize hw7 : w6.setCell ⟨w.heap.size + 1 + 1, 1, none⟩ (.slice (some ⟨w5.heap.size, 0, none⟩) n2 n2) = w7 at hT hK r1 r2 fo S6 ⊢
  clear hw7
  refine (toI _ _ _ _ _ _ _ fo h3).mono ?_
  rintro e w8 ⟨rfl, r3, k8⟩
  clear fo
  replace hT := hT.keep k8
  replace r1 := r1.keep k8 (.inr (.inr (Nat.le_refl _)))
  replace r2 := r2.keep k8 (.inr (.inr (Nat.le_refl _)))
  replace hK := hK.trans k8
  clear k8
  have pk := kept_setCell (lo := w.heap.size + 1 + 1) (hi := w.heap.size + 1 + 1 + 1) w8 ⟨w.heap.size + 1 + 1, 2, none⟩ (.slice (some ⟨w7.heap.size, 0, none⟩) n3 n3) (.inl ⟨Nat.le_refl _, Nat.lt_succ_self _⟩)
  have o2 := hT.o2
  have o0 := hT.o0
  have o1 := hT.o1
  have f2 := hT.f2
  have f1 := hT.f1
  have d0 := hT.r0
  have d1 := hT.r1
  have d2 := hT.r2
  have ps := put3_kept (w8.setCell ⟨w.heap.size + 1 + 1, 2, none⟩ (.slice (some ⟨w7.heap.size, 0, none⟩) n3 n3)) (w.heap.size + 1) (.slice (some ⟨w3.heap.size, 0, none⟩) n1 n1) (.slice (some ⟨w5.heap.size, 0, none⟩) n2 n2) (.slice (some ⟨w7.heap.size, 0, none⟩) n3 n3)
  have GZ : Hid (w.heap.size + 2 < w3.heap.size ∧ w3.heap.size < w5.heap.size ∧ w5.heap.size < w7.heap.size) := ⟨Z3.out, by rw [S4.out]; exact Z4.out, by rw [S6.out]; exact Z6.out⟩
  replace r1 := (r1.keep pk (by have := GZ.out; omega)).keep ps (by have := GZ.out; omega)
  replace r2 := (r2.keep pk (by have := GZ.out; omega)).keep ps (by have := GZ.out; omega)
  replace r3 := (r3.keep pk (by have := GZ.out; omega)).keep ps (by have := GZ.out; omega)
  replace hK := (hK.new pk (by omega)).new ps (by omega)
  clear pk ps hT Z3 Z4 Z6 S4 S6
  go_wp2
  refine bodyPost_ret (v := gagg (some ⟨w3.heap.size, 0, none⟩) n1 n1 (some ⟨w5.heap.size, 0, none⟩) n2 n2 (some ⟨w7.heap.size, 0, none⟩) n3 n3) (by simp [results, Tryz.results7, go_sem, d0, d1, d2]) rfl ⟨_, _, _, rfl, ⟨r1, r2, r3, ?_, ?_, ?_⟩, hK⟩
  · have := GZ.out; omega
  · exact GZ.out.2.1
  · exact GZ.out.2.2

/-- The two boxes of eqGraph. -/
structure EG (W : World) (p : Nat) (b0 b1 b2 s0 s1 s2 : Value) : Prop where
  sz : p + 1 < W.heap.size
  q0 : W.cell? ⟨p, 0, none⟩ = some b0
  q1 : W.cell? ⟨p, 1, none⟩ = some b1
  q2 : W.cell? ⟨p, 2, none⟩ = some b2
  r0 : W.cell? ⟨p + 1, 0, none⟩ = some s0
  r1 : W.cell? ⟨p + 1, 1, none⟩ = some s1
  r2 : W.cell? ⟨p + 1, 2, none⟩ = some s2
theorem EG.keep {W W' : World} {p : Nat} {b0 b1 b2 s0 s1 s2 : Value} (t : EG W p b0 b1 b2 s0 s1 s2) (k : Kept 0 0 W W') : EG W' p b0 b1 b2 s0 s1 s2 := by
  have e : ∀ g o, g ≤ p + 1 → W'.cell? ⟨g, o, none⟩ = W.cell? ⟨g, o, none⟩ := fun g o h => k.cell (p := ⟨g, o, none⟩) (Nat.lt_of_le_of_lt h t.sz) (by omega)
  exact ⟨Nat.lt_of_lt_of_le t.sz k.size, by rw [e _ _ (by omega)]; exact t.q0, by rw [e _ _ (by omega)]; exact t.q1, by rw [e _ _ (by omega)]; exact t.q2, by rw [e _ _ (by omega)]; exact t.r0, by rw [e _ _ (by omega)]; exact t.r1, by rw [e _ _ (by omega)]; exact t.r2⟩
theorem eg_start (w : World) (b0 b1 b2 s0 s1 s2 : Value) : EG ((w.alloc (.cells #[b0, b1, b2] 29)).alloc (.cells #[s0, s1, s2] 29)) w.heap.size b0 b1 b2 s0 s1 s2 := by
  have h1 : (w.alloc (.cells #[b0, b1, b2] 29)).heap.size = w.heap.size + 1 := by simp
  constructor
  all_goals first | (go_simp; done) | (simp; done)

set_option maxRecDepth 100000 in
set_option maxHeartbeats 2000000 in
theorem eqGraph (w : World) (a1 a2 a3 a1' a2' a3' : Option Addr) (n1 c1 n2 c2 n3 c3 c1' c2' c3' : Nat) (ins : List Int) (vs : List Vl) (outs : List Int) (f : GS w a1 n1 a2 n2 a3 n3 ins vs outs) (g : GS w a1' n1 a2' n2 a3' n3 ins vs outs) (h1 : n1 ≤ 1048576) (h2 : n2 ≤ 1048576) (h3 : n3 ≤ 1048576) :
    Calls Tryz.prog 9 #[gagg a1 n1 c1 a2 n2 c2 a3 n3 c3, gagg a1' n1 c1' a2' n2 c2' a3' n3 c3'] w fun e w' => e = .returned (.bool true) ∧ Kept 0 0 w w' := by
  have hK := (kept_alloc 0 0 w (.cells #[.slice a1 n1 c1, .slice a2 n2 c2, .slice a3 n3 c3] 29)).trans (kept_alloc 0 0 _ (.cells #[.slice a1' n1 c1', .slice a2' n2 c2', .slice a3' n3 c3'] 29))
  have hB := eg_start w (.slice a1 n1 c1) (.slice a2 n2 c2) (.slice a3 n3 c3) (.slice a1' n1 c1') (.slice a2' n2 c2') (.slice a3' n3 c3')
  have f' := f.keep hK
  have g' := g.keep hK
  clear f g
  go_enter Tryz.func9, Tryz.ntmps9
  go_wp2_with fail
  generalize hw3 : (w.alloc (.cells #[.slice a1 n1 c1, .slice a2 n2 c2, .slice a3 n3 c3] 29)).alloc (.cells #[.slice a1' n1 c1', .slice a2' n2 c2', .slice a3' n3 c3'] 29) = w3 at hB hK f' g' ⊢
  clear hw3
  refine (eqI _ _ _ _ _ _ _ _ _ _ _ f'.i g'.i (by omega)).mono ?_
  rintro e w4 ⟨rfl, k4'⟩
  have k4 := k4'.kept 0 0
  clear k4'
  replace hB := hB.keep k4
  replace f' := f'.keep k4
  replace g' := g'.keep k4
  replace hK := hK.trans k4
  clear k4
  have q1 := hB.q1
  have q2 := hB.r1
  go_wp2_with fail
  clear q1 q2
  refine (eqVS _ _ _ _ _ _ _ _ _ _ _ f'.v g'.v (by omega)).mono ?_
  rintro e w5 ⟨rfl, k5⟩
  replace hB := hB.keep k5
  replace f' := f'.keep k5
  replace g' := g'.keep k5
  replace hK := hK.trans k5
  clear k5
  have q1 := hB.q2
  have q2 := hB.r2
  go_wp2_with fail
  clear q1 q2
  refine (eqI _ _ _ _ _ _ _ _ _ _ _ f'.o g'.o (by omega)).mono ?_
  rintro e w6 ⟨rfl, k6'⟩
  have k6 := k6'.kept 0 0
  replace hK := hK.trans k6
  clear k6' k6 hB f' g'
  go_wp2
  go_ret
  exact ⟨rfl, hK⟩
end Go.Proofs.YtcphabjekfihnabGreat
