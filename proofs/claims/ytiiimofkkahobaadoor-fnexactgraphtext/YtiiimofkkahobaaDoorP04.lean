import Derived.Test.YtiiimofkkahobaaDoorP03
import Derived.Test.YtiiimofkkahobaaDoorP01
import Derived.Test.YtiiimofkkahobaaDoorP02
import Derived.Deep.RegionWith
import Derived.Deep.DeepCutAuto
import Derived.Deep.RegionHeld3
namespace Go.Proofs.YtiiimofkkahobaaDoor
open Go.RowKit Flt
attribute [local go_sem] alloc_drewN setCell_drewN run_store_float

abbrev gagg (a1 : Option Addr) (n1 c1 : Nat) (a2 : Option Addr) (n2 c2 : Nat) (a3 : Option Addr) (n3 c3 : Nat) : Value := .agg #[.slice a1 n1 c1, .slice a2 n2 c2, .slice a3 n3 c3]

set_option maxRecDepth 100000 in
set_option maxHeartbeats 1000000 in
theorem szGraph (w : World) (a1 a2 a3 : Option Addr) (n1 c1 n2 c2 n3 c3 : Nat) (left : Int) (h0 : 0 ≤ left) (h1 : left ≤ 1048576) (hn1 : n1 ≤ 9223372036854775807) (hn2 : n2 ≤ 9223372036854775807) (hn3 : n3 ≤ 9223372036854775807) :
    Calls Tryd.prog 4 #[gagg a1 n1 c1 a2 n2 c2 a3 n3 c3, .int .i64 left] w fun e w' => e = .returned (.int .i64 (if left - n1 - n2 - n3 < 0 then -1 else left - n1 - n2 - n3)) ∧ Kept 0 0 w w' := by
  have hs1 := szI
  have HS1 : Hid _ := hs1
  have HS2 : Hid _ := szV
  clear hs1
  by_cases g1 : left - n1 < 0
  · rw [if_pos (by omega)]
    go_enter Tryd.func4, Tryd.ntmps4
    go_wp2_with fail
    refine (HS1.out _ _ _ _ _ h0 h1 hn1).mono ?_
    rintro e w2 ⟨rfl, rfl⟩
    rw [show leftOf left n1 = -1 from if_pos (by omega)]
    go_wp2
    go_ret
    exact ⟨rfl, kept_alloc _ _ _ _⟩
  · by_cases g2 : left - n1 - n2 < 0
    · rw [if_pos (by omega)]
      go_enter Tryd.func4, Tryd.ntmps4
      go_wp2_with fail
      refine (HS1.out _ _ _ _ _ h0 h1 hn1).mono ?_
      rintro e w2 ⟨rfl, rfl⟩
      rw [show leftOf left n1 = left - n1 from if_neg (by omega)]
      go_wp2_with fail
      refine (HS2.out _ _ _ _ _ (by omega) (by omega) hn2).mono ?_
      rintro e w2 ⟨rfl, rfl⟩
      rw [show leftOf (left - n1) n2 = -1 from if_pos (by omega)]
      go_wp2
      go_ret
      exact ⟨rfl, kept_alloc _ _ _ _⟩
    · by_cases g3 : left - n1 - n2 - n3 < 0
      · rw [if_pos g3]
        go_enter Tryd.func4, Tryd.ntmps4
        go_wp2_with fail
        refine (HS1.out _ _ _ _ _ h0 h1 hn1).mono ?_
        rintro e w2 ⟨rfl, rfl⟩
        rw [show leftOf left n1 = left - n1 from if_neg (by omega)]
        go_wp2_with fail
        refine (HS2.out _ _ _ _ _ (by omega) (by omega) hn2).mono ?_
        rintro e w2 ⟨rfl, rfl⟩
        rw [show leftOf (left - n1) n2 = left - n1 - n2 from if_neg (by omega)]
        go_wp2_with fail
        refine (HS1.out _ _ _ _ _ (by omega) (by omega) hn3).mono ?_
        rintro e w2 ⟨rfl, rfl⟩
        rw [show leftOf (left - n1 - n2) n3 = -1 from if_pos (by omega)]
        go_wp2
        go_ret
        exact ⟨rfl, kept_alloc _ _ _ _⟩
      · rw [if_neg g3]
        go_enter Tryd.func4, Tryd.ntmps4
        go_wp2_with fail
        refine (HS1.out _ _ _ _ _ h0 h1 hn1).mono ?_
        rintro e w2 ⟨rfl, rfl⟩
        rw [show leftOf left n1 = left - n1 from if_neg (by omega)]
        go_wp2_with fail
        refine (HS2.out _ _ _ _ _ (by omega) (by omega) hn2).mono ?_
        rintro e w2 ⟨rfl, rfl⟩
        rw [show leftOf (left - n1) n2 = left - n1 - n2 from if_neg (by omega)]
        go_wp2_with fail
        refine (HS1.out _ _ _ _ _ (by omega) (by omega) hn3).mono ?_
        rintro e w2 ⟨rfl, rfl⟩
        rw [show leftOf (left - n1 - n2) n3 = left - n1 - n2 - n3 from if_neg (by omega)]
        go_wp2
        go_ret
        exact ⟨rfl, kept_alloc _ _ _ _⟩

/-- A graph that came in or lies somewhere: its three lists. -/
structure GS (w : World) (a1 : Option Addr) (n1 : Nat) (a2 : Option Addr) (n2 : Nat) (a3 : Option Addr) (n3 : Nat) (ins : List Int) (vs : List Vl) (outs : List Int) : Prop where
  i : IS w 0 w.heap.size a1 n1 ins
  v : VS w 0 w.heap.size a2 n2 vs
  o : IS w 0 w.heap.size a3 n3 outs
theorem IS.mono {w : World} {lo hi lo' hi' : Nat} {a : Option Addr} {n : Nat} {xs : List Int} (f : IS w lo hi a n xs) (h1 : lo' ≤ lo) (h2 : hi ≤ hi') : IS w lo' hi' a n xs :=
  ⟨f.len, by
    rcases f.at_ with h0 | ⟨g, off, e, a1, a2, a3, a4⟩
    · exact .inl h0
    · exact .inr ⟨g, off, e, by omega, by omega, a3, a4⟩⟩
theorem VS.mono {w : World} {lo hi lo' hi' : Nat} {a : Option Addr} {n : Nat} {vs : List Vl} (f : VS w lo hi a n vs) (h1 : lo' ≤ lo) (h2 : hi ≤ hi') : VS w lo' hi' a n vs :=
  ⟨f.len, f.lt, by
    rcases f.at_ with h0 | ⟨g, off, e, a1, a2, a3, a4⟩
    · exact .inl h0
    · exact .inr ⟨g, off, e, by omega, by omega, a3, a4⟩⟩
theorem GS.keep {w w' : World} {a1 a2 a3 : Option Addr} {n1 n2 n3 : Nat} {ins : List Int} {vs : List Vl} {outs : List Int} (f : GS w a1 n1 a2 n2 a3 n3 ins vs outs) (k : Kept 0 0 w w') : GS w' a1 n1 a2 n2 a3 n3 ins vs outs :=
  ⟨(f.i.keep k (.inr (.inr (Nat.le_refl _)))).mono (Nat.le_refl _) k.size, (f.v.keep k (.inr (.inr (Nat.le_refl _)))).mono (Nat.le_refl _) k.size, (f.o.keep k (.inr (.inr (Nat.le_refl _)))).mono (Nat.le_refl _) k.size⟩

/-- A graph in new memory: three blocks of its own. -/
structure GO (w : World) (lo : Nat) (g1 g2 g3 : Nat) (n2 : Nat) (ins : List Int) (vs : List Vl) (outs : List Int) : Prop where
  i : IR w g1 ins
  v : VA w g2 n2 vs
  o : IR w g3 outs
  l1 : lo ≤ g1
  l2 : g1 < g2
  l3 : g2 < g3
theorem GO.gs {w : World} {lo g1 g2 g3 n2 : Nat} {ins : List Int} {vs : List Vl} {outs : List Int} (f : GO w lo g1 g2 g3 n2 ins vs outs) (hl : ∀ v ∈ vs, v.k < 18446744073709551616) :
    GS w (some ⟨g1, 0, none⟩) ins.length (some ⟨g2, 0, none⟩) n2 (some ⟨g3, 0, none⟩) outs.length ins vs outs := ⟨f.i.is, f.v.vs hl, f.o.is⟩

/-- The three boxes of toGraph while it goes. -/
structure TG (W : World) (p : Nat) (b0 b1 b2 s0 s1 s2 : Value) : Prop where
  sz : p + 2 < W.heap.size
  q0 : W.cell? ⟨p, 0, none⟩ = some b0
  q1 : W.cell? ⟨p, 1, none⟩ = some b1
  q2 : W.cell? ⟨p, 2, none⟩ = some b2
  r0 : W.cell? ⟨p + 1, 0, none⟩ = some (.slice none 0 0)
  r1 : W.cell? ⟨p + 1, 1, none⟩ = some (.slice none 0 0)
  r2 : W.cell? ⟨p + 1, 2, none⟩ = some (.slice none 0 0)
  o0 : W.cell? ⟨p + 1 + 1, 0, none⟩ = some s0
  o1 : W.cell? ⟨p + 1 + 1, 1, none⟩ = some s1
  o2 : W.cell? ⟨p + 1 + 1, 2, none⟩ = some s2
  f1 : ∀ o, W.frozen? ⟨p + 1, o, none⟩ = false
  f2 : ∀ o, W.frozen? ⟨p + 1 + 1, o, none⟩ = false
theorem TG.keep {W W' : World} {p : Nat} {b0 b1 b2 s0 s1 s2 : Value} (t : TG W p b0 b1 b2 s0 s1 s2) (k : Kept 0 0 W W') : TG W' p b0 b1 b2 s0 s1 s2 := by
  have e : ∀ g o, g ≤ p + 2 → W'.cell? ⟨g, o, none⟩ = W.cell? ⟨g, o, none⟩ := fun g o h => k.cell (p := ⟨g, o, none⟩) (Nat.lt_of_le_of_lt h t.sz) (by omega)
  have f : ∀ g o, g ≤ p + 2 → W'.frozen? ⟨g, o, none⟩ = W.frozen? ⟨g, o, none⟩ := fun g o h => k.frozen (p := ⟨g, o, none⟩) (Nat.lt_of_le_of_lt h t.sz) (by omega)
  exact ⟨Nat.lt_of_lt_of_le t.sz k.size, by rw [e _ _ (by omega)]; exact t.q0, by rw [e _ _ (by omega)]; exact t.q1, by rw [e _ _ (by omega)]; exact t.q2, by rw [e _ _ (by omega)]; exact t.r0, by rw [e _ _ (by omega)]; exact t.r1, by rw [e _ _ (by omega)]; exact t.r2, by rw [e _ _ (by omega)]; exact t.o0, by rw [e _ _ (by omega)]; exact t.o1, by rw [e _ _ (by omega)]; exact t.o2, fun o => by rw [f _ _ (by omega)]; exact t.f1 o, fun o => by rw [f _ _ (by omega)]; exact t.f2 o⟩
theorem TG.put0 {W : World} {p : Nat} {b0 b1 b2 s0 s1 s2 : Value} (t : TG W p b0 b1 b2 s0 s1 s2) (v : Value) : TG (W.setCell ⟨p + 1 + 1, 0, none⟩ v) p b0 b1 b2 v s1 s2 :=
  ⟨by simpa using t.sz, by rw [cell_ne _ _ _ _ _ _ (by omega)]; exact t.q0, by rw [cell_ne _ _ _ _ _ _ (by omega)]; exact t.q1, by rw [cell_ne _ _ _ _ _ _ (by omega)]; exact t.q2, by rw [cell_ne _ _ _ _ _ _ (by omega)]; exact t.r0, by rw [cell_ne _ _ _ _ _ _ (by omega)]; exact t.r1, by rw [cell_ne _ _ _ _ _ _ (by omega)]; exact t.r2, cell_eq _ _ _ _ _ t.o0, by rw [cell_ne _ _ _ _ _ _ (by omega)]; exact t.o1, by rw [cell_ne _ _ _ _ _ _ (by omega)]; exact t.o2, fun o => by simp [t.f1 o], fun o => by simp [t.f2 o]⟩
theorem TG.put1 {W : World} {p : Nat} {b0 b1 b2 s0 s1 s2 : Value} (t : TG W p b0 b1 b2 s0 s1 s2) (v : Value) : TG (W.setCell ⟨p + 1 + 1, 1, none⟩ v) p b0 b1 b2 s0 v s2 :=
  ⟨by simpa using t.sz, by rw [cell_ne _ _ _ _ _ _ (by omega)]; exact t.q0, by rw [cell_ne _ _ _ _ _ _ (by omega)]; exact t.q1, by rw [cell_ne _ _ _ _ _ _ (by omega)]; exact t.q2, by rw [cell_ne _ _ _ _ _ _ (by omega)]; exact t.r0, by rw [cell_ne _ _ _ _ _ _ (by omega)]; exact t.r1, by rw [cell_ne _ _ _ _ _ _ (by omega)]; exact t.r2, by rw [cell_ne _ _ _ _ _ _ (by omega)]; exact t.o0, cell_eq _ _ _ _ _ t.o1, by rw [cell_ne _ _ _ _ _ _ (by omega)]; exact t.o2, fun o => by simp [t.f1 o], fun o => by simp [t.f2 o]⟩
theorem TG.put2 {W : World} {p : Nat} {b0 b1 b2 s0 s1 s2 : Value} (t : TG W p b0 b1 b2 s0 s1 s2) (v : Value) : TG (W.setCell ⟨p + 1 + 1, 2, none⟩ v) p b0 b1 b2 s0 s1 v :=
  ⟨by simpa using t.sz, by rw [cell_ne _ _ _ _ _ _ (by omega)]; exact t.q0, by rw [cell_ne _ _ _ _ _ _ (by omega)]; exact t.q1, by rw [cell_ne _ _ _ _ _ _ (by omega)]; exact t.q2, by rw [cell_ne _ _ _ _ _ _ (by omega)]; exact t.r0, by rw [cell_ne _ _ _ _ _ _ (by omega)]; exact t.r1, by rw [cell_ne _ _ _ _ _ _ (by omega)]; exact t.r2, by rw [cell_ne _ _ _ _ _ _ (by omega)]; exact t.o0, by rw [cell_ne _ _ _ _ _ _ (by omega)]; exact t.o1, cell_eq _ _ _ _ _ t.o2, fun o => by simp [t.f1 o], fun o => by simp [t.f2 o]⟩
theorem tg_start (w : World) (b0 b1 b2 : Value) : TG (((w.alloc (.cells #[b0, b1, b2] 25)).alloc (.cells #[.slice none 0 0, .slice none 0 0, .slice none 0 0] 31)).alloc (.cells #[.slice none 0 0, .slice none 0 0, .slice none 0 0] 31)) w.heap.size b0 b1 b2 (.slice none 0 0) (.slice none 0 0) (.slice none 0 0) := by
  have h1 : (w.alloc (.cells #[b0, b1, b2] 25)).heap.size = w.heap.size + 1 := by simp
  have h2 : ((w.alloc (.cells #[b0, b1, b2] 25)).alloc (.cells #[.slice none 0 0, .slice none 0 0, .slice none 0 0] 31)).heap.size = w.heap.size + 1 + 1 := by simp
  constructor
  all_goals first | (go_simp; done) | (simp; done) | (intro o; simp; done)
theorem put3_kept (w : World) (g : Nat) (x y z : Value) : Kept g (g + 1) w (((w.setCell ⟨g, 0, none⟩ x).setCell ⟨g, 1, none⟩ y).setCell ⟨g, 2, none⟩ z) := by
  have k : ∀ (w : World) (a : Nat) (u : Value), Kept g (g + 1) w (w.setCell ⟨g, a, none⟩ u) := fun w a u => kept_setCell w ⟨g, a, none⟩ u (.inl ⟨Nat.le_refl _, Nat.lt_succ_self _⟩)
  exact ((k _ _ _).trans (k _ _ _)).trans (k _ _ _)
theorem kept_put (w W : World) (k : Kept 0 0 w W) (g o : Nat) (v : Value) (h : w.heap.size ≤ g) : Kept 0 0 w (W.setCell ⟨g, o, none⟩ v) :=
  k.new (kept_setCell (lo := g) (hi := g + 1) W ⟨g, o, none⟩ v (.inl ⟨Nat.le_refl _, Nat.lt_succ_self _⟩)) h

set_option maxRecDepth 100000 in
set_option maxHeartbeats 2000000 in
theorem toGraph (w : World) (a1 a2 a3 : Option Addr) (n1 c1 n2 c2 n3 c3 : Nat) (ins : List Int) (vs : List Vl) (outs : List Int) (f : GS w a1 n1 a2 n2 a3 n3 ins vs outs) (h1 : n1 ≤ 1048576) (h2 : n2 ≤ 1048576) (h3 : n3 ≤ 1048576) :
    Calls Tryd.prog 6 #[gagg a1 n1 c1 a2 n2 c2 a3 n3 c3] w fun e w' => ∃ g1 g2 g3, e = .returned (gagg (some ⟨g1, 0, none⟩) n1 n1 (some ⟨g2, 0, none⟩) n2 n2 (some ⟨g3, 0, none⟩) n3 n3) ∧ GO w' w.heap.size g1 g2 g3 n2 ins vs outs ∧ Kept 0 0 w w' := by
  have hT := tg_start w (.slice a1 n1 c1) (.slice a2 n2 c2) (.slice a3 n3 c3)
  have hK := ((kept_alloc 0 0 w (.cells #[.slice a1 n1 c1, .slice a2 n2 c2, .slice a3 n3 c3] 25)).trans (kept_alloc 0 0 _ (.cells #[.slice none 0 0, .slice none 0 0, .slice none 0 0] 31))).trans (kept_alloc 0 0 _ (.cells #[.slice none 0 0, .slice none 0 0, .slice none 0 0] 31))
  have fi := f.i.keep hK (.inr (.inr (Nat.le_refl _)))
  have fv := f.v.keep hK (.inr (.inr (Nat.le_refl _)))
  have fo := f.o.keep hK (.inr (.inr (Nat.le_refl _)))
  have HL : Hid (∀ v ∈ vs, v.k < 18446744073709551616) := f.v.lt
  clear f
  go_enter Tryd.func6, Tryd.ntmps6
  go_wp2_with fail
  generalize hw3 : ((w.alloc (.cells #[.slice a1 n1 c1, .slice a2 n2 c2, .slice a3 n3 c3] 25)).alloc (.cells #[.slice none 0 0, .slice none 0 0, .slice none 0 0] 31)).alloc (.cells #[.slice none 0 0, .slice none 0 0, .slice none 0 0] 31) = w3 at hT hK fi fv fo ⊢
  clear hw3
  have Z3 : Hid (w.heap.size + 2 < w3.heap.size) := hT.sz
  refine (toI _ _ _ _ _ _ _ fi h1).mono ?_
  rintro e w4 ⟨rfl, r1, k4⟩
  clear fi
  replace hT := hT.keep k4
  replace fv := fv.keep k4 (.inr (.inr (Nat.le_refl _)))
  replace fo := fo.keep k4 (.inr (.inr (Nat.le_refl _)))
  replace hK := hK.trans k4
  have Z4 : Hid (w3.heap.size < w4.heap.size) := r1.lt
  clear k4
  have pk := kept_setCell (lo := w.heap.size + 1 + 1) (hi := w.heap.size + 1 + 1 + 1) w4 ⟨w.heap.size + 1 + 1, 0, none⟩ (.slice (some ⟨w3.heap.size, 0, none⟩) n1 n1) (.inl ⟨Nat.le_refl _, Nat.lt_succ_self _⟩)
  replace r1 := r1.keep pk (by have := Z3.out; omega)
  replace fv := fv.keep pk (.inl (by omega))
  replace fo := fo.keep pk (.inl (by omega))
  replace hK := hK.new pk (by omega)
  have o0 := hT.o0
  have q1 := hT.q1
  have f2 := hT.f2
  replace hT := hT.put0 (.slice (some ⟨w3.heap.size, 0, none⟩) n1 n1)
  have S4 : Hid ((w4.setCell ⟨w.heap.size + 1 + 1, 0, none⟩ (.slice (some ⟨w3.heap.size, 0, none⟩) n1 n1)).heap.size = w4.heap.size) := World.size_setCell ..
  clear pk
  go_wp2_with fail
  clear o0 q1 f2
  generalize hw5 : w4.setCell ⟨w.heap.size + 1 + 1, 0, none⟩ (.slice (some ⟨w3.heap.size, 0, none⟩) n1 n1) = w5 at hT hK r1 fv fo S4 ⊢
  clear hw5
  refine (toVS _ _ _ _ _ _ _ fv h2).mono ?_
  rintro e w6 ⟨rfl, r2, k6⟩
  clear fv
  replace hT := hT.keep k6
  replace fo := fo.keep k6 (.inr (.inr (Nat.le_refl _)))
  replace r1 := r1.keep k6 (.inr (.inr (Nat.le_refl _)))
  replace hK := hK.trans k6
  have Z6 : Hid (w5.heap.size < w6.heap.size) := r2.lt
  clear k6
  have pk := kept_setCell (lo := w.heap.size + 1 + 1) (hi := w.heap.size + 1 + 1 + 1) w6 ⟨w.heap.size + 1 + 1, 1, none⟩ (.slice (some ⟨w5.heap.size, 0, none⟩) n2 n2) (.inl ⟨Nat.le_refl _, Nat.lt_succ_self _⟩)
  replace r1 := r1.keep pk (by have := Z3.out; omega)
  replace r2 := r2.keep pk (by have := Z3.out; have := Z4.out; have := S4.out; omega)
  replace fo := fo.keep pk (.inl (by omega))
  replace hK := hK.new pk (by omega)
  have o1 := hT.o1
  have q2 := hT.q2
  have f2 := hT.f2
  replace hT := hT.put1 (.slice (some ⟨w5.heap.size, 0, none⟩) n2 n2)
  have S6 : Hid ((w6.setCell ⟨w.heap.size + 1 + 1, 1, none⟩ (.slice (some ⟨w5.heap.size, 0, none⟩) n2 n2)).heap.size = w6.heap.size) := World.size_setCell ..
  clear pk
  go_wp2_with fail
  clear o1 q2 f2
  generalize hw7 : w6.setCell ⟨w.heap.size + 1 + 1, 1, none⟩ (.slice (some ⟨w5.heap.size, 0, none⟩) n2 n2) = w7 at hT hK r1 r2 fo S6 ⊢
  clear hw7
  refine (toI _ _ _ _ _ _ _ fo h3).mono ?_
  rintro e w8 ⟨rfl, r3, k8⟩
  clear fo
  replace hT := hT.keep k8
  replace r1 := r1.keep k8 (.inr (.inr (Nat.le_refl _)))
  replace r2 := r2.keep k8 (.inr (.inr (Nat.le_refl _)))
  replace hK := hK.trans k8
  clear k8
  have pk := kept_setCell (lo := w.heap.size + 1 + 1) (hi := w.heap.size + 1 + 1 + 1) w8 ⟨w.heap.size + 1 + 1, 2, none⟩ (.slice (some ⟨w7.heap.size, 0, none⟩) n3 n3) (.inl ⟨Nat.le_refl _, Nat.lt_succ_self _⟩)
  have o2 := hT.o2
  have o0 := hT.o0
  have o1 := hT.o1
  have f2 := hT.f2
  have f1 := hT.f1
  have d0 := hT.r0
  have d1 := hT.r1
  have d2 := hT.r2
  have ps := put3_kept (w8.setCell ⟨w.heap.size + 1 + 1, 2, none⟩ (.slice (some ⟨w7.heap.size, 0, none⟩) n3 n3)) (w.heap.size + 1) (.slice (some ⟨w3.heap.size, 0, none⟩) n1 n1) (.slice (some ⟨w5.heap.size, 0, none⟩) n2 n2) (.slice (some ⟨w7.heap.size, 0, none⟩) n3 n3)
  have GZ : Hid (w.heap.size + 2 < w3.heap.size ∧ w3.heap.size < w5.heap.size ∧ w5.heap.size < w7.heap.size) := ⟨Z3.out, by rw [S4.out]; exact Z4.out, by rw [S6.out]; exact Z6.out⟩
  replace r1 := (r1.keep pk (by have := GZ.out; omega)).keep ps (by have := GZ.out; omega)
  replace r2 := (r2.keep pk (by have := GZ.out; omega)).keep ps (by have := GZ.out; omega)
  replace r3 := (r3.keep pk (by have := GZ.out; omega)).keep ps (by have := GZ.out; omega)
  replace hK := (hK.new pk (by omega)).new ps (by omega)
  clear pk ps hT Z3 Z4 Z6 S4 S6
  go_wp2
  refine bodyPost_ret (v := gagg (some ⟨w3.heap.size, 0, none⟩) n1 n1 (some ⟨w5.heap.size, 0, none⟩) n2 n2 (some ⟨w7.heap.size, 0, none⟩) n3 n3) (by simp [results, Tryd.results6, go_sem, d0, d1, d2]) rfl ⟨_, _, _, rfl, ⟨r1, r2, r3, ?_, ?_, ?_⟩, hK⟩
  · have := GZ.out; omega
  · exact GZ.out.2.1
  · exact GZ.out.2.2

/-- The two boxes of eqGraph. -/
structure EG (W : World) (p : Nat) (b0 b1 b2 s0 s1 s2 : Value) : Prop where
  sz : p + 1 < W.heap.size
  q0 : W.cell? ⟨p, 0, none⟩ = some b0
  q1 : W.cell? ⟨p, 1, none⟩ = some b1
  q2 : W.cell? ⟨p, 2, none⟩ = some b2
  r0 : W.cell? ⟨p + 1, 0, none⟩ = some s0
  r1 : W.cell? ⟨p + 1, 1, none⟩ = some s1
  r2 : W.cell? ⟨p + 1, 2, none⟩ = some s2
theorem EG.keep {W W' : World} {p : Nat} {b0 b1 b2 s0 s1 s2 : Value} (t : EG W p b0 b1 b2 s0 s1 s2) (k : Kept 0 0 W W') : EG W' p b0 b1 b2 s0 s1 s2 := by
  have e : ∀ g o, g ≤ p + 1 → W'.cell? ⟨g, o, none⟩ = W.cell? ⟨g, o, none⟩ := fun g o h => k.cell (p := ⟨g, o, none⟩) (Nat.lt_of_le_of_lt h t.sz) (by omega)
  exact ⟨Nat.lt_of_lt_of_le t.sz k.size, by rw [e _ _ (by omega)]; exact t.q0, by rw [e _ _ (by omega)]; exact t.q1, by rw [e _ _ (by omega)]; exact t.q2, by rw [e _ _ (by omega)]; exact t.r0, by rw [e _ _ (by omega)]; exact t.r1, by rw [e _ _ (by omega)]; exact t.r2⟩
theorem eg_start (w : World) (b0 b1 b2 s0 s1 s2 : Value) : EG ((w.alloc (.cells #[b0, b1, b2] 31)).alloc (.cells #[s0, s1, s2] 31)) w.heap.size b0 b1 b2 s0 s1 s2 := by
  have h1 : (w.alloc (.cells #[b0, b1, b2] 31)).heap.size = w.heap.size + 1 := by simp
  constructor
  all_goals first | (go_simp; done) | (simp; done)

set_option maxRecDepth 100000 in
set_option maxHeartbeats 2000000 in
theorem eqGraph (w : World) (a1 a2 a3 a1' a2' a3' : Option Addr) (n1 c1 n2 c2 n3 c3 c1' c2' c3' : Nat) (ins : List Int) (vs : List Vl) (outs : List Int) (f : GS w a1 n1 a2 n2 a3 n3 ins vs outs) (g : GS w a1' n1 a2' n2 a3' n3 ins vs outs) (h1 : n1 ≤ 1048576) (h2 : n2 ≤ 1048576) (h3 : n3 ≤ 1048576) :
    Calls Tryd.prog 9 #[gagg a1 n1 c1 a2 n2 c2 a3 n3 c3, gagg a1' n1 c1' a2' n2 c2' a3' n3 c3'] w fun e w' => e = .returned (.bool true) ∧ Kept 0 0 w w' := by
  have hK := (kept_alloc 0 0 w (.cells #[.slice a1 n1 c1, .slice a2 n2 c2, .slice a3 n3 c3] 31)).trans (kept_alloc 0 0 _ (.cells #[.slice a1' n1 c1', .slice a2' n2 c2', .slice a3' n3 c3'] 31))
  have hB := eg_start w (.slice a1 n1 c1) (.slice a2 n2 c2) (.slice a3 n3 c3) (.slice a1' n1 c1') (.slice a2' n2 c2') (.slice a3' n3 c3')
  have f' := f.keep hK
  have g' := g.keep hK
  clear f g
  go_enter Tryd.func9, Tryd.ntmps9
  go_wp2_with fail
  generalize hw3 : (w.alloc (.cells #[.slice a1 n1 c1, .slice a2 n2 c2, .slice a3 n3 c3] 31)).alloc (.cells #[.slice a1' n1 c1', .slice a2' n2 c2', .slice a3' n3 c3'] 31) = w3 at hB hK f' g' ⊢
  clear hw3
  refine (eqI _ _ _ _ _ _ _ _ _ _ _ f'.i g'.i (by omega)).mono ?_
  rintro e w4 ⟨rfl, k4'⟩
  have k4 := k4'.kept 0 0
  clear k4'
  replace hB := hB.keep k4
  replace f' := f'.keep k4
  replace g' := g'.keep k4
  replace hK := hK.trans k4
  clear k4
  have q1 := hB.q1
  have q2 := hB.r1
  go_wp2_with fail
  clear q1 q2
  refine (eqVS _ _ _ _ _ _ _ _ _ _ _ f'.v g'.v (by omega)).mono ?_
  rintro e w5 ⟨rfl, k5⟩
  replace hB := hB.keep k5
  replace f' := f'.keep k5
  replace g' := g'.keep k5
  replace hK := hK.trans k5
  clear k5
  have q1 := hB.q2
  have q2 := hB.r2
  go_wp2_with fail
  clear q1 q2
  refine (eqI _ _ _ _ _ _ _ _ _ _ _ f'.o g'.o (by omega)).mono ?_
  rintro e w6 ⟨rfl, k6'⟩
  have k6 := k6'.kept 0 0
  replace hK := hK.trans k6
  clear k6' k6 hB f' g'
  go_wp2
  go_ret
  exact ⟨rfl, hK⟩
end Go.Proofs.YtiiimofkkahobaaDoor

namespace Go.Proofs.YtiiimofkkahobaaDoor
open Go.RowKit Flt

/-- The series of 1.0, worked from the inside: n rounds done. -/
def cser (r : Nat) : Nat → Nat
  | 0 => 4607182418800017408
  | n + 1 => cop .add (cop .quo (cop .mul r (cser r n)) (floatOfInt .f64 (14 - (n : Int)))) 4607182418800017408
def csq (p : Nat) : Nat → Nat
  | 0 => p
  | n + 1 => cop .mul (csq p n) (csq p n)

theorem ser_step {r p q n : Nat} (k : Int) (w1 w2 w3 : World) (hk : k = 14 - (n : Int)) (h : fb p = fb (cser r n))
    (hq : q = fop .add (fop .quo (fop .mul r p w1) (floatOfInt .f64 k) w2) 4607182418800017408 w3) : fb q = fb (cser r (n + 1)) := by
  subst hk hq
  rw [fb_fop]
  unfold cser
  congr 1
  refine cop_congr .add ?_ rfl
  rw [fb_fop]
  congr 1
  refine cop_congr .quo ?_ rfl
  rw [fb_fop]
  congr 1
  exact cop_congr .mul rfl h

/-- What ExpFloat answers, with one NaN for all. -/
def cexp (x : Nat) : Nat :=
  if FloatKind.f64.format.order x x != some .eq then x
  else if FloatKind.f64.format.order x 4652007308841189376 == some .gt then 9218868437227405312
  else if FloatKind.f64.format.order x 13875379345695965184 == some .lt then 0
  else csq (cser (cop .quo x 4652218415073722368) 14) 10

theorem cser_congr {r r' : Nat} (h : fb r = fb r') : ∀ n, fb (cser r n) = fb (cser r' n)
  | 0 => rfl
  | n + 1 => by
    unfold cser
    congr 1
    refine cop_congr .add ?_ rfl
    congr 1
    refine cop_congr .quo ?_ rfl
    congr 1
    exact cop_congr .mul h (cser_congr h n)
theorem csq_congr {r r' : Nat} (h : fb r = fb r') : ∀ n, fb (csq r n) = fb (csq r' n)
  | 0 => h
  | n + 1 => by
    unfold csq
    congr 1
    exact cop_congr .mul (csq_congr h n) (csq_congr h n)

theorem sq_step {c y q k : Nat} {w : World} (h : fb y = fb (csq c k)) (hq : q = fop .mul y y w) : fb q = fb (csq c (k + 1)) := by
  subst hq
  rw [fb_fop]
  unfold csq
  congr 1
  exact cop_congr .mul h h
end Go.Proofs.YtiiimofkkahobaaDoor

namespace Go.Proofs.YtiiimofkkahobaaDoor
open Go.RowKit Flt
attribute [local go_sem] alloc_drewN setCell_drewN run_store_float

/-- Functions of floats by their number in the program: they answer c, up to the bits of a NaN. -/
def Fn1 (F : Nat) (c : Nat → Nat) : Prop := ∀ (x : Nat) (w : World), x < 18446744073709551616 →
  Calls Tryd.prog F #[.float .f64 x] w fun e w' => ∃ z, e = .returned (.float .f64 z) ∧ z < 18446744073709551616 ∧ fb z = fb (c x) ∧ Drawn w w'
def Fn2 (F : Nat) (c : Nat → Nat → Nat) : Prop := ∀ (x y : Nat) (w : World), x < 18446744073709551616 → y < 18446744073709551616 →
  Calls Tryd.prog F #[.float .f64 x, .float .f64 y] w fun e w' => ∃ z, e = .returned (.float .f64 z) ∧ z < 18446744073709551616 ∧ fb z = fb (c x y) ∧ Drawn w w'
def Fn3 (F : Nat) (c : Nat → Nat → Nat → Nat) : Prop := ∀ (x y u : Nat) (w : World), x < 18446744073709551616 → y < 18446744073709551616 → u < 18446744073709551616 →
  Calls Tryd.prog F #[.float .f64 x, .float .f64 y, .float .f64 u] w fun e w' => ∃ z, e = .returned (.float .f64 z) ∧ z < 18446744073709551616 ∧ fb z = fb (c x y u) ∧ Drawn w w'

/-- What a made list of floats comes to: a block of its own, element k the same as q k. -/
def Made (n : Nat) (q : Nat → Nat) (w : World) (e : Ending) (w' : World) : Prop :=
  ∃ zs : List Nat, e = .returned (.slice (some ⟨w.heap.size, 0, none⟩) n n) ∧ FR w' w.heap.size zs ∧ (∀ z ∈ zs, z < 18446744073709551616) ∧ zs.length = n ∧ (∀ k, k < n → fb (zs.getD k 0) = fb (q k)) ∧ Kept 0 0 w w'
/-- The same in the middle: the first k elements stand. -/
def Making (g n k : Nat) (q : Nat → Nat) (w W : World) : Prop :=
  ∃ zs : List Nat, FR W g zs ∧ (∀ z ∈ zs, z < 18446744073709551616) ∧ zs.length = n ∧ (∀ j, j < k → fb (zs.getD j 0) = fb (q j)) ∧ Kept 0 0 w W
theorem making_start (w : World) (n : Nat) (q : Nat → Nat) : Making w.heap.size n 0 q w (w.alloc (.cells (madeCells #[.float .f64 0] n) 42)) :=
  ⟨_, FR.made w n, by intro z hz; rw [List.eq_of_mem_replicate hz]; omega, by simp, fun j hj => by omega, kept_alloc 0 0 w _⟩
theorem Making.kept {g n k : Nat} {q : Nat → Nat} {w W : World} (h : Making g n k q w W) : Kept 0 0 w W := by
  obtain ⟨_, _, _, _, _, h⟩ := h; exact h
theorem Making.cell {g n k : Nat} {q : Nat → Nat} {w W : World} (h : Making g n k q w W) (hk : k < n) : ∃ v, W.cell? ⟨g, k, none⟩ = some v := by
  obtain ⟨zs, h1, _, h3, _, _⟩ := h; exact ⟨_, h1.cell k (by omega)⟩
theorem Making.free {g n k : Nat} {q : Nat → Nat} {w W : World} (h : Making g n k q w W) : W.frozen? ⟨g, k, none⟩ = false := by
  obtain ⟨zs, h1, _⟩ := h; exact h1.free k
theorem Making.drawn {g n k : Nat} {q : Nat → Nat} {w W W' : World} (h : Making g n k q w W) (d : Drawn W W') : Making g n k q w W' := by
  obtain ⟨zs, h1, h2, h3, h4, h5⟩ := h
  exact ⟨zs, h1.keep (d.kept 0 0) (.inr (.inr (Nat.le_refl _))), h2, h3, h4, h5.trans (d.kept 0 0)⟩
theorem Making.step {g n k : Nat} {q : Nat → Nat} {w W : World} (h : Making g n k q w W) (hg : w.heap.size ≤ g) {z : Nat} (hz : z < 18446744073709551616) (hq : fb z = fb (q k)) (hk : k < n) :
    Making g n (k + 1) q w (W.setCell ⟨g, k, none⟩ (.float .f64 z)) := by
  obtain ⟨zs, h1, h2, h3, h4, h5⟩ := h
  refine ⟨_, h1.set k z, ?_, by rw [List.length_set]; exact h3, ?_, h5.new (kept_setCell (lo := g) (hi := g + 1) W ⟨g, k, none⟩ _ (.inl ⟨Nat.le_refl _, Nat.lt_succ_self _⟩)) hg⟩
  · intro x hx
    rcases List.mem_or_eq_of_mem_set hx with c | c
    · exact h2 x c
    · rw [c]; exact hz
  · intro j hj
    rw [List.getD_eq_getElem?_getD, List.getElem?_set]
    by_cases e : k = j
    · subst e
      rw [if_pos rfl, if_pos (by omega)]
      exact hq
    · rw [if_neg e, ← List.getD_eq_getElem?_getD]
      exact h4 j (by omega)
theorem Making.done {n : Nat} {q : Nat → Nat} {w W : World} (h : Making w.heap.size n n q w W) : Made n q w (.returned (.slice (some ⟨w.heap.size, 0, none⟩) n n)) W := by
  obtain ⟨zs, h1, h2, h3, h4, h5⟩ := h
  exact ⟨zs, rfl, h1, h2, h3, h4, h5⟩
theorem kept_cell {w W : World} (h : Kept 0 0 w W) {g o : Nat} (hg : g < w.heap.size) {v : Value} (hc : w.cell? ⟨g, o, none⟩ = some v) : W.cell? ⟨g, o, none⟩ = some v := by
  rw [h.cell (p := ⟨g, o, none⟩) hg (by omega)]; exact hc
end Go.Proofs.YtiiimofkkahobaaDoor

namespace Go.Proofs.YtiiimofkkahobaaDoor
open Go.RowKit Flt
attribute [local go_sem] alloc_drewN setCell_drewN run_store_float

def chosenN (x y z : Nat) : Nat := if FloatKind.f64.format.order x 0 == some .gt then y else z
end Go.Proofs.YtiiimofkkahobaaDoor

namespace Go.Proofs.YtiiimofkkahobaaDoor
open Go.RowKit Flt
attribute [local go_sem] alloc_drewN setCell_drewN run_store_float

def greaterN (x y : Nat) : Nat := if FloatKind.f64.format.order x y == some .gt then x else y
theorem run_fneg' (b : Nat) (w : World) : (Op.unary .neg (.float .f64 b)).run Tryd.prog w = .ok (.float .f64 (Op.negFloat .f64 b)) w := rfl
theorem negf_lt {b : Nat} (h : b < 18446744073709551616) : Op.negFloat .f64 b < 18446744073709551616 := by
  obtain ⟨s, r, hr, rfl⟩ := split_word b h
  rw [neg_W s hr]; exact W_lt hr
/-- impl.placed -/
theorem made_set (w : World) (n p x : Nat) (hx : x < 18446744073709551616) (hp : p < n) :
    Made n (fun k => if k = p then x else 0) w (.returned (.slice (some ⟨w.heap.size, 0, none⟩) n n)) ((w.alloc (.cells (madeCells #[.float .f64 0] n) 42)).setCell ⟨w.heap.size, p, none⟩ (.float .f64 x)) := by
  have h := (FR.made w n).set p x
  refine ⟨_, rfl, h, ?_, by simp, ?_, (kept_alloc 0 0 w _).new (kept_setCell (lo := w.heap.size) (hi := w.heap.size + 1) _ ⟨w.heap.size, p, none⟩ _ (.inl ⟨Nat.le_refl _, Nat.lt_succ_self _⟩)) (Nat.le_refl _)⟩
  · intro y hy
    rcases List.mem_or_eq_of_mem_set hy with c | c
    · rw [List.eq_of_mem_replicate c]; omega
    · rw [c]; exact hx
  · intro k hk
    rw [List.getD_eq_getElem?_getD, List.getElem?_set]
    by_cases e : p = k
    · subst e
      rw [if_pos rfl, if_pos (by simpa using hp)]
      show fb x = fb (if p = p then x else 0)
      rw [if_pos rfl]
    · rw [if_neg e, List.getElem?_replicate, if_pos hk]
      show fb 0 = fb (if k = p then x else 0)
      rw [if_neg (fun c => e c.symm)]
/-- The sum of a list, from the first element on. -/
def csum : List Nat → Nat
  | [] => 0
  | x :: xs => xs.foldl (cop .add) x
theorem csum_snoc (xs : List Nat) (y : Nat) (h : xs ≠ []) : csum (xs ++ [y]) = cop .add (csum xs) y := by
  cases xs with
  | nil => exact absurd rfl h
  | cons x r => simp [csum, List.foldl_append]
theorem csum_take (xs : List Nat) (k : Nat) (h0 : 0 < k) (hk : k < xs.length) : csum (xs.take (k + 1)) = cop .add (csum (xs.take k)) (xs.getD k 0) := by
  rw [List.take_succ_eq_append_getElem hk, csum_snoc _ _ (by intro c; rcases List.take_eq_nil_iff.1 c with c | c; omega; rw [c] at hk; simp at hk)]
  rw [List.getD_eq_getElem?_getD, List.getElem?_eq_getElem hk]; rfl
theorem csum_one (xs : List Nat) (h : 0 < xs.length) : csum (xs.take 1) = xs.getD 0 0 := by
  cases xs with
  | nil => simp at h
  | cons x r => rfl

end Go.Proofs.YtiiimofkkahobaaDoor

namespace Go.Proofs.YtiiimofkkahobaaDoor
open Go.RowKit Flt
attribute [local go_sem] alloc_drewN setCell_drewN run_store_float

/-- Whether a value of this form may have operands of these lengths. -/
def fitB (op len C : Int) (la lb lc : Nat) : Bool := lenB len && shapeB op len C (([(la : Int), (lb : Int), (lc : Int)]).take (cnt op))

/-- Element k of a value, by the table, with one NaN for all. -/
def elem (op C : Int) (K : Nat) (xa xb xc : List Nat) (k : Nat) : Nat :=
  if op = 1 then K else if op = 2 then cop .add (xa.getD k 0) (xb.getD k 0) else if op = 3 then cop .sub (xa.getD k 0) (xb.getD k 0)
  else if op = 4 then cop .mul (xa.getD k 0) (xb.getD k 0) else if op = 5 then cop .quo (xa.getD k 0) (xb.getD k 0)
  else if op = 6 then Op.negFloat .f64 (xa.getD k 0) else if op = 7 then greaterN (xa.getD k 0) (xb.getD k 0)
  else if op = 8 then chosenN (xa.getD k 0) (xb.getD k 0) (xc.getD k 0) else if op = 9 then csum xa
  else if op = 10 then xa.getD 0 0 else if op = 11 then xa.getD C.toNat 0 else if op = 12 then (if k = C.toNat then xa.getD 0 0 else 0)
  else cexp (xa.getD k 0)

/-- A list of floats in new memory, whole block, element k the same as q k. -/
def KRes (n : Nat) (q : Nat → Nat) (w : World) (e : Ending) (w' : World) : Prop :=
  ∃ (G : Nat) (zs : List Nat), e = .returned (.slice (some ⟨G, 0, none⟩) n n) ∧ w.heap.size ≤ G ∧ FR w' G zs ∧ (∀ z ∈ zs, z < 18446744073709551616) ∧ zs.length = n ∧ (∀ k, k < n → fb (zs.getD k 0) = fb (q k)) ∧ Kept 0 0 w w'

theorem lens_is (w : World) (x y z : Int) : IS (w.alloc (.cells #[.int .i64 x, .int .i64 y, .int .i64 z] 3)) 0 (w.heap.size + 1) (some ⟨w.heap.size, 0, none⟩) 3 [x, y, z] :=
  ⟨rfl, .inr ⟨w.heap.size, 0, rfl, Nat.zero_le _, Nat.lt_succ_self _, by simp, fun k hk => by
    have : k = 0 ∨ k = 1 ∨ k = 2 := by omega
    rcases this with rfl | rfl | rfl <;> simp⟩⟩

end Go.Proofs.YtiiimofkkahobaaDoor

namespace Go.Proofs.YtiiimofkkahobaaDoor
open Go.RowKit Flt
attribute [local go_sem] alloc_drewN setCell_drewN run_store_float

def placeB (op : Int) : Bool := decide (op = 11 ∨ op = 12)
set_option maxHeartbeats 400000 in
theorem hasPlace (op : Int) (w : World) : Calls Tryd.prog 50 #[.int .i64 op] w fun e w' => e = .returned (.bool (placeB op)) ∧ w' = w := by
  by_cases h1 : op = 11
  · subst h1
    go_enter Tryd.func50, Tryd.ntmps50
    go_wp2
    go_ret
    exact ⟨rfl, rfl⟩
  · by_cases h2 : op = 12
    · subst h2
      go_enter Tryd.func50, Tryd.ntmps50
      go_wp2
      go_ret
      exact ⟨rfl, rfl⟩
    · rw [show placeB op = false from decide_eq_false (by omega)]
      have t1 : (op == 11) = false := beq_eq_false_iff_ne.2 h1
      have t2 : (op == 12) = false := beq_eq_false_iff_ne.2 h2
      clear h1 h2
      go_enter Tryd.func50, Tryd.ntmps50
      go_wp2
      go_ret
      exact ⟨rfl, rfl⟩

/-- Whether the fields that the operation doesn't use are zero. -/
def spareB (v : Vl) : Bool := !(((decide (cnt v.op < 1) && v.op != 0) && v.a != 0) || (decide (cnt v.op < 2) && v.b != 0) || ((decide (cnt v.op < 3) && !placeB v.op) && v.c != 0))

set_option maxRecDepth 100000 in
set_option maxHeartbeats 8000000 in
theorem spare_any (w : World) (op len A B C : Int) (K n : Nat) (hn : n ≤ 3) (p : Bool) (HC : Hid (∀ w, Calls Tryd.prog 63 #[.int .i64 op] w fun e w' => e = .returned (.int .i64 (n : Nat)) ∧ w' = w))
    (HP : Hid (∀ w, Calls Tryd.prog 50 #[.int .i64 op] w fun e w' => e = .returned (.bool p) ∧ w' = w)) :
    Calls Tryd.prog 53 #[vagg op len A B C K] w fun e w' => e = .returned (.bool (!(((decide (n < 1) && op != 0) && A != 0) || (decide (n < 2) && B != 0) || ((decide (n < 3) && !p) && C != 0)))) ∧ Kept 0 0 w w' := by
  rcases (by omega : n = 0 ∨ n = 1 ∨ n = 2 ∨ n = 3) with rfl | rfl | rfl | rfl
  all_goals
    go_enter Tryd.func53, Tryd.ntmps53
    go_wp2_with (first | (go_at_call 63; refine (HC.out _).mono ?_; rintro e w2 ⟨rfl, rfl⟩) | (go_at_call 50; refine (HP.out _).mono ?_; rintro e w2 ⟨rfl, rfl⟩))
    all_goals
      go_ret
      exact ⟨by simp_all, kept_alloc _ _ _ _⟩
theorem spareFields (w : World) (v : Vl) : Calls Tryd.prog 53 #[v.agg] w fun e w' => e = .returned (.bool (spareB v)) ∧ Kept 0 0 w w' :=
  spare_any w v.op v.len v.a v.b v.c v.k (cnt v.op) (cnt_le _) (placeB v.op) (fun w => opCount _ w) (fun w => hasPlace _ w)

/-- The operands of a value. -/
def opsOf (v : Vl) : List Int := [v.a, v.b, v.c].take (cnt v.op)
theorem opsOf_len (v : Vl) : (opsOf v).length = cnt v.op := by
  have := cnt_le v.op
  simp [opsOf]; omega
set_option maxRecDepth 100000 in
set_option maxHeartbeats 2000000 in
theorem operandsOf (w : World) (v : Vl) : Calls Tryd.prog 49 #[v.agg] w fun e w' => ∃ g, e = .returned (.slice (some ⟨g, 0, none⟩) (cnt v.op) 3) ∧ IS w' w.heap.size w'.heap.size (some ⟨g, 0, none⟩) (cnt v.op) (opsOf v) ∧ g + 1 = w'.heap.size ∧ Kept 0 0 w w' := by
  have hcnt := cnt_le v.op
  have hI : Hid _ := (lens_is (w.alloc (vbox v.op v.len v.a v.b v.c v.k)) v.a v.b v.c).prefix (cnt v.op) hcnt
  have HC : Hid (∀ w, Calls Tryd.prog 63 #[.int .i64 v.op] w fun e w' => e = .returned (.int .i64 (cnt v.op : Nat)) ∧ w' = w) := opCount v.op
  generalize hq : cnt v.op = q at hI HC hcnt
  have b0 : (0 : Int) ≤ (q : Int) := by omega
  have b1 : (q : Int) ≤ 3 := by omega
  go_enter Tryd.func49, Tryd.ntmps49
  go_wp2_with fail
  go_region_held3 (fun w' => w'.cell? ⟨w.heap.size, 0, none⟩ = some (.int .i64 v.op) ∧ w'.cell? ⟨w.heap.size, 2, none⟩ = some (.int .i64 v.a) ∧ w'.cell? ⟨w.heap.size, 3, none⟩ = some (.int .i64 v.b) ∧ w'.cell? ⟨w.heap.size, 4, none⟩ = some (.int .i64 v.c)) (go_keep)
    ((go_at_call 63; refine (HC.out _).mono ?_; rintro e w2 ⟨rfl, rfl⟩))
  all_goals
    go_wp2
    go_ret
    have h1 : (w.alloc (vbox v.op v.len v.a v.b v.c v.k)).heap.size = w.heap.size + 1 := by simp
    have hI' := hI.out
    rw [h1] at hI'
    refine ⟨w.heap.size + 1, rfl, ⟨hI'.len.trans rfl |> fun e => by rw [opsOf, hq]; exact e, ?_⟩, ?_, ?_⟩
    · rcases hI'.at_ with h0 | ⟨g, off, e, a1, a2, a3, a4⟩
      · exact .inl h0
      · cases e
        refine .inr ⟨_, _, rfl, Nat.le_succ _, ?_, ?_, fun k hk => ?_⟩
        · exact a3
        · exact a3
        · rw [opsOf, hq]; exact a4 k hk
    · show w.heap.size + 1 + 1 = ((w.alloc _).alloc _).heap.size
      simp
    · exact ((kept_alloc 0 0 w _).trans (kept_alloc 0 0 _ _)).trans (kept_drewN 0 0 _ 1)
end Go.Proofs.YtiiimofkkahobaaDoor
