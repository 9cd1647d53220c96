import Derived.Test.YtljmmojajnhmoacGreatP48
import Derived.Test.YtljmmojajnhmoacGreatP49
import Derived.Test.YtljmmojajnhmoacGreatP50
import Derived.Test.YtljmmojajnhmoacGreatP51
import Derived.Test.YtljmmojajnhmoacGreatP43
namespace Go.Proofs.YtljmmojajnhmoacGreat
open Go.RowKit Flt
attribute [local go_sem] alloc_drewN setCell_drewN run_store_float

/-- A cell that holds a slice is no cell of a list of ints or values. -/
theorem cell_sl {w : World} {g k g' o : Nat} {a : Option Addr} {n c : Nat} {u x : Value} (hc : w.cell? ⟨g, k, none⟩ = some (.slice a n c)) (h : w.cell? ⟨g', o, none⟩ = some u) (hu : ∀ a n c, u ≠ .slice a n c) : (w.setCell ⟨g, k, none⟩ x).cell? ⟨g', o, none⟩ = some u := by
  by_cases e : g = g' ∧ k = o
  · obtain ⟨rfl, rfl⟩ := e
    rw [hc] at h
    exact absurd (Option.some.inj h).symm (hu _ _ _)
  · rw [cell_ne _ _ _ _ _ _ (by omega)]
    exact h
theorem IS.setSl {w : World} {lo hi : Nat} {a : Option Addr} {n : Nat} {xs : List Int} (f : IS w lo hi a n xs) {g k : Nat} {a0 : Option Addr} {n0 c0 : Nat} (hc : w.cell? ⟨g, k, none⟩ = some (.slice a0 n0 c0)) (x : Value) : IS (w.setCell ⟨g, k, none⟩ x) lo hi a n xs :=
  ⟨f.len, by
    rcases f.at_ with h0 | ⟨g', off, e, h1, h2, h3, h4⟩
    · exact .inl h0
    · exact .inr ⟨g', off, e, h1, h2, by simpa using h3, fun j hj => cell_sl hc (h4 j hj) (fun _ _ _ h => by cases h)⟩⟩
theorem VS.setSl {w : World} {lo hi : Nat} {a : Option Addr} {n : Nat} {vs : List Vl} (f : VS w lo hi a n vs) {g k : Nat} {a0 : Option Addr} {n0 c0 : Nat} (hc : w.cell? ⟨g, k, none⟩ = some (.slice a0 n0 c0)) (x : Value) : VS (w.setCell ⟨g, k, none⟩ x) lo hi a n vs :=
  ⟨f.len, f.lt, by
    rcases f.at_ with h0 | ⟨g', off, e, h1, h2, h3, h4⟩
    · exact .inl h0
    · refine .inr ⟨g', off, e, h1, h2, by simpa using h3, fun j hj => ?_⟩
      obtain ⟨d0, d1, d2, d3, d4, d5⟩ := h4 j hj
      exact ⟨cell_sl hc d0 (fun _ _ _ h => by cases h), cell_sl hc d1 (fun _ _ _ h => by cases h), cell_sl hc d2 (fun _ _ _ h => by cases h), cell_sl hc d3 (fun _ _ _ h => by cases h), cell_sl hc d4 (fun _ _ _ h => by cases h), cell_sl hc d5 (fun _ _ _ h => by cases h)⟩⟩
theorem GS.setSl {w : World} {a1 a2 a3 : Option Addr} {n1 n2 n3 : Nat} {ins : List Int} {vs : List Vl} {outs : List Int} (f : GS w a1 n1 a2 n2 a3 n3 ins vs outs) {g k : Nat} {a0 : Option Addr} {n0 c0 : Nat} (hc : w.cell? ⟨g, k, none⟩ = some (.slice a0 n0 c0)) (x : Value) : GS (w.setCell ⟨g, k, none⟩ x) a1 n1 a2 n2 a3 n3 ins vs outs :=
  ⟨by simpa using f.i.setSl hc x, by simpa using f.v.setSl hc x, by simpa using f.o.setSl hc x⟩
theorem GS.put3 {w : World} {a1 a2 a3 : Option Addr} {n1 n2 n3 : Nat} {ins : List Int} {vs : List Vl} {outs : List Int} (f : GS w a1 n1 a2 n2 a3 n3 ins vs outs) {P : Nat} {d1 d2 d3 : Option Addr} {m1 m2 m3 e1 e2 e3 : Nat} (h0 : w.cell? ⟨P, 0, none⟩ = some (.slice d1 m1 e1)) (h1 : w.cell? ⟨P, 1, none⟩ = some (.slice d2 m2 e2)) (h2 : w.cell? ⟨P, 2, none⟩ = some (.slice d3 m3 e3)) (x y z : Value) :
    GS (((w.setCell ⟨P, 0, none⟩ x).setCell ⟨P, 1, none⟩ y).setCell ⟨P, 2, none⟩ z) a1 n1 a2 n2 a3 n3 ins vs outs :=
  ((f.setSl h0 x).setSl (by rw [cell_ne _ _ _ _ _ _ (.inr (by omega))]; exact h1) y).setSl (by rw [cell_ne _ _ _ _ _ _ (.inr (by omega)), cell_ne _ _ _ _ _ _ (.inr (by omega))]; exact h2) z
/-- What a pass of the model answers, its callee in a later world. -/
theorem SPo.ret {w W w2 : World} {n1 n3 : Nat} {ins : List Int} {M : List Vl × List Int} {P : Nat} {a1 a2 a3 : Option Addr} {d1 n2 d2 d3 : Nat} {us : List Vl} (hK : Kept 0 0 w W) (hP : w.heap.size ≤ P) {u1 u2 u3 : Option Addr} {m1 m2 m3 e1 e2 e3 : Nat} (h0 : w2.cell? ⟨P, 0, none⟩ = some (.slice u1 m1 e1)) (h1 : w2.cell? ⟨P, 1, none⟩ = some (.slice u2 m2 e2)) (h2 : w2.cell? ⟨P, 2, none⟩ = some (.slice u3 m3 e3)) (g : GS w2 a1 n1 a2 n2 a3 n3 ins us M.2) (l : Lk us M.1) (k2 : Kept 0 0 W w2) :
    SPo w n1 n3 ins M (.returned (gagg a1 n1 d1 a2 n2 d2 a3 n3 d3)) (((w2.setCell ⟨P, 0, none⟩ (.slice a1 n1 d1)).setCell ⟨P, 1, none⟩ (.slice a2 n2 d2)).setCell ⟨P, 2, none⟩ (.slice a3 n3 d3)) :=
  ⟨a1, d1, a2, n2, d2, a3, d3, us, rfl, g.put3 h0 h1 h2 _ _ _, l, (hK.trans k2).new (put3_kept w2 P _ _ _) hP⟩
set_option maxRecDepth 100000 in
set_option maxHeartbeats 4000000 in
theorem l4pass (w : World) (b1 b2 b3 : Option Addr) (n1 c1 n2 c2 n3 c3 : Nat) (p : Int) (ins : List Int) (vs : List Vl) (outs : List Int) (f : GS w b1 n1 b2 n2 b3 n3 ins vs outs) (hok : okG ins vs outs = true) (hp : 0 ≤ p ∧ p < 5) :
    Calls Tryz.prog 20 #[gagg b1 n1 c1 b2 n2 c2 b3 n3 c3, .int .i64 p] w fun e w' => SPo w n1 n3 ins (passM p vs outs) e w' := by
  have hK := (kept_alloc 0 0 w (gbox b1 n1 c1 b2 n2 c2 b3 n3 c3)).trans (kept_alloc 0 0 _ nbox)
  have HF : Hid _ := f.keep hK
  have HK : Hid _ := hK
  have hN := rb_start (w.alloc (gbox b1 n1 c1 b2 n2 c2 b3 n3 c3))
  rw [show (w.alloc (gbox b1 n1 c1 b2 n2 c2 b3 n3 c3)).heap.size = w.heap.size + 1 by simp] at hN
  have HN : Hid _ := hN
  have HO : Hid _ := hok
  clear hK hN f hok
  rcases (by omega : p = 0 ∨ p = 2 ∨ p = 1 ∨ p = 3 ∨ p = 4) with rfl | rfl | rfl | rfl | rfl
  · have HX : Hid _ := l4dead _ b1 b2 b3 n1 c1 n2 c2 n3 c3 ins vs outs HF.out HO.out
    rw [passM_0] at HX
    clear HF
    go_enter Tryz.func20, Tryz.ntmps20
    go_wp2_with fail
    refine Calls.mono HX.out ?_
    clear HX
    rintro e w2 ⟨a1, d1, a2, m2, d2, a3, d3, us, rfl, g2, l2, k2⟩
    obtain ⟨_, q0, q1, q2, f0, f1, f2⟩ := RB.keep HN.out k2
    obtain ⟨y0, y1, y2⟩ := put3_0 w2 (w.heap.size + 1) _ _ _ q0 q1 q2 (.slice a1 n1 d1) (.slice a2 m2 d2) (.slice a3 n3 d3)
    have R : Hid _ := SPo.ret (d1 := d1) (d2 := d2) (d3 := d3) HK.out (by omega : w.heap.size ≤ w.heap.size + 1) q0 q1 q2 g2 l2 k2
    clear g2 l2 k2
    go_wp2_with fail
    refine bodyPost_ret (v := gagg a1 n1 d1 a2 m2 d2 a3 n3 d3) (by simp [results, Tryz.results20, go_sem, y0, y1, y2]) rfl R.out
  · have HX : Hid _ := l4fold _ b1 b2 b3 n1 c1 n2 c2 n3 c3 ins vs outs HF.out HO.out
    rw [passM_2] at HX
    clear HF
    go_enter Tryz.func20, Tryz.ntmps20
    go_wp2_with fail
    refine Calls.mono HX.out ?_
    clear HX
    rintro e w2 ⟨a1, d1, a2, m2, d2, a3, d3, us, rfl, g2, l2, k2⟩
    obtain ⟨_, q0, q1, q2, f0, f1, f2⟩ := RB.keep HN.out k2
    obtain ⟨y0, y1, y2⟩ := put3_0 w2 (w.heap.size + 1) _ _ _ q0 q1 q2 (.slice a1 n1 d1) (.slice a2 m2 d2) (.slice a3 n3 d3)
    have R : Hid _ := SPo.ret (d1 := d1) (d2 := d2) (d3 := d3) HK.out (by omega : w.heap.size ≤ w.heap.size + 1) q0 q1 q2 g2 l2 k2
    clear g2 l2 k2
    go_wp2_with fail
    refine bodyPost_ret (v := gagg a1 n1 d1 a2 m2 d2 a3 n3 d3) (by simp [results, Tryz.results20, go_sem, y0, y1, y2]) rfl R.out
  · have HX : Hid _ := l4equal_1 _ b1 b2 b3 n1 c1 n2 c2 n3 c3 ins vs outs HF.out HO.out
    rw [passM_e (by decide : (1 : Int) ≠ 0) (by decide : (1 : Int) ≠ 2)] at HX
    clear HF
    go_enter Tryz.func20, Tryz.ntmps20
    go_wp2_with fail
    refine Calls.mono HX.out ?_
    clear HX
    rintro e w2 ⟨a1, d1, a2, m2, d2, a3, d3, us, rfl, g2, l2, k2⟩
    obtain ⟨_, q0, q1, q2, f0, f1, f2⟩ := RB.keep HN.out k2
    obtain ⟨y0, y1, y2⟩ := put3_0 w2 (w.heap.size + 1) _ _ _ q0 q1 q2 (.slice a1 n1 d1) (.slice a2 m2 d2) (.slice a3 n3 d3)
    have R : Hid _ := SPo.ret (d1 := d1) (d2 := d2) (d3 := d3) HK.out (by omega : w.heap.size ≤ w.heap.size + 1) q0 q1 q2 g2 l2 k2
    clear g2 l2 k2
    go_wp2_with fail
    refine bodyPost_ret (v := gagg a1 n1 d1 a2 m2 d2 a3 n3 d3) (by simp [results, Tryz.results20, go_sem, y0, y1, y2]) rfl R.out
  · have HX : Hid _ := l4equal_3 _ b1 b2 b3 n1 c1 n2 c2 n3 c3 ins vs outs HF.out HO.out
    rw [passM_e (by decide : (3 : Int) ≠ 0) (by decide : (3 : Int) ≠ 2)] at HX
    clear HF
    go_enter Tryz.func20, Tryz.ntmps20
    go_wp2_with fail
    refine Calls.mono HX.out ?_
    clear HX
    rintro e w2 ⟨a1, d1, a2, m2, d2, a3, d3, us, rfl, g2, l2, k2⟩
    obtain ⟨_, q0, q1, q2, f0, f1, f2⟩ := RB.keep HN.out k2
    obtain ⟨y0, y1, y2⟩ := put3_0 w2 (w.heap.size + 1) _ _ _ q0 q1 q2 (.slice a1 n1 d1) (.slice a2 m2 d2) (.slice a3 n3 d3)
    have R : Hid _ := SPo.ret (d1 := d1) (d2 := d2) (d3 := d3) HK.out (by omega : w.heap.size ≤ w.heap.size + 1) q0 q1 q2 g2 l2 k2
    clear g2 l2 k2
    go_wp2_with fail
    refine bodyPost_ret (v := gagg a1 n1 d1 a2 m2 d2 a3 n3 d3) (by simp [results, Tryz.results20, go_sem, y0, y1, y2]) rfl R.out
  · have HX : Hid _ := l4equal_4 _ b1 b2 b3 n1 c1 n2 c2 n3 c3 ins vs outs HF.out HO.out
    rw [passM_e (by decide : (4 : Int) ≠ 0) (by decide : (4 : Int) ≠ 2)] at HX
    clear HF
    go_enter Tryz.func20, Tryz.ntmps20
    go_wp2_with fail
    refine Calls.mono HX.out ?_
    clear HX
    rintro e w2 ⟨a1, d1, a2, m2, d2, a3, d3, us, rfl, g2, l2, k2⟩
    obtain ⟨_, q0, q1, q2, f0, f1, f2⟩ := RB.keep HN.out k2
    obtain ⟨y0, y1, y2⟩ := put3_0 w2 (w.heap.size + 1) _ _ _ q0 q1 q2 (.slice a1 n1 d1) (.slice a2 m2 d2) (.slice a3 n3 d3)
    have R : Hid _ := SPo.ret (d1 := d1) (d2 := d2) (d3 := d3) HK.out (by omega : w.heap.size ≤ w.heap.size + 1) q0 q1 q2 g2 l2 k2
    clear g2 l2 k2
    go_wp2_with fail
    refine bodyPost_ret (v := gagg a1 n1 d1 a2 m2 d2 a3 n3 d3) (by simp [results, Tryz.results20, go_sem, y0, y1, y2]) rfl R.out
end Go.Proofs.YtljmmojajnhmoacGreat

namespace Go.Proofs.YtljmmojajnhmoacGreat
open Go.RowKit Flt
attribute [local go_sem] alloc_drewN setCell_drewN run_store_float

/-- What the model's RunPass and Optimise answer where all is well. -/
def SRo (w : World) (n1 n3 : Nat) (ins : List Int) (M : List Vl × List Int) (e : Ending) (w' : World) : Prop :=
  ∃ a1 d1 a2 n2 d2 a3 d3 us, e = .returned (.tuple #[gagg a1 n1 d1 a2 n2 d2 a3 n3 d3, .int .i64 0]) ∧ GS w' a1 n1 a2 n2 a3 n3 ins us M.2 ∧ Lk us M.1 ∧ Kept 0 0 w w'
theorem SRo.ret {w W w2 : World} {n1 n3 : Nat} {ins : List Int} {M : List Vl × List Int} {P : Nat} {a1 a2 a3 : Option Addr} {d1 n2 d2 d3 : Nat} {us : List Vl} (hK : Kept 0 0 w W) (hP : w.heap.size ≤ P) {u1 u2 u3 : Option Addr} {m1 m2 m3 e1 e2 e3 : Nat} (h0 : w2.cell? ⟨P, 0, none⟩ = some (.slice u1 m1 e1)) (h1 : w2.cell? ⟨P, 1, none⟩ = some (.slice u2 m2 e2)) (h2 : w2.cell? ⟨P, 2, none⟩ = some (.slice u3 m3 e3)) (g : GS w2 a1 n1 a2 n2 a3 n3 ins us M.2) (l : Lk us M.1) (k2 : Kept 0 0 W w2) :
    SRo w n1 n3 ins M (.returned (.tuple #[gagg a1 n1 d1 a2 n2 d2 a3 n3 d3, .int .i64 0])) (((w2.setCell ⟨P, 0, none⟩ (.slice a1 n1 d1)).setCell ⟨P, 1, none⟩ (.slice a2 n2 d2)).setCell ⟨P, 2, none⟩ (.slice a3 n3 d3)) :=
  ⟨a1, d1, a2, n2, d2, a3, d3, us, rfl, g.put3 h0 h1 h2 _ _ _, l, (hK.trans k2).new (put3_kept w2 P _ _ _) hP⟩
set_option maxRecDepth 100000 in
set_option maxHeartbeats 2000000 in
theorem specRP_inv (w : World) (a1 a2 a3 : Option Addr) (n1 c1 n2 c2 n3 c3 : Nat) (p : Int) (ins : List Int) (vs : List Vl) (outs : List Int) (f : GS w a1 n1 a2 n2 a3 n3 ins vs outs) (h : okG ins vs outs = false) :
    Calls Tryz.prog 6 #[gagg a1 n1 c1 a2 n2 c2 a3 n3 c3, .int .i64 p] w fun e w' => e = .returned (.tuple #[gnil, .int .i64 1]) ∧ Kept 0 0 w w' := by
  have hK := (kept_alloc 0 0 w (gbox a1 n1 c1 a2 n2 c2 a3 n3 c3)).trans (kept_alloc 0 0 _ nbox)
  have HX : Hid _ := specValid _ a1 a2 a3 n1 c1 n2 c2 n3 c3 ins vs outs (f.keep hK)
  rw [h] at HX
  have HK : Hid _ := hK
  have hN := rb_start (w.alloc (gbox a1 n1 c1 a2 n2 c2 a3 n3 c3))
  rw [show (w.alloc (gbox a1 n1 c1 a2 n2 c2 a3 n3 c3)).heap.size = w.heap.size + 1 by simp] at hN
  have HN : Hid _ := hN
  clear hK h f hN
  go_enter Tryz.func6, Tryz.ntmps6
  go_wp2_with fail
  refine Calls.mono HX.out ?_
  rintro e w2 ⟨rfl, k2⟩
  obtain ⟨_, q0, q1, q2, f0, f1, f2⟩ := RB.keep HN.out k2
  obtain ⟨y0, y1, y2⟩ := put3_0 w2 (w.heap.size + 1) _ _ _ q0 q1 q2 (.slice none 0 0) (.slice none 0 0) (.slice none 0 0)
  have R : Hid (Kept 0 0 w _) := Kept.new (Kept.trans HK.out k2) (put3_kept w2 (w.heap.size + 1) (.slice none 0 0) (.slice none 0 0) (.slice none 0 0)) (by omega)
  clear k2 HX HN HK
  go_wp2_with fail
  refine bodyPost_ret (v := .tuple #[gnil, .int .i64 1]) (by simp [results, Tryz.results6, go_sem, y0, y1, y2]) rfl ⟨rfl, R.out⟩
set_option maxRecDepth 100000 in
set_option maxHeartbeats 2000000 in
theorem specRP_idx (w : World) (a1 a2 a3 : Option Addr) (n1 c1 n2 c2 n3 c3 : Nat) (p : Int) (ins : List Int) (vs : List Vl) (outs : List Int) (f : GS w a1 n1 a2 n2 a3 n3 ins vs outs) (h : okG ins vs outs = true) (hp : idxB p 5 = false) :
    Calls Tryz.prog 6 #[gagg a1 n1 c1 a2 n2 c2 a3 n3 c3, .int .i64 p] w fun e w' => e = .returned (.tuple #[gnil, .int .i64 6]) ∧ Kept 0 0 w w' := by
  have hK := (kept_alloc 0 0 w (gbox a1 n1 c1 a2 n2 c2 a3 n3 c3)).trans (kept_alloc 0 0 _ nbox)
  have HX : Hid _ := specValid _ a1 a2 a3 n1 c1 n2 c2 n3 c3 ins vs outs (f.keep hK)
  rw [h] at HX
  have HK : Hid _ := hK
  have hN := rb_start (w.alloc (gbox a1 n1 c1 a2 n2 c2 a3 n3 c3))
  rw [show (w.alloc (gbox a1 n1 c1 a2 n2 c2 a3 n3 c3)).heap.size = w.heap.size + 1 by simp] at hN
  have HN : Hid _ := hN
  have hq := of_decide_eq_false hp
  clear hK h f hN hp
  by_cases hneg : p < 0
  · clear hq
    go_enter Tryz.func6, Tryz.ntmps6
    go_wp2_with fail
    refine Calls.mono HX.out ?_
    rintro e w2 ⟨rfl, k2⟩
    obtain ⟨_, q0, q1, q2, f0, f1, f2⟩ := RB.keep HN.out k2
    obtain ⟨y0, y1, y2⟩ := put3_0 w2 (w.heap.size + 1) _ _ _ q0 q1 q2 (.slice none 0 0) (.slice none 0 0) (.slice none 0 0)
    have R : Hid (Kept 0 0 w _) := Kept.new (Kept.trans HK.out k2) (put3_kept w2 (w.heap.size + 1) (.slice none 0 0) (.slice none 0 0) (.slice none 0 0)) (by omega)
    clear k2 HX HN HK
    go_wp2_with fail
    refine bodyPost_ret (v := .tuple #[gnil, .int .i64 6]) (by simp [results, Tryz.results6, go_sem, y0, y1, y2]) rfl ⟨rfl, R.out⟩
  · have h4 : (4 : Int) < p := by omega
    clear hq
    go_enter Tryz.func6, Tryz.ntmps6
    go_wp2_with fail
    refine Calls.mono HX.out ?_
    rintro e w2 ⟨rfl, k2⟩
    obtain ⟨_, q0, q1, q2, f0, f1, f2⟩ := RB.keep HN.out k2
    obtain ⟨y0, y1, y2⟩ := put3_0 w2 (w.heap.size + 1) _ _ _ q0 q1 q2 (.slice none 0 0) (.slice none 0 0) (.slice none 0 0)
    have R : Hid (Kept 0 0 w _) := Kept.new (Kept.trans HK.out k2) (put3_kept w2 (w.heap.size + 1) (.slice none 0 0) (.slice none 0 0) (.slice none 0 0)) (by omega)
    clear k2 HX HN HK
    go_wp2_with fail
    refine bodyPost_ret (v := .tuple #[gnil, .int .i64 6]) (by simp [results, Tryz.results6, go_sem, y0, y1, y2]) rfl ⟨rfl, R.out⟩
set_option maxRecDepth 100000 in
set_option maxHeartbeats 2000000 in
theorem specRP_run (w : World) (b1 b2 b3 : Option Addr) (n1 c1 n2 c2 n3 c3 : Nat) (p : Int) (ins : List Int) (vs : List Vl) (outs : List Int) (f : GS w b1 n1 b2 n2 b3 n3 ins vs outs) (h : okG ins vs outs = true) (hp : idxB p 5 = true) :
    Calls Tryz.prog 6 #[gagg b1 n1 c1 b2 n2 c2 b3 n3 c3, .int .i64 p] w fun e w' => SRo w n1 n3 ins (passM p vs outs) e w' := by
  have hK := (kept_alloc 0 0 w (gbox b1 n1 c1 b2 n2 c2 b3 n3 c3)).trans (kept_alloc 0 0 _ nbox)
  have HX : Hid _ := specValid _ b1 b2 b3 n1 c1 n2 c2 n3 c3 ins vs outs (f.keep hK)
  rw [h] at HX
  have hq := of_decide_eq_true hp
  have HP : Hid (∀ W, Kept 0 0 w W → Calls Tryz.prog 20 #[gagg b1 n1 c1 b2 n2 c2 b3 n3 c3, .int .i64 p] W fun e w' => SPo W n1 n3 ins (passM p vs outs) e w') := fun W kW => l4pass W b1 b2 b3 n1 c1 n2 c2 n3 c3 p ins vs outs (f.keep kW) h hq
  have HK : Hid _ := hK
  have hN := rb_start (w.alloc (gbox b1 n1 c1 b2 n2 c2 b3 n3 c3))
  rw [show (w.alloc (gbox b1 n1 c1 b2 n2 c2 b3 n3 c3)).heap.size = w.heap.size + 1 by simp] at hN
  have HN : Hid _ := hN
  have HB : Hid _ := (g0_start w (.slice b1 n1 c1) (.slice b2 n2 c2) (.slice b3 n3 c3)).keep (kept_alloc 0 0 _ nbox)
  have h0 : ¬ p < 0 := by omega
  have h4 : ¬ (4 : Int) < p := by omega
  clear hK h f hN hp hq
  go_enter Tryz.func6, Tryz.ntmps6
  go_wp2_with fail
  refine Calls.mono HX.out ?_
  rintro e w2 ⟨rfl, k2⟩
  obtain ⟨_, p0, p1, p2⟩ := G0.keep HB.out k2
  have HK2 : Hid _ := Kept.trans HK.out k2
  have HN2 : Hid _ := RB.keep HN.out k2
  clear k2 HX HN HK HB
  go_wp2_with fail
  refine Calls.mono (HP.out w2 HK2.out) ?_
  rintro e w3 ⟨a1, d1, a2, m2, d2, a3, d3, us, rfl, g3, l3, k3⟩
  obtain ⟨_, q0, q1, q2, f0, f1, f2⟩ := RB.keep HN2.out k3
  obtain ⟨y0, y1, y2⟩ := put3_0 w3 (w.heap.size + 1) _ _ _ q0 q1 q2 (.slice a1 n1 d1) (.slice a2 m2 d2) (.slice a3 n3 d3)
  have R : Hid _ := SRo.ret (d1 := d1) (d2 := d2) (d3 := d3) HK2.out (by omega : w.heap.size ≤ w.heap.size + 1) q0 q1 q2 g3 l3 k3
  clear g3 l3 k3 p0 p1 p2
  go_wp2_with fail
  refine bodyPost_ret (v := .tuple #[gagg a1 n1 d1 a2 m2 d2 a3 n3 d3, .int .i64 0]) (by simp [results, Tryz.results6, go_sem, y0, y1, y2]) rfl R.out
end Go.Proofs.YtljmmojajnhmoacGreat
