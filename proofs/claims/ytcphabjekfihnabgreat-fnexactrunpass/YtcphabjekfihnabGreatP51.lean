import Derived.Test.YtcphabjekfihnabGreatP47
import Derived.Test.YtcphabjekfihnabGreatP48
import Derived.Test.YtcphabjekfihnabGreatP49
import Derived.Test.YtcphabjekfihnabGreatP50
import Derived.Test.YtcphabjekfihnabGreatP42
import Derived.Test.YtcphabjekfihnabGreatP21
import Derived.Test.YtcphabjekfihnabGreatP06
namespace Go.Proofs.YtcphabjekfihnabGreat
open Go.RowKit Flt
attribute [local go_sem] alloc_drewN setCell_drewN run_store_float

/-- A cell that holds a slice is no cell of a list of ints or values. -/
theorem cell_sl {w : World} {g k g' o : Nat} {a : Option Addr} {n c : Nat} {u x : Value} (hc : w.cell? ⟨g, k, none⟩ = some (.slice a n c)) (h : w.cell? ⟨g', o, none⟩ = some u) (hu : ∀ a n c, u ≠ .slice a n c) : (w.setCell ⟨g, k, none⟩ x).cell? ⟨g', o, none⟩ = some u := by
  by_cases e : g = g' ∧ k = o
  · obtain ⟨rfl, rfl⟩ := e
    rw [hc] at h
    exact absurd (Option.some.inj h).symm (hu _ _ _)
  · rw [cell_ne _ _ _ _ _ _ (by omega)]
    exact h
theorem IS.setSl {w : World} {lo hi : Nat} {a : Option Addr} {n : Nat} {xs : List Int} (f : IS w lo hi a n xs) {g k : Nat} {a0 : Option Addr} {n0 c0 : Nat} (hc : w.cell? ⟨g, k, none⟩ = some (.slice a0 n0 c0)) (x : Value) : IS (w.setCell ⟨g, k, none⟩ x) lo hi a n xs :=
  ⟨f.len, by
    rcases f.at_ with h0 | ⟨g', off, e, h1, h2, h3, h4⟩
    · exact .inl h0
    · exact .inr ⟨g', off, e, h1, h2, by simpa using h3, fun j hj => cell_sl hc (h4 j hj) (fun _ _ _ h => by cases h)⟩⟩
theorem VS.setSl {w : World} {lo hi : Nat} {a : Option Addr} {n : Nat} {vs : List Vl} (f : VS w lo hi a n vs) {g k : Nat} {a0 : Option Addr} {n0 c0 : Nat} (hc : w.cell? ⟨g, k, none⟩ = some (.slice a0 n0 c0)) (x : Value) : VS (w.setCell ⟨g, k, none⟩ x) lo hi a n vs :=
  ⟨f.len, f.lt, by
    rcases f.at_ with h0 | ⟨g', off, e, h1, h2, h3, h4⟩
    · exact .inl h0
    · refine .inr ⟨g', off, e, h1, h2, by simpa using h3, fun j hj => ?_⟩
      obtain ⟨d0, d1, d2, d3, d4, d5⟩ := h4 j hj
      exact ⟨cell_sl hc d0 (fun _ _ _ h => by cases h), cell_sl hc d1 (fun _ _ _ h => by cases h), cell_sl hc d2 (fun _ _ _ h => by cases h), cell_sl hc d3 (fun _ _ _ h => by cases h), cell_sl hc d4 (fun _ _ _ h => by cases h), cell_sl hc d5 (fun _ _ _ h => by cases h)⟩⟩
theorem GS.setSl {w : World} {a1 a2 a3 : Option Addr} {n1 n2 n3 : Nat} {ins : List Int} {vs : List Vl} {outs : List Int} (f : GS w a1 n1 a2 n2 a3 n3 ins vs outs) {g k : Nat} {a0 : Option Addr} {n0 c0 : Nat} (hc : w.cell? ⟨g, k, none⟩ = some (.slice a0 n0 c0)) (x : Value) : GS (w.setCell ⟨g, k, none⟩ x) a1 n1 a2 n2 a3 n3 ins vs outs :=
  ⟨by simpa using f.i.setSl hc x, by simpa using f.v.setSl hc x, by simpa using f.o.setSl hc x⟩
theorem GS.put3 {w : World} {a1 a2 a3 : Option Addr} {n1 n2 n3 : Nat} {ins : List Int} {vs : List Vl} {outs : List Int} (f : GS w a1 n1 a2 n2 a3 n3 ins vs outs) {P : Nat} {d1 d2 d3 : Option Addr} {m1 m2 m3 e1 e2 e3 : Nat} (h0 : w.cell? ⟨P, 0, none⟩ = some (.slice d1 m1 e1)) (h1 : w.cell? ⟨P, 1, none⟩ = some (.slice d2 m2 e2)) (h2 : w.cell? ⟨P, 2, none⟩ = some (.slice d3 m3 e3)) (x y z : Value) :
    GS (((w.setCell ⟨P, 0, none⟩ x).setCell ⟨P, 1, none⟩ y).setCell ⟨P, 2, none⟩ z) a1 n1 a2 n2 a3 n3 ins vs outs :=
  ((f.setSl h0 x).setSl (by rw [cell_ne _ _ _ _ _ _ (.inr (by omega))]; exact h1) y).setSl (by rw [cell_ne _ _ _ _ _ _ (.inr (by omega)), cell_ne _ _ _ _ _ _ (.inr (by omega))]; exact h2) z
/-- What a pass of the model answers, its callee in a later world. -/
theorem SPo.ret {w W w2 : World} {n1 n3 : Nat} {ins : List Int} {M : List Vl × List Int} {P : Nat} {a1 a2 a3 : Option Addr} {d1 n2 d2 d3 : Nat} {us : List Vl} (hK : Kept 0 0 w W) (hP : w.heap.size ≤ P) {u1 u2 u3 : Option Addr} {m1 m2 m3 e1 e2 e3 : Nat} (h0 : w2.cell? ⟨P, 0, none⟩ = some (.slice u1 m1 e1)) (h1 : w2.cell? ⟨P, 1, none⟩ = some (.slice u2 m2 e2)) (h2 : w2.cell? ⟨P, 2, none⟩ = some (.slice u3 m3 e3)) (g : GS w2 a1 n1 a2 n2 a3 n3 ins us M.2) (l : Lk us M.1) (k2 : Kept 0 0 W w2) :
    SPo w n1 n3 ins M (.returned (gagg a1 n1 d1 a2 n2 d2 a3 n3 d3)) (((w2.setCell ⟨P, 0, none⟩ (.slice a1 n1 d1)).setCell ⟨P, 1, none⟩ (.slice a2 n2 d2)).setCell ⟨P, 2, none⟩ (.slice a3 n3 d3)) :=
  ⟨a1, d1, a2, n2, d2, a3, d3, us, rfl, g.put3 h0 h1 h2 _ _ _, l, (hK.trans k2).new (put3_kept w2 P _ _ _) hP⟩
set_option maxRecDepth 100000 in
set_option maxHeartbeats 4000000 in
theorem l4pass (w : World) (b1 b2 b3 : Option Addr) (n1 c1 n2 c2 n3 c3 : Nat) (p : Int) (ins : List Int) (vs : List Vl) (outs : List Int) (f : GS w b1 n1 b2 n2 b3 n3 ins vs outs) (hok : okG ins vs outs = true) (hp : 0 ≤ p ∧ p < 5) :
    Calls Tryz.prog 20 #[gagg b1 n1 c1 b2 n2 c2 b3 n3 c3, .int .i64 p] w fun e w' => SPo w n1 n3 ins (passM p vs outs) e w' := by
  have hK := (kept_alloc 0 0 w (gbox b1 n1 c1 b2 n2 c2 b3 n3 c3)).trans (kept_alloc 0 0 _ nbox)
  have HF : Hid _ := f.keep hK
  have HK : Hid _ := hK
  have hN := rb_start (w.alloc (gbox b1 n1 c1 b2 n2 c2 b3 n3 c3))
  rw [show (w.alloc (gbox b1 n1 c1 b2 n2 c2 b3 n3 c3)).heap.size = w.heap.size + 1 by simp] at hN
  have HN : Hid _ := hN
  have HO : Hid _ := hok
  clear hK hN f hok
  rcases (by omega : p = 0 ∨ p = 2 ∨ p = 1 ∨ p = 3 ∨ p = 4) with rfl | rfl | rfl | rfl | rfl
  · have HX : Hid _ := l4dead _ b1 b2 b3 n1 c1 n2 c2 n3 c3 ins vs outs HF.out HO.out
    rw [passM_0] at HX
    clear HF
    go_enter Tryz.func20, Tryz.ntmps20
    go_wp2_with fail
    refine Calls.mono HX.out ?_
    clear HX
    rintro e w2 ⟨a1, d1, a2, m2, d2, a3, d3, us, rfl, g2, l2, k2⟩
    obtain ⟨_, q0, q1, q2, f0, f1, f2⟩ := RB.keep HN.out k2
    obtain ⟨y0, y1, y2⟩ := put3_0 w2 (w.heap.size + 1) _ _ _ q0 q1 q2 (.slice a1 n1 d1) (.slice a2 m2 d2) (.slice a3 n3 d3)
    have R : Hid _ := SPo.ret (d1 := d1) (d2 := d2) (d3 := d3) HK.out (by omega : w.heap.size ≤ w.heap.size + 1) q0 q1 q2 g2 l2 k2
    clear g2 l2 k2
    go_wp2_with fail
    refine bodyPost_ret (v := gagg a1 n1 d1 a2 m2 d2 a3 n3 d3) (by simp [results, Tryz.results20, go_sem, y0, y1, y2]) rfl R.out
  · have HX : Hid _ := l4fold _ b1 b2 b3 n1 c1 n2 c2 n3 c3 ins vs outs HF.out HO.out
    rw [passM_2] at HX
    clear HF
    go_enter Tryz.func20, Tryz.ntmps20
    go_wp2_with fail
    refine Calls.mono HX.out ?_
    clear HX
    rintro e w2 ⟨a1, d1, a2, m2, d2, a3, d3, us, rfl, g2, l2, k2⟩
    obtain ⟨_, q0, q1, q2, f0, f1, f2⟩ := RB.keep HN.out k2
    obtain ⟨y0, y1, y2⟩ := put3_0 w2 (w.heap.size + 1) _ _ _ q0 q1 q2 (.slice a1 n1 d1) (.slice a2 m2 d2) (.slice a3 n3 d3)
    have R : Hid _ := SPo.ret (d1 := d1) (d2 := d2) (d3 := d3) HK.out (by omega : w.heap.size ≤ w.heap.size + 1) q0 q1 q2 g2 l2 k2
    clear g2 l2 k2
    go_wp2_with fail
    refine bodyPost_ret (v := gagg a1 n1 d1 a2 m2 d2 a3 n3 d3) (by simp [results, Tryz.results20, go_sem, y0, y1, y2]) rfl R.out
  · have HX : Hid _ := l4equal_1 _ b1 b2 b3 n1 c1 n2 c2 n3 c3 ins vs outs HF.out HO.out
    rw [passM_e (by decide : (1 : Int) ≠ 0) (by decide : (1 : Int) ≠ 2)] at HX
    clear HF
    go_enter Tryz.func20, Tryz.ntmps20
    go_wp2_with fail
    refine Calls.mono HX.out ?_
    clear HX
    rintro e w2 ⟨a1, d1, a2, m2, d2, a3, d3, us, rfl, g2, l2, k2⟩
    obtain ⟨_, q0, q1, q2, f0, f1, f2⟩ := RB.keep HN.out k2
    obtain ⟨y0, y1, y2⟩ := put3_0 w2 (w.heap.size + 1) _ _ _ q0 q1 q2 (.slice a1 n1 d1) (.slice a2 m2 d2) (.slice a3 n3 d3)
    have R : Hid _ := SPo.ret (d1 := d1) (d2 := d2) (d3 := d3) HK.out (by omega : w.heap.size ≤ w.heap.size + 1) q0 q1 q2 g2 l2 k2
    clear g2 l2 k2
    go_wp2_with fail
    refine bodyPost_ret (v := gagg a1 n1 d1 a2 m2 d2 a3 n3 d3) (by simp [results, Tryz.results20, go_sem, y0, y1, y2]) rfl R.out
  · have HX : Hid _ := l4equal_3 _ b1 b2 b3 n1 c1 n2 c2 n3 c3 ins vs outs HF.out HO.out
    rw [passM_e (by decide : (3 : Int) ≠ 0) (by decide : (3 : Int) ≠ 2)] at HX
    clear HF
    go_enter Tryz.func20, Tryz.ntmps20
    go_wp2_with fail
    refine Calls.mono HX.out ?_
    clear HX
    rintro e w2 ⟨a1, d1, a2, m2, d2, a3, d3, us, rfl, g2, l2, k2⟩
    obtain ⟨_, q0, q1, q2, f0, f1, f2⟩ := RB.keep HN.out k2
    obtain ⟨y0, y1, y2⟩ := put3_0 w2 (w.heap.size + 1) _ _ _ q0 q1 q2 (.slice a1 n1 d1) (.slice a2 m2 d2) (.slice a3 n3 d3)
    have R : Hid _ := SPo.ret (d1 := d1) (d2 := d2) (d3 := d3) HK.out (by omega : w.heap.size ≤ w.heap.size + 1) q0 q1 q2 g2 l2 k2
    clear g2 l2 k2
    go_wp2_with fail
    refine bodyPost_ret (v := gagg a1 n1 d1 a2 m2 d2 a3 n3 d3) (by simp [results, Tryz.results20, go_sem, y0, y1, y2]) rfl R.out
  · have HX : Hid _ := l4equal_4 _ b1 b2 b3 n1 c1 n2 c2 n3 c3 ins vs outs HF.out HO.out
    rw [passM_e (by decide : (4 : Int) ≠ 0) (by decide : (4 : Int) ≠ 2)] at HX
    clear HF
    go_enter Tryz.func20, Tryz.ntmps20
    go_wp2_with fail
    refine Calls.mono HX.out ?_
    clear HX
    rintro e w2 ⟨a1, d1, a2, m2, d2, a3, d3, us, rfl, g2, l2, k2⟩
    obtain ⟨_, q0, q1, q2, f0, f1, f2⟩ := RB.keep HN.out k2
    obtain ⟨y0, y1, y2⟩ := put3_0 w2 (w.heap.size + 1) _ _ _ q0 q1 q2 (.slice a1 n1 d1) (.slice a2 m2 d2) (.slice a3 n3 d3)
    have R : Hid _ := SPo.ret (d1 := d1) (d2 := d2) (d3 := d3) HK.out (by omega : w.heap.size ≤ w.heap.size + 1) q0 q1 q2 g2 l2 k2
    clear g2 l2 k2
    go_wp2_with fail
    refine bodyPost_ret (v := gagg a1 n1 d1 a2 m2 d2 a3 n3 d3) (by simp [results, Tryz.results20, go_sem, y0, y1, y2]) rfl R.out
end Go.Proofs.YtcphabjekfihnabGreat

namespace Go.Proofs.YtcphabjekfihnabGreat
open Go.RowKit Flt
attribute [local go_sem] alloc_drewN setCell_drewN run_store_float

/-- What the model's RunPass and Optimise answer where all is well. -/
def SRo (w : World) (n1 n3 : Nat) (ins : List Int) (M : List Vl × List Int) (e : Ending) (w' : World) : Prop :=
  ∃ a1 d1 a2 n2 d2 a3 d3 us, e = .returned (.tuple #[gagg a1 n1 d1 a2 n2 d2 a3 n3 d3, .int .i64 0]) ∧ GS w' a1 n1 a2 n2 a3 n3 ins us M.2 ∧ Lk us M.1 ∧ Kept 0 0 w w'
theorem SRo.ret {w W w2 : World} {n1 n3 : Nat} {ins : List Int} {M : List Vl × List Int} {P : Nat} {a1 a2 a3 : Option Addr} {d1 n2 d2 d3 : Nat} {us : List Vl} (hK : Kept 0 0 w W) (hP : w.heap.size ≤ P) {u1 u2 u3 : Option Addr} {m1 m2 m3 e1 e2 e3 : Nat} (h0 : w2.cell? ⟨P, 0, none⟩ = some (.slice u1 m1 e1)) (h1 : w2.cell? ⟨P, 1, none⟩ = some (.slice u2 m2 e2)) (h2 : w2.cell? ⟨P, 2, none⟩ = some (.slice u3 m3 e3)) (g : GS w2 a1 n1 a2 n2 a3 n3 ins us M.2) (l : Lk us M.1) (k2 : Kept 0 0 W w2) :
    SRo w n1 n3 ins M (.returned (.tuple #[gagg a1 n1 d1 a2 n2 d2 a3 n3 d3, .int .i64 0])) (((w2.setCell ⟨P, 0, none⟩ (.slice a1 n1 d1)).setCell ⟨P, 1, none⟩ (.slice a2 n2 d2)).setCell ⟨P, 2, none⟩ (.slice a3 n3 d3)) :=
  ⟨a1, d1, a2, n2, d2, a3, d3, us, rfl, g.put3 h0 h1 h2 _ _ _, l, (hK.trans k2).new (put3_kept w2 P _ _ _) hP⟩
set_option maxRecDepth 100000 in
set_option maxHeartbeats 2000000 in
theorem specRP_inv (w : World) (a1 a2 a3 : Option Addr) (n1 c1 n2 c2 n3 c3 : Nat) (p : Int) (ins : List Int) (vs : List Vl) (outs : List Int) (f : GS w a1 n1 a2 n2 a3 n3 ins vs outs) (h : okG ins vs outs = false) :
    Calls Tryz.prog 6 #[gagg a1 n1 c1 a2 n2 c2 a3 n3 c3, .int .i64 p] w fun e w' => e = .returned (.tuple #[gnil, .int .i64 1]) ∧ Kept 0 0 w w' := by
  have hK := (kept_alloc 0 0 w (gbox a1 n1 c1 a2 n2 c2 a3 n3 c3)).trans (kept_alloc 0 0 _ nbox)
  have HX : Hid _ := specValid _ a1 a2 a3 n1 c1 n2 c2 n3 c3 ins vs outs (f.keep hK)
  rw [h] at HX
  have HK : Hid _ := hK
  have hN := rb_start (w.alloc (gbox a1 n1 c1 a2 n2 c2 a3 n3 c3))
  rw [show (w.alloc (gbox a1 n1 c1 a2 n2 c2 a3 n3 c3)).heap.size = w.heap.size + 1 by simp] at hN
  have HN : Hid _ := hN
  clear hK h f hN
  go_enter Tryz.func6, Tryz.ntmps6
  go_wp2_with fail
  refine Calls.mono HX.out ?_
  rintro e w2 ⟨rfl, k2⟩
  obtain ⟨_, q0, q1, q2, f0, f1, f2⟩ := RB.keep HN.out k2
  obtain ⟨y0, y1, y2⟩ := put3_0 w2 (w.heap.size + 1) _ _ _ q0 q1 q2 (.slice none 0 0) (.slice none 0 0) (.slice none 0 0)
  have R : Hid (Kept 0 0 w _) := Kept.new (Kept.trans HK.out k2) (put3_kept w2 (w.heap.size + 1) (.slice none 0 0) (.slice none 0 0) (.slice none 0 0)) (by omega)
  clear k2 HX HN HK
  go_wp2_with fail
  refine bodyPost_ret (v := .tuple #[gnil, .int .i64 1]) (by simp [results, Tryz.results6, go_sem, y0, y1, y2]) rfl ⟨rfl, R.out⟩
set_option maxRecDepth 100000 in
set_option maxHeartbeats 2000000 in
theorem specRP_idx (w : World) (a1 a2 a3 : Option Addr) (n1 c1 n2 c2 n3 c3 : Nat) (p : Int) (ins : List Int) (vs : List Vl) (outs : List Int) (f : GS w a1 n1 a2 n2 a3 n3 ins vs outs) (h : okG ins vs outs = true) (hp : idxB p 5 = false) :
    Calls Tryz.prog 6 #[gagg a1 n1 c1 a2 n2 c2 a3 n3 c3, .int .i64 p] w fun e w' => e = .returned (.tuple #[gnil, .int .i64 6]) ∧ Kept 0 0 w w' := by
  have hK := (kept_alloc 0 0 w (gbox a1 n1 c1 a2 n2 c2 a3 n3 c3)).trans (kept_alloc 0 0 _ nbox)
  have HX : Hid _ := specValid _ a1 a2 a3 n1 c1 n2 c2 n3 c3 ins vs outs (f.keep hK)
  rw [h] at HX
  have HK : Hid _ := hK
  have hN := rb_start (w.alloc (gbox a1 n1 c1 a2 n2 c2 a3 n3 c3))
  rw [show (w.alloc (gbox a1 n1 c1 a2 n2 c2 a3 n3 c3)).heap.size = w.heap.size + 1 by simp] at hN
  have HN : Hid _ := hN
  have hq := of_decide_eq_false hp
  clear hK h f hN hp
  by_cases hneg : p < 0
  · clear hq
    go_enter Tryz.func6, Tryz.ntmps6
    go_wp2_with fail
    refine Calls.mono HX.out ?_
    rintro e w2 ⟨rfl, k2⟩
    obtain ⟨_, q0, q1, q2, f0, f1, f2⟩ := RB.keep HN.out k2
    obtain ⟨y0, y1, y2⟩ := put3_0 w2 (w.heap.size + 1) _ _ _ q0 q1 q2 (.slice none 0 0) (.slice none 0 0) (.slice none 0 0)
    have R : Hid (Kept 0 0 w _) := Kept.new (Kept.trans HK.out k2) (put3_kept w2 (w.heap.size + 1) (.slice none 0 0) (.slice none 0 0) (.slice none 0 0)) (by omega)
    clear k2 HX HN HK
    go_wp2_with fail
    refine bodyPost_ret (v := .tuple #[gnil, .int .i64 6]) (by simp [results, Tryz.results6, go_sem, y0, y1, y2]) rfl ⟨rfl, R.out⟩
  · have h4 : (4 : Int) < p := by omega
    clear hq
    go_enter Tryz.func6, Tryz.ntmps6
    go_wp2_with fail
    refine Calls.mono HX.out ?_
    rintro e w2 ⟨rfl, k2⟩
    obtain ⟨_, q0, q1, q2, f0, f1, f2⟩ := RB.keep HN.out k2
    obtain ⟨y0, y1, y2⟩ := put3_0 w2 (w.heap.size + 1) _ _ _ q0 q1 q2 (.slice none 0 0) (.slice none 0 0) (.slice none 0 0)
    have R : Hid (Kept 0 0 w _) := Kept.new (Kept.trans HK.out k2) (put3_kept w2 (w.heap.size + 1) (.slice none 0 0) (.slice none 0 0) (.slice none 0 0)) (by omega)
    clear k2 HX HN HK
    go_wp2_with fail
    refine bodyPost_ret (v := .tuple #[gnil, .int .i64 6]) (by simp [results, Tryz.results6, go_sem, y0, y1, y2]) rfl ⟨rfl, R.out⟩
set_option maxRecDepth 100000 in
set_option maxHeartbeats 2000000 in
theorem specRP_run (w : World) (b1 b2 b3 : Option Addr) (n1 c1 n2 c2 n3 c3 : Nat) (p : Int) (ins : List Int) (vs : List Vl) (outs : List Int) (f : GS w b1 n1 b2 n2 b3 n3 ins vs outs) (h : okG ins vs outs = true) (hp : idxB p 5 = true) :
    Calls Tryz.prog 6 #[gagg b1 n1 c1 b2 n2 c2 b3 n3 c3, .int .i64 p] w fun e w' => SRo w n1 n3 ins (passM p vs outs) e w' := by
  have hK := (kept_alloc 0 0 w (gbox b1 n1 c1 b2 n2 c2 b3 n3 c3)).trans (kept_alloc 0 0 _ nbox)
  have HX : Hid _ := specValid _ b1 b2 b3 n1 c1 n2 c2 n3 c3 ins vs outs (f.keep hK)
  rw [h] at HX
  have hq := of_decide_eq_true hp
  have HP : Hid (∀ W, Kept 0 0 w W → Calls Tryz.prog 20 #[gagg b1 n1 c1 b2 n2 c2 b3 n3 c3, .int .i64 p] W fun e w' => SPo W n1 n3 ins (passM p vs outs) e w') := fun W kW => l4pass W b1 b2 b3 n1 c1 n2 c2 n3 c3 p ins vs outs (f.keep kW) h hq
  have HK : Hid _ := hK
  have hN := rb_start (w.alloc (gbox b1 n1 c1 b2 n2 c2 b3 n3 c3))
  rw [show (w.alloc (gbox b1 n1 c1 b2 n2 c2 b3 n3 c3)).heap.size = w.heap.size + 1 by simp] at hN
  have HN : Hid _ := hN
  have HB : Hid _ := (g0_start w (.slice b1 n1 c1) (.slice b2 n2 c2) (.slice b3 n3 c3)).keep (kept_alloc 0 0 _ nbox)
  have h0 : ¬ p < 0 := by omega
  have h4 : ¬ (4 : Int) < p := by omega
  clear hK h f hN hp hq
  go_enter Tryz.func6, Tryz.ntmps6
  go_wp2_with fail
  refine Calls.mono HX.out ?_
  rintro e w2 ⟨rfl, k2⟩
  obtain ⟨_, p0, p1, p2⟩ := G0.keep HB.out k2
  have HK2 : Hid _ := Kept.trans HK.out k2
  have HN2 : Hid _ := RB.keep HN.out k2
  clear k2 HX HN HK HB
  go_wp2_with fail
  refine Calls.mono (HP.out w2 HK2.out) ?_
  rintro e w3 ⟨a1, d1, a2, m2, d2, a3, d3, us, rfl, g3, l3, k3⟩
  obtain ⟨_, q0, q1, q2, f0, f1, f2⟩ := RB.keep HN2.out k3
  obtain ⟨y0, y1, y2⟩ := put3_0 w3 (w.heap.size + 1) _ _ _ q0 q1 q2 (.slice a1 n1 d1) (.slice a2 m2 d2) (.slice a3 n3 d3)
  have R : Hid _ := SRo.ret (d1 := d1) (d2 := d2) (d3 := d3) HK2.out (by omega : w.heap.size ≤ w.heap.size + 1) q0 q1 q2 g3 l3 k3
  clear g3 l3 k3 p0 p1 p2
  go_wp2_with fail
  refine bodyPost_ret (v := .tuple #[gagg a1 n1 d1 a2 m2 d2 a3 n3 d3, .int .i64 0]) (by simp [results, Tryz.results6, go_sem, y0, y1, y2]) rfl R.out
end Go.Proofs.YtcphabjekfihnabGreat

namespace Go.Proofs.YtcphabjekfihnabGreat
open Go.RowKit Flt
attribute [local go_sem] alloc_drewN setCell_drewN run_store_float run_store_func

theorem is_one (w : World) (p : Int) : IS (w.alloc (.cells #[.int .i64 p] 3)) 0 (w.heap.size + 1) (some ⟨w.heap.size, 0, none⟩) 1 [p] :=
  ⟨rfl, .inr ⟨w.heap.size, 0, rfl, Nat.zero_le _, Nat.lt_succ_self _, by simp, fun k hk => by
    obtain rfl : k = 0 := by omega
    simp⟩⟩
set_option maxRecDepth 100000 in
set_option maxHeartbeats 2000000 in
theorem implRP_err (w : World) (a1 a2 a3 : Option Addr) (n1 c1 n2 c2 n3 c3 : Nat) (p : Int) (code : Int)
    (H : ∀ W, Kept 0 0 w W → ∀ ap, IS W 0 W.heap.size ap 1 [p] → Calls Tryz.prog 14 #[gagg a1 n1 c1 a2 n2 c2 a3 n3 c3, .slice ap 1 1] W fun e w' => e = .returned (.tuple #[gnil, .int .i64 code]) ∧ Kept 0 0 W w') :
    Calls Tryz.prog 8 #[gagg a1 n1 c1 a2 n2 c2 a3 n3 c3, .int .i64 p] w fun e w' => e = .returned (.tuple #[gnil, .int .i64 code]) ∧ Kept 0 0 w w' := by
  have hz : ((w.alloc (gbox a1 n1 c1 a2 n2 c2 a3 n3 c3)).alloc nbox).heap.size = w.heap.size + 1 + 1 := by simp
  have hK := ((kept_alloc 0 0 w (gbox a1 n1 c1 a2 n2 c2 a3 n3 c3)).trans (kept_alloc 0 0 _ nbox)).trans (kept_alloc 0 0 _ (.cells #[.int .i64 p] 3))
  have hs := is_one ((w.alloc (gbox a1 n1 c1 a2 n2 c2 a3 n3 c3)).alloc nbox) p
  rw [show ((w.alloc (gbox a1 n1 c1 a2 n2 c2 a3 n3 c3)).alloc nbox).heap.size + 1 = (((w.alloc (gbox a1 n1 c1 a2 n2 c2 a3 n3 c3)).alloc nbox).alloc (.cells #[.int .i64 p] 3)).heap.size by simp] at hs
  have HX : Hid _ := H _ hK _ hs
  rw [hz] at HX
  have HK : Hid _ := hK
  have hN := rb_start (w.alloc (gbox a1 n1 c1 a2 n2 c2 a3 n3 c3))
  rw [show (w.alloc (gbox a1 n1 c1 a2 n2 c2 a3 n3 c3)).heap.size = w.heap.size + 1 by simp] at hN
  have HN : Hid _ := hN.keep (kept_alloc 0 0 _ (.cells #[.int .i64 p] 3))
  clear hK hs hN H hz
  go_enter Tryz.func8, Tryz.ntmps8
  go_wp2_with fail
  refine Calls.mono HX.out ?_
  rintro e w2 ⟨rfl, k2⟩
  obtain ⟨_, q0, q1, q2, f0, f1, f2⟩ := RB.keep HN.out k2
  obtain ⟨y0, y1, y2⟩ := put3_0 w2 (w.heap.size + 1) _ _ _ q0 q1 q2 (.slice none 0 0) (.slice none 0 0) (.slice none 0 0)
  have R : Hid (Kept 0 0 w _) := Kept.new (Kept.trans HK.out k2) (put3_kept w2 (w.heap.size + 1) (.slice none 0 0) (.slice none 0 0) (.slice none 0 0)) (by omega)
  clear k2 HX HN HK
  go_wp2_with fail
  refine bodyPost_ret (v := .tuple #[gnil, .int .i64 code]) (by simp [results, Tryz.results8, go_sem, y0, y1, y2]) rfl ⟨rfl, R.out⟩
theorem implRP_inv (w : World) (a1 a2 a3 : Option Addr) (n1 c1 n2 c2 n3 c3 : Nat) (p : Int) (ins : List Int) (vs : List Vl) (outs : List Int) (f : GS w a1 n1 a2 n2 a3 n3 ins vs outs) (h : okG ins vs outs = false) :
    Calls Tryz.prog 8 #[gagg a1 n1 c1 a2 n2 c2 a3 n3 c3, .int .i64 p] w fun e w' => e = .returned (.tuple #[gnil, .int .i64 1]) ∧ Kept 0 0 w w' :=
  implRP_err w a1 a2 a3 n1 c1 n2 c2 n3 c3 p 1 fun W k ap _ => implOpt_inv W a1 a2 a3 ap n1 c1 n2 c2 n3 c3 1 1 ins vs outs (f.keep k) h
theorem implRP_idx (w : World) (a1 a2 a3 : Option Addr) (n1 c1 n2 c2 n3 c3 : Nat) (p : Int) (ins : List Int) (vs : List Vl) (outs : List Int) (f : GS w a1 n1 a2 n2 a3 n3 ins vs outs) (h : okG ins vs outs = true) (hp : idxB p 5 = false) :
    Calls Tryz.prog 8 #[gagg a1 n1 c1 a2 n2 c2 a3 n3 c3, .int .i64 p] w fun e w' => e = .returned (.tuple #[gnil, .int .i64 6]) ∧ Kept 0 0 w w' :=
  implRP_err w a1 a2 a3 n1 c1 n2 c2 n3 c3 p 6 fun W k ap hs => implOpt_idx W a1 a2 a3 ap n1 c1 n2 c2 n3 c3 1 1 ins vs outs (f.keep k) h (by decide) 0 _ [p] hs (by decide) (by simp [hp])
set_option maxRecDepth 100000 in
set_option maxHeartbeats 2000000 in
theorem implRP_run (w : World) (lo g1 g2 g3 n1 c1 n2 c2 n3 c3 : Nat) (p : Int) (ins : List Int) (vs : List Vl) (outs : List Int) (f : GO w lo g1 g2 g3 n2 ins vs outs) (e1 : ins.length = n1) (e3 : outs.length = n3) (hlt : Kb vs) (h : okG ins vs outs = true) (hp : idxB p 5 = true) :
    Calls Tryz.prog 8 #[gagg (some ⟨g1, 0, none⟩) n1 c1 (some ⟨g2, 0, none⟩) n2 c2 (some ⟨g3, 0, none⟩) n3 c3, .int .i64 p] w fun e w' => PR w n1 n3 ins (passM p vs outs) e w' := by
  have hz : ((w.alloc (gbox (some ⟨g1, 0, none⟩) n1 c1 (some ⟨g2, 0, none⟩) n2 c2 (some ⟨g3, 0, none⟩) n3 c3)).alloc nbox).heap.size = w.heap.size + 1 + 1 := by simp
  have hK := ((kept_alloc 0 0 w (gbox (some ⟨g1, 0, none⟩) n1 c1 (some ⟨g2, 0, none⟩) n2 c2 (some ⟨g3, 0, none⟩) n3 c3)).trans (kept_alloc 0 0 _ nbox)).trans (kept_alloc 0 0 _ (.cells #[.int .i64 p] 3))
  have hs := is_one ((w.alloc (gbox (some ⟨g1, 0, none⟩) n1 c1 (some ⟨g2, 0, none⟩) n2 c2 (some ⟨g3, 0, none⟩) n3 c3)).alloc nbox) p
  have HX : Hid _ := implOpt_run _ lo g1 g2 g3 n1 c1 n2 c2 n3 c3 0 _ _ 1 1 ins vs outs [p] (f.keepJ hK) e1 e3 hlt h hs (by decide) (by simp [hp])
  rw [hz] at HX
  have HM : Hid (optTo vs outs [p] 1 = passM p vs outs) := rfl
  rw [HM.out] at HX
  have HZ : Hid (w.heap.size + 1 + 1 < (((w.alloc (gbox (some ⟨g1, 0, none⟩) n1 c1 (some ⟨g2, 0, none⟩) n2 c2 (some ⟨g3, 0, none⟩) n3 c3)).alloc nbox).alloc (.cells #[.int .i64 p] 3)).heap.size) := by show _ < _; simp
  have HK : Hid _ := hK
  have hN := rb_start (w.alloc (gbox (some ⟨g1, 0, none⟩) n1 c1 (some ⟨g2, 0, none⟩) n2 c2 (some ⟨g3, 0, none⟩) n3 c3))
  rw [show (w.alloc (gbox (some ⟨g1, 0, none⟩) n1 c1 (some ⟨g2, 0, none⟩) n2 c2 (some ⟨g3, 0, none⟩) n3 c3)).heap.size = w.heap.size + 1 by simp] at hN
  have HN : Hid _ := hN.keep (kept_alloc 0 0 _ (.cells #[.int .i64 p] 3))
  clear hK hs hN hz f HM
  go_enter Tryz.func8, Tryz.ntmps8
  go_wp2_with fail
  refine Calls.mono HX.out ?_
  clear HX
  generalize ((w.alloc (gbox (some ⟨g1, 0, none⟩) n1 c1 (some ⟨g2, 0, none⟩) n2 c2 (some ⟨g3, 0, none⟩) n3 c3)).alloc nbox).alloc (.cells #[.int .i64 p] 3) = w1 at HK HN HZ ⊢
  rintro e w2 ⟨G1, d1, G2, m2, d2, G3, d3, us, rfl, z1, z2, z3, z4, k2⟩
  obtain ⟨_, q0, q1, q2, f0, f1, f2⟩ := RB.keep HN.out k2
  have hz := HZ.out
  obtain ⟨y0, y1, y2⟩ := put3_0 w2 (w.heap.size + 1) _ _ _ q0 q1 q2 (.slice (some ⟨G1, 0, none⟩) n1 d1) (.slice (some ⟨G2, 0, none⟩) m2 d2) (.slice (some ⟨G3, 0, none⟩) n3 d3)
  have kp := put3_kept w2 (w.heap.size + 1) (.slice (some ⟨G1, 0, none⟩) n1 d1) (.slice (some ⟨G2, 0, none⟩) m2 d2) (.slice (some ⟨G3, 0, none⟩) n3 d3)
  have R : Hid (PR w n1 n3 ins (passM p vs outs) (.returned (.tuple #[gagg (some ⟨G1, 0, none⟩) n1 d1 (some ⟨G2, 0, none⟩) m2 d2 (some ⟨G3, 0, none⟩) n3 d3, .int .i64 0])) _) :=
    ⟨G1, d1, G2, m2, d2, G3, d3, us, rfl, ⟨z1.i.keep kp (by omega), z1.v.keep kp (by omega), z1.o.keep kp (by omega), z1.d12, z1.d13, z1.d23⟩, z2, z3, ⟨by omega, by omega, by omega⟩, (HK.out.trans k2).new kp (by omega)⟩
  clear k2 kp z1 z2 z3 z4 hz
  go_wp2_with fail
  refine bodyPost_ret (v := .tuple #[gagg (some ⟨G1, 0, none⟩) n1 d1 (some ⟨G2, 0, none⟩) m2 d2 (some ⟨G3, 0, none⟩) n3 d3, .int .i64 0]) (by simp [results, Tryz.results8, go_sem, y0, y1, y2]) rfl R.out
end Go.Proofs.YtcphabjekfihnabGreat

namespace Go.Proofs.YtcphabjekfihnabGreat
open Go.RowKit Flt

/-- What RunPass and Optimise answer, as data: the three lists, the code. -/
structure KR where
  ins : List Int
  vs : List Vl
  outs : List Int
  code : Int
def KR.bad (c : Int) : KR := ⟨[], [], [], c⟩
/-- The answer of the model: a graph that is read. -/
def KS1 (w : World) (J : KR) (e : Ending) (w' : World) : Prop :=
  (∃ a1 c1 a2 c2 a3 c3 us, e = .returned (.tuple #[gagg a1 J.ins.length c1 a2 J.vs.length c2 a3 J.outs.length c3, .int .i64 J.code]) ∧ GS w' a1 J.ins.length a2 J.vs.length a3 J.outs.length J.ins us J.outs ∧ Lk us J.vs) ∧ Kept 0 0 w w'
/-- The answer of the program: besides, its lists lie in blocks of their own that came behind w. -/
def KS2 (w : World) (J : KR) (e : Ending) (w' : World) : Prop :=
  (∃ a1 c1 a2 c2 a3 c3 us, e = .returned (.tuple #[gagg a1 J.ins.length c1 a2 J.vs.length c2 a3 J.outs.length c3, .int .i64 J.code]) ∧ (Kb us ∧ Lk us J.vs ∧ us.length = J.vs.length) ∧
    ∀ H, w'.heap.size ≤ H → ∃ g1 g2 g3, OG w' g1 g2 g3 a1 J.ins.length a2 J.vs.length a3 J.outs.length J.ins us J.outs ∧ (w.heap.size ≤ g1 ∧ w.heap.size ≤ g2 ∧ w.heap.size ≤ g3) ∧ ((g1 < w'.heap.size ∨ H < g1) ∧ (g2 < w'.heap.size ∨ H < g2) ∧ (g3 < w'.heap.size ∨ H < g3))) ∧ Kept 0 0 w w'
theorem ks1_bad {w w' : World} (c : Int) (k : Kept 0 0 w w') : KS1 w (.bad c) (.returned (.tuple #[gnil, .int .i64 c])) w' := ⟨⟨none, 0, none, 0, none, 0, [], rfl, gs_nil w', rfl⟩, k⟩
theorem ks2_bad {w w' : World} (c : Int) (k : Kept 0 0 w w') : KS2 w (.bad c) (.returned (.tuple #[gnil, .int .i64 c])) w' :=
  ⟨⟨none, 0, none, 0, none, 0, [], rfl, ⟨by intro v hv; simp at hv, rfl, rfl⟩, fun H hH => ⟨H + 1, H + 2, H + 3, ⟨.inl rfl, .inl rfl, .inl rfl, by omega, by omega, by omega⟩, by have := k.size; omega, by omega⟩⟩, k⟩
theorem ks1_of {w w' : World} {n1 n3 : Nat} {ins : List Int} {M : List Vl × List Int} {e : Ending} (h : SRo w n1 n3 ins M e w') : KS1 w ⟨ins, M.1, M.2, 0⟩ e w' := by
  obtain ⟨a1, d1, a2, n2, d2, a3, d3, us, rfl, g, l, k⟩ := h
  have e1 := g.i.len
  have e2 := g.v.len
  have e3 := g.o.len
  rw [l.len] at e2
  subst e1 e2 e3
  exact ⟨⟨a1, d1, a2, d2, a3, d3, us, rfl, g, l⟩, k⟩
theorem ks2_of {w w' : World} {n1 n3 : Nat} {ins : List Int} {M : List Vl × List Int} {e : Ending} (h : PR w n1 n3 ins M e w') : KS2 w ⟨ins, M.1, M.2, 0⟩ e w' := by
  obtain ⟨G1, d1, G2, n2, d2, G3, d3, us, rfl, g, l, kb, lo, k⟩ := h
  have e1 := g.i.len
  have e2 := g.v.len
  have e3 := g.o.len
  rw [l.len] at e2
  subst e1 e2 e3
  exact ⟨⟨_, d1, _, d2, _, d3, us, rfl, ⟨kb, l, l.len⟩, fun H hH => ⟨G1, G2, G3, ⟨.inr ⟨rfl, g.i⟩, .inr ⟨rfl, g.v⟩, .inr ⟨rfl, g.o⟩, g.d12, g.d13, g.d23⟩, lo, ⟨.inl g.i.lt, .inl g.v.lt, .inl g.o.lt⟩⟩⟩, k⟩
def rres (ins : List Int) (vs : List Vl) (outs : List Int) (p : Int) : KR :=
  if okG ins vs outs = false then .bad 1
  else if idxB p 5 = false then .bad 6
  else ⟨ins, (passM p vs outs).1, (passM p vs outs).2, 0⟩
theorem rres_len (ins : List Int) (vs : List Vl) (outs : List Int) (p : Int) : (rres ins vs outs p).ins.length ≤ 1048576 ∧ (rres ins vs outs p).vs.length ≤ 1048576 ∧ (rres ins vs outs p).outs.length ≤ 1048576 := by
  unfold rres
  cases h : okG ins vs outs
  · rw [if_pos rfl]; exact ⟨Nat.zero_le _, Nat.zero_le _, Nat.zero_le _⟩
  rw [if_neg (by simp)]
  split
  · exact ⟨Nat.zero_le _, Nat.zero_le _, Nat.zero_le _⟩
  · obtain ⟨⟨q1, q2, q3⟩, _⟩ := okG_parts (passM_ok p h)
    exact ⟨by simp only; omega, by simp only; omega, by simp only; omega⟩
theorem specR (w : World) (lo g1 g2 g3 n1 c1 n2 c2 n3 c3 : Nat) (p : Int) (ins : List Int) (vs : List Vl) (outs : List Int) (f : GO w lo g1 g2 g3 n2 ins vs outs) (e1 : ins.length = n1) (e3 : outs.length = n3) (hlt : Kb vs) :
    Calls Tryz.prog 6 #[gagg (some ⟨g1, 0, none⟩) n1 c1 (some ⟨g2, 0, none⟩) n2 c2 (some ⟨g3, 0, none⟩) n3 c3, .int .i64 p] w fun e w' => KS1 w (rres ins vs outs p) e w' := by
  have hgs := f.gs hlt
  rw [e1, e3] at hgs
  unfold rres
  cases h : okG ins vs outs
  · rw [if_pos rfl]
    exact (specRP_inv w _ _ _ n1 c1 n2 c2 n3 c3 p ins vs outs hgs h).mono fun _ _ q => by rw [q.1]; exact ks1_bad 1 q.2
  rw [if_neg (by simp)]
  cases hp : idxB p 5
  · rw [if_pos rfl]
    exact (specRP_idx w _ _ _ n1 c1 n2 c2 n3 c3 p ins vs outs hgs h hp).mono fun _ _ q => by rw [q.1]; exact ks1_bad 6 q.2
  · rw [if_neg (by simp)]
    exact (specRP_run w _ _ _ n1 c1 n2 c2 n3 c3 p ins vs outs hgs h hp).mono fun _ _ q => ks1_of q
theorem implR (w : World) (lo g1 g2 g3 n1 c1 n2 c2 n3 c3 : Nat) (p : Int) (ins : List Int) (vs : List Vl) (outs : List Int) (f : GO w lo g1 g2 g3 n2 ins vs outs) (e1 : ins.length = n1) (e3 : outs.length = n3) (hlt : Kb vs) :
    Calls Tryz.prog 8 #[gagg (some ⟨g1, 0, none⟩) n1 c1 (some ⟨g2, 0, none⟩) n2 c2 (some ⟨g3, 0, none⟩) n3 c3, .int .i64 p] w fun e w' => KS2 w (rres ins vs outs p) e w' := by
  have hgs := f.gs hlt
  rw [e1, e3] at hgs
  unfold rres
  cases h : okG ins vs outs
  · rw [if_pos rfl]
    exact (implRP_inv w _ _ _ n1 c1 n2 c2 n3 c3 p ins vs outs hgs h).mono fun _ _ q => by rw [q.1]; exact ks2_bad 1 q.2
  rw [if_neg (by simp)]
  cases hp : idxB p 5
  · rw [if_pos rfl]
    exact (implRP_idx w _ _ _ n1 c1 n2 c2 n3 c3 p ins vs outs hgs h hp).mono fun _ _ q => by rw [q.1]; exact ks2_bad 6 q.2
  · rw [if_neg (by simp)]
    exact (implRP_run w lo g1 g2 g3 n1 c1 n2 c2 n3 c3 p ins vs outs f e1 e3 hlt h hp).mono fun _ _ q => ks2_of q
end Go.Proofs.YtcphabjekfihnabGreat

namespace Go.Proofs.YtcphabjekfihnabGreat
open Go.RowKit Flt
attribute [local go_sem] alloc_drewN setCell_drewN run_store_float

theorem fb_beqL {x y : Nat} (h : fb x = fb y) : ((fb x : Int) == (fb y : Int)) = true := by rw [h]; exact beq_self_eq_true _
set_option maxRecDepth 100000 in
set_option maxHeartbeats 1000000 in
theorem eqValL (w : World) (u v : Vl) (h : cv u = cv v) (hk : u.k < 18446744073709551616) (hk' : v.k < 18446744073709551616) :
    Calls Tryz.prog 39 #[u.agg, v.agg] w fun e w' => e = .returned (.bool true) ∧ Kept 0 0 w w' := by
  obtain ⟨op, len, a, b, c, k⟩ := u
  obtain ⟨op', len', a', b', c', k'⟩ := v
  unfold cv at h
  simp only [Vl.mk.injEq] at h
  obtain ⟨rfl, rfl, rfl, rfl, rfl, h6⟩ := h
  simp only at hk hk' ⊢
  have h2 := convff
  go_enter Tryz.func39, Tryz.ntmps39
  go_wp2_with fail
  refine (sameF _ _ _ hk hk').mono ?_
  rintro e w2 ⟨rfl, rfl⟩
  rw [fb_beqL h6]
  go_wp2
  go_ret
  exact ⟨rfl, (kept_alloc 0 0 w _).trans (kept_alloc 0 0 _ _)⟩
set_option maxRecDepth 100000 in
set_option maxHeartbeats 2000000 in
theorem eqVSL_pos (w : World) (g1 o1 g2 o2 n ca cb : Nat) (us vs : List Vl) (hn : n ≤ 1099511627776) (b1 : g1 < w.heap.size) (b2 : g2 < w.heap.size) (h : Lk us vs) (hl : Kb us) (hl' : Kb vs)
    (hx : ∀ k, k < n → At w g1 (o1 + k * 6) (us.getD k Vl.zero)) (hy : ∀ k, k < n → At w g2 (o2 + k * 6) (vs.getD k Vl.zero)) :
    Calls Tryz.prog 22 #[.slice (some ⟨g1, o1, none⟩) n ca, .slice (some ⟨g2, o2, none⟩) n cb] w fun e w' => e = .returned (.bool true) ∧ Kept 0 0 w w' := by
  have HX : Hid (∀ k, k < n → At w g1 (o1 + k * 6) (us.getD k Vl.zero)) := hx
  have HY : Hid (∀ k, k < n → At w g2 (o2 + k * 6) (vs.getD k Vl.zero)) := hy
  have HL : Hid (Lk us vs ∧ Kb us ∧ Kb vs) := ⟨h, hl, hl'⟩
  clear hx hy hl hl' h
  go_enter Tryz.func22, Tryz.ntmps22
  go_wp2_with fail
  go_loopw [5] (fun i W => ∃ k : Nat, k ≤ n ∧ i = .int .i64 k ∧ Kept 0 0 w W) (fun i _ => n - (intOf i).toNat)
  case atStart => exact ⟨0, Nat.zero_le _, rfl, Kept.refl _ _ _⟩
  case round =>
    obtain ⟨k, hk, rfl, HW⟩ := hrel
    by_cases hlt : k < n
    · obtain ⟨c0, c1, c2, c3, c4, c5⟩ := (HX.out k hlt).keep b1 HW (.inr (.inr (Nat.le_refl _)))
      obtain ⟨d0, d1, d2, d3, d4, d5⟩ := (HY.out k hlt).keep b2 HW (.inr (.inr (Nat.le_refl _)))
      have HE : Hid (∀ m, Calls Tryz.prog 39 #[(us.getD k Vl.zero).agg, (vs.getD k Vl.zero).agg] (wr.drewN m) fun e w' => e = .returned (.bool true) ∧ Kept 0 0 w w') := fun m => (eqValL _ _ _ (HL.out.1.at_ k) (HL.out.2.1.at_ k) (HL.out.2.2.at_ k)).mono fun _ _ h => ⟨h.1, (HW.trans (kept_drewN 0 0 wr m)).trans h.2⟩
      generalize us.getD k Vl.zero = u at c0 c1 c2 c3 c4 c5 HE
      generalize vs.getD k Vl.zero = v at d0 d1 d2 d3 d4 d5 HE
      go_wp2_with fail
      go_region_with (go_at_call 39; refine (HE.out 1).mono ?_; rintro e w2 ⟨rfl, hk2⟩)
      all_goals
        go_wp2
        go_roundw
        case rel => exact ⟨k + 1, by omega, by go_num, hk2⟩
        case measure => simp [intOf]; omega
    · go_wp2
      go_ret
      exact ⟨rfl, HW⟩
theorem eqVSL (w : World) (lo hi lo' hi' : Nat) (a b : Option Addr) (n ca cb : Nat) (us vs : List Vl) (f : VS w lo hi a n us) (g : VS w lo' hi' b n vs) (h : Lk us vs) (hn : n ≤ 1099511627776) :
    Calls Tryz.prog 22 #[.slice a n ca, .slice b n cb] w fun e w' => e = .returned (.bool true) ∧ Kept 0 0 w w' := by
  rcases f.at_ with rfl | ⟨g1, o1, rfl, a1, a2, a3, a4⟩
  · exact (eqVS_zero w a b ca cb).mono fun _ _ h => ⟨h.1, by rw [h.2]; exact Kept.refl _ _ _⟩
  · rcases g.at_ with rfl | ⟨g2, o2, rfl, b1, b2, b3, b4⟩
    · exact (eqVS_zero w _ b ca cb).mono fun _ _ h => ⟨h.1, by rw [h.2]; exact Kept.refl _ _ _⟩
    · exact eqVSL_pos w g1 o1 g2 o2 n ca cb us vs hn a3 b3 h f.lt g.lt a4 b4
set_option maxRecDepth 100000 in
set_option maxHeartbeats 2000000 in
theorem eqGraphL (w : World) (a1 a2 a3 a1' a2' a3' : Option Addr) (n1 c1 n2 c2 n3 c3 c1' c2' c3' : Nat) (ins : List Int) (us vs : List Vl) (outs : List Int) (f : GS w a1 n1 a2 n2 a3 n3 ins us outs) (g : GS w a1' n1 a2' n2 a3' n3 ins vs outs) (hL : Lk us vs) (h1 : n1 ≤ 1048576) (h2 : n2 ≤ 1048576) (h3 : n3 ≤ 1048576) :
    Calls Tryz.prog 9 #[gagg a1 n1 c1 a2 n2 c2 a3 n3 c3, gagg a1' n1 c1' a2' n2 c2' a3' n3 c3'] w fun e w' => e = .returned (.bool true) ∧ Kept 0 0 w w' := by
  have hK := (kept_alloc 0 0 w (.cells #[.slice a1 n1 c1, .slice a2 n2 c2, .slice a3 n3 c3] 29)).trans (kept_alloc 0 0 _ (.cells #[.slice a1' n1 c1', .slice a2' n2 c2', .slice a3' n3 c3'] 29))
  have hB := eg_start w (.slice a1 n1 c1) (.slice a2 n2 c2) (.slice a3 n3 c3) (.slice a1' n1 c1') (.slice a2' n2 c2') (.slice a3' n3 c3')
  have f' := f.keep hK
  have g' := g.keep hK
  have HL : Hid _ := hL
  clear f g hL
  go_enter Tryz.func9, Tryz.ntmps9
  go_wp2_with fail
  generalize hw3 : (w.alloc (.cells #[.slice a1 n1 c1, .slice a2 n2 c2, .slice a3 n3 c3] 29)).alloc (.cells #[.slice a1' n1 c1', .slice a2' n2 c2', .slice a3' n3 c3'] 29) = w3 at hB hK f' g' ⊢
  clear hw3
  refine (eqI _ _ _ _ _ _ _ _ _ _ _ f'.i g'.i (by omega)).mono ?_
  rintro e w4 ⟨rfl, k4'⟩
  have k4 := k4'.kept 0 0
  clear k4'
  replace hB := hB.keep k4
  replace f' := f'.keep k4
  replace g' := g'.keep k4
  replace hK := hK.trans k4
  clear k4
  have q1 := hB.q1
  have q2 := hB.r1
  go_wp2_with fail
  clear q1 q2
  refine (eqVSL _ _ _ _ _ _ _ _ _ _ _ _ f'.v g'.v HL.out (by omega)).mono ?_
  rintro e w5 ⟨rfl, k5⟩
  replace hB := hB.keep k5
  replace f' := f'.keep k5
  replace g' := g'.keep k5
  replace hK := hK.trans k5
  clear k5
  have q1 := hB.q2
  have q2 := hB.r2
  go_wp2_with fail
  clear q1 q2
  refine (eqI _ _ _ _ _ _ _ _ _ _ _ f'.o g'.o (by omega)).mono ?_
  rintro e w6 ⟨rfl, k6'⟩
  have k6 := k6'.kept 0 0
  replace hK := hK.trans k6
  clear k6' k6 hB f' g'
  go_wp2
  go_ret
  exact ⟨rfl, hK⟩
end Go.Proofs.YtcphabjekfihnabGreat
