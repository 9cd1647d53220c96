import Derived.Test.YtiiimofkkahobaaDoorP19
import Derived.Deep.RegionHeld3
namespace Go.Proofs.YtiiimofkkahobaaDoor
open Go.RowKit Flt
attribute [local go_sem] alloc_drewN setCell_drewN run_store_float
/-! Region 12 of impl.GraphText: the words of a value's line. -/
theorem concat3 (w : World) (bq cq g1 g2 g3 n1 n2 n3 k1 k2 k3 : Nat) (X1 X2 X3 : List (List UInt8)) (q0 : w.cell? ⟨bq, 0, none⟩ = some (.slice (some ⟨g1, 0, none⟩) n1 k1)) (q1 : w.cell? ⟨bq, 1, none⟩ = some (.slice (some ⟨g2, 0, none⟩) n2 k2)) (q2 : w.cell? ⟨bq, 2, none⟩ = some (.slice (some ⟨g3, 0, none⟩) n3 k3))
    (l1 : X1.length = n1 ∧ 0 < n1 ∧ n1 ≤ 100 ∧ g1 < w.heap.size ∧ WC w ⟨g1, 0, none⟩ X1) (l2 : X2.length = n2 ∧ 0 < n2 ∧ n2 ≤ 100 ∧ g2 < w.heap.size ∧ WC w ⟨g2, 0, none⟩ X2) (l3 : X3.length = n3 ∧ 0 < n3 ∧ n3 ≤ 100 ∧ g3 < w.heap.size ∧ WC w ⟨g3, 0, none⟩ X3) (hbq : bq < w.heap.size) :
    Calls Tryd.prog 27 #[.slice (some ⟨bq, 0, none⟩) 3 cq] w fun e w' => ∃ v, e = .returned v ∧ WB w' w.heap.size v (X1 ++ X2 ++ X3) ∧ Kept 0 0 w w' := by
  have h := concatS w bq cq (fun k => match k with | 0 => g1 | 1 => g2 | _ => g3) (fun k => match k with | 0 => n1 | 1 => n2 | _ => n3) (fun k => match k with | 0 => k1 | 1 => k2 | _ => k3) (fun k => match k with | 0 => X1 | 1 => X2 | _ => X3)
    (fun k hk => match k, hk with | 0, _ => q0 | 1, _ => q1 | 2, _ => q2) (fun k hk => match k, hk with | 0, _ => l1 | 1, _ => l2 | 2, _ => l3) hbq
  exact h
theorem wc_lit3 (W X : World) (s : Nat) (a b c : List UInt8) (hs : s = W.heap.size) (k : Kept 0 0 (W.alloc (.cells #[strL a, strL b, strL c] 9)) X) : s < X.heap.size ∧ WC X ⟨s, 0, none⟩ [a, b, c] := by
  subst hs
  refine ⟨by have := k.size; simp at this; omega, WC.keep ?_ (by simp) k⟩
  intro j x e
  rw [add_addr, World.cell?_alloc_new]
  match j, e with
  | 0, e => cases e; rfl
  | 1, e => cases e; rfl
  | 2, e => cases e; rfl
theorem wc_lit2 (W X : World) (s : Nat) (a b : List UInt8) (hs : s = W.heap.size) (k : Kept 0 0 (W.alloc (.cells #[strL a, strL b] 9)) X) : s < X.heap.size ∧ WC X ⟨s, 0, none⟩ [a, b] := by
  subst hs
  refine ⟨by have := k.size; simp at this; omega, WC.keep ?_ (by simp) k⟩
  intro j x e
  rw [add_addr, World.cell?_alloc_new]
  match j, e with
  | 0, e => cases e; rfl
  | 1, e => cases e; rfl
theorem lt_keep {g : Nat} {w w' : World} (h : g < w.heap.size) (k : Kept 0 0 w w') : g < w'.heap.size := Nat.lt_of_lt_of_le h k.size
theorem cell_lit (W : World) (s i : Nat) (T : TypeId) (cs : Array Value) (v : Value) (hs : s = W.heap.size) (h : cs[i]? = some v) : (W.alloc (.cells cs T)).cell? ⟨s, i, none⟩ = some v := by
  subst hs
  rw [World.cell?_alloc_new]
  exact h
/-- The region of this number in a piece of code. -/
def findG (n : Nat) : Code → Option Code
  | .region i ops d => if i = n then some (.region i ops d) else none
  | .seq a b => match findG n a with
    | some c => some c
    | none => findG n b
  | .cond _ a b => match findG n a with
    | some c => some c
    | none => findG n b
  | .block _ c => findG n c
  | .scope c => findG n c
  | .loop c => findG n c
  | _ => none
theorem wp_onG {P : Program} {c : Code} {K : Act → World → Prop} {Q : Exit → Act → World → Prop} {a : Act} {w : World} (h : c.wp P (Exit.then K fun _ _ _ => False) a w) : c.wp P (Exit.then K Q) a w := by
  refine wp_mono h ?_
  intro e a' w' hq
  cases e <;> first | exact hq | exact hq.elim
/-- Region n of impl.GraphText. -/
noncomputable def greg (n : Nat) : Code := (Tryd.f7.body.bind (findG n)).getD .skip
set_option maxRecDepth 1000000 in
set_option maxHeartbeats 8000000 in
theorem reg12 {wA : World} {j p bx : Nat} {vl va vb vc : Int} {vk : Nat} {lj lo ll : List UInt8} {ps : List (List UInt8)} {K : Act → World → Prop} {c0 c1 c2 c3 c4 c5 c8 c9 c10 c11 c12 c13 c14 c15 c16 c17 c18 c19 c20 c21 c22 c23 c24 c25 c26 c27 c28 c29 c30 c31 c32 c33 c34 c35 c36 c37 c38 c39 c40 c41 c42 c43 c44 c45 c46 c47 c48 c49 c50 c51 c52 c53 c54 c55 c56 c57 c58 c59 c60 c61 c62 c63 c64 c65 c66 c67 : Value} (hp14 : p < 14)
    (HV : Hid (∀ X, Kept 0 0 wA X → Calls Tryd.prog 28 #[.int .i64 (j : Int)] X fun e w' => e = .returned (strL lj) ∧ Kept 0 0 X w'))
    (HP : Hid (∀ X, Kept 0 0 wA X → Calls Tryd.prog 29 #[.agg #[.int .i64 (p : Int), .int .i64 vl, .int .i64 va, .int .i64 vb, .int .i64 vc, .float .f64 vk]] X fun e w' => ∃ u, e = .returned u ∧ WB w' X.heap.size u ps ∧ Kept 0 0 X w'))
    (HI : Hid (∀ X, Kept 0 0 wA X → Calls Tryd.prog 26 #[.int .i64 vl] X fun e w' => e = .returned (strL ll) ∧ Kept 0 0 X w'))
    (HPL : Hid (0 < ps.length ∧ ps.length ≤ 100)) (hc : Hid (∀ W, Kept 0 0 wA W → (W.cell? ⟨bx, 0, none⟩ = some (.int .i64 (p : Int)) ∧ W.cell? ⟨bx, 1, none⟩ = some (.int .i64 vl) ∧ W.cell? ⟨bx, 2, none⟩ = some (.int .i64 va) ∧ W.cell? ⟨bx, 3, none⟩ = some (.int .i64 vb) ∧ W.cell? ⟨bx, 4, none⟩ = some (.int .i64 vc) ∧ W.cell? ⟨bx, 5, none⟩ = some (.float .f64 vk) ∧ W.cell? ⟨0, p, none⟩ = some (strL lo))))
    (hk : ∀ (W' : World) (vv u35 u36 u37 u38 u39 u40 u41 u42 u43 u44 u45 u46 u47 u48 u49 : Value), WB W' wA.heap.size vv ([lj, [61], lo] ++ ps ++ [[58], ll]) → Kept 0 0 wA W' → K ⟨#[c0, c1, c2, c3, c4, c5, .int .i64 (j : Int), .pointer (some ⟨bx, 0, none⟩), vv, c9, c10, c11, c12, c13, c14, c15, c16, c17, c18, c19, c20, c21, c22, c23, c24, c25, c26, c27, c28, c29, c30, c31, c32, c33, c34, u35, u36, u37, u38, u39, u40, u41, u42, u43, u44, u45, u46, u47, u48, u49, c50, c51, c52, c53, c54, c55, c56, c57, c58, c59, c60, c61, c62, c63, c64, c65, c66, c67], []⟩ W') :
    Code.wp Tryd.prog (greg 12) (Exit.then K fun _ _ _ => False) ⟨#[c0, c1, c2, c3, c4, c5, .int .i64 (j : Int), .pointer (some ⟨bx, 0, none⟩), c8, c9, c10, c11, c12, c13, c14, c15, c16, c17, c18, c19, c20, c21, c22, c23, c24, c25, c26, c27, c28, c29, c30, c31, c32, c33, c34, c35, c36, c37, c38, c39, c40, c41, c42, c43, c44, c45, c46, c47, c48, c49, c50, c51, c52, c53, c54, c55, c56, c57, c58, c59, c60, c61, c62, c63, c64, c65, c66, c67], []⟩ wA := by
  have HK : Hid _ := hk
  have HR0 : Hid _ := Kept.refl 0 0 wA
  obtain ⟨e0, e1, e2, e3, e4, e5, e6⟩ := hc.out wA (Kept.refl 0 0 wA)
  have hp0 : (0 : Int) ≤ (p : Int) := by omega
  have hp1 : (p : Int) < 14 := by omega
  clear hk
  conv => arg 2; whnf
  go_region_held3 (fun w' => w'.cell? ⟨bx, 0, none⟩ = some (.int .i64 (p : Int)) ∧ w'.cell? ⟨bx, 1, none⟩ = some (.int .i64 vl) ∧ w'.cell? ⟨bx, 2, none⟩ = some (.int .i64 va) ∧ w'.cell? ⟨bx, 3, none⟩ = some (.int .i64 vb) ∧ w'.cell? ⟨bx, 4, none⟩ = some (.int .i64 vc) ∧ w'.cell? ⟨bx, 5, none⟩ = some (.float .f64 vk) ∧ w'.cell? ⟨0, p, none⟩ = some (strL lo)) (first | (refine hc.out _ ?_; (repeat (first | exact Kept.refl 0 0 _ | exact HR0.out | refine Kept.trans ?_ k6 | refine Kept.trans ?_ k5 | refine Kept.trans ?_ k4 | refine Kept.trans ?_ k3 | refine Kept.trans ?_ (kept_alloc 0 0 _ _) | refine Kept.trans ?_ (kept_drew _) | refine Kept.trans ?_ (kept_drewN 0 0 _ _)))))
    (first
      | (go_at_call 28; refine Calls.mono (HV.out _ (by (repeat (first | exact Kept.refl 0 0 _ | exact HR0.out | refine Kept.trans ?_ k6 | refine Kept.trans ?_ k5 | refine Kept.trans ?_ k4 | refine Kept.trans ?_ k3 | refine Kept.trans ?_ (kept_alloc 0 0 _ _) | refine Kept.trans ?_ (kept_drew _) | refine Kept.trans ?_ (kept_drewN 0 0 _ _))))) ?_; rintro e w3 ⟨rfl, k3⟩)
      | (go_at_call 29; refine Calls.mono (HP.out _ (by (repeat (first | exact Kept.refl 0 0 _ | exact HR0.out | refine Kept.trans ?_ k6 | refine Kept.trans ?_ k5 | refine Kept.trans ?_ k4 | refine Kept.trans ?_ k3 | refine Kept.trans ?_ (kept_alloc 0 0 _ _) | refine Kept.trans ?_ (kept_drew _) | refine Kept.trans ?_ (kept_drewN 0 0 _ _))))) ?_; rintro e w4 ⟨u4, rfl, r4, k4⟩; obtain ⟨g4, q4, rfl, b4, z4, y4, p4⟩ := WB.at_ r4 HPL.out.1)
      | (go_at_call 26; refine Calls.mono (HI.out _ (by (repeat (first | exact Kept.refl 0 0 _ | exact HR0.out | refine Kept.trans ?_ k6 | refine Kept.trans ?_ k5 | refine Kept.trans ?_ k4 | refine Kept.trans ?_ k3 | refine Kept.trans ?_ (kept_alloc 0 0 _ _) | refine Kept.trans ?_ (kept_drew _) | refine Kept.trans ?_ (kept_drewN 0 0 _ _))))) ?_; rintro e w5 ⟨rfl, k5⟩)
      | (go_at_call 27; refine Calls.mono (concat3 _ _ _ _ _ _ _ _ _ _ _ _ [lj, [61], lo] ps [[58], ll] (cell_lit _ _ 0 _ _ _ (by simp) rfl) (cell_lit _ _ 1 _ _ _ (by simp) rfl) (cell_lit _ _ 2 _ _ _ (by simp) rfl) ⟨rfl, by decide, by decide, by first | (refine wc_lit3 w3 _ _ _ _ _ rfl ?_; (repeat (first | exact Kept.refl 0 0 _ | exact HR0.out | refine Kept.trans ?_ k6 | refine Kept.trans ?_ k5 | refine Kept.trans ?_ k4 | refine Kept.trans ?_ k3 | refine Kept.trans ?_ (kept_alloc 0 0 _ _) | refine Kept.trans ?_ (kept_drew _) | refine Kept.trans ?_ (kept_drewN 0 0 _ _))); done) | (refine wc_lit3 w4 _ _ _ _ _ rfl ?_; (repeat (first | exact Kept.refl 0 0 _ | exact HR0.out | refine Kept.trans ?_ k6 | refine Kept.trans ?_ k5 | refine Kept.trans ?_ k4 | refine Kept.trans ?_ k3 | refine Kept.trans ?_ (kept_alloc 0 0 _ _) | refine Kept.trans ?_ (kept_drew _) | refine Kept.trans ?_ (kept_drewN 0 0 _ _))); done) | (refine wc_lit3 w5 _ _ _ _ _ rfl ?_; (repeat (first | exact Kept.refl 0 0 _ | exact HR0.out | refine Kept.trans ?_ k6 | refine Kept.trans ?_ k5 | refine Kept.trans ?_ k4 | refine Kept.trans ?_ k3 | refine Kept.trans ?_ (kept_alloc 0 0 _ _) | refine Kept.trans ?_ (kept_drew _) | refine Kept.trans ?_ (kept_drewN 0 0 _ _))); done) | (refine wc_lit3 (w5.alloc (.cells #[strL [58], strL ll] 9)) _ _ _ _ _ (by simp) ?_; (repeat (first | exact Kept.refl 0 0 _ | exact HR0.out | refine Kept.trans ?_ k6 | refine Kept.trans ?_ k5 | refine Kept.trans ?_ k4 | refine Kept.trans ?_ k3 | refine Kept.trans ?_ (kept_alloc 0 0 _ _) | refine Kept.trans ?_ (kept_drew _) | refine Kept.trans ?_ (kept_drewN 0 0 _ _))); done)⟩ ⟨rfl, HPL.out.1, HPL.out.2, lt_keep z4 (by (repeat (first | exact Kept.refl 0 0 _ | exact HR0.out | refine Kept.trans ?_ k6 | refine Kept.trans ?_ k5 | refine Kept.trans ?_ k4 | refine Kept.trans ?_ k3 | refine Kept.trans ?_ (kept_alloc 0 0 _ _) | refine Kept.trans ?_ (kept_drew _) | refine Kept.trans ?_ (kept_drewN 0 0 _ _)))), WC.keep y4 z4 (by (repeat (first | exact Kept.refl 0 0 _ | exact HR0.out | refine Kept.trans ?_ k6 | refine Kept.trans ?_ k5 | refine Kept.trans ?_ k4 | refine Kept.trans ?_ k3 | refine Kept.trans ?_ (kept_alloc 0 0 _ _) | refine Kept.trans ?_ (kept_drew _) | refine Kept.trans ?_ (kept_drewN 0 0 _ _))))⟩ ⟨rfl, by decide, by decide, by first | (refine wc_lit2 w5 _ _ _ _ rfl ?_; (repeat (first | exact Kept.refl 0 0 _ | exact HR0.out | refine Kept.trans ?_ k6 | refine Kept.trans ?_ k5 | refine Kept.trans ?_ k4 | refine Kept.trans ?_ k3 | refine Kept.trans ?_ (kept_alloc 0 0 _ _) | refine Kept.trans ?_ (kept_drew _) | refine Kept.trans ?_ (kept_drewN 0 0 _ _))); done) | (refine wc_lit2 (w5.alloc (.cells #[strL lj, strL [61], strL lo] 9)) _ _ _ _ (by simp) ?_; (repeat (first | exact Kept.refl 0 0 _ | exact HR0.out | refine Kept.trans ?_ k6 | refine Kept.trans ?_ k5 | refine Kept.trans ?_ k4 | refine Kept.trans ?_ k3 | refine Kept.trans ?_ (kept_alloc 0 0 _ _) | refine Kept.trans ?_ (kept_drew _) | refine Kept.trans ?_ (kept_drewN 0 0 _ _))); done)⟩ (by simp)) ?_; rintro e w6 ⟨v6, rfl, r6, k6⟩))
  all_goals
    have r7 : WB w6 wA.heap.size v6 ([lj, [61], lo] ++ ps ++ [[58], ll]) := WB.down r6 (Kept.size (w := wA) (by (repeat (first | exact Kept.refl 0 0 _ | exact HR0.out | refine Kept.trans ?_ k6 | refine Kept.trans ?_ k5 | refine Kept.trans ?_ k4 | refine Kept.trans ?_ k3 | refine Kept.trans ?_ (kept_alloc 0 0 _ _) | refine Kept.trans ?_ (kept_drew _) | refine Kept.trans ?_ (kept_drewN 0 0 _ _)))))
    have k7 : Kept 0 0 wA w6 := by (repeat (first | exact Kept.refl 0 0 _ | exact HR0.out | refine Kept.trans ?_ k6 | refine Kept.trans ?_ k5 | refine Kept.trans ?_ k4 | refine Kept.trans ?_ k3 | refine Kept.trans ?_ (kept_alloc 0 0 _ _) | refine Kept.trans ?_ (kept_drew _) | refine Kept.trans ?_ (kept_drewN 0 0 _ _)))
    exact HK.out _ _ _ _ _ _ _ _ _ _ _ _ _ _ _ _ _ r7 k7
end Go.Proofs.YtiiimofkkahobaaDoor
