import Derived.Test.YtdkjdlimcnddkaaA27
import Derived.Test.YtdkjdlimcnddkaaA16
import Derived.Test.YtdkjdlimcnddkaaA17
import Derived.Test.YtdkjdlimcnddkaaA30
namespace Go.Proofs.Ytdkjdlimcnddkaa
open Go.RowKit Flt
attribute [local go_sem] alloc_drewN setCell_drewN run_store_float
/-- Is one of the first k operands active? -/
def anyA (act : List Bool) (v : Vl) (k : Nat) : Bool := (List.range k).any fun q => act.getD (fld v q).toNat false
theorem anyA_succ (act : List Bool) (v : Vl) (k : Nat) : anyA act v (k + 1) = (anyA act v k || act.getD (fld v k).toNat false) := by
  unfold anyA; rw [List.range_succ, List.any_append]; simp
theorem set_far {xs : List Bool} {i j : Nat} {b : Bool} (h : j ≠ i) : (xs.set i b).getD j false = xs.getD j false := by
  rw [List.getD_eq_getElem?_getD, List.getElem?_set, if_neg (fun e => h e.symm), ← List.getD_eq_getElem?_getD]
theorem actM_far (vs0 : List Vl) (x : Nat) : ∀ m i, x + m < i → (actM vs0 x m).getD i false = false
  | 0, i, h => by
    rw [actM, set_far (by omega), List.getD_eq_getElem?_getD, List.getElem?_replicate]
    split <;> rfl
  | m + 1, i, h => by rw [actM, set_far (by omega), actM_far vs0 x m i (by omega)]
theorem setB_same {xs : List Bool} {i : Nat} (h : xs.getD i false = false) : xs.set i false = xs := by
  by_cases hi : i < xs.length
  · rw [List.getD_eq_getElem?_getD, List.getElem?_eq_getElem hi] at h
    simp only [Option.getD_some] at h
    rw [← h]
    exact List.set_getElem_self hi
  · exact List.set_eq_of_length_le (by omega)
/-- l2active in its loops. -/
structure AcS (w W : World) (P g2 n A : Nat) (b1 b3 : Option Addr) (n1 c1 c2 n3 c3 : Nat) (vs : List Vl) (act : List Bool) : Prop where
  g : G0 W P (.slice b1 n1 c1) (.slice (some ⟨g2, 0, none⟩) n c2) (.slice b3 n3 c3)
  v : VA W g2 n vs
  a : BR W A act
  k : Kept 0 0 w W
  n1 : P ≠ A
  n2 : g2 ≠ A
  l : w.heap.size ≤ A
theorem AcS.keep {w W W' : World} {P g2 n A : Nat} {b1 b3 : Option Addr} {n1 c1 c2 n3 c3 : Nat} {vs : List Vl} {act : List Bool} (h : AcS w W P g2 n A b1 b3 n1 c1 c2 n3 c3 vs act) (k : Kept 0 0 W W') : AcS w W' P g2 n A b1 b3 n1 c1 c2 n3 c3 vs act :=
  ⟨h.g.keep k, VA.keep h.v k (.inr (.inr (Nat.le_refl _))), BR.keep h.a k (.inr (.inr (Nat.le_refl _))), h.k.trans k, h.n1, h.n2, h.l⟩
theorem AcS.set {w W : World} {P g2 n A : Nat} {b1 b3 : Option Addr} {n1 c1 c2 n3 c3 : Nat} {vs : List Vl} {act : List Bool} (h : AcS w W P g2 n A b1 b3 n1 c1 c2 n3 c3 vs act) (i : Nat) (b : Bool) : AcS w (W.setCell ⟨A, i, none⟩ (.bool b)) P g2 n A b1 b3 n1 c1 c2 n3 c3 vs (act.set i b) :=
  have k := chg_setCell (S := fun q => q = A) W A i (.bool b) rfl
  ⟨h.g.keepC k h.n1, h.v.keepC k h.n2, BR.set h.a i b, h.k.new (kept_setCell (lo := A) (hi := A + 1) W ⟨A, i, none⟩ (.bool b) (.inl ⟨Nat.le_refl _, Nat.lt_succ_self _⟩)) h.l, h.n1, h.n2, h.l⟩
set_option maxRecDepth 100000 in
set_option maxHeartbeats 8000000 in
theorem l2active (w : World) (b1 b3 : Option Addr) (g2 n1 c1 n c2 n3 c3 s x : Nat) (vs : List Vl) (hV : VA w g2 n vs) (hl : n ≤ 2000) (hs : s < n) (hx : x < n) (hop : ∀ j, j < n → 0 ≤ (vs.getD j Vl.zero).op ∧ (vs.getD j Vl.zero).op ≤ 13) (hops : ∀ j, j < n → ∀ k, k < cnt (vs.getD j Vl.zero).op → 0 ≤ fld (vs.getD j Vl.zero) k ∧ fld (vs.getD j Vl.zero) k < j) :
    Calls Try.prog 79 #[gagg b1 n1 c1 (some ⟨g2, 0, none⟩) n c2 b3 n3 c3, .int .i64 (s : Int), .int .i64 (x : Int)] w fun e w' => ∃ A, e = .returned (.slice (some ⟨A, 0, none⟩) n n) ∧ BR w' A (actM vs x (s - x)) ∧ w.heap.size ≤ A ∧ Kept 0 0 w w' := by
  have hlt := hV.lt
  have HLN : Hid (vs.length = n) := hV.len
  have hm := make_b n (w.alloc (gbox b1 n1 c1 (some ⟨g2, 0, none⟩) n c2 b3 n3 c3)) (by omega)
  have k1 := kept_alloc 0 0 w (gbox b1 n1 c1 (some ⟨g2, 0, none⟩) n c2 b3 n3 c3)
  have k2 := kept_alloc 0 0 (w.alloc (gbox b1 n1 c1 (some ⟨g2, 0, none⟩) n c2 b3 n3 c3)) (.cells (madeCells #[.bool false] n) 4)
  have hA := BR.made (w.alloc (gbox b1 n1 c1 (some ⟨g2, 0, none⟩) n c2 b3 n3 c3)) n
  rw [show (w.alloc (gbox b1 n1 c1 (some ⟨g2, 0, none⟩) n c2 b3 n3 c3)).heap.size = w.heap.size + 1 by simp] at hA hm
  have HA0 : Hid (AcS w ((w.alloc (gbox b1 n1 c1 (some ⟨g2, 0, none⟩) n c2 b3 n3 c3)).alloc (.cells (madeCells #[.bool false] n) 4)) w.heap.size g2 n (w.heap.size + 1) b1 b3 n1 c1 c2 n3 c3 vs (List.replicate n false)) :=
    ⟨(g0_start w _ _ _).keep k2, VA.keep hV (k1.trans k2) (.inr (.inr (Nat.le_refl _))), hA, k1.trans k2, by omega, by omega, by omega⟩
  have HA1 : Hid (AcS w (((w.alloc (gbox b1 n1 c1 (some ⟨g2, 0, none⟩) n c2 b3 n3 c3)).alloc (.cells (madeCells #[.bool false] n) 4)).setCell ⟨w.heap.size + 1, x, none⟩ (.bool true)) w.heap.size g2 n (w.heap.size + 1) b1 b3 n1 c1 c2 n3 c3 vs (actM vs x 0)) := by
    have := HA0.out.set x true
    unfold actM
    rw [HLN.out]
    exact this
  have y1 := HA0.out.g.q1
  have zA := BR.cell HA0.out.a x (by simp; exact hx)
  have zF := BR.free HA0.out.a x
  generalize (List.replicate n false).getD x false = zz at zA
  have hx1 : (0 : Int) ≤ (x : Int) := by omega
  have hx2 : (x : Int) < (n : Int) := by omega
  have hxw : IntKind.i64.wrap ((x : Int) + 1) = (x : Int) + 1 := by rw [IntKind.wrap_i64]; omega
  have HOP : Hid _ := hop
  have HOS : Hid _ := hops
  clear hV k1 k2 hA HA0 hop hops
  generalize (w.alloc (gbox b1 n1 c1 (some ⟨g2, 0, none⟩) n c2 b3 n3 c3)).alloc (.cells (madeCells #[.bool false] n) 4) = w2 at hm HA1 y1 zA zF
  go_enter Try.func79, Try.ntmps79
  go_wp2_with fail
  clear hm y1 zA zF
  generalize w2.setCell ⟨w.heap.size + 1, x, none⟩ (.bool true) = w5 at HA1 ⊢
  generalize hAA : w.heap.size + 1 = A at HA1 ⊢
  clear hAA
  go_loopw [8] (fun v W => ∃ (i m : Nat), v = .int .i64 (i : Int) ∧ i = x + 1 + m ∧ m ≤ s - x ∧ Hid (AcS w W w.heap.size g2 n A b1 b3 n1 c1 c2 n3 c3 vs (actM vs x m))) (fun v _ => s + 1 - (intOf v).toNat)
  case atStart => exact ⟨x + 1, 0, by go_num, rfl, Nat.zero_le _, HA1⟩
  case round =>
    obtain ⟨i, m, rfl, him, hms, hN⟩ := hrel
    clear HA1
    by_cases his : i ≤ s
    · have hi1 : (0 : Int) ≤ (i : Int) := by omega
      have hi2 : (i : Int) < (n : Int) := by omega
      have hi3 : (i : Int) ≤ (s : Int) := by omega
      have hin : i < n := by omega
      obtain ⟨v, hv⟩ : ∃ v, v = vs.getD i Vl.zero := ⟨_, rfl⟩
      have HV : Hid (v = vs.getD i Vl.zero) := hv
      have HL1 : Hid _ := l1ops v.op (by rw [hv]; exact (HOP.out i hin).1) (by rw [hv]; exact (HOP.out i hin).2)
      have hos := HOS.out i hin
      rw [← hv] at hos
      have HOSi : Hid _ := hos
      have HS0 : Hid (AcS w wr w.heap.size g2 n A b1 b3 n1 c1 c2 n3 c3 vs ((actM vs x m).set i (anyA (actM vs x m) v 0))) := by
        have e : (actM vs x m).set i (anyA (actM vs x m) v 0) = actM vs x m := setB_same (actM_far vs x m i (by omega))
        show AcS _ _ _ _ _ _ _ _ _ _ _ _ _ _ _
        rw [e]
        exact hN.out
      have HIM : Hid (i = x + 1 + m ∧ m ≤ s - x) := ⟨him, hms⟩
      have HAL : Hid ((actM vs x m).length = n) := by show _ = _; rw [actM_len, HLN.out]
      have HNX : Hid (actM vs x (m + 1) = (actM vs x m).set i (anyA (actM vs x m) v (cnt v.op))) := by
        show _ = _
        rw [actM, ← him, ← hv]
        rfl
      generalize actM vs x m = act at HS0 HAL HNX
      have hiw : IntKind.i64.wrap ((i : Int) + 1) = (i : Int) + 1 := by rw [IntKind.wrap_i64]; omega
      clear hN him hms hv hos
      go_wp2_with fail
      go_loopw [9] (fun u W => ∃ k : Nat, k ≤ cnt v.op ∧ u = .int .i64 (k : Int) ∧ Hid (AcS w W w.heap.size g2 n A b1 b3 n1 c1 c2 n3 c3 vs (act.set i (anyA act v k)))) (fun u _ => cnt v.op - (intOf u).toNat)
      case atStart => exact ⟨0, Nat.zero_le _, rfl, HS0⟩
      case round =>
        obtain ⟨k, hk, rfl, hS⟩ := hrel
        clear HS0
        have y1 := hS.out.g.q1
        have hat := hS.out.v.at_ i hin
        rw [← HV.out] at hat
        obtain ⟨z0, z1, z2, z3, z4, z5⟩ := hat
        by_cases hlt : k < cnt v.op
        · obtain ⟨o, ho, hoi⟩ : ∃ o : Nat, fld v k = (o : Int) ∧ o < i := by
            have := HOSi.out k hlt
            exact ⟨(fld v k).toNat, by omega, by omega⟩
          have hc3 := cnt_le v.op
          have HFD : Hid (∀ W, Calls Try.prog 85 #[v.agg, .int .i64 (k : Int)] W fun e w' => e = .returned (.int .i64 (o : Int)) ∧ Kept 0 0 W w') := fun W => by rw [← ho]; exact l1field W v k (by omega)
          have zA := BR.cell hS.out.a o (by rw [List.length_set, HAL.out]; omega)
          rw [set_far (by omega)] at zA
          have HNA : Hid (anyA act v (k + 1) = (anyA act v k || act.getD o false)) := by
            show _ = _
            rw [anyA_succ, ho]
            rfl
          have HNX' : Hid _ := HNX.out
          have hk2 : (k : Int) < (cnt v.op : Int) := by omega
          have o1 : (0 : Int) ≤ (o : Int) := by omega
          have o2 : (o : Int) < (n : Int) := by omega
          have hkw : IntKind.i64.wrap ((k : Int) + 1) = (k : Int) + 1 := by rw [IntKind.wrap_i64]; omega
          have HZA : Hid (∀ W, Kept 0 0 wr W → W.cell? ⟨A, o, none⟩ = some (.bool (act.getD o false))) := fun W kW => by
            rw [kW.cell (p := ⟨A, o, none⟩) hS.out.a.lt (by omega)]; exact zA
          clear ho zA
          go_wp2_with (first | (go_at_call 84; refine Calls.mono (HL1.out _) ?_; rintro e w6 ⟨rfl, rfl⟩) | fail)
          refine Calls.mono (HFD.out wr) ?_
          rintro e w7 ⟨rfl, k7⟩
          have zA := HZA.out w7 k7
          have HS7 : Hid _ := hS.out.keep k7
          have zI := BR.cell HS7.out.a i (by rw [List.length_set, HAL.out]; omega)
          have zF := BR.free HS7.out.a i
          generalize (act.set i (anyA act v k)).getD i false = zz at zI
          clear y1 z0 z1 z2 z3 z4 z5 k7 HZA HFD hS
          cases hb : act.getD o false
          · rw [hb] at zA
            have HR : Hid (AcS w w7 w.heap.size g2 n A b1 b3 n1 c1 c2 n3 c3 vs (act.set i (anyA act v (k + 1)))) := by
              show AcS _ _ _ _ _ _ _ _ _ _ _ _ _ _ _
              rw [HNA.out, hb, Bool.or_false]
              exact HS7.out
            clear hb
            go_wp2_with fail
            go_roundw
            case rel => exact ⟨k + 1, by omega, by go_num, HR⟩
            case measure => simp [intOf]; omega
          · rw [hb] at zA
            have HR : Hid (AcS w (w7.setCell ⟨A, i, none⟩ (.bool true)) w.heap.size g2 n A b1 b3 n1 c1 c2 n3 c3 vs (act.set i (anyA act v (k + 1)))) := by
              have := HS7.out.set i true
              rw [List.set_set] at this
              show AcS _ _ _ _ _ _ _ _ _ _ _ _ _ _ _
              rw [HNA.out, hb, Bool.or_true]
              exact this
            clear hb
            go_wp2_with fail
            go_roundw
            case rel => exact ⟨k + 1, by omega, by go_num, HR⟩
            case measure => simp [intOf]; omega
        · have hk2 : ¬ ((k : Int) < (cnt v.op : Int)) := by omega
          have hke : k = cnt v.op := by omega
          have HR : Hid (AcS w wr w.heap.size g2 n A b1 b3 n1 c1 c2 n3 c3 vs (actM vs x (m + 1))) := by
            show AcS _ _ _ _ _ _ _ _ _ _ _ _ _ _ _
            rw [HNX.out, ← hke]
            exact hS.out
          clear hS hke
          go_wp2_with (first | (go_at_call 84; refine Calls.mono (HL1.out _) ?_; rintro e w6 ⟨rfl, rfl⟩) | fail)
          clear y1 z0 z1 z2 z3 z4 z5
          go_roundw
          case rel => exact ⟨i + 1, m + 1, by go_num, by have := HIM.out; omega, by have := HIM.out; omega, HR⟩
          case measure => simp [intOf]; omega
    · have hms2 : m = s - x := by omega
      have hi3 : ¬ ((i : Int) ≤ (s : Int)) := by omega
      have HN1 : Hid _ := hN.out
      clear hN him
      go_wp2_with fail
      go_ret
      rw [← hms2]
      exact ⟨A, rfl, HN1.out.a, HN1.out.l, HN1.out.k⟩
end Go.Proofs.Ytdkjdlimcnddkaa

namespace Go.Proofs.Ytdkjdlimcnddkaa
open Go.RowKit Flt
/-- What l2grad holds: g in the box behind w, the answer's box behind it, its lists. -/
structure LK (w W : World) (b1 : Option Addr) (n1 e1 : Nat) (b3 : Option Addr) (n3 e3 : Nat) (ins outs : List Int) (vs : List Vl) (base : Nat) (R : Option Nat) (a2 : Option Addr) (cap : Nat) : Prop where
  g : SG W w.heap.size b1 n1 e1 b3 n3 e3 vs base R a2 cap
  b : RB W (w.heap.size + 1) (.slice none 0 0) (.slice none 0 0) (.slice none 0 0)
  i : W.ownsRow base 3 1 (.slice b1 n1 e1) n1 (ins.map (Value.int .i64))
  o : W.ownsRow base 3 1 (.slice b3 n3 e3) n3 (outs.map (Value.int .i64))
  k : Kept 0 0 w W
  hb : w.heap.size + 1 + 1 ≤ base
  a1 : Apart (.slice b1 n1 e1) (.slice a2 vs.length cap)
  a3 : Apart (.slice b3 n3 e3) (.slice a2 vs.length cap)
  a4 : Apart (.slice b1 n1 e1) (.slice b3 n3 e3)
theorem LK.keep {w W W' : World} {n1 e1 n3 e3 base cap : Nat} {b1 b3 a2 : Option Addr} {ins outs : List Int} {vs : List Vl} {R : Option Nat} (h : LK w W b1 n1 e1 b3 n3 e3 ins outs vs base R a2 cap) (k : Kept 0 0 W W') : LK w W' b1 n1 e1 b3 n3 e3 ins outs vs base R a2 cap :=
  { h with g := h.g.keep k, b := h.b.keep k, i := own_keepJ h.i k, o := own_keepJ h.o k, k := h.k.trans k }
/-- A block that is none of these. -/
structure Farb (w : World) (b1 : Option Addr) (n1 e1 : Nat) (b3 : Option Addr) (n3 e3 : Nat) (R : Option Nat) (B : Nat) : Prop where
  p : w.heap.size + 1 + 1 ≤ B
  r : R ≠ some B
  i : (Value.slice b1 n1 e1).ownBlock ≠ some B
  o : (Value.slice b3 n3 e3).ownBlock ≠ some B
theorem LK.far {w W : World} {n1 e1 n3 e3 base cap : Nat} {b1 b3 a2 : Option Addr} {ins outs : List Int} {vs : List Vl} {R : Option Nat} (h : LK w W b1 n1 e1 b3 n3 e3 ins outs vs base R a2 cap) {B : Nat} (hB : W.heap.size ≤ B) : Farb w b1 n1 e1 b3 n3 e3 R B where
  p := by have := h.b.sz; omega
  r := fun c => by have := (own_blkV h.g.own (h.g.row.trans c)).2; omega
  i := fun c => by have := (own_blkV h.i c).2; omega
  o := fun c => by have := (own_blkV h.o c).2; omega
theorem LK.other {w W : World} {n1 e1 n3 e3 base cap : Nat} {b1 b3 a2 : Option Addr} {ins outs : List Int} {vs : List Vl} {R : Option Nat} (h : LK w W b1 n1 e1 b3 n3 e3 ins outs vs base R a2 cap) {B : Nat} (t : Farb w b1 n1 e1 b3 n3 e3 R B) (j : Nat) (u : Value) : LK w (W.setCell ⟨B, j, none⟩ u) b1 n1 e1 b3 n3 e3 ins outs vs base R a2 cap := by
  have hp := t.p
  have c : ∀ X o, B ≠ X → (W.setCell ⟨B, j, none⟩ u).cell? ⟨X, o, none⟩ = W.cell? ⟨X, o, none⟩ := fun X o hX => cell_ne _ _ _ _ _ _ (.inl hX)
  obtain ⟨bz, t0, t1, t2, x0, x1, x2⟩ := h.b
  exact {
    g := ⟨by simpa using h.g.lt, fun o => by simp [h.g.free o], by rw [c _ _ (by omega)]; exact h.g.c0, by rw [c _ _ (by omega)]; exact h.g.c1, by rw [c _ _ (by omega)]; exact h.g.c2, own_setCell h.g.own (by rw [h.g.row]; exact t.r), h.g.row, h.g.ne, by simpa using h.g.sz⟩
    b := ⟨by simpa using bz, by rw [c _ _ (by omega)]; exact t0, by rw [c _ _ (by omega)]; exact t1, by rw [c _ _ (by omega)]; exact t2, by simp [x0], by simp [x1], by simp [x2]⟩
    i := own_setCell h.i t.i
    o := own_setCell h.o t.o
    k := kept_put w W h.k B j _ (by omega)
    hb := h.hb, a1 := h.a1, a3 := h.a3, a4 := h.a4 }
theorem LK.step {w W w1 w2 w3 : World} {n1 e1 n3 e3 base cap cap' l h' : Nat} {b1 b3 a2 a2' : Option Addr} {ins outs : List Int} {vs vs2 : List Vl} {R R' : Option Nat} (h : LK w W b1 n1 e1 b3 n3 e3 ins outs vs base R a2 cap) (k : Kept 0 0 W w1)
    (own : w2.ownsRow base 64 6 (.slice a2' vs2.length cap') vs2.length (flat vs2)) (row : (Value.slice a2' vs2.length cap').ownBlock = R') (s : StQ (fun _ => False) R w1 R' w2) (k2 : Kept l h' w2 w3) (hl : W.heap.size ≤ l) (hR : ∀ g, R' = some g → g < l ∨ h' ≤ g) :
    LK w (Put3 w3 w.heap.size (.slice b1 n1 e1) (.slice a2' vs2.length cap') (.slice b3 n3 e3)) b1 n1 e1 b3 n3 e3 ins outs vs2 base R' a2' cap' ∧ StQ (fun i => i = w.heap.size) R W R' (Put3 w3 w.heap.size (.slice b1 n1 e1) (.slice a2' vs2.length cap') (.slice b3 n3 e3)) := by
  obtain ⟨q1, q2⟩ := h.g.put2 k own row s k2 hl hR
  have far : ∀ B, B < W.heap.size → R ≠ some B → R' ≠ some B := fun B hB hR => by
    rcases q2.row with e | ⟨r, e, hr⟩
    · rw [e]; exact hR
    · rw [e]; intro c; cases c; omega
  have ap : ∀ {b : Option Addr} {n e : Nat} {xs : List Value}, W.ownsRow base 3 1 (.slice b n e) n xs → Apart (.slice b n e) (.slice a2 vs.length cap) → (∀ g, (Value.slice b n e).ownBlock = some g → R ≠ some g) ∧ (Value.slice b n e).ownBlock ≠ some w.heap.size ∧ Apart (.slice b n e) (.slice a2' vs2.length cap') := fun ho ha => by
    have h1 : ∀ g, (Value.slice _ _ _).ownBlock = some g → R ≠ some g := fun g hg => by rw [← h.g.row]; exact ha g hg
    refine ⟨h1, fun c => ?_, fun g hg => ?_⟩
    · have := (own_blkV ho c).1; have := h.hb; omega
    · rw [row]; exact far g (own_blkV ho hg).2 (h1 g hg)
  obtain ⟨i1, i2, i3⟩ := ap h.i h.a1
  obtain ⟨o1, o2, o3⟩ := ap h.o h.a3
  have hbQ : R ≠ some (w.heap.size + 1) := fun c => by have := (own_blkV h.g.own (h.g.row.trans c)).1; have := h.hb; omega
  exact ⟨{
    g := q1
    b := h.b.stq q2 (by omega) hbQ
    i := own_stq h.i q2 i2 i1
    o := own_stq h.o q2 o2 o1
    k := Chg.kept h.k q2.chg (by
      rintro i (c | c)
      · omega
      · have := (own_blkV h.g.own (h.g.row.trans c)).1; have := h.hb; omega)
    hb := h.hb
    a1 := i3
    a3 := o3
    a4 := h.a4 }, q2⟩
theorem LK.read {w W : World} {n1 e1 n3 e3 base cap : Nat} {b1 b3 a2 : Option Addr} {ins outs : List Int} {vs : List Vl} {R : Option Nat} (h : LK w W b1 n1 e1 b3 n3 e3 ins outs vs base R a2 cap) (hn : 0 < vs.length) :
    ∃ g, a2 = some ⟨g, 0, none⟩ ∧ R = some g ∧ g < W.heap.size ∧ ∀ j, j < vs.length → At W g (j * 6) (vs.getD j Vl.zero) := by
  obtain ⟨g, c, e, _, hg, _, hA⟩ := row_at h.g.own hn rfl
  injection e with e1 e2 e3
  subst e1
  exact ⟨g, rfl, h.g.row.symm, hg, hA.at_⟩
theorem LK.fin {w W W' : World} {n1 e1 n3 e3 base cap : Nat} {b1 b3 a2 : Option Addr} {ins outs : List Int} {vs : List Vl} {R : Option Nat} (h : LK w W b1 n1 e1 b3 n3 e3 ins outs vs base R a2 cap) (k : Kept 0 0 W W') :
    ((Put3 W' (w.heap.size + 1) (.slice b1 n1 e1) (.slice a2 vs.length cap) (.slice b3 n3 e3)).ownsRow w.heap.size 3 1 (.slice b1 n1 e1) n1 (ins.map (Value.int .i64)) ∧ (Put3 W' (w.heap.size + 1) (.slice b1 n1 e1) (.slice a2 vs.length cap) (.slice b3 n3 e3)).ownsRow w.heap.size 64 6 (.slice a2 vs.length cap) vs.length (flat vs) ∧ (Put3 W' (w.heap.size + 1) (.slice b1 n1 e1) (.slice a2 vs.length cap) (.slice b3 n3 e3)).ownsRow w.heap.size 3 1 (.slice b3 n3 e3) n3 (outs.map (Value.int .i64))) ∧ Kept 0 0 w (Put3 W' (w.heap.size + 1) (.slice b1 n1 e1) (.slice a2 vs.length cap) (.slice b3 n3 e3)) := by
  have kp := put3_kept W' (w.heap.size + 1) (.slice b1 n1 e1) (.slice a2 vs.length cap) (.slice b3 n3 e3)
  have hb := h.hb
  have key : ∀ {e size n : Nat} {v : Value} {xs : List Value}, W.ownsRow base e size v n xs → (Put3 W' (w.heap.size + 1) (.slice b1 n1 e1) (.slice a2 vs.length cap) (.slice b3 n3 e3)).ownsRow w.heap.size e size v n xs := fun ho =>
    own_mono (own_keepR (own_keepJ ho k) kp (fun g hg => by have := (own_blkV ho hg).1; omega)) (by omega)
  exact ⟨⟨key h.i, key h.g.own, key h.o⟩, Kept.new (h.k.trans k) kp (by omega)⟩
/-- l2put in a world behind W. -/
theorem LK.call {w W W1 : World} {n1 e1 n3 e3 base cap : Nat} {b1 b3 a2 : Option Addr} {ins outs : List Int} {vs : List Vl} {R : Option Nat} (h : LK w W b1 n1 e1 b3 n3 e3 ins outs vs base R a2 cap) (k : Kept 0 0 W W1) (u : Vl) (hn : vs.length ≤ 1000000) :
    Calls Try.prog 81 #[gagg b1 n1 e1 a2 vs.length cap b3 n3 e3, u.agg] W1 fun e w2 => ∃ g' cap', e = .returned (gagg b1 n1 e1 (some ⟨g', 0, none⟩) (vs.length + 1) cap' b3 n3 e3) ∧
      (∃ u, w2.cell? ⟨w.heap.size, 0, none⟩ = some u) ∧ (∃ u, w2.cell? ⟨w.heap.size, 1, none⟩ = some u) ∧ (∃ u, w2.cell? ⟨w.heap.size, 2, none⟩ = some u) ∧ (∀ o, w2.frozen? ⟨w.heap.size, o, none⟩ = false) ∧
      Hid (LK w (Put3 w2 w.heap.size (.slice b1 n1 e1) (.slice (some ⟨g', 0, none⟩) (vs.length + 1) cap') (.slice b3 n3 e3)) b1 n1 e1 b3 n3 e3 ins outs (vs ++ [u]) base (some g') (some ⟨g', 0, none⟩) cap' ∧ StQ (fun i => i = w.heap.size) R W (some g') (Put3 w2 w.heap.size (.slice b1 n1 e1) (.slice (some ⟨g', 0, none⟩) (vs.length + 1) cap') (.slice b3 n3 e3))) := by
  have h1 := h.keep k
  refine (l2put W1 b1 a2 b3 n1 e1 cap n3 e3 base vs u h1.g.own h1.g.sz hn).mono ?_
  rintro e w2 ⟨g', cap', rfl, own, s⟩
  rw [h.g.row] at s
  have hb : w2.heap[w.heap.size]? = W1.heap[w.heap.size]? := s.chg.block w.heap.size h1.g.lt (by rintro (c | c); exact c; exact h.g.ne c)
  have e : ∀ o, w2.cell? ⟨w.heap.size, o, none⟩ = W1.cell? ⟨w.heap.size, o, none⟩ := fun o => World.cell?_of_block (w := W1) (a := ⟨w.heap.size, o, none⟩) hb
  have ef : ∀ o, w2.frozen? ⟨w.heap.size, o, none⟩ = W1.frozen? ⟨w.heap.size, o, none⟩ := fun o => World.frozen?_of_block (w := W1) (a := ⟨w.heap.size, o, none⟩) hb
  have hl : (vs ++ [u]).length = vs.length + 1 := by simp
  have key := h.step (vs2 := vs ++ [u]) (a2' := some ⟨g', 0, none⟩) (cap' := cap') (l := W.heap.size) (h' := W.heap.size) k (by rw [hl]; exact own) (R' := some g') rfl s ((Kept.refl 0 0 w2).mono fun _ _ c => by omega) (Nat.le_refl _) (fun g _ => by omega)
  rw [hl] at key
  exact ⟨g', cap', rfl, ⟨_, (e 0).trans h1.g.c0⟩, ⟨_, (e 1).trans h1.g.c1⟩, ⟨_, (e 2).trans h1.g.c2⟩, fun o => by rw [ef]; exact h1.g.free o, key⟩
/-- .. with the slopes in Mb and the marks in A. -/
structure LG (w W : World) (Mb A : Nat) (b1 : Option Addr) (n1 e1 : Nat) (b3 : Option Addr) (n3 e3 : Nat) (ins outs : List Int) (vs : List Vl) (mv : List Int) (act : List Bool) (base : Nat) (R : Option Nat) (a2 : Option Addr) (cap : Nat) : Prop where
  l : LK w W b1 n1 e1 b3 n3 e3 ins outs vs base R a2 cap
  m : IR W Mb mv
  a : BR W A act
  fm : Farb w b1 n1 e1 b3 n3 e3 R Mb
  fa : Farb w b1 n1 e1 b3 n3 e3 R A
  ne : Mb ≠ A
theorem LG.keep {w W W' : World} {Mb A n1 e1 n3 e3 base cap : Nat} {b1 b3 a2 : Option Addr} {ins outs mv : List Int} {act : List Bool} {vs : List Vl} {R : Option Nat} (h : LG w W Mb A b1 n1 e1 b3 n3 e3 ins outs vs mv act base R a2 cap) (k : Kept 0 0 W W') : LG w W' Mb A b1 n1 e1 b3 n3 e3 ins outs vs mv act base R a2 cap :=
  ⟨h.l.keep k, h.m.keep k (.inr (.inr (Nat.le_refl _))), h.a.keep k (.inr (.inr (Nat.le_refl _))), h.fm, h.fa, h.ne⟩
theorem LG.set {w W : World} {Mb A n1 e1 n3 e3 base cap : Nat} {b1 b3 a2 : Option Addr} {ins outs mv : List Int} {act : List Bool} {vs : List Vl} {R : Option Nat} (h : LG w W Mb A b1 n1 e1 b3 n3 e3 ins outs vs mv act base R a2 cap) (j : Nat) (r : Int) : LG w (W.setCell ⟨Mb, j, none⟩ (.int .i64 r)) Mb A b1 n1 e1 b3 n3 e3 ins outs vs (mv.set j r) act base R a2 cap :=
  ⟨h.l.other h.fm j _, h.m.set j r, h.a.keepC (chg_setCell (S := fun q => q = Mb) W Mb j (.int .i64 r) rfl) (fun e => h.ne e.symm), h.fm, h.fa, h.ne⟩
theorem LG.stq {w W W' : World} {Mb A n1 e1 n3 e3 base cap cap' : Nat} {b1 b3 a2 a2' : Option Addr} {ins outs mv : List Int} {act : List Bool} {vs vs2 : List Vl} {R R' : Option Nat} (h : LG w W Mb A b1 n1 e1 b3 n3 e3 ins outs vs mv act base R a2 cap) (l : LK w W' b1 n1 e1 b3 n3 e3 ins outs vs2 base R' a2' cap') (q : StQ (fun i => i = w.heap.size) R W R' W') : LG w W' Mb A b1 n1 e1 b3 n3 e3 ins outs vs2 mv act base R' a2' cap' := by
  have far : ∀ {B}, B < W.heap.size → Farb w b1 n1 e1 b3 n3 e3 R B → Farb w b1 n1 e1 b3 n3 e3 R' B := fun hB t => ⟨t.p, by
    rcases q.row with e | ⟨r, e, hr⟩
    · rw [e]; exact t.r
    · rw [e]; intro c; cases c; omega, t.i, t.o⟩
  refine ⟨l, h.m.stq q (by have := h.fm.p; omega) h.fm.r, h.a.keepC q.chg ?_, far h.m.lt h.fm, far h.a.lt h.fa, h.ne⟩
  rintro (c | c)
  · have := h.fa.p; omega
  · exact h.fa.r c
end Go.Proofs.Ytdkjdlimcnddkaa

namespace Go.Proofs.Ytdkjdlimcnddkaa
open Go.RowKit Flt
/-! The walk back from s, step by step: pure. -/
def gdn (vs : List Vl) (act : List Bool) (s : Nat) : Nat → List Vl × List Int
  | 0 => gst0 vs s
  | j + 1 => giM vs act (s - j) (gdn vs act s j)
theorem gdn_fold (vs : List Vl) (act : List Bool) (s x : Nat) : ∀ k, k ≤ s - x → gfold vs act x (gst0 vs s) ((List.range k).map (fun i => (s - x) - 1 - i)) = gdn vs act s k
  | 0, _ => rfl
  | k + 1, h => by
    rw [List.range_succ, List.map_append, List.map_cons, List.map_nil, gfold_snoc, gdn_fold vs act s x k (by omega), gdn]
    rw [show x + 1 + (s - x - 1 - k) = s - k by omega]
def GInv (n : Nat) (act : List Bool) (sl : List Int) : Prop := ∀ q, q < n → sl.getD q 0 = -1 ∨ (0 ≤ sl.getD q 0 ∧ act.getD q false = true)
theorem pg_ite {p : Prop} [Decidable p] {a b : List Vl × Int} (ha : 0 ≤ a.2) (hb : 0 ≤ b.2) : 0 ≤ (if p then a else b).2 := by split <;> assumption
theorem prt_ge (i : Int) (v : Vl) (la : Int) (k : Nat) (d : Int) (N : Nat) (hd : 0 ≤ d) : 0 ≤ (prtM i v la k d N).2 := by
  unfold prtM
  repeat' (apply pg_ite)
  all_goals (simp only; omega)
theorem ginv_set {n : Nat} {act : List Bool} {sl : List Int} {o : Nat} {p : Int} (h : GInv n act sl) (hl : sl.length = n) (hp : 0 ≤ p) (ha : act.getD o false = true) : GInv n act (sl.set o p) := fun q hq => by
  rw [List.getD_eq_getElem?_getD, List.getElem?_set]
  by_cases e : o = q
  · subst e
    rw [if_pos rfl, if_pos (by omega)]
    exact .inr ⟨hp, ha⟩
  · rw [if_neg e, ← List.getD_eq_getElem?_getD]
    exact h q hq
theorem gkM_inv {vs : List Vl} {act : List Bool} {n i k : Nat} {st : List Vl × List Int} (h : GInv n act st.2) (hl : st.2.length = n) (hd : 0 ≤ st.2.getD i 0) : GInv n act (gkM vs act i k st).2 := by
  unfold gkM
  split
  · rename_i hc
    unfold giveM
    split
    · exact ginv_set h hl (prt_ge _ _ _ _ _ _ hd) hc.1
    · exact ginv_set h hl (by simp only; omega) hc.1
  · exact h
theorem giveM_far {vs : List Vl} {o i : Nat} {p : Int} {st : List Vl × List Int} (h : o ≠ i) : (giveM vs o p st).2.getD i 0 = st.2.getD i 0 := by
  unfold giveM
  split <;> (simp only; rw [List.getD_eq_getElem?_getD, List.getElem?_set, if_neg h, ← List.getD_eq_getElem?_getD])
theorem gkM_far {vs : List Vl} {act : List Bool} {i k : Nat} {st : List Vl × List Int} (h : (fld (vs.getD i Vl.zero) k).toNat ≠ i) : (gkM vs act i k st).2.getD i 0 = st.2.getD i 0 := by
  unfold gkM
  split
  · rw [giveM_far h]
  · rfl
theorem gkTo_far {vs : List Vl} {act : List Bool} {i : Nat} {st : List Vl × List Int} : ∀ k, (∀ q, q < k → (fld (vs.getD i Vl.zero) q).toNat ≠ i) → (gkTo vs act i st k).2.getD i 0 = st.2.getD i 0
  | 0, _ => rfl
  | k + 1, h => by rw [gkTo, gkM_far (h k (Nat.lt_succ_self _)), gkTo_far k (fun q hq => h q (by omega))]
theorem gkTo_inv {vs : List Vl} {act : List Bool} {n i : Nat} {st : List Vl × List Int} (h : GInv n act st.2) (hl : st.2.length = n) (hd : 0 ≤ st.2.getD i 0) : ∀ k, (∀ q, q < k → (fld (vs.getD i Vl.zero) q).toNat ≠ i) → GInv n act (gkTo vs act i st k).2
  | 0, _ => h
  | k + 1, hf => gkM_inv (gkTo_inv h hl hd k (fun q hq => hf q (by omega))) (by rw [gkTo_len]; exact hl) (by rw [gkTo_far k (fun q hq => hf q (by omega))]; exact hd)
theorem giM_inv {vs : List Vl} {act : List Bool} {n i : Nat} {st : List Vl × List Int} (h : GInv n act st.2) (hl : st.2.length = n) (hi : i < n) (hf : ∀ q, q < cnt (vs.getD i Vl.zero).op → (fld (vs.getD i Vl.zero) q).toNat ≠ i) : GInv n act (giM vs act i st).2 := by
  unfold giM
  split
  · exact h
  · rename_i hc
    exact gkTo_inv h hl (by rcases h i hi with c | c; exact absurd c hc; exact c.1) _ hf
/-- What holds of the walk back. -/
structure GdI (vs : List Vl) (act : List Bool) (n : Nat) (L : Nat) (C : Int) (st : List Vl × List Int) : Prop where
  i : GInv n act st.2
  l : st.2.length = n
  p : Pre vs st.1
  z : SzU L C st.1
theorem gdn_inv {vs : List Vl} {act : List Bool} {n s : Nat} (hn : vs.length = n) (hs : s < n) (hz : SzU 2000 50000 vs) (hL : LnB vs) (ha : act.getD s false = true) (hf : ∀ i, i < n → ∀ q, q < cnt (vs.getD i Vl.zero).op → (fld (vs.getD i Vl.zero) q).toNat ≠ i) : ∀ j, j ≤ s → GdI vs act n (2001 + 12 * j) (51000 + 12000 * (j : Int)) (gdn vs act s j)
  | 0, _ => by
    refine ⟨?_, by simp [gdn, gst0, hn], ⟨_, rfl⟩, ?_⟩
    · refine ginv_set (fun q hq => .inl ?_) (by simp; exact hn) (by omega) ha
      rw [List.getD_eq_getElem?_getD, List.getElem?_replicate, if_pos (by omega)]
      rfl
    · exact (SzU.app (L' := 1) (C' := 1000) hz ⟨by simp, by simp [cellsV], by simp [cellsV]⟩).mono (by omega) (by omega)
  | j + 1, h => by
    have ih := gdn_inv hn hs hz hL ha hf j (by omega)
    exact ⟨giM_inv ih.i ih.l (by omega) (hf _ (by omega)), by rw [gdn, giM_len]; exact ih.l, giM_pre ih.p, (giM_sz hL ih.z).mono (by omega) (by omega)⟩
theorem take_getD {sl : List Int} {s q : Nat} (h : q ≤ s) : (sl.take (s + 1)).getD q 0 = sl.getD q 0 := by
  rw [List.getD_eq_getElem?_getD, List.getElem?_take, if_pos (by omega), ← List.getD_eq_getElem?_getD]
theorem take_setI (sl : List Int) (s o : Nat) (p : Int) : (sl.take (s + 1)).set o p = (sl.set o p).take (s + 1) := List.take_set.symm
theorem take_gst0 (vs : List Vl) (s : Nat) (hs : s < vs.length) : (List.replicate (s + 1) (-1 : Int)).set s (vs.length : Nat) = (gst0 vs s).2.take (s + 1) := by
  unfold gst0
  simp only
  rw [← take_setI, List.take_replicate, show min (s + 1) vs.length = s + 1 by omega]
/-- What l2grad answers. -/
def GOut (w w' : World) (n1 n3 : Nat) (ins outs : List Int) (M : List Vl × Int) (e : Ending) : Prop :=
  ∃ b1 d1 b3 d3 a2 cap, e = .returned (.tuple #[gagg b1 n1 d1 a2 M.1.length cap b3 n3 d3, .int .i64 M.2]) ∧ w'.ownsRow w.heap.size 3 1 (.slice b1 n1 d1) n1 (ins.map (Value.int .i64)) ∧ w'.ownsRow w.heap.size 64 6 (.slice a2 M.1.length cap) M.1.length (flat M.1) ∧ w'.ownsRow w.heap.size 3 1 (.slice b3 n3 d3) n3 (outs.map (Value.int .i64))
/-- The start: the copy is stored into g's box. -/
theorem LK.start {w w1 : World} {n1 n2 n3 d1 d2 d3 base : Nat} {b1 a2 b3 : Option Addr} {g : Obj} {ins outs : List Int} {vs : List Vl} {u0 u1 u2 : Value} (hn : vs.length = n2)
    (hG : G0 ((w.alloc g).alloc nbox) w.heap.size u0 u1 u2) (hf : ∀ o, ((w.alloc g).alloc nbox).frozen? ⟨w.heap.size, o, none⟩ = false) (hR : RB ((w.alloc g).alloc nbox) (w.heap.size + 1) (.slice none 0 0) (.slice none 0 0) (.slice none 0 0)) (k : Kept 0 0 ((w.alloc g).alloc nbox) w1) (hbz : w.heap.size + 1 + 1 ≤ base) (hbs : base ≤ w1.heap.size)
    (o1 : w1.ownsRow base 3 1 (.slice b1 n1 d1) n1 (ins.map (Value.int .i64))) (o2 : w1.ownsRow base 64 6 (.slice a2 n2 d2) n2 (flat vs)) (o3 : w1.ownsRow base 3 1 (.slice b3 n3 d3) n3 (outs.map (Value.int .i64)))
    (q1 : Apart (.slice a2 n2 d2) (.slice b1 n1 d1)) (q2 : Apart (.slice a2 n2 d2) (.slice b3 n3 d3)) (q3 : Apart (.slice b1 n1 d1) (.slice b3 n3 d3)) :
    LK w (Put3 w1 w.heap.size (.slice b1 n1 d1) (.slice a2 n2 d2) (.slice b3 n3 d3)) b1 n1 d1 b3 n3 d3 ins outs vs base (Value.slice a2 n2 d2).ownBlock a2 d2 := by
  have kp := put3_kept w1 w.heap.size (.slice b1 n1 d1) (.slice a2 n2 d2) (.slice b3 n3 d3)
  have kk := hG.keep k
  obtain ⟨y0, y1, y2⟩ := put3_0 w1 w.heap.size _ _ _ kk.q0 kk.q1 kk.q2 (.slice b1 n1 d1) (.slice a2 n2 d2) (.slice b3 n3 d3)
  have key : ∀ {e size n : Nat} {v : Value} {xs : List Value}, w1.ownsRow base e size v n xs → (Put3 w1 w.heap.size (.slice b1 n1 d1) (.slice a2 n2 d2) (.slice b3 n3 d3)).ownsRow base e size v n xs ∧ (∀ B, v.ownBlock = some B → w.heap.size + 1 + 1 ≤ B ∧ B < w1.heap.size) := fun h =>
    ⟨own_keepR h kp (fun b hb => by have := (own_blkV h hb).1; omega), fun B hB => by have := own_blkV h hB; omega⟩
  obtain ⟨p1, r1⟩ := key o1
  obtain ⟨p2, r2⟩ := key o2
  obtain ⟨p3, r3⟩ := key o3
  have kn : Kept 0 0 w ((w.alloc g).alloc nbox) := (kept_alloc 0 0 w _).trans (kept_alloc 0 0 _ _)
  have hsz : w.heap.size < (Put3 w1 w.heap.size (.slice b1 n1 d1) (.slice a2 n2 d2) (.slice b3 n3 d3)).heap.size := Nat.lt_of_lt_of_le kk.sz kp.size
  have hRB : RB (Put3 w1 w.heap.size (.slice b1 n1 d1) (.slice a2 n2 d2) (.slice b3 n3 d3)) (w.heap.size + 1) (.slice none 0 0) (.slice none 0 0) (.slice none 0 0) := by
    obtain ⟨bz, t0, t1, t2, x0, x1, x2⟩ := hR.keep k
    have c : ∀ o, (Put3 w1 w.heap.size (.slice b1 n1 d1) (.slice a2 n2 d2) (.slice b3 n3 d3)).cell? ⟨w.heap.size + 1, o, none⟩ = w1.cell? ⟨w.heap.size + 1, o, none⟩ := fun o => kp.cell (p := ⟨w.heap.size + 1, o, none⟩) bz (by show ¬ (w.heap.size ≤ w.heap.size + 1 ∧ w.heap.size + 1 < w.heap.size + 1); omega)
    have fz : ∀ o, (Put3 w1 w.heap.size (.slice b1 n1 d1) (.slice a2 n2 d2) (.slice b3 n3 d3)).frozen? ⟨w.heap.size + 1, o, none⟩ = w1.frozen? ⟨w.heap.size + 1, o, none⟩ := fun o => kp.frozen (p := ⟨w.heap.size + 1, o, none⟩) bz (by show ¬ (w.heap.size ≤ w.heap.size + 1 ∧ w.heap.size + 1 < w.heap.size + 1); omega)
    exact ⟨Nat.lt_of_lt_of_le bz kp.size, by rw [c]; exact t0, by rw [c]; exact t1, by rw [c]; exact t2, by rw [fz]; exact x0, by rw [fz]; exact x1, by rw [fz]; exact x2⟩
  have z2 := kp.size
  subst hn
  exact {
    g := ⟨hsz, fun o => by
        unfold Put3
        simp [k.frozen (p := ⟨w.heap.size, o, none⟩) hG.sz (by omega), hf o], y0, y1, y2, p2, rfl, fun c => by have := r2 _ c; omega, Nat.le_trans hbs z2⟩
    b := hRB
    i := p1
    o := p3
    k := Kept.new (kn.trans k) kp (Nat.le_refl _)
    hb := hbz
    a1 := fun B h1 h2 => q1 B h2 h1
    a3 := fun B h1 h2 => q2 B h2 h1
    a4 := q3 }
end Go.Proofs.Ytdkjdlimcnddkaa

namespace Go.Proofs.Ytdkjdlimcnddkaa
open Go.RowKit Flt
/-- A value that keeps the bounds. -/
def VOK (u : Vl) : Prop := 1 ≤ u.len ∧ u.len ≤ 1000 ∧ u.k < 18446744073709551616
def AllV (us : List Vl) : Prop := ∀ u ∈ us, VOK u
theorem AllV.app {a b : List Vl} (h : AllV a) (k : AllV b) : AllV (a ++ b) := fun u hu => (List.mem_append.1 hu).elim (h u) (k u)
theorem allv_nil : AllV [] := fun u hu => by cases hu
theorem AllV.cons {u : Vl} {us : List Vl} (h : VOK u) (k : AllV us) : AllV (u :: us) := fun x hx => by
  cases hx with
  | head => exact h
  | tail _ hx => exact k x hx
theorem vput_ok {o l p q r : Int} (h : 1 ≤ l ∧ l ≤ 1000) : VOK (vput o l p q r) := ⟨h.1, h.2, by show (0 : Nat) < _; decide⟩
theorem av_ite {p : Prop} [Decidable p] {a b : List Vl × Int} (ha : p → AllV a.1) (hb : ¬ p → AllV b.1) : AllV (if p then a else b).1 := by
  split
  · exact ha (by assumption)
  · exact hb (by assumption)
theorem prt_ok (i : Int) (v : Vl) (la : Int) (k : Nat) (d : Int) (N : Nat) (hv : 1 ≤ v.len ∧ v.len ≤ 1000) (hla : (v.op = 9 ∨ v.op = 11) → 1 ≤ la ∧ la ≤ 1000) : AllV (prtM i v la k d N).1 := by
  unfold prtM
  refine av_ite (fun _ => allv_nil) (fun _ => av_ite (fun _ => av_ite (fun _ => allv_nil) (fun _ => (AllV.cons (vput_ok hv) allv_nil))) (fun _ => av_ite (fun _ => av_ite (fun _ => AllV.cons (vput_ok hv) allv_nil) (fun _ => AllV.cons (vput_ok hv) allv_nil)) (fun _ => av_ite (fun _ => av_ite (fun _ => AllV.cons (vput_ok hv) allv_nil) (fun _ => AllV.cons (vput_ok hv) (AllV.cons (vput_ok hv) (AllV.cons (vput_ok hv) allv_nil)))) (fun _ => av_ite (fun _ => AllV.cons (vput_ok hv) allv_nil) (fun _ => av_ite (fun _ => AllV.cons (vput_ok hv) allv_nil) (fun _ => av_ite (fun _ => av_ite (fun _ => AllV.cons (vput_ok hv) (AllV.cons (vput_ok hv) allv_nil)) (fun _ => AllV.cons (vput_ok hv) (AllV.cons (vput_ok hv) allv_nil))) (fun _ => av_ite (fun _ => av_ite (fun _ => AllV.cons (vput_ok hv) (AllV.cons (vput_ok hv) (AllV.cons (vput_ok hv) allv_nil))) (fun _ => AllV.cons (vput_ok hv) (AllV.cons (vput_ok hv) (AllV.cons (vput_ok hv) allv_nil)))) (fun _ => av_ite (fun h9 => AllV.cons (vput_ok (hla (.inl h9))) allv_nil) (fun _ => av_ite (fun _ => AllV.cons (vput_ok (by omega)) allv_nil) (fun _ => av_ite (fun h11 => AllV.cons (vput_ok (hla (.inr h11))) allv_nil) (fun _ => AllV.cons (vput_ok (by omega)) allv_nil)))))))))))
/-- What the walk back asks of the values. -/
structure GVs (vs : List Vl) : Prop where
  a : AllV vs
  o : ∀ i, i < vs.length → ∀ k, k < cnt (vs.getD i Vl.zero).op → 0 ≤ fld (vs.getD i Vl.zero) k ∧ fld (vs.getD i Vl.zero) k < i
  l : ∀ i, i < vs.length → ((vs.getD i Vl.zero).op = 9 ∨ (vs.getD i Vl.zero).op = 11) → 1 ≤ laM vs i ∧ laM vs i ≤ 1000
theorem GVs.at_ {vs : List Vl} (h : GVs vs) {j : Nat} (hj : j < vs.length) : VOK (vs.getD j Vl.zero) := by
  rw [List.getD_eq_getElem?_getD, List.getElem?_eq_getElem hj]
  exact h.a _ (List.getElem_mem _)
theorem gkM_ok {vs : List Vl} (h : GVs vs) {act : List Bool} {i k : Nat} (hi : i < vs.length) (hk : k < cnt (vs.getD i Vl.zero).op) {st : List Vl × List Int} (ha : AllV st.1) : AllV (gkM vs act i k st).1 := by
  have hv := h.at_ hi
  have ho := h.o i hi k hk
  unfold gkM
  split
  · have hp := prt_ok (i : Int) (vs.getD i Vl.zero) (laM vs i) k (st.2.getD i 0) st.1.length ⟨hv.1, hv.2.1⟩ (h.l i hi)
    unfold giveM
    split
    · exact ha.app hp
    · have hov := h.at_ (j := (fld (vs.getD i Vl.zero) k).toNat) (by omega)
      exact (ha.app hp).app (AllV.cons (vput_ok ⟨hov.1, hov.2.1⟩) allv_nil)
  · exact ha
theorem gkTo_ok {vs : List Vl} (h : GVs vs) {act : List Bool} {i : Nat} (hi : i < vs.length) {st : List Vl × List Int} (ha : AllV st.1) : ∀ k, k ≤ cnt (vs.getD i Vl.zero).op → AllV (gkTo vs act i st k).1
  | 0, _ => ha
  | k + 1, hk => gkM_ok h hi hk (gkTo_ok h hi ha k (by omega))
theorem giM_ok {vs : List Vl} (h : GVs vs) {act : List Bool} {i : Nat} (hi : i < vs.length) {st : List Vl × List Int} (ha : AllV st.1) : AllV (giM vs act i st).1 := by
  unfold giM
  split
  · exact ha
  · exact gkTo_ok h hi ha _ (Nat.le_refl _)
theorem gdn_ok {vs : List Vl} (h : GVs vs) {act : List Bool} {s : Nat} (hs : s < vs.length) : ∀ j, AllV (gdn vs act s j).1
  | 0 => h.a.app (AllV.cons ⟨by show (1 : Int) ≤ 1; omega, by show (1 : Int) ≤ 1000; omega, by show (4607182418800017408 : Nat) < 18446744073709551616; decide⟩ allv_nil)
  | j + 1 => giM_ok h (by omega) (gdn_ok h hs j)
theorem grM_ok {vs : List Vl} (h : GVs vs) {s x : Nat} (hs : s < vs.length) (hx : x < vs.length) : AllV (grM vs s x).1 := by
  have hv := h.at_ hx
  unfold grM
  split
  · unfold downs
    rw [gdn_fold _ _ _ _ _ (Nat.le_refl _)]
    unfold gfin
    split
    · exact (gdn_ok h hs _).app (AllV.cons (vput_ok ⟨hv.1, hv.2.1⟩) allv_nil)
    · exact gdn_ok h hs _
  · exact h.a.app (AllV.cons (vput_ok ⟨hv.1, hv.2.1⟩) allv_nil)
theorem gvs_of {ins : List Int} {vs : List Vl} (hok : (List.range vs.length).all (okV ins vs) = true) (hk : ∀ v ∈ vs, v.k < 18446744073709551616) : GVs vs where
  a := fun u hu => by
    obtain ⟨j, hj, e⟩ := List.getElem_of_mem hu
    have hl := okV_len (List.all_eq_true.1 hok j (List.mem_range.2 hj))
    rw [List.getD_eq_getElem?_getD, List.getElem?_eq_getElem hj] at hl
    simp only [Option.getD_some] at hl
    rw [e] at hl
    exact ⟨hl.1, hl.2, hk u hu⟩
  o := fun i hi => ok_opsJ (List.all_eq_true.1 hok i (List.mem_range.2 hi))
  l := fun i hi ho => by
    obtain ⟨_, _, _, _, h1, h2⟩ := ok_la hok i hi ho
    exact ⟨h1, h2⟩
end Go.Proofs.Ytdkjdlimcnddkaa
