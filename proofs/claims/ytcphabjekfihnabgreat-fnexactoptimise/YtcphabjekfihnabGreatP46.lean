import Derived.Test.YtcphabjekfihnabGreatP44
import Derived.Test.YtcphabjekfihnabGreatP45
import Derived.Deep.DrawnRows
import Derived.Test.YtcphabjekfihnabGreatP38
import Derived.Test.YtcphabjekfihnabGreatP36
namespace Go.Proofs.YtcphabjekfihnabGreat
open Go.RowKit Flt
attribute [local go_sem] alloc_drewN setCell_drewN run_store_float
attribute [local go_sem ↓] Go.wp_at_zero Go.wp_at_succ

theorem own_vz {W : World} {base n d : Nat} {b : Option Addr} {vs : List Vl} (h : W.ownsRow base 59 6 (.slice b n d) n (flat vs)) (hl : vs.length = n) (H : Nat) : ∃ G, VZ W G b n vs ∧ (((Value.slice b n d).ownBlock = some G ∧ base ≤ G ∧ G < W.heap.size ∧ 0 < n) ∨ (n = 0 ∧ G = H)) := by
  rcases Nat.eq_zero_or_pos n with h0 | h0
  · exact ⟨H, .inl h0, .inr ⟨h0, rfl⟩⟩
  · obtain ⟨g, c, e, h1, h2, _, hA⟩ := row_at h h0 hl
    cases e
    exact ⟨g, .inr ⟨rfl, hA⟩, .inl ⟨rfl, h1, h2, h0⟩⟩
theorem own_iz {W : World} {base n d : Nat} {b : Option Addr} {xs : List Int} (h : W.ownsRow base 3 1 (.slice b n d) n (xs.map (Value.int .i64))) (hl : xs.length = n) (H : Nat) : ∃ G, IZ W G b n xs ∧ (((Value.slice b n d).ownBlock = some G ∧ base ≤ G ∧ G < W.heap.size ∧ 0 < n) ∨ (n = 0 ∧ G = H)) := by
  rcases Nat.eq_zero_or_pos n with h0 | h0
  · exact ⟨H, .inl h0, .inr ⟨h0, rfl⟩⟩
  · rcases own_io h hl with h1 | ⟨g, rfl, h2, q⟩
    · omega
    · exact ⟨g, .inr ⟨rfl, q⟩, .inl ⟨rfl, h2, q.lt, h0⟩⟩
theorem VZ.va {W : World} {G n : Nat} {b : Option Addr} {vs : List Vl} (h : VZ W G b n vs) (hn : 0 < n) : b = some ⟨G, 0, none⟩ ∧ VA W G n vs := by
  rcases h with c | c
  · omega
  · exact c
theorem own_isB {W : World} {base n d : Nat} {b : Option Addr} {xs : List Int} (h : W.ownsRow base 3 1 (.slice b n d) n (xs.map (Value.int .i64))) (hl : xs.length = n) : IS W base W.heap.size b n xs := by
  rcases own_io h hl with h0 | ⟨g, e, hb, q⟩
  · exact ⟨hl, .inl h0⟩
  · exact ⟨hl, .inr ⟨g, 0, e, hb, q.lt, q.lt, fun k hk => by rw [Nat.zero_add]; exact q.at_ k hk⟩⟩
/-- What the loop of l4equal holds: the new values, and to which each was found equal. -/
structure EI (W w4 : World) (O G2 n2 base i : Nat) (u1 u2 u3 ev : Value) (b2 : Option Addr) (us : List Vl) (tq : List Int) : Prop where
  ob : RB W O u1 u2 u3
  va : VZ W G2 b2 n2 us
  own : W.ownsRow base 3 1 ev i (tq.map (Value.int .i64))
  tl : tq.length = i
  ch : Chg (fun b => b = G2 ∨ base ≤ b) w4 W
  bz : base ≤ W.heap.size
theorem EI.put {W W2 w4 : World} {O G2 n2 base i : Nat} {u1 u2 u3 ev : Value} {b2 : Option Addr} {us us' : List Vl} {tq : List Int} {nv : Vl} (f : EI W w4 O G2 n2 base i u1 u2 u3 ev b2 us tq) (k : Kept 0 0 W W2) (hO : O ≠ G2) (hG : G2 < base) (hi : i < n2) (hu : us.set i nv = us') : EI (put6 W2 G2 (i * 6) nv) w4 O G2 n2 base i u1 u2 u3 ev b2 us' tq := by
  have kp := put6_kept W2 G2 (i * 6) nv
  have cp : Chg (fun b => b = G2) W2 (put6 W2 G2 (i * 6) nv) := kp.chg1 rfl
  obtain ⟨e, hA⟩ := f.va.va (by omega)
  refine ⟨(f.ob.keep k).keepC cp hO, .inr ⟨e, ?_⟩, own_keepC (own_keepJ f.own k) cp (fun b hb => by have := (own_blkV f.own hb).1; omega), f.tl, Chg.trans f.ch (Chg.trans k.chg (cp.mono fun b _ c => .inl c)), Nat.le_trans (Nat.le_trans f.bz k.size) kp.size⟩
  rw [← hu]
  exact (hA.keep k (.inr (.inr (Nat.le_refl _)))).step i hi nv
theorem EI.stay {W W' w4 : World} {O G2 n2 base i : Nat} {u1 u2 u3 ev : Value} {b2 : Option Addr} {us : List Vl} {tq : List Int} (f : EI W w4 O G2 n2 base i u1 u2 u3 ev b2 us tq) (k : Kept 0 0 W W') : EI W' w4 O G2 n2 base i u1 u2 u3 ev b2 us tq :=
  ⟨f.ob.keep k, f.va.keep k (.inr (.inr (Nat.le_refl _))), own_keepJ f.own k, f.tl, Chg.trans f.ch k.chg, Nat.le_trans f.bz k.size⟩
theorem EI.next {W w9 w4 : World} {O G2 n2 base i g9 cap9 : Nat} {u1 u2 u3 ev : Value} {b2 : Option Addr} {us : List Vl} {tq : List Int} {x : Int} {o : Obj} (f : EI W w4 O G2 n2 base i u1 u2 u3 ev b2 us tq) (hO : O < base) (hG : G2 < base ∨ n2 = 0)
    (hown : w9.ownsRow base 3 1 (.slice (some ⟨g9, 0, none⟩) (i + 1) cap9) (i + 1) (tq.map (Value.int .i64) ++ [.int .i64 x])) (hg : (W.alloc o).grownBy w9 ev.ownBlock) : EI w9 w4 O G2 n2 base (i + 1) u1 u2 u3 (.slice (some ⟨g9, 0, none⟩) (i + 1) cap9) b2 us (tq ++ [x]) := by
  have ka := kept_alloc 0 0 W o
  have cg := chg_grow hg
  have hR : ∀ b, ev.ownBlock = some b → base ≤ b := fun b hb => (own_blkV f.own hb).1
  have va9 : VZ w9 G2 b2 n2 us := by
    rcases hG with c | c
    · exact (f.va.keep ka (.inr (.inr (Nat.le_refl _)))).keepC cg (fun q => by have := hR _ q; omega)
    · exact .inl c
  refine ⟨(f.ob.keep ka).keepC cg (fun c => by have := hR _ c; omega), va9, by rw [List.map_append]; exact hown, by rw [List.length_append, f.tl]; rfl, Chg.trans f.ch (Chg.trans ka.chg (cg.mono fun b _ c => .inr (hR b c))), ?_⟩
  have h1 := f.bz
  have h2 := ka.size
  have h3 := cg.size
  omega
theorem drop_find {A : List Vl} {v : Vl} {j : Nat} (h : j < A.length) : (A.drop j).findIdx (alike · v) = if alike (A.getD j Vl.zero) v = true then 0 else (A.drop (j + 1)).findIdx (alike · v) + 1 := by
  rw [drop_cons h, List.findIdx_cons]
  cases alike (A.getD j Vl.zero) v <;> rfl
theorem unitS_mid {A B R : List Vl} {nv : Vl} {i : Nat} (hB : B = A ++ [nv]) (hl : A.length = i) (hn : ∀ o ∈ opsOf nv, 0 ≤ o ∧ o < i) : unitS (B ++ R) nv = unitS A nv := by
  subst hB
  unfold unitS
  cases hu : unitB nv.op
  · have := of_decide_eq_false hu
    have m4 : ¬ nv.op = 4 := by omega
    have m5 : ¬ nv.op = 5 := by omega
    have m3 : ¬ nv.op = 3 := by omega
    have m2 : ¬ nv.op = 2 := by omega
    simp [m4, m5, m3, m2]
  · have hc := unitB_cnt hu
    have ha := hn _ (opsOf_a (v := nv) (by omega))
    have hb := hn _ (opsOf_b (v := nv) (by omega))
    have ea : ∀ k, isC (A ++ [nv] ++ R) nv.a k = isC A nv.a k := fun k => by unfold isC; rw [mid3_lt hl (by omega)]
    have eb : ∀ k, isC (A ++ [nv] ++ R) nv.b k = isC A nv.b k := fun k => by unfold isC; rw [mid3_lt hl (by omega)]
    simp only [ea, eb]
theorem alikeS (w : World) (u v : Vl) (hu : u.k < 18446744073709551616) (hv : v.k < 18446744073709551616) : ∀ W, Kept 0 0 w W → Calls Tryz.prog 59 #[u.agg, v.agg] W fun e w' => e = .returned (.bool (alike u v)) ∧ Kept 0 0 W w' := fun W _ => l4sameVal W u v hu hv
end Go.Proofs.YtcphabjekfihnabGreat

namespace Go.Proofs.YtcphabjekfihnabGreat
open Go.RowKit Flt
attribute [local go_sem] alloc_drewN setCell_drewN run_store_float
attribute [local go_sem ↓] Go.wp_at_zero Go.wp_at_succ

set_option maxRecDepth 100000 in
set_option maxHeartbeats 4000000 in
theorem l4uniform_pos (w : World) (lo hi : Nat) (a : Option Addr) (n c : Nat) (zs : List Nat) (f : FS w lo hi a n zs) (hn : 1 ≤ n) (hn2 : n ≤ 1000) :
    Calls Tryz.prog 58 #[.slice a n c] w fun e w' => e = .returned (.bool (uni zs)) ∧ Kept 0 0 w w' := by
  rcases f.at_ with z | ⟨g, off, rfl, _, _, hgl, hc⟩
  · omega
  have HF : Hid _ := hc
  have HL : Hid (zs.length = n) := f.len
  have HLT : Hid _ := f.lt
  have HGL : Hid (g < w.heap.size) := hgl
  clear hc f hgl
  have hn0 : 0 < n := hn
  go_enter Tryz.func58, Tryz.ntmps58
  go_wp2_with fail
  go_loopw [3] (fun x W => ∃ k : Nat, k ≤ n ∧ x = .int .i64 k ∧ Hid ((zs.take k).all (fun x => fb x == fb (zs.getD 0 0)) = true) ∧ Hid (Kept 0 0 w W)) (fun x _ => n - (intOf x).toNat)
  case atStart => exact ⟨0, Nat.zero_le _, rfl, rfl, Kept.refl _ _ _⟩
  case round =>
    obtain ⟨k, hk, rfl, hA, hK⟩ := hrel
    have c0 := kcell hK.out HGL.out (HF.out 0 (by omega))
    rw [Nat.add_zero] at c0
    by_cases hlt : k < n
    · have hlt' : k < zs.length := by rw [HL.out]; exact hlt
      have c1 := kcell hK.out HGL.out (HF.out k hlt)
      have HI : Hid (∀ w, Calls Tryz.prog 82 #[.float .f64 (zs.getD k 0), .float .f64 (zs.getD 0 0)] w fun e w' => e = .returned (.bool (fb (zs.getD k 0) == fb (zs.getD 0 0))) ∧ w' = w) := fun w => (specSame _ _ w (getD_lt HLT.out k) (getD_lt HLT.out 0)).mono fun _ _ h => ⟨by rw [h.1, nat_beq], h.2⟩
      have R1 : Hid ((fb (zs.getD k 0) == fb (zs.getD 0 0)) = true → (zs.take (k + 1)).all (fun x => fb x == fb (zs.getD 0 0)) = true) := fun t => by
        rw [List.take_succ_eq_append_getElem hlt', List.all_append, hA.out]
        rw [List.getD_eq_getElem?_getD, List.getElem?_eq_getElem hlt'] at t
        simpa using t
      have R0 : Hid ((fb (zs.getD k 0) == fb (zs.getD 0 0)) = false → uni zs = false) := fun t => by
        unfold uni
        rw [List.all_eq_false.2 ⟨zs.getD k 0, by rw [List.getD_eq_getElem?_getD, List.getElem?_eq_getElem hlt']; exact List.getElem_mem _, by rw [t]; simp⟩, Bool.and_false]
      generalize (fb (zs.getD k 0) == fb (zs.getD 0 0)) = t at HI R0 R1
      generalize hxk : zs.getD k 0 = xk at c1 HI
      generalize hx0 : zs.getD 0 0 = x0 at c0 HI R1
      have HX0 : Hid (zs.getD 0 0 = x0) := hx0
      clear hxk hx0 hlt' hA
      go_wp2_with fail
      go_region_with ((go_at_call 82; refine Calls.mono (HI.out _) ?_; rintro e w2 ⟨rfl, rfl⟩))
      all_goals
        cases t
        · have R : Hid (uni zs = false) := R0.out rfl
          go_wp2
          go_ret
          exact ⟨by rw [R.out]; rfl, Kept.trans hK.out (kept_drew _)⟩
        · have R : Hid _ := R1.out rfl
          go_wp2
          go_roundw
          case rel => exact ⟨k + 1, by omega, by go_num, by first | exact R | (rw [HX0.out]; exact R), Kept.trans hK.out (kept_drew _)⟩
          case measure => simp [intOf]; omega
    · obtain rfl : k = n := by omega
      have R : Hid (uni zs = true) := by
        show _ = _
        have := hA.out
        rw [List.take_of_length_le (by rw [HL.out]; omega)] at this
        unfold uni
        rw [this, HL.out]
        simp
        omega
      clear hA
      go_wp2
      go_ret
      exact ⟨by rw [R.out]; simp <;> omega, hK.out⟩
set_option maxRecDepth 100000 in
set_option maxHeartbeats 4000000 in
theorem l4uniform_zero (w : World) (a : Option Addr) (c : Nat) :
    Calls Tryz.prog 58 #[.slice a 0 c] w fun e w' => e = .returned (.bool false) ∧ Kept 0 0 w w' := by
  go_enter Tryz.func58, Tryz.ntmps58
  go_wp2_with fail
  refine wp_loop_rounds 1 ?_
  rw [rounds_succ]
  go_wp2
  go_ret
  exact ⟨rfl, Kept.refl _ _ _⟩
theorem l4uniform (w : World) (lo hi : Nat) (a : Option Addr) (n c : Nat) (zs : List Nat) (f : FS w lo hi a n zs) (hn2 : n ≤ 1000) :
    Calls Tryz.prog 58 #[.slice a n c] w fun e w' => e = .returned (.bool (uni zs)) ∧ Kept 0 0 w w' := by
  rcases Nat.eq_zero_or_pos n with h | h
  · subst h
    have : zs = [] := List.length_eq_zero_iff.1 f.len
    subst this
    exact l4uniform_zero w a c
  · exact l4uniform_pos w lo hi a n c zs f h hn2
/-- The three lists that the model hands to Kernel. -/
def argV (us : List Vl) (v : Vl) : List (List Nat) := [if 0 < cnt v.op then argL us v.a else [], if 1 < cnt v.op then argL us v.b else [], if 2 < cnt v.op then argL us v.c else []]
theorem argV_in (us : List Vl) (v : Vl) {q : Nat} (hq : q < cnt v.op) : (argV us v).getD q [] = argL us (fld v q) := by
  have := cnt_le v.op
  rcases (by omega : q = 0 ∨ q = 1 ∨ q = 2) with rfl | rfl | rfl
  all_goals simp [argV, fld, hq]
theorem argV_out (us : List Vl) (v : Vl) {q : Nat} (h3 : q < 3) (hq : ¬ q < cnt v.op) : (argV us v).getD q [] = [] := by
  rcases (by omega : q = 0 ∨ q = 1 ∨ q = 2) with rfl | rfl | rfl
  all_goals simp [argV, hq]
def allQ (us : List Vl) (v : Vl) (q : Nat) : Bool := decide (0 < cnt v.op) && ((opsOf v).take q).all fun o => (us.getD o.toNat Vl.zero).op == 1
theorem allQ_in {us : List Vl} {v : Vl} {q : Nat} (hq : q < cnt v.op) : allQ us v (q + 1) = (allQ us v q && (us.getD (fld v q).toNat Vl.zero).op == 1) := by
  unfold allQ
  have hl : q < (opsOf v).length := by rw [opsOf_len]; exact hq
  rw [List.take_succ_eq_append_getElem hl, List.all_append]
  have e : (opsOf v)[q] = fld v q := by rw [← opsOf_fld v hq, List.getD_eq_getElem?_getD, List.getElem?_eq_getElem hl]; rfl
  rw [e]
  simp [Bool.and_assoc]
theorem allQ_out {us : List Vl} {v : Vl} {q : Nat} (hq : ¬ q < cnt v.op) : allQ us v (q + 1) = allQ us v q := by
  unfold allQ
  rw [List.take_of_length_le (by rw [opsOf_len]; omega), List.take_of_length_le (by rw [opsOf_len]; omega)]
theorem allQ_end (us : List Vl) (v : Vl) : allQ us v 3 = foldB us v := by
  unfold allQ foldB
  rw [List.take_of_length_le (by rw [opsOf_len]; exact cnt_le _)]
theorem foldV_app {us R : List Vl} {v : Vl} (h : ∀ o ∈ opsOf v, 0 ≤ o ∧ o < us.length) : foldB (us ++ R) v = foldB us v ∧ foldR (us ++ R) v = foldR us v := by
  have key : ∀ o ∈ opsOf v, (us ++ R).getD o.toNat Vl.zero = us.getD o.toNat Vl.zero := fun o ho => by
    have := h o ho
    rw [List.getD_eq_getElem?_getD, List.getElem?_append_left (by omega), ← List.getD_eq_getElem?_getD]
  constructor
  · unfold foldB
    congr 1
    rw [Bool.eq_iff_iff, List.all_eq_true, List.all_eq_true]
    constructor
    · intro q o ho; rw [← key o ho]; exact q o ho
    · intro q o ho; rw [key o ho]; exact q o ho
  · unfold foldR argL
    congr 1
    · split
      · rw [key _ (opsOf_a (by omega))]
      · rfl
    · split
      · rw [key _ (opsOf_b (by omega))]
      · rfl
    · split
      · rw [key _ (opsOf_c (by omega))]
      · rfl
/-- What the loop of l4fold holds. -/
structure FLd (W w4 : World) (O G2 n2 base : Nat) (u1 u2 u3 : Value) (b2 : Option Addr) (us : List Vl) : Prop where
  ob : RB W O u1 u2 u3
  va : VZ W G2 b2 n2 us
  ch : Chg (fun b => b = G2 ∨ base ≤ b) w4 W
  bz : base ≤ W.heap.size
theorem FLd.stay {W W' w4 : World} {O G2 n2 base : Nat} {u1 u2 u3 : Value} {b2 : Option Addr} {us : List Vl} (f : FLd W w4 O G2 n2 base u1 u2 u3 b2 us) (k : Kept 0 0 W W') : FLd W' w4 O G2 n2 base u1 u2 u3 b2 us :=
  ⟨f.ob.keep k, VZ.keep f.va k (.inr (.inr (Nat.le_refl _))), Chg.trans f.ch k.chg, Nat.le_trans f.bz k.size⟩
theorem FLd.put {W W2 w4 : World} {O G2 n2 base i : Nat} {u1 u2 u3 : Value} {b2 : Option Addr} {us us' : List Vl} {nv : Vl} (f : FLd W w4 O G2 n2 base u1 u2 u3 b2 us) (k : Kept 0 0 W W2) (hO : O ≠ G2) (hi : i < n2) (hu : us.set i nv = us') : FLd (put6 W2 G2 (i * 6) nv) w4 O G2 n2 base u1 u2 u3 b2 us' := by
  have kp := put6_kept W2 G2 (i * 6) nv
  have cp : Chg (fun b => b = G2) W2 (put6 W2 G2 (i * 6) nv) := kp.chg1 rfl
  obtain ⟨e, hA⟩ := f.va.va (by omega)
  refine ⟨(f.ob.keep k).keepC cp hO, .inr ⟨e, ?_⟩, Chg.trans f.ch (Chg.trans k.chg (cp.mono fun b _ c => .inl c)), Nat.le_trans (Nat.le_trans f.bz k.size) kp.size⟩
  rw [← hu]
  exact (hA.keep k (.inr (.inr (Nat.le_refl _)))).step i hi nv
end Go.Proofs.YtcphabjekfihnabGreat
