import Derived.Test.YtdkjdlimcnddkaaA25
import Derived.RangeFuncNested
import Derived.RangeFuncBound
import Derived.RangeFuncCalls
import Derived.RangeFuncLeaves
import Derived.Shelf.Abstract
import Derived.Shelf.RegionOpen
import Derived.OwnWalkIn
import Derived.TacticsInMore
import Derived.LoopNIn
import Derived.LoopIn
import Derived.Test.YtdkjdlimcnddkaaA01
namespace Go.Proofs.Ytdkjdlimcnddkaa
open Go.RowKit Flt
/-! How much the walk back puts behind: pure. -/
def SzU (L : Nat) (C : Int) (us : List Vl) : Prop := us.length ≤ L ∧ 0 ≤ cellsV us ∧ cellsV us ≤ C
theorem SzU.app {L L' : Nat} {C C' : Int} {us a : List Vl} (h : SzU L C us) (h' : SzU L' C' a) : SzU (L + L') (C + C') (us ++ a) := by
  obtain ⟨a1, a2, a3⟩ := h
  obtain ⟨b1, b2, b3⟩ := h'
  refine ⟨by rw [List.length_append]; omega, ?_, ?_⟩ <;> (rw [cellsV_app]; omega)
theorem SzU.mono {L L' : Nat} {C C' : Int} {us : List Vl} (h : SzU L C us) (h1 : L ≤ L') (h2 : C ≤ C') : SzU L' C' us := ⟨Nat.le_trans h.1 h1, h.2.1, Int.le_trans h.2.2 h2⟩
theorem SzU.bz {L : Nat} {C : Int} {us : List Vl} (h : SzU L C us) (h1 : L ≤ 800000) (h2 : C ≤ 800000000) : Bz us := ⟨Nat.le_trans h.1 h1, h.2.1, Int.le_trans h.2.2 h2⟩
def LnB (vs0 : List Vl) : Prop := ∀ j, 0 ≤ (vs0.getD j Vl.zero).len ∧ (vs0.getD j Vl.zero).len ≤ 1000
theorem lnB_of {vs0 : List Vl} (h : ∀ j, j < vs0.length → 1 ≤ (vs0.getD j Vl.zero).len ∧ (vs0.getD j Vl.zero).len ≤ 1000) : LnB vs0 := fun j => by
  by_cases hj : j < vs0.length
  · have := h j hj; omega
  · rw [List.getD_eq_getElem?_getD, List.getElem?_eq_none (by omega)]
    show 0 ≤ (0 : Int) ∧ (0 : Int) ≤ 1000
    omega
theorem giveM_sz {vs0 : List Vl} (hL : LnB vs0) {L : Nat} {C : Int} {o : Nat} {p : Int} {st : List Vl × List Int} (h : SzU L C st.1) : SzU (L + 1) (C + 1000) (giveM vs0 o p st).1 := by
  unfold giveM
  split
  · exact h.mono (by omega) (by omega)
  · refine h.app ⟨by simp, ?_, ?_⟩ <;> (simp only [cellsV]; have := hL o; omega)
theorem gkM_sz {vs0 : List Vl} (hL : LnB vs0) {act : List Bool} {i k : Nat} {L : Nat} {C : Int} {st : List Vl × List Int} (h : SzU L C st.1) : SzU (L + 4) (C + 4000) (gkM vs0 act i k st).1 := by
  unfold gkM
  split
  · have hp := prt_size (i : Int) (vs0.getD i Vl.zero) (laM vs0 i) k (st.2.getD i 0) st.1.length (hL i).1 (hL i).2 (hL _).1 (hL _).2
    have := giveM_sz hL (o := (fld (vs0.getD i Vl.zero) k).toNat) (p := (prtM (i : Int) (vs0.getD i Vl.zero) (laM vs0 i) k (st.2.getD i 0) st.1.length).2) (st := (st.1 ++ (prtM (i : Int) (vs0.getD i Vl.zero) (laM vs0 i) k (st.2.getD i 0) st.1.length).1, st.2)) (SzU.app (L' := 3) (C' := 3000) h ⟨hp.1, hp.2.1, hp.2.2⟩)
    exact this.mono (by omega) (by omega)
  · exact h.mono (by omega) (by omega)
theorem gkTo_sz {vs0 : List Vl} (hL : LnB vs0) {act : List Bool} {i : Nat} {L : Nat} {C : Int} {st : List Vl × List Int} (h : SzU L C st.1) : ∀ k : Nat, SzU (L + 4 * k) (C + 4000 * (k : Int)) (gkTo vs0 act i st k).1
  | 0 => h.mono (by omega) (by omega)
  | k + 1 => (gkM_sz hL (gkTo_sz hL h k)).mono (by omega) (by omega)
theorem giM_sz {vs0 : List Vl} (hL : LnB vs0) {act : List Bool} {i : Nat} {L : Nat} {C : Int} {st : List Vl × List Int} (h : SzU L C st.1) : SzU (L + 12) (C + 12000) (giM vs0 act i st).1 := by
  have := cnt_le (vs0.getD i Vl.zero).op
  unfold giM
  split
  · exact h.mono (by omega) (by omega)
  · exact (gkTo_sz hL h _).mono (by omega) (by omega)
theorem giM_pre {vs0 : List Vl} {act : List Bool} {i : Nat} {st : List Vl × List Int} (h : Pre vs0 st.1) : Pre vs0 (giM vs0 act i st).1 := by
  unfold giM
  split
  · exact h
  · exact gkTo_pre h _
theorem giM_len {vs0 : List Vl} {act : List Bool} {i : Nat} {st : List Vl × List Int} : (giM vs0 act i st).2.length = st.2.length := by
  unfold giM
  split
  · rfl
  · exact gkTo_len _
/-- The rules in a list, one after the other. -/
def gfold (vs0 : List Vl) (act : List Bool) (x : Nat) (st : List Vl × List Int) (js : List Nat) : List Vl × List Int := js.foldl (fun st j => giM vs0 act (x + 1 + j) st) st
theorem gfold_snoc (vs0 : List Vl) (act : List Bool) (x : Nat) (st : List Vl × List Int) (js : List Nat) (j : Nat) : gfold vs0 act x st (js ++ [j]) = giM vs0 act (x + 1 + j) (gfold vs0 act x st js) := by simp [gfold]
theorem gfold_inv {vs0 : List Vl} (hL : LnB vs0) {act : List Bool} {x : Nat} : ∀ (js : List Nat) (L : Nat) (C : Int) (st : List Vl × List Int), SzU L C st.1 → Pre vs0 st.1 → SzU (L + 12 * js.length) (C + 12000 * (js.length : Int)) (gfold vs0 act x st js).1 ∧ Pre vs0 (gfold vs0 act x st js).1 ∧ (gfold vs0 act x st js).2.length = st.2.length
  | [], L, C, st, h, hp => ⟨h.mono (by simp) (by simp), hp, rfl⟩
  | j :: js, L, C, st, h, hp => by
    obtain ⟨a1, a2, a3⟩ := gfold_inv hL js (L + 12) (C + 12000) (giM vs0 act (x + 1 + j) st) (giM_sz hL h) (giM_pre hp)
    have e : gfold vs0 act x st (j :: js) = gfold vs0 act x (giM vs0 act (x + 1 + j) st) js := rfl
    rw [e]
    refine ⟨a1.mono ?_ ?_, a2, by rw [a3, giM_len]⟩ <;> (simp only [List.length_cons]; omega)
/-- From the last rule to the first. -/
def downs (m : Nat) : List Nat := (List.range m).map (fun i => m - 1 - i)
/-- The first slope: that of s. -/
def gst0 (vs0 : List Vl) (s : Nat) : List Vl × List Int := (vs0 ++ [⟨1, 1, 0, 0, 0, 4607182418800017408⟩], (List.replicate vs0.length (-1)).set s (vs0.length : Nat))
def gfin (vs0 : List Vl) (x : Nat) (st : List Vl × List Int) : List Vl × Int :=
  if st.2.getD x 0 = -1 then (st.1 ++ [vput 1 (vs0.getD x Vl.zero).len 0 0 0], (st.1.length : Nat)) else (st.1, st.2.getD x 0)
/-- The whole gradient. -/
def grM (vs0 : List Vl) (s x : Nat) : List Vl × Int :=
  if (actM vs0 x (s - x)).getD s false = true then gfin vs0 x (gfold vs0 (actM vs0 x (s - x)) x (gst0 vs0 s) (downs (s - x)))
  else (vs0 ++ [vput 1 (vs0.getD x Vl.zero).len 0 0 0], (vs0.length : Nat))
/-! The walk's state abides new blocks and a turn of a block that is no cells. -/
theorem own_cells {W : World} {base e size n : Nat} {v : Value} {xs : List Value} (h : W.ownsRow base e size v n xs) {g : Nat} (hg : v.ownBlock = some g) {o : Obj} (ho : W.heap[g]? = some o) : o.isCells = true := by
  rcases h.2 with ⟨rfl, _⟩ | ⟨g', cap, cur, rfl, _, hc, _⟩
  · simp [Value.ownBlock] at hg
  · simp [Value.ownBlock] at hg
    subst hg
    rw [hc] at ho
    cases ho
    rfl
theorem cell_cells {W : World} {b o : Nat} {v : Value} (h : W.cell? ⟨b, o, none⟩ = some v) {ob : Obj} (ho : W.heap[b]? = some ob) : ob.isCells = true := by
  cases ob <;> first | rfl | (exfalso; simp [World.cell?, ho] at h)
theorem not_row {W : World} {row : Option Nat} {N b : Nat} (hr : ∀ r, row = some r → N ≤ r ∧ ∃ o : Obj, W.heap[r]? = some o ∧ o.isCells = false) (hc : ∀ o : Obj, W.heap[b]? = some o → o.isCells = true) : ¬ row = some b := fun e => by
  obtain ⟨_, o, ho, hf⟩ := hr b e
  rw [hc o ho] at hf
  cases hf
theorem StQ.own {Q : Nat → Prop} {R R' : Option Nat} {W1 W W' : World} {row : Option Nat} (s : StQ Q R W1 R' W) (g : W.grownBy W' row) (hr : ∀ r, row = some r → W1.heap.size ≤ r) : StQ Q R W1 R' W' :=
  ⟨⟨g.os.trans s.chg.os, g.tape.trans s.chg.tape, g.output.trans s.chg.output, Nat.le_trans s.chg.size g.size, fun k hk hn => by
    rw [g.block k (Nat.lt_of_lt_of_le hk s.chg.size) (fun e => by have := hr k e.symm; omega)]
    exact s.chg.block k hk hn⟩, s.row⟩
theorem RSt.own {W0 W1 W W' : World} {lo hi P K A S n : Nat} {u1 u3 rv : Value} {act : List Bool} {base : Nat} {R0 R : Option Nat} {vv : Value} {st : List Vl × List Int} (f : RSt W0 W1 W lo hi P K A S n u1 u3 rv act base R0 R vv st) (h01 : W0.heap.size ≤ W1.heap.size) {row : Option Nat} (g : W.grownBy W' row) (hr : ∀ r, row = some r → W1.heap.size ≤ r ∧ ∃ o : Obj, W.heap[r]? = some o ∧ o.isCells = false) : RSt W0 W1 W' lo hi P K A S n u1 u3 rv act base R0 R vv st := by
  have k := chg_grow g
  refine ⟨f.same.chg k (fun b h1 h2 c => ?_), f.inr, BS.chg f.bs k (not_row hr (fun o ho => cell_cells f.bs.c0 ho)) (fun b hb => not_row hr (fun o ho => own_cells f.bs.own (by rw [f.bs.row]; exact hb) ho)), f.bk.keepC k (not_row hr (fun o ho => cell_cells f.bk.c0 ho)) (not_row hr (fun o ho => ?_)) (not_row hr (fun o ho => ?_)), f.dj, f.stq.own g (fun r e => (hr r e).1)⟩
  · have := (hr b c).1
    have := f.same.le
    omega
  · have h := f.bk.ac
    unfold BR at h
    rw [h] at ho
    cases ho
    rfl
  · have h := f.bk.sp
    unfold IR at h
    rw [h] at ho
    cases ho
    rfl
theorem StQ.others {P K A S n : Nat} {u1 u3 rv vv : Value} {act : List Bool} {us : List Vl} {sl : List Int} {c : Int} {base : Nat} {R R' : Option Nat} {W W' : World} (s : StQ (fun b => b = P ∨ b = S) R W R' W') (h : BS W P u1 u3 us c base R vv) (b : BK W K P A S n rv act sl) : KeepsOthers W W' :=
  ⟨s.chg.size, fun k o hk ho => by
    rw [s.chg.block k (Array.getElem?_eq_some_iff.1 hk).1 ?_]
    · exact hk
    · rintro ((rfl | rfl) | e)
      · rw [cell_cells h.c0 hk] at ho; cases ho
      · have hb := b.sp
        unfold IR at hb
        rw [hb] at hk
        cases hk
        cases ho
      · rw [own_cells h.own (by rw [h.row]; exact e) hk] at ho; cases ho⟩
end Go.Proofs.Ytdkjdlimcnddkaa

namespace Go.Proofs.Ytdkjdlimcnddkaa
open Go.RowKit Go.Shelf
attribute [local go_sem] Oper.semAt_some
set_option maxRecDepth 100000 in
set_option maxHeartbeats 4000000 in
/-- slices.Backward(s): the slice is boxed, the function catches the box. -/
theorem backward_in (F : Fence) (n : Nat) (h5 : F.fn 132) (hro : F.round = none) (a : Option Addr) (len cap : Nat) (w : World) :
    CallsIn F n Try.prog 132 #[.slice a len cap] w fun e w' => e = .returned (.func (.func 161) #[] #[.pointer (some ⟨w.heap.size, 0, none⟩)]) ∧ w' = w.alloc (.cells #[.slice a len cap] 170) := by
  refine callsIn_of_wp Try.func132 rfl h5 ?_ hro
  simp only [Try.ntmps132, List.size_toArray, List.length_cons, List.length_nil, Nat.reduceAdd, Nat.reduceSub, Array.replicate_succ, Array.replicate_zero, List.push_toArray, List.append_toArray, List.nil_append, List.cons_append]
  gi_wp2
  go_ret
  exact ⟨rfl, rfl⟩
/-- What the iterator reads: the box and the row of rules. -/
structure BkI (W : World) (Bs g m cap : Nat) (a : Option Addr) (rs : List Value) : Prop where
  box : W.cell? ⟨Bs, 0, none⟩ = some (.slice a m cap)
  at_ : ∀ j, j < m → a = some ⟨g, 0, none⟩ ∧ ∃ N bs, rs[j]?.getD .nilFunc = .func (.func N) #[] bs ∧ W.cell? ⟨g, j, none⟩ = some (.func (.func N) #[] bs)
set_option maxRecDepth 100000 in
set_option maxHeartbeats 4000000 in
theorem back1 (F : Fence) (n : Nat) (h7 : F.fn 161) (hro : F.round = none) (hn : 1 ≤ n) (l Bs g m cap : Nat) (a : Option Addr) (rs : List Value) (hm : m ≤ 100000) (Kp : World → World → Prop) (hKp : ∀ A B, Kp A B → BkI A Bs g m cap a rs → BkI B Bs g m cap a rs) (J Jx : List (Fin m) → World → Prop)
    (hY : ∀ pre x W, J pre W → pre.length < m → YieldAt F (n - 1) Try.prog l #[.int .i64 (x.1 : Int), rs[x.1]?.getD .nilFunc] W fun e W' =>
      (e = .returned (.bool true) ∧ J (pre ++ [x]) W' ∧ Kp W W') ∨ (e = .returned (.bool false) ∧ Jx (pre ++ [x]) W'))
    (W : World) (hB : BkI W Bs g m cap a rs) (h0 : J [] W) :
    CallsIn F n Try.prog 161 #[.func (.yield l) #[] #[], .pointer (some ⟨Bs, 0, none⟩)] W fun e W' => (∃ v, e = .returned v) ∧
      ((∃ ys : List (Fin m), ys.map Fin.val = (List.range m).map (fun i => m - 1 - i) ∧ J ys W') ∨ (∃ pre : List (Fin m), True ∧ Jx pre W')) := by
  have hb0 := hB.box
  have hw1 : IntKind.i64.wrap ((m : Int) - 1) = (m : Int) - 1 := by rw [IntKind.wrap_i64]; omega
  refine callsIn_of_wp Try.func161 rfl h7 ?_ hro
  simp only [Try.ntmps161, List.size_toArray, List.length_cons, List.length_nil, Nat.reduceAdd, Nat.reduceSub, Array.replicate_succ, Array.replicate_zero, List.push_toArray, List.append_toArray, List.nil_append, List.cons_append]
  gi_wp2
  gi_loopw [3] (fun v wr => ∃ (k : Nat) (pre : List (Fin m)), k ≤ m ∧ v = .int .i64 ((m : Int) - 1 - (k : Int)) ∧ pre.map Fin.val = (List.range k).map (fun i => m - 1 - i) ∧ BkI wr Bs g m cap a rs ∧ J pre wr)
    (fun v _ => (intOf v + 1).toNat)
  case atStart => exact ⟨0, [], Nat.zero_le _, by simp, rfl, hB, h0⟩
  case round =>
    obtain ⟨k, pre, hk, rfl, hpre, hB2, hJs⟩ := hrel
    have hpl : pre.length = k := by have := congrArg List.length hpre; simpa using this
    by_cases hlt : k < m
    · obtain ⟨j, hj, hjm⟩ : ∃ j : Nat, j = m - 1 - k ∧ j < m := ⟨_, rfl, by omega⟩
      have hj2 : (m : Int) - 1 - (k : Int) = (j : Int) := by omega
      obtain ⟨rfl, N, bs, hr, hc⟩ := hB2.at_ j hjm
      have hb2 := hB2.box
      obtain ⟨fn, tmps, assign, body, hy, hR⟩ := hY pre ⟨j, hjm⟩ wr hJs (by omega)
      dsimp only at hy
      rw [hr] at hy
      rw [hj2]
      have h3 : k + 1 ≤ m := hlt
      have h4 : pre.map Fin.val ++ [j] = (List.range (k + 1)).map (fun i => m - 1 - i) := by rw [List.range_succ, List.map_append, hpre, hj]; rfl
      have h5 : (m : Int) - 1 - ((k : Int) + 1) = (j : Int) - 1 := by omega
      clear hj hj2 hpre hlt
      have h1 : (0 : Int) ≤ (j : Int) := by omega
      have h2 : (j : Int) < (m : Int) := by omega
      have hw2 : IntKind.i64.wrap ((j : Int) - 1) = (j : Int) - 1 := by rw [IntKind.wrap_i64]; omega
      gi_wp2
      refine hR.mono ?_
      rintro e W3 (⟨rfl, hJ3, hk3⟩ | ⟨rfl, hJx3⟩)
      · have hB3 := hKp _ _ hk3 hB2
        gi_wp2
        go_roundw
        case rel => exact ⟨k + 1, pre ++ [⟨j, hjm⟩], h3, by rw [← h5]; push_cast; rfl, by rw [List.map_append]; exact h4, hB3, hJ3⟩
        case measure => simp [intOf]
      · gi_wp2
        refine bodyPost_ret (results_none rfl _ _ _) rfl ?_
        exact ⟨⟨_, rfl⟩, .inr ⟨_, trivial, hJx3⟩⟩
    · obtain rfl : k = m := by omega
      have h1 : ¬ ((0 : Int) ≤ (k : Int) - 1 - (k : Int)) := by omega
      gi_wp2
      go_end0
      exact ⟨⟨_, rfl⟩, .inl ⟨pre, hpre, hJs⟩⟩
theorem back_stops (F : Fence) (n : Nat) (h7 : F.fn 161) (hro : F.round = none) (hn : 1 ≤ n) (Bs g m cap : Nat) (a : Option Addr) (rs : List Value) (hm : m ≤ 100000) (Kp : World → World → Prop) (hKp : ∀ A B, Kp A B → BkI A Bs g m cap a rs → BkI B Bs g m cap a rs) (w : World) (hB : ∀ W, Below w.heap.size w W → BkI W Bs g m cap a rs) :
    SeqStopsK F n Try.prog 161 #[.pointer (some ⟨Bs, 0, none⟩)] (fun x : Fin m => #[Value.int .i64 (x.1 : Int), rs[x.1]?.getD .nilFunc]) Kp (fun ys => ys.map Fin.val = (List.range m).map (fun i => m - 1 - i)) (fun _ => True) m w := fun l J Jx W hW _ _ hY h0 =>
  back1 F n h7 hro hn l Bs g m cap a rs hm Kp hKp J Jx hY W (hB W hW) h0
end Go.Proofs.Ytdkjdlimcnddkaa

namespace Go.Proofs.Ytdkjdlimcnddkaa
open Go.RowKit Flt
/-- What holds between two rules. -/
def GI (W0 W1 W : World) (lo P K A S n Bs : Nat) (u1 u3 rv : Value) (act : List Bool) (base : Nat) (R1 : Option Nat) (st : List Vl × List Int) : Prop :=
  ∃ R vv, RSt W0 W1 W lo W0.heap.size P K A S n u1 u3 rv act base R1 R vv st ∧ Same Bs (Bs + 1) W1 W ∧ R ≠ some Bs
theorem GI.own {W0 W1 W W' : World} {lo P K A S n Bs : Nat} {u1 u3 rv : Value} {act : List Bool} {base : Nat} {R1 : Option Nat} {st : List Vl × List Int} (f : GI W0 W1 W lo P K A S n Bs u1 u3 rv act base R1 st) (h01 : W0.heap.size ≤ W1.heap.size) {row : Option Nat} (g : W.grownBy W' row) (hr : ∀ r, row = some r → W1.heap.size ≤ r ∧ ∃ o : Obj, W.heap[r]? = some o ∧ o.isCells = false) : GI W0 W1 W' lo P K A S n Bs u1 u3 rv act base R1 st := by
  obtain ⟨R, vv, h1, h2, h3⟩ := f
  refine ⟨R, vv, h1.own h01 g hr, h2.chg (chg_grow g) (fun b b1 b2 c => ?_), h3⟩
  have := (hr b c).1
  have := h2.le
  omega
/-- What the iterator wants kept. -/
def Kpp (lo hi Bs : Nat) (A B : World) : Prop := Same lo hi A B ∧ Same Bs (Bs + 1) A B
theorem Same.put {lo hi N : Nat} (W : World) (l : Nat) (o o' : Obj) (hN : hi ≤ N) (hl : N ≤ l) (h : W.heap[l]? = some o) : Same lo hi W (W.putObj l o') :=
  ⟨by have := (Array.getElem?_eq_some_iff.1 h).1; omega, (grownBy_putObj' W l o').size, fun b h1 h2 => (grownBy_putObj' W l o').block b (by have := (Array.getElem?_eq_some_iff.1 h).1; omega) (fun e => by cases e; omega)⟩
theorem gi_rule {W0 W1 W : World} {lo P K A S n Bs : Nat} {u1 u3 rv : Value} {act : List Bool} {base : Nat} {R1 : Option Nat} {st : List Vl × List Int} {vs0 : List Vl} {i xw xi xo xp go : Nat} {a : Option Addr} {mp cp : Nat} {fv : Nat → Value}
    (ri : RuleIn W0 lo W0.heap.size P K vs0 i xw xi xo xp go a mp cp fv) (I : GI W0 W1 W lo P K A S n Bs u1 u3 rv act base R1 st) (hS : S < lo) (hlB : lo ≤ Bs) (hi' : i < n) (hv : vs0.length = n) (hp : Pre vs0 st.1) {L : Nat} {C : Int} (hz : SzU L C st.1) (hL : L ≤ 700000) (hC : C ≤ 700000000)
    (hl : ∀ j, j < n → 1 ≤ (vs0.getD j Vl.zero).len ∧ (vs0.getD j Vl.zero).len ≤ 1000) (hops : ∀ k, k < cnt (vs0.getD i Vl.zero).op → 0 ≤ fld (vs0.getD i Vl.zero) k ∧ fld (vs0.getD i Vl.zero) k < i) :
    Calls Try.prog 158 #[.pointer (some ⟨xw, 0, none⟩), .pointer (some ⟨xi, 0, none⟩), .pointer (some ⟨xo, 0, none⟩), .pointer (some ⟨xp, 0, none⟩)] W fun e W' => e = .returned (.tuple #[]) ∧ KeepsOthers W W' ∧ Kpp lo W0.heap.size Bs W W' ∧ GI W0 W1 W' lo P K A S n Bs u1 u3 rv act base R1 (giM vs0 act i st) := by
  obtain ⟨R, vv, f, sB, hR⟩ := I
  have hLn : LnB vs0 := lnB_of (by rw [hv]; exact hl)
  have f2 : RSt W0 W W lo W0.heap.size P K A S n u1 u3 rv act base R R vv (st.1, st.2) := ⟨f.same, f.inr, f.bs, f.bk, f.dj, StQ.refl _ _ _⟩
  have hc3 := cnt_le (vs0.getD i Vl.zero).op
  refine Calls.mono (ruleS W0 W lo W0.heap.size P K A S n u1 u3 rv vv act st.1 st.2 base R vs0 i xw xi xo xp go a mp cp fv ri f2 hS hi' hv hp (fun k hk => (gkTo_sz hLn (act := act) (i := i) (st := (st.1, st.2)) hz k).bz (by omega) (by omega)) hl ⟨(hLn _).1, (hLn _).2⟩ hops) ?_
  rintro e W' ⟨rfl, R', vv', h1, h2, h3⟩
  have hP := f.inr.p
  have hq : ∀ b, lo ≤ b → b < W0.heap.size → ¬ ((b = P ∨ b = S) ∨ R = some b) := fun b b1 b2 c => by
    rcases c with (c | c) | c
    · omega
    · omega
    · have := f.inr.r b c; omega
  have hqB : ∀ b, Bs ≤ b → b < Bs + 1 → ¬ ((b = P ∨ b = S) ∨ R = some b) := fun b b1 b2 c => by
    obtain rfl : b = Bs := by omega
    rcases c with (c | c) | c
    · omega
    · omega
    · exact hR c
  have hle := f.same.le
  have hsz := f.same.size
  have hB1 := sB.le
  have hB2 := sB.size
  refine ⟨rfl, h3.others f.bs f.bk, ⟨(Same.refl (by omega)).chg h3.chg hq, (Same.refl (by omega)).chg h3.chg hqB⟩, R', vv', f.give hS h1 h2 h3, sB.chg h3.chg hqB, fun e => ?_⟩
  rcases h3.row with c | ⟨r, c, hr⟩
  · rw [c] at e; exact hR e
  · rw [c] at e; cases e; omega
theorem bki_same {A B : World} {lo hi Bs g m cap : Nat} {a : Option Addr} {rs : List Value} (k : Kpp lo hi Bs A B) (hg : 0 < m → lo ≤ g ∧ g < hi) (h : BkI A Bs g m cap a rs) : BkI B Bs g m cap a rs :=
  ⟨by rw [k.2.cell (Nat.le_refl _) (Nat.lt_succ_self _)]; exact h.box, fun j hj => by
    obtain ⟨h1, N, bs, h2, h3⟩ := h.at_ j hj
    have := hg (by omega)
    exact ⟨h1, N, bs, h2, by rw [k.1.cell this.1 this.2]; exact h3⟩⟩
/-- What the gradient leaves. -/
def GrO (w : World) (P S : Nat) (u1 u3 : Value) (base : Nat) (R : Option Nat) (M : List Vl × Int) (e : Ending) (w' : World) : Prop :=
  e = .returned (.int .i64 M.2) ∧ ∃ R' vv', BS w' P u1 u3 M.1 (cellsV M.1) base R' vv' ∧ StQ (fun b => b = P ∨ b = S) R w R' w'
end Go.Proofs.Ytdkjdlimcnddkaa

namespace Go.Proofs.Ytdkjdlimcnddkaa
open Go.RowKit Flt
attribute [local go_sem] alloc_drewN setCell_drewN run_store_float run_store_func
theorem bndZ {us : List Vl} {L : Nat} {C : Int} (h : SzU L C us) (hL : L ≤ 700000) (hC : C ≤ 700000000) : us.length ≤ 800000 ∧ -1000000000 ≤ cellsV us ∧ cellsV us ≤ 800000000 := by
  obtain ⟨a1, a2, a3⟩ := h
  omega
set_option maxRecDepth 100000 in
set_option maxHeartbeats 4000000 in
/-- s hangs on nothing of x: zeros. -/
theorem gradient_idle (w : World) (lo P K A S n s x base : Nat) (u1 u3 vv rv : Value) (vs0 : List Vl) (R : Option Nat) (rs : List Value) (hN : NB w w lo P K A S n u1 u3 vv rv vs0 x (s - x) base R rs) (hC : NbC lo P K A S R) (hn : vs0.length = n) (hl : n ≤ 2000) (hs : s < n) (hx : x < n)
    (hlen : ∀ j, j < n → 1 ≤ (vs0.getD j Vl.zero).len ∧ (vs0.getD j Vl.zero).len ≤ 1000) (hz : SzU 2000 50000 vs0) (ha : (actM vs0 x (s - x)).getD s false = false) :
    Calls Try.prog 95 #[.pointer (some ⟨K, 0, none⟩), .int .i64 (s : Int), .int .i64 (x : Int)] w fun e w' => GrO w P S u1 u3 base R (grM vs0 s x) e w' := by
  have HG : Hid (grM vs0 s x = (vs0 ++ [vput 1 (vs0.getD x Vl.zero).len 0 0 0], ((vs0.length : Nat) : Int))) := by
    show _ = _
    unfold grM
    rw [if_neg (by rw [ha]; simp)]
  have y0 := hN.bk.c0
  have y1 := hN.bk.c1
  have y2 := hN.bk.c2
  have yA := BR.cell hN.bk.ac s (by rw [hN.bk.al]; exact hs)
  rw [ha] at yA
  have yS := IR.cell hN.bk.sp x (by simp; exact hx)
  rw [show (List.replicate n (-1 : Int)).getD x 0 = -1 by simp [List.getD_eq_getElem?_getD, hx]] at yS
  have hb := bndZ hz (by omega) (by omega)
  have hxl := hlen x hx
  have HX : Hid _ := putZeros_bd w.drew P u1 u3 vs0 (cellsV vs0) base R vv (vs0.getD x Vl.zero).len (BS.keep hN.bs (kept_drew w)) (by omega) (by omega) (by omega) (by omega) (by omega)
  have HL : Hid _ := bldLen w.drew P u1 u3 vs0 (cellsV vs0) base R vv (BS.keep hN.bs (kept_drew w)) x (by omega) (by omega)
  generalize (vs0.getD x Vl.zero).len = L at HX HL HG
  have hs1 : (0 : Int) ≤ (s : Int) := by omega
  have hs2 : (s : Int) < (n : Int) := by omega
  have hx1 : (0 : Int) ≤ (x : Int) := by omega
  have hx2 : (x : Int) < (n : Int) := by omega
  have HB : Hid _ := hN.bk
  have HD : Hid _ := hC.dj
  clear hN hlen hz ha hb hxl hn hC
  go_enter Try.func95, Try.ntmps95
  go_wp2_with fail
  go_region_held3 (fun w' => w'.cell? ⟨K, 0, none⟩ = some (.pointer (some ⟨P, 0, none⟩))) (go_keep) (first
    | (go_at_call 134; refine Calls.mono HL.out ?_; rintro e w1 ⟨rfl, rfl⟩)
    | (go_at_call 133; refine Calls.mono HX.out ?_; rintro e w2 ⟨rfl, R2, vv2, h2, s2⟩; have H2 : Hid _ := h2; have S2 : Hid _ := s2; have z0 := (HB.out.step HD.out (StQ.trans ⟨(kept_drew w).chg, .inl rfl⟩ s2)).c0; clear h2 s2))
  all_goals
    go_wp2_with fail
    go_ret
    rw [HG.out]
    refine ⟨rfl, R2, vv2, ?_, ?_⟩
    · show BS _ _ _ _ (vs0 ++ _) (cellsV (vs0 ++ _)) _ _ _
      rw [cellsV_app]
      exact H2.out
    · exact StQ.trans ⟨(kept_drew w).chg, .inl rfl⟩ (S2.out.mono fun b c => .inl c)
end Go.Proofs.Ytdkjdlimcnddkaa
