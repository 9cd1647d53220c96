import Derived.Test.YtdkjdlimcnddkaaA28
import Derived.Test.YtdkjdlimcnddkaaA26
import Derived.Test.YtdkjdlimcnddkaaA15
namespace Go.Proofs.Ytdkjdlimcnddkaa
open Go.RowKit Flt
attribute [local go_sem] alloc_drewN setCell_drewN run_store_float
/-- What putGradient leaves. -/
def PGo (w : World) (P : Nat) (u1 u3 : Value) (base : Nat) (R : Option Nat) (M : List Vl × Int) (e : Ending) (w' : World) : Prop :=
  e = .returned (.int .i64 M.2) ∧ ∃ R' vv', BS w' P u1 u3 M.1 (cellsV M.1) base R' vv' ∧ Stp P R w R' w'
theorem gro_pg {w w1 w' : World} {P S base : Nat} {u1 u3 : Value} {R : Option Nat} {M : List Vl × Int} {e : Ending} (k : Kept 0 0 w w1) (hS : w.heap.size ≤ S) (h : GrO w1 P S u1 u3 base R M e w') : PGo w P u1 u3 base R M e w' := by
  obtain ⟨rfl, R', vv', hb, hs⟩ := h
  have kc := k.chg (S := fun _ => False)
  refine ⟨rfl, R', vv', hb, ⟨hs.chg.os.trans kc.os, hs.chg.tape.trans kc.tape, hs.chg.output.trans kc.output, Nat.le_trans k.size hs.chg.size, fun b hb hn => ?_⟩, ?_⟩
  · rw [hs.chg.block b (Nat.lt_of_lt_of_le hb k.size) ?_, kc.block b hb (fun h => h)]
    rintro ((c | c) | c)
    · exact hn (.inl c)
    · omega
    · exact hn (.inr c)
  · rcases hs.row with c | ⟨r, c, hr⟩
    · exact .inl c
    · exact .inr ⟨r, c, Nat.le_trans k.size hr⟩
theorem ok_la {ins : List Int} {vs : List Vl} (hok : (List.range vs.length).all (okV ins vs) = true) : ∀ i, i < vs.length → ((vs.getD i Vl.zero).op = 9 ∨ (vs.getD i Vl.zero).op = 11) → ∃ j : Nat, (vs.getD i Vl.zero).a = (j : Int) ∧ j < vs.length ∧ (vs.getD j Vl.zero).len = laM vs i ∧ 1 ≤ laM vs i ∧ laM vs i ≤ 1000 := fun i hi ho => by
  have h := ok_opsJ (List.all_eq_true.1 hok i (List.mem_range.2 hi)) 0 (by rcases ho with c | c <;> (rw [c]; decide))
  have e : fld (vs.getD i Vl.zero) 0 = (vs.getD i Vl.zero).a := rfl
  rw [e] at h
  have hj : (vs.getD i Vl.zero).a.toNat < vs.length := by omega
  have hl := okV_len (List.all_eq_true.1 hok _ (List.mem_range.2 hj))
  exact ⟨(vs.getD i Vl.zero).a.toNat, by omega, hj, rfl, hl.1, hl.2⟩
set_option maxRecDepth 100000 in
set_option maxHeartbeats 4000000 in
theorem putGrad (w : World) (P : Nat) (u1 u3 vv : Value) (ins : List Int) (vs0 : List Vl) (base : Nat) (R : Option Nat) (n s x : Nat) (h : BS w P u1 u3 vs0 (cellsV vs0) base R vv) (hn : vs0.length = n) (hl : n ≤ 2000) (hs : s < n) (hx : x < n) (hok : (List.range n).all (okV ins vs0) = true) (hc5 : cellsV vs0 ≤ 50000) :
    Calls Try.prog 40 #[.pointer (some ⟨P, 0, none⟩), .int .i64 (s : Int), .int .i64 (x : Int)] w fun e w' => PGo w P u1 u3 base R (grM vs0 s x) e w' := by
  have hlen : ∀ j, j < n → 1 ≤ (vs0.getD j Vl.zero).len ∧ (vs0.getD j Vl.zero).len ≤ 1000 := fun j hj => okV_len (List.all_eq_true.1 hok j (List.mem_range.2 hj))
  have hops : ∀ j, j < n → ∀ k, k < cnt (vs0.getD j Vl.zero).op → 0 ≤ fld (vs0.getD j Vl.zero) k ∧ fld (vs0.getD j Vl.zero) k < j := fun j hj => ok_opsJ (List.all_eq_true.1 hok j (List.mem_range.2 hj))
  have hc0 : 0 ≤ cellsV vs0 := cells_pos vs0 (fun j hj => by have := hlen j (by omega); omega)
  have hz : SzU 2000 50000 vs0 := ⟨by omega, hc0, hc5⟩
  have HX : Hid _ := newBackward w P u1 u3 vv vs0 base R n s x h hn hl hs hx hlen (fun j hj => okV_opR (List.all_eq_true.1 hok j (List.mem_range.2 hj))) hops (by subst hn; exact ok_la hok)
  have HG : Hid (∀ w1 K, (∃ lo A S rv rs, NB w1 w1 lo P K A S n u1 u3 vv rv vs0 x (s - x) base R rs ∧ NbC lo P K A S R ∧ (w.heap.size ≤ K ∧ w.heap.size ≤ A ∧ w.heap.size ≤ S ∧ w.heap.size ≤ lo) ∧ Kept 0 0 w w1) → Calls Try.prog 95 #[.pointer (some ⟨K, 0, none⟩), .int .i64 (s : Int), .int .i64 (x : Int)] w1 fun e w' => PGo w P u1 u3 base R (grM vs0 s x) e w') := by
    rintro w1 K ⟨lo, A, S, rv, rs, hN, hC, ho, hk⟩
    cases ha : (actM vs0 x (s - x)).getD s false
    · exact (gradient_idle w1 lo P K A S n s x base u1 u3 vv rv vs0 R rs hN hC hn hl hs hx hlen hz ha).mono fun e w' hh => gro_pg hk ho.2.2.1 hh
    · exact (gradient_run w1 lo P K A S n s x (s - x) base u1 u3 vv rv vs0 R rs rfl hN hC hn hl hs hx hlen hz hops ha).mono fun e w' hh => gro_pg hk ho.2.2.1 hh
  clear h hlen hops hc0 hz hok hc5 hn
  go_enter Try.func40, Try.ntmps40
  go_wp2_with fail
  refine Calls.mono HX.out ?_
  rintro e w1 ⟨lo, K, A, S, rv, rs, rfl, hN, hC, ho, hk⟩
  have HP : Hid _ := HG.out w1 K ⟨lo, A, S, rv, rs, hN, hC, ho, hk⟩
  clear hN hC ho hk HX HG
  go_wp2_with fail
  refine Calls.mono HP.out ?_
  rintro e w2 ⟨rfl, R2, vv2, hb, hs2⟩
  have H2 : Hid _ := hb
  have S2 : Hid _ := hs2
  clear hb hs2 HP
  go_wp2_with fail
  go_ret
  exact ⟨rfl, R2, vv2, H2.out, S2.out⟩
/-- What Grad holds: the builder at P, its lists. -/
structure GJ (W wB : World) (P G1 d1 n1 G3 d3 n3 base : Nat) (ins outs : List Int) (vs : List Vl) (R : Option Nat) (vv : Value) : Prop where
  b : BS W P (.slice (some ⟨G1, 0, none⟩) n1 d1) (.slice (some ⟨G3, 0, none⟩) n3 d3) vs (cellsV vs) base R vv
  i : OI W base G1 n1 d1 ins
  o : OI W base G3 n3 d3 outs
  k : Kept 0 0 wB W
  dP : wB.heap.size ≤ P
  dB : wB.heap.size ≤ base
  ne2 : G1 ≠ P
  ne3 : G3 ≠ P
  r2 : R ≠ some G1
  r3 : R ≠ some G3
theorem GJ.step {W W' wB : World} {P G1 d1 n1 G3 d3 n3 base : Nat} {ins outs : List Int} {vs us : List Vl} {R R' : Option Nat} {vv vv' : Value} (h : GJ W wB P G1 d1 n1 G3 d3 n3 base ins outs vs R vv)
    (hb : BS W' P (.slice (some ⟨G1, 0, none⟩) n1 d1) (.slice (some ⟨G3, 0, none⟩) n3 d3) us (cellsV us) base R' vv') (s : Stp P R W R' W') : GJ W' wB P G1 d1 n1 G3 d3 n3 base ins outs us R' vv' := by
  have l1 : G1 < W.heap.size := (own_blkV h.i (k := G1) rfl).2
  have l3 : G3 < W.heap.size := (own_blkV h.o (k := G3) rfl).2
  have far : ∀ B, B < W.heap.size → R ≠ some B → R' ≠ some B := fun B hB hR e => by
    rcases s.row with q | ⟨r, q, hr⟩
    · exact hR (by rw [← q]; exact e)
    · rw [q] at e
      cases e
      omega
  exact {
    b := hb
    i := own_stp h.i s (fun e => h.ne2 (by simpa [Value.ownBlock] using e)) (fun g hg => by
      have e : G1 = g := by simpa [Value.ownBlock] using hg
      subst e
      exact h.r2)
    o := own_stp h.o s (fun e => h.ne3 (by simpa [Value.ownBlock] using e)) (fun g hg => by
      have e : G3 = g := by simpa [Value.ownBlock] using hg
      subst e
      exact h.r3)
    k := Chg.kept h.k s.chg (by
      rintro i (c | c)
      · rw [c]; exact h.dP
      · have := (own_blkV h.b.own (h.b.row.trans c)).1
        have := h.dB
        omega)
    dP := h.dP
    dB := h.dB
    ne2 := h.ne2
    ne3 := h.ne3
    r2 := far G1 l1 h.r2
    r3 := far G3 l3 h.r3 }
theorem gout {w wB W wA w' : World} {P G1 d1 n1 G3 d3 n3 base gv cap p : Nat} {ins outs : List Int} {vs : List Vl} {R : Option Nat} (hJ : GJ W wB P G1 d1 n1 G3 d3 n3 base ins outs vs R (.slice (some ⟨gv, 0, none⟩) vs.length cap)) (k : Kept 0 0 W wA) (k2 : Kept p (p + 1) wA w') (hp : p < base) (hb : w.heap.size ≤ base) (h13 : G1 ≠ G3) (r : Int) :
    JOut w w' n1 n3 ins outs (vs, r) (.returned (.tuple #[.agg #[.slice (some ⟨G1, 0, none⟩) n1 d1, .slice (some ⟨gv, 0, none⟩) vs.length cap, .slice (some ⟨G3, 0, none⟩) n3 d3], .int .i64 r, .int .i64 0])) := by
  have hR : R = some gv := hJ.b.row.symm
  have key : ∀ {e size n : Nat} {v : Value} {xs : List Value}, W.ownsRow base e size v n xs → w'.ownsRow w.heap.size e size v n xs := fun h =>
    own_mono (own_keepR (own_keepJ h k) k2 (fun g hg => by have := (own_blkV h hg).1; omega)) hb
  exact ⟨G1, d1, G3, d3, gv, cap, rfl, key hJ.i, key hJ.o, key hJ.b.own, h13, fun e => hJ.r2 (by rw [hR, e]), fun e => hJ.r3 (by rw [hR, e])⟩
end Go.Proofs.Ytdkjdlimcnddkaa
