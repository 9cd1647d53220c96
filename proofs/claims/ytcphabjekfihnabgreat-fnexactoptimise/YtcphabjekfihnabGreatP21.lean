import Derived.Test.YtcphabjekfihnabGreatP12
import Derived.Deep.AppendLies
import Derived.Deep.RegionLaw
namespace Go.Proofs.YtcphabjekfihnabGreat
open Go.RowKit Flt
attribute [local go_sem] alloc_drewN setCell_drewN run_store_float

/-- Of the blocks that were there, only those in S may have turned. -/
structure Chg (S : Nat → Prop) (w w' : World) : Prop where
  os : w'.os = w.os
  tape : w'.tape = w.tape
  output : w'.output = w.output
  size : w.heap.size ≤ w'.heap.size
  block : ∀ k, k < w.heap.size → ¬ S k → w'.heap[k]? = w.heap[k]?
theorem Chg.cell {S : Nat → Prop} {w w' : World} (h : Chg S w w') {p : Addr} (hp : p.block < w.heap.size) (hn : ¬ S p.block) : w'.cell? p = w.cell? p := World.cell?_of_block (w := w) (h.block p.block hp hn)
theorem Chg.frozen {S : Nat → Prop} {w w' : World} (h : Chg S w w') {p : Addr} (hp : p.block < w.heap.size) (hn : ¬ S p.block) : w'.frozen? p = w.frozen? p := World.frozen?_of_block (w := w) (h.block p.block hp hn)
theorem Kept.chg {S : Nat → Prop} {w w' : World} (h : Kept 0 0 w w') : Chg S w w' := ⟨h.os, h.tape, h.output, h.size, fun k hk _ => h.block k hk (by omega)⟩
theorem Chg.kept {S : Nat → Prop} {w0 w w' : World} (k : Kept 0 0 w0 w) (h : Chg S w w') (hS : ∀ i, S i → w0.heap.size ≤ i) : Kept 0 0 w0 w' :=
  ⟨h.os.trans k.os, h.tape.trans k.tape, h.output.trans k.output, Nat.le_trans k.size h.size, fun i hi _ => (h.block i (Nat.lt_of_lt_of_le hi k.size) (fun c => by have := hS i c; omega)).trans (k.block i hi (by omega))⟩

/-- The cells of a list of values. -/
def flat : List Vl → List Value
  | [] => []
  | v :: r => v.cells ++ flat r
theorem flat_append (a b : List Vl) : flat (a ++ b) = flat a ++ flat b := by
  induction a with
  | nil => rfl
  | cons x r ih => simp [flat, ih]
theorem flat_one (v : Vl) : flat [v] = v.cells := by simp [flat]
theorem flat_len (a : List Vl) : (flat a).length = a.length * 6 := by
  induction a with
  | nil => rfl
  | cons x r ih => simp only [flat, List.length_append, ih, List.length_cons]; simp only [Vl.cells, List.length_cons, List.length_nil]; omega
theorem flat_at : ∀ (a : List Vl) (k j : Nat), k < a.length → j < 6 → (flat a)[k * 6 + j]? = (a.getD k Vl.zero).cells[j]?
  | [], k, j, hk, _ => by simp at hk
  | x :: r, 0, j, _, hj => by
    have : (x :: r).getD 0 Vl.zero = x := rfl
    rw [this, flat, List.getElem?_append_left (by simp only [Vl.cells, List.length_cons, List.length_nil]; omega), Nat.zero_mul, Nat.zero_add]
  | x :: r, k + 1, j, hk, hj => by
    have : (x :: r).getD (k + 1) Vl.zero = r.getD k Vl.zero := rfl
    rw [this, flat, List.getElem?_append_right (by simp only [Vl.cells, List.length_cons, List.length_nil]; omega)]
    have e : (k + 1) * 6 + j - x.cells.length = k * 6 + j := by simp only [Vl.cells, List.length_cons, List.length_nil]; omega
    rw [e]
    exact flat_at r k j (by simpa using hk) hj

/-- A row of values that the call owns, read. -/
theorem row_at {W : World} {base n : Nat} {v : Value} {vs : List Vl} (h : W.ownsRow base 59 6 v n (flat vs)) (hn : 0 < n) (hl : vs.length = n) :
    ∃ g cap, v = .slice (some ⟨g, 0, none⟩) n cap ∧ base ≤ g ∧ g < W.heap.size ∧ n ≤ cap ∧ VA W g n vs := by
  rcases h.2 with ⟨_, c⟩ | ⟨g, cap, cur, rfl, b1, b2, b3, _, b5, b6⟩
  · omega
  · have hg : g < W.heap.size := by
      rcases Nat.lt_or_ge g W.heap.size with c | c
      · exact c
      · rw [Array.getElem?_eq_none c] at b2; cases b2
    have key : ∀ k j, k < n → j < 6 → W.cell? ⟨g, k * 6 + j, none⟩ = (vs.getD k Vl.zero).cells[j]? := fun k j hk hj => by
      rw [cell_of_row W g _ cur _ _ b2, ← Array.getElem?_toList]
      have : (cur.toList.take (n * 6))[k * 6 + j]? = (flat vs)[k * 6 + j]? := by rw [b6]
      rw [List.getElem?_take_of_lt (by omega)] at this
      rw [this]
      exact flat_at vs k j (by omega) hj
    refine ⟨g, cap, rfl, b1, hg, b3, hl, hg, fun k hk => ?_, fun o => frozen_of_row W g o _ _ b2⟩
    exact ⟨key k 0 hk (by omega), key k 1 hk (by omega), key k 2 hk (by omega), key k 3 hk (by omega), key k 4 hk (by omega), key k 5 hk (by omega)⟩

/-- The builder at P: its graph's lists and its number of cells; R is the block of its values. -/
structure BS (w : World) (P : Nat) (u1 u3 : Value) (vs : List Vl) (c : Int) (base : Nat) (R : Option Nat) (vv : Value) : Prop where
  lt : P < w.heap.size
  free : ∀ o, w.frozen? ⟨P, o, none⟩ = false
  c0 : w.cell? ⟨P, 0, none⟩ = some u1
  c1 : w.cell? ⟨P, 1, none⟩ = some vv
  c2 : w.cell? ⟨P, 2, none⟩ = some u3
  c3 : w.cell? ⟨P, 3, none⟩ = some (.int .i64 c)
  own : w.ownsRow base 59 6 vv vs.length (flat vs)
  row : vv.ownBlock = R
  ne : R ≠ some P
  sz : base ≤ w.heap.size
/-- What a step leaves: Q's blocks and the row's block R may have turned, the row may have moved to a new block. -/
structure StQ (Q : Nat → Prop) (R : Option Nat) (w : World) (R' : Option Nat) (w' : World) : Prop where
  chg : Chg (fun i => Q i ∨ R = some i) w w'
  row : R' = R ∨ ∃ r, R' = some r ∧ w.heap.size ≤ r
theorem StQ.refl (Q : Nat → Prop) (R : Option Nat) (w : World) : StQ Q R w R w := ⟨⟨rfl, rfl, rfl, Nat.le_refl _, fun _ _ _ => rfl⟩, .inl rfl⟩
theorem StQ.trans {Q : Nat → Prop} {R R' R'' : Option Nat} {w w' w'' : World} (a : StQ Q R w R' w') (b : StQ Q R' w' R'' w'') : StQ Q R w R'' w'' where
  chg := ⟨b.chg.os.trans a.chg.os, b.chg.tape.trans a.chg.tape, b.chg.output.trans a.chg.output, Nat.le_trans a.chg.size b.chg.size, fun k hk hn => by
    rw [b.chg.block k (Nat.lt_of_lt_of_le hk a.chg.size) ?_]
    · exact a.chg.block k hk hn
    · rintro (c | c)
      · exact hn (.inl c)
      · rcases a.row with e | ⟨r, e, hr⟩
        · exact hn (.inr (by rw [← e]; exact c))
        · rw [e] at c
          cases c
          omega⟩
  row := by
    rcases b.row with e | ⟨r, e, hr⟩
    · rw [e]; exact a.row
    · exact .inr ⟨r, e, Nat.le_trans a.chg.size hr⟩
/-- A step of the builder at P. -/
abbrev Stp (P : Nat) (R : Option Nat) (w : World) (R' : Option Nat) (w' : World) : Prop := StQ (fun i => i = P) R w R' w'

theorem own_blkV {base e size n : Nat} {v : Value} {xs : List Value} {W : World} (h : W.ownsRow base e size v n xs) {k : Nat} (hk : v.ownBlock = some k) : base ≤ k ∧ k < W.heap.size := by
  rcases h.2 with ⟨rfl, _⟩ | ⟨g, cap, cur, rfl, b1, b2, _⟩
  · simp [Value.ownBlock] at hk
  · have e : g = k := by simpa [Value.ownBlock] using hk
    subst e
    refine ⟨b1, ?_⟩
    rcases Nat.lt_or_ge g W.heap.size with c | c
    · exact c
    · rw [Array.getElem?_eq_none c] at b2; cases b2

theorem vbox_atJ (w : World) (v : Vl) : At (w.alloc (vbox v.op v.len v.a v.b v.c v.k)) w.heap.size 0 v := by
  refine ⟨?_, ?_, ?_, ?_, ?_, ?_⟩
  all_goals first | (go_simp; done) | (simp; done)
theorem own_drewA {base e size n : Nat} {v : Value} {xs : List Value} {W : World} (h : W.ownsRow base e size v n xs) (m : Nat) (o : Obj) : ((W.alloc o).drewN m).ownsRow base e size v n xs := h.alloc o
theorem heap_new (w : World) (o : Obj) : (w.alloc o).heap[w.heap.size]? = some o := by
  unfold World.alloc
  simp
theorem news6 (w : World) (v : Vl) (m : Nat) : ∀ j u, v.cells[j]? = some u → ((w.alloc (.cells #[.int .i64 v.op, .int .i64 v.len, .int .i64 v.a, .int .i64 v.b, .int .i64 v.c, .float .f64 v.k] 59)).drewN m).cell? ((⟨w.heap.size, 0, none⟩ : Addr).add j) = some u := fun j u hu =>
  World.news_of_block (w := w.alloc (.cells #[.int .i64 v.op, .int .i64 v.len, .int .i64 v.a, .int .i64 v.b, .int .i64 v.c, .float .f64 v.k] 59)) (t := 59) (fr := (0, 0)) (cs := #[.int .i64 v.op, .int .i64 v.len, .int .i64 v.a, .int .i64 v.b, .int .i64 v.c, .float .f64 v.k]) (heap_new _ _) j u hu
theorem far1 {w1 w9 : World} {o : Obj} {m : Nat} {row : Option Nat} (hg : ((w1.alloc o).drewN m).grownBy w9 row) {b off : Nat} {u : Value} (hb : b < w1.heap.size) (hr : row ≠ some b) (hc : w1.cell? ⟨b, off, none⟩ = some u) : w9.cell? ⟨b, off, none⟩ = some u := by
  have hb' : b < ((w1.alloc o).drewN m).heap.size := by show b < (w1.alloc o).heap.size; simp; omega
  rw [hg.cell_far ⟨b, off, none⟩ hb' (fun c => hr c.symm)]
  exact kcell (kept_alloc 0 0 w1 o) hb hc
theorem far2 {w1 w9 : World} {o : Obj} {m : Nat} {row : Option Nat} (hg : ((w1.alloc o).drewN m).grownBy w9 row) {b off : Nat} (hb : b < w1.heap.size) (hr : row ≠ some b) (hc : w1.frozen? ⟨b, off, none⟩ = false) : w9.frozen? ⟨b, off, none⟩ = false := by
  have hb' : b < ((w1.alloc o).drewN m).heap.size := by show b < (w1.alloc o).heap.size; simp; omega
  rw [hg.frozen_far ⟨b, off, none⟩ hb' (fun c => hr c.symm)]
  show (w1.alloc o).frozen? _ = _
  rw [(kept_alloc 0 0 w1 o).frozen (p := ⟨b, off, none⟩) hb (by omega)]
  exact hc
theorem own_setCell {base e size n P o : Nat} {v u : Value} {xs : List Value} {W : World} (h : W.ownsRow base e size v n xs) (hP : v.ownBlock ≠ some P) : (W.setCell ⟨P, o, none⟩ u).ownsRow base e size v n xs := by
  refine ⟨h.1, h.2.imp id ?_⟩
  rintro ⟨g, cap, cur, e1, b1, b2, b3⟩
  refine ⟨g, cap, cur, e1, b1, ?_, b3⟩
  rw [Below.heap_setCell W ⟨P, o, none⟩ u g (fun c => hP (by rw [e1, c]; rfl))]
  exact b2
/-- Behind the append and the two stores. -/
theorem BS.next {w w9 : World} {P : Nat} {u1 u3 : Value} {vs : List Vl} {c : Int} {base : Nat} {R : Option Nat} {vv : Value} {v : Vl} {o o2 : Obj} {m g9 cap9 : Nat} (h : BS w P u1 u3 vs c base R vv)
    (hown9 : w9.ownsRow base 59 6 (.slice (some ⟨g9, 0, none⟩) (vs.length + 1) cap9) (vs.length + 1) (flat vs ++ v.cells)) (hg9 : (((w.alloc o).alloc o2).drewN m).grownBy w9 vv.ownBlock) (hat : vv.ownBlock = some g9 ∨ g9 = (w.alloc o).heap.size + 1) (c' : Int) (hc' : c' = c + v.len) :
    ∃ R' vv', BS ((w9.setCell ⟨P, 1, none⟩ (.slice (some ⟨g9, 0, none⟩) (vs.length + 1) cap9)).setCell ⟨P, 3, none⟩ (.int .i64 c')) P u1 u3 (vs ++ [v]) (c + v.len) base R' vv' ∧ Stp P R w R' ((w9.setCell ⟨P, 1, none⟩ (.slice (some ⟨g9, 0, none⟩) (vs.length + 1) cap9)).setCell ⟨P, 3, none⟩ (.int .i64 c')) := by
  subst hc'
  have hlt := h.lt
  have hs : (w.alloc o).heap.size = w.heap.size + 1 := by simp
  have k1 := kept_alloc 0 0 w o
  have hP1 : P < (w.alloc o).heap.size := by omega
  have hRP : vv.ownBlock ≠ some P := by rw [h.row]; exact h.ne
  have gP : g9 ≠ P := by
    rcases hat with e | e
    · intro c; rw [c] at e; exact hRP e
    · omega
  have q0 := far1 hg9 hP1 hRP (kcell k1 hlt h.c0)
  have q1 := far1 hg9 hP1 hRP (kcell k1 hlt h.c1)
  have q2 := far1 hg9 hP1 hRP (kcell k1 hlt h.c2)
  have q3 := far1 hg9 hP1 hRP (kcell k1 hlt h.c3)
  have hsz9 : w.heap.size + 2 ≤ w9.heap.size := by
    have := hg9.size
    have e : (((w.alloc o).alloc o2).drewN m).heap.size = w.heap.size + 2 := by show ((w.alloc o).alloc o2).heap.size = _; simp
    omega
  refine ⟨some g9, .slice (some ⟨g9, 0, none⟩) (vs.length + 1) cap9, ?_, ?_, ?_⟩
  · refine ⟨by simp; omega, fun b => ?_, ?_, ?_, ?_, ?_, ?_, rfl, fun e => gP (by cases e; rfl), by simp; have := h.sz; omega⟩
    · have hf := far2 (off := b) hg9 hP1 hRP (by rw [k1.frozen (p := ⟨P, b, none⟩) hlt (by omega)]; exact h.free b)
      simp [hf]
    · rw [cell_ne _ _ _ _ _ _ (.inr (by omega)), cell_ne _ _ _ _ _ _ (.inr (by omega))]; exact q0
    · rw [cell_ne _ _ _ _ _ _ (.inr (by omega))]; exact cell_eq _ _ _ _ _ q1
    · rw [cell_ne _ _ _ _ _ _ (.inr (by omega)), cell_ne _ _ _ _ _ _ (.inr (by omega))]; exact q2
    · exact cell_eq _ _ _ _ _ (by rw [cell_ne _ _ _ _ _ _ (.inr (by omega))]; exact q3)
    · rw [List.length_append, List.length_singleton, flat_append, flat_one]
      have nP : (Value.slice (some ⟨g9, 0, none⟩) (vs.length + 1) cap9).ownBlock ≠ some P := fun e => gP (by simpa [Value.ownBlock] using e)
      exact own_setCell (own_setCell hown9 nP) nP
  · refine ⟨hg9.os, hg9.tape, hg9.output, by simp; omega, fun k hk hn => ?_⟩
    have hkP : k ≠ P := fun e => hn (.inl e)
    have hkR : some k ≠ vv.ownBlock := fun e => hn (.inr (by rw [← h.row]; exact e.symm))
    rw [Below.heap_setCell _ ⟨P, 3, none⟩ _ k hkP, Below.heap_setCell _ ⟨P, 1, none⟩ _ k hkP, hg9.block k (by show k < ((w.alloc o).alloc o2).heap.size; simp; omega) hkR]
    show ((w.alloc o).alloc o2).heap[k]? = _
    rw [Below.heap_alloc _ _ k (by omega), Below.heap_alloc _ _ k hk]
  · rcases hat with e | e
    · exact .inl (by rw [← e]; exact h.row)
    · exact .inr ⟨g9, rfl, by omega⟩
theorem one6 (v : Vl) : ∀ u ∈ v.cells, u.oneCell' = true := fun u hu => by
  simp only [Vl.cells, List.mem_cons, List.not_mem_nil, or_false] at hu
  rcases hu with rfl | rfl | rfl | rfl | rfl | rfl <;> rfl

end Go.Proofs.YtcphabjekfihnabGreat

namespace Go.Proofs.YtcphabjekfihnabGreat
open Go.RowKit Flt

theorem fb_fb0 (x : Nat) : fb (fb x) = fb x := by
  cases h : (f64.read x).isNaN
  · rw [fb_of_num h, fb_of_num h]
  · rw [fb_of_nan h]; decide
theorem fb_zero : fb 0 = 0 := by decide

/-- A value with one NaN for all. -/
def cv (v : Vl) : Vl := ⟨v.op, v.len, v.a, v.b, v.c, fb v.k⟩
/-- Two lists of values, the same but for the bits of NaNs. -/
def Lk (us vs : List Vl) : Prop := us.map cv = vs.map cv
theorem cv_cv (v : Vl) : cv (cv v) = cv v := by simp [cv, fb_fb0]
theorem cv_zero : cv Vl.zero = Vl.zero := by simp [cv, Vl.zero, fb_zero]
theorem getD_cv (vs : List Vl) (k : Nat) : (vs.map cv).getD k Vl.zero = cv (vs.getD k Vl.zero) := by
  rw [List.getD_eq_getElem?_getD, List.getD_eq_getElem?_getD, List.getElem?_map]
  cases vs[k]? with
  | none => exact cv_zero.symm
  | some x => rfl
theorem Lk.len {us vs : List Vl} (h : Lk us vs) : us.length = vs.length := by
  have := congrArg List.length h
  simpa using this
theorem Lk.at_ {us vs : List Vl} (h : Lk us vs) (k : Nat) : cv (us.getD k Vl.zero) = cv (vs.getD k Vl.zero) := by
  rw [← getD_cv, ← getD_cv, h]
theorem Lk.refl (us : List Vl) : Lk us us := rfl
theorem Lk.symm {us vs : List Vl} (h : Lk us vs) : Lk vs us := Eq.symm h
theorem Lk.trans {us vs ws : List Vl} (h : Lk us vs) (h' : Lk vs ws) : Lk us ws := Eq.trans h h'
theorem Lk.app {us vs : List Vl} {u v : Vl} (h : Lk us vs) (h' : cv u = cv v) : Lk (us ++ [u]) (vs ++ [v]) := by
  unfold Lk at *; simp [h, h']
theorem lk_of {us vs : List Vl} (hl : us.length = vs.length) (h : ∀ k, k < us.length → cv (us.getD k Vl.zero) = cv (vs.getD k Vl.zero)) : Lk us vs := by
  unfold Lk
  apply List.ext_getElem (by simp [hl])
  intro k h1 h2
  have := h k (by simpa using h1)
  rw [List.getD_eq_getElem?_getD, List.getD_eq_getElem?_getD, List.getElem?_eq_getElem (by simpa using h1), List.getElem?_eq_getElem (by simpa using h2)] at this
  simpa using this
theorem lk_cv (vs : List Vl) : Lk (vs.map cv) vs := by
  unfold Lk
  rw [List.map_map]
  congr 1
  funext v
  exact cv_cv v

/-! A graph's rules do not ask for K. -/
theorem okV_cv (ins : List Int) (vs : List Vl) (i : Nat) : okV ins (vs.map cv) i = okV ins vs i := by
  unfold okV
  rw [getD_cv]
  have e : ∀ o : Int, ((vs.map cv).getD o.toNat Vl.zero).len = (vs.getD o.toNat Vl.zero).len := fun o => by rw [getD_cv]; rfl
  simp only [e]
  rfl
theorem cellsV_cv (vs : List Vl) : cellsV (vs.map cv) = cellsV vs := by
  induction vs with
  | nil => rfl
  | cons v r ih => simp [cellsV, ih, cv]
theorem okG_cv (ins : List Int) (vs : List Vl) (outs : List Int) : okG ins (vs.map cv) outs = okG ins vs outs := by
  unfold okG
  rw [cellsV_cv, List.length_map]
  have : okV ins (vs.map cv) = okV ins vs := funext (okV_cv ins vs)
  rw [this]
theorem Lk.okG {ins : List Int} {us vs : List Vl} {outs : List Int} (h : Lk us vs) : okG ins us outs = okG ins vs outs := by
  rw [← okG_cv ins us, ← okG_cv ins vs, h]

/-- The operands replaced. -/
def rnm (tq : List Int) (v : Vl) : Vl :=
  ⟨v.op, v.len, if 0 < cnt v.op then tq.getD v.a.toNat 0 else v.a, if 1 < cnt v.op then tq.getD v.b.toNat 0 else v.b, if 2 < cnt v.op then tq.getD v.c.toNat 0 else v.c, v.k⟩
theorem cv_rnm (tq : List Int) (v : Vl) : cv (rnm tq v) = rnm tq (cv v) := rfl
theorem opsOf_rnm (tq : List Int) (v : Vl) : opsOf (rnm tq v) = (opsOf v).map fun o => tq.getD o.toNat 0 := by
  have h := cnt_le v.op
  unfold opsOf rnm
  simp only
  rcases (by omega : cnt v.op = 0 ∨ cnt v.op = 1 ∨ cnt v.op = 2 ∨ cnt v.op = 3) with e | e | e | e <;> simp [e]

/-- A value stays by the rules where its operands go tq values as long. -/
theorem okV_of {ins : List Int} {vs us : List Vl} {i j : Nat} (h : okV ins vs i = true) (r : Int → Int) (hop : (us.getD j Vl.zero).op = (vs.getD i Vl.zero).op) (hlen : (us.getD j Vl.zero).len = (vs.getD i Vl.zero).len)
    (ha : cnt (vs.getD i Vl.zero).op < 1 → (us.getD j Vl.zero).a = (vs.getD i Vl.zero).a) (hb : cnt (vs.getD i Vl.zero).op < 2 → (us.getD j Vl.zero).b = (vs.getD i Vl.zero).b) (hc : cnt (vs.getD i Vl.zero).op < 3 → (us.getD j Vl.zero).c = (vs.getD i Vl.zero).c)
    (hops : opsOf (us.getD j Vl.zero) = (opsOf (vs.getD i Vl.zero)).map r) (hr : ∀ o ∈ opsOf (vs.getD i Vl.zero), 0 ≤ o → o < i → (0 ≤ r o ∧ r o < j) ∧ (us.getD (r o).toNat Vl.zero).len = (vs.getD o.toNat Vl.zero).len) : okV ins us j = true := by
  unfold okV at h ⊢
  generalize us.getD j Vl.zero = u at *
  generalize vs.getD i Vl.zero = v at *
  rw [Bool.and_eq_true, Bool.and_eq_true] at h
  obtain ⟨⟨h1, h2⟩, h3⟩ := h
  have s2 : spareB u = true := by
    rw [← h2]
    unfold spareB
    rw [hop]
    by_cases c1 : cnt v.op < 1
    · rw [ha c1, hb (by omega), hc (by omega)]
    · by_cases c2 : cnt v.op < 2
      · rw [hb c2, hc (by omega)]; simp [c1]
      · by_cases c3 : cnt v.op < 3
        · rw [hc c3]; simp [c1, c2]
        · simp [c1, c2, c3]
  rw [hlen, h1, s2, hop]
  simp only [Bool.true_and]
  by_cases h0 : v.op = 0
  · have c0 : cnt v.op < 1 := by rw [h0]; decide
    rw [if_pos h0] at h3 ⊢
    rw [ha c0]; exact h3
  · rw [if_neg h0] at h3 ⊢
    rw [Bool.and_eq_true] at h3 ⊢
    have key : ∀ o ∈ opsOf v, (0 ≤ r o ∧ r o < j) ∧ (us.getD (r o).toNat Vl.zero).len = (vs.getD o.toNat Vl.zero).len := fun o ho => by
      have := of_decide_eq_true (List.all_eq_true.1 h3.1 o ho)
      exact hr o ho this.1 this.2
    rw [hops]
    refine ⟨?_, ?_⟩
    · rw [List.all_map, List.all_eq_true]
      intro o ho
      exact decide_eq_true (key o ho).1
    · have e : ((opsOf v).map r).map (fun o => (us.getD o.toNat Vl.zero).len) = (opsOf v).map fun o => (vs.getD o.toNat Vl.zero).len := by
        rw [List.map_map]
        apply List.map_congr_left
        intro o ho
        exact (key o ho).2
      rw [e]
      by_cases c3 : cnt v.op < 3
      · rw [hc c3]; exact h3.2
      · have h8 : v.op = 8 := by
          unfold cnt at c3
          split at c3
          · omega
          · split at c3
            · omega
            · split at c3
              · assumption
              · omega
        rw [h8] at h3 ⊢
        simpa [shapeB] using h3.2
theorem okV_app {ins : List Int} {vs : List Vl} {v : Vl} {i : Nat} (hi : i < vs.length) (h : okV ins vs i = true) : okV ins (vs ++ [v]) i = true := by
  have e : ∀ k, k < vs.length → (vs ++ [v]).getD k Vl.zero = vs.getD k Vl.zero := fun k hk => by
    rw [List.getD_eq_getElem?_getD, List.getElem?_append_left hk, ← List.getD_eq_getElem?_getD]
  refine okV_of h id ?_ ?_ ?_ ?_ ?_ ?_ ?_
  · rw [e i hi]
  · rw [e i hi]
  · intro _; rw [e i hi]
  · intro _; rw [e i hi]
  · intro _; rw [e i hi]
  · rw [e i hi]; simp
  · intro o _ h0 h1
    refine ⟨⟨h0, h1⟩, ?_⟩
    rw [e _ (by simp only [id]; omega)]; rfl
theorem getD_lastV (vs : List Vl) (v : Vl) : (vs ++ [v]).getD vs.length Vl.zero = v := by
  rw [List.getD_eq_getElem?_getD, List.getElem?_append_right (Nat.le_refl _), Nat.sub_self]; rfl
theorem getD_fstV (vs : List Vl) (v : Vl) {k : Nat} (hk : k < vs.length) : (vs ++ [v]).getD k Vl.zero = vs.getD k Vl.zero := by
  rw [List.getD_eq_getElem?_getD, List.getElem?_append_left hk, ← List.getD_eq_getElem?_getD]
theorem getD_lastI (xs : List Int) (x : Int) : (xs ++ [x]).getD xs.length 0 = x := by
  rw [List.getD_eq_getElem?_getD, List.getElem?_append_right (Nat.le_refl _), Nat.sub_self]; rfl
theorem getD_fstI (xs : List Int) (x : Int) {k : Nat} (hk : k < xs.length) : (xs ++ [x]).getD k 0 = xs.getD k 0 := by
  rw [List.getD_eq_getElem?_getD, List.getElem?_append_left hk, ← List.getD_eq_getElem?_getD]

/-! PassCommon, PassNeg, PassUnit. -/
/-- One operation on the same operands. -/
def alike (u v : Vl) : Bool := (u.op == v.op && (u.len == v.len && (u.a == v.a && (u.b == v.b && u.c == v.c)))) && (u.op != 1 || fb u.k == fb v.k)
def isC (vs : List Vl) (i : Int) (k : Nat) : Bool := (vs.getD i.toNat Vl.zero).op == 1 && fb (vs.getD i.toNat Vl.zero).k == k
/-- The index tq which value i, its operands replaced, is found equal. -/
def sameAt (p : Int) (news : List Vl) (v : Vl) (i : Nat) : Int :=
  if p = 1 then (news.findIdx (alike · v) : Int)
  else if p = 3 then (if v.op = 6 ∧ (news.getD v.a.toNat Vl.zero).op = 6 then (news.getD v.a.toNat Vl.zero).a else i)
  else if (v.op = 4 ∨ v.op = 5) ∧ isC news v.b 4607182418800017408 = true then v.a
  else if v.op = 4 ∧ isC news v.a 4607182418800017408 = true then v.b
  else if v.op = 3 ∧ isC news v.b 0 = true then v.a
  else if v.op = 2 ∧ isC news v.b 9223372036854775808 = true then v.a
  else if v.op = 2 ∧ isC news v.a 9223372036854775808 = true then v.b
  else i
def eqSt (p : Int) (vs : List Vl) : Nat → List Vl × List Int
  | 0 => ([], [])
  | i + 1 => ((eqSt p vs i).1 ++ [rnm (eqSt p vs i).2 (vs.getD i Vl.zero)], (eqSt p vs i).2 ++ [sameAt p (eqSt p vs i).1 (rnm (eqSt p vs i).2 (vs.getD i Vl.zero)) i])
theorem alike_cv (u v : Vl) : alike (cv u) (cv v) = alike u v := by
  unfold alike cv
  simp [fb_fb0]
theorem isC_cv (vs : List Vl) (i : Int) (k : Nat) : isC (vs.map cv) i k = isC vs i k := by
  unfold isC
  rw [getD_cv]
  simp [cv, fb_fb0]
theorem sameAt_cv (p : Int) (news : List Vl) (v : Vl) (i : Nat) : sameAt p (news.map cv) (cv v) i = sameAt p news v i := by
  unfold sameAt
  have e : (news.map cv).findIdx (alike · (cv v)) = news.findIdx (alike · v) := by
    rw [List.findIdx_map]
    congr 1
    funext u
    exact alike_cv u v
  rw [e]
  simp only [isC_cv, getD_cv]
  rfl
theorem eqSt_cv (p : Int) (vs : List Vl) : ∀ i, (eqSt p (vs.map cv) i) = ((eqSt p vs i).1.map cv, (eqSt p vs i).2)
  | 0 => rfl
  | i + 1 => by
    have ih := eqSt_cv p vs i
    unfold eqSt
    rw [ih]
    simp only
    rw [getD_cv, ← cv_rnm, sameAt_cv]
    simp
theorem eqSt_len (p : Int) (vs : List Vl) : ∀ i, (eqSt p vs i).1.length = i ∧ (eqSt p vs i).2.length = i
  | 0 => ⟨rfl, rfl⟩
  | i + 1 => by
    have ih := eqSt_len p vs i
    unfold eqSt
    simp [ih.1, ih.2]
/-- What holds of the first i values. -/
structure EqI (ins : List Int) (vs : List Vl) (i : Nat) (S : List Vl × List Int) : Prop where
  l1 : S.1.length = i
  l2 : S.2.length = i
  to0 : ∀ j, j < i → 0 ≤ S.2.getD j 0 ∧ S.2.getD j 0 ≤ j
  root : ∀ j, j < i → S.2.getD (S.2.getD j 0).toNat 0 = S.2.getD j 0
  tlen : ∀ j, j < i → (S.1.getD (S.2.getD j 0).toNat Vl.zero).len = (vs.getD j Vl.zero).len
  len : ∀ j, j < i → (S.1.getD j Vl.zero).len = (vs.getD j Vl.zero).len
  ok : ∀ j, j < i → okV ins S.1 j = true
  opr : ∀ j, j < i → ∀ o ∈ opsOf (S.1.getD j Vl.zero), (0 ≤ o ∧ o < j) ∧ S.2.getD o.toNat 0 = o
theorem okV_ops {ins : List Int} {vs : List Vl} {i : Nat} (h : okV ins vs i = true) : ∀ o ∈ opsOf (vs.getD i Vl.zero), 0 ≤ o ∧ o < i := by
  intro o ho
  unfold okV at h
  generalize vs.getD i Vl.zero = v at *
  rw [Bool.and_eq_true] at h
  have h3 := h.2
  by_cases h0 : v.op = 0
  · have c0 : cnt v.op = 0 := by rw [h0]; rfl
    unfold opsOf at ho
    rw [c0] at ho
    simp at ho
  · rw [if_neg h0, Bool.and_eq_true] at h3
    exact of_decide_eq_true (List.all_eq_true.1 h3.1 o ho)
/-- In an elementwise operation every operand is as long as the value. -/
theorem okV_each {ins : List Int} {vs : List Vl} {i : Nat} (h : okV ins vs i = true) (he : (vs.getD i Vl.zero).op = 2 ∨ (vs.getD i Vl.zero).op = 3 ∨ (vs.getD i Vl.zero).op = 4 ∨ (vs.getD i Vl.zero).op = 5 ∨ (vs.getD i Vl.zero).op = 6) : ∀ o ∈ opsOf (vs.getD i Vl.zero), (vs.getD o.toNat Vl.zero).len = (vs.getD i Vl.zero).len := by
  intro o ho
  unfold okV at h
  generalize vs.getD i Vl.zero = v at *
  rw [Bool.and_eq_true] at h
  have h3 := h.2
  rw [if_neg (by omega), Bool.and_eq_true] at h3
  have h4 := h3.2
  unfold shapeB at h4
  rw [if_neg (by omega), if_neg (by omega), if_neg (by omega), if_neg (by omega), if_pos (by omega)] at h4
  have := List.all_eq_true.1 h4 _ (List.mem_map_of_mem ho)
  exact beq_iff_eq.1 this
theorem opsOf_a {v : Vl} (h : 1 ≤ cnt v.op) : v.a ∈ opsOf v := by
  have := cnt_le v.op
  unfold opsOf
  rcases (by omega : cnt v.op = 1 ∨ cnt v.op = 2 ∨ cnt v.op = 3) with e | e | e <;> simp [e]
theorem opsOf_b {v : Vl} (h : 2 ≤ cnt v.op) : v.b ∈ opsOf v := by
  have := cnt_le v.op
  unfold opsOf
  rcases (by omega : cnt v.op = 2 ∨ cnt v.op = 3) with e | e <;> simp [e]
theorem opsOf_c {v : Vl} (h : 3 ≤ cnt v.op) : v.c ∈ opsOf v := by
  have := cnt_le v.op
  unfold opsOf
  simp [(by omega : cnt v.op = 3)]
theorem cnt2 {op : Int} (h : op = 2 ∨ op = 3 ∨ op = 4 ∨ op = 5) : cnt op = 2 := by
  rcases h with rfl | rfl | rfl | rfl <;> decide
theorem alike_len {u v : Vl} (h : alike u v = true) : u.len = v.len := by
  unfold alike at h
  simp only [Bool.and_eq_true, beq_iff_eq] at h
  exact h.1.2.1
theorem alike_to {u v : Vl} (h : alike u v = true) (x : Vl) : alike x u = alike x v := by
  unfold alike at h ⊢
  simp only [Bool.and_eq_true, beq_iff_eq, Bool.or_eq_true] at h
  obtain ⟨⟨q1, q2, q3, q4, q5⟩, q6⟩ := h
  rw [q1, q2, q3, q4, q5]
  rcases q6 with q6 | q6
  · rw [q1] at q6
    by_cases hu : x.op = v.op
    · simp [hu, q6]
    · have : (x.op == v.op) = false := beq_eq_false_iff_ne.2 hu
      simp [this]
  · rw [q6]
theorem rnm_ok {ins : List Int} {vs : List Vl} {i : Nat} {S : List Vl × List Int} (E : EqI ins vs i S) (h : okV ins vs i = true) : okV ins (S.1 ++ [rnm S.2 (vs.getD i Vl.zero)]) i = true := by
  have el : (S.1 ++ [rnm S.2 (vs.getD i Vl.zero)]).getD i Vl.zero = rnm S.2 (vs.getD i Vl.zero) := by
    have := getD_lastV S.1 (rnm S.2 (vs.getD i Vl.zero))
    rw [E.l1] at this
    exact this
  refine okV_of h (fun o => S.2.getD o.toNat 0) ?_ ?_ ?_ ?_ ?_ ?_ ?_
  · rw [el]; rfl
  · rw [el]; rfl
  · intro c; rw [el]; unfold rnm; simp only; rw [if_neg (by omega)]
  · intro c; rw [el]; unfold rnm; simp only; rw [if_neg (by omega)]
  · intro c; rw [el]; unfold rnm; simp only; rw [if_neg (by omega)]
  · rw [el]; exact opsOf_rnm _ _
  · intro o _ h0 h1
    have t := E.to0 o.toNat (by omega)
    refine ⟨⟨t.1, by omega⟩, ?_⟩
    rw [getD_fstV _ _ (by rw [E.l1]; omega)]
    exact E.tlen o.toNat (by omega)
theorem rnm_opr {ins : List Int} {vs : List Vl} {i : Nat} {S : List Vl × List Int} (E : EqI ins vs i S) (h : okV ins vs i = true) : ∀ o ∈ opsOf (rnm S.2 (vs.getD i Vl.zero)), (0 ≤ o ∧ o < i) ∧ S.2.getD o.toNat 0 = o := by
  intro o ho
  rw [opsOf_rnm] at ho
  obtain ⟨q, hq, rfl⟩ := List.mem_map.1 ho
  have hb := okV_ops h q hq
  have t := E.to0 q.toNat (by omega)
  exact ⟨⟨t.1, by omega⟩, E.root q.toNat (by omega)⟩
/-- What value i is found equal tq: an earlier one or itself, a root, as long. -/
theorem sameAt_ok {ins : List Int} {vs : List Vl} {i : Nat} {S : List Vl × List Int} (E : EqI ins vs i S) (h : okV ins vs i = true) (p : Int) (hcom : ∀ j, j < i → (S.1.findIdx (alike · (S.1.getD j Vl.zero)) = j → S.2.getD j 0 = j ∨ p ≠ 1)) :
    (sameAt p S.1 (rnm S.2 (vs.getD i Vl.zero)) i = i) ∨ ((0 ≤ sameAt p S.1 (rnm S.2 (vs.getD i Vl.zero)) i ∧ sameAt p S.1 (rnm S.2 (vs.getD i Vl.zero)) i < i) ∧ S.2.getD (sameAt p S.1 (rnm S.2 (vs.getD i Vl.zero)) i).toNat 0 = sameAt p S.1 (rnm S.2 (vs.getD i Vl.zero)) i ∧ (S.1.getD (sameAt p S.1 (rnm S.2 (vs.getD i Vl.zero)) i).toNat Vl.zero).len = (vs.getD i Vl.zero).len) := by
  have hop := rnm_opr E h
  have hok := rnm_ok E h
  have el : (S.1 ++ [rnm S.2 (vs.getD i Vl.zero)]).getD i Vl.zero = rnm S.2 (vs.getD i Vl.zero) := by
    have := getD_lastV S.1 (rnm S.2 (vs.getD i Vl.zero))
    rw [E.l1] at this
    exact this
  have hlen : (rnm S.2 (vs.getD i Vl.zero)).len = (vs.getD i Vl.zero).len := rfl
  have heach : ((rnm S.2 (vs.getD i Vl.zero)).op = 2 ∨ (rnm S.2 (vs.getD i Vl.zero)).op = 3 ∨ (rnm S.2 (vs.getD i Vl.zero)).op = 4 ∨ (rnm S.2 (vs.getD i Vl.zero)).op = 5 ∨ (rnm S.2 (vs.getD i Vl.zero)).op = 6) → ∀ o ∈ opsOf (rnm S.2 (vs.getD i Vl.zero)), (S.1.getD o.toNat Vl.zero).len = (vs.getD i Vl.zero).len := by
    intro he o ho
    have := okV_each hok (by rw [el]; exact he) o (by rw [el]; exact ho)
    rw [el, hlen, getD_fstV _ _ (by rw [E.l1]; have := (hop o ho).1; omega)] at this
    exact this
  generalize hv : rnm S.2 (vs.getD i Vl.zero) = v at *
  have viaOp : ∀ o, o ∈ opsOf v → (v.op = 2 ∨ v.op = 3 ∨ v.op = 4 ∨ v.op = 5 ∨ v.op = 6) → (0 ≤ o ∧ o < i) ∧ S.2.getD o.toNat 0 = o ∧ (S.1.getD o.toNat Vl.zero).len = (vs.getD i Vl.zero).len :=
    fun o ho he => ⟨(hop o ho).1, (hop o ho).2, heach he o ho⟩
  unfold sameAt
  by_cases p1 : p = 1
  · rw [if_pos p1]
    by_cases hf : S.1.findIdx (alike · v) < S.1.length
    · right
      have hal := List.findIdx_getElem (w := hf)
      have hj : S.1.findIdx (alike · v) < i := by rw [← E.l1]; exact hf
      have eg : S.1.getD (S.1.findIdx (alike · v)) Vl.zero = S.1[S.1.findIdx (alike · v)] := by
        rw [List.getD_eq_getElem?_getD, List.getElem?_eq_getElem hf]; rfl
      refine ⟨by omega, ?_, ?_⟩
      · rw [Int.toNat_natCast]
        refine Or.elim (hcom _ hj ?_) id (fun c => absurd p1 c)
        congr 1
        funext u
        rw [eg, alike_to hal u]
      · rw [Int.toNat_natCast, eg]
        rw [alike_len hal]
        exact hlen
    · left
      have := List.findIdx_le_length (p := (alike · v)) (xs := S.1)
      rw [E.l1] at this hf
      omega
  · rw [if_neg p1]
    by_cases p3 : p = 3
    · rw [if_pos p3]
      by_cases c : v.op = 6 ∧ (S.1.getD v.a.toNat Vl.zero).op = 6
      · rw [if_pos c]
        right
        have hc1 : 1 ≤ cnt v.op := by rw [c.1]; decide
        have h1 := viaOp v.a (opsOf_a hc1) (by omega)
        have hj : v.a.toNat < i := by omega
        have hc2 : 1 ≤ cnt (S.1.getD v.a.toNat Vl.zero).op := by rw [c.2]; decide
        have h2 := E.opr v.a.toNat hj _ (opsOf_a hc2)
        have h3 := okV_each (E.ok v.a.toNat hj) (by omega) _ (opsOf_a hc2)
        exact ⟨⟨h2.1.1, by omega⟩, h2.2, by rw [h3]; exact h1.2.2⟩
      · rw [if_neg c]; left; rfl
    · rw [if_neg p3]
      by_cases c : (v.op = 4 ∨ v.op = 5) ∧ isC S.1 v.b 4607182418800017408 = true
      · rw [if_pos c]; right
        exact viaOp v.a (opsOf_a (by rw [cnt2 (by omega)]; omega)) (by omega)
      rw [if_neg c]
      clear c
      by_cases c : v.op = 4 ∧ isC S.1 v.a 4607182418800017408 = true
      · rw [if_pos c]; right
        exact viaOp v.b (opsOf_b (by rw [cnt2 (by omega)]; omega)) (by omega)
      rw [if_neg c]
      clear c
      by_cases c : v.op = 3 ∧ isC S.1 v.b 0 = true
      · rw [if_pos c]; right
        exact viaOp v.a (opsOf_a (by rw [cnt2 (by omega)]; omega)) (by omega)
      rw [if_neg c]
      clear c
      by_cases c : v.op = 2 ∧ isC S.1 v.b 9223372036854775808 = true
      · rw [if_pos c]; right
        exact viaOp v.a (opsOf_a (by rw [cnt2 (by omega)]; omega)) (by omega)
      rw [if_neg c]
      clear c
      by_cases c : v.op = 2 ∧ isC S.1 v.a 9223372036854775808 = true
      · rw [if_pos c]; right
        exact viaOp v.b (opsOf_b (by rw [cnt2 (by omega)]; omega)) (by omega)
      rw [if_neg c]; left; rfl
/-- With PassCommon a value that is alike tq no earlier one is found equal tq itself. -/
theorem eqSt_first (vs : List Vl) : ∀ i j, j < i → (eqSt 1 vs i).1.findIdx (alike · ((eqSt 1 vs i).1.getD j Vl.zero)) = j → (eqSt 1 vs i).2.getD j 0 = j
  | 0, j, hj, _ => by omega
  | i + 1, j, hj, hf => by
    have hl := eqSt_len 1 vs i
    have e : eqSt 1 vs (i + 1) = ((eqSt 1 vs i).1 ++ [rnm (eqSt 1 vs i).2 (vs.getD i Vl.zero)], (eqSt 1 vs i).2 ++ [sameAt 1 (eqSt 1 vs i).1 (rnm (eqSt 1 vs i).2 (vs.getD i Vl.zero)) i]) := rfl
    rw [e] at hf ⊢
    simp only at hf ⊢
    by_cases hji : j < i
    · rw [getD_fstI _ _ (by rw [hl.2]; exact hji)]
      rw [getD_fstV _ _ (by rw [hl.1]; exact hji), List.findIdx_append] at hf
      by_cases hc : (eqSt 1 vs i).1.findIdx (alike · ((eqSt 1 vs i).1.getD j Vl.zero)) < (eqSt 1 vs i).1.length
      · rw [if_pos hc] at hf
        exact eqSt_first vs i j hji hf
      · rw [if_neg hc] at hf
        rw [hl.1] at hf hc
        omega
    · have ej : j = i := by omega
      subst ej
      have e1 : ((eqSt 1 vs j).2 ++ [sameAt 1 (eqSt 1 vs j).1 (rnm (eqSt 1 vs j).2 (vs.getD j Vl.zero)) j]).getD j 0 = sameAt 1 (eqSt 1 vs j).1 (rnm (eqSt 1 vs j).2 (vs.getD j Vl.zero)) j := by
        have := getD_lastI (eqSt 1 vs j).2 (sameAt 1 (eqSt 1 vs j).1 (rnm (eqSt 1 vs j).2 (vs.getD j Vl.zero)) j)
        rw [hl.2] at this
        exact this
      have e2 : ((eqSt 1 vs j).1 ++ [rnm (eqSt 1 vs j).2 (vs.getD j Vl.zero)]).getD j Vl.zero = rnm (eqSt 1 vs j).2 (vs.getD j Vl.zero) := by
        have := getD_lastV (eqSt 1 vs j).1 (rnm (eqSt 1 vs j).2 (vs.getD j Vl.zero))
        rw [hl.1] at this
        exact this
      rw [e1]
      rw [e2, List.findIdx_append] at hf
      unfold sameAt
      rw [if_pos rfl]
      by_cases hc : (eqSt 1 vs j).1.findIdx (alike · (rnm (eqSt 1 vs j).2 (vs.getD j Vl.zero))) < (eqSt 1 vs j).1.length
      · rw [if_pos hc] at hf
        rw [hf]
      · have := List.findIdx_le_length (p := (alike · (rnm (eqSt 1 vs j).2 (vs.getD j Vl.zero)))) (xs := (eqSt 1 vs j).1)
        rw [hl.1] at this hc
        omega
theorem eqI_step {ins : List Int} {vs : List Vl} {i : Nat} {S : List Vl × List Int} (E : EqI ins vs i S) (h : okV ins vs i = true) (s : Int) (hs : s = i ∨ ((0 ≤ s ∧ s < i) ∧ S.2.getD s.toNat 0 = s ∧ (S.1.getD s.toNat Vl.zero).len = (vs.getD i Vl.zero).len)) :
    EqI ins vs (i + 1) (S.1 ++ [rnm S.2 (vs.getD i Vl.zero)], S.2 ++ [s]) := by
  have hok := rnm_ok E h
  have hop := rnm_opr E h
  have v0 : ∀ k, k < i → (S.1 ++ [rnm S.2 (vs.getD i Vl.zero)]).getD k Vl.zero = S.1.getD k Vl.zero := fun k hk => getD_fstV _ _ (by rw [E.l1]; exact hk)
  have v1 : (S.1 ++ [rnm S.2 (vs.getD i Vl.zero)]).getD i Vl.zero = rnm S.2 (vs.getD i Vl.zero) := by
    have := getD_lastV S.1 (rnm S.2 (vs.getD i Vl.zero))
    rw [E.l1] at this
    exact this
  have t0 : ∀ k, k < i → (S.2 ++ [s]).getD k 0 = S.2.getD k 0 := fun k hk => getD_fstI _ _ (by rw [E.l2]; exact hk)
  have t1 : (S.2 ++ [s]).getD i 0 = s := by
    have := getD_lastI S.2 s
    rw [E.l2] at this
    exact this
  refine ⟨by simp [E.l1], by simp [E.l2], ?_, ?_, ?_, ?_, ?_, ?_⟩
  · intro j hj
    simp only
    by_cases c : j < i
    · rw [t0 j c]; exact E.to0 j c
    · have : j = i := by omega
      subst this
      rw [t1]; omega
  · intro j hj
    simp only
    by_cases c : j < i
    · have := E.to0 j c
      rw [t0 j c, t0 _ (by omega)]; exact E.root j c
    · have : j = i := by omega
      subst this
      rw [t1]
      rcases hs with hs | ⟨hs1, hs2, _⟩
      · have e9 : s.toNat = j := by omega
        rw [e9, t1]
      · rw [t0 _ (by omega)]; exact hs2
  · intro j hj
    simp only
    by_cases c : j < i
    · have := E.to0 j c
      rw [t0 j c, v0 _ (by omega)]; exact E.tlen j c
    · have : j = i := by omega
      subst this
      rw [t1]
      rcases hs with hs | ⟨hs1, _, hs3⟩
      · have e9 : s.toNat = j := by omega
        rw [e9, v1]; rfl
      · rw [v0 _ (by omega)]; exact hs3
  · intro j hj
    simp only
    by_cases c : j < i
    · rw [v0 j c]; exact E.len j c
    · have : j = i := by omega
      subst this
      rw [v1]; rfl
  · intro j hj
    simp only
    by_cases c : j < i
    · exact okV_app (by rw [E.l1]; exact c) (E.ok j c)
    · have : j = i := by omega
      subst this
      exact hok
  · intro j hj o ho
    simp only at ho ⊢
    by_cases c : j < i
    · rw [v0 j c] at ho
      have := E.opr j c o ho
      exact ⟨this.1, by rw [t0 _ (by omega)]; exact this.2⟩
    · have : j = i := by omega
      subst this
      rw [v1] at ho
      have := hop o ho
      exact ⟨this.1, by rw [t0 _ (by omega)]; exact this.2⟩
theorem eqI_all (ins : List Int) (vs : List Vl) (p : Int) : ∀ i, (∀ j, j < i → okV ins vs j = true) → EqI ins vs i (eqSt p vs i)
  | 0, _ => ⟨rfl, rfl, by intro j hj; omega, by intro j hj; omega, by intro j hj; omega, by intro j hj; omega, by intro j hj; omega, by intro j hj; omega⟩
  | i + 1, h => by
    have E := eqI_all ins vs p i (fun j hj => h j (by omega))
    refine eqI_step E (h i (by omega)) _ (sameAt_ok E (h i (by omega)) p ?_)
    intro j hj hf
    by_cases hp : p = 1
    · subst hp
      exact .inl (eqSt_first vs i j hj hf)
    · exact .inr hp

/-! A whole pass on the lists: the values, the outputs. -/
def mapO (tq : List Int) (outs : List Int) : List Int := outs.map fun o => tq.getD o.toNat 0
def eqM (p : Int) (vs : List Vl) (outs : List Int) : List Vl × List Int := ((eqSt p vs vs.length).1, mapO (eqSt p vs vs.length).2 outs)
theorem okG_parts {ins : List Int} {vs : List Vl} {outs : List Int} (h : okG ins vs outs = true) : (ins.length ≤ 20 ∧ vs.length ≤ 2000 ∧ outs.length ≤ 50) ∧ ins.all lenB = true ∧ (∀ j, j < vs.length → okV ins vs j = true) ∧ (∀ o ∈ outs, 0 ≤ o ∧ o < vs.length) ∧ cellsV vs ≤ 50000 := by
  unfold okG at h
  simp only [Bool.and_eq_true] at h
  obtain ⟨h1, h2, h3, h4, h5⟩ := h
  exact ⟨of_decide_eq_true h1, h2, fun j hj => List.all_eq_true.1 h3 j (List.mem_range.2 hj), fun o ho => of_decide_eq_true (List.all_eq_true.1 h4 o ho), of_decide_eq_true h5⟩
theorem okG_make {ins : List Int} {vs : List Vl} {outs : List Int} (h1 : ins.length ≤ 20 ∧ vs.length ≤ 2000 ∧ outs.length ≤ 50) (h2 : ins.all lenB = true) (h3 : ∀ j, j < vs.length → okV ins vs j = true) (h4 : ∀ o ∈ outs, 0 ≤ o ∧ o < vs.length) (h5 : cellsV vs ≤ 50000) : okG ins vs outs = true := by
  unfold okG
  simp only [Bool.and_eq_true]
  exact ⟨decide_eq_true h1, h2, List.all_eq_true.2 fun j hj => h3 j (List.mem_range.1 hj), List.all_eq_true.2 fun o ho => decide_eq_true (h4 o ho), decide_eq_true h5⟩
theorem cellsV_eq : ∀ (us vs : List Vl), us.length = vs.length → (∀ j, j < us.length → (us.getD j Vl.zero).len = (vs.getD j Vl.zero).len) → cellsV us = cellsV vs
  | [], [], _, _ => rfl
  | u :: us, v :: vs, hl, h => by
    have h0 := h 0 (by simp)
    have := cellsV_eq us vs (by simpa using hl) (fun j hj => by
      have := h (j + 1) (by simp; omega)
      simpa using this)
    simp only [cellsV, this]
    have h0' : u.len = v.len := by simpa using h0
    rw [h0']
theorem eqM_ok {ins : List Int} {vs : List Vl} {outs : List Int} (p : Int) (h : okG ins vs outs = true) : okG ins (eqM p vs outs).1 (eqM p vs outs).2 = true := by
  obtain ⟨h1, h2, h3, h4, h5⟩ := okG_parts h
  have E := eqI_all ins vs p vs.length h3
  have l1 := E.l1
  unfold eqM
  refine okG_make ⟨h1.1, by rw [l1]; exact h1.2.1, by simp [mapO]; exact h1.2.2⟩ h2 (fun j hj => E.ok j (by rw [← l1]; exact hj)) ?_ ?_
  · intro o ho
    simp only [mapO, List.mem_map] at ho
    obtain ⟨q, hq, rfl⟩ := ho
    have hb := h4 q hq
    have := E.to0 q.toNat (by omega)
    rw [l1]
    omega
  · rw [cellsV_eq _ vs l1 (fun j hj => E.len j (by rw [← l1]; exact hj))]
    exact h5
theorem eqM_lk {us vs : List Vl} {outs : List Int} (p : Int) (h : Lk us vs) : Lk (eqM p us outs).1 (eqM p vs outs).1 ∧ (eqM p us outs).2 = (eqM p vs outs).2 := by
  have a := eqSt_cv p us us.length
  have b := eqSt_cv p vs us.length
  rw [h] at a
  rw [a] at b
  unfold eqM
  rw [← h.len]
  exact ⟨congrArg Prod.fst b, by rw [congrArg Prod.snd b]⟩
def Kb (vs : List Vl) : Prop := ∀ v ∈ vs, v.k < 18446744073709551616
theorem Kb.at_ {vs : List Vl} (h : Kb vs) (k : Nat) : (vs.getD k Vl.zero).k < 18446744073709551616 := by
  rw [List.getD_eq_getElem?_getD]
  by_cases hk : k < vs.length
  · rw [List.getElem?_eq_getElem hk]; exact h _ (List.getElem_mem _)
  · rw [List.getElem?_eq_none (by omega)]; exact (by decide : Vl.zero.k < 18446744073709551616)
theorem Kb.app {vs : List Vl} {v : Vl} (h : Kb vs) (hv : v.k < 18446744073709551616) : Kb (vs ++ [v]) := by
  intro u hu
  simp only [List.mem_append, List.mem_singleton] at hu
  rcases hu with c | rfl
  · exact h u c
  · exact hv
theorem okV_lenB {ins : List Int} {vs : List Vl} {i : Nat} (h : okV ins vs i = true) : lenB (vs.getD i Vl.zero).len = true := by
  unfold okV at h
  simp only [Bool.and_eq_true] at h
  exact h.1.1
/-! PassDead. -/
def setAll (F : List Bool) (os : List Int) : List Bool := os.foldl (fun F o => F.set o.toNat true) F
theorem setAll_len (os : List Int) : ∀ F, (setAll F os).length = F.length := by
  induction os with
  | nil => intro F; rfl
  | cons o r ih => intro F; show (setAll (F.set o.toNat true) r).length = _; rw [ih]; simp
theorem setAll_at (os : List Int) (i : Nat) : ∀ F : List Bool, i < F.length → (setAll F os).getD i false = (F.getD i false || os.any fun o => o.toNat == i) := by
  induction os with
  | nil => intro F _; simp [setAll]
  | cons o r ih =>
    intro F hi
    show (setAll (F.set o.toNat true) r).getD i false = _
    rw [ih _ (by simp; exact hi)]
    have e : (F.set o.toNat true).getD i false = (F.getD i false || o.toNat == i) := by
      rw [List.getD_eq_getElem?_getD, List.getElem?_set, List.getD_eq_getElem?_getD]
      by_cases c : o.toNat = i
      · subst c; simp [hi]
      · simp [c]
    rw [e, List.any_cons, Bool.or_assoc]
def isO (outs : List Int) (i : Nat) : Bool := outs.any fun o => o == (i : Int)
/-- Which values are needed, k of them looked at, from the last one on. -/
def ndI (vs : List Vl) (outs : List Int) : Nat → List Bool
  | 0 => setAll (List.replicate vs.length false) outs
  | k + 1 => if (ndI vs outs k).getD (vs.length - 1 - k) false = true then setAll (ndI vs outs k) (opsOf (vs.getD (vs.length - 1 - k) Vl.zero)) else ndI vs outs k
def ndG (outs : List Int) (G : List Bool) (i : Nat) : List Bool := G.set i (G.getD i false || isO outs i)
def ndS (vs : List Vl) (outs : List Int) : Nat → List Bool
  | 0 => List.replicate vs.length false
  | k + 1 => if (ndG outs (ndS vs outs k) (vs.length - 1 - k)).getD (vs.length - 1 - k) false = true then setAll (ndG outs (ndS vs outs k) (vs.length - 1 - k)) (opsOf (vs.getD (vs.length - 1 - k) Vl.zero)) else ndG outs (ndS vs outs k) (vs.length - 1 - k)
theorem ndI_len (vs : List Vl) (outs : List Int) : ∀ k, (ndI vs outs k).length = vs.length
  | 0 => by simp [ndI, setAll_len]
  | k + 1 => by
    rw [ndI]
    split
    · rw [setAll_len]; exact ndI_len vs outs k
    · exact ndI_len vs outs k
theorem ndS_len (vs : List Vl) (outs : List Int) : ∀ k, (ndS vs outs k).length = vs.length
  | 0 => by simp [ndS]
  | k + 1 => by
    rw [ndS]
    split
    · rw [setAll_len]; simp [ndG, ndS_len vs outs k]
    · simp [ndG, ndS_len vs outs k]
theorem set_atB (G : List Bool) (j : Nat) (b : Bool) (i : Nat) (hi : i < G.length) : (G.set j b).getD i false = if j = i then b else G.getD i false := by
  rw [List.getD_eq_getElem?_getD, List.getElem?_set, List.getD_eq_getElem?_getD]
  by_cases c : j = i
  · subst c; simp [hi]
  · simp [c]
theorem nd_same (vs : List Vl) (outs : List Int) (ho : ∀ o ∈ outs, 0 ≤ o ∧ o < vs.length) : ∀ k, k ≤ vs.length → ∀ i, i < vs.length → (ndI vs outs k).getD i false = ((ndS vs outs k).getD i false || isO outs i)
  | 0, _, i, hi => by
    rw [ndI, setAll_at _ _ _ (by simpa using hi), ndS]
    congr 1
    unfold isO
    rw [Bool.eq_iff_iff, List.any_eq_true, List.any_eq_true]
    constructor
    · rintro ⟨o, h1, h2⟩
      have := ho o h1
      have h2' : o.toNat = i := by simpa using h2
      exact ⟨o, h1, by rw [beq_iff_eq]; omega⟩
    · rintro ⟨o, h1, h2⟩
      rw [beq_iff_eq] at h2
      exact ⟨o, h1, by rw [beq_iff_eq]; omega⟩
  | k + 1, hk, i, hi => by
    have ih := nd_same vs outs ho k (by omega)
    have l1 := ndI_len vs outs k
    have l2 := ndS_len vs outs k
    have hj : vs.length - 1 - k < vs.length := by omega
    rw [ndI, ndS]
    generalize vs.length - 1 - k = j at *
    have l3 : (ndG outs (ndS vs outs k) j).length = vs.length := by simp [ndG, l2]
    have g : ∀ i, i < vs.length → (ndG outs (ndS vs outs k) j).getD i false = if j = i then ((ndS vs outs k).getD j false || isO outs j) else (ndS vs outs k).getD i false := fun i hi => by
      unfold ndG; rw [set_atB _ _ _ _ (by rw [l2]; exact hi)]
    have e0 : (ndG outs (ndS vs outs k) j).getD j false = (ndI vs outs k).getD j false := by
      rw [g j hj, if_pos rfl, ih j hj]
    have key : (ndI vs outs k).getD i false = ((ndG outs (ndS vs outs k) j).getD i false || isO outs i) := by
      rw [g i hi, ih i hi]
      by_cases c : j = i
      · subst c; rw [if_pos rfl, Bool.or_assoc, Bool.or_self]
      · rw [if_neg c]
    rw [e0]
    by_cases c : (ndI vs outs k).getD j false = true
    · rw [if_pos c, if_pos c, setAll_at _ _ _ (by rw [l1]; exact hi), setAll_at _ _ _ (by rw [l3]; exact hi), key, Bool.or_assoc, Bool.or_assoc, Bool.or_comm (isO outs i)]
    · rw [if_neg c, if_neg c]; exact key
theorem ndS_out (vs : List Vl) (outs : List Int) : ∀ k, k ≤ vs.length → ∀ i, vs.length - k ≤ i → i < vs.length → isO outs i = true → (ndS vs outs k).getD i false = true
  | 0, _, i, h1, h2, _ => by omega
  | k + 1, hk, i, h1, h2, h3 => by
    have ih := ndS_out vs outs k (by omega) i
    have l2 := ndS_len vs outs k
    rw [ndS]
    have hj : vs.length - 1 - k < vs.length := by omega
    have hjk : vs.length - k = (vs.length - 1 - k) + 1 := by omega
    have hjk' : vs.length - (k + 1) = vs.length - 1 - k := by omega
    rw [hjk] at ih
    rw [hjk'] at h1
    generalize vs.length - 1 - k = j at *
    have l3 : (ndG outs (ndS vs outs k) j).length = vs.length := by simp [ndG, l2]
    have g : (ndG outs (ndS vs outs k) j).getD i false = true := by
      unfold ndG; rw [set_atB _ _ _ _ (by rw [l2]; exact h2)]
      by_cases c : j = i
      · subst c; rw [if_pos rfl, h3, Bool.or_true]
      · rw [if_neg c]; exact ih (by omega) h2 h3
    split
    · rw [setAll_at _ _ _ (by rw [l3]; exact h2), g, Bool.true_or]
    · exact g
theorem nd_eq (vs : List Vl) (outs : List Int) (ho : ∀ o ∈ outs, 0 ≤ o ∧ o < vs.length) : ndS vs outs vs.length = ndI vs outs vs.length := by
  have l1 := ndI_len vs outs vs.length
  have l2 := ndS_len vs outs vs.length
  apply List.ext_getElem (by rw [l1, l2])
  intro i h1 h2
  have a := nd_same vs outs ho vs.length (Nat.le_refl _) i (by omega)
  rw [List.getD_eq_getElem?_getD, List.getElem?_eq_getElem h2, List.getD_eq_getElem?_getD, List.getElem?_eq_getElem h1] at a
  simp only [Option.getD_some] at a
  rw [a]
  cases hq : isO outs i
  · simp
  · have b := ndS_out vs outs vs.length (Nat.le_refl _) i (by omega) (by omega) hq
    rw [List.getD_eq_getElem?_getD, List.getElem?_eq_getElem h1] at b
    simp only [Option.getD_some] at b
    rw [b]; rfl
theorem ndI_mono {vs : List Vl} {outs : List Int} {k i : Nat} (h : (ndI vs outs k).getD i false = true) : (ndI vs outs (k + 1)).getD i false = true := by
  have hi : i < (ndI vs outs k).length := by
    rcases Nat.lt_or_ge i (ndI vs outs k).length with c | c
    · exact c
    · rw [List.getD_eq_getElem?_getD, List.getElem?_eq_none c] at h; cases h
  rw [ndI]
  split
  · rw [setAll_at _ _ _ hi, h, Bool.true_or]
  · exact h
/-- The operands of a value that is needed are needed. -/
theorem ndI_closed {ins : List Int} {vs : List Vl} {outs : List Int} (hv : ∀ j, j < vs.length → okV ins vs j = true) : ∀ k, k ≤ vs.length → ∀ i, vs.length - k ≤ i → i < vs.length → (ndI vs outs k).getD i false = true → ∀ o ∈ opsOf (vs.getD i Vl.zero), (ndI vs outs k).getD o.toNat false = true
  | 0, _, i, h1, h2, _, _, _ => by omega
  | k + 1, hk, i, h1, h2, h3, o, ho => by
    have l1 := ndI_len vs outs k
    have hb := okV_ops (hv i h2) o ho
    by_cases c : vs.length - k ≤ i
    · refine ndI_mono (ndI_closed hv k (by omega) i c h2 ?_ o ho)
      rw [ndI] at h3
      split at h3
      · rw [setAll_at _ _ _ (by rw [l1]; exact h2), Bool.or_eq_true] at h3
        rcases h3 with h3 | h3
        · exact h3
        · exfalso
          rw [List.any_eq_true] at h3
          obtain ⟨q, q1, q2⟩ := h3
          have := okV_ops (hv _ (by omega)) q q1
          rw [beq_iff_eq] at q2
          omega
      · exact h3
    · have ei : i = vs.length - 1 - k := by omega
      rw [ndI] at h3 ⊢
      rw [← ei] at h3 ⊢
      by_cases d : (ndI vs outs k).getD i false = true
      · rw [if_pos d, setAll_at _ _ _ (by rw [l1]; omega), Bool.or_eq_true]
        right
        rw [List.any_eq_true]
        exact ⟨o, ho, by rw [beq_iff_eq]⟩
      · rw [if_neg d] at h3
        exact absurd h3 d
theorem ndI_outs {vs : List Vl} {outs : List Int} (ho : ∀ o ∈ outs, 0 ≤ o ∧ o < vs.length) : ∀ k, ∀ o ∈ outs, (ndI vs outs k).getD o.toNat false = true
  | 0, o, h => by
    have := ho o h
    rw [ndI, setAll_at _ _ _ (by simp; omega), Bool.or_eq_true]
    right
    rw [List.any_eq_true]
    exact ⟨o, h, by rw [beq_iff_eq]⟩
  | k + 1, o, h => ndI_mono (ndI_outs ho k o h)
/-- The values that are kept, and where each went. -/
def dkSt (F : List Bool) (vs : List Vl) : Nat → List Vl × List Int
  | 0 => ([], List.replicate vs.length 0)
  | i + 1 => if F.getD i false = true then ((dkSt F vs i).1 ++ [rnm ((dkSt F vs i).2.set i (dkSt F vs i).1.length) (vs.getD i Vl.zero)], (dkSt F vs i).2.set i (dkSt F vs i).1.length) else dkSt F vs i
def deadM (vs : List Vl) (outs : List Int) : List Vl × List Int := ((dkSt (ndI vs outs vs.length) vs vs.length).1, mapO (dkSt (ndI vs outs vs.length) vs vs.length).2 outs)
theorem ndI_cv (vs : List Vl) (outs : List Int) : ∀ k, ndI (vs.map cv) outs k = ndI vs outs k
  | 0 => by simp [ndI]
  | k + 1 => by
    rw [ndI, ndI, ndI_cv vs outs k, List.length_map, getD_cv]
    rfl
theorem dkSt_cv (F : List Bool) (vs : List Vl) : ∀ i, dkSt F (vs.map cv) i = ((dkSt F vs i).1.map cv, (dkSt F vs i).2)
  | 0 => by simp [dkSt]
  | i + 1 => by
    rw [dkSt, dkSt, dkSt_cv F vs i]
    simp only [List.length_map]
    split
    · rw [getD_cv, ← cv_rnm]
      simp
    · rfl
theorem deadM_lk {us vs : List Vl} {outs : List Int} (h : Lk us vs) : Lk (deadM us outs).1 (deadM vs outs).1 ∧ (deadM us outs).2 = (deadM vs outs).2 := by
  have e : ndI us outs us.length = ndI vs outs us.length := by rw [← ndI_cv us, ← ndI_cv vs, h]
  unfold deadM
  rw [← h.len, e]
  have a := dkSt_cv (ndI vs outs us.length) us us.length
  have b := dkSt_cv (ndI vs outs us.length) vs us.length
  rw [h] at a
  rw [a] at b
  exact ⟨congrArg Prod.fst b, by rw [congrArg Prod.snd b]⟩
structure DkI (ins : List Int) (F : List Bool) (vs : List Vl) (i : Nat) (S : List Vl × List Int) : Prop where
  l2 : S.2.length = vs.length
  l1 : S.1.length ≤ i
  to0 : ∀ j, j < i → F.getD j false = true → 0 ≤ S.2.getD j 0 ∧ S.2.getD j 0 < S.1.length
  tlen : ∀ j, j < i → F.getD j false = true → (S.1.getD (S.2.getD j 0).toNat Vl.zero).len = (vs.getD j Vl.zero).len
  ok : ∀ j, j < S.1.length → okV ins S.1 j = true
  cells : cellsV S.1 ≤ cellsV (vs.take i)
theorem set_atI (G : List Int) (j : Nat) (b : Int) (i : Nat) (hi : i < G.length) : (G.set j b).getD i 0 = if j = i then b else G.getD i 0 := by
  rw [List.getD_eq_getElem?_getD, List.getElem?_set, List.getD_eq_getElem?_getD]
  by_cases c : j = i
  · subst c; simp [hi]
  · simp [c]
theorem dkI_all {ins : List Int} {F : List Bool} {vs : List Vl} (hv : ∀ j, j < vs.length → okV ins vs j = true) (hF : ∀ i, i < vs.length → F.getD i false = true → ∀ o ∈ opsOf (vs.getD i Vl.zero), F.getD o.toNat false = true) : ∀ i, i ≤ vs.length → DkI ins F vs i (dkSt F vs i)
  | 0, _ => ⟨by simp [dkSt], Nat.le_refl _, by intro j hj; omega, by intro j hj; omega, by intro j hj; simp [dkSt] at hj, by simp [dkSt]⟩
  | i + 1, hi => by
    have D := dkI_all hv hF i (by omega)
    have hlen : 1 ≤ (vs.getD i Vl.zero).len := by
      have := okV_lenB (hv i (by omega))
      have := of_decide_eq_true this
      omega
    rw [dkSt]
    by_cases c : F.getD i false = true
    · rw [if_pos c]
      generalize hS : dkSt F vs i = S at *
      have tt : ∀ j, j < vs.length → (S.2.set i S.1.length).getD j 0 = if i = j then (S.1.length : Int) else S.2.getD j 0 := fun j hj => set_atI _ _ _ _ (by rw [D.l2]; exact hj)
      have okN : okV ins (S.1 ++ [rnm (S.2.set i S.1.length) (vs.getD i Vl.zero)]) S.1.length = true := by
        have el := getD_lastV S.1 (rnm (S.2.set i S.1.length) (vs.getD i Vl.zero))
        refine okV_of (hv i (by omega)) (fun o => (S.2.set i S.1.length).getD o.toNat 0) ?_ ?_ ?_ ?_ ?_ ?_ ?_
        · rw [el]; rfl
        · rw [el]; rfl
        · intro c; rw [el]; unfold rnm; simp only; rw [if_neg (by omega)]
        · intro c; rw [el]; unfold rnm; simp only; rw [if_neg (by omega)]
        · intro c; rw [el]; unfold rnm; simp only; rw [if_neg (by omega)]
        · rw [el]; exact opsOf_rnm _ _
        · intro o ho h0 h1
          have hFo := hF i (by omega) c o ho
          have t := D.to0 o.toNat (by omega) hFo
          rw [tt _ (by omega), if_neg (by omega)]
          refine ⟨t, ?_⟩
          rw [getD_fstV _ _ (by omega)]
          exact D.tlen o.toNat (by omega) hFo
      refine ⟨by simp [D.l2], by simp; have := D.l1; omega, ?_, ?_, ?_, ?_⟩
      · intro j hj hFj
        simp only
        rw [tt _ (by omega)]
        rw [List.length_append, List.length_singleton]
        by_cases e : i = j
        · rw [if_pos e]; omega
        · rw [if_neg e]
          have := D.to0 j (by omega) hFj
          omega
      · intro j hj hFj
        simp only
        rw [tt _ (by omega)]
        by_cases e : i = j
        · subst e
          rw [if_pos rfl, Int.toNat_natCast, getD_lastV]; rfl
        · rw [if_neg e]
          have := D.to0 j (by omega) hFj
          rw [getD_fstV _ _ (by omega)]
          exact D.tlen j (by omega) hFj
      · intro j hj
        simp only at hj ⊢
        rw [List.length_append, List.length_singleton] at hj
        by_cases e : j < S.1.length
        · exact okV_app e (D.ok j e)
        · have : j = S.1.length := by omega
          subst this
          exact okN
      · simp only
        rw [cellsV_append, cellsV_take (by omega)]
        have := D.cells
        have e : (rnm (S.2.set i S.1.length) (vs.getD i Vl.zero)).len = (vs.getD i Vl.zero).len := rfl
        omega
    · rw [if_neg c]
      refine ⟨D.l2, by have := D.l1; omega, ?_, ?_, D.ok, ?_⟩
      · intro j hj hFj
        by_cases e : j = i
        · subst e; exact absurd hFj c
        · exact D.to0 j (by omega) hFj
      · intro j hj hFj
        by_cases e : j = i
        · subst e; exact absurd hFj c
        · exact D.tlen j (by omega) hFj
      · rw [cellsV_take (by omega)]
        have := D.cells
        omega
theorem deadM_ok {ins : List Int} {vs : List Vl} {outs : List Int} (h : okG ins vs outs = true) : okG ins (deadM vs outs).1 (deadM vs outs).2 = true := by
  obtain ⟨h1, h2, h3, h4, h5⟩ := okG_parts h
  have D := dkI_all (F := ndI vs outs vs.length) h3 (fun i hi hF o ho => ndI_closed h3 vs.length (Nat.le_refl _) i (by omega) hi hF o ho) vs.length (Nat.le_refl _)
  have l1 := D.l1
  unfold deadM
  refine okG_make ⟨h1.1, by simp only; omega, by simp [mapO]; exact h1.2.2⟩ h2 D.ok ?_ ?_
  · intro o ho
    simp only [mapO, List.mem_map] at ho
    obtain ⟨q, hq, rfl⟩ := ho
    have hb := h4 q hq
    exact D.to0 q.toNat (by omega) (ndI_outs h4 _ q hq)
  · have := D.cells
    rw [List.take_of_length_le (Nat.le_refl _)] at this
    simp only
    omega
end Go.Proofs.YtcphabjekfihnabGreat
