import Derived.Test.YtpglbgejlpeckabP12
import Derived.Deep.AppendLies
import Derived.Deep.RegionLaw
namespace Go.Proofs.Ytpglbgejlpeckab
open Go.RowKit Flt
attribute [local go_sem] alloc_drewN setCell_drewN run_store_float

/-- Of the blocks that were there, only those in S may have turned. -/
structure Chg (S : Nat → Prop) (w w' : World) : Prop where
  os : w'.os = w.os
  tape : w'.tape = w.tape
  output : w'.output = w.output
  size : w.heap.size ≤ w'.heap.size
  block : ∀ k, k < w.heap.size → ¬ S k → w'.heap[k]? = w.heap[k]?
theorem Chg.cell {S : Nat → Prop} {w w' : World} (h : Chg S w w') {p : Addr} (hp : p.block < w.heap.size) (hn : ¬ S p.block) : w'.cell? p = w.cell? p := World.cell?_of_block (w := w) (h.block p.block hp hn)
theorem Chg.frozen {S : Nat → Prop} {w w' : World} (h : Chg S w w') {p : Addr} (hp : p.block < w.heap.size) (hn : ¬ S p.block) : w'.frozen? p = w.frozen? p := World.frozen?_of_block (w := w) (h.block p.block hp hn)
theorem Kept.chg {S : Nat → Prop} {w w' : World} (h : Kept 0 0 w w') : Chg S w w' := ⟨h.os, h.tape, h.output, h.size, fun k hk _ => h.block k hk (by omega)⟩
theorem Chg.kept {S : Nat → Prop} {w0 w w' : World} (k : Kept 0 0 w0 w) (h : Chg S w w') (hS : ∀ i, S i → w0.heap.size ≤ i) : Kept 0 0 w0 w' :=
  ⟨h.os.trans k.os, h.tape.trans k.tape, h.output.trans k.output, Nat.le_trans k.size h.size, fun i hi _ => (h.block i (Nat.lt_of_lt_of_le hi k.size) (fun c => by have := hS i c; omega)).trans (k.block i hi (by omega))⟩

/-- The cells of a list of values. -/
def flat : List Vl → List Value
  | [] => []
  | v :: r => v.cells ++ flat r
theorem flat_append (a b : List Vl) : flat (a ++ b) = flat a ++ flat b := by
  induction a with
  | nil => rfl
  | cons x r ih => simp [flat, ih]
theorem flat_one (v : Vl) : flat [v] = v.cells := by simp [flat]
theorem flat_len (a : List Vl) : (flat a).length = a.length * 6 := by
  induction a with
  | nil => rfl
  | cons x r ih => simp only [flat, List.length_append, ih, List.length_cons]; simp only [Vl.cells, List.length_cons, List.length_nil]; omega
theorem flat_at : ∀ (a : List Vl) (k j : Nat), k < a.length → j < 6 → (flat a)[k * 6 + j]? = (a.getD k Vl.zero).cells[j]?
  | [], k, j, hk, _ => by simp at hk
  | x :: r, 0, j, _, hj => by
    have : (x :: r).getD 0 Vl.zero = x := rfl
    rw [this, flat, List.getElem?_append_left (by simp only [Vl.cells, List.length_cons, List.length_nil]; omega), Nat.zero_mul, Nat.zero_add]
  | x :: r, k + 1, j, hk, hj => by
    have : (x :: r).getD (k + 1) Vl.zero = r.getD k Vl.zero := rfl
    rw [this, flat, List.getElem?_append_right (by simp only [Vl.cells, List.length_cons, List.length_nil]; omega)]
    have e : (k + 1) * 6 + j - x.cells.length = k * 6 + j := by simp only [Vl.cells, List.length_cons, List.length_nil]; omega
    rw [e]
    exact flat_at r k j (by simpa using hk) hj

/-- A row of values that the call owns, read. -/
theorem row_at {W : World} {base n : Nat} {v : Value} {vs : List Vl} (h : W.ownsRow base 34 6 v n (flat vs)) (hn : 0 < n) (hl : vs.length = n) :
    ∃ g cap, v = .slice (some ⟨g, 0, none⟩) n cap ∧ base ≤ g ∧ g < W.heap.size ∧ n ≤ cap ∧ VA W g n vs := by
  rcases h.2 with ⟨_, c⟩ | ⟨g, cap, cur, rfl, b1, b2, b3, _, b5, b6⟩
  · omega
  · have hg : g < W.heap.size := by
      rcases Nat.lt_or_ge g W.heap.size with c | c
      · exact c
      · rw [Array.getElem?_eq_none c] at b2; cases b2
    have key : ∀ k j, k < n → j < 6 → W.cell? ⟨g, k * 6 + j, none⟩ = (vs.getD k Vl.zero).cells[j]? := fun k j hk hj => by
      rw [cell_of_row W g _ cur _ _ b2, ← Array.getElem?_toList]
      have : (cur.toList.take (n * 6))[k * 6 + j]? = (flat vs)[k * 6 + j]? := by rw [b6]
      rw [List.getElem?_take_of_lt (by omega)] at this
      rw [this]
      exact flat_at vs k j (by omega) hj
    refine ⟨g, cap, rfl, b1, hg, b3, hl, hg, fun k hk => ?_, fun o => frozen_of_row W g o _ _ b2⟩
    exact ⟨key k 0 hk (by omega), key k 1 hk (by omega), key k 2 hk (by omega), key k 3 hk (by omega), key k 4 hk (by omega), key k 5 hk (by omega)⟩

/-- The builder at P: its graph's lists and its number of cells; R is the block of its values. -/
structure BS (w : World) (P : Nat) (u1 u3 : Value) (vs : List Vl) (c : Int) (base : Nat) (R : Option Nat) (vv : Value) : Prop where
  lt : P < w.heap.size
  free : ∀ o, w.frozen? ⟨P, o, none⟩ = false
  c0 : w.cell? ⟨P, 0, none⟩ = some u1
  c1 : w.cell? ⟨P, 1, none⟩ = some vv
  c2 : w.cell? ⟨P, 2, none⟩ = some u3
  c3 : w.cell? ⟨P, 3, none⟩ = some (.int .i64 c)
  own : w.ownsRow base 34 6 vv vs.length (flat vs)
  row : vv.ownBlock = R
  ne : R ≠ some P
  sz : base ≤ w.heap.size
/-- What a step leaves: Q's blocks and the row's block R may have turned, the row may have moved to a new block. -/
structure StQ (Q : Nat → Prop) (R : Option Nat) (w : World) (R' : Option Nat) (w' : World) : Prop where
  chg : Chg (fun i => Q i ∨ R = some i) w w'
  row : R' = R ∨ ∃ r, R' = some r ∧ w.heap.size ≤ r
theorem StQ.refl (Q : Nat → Prop) (R : Option Nat) (w : World) : StQ Q R w R w := ⟨⟨rfl, rfl, rfl, Nat.le_refl _, fun _ _ _ => rfl⟩, .inl rfl⟩
theorem StQ.trans {Q : Nat → Prop} {R R' R'' : Option Nat} {w w' w'' : World} (a : StQ Q R w R' w') (b : StQ Q R' w' R'' w'') : StQ Q R w R'' w'' where
  chg := ⟨b.chg.os.trans a.chg.os, b.chg.tape.trans a.chg.tape, b.chg.output.trans a.chg.output, Nat.le_trans a.chg.size b.chg.size, fun k hk hn => by
    rw [b.chg.block k (Nat.lt_of_lt_of_le hk a.chg.size) ?_]
    · exact a.chg.block k hk hn
    · rintro (c | c)
      · exact hn (.inl c)
      · rcases a.row with e | ⟨r, e, hr⟩
        · exact hn (.inr (by rw [← e]; exact c))
        · rw [e] at c
          cases c
          omega⟩
  row := by
    rcases b.row with e | ⟨r, e, hr⟩
    · rw [e]; exact a.row
    · exact .inr ⟨r, e, Nat.le_trans a.chg.size hr⟩
/-- A step of the builder at P. -/
abbrev Stp (P : Nat) (R : Option Nat) (w : World) (R' : Option Nat) (w' : World) : Prop := StQ (fun i => i = P) R w R' w'

theorem own_blkV {base e size n : Nat} {v : Value} {xs : List Value} {W : World} (h : W.ownsRow base e size v n xs) {k : Nat} (hk : v.ownBlock = some k) : base ≤ k ∧ k < W.heap.size := by
  rcases h.2 with ⟨rfl, _⟩ | ⟨g, cap, cur, rfl, b1, b2, _⟩
  · simp [Value.ownBlock] at hk
  · have e : g = k := by simpa [Value.ownBlock] using hk
    subst e
    refine ⟨b1, ?_⟩
    rcases Nat.lt_or_ge g W.heap.size with c | c
    · exact c
    · rw [Array.getElem?_eq_none c] at b2; cases b2

theorem vbox_atJ (w : World) (v : Vl) : At (w.alloc (vbox v.op v.len v.a v.b v.c v.k)) w.heap.size 0 v := by
  refine ⟨?_, ?_, ?_, ?_, ?_, ?_⟩
  all_goals first | (go_simp; done) | (simp; done)
theorem own_drewA {base e size n : Nat} {v : Value} {xs : List Value} {W : World} (h : W.ownsRow base e size v n xs) (m : Nat) (o : Obj) : ((W.alloc o).drewN m).ownsRow base e size v n xs := h.alloc o
theorem heap_new (w : World) (o : Obj) : (w.alloc o).heap[w.heap.size]? = some o := by
  unfold World.alloc
  simp
theorem news6 (w : World) (v : Vl) (m : Nat) : ∀ j u, v.cells[j]? = some u → ((w.alloc (.cells #[.int .i64 v.op, .int .i64 v.len, .int .i64 v.a, .int .i64 v.b, .int .i64 v.c, .float .f64 v.k] 34)).drewN m).cell? ((⟨w.heap.size, 0, none⟩ : Addr).add j) = some u := fun j u hu =>
  World.news_of_block (w := w.alloc (.cells #[.int .i64 v.op, .int .i64 v.len, .int .i64 v.a, .int .i64 v.b, .int .i64 v.c, .float .f64 v.k] 34)) (t := 34) (fr := (0, 0)) (cs := #[.int .i64 v.op, .int .i64 v.len, .int .i64 v.a, .int .i64 v.b, .int .i64 v.c, .float .f64 v.k]) (heap_new _ _) j u hu
theorem far1 {w1 w9 : World} {o : Obj} {m : Nat} {row : Option Nat} (hg : ((w1.alloc o).drewN m).grownBy w9 row) {b off : Nat} {u : Value} (hb : b < w1.heap.size) (hr : row ≠ some b) (hc : w1.cell? ⟨b, off, none⟩ = some u) : w9.cell? ⟨b, off, none⟩ = some u := by
  have hb' : b < ((w1.alloc o).drewN m).heap.size := by show b < (w1.alloc o).heap.size; simp; omega
  rw [hg.cell_far ⟨b, off, none⟩ hb' (fun c => hr c.symm)]
  exact kcell (kept_alloc 0 0 w1 o) hb hc
theorem far2 {w1 w9 : World} {o : Obj} {m : Nat} {row : Option Nat} (hg : ((w1.alloc o).drewN m).grownBy w9 row) {b off : Nat} (hb : b < w1.heap.size) (hr : row ≠ some b) (hc : w1.frozen? ⟨b, off, none⟩ = false) : w9.frozen? ⟨b, off, none⟩ = false := by
  have hb' : b < ((w1.alloc o).drewN m).heap.size := by show b < (w1.alloc o).heap.size; simp; omega
  rw [hg.frozen_far ⟨b, off, none⟩ hb' (fun c => hr c.symm)]
  show (w1.alloc o).frozen? _ = _
  rw [(kept_alloc 0 0 w1 o).frozen (p := ⟨b, off, none⟩) hb (by omega)]
  exact hc
theorem own_setCell {base e size n P o : Nat} {v u : Value} {xs : List Value} {W : World} (h : W.ownsRow base e size v n xs) (hP : v.ownBlock ≠ some P) : (W.setCell ⟨P, o, none⟩ u).ownsRow base e size v n xs := by
  refine ⟨h.1, h.2.imp id ?_⟩
  rintro ⟨g, cap, cur, e1, b1, b2, b3⟩
  refine ⟨g, cap, cur, e1, b1, ?_, b3⟩
  rw [Below.heap_setCell W ⟨P, o, none⟩ u g (fun c => hP (by rw [e1, c]; rfl))]
  exact b2
/-- Behind the append and the two stores. -/
theorem BS.next {w w9 : World} {P : Nat} {u1 u3 : Value} {vs : List Vl} {c : Int} {base : Nat} {R : Option Nat} {vv : Value} {v : Vl} {o o2 : Obj} {m g9 cap9 : Nat} (h : BS w P u1 u3 vs c base R vv)
    (hown9 : w9.ownsRow base 34 6 (.slice (some ⟨g9, 0, none⟩) (vs.length + 1) cap9) (vs.length + 1) (flat vs ++ v.cells)) (hg9 : (((w.alloc o).alloc o2).drewN m).grownBy w9 vv.ownBlock) (hat : vv.ownBlock = some g9 ∨ g9 = (w.alloc o).heap.size + 1) (c' : Int) (hc' : c' = c + v.len) :
    ∃ R' vv', BS ((w9.setCell ⟨P, 1, none⟩ (.slice (some ⟨g9, 0, none⟩) (vs.length + 1) cap9)).setCell ⟨P, 3, none⟩ (.int .i64 c')) P u1 u3 (vs ++ [v]) (c + v.len) base R' vv' ∧ Stp P R w R' ((w9.setCell ⟨P, 1, none⟩ (.slice (some ⟨g9, 0, none⟩) (vs.length + 1) cap9)).setCell ⟨P, 3, none⟩ (.int .i64 c')) := by
  subst hc'
  have hlt := h.lt
  have hs : (w.alloc o).heap.size = w.heap.size + 1 := by simp
  have k1 := kept_alloc 0 0 w o
  have hP1 : P < (w.alloc o).heap.size := by omega
  have hRP : vv.ownBlock ≠ some P := by rw [h.row]; exact h.ne
  have gP : g9 ≠ P := by
    rcases hat with e | e
    · intro c; rw [c] at e; exact hRP e
    · omega
  have q0 := far1 hg9 hP1 hRP (kcell k1 hlt h.c0)
  have q1 := far1 hg9 hP1 hRP (kcell k1 hlt h.c1)
  have q2 := far1 hg9 hP1 hRP (kcell k1 hlt h.c2)
  have q3 := far1 hg9 hP1 hRP (kcell k1 hlt h.c3)
  have hsz9 : w.heap.size + 2 ≤ w9.heap.size := by
    have := hg9.size
    have e : (((w.alloc o).alloc o2).drewN m).heap.size = w.heap.size + 2 := by show ((w.alloc o).alloc o2).heap.size = _; simp
    omega
  refine ⟨some g9, .slice (some ⟨g9, 0, none⟩) (vs.length + 1) cap9, ?_, ?_, ?_⟩
  · refine ⟨by simp; omega, fun b => ?_, ?_, ?_, ?_, ?_, ?_, rfl, fun e => gP (by cases e; rfl), by simp; have := h.sz; omega⟩
    · have hf := far2 (off := b) hg9 hP1 hRP (by rw [k1.frozen (p := ⟨P, b, none⟩) hlt (by omega)]; exact h.free b)
      simp [hf]
    · rw [cell_ne _ _ _ _ _ _ (.inr (by omega)), cell_ne _ _ _ _ _ _ (.inr (by omega))]; exact q0
    · rw [cell_ne _ _ _ _ _ _ (.inr (by omega))]; exact cell_eq _ _ _ _ _ q1
    · rw [cell_ne _ _ _ _ _ _ (.inr (by omega)), cell_ne _ _ _ _ _ _ (.inr (by omega))]; exact q2
    · exact cell_eq _ _ _ _ _ (by rw [cell_ne _ _ _ _ _ _ (.inr (by omega))]; exact q3)
    · rw [List.length_append, List.length_singleton, flat_append, flat_one]
      have nP : (Value.slice (some ⟨g9, 0, none⟩) (vs.length + 1) cap9).ownBlock ≠ some P := fun e => gP (by simpa [Value.ownBlock] using e)
      exact own_setCell (own_setCell hown9 nP) nP
  · refine ⟨hg9.os, hg9.tape, hg9.output, by simp; omega, fun k hk hn => ?_⟩
    have hkP : k ≠ P := fun e => hn (.inl e)
    have hkR : some k ≠ vv.ownBlock := fun e => hn (.inr (by rw [← h.row]; exact e.symm))
    rw [Below.heap_setCell _ ⟨P, 3, none⟩ _ k hkP, Below.heap_setCell _ ⟨P, 1, none⟩ _ k hkP, hg9.block k (by show k < ((w.alloc o).alloc o2).heap.size; simp; omega) hkR]
    show ((w.alloc o).alloc o2).heap[k]? = _
    rw [Below.heap_alloc _ _ k (by omega), Below.heap_alloc _ _ k hk]
  · rcases hat with e | e
    · exact .inl (by rw [← e]; exact h.row)
    · exact .inr ⟨g9, rfl, by omega⟩
theorem one6 (v : Vl) : ∀ u ∈ v.cells, u.oneCell' = true := fun u hu => by
  simp only [Vl.cells, List.mem_cons, List.not_mem_nil, or_false] at hu
  rcases hu with rfl | rfl | rfl | rfl | rfl | rfl <;> rfl

set_option maxRecDepth 100000 in
set_option maxHeartbeats 2000000 in
theorem putVal (w : World) (P : Nat) (u1 u3 : Value) (vs : List Vl) (c : Int) (base : Nat) (R : Option Nat) (vv : Value) (v : Vl) (h : BS w P u1 u3 vs c base R vv) (hn : vs.length ≤ 1000000) (hc0 : -1000000000 ≤ c) (hc1 : c ≤ 1000000000) (hl0 : -1000000000 ≤ v.len) (hl1 : v.len ≤ 1000000000) :
    Calls Try.prog 157 #[.pointer (some ⟨P, 0, none⟩), v.agg] w fun e w' => e = .returned (.int .i64 (vs.length : Nat)) ∧ (∃ R' vv', BS w' P u1 u3 (vs ++ [v]) (c + v.len) base R' vv' ∧ Stp P R w R' w') := by
  obtain ⟨i0, hi, hz0, hz1, hz2⟩ := info_parts infoV
  have HB : Hid _ := h
  have k1 := kept_alloc 0 0 w (vbox v.op v.len v.a v.b v.c v.k)
  have c1 := kcell k1 h.lt h.c1
  have hown := h.own.alloc (vbox v.op v.len v.a v.b v.c v.k)
  have hz := h.sz
  have c3 := kcell k1 h.lt h.c3
  have fz3 := h.free 3
  rw [← k1.frozen (p := ⟨P, 3, none⟩) h.lt (by omega)] at fz3
  have fz := h.free 1
  rw [← k1.frozen (p := ⟨P, 1, none⟩) h.lt (by omega)] at fz
  have hlt := h.lt
  have hv := vbox_atJ w v
  have HV : Hid _ := hv
  obtain ⟨v0, v1, v2, v3, v4, v5⟩ := hv
  have hsz : (w.alloc (vbox v.op v.len v.a v.b v.c v.k)).heap.size = w.heap.size + 1 := by simp
  have HR : Hid (vv.ownBlock ≠ some P ∧ vv.ownBlock ≠ some w.heap.size) := ⟨by rw [h.row]; exact h.ne, fun e => by have := (own_blkV h.own e).2; omega⟩
  have hwr : IntKind.i64.wrap (c + v.len) = c + v.len := by rw [IntKind.wrap_i64]; omega
  clear h k1
  go_enter Try.func157, Try.ntmps157
  go_wp2_with fail
  generalize hw1 : w.alloc (vbox v.op v.len v.a v.b v.c v.k) = w1 at c1 hown v0 v1 v2 v3 v4 v5 HV hsz fz fz3 c3 ⊢
  have HSZ : Hid _ := hsz
  have hb1 : base ≤ w1.heap.size := by omega
  have hP1 : P < w1.heap.size := by omega
  have hV1 : w.heap.size < w1.heap.size := by omega
  clear hsz
  go_region_law
    ((refine step_append_lies _ rfl (.tmp 10) (.tmp 12) 46 rfl base 34 i0 (vagg 0 0 0 0 0 0) 6 48 Try.underlying46 hi hz0 hz1 hz2 rfl (by decide) _ _ (flat vs) (by simp [Act.eval]) (own_drewA hown 1 _) ⟨w1.heap.size, 0, none⟩ 1 1 v.cells (by simp [Act.eval]) rfl (news6 _ _ _) (one6 v) (by decide) (by unfold maxLen; omega) (by omega) (by simp; omega) _ rfl ?_; intro g9 cap9 w9 hown9 hg9 hat9 hlt9; have s0 := far1 hg9 hP1 HR.out.1 c1; have f0 := far2 hg9 hP1 HR.out.1 fz; have s1 := far1 hg9 hV1 HR.out.2 v0; have s2 := far1 hg9 hV1 HR.out.2 v1; have s3 := far1 hg9 hV1 HR.out.2 v2; have s4 := far1 hg9 hV1 HR.out.2 v3; have s5 := far1 hg9 hV1 HR.out.2 v4; have s6 := far1 hg9 hV1 HR.out.2 v5))
  all_goals
    have n3 := far1 hg9 hP1 HR.out.1 c3
    have f3 := far2 hg9 hP1 HR.out.1 fz3
    rw [← hw1] at hg9 hat9
    have hat' : vv.ownBlock = some g9 ∨ g9 = (w.alloc (vbox v.op v.len v.a v.b v.c v.k)).heap.size + 1 := hat9.imp id (fun e => by rw [e]; show ((w.alloc _).alloc _).heap.size = _; simp)
    have R0 : Hid _ := BS.next (v := v) HB.out hown9 hg9 hat' (c + v.len) rfl
    have m3 : (w9.setCell ⟨P, 1, none⟩ (.slice (some ⟨g9, 0, none⟩) (vs.length + 1) cap9)).cell? ⟨P, 3, none⟩ = some (.int .i64 c) := by rw [cell_ne _ _ _ _ _ _ (.inr (by omega))]; exact n3
    have m1 : (w9.setCell ⟨P, 1, none⟩ (.slice (some ⟨g9, 0, none⟩) (vs.length + 1) cap9)).cell? ⟨P, 1, none⟩ = some (.slice (some ⟨g9, 0, none⟩) (vs.length + 1) cap9) := cell_eq _ _ _ _ _ s0
    have mv : (w9.setCell ⟨P, 1, none⟩ (.slice (some ⟨g9, 0, none⟩) (vs.length + 1) cap9)).cell? ⟨w.heap.size, 1, none⟩ = some (.int .i64 v.len) := by rw [cell_ne _ _ _ _ _ _ (.inl (by omega))]; exact s2
    have mf : (w9.setCell ⟨P, 1, none⟩ (.slice (some ⟨g9, 0, none⟩) (vs.length + 1) cap9)).frozen? ⟨P, 3, none⟩ = false := by simp [f3]
    clear hown9 hg9 hat9 hat' hown HB HV hw1 s0 s1 s2 s3 s4 s5 s6 v0 v1 v2 v3 v4 v5 n3 f3 f0 fz fz3 c1 c3
    generalize w9.setCell ⟨P, 1, none⟩ (.slice (some ⟨g9, 0, none⟩) (vs.length + 1) cap9) = w10 at m3 m1 mv mf R0
    go_wp2_with fail
    go_region_law (fail)
    all_goals
      have m1' : (w10.setCell ⟨P, 3, none⟩ (.int .i64 (c + v.len))).cell? ⟨P, 1, none⟩ = some (.slice (some ⟨g9, 0, none⟩) (vs.length + 1) cap9) := by rw [cell_ne _ _ _ _ _ _ (.inr (by omega))]; exact m1
      generalize w10.setCell ⟨P, 3, none⟩ (.int .i64 (c + v.len)) = w11 at m1' R0
      clear m1 m3 mv mf
      go_wp2
      go_ret
      obtain ⟨R', vv', r1, r2⟩ := R0.out
      exact ⟨by simp, R', vv', ⟨r1.lt, r1.free, r1.c0, r1.c1, r1.c2, r1.c3, r1.own, r1.row, r1.ne, r1.sz⟩, ⟨⟨r2.chg.os, r2.chg.tape, r2.chg.output, r2.chg.size, r2.chg.block⟩, r2.row⟩⟩
end Go.Proofs.Ytpglbgejlpeckab

namespace Go.Proofs.Ytpglbgejlpeckab
open Go.RowKit Flt
attribute [local go_sem] alloc_drewN setCell_drewN run_store_float

theorem cellsV_app (a b : List Vl) : cellsV (a ++ b) = cellsV a + cellsV b := by
  induction a with
  | nil => simp [cellsV]
  | cons y ys ih => simp [cellsV, ih]; omega

/-- The builder has put M.1 behind, and answers M.2. -/
def Bd (w : World) (P : Nat) (u1 u3 : Value) (vs : List Vl) (c : Int) (base : Nat) (R : Option Nat) (M : List Vl × Int) (e : Ending) (w' : World) : Prop :=
  e = .returned (.int .i64 M.2) ∧ ∃ R' vv', BS w' P u1 u3 (vs ++ M.1) (c + cellsV M.1) base R' vv' ∧ Stp P R w R' w'
/-- Bounds under which nothing overflows. -/
structure Bnd (vs : List Vl) (c : Int) (n : Int) : Prop where
  l : vs.length ≤ 900000
  c0 : -900000000 ≤ c
  c1 : c ≤ 900000000
  n0 : -1000 ≤ n
  n1 : n ≤ 1000

abbrev vput (op n p q r : Int) : Vl := ⟨op, n, p, q, r, 0⟩
theorem putVal_bd (w : World) (P : Nat) (u1 u3 : Value) (vs : List Vl) (c : Int) (base : Nat) (R : Option Nat) (vv : Value) (v : Vl) (h : BS w P u1 u3 vs c base R vv) (hn : vs.length ≤ 1000000) (hc0 : -1000000000 ≤ c) (hc1 : c ≤ 1000000000) (hl0 : -1000000000 ≤ v.len) (hl1 : v.len ≤ 1000000000) :
    Calls Try.prog 157 #[.pointer (some ⟨P, 0, none⟩), v.agg] w fun e w' => Bd w P u1 u3 vs c base R ([v], (vs.length : Nat)) e w' :=
  (putVal w P u1 u3 vs c base R vv v h hn hc0 hc1 hl0 hl1).mono fun e w' ⟨h1, R', vv', h2, h3⟩ => ⟨h1, R', vv', by simpa [cellsV] using h2, h3⟩

set_option maxRecDepth 100000 in
set_option maxHeartbeats 2000000 in
theorem put_bd (w : World) (P : Nat) (u1 u3 : Value) (vs : List Vl) (c : Int) (base : Nat) (R : Option Nat) (vv : Value) (op n p q r : Int) (h : BS w P u1 u3 vs c base R vv) (hn : vs.length ≤ 1000000) (hc0 : -1000000000 ≤ c) (hc1 : c ≤ 1000000000) (hl0 : -1000000000 ≤ n) (hl1 : n ≤ 1000000000) :
    Calls Try.prog 149 #[.pointer (some ⟨P, 0, none⟩), .int .i64 op, .int .i64 n, .int .i64 p, .int .i64 q, .int .i64 r] w fun e w' => Bd w P u1 u3 vs c base R ([vput op n p q r], (vs.length : Nat)) e w' := by
  have HX : Hid _ := putVal_bd w P u1 u3 vs c base R vv (vput op n p q r) h hn hc0 hc1 hl0 hl1
  clear h hn hc0 hc1 hl0 hl1
  go_enter Try.func149, Try.ntmps149
  go_wp2_with fail
  refine Calls.mono HX.out ?_
  rintro e w' ⟨rfl, hR⟩
  have R : Hid _ := hR
  clear hR
  go_wp2
  go_ret
  exact ⟨rfl, R.out⟩
set_option maxRecDepth 100000 in
set_option maxHeartbeats 2000000 in
theorem putConst_bd (w : World) (P : Nat) (u1 u3 : Value) (vs : List Vl) (c : Int) (base : Nat) (R : Option Nat) (vv : Value) (n : Int) (K : Nat) (h : BS w P u1 u3 vs c base R vv) (hn : vs.length ≤ 1000000) (hc0 : -1000000000 ≤ c) (hc1 : c ≤ 1000000000) (hl0 : -1000000000 ≤ n) (hl1 : n ≤ 1000000000) :
    Calls Try.prog 142 #[.pointer (some ⟨P, 0, none⟩), .int .i64 n, .float .f64 K] w fun e w' => Bd w P u1 u3 vs c base R ([⟨1, n, 0, 0, 0, K⟩], (vs.length : Nat)) e w' := by
  have HX : Hid _ := putVal_bd w P u1 u3 vs c base R vv ⟨1, n, 0, 0, 0, K⟩ h hn hc0 hc1 hl0 hl1
  clear h hn hc0 hc1 hl0 hl1
  go_enter Try.func142, Try.ntmps142
  go_wp2_with fail
  refine Calls.mono HX.out ?_
  rintro e w' ⟨rfl, hR⟩
  have R : Hid _ := hR
  clear hR
  go_wp2
  go_ret
  exact ⟨rfl, R.out⟩
set_option maxRecDepth 100000 in
set_option maxHeartbeats 2000000 in
theorem putZeros_bd (w : World) (P : Nat) (u1 u3 : Value) (vs : List Vl) (c : Int) (base : Nat) (R : Option Nat) (vv : Value) (n : Int) (h : BS w P u1 u3 vs c base R vv) (hn : vs.length ≤ 1000000) (hc0 : -1000000000 ≤ c) (hc1 : c ≤ 1000000000) (hl0 : -1000000000 ≤ n) (hl1 : n ≤ 1000000000) :
    Calls Try.prog 134 #[.pointer (some ⟨P, 0, none⟩), .int .i64 n] w fun e w' => Bd w P u1 u3 vs c base R ([vput 1 n 0 0 0], (vs.length : Nat)) e w' := by
  have HX : Hid _ := putConst_bd w P u1 u3 vs c base R vv n 0 h hn hc0 hc1 hl0 hl1
  clear h hn hc0 hc1 hl0 hl1
  go_enter Try.func134, Try.ntmps134
  go_wp2_with fail
  refine Calls.mono HX.out ?_
  rintro e w' ⟨rfl, hR⟩
  have R : Hid _ := hR
  clear hR
  go_wp2
  go_ret
  exact ⟨rfl, R.out⟩
end Go.Proofs.Ytpglbgejlpeckab

namespace Go.Proofs.Ytpglbgejlpeckab
open Go.RowKit Flt
attribute [local go_sem] alloc_drewN setCell_drewN run_store_float

theorem Bd.none {w : World} {P : Nat} {u1 u3 : Value} {vs : List Vl} {c : Int} {base : Nat} {R : Option Nat} {vv : Value} (h : BS w P u1 u3 vs c base R vv) (r : Int) : Bd w P u1 u3 vs c base R ([], r) (.returned (.int .i64 r)) w :=
  ⟨rfl, R, vv, by simpa [cellsV] using h, StQ.refl _ _ _⟩
theorem Bd.after {w w' w'' : World} {P : Nat} {u1 u3 : Value} {vs a : List Vl} {c : Int} {base : Nat} {R R' : Option Nat} {M : List Vl × Int} {e : Ending} (hs : Stp P R w R' w') (h : Bd w' P u1 u3 (vs ++ a) (c + cellsV a) base R' M e w'') : Bd w P u1 u3 vs c base R (a ++ M.1, M.2) e w'' := by
  obtain ⟨h1, R'', vv'', h2, h3⟩ := h
  refine ⟨h1, R'', vv'', ?_, hs.trans h3⟩
  have e2 : c + cellsV (a ++ M.1) = c + cellsV a + cellsV M.1 := by rw [cellsV_app]; omega
  show BS w'' P u1 u3 (vs ++ (a ++ M.1)) (c + cellsV (a ++ M.1)) base R'' vv''
  rw [e2, ← List.append_assoc]
  exact h2
theorem Bd.kept {w w' w'' : World} {P : Nat} {u1 u3 : Value} {vs : List Vl} {c : Int} {base : Nat} {R : Option Nat} {M : List Vl × Int} {e : Ending} (k : Kept 0 0 w w') (h : Bd w' P u1 u3 vs c base R M e w'') : Bd w P u1 u3 vs c base R M e w'' := by
  obtain ⟨h1, R'', vv'', h2, h3⟩ := h
  exact ⟨h1, R'', vv'', h2, StQ.trans ⟨k.chg, .inl rfl⟩ h3⟩

def sumM (n p q : Int) (N : Nat) : List Vl × Int := if p = -1 then ([], q) else if q = -1 then ([], p) else ([vput 2 n p q 0], N)
def difM (n p q : Int) (N : Nat) : List Vl × Int := if q = -1 then ([], p) else if p = -1 then ([vput 6 n q 0 0], N) else ([vput 3 n p q 0], N)
def chM (n d p q : Int) (N : Nat) : List Vl × Int :=
  if p = -1 then (if q = -1 then ([vput 1 n 0 0 0, vput 1 n 0 0 0, vput 8 n d N ((N + 1 : Nat) : Int)], ((N + 2 : Nat) : Int)) else ([vput 1 n 0 0 0, vput 8 n d N q], ((N + 1 : Nat) : Int)))
  else (if q = -1 then ([vput 1 n 0 0 0, vput 8 n d p N], ((N + 1 : Nat) : Int)) else ([vput 8 n d p q], (N : Int)))

set_option maxRecDepth 100000 in
set_option maxHeartbeats 2000000 in
theorem putSum (w : World) (P : Nat) (u1 u3 : Value) (vs : List Vl) (c : Int) (base : Nat) (R : Option Nat) (vv : Value) (n p q : Int) (h : BS w P u1 u3 vs c base R vv) (b : Bnd vs c n) :
    Calls Try.prog 145 #[.pointer (some ⟨P, 0, none⟩), .int .i64 n, .int .i64 p, .int .i64 q] w fun e w' => Bd w P u1 u3 vs c base R (sumM n p q vs.length) e w' := by
  have HX : Hid _ := put_bd w P u1 u3 vs c base R vv 2 n p q 0 h (by have := b.l; omega) (by have := b.c0; omega) (by have := b.c1; omega) (by have := b.n0; omega) (by have := b.n1; omega)
  have HB : Hid _ := h
  clear h b
  unfold sumM
  by_cases hp : p = -1
  · subst hp
    rw [if_pos rfl]
    have R0 : Hid (∃ R' vv', BS w P u1 u3 (vs ++ []) (c + cellsV []) base R' vv' ∧ Stp P R w R' w) := (Bd.none HB.out q).2
    clear HX HB
    go_enter Try.func145, Try.ntmps145
    go_wp2
    go_ret
    exact ⟨rfl, R0.out⟩
  · rw [if_neg hp]
    have tp : (p == -1) = false := beq_eq_false_iff_ne.2 hp
    by_cases hq : q = -1
    · subst hq
      rw [if_pos rfl]
      have R0 : Hid (∃ R' vv', BS w P u1 u3 (vs ++ []) (c + cellsV []) base R' vv' ∧ Stp P R w R' w) := (Bd.none HB.out p).2
      clear HX HB hp
      go_enter Try.func145, Try.ntmps145
      go_wp2
      go_ret
      exact ⟨rfl, R0.out⟩
    · rw [if_neg hq]
      have tq : (q == -1) = false := beq_eq_false_iff_ne.2 hq
      clear hp hq
      go_enter Try.func145, Try.ntmps145
      go_wp2_with fail
      refine Calls.mono HX.out ?_
      rintro e w' ⟨rfl, hR⟩
      have R : Hid _ := hR
      clear hR
      go_wp2
      go_ret
      exact ⟨rfl, R.out⟩

set_option maxRecDepth 100000 in
set_option maxHeartbeats 2000000 in
theorem putDif (w : World) (P : Nat) (u1 u3 : Value) (vs : List Vl) (c : Int) (base : Nat) (R : Option Nat) (vv : Value) (n p q : Int) (h : BS w P u1 u3 vs c base R vv) (b : Bnd vs c n) :
    Calls Try.prog 146 #[.pointer (some ⟨P, 0, none⟩), .int .i64 n, .int .i64 p, .int .i64 q] w fun e w' => Bd w P u1 u3 vs c base R (difM n p q vs.length) e w' := by
  have HX : Hid (∀ op x y z, _) := fun op x y z => put_bd w P u1 u3 vs c base R vv op n x y z h (by have := b.l; omega) (by have := b.c0; omega) (by have := b.c1; omega) (by have := b.n0; omega) (by have := b.n1; omega)
  have HB : Hid _ := h
  clear h b
  unfold difM
  by_cases hq : q = -1
  · subst hq
    rw [if_pos rfl]
    have R0 : Hid (∃ R' vv', BS w P u1 u3 (vs ++ []) (c + cellsV []) base R' vv' ∧ Stp P R w R' w) := (Bd.none HB.out p).2
    clear HX HB
    go_enter Try.func146, Try.ntmps146
    go_wp2
    go_ret
    exact ⟨rfl, R0.out⟩
  · rw [if_neg hq]
    have tq : (q == -1) = false := beq_eq_false_iff_ne.2 hq
    by_cases hp : p = -1
    · subst hp
      rw [if_pos rfl]
      clear hq
      go_enter Try.func146, Try.ntmps146
      go_wp2_with fail
      refine Calls.mono (HX.out 6 q 0 0) ?_
      rintro e w' ⟨rfl, hR⟩
      have R : Hid _ := hR
      clear hR
      go_wp2
      go_ret
      exact ⟨rfl, R.out⟩
    · rw [if_neg hp]
      have tp : (p == -1) = false := beq_eq_false_iff_ne.2 hp
      clear hp hq
      go_enter Try.func146, Try.ntmps146
      go_wp2_with fail
      refine Calls.mono (HX.out 3 p q 0) ?_
      rintro e w' ⟨rfl, hR⟩
      have R : Hid _ := hR
      clear hR
      go_wp2
      go_ret
      exact ⟨rfl, R.out⟩

/-- put and putZeros behind a step of the builder. -/
theorem put_next {w w1 : World} {P : Nat} {u1 u3 : Value} {vs a : List Vl} {c : Int} {base : Nat} {R R1 : Option Nat} {vv : Value} (h : BS w1 P u1 u3 (vs ++ a) (c + cellsV a) base R1 vv) (s : Stp P R w R1 w1) (hl : vs.length + a.length ≤ 1000000) (h0 : -1000000000 ≤ c + cellsV a) (h1 : c + cellsV a ≤ 1000000000) (op n p q r : Int) (hn0 : -1000 ≤ n) (hn1 : n ≤ 1000) :
    Calls Try.prog 149 #[.pointer (some ⟨P, 0, none⟩), .int .i64 op, .int .i64 n, .int .i64 p, .int .i64 q, .int .i64 r] w1 fun e w' => Bd w P u1 u3 vs c base R (a ++ [vput op n p q r], ((vs.length + a.length : Nat) : Int)) e w' :=
  (put_bd w1 P u1 u3 (vs ++ a) (c + cellsV a) base R1 vv op n p q r h (by rw [List.length_append]; exact hl) h0 h1 (by omega) (by omega)).mono fun e w' hb => by
    rw [List.length_append] at hb
    exact Bd.after s hb
theorem zeros_next {w w1 : World} {P : Nat} {u1 u3 : Value} {vs a : List Vl} {c : Int} {base : Nat} {R R1 : Option Nat} {vv : Value} (h : BS w1 P u1 u3 (vs ++ a) (c + cellsV a) base R1 vv) (s : Stp P R w R1 w1) (hl : vs.length + a.length ≤ 1000000) (h0 : -1000000000 ≤ c + cellsV a) (h1 : c + cellsV a ≤ 1000000000) (n : Int) (hn0 : -1000 ≤ n) (hn1 : n ≤ 1000) :
    Calls Try.prog 134 #[.pointer (some ⟨P, 0, none⟩), .int .i64 n] w1 fun e w' => Bd w P u1 u3 vs c base R (a ++ [vput 1 n 0 0 0], ((vs.length + a.length : Nat) : Int)) e w' :=
  (putZeros_bd w1 P u1 u3 (vs ++ a) (c + cellsV a) base R1 vv n h (by rw [List.length_append]; exact hl) h0 h1 (by omega) (by omega)).mono fun e w' hb => by
    rw [List.length_append] at hb
    exact Bd.after s hb

set_option maxRecDepth 100000 in
set_option maxHeartbeats 4000000 in
theorem putChoice (w : World) (P : Nat) (u1 u3 : Value) (vs : List Vl) (c : Int) (base : Nat) (R : Option Nat) (vv : Value) (n d p q : Int) (h : BS w P u1 u3 vs c base R vv) (b : Bnd vs c n) :
    Calls Try.prog 150 #[.pointer (some ⟨P, 0, none⟩), .int .i64 n, .int .i64 d, .int .i64 p, .int .i64 q] w fun e w' => Bd w P u1 u3 vs c base R (chM n d p q vs.length) e w' := by
  have HX : Hid (∀ {w1 : World} {a : List Vl} {R1 : Option Nat} {vv : Value}, BS w1 P u1 u3 (vs ++ a) (c + cellsV a) base R1 vv → Stp P R w R1 w1 → a.length ≤ 10 → -100000 ≤ cellsV a → cellsV a ≤ 100000 → ∀ op p q r, _) := fun h s l0 l1 l2 op p q r => put_next h s (by have := b.l; omega) (by have := b.c0; omega) (by have := b.c1; omega) op n p q r b.n0 b.n1
  have HY : Hid (∀ {w1 : World} {a : List Vl} {R1 : Option Nat} {vv : Value}, BS w1 P u1 u3 (vs ++ a) (c + cellsV a) base R1 vv → Stp P R w R1 w1 → a.length ≤ 10 → -100000 ≤ cellsV a → cellsV a ≤ 100000 → _) := fun h s l0 l1 l2 => zeros_next h s (by have := b.l; omega) (by have := b.c0; omega) (by have := b.c1; omega) n b.n0 b.n1
  have HB : Hid (BS w P u1 u3 (vs ++ []) (c + cellsV []) base R vv) := by show BS _ _ _ _ _ _ _ _ _; simpa [cellsV] using h
  have HN : Hid (-1000 ≤ n ∧ n ≤ 1000) := ⟨b.n0, b.n1⟩
  clear h b
  unfold chM
  by_cases hp : p = -1
  · subst hp
    rw [if_pos rfl]
    by_cases hq : q = -1
    · subst hq
      rw [if_pos rfl]
      go_enter Try.func150, Try.ntmps150
      go_wp2_with fail
      refine Calls.mono (HY.out HB.out (StQ.refl _ _ _) (by simp) (by simp [cellsV]) (by simp [cellsV])) ?_
      rintro e w1 ⟨rfl, R1, vv1, h1, s1⟩
      have H1 : Hid _ := h1
      have S1 : Hid _ := s1
      clear h1 s1
      go_wp2_with fail
      refine Calls.mono (HY.out H1.out S1.out (by simp) (by simp [cellsV]; have := HN.out; omega) (by simp [cellsV]; have := HN.out; omega)) ?_
      rintro e w2 ⟨rfl, R2, vv2, h2, s2⟩
      have H2 : Hid _ := h2
      have S2 : Hid _ := s2
      clear h2 s2
      go_wp2_with fail
      refine Calls.mono (HX.out H2.out S2.out (by simp) (by simp [cellsV]; have := HN.out; omega) (by simp [cellsV]; have := HN.out; omega) 8 d _ _) ?_
      rintro e w3 ⟨rfl, hR⟩
      have R : Hid _ := hR
      clear hR
      go_wp2
      go_ret
      exact ⟨rfl, R.out⟩
    · rw [if_neg hq]
      have tq : (q == -1) = false := beq_eq_false_iff_ne.2 hq
      clear hq
      go_enter Try.func150, Try.ntmps150
      go_wp2_with fail
      refine Calls.mono (HY.out HB.out (StQ.refl _ _ _) (by simp) (by simp [cellsV]) (by simp [cellsV])) ?_
      rintro e w1 ⟨rfl, R1, vv1, h1, s1⟩
      have H1 : Hid _ := h1
      have S1 : Hid _ := s1
      clear h1 s1
      go_wp2_with fail
      refine Calls.mono (HX.out H1.out S1.out (by simp) (by simp [cellsV]; have := HN.out; omega) (by simp [cellsV]; have := HN.out; omega) 8 d _ _) ?_
      rintro e w3 ⟨rfl, hR⟩
      have R : Hid _ := hR
      clear hR
      go_wp2
      go_ret
      exact ⟨rfl, R.out⟩
  · rw [if_neg hp]
    have tp : (p == -1) = false := beq_eq_false_iff_ne.2 hp
    clear hp
    by_cases hq : q = -1
    · subst hq
      rw [if_pos rfl]
      go_enter Try.func150, Try.ntmps150
      go_wp2_with fail
      refine Calls.mono (HY.out HB.out (StQ.refl _ _ _) (by simp) (by simp [cellsV]) (by simp [cellsV])) ?_
      rintro e w1 ⟨rfl, R1, vv1, h1, s1⟩
      have H1 : Hid _ := h1
      have S1 : Hid _ := s1
      clear h1 s1
      go_wp2_with fail
      refine Calls.mono (HX.out H1.out S1.out (by simp) (by simp [cellsV]; have := HN.out; omega) (by simp [cellsV]; have := HN.out; omega) 8 d _ _) ?_
      rintro e w3 ⟨rfl, hR⟩
      have R : Hid _ := hR
      clear hR
      go_wp2
      go_ret
      exact ⟨rfl, R.out⟩
    · rw [if_neg hq]
      have tq : (q == -1) = false := beq_eq_false_iff_ne.2 hq
      clear hq
      go_enter Try.func150, Try.ntmps150
      go_wp2_with fail
      refine Calls.mono (HX.out HB.out (StQ.refl _ _ _) (by simp) (by simp [cellsV]) (by simp [cellsV]) 8 d _ _) ?_
      rintro e w3 ⟨rfl, hR⟩
      have R : Hid _ := hR
      clear hR
      go_wp2
      go_ret
      exact ⟨rfl, R.out⟩
end Go.Proofs.Ytpglbgejlpeckab

namespace Go.Proofs.Ytpglbgejlpeckab
open Go.RowKit Flt
attribute [local go_sem] alloc_drewN setCell_drewN run_store_float

def mulM (v : Vl) (ta tb : Int) (N : Nat) : List Vl × Int :=
  if ta = -1 then (if tb = -1 then ([], -1) else ([vput 4 v.len v.a tb 0], (N : Int)))
  else (if tb = -1 then ([vput 4 v.len ta v.b 0], (N : Int)) else ([vput 4 v.len ta v.b 0, vput 4 v.len v.a tb 0, vput 2 v.len N ((N + 1 : Nat) : Int) 0], ((N + 2 : Nat) : Int)))
def divM (i : Int) (v : Vl) (ta tb : Int) (N : Nat) : List Vl × Int :=
  if ta = -1 then (if tb = -1 then ([], -1) else ([vput 4 v.len i tb 0, vput 5 v.len N v.b 0, vput 6 v.len ((N + 1 : Nat) : Int) 0 0], ((N + 2 : Nat) : Int)))
  else (if tb = -1 then ([vput 5 v.len ta v.b 0], (N : Int)) else ([vput 5 v.len ta v.b 0, vput 4 v.len i tb 0, vput 5 v.len ((N + 1 : Nat) : Int) v.b 0, vput 3 v.len N ((N + 2 : Nat) : Int) 0], ((N + 3 : Nat) : Int)))

/-- putSum and putDifference behind a step of the builder. -/
theorem sum_next {w w1 : World} {P : Nat} {u1 u3 : Value} {vs a : List Vl} {c : Int} {base : Nat} {R R1 : Option Nat} {vv : Value} (h : BS w1 P u1 u3 (vs ++ a) (c + cellsV a) base R1 vv) (s : Stp P R w R1 w1) {n : Int} (b : Bnd (vs ++ a) (c + cellsV a) n) (p q : Int) :
    Calls Try.prog 145 #[.pointer (some ⟨P, 0, none⟩), .int .i64 n, .int .i64 p, .int .i64 q] w1 fun e w' => Bd w P u1 u3 vs c base R (a ++ (sumM n p q (vs.length + a.length)).1, (sumM n p q (vs.length + a.length)).2) e w' :=
  (putSum w1 P u1 u3 (vs ++ a) (c + cellsV a) base R1 vv n p q h b).mono fun e w' hb => by
    rw [List.length_append] at hb
    exact Bd.after s hb
theorem dif_next {w w1 : World} {P : Nat} {u1 u3 : Value} {vs a : List Vl} {c : Int} {base : Nat} {R R1 : Option Nat} {vv : Value} (h : BS w1 P u1 u3 (vs ++ a) (c + cellsV a) base R1 vv) (s : Stp P R w R1 w1) {n : Int} (b : Bnd (vs ++ a) (c + cellsV a) n) (p q : Int) :
    Calls Try.prog 146 #[.pointer (some ⟨P, 0, none⟩), .int .i64 n, .int .i64 p, .int .i64 q] w1 fun e w' => Bd w P u1 u3 vs c base R (a ++ (difM n p q (vs.length + a.length)).1, (difM n p q (vs.length + a.length)).2) e w' :=
  (putDif w1 P u1 u3 (vs ++ a) (c + cellsV a) base R1 vv n p q h b).mono fun e w' hb => by
    rw [List.length_append] at hb
    exact Bd.after s hb
theorem own_keepJ {base e size n : Nat} {v : Value} {xs : List Value} {W W' : World} (h : W.ownsRow base e size v n xs) (k : Kept 0 0 W W') : W'.ownsRow base e size v n xs := by
  refine ⟨h.1, h.2.imp id ?_⟩
  rintro ⟨g, cap, cur, e1, b1, b2, b3⟩
  refine ⟨g, cap, cur, e1, b1, ?_, b3⟩
  have hg : g < W.heap.size := by
    rcases Nat.lt_or_ge g W.heap.size with c | c
    · exact c
    · rw [Array.getElem?_eq_none c] at b2; cases b2
  rw [k.block g hg (by omega)]
  exact b2
theorem BS.keep {w w' : World} {P : Nat} {u1 u3 : Value} {vs : List Vl} {c : Int} {base : Nat} {R : Option Nat} {vv : Value} (h : BS w P u1 u3 vs c base R vv) (k : Kept 0 0 w w') : BS w' P u1 u3 vs c base R vv :=
  ⟨Nat.lt_of_lt_of_le h.lt k.size, fun o => by rw [k.frozen (p := ⟨P, o, none⟩) h.lt (by omega)]; exact h.free o, kcell k h.lt h.c0, kcell k h.lt h.c1, kcell k h.lt h.c2, kcell k h.lt h.c3, own_keepJ h.own k, h.row, h.ne, Nat.le_trans h.sz k.size⟩
theorem BS.far {w : World} {P : Nat} {u1 u3 : Value} {vs : List Vl} {c : Int} {base : Nat} {R : Option Nat} {vv : Value} (h : BS w P u1 u3 vs c base R vv) : w.heap.size ≠ P ∧ R ≠ some w.heap.size :=
  ⟨by have := h.lt; omega, fun e => by have := (own_blkV h.own (h.row.trans e)).2; omega⟩
theorem At.step {w w' : World} {P : Nat} {R R' : Option Nat} {B o : Nat} {v : Vl} (a : At w B o v) (s : Stp P R w R' w') (hB : B < w.heap.size) (hf : B ≠ P ∧ R ≠ some B) : At w' B o v := by
  have e : ∀ k, w'.cell? ⟨B, k, none⟩ = w.cell? ⟨B, k, none⟩ := fun k => s.chg.cell (p := ⟨B, k, none⟩) hB (by rintro (c | c); exact hf.1 c; exact hf.2 c)
  exact ⟨by rw [e]; exact a.c0, by rw [e]; exact a.c1, by rw [e]; exact a.c2, by rw [e]; exact a.c3, by rw [e]; exact a.c4, by rw [e]; exact a.c5⟩
structure Bnd0 (vs : List Vl) (c : Int) (n : Int) : Prop where
  l : vs.length ≤ 800000
  c0 : -800000000 ≤ c
  c1 : c ≤ 800000000
  n0 : -1000 ≤ n
  n1 : n ≤ 1000
theorem Bd.cast {w w' : World} {P : Nat} {u1 u3 : Value} {vs : List Vl} {c : Int} {base : Nat} {R : Option Nat} {M M' : List Vl × Int} {e : Ending} (e1 : M = M') (h : Bd w P u1 u3 vs c base R M e w') : Bd w P u1 u3 vs c base R M' e w' := e1 ▸ h
theorem sumM_pq {n p q : Int} {N : Nat} (hp : p ≠ -1) (hq : q ≠ -1) : sumM n p q N = ([vput 2 n p q 0], (N : Int)) := by unfold sumM; rw [if_neg hp, if_neg hq]
theorem sumM_p {n p : Int} {N : Nat} (hp : p ≠ -1) : sumM n p (-1) N = ([], p) := by unfold sumM; rw [if_neg hp, if_pos rfl]
theorem sumM_q {n q : Int} {N : Nat} : sumM n (-1) q N = ([], q) := by unfold sumM; rw [if_pos rfl]
theorem difM_pq {n p q : Int} {N : Nat} (hp : p ≠ -1) (hq : q ≠ -1) : difM n p q N = ([vput 3 n p q 0], (N : Int)) := by unfold difM; rw [if_neg hq, if_neg hp]
theorem difM_p {n p : Int} {N : Nat} : difM n p (-1) N = ([], p) := by unfold difM; rw [if_pos rfl]
theorem difM_q {n q : Int} {N : Nat} (hq : q ≠ -1) : difM n (-1) q N = ([vput 6 n q 0 0], (N : Int)) := by unfold difM; rw [if_neg hq, if_pos rfl]

set_option maxRecDepth 100000 in
set_option maxHeartbeats 4000000 in
theorem product (w : World) (P : Nat) (u1 u3 : Value) (vs : List Vl) (c : Int) (base : Nat) (R : Option Nat) (vv : Value) (v : Vl) (ta tb : Int) (h : BS w P u1 u3 vs c base R vv) (b : Bnd0 vs c v.len) :
    Calls Try.prog 147 #[.pointer (some ⟨P, 0, none⟩), v.agg, .int .i64 ta, .int .i64 tb] w fun e w' => Bd w P u1 u3 vs c base R (mulM v ta tb vs.length) e w' := by
  have k0 := kept_alloc 0 0 w (vbox v.op v.len v.a v.b v.c v.k)
  have hv := vbox_atJ w v
  have hf := h.far
  have h' := h.keep k0
  have HX : Hid (∀ {w1 : World} {a : List Vl} {R1 : Option Nat} {vv : Value}, BS w1 P u1 u3 (vs ++ a) (c + cellsV a) base R1 vv → Stp P R (w.alloc (vbox v.op v.len v.a v.b v.c v.k)) R1 w1 → a.length ≤ 10 → -100000 ≤ cellsV a → cellsV a ≤ 100000 → ∀ op p q r, _) := fun h s l0 l1 l2 op p q r => put_next h s (by have := b.l; omega) (by have := b.c0; omega) (by have := b.c1; omega) op v.len p q r b.n0 b.n1
  have HY : Hid (∀ {w1 : World} {a : List Vl} {R1 : Option Nat} {vv : Value}, BS w1 P u1 u3 (vs ++ a) (c + cellsV a) base R1 vv → Stp P R (w.alloc (vbox v.op v.len v.a v.b v.c v.k)) R1 w1 → a.length ≤ 10 → -100000 ≤ cellsV a → cellsV a ≤ 100000 → ∀ p q, _) := fun {w1 a R1 vv} h s l0 l1 l2 p q => sum_next (n := v.len) h s ⟨by rw [List.length_append]; have := b.l; omega, by have := b.c0; omega, by have := b.c1; omega, b.n0, b.n1⟩ p q
  have HB : Hid (BS (w.alloc (vbox v.op v.len v.a v.b v.c v.k)) P u1 u3 (vs ++ []) (c + cellsV []) base R vv) := by show BS _ _ _ _ _ _ _ _ _; simpa [cellsV] using h'
  have HN : Hid (-1000 ≤ v.len ∧ v.len ≤ 1000) := ⟨b.n0, b.n1⟩
  have HK : Hid _ := k0
  have HV : Hid (∀ {w1 : World} {R1 : Option Nat}, Stp P R (w.alloc (vbox v.op v.len v.a v.b v.c v.k)) R1 w1 → At w1 w.heap.size 0 v) := fun s => hv.step s (by simp) hf
  clear h h' b k0 hf hv
  obtain ⟨v0, v1, v2, v3, v4, v5⟩ := HV.out (StQ.refl _ _ _)
  unfold mulM
  by_cases hp : ta = -1
  · subst hp
    rw [if_pos rfl]
    by_cases hq : tb = -1
    · subst hq
      rw [if_pos rfl]
      go_enter Try.func147, Try.ntmps147
      go_wp2_with fail
      refine Calls.mono (HY.out HB.out (StQ.refl _ _ _) (by simp) (by simp [cellsV]) (by simp [cellsV]) (-1) (-1)) ?_
      rintro e w9 hb
      obtain ⟨rfl, hR⟩ := Bd.cast (M' := _) (by rw [sumM_q]) (Bd.kept HK.out hb)
      have R : Hid _ := hR
      clear hR hb
      go_wp2
      go_ret
      exact ⟨rfl, R.out⟩
    · rw [if_neg hq]
      have tq : (tb != -1) = true := by simpa using hq
      go_enter Try.func147, Try.ntmps147
      go_wp2_with fail
      refine Calls.mono (HX.out HB.out (StQ.refl _ _ _) (by simp) (by simp [cellsV]; try (have := HN.out; omega)) (by simp [cellsV]; try (have := HN.out; omega)) 4 v.a tb 0) ?_
      rintro e w1 ⟨rfl, R1, vv1, h1, s1⟩
      have H1 : Hid _ := h1
      have S1 : Hid _ := s1
      clear h1 s1 v0 v1 v2 v3 v4 v5
      obtain ⟨v0, v1, v2, v3, v4, v5⟩ := HV.out S1.out
      go_wp2_with fail
      refine Calls.mono (HY.out H1.out S1.out (by simp) (by simp [cellsV]; try (have := HN.out; omega)) (by simp [cellsV]; try (have := HN.out; omega)) (-1) _) ?_
      rintro e w9 hb
      obtain ⟨rfl, hR⟩ := Bd.cast (M' := _) (by rw [sumM_q]) (Bd.kept HK.out hb)
      have R : Hid _ := hR
      clear hR hb
      go_wp2
      go_ret
      exact ⟨rfl, R.out⟩
  · rw [if_neg hp]
    have tp : (ta != -1) = true := by simpa using hp
    by_cases hq : tb = -1
    · subst hq
      rw [if_pos rfl]
      go_enter Try.func147, Try.ntmps147
      go_wp2_with fail
      refine Calls.mono (HX.out HB.out (StQ.refl _ _ _) (by simp) (by simp [cellsV]; try (have := HN.out; omega)) (by simp [cellsV]; try (have := HN.out; omega)) 4 ta v.b 0) ?_
      rintro e w1 ⟨rfl, R1, vv1, h1, s1⟩
      have H1 : Hid _ := h1
      have S1 : Hid _ := s1
      clear h1 s1 v0 v1 v2 v3 v4 v5
      obtain ⟨v0, v1, v2, v3, v4, v5⟩ := HV.out S1.out
      go_wp2_with fail
      refine Calls.mono (HY.out H1.out S1.out (by simp) (by simp [cellsV]; try (have := HN.out; omega)) (by simp [cellsV]; try (have := HN.out; omega)) _ (-1)) ?_
      rintro e w9 hb
      obtain ⟨rfl, hR⟩ := Bd.cast (M' := _) (by rw [sumM_p (by omega)]) (Bd.kept HK.out hb)
      have R : Hid _ := hR
      clear hR hb
      go_wp2
      go_ret
      exact ⟨rfl, R.out⟩
    · rw [if_neg hq]
      have tq : (tb != -1) = true := by simpa using hq
      go_enter Try.func147, Try.ntmps147
      go_wp2_with fail
      refine Calls.mono (HX.out HB.out (StQ.refl _ _ _) (by simp) (by simp [cellsV]; try (have := HN.out; omega)) (by simp [cellsV]; try (have := HN.out; omega)) 4 ta v.b 0) ?_
      rintro e w1 ⟨rfl, R1, vv1, h1, s1⟩
      have H1 : Hid _ := h1
      have S1 : Hid _ := s1
      clear h1 s1 v0 v1 v2 v3 v4 v5
      obtain ⟨v0, v1, v2, v3, v4, v5⟩ := HV.out S1.out
      go_wp2_with fail
      refine Calls.mono (HX.out H1.out S1.out (by simp) (by simp [cellsV]; try (have := HN.out; omega)) (by simp [cellsV]; try (have := HN.out; omega)) 4 v.a tb 0) ?_
      rintro e w2 ⟨rfl, R2, vv2, h2, s2⟩
      have H2 : Hid _ := h2
      have S2 : Hid _ := s2
      clear h2 s2 v0 v1 v2 v3 v4 v5
      obtain ⟨v0, v1, v2, v3, v4, v5⟩ := HV.out S2.out
      go_wp2_with fail
      refine Calls.mono (HY.out H2.out S2.out (by simp) (by simp [cellsV]; try (have := HN.out; omega)) (by simp [cellsV]; try (have := HN.out; omega)) _ _) ?_
      rintro e w9 hb
      obtain ⟨rfl, hR⟩ := Bd.cast (M' := _) (by rw [sumM_pq (by omega) (by omega)]) (Bd.kept HK.out hb)
      have R : Hid _ := hR
      clear hR hb
      go_wp2
      go_ret
      exact ⟨rfl, R.out⟩
end Go.Proofs.Ytpglbgejlpeckab

namespace Go.Proofs.Ytpglbgejlpeckab
open Go.RowKit Flt
attribute [local go_sem] alloc_drewN setCell_drewN run_store_float

/-- The builder's values, read. -/
theorem BS.read {w : World} {P : Nat} {u1 u3 : Value} {vs : List Vl} {c : Int} {base : Nat} {R : Option Nat} {vv : Value} (h : BS w P u1 u3 vs c base R vv) (hn : 0 < vs.length) :
    ∃ g cap, vv = .slice (some ⟨g, 0, none⟩) vs.length cap ∧ g < w.heap.size ∧ ∀ i, i < vs.length → At w g (i * 6) (vs.getD i Vl.zero) := by
  obtain ⟨g, cap, e, _, hg, _, hA⟩ := row_at h.own hn rfl
  exact ⟨g, cap, e, hg, hA.at_⟩

set_option maxRecDepth 100000 in
set_option maxHeartbeats 4000000 in
theorem quotient (w : World) (P : Nat) (u1 u3 : Value) (vs : List Vl) (c : Int) (base : Nat) (R : Option Nat) (vv : Value) (i : Nat) (v : Vl) (ta tb : Int) (h : BS w P u1 u3 vs c base R vv) (hi : i < vs.length) (hv' : vs.getD i Vl.zero = v) (b : Bnd0 vs c v.len) :
    Calls Try.prog 148 #[.pointer (some ⟨P, 0, none⟩), .int .i64 (i : Int), .int .i64 ta, .int .i64 tb] w fun e w' => Bd w P u1 u3 vs c base R (divM (i : Int) v ta tb vs.length) e w' := by
  have k0 := kept_alloc 0 0 w (vbox v.op v.len v.a v.b v.c v.k)
  have hv := vbox_atJ w v
  have hf := h.far
  have h' := h.keep k0
  obtain ⟨g, cap, rfl, hg, hA⟩ := h.read (by omega)
  have z1 := h.c1
  have hat := hA i hi
  rw [hv'] at hat
  have HX : Hid (∀ {w1 : World} {a : List Vl} {R1 : Option Nat} {vv : Value}, BS w1 P u1 u3 (vs ++ a) (c + cellsV a) base R1 vv → Stp P R (w.alloc (vbox v.op v.len v.a v.b v.c v.k)) R1 w1 → a.length ≤ 10 → -100000 ≤ cellsV a → cellsV a ≤ 100000 → ∀ op p q r, _) := fun h s l0 l1 l2 op p q r => put_next h s (by have := b.l; omega) (by have := b.c0; omega) (by have := b.c1; omega) op v.len p q r b.n0 b.n1
  have HY : Hid (∀ {w1 : World} {a : List Vl} {R1 : Option Nat} {vv : Value}, BS w1 P u1 u3 (vs ++ a) (c + cellsV a) base R1 vv → Stp P R (w.alloc (vbox v.op v.len v.a v.b v.c v.k)) R1 w1 → a.length ≤ 10 → -100000 ≤ cellsV a → cellsV a ≤ 100000 → ∀ p q, _) := fun {w1 a R1 vv} h s l0 l1 l2 p q => dif_next (n := v.len) h s ⟨by rw [List.length_append]; have := b.l; omega, by have := b.c0; omega, by have := b.c1; omega, b.n0, b.n1⟩ p q
  have HB : Hid (BS (w.alloc (vbox v.op v.len v.a v.b v.c v.k)) P u1 u3 (vs ++ []) (c + cellsV []) base R (.slice (some ⟨g, 0, none⟩) vs.length cap)) := by show BS _ _ _ _ _ _ _ _ _; simpa [cellsV] using h'
  have HN : Hid (-1000 ≤ v.len ∧ v.len ≤ 1000) := ⟨b.n0, b.n1⟩
  have HK : Hid _ := k0
  have HV : Hid (∀ {w1 : World} {R1 : Option Nat}, Stp P R (w.alloc (vbox v.op v.len v.a v.b v.c v.k)) R1 w1 → At w1 w.heap.size 0 v) := fun s => hv.step s (by simp) hf
  clear h h' b k0 hf hv hA hg hv'
  obtain ⟨d0, d1, d2, d3, d4, d5⟩ := hat
  obtain ⟨v0, v1, v2, v3, v4, v5⟩ := HV.out (StQ.refl _ _ _)
  unfold divM
  by_cases hp : ta = -1
  · subst hp
    rw [if_pos rfl]
    by_cases hq : tb = -1
    · subst hq
      rw [if_pos rfl]
      go_enter Try.func148, Try.ntmps148
      go_wp2_with fail
      clear d0 d1 d2 d3 d4 d5 z1
      refine Calls.mono (HY.out HB.out (StQ.refl _ _ _) (by simp) (by simp [cellsV]; try (have := HN.out; omega)) (by simp [cellsV]; try (have := HN.out; omega)) (-1) (-1)) ?_
      rintro e w9 hb
      obtain ⟨rfl, hR⟩ := Bd.cast (M' := _) (by rw [difM_p]) (Bd.kept HK.out hb)
      have R : Hid _ := hR
      clear hR hb
      go_wp2
      go_ret
      exact ⟨rfl, R.out⟩
    · rw [if_neg hq]
      have tq : (tb != -1) = true := by simpa using hq
      go_enter Try.func148, Try.ntmps148
      go_wp2_with fail
      clear d0 d1 d2 d3 d4 d5 z1
      refine Calls.mono (HX.out HB.out (StQ.refl _ _ _) (by simp) (by simp [cellsV]; try (have := HN.out; omega)) (by simp [cellsV]; try (have := HN.out; omega)) 4 i tb 0) ?_
      rintro e w1 ⟨rfl, R1, vv1, h1, s1⟩
      have H1 : Hid _ := h1
      have S1 : Hid _ := s1
      clear h1 s1 v0 v1 v2 v3 v4 v5
      obtain ⟨v0, v1, v2, v3, v4, v5⟩ := HV.out S1.out
      go_wp2_with fail
      refine Calls.mono (HX.out H1.out S1.out (by simp) (by simp [cellsV]; try (have := HN.out; omega)) (by simp [cellsV]; try (have := HN.out; omega)) 5 _ v.b 0) ?_
      rintro e w2 ⟨rfl, R2, vv2, h2, s2⟩
      have H2 : Hid _ := h2
      have S2 : Hid _ := s2
      clear h2 s2 v0 v1 v2 v3 v4 v5
      obtain ⟨v0, v1, v2, v3, v4, v5⟩ := HV.out S2.out
      go_wp2_with fail
      refine Calls.mono (HY.out H2.out S2.out (by simp) (by simp [cellsV]; try (have := HN.out; omega)) (by simp [cellsV]; try (have := HN.out; omega)) (-1) _) ?_
      rintro e w9 hb
      obtain ⟨rfl, hR⟩ := Bd.cast (M' := _) (by rw [difM_q (by omega)]) (Bd.kept HK.out hb)
      have R : Hid _ := hR
      clear hR hb
      go_wp2
      go_ret
      exact ⟨rfl, R.out⟩
  · rw [if_neg hp]
    have tp : (ta != -1) = true := by simpa using hp
    by_cases hq : tb = -1
    · subst hq
      rw [if_pos rfl]
      go_enter Try.func148, Try.ntmps148
      go_wp2_with fail
      clear d0 d1 d2 d3 d4 d5 z1
      refine Calls.mono (HX.out HB.out (StQ.refl _ _ _) (by simp) (by simp [cellsV]; try (have := HN.out; omega)) (by simp [cellsV]; try (have := HN.out; omega)) 5 ta v.b 0) ?_
      rintro e w1 ⟨rfl, R1, vv1, h1, s1⟩
      have H1 : Hid _ := h1
      have S1 : Hid _ := s1
      clear h1 s1 v0 v1 v2 v3 v4 v5
      obtain ⟨v0, v1, v2, v3, v4, v5⟩ := HV.out S1.out
      go_wp2_with fail
      refine Calls.mono (HY.out H1.out S1.out (by simp) (by simp [cellsV]; try (have := HN.out; omega)) (by simp [cellsV]; try (have := HN.out; omega)) _ (-1)) ?_
      rintro e w9 hb
      obtain ⟨rfl, hR⟩ := Bd.cast (M' := _) (by rw [difM_p]) (Bd.kept HK.out hb)
      have R : Hid _ := hR
      clear hR hb
      go_wp2
      go_ret
      exact ⟨rfl, R.out⟩
    · rw [if_neg hq]
      have tq : (tb != -1) = true := by simpa using hq
      go_enter Try.func148, Try.ntmps148
      go_wp2_with fail
      clear d0 d1 d2 d3 d4 d5 z1
      refine Calls.mono (HX.out HB.out (StQ.refl _ _ _) (by simp) (by simp [cellsV]; try (have := HN.out; omega)) (by simp [cellsV]; try (have := HN.out; omega)) 5 ta v.b 0) ?_
      rintro e w1 ⟨rfl, R1, vv1, h1, s1⟩
      have H1 : Hid _ := h1
      have S1 : Hid _ := s1
      clear h1 s1 v0 v1 v2 v3 v4 v5
      obtain ⟨v0, v1, v2, v3, v4, v5⟩ := HV.out S1.out
      go_wp2_with fail
      refine Calls.mono (HX.out H1.out S1.out (by simp) (by simp [cellsV]; try (have := HN.out; omega)) (by simp [cellsV]; try (have := HN.out; omega)) 4 i tb 0) ?_
      rintro e w2 ⟨rfl, R2, vv2, h2, s2⟩
      have H2 : Hid _ := h2
      have S2 : Hid _ := s2
      clear h2 s2 v0 v1 v2 v3 v4 v5
      obtain ⟨v0, v1, v2, v3, v4, v5⟩ := HV.out S2.out
      go_wp2_with fail
      refine Calls.mono (HX.out H2.out S2.out (by simp) (by simp [cellsV]; try (have := HN.out; omega)) (by simp [cellsV]; try (have := HN.out; omega)) 5 _ v.b 0) ?_
      rintro e w3 ⟨rfl, R3, vv3, h3, s3⟩
      have H3 : Hid _ := h3
      have S3 : Hid _ := s3
      clear h3 s3 v0 v1 v2 v3 v4 v5
      obtain ⟨v0, v1, v2, v3, v4, v5⟩ := HV.out S3.out
      go_wp2_with fail
      refine Calls.mono (HY.out H3.out S3.out (by simp) (by simp [cellsV]; try (have := HN.out; omega)) (by simp [cellsV]; try (have := HN.out; omega)) _ _) ?_
      rintro e w9 hb
      obtain ⟨rfl, hR⟩ := Bd.cast (M' := _) (by rw [difM_pq (by omega) (by omega)]) (Bd.kept HK.out hb)
      have R : Hid _ := hR
      clear hR hb
      go_wp2
      go_ret
      exact ⟨rfl, R.out⟩
end Go.Proofs.Ytpglbgejlpeckab
