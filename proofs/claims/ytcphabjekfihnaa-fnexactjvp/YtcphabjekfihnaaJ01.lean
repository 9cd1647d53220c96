import Derived.Test.YtcphabjekfihnaaP12
import Derived.Deep.AppendLies
import Derived.Deep.RegionLaw
import Derived.Test.YtcphabjekfihnaaP21
namespace Go.Proofs.Ytcphabjekfihnaa
open Go.RowKit Flt
attribute [local go_sem] alloc_drewN setCell_drewN run_store_float

/-- Of the blocks that were there, only those in S may have turned. -/
structure Chg (S : Nat → Prop) (w w' : World) : Prop where
  os : w'.os = w.os
  tape : w'.tape = w.tape
  output : w'.output = w.output
  size : w.heap.size ≤ w'.heap.size
  block : ∀ k, k < w.heap.size → ¬ S k → w'.heap[k]? = w.heap[k]?
theorem Chg.cell {S : Nat → Prop} {w w' : World} (h : Chg S w w') {p : Addr} (hp : p.block < w.heap.size) (hn : ¬ S p.block) : w'.cell? p = w.cell? p := World.cell?_of_block (w := w) (h.block p.block hp hn)
theorem Chg.frozen {S : Nat → Prop} {w w' : World} (h : Chg S w w') {p : Addr} (hp : p.block < w.heap.size) (hn : ¬ S p.block) : w'.frozen? p = w.frozen? p := World.frozen?_of_block (w := w) (h.block p.block hp hn)
theorem Kept.chg {S : Nat → Prop} {w w' : World} (h : Kept 0 0 w w') : Chg S w w' := ⟨h.os, h.tape, h.output, h.size, fun k hk _ => h.block k hk (by omega)⟩
theorem Chg.kept {S : Nat → Prop} {w0 w w' : World} (k : Kept 0 0 w0 w) (h : Chg S w w') (hS : ∀ i, S i → w0.heap.size ≤ i) : Kept 0 0 w0 w' :=
  ⟨h.os.trans k.os, h.tape.trans k.tape, h.output.trans k.output, Nat.le_trans k.size h.size, fun i hi _ => (h.block i (Nat.lt_of_lt_of_le hi k.size) (fun c => by have := hS i c; omega)).trans (k.block i hi (by omega))⟩

/-- The cells of a list of values. -/
def flat : List Vl → List Value
  | [] => []
  | v :: r => v.cells ++ flat r
theorem flat_append (a b : List Vl) : flat (a ++ b) = flat a ++ flat b := by
  induction a with
  | nil => rfl
  | cons x r ih => simp [flat, ih]
theorem flat_one (v : Vl) : flat [v] = v.cells := by simp [flat]
theorem flat_len (a : List Vl) : (flat a).length = a.length * 6 := by
  induction a with
  | nil => rfl
  | cons x r ih => simp only [flat, List.length_append, ih, List.length_cons]; simp only [Vl.cells, List.length_cons, List.length_nil]; omega
theorem flat_at : ∀ (a : List Vl) (k j : Nat), k < a.length → j < 6 → (flat a)[k * 6 + j]? = (a.getD k Vl.zero).cells[j]?
  | [], k, j, hk, _ => by simp at hk
  | x :: r, 0, j, _, hj => by
    have : (x :: r).getD 0 Vl.zero = x := rfl
    rw [this, flat, List.getElem?_append_left (by simp only [Vl.cells, List.length_cons, List.length_nil]; omega), Nat.zero_mul, Nat.zero_add]
  | x :: r, k + 1, j, hk, hj => by
    have : (x :: r).getD (k + 1) Vl.zero = r.getD k Vl.zero := rfl
    rw [this, flat, List.getElem?_append_right (by simp only [Vl.cells, List.length_cons, List.length_nil]; omega)]
    have e : (k + 1) * 6 + j - x.cells.length = k * 6 + j := by simp only [Vl.cells, List.length_cons, List.length_nil]; omega
    rw [e]
    exact flat_at r k j (by simpa using hk) hj

/-- A row of values that the call owns, read. -/
theorem row_at {W : World} {base n : Nat} {v : Value} {vs : List Vl} (h : W.ownsRow base 40 6 v n (flat vs)) (hn : 0 < n) (hl : vs.length = n) :
    ∃ g cap, v = .slice (some ⟨g, 0, none⟩) n cap ∧ base ≤ g ∧ g < W.heap.size ∧ n ≤ cap ∧ VA W g n vs := by
  rcases h.2 with ⟨_, c⟩ | ⟨g, cap, cur, rfl, b1, b2, b3, _, b5, b6⟩
  · omega
  · have hg : g < W.heap.size := by
      rcases Nat.lt_or_ge g W.heap.size with c | c
      · exact c
      · rw [Array.getElem?_eq_none c] at b2; cases b2
    have key : ∀ k j, k < n → j < 6 → W.cell? ⟨g, k * 6 + j, none⟩ = (vs.getD k Vl.zero).cells[j]? := fun k j hk hj => by
      rw [cell_of_row W g _ cur _ _ b2, ← Array.getElem?_toList]
      have : (cur.toList.take (n * 6))[k * 6 + j]? = (flat vs)[k * 6 + j]? := by rw [b6]
      rw [List.getElem?_take_of_lt (by omega)] at this
      rw [this]
      exact flat_at vs k j (by omega) hj
    refine ⟨g, cap, rfl, b1, hg, b3, hl, hg, fun k hk => ?_, fun o => frozen_of_row W g o _ _ b2⟩
    exact ⟨key k 0 hk (by omega), key k 1 hk (by omega), key k 2 hk (by omega), key k 3 hk (by omega), key k 4 hk (by omega), key k 5 hk (by omega)⟩

/-- The builder at P: its graph's lists and its number of cells; R is the block of its values. -/
structure BS (w : World) (P : Nat) (u1 u3 : Value) (vs : List Vl) (c : Int) (base : Nat) (R : Option Nat) (vv : Value) : Prop where
  lt : P < w.heap.size
  free : ∀ o, w.frozen? ⟨P, o, none⟩ = false
  c0 : w.cell? ⟨P, 0, none⟩ = some u1
  c1 : w.cell? ⟨P, 1, none⟩ = some vv
  c2 : w.cell? ⟨P, 2, none⟩ = some u3
  c3 : w.cell? ⟨P, 3, none⟩ = some (.int .i64 c)
  own : w.ownsRow base 40 6 vv vs.length (flat vs)
  row : vv.ownBlock = R
  ne : R ≠ some P
  sz : base ≤ w.heap.size
/-- What a step leaves: Q's blocks and the row's block R may have turned, the row may have moved to a new block. -/
structure StQ (Q : Nat → Prop) (R : Option Nat) (w : World) (R' : Option Nat) (w' : World) : Prop where
  chg : Chg (fun i => Q i ∨ R = some i) w w'
  row : R' = R ∨ ∃ r, R' = some r ∧ w.heap.size ≤ r
theorem StQ.refl (Q : Nat → Prop) (R : Option Nat) (w : World) : StQ Q R w R w := ⟨⟨rfl, rfl, rfl, Nat.le_refl _, fun _ _ _ => rfl⟩, .inl rfl⟩
theorem StQ.trans {Q : Nat → Prop} {R R' R'' : Option Nat} {w w' w'' : World} (a : StQ Q R w R' w') (b : StQ Q R' w' R'' w'') : StQ Q R w R'' w'' where
  chg := ⟨b.chg.os.trans a.chg.os, b.chg.tape.trans a.chg.tape, b.chg.output.trans a.chg.output, Nat.le_trans a.chg.size b.chg.size, fun k hk hn => by
    rw [b.chg.block k (Nat.lt_of_lt_of_le hk a.chg.size) ?_]
    · exact a.chg.block k hk hn
    · rintro (c | c)
      · exact hn (.inl c)
      · rcases a.row with e | ⟨r, e, hr⟩
        · exact hn (.inr (by rw [← e]; exact c))
        · rw [e] at c
          cases c
          omega⟩
  row := by
    rcases b.row with e | ⟨r, e, hr⟩
    · rw [e]; exact a.row
    · exact .inr ⟨r, e, Nat.le_trans a.chg.size hr⟩
/-- A step of the builder at P. -/
abbrev Stp (P : Nat) (R : Option Nat) (w : World) (R' : Option Nat) (w' : World) : Prop := StQ (fun i => i = P) R w R' w'

theorem own_blkV {base e size n : Nat} {v : Value} {xs : List Value} {W : World} (h : W.ownsRow base e size v n xs) {k : Nat} (hk : v.ownBlock = some k) : base ≤ k ∧ k < W.heap.size := by
  rcases h.2 with ⟨rfl, _⟩ | ⟨g, cap, cur, rfl, b1, b2, _⟩
  · simp [Value.ownBlock] at hk
  · have e : g = k := by simpa [Value.ownBlock] using hk
    subst e
    refine ⟨b1, ?_⟩
    rcases Nat.lt_or_ge g W.heap.size with c | c
    · exact c
    · rw [Array.getElem?_eq_none c] at b2; cases b2

theorem vbox_atJ (w : World) (v : Vl) : At (w.alloc (vbox v.op v.len v.a v.b v.c v.k)) w.heap.size 0 v := by
  refine ⟨?_, ?_, ?_, ?_, ?_, ?_⟩
  all_goals first | (go_simp; done) | (simp; done)
theorem own_drewA {base e size n : Nat} {v : Value} {xs : List Value} {W : World} (h : W.ownsRow base e size v n xs) (m : Nat) (o : Obj) : ((W.alloc o).drewN m).ownsRow base e size v n xs := h.alloc o
theorem heap_new (w : World) (o : Obj) : (w.alloc o).heap[w.heap.size]? = some o := by
  unfold World.alloc
  simp
theorem news6 (w : World) (v : Vl) (m : Nat) : ∀ j u, v.cells[j]? = some u → ((w.alloc (.cells #[.int .i64 v.op, .int .i64 v.len, .int .i64 v.a, .int .i64 v.b, .int .i64 v.c, .float .f64 v.k] 40)).drewN m).cell? ((⟨w.heap.size, 0, none⟩ : Addr).add j) = some u := fun j u hu =>
  World.news_of_block (w := w.alloc (.cells #[.int .i64 v.op, .int .i64 v.len, .int .i64 v.a, .int .i64 v.b, .int .i64 v.c, .float .f64 v.k] 40)) (t := 40) (fr := (0, 0)) (cs := #[.int .i64 v.op, .int .i64 v.len, .int .i64 v.a, .int .i64 v.b, .int .i64 v.c, .float .f64 v.k]) (heap_new _ _) j u hu
theorem far1 {w1 w9 : World} {o : Obj} {m : Nat} {row : Option Nat} (hg : ((w1.alloc o).drewN m).grownBy w9 row) {b off : Nat} {u : Value} (hb : b < w1.heap.size) (hr : row ≠ some b) (hc : w1.cell? ⟨b, off, none⟩ = some u) : w9.cell? ⟨b, off, none⟩ = some u := by
  have hb' : b < ((w1.alloc o).drewN m).heap.size := by show b < (w1.alloc o).heap.size; simp; omega
  rw [hg.cell_far ⟨b, off, none⟩ hb' (fun c => hr c.symm)]
  exact kcell (kept_alloc 0 0 w1 o) hb hc
theorem far2 {w1 w9 : World} {o : Obj} {m : Nat} {row : Option Nat} (hg : ((w1.alloc o).drewN m).grownBy w9 row) {b off : Nat} (hb : b < w1.heap.size) (hr : row ≠ some b) (hc : w1.frozen? ⟨b, off, none⟩ = false) : w9.frozen? ⟨b, off, none⟩ = false := by
  have hb' : b < ((w1.alloc o).drewN m).heap.size := by show b < (w1.alloc o).heap.size; simp; omega
  rw [hg.frozen_far ⟨b, off, none⟩ hb' (fun c => hr c.symm)]
  show (w1.alloc o).frozen? _ = _
  rw [(kept_alloc 0 0 w1 o).frozen (p := ⟨b, off, none⟩) hb (by omega)]
  exact hc
theorem own_setCell {base e size n P o : Nat} {v u : Value} {xs : List Value} {W : World} (h : W.ownsRow base e size v n xs) (hP : v.ownBlock ≠ some P) : (W.setCell ⟨P, o, none⟩ u).ownsRow base e size v n xs := by
  refine ⟨h.1, h.2.imp id ?_⟩
  rintro ⟨g, cap, cur, e1, b1, b2, b3⟩
  refine ⟨g, cap, cur, e1, b1, ?_, b3⟩
  rw [Below.heap_setCell W ⟨P, o, none⟩ u g (fun c => hP (by rw [e1, c]; rfl))]
  exact b2
/-- Behind the append and the two stores. -/
theorem BS.next {w w9 : World} {P : Nat} {u1 u3 : Value} {vs : List Vl} {c : Int} {base : Nat} {R : Option Nat} {vv : Value} {v : Vl} {o o2 : Obj} {m g9 cap9 : Nat} (h : BS w P u1 u3 vs c base R vv)
    (hown9 : w9.ownsRow base 40 6 (.slice (some ⟨g9, 0, none⟩) (vs.length + 1) cap9) (vs.length + 1) (flat vs ++ v.cells)) (hg9 : (((w.alloc o).alloc o2).drewN m).grownBy w9 vv.ownBlock) (hat : vv.ownBlock = some g9 ∨ g9 = (w.alloc o).heap.size + 1) (c' : Int) (hc' : c' = c + v.len) :
    ∃ R' vv', BS ((w9.setCell ⟨P, 1, none⟩ (.slice (some ⟨g9, 0, none⟩) (vs.length + 1) cap9)).setCell ⟨P, 3, none⟩ (.int .i64 c')) P u1 u3 (vs ++ [v]) (c + v.len) base R' vv' ∧ Stp P R w R' ((w9.setCell ⟨P, 1, none⟩ (.slice (some ⟨g9, 0, none⟩) (vs.length + 1) cap9)).setCell ⟨P, 3, none⟩ (.int .i64 c')) := by
  subst hc'
  have hlt := h.lt
  have hs : (w.alloc o).heap.size = w.heap.size + 1 := by simp
  have k1 := kept_alloc 0 0 w o
  have hP1 : P < (w.alloc o).heap.size := by omega
  have hRP : vv.ownBlock ≠ some P := by rw [h.row]; exact h.ne
  have gP : g9 ≠ P := by
    rcases hat with e | e
    · intro c; rw [c] at e; exact hRP e
    · omega
  have q0 := far1 hg9 hP1 hRP (kcell k1 hlt h.c0)
  have q1 := far1 hg9 hP1 hRP (kcell k1 hlt h.c1)
  have q2 := far1 hg9 hP1 hRP (kcell k1 hlt h.c2)
  have q3 := far1 hg9 hP1 hRP (kcell k1 hlt h.c3)
  have hsz9 : w.heap.size + 2 ≤ w9.heap.size := by
    have := hg9.size
    have e : (((w.alloc o).alloc o2).drewN m).heap.size = w.heap.size + 2 := by show ((w.alloc o).alloc o2).heap.size = _; simp
    omega
  refine ⟨some g9, .slice (some ⟨g9, 0, none⟩) (vs.length + 1) cap9, ?_, ?_, ?_⟩
  · refine ⟨by simp; omega, fun b => ?_, ?_, ?_, ?_, ?_, ?_, rfl, fun e => gP (by cases e; rfl), by simp; have := h.sz; omega⟩
    · have hf := far2 (off := b) hg9 hP1 hRP (by rw [k1.frozen (p := ⟨P, b, none⟩) hlt (by omega)]; exact h.free b)
      simp [hf]
    · rw [cell_ne _ _ _ _ _ _ (.inr (by omega)), cell_ne _ _ _ _ _ _ (.inr (by omega))]; exact q0
    · rw [cell_ne _ _ _ _ _ _ (.inr (by omega))]; exact cell_eq _ _ _ _ _ q1
    · rw [cell_ne _ _ _ _ _ _ (.inr (by omega)), cell_ne _ _ _ _ _ _ (.inr (by omega))]; exact q2
    · exact cell_eq _ _ _ _ _ (by rw [cell_ne _ _ _ _ _ _ (.inr (by omega))]; exact q3)
    · rw [List.length_append, List.length_singleton, flat_append, flat_one]
      have nP : (Value.slice (some ⟨g9, 0, none⟩) (vs.length + 1) cap9).ownBlock ≠ some P := fun e => gP (by simpa [Value.ownBlock] using e)
      exact own_setCell (own_setCell hown9 nP) nP
  · refine ⟨hg9.os, hg9.tape, hg9.output, by simp; omega, fun k hk hn => ?_⟩
    have hkP : k ≠ P := fun e => hn (.inl e)
    have hkR : some k ≠ vv.ownBlock := fun e => hn (.inr (by rw [← h.row]; exact e.symm))
    rw [Below.heap_setCell _ ⟨P, 3, none⟩ _ k hkP, Below.heap_setCell _ ⟨P, 1, none⟩ _ k hkP, hg9.block k (by show k < ((w.alloc o).alloc o2).heap.size; simp; omega) hkR]
    show ((w.alloc o).alloc o2).heap[k]? = _
    rw [Below.heap_alloc _ _ k (by omega), Below.heap_alloc _ _ k hk]
  · rcases hat with e | e
    · exact .inl (by rw [← e]; exact h.row)
    · exact .inr ⟨g9, rfl, by omega⟩
theorem one6 (v : Vl) : ∀ u ∈ v.cells, u.oneCell' = true := fun u hu => by
  simp only [Vl.cells, List.mem_cons, List.not_mem_nil, or_false] at hu
  rcases hu with rfl | rfl | rfl | rfl | rfl | rfl <;> rfl

set_option maxRecDepth 100000 in
set_option maxHeartbeats 2000000 in
theorem putVal (w : World) (P : Nat) (u1 u3 : Value) (vs : List Vl) (c : Int) (base : Nat) (R : Option Nat) (vv : Value) (v : Vl) (h : BS w P u1 u3 vs c base R vv) (hn : vs.length ≤ 1000000) (hc0 : -1000000000 ≤ c) (hc1 : c ≤ 1000000000) (hl0 : -1000000000 ≤ v.len) (hl1 : v.len ≤ 1000000000) :
    Calls Try.prog 193 #[.pointer (some ⟨P, 0, none⟩), v.agg] w fun e w' => e = .returned (.int .i64 (vs.length : Nat)) ∧ (∃ R' vv', BS w' P u1 u3 (vs ++ [v]) (c + v.len) base R' vv' ∧ Stp P R w R' w') := by
  obtain ⟨i0, hi, hz0, hz1, hz2⟩ := info_parts infoV
  have HB : Hid _ := h
  have k1 := kept_alloc 0 0 w (vbox v.op v.len v.a v.b v.c v.k)
  have c1 := kcell k1 h.lt h.c1
  have hown := h.own.alloc (vbox v.op v.len v.a v.b v.c v.k)
  have hz := h.sz
  have c3 := kcell k1 h.lt h.c3
  have fz3 := h.free 3
  rw [← k1.frozen (p := ⟨P, 3, none⟩) h.lt (by omega)] at fz3
  have fz := h.free 1
  rw [← k1.frozen (p := ⟨P, 1, none⟩) h.lt (by omega)] at fz
  have hlt := h.lt
  have hv := vbox_atJ w v
  have HV : Hid _ := hv
  obtain ⟨v0, v1, v2, v3, v4, v5⟩ := hv
  have hsz : (w.alloc (vbox v.op v.len v.a v.b v.c v.k)).heap.size = w.heap.size + 1 := by simp
  have HR : Hid (vv.ownBlock ≠ some P ∧ vv.ownBlock ≠ some w.heap.size) := ⟨by rw [h.row]; exact h.ne, fun e => by have := (own_blkV h.own e).2; omega⟩
  have hwr : IntKind.i64.wrap (c + v.len) = c + v.len := by rw [IntKind.wrap_i64]; omega
  clear h k1
  go_enter Try.func193, Try.ntmps193
  go_wp2_with fail
  generalize hw1 : w.alloc (vbox v.op v.len v.a v.b v.c v.k) = w1 at c1 hown v0 v1 v2 v3 v4 v5 HV hsz fz fz3 c3 ⊢
  have HSZ : Hid _ := hsz
  have hb1 : base ≤ w1.heap.size := by omega
  have hP1 : P < w1.heap.size := by omega
  have hV1 : w.heap.size < w1.heap.size := by omega
  clear hsz
  go_region_law
    ((refine step_append_lies _ rfl (.tmp 10) (.tmp 12) 52 rfl base 40 i0 (vagg 0 0 0 0 0 0) 6 48 Try.underlying52 hi hz0 hz1 hz2 rfl (by decide) _ _ (flat vs) (by simp [Act.eval]) (own_drewA hown 1 _) ⟨w1.heap.size, 0, none⟩ 1 1 v.cells (by simp [Act.eval]) rfl (news6 _ _ _) (one6 v) (by decide) (by unfold maxLen; omega) (by omega) (by simp; omega) _ rfl ?_; intro g9 cap9 w9 hown9 hg9 hat9 hlt9; have s0 := far1 hg9 hP1 HR.out.1 c1; have f0 := far2 hg9 hP1 HR.out.1 fz; have s1 := far1 hg9 hV1 HR.out.2 v0; have s2 := far1 hg9 hV1 HR.out.2 v1; have s3 := far1 hg9 hV1 HR.out.2 v2; have s4 := far1 hg9 hV1 HR.out.2 v3; have s5 := far1 hg9 hV1 HR.out.2 v4; have s6 := far1 hg9 hV1 HR.out.2 v5))
  all_goals
    have n3 := far1 hg9 hP1 HR.out.1 c3
    have f3 := far2 hg9 hP1 HR.out.1 fz3
    rw [← hw1] at hg9 hat9
    have hat' : vv.ownBlock = some g9 ∨ g9 = (w.alloc (vbox v.op v.len v.a v.b v.c v.k)).heap.size + 1 := hat9.imp id (fun e => by rw [e]; show ((w.alloc _).alloc _).heap.size = _; simp)
    have R0 : Hid _ := BS.next (v := v) HB.out hown9 hg9 hat' (c + v.len) rfl
    have m3 : (w9.setCell ⟨P, 1, none⟩ (.slice (some ⟨g9, 0, none⟩) (vs.length + 1) cap9)).cell? ⟨P, 3, none⟩ = some (.int .i64 c) := by rw [cell_ne _ _ _ _ _ _ (.inr (by omega))]; exact n3
    have m1 : (w9.setCell ⟨P, 1, none⟩ (.slice (some ⟨g9, 0, none⟩) (vs.length + 1) cap9)).cell? ⟨P, 1, none⟩ = some (.slice (some ⟨g9, 0, none⟩) (vs.length + 1) cap9) := cell_eq _ _ _ _ _ s0
    have mv : (w9.setCell ⟨P, 1, none⟩ (.slice (some ⟨g9, 0, none⟩) (vs.length + 1) cap9)).cell? ⟨w.heap.size, 1, none⟩ = some (.int .i64 v.len) := by rw [cell_ne _ _ _ _ _ _ (.inl (by omega))]; exact s2
    have mf : (w9.setCell ⟨P, 1, none⟩ (.slice (some ⟨g9, 0, none⟩) (vs.length + 1) cap9)).frozen? ⟨P, 3, none⟩ = false := by simp [f3]
    clear hown9 hg9 hat9 hat' hown HB HV hw1 s0 s1 s2 s3 s4 s5 s6 v0 v1 v2 v3 v4 v5 n3 f3 f0 fz fz3 c1 c3
    generalize w9.setCell ⟨P, 1, none⟩ (.slice (some ⟨g9, 0, none⟩) (vs.length + 1) cap9) = w10 at m3 m1 mv mf R0
    go_wp2_with fail
    go_region_law (fail)
    all_goals
      have m1' : (w10.setCell ⟨P, 3, none⟩ (.int .i64 (c + v.len))).cell? ⟨P, 1, none⟩ = some (.slice (some ⟨g9, 0, none⟩) (vs.length + 1) cap9) := by rw [cell_ne _ _ _ _ _ _ (.inr (by omega))]; exact m1
      generalize w10.setCell ⟨P, 3, none⟩ (.int .i64 (c + v.len)) = w11 at m1' R0
      clear m1 m3 mv mf
      go_wp2
      go_ret
      obtain ⟨R', vv', r1, r2⟩ := R0.out
      exact ⟨by simp, R', vv', ⟨r1.lt, r1.free, r1.c0, r1.c1, r1.c2, r1.c3, r1.own, r1.row, r1.ne, r1.sz⟩, ⟨⟨r2.chg.os, r2.chg.tape, r2.chg.output, r2.chg.size, r2.chg.block⟩, r2.row⟩⟩
end Go.Proofs.Ytcphabjekfihnaa

namespace Go.Proofs.Ytcphabjekfihnaa
open Go.RowKit Flt
attribute [local go_sem] alloc_drewN setCell_drewN run_store_float

set_option maxRecDepth 100000 in
set_option maxHeartbeats 1000000 in
theorem markI_zero (w : World) (a : Option Addr) (cap : Nat) (k : Int) : Calls Try.prog 113 #[.slice a 0 cap, .int .i64 k] w fun e w' => e = .returned (.int .i64 k) ∧ w' = w := by
  go_enter Try.func113, Try.ntmps113
  go_wp2_with fail
  refine wp_loop_rounds 1 ?_
  rw [rounds_succ]
  go_wp2
  go_ret
  exact ⟨rfl, rfl⟩
set_option maxRecDepth 100000 in
set_option maxHeartbeats 1000000 in
theorem markV_zero (w : World) (a : Option Addr) (cap : Nat) (k : Int) : Calls Try.prog 114 #[.slice a 0 cap, .int .i64 k] w fun e w' => e = .returned (.int .i64 k) ∧ w' = w := by
  go_enter Try.func114, Try.ntmps114
  go_wp2_with fail
  refine wp_loop_rounds 1 ?_
  rw [rounds_succ]
  go_wp2
  go_ret
  exact ⟨rfl, rfl⟩
set_option maxRecDepth 100000 in
set_option maxHeartbeats 1000000 in
theorem heldI_zero (w : World) (a : Option Addr) (cap : Nat) (k : Int) : Calls Try.prog 121 #[.slice a 0 cap, .int .i64 k] w fun e w' => e = .returned (.int .i64 k) ∧ w' = w := by
  go_enter Try.func121, Try.ntmps121
  go_wp2_with fail
  refine wp_loop_rounds 1 ?_
  rw [rounds_succ]
  go_wp2
  go_ret
  exact ⟨rfl, rfl⟩
set_option maxRecDepth 100000 in
set_option maxHeartbeats 1000000 in
theorem heldV_zero (w : World) (a : Option Addr) (cap : Nat) (k : Int) : Calls Try.prog 122 #[.slice a 0 cap, .int .i64 k] w fun e w' => e = .returned (.int .i64 k) ∧ w' = w := by
  go_enter Try.func122, Try.ntmps122
  go_wp2_with fail
  refine wp_loop_rounds 1 ?_
  rw [rounds_succ]
  go_wp2
  go_ret
  exact ⟨rfl, rfl⟩

/-- A slice of ints in a block of its own, or an empty one. -/
def IZ (w : World) (g : Nat) (a : Option Addr) (n : Nat) (xs : List Int) : Prop := n = 0 ∨ (a = some ⟨g, 0, none⟩ ∧ IBk w g n xs)
def VZ (w : World) (g : Nat) (a : Option Addr) (n : Nat) (vs : List Vl) : Prop := n = 0 ∨ (a = some ⟨g, 0, none⟩ ∧ VA w g n vs)
theorem IZ.keep {w w' : World} {g n l h : Nat} {a : Option Addr} {xs : List Int} (f : IZ w g a n xs) (k : Kept l h w w') (hd : g < l ∨ h ≤ g ∨ h ≤ l) : IZ w' g a n xs := f.imp id fun ⟨e, q⟩ => ⟨e, q.keep k hd⟩
theorem VZ.keep {w w' : World} {g n l h : Nat} {a : Option Addr} {xs : List Vl} (f : VZ w g a n xs) (k : Kept l h w w') (hd : g < l ∨ h ≤ g ∨ h ≤ l) : VZ w' g a n xs := f.imp id fun ⟨e, q⟩ => ⟨e, q.keep k hd⟩
/-- The marks stand. -/
def IM (w : World) (g : Nat) (a : Option Addr) (n : Nat) (k : Int) : Prop := ∃ ys, IZ w g a n ys ∧ ∀ i, i < n → ys.getD i 0 = k + i
def VM (w : World) (g : Nat) (a : Option Addr) (n : Nat) (k : Int) : Prop := ∃ ys, VZ w g a n ys ∧ ∀ i, i < n → ys.getD i Vl.zero = vm (k + 6 * i)
theorem IM.keep {w w' : World} {g n l h : Nat} {a : Option Addr} {m : Int} (f : IM w g a n m) (k : Kept l h w w') (hd : g < l ∨ h ≤ g ∨ h ≤ l) : IM w' g a n m := by
  obtain ⟨ys, h1, h2⟩ := f
  exact ⟨ys, h1.keep k hd, h2⟩
theorem VM.keep {w w' : World} {g n l h : Nat} {a : Option Addr} {m : Int} (f : VM w g a n m) (k : Kept l h w w') (hd : g < l ∨ h ≤ g ∨ h ≤ l) : VM w' g a n m := by
  obtain ⟨ys, h1, h2⟩ := f
  exact ⟨ys, h1.keep k hd, h2⟩
theorem G0.keepT {W W' : World} {p l h : Nat} {b0 b1 b2 : Value} (t : G0 W p b0 b1 b2) (k : Kept l h W W') (hd : p < l ∨ h ≤ p ∨ h ≤ l) : G0 W' p b0 b1 b2 := by
  have e : ∀ o, W'.cell? ⟨p, o, none⟩ = W.cell? ⟨p, o, none⟩ := fun o => k.cell (p := ⟨p, o, none⟩) t.sz (by show ¬ (l ≤ p ∧ p < h); omega)
  exact ⟨Nat.lt_of_lt_of_le t.sz k.size, by rw [e]; exact t.q0, by rw [e]; exact t.q1, by rw [e]; exact t.q2⟩
theorem markIZ (w : World) (g n cap : Nat) (a : Option Addr) (k : Int) (xs : List Int) (hF : IZ w g a n xs) (h0 : 0 ≤ k) (h1 : k ≤ 1099511627776) (hn : n ≤ 1099511627776) :
    Calls Try.prog 113 #[.slice a n cap, .int .i64 k] w fun e w' => e = .returned (.int .i64 (k + n)) ∧ IM w' g a n k ∧ Kept g (g + 1) w w' := by
  rcases hF with rfl | ⟨rfl, hF⟩
  · exact (markI_zero w a cap k).mono fun e w' ⟨h1, h2⟩ => ⟨by rw [h1]; simp, ⟨[], .inl rfl, fun i hi => by omega⟩, by rw [h2]; exact Kept.refl _ _ _⟩
  · exact (markIO w g n cap k xs hF h0 h1 hn).mono fun e w' ⟨h1, ⟨ys, h2, h3⟩, h4⟩ => ⟨h1, ⟨ys, .inr ⟨rfl, h2⟩, h3⟩, h4⟩
theorem markVZ (w : World) (g n cap : Nat) (a : Option Addr) (k : Int) (xs : List Vl) (hF : VZ w g a n xs) (h0 : 0 ≤ k) (h1 : k ≤ 1099511627776) (hn : n ≤ 1099511627776) :
    Calls Try.prog 114 #[.slice a n cap, .int .i64 k] w fun e w' => e = .returned (.int .i64 (k + 6 * n)) ∧ VM w' g a n k ∧ Kept g (g + 1) w w' := by
  rcases hF with rfl | ⟨rfl, hF⟩
  · exact (markV_zero w a cap k).mono fun e w' ⟨h1, h2⟩ => ⟨by rw [h1]; simp, ⟨[], .inl rfl, fun i hi => by omega⟩, by rw [h2]; exact Kept.refl _ _ _⟩
  · exact (markVA w g n cap k xs hF h0 h1 hn).mono fun e w' ⟨h1, ⟨ys, h2, h3⟩, h4⟩ => ⟨h1, ⟨ys, .inr ⟨rfl, h2⟩, h3⟩, h4⟩
theorem heldIM (w : World) (g n cap : Nat) (a : Option Addr) (k : Int) (hF : IM w g a n k) (h0 : 0 ≤ k) (h1 : k ≤ 1099511627776) (hn : n ≤ 1099511627776) :
    Calls Try.prog 121 #[.slice a n cap, .int .i64 k] w fun e w' => e = .returned (.int .i64 (k + n)) ∧ Drawn w w' := by
  obtain ⟨ys, rfl | ⟨rfl, hF⟩, hy⟩ := hF
  · exact (heldI_zero w a cap k).mono fun e w' ⟨h1, h2⟩ => ⟨by rw [h1]; simp, 0, h2⟩
  · exact heldIO w g n cap k ys hF hy h0 h1 hn
theorem heldVM (w : World) (g n cap : Nat) (a : Option Addr) (k : Int) (hF : VM w g a n k) (h0 : 0 ≤ k) (h1 : k ≤ 1099511627776) (hn : n ≤ 1099511627776) :
    Calls Try.prog 122 #[.slice a n cap, .int .i64 k] w fun e w' => e = .returned (.int .i64 (k + 6 * n)) ∧ Drawn w w' := by
  obtain ⟨ys, rfl | ⟨rfl, hF⟩, hy⟩ := hF
  · exact (heldV_zero w a cap k).mono fun e w' ⟨h1, h2⟩ => ⟨by rw [h1]; simp, 0, h2⟩
  · exact heldVA w g n cap k ys hF hy h0 h1 hn

/-- A graph whose lists lie in three blocks of their own. -/
structure OG (w : World) (g1 g2 g3 : Nat) (a1 : Option Addr) (n1 : Nat) (a2 : Option Addr) (n2 : Nat) (a3 : Option Addr) (n3 : Nat) (ins : List Int) (vs : List Vl) (outs : List Int) : Prop where
  i : IZ w g1 a1 n1 ins
  v : VZ w g2 a2 n2 vs
  o : IZ w g3 a3 n3 outs
  d12 : g1 ≠ g2
  d13 : g1 ≠ g3
  d23 : g2 ≠ g3
theorem OG.keep {w w' : World} {g1 g2 g3 n1 n2 n3 : Nat} {a1 a2 a3 : Option Addr} {ins : List Int} {vs : List Vl} {outs : List Int} (f : OG w g1 g2 g3 a1 n1 a2 n2 a3 n3 ins vs outs) (k : Kept 0 0 w w') : OG w' g1 g2 g3 a1 n1 a2 n2 a3 n3 ins vs outs :=
  ⟨f.i.keep k (.inr (.inr (Nat.le_refl _))), f.v.keep k (.inr (.inr (Nat.le_refl _))), f.o.keep k (.inr (.inr (Nat.le_refl _))), f.d12, f.d13, f.d23⟩
theorem GO.og {w : World} {lo g1 g2 g3 n1 n2 n3 : Nat} {ins : List Int} {vs : List Vl} {outs : List Int} (f : GO w lo g1 g2 g3 n2 ins vs outs) (h1 : ins.length = n1) (h3 : outs.length = n3) : OG w g1 g2 g3 (some ⟨g1, 0, none⟩) n1 (some ⟨g2, 0, none⟩) n2 (some ⟨g3, 0, none⟩) n3 ins vs outs :=
  ⟨.inr ⟨rfl, f.i.io h1⟩, .inr ⟨rfl, f.v⟩, .inr ⟨rfl, f.o.io h3⟩, by have := f.l2; omega, by have := f.l2; have := f.l3; omega, by have := f.l3; omega⟩
theorem Kept.chg1 {S : Nat → Prop} {g : Nat} {w w' : World} (k : Kept g (g + 1) w w') (h : S g) : Chg S w w' :=
  ⟨k.os, k.tape, k.output, k.size, fun i hi hn => k.block i hi fun c => hn ((show g = i by omega) ▸ h)⟩
theorem Chg.andThen {S : Nat → Prop} {a b c : World} (h : Chg S a b) (k : Chg S b c) : Chg S a c :=
  ⟨k.os.trans h.os, k.tape.trans h.tape, k.output.trans h.output, Nat.le_trans h.size k.size, fun i hi hn => (k.block i (Nat.lt_of_lt_of_le hi h.size) hn).trans (h.block i hi hn)⟩
theorem IZ.keepC {w w' : World} {S : Nat → Prop} {g n : Nat} {a : Option Addr} {xs : List Int} (f : IZ w g a n xs) (k : Chg S w w') (hd : ¬ S g) : IZ w' g a n xs := f.imp id fun ⟨e, q⟩ => ⟨e, q.len, Nat.lt_of_lt_of_le q.lt k.size, fun j hj => by rw [k.cell (p := ⟨g, j, none⟩) q.lt hd]; exact q.at_ j hj, fun o => by rw [k.frozen (p := ⟨g, o, none⟩) q.lt hd]; exact q.free o⟩
theorem VZ.keepC {w w' : World} {S : Nat → Prop} {g n : Nat} {a : Option Addr} {vs : List Vl} (f : VZ w g a n vs) (k : Chg S w w') (hd : ¬ S g) : VZ w' g a n vs := f.imp id fun ⟨e, q⟩ => ⟨e, q.len, Nat.lt_of_lt_of_le q.lt k.size, fun j hj => by
  have e : ∀ o, w'.cell? ⟨g, o, none⟩ = w.cell? ⟨g, o, none⟩ := fun o => k.cell (p := ⟨g, o, none⟩) q.lt hd
  obtain ⟨c0, c1, c2, c3, c4, c5⟩ := q.at_ j hj
  exact ⟨by rw [e]; exact c0, by rw [e]; exact c1, by rw [e]; exact c2, by rw [e]; exact c3, by rw [e]; exact c4, by rw [e]; exact c5⟩, fun o => by rw [k.frozen (p := ⟨g, o, none⟩) q.lt hd]; exact q.free o⟩
theorem OG.keepC {w w' : World} {S : Nat → Prop} {g1 g2 g3 n1 n2 n3 : Nat} {a1 a2 a3 : Option Addr} {ins : List Int} {vs : List Vl} {outs : List Int} (f : OG w g1 g2 g3 a1 n1 a2 n2 a3 n3 ins vs outs) (k : Chg S w w') (h1 : ¬ S g1) (h2 : ¬ S g2) (h3 : ¬ S g3) : OG w' g1 g2 g3 a1 n1 a2 n2 a3 n3 ins vs outs :=
  ⟨f.i.keepC k h1, f.v.keepC k h2, f.o.keepC k h3, f.d12, f.d13, f.d23⟩
/-- Marks in all three lists. -/
structure OM3 (w : World) (g1 g2 g3 : Nat) (a1 : Option Addr) (n1 : Nat) (a2 : Option Addr) (n2 : Nat) (a3 : Option Addr) (n3 : Nat) (k : Int) : Prop where
  i : IM w g1 a1 n1 k
  v : VM w g2 a2 n2 (k + n1)
  o : IM w g3 a3 n3 (k + n1 + 6 * n2)

set_option maxRecDepth 100000 in
set_option maxHeartbeats 2000000 in
theorem markOG (w : World) (g1 g2 g3 n1 n2 n3 c1 c2 c3 : Nat) (a1 a2 a3 : Option Addr) (ins : List Int) (vs : List Vl) (outs : List Int) (f : OG w g1 g2 g3 a1 n1 a2 n2 a3 n3 ins vs outs) (q1 : g1 ≠ w.heap.size) (q2 : g2 ≠ w.heap.size) (q3 : g3 ≠ w.heap.size) (k : Int) (h0 : 0 ≤ k) (h1 : k ≤ 1000000000) (b1 : n1 ≤ 1048576) (b2 : n2 ≤ 1048576) (b3 : n3 ≤ 1048576) :
    Calls Try.prog 45 #[gagg a1 n1 c1 a2 n2 c2 a3 n3 c3, .int .i64 k] w fun e w' => e = .returned (.int .i64 (k + n1 + 6 * n2 + n3)) ∧ OM3 w' g1 g2 g3 a1 n1 a2 n2 a3 n3 k ∧ Chg (fun i => i = g1 ∨ i = g2 ∨ i = g3) w w' := by
  have ka := kept_alloc 0 0 w (gbox a1 n1 c1 a2 n2 c2 a3 n3 c3)
  have hB := g0_start w (.slice a1 n1 c1) (.slice a2 n2 c2) (.slice a3 n3 c3)
  have fw := f.keep ka
  have HO : Hid (g1 ≠ w.heap.size ∧ g2 ≠ w.heap.size ∧ g3 ≠ w.heap.size ∧ g1 ≠ g2 ∧ g1 ≠ g3 ∧ g2 ≠ g3) := ⟨q1, q2, q3, f.d12, f.d13, f.d23⟩
  have HFI : Hid _ := fw.i
  have HFV : Hid _ := fw.v
  have HFO : Hid _ := fw.o
  have HB : Hid _ := hB
  have HK : Hid (Chg (fun i => i = g1 ∨ i = g2 ∨ i = g3) w (w.alloc (gbox a1 n1 c1 a2 n2 c2 a3 n3 c3))) := ka.chg
  clear f ka fw hB q1 q2 q3
  go_enter Try.func45, Try.ntmps45
  go_wp2_with fail
  generalize hw1 : w.alloc (gbox a1 n1 c1 a2 n2 c2 a3 n3 c3) = w1 at HFI HFV HFO HB HK ⊢
  clear hw1
  refine Calls.mono (markIZ _ g1 n1 _ a1 k ins HFI.out h0 (by omega) (by omega)) ?_
  rintro e w2 ⟨rfl, m2, k2⟩
  have HM2 : Hid _ := m2
  have HFV2 : Hid _ := VZ.keep HFV.out k2 (by have := HO.out; omega)
  have HFO2 : Hid _ := IZ.keep HFO.out k2 (by have := HO.out; omega)
  have HB2 : Hid _ := G0.keepT HB.out k2 (by have := HO.out; omega)
  have HK2 : Hid _ := Chg.andThen HK.out (k2.chg1 (.inl rfl))
  clear k2 m2 HFI HFV HFO HB HK
  obtain ⟨_, q0, q1, q2⟩ := HB2.out
  go_wp2_with fail
  clear q0 q1 q2
  refine Calls.mono (markVZ _ g2 n2 _ a2 (k + n1) vs HFV2.out (by omega) (by omega) (by omega)) ?_
  rintro e w3 ⟨rfl, m3, k3⟩
  have HM2b : Hid _ := IM.keep HM2.out k3 (by have := HO.out; omega)
  have HM3 : Hid _ := m3
  have HFO3 : Hid _ := IZ.keep HFO2.out k3 (by have := HO.out; omega)
  have HB3 : Hid _ := G0.keepT HB2.out k3 (by have := HO.out; omega)
  have HK3 : Hid _ := Chg.andThen HK2.out (k3.chg1 (.inr (.inl rfl)))
  clear k3 m3 HFV2 HFO2 HB2 HK2 HM2
  obtain ⟨_, q0, q1, q2⟩ := HB3.out
  go_wp2_with fail
  clear q0 q1 q2
  refine Calls.mono (markIZ _ g3 n3 _ a3 (k + n1 + 6 * n2) outs HFO3.out (by omega) (by omega) (by omega)) ?_
  rintro e w4 ⟨rfl, m4, k4⟩
  have R1 : Hid _ := IM.keep HM2b.out k4 (by have := HO.out; omega)
  have R2 : Hid _ := VM.keep HM3.out k4 (by have := HO.out; omega)
  have R3 : Hid _ := m4
  have HK4 : Hid _ := Chg.andThen HK3.out (k4.chg1 (.inr (.inr rfl)))
  clear k4 m4 HFO3 HB3 HK3 HM2b HM3
  go_wp2
  go_ret
  exact ⟨rfl, ⟨R1.out, R2.out, R3.out⟩, HK4.out⟩

set_option maxRecDepth 100000 in
set_option maxHeartbeats 2000000 in
theorem heldOM (w : World) (g1 g2 g3 n1 n2 n3 c1 c2 c3 : Nat) (a1 a2 a3 : Option Addr) (k : Int) (f : OM3 w g1 g2 g3 a1 n1 a2 n2 a3 n3 k) (h0 : 0 ≤ k) (h1 : k ≤ 1000000000) (b1 : n1 ≤ 1048576) (b2 : n2 ≤ 1048576) (b3 : n3 ≤ 1048576) :
    Calls Try.prog 50 #[gagg a1 n1 c1 a2 n2 c2 a3 n3 c3, .int .i64 k] w fun e w' => e = .returned (.int .i64 (k + n1 + 6 * n2 + n3)) ∧ Kept 0 0 w w' := by
  have ka := kept_alloc 0 0 w (gbox a1 n1 c1 a2 n2 c2 a3 n3 c3)
  have hB := g0_start w (.slice a1 n1 c1) (.slice a2 n2 c2) (.slice a3 n3 c3)
  have HFI : Hid _ := f.i.keep ka (.inr (.inr (Nat.le_refl _)))
  have HFV : Hid _ := f.v.keep ka (.inr (.inr (Nat.le_refl _)))
  have HFO : Hid _ := f.o.keep ka (.inr (.inr (Nat.le_refl _)))
  have HB : Hid _ := hB
  have HK : Hid _ := ka
  clear f ka hB
  go_enter Try.func50, Try.ntmps50
  go_wp2_with fail
  generalize hw1 : w.alloc (gbox a1 n1 c1 a2 n2 c2 a3 n3 c3) = w1 at HFI HFV HFO HB HK ⊢
  clear hw1
  refine Calls.mono (heldIM _ g1 n1 _ a1 k HFI.out h0 (by omega) (by omega)) ?_
  rintro e w2 ⟨rfl, d2⟩
  have k2 := d2.kept 0 0
  have HFV2 : Hid _ := VM.keep HFV.out k2 (.inr (.inr (Nat.le_refl _)))
  have HFO2 : Hid _ := IM.keep HFO.out k2 (.inr (.inr (Nat.le_refl _)))
  have HB2 : Hid _ := G0.keep HB.out k2
  have HK2 : Hid _ := Kept.trans HK.out k2
  have t1 : ¬ (k + (n1 : Int) < 0) := by omega
  clear k2 d2 HFI HFV HFO HB HK
  obtain ⟨_, q0, q1, q2⟩ := HB2.out
  go_wp2_with fail
  clear q0 q1 q2
  refine Calls.mono (heldVM _ g2 n2 _ a2 (k + n1) HFV2.out (by omega) (by omega) (by omega)) ?_
  rintro e w3 ⟨rfl, d3⟩
  have k3 := d3.kept 0 0
  have HFO3 : Hid _ := IM.keep HFO2.out k3 (.inr (.inr (Nat.le_refl _)))
  have HB3 : Hid _ := G0.keep HB2.out k3
  have HK3 : Hid _ := Kept.trans HK2.out k3
  have t2 : ¬ (k + (n1 : Int) + 6 * (n2 : Int) < 0) := by omega
  clear k3 d3 HFV2 HFO2 HB2 HK2
  obtain ⟨_, q0, q1, q2⟩ := HB3.out
  go_wp2_with fail
  clear q0 q1 q2
  refine Calls.mono (heldIM _ g3 n3 _ a3 (k + n1 + 6 * n2) HFO3.out (by omega) (by omega) (by omega)) ?_
  rintro e w4 ⟨rfl, d4⟩
  have HK4 : Hid _ := Kept.trans HK3.out (d4.kept 0 0)
  have t3 : ¬ (k + (n1 : Int) + 6 * (n2 : Int) + (n3 : Int) < 0) := by omega
  clear d4 HFO3 HB3 HK3
  go_wp2
  go_ret
  exact ⟨rfl, HK4.out⟩
end Go.Proofs.Ytcphabjekfihnaa
