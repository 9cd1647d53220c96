import Derived.Test.YtdkjdlimcnddkaaA30
import Derived.Test.YtdkjdlimcnddkaaA13
import Derived.Test.YtdkjdlimcnddkaaA12
import Derived.Test.YtdkjdlimcnddkaaA25
namespace Go.Proofs.Ytdkjdlimcnddkaa
open Go.RowKit Flt
attribute [local go_sem] alloc_drewN setCell_drewN run_store_float

def flatT : List Ste → List Value
  | [] => []
  | v :: r => v.cells ++ flatT r
theorem flatT_append (a b : List Ste) : flatT (a ++ b) = flatT a ++ flatT b := by
  induction a with
  | nil => rfl
  | cons x r ih => simp [flatT, ih]
theorem flatT_one (v : Ste) : flatT [v] = v.cells := by simp [flatT]
theorem flatT_len (a : List Ste) : (flatT a).length = a.length * 8 := by
  induction a with
  | nil => rfl
  | cons x r ih => simp only [flatT, List.length_append, ih, List.length_cons]; simp only [Ste.cells, List.length_cons, List.length_nil]; omega
theorem flatT_at : ∀ (a : List Ste) (k j : Nat), k < a.length → j < 8 → (flatT a)[k * 8 + j]? = (a.getD k Ste.zero).cells[j]?
  | [], k, j, hk, _ => by simp at hk
  | x :: r, 0, j, _, hj => by
    have : (x :: r).getD 0 Ste.zero = x := rfl
    rw [this, flatT, List.getElem?_append_left (by simp only [Ste.cells, List.length_cons, List.length_nil]; omega), Nat.zero_mul, Nat.zero_add]
  | x :: r, k + 1, j, hk, hj => by
    have : (x :: r).getD (k + 1) Ste.zero = r.getD k Ste.zero := rfl
    rw [this, flatT, List.getElem?_append_right (by simp only [Ste.cells, List.length_cons, List.length_nil]; omega)]
    have e : (k + 1) * 8 + j - x.cells.length = k * 8 + j := by simp only [Ste.cells, List.length_cons, List.length_nil]; omega
    rw [e]
    exact flatT_at r k j (by simpa using hk) hj
theorem own_ts {W : World} {base n d : Nat} {b : Option Addr} {xs : List Ste} (h : W.ownsRow base 80 8 (.slice b n d) n (flatT xs)) (hl : xs.length = n) (hk : ∀ v ∈ xs, v.k < 18446744073709551616) : TS W 0 W.heap.size b n xs := by
  refine ⟨hl, hk, ?_⟩
  rcases h.2 with ⟨_, c⟩ | ⟨g, cap, cur, e, b1, b2, b3, _, b5, b6⟩
  · exact .inl c
  · injection e with q1 q2 q3
    have hg : g < W.heap.size := by
      rcases Nat.lt_or_ge g W.heap.size with c | c
      · exact c
      · rw [Array.getElem?_eq_none c] at b2; cases b2
    refine .inr ⟨g, 0, q1, Nat.zero_le _, hg, hg, fun k hk => ?_⟩
    have hc : ∀ j, j < 8 → W.cell? ⟨g, 0 + k * 8 + j, none⟩ = (xs.getD k Ste.zero).cells[j]? := fun j hj => by
      rw [cell_of_row W g _ cur _ _ b2, ← Array.getElem?_toList]
      have : (cur.toList.take (n * 8))[k * 8 + j]? = (flatT xs)[k * 8 + j]? := by rw [b6]
      rw [List.getElem?_take_of_lt (by omega), flatT_at _ _ _ (by omega) hj] at this
      rw [Nat.zero_add]
      exact this
    exact ⟨hc 0 (by omega), hc 1 (by omega), hc 2 (by omega), hc 3 (by omega), hc 4 (by omega), hc 5 (by omega), hc 6 (by omega), hc 7 (by omega)⟩
def flatP : List Spn → List Value
  | [] => []
  | v :: r => v.cells ++ flatP r
theorem flatP_append (a b : List Spn) : flatP (a ++ b) = flatP a ++ flatP b := by
  induction a with
  | nil => rfl
  | cons x r ih => simp [flatP, ih]
theorem flatP_one (v : Spn) : flatP [v] = v.cells := by simp [flatP]
theorem flatP_len (a : List Spn) : (flatP a).length = a.length * 2 := by
  induction a with
  | nil => rfl
  | cons x r ih => simp only [flatP, List.length_append, ih, List.length_cons]; simp only [Spn.cells, List.length_cons, List.length_nil]; omega
theorem flatP_at : ∀ (a : List Spn) (k j : Nat), k < a.length → j < 2 → (flatP a)[k * 2 + j]? = (a.getD k Spn.zero).cells[j]?
  | [], k, j, hk, _ => by simp at hk
  | x :: r, 0, j, _, hj => by
    have : (x :: r).getD 0 Spn.zero = x := rfl
    rw [this, flatP, List.getElem?_append_left (by simp only [Spn.cells, List.length_cons, List.length_nil]; omega), Nat.zero_mul, Nat.zero_add]
  | x :: r, k + 1, j, hk, hj => by
    have : (x :: r).getD (k + 1) Spn.zero = r.getD k Spn.zero := rfl
    rw [this, flatP, List.getElem?_append_right (by simp only [Spn.cells, List.length_cons, List.length_nil]; omega)]
    have e : (k + 1) * 2 + j - x.cells.length = k * 2 + j := by simp only [Spn.cells, List.length_cons, List.length_nil]; omega
    rw [e]
    exact flatP_at r k j (by simpa using hk) hj
theorem own_ps {W : World} {base n d : Nat} {b : Option Addr} {xs : List Spn} (h : W.ownsRow base 83 2 (.slice b n d) n (flatP xs)) (hl : xs.length = n) : PS W 0 W.heap.size b n xs := by
  refine ⟨hl, ?_⟩
  rcases h.2 with ⟨_, c⟩ | ⟨g, cap, cur, e, b1, b2, b3, _, b5, b6⟩
  · exact .inl c
  · injection e with q1 q2 q3
    have hg : g < W.heap.size := by
      rcases Nat.lt_or_ge g W.heap.size with c | c
      · exact c
      · rw [Array.getElem?_eq_none c] at b2; cases b2
    refine .inr ⟨g, 0, q1, Nat.zero_le _, hg, hg, fun k hk => ?_⟩
    have hc : ∀ j, j < 2 → W.cell? ⟨g, 0 + k * 2 + j, none⟩ = (xs.getD k Spn.zero).cells[j]? := fun j hj => by
      rw [cell_of_row W g _ cur _ _ b2, ← Array.getElem?_toList]
      have : (cur.toList.take (n * 2))[k * 2 + j]? = (flatP xs)[k * 2 + j]? := by rw [b6]
      rw [List.getElem?_take_of_lt (by omega), flatP_at _ _ _ (by omega) hj] at this
      rw [Nat.zero_add]
      exact this
    exact ⟨hc 0 (by omega), hc 1 (by omega)⟩
/-- The step of value i. -/
def steM (vs : List Vl) (ps : List Int) (i : Nat) : Ste :=
  ⟨(vs.getD i Vl.zero).op, (vs.getD i Vl.zero).len,
   if 0 < cnt (vs.getD i Vl.zero).op then (vs.getD (vs.getD i Vl.zero).a.toNat Vl.zero).len else 0,
   ps.getD i 0,
   if 0 < cnt (vs.getD i Vl.zero).op then ps.getD (vs.getD i Vl.zero).a.toNat 0 else (vs.getD i Vl.zero).a,
   if 1 < cnt (vs.getD i Vl.zero).op then ps.getD (vs.getD i Vl.zero).b.toNat 0 else (vs.getD i Vl.zero).b,
   if 2 < cnt (vs.getD i Vl.zero).op then ps.getD (vs.getD i Vl.zero).c.toNat 0 else (vs.getD i Vl.zero).c,
   if (vs.getD i Vl.zero).op = 1 then (vs.getD i Vl.zero).k else 0⟩
def stesTo (vs : List Vl) (ps : List Int) (k : Nat) : List Ste := (List.range k).map (steM vs ps)
theorem stesTo_succ (vs : List Vl) (ps : List Int) (k : Nat) : stesTo vs ps (k + 1) = stesTo vs ps k ++ [steM vs ps k] := by
  unfold stesTo
  rw [List.range_succ, List.map_append]; rfl
theorem stesTo_len (vs : List Vl) (ps : List Int) (k : Nat) : (stesTo vs ps k).length = k := by simp [stesTo]
/-- How far the first k values reach. -/
def peakTo (vs : List Vl) (ps : List Int) : Nat → Int
  | 0 => 0
  | k + 1 => if peakTo vs ps k < ps.getD k 0 + (vs.getD k Vl.zero).len then ps.getD k 0 + (vs.getD k Vl.zero).len else peakTo vs ps k
/-- The cells of value o. -/
def spnM (vs : List Vl) (ps : List Int) (o : Int) : Spn := ⟨ps.getD o.toNat 0, (vs.getD o.toNat Vl.zero).len⟩
/-- The box of a code that is being laid. -/
structure KB (W : World) (p : Nat) (b0 b1 b2 b3 : Value) : Prop where
  sz : p < W.heap.size
  q0 : W.cell? ⟨p, 0, none⟩ = some b0
  q1 : W.cell? ⟨p, 1, none⟩ = some b1
  q2 : W.cell? ⟨p, 2, none⟩ = some b2
  q3 : W.cell? ⟨p, 3, none⟩ = some b3
  f0 : W.frozen? ⟨p, 0, none⟩ = false
  f1 : W.frozen? ⟨p, 1, none⟩ = false
  f2 : W.frozen? ⟨p, 2, none⟩ = false
  f3 : W.frozen? ⟨p, 3, none⟩ = false
theorem KB.keepC {W W' : World} {S : Nat → Prop} {p : Nat} {b0 b1 b2 b3 : Value} (t : KB W p b0 b1 b2 b3) (k : Chg S W W') (hd : ¬ S p) : KB W' p b0 b1 b2 b3 := by
  have e : ∀ o, W'.cell? ⟨p, o, none⟩ = W.cell? ⟨p, o, none⟩ := fun o => World.cell?_of_block (k.block p t.sz hd)
  have f : ∀ o, W'.frozen? ⟨p, o, none⟩ = W.frozen? ⟨p, o, none⟩ := fun o => World.frozen?_of_block (k.block p t.sz hd)
  exact ⟨Nat.lt_of_lt_of_le t.sz k.size, by rw [e]; exact t.q0, by rw [e]; exact t.q1, by rw [e]; exact t.q2, by rw [e]; exact t.q3, by rw [f]; exact t.f0, by rw [f]; exact t.f1, by rw [f]; exact t.f2, by rw [f]; exact t.f3⟩
theorem KB.keep {W W' : World} {p : Nat} {b0 b1 b2 b3 : Value} (t : KB W p b0 b1 b2 b3) (k : Kept 0 0 W W') : KB W' p b0 b1 b2 b3 := t.keepC (S := fun _ => False) k.chg (fun h => h)
theorem KB.put1 {W : World} {p : Nat} {b0 b1 b2 b3 : Value} (t : KB W p b0 b1 b2 b3) (v : Value) : KB (W.setCell ⟨p, 1, none⟩ v) p b0 v b2 b3 :=
  ⟨by simpa using t.sz, by rw [cell_ne _ _ _ _ _ _ (.inr (by omega))]; exact t.q0, cell_eq _ _ _ _ _ t.q1, by rw [cell_ne _ _ _ _ _ _ (.inr (by omega))]; exact t.q2, by rw [cell_ne _ _ _ _ _ _ (.inr (by omega))]; exact t.q3, by simp [t.f0], by simp [t.f1], by simp [t.f2], by simp [t.f3]⟩
theorem KB.put2 {W : World} {p : Nat} {b0 b1 b2 b3 : Value} (t : KB W p b0 b1 b2 b3) (v : Value) : KB (W.setCell ⟨p, 2, none⟩ v) p b0 b1 v b3 :=
  ⟨by simpa using t.sz, by rw [cell_ne _ _ _ _ _ _ (.inr (by omega))]; exact t.q0, by rw [cell_ne _ _ _ _ _ _ (.inr (by omega))]; exact t.q1, cell_eq _ _ _ _ _ t.q2, by rw [cell_ne _ _ _ _ _ _ (.inr (by omega))]; exact t.q3, by simp [t.f0], by simp [t.f1], by simp [t.f2], by simp [t.f3]⟩
theorem KB.put3 {W : World} {p : Nat} {b0 b1 b2 b3 : Value} (t : KB W p b0 b1 b2 b3) (v : Value) : KB (W.setCell ⟨p, 3, none⟩ v) p b0 b1 b2 v :=
  ⟨by simpa using t.sz, by rw [cell_ne _ _ _ _ _ _ (.inr (by omega))]; exact t.q0, by rw [cell_ne _ _ _ _ _ _ (.inr (by omega))]; exact t.q1, by rw [cell_ne _ _ _ _ _ _ (.inr (by omega))]; exact t.q2, cell_eq _ _ _ _ _ t.q3, by simp [t.f0], by simp [t.f1], by simp [t.f2], by simp [t.f3]⟩
/-- What l5plan has laid: the code's box at C, its steps and its outputs in rows from B on. -/
structure LP (W w1 : World) (C B : Nat) (x0 u v : Value) (k m : Nat) (pk : Int) (ss : List Ste) (os : List Spn) : Prop where
  bx : KB W C x0 u v (.int .i64 pk)
  pu : W.ownsRow B 80 8 u k (flatT ss)
  pv : W.ownsRow B 83 2 v m (flatP os)
  ne : ∀ g, u.ownBlock = some g → v.ownBlock ≠ some g
  ch : Chg (fun b => b = C ∨ B ≤ b) w1 W
  bz : B ≤ W.heap.size
theorem LP.keep {W W' w1 : World} {C B : Nat} {x0 u v : Value} {k m : Nat} {pk : Int} {ss : List Ste} {os : List Spn} (f : LP W w1 C B x0 u v k m pk ss os) (q : Kept 0 0 W W') : LP W' w1 C B x0 u v k m pk ss os :=
  ⟨f.bx.keep q, own_keepJ f.pu q, own_keepJ f.pv q, f.ne, Chg.trans f.ch q.chg, Nat.le_trans f.bz q.size⟩
/-- A step is appended, in two moves: the row, then the box. -/
theorem LP.mid {W w9 w1 : World} {C B : Nat} {x0 u v : Value} {k m : Nat} {pk : Int} {ss : List Ste} {os : List Spn} {o : Obj} {z : Nat} (f : LP W w1 C B x0 u v k m pk ss os) (hC : C < B) (hg : ((W.alloc o).drewN z).grownBy w9 u.ownBlock) : KB w9 C x0 u v (.int .i64 pk) := by
  have ka : Kept 0 0 W ((W.alloc o).drewN z) := (kept_alloc 0 0 W o).trans (kept_drewN 0 0 _ z)
  exact (f.bx.keep ka).keepC (chg_grow hg) (fun c => by have := (own_blkV f.pu c).1; omega)
theorem LP.putU {W w9 w1 : World} {C B : Nat} {x0 u v : Value} {k m : Nat} {pk : Int} {ss : List Ste} {os : List Spn} {o : Obj} {z g cap : Nat} {s : Ste} (f : LP W w1 C B x0 u v k m pk ss os) (hC : C < B) (ho : w9.ownsRow B 80 8 (.slice (some ⟨g, 0, none⟩) (k + 1) cap) (k + 1) (flatT ss ++ s.cells)) (hg : ((W.alloc o).drewN z).grownBy w9 u.ownBlock) (ha : u.ownBlock = some g ∨ g = W.heap.size + 1) :
    LP (w9.setCell ⟨C, 1, none⟩ (.slice (some ⟨g, 0, none⟩) (k + 1) cap)) w1 C B x0 (.slice (some ⟨g, 0, none⟩) (k + 1) cap) v (k + 1) m pk (ss ++ [s]) os := by
  have ka : Kept 0 0 W ((W.alloc o).drewN z) := (kept_alloc 0 0 W o).trans (kept_drewN 0 0 _ z)
  have cg := chg_grow hg
  have hR : ∀ b, u.ownBlock = some b → B ≤ b := fun b hb => (own_blkV f.pu hb).1
  have ko := kept_setCell (lo := C) (hi := C + 1) w9 ⟨C, 1, none⟩ (.slice (some ⟨g, 0, none⟩) (k + 1) cap) (.inl ⟨Nat.le_refl _, Nat.lt_succ_self _⟩)
  have hgB := (own_blkV ho (k := g) rfl).1
  refine ⟨(LP.mid f hC hg).put1 _, ?_, ?_, ?_, ?_, ?_⟩
  · rw [flatT_append, flatT_one]
    exact own_setCell ho (fun c => by simp [Value.ownBlock] at c; omega)
  · refine own_setCell (own_keepC (own_keepJ f.pv ka) cg ?_) (fun c => by have := (own_blkV f.pv c).1; omega)
    intro b hb c
    exact f.ne b c hb
  · intro b hb hv
    simp [Value.ownBlock] at hb
    subst hb
    rcases ha with c | c
    · exact f.ne g c hv
    · have := (own_blkV f.pv hv).2
      omega
  · exact Chg.trans f.ch (Chg.trans ka.chg (Chg.trans (cg.mono fun b _ c => .inr (hR b c)) (ko.chg1 (.inl rfl))))
  · have h1 := f.bz
    have h5 := ka.size
    have h6 := cg.size
    have h7 := ko.size
    omega
theorem LP.midV {W w9 w1 : World} {C B : Nat} {x0 u v : Value} {k m : Nat} {pk : Int} {ss : List Ste} {os : List Spn} {o : Obj} {z : Nat} (f : LP W w1 C B x0 u v k m pk ss os) (hC : C < B) (hg : ((W.alloc o).drewN z).grownBy w9 v.ownBlock) : KB w9 C x0 u v (.int .i64 pk) := by
  have ka : Kept 0 0 W ((W.alloc o).drewN z) := (kept_alloc 0 0 W o).trans (kept_drewN 0 0 _ z)
  exact (f.bx.keep ka).keepC (chg_grow hg) (fun c => by have := (own_blkV f.pv c).1; omega)
theorem LP.putV {W w9 w1 : World} {C B : Nat} {x0 u v : Value} {k m : Nat} {pk : Int} {ss : List Ste} {os : List Spn} {o : Obj} {z g cap : Nat} {s : Spn} (f : LP W w1 C B x0 u v k m pk ss os) (hC : C < B) (ho : w9.ownsRow B 83 2 (.slice (some ⟨g, 0, none⟩) (m + 1) cap) (m + 1) (flatP os ++ s.cells)) (hg : ((W.alloc o).drewN z).grownBy w9 v.ownBlock) (ha : v.ownBlock = some g ∨ g = W.heap.size + 1) :
    LP (w9.setCell ⟨C, 2, none⟩ (.slice (some ⟨g, 0, none⟩) (m + 1) cap)) w1 C B x0 u (.slice (some ⟨g, 0, none⟩) (m + 1) cap) k (m + 1) pk ss (os ++ [s]) := by
  have ka : Kept 0 0 W ((W.alloc o).drewN z) := (kept_alloc 0 0 W o).trans (kept_drewN 0 0 _ z)
  have cg := chg_grow hg
  have hR : ∀ b, v.ownBlock = some b → B ≤ b := fun b hb => (own_blkV f.pv hb).1
  have ko := kept_setCell (lo := C) (hi := C + 1) w9 ⟨C, 2, none⟩ (.slice (some ⟨g, 0, none⟩) (m + 1) cap) (.inl ⟨Nat.le_refl _, Nat.lt_succ_self _⟩)
  have hgB := (own_blkV ho (k := g) rfl).1
  refine ⟨(LP.midV f hC hg).put2 _, ?_, ?_, ?_, ?_, ?_⟩
  · refine own_setCell (own_keepC (own_keepJ f.pu ka) cg ?_) (fun c => by have := (own_blkV f.pu c).1; omega)
    intro b hb c
    exact f.ne b hb c
  · rw [flatP_append, flatP_one]
    exact own_setCell ho (fun c => by simp [Value.ownBlock] at c; omega)
  · intro b hb hv
    simp [Value.ownBlock] at hv
    subst hv
    rcases ha with c | c
    · exact f.ne _ hb c
    · have := (own_blkV f.pu hb).2
      omega
  · exact Chg.trans f.ch (Chg.trans ka.chg (Chg.trans (cg.mono fun b _ c => .inr (hR b c)) (ko.chg1 (.inl rfl))))
  · have h1 := f.bz
    have h5 := ka.size
    have h6 := cg.size
    have h7 := ko.size
    omega
/-- A new peak. -/
theorem LP.putP {W w1 : World} {C B : Nat} {x0 u v : Value} {k m : Nat} {pk : Int} {ss : List Ste} {os : List Spn} (f : LP W w1 C B x0 u v k m pk ss os) (hC : C < B) (x : Int) : LP (W.setCell ⟨C, 3, none⟩ (.int .i64 x)) w1 C B x0 u v k m x ss os := by
  have ko := kept_setCell (lo := C) (hi := C + 1) W ⟨C, 3, none⟩ (.int .i64 x) (.inl ⟨Nat.le_refl _, Nat.lt_succ_self _⟩)
  exact ⟨f.bx.put3 _, own_setCell f.pu (fun c => by have := (own_blkV f.pu c).1; omega), own_setCell f.pv (fun c => by have := (own_blkV f.pv c).1; omega), f.ne, Chg.trans f.ch (ko.chg1 (.inl rfl)), Nat.le_trans f.bz ko.size⟩
theorem news8 (w : World) (v : Ste) (m : Nat) : ∀ j u, v.cells[j]? = some u → ((w.alloc v.box).drewN m).cell? ((⟨w.heap.size, 0, none⟩ : Addr).add j) = some u :=
  World.news_of_block (w := w.alloc v.box) (t := 80) (fr := (0, 0)) (cs := #[.int .i64 v.op, .int .i64 v.len, .int .i64 v.n, .int .i64 v.dst, .int .i64 v.a, .int .i64 v.b, .int .i64 v.c, .float .f64 v.k]) (heap_new w _)
theorem one8 (v : Ste) : ∀ u ∈ v.cells, u.oneCell' = true := by
  intro u hu
  simp [Ste.cells] at hu
  rcases hu with rfl | rfl | rfl | rfl | rfl | rfl | rfl | rfl <;> rfl
theorem news2 (w : World) (v : Spn) (m : Nat) : ∀ j u, v.cells[j]? = some u → ((w.alloc v.box).drewN m).cell? ((⟨w.heap.size, 0, none⟩ : Addr).add j) = some u :=
  World.news_of_block (w := w.alloc v.box) (t := 83) (fr := (0, 0)) (cs := #[.int .i64 v.off, .int .i64 v.len]) (heap_new w _)
theorem one2 (v : Spn) : ∀ u ∈ v.cells, u.oneCell' = true := by
  intro u hu
  simp [Spn.cells] at hu
  rcases hu with rfl | rfl <;> rfl
theorem atV_new (w : World) (v : Vl) : At (w.alloc (vbox v.op v.len v.a v.b v.c v.k)) w.heap.size 0 v := by
  constructor
  all_goals first | (go_simp; done) | (simp; done)
theorem atT_new (w : World) (v : Ste) : AtT (w.alloc v.box) w.heap.size 0 v := by
  constructor
  all_goals first | (go_simp; done) | (simp; done)
theorem put4_0 (w : World) (g : Nat) (b0 b1 b2 b3 : Value) (c0 : w.cell? ⟨g, 0, none⟩ = some b0) (c1 : w.cell? ⟨g, 1, none⟩ = some b1) (c2 : w.cell? ⟨g, 2, none⟩ = some b2) (c3 : w.cell? ⟨g, 3, none⟩ = some b3) (x y z u : Value) :
    (put4 w g x y z u).cell? ⟨g, 0, none⟩ = some x ∧ (put4 w g x y z u).cell? ⟨g, 1, none⟩ = some y ∧ (put4 w g x y z u).cell? ⟨g, 2, none⟩ = some z ∧ (put4 w g x y z u).cell? ⟨g, 3, none⟩ = some u := by
  unfold put4
  refine ⟨?_, ?_, ?_, ?_⟩
  · rw [cell_ne _ _ _ _ _ _ (.inr (by omega)), cell_ne _ _ _ _ _ _ (.inr (by omega)), cell_ne _ _ _ _ _ _ (.inr (by omega))]
    exact cell_eq _ _ _ _ _ c0
  · rw [cell_ne _ _ _ _ _ _ (.inr (by omega)), cell_ne _ _ _ _ _ _ (.inr (by omega))]
    exact cell_eq _ _ _ _ _ (by rw [cell_ne _ _ _ _ _ _ (.inr (by omega))]; exact c1)
  · rw [cell_ne _ _ _ _ _ _ (.inr (by omega))]
    exact cell_eq _ _ _ _ _ (by rw [cell_ne _ _ _ _ _ _ (.inr (by omega)), cell_ne _ _ _ _ _ _ (.inr (by omega))]; exact c2)
  · exact cell_eq _ _ _ _ _ (by rw [cell_ne _ _ _ _ _ _ (.inr (by omega)), cell_ne _ _ _ _ _ _ (.inr (by omega)), cell_ne _ _ _ _ _ _ (.inr (by omega))]; exact c3)
theorem kb_start (w : World) : KB (w.alloc cbox0) w.heap.size (.slice none 0 0) (.slice none 0 0) (.slice none 0 0) (.int .i64 0) := by
  constructor
  all_goals first | (go_simp; done) | (simp; done)
theorem kb_one (w : World) (x : Value) : KB (w.alloc (.cells #[x, .slice none 0 0, .slice none 0 0, .int .i64 0] 39)) w.heap.size x (.slice none 0 0) (.slice none 0 0) (.int .i64 0) := by
  constructor
  all_goals first | (go_simp; done) | (simp; done)
theorem lp_start (w : World) (x : Value) : LP (w.alloc (.cells #[x, .slice none 0 0, .slice none 0 0, .int .i64 0] 39)) w w.heap.size (w.heap.size + 1) x (.slice none 0 0) (.slice none 0 0) 0 0 0 [] [] :=
  ⟨kb_one w x, World.ownsRow_nil _ _ _ _, World.ownsRow_nil _ _ _ _, fun g h => by simp [Value.ownBlock] at h, (kept_alloc 0 0 w _).chg, by simp⟩
theorem AtT.put2 {W : World} {S : Nat} {s : Ste} (t : AtT W S 0 s) (x : Int) : AtT (W.setCell ⟨S, 2, none⟩ (.int .i64 x)) S 0 ⟨s.op, s.len, x, s.dst, s.a, s.b, s.c, s.k⟩ :=
  ⟨by rw [cell_ne _ _ _ _ _ _ (.inr (by omega))]; exact t.c0, by rw [cell_ne _ _ _ _ _ _ (.inr (by omega))]; exact t.c1, cell_eq _ _ _ _ _ t.c2, by rw [cell_ne _ _ _ _ _ _ (.inr (by omega))]; exact t.c3, by rw [cell_ne _ _ _ _ _ _ (.inr (by omega))]; exact t.c4, by rw [cell_ne _ _ _ _ _ _ (.inr (by omega))]; exact t.c5, by rw [cell_ne _ _ _ _ _ _ (.inr (by omega))]; exact t.c6, by rw [cell_ne _ _ _ _ _ _ (.inr (by omega))]; exact t.c7⟩
theorem AtT.put4 {W : World} {S : Nat} {s : Ste} (t : AtT W S 0 s) (x : Int) : AtT (W.setCell ⟨S, 4, none⟩ (.int .i64 x)) S 0 ⟨s.op, s.len, s.n, s.dst, x, s.b, s.c, s.k⟩ :=
  ⟨by rw [cell_ne _ _ _ _ _ _ (.inr (by omega))]; exact t.c0, by rw [cell_ne _ _ _ _ _ _ (.inr (by omega))]; exact t.c1, by rw [cell_ne _ _ _ _ _ _ (.inr (by omega))]; exact t.c2, by rw [cell_ne _ _ _ _ _ _ (.inr (by omega))]; exact t.c3, cell_eq _ _ _ _ _ t.c4, by rw [cell_ne _ _ _ _ _ _ (.inr (by omega))]; exact t.c5, by rw [cell_ne _ _ _ _ _ _ (.inr (by omega))]; exact t.c6, by rw [cell_ne _ _ _ _ _ _ (.inr (by omega))]; exact t.c7⟩
theorem AtT.put5 {W : World} {S : Nat} {s : Ste} (t : AtT W S 0 s) (x : Int) : AtT (W.setCell ⟨S, 5, none⟩ (.int .i64 x)) S 0 ⟨s.op, s.len, s.n, s.dst, s.a, x, s.c, s.k⟩ :=
  ⟨by rw [cell_ne _ _ _ _ _ _ (.inr (by omega))]; exact t.c0, by rw [cell_ne _ _ _ _ _ _ (.inr (by omega))]; exact t.c1, by rw [cell_ne _ _ _ _ _ _ (.inr (by omega))]; exact t.c2, by rw [cell_ne _ _ _ _ _ _ (.inr (by omega))]; exact t.c3, by rw [cell_ne _ _ _ _ _ _ (.inr (by omega))]; exact t.c4, cell_eq _ _ _ _ _ t.c5, by rw [cell_ne _ _ _ _ _ _ (.inr (by omega))]; exact t.c6, by rw [cell_ne _ _ _ _ _ _ (.inr (by omega))]; exact t.c7⟩
theorem AtT.put6 {W : World} {S : Nat} {s : Ste} (t : AtT W S 0 s) (x : Int) : AtT (W.setCell ⟨S, 6, none⟩ (.int .i64 x)) S 0 ⟨s.op, s.len, s.n, s.dst, s.a, s.b, x, s.k⟩ :=
  ⟨by rw [cell_ne _ _ _ _ _ _ (.inr (by omega))]; exact t.c0, by rw [cell_ne _ _ _ _ _ _ (.inr (by omega))]; exact t.c1, by rw [cell_ne _ _ _ _ _ _ (.inr (by omega))]; exact t.c2, by rw [cell_ne _ _ _ _ _ _ (.inr (by omega))]; exact t.c3, by rw [cell_ne _ _ _ _ _ _ (.inr (by omega))]; exact t.c4, by rw [cell_ne _ _ _ _ _ _ (.inr (by omega))]; exact t.c5, cell_eq _ _ _ _ _ t.c6, by rw [cell_ne _ _ _ _ _ _ (.inr (by omega))]; exact t.c7⟩
theorem AtT.put7 {W : World} {S : Nat} {s : Ste} (t : AtT W S 0 s) (x : Nat) : AtT (W.setCell ⟨S, 7, none⟩ (.float .f64 x)) S 0 ⟨s.op, s.len, s.n, s.dst, s.a, s.b, s.c, x⟩ :=
  ⟨by rw [cell_ne _ _ _ _ _ _ (.inr (by omega))]; exact t.c0, by rw [cell_ne _ _ _ _ _ _ (.inr (by omega))]; exact t.c1, by rw [cell_ne _ _ _ _ _ _ (.inr (by omega))]; exact t.c2, by rw [cell_ne _ _ _ _ _ _ (.inr (by omega))]; exact t.c3, by rw [cell_ne _ _ _ _ _ _ (.inr (by omega))]; exact t.c4, by rw [cell_ne _ _ _ _ _ _ (.inr (by omega))]; exact t.c5, by rw [cell_ne _ _ _ _ _ _ (.inr (by omega))]; exact t.c6, cell_eq _ _ _ _ _ t.c7⟩
/-- A round of l5plan: the value's box at V and the step's at S. -/
structure RD (W w3 : World) (C B V S : Nat) (x0 u : Value) (k : Nat) (pk : Int) (ss : List Ste) (v : Vl) (s : Ste) : Prop where
  lp : LP W w3 C B x0 u (.slice none 0 0) k 0 pk ss []
  va : At W V 0 v
  ta : AtT W S 0 s
  tf : ∀ o, W.frozen? ⟨S, o, none⟩ = false
  lt : S < W.heap.size
  vs : V < S
  bv : B ≤ V
  cb : C < B
  un : ∀ g, u.ownBlock = some g → g < V
theorem RD.start {W w3 : World} {C B V : Nat} {x0 u : Value} {k : Nat} {pk : Int} {ss : List Ste} {v : Vl} (lp : LP W w3 C B x0 u (.slice none 0 0) k 0 pk ss []) (va : At W V 0 v) (hV : W.heap.size = V + 1) (bv : B ≤ V) (cb : C < B) (un : ∀ g, u.ownBlock = some g → g < V) (s : Ste) : RD (W.alloc s.box) w3 C B V (V + 1) x0 u k pk ss v s := by
  have q := kept_alloc 0 0 W s.box
  have e : ∀ g o, g < W.heap.size → (W.alloc s.box).cell? ⟨g, o, none⟩ = W.cell? ⟨g, o, none⟩ := fun g o h => q.cell (p := ⟨g, o, none⟩) h (by omega)
  obtain ⟨c0, c1, c2, c3, c4, c5⟩ := va
  have ta := atT_new W s
  rw [hV] at ta
  refine ⟨lp.keep q, ⟨?_, ?_, ?_, ?_, ?_, ?_⟩, ta, fun o => by rw [← hV]; simp, by simp; omega, by omega, bv, cb, un⟩
  all_goals (rw [e _ _ (by omega)]; assumption)
theorem RD.set {W w3 : World} {C B V S : Nat} {x0 u : Value} {k : Nat} {pk : Int} {ss : List Ste} {v : Vl} {s s' : Ste} (f : RD W w3 C B V S x0 u k pk ss v s) {o : Nat} {x : Value} (ha : AtT (W.setCell ⟨S, o, none⟩ x) S 0 s') : RD (W.setCell ⟨S, o, none⟩ x) w3 C B V S x0 u k pk ss v s' := by
  have ko := kept_setCell (lo := S) (hi := S + 1) W ⟨S, o, none⟩ x (.inl ⟨Nat.le_refl _, Nat.lt_succ_self _⟩)
  have h1 := f.vs
  have h2 := f.bv
  have h3 := f.cb
  have h4 := f.lt
  have e : ∀ q, (W.setCell ⟨S, o, none⟩ x).cell? ⟨V, q, none⟩ = W.cell? ⟨V, q, none⟩ := fun q => cell_ne _ _ _ _ _ _ (.inl (by omega))
  refine ⟨⟨f.lp.bx.keepC (ko.chg1 (S := fun b => b = S) rfl) (by omega), own_setCell f.lp.pu (fun c => by have := f.un _ c; omega), own_setCell f.lp.pv (fun c => by simp [Value.ownBlock] at c), f.lp.ne, Chg.trans f.lp.ch (ko.chg1 (.inr (by omega))), Nat.le_trans f.lp.bz ko.size⟩, ?_, ha, fun o' => by simp [f.tf], by simpa using f.lt, h1, h2, h3, f.un⟩
  obtain ⟨c0, c1, c2, c3, c4, c5⟩ := f.va
  exact ⟨by rw [e]; exact c0, by rw [e]; exact c1, by rw [e]; exact c2, by rw [e]; exact c3, by rw [e]; exact c4, by rw [e]; exact c5⟩
theorem RD.keep {W W' w3 : World} {C B V S : Nat} {x0 u : Value} {k : Nat} {pk : Int} {ss : List Ste} {v : Vl} {s : Ste} (f : RD W w3 C B V S x0 u k pk ss v s) (q : Kept 0 0 W W') : RD W' w3 C B V S x0 u k pk ss v s := by
  have e : ∀ g o, g < W.heap.size → W'.cell? ⟨g, o, none⟩ = W.cell? ⟨g, o, none⟩ := fun g o h => q.cell (p := ⟨g, o, none⟩) h (by omega)
  have h1 := f.vs
  have h4 := f.lt
  obtain ⟨c0, c1, c2, c3, c4, c5⟩ := f.va
  obtain ⟨d0, d1, d2, d3, d4, d5, d6, d7⟩ := f.ta
  refine ⟨f.lp.keep q, ⟨?_, ?_, ?_, ?_, ?_, ?_⟩, ⟨?_, ?_, ?_, ?_, ?_, ?_, ?_, ?_⟩, fun o => by rw [q.frozen (p := ⟨S, o, none⟩) f.lt (by omega)]; exact f.tf o, Nat.lt_of_lt_of_le f.lt q.size, h1, f.bv, f.cb, f.un⟩
  all_goals (rw [e _ _ (by omega)]; assumption)
theorem RD.kept {W w3 : World} {C B V S : Nat} {x0 u : Value} {k : Nat} {pk : Int} {ss : List Ste} {v : Vl} {s : Ste} (f : RD W w3 C B V S x0 u k pk ss v s) (hC : w3.heap.size ≤ C) : Kept 0 0 w3 W :=
  Chg.kept (Kept.refl 0 0 w3) f.lp.ch (fun b hb => by have := f.cb; rcases hb with h | h <;> omega)
end Go.Proofs.Ytdkjdlimcnddkaa

namespace Go.Proofs.Ytdkjdlimcnddkaa
open Go.RowKit Flt
attribute [local go_sem] alloc_drewN setCell_drewN run_store_float

theorem own_tsL {W : World} {base n d : Nat} {b : Option Addr} {xs : List Ste} (h : W.ownsRow base 80 8 (.slice b n d) n (flatT xs)) (hl : xs.length = n) (hk : ∀ v ∈ xs, v.k < 18446744073709551616) : TS W base W.heap.size b n xs := by
  refine ⟨hl, hk, ?_⟩
  rcases h.2 with ⟨_, c⟩ | ⟨g, cap, cur, e, b1, b2, b3, _, b5, b6⟩
  · exact .inl c
  · injection e with q1 q2 q3
    have hg : g < W.heap.size := by
      rcases Nat.lt_or_ge g W.heap.size with c | c
      · exact c
      · rw [Array.getElem?_eq_none c] at b2; cases b2
    refine .inr ⟨g, 0, q1, b1, hg, hg, fun k hk => ?_⟩
    have hc : ∀ j, j < 8 → W.cell? ⟨g, 0 + k * 8 + j, none⟩ = (xs.getD k Ste.zero).cells[j]? := fun j hj => by
      rw [cell_of_row W g _ cur _ _ b2, ← Array.getElem?_toList]
      have : (cur.toList.take (n * 8))[k * 8 + j]? = (flatT xs)[k * 8 + j]? := by rw [b6]
      rw [List.getElem?_take_of_lt (by omega), flatT_at _ _ _ (by omega) hj] at this
      rw [Nat.zero_add]
      exact this
    exact ⟨hc 0 (by omega), hc 1 (by omega), hc 2 (by omega), hc 3 (by omega), hc 4 (by omega), hc 5 (by omega), hc 6 (by omega), hc 7 (by omega)⟩
theorem own_psL {W : World} {base n d : Nat} {b : Option Addr} {xs : List Spn} (h : W.ownsRow base 83 2 (.slice b n d) n (flatP xs)) (hl : xs.length = n) : PS W base W.heap.size b n xs := by
  refine ⟨hl, ?_⟩
  rcases h.2 with ⟨_, c⟩ | ⟨g, cap, cur, e, b1, b2, b3, _, b5, b6⟩
  · exact .inl c
  · injection e with q1 q2 q3
    have hg : g < W.heap.size := by
      rcases Nat.lt_or_ge g W.heap.size with c | c
      · exact c
      · rw [Array.getElem?_eq_none c] at b2; cases b2
    refine .inr ⟨g, 0, q1, b1, hg, hg, fun k hk => ?_⟩
    have hc : ∀ j, j < 2 → W.cell? ⟨g, 0 + k * 2 + j, none⟩ = (xs.getD k Spn.zero).cells[j]? := fun j hj => by
      rw [cell_of_row W g _ cur _ _ b2, ← Array.getElem?_toList]
      have : (cur.toList.take (n * 2))[k * 2 + j]? = (flatP xs)[k * 2 + j]? := by rw [b6]
      rw [List.getElem?_take_of_lt (by omega), flatP_at _ _ _ (by omega) hj] at this
      rw [Nat.zero_add]
      exact this
    exact ⟨hc 0 (by omega), hc 1 (by omega)⟩
theorem own_isL {W : World} {base n d : Nat} {b : Option Addr} {xs : List Int} (h : W.ownsRow base 3 1 (.slice b n d) n (xs.map (Value.int .i64))) (hl : xs.length = n) : IS W base W.heap.size b n xs := by
  rcases own_io h hl with h0 | ⟨g, e, hb, q⟩
  · exact ⟨hl, .inl h0⟩
  · exact ⟨hl, .inr ⟨g, 0, e, hb, q.lt, q.lt, fun k hk => by rw [Nat.zero_add]; exact q.at_ k hk⟩⟩
/-- A code whose lists lie from lo on. -/
structure CL (w : World) (lo : Nat) (a1 : Option Addr) (n1 : Nat) (a2 : Option Addr) (n2 : Nat) (a3 : Option Addr) (n3 : Nat) (ins : List Int) (ss : List Ste) (os : List Spn) : Prop where
  i : IS w lo w.heap.size a1 n1 ins
  s : TS w lo w.heap.size a2 n2 ss
  o : PS w lo w.heap.size a3 n3 os
theorem CL.cs {w : World} {lo n1 n2 n3 : Nat} {a1 a2 a3 : Option Addr} {ins : List Int} {ss : List Ste} {os : List Spn} (f : CL w lo a1 n1 a2 n2 a3 n3 ins ss os) : CS w a1 n1 a2 n2 a3 n3 ins ss os :=
  ⟨f.i.mono (Nat.zero_le _) (Nat.le_refl _), f.s.mono (Nat.zero_le _) (Nat.le_refl _), f.o.mono (Nat.zero_le _) (Nat.le_refl _)⟩
theorem CL.mono {w : World} {lo lo' n1 n2 n3 : Nat} {a1 a2 a3 : Option Addr} {ins : List Int} {ss : List Ste} {os : List Spn} (f : CL w lo a1 n1 a2 n2 a3 n3 ins ss os) (h : lo' ≤ lo) : CL w lo' a1 n1 a2 n2 a3 n3 ins ss os :=
  ⟨f.i.mono h (Nat.le_refl _), f.s.mono h (Nat.le_refl _), f.o.mono h (Nat.le_refl _)⟩
theorem CL.keep {w w' : World} {lo l h n1 n2 n3 : Nat} {a1 a2 a3 : Option Addr} {ins : List Int} {ss : List Ste} {os : List Spn} (f : CL w lo a1 n1 a2 n2 a3 n3 ins ss os) (k : Kept l h w w') (hd : h ≤ lo ∨ h ≤ l) : CL w' lo a1 n1 a2 n2 a3 n3 ins ss os :=
  ⟨(f.i.keep k (.inr hd)).mono (Nat.le_refl _) k.size, (f.s.keep k (.inr hd)).mono (Nat.le_refl _) k.size, (f.o.keep k (.inr hd)).mono (Nat.le_refl _) k.size⟩
end Go.Proofs.Ytdkjdlimcnddkaa

namespace Go.Proofs.Ytdkjdlimcnddkaa
open Go.RowKit Flt

theorem ofInt_exact (t : Nat) (ht : t < 4503599627370496) : ∃ p, val p = t * p2 1074 ∧ p < 9218868437227405312 ∧ floatOfInt .f64 (t : Int) = W false p := by
  obtain ⟨p, hp, hl⟩ := rep2 t ht 1074 (by omega)
  refine ⟨p, hp, hl, ?_⟩
  unfold floatOfInt FloatKind.nearest FloatKind.encode
  show Ieee.double.write _ = _
  simp only [Ieee.Format.write, Int.natAbs_natCast]
  rw [show decide ((t : Int) < 0) = false from decide_eq_false (by omega)]
  exact nearest_exact false t 0 p 1074 0 hl (by rw [hp, show p2 0 = 1 from rfl, Nat.mul_one]) (by omega)
theorem frac_exact (t : Nat) (ht : t < 4503599627370496) : ∃ p, val p = t * p2 1022 ∧ p < 9218868437227405312 ∧ ∀ w, (binOp .quo 62 (.float .f64 (floatOfInt .f64 (t : Int))) (.float .f64 4841369599423283200)).run Try.prog w = .ok (.float .f64 (W false p)) w := by
  obtain ⟨p0, hp0, hl0, he⟩ := ofInt_exact t ht
  obtain ⟨p, hp, hl⟩ := rep2 t ht 1022 (by omega)
  refine ⟨p, hp, hl, fun w => run_float_arith w .quo 62 .f64 _ _ _ ?_⟩
  rw [he]
  show Ieee.double.div (W false p0) (W false 4841369599423283200) = _
  rw [div_exact (p := p) hl0 (by omega) hl M_big]
  · rfl
  · rw [hp0, hp, E_big, ← p2_add, Nat.mul_assoc, Nat.mul_assoc, ← p2_add, ← p2_add]
theorem one_plus (t p : Nat) (ht : t < 4503599627370496) (hp : val p = t * p2 1022) (hl : p < 9218868437227405312) (w : World) :
    (binOp .add 62 (.float .f64 4607182418800017408) (.float .f64 (W false p))).run Try.prog w = .ok (.float .f64 (W false (t + 4607182418800017408))) w := by
  refine run_float_arith w .add 62 .f64 _ _ _ ?_
  show Ieee.double.add (W false 4607182418800017408) (W false p) = _
  refine add_exact (by omega) hl (by omega) ?_ (fun h => rfl)
  have a := val_parts (q := 1023) (by omega) ht
  have b := val_parts (q := 1023) (t := 0) (by omega) (by omega)
  rw [show 1023 * 4503599627370496 + t = t + 4607182418800017408 by omega] at a
  rw [show 1023 * 4503599627370496 + 0 = 4607182418800017408 by omega] at b
  rw [a, b, hp]
  simp only [sg, Bool.false_eq_true, if_false]
  rw [Nat.add_zero, show 1023 - 1 = 1022 from rfl, Nat.add_mul]
  omega


def up (X j : Nat) : Nat := X + j * 4503599627370496
def dn (X j : Nat) : Nat := X - j * 4503599627370496
theorem up_run {X j : Nat} (h0 : 4503599627370496 ≤ X) (h : up X (j + 1) < 9218868437227405312) (w : World) :
    (binOp .mul 62 (.float .f64 (W false (up X j))) (.float .f64 4611686018427387904)).run Try.prog w = .ok (.float .f64 (W false (up X (j + 1)))) w := by
  have e : dbl (up X j) = up X (j + 1) := by
    rw [dbl_big (by unfold up; omega)]
    unfold up
    rw [Nat.succ_mul, Nat.add_assoc]
  rw [← e]
  exact dbl_run (by rw [e]; exact h) w
theorem dn_run {X j : Nat} (h0 : 9007199254740992 ≤ dn X j) (h : X < 9218868437227405312) (w : World) :
    (binOp .quo 62 (.float .f64 (W false (dn X j))) (.float .f64 4611686018427387904)).run Try.prog w = .ok (.float .f64 (W false (dn X (j + 1)))) w := by
  have e : dn X j - 4503599627370496 = dn X (j + 1) := by
    unfold dn
    rw [Nat.succ_mul, Nat.sub_add_eq]
  rw [← e]
  refine run_float_arith w .quo 62 .f64 _ 4611686018427387904 _ (div_two (s := false) ?_ (val_half h0))
  have : dn X j ≤ X := Nat.sub_le _ _
  omega
theorem negf_run (r : Nat) (h : r < 9223372036854775808) (w : World) : (Op.unary .neg (.float .f64 (W false r))).run Try.prog w = .ok (.float .f64 (W true r)) w := by
  have : Op.negFloat FloatKind.f64 (W false r) = W true r := neg_W false h
  rw [← this]; rfl

def FromEnd (s : Bool) (r : Nat) (w : World) (e : Ending) (w' : World) : Prop := e = .returned (.float .f64 (W s r)) ∧ w' = w

set_option maxRecDepth 100000 in
set_option maxHeartbeats 1000000 in
theorem specFrom_big (s : Bool) (b q t : Nat) (w : World) (hq : (b : Int) / 4503599627370496 % 2048 = (q : Int)) (ht : (b : Int) % 4503599627370496 = (t : Int))
    (hs : if s then 9223372036854775808 ≤ (b : Int) else (b : Int) < 9223372036854775808) (hb : b < 18446744073709551616)
    (hq1 : 1023 < q) (hq2 : q ≤ 2046) (ht0 : t < 4503599627370496) :
    Calls Try.prog 122 #[.int .u64 (b : Int)] w fun e w' => FromEnd s (up (t + 4607182418800017408) (q - 1023)) w e w' := by
  obtain ⟨p, hp, hl, hrun1⟩ := frac_exact t ht0
  have hrun2 := one_plus t p ht0 hp hl
  have hX : 4503599627370496 ≤ t + 4607182418800017408 := by omega
  have hmax : up (t + 4607182418800017408) (q - 1023) < 9218868437227405312 := by unfold up; omega
  have hmono : ∀ j, j ≤ q - 1023 → up (t + 4607182418800017408) j ≤ up (t + 4607182418800017408) (q - 1023) := fun j hj => by unfold up; exact Nat.add_le_add_left (Nat.mul_le_mul_right _ hj) _
  have hstep : ∀ j, j < q - 1023 → ∀ w, (binOp .mul 62 (.float .f64 (W false (up (t + 4607182418800017408) j))) (.float .f64 4611686018427387904)).run Try.prog w = .ok (.float .f64 (W false (up (t + 4607182418800017408) (j + 1)))) w :=
    fun j hj => up_run hX (Nat.lt_of_le_of_lt (hmono (j + 1) hj) hmax)
  have h0 : t + 4607182418800017408 = up (t + 4607182418800017408) 0 := by unfold up; omega
  have hneg := negf_run (up (t + 4607182418800017408) (q - 1023)) (by omega)
  clear hp hl hX hmax hmono
  generalize t + 4607182418800017408 = X at *
  have H0 : Hid (X = up X 0) := h0
  have HS : Hid (∀ j, j < q - 1023 → ∀ w, (binOp .mul 62 (.float .f64 (W false (up X j))) (.float .f64 4611686018427387904)).run Try.prog w = .ok (.float .f64 (W false (up X (j + 1)))) w) := hstep
  have HN : Hid (∀ w, (Op.unary .neg (.float .f64 (W false (up X (q - 1023))))).run Try.prog w = .ok (.float .f64 (W true (up X (q - 1023)))) w) := hneg
  clear h0 hstep hneg
  have hq3 : ((q : Int) == 2047) = false := beq_eq_false_iff_ne.2 (by omega)
  go_enter Try.func122, Try.ntmps122
  go_wp2_with fail
  clear hrun1 hrun2 hq ht ht0
  go_loop [5, 3] (fun v e => ∃ j : Nat, j ≤ q - 1023 ∧ v = .float .f64 (W false (up X j)) ∧ e = .int .i64 ((q : Int) - j)) (fun _ e => (intOf e).toNat)
  case atStart => exact ⟨0, by omega, by rw [← H0.out], by simp⟩
  case round =>
    obtain ⟨j, hj, rfl, rfl⟩ := hrel
    by_cases hc : j < q - 1023
    · have hrun := HS.out j hc
      go_wp2
      go_round
      case rel => exact ⟨j + 1, by omega, rfl, by go_num⟩
      case measure => simp [intOf]; omega
    · obtain rfl : j = q - 1023 := by omega
      have hrun := HN.out
      clear hc hj
      have hj2 : ((q - 1023 : Nat) : Int) = (q : Int) - 1023 := by omega
      rw [hj2]
      clear hj2
      go_wp2_with fail
      go_loop [5, 3] (fun v e => v = .float .f64 (W false (up X (q - 1023))) ∧ e = .int .i64 1023) (fun _ e => 0)
      case atStart => exact ⟨rfl, by congr 1; omega⟩
      case round =>
        obtain ⟨rfl, rfl⟩ := hrel
        clear hb hq1 hq2
        cases s
        · have hs' : (b : Int) < 9223372036854775808 := hs
          have hs2 : decide (9223372036854775808 ≤ (b : Int)) = false := decide_eq_false (by omega)
          clear hs hs'
          go_wp2
          go_ret
          exact ⟨rfl, rfl⟩
        · have hs' : 9223372036854775808 ≤ (b : Int) := hs
          have hs2 : decide (9223372036854775808 ≤ (b : Int)) = true := decide_eq_true (by omega)
          clear hs hs'
          go_wp2
          go_ret
          exact ⟨rfl, rfl⟩

set_option maxRecDepth 100000 in
set_option maxHeartbeats 1000000 in
theorem specFrom_mid (s : Bool) (b q t : Nat) (w : World) (hq : (b : Int) / 4503599627370496 % 2048 = (q : Int)) (ht : (b : Int) % 4503599627370496 = (t : Int))
    (hs : if s then 9223372036854775808 ≤ (b : Int) else (b : Int) < 9223372036854775808) (hb : b < 18446744073709551616)
    (hq1 : 1 ≤ q) (hq2 : q ≤ 1023) (ht0 : t < 4503599627370496) :
    Calls Try.prog 122 #[.int .u64 (b : Int)] w fun e w' => FromEnd s (dn (t + 4607182418800017408) (1023 - q)) w e w' := by
  obtain ⟨p, hp, hl, hrun1⟩ := frac_exact t ht0
  have hrun2 := one_plus t p ht0 hp hl
  have hstep : ∀ j, j < 1023 - q → ∀ w, (binOp .quo 62 (.float .f64 (W false (dn (t + 4607182418800017408) j))) (.float .f64 4611686018427387904)).run Try.prog w = .ok (.float .f64 (W false (dn (t + 4607182418800017408) (j + 1)))) w :=
    fun j hj => dn_run (by
      unfold dn
      have : j * 4503599627370496 ≤ 1021 * 4503599627370496 := Nat.mul_le_mul_right _ (by omega)
      omega) (by omega)
  have h0 : t + 4607182418800017408 = dn (t + 4607182418800017408) 0 := by unfold dn; omega
  have hneg := negf_run (dn (t + 4607182418800017408) (1023 - q)) (by have : dn (t + 4607182418800017408) (1023 - q) ≤ t + 4607182418800017408 := Nat.sub_le _ _; omega)
  clear hp hl
  generalize t + 4607182418800017408 = X at *
  have H0 : Hid (X = dn X 0) := h0
  have HS : Hid (∀ j, j < 1023 - q → ∀ w, (binOp .quo 62 (.float .f64 (W false (dn X j))) (.float .f64 4611686018427387904)).run Try.prog w = .ok (.float .f64 (W false (dn X (j + 1)))) w) := hstep
  have HN : Hid (∀ w, (Op.unary .neg (.float .f64 (W false (dn X (1023 - q))))).run Try.prog w = .ok (.float .f64 (W true (dn X (1023 - q)))) w) := hneg
  clear h0 hstep hneg
  have hq3 : ((q : Int) == 2047) = false := beq_eq_false_iff_ne.2 (by omega)
  go_enter Try.func122, Try.ntmps122
  go_wp2_with fail
  clear hrun1 hrun2 hq ht ht0 hb
  go_loop [5, 3] (fun v e => v = .float .f64 (W false X) ∧ e = .int .i64 (q : Int)) (fun _ e => 0)
  case atStart => exact ⟨rfl, rfl⟩
  case round =>
    obtain ⟨rfl, rfl⟩ := hrel
    go_wp2_with fail
    go_loop [5, 3] (fun v e => ∃ j : Nat, j ≤ 1023 - q ∧ v = .float .f64 (W false (dn X j)) ∧ e = .int .i64 ((q : Int) + j)) (fun _ e => 1023 - (intOf e).toNat)
    case atStart => exact ⟨0, by omega, by rw [← H0.out], by simp⟩
    case round =>
      obtain ⟨j, hj, rfl, rfl⟩ := hrel
      by_cases hc : j < 1023 - q
      · have hrun := HS.out j hc
        go_wp2
        go_round
        case rel => exact ⟨j + 1, by omega, rfl, by go_num⟩
        case measure => simp [intOf]; omega
      · obtain rfl : j = 1023 - q := by omega
        have hrun := HN.out
        have hj2 : ((1023 - q : Nat) : Int) = 1023 - (q : Int) := by omega
        rw [hj2]
        clear hj2 hc hj
        cases s
        · have hs1 : (b : Int) < 9223372036854775808 := hs
          have hs2 : decide (9223372036854775808 ≤ (b : Int)) = false := decide_eq_false (by omega)
          clear hs hs1
          go_wp2
          go_ret
          exact ⟨rfl, rfl⟩
        · have hs1 : 9223372036854775808 ≤ (b : Int) := hs
          have hs2 : decide (9223372036854775808 ≤ (b : Int)) = true := decide_eq_true (by omega)
          clear hs hs1
          go_wp2
          go_ret
          exact ⟨rfl, rfl⟩

theorem sub_half {t p k : Nat} (h : val p = t * p2 (k + 1)) (hp : p < 9218868437227405312) (ht : t < 4503599627370496) (hk : k ≤ 1022) :
    ∃ p', val p' = t * p2 k ∧ p' < 9218868437227405312 ∧ ∀ w, (binOp .quo 62 (.float .f64 (W false p)) (.float .f64 4611686018427387904)).run Try.prog w = .ok (.float .f64 (W false p')) w := by
  obtain ⟨p', hp', hl⟩ := rep2 t ht k (by omega)
  refine ⟨p', hp', hl, fun w => run_float_arith w .quo 62 .f64 _ 4611686018427387904 _ (div_two (s := false) hp ?_)⟩
  rw [h, hp', p2_succ]
  exact Nat.mul_left_comm _ _ _

set_option maxRecDepth 100000 in
set_option maxHeartbeats 1000000 in
theorem specFrom_sub (s : Bool) (b t : Nat) (w : World) (hq : (b : Int) / 4503599627370496 % 2048 = 0) (ht : (b : Int) % 4503599627370496 = (t : Int))
    (hs : if s then 9223372036854775808 ≤ (b : Int) else (b : Int) < 9223372036854775808) (hb : b < 18446744073709551616) (ht0 : t < 4503599627370496) :
    Calls Try.prog 122 #[.int .u64 (b : Int)] w fun e w' => FromEnd s t w e w' := by
  obtain ⟨p, hp, hl, hrun1⟩ := frac_exact t ht0
  have HN : Hid (∀ w, (Op.unary .neg (.float .f64 (W false t))).run Try.prog w = .ok (.float .f64 (W true t)) w) := negf_run t (by omega)
  have HP : Hid (val p = t * p2 1022) := hp
  have HT : Hid (t < 4503599627370496) := ht0
  have HL : Hid (p < 9218868437227405312) := hl
  clear hp hl
  go_enter Try.func122, Try.ntmps122
  go_wp2_with fail
  clear hrun1 hq ht ht0 hb
  go_loop [5, 3] (fun v e => v = .float .f64 (W false p) ∧ e = .int .i64 1) (fun _ e => 0)
  case atStart => exact ⟨rfl, rfl⟩
  case round =>
    obtain ⟨rfl, rfl⟩ := hrel
    go_wp2_with fail
    go_loop [5, 3] (fun v e => ∃ j p' : Nat, j ≤ 1022 ∧ Hid (val p' = t * p2 (1022 - j)) ∧ Hid (p' < 9218868437227405312) ∧ v = .float .f64 (W false p') ∧ e = .int .i64 (1 + (j : Int))) (fun _ e => 1023 - (intOf e).toNat)
    case atStart => exact ⟨0, p, by omega, HP, HL, rfl, rfl⟩
    case round =>
      obtain ⟨j, p', hj, hv, hl', rfl, rfl⟩ := hrel
      by_cases hc : j < 1022
      · obtain ⟨pn, hvn, hln, hrun⟩ := sub_half (k := 1022 - (j + 1)) (by rw [hv.out, show 1022 - (j + 1) + 1 = 1022 - j by omega]) hl'.out HT.out (by omega)
        have HVN : Hid (val pn = t * p2 (1022 - (j + 1))) := hvn
        have HLN : Hid (pn < 9218868437227405312) := hln
        clear hvn hln
        go_wp2
        go_round
        case rel => exact ⟨j + 1, pn, by omega, HVN, HLN, rfl, by go_num⟩
        case measure => simp [intOf]; omega
      · obtain rfl : j = 1022 := by omega
        have hpt : p' = t := by
          have := hv.out
          rw [show 1022 - 1022 = 0 from rfl, show p2 0 = 1 from rfl, Nat.mul_one] at this
          refine val_inj (this.trans (val_small ?_).symm)
          have := HT.out
          omega
        have hrun := HN.out
        rw [hpt]
        clear hc hj hpt
        cases s
        · have hs1 : (b : Int) < 9223372036854775808 := hs
          have hs2 : decide (9223372036854775808 ≤ (b : Int)) = false := decide_eq_false (by omega)
          clear hs hs1
          go_wp2
          go_ret
          exact ⟨rfl, rfl⟩
        · have hs1 : 9223372036854775808 ≤ (b : Int) := hs
          have hs2 : decide (9223372036854775808 ≤ (b : Int)) = true := decide_eq_true (by omega)
          clear hs hs1
          go_wp2
          go_ret
          exact ⟨rfl, rfl⟩

set_option maxRecDepth 100000 in
set_option maxHeartbeats 1000000 in
theorem specFrom_inf (s : Bool) (b : Nat) (w : World) (hq : (b : Int) / 4503599627370496 % 2048 = 2047) (ht : (b : Int) % 4503599627370496 = 0)
    (hs : if s then 9223372036854775808 ≤ (b : Int) else (b : Int) < 9223372036854775808) (hb : b < 18446744073709551616) :
    Calls Try.prog 122 #[.int .u64 (b : Int)] w fun e w' => FromEnd s 9218868437227405312 w e w' := by
  obtain ⟨p, hp, hl, hrun1⟩ := frac_exact 0 (by omega)
  have hp0 : p = 0 := val_inj (by rw [hp, Nat.zero_mul, val_zero])
  subst hp0
  rw [show ((0 : Nat) : Int) = 0 from rfl] at hrun1
  have h1 : FloatKind.f64.format.order (W false 0) 0 = some .eq := ord_zero_zero
  have h2 := one_quo_zero
  have HN := negf_run 9218868437227405312 (by omega)
  rw [show W false 9218868437227405312 = 9218868437227405312 from rfl] at HN
  clear hp hl
  cases s
  · have hs' : (b : Int) < 9223372036854775808 := hs
    have hs2 : decide (9223372036854775808 ≤ (b : Int)) = false := decide_eq_false (by omega)
    clear hs hs'
    go_enter Try.func122, Try.ntmps122
    go_wp2
    go_ret
    exact ⟨rfl, rfl⟩
  · have hs' : 9223372036854775808 ≤ (b : Int) := hs
    have hs2 : decide (9223372036854775808 ≤ (b : Int)) = true := decide_eq_true (by omega)
    clear hs hs'
    go_enter Try.func122, Try.ntmps122
    go_wp2
    go_ret
    exact ⟨rfl, rfl⟩
set_option maxRecDepth 100000 in
set_option maxHeartbeats 1000000 in
theorem specFrom_nan (b t : Nat) (w : World) (hq : (b : Int) / 4503599627370496 % 2048 = 2047) (ht : (b : Int) % 4503599627370496 = (t : Int)) (ht0 : t < 4503599627370496) (ht1 : 0 < t) (hb : b < 18446744073709551616) :
    Calls Try.prog 122 #[.int .u64 (b : Int)] w fun e w' => ∃ y, e = .returned (.float .f64 y) ∧ fb y = 9221120237041090560 ∧ y < 18446744073709551616 ∧ ∃ m, w' = w.drewN m := by
  obtain ⟨p, hp, hl, hrun1⟩ := frac_exact t ht0
  have hp0 : 0 < p := by
    rcases Nat.eq_zero_or_pos p with h | h
    · rw [h, val_zero] at hp
      have := Nat.mul_pos ht1 (p2_pos 1022)
      omega
    · exact h
  have h1 : (FloatKind.f64.format.order (W false p) 0 != some .eq) = true := by
    rw [show FloatKind.f64.format.order (W false p) 0 = _ from ord_zero hp0 (by omega)]; rfl
  have h2 : (binOp .quo 62 (.float .f64 0) (.float .f64 0)).run Try.prog w = _ := run_fquo w 62 0 0
  clear hp hl ht0 ht1 hp0
  go_enter Try.func122, Try.ntmps122
  go_wp2
  go_ret
  refine ⟨_, rfl, ?_, fop_lt _ _ _ _, _, rfl⟩
  rw [fb_fop]
  decide

theorem W_comm (s : Bool) (r : Nat) : W s r = if s then r + 9223372036854775808 else r := by unfold W; rw [Nat.add_comm]
theorem W_quo {s : Bool} {r : Nat} (h : r < 9223372036854775808) : ((W s r : Nat) : Int) / 4503599627370496 % 2048 = ((r / 4503599627370496 : Nat) : Int) := by
  rw [W_comm]; split <;> omega
theorem W_rem {s : Bool} {r : Nat} (_h : r < 9223372036854775808) : ((W s r : Nat) : Int) % 4503599627370496 = ((r % 4503599627370496 : Nat) : Int) := by
  rw [W_comm]; split <;> omega
theorem W_sgn {s : Bool} {r : Nat} (h : r < 9223372036854775808) : if s then 9223372036854775808 ≤ ((W s r : Nat) : Int) else ((W s r : Nat) : Int) < 9223372036854775808 := by
  rw [W_comm]; cases s
  · simp only [Bool.false_eq_true, if_false]; omega
  · simp only [if_true]; omega
theorem up_end {r : Nat} (h : 1023 < r / 4503599627370496) : up (r % 4503599627370496 + 4607182418800017408) (r / 4503599627370496 - 1023) = r := by
  unfold up; omega
theorem dn_end {r : Nat} (h : 1 ≤ r / 4503599627370496) (h' : r / 4503599627370496 ≤ 1023) : dn (r % 4503599627370496 + 4607182418800017408) (1023 - r / 4503599627370496) = r := by
  unfold dn; omega

theorem from_mono {s : Bool} {r : Nat} {w : World} {f : FuncId} {args : Array Value} (hr : r < 9223372036854775808) (h : Calls Try.prog f args w fun e w' => FromEnd s r w e w') :
    Calls Try.prog f args w fun e w' => ∃ y, e = .returned (.float .f64 y) ∧ fb y = fb (W s r) ∧ y < 18446744073709551616 ∧ ∃ m, w' = w.drewN m :=
  h.mono fun _ _ k => ⟨W s r, k.1, rfl, W_lt hr, 0, k.2⟩

theorem specFrom (b : Nat) (w : World) (hb : b < 18446744073709551616) :
    Calls Try.prog 122 #[.int .u64 (b : Int)] w fun e w' => ∃ y, e = .returned (.float .f64 y) ∧ fb y = fb b ∧ y < 18446744073709551616 ∧ ∃ m, w' = w.drewN m := by
  obtain ⟨s, r, hr, rfl⟩ := split_word b hb
  have hq := W_quo (s := s) hr
  have ht := W_rem (s := s) hr
  have hs := W_sgn (s := s) hr
  have ht0 : r % 4503599627370496 < 4503599627370496 := Nat.mod_lt _ (by omega)
  rcases Nat.lt_or_ge 1023 (r / 4503599627370496) with h1 | h1
  · rcases Nat.lt_or_ge 2046 (r / 4503599627370496) with h2 | h2
    · have hq2 : r / 4503599627370496 = 2047 := by omega
      rw [hq2] at hq
      rcases Nat.eq_zero_or_pos (r % 4503599627370496) with h3 | h3
      · rw [h3] at ht
        have hrr : r = 9218868437227405312 := by omega
        have := from_mono (by omega) (specFrom_inf s _ w hq ht hs hb)
        rw [← hrr] at this
        exact this
      · rw [fb_nan (by omega) hr]
        exact specFrom_nan _ _ w hq ht ht0 h3 hb
    · have := specFrom_big s _ _ _ w hq ht hs hb h1 h2 ht0
      rw [up_end h1] at this
      exact from_mono hr this
  · rcases Nat.eq_zero_or_pos (r / 4503599627370496) with h2 | h2
    · rw [h2] at hq
      have hrr : r % 4503599627370496 = r := by omega
      have := specFrom_sub s _ _ w hq ht hs hb ht0
      rw [hrr] at this
      exact from_mono hr this
    · have := specFrom_mid s _ _ _ w hq ht hs hb h2 h1 ht0
      rw [dn_end h2 h1] at this
      exact from_mono hr this

set_option maxHeartbeats 400000 in
theorem implFrom (b : Int) (w : World) :
    Calls Try.prog 123 #[.int .u64 b] w fun e w' => e = .returned (.float .f64 b.toNat) ∧ w' = w := by
  have hc := call44
  go_enter Try.func123, Try.ntmps123
  go_wp2
  go_ret
  exact ⟨rfl, rfl⟩

end Go.Proofs.Ytdkjdlimcnddkaa
