import Derived.Test.YtcphabjekfihnaaJ06
import Derived.Deep.RegionWith
import Derived.Deep.DeepCutAuto
import Derived.Deep.RegionHeld3
namespace Go.Proofs.Ytcphabjekfihnaa
open Go.RowKit Flt
attribute [local go_sem] alloc_drewN setCell_drewN run_store_float

set_option maxRecDepth 100000 in
set_option maxHeartbeats 2000000 in
theorem l2op (w : World) (op n a b c : Int) : Calls Try.prog 177 #[.int .i64 op, .int .i64 n, .int .i64 a, .int .i64 b, .int .i64 c] w fun e w' => e = .returned (vput op n a b c).agg ∧ Kept 0 0 w w' := by
  go_enter Try.func177, Try.ntmps177
  go_wp2_with fail
  refine bodyPost_ret (v := (vput op n a b c).agg) (by simp [results, Try.results177, go_sem]) rfl ⟨rfl, kept_alloc 0 0 w _⟩
set_option maxRecDepth 100000 in
set_option maxHeartbeats 2000000 in
theorem l2zeros (w : World) (n : Int) : Calls Try.prog 154 #[.int .i64 n] w fun e w' => e = .returned (vput 1 n 0 0 0).agg ∧ Kept 0 0 w w' := by
  go_enter Try.func154, Try.ntmps154
  go_wp2_with fail
  refine bodyPost_ret (v := (vput 1 n 0 0 0).agg) (by simp [results, Try.results154, go_sem]) rfl ⟨rfl, kept_alloc 0 0 w _⟩
set_option maxRecDepth 100000 in
set_option maxHeartbeats 2000000 in
theorem l2last (w : World) (a1 a2 a3 : Option Addr) (n1 c1 n2 c2 n3 c3 : Nat) (hn : n2 ≤ 1000000) : Calls Try.prog 155 #[gagg a1 n1 c1 a2 n2 c2 a3 n3 c3] w fun e w' => e = .returned (.int .i64 ((n2 : Int) - 1)) ∧ Kept 0 0 w w' := by
  go_enter Try.func155, Try.ntmps155
  go_wp2
  go_ret
  exact ⟨rfl, kept_alloc 0 0 w _⟩

/-- The world behind the append, and the answer's three cells. -/
theorem own_far {w w1 w9 : World} {base : Nat} {vv : Value} {vs : List Vl} {v : Vl} {o : Obj} {g' cap' : Nat} (_h : w.ownsRow base 40 6 vv vs.length (flat vs)) (k : Kept 0 0 w w1)
    (hown9 : w9.ownsRow base 40 6 (.slice (some ⟨g', 0, none⟩) (vs.length + 1) cap') (vs.length + 1) (flat vs ++ v.cells)) (hg9 : (w1.alloc o).grownBy w9 vv.ownBlock) (hat : vv.ownBlock = some g' ∨ g' = (w1.alloc o).heap.size) :
    w9.ownsRow base 40 6 (.slice (some ⟨g', 0, none⟩) (vs.length + 1) cap') (vs.length + 1) (flat (vs ++ [v])) ∧ StQ (fun _ => False) vv.ownBlock w (some g') w9 := by
  refine ⟨by rw [flat_append, flat_one]; exact hown9, ⟨hg9.os.trans k.os, hg9.tape.trans k.tape, hg9.output.trans k.output, ?_, fun i hi hn => ?_⟩, ?_⟩
  · have h1 := hg9.size
    have h2 := k.size
    simp at h1
    omega
  · have h2 := k.size
    rw [hg9.block i (by simp; omega) (fun c => hn (.inr c.symm)), Below.heap_alloc w1 o i (by omega)]
    exact k.block i hi (by omega)
  · rcases hat with e | e
    · exact .inl e.symm
    · have h2 := k.size
      exact .inr ⟨g', rfl, by rw [e]; simp; omega⟩
theorem StQ.new {Q : Nat → Prop} {R R' : Option Nat} {w w' w'' : World} {l h : Nat} (s : StQ Q R w R' w') (k : Kept l h w' w'') (hl : w.heap.size ≤ l) : StQ Q R w R' w'' :=
  ⟨⟨k.os.trans s.chg.os, k.tape.trans s.chg.tape, k.output.trans s.chg.output, Nat.le_trans s.chg.size k.size, fun i hi hn => by
    rw [k.block i (Nat.lt_of_lt_of_le hi s.chg.size) (by omega)]
    exact s.chg.block i hi hn⟩, s.row⟩

set_option maxRecDepth 100000 in
set_option maxHeartbeats 2000000 in
theorem l2put (w : World) (b1 a2 b3 : Option Addr) (m1 e1 cap m3 e3 base : Nat) (vs : List Vl) (v : Vl) (h : w.ownsRow base 40 6 (.slice a2 vs.length cap) vs.length (flat vs)) (hb : base ≤ w.heap.size) (hn : vs.length ≤ 1000000) :
    Calls Try.prog 153 #[gagg b1 m1 e1 a2 vs.length cap b3 m3 e3, v.agg] w fun e w' => ∃ g' cap', e = .returned (gagg b1 m1 e1 (some ⟨g', 0, none⟩) (vs.length + 1) cap' b3 m3 e3) ∧ w'.ownsRow base 40 6 (.slice (some ⟨g', 0, none⟩) (vs.length + 1) cap') (vs.length + 1) (flat (vs ++ [v])) ∧ StQ (fun _ => False) (Value.slice a2 vs.length cap).ownBlock w (some g') w' := by
  obtain ⟨i0, hi, hz0, hz1, hz2⟩ := info_parts infoV
  have k1 := kept_alloc 0 0 w (gbox b1 m1 e1 a2 vs.length cap b3 m3 e3)
  have k2 := kept_alloc 0 0 (w.alloc (gbox b1 m1 e1 a2 vs.length cap b3 m3 e3)) (vbox v.op v.len v.a v.b v.c v.k)
  have k3 := kept_alloc 0 0 ((w.alloc (gbox b1 m1 e1 a2 vs.length cap b3 m3 e3)).alloc (vbox v.op v.len v.a v.b v.c v.k)) nbox
  have hG := ((g0_start w (.slice b1 m1 e1) (.slice a2 vs.length cap) (.slice b3 m3 e3)).keep k2).keep k3
  have fG : ∀ o, (((w.alloc (gbox b1 m1 e1 a2 vs.length cap b3 m3 e3)).alloc (vbox v.op v.len v.a v.b v.c v.k)).alloc nbox).frozen? ⟨w.heap.size, o, none⟩ = false := fun o => by
    rw [(k2.trans k3).frozen (p := ⟨w.heap.size, o, none⟩) (by simp) (by omega)]
    simp
  have hV := (vbox_atJ (w.alloc (gbox b1 m1 e1 a2 vs.length cap b3 m3 e3)) v).keep (by simp) k3 (.inr (.inr (Nat.le_refl _)))
  have hN := rb_start ((w.alloc (gbox b1 m1 e1 a2 vs.length cap b3 m3 e3)).alloc (vbox v.op v.len v.a v.b v.c v.k))
  rw [show ((w.alloc (gbox b1 m1 e1 a2 vs.length cap b3 m3 e3)).alloc (vbox v.op v.len v.a v.b v.c v.k)).heap.size = w.heap.size + 1 + 1 by simp] at hN
  rw [show (w.alloc (gbox b1 m1 e1 a2 vs.length cap b3 m3 e3)).heap.size = w.heap.size + 1 by simp] at hV
  have hk := (k1.trans k2).trans k3
  have hown := own_keepJ h hk
  have HW : Hid _ := h
  have HK : Hid _ := hk
  have HN : Hid _ := hN
  have HG : Hid _ := hG
  have HFG : Hid _ := fG
  obtain ⟨_, p0, p1, p2⟩ := hG
  obtain ⟨v0, v1, v2, v3, v4, v5⟩ := hV
  have hbz : base ≤ (((w.alloc (gbox b1 m1 e1 a2 vs.length cap b3 m3 e3)).alloc (vbox v.op v.len v.a v.b v.c v.k)).alloc nbox).heap.size := Nat.le_trans hb hk.size
  clear k1 k2 k3 fG hN hk h
  go_enter Try.func153, Try.ntmps153
  go_wp2_with (first | (at_builtin; refine wpList_append_lies _ rfl _ _ 52 rfl base 40 i0 (vagg 0 0 0 0 0 0) 6 48 Try.underlying52 hi hz0 hz1 hz2 rfl (by decide) _ _ (flat vs) rfl (hown.alloc _) ⟨w.heap.size + 1 + 1 + 1, 0, none⟩ 1 1 v.cells rfl rfl ?c1 ?c2 (by decide) ?c3 ?c4 ?c5 _ rfl ?_))
  case c1 =>
    have h6 := news6 (((w.alloc (gbox b1 m1 e1 a2 vs.length cap b3 m3 e3)).alloc (vbox v.op v.len v.a v.b v.c v.k)).alloc nbox) v 0
    rw [show (((w.alloc (gbox b1 m1 e1 a2 vs.length cap b3 m3 e3)).alloc (vbox v.op v.len v.a v.b v.c v.k)).alloc nbox).heap.size = w.heap.size + 1 + 1 + 1 by simp] at h6
    exact h6
  case c2 => exact one6 v
  case c3 => unfold maxLen; omega
  case c4 => omega
  case c5 => simp; omega
  intro g9 cap9 w9 hown9 hg9 hat9 hlt9
  have hs3 : (((w.alloc (gbox b1 m1 e1 a2 vs.length cap b3 m3 e3)).alloc (vbox v.op v.len v.a v.b v.c v.k)).alloc nbox).heap.size = w.heap.size + 1 + 1 + 1 := by simp
  have hat' : (Value.slice a2 vs.length cap).ownBlock = some g9 ∨ g9 = ((((w.alloc (gbox b1 m1 e1 a2 vs.length cap b3 m3 e3)).alloc (vbox v.op v.len v.a v.b v.c v.k)).alloc nbox).alloc (.cells #[.int .i64 v.op, .int .i64 v.len, .int .i64 v.a, .int .i64 v.b, .int .i64 v.c, .float .f64 v.k] 40)).heap.size := hat9.imp id (fun e => by rw [e]; simp)
  obtain ⟨r1, r2⟩ := own_far (v := v) HW.out HK.out hown9 hg9 hat'
  have hrow : ∀ B, w.heap.size ≤ B → (Value.slice a2 vs.length cap).ownBlock ≠ some B := fun B hB e => by have := (own_blkV HW.out e).2; omega
  have hg' : g9 < w.heap.size ∨ w.heap.size + 1 + 1 + 1 < g9 := by
    rcases hat' with e | e
    · exact .inl (own_blkV HW.out e).2
    · right
      rw [e]
      simp
  have x0 := far1 (m := 0) hg9 (by rw [hs3]; omega) (hrow w.heap.size (Nat.le_refl _)) p0
  have x1 := far1 (m := 0) hg9 (by rw [hs3]; omega) (hrow w.heap.size (Nat.le_refl _)) p1
  have x2 := far1 (m := 0) hg9 (by rw [hs3]; omega) (hrow w.heap.size (Nat.le_refl _)) p2
  have xf := far2 (m := 0) hg9 (by rw [hs3]; omega) (hrow w.heap.size (Nat.le_refl _)) (HFG.out 1)
  obtain ⟨_, n0, n1, n2, m0, m1', m2⟩ := HN.out
  have y0 := far1 (m := 0) hg9 (by rw [hs3]; omega) (hrow (w.heap.size + 1 + 1) (by omega)) n0
  have y1 := far1 (m := 0) hg9 (by rw [hs3]; omega) (hrow (w.heap.size + 1 + 1) (by omega)) n1
  have y2 := far1 (m := 0) hg9 (by rw [hs3]; omega) (hrow (w.heap.size + 1 + 1) (by omega)) n2
  have z0 := far2 (m := 0) hg9 (by rw [hs3]; omega) (hrow (w.heap.size + 1 + 1) (by omega)) m0
  have z1 := far2 (m := 0) hg9 (by rw [hs3]; omega) (hrow (w.heap.size + 1 + 1) (by omega)) m1'
  have z2 := far2 (m := 0) hg9 (by rw [hs3]; omega) (hrow (w.heap.size + 1 + 1) (by omega)) m2
  have R1 : Hid _ := r1
  have R2 : Hid _ := r2
  clear r1 r2 hown9 hg9 hat9 hat' hrow hown HW HK HN HG HFG p0 p1 p2 v0 v1 v2 v3 v4 v5 hbz hs3 n0 n1 n2 m0 m1' m2 hlt9
  go_wp2_with fail
  have nB : ∀ B, (B = w.heap.size ∨ B = w.heap.size + 1 + 1) → (Value.slice (some ⟨g9, 0, none⟩) (vs.length + 1) cap9).ownBlock ≠ some B := fun B hB e => by
    have e' : g9 = B := by simpa [Value.ownBlock] using e
    omega
  have o1 := own_setCell (o := 2) (u := .slice b3 m3 e3) (own_setCell (o := 1) (u := .slice (some ⟨g9, 0, none⟩) (vs.length + 1) cap9) (own_setCell (o := 0) (u := .slice b1 m1 e1) (own_setCell (o := 1) (u := .slice (some ⟨g9, 0, none⟩) (vs.length + 1) cap9) R1.out (nB w.heap.size (.inl rfl))) (nB (w.heap.size + 1 + 1) (.inr rfl))) (nB (w.heap.size + 1 + 1) (.inr rfl))) (nB (w.heap.size + 1 + 1) (.inr rfl))
  have y0' : (w9.setCell ⟨w.heap.size, 1, none⟩ (.slice (some ⟨g9, 0, none⟩) (vs.length + 1) cap9)).cell? ⟨w.heap.size + 1 + 1, 0, none⟩ = _ := (cell_ne _ _ _ _ _ _ (.inl (by omega))).trans y0
  have y1' : (w9.setCell ⟨w.heap.size, 1, none⟩ (.slice (some ⟨g9, 0, none⟩) (vs.length + 1) cap9)).cell? ⟨w.heap.size + 1 + 1, 1, none⟩ = _ := (cell_ne _ _ _ _ _ _ (.inl (by omega))).trans y1
  have y2' : (w9.setCell ⟨w.heap.size, 1, none⟩ (.slice (some ⟨g9, 0, none⟩) (vs.length + 1) cap9)).cell? ⟨w.heap.size + 1 + 1, 2, none⟩ = _ := (cell_ne _ _ _ _ _ _ (.inl (by omega))).trans y2
  obtain ⟨s0, s1, s2⟩ := put3_0 (w9.setCell ⟨w.heap.size, 1, none⟩ (.slice (some ⟨g9, 0, none⟩) (vs.length + 1) cap9)) (w.heap.size + 1 + 1) _ _ _ y0' y1' y2' (.slice b1 m1 e1) (.slice (some ⟨g9, 0, none⟩) (vs.length + 1) cap9) (.slice b3 m3 e3)
  have q1 := StQ.new R2.out (kept_setCell (lo := w.heap.size) (hi := w.heap.size + 1) w9 ⟨w.heap.size, 1, none⟩ (.slice (some ⟨g9, 0, none⟩) (vs.length + 1) cap9) (.inl ⟨Nat.le_refl _, Nat.lt_succ_self _⟩)) (Nat.le_refl _)
  have q2 := StQ.new q1 (put3_kept (w9.setCell ⟨w.heap.size, 1, none⟩ (.slice (some ⟨g9, 0, none⟩) (vs.length + 1) cap9)) (w.heap.size + 1 + 1) (.slice b1 m1 e1) (.slice (some ⟨g9, 0, none⟩) (vs.length + 1) cap9) (.slice b3 m3 e3)) (by omega)
  refine bodyPost_ret (v := gagg b1 m1 e1 (some ⟨g9, 0, none⟩) (vs.length + 1) cap9 b3 m3 e3) (by simp [results, Try.results153, go_sem, s0, s1, s2]) rfl ⟨g9, cap9, rfl, o1, q2⟩
end Go.Proofs.Ytcphabjekfihnaa

namespace Go.Proofs.Ytcphabjekfihnaa
open Go.RowKit Flt
attribute [local go_sem] alloc_drewN setCell_drewN run_store_float

set_option maxRecDepth 100000 in
set_option maxHeartbeats 2000000 in
theorem l2or_some (w : World) (a1 a2 a3 : Option Addr) (n1 c1 n2 c2 n3 c3 : Nat) (a n : Int) (h : 0 ≤ a) :
    Calls Try.prog 178 #[gagg a1 n1 c1 a2 n2 c2 a3 n3 c3, .int .i64 a, .int .i64 n] w fun e w' => e = .returned (.tuple #[gagg a1 n1 c1 a2 n2 c2 a3 n3 c3, .int .i64 a]) ∧ Kept 0 0 w w' := by
  go_enter Try.func178, Try.ntmps178
  go_wp2_with fail
  refine bodyPost_ret (v := .tuple #[gagg a1 n1 c1 a2 n2 c2 a3 n3 c3, .int .i64 a]) (by simp [results, Try.results178, go_sem]) rfl ⟨rfl, (kept_alloc 0 0 w _).trans (kept_alloc 0 0 _ _)⟩

/-- The model's graph in the box P; its row of values, grown by append, in block R. -/
structure SG (w : World) (P : Nat) (b1 : Option Addr) (m1 e1 : Nat) (b3 : Option Addr) (m3 e3 : Nat) (vs : List Vl) (base : Nat) (R : Option Nat) (a2 : Option Addr) (cap : Nat) : Prop where
  lt : P < w.heap.size
  free : ∀ o, w.frozen? ⟨P, o, none⟩ = false
  c0 : w.cell? ⟨P, 0, none⟩ = some (.slice b1 m1 e1)
  c1 : w.cell? ⟨P, 1, none⟩ = some (.slice a2 vs.length cap)
  c2 : w.cell? ⟨P, 2, none⟩ = some (.slice b3 m3 e3)
  own : w.ownsRow base 40 6 (.slice a2 vs.length cap) vs.length (flat vs)
  row : (Value.slice a2 vs.length cap).ownBlock = R
  ne : R ≠ some P
  sz : base ≤ w.heap.size
theorem SG.keep {w w' : World} {P m1 e1 m3 e3 base cap : Nat} {b1 b3 a2 : Option Addr} {vs : List Vl} {R : Option Nat} (h : SG w P b1 m1 e1 b3 m3 e3 vs base R a2 cap) (k : Kept 0 0 w w') : SG w' P b1 m1 e1 b3 m3 e3 vs base R a2 cap :=
  have e : ∀ o, w'.cell? ⟨P, o, none⟩ = w.cell? ⟨P, o, none⟩ := fun o => k.cell (p := ⟨P, o, none⟩) h.lt (by omega)
  ⟨Nat.lt_of_lt_of_le h.lt k.size, fun o => by rw [k.frozen (p := ⟨P, o, none⟩) h.lt (by omega)]; exact h.free o, by rw [e]; exact h.c0, by rw [e]; exact h.c1, by rw [e]; exact h.c2, own_keepJ h.own k, h.row, h.ne, Nat.le_trans h.sz k.size⟩
/-- What is left of l2put(g, v) and its storing into g's box. -/
def Put3 (w : World) (P : Nat) (x y z : Value) : World := ((w.setCell ⟨P, 0, none⟩ x).setCell ⟨P, 1, none⟩ y).setCell ⟨P, 2, none⟩ z
theorem SG.put {w w1 w2 : World} {P m1 e1 m3 e3 base cap g' cap' : Nat} {b1 b3 a2 : Option Addr} {vs : List Vl} {v : Vl} {R : Option Nat} (h : SG w P b1 m1 e1 b3 m3 e3 vs base R a2 cap) (k : Kept 0 0 w w1)
    (own : w2.ownsRow base 40 6 (.slice (some ⟨g', 0, none⟩) (vs.length + 1) cap') (vs.length + 1) (flat (vs ++ [v]))) (s : StQ (fun _ => False) R w1 (some g') w2) :
    SG (Put3 w2 P (.slice b1 m1 e1) (.slice (some ⟨g', 0, none⟩) (vs.length + 1) cap') (.slice b3 m3 e3)) P b1 m1 e1 b3 m3 e3 (vs ++ [v]) base (some g') (some ⟨g', 0, none⟩) cap' ∧ StQ (fun i => i = P) R w (some g') (Put3 w2 P (.slice b1 m1 e1) (.slice (some ⟨g', 0, none⟩) (vs.length + 1) cap') (.slice b3 m3 e3)) := by
  have hlt := h.lt
  have hsz := k.size
  have hne : g' ≠ P := by
    rcases s.row with e | ⟨r, e, hr⟩
    · exact fun c => h.ne (by rw [← e, c])
    · cases e; omega
  have hb : w2.heap[P]? = w1.heap[P]? := s.chg.block P (by omega) (by rintro (c | c); exact c; exact h.ne c)
  have e : ∀ o, w2.cell? ⟨P, o, none⟩ = w.cell? ⟨P, o, none⟩ := fun o => (World.cell?_of_block (w := w1) (a := ⟨P, o, none⟩) hb).trans (k.cell (p := ⟨P, o, none⟩) h.lt (by omega))
  have ef : ∀ o, w2.frozen? ⟨P, o, none⟩ = w.frozen? ⟨P, o, none⟩ := fun o => (World.frozen?_of_block (w := w1) (a := ⟨P, o, none⟩) hb).trans (k.frozen (p := ⟨P, o, none⟩) h.lt (by omega))
  obtain ⟨y0, y1, y2⟩ := put3_0 w2 P _ _ _ ((e 0).trans h.c0) ((e 1).trans h.c1) ((e 2).trans h.c2) (.slice b1 m1 e1) (.slice (some ⟨g', 0, none⟩) (vs.length + 1) cap') (.slice b3 m3 e3)
  have kp := put3_kept w2 P (.slice b1 m1 e1) (.slice (some ⟨g', 0, none⟩) (vs.length + 1) cap') (.slice b3 m3 e3)
  have hl : (vs ++ [v]).length = vs.length + 1 := by simp
  have nB : (Value.slice (some ⟨g', 0, none⟩) (vs.length + 1) cap').ownBlock ≠ some P := fun c => hne (by simpa [Value.ownBlock] using c)
  refine ⟨⟨?_, fun o => ?_, y0, by rw [hl]; exact y1, y2, ?_, rfl, fun c => hne (by simpa using c), ?_⟩, ⟨?_, ?_, ?_, ?_, fun i hi hn => ?_⟩, ?_⟩
  · have := kp.size; have := s.chg.size; unfold Put3; omega
  · unfold Put3; simp [ef o, h.free o]
  · rw [hl]; exact own_setCell (own_setCell (own_setCell own nB) nB) nB
  · have := kp.size; have := s.chg.size; have := h.sz; unfold Put3; omega
  · exact kp.os.trans (s.chg.os.trans k.os)
  · exact kp.tape.trans (s.chg.tape.trans k.tape)
  · exact kp.output.trans (s.chg.output.trans k.output)
  · have := kp.size; have := s.chg.size; unfold Put3; omega
  · unfold Put3
    rw [kp.block i (by have := s.chg.size; omega) (fun c => hn (.inl (by omega))), s.chg.block i (by omega) (by rintro (c | c); exact c; exact hn (.inr c))]
    exact k.block i hi (by omega)
  · rcases s.row with c | ⟨r, c, hr⟩
    · exact .inl c
    · exact .inr ⟨r, c, by omega⟩

/-- The contract of l2put in a world behind w. -/
theorem SG.call {w w1 : World} {P m1 e1 m3 e3 base cap : Nat} {b1 b3 a2 : Option Addr} {vs : List Vl} {R : Option Nat} (h : SG w P b1 m1 e1 b3 m3 e3 vs base R a2 cap) (k : Kept 0 0 w w1) (v : Vl) (hn : vs.length ≤ 1000000) :
    Calls Try.prog 153 #[gagg b1 m1 e1 a2 vs.length cap b3 m3 e3, v.agg] w1 fun e w2 => ∃ g' cap', e = .returned (gagg b1 m1 e1 (some ⟨g', 0, none⟩) (vs.length + 1) cap' b3 m3 e3) ∧
      (∃ u, w2.cell? ⟨P, 0, none⟩ = some u) ∧ (∃ u, w2.cell? ⟨P, 1, none⟩ = some u) ∧ (∃ u, w2.cell? ⟨P, 2, none⟩ = some u) ∧ (∀ o, w2.frozen? ⟨P, o, none⟩ = false) ∧
      Hid (SG (Put3 w2 P (.slice b1 m1 e1) (.slice (some ⟨g', 0, none⟩) (vs.length + 1) cap') (.slice b3 m3 e3)) P b1 m1 e1 b3 m3 e3 (vs ++ [v]) base (some g') (some ⟨g', 0, none⟩) cap' ∧ StQ (fun i => i = P) R w (some g') (Put3 w2 P (.slice b1 m1 e1) (.slice (some ⟨g', 0, none⟩) (vs.length + 1) cap') (.slice b3 m3 e3))) := by
  have h1 := h.keep k
  refine (l2put w1 b1 a2 b3 m1 e1 cap m3 e3 base vs v h1.own h1.sz hn).mono ?_
  rintro e w2 ⟨g', cap', rfl, own, s⟩
  rw [h.row] at s
  have hb : w2.heap[P]? = w1.heap[P]? := s.chg.block P h1.lt (by rintro (c | c); exact c; exact h.ne c)
  have e : ∀ o, w2.cell? ⟨P, o, none⟩ = w1.cell? ⟨P, o, none⟩ := fun o => World.cell?_of_block (w := w1) (a := ⟨P, o, none⟩) hb
  have ef : ∀ o, w2.frozen? ⟨P, o, none⟩ = w1.frozen? ⟨P, o, none⟩ := fun o => World.frozen?_of_block (w := w1) (a := ⟨P, o, none⟩) hb
  exact ⟨g', cap', rfl, ⟨_, (e 0).trans h1.c0⟩, ⟨_, (e 1).trans h1.c1⟩, ⟨_, (e 2).trans h1.c2⟩, fun o => by rw [ef]; exact h1.free o, h.put k own s⟩

/-- A box that the step does not reach. -/
theorem RB.stq {W W' : World} {p P : Nat} {b0 b1 b2 : Value} {R R' : Option Nat} (t : RB W p b0 b1 b2) (s : StQ (fun i => i = P) R W R' W') (hp : p ≠ P) (hR : R ≠ some p) : RB W' p b0 b1 b2 := by
  have hn : ¬ ((fun i => i = P) p ∨ R = some p) := by rintro (c | c); exact hp c; exact hR c
  have e : ∀ o, W'.cell? ⟨p, o, none⟩ = W.cell? ⟨p, o, none⟩ := fun o => s.chg.cell (p := ⟨p, o, none⟩) t.sz hn
  have f : ∀ o, W'.frozen? ⟨p, o, none⟩ = W.frozen? ⟨p, o, none⟩ := fun o => s.chg.frozen (p := ⟨p, o, none⟩) t.sz hn
  exact ⟨Nat.lt_of_lt_of_le t.sz s.chg.size, by rw [e]; exact t.q0, by rw [e]; exact t.q1, by rw [e]; exact t.q2, by rw [f]; exact t.f0, by rw [f]; exact t.f1, by rw [f]; exact t.f2⟩
theorem StQ.keepQ {Q : Nat → Prop} {R R' : Option Nat} {w w' w'' : World} (s : StQ Q R w R' w') (k : Kept 0 0 w' w'') : StQ Q R w R' w'' := s.new (l := w.heap.size) (h := w.heap.size) (k.mono fun _ _ c => by omega) (Nat.le_refl _)
theorem StQ.drop {w wB W' : World} {P : Nat} {R R' : Option Nat} (s : StQ (fun i => i = P) R wB R' W') (k : Kept 0 0 w wB) (hP : w.heap.size ≤ P) : StQ (fun _ => False) R w R' W' :=
  ⟨⟨s.chg.os.trans k.os, s.chg.tape.trans k.tape, s.chg.output.trans k.output, Nat.le_trans k.size s.chg.size, fun i hi hn => by
    rw [s.chg.block i (Nat.lt_of_lt_of_le hi k.size) (by rintro (c | c); exact absurd c (by omega); exact hn (.inr c))]
    exact k.block i hi (by omega)⟩, by
    rcases s.row with c | ⟨r, c, hr⟩
    · exact .inl c
    · exact .inr ⟨r, c, Nat.le_trans k.size hr⟩⟩
/-- The row's block is old, or it came behind w. -/
theorem StQ.far {Q : Nat → Prop} {w W' : World} {R : Option Nat} {g' B : Nat} (s : StQ Q R w (some g') W') (hB : B < w.heap.size) (hR : R ≠ some B) : g' ≠ B := by
  rcases s.row with c | ⟨r, c, hr⟩
  · exact fun e => hR (by rw [← c, e])
  · cases c; omega

set_option maxRecDepth 100000 in
set_option maxHeartbeats 2000000 in
theorem l2or_none (w : World) (b1 a2 b3 : Option Addr) (m1 e1 cap m3 e3 base : Nat) (vs : List Vl) (a n : Int) (h : w.ownsRow base 40 6 (.slice a2 vs.length cap) vs.length (flat vs)) (hb : base ≤ w.heap.size) (hn : vs.length ≤ 900000) (ha : a < 0) :
    Calls Try.prog 178 #[gagg b1 m1 e1 a2 vs.length cap b3 m3 e3, .int .i64 a, .int .i64 n] w fun e w' => ∃ g' cap', e = .returned (.tuple #[gagg b1 m1 e1 (some ⟨g', 0, none⟩) (vs.length + 1) cap' b3 m3 e3, .int .i64 (vs.length : Nat)]) ∧ w'.ownsRow base 40 6 (.slice (some ⟨g', 0, none⟩) (vs.length + 1) cap') (vs.length + 1) (flat (vs ++ [vput 1 n 0 0 0])) ∧ StQ (fun _ => False) (Value.slice a2 vs.length cap).ownBlock w (some g') w' := by
  have k1 := kept_alloc 0 0 w (gbox b1 m1 e1 a2 vs.length cap b3 m3 e3)
  have k2 := kept_alloc 0 0 (w.alloc (gbox b1 m1 e1 a2 vs.length cap b3 m3 e3)) nbox
  have hG := (g0_start w (.slice b1 m1 e1) (.slice a2 vs.length cap) (.slice b3 m3 e3)).keep k2
  have hS : SG ((w.alloc (gbox b1 m1 e1 a2 vs.length cap b3 m3 e3)).alloc nbox) w.heap.size b1 m1 e1 b3 m3 e3 vs base (Value.slice a2 vs.length cap).ownBlock a2 cap :=
    ⟨hG.sz, fun o => by simp, hG.q0, hG.q1, hG.q2, own_keepJ h (k1.trans k2), rfl, fun e => by have := (own_blkV h e).2; omega, by simp; omega⟩
  have hN := rb_start (w.alloc (gbox b1 m1 e1 a2 vs.length cap b3 m3 e3))
  rw [show (w.alloc (gbox b1 m1 e1 a2 vs.length cap b3 m3 e3)).heap.size = w.heap.size + 1 by simp] at hN
  have HN : Hid _ := hN
  have HS : Hid _ := hS
  have HK : Hid _ := k1.trans k2
  have HR : Hid (∀ B, w.heap.size ≤ B → (Value.slice a2 vs.length cap).ownBlock ≠ some B) := fun B hB e => by have := (own_blkV h e).2; omega
  have p0 := hS.c0
  have p1 := hS.c1
  have p2 := hS.c2
  have f0 := hS.free
  clear h k1 k2 hG hS hN
  go_enter Try.func178, Try.ntmps178
  go_upto_region 3 with fail
  generalize (w.alloc (gbox b1 m1 e1 a2 vs.length cap b3 m3 e3)).alloc nbox = wB at HN HS HK p0 p1 p2 f0 ⊢
  go_cut [] (fun wx => ∃ g' cap', Hid (SG wx w.heap.size b1 m1 e1 b3 m3 e3 (vs ++ [vput 1 n 0 0 0]) base (some g') (some ⟨g', 0, none⟩) cap' ∧ StQ (fun i => i = w.heap.size) (Value.slice a2 vs.length cap).ownBlock wB (some g') wx))
  case first =>
    go_region_with (first
      | (go_at_call 153; refine Calls.mono (SG.call HS.out ((kept_drew wB).trans k1) (vput 1 n 0 0 0) (by omega)) ?_; rintro e w2 ⟨g', cap', rfl, ⟨u0, r0⟩, ⟨u1, r1⟩, ⟨u2, r2⟩, rf, hS2⟩)
      | (go_at_call 154; refine Calls.mono (l2zeros _ _) ?_; rintro e w1 ⟨rfl, k1⟩; obtain ⟨_, _, s0, s1, s2, _, _, _, _⟩ := SG.keep HS.out ((kept_drew wB).trans k1)))
    all_goals (go_wp2_with fail; go_meet; exact ⟨g', cap', hS2⟩)
  case rest =>
    obtain ⟨g', cap', hS2⟩ := hcut
    have hl : (vs ++ [vput 1 n 0 0 0]).length = vs.length + 1 := by simp
    obtain ⟨z1, z2, z3, z4, z5, z6, z7, z8, z9⟩ := hS2.out.1
    have hRow : (Value.slice a2 vs.length cap).ownBlock ≠ some (w.heap.size + 1) := fun e => HR.out _ (by omega) e
    have HN2 : Hid _ := RB.stq HN.out hS2.out.2 (by omega) hRow
    rw [hl] at z4 z6
    have HO : Hid _ := z6
    clear z1 z2 z6 z7 z8 z9 p0 p1 p2 f0
    have HLast : Hid (∀ W : World, _) := fun W => l2last W b1 (some ⟨g', 0, none⟩) b3 m1 e1 (vs.length + 1) cap' m3 e3 (by omega)
    rw [show ((vs.length + 1 : Nat) : Int) - 1 = (vs.length : Nat) by omega] at HLast
    have HKC : Hid (∀ W, Kept 0 0 wc W → SG W w.heap.size b1 m1 e1 b3 m3 e3 (vs ++ [vput 1 n 0 0 0]) base (some g') (some ⟨g', 0, none⟩) cap' ∧ RB W (w.heap.size + 1) (.slice none 0 0) (.slice none 0 0) (.slice none 0 0)) := fun W k => ⟨hS2.out.1.keep k, RB.keep HN2.out k⟩
    have HFin : Hid (∀ W, Kept 0 0 wc W → (Put3 W (w.heap.size + 1) (.slice b1 m1 e1) (.slice (some ⟨g', 0, none⟩) (vs.length + 1) cap') (.slice b3 m3 e3)).ownsRow base 40 6 (.slice (some ⟨g', 0, none⟩) (vs.length + 1) cap') (vs.length + 1) (flat (vs ++ [vput 1 n 0 0 0])) ∧ StQ (fun _ => False) (Value.slice a2 vs.length cap).ownBlock w (some g') (Put3 W (w.heap.size + 1) (.slice b1 m1 e1) (.slice (some ⟨g', 0, none⟩) (vs.length + 1) cap') (.slice b3 m3 e3))) := fun W k => by
      have hne : g' ≠ w.heap.size + 1 := hS2.out.2.far HN.out.sz hRow
      have nB : (Value.slice (some ⟨g', 0, none⟩) (vs.length + 1) cap').ownBlock ≠ some (w.heap.size + 1) := fun c => hne (by simpa [Value.ownBlock] using c)
      refine ⟨own_setCell (own_setCell (own_setCell (own_keepJ HO.out k) nB) nB) nB, ?_⟩
      exact ((hS2.out.2.drop HK.out (Nat.le_refl _)).keepQ k).new (put3_kept W (w.heap.size + 1) _ _ _) (by omega)
    clear HN HS HN2 HO HR hRow
    go_upto_region 4 with fail
    go_region_with (first
      | (go_at_call 155; refine Calls.mono (HLast.out _) ?_; rintro e w3 ⟨rfl, k3⟩; obtain ⟨⟨_, _, s0, s1, s2, _, _, _, _⟩, ⟨_, t0, t1, t2, x0, x1, x2⟩⟩ := HKC.out w3 ((kept_drew wc).trans k3); rw [hl] at s1; have HF3 : Hid _ := HFin.out w3 ((kept_drew wc).trans k3)))
    all_goals
      go_wp2_with fail
      obtain ⟨y0, y1, y2⟩ := put3_0 w3 (w.heap.size + 1) _ _ _ t0 t1 t2 (.slice b1 m1 e1) (.slice (some ⟨g', 0, none⟩) (vs.length + 1) cap') (.slice b3 m3 e3)
      refine bodyPost_ret (v := .tuple #[gagg b1 m1 e1 (some ⟨g', 0, none⟩) (vs.length + 1) cap' b3 m3 e3, .int .i64 (vs.length : Nat)]) (by simp [results, Try.results178, go_sem, y0, y1, y2]) rfl ⟨g', cap', rfl, HF3.out.1, HF3.out.2⟩
end Go.Proofs.Ytcphabjekfihnaa

namespace Go.Proofs.Ytcphabjekfihnaa
open Go.RowKit Flt
attribute [local go_sem] alloc_drewN setCell_drewN run_store_float

end Go.Proofs.Ytcphabjekfihnaa

namespace Go.Proofs.Ytcphabjekfihnaa
open Go.RowKit Flt
attribute [local go_sem] alloc_drewN setCell_drewN run_store_float

end Go.Proofs.Ytcphabjekfihnaa
