import Derived.Test.YtdkjdlimcnddkaaA13
import Derived.Test.YtdkjdlimcnddkaaA07
import Derived.Test.YtdkjdlimcnddkaaA11
import Derived.Test.YtdkjdlimcnddkaaA09
import Derived.Deep.RegionWith
import Derived.Shelf.Abstract
import Derived.Deep.RegionHeld3
namespace Go.Proofs.Ytdkjdlimcnddkaa
open Go.RowKit Flt
attribute [local go_sem] alloc_drewN setCell_drewN run_store_float

theorem VS.at_idx {w : World} {lo hi : Nat} {a : Option Addr} {n : Nat} {vs : List Vl} (f : VS w lo hi a n vs) {i : Nat} (h : i < n) : ∃ g off, a = some ⟨g, off, none⟩ ∧ g < w.heap.size ∧ g < hi ∧ lo ≤ g ∧ At w g (off + i * 6) (vs.getD i Vl.zero) := by
  rcases f.at_ with z | ⟨g, off, e, z1, z2, z3, z4⟩
  · omega
  · exact ⟨g, off, e, z3, z2, z1, z4 i h⟩
theorem VS.keepC {w w' : World} {S : Nat → Prop} {lo hi : Nat} {a : Option Addr} {n : Nat} {vs : List Vl} (f : VS w lo hi a n vs) (k : Chg S w w') (hd : ∀ g, lo ≤ g → g < hi → ¬ S g) : VS w' lo hi a n vs :=
  ⟨f.len, f.lt, by
    rcases f.at_ with z | ⟨g, off, e, z1, z2, z3, z4⟩
    · exact .inl z
    · refine .inr ⟨g, off, e, z1, z2, Nat.lt_of_lt_of_le z3 k.size, fun j hj => ?_⟩
      have e : ∀ o, w'.cell? ⟨g, o, none⟩ = w.cell? ⟨g, o, none⟩ := fun o => k.cell (p := ⟨g, o, none⟩) z3 (hd g z1 z2)
      obtain ⟨c0, c1, c2, c3, c4, c5⟩ := z4 j hj
      exact ⟨by rw [e]; exact c0, by rw [e]; exact c1, by rw [e]; exact c2, by rw [e]; exact c3, by rw [e]; exact c4, by rw [e]; exact c5⟩⟩
theorem IS.keepC {w w' : World} {S : Nat → Prop} {lo hi : Nat} {a : Option Addr} {n : Nat} {xs : List Int} (f : IS w lo hi a n xs) (k : Chg S w w') (hd : ∀ g, lo ≤ g → g < hi → ¬ S g) : IS w' lo hi a n xs :=
  ⟨f.len, by
    rcases f.at_ with z | ⟨g, off, e, z1, z2, z3, z4⟩
    · exact .inl z
    · exact .inr ⟨g, off, e, z1, z2, Nat.lt_of_lt_of_le z3 k.size, fun j hj => by rw [k.cell (p := ⟨g, off + j, none⟩) z3 (hd g z1 z2)]; exact z4 j hj⟩⟩
theorem opsOf_fld (v : Vl) {q : Nat} (hq : q < cnt v.op) : (opsOf v).getD q 0 = fld v q := by
  have := cnt_le v.op
  unfold opsOf
  rw [List.getD_eq_getElem?_getD, List.getElem?_take_of_lt hq]
  rcases (by omega : q = 0 ∨ q = 1 ∨ q = 2) with rfl | rfl | rfl <;> rfl
theorem l1ops (op : Int) (h0 : 0 ≤ op) (h1 : op ≤ 13) (w : World) : Calls Try.prog 84 #[.int .i64 op] w fun e w' => e = .returned (.int .i64 (cnt op : Nat)) ∧ w = w' := by
  have := l1operands op w h0 h1
  rw [ops0 h0 h1] at this
  exact this.mono fun _ _ h => ⟨h.1, h.2.symm⟩
theorem own_keepC {base e size n : Nat} {v : Value} {xs : List Value} {W W' : World} {S : Nat → Prop} (o : W.ownsRow base e size v n xs) (k : Chg S W W') (hd : ∀ g, v.ownBlock = some g → ¬ S g) : W'.ownsRow base e size v n xs := by
  refine ⟨o.1, o.2.imp id ?_⟩
  rintro ⟨g, cap, cur, e1, b1, b2, b3⟩
  refine ⟨g, cap, cur, e1, b1, ?_, b3⟩
  have hg : g < W.heap.size := by
    rcases Nat.lt_or_ge g W.heap.size with c | c
    · exact c
    · rw [Array.getElem?_eq_none c] at b2; cases b2
  rw [k.block g hg (hd g (by rw [e1]; rfl))]
  exact b2
theorem chg_grow {w w' : World} {row : Option Nat} (h : w.grownBy w' row) : Chg (fun b => row = some b) w w' :=
  ⟨h.os, h.tape, h.output, h.size, fun k hk hn => h.block k hk (fun c => hn c.symm)⟩
theorem isO_take {outs : List Int} {i k : Nat} (hk : k < outs.length) (h : (outs.take k).any (fun o => o == (i : Int)) = false) (t : (outs.getD k 0 == (i : Int)) = false) : (outs.take (k + 1)).any (fun o => o == (i : Int)) = false := by
  rw [List.take_succ_eq_append_getElem hk, List.any_append, h]
  rw [List.getD_eq_getElem?_getD, List.getElem?_eq_getElem hk] at t
  simpa using t
set_option maxRecDepth 100000 in
set_option maxHeartbeats 2000000 in
theorem l4needed (w : World) (b1 b2 b3 : Option Addr) (n1 c1 n2 c2 n3 c3 i lo hi : Nat) (outs : List Int) (f : IS w lo hi b3 n3 outs) (hn : n3 ≤ 1000000) :
    Calls Try.prog 162 #[gagg b1 n1 c1 b2 n2 c2 b3 n3 c3, .int .i64 (i : Nat)] w fun e w' => e = .returned (.bool (isO outs i)) ∧ Kept 0 0 w w' := by
  have k0 := kept_alloc 0 0 w (gbox b1 n1 c1 b2 n2 c2 b3 n3 c3)
  have HB : Hid _ := g0_start w (.slice b1 n1 c1) (.slice b2 n2 c2) (.slice b3 n3 c3)
  have HF : Hid _ := f.keep k0 (.inr (.inr (Nat.le_refl _)))
  have HL : Hid (outs.length = n3) := f.len
  have HK : Hid _ := k0
  clear f k0
  go_enter Try.func162, Try.ntmps162
  go_wp2_with fail
  generalize w.alloc (gbox b1 n1 c1 b2 n2 c2 b3 n3 c3) = w1 at HB HF HK ⊢
  go_loop [5] (fun x => ∃ k : Nat, k ≤ n3 ∧ x = .int .i64 k ∧ Hid ((outs.take k).any (fun o => o == (i : Int)) = false)) (fun x => n3 - (intOf x).toNat)
  case atStart => exact ⟨0, Nat.zero_le _, rfl, rfl⟩
  case round =>
    obtain ⟨k, hk, rfl, hA⟩ := hrel
    obtain ⟨_, q0, q1, q2⟩ := HB.out
    by_cases hlt : k < n3
    · obtain ⟨g, off, m, rfl, em, hm, hg, c1'⟩ := HF.out.at_idx (o := k) (by omega) (by omega)
      obtain rfl : k = m := by omega
      rw [Int.toNat_natCast] at c1'
      cases t : (outs.getD k 0 == (i : Int))
      · have R : Hid _ := isO_take (by rw [HL.out]; exact hlt) hA.out t
        generalize outs.getD k 0 = x at c1' t
        clear hA
        go_wp2
        go_round
        case rel => exact ⟨k + 1, by omega, by go_num, R⟩
        case measure => simp [intOf]; omega
      · have R : Hid (isO outs i = true) := by
          show _ = _
          unfold isO
          rw [List.any_eq_true]
          exact ⟨outs.getD k 0, getD_memJ (by rw [HL.out]; exact hlt), t⟩
        generalize outs.getD k 0 = x at c1' t
        clear hA
        go_wp2
        go_ret
        exact ⟨by rw [R.out]; rfl, HK.out⟩
    · obtain rfl : k = n3 := by omega
      have R : Hid (isO outs i = false) := by
        have := hA.out
        rw [List.take_of_length_le (by rw [HL.out]; omega)] at this
        exact this
      clear hA
      go_wp2
      go_ret
      exact ⟨by rw [R.out]; rfl, HK.out⟩
end Go.Proofs.Ytdkjdlimcnddkaa

namespace Go.Proofs.Ytdkjdlimcnddkaa
open Go.RowKit Flt
attribute [local go_sem] alloc_drewN setCell_drewN run_store_float

/-! What an operand gets of a value's slope: pure. -/
/-- The part of the k-th operand of value i, where d is the slope of i, la the length of its operand A and N the number of values so far. -/
def prtM (i : Int) (v : Vl) (la : Int) (k : Nat) (d : Int) (N : Nat) : List Vl × Int :=
  if v.op = 2 then ([], d)
  else if v.op = 3 then (if k = 0 then ([], d) else ([vput 6 v.len d 0 0], N))
  else if v.op = 4 then (if k = 0 then ([vput 4 v.len d v.b 0], N) else ([vput 4 v.len d v.a 0], N))
  else if v.op = 5 then (if k = 0 then ([vput 5 v.len d v.b 0], N) else ([vput 4 v.len d i 0, vput 5 v.len N v.b 0, vput 6 v.len ((N + 1 : Nat) : Int) 0 0], ((N + 2 : Nat) : Int)))
  else if v.op = 6 then ([vput 6 v.len d 0 0], N)
  else if v.op = 13 then ([vput 4 v.len d i 0], N)
  else if v.op = 8 then (if k = 1 then ([vput 1 v.len 0 0 0, vput 8 v.len v.a d N], ((N + 1 : Nat) : Int)) else ([vput 1 v.len 0 0 0, vput 8 v.len v.a N d], ((N + 1 : Nat) : Int)))
  else if v.op = 7 then (if k = 0 then ([vput 3 v.len v.a v.b 0, vput 1 v.len 0 0 0, vput 8 v.len N d ((N + 1 : Nat) : Int)], ((N + 2 : Nat) : Int)) else ([vput 3 v.len v.a v.b 0, vput 1 v.len 0 0 0, vput 8 v.len N ((N + 1 : Nat) : Int) d], ((N + 2 : Nat) : Int)))
  else if v.op = 9 then ([vput 10 la d 0 0], N)
  else if v.op = 10 then ([vput 9 1 d 0 0], N)
  else if v.op = 11 then ([vput 12 la d 0 v.c], N)
  else ([vput 11 1 d 0 v.c], N)
/-- Is there a part? -/
def prtB (v : Vl) (k : Nat) : Bool := !(v.op == 8 && k == 0)
/-- The blocks from lo to hi are as they were. -/
structure Same (lo hi : Nat) (W0 W : World) : Prop where
  le : hi ≤ W0.heap.size
  size : W0.heap.size ≤ W.heap.size
  blk : ∀ b, lo ≤ b → b < hi → W.heap[b]? = W0.heap[b]?
theorem Same.cell {lo hi : Nat} {W0 W : World} (s : Same lo hi W0 W) {b o : Nat} (h1 : lo ≤ b) (h2 : b < hi) : W.cell? ⟨b, o, none⟩ = W0.cell? ⟨b, o, none⟩ := World.cell?_of_block (s.blk b h1 h2)
theorem Same.refl {lo hi : Nat} {W : World} (h : hi ≤ W.heap.size) : Same lo hi W W := ⟨h, Nat.le_refl _, fun _ _ _ => rfl⟩
theorem Same.chg {lo hi : Nat} {W0 W W' : World} {S : Nat → Prop} (s : Same lo hi W0 W) (k : Chg S W W') (hd : ∀ b, lo ≤ b → b < hi → ¬ S b) : Same lo hi W0 W' :=
  ⟨s.le, Nat.le_trans s.size k.size, fun b h1 h2 => by rw [k.block b (Nat.lt_of_lt_of_le h2 (Nat.le_trans s.le s.size)) (hd b h1 h2)]; exact s.blk b h1 h2⟩
/-- The builder's box and row lie outside. -/
structure InR (lo hi P : Nat) (R : Option Nat) : Prop where
  p : P < lo
  r : ∀ b, R = some b → b < lo ∨ hi ≤ b
theorem InR.step {lo hi P : Nat} {R R' : Option Nat} {W W' : World} (f : InR lo hi P R) (s : Stp P R W R' W') (h : hi ≤ W.heap.size) : InR lo hi P R' :=
  ⟨f.p, fun b hb => by
    rcases s.row with e | ⟨r, e, hr⟩
    · exact f.r b (by rw [← e]; exact hb)
    · rw [e] at hb
      cases hb
      exact .inr (by omega)⟩
theorem Same.step {lo hi P : Nat} {R R' : Option Nat} {W0 W W' : World} (s : Same lo hi W0 W) (f : InR lo hi P R) (k : Stp P R W R' W') : Same lo hi W0 W' :=
  s.chg k.chg (fun b h1 h2 c => by
    rcases c with c | c
    · have := f.p; omega
    · have := f.r b c; omega)
/-- The list starts with vs0. -/
def Pre (vs0 us : List Vl) : Prop := ∃ r, us = vs0 ++ r
theorem Pre.at_ {vs0 us : List Vl} (h : Pre vs0 us) {j : Nat} (hj : j < vs0.length) : us.getD j Vl.zero = vs0.getD j Vl.zero ∧ j < us.length := by
  obtain ⟨r, rfl⟩ := h
  refine ⟨?_, by rw [List.length_append]; omega⟩
  rw [List.getD_eq_getElem?_getD, List.getElem?_append_left hj, ← List.getD_eq_getElem?_getD]
theorem Pre.app {vs0 us a : List Vl} (h : Pre vs0 us) : Pre vs0 (us ++ a) := by
  obtain ⟨r, rfl⟩ := h
  exact ⟨r ++ a, by rw [List.append_assoc]⟩
/-- A closure that puts a part behind, as data: its function and what it has caught, whose boxes lie within lo and hi. -/
def PC (W0 : World) (lo hi P : Nat) (vs0 : List Vl) (fv : Value) (f : Int → Nat → List Vl × Int) : Prop :=
  ∃ (N : FuncId) (caps : Array Value), fv = .func (.func N) #[] caps ∧ (∀ args w, (callFunc N args).run Try.prog w = .ok (.enter N args) w) ∧ ∀ (W : World) (u1 u3 : Value) (us : List Vl) (c : Int) (base : Nat) (R : Option Nat) (vv : Value) (d : Int), Same lo hi W0 W → InR lo hi P R → BS W P u1 u3 us c base R vv → Pre vs0 us → Bnd us c 0 → Calls Try.prog N (#[.int .i64 d] ++ caps) W fun e w' => Bd W P u1 u3 us c base R (f d us.length) e w'
set_option maxRecDepth 100000 in
set_option maxHeartbeats 2000000 in
theorem bldLen (w : World) (P : Nat) (u1 u3 : Value) (us : List Vl) (c : Int) (base : Nat) (R : Option Nat) (vv : Value) (h : BS w P u1 u3 us c base R vv) (j : Nat) (hj : j < us.length) (hl : us.length ≤ 900000) :
    Calls Try.prog 134 #[.pointer (some ⟨P, 0, none⟩), .int .i64 (j : Int)] w fun e w' => e = .returned (.int .i64 (us.getD j Vl.zero).len) ∧ w' = w := by
  obtain ⟨g, cap, rfl, _, _, _, hva⟩ := row_at h.own (by omega) rfl
  have y1 := h.c1
  have y2 := (hva.at_ j hj).c1
  obtain ⟨n, hn⟩ : ∃ n, n = us.length := ⟨_, rfl⟩
  rw [← hn] at hj y1
  have hj1 : (0 : Int) ≤ (j : Int) := by omega
  have hj2 : (j : Int) < (n : Int) := by omega
  generalize (us.getD j Vl.zero).len = L at y2
  clear h hva hn
  go_enter Try.func134, Try.ntmps134
  go_wp2
  go_ret
  exact ⟨rfl, rfl⟩
end Go.Proofs.Ytdkjdlimcnddkaa

namespace Go.Proofs.Ytdkjdlimcnddkaa
open Go.RowKit Flt
attribute [local go_sem] alloc_drewN setCell_drewN run_store_float
theorem Bnd.of {us : List Vl} {c n : Int} (b : Bnd us c 0) (h0 : -1000 ≤ n) (h1 : n ≤ 1000) : Bnd us c n := ⟨b.l, b.c0, b.c1, h0, h1⟩
structure Bw (us : List Vl) (c : Int) : Prop where
  l : us.length ≤ 1000000
  c0 : -1000000000 ≤ c
  c1 : c ≤ 1000000000
theorem Bnd.w {us : List Vl} {c : Int} (b : Bnd us c 0) : Bw us c := ⟨by have := b.l; omega, by have := b.c0; omega, by have := b.c1; omega⟩
theorem At.stepC {w w' : World} {P : Nat} {R R' : Option Nat} {B : Nat} {v : Vl} (a : At w B 0 v) (s : Stp P R w R' w') (hB : B < w.heap.size) (h1 : B ≠ P) (h2 : R ≠ some B) : At w' B 0 v := by
  have e : ∀ o, w'.cell? ⟨B, o, none⟩ = w.cell? ⟨B, o, none⟩ := fun o => s.chg.cell (p := ⟨B, o, none⟩) hB (by rintro (c | c); exact h1 c; exact h2 c)
  exact ⟨by rw [e]; exact a.c0, by rw [e]; exact a.c1, by rw [e]; exact a.c2, by rw [e]; exact a.c3, by rw [e]; exact a.c4, by rw [e]; exact a.c5⟩
/-- A closure's boxes: the builder's, and what else it needs, each apart from the builder. -/
structure Cap (W : World) (P : Nat) (R : Option Nat) (b : Nat) (u : Value) : Prop where
  at_ : W.cell? ⟨b, 0, none⟩ = some u
  lt : b < W.heap.size
  np : b ≠ P
  nr : R ≠ some b
theorem Cap.step {W W' : World} {P : Nat} {R R' : Option Nat} {b : Nat} {u : Value} (f : Cap W P R b u) (s : Stp P R W R' W') : Cap W' P R' b u :=
  ⟨by rw [s.chg.cell (p := ⟨b, 0, none⟩) f.lt (by rintro (c | c); exact f.np c; exact f.nr c)]; exact f.at_, Nat.lt_of_lt_of_le f.lt s.chg.size, f.np, by
    rcases s.row with e | ⟨r, e, hr⟩
    · rw [e]; exact f.nr
    · rw [e]
      intro c
      cases c
      have := f.lt
      omega⟩
theorem Cap.keep {W W' : World} {P : Nat} {R : Option Nat} {b : Nat} {u : Value} (f : Cap W P R b u) (k : Kept 0 0 W W') : Cap W' P R b u :=
  ⟨by rw [k.cell (p := ⟨b, 0, none⟩) f.lt (by omega)]; exact f.at_, Nat.lt_of_lt_of_le f.lt k.size, f.np, f.nr⟩
set_option maxRecDepth 100000 in
set_option maxHeartbeats 2000000 in
theorem k_opp (w : World) (P : Nat) (u1 u3 : Value) (us : List Vl) (c : Int) (base : Nat) (R : Option Nat) (vv : Value) (h : BS w P u1 u3 us c base R vv) (B : Bw us c) (d : Int) (xb : Nat) (cb : w.cell? ⟨xb, 0, none⟩ = some (.pointer (some ⟨P, 0, none⟩))) (xn : Nat) (n : Int) (cn : w.cell? ⟨xn, 0, none⟩ = some (.int .i64 n)) (n0 : -1000 ≤ n) (n1 : n ≤ 1000) :
    Calls Try.prog 173 #[.int .i64 d, .pointer (some ⟨xb, 0, none⟩), .pointer (some ⟨xn, 0, none⟩)] w fun e w' => Bd w P u1 u3 us c base R ([vput 6 n d 0 0], (us.length : Nat)) e w' := by
  have HX : Hid _ := put_bd w P u1 u3 us c base R vv 6 n d 0 0 h (by have := B.l; omega) (by have := B.c0; omega) (by have := B.c1; omega) (by omega) (by omega)
  clear h B
  go_enter Try.func173, Try.ntmps173
  go_wp2_with fail
  refine Calls.mono HX.out ?_
  rintro e w' ⟨rfl, hR⟩
  have R : Hid _ := hR
  clear hR
  go_wp2
  go_ret
  exact ⟨rfl, R.out⟩
set_option maxRecDepth 100000 in
set_option maxHeartbeats 2000000 in
theorem k_mulB (w : World) (P : Nat) (u1 u3 : Value) (us : List Vl) (c : Int) (base : Nat) (R : Option Nat) (vv : Value) (h : BS w P u1 u3 us c base R vv) (B : Bw us c) (d : Int) (xb : Nat) (cb : w.cell? ⟨xb, 0, none⟩ = some (.pointer (some ⟨P, 0, none⟩))) (xn : Nat) (n : Int) (cn : w.cell? ⟨xn, 0, none⟩ = some (.int .i64 n)) (n0 : -1000 ≤ n) (n1 : n ≤ 1000) (xv : Nat) (v : Vl) (cv : At w xv 0 v) :
    Calls Try.prog 175 #[.int .i64 d, .pointer (some ⟨xb, 0, none⟩), .pointer (some ⟨xn, 0, none⟩), .pointer (some ⟨xv, 0, none⟩)] w fun e w' => Bd w P u1 u3 us c base R ([vput 4 n d v.b 0], (us.length : Nat)) e w' := by
  have HX : Hid _ := put_bd w P u1 u3 us c base R vv 4 n d v.b 0 h (by have := B.l; omega) (by have := B.c0; omega) (by have := B.c1; omega) (by omega) (by omega)
  obtain ⟨v0, v1, v2, v3, v4, v5⟩ := cv
  simp only [Nat.zero_add] at v1 v2 v3 v4 v5
  clear h B
  go_enter Try.func175, Try.ntmps175
  go_wp2_with fail
  refine Calls.mono HX.out ?_
  rintro e w' ⟨rfl, hR⟩
  have R : Hid _ := hR
  clear hR
  go_wp2
  go_ret
  exact ⟨rfl, R.out⟩
set_option maxRecDepth 100000 in
set_option maxHeartbeats 2000000 in
theorem k_mulA (w : World) (P : Nat) (u1 u3 : Value) (us : List Vl) (c : Int) (base : Nat) (R : Option Nat) (vv : Value) (h : BS w P u1 u3 us c base R vv) (B : Bw us c) (d : Int) (xb : Nat) (cb : w.cell? ⟨xb, 0, none⟩ = some (.pointer (some ⟨P, 0, none⟩))) (xn : Nat) (n : Int) (cn : w.cell? ⟨xn, 0, none⟩ = some (.int .i64 n)) (n0 : -1000 ≤ n) (n1 : n ≤ 1000) (xv : Nat) (v : Vl) (cv : At w xv 0 v) :
    Calls Try.prog 176 #[.int .i64 d, .pointer (some ⟨xb, 0, none⟩), .pointer (some ⟨xn, 0, none⟩), .pointer (some ⟨xv, 0, none⟩)] w fun e w' => Bd w P u1 u3 us c base R ([vput 4 n d v.a 0], (us.length : Nat)) e w' := by
  have HX : Hid _ := put_bd w P u1 u3 us c base R vv 4 n d v.a 0 h (by have := B.l; omega) (by have := B.c0; omega) (by have := B.c1; omega) (by omega) (by omega)
  obtain ⟨v0, v1, v2, v3, v4, v5⟩ := cv
  simp only [Nat.zero_add] at v1 v2 v3 v4 v5
  clear h B
  go_enter Try.func176, Try.ntmps176
  go_wp2_with fail
  refine Calls.mono HX.out ?_
  rintro e w' ⟨rfl, hR⟩
  have R : Hid _ := hR
  clear hR
  go_wp2
  go_ret
  exact ⟨rfl, R.out⟩
set_option maxRecDepth 100000 in
set_option maxHeartbeats 2000000 in
theorem k_divA (w : World) (P : Nat) (u1 u3 : Value) (us : List Vl) (c : Int) (base : Nat) (R : Option Nat) (vv : Value) (h : BS w P u1 u3 us c base R vv) (B : Bw us c) (d : Int) (xb : Nat) (cb : w.cell? ⟨xb, 0, none⟩ = some (.pointer (some ⟨P, 0, none⟩))) (xn : Nat) (n : Int) (cn : w.cell? ⟨xn, 0, none⟩ = some (.int .i64 n)) (n0 : -1000 ≤ n) (n1 : n ≤ 1000) (xv : Nat) (v : Vl) (cv : At w xv 0 v) :
    Calls Try.prog 177 #[.int .i64 d, .pointer (some ⟨xb, 0, none⟩), .pointer (some ⟨xn, 0, none⟩), .pointer (some ⟨xv, 0, none⟩)] w fun e w' => Bd w P u1 u3 us c base R ([vput 5 n d v.b 0], (us.length : Nat)) e w' := by
  have HX : Hid _ := put_bd w P u1 u3 us c base R vv 5 n d v.b 0 h (by have := B.l; omega) (by have := B.c0; omega) (by have := B.c1; omega) (by omega) (by omega)
  obtain ⟨v0, v1, v2, v3, v4, v5⟩ := cv
  simp only [Nat.zero_add] at v1 v2 v3 v4 v5
  clear h B
  go_enter Try.func177, Try.ntmps177
  go_wp2_with fail
  refine Calls.mono HX.out ?_
  rintro e w' ⟨rfl, hR⟩
  have R : Hid _ := hR
  clear hR
  go_wp2
  go_ret
  exact ⟨rfl, R.out⟩
set_option maxRecDepth 100000 in
set_option maxHeartbeats 2000000 in
theorem k_exp (w : World) (P : Nat) (u1 u3 : Value) (us : List Vl) (c : Int) (base : Nat) (R : Option Nat) (vv : Value) (h : BS w P u1 u3 us c base R vv) (B : Bw us c) (d : Int) (xb : Nat) (cb : w.cell? ⟨xb, 0, none⟩ = some (.pointer (some ⟨P, 0, none⟩))) (xn : Nat) (n : Int) (cn : w.cell? ⟨xn, 0, none⟩ = some (.int .i64 n)) (n0 : -1000 ≤ n) (n1 : n ≤ 1000) (xi : Nat) (i : Int) (ci : w.cell? ⟨xi, 0, none⟩ = some (.int .i64 i)) :
    Calls Try.prog 179 #[.int .i64 d, .pointer (some ⟨xb, 0, none⟩), .pointer (some ⟨xn, 0, none⟩), .pointer (some ⟨xi, 0, none⟩)] w fun e w' => Bd w P u1 u3 us c base R ([vput 4 n d i 0], (us.length : Nat)) e w' := by
  have HX : Hid _ := put_bd w P u1 u3 us c base R vv 4 n d i 0 h (by have := B.l; omega) (by have := B.c0; omega) (by have := B.c1; omega) (by omega) (by omega)
  clear h B
  go_enter Try.func179, Try.ntmps179
  go_wp2_with fail
  refine Calls.mono HX.out ?_
  rintro e w' ⟨rfl, hR⟩
  have R : Hid _ := hR
  clear hR
  go_wp2
  go_ret
  exact ⟨rfl, R.out⟩
set_option maxRecDepth 100000 in
set_option maxHeartbeats 2000000 in
theorem k_fill (w : World) (P : Nat) (u1 u3 : Value) (us : List Vl) (c : Int) (base : Nat) (R : Option Nat) (vv : Value) (h : BS w P u1 u3 us c base R vv) (B : Bw us c) (d : Int) (xb : Nat) (cb : w.cell? ⟨xb, 0, none⟩ = some (.pointer (some ⟨P, 0, none⟩))) :
    Calls Try.prog 189 #[.int .i64 d, .pointer (some ⟨xb, 0, none⟩)] w fun e w' => Bd w P u1 u3 us c base R ([vput 9 1 d 0 0], (us.length : Nat)) e w' := by
  have HX : Hid _ := put_bd w P u1 u3 us c base R vv 9 1 d 0 0 h (by have := B.l; omega) (by have := B.c0; omega) (by have := B.c1; omega) (by omega) (by omega)
  clear h B
  go_enter Try.func189, Try.ntmps189
  go_wp2_with fail
  refine Calls.mono HX.out ?_
  rintro e w' ⟨rfl, hR⟩
  have R : Hid _ := hR
  clear hR
  go_wp2
  go_ret
  exact ⟨rfl, R.out⟩
set_option maxRecDepth 100000 in
set_option maxHeartbeats 2000000 in
theorem k_put (w : World) (P : Nat) (u1 u3 : Value) (us : List Vl) (c : Int) (base : Nat) (R : Option Nat) (vv : Value) (h : BS w P u1 u3 us c base R vv) (B : Bw us c) (d : Int) (xb : Nat) (cb : w.cell? ⟨xb, 0, none⟩ = some (.pointer (some ⟨P, 0, none⟩))) (xv : Nat) (v : Vl) (cv : At w xv 0 v) :
    Calls Try.prog 191 #[.int .i64 d, .pointer (some ⟨xb, 0, none⟩), .pointer (some ⟨xv, 0, none⟩)] w fun e w' => Bd w P u1 u3 us c base R ([vput 11 1 d 0 v.c], (us.length : Nat)) e w' := by
  have HX : Hid _ := put_bd w P u1 u3 us c base R vv 11 1 d 0 v.c h (by have := B.l; omega) (by have := B.c0; omega) (by have := B.c1; omega) (by omega) (by omega)
  obtain ⟨v0, v1, v2, v3, v4, v5⟩ := cv
  simp only [Nat.zero_add] at v1 v2 v3 v4 v5
  clear h B
  go_enter Try.func191, Try.ntmps191
  go_wp2_with fail
  refine Calls.mono HX.out ?_
  rintro e w' ⟨rfl, hR⟩
  have R : Hid _ := hR
  clear hR
  go_wp2
  go_ret
  exact ⟨rfl, R.out⟩
theorem k_whole (w : World) (d : Int) : Calls Try.prog 172 #[.int .i64 d] w fun e w' => e = .returned (.int .i64 d) ∧ w' = w := by
  go_enter Try.func172, Try.ntmps172
  go_wp2
  go_ret
  exact ⟨rfl, rfl⟩
end Go.Proofs.Ytdkjdlimcnddkaa
