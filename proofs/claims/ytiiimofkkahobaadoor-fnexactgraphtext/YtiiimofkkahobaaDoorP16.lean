import Derived.Test.YtiiimofkkahobaaDoorP15
import Derived.Deep.RegionHeld3
import Derived.Deep.RegionLaw
import Derived.Deep.RegionWith
import Derived.Deep.DeepCutAuto
import Derived.Test.YtiiimofkkahobaaDoorP06
import Derived.Test.YtiiimofkkahobaaDoorP07
import Derived.Deep.AppendSrc
namespace Go.Proofs.YtiiimofkkahobaaDoor
open Go.RowKit Flt
attribute [local go_sem] alloc_drewN setCell_drewN run_store_float

theorem own_keepJ {base e size n : Nat} {v : Value} {xs : List Value} {W W' : World} (h : W.ownsRow base e size v n xs) (k : Kept 0 0 W W') : W'.ownsRow base e size v n xs := by
  refine ⟨h.1, h.2.imp id ?_⟩
  rintro ⟨g, cap, cur, e1, b1, b2, b3⟩
  refine ⟨g, cap, cur, e1, b1, ?_, b3⟩
  have hg : g < W.heap.size := by
    rcases Nat.lt_or_ge g W.heap.size with c | c
    · exact c
    · rw [Array.getElem?_eq_none c] at b2; cases b2
  rw [k.block g hg (by omega)]
  exact b2
theorem hM_is {w : World} {g n : Nat} {xs : List Int} (h : IR w g xs) (hl : xs.length = n) : IS w 0 w.heap.size (some ⟨g, 0, none⟩) n xs := by
  subst hl; exact h.is

theorem newsI {w : World} {g n : Nat} {xs : List Int} (hx : xs.length = n) (hc : ∀ k, k < n → w.cell? ⟨g, k, none⟩ = some (.int .i64 (xs.getD k 0))) :
    ∀ j u, (xs.map (Value.int .i64))[j]? = some u → w.cell? ((⟨g, 0, none⟩ : Addr).add j) = some u := fun j u hu => by
  have hj : j < n := by
    rcases Nat.lt_or_ge j n with c | c
    · exact c
    · rw [List.getElem?_eq_none (by simp; omega)] at hu; cases hu
  have h1 := hc j hj
  have e : (⟨g, 0, none⟩ : Addr).add j = ⟨g, j, none⟩ := by
    unfold Addr.add
    split
    · rename_i h0; rw [h0]
    · simp
  rw [e, h1]
  rw [List.getElem?_map, List.getElem?_eq_getElem (by omega : j < xs.length)] at hu
  simp only [Option.map_some] at hu
  rw [← hu, List.getD_eq_getElem?_getD, List.getElem?_eq_getElem (by omega : j < xs.length)]; rfl
theorem newsV {w : World} {g n : Nat} {vs : List Vl} (hx : vs.length = n) (hc : ∀ k, k < n → At w g (k * 6) (vs.getD k Vl.zero)) :
    ∀ j u, (flat vs)[j]? = some u → w.cell? ((⟨g, 0, none⟩ : Addr).add j) = some u := fun j u hu => by
  have hj : j < n * 6 := by
    rcases Nat.lt_or_ge j (n * 6) with c | c
    · exact c
    · rw [List.getElem?_eq_none (by rw [flat_len]; omega)] at hu; cases hu
  have e : (⟨g, 0, none⟩ : Addr).add j = ⟨g, j, none⟩ := by
    unfold Addr.add
    split
    · rename_i h0; rw [h0]
    · simp
  have ej : j = j / 6 * 6 + j % 6 := by omega
  have hk : j / 6 < n := by omega
  rw [ej, flat_at vs (j / 6) (j % 6) (by omega) (by omega)] at hu
  rw [e, ej]
  obtain ⟨c0, c1, c2, c3, c4, c5⟩ := hc (j / 6) hk
  have : j % 6 = 0 ∨ j % 6 = 1 ∨ j % 6 = 2 ∨ j % 6 = 3 ∨ j % 6 = 4 ∨ j % 6 = 5 := by omega
  rcases this with h | h | h | h | h | h
  all_goals
    rw [h] at hu ⊢
    simp [Vl.cells] at hu
    subst hu
  · rw [Nat.add_zero]; exact c0
  · exact c1
  · exact c2
  · exact c3
  · exact c4
  · exact c5
theorem grown_keptJ {w w' : World} {row : Option Nat} {base : Nat} (h : w.grownBy w' row) (hr : ∀ k, row = some k → base ≤ k) {w0 : World} (k : Kept 0 0 w0 w) (hb : w0.heap.size ≤ base) : Kept 0 0 w0 w' :=
  ⟨h.os.trans k.os, h.tape.trans k.tape, h.output.trans k.output, Nat.le_trans k.size h.size, fun i hi _ => by
    rw [h.block i (Nat.lt_of_lt_of_le hi k.size) (fun c => by have := hr i c.symm; omega)]
    exact k.block i hi (by omega)⟩
theorem oneF : ∀ (vs : List Vl), ∀ u ∈ flat vs, u.oneCell' = true
  | [], _, h => by cases h
  | v :: r, u, h => by
    rcases List.mem_append.1 h with c | c
    · exact one6 v u c
    · exact oneF r u c
theorem own_some {base e size n : Nat} {v : Value} {xs : List Value} {W : World} (h : W.ownsRow base e size v n xs) (hv : v ≠ .slice none 0 0) : ∃ g cap, v = .slice (some ⟨g, 0, none⟩) n cap ∧ base ≤ g ∧ g < W.heap.size := by
  rcases h.2 with ⟨e, _⟩ | ⟨g, cap, cur, e, b1, b2, _⟩
  · exact absurd e hv
  · refine ⟨g, cap, e, b1, ?_⟩
    rcases Nat.lt_or_ge g W.heap.size with c | c
    · exact c
    · rw [Array.getElem?_eq_none c] at b2; cases b2

theorem getD_memJ {xs : List Int} {q : Nat} (h : q < xs.length) : xs.getD q 0 ∈ xs := by
  rw [List.getD_eq_getElem?_getD, List.getElem?_eq_getElem h]
  exact List.getElem_mem _
theorem own_mono {base base' e size n : Nat} {v : Value} {xs : List Value} {W : World} (h : W.ownsRow base e size v n xs) (hb : base' ≤ base) : W.ownsRow base' e size v n xs :=
  ⟨h.1, h.2.imp id fun ⟨g, cap, cur, e1, b1, b2⟩ => ⟨g, cap, cur, e1, Nat.le_trans hb b1, b2⟩⟩
theorem Kept.drew {lo hi : Nat} {w w' : World} (h : Kept lo hi w w') : Kept lo hi w w'.drew := ⟨h.os, h.tape, h.output, h.size, h.block⟩
theorem own_keepR {base e size n l h : Nat} {v : Value} {xs : List Value} {W W' : World} (o : W.ownsRow base e size v n xs) (k : Kept l h W W') (hd : ∀ g, v.ownBlock = some g → g < l ∨ h ≤ g) : W'.ownsRow base e size v n xs := by
  refine ⟨o.1, o.2.imp id ?_⟩
  rintro ⟨g, cap, cur, e1, b1, b2, b3⟩
  refine ⟨g, cap, cur, e1, b1, ?_, b3⟩
  have hg : g < W.heap.size := by
    rcases Nat.lt_or_ge g W.heap.size with c | c
    · exact c
    · rw [Array.getElem?_eq_none c] at b2; cases b2
  have := hd g (by rw [e1]; rfl)
  rw [k.block g hg (by omega)]
  exact b2
abbrev OI (w : World) (base G n cap : Nat) (xs : List Int) : Prop := w.ownsRow base 3 1 (.slice (some ⟨G, 0, none⟩) n cap) n (xs.map (Value.int .i64))
abbrev gnil : Value := .agg #[.slice none 0 0, .slice none 0 0, .slice none 0 0]
abbrev nbox : Obj := .cells #[.slice none 0 0, .slice none 0 0, .slice none 0 0] 31
structure RB (W : World) (p : Nat) (b0 b1 b2 : Value) : Prop where
  sz : p < W.heap.size
  q0 : W.cell? ⟨p, 0, none⟩ = some b0
  q1 : W.cell? ⟨p, 1, none⟩ = some b1
  q2 : W.cell? ⟨p, 2, none⟩ = some b2
  f0 : W.frozen? ⟨p, 0, none⟩ = false
  f1 : W.frozen? ⟨p, 1, none⟩ = false
  f2 : W.frozen? ⟨p, 2, none⟩ = false
theorem RB.keep {W W' : World} {p : Nat} {b0 b1 b2 : Value} (t : RB W p b0 b1 b2) (k : Kept 0 0 W W') : RB W' p b0 b1 b2 :=
  ⟨Nat.lt_of_lt_of_le t.sz k.size, kcell k t.sz t.q0, kcell k t.sz t.q1, kcell k t.sz t.q2, by rw [k.frozen (p := ⟨p, 0, none⟩) t.sz (by omega)]; exact t.f0, by rw [k.frozen (p := ⟨p, 1, none⟩) t.sz (by omega)]; exact t.f1, by rw [k.frozen (p := ⟨p, 2, none⟩) t.sz (by omega)]; exact t.f2⟩
theorem rb_start (w : World) : RB (w.alloc nbox) w.heap.size (.slice none 0 0) (.slice none 0 0) (.slice none 0 0) := by
  refine ⟨?_, ?_, ?_, ?_, ?_, ?_, ?_⟩
  all_goals first | (go_simp; done) | (simp; done)
theorem put3_0 (w : World) (g : Nat) (a b c : Value) (h0 : w.cell? ⟨g, 0, none⟩ = some a) (h1 : w.cell? ⟨g, 1, none⟩ = some b) (h2 : w.cell? ⟨g, 2, none⟩ = some c) (x y z : Value) :
    (((w.setCell ⟨g, 0, none⟩ x).setCell ⟨g, 1, none⟩ y).setCell ⟨g, 2, none⟩ z).cell? ⟨g, 0, none⟩ = some x ∧ (((w.setCell ⟨g, 0, none⟩ x).setCell ⟨g, 1, none⟩ y).setCell ⟨g, 2, none⟩ z).cell? ⟨g, 1, none⟩ = some y ∧ (((w.setCell ⟨g, 0, none⟩ x).setCell ⟨g, 1, none⟩ y).setCell ⟨g, 2, none⟩ z).cell? ⟨g, 2, none⟩ = some z := by
  refine ⟨?_, ?_, ?_⟩
  · rw [cell_ne _ _ _ _ _ _ (.inr (by omega)), cell_ne _ _ _ _ _ _ (.inr (by omega))]; exact cell_eq _ _ _ _ _ h0
  · rw [cell_ne _ _ _ _ _ _ (.inr (by omega))]
    exact cell_eq _ _ _ _ _ (by rw [cell_ne _ _ _ _ _ _ (.inr (by omega))]; exact h1)
  · exact cell_eq _ _ _ _ _ (by rw [cell_ne _ _ _ _ _ _ (.inr (by omega)), cell_ne _ _ _ _ _ _ (.inr (by omega))]; exact h2)

theorem kept_drew (w : World) : Kept 0 0 w w.drew := ⟨rfl, rfl, rfl, Nat.le_refl _, fun _ _ _ => rfl⟩
theorem own_form {base e size n : Nat} {v : Value} {xs : List Value} {W : World} (h : W.ownsRow base e size v n xs) : ∃ a cap, v = .slice a n cap := by
  rcases h.2 with ⟨e, rfl⟩ | ⟨g, cap, cur, e, _⟩
  · exact ⟨none, 0, e⟩
  · exact ⟨_, cap, e⟩
def Apart (u v : Value) : Prop := ∀ k, u.ownBlock = some k → v.ownBlock ≠ some k
theorem apart_of {b1 b2 e1 e2 s1 s2 n1 n2 : Nat} {u v : Value} {xs ys : List Value} {W W' : World} (h1 : W.ownsRow b1 e1 s1 u n1 xs) (h2 : W'.ownsRow b2 e2 s2 v n2 ys) (hb : W.heap.size ≤ b2) : Apart u v := fun k hk hv => by
  have := (own_blkV h1 hk).2
  have := (own_blkV h2 hv).1
  omega
theorem cell3c (w : World) (P B o : Nat) (x y z : Value) (h : B ≠ P) : (((w.setCell ⟨P, 0, none⟩ x).setCell ⟨P, 1, none⟩ y).setCell ⟨P, 2, none⟩ z).cell? ⟨B, o, none⟩ = w.cell? ⟨B, o, none⟩ := by
  rw [cell_ne _ _ _ _ _ _ (.inl (Ne.symm h)), cell_ne _ _ _ _ _ _ (.inl (Ne.symm h)), cell_ne _ _ _ _ _ _ (.inl (Ne.symm h))]
theorem own_io {W : World} {base n d : Nat} {b : Option Addr} {xs : List Int} (h : W.ownsRow base 3 1 (.slice b n d) n (xs.map (Value.int .i64))) (hl : xs.length = n) : n = 0 ∨ ∃ g, b = some ⟨g, 0, none⟩ ∧ base ≤ g ∧ IBk W g n xs := by
  rcases h.2 with ⟨_, c⟩ | ⟨g, cap, cur, e, b1, b2, b3, _, b5, b6⟩
  · exact .inl c
  · injection e with q1 q2 q3
    subst q1
    have hg : g < W.heap.size := by
      rcases Nat.lt_or_ge g W.heap.size with c | c
      · exact c
      · rw [Array.getElem?_eq_none c] at b2; cases b2
    refine .inr ⟨g, rfl, b1, hl, hg, fun k hk => ?_, fun o => frozen_of_row W g o _ _ b2⟩
    rw [cell_of_row W g _ cur _ _ b2, ← Array.getElem?_toList]
    have : (cur.toList.take (n * 1))[k]? = (xs.map (Value.int .i64))[k]? := by rw [b6]
    rw [List.getElem?_take_of_lt (by omega)] at this
    rw [this, List.getElem?_map, List.getD_eq_getElem?_getD, List.getElem?_eq_getElem (by omega)]
    rfl
theorem IZ.is {W : World} {g n : Nat} {a : Option Addr} {xs : List Int} (h : IZ W g a n xs) (hl : xs.length = n) : IS W 0 W.heap.size a n xs :=
  ⟨hl, by
    rcases h with h0 | ⟨rfl, q⟩
    · exact .inl h0
    · exact .inr ⟨g, 0, rfl, Nat.zero_le _, q.lt, q.lt, fun k hk => by rw [Nat.zero_add]; exact q.at_ k hk⟩⟩
theorem VZ.vs {W : World} {g n : Nat} {a : Option Addr} {vs : List Vl} (h : VZ W g a n vs) (hl : vs.length = n) (hk : ∀ v ∈ vs, v.k < 18446744073709551616) : VS W 0 W.heap.size a n vs :=
  ⟨hl, hk, by
    rcases h with h0 | ⟨rfl, q⟩
    · exact .inl h0
    · exact .inr ⟨g, 0, rfl, Nat.zero_le _, q.lt, q.lt, fun k hk => by rw [Nat.zero_add]; exact q.at_ k hk⟩⟩
theorem own_is {W : World} {base n d : Nat} {b : Option Addr} {xs : List Int} (h : W.ownsRow base 3 1 (.slice b n d) n (xs.map (Value.int .i64))) (hl : xs.length = n) : IS W 0 W.heap.size b n xs := by
  rcases own_io h hl with h0 | ⟨g, e, _, q⟩
  · exact IZ.is (g := 0) (.inl h0) hl
  · exact IZ.is (g := g) (.inr ⟨e, q⟩) hl
theorem own_vs {W : World} {base n d : Nat} {b : Option Addr} {vs : List Vl} (h : W.ownsRow base 44 6 (.slice b n d) n (flat vs)) (hl : vs.length = n) (hk : ∀ v ∈ vs, v.k < 18446744073709551616) : VS W 0 W.heap.size b n vs := by
  rcases Nat.eq_zero_or_pos n with h0 | h0
  · exact VZ.vs (g := 0) (.inl h0) hl hk
  · obtain ⟨g, cap, e, _, _, _, hA⟩ := row_at h h0 hl
    injection e with q1
    exact VZ.vs (g := g) (.inr ⟨q1, hA⟩) hl hk
theorem OG.gs {w : World} {g1 g2 g3 n1 n2 n3 : Nat} {a1 a2 a3 : Option Addr} {ins : List Int} {vs : List Vl} {outs : List Int} (f : OG w g1 g2 g3 a1 n1 a2 n2 a3 n3 ins vs outs) (h1 : ins.length = n1) (h2 : vs.length = n2) (h3 : outs.length = n3) (hk : ∀ v ∈ vs, v.k < 18446744073709551616) : GS w a1 n1 a2 n2 a3 n3 ins vs outs :=
  ⟨f.i.is h1, f.v.vs h2 hk, f.o.is h3⟩
structure GL (w : World) (lo : Nat) (a1 : Option Addr) (n1 : Nat) (a2 : Option Addr) (n2 : Nat) (a3 : Option Addr) (n3 : Nat) (ins : List Int) (vs : List Vl) (outs : List Int) : Prop where
  i : IS w lo w.heap.size a1 n1 ins
  v : VS w lo w.heap.size a2 n2 vs
  o : IS w lo w.heap.size a3 n3 outs
theorem GL.gs {w : World} {lo n1 n2 n3 : Nat} {a1 a2 a3 : Option Addr} {ins : List Int} {vs : List Vl} {outs : List Int} (f : GL w lo a1 n1 a2 n2 a3 n3 ins vs outs) : GS w a1 n1 a2 n2 a3 n3 ins vs outs :=
  ⟨f.i.mono (Nat.zero_le _) (Nat.le_refl _), f.v.mono (Nat.zero_le _) (Nat.le_refl _), f.o.mono (Nat.zero_le _) (Nat.le_refl _)⟩
theorem GL.keep {w w' : World} {lo l h n1 n2 n3 : Nat} {a1 a2 a3 : Option Addr} {ins : List Int} {vs : List Vl} {outs : List Int} (f : GL w lo a1 n1 a2 n2 a3 n3 ins vs outs) (k : Kept l h w w') (hd : h ≤ lo ∨ h ≤ l) : GL w' lo a1 n1 a2 n2 a3 n3 ins vs outs :=
  ⟨(f.i.keep k (.inr hd)).mono (Nat.le_refl _) k.size, (f.v.keep k (.inr hd)).mono (Nat.le_refl _) k.size, (f.o.keep k (.inr hd)).mono (Nat.le_refl _) k.size⟩
theorem GL.of {W : World} {base n1 n3 d1 d2 d3 : Nat} {b1 a2 b3 : Option Addr} {ins outs : List Int} {vs : List Vl} (o1 : W.ownsRow base 3 1 (.slice b1 n1 d1) n1 (ins.map (Value.int .i64))) (o2 : W.ownsRow base 44 6 (.slice a2 vs.length d2) vs.length (flat vs)) (o3 : W.ownsRow base 3 1 (.slice b3 n3 d3) n3 (outs.map (Value.int .i64))) (h1 : ins.length = n1) (h3 : outs.length = n3) (hk : ∀ v ∈ vs, v.k < 18446744073709551616) : GL W base b1 n1 a2 vs.length b3 n3 ins vs outs := by
  have ki : ∀ {n d : Nat} {b : Option Addr} {xs : List Int}, W.ownsRow base 3 1 (.slice b n d) n (xs.map (Value.int .i64)) → xs.length = n → IS W base W.heap.size b n xs := fun ho hl => by
    rcases own_io ho hl with h0 | ⟨g, e, hg, q⟩
    · exact ⟨hl, .inl h0⟩
    · exact ⟨hl, .inr ⟨g, 0, e, hg, q.lt, q.lt, fun k hk => by rw [Nat.zero_add]; exact q.at_ k hk⟩⟩
  refine ⟨ki o1 h1, ?_, ki o3 h3⟩
  rcases Nat.eq_zero_or_pos vs.length with h0 | h0
  · exact ⟨rfl, hk, .inl h0⟩
  · obtain ⟨g, cap, e, hg, hl, _, hA⟩ := row_at o2 h0 rfl
    injection e with q1
    exact ⟨rfl, hk, .inr ⟨g, 0, q1, hg, hl, hl, fun k hk => by rw [Nat.zero_add]; exact hA.at_ k hk⟩⟩
theorem gs_nil (w : World) : GS w none 0 none 0 none 0 [] [] [] := ⟨⟨rfl, .inl rfl⟩, ⟨rfl, by simp, .inl rfl⟩, ⟨rfl, .inl rfl⟩⟩
theorem G0.keepC {W W' : World} {S : Nat → Prop} {p : Nat} {b0 b1 b2 : Value} (t : G0 W p b0 b1 b2) (k : Chg S W W') (hd : ¬ S p) : G0 W' p b0 b1 b2 := by
  have e : ∀ o, W'.cell? ⟨p, o, none⟩ = W.cell? ⟨p, o, none⟩ := fun o => k.cell (p := ⟨p, o, none⟩) t.sz hd
  exact ⟨Nat.lt_of_lt_of_le t.sz k.size, by rw [e]; exact t.q0, by rw [e]; exact t.q1, by rw [e]; exact t.q2⟩

theorem GO.keepJ {w w' : World} {lo g1 g2 g3 n2 : Nat} {ins : List Int} {vs : List Vl} {outs : List Int} (f : GO w lo g1 g2 g3 n2 ins vs outs) (k : Kept 0 0 w w') : GO w' lo g1 g2 g3 n2 ins vs outs :=
  ⟨f.i.keep k (.inr (.inr (Nat.le_refl _))), f.v.keep k (.inr (.inr (Nat.le_refl _))), f.o.keep k (.inr (.inr (Nat.le_refl _))), f.l1, f.l2, f.l3⟩
end Go.Proofs.YtiiimofkkahobaaDoor

namespace Go.Proofs.YtiiimofkkahobaaDoor
open Go.RowKit Flt
attribute [local go_sem] alloc_drewN setCell_drewN run_store_float

theorem ops0 {op : Int} (h0 : 0 ≤ op) (h1 : op ≤ 13) : ops1 op = cnt op := by
  rcases (by omega : op = 0 ∨ op = 1 ∨ op = 2 ∨ op = 3 ∨ op = 4 ∨ op = 5 ∨ op = 6 ∨ op = 7 ∨ op = 8 ∨ op = 9 ∨ op = 10 ∨ op = 11 ∨ op = 12 ∨ op = 13) with rfl | rfl | rfl | rfl | rfl | rfl | rfl | rfl | rfl | rfl | rfl | rfl | rfl | rfl <;> decide
theorem okV_opR {ins : List Int} {vs : List Vl} {i : Nat} (h : okV ins vs i = true) : 0 ≤ (vs.getD i Vl.zero).op ∧ (vs.getD i Vl.zero).op ≤ 13 := by
  unfold okV at h
  generalize vs.getD i Vl.zero = v at *
  rw [Bool.and_eq_true] at h
  have h3 := h.2
  by_cases h0 : v.op = 0
  · omega
  · rw [if_neg h0, Bool.and_eq_true] at h3
    have h4 := h3.2
    unfold shapeB at h4
    by_cases c : 9 ≤ v.op ∧ v.op ≤ 12
    · omega
    · rw [if_neg (by omega), if_neg (by omega), if_neg (by omega), if_neg (by omega)] at h4
      by_cases d : 1 ≤ v.op ∧ v.op ≤ 13
      · omega
      · rw [if_neg d] at h4; cases h4
/-- An operand's cell in the list of where values went. -/
theorem IS.at_idx {w : World} {lo hi : Nat} {a : Option Addr} {n : Nat} {xs : List Int} (f : IS w lo hi a n xs) {o : Int} (h0 : 0 ≤ o) (h1 : o < n) : ∃ g off k, a = some ⟨g, off, none⟩ ∧ o = (k : Nat) ∧ k < n ∧ g < w.heap.size ∧ w.cell? ⟨g, off + k, none⟩ = some (.int .i64 (xs.getD o.toNat 0)) := by
  rcases f.at_ with z | ⟨g, off, e, _, _, z3, z4⟩
  · omega
  · exact ⟨g, off, o.toNat, e, by omega, by omega, z3, z4 o.toNat (by omega)⟩
theorem cell_in3 {w : World} {g o : Nat} {x : Value} (hg : g < w.heap.size) (h : w.cell? ⟨g, o, none⟩ = some x) (o1 o2 o3 : Obj) : (((w.alloc o1).alloc o2).alloc o3).cell? ⟨g, o, none⟩ = some x :=
  kcell (((kept_alloc 0 0 w o1).trans (kept_alloc 0 0 _ o2)).trans (kept_alloc 0 0 _ o3)) hg h
theorem kept_box (w : World) (o : Obj) (k : Nat) (x : Value) : Kept 0 0 w ((w.alloc o).setCell ⟨w.heap.size, k, none⟩ x) := kept_put w (w.alloc o) (kept_alloc 0 0 w o) w.heap.size k x (Nat.le_refl _)

end Go.Proofs.YtiiimofkkahobaaDoor

namespace Go.Proofs.YtiiimofkkahobaaDoor
open Go.RowKit Flt
attribute [local go_sem] alloc_drewN setCell_drewN run_store_float

theorem VS.at_idx {w : World} {lo hi : Nat} {a : Option Addr} {n : Nat} {vs : List Vl} (f : VS w lo hi a n vs) {i : Nat} (h : i < n) : ∃ g off, a = some ⟨g, off, none⟩ ∧ g < w.heap.size ∧ g < hi ∧ lo ≤ g ∧ At w g (off + i * 6) (vs.getD i Vl.zero) := by
  rcases f.at_ with z | ⟨g, off, e, z1, z2, z3, z4⟩
  · omega
  · exact ⟨g, off, e, z3, z2, z1, z4 i h⟩
theorem VS.keepC {w w' : World} {S : Nat → Prop} {lo hi : Nat} {a : Option Addr} {n : Nat} {vs : List Vl} (f : VS w lo hi a n vs) (k : Chg S w w') (hd : ∀ g, lo ≤ g → g < hi → ¬ S g) : VS w' lo hi a n vs :=
  ⟨f.len, f.lt, by
    rcases f.at_ with z | ⟨g, off, e, z1, z2, z3, z4⟩
    · exact .inl z
    · refine .inr ⟨g, off, e, z1, z2, Nat.lt_of_lt_of_le z3 k.size, fun j hj => ?_⟩
      have e : ∀ o, w'.cell? ⟨g, o, none⟩ = w.cell? ⟨g, o, none⟩ := fun o => k.cell (p := ⟨g, o, none⟩) z3 (hd g z1 z2)
      obtain ⟨c0, c1, c2, c3, c4, c5⟩ := z4 j hj
      exact ⟨by rw [e]; exact c0, by rw [e]; exact c1, by rw [e]; exact c2, by rw [e]; exact c3, by rw [e]; exact c4, by rw [e]; exact c5⟩⟩
theorem IS.keepC {w w' : World} {S : Nat → Prop} {lo hi : Nat} {a : Option Addr} {n : Nat} {xs : List Int} (f : IS w lo hi a n xs) (k : Chg S w w') (hd : ∀ g, lo ≤ g → g < hi → ¬ S g) : IS w' lo hi a n xs :=
  ⟨f.len, by
    rcases f.at_ with z | ⟨g, off, e, z1, z2, z3, z4⟩
    · exact .inl z
    · exact .inr ⟨g, off, e, z1, z2, Nat.lt_of_lt_of_le z3 k.size, fun j hj => by rw [k.cell (p := ⟨g, off + j, none⟩) z3 (hd g z1 z2)]; exact z4 j hj⟩⟩
theorem opsOf_fld (v : Vl) {q : Nat} (hq : q < cnt v.op) : (opsOf v).getD q 0 = fld v q := by
  have := cnt_le v.op
  unfold opsOf
  rw [List.getD_eq_getElem?_getD, List.getElem?_take_of_lt hq]
  rcases (by omega : q = 0 ∨ q = 1 ∨ q = 2) with rfl | rfl | rfl <;> rfl
theorem l1ops (op : Int) (h0 : 0 ≤ op) (h1 : op ≤ 13) (w : World) : Calls Tryd.prog 20 #[.int .i64 op] w fun e w' => e = .returned (.int .i64 (cnt op : Nat)) ∧ w = w' := by
  have := l1operands op w h0 h1
  rw [ops0 h0 h1] at this
  exact this.mono fun _ _ h => ⟨h.1, h.2.symm⟩
theorem own_keepC {base e size n : Nat} {v : Value} {xs : List Value} {W W' : World} {S : Nat → Prop} (o : W.ownsRow base e size v n xs) (k : Chg S W W') (hd : ∀ g, v.ownBlock = some g → ¬ S g) : W'.ownsRow base e size v n xs := by
  refine ⟨o.1, o.2.imp id ?_⟩
  rintro ⟨g, cap, cur, e1, b1, b2, b3⟩
  refine ⟨g, cap, cur, e1, b1, ?_, b3⟩
  have hg : g < W.heap.size := by
    rcases Nat.lt_or_ge g W.heap.size with c | c
    · exact c
    · rw [Array.getElem?_eq_none c] at b2; cases b2
  rw [k.block g hg (hd g (by rw [e1]; rfl))]
  exact b2
theorem chg_grow {w w' : World} {row : Option Nat} (h : w.grownBy w' row) : Chg (fun b => row = some b) w w' :=
  ⟨h.os, h.tape, h.output, h.size, fun k hk hn => h.block k hk (fun c => hn c.symm)⟩
theorem isO_take {outs : List Int} {i k : Nat} (hk : k < outs.length) (h : (outs.take k).any (fun o => o == (i : Int)) = false) (t : (outs.getD k 0 == (i : Int)) = false) : (outs.take (k + 1)).any (fun o => o == (i : Int)) = false := by
  rw [List.take_succ_eq_append_getElem hk, List.any_append, h]
  rw [List.getD_eq_getElem?_getD, List.getElem?_eq_getElem hk] at t
  simpa using t
end Go.Proofs.YtiiimofkkahobaaDoor

namespace Go.Proofs.YtiiimofkkahobaaDoor
open Go.RowKit Flt
attribute [local go_sem] alloc_drewN setCell_drewN run_store_float

/-- 'append(nil, x...)', x nil or not. -/
theorem wpList_append_src {P : Program} (w : World) {ops : Array Oper} {rest : List Oper} {o : Oper} {a : Act} {Q : Exit → Act → World → Prop} (hgd : o.guard = none) (s x : Operand) (t : TypeId)
    (ho : o.op = .call { callee := .builtin .append, args := #[s, x], argTypes := #[t, t] })
    (base : Nat) (e : TypeId) (i : TypeInfo) (z : Value) (size bytes : Nat) (ht : P.underlying t = some (.slice e)) (hi : P.info? e = some i) (hz : i.zero = some z)
    (hsize : i.size = size) (hby : i.bytes = bytes) (hzs : z.cells.size = size) (hsz : 0 < size) (hs : a.eval s = .slice none 0 0)
    (b : Option Addr) (m c : Nat) (news : List Value) (hx : a.eval x = .slice b m c) (hl : news.length = m * size) (hsrc : (b = none ∧ m = 0) ∨ ∃ ad, b = some ad ∧ ∀ j u, news[j]? = some u → w.cell? (ad.add j) = some u) (h1 : ∀ u ∈ news, u.oneCell' = true)
    (h63 : m ≤ maxLen) (hbytes : m * bytes ≤ 140737488355328) (hbase : base ≤ w.heap.size)
    (h : ∀ v' w', w'.ownsRow base e size v' m news → w.grownBy w' none → wpList P ops Q rest (a.put o.dst v') w') : wpList P ops Q (o :: rest) a w := by
  rcases hsrc with ⟨rfl, rfl⟩ | ⟨ad, rfl, hn⟩
  · have hnil : news = [] := List.length_eq_zero_iff.1 (by rw [hl]; omega)
    subst hnil
    have hr : (Builtin.append_ #[t, t] o.type #[.slice none 0 0, .slice none 0 c]).run P w = .ok (.slice none 0 0) w := by
      simp [Builtin.append_, run_underlying ht, sizeOf, typeInfo, hi, Builtin.lenOf, run_firstCells_none]
    refine wpList_plain hgd fun _ hK => ?_
    unfold Oper.wp execOp
    simp only [ho, resolve, invoke, builtin, Sem.run_bind, Sem.run_pure, Result.andThen_ok, List.map_toArray, List.map_cons, List.map_nil, hs, hx, hr]
    exact hK _ _ (h _ _ (World.ownsRow_nil w base e size) ⟨rfl, rfl, rfl, Nat.le_refl _, fun _ _ _ => rfl⟩)
  · refine wpList_append_own w hgd s x t ho base e i z size bytes ht hi hz hsize hby hzs hsz (.slice none 0 0) 0 [] hs (World.ownsRow_nil w base e size) ad m c news hx hl hn h1 (by omega) (by rw [Nat.zero_add]; exact hbytes) hbase ?_
    intro v' w' q1 q2 _
    rw [Nat.zero_add, List.nil_append] at q1
    exact h v' w' q1 q2
theorem add_addr (g off j : Nat) : (⟨g, off, none⟩ : Addr).add j = ⟨g, off + j, none⟩ := by
  simp [Addr.add_lit]
theorem srcI {w : World} {lo hi n : Nat} {b : Option Addr} {xs : List Int} (h : IS w lo hi b n xs) : (b = none ∧ n = 0) ∨ ∃ ad, b = some ad ∧ ∀ j u, (xs.map (Value.int .i64))[j]? = some u → w.cell? (ad.add j) = some u := by
  have hl := h.len
  rcases h.at_ with z | ⟨g, off, rfl, _, _, _, hc⟩
  · subst z
    have : xs = [] := List.length_eq_zero_iff.1 hl
    subst this
    cases b
    · exact .inl ⟨rfl, rfl⟩
    · exact .inr ⟨_, rfl, fun j u hu => by simp at hu⟩
  · refine .inr ⟨_, rfl, fun j u hu => ?_⟩
    have hj : j < n := by
      rcases Nat.lt_or_ge j n with c | c
      · exact c
      · rw [List.getElem?_eq_none (by simp; omega)] at hu; cases hu
    rw [add_addr, hc j hj]
    rw [List.getElem?_map, List.getElem?_eq_getElem (by omega : j < xs.length)] at hu
    simp only [Option.map_some] at hu
    rw [← hu, List.getD_eq_getElem?_getD, List.getElem?_eq_getElem (by omega : j < xs.length)]; rfl
theorem srcV {w : World} {lo hi n : Nat} {b : Option Addr} {vs : List Vl} (h : VS w lo hi b n vs) : (b = none ∧ n = 0) ∨ ∃ ad, b = some ad ∧ ∀ j u, (flat vs)[j]? = some u → w.cell? (ad.add j) = some u := by
  have hl := h.len
  rcases h.at_ with z | ⟨g, off, rfl, _, _, _, hc⟩
  · subst z
    have : vs = [] := List.length_eq_zero_iff.1 hl
    subst this
    cases b
    · exact .inl ⟨rfl, rfl⟩
    · exact .inr ⟨_, rfl, fun j u hu => by simp [flat] at hu⟩
  · refine .inr ⟨_, rfl, fun j u hu => ?_⟩
    have hj : j < n * 6 := by
      rcases Nat.lt_or_ge j (n * 6) with c | c
      · exact c
      · rw [List.getElem?_eq_none (by rw [flat_len]; omega)] at hu; cases hu
    have ej : j = j / 6 * 6 + j % 6 := by omega
    have hk : j / 6 < n := by omega
    rw [ej, flat_at vs (j / 6) (j % 6) (by omega) (by omega)] at hu
    rw [add_addr]
    obtain ⟨c0, c1, c2, c3, c4, c5⟩ := hc (j / 6) hk
    have e : off + j = off + j / 6 * 6 + j % 6 := by omega
    rw [e]
    have : j % 6 = 0 ∨ j % 6 = 1 ∨ j % 6 = 2 ∨ j % 6 = 3 ∨ j % 6 = 4 ∨ j % 6 = 5 := by omega
    rcases this with h | h | h | h | h | h
    all_goals
      rw [h] at hu ⊢
      simp [Vl.cells] at hu
      subst hu
    · rw [Nat.add_zero]; exact c0
    · exact c1
    · exact c2
    · exact c3
    · exact c4
    · exact c5
end Go.Proofs.YtiiimofkkahobaaDoor

namespace Go.Proofs.YtiiimofkkahobaaDoor
open Go.RowKit Flt
attribute [local go_sem] alloc_drewN setCell_drewN run_store_float

/-- A whole block of bools that the call laid, not frozen. -/
def BR (w : World) (g : Nat) (xs : List Bool) : Prop := w.heap[g]? = some (.cells (xs.map Value.bool).toArray 4 (0, 0))
theorem BR.lt {w : World} {g : Nat} {xs : List Bool} (h : BR w g xs) : g < w.heap.size := by
  unfold BR at h
  rcases Nat.lt_or_ge g w.heap.size with c | c
  · exact c
  · rw [Array.getElem?_eq_none c] at h; cases h
theorem BR.cell {w : World} {g : Nat} {xs : List Bool} (h : BR w g xs) (k : Nat) (hk : k < xs.length) : w.cell? ⟨g, k, none⟩ = some (.bool (xs.getD k false)) := by
  rw [cell_of_row w g k _ _ _ h]
  simp [hk, List.getD_eq_getElem?_getD]
theorem BR.free {w : World} {g : Nat} {xs : List Bool} (h : BR w g xs) (k : Nat) : w.frozen? ⟨g, k, none⟩ = false := frozen_of_row w g k _ _ h
theorem BR.keep {w w' : World} {g l h : Nat} {xs : List Bool} (f : BR w g xs) (k : Kept l h w w') (hd : g < l ∨ h ≤ g ∨ h ≤ l) : BR w' g xs := by
  unfold BR
  rw [k.block g f.lt (by omega)]
  exact f
theorem BR.keepC {w w' : World} {S : Nat → Prop} {g : Nat} {xs : List Bool} (f : BR w g xs) (k : Chg S w w') (hd : ¬ S g) : BR w' g xs := by
  unfold BR
  rw [k.block g f.lt hd]
  exact f
theorem BR.set {w : World} {g : Nat} {xs : List Bool} (h : BR w g xs) (k : Nat) (x : Bool) : BR (w.setCell ⟨g, k, none⟩ (.bool x)) g (xs.set k x) := by
  unfold BR at h ⊢
  rw [heap_setCell_same w g k _ _ _ h]
  simp [List.map_set]
theorem BR.drewN {w : World} {g : Nat} {xs : List Bool} (h : BR w g xs) (m : Nat) : BR (w.drewN m) g xs := h
theorem BR.made (w : World) (n : Nat) : BR (w.alloc (.cells (madeCells #[.bool false] n) 4)) w.heap.size (List.replicate n false) := by
  unfold BR
  rw [heap_alloc_new]
  have : (madeCells #[.bool false] n) = (List.map Value.bool (List.replicate n false)).toArray := by
    apply Array.toList_inj.1
    rw [toList_madeCells_one]
    simp
  rw [this]
theorem infoB : (Tryd.prog.info? 4).map (fun i => (i.zero, i.size, i.bytes)) = some (some (.bool false), 1, 1) := by kernel_rfl
theorem IR.keepC {w w' : World} {S : Nat → Prop} {g : Nat} {xs : List Int} (f : IR w g xs) (k : Chg S w w') (hd : ¬ S g) : IR w' g xs := by
  unfold IR
  rw [k.block g f.lt hd]
  exact f
theorem VA.keepC {w w' : World} {S : Nat → Prop} {g n : Nat} {vs : List Vl} (q : VA w g n vs) (k : Chg S w w') (hd : ¬ S g) : VA w' g n vs :=
  ⟨q.len, Nat.lt_of_lt_of_le q.lt k.size, fun j hj => by
    have e : ∀ o, w'.cell? ⟨g, o, none⟩ = w.cell? ⟨g, o, none⟩ := fun o => k.cell (p := ⟨g, o, none⟩) q.lt hd
    obtain ⟨c0, c1, c2, c3, c4, c5⟩ := q.at_ j hj
    exact ⟨by rw [e]; exact c0, by rw [e]; exact c1, by rw [e]; exact c2, by rw [e]; exact c3, by rw [e]; exact c4, by rw [e]; exact c5⟩, fun o => by rw [k.frozen (p := ⟨g, o, none⟩) q.lt hd]; exact q.free o⟩
theorem IBk.keepC {w w' : World} {S : Nat → Prop} {g n : Nat} {xs : List Int} (q : IBk w g n xs) (k : Chg S w w') (hd : ¬ S g) : IBk w' g n xs :=
  ⟨q.len, Nat.lt_of_lt_of_le q.lt k.size, fun j hj => by rw [k.cell (p := ⟨g, j, none⟩) q.lt hd]; exact q.at_ j hj, fun o => by rw [k.frozen (p := ⟨g, o, none⟩) q.lt hd]; exact q.free o⟩
theorem Chg.mono {S T : Nat → Prop} {w w' : World} (h : Chg S w w') (hs : ∀ b, b < w.heap.size → S b → T b) : Chg T w w' :=
  ⟨h.os, h.tape, h.output, h.size, fun k hk hn => h.block k hk fun c => hn (hs k hk c)⟩
theorem Chg.trans {S : Nat → Prop} {a b c : World} (h : Chg S a b) (k : Chg S b c) : Chg S a c := Chg.andThen h k
/-- A stretch whose own blocks were laid behind a. -/
theorem Chg.new {S T : Nat → Prop} {a b c : World} (h : Chg S a b) (k : Chg T b c) (hT : ∀ i, i < a.heap.size → T i → S i) : Chg S a c :=
  ⟨k.os.trans h.os, k.tape.trans h.tape, k.output.trans h.output, Nat.le_trans h.size k.size, fun i hi hn => (k.block i (Nat.lt_of_lt_of_le hi h.size) (fun c => hn (hT i hi c))).trans (h.block i hi hn)⟩
theorem chg_setCell {S : Nat → Prop} (w : World) (g o : Nat) (v : Value) (h : S g) : Chg S w (w.setCell ⟨g, o, none⟩ v) :=
  (kept_setCell (lo := g) (hi := g + 1) w ⟨g, o, none⟩ v (.inl ⟨Nat.le_refl _, Nat.lt_succ_self _⟩)).chg1 h

/-- The graph that the passes write over: its three lists in blocks of their own. -/
structure PG (w : World) (g1 g2 g3 n1 n2 n3 : Nat) (ins : List Int) (vs : List Vl) (outs : List Int) : Prop where
  i : IBk w g1 n1 ins
  v : VA w g2 n2 vs
  o : IBk w g3 n3 outs
  d12 : g1 ≠ g2
  d13 : g1 ≠ g3
  d23 : g2 ≠ g3
theorem PG.keep {w w' : World} {g1 g2 g3 n1 n2 n3 : Nat} {ins : List Int} {vs : List Vl} {outs : List Int} (f : PG w g1 g2 g3 n1 n2 n3 ins vs outs) (k : Kept 0 0 w w') : PG w' g1 g2 g3 n1 n2 n3 ins vs outs :=
  ⟨f.i.keep k (.inr (.inr (Nat.le_refl _))), f.v.keep k (.inr (.inr (Nat.le_refl _))), f.o.keep k (.inr (.inr (Nat.le_refl _))), f.d12, f.d13, f.d23⟩
theorem IBk.is {w : World} {g n : Nat} {xs : List Int} (f : IBk w g n xs) : IS w 0 w.heap.size (some ⟨g, 0, none⟩) n xs :=
  ⟨f.len, .inr ⟨g, 0, rfl, Nat.zero_le _, f.lt, f.lt, fun k hk => by rw [Nat.zero_add]; exact f.at_ k hk⟩⟩
theorem rnm_pad {tq pad : List Int} {v : Vl} (h : ∀ o ∈ opsOf v, 0 ≤ o ∧ o < tq.length) : rnm (tq ++ pad) v = rnm tq v := by
  have key : ∀ o, o ∈ opsOf v → (tq ++ pad).getD o.toNat 0 = tq.getD o.toNat 0 := fun o ho => by
    have := h o ho
    rw [List.getD_eq_getElem?_getD, List.getElem?_append_left (by omega), ← List.getD_eq_getElem?_getD]
  unfold rnm
  have hc := cnt_le v.op
  congr 1
  · split
    · exact key _ (opsOf_a (by omega))
    · rfl
  · split
    · exact key _ (opsOf_b (by omega))
    · rfl
  · split
    · exact key _ (opsOf_c (by omega))
    · rfl
theorem set_mid {α : Type} (xs ys : List α) (y z : α) : (xs ++ y :: ys).set xs.length z = xs ++ z :: ys := by
  rw [List.set_append_right _ _ (Nat.le_refl _), Nat.sub_self]; rfl
theorem drop_cons {vs : List Vl} {i : Nat} (h : i < vs.length) : vs.drop i = vs.getD i Vl.zero :: vs.drop (i + 1) := by
  rw [List.drop_eq_getElem_cons h, List.getD_eq_getElem?_getD, List.getElem?_eq_getElem h]; rfl
end Go.Proofs.YtiiimofkkahobaaDoor
