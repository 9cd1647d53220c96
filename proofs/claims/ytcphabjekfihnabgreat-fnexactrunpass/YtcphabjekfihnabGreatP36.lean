import Derived.Test.YtcphabjekfihnabGreatP32
namespace Go.Proofs.YtcphabjekfihnabGreat
open Go.RowKit Flt
attribute [local go_sem] alloc_drewN setCell_drewN run_store_float

theorem FS.setS {w : World} {lo hi : Nat} {a : Option Addr} {n : Nat} {xs : List Nat} (f : FS w lo hi a n xs) {g k : Nat} {u : Value} (hc : w.cell? ⟨g, k, none⟩ = some u) (hu : ∀ x, u ≠ .float .f64 x) (v : Value) : FS (w.setCell ⟨g, k, none⟩ v) lo hi a n xs :=
  ⟨f.len, f.lt, by
    rcases f.at_ with h0 | ⟨g', off, e, h1, h2, h3, h4⟩
    · exact .inl h0
    · refine .inr ⟨g', off, e, h1, h2, by simpa using h3, fun j hj => ?_⟩
      by_cases c : g = g' ∧ k = off + j
      · obtain ⟨rfl, rfl⟩ := c
        have := h4 j hj
        rw [hc] at this
        injection this with this
        exact absurd this (hu _)
      · rw [cell_ne _ _ _ _ _ _ (by omega)]; exact h4 j hj⟩
theorem Cl.setS {w : World} {y : Value} {xs : List Nat} (f : Cl w y xs) {g k : Nat} {u : Value} (hc : w.cell? ⟨g, k, none⟩ = some u) (hu : ∀ x, u ≠ .float .f64 x) (v : Value) : Cl (w.setCell ⟨g, k, none⟩ v) y xs := by
  obtain ⟨b, n, c, zs, h1, h2, h3, h4⟩ := f
  exact ⟨b, n, c, zs, h1, h2, (h3.setS hc hu v).mono (Nat.le_refl _) (by simp), h4⟩
theorem not_float_slice (b : Option Addr) (n c : Nat) : ∀ x, (Value.slice b n c) ≠ .float .f64 x := fun _ h => by cases h

/-- The lists of a graph's values, in a block of the call's own, the first k of n laid. -/
structure LV (w : World) (g n k : Nat) (Vs : List (List Nat)) : Prop where
  lt : g < w.heap.size
  free : ∀ o, w.frozen? ⟨g, o, none⟩ = false
  at_ : ∀ j, j < n → ∃ b m c, w.cell? ⟨g, j, none⟩ = some (.slice b m c) ∧ (j < k → Cl w (.slice b m c) (Vs.getD j []))
theorem LV.keep {w w' : World} {g n k : Nat} {Vs : List (List Nat)} (f : LV w g n k Vs) (q : Kept 0 0 w w') : LV w' g n k Vs :=
  ⟨Nat.lt_of_lt_of_le f.lt q.size, fun o => by rw [q.frozen (p := ⟨g, o, none⟩) f.lt (by omega)]; exact f.free o, fun j hj => by
    obtain ⟨b, m, c, h1, h2⟩ := f.at_ j hj
    exact ⟨b, m, c, kcell q f.lt h1, fun h => (h2 h).keep q⟩⟩
theorem LV.made (w : World) (n : Nat) (Vs : List (List Nat)) : LV (w.alloc (.cells (madeCells #[.slice none 0 0] n) 72)) w.heap.size n 0 Vs where
  lt := by simp
  free := fun o => by simp
  at_ := fun j hj => by
    rw [World.cell?_alloc_new]
    refine ⟨none, 0, 0, ?_, fun h => absurd h (Nat.not_lt_zero _)⟩
    simp only [madeCells]
    rw [Array.getElem?_map, Array.getElem?_range, if_pos hj]
    have hm : j % 1 = 0 := Nat.mod_one j
    simp [hm]
theorem LV.step {w w' : World} {g n k : Nat} {xss : List (List Nat)} {vs : List Vl} (f : LV w g n k (valsTo xss vs k)) (hk : k < n) (q : Kept 0 0 w w') {b : Option Addr} {m c : Nat} (hu : Cl w' (.slice b m c) (one xss (vs.getD k Vl.zero) (valsTo xss vs k))) :
    LV (w'.setCell ⟨g, k, none⟩ (.slice b m c)) g n (k + 1) (valsTo xss vs (k + 1)) := by
  have f' := f.keep q
  obtain ⟨b0, m0, c0, hc, _⟩ := f'.at_ k hk
  refine ⟨by simpa using f'.lt, fun o => by simp [f'.free o], fun j hj => ?_⟩
  by_cases e : j = k
  · subst e
    exact ⟨b, m, c, cell_eq _ _ _ _ _ hc, fun _ => by rw [valsTo_at]; exact hu.setS hc (not_float_slice _ _ _) _⟩
  · obtain ⟨b1, m1, c1, h1, h2⟩ := f'.at_ j hj
    refine ⟨b1, m1, c1, by rw [cell_ne _ _ _ _ _ _ (.inr (Ne.symm e))]; exact h1, fun h => ?_⟩
    rw [valsTo_lt _ _ (by omega)]
    exact (h2 (by omega)).setS hc (not_float_slice _ _ _) _
theorem range_getD {n j : Nat} (F : Nat → List Nat) (h : j < n) : ((List.range n).map F).getD j [] = F j := by
  simp [List.getD_eq_getElem?_getD, h]
theorem LV.ss {w : World} {g n : Nat} {Vs : List (List Nat)} (f : LV w g n n Vs) : ∃ zss, SS w (some ⟨g, 0, none⟩) n zss ∧ ∀ j, j < n → same (zss.getD j []) (Vs.getD j []) := by
  have h : ∀ j, ∃ zs : List Nat, j < n → ∃ b c, w.cell? ⟨g, j, none⟩ = some (.slice b zs.length c) ∧ zs.length ≤ c ∧ FS w 0 w.heap.size b zs.length zs ∧ same zs (Vs.getD j []) := fun j => by
    by_cases hj : j < n
    · obtain ⟨b, m, c, h1, h2⟩ := f.at_ j hj
      obtain ⟨b', n', c', zs, e, a1, a2, a3⟩ := h2 hj
      cases e
      have e := a2.len
      subst e
      exact ⟨zs, fun _ => ⟨b, c, h1, a1, a2, a3⟩⟩
    · exact ⟨[], fun c => absurd c hj⟩
  obtain ⟨F, hF⟩ := Classical.axiomOfChoice h
  refine ⟨(List.range n).map F, ⟨by simp, .inr ⟨g, 0, rfl, f.lt, fun k hk => ?_⟩⟩, fun j hj => ?_⟩
  · rw [range_getD F hk, Nat.zero_add]
    obtain ⟨b, c, a1, a2, a3, _⟩ := hF k hk
    exact ⟨b, c, a1, a2, a3⟩
  · rw [range_getD F hj]
    obtain ⟨b, c, _, _, _, a4⟩ := hF j hj
    exact a4
end Go.Proofs.YtcphabjekfihnabGreat

namespace Go.Proofs.YtcphabjekfihnabGreat
open Go.RowKit Flt
attribute [local go_sem] alloc_drewN setCell_drewN run_store_float

theorem own_keep {base e size n : Nat} {v : Value} {xs : List Value} {W W' : World} (h : W.ownsRow base e size v n xs) (k : Kept 0 0 W W') : W'.ownsRow base e size v n xs := by
  refine ⟨h.1, h.2.imp id ?_⟩
  rintro ⟨g, cap, cur, e1, b1, b2, b3⟩
  refine ⟨g, cap, cur, e1, b1, ?_, b3⟩
  have hg : g < W.heap.size := by
    rcases Nat.lt_or_ge g W.heap.size with c | c
    · exact c
    · rw [Array.getElem?_eq_none c] at b2; cases b2
  rw [k.block g hg (by omega)]
  exact b2
theorem FS.grown {W W' : World} {row : Option Nat} {b : Option Addr} {n : Nat} {zs : List Nat} (f : FS W 0 W.heap.size b n zs) (hg : W.grownBy W' row) (hne : 0 < n → ∀ p, b = some p → row ≠ some p.block) : FS W' 0 W'.heap.size b n zs :=
  ⟨f.len, f.lt, by
    rcases f.at_ with h0 | ⟨g', off, e, h1, h2, h3, h4⟩
    · exact .inl h0
    · refine .inr ⟨g', off, e, h1, Nat.lt_of_lt_of_le h3 hg.size, Nat.lt_of_lt_of_le h3 hg.size, fun j hj => ?_⟩
      rw [hg.cell_far ⟨g', off + j, none⟩ h3 (fun c => hne (by omega) _ e c.symm)]
      exact h4 j hj⟩
theorem Cl.grown {W W' : World} {row : Option Nat} {b : Option Addr} {n c : Nat} {xs : List Nat} (f : Cl W (.slice b n c) xs) (hg : W.grownBy W' row) (hne : 0 < n → ∀ p, b = some p → row ≠ some p.block) : Cl W' (.slice b n c) xs := by
  obtain ⟨b', n', c', zs, e, h2, h3, h4⟩ := f
  cases e
  exact ⟨b, n, c, zs, rfl, h2, h3.grown hg hne, h4⟩
theorem Cl.lt {W : World} {b : Option Addr} {n c : Nat} {xs : List Nat} (f : Cl W (.slice b n c) xs) (hn : 0 < n) (p : Addr) (hp : b = some p) : p.block < W.heap.size := by
  obtain ⟨b', n', c', zs, e, h2, h3, h4⟩ := f
  cases e
  rcases h3.at_ with h0 | ⟨g', off, e, h1, h2, h3, h4⟩
  · omega
  · rw [e] at hp; cases hp; exact h3
theorem Cn.ge {W : World} {lo : Nat} {b : Option Addr} {n c : Nat} {xs : List Nat} (f : Cn W lo (.slice b n c) xs) (hn : 0 < n) (p : Addr) (hp : b = some p) : lo ≤ p.block := by
  obtain ⟨b', n', c', zs, e, h2, h3, h4⟩ := f
  cases e
  rcases h3.at_ with h0 | ⟨g', off, e, h1, h2, h3, h4⟩
  · omega
  · rw [e] at hp; cases hp; exact h1

/-- A list of lists of floats that grows by append, in the call's own blocks. -/
def AR (W : World) (base : Nat) (v : Value) (k : Nat) (Vs : List (List Nat)) : Prop :=
  ∃ us : List Value, W.ownsRow base 72 1 v k us ∧ ∀ j, j < k → ∃ b n c, us[j]? = some (.slice b n c) ∧ Cl W (.slice b n c) (Vs.getD j []) ∧ (0 < n → ∀ p, b = some p → v.ownBlock ≠ some p.block)
theorem AR.nil (W : World) (base : Nat) (Vs : List (List Nat)) : AR W base (.slice none 0 0) 0 Vs := ⟨[], World.ownsRow_nil _ _ _ _, fun _ hj => absurd hj (Nat.not_lt_zero _)⟩
theorem AR.keep {W W' : World} {base k : Nat} {v : Value} {Vs : List (List Nat)} (f : AR W base v k Vs) (q : Kept 0 0 W W') : AR W' base v k Vs := by
  obtain ⟨us, h1, h2⟩ := f
  refine ⟨us, own_keep h1 q, fun j hj => ?_⟩
  obtain ⟨b, n, c, a1, a2, a3⟩ := h2 j hj
  exact ⟨b, n, c, a1, a2.keep q, a3⟩
theorem AR.cell {W : World} {base k : Nat} {v : Value} {Vs : List (List Nat)} (f : AR W base v k Vs) (hk : 0 < k) :
    ∃ g cap, v = .slice (some ⟨g, 0, none⟩) k cap ∧ base ≤ g ∧ g < W.heap.size ∧ ∀ j, j < k → ∃ b n c, W.cell? ⟨g, j, none⟩ = some (.slice b n c) ∧ Cl W (.slice b n c) (Vs.getD j []) ∧ (0 < n → ∀ p, b = some p → g ≠ p.block) := by
  obtain ⟨us, h1, h2⟩ := f
  rcases h1.2 with ⟨_, c⟩ | ⟨g, cap, cur, rfl, b1, b2, b3, _, b5, b6⟩
  · omega
  · have hg : g < W.heap.size := by
      rcases Nat.lt_or_ge g W.heap.size with c | c
      · exact c
      · rw [Array.getElem?_eq_none c] at b2; cases b2
    refine ⟨g, cap, rfl, b1, hg, fun j hj => ?_⟩
    obtain ⟨b, n, c, a1, a2, a3⟩ := h2 j hj
    refine ⟨b, n, c, ?_, a2, fun hn p hp e => a3 hn p hp (by rw [← e]; rfl)⟩
    rw [cell_of_row W g _ cur _ _ b2, ← Array.getElem?_toList]
    have : (cur.toList.take (k * 1))[j]? = us[j]? := by rw [b6]
    rw [List.getElem?_take_of_lt (by omega)] at this
    rw [this, a1]
theorem AR.step {W : World} {base k : Nat} {v : Value} {Vs : List (List Nat)} {us : List Value} (h1 : W.ownsRow base 72 1 v k us)
    (h2 : ∀ j, j < k → ∃ b n c, us[j]? = some (.slice b n c) ∧ Cl W (.slice b n c) (Vs.getD j []) ∧ (0 < n → ∀ p, b = some p → v.ownBlock ≠ some p.block))
    {o : Obj} {b : Option Addr} {n c : Nat} {x : List Nat} (hC : Cl W (.slice b n c) x) (hn : 0 < n → ∀ p, b = some p → v.ownBlock ≠ some p.block) {g cap : Nat} {w9 : World}
    (hown9 : w9.ownsRow base 72 1 (.slice (some ⟨g, 0, none⟩) (k + 1) cap) (k + 1) (us ++ [.slice b n c])) (hg : (W.alloc o).grownBy w9 v.ownBlock) (hat : v.ownBlock = some g ∨ g = (W.alloc o).heap.size)
    {Vs' : List (List Nat)} (e1 : ∀ j, j < k → Vs'.getD j [] = Vs.getD j []) (e2 : Vs'.getD k [] = x) : AR w9 base (.slice (some ⟨g, 0, none⟩) (k + 1) cap) (k + 1) Vs' := by
  have hl : us.length = k := by have := h1.1; omega
  have ka := kept_alloc 0 0 W o
  have hs : W.heap.size < (W.alloc o).heap.size := by simp
  have key : ∀ (b : Option Addr) (n c : Nat) (x : List Nat), Cl W (.slice b n c) x → (0 < n → ∀ p, b = some p → v.ownBlock ≠ some p.block) → Cl w9 (.slice b n c) x ∧ (0 < n → ∀ p, b = some p → (Value.slice (some ⟨g, 0, none⟩) (k + 1) cap).ownBlock ≠ some p.block) := fun b n c x hc hv =>
    ⟨(hc.keep ka).grown hg hv, fun h0 p hp e => by
      have e' : g = p.block := by simpa [Value.ownBlock] using e
      rcases hat with h | h
      · exact hv h0 p hp (by rw [h, e'])
      · have := hc.lt h0 p hp
        omega⟩
  refine ⟨_, hown9, fun j hj => ?_⟩
  by_cases c' : j < k
  · obtain ⟨b', n', c'', a1, a2, a3⟩ := h2 j c'
    obtain ⟨k1, k2⟩ := key _ _ _ _ a2 a3
    exact ⟨b', n', c'', by rw [List.getElem?_append_left (by omega)]; exact a1, by rw [e1 j c']; exact k1, k2⟩
  · have : j = k := by omega
    subst this
    obtain ⟨k1, k2⟩ := key _ _ _ _ hC hn
    exact ⟨b, n, c, by rw [List.getElem?_append_right (by omega), hl, Nat.sub_self]; rfl, by rw [e2]; exact k1, k2⟩
theorem AR.ss {W : World} {base k : Nat} {v : Value} {Vs : List (List Nat)} (f : AR W base v k Vs) : ∃ a cap zss, v = .slice a k cap ∧ SS W a k zss ∧ ∀ j, j < k → same (zss.getD j []) (Vs.getD j []) := by
  rcases Nat.eq_zero_or_pos k with h0 | h0
  · subst h0
    obtain ⟨us, h1, _⟩ := f
    rcases h1.2 with ⟨rfl, _⟩ | ⟨g, cap, cur, rfl, _⟩
    · exact ⟨none, 0, [], rfl, ⟨rfl, .inl rfl⟩, fun j hj => absurd hj (Nat.not_lt_zero _)⟩
    · exact ⟨_, cap, [], rfl, ⟨rfl, .inl rfl⟩, fun j hj => absurd hj (Nat.not_lt_zero _)⟩
  · obtain ⟨g, cap, rfl, _, hg, hc⟩ := f.cell h0
    have h : ∀ j, ∃ zs : List Nat, j < k → ∃ b c, W.cell? ⟨g, j, none⟩ = some (.slice b zs.length c) ∧ zs.length ≤ c ∧ FS W 0 W.heap.size b zs.length zs ∧ same zs (Vs.getD j []) := fun j => by
      by_cases hj : j < k
      · obtain ⟨b, m, c, h1, h2, _⟩ := hc j hj
        obtain ⟨b', n', c', zs, e, a1, a2, a3⟩ := h2
        cases e
        have e := a2.len
        subst e
        exact ⟨zs, fun _ => ⟨b, c, h1, a1, a2, a3⟩⟩
      · exact ⟨[], fun c => absurd c hj⟩
    obtain ⟨F, hF⟩ := Classical.axiomOfChoice h
    refine ⟨_, cap, (List.range k).map F, rfl, ⟨by simp, .inr ⟨g, 0, rfl, hg, fun j hj => ?_⟩⟩, fun j hj => ?_⟩
    · rw [range_getD F hj, Nat.zero_add]
      obtain ⟨b, c, a1, a2, a3, _⟩ := hF j hj
      exact ⟨b, c, a1, a2, a3⟩
    · rw [range_getD F hj]
      obtain ⟨b, c, _, _, _, a4⟩ := hF j hj
      exact a4
end Go.Proofs.YtcphabjekfihnabGreat

namespace Go.Proofs.YtcphabjekfihnabGreat
open Go.RowKit Flt
attribute [local go_sem] alloc_drewN setCell_drewN run_store_float

set_option maxRecDepth 100000 in
set_option maxHeartbeats 2000000 in
theorem elementsOf_in (w : World) (len A B C : Int) (K : Nat) (g n c m cb : Nat) (b : Option Addr) (xss : List (List Nat)) (hS : SS w b m xss) (h0 : 0 ≤ A) (h1 : A < m) :
    Calls Tryz.prog 72 #[vagg 0 len A B C K, .slice (some ⟨g, 0, none⟩) n c, .slice b m cb] w fun e w' => ∃ b' n' c', e = .returned (.slice b' n' c') ∧ Cl w' (.slice b' n' c') (xss.getD A.toNat []) ∧ Kept 0 0 w w' := by
  obtain ⟨j, rfl⟩ : ∃ j : Nat, A = j := ⟨A.toNat, by omega⟩
  rw [Int.toNat_natCast]
  rcases hS.at_ with z | ⟨gb, ob, rfl, y1, y2⟩
  · omega
  obtain ⟨b2, cc2, c2, c3, c4⟩ := y2 j (by omega)
  have hK := kept_alloc 0 0 w (vbox 0 len j B C K)
  have R : Hid (Cl (w.alloc (vbox 0 len j B C K)) (.slice b2 (xss.getD j []).length cc2) (xss.getD j [])) := Cl.keep ⟨_, _, _, _, rfl, c3, c4, rfl⟩ hK
  have c5 := kcell hK y1 c2
  clear c2 c3 c4 y2 hS
  generalize xss.getD j [] = xs at R c5 ⊢
  go_enter Tryz.func72, Tryz.ntmps72
  go_wp2
  go_ret
  exact ⟨_, _, _, rfl, R.out, hK⟩

/-- The lists of a value's first q operands. -/
def opl (v : Vl) (Vs : List (List Nat)) (q : Nat) : List (List Nat) := [if 0 < q then Vs.getD v.a.toNat [] else [], if 1 < q then Vs.getD v.b.toNat [] else [], if 2 < q then Vs.getD v.c.toNat [] else []]
/-- What Kernel gives of them. -/
def kop (v : Vl) (Vs : List (List Nat)) : List Nat := kern v.op v.len v.c v.k ((opl v Vs (cnt v.op)).getD 0 []) ((opl v Vs (cnt v.op)).getD 1 []) ((opl v Vs (cnt v.op)).getD 2 [])
theorem opl_set (v : Vl) (Vs : List (List Nat)) {q : Nat} (hq : q < 3) : (opl v Vs q).set q (Vs.getD ([v.a, v.b, v.c].getD q 0).toNat []) = opl v Vs (q + 1) := by
  have : q = 0 ∨ q = 1 ∨ q = 2 := by omega
  rcases this with rfl | rfl | rfl <;> simp [opl]
theorem opsOf_at (v : Vl) {q : Nat} (hq : q < cnt v.op) : (opsOf v).getD q 0 = [v.a, v.b, v.c].getD q 0 := by
  unfold opsOf
  rw [List.getD_eq_getElem?_getD, List.getD_eq_getElem?_getD, List.getElem?_take_of_lt hq]
theorem LV.put {w w' : World} {g n : Nat} {Vs : List (List Nat)} (f : LV w g n n Vs) {j : Nat} (hj : j < n) (hl : Vs.length = n) (q : Kept 0 0 w w') {b : Option Addr} {m c : Nat} {x : List Nat} (hu : Cl w' (.slice b m c) x) :
    LV (w'.setCell ⟨g, j, none⟩ (.slice b m c)) g n n (Vs.set j x) := by
  have f' := f.keep q
  obtain ⟨b0, m0, c0, hc, _⟩ := f'.at_ j hj
  refine ⟨by simpa using f'.lt, fun o => by simp [f'.free o], fun i hi => ?_⟩
  by_cases e : i = j
  · subst e
    refine ⟨b, m, c, cell_eq _ _ _ _ _ hc, fun _ => ?_⟩
    rw [List.getD_eq_getElem?_getD, List.getElem?_set, if_pos rfl, if_pos (by omega)]
    exact hu.setS hc (not_float_slice _ _ _) _
  · obtain ⟨b1, m1, c1, h1, h2⟩ := f'.at_ i hi
    refine ⟨b1, m1, c1, by rw [cell_ne _ _ _ _ _ _ (.inr (Ne.symm e))]; exact h1, fun h => ?_⟩
    rw [List.getD_eq_getElem?_getD, List.getElem?_set, if_neg (Ne.symm e), ← List.getD_eq_getElem?_getD]
    exact (h2 h).setS hc (not_float_slice _ _ _) _
theorem LV.other {w : World} {g n k P j : Nat} {Vs : List (List Nat)} {u : Value} (f : LV w g n k Vs) (hne : P ≠ g) (hc : w.cell? ⟨P, j, none⟩ = some u) (hu : ∀ x, u ≠ .float .f64 x) (v : Value) : LV (w.setCell ⟨P, j, none⟩ v) g n k Vs := by
  refine ⟨by simpa using f.lt, fun o => by simp [f.free o], fun i hi => ?_⟩
  obtain ⟨b1, m1, c1, h1, h2⟩ := f.at_ i hi
  exact ⟨b1, m1, c1, by rw [cell_ne _ _ _ _ _ _ (.inl hne)]; exact h1, fun h => (h2 h).setS hc hu _⟩
theorem arr_start (w : World) : LV (w.alloc (.cells #[.slice none 0 0, .slice none 0 0, .slice none 0 0] 102)) w.heap.size 3 3 [[], [], []] where
  lt := by simp
  free := fun o => by simp
  at_ := fun j hj => by
    have : j = 0 ∨ j = 1 ∨ j = 2 := by omega
    refine ⟨none, 0, 0, ?_, fun _ => ?_⟩
    · rcases this with rfl | rfl | rfl <;> simp
    · rcases this with rfl | rfl | rfl <;> exact Cl.nil _
theorem vbox_at (w : World) (v : Vl) : At (w.alloc (vbox v.op v.len v.a v.b v.c v.k)) w.heap.size 0 v := by
  refine ⟨?_, ?_, ?_, ?_, ?_, ?_⟩
  all_goals first | (go_simp; done) | (simp; done)

set_option maxRecDepth 100000 in
set_option maxHeartbeats 2000000 in
theorem elementsOf_op (w : World) (v : Vl) (h0 : v.op ≠ 0) (g n c m cb k : Nat) (b : Option Addr) (Vs : List (List Nat)) (hL : LV w g n k Vs) (hkn : k ≤ n) (hk : v.k < 18446744073709551616) (hW : Words Vs) (h1 : (opsOf v).all (idxB · k) = true) :
    Calls Tryz.prog 72 #[v.agg, .slice (some ⟨g, 0, none⟩) n c, .slice b m cb] w fun e w' => ∃ b' n' c', e = .returned (.slice b' n' c') ∧ Cn w' w.heap.size (.slice b' n' c') (kop v Vs) ∧ Kept 0 0 w w' := by
  have t : (v.op == 0) = false := beq_eq_false_iff_ne.2 h0
  have hc3 := cnt_le v.op
  have k1 := kept_alloc 0 0 w (vbox v.op v.len v.a v.b v.c v.k)
  have k2 := kept_alloc 0 0 (w.alloc (vbox v.op v.len v.a v.b v.c v.k)) (.cells #[.slice none 0 0, .slice none 0 0, .slice none 0 0] 102)
  have HA : Hid _ := arr_start (w.alloc (vbox v.op v.len v.a v.b v.c v.k))
  have HV : Hid _ := (vbox_at w v).keep (by simp) k2 (.inr (.inr (Nat.le_refl _)))
  have HL : Hid _ := hL.keep (k1.trans k2)
  have HK : Hid _ := k1.trans k2
  have HZ : Hid (w.heap.size + 1 < ((w.alloc (vbox v.op v.len v.a v.b v.c v.k)).alloc (.cells #[.slice none 0 0, .slice none 0 0, .slice none 0 0] 102)).heap.size) := by show _ < _; simp
  have HG : Hid (g < w.heap.size) := hL.lt
  have HW : Hid _ := hW
  have H1 : Hid _ := h1
  clear h0 k1 k2 hL hW h1
  obtain ⟨v0, v1, v2, v3, v4, v5⟩ := HV.out
  go_enter Tryz.func72, Tryz.ntmps72
  go_wp2_with fail
  clear v0 v1 v2 v3 v4 v5
  generalize ((w.alloc (vbox v.op v.len v.a v.b v.c v.k)).alloc (.cells #[.slice none 0 0, .slice none 0 0, .slice none 0 0] 102)) = w1 at HA HV HL HK HZ ⊢
  refine (operandsOf _ v).mono ?_
  rintro e w2 ⟨G, rfl, hI, hG, k3⟩
  have HI : Hid _ := hI
  have hA2 : LV w2 (w.heap.size + 1) 3 3 (opl v Vs 0) := by
    have := HA.out.keep k3
    rw [show (w.alloc (vbox v.op v.len v.a v.b v.c v.k)).heap.size = w.heap.size + 1 by simp] at this
    exact this
  have hV2 := HV.out.keep (by have := HZ.out; omega) k3 (.inr (.inr (Nat.le_refl _)))
  have hL2 := HL.out.keep k3
  have hK2 := HK.out.trans k3
  have HA2 : Hid _ := hA2
  have HV2 : Hid _ := hV2
  have HL2 : Hid _ := hL2
  have HK2 : Hid _ := hK2
  have HS2 : Hid (w1.heap.size ≤ w2.heap.size) := k3.size
  clear hI hA2 hV2 hL2 hK2 k3 HA HV HL HK
  go_wp2_with fail
  go_loopw [21] (fun i W => ∃ q : Nat, q ≤ cnt v.op ∧ i = .int .i64 q ∧ Hid (LV W (w.heap.size + 1) 3 3 (opl v Vs q)) ∧ Hid (At W w.heap.size 0 v) ∧ Hid (LV W g n k Vs) ∧ Hid (IS W w1.heap.size w2.heap.size (some ⟨G, 0, none⟩) (cnt v.op) (opsOf v)) ∧ Hid (Kept 0 0 w W)) (fun i _ => cnt v.op - (intOf i).toNat)
  case atStart => exact ⟨0, Nat.zero_le _, rfl, HA2, HV2, HL2, HI, HK2⟩
  case round =>
    obtain ⟨q, hq, rfl, hA, hV, hL, hI, hK⟩ := hrel
    clear HA2 HV2 HL2 HI HK2
    by_cases hlt : q < cnt v.op
    · rcases hI.out.at_ with z0 | ⟨ga, oa, ea, z1, z2, z3, z4⟩
      · omega
      have c1 := z4 q hlt
      cases ea
      obtain ⟨o, ho⟩ : ∃ o : Nat, (opsOf v).getD q 0 = o ∧ o < k := by
        have h := List.all_eq_true.1 H1.out ((opsOf v).getD q 0) (by
          rw [List.getD_eq_getElem?_getD, List.getElem?_eq_getElem (by rw [opsOf_len]; exact hlt)]
          exact List.getElem_mem _)
        have := of_decide_eq_true h
        exact ⟨((opsOf v).getD q 0).toNat, by omega, by omega⟩
      rw [ho.1, Nat.zero_add] at c1
      obtain ⟨b1, m1, d1, c2, c3⟩ := hL.out.at_ o (by omega)
      have c4 := c3 ho.2
      obtain ⟨b0, m0, d0, c5, _⟩ := hA.out.at_ q (by omega)
      have fz := hA.out.free q
      have R1 : Hid (LV (wr.setCell ⟨w.heap.size + 1, q, none⟩ (.slice b1 m1 d1)) (w.heap.size + 1) 3 3 (opl v Vs (q + 1))) := by
        have := hA.out.put (j := q) (by omega) rfl (Kept.refl _ _ _) c4
        rw [← opl_set v Vs (by omega), ← opsOf_at v hlt, ho.1]
        exact this
      have kp : Kept (w.heap.size + 1) (w.heap.size + 2) wr (wr.setCell ⟨w.heap.size + 1, q, none⟩ (.slice b1 m1 d1)) := kept_setCell _ _ _ (.inl ⟨Nat.le_refl _, Nat.lt_succ_self _⟩)
      have R2 : Hid _ := hV.out.keep (by have := hA.out.lt; omega) kp (.inl (by omega))
      have R3 : Hid _ := hL.out.other (by have := HG.out; omega) c5 (not_float_slice _ _ _) (.slice b1 m1 d1)
      have R4 : Hid _ := hI.out.keep kp (.inr (.inl (by have := HZ.out; omega)))
      have R5 : Hid _ := hK.out.new kp (by omega)
      have hq3 : q < 3 := by omega
      have hon : o < n := by omega
      clear z1 z2 z3 z4 c3 c4 kp hA hV hL hI hK H1 ho
      go_wp2
      go_roundw
      case rel => exact ⟨q + 1, by omega, by go_num, R1, R2, R3, R4, R5⟩
      case measure => simp [intOf]; omega
    · obtain rfl : q = cnt v.op := by omega
      obtain ⟨b0, m0, d0, c0, e0⟩ := hA.out.at_ 0 (by omega)
      obtain ⟨b1, m1, d1, c1, e1⟩ := hA.out.at_ 1 (by omega)
      obtain ⟨b2, m2, d2, c2, e2⟩ := hA.out.at_ 2 (by omega)
      have HE : Hid _ := implKernelN wr v hk _ _ _ _ _ _ (e0 (by omega)) (e1 (by omega)) (e2 (by omega)) (ite_lt (HW.out _))
      obtain ⟨v0, v1, v2, v3, v4, v5⟩ := hV.out
      clear e0 e1 e2 hA hL hI
      go_wp2_with fail
      refine Calls.mono HE.out ?_
      rintro e w9 ⟨u, rfl, hc9, k9⟩
      obtain ⟨b9, n9, c9, zs, rfl, h2, h3, h4⟩ := hc9
      have R : Hid _ := hK.out.trans k9
      have R2 : Hid (Cn w9 w.heap.size (.slice b9 n9 c9) (kop v Vs)) := ⟨b9, n9, c9, zs, rfl, h2, h3.mono hK.out.size (Nat.le_refl _), h4⟩
      clear HE c0 c1 c2 v0 v1 v2 v3 v4 v5 h2 h3 h4 k9 hK hV
      go_wp2
      go_ret
      exact ⟨b9, n9, c9, rfl, R2.out, R.out⟩

theorem elementsOf (w : World) (v : Vl) (g n c m cb k : Nat) (b : Option Addr) (xss Vs : List (List Nat)) (hL : LV w g n k Vs) (hS : SS w b m xss) (hkn : k ≤ n) (hk : v.k < 18446744073709551616) (hW : Words Vs) (h0 : v.op = 0 → 0 ≤ v.a ∧ v.a < m) (h1 : v.op ≠ 0 → (opsOf v).all (idxB · k) = true) :
    Calls Tryz.prog 72 #[v.agg, .slice (some ⟨g, 0, none⟩) n c, .slice b m cb] w fun e w' => ∃ b' n' c', e = .returned (.slice b' n' c') ∧ Cl w' (.slice b' n' c') (one xss v Vs) ∧ Kept 0 0 w w' := by
  unfold one
  by_cases h : v.op = 0
  · rw [if_pos h]
    have := elementsOf_in w v.len v.a v.b v.c v.k g n c m cb b xss hS (h0 h).1 (h0 h).2
    rw [← h] at this
    exact this
  · rw [if_neg h]
    exact (elementsOf_op w v h g n c m cb k b Vs hL hkn hk hW (h1 h)).mono fun _ _ ⟨b', n', c', q1, q2, q3⟩ => ⟨b', n', c', q1, q2.cl, q3⟩
end Go.Proofs.YtcphabjekfihnabGreat
