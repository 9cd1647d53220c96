import Derived.Test.YtfbcgahmmjpijabH5
namespace Go.Proofs.Ytfbcgahmmjpijab
open Go.RowKit Flt
attribute [local go_sem] alloc_drewN setCell_drewN run_store_float

theorem own_keep {base e size n : Nat} {v : Value} {xs : List Value} {W W' : World} (h : W.ownsRow base e size v n xs) (k : Kept 0 0 W W') : W'.ownsRow base e size v n xs := by
  refine ⟨h.1, h.2.imp id ?_⟩
  rintro ⟨g, cap, cur, e1, b1, b2, b3⟩
  refine ⟨g, cap, cur, e1, b1, ?_, b3⟩
  have hg : g < W.heap.size := by
    rcases Nat.lt_or_ge g W.heap.size with c | c
    · exact c
    · rw [Array.getElem?_eq_none c] at b2; cases b2
  rw [k.block g hg (by omega)]
  exact b2
theorem FS.grown {W W' : World} {row : Option Nat} {b : Option Addr} {n : Nat} {zs : List Nat} (f : FS W 0 W.heap.size b n zs) (hg : W.grownBy W' row) (hne : 0 < n → ∀ p, b = some p → row ≠ some p.block) : FS W' 0 W'.heap.size b n zs :=
  ⟨f.len, f.lt, by
    rcases f.at_ with h0 | ⟨g', off, e, h1, h2, h3, h4⟩
    · exact .inl h0
    · refine .inr ⟨g', off, e, h1, Nat.lt_of_lt_of_le h3 hg.size, Nat.lt_of_lt_of_le h3 hg.size, fun j hj => ?_⟩
      rw [hg.cell_far ⟨g', off + j, none⟩ h3 (fun c => hne (by omega) _ e c.symm)]
      exact h4 j hj⟩
theorem Cl.grown {W W' : World} {row : Option Nat} {b : Option Addr} {n c : Nat} {xs : List Nat} (f : Cl W (.slice b n c) xs) (hg : W.grownBy W' row) (hne : 0 < n → ∀ p, b = some p → row ≠ some p.block) : Cl W' (.slice b n c) xs := by
  obtain ⟨b', n', c', zs, e, h2, h3, h4⟩ := f
  cases e
  exact ⟨b, n, c, zs, rfl, h2, h3.grown hg hne, h4⟩
theorem Cl.lt {W : World} {b : Option Addr} {n c : Nat} {xs : List Nat} (f : Cl W (.slice b n c) xs) (hn : 0 < n) (p : Addr) (hp : b = some p) : p.block < W.heap.size := by
  obtain ⟨b', n', c', zs, e, h2, h3, h4⟩ := f
  cases e
  rcases h3.at_ with h0 | ⟨g', off, e, h1, h2, h3, h4⟩
  · omega
  · rw [e] at hp; cases hp; exact h3
theorem Cn.ge {W : World} {lo : Nat} {b : Option Addr} {n c : Nat} {xs : List Nat} (f : Cn W lo (.slice b n c) xs) (hn : 0 < n) (p : Addr) (hp : b = some p) : lo ≤ p.block := by
  obtain ⟨b', n', c', zs, e, h2, h3, h4⟩ := f
  cases e
  rcases h3.at_ with h0 | ⟨g', off, e, h1, h2, h3, h4⟩
  · omega
  · rw [e] at hp; cases hp; exact h1

/-- A list of lists of floats that grows by append, in the call's own blocks. -/
def AR (W : World) (base : Nat) (v : Value) (k : Nat) (Vs : List (List Nat)) : Prop :=
  ∃ us : List Value, W.ownsRow base 32 1 v k us ∧ ∀ j, j < k → ∃ b n c, us[j]? = some (.slice b n c) ∧ Cl W (.slice b n c) (Vs.getD j []) ∧ (0 < n → ∀ p, b = some p → v.ownBlock ≠ some p.block)
theorem AR.nil (W : World) (base : Nat) (Vs : List (List Nat)) : AR W base (.slice none 0 0) 0 Vs := ⟨[], World.ownsRow_nil _ _ _ _, fun _ hj => absurd hj (Nat.not_lt_zero _)⟩
theorem AR.keep {W W' : World} {base k : Nat} {v : Value} {Vs : List (List Nat)} (f : AR W base v k Vs) (q : Kept 0 0 W W') : AR W' base v k Vs := by
  obtain ⟨us, h1, h2⟩ := f
  refine ⟨us, own_keep h1 q, fun j hj => ?_⟩
  obtain ⟨b, n, c, a1, a2, a3⟩ := h2 j hj
  exact ⟨b, n, c, a1, a2.keep q, a3⟩
theorem AR.cell {W : World} {base k : Nat} {v : Value} {Vs : List (List Nat)} (f : AR W base v k Vs) (hk : 0 < k) :
    ∃ g cap, v = .slice (some ⟨g, 0, none⟩) k cap ∧ base ≤ g ∧ g < W.heap.size ∧ ∀ j, j < k → ∃ b n c, W.cell? ⟨g, j, none⟩ = some (.slice b n c) ∧ Cl W (.slice b n c) (Vs.getD j []) ∧ (0 < n → ∀ p, b = some p → g ≠ p.block) := by
  obtain ⟨us, h1, h2⟩ := f
  rcases h1.2 with ⟨_, c⟩ | ⟨g, cap, cur, rfl, b1, b2, b3, _, b5, b6⟩
  · omega
  · have hg : g < W.heap.size := by
      rcases Nat.lt_or_ge g W.heap.size with c | c
      · exact c
      · rw [Array.getElem?_eq_none c] at b2; cases b2
    refine ⟨g, cap, rfl, b1, hg, fun j hj => ?_⟩
    obtain ⟨b, n, c, a1, a2, a3⟩ := h2 j hj
    refine ⟨b, n, c, ?_, a2, fun hn p hp e => a3 hn p hp (by rw [← e]; rfl)⟩
    rw [cell_of_row W g _ cur _ _ b2, ← Array.getElem?_toList]
    have : (cur.toList.take (k * 1))[j]? = us[j]? := by rw [b6]
    rw [List.getElem?_take_of_lt (by omega)] at this
    rw [this, a1]
theorem AR.step {W : World} {base k : Nat} {v : Value} {Vs : List (List Nat)} {us : List Value} (h1 : W.ownsRow base 32 1 v k us)
    (h2 : ∀ j, j < k → ∃ b n c, us[j]? = some (.slice b n c) ∧ Cl W (.slice b n c) (Vs.getD j []) ∧ (0 < n → ∀ p, b = some p → v.ownBlock ≠ some p.block))
    {o : Obj} {b : Option Addr} {n c : Nat} {x : List Nat} (hC : Cl W (.slice b n c) x) (hn : 0 < n → ∀ p, b = some p → v.ownBlock ≠ some p.block) {g cap : Nat} {w9 : World}
    (hown9 : w9.ownsRow base 32 1 (.slice (some ⟨g, 0, none⟩) (k + 1) cap) (k + 1) (us ++ [.slice b n c])) (hg : (W.alloc o).grownBy w9 v.ownBlock) (hat : v.ownBlock = some g ∨ g = (W.alloc o).heap.size)
    {Vs' : List (List Nat)} (e1 : ∀ j, j < k → Vs'.getD j [] = Vs.getD j []) (e2 : Vs'.getD k [] = x) : AR w9 base (.slice (some ⟨g, 0, none⟩) (k + 1) cap) (k + 1) Vs' := by
  have hl : us.length = k := by have := h1.1; omega
  have ka := kept_alloc 0 0 W o
  have hs : W.heap.size < (W.alloc o).heap.size := by simp
  have key : ∀ (b : Option Addr) (n c : Nat) (x : List Nat), Cl W (.slice b n c) x → (0 < n → ∀ p, b = some p → v.ownBlock ≠ some p.block) → Cl w9 (.slice b n c) x ∧ (0 < n → ∀ p, b = some p → (Value.slice (some ⟨g, 0, none⟩) (k + 1) cap).ownBlock ≠ some p.block) := fun b n c x hc hv =>
    ⟨(hc.keep ka).grown hg hv, fun h0 p hp e => by
      have e' : g = p.block := by simpa [Value.ownBlock] using e
      rcases hat with h | h
      · exact hv h0 p hp (by rw [h, e'])
      · have := hc.lt h0 p hp
        omega⟩
  refine ⟨_, hown9, fun j hj => ?_⟩
  by_cases c' : j < k
  · obtain ⟨b', n', c'', a1, a2, a3⟩ := h2 j c'
    obtain ⟨k1, k2⟩ := key _ _ _ _ a2 a3
    exact ⟨b', n', c'', by rw [List.getElem?_append_left (by omega)]; exact a1, by rw [e1 j c']; exact k1, k2⟩
  · have : j = k := by omega
    subst this
    obtain ⟨k1, k2⟩ := key _ _ _ _ hC hn
    exact ⟨b, n, c, by rw [List.getElem?_append_right (by omega), hl, Nat.sub_self]; rfl, by rw [e2]; exact k1, k2⟩
theorem AR.ss {W : World} {base k : Nat} {v : Value} {Vs : List (List Nat)} (f : AR W base v k Vs) : ∃ a cap zss, v = .slice a k cap ∧ SS W a k zss ∧ ∀ j, j < k → same (zss.getD j []) (Vs.getD j []) := by
  rcases Nat.eq_zero_or_pos k with h0 | h0
  · subst h0
    obtain ⟨us, h1, _⟩ := f
    rcases h1.2 with ⟨rfl, _⟩ | ⟨g, cap, cur, rfl, _⟩
    · exact ⟨none, 0, [], rfl, ⟨rfl, .inl rfl⟩, fun j hj => absurd hj (Nat.not_lt_zero _)⟩
    · exact ⟨_, cap, [], rfl, ⟨rfl, .inl rfl⟩, fun j hj => absurd hj (Nat.not_lt_zero _)⟩
  · obtain ⟨g, cap, rfl, _, hg, hc⟩ := f.cell h0
    have h : ∀ j, ∃ zs : List Nat, j < k → ∃ b c, W.cell? ⟨g, j, none⟩ = some (.slice b zs.length c) ∧ zs.length ≤ c ∧ FS W 0 W.heap.size b zs.length zs ∧ same zs (Vs.getD j []) := fun j => by
      by_cases hj : j < k
      · obtain ⟨b, m, c, h1, h2, _⟩ := hc j hj
        obtain ⟨b', n', c', zs, e, a1, a2, a3⟩ := h2
        cases e
        have e := a2.len
        subst e
        exact ⟨zs, fun _ => ⟨b, c, h1, a1, a2, a3⟩⟩
      · exact ⟨[], fun c => absurd c hj⟩
    obtain ⟨F, hF⟩ := Classical.axiomOfChoice h
    refine ⟨_, cap, (List.range k).map F, rfl, ⟨by simp, .inr ⟨g, 0, rfl, hg, fun j hj => ?_⟩⟩, fun j hj => ?_⟩
    · rw [range_getD F hj, Nat.zero_add]
      obtain ⟨b, c, a1, a2, a3, _⟩ := hF j hj
      exact ⟨b, c, a1, a2, a3⟩
    · rw [range_getD F hj]
      obtain ⟨b, c, _, _, _, a4⟩ := hF j hj
      exact a4
end Go.Proofs.Ytfbcgahmmjpijab
