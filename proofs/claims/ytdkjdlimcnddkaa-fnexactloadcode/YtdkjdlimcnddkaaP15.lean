import Derived.Test.YtdkjdlimcnddkaaP14
namespace Go.Proofs.Ytdkjdlimcnddkaa
open Go.RowKit Flt
attribute [local go_sem] alloc_drewN setCell_drewN run_store_float

theorem l1each_r (op : Int) (w : World) (h0 : 0 ≤ op) (h1 : op ≤ 13) : Calls Try.prog 154 #[.int .i64 op] w fun e w' => e = .returned (.bool (each1 op)) ∧ w = w' :=
  (l1each op w h0 h1).mono fun _ _ h => ⟨h.1, h.2.symm⟩
theorem l1operands_r (op : Int) (w : World) (h0 : 0 ≤ op) (h1 : op ≤ 13) : Calls Try.prog 84 #[.int .i64 op] w fun e w' => e = .returned (.int .i64 (ops1 op : Nat)) ∧ w = w' :=
  (l1operands op w h0 h1).mono fun _ _ h => ⟨h.1, h.2.symm⟩
/-- A list that grows by append: its first k elements stand, in the call's own blocks. -/
def Grow (w1 : World) (k : Nat) (q : Nat → Nat) (v : Value) (W : World) : Prop :=
  ∃ zs : List Nat, W.ownsRow w1.heap.size 62 1 v k (zs.map (Value.float .f64)) ∧ zs.length = k ∧ (∀ z ∈ zs, z < 18446744073709551616) ∧ (∀ j, j < k → fb (zs.getD j 0) = fb (q j)) ∧ Kept 0 0 w1 W
theorem grow_start (w1 : World) (q : Nat → Nat) : Grow w1 0 q (.slice none 0 0) w1 :=
  ⟨[], World.ownsRow_nil _ _ _ _, rfl, by simp, fun j hj => by omega, Kept.refl _ _ _⟩
theorem Grow.kept {w1 : World} {k : Nat} {q : Nat → Nat} {v : Value} {W : World} (h : Grow w1 k q v W) : Kept 0 0 w1 W := by
  obtain ⟨_, _, _, _, _, h⟩ := h; exact h
theorem own_drawn {base e size n : Nat} {v : Value} {xs : List Value} {W W' : World} (h : W.ownsRow base e size v n xs) (d : Drawn W W') : W'.ownsRow base e size v n xs := by
  obtain ⟨m, rfl⟩ := d; exact h
theorem Grow.step {w1 : World} {k : Nat} {q : Nat → Nat} {v : Value} {W : World} {zs : List Nat} {z : Nat}
    (hown : W.ownsRow w1.heap.size 62 1 v k (zs.map (Value.float .f64))) (hl : zs.length = k) (hlt : ∀ z ∈ zs, z < 18446744073709551616) (hq : ∀ j, j < k → fb (zs.getD j 0) = fb (q j)) (hK : Kept 0 0 w1 W)
    (hz : z < 18446744073709551616) (hzq : fb z = fb (q k)) {v' : Value} {w' : World} {o : Obj}
    (hown' : w'.ownsRow w1.heap.size 62 1 v' (k + 1) (zs.map (Value.float .f64) ++ [Value.float .f64 z])) (hg : (W.alloc o).grownBy w' v.ownBlock) : Grow w1 (k + 1) q v' w' := by
  refine ⟨zs ++ [z], by rw [List.map_append]; exact hown', by simp [hl], ?_, ?_, ?_⟩
  · intro x hx
    rcases List.mem_append.1 hx with c | c
    · exact hlt x c
    · simp at c; rw [c]; exact hz
  · intro j hj
    rw [List.getD_eq_getElem?_getD, List.getElem?_append]
    by_cases c : j < zs.length
    · rw [if_pos c, ← List.getD_eq_getElem?_getD]; exact hq j (by omega)
    · rw [if_neg c, show j - zs.length = 0 by omega]
      have : j = k := by omega
      subst this
      exact hzq
  · refine ⟨hg.os.trans hK.os, hg.tape.trans hK.tape, hg.output.trans hK.output, ?_, fun i hi _ => ?_⟩
    · have := hg.size
      have h2 := hK.size
      simp at this
      omega
    · have h2 := hK.size
      rw [hg.block i (by simp; omega) (fun c => by have := hown.lt i c.symm; omega), Below.heap_alloc W o i (by omega)]
      exact hK.block i hi (by omega)

/-- A list of floats in new memory that is only read, element k the same as q k. -/
def KS (n : Nat) (q : Nat → Nat) (w : World) (e : Ending) (w' : World) : Prop :=
  ∃ (a : Option Addr) (cap : Nat) (zs : List Nat), e = .returned (.slice a n cap) ∧ FS w' w.heap.size w'.heap.size a n zs ∧ (∀ k, k < n → fb (zs.getD k 0) = fb (q k)) ∧ Kept 0 0 w w' ∧ n ≤ cap
theorem Grow.done {w w1 : World} {n : Nat} {q : Nat → Nat} {v : Value} {W : World} (h : Grow w1 n q v W) (h1 : 1 ≤ n) (hk : Kept 0 0 w w1) : KS n q w (.returned v) W := by
  obtain ⟨zs, ⟨_, ho⟩, h2, h3, h4, h5⟩ := h
  rcases ho with ⟨_, c⟩ | ⟨g, cap, cur, rfl, b1, b2, b3, _, b5, b6⟩
  · omega
  · have hs : w.heap.size ≤ g := by have := hk.size; omega
    have hg : g < W.heap.size := by
      rcases Nat.lt_or_ge g W.heap.size with c | c
      · exact c
      · rw [Array.getElem?_eq_none c] at b2; cases b2
    refine ⟨_, cap, zs, rfl, ⟨h2, h3, .inr ⟨g, 0, rfl, hs, hg, hg, fun k hk' => ?_⟩⟩, h4, hk.trans h5, b3⟩
    rw [cell_of_row W g _ cur _ _ b2, Nat.zero_add, ← Array.getElem?_toList]
    have : (cur.toList.take (n * 1))[k]? = (zs.map (Value.float .f64))[k]? := by rw [b6]
    rw [List.getElem?_take_of_lt (by omega)] at this
    rw [this, List.getElem?_map, List.getElem?_eq_getElem (by omega : k < zs.length)]
    simp [List.getD_eq_getElem?_getD, List.getElem?_eq_getElem (by omega : k < zs.length)]

end Go.Proofs.Ytdkjdlimcnddkaa
