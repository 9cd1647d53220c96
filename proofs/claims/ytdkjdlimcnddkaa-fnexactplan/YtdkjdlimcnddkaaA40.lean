import Derived.Test.YtdkjdlimcnddkaaA39
import Derived.Lib.Walk
import Derived.Lib.SliceRun
import Derived.Lib.Overlaps
import Derived.Lib.AppendZerosOnto
import Derived.Deep.RegionLaw
import Derived.Laws.IdiomCopy
import Derived.Laws.NewBlocks
import Derived.Shelf.Spec.SlicesInsert
namespace Go.Proofs.Ytdkjdlimcnddkaa
open Go.RowKit Flt

theorem run_copy_wide {P : Program} (w : World) (dT sT ty elt : TypeId) (b o dLen dCap : Nat) (a : Addr) (sLen sCap size : Nat) (cs : List Value)
    (hu : P.underlying dT = some (.slice elt)) (hs : (P.info? elt).map (·.size) = some size) (hn : cs.length = Nat.min sLen dLen * size)
    (hsrc : ∀ j v, cs[j]? = some v → w.cell? (a.add j) = some v) (hc : ∀ j, j < cs.length → (w.cell? ⟨b, o + j, none⟩).isSome = true) (hf : ∀ j, j < cs.length → w.frozen? ⟨b, o + j, none⟩ = false) (h1 : ∀ v ∈ cs, v.oneCell' = true) :
    (Builtin.copy_ #[dT, sT] ty #[.slice (some ⟨b, o, none⟩) dLen dCap, .slice (some a) sLen sCap]).run P w = .ok (goInt (Nat.min sLen dLen)) (w.setCells b o cs) := by
  have hl := run_loadCells_list (P := P) w a cs hsrc
  have hst := run_storeCells_cells (P := P) b o cs 0 w (by simpa using hc) (by simpa using hf) h1
  cases hq : P.info? elt with
  | none => simp [hq] at hs
  | some i =>
    have hi : i.size = size := by simpa [hq] using hs
    simp [Builtin.copy_, run_underlying hu, Builtin.lenOf, Builtin.firstCells, sizeOf, typeInfo, hq, hi, ← hn, hl, hst]
theorem run_clear_wide {P : Program} (w : World) (t e ty : TypeId) (z : Value) (ht : P.underlying t = some (.slice e)) (hv : ∀ w, (zeroValue e).run P w = .ok z w) (b o c : Nat)
    (hz : ∀ v ∈ z.cells.toList, v.oneCell' = true)
    (hc : ∀ j, j < z.cells.size → (w.cell? ⟨b, o + j, none⟩).isSome = true) (hf : ∀ j, j < z.cells.size → w.frozen? ⟨b, o + j, none⟩ = false) :
    (Builtin.clear_ #[t] ty #[.slice (some ⟨b, o, none⟩) 1 c]).run P w = .ok (.tuple #[]) (w.setCells b o z.cells.toList) := by
  have hzc : (Builtin.zeroCells z.cells 1).toList = z.cells.toList := by
    apply List.ext_getElem
    · simp [Builtin.zeroCells]
    · intro i h1 h2
      have h3 : i < z.cells.size := by simpa using h2
      simp [Builtin.zeroCells, Nat.mod_eq_of_lt h3, h3]
  have hst := run_storeCells_cells (P := P) b o z.cells.toList 0 w (by simpa using hc) (by simpa using hf) hz
  simp only [Nat.add_zero] at hst
  simp [Builtin.clear_, run_underlying ht, hv, hzc, hst]

theorem shape_setCell (w : World) (a : Addr) (v : Value) (g : Nat) : (w.setCell a v).shape? g = w.shape? g := by
  unfold World.shape? World.setCell
  simp only [Array.getElem?_modify]
  by_cases e : a.block = g
  · rw [if_pos e]
    cases h : w.heap[g]? with
    | none => rfl
    | some o => cases o <;> simp; split <;> simp
  · rw [if_neg e]
theorem shape_setCells (b : Nat) : ∀ (vs : List Value) (o : Nat) (w : World) (g : Nat), (w.setCells b o vs).shape? g = w.shape? g
  | [], _, _, _ => rfl
  | v :: r, o, w, g => by rw [World.setCells, shape_setCells b r, shape_setCell]
theorem chg_setCells {S : Nat → Prop} (g : Nat) (h : S g) : ∀ (vs : List Value) (o : Nat) (w : World), Chg S w (w.setCells g o vs)
  | [], _, w => (Kept.refl 0 0 w).chg
  | v :: r, o, w => Chg.andThen (chg_setCell w g o v h) (chg_setCells g h r (o + 1) _)
theorem some_setCells (b : Nat) (vs : List Value) (o : Nat) (w : World) (h : ∀ j, j < vs.length → (w.cell? ⟨b, o + j, none⟩).isSome = true) (k : Nat) (hk : (w.cell? ⟨b, k, none⟩).isSome = true) : ((w.setCells b o vs).cell? ⟨b, k, none⟩).isSome = true := by
  by_cases hin : o ≤ k ∧ k < o + vs.length
  · have := World.cell?_setCells_in b vs o w h (k - o) (by omega)
    rw [show o + (k - o) = k by omega] at this
    rw [this]; rfl
  · rw [World.cell?_setCells_out b vs o w ⟨b, k, none⟩ (fun _ _ => by show k < o ∨ o + vs.length ≤ k; omega)]
    exact hk
/-- A row of runs in block g, with room for cap of them. -/
structure FRw (W : World) (g cap : Nat) (l : List Spn) : Prop where
  le : l.length ≤ cap
  cb : cap ≤ 9223372036854775807
  lt : g < W.heap.size
  at_ : ∀ (j : Nat) (u : Value), (flatP l)[j]? = some u → W.cell? ⟨g, j, none⟩ = some u
  room : ∀ j, j < cap * 2 → (W.cell? ⟨g, j, none⟩).isSome = true
  fr : ∀ o, W.frozen? ⟨g, o, none⟩ = false
  shp : W.shape? g = some (83, cap * 2)
theorem FRw.keepC {W W' : World} {S : Nat → Prop} {g cap : Nat} {l : List Spn} (f : FRw W g cap l) (k : Chg S W W') (hd : ¬ S g) : FRw W' g cap l := by
  have e : ∀ o, W'.cell? ⟨g, o, none⟩ = W.cell? ⟨g, o, none⟩ := fun o => k.cell (p := ⟨g, o, none⟩) f.lt hd
  have e2 : ∀ o, W'.frozen? ⟨g, o, none⟩ = W.frozen? ⟨g, o, none⟩ := fun o => k.frozen (p := ⟨g, o, none⟩) f.lt hd
  exact ⟨f.le, f.cb, Nat.lt_of_lt_of_le f.lt k.size, fun j u h => by rw [e]; exact f.at_ j u h, fun j h => by rw [e]; exact f.room j h, fun o => by rw [e2]; exact f.fr o, by unfold World.shape?; rw [k.block g f.lt hd]; exact f.shp⟩
theorem FRw.core {W : World} {g cap : Nat} {l : List Spn} (f : FRw W g cap l) (o : Nat) (news : List Value) (l' : List Spn) (h1 : l'.length ≤ cap) (h2 : o + news.length ≤ cap * 2)
    (hat : ∀ (j : Nat) (u : Value), (flatP l')[j]? = some u → (o ≤ j ∧ j < o + news.length ∧ news[j - o]? = some u) ∨ (¬ (o ≤ j ∧ j < o + news.length) ∧ (flatP l)[j]? = some u)) : FRw (W.setCells g o news) g cap l' where
  le := h1
  cb := f.cb
  lt := Nat.lt_of_lt_of_le f.lt (chg_setCells (S := fun b => b = g) g rfl news o W).size
  at_ := fun j u hu => by
    rcases hat j u hu with ⟨a, b, c⟩ | ⟨a, c⟩
    · have := World.cell?_setCells_in g news o W (fun j hj => f.room _ (by omega)) (j - o) (by omega)
      rw [show o + (j - o) = j by omega] at this
      rw [this]
      rw [List.getElem?_eq_getElem (by omega)] at c
      exact c
    · rw [World.cell?_setCells_out g news o W ⟨g, j, none⟩ (fun _ _ => by show j < o ∨ o + news.length ≤ j; omega)]
      exact f.at_ j u c
  room := fun j hj => some_setCells g news o W (fun j hj => f.room _ (by omega)) j (f.room j hj)
  fr := fun o => by rw [World.frozen?_setCells]; exact f.fr o
  shp := by rw [shape_setCells]; exact f.shp
/-- What follows pre is laid anew. -/
theorem FRw.tail {W : World} {g cap : Nat} {pre old : List Spn} (f : FRw W g cap (pre ++ old)) (new : List Spn) (h : (pre ++ new).length ≤ cap) : FRw (W.setCells g (pre.length * 2) (flatP new)) g cap (pre ++ new) := by
  refine f.core _ _ _ h ?_ ?_
  · rw [flatP_len]; rw [List.length_append] at h; omega
  · intro j u hu
    rw [flatP_append] at hu ⊢
    by_cases hj : j < pre.length * 2
    · rw [List.getElem?_append_left (by rw [flatP_len]; exact hj)] at hu
      exact .inr ⟨by omega, by rw [List.getElem?_append_left (by rw [flatP_len]; exact hj)]; exact hu⟩
    · rw [List.getElem?_append_right (by rw [flatP_len]; omega), flatP_len] at hu
      have := (List.getElem?_eq_some_iff.1 hu).1
      exact .inl ⟨by omega, by omega, hu⟩
/-- The cells behind the row may be laid anew. -/
theorem FRw.behind {W : World} {g cap : Nat} {l : List Spn} (f : FRw W g cap l) (o : Nat) (news : List Value) (h1 : l.length * 2 ≤ o) (h2 : o + news.length ≤ cap * 2) : FRw (W.setCells g o news) g cap l :=
  f.core o news l f.le h2 fun j u hu => by
    have := (List.getElem?_eq_some_iff.1 hu).1
    rw [flatP_len] at this
    exact .inr ⟨by omega, hu⟩
/-- One run is laid anew. -/
theorem FRw.one {W : World} {g cap : Nat} {pre post : List Spn} {y : Spn} (f : FRw W g cap (pre ++ y :: post)) (x : Spn) : FRw (W.setCells g (pre.length * 2) x.cells) g cap (pre ++ x :: post) := by
  have hl : x.cells.length = 2 := rfl
  have hy : y.cells.length = 2 := rfl
  refine f.core _ _ _ (by have := f.le; simp only [List.length_append, List.length_cons] at this ⊢; exact this) ?_ ?_
  · have := f.le
    simp only [List.length_append, List.length_cons] at this
    rw [hl]; omega
  · intro j u hu
    rw [flatP_append] at hu ⊢
    by_cases hj : j < pre.length * 2
    · rw [List.getElem?_append_left (by rw [flatP_len]; exact hj)] at hu
      exact .inr ⟨by omega, by rw [List.getElem?_append_left (by rw [flatP_len]; exact hj)]; exact hu⟩
    · rw [List.getElem?_append_right (by rw [flatP_len]; omega), flatP_len, flatP] at hu
      by_cases h2 : j < pre.length * 2 + 2
      · rw [List.getElem?_append_left (by rw [hl]; omega)] at hu
        exact .inl ⟨by omega, by rw [hl]; omega, hu⟩
      · rw [List.getElem?_append_right (by rw [hl]; omega), hl] at hu
        refine .inr ⟨by rw [hl]; omega, ?_⟩
        rw [List.getElem?_append_right (by rw [flatP_len]; omega), flatP_len, flatP, List.getElem?_append_right (by rw [hy]; omega), hy]
        exact hu
theorem FRw.ps {W : World} {g cap : Nat} {l : List Spn} (f : FRw W g cap l) : PS W g (g + 1) (some ⟨g, 0, none⟩) l.length l :=
  ⟨rfl, .inr ⟨g, 0, rfl, Nat.le_refl _, Nat.lt_succ_self _, f.lt, fun j hj => by
    have h0 := flatP_at l j 0 hj (by omega)
    have h1 := flatP_at l j 1 hj (by omega)
    exact ⟨by rw [Nat.zero_add]; exact f.at_ _ _ (by rw [Nat.add_zero] at h0; exact h0), by rw [Nat.zero_add]; exact f.at_ _ _ h1⟩⟩⟩
theorem flatP_one_cell (l : List Spn) : ∀ v ∈ flatP l, v.oneCell' = true := by
  induction l with
  | nil => simp [flatP]
  | cons x r ih =>
    intro v hv
    rw [flatP, List.mem_append] at hv
    rcases hv with h | h
    · simp only [Spn.cells, List.mem_cons, List.not_mem_nil, or_false] at h
      rcases h with rfl | rfl <;> rfl
    · exact ih v h
end Go.Proofs.Ytdkjdlimcnddkaa

namespace Go.Proofs.Ytdkjdlimcnddkaa
open Go.RowKit Flt
set_option maxRecDepth 100000 in
set_option maxHeartbeats 4000000 in
theorem delS (w : World) (g cap i j k n : Nat) (l : List Spn) (f : FRw w g cap l) (hn : l.length = n) (hk : n = k + 1) (hj : j = i + 1) (hi : i < n) (hl : n ≤ 2000000) :
    Calls Try.prog 165 #[.slice (some ⟨g, 0, none⟩) n cap, .int .i64 i, .int .i64 j] w fun e w' => e = .returned (.slice (some ⟨g, 0, none⟩) k cap) ∧ FRw w' g cap (l.take i ++ l.drop j) ∧ Chg (fun b => b = g) w w' := by
  have hcap := f.le
  have hcb := f.cb
  rw [hn] at hcap
  obtain ⟨news, hnews⟩ : ∃ news, news = flatP (l.drop j) := ⟨_, rfl⟩
  have hlen : news.length = (n - j) * 2 := by rw [hnews, flatP_len, List.length_drop, hn]
  have hsplit : l = l.take i ++ l.drop i := (List.take_append_drop i l).symm
  have hget : ∀ (t : Nat) (u : Value), news[t]? = some u → w.cell? ⟨g, j * 2 + t, none⟩ = some u := by
    intro t u hu
    refine f.at_ _ _ ?_
    rw [← List.take_append_drop j l, flatP_append, List.getElem?_append_right (by rw [flatP_len, List.length_take]; omega), flatP_len, List.length_take, hn, ← hnews]
    rw [show j * 2 + t - min j n * 2 = t by rw [Nat.min_eq_left (by omega)]; omega]
    exact hu
  obtain ⟨A, hA, hsrc⟩ : ∃ A : Addr, (if cap = j then some (⟨g, 0, none⟩ : Addr) else some ⟨g, j * 2, none⟩) = some A ∧ Hid (∀ (t : Nat) (u : Value), news[t]? = some u → w.drew.cell? (A.add t) = some u) := by
    by_cases h : cap = j
    · refine ⟨⟨g, 0, none⟩, by simp [h], fun t u hu => ?_⟩
      have h0 : news.length = 0 := by rw [hlen]; omega
      rw [List.length_eq_zero_iff.1 h0] at hu
      simp at hu
    · refine ⟨⟨g, j * 2, none⟩, by simp [h], fun t u hu => ?_⟩
      rw [Addr.add_lit]
      exact hget t u hu
  have s1 : Hid (news.length = (n - j) * 2) := hlen
  have s2 : Hid (∀ u ∈ news, u.oneCell' = true) := by show ∀ u ∈ news, _; rw [hnews]; exact flatP_one_cell _
  have s3 : Hid (∀ t, t < news.length → (w.drew.cell? ⟨g, 0 + i * 2 + t, none⟩).isSome = true ∧ w.drew.frozen? ⟨g, 0 + i * 2 + t, none⟩ = false) := by
    intro t ht
    rw [hlen] at ht
    exact ⟨f.room _ (by omega), f.fr _⟩
  have F1 : FRw (w.drew.setCells g (0 + i * 2) news) g cap (l.take i ++ l.drop j) := by
    have f0 : FRw w.drew g cap (l.take i ++ l.drop i) := by rw [← hsplit]; exact f.keepC ((kept_drew w).chg (S := fun _ => False)) (fun h => h)
    have := f0.tail (l.drop j) (by rw [List.length_append, List.length_take, List.length_drop]; omega)
    rw [List.length_take, Nat.min_eq_left (by omega), ← hnews] at this
    rw [Nat.zero_add]
    exact this
  have C1 : Chg (fun b => b = g) w (w.drew.setCells g (0 + i * 2) news) := Chg.andThen (kept_drew w).chg (chg_setCells (S := fun b => b = g) g rfl news _ _)
  obtain ⟨W1, hW1⟩ : ∃ W1, W1 = w.drew.setCells g (0 + i * 2) news := ⟨_, rfl⟩
  rw [← hW1] at F1 C1
  have hln : (l.take i ++ l.drop j).length = k := by rw [List.length_append, List.length_take, List.length_drop]; omega
  obtain ⟨j0, hjj, hy0, hy1, hy2⟩ := info_parts infoSpn
  have hzv : ∀ w : World, (zeroValue 83).run Try.prog w = .ok (.agg #[.int .i64 0, .int .i64 0]) w := fun w => by simp [zeroValue, typeInfo, hjj, hy0]
  have hcl : ∀ ty c, (Builtin.clear_ #[37] ty #[.slice (some ⟨g, k * 2, none⟩) (n - k) c]).run Try.prog W1 = .ok (.tuple #[]) (W1.setCells g (k * 2) [.int .i64 0, .int .i64 0]) := fun ty c => by
    rw [show n - k = 1 by omega]
    exact run_clear_wide W1 _ _ ty _ Try.underlying37 hzv g (k * 2) c (by intro v hv; simp [Value.cells] at hv; rcases hv with rfl | rfl <;> rfl) (fun t ht => F1.room _ (by have : t < 2 := ht; omega)) (fun t _ => F1.fr _)
  have F2 : Hid (FRw (W1.setCells g (k * 2) [.int .i64 0, .int .i64 0]) g cap (l.take i ++ l.drop j)) := F1.behind _ _ (by rw [hln]; omega) (by show _ + 2 ≤ _; omega)
  have C2 : Hid (Chg (fun b => b = g) w (W1.setCells g (k * 2) [.int .i64 0, .int .i64 0])) := Chg.andThen C1 (chg_setCells (S := fun b => b = g) g rfl _ _ _)
  have hW : Hid (W1 = w.drew.setCells g (0 + i * 2) news) := hW1
  have hic : i ≤ cap := by omega
  have hjc : j ≤ cap := by omega
  have hij : ¬ ((i : Int) = (j : Int)) := by omega
  have hjn : j ≤ n := by omega
  have hij2 : i ≤ j := by omega
  have HJ : i + (n - j) = k := by omega
  have hkn : k ≤ n := by omega
  have hkc : ¬ (cap = k) := by omega
  have hnc : n ≤ cap := hcap
  clear hW1 F1 C1 hsplit hget hnews hlen hln f hzv hn hj hk
  go_enter Try.func165, Try.ntmps165
  go_wp2_with fail
  go_region_law (refine step_append_room rfl (.tmp 22) (.tmp 25) 37 rfl 83 j0 2 Try.underlying37 hjj hy1 g 0 i cap (by simp [Act.eval, Act.put]) A (n - j) (cap - j) news (by simp [Act.eval, Act.put]) s1.out hsrc.out s2.out (by omega) s3.out ?_; rw [← hW.out])
  go_wp2
  go_ret
  exact ⟨rfl, F2.out, C2.out⟩
end Go.Proofs.Ytdkjdlimcnddkaa

namespace Go.Proofs.Ytdkjdlimcnddkaa
open Go.RowKit Flt

/-- One run in a block of its own: what a call hands to Insert. -/
structure XB (W : World) (X : Nat) (x : Spn) : Prop where
  at_ : ∀ (j : Nat) (u : Value), x.cells[j]? = some u → W.cell? ⟨X, j, none⟩ = some u
  fr : ∀ o, W.frozen? ⟨X, o, none⟩ = false
  shp : ∃ t k, W.shape? X = some (t, k)
  lt : X < W.heap.size
theorem frw_row (w : World) (cs : Array Value) (l : List Spn) (cap : Nat) (hl : l.length ≤ cap) (hc : cap ≤ 9223372036854775807) (hs : cs.size = cap * 2) (hat : ∀ (j : Nat) (u : Value), (flatP l)[j]? = some u → cs[j]? = some u) :
    FRw (w.alloc (.cells cs 83)) w.heap.size cap l where
  le := hl
  cb := hc
  lt := by simp
  at_ := fun j u hu => by rw [World.cell?_alloc_at cs _ w.heap.size j rfl]; exact hat j u hu
  room := fun j hj => by rw [World.cell?_alloc_at cs _ w.heap.size j rfl, Array.getElem?_eq_getElem (by omega)]; rfl
  fr := fun o => World.frozen?_alloc_at cs _ w.heap.size o rfl
  shp := by
    have e : (w.alloc (.cells cs 83)).heap[w.heap.size]? = some (.cells cs 83) := by
      unfold World.alloc
      exact Array.getElem?_push_size
    unfold World.shape?
    rw [e]
    show some (_, cs.size) = _
    rw [hs]
theorem spn_cells (x : Spn) : flatP [x] = x.cells := flatP_one x
theorem zc_size (k : Nat) : (Builtin.zeroCells (Value.agg #[.int .i64 0, .int .i64 0]).cells k).size = k * 2 := by simp [Builtin.zeroCells, Value.cells]
/-- At the end, with room. -/
theorem run_end_room (w : World) (g cap n X : Nat) (l : List Spn) (x : Spn) (f : FRw w g cap l) (hn : l.length = n) (hx : XB w X x) (hr : n + 1 ≤ cap) (ty : TypeId) :
    ∃ w', (Builtin.append_ #[37, 37] ty #[.slice (some ⟨g, 0, none⟩) n cap, .slice (some ⟨X, 0, none⟩) 1 1]).run Try.prog w = .ok (.slice (some ⟨g, 0, none⟩) (n + 1) cap) w' ∧ FRw w' g cap (l ++ [x]) ∧ Chg (fun b => b = g) w w' := by
  obtain ⟨j0, hjj, hy0, hy1, hy2⟩ := info_parts infoSpn
  have h := run_append_room_cells (P := Try.prog) w 37 ty 83 j0 Try.underlying37 hjj g 0 n cap ⟨X, 0, none⟩ 1 1 x.cells (by rw [hy1]; rfl) (fun j u hu => by rw [Addr.add_lit, Nat.zero_add]; exact hx.at_ j u hu) (by intro u hu; rw [← spn_cells] at hu; exact flatP_one_cell _ u hu) hr
    (fun j hj => f.room _ (by have : j < 2 := hj; rw [hy1]; omega)) (fun j _ => f.fr _)
  refine ⟨_, h, ?_, chg_setCells (S := fun b => b = g) g rfl _ _ _⟩
  have f0 : FRw w g cap (l ++ []) := by rw [List.append_nil]; exact f
  have := f0.tail [x] (by rw [List.length_append]; show _ + 1 ≤ _; omega)
  rw [hn, spn_cells] at this
  rw [hy1, Nat.zero_add]
  exact this
/-- At the end, without room. -/
theorem run_end_grow (w : World) (g cap n X : Nat) (l : List Spn) (x : Spn) (f : FRw w g cap l) (hn : l.length = n) (hx : XB w X x) (hr : cap < n + 1) (hb : n ≤ 2000000) (ty : TypeId) :
    ∃ cap' w', (Builtin.append_ #[37, 37] ty #[.slice (some ⟨g, 0, none⟩) n cap, .slice (some ⟨X, 0, none⟩) 1 1]).run Try.prog w = .ok (.slice (some ⟨w.heap.size, 0, none⟩) (n + 1) cap') w' ∧ FRw w' w.heap.size cap' (l ++ [x]) ∧ Chg (fun b => b = g) w w' := by
  obtain ⟨j0, hjj, hy0, hy1, hy2⟩ := info_parts infoSpn
  have hold : (Builtin.firstCells j0.size n (.slice (some ⟨g, 0, none⟩) n cap)).run Try.prog w.drew = .ok (flatP l).toArray w.drew :=
    run_firstCells_some w.drew _ n ⟨g, 0, none⟩ n cap (flatP l) (by rw [flatP_len, hn, hy1]) (fun j u hu => by rw [Addr.add_lit, Nat.zero_add]; exact f.at_ j u hu)
  have hsrc : Src Try.prog j0.size 37 (.slice (some ⟨X, 0, none⟩) 1 1) 1 x.cells w := Src.ofSlice w Try.underlying37 ⟨X, 0, none⟩ 1 1 x.cells (by rw [hy1]; rfl) (fun j u hu => by rw [Addr.add_lit, Nat.zero_add]; exact hx.at_ j u hu) (by intro u hu; rw [← spn_cells] at hu; exact flatP_one_cell _ u hu)
  have h := run_append_grow_src (P := Try.prog) w 37 37 ty 83 j0 _ Try.underlying37 hjj hy0 (some ⟨g, 0, none⟩) n cap (flatP l) hold _ 1 x.cells hsrc hr (by omega) (growslice_fits hr (by rw [hy2]; omega))
  have hge := grownCap_ge w (n + 1) cap 83
  have hle := grownCap_le_maxLen w (n + 1) cap 83 (by unfold maxLen; omega)
  unfold maxLen at hle
  refine ⟨_, _, h, ?_, ?_⟩
  · refine frw_row w.drew _ (l ++ [x]) _ (by rw [List.length_append, hn]; exact hge) (by omega) ?_ ?_
    · rw [Array.size_append, zc_size, List.size_toArray, List.length_append, flatP_len, hn]
      show n * 2 + 2 + _ = _
      omega
    · intro j u hu
      have hj := (List.getElem?_eq_some_iff.1 hu).1
      rw [flatP_append, spn_cells] at hu hj
      rw [Array.getElem?_append_left (by rw [List.size_toArray]; exact hj), List.getElem?_toArray]
      exact hu
  · exact Chg.andThen (kept_drew w).chg (kept_alloc 0 0 w.drew _).chg
end Go.Proofs.Ytdkjdlimcnddkaa
