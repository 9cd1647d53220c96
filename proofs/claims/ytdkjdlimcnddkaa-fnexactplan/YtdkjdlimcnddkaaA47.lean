import Derived.Test.YtdkjdlimcnddkaaA46
import Derived.Test.YtdkjdlimcnddkaaA45
namespace Go.Proofs.Ytdkjdlimcnddkaa
open Go.RowKit Flt
attribute [local go_sem] alloc_drewN setCell_drewN run_store_float
theorem PA.keepC {w w' : World} {S : Nat → Prop} {g n : Nat} {vs : List Spn} (f : PA w g n vs) (k : Chg S w w') (hd : ¬ S g) : PA w' g n vs := by
  have e : ∀ o, w'.cell? ⟨g, o, none⟩ = w.cell? ⟨g, o, none⟩ := fun o => k.cell (p := ⟨g, o, none⟩) f.lt hd
  exact ⟨f.len, Nat.lt_of_lt_of_le f.lt k.size, fun i hi => ⟨by rw [e]; exact (f.at_ i hi).c0, by rw [e]; exact (f.at_ i hi).c1⟩, fun o => by rw [k.frozen (p := ⟨g, o, none⟩) f.lt hd]; exact f.free o⟩
theorem own_read {W : World} {base n : Nat} {v : Value} {xs : List Int} (h : W.ownsRow base 3 1 v n (xs.map (Value.int .i64))) (hl : xs.length = n) : ∃ a c, v = .slice a n c ∧ IS W base W.heap.size a n xs := by
  rcases h.2 with ⟨e, z⟩ | ⟨g, cap, cur, e, _⟩
  · subst z
    exact ⟨none, 0, e, hl, .inl rfl⟩
  · subst e
    exact ⟨_, _, rfl, own_isL h hl⟩
/-- Lists of ints read: the cells of D, the rows within lo and hi. -/
def DRd (W : World) (D lo hi n : Nat) (L : Nat → List Int) : Prop := D < W.heap.size ∧ ∀ b, b < n → ∃ a c, W.cell? ⟨D, b, none⟩ = some (.slice a (L b).length c) ∧ IS W lo hi a (L b).length (L b)
theorem DB.rd {W : World} {D B n : Nat} {u : Nat → Value} {L : Nat → List Int} (f : DB W D B n u L) : DRd W D B W.heap.size n L :=
  ⟨f.lt, fun b hb => by
    obtain ⟨a, c, e, h⟩ := own_read (f.row b hb) rfl
    exact ⟨a, c, by rw [f.at_ b hb, e], h⟩⟩
theorem DRd.keepC {W W' : World} {S : Nat → Prop} {D lo hi n : Nat} {L : Nat → List Int} (f : DRd W D lo hi n L) (k : Chg S W W') (hD : ¬ S D) (hd : ∀ g, lo ≤ g → g < hi → ¬ S g) : DRd W' D lo hi n L :=
  ⟨Nat.lt_of_lt_of_le f.1 k.size, fun b hb => by
    obtain ⟨a, c, e, h⟩ := f.2 b hb
    exact ⟨a, c, by rw [k.cell (p := ⟨D, b, none⟩) f.1 hD]; exact e, h.keepC k hd⟩⟩
/-- The places of the first i values; the rest is still zero. -/
def plUp (vs : List Vl) (ps : List Int) (n i : Nat) : List Spn := (List.range n).map fun j => if j < i then spanOf vs ps j else Spn.zero
theorem plUp_len (vs : List Vl) (ps : List Int) (n i : Nat) : (plUp vs ps n i).length = n := by simp [plUp]
theorem plUp_at (vs : List Vl) (ps : List Int) {n i j : Nat} (h : j < n) : (plUp vs ps n i).getD j Spn.zero = if j < i then spanOf vs ps j else Spn.zero := by
  unfold plUp
  rw [List.getD_eq_getElem?_getD, List.getElem?_map, List.getElem?_range h]; rfl
theorem plUp_zero (vs : List Vl) (ps : List Int) (n : Nat) : plUp vs ps n 0 = List.replicate n Spn.zero := by
  rw [List.eq_replicate_iff]
  refine ⟨plUp_len vs ps n 0, fun b hb => ?_⟩
  obtain ⟨j, _, e⟩ := List.mem_map.1 hb
  rw [← e, if_neg (Nat.not_lt_zero _)]
theorem plUp_set (vs : List Vl) (ps : List Int) (n i : Nat) : (plUp vs ps n i).set i (spanOf vs ps i) = plUp vs ps n (i + 1) := by
  refine List.ext_getElem (by rw [List.length_set, plUp_len, plUp_len]) (fun j h1 h2 => ?_)
  have hj : j < n := by rw [plUp_len] at h2; exact h2
  have a := plUp_at vs ps (i := i) hj
  have b := plUp_at vs ps (i := i + 1) hj
  rw [List.getD_eq_getElem?_getD, List.getElem?_eq_getElem (by rw [plUp_len]; exact hj)] at a
  rw [List.getD_eq_getElem?_getD, List.getElem?_eq_getElem h2] at b
  simp only [Option.getD_some] at a b
  rw [List.getElem_set, b]
  by_cases e : i = j
  · subst e
    rw [if_pos rfl, if_pos (Nat.lt_succ_self _)]
  · rw [if_neg e, a]
    by_cases c : j < i
    · rw [if_pos c, if_pos (by omega)]
    · rw [if_neg c, if_neg (by omega)]
theorem PlI.inb {vs : List Vl} {ps : List Int} {l : List Spn} {T : Nat → Prop} (f : PlI vs ps l T) : ∀ s ∈ l, InB s := fun s hs => by
  have h1 := RunsF.mem f.fl.runs s hs
  have h2 := f.fl.top s hs
  exact ⟨h1.1, by omega, h2⟩
theorem lbs_take {l : List Spn} {x : Int} {i : Nat} (h : LbS l x i) : ∀ s ∈ l.take i, s.off < x := fun s hs => by
  obtain ⟨j, hj, e⟩ := List.getElem_of_mem hs
  rw [List.length_take] at hj
  have := h.lo j (by omega)
  rw [List.getD_eq_getElem?_getD, List.getElem?_eq_getElem (by omega)] at this
  rw [List.getElem_take] at e
  rw [← e]
  exact this
theorem lbs_drop {l : List Spn} {x : Int} {i : Nat} (h : LbS l x i) : ∀ s ∈ l.drop i, x ≤ s.off := fun s hs => by
  obtain ⟨j, hj, e⟩ := List.getElem_of_mem hs
  rw [List.length_drop] at hj
  have := h.hi (i + j) (by omega) (by omega)
  rw [List.getD_eq_getElem?_getD, List.getElem?_eq_getElem (by omega)] at this
  rw [List.getElem_drop] at e
  rw [← e]
  exact this
/-- Held while value i's releases go: all that was, but for the first q of those released. -/
def heldQ (vs : List Vl) (outs : List Int) (n i q : Nat) (j : Nat) : Prop := ((j < i ∧ (i : Int) ≤ lastM vs outs j) ∨ j = i) ∧ (j : Int) ∉ (doneL vs outs n i).take q
theorem rel_in {vs : List Vl} {outs : List Int} {i j : Nat} (he : effT vs vs.length j = (i : Int)) (ho : isO outs j = false) : (j < i ∧ (i : Int) ≤ lastM vs outs j) ∨ j = i := by
  unfold effT at he
  unfold lastM
  rw [ho, if_neg (by simp)]
  rcases lastTo_ge vs j (vs.length - (j + 1)) with e | e
  · rw [if_pos e] at he
    exact .inr (by omega)
  · rw [if_neg (by omega)] at he
    exact .inl (by omega)
theorem doneL_nodup (vs : List Vl) (outs : List Int) (n b : Nat) : (doneL vs outs n b).Nodup := by
  unfold doneL
  rw [List.nodup_iff_pairwise_ne, List.pairwise_map]
  refine List.Pairwise.imp (fun {a b} (h : a < b) => by omega) (List.Pairwise.filter _ List.pairwise_lt_range)
theorem take_new {xs : List Int} (h : xs.Nodup) {q : Nat} (hq : q < xs.length) : xs[q] ∉ xs.take q := fun hm => by
  obtain ⟨j, hj, e⟩ := List.getElem_of_mem hm
  rw [List.length_take] at hj
  rw [List.getElem_take] at e
  have := (List.nodup_iff_pairwise_ne.1 h)
  exact (List.pairwise_iff_getElem.1 this j q (by omega) hq (by omega)) e
theorem heldQ_start (vs : List Vl) (outs : List Int) (n i : Nat) (j : Nat) : ((j < i ∧ (i : Int) ≤ lastM vs outs j) ∨ j = i) ↔ heldQ vs outs n i 0 j := by
  unfold heldQ
  simp
theorem heldQ_end {vs : List Vl} {outs : List Int} {n i : Nat} (hn : vs.length = n) (hi : i < n) (j : Nat) : heldQ vs outs n i (doneL vs outs n i).length j ↔ (j < i + 1 ∧ ((i + 1 : Nat) : Int) ≤ lastM vs outs j) := by
  rw [← held_next (by omega : i < vs.length) j]
  unfold heldQ
  rw [List.take_of_length_le (Nat.le_refl _)]
  refine and_congr_right fun hb => ?_
  have hjn : j < n := by omega
  constructor
  · rintro h ⟨h1, h2⟩
    refine h ?_
    unfold doneL
    refine List.mem_map.2 ⟨j, List.mem_filter.2 ⟨List.mem_range.2 hjn, ?_⟩, rfl⟩
    rw [h1, h2]; simp
  · rintro h hm
    obtain ⟨j', e, _, h1, h2⟩ := doneL_mem hm
    have e' : j = j' := by omega
    subst e'
    exact h ⟨h1, h2⟩
theorem heldQ_next {vs : List Vl} {outs : List Int} {n i q j0 : Nat} (hq : q < (doneL vs outs n i).length) (e : (doneL vs outs n i).getD q 0 = (j0 : Int)) (j : Nat) : (heldQ vs outs n i q j ∧ j ≠ j0) ↔ heldQ vs outs n i (q + 1) j := by
  unfold heldQ
  rw [List.take_succ_eq_append_getElem hq]
  rw [List.getD_eq_getElem?_getD, List.getElem?_eq_getElem hq] at e
  simp only [Option.getD_some] at e
  rw [e, List.mem_append, List.mem_singleton, and_assoc]
  refine and_congr_right fun _ => ?_
  constructor
  · rintro ⟨h1, h2⟩ (h | h)
    · exact h1 h
    · exact h2 (by omega)
  · intro h
    exact ⟨fun c => h (.inl c), fun c => h (.inr (by rw [c]))⟩
theorem heldQ_it {vs : List Vl} {outs : List Int} {n i q : Nat} (hq : q < (doneL vs outs n i).length) : ∃ j0 : Nat, (doneL vs outs n i).getD q 0 = (j0 : Int) ∧ j0 ≤ i ∧ heldQ vs outs n i q j0 := by
  have hm : (doneL vs outs n i)[q] ∈ doneL vs outs n i := List.getElem_mem _
  obtain ⟨j, e, _, h2, h3⟩ := doneL_mem hm
  have hr := rel_in h2 h3
  refine ⟨j, by rw [List.getD_eq_getElem?_getD, List.getElem?_eq_getElem hq]; exact e, by omega, hr, ?_⟩
  rw [← e]
  exact take_new (doneL_nodup vs outs n i) hq
def PsO (w : World) (n : Nat) (ps : List Spn) (e : Ending) (w' : World) : Prop := ∃ G, e = .returned (.slice (some ⟨G, 0, none⟩) n n) ∧ PA w' G n ps ∧ w.heap.size ≤ G ∧ Kept 0 0 w w'
end Go.Proofs.Ytdkjdlimcnddkaa
