import Derived.Test.YtdkjdlimcnddkaaS08
import Derived.Deep.RegionHeld3

namespace Go.Proofs.Ytdkjdlimcnddkaa
open Go.RowKit Flt
attribute [local go_sem] alloc_drewN setCell_drewN run_store_float

/-- Every number of a code is two bytes long. -/
structure SvOK (ins : List Int) (ss : List Ste) (os : List Spn) (pk : Int) : Prop where
  li : ins.length ≤ 20
  ls : ss.length ≤ 2000
  lo : os.length ≤ 50
  i : ∀ y ∈ ins, 0 ≤ y ∧ y < 65536
  s : ∀ k, k < ss.length → (0 ≤ (ss.getD k Ste.zero).op ∧ (ss.getD k Ste.zero).op ≤ 13) ∧ ∀ y ∈ fieldsOf (ss.getD k Ste.zero), 0 ≤ y ∧ y < 65536
  o : ∀ k, k < os.length → (0 ≤ (os.getD k Spn.zero).off ∧ (os.getD k Spn.zero).off < 65536) ∧ 0 ≤ (os.getD k Spn.zero).len ∧ (os.getD k Spn.zero).len < 65536
  p : 0 ≤ pk ∧ pk < 65536
theorem hold_off {ss : List Ste} {n : Nat} {peak off len : Int} (h : holdB ss n peak off len = true) : 0 ≤ off ∧ off ≤ peak - len := by
  unfold holdB at h
  simp only [Bool.and_eq_true] at h
  exact of_decide_eq_true h.1
theorem svOK_of {ins : List Int} {ss : List Ste} {os : List Spn} {pk : Int} (h : verM ins ss os pk = true) : SvOK ins ss os pk := by
  unfold verM at h
  simp only [Bool.and_eq_true] at h
  obtain ⟨⟨hl, hs⟩, ho⟩ := h
  unfold limB at hl
  simp only [Bool.and_eq_true, decide_eq_true_eq] at hl
  obtain ⟨⟨⟨⟨h1, h2⟩, h3⟩, h4⟩, h5⟩ := hl
  refine ⟨h1, h2, h3, ?_, ?_, ?_, by omega⟩
  · intro y hy
    have := List.all_eq_true.1 h4 y hy
    have := of_decide_eq_true this
    omega
  · intro k hk
    have hb := step_bounds h5.2 hs k hk
    have h6 := List.all_eq_true.1 hs k (List.mem_range.2 hk)
    unfold stepB at h6
    simp only [Bool.and_eq_true] at h6
    obtain ⟨hf, _, ht⟩ := h6
    generalize ss.getD k Ste.zero = s at hb hf ht
    have hop := form_op hf
    refine ⟨hop, ?_⟩
    have hta : ∀ p ∈ spansOf s, 0 ≤ p.off ∧ p.off ≤ 50000 := fun p hp => by
      have h7 := List.all_eq_true.1 ht p hp
      unfold takeB at h7
      simp only [Bool.and_eq_true] at h7
      have h8 := hold_off h7.1
      have h9 := spans_lens hf hp
      omega
    have hn : 0 ≤ s.n ∧ s.n ≤ 1000 := by
      by_cases hc : 0 < cnt s.op
      · have := form_n hf hc; omega
      · have hc0 : cnt s.op = 0 := by omega
        unfold formB at hf
        simp only [Bool.and_eq_true] at hf
        have := hf.1.2
        simp [hc0] at this
        omega
    have hA : 0 < cnt s.op → 0 ≤ s.a ∧ s.a ≤ 50000 := fun hc => hta ⟨s.a, s.n⟩ (by unfold spansOf; obtain ⟨q, hq⟩ : ∃ q, cnt s.op = q + 1 := ⟨cnt s.op - 1, by omega⟩; rw [hq]; simp)
    have hB : 1 < cnt s.op → 0 ≤ s.b ∧ s.b ≤ 50000 := fun hc => hta ⟨s.b, s.len⟩ (by unfold spansOf; obtain ⟨q, hq⟩ : ∃ q, cnt s.op = q + 2 := ⟨cnt s.op - 2, by omega⟩; rw [hq]; simp)
    have hC : 2 < cnt s.op → 0 ≤ s.c ∧ s.c ≤ 50000 := fun hc => hta ⟨s.c, s.len⟩ (by unfold spansOf; obtain ⟨q, hq⟩ : ∃ q, cnt s.op = q + 3 := ⟨cnt s.op - 3, by omega⟩; rw [hq]; simp)
    have hsp : spareB (vlOf s) = true := by
      unfold formB at hf
      simp only [Bool.and_eq_true] at hf
      exact hf.1.1.2
    unfold spareB vlOf at hsp
    simp at hsp
    obtain ⟨⟨sa, sb⟩, sc⟩ := hsp
    have gA : 0 ≤ s.a ∧ s.a ≤ 50000 := by
      by_cases hc : 0 < cnt s.op
      · exact hA hc
      · by_cases h0 : s.op = 0
        · unfold formB at hf
          rw [if_pos h0] at hf
          simp only [Bool.and_eq_true] at hf
          have := of_decide_eq_true hf.2.1
          omega
        · rcases sa with (c | c) | c
          · omega
          · exact absurd c h0
          · omega
    have gB : 0 ≤ s.b ∧ s.b ≤ 50000 := by
      by_cases hc : 1 < cnt s.op
      · exact hB hc
      · rcases sb with c | c <;> omega
    have gC : 0 ≤ s.c ∧ s.c ≤ 50000 := by
      by_cases hc : 2 < cnt s.op
      · exact hC hc
      · by_cases hp : placeB s.op = true
        · have hp' := of_decide_eq_true hp
          have hsh := form_shape hf (by omega)
          rcases hp' with e | e
          · rw [e] at hsh
            simp [shapeB, cnt, lenB, idxB] at hsh
            omega
          · rw [e] at hsh
            simp [shapeB, cnt, idxB] at hsh
            omega
        · rcases sc with (c | c) | c
          · omega
          · exact absurd c hp
          · omega
    intro y hy
    simp [fieldsOf] at hy
    rcases hy with rfl | rfl | rfl | rfl | rfl | rfl <;> omega
  · intro k hk
    have hm : os.getD k Spn.zero ∈ os := by
      rw [List.getD_eq_getElem?_getD, List.getElem?_eq_getElem hk]
      exact List.getElem_mem _
    have := List.all_eq_true.1 ho _ hm
    unfold outB at this
    simp only [Bool.and_eq_true] at this
    have h7 := of_decide_eq_true this.1
    have h8 := hold_off this.2
    omega
/-- What a code's bytes come to behind Verify. -/
structure SvI (w2 W : World) (v : Value) (bs : List Int) : Prop where
  r : YB W w2.heap.size v bs
  k : Kept 0 0 w2 W
theorem SvI.size {w2 W : World} {v : Value} {bs : List Int} (f : SvI w2 W v bs) : w2.heap.size ≤ W.heap.size := f.k.size
theorem SvI.next {w2 W W1 w' : World} {v v' : Value} {bs bs' : List Int} (f : SvI w2 W v bs) (k1 : Kept 0 0 W W1) (h : YB w' w2.heap.size v' bs') (hc : Chg (fun b => v.ownBlock = some b) W1 w') : SvI w2 w' v' bs' :=
  ⟨h, Chg.kept (f.k.trans k1) hc (fun _ hi => (f.r.blk hi).1)⟩
theorem SvI.keep {w2 W W1 : World} {v : Value} {bs : List Int} (f : SvI w2 W v bs) (k1 : Kept 0 0 W W1) : SvI w2 W1 v bs := ⟨f.r.keep k1, f.k.trans k1⟩
/-- withCounts of a list that was just written down. -/
theorem withLit (w : World) (B : Nat) (v : Value) (bs xs : List Int) (cs : Array Value) (n : Nat) (f : YB w B v bs) (hc : cs.toList = xs.map (Value.int .i64)) (hn : xs.length = n) (hl : n ≤ 10) (hx : ∀ y ∈ xs, 0 ≤ y ∧ y < 65536) (hb : bs.length ≤ 1000000) (hB : B ≤ w.heap.size) :
    Calls Try.prog 65 #[v, .slice (some ⟨w.heap.size, 0, none⟩) n n] (w.alloc (.cells cs 3)) (Grew (w.alloc (.cells cs 3)) B v (bs ++ xs.flatMap cntB)) := by
  have ka := kept_alloc 0 0 w (.cells cs 3)
  refine withCounts _ B v bs xs _ n n w.heap.size (w.heap.size + 1) (f.keep ka) ⟨hn, .inr ⟨w.heap.size, 0, rfl, Nat.le_refl _, Nat.lt_succ_self _, by simp, fun k hk => ?_⟩⟩ (fun g h1 h2 h3 => ?_) hx hb (by omega) (Nat.le_trans hB ka.size)
  · rw [Nat.zero_add, World.cell?_alloc_new, ← Array.getElem?_toList, hc, List.getElem?_map, List.getElem?_eq_getElem (by omega), List.getD_eq_getElem?_getD, List.getElem?_eq_getElem (by omega)]
    rfl
  · have := (f.blk h3).2
    omega
theorem AtT.keepC {w w' : World} {S : Nat → Prop} {g : Nat} {v : Ste} (a : AtT w g 0 v) (hg : g < w.heap.size) (k : Chg S w w') (hd : ¬ S g) : AtT w' g 0 v := by
  have e : ∀ o, w'.cell? ⟨g, o, none⟩ = w.cell? ⟨g, o, none⟩ := fun o => k.cell (p := ⟨g, o, none⟩) hg hd
  obtain ⟨c0, c1, c2, c3, c4, c5, c6, c7⟩ := a
  exact ⟨by rw [e]; exact c0, by rw [e]; exact c1, by rw [e]; exact c2, by rw [e]; exact c3, by rw [e]; exact c4, by rw [e]; exact c5, by rw [e]; exact c6, by rw [e]; exact c7⟩
theorem atT_newS (w : World) (v : Ste) : AtT (w.alloc v.box) w.heap.size 0 v := by
  constructor
  all_goals first | (go_simp; done) | (simp; done)
end Go.Proofs.Ytdkjdlimcnddkaa
