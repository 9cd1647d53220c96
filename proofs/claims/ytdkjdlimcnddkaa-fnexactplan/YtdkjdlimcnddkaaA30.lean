import Derived.Test.YtdkjdlimcnddkaaA13
import Derived.Test.YtdkjdlimcnddkaaA15
import Derived.Test.YtdkjdlimcnddkaaA09
import Derived.Deep.AppendLies
namespace Go.Proofs.Ytdkjdlimcnddkaa
open Go.RowKit Flt

/-! Where Plan lays the values. -/
/-- Is value i an operand of v? -/
def usesB (v : Vl) (i : Nat) : Bool := (List.range (cnt v.op)).any fun k => fld v k == (i : Int)
/-- The last of the m values behind i that uses it, or -1. -/
def lastTo (vs : List Vl) (i : Nat) : Nat → Int
  | 0 => -1
  | m + 1 => if usesB (vs.getD (i + 1 + m) Vl.zero) i = true then ((i + 1 + m : Nat) : Int) else lastTo vs i m
/-- The last user of a value; an output is used for ever. -/
def lastM (vs : List Vl) (outs : List Int) (i : Nat) : Int := if isO outs i = true then (vs.length : Int) else lastTo vs i (vs.length - (i + 1))
/-- Do n cells from a on meet those of value j, if that is held at i? -/
def hitB (vs : List Vl) (outs : List Int) (ps : List Int) (i : Nat) (n a : Int) (j : Nat) : Bool := decide ((i : Int) ≤ lastM vs outs j) && (decide (ps.getD j 0 < a + n) && decide (a < ps.getD j 0 + (vs.getD j Vl.zero).len))
def freeB (vs : List Vl) (outs : List Int) (ps : List Int) (i : Nat) (n a : Int) : Bool := (List.range i).all fun j => !hitB vs outs ps i n a j
/-- The smallest offset that is free. -/
def placeM (vs : List Vl) (outs : List Int) (ps : List Int) (i : Nat) : Int := (((List.range 60000).find? fun (a : Nat) => freeB vs outs ps i (vs.getD i Vl.zero).len (a : Int)).getD 0 : Nat)
def plTo (vs : List Vl) (outs : List Int) : Nat → List Int
  | 0 => []
  | i + 1 => plTo vs outs i ++ [placeM vs outs (plTo vs outs i) i]
theorem plTo_len (vs : List Vl) (outs : List Int) : ∀ i, (plTo vs outs i).length = i
  | 0 => rfl
  | i + 1 => by rw [plTo, List.length_append, plTo_len vs outs i]; rfl
theorem plTo_lt (vs : List Vl) (outs : List Int) {i j : Nat} (h : j < i) : (plTo vs outs (i + 1)).getD j 0 = (plTo vs outs i).getD j 0 := by
  rw [plTo, List.getD_eq_getElem?_getD, List.getElem?_append_left (by rw [plTo_len]; exact h), ← List.getD_eq_getElem?_getD]
theorem plTo_at (vs : List Vl) (outs : List Int) (i : Nat) : (plTo vs outs (i + 1)).getD i 0 = placeM vs outs (plTo vs outs i) i := by
  rw [plTo, List.getD_eq_getElem?_getD, List.getElem?_append_right (by rw [plTo_len]; exact Nat.le_refl _), plTo_len, Nat.sub_self]; rfl
theorem find_least {p : Nat → Bool} : ∀ {B a : Nat}, a < B → p a = true → (∀ b, b < a → p b = false) → (List.range B).find? p = some a := fun {B a} h1 h2 h3 => by
  rw [List.find?_eq_some_iff_getElem]
  refine ⟨h2, a, by simpa using h1, by simp, fun j hj => ?_⟩
  simp [h3 j hj]
/-- A free offset below which none is free is the place. -/
theorem place_eq {vs : List Vl} {outs : List Int} {ps : List Int} {i : Nat} {a : Nat} (h : freeB vs outs ps i (vs.getD i Vl.zero).len (a : Int) = true) (hm : ∀ b : Nat, b < a → freeB vs outs ps i (vs.getD i Vl.zero).len (b : Int) = false) (ha : a < 60000) : placeM vs outs ps i = (a : Int) := by
  unfold placeM
  rw [find_least (p := fun (a : Nat) => freeB vs outs ps i (vs.getD i Vl.zero).len (a : Int)) ha h hm]
  rfl
/-- The lengths of the first i values together. -/
def sumL (vs : List Vl) : Nat → Int
  | 0 => 0
  | i + 1 => sumL vs i + (vs.getD i Vl.zero).len
theorem sumL_mono {vs : List Vl} {n : Nat} (hl : ∀ k, k < n → 1 ≤ (vs.getD k Vl.zero).len) {i j : Nat} (hij : i ≤ j) (hj : j ≤ n) : sumL vs i ≤ sumL vs j := by
  induction j with
  | zero => obtain rfl : i = 0 := by omega
            exact Int.le_refl _
  | succ j ih =>
    by_cases e : i = j + 1
    · subst e; exact Int.le_refl _
    · have h1 := ih (by omega) (by omega)
      have h2 := hl j (by omega)
      rw [sumL]; omega
theorem sumL_cells (vs : List Vl) : ∀ i, i ≤ vs.length → sumL vs i = cellsV (vs.take i)
  | 0, _ => by simp [sumL, cellsV]
  | i + 1, h => by rw [sumL, sumL_cells vs i (by omega), cellsV_take (by omega)]
theorem exists_least {p : Nat → Bool} : ∀ {B : Nat}, p B = true → ∃ a, a ≤ B ∧ p a = true ∧ ∀ b, b < a → p b = false := fun {B} h => by
  induction B using Nat.strongRecOn with
  | ind B ih =>
    by_cases hb : ∃ b, b < B ∧ p b = true
    · obtain ⟨b, h1, h2⟩ := hb
      obtain ⟨a, h3, h4, h5⟩ := ih b h1 h2
      exact ⟨a, by omega, h4, h5⟩
    · refine ⟨B, Nat.le_refl _, h, fun b hlt => ?_⟩
      cases hp : p b
      · rfl
      · exact absurd ⟨b, hlt, hp⟩ hb
/-- Each value ends within the elements of all values up to it. -/
theorem pl_bound {vs : List Vl} {outs : List Int} {n : Nat} (hl : ∀ k, k < n → 1 ≤ (vs.getD k Vl.zero).len) (hs : sumL vs n ≤ 50000) : ∀ i, i ≤ n → ∀ j, j < i → 0 ≤ (plTo vs outs i).getD j 0 ∧ (plTo vs outs i).getD j 0 + (vs.getD j Vl.zero).len ≤ sumL vs (j + 1) := fun i => by
  induction i with
  | zero => intro _ j hj; omega
  | succ i ih =>
    intro hi j hj
    by_cases e : j < i
    · rw [plTo_lt _ _ e]; exact ih (by omega) j e
    · obtain rfl : j = i := by omega
      have ih' := ih (by omega)
      have hs0 : 0 ≤ sumL vs j := by have := sumL_mono hl (i := 0) (j := j) (by omega) (by omega); simpa [sumL] using this
      have hsn := sumL_mono hl (i := j) (j := n) (by omega) (by omega)
      obtain ⟨S, hS⟩ := Int.eq_ofNat_of_zero_le hs0
      have hfree : freeB vs outs (plTo vs outs j) j (vs.getD j Vl.zero).len (S : Int) = true := by
        unfold freeB
        rw [List.all_eq_true]
        intro q hq
        have hq' := List.mem_range.1 hq
        have h1 := ih' q hq'
        have h2 := sumL_mono hl (i := q + 1) (j := j) (by omega) (by omega)
        unfold hitB
        rw [decide_eq_false (show ¬ ((S : Int) < (plTo vs outs j).getD q 0 + (vs.getD q Vl.zero).len) by omega)]
        simp
      obtain ⟨a, ha1, ha2, ha3⟩ := exists_least (p := fun (a : Nat) => freeB vs outs (plTo vs outs j) j (vs.getD j Vl.zero).len (a : Int)) hfree
      rw [plTo_at, place_eq ha2 ha3 (by omega), sumL]
      omega
/-- The place is free, and no smaller one is. -/
theorem pl_least {vs : List Vl} {outs : List Int} {n : Nat} (hl : ∀ k, k < n → 1 ≤ (vs.getD k Vl.zero).len) (hs : sumL vs n ≤ 50000) {i : Nat} (hi : i < n) : ∃ a : Nat, placeM vs outs (plTo vs outs i) i = a ∧ (a : Int) ≤ sumL vs i ∧ freeB vs outs (plTo vs outs i) i (vs.getD i Vl.zero).len (a : Int) = true ∧ ∀ b : Nat, b < a → freeB vs outs (plTo vs outs i) i (vs.getD i Vl.zero).len (b : Int) = false := by
  have ih' := pl_bound (outs := outs) hl hs i (by omega)
  have hs0 : 0 ≤ sumL vs i := by have := sumL_mono hl (i := 0) (j := i) (by omega) (by omega); simpa [sumL] using this
  have hsn := sumL_mono hl (i := i) (j := n) (by omega) (by omega)
  obtain ⟨S, hS⟩ := Int.eq_ofNat_of_zero_le hs0
  have hfree : freeB vs outs (plTo vs outs i) i (vs.getD i Vl.zero).len (S : Int) = true := by
    unfold freeB
    rw [List.all_eq_true]
    intro q hq
    have hq' := List.mem_range.1 hq
    have h1 := ih' q hq'
    have h2 := sumL_mono hl (i := q + 1) (j := i) (by omega) (by omega)
    unfold hitB
    rw [decide_eq_false (show ¬ ((S : Int) < (plTo vs outs i).getD q 0 + (vs.getD q Vl.zero).len) by omega)]
    simp
  obtain ⟨a, ha1, ha2, ha3⟩ := exists_least (p := fun (a : Nat) => freeB vs outs (plTo vs outs i) i (vs.getD i Vl.zero).len (a : Int)) hfree
  exact ⟨a, place_eq ha2 ha3 (by omega), by omega, ha2, ha3⟩
/-- An offset up to the place that is hit by a value: the place is not ahead of its end. -/
theorem hit_push {vs : List Vl} {outs : List Int} {ps : List Int} {i j : Nat} {n a b : Int} (hj : j < i) (hit : hitB vs outs ps i n a j = true) (hb : freeB vs outs ps i n b = true) (hab : a ≤ b) : ps.getD j 0 + (vs.getD j Vl.zero).len ≤ b := by
  unfold freeB at hb
  have h := List.all_eq_true.1 hb j (List.mem_range.2 hj)
  unfold hitB at hit h
  simp only [Bool.and_eq_true, decide_eq_true_eq] at hit
  obtain ⟨h1, h2, h3⟩ := hit
  by_cases c : b < ps.getD j 0 + (vs.getD j Vl.zero).len
  · rw [decide_eq_true h1, decide_eq_true (show ps.getD j 0 < b + n by omega), decide_eq_true c] at h
    simp at h
  · omega
end Go.Proofs.Ytdkjdlimcnddkaa

namespace Go.Proofs.Ytdkjdlimcnddkaa
open Go.RowKit Flt
attribute [local go_sem] alloc_drewN setCell_drewN run_store_float

theorem uses_step (v : Vl) (i q : Nat) : ((List.range (q + 1)).any fun k => fld v k == (i : Int)) = (((List.range q).any fun k => fld v k == (i : Int)) || (fld v q == (i : Int))) := by
  rw [List.range_succ, List.any_append]
  simp
theorem lastTo_step (vs : List Vl) (i m : Nat) : lastTo vs i (m + 1) = if usesB (vs.getD (i + 1 + m) Vl.zero) i = true then ((i + 1 + m : Nat) : Int) else lastTo vs i m := rfl
set_option maxRecDepth 100000 in
set_option maxHeartbeats 4000000 in
theorem l5lastUse (w : World) (b1 b2 b3 : Option Addr) (n1 c1 n2 c2 n3 c3 i : Nat) (ins : List Int) (vs : List Vl) (outs : List Int) (f : GS w b1 n1 b2 n2 b3 n3 ins vs outs) (hok : okG ins vs outs = true) (hi : i < n2) :
    Calls Try.prog 136 #[gagg b1 n1 c1 b2 n2 c2 b3 n3 c3, .int .i64 (i : Nat)] w fun e w' => e = .returned (.int .i64 (lastM vs outs i)) ∧ Kept 0 0 w w' := by
  obtain ⟨⟨hl1, hl2, hl3⟩, _, hv, ho, _⟩ := okG_parts hok
  have hvl : vs.length = n2 := f.v.len
  have hol : outs.length = n3 := f.o.len
  have hn2 : n2 ≤ 2000 := by omega
  have hn3 : n3 ≤ 50 := by omega
  have HV : Hid (∀ j, j < n2 → okV ins vs j = true) := fun j hj => hv j (by omega)
  have HL : Hid (vs.length = n2) := hvl
  have k0 := kept_alloc 0 0 w (gbox b1 n1 c1 b2 n2 c2 b3 n3 c3)
  have HB : Hid _ := g0_start w (.slice b1 n1 c1) (.slice b2 n2 c2) (.slice b3 n3 c3)
  have HF : Hid _ := f.keep k0
  have HK : Hid _ := k0
  clear f hok hl1 hl2 hl3 hv ho hvl hol k0
  go_enter Try.func136, Try.ntmps136
  go_wp2_with fail
  generalize w.alloc (gbox b1 n1 c1 b2 n2 c2 b3 n3 c3) = w1 at HB HF HK ⊢
  go_loopw [5, 6] (fun x y W => ∃ m : Nat, i + 1 + m ≤ n2 ∧ x = .int .i64 (lastTo vs i m) ∧ y = .int .i64 ((i : Int) + 1 + m) ∧ Hid (Kept 0 0 w1 W)) (fun _ y _ => (n2 : Int).toNat - (intOf y).toNat)
  case atStart => exact ⟨0, by omega, rfl, by go_num, Kept.refl _ _ _⟩
  case round =>
    obtain ⟨m, hm, rfl, rfl, hK⟩ := hrel
    obtain ⟨_, q0, q1, q2⟩ := HB.out.keep hK.out
    by_cases hlt : i + 1 + m < n2
    · have hops := okV_opR (HV.out (i + 1 + m) hlt)
      have HL1 : Hid _ := l1ops (vs.getD (i + 1 + m) Vl.zero).op hops.1 hops.2
      have HAT : Hid (∀ W', Kept 0 0 w1 W' → ∃ g off, b2 = some ⟨g, off, none⟩ ∧ g < W'.heap.size ∧ At W' g (off + (i + 1 + m) * 6) (vs.getD (i + 1 + m) Vl.zero)) := fun W' kW => by
        obtain ⟨g, off, e, z1, _, _, z4⟩ := (HF.out.keep kW).v.at_idx hlt
        exact ⟨g, off, e, z1, z4⟩
      have HS : Hid _ := lastTo_step vs i m
      unfold usesB at HS
      generalize hvv : vs.getD (i + 1 + m) Vl.zero = v at HL1 HAT HS hops
      have hc3 := cnt_le v.op
      clear hvv
      obtain ⟨j, hj⟩ : ∃ j : Nat, j = i + 1 + m := ⟨_, rfl⟩
      have hji : (i : Int) + 1 + m = j := by omega
      rw [hji]
      rw [← hj] at HAT HS hlt
      generalize hy : lastTo vs i m = y at HS
      have HJ : Hid (j = i + 1 + m ∧ (i : Int) + 1 + m = j) := ⟨hj, hji⟩
      clear hy hj hji hm hops
      go_wp2_with fail
      go_loopw [5, 7] (fun x z W => ∃ q : Nat, q ≤ cnt v.op ∧ z = .int .i64 q ∧ x = .int .i64 (if ((List.range q).any fun k => fld v k == (i : Int)) = true then (j : Int) else y) ∧ Hid (Kept 0 0 w1 W)) (fun _ z _ => cnt v.op - (intOf z).toNat)
      case atStart => exact ⟨0, Nat.zero_le _, rfl, by simp, hK⟩
      case round =>
        obtain ⟨q, hq, rfl, rfl, hK2⟩ := hrel
        clear hK q0 q1 q2
        obtain ⟨_, q0, q1, q2⟩ := HB.out.keep hK2.out
        obtain ⟨g, off, rfl, hg, y0, y1, y2, y3, y4, y5⟩ := HAT.out _ hK2.out
        by_cases hqc : q < cnt v.op
        · have HFD : Hid _ := fun W => l1field W v q (by omega)
          have HU : Hid _ := uses_step v i q
          generalize hE : ((List.range q).any fun k => fld v k == (i : Int)) = E at HU ⊢
          obtain ⟨x0, hx⟩ : ∃ x0, x0 = (if E = true then (j : Int) else y) := ⟨_, rfl⟩
          rw [← hx]
          have HX : Hid _ := hx
          clear hE hx
          go_wp2_with (first | (go_at_call 84; refine Calls.mono (HL1.out _) ?_; rintro e w9 ⟨rfl, rfl⟩) | fail)
          refine Calls.mono (HFD.out _) ?_
          rintro e w9 ⟨rfl, k9⟩
          have R2 : Hid _ := hK2.out.trans k9
          cases t : (fld v q == (i : Int))
          · have t' : ¬ fld v q = (i : Int) := by simpa using t
            rw [t, Bool.or_false] at HU
            generalize fld v q = z at t'
            clear t k9
            go_wp2_with fail
            go_roundw
            case rel => exact ⟨q + 1, by omega, by go_num, by rw [HU.out, HX.out], R2⟩
            case measure => simp [intOf]; omega
          · have t' : fld v q = (i : Int) := by simpa using t
            rw [t, Bool.or_true] at HU
            rw [t']
            clear t k9 t'
            go_wp2_with fail
            go_roundw
            case rel => exact ⟨q + 1, by omega, by go_num, by rw [HU.out]; rfl, R2⟩
            case measure => simp [intOf]; omega
        · obtain rfl : q = cnt v.op := by omega
          have R : Hid _ := HS.out
          generalize (if ((List.range (cnt v.op)).any fun k => fld v k == (i : Int)) = true then (j : Int) else y) = z at R ⊢
          go_wp2_with (first | (go_at_call 84; refine Calls.mono (HL1.out _) ?_; rintro e w9 ⟨rfl, rfl⟩) | fail)
          go_roundw
          case rel => exact ⟨m + 1, by have := HJ.out; omega, by rw [R.out], by have := HJ.out; congr 1; omega, hK2⟩
          case measure => have := HJ.out; simp [intOf]; omega
    · have he : i + 1 + m = n2 := by omega
      have R : Hid (lastM vs outs i = if isO outs i = true then (n2 : Int) else lastTo vs i m) := by
        show _ = _
        unfold lastM
        rw [HL.out, show n2 - (i + 1) = m by omega]
      generalize lastTo vs i m = z at R
      have HN : Hid _ := l4needed wr b1 b2 b3 n1 c1 n2 c2 n3 c3 i _ _ outs (HF.out.keep hK.out).o (by omega)
      go_wp2_with fail
      refine Calls.mono HN.out ?_
      rintro e w9 ⟨rfl, k9⟩
      obtain ⟨_, r0, r1, r2⟩ := (HB.out.keep hK.out).keep k9
      have R2 : Hid _ := (HK.out.trans hK.out).trans k9
      clear HN k9 q0 q1 q2
      cases t : isO outs i
      · rw [t, if_neg (by simp)] at R
        go_wp2_with fail
        go_ret
        exact ⟨by rw [R.out]; rfl, R2.out⟩
      · rw [t, if_pos rfl] at R
        go_wp2_with fail
        go_ret
        exact ⟨by rw [R.out]; rfl, R2.out⟩
end Go.Proofs.Ytdkjdlimcnddkaa

namespace Go.Proofs.Ytdkjdlimcnddkaa
open Go.RowKit Flt
attribute [local go_sem] alloc_drewN setCell_drewN run_store_float

/-- Two rows of ints, both grown by append, in blocks of their own that are not one. -/
structure P2 (W : World) (B : Nat) (u v : Value) (k m : Nat) (ps ls : List Int) : Prop where
  pu : W.ownsRow B 3 1 u k (ps.map (Value.int .i64))
  pv : W.ownsRow B 3 1 v m (ls.map (Value.int .i64))
  ne : ∀ g, u.ownBlock = some g → v.ownBlock ≠ some g
theorem P2.keep {W W' : World} {B k m : Nat} {u v : Value} {ps ls : List Int} (f : P2 W B u v k m ps ls) (q : Kept 0 0 W W') : P2 W' B u v k m ps ls :=
  ⟨own_keepJ f.pu q, own_keepJ f.pv q, f.ne⟩
theorem P2.start (W : World) (B : Nat) : P2 W B (.slice none 0 0) (.slice none 0 0) 0 0 [] [] :=
  ⟨World.ownsRow_nil _ _ _ _, World.ownsRow_nil _ _ _ _, fun g h => by simp [Value.ownBlock] at h⟩
theorem row_at1 {W : World} {B k : Nat} {u : Value} {ps : List Int} (f : W.ownsRow B 3 1 u k (ps.map (Value.int .i64))) {j : Nat} (hj : j < k) : ∃ g cap, u = .slice (some ⟨g, 0, none⟩) k cap ∧ B ≤ g ∧ g < W.heap.size ∧ W.cell? ⟨g, j, none⟩ = some (.int .i64 (ps.getD j 0)) := by
  obtain ⟨g, cap, rfl, h1, h2⟩ := f.form (by omega)
  have hl : ps.length = k := by have := f.1; rw [List.length_map] at this; omega
  rcases (own_is f hl).at_ with z | ⟨g', off, e, z1, z2, z3, z4⟩
  · omega
  · cases e
    refine ⟨g, cap, rfl, h1, h2, ?_⟩
    have := z4 j hj
    rw [Nat.zero_add] at this
    exact this
theorem P2.putU {W W' : World} {B k m g cap : Nat} {u v : Value} {ps ls : List Int} {x : Int} {o : Obj} (f : P2 W B u v k m ps ls) (ho : W'.ownsRow B 3 1 (.slice (some ⟨g, 0, none⟩) (k + 1) cap) (k + 1) (ps.map (Value.int .i64) ++ [.int .i64 x])) (hg : (W.alloc o).grownBy W' u.ownBlock) (ha : u.ownBlock = some g ∨ g = W.heap.size + 1) : P2 W' B (.slice (some ⟨g, 0, none⟩) (k + 1) cap) v (k + 1) m (ps ++ [x]) ls := by
  refine ⟨by rw [List.map_append]; exact ho, ?_, ?_⟩
  · refine (f.pv.alloc o).kept hg ?_
    cases hv : v.ownBlock with
    | none => exact .inl rfl
    | some b => exact .inr (fun c => f.ne b c.symm hv)
  · intro b hb hv
    simp [Value.ownBlock] at hb
    subst hb
    rcases ha with c | c
    · exact f.ne g c hv
    · have := (own_blkV f.pv hv).2
      omega
theorem P2.putV {W W' : World} {B k m g cap : Nat} {u v : Value} {ps ls : List Int} {x : Int} {o : Obj} (f : P2 W B u v k m ps ls) (ho : W'.ownsRow B 3 1 (.slice (some ⟨g, 0, none⟩) (m + 1) cap) (m + 1) (ls.map (Value.int .i64) ++ [.int .i64 x])) (hg : (W.alloc o).grownBy W' v.ownBlock) (ha : v.ownBlock = some g ∨ g = W.heap.size + 1) : P2 W' B u (.slice (some ⟨g, 0, none⟩) (m + 1) cap) k (m + 1) ps (ls ++ [x]) := by
  refine ⟨?_, by rw [List.map_append]; exact ho, ?_⟩
  · refine (f.pu.alloc o).kept hg ?_
    cases hv : u.ownBlock with
    | none => exact .inl rfl
    | some b => exact .inr (fun c => f.ne b hv c.symm)
  · intro b hb hv
    simp [Value.ownBlock] at hv
    subst hv
    rcases ha with c | c
    · exact f.ne _ hb c
    · have := (own_blkV f.pu hb).2
      omega
/-- The last users of the first k values. -/
def lsTo (vs : List Vl) (outs : List Int) (k : Nat) : List Int := (List.range k).map (lastM vs outs)
theorem lsTo_at (vs : List Vl) (outs : List Int) {k j : Nat} (h : j < k) : (lsTo vs outs k).getD j 0 = lastM vs outs j := by
  unfold lsTo
  rw [List.getD_eq_getElem?_getD, List.getElem?_map, List.getElem?_range h]; rfl
theorem lsTo_succ (vs : List Vl) (outs : List Int) (k : Nat) : lsTo vs outs (k + 1) = lsTo vs outs k ++ [lastM vs outs k] := by
  unfold lsTo
  rw [List.range_succ, List.map_append]; rfl
theorem lastTo_rng (vs : List Vl) (i : Nat) : ∀ m, -1 ≤ lastTo vs i m ∧ lastTo vs i m ≤ (i : Int) + m
  | 0 => by rw [lastTo]; omega
  | m + 1 => by
    have := lastTo_rng vs i m
    rw [lastTo]
    split <;> omega
theorem lastM_rng (vs : List Vl) (outs : List Int) {i : Nat} (h : i < vs.length) : -1 ≤ lastM vs outs i ∧ lastM vs outs i ≤ vs.length := by
  have := lastTo_rng vs i (vs.length - (i + 1))
  unfold lastM
  split <;> omega
/-- How much l5places still has to try. -/
def boolN : Value → Nat
  | .bool true => 1
  | _ => 0
theorem free_step {vs : List Vl} {outs ps : List Int} {i : Nat} {n a : Int} (h : ∀ q, q < i → hitB vs outs ps i n a q = false) : freeB vs outs ps i n a = true := by
  unfold freeB
  rw [List.all_eq_true]
  intro q hq
  rw [h q (List.mem_range.1 hq)]; rfl
end Go.Proofs.Ytdkjdlimcnddkaa

namespace Go.Proofs.Ytdkjdlimcnddkaa
open Go.RowKit Flt
attribute [local go_sem] alloc_drewN setCell_drewN run_store_float

set_option maxRecDepth 100000 in
set_option maxHeartbeats 16000000 in
theorem l5places (w : World) (b1 b2 b3 : Option Addr) (n1 c1 n2 c2 n3 c3 : Nat) (ins : List Int) (vs : List Vl) (outs : List Int) (f : GS w b1 n1 b2 n2 b3 n3 ins vs outs) (hok : okG ins vs outs = true) :
    Calls Try.prog 97 #[gagg b1 n1 c1 b2 n2 c2 b3 n3 c3] w fun e w' => ∃ a cap, e = .returned (.slice a n2 cap) ∧ IS w' 0 w'.heap.size a n2 (plTo vs outs n2) ∧ Kept 0 0 w w' := by
  obtain ⟨j0, hjj, hy0, hy1, hy2⟩ := info_parts infoI
  obtain ⟨⟨hl1, hl2, hl3⟩, _, hv, _, hcl⟩ := okG_parts hok
  have hvl : vs.length = n2 := f.v.len
  have hn2 : n2 ≤ 2000 := by omega
  have HOK : Hid _ := hok
  have HV : Hid (∀ j, j < n2 → 1 ≤ (vs.getD j Vl.zero).len ∧ (vs.getD j Vl.zero).len ≤ 1000) := fun j hj => okV_len (hv j (by omega))
  have HS : Hid (sumL vs n2 ≤ 50000) := by
    show _ ≤ _
    rw [sumL_cells vs n2 (by omega), List.take_of_length_le (by omega)]; exact hcl
  have HLL : Hid (vs.length = n2) := hvl
  have k0 := kept_alloc 0 0 w (gbox b1 n1 c1 b2 n2 c2 b3 n3 c3)
  have HB : Hid _ := g0_start w (.slice b1 n1 c1) (.slice b2 n2 c2) (.slice b3 n3 c3)
  have HF : Hid _ := f.keep k0
  have HK : Hid _ := k0
  clear f hok hl1 hl2 hl3 hv hvl hcl k0
  go_enter Try.func97, Try.ntmps97
  go_wp2_with fail
  generalize w.alloc (gbox b1 n1 c1 b2 n2 c2 b3 n3 c3) = w1 at HB HF HK ⊢
  go_loopw [3, 4, 5] (fun u' v' x W => ∃ (k : Nat) (u v : Value), u = u' ∧ v = v' ∧ k ≤ n2 ∧ x = .int .i64 k ∧ Hid (P2 W w1.heap.size u v k k (plTo vs outs k) (lsTo vs outs k)) ∧ Hid (Kept 0 0 w1 W)) (fun _ _ x _ => n2 - (intOf x).toNat)
  case atStart => exact ⟨0, _, _, rfl, rfl, Nat.zero_le _, rfl, P2.start _ _, Kept.refl _ _ _⟩
  case round =>
    obtain ⟨i, u, v, rfl, rfl, hi, rfl, hP, hK⟩ := hrel
    obtain ⟨_, q0, q1, q2⟩ := HB.out.keep hK.out
    by_cases hlt : i < n2
    · obtain ⟨p, hp, hpb, hpf, hpl⟩ := pl_least (outs := outs) (fun k hk => (HV.out k hk).1) HS.out hlt
      have HBD : Hid _ := pl_bound (outs := outs) (fun k hk => (HV.out k hk).1) HS.out i (by omega)
      have HSM : Hid (∀ j, j ≤ n2 → sumL vs j ≤ 50000) := fun j hj => Int.le_trans (sumL_mono (n := n2) (fun k hk => (HV.out k hk).1) hj (Nat.le_refl _)) HS.out
      have hp5 : p ≤ 50000 := by have := HSM.out i (by omega); omega
      have HPP : Hid (plTo vs outs (i + 1) = plTo vs outs i ++ [(p : Int)]) := by show _ = _; rw [plTo, hp]
      obtain ⟨N, hN⟩ : ∃ N, N = (vs.getD i Vl.zero).len := ⟨_, rfl⟩
      have hNr := HV.out i hlt
      rw [← hN] at hpf hpl hNr
      have HPF : Hid _ := hpf
      have HPL : Hid _ := hpl
      obtain ⟨g, off, rfl, hg, _, _, y0, y1, y2, y3, y4, y5⟩ := (HF.out.keep hK.out).v.at_idx hlt
      rw [← hN] at y1
      clear hp hpb hpf hpl hN
      go_wp2_with fail
      clear y0 y1 y2 y3 y4 y5 hg q0 q1 q2
      go_loopw [7, 8] (fun x y W => ∃ (a : Nat) (b : Bool), x = .int .i64 a ∧ y = .bool b ∧ a ≤ p ∧ Hid (b = false → freeB vs outs (plTo vs outs i) i N (a : Int) = true) ∧ Hid (P2 W w1.heap.size u v i i (plTo vs outs i) (lsTo vs outs i)) ∧ Hid (Kept 0 0 w1 W)) (fun x y _ => 2 * (60000 - (intOf x).toNat) + boolN y)
      case atStart => exact ⟨0, true, rfl, rfl, Nat.zero_le _, (fun h => by cases h), hP, hK⟩
      case round =>
        obtain ⟨a, b, rfl, rfl, ha, hFr, hP2, hK2⟩ := hrel
        clear hP hK
        cases b
        · obtain rfl : a = p := by
            rcases Nat.lt_or_ge a p with c | c
            · have := HPL.out a c
              rw [hFr.out rfl] at this
              cases this
            · omega
          clear hFr HPL
          have hsz : w1.heap.size ≤ wr.heap.size := hK2.out.size
          go_wp2_with (first | (at_builtin; refine wpList_append_lies _ rfl _ _ 22 rfl w1.heap.size 3 j0 (.int .i64 0) 1 8 Try.underlying22 hjj hy0 hy1 hy2 rfl (by decide) _ _ _ rfl (hP2.out.pu.alloc _) ⟨wr.heap.size, 0, none⟩ 1 1 [.int .i64 (a : Int)] rfl rfl ?c1 ?c2 (by decide) ?c3 ?c4 ?c5 _ rfl ?_) | fail)
          case c1 => exact cell_one_new _ _ _
          case c2 => intro u hu; simp at hu; subst hu; rfl
          case c3 => unfold maxLen; omega
          case c4 => omega
          case c5 => simp; omega
          intro g9 cap9 w9 hown9 hg9 hat9 _
          have R1 : Hid _ := P2.putU hP2.out hown9 hg9 hat9
          have R2 : Hid _ := grown_keptJ (base := w1.heap.size) hg9 (fun i hi => (own_blkV hP2.out.pu hi).1) (hK2.out.trans (kept_alloc 0 0 wr _)) (Nat.le_refl _)
          rw [← HPP.out] at R1
          clear hown9 hg9 hat9 hP2 hK2 hsz HPP
          obtain ⟨_, q0, q1, q2⟩ := HB.out.keep R2.out
          have HLU : Hid _ := l5lastUse w9 b1 (some ⟨g, off, none⟩) b3 n1 c1 n2 c2 n3 c3 i ins vs outs (HF.out.keep R2.out) HOK.out hlt
          go_wp2_with fail
          refine Calls.mono HLU.out ?_
          rintro e w10 ⟨rfl, k10⟩
          have HP3 : Hid _ := R1.out.keep k10
          have HK3 : Hid _ := R2.out.trans k10
          have hsz : w1.heap.size ≤ w10.heap.size := HK3.out.size
          have HLS : Hid _ := lsTo_succ vs outs i
          clear R1 R2 k10 HLU q0 q1 q2
          generalize lastM vs outs i = Lx at HLS
          go_wp2_with (first | (at_builtin; refine wpList_append_lies _ rfl _ _ 22 rfl w1.heap.size 3 j0 (.int .i64 0) 1 8 Try.underlying22 hjj hy0 hy1 hy2 rfl (by decide) _ _ _ rfl (HP3.out.pv.alloc _) ⟨w10.heap.size, 0, none⟩ 1 1 [.int .i64 Lx] rfl rfl ?c1 ?c2 (by decide) ?c3 ?c4 ?c5 _ rfl ?_) | fail)
          case c1 => exact cell_one_new _ _ _
          case c2 => intro u hu; simp at hu; subst hu; rfl
          case c3 => unfold maxLen; omega
          case c4 => omega
          case c5 => simp; omega
          intro g11 cap11 w11 hown11 hg11 hat11 _
          have R1 : Hid _ := P2.putV HP3.out hown11 hg11 hat11
          have R2 : Hid _ := grown_keptJ (base := w1.heap.size) hg11 (fun i hi => (own_blkV HP3.out.pv hi).1) (HK3.out.trans (kept_alloc 0 0 w10 _)) (Nat.le_refl _)
          rw [← HLS.out] at R1
          clear hown11 hg11 hat11 HP3 HK3 hsz HLS
          go_wp2_with fail
          go_roundw
          case rel => exact ⟨i + 1, _, _, rfl, rfl, by omega, by go_num, R1, R2⟩
          case measure => simp [intOf]; omega
        · go_wp2_with fail
          go_loopw [7, 8, 9] (fun x y z W => ∃ (a' : Nat) (b' : Bool) (j : Nat), x = .int .i64 a' ∧ y = .bool b' ∧ z = .int .i64 j ∧ j ≤ i ∧ a' ≤ p ∧ Hid (b' = false → a' = a ∧ ∀ q, q < j → hitB vs outs (plTo vs outs i) i N (a : Int) q = false) ∧ Hid (b' = true → a < a') ∧ Hid (P2 W w1.heap.size u v i i (plTo vs outs i) (lsTo vs outs i)) ∧ Hid (Kept 0 0 w1 W)) (fun _ _ z _ => i - (intOf z).toNat)
          case atStart => exact ⟨a, false, 0, rfl, rfl, rfl, Nat.zero_le _, ha, fun _ => ⟨rfl, fun q hq => by omega⟩, (fun h => by cases h), hP2, hK2⟩
          case round =>
            obtain ⟨a', b', j, rfl, rfl, rfl, hj, ha', hA, hT, hP3, hK3⟩ := hrel
            clear hP2 hK2 hFr
            by_cases hji : j < i
            · obtain ⟨_, q0, q1, q2⟩ := HB.out.keep hK3.out
              obtain ⟨g', off', e', hg, _, _, y0, y1, y2, y3, y4, y5⟩ := (HF.out.keep hK3.out).v.at_idx (i := j) (by omega)
              cases e'
              obtain ⟨gu, cu, rfl, _, hgu, cU⟩ := row_at1 hP3.out.pu hji
              obtain ⟨gv, cv, rfl, _, hgv, cV⟩ := row_at1 hP3.out.pv hji
              rw [lsTo_at _ _ hji] at cV
              have hbd := HBD.out j hji
              have hsm := HSM.out (j + 1) (by omega)
              have hlj := HV.out j (by omega)
              have hlr := lastM_rng vs outs (i := j) (by rw [HLL.out]; omega)
              rw [HLL.out] at hlr
              have HPU : Hid (hitB vs outs (plTo vs outs i) i N (a' : Int) j = true → (plTo vs outs i).getD j 0 + (vs.getD j Vl.zero).len ≤ (p : Int)) := fun h => hit_push hji h HPF.out (by omega)
              have HH : Hid (hitB vs outs (plTo vs outs i) i N (a' : Int) j = (decide ((i : Int) ≤ lastM vs outs j) && (decide ((plTo vs outs i).getD j 0 < (a' : Int) + N) && decide ((a' : Int) < (plTo vs outs i).getD j 0 + (vs.getD j Vl.zero).len)))) := rfl
              have R0 : Hid (hitB vs outs (plTo vs outs i) i N (a' : Int) j = false → b' = false → a' = a ∧ ∀ q, q < j + 1 → hitB vs outs (plTo vs outs i) i N (a : Int) q = false) := fun h hb => by
                obtain ⟨e, hq⟩ := hA.out hb
                subst e
                refine ⟨rfl, fun q hq2 => ?_⟩
                by_cases c : q < j
                · exact hq q c
                · obtain rfl : q = j := by omega
                  exact h
              generalize lastM vs outs j = L at cV hlr HH
              generalize (plTo vs outs i).getD j 0 = X at cU hbd HH HPU
              generalize (vs.getD j Vl.zero).len = M at y1 hbd hlj HH HPU
              by_cases t1 : (i : Int) ≤ L
              · by_cases t2 : X < (a' : Int) + N
                · by_cases t3 : (a' : Int) < X + M
                  · have hx : X + M ≤ (p : Int) := HPU.out (by rw [HH.out, decide_eq_true t1, decide_eq_true t2, decide_eq_true t3]; rfl)
                    have R : Hid (a < (X + M).toNat) := by
                      show _ < _
                      cases b'
                      · have := (hA.out rfl).1; omega
                      · have := hT.out rfl; omega
                    clear HH HPU R0 hA hT
                    go_wp2_with fail
                    go_region
                    all_goals
                      go_wp2
                      go_roundw
                      case rel => exact ⟨(X + M).toNat, true, j + 1, by congr 1; omega, rfl, by go_num, by omega, by omega, (fun h => by cases h), (fun _ => R.out), hP3.out.keep (kept_drew _), Kept.drew hK3.out⟩
                      case measure => simp [intOf]; omega
                  · have R : Hid _ := R0.out (by rw [HH.out, decide_eq_false t3]; simp)
                    clear HH HPU R0 hA
                    go_wp2_with fail
                    go_region
                    all_goals
                      go_wp2
                      go_roundw
                      case rel => exact ⟨a', b', j + 1, rfl, rfl, by go_num, by omega, ha', R, hT, hP3.out.keep (kept_drew _), Kept.drew hK3.out⟩
                      case measure => simp [intOf]; omega
                · have R : Hid _ := R0.out (by rw [HH.out, decide_eq_false t2]; simp)
                  clear HH HPU R0 hA
                  go_wp2_with fail
                  go_region
                  all_goals
                    go_wp2
                    go_roundw
                    case rel => exact ⟨a', b', j + 1, rfl, rfl, by go_num, by omega, ha', R, hT, hP3.out.keep (kept_drew _), Kept.drew hK3.out⟩
                    case measure => simp [intOf]; omega
              · have R : Hid _ := R0.out (by rw [HH.out, decide_eq_false t1]; rfl)
                clear HH HPU R0 hA
                go_wp2_with fail
                go_region
                all_goals
                  go_wp2
                  go_roundw
                  case rel => exact ⟨a', b', j + 1, rfl, rfl, by go_num, by omega, ha', R, hT, hP3.out.keep (kept_drew _), Kept.drew hK3.out⟩
                  case measure => simp [intOf]; omega
            · obtain rfl : j = i := by omega
              have R : Hid (b' = false → freeB vs outs (plTo vs outs j) j N (a' : Int) = true) := fun h => by
                obtain ⟨e, hq⟩ := hA.out h
                subst e
                exact free_step hq
              have R2 : Hid (2 * (60000 - a') + boolN (.bool b') < 2 * (60000 - a) + 1) := by
                show _ < _
                cases b'
                · have := (hA.out rfl).1
                  simp [boolN]; omega
                · have := hT.out rfl
                  simp [boolN]; omega
              clear hA hT
              go_wp2
              go_roundw
              case rel => exact ⟨a', b', rfl, rfl, ha', R, hP3, hK3⟩
              case measure => simpa [intOf, boolN] using R2.out
    · obtain rfl : i = n2 := by omega
      obtain ⟨a, cap, rfl⟩ := own_form hP.out.pu
      have R : Hid _ := own_is hP.out.pu (plTo_len _ _ _)
      have R2 : Hid _ := HK.out.trans hK.out
      clear hP hK
      go_wp2
      go_ret
      exact ⟨a, cap, rfl, R.out, R2.out⟩
end Go.Proofs.Ytdkjdlimcnddkaa
