import Derived.Test.YtdkjdlimcnddkaaA43
namespace Go.Proofs.Ytdkjdlimcnddkaa
open Go.RowKit Flt

/-! Which cells are held while Plan lays the values: pure. -/
theorem FL.congr {N : Int} {l : List Spn} {H H' : Int → Prop} (f : FL N l H) (h : ∀ c, H c ↔ H' c) : FL N l H' :=
  ⟨f.runs, fun c h0 h1 => by rw [← h c]; exact f.free c h0 h1, f.top⟩
def spanOf (vs : List Vl) (ps : List Int) (j : Nat) : Spn := ⟨ps.getD j 0, (vs.getD j Vl.zero).len⟩
/-- The runs l are free but for the values of T, no two of which share a cell. -/
structure PlI (vs : List Vl) (ps : List Int) (l : List Spn) (T : Nat → Prop) : Prop where
  fl : FL 50000 l (fun c => ∃ j, T j ∧ inS (spanOf vs ps j) c)
  dis : ∀ j j', T j → T j' → j ≠ j' → ∀ c, inS (spanOf vs ps j) c → ¬ inS (spanOf vs ps j') c
theorem PlI.congr {vs : List Vl} {ps : List Int} {l : List Spn} {T T' : Nat → Prop} (f : PlI vs ps l T) (h : ∀ j, T j ↔ T' j) : PlI vs ps l T' :=
  ⟨f.fl.congr (fun c => by constructor <;> (rintro ⟨j, h1, h2⟩; first | exact ⟨j, (h j).1 h1, h2⟩ | exact ⟨j, (h j).2 h1, h2⟩)), fun j j' h1 h2 => f.dis j j' ((h j).2 h1) ((h j').2 h2)⟩
theorem pl_start (vs : List Vl) (ps : List Int) : PlI vs ps [Spn.mk 0 50000] (fun _ => False) where
  fl := ⟨⟨Int.le_refl _, by decide, trivial⟩, fun c h0 h1 => ⟨fun _ => ⟨_, List.mem_singleton.2 rfl, h0, by show c < 0 + 50000; omega⟩, fun _ h => by obtain ⟨_, h, _⟩ := h; exact h⟩, fun s hs => by rw [List.mem_singleton] at hs; subst hs; decide⟩
  dis := fun _ _ h => h.elim
theorem pl_fix (vs : List Vl) (outs : List Int) {i j : Nat} (h : j < i) : ∀ n, i ≤ n → (plTo vs outs n).getD j 0 = (plTo vs outs i).getD j 0 := fun n => by
  induction n with
  | zero => intro hi; omega
  | succ n ih =>
    intro hi
    by_cases e : i = n + 1
    · rw [e]
    · rw [plTo_lt vs outs (show j < n by omega)]; exact ih (by omega)
theorem runs_many {lo N : Int} : ∀ {l : List Spn}, RunsF lo l → (∀ s ∈ l, s.off + s.len ≤ N) → lo ≤ N → (l.length : Int) ≤ N - lo + 1
  | [], _, _, h => by simp; omega
  | s :: r, f, ht, h => by
    have h1 := ht s List.mem_cons_self
    have h2 := f.1
    have h3 := f.2.1
    have h4 := runs_many (lo := s.off + s.len) (N := N) (l := r) (RunsF.mono (by omega) f.2.2) (fun t h => ht t (List.mem_cons_of_mem _ h)) h1
    rw [List.length_cons]
    omega
theorem PlI.few {vs : List Vl} {ps : List Int} {l : List Spn} {T : Nat → Prop} (f : PlI vs ps l T) : l.length ≤ 60000 := by
  have := runs_many f.fl.runs f.fl.top (by decide)
  omega
/-- The value i is laid by first fit. -/
theorem pl_take {vs : List Vl} {outs : List Int} {n i : Nat} {l : List Spn} (hl : ∀ k, k < n → 1 ≤ (vs.getD k Vl.zero).len) (hs : sumL vs n ≤ 50000) (hi : i < n)
    (f : PlI vs (plTo vs outs n) l (fun j => j < i ∧ (i : Int) ≤ lastM vs outs j)) :
    ∃ k, firstFit (vs.getD i Vl.zero).len l = some k ∧ Spn.mk (l.getD k Spn.zero).off (vs.getD i Vl.zero).len = spanOf vs (plTo vs outs n) i ∧ PlI vs (plTo vs outs n) (takeL l k (vs.getD i Vl.zero).len) (fun j => (j < i ∧ (i : Int) ≤ lastM vs outs j) ∨ j = i) := by
  obtain ⟨a, ha, has, hfree, hleast⟩ := pl_least (outs := outs) hl hs hi
  have hP : (plTo vs outs n).getD i 0 = a := by
    rw [pl_fix vs outs (Nat.lt_succ_self i) n hi, plTo_at]; exact ha
  have hb := pl_bound (outs := outs) hl hs n (Nat.le_refl _) i hi
  have hsn := sumL_mono hl (i := i + 1) (j := n) (by omega) (by omega)
  have h1 := hl i hi
  obtain ⟨m, hm⟩ := Int.eq_ofNat_of_zero_le (show 0 ≤ (vs.getD i Vl.zero).len by omega)
  rw [hP] at hb
  rw [hm] at hfree hleast hb h1 ⊢
  -- a place is free in the model's sense if its cells are
  have key : ∀ b : Nat, freeB vs outs (plTo vs outs i) i (m : Int) (b : Int) = true ↔ ∀ c : Int, (b : Int) ≤ c → c < b + m → ¬ ∃ j, (j < i ∧ (i : Int) ≤ lastM vs outs j) ∧ inS (spanOf vs (plTo vs outs n) j) c := fun b => by
    unfold freeB
    rw [List.all_eq_true]
    constructor
    · intro h c c1 c2
      rintro ⟨j, ⟨j1, j2⟩, hc⟩
      have hj := h j (List.mem_range.2 j1)
      unfold inS spanOf at hc
      simp only at hc
      rw [pl_fix vs outs j1 n (by omega)] at hc
      unfold hitB at hj
      rw [decide_eq_true j2, decide_eq_true (show (plTo vs outs i).getD j 0 < (b : Int) + m by omega), decide_eq_true (show (b : Int) < (plTo vs outs i).getD j 0 + (vs.getD j Vl.zero).len by omega)] at hj
      simp at hj
    · intro h j hj
      have j1 := List.mem_range.1 hj
      cases hh : hitB vs outs (plTo vs outs i) i m b j with
      | false => rfl
      | true =>
        exfalso
        unfold hitB at hh
        simp only [Bool.and_eq_true, decide_eq_true_eq] at hh
        obtain ⟨e1, e2, e3⟩ := hh
        have hlj := hl j (by omega)
        by_cases cc : (plTo vs outs i).getD j 0 ≤ (b : Int)
        · refine h b (Int.le_refl _) (by omega) ⟨j, ⟨j1, e1⟩, ?_⟩
          unfold inS spanOf
          simp only
          rw [pl_fix vs outs j1 n (by omega)]
          omega
        · refine h ((plTo vs outs i).getD j 0) (by omega) (by omega) ⟨j, ⟨j1, e1⟩, ?_⟩
          unfold inS spanOf
          simp only
          rw [pl_fix vs outs j1 n (by omega)]
          omega
  have hfc := (key a).1 hfree
  obtain ⟨k, hk⟩ := fit_there f.fl (n := m) (by omega) (a := a) (by omega) (by omega) hfc
  obtain ⟨q1, q2, q3⟩ := fit_some hk
  obtain ⟨g1, g2⟩ := fit_least f.fl (n := m) (by omega) hk
  have g3 := g2 a (by omega) (by omega) hfc
  have hmem : l.getD k Spn.zero ∈ l := by
    rw [List.getD_eq_getElem?_getD, List.getElem?_eq_getElem q1]; exact List.getElem_mem _
  have hrm := RunsF.mem f.fl.runs _ hmem
  obtain ⟨o, ho⟩ := Int.eq_ofNat_of_zero_le hrm.1
  have hoa : o = a := by
    rw [ho] at g1 g3
    have g4 := (key o).2 g1
    rcases Nat.lt_or_ge o a with h | h
    · rw [hleast o h] at g4; cases g4
    · omega
  subst hoa
  refine ⟨k, hk, ?_, ?_⟩
  · unfold spanOf
    rw [hP, ho, hm]
  · obtain ⟨s, hse⟩ : ∃ s, s = l.getD k Spn.zero := ⟨_, rfl⟩
    have hsp : l = l.take k ++ s :: l.drop (k + 1) := by
      have h1 : l.drop k = s :: l.drop (k + 1) := by
        rw [List.drop_eq_getElem_cons q1]
        congr 1
        rw [hse, List.getD_eq_getElem?_getD, List.getElem?_eq_getElem q1]
        rfl
      rw [← h1, List.take_append_drop]
    have f' := f.fl
    rw [hsp] at f'
    rw [← hse] at ho q2
    have ft := fl_take f' (n := m) (by omega) q2
    have heq : ∀ c, inS (spanOf vs (plTo vs outs n) i) c ↔ s.off ≤ c ∧ c < s.off + m := fun c => by
      unfold inS spanOf
      simp only
      rw [hP, ho, hm]
    refine ⟨?_, ?_⟩
    · unfold takeL
      rw [← hse]
      refine FL.congr ft (fun c => ?_)
      constructor
      · rintro (⟨j, hj, hc⟩ | hc)
        · exact ⟨j, .inl hj, hc⟩
        · exact ⟨i, .inr rfl, (heq c).2 hc⟩
      · rintro ⟨j, hj | rfl, hc⟩
        · exact .inl ⟨j, hj, hc⟩
        · exact .inr ((heq c).1 hc)
    · have hno : ∀ j, (j < i ∧ (i : Int) ≤ lastM vs outs j) → ∀ c, inS (spanOf vs (plTo vs outs n) j) c → ¬ inS (spanOf vs (plTo vs outs n) i) c := fun j hj c hc hi' => by
        have h2 := (heq c).1 hi'
        rw [ho] at h2
        exact hfc c h2.1 h2.2 ⟨j, hj, hc⟩
      rintro j j' (hj | rfl) (hj' | rfl) hne c hc hc'
      · exact f.dis j j' hj hj' hne c hc hc'
      · exact hno j hj c hc hc'
      · exact hno j' hj' c hc' hc
      · exact hne rfl
/-- A value is given back. -/
theorem pl_rel {vs : List Vl} {ps : List Int} {p r : List Spn} {T : Nat → Prop} {x : Spn} {j0 : Nat} (f : PlI vs ps (p ++ r) T) (hj : T j0) (hx : spanOf vs ps j0 = x) (h1 : 1 ≤ x.len) (h0 : 0 ≤ x.off) (hN : x.off + x.len ≤ 50000) (hp : ∀ s ∈ p, s.off < x.off) (hr : ∀ s ∈ r, x.off ≤ s.off) :
    PlI vs ps (relF p x r) (fun j => T j ∧ j ≠ j0) := by
  have h := fl_release f.fl h1 h0 hN (fun c hc => ⟨j0, hj, by rw [hx]; exact hc⟩) hp hr
  refine ⟨FL.congr h fun c => ?_, fun j j' h1 h2 => f.dis j j' h1.1 h2.1⟩
  constructor
  · rintro ⟨⟨j, h1, h2⟩, h3⟩
    refine ⟨j, ⟨h1, fun e => h3 ?_⟩, h2⟩
    rw [← hx, ← e]; exact h2
  · rintro ⟨j, ⟨h1, h2⟩, h3⟩
    refine ⟨⟨j, h1, h3⟩, fun h4 => ?_⟩
    rw [← hx] at h4
    exact f.dis j j0 h1 hj h2 c h3 h4
/-- The last of the first i values that uses j, or j itself. -/
def effT (vs : List Vl) (i j : Nat) : Int := if lastTo vs j (i - (j + 1)) = -1 then (j : Int) else lastTo vs j (i - (j + 1))
def doneL (vs : List Vl) (outs : List Int) (n b : Nat) : List Int := ((List.range n).filter fun j => effT vs vs.length j == (b : Int) && !isO outs j).map fun (j : Nat) => (j : Int)
theorem lastTo_ge (vs : List Vl) (j : Nat) : ∀ m, lastTo vs j m = -1 ∨ ((j : Int) + 1 ≤ lastTo vs j m ∧ lastTo vs j m ≤ (j : Int) + m)
  | 0 => .inl rfl
  | m + 1 => by
    unfold lastTo
    split
    · exact .inr (by omega)
    · rcases lastTo_ge vs j m with h | h
      · exact .inl h
      · exact .inr (by omega)
theorem eff_ge (vs : List Vl) (i j : Nat) (h : j < i) : (j : Int) ≤ effT vs i j ∧ effT vs i j < i := by
  unfold effT
  rcases lastTo_ge vs j (i - (j + 1)) with e | e
  · rw [if_pos e]; omega
  · rw [if_neg (by omega)]; omega
/-- Behind the releases at i just the values that are needed later are held. -/
theorem held_next {vs : List Vl} {outs : List Int} {i : Nat} (hi : i < vs.length) (j : Nat) :
    (((j < i ∧ (i : Int) ≤ lastM vs outs j) ∨ j = i) ∧ ¬ (effT vs vs.length j = (i : Int) ∧ isO outs j = false)) ↔ (j < i + 1 ∧ ((i + 1 : Nat) : Int) ≤ lastM vs outs j) := by
  have hge := lastTo_ge vs j (vs.length - (j + 1))
  unfold lastM effT
  generalize lastTo vs j (vs.length - (j + 1)) = L at hge
  cases ho : isO outs j
  · simp only [Bool.false_eq_true, if_false, and_true]
    rcases hge with e | e
    · rw [if_pos e]; omega
    · rw [if_neg (by omega)]; omega
  · simp only [if_true, Bool.true_eq_false, and_false, not_false_eq_true, and_true]
    omega
end Go.Proofs.Ytdkjdlimcnddkaa

namespace Go.Proofs.Ytdkjdlimcnddkaa
open Go.RowKit Flt
theorem FRw.len1 {W : World} {g cap : Nat} {pre post : List Spn} {y : Spn} (f : FRw W g cap (pre ++ y :: post)) (z : Int) : FRw (W.setCell ⟨g, pre.length * 2 + 1, none⟩ (.int .i64 z)) g cap (pre ++ ⟨y.off, z⟩ :: post) := by
  have hx : (Spn.mk y.off z).cells.length = 2 := rfl
  have hy : y.cells.length = 2 := rfl
  have h := f.core (pre.length * 2 + 1) [.int .i64 z] (pre ++ ⟨y.off, z⟩ :: post) (by have := f.le; simp only [List.length_append, List.length_cons] at this ⊢; exact this) (by have := f.le; simp only [List.length_append, List.length_cons, List.length_nil] at this ⊢; omega) (fun j u hu => by
    rw [flatP_append] at hu ⊢
    by_cases hj : j < pre.length * 2
    · rw [List.getElem?_append_left (by rw [flatP_len]; exact hj)] at hu
      exact .inr ⟨by omega, by rw [List.getElem?_append_left (by rw [flatP_len]; exact hj)]; exact hu⟩
    · rw [List.getElem?_append_right (by rw [flatP_len]; omega), flatP_len, flatP] at hu
      by_cases h2 : j < pre.length * 2 + 2
      · rw [List.getElem?_append_left (by rw [hx]; omega)] at hu
        rcases (by omega : j = pre.length * 2 ∨ j = pre.length * 2 + 1) with e | e
        · subst e
          refine .inr ⟨by simp only [List.length_cons, List.length_nil]; omega, ?_⟩
          rw [List.getElem?_append_right (by rw [flatP_len]; omega), flatP_len, flatP, List.getElem?_append_left (by rw [hy]; omega)]
          rw [Nat.sub_self] at hu ⊢
          exact hu
        · subst e
          refine .inl ⟨by omega, by simp only [List.length_cons, List.length_nil]; omega, ?_⟩
          rw [show pre.length * 2 + 1 - pre.length * 2 = 1 by omega] at hu
          rw [Nat.sub_self]
          exact hu
      · rw [List.getElem?_append_right (by rw [hx]; omega), hx] at hu
        refine .inr ⟨by simp only [List.length_cons, List.length_nil]; omega, ?_⟩
        rw [List.getElem?_append_right (by rw [flatP_len]; omega), flatP_len, flatP, List.getElem?_append_right (by rw [hy]; omega), hy]
        exact hu)
  exact h
set_option maxRecDepth 100000 in
set_option maxHeartbeats 4000000 in
theorem join_end (w : World) (R g cap i : Nat) (y0 : w.cell? ⟨R, 0, none⟩ = some (.slice (some ⟨g, 0, none⟩) (i + 1) cap)) (hb : i ≤ 1000000) :
    Calls Try.prog 144 #[.pointer (some ⟨R, 0, none⟩), .int .i64 (i : Int)] w fun e w' => e = .returned (.tuple #[]) ∧ Kept 0 0 w w' := by
  have hd0 : decide ((i : Int) < 0) = false := decide_eq_false (by omega)
  have hw1 : IntKind.i64.wrap ((i : Int) + 1) = (i : Int) + 1 := by rw [IntKind.wrap_i64]; omega
  go_enter Try.func144, Try.ntmps144
  go_wp2_with fail
  go_quiet (fail)
  go_wp2_with fail
  refine bodyPost_ret (v := .tuple #[]) (by simp [results, Try.results144, go_sem]) rfl ?_
  exact ⟨rfl, kept_drewN 0 0 w _⟩
set_option maxRecDepth 100000 in
set_option maxHeartbeats 4000000 in
theorem join_apart (w : World) (R g cap i n : Nat) (s t : Spn) (y0 : w.cell? ⟨R, 0, none⟩ = some (.slice (some ⟨g, 0, none⟩) n cap)) (hi : i + 1 < n) (hb : n ≤ 1000001)
    (y1 : w.cell? ⟨g, i * 2, none⟩ = some (.int .i64 s.off)) (y2 : w.cell? ⟨g, i * 2 + 1, none⟩ = some (.int .i64 s.len)) (y3 : w.cell? ⟨g, (i + 1) * 2, none⟩ = some (.int .i64 t.off)) (hR : R < w.heap.size) (hg : g < w.heap.size)
    (hs : -1000000 ≤ s.off + s.len ∧ s.off + s.len ≤ 1000000) (hne : ¬ s.off + s.len = t.off) :
    Calls Try.prog 144 #[.pointer (some ⟨R, 0, none⟩), .int .i64 (i : Int)] w fun e w' => e = .returned (.tuple #[]) ∧ Kept 0 0 w w' := by
  have hd0 : decide ((i : Int) < 0) = false := decide_eq_false (by omega)
  have hd1 : ((i : Int) + 1 == (n : Int)) = false := by simp; omega
  have hd2 : (s.off + s.len == t.off) = false := by simp; exact hne
  have hw1 : IntKind.i64.wrap ((i : Int) + 1) = (i : Int) + 1 := by rw [IntKind.wrap_i64]; omega
  have hi1 : (0 : Int) ≤ (i : Int) := by omega
  have hi2 : (i : Int) < (n : Int) := by omega
  have hi3 : (0 : Int) ≤ (i : Int) + 1 := by omega
  have hi4 : (i : Int) + 1 < (n : Int) := by omega
  have HE : Hid (∀ W, _) := fun W => spanEnd W s hs
  have HR : Hid _ := hR
  have HG : Hid _ := hg
  clear hR hg hs hi hb hne
  go_enter Try.func144, Try.ntmps144
  go_wp2_with fail
  go_region_held3 (fun w' => w'.cell? ⟨R, 0, none⟩ = some (.slice (some ⟨g, 0, none⟩) n cap) ∧ w'.cell? ⟨g, i * 2, none⟩ = some (.int .i64 s.off) ∧ w'.cell? ⟨g, i * 2 + 1, none⟩ = some (.int .i64 s.len) ∧ w'.cell? ⟨g, (i + 1) * 2, none⟩ = some (.int .i64 t.off)) (go_keep)
    (first | (go_at_call 51; refine Calls.mono (HE.out _) ?_; rintro e w2 ⟨rfl, k2'⟩; have k2 := (kept_drew w).trans k2'; have t0 : w2.cell? ⟨R, 0, none⟩ = some (.slice (some ⟨g, 0, none⟩) n cap) := (by rw [k2.cell (p := ⟨R, 0, none⟩) HR.out (by omega)]; exact y0); have t1 : w2.cell? ⟨g, i * 2, none⟩ = some (.int .i64 s.off) := (by rw [k2.cell (p := ⟨g, i * 2, none⟩) HG.out (by omega)]; exact y1); have t2 : w2.cell? ⟨g, i * 2 + 1, none⟩ = some (.int .i64 s.len) := (by rw [k2.cell (p := ⟨g, i * 2 + 1, none⟩) HG.out (by omega)]; exact y2); have t3 : w2.cell? ⟨g, (i + 1) * 2, none⟩ = some (.int .i64 t.off) := (by rw [k2.cell (p := ⟨g, (i + 1) * 2, none⟩) HG.out (by omega)]; exact y3)))
  all_goals
    go_wp2_with fail
    refine bodyPost_ret (v := .tuple #[]) (by simp [results, Try.results144, go_sem]) rfl ?_
    exact ⟨rfl, k2⟩
end Go.Proofs.Ytdkjdlimcnddkaa
