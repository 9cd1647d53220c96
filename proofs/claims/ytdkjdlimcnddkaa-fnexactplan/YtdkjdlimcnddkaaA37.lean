import Derived.Test.YtdkjdlimcnddkaaA30
import Derived.Test.YtdkjdlimcnddkaaA15
import Derived.Deep.RegionWith
import Derived.Deep.RegionHeld3
namespace Go.Proofs.Ytdkjdlimcnddkaa
open Go.RowKit Flt

/-! Free cells as runs that do not touch. -/
/-- Is a cell in a run? -/
def inS (s : Spn) (c : Int) : Prop := s.off ≤ c ∧ c < s.off + s.len
/-- Runs in order, none of which touches the next, all from lo on. -/
def RunsF : Int → List Spn → Prop
  | _, [] => True
  | lo, s :: r => lo ≤ s.off ∧ 1 ≤ s.len ∧ RunsF (s.off + s.len + 1) r
theorem RunsF.mono {lo lo' : Int} (h : lo' ≤ lo) : ∀ {l : List Spn}, RunsF lo l → RunsF lo' l
  | [], _ => trivial
  | _ :: _, f => ⟨Int.le_trans h f.1, f.2.1, f.2.2⟩
theorem RunsF.mem {lo : Int} : ∀ {l : List Spn}, RunsF lo l → ∀ s ∈ l, lo ≤ s.off ∧ 1 ≤ s.len
  | [], _, _, h => by cases h
  | t :: r, f, s, h => by
    rcases List.mem_cons.1 h with rfl | h
    · exact ⟨f.1, f.2.1⟩
    · have := RunsF.mem f.2.2 s h
      have := f.1
      have := f.2.1
      omega
/-- The free cells are those of the runs, and lie within N cells. -/
structure FL (N : Int) (l : List Spn) (H : Int → Prop) : Prop where
  runs : RunsF 0 l
  free : ∀ c, 0 ≤ c → c < N → (¬ H c ↔ ∃ s ∈ l, inS s c)
  top : ∀ s ∈ l, s.off + s.len ≤ N
/-- n cells in a row that are free lie in one run. -/
theorem run_one {lo : Int} : ∀ {l : List Spn}, RunsF lo l → ∀ {a : Int} {n : Nat}, (∀ k : Nat, k ≤ n → ∃ s ∈ l, inS s (a + k)) → ∃ s ∈ l, s.off ≤ a ∧ a + n < s.off + s.len
  | [], _, a, n, h => by
    obtain ⟨s, hs, _⟩ := h 0 (Nat.zero_le _)
    cases hs
  | t :: r, f, a, n, h => by
    by_cases c : inS t a
    · refine ⟨t, List.mem_cons_self, c.1, ?_⟩
      -- all further cells lie in t: the cell behind t is free of every run
      have key : ∀ k : Nat, k ≤ n → a + k < t.off + t.len := by
        intro k
        induction k with
        | zero => intro _; have := c.2; omega
        | succ k ih =>
          intro hk
          have h1 := ih (by omega)
          obtain ⟨s, hs, h2⟩ := h (k + 1) hk
          rcases List.mem_cons.1 hs with rfl | hs
          · have := h2.2; omega
          · have h3 := RunsF.mem f.2.2 s hs
            have h4 := h2.1
            omega
      have := key n (Nat.le_refl _)
      omega
    · by_cases c2 : t.off + t.len ≤ a
      · obtain ⟨s, hs, h1, h2⟩ := run_one f.2.2 (a := a) (n := n) (fun k hk => by
          obtain ⟨s, hs, h2⟩ := h k hk
          rcases List.mem_cons.1 hs with rfl | hs
          · have := h2.2; omega
          · exact ⟨s, hs, h2⟩)
        exact ⟨s, List.mem_cons_of_mem _ hs, h1, h2⟩
      · -- a lies ahead of t: then it is in no run
        obtain ⟨s, hs, h2⟩ := h 0 (Nat.zero_le _)
        have h20 : inS s a := by
          have e : a + ((0 : Nat) : Int) = a := by omega
          rw [e] at h2; exact h2
        rcases List.mem_cons.1 hs with rfl | hs
        · exact absurd h20 c
        · have h3 := RunsF.mem f.2.2 s hs
          have h4 := h20.1
          unfold inS at c
          omega
/-- Runs that come first have smaller offsets. -/
theorem runs_lt {lo : Int} : ∀ {l : List Spn}, RunsF lo l → ∀ {i j : Nat}, i < j → j < l.length → (l.getD i Spn.zero).off + (l.getD i Spn.zero).len < (l.getD j Spn.zero).off
  | [], _, i, j, _, hj => by simp at hj
  | t :: r, f, 0, j + 1, _, hj => by
    have hj' : j < r.length := by simpa using hj
    have hm : r.getD j Spn.zero ∈ r := by
      rw [List.getD_eq_getElem?_getD, List.getElem?_eq_getElem hj']; exact List.getElem_mem _
    have h := RunsF.mem f.2.2 _ hm
    show t.off + t.len < (r.getD j Spn.zero).off
    omega
  | t :: r, f, i + 1, j + 1, hij, hj => runs_lt f.2.2 (i := i) (j := j) (by omega) (by simpa using hj)
/-- The first run that is long enough. -/
def firstFit (n : Int) : List Spn → Option Nat
  | [] => none
  | s :: r => if n ≤ s.len then some 0 else (firstFit n r).map (· + 1)
theorem fit_some {n : Int} : ∀ {l : List Spn} {k : Nat}, firstFit n l = some k → k < l.length ∧ n ≤ (l.getD k Spn.zero).len ∧ ∀ j, j < k → (l.getD j Spn.zero).len < n
  | [], k, h => by cases h
  | s :: r, k, h => by
    unfold firstFit at h
    by_cases c : n ≤ s.len
    · rw [if_pos c] at h
      injection h with h
      subst h
      exact ⟨by simp, c, fun j hj => by omega⟩
    · rw [if_neg c] at h
      cases hr : firstFit n r with
      | none => rw [hr] at h; cases h
      | some q =>
        rw [hr] at h
        simp only [Option.map_some] at h
        injection h with h
        subst h
        obtain ⟨h1, h2, h3⟩ := fit_some hr
        refine ⟨by simpa using h1, h2, fun j hj => ?_⟩
        cases j with
        | zero => show s.len < n; omega
        | succ j => exact h3 j (by omega)
theorem fit_none {n : Int} : ∀ {l : List Spn}, firstFit n l = none → ∀ s ∈ l, s.len < n
  | [], _, s, hs => by cases hs
  | t :: r, h, s, hs => by
    unfold firstFit at h
    by_cases c : n ≤ t.len
    · rw [if_pos c] at h; cases h
    · rw [if_neg c] at h
      have hr : firstFit n r = none := by
        cases hr : firstFit n r with
        | none => rfl
        | some q => rw [hr] at h; cases h
      rcases List.mem_cons.1 hs with rfl | hs
      · omega
      · exact fit_none hr s hs
/-- The first run that is long enough starts at the smallest free place. -/
theorem fit_least {N : Int} {l : List Spn} {H : Int → Prop} (f : FL N l H) {n : Nat} (hn : 1 ≤ n) {k : Nat} (hk : firstFit n l = some k) :
    (∀ c, (l.getD k Spn.zero).off ≤ c → c < (l.getD k Spn.zero).off + n → ¬ H c) ∧ ∀ a : Int, 0 ≤ a → a + n ≤ N → (∀ c, a ≤ c → c < a + n → ¬ H c) → (l.getD k Spn.zero).off ≤ a := by
  obtain ⟨h1, h2, h3⟩ := fit_some hk
  have hm : l.getD k Spn.zero ∈ l := by
    rw [List.getD_eq_getElem?_getD, List.getElem?_eq_getElem h1]; exact List.getElem_mem _
  have hr := RunsF.mem f.runs _ hm
  have ht := f.top _ hm
  refine ⟨fun c c1 c2 => (f.free c (by omega) (by omega)).2 ⟨_, hm, c1, by omega⟩, fun a ha1 ha2 ha3 => ?_⟩
  obtain ⟨s, hs, g1, g2⟩ := run_one f.runs (a := a) (n := n - 1) (fun q hq => (f.free (a + q) (by omega) (by omega)).1 (ha3 (a + q) (by omega) (by omega)))
  obtain ⟨j, hj, e⟩ := List.getElem_of_mem hs
  have e' : l.getD j Spn.zero = s := by rw [List.getD_eq_getElem?_getD, List.getElem?_eq_getElem hj]; exact e
  rcases Nat.lt_trichotomy j k with c | c | c
  · have := h3 j c
    rw [e'] at this
    omega
  · subst c
    rw [e']; omega
  · have := runs_lt f.runs c hj
    rw [e'] at this
    omega
/-- There is one. -/
theorem fit_there {N : Int} {l : List Spn} {H : Int → Prop} (f : FL N l H) {n : Nat} (hn : 1 ≤ n) {a : Int} (ha1 : 0 ≤ a) (ha2 : a + n ≤ N) (ha3 : ∀ c, a ≤ c → c < a + n → ¬ H c) : ∃ k, firstFit n l = some k := by
  obtain ⟨s, hs, g1, g2⟩ := run_one f.runs (a := a) (n := n - 1) (fun q hq => (f.free (a + q) (by omega) (by omega)).1 (ha3 (a + q) (by omega) (by omega)))
  cases hk : firstFit n l with
  | some k => exact ⟨k, rfl⟩
  | none =>
    have := fit_none hk s hs
    omega
end Go.Proofs.Ytdkjdlimcnddkaa

namespace Go.Proofs.Ytdkjdlimcnddkaa
open Go.RowKit Flt

/-- Behind which cell the next run may start. -/
def lastE (lo : Int) : List Spn → Int
  | [] => lo
  | s :: r => lastE (s.off + s.len + 1) r
theorem runs_app {lo : Int} : ∀ (p q : List Spn), RunsF lo (p ++ q) ↔ RunsF lo p ∧ RunsF (lastE lo p) q
  | [], q => by simp [RunsF, lastE]
  | s :: r, q => by
    have ih := runs_app (lo := s.off + s.len + 1) r q
    constructor
    · intro h
      have h' : lo ≤ s.off ∧ 1 ≤ s.len ∧ RunsF (s.off + s.len + 1) (r ++ q) := h
      exact ⟨⟨h'.1, h'.2.1, (ih.1 h'.2.2).1⟩, (ih.1 h'.2.2).2⟩
    · intro h
      have h1 : lo ≤ s.off ∧ 1 ≤ s.len ∧ RunsF (s.off + s.len + 1) r := h.1
      show lo ≤ s.off ∧ 1 ≤ s.len ∧ RunsF (s.off + s.len + 1) (r ++ q)
      exact ⟨h1.1, h1.2.1, ih.2 ⟨h1.2.2, h.2⟩⟩
theorem lastE_app {lo : Int} : ∀ (p : List Spn) (s : Spn), lastE lo (p ++ [s]) = s.off + s.len + 1
  | [], _ => rfl
  | _ :: r, s => lastE_app r s
/-- A run is cut at the front. -/
def cutS (s : Spn) (n : Int) : List Spn := if n < s.len then [⟨s.off + n, s.len - n⟩] else []
theorem fl_take {N : Int} {p r : List Spn} {s : Spn} {H : Int → Prop} (f : FL N (p ++ s :: r) H) {n : Int} (hn : 1 ≤ n) (hs : n ≤ s.len) : FL N (p ++ cutS s n ++ r) (fun c => H c ∨ (s.off ≤ c ∧ c < s.off + n)) := by
  have hruns := (runs_app p (s :: r)).1 f.runs
  obtain ⟨hp, h1, h2, h3⟩ := hruns
  have hsm : s ∈ p ++ s :: r := List.mem_append_right _ List.mem_cons_self
  have htop := f.top s hsm
  refine ⟨?_, ?_, ?_⟩
  · rw [List.append_assoc, runs_app]
    refine ⟨hp, ?_⟩
    unfold cutS
    split
    · refine ⟨?_, ?_, ?_⟩
      · show lastE 0 p ≤ s.off + n; omega
      · show 1 ≤ s.len - n; omega
      · have e : (s.off + n) + (s.len - n) + 1 = s.off + s.len + 1 := by omega
        show RunsF ((s.off + n) + (s.len - n) + 1) r
        rw [e]; exact h3
    · exact RunsF.mono (by omega) h3
  · intro c c0 cN
    have hf := f.free c c0 cN
    constructor
    · intro hh
      have hH : ¬ H c := fun h => hh (.inl h)
      have hns : ¬ (s.off ≤ c ∧ c < s.off + n) := fun h => hh (.inr h)
      obtain ⟨t, ht, hc⟩ := hf.1 hH
      rcases List.mem_append.1 ht with ht | ht
      · exact ⟨t, List.mem_append_left _ (List.mem_append_left _ ht), hc⟩
      · rcases List.mem_cons.1 ht with rfl | ht
        · have := hc.1
          have := hc.2
          refine ⟨⟨t.off + n, t.len - n⟩, List.mem_append_left _ (List.mem_append_right _ ?_), ?_⟩
          · unfold cutS
            rw [if_pos (by omega)]
            exact List.mem_singleton.2 rfl
          · unfold inS
            simp only
            omega
        · exact ⟨t, List.mem_append_right _ ht, hc⟩
    · rintro ⟨t, ht, hc⟩ hh
      -- t's cells were free, and are none of the first n
      have key : ∃ t', t' ∈ p ++ s :: r ∧ inS t' c := by
        rcases List.mem_append.1 ht with ht | ht
        · rcases List.mem_append.1 ht with ht | ht
          · exact ⟨t, List.mem_append_left _ ht, hc⟩
          · unfold cutS at ht
            split at ht
            · rw [List.mem_singleton] at ht
              subst ht
              refine ⟨s, hsm, ?_⟩
              unfold inS at hc ⊢
              simp only at hc
              omega
            · cases ht
        · exact ⟨t, List.mem_append_right _ (List.mem_cons_of_mem _ ht), hc⟩
      rcases hh with hh | hh
      · exact (hf.2 key) hh
      · rcases List.mem_append.1 ht with ht | ht
        · rcases List.mem_append.1 ht with ht | ht
          · -- t lies ahead of s
            have e : ∀ (q : List Spn) (lo : Int), RunsF lo q → t ∈ q → t.off + t.len + 1 ≤ lastE lo q := by
              intro q
              induction q with
              | nil => intro lo _ hm; cases hm
              | cons u v ih =>
                intro lo hr hm
                rcases List.mem_cons.1 hm with rfl | hm
                · show t.off + t.len + 1 ≤ lastE (t.off + t.len + 1) v
                  have mono : ∀ (q : List Spn) (lo : Int), RunsF lo q → lo ≤ lastE lo q := by
                    intro q
                    induction q with
                    | nil => intro lo _; exact Int.le_refl _
                    | cons a b ih2 =>
                      intro lo h
                      have h1 := ih2 _ h.2.2
                      have h2 := h.1
                      have h3 := h.2.1
                      show lo ≤ lastE (a.off + a.len + 1) b
                      omega
                  exact mono v _ hr.2.2
                · exact ih _ hr.2.2 hm
            have := e p 0 hp ht
            have := hc.2
            omega
          · unfold cutS at ht
            split at ht
            · rw [List.mem_singleton] at ht
              subst ht
              unfold inS at hc
              simp only at hc
              omega
            · cases ht
        · have := RunsF.mem h3 t ht
          have := hc.1
          omega
  · intro t ht
    rcases List.mem_append.1 ht with ht | ht
    · rcases List.mem_append.1 ht with ht | ht
      · exact f.top t (List.mem_append_left _ ht)
      · unfold cutS at ht
        split at ht
        · rw [List.mem_singleton] at ht
          subst ht
          show (s.off + n) + (s.len - n) ≤ N
          omega
        · cases ht
    · exact f.top t (List.mem_append_right _ (List.mem_cons_of_mem _ ht))
/-- Two runs are one if they touch. -/
def joinF (s : Spn) : List Spn → List Spn
  | [] => [s]
  | t :: r => if s.off + s.len = t.off then ⟨s.off, s.len + t.len⟩ :: r else s :: t :: r
/-- A run comes in between p and r, and is joined with what it touches. -/
def relF (p : List Spn) (x : Spn) (r : List Spn) : List Spn :=
  match p.getLast? with
  | some q => if q.off + q.len = x.off then p.dropLast ++ (match joinF x r with | [] => [] | y :: r' => ⟨q.off, q.len + y.len⟩ :: r') else p ++ joinF x r
  | none => joinF x r
theorem joinF_pos {x t : Spn} {r : List Spn} (e : x.off + x.len = t.off) : joinF x (t :: r) = ⟨x.off, x.len + t.len⟩ :: r := by
  show (if x.off + x.len = t.off then _ else _) = _
  rw [if_pos e]
theorem joinF_neg {x t : Spn} {r : List Spn} (e : ¬ x.off + x.len = t.off) : joinF x (t :: r) = x :: t :: r := by
  show (if x.off + x.len = t.off then _ else _) = _
  rw [if_neg e]
theorem joinF_runs {lo : Int} {x : Spn} {r : List Spn} (h0 : lo ≤ x.off) (h1 : 1 ≤ x.len) (hr : RunsF (x.off + x.len) r) : RunsF lo (joinF x r) := by
  cases r with
  | nil => exact ⟨h0, h1, trivial⟩
  | cons t r =>
    have hr' : x.off + x.len ≤ t.off ∧ 1 ≤ t.len ∧ RunsF (t.off + t.len + 1) r := hr
    show RunsF lo (if x.off + x.len = t.off then ⟨x.off, x.len + t.len⟩ :: r else x :: t :: r)
    by_cases e : x.off + x.len = t.off
    · rw [if_pos e]
      refine ⟨h0, ?_, ?_⟩
      · show 1 ≤ x.len + t.len
        omega
      · have e2 : x.off + (x.len + t.len) + 1 = t.off + t.len + 1 := by omega
        show RunsF (x.off + (x.len + t.len) + 1) r
        rw [e2]; exact hr'.2.2
    · rw [if_neg e]
      exact ⟨h0, h1, by omega, hr'.2.1, hr'.2.2⟩
theorem joinF_cells {x : Spn} {r : List Spn} (hx : 1 ≤ x.len) (hr : RunsF (x.off + x.len) r) (c : Int) : (∃ s ∈ joinF x r, inS s c) ↔ inS x c ∨ ∃ s ∈ r, inS s c := by
  cases r with
  | nil => simp [joinF]
  | cons t r =>
    have hr' : x.off + x.len ≤ t.off ∧ 1 ≤ t.len ∧ RunsF (t.off + t.len + 1) r := hr
    show (∃ s ∈ (if x.off + x.len = t.off then ⟨x.off, x.len + t.len⟩ :: r else x :: t :: r), inS s c) ↔ _
    by_cases e : x.off + x.len = t.off
    · rw [if_pos e]
      simp only [List.mem_cons, exists_eq_or_imp]
      have k : inS ⟨x.off, x.len + t.len⟩ c ↔ inS x c ∨ inS t c := by
        unfold inS; simp only; omega
      rw [k, or_assoc]
    · rw [if_neg e]
      simp only [List.mem_cons, exists_eq_or_imp]
theorem joinF_form (x : Spn) (r : List Spn) : ∃ y r', joinF x r = y :: r' ∧ y.off = x.off := by
  cases r with
  | nil => exact ⟨x, [], rfl, rfl⟩
  | cons t r =>
    by_cases e : x.off + x.len = t.off
    · rw [joinF_pos e]; exact ⟨_, _, rfl, rfl⟩
    · rw [joinF_neg e]; exact ⟨_, _, rfl, rfl⟩
theorem joinF_top {N : Int} {x : Spn} {r : List Spn} (h : x.off + x.len ≤ N) (hr : ∀ s ∈ r, s.off + s.len ≤ N) : ∀ s ∈ joinF x r, s.off + s.len ≤ N := by
  cases r with
  | nil => intro s hs; simp [joinF] at hs; subst hs; exact h
  | cons t r =>
    have ht := hr t List.mem_cons_self
    by_cases e : x.off + x.len = t.off
    · rw [joinF_pos e]
      intro s hs
      rcases List.mem_cons.1 hs with rfl | hs
      · show x.off + (x.len + t.len) ≤ N; omega
      · exact hr s (List.mem_cons_of_mem _ hs)
    · rw [joinF_neg e]
      intro s hs
      rcases List.mem_cons.1 hs with rfl | hs
      · exact h
      · exact hr s hs
theorem RunsF.from {lo b : Int} {r : List Spn} (h : RunsF lo r) (hb : ∀ s ∈ r, b ≤ s.off) : RunsF b r := by
  cases r with
  | nil => trivial
  | cons t r => exact ⟨hb t List.mem_cons_self, h.2.1, h.2.2⟩
/-- Given back: the cells of x are free again. -/
theorem fl_release {N : Int} {p r : List Spn} {x : Spn} {H : Int → Prop} (f : FL N (p ++ r) H) (h1 : 1 ≤ x.len) (h0 : 0 ≤ x.off) (hN : x.off + x.len ≤ N) (hx : ∀ c, inS x c → H c) (hp : ∀ s ∈ p, s.off < x.off) (hr : ∀ s ∈ r, x.off ≤ s.off) : FL N (relF p x r) (fun c => H c ∧ ¬ inS x c) := by
  have hruns := (runs_app p r).1 f.runs
  have hall := RunsF.mem f.runs
  -- a run's first and last cells are free, so they are none of x
  have hfree : ∀ s ∈ p ++ r, ∀ c, inS s c → ¬ inS x c := fun s hs c hc hxc => by
    have h2 := hall s hs
    have h3 := f.top s hs
    unfold inS at hc
    exact (f.free c (by omega) (by omega)).2 ⟨s, hs, hc⟩ (hx c hxc)
  have hrx : RunsF (x.off + x.len) r := RunsF.from hruns.2 (fun s hs => by
    have h2 := hall s (List.mem_append_right _ hs)
    have h3 := hr s hs
    have h4 := hfree s (List.mem_append_right _ hs) s.off ⟨Int.le_refl _, by omega⟩
    unfold inS at h4
    omega)
  have hpx : ∀ s ∈ p, s.off + s.len ≤ x.off := fun s hs => by
    have h2 := hall s (List.mem_append_left _ hs)
    have h3 := hp s hs
    by_cases c : s.off + s.len ≤ x.off
    · exact c
    · exact absurd (⟨by omega, by omega⟩ : inS x x.off) (hfree s (List.mem_append_left _ hs) x.off ⟨by omega, by omega⟩)
  have htr : ∀ s ∈ r, s.off + s.len ≤ N := fun s hs => f.top s (List.mem_append_right _ hs)
  have cells : ∀ c, 0 ≤ c → c < N → (¬ (H c ∧ ¬ inS x c) ↔ inS x c ∨ ∃ s ∈ p ++ r, inS s c) := fun c c0 cN => by
    have hf := f.free c c0 cN
    constructor
    · intro h
      by_cases hi : inS x c
      · exact .inl hi
      · exact .inr (hf.1 fun hh => h ⟨hh, hi⟩)
    · rintro (h | h) ⟨h3, h4⟩
      · exact h4 h
      · exact hf.2 h h3
  rcases List.eq_nil_or_concat p with rfl | ⟨p', q, rfl⟩
  · show FL N (joinF x r) _
    refine ⟨joinF_runs h0 h1 hrx, fun c c0 cN => ?_, joinF_top hN htr⟩
    rw [cells c c0 cN, joinF_cells h1 hrx]
    simp
  · rw [List.concat_eq_append] at *
    have hq : q ∈ p' ++ [q] := List.mem_append_right _ (List.mem_singleton.2 rfl)
    have hqx := hpx q hq
    have hq1 := (hall q (List.mem_append_left _ hq)).2
    obtain ⟨hp', hq2, _, _⟩ := (runs_app p' [q]).1 hruns.1
    have e : relF (p' ++ [q]) x r = if q.off + q.len = x.off then p' ++ (match joinF x r with | [] => [] | y :: r' => ⟨q.off, q.len + y.len⟩ :: r') else p' ++ [q] ++ joinF x r := by
      unfold relF
      rw [List.getLast?_append]
      simp
    rw [e]
    by_cases c : q.off + q.len = x.off
    · rw [if_pos c]
      obtain ⟨y, r', ej, ey⟩ := joinF_form x r
      rw [ej]
      have hj := joinF_runs (lo := x.off) (Int.le_refl _) h1 hrx
      have hjt := joinF_top hN htr
      have hjc := joinF_cells h1 hrx
      rw [ej] at hj hjt hjc
      have hj' : x.off ≤ y.off ∧ 1 ≤ y.len ∧ RunsF (y.off + y.len + 1) r' := hj
      refine ⟨?_, fun d d0 dN => ?_, ?_⟩
      · rw [runs_app]
        refine ⟨hp', hq2, ?_, ?_⟩
        · show 1 ≤ q.len + y.len; omega
        · have e2 : q.off + (q.len + y.len) + 1 = y.off + y.len + 1 := by omega
          show RunsF (q.off + (q.len + y.len) + 1) r'
          rw [e2]; exact hj'.2.2
      · rw [cells d d0 dN]
        have k : inS ⟨q.off, q.len + y.len⟩ d ↔ inS q d ∨ inS y d := by
          unfold inS; simp only; omega
        have kj := hjc d
        simp only [List.mem_cons, exists_eq_or_imp] at kj
        simp only [List.mem_append, List.mem_cons, List.not_mem_nil, or_false]
        constructor
        · rintro (h | ⟨t, ht, hc⟩)
          · rcases kj.2 (.inl h) with h | ⟨t, ht, hc⟩
            · exact ⟨_, .inr (.inl rfl), k.2 (.inr h)⟩
            · exact ⟨t, .inr (.inr ht), hc⟩
          · rcases ht with (ht | ht) | ht
            · exact ⟨t, .inl ht, hc⟩
            · subst ht
              exact ⟨_, .inr (.inl rfl), k.2 (.inl hc)⟩
            · rcases kj.2 (.inr ⟨t, ht, hc⟩) with h | ⟨t', ht', hc'⟩
              · exact ⟨_, .inr (.inl rfl), k.2 (.inr h)⟩
              · exact ⟨t', .inr (.inr ht'), hc'⟩
        · rintro ⟨t, ht | ht | ht, hc⟩
          · exact .inr ⟨t, .inl (.inl ht), hc⟩
          · subst ht
            rcases k.1 hc with h | h
            · exact .inr ⟨q, .inl (.inr rfl), h⟩
            · rcases kj.1 (.inl h) with h | ⟨t', ht', hc'⟩
              · exact .inl h
              · exact .inr ⟨t', .inr ht', hc'⟩
          · rcases kj.1 (.inr ⟨t, ht, hc⟩) with h | ⟨t', ht', hc'⟩
            · exact .inl h
            · exact .inr ⟨t', .inr ht', hc'⟩
      · intro t ht
        rcases List.mem_append.1 ht with ht | ht
        · exact f.top t (List.mem_append_left _ (List.mem_append_left _ ht))
        · rcases List.mem_cons.1 ht with rfl | ht
          · have := hjt y List.mem_cons_self
            show q.off + (q.len + y.len) ≤ N
            omega
          · exact hjt t (List.mem_cons_of_mem _ ht)
    · rw [if_neg c]
      refine ⟨?_, fun d d0 dN => ?_, ?_⟩
      · rw [runs_app, lastE_app]
        exact ⟨hruns.1, joinF_runs (by omega) h1 hrx⟩
      · rw [cells d d0 dN]
        have kj := joinF_cells h1 hrx d
        constructor
        · rintro (h | ⟨t, ht, hc⟩)
          · obtain ⟨t, ht, hc⟩ := kj.2 (.inl h)
            exact ⟨t, List.mem_append_right _ ht, hc⟩
          · rcases List.mem_append.1 ht with ht | ht
            · exact ⟨t, List.mem_append_left _ ht, hc⟩
            · obtain ⟨t', ht', hc'⟩ := kj.2 (.inr ⟨t, ht, hc⟩)
              exact ⟨t', List.mem_append_right _ ht', hc'⟩
        · rintro ⟨t, ht, hc⟩
          rcases List.mem_append.1 ht with ht | ht
          · exact .inr ⟨t, List.mem_append_left _ ht, hc⟩
          · rcases kj.1 ⟨t, ht, hc⟩ with h | ⟨t', ht', hc'⟩
            · exact .inl h
            · exact .inr ⟨t', List.mem_append_right _ ht', hc'⟩
      · intro t ht
        rcases List.mem_append.1 ht with ht | ht
        · exact f.top t (List.mem_append_left _ ht)
        · exact joinF_top hN htr t ht
end Go.Proofs.Ytdkjdlimcnddkaa

namespace Go.Proofs.Ytdkjdlimcnddkaa
open Go.RowKit Flt
attribute [local go_sem] alloc_drewN setCell_drewN run_store_float

def cmpI (x y : Int) : Int := if x < y then -1 else if y < x then 1 else 0
set_option maxHeartbeats 400000 in
theorem isNaNi (x : Int) (w : World) : Calls Try.prog 163 #[.int .i64 x] w fun e w' => e = .returned (.bool false) ∧ w' = w := by
  have h : (x != x) = false := by simp
  go_enter Try.func163, Try.ntmps163
  go_wp2
  go_ret
  exact ⟨rfl, rfl⟩
set_option maxRecDepth 100000 in
set_option maxHeartbeats 1000000 in
theorem cmpInt (x y : Int) (w : World) : Calls Try.prog 138 #[.int .i64 x, .int .i64 y] w fun e w' => e = .returned (.int .i64 (cmpI x y)) ∧ w' = w := by
  have HN : Hid (∀ x w, _) := fun x w => isNaNi x w
  rcases Int.lt_trichotomy x y with h | h | h
  · rw [show cmpI x y = -1 by unfold cmpI; rw [if_pos h]]
    go_enter Try.func138, Try.ntmps138
    go_wp2_with (first | (go_at_call 163; refine Calls.mono (HN.out _ _) ?_; rintro e w2 ⟨rfl, rfl⟩) | fail)
    go_ret
    exact ⟨rfl, rfl⟩
  · subst h
    rw [show cmpI x x = 0 by unfold cmpI; rw [if_neg (by omega), if_neg (by omega)]]
    have h1 : ¬ x < x := by omega
    go_enter Try.func138, Try.ntmps138
    go_wp2_with (first | (go_at_call 163; refine Calls.mono (HN.out _ _) ?_; rintro e w2 ⟨rfl, rfl⟩) | fail)
    go_ret
    exact ⟨rfl, rfl⟩
  · rw [show cmpI x y = 1 by unfold cmpI; rw [if_neg (by omega), if_pos h]]
    have h1 : ¬ x < y := by omega
    go_enter Try.func138, Try.ntmps138
    go_wp2_with (first | (go_at_call 163; refine Calls.mono (HN.out _ _) ?_; rintro e w2 ⟨rfl, rfl⟩) | fail)
    go_ret
    exact ⟨rfl, rfl⟩
set_option maxRecDepth 100000 in
set_option maxHeartbeats 1000000 in
theorem byOff (s t : Spn) (w : World) : Calls Try.prog 137 #[s.agg, t.agg] w fun e w' => e = .returned (.int .i64 (cmpI s.off t.off)) ∧ Kept 0 0 w w' := by
  have HC : Hid (∀ w, _) := fun w => cmpInt s.off t.off w
  have k := (kept_alloc 0 0 w s.box).trans (kept_alloc 0 0 _ t.box)
  go_enter Try.func137, Try.ntmps137
  go_wp2_with fail
  refine Calls.mono (HC.out _) ?_
  rintro e w2 ⟨rfl, rfl⟩
  go_wp2_with fail
  go_ret
  exact ⟨rfl, k⟩
set_option maxRecDepth 100000 in
set_option maxHeartbeats 1000000 in
theorem longF (s : Spn) (w : World) (g : Nat) (n : Int) (hg : g < w.heap.size) (hc : w.cell? ⟨g, 0, none⟩ = some (.int .i64 n)) : Calls Try.prog 140 #[s.agg, .pointer (some ⟨g, 0, none⟩)] w fun e w' => e = .returned (.bool (decide (n ≤ s.len))) ∧ Kept 0 0 w w' := by
  have k := kept_alloc 0 0 w s.box
  have hc2 : (w.alloc s.box).cell? ⟨g, 0, none⟩ = some (.int .i64 n) := by rw [k.cell (p := ⟨g, 0, none⟩) hg (by omega)]; exact hc
  go_enter Try.func140, Try.ntmps140
  go_wp2_with fail
  go_ret
  exact ⟨rfl, k⟩
set_option maxRecDepth 100000 in
set_option maxHeartbeats 2000000 in
theorem indexF (w : World) (lo hi : Nat) (a : Option Addr) (m c : Nat) (l : List Spn) (g : Nat) (n : Int) (hg : g < w.heap.size) (hc : w.cell? ⟨g, 0, none⟩ = some (.int .i64 n)) (f : PS w lo hi a m l) (hm : m ≤ 1000000) (k : Nat) (hk : firstFit n l = some k) :
    Calls Try.prog 142 #[.slice a m c, .func (.func 140) #[] #[.pointer (some ⟨g, 0, none⟩)]] w fun e w' => e = .returned (.int .i64 (k : Int)) ∧ Kept 0 0 w w' := by
  obtain ⟨h1, h2, h3⟩ := fit_some hk
  have HF : Hid _ := f
  have HC : Hid _ := hc
  have HL : Hid (l.length = m) := f.len
  have hkm : k < m := by rw [f.len] at h1; exact h1
  have HH : Hid (n ≤ (l.getD k Spn.zero).len ∧ ∀ j, j < k → (l.getD j Spn.zero).len < n) := ⟨h2, h3⟩
  clear f hc h1 h2 h3 hk
  go_enter Try.func142, Try.ntmps142
  go_wp2_with fail
  go_loopw [8] (fun i W => ∃ j : Nat, j ≤ k ∧ i = .int .i64 j ∧ Hid (Kept 0 0 w W)) (fun i _ => m - (intOf i).toNat)
  case atStart => exact ⟨0, Nat.zero_le _, rfl, Kept.refl _ _ _⟩
  case round =>
    obtain ⟨j, hj, rfl, hK⟩ := hrel
    have hjm : j < m := by omega
    rcases (HF.out.keep hK.out (.inr (.inr (Nat.le_refl _)))).at_ with z | ⟨ga, off, rfl, z1, z2, z3, z4⟩
    · omega
    have hat := z4 j hjm
    have HG : Hid (g < wr.heap.size ∧ wr.cell? ⟨g, 0, none⟩ = some (.int .i64 n)) := ⟨Nat.lt_of_lt_of_le hg hK.out.size, by rw [hK.out.cell (p := ⟨g, 0, none⟩) hg (by omega)]; exact HC.out⟩
    by_cases he : j = k
    · subst he
      have hl := HH.out.1
      generalize l.getD j Spn.zero = s at hat hl
      have HX : Hid _ := longF s wr g n HG.out.1 HG.out.2
      rw [decide_eq_true hl] at HX
      obtain ⟨y0, y1⟩ := hat
      clear z1 z2 z3 z4 hl
      go_wp2_with fail
      refine Calls.mono HX.out ?_
      rintro e w2 ⟨rfl, k2⟩
      have R : Hid _ := hK.out.trans k2
      clear k2 y0 y1
      go_wp2_with fail
      go_ret
      exact ⟨rfl, R.out⟩
    · have hl := HH.out.2 j (by omega)
      generalize l.getD j Spn.zero = s at hat hl
      have HX : Hid _ := longF s wr g n HG.out.1 HG.out.2
      rw [decide_eq_false (by omega)] at HX
      obtain ⟨y0, y1⟩ := hat
      clear z1 z2 z3 z4 hl
      go_wp2_with fail
      refine Calls.mono HX.out ?_
      rintro e w2 ⟨rfl, k2⟩
      have R : Hid _ := hK.out.trans k2
      clear k2 y0 y1
      go_wp2_with fail
      go_roundw
      case rel => exact ⟨j + 1, by omega, by go_num, R⟩
      case measure => simp [intOf]; omega
end Go.Proofs.Ytdkjdlimcnddkaa
