import Derived.Test.YtcphabjekfihnaaV02
import Derived.Test.YtcphabjekfihnaaP19
namespace Go.Proofs.Ytcphabjekfihnaa
open Go.RowKit Flt

/-- A step's fields as a value of a graph. -/
def vlOf (s : Ste) : Vl := ⟨s.op, s.len, s.a, s.b, s.c, s.k⟩
/-- The cells that a step takes. -/
def spansOf (s : Ste) : List Spn := [⟨s.a, s.n⟩, ⟨s.b, s.len⟩, ⟨s.c, s.len⟩].take (cnt s.op)
/-- Fields that do not hang on the arena. -/
def formB (ins : List Int) (s : Ste) : Bool :=
  ((lenB s.len && spareB (vlOf s)) && !(decide (cnt s.op = 0) && s.n != 0)) &&
    (if s.op = 0 then idxB s.a ins.length && ins.getD s.a.toNat 0 == s.len else shapeB s.op s.len s.c ([s.n, s.len, s.len].take (cnt s.op)))
/-- Has a cell been written by one of the first n steps? -/
def wroteB (ss : List Ste) (n : Nat) (c : Int) : Bool := (ss.take n).any fun s => decide (s.dst ≤ c ∧ c < s.dst + s.len)
def withB (off len peak : Int) : Bool := decide (0 ≤ off ∧ off ≤ peak - len)
def holdB (ss : List Ste) (n : Nat) (peak off len : Int) : Bool := withB off len peak && (List.range len.toNat).all fun j => wroteB ss n (off + (j : Nat))
def meetB (s : Ste) (p : Spn) : Bool := decide (s.dst < p.off + p.len ∧ p.off < s.dst + s.len)
def takeB (ss : List Ste) (i : Nat) (peak : Int) (s : Ste) (p : Spn) : Bool := holdB ss i peak p.off p.len && !meetB s p
def stepB (ins : List Int) (ss : List Ste) (peak : Int) (i : Nat) : Bool :=
  formB ins (ss.getD i Ste.zero) && (withB (ss.getD i Ste.zero).dst (ss.getD i Ste.zero).len peak && (spansOf (ss.getD i Ste.zero)).all (takeB ss i peak (ss.getD i Ste.zero)))
def limC (ins : List Int) (n2 n3 : Nat) (peak : Int) : Bool := (((decide (ins.length ≤ 20) && decide (n2 ≤ 2000)) && decide (n3 ≤ 50)) && ins.all lenB) && decide (0 ≤ peak ∧ peak ≤ 50000)
def outB (ss : List Ste) (peak : Int) (p : Spn) : Bool := lenB p.len && holdB ss ss.length peak p.off p.len
/-- What Verify answers. -/
def verM (ins : List Int) (ss : List Ste) (os : List Spn) (peak : Int) : Bool :=
  (limC ins ss.length os.length peak && (List.range ss.length).all (stepB ins ss peak)) && os.all (outB ss peak)

theorem spans_len (s : Ste) : (spansOf s).length = cnt s.op := by
  have := cnt_le s.op
  simp [spansOf]; omega
theorem form_len {ins : List Int} {s : Ste} (h : formB ins s = true) : 1 ≤ s.len ∧ s.len ≤ 1000 := by
  unfold formB at h
  simp only [Bool.and_eq_true] at h
  have := h.1.1.1
  simpa [lenB] using this
theorem form_op {ins : List Int} {s : Ste} (h : formB ins s = true) : 0 ≤ s.op ∧ s.op ≤ 13 := by
  by_cases c : 0 ≤ s.op ∧ s.op ≤ 13
  · exact c
  · unfold formB at h
    rw [if_neg (by omega), shape_out c] at h
    simp at h
theorem form_shape {ins : List Int} {s : Ste} (h : formB ins s = true) (h0 : s.op ≠ 0) : shapeB s.op s.len s.c ([s.n, s.len, s.len].take (cnt s.op)) = true := by
  unfold formB at h
  rw [if_neg h0] at h
  simp only [Bool.and_eq_true] at h
  exact h.2
theorem form_n {ins : List Int} {s : Ste} (h : formB ins s = true) (hc : 0 < cnt s.op) : 1 ≤ s.n ∧ s.n ≤ 1000 := by
  have h0 : s.op ≠ 0 := fun e => by rw [e] at hc; exact absurd hc (by decide)
  have hl := form_len h
  have hs := form_shape h h0
  have ho := form_op h
  generalize s.op = op at hc h0 hs ho
  rcases (by omega : op = 1 ∨ op = 2 ∨ op = 3 ∨ op = 4 ∨ op = 5 ∨ op = 6 ∨ op = 7 ∨ op = 8 ∨ op = 9 ∨ op = 10 ∨ op = 11 ∨ op = 12 ∨ op = 13) with rfl | rfl | rfl | rfl | rfl | rfl | rfl | rfl | rfl | rfl | rfl | rfl | rfl
  · exact absurd hc (by decide)
  all_goals (simp [shapeB, cnt, lenB] at hs; omega)
theorem spans_lens {ins : List Int} {s : Ste} (h : formB ins s = true) {p : Spn} (hp : p ∈ spansOf s) : 1 ≤ p.len ∧ p.len ≤ 1000 := by
  have hl := form_len h
  by_cases hc : 0 < cnt s.op
  · have hn := form_n h hc
    have := List.mem_of_mem_take hp
    simp at this
    rcases this with rfl | rfl | rfl
    · exact hn
    · exact hl
    · exact hl
  · have e : cnt s.op = 0 := by omega
    unfold spansOf at hp
    rw [e] at hp
    cases hp
theorem wrote_zero (ss : List Ste) (c : Int) : wroteB ss 0 c = false := by simp [wroteB]
theorem wrote_succ {ss : List Ste} {n : Nat} (h : n < ss.length) (c : Int) : wroteB ss (n + 1) c = (wroteB ss n c || decide ((ss.getD n Ste.zero).dst ≤ c ∧ c < (ss.getD n Ste.zero).dst + (ss.getD n Ste.zero).len)) := by
  unfold wroteB
  rw [List.take_succ_eq_append_getElem h, List.any_append]
  have : ss.getD n Ste.zero = ss[n] := by rw [List.getD_eq_getElem?_getD, List.getElem?_eq_getElem h]; rfl
  rw [this]
  simp
theorem wrote_true {ss : List Ste} {n k : Nat} (hk : k < n) (hn : n ≤ ss.length) {c : Int} (h : (ss.getD k Ste.zero).dst ≤ c ∧ c < (ss.getD k Ste.zero).dst + (ss.getD k Ste.zero).len) : wroteB ss n c = true := by
  unfold wroteB
  rw [List.any_eq_true]
  have e : ss.getD k Ste.zero = ss[k] := by rw [List.getD_eq_getElem?_getD, List.getElem?_eq_getElem (by omega)]; rfl
  rw [e] at h
  refine ⟨ss[k], ?_, by simpa using h⟩
  rw [List.mem_take_iff_getElem]
  exact ⟨k, by omega, rfl⟩
/-- The first steps are all as they should be: so their places are small. -/
theorem step_bounds {ins : List Int} {ss : List Ste} {peak : Int} {n : Nat} (hp : peak ≤ 50000) (h : (List.range n).all (stepB ins ss peak) = true) : ∀ k, k < n → 0 ≤ (ss.getD k Ste.zero).dst ∧ (ss.getD k Ste.zero).dst ≤ 50000 ∧ 1 ≤ (ss.getD k Ste.zero).len ∧ (ss.getD k Ste.zero).len ≤ 1000 ∧ (ss.getD k Ste.zero).dst + (ss.getD k Ste.zero).len ≤ peak := fun k hk => by
  rw [List.all_eq_true] at h
  have h1 := h k (List.mem_range.2 hk)
  unfold stepB at h1
  simp only [Bool.and_eq_true] at h1
  have h2 := form_len h1.1
  have h3 := of_decide_eq_true h1.2.1
  omega
end Go.Proofs.Ytcphabjekfihnaa

namespace Go.Proofs.Ytcphabjekfihnaa
open Go.RowKit Flt
attribute [local go_sem] alloc_drewN setCell_drewN run_store_float

def fldS (s : Ste) (k : Nat) : Int := if k = 0 then s.a else if k = 1 then s.b else s.c
def lenT (s : Ste) (k : Nat) : Int := if k = 0 then s.n else s.len
set_option maxRecDepth 100000 in
set_option maxHeartbeats 1000000 in
theorem l5field (w : World) (s : Ste) (k : Nat) (hk : k < 3) :
    Calls Try.prog 130 #[s.agg, .int .i64 (k : Int)] w fun e w' => e = .returned (.int .i64 (fldS s k)) ∧ Kept 0 0 w w' := by
  rcases (by omega : k = 0 ∨ k = 1 ∨ k = 2) with rfl | rfl | rfl
  all_goals
    go_enter Try.func130, Try.ntmps130
    go_wp2
    go_ret
    exact ⟨rfl, kept_alloc _ _ _ _⟩
set_option maxRecDepth 100000 in
set_option maxHeartbeats 1000000 in
theorem l5olen (w : World) (s : Ste) (k : Nat) (hk : k < 3) :
    Calls Try.prog 131 #[s.agg, .int .i64 (k : Int)] w fun e w' => e = .returned (.int .i64 (lenT s k)) ∧ Kept 0 0 w w' := by
  rcases (by omega : k = 0 ∨ k = 1 ∨ k = 2) with rfl | rfl | rfl
  all_goals
    go_enter Try.func131, Try.ntmps131
    go_wp2
    go_ret
    exact ⟨rfl, kept_alloc _ _ _ _⟩
theorem ops13 {op : Int} (h0 : 0 ≤ op) (h1 : op ≤ 13) : ops1 op = cnt op := by
  by_cases h : op = 0
  · subst h; rfl
  · exact ops1_cnt (by omega) h1
theorem spansOf_at {s : Ste} {k : Nat} (hk : k < cnt s.op) : ∃ p, (spansOf s)[k]? = some p ∧ p.off = fldS s k ∧ p.len = lenT s k := by
  have := cnt_le s.op
  unfold spansOf
  rw [List.getElem?_take_of_lt hk]
  rcases (by omega : k = 0 ∨ k = 1 ∨ k = 2) with rfl | rfl | rfl
  · exact ⟨_, rfl, rfl, rfl⟩
  · exact ⟨_, rfl, rfl, rfl⟩
  · exact ⟨_, rfl, rfl, rfl⟩

/-- Is field k as it must be where it has no meaning? -/
def okFld (s : Ste) (k : Nat) : Bool := if k = 0 then !((decide (cnt s.op < 1) && s.op != 0) && s.a != 0) else if k = 1 then !(decide (cnt s.op < 2) && s.b != 0) else !((decide (cnt s.op < 3) && !placeB s.op) && s.c != 0)
theorem spare_fld (s : Ste) : spareB (vlOf s) = (List.range 3).all (okFld s) := by
  have e : (List.range 3).all (okFld s) = (okFld s 0 && (okFld s 1 && (okFld s 2 && true))) := rfl
  rw [e]
  show (!(((decide (cnt s.op < 1) && s.op != 0) && s.a != 0) || (decide (cnt s.op < 2) && s.b != 0) || ((decide (cnt s.op < 3) && !placeB s.op) && s.c != 0))) = ((!((decide (cnt s.op < 1) && s.op != 0) && s.a != 0)) && ((!(decide (cnt s.op < 2) && s.b != 0)) && ((!((decide (cnt s.op < 3) && !placeB s.op) && s.c != 0)) && true)))
  generalize ((decide (cnt s.op < 1) && s.op != 0) && s.a != 0) = x
  generalize (decide (cnt s.op < 2) && s.b != 0) = y
  generalize ((decide (cnt s.op < 3) && !placeB s.op) && s.c != 0) = z
  cases x <;> cases y <;> cases z <;> rfl
theorem okFld_lt {s : Ste} {k : Nat} (h : k < cnt s.op) : okFld s k = true := by
  have := cnt_le s.op
  unfold okFld
  rcases (by omega : k = 0 ∨ k = 1 ∨ k = 2) with rfl | rfl | rfl
  · rw [if_pos rfl, decide_eq_false (by omega)]; rfl
  · rw [if_neg (by omega), if_pos rfl, decide_eq_false (by omega)]; rfl
  · rw [if_neg (by omega), if_neg (by omega), decide_eq_false (by omega)]; rfl
theorem okFld_start (s : Ste) : (List.range (cnt s.op)).all (okFld s) = true := by
  rw [List.all_eq_true]
  intro k hk
  exact okFld_lt (List.mem_range.1 hk)
theorem okFld0 {s : Ste} (h : cnt s.op ≤ 0) : okFld s 0 = !(!(s.op == 0) && (s.a != 0)) := by
  unfold okFld
  rw [if_pos rfl, decide_eq_true (by omega)]; rfl
theorem okFld1 {s : Ste} (h : cnt s.op ≤ 1) : okFld s 1 = !(s.b != 0) := by
  unfold okFld
  rw [if_neg (by omega), if_pos rfl, decide_eq_true (by omega)]; rfl
theorem okFld2 {s : Ste} (h : cnt s.op ≤ 2) : okFld s 2 = !(!((s.op == 11) || (s.op == 12)) && (s.c != 0)) := by
  unfold okFld
  rw [if_neg (by omega), if_neg (by omega), decide_eq_true (by omega), Bool.true_and]
  have : placeB s.op = ((s.op == 11) || (s.op == 12)) := by
    unfold placeB
    rw [Bool.eq_iff_iff]; simp
  rw [this]
theorem form_bad {ins : List Int} {s : Ste} (h : ¬ (0 ≤ s.op ∧ s.op ≤ 13 ∧ 1 ≤ s.len ∧ s.len ≤ 1000)) : formB ins s = false := by
  cases hf : formB ins s
  · rfl
  · have := form_len hf
    have := form_op hf
    exact absurd ⟨by omega, by omega, by omega, by omega⟩ h
theorem form_spare {ins : List Int} {s : Ste} (h : spareB (vlOf s) = false) : formB ins s = false := by
  unfold formB; rw [h]; simp

set_option maxRecDepth 100000 in
set_option maxHeartbeats 2000000 in
theorem l5form_bad (w : World) (a1 a2 a3 : Option Addr) (n1 c1 n2 c2 n3 c3 : Nat) (pk : Int) (s : Ste) (h : ¬ (0 ≤ s.op ∧ s.op ≤ 13 ∧ 1 ≤ s.len ∧ s.len ≤ 1000)) :
    Calls Try.prog 129 #[cagg a1 n1 c1 a2 n2 c2 a3 n3 c3 pk, s.agg] w fun e w' => e = .returned (.bool false) ∧ Kept 0 0 w w' := by
  have hK := (kept_alloc 0 0 w (cbox a1 n1 c1 a2 n2 c2 a3 n3 c3 pk)).trans (kept_alloc 0 0 _ s.box)
  by_cases a0 : s.op < 0
  · go_enter Try.func129, Try.ntmps129
    go_wp2
    go_ret
    exact ⟨rfl, hK⟩
  · have b0 : decide (s.op < 0) = false := decide_eq_false a0
    by_cases a1 : 13 < s.op
    · go_enter Try.func129, Try.ntmps129
      go_wp2
      go_ret
      exact ⟨rfl, hK⟩
    · have b1 : decide (13 < s.op) = false := decide_eq_false a1
      by_cases a2 : s.len < 1
      · go_enter Try.func129, Try.ntmps129
        go_wp2
        go_ret
        exact ⟨rfl, hK⟩
      · have b2 : decide (s.len < 1) = false := decide_eq_false a2
        have a3 : 1000 < s.len := by omega
        go_enter Try.func129, Try.ntmps129
        go_wp2
        go_ret
        exact ⟨rfl, hK⟩
end Go.Proofs.Ytcphabjekfihnaa
