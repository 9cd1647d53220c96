import Derived.Test.YtcphabjekfihnabGreatP32
import Derived.Test.YtcphabjekfihnabGreatP21
import Derived.Test.YtcphabjekfihnabGreatP24
namespace Go.Proofs.YtcphabjekfihnabGreat
open Go.RowKit Flt

theorem kern_K {op : Int} (h : op ≠ 1) (len C : Int) (K K' : Nat) (xa xb xc : List Nat) : kern op len C K xa xb xc = kern op len C K' xa xb xc := by
  unfold kern
  have : elem op C K xa xb xc = elem op C K' xa xb xc := by
    funext k
    unfold elem
    rw [if_neg h, if_neg h]
  rw [this]
/-! PassFold. -/
def argL (news : List Vl) (o : Int) : List Nat := List.replicate (news.getD o.toNat Vl.zero).len.toNat (news.getD o.toNat Vl.zero).k
def foldB (news : List Vl) (v : Vl) : Bool := decide (0 < cnt v.op) && (opsOf v).all fun o => (news.getD o.toNat Vl.zero).op == 1
def foldR (news : List Vl) (v : Vl) : List Nat := kern v.op v.len v.c v.k (if 0 < cnt v.op then argL news v.a else []) (if 1 < cnt v.op then argL news v.b else []) (if 2 < cnt v.op then argL news v.c else [])
def uni (r : List Nat) : Bool := decide (0 < r.length) && r.all fun x => fb x == fb (r.getD 0 0)
def foldV (news : List Vl) (v : Vl) : Vl := if foldB news v = true ∧ uni (foldR news v) = true then ⟨1, v.len, 0, 0, 0, (foldR news v).getD 0 0⟩ else v
def foldSt (vs : List Vl) : Nat → List Vl
  | 0 => []
  | i + 1 => foldSt vs i ++ [foldV (foldSt vs i) (vs.getD i Vl.zero)]
theorem foldSt_len (vs : List Vl) : ∀ i, (foldSt vs i).length = i
  | 0 => rfl
  | i + 1 => by rw [foldSt, List.length_append, foldSt_len vs i]; rfl
theorem all_getD {r : List Nat} {p : Nat → Bool} : r.all p = true ↔ ∀ k, k < r.length → p (r.getD k 0) = true := by
  rw [List.all_eq_true]
  constructor
  · intro h k hk
    rw [List.getD_eq_getElem?_getD, List.getElem?_eq_getElem hk]
    exact h _ (List.getElem_mem _)
  · intro h x hx
    obtain ⟨k, hk, rfl⟩ := List.getElem_of_mem hx
    have := h k hk
    rw [List.getD_eq_getElem?_getD, List.getElem?_eq_getElem hk] at this
    exact this
theorem uni_congr {r s : List Nat} (h : same r s) : uni r = uni s := by
  have hl := same_len h
  unfold uni
  rw [hl]
  congr 1
  rw [Bool.eq_iff_iff, all_getD, all_getD, hl]
  have e := same_at h
  constructor
  · intro q k hk
    have := q k hk
    rw [e k, e 0] at this
    exact this
  · intro q k hk
    rw [e k, e 0]
    exact q k hk
theorem argL_same {us vs : List Vl} (h : Lk us vs) (o : Int) : same (argL us o) (argL vs o) := by
  have e := h.at_ o.toNat
  unfold argL
  generalize us.getD o.toNat Vl.zero = u at *
  generalize vs.getD o.toNat Vl.zero = v at *
  unfold cv at e
  injection e with e1 e2 e3 e4 e5 e6
  unfold same
  rw [e2, List.map_replicate, List.map_replicate, e6]
theorem argL_lt {us : List Vl} (h : Kb us) (o : Int) : ∀ x ∈ argL us o, x < 18446744073709551616 := by
  intro x hx
  unfold argL at hx
  rw [List.eq_of_mem_replicate hx]
  exact h.at_ _
theorem foldR_same {us vs : List Vl} {u v : Vl} (h : Lk us vs) (hv : cv u = cv v) (k1 : Kb us) (k2 : Kb vs) (hc : 0 < cnt u.op) : same (foldR us u) (foldR vs v) := by
  unfold foldR
  unfold cv at hv
  injection hv with e1 e2 e3 e4 e5 e6
  have h1 : u.op ≠ 1 := fun c => by rw [c] at hc; exact absurd hc (by decide)
  rw [← e1, ← e2, ← e3, ← e4, ← e5, kern_K h1 u.len u.c v.k u.k]
  have key : ∀ (q : Prop) [Decidable q] (o : Int), same (if q then argL us o else []) (if q then argL vs o else []) := fun q _ o => by
    by_cases c : q
    · rw [if_pos c, if_pos c]; exact argL_same h o
    · rw [if_neg c, if_neg c]; rfl
  refine kern_congr (key _ _) (key _ _) (key _ _) ?_ ?_
  · rw [if_pos hc]; exact argL_lt k1 _
  · rw [if_pos hc]; exact argL_lt k2 _
theorem foldB_congr {us vs : List Vl} {u v : Vl} (h : Lk us vs) (hv : cv u = cv v) : foldB us u = foldB vs v := by
  unfold cv at hv
  injection hv with e1 e2 e3 e4 e5 e6
  have eo : opsOf u = opsOf v := by unfold opsOf; rw [e1, e3, e4, e5]
  unfold foldB
  rw [e1, eo]
  congr 1
  congr 1
  funext o
  have := congrArg Vl.op (h.at_ o.toNat)
  have e : (us.getD o.toNat Vl.zero).op = (vs.getD o.toNat Vl.zero).op := this
  rw [e]
theorem foldV_lk {us vs : List Vl} {u v : Vl} (h : Lk us vs) (hv : cv u = cv v) (k1 : Kb us) (k2 : Kb vs) : cv (foldV us u) = cv (foldV vs v) := by
  unfold foldV
  rw [foldB_congr h hv]
  by_cases hb : foldB vs v = true
  · have hc : 0 < cnt u.op := by
      have : foldB us u = true := by rw [foldB_congr h hv]; exact hb
      unfold foldB at this
      rw [Bool.and_eq_true] at this
      exact of_decide_eq_true this.1
    have hs := foldR_same h hv k1 k2 hc
    rw [uni_congr hs]
    by_cases hu : uni (foldR vs v) = true
    · rw [if_pos ⟨hb, hu⟩, if_pos ⟨hb, hu⟩]
      unfold cv
      simp only
      rw [same_at hs 0]
      have := congrArg Vl.len hv
      have e : u.len = v.len := this
      rw [e]
    · rw [if_neg (fun c => hu c.2), if_neg (fun c => hu c.2)]; exact hv
  · rw [if_neg (fun c => hb c.1), if_neg (fun c => hb c.1)]; exact hv
theorem foldV_len (news : List Vl) (v : Vl) : (foldV news v).len = v.len := by
  unfold foldV; split <;> rfl
theorem foldSt_lenV (vs : List Vl) : ∀ i j, j < i → ((foldSt vs i).getD j Vl.zero).len = (vs.getD j Vl.zero).len
  | 0, j, hj => by omega
  | i + 1, j, hj => by
    have hl := foldSt_len vs i
    rw [foldSt]
    by_cases c : j < i
    · rw [getD_fstV _ _ (by rw [hl]; exact c)]; exact foldSt_lenV vs i j c
    · have : j = i := by omega
      subst this
      have := getD_lastV (foldSt vs j) (foldV (foldSt vs j) (vs.getD j Vl.zero))
      rw [hl] at this
      rw [this]
      exact foldV_len _ _
theorem okV_const {ins : List Int} {vs : List Vl} {i : Nat} {len : Int} {k : Nat} (e : vs.getD i Vl.zero = ⟨1, len, 0, 0, 0, k⟩) (h : lenB len = true) : okV ins vs i = true := by
  unfold okV
  rw [e]
  simp only
  rw [h]
  rfl
theorem foldSt_ok {ins : List Int} {vs : List Vl} : ∀ i, (∀ j, j < i → okV ins vs j = true) → ∀ j, j < i → okV ins (foldSt vs i) j = true
  | 0, _, j, hj => by omega
  | i + 1, h, j, hj => by
    have hl := foldSt_len vs i
    have ih := foldSt_ok (ins := ins) (vs := vs) i (fun j hj => h j (by omega))
    rw [foldSt]
    by_cases c : j < i
    · exact okV_app (by rw [hl]; exact c) (ih j c)
    · have : j = i := by omega
      subst this
      have el : (foldSt vs j ++ [foldV (foldSt vs j) (vs.getD j Vl.zero)]).getD j Vl.zero = foldV (foldSt vs j) (vs.getD j Vl.zero) := by
        have := getD_lastV (foldSt vs j) (foldV (foldSt vs j) (vs.getD j Vl.zero))
        rw [hl] at this
        exact this
      have ho := h j (by omega)
      by_cases hb : foldB (foldSt vs j) (vs.getD j Vl.zero) = true ∧ uni (foldR (foldSt vs j) (vs.getD j Vl.zero)) = true
      · have e2 := el
        unfold foldV at e2
        rw [if_pos hb] at e2
        unfold foldV
        rw [if_pos hb]
        exact okV_const e2 (okV_lenB ho)
      · have e2 : foldV (foldSt vs j) (vs.getD j Vl.zero) = vs.getD j Vl.zero := by unfold foldV; rw [if_neg hb]
        rw [e2] at el ⊢
        refine okV_of ho id (by rw [el]) (by rw [el]) (fun _ => by rw [el]) (fun _ => by rw [el]) (fun _ => by rw [el]) (by rw [el]; simp) ?_
        intro o _ h0 h1
        refine ⟨⟨h0, h1⟩, ?_⟩
        rw [getD_fstV _ _ (by rw [hl]; simp only [id]; omega)]
        exact foldSt_lenV vs j o.toNat (by omega)
theorem foldM_ok {ins : List Int} {vs : List Vl} {outs : List Int} (h : okG ins vs outs = true) : okG ins (foldSt vs vs.length) outs = true := by
  obtain ⟨h1, h2, h3, h4, h5⟩ := okG_parts h
  have l1 := foldSt_len vs vs.length
  refine okG_make ⟨h1.1, by rw [l1]; exact h1.2.1, h1.2.2⟩ h2 (fun j hj => foldSt_ok vs.length h3 j (by rw [← l1]; exact hj)) (by rw [l1]; exact h4) ?_
  rw [cellsV_eq _ vs l1 (fun j hj => foldSt_lenV vs vs.length j (by rw [← l1]; exact hj))]
  exact h5

/-- A pass as data. -/
def passM (p : Int) (vs : List Vl) (outs : List Int) : List Vl × List Int :=
  if p = 0 then deadM vs outs else if p = 2 then (foldSt vs vs.length, outs) else eqM p vs outs
theorem passM_ok {ins : List Int} {vs : List Vl} {outs : List Int} (p : Int) (h : okG ins vs outs = true) : okG ins (passM p vs outs).1 (passM p vs outs).2 = true := by
  unfold passM
  split
  · exact deadM_ok h
  · split
    · exact foldM_ok h
    · exact eqM_ok p h

theorem foldV_kb {news : List Vl} {v : Vl} (h : Kb news) (hv : v.k < 18446744073709551616) : (foldV news v).k < 18446744073709551616 := by
  unfold foldV
  split
  · exact getD_lt (kern_lt hv (ite_lt (argL_lt h _)) (ite_lt (argL_lt h _)) (ite_lt (argL_lt h _))) 0
  · exact hv
theorem foldSt_kb {vs : List Vl} (h : Kb vs) : ∀ i, Kb (foldSt vs i)
  | 0 => by intro v hv; simp [foldSt] at hv
  | i + 1 => by
    rw [foldSt]
    exact (foldSt_kb h i).app (foldV_kb (foldSt_kb h i) (h.at_ i))
theorem foldSt_lk {us vs : List Vl} (h : Lk us vs) (k1 : Kb us) (k2 : Kb vs) : ∀ i, Lk (foldSt us i) (foldSt vs i)
  | 0 => rfl
  | i + 1 => by
    rw [foldSt, foldSt]
    exact (foldSt_lk h k1 k2 i).app (foldV_lk (foldSt_lk h k1 k2 i) (h.at_ i) (foldSt_kb k1 i) (foldSt_kb k2 i))
theorem passM_lk {us vs : List Vl} {outs : List Int} (p : Int) (h : Lk us vs) (k1 : Kb us) (k2 : Kb vs) : Lk (passM p us outs).1 (passM p vs outs).1 ∧ (passM p us outs).2 = (passM p vs outs).2 := by
  unfold passM
  split
  · exact deadM_lk h
  · split
    · rw [h.len]
      exact ⟨foldSt_lk h k1 k2 _, rfl⟩
    · exact eqM_lk p h
theorem rnm_k (tq : List Int) (v : Vl) : (rnm tq v).k = v.k := rfl
theorem eqSt_kb {vs : List Vl} (h : Kb vs) (p : Int) : ∀ i, Kb (eqSt p vs i).1
  | 0 => by intro v hv; simp [eqSt] at hv
  | i + 1 => (eqSt_kb h p i).app (h.at_ i)
theorem dkSt_kb {vs : List Vl} (h : Kb vs) (F : List Bool) : ∀ i, Kb (dkSt F vs i).1
  | 0 => by intro v hv; simp [dkSt] at hv
  | i + 1 => by
    rw [dkSt]
    split
    · exact (dkSt_kb h F i).app (h.at_ i)
    · exact dkSt_kb h F i
theorem passM_kb {vs : List Vl} {outs : List Int} (p : Int) (h : Kb vs) : Kb (passM p vs outs).1 := by
  unfold passM
  split
  · exact dkSt_kb h _ _
  · split
    · exact foldSt_kb h _
    · exact eqSt_kb h p _
/-- A list of passes, one after another: k of them. -/
def optTo (vs : List Vl) (outs : List Int) (ps : List Int) : Nat → List Vl × List Int
  | 0 => (vs, outs)
  | k + 1 => passM (ps.getD k 0) (optTo vs outs ps k).1 (optTo vs outs ps k).2
theorem optTo_ok {ins : List Int} {vs : List Vl} {outs : List Int} (ps : List Int) (h : okG ins vs outs = true) : ∀ k, okG ins (optTo vs outs ps k).1 (optTo vs outs ps k).2 = true
  | 0 => h
  | k + 1 => passM_ok _ (optTo_ok ps h k)
theorem optTo_kb {vs : List Vl} {outs : List Int} (ps : List Int) (h : Kb vs) : ∀ k, Kb (optTo vs outs ps k).1
  | 0 => h
  | k + 1 => passM_kb _ (optTo_kb ps h k)
end Go.Proofs.YtcphabjekfihnabGreat

namespace Go.Proofs.YtcphabjekfihnabGreat
open Go.RowKit Flt
/-! Every field of a value of a valid graph is small. -/
theorem okV_small {ins : List Int} {vs : List Vl} {i : Nat} (h : okV ins vs i = true) (hi : i ≤ 2000) (hl : ins.length ≤ 20) (hlen : ∀ j, j < i → lenB (vs.getD j Vl.zero).len = true) :
    (0 ≤ (vs.getD i Vl.zero).op ∧ (vs.getD i Vl.zero).op ≤ 13) ∧ (0 ≤ (vs.getD i Vl.zero).len ∧ (vs.getD i Vl.zero).len ≤ 2000) ∧ (0 ≤ (vs.getD i Vl.zero).a ∧ (vs.getD i Vl.zero).a ≤ 2000) ∧ (0 ≤ (vs.getD i Vl.zero).b ∧ (vs.getD i Vl.zero).b ≤ 2000) ∧ (0 ≤ (vs.getD i Vl.zero).c ∧ (vs.getD i Vl.zero).c ≤ 2000) := by
  have hop := okV_opR h
  have hln := of_decide_eq_true (okV_lenB h)
  have hops := okV_ops h
  have hA : 1 ≤ cnt (vs.getD i Vl.zero).op → 0 ≤ (vs.getD i Vl.zero).a ∧ (vs.getD i Vl.zero).a < i := fun c => hops _ (opsOf_a c)
  have hB : 2 ≤ cnt (vs.getD i Vl.zero).op → 0 ≤ (vs.getD i Vl.zero).b ∧ (vs.getD i Vl.zero).b < i := fun c => hops _ (opsOf_b c)
  have hC : 3 ≤ cnt (vs.getD i Vl.zero).op → 0 ≤ (vs.getD i Vl.zero).c ∧ (vs.getD i Vl.zero).c < i := fun c => hops _ (opsOf_c c)
  unfold okV at h
  generalize hv : vs.getD i Vl.zero = v at *
  rw [Bool.and_eq_true, Bool.and_eq_true] at h
  obtain ⟨⟨_, hsp⟩, hsh⟩ := h
  have hA0 : cnt v.op < 1 → v.op ≠ 0 → v.a = 0 := fun c c0 => by
    unfold spareB at hsp
    by_cases e : v.a = 0
    · exact e
    · simp [c, c0, e] at hsp
  have hB0 : cnt v.op < 2 → v.b = 0 := fun c => by
    unfold spareB at hsp
    by_cases e : v.b = 0
    · exact e
    · simp [c, e] at hsp
  have hC0 : cnt v.op < 3 → placeB v.op = false → v.c = 0 := fun c cp => by
    unfold spareB at hsp
    by_cases e : v.c = 0
    · exact e
    · simp [c, cp, e] at hsp
  have hIn : v.op = 0 → 0 ≤ v.a ∧ v.a < ins.length := fun c => by
    rw [if_pos c, Bool.and_eq_true] at hsh
    exact of_decide_eq_true hsh.1
  have hPl : placeB v.op = true → 0 ≤ v.c ∧ v.c ≤ 1000 := fun c => by
    have hp := of_decide_eq_true c
    rw [if_neg (by omega), Bool.and_eq_true] at hsh
    have hs := hsh.2
    unfold shapeB at hs
    have c1 : cnt v.op = 1 := by rcases hp with e | e <;> rw [e] <;> decide
    have ha := hA (by omega)
    have hla := of_decide_eq_true (hlen v.a.toNat (by omega))
    have e0 : ((opsOf v).map fun o => (vs.getD o.toNat Vl.zero).len).getD 0 0 = (vs.getD v.a.toNat Vl.zero).len := by
      unfold opsOf
      rw [c1]
      rfl
    rcases hp with e | e
    · rw [if_neg (by omega), if_neg (by omega), if_pos e, Bool.and_eq_true, e0] at hs
      have := of_decide_eq_true hs.2
      omega
    · rw [if_neg (by omega), if_neg (by omega), if_neg (by omega), if_pos e, Bool.and_eq_true] at hs
      have := of_decide_eq_true hs.2
      omega
  refine ⟨hop, by omega, ?_, ?_, ?_⟩
  · by_cases c : 1 ≤ cnt v.op
    · have := hA c; omega
    · by_cases c0 : v.op = 0
      · have := hIn c0; omega
      · have := hA0 (by omega) c0; omega
  · by_cases c : 2 ≤ cnt v.op
    · have := hB c; omega
    · have := hB0 (by omega); omega
  · by_cases c : 3 ≤ cnt v.op
    · have := hC c; omega
    · cases hp : placeB v.op
      · have := hC0 (by omega) hp; omega
      · have := hPl hp; omega
end Go.Proofs.YtcphabjekfihnabGreat
