import Derived.Test.YtcphabjekfihnaaJ16
import Derived.Test.YtcphabjekfihnaaJ17
import Derived.Test.YtcphabjekfihnaaJ18
import Derived.Test.YtcphabjekfihnaaJ19
import Derived.Test.YtcphabjekfihnaaJ20
import Derived.Test.YtcphabjekfihnaaJ08
import Derived.Test.YtcphabjekfihnaaJ07
import Derived.Test.YtcphabjekfihnaaP18
import Derived.Test.YtcphabjekfihnaaP19
namespace Go.Proofs.Ytcphabjekfihnaa
open Go.RowKit Flt

theorem cast1 (n : Nat) : ((n + 1 : Nat) : Int) = (n : Int) + 1 := rfl
theorem cast2 (n : Nat) : ((n + 2 : Nat) : Int) = (n : Int) + 2 := rfl
theorem cast3 (n : Nat) : ((n + 3 : Nat) : Int) = (n : Int) + 3 := rfl
/-- The model's l2move is mvM. -/
theorem l2move (w : World) (b1 b3 : Option Addr) (m1 e1 cap m3 e3 base g2 i : Nat) (vs : List Vl) (v : Vl) (ta tb tc : Int) (h : w.ownsRow base 40 6 (.slice (some ⟨g2, 0, none⟩) vs.length cap) vs.length (flat vs)) (hb : base ≤ w.heap.size) (hn : vs.length ≤ 800000) (hi : i < vs.length) (hv : At w g2 (i * 6) v)
    (ra : -1 ≤ ta) (rb : -1 ≤ tb) (rc : -1 ≤ tc) (hs : ¬ (ta = -1 ∧ tb = -1 ∧ tc = -1)) (h2 : cnt v.op ≤ 2 → tc = -1) (h1 : cnt v.op ≤ 1 → tb = -1) :
    Calls Try.prog 152 #[gagg b1 m1 e1 (some ⟨g2, 0, none⟩) vs.length cap b3 m3 e3, .int .i64 (i : Int), .int .i64 ta, .int .i64 tb, .int .i64 tc] w fun e w' => MvP w b1 m1 e1 b3 m3 e3 vs base (some g2) (mvM (i : Int) v ta tb tc vs.length) e w' := by
  obtain ⟨o, ln, va, vb, vc, vk⟩ := v
  simp only at h1 h2
  have na : ∀ {x : Int}, 0 ≤ x → ¬ x = -1 := fun h => by omega
  have nb : ∀ {x : Int}, -1 ≤ x → ¬ 0 ≤ x → x = -1 := fun h k => by omega
  by_cases o2 : o = 2
  · subst o2
    have hc := h2 (by decide)
    by_cases a : 0 ≤ ta
    · by_cases b : 0 ≤ tb
      · have e : mvM (i : Int) ⟨2, ln, va, vb, vc, vk⟩ ta tb tc vs.length = ([vput 2 ln ta tb 0], ((vs.length : Nat) : Int)) := by simp [mvM, sumM, na a, na b]
        rw [e]
        exact mv_add2 w b1 b3 m1 e1 cap m3 e3 base g2 i vs ln va vb vc vk ta tb tc h hb hn hi hv a b
      · have e : mvM (i : Int) ⟨2, ln, va, vb, vc, vk⟩ ta tb tc vs.length = ([], ta) := by simp [mvM, sumM, na a, nb rb b]
        rw [e]
        exact mv_adda w b1 b3 m1 e1 cap m3 e3 base g2 i vs ln va vb vc vk ta tb tc h hb hn hi hv a (by omega)
    · have b : 0 ≤ tb := by omega
      have e : mvM (i : Int) ⟨2, ln, va, vb, vc, vk⟩ ta tb tc vs.length = ([], tb) := by simp [mvM, sumM, nb ra a, na b]
      rw [e]
      exact mv_addb w b1 b3 m1 e1 cap m3 e3 base g2 i vs ln va vb vc vk ta tb tc h hb hn hi hv (by omega) b
  by_cases o3 : o = 3
  · subst o3
    have hc := h2 (by decide)
    by_cases a : 0 ≤ ta
    · by_cases b : 0 ≤ tb
      · have e : mvM (i : Int) ⟨3, ln, va, vb, vc, vk⟩ ta tb tc vs.length = ([vput 3 ln ta tb 0], ((vs.length : Nat) : Int)) := by simp [mvM, difM, na a, na b]
        rw [e]
        exact mv_sub2 w b1 b3 m1 e1 cap m3 e3 base g2 i vs ln va vb vc vk ta tb tc h hb hn hi hv a b
      · have e : mvM (i : Int) ⟨3, ln, va, vb, vc, vk⟩ ta tb tc vs.length = ([], ta) := by simp [mvM, difM, na a, nb rb b]
        rw [e]
        exact mv_suba w b1 b3 m1 e1 cap m3 e3 base g2 i vs ln va vb vc vk ta tb tc h hb hn hi hv a (by omega)
    · have b : 0 ≤ tb := by omega
      have e : mvM (i : Int) ⟨3, ln, va, vb, vc, vk⟩ ta tb tc vs.length = ([vput 6 ln tb 0 0], ((vs.length : Nat) : Int)) := by simp [mvM, difM, nb ra a, na b]
      rw [e]
      exact mv_subb w b1 b3 m1 e1 cap m3 e3 base g2 i vs ln va vb vc vk ta tb tc h hb hn hi hv (by omega) b
  by_cases o4 : o = 4
  · subst o4
    have hc := h2 (by decide)
    by_cases a : 0 ≤ ta
    · by_cases b : 0 ≤ tb
      · have e : mvM (i : Int) ⟨4, ln, va, vb, vc, vk⟩ ta tb tc vs.length = ([vput 4 ln ta vb 0, vput 4 ln va tb 0, vput 2 ln ((vs.length : Nat) : Int) (((vs.length : Nat) : Int) + 1) 0], (((vs.length : Nat) : Int) + 2)) := by simp [mvM, mulM, na a, na b]
        rw [e]
        exact mv_mul2 w b1 b3 m1 e1 cap m3 e3 base g2 i vs ln va vb vc vk ta tb tc h hb hn hi hv a b
      · have e : mvM (i : Int) ⟨4, ln, va, vb, vc, vk⟩ ta tb tc vs.length = ([vput 4 ln ta vb 0], ((vs.length : Nat) : Int)) := by simp [mvM, mulM, na a, nb rb b]
        rw [e]
        exact mv_mula w b1 b3 m1 e1 cap m3 e3 base g2 i vs ln va vb vc vk ta tb tc h hb hn hi hv a (by omega)
    · have b : 0 ≤ tb := by omega
      have e : mvM (i : Int) ⟨4, ln, va, vb, vc, vk⟩ ta tb tc vs.length = ([vput 4 ln va tb 0], ((vs.length : Nat) : Int)) := by simp [mvM, mulM, nb ra a, na b]
      rw [e]
      exact mv_mulb w b1 b3 m1 e1 cap m3 e3 base g2 i vs ln va vb vc vk ta tb tc h hb hn hi hv (by omega) b
  by_cases o5 : o = 5
  · subst o5
    have hc := h2 (by decide)
    by_cases a : 0 ≤ ta
    · by_cases b : 0 ≤ tb
      · have e : mvM (i : Int) ⟨5, ln, va, vb, vc, vk⟩ ta tb tc vs.length = ([vput 5 ln ta vb 0, vput 4 ln (i : Int) tb 0, vput 5 ln (((vs.length : Nat) : Int) + 1) vb 0, vput 3 ln ((vs.length : Nat) : Int) (((vs.length : Nat) : Int) + 2) 0], (((vs.length : Nat) : Int) + 3)) := by simp [mvM, divM, na a, na b]
        rw [e]
        exact mv_div2 w b1 b3 m1 e1 cap m3 e3 base g2 i vs ln va vb vc vk ta tb tc h hb hn hi hv a b
      · have e : mvM (i : Int) ⟨5, ln, va, vb, vc, vk⟩ ta tb tc vs.length = ([vput 5 ln ta vb 0], ((vs.length : Nat) : Int)) := by simp [mvM, divM, na a, nb rb b]
        rw [e]
        exact mv_diva w b1 b3 m1 e1 cap m3 e3 base g2 i vs ln va vb vc vk ta tb tc h hb hn hi hv a (by omega)
    · have b : 0 ≤ tb := by omega
      have e : mvM (i : Int) ⟨5, ln, va, vb, vc, vk⟩ ta tb tc vs.length = ([vput 4 ln (i : Int) tb 0, vput 5 ln ((vs.length : Nat) : Int) vb 0, vput 6 ln (((vs.length : Nat) : Int) + 1) 0 0], (((vs.length : Nat) : Int) + 2)) := by simp [mvM, divM, nb ra a, na b]
      rw [e]
      exact mv_divb w b1 b3 m1 e1 cap m3 e3 base g2 i vs ln va vb vc vk ta tb tc h hb hn hi hv (by omega) b
  by_cases o7 : o = 7
  · subst o7
    have hc := h2 (by decide)
    have e : mvM (i : Int) ⟨7, ln, va, vb, vc, vk⟩ ta tb tc vs.length = ([vput 3 ln va vb 0] ++ (chM ln ((vs.length : Nat) : Int) ta tb (vs.length + 1)).1, (chM ln ((vs.length : Nat) : Int) ta tb (vs.length + 1)).2) := by
      unfold mvM
      rw [if_neg hs]
      rfl
    rw [e]
    by_cases a : 0 ≤ ta
    · exact mv_maxa w b1 b3 m1 e1 cap m3 e3 base g2 i vs ln va vb vc vk ta tb tc h hb hn hi hv a rb
    · exact mv_maxb w b1 b3 m1 e1 cap m3 e3 base g2 i vs ln va vb vc vk ta tb tc h hb hn hi hv (by omega) ra (by omega)
  by_cases o8 : o = 8
  · subst o8
    by_cases b : 0 ≤ tb
    · have e : mvM (i : Int) ⟨8, ln, va, vb, vc, vk⟩ ta tb tc vs.length = chM ln va tb tc vs.length := by
        unfold mvM
        rw [if_neg hs, if_neg (by simp), if_neg (by simp), if_neg (by simp), if_neg (by simp), if_neg (by simp), if_pos rfl, if_neg (fun c => na b c.1)]
      rw [e]
      exact mv_selb w b1 b3 m1 e1 cap m3 e3 base g2 i vs ln va vb vc vk ta tb tc h hb hn hi hv b rc
    · by_cases c : 0 ≤ tc
      · have e : mvM (i : Int) ⟨8, ln, va, vb, vc, vk⟩ ta tb tc vs.length = chM ln va tb tc vs.length := by
          unfold mvM
          rw [if_neg hs, if_neg (by simp), if_neg (by simp), if_neg (by simp), if_neg (by simp), if_neg (by simp), if_pos rfl, if_neg (fun k => na c k.2)]
        rw [e]
        exact mv_selc w b1 b3 m1 e1 cap m3 e3 base g2 i vs ln va vb vc vk ta tb tc h hb hn hi hv (by omega) rb c
      · have e : mvM (i : Int) ⟨8, ln, va, vb, vc, vk⟩ ta tb tc vs.length = ([], -1) := by
          unfold mvM
          rw [if_neg hs, if_neg (by simp), if_neg (by simp), if_neg (by simp), if_neg (by simp), if_neg (by simp), if_pos rfl, if_pos ⟨nb rb b, nb rc c⟩]
        rw [e]
        exact mv_sel0 w b1 b3 m1 e1 cap m3 e3 base g2 i vs ln va vb vc vk ta tb tc h hb hn hi hv (by omega) (by omega)
  have hc1 : cnt o ≤ 1 := by unfold cnt; simp [o2, o3, o4, o5, o7, o8]; split <;> omega
  have b := h1 hc1
  have c := h2 (by omega)
  have a : 0 ≤ ta := by omega
  by_cases o13 : o = 13
  · subst o13
    have e : mvM (i : Int) ⟨13, ln, va, vb, vc, vk⟩ ta tb tc vs.length = ([vput 4 ln ta (i : Int) 0], ((vs.length : Nat) : Int)) := by simp [mvM, na a]
    rw [e]
    exact mv_exp w b1 b3 m1 e1 cap m3 e3 base g2 i vs ln va vb vc vk ta tb tc h hb hn hi hv a
  · have e : mvM (i : Int) ⟨o, ln, va, vb, vc, vk⟩ ta tb tc vs.length = ([vput o ln ta 0 vc], ((vs.length : Nat) : Int)) := by simp [mvM, na a, o2, o3, o4, o5, o7, o8, o13]
    rw [e]
    exact mv_oth w b1 b3 m1 e1 cap m3 e3 base g2 i vs o ln va vb vc vk ta tb tc h hb hn hi hv ⟨o2, o3, o4, o5, o7, o8, o13⟩ a
end Go.Proofs.Ytcphabjekfihnaa

namespace Go.Proofs.Ytcphabjekfihnaa
open Go.RowKit Flt

theorem ge_ite {p : Prop} [Decidable p] {a b : List Vl × Int} (ha : -1 ≤ a.2) (hb : -1 ≤ b.2) : -1 ≤ (if p then a else b).2 := by
  by_cases h : p
  · rw [if_pos h]; exact ha
  · rw [if_neg h]; exact hb
theorem ch_ge (n d p q : Int) (N : Nat) : -1 ≤ (chM n d p q N).2 := by
  unfold chM
  exact ge_ite (ge_ite (by simp only; omega) (by simp only; omega)) (ge_ite (by simp only; omega) (by simp only; omega))
theorem mvM_ge (i : Int) (v : Vl) (ta tb tc : Int) (N : Nat) (ra : -1 ≤ ta) (rb : -1 ≤ tb) : -1 ≤ (mvM i v ta tb tc N).2 := by
  have z : ∀ {l : List Vl}, -1 ≤ (l, (-1 : Int)).2 := by simp
  have n : ∀ {l : List Vl} {m : Nat}, -1 ≤ (l, (m : Int)).2 := by intro l m; simp only; omega
  unfold mvM sumM difM mulM divM
  exact ge_ite z (ge_ite (ge_ite rb (ge_ite ra n)) (ge_ite (ge_ite ra (ge_ite n n)) (ge_ite (ge_ite (ge_ite z n) (ge_ite n n)) (ge_ite (ge_ite (ge_ite z n) (ge_ite n n)) (ge_ite (ch_ge _ _ _ _ _) (ge_ite (ge_ite z (ch_ge _ _ _ _ _)) (ge_ite n n)))))))
theorem ovs_ge {v : Vl} {mv : List Int} {q j : Nat} (h : ∀ i, -1 ≤ mv.getD i 0) : -1 ≤ ovs v mv q j := by
  unfold ovs; split
  · exact h _
  · omega
theorem jst_ge (vs : List Vl) (x t : Nat) : ∀ k i, -1 ≤ (jst vs x t k).2.getD i 0
  | 0, i => by
    unfold jst
    rw [List.getD_eq_getElem?_getD, List.getElem?_set]
    split
    · split
      · simp only [Option.getD_some]; omega
      · simp
    · rw [List.getElem?_replicate]
      split <;> simp
  | k + 1, i => by
    have IH := jst_ge vs x t k
    unfold jst
    simp only
    rw [List.getD_eq_getElem?_getD, List.getElem?_set]
    split
    · split
      · simp only [Option.getD_some]
        unfold jmv
        exact mvM_ge _ _ _ _ _ _ (ovs_ge IH) (ovs_ge IH)
      · simp
    · rw [← List.getD_eq_getElem?_getD]
      exact IH i
theorem jst_far (vs : List Vl) (x t : Nat) : ∀ k i, x + k < i → i < vs.length → (jst vs x t k).2.getD i 0 = -1
  | 0, i, h, hi => by
    unfold jst
    rw [List.getD_eq_getElem?_getD, List.getElem?_set, if_neg (by omega), List.getElem?_replicate, if_pos hi]
    rfl
  | k + 1, i, h, hi => by
    unfold jst
    simp only
    rw [List.getD_eq_getElem?_getD, List.getElem?_set, if_neg (by omega), ← List.getD_eq_getElem?_getD]
    exact jst_far vs x t k i (by omega) hi
theorem set_same {xs : List Int} {i : Nat} {y : Int} (h : xs.getD i 0 = y) (hi : i < xs.length) : xs.set i y = xs := by
  rw [List.getD_eq_getElem?_getD, List.getElem?_eq_getElem hi] at h
  simp only [Option.getD_some] at h
  subst h
  exact List.set_getElem_self hi
/-- With no move among the operands nothing is put behind. -/
theorem jst_none (vs : List Vl) (x t k : Nat) (hi : x + 1 + k < vs.length) (h : ∀ j, j < cnt (vs.getD (x + 1 + k) Vl.zero).op → (jst vs x t k).2.getD (fld (vs.getD (x + 1 + k) Vl.zero) j).toNat 0 = -1) : jst vs x t (k + 1) = jst vs x t k := by
  have e : ∀ j, ovs (vs.getD (x + 1 + k) Vl.zero) (jst vs x t k).2 (cnt (vs.getD (x + 1 + k) Vl.zero).op) j = -1 := fun j => by
    unfold ovs; split
    · exact h j (by assumption)
    · rfl
  have e2 : jmv vs (x + 1 + k) (jst vs x t k) = ([], -1) := by
    unfold jmv mvM
    rw [e 0, e 1, e 2, if_pos ⟨rfl, rfl, rfl⟩]
  conv => lhs; unfold jst
  rw [e2]
  simp only [List.append_nil]
  rw [set_same (jst_far vs x t k _ (by omega) hi) (by rw [jst_len]; exact hi)]

/-- Whether one of the first q operands moves. -/
def anyM (v : Vl) (mv : List Int) (q : Nat) : Bool := (List.range q).any fun j => decide (0 ≤ mv.getD (fld v j).toNat 0)
theorem anyM_succ (v : Vl) (mv : List Int) (q : Nat) : anyM v mv (q + 1) = (anyM v mv q || decide (0 ≤ mv.getD (fld v q).toNat 0)) := by
  unfold anyM; rw [List.range_succ, List.any_append]; simp
theorem anyM_false {v : Vl} {mv : List Int} {q : Nat} (h : anyM v mv q = false) (hg : ∀ i, -1 ≤ mv.getD i 0) : ∀ j, j < q → mv.getD (fld v j).toNat 0 = -1 := fun j hj => by
  unfold anyM at h
  rw [List.any_eq_false] at h
  have h1 := h j (List.mem_range.2 hj)
  have h2 := hg (fld v j).toNat
  have h3 : ¬ (0 ≤ mv.getD (fld v j).toNat 0) := fun c => h1 (decide_eq_true c)
  omega
theorem anyM_true {v : Vl} {mv : List Int} (h : anyM v mv (cnt v.op) = true) : ¬ (ovs v mv (cnt v.op) 0 = -1 ∧ ovs v mv (cnt v.op) 1 = -1 ∧ ovs v mv (cnt v.op) 2 = -1) := by
  rintro ⟨h0, h1, h2⟩
  unfold anyM at h
  rw [List.any_eq_true] at h
  obtain ⟨j, hj, hd⟩ := h
  have hj' := List.mem_range.1 hj
  have hd' := of_decide_eq_true hd
  have hc := cnt_le v.op
  have e : ovs v mv (cnt v.op) j = mv.getD (fld v j).toNat 0 := by unfold ovs; rw [if_pos hj']
  rcases (by omega : j = 0 ∨ j = 1 ∨ j = 2) with rfl | rfl | rfl
  · rw [e] at h0; omega
  · rw [e] at h1; omega
  · rw [e] at h2; omega
theorem SG.put2 {w w1 w2 w3 : World} {P m1 e1 m3 e3 base cap cap' l h' : Nat} {b1 b3 a2 a2' : Option Addr} {vs vs2 : List Vl} {R R' : Option Nat} (h : SG w P b1 m1 e1 b3 m3 e3 vs base R a2 cap) (k : Kept 0 0 w w1)
    (own : w2.ownsRow base 40 6 (.slice a2' vs2.length cap') vs2.length (flat vs2)) (row : (Value.slice a2' vs2.length cap').ownBlock = R') (s : StQ (fun _ => False) R w1 R' w2) (k2 : Kept l h' w2 w3) (hl : w.heap.size ≤ l) (hR : ∀ g, R' = some g → g < l ∨ h' ≤ g) :
    SG (Put3 w3 P (.slice b1 m1 e1) (.slice a2' vs2.length cap') (.slice b3 m3 e3)) P b1 m1 e1 b3 m3 e3 vs2 base R' a2' cap' ∧ StQ (fun i => i = P) R w R' (Put3 w3 P (.slice b1 m1 e1) (.slice a2' vs2.length cap') (.slice b3 m3 e3)) := by
  have hlt := h.lt
  have hsz := k.size
  have hne : R' ≠ some P := by
    rcases s.row with e | ⟨r, e, hr⟩
    · rw [e]; exact h.ne
    · rw [e]; intro c; cases c; omega
  have hb : w2.heap[P]? = w1.heap[P]? := s.chg.block P (by omega) (by rintro (c | c); exact c; exact h.ne c)
  have hlt2 : P < w2.heap.size := by have := s.chg.size; omega
  have hb3 : w3.heap[P]? = w1.heap[P]? := (k2.block P hlt2 (by omega)).trans hb
  have e : ∀ o, w3.cell? ⟨P, o, none⟩ = w.cell? ⟨P, o, none⟩ := fun o => (World.cell?_of_block (w := w1) (a := ⟨P, o, none⟩) hb3).trans (k.cell (p := ⟨P, o, none⟩) h.lt (by omega))
  have ef : ∀ o, w3.frozen? ⟨P, o, none⟩ = w.frozen? ⟨P, o, none⟩ := fun o => (World.frozen?_of_block (w := w1) (a := ⟨P, o, none⟩) hb3).trans (k.frozen (p := ⟨P, o, none⟩) h.lt (by omega))
  obtain ⟨y0, y1, y2⟩ := put3_0 w3 P _ _ _ ((e 0).trans h.c0) ((e 1).trans h.c1) ((e 2).trans h.c2) (.slice b1 m1 e1) (.slice a2' vs2.length cap') (.slice b3 m3 e3)
  have kp := put3_kept w3 P (.slice b1 m1 e1) (.slice a2' vs2.length cap') (.slice b3 m3 e3)
  have nB : (Value.slice a2' vs2.length cap').ownBlock ≠ some P := by rw [row]; exact hne
  refine ⟨⟨?_, fun o => ?_, y0, y1, y2, own_setCell (own_setCell (own_setCell (own_keepR own k2 (fun g hg => hR g (row ▸ hg))) nB) nB) nB, row, hne, ?_⟩, ⟨?_, ?_, ?_, ?_, fun i hi hn => ?_⟩, ?_⟩
  · have := kp.size; have := s.chg.size; have := k2.size; unfold Put3; omega
  · unfold Put3; simp [ef o, h.free o]
  · have := kp.size; have := s.chg.size; have := h.sz; have := k2.size; unfold Put3; omega
  · exact kp.os.trans (k2.os.trans (s.chg.os.trans k.os))
  · exact kp.tape.trans (k2.tape.trans (s.chg.tape.trans k.tape))
  · exact kp.output.trans (k2.output.trans (s.chg.output.trans k.output))
  · have := kp.size; have := s.chg.size; have := k2.size; unfold Put3; omega
  · unfold Put3
    have z1 := s.chg.size
    have z2 := k2.size
    rw [kp.block i (by omega) (fun c => hn (.inl (by omega))), k2.block i (by omega) (by omega), s.chg.block i (by omega) (by rintro (c | c); exact c; exact hn (.inr c))]
    exact k.block i hi (by omega)
  · rcases s.row with c | ⟨r, c, hr⟩
    · exact .inl c
    · exact .inr ⟨r, c, by omega⟩
theorem own_stq {base e size n P : Nat} {R R' : Option Nat} {v : Value} {xs : List Value} {W W' : World} (o : W.ownsRow base e size v n xs) (s : StQ (fun i => i = P) R W R' W') (hP : v.ownBlock ≠ some P) (hR : ∀ g, v.ownBlock = some g → R ≠ some g) : W'.ownsRow base e size v n xs := by
  refine ⟨o.1, o.2.imp id ?_⟩
  rintro ⟨g, cap, cur, e1, b1, b2, b3⟩
  refine ⟨g, cap, cur, e1, b1, ?_, b3⟩
  have hg : g < W.heap.size := by
    rcases Nat.lt_or_ge g W.heap.size with c | c
    · exact c
    · rw [Array.getElem?_eq_none c] at b2; cases b2
  have hb : v.ownBlock = some g := by rw [e1]; rfl
  rw [s.chg.block g hg (by rintro (c | c); exact hP (by rw [hb, c]); exact hR g hb c)]
  exact b2
theorem IR.stq {W W' : World} {P B : Nat} {R R' : Option Nat} {xs : List Int} (h : IR W B xs) (s : StQ (fun i => i = P) R W R' W') (hP : B ≠ P) (hR : R ≠ some B) : IR W' B xs := by
  unfold IR
  rw [s.chg.block B h.lt (by rintro (c | c); exact hP c; exact hR c)]
  exact h

/-- What l2jvp holds: g in the box P, the answer's box behind it, the moves in Mb, the lists of Ins and Outs. -/
structure LJ (w W : World) (Mb : Nat) (b1 : Option Addr) (n1 e1 : Nat) (b3 : Option Addr) (n3 e3 : Nat) (ins outs : List Int) (vs : List Vl) (mv : List Int) (base : Nat) (R : Option Nat) (a2 : Option Addr) (cap : Nat) : Prop where
  g : SG W w.heap.size b1 n1 e1 b3 n3 e3 vs base R a2 cap
  b : RB W (w.heap.size + 1) (.slice none 0 0) (.slice none 0 0) (.slice none 0 0)
  m : IR W Mb mv
  i : W.ownsRow base 3 1 (.slice b1 n1 e1) n1 (ins.map (Value.int .i64))
  o : W.ownsRow base 3 1 (.slice b3 n3 e3) n3 (outs.map (Value.int .i64))
  k : Kept 0 0 w W
  hb : w.heap.size + 1 + 1 ≤ base
  dM : base ≤ Mb
  rM : R ≠ some Mb
  a1 : Apart (.slice b1 n1 e1) (.slice a2 vs.length cap)
  a3 : Apart (.slice b3 n3 e3) (.slice a2 vs.length cap)
  a4 : Apart (.slice b1 n1 e1) (.slice b3 n3 e3)
  m1 : (Value.slice b1 n1 e1).ownBlock ≠ some Mb
  m3 : (Value.slice b3 n3 e3).ownBlock ≠ some Mb
theorem LJ.keep {w W W' : World} {Mb n1 e1 n3 e3 base cap : Nat} {b1 b3 a2 : Option Addr} {ins outs mv : List Int} {vs : List Vl} {R : Option Nat} (h : LJ w W Mb b1 n1 e1 b3 n3 e3 ins outs vs mv base R a2 cap) (k : Kept 0 0 W W') : LJ w W' Mb b1 n1 e1 b3 n3 e3 ins outs vs mv base R a2 cap :=
  { h with g := h.g.keep k, b := h.b.keep k, m := h.m.keep k (.inr (.inr (Nat.le_refl _))), i := own_keepJ h.i k, o := own_keepJ h.o k, k := h.k.trans k }
/-- moves[j] = r. -/
theorem LJ.set {w W : World} {Mb n1 e1 n3 e3 base cap : Nat} {b1 b3 a2 : Option Addr} {ins outs mv : List Int} {vs : List Vl} {R : Option Nat} (h : LJ w W Mb b1 n1 e1 b3 n3 e3 ins outs vs mv base R a2 cap) (j : Nat) (r : Int) : LJ w (W.setCell ⟨Mb, j, none⟩ (.int .i64 r)) Mb b1 n1 e1 b3 n3 e3 ins outs vs (mv.set j r) base R a2 cap := by
  have hP : Mb ≠ w.heap.size := by have := h.hb; have := h.dM; omega
  have hQ : Mb ≠ w.heap.size + 1 := by have := h.hb; have := h.dM; omega
  have c : ∀ B o, Mb ≠ B → (W.setCell ⟨Mb, j, none⟩ (.int .i64 r)).cell? ⟨B, o, none⟩ = W.cell? ⟨B, o, none⟩ := fun B o hB => cell_ne _ _ _ _ _ _ (.inl hB)
  obtain ⟨bz, t0, t1, t2, x0, x1, x2⟩ := h.b
  exact {
    g := ⟨by simpa using h.g.lt, fun o => by simp [h.g.free o], by rw [c _ _ hP]; exact h.g.c0, by rw [c _ _ hP]; exact h.g.c1, by rw [c _ _ hP]; exact h.g.c2, own_setCell h.g.own (by rw [h.g.row]; exact h.rM), h.g.row, h.g.ne, by simpa using h.g.sz⟩
    b := ⟨by simpa using bz, by rw [c _ _ hQ]; exact t0, by rw [c _ _ hQ]; exact t1, by rw [c _ _ hQ]; exact t2, by simp [x0], by simp [x1], by simp [x2]⟩
    m := h.m.set j r
    i := own_setCell h.i h.m1
    o := own_setCell h.o h.m3
    k := kept_put w W h.k Mb j _ (by have := h.hb; have := h.dM; omega)
    hb := h.hb, dM := h.dM, rM := h.rM, a1 := h.a1, a3 := h.a3, a4 := h.a4, m1 := h.m1, m3 := h.m3 }
/-- g = more, behind a step of the model. -/
theorem LJ.step {w W w1 w2 w3 : World} {Mb n1 e1 n3 e3 base cap cap' l h' : Nat} {b1 b3 a2 a2' : Option Addr} {ins outs mv : List Int} {vs vs2 : List Vl} {R R' : Option Nat} (h : LJ w W Mb b1 n1 e1 b3 n3 e3 ins outs vs mv base R a2 cap) (k : Kept 0 0 W w1)
    (own : w2.ownsRow base 40 6 (.slice a2' vs2.length cap') vs2.length (flat vs2)) (row : (Value.slice a2' vs2.length cap').ownBlock = R') (s : StQ (fun _ => False) R w1 R' w2) (k2 : Kept l h' w2 w3) (hl : W.heap.size ≤ l) (hR : ∀ g, R' = some g → g < l ∨ h' ≤ g) :
    LJ w (Put3 w3 w.heap.size (.slice b1 n1 e1) (.slice a2' vs2.length cap') (.slice b3 n3 e3)) Mb b1 n1 e1 b3 n3 e3 ins outs vs2 mv base R' a2' cap' := by
  obtain ⟨q1, q2⟩ := h.g.put2 k own row s k2 hl hR
  have hz := k.size
  have far : ∀ B, B < W.heap.size → R ≠ some B → R' ≠ some B := fun B hB hR => by
    rcases q2.row with e | ⟨r, e, hr⟩
    · rw [e]; exact hR
    · rw [e]; intro c; cases c; omega
  have ap : ∀ {b : Option Addr} {n e : Nat} {xs : List Value}, W.ownsRow base 3 1 (.slice b n e) n xs → Apart (.slice b n e) (.slice a2 vs.length cap) → (∀ g, (Value.slice b n e).ownBlock = some g → R ≠ some g) ∧ (Value.slice b n e).ownBlock ≠ some w.heap.size ∧ Apart (.slice b n e) (.slice a2' vs2.length cap') := fun ho ha => by
    have h1 : ∀ g, (Value.slice _ _ _).ownBlock = some g → R ≠ some g := fun g hg => by rw [← h.g.row]; exact ha g hg
    refine ⟨h1, fun c => ?_, fun g hg => ?_⟩
    · have := (own_blkV ho c).1; have := h.hb; omega
    · rw [row]; exact far g (own_blkV ho hg).2 (h1 g hg)
  obtain ⟨i1, i2, i3⟩ := ap h.i h.a1
  obtain ⟨o1, o2, o3⟩ := ap h.o h.a3
  have hbQ : R ≠ some (w.heap.size + 1) := fun c => by have := (own_blkV h.g.own (h.g.row.trans c)).1; have := h.hb; omega
  exact {
    g := q1
    b := h.b.stq q2 (by omega) hbQ
    m := h.m.stq q2 (by have := h.hb; have := h.dM; omega) h.rM
    i := own_stq h.i q2 i2 i1
    o := own_stq h.o q2 o2 o1
    k := Chg.kept h.k q2.chg (by
      rintro i (c | c)
      · omega
      · have := (own_blkV h.g.own (h.g.row.trans c)).1; have := h.hb; omega)
    hb := h.hb
    dM := h.dM
    rM := far Mb h.m.lt h.rM
    a1 := i3
    a3 := o3
    a4 := h.a4
    m1 := h.m1
    m3 := h.m3 }
end Go.Proofs.Ytcphabjekfihnaa

namespace Go.Proofs.Ytcphabjekfihnaa
open Go.RowKit Flt
attribute [local go_sem] alloc_drewN setCell_drewN run_store_float

theorem LJ.read {w W : World} {Mb n1 e1 n3 e3 base cap : Nat} {b1 b3 a2 : Option Addr} {ins outs mv : List Int} {vs : List Vl} {R : Option Nat} (h : LJ w W Mb b1 n1 e1 b3 n3 e3 ins outs vs mv base R a2 cap) (hn : 0 < vs.length) :
    ∃ g, a2 = some ⟨g, 0, none⟩ ∧ R = some g ∧ g < W.heap.size ∧ ∀ j, j < vs.length → At W g (j * 6) (vs.getD j Vl.zero) := by
  obtain ⟨g, c, e, _, hg, _, hA⟩ := row_at h.g.own hn rfl
  injection e with e1 e2 e3
  subst e1
  exact ⟨g, rfl, h.g.row.symm, hg, hA.at_⟩
/-- The start: the copy stored into g's box, the moves made. -/
theorem LJ.start {w w1 : World} {n1 n2 n3 d1 d2 d3 : Nat} {b1 a2 b3 : Option Addr} {g : Obj} {ins outs : List Int} {vs : List Vl} {u0 u1 u2 : Value} (hn : vs.length = n2)
    (hG : G0 ((w.alloc g).alloc nbox) w.heap.size u0 u1 u2) (hf : ∀ o, ((w.alloc g).alloc nbox).frozen? ⟨w.heap.size, o, none⟩ = false) (hR : RB ((w.alloc g).alloc nbox) (w.heap.size + 1) (.slice none 0 0) (.slice none 0 0) (.slice none 0 0)) (k : Kept 0 0 ((w.alloc g).alloc nbox) w1)
    (o1 : w1.ownsRow ((w.alloc g).alloc nbox).heap.size 3 1 (.slice b1 n1 d1) n1 (ins.map (Value.int .i64))) (o2 : w1.ownsRow ((w.alloc g).alloc nbox).heap.size 40 6 (.slice a2 n2 d2) n2 (flat vs)) (o3 : w1.ownsRow ((w.alloc g).alloc nbox).heap.size 3 1 (.slice b3 n3 d3) n3 (outs.map (Value.int .i64)))
    (q1 : Apart (.slice a2 n2 d2) (.slice b1 n1 d1)) (q2 : Apart (.slice a2 n2 d2) (.slice b3 n3 d3)) (q3 : Apart (.slice b1 n1 d1) (.slice b3 n3 d3)) :
    ∀ W', IR W' (Put3 w1 w.heap.size (.slice b1 n1 d1) (.slice a2 n2 d2) (.slice b3 n3 d3)).heap.size (List.replicate n2 0) → Kept 0 0 (Put3 w1 w.heap.size (.slice b1 n1 d1) (.slice a2 n2 d2) (.slice b3 n3 d3)) W' →
      LJ w W' (Put3 w1 w.heap.size (.slice b1 n1 d1) (.slice a2 n2 d2) (.slice b3 n3 d3)).heap.size b1 n1 d1 b3 n3 d3 ins outs vs (List.replicate n2 0) ((w.alloc g).alloc nbox).heap.size (Value.slice a2 n2 d2).ownBlock a2 d2 := by
  intro W' hI kW
  have hz : ((w.alloc g).alloc nbox).heap.size = w.heap.size + 1 + 1 := by simp
  have kp := put3_kept w1 w.heap.size (.slice b1 n1 d1) (.slice a2 n2 d2) (.slice b3 n3 d3)
  have kk := hG.keep k
  obtain ⟨y0, y1, y2⟩ := put3_0 w1 w.heap.size _ _ _ kk.q0 kk.q1 kk.q2 (.slice b1 n1 d1) (.slice a2 n2 d2) (.slice b3 n3 d3)
  have key : ∀ {e size n : Nat} {v : Value} {xs : List Value}, w1.ownsRow ((w.alloc g).alloc nbox).heap.size e size v n xs → W'.ownsRow ((w.alloc g).alloc nbox).heap.size e size v n xs ∧ (∀ B, v.ownBlock = some B → w.heap.size + 1 + 1 ≤ B ∧ B < w1.heap.size) := fun h =>
    ⟨own_keepJ (own_keepR h kp (fun b hb => by have := (own_blkV h hb).1; omega)) kW, fun B hB => by have := own_blkV h hB; omega⟩
  obtain ⟨p1, r1⟩ := key o1
  obtain ⟨p2, r2⟩ := key o2
  obtain ⟨p3, r3⟩ := key o3
  have kn : Kept 0 0 w ((w.alloc g).alloc nbox) := (kept_alloc 0 0 w _).trans (kept_alloc 0 0 _ _)
  have hsz : w.heap.size < (Put3 w1 w.heap.size (.slice b1 n1 d1) (.slice a2 n2 d2) (.slice b3 n3 d3)).heap.size := Nat.lt_of_lt_of_le kk.sz kp.size
  have hP : ∀ o, W'.cell? ⟨w.heap.size, o, none⟩ = (Put3 w1 w.heap.size (.slice b1 n1 d1) (.slice a2 n2 d2) (.slice b3 n3 d3)).cell? ⟨w.heap.size, o, none⟩ := fun o => kW.cell (p := ⟨w.heap.size, o, none⟩) hsz (by omega)
  have hRB : RB W' (w.heap.size + 1) (.slice none 0 0) (.slice none 0 0) (.slice none 0 0) := by
    obtain ⟨bz, t0, t1, t2, x0, x1, x2⟩ := hR.keep k
    refine RB.keep ?_ kW
    have c : ∀ o, (Put3 w1 w.heap.size (.slice b1 n1 d1) (.slice a2 n2 d2) (.slice b3 n3 d3)).cell? ⟨w.heap.size + 1, o, none⟩ = w1.cell? ⟨w.heap.size + 1, o, none⟩ := fun o => kp.cell (p := ⟨w.heap.size + 1, o, none⟩) bz (by show ¬ (w.heap.size ≤ w.heap.size + 1 ∧ w.heap.size + 1 < w.heap.size + 1); omega)
    have fz : ∀ o, (Put3 w1 w.heap.size (.slice b1 n1 d1) (.slice a2 n2 d2) (.slice b3 n3 d3)).frozen? ⟨w.heap.size + 1, o, none⟩ = w1.frozen? ⟨w.heap.size + 1, o, none⟩ := fun o => kp.frozen (p := ⟨w.heap.size + 1, o, none⟩) bz (by show ¬ (w.heap.size ≤ w.heap.size + 1 ∧ w.heap.size + 1 < w.heap.size + 1); omega)
    exact ⟨Nat.lt_of_lt_of_le bz kp.size, by rw [c]; exact t0, by rw [c]; exact t1, by rw [c]; exact t2, by rw [fz]; exact x0, by rw [fz]; exact x1, by rw [fz]; exact x2⟩
  have z1 := k.size
  have z2 := kp.size
  subst hn
  exact {
    g := ⟨Nat.lt_of_lt_of_le hsz kW.size, fun o => by
        rw [kW.frozen (p := ⟨w.heap.size, o, none⟩) hsz (by omega)]
        unfold Put3
        simp [k.frozen (p := ⟨w.heap.size, o, none⟩) hG.sz (by omega), hf o], by rw [hP]; exact y0, by rw [hP]; exact y1, by rw [hP]; exact y2, p2, rfl, fun c => by have := r2 _ c; omega, by
        have := kW.size
        have : (Put3 w1 w.heap.size (.slice b1 n1 d1) (.slice a2 vs.length d2) (.slice b3 n3 d3)).heap.size ≥ w1.heap.size := z2
        omega⟩
    b := hRB
    m := hI
    i := p1
    o := p3
    k := (Kept.new (kn.trans k) kp (Nat.le_refl _)).trans kW
    hb := by omega
    dM := by
      have : (Put3 w1 w.heap.size (.slice b1 n1 d1) (.slice a2 vs.length d2) (.slice b3 n3 d3)).heap.size ≥ w1.heap.size := z2
      omega
    rM := fun c => by
      have := (r2 _ c).2
      have : (Put3 w1 w.heap.size (.slice b1 n1 d1) (.slice a2 vs.length d2) (.slice b3 n3 d3)).heap.size ≥ w1.heap.size := z2
      omega
    a1 := fun B h1 h2 => q1 B h2 h1
    a3 := fun B h1 h2 => q2 B h2 h1
    a4 := q3
    m1 := fun c => by
      have := (r1 _ c).2
      have : (Put3 w1 w.heap.size (.slice b1 n1 d1) (.slice a2 vs.length d2) (.slice b3 n3 d3)).heap.size ≥ w1.heap.size := z2
      omega
    m3 := fun c => by
      have := (r3 _ c).2
      have : (Put3 w1 w.heap.size (.slice b1 n1 d1) (.slice a2 vs.length d2) (.slice b3 n3 d3)).heap.size ≥ w1.heap.size := z2
      omega }
/-- A block that l2jvp's state does not reach. -/
structure Oth (w : World) (Mb : Nat) (b1 : Option Addr) (n1 e1 : Nat) (b3 : Option Addr) (n3 e3 : Nat) (R : Option Nat) (B : Nat) : Prop where
  p : w.heap.size + 1 + 1 ≤ B
  m : Mb ≠ B
  r : R ≠ some B
  i : (Value.slice b1 n1 e1).ownBlock ≠ some B
  o : (Value.slice b3 n3 e3).ownBlock ≠ some B
theorem LJ.oth {w W : World} {Mb n1 e1 n3 e3 base cap : Nat} {b1 b3 a2 : Option Addr} {ins outs mv : List Int} {vs : List Vl} {R : Option Nat} (h : LJ w W Mb b1 n1 e1 b3 n3 e3 ins outs vs mv base R a2 cap) {B : Nat} (hB : W.heap.size ≤ B) : Oth w Mb b1 n1 e1 b3 n3 e3 R B where
  p := by have := h.b.sz; omega
  m := by have := h.m.lt; omega
  r := fun c => by have := (own_blkV h.g.own (h.g.row.trans c)).2; omega
  i := fun c => by have := (own_blkV h.i c).2; omega
  o := fun c => by have := (own_blkV h.o c).2; omega
theorem LJ.other {w W : World} {Mb n1 e1 n3 e3 base cap : Nat} {b1 b3 a2 : Option Addr} {ins outs mv : List Int} {vs : List Vl} {R : Option Nat} (h : LJ w W Mb b1 n1 e1 b3 n3 e3 ins outs vs mv base R a2 cap) {B : Nat} (t : Oth w Mb b1 n1 e1 b3 n3 e3 R B) (j : Nat) (u : Value) : LJ w (W.setCell ⟨B, j, none⟩ u) Mb b1 n1 e1 b3 n3 e3 ins outs vs mv base R a2 cap := by
  have hp := t.p
  have c : ∀ X o, B ≠ X → (W.setCell ⟨B, j, none⟩ u).cell? ⟨X, o, none⟩ = W.cell? ⟨X, o, none⟩ := fun X o hX => cell_ne _ _ _ _ _ _ (.inl hX)
  obtain ⟨bz, t0, t1, t2, x0, x1, x2⟩ := h.b
  exact {
    g := ⟨by simpa using h.g.lt, fun o => by simp [h.g.free o], by rw [c _ _ (by omega)]; exact h.g.c0, by rw [c _ _ (by omega)]; exact h.g.c1, by rw [c _ _ (by omega)]; exact h.g.c2, own_setCell h.g.own (by rw [h.g.row]; exact t.r), h.g.row, h.g.ne, by simpa using h.g.sz⟩
    b := ⟨by simpa using bz, by rw [c _ _ (by omega)]; exact t0, by rw [c _ _ (by omega)]; exact t1, by rw [c _ _ (by omega)]; exact t2, by simp [x0], by simp [x1], by simp [x2]⟩
    m := by
      unfold IR
      rw [Below.heap_setCell W ⟨B, j, none⟩ u Mb t.m]
      exact h.m
    i := own_setCell h.i t.i
    o := own_setCell h.o t.o
    k := kept_put w W h.k B j _ (by omega)
    hb := h.hb, dM := h.dM, rM := h.rM, a1 := h.a1, a3 := h.a3, a4 := h.a4, m1 := h.m1, m3 := h.m3 }
theorem ir3 (w : World) (a b c : Int) : IR (w.alloc (.cells #[.int .i64 a, .int .i64 b, .int .i64 c] 3)) w.heap.size [a, b, c] := by
  unfold IR
  rw [heap_alloc_new]
  rfl
theorem ovs3_set (v : Vl) (mv : List Int) (q : Nat) (hq : q < 3) : ([ovs v mv q 0, ovs v mv q 1, ovs v mv q 2] : List Int).set q (mv.getD (fld v q).toNat 0) = [ovs v mv (q + 1) 0, ovs v mv (q + 1) 1, ovs v mv (q + 1) 2] := by
  rcases (by omega : q = 0 ∨ q = 1 ∨ q = 2) with rfl | rfl | rfl <;> simp [ovs]
theorem jst_zero (vs : List Vl) (x t s : Nat) (h : s ≠ x) (hs : s < vs.length) : (jst vs x t 0).2.getD s 0 = -1 := by
  unfold jst
  rw [List.getD_eq_getElem?_getD, List.getElem?_set, if_neg (fun c => h c.symm), List.getElem?_replicate, if_pos hs]
  rfl
/-- The end: g stored into the answer's box. -/
theorem LJ.fin {w W W' : World} {Mb n1 e1 n3 e3 base cap : Nat} {b1 b3 a2 : Option Addr} {ins outs mv : List Int} {vs : List Vl} {R : Option Nat} (h : LJ w W Mb b1 n1 e1 b3 n3 e3 ins outs vs mv base R a2 cap) (k : Kept 0 0 W W') :
    ((Put3 W' (w.heap.size + 1) (.slice b1 n1 e1) (.slice a2 vs.length cap) (.slice b3 n3 e3)).ownsRow w.heap.size 3 1 (.slice b1 n1 e1) n1 (ins.map (Value.int .i64)) ∧ (Put3 W' (w.heap.size + 1) (.slice b1 n1 e1) (.slice a2 vs.length cap) (.slice b3 n3 e3)).ownsRow w.heap.size 40 6 (.slice a2 vs.length cap) vs.length (flat vs) ∧ (Put3 W' (w.heap.size + 1) (.slice b1 n1 e1) (.slice a2 vs.length cap) (.slice b3 n3 e3)).ownsRow w.heap.size 3 1 (.slice b3 n3 e3) n3 (outs.map (Value.int .i64))) ∧ Kept 0 0 w (Put3 W' (w.heap.size + 1) (.slice b1 n1 e1) (.slice a2 vs.length cap) (.slice b3 n3 e3)) := by
  have kp := put3_kept W' (w.heap.size + 1) (.slice b1 n1 e1) (.slice a2 vs.length cap) (.slice b3 n3 e3)
  have hb := h.hb
  have key : ∀ {e size n : Nat} {v : Value} {xs : List Value}, W.ownsRow base e size v n xs → (Put3 W' (w.heap.size + 1) (.slice b1 n1 e1) (.slice a2 vs.length cap) (.slice b3 n3 e3)).ownsRow w.heap.size e size v n xs := fun ho =>
    own_mono (own_keepR (own_keepJ ho k) kp (fun g hg => by have := (own_blkV ho hg).1; omega)) (by omega)
  exact ⟨⟨key h.i, key h.g.own, key h.o⟩, Kept.new (h.k.trans k) kp (by omega)⟩
/-- l2put in a world behind W. -/
theorem LJ.call {w W W1 : World} {Mb n1 e1 n3 e3 base cap : Nat} {b1 b3 a2 : Option Addr} {ins outs mv : List Int} {vs : List Vl} {R : Option Nat} (h : LJ w W Mb b1 n1 e1 b3 n3 e3 ins outs vs mv base R a2 cap) (k : Kept 0 0 W W1) (u : Vl) (hn : vs.length ≤ 1000000) :
    Calls Try.prog 153 #[gagg b1 n1 e1 a2 vs.length cap b3 n3 e3, u.agg] W1 fun e w2 => ∃ g' cap', e = .returned (gagg b1 n1 e1 (some ⟨g', 0, none⟩) (vs.length + 1) cap' b3 n3 e3) ∧
      (∃ u, w2.cell? ⟨w.heap.size, 0, none⟩ = some u) ∧ (∃ u, w2.cell? ⟨w.heap.size, 1, none⟩ = some u) ∧ (∃ u, w2.cell? ⟨w.heap.size, 2, none⟩ = some u) ∧ (∀ o, w2.frozen? ⟨w.heap.size, o, none⟩ = false) ∧
      Hid (LJ w (Put3 w2 w.heap.size (.slice b1 n1 e1) (.slice (some ⟨g', 0, none⟩) (vs.length + 1) cap') (.slice b3 n3 e3)) Mb b1 n1 e1 b3 n3 e3 ins outs (vs ++ [u]) mv base (some g') (some ⟨g', 0, none⟩) cap') := by
  have h1 := h.keep k
  refine (l2put W1 b1 a2 b3 n1 e1 cap n3 e3 base vs u h1.g.own h1.g.sz hn).mono ?_
  rintro e w2 ⟨g', cap', rfl, own, s⟩
  rw [h.g.row] at s
  have hb : w2.heap[w.heap.size]? = W1.heap[w.heap.size]? := s.chg.block w.heap.size h1.g.lt (by rintro (c | c); exact c; exact h.g.ne c)
  have e : ∀ o, w2.cell? ⟨w.heap.size, o, none⟩ = W1.cell? ⟨w.heap.size, o, none⟩ := fun o => World.cell?_of_block (w := W1) (a := ⟨w.heap.size, o, none⟩) hb
  have ef : ∀ o, w2.frozen? ⟨w.heap.size, o, none⟩ = W1.frozen? ⟨w.heap.size, o, none⟩ := fun o => World.frozen?_of_block (w := W1) (a := ⟨w.heap.size, o, none⟩) hb
  have hl : (vs ++ [u]).length = vs.length + 1 := by simp
  have key := h.step (vs2 := vs ++ [u]) (a2' := some ⟨g', 0, none⟩) (cap' := cap') (l := W.heap.size) (h' := W.heap.size) k (by rw [hl]; exact own) (R' := some g') rfl s ((Kept.refl 0 0 w2).mono fun _ _ c => by omega) (Nat.le_refl _) (fun g _ => by omega)
  rw [hl] at key
  exact ⟨g', cap', rfl, ⟨_, (e 0).trans h1.g.c0⟩, ⟨_, (e 1).trans h1.g.c1⟩, ⟨_, (e 2).trans h1.g.c2⟩, fun o => by rw [ef]; exact h1.g.free o, key⟩
theorem okV_op {ins : List Int} {vs : List Vl} {i : Nat} (h : okV ins vs i = true) : 0 ≤ (vs.getD i Vl.zero).op ∧ (vs.getD i Vl.zero).op ≤ 13 := by
  by_cases h0 : (vs.getD i Vl.zero).op = 0
  · omega
  · unfold okV at h
    rw [if_neg h0] at h
    simp only [Bool.and_eq_true] at h
    by_cases c : 0 ≤ (vs.getD i Vl.zero).op ∧ (vs.getD i Vl.zero).op ≤ 13
    · exact c
    · have := h.2.2
      rw [shape_out c] at this
      cases this
end Go.Proofs.Ytcphabjekfihnaa

namespace Go.Proofs.Ytcphabjekfihnaa
open Go.RowKit Flt
attribute [local go_sem] alloc_drewN setCell_drewN run_store_float

/-- Every value of the list is of length n. -/
def AllLen (n : Int) (M : List Vl × Int) : Prop := ∀ u ∈ M.1, u.len = n
theorem al_ite {n : Int} {p : Prop} [Decidable p] {a b : List Vl × Int} (ha : AllLen n a) (hb : AllLen n b) : AllLen n (if p then a else b) := by
  by_cases h : p
  · rw [if_pos h]; exact ha
  · rw [if_neg h]; exact hb
theorem ch_len (n d p q : Int) (N : Nat) : AllLen n (chM n d p q N) := by
  unfold chM
  refine al_ite (al_ite ?_ ?_) (al_ite ?_ ?_) <;> (intro u hu; simp at hu)
  · rcases hu with rfl | rfl <;> rfl
  · rcases hu with rfl | rfl <;> rfl
  · rcases hu with rfl | rfl <;> rfl
  · subst hu; rfl
theorem mvM_len (i : Int) (v : Vl) (ta tb tc : Int) (N : Nat) : AllLen v.len (mvM i v ta tb tc N) := by
  have z : ∀ {r : Int}, AllLen v.len ([], r) := by intro r u hu; simp at hu
  have o1 : ∀ {o p q r : Int} {m : Int}, AllLen v.len ([vput o v.len p q r], m) := by intro o p q r m u hu; simp at hu; subst hu; rfl
  have o3 : ∀ {o p q r o' p' q' r' o'' p'' q'' r'' : Int} {m : Int}, AllLen v.len ([vput o v.len p q r, vput o' v.len p' q' r', vput o'' v.len p'' q'' r''], m) := by
    intro o p q r o' p' q' r' o'' p'' q'' r'' m u hu
    simp at hu
    rcases hu with rfl | rfl | rfl <;> rfl
  have o4 : ∀ {o p q r o' p' q' r' o'' p'' q'' r'' a b c d : Int} {m : Int}, AllLen v.len ([vput o v.len p q r, vput o' v.len p' q' r', vput o'' v.len p'' q'' r'', vput a v.len b c d], m) := by
    intro o p q r o' p' q' r' o'' p'' q'' r'' a b c d m u hu
    simp at hu
    rcases hu with rfl | rfl | rfl | rfl <;> rfl
  have oc : AllLen v.len ([vput 3 v.len v.a v.b 0] ++ (chM v.len N ta tb (N + 1)).1, (chM v.len N ta tb (N + 1)).2) := by
    intro u hu
    simp only [List.mem_append] at hu
    rcases hu with h | h
    · simp at h; subst h; rfl
    · exact ch_len v.len N ta tb (N + 1) u h
  unfold mvM sumM difM mulM divM
  exact al_ite z (al_ite (al_ite z (al_ite z o1)) (al_ite (al_ite z (al_ite o1 o1)) (al_ite (al_ite (al_ite z o1) (al_ite o1 o3)) (al_ite (al_ite (al_ite z o3) (al_ite o1 o4)) (al_ite oc (al_ite (al_ite z (ch_len _ _ _ _ _)) (al_ite o1 o1)))))))
theorem jst_lens (vs : List Vl) (x t : Nat) (hl : ∀ j, j < vs.length → 1 ≤ (vs.getD j Vl.zero).len ∧ (vs.getD j Vl.zero).len ≤ 1000) : ∀ k, x + k < vs.length → ∀ u ∈ (jst vs x t k).1, 1 ≤ u.len ∧ u.len ≤ 1000
  | 0, _, u, hu => by
    unfold jst at hu
    simp only at hu
    obtain ⟨j, hj, rfl⟩ := List.getElem_of_mem hu
    have := hl j hj
    rw [List.getD_eq_getElem?_getD, List.getElem?_eq_getElem hj] at this
    exact this
  | k + 1, hk, u, hu => by
    unfold jst at hu
    simp only [List.mem_append] at hu
    rcases hu with h | h
    · exact jst_lens vs x t hl k (by omega) u h
    · unfold jmv at h
      rw [mvM_len _ _ _ _ _ _ u h]
      exact hl (x + 1 + k) (by omega)
theorem jfin_lens (vs : List Vl) (s x t : Nat) (hl : ∀ j, j < vs.length → 1 ≤ (vs.getD j Vl.zero).len ∧ (vs.getD j Vl.zero).len ≤ 1000) (hs : s < vs.length) (hx : x < vs.length) : ∀ k, k < (jfin vs s x t).1.length → 1 ≤ ((jfin vs s x t).1.getD k Vl.zero).len ∧ ((jfin vs s x t).1.getD k Vl.zero).len ≤ 1000 := by
  have key : ∀ u ∈ (jfin vs s x t).1, 1 ≤ u.len ∧ u.len ≤ 1000 := by
    intro u hu
    unfold jfin at hu
    split at hu
    · simp only [List.mem_append] at hu
      rcases hu with h | h
      · exact jst_lens vs x t hl (s - x) (by omega) u h
      · simp at h; subst h; exact hl s hs
    · exact jst_lens vs x t hl (s - x) (by omega) u hu
  intro k hk
  rw [List.getD_eq_getElem?_getD, List.getElem?_eq_getElem hk]
  exact key _ (List.getElem_mem _)

set_option maxRecDepth 100000 in
set_option maxHeartbeats 2000000 in
theorem l2fits (w : World) (a1 a2 a3 : Option Addr) (n1 c1 n2 c2 n3 c3 : Nat) (ins : List Int) (vs : List Vl) (outs : List Int) (f : GS w a1 n1 a2 n2 a3 n3 ins vs outs) (hl : ∀ k, k < n2 → 1 ≤ (vs.getD k Vl.zero).len ∧ (vs.getD k Vl.zero).len ≤ 1000) :
    Calls Try.prog 116 #[gagg a1 n1 c1 a2 n2 c2 a3 n3 c3] w fun e w' => e = .returned (.bool (!limB vs)) ∧ Kept 0 0 w w' := by
  have hn : vs.length = n2 := f.v.len
  have ka := kept_alloc 0 0 w (gbox a1 n1 c1 a2 n2 c2 a3 n3 c3)
  by_cases h2 : n2 ≤ 2000
  · have HX : Hid _ := l1cells _ a1 a2 a3 n1 c1 n2 c2 n3 c3 ins vs outs (f.keep ka) h2 hl
    have HK : Hid _ := ka
    have t1 : ((n2 : Int) ≤ 2000) := by omega
    by_cases hc : cellsV vs ≤ 50000
    · have e : limB vs = false := by unfold limB; rw [decide_eq_false (by omega)]
      rw [e]
      have t2 : decide (cellsV vs ≤ 50000) = true := decide_eq_true hc
      clear f hl hn ka e
      generalize cellsV vs = cv at HX t2 hc
      go_enter Try.func116, Try.ntmps116
      go_wp2_with fail
      refine Calls.mono HX.out ?_
      rintro e w2 ⟨rfl, k2⟩
      have R : Hid _ := Kept.trans HK.out k2
      clear k2 HX
      go_wp2
      go_ret
      exact ⟨rfl, R.out⟩
    · have e : limB vs = true := by unfold limB; rw [decide_eq_true (by omega)]
      rw [e]
      have t2 : decide (cellsV vs ≤ 50000) = false := decide_eq_false hc
      clear f hl hn ka e
      generalize cellsV vs = cv at HX t2 hc
      go_enter Try.func116, Try.ntmps116
      go_wp2_with fail
      refine Calls.mono HX.out ?_
      rintro e w2 ⟨rfl, k2⟩
      have R : Hid _ := Kept.trans HK.out k2
      clear k2 HX
      go_wp2
      go_ret
      exact ⟨rfl, R.out⟩
  · have e : limB vs = true := by unfold limB; rw [decide_eq_true (by omega)]
    rw [e]
    have t1 : ¬ ((n2 : Int) ≤ 2000) := by omega
    clear f hl hn e
    go_enter Try.func116, Try.ntmps116
    go_wp2
    go_ret
    exact ⟨rfl, ka⟩
end Go.Proofs.Ytcphabjekfihnaa
