import Derived.Test.YtcphabjekfihnabGreatP25
import Derived.Maps.OwnSet
import Derived.Maps.OwnOps
import Derived.DeepKeys4
namespace Go.Proofs.YtcphabjekfihnabGreat
open Go.RowKit Flt Go.Maps

/-! What two values have in common: a key of PassCommon's map. -/
def likeK (v : Vl) : Nat := if v.op = 1 then fb v.k else 0
def likeV (v : Vl) : Value := .agg #[.int .i64 v.op, .int .i64 v.len, .int .i64 v.a, .int .i64 v.b, .int .i64 v.c, .int .u64 (likeK v : Nat)]
def likeL (v : Vl) : Lit := .string (keyBytes [.int .i64 v.op, .int .i64 v.len, .int .i64 v.a, .int .i64 v.b, .int .i64 v.c, .int .u64 (likeK v : Nat)])
/-- Its fields are numbers of 64 bits. -/
structure Wf (v : Vl) : Prop where
  op : (Lit.int .i64 v.op).wf = true
  len : (Lit.int .i64 v.len).wf = true
  a : (Lit.int .i64 v.a).wf = true
  b : (Lit.int .i64 v.b).wf = true
  c : (Lit.int .i64 v.c).wf = true
  k : (Lit.int .u64 (likeK v : Nat)).wf = true
theorem laidOutX : laidOutB Tryz.prog = true := by kernel_rfl
theorem rowL : (86 : TypeId) < Tryz.prog.types.size := of_decide_eq_true (by kernel_rfl)
theorem wideL : (match Tryz.prog.underlying 86 with | some (.array _ _) | some (.struct _) => true | _ => false) = true := by kernel_rfl
set_option maxRecDepth 100000 in
theorem lawL : WideMaps.KeyLaw Tryz.prog 86 := deep_law_laid laidOutX (m := 2) (by omega) rowL (by kernel_rfl) wideL
theorem keyedL : Keyed Tryz.prog 86 := Keyed.of_law lawL
theorem keyTypeL : Tryz.prog.keyType 86 = true := by kernel_rfl
theorem cellsL : Tryz.prog.cellsOf 86 = 6 := by kernel_rfl
theorem cellsI : Tryz.prog.cellsOf 3 = 1 := by kernel_rfl
theorem cellsU : Tryz.prog.cellsOf 84 = 1 := by kernel_rfl
theorem sizeT : ∃ m, Tryz.prog.types.size = m + 1 := Nat.exists_eq_succ_of_ne_zero (Nat.ne_of_gt (Nat.lt_of_le_of_lt (Nat.zero_le _) rowL))
theorem zeroI (w : World) : (zeroValue 3).run Tryz.prog w = .ok (.int .i64 0) w := by kernel_rfl
set_option maxRecDepth 100000 in
theorem likeKey {v : Vl} (h : Wf v) : keyOf Tryz.prog 86 (likeV v) = some (likeL v) := by
  obtain ⟨m, hm⟩ := sizeT
  unfold keyOf
  simp only [Tryz.underlying86]
  rw [if_pos (by rw [keyTypeL]; simp [Value.formed, Tryz.underlying86, likeV, cellsL]), hm]
  unfold Program.keyLits
  simp only [Tryz.underlying86, likeV, Value.cells]
  rw [if_pos ⟨by rw [cellsL]; rfl, by kernel_rfl⟩]
  simp [cellsI, cellsU, Program.keyLits, Tryz.underlying3, Tryz.underlying84, h.op, h.len, h.a, h.b, h.c, h.k, likeL]
theorem likeL_inj {u v : Vl} (hu : Wf u) (hv : Wf v) (h : likeL u = likeL v) : likeV u = likeV v := lawL.inj (likeKey hu) (by rw [h]; exact likeKey hv)
theorem likeL_alike {u v : Vl} (hu : Wf u) (hv : Wf v) : likeL u = likeL v ↔ alike u v = true := by
  constructor
  · intro h
    have := likeL_inj hu hv h
    unfold likeV at this
    simp only [Value.agg.injEq, Array.mk.injEq, List.cons.injEq, Value.int.injEq, true_and, and_true] at this
    obtain ⟨e1, e2, e3, e4, e5, e6⟩ := this
    unfold likeK at e6
    unfold alike
    rw [e1, e2, e3, e4, e5]
    simp only [beq_self_eq_true, Bool.true_and]
    rw [e1] at e6
    by_cases c : v.op = 1
    · rw [if_pos c, if_pos c] at e6
      simp [Int.ofNat_inj.1 e6]
    · simp [c]
  · intro h
    unfold alike at h
    simp only [Bool.and_eq_true, beq_iff_eq, Bool.or_eq_true, bne_iff_ne] at h
    obtain ⟨⟨e1, e2, e3, e4, e5⟩, e6⟩ := h
    have ek : likeK u = likeK v := by
      unfold likeK
      rw [e1]
      by_cases c : v.op = 1
      · rw [if_pos c, if_pos c]
        rcases e6 with e6 | e6
        · exact absurd (e1.trans c) e6
        · exact e6
      · rw [if_neg c, if_neg c]
    unfold likeL
    rw [e1, e2, e3, e4, e5, ek]

/-- The map behind the first i values. -/
def comD (us : List Vl) : Nat → DataW Unit
  | 0 => .map []
  | i + 1 => if has (comD us i) (likeL (us.getD i Vl.zero)) = true then comD us i else (comD us i).put (likeL (us.getD i Vl.zero)) (.lit (.int .i64 (i : Nat)))
theorem isKeyL (v : Vl) : WideAt.IsKeyLit (likeL v) := by unfold likeL; trivial
theorem comD_map (us : List Vl) : ∀ i, IsMap (comD us i)
  | 0 => isMap_empty
  | i + 1 => by
    rw [comD]
    split
    · exact comD_map us i
    · exact (comD_map us i).put _ _
theorem comD_skip {us : List Vl} {v : Vl} {i : Nat} (e : likeL v ≠ likeL (us.getD i Vl.zero)) : has (comD us (i + 1)) (likeL v) = has (comD us i) (likeL v) ∧ ∀ z, (comD us (i + 1)).atKey (likeL v) z = (comD us i).atKey (likeL v) z := by
  rw [comD]
  split
  · exact ⟨rfl, fun _ => rfl⟩
  · exact ⟨has_put_other e _, fun z => atKey_put_other e _ z⟩
theorem comD_has (us : List Vl) (v : Vl) : ∀ i, has (comD us i) (likeL v) = true ↔ ∃ j, j < i ∧ likeL (us.getD j Vl.zero) = likeL v
  | 0 => by simp [comD, has]
  | i + 1 => by
    have ih := comD_has us v i
    by_cases e : likeL v = likeL (us.getD i Vl.zero)
    · have r : ∃ j, j < i + 1 ∧ likeL (us.getD j Vl.zero) = likeL v := ⟨i, Nat.lt_succ_self _, e.symm⟩
      simp only [r, iff_true]
      rw [comD]
      split
      · rename_i h; rw [e]; exact h
      · rw [e]; exact has_put_same (comD_map us i) (isKeyL _) _
    · rw [(comD_skip e).1, ih]
      constructor
      · rintro ⟨j, hj, h⟩
        exact ⟨j, by omega, h⟩
      · rintro ⟨j, hj, h⟩
        by_cases c : j = i
        · subst c; exact absurd h.symm e
        · exact ⟨j, by omega, h⟩
theorem comD_at (us : List Vl) (v : Vl) (j : Nat) (hj : likeL (us.getD j Vl.zero) = likeL v) (hf : ∀ q, q < j → likeL (us.getD q Vl.zero) ≠ likeL v) (z : DataW Unit) : ∀ i, j < i → (comD us i).atKey (likeL v) z = .lit (.int .i64 (j : Nat))
  | 0, h => by omega
  | i + 1, h => by
    by_cases c : j = i
    · subst c
      have hn : has (comD us j) (likeL (us.getD j Vl.zero)) = false := by
        cases hq : has (comD us j) (likeL (us.getD j Vl.zero))
        · rfl
        · obtain ⟨q, h1, h2⟩ := (comD_has us _ j).1 hq
          exact absurd (h2.trans hj) (hf q h1)
      rw [comD, hn, if_neg (by simp), ← hj]
      exact atKey_put_same (comD_map us j) (isKeyL _) _ _
    · have ih := comD_at us v j hj hf z i (by omega)
      by_cases e : likeL v = likeL (us.getD i Vl.zero)
      · rw [comD, if_pos ((comD_has us _ i).2 ⟨j, by omega, hj.trans e⟩)]
        exact ih
      · rw [(comD_skip e).2]
        exact ih
/-- The map says where the first like value stands. -/
theorem comD_find {us : List Vl} {v : Vl} (hu : ∀ j, j < us.length → Wf (us.getD j Vl.zero)) (hv : Wf v) :
    (has (comD us us.length) (likeL v) = false ∧ us.findIdx (alike · v) = us.length) ∨
    (has (comD us us.length) (likeL v) = true ∧ us.findIdx (alike · v) < us.length ∧ ∀ z, (comD us us.length).atKey (likeL v) z = .lit (.int .i64 (us.findIdx (alike · v) : Nat))) := by
  have at_ : ∀ {q : Nat} (h : q < us.length), us[q] = us.getD q Vl.zero := fun {q} h => by
    rw [List.getD_eq_getElem?_getD, List.getElem?_eq_getElem h]; rfl
  rcases Nat.lt_or_ge (us.findIdx (alike · v)) us.length with c | c
  · right
    have h1 : alike (us.getD (us.findIdx (alike · v)) Vl.zero) v = true := by
      have := List.findIdx_getElem (w := c)
      rw [at_ c] at this
      exact this
    have h2 : ∀ q, q < us.findIdx (alike · v) → likeL (us.getD q Vl.zero) ≠ likeL v := fun q hq e => by
      have := List.not_of_lt_findIdx hq
      rw [at_ (by omega)] at this
      exact absurd ((likeL_alike (hu q (by omega)) hv).1 e) (by simpa using this)
    have h3 := (likeL_alike (hu _ c) hv).2 h1
    exact ⟨(comD_has us v _).2 ⟨_, c, h3⟩, c, fun z => comD_at us v _ h3 h2 z _ c⟩
  · left
    have e : us.findIdx (alike · v) = us.length := Nat.le_antisymm (List.findIdx_le_length) c
    refine ⟨?_, e⟩
    cases hq : has (comD us us.length) (likeL v)
    · rfl
    · obtain ⟨q, h1, h2⟩ := (comD_has us v _).1 hq
      have := List.not_of_lt_findIdx (p := (alike · v)) (xs := us) (i := q) (by omega)
      rw [at_ h1] at this
      exact absurd ((likeL_alike (hu q h1) hv).1 h2) (by simpa using this)
theorem comD_step {us : List Vl} {v : Vl} : comD (us ++ [v]) (us.length + 1) = if has (comD us us.length) (likeL v) = true then comD us us.length else (comD us us.length).put (likeL v) (.lit (.int .i64 (us.length : Nat))) := by
  have pre : ∀ i, i ≤ us.length → comD (us ++ [v]) i = comD us i := by
    intro i
    induction i with
    | zero => intro _; rfl
    | succ i ih =>
      intro h
      rw [comD, comD, ih (by omega), getD_fstV _ _ (by omega)]
  rw [comD, pre _ (Nat.le_refl _), getD_lastV]
end Go.Proofs.YtcphabjekfihnabGreat

namespace Go.Proofs.YtcphabjekfihnabGreat
open Go.RowKit Flt
attribute [local go_sem] alloc_drewN setCell_drewN run_store_float

theorem mapO_len (tq outs : List Int) : (mapO tq outs).length = outs.length := by simp [mapO]
theorem mapO_set {tq outs : List Int} {k : Nat} (hk : k < outs.length) : ((mapO tq outs).take k ++ outs.drop k).set k (tq.getD (outs.getD k 0).toNat 0) = (mapO tq outs).take (k + 1) ++ outs.drop (k + 1) := by
  have e := set_takeI (mapO tq outs) outs k (by rw [mapO_len]; exact hk) (by rw [mapO_len])
  have : (mapO tq outs).getD k 0 = tq.getD (outs.getD k 0).toNat 0 := by
    unfold mapO
    rw [List.getD_eq_getElem?_getD, List.getElem?_map, List.getElem?_eq_getElem hk, List.getD_eq_getElem?_getD (l := outs), List.getElem?_eq_getElem hk]
    rfl
  rw [this] at e
  exact e
theorem drop_at {outs ys : List Int} {k : Nat} (hk : k < outs.length) (hy : ys.length = outs.length) : (ys.take k ++ outs.drop k).getD k 0 = outs.getD k 0 := by
  rw [List.getD_eq_getElem?_getD, List.getElem?_append_right (by simp; omega), List.getD_eq_getElem?_getD, List.getElem?_drop]
  congr 2
  simp
  omega
set_option maxRecDepth 100000 in
set_option maxHeartbeats 4000000 in
theorem renumberOuts (w : World) (a1 a2 : Option Addr) (n1 c1 n2 c2 g3 n3 c3 lo hi : Nat) (a : Option Addr) (n cap : Nat) (tq outs : List Int) (f : IBk w g3 n3 outs) (t : IS w lo hi a n tq) (hd : hi ≤ g3 ∨ g3 < lo) (h : ∀ o ∈ outs, 0 ≤ o ∧ o < n) (hn : n3 ≤ 1000000) :
    Calls Tryz.prog 67 #[gagg a1 n1 c1 a2 n2 c2 (some ⟨g3, 0, none⟩) n3 c3, .slice a n cap] w fun e w' => e = .returned (.tuple #[]) ∧ IBk w' g3 n3 (mapO tq outs) ∧ Kept g3 (g3 + 1) w w' := by
  have k0 := kept_alloc 0 0 w (gbox a1 n1 c1 a2 n2 c2 (some ⟨g3, 0, none⟩) n3 c3)
  have HB : Hid _ := g0_start w (.slice a1 n1 c1) (.slice a2 n2 c2) (.slice (some ⟨g3, 0, none⟩) n3 c3)
  have HF : Hid _ := f.keep k0 (.inr (.inr (Nat.le_refl _)))
  have HT : Hid _ := t.keep k0 (.inr (.inr (Nat.le_refl _)))
  have HL : Hid (outs.length = n3) := f.len
  have HG : Hid (g3 < w.heap.size) := f.lt
  have HO : Hid _ := h
  have HK0 : Hid (Kept g3 (g3 + 1) w (w.alloc (gbox a1 n1 c1 a2 n2 c2 (some ⟨g3, 0, none⟩) n3 c3))) := kept_alloc _ _ _ _
  clear f t h k0
  obtain ⟨_, q0, q1, q2⟩ := HB.out
  go_enter Tryz.func67, Tryz.ntmps67
  go_wp2_with fail
  clear q0 q1 q2
  generalize w.alloc (gbox a1 n1 c1 a2 n2 c2 (some ⟨g3, 0, none⟩) n3 c3) = w1 at HB HF HT HK0 ⊢
  go_loopw [9] (fun i W => ∃ k : Nat, k ≤ n3 ∧ i = .int .i64 k ∧ Hid (IBk W g3 n3 ((mapO tq outs).take k ++ outs.drop k)) ∧ Hid (Kept g3 (g3 + 1) w1 W)) (fun i _ => n3 - (intOf i).toNat)
  case atStart => exact ⟨0, Nat.zero_le _, rfl, by simpa using HF, Kept.refl _ _ _⟩
  case round =>
    obtain ⟨k, hk, rfl, hF, hK⟩ := hrel
    clear HF
    by_cases hlt : k < n3
    · have ho := HO.out (outs.getD k 0) (getD_memJ (by rw [HL.out]; exact hlt))
      obtain ⟨g, off, m, rfl, em, hm, hg, ct⟩ := (IS.keep HT.out hK.out (by omega)).at_idx ho.1 ho.2
      have c1' := hF.out.at_ k hlt
      rw [drop_at (by rw [HL.out]; exact hlt) (mapO_len _ _), em] at c1'
      have fz := hF.out.free k
      obtain ⟨_, q0, q1, q2⟩ := G0.keepT HB.out hK.out (by have := HG.out; omega)
      have R1 : Hid _ := IBk.put hF.out k hlt (tq.getD (outs.getD k 0).toNat 0)
      rw [mapO_set (by rw [HL.out]; exact hlt)] at R1
      have R2 : Hid _ := Kept.trans hK.out (kept_setCell (lo := g3) (hi := g3 + 1) wr ⟨g3, k, none⟩ (.int .i64 (tq.getD (outs.getD k 0).toNat 0)) (.inl ⟨Nat.le_refl _, Nat.lt_succ_self _⟩))
      generalize tq.getD (outs.getD k 0).toNat 0 = x at ct R1 R2
      clear hF hK ho em
      go_wp2_with fail
      go_region
      all_goals
        go_wp2
        go_roundw
        case rel => exact ⟨k + 1, by omega, by go_num, IBk.keep R1.out (kept_drew _) (.inr (.inr (Nat.le_refl _))), Kept.drew R2.out⟩
        case measure => simp [intOf]; omega
    · obtain rfl : k = n3 := by omega
      have R1 : Hid (IBk wr g3 k (mapO tq outs)) := by
        have := hF.out
        rw [List.take_of_length_le (by rw [mapO_len, HL.out]; omega), List.drop_of_length_le (by rw [HL.out]; omega), List.append_nil] at this
        exact this
      have R2 : Hid _ := Kept.trans HK0.out hK.out
      clear hF hK
      go_wp2
      go_end0
      exact ⟨rfl, R1.out, R2.out⟩
end Go.Proofs.YtcphabjekfihnabGreat

namespace Go.Proofs.YtcphabjekfihnabGreat
open Go.RowKit Flt
attribute [local go_sem] alloc_drewN setCell_drewN run_store_float

theorem setAll_take (F : List Bool) (os : List Int) {k : Nat} (hk : k < os.length) : setAll F (os.take (k + 1)) = (setAll F (os.take k)).set (os.getD k 0).toNat true := by
  unfold setAll
  rw [List.take_succ_eq_append_getElem hk, List.foldl_append, List.getD_eq_getElem?_getD, List.getElem?_eq_getElem hk]
  rfl
theorem ndI_step {vs : List Vl} {outs : List Int} {k : Nat} {b : Bool} (hb : (ndI vs outs k).getD (vs.length - 1 - k) false = b) : ndI vs outs (k + 1) = if b = true then setAll (ndI vs outs k) (opsOf (vs.getD (vs.length - 1 - k) Vl.zero)) else ndI vs outs k := by
  rw [ndI, hb]
set_option maxRecDepth 100000 in
set_option maxHeartbeats 8000000 in
theorem neededVals (w : World) (a1 : Option Addr) (n1 c1 g2 n2 c2 g3 n3 c3 : Nat) (vs : List Vl) (outs : List Int) (hv : VA w g2 n2 vs) (ho : IBk w g3 n3 outs) (hops : ∀ i, i < n2 → ∀ o ∈ opsOf (vs.getD i Vl.zero), 0 ≤ o ∧ o < i) (houts : ∀ o ∈ outs, 0 ≤ o ∧ o < n2) (hn : n2 ≤ 2000) (hn3 : n3 ≤ 1000000) :
    Calls Tryz.prog 65 #[gagg a1 n1 c1 (some ⟨g2, 0, none⟩) n2 c2 (some ⟨g3, 0, none⟩) n3 c3] w fun e w' => ∃ G, e = .returned (.slice (some ⟨G, 0, none⟩) n2 n2) ∧ w.heap.size ≤ G ∧ BR w' G (ndI vs outs n2) ∧ Kept 0 0 w w' := by
  have k0 := kept_alloc 0 0 w (gbox a1 n1 c1 (some ⟨g2, 0, none⟩) n2 c2 (some ⟨g3, 0, none⟩) n3 c3)
  have hB := g0_start w (.slice a1 n1 c1) (.slice (some ⟨g2, 0, none⟩) n2 c2) (.slice (some ⟨g3, 0, none⟩) n3 c3)
  have hz : (w.alloc (gbox a1 n1 c1 (some ⟨g2, 0, none⟩) n2 c2 (some ⟨g3, 0, none⟩) n3 c3)).heap.size = w.heap.size + 1 := by simp
  have hm := make_b n2 (w.alloc (gbox a1 n1 c1 (some ⟨g2, 0, none⟩) n2 c2 (some ⟨g3, 0, none⟩) n3 c3)) (by omega)
  have hBR := BR.made (w.alloc (gbox a1 n1 c1 (some ⟨g2, 0, none⟩) n2 c2 (some ⟨g3, 0, none⟩) n3 c3)) n2
  have k1 := kept_alloc 0 0 (w.alloc (gbox a1 n1 c1 (some ⟨g2, 0, none⟩) n2 c2 (some ⟨g3, 0, none⟩) n3 c3)) (.cells (madeCells #[.bool false] n2) 4)
  rw [hz] at hm hBR
  have HB : Hid _ := hB.keep k1
  have HV : Hid _ := hv.keep (k0.trans k1) (.inr (.inr (Nat.le_refl _)))
  have HO : Hid _ := ho.keep (k0.trans k1) (.inr (.inr (Nat.le_refl _)))
  have HK : Hid _ := k0.trans k1
  have HBR : Hid _ := hBR
  have HL : Hid (vs.length = n2 ∧ outs.length = n3) := ⟨hv.len, ho.len⟩
  have HG : Hid (g2 < w.heap.size ∧ g3 < w.heap.size) := ⟨hv.lt, ho.lt⟩
  have HP : Hid ((∀ i, i < n2 → ∀ o ∈ opsOf (vs.getD i Vl.zero), 0 ≤ o ∧ o < i) ∧ (∀ o ∈ outs, 0 ≤ o ∧ o < n2)) := ⟨hops, houts⟩
  clear hv ho hops houts k0 k1 hBR hz
  obtain ⟨_, q0, q1, q2⟩ := hB
  obtain ⟨_, p0, p1, p2⟩ := HB.out
  go_enter Tryz.func65, Tryz.ntmps65
  go_wp2_with fail
  clear q0 q1 q2 p0 p1 p2 hm
  generalize (w.alloc (gbox a1 n1 c1 (some ⟨g2, 0, none⟩) n2 c2 (some ⟨g3, 0, none⟩) n3 c3)).alloc (.cells (madeCells #[.bool false] n2) 4) = w1 at HB HV HO HK HBR ⊢
  go_loopw [16] (fun i W => ∃ k : Nat, k ≤ n3 ∧ i = .int .i64 k ∧ Hid (BR W (w.heap.size + 1) (setAll (List.replicate n2 false) (outs.take k))) ∧ Hid (Kept (w.heap.size + 1) (w.heap.size + 2) w1 W)) (fun i _ => n3 - (intOf i).toNat)
  case atStart => exact ⟨0, Nat.zero_le _, rfl, HBR, Kept.refl _ _ _⟩
  case round =>
    obtain ⟨k, hk, rfl, hF, hK⟩ := hrel
    clear HBR
    by_cases hlt : k < n3
    · have hob := HP.out.2 (outs.getD k 0) (getD_memJ (by rw [HL.out.2]; exact hlt))
      obtain ⟨m, em, hm⟩ : ∃ m : Nat, outs.getD k 0 = m ∧ m < n2 := ⟨(outs.getD k 0).toNat, by omega, by omega⟩
      have c1' := (IBk.keep HO.out hK.out (by have := HG.out; omega)).at_ k hlt
      rw [em] at c1'
      have hl : (setAll (List.replicate n2 false) (outs.take k)).length = n2 := by rw [setAll_len]; simp
      have c2' := hF.out.cell m (by omega)
      have fz := hF.out.free m
      have R1 : Hid _ := BR.set hF.out m true
      rw [show m = (outs.getD k 0).toNat by omega, ← setAll_take _ _ (by rw [HL.out.2]; exact hlt), ← show m = (outs.getD k 0).toNat by omega] at R1
      have R2 : Hid _ := Kept.trans hK.out (kept_setCell (lo := w.heap.size + 1) (hi := w.heap.size + 2) wr ⟨w.heap.size + 1, m, none⟩ (.bool true) (.inl ⟨Nat.le_refl _, Nat.lt_succ_self _⟩))
      generalize (setAll (List.replicate n2 false) (outs.take k)).getD m false = z at c2'
      clear hF hK hob em hl
      go_wp2
      go_roundw
      case rel => exact ⟨k + 1, by omega, by go_num, R1, R2⟩
      case measure => simp [intOf]; omega
    · obtain rfl : k = n3 := by omega
      have HF0 : Hid (BR wr (w.heap.size + 1) (ndI vs outs 0)) := by
        have := hF.out
        rw [List.take_of_length_le (by rw [HL.out.2]; omega)] at this
        show BR _ _ _
        rw [ndI, HL.out.1]
        exact this
      have HK0 : Hid _ := hK.out
      clear hF hK
      obtain ⟨_, p0, p1, p2⟩ := G0.keepT HB.out HK0.out (by omega)
      go_wp2_with fail
      clear p0 p1 p2
      go_loopw [6] (fun x W => ∃ j : Nat, j ≤ n2 ∧ x = .int .i64 ((n2 : Int) - 1 - j) ∧ Hid (BR W (w.heap.size + 1) (ndI vs outs j)) ∧ Hid (Kept (w.heap.size + 1) (w.heap.size + 2) w1 W)) (fun x _ => (intOf x + 1).toNat)
      case atStart => exact ⟨0, Nat.zero_le _, by go_num, HF0, HK0⟩
      case round =>
        obtain ⟨j, hj, rfl, hF, hK⟩ := hrel
        clear HF0 HK0
        by_cases hlt : j < n2
        · have hjl : n2 - 1 - j < n2 := by omega
          obtain ⟨i, hi⟩ : ∃ i : Nat, i = n2 - 1 - j := ⟨_, rfl⟩
          have hi2 : (n2 : Int) - 1 - j = i := by omega
          have hi3 : i < n2 := by omega
          rw [hi2]
          have HI0 : Hid (i = n2 - 1 - j) := hi
          have HI1 : Hid ((n2 : Int) - 1 - j = i) := hi2
          clear hi hi2 hjl
          have hln := ndI_len vs outs j
          have cb := hF.out.cell i (by rw [hln, HL.out.1]; exact hi3)
          cases hb : (ndI vs outs j).getD i false
          · have R1 : Hid (BR wr (w.heap.size + 1) (ndI vs outs (j + 1))) := by
              show BR _ _ _
              rw [ndI_step (b := false) (by rw [HL.out.1, ← HI0.out]; exact hb), if_neg (by simp)]
              exact hF.out
            have R2 : Hid _ := hK.out
            rw [hb] at cb
            clear hF hK hln hb
            go_wp2
            go_roundw
            case rel => exact ⟨j + 1, by omega, by have := HI1.out; congr 1 <;> omega, R1, R2⟩
            case measure => have := HI1.out; simp [intOf] <;> omega
          · rw [hb] at cb
            have hat := (VA.keep HV.out hK.out (by have := HG.out; omega)).at_ i hi3
            have HOP : Hid _ := HP.out.1 i hi3
            have HN : Hid (ndI vs outs (j + 1) = setAll (ndI vs outs j) (opsOf (vs.getD i Vl.zero))) := by
              show _ = _
              rw [ndI_step (b := true) (by rw [HL.out.1, ← HI0.out]; exact hb), if_pos rfl, HL.out.1, ← HI0.out]
            have HLN : Hid ((ndI vs outs j).length = n2) := by show _ = _; rw [hln, HL.out.1]
            generalize vs.getD i Vl.zero = v at hat HOP HN
            obtain ⟨y0, y1, y2, y3, y4, y5⟩ := hat
            obtain ⟨_, p0, p1, p2⟩ := G0.keepT HB.out hK.out (by omega)
            clear hb hln
            go_wp2_with fail
            clear y0 y1 y2 y3 y4 y5 p0 p1 p2 cb
            refine Calls.mono (operandsOf wr v) ?_
            rintro e w2 ⟨gq, rfl, hI, hgq, k2⟩
            have HI : Hid _ := hI
            have HK2 : Hid _ := Kept.trans hK.out (k2.mono (lo' := w.heap.size + 1) (hi' := w.heap.size + 2) fun b _ c => by omega)
            have HF2 : Hid _ := BR.keep hF.out k2 (.inr (.inr (Nat.le_refl _)))
            have HS2 : Hid (w.heap.size + 2 ≤ wr.heap.size) := hF.out.lt
            clear hI hgq k2 hF hK
            generalize ndI vs outs j = F at HF2 HN HLN
            have hc3 := cnt_le v.op
            go_wp2_with fail
            go_loopw [44] (fun x W => ∃ q : Nat, q ≤ cnt v.op ∧ x = .int .i64 q ∧ Hid (BR W (w.heap.size + 1) (setAll F ((opsOf v).take q))) ∧ Hid (Kept (w.heap.size + 1) (w.heap.size + 2) w1 W) ∧ Hid (IS W wr.heap.size w2.heap.size (some ⟨gq, 0, none⟩) (cnt v.op) (opsOf v))) (fun x _ => cnt v.op - (intOf x).toNat)
            case atStart => exact ⟨0, Nat.zero_le _, rfl, HF2, HK2, HI⟩
            case round =>
              obtain ⟨q, hq, rfl, hF, hK, hI⟩ := hrel
              clear HF2 HK2 HI
              by_cases hql : q < cnt v.op
              · have hmem : (opsOf v).getD q 0 ∈ opsOf v := getD_memJ (by rw [opsOf_len]; exact hql)
                have hob := HOP.out _ hmem
                obtain ⟨m, em, hm⟩ : ∃ m : Nat, (opsOf v).getD q 0 = m ∧ m < n2 := ⟨((opsOf v).getD q 0).toNat, by omega, by omega⟩
                obtain ⟨ga, oa, ka, ea, eq1, _, _, c1'⟩ := hI.out.at_idx (o := q) (by omega) (by omega)
                cases ea
                rw [Int.toNat_natCast, em, Nat.zero_add] at c1'
                obtain rfl : q = ka := by omega
                have hl : (setAll F ((opsOf v).take q)).length = n2 := by rw [setAll_len]; exact HLN.out
                have c2' := hF.out.cell m (by omega)
                have fz := hF.out.free m
                have R1 : Hid _ := BR.set hF.out m true
                rw [show m = ((opsOf v).getD q 0).toNat by omega, ← setAll_take _ _ (by rw [opsOf_len]; exact hql), ← show m = ((opsOf v).getD q 0).toNat by omega] at R1
                have kp := kept_setCell (lo := w.heap.size + 1) (hi := w.heap.size + 2) wr ⟨w.heap.size + 1, m, none⟩ (.bool true) (.inl ⟨Nat.le_refl _, Nat.lt_succ_self _⟩)
                have R2 : Hid _ := Kept.trans hK.out kp
                have R3 : Hid _ := IS.keep hI.out kp (by have := HS2.out; omega)
                generalize (setAll F ((opsOf v).take q)).getD m false = z at c2'
                clear hF hK hI hob em hl kp hmem
                go_wp2
                go_roundw
                case rel => exact ⟨q + 1, by omega, by go_num, R1, R2, R3⟩
                case measure => simp [intOf]; omega
              · obtain rfl : q = cnt v.op := by omega
                have R1 : Hid (BR wr (w.heap.size + 1) (ndI vs outs (j + 1))) := by
                  have := hF.out
                  rw [List.take_of_length_le (by rw [opsOf_len]; omega)] at this
                  show BR _ _ _
                  rw [HN.out]
                  exact this
                have R2 : Hid _ := hK.out
                clear hF hK hI
                go_wp2
                go_roundw
                case rel => exact ⟨j + 1, by omega, by have := HI1.out; congr 1 <;> omega, R1, R2⟩
                case measure => have := HI1.out; simp [intOf] <;> omega
        · obtain rfl : j = n2 := by omega
          have hx : (j : Int) - 1 - j = -1 := by omega
          rw [hx]
          have R1 : Hid _ := hF.out
          have R2 : Hid (Kept 0 0 w wr) := HK.out.new hK.out (by omega)
          clear hF hK
          go_wp2
          go_ret
          exact ⟨_, rfl, by omega, R1.out, R2.out⟩
end Go.Proofs.YtcphabjekfihnabGreat
