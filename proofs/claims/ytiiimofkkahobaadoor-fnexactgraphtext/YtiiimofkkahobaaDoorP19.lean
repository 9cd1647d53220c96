import Derived.Test.YtiiimofkkahobaaDoorP18
namespace Go.Proofs.YtiiimofkkahobaaDoor
open Go.RowKit Flt
/-! The words of a line, joined, are the line. -/
def jn (ws : List (List UInt8)) : List UInt8 := ws.flatMap fun l => 32 :: l
theorem jn_app (a b : List (List UInt8)) : jn (a ++ b) = jn a ++ jn b := by unfold jn; rw [List.flatMap_append]
theorem jn_one (a : List UInt8) : jn [a] = 32 :: a := by simp [jn]
theorem joinW_cons : ∀ (a : List UInt8) (r : List (List UInt8)), joinW (a :: r) = a ++ jn r
  | a, [] => by simp [joinW, jn]
  | a, b :: r => by
    have h := joinW_cons b r
    unfold joinW at h ⊢
    rw [List.intercalate_cons_cons, h]
    simp [jn]
theorem jn_ops (v : Vl) : ∀ k, jn (opsTo v k) = oprT v k
  | 0 => rfl
  | k + 1 => by rw [opsTo, jn_app, jn_ops v k, jn_one, oprT]; rfl
theorem jn_parts (v : Vl) : jn (partsW v) = mid0 v ++ mid1 v ++ oprT v (cnt v.op) ++ mid2 v := by
  unfold partsW mid0 mid1 mid2
  by_cases h0 : v.op = 0
  · rw [if_pos h0, if_pos h0, if_neg (by omega), if_neg (by omega), show cnt v.op = 0 by rw [h0]; rfl, jn_one]
    simp [oprT]
  · by_cases h1 : v.op = 1
    · rw [if_neg h0, if_pos h1, if_neg h0, if_pos h1, if_neg (by omega), show cnt v.op = 0 by rw [h1]; rfl, jn_one]
      simp [oprT]
    · rw [if_neg h0, if_neg h1, if_neg h0, if_neg h1, jn_app, jn_ops]
      unfold placeB
      by_cases h2 : v.op = 11 ∨ v.op = 12
      · rw [if_pos (by simpa using h2), if_pos h2, jn_one]; simp
      · rw [if_neg (by simpa using h2), if_neg h2]; simp [jn]
/-- The words of a value's line. -/
def wordsV (i : Nat) (v : Vl) : List (List UInt8) := [[118] ++ dec10 i, [61], opW v.op] ++ partsW v ++ [[58], decI v.len]
theorem line_val (i : Nat) (v : Vl) : joinW (wordsV i v) ++ [10] = valL i v := by
  unfold wordsV valL
  rw [show [[118] ++ dec10 i, [61], opW v.op] ++ partsW v ++ [[58], decI v.len] = ([118] ++ dec10 i) :: ([[61], opW v.op] ++ partsW v ++ [[58], decI v.len]) from rfl, joinW_cons, jn_app, jn_app, jn_parts]
  simp [jn]
theorem line_in (n : Int) : joinW [[105, 110], decI n] ++ [10] = inL n := by
  rw [joinW_cons]; simp [jn, inL]
theorem line_out (n : Int) : joinW [[111, 117, 116], [118] ++ decI n] ++ [10] = outL n := by
  rw [joinW_cons]; simp [jn, outL]
theorem parts_len (v : Vl) (h : 2 ≤ v.op → v.op ≤ 13) (h0 : 0 ≤ v.op) : 0 < (partsW v).length ∧ (partsW v).length ≤ 4 := by
  unfold partsW
  by_cases e0 : v.op = 0
  · rw [if_pos e0]; simp
  · by_cases e1 : v.op = 1
    · rw [if_neg e0, if_pos e1]; simp
    · rw [if_neg e0, if_neg e1, List.length_append, opsTo_len]
      have hc := cnt_le v.op
      have hp : 0 < cnt v.op := by
        unfold cnt
        split
        · omega
        · split
          · omega
          · split
            · omega
            · exfalso; have := h (by omega); omega
      split <;> simp <;> omega
end Go.Proofs.YtiiimofkkahobaaDoor

namespace Go.Proofs.YtiiimofkkahobaaDoor
open Go.RowKit Flt
attribute [local go_sem] alloc_drewN setCell_drewN run_store_float
/-! Both texts of a graph that is not valid. -/
set_option maxRecDepth 100000 in
set_option maxHeartbeats 2000000 in
theorem implText_bad (w : World) (a1 a2 a3 : Option Addr) (n1 c1 n2 c2 n3 c3 : Nat) (ins : List Int) (vs : List Vl) (outs : List Int) (f : GS w a1 n1 a2 n2 a3 n3 ins vs outs) (h : okG ins vs outs = false) :
    Calls Tryd.prog 7 #[gagg a1 n1 c1 a2 n2 c2 a3 n3 c3] w fun e w' => e = .returned (.slice none 0 0) ∧ Kept 0 0 w w' := by
  have hK := kept_alloc 0 0 w (gbox a1 n1 c1 a2 n2 c2 a3 n3 c3)
  have HX : Hid _ := implValid _ a1 a2 a3 n1 c1 n2 c2 n3 c3 ins vs outs (f.keep hK)
  rw [h] at HX
  have HK : Hid _ := hK
  clear hK h f
  go_enter Tryd.func7, Tryd.ntmps7
  go_wp2_with fail
  refine Calls.mono HX.out ?_
  rintro e w2 ⟨rfl, k2⟩
  go_wp2
  go_ret
  exact ⟨rfl, Kept.trans HK.out k2⟩
set_option maxRecDepth 100000 in
set_option maxHeartbeats 2000000 in
theorem specText_bad (w : World) (a1 a2 a3 : Option Addr) (n1 c1 n2 c2 n3 c3 : Nat) (ins : List Int) (vs : List Vl) (outs : List Int) (f : GS w a1 n1 a2 n2 a3 n3 ins vs outs) (h : okG ins vs outs = false) :
    Calls Tryd.prog 5 #[gagg a1 n1 c1 a2 n2 c2 a3 n3 c3] w fun e w' => e = .returned (.slice none 0 0) ∧ Kept 0 0 w w' := by
  have hK := kept_alloc 0 0 w (gbox a1 n1 c1 a2 n2 c2 a3 n3 c3)
  have HX : Hid _ := specValid _ a1 a2 a3 n1 c1 n2 c2 n3 c3 ins vs outs (f.keep hK)
  rw [h] at HX
  have HK : Hid _ := hK
  clear hK h f
  go_enter Tryd.func5, Tryd.ntmps5
  go_wp2_with fail
  refine Calls.mono HX.out ?_
  rintro e w2 ⟨rfl, k2⟩
  go_wp2
  go_ret
  exact ⟨rfl, Kept.trans HK.out k2⟩
end Go.Proofs.YtiiimofkkahobaaDoor

namespace Go.Proofs.YtiiimofkkahobaaDoor
open Go.RowKit Flt
/-! How long the lines and the text are. -/
theorem dec_le : ∀ (k n : Nat), n < 10 ^ (k + 1) → (dec10 n).length ≤ k + 1
  | 0, n, h => by rw [dec10, if_pos (by simpa using h)]; simp
  | k + 1, n, h => by
    rw [dec10]
    split
    · simp
    · rw [List.length_append]
      have h1 := dec_le k (n / 10) (by rw [Nat.pow_succ] at h; omega)
      have h2 : (dec10 (n % 10)).length = 1 := by rw [dec10, if_pos (by omega)]; rfl
      omega
theorem decI_le {n : Int} (h : Sml n) : (decI n).length ≤ 6 := dec_le 5 n.toNat (by have := h.1; have := h.2; omega)
theorem ite_le5 {c : Prop} [Decidable c] {a b : List UInt8} (h1 : a.length ≤ 5) (h2 : b.length ≤ 5) : (if c then a else b).length ≤ 5 := by split <;> assumption
theorem opW_le (op : Int) : (opW op).length ≤ 5 := by
  unfold opW
  repeat (refine ite_le5 (by decide) ?_)
  decide
theorem jn_le : ∀ (ws : List (List UInt8)), (∀ l ∈ ws, l.length ≤ 20) → (jn ws).length ≤ 21 * ws.length
  | [], _ => by simp [jn]
  | a :: r, h => by
    have h1 := jn_le r (fun l hl => h l (List.mem_cons_of_mem _ hl))
    have h2 := h a (List.mem_cons_self ..)
    rw [show a :: r = [a] ++ r from rfl, jn_app, jn_one, List.length_append, List.length_append, List.length_cons]
    simp only [List.length_cons, List.length_nil]
    omega
theorem joinW_le (ws : List (List UInt8)) (h : ∀ l ∈ ws, l.length ≤ 20) : (joinW ws).length ≤ 21 * ws.length := by
  cases ws with
  | nil => simp [joinW]
  | cons a r =>
    rw [joinW_cons, List.length_append, List.length_cons]
    have h1 := jn_le r (fun l hl => h l (List.mem_cons_of_mem _ hl))
    have h2 := h a (List.mem_cons_self ..)
    omega
theorem opsTo_le (v : Vl) (S : SmV v) : ∀ k, k ≤ 3 → ∀ l ∈ opsTo v k, l.length ≤ 20
  | 0, _, l, hl => by cases hl
  | k + 1, hk, l, hl => by
    rcases List.mem_append.1 hl with c | c
    · exact opsTo_le v S k (by omega) l c
    · simp only [List.mem_singleton] at c
      subst c
      have := decI_le (S.f k (by omega))
      rw [List.length_append]
      simp only [List.length_cons, List.length_nil]
      omega
theorem parts_le (v : Vl) (S : SmV v) : ∀ l ∈ partsW v, l.length ≤ 20 := by
  intro l hl
  unfold partsW at hl
  by_cases h0 : v.op = 0
  · rw [if_pos h0] at hl
    simp only [List.mem_singleton] at hl
    subst hl
    have := decI_le S.a
    omega
  · by_cases h1 : v.op = 1
    · rw [if_neg h0, if_pos h1] at hl
      simp only [List.mem_singleton] at hl
      subst hl
      rw [hexN_ln]; omega
    · rw [if_neg h0, if_neg h1] at hl
      rcases List.mem_append.1 hl with c | c
      · exact opsTo_le v S _ (cnt_le _) l c
      · split at c
        · simp only [List.mem_singleton] at c
          subst c
          have := decI_le S.c
          rw [List.length_append]
          simp only [List.length_cons, List.length_nil]
          omega
        · cases c
theorem words_le (i : Nat) (v : Vl) (S : SmV v) (hi : i ≤ 2000) : (wordsV i v).length ≤ 9 ∧ 0 < (joinW (wordsV i v)).length ∧ (joinW (wordsV i v)).length ≤ 200 := by
  have hp := parts_len v (fun _ => S.op.2) S.op.1
  have hl : (wordsV i v).length ≤ 9 := by
    unfold wordsV
    simp only [List.length_append, List.length_cons, List.length_nil]
    omega
  have h1 := joinW_le (wordsV i v) (fun l hl => by
    unfold wordsV at hl
    rcases List.mem_append.1 hl with c | c
    · rcases List.mem_append.1 c with c | c
      · simp only [List.mem_cons, List.not_mem_nil, or_false] at c
        rcases c with rfl | rfl | rfl
        · have := dec_le 5 i (by omega)
          rw [List.length_append]
          simp only [List.length_cons, List.length_nil]
          omega
        · simp
        · have := opW_le v.op; omega
      · exact parts_le v S l c
    · simp only [List.mem_cons, List.not_mem_nil, or_false] at c
      rcases c with rfl | rfl
      · simp
      · have := decI_le S.len; omega)
  refine ⟨hl, ?_, by omega⟩
  unfold wordsV
  rw [show [[118] ++ dec10 i, [61], opW v.op] ++ partsW v ++ [[58], decI v.len] = ([118] ++ dec10 i) :: ([[61], opW v.op] ++ partsW v ++ [[58], decI v.len]) from rfl, joinW_cons]
  simp
theorem cells2 (w : World) (a b : List UInt8) : ∀ (j : Nat) x, [a, b][j]? = some x → (w.alloc (.cells #[strL a, strL b] 9)).cell? ⟨w.heap.size, 0 + j, none⟩ = some (strL x) := by
  intro j x e
  rw [Nat.zero_add, World.cell?_alloc_new]
  match j, e with
  | 0, e => cases e; rfl
  | 1, e => cases e; rfl
theorem yb_kept {w W W' : World} {v : Value} {bs : List Int} {B : Nat} (hB : w.heap.size ≤ B) (k : Kept 0 0 w W) (f : YB W B v bs) (c : Chg (fun b => v.ownBlock = some b) W W') : Kept 0 0 w W' :=
  ⟨c.os.trans k.os, c.tape.trans k.tape, c.output.trans k.output, Nat.le_trans k.size c.size, fun i hi hn => (c.block i (Nat.lt_of_lt_of_le hi k.size) (fun h => by have := (f.blk h).1; omega)).trans (k.block i hi hn)⟩
end Go.Proofs.YtiiimofkkahobaaDoor

namespace Go.Proofs.YtiiimofkkahobaaDoor
open Go.RowKit Flt
attribute [local go_sem] alloc_drewN setCell_drewN run_store_float
theorem inL_le {n : Int} (h : Sml n) : (inL n).length ≤ 10 := by
  have := decI_le h
  unfold inL
  simp only [List.length_append, List.length_cons, List.length_nil]
  omega
theorem outL_le {n : Int} (h : Sml n) : (outL n).length ≤ 12 := by
  have := decI_le h
  unfold outL
  simp only [List.length_append, List.length_cons, List.length_nil]
  omega
theorem insT_le {ins : List Int} (h : ∀ k, k < ins.length → Sml (ins.getD k 0)) : ∀ k, k ≤ ins.length → (insT ins k).length ≤ 10 * k
  | 0, _ => by simp [insT]
  | k + 1, hk => by
    have := insT_le h k (by omega)
    have := inL_le (h k (by omega))
    rw [insT, List.length_append]
    omega
theorem outsT_le {outs : List Int} (h : ∀ k, k < outs.length → Sml (outs.getD k 0)) : ∀ k, k ≤ outs.length → (outsT outs k).length ≤ 12 * k
  | 0, _ => by simp [outsT]
  | k + 1, hk => by
    have := outsT_le h k (by omega)
    have := outL_le (h k (by omega))
    rw [outsT, List.length_append]
    omega
theorem SmG.v {ins : List Int} {vs : List Vl} {outs : List Int} (S : SmG ins vs outs) (k : Nat) (h : k < vs.length) : SmV (vs.getD k Vl.zero) := ⟨S.op k h, S.len k h, S.a k h, S.c k h, S.f k h, S.k k h⟩
theorem valsT_le {ins : List Int} {vs : List Vl} {outs : List Int} (S : SmG ins vs outs) (h2 : vs.length ≤ 2000) : ∀ k, k ≤ vs.length → (valsT vs k).length ≤ 201 * k
  | 0, _ => by simp [valsT]
  | k + 1, hk => by
    have := valsT_le S h2 k (by omega)
    have := (words_le k _ (S.v k (by omega)) (by omega)).2.2
    rw [valsT, List.length_append, ← line_val, List.length_append]
    simp only [List.length_cons, List.length_nil]
    omega
end Go.Proofs.YtiiimofkkahobaaDoor
