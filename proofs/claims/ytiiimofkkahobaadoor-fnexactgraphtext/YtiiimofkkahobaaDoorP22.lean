import Derived.Test.YtiiimofkkahobaaDoorP17
import Derived.Test.YtiiimofkkahobaaDoorP15
import Derived.Test.YtiiimofkkahobaaDoorP16
import Derived.Test.YtiiimofkkahobaaDoorP21
namespace Go.Proofs.YtiiimofkkahobaaDoor
open Go.RowKit Flt
attribute [local go_sem] alloc_drewN setCell_drewN run_store_float

/-! Marks of bytes (cut out of SV6). -/
/-- An own block whose first n cells are bytes. -/
structure YK (w : World) (g n : Nat) (xs : List Int) : Prop where
  len : xs.length = n
  lt : g < w.heap.size
  at_ : ∀ k, k < n → w.cell? ⟨g, k, none⟩ = some (.int .u8 (xs.getD k 0))
  free : ∀ o, w.frozen? ⟨g, o, none⟩ = false
theorem YK.keepC {w w' : World} {S : Nat → Prop} {g n : Nat} {xs : List Int} (q : YK w g n xs) (k : Chg S w w') (hd : ¬ S g) : YK w' g n xs :=
  ⟨q.len, Nat.lt_of_lt_of_le q.lt k.size, fun j hj => by rw [k.cell (p := ⟨g, j, none⟩) q.lt hd]; exact q.at_ j hj, fun o => by rw [k.frozen (p := ⟨g, o, none⟩) q.lt hd]; exact q.free o⟩
theorem YK.put {w : World} {g n : Nat} {xs : List Int} (f : YK w g n xs) (j : Nat) (hj : j < n) (x : Int) : YK (w.setCell ⟨g, j, none⟩ (.int .u8 x)) g n (xs.set j x) where
  len := by rw [List.length_set]; exact f.len
  lt := by simpa using f.lt
  at_ := fun k hk => by
    rw [List.getD_eq_getElem?_getD, List.getElem?_set]
    by_cases e : j = k
    · subst e
      rw [if_pos rfl, if_pos (by rw [f.len]; exact hj)]
      exact cell_eq _ _ _ _ _ (f.at_ j hj)
    · rw [if_neg e, cell_ne _ _ _ _ _ _ (.inr e), ← List.getD_eq_getElem?_getD]
      exact f.at_ k hk
  free := fun o => by simp [f.free o]
/-- A slice of bytes in a block of its own, or an empty one. -/
structure YZ (w : World) (g : Nat) (a : Option Addr) (n : Nat) (xs : List Int) : Prop where
  len : xs.length = n
  at_ : n = 0 ∨ (a = some ⟨g, 0, none⟩ ∧ YK w g n xs)
theorem YZ.keepC {w w' : World} {S : Nat → Prop} {g n : Nat} {a : Option Addr} {xs : List Int} (f : YZ w g a n xs) (k : Chg S w w') (hd : 0 < n → ¬ S g) : YZ w' g a n xs := ⟨f.1, by
  by_cases h : n = 0
  · exact .inl h
  · exact f.2.imp id fun ⟨e, q⟩ => ⟨e, q.keepC k (hd (by omega))⟩⟩
theorem YZ.keep {w w' : World} {g n : Nat} {a : Option Addr} {xs : List Int} (f : YZ w g a n xs) (k : Kept 0 0 w w') : YZ w' g a n xs := f.keepC (S := fun _ => False) k.chg (fun _ h => h)
theorem YZ.blk {w : World} {g n : Nat} {a : Option Addr} {xs : List Int} (f : YZ w g a n xs) (h : 0 < n) : g < w.heap.size := by
  rcases f.2 with c | ⟨_, q⟩
  · omega
  · exact q.lt
theorem YZ.ys {w : World} {g n : Nat} {a : Option Addr} {xs : List Int} (f : YZ w g a n xs) (h : ∀ x ∈ xs, 0 ≤ x ∧ x < 256) : YS w a n xs := ⟨f.1, h, f.2.imp id fun ⟨e, q⟩ => ⟨g, 0, e, q.lt, fun k hk => by rw [Nat.zero_add]; exact q.at_ k hk⟩⟩
theorem YB.yz {W : World} {B : Nat} {v : Value} {bs : List Int} (f : YB W B v bs) : ∃ g a cap, v = .slice a bs.length cap ∧ YZ W g a bs.length bs ∧ (0 < bs.length → B ≤ g) := by
  rcases f.2 with ⟨rfl, c⟩ | ⟨g, cap, cur, rfl, b1, b2, b3, _, b5, b6⟩
  · exact ⟨0, none, 0, by rw [c], ⟨rfl, .inl c⟩, fun h => by omega⟩
  · refine ⟨g, _, cap, rfl, ⟨rfl, .inr ⟨rfl, rfl, ?_, fun k hk => ?_, fun o => ?_⟩⟩, fun _ => b1⟩
    · rcases Nat.lt_or_ge g W.heap.size with c | c
      · exact c
      · rw [Array.getElem?_eq_none c] at b2; cases b2
    · rw [cell_of_row W g _ cur _ _ b2, ← Array.getElem?_toList]
      have : (cur.toList.take (bs.length * 1))[k]? = (bs.map (Value.int .u8))[k]? := by rw [b6]
      rw [List.getElem?_take_of_lt (by omega)] at this
      rw [this, List.getElem?_map, List.getElem?_eq_getElem hk, List.getD_eq_getElem?_getD, List.getElem?_eq_getElem hk]; rfl
    · exact frozen_of_row W g o cur _ b2
set_option maxRecDepth 100000 in
set_option maxHeartbeats 1000000 in
theorem markY_zero (w : World) (a : Option Addr) (cap : Nat) (k : Int) : Calls Tryd.prog 11 #[.slice a 0 cap, .int .i64 k] w fun e w' => e = .returned (.int .i64 k) ∧ w' = w := by
  go_enter Tryd.func11, Tryd.ntmps11
  go_wp2_with fail
  refine wp_loop_rounds 1 ?_
  rw [rounds_succ]
  go_wp2
  go_ret
  exact ⟨rfl, rfl⟩
set_option maxRecDepth 100000 in
set_option maxHeartbeats 1000000 in
theorem heldY_zero (w : World) (a : Option Addr) (cap : Nat) (k : Int) : Calls Tryd.prog 12 #[.slice a 0 cap, .int .i64 k] w fun e w' => e = .returned (.int .i64 k) ∧ w' = w := by
  go_enter Tryd.func12, Tryd.ntmps12
  go_wp2_with fail
  refine wp_loop_rounds 1 ?_
  rw [rounds_succ]
  go_wp2
  go_ret
  exact ⟨rfl, rfl⟩
set_option maxRecDepth 100000 in
set_option maxHeartbeats 1000000 in
theorem markYK (w : World) (g n cap : Nat) (k : Int) (xs : List Int) (hF : YK w g n xs) (h0 : 0 ≤ k) (h1 : k ≤ 1099511627776) (hn : n ≤ 1099511627776) :
    Calls Tryd.prog 11 #[.slice (some ⟨g, 0, none⟩) n cap, .int .i64 k] w fun e w' => e = .returned (.int .i64 (k + n)) ∧ (∃ ys, YK w' g n ys ∧ ∀ i, i < n → ys.getD i 0 = (k + i) % 256) ∧ Kept g (g + 1) w w' := by
  go_enter Tryd.func11, Tryd.ntmps11
  go_wp2_with fail
  go_loopw [1, 5] (fun kv i W => ∃ j : Nat, j ≤ n ∧ i = .int .i64 j ∧ kv = .int .i64 (k + j) ∧ Hid (∃ ys, YK W g n ys ∧ ∀ i, i < j → ys.getD i 0 = (k + i) % 256) ∧ Kept g (g + 1) w W) (fun _ i _ => n - (intOf i).toNat)
  case atStart => exact ⟨0, Nat.zero_le _, rfl, by simp, ⟨xs, hF, fun i hi => by omega⟩, Kept.refl _ _ _⟩
  case round =>
    obtain ⟨j, hj, rfl, rfl, hY, hKW⟩ := hrel
    obtain ⟨ys, hFW, hy⟩ := hY.out
    by_cases hlt : j < n
    · have c2 := hFW.at_ j hlt
      have c3 := hFW.free j
      have R1 : Hid (∃ ys, YK (wr.setCell ⟨g, j, none⟩ (.int .u8 ((k + (j : Int)) % 256))) g n ys ∧ ∀ i, i < j + 1 → ys.getD i 0 = (k + i) % 256) := ⟨_, hFW.put j hlt ((k + (j : Int)) % 256), fun i hi => by
        rw [getD_set ys 0 _ j i (by rw [hFW.len]; exact hlt)]
        by_cases e : i = j
        · subst e; rw [if_pos rfl]
        · rw [if_neg e]; exact hy i (by omega)⟩
      have R2 : Hid _ := hKW.trans (kept_setCell (lo := g) (hi := g + 1) wr ⟨g, j, none⟩ (.int .u8 ((k + (j : Int)) % 256)) (.inl ⟨Nat.le_refl _, Nat.lt_succ_self _⟩))
      clear hFW hKW hF hy hY
      go_wp2
      go_roundw
      case rel => exact ⟨j + 1, by omega, by go_num, by go_num, R1, R2.out⟩
      case measure => simp [intOf]; omega
    · obtain rfl : j = n := by omega
      clear hF hFW hy
      go_wp2
      go_ret
      exact ⟨rfl, hY.out, hKW⟩
set_option maxRecDepth 100000 in
set_option maxHeartbeats 1000000 in
theorem heldYK (w : World) (g n cap : Nat) (k : Int) (xs : List Int) (hF : YK w g n xs) (hy : ∀ i, i < n → xs.getD i 0 = (k + i) % 256) (h0 : 0 ≤ k) (h1 : k ≤ 1099511627776) (hn : n ≤ 1099511627776) :
    Calls Tryd.prog 12 #[.slice (some ⟨g, 0, none⟩) n cap, .int .i64 k] w fun e w' => e = .returned (.int .i64 (k + n)) ∧ Drawn w w' := by
  have HF : Hid _ := hF
  have HY : Hid _ := hy
  clear hF hy
  go_enter Tryd.func12, Tryd.ntmps12
  go_wp2_with fail
  go_loopw [1, 5] (fun kv i W => ∃ j : Nat, j ≤ n ∧ i = .int .i64 j ∧ kv = .int .i64 (k + j) ∧ Drawn w W) (fun _ i _ => n - (intOf i).toNat)
  case atStart => exact ⟨0, Nat.zero_le _, rfl, by simp, Drawn.refl _⟩
  case round =>
    obtain ⟨j, hj, rfl, rfl, HW⟩ := hrel
    by_cases hlt : j < n
    · have c2 : wr.cell? ⟨g, j, none⟩ = some (.int .u8 ((k + j) % 256)) := by rw [HW.cell, ← HY.out j hlt]; exact HF.out.at_ j hlt
      have c3 : ((k + (j : Int)) % 256 != (k + (j : Int)) % 256) = false := by simp
      go_wp2
      go_roundw
      case rel => exact ⟨j + 1, by omega, by go_num, by go_num, HW⟩
      case measure => simp [intOf]; omega
    · obtain rfl : j = n := by omega
      go_wp2
      go_ret
      exact ⟨rfl, HW⟩
/-- The marks stand. -/
def YM (w : World) (g : Nat) (a : Option Addr) (n : Nat) (k : Int) : Prop := n = 0 ∨ (a = some ⟨g, 0, none⟩ ∧ ∃ ys, YK w g n ys ∧ ∀ i, i < n → ys.getD i 0 = (k + i) % 256)
theorem markYZ (w : World) (g n cap : Nat) (a : Option Addr) (k : Int) (xs : List Int) (hF : YZ w g a n xs) (h0 : 0 ≤ k) (h1 : k ≤ 1099511627776) (hn : n ≤ 1099511627776) :
    Calls Tryd.prog 11 #[.slice a n cap, .int .i64 k] w fun e w' => e = .returned (.int .i64 (k + n)) ∧ YM w' g a n k ∧ Chg (fun b => 0 < n ∧ b = g) w w' := by
  rcases hF.2 with rfl | ⟨rfl, hF'⟩
  · exact (markY_zero w a cap k).mono fun e w' ⟨h1, h2⟩ => ⟨by rw [h1]; simp, .inl rfl, by rw [h2]; exact (Kept.refl 0 0 _).chg⟩
  · by_cases h : n = 0
    · subst h
      exact (markY_zero w _ cap k).mono fun e w' ⟨h1, h2⟩ => ⟨by rw [h1]; simp, .inl rfl, by rw [h2]; exact (Kept.refl 0 0 _).chg⟩
    · exact (markYK w g n cap k xs hF' h0 h1 hn).mono fun e w' ⟨h1, h2, h3⟩ => ⟨h1, .inr ⟨rfl, h2⟩, h3.chg1 ⟨by omega, rfl⟩⟩
theorem heldYM (w : World) (g n cap : Nat) (a : Option Addr) (k : Int) (hF : YM w g a n k) (h0 : 0 ≤ k) (h1 : k ≤ 1099511627776) (hn : n ≤ 1099511627776) :
    Calls Tryd.prog 12 #[.slice a n cap, .int .i64 k] w fun e w' => e = .returned (.int .i64 (k + n)) ∧ Drawn w w' := by
  rcases hF with rfl | ⟨rfl, ys, hF, hy⟩
  · exact (heldY_zero w a cap k).mono fun e w' ⟨h1, h2⟩ => ⟨by rw [h1]; simp, 0, h2⟩
  · exact heldYK w g n cap k ys hF hy h0 h1 hn
end Go.Proofs.YtiiimofkkahobaaDoor

namespace Go.Proofs.YtiiimofkkahobaaDoor
open Go.RowKit Flt
/-! Every field of a value of a valid graph is small. -/
theorem okV_small {ins : List Int} {vs : List Vl} {i : Nat} (h : okV ins vs i = true) (hi : i ≤ 2000) (hl : ins.length ≤ 20) (hlen : ∀ j, j < i → lenB (vs.getD j Vl.zero).len = true) :
    (0 ≤ (vs.getD i Vl.zero).op ∧ (vs.getD i Vl.zero).op ≤ 13) ∧ (0 ≤ (vs.getD i Vl.zero).len ∧ (vs.getD i Vl.zero).len ≤ 2000) ∧ (0 ≤ (vs.getD i Vl.zero).a ∧ (vs.getD i Vl.zero).a ≤ 2000) ∧ (0 ≤ (vs.getD i Vl.zero).b ∧ (vs.getD i Vl.zero).b ≤ 2000) ∧ (0 ≤ (vs.getD i Vl.zero).c ∧ (vs.getD i Vl.zero).c ≤ 2000) := by
  have hop := okV_opR h
  have hln := of_decide_eq_true (okV_lenB h)
  have hops := okV_ops h
  have hA : 1 ≤ cnt (vs.getD i Vl.zero).op → 0 ≤ (vs.getD i Vl.zero).a ∧ (vs.getD i Vl.zero).a < i := fun c => hops _ (opsOf_a c)
  have hB : 2 ≤ cnt (vs.getD i Vl.zero).op → 0 ≤ (vs.getD i Vl.zero).b ∧ (vs.getD i Vl.zero).b < i := fun c => hops _ (opsOf_b c)
  have hC : 3 ≤ cnt (vs.getD i Vl.zero).op → 0 ≤ (vs.getD i Vl.zero).c ∧ (vs.getD i Vl.zero).c < i := fun c => hops _ (opsOf_c c)
  unfold okV at h
  generalize hv : vs.getD i Vl.zero = v at *
  rw [Bool.and_eq_true, Bool.and_eq_true] at h
  obtain ⟨⟨_, hsp⟩, hsh⟩ := h
  have hA0 : cnt v.op < 1 → v.op ≠ 0 → v.a = 0 := fun c c0 => by
    unfold spareB at hsp
    by_cases e : v.a = 0
    · exact e
    · simp [c, c0, e] at hsp
  have hB0 : cnt v.op < 2 → v.b = 0 := fun c => by
    unfold spareB at hsp
    by_cases e : v.b = 0
    · exact e
    · simp [c, e] at hsp
  have hC0 : cnt v.op < 3 → placeB v.op = false → v.c = 0 := fun c cp => by
    unfold spareB at hsp
    by_cases e : v.c = 0
    · exact e
    · simp [c, cp, e] at hsp
  have hIn : v.op = 0 → 0 ≤ v.a ∧ v.a < ins.length := fun c => by
    rw [if_pos c, Bool.and_eq_true] at hsh
    exact of_decide_eq_true hsh.1
  have hPl : placeB v.op = true → 0 ≤ v.c ∧ v.c ≤ 1000 := fun c => by
    have hp := of_decide_eq_true c
    rw [if_neg (by omega), Bool.and_eq_true] at hsh
    have hs := hsh.2
    unfold shapeB at hs
    have c1 : cnt v.op = 1 := by rcases hp with e | e <;> rw [e] <;> decide
    have ha := hA (by omega)
    have hla := of_decide_eq_true (hlen v.a.toNat (by omega))
    have e0 : ((opsOf v).map fun o => (vs.getD o.toNat Vl.zero).len).getD 0 0 = (vs.getD v.a.toNat Vl.zero).len := by
      unfold opsOf
      rw [c1]
      rfl
    rcases hp with e | e
    · rw [if_neg (by omega), if_neg (by omega), if_pos e, Bool.and_eq_true, e0] at hs
      have := of_decide_eq_true hs.2
      omega
    · rw [if_neg (by omega), if_neg (by omega), if_neg (by omega), if_pos e, Bool.and_eq_true] at hs
      have := of_decide_eq_true hs.2
      omega
  refine ⟨hop, by omega, ?_, ?_, ?_⟩
  · by_cases c : 1 ≤ cnt v.op
    · have := hA c; omega
    · by_cases c0 : v.op = 0
      · have := hIn c0; omega
      · have := hA0 (by omega) c0; omega
  · by_cases c : 2 ≤ cnt v.op
    · have := hB c; omega
    · have := hB0 (by omega); omega
  · by_cases c : 3 ≤ cnt v.op
    · have := hC c; omega
    · cases hp : placeB v.op
      · have := hC0 (by omega) hp; omega
      · have := hPl hp; omega
end Go.Proofs.YtiiimofkkahobaaDoor

namespace Go.Proofs.YtiiimofkkahobaaDoor
open Go.RowKit Flt
/-! Both texts as one contract. -/
theorem okG_partsT {ins : List Int} {vs : List Vl} {outs : List Int} (h : okG ins vs outs = true) : (ins.length ≤ 20 ∧ vs.length ≤ 2000 ∧ outs.length ≤ 50) ∧ (∀ n ∈ ins, lenB n = true) ∧ (∀ i, i < vs.length → okV ins vs i = true) ∧ (∀ o ∈ outs, idxB o vs.length = true) := by
  unfold okG at h
  simp only [Bool.and_eq_true, List.all_eq_true, decide_eq_true_eq, List.mem_range] at h
  exact ⟨h.1, h.2.1, fun i hi => h.2.2.1 i hi, fun o ho => h.2.2.2.1 o ho⟩
theorem getD_memT {xs : List Int} {k : Nat} (h : k < xs.length) : xs.getD k 0 ∈ xs := by
  rw [List.getD_eq_getElem?_getD, List.getElem?_eq_getElem h]
  exact List.getElem_mem h
theorem smG_of {ins : List Int} {vs : List Vl} {outs : List Int} (h : okG ins vs outs = true) (hk : ∀ v ∈ vs, v.k < 18446744073709551616) : SmG ins vs outs := by
  obtain ⟨⟨h1, h2, h3⟩, hi, hv, ho⟩ := okG_partsT h
  have hs : ∀ i, i < vs.length → _ := fun i hlt => okV_small (hv i hlt) (by omega) h1 (fun j hj => okV_lenB (hv j (by omega)))
  have e : ∀ x : Int, 0 ≤ x ∧ x ≤ 2000 → Sml x := fun x hx => ⟨hx.1, by omega⟩
  refine ⟨fun k hlt => ?_, fun k hlt => ?_, fun k hlt => (hs k hlt).1, fun k hlt => e _ (hs k hlt).2.1, fun k hlt => e _ (hs k hlt).2.2.1, fun k hlt => e _ (hs k hlt).2.2.2.2, fun k hlt q hq => ?_, fun k hlt => ?_⟩
  · have := of_decide_eq_true (hi _ (getD_memT hlt)); exact ⟨by omega, by omega⟩
  · have := of_decide_eq_true (ho _ (getD_memT hlt)); exact ⟨by omega, by omega⟩
  · match q, hq with
    | 0, _ => exact e _ (hs k hlt).2.2.1
    | 1, _ => exact e _ (hs k hlt).2.2.2.1
    | 2, _ => exact e _ (hs k hlt).2.2.2.2
  · apply hk
    rw [List.getD_eq_getElem?_getD, List.getElem?_eq_getElem hlt]
    exact List.getElem_mem hlt
def txM (ins : List Int) (vs : List Vl) (outs : List Int) : List Int := if okG ins vs outs = true then bytesOf (textM ins vs outs) else []
theorem tx_lt (ins : List Int) (vs : List Vl) (outs : List Int) : ∀ x ∈ txM ins vs outs, 0 ≤ x ∧ x < 256 := by
  intro x hx
  unfold txM at hx
  split at hx
  · unfold bytesOf at hx
    obtain ⟨b, _, rfl⟩ := List.mem_map.1 hx
    have := UInt8.toNat_lt b
    omega
  · cases hx
theorem tx_len (ins : List Int) (vs : List Vl) (outs : List Int) (hk : ∀ v ∈ vs, v.k < 18446744073709551616) : (txM ins vs outs).length ≤ 1000000 := by
  unfold txM
  split
  · rename_i h
    have S := smG_of h hk
    obtain ⟨⟨h1, h2, h3⟩, _⟩ := okG_partsT h
    have e1 := insT_le S.i _ (Nat.le_refl _)
    have e2 := valsT_le S h2 _ (Nat.le_refl _)
    have e3 := outsT_le S.o _ (Nat.le_refl _)
    rw [bytesOf_len]
    unfold textM
    simp only [List.length_append]
    omega
  · simp
theorem implTx (w : World) (a1 a2 a3 : Option Addr) (n1 c1 n2 c2 n3 c3 : Nat) (ins : List Int) (vs : List Vl) (outs : List Int) (f : GS w a1 n1 a2 n2 a3 n3 ins vs outs) (T : Tabs w) :
    Calls Tryd.prog 7 #[gagg a1 n1 c1 a2 n2 c2 a3 n3 c3] w fun e w' => ∃ g a cap, e = .returned (.slice a (txM ins vs outs).length cap) ∧ YZ w' g a (txM ins vs outs).length (txM ins vs outs) ∧ (0 < (txM ins vs outs).length → w.heap.size ≤ g) ∧ Kept 0 0 w w' := by
  unfold txM
  cases hv : okG ins vs outs
  · rw [if_neg (by simp)]
    exact (implText_bad w a1 a2 a3 n1 c1 n2 c2 n3 c3 ins vs outs f hv).mono fun e w' ⟨h1, h2⟩ => ⟨0, none, 0, h1, ⟨rfl, .inl rfl⟩, fun h => by simp at h, h2⟩
  · rw [if_pos rfl]
    obtain ⟨⟨h1, h2, h3⟩, _⟩ := okG_partsT hv
    exact (implText_in w a1 a2 a3 n1 c1 n2 c2 n3 c3 ins vs outs f T hv (smG_of hv f.v.lt) (by rw [← f.i.len]; exact h1) (by rw [← f.v.len]; exact h2) (by rw [← f.o.len]; exact h3)).mono fun e w' ⟨v, h1, h2, h3⟩ => by
      obtain ⟨g, a, cap, rfl, h4, h5⟩ := h2.yz
      exact ⟨g, a, cap, h1, h4, h5, h3⟩
theorem specTx (w : World) (lo g1 g2 g3 n1 c1 n2 c2 n3 c3 : Nat) (ins : List Int) (vs : List Vl) (outs : List Int) (f : GO w lo g1 g2 g3 n2 ins vs outs) (e1 : ins.length = n1) (e3 : outs.length = n3) (hlt : ∀ v ∈ vs, v.k < 18446744073709551616) :
    Calls Tryd.prog 5 #[gagg (some ⟨g1, 0, none⟩) n1 c1 (some ⟨g2, 0, none⟩) n2 c2 (some ⟨g3, 0, none⟩) n3 c3] w fun e w' => ∃ a cap, e = .returned (.slice a (txM ins vs outs).length cap) ∧ YS w' a (txM ins vs outs).length (txM ins vs outs) ∧ Kept 0 0 w w' := by
  have hgs := f.gs hlt
  rw [e1, e3] at hgs
  have hl := tx_lt ins vs outs
  unfold txM at *
  cases hv : okG ins vs outs
  · rw [if_neg (by simp)]
    exact (specText_bad w _ _ _ n1 c1 n2 c2 n3 c3 ins vs outs hgs hv).mono fun e w' ⟨h1, h2⟩ => ⟨none, 0, h1, ⟨rfl, by simp, .inl rfl⟩, h2⟩
  · rw [if_pos rfl]
    obtain ⟨⟨h1, h2, h3⟩, _⟩ := okG_partsT hv
    exact (specText_in w lo g1 g2 g3 n1 c1 n2 c2 n3 c3 ins vs outs f e1 e3 hlt hv (smG_of hv hlt) (by omega) (by rw [← hgs.v.len]; exact h2) (by omega)).mono fun e w' ⟨g, n, cap, h1, h2, h3⟩ => by
      have := h2.len
      subst this
      exact ⟨_, cap, h1, h2, h3⟩
end Go.Proofs.YtiiimofkkahobaaDoor
