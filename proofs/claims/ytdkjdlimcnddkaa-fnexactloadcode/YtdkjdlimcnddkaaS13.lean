import Derived.Test.YtdkjdlimcnddkaaS10
import Derived.Test.YtdkjdlimcnddkaaS11
import Derived.Test.YtdkjdlimcnddkaaS12
namespace Go.Proofs.Ytdkjdlimcnddkaa
open Go.RowKit Flt
attribute [local go_sem] alloc_drewN setCell_drewN run_store_float

/-- An own block whose first n cells are bytes. -/
structure YK (w : World) (g n : Nat) (xs : List Int) : Prop where
  len : xs.length = n
  lt : g < w.heap.size
  at_ : ∀ k, k < n → w.cell? ⟨g, k, none⟩ = some (.int .u8 (xs.getD k 0))
  free : ∀ o, w.frozen? ⟨g, o, none⟩ = false
theorem YK.keepC {w w' : World} {S : Nat → Prop} {g n : Nat} {xs : List Int} (q : YK w g n xs) (k : Chg S w w') (hd : ¬ S g) : YK w' g n xs :=
  ⟨q.len, Nat.lt_of_lt_of_le q.lt k.size, fun j hj => by rw [k.cell (p := ⟨g, j, none⟩) q.lt hd]; exact q.at_ j hj, fun o => by rw [k.frozen (p := ⟨g, o, none⟩) q.lt hd]; exact q.free o⟩
theorem YK.put {w : World} {g n : Nat} {xs : List Int} (f : YK w g n xs) (j : Nat) (hj : j < n) (x : Int) : YK (w.setCell ⟨g, j, none⟩ (.int .u8 x)) g n (xs.set j x) where
  len := by rw [List.length_set]; exact f.len
  lt := by simpa using f.lt
  at_ := fun k hk => by
    rw [List.getD_eq_getElem?_getD, List.getElem?_set]
    by_cases e : j = k
    · subst e
      rw [if_pos rfl, if_pos (by rw [f.len]; exact hj)]
      exact cell_eq _ _ _ _ _ (f.at_ j hj)
    · rw [if_neg e, cell_ne _ _ _ _ _ _ (.inr e), ← List.getD_eq_getElem?_getD]
      exact f.at_ k hk
  free := fun o => by simp [f.free o]
/-- A slice of bytes in a block of its own, or an empty one. -/
structure YZ (w : World) (g : Nat) (a : Option Addr) (n : Nat) (xs : List Int) : Prop where
  len : xs.length = n
  at_ : n = 0 ∨ (a = some ⟨g, 0, none⟩ ∧ YK w g n xs)
theorem YZ.keepC {w w' : World} {S : Nat → Prop} {g n : Nat} {a : Option Addr} {xs : List Int} (f : YZ w g a n xs) (k : Chg S w w') (hd : 0 < n → ¬ S g) : YZ w' g a n xs := ⟨f.1, by
  by_cases h : n = 0
  · exact .inl h
  · exact f.2.imp id fun ⟨e, q⟩ => ⟨e, q.keepC k (hd (by omega))⟩⟩
theorem YZ.keep {w w' : World} {g n : Nat} {a : Option Addr} {xs : List Int} (f : YZ w g a n xs) (k : Kept 0 0 w w') : YZ w' g a n xs := f.keepC (S := fun _ => False) k.chg (fun _ h => h)
theorem YZ.blk {w : World} {g n : Nat} {a : Option Addr} {xs : List Int} (f : YZ w g a n xs) (h : 0 < n) : g < w.heap.size := by
  rcases f.2 with c | ⟨_, q⟩
  · omega
  · exact q.lt
theorem YZ.ys {w : World} {g n : Nat} {a : Option Addr} {xs : List Int} (f : YZ w g a n xs) (h : ∀ x ∈ xs, 0 ≤ x ∧ x < 256) : YS w a n xs := ⟨f.1, h, f.2.imp id fun ⟨e, q⟩ => ⟨g, 0, e, q.lt, fun k hk => by rw [Nat.zero_add]; exact q.at_ k hk⟩⟩
theorem YB.yz {W : World} {B : Nat} {v : Value} {bs : List Int} (f : YB W B v bs) : ∃ g a cap, v = .slice a bs.length cap ∧ YZ W g a bs.length bs ∧ (0 < bs.length → B ≤ g) := by
  rcases f.2 with ⟨rfl, c⟩ | ⟨g, cap, cur, rfl, b1, b2, b3, _, b5, b6⟩
  · exact ⟨0, none, 0, by rw [c], ⟨rfl, .inl c⟩, fun h => by omega⟩
  · refine ⟨g, _, cap, rfl, ⟨rfl, .inr ⟨rfl, rfl, ?_, fun k hk => ?_, fun o => ?_⟩⟩, fun _ => b1⟩
    · rcases Nat.lt_or_ge g W.heap.size with c | c
      · exact c
      · rw [Array.getElem?_eq_none c] at b2; cases b2
    · rw [cell_of_row W g _ cur _ _ b2, ← Array.getElem?_toList]
      have : (cur.toList.take (bs.length * 1))[k]? = (bs.map (Value.int .u8))[k]? := by rw [b6]
      rw [List.getElem?_take_of_lt (by omega)] at this
      rw [this, List.getElem?_map, List.getElem?_eq_getElem hk, List.getD_eq_getElem?_getD, List.getElem?_eq_getElem hk]; rfl
    · exact frozen_of_row W g o cur _ b2
set_option maxRecDepth 100000 in
set_option maxHeartbeats 1000000 in
theorem markY_zero (w : World) (a : Option Addr) (cap : Nat) (k : Int) : Calls Try.prog 24 #[.slice a 0 cap, .int .i64 k] w fun e w' => e = .returned (.int .i64 k) ∧ w' = w := by
  go_enter Try.func24, Try.ntmps24
  go_wp2_with fail
  refine wp_loop_rounds 1 ?_
  rw [rounds_succ]
  go_wp2
  go_ret
  exact ⟨rfl, rfl⟩
set_option maxRecDepth 100000 in
set_option maxHeartbeats 1000000 in
theorem heldY_zero (w : World) (a : Option Addr) (cap : Nat) (k : Int) : Calls Try.prog 25 #[.slice a 0 cap, .int .i64 k] w fun e w' => e = .returned (.int .i64 k) ∧ w' = w := by
  go_enter Try.func25, Try.ntmps25
  go_wp2_with fail
  refine wp_loop_rounds 1 ?_
  rw [rounds_succ]
  go_wp2
  go_ret
  exact ⟨rfl, rfl⟩
set_option maxRecDepth 100000 in
set_option maxHeartbeats 1000000 in
theorem markYK (w : World) (g n cap : Nat) (k : Int) (xs : List Int) (hF : YK w g n xs) (h0 : 0 ≤ k) (h1 : k ≤ 1099511627776) (hn : n ≤ 1099511627776) :
    Calls Try.prog 24 #[.slice (some ⟨g, 0, none⟩) n cap, .int .i64 k] w fun e w' => e = .returned (.int .i64 (k + n)) ∧ (∃ ys, YK w' g n ys ∧ ∀ i, i < n → ys.getD i 0 = (k + i) % 256) ∧ Kept g (g + 1) w w' := by
  go_enter Try.func24, Try.ntmps24
  go_wp2_with fail
  go_loopw [1, 5] (fun kv i W => ∃ j : Nat, j ≤ n ∧ i = .int .i64 j ∧ kv = .int .i64 (k + j) ∧ Hid (∃ ys, YK W g n ys ∧ ∀ i, i < j → ys.getD i 0 = (k + i) % 256) ∧ Kept g (g + 1) w W) (fun _ i _ => n - (intOf i).toNat)
  case atStart => exact ⟨0, Nat.zero_le _, rfl, by simp, ⟨xs, hF, fun i hi => by omega⟩, Kept.refl _ _ _⟩
  case round =>
    obtain ⟨j, hj, rfl, rfl, hY, hKW⟩ := hrel
    obtain ⟨ys, hFW, hy⟩ := hY.out
    by_cases hlt : j < n
    · have c2 := hFW.at_ j hlt
      have c3 := hFW.free j
      have R1 : Hid (∃ ys, YK (wr.setCell ⟨g, j, none⟩ (.int .u8 ((k + (j : Int)) % 256))) g n ys ∧ ∀ i, i < j + 1 → ys.getD i 0 = (k + i) % 256) := ⟨_, hFW.put j hlt ((k + (j : Int)) % 256), fun i hi => by
        rw [getD_set ys 0 _ j i (by rw [hFW.len]; exact hlt)]
        by_cases e : i = j
        · subst e; rw [if_pos rfl]
        · rw [if_neg e]; exact hy i (by omega)⟩
      have R2 : Hid _ := hKW.trans (kept_setCell (lo := g) (hi := g + 1) wr ⟨g, j, none⟩ (.int .u8 ((k + (j : Int)) % 256)) (.inl ⟨Nat.le_refl _, Nat.lt_succ_self _⟩))
      clear hFW hKW hF hy hY
      go_wp2
      go_roundw
      case rel => exact ⟨j + 1, by omega, by go_num, by go_num, R1, R2.out⟩
      case measure => simp [intOf]; omega
    · obtain rfl : j = n := by omega
      clear hF hFW hy
      go_wp2
      go_ret
      exact ⟨rfl, hY.out, hKW⟩
set_option maxRecDepth 100000 in
set_option maxHeartbeats 1000000 in
theorem heldYK (w : World) (g n cap : Nat) (k : Int) (xs : List Int) (hF : YK w g n xs) (hy : ∀ i, i < n → xs.getD i 0 = (k + i) % 256) (h0 : 0 ≤ k) (h1 : k ≤ 1099511627776) (hn : n ≤ 1099511627776) :
    Calls Try.prog 25 #[.slice (some ⟨g, 0, none⟩) n cap, .int .i64 k] w fun e w' => e = .returned (.int .i64 (k + n)) ∧ Drawn w w' := by
  have HF : Hid _ := hF
  have HY : Hid _ := hy
  clear hF hy
  go_enter Try.func25, Try.ntmps25
  go_wp2_with fail
  go_loopw [1, 5] (fun kv i W => ∃ j : Nat, j ≤ n ∧ i = .int .i64 j ∧ kv = .int .i64 (k + j) ∧ Drawn w W) (fun _ i _ => n - (intOf i).toNat)
  case atStart => exact ⟨0, Nat.zero_le _, rfl, by simp, Drawn.refl _⟩
  case round =>
    obtain ⟨j, hj, rfl, rfl, HW⟩ := hrel
    by_cases hlt : j < n
    · have c2 : wr.cell? ⟨g, j, none⟩ = some (.int .u8 ((k + j) % 256)) := by rw [HW.cell, ← HY.out j hlt]; exact HF.out.at_ j hlt
      have c3 : ((k + (j : Int)) % 256 != (k + (j : Int)) % 256) = false := by simp
      go_wp2
      go_roundw
      case rel => exact ⟨j + 1, by omega, by go_num, by go_num, HW⟩
      case measure => simp [intOf]; omega
    · obtain rfl : j = n := by omega
      go_wp2
      go_ret
      exact ⟨rfl, HW⟩
/-- The marks stand. -/
def YM (w : World) (g : Nat) (a : Option Addr) (n : Nat) (k : Int) : Prop := n = 0 ∨ (a = some ⟨g, 0, none⟩ ∧ ∃ ys, YK w g n ys ∧ ∀ i, i < n → ys.getD i 0 = (k + i) % 256)
theorem markYZ (w : World) (g n cap : Nat) (a : Option Addr) (k : Int) (xs : List Int) (hF : YZ w g a n xs) (h0 : 0 ≤ k) (h1 : k ≤ 1099511627776) (hn : n ≤ 1099511627776) :
    Calls Try.prog 24 #[.slice a n cap, .int .i64 k] w fun e w' => e = .returned (.int .i64 (k + n)) ∧ YM w' g a n k ∧ Chg (fun b => 0 < n ∧ b = g) w w' := by
  rcases hF.2 with rfl | ⟨rfl, hF'⟩
  · exact (markY_zero w a cap k).mono fun e w' ⟨h1, h2⟩ => ⟨by rw [h1]; simp, .inl rfl, by rw [h2]; exact (Kept.refl 0 0 _).chg⟩
  · by_cases h : n = 0
    · subst h
      exact (markY_zero w _ cap k).mono fun e w' ⟨h1, h2⟩ => ⟨by rw [h1]; simp, .inl rfl, by rw [h2]; exact (Kept.refl 0 0 _).chg⟩
    · exact (markYK w g n cap k xs hF' h0 h1 hn).mono fun e w' ⟨h1, h2, h3⟩ => ⟨h1, .inr ⟨rfl, h2⟩, h3.chg1 ⟨by omega, rfl⟩⟩
theorem heldYM (w : World) (g n cap : Nat) (a : Option Addr) (k : Int) (hF : YM w g a n k) (h0 : 0 ≤ k) (h1 : k ≤ 1099511627776) (hn : n ≤ 1099511627776) :
    Calls Try.prog 25 #[.slice a n cap, .int .i64 k] w fun e w' => e = .returned (.int .i64 (k + n)) ∧ Drawn w w' := by
  rcases hF with rfl | ⟨rfl, ys, hF, hy⟩
  · exact (heldY_zero w a cap k).mono fun e w' ⟨h1, h2⟩ => ⟨by rw [h1]; simp, 0, h2⟩
  · exact heldYK w g n cap k ys hF hy h0 h1 hn
/-- What SaveCode answers. -/
def savM (ins : List Int) (ss : List Ste) (os : List Spn) (pk : Int) : List Int := if verM ins ss os pk = true then saveM ins ss os pk else []
theorem bytesN_lt (b : Nat) : ∀ k, ∀ x ∈ bytesN b k, 0 ≤ x ∧ x < 256
  | 0 => by simp [bytesN]
  | k + 1 => by
    intro x hx
    rw [bytesN, List.mem_append] at hx
    rcases hx with h | h
    · exact bytesN_lt b k x h
    · simp at h; omega
theorem cntB_lt {v : Int} (h : 0 ≤ v ∧ v < 65536) : ∀ x ∈ cntB v, 0 ≤ x ∧ x < 256 := by
  intro x hx
  simp [cntB] at hx
  omega
theorem save_lt {ins : List Int} {ss : List Ste} {os : List Spn} {pk : Int} (h : SvOK ins ss os pk) : ∀ x ∈ saveM ins ss os pk, 0 ≤ x ∧ x < 256 := by
  have hf : ∀ xs : List Int, (∀ y ∈ xs, 0 ≤ y ∧ y < 65536) → ∀ x ∈ xs.flatMap cntB, 0 ≤ x ∧ x < 256 := fun xs hx x hm => by
    obtain ⟨y, h1, h2⟩ := List.mem_flatMap.1 hm
    exact cntB_lt (hx y h1) x h2
  have h1 := h.li
  have h2 := h.ls
  have h3 := h.lo
  intro x hx
  unfold saveM at hx
  simp only [List.mem_append] at hx
  rcases hx with ((((((hx | hx) | hx) | hx) | hx) | hx) | hx) | hx
  · simp at hx; omega
  · exact cntB_lt (by omega) x hx
  · exact hf ins h.i x hx
  · exact cntB_lt (by omega) x hx
  · obtain ⟨s, hs, hm⟩ := List.mem_flatMap.1 hx
    obtain ⟨k, hk, rfl⟩ := List.getElem_of_mem hs
    have e : ss.getD k Ste.zero = ss[k] := by rw [List.getD_eq_getElem?_getD, List.getElem?_eq_getElem hk]; rfl
    have hh := h.s k hk
    rw [e] at hh
    unfold steB at hm
    simp only [List.mem_append] at hm
    rcases hm with (hm | hm) | hm
    · simp at hm; omega
    · exact hf _ hh.2 x hm
    · split at hm
      · exact bytesN_lt _ _ x hm
      · cases hm
  · exact cntB_lt (by omega) x hx
  · obtain ⟨s, hs, hm⟩ := List.mem_flatMap.1 hx
    obtain ⟨k, hk, rfl⟩ := List.getElem_of_mem hs
    have e : os.getD k Spn.zero = os[k] := by rw [List.getD_eq_getElem?_getD, List.getElem?_eq_getElem hk]; rfl
    have hh := h.o k hk
    rw [e] at hh
    unfold spnB at hm
    simp only [List.mem_append] at hm
    rcases hm with hm | hm
    · exact cntB_lt hh.1 x hm
    · exact cntB_lt hh.2 x hm
  · exact cntB_lt h.p x hx
theorem sav_lt (ins : List Int) (ss : List Ste) (os : List Spn) (pk : Int) : ∀ x ∈ savM ins ss os pk, 0 ≤ x ∧ x < 256 := by
  unfold savM
  split
  · rename_i h
    exact save_lt (svOK_of h)
  · simp
theorem sav_len (ins : List Int) (ss : List Ste) (os : List Spn) (pk : Int) : (savM ins ss os pk).length ≤ 100000 := by
  unfold savM
  split
  · rename_i h
    have o := svOK_of h
    have h1 := o.li
    have h2 := o.ls
    have h3 := o.lo
    have h4 := flat_ste_len ss
    unfold saveM
    simp only [List.length_append, flat_cnt_len, flat_spn_len, cntB_len, List.length_cons, List.length_nil]
    omega
  · simp
/-- Both SaveCodes: bytes of their own. -/
theorem implSave (w : World) (a1 a2 a3 : Option Addr) (n1 c1 n2 c2 n3 c3 : Nat) (pk : Int) (ins : List Int) (ss : List Ste) (os : List Spn) (f : CS w a1 n1 a2 n2 a3 n3 ins ss os) :
    Calls Try.prog 22 #[cagg a1 n1 c1 a2 n2 c2 a3 n3 c3 pk] w fun e w' => ∃ g a cap, e = .returned (.slice a (savM ins ss os pk).length cap) ∧ YZ w' g a (savM ins ss os pk).length (savM ins ss os pk) ∧ (0 < (savM ins ss os pk).length → w.heap.size ≤ g) ∧ Kept 0 0 w w' := by
  unfold savM
  cases hv : verM ins ss os pk
  · rw [if_neg (by simp)]
    exact (implSave_bad w a1 a2 a3 n1 c1 n2 c2 n3 c3 pk ins ss os f hv).mono fun e w' ⟨h1, h2⟩ => ⟨0, none, 0, h1, ⟨rfl, .inl rfl⟩, fun h => by simp at h, h2⟩
  · rw [if_pos rfl]
    exact (implSave_in w a1 a2 a3 n1 c1 n2 c2 n3 c3 pk ins ss os f hv).mono fun e w' ⟨v, h1, h2, h3⟩ => by
      obtain ⟨g, a, cap, rfl, h4, h5⟩ := h2.yz
      exact ⟨g, a, cap, h1, h4, h5, h3⟩
theorem specSave (w : World) (a1 a2 a3 : Option Addr) (n1 c1 n2 c2 n3 c3 : Nat) (pk : Int) (ins : List Int) (ss : List Ste) (os : List Spn) (f : CS w a1 n1 a2 n2 a3 n3 ins ss os) :
    Calls Try.prog 20 #[cagg a1 n1 c1 a2 n2 c2 a3 n3 c3 pk] w fun e w' => ∃ g a cap, e = .returned (.slice a (savM ins ss os pk).length cap) ∧ YZ w' g a (savM ins ss os pk).length (savM ins ss os pk) ∧ (0 < (savM ins ss os pk).length → w.heap.size ≤ g) ∧ Kept 0 0 w w' := by
  unfold savM
  cases hv : verM ins ss os pk
  · rw [if_neg (by simp)]
    exact (specSave_bad w a1 a2 a3 n1 c1 n2 c2 n3 c3 pk ins ss os f hv).mono fun e w' ⟨h1, h2⟩ => ⟨0, none, 0, h1, ⟨rfl, .inl rfl⟩, fun h => by simp at h, h2⟩
  · rw [if_pos rfl]
    exact (specSave_in w a1 a2 a3 n1 c1 n2 c2 n3 c3 pk ins ss os f hv).mono fun e w' ⟨v, h1, h2, h3⟩ => by
      obtain ⟨g, a, cap, rfl, h4, h5⟩ := h2.yz
      exact ⟨g, a, cap, h1, h4, h5, h3⟩
end Go.Proofs.Ytdkjdlimcnddkaa
