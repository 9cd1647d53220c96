import Derived.Test.YtcphabjekfihnaaA03
import Derived.Deep.QuietTactic
import Derived.BigQuiet
import Derived.Test.YtcphabjekfihnaaA04
namespace Go.Proofs.Ytcphabjekfihnaa
open Go.RowKit Flt

theorem run_store_float {P : Program} {w : World} {a : Addr} {m : Mode} (k : FloatKind) (b : Nat) : (store a (.float k b) m).run P w = stored P w a (.float k b) m := run_store P w a _ m rfl
/-- Of the blocks that were there, only those from lo up to hi may have turned. -/
structure Kept (lo hi : Nat) (w w' : World) : Prop where
  os : w'.os = w.os
  tape : w'.tape = w.tape
  output : w'.output = w.output
  size : w.heap.size ≤ w'.heap.size
  block : ∀ k, k < w.heap.size → ¬ (lo ≤ k ∧ k < hi) → w'.heap[k]? = w.heap[k]?

theorem Kept.refl (lo hi : Nat) (w : World) : Kept lo hi w w := ⟨rfl, rfl, rfl, Nat.le_refl _, fun _ _ _ => rfl⟩
theorem Kept.trans {lo hi : Nat} {a b c : World} (h : Kept lo hi a b) (k : Kept lo hi b c) : Kept lo hi a c :=
  ⟨k.os.trans h.os, k.tape.trans h.tape, k.output.trans h.output, Nat.le_trans h.size k.size, fun i hi' hn => (k.block i (Nat.lt_of_lt_of_le hi' h.size) hn).trans (h.block i hi' hn)⟩
theorem Kept.mono {lo hi lo' hi' : Nat} {w w' : World} (h : Kept lo hi w w') (hs : ∀ k, k < w.heap.size → lo ≤ k ∧ k < hi → lo' ≤ k ∧ k < hi') : Kept lo' hi' w w' :=
  ⟨h.os, h.tape, h.output, h.size, fun k hk hn => h.block k hk fun c => hn (hs k hk c)⟩
/-- A stretch that began behind a's blocks leaves a's blocks. -/
theorem Kept.new {lo hi l h' : Nat} {a b c : World} (h : Kept lo hi a b) (k : Kept l h' b c) (hl : a.heap.size ≤ l) : Kept lo hi a c :=
  ⟨k.os.trans h.os, k.tape.trans h.tape, k.output.trans h.output, Nat.le_trans h.size k.size, fun i hi' hn => (k.block i (Nat.lt_of_lt_of_le hi' h.size) (fun c => by omega)).trans (h.block i hi' hn)⟩
theorem Kept.below {w w' : World} (h : Kept 0 0 w w') : Below w.heap.size w w' := ⟨h.os, h.tape, h.output, h.size, fun k hk => h.block k hk (by omega)⟩
theorem Kept.of_below {w w' : World} (h : Below w.heap.size w w') : Kept 0 0 w w' := ⟨h.os, h.tape, h.output, h.size, fun k hk _ => h.block k hk⟩
theorem kept_drewN (lo hi : Nat) (w : World) (m : Nat) : Kept lo hi w (w.drewN m) := ⟨rfl, rfl, rfl, Nat.le_refl _, fun _ _ _ => rfl⟩
theorem kept_alloc (lo hi : Nat) (w : World) (o : Obj) : Kept lo hi w (w.alloc o) := ⟨rfl, rfl, rfl, by simp, fun k hk _ => Below.heap_alloc w o k hk⟩
theorem kept_setCell {lo hi : Nat} (w : World) (a : Addr) (v : Value) (h : lo ≤ a.block ∧ a.block < hi ∨ w.heap.size ≤ a.block) : Kept lo hi w (w.setCell a v) :=
  ⟨rfl, rfl, rfl, by simp, fun k hk hn => Below.heap_setCell w a v k (fun e => by subst e; omega)⟩
theorem Kept.cell {lo hi : Nat} {w w' : World} (h : Kept lo hi w w') {p : Addr} (hp : p.block < w.heap.size) (hn : ¬ (lo ≤ p.block ∧ p.block < hi)) : w'.cell? p = w.cell? p := World.cell?_of_block (w := w) (h.block p.block hp hn)
theorem Kept.frozen {lo hi : Nat} {w w' : World} (h : Kept lo hi w w') {p : Addr} (hp : p.block < w.heap.size) (hn : ¬ (lo ≤ p.block ∧ p.block < hi)) : w'.frozen? p = w.frozen? p := World.frozen?_of_block (w := w) (h.block p.block hp hn)

/-- The world has drawn, no more. -/
def Drawn (w w' : World) : Prop := ∃ m, w' = w.drewN m
theorem Drawn.refl (w : World) : Drawn w w := ⟨0, rfl⟩
theorem Drawn.more {w w' : World} (h : Drawn w w') (n : Nat) : Drawn w (w'.drewN n) := by
  obtain ⟨m, rfl⟩ := h; exact ⟨m + n, World.drewN_drewN ..⟩
theorem Drawn.trans {a b c : World} (h : Drawn a b) (k : Drawn b c) : Drawn a c := by
  obtain ⟨m, rfl⟩ := k; exact h.more m
theorem Drawn.cell {w w' : World} (h : Drawn w w') (p : Addr) : w'.cell? p = w.cell? p := by obtain ⟨m, rfl⟩ := h; rfl
theorem Drawn.frozen {w w' : World} (h : Drawn w w') (p : Addr) : w'.frozen? p = w.frozen? p := by obtain ⟨m, rfl⟩ := h; rfl
theorem Drawn.heap {w w' : World} (h : Drawn w w') : w'.heap = w.heap := by obtain ⟨m, rfl⟩ := h; rfl
theorem Drawn.kept {w w' : World} (h : Drawn w w') (lo hi : Nat) : Kept lo hi w w' := by obtain ⟨m, rfl⟩ := h; exact kept_drewN lo hi w m
/-- A slice of floats in the blocks from lo up to hi, its elements xs. -/
structure FS (w : World) (lo hi : Nat) (a : Option Addr) (n : Nat) (xs : List Nat) : Prop where
  len : xs.length = n
  lt : ∀ x ∈ xs, x < 18446744073709551616
  at_ : n = 0 ∨ ∃ g off, a = some ⟨g, off, none⟩ ∧ lo ≤ g ∧ g < hi ∧ g < w.heap.size ∧ ∀ k, k < n → w.cell? ⟨g, off + k, none⟩ = some (.float .f64 (xs.getD k 0))

theorem FS.keep {w w' : World} {lo hi l h : Nat} {a : Option Addr} {n : Nat} {xs : List Nat} (f : FS w lo hi a n xs) (k : Kept l h w w') (hd : hi ≤ l ∨ h ≤ lo ∨ h ≤ l) : FS w' lo hi a n xs :=
  ⟨f.len, f.lt, by
    rcases f.at_ with h0 | ⟨g, off, e, h1, h2, h3, h4⟩
    · exact .inl h0
    · exact .inr ⟨g, off, e, h1, h2, Nat.lt_of_lt_of_le h3 k.size, fun j hj => by rw [k.cell (p := ⟨g, off + j, none⟩) h3 (by show ¬ (l ≤ g ∧ g < h); omega)]; exact h4 j hj⟩⟩
theorem FS.mono {w : World} {lo hi lo' hi' : Nat} {a : Option Addr} {n : Nat} {xs : List Nat} (f : FS w lo hi a n xs) (h1 : lo' ≤ lo) (h2 : hi ≤ hi') : FS w lo' hi' a n xs :=
  ⟨f.len, f.lt, by
    rcases f.at_ with h0 | ⟨g, off, e, a1, a2, a3, a4⟩
    · exact .inl h0
    · exact .inr ⟨g, off, e, by omega, by omega, a3, a4⟩⟩
theorem FS.prefix {w : World} {lo hi : Nat} {a : Option Addr} {n : Nat} {xs : List Nat} (f : FS w lo hi a n xs) (m : Nat) (hm : m ≤ n) : FS w lo hi a m (xs.take m) :=
  ⟨by rw [List.length_take, f.len]; omega, fun x hx => f.lt x (List.mem_of_mem_take hx), by
    rcases f.at_ with h0 | ⟨g, off, e, a1, a2, a3, a4⟩
    · exact .inl (by omega)
    · refine .inr ⟨g, off, e, a1, a2, a3, fun k hk => ?_⟩
      rw [a4 k (by omega)]
      congr 2
      simp only [List.getD_eq_getElem?_getD]
      rw [List.getElem?_take_of_lt hk]⟩
theorem getD_lt {xs : List Nat} (h : ∀ x ∈ xs, x < 18446744073709551616) (k : Nat) : xs.getD k 0 < 18446744073709551616 := by
  rw [List.getD_eq_getElem?_getD]
  by_cases hk : k < xs.length
  · rw [List.getElem?_eq_getElem hk]; exact h _ (List.getElem_mem _)
  · rw [List.getElem?_eq_none (by omega)]; exact (by omega : (0 : Nat) < 18446744073709551616)

/-- A whole block of floats that the call laid, not frozen. -/
def FR (w : World) (g : Nat) (xs : List Nat) : Prop := w.heap[g]? = some (.cells (xs.map (Value.float .f64)).toArray 23 (0, 0))
theorem FR.lt {w : World} {g : Nat} {xs : List Nat} (h : FR w g xs) : g < w.heap.size := by
  unfold FR at h
  rcases Nat.lt_or_ge g w.heap.size with c | c
  · exact c
  · rw [Array.getElem?_eq_none c] at h; cases h
theorem FR.cell {w : World} {g : Nat} {xs : List Nat} (h : FR w g xs) (k : Nat) (hk : k < xs.length) : w.cell? ⟨g, k, none⟩ = some (.float .f64 (xs.getD k 0)) := by
  rw [cell_of_row w g k _ _ _ h]
  simp [hk, List.getD_eq_getElem?_getD]
theorem FR.free {w : World} {g : Nat} {xs : List Nat} (h : FR w g xs) (k : Nat) : w.frozen? ⟨g, k, none⟩ = false := frozen_of_row w g k _ _ h
theorem FR.keep {w w' : World} {g l h : Nat} {xs : List Nat} (f : FR w g xs) (k : Kept l h w w') (hd : g < l ∨ h ≤ g ∨ h ≤ l) : FR w' g xs := by
  unfold FR
  rw [k.block g f.lt (by omega)]
  exact f
theorem FR.set {w : World} {g : Nat} {xs : List Nat} (h : FR w g xs) (k x : Nat) : FR (w.setCell ⟨g, k, none⟩ (.float .f64 x)) g (xs.set k x) := by
  unfold FR at h ⊢
  rw [heap_setCell_same w g k _ _ _ h]
  simp [List.map_set]
theorem FR.drewN {w : World} {g : Nat} {xs : List Nat} (h : FR w g xs) (m : Nat) : FR (w.drewN m) g xs := h
theorem FR.fs {w : World} {g lo hi : Nat} {xs : List Nat} (h : FR w g xs) (hl : ∀ x ∈ xs, x < 18446744073709551616) (h1 : lo ≤ g) (h2 : g < hi) : FS w lo hi (some ⟨g, 0, none⟩) xs.length xs :=
  ⟨rfl, hl, .inr ⟨g, 0, rfl, h1, h2, h.lt, fun k hk => by rw [Nat.zero_add]; exact h.cell k hk⟩⟩

theorem FR.made (w : World) (n : Nat) : FR (w.alloc (.cells (madeCells #[.float .f64 0] n) 23)) w.heap.size (List.replicate n 0) := by
  unfold FR
  rw [heap_alloc_new]
  have : (madeCells #[.float .f64 0] n) = (List.map (Value.float .f64) (List.replicate n 0)).toArray := by
    apply Array.toList_inj.1
    rw [toList_madeCells_one]
    simp
  rw [this]
theorem infoF : (Try.prog.info? 23).map (fun i => (i.zero, i.size, i.bytes)) = some (some (.float .f64 0), 1, 8) := by kernel_rfl

theorem set_take (xs ys : List Nat) (k : Nat) (hk : k < xs.length) (hl : ys.length = xs.length) :
    (xs.take k ++ ys.drop k).set k (xs.getD k 0) = xs.take (k + 1) ++ ys.drop (k + 1) := by
  apply List.ext_getElem?
  intro i
  simp only [List.getElem?_set, List.length_append, List.length_take, List.length_drop, List.getElem?_append, List.getElem?_take, List.getElem?_drop, List.getD_eq_getElem?_getD]
  rcases Nat.lt_trichotomy i k with h | h | h
  · rw [if_neg (by omega), if_pos (by omega), if_pos (by omega), if_pos (by omega), if_pos (by omega)]
  · subst h
    rw [if_pos rfl, if_pos (by omega), if_pos (by omega), if_pos (by omega), List.getElem?_eq_getElem hk]; rfl
  · rw [if_neg (by omega), if_neg (by omega), if_neg (by omega)]
    congr 1; omega
end Go.Proofs.Ytcphabjekfihnaa

namespace Go.Proofs.Ytcphabjekfihnaa
open Go.RowKit Flt
attribute [local go_sem] alloc_drewN setCell_drewN run_store_float

/-- A slice of bytes that is read: its elements. -/
structure YS (w : World) (a : Option Addr) (n : Nat) (xs : List Int) : Prop where
  len : xs.length = n
  lt : ∀ x ∈ xs, 0 ≤ x ∧ x < 256
  at_ : n = 0 ∨ ∃ g off, a = some ⟨g, off, none⟩ ∧ g < w.heap.size ∧ ∀ k, k < n → w.cell? ⟨g, off + k, none⟩ = some (.int .u8 (xs.getD k 0))
theorem YS.keep {w w' : World} {a : Option Addr} {n : Nat} {xs : List Int} (f : YS w a n xs) (k : Kept 0 0 w w') : YS w' a n xs :=
  ⟨f.len, f.lt, by
    rcases f.at_ with h0 | ⟨g, off, e, h3, h4⟩
    · exact .inl h0
    · exact .inr ⟨g, off, e, Nat.lt_of_lt_of_le h3 k.size, fun j hj => by rw [k.cell (p := ⟨g, off + j, none⟩) h3 (by omega)]; exact h4 j hj⟩⟩
theorem byte_lt {xs : List Int} (h : ∀ x ∈ xs, 0 ≤ x ∧ x < 256) (k : Nat) : 0 ≤ xs.getD k 0 ∧ xs.getD k 0 < 256 := by
  rw [List.getD_eq_getElem?_getD]
  by_cases hk : k < xs.length
  · rw [List.getElem?_eq_getElem hk]; exact h _ (List.getElem_mem _)
  · rw [List.getElem?_eq_none (by omega)]; exact ⟨by decide, by decide⟩

/-- A whole block of bytes of its own. -/
def YR (w : World) (g : Nat) (xs : List Int) : Prop := w.heap[g]? = some (.cells (xs.map (Value.int .u8)).toArray 5 (0, 0))
theorem YR.lt {w : World} {g : Nat} {xs : List Int} (h : YR w g xs) : g < w.heap.size := by
  unfold YR at h
  rcases Nat.lt_or_ge g w.heap.size with c | c
  · exact c
  · rw [Array.getElem?_eq_none c] at h; cases h
theorem YR.cell {w : World} {g : Nat} {xs : List Int} (h : YR w g xs) (k : Nat) (hk : k < xs.length) : w.cell? ⟨g, k, none⟩ = some (.int .u8 (xs.getD k 0)) := by
  rw [cell_of_row w g k _ _ _ h]
  simp [hk, List.getD_eq_getElem?_getD]
theorem YR.free {w : World} {g : Nat} {xs : List Int} (h : YR w g xs) (k : Nat) : w.frozen? ⟨g, k, none⟩ = false := frozen_of_row w g k _ _ h
theorem YR.keep {w w' : World} {g : Nat} {xs : List Int} (f : YR w g xs) (k : Kept 0 0 w w') : YR w' g xs := by
  unfold YR
  rw [k.block g f.lt (by omega)]
  exact f
theorem YR.set {w : World} {g : Nat} {xs : List Int} (h : YR w g xs) (k : Nat) (x : Int) : YR (w.setCell ⟨g, k, none⟩ (.int .u8 x)) g (xs.set k x) := by
  unfold YR at h ⊢
  rw [heap_setCell_same w g k _ _ _ h]
  simp [List.map_set]
theorem YR.ys {w : World} {g : Nat} {xs : List Int} (h : YR w g xs) (hl : ∀ x ∈ xs, 0 ≤ x ∧ x < 256) : YS w (some ⟨g, 0, none⟩) xs.length xs :=
  ⟨rfl, hl, .inr ⟨g, 0, rfl, h.lt, fun k hk => by rw [Nat.zero_add]; exact h.cell k hk⟩⟩
theorem YR.made (w : World) (n : Nat) : YR (w.alloc (.cells (madeCells #[.int .u8 0] n) 5)) w.heap.size (List.replicate n 0) := by
  unfold YR
  rw [heap_alloc_new]
  have : (madeCells #[.int .u8 0] n) = (List.map (Value.int .u8) (List.replicate n 0)).toArray := by
    apply Array.toList_inj.1
    rw [toList_madeCells_one]
    simp
  rw [this]
theorem infoY : (Try.prog.info? 5).map (fun i => (i.zero, i.size, i.bytes)) = some (some (.int .u8 0), 1, 1) := by kernel_rfl
theorem set_takeY (xs ys : List Int) (k : Nat) (hk : k < xs.length) (hl : ys.length = xs.length) :
    (xs.take k ++ ys.drop k).set k (xs.getD k 0) = xs.take (k + 1) ++ ys.drop (k + 1) := by
  apply List.ext_getElem?
  intro i
  simp only [List.getElem?_set, List.length_append, List.length_take, List.length_drop, List.getElem?_append, List.getElem?_take, List.getElem?_drop, List.getD_eq_getElem?_getD]
  rcases Nat.lt_trichotomy i k with h | h | h
  · rw [if_neg (by omega), if_pos (by omega), if_pos (by omega), if_pos (by omega), if_pos (by omega)]
  · subst h
    rw [if_pos rfl, if_pos (by omega), if_pos (by omega), if_pos (by omega), List.getElem?_eq_getElem hk]; rfl
  · rw [if_neg (by omega), if_neg (by omega), if_neg (by omega)]
    congr 1; omega

theorem make_y (n : Nat) (w : World) (hn : n ≤ 1099511627776) :
    (Instr.makeSlice 22 (.int .i64 (n : Int)) (.int .i64 (n : Int))).run Try.prog w = .ok (.slice (some ⟨w.heap.size, 0, none⟩) n n) (w.alloc (.cells (madeCells #[.int .u8 0] n) 5)) := by
  obtain ⟨i, hi, hz0, hz1, hz2⟩ := info_parts infoY
  have := run_make (P := Try.prog) w 22 5 i (.int .u8 0) Try.underlying22 hi hz0 .i64 .i64 n n (by omega) (by omega) (by rw [hz2]; omega) (by omega)
  rw [hz1, Nat.mul_one, Int.toNat_natCast] at this
  exact this

set_option maxHeartbeats 1000000 in
theorem toY_pos (w : World) (g0 off n cap : Nat) (xs : List Int) (hx : xs.length = n) (hn : n ≤ 1048576) (hg : g0 < w.heap.size)
    (hc : ∀ k, k < n → w.cell? ⟨g0, off + k, none⟩ = some (.int .u8 (xs.getD k 0))) :
    Calls Try.prog 52 #[.slice (some ⟨g0, off, none⟩) n cap] w fun e w' => e = .returned (.slice (some ⟨w.heap.size, 0, none⟩) n n) ∧ YR w' w.heap.size xs ∧ Kept 0 0 w w' := by
  have hm := make_y n w (by omega)
  have hsz0 : (w.alloc (.cells (madeCells #[.int .u8 0] n) 5)).heap.size = w.heap.size + 1 := by simp
  have hYR := YR.made w n
  have hK := kept_alloc 0 0 w (.cells (madeCells #[.int .u8 0] n) 5)
  have HC : Hid (∀ k, k < n → w.cell? ⟨g0, off + k, none⟩ = some (.int .u8 (xs.getD k 0))) := hc
  have HX : Hid (xs.length = n) := hx
  clear hc hx
  generalize hw1 : w.alloc (.cells (madeCells #[.int .u8 0] n) 5) = w1 at hm hYR hK hsz0
  clear hw1
  have HS : Hid (w1.heap.size = w.heap.size + 1) := hsz0
  clear hsz0
  go_enter Try.func52, Try.ntmps52
  go_wp2_with fail
  clear hm
  go_loopw [4] (fun i W => ∃ k : Nat, k ≤ n ∧ i = .int .i64 k ∧ YR W w.heap.size (xs.take k ++ (List.replicate n 0).drop k) ∧ Kept 0 0 w W) (fun i _ => n - (intOf i).toNat)
  case atStart => exact ⟨0, Nat.zero_le _, rfl, by simpa using hYR, hK⟩
  case round =>
    obtain ⟨k, hk, rfl, hF, hKW⟩ := hrel
    by_cases hlt : k < n
    · have c1 : wr.cell? ⟨g0, off + k, none⟩ = some (.int .u8 (xs.getD k 0)) := by rw [hKW.cell (p := ⟨g0, off + k, none⟩) hg (by omega)]; exact HC.out k hlt
      have hl : (xs.take k ++ (List.replicate n 0).drop k).length = n := by simp [HX.out]; omega
      have c2 := hF.cell k (by omega)
      have c3 := hF.free k
      have R1 : Hid _ := hF.set k (xs.getD k 0)
      have R2 : Hid _ := hKW.new (kept_setCell (lo := w.heap.size) (hi := w.heap.size + 1) wr ⟨w.heap.size, k, none⟩ (.int .u8 (xs.getD k 0)) (.inl ⟨Nat.le_refl _, Nat.lt_succ_self _⟩)) (Nat.le_refl _)
      clear hF hKW hYR hK hl
      go_wp2
      go_roundw
      case rel =>
        refine ⟨k + 1, by omega, by go_num, ?_, R2.out⟩
        have := R1.out
        rw [set_takeY xs (List.replicate n 0) k (by rw [HX.out]; exact hlt) (by simp [HX.out])] at this
        exact this
      case measure => simp [intOf]; omega
    · obtain rfl : k = n := by omega
      clear hYR hK
      go_wp2
      go_ret
      refine ⟨rfl, ?_, hKW⟩
      have h1 : (xs.take k ++ (List.replicate k 0).drop k) = xs := by rw [List.take_of_length_le (by rw [HX.out]; omega), List.drop_of_length_le (by simp), List.append_nil]
      rw [h1] at hF
      exact hF
set_option maxRecDepth 100000 in
set_option maxHeartbeats 1000000 in
theorem toY_zero (w : World) (a : Option Addr) (cap : Nat) :
    Calls Try.prog 52 #[.slice a 0 cap] w fun e w' => e = .returned (.slice (some ⟨w.heap.size, 0, none⟩) 0 0) ∧ YR w' w.heap.size [] ∧ Kept 0 0 w w' := by
  have hm := make_y 0 w (by omega)
  rw [show ((0 : Nat) : Int) = 0 from rfl] at hm
  have hYR := YR.made w 0
  have hK := kept_alloc 0 0 w (.cells (madeCells #[.int .u8 0] 0) 5)
  generalize hw1 : w.alloc (.cells (madeCells #[.int .u8 0] 0) 5) = w1 at hm hYR hK
  clear hw1
  go_enter Try.func52, Try.ntmps52
  go_wp2_with fail
  refine wp_loop_rounds 1 ?_
  rw [rounds_succ]
  go_wp2
  go_ret
  exact ⟨rfl, hYR, hK⟩
/-- toByteS: a copy of its own. -/
theorem toY (w : World) (a : Option Addr) (n cap : Nat) (xs : List Int) (f : YS w a n xs) (hn : n ≤ 1048576) :
    Calls Try.prog 52 #[.slice a n cap] w fun e w' => e = .returned (.slice (some ⟨w.heap.size, 0, none⟩) n n) ∧ YS w' (some ⟨w.heap.size, 0, none⟩) n xs ∧ Kept 0 0 w w' := by
  rcases f.at_ with rfl | ⟨g, off, rfl, h3, h4⟩
  · have : xs = [] := List.length_eq_zero_iff.1 f.len
    subst this
    exact (toY_zero w a cap).mono fun _ _ h => ⟨h.1, h.2.1.ys (by simp), h.2.2⟩
  · refine (toY_pos w g off n cap xs f.len hn h3 h4).mono fun _ _ h => ⟨h.1, ?_, h.2.2⟩
    have := h.2.1.ys f.lt
    rw [f.len] at this
    exact this

set_option maxRecDepth 100000 in
set_option maxHeartbeats 1000000 in
theorem eqY_zero (w : World) (a b : Option Addr) (ca cb : Nat) :
    Calls Try.prog 54 #[.slice a 0 ca, .slice b 0 cb] w fun e w' => e = .returned (.bool true) ∧ w' = w := by
  go_enter Try.func54, Try.ntmps54
  go_wp2_with fail
  refine wp_loop_rounds 1 ?_
  rw [rounds_succ]
  go_wp2
  go_ret
  exact ⟨rfl, rfl⟩
set_option maxRecDepth 100000 in
set_option maxHeartbeats 1000000 in
theorem eqY_pos (w : World) (g1 o1 g2 o2 n ca cb : Nat) (xs : List Int) (hn : n ≤ 1099511627776)
    (hx : ∀ k, k < n → w.cell? ⟨g1, o1 + k, none⟩ = some (.int .u8 (xs.getD k 0))) (hy : ∀ k, k < n → w.cell? ⟨g2, o2 + k, none⟩ = some (.int .u8 (xs.getD k 0))) :
    Calls Try.prog 54 #[.slice (some ⟨g1, o1, none⟩) n ca, .slice (some ⟨g2, o2, none⟩) n cb] w fun e w' => e = .returned (.bool true) ∧ Drawn w w' := by
  have HX : Hid (∀ k, k < n → w.cell? ⟨g1, o1 + k, none⟩ = some (.int .u8 (xs.getD k 0))) := hx
  have HY : Hid (∀ k, k < n → w.cell? ⟨g2, o2 + k, none⟩ = some (.int .u8 (xs.getD k 0))) := hy
  clear hx hy
  go_enter Try.func54, Try.ntmps54
  go_wp2_with fail
  go_loopw [5] (fun i W => ∃ k : Nat, k ≤ n ∧ i = .int .i64 k ∧ Drawn w W) (fun i _ => n - (intOf i).toNat)
  case atStart => exact ⟨0, Nat.zero_le _, rfl, Drawn.refl _⟩
  case round =>
    obtain ⟨k, hk, rfl, HW⟩ := hrel
    by_cases hlt : k < n
    · have c1 : wr.cell? ⟨g1, o1 + k, none⟩ = some (.int .u8 (xs.getD k 0)) := by rw [HW.cell]; exact HX.out k hlt
      have c2 : wr.cell? ⟨g2, o2 + k, none⟩ = some (.int .u8 (xs.getD k 0)) := by rw [HW.cell]; exact HY.out k hlt
      have e1 : (xs.getD k 0 != xs.getD k 0) = false := by simp
      generalize xs.getD k 0 = x at c1 c2 e1
      go_wp2_with fail
      try go_quiet (fail)
      try go_wp2
      go_roundw
      case rel => exact ⟨k + 1, by omega, by go_num, by first | exact HW | exact HW.more _⟩
      case measure => simp [intOf]; omega
    · go_wp2
      go_ret
      exact ⟨rfl, HW⟩
/-- eqByteS of the same bytes. -/
theorem eqY (w : World) (a b : Option Addr) (n ca cb : Nat) (xs : List Int) (f : YS w a n xs) (g : YS w b n xs) (hn : n ≤ 1099511627776) :
    Calls Try.prog 54 #[.slice a n ca, .slice b n cb] w fun e w' => e = .returned (.bool true) ∧ Drawn w w' := by
  rcases f.at_ with rfl | ⟨g1, o1, rfl, a3, a4⟩
  · exact (eqY_zero w a b ca cb).mono fun _ _ h => ⟨h.1, 0, h.2⟩
  · rcases g.at_ with rfl | ⟨g2, o2, rfl, b3, b4⟩
    · exact (eqY_zero w _ b ca cb).mono fun _ _ h => ⟨h.1, 0, h.2⟩
    · exact eqY_pos w g1 o1 g2 o2 n ca cb xs hn a4 b4
end Go.Proofs.Ytcphabjekfihnaa

namespace Go.Proofs.Ytcphabjekfihnaa
open Go.RowKit Flt

/-- A digit. -/
def dig (c : Int) : Bool := decide (48 ≤ c) && decide (c ≤ 57)
theorem dig_true {c : Int} (h : dig c = true) : 48 ≤ c ∧ c ≤ 57 := by simp [dig] at h; exact h
theorem dig_false {c : Int} (h : dig c = false) : ¬ (48 ≤ c ∧ c ≤ 57) := by simp [dig] at h; omega
theorem dig_46 : dig 46 = false := by decide

/-- The form of a number, with its point at p, or -1 with none. -/
structure GoodAt (xs : List Int) (p : Int) : Prop where
  pos : 0 < xs.length
  point : ∀ i, i < xs.length → (xs.getD i 0 = 46 ↔ (i : Int) = p)
  digit : ∀ i, i < xs.length → xs.getD i 0 ≠ 46 → dig (xs.getD i 0) = true
  place : p = -1 ∨ (0 < p ∧ p + 1 < xs.length)
def Good (xs : List Int) : Prop := ∃ p, GoodAt xs p

/-- n, d and whether the point was met, after some bytes. -/
def nst (s : Int × Int × Bool) (c : Int) : Int × Int × Bool := if c = 46 then (s.1, s.2.1, true) else (s.1 * 10 + (c - 48), if s.2.2 then s.2.1 * 10 else s.2.1, s.2.2)
def nds (xs : List Int) : Int × Int × Bool := xs.foldl nst (0, 1, false)

theorem take_snoc (xs : List Int) (k : Nat) (hk : k < xs.length) : xs.take (k + 1) = xs.take k ++ [xs.getD k 0] := by
  rw [List.take_succ_eq_append_getElem hk, List.getD_eq_getElem?_getD, List.getElem?_eq_getElem hk]; rfl
theorem nds_snoc (xs : List Int) (k : Nat) (hk : k < xs.length) : nds (xs.take (k + 1)) = nst (nds (xs.take k)) (xs.getD k 0) := by
  rw [take_snoc xs k hk, nds, List.foldl_append]; rfl
theorem cnt_snoc (q : Int → Bool) (xs : List Int) (k : Nat) (hk : k < xs.length) : (xs.take (k + 1)).countP q = (xs.take k).countP q + if q (xs.getD k 0) then 1 else 0 := by
  rw [take_snoc xs k hk, List.countP_append]
  simp [List.countP_cons]

theorem nds_bound (xs : List Int) (h : ∀ i, i < xs.length → xs.getD i 0 ≠ 46 → dig (xs.getD i 0) = true) : ∀ k, k ≤ xs.length →
    0 ≤ (nds (xs.take k)).1 ∧ (nds (xs.take k)).1 < 10 ^ k ∧ 1 ≤ (nds (xs.take k)).2.1 ∧ (nds (xs.take k)).2.1 ≤ 10 ^ k
  | 0, _ => by simp [nds]
  | k + 1, hk => by
    obtain ⟨h1, h2, h3, h4⟩ := nds_bound xs h k (by omega)
    have hp : (10 : Int) ^ (k + 1) = 10 ^ k * 10 := by rw [Int.pow_succ]
    rw [nds_snoc xs k (by omega), hp]
    unfold nst
    by_cases c : xs.getD k 0 = 46
    · rw [if_pos c]
      exact ⟨h1, by simp only; omega, h3, by simp only; omega⟩
    · rw [if_neg c]
      have := dig_true (h k (by omega) c)
      refine ⟨by simp only; omega, by simp only; omega, ?_, ?_⟩
      · simp only; split <;> omega
      · simp only; split <;> omega
theorem pow16 {k : Nat} (h : k ≤ 16) : (10 : Int) ^ k ≤ 10000000000000000 := by
  have : (10 : Int) ^ k ≤ 10 ^ 16 := by
    have e : ((10 ^ k : Nat) : Int) ≤ ((10 ^ 16 : Nat) : Int) := Int.ofNat_le.2 (Nat.pow_le_pow_right (by decide) h)
    simpa using e
  simpa using this
theorem nds_small (xs : List Int) (h : ∀ i, i < xs.length → xs.getD i 0 ≠ 46 → dig (xs.getD i 0) = true) (k : Nat) (hk : k ≤ xs.length) (h16 : k ≤ 16) :
    0 ≤ (nds (xs.take k)).1 ∧ (nds (xs.take k)).1 ≤ 10000000000000000 ∧ 1 ≤ (nds (xs.take k)).2.1 ∧ (nds (xs.take k)).2.1 ≤ 10000000000000000 := by
  obtain ⟨h1, h2, h3, h4⟩ := nds_bound xs h k hk
  have := pow16 h16
  exact ⟨h1, by omega, h3, by omega⟩

theorem cnt_both (xs : List Int) (h : ∀ i, i < xs.length → xs.getD i 0 ≠ 46 → dig (xs.getD i 0) = true) : ∀ k, k ≤ xs.length →
    (xs.take k).countP dig + (xs.take k).countP (· == 46) = k
  | 0, _ => by simp
  | k + 1, hk => by
    have IH := cnt_both xs h k (by omega)
    rw [cnt_snoc _ xs k (by omega), cnt_snoc _ xs k (by omega)]
    by_cases c : xs.getD k 0 = 46
    · rw [c, dig_46]; simp; omega
    · rw [h k (by omega) c]
      have : (xs.getD k 0 == 46) = false := beq_eq_false_iff_ne.2 c
      rw [this]; simp; omega
theorem GoodAt.points {xs : List Int} {p : Int} (h : GoodAt xs p) : ∀ k, k ≤ xs.length → (xs.take k).countP (· == 46) = if 0 ≤ p ∧ p < k then 1 else 0
  | 0, _ => by rw [if_neg (by omega)]; simp
  | k + 1, hk => by
    rw [cnt_snoc _ xs k (by omega), h.points k (by omega)]
    by_cases c : xs.getD k 0 = 46
    · have := (h.point k (by omega)).1 c
      rw [c, if_neg (show ¬ (0 ≤ p ∧ p < (k : Int)) by omega), if_pos (show 0 ≤ p ∧ p < ((k + 1 : Nat) : Int) by omega)]; simp
    · have : ¬ (k : Int) = p := fun e => c ((h.point k (by omega)).2 e)
      have e : (xs.getD k 0 == 46) = false := beq_eq_false_iff_ne.2 c
      rw [e]
      by_cases q : 0 ≤ p ∧ p < k
      · rw [if_pos q, if_pos (show 0 ≤ p ∧ p < ((k + 1 : Nat) : Int) by omega)]; simp
      · rw [if_neg q, if_neg (show ¬ (0 ≤ p ∧ p < ((k + 1 : Nat) : Int)) by omega)]; simp
/-- At most one point: with at most 15 digits at most 16 bytes. -/
theorem GoodAt.short {xs : List Int} {p : Int} (h : GoodAt xs p) (hd : xs.countP dig ≤ 15) : xs.length ≤ 16 := by
  have h1 := cnt_both xs h.digit xs.length (Nat.le_refl _)
  have h2 := h.points xs.length (Nat.le_refl _)
  rw [List.take_of_length_le (Nat.le_refl _)] at h1 h2
  rw [h2] at h1
  split at h1 <;> omega
theorem GoodAt.behind {xs : List Int} {p : Int} (h : GoodAt xs p) : ∀ k, k ≤ xs.length → (nds (xs.take k)).2.2 = decide (0 ≤ p ∧ p < k)
  | 0, _ => by rw [decide_eq_false (by omega)]; rfl
  | k + 1, hk => by
    have IH := h.behind k (by omega)
    rw [nds_snoc xs k (by omega)]
    unfold nst
    by_cases c : xs.getD k 0 = 46
    · have := (h.point k (by omega)).1 c
      rw [if_pos c]
      exact (decide_eq_true (by omega)).symm
    · have : ¬ (k : Int) = p := fun e => c ((h.point k (by omega)).2 e)
      rw [if_neg c]
      simp only
      rw [IH]
      exact decide_eq_decide.2 (by omega)

/-- What ReadNumber answers. -/
def RN (xs : List Int) (f : Nat) (c : Int) : Prop :=
  (¬ Good xs ∧ f = 0 ∧ c = 2) ∨ (Good xs ∧ 15 < xs.countP dig ∧ f = 0 ∧ c = 5) ∨
  (Good xs ∧ xs.countP dig ≤ 15 ∧ f < 18446744073709551616 ∧ fb f = fb (cop .quo (floatOfInt .f64 (nds xs).1) (floatOfInt .f64 (nds xs).2.1)) ∧ c = 0)
theorem RN.same {xs : List Int} {f g : Nat} {c d : Int} (h : RN xs f c) (k : RN xs g d) : fb f = fb g ∧ c = d ∧ f < 18446744073709551616 ∧ g < 18446744073709551616 := by
  rcases h with ⟨h1, rfl, rfl⟩ | ⟨h1, h2, rfl, rfl⟩ | ⟨h1, h2, h3, h4, rfl⟩ <;> rcases k with ⟨k1, rfl, rfl⟩ | ⟨k1, k2, rfl, rfl⟩ | ⟨k1, k2, k3, k4, rfl⟩
  all_goals first
    | exact absurd k1 h1
    | exact absurd h1 k1
    | (exfalso; omega)
    | exact ⟨rfl, rfl, by decide, by decide⟩
    | exact ⟨h4.trans k4.symm, rfl, h3, k3⟩

/-- The model's first loop, in its middle: the point at p. -/
structure Mid (xs : List Int) (k : Nat) (p : Int) (dg : Int) : Prop where
  count : dg = ((xs.take k).countP dig : Nat)
  point : ∀ i, i < k → (xs.getD i 0 = 46 ↔ (i : Int) = p)
  digit : ∀ i, i < k → xs.getD i 0 ≠ 46 → dig (xs.getD i 0) = true
  place : p = -1 ∨ (0 ≤ p ∧ p < k)
theorem mid_start (xs : List Int) : Mid xs 0 (-1) 0 := ⟨rfl, fun i hi => by omega, fun i hi => by omega, .inl rfl⟩
theorem Mid.digitStep {xs : List Int} {k : Nat} {p dg : Int} (h : Mid xs k p dg) (hk : k < xs.length) (hd : dig (xs.getD k 0) = true) : Mid xs (k + 1) p (dg + 1) := by
  have hn : xs.getD k 0 ≠ 46 := fun e => by rw [e] at hd; cases hd
  refine ⟨?_, ?_, ?_, ?_⟩
  · rw [cnt_snoc _ xs k hk, hd, h.count]; simp
  · intro i hi
    by_cases e : i = k
    · subst e
      refine ⟨fun c => absurd c hn, fun c => ?_⟩
      rcases h.place with q | q <;> omega
    · exact h.point i (by omega)
  · intro i hi c
    by_cases e : i = k
    · subst e; exact hd
    · exact h.digit i (by omega) c
  · rcases h.place with q | q
    · exact .inl q
    · exact .inr (by omega)
theorem Mid.pointStep {xs : List Int} {k : Nat} {p dg : Int} (h : Mid xs k p dg) (hk : k < xs.length) (hd : xs.getD k 0 = 46) (hp : p < 0) : Mid xs (k + 1) k dg := by
  refine ⟨?_, ?_, ?_, ?_⟩
  · rw [cnt_snoc _ xs k hk, hd, dig_46, h.count]; simp
  · intro i hi
    by_cases e : i = k
    · subst e
      exact ⟨fun _ => rfl, fun _ => hd⟩
    · refine ⟨fun c => ?_, fun c => by omega⟩
      have := (h.point i (by omega)).1 c
      rcases h.place with q | q <;> omega
  · intro i hi c
    by_cases e : i = k
    · subst e; exact absurd hd c
    · exact h.digit i (by omega) c
  · exact .inr (by omega)
theorem Mid.bad {xs : List Int} {k : Nat} {p dg : Int} (h : Mid xs k p dg) (hk : k < xs.length) (hd : dig (xs.getD k 0) = false) (hb : xs.getD k 0 ≠ 46 ∨ 0 ≤ p) : ¬ Good xs := by
  rintro ⟨q, g⟩
  by_cases c : xs.getD k 0 = 46
  · rcases hb with hb | hb
    · exact hb c
    · have e1 := (g.point k hk).1 c
      rcases h.place with h0 | h0
      · omega
      · obtain ⟨m, rfl⟩ := Int.eq_ofNat_of_zero_le h0.1
        have h1 := (h.point m (by omega)).2 rfl
        have := (g.point m (by omega)).1 h1
        omega
  · have := g.digit k hk c
    rw [hd] at this; cases this
theorem Mid.good {xs : List Int} {p dg : Int} (h : Mid xs xs.length p dg) (h0 : 0 < xs.length) (h1 : p ≠ 0) (h2 : p ≠ (xs.length : Int) - 1) : GoodAt xs p :=
  ⟨h0, h.point, h.digit, by rcases h.place with q | q <;> omega⟩
theorem Mid.notGood {xs : List Int} {p dg : Int} (h : Mid xs xs.length p dg) (hb : xs.length = 0 ∨ p = 0 ∨ p = (xs.length : Int) - 1) (h0 : 0 < xs.length → 0 ≤ p) : ¬ Good xs := by
  rintro ⟨q, g⟩
  have hp := g.pos
  have := h0 hp
  obtain ⟨m, rfl⟩ := Int.eq_ofNat_of_zero_le this
  have hm : m < xs.length := by rcases h.place with q | q <;> omega
  have h1 := (h.point m hm).2 rfl
  have := (g.point m hm).1 h1
  rcases g.place with q | q <;> omega
end Go.Proofs.Ytcphabjekfihnaa
