import Derived.Test.YtiiimofkkahobaaDoorP11
import Derived.Lib.ItoaWalk
import Derived.Lib.ItoaMem
import Derived.Laws.Bits64b
import Derived.Laws.Strings
import Derived.Test.YtiiimofkkahobaaDoorP05
import Derived.Deep.AppendLies
import Derived.Deep.RegionLaw
import Derived.Test.YtiiimofkkahobaaDoorP12
import Derived.Lib.ItoaNum
namespace Go.Proofs.YtiiimofkkahobaaDoor
open Go.RowKit Flt
attribute [local go_sem] alloc_drewN setCell_drewN run_store_float
/-! strconv.FormatUint at base 16. -/
theorem hexN_ln : ∀ (k v : Nat), (hexN v k).length = k
  | 0, _ => rfl
  | k + 1, v => by rw [hexN, List.length_append, hexN_ln k]; rfl
theorem hexN_cons : ∀ (k v : Nat), hexN v (k + 1) = hexD (v / 16 ^ k % 16) :: hexN v k
  | 0, v => by simp [hexN]
  | k + 1, v => by
    rw [hexN, hexN_cons k (v / 16), Nat.div_div_eq_div_mul, List.cons_append, show 16 * 16 ^ k = 16 ^ (k + 1) by rw [Nat.pow_succ, Nat.mul_comm]]
    rfl
theorem hexN_pad : ∀ (m k v : Nat), v < 16 ^ k → hexN v (m + k) = List.replicate m 48 ++ hexN v k
  | 0, k, v, _ => by simp
  | m + 1, k, v, h => by
    rw [show m + 1 + k = (m + k) + 1 by omega, hexN_cons, hexN_pad m k v h, Nat.div_eq_of_lt (Nat.lt_of_lt_of_le h (Nat.pow_le_pow_right (by decide) (by omega)))]
    simp [List.replicate_succ, hexD]
/-- The 36 digits. -/
theorem dig36_fin : ∀ k : Fin 16, (({ data := #[48, 49, 50, 51, 52, 53, 54, 55, 56, 57, 97, 98, 99, 100, 101, 102, 103, 104, 105, 106, 107, 108, 109, 110, 111, 112, 113, 114, 115, 116, 117, 118, 119, 120, 121, 122] } : ByteArray).data.toList.getD k.1 0) = hexD k.1 := by decide +kernel
theorem idx36 (D : ByteArray) (hD : D = { data := #[48, 49, 50, 51, 52, 53, 54, 55, 56, 57, 97, 98, 99, 100, 101, 102, 103, 104, 105, 106, 107, 108, 109, 110, 111, 112, 113, 114, 115, 116, 117, 118, 119, 120, 121, 122] }) (k : IntKind) (d : Nat) (h : d < 16) (w : World) :
    (Instr.index 9 (.string D) (.int k (d : Int))).run Tryd.prog w = .ok (.int .u8 ((hexD d).toNat : Int)) w := by
  have hs : D.size = 36 := by rw [hD]; rfl
  rw [run_index_string w 9 D k _ Tryd.underlying9, dif_pos ⟨by omega, by rw [hs]; omega⟩]
  simp only [Int.toNat_natCast]
  rw [Lib.getD_at D d (by rw [hs]; omega), hD, dig36_fin ⟨d, h⟩]
set_option maxRecDepth 100000 in
theorem tz64 (w : World) (h : w.cell? ⟨5, 15, none⟩ = some (.int .u8 4)) : Calls Tryd.prog 88 #[.int .u64 16] w fun e w' => e = .returned (.int .i64 4) ∧ w' = w := by
  have e1 : IntKind.u64.wrap (-16) = 18446744073709551600 := by decide
  have e2 : bits BinOp.and IntKind.u64 16 18446744073709551600 = 16 := by decide
  have e3 : IntKind.u64.wrap (16 * 285870213051353865) = 4573923408821661840 := by decide
  have e4 : IntKind.u64.wrap 4573923408821661840 = 4573923408821661840 := by decide
  go_enter Tryd.func88, Tryd.ntmps88
  go_wp2
  go_ret
  exact ⟨rfl, rfl⟩
set_option maxRecDepth 100000 in
theorem tzU (w : World) (h : w.cell? ⟨5, 15, none⟩ = some (.int .u8 4)) : Calls Tryd.prog 83 #[.int .u64 16] w fun e w' => e = .returned (.int .i64 4) ∧ w' = w := by
  go_enter Tryd.func83, Tryd.ntmps83
  go_wp2_with (go_at_call 88; refine (tz64 _ h).mono ?_; rintro e w' ⟨rfl, rfl⟩)
  go_ret
  exact ⟨rfl, rfl⟩
/-- The row of 65 bytes in which the digits are laid from behind: k of them stand. -/
def HB (W : World) (g u k : Nat) : Prop := ∃ f : Nat → Int, (∀ t, t < 65 → W.cell? ⟨g, t, none⟩ = some (.int .u8 (f t)) ∧ W.frozen? ⟨g, t, none⟩ = false) ∧ ∀ j, j < k → f (65 - k + j) = (((hexN u k).getD j 0).toNat : Int)
theorem HB.start (W : World) (g u : Nat) (h : ∀ t, t < 65 → W.cell? ⟨g, t, none⟩ = some (.int .u8 0) ∧ W.frozen? ⟨g, t, none⟩ = false) : HB W g u 0 := ⟨fun _ => 0, h, fun _ hj => by omega⟩
theorem HB.put {W : World} {g u k : Nat} (h : HB W g u k) (hk : k < 65) : HB (W.setCell ⟨g, 64 - k, none⟩ (.int .u8 ((hexD (u / 16 ^ k % 16)).toNat : Int))) g u (k + 1) := by
  obtain ⟨f, h1, h2⟩ := h
  refine ⟨fun t => if t = 64 - k then ((hexD (u / 16 ^ k % 16)).toNat : Int) else f t, fun t ht => ⟨?_, ?_⟩, fun j hj => ?_⟩
  · by_cases e : t = 64 - k
    · subst e
      rw [World.cell?_setCell_same _ _ _ (h1 _ (by omega)).1]
      exact congrArg (fun z => some (Value.int .u8 z)) (if_pos rfl).symm
    · rw [World.cell?_setCell_other _ _ _ _ (by simp), (h1 t ht).1]
      exact congrArg (fun z => some (Value.int .u8 z)) (if_neg e).symm
  · rw [World.frozen?_setCell]; exact (h1 t ht).2
  · rw [hexN_cons]
    cases j with
    | zero => exact if_pos (by omega)
    | succ j =>
      have e1 : 65 - (k + 1) + (j + 1) = 65 - k + j := by omega
      refine (if_neg (by omega)).trans ?_
      rw [e1, h2 j (by omega)]
      rfl
theorem HB.at_ {W : World} {g u k : Nat} (h : HB W g u k) (t : Nat) (ht : t < 65) : ∃ z, W.cell? ⟨g, t, none⟩ = some (.int .u8 z) ∧ W.frozen? ⟨g, t, none⟩ = false := by
  obtain ⟨f, h1, _⟩ := h
  exact ⟨f t, h1 t ht⟩
theorem HB.read {W : World} {g u k : Nat} (h : HB W g u k) (hk : k ≤ 65) (j : Nat) (hj : j < (hexN u k).length) : W.cell? ((⟨g, 65 - k, none⟩ : Addr).add j) = some (.int .u8 (((hexN u k)[j]'hj).toNat : Int)) := by
  obtain ⟨f, h1, h2⟩ := h
  have hj' : j < k := by rw [hexN_ln] at hj; exact hj
  rw [Lib.add_plain, (h1 (65 - k + j) (by omega)).1, h2 j hj', List.getD_eq_getElem?_getD, List.getElem?_eq_getElem hj]
  rfl
set_option maxRecDepth 100000 in
theorem pow2 (w : World) : Calls Tryd.prog 82 #[.int .i64 16] w fun e w' => e = .returned (.bool true) ∧ w' = w := by
  have e1 : bits BinOp.and IntKind.i64 16 15 = 0 := by decide
  go_enter Tryd.func82, Tryd.ntmps82
  go_wp2
  go_ret
  exact ⟨rfl, rfl⟩
set_option maxRecDepth 100000 in
set_option maxHeartbeats 4000000 in
theorem fmt16 (u : Nat) (hu : u < 18446744073709551616) (w : World) (h : w.cell? ⟨5, 15, none⟩ = some (.int .u8 4)) (hg : 5 < w.heap.size) :
    Calls Tryd.prog 72 #[.slice none 0 0, .int .u64 (u : Int), .int .i64 16, .bool false, .bool false] w fun e w' => ∃ K, K < 16 ∧ u < 16 ^ (K + 1) ∧ e = .returned (.tuple #[.slice none 0 0, strL (hexN u (K + 1))]) ∧ Kept 0 0 w w' := by
  have HT : Hid _ := h
  have HG : Hid _ := hg
  have HU : Hid _ := hu
  clear h hg
  go_enter Tryd.func72, Tryd.ntmps72
  go_name_bytes D0 h0
  clear h0
  go_name_bytes D hD
  have eD : Hid _ := hD.symm
  clear hD
  go_wp2_with (first
    | (go_at_call 82; refine (pow2 _).mono ?_; rintro e w1 ⟨rfl, rfl⟩)
    | (go_at_call 83; refine (tzU _ ((Kept.cell (kept_alloc 0 0 w _) (p := ⟨5, 15, none⟩) HG.out (by omega)).trans HT.out)).mono ?_; rintro e w1 ⟨rfl, rfl⟩))
  have hz : ∀ t, t < 65 → Tryd.zeroCells107[t]? = some (.int .u8 0) := by
    intro t ht
    rw [show Tryd.zeroCells107 = Array.replicate 65 (.int .u8 0) by kernel_rfl, Array.getElem?_replicate, if_pos ht]
  go_loopw [1, 13] (fun a i W => ∃ k v m : Nat, Hid (v = u / 16 ^ k) ∧ Hid (m + k = 64) ∧ k < 16 ∧ m < 65 ∧ v < 18446744073709551616 ∧ a = .int .u64 (v : Int) ∧ i = .int .i64 ((m : Int) + 1) ∧ Hid (HB W w.heap.size u k) ∧ Hid (Kept 0 0 w W)) (fun a _ _ => (intOf a).toNat)
  case atStart => exact ⟨0, u, 64, (by show u = u / 16 ^ 0; simp), rfl, by decide, by decide, hu, rfl, rfl, HB.start _ _ _ (fun t ht => ⟨by rw [World.cell?_alloc_new]; exact hz t ht, World.frozen?_alloc_new _ _ _ _⟩), kept_alloc 0 0 w _⟩
  case round =>
    obtain ⟨k, v, m, hv, hm, hk, hm2, hv2, rfl, rfl, hB, hK⟩ := hrel
    have t1 : IntKind.i64.wrap ((m : Int) + 1 - 1) = (m : Int) := by rw [IntKind.wrap_i64]; omega
    have t2 : (m : Int) < 65 := by omega
    have t3 : (0 : Int) ≤ (m : Int) := by omega
    obtain ⟨d, hd⟩ : ∃ d : Nat, d = v % 16 := ⟨_, rfl⟩
    have ea : bits BinOp.and IntKind.u64 (v : Int) 15 = (d : Int) := by
      rw [show (15 : Int) = ((15 : Nat) : Int) from rfl, bits_and_u64_nat _ _ hv2 (by decide), hd]
      exact congrArg _ (Nat.and_two_pow_sub_one_eq_mod v 4)
    have hd16 : d < 16 := by omega
    obtain ⟨z, c1, c2⟩ := hB.out.at_ m hm2
    have HD : Hid _ := hd
    clear hd
    by_cases hlt : 16 ≤ v
    · have hx := fun w => idx36 D eD.out .u64 d hd16 w
      have t4 : (16 : Int) ≤ (v : Int) := by omega
      have hk1 : Hid (k + 1 < 16 ∧ 0 < m) := by
        have h1 := hv.out
        have h2 := hm.out
        have h3 : k ≠ 15 := by
          rintro rfl
          have : u / 16 ^ 15 < 16 := Nat.div_lt_of_lt_mul (by have := HU.out; omega)
          omega
        exact ⟨by omega, by omega⟩
      go_wp2_with fail
      refine ⟨⟨k + 1, v / 16, m - 1, ?_, ?_, hk1.out.1, by omega, by omega, by rw [Int.natCast_ediv]; rfl, by rw [show ((m - 1 : Nat) : Int) + 1 = (m : Int) by have := hk1.out.2; omega], ?_, ?_⟩, ?_⟩
      · show v / 16 = u / 16 ^ (k + 1)
        rw [hv.out, Nat.div_div_eq_div_mul, Nat.pow_succ]
      · show m - 1 + (k + 1) = 64
        have := hm.out
        have := hk1.out.2
        omega
      · have h1 := hB.out.put (by omega)
        rw [← hv.out, ← HD.out, show 64 - k = m by have := hm.out; omega] at h1
        exact h1
      · exact hK.out.new (kept_setCell (lo := w.heap.size) (hi := w.heap.size + 1) _ _ _ (.inl ⟨Nat.le_refl _, Nat.lt_succ_self _⟩)) (Nat.le_refl _)
      · show (((v : Int) / 16)).toNat < ((v : Int)).toNat
        omega
    · have t4 : ¬ (16 : Int) ≤ (v : Int) := by omega
      have hv16 : v < 16 := by omega
      have hx := fun w => idx36 D eD.out .u64 v hv16 w
      have hal : Tryd.prog.arrayLen 107 = 65 := by simp [Program.arrayLen, Tryd.underlying107]
      obtain ⟨n, hn⟩ : ∃ n : Nat, n = 65 - m := ⟨_, rfl⟩
      have hsl : ∀ W, (Instr.sliceAt 107 (.pointer (some ⟨w.heap.size, 0, none⟩)) (some (.int .i64 (m : Int))) none none).run Tryd.prog W = .ok (.slice (some ⟨w.heap.size, m, none⟩) n n) W := fun W => by
        rw [run_sliceAt_array_l W 107 ⟨w.heap.size, 0, none⟩ (by simp [Program.arrayLen, Program.elem, Tryd.underlying107]) .i64 (m : Int) (by omega) (by rw [hal]; omega), hal, hn]
        go_simp
        omega
      have hB2 : Hid (HB (wr.setCell ⟨w.heap.size, m, none⟩ (.int .u8 ((hexD v).toNat : Int))) w.heap.size u (k + 1)) := by
        have h1 := hB.out.put (by omega)
        rw [← hv.out, Nat.mod_eq_of_lt hv16, show 64 - k = m by have := hm.out; omega] at h1
        exact h1
      have hcv : (convert 27 9 (.slice (some ⟨w.heap.size, m, none⟩) n n)).run Tryd.prog (wr.setCell ⟨w.heap.size, m, none⟩ (.int .u8 ((hexD v).toNat : Int))) = .ok (.string ⟨(hexN u (k + 1)).toArray⟩) (wr.setCell ⟨w.heap.size, m, none⟩ (.int .u8 ((hexD v).toNat : Int))) := by
        have h1 := run_convert_bytes_back (P := Tryd.prog) (wr.setCell ⟨w.heap.size, m, none⟩ (.int .u8 ((hexD v).toNat : Int))) 27 9 5 ⟨w.heap.size, m, none⟩ n (hexN u (k + 1)) Tryd.underlying27 Tryd.underlying5 Tryd.underlying9 (fun j hj => by
          have := hB2.out.read (by omega) j hj
          rw [show 65 - (k + 1) = m by have := hm.out; omega] at this
          exact this)
        rw [hexN_ln, show k + 1 = n by have := hm.out; omega] at h1
        rw [show k + 1 = n by have := hm.out; omega]
        exact h1
      have HN : Hid _ := hn
      clear hn hal
      go_wp2_with fail
      go_ret2
      refine ⟨k, hk, ?_, rfl, hK.out.new (kept_setCell (lo := w.heap.size) (hi := w.heap.size + 1) _ _ _ (.inl ⟨Nat.le_refl _, Nat.lt_succ_self _⟩)) (Nat.le_refl _)⟩
      have h1 := hv.out
      rw [Nat.pow_succ]
      have h2 := Nat.div_add_mod u (16 ^ k)
      have h3 := Nat.mod_lt u (show 0 < 16 ^ k from Nat.pow_pos (by decide))
      rw [← h1] at h2
      have h4 : 16 ^ k * v ≤ 16 ^ k * 15 := Nat.mul_le_mul_left _ (by omega)
      omega
set_option maxRecDepth 100000 in
set_option maxHeartbeats 4000000 in
theorem fmtU (u : Nat) (hu : u < 18446744073709551616) (w : World) (h : w.cell? ⟨5, 15, none⟩ = some (.int .u8 4)) (hg : 5 < w.heap.size) :
    Calls Tryd.prog 73 #[.int .u64 (u : Int), .int .i64 16] w fun e w' => ∃ K, K < 16 ∧ u < 16 ^ (K + 1) ∧ e = .returned (strL (hexN u (K + 1))) ∧ Kept 0 0 w w' := by
  have H1 : Hid _ := fmt16 u hu w h hg
  clear h hg hu
  go_enter Tryd.func73, Tryd.ntmps73
  go_wp2_with (go_at_call 72; refine Calls.mono H1.out ?_; rintro e w1 ⟨K, k1, k2, rfl, k3⟩)
  go_ret
  exact ⟨K, k1, k2, rfl, k3⟩
set_option maxRecDepth 100000 in
theorem fmtP (u : Nat) (hu : u < 18446744073709551616) (w : World) (h : w.cell? ⟨5, 15, none⟩ = some (.int .u8 4)) (hg : 5 < w.heap.size) :
    Calls Tryd.prog 59 #[.int .u64 (u : Int), .int .i64 16] w fun e w' => ∃ K, K < 16 ∧ u < 16 ^ (K + 1) ∧ e = .returned (strL (hexN u (K + 1))) ∧ Kept 0 0 w w' := by
  have H1 : Hid _ := fmtU u hu w h hg
  clear h hg hu
  go_enter Tryd.func59, Tryd.ntmps59
  go_wp2_with (go_at_call 73; refine Calls.mono H1.out ?_; rintro e w1 ⟨K, k1, k2, rfl, k3⟩)
  go_ret
  exact ⟨K, k1, k2, rfl, k3⟩
end Go.Proofs.YtiiimofkkahobaaDoor

namespace Go.Proofs.YtiiimofkkahobaaDoor
open Go.RowKit Flt
attribute [local go_sem] alloc_drewN setCell_drewN run_store_float

/-- Of the blocks that were there, only those in S may have turned. -/
structure Chg (S : Nat → Prop) (w w' : World) : Prop where
  os : w'.os = w.os
  tape : w'.tape = w.tape
  output : w'.output = w.output
  size : w.heap.size ≤ w'.heap.size
  block : ∀ k, k < w.heap.size → ¬ S k → w'.heap[k]? = w.heap[k]?
theorem Chg.cell {S : Nat → Prop} {w w' : World} (h : Chg S w w') {p : Addr} (hp : p.block < w.heap.size) (hn : ¬ S p.block) : w'.cell? p = w.cell? p := World.cell?_of_block (w := w) (h.block p.block hp hn)
theorem Chg.frozen {S : Nat → Prop} {w w' : World} (h : Chg S w w') {p : Addr} (hp : p.block < w.heap.size) (hn : ¬ S p.block) : w'.frozen? p = w.frozen? p := World.frozen?_of_block (w := w) (h.block p.block hp hn)
theorem Kept.chg {S : Nat → Prop} {w w' : World} (h : Kept 0 0 w w') : Chg S w w' := ⟨h.os, h.tape, h.output, h.size, fun k hk _ => h.block k hk (by omega)⟩
theorem Chg.kept {S : Nat → Prop} {w0 w w' : World} (k : Kept 0 0 w0 w) (h : Chg S w w') (hS : ∀ i, S i → w0.heap.size ≤ i) : Kept 0 0 w0 w' :=
  ⟨h.os.trans k.os, h.tape.trans k.tape, h.output.trans k.output, Nat.le_trans k.size h.size, fun i hi _ => (h.block i (Nat.lt_of_lt_of_le hi k.size) (fun c => by have := hS i c; omega)).trans (k.block i hi (by omega))⟩

/-- The cells of a list of values. -/
def flat : List Vl → List Value
  | [] => []
  | v :: r => v.cells ++ flat r
theorem flat_append (a b : List Vl) : flat (a ++ b) = flat a ++ flat b := by
  induction a with
  | nil => rfl
  | cons x r ih => simp [flat, ih]
theorem flat_one (v : Vl) : flat [v] = v.cells := by simp [flat]
theorem flat_len (a : List Vl) : (flat a).length = a.length * 6 := by
  induction a with
  | nil => rfl
  | cons x r ih => simp only [flat, List.length_append, ih, List.length_cons]; simp only [Vl.cells, List.length_cons, List.length_nil]; omega
theorem flat_at : ∀ (a : List Vl) (k j : Nat), k < a.length → j < 6 → (flat a)[k * 6 + j]? = (a.getD k Vl.zero).cells[j]?
  | [], k, j, hk, _ => by simp at hk
  | x :: r, 0, j, _, hj => by
    have : (x :: r).getD 0 Vl.zero = x := rfl
    rw [this, flat, List.getElem?_append_left (by simp only [Vl.cells, List.length_cons, List.length_nil]; omega), Nat.zero_mul, Nat.zero_add]
  | x :: r, k + 1, j, hk, hj => by
    have : (x :: r).getD (k + 1) Vl.zero = r.getD k Vl.zero := rfl
    rw [this, flat, List.getElem?_append_right (by simp only [Vl.cells, List.length_cons, List.length_nil]; omega)]
    have e : (k + 1) * 6 + j - x.cells.length = k * 6 + j := by simp only [Vl.cells, List.length_cons, List.length_nil]; omega
    rw [e]
    exact flat_at r k j (by simpa using hk) hj

/-- A row of values that the call owns, read. -/
theorem row_at {W : World} {base n : Nat} {v : Value} {vs : List Vl} (h : W.ownsRow base 44 6 v n (flat vs)) (hn : 0 < n) (hl : vs.length = n) :
    ∃ g cap, v = .slice (some ⟨g, 0, none⟩) n cap ∧ base ≤ g ∧ g < W.heap.size ∧ n ≤ cap ∧ VA W g n vs := by
  rcases h.2 with ⟨_, c⟩ | ⟨g, cap, cur, rfl, b1, b2, b3, _, b5, b6⟩
  · omega
  · have hg : g < W.heap.size := by
      rcases Nat.lt_or_ge g W.heap.size with c | c
      · exact c
      · rw [Array.getElem?_eq_none c] at b2; cases b2
    have key : ∀ k j, k < n → j < 6 → W.cell? ⟨g, k * 6 + j, none⟩ = (vs.getD k Vl.zero).cells[j]? := fun k j hk hj => by
      rw [cell_of_row W g _ cur _ _ b2, ← Array.getElem?_toList]
      have : (cur.toList.take (n * 6))[k * 6 + j]? = (flat vs)[k * 6 + j]? := by rw [b6]
      rw [List.getElem?_take_of_lt (by omega)] at this
      rw [this]
      exact flat_at vs k j (by omega) hj
    refine ⟨g, cap, rfl, b1, hg, b3, hl, hg, fun k hk => ?_, fun o => frozen_of_row W g o _ _ b2⟩
    exact ⟨key k 0 hk (by omega), key k 1 hk (by omega), key k 2 hk (by omega), key k 3 hk (by omega), key k 4 hk (by omega), key k 5 hk (by omega)⟩

/-- The builder at P: its graph's lists and its number of cells; R is the block of its values. -/
structure BS (w : World) (P : Nat) (u1 u3 : Value) (vs : List Vl) (c : Int) (base : Nat) (R : Option Nat) (vv : Value) : Prop where
  lt : P < w.heap.size
  free : ∀ o, w.frozen? ⟨P, o, none⟩ = false
  c0 : w.cell? ⟨P, 0, none⟩ = some u1
  c1 : w.cell? ⟨P, 1, none⟩ = some vv
  c2 : w.cell? ⟨P, 2, none⟩ = some u3
  c3 : w.cell? ⟨P, 3, none⟩ = some (.int .i64 c)
  own : w.ownsRow base 44 6 vv vs.length (flat vs)
  row : vv.ownBlock = R
  ne : R ≠ some P
  sz : base ≤ w.heap.size
/-- What a step leaves: Q's blocks and the row's block R may have turned, the row may have moved to a new block. -/
structure StQ (Q : Nat → Prop) (R : Option Nat) (w : World) (R' : Option Nat) (w' : World) : Prop where
  chg : Chg (fun i => Q i ∨ R = some i) w w'
  row : R' = R ∨ ∃ r, R' = some r ∧ w.heap.size ≤ r
theorem StQ.refl (Q : Nat → Prop) (R : Option Nat) (w : World) : StQ Q R w R w := ⟨⟨rfl, rfl, rfl, Nat.le_refl _, fun _ _ _ => rfl⟩, .inl rfl⟩
theorem StQ.trans {Q : Nat → Prop} {R R' R'' : Option Nat} {w w' w'' : World} (a : StQ Q R w R' w') (b : StQ Q R' w' R'' w'') : StQ Q R w R'' w'' where
  chg := ⟨b.chg.os.trans a.chg.os, b.chg.tape.trans a.chg.tape, b.chg.output.trans a.chg.output, Nat.le_trans a.chg.size b.chg.size, fun k hk hn => by
    rw [b.chg.block k (Nat.lt_of_lt_of_le hk a.chg.size) ?_]
    · exact a.chg.block k hk hn
    · rintro (c | c)
      · exact hn (.inl c)
      · rcases a.row with e | ⟨r, e, hr⟩
        · exact hn (.inr (by rw [← e]; exact c))
        · rw [e] at c
          cases c
          omega⟩
  row := by
    rcases b.row with e | ⟨r, e, hr⟩
    · rw [e]; exact a.row
    · exact .inr ⟨r, e, Nat.le_trans a.chg.size hr⟩
/-- A step of the builder at P. -/
abbrev Stp (P : Nat) (R : Option Nat) (w : World) (R' : Option Nat) (w' : World) : Prop := StQ (fun i => i = P) R w R' w'

theorem own_blkV {base e size n : Nat} {v : Value} {xs : List Value} {W : World} (h : W.ownsRow base e size v n xs) {k : Nat} (hk : v.ownBlock = some k) : base ≤ k ∧ k < W.heap.size := by
  rcases h.2 with ⟨rfl, _⟩ | ⟨g, cap, cur, rfl, b1, b2, _⟩
  · simp [Value.ownBlock] at hk
  · have e : g = k := by simpa [Value.ownBlock] using hk
    subst e
    refine ⟨b1, ?_⟩
    rcases Nat.lt_or_ge g W.heap.size with c | c
    · exact c
    · rw [Array.getElem?_eq_none c] at b2; cases b2

theorem vbox_atJ (w : World) (v : Vl) : At (w.alloc (vbox v.op v.len v.a v.b v.c v.k)) w.heap.size 0 v := by
  refine ⟨?_, ?_, ?_, ?_, ?_, ?_⟩
  all_goals first | (go_simp; done) | (simp; done)
theorem own_drewA {base e size n : Nat} {v : Value} {xs : List Value} {W : World} (h : W.ownsRow base e size v n xs) (m : Nat) (o : Obj) : ((W.alloc o).drewN m).ownsRow base e size v n xs := h.alloc o
theorem heap_new (w : World) (o : Obj) : (w.alloc o).heap[w.heap.size]? = some o := by
  unfold World.alloc
  simp
theorem news6 (w : World) (v : Vl) (m : Nat) : ∀ j u, v.cells[j]? = some u → ((w.alloc (.cells #[.int .i64 v.op, .int .i64 v.len, .int .i64 v.a, .int .i64 v.b, .int .i64 v.c, .float .f64 v.k] 44)).drewN m).cell? ((⟨w.heap.size, 0, none⟩ : Addr).add j) = some u := fun j u hu =>
  World.news_of_block (w := w.alloc (.cells #[.int .i64 v.op, .int .i64 v.len, .int .i64 v.a, .int .i64 v.b, .int .i64 v.c, .float .f64 v.k] 44)) (t := 44) (fr := (0, 0)) (cs := #[.int .i64 v.op, .int .i64 v.len, .int .i64 v.a, .int .i64 v.b, .int .i64 v.c, .float .f64 v.k]) (heap_new _ _) j u hu
theorem far1 {w1 w9 : World} {o : Obj} {m : Nat} {row : Option Nat} (hg : ((w1.alloc o).drewN m).grownBy w9 row) {b off : Nat} {u : Value} (hb : b < w1.heap.size) (hr : row ≠ some b) (hc : w1.cell? ⟨b, off, none⟩ = some u) : w9.cell? ⟨b, off, none⟩ = some u := by
  have hb' : b < ((w1.alloc o).drewN m).heap.size := by show b < (w1.alloc o).heap.size; simp; omega
  rw [hg.cell_far ⟨b, off, none⟩ hb' (fun c => hr c.symm)]
  exact kcell (kept_alloc 0 0 w1 o) hb hc
theorem far2 {w1 w9 : World} {o : Obj} {m : Nat} {row : Option Nat} (hg : ((w1.alloc o).drewN m).grownBy w9 row) {b off : Nat} (hb : b < w1.heap.size) (hr : row ≠ some b) (hc : w1.frozen? ⟨b, off, none⟩ = false) : w9.frozen? ⟨b, off, none⟩ = false := by
  have hb' : b < ((w1.alloc o).drewN m).heap.size := by show b < (w1.alloc o).heap.size; simp; omega
  rw [hg.frozen_far ⟨b, off, none⟩ hb' (fun c => hr c.symm)]
  show (w1.alloc o).frozen? _ = _
  rw [(kept_alloc 0 0 w1 o).frozen (p := ⟨b, off, none⟩) hb (by omega)]
  exact hc
theorem own_setCell {base e size n P o : Nat} {v u : Value} {xs : List Value} {W : World} (h : W.ownsRow base e size v n xs) (hP : v.ownBlock ≠ some P) : (W.setCell ⟨P, o, none⟩ u).ownsRow base e size v n xs := by
  refine ⟨h.1, h.2.imp id ?_⟩
  rintro ⟨g, cap, cur, e1, b1, b2, b3⟩
  refine ⟨g, cap, cur, e1, b1, ?_, b3⟩
  rw [Below.heap_setCell W ⟨P, o, none⟩ u g (fun c => hP (by rw [e1, c]; rfl))]
  exact b2
/-- Behind the append and the two stores. -/
theorem BS.next {w w9 : World} {P : Nat} {u1 u3 : Value} {vs : List Vl} {c : Int} {base : Nat} {R : Option Nat} {vv : Value} {v : Vl} {o o2 : Obj} {m g9 cap9 : Nat} (h : BS w P u1 u3 vs c base R vv)
    (hown9 : w9.ownsRow base 44 6 (.slice (some ⟨g9, 0, none⟩) (vs.length + 1) cap9) (vs.length + 1) (flat vs ++ v.cells)) (hg9 : (((w.alloc o).alloc o2).drewN m).grownBy w9 vv.ownBlock) (hat : vv.ownBlock = some g9 ∨ g9 = (w.alloc o).heap.size + 1) (c' : Int) (hc' : c' = c + v.len) :
    ∃ R' vv', BS ((w9.setCell ⟨P, 1, none⟩ (.slice (some ⟨g9, 0, none⟩) (vs.length + 1) cap9)).setCell ⟨P, 3, none⟩ (.int .i64 c')) P u1 u3 (vs ++ [v]) (c + v.len) base R' vv' ∧ Stp P R w R' ((w9.setCell ⟨P, 1, none⟩ (.slice (some ⟨g9, 0, none⟩) (vs.length + 1) cap9)).setCell ⟨P, 3, none⟩ (.int .i64 c')) := by
  subst hc'
  have hlt := h.lt
  have hs : (w.alloc o).heap.size = w.heap.size + 1 := by simp
  have k1 := kept_alloc 0 0 w o
  have hP1 : P < (w.alloc o).heap.size := by omega
  have hRP : vv.ownBlock ≠ some P := by rw [h.row]; exact h.ne
  have gP : g9 ≠ P := by
    rcases hat with e | e
    · intro c; rw [c] at e; exact hRP e
    · omega
  have q0 := far1 hg9 hP1 hRP (kcell k1 hlt h.c0)
  have q1 := far1 hg9 hP1 hRP (kcell k1 hlt h.c1)
  have q2 := far1 hg9 hP1 hRP (kcell k1 hlt h.c2)
  have q3 := far1 hg9 hP1 hRP (kcell k1 hlt h.c3)
  have hsz9 : w.heap.size + 2 ≤ w9.heap.size := by
    have := hg9.size
    have e : (((w.alloc o).alloc o2).drewN m).heap.size = w.heap.size + 2 := by show ((w.alloc o).alloc o2).heap.size = _; simp
    omega
  refine ⟨some g9, .slice (some ⟨g9, 0, none⟩) (vs.length + 1) cap9, ?_, ?_, ?_⟩
  · refine ⟨by simp; omega, fun b => ?_, ?_, ?_, ?_, ?_, ?_, rfl, fun e => gP (by cases e; rfl), by simp; have := h.sz; omega⟩
    · have hf := far2 (off := b) hg9 hP1 hRP (by rw [k1.frozen (p := ⟨P, b, none⟩) hlt (by omega)]; exact h.free b)
      simp [hf]
    · rw [cell_ne _ _ _ _ _ _ (.inr (by omega)), cell_ne _ _ _ _ _ _ (.inr (by omega))]; exact q0
    · rw [cell_ne _ _ _ _ _ _ (.inr (by omega))]; exact cell_eq _ _ _ _ _ q1
    · rw [cell_ne _ _ _ _ _ _ (.inr (by omega)), cell_ne _ _ _ _ _ _ (.inr (by omega))]; exact q2
    · exact cell_eq _ _ _ _ _ (by rw [cell_ne _ _ _ _ _ _ (.inr (by omega))]; exact q3)
    · rw [List.length_append, List.length_singleton, flat_append, flat_one]
      have nP : (Value.slice (some ⟨g9, 0, none⟩) (vs.length + 1) cap9).ownBlock ≠ some P := fun e => gP (by simpa [Value.ownBlock] using e)
      exact own_setCell (own_setCell hown9 nP) nP
  · refine ⟨hg9.os, hg9.tape, hg9.output, by simp; omega, fun k hk hn => ?_⟩
    have hkP : k ≠ P := fun e => hn (.inl e)
    have hkR : some k ≠ vv.ownBlock := fun e => hn (.inr (by rw [← h.row]; exact e.symm))
    rw [Below.heap_setCell _ ⟨P, 3, none⟩ _ k hkP, Below.heap_setCell _ ⟨P, 1, none⟩ _ k hkP, hg9.block k (by show k < ((w.alloc o).alloc o2).heap.size; simp; omega) hkR]
    show ((w.alloc o).alloc o2).heap[k]? = _
    rw [Below.heap_alloc _ _ k (by omega), Below.heap_alloc _ _ k hk]
  · rcases hat with e | e
    · exact .inl (by rw [← e]; exact h.row)
    · exact .inr ⟨g9, rfl, by omega⟩
theorem one6 (v : Vl) : ∀ u ∈ v.cells, u.oneCell' = true := fun u hu => by
  simp only [Vl.cells, List.mem_cons, List.not_mem_nil, or_false] at hu
  rcases hu with rfl | rfl | rfl | rfl | rfl | rfl <;> rfl

end Go.Proofs.YtiiimofkkahobaaDoor

namespace Go.Proofs.YtiiimofkkahobaaDoor
open Go.RowKit Flt
attribute [local go_sem] alloc_drewN setCell_drewN run_store_float
/-! The tables that are laid ahead, and what reads them: strconv.Itoa, hexOf, valName. -/
theorem dec_eq (n : Nat) : Lib.decDigits n = dec10 n := by
  induction n using Nat.strongRecOn with
  | _ n ih =>
    rw [Lib.decDigits, dec10]
    by_cases h : n < 10
    · rw [dif_pos h, if_pos h]
    · rw [dif_neg h, if_neg h, ih _ (by omega)]
      congr 1
      rw [dec10, if_pos (by omega)]
theorem repeat_eq (b : UInt8) : ∀ c, Lib.repeatL [b] c = List.replicate c b
  | 0 => rfl
  | c + 1 => by rw [Lib.repeatL, repeat_eq b c]; rfl
theorem kept_grow (w : World) (k : Nat) (os : Array Obj) : Kept 0 0 w (Sort.grow (w.drewN k) os) :=
  ⟨rfl, rfl, rfl, by rw [Sort.size_grow]; exact Nat.le_add_right _ _, fun i hi _ => Sort.heap_grow_old (w.drewN k) os hi⟩
/-- The three tables that the text's words are read off. -/
structure Tabs (w : World) : Prop where
  size : 6 ≤ w.heap.size
  pow : Lib.TabIs Tryd.prog w "internal/strconv.uint64pow10" .u64 Lib.pow10Tab
  tz : w.cell? ⟨5, 15, none⟩ = some (.int .u8 4)
  ops : ∀ k : Nat, k < 14 → w.cell? ⟨0, k, none⟩ = some (strL (opW (k : Int)))
theorem pow_at : Tryd.prog.globalNamed "internal/strconv.uint64pow10" = some 2 := by kernel_rfl
theorem Tabs.keepC {S : Nat → Prop} {w w' : World} (h : Tabs w) (k : Chg S w w') (hS : ∀ g, g < 6 → ¬ S g) : Tabs w' := by
  have hs := h.size
  refine ⟨Nat.le_trans hs k.size, ?_, ?_, fun i hi => ?_⟩
  · have h1 := h.pow
    unfold Lib.TabIs World.var? at *
    rw [pow_at] at *
    simp only [Option.bind_some] at *
    rw [k.block 2 (by omega) (hS 2 (by decide))]
    exact h1
  · exact (k.cell (p := ⟨5, 15, none⟩) (by show 5 < w.heap.size; omega) (hS 5 (by decide))).trans h.tz
  · exact (k.cell (p := ⟨0, i, none⟩) (by show 0 < w.heap.size; omega) (hS 0 (by decide))).trans (h.ops i hi)
theorem Tabs.keep {w w' : World} (h : Tabs w) (k : Kept 0 0 w w') : Tabs w' := h.keepC (S := fun _ => False) k.chg (fun _ _ => id)
/-- strconv.Itoa of what is not negative. -/
theorem itoaS (n : Int) (h0 : 0 ≤ n) (h1 : n ≤ 9223372036854775807) (w : World) (T : Tabs w) : Calls Tryd.prog 26 #[.int .i64 n] w fun e w' => e = .returned (strL (decI n)) ∧ Kept 0 0 w w' := by
  refine (Tryd.strconv_Itoa n (by omega) h1 w T.pow).mono ?_
  rintro e w' ⟨rfl, k, os, rfl⟩
  refine ⟨?_, kept_grow w k os⟩
  unfold Lib.itoa strL decI
  rw [if_neg (by omega), dec_eq]
theorem dec10_len2 (n : Nat) : (dec10 n).length ≤ n + 1 := dec10_len n
set_option maxRecDepth 100000 in
set_option maxHeartbeats 4000000 in
theorem valNameS (n : Int) (h0 : 0 ≤ n) (h1 : n ≤ 1000000) (w : World) (T : Tabs w) : Calls Tryd.prog 28 #[.int .i64 n] w fun e w' => e = .returned (strL ([118] ++ decI n)) ∧ Kept 0 0 w w' := by
  have H1 : Hid _ := itoaS n h0 (by omega) w T
  have hz : ¬ (9223372036854775807 < (⟨#[118]⟩ : ByteArray).size + (⟨(decI n).toArray⟩ : ByteArray).size) := by
    rw [show (⟨#[118]⟩ : ByteArray).size = 1 from rfl, str_size]
    have := dec10_len n.toNat
    unfold decI
    omega
  have hr : strL ([118] ++ decI n) = .string ((⟨#[118]⟩ : ByteArray) ++ ⟨(decI n).toArray⟩) := by unfold strL; rw [← ba_app]
  rw [hr]
  unfold strL at H1
  generalize (⟨(decI n).toArray⟩ : ByteArray) = sd at H1 hz
  clear T hr
  go_enter Tryd.func28, Tryd.ntmps28
  go_wp2_with (go_at_call 26; refine Calls.mono H1.out ?_; rintro e w1 ⟨rfl, k1⟩)
  go_ret
  exact ⟨rfl, k1⟩
set_option maxRecDepth 100000 in
set_option maxHeartbeats 4000000 in
theorem hexOfS (u : Nat) (hu : u < 18446744073709551616) (w : World) (T : Tabs w) : Calls Tryd.prog 47 #[.int .u64 (u : Int)] w fun e w' => e = .returned (strL (hexN u 16)) ∧ Kept 0 0 w w' := by
  have H1 : Hid _ := fmtP u hu w T.tz T.size
  clear T hu
  go_enter Tryd.func47, Tryd.ntmps47
  go_wp2_with fail
  go_at_call 59
  refine Calls.mono H1.out ?_
  rintro e w1 ⟨K, k1, k2, rfl, k3⟩
  have hs : (⟨(hexN u (K + 1)).toArray⟩ : ByteArray).size = K + 1 := by rw [str_size, hexN_ln]
  have hr : strL (hexN u 16) = .string ((⟨(Lib.repeatL [48] (15 - K)).toArray⟩ : ByteArray) ++ ⟨(hexN u (K + 1)).toArray⟩) := by
    unfold strL
    rw [ba_app, repeat_eq, ← hexN_pad _ _ _ k2, show 15 - K + (K + 1) = 16 by omega]
  have hz : ¬ (9223372036854775807 < (⟨(Lib.repeatL [48] (15 - K)).toArray⟩ : ByteArray).size + (⟨(hexN u (K + 1)).toArray⟩ : ByteArray).size) := by
    rw [str_size, str_size, hexN_ln, repeat_eq, List.length_replicate]
    omega
  have H2 : Hid (∀ w, Calls Tryd.prog 60 #[.string ⟨#[48]⟩, .int .i64 ((15 - K : Nat) : Int)] w fun e w' => e = .returned (.string ⟨(Lib.repeatL [48] (15 - K)).toArray⟩) ∧ Below w.heap.size w w') := fun w => Tryd.strings_Repeat ⟨#[48]⟩ (15 - K) w (by omega) (by show 1 * (15 - K) ≤ _; omega)
  obtain ⟨c, hc⟩ : ∃ c : Nat, c = 15 - K := ⟨_, rfl⟩
  have HR : Hid _ := hr
  unfold strL
  rw [← hc] at H2 hz HR
  have tc : IntKind.i64.wrap (16 - ((K + 1 : Nat) : Int)) = (c : Int) := by rw [IntKind.wrap_i64]; omega
  generalize (⟨(hexN u (K + 1)).toArray⟩ : ByteArray) = sd at hs hz HR ⊢
  generalize (⟨(Lib.repeatL [48] c).toArray⟩ : ByteArray) = sz at H2 hz HR
  rw [← hs] at tc
  clear hr H1 hs hc
  go_wp2_with (go_at_call 60; refine Calls.mono (H2.out _) ?_; rintro e w2 ⟨rfl, k4⟩)
  go_ret
  exact ⟨congrArg Ending.returned HR.out.symm, k3.trans (Kept.of_below k4)⟩
end Go.Proofs.YtiiimofkkahobaaDoor
