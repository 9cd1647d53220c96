import Derived.Test.YtcphabjekfihnaaV01
import Derived.Deep.QuietTactic
import Derived.BigQuiet
import Derived.Deep.RegionWith
import Derived.Test.YtcphabjekfihnaaP06
namespace Go.Proofs.Ytcphabjekfihnaa
open Go.RowKit Flt
attribute [local go_sem] alloc_drewN setCell_drewN run_store_float

/-- A run of cells, as data. -/
structure Spn where
  off : Int
  len : Int
def Spn.cells (v : Spn) : List Value := [.int .i64 v.off, .int .i64 v.len]
def Spn.zero : Spn := ⟨0, 0⟩
abbrev Spn.agg (v : Spn) : Value := .agg #[.int .i64 v.off, .int .i64 v.len]
abbrev Spn.box (v : Spn) : Obj := .cells #[.int .i64 v.off, .int .i64 v.len] 143
structure AtP (w : World) (g o : Nat) (v : Spn) : Prop where
  c0 : w.cell? ⟨g, o, none⟩ = some (.int .i64 v.off)
  c1 : w.cell? ⟨g, o + 1, none⟩ = some (.int .i64 v.len)
theorem infoSpn : (Try.prog.info? 143).map (fun i => (i.zero, i.size, i.bytes)) = some (some (.agg #[.int .i64 0, .int .i64 0]), 2, 16) := by kernel_rfl
theorem make_Spn (n : Nat) (w : World) (hn : n ≤ 1099511627776) :
    (Instr.makeSlice 80 (.int .i64 (n : Int)) (.int .i64 (n : Int))).run Try.prog w = .ok (.slice (some ⟨w.heap.size, 0, none⟩) n n) (w.alloc (.cells (madeCells #[.int .i64 0, .int .i64 0] (n * 2)) 143)) := by
  obtain ⟨i, hi, hz0, hz1, hz2⟩ := info_parts infoSpn
  have := run_make (P := Try.prog) w 80 143 i (.agg #[.int .i64 0, .int .i64 0]) Try.underlying80 hi hz0 .i64 .i64 n n (by omega) (by omega) (by rw [hz2]; omega) (by omega)
  rw [hz1, Int.toNat_natCast] at this
  exact this
structure PA (w : World) (g n : Nat) (vs : List Spn) : Prop where
  len : vs.length = n
  lt : g < w.heap.size
  at_ : ∀ k, k < n → AtP w g (k * 2) (vs.getD k Spn.zero)
  free : ∀ o, w.frozen? ⟨g, o, none⟩ = false
theorem PA.made (w : World) (n : Nat) : PA (w.alloc (.cells (madeCells #[.int .i64 0, .int .i64 0] (n * 2)) 143)) w.heap.size n (List.replicate n Spn.zero) where
  len := by simp
  lt := by simp
  at_ := fun k hk => by
    have e : (List.replicate n Spn.zero).getD k Spn.zero = Spn.zero := by simp [List.getD_eq_getElem?_getD, hk]
    rw [e]
    have hc : ∀ j, j < 2 → (w.alloc (.cells (madeCells #[.int .i64 0, .int .i64 0] (n * 2)) 143)).cell? ⟨w.heap.size, k * 2 + j, none⟩ = some (Spn.zero.cells.getD j (.bool false)) := fun j hj => by
      rw [World.cell?_alloc_new]
      have hlt : k * 2 + j < n * 2 := by omega
      simp only [madeCells]
      rw [Array.getElem?_map, Array.getElem?_range, if_pos hlt]
      have hm : (k * 2 + j) % 2 = j := by omega
      simp [hm]
      rcases (by omega : j = 0 ∨ j = 1) with rfl | rfl <;> rfl
    exact ⟨hc 0 (by omega), hc 1 (by omega)⟩
  free := fun o => by simp
abbrev put2p (w : World) (g o : Nat) (v : Spn) : World :=
  ((w.setCell ⟨g, o, none⟩ (.int .i64 v.off)).setCell ⟨g, o + 1, none⟩ (.int .i64 v.len))
theorem put2p_out (w : World) (g o g' b : Nat) (v : Spn) (h : g ≠ g' ∨ b < o ∨ o + 2 ≤ b) : (put2p w g o v).cell? ⟨g', b, none⟩ = w.cell? ⟨g', b, none⟩ := by
  unfold put2p
  rw [cell_ne _ _ _ _ _ _ (by omega), cell_ne _ _ _ _ _ _ (by omega)]
theorem put2p_at (w : World) (g o : Nat) (u v : Spn) (h : AtP w g o u) : AtP (put2p w g o v) g o v := by
  unfold put2p
  refine ⟨?_, ?_⟩
  · rw [cell_ne _ _ _ _ _ _ (by omega)]
    exact cell_eq _ _ _ _ _ (h.c0)
  · exact cell_eq _ _ _ _ _ (by rw [cell_ne _ _ _ _ _ _ (by omega)]; exact h.c1)
theorem put2p_kept (w : World) (g o : Nat) (v : Spn) : Kept g (g + 1) w (put2p w g o v) := by
  unfold put2p
  have k : ∀ (w : World) (a : Nat) (u : Value), Kept g (g + 1) w (w.setCell ⟨g, a, none⟩ u) := fun w a u => kept_setCell w ⟨g, a, none⟩ u (.inl ⟨Nat.le_refl _, Nat.lt_succ_self _⟩)
  exact ((k _ _ _).trans (k _ _ _))
theorem AtP.keep {w w' : World} {g o l h : Nat} {v : Spn} (a : AtP w g o v) (hg : g < w.heap.size) (k : Kept l h w w') (hd : g < l ∨ h ≤ g ∨ h ≤ l) : AtP w' g o v := by
  have e : ∀ b, w'.cell? ⟨g, b, none⟩ = w.cell? ⟨g, b, none⟩ := fun b => k.cell (p := ⟨g, b, none⟩) hg (by show ¬ (l ≤ g ∧ g < h); omega)
  exact ⟨by rw [e]; exact a.c0, by rw [e]; exact a.c1⟩
theorem PA.keep {w w' : World} {g n l h : Nat} {vs : List Spn} (f : PA w g n vs) (k : Kept l h w w') (hd : g < l ∨ h ≤ g ∨ h ≤ l) : PA w' g n vs :=
  ⟨f.len, Nat.lt_of_lt_of_le f.lt k.size, fun i hi => (f.at_ i hi).keep f.lt k hd, fun o => by rw [k.frozen (p := ⟨g, o, none⟩) f.lt (by show ¬ (l ≤ g ∧ g < h); omega)]; exact f.free o⟩
theorem PA.step {w : World} {g n : Nat} {vs : List Spn} (f : PA w g n vs) (k : Nat) (hk : k < n) (v : Spn) : PA (put2p w g (k * 2) v) g n (vs.set k v) where
  len := by rw [List.length_set]; exact f.len
  lt := Nat.lt_of_lt_of_le f.lt (put2p_kept w g (k * 2) v).size
  at_ := fun i hi => by
    rw [List.getD_eq_getElem?_getD, List.getElem?_set]
    by_cases e : k = i
    · subst e
      rw [if_pos rfl, if_pos (by rw [f.len]; exact hk)]
      exact put2p_at w g (k * 2) _ v (f.at_ k hk)
    · rw [if_neg e, ← List.getD_eq_getElem?_getD]
      have a := f.at_ i hi
      have o : ∀ b, i * 2 ≤ b → b < i * 2 + 2 → (put2p w g (k * 2) v).cell? ⟨g, b, none⟩ = w.cell? ⟨g, b, none⟩ := fun b h1 h2 => put2p_out w g (k * 2) g b v (by right; omega)
      exact ⟨by rw [o _ (by omega) (by omega)]; exact a.c0, by rw [o _ (by omega) (by omega)]; exact a.c1⟩
  free := fun o => by simp [put2p, f.free o]
structure PS (w : World) (lo hi : Nat) (a : Option Addr) (n : Nat) (vs : List Spn) : Prop where
  len : vs.length = n
  at_ : n = 0 ∨ ∃ g off, a = some ⟨g, off, none⟩ ∧ lo ≤ g ∧ g < hi ∧ g < w.heap.size ∧ ∀ k, k < n → AtP w g (off + k * 2) (vs.getD k Spn.zero)
theorem PS.keep {w w' : World} {lo hi l h : Nat} {a : Option Addr} {n : Nat} {vs : List Spn} (f : PS w lo hi a n vs) (k : Kept l h w w') (hd : hi ≤ l ∨ h ≤ lo ∨ h ≤ l) : PS w' lo hi a n vs :=
  ⟨f.len, by
    rcases f.at_ with h0 | ⟨g, off, e, h1, h2, h3, h4⟩
    · exact .inl h0
    · exact .inr ⟨g, off, e, h1, h2, Nat.lt_of_lt_of_le h3 k.size, fun j hj => (h4 j hj).keep h3 k (by omega)⟩⟩
theorem PS.mono {w : World} {lo hi lo' hi' : Nat} {a : Option Addr} {n : Nat} {vs : List Spn} (f : PS w lo hi a n vs) (h1 : lo' ≤ lo) (h2 : hi ≤ hi') : PS w lo' hi' a n vs :=
  ⟨f.len, by
    rcases f.at_ with h0 | ⟨g, off, e, q1, q2, q3, q4⟩
    · exact .inl h0
    · exact .inr ⟨g, off, e, by omega, by omega, q3, q4⟩⟩
theorem PA.ss {w : World} {g n : Nat} {vs : List Spn} (f : PA w g n vs) : PS w 0 w.heap.size (some ⟨g, 0, none⟩) n vs :=
  ⟨f.len, .inr ⟨g, 0, rfl, Nat.zero_le _, f.lt, f.lt, fun k hk => by rw [Nat.zero_add]; exact f.at_ k hk⟩⟩
theorem set_takeSpn (xs ys : List Spn) (k : Nat) (hk : k < xs.length) (hl : ys.length = xs.length) :
    (xs.take k ++ ys.drop k).set k (xs.getD k Spn.zero) = xs.take (k + 1) ++ ys.drop (k + 1) := by
  apply List.ext_getElem?
  intro i
  simp only [List.getElem?_set, List.length_append, List.length_take, List.length_drop, List.getElem?_append, List.getElem?_take, List.getElem?_drop, List.getD_eq_getElem?_getD]
  rcases Nat.lt_trichotomy i k with h | h | h
  · rw [if_neg (by omega), if_pos (by omega), if_pos (by omega), if_pos (by omega), if_pos (by omega)]
  · subst h
    rw [if_pos rfl, if_pos (by omega), if_pos (by omega), if_pos (by omega), List.getElem?_eq_getElem hk]; rfl
  · rw [if_neg (by omega), if_neg (by omega), if_neg (by omega)]
    congr 1; omega
set_option maxRecDepth 100000 in
set_option maxHeartbeats 1000000 in
theorem toSpan (w : World) (v : Spn) :
    Calls Try.prog 166 #[v.agg] w fun e w' => e = .returned v.agg ∧ Kept 0 0 w w' := by
  go_enter Try.func166, Try.ntmps166
  go_wp2
  refine bodyPost_ret (v := v.agg) (by simp [results, Try.results166, go_sem]) rfl ⟨rfl, ?_⟩
  exact ((kept_alloc 0 0 w _).trans (kept_alloc 0 0 _ _)).trans (kept_alloc 0 0 _ _)
set_option maxRecDepth 100000 in
set_option maxHeartbeats 1000000 in
theorem toSpn_pos (w : World) (g0 off n cap : Nat) (vs : List Spn) (hx : vs.length = n) (hn : n ≤ 1048576) (hg : g0 < w.heap.size)
    (hc : ∀ k, k < n → AtP w g0 (off + k * 2) (vs.getD k Spn.zero)) :
    Calls Try.prog 134 #[.slice (some ⟨g0, off, none⟩) n cap] w fun e w' => e = .returned (.slice (some ⟨w.heap.size, 0, none⟩) n n) ∧ PA w' w.heap.size n vs ∧ Kept 0 0 w w' := by
  have hm := make_Spn n w (by omega)
  have hV := PA.made w n
  have hK := kept_alloc 0 0 w (.cells (madeCells #[.int .i64 0, .int .i64 0] (n * 2)) 143)
  have HC : Hid (∀ k, k < n → AtP w g0 (off + k * 2) (vs.getD k Spn.zero)) := hc
  have HX : Hid (vs.length = n) := hx
  clear hc hx
  generalize hw1 : w.alloc (.cells (madeCells #[.int .i64 0, .int .i64 0] (n * 2)) 143) = w1 at hm hK hV
  clear hw1
  go_enter Try.func134, Try.ntmps134
  go_wp2_with fail
  clear hm
  go_loopw [4] (fun i W => ∃ k : Nat, k ≤ n ∧ i = .int .i64 k ∧ PA W w.heap.size n (vs.take k ++ (List.replicate n Spn.zero).drop k) ∧ Kept 0 0 w W) (fun i _ => n - (intOf i).toNat)
  case atStart => exact ⟨0, Nat.zero_le _, rfl, by simpa using hV, hK⟩
  case round =>
    obtain ⟨k, hk, rfl, hVW, hKW⟩ := hrel
    by_cases hlt : k < n
    · have hat := HC.out k hlt
      have hst : Hid ((vs.take k ++ (List.replicate n Spn.zero).drop k).set k (vs.getD k Spn.zero) = vs.take (k + 1) ++ (List.replicate n Spn.zero).drop (k + 1)) := set_takeSpn vs (List.replicate n Spn.zero) k (by rw [HX.out]; exact hlt) (by simp [HX.out])
      generalize vs.getD k Spn.zero = v at hat hst
      have c0 := kcell hKW hg hat.c0
      have c1 := kcell hKW hg hat.c1
      clear hat hK hV
      go_wp2_with fail
      refine (toSpan _ v).mono ?_
      rintro e w2 ⟨rfl, hk2⟩
      have hV2 := hVW.keep hk2 (.inr (.inr (Nat.le_refl _)))
      have f := hV2.free
      have d := hV2.at_ k hlt
      obtain ⟨d0, d1⟩ := d
      have R1 : Hid _ := hV2.step k hlt v
      have R2 : Hid _ := (hKW.trans hk2).new (put2p_kept w2 w.heap.size (k * 2) v) (Nat.le_refl _)
      clear hV2 hVW hKW hk2 c0 c1
      go_wp2
      go_roundw
      case rel =>
        refine ⟨k + 1, by omega, by go_num, ?_, R2.out⟩
        have := R1.out
        rw [hst.out] at this
        exact this
      case measure => simp [intOf]; omega
    · obtain rfl : k = n := by omega
      clear hV hK
      go_wp2
      go_ret
      refine ⟨rfl, ?_, hKW⟩
      rw [List.take_of_length_le (by rw [HX.out]; omega), List.drop_of_length_le (by simp), List.append_nil] at hVW
      exact hVW
set_option maxRecDepth 100000 in
set_option maxHeartbeats 1000000 in
theorem toSpn_zero (w : World) (a : Option Addr) (cap : Nat) :
    Calls Try.prog 134 #[.slice a 0 cap] w fun e w' => e = .returned (.slice (some ⟨w.heap.size, 0, none⟩) 0 0) ∧ PA w' w.heap.size 0 [] ∧ Kept 0 0 w w' := by
  have hm := make_Spn 0 w (by omega)
  rw [show ((0 : Nat) : Int) = 0 from rfl] at hm
  have hV := PA.made w 0
  have hK := kept_alloc 0 0 w (.cells (madeCells #[.int .i64 0, .int .i64 0] (0 * 2)) 143)
  generalize hw1 : w.alloc (.cells (madeCells #[.int .i64 0, .int .i64 0] (0 * 2)) 143) = w1 at hm hV hK
  clear hw1
  go_enter Try.func134, Try.ntmps134
  go_wp2_with fail
  refine wp_loop_rounds 1 ?_
  rw [rounds_succ]
  go_wp2
  go_ret
  exact ⟨rfl, hV, hK⟩
theorem toPS (w : World) (lo hi : Nat) (a : Option Addr) (n cap : Nat) (vs : List Spn) (f : PS w lo hi a n vs) (hn : n ≤ 1048576) :
    Calls Try.prog 134 #[.slice a n cap] w fun e w' => e = .returned (.slice (some ⟨w.heap.size, 0, none⟩) n n) ∧ PA w' w.heap.size n vs ∧ Kept 0 0 w w' := by
  rcases f.at_ with rfl | ⟨g, off, rfl, h1, h2, h3, h4⟩
  · have : vs = [] := List.length_eq_zero_iff.1 f.len
    subst this
    exact toSpn_zero w a cap
  · exact toSpn_pos w g off n cap vs f.len hn h3 h4
set_option maxRecDepth 100000 in
set_option maxHeartbeats 1000000 in
theorem szPS (w : World) (a : Option Addr) (n cap : Nat) (left : Int) (h0 : 0 ≤ left) (h1 : left ≤ 1048576) (hn : n ≤ 9223372036854775807) :
    Calls Try.prog 128 #[.slice a n cap, .int .i64 left] w fun e w' => e = .returned (.int .i64 (leftOf left n)) ∧ w = w' := by
  unfold leftOf
  by_cases h : left - n < 0
  · rw [if_pos h]
    go_enter Try.func128, Try.ntmps128
    go_wp2
    go_ret
    exact ⟨rfl, rfl⟩
  · rw [if_neg h]
    go_enter Try.func128, Try.ntmps128
    go_wp2
    go_ret
    exact ⟨rfl, rfl⟩
set_option maxRecDepth 100000 in
set_option maxHeartbeats 1000000 in
theorem eqSpan (w : World) (v : Spn) :
    Calls Try.prog 173 #[v.agg, v.agg] w fun e w' => e = .returned (.bool true) ∧ Kept 0 0 w w' := by
  go_enter Try.func173, Try.ntmps173
  go_wp2
  go_ret
  exact ⟨rfl, (kept_alloc 0 0 w _).trans (kept_alloc 0 0 _ _)⟩
set_option maxRecDepth 100000 in
set_option maxHeartbeats 1000000 in
theorem eqPS_zero (w : World) (a b : Option Addr) (ca cb : Nat) :
    Calls Try.prog 141 #[.slice a 0 ca, .slice b 0 cb] w fun e w' => e = .returned (.bool true) ∧ w' = w := by
  go_enter Try.func141, Try.ntmps141
  go_wp2_with fail
  refine wp_loop_rounds 1 ?_
  rw [rounds_succ]
  go_wp2
  go_ret
  exact ⟨rfl, rfl⟩
set_option maxRecDepth 100000 in
set_option maxHeartbeats 2000000 in
theorem eqPS_pos (w : World) (g1 o1 g2 o2 n ca cb : Nat) (vs : List Spn) (hn : n ≤ 1099511627776) (b1 : g1 < w.heap.size) (b2 : g2 < w.heap.size) 
    (hx : ∀ k, k < n → AtP w g1 (o1 + k * 2) (vs.getD k Spn.zero)) (hy : ∀ k, k < n → AtP w g2 (o2 + k * 2) (vs.getD k Spn.zero)) :
    Calls Try.prog 141 #[.slice (some ⟨g1, o1, none⟩) n ca, .slice (some ⟨g2, o2, none⟩) n cb] w fun e w' => e = .returned (.bool true) ∧ Kept 0 0 w w' := by
  have HX : Hid (∀ k, k < n → AtP w g1 (o1 + k * 2) (vs.getD k Spn.zero)) := hx
  have HY : Hid (∀ k, k < n → AtP w g2 (o2 + k * 2) (vs.getD k Spn.zero)) := hy
  clear hx hy
  go_enter Try.func141, Try.ntmps141
  go_wp2_with fail
  go_loopw [5] (fun i W => ∃ k : Nat, k ≤ n ∧ i = .int .i64 k ∧ Kept 0 0 w W) (fun i _ => n - (intOf i).toNat)
  case atStart => exact ⟨0, Nat.zero_le _, rfl, Kept.refl _ _ _⟩
  case round =>
    obtain ⟨k, hk, rfl, HW⟩ := hrel
    by_cases hlt : k < n
    · obtain ⟨c0, c1⟩ := (HX.out k hlt).keep b1 HW (.inr (.inr (Nat.le_refl _)))
      obtain ⟨d0, d1⟩ := (HY.out k hlt).keep b2 HW (.inr (.inr (Nat.le_refl _)))
      generalize vs.getD k Spn.zero = v at c0 c1 d0 d1
      have HE : Hid (∀ m, Calls Try.prog 173 #[v.agg, v.agg] (wr.drewN m) fun e w' => e = .returned (.bool true) ∧ Kept 0 0 w w') := fun m => (eqSpan _ v).mono fun _ _ h => ⟨h.1, (HW.trans (kept_drewN 0 0 wr m)).trans h.2⟩
      go_wp2_with fail
      go_region_with (go_at_call 173; refine (HE.out 1).mono ?_; rintro e w2 ⟨rfl, hk2⟩)
      all_goals
        go_wp2
        go_roundw
        case rel => exact ⟨k + 1, by omega, by go_num, hk2⟩
        case measure => simp [intOf]; omega
    · go_wp2
      go_ret
      exact ⟨rfl, HW⟩
theorem eqPS (w : World) (lo hi lo' hi' : Nat) (a b : Option Addr) (n ca cb : Nat) (vs : List Spn) (f : PS w lo hi a n vs) (g : PS w lo' hi' b n vs) (hn : n ≤ 1099511627776) :
    Calls Try.prog 141 #[.slice a n ca, .slice b n cb] w fun e w' => e = .returned (.bool true) ∧ Kept 0 0 w w' := by
  rcases f.at_ with rfl | ⟨g1, o1, rfl, a1, a2, a3, a4⟩
  · exact (eqPS_zero w a b ca cb).mono fun _ _ h => ⟨h.1, by rw [h.2]; exact Kept.refl _ _ _⟩
  · rcases g.at_ with rfl | ⟨g2, o2, rfl, b1, b2, b3, b4⟩
    · exact (eqPS_zero w _ b ca cb).mono fun _ _ h => ⟨h.1, by rw [h.2]; exact Kept.refl _ _ _⟩
    · exact eqPS_pos w g1 o1 g2 o2 n ca cb vs hn a3 b3 a4 b4
end Go.Proofs.Ytcphabjekfihnaa

namespace Go.Proofs.Ytcphabjekfihnaa
open Go.RowKit Flt
attribute [local go_sem] alloc_drewN setCell_drewN run_store_float

abbrev cagg (a1 : Option Addr) (n1 c1 : Nat) (a2 : Option Addr) (n2 c2 : Nat) (a3 : Option Addr) (n3 c3 : Nat) (pk : Int) : Value := .agg #[.slice a1 n1 c1, .slice a2 n2 c2, .slice a3 n3 c3, .int .i64 pk]
abbrev cbox (a1 : Option Addr) (n1 c1 : Nat) (a2 : Option Addr) (n2 c2 : Nat) (a3 : Option Addr) (n3 c3 : Nat) (pk : Int) : Obj := .cells #[.slice a1 n1 c1, .slice a2 n2 c2, .slice a3 n3 c3, .int .i64 pk] 82
abbrev lcbox (a1 : Option Addr) (n1 c1 : Nat) (a2 : Option Addr) (n2 c2 : Nat) (a3 : Option Addr) (n3 c3 : Nat) (pk : Int) : Obj := .cells #[.slice a1 n1 c1, .slice a2 n2 c2, .slice a3 n3 c3, .int .i64 pk] 76
abbrev cbox0 : Obj := .cells #[.slice none 0 0, .slice none 0 0, .slice none 0 0, .int .i64 0] 82

set_option maxRecDepth 100000 in
set_option maxHeartbeats 1000000 in
theorem szCode (w : World) (a1 a2 a3 : Option Addr) (n1 c1 n2 c2 n3 c3 : Nat) (pk left : Int) (h0 : 0 ≤ left) (h1 : left ≤ 1048576) (hn1 : n1 ≤ 9223372036854775807) (hn2 : n2 ≤ 9223372036854775807) (hn3 : n3 ≤ 9223372036854775807) :
    Calls Try.prog 55 #[cagg a1 n1 c1 a2 n2 c2 a3 n3 c3 pk, .int .i64 left] w fun e w' => e = .returned (.int .i64 (if left - n1 - n2 - n3 < 0 then -1 else left - n1 - n2 - n3)) ∧ Kept 0 0 w w' := by
  have hs1 := szI
  have HS1 : Hid _ := hs1
  have HS2 : Hid _ := szTS
  have HS3 : Hid _ := szPS
  clear hs1
  by_cases g1 : left - n1 < 0
  · rw [if_pos (by omega)]
    go_enter Try.func55, Try.ntmps55
    go_wp2_with fail
    refine (HS1.out _ _ _ _ _ h0 h1 hn1).mono ?_
    rintro e w2 ⟨rfl, rfl⟩
    rw [show leftOf left n1 = -1 from if_pos (by omega)]
    go_wp2
    go_ret
    exact ⟨rfl, kept_alloc _ _ _ _⟩
  · by_cases g2 : left - n1 - n2 < 0
    · rw [if_pos (by omega)]
      go_enter Try.func55, Try.ntmps55
      go_wp2_with fail
      refine (HS1.out _ _ _ _ _ h0 h1 hn1).mono ?_
      rintro e w2 ⟨rfl, rfl⟩
      rw [show leftOf left n1 = left - n1 from if_neg (by omega)]
      go_wp2_with fail
      refine (HS2.out _ _ _ _ _ (by omega) (by omega) hn2).mono ?_
      rintro e w2 ⟨rfl, rfl⟩
      rw [show leftOf (left - n1) n2 = -1 from if_pos (by omega)]
      go_wp2
      go_ret
      exact ⟨rfl, kept_alloc _ _ _ _⟩
    · by_cases g3 : left - n1 - n2 - n3 < 0
      · rw [if_pos g3]
        go_enter Try.func55, Try.ntmps55
        go_wp2_with fail
        refine (HS1.out _ _ _ _ _ h0 h1 hn1).mono ?_
        rintro e w2 ⟨rfl, rfl⟩
        rw [show leftOf left n1 = left - n1 from if_neg (by omega)]
        go_wp2_with fail
        refine (HS2.out _ _ _ _ _ (by omega) (by omega) hn2).mono ?_
        rintro e w2 ⟨rfl, rfl⟩
        rw [show leftOf (left - n1) n2 = left - n1 - n2 from if_neg (by omega)]
        go_wp2_with fail
        refine (HS3.out _ _ _ _ _ (by omega) (by omega) hn3).mono ?_
        rintro e w2 ⟨rfl, rfl⟩
        rw [show leftOf (left - n1 - n2) n3 = -1 from if_pos (by omega)]
        go_wp2
        go_ret
        exact ⟨rfl, kept_alloc _ _ _ _⟩
      · rw [if_neg g3]
        go_enter Try.func55, Try.ntmps55
        go_wp2_with fail
        refine (HS1.out _ _ _ _ _ h0 h1 hn1).mono ?_
        rintro e w2 ⟨rfl, rfl⟩
        rw [show leftOf left n1 = left - n1 from if_neg (by omega)]
        go_wp2_with fail
        refine (HS2.out _ _ _ _ _ (by omega) (by omega) hn2).mono ?_
        rintro e w2 ⟨rfl, rfl⟩
        rw [show leftOf (left - n1) n2 = left - n1 - n2 from if_neg (by omega)]
        go_wp2_with fail
        refine (HS3.out _ _ _ _ _ (by omega) (by omega) hn3).mono ?_
        rintro e w2 ⟨rfl, rfl⟩
        rw [show leftOf (left - n1 - n2) n3 = left - n1 - n2 - n3 from if_neg (by omega)]
        go_wp2
        go_ret
        exact ⟨rfl, kept_alloc _ _ _ _⟩

/-- A code that came in or lies somewhere: its three lists. -/
structure CS (w : World) (a1 : Option Addr) (n1 : Nat) (a2 : Option Addr) (n2 : Nat) (a3 : Option Addr) (n3 : Nat) (ins : List Int) (ss : List Ste) (os : List Spn) : Prop where
  i : IS w 0 w.heap.size a1 n1 ins
  s : TS w 0 w.heap.size a2 n2 ss
  o : PS w 0 w.heap.size a3 n3 os
theorem CS.keep {w w' : World} {a1 a2 a3 : Option Addr} {n1 n2 n3 : Nat} {ins : List Int} {ss : List Ste} {os : List Spn} (f : CS w a1 n1 a2 n2 a3 n3 ins ss os) (k : Kept 0 0 w w') : CS w' a1 n1 a2 n2 a3 n3 ins ss os :=
  ⟨(f.i.keep k (.inr (.inr (Nat.le_refl _)))).mono (Nat.le_refl _) k.size, (f.s.keep k (.inr (.inr (Nat.le_refl _)))).mono (Nat.le_refl _) k.size, (f.o.keep k (.inr (.inr (Nat.le_refl _)))).mono (Nat.le_refl _) k.size⟩

/-- A code in new memory: three blocks of its own. -/
structure CO (w : World) (lo : Nat) (g1 g2 g3 : Nat) (n2 n3 : Nat) (ins : List Int) (ss : List Ste) (os : List Spn) : Prop where
  i : IR w g1 ins
  s : TA w g2 n2 ss
  o : PA w g3 n3 os
  l1 : lo ≤ g1
  l2 : g1 < g2
  l3 : g2 < g3
theorem CO.cs {w : World} {lo g1 g2 g3 n2 n3 : Nat} {ins : List Int} {ss : List Ste} {os : List Spn} (f : CO w lo g1 g2 g3 n2 n3 ins ss os) (hl : ∀ v ∈ ss, v.k < 18446744073709551616) :
    CS w (some ⟨g1, 0, none⟩) ins.length (some ⟨g2, 0, none⟩) n2 (some ⟨g3, 0, none⟩) n3 ins ss os := ⟨f.i.is, f.s.ss hl, f.o.ss⟩
theorem CO.keep {w w' : World} {lo g1 g2 g3 n2 n3 : Nat} {ins : List Int} {ss : List Ste} {os : List Spn} (f : CO w lo g1 g2 g3 n2 n3 ins ss os) (k : Kept 0 0 w w') : CO w' lo g1 g2 g3 n2 n3 ins ss os :=
  ⟨f.i.keep k (.inr (.inr (Nat.le_refl _))), f.s.keep k (.inr (.inr (Nat.le_refl _))), f.o.keep k (.inr (.inr (Nat.le_refl _))), f.l1, f.l2, f.l3⟩

/-- The three boxes of toCode while it goes. -/
structure TC (W : World) (p : Nat) (b0 b1 b2 b3 s0 s1 s2 s3 : Value) : Prop where
  sz : p + 2 < W.heap.size
  q0 : W.cell? ⟨p, 0, none⟩ = some b0
  q1 : W.cell? ⟨p, 1, none⟩ = some b1
  q2 : W.cell? ⟨p, 2, none⟩ = some b2
  q3 : W.cell? ⟨p, 3, none⟩ = some b3
  r0 : W.cell? ⟨p + 1, 0, none⟩ = some (.slice none 0 0)
  r1 : W.cell? ⟨p + 1, 1, none⟩ = some (.slice none 0 0)
  r2 : W.cell? ⟨p + 1, 2, none⟩ = some (.slice none 0 0)
  r3 : W.cell? ⟨p + 1, 3, none⟩ = some (.int .i64 0)
  o0 : W.cell? ⟨p + 1 + 1, 0, none⟩ = some s0
  o1 : W.cell? ⟨p + 1 + 1, 1, none⟩ = some s1
  o2 : W.cell? ⟨p + 1 + 1, 2, none⟩ = some s2
  o3 : W.cell? ⟨p + 1 + 1, 3, none⟩ = some s3
  f1 : ∀ o, W.frozen? ⟨p + 1, o, none⟩ = false
  f2 : ∀ o, W.frozen? ⟨p + 1 + 1, o, none⟩ = false
theorem TC.keep {W W' : World} {p : Nat} {b0 b1 b2 b3 s0 s1 s2 s3 : Value} (t : TC W p b0 b1 b2 b3 s0 s1 s2 s3) (k : Kept 0 0 W W') : TC W' p b0 b1 b2 b3 s0 s1 s2 s3 := by
  have e : ∀ g o, g ≤ p + 2 → W'.cell? ⟨g, o, none⟩ = W.cell? ⟨g, o, none⟩ := fun g o h => k.cell (p := ⟨g, o, none⟩) (Nat.lt_of_le_of_lt h t.sz) (by omega)
  have f : ∀ g o, g ≤ p + 2 → W'.frozen? ⟨g, o, none⟩ = W.frozen? ⟨g, o, none⟩ := fun g o h => k.frozen (p := ⟨g, o, none⟩) (Nat.lt_of_le_of_lt h t.sz) (by omega)
  exact ⟨Nat.lt_of_lt_of_le t.sz k.size, by rw [e _ _ (by omega)]; exact t.q0, by rw [e _ _ (by omega)]; exact t.q1, by rw [e _ _ (by omega)]; exact t.q2, by rw [e _ _ (by omega)]; exact t.q3, by rw [e _ _ (by omega)]; exact t.r0, by rw [e _ _ (by omega)]; exact t.r1, by rw [e _ _ (by omega)]; exact t.r2, by rw [e _ _ (by omega)]; exact t.r3, by rw [e _ _ (by omega)]; exact t.o0, by rw [e _ _ (by omega)]; exact t.o1, by rw [e _ _ (by omega)]; exact t.o2, by rw [e _ _ (by omega)]; exact t.o3, fun o => by rw [f _ _ (by omega)]; exact t.f1 o, fun o => by rw [f _ _ (by omega)]; exact t.f2 o⟩
theorem TC.put0 {W : World} {p : Nat} {b0 b1 b2 b3 s0 s1 s2 s3 : Value} (t : TC W p b0 b1 b2 b3 s0 s1 s2 s3) (v : Value) : TC (W.setCell ⟨p + 1 + 1, 0, none⟩ v) p b0 b1 b2 b3 v s1 s2 s3 :=
  ⟨by simpa using t.sz, by rw [cell_ne _ _ _ _ _ _ (by omega)]; exact t.q0, by rw [cell_ne _ _ _ _ _ _ (by omega)]; exact t.q1, by rw [cell_ne _ _ _ _ _ _ (by omega)]; exact t.q2, by rw [cell_ne _ _ _ _ _ _ (by omega)]; exact t.q3, by rw [cell_ne _ _ _ _ _ _ (by omega)]; exact t.r0, by rw [cell_ne _ _ _ _ _ _ (by omega)]; exact t.r1, by rw [cell_ne _ _ _ _ _ _ (by omega)]; exact t.r2, by rw [cell_ne _ _ _ _ _ _ (by omega)]; exact t.r3, cell_eq _ _ _ _ _ t.o0, by rw [cell_ne _ _ _ _ _ _ (by omega)]; exact t.o1, by rw [cell_ne _ _ _ _ _ _ (by omega)]; exact t.o2, by rw [cell_ne _ _ _ _ _ _ (by omega)]; exact t.o3, fun o => by simp [t.f1 o], fun o => by simp [t.f2 o]⟩
theorem TC.put1 {W : World} {p : Nat} {b0 b1 b2 b3 s0 s1 s2 s3 : Value} (t : TC W p b0 b1 b2 b3 s0 s1 s2 s3) (v : Value) : TC (W.setCell ⟨p + 1 + 1, 1, none⟩ v) p b0 b1 b2 b3 s0 v s2 s3 :=
  ⟨by simpa using t.sz, by rw [cell_ne _ _ _ _ _ _ (by omega)]; exact t.q0, by rw [cell_ne _ _ _ _ _ _ (by omega)]; exact t.q1, by rw [cell_ne _ _ _ _ _ _ (by omega)]; exact t.q2, by rw [cell_ne _ _ _ _ _ _ (by omega)]; exact t.q3, by rw [cell_ne _ _ _ _ _ _ (by omega)]; exact t.r0, by rw [cell_ne _ _ _ _ _ _ (by omega)]; exact t.r1, by rw [cell_ne _ _ _ _ _ _ (by omega)]; exact t.r2, by rw [cell_ne _ _ _ _ _ _ (by omega)]; exact t.r3, by rw [cell_ne _ _ _ _ _ _ (by omega)]; exact t.o0, cell_eq _ _ _ _ _ t.o1, by rw [cell_ne _ _ _ _ _ _ (by omega)]; exact t.o2, by rw [cell_ne _ _ _ _ _ _ (by omega)]; exact t.o3, fun o => by simp [t.f1 o], fun o => by simp [t.f2 o]⟩
theorem TC.put2 {W : World} {p : Nat} {b0 b1 b2 b3 s0 s1 s2 s3 : Value} (t : TC W p b0 b1 b2 b3 s0 s1 s2 s3) (v : Value) : TC (W.setCell ⟨p + 1 + 1, 2, none⟩ v) p b0 b1 b2 b3 s0 s1 v s3 :=
  ⟨by simpa using t.sz, by rw [cell_ne _ _ _ _ _ _ (by omega)]; exact t.q0, by rw [cell_ne _ _ _ _ _ _ (by omega)]; exact t.q1, by rw [cell_ne _ _ _ _ _ _ (by omega)]; exact t.q2, by rw [cell_ne _ _ _ _ _ _ (by omega)]; exact t.q3, by rw [cell_ne _ _ _ _ _ _ (by omega)]; exact t.r0, by rw [cell_ne _ _ _ _ _ _ (by omega)]; exact t.r1, by rw [cell_ne _ _ _ _ _ _ (by omega)]; exact t.r2, by rw [cell_ne _ _ _ _ _ _ (by omega)]; exact t.r3, by rw [cell_ne _ _ _ _ _ _ (by omega)]; exact t.o0, by rw [cell_ne _ _ _ _ _ _ (by omega)]; exact t.o1, cell_eq _ _ _ _ _ t.o2, by rw [cell_ne _ _ _ _ _ _ (by omega)]; exact t.o3, fun o => by simp [t.f1 o], fun o => by simp [t.f2 o]⟩
theorem TC.put3 {W : World} {p : Nat} {b0 b1 b2 b3 s0 s1 s2 s3 : Value} (t : TC W p b0 b1 b2 b3 s0 s1 s2 s3) (v : Value) : TC (W.setCell ⟨p + 1 + 1, 3, none⟩ v) p b0 b1 b2 b3 s0 s1 s2 v :=
  ⟨by simpa using t.sz, by rw [cell_ne _ _ _ _ _ _ (by omega)]; exact t.q0, by rw [cell_ne _ _ _ _ _ _ (by omega)]; exact t.q1, by rw [cell_ne _ _ _ _ _ _ (by omega)]; exact t.q2, by rw [cell_ne _ _ _ _ _ _ (by omega)]; exact t.q3, by rw [cell_ne _ _ _ _ _ _ (by omega)]; exact t.r0, by rw [cell_ne _ _ _ _ _ _ (by omega)]; exact t.r1, by rw [cell_ne _ _ _ _ _ _ (by omega)]; exact t.r2, by rw [cell_ne _ _ _ _ _ _ (by omega)]; exact t.r3, by rw [cell_ne _ _ _ _ _ _ (by omega)]; exact t.o0, by rw [cell_ne _ _ _ _ _ _ (by omega)]; exact t.o1, by rw [cell_ne _ _ _ _ _ _ (by omega)]; exact t.o2, cell_eq _ _ _ _ _ t.o3, fun o => by simp [t.f1 o], fun o => by simp [t.f2 o]⟩
theorem tc_start (w : World) (b0 b1 b2 b3 : Value) : TC (((w.alloc (.cells #[b0, b1, b2, b3] 76)).alloc cbox0).alloc cbox0) w.heap.size b0 b1 b2 b3 (.slice none 0 0) (.slice none 0 0) (.slice none 0 0) (.int .i64 0) := by
  have h1 : (w.alloc (.cells #[b0, b1, b2, b3] 76)).heap.size = w.heap.size + 1 := by simp
  have h2 : ((w.alloc (.cells #[b0, b1, b2, b3] 76)).alloc cbox0).heap.size = w.heap.size + 1 + 1 := by simp
  constructor
  all_goals first | (go_simp; done) | (simp; done) | (intro o; simp; done)
abbrev setC4 (w : World) (g : Nat) (x y z u : Value) : World := (((w.setCell ⟨g, 0, none⟩ x).setCell ⟨g, 1, none⟩ y).setCell ⟨g, 2, none⟩ z).setCell ⟨g, 3, none⟩ u
theorem put4_kept (w : World) (g : Nat) (x y z u : Value) : Kept g (g + 1) w (setC4 w g x y z u) := by
  have k : ∀ (w : World) (a : Nat) (u : Value), Kept g (g + 1) w (w.setCell ⟨g, a, none⟩ u) := fun w a u => kept_setCell w ⟨g, a, none⟩ u (.inl ⟨Nat.le_refl _, Nat.lt_succ_self _⟩)
  exact ((k _ _ _).trans (k _ _ _)).trans (k _ _ _) |>.trans (k _ _ _)

set_option maxRecDepth 100000 in
set_option maxHeartbeats 2000000 in
theorem toCode (w : World) (a1 a2 a3 : Option Addr) (n1 c1 n2 c2 n3 c3 : Nat) (pk : Int) (ins : List Int) (ss : List Ste) (os : List Spn) (f : CS w a1 n1 a2 n2 a3 n3 ins ss os) (h1 : n1 ≤ 1048576) (h2 : n2 ≤ 1048576) (h3 : n3 ≤ 1048576) :
    Calls Try.prog 57 #[cagg a1 n1 c1 a2 n2 c2 a3 n3 c3 pk] w fun e w' => ∃ g1 g2 g3, e = .returned (cagg (some ⟨g1, 0, none⟩) n1 n1 (some ⟨g2, 0, none⟩) n2 n2 (some ⟨g3, 0, none⟩) n3 n3 pk) ∧ CO w' w.heap.size g1 g2 g3 n2 n3 ins ss os ∧ Kept 0 0 w w' := by
  have hT := tc_start w (.slice a1 n1 c1) (.slice a2 n2 c2) (.slice a3 n3 c3) (.int .i64 pk)
  have hK := ((kept_alloc 0 0 w (lcbox a1 n1 c1 a2 n2 c2 a3 n3 c3 pk)).trans (kept_alloc 0 0 _ cbox0)).trans (kept_alloc 0 0 _ cbox0)
  have fi := f.i.keep hK (.inr (.inr (Nat.le_refl _)))
  have fv := f.s.keep hK (.inr (.inr (Nat.le_refl _)))
  have fo := f.o.keep hK (.inr (.inr (Nat.le_refl _)))
  clear f
  go_enter Try.func57, Try.ntmps57
  go_wp2_with fail
  generalize hw3 : ((w.alloc (lcbox a1 n1 c1 a2 n2 c2 a3 n3 c3 pk)).alloc cbox0).alloc cbox0 = w3 at hT hK fi fv fo ⊢
  clear hw3
  have Z3 : Hid (w.heap.size + 2 < w3.heap.size) := hT.sz
  refine (toI _ _ _ _ _ _ _ fi h1).mono ?_
  rintro e w4 ⟨rfl, r1, k4⟩
  clear fi
  replace hT := hT.keep k4
  replace fv := fv.keep k4 (.inr (.inr (Nat.le_refl _)))
  replace fo := fo.keep k4 (.inr (.inr (Nat.le_refl _)))
  replace hK := hK.trans k4
  have Z4 : Hid (w3.heap.size < w4.heap.size) := r1.lt
  clear k4
  have pk1 := kept_setCell (lo := w.heap.size + 1 + 1) (hi := w.heap.size + 1 + 1 + 1) w4 ⟨w.heap.size + 1 + 1, 0, none⟩ (.slice (some ⟨w3.heap.size, 0, none⟩) n1 n1) (.inl ⟨Nat.le_refl _, Nat.lt_succ_self _⟩)
  replace r1 := r1.keep pk1 (by have := Z3.out; omega)
  replace fv := fv.keep pk1 (.inl (by omega))
  replace fo := fo.keep pk1 (.inl (by omega))
  replace hK := hK.new pk1 (by omega)
  have o0 := hT.o0
  have q1 := hT.q1
  have f2 := hT.f2
  replace hT := hT.put0 (.slice (some ⟨w3.heap.size, 0, none⟩) n1 n1)
  have S4 : Hid ((w4.setCell ⟨w.heap.size + 1 + 1, 0, none⟩ (.slice (some ⟨w3.heap.size, 0, none⟩) n1 n1)).heap.size = w4.heap.size) := World.size_setCell ..
  clear pk1
  go_wp2_with fail
  clear o0 q1 f2
  generalize hw5 : w4.setCell ⟨w.heap.size + 1 + 1, 0, none⟩ (.slice (some ⟨w3.heap.size, 0, none⟩) n1 n1) = w5 at hT hK r1 fv fo S4 ⊢
  clear hw5
  refine (toTS _ _ _ _ _ _ _ fv h2).mono ?_
  rintro e w6 ⟨rfl, r2, k6⟩
  clear fv
  replace hT := hT.keep k6
  replace fo := fo.keep k6 (.inr (.inr (Nat.le_refl _)))
  replace r1 := r1.keep k6 (.inr (.inr (Nat.le_refl _)))
  replace hK := hK.trans k6
  have Z6 : Hid (w5.heap.size < w6.heap.size) := r2.lt
  clear k6
  have pk1 := kept_setCell (lo := w.heap.size + 1 + 1) (hi := w.heap.size + 1 + 1 + 1) w6 ⟨w.heap.size + 1 + 1, 1, none⟩ (.slice (some ⟨w5.heap.size, 0, none⟩) n2 n2) (.inl ⟨Nat.le_refl _, Nat.lt_succ_self _⟩)
  replace r1 := r1.keep pk1 (by have := Z3.out; omega)
  replace r2 := r2.keep pk1 (by have := Z3.out; have := Z4.out; have := S4.out; omega)
  replace fo := fo.keep pk1 (.inl (by omega))
  replace hK := hK.new pk1 (by omega)
  have o1 := hT.o1
  have q2 := hT.q2
  have f2 := hT.f2
  replace hT := hT.put1 (.slice (some ⟨w5.heap.size, 0, none⟩) n2 n2)
  have S6 : Hid ((w6.setCell ⟨w.heap.size + 1 + 1, 1, none⟩ (.slice (some ⟨w5.heap.size, 0, none⟩) n2 n2)).heap.size = w6.heap.size) := World.size_setCell ..
  clear pk1
  go_wp2_with fail
  clear o1 q2 f2
  generalize hw7 : w6.setCell ⟨w.heap.size + 1 + 1, 1, none⟩ (.slice (some ⟨w5.heap.size, 0, none⟩) n2 n2) = w7 at hT hK r1 r2 fo S6 ⊢
  clear hw7
  refine (toPS _ _ _ _ _ _ _ fo h3).mono ?_
  rintro e w8 ⟨rfl, r3, k8⟩
  clear fo
  replace hT := hT.keep k8
  replace r1 := r1.keep k8 (.inr (.inr (Nat.le_refl _)))
  replace r2 := r2.keep k8 (.inr (.inr (Nat.le_refl _)))
  replace hK := hK.trans k8
  clear k8
  have pk1 := (kept_setCell (lo := w.heap.size + 1 + 1) (hi := w.heap.size + 1 + 1 + 1) w8 ⟨w.heap.size + 1 + 1, 2, none⟩ (.slice (some ⟨w7.heap.size, 0, none⟩) n3 n3) (.inl ⟨Nat.le_refl _, Nat.lt_succ_self _⟩)).trans (kept_setCell (lo := w.heap.size + 1 + 1) (hi := w.heap.size + 1 + 1 + 1) _ ⟨w.heap.size + 1 + 1, 3, none⟩ (.int .i64 pk) (.inl ⟨Nat.le_refl _, Nat.lt_succ_self _⟩))
  have o2 := hT.o2
  have o3 := hT.o3
  have o0 := hT.o0
  have o1 := hT.o1
  have q3 := hT.q3
  have f2 := hT.f2
  have f1 := hT.f1
  have d0 := hT.r0
  have d1 := hT.r1
  have d2 := hT.r2
  have d3 := hT.r3
  have ps := put4_kept ((w8.setCell ⟨w.heap.size + 1 + 1, 2, none⟩ (.slice (some ⟨w7.heap.size, 0, none⟩) n3 n3)).setCell ⟨w.heap.size + 1 + 1, 3, none⟩ (.int .i64 pk)) (w.heap.size + 1) (.slice (some ⟨w3.heap.size, 0, none⟩) n1 n1) (.slice (some ⟨w5.heap.size, 0, none⟩) n2 n2) (.slice (some ⟨w7.heap.size, 0, none⟩) n3 n3) (.int .i64 pk)
  have GZ : Hid (w.heap.size + 2 < w3.heap.size ∧ w3.heap.size < w5.heap.size ∧ w5.heap.size < w7.heap.size) := ⟨Z3.out, by rw [S4.out]; exact Z4.out, by rw [S6.out]; exact Z6.out⟩
  replace r1 := (r1.keep pk1 (by have := GZ.out; omega)).keep ps (by have := GZ.out; omega)
  replace r2 := (r2.keep pk1 (by have := GZ.out; omega)).keep ps (by have := GZ.out; omega)
  replace r3 := (r3.keep pk1 (by have := GZ.out; omega)).keep ps (by have := GZ.out; omega)
  replace hK := (hK.new pk1 (by omega)).new ps (by omega)
  clear pk1 ps hT Z3 Z4 Z6 S4 S6
  go_wp2
  refine bodyPost_ret (v := cagg (some ⟨w3.heap.size, 0, none⟩) n1 n1 (some ⟨w5.heap.size, 0, none⟩) n2 n2 (some ⟨w7.heap.size, 0, none⟩) n3 n3 pk) (by simp [results, Try.results57, go_sem, d0, d1, d2, d3]) rfl ⟨_, _, _, rfl, ⟨r1, r2, r3, ?_, ?_, ?_⟩, hK⟩
  · have := GZ.out; omega
  · exact GZ.out.2.1
  · exact GZ.out.2.2

/-- The two boxes of eqCode. -/
structure EC (W : World) (p : Nat) (b0 b1 b2 b3 s0 s1 s2 s3 : Value) : Prop where
  sz : p + 1 < W.heap.size
  q0 : W.cell? ⟨p, 0, none⟩ = some b0
  q1 : W.cell? ⟨p, 1, none⟩ = some b1
  q2 : W.cell? ⟨p, 2, none⟩ = some b2
  q3 : W.cell? ⟨p, 3, none⟩ = some b3
  r0 : W.cell? ⟨p + 1, 0, none⟩ = some s0
  r1 : W.cell? ⟨p + 1, 1, none⟩ = some s1
  r2 : W.cell? ⟨p + 1, 2, none⟩ = some s2
  r3 : W.cell? ⟨p + 1, 3, none⟩ = some s3
theorem EC.keep {W W' : World} {p : Nat} {b0 b1 b2 b3 s0 s1 s2 s3 : Value} (t : EC W p b0 b1 b2 b3 s0 s1 s2 s3) (k : Kept 0 0 W W') : EC W' p b0 b1 b2 b3 s0 s1 s2 s3 := by
  have e : ∀ g o, g ≤ p + 1 → W'.cell? ⟨g, o, none⟩ = W.cell? ⟨g, o, none⟩ := fun g o h => k.cell (p := ⟨g, o, none⟩) (Nat.lt_of_le_of_lt h t.sz) (by omega)
  exact ⟨Nat.lt_of_lt_of_le t.sz k.size, by rw [e _ _ (by omega)]; exact t.q0, by rw [e _ _ (by omega)]; exact t.q1, by rw [e _ _ (by omega)]; exact t.q2, by rw [e _ _ (by omega)]; exact t.q3, by rw [e _ _ (by omega)]; exact t.r0, by rw [e _ _ (by omega)]; exact t.r1, by rw [e _ _ (by omega)]; exact t.r2, by rw [e _ _ (by omega)]; exact t.r3⟩
theorem ec_start (w : World) (b0 b1 b2 b3 s0 s1 s2 s3 : Value) : EC ((w.alloc (.cells #[b0, b1, b2, b3] 82)).alloc (.cells #[s0, s1, s2, s3] 82)) w.heap.size b0 b1 b2 b3 s0 s1 s2 s3 := by
  have h1 : (w.alloc (.cells #[b0, b1, b2, b3] 82)).heap.size = w.heap.size + 1 := by simp
  constructor
  all_goals first | (go_simp; done) | (simp; done)

set_option maxRecDepth 100000 in
set_option maxHeartbeats 2000000 in
theorem eqCode (w : World) (a1 a2 a3 a1' a2' a3' : Option Addr) (n1 c1 n2 c2 n3 c3 c1' c2' c3' : Nat) (pk : Int) (ins : List Int) (ss : List Ste) (os : List Spn) (f : CS w a1 n1 a2 n2 a3 n3 ins ss os) (g : CS w a1' n1 a2' n2 a3' n3 ins ss os) (h1 : n1 ≤ 1048576) (h2 : n2 ≤ 1048576) (h3 : n3 ≤ 1048576) :
    Calls Try.prog 59 #[cagg a1 n1 c1 a2 n2 c2 a3 n3 c3 pk, cagg a1' n1 c1' a2' n2 c2' a3' n3 c3' pk] w fun e w' => e = .returned (.bool true) ∧ Kept 0 0 w w' := by
  have hK := (kept_alloc 0 0 w (cbox a1 n1 c1 a2 n2 c2 a3 n3 c3 pk)).trans (kept_alloc 0 0 _ (cbox a1' n1 c1' a2' n2 c2' a3' n3 c3' pk))
  have hB := ec_start w (.slice a1 n1 c1) (.slice a2 n2 c2) (.slice a3 n3 c3) (.int .i64 pk) (.slice a1' n1 c1') (.slice a2' n2 c2') (.slice a3' n3 c3') (.int .i64 pk)
  have f' := f.keep hK
  have g' := g.keep hK
  clear f g
  go_enter Try.func59, Try.ntmps59
  go_wp2_with fail
  generalize hw3 : (w.alloc (cbox a1 n1 c1 a2 n2 c2 a3 n3 c3 pk)).alloc (cbox a1' n1 c1' a2' n2 c2' a3' n3 c3' pk) = w3 at hB hK f' g' ⊢
  clear hw3
  refine (eqI _ _ _ _ _ _ _ _ _ _ _ f'.i g'.i (by omega)).mono ?_
  rintro e w4 ⟨rfl, k4'⟩
  have k4 := k4'.kept 0 0
  clear k4'
  replace hB := hB.keep k4
  replace f' := f'.keep k4
  replace g' := g'.keep k4
  replace hK := hK.trans k4
  clear k4
  have q1 := hB.q1
  have q2 := hB.r1
  go_wp2_with fail
  clear q1 q2
  refine (eqTS _ _ _ _ _ _ _ _ _ _ _ f'.s g'.s (by omega)).mono ?_
  rintro e w5 ⟨rfl, k5⟩
  replace hB := hB.keep k5
  replace f' := f'.keep k5
  replace g' := g'.keep k5
  replace hK := hK.trans k5
  clear k5
  have q1 := hB.q2
  have q2 := hB.r2
  go_wp2_with fail
  clear q1 q2
  refine (eqPS _ _ _ _ _ _ _ _ _ _ _ f'.o g'.o (by omega)).mono ?_
  rintro e w6 ⟨rfl, k6⟩
  replace hB := hB.keep k6
  replace hK := hK.trans k6
  have q1 := hB.q3
  have q2 := hB.r3
  clear k6 hB f' g'
  go_wp2_with fail
  all_goals first
    | (go_ret; exact ⟨rfl, hK⟩)
    | (go_quiet (fail); go_wp2; go_ret; exact ⟨rfl, hK.trans (kept_drewN 0 0 _ _)⟩)
    | (go_region_with (fail)
       all_goals
         go_wp2
         go_ret
         exact ⟨rfl, hK.trans (kept_drewN 0 0 _ _)⟩)
/-- The box of a code. -/
structure C0 (W : World) (p : Nat) (b0 b1 b2 b3 : Value) : Prop where
  sz : p < W.heap.size
  q0 : W.cell? ⟨p, 0, none⟩ = some b0
  q1 : W.cell? ⟨p, 1, none⟩ = some b1
  q2 : W.cell? ⟨p, 2, none⟩ = some b2
  q3 : W.cell? ⟨p, 3, none⟩ = some b3
theorem C0.keepR {W W' : World} {p l h : Nat} {b0 b1 b2 b3 : Value} (t : C0 W p b0 b1 b2 b3) (k : Kept l h W W') (hd : p < l ∨ h ≤ p ∨ h ≤ l) : C0 W' p b0 b1 b2 b3 := by
  have e : ∀ o, W'.cell? ⟨p, o, none⟩ = W.cell? ⟨p, o, none⟩ := fun o => k.cell (p := ⟨p, o, none⟩) t.sz (by show ¬ (l ≤ p ∧ p < h); omega)
  exact ⟨Nat.lt_of_lt_of_le t.sz k.size, by rw [e]; exact t.q0, by rw [e]; exact t.q1, by rw [e]; exact t.q2, by rw [e]; exact t.q3⟩
theorem C0.keep {W W' : World} {p : Nat} {b0 b1 b2 b3 : Value} (t : C0 W p b0 b1 b2 b3) (k : Kept 0 0 W W') : C0 W' p b0 b1 b2 b3 := t.keepR k (.inr (.inr (Nat.le_refl _)))
theorem c0_start (w : World) (b0 b1 b2 b3 : Value) : C0 (w.alloc (.cells #[b0, b1, b2, b3] 82)) w.heap.size b0 b1 b2 b3 := by
  refine ⟨?_, ?_, ?_, ?_, ?_⟩
  all_goals first | (go_simp; done) | (simp; done)
theorem c0_startL (w : World) (b0 b1 b2 b3 : Value) : C0 (w.alloc (.cells #[b0, b1, b2, b3] 76)) w.heap.size b0 b1 b2 b3 := by
  refine ⟨?_, ?_, ?_, ?_, ?_⟩
  all_goals first | (go_simp; done) | (simp; done)
end Go.Proofs.Ytcphabjekfihnaa
