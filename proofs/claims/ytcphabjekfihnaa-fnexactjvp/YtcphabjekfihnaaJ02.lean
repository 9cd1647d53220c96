import Derived.Test.YtcphabjekfihnaaJ01
import Derived.Deep.RegionHeld3
import Derived.Deep.RegionLaw
import Derived.Deep.RegionWith
import Derived.Deep.DeepCutAuto
namespace Go.Proofs.Ytcphabjekfihnaa
open Go.RowKit Flt
attribute [local go_sem] alloc_drewN setCell_drewN run_store_float

theorem own_keepJ {base e size n : Nat} {v : Value} {xs : List Value} {W W' : World} (h : W.ownsRow base e size v n xs) (k : Kept 0 0 W W') : W'.ownsRow base e size v n xs := by
  refine ⟨h.1, h.2.imp id ?_⟩
  rintro ⟨g, cap, cur, e1, b1, b2, b3⟩
  refine ⟨g, cap, cur, e1, b1, ?_, b3⟩
  have hg : g < W.heap.size := by
    rcases Nat.lt_or_ge g W.heap.size with c | c
    · exact c
    · rw [Array.getElem?_eq_none c] at b2; cases b2
  rw [k.block g hg (by omega)]
  exact b2
theorem hM_is {w : World} {g n : Nat} {xs : List Int} (h : IR w g xs) (hl : xs.length = n) : IS w 0 w.heap.size (some ⟨g, 0, none⟩) n xs := by
  subst hl; exact h.is

theorem newsI {w : World} {g n : Nat} {xs : List Int} (hx : xs.length = n) (hc : ∀ k, k < n → w.cell? ⟨g, k, none⟩ = some (.int .i64 (xs.getD k 0))) :
    ∀ j u, (xs.map (Value.int .i64))[j]? = some u → w.cell? ((⟨g, 0, none⟩ : Addr).add j) = some u := fun j u hu => by
  have hj : j < n := by
    rcases Nat.lt_or_ge j n with c | c
    · exact c
    · rw [List.getElem?_eq_none (by simp; omega)] at hu; cases hu
  have h1 := hc j hj
  have e : (⟨g, 0, none⟩ : Addr).add j = ⟨g, j, none⟩ := by
    unfold Addr.add
    split
    · rename_i h0; rw [h0]
    · simp
  rw [e, h1]
  rw [List.getElem?_map, List.getElem?_eq_getElem (by omega : j < xs.length)] at hu
  simp only [Option.map_some] at hu
  rw [← hu, List.getD_eq_getElem?_getD, List.getElem?_eq_getElem (by omega : j < xs.length)]; rfl
theorem newsV {w : World} {g n : Nat} {vs : List Vl} (hx : vs.length = n) (hc : ∀ k, k < n → At w g (k * 6) (vs.getD k Vl.zero)) :
    ∀ j u, (flat vs)[j]? = some u → w.cell? ((⟨g, 0, none⟩ : Addr).add j) = some u := fun j u hu => by
  have hj : j < n * 6 := by
    rcases Nat.lt_or_ge j (n * 6) with c | c
    · exact c
    · rw [List.getElem?_eq_none (by rw [flat_len]; omega)] at hu; cases hu
  have e : (⟨g, 0, none⟩ : Addr).add j = ⟨g, j, none⟩ := by
    unfold Addr.add
    split
    · rename_i h0; rw [h0]
    · simp
  have ej : j = j / 6 * 6 + j % 6 := by omega
  have hk : j / 6 < n := by omega
  rw [ej, flat_at vs (j / 6) (j % 6) (by omega) (by omega)] at hu
  rw [e, ej]
  obtain ⟨c0, c1, c2, c3, c4, c5⟩ := hc (j / 6) hk
  have : j % 6 = 0 ∨ j % 6 = 1 ∨ j % 6 = 2 ∨ j % 6 = 3 ∨ j % 6 = 4 ∨ j % 6 = 5 := by omega
  rcases this with h | h | h | h | h | h
  all_goals
    rw [h] at hu ⊢
    simp [Vl.cells] at hu
    subst hu
  · rw [Nat.add_zero]; exact c0
  · exact c1
  · exact c2
  · exact c3
  · exact c4
  · exact c5
theorem grown_keptJ {w w' : World} {row : Option Nat} {base : Nat} (h : w.grownBy w' row) (hr : ∀ k, row = some k → base ≤ k) {w0 : World} (k : Kept 0 0 w0 w) (hb : w0.heap.size ≤ base) : Kept 0 0 w0 w' :=
  ⟨h.os.trans k.os, h.tape.trans k.tape, h.output.trans k.output, Nat.le_trans k.size h.size, fun i hi _ => by
    rw [h.block i (Nat.lt_of_lt_of_le hi k.size) (fun c => by have := hr i c.symm; omega)]
    exact k.block i hi (by omega)⟩
theorem oneF : ∀ (vs : List Vl), ∀ u ∈ flat vs, u.oneCell' = true
  | [], _, h => by cases h
  | v :: r, u, h => by
    rcases List.mem_append.1 h with c | c
    · exact one6 v u c
    · exact oneF r u c
theorem own_some {base e size n : Nat} {v : Value} {xs : List Value} {W : World} (h : W.ownsRow base e size v n xs) (hv : v ≠ .slice none 0 0) : ∃ g cap, v = .slice (some ⟨g, 0, none⟩) n cap ∧ base ≤ g ∧ g < W.heap.size := by
  rcases h.2 with ⟨e, _⟩ | ⟨g, cap, cur, e, b1, b2, _⟩
  · exact absurd e hv
  · refine ⟨g, cap, e, b1, ?_⟩
    rcases Nat.lt_or_ge g W.heap.size with c | c
    · exact c
    · rw [Array.getElem?_eq_none c] at b2; cases b2

set_option maxRecDepth 100000 in
set_option maxHeartbeats 2000000 in
theorem cloneI (w : World) (g n c : Nat) (xs : List Int) (hn2 : n ≤ 1000000) (h : IE w g xs) (hx : xs.length = n) :
    Calls Try.prog 179 #[.slice (some ⟨g, 0, none⟩) n c] w fun e w' => ∃ G cap, e = .returned (.slice (some ⟨G, 0, none⟩) n cap) ∧ w.heap.size ≤ G ∧ G < w'.heap.size ∧ w'.ownsRow w.heap.size 3 1 (.slice (some ⟨G, 0, none⟩) n cap) n (xs.map (Value.int .i64)) ∧ Kept 0 0 w w' := by
  obtain ⟨i0, hi, hz0, hz1, hz2⟩ := info_parts infoI
  have heq : (binOp .eql 46 (.slice (some ⟨g, 0, none⟩) n c) (.slice none 0 0)).run Try.prog w = .ok (.bool false) w := by
    simp only [binOp]
    simp [run_equal_slice_nil w 46 3 (some ⟨g, 0, none⟩) n c Try.underlying46]
  have ka := kept_alloc 0 0 w (.cells #[] 3)
  have hc : ∀ k, k < n → w.cell? ⟨g, k, none⟩ = some (.int .i64 (xs.getD k 0)) := fun k hk => h.cell k (by omega)
  have HN : Hid _ := newsI (w := w.alloc (.cells #[] 3)) (g := g) hx (fun k hk => kcell ka h.lt (hc k hk))
  have HO : Hid _ := World.ownsRow_made (base := w.heap.size) (e := 3) (size := 1) w #[] 0 (Nat.le_refl _) (by unfold maxLen; omega) rfl
  have HKA : Hid _ := ka
  have HX : Hid (xs.length = n) := hx
  clear hc hx ka h
  go_enter Try.func179, Try.ntmps179
  go_wp2_with (first | (at_builtin; refine wpList_append_own _ rfl _ _ 46 rfl w.heap.size 3 i0 (.int .i64 0) 1 8 Try.underlying46 hi hz0 hz1 hz2 rfl (by decide) _ _ _ rfl HO.out ⟨g, 0, none⟩ n c (xs.map (Value.int .i64)) rfl ?c0 HN.out ?c2 ?c3 ?c4 ?c5 ?_))
  case c0 => exact HX.out
  case c2 => intro u hu; rfl
  case c3 => unfold maxLen; omega
  case c4 => omega
  intro v' w9 hown9 hg9 hnil
  obtain ⟨G, cap, rfl, b1, b2⟩ := own_some hown9 hnil
  have R : Hid _ := grown_keptJ (base := w.heap.size) hg9 (fun k hk => by have : w.heap.size = k := (by simpa [Value.ownBlock] using hk); omega) HKA.out (Nat.le_refl _)
  have R2 : Hid _ := hown9
  clear hown9 hg9 hnil
  go_wp2
  go_ret
  exact ⟨G, cap, rfl, b1, b2, R2.out, R.out⟩

set_option maxRecDepth 100000 in
set_option maxHeartbeats 2000000 in
theorem cloneV (w : World) (g n c : Nat) (vs : List Vl) (hn2 : n ≤ 1000000) (h : VA w g n vs) :
    Calls Try.prog 180 #[.slice (some ⟨g, 0, none⟩) n c] w fun e w' => ∃ G cap, e = .returned (.slice (some ⟨G, 0, none⟩) n cap) ∧ w.heap.size ≤ G ∧ G < w'.heap.size ∧ w'.ownsRow w.heap.size 40 6 (.slice (some ⟨G, 0, none⟩) n cap) n (flat vs) ∧ Kept 0 0 w w' := by
  obtain ⟨i0, hi, hz0, hz1, hz2⟩ := info_parts infoV
  have heq : (binOp .eql 52 (.slice (some ⟨g, 0, none⟩) n c) (.slice none 0 0)).run Try.prog w = .ok (.bool false) w := by
    simp only [binOp]
    simp [run_equal_slice_nil w 52 40 (some ⟨g, 0, none⟩) n c Try.underlying52]
  have ka := kept_alloc 0 0 w (.cells #[] 40)
  have HN : Hid _ := newsV (w := w.alloc (.cells #[] 40)) (g := g) h.len (fun k hk => (h.at_ k hk).keep h.lt ka (.inr (.inr (Nat.le_refl _))))
  have HO : Hid _ := World.ownsRow_made (base := w.heap.size) (e := 40) (size := 6) w #[] 0 (Nat.le_refl _) (by unfold maxLen; omega) rfl
  have HKA : Hid _ := ka
  have HX : Hid (vs.length = n) := h.len
  clear ka h
  go_enter Try.func180, Try.ntmps180
  go_wp2_with (first | (at_builtin; refine wpList_append_own _ rfl _ _ 52 rfl w.heap.size 40 i0 (vagg 0 0 0 0 0 0) 6 48 Try.underlying52 hi hz0 hz1 hz2 rfl (by decide) _ _ _ rfl HO.out ⟨g, 0, none⟩ n c (flat vs) rfl ?c0 HN.out ?c2 ?c3 ?c4 ?c5 ?_))
  case c0 => rw [flat_len, HX.out]
  case c2 => exact oneF vs
  case c3 => unfold maxLen; omega
  case c4 => omega
  intro v' w9 hown9 hg9 hnil
  obtain ⟨G, cap, rfl, b1, b2⟩ := own_some hown9 hnil
  have R : Hid _ := grown_keptJ (base := w.heap.size) hg9 (fun k hk => by have : w.heap.size = k := (by simpa [Value.ownBlock] using hk); omega) HKA.out (Nat.le_refl _)
  have R2 : Hid _ := hown9
  clear hown9 hg9 hnil
  go_wp2
  go_ret
  exact ⟨G, cap, rfl, b1, b2, R2.out, R.out⟩
theorem getD_memJ {xs : List Int} {q : Nat} (h : q < xs.length) : xs.getD q 0 ∈ xs := by
  rw [List.getD_eq_getElem?_getD, List.getElem?_eq_getElem h]
  exact List.getElem_mem _
set_option maxRecDepth 100000 in
set_option maxHeartbeats 2000000 in
theorem allIdx (w : World) (g m cap : Nat) (n : Int) (xs : List Int) (hx : xs.length = m) (hm : m ≤ 1000) (hc : ∀ k, k < m → w.cell? ⟨g, k, none⟩ = some (.int .i64 (xs.getD k 0))) :
    Calls Try.prog 117 #[.int .i64 n, .slice (some ⟨g, 0, none⟩) m cap] w fun e w' => e = .returned (.bool (xs.all (idxB · n))) ∧ w = w' := by
  have HC : Hid _ := hc
  have HX : Hid (xs.length = m) := hx
  clear hc hx
  go_enter Try.func117, Try.ntmps117
  go_wp2_with fail
  go_loop [9] (fun i => ∃ k : Nat, k ≤ m ∧ i = .int .i64 k ∧ Hid ((xs.take k).all (idxB · n) = true)) (fun i => m - (intOf i).toNat)
  case atStart => exact ⟨0, Nat.zero_le _, rfl, rfl⟩
  case round =>
    obtain ⟨k, hk, rfl, hA⟩ := hrel
    by_cases hlt : k < m
    · have c := HC.out k hlt
      cases t : idxB (xs.getD k 0) n
      · have R : Hid (xs.all (idxB · n) = false) := by
          show _ = _
          rw [List.all_eq_false]
          exact ⟨xs.getD k 0, getD_memJ (by rw [HX.out]; exact hlt), by show ¬ idxB _ _ = true; rw [t]; decide⟩
        have HI : Hid _ := isIndex_any (xs.getD k 0) n w
        rw [t] at HI
        generalize xs.getD k 0 = x at c HI
        clear t
        go_wp2_with fail
        refine Calls.mono HI.out ?_
        rintro e w2 ⟨rfl, hw⟩
        have R3 : Hid (w = w2) := hw.symm
        clear hw
        go_wp2
        go_ret
        exact ⟨by rw [R.out]; rfl, R3.out⟩
      · have R : Hid ((xs.take (k + 1)).all (idxB · n) = true) := by
          show _ = _
          rw [List.take_succ_eq_append_getElem (by rw [HX.out]; exact hlt), List.all_append, hA.out]
          rw [List.getD_eq_getElem?_getD, List.getElem?_eq_getElem (by rw [HX.out]; exact hlt)] at t
          simpa using t
        have HI : Hid _ := isIndex_any (xs.getD k 0) n w
        rw [t] at HI
        generalize xs.getD k 0 = x at c HI
        clear t
        go_wp2_with fail
        refine Calls.mono HI.out ?_
        rintro e w2 ⟨rfl, rfl⟩
        go_wp2
        go_round
        case rel => exact ⟨k + 1, by omega, by go_num, R⟩
        case measure => simp [intOf]; omega
    · obtain rfl : k = m := by omega
      have R : Hid (xs.all (idxB · n) = true) := by
        have := hA.out
        rw [List.take_of_length_le (by rw [HX.out]; omega)] at this
        exact this
      clear hA
      go_wp2
      go_ret
      exact ⟨by rw [R.out]; rfl, rfl⟩

theorem own_mono {base base' e size n : Nat} {v : Value} {xs : List Value} {W : World} (h : W.ownsRow base e size v n xs) (hb : base' ≤ base) : W.ownsRow base' e size v n xs :=
  ⟨h.1, h.2.imp id fun ⟨g, cap, cur, e1, b1, b2⟩ => ⟨g, cap, cur, e1, Nat.le_trans hb b1, b2⟩⟩
theorem Kept.drew {lo hi : Nat} {w w' : World} (h : Kept lo hi w w') : Kept lo hi w w'.drew := ⟨h.os, h.tape, h.output, h.size, h.block⟩
theorem own_keepR {base e size n l h : Nat} {v : Value} {xs : List Value} {W W' : World} (o : W.ownsRow base e size v n xs) (k : Kept l h W W') (hd : ∀ g, v.ownBlock = some g → g < l ∨ h ≤ g) : W'.ownsRow base e size v n xs := by
  refine ⟨o.1, o.2.imp id ?_⟩
  rintro ⟨g, cap, cur, e1, b1, b2, b3⟩
  refine ⟨g, cap, cur, e1, b1, ?_, b3⟩
  have hg : g < W.heap.size := by
    rcases Nat.lt_or_ge g W.heap.size with c | c
    · exact c
    · rw [Array.getElem?_eq_none c] at b2; cases b2
  have := hd g (by rw [e1]; rfl)
  rw [k.block g hg (by omega)]
  exact b2
abbrev OI (w : World) (base G n cap : Nat) (xs : List Int) : Prop := w.ownsRow base 3 1 (.slice (some ⟨G, 0, none⟩) n cap) n (xs.map (Value.int .i64))
abbrev gnil : Value := .agg #[.slice none 0 0, .slice none 0 0, .slice none 0 0]
abbrev nbox : Obj := .cells #[.slice none 0 0, .slice none 0 0, .slice none 0 0] 54
structure RB (W : World) (p : Nat) (b0 b1 b2 : Value) : Prop where
  sz : p < W.heap.size
  q0 : W.cell? ⟨p, 0, none⟩ = some b0
  q1 : W.cell? ⟨p, 1, none⟩ = some b1
  q2 : W.cell? ⟨p, 2, none⟩ = some b2
  f0 : W.frozen? ⟨p, 0, none⟩ = false
  f1 : W.frozen? ⟨p, 1, none⟩ = false
  f2 : W.frozen? ⟨p, 2, none⟩ = false
theorem RB.keep {W W' : World} {p : Nat} {b0 b1 b2 : Value} (t : RB W p b0 b1 b2) (k : Kept 0 0 W W') : RB W' p b0 b1 b2 :=
  ⟨Nat.lt_of_lt_of_le t.sz k.size, kcell k t.sz t.q0, kcell k t.sz t.q1, kcell k t.sz t.q2, by rw [k.frozen (p := ⟨p, 0, none⟩) t.sz (by omega)]; exact t.f0, by rw [k.frozen (p := ⟨p, 1, none⟩) t.sz (by omega)]; exact t.f1, by rw [k.frozen (p := ⟨p, 2, none⟩) t.sz (by omega)]; exact t.f2⟩
theorem rb_start (w : World) : RB (w.alloc nbox) w.heap.size (.slice none 0 0) (.slice none 0 0) (.slice none 0 0) := by
  refine ⟨?_, ?_, ?_, ?_, ?_, ?_, ?_⟩
  all_goals first | (go_simp; done) | (simp; done)
theorem put3_0 (w : World) (g : Nat) (a b c : Value) (h0 : w.cell? ⟨g, 0, none⟩ = some a) (h1 : w.cell? ⟨g, 1, none⟩ = some b) (h2 : w.cell? ⟨g, 2, none⟩ = some c) (x y z : Value) :
    (((w.setCell ⟨g, 0, none⟩ x).setCell ⟨g, 1, none⟩ y).setCell ⟨g, 2, none⟩ z).cell? ⟨g, 0, none⟩ = some x ∧ (((w.setCell ⟨g, 0, none⟩ x).setCell ⟨g, 1, none⟩ y).setCell ⟨g, 2, none⟩ z).cell? ⟨g, 1, none⟩ = some y ∧ (((w.setCell ⟨g, 0, none⟩ x).setCell ⟨g, 1, none⟩ y).setCell ⟨g, 2, none⟩ z).cell? ⟨g, 2, none⟩ = some z := by
  refine ⟨?_, ?_, ?_⟩
  · rw [cell_ne _ _ _ _ _ _ (.inr (by omega)), cell_ne _ _ _ _ _ _ (.inr (by omega))]; exact cell_eq _ _ _ _ _ h0
  · rw [cell_ne _ _ _ _ _ _ (.inr (by omega))]
    exact cell_eq _ _ _ _ _ (by rw [cell_ne _ _ _ _ _ _ (.inr (by omega))]; exact h1)
  · exact cell_eq _ _ _ _ _ (by rw [cell_ne _ _ _ _ _ _ (.inr (by omega)), cell_ne _ _ _ _ _ _ (.inr (by omega))]; exact h2)

theorem kept_drew (w : World) : Kept 0 0 w w.drew := ⟨rfl, rfl, rfl, Nat.le_refl _, fun _ _ _ => rfl⟩
theorem own_form {base e size n : Nat} {v : Value} {xs : List Value} {W : World} (h : W.ownsRow base e size v n xs) : ∃ a cap, v = .slice a n cap := by
  rcases h.2 with ⟨e, rfl⟩ | ⟨g, cap, cur, e, _⟩
  · exact ⟨none, 0, e⟩
  · exact ⟨_, cap, e⟩
set_option maxRecDepth 100000 in
set_option maxHeartbeats 2000000 in
theorem l2copyInts (w : World) (g n c : Nat) (xs : List Int) (hn2 : n ≤ 1000000) (h : IE w g xs) (hx : xs.length = n) :
    Calls Try.prog 176 #[.slice (some ⟨g, 0, none⟩) n c] w fun e w' => ∃ a cap, e = .returned (.slice a n cap) ∧ w'.ownsRow w.heap.size 3 1 (.slice a n cap) n (xs.map (Value.int .i64)) ∧ Kept 0 0 w w' := by
  obtain ⟨i0, hi, hz0, hz1, hz2⟩ := info_parts infoI
  have hc : ∀ k, k < n → w.cell? ⟨g, k, none⟩ = some (.int .i64 (xs.getD k 0)) := fun k hk => h.cell k (by omega)
  have HN : Hid _ := newsI (w := w) (g := g) hx hc
  have HO : Hid _ := World.ownsRow_nil w w.heap.size 3 1
  have HX : Hid (xs.length = n) := hx
  clear hc hx h
  go_enter Try.func176, Try.ntmps176
  go_wp2_with (first | (at_builtin; refine wpList_append_own _ rfl _ _ 46 rfl w.heap.size 3 i0 (.int .i64 0) 1 8 Try.underlying46 hi hz0 hz1 hz2 rfl (by decide) _ _ _ rfl HO.out ⟨g, 0, none⟩ n c (xs.map (Value.int .i64)) rfl ?c0 HN.out ?c2 ?c3 ?c4 ?c5 ?_))
  case c0 => exact HX.out
  case c2 => intro u hu; rfl
  case c3 => unfold maxLen; omega
  case c4 => omega
  intro v' w9 hown9 hg9 _
  obtain ⟨a, cap, rfl⟩ := own_form hown9
  have R : Hid _ := grown_keptJ (base := w.heap.size) hg9 (fun k hk => by simp [Value.ownBlock] at hk) (Kept.refl 0 0 w) (Nat.le_refl _)
  have R2 : Hid _ := hown9
  clear hown9 hg9
  go_wp2
  go_ret
  exact ⟨a, cap, rfl, R2.out, R.out⟩
def Apart (u v : Value) : Prop := ∀ k, u.ownBlock = some k → v.ownBlock ≠ some k
theorem apart_of {b1 b2 e1 e2 s1 s2 n1 n2 : Nat} {u v : Value} {xs ys : List Value} {W W' : World} (h1 : W.ownsRow b1 e1 s1 u n1 xs) (h2 : W'.ownsRow b2 e2 s2 v n2 ys) (hb : W.heap.size ≤ b2) : Apart u v := fun k hk hv => by
  have := (own_blkV h1 hk).2
  have := (own_blkV h2 hv).1
  omega
theorem cell3c (w : World) (P B o : Nat) (x y z : Value) (h : B ≠ P) : (((w.setCell ⟨P, 0, none⟩ x).setCell ⟨P, 1, none⟩ y).setCell ⟨P, 2, none⟩ z).cell? ⟨B, o, none⟩ = w.cell? ⟨B, o, none⟩ := by
  rw [cell_ne _ _ _ _ _ _ (.inl (Ne.symm h)), cell_ne _ _ _ _ _ _ (.inl (Ne.symm h)), cell_ne _ _ _ _ _ _ (.inl (Ne.symm h))]
set_option maxRecDepth 100000 in
set_option maxHeartbeats 4000000 in
theorem l2copy (w : World) (_lo g1 g2 g3 n1 c1 n2 c2 n3 c3 : Nat) (ins : List Int) (vs : List Vl) (outs : List Int) (f : GN w g1 g2 g3 n2 ins vs outs) (e1 : ins.length = n1) (e3 : outs.length = n3) (l1 : n1 ≤ 1000000) (l2 : n2 ≤ 1000000) (l3 : n3 ≤ 1000000) :
    Calls Try.prog 151 #[gagg (some ⟨g1, 0, none⟩) n1 c1 (some ⟨g2, 0, none⟩) n2 c2 (some ⟨g3, 0, none⟩) n3 c3] w fun e w' => ∃ a1 d1 a2 d2 a3 d3, e = .returned (gagg a1 n1 d1 a2 n2 d2 a3 n3 d3) ∧ w'.ownsRow w.heap.size 3 1 (.slice a1 n1 d1) n1 (ins.map (Value.int .i64)) ∧ w'.ownsRow w.heap.size 40 6 (.slice a2 n2 d2) n2 (flat vs) ∧ w'.ownsRow w.heap.size 3 1 (.slice a3 n3 d3) n3 (outs.map (Value.int .i64)) ∧
      (Apart (.slice a2 n2 d2) (.slice a1 n1 d1) ∧ Apart (.slice a2 n2 d2) (.slice a3 n3 d3) ∧ Apart (.slice a1 n1 d1) (.slice a3 n3 d3)) ∧ Kept 0 0 w w' := by
  obtain ⟨i0, hi, hz0, hz1, hz2⟩ := info_parts infoV
  have k1 := kept_alloc 0 0 w (gbox (some ⟨g1, 0, none⟩) n1 c1 (some ⟨g2, 0, none⟩) n2 c2 (some ⟨g3, 0, none⟩) n3 c3)
  have k2 := kept_alloc 0 0 (w.alloc (gbox (some ⟨g1, 0, none⟩) n1 c1 (some ⟨g2, 0, none⟩) n2 c2 (some ⟨g3, 0, none⟩) n3 c3)) nbox
  have HB : Hid _ := (g0_start w (.slice (some ⟨g1, 0, none⟩) n1 c1) (.slice (some ⟨g2, 0, none⟩) n2 c2) (.slice (some ⟨g3, 0, none⟩) n3 c3)).keep k2
  have hN := rb_start (w.alloc (gbox (some ⟨g1, 0, none⟩) n1 c1 (some ⟨g2, 0, none⟩) n2 c2 (some ⟨g3, 0, none⟩) n3 c3))
  rw [show (w.alloc (gbox (some ⟨g1, 0, none⟩) n1 c1 (some ⟨g2, 0, none⟩) n2 c2 (some ⟨g3, 0, none⟩) n3 c3)).heap.size = w.heap.size + 1 by simp] at hN
  have HR : Hid _ := hN
  have HK : Hid _ := k1.trans k2
  have HI1 : Hid _ := f.i.keep (k1.trans k2) (.inr (.inr (Nat.le_refl _)))
  have HI2 : Hid _ := f.v.keep (k1.trans k2) (.inr (.inr (Nat.le_refl _)))
  have HI3 : Hid _ := f.o.keep (k1.trans k2) (.inr (.inr (Nat.le_refl _)))
  clear f hN k1 k2
  obtain ⟨_, q0, q1, q2⟩ := HB.out
  go_enter Try.func151, Try.ntmps151
  go_upto_region 2 with fail
  generalize (w.alloc (gbox (some ⟨g1, 0, none⟩) n1 c1 (some ⟨g2, 0, none⟩) n2 c2 (some ⟨g3, 0, none⟩) n3 c3)).alloc nbox = w2 at HB HR HK HI1 HI2 HI3 q0 q1 q2 ⊢
  have HN : Hid _ := newsV (w := w2) (g := g2) HI2.out.len (fun k hk => HI2.out.at_ k hk)
  have HO : Hid _ := World.ownsRow_nil w2 w2.heap.size 40 6
  go_wp2_with (first | (at_builtin; refine wpList_append_own _ rfl _ _ 52 rfl w2.heap.size 40 i0 (vagg 0 0 0 0 0 0) 6 48 Try.underlying52 hi hz0 hz1 hz2 rfl (by decide) _ _ _ rfl HO.out ⟨g2, 0, none⟩ n2 c2 (flat vs) rfl ?c0 HN.out ?c2 ?c3 ?c4 ?c5 ?_))
  case c0 => rw [flat_len, HI2.out.len]
  case c2 => exact oneF vs
  case c3 => unfold maxLen; omega
  case c4 => omega
  intro v' w3 hown3 hg3 _
  obtain ⟨a2, d2, rfl⟩ := own_form hown3
  have k3 := grown_keptJ (base := w2.heap.size) hg3 (fun k hk => by simp [Value.ownBlock] at hk) (Kept.refl 0 0 w2) (Nat.le_refl _)
  have HO2 : Hid _ := hown3
  have HK3 : Hid _ := k3
  clear hown3 hg3 HN HO q0 q1 q2 k3
  obtain ⟨_, q0, q1, q2⟩ := G0.keep HB.out HK3.out
  have hI1 := IE.keep HI1.out HK3.out (.inr (.inr (Nat.le_refl _)))
  have HJ1 : Hid _ := hI1
  have HJ3 : Hid _ := IE.keep HI3.out HK3.out (.inr (.inr (Nat.le_refl _)))
  have HB3 : Hid _ := G0.keep HB.out HK3.out
  have HR3 : Hid _ := RB.keep HR.out HK3.out
  have HQ : Hid (w.heap.size + 1 < w2.heap.size ∧ w.heap.size ≤ w2.heap.size ∧ w2.heap.size ≤ w3.heap.size) := ⟨HR.out.sz, HK.out.size, HK3.out.size⟩
  clear hI1 HB HR HI1 HI2 HI3
  go_wp2_with fail
  go_region_held3 (fun w' => w'.cell? ⟨w.heap.size, 0, none⟩ = some (.slice (some ⟨g1, 0, none⟩) n1 c1) ∧ w'.cell? ⟨w.heap.size, 2, none⟩ = some (.slice (some ⟨g3, 0, none⟩) n3 c3)) (first | go_keep | (simp only [cell3c _ _ _ _ _ _ _ hne]; exact ⟨r0, r2⟩))
    (first
      | (go_at_call 176; refine Calls.mono (l2copyInts w4 g3 n3 c3 outs l3 (IE.keep HJ3.out kk1 (.inr (.inr (Nat.le_refl _)))) e3) ?_; rintro e w5 ⟨a3, d3, rfl, o3, k5⟩; have kk2 := Kept.trans kk1 k5; obtain ⟨_, r0, r1, r2⟩ := G0.keep HB3.out kk2; obtain ⟨_, t0, t1, t2, x0, x1, x2⟩ := RB.keep HR3.out kk2; have hne : w.heap.size ≠ w.heap.size + 1 := by omega)
      | (go_at_call 176; refine Calls.mono (l2copyInts (w3.drewN 1) g1 n1 c1 ins l1 (IE.drewN HJ1.out 1) e1) ?_; rintro e w4 ⟨a1, d1, rfl, o1, k4⟩; have kk1 := Kept.trans (kept_drewN 0 0 w3 1) k4; obtain ⟨_, s0, s1, s2⟩ := G0.keep HB3.out kk1))
  go_wp2_with fail
  obtain ⟨y0, y1, y2⟩ := put3_0 w5 (w.heap.size + 1) _ _ _ t0 t1 t2 (.slice a1 n1 d1) (.slice a2 n2 d2) (.slice a3 n3 d3)
  have kp := put3_kept w5 (w.heap.size + 1) (.slice a1 n1 d1) (.slice a2 n2 d2) (.slice a3 n3 d3)
  have hz3 : (w3.drewN 1).heap.size = w3.heap.size := rfl
  have hz4 := k4.size
  have hQ := HQ.out
  have key : ∀ {b e size n : Nat} {v : Value} {xs : List Value} {W : World}, W.ownsRow b e size v n xs → w2.heap.size ≤ b → Kept 0 0 W w5 → (((w5.setCell ⟨w.heap.size + 1, 0, none⟩ (.slice a1 n1 d1)).setCell ⟨w.heap.size + 1, 1, none⟩ (.slice a2 n2 d2)).setCell ⟨w.heap.size + 1, 2, none⟩ (.slice a3 n3 d3)).ownsRow w.heap.size e size v n xs := fun h hb k =>
    own_mono (own_keepR (own_keepJ h k) kp (fun g hg => by have := (own_blkV h hg).1; omega)) (by omega)
  refine bodyPost_ret (v := gagg a1 n1 d1 a2 n2 d2 a3 n3 d3) (by simp [results, Try.results151, go_sem, y0, y1, y2]) rfl ⟨a1, d1, a2, d2, a3, d3, rfl, key o1 (by omega) k5, key HO2.out (Nat.le_refl _) kk2, key o3 (by omega) (Kept.refl 0 0 _), ⟨apart_of HO2.out o1 (by omega), apart_of HO2.out o3 (by omega), apart_of o1 o3 (Nat.le_refl _)⟩, Kept.new ((HK.out.trans HK3.out).trans kk2) kp (by omega)⟩
theorem own_io {W : World} {base n d : Nat} {b : Option Addr} {xs : List Int} (h : W.ownsRow base 3 1 (.slice b n d) n (xs.map (Value.int .i64))) (hl : xs.length = n) : n = 0 ∨ ∃ g, b = some ⟨g, 0, none⟩ ∧ base ≤ g ∧ IBk W g n xs := by
  rcases h.2 with ⟨_, c⟩ | ⟨g, cap, cur, e, b1, b2, b3, _, b5, b6⟩
  · exact .inl c
  · injection e with q1 q2 q3
    subst q1
    have hg : g < W.heap.size := by
      rcases Nat.lt_or_ge g W.heap.size with c | c
      · exact c
      · rw [Array.getElem?_eq_none c] at b2; cases b2
    refine .inr ⟨g, rfl, b1, hl, hg, fun k hk => ?_, fun o => frozen_of_row W g o _ _ b2⟩
    rw [cell_of_row W g _ cur _ _ b2, ← Array.getElem?_toList]
    have : (cur.toList.take (n * 1))[k]? = (xs.map (Value.int .i64))[k]? := by rw [b6]
    rw [List.getElem?_take_of_lt (by omega)] at this
    rw [this, List.getElem?_map, List.getD_eq_getElem?_getD, List.getElem?_eq_getElem (by omega)]
    rfl
theorem IZ.is {W : World} {g n : Nat} {a : Option Addr} {xs : List Int} (h : IZ W g a n xs) (hl : xs.length = n) : IS W 0 W.heap.size a n xs :=
  ⟨hl, by
    rcases h with h0 | ⟨rfl, q⟩
    · exact .inl h0
    · exact .inr ⟨g, 0, rfl, Nat.zero_le _, q.lt, q.lt, fun k hk => by rw [Nat.zero_add]; exact q.at_ k hk⟩⟩
theorem VZ.vs {W : World} {g n : Nat} {a : Option Addr} {vs : List Vl} (h : VZ W g a n vs) (hl : vs.length = n) (hk : ∀ v ∈ vs, v.k < 18446744073709551616) : VS W 0 W.heap.size a n vs :=
  ⟨hl, hk, by
    rcases h with h0 | ⟨rfl, q⟩
    · exact .inl h0
    · exact .inr ⟨g, 0, rfl, Nat.zero_le _, q.lt, q.lt, fun k hk => by rw [Nat.zero_add]; exact q.at_ k hk⟩⟩
theorem own_is {W : World} {base n d : Nat} {b : Option Addr} {xs : List Int} (h : W.ownsRow base 3 1 (.slice b n d) n (xs.map (Value.int .i64))) (hl : xs.length = n) : IS W 0 W.heap.size b n xs := by
  rcases own_io h hl with h0 | ⟨g, e, _, q⟩
  · exact IZ.is (g := 0) (.inl h0) hl
  · exact IZ.is (g := g) (.inr ⟨e, q⟩) hl
theorem own_vs {W : World} {base n d : Nat} {b : Option Addr} {vs : List Vl} (h : W.ownsRow base 40 6 (.slice b n d) n (flat vs)) (hl : vs.length = n) (hk : ∀ v ∈ vs, v.k < 18446744073709551616) : VS W 0 W.heap.size b n vs := by
  rcases Nat.eq_zero_or_pos n with h0 | h0
  · exact VZ.vs (g := 0) (.inl h0) hl hk
  · obtain ⟨g, cap, e, _, _, _, hA⟩ := row_at h h0 hl
    injection e with q1
    exact VZ.vs (g := g) (.inr ⟨q1, hA⟩) hl hk
theorem OG.gs {w : World} {g1 g2 g3 n1 n2 n3 : Nat} {a1 a2 a3 : Option Addr} {ins : List Int} {vs : List Vl} {outs : List Int} (f : OG w g1 g2 g3 a1 n1 a2 n2 a3 n3 ins vs outs) (h1 : ins.length = n1) (h2 : vs.length = n2) (h3 : outs.length = n3) (hk : ∀ v ∈ vs, v.k < 18446744073709551616) : GS w a1 n1 a2 n2 a3 n3 ins vs outs :=
  ⟨f.i.is h1, f.v.vs h2 hk, f.o.is h3⟩
structure GL (w : World) (lo : Nat) (a1 : Option Addr) (n1 : Nat) (a2 : Option Addr) (n2 : Nat) (a3 : Option Addr) (n3 : Nat) (ins : List Int) (vs : List Vl) (outs : List Int) : Prop where
  i : IS w lo w.heap.size a1 n1 ins
  v : VS w lo w.heap.size a2 n2 vs
  o : IS w lo w.heap.size a3 n3 outs
theorem GL.gs {w : World} {lo n1 n2 n3 : Nat} {a1 a2 a3 : Option Addr} {ins : List Int} {vs : List Vl} {outs : List Int} (f : GL w lo a1 n1 a2 n2 a3 n3 ins vs outs) : GS w a1 n1 a2 n2 a3 n3 ins vs outs :=
  ⟨f.i.mono (Nat.zero_le _) (Nat.le_refl _), f.v.mono (Nat.zero_le _) (Nat.le_refl _), f.o.mono (Nat.zero_le _) (Nat.le_refl _)⟩
theorem GL.keep {w w' : World} {lo l h n1 n2 n3 : Nat} {a1 a2 a3 : Option Addr} {ins : List Int} {vs : List Vl} {outs : List Int} (f : GL w lo a1 n1 a2 n2 a3 n3 ins vs outs) (k : Kept l h w w') (hd : h ≤ lo ∨ h ≤ l) : GL w' lo a1 n1 a2 n2 a3 n3 ins vs outs :=
  ⟨(f.i.keep k (.inr hd)).mono (Nat.le_refl _) k.size, (f.v.keep k (.inr hd)).mono (Nat.le_refl _) k.size, (f.o.keep k (.inr hd)).mono (Nat.le_refl _) k.size⟩
theorem GL.of {W : World} {base n1 n3 d1 d2 d3 : Nat} {b1 a2 b3 : Option Addr} {ins outs : List Int} {vs : List Vl} (o1 : W.ownsRow base 3 1 (.slice b1 n1 d1) n1 (ins.map (Value.int .i64))) (o2 : W.ownsRow base 40 6 (.slice a2 vs.length d2) vs.length (flat vs)) (o3 : W.ownsRow base 3 1 (.slice b3 n3 d3) n3 (outs.map (Value.int .i64))) (h1 : ins.length = n1) (h3 : outs.length = n3) (hk : ∀ v ∈ vs, v.k < 18446744073709551616) : GL W base b1 n1 a2 vs.length b3 n3 ins vs outs := by
  have ki : ∀ {n d : Nat} {b : Option Addr} {xs : List Int}, W.ownsRow base 3 1 (.slice b n d) n (xs.map (Value.int .i64)) → xs.length = n → IS W base W.heap.size b n xs := fun ho hl => by
    rcases own_io ho hl with h0 | ⟨g, e, hg, q⟩
    · exact ⟨hl, .inl h0⟩
    · exact ⟨hl, .inr ⟨g, 0, e, hg, q.lt, q.lt, fun k hk => by rw [Nat.zero_add]; exact q.at_ k hk⟩⟩
  refine ⟨ki o1 h1, ?_, ki o3 h3⟩
  rcases Nat.eq_zero_or_pos vs.length with h0 | h0
  · exact ⟨rfl, hk, .inl h0⟩
  · obtain ⟨g, cap, e, hg, hl, _, hA⟩ := row_at o2 h0 rfl
    injection e with q1
    exact ⟨rfl, hk, .inr ⟨g, 0, q1, hg, hl, hl, fun k hk => by rw [Nat.zero_add]; exact hA.at_ k hk⟩⟩
theorem gs_nil (w : World) : GS w none 0 none 0 none 0 [] [] [] := ⟨⟨rfl, .inl rfl⟩, ⟨rfl, by simp, .inl rfl⟩, ⟨rfl, .inl rfl⟩⟩
theorem G0.keepC {W W' : World} {S : Nat → Prop} {p : Nat} {b0 b1 b2 : Value} (t : G0 W p b0 b1 b2) (k : Chg S W W') (hd : ¬ S p) : G0 W' p b0 b1 b2 := by
  have e : ∀ o, W'.cell? ⟨p, o, none⟩ = W.cell? ⟨p, o, none⟩ := fun o => k.cell (p := ⟨p, o, none⟩) t.sz hd
  exact ⟨Nat.lt_of_lt_of_le t.sz k.size, by rw [e]; exact t.q0, by rw [e]; exact t.q1, by rw [e]; exact t.q2⟩

theorem GN.keepJ {w w' : World} {g1 g2 g3 n2 : Nat} {ins : List Int} {vs : List Vl} {outs : List Int} (f : GN w g1 g2 g3 n2 ins vs outs) (k : Kept 0 0 w w') : GN w' g1 g2 g3 n2 ins vs outs :=
  ⟨f.i.keep k (.inr (.inr (Nat.le_refl _))), f.v.keep k (.inr (.inr (Nat.le_refl _))), f.o.keep k (.inr (.inr (Nat.le_refl _)))⟩
theorem GO.keepJ {w w' : World} {lo g1 g2 g3 n2 : Nat} {ins : List Int} {vs : List Vl} {outs : List Int} (f : GO w lo g1 g2 g3 n2 ins vs outs) (k : Kept 0 0 w w') : GO w' lo g1 g2 g3 n2 ins vs outs :=
  ⟨f.i.keep k (.inr (.inr (Nat.le_refl _))), f.v.keep k (.inr (.inr (Nat.le_refl _))), f.o.keep k (.inr (.inr (Nat.le_refl _))), f.l1, f.l2, f.l3⟩
end Go.Proofs.Ytcphabjekfihnaa
