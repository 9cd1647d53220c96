import Derived.Test.YtjaklhpdkfmipaaR04
namespace Go.Proofs.Ytjaklhpdkfmipaa
open Go.RowKit Flt
attribute [local go_sem] alloc_drewN setCell_drewN run_store_float

/-- The lists of a value's first q operands. -/
def opl (v : Vl) (Vs : List (List Nat)) (q : Nat) : List (List Nat) := [if 0 < q then Vs.getD v.a.toNat [] else [], if 1 < q then Vs.getD v.b.toNat [] else [], if 2 < q then Vs.getD v.c.toNat [] else []]
/-- What Kernel gives of them. -/
def kop (v : Vl) (Vs : List (List Nat)) : List Nat := kern v.op v.len v.c v.k ((opl v Vs (cnt v.op)).getD 0 []) ((opl v Vs (cnt v.op)).getD 1 []) ((opl v Vs (cnt v.op)).getD 2 [])
theorem opl_set (v : Vl) (Vs : List (List Nat)) {q : Nat} (hq : q < 3) : (opl v Vs q).set q (Vs.getD ([v.a, v.b, v.c].getD q 0).toNat []) = opl v Vs (q + 1) := by
  have : q = 0 ∨ q = 1 ∨ q = 2 := by omega
  rcases this with rfl | rfl | rfl <;> simp [opl]
theorem opsOf_at (v : Vl) {q : Nat} (hq : q < cnt v.op) : (opsOf v).getD q 0 = [v.a, v.b, v.c].getD q 0 := by
  unfold opsOf
  rw [List.getD_eq_getElem?_getD, List.getD_eq_getElem?_getD, List.getElem?_take_of_lt hq]
theorem LV.put {w w' : World} {g n : Nat} {Vs : List (List Nat)} (f : LV w g n n Vs) {j : Nat} (hj : j < n) (hl : Vs.length = n) (q : Kept 0 0 w w') {b : Option Addr} {m c : Nat} {x : List Nat} (hu : Cl w' (.slice b m c) x) :
    LV (w'.setCell ⟨g, j, none⟩ (.slice b m c)) g n n (Vs.set j x) := by
  have f' := f.keep q
  obtain ⟨b0, m0, c0, hc, _⟩ := f'.at_ j hj
  refine ⟨by simpa using f'.lt, fun o => by simp [f'.free o], fun i hi => ?_⟩
  by_cases e : i = j
  · subst e
    refine ⟨b, m, c, cell_eq _ _ _ _ _ hc, fun _ => ?_⟩
    rw [List.getD_eq_getElem?_getD, List.getElem?_set, if_pos rfl, if_pos (by omega)]
    exact hu.setS hc (not_float_slice _ _ _) _
  · obtain ⟨b1, m1, c1, h1, h2⟩ := f'.at_ i hi
    refine ⟨b1, m1, c1, by rw [cell_ne _ _ _ _ _ _ (.inr (Ne.symm e))]; exact h1, fun h => ?_⟩
    rw [List.getD_eq_getElem?_getD, List.getElem?_set, if_neg (Ne.symm e), ← List.getD_eq_getElem?_getD]
    exact (h2 h).setS hc (not_float_slice _ _ _) _
theorem LV.other {w : World} {g n k P j : Nat} {Vs : List (List Nat)} {u : Value} (f : LV w g n k Vs) (hne : P ≠ g) (hc : w.cell? ⟨P, j, none⟩ = some u) (hu : ∀ x, u ≠ .float .f64 x) (v : Value) : LV (w.setCell ⟨P, j, none⟩ v) g n k Vs := by
  refine ⟨by simpa using f.lt, fun o => by simp [f.free o], fun i hi => ?_⟩
  obtain ⟨b1, m1, c1, h1, h2⟩ := f.at_ i hi
  exact ⟨b1, m1, c1, by rw [cell_ne _ _ _ _ _ _ (.inl hne)]; exact h1, fun h => (h2 h).setS hc hu _⟩
theorem arr_start (w : World) : LV (w.alloc (.cells #[.slice none 0 0, .slice none 0 0, .slice none 0 0] 231)) w.heap.size 3 3 [[], [], []] where
  lt := by simp
  free := fun o => by simp
  at_ := fun j hj => by
    have : j = 0 ∨ j = 1 ∨ j = 2 := by omega
    refine ⟨none, 0, 0, ?_, fun _ => ?_⟩
    · rcases this with rfl | rfl | rfl <;> simp
    · rcases this with rfl | rfl | rfl <;> exact Cl.nil _
theorem vbox_at (w : World) (v : Vl) : At (w.alloc (vbox v.op v.len v.a v.b v.c v.k)) w.heap.size 0 v := by
  refine ⟨?_, ?_, ?_, ?_, ?_, ?_⟩
  all_goals first | (go_simp; done) | (simp; done)

end Go.Proofs.Ytjaklhpdkfmipaa

namespace Go.Proofs.Ytjaklhpdkfmipaa
open Go.RowKit Flt
attribute [local go_sem] alloc_drewN setCell_drewN run_store_float

theorem map_getD (outs : List Int) (zss : List (List Nat)) {j : Nat} (h : j < outs.length) : (outs.map fun o => zss.getD o.toNat []).getD j [] = zss.getD (outs.getD j 0).toNat [] := by
  have e : outs.getD j 0 = outs[j] := by rw [List.getD_eq_getElem?_getD, List.getElem?_eq_getElem h]; rfl
  rw [e, List.getD_eq_getElem?_getD, List.getElem?_map, List.getElem?_eq_getElem h]
  rfl

end Go.Proofs.Ytjaklhpdkfmipaa

namespace Go.Proofs.Ytjaklhpdkfmipaa
open Go.RowKit Flt
attribute [local go_sem] alloc_drewN setCell_drewN run_store_float

set_option maxRecDepth 100000 in
set_option maxHeartbeats 2000000 in
theorem shapes (w : World) (lo hi : Nat) (a b : Option Addr) (n m ca cb : Nat) (ins : List Int) (xss : List (List Nat)) (f : IS w lo hi a n ins) (g : SS w b m xss) (hn : n ≤ 1099511627776) :
    Calls Try.prog 81 #[.slice a n ca, .slice b m cb] w fun e w' => e = .returned (.bool (inB ins xss)) ∧ Drawn w w' := by
  have HF : Hid _ := f
  have HG : Hid _ := g
  have HL : Hid (ins.length = n ∧ xss.length = m) := ⟨f.len, g.len⟩
  clear f g
  by_cases hnm : m = n
  · subst hnm
    go_enter Try.func81, Try.ntmps81
    go_wp2_with fail
    go_loopw [5] (fun i W => ∃ k : Nat, k ≤ m ∧ i = .int .i64 k ∧ Hid ((List.range k).all (fun i => ((xss.getD i []).length : Int) == ins.getD i 0) = true) ∧ Hid (Drawn w W)) (fun i _ => m - (intOf i).toNat)
    case atStart => exact ⟨0, Nat.zero_le _, rfl, rfl, Drawn.refl _⟩
    case round =>
      obtain ⟨k, hk, rfl, hA, hD⟩ := hrel
      by_cases hlt : k < m
      · rcases HF.out.at_ with z0 | ⟨ga, oa, ea, z1, z2, z3, z4⟩
        · omega
        rcases HG.out.at_ with z0 | ⟨gb, ob, eb, y1, y2⟩
        · omega
        have c1 := (hD.out.cell _).trans (z4 k hlt)
        obtain ⟨b2, cc2, c2', _, _⟩ := y2 k hlt
        have c2 := (hD.out.cell _).trans c2'
        have j0 : (0 : Int) ≤ (k : Int) := by omega
        have j1 : (k : Int) < (m : Int) := by omega
        subst ea eb
        clear z1 z2 z3 z4 y1 y2 c2'
        cases hx : (((xss.getD k []).length : Int) == ins.getD k 0)
        · have R : Hid (inB ins xss = false) := by
            show inB ins xss = false
            unfold inB
            rw [HL.out.1, range_bad (p := fun i => ((xss.getD i []).length : Int) == ins.getD i 0) hlt hx, Bool.and_false]
          have hx' : (((xss.getD k []).length : Int) != ins.getD k 0) = true := by rw [bne, hx]; rfl
          generalize (xss.getD k []).length = y at c2 hx'
          generalize ins.getD k 0 = x at c1 hx'
          clear hx hA
          go_wp2_with fail
          go_quiet (fail)
          go_wp2
          go_ret
          exact ⟨by rw [R.out]; rfl, Drawn.more hD.out _⟩
        · have R : Hid _ := range_snoc (p := fun i => ((xss.getD i []).length : Int) == ins.getD i 0) hA.out hx
          have hx' : (((xss.getD k []).length : Int) != ins.getD k 0) = false := by rw [bne, hx]; rfl
          generalize (xss.getD k []).length = y at c2 hx'
          generalize ins.getD k 0 = x at c1 hx'
          clear hx hA
          go_wp2_with fail
          go_quiet (fail)
          go_wp2
          go_roundw
          case rel => exact ⟨k + 1, by omega, by go_num, R, Drawn.more hD.out _⟩
          case measure => simp [intOf]; omega
      · have R : Hid (inB ins xss = true) := by
          have h1 := hA.out
          rw [show k = m by omega] at h1
          show inB ins xss = true
          unfold inB
          rw [HL.out.1, HL.out.2, h1, decide_eq_true rfl]; rfl
        clear hA
        go_wp2
        go_ret
        exact ⟨by rw [R.out]; rfl, hD.out⟩
  · have e : inB ins xss = false := by
      unfold inB
      rw [HL.out.1, HL.out.2, decide_eq_false hnm, Bool.false_and]
    rw [e]
    have t : ((n : Int) != (m : Int)) = true := by simp; omega
    go_enter Try.func81, Try.ntmps81
    go_wp2
    go_ret
    exact ⟨rfl, Drawn.refl _⟩

set_option maxRecDepth 100000 in
set_option maxHeartbeats 2000000 in
theorem l1copy (w : World) (g off n c : Nat) (xs : List Nat) (hn : 1 ≤ n) (hn2 : n ≤ 1000000) (hx : xs.length = n) (hlt : ∀ x ∈ xs, x < 18446744073709551616) (hc : ∀ k, k < n → w.cell? ⟨g, off + k, none⟩ = some (.float .f64 (xs.getD k 0))) :
    Calls Try.prog 133 #[.slice (some ⟨g, off, none⟩) n c] w fun e w' => ∃ G cap, e = .returned (.slice (some ⟨G, 0, none⟩) n cap) ∧ n ≤ cap ∧ FO w' G n xs ∧ w.heap.size ≤ G ∧ Kept 0 0 w w' := by
  obtain ⟨i0, hi, hz0, hz1, hz2⟩ := info_parts infoF
  have HN : Hid _ := news_of (w := w) (g := g) (off := off) hx hc
  have HO : Hid _ := World.ownsRow_nil w w.heap.size 65 1
  have HX : Hid (xs.length = n) := hx
  have HLT : Hid _ := hlt
  clear hc hx hlt
  go_enter Try.func133, Try.ntmps133
  go_wp2_with (first | (at_builtin; refine wpList_append_own _ rfl _ _ 113 rfl w.heap.size 65 i0 (.float .f64 0) 1 8 Try.underlying113 hi hz0 hz1 hz2 rfl (by decide) _ _ _ rfl HO.out ⟨g, off, none⟩ n c (xs.map (Value.float .f64)) rfl ?c0 HN.out ?c2 ?c3 ?c4 ?c5 ?_))
  case c0 => exact HX.out
  case c2 => intro u hu; rfl
  case c3 => unfold maxLen; omega
  case c4 => omega
  intro v' w9 hown9 hg9 _
  have hown : w9.ownsRow w.heap.size 65 1 v' n (xs.map (Value.float .f64)) := by simpa using hown9
  obtain ⟨G, cap, rfl, b1, b2, b3⟩ := FO.of_own hown (by omega) HX.out HLT.out
  have R : Hid _ := grown_kept (base := w.heap.size) hg9 (fun k hk => by simp [Value.ownBlock] at hk) (Kept.refl 0 0 w) (Nat.le_refl _)
  clear hown9 hg9 hown
  go_wp2
  go_ret
  exact ⟨G, cap, by simp, b2, b3, b1, R.out⟩
end Go.Proofs.Ytjaklhpdkfmipaa
