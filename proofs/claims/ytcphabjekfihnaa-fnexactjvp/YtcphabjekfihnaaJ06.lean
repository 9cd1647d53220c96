import Derived.Test.YtcphabjekfihnaaJ05
import Derived.Test.YtcphabjekfihnaaJ03
import Derived.Deep.RegionHeld3
import Derived.Deep.RegionLaw
namespace Go.Proofs.Ytcphabjekfihnaa
open Go.RowKit Flt
attribute [local go_sem] alloc_drewN setCell_drewN run_store_float

end Go.Proofs.Ytcphabjekfihnaa

namespace Go.Proofs.Ytcphabjekfihnaa
open Go.RowKit Flt
attribute [local go_sem] alloc_drewN setCell_drewN run_store_float

theorem IS.three {w : World} {g : Nat} {x y z : Int} (h0 : w.cell? ⟨g, 0, none⟩ = some (.int .i64 x)) (h1 : w.cell? ⟨g, 1, none⟩ = some (.int .i64 y)) (h2 : w.cell? ⟨g, 2, none⟩ = some (.int .i64 z)) (hg : g < w.heap.size) : IS w 0 w.heap.size (some ⟨g, 0, none⟩) 3 [x, y, z] :=
  ⟨rfl, .inr ⟨g, 0, rfl, Nat.zero_le _, hg, hg, fun k hk => by
    rcases (by omega : k = 0 ∨ k = 1 ∨ k = 2) with rfl | rfl | rfl
    · exact h0
    · exact h1
    · exact h2⟩⟩

def fillN (k n : Nat) : List Int := List.replicate k (-1) ++ List.replicate (n - k) 0
theorem fillN_len (k n : Nat) (h : k ≤ n) : (fillN k n).length = n := by simp [fillN]; omega
theorem fillN_all (n : Nat) : fillN n n = List.replicate n (-1) := by simp [fillN]
theorem fillN_set {k n : Nat} (h : k < n) : (fillN k n).set k (-1) = fillN (k + 1) n := by
  apply List.ext_getElem?
  intro j
  unfold fillN
  rw [List.getElem?_set]
  by_cases e : k = j
  · subst e
    rw [if_pos rfl, if_pos (by simp; omega), List.getElem?_append_left (by simp)]
    simp
  · rw [if_neg e]
    rcases Nat.lt_or_ge j k with c | c
    · rw [List.getElem?_append_left (by simp; omega), List.getElem?_append_left (by simp; omega)]
      simp [c, (by omega : j < k + 1)]
    · rw [List.getElem?_append_right (by simp; omega), List.getElem?_append_right (by simp; omega)]
      simp [List.getElem?_replicate]
      congr 1
      simp; omega

set_option maxRecDepth 100000 in
set_option maxHeartbeats 2000000 in
theorem nones (w : World) (n : Nat) (hn : n ≤ 1000000) :
    Calls Try.prog 158 #[.int .i64 (n : Int)] w fun e w' => e = .returned (.slice (some ⟨w.heap.size, 0, none⟩) n n) ∧ IR w' w.heap.size (List.replicate n (-1)) ∧ Kept 0 0 w w' := by
  have hm := make_i n w (by omega)
  have hP := IR.made w n
  have hK := kept_alloc 0 0 w (.cells (madeCells #[.int .i64 0] n) 3)
  have HP : Hid _ := hP
  have HK : Hid _ := hK
  clear hP hK
  generalize hw1 : w.alloc (.cells (madeCells #[.int .i64 0] n) 3) = w1 at hm HP HK
  clear hw1
  go_enter Try.func158, Try.ntmps158
  go_wp2_with fail
  clear hm
  go_loopw [9] (fun x W => ∃ k : Nat, k ≤ n ∧ x = .int .i64 k ∧ Hid (IR W w.heap.size (fillN k n)) ∧ Hid (Kept 0 0 w W)) (fun x _ => n - (intOf x).toNat)
  case atStart => exact ⟨0, Nat.zero_le _, rfl, HP, HK⟩
  case round =>
    obtain ⟨k, hk, rfl, hI, hK⟩ := hrel
    clear HP HK
    by_cases hlt : k < n
    · have c1 := IR.cell hI.out k (by rw [fillN_len k n hk]; exact hlt)
      have c2 := IR.free hI.out k
      have R1 : Hid (IR (wr.setCell ⟨w.heap.size, k, none⟩ (.int .i64 (-1))) w.heap.size (fillN (k + 1) n)) := by
        have := IR.set hI.out k (-1)
        rw [fillN_set hlt] at this
        exact this
      have R2 : Hid _ := kept_put w wr hK.out w.heap.size k (.int .i64 (-1)) (Nat.le_refl _)
      clear hI hK
      generalize (fillN k n).getD k 0 = z at c1
      go_wp2
      go_roundw
      case rel => exact ⟨k + 1, by omega, by go_num, R1, R2⟩
      case measure => simp [intOf]; omega
    · obtain rfl : k = n := by omega
      have R1 : Hid (IR wr w.heap.size (List.replicate k (-1))) := by
        have := hI.out
        rw [fillN_all] at this
        exact this
      have R2 : Hid _ := hK.out
      clear hI hK
      go_wp2
      go_ret
      exact ⟨rfl, R1.out, R2.out⟩
theorem BS.setc {w : World} {P : Nat} {u1 u3 : Value} {vs : List Vl} {c : Int} {base : Nat} {R : Option Nat} {vv : Value} (h : BS w P u1 u3 vs c base R vv) (c' : Int) : BS (w.setCell ⟨P, 3, none⟩ (.int .i64 c')) P u1 u3 vs c' base R vv := by
  have hr : vv.ownBlock ≠ some P := by rw [h.row]; exact h.ne
  refine ⟨by simpa using h.lt, fun o => by simp [h.free o], ?_, ?_, ?_, cell_eq _ _ _ _ _ h.c3, own_setCell h.own hr, h.row, h.ne, by simpa using h.sz⟩
  · rw [cell_ne _ _ _ _ _ _ (.inr (by omega))]; exact h.c0
  · rw [cell_ne _ _ _ _ _ _ (.inr (by omega))]; exact h.c1
  · rw [cell_ne _ _ _ _ _ _ (.inr (by omega))]; exact h.c2
theorem BS.drew {w : World} {P : Nat} {u1 u3 : Value} {vs : List Vl} {c : Int} {base : Nat} {R : Option Nat} {vv : Value} (h : BS w P u1 u3 vs c base R vv) : BS w.drew P u1 u3 vs c base R vv :=
  ⟨h.lt, h.free, h.c0, h.c1, h.c2, h.c3, h.own, h.row, h.ne, h.sz⟩
set_option maxRecDepth 100000 in
set_option maxHeartbeats 4000000 in
theorem newBuilder (w : World) (_lo g1 g2 g3 n1 c1 n2 c2 n3 c3 : Nat) (ins : List Int) (vs : List Vl) (outs : List Int) (f : GN w g1 g2 g3 n2 ins vs outs) (e1 : ins.length = n1) (e3 : outs.length = n3) (l1 : n1 ≤ 1000000) (l2 : n2 ≤ 2000) (l3 : n3 ≤ 1000000) (hl : ∀ k, k < n2 → 1 ≤ (vs.getD k Vl.zero).len ∧ (vs.getD k Vl.zero).len ≤ 1000) :
    Calls Try.prog 118 #[gagg (some ⟨g1, 0, none⟩) n1 c1 (some ⟨g2, 0, none⟩) n2 c2 (some ⟨g3, 0, none⟩) n3 c3] w fun e w' => ∃ P G1 d1 G3 d3 R vv, e = .returned (.pointer (some ⟨P, 0, none⟩)) ∧ BS w' P (.slice (some ⟨G1, 0, none⟩) n1 d1) (.slice (some ⟨G3, 0, none⟩) n3 d3) vs (cellsV vs) w.heap.size R vv ∧ OI w' w.heap.size G1 n1 d1 ins ∧ OI w' w.heap.size G3 n3 d3 outs ∧ (w.heap.size ≤ P ∧ G1 ≠ P ∧ G3 ≠ P ∧ G1 ≠ G3 ∧ R ≠ some G1 ∧ R ≠ some G3 ∧ vv ≠ .slice none 0 0) ∧ Kept 0 0 w w' := by
  have k0 := kept_alloc 0 0 w (gbox (some ⟨g1, 0, none⟩) n1 c1 (some ⟨g2, 0, none⟩) n2 c2 (some ⟨g3, 0, none⟩) n3 c3)
  have HB : Hid _ := g0_start w (.slice (some ⟨g1, 0, none⟩) n1 c1) (.slice (some ⟨g2, 0, none⟩) n2 c2) (.slice (some ⟨g3, 0, none⟩) n3 c3)
  have HX : Hid _ := f
  have HL : Hid _ := hl
  have HK : Hid _ := k0
  have HI2 : Hid _ := f.v.keep k0 (.inr (.inr (Nat.le_refl _)))
  have HG : Hid _ := GN.keepJ f k0
  clear f hl k0
  obtain ⟨_, q0, q1, q2⟩ := HB.out
  go_enter Try.func118, Try.ntmps118
  go_wp2_with fail
  clear q0 q1 q2
  generalize w.alloc (gbox (some ⟨g1, 0, none⟩) n1 c1 (some ⟨g2, 0, none⟩) n2 c2 (some ⟨g3, 0, none⟩) n3 c3) = w1 at HB HK HI2 HG ⊢
  refine Calls.mono (copyGraphO w1 _lo g1 g2 g3 n1 c1 n2 c2 n3 c3 ins vs outs HG.out e1 e3 l1 l2 l3) ?_
  rintro e w4 ⟨G1, d1, G2, d2, G3, d3, rfl, o1, o2, o3, hd, kk3⟩
  have k5 := kept_alloc 0 0 w4 (.cells #[.slice (some ⟨G1, 0, none⟩) n1 d1, .slice (some ⟨G2, 0, none⟩) n2 d2, .slice (some ⟨G3, 0, none⟩) n3 d3, .int .i64 0] 173)
  have hz1 : w.heap.size ≤ w1.heap.size := HK.out.size
  have H1 : Hid (OI (w4.alloc (.cells #[.slice (some ⟨G1, 0, none⟩) n1 d1, .slice (some ⟨G2, 0, none⟩) n2 d2, .slice (some ⟨G3, 0, none⟩) n3 d3, .int .i64 0] 173)) w.heap.size G1 n1 d1 ins) := own_keepJ (own_mono o1 hz1) k5
  have H3 : Hid (OI (w4.alloc (.cells #[.slice (some ⟨G1, 0, none⟩) n1 d1, .slice (some ⟨G2, 0, none⟩) n2 d2, .slice (some ⟨G3, 0, none⟩) n3 d3, .int .i64 0] 173)) w.heap.size G3 n3 d3 outs) := own_keepJ (own_mono o3 hz1) k5
  have HBS : Hid (BS (w4.alloc (.cells #[.slice (some ⟨G1, 0, none⟩) n1 d1, .slice (some ⟨G2, 0, none⟩) n2 d2, .slice (some ⟨G3, 0, none⟩) n3 d3, .int .i64 0] 173)) w4.heap.size (.slice (some ⟨G1, 0, none⟩) n1 d1) (.slice (some ⟨G3, 0, none⟩) n3 d3) vs 0 w.heap.size (some G2) (.slice (some ⟨G2, 0, none⟩) n2 d2)) := by
    refine ⟨by simp, fun o => by simp, by simp, by simp, by simp, by simp, ?_, rfl, fun e => by cases e; omega, by simp; omega⟩
    have := own_keepJ (own_mono o2 hz1) k5
    rw [show vs.length = n2 from HX.out.v.len]
    exact this
  have HD : Hid (G1 < G2 ∧ G2 < G3 ∧ G3 < w4.heap.size ∧ w.heap.size ≤ G1) := ⟨by omega, by omega, by omega, by omega⟩
  have HK5 : Hid _ := Kept.trans kk3 k5
  have HV5 : Hid _ := VA.keep HI2.out HK5.out (.inr (.inr (Nat.le_refl _)))
  have HB5 : Hid _ := G0.keep HB.out HK5.out
  have HW5 : Hid (w.heap.size < w4.heap.size ∧ g2 < w4.heap.size) := ⟨by have := (G0.keep HB.out kk3).sz; omega, by have := HX.out.v.lt; omega⟩
  have HLN : Hid (vs.length = n2) := HX.out.v.len
  obtain ⟨_, p0, p1, p2⟩ := HB5.out
  clear o1 o2 o3 hd k5 kk3 hz1 HI2 HB HX HG
  go_wp2_with fail
  clear p0 p1 p2
  generalize w4.alloc (.cells #[.slice (some ⟨G1, 0, none⟩) n1 d1, .slice (some ⟨G2, 0, none⟩) n2 d2, .slice (some ⟨G3, 0, none⟩) n3 d3, .int .i64 0] 173) = w5 at H1 H3 HBS HK5 HV5 HB5 ⊢
  go_loopw [13] (fun x W => ∃ k : Nat, k ≤ n2 ∧ x = .int .i64 k ∧ Hid (BS W w4.heap.size (.slice (some ⟨G1, 0, none⟩) n1 d1) (.slice (some ⟨G3, 0, none⟩) n3 d3) vs (cellsV (vs.take k)) w.heap.size (some G2) (.slice (some ⟨G2, 0, none⟩) n2 d2)) ∧ Hid (Kept w4.heap.size (w4.heap.size + 1) w5 W) ∧ Hid (0 ≤ cellsV (vs.take k) ∧ cellsV (vs.take k) ≤ 1000 * k)) (fun x _ => n2 - (intOf x).toNat)
  case atStart => exact ⟨0, Nat.zero_le _, rfl, HBS, Kept.refl _ _ _, by constructor <;> simp [cellsV]⟩
  case round =>
    obtain ⟨k, hk, rfl, hS, hK, hc⟩ := hrel
    clear HBS
    by_cases hlt : k < n2
    · have hat := (HV5.out.at_ k hlt).keep HV5.out.lt hK.out (.inl HW5.out.2)
      have HST : Hid _ := cellsV_take (vs := vs) (k := k) (by rw [HLN.out]; exact hlt)
      have hlv := HL.out k hlt
      generalize vs.getD k Vl.zero = v at hat HST hlv
      have HLV : Hid _ := hlv
      obtain ⟨y0, y1, y2, y3, y4, y5⟩ := hat
      have ka := kept_alloc 0 0 wr (vbox v.op v.len v.a v.b v.c v.k)
      have hS6 := hS.out.keep ka
      have HS6 : Hid _ := hS6
      have m3 := hS6.c3
      have mf := hS6.free 3
      have mv := (vbox_atJ wr v).c1
      rw [Nat.zero_add] at mv
      have HK6 : Hid _ := Kept.trans hK.out (ka.mono (lo' := w4.heap.size) (hi' := w4.heap.size + 1) fun b _ c => by omega)
      have hb0 := hc.out
      have hwr : IntKind.i64.wrap (cellsV (vs.take k) + v.len) = cellsV (vs.take k) + v.len := by rw [IntKind.wrap_i64]; omega
      have HC2 : Hid (0 ≤ cellsV (vs.take k) + v.len ∧ cellsV (vs.take k) + v.len ≤ 1000 * ((k + 1 : Nat) : Int)) := ⟨by omega, by omega⟩
      clear hS hK hc hS6 ka hlv hb0
      generalize cellsV (vs.take k) = cc at HST HS6 m3 hwr HC2
      go_wp2_with fail
      clear y0 y1 y2 y3 y4 y5
      generalize wr.alloc (vbox v.op v.len v.a v.b v.c v.k) = w6 at HS6 m3 mf mv HK6 ⊢
      go_region_law (fail)
      all_goals
        have R1 : Hid _ := (HS6.out.setc (cc + v.len)).drew
        have R2 : Hid _ := Kept.drew (Kept.trans HK6.out (kept_setCell w6 ⟨w4.heap.size, 3, none⟩ (.int .i64 (cc + v.len)) (.inl ⟨Nat.le_refl _, Nat.lt_succ_self _⟩)))
        clear HS6 HK6 m3 mf mv
        generalize (w6.setCell ⟨w4.heap.size, 3, none⟩ (.int .i64 (cc + v.len))).drew = w7 at R1 R2 ⊢
        go_wp2
        go_roundw
        case rel => exact ⟨k + 1, by omega, by go_num, by rw [HST.out]; exact R1, R2, by rw [HST.out]; exact HC2⟩
        case measure => simp [intOf]; omega
    · obtain rfl : k = n2 := by omega
      have R1 : Hid (BS wr w4.heap.size (.slice (some ⟨G1, 0, none⟩) n1 d1) (.slice (some ⟨G3, 0, none⟩) n3 d3) vs (cellsV vs) w.heap.size (some G2) (.slice (some ⟨G2, 0, none⟩) k d2)) := by
        have := hS.out
        rw [List.take_of_length_le (by rw [HLN.out]; exact Nat.le_refl _)] at this
        exact this
      have R2 : Hid (OI wr w.heap.size G1 n1 d1 ins) := own_keepR H1.out hK.out (fun g hg => by
        have e : g = G1 := by simpa [Value.ownBlock] using hg.symm
        have := HD.out
        omega)
      have R3 : Hid (OI wr w.heap.size G3 n3 d3 outs) := own_keepR H3.out hK.out (fun g hg => by
        have e : g = G3 := by simpa [Value.ownBlock] using hg.symm
        have := HD.out
        omega)
      have R4 : Hid (Kept 0 0 w wr) := Kept.new (Kept.trans HK.out HK5.out) hK.out (by have := HW5.out; omega)
      clear hS hK hc H1 H3
      go_wp2
      go_ret
      exact ⟨w4.heap.size, G1, d1, G3, d3, some G2, _, rfl, R1.out, R2.out, R3.out, ⟨by have := HW5.out; omega, by have := HD.out; omega, by have := HD.out; omega, by have := HD.out; omega, fun e => by cases e; have := HD.out; omega, fun e => by cases e; have := HD.out; omega, fun e => by cases e⟩, R4.out⟩
end Go.Proofs.Ytcphabjekfihnaa

namespace Go.Proofs.Ytcphabjekfihnaa
open Go.RowKit Flt
attribute [local go_sem] alloc_drewN setCell_drewN run_store_float

set_option maxRecDepth 100000 in
set_option maxHeartbeats 2000000 in
theorem keeps_many (w : World) (P : Nat) (u1 u3 : Value) (vs : List Vl) (c : Int) (base : Nat) (R : Option Nat) (g cap : Nat) (h : BS w P u1 u3 vs c base R (.slice (some ⟨g, 0, none⟩) vs.length cap)) (hl : 2000 < vs.length) :
    Calls Try.prog 157 #[.pointer (some ⟨P, 0, none⟩)] w fun e w' => e = .returned (.bool false) ∧ w' = w := by
  have c1 := h.c1
  clear h
  generalize vs.length = n at c1 hl
  have t1 : ¬ ((n : Int) ≤ 2000) := by omega
  go_enter Try.func157, Try.ntmps157
  go_wp2
  go_ret
  exact ⟨rfl, rfl⟩
set_option maxRecDepth 100000 in
set_option maxHeartbeats 2000000 in
theorem keeps_cells (w : World) (P : Nat) (u1 u3 : Value) (vs : List Vl) (c : Int) (base : Nat) (R : Option Nat) (g cap : Nat) (h : BS w P u1 u3 vs c base R (.slice (some ⟨g, 0, none⟩) vs.length cap)) (hl : vs.length ≤ 2000) (hc : 50000 < c) :
    Calls Try.prog 157 #[.pointer (some ⟨P, 0, none⟩)] w fun e w' => e = .returned (.bool false) ∧ w' = w := by
  have c1 := h.c1
  have c3 := h.c3
  clear h
  generalize vs.length = n at c1 hl
  have t1 : (n : Int) ≤ 2000 := by omega
  have t2 : decide (c ≤ 50000) = false := decide_eq_false (by omega)
  go_enter Try.func157, Try.ntmps157
  go_wp2
  go_ret
  exact ⟨rfl, rfl⟩
set_option maxRecDepth 100000 in
set_option maxHeartbeats 2000000 in
theorem keeps_ok (w : World) (P : Nat) (u1 u3 : Value) (vs : List Vl) (c : Int) (base : Nat) (R : Option Nat) (g cap : Nat) (h : BS w P u1 u3 vs c base R (.slice (some ⟨g, 0, none⟩) vs.length cap)) (hl : vs.length ≤ 2000) (hc : c ≤ 50000) :
    Calls Try.prog 157 #[.pointer (some ⟨P, 0, none⟩)] w fun e w' => e = .returned (.bool true) ∧ w' = w := by
  have c1 := h.c1
  have c3 := h.c3
  clear h
  generalize vs.length = n at c1 hl
  have t1 : (n : Int) ≤ 2000 := by omega
  have t2 : decide (c ≤ 50000) = true := decide_eq_true hc
  go_enter Try.func157, Try.ntmps157
  go_wp2
  go_ret
  exact ⟨rfl, rfl⟩
set_option maxRecDepth 100000 in
set_option maxHeartbeats 2000000 in
/-- answer of a builder that breaks the limits. -/
theorem answer_bad (w : World) (P : Nat) (at' : Int) (h : ∀ w', Kept 0 0 w w' → Calls Try.prog 157 #[.pointer (some ⟨P, 0, none⟩)] w' fun e w'' => e = .returned (.bool false) ∧ w'' = w') :
    Calls Try.prog 119 #[.pointer (some ⟨P, 0, none⟩), .int .i64 at'] w fun e w' => e = .returned (.tuple #[gnil, .int .i64 0, .int .i64 5]) ∧ Kept 0 0 w w' := by
  have k1 := kept_alloc 0 0 w nbox
  have HX : Hid _ := h _ k1
  have HK : Hid _ := k1
  clear h k1
  go_enter Try.func119, Try.ntmps119
  go_wp2_with fail
  refine Calls.mono HX.out ?_
  rintro e w2 ⟨rfl, rfl⟩
  go_wp2_with fail
  refine bodyPost_ret (v := .tuple #[gnil, .int .i64 0, .int .i64 5]) (by simp [results, Try.results119, go_sem]) rfl ⟨rfl, HK.out⟩
theorem BS.keepK {w w' : World} {P : Nat} {u1 u3 : Value} {vs : List Vl} {c : Int} {base : Nat} {R : Option Nat} {vv : Value} (h : BS w P u1 u3 vs c base R vv) (k : Kept 0 0 w w') : BS w' P u1 u3 vs c base R vv := h.keep k
theorem answer_many (w : World) (P : Nat) (u1 u3 : Value) (vs : List Vl) (c : Int) (base : Nat) (R : Option Nat) (g cap : Nat) (at' : Int) (h : BS w P u1 u3 vs c base R (.slice (some ⟨g, 0, none⟩) vs.length cap)) (hl : 2000 < vs.length) :
    Calls Try.prog 119 #[.pointer (some ⟨P, 0, none⟩), .int .i64 at'] w fun e w' => e = .returned (.tuple #[gnil, .int .i64 0, .int .i64 5]) ∧ Kept 0 0 w w' :=
  answer_bad w P at' fun w' k => keeps_many w' P u1 u3 vs c base R g cap (h.keepK k) hl
theorem answer_cells (w : World) (P : Nat) (u1 u3 : Value) (vs : List Vl) (c : Int) (base : Nat) (R : Option Nat) (g cap : Nat) (at' : Int) (h : BS w P u1 u3 vs c base R (.slice (some ⟨g, 0, none⟩) vs.length cap)) (hl : vs.length ≤ 2000) (hc : 50000 < c) :
    Calls Try.prog 119 #[.pointer (some ⟨P, 0, none⟩), .int .i64 at'] w fun e w' => e = .returned (.tuple #[gnil, .int .i64 0, .int .i64 5]) ∧ Kept 0 0 w w' :=
  answer_bad w P at' fun w' k => keeps_cells w' P u1 u3 vs c base R g cap (h.keepK k) hl hc
set_option maxRecDepth 100000 in
set_option maxHeartbeats 2000000 in
theorem answer_ok (w : World) (P : Nat) (b1 b3 : Option Addr) (m1 e1 m3 e3 : Nat) (vs : List Vl) (c : Int) (base : Nat) (R : Option Nat) (g cap : Nat) (at' : Int) (h : BS w P (.slice b1 m1 e1) (.slice b3 m3 e3) vs c base R (.slice (some ⟨g, 0, none⟩) vs.length cap)) (hl : vs.length ≤ 2000) (hc : c ≤ 50000) :
    Calls Try.prog 119 #[.pointer (some ⟨P, 0, none⟩), .int .i64 at'] w fun e w' => e = .returned (.tuple #[.agg #[.slice b1 m1 e1, .slice (some ⟨g, 0, none⟩) vs.length cap, .slice b3 m3 e3], .int .i64 at', .int .i64 0]) ∧ Kept 0 0 w w' := by
  have k1 := kept_alloc 0 0 w nbox
  have HX : Hid _ := keeps_ok _ P _ _ vs c base R g cap (h.keepK k1) hl hc
  have c0 := kcell k1 h.lt h.c0
  have c1 := kcell k1 h.lt h.c1
  have c2 := kcell k1 h.lt h.c2
  have c3 := kcell k1 h.lt h.c3
  have hP : P ≠ w.heap.size := by have := h.lt; omega
  clear h k1
  generalize vs.length = n at c1 hl ⊢
  go_enter Try.func119, Try.ntmps119
  go_wp2_with fail
  refine Calls.mono HX.out ?_
  rintro e w2 ⟨rfl, rfl⟩
  clear HX
  go_wp2_with fail
  refine bodyPost_ret (v := .tuple #[.agg #[.slice b1 m1 e1, .slice (some ⟨g, 0, none⟩) n cap, .slice b3 m3 e3], .int .i64 at', .int .i64 0]) (by simp [results, Try.results119, go_sem]) rfl ⟨rfl, ?_⟩
  exact kept_alloc 0 0 w _
end Go.Proofs.Ytcphabjekfihnaa

namespace Go.Proofs.Ytcphabjekfihnaa
open Go.RowKit Flt
attribute [local go_sem] alloc_drewN setCell_drewN run_store_float

/-! What Jvp puts behind. -/
def jmv (vs0 : List Vl) (i : Nat) (st : List Vl × List Int) : List Vl × Int :=
  mvM (i : Int) (vs0.getD i Vl.zero) (ovs (vs0.getD i Vl.zero) st.2 (cnt (vs0.getD i Vl.zero).op) 0) (ovs (vs0.getD i Vl.zero) st.2 (cnt (vs0.getD i Vl.zero).op) 1) (ovs (vs0.getD i Vl.zero) st.2 (cnt (vs0.getD i Vl.zero).op) 2) st.1.length
/-- The values and the moves behind k steps from x. -/
def jst (vs0 : List Vl) (x t : Nat) : Nat → List Vl × List Int
  | 0 => (vs0, (List.replicate vs0.length (-1)).set x (t : Int))
  | k + 1 => ((jst vs0 x t k).1 ++ (jmv vs0 (x + 1 + k) (jst vs0 x t k)).1, (jst vs0 x t k).2.set (x + 1 + k) (jmv vs0 (x + 1 + k) (jst vs0 x t k)).2)
theorem jst_len (vs0 : List Vl) (x t : Nat) : ∀ k, (jst vs0 x t k).2.length = vs0.length
  | 0 => by simp [jst]
  | k + 1 => by simp [jst, jst_len vs0 x t k]
theorem jst_pre (vs0 : List Vl) (x t : Nat) : ∀ k, ∃ r, (jst vs0 x t k).1 = vs0 ++ r
  | 0 => ⟨[], by simp [jst]⟩
  | k + 1 => by
    obtain ⟨r, h⟩ := jst_pre vs0 x t k
    exact ⟨r ++ (jmv vs0 (x + 1 + k) (jst vs0 x t k)).1, by rw [jst, h, List.append_assoc]⟩
theorem jst_get (vs0 : List Vl) (x t k : Nat) {i : Nat} (hi : i < vs0.length) : (jst vs0 x t k).1.getD i Vl.zero = vs0.getD i Vl.zero := by
  obtain ⟨r, h⟩ := jst_pre vs0 x t k
  rw [h, List.getD_eq_getElem?_getD, List.getElem?_append_left hi, ← List.getD_eq_getElem?_getD]
/-- At most k values of at most 1000 elements. -/
def Sz (k : Nat) (M : List Vl × Int) : Prop := M.1.length ≤ k ∧ 0 ≤ cellsV M.1 ∧ cellsV M.1 ≤ 1000 * (k : Int)
theorem sz_ite {k : Nat} {p : Prop} [Decidable p] {a b : List Vl × Int} (ha : Sz k a) (hb : Sz k b) : Sz k (if p then a else b) := by
  by_cases h : p
  · rw [if_pos h]; exact ha
  · rw [if_neg h]; exact hb
theorem sz_0 {k : Nat} {r : Int} : Sz k ([], r) := by unfold Sz; simp only [cellsV, List.length_nil]; omega
theorem sz_1 {k : Nat} {v : Vl} {r : Int} (hk : 1 ≤ k) (h0 : 0 ≤ v.len) (h1 : v.len ≤ 1000) : Sz k ([v], r) := by unfold Sz; simp only [cellsV, List.length_cons, List.length_nil]; omega
theorem sz_2 {k : Nat} {v u : Vl} {r : Int} (hk : 2 ≤ k) (h0 : 0 ≤ v.len) (h1 : v.len ≤ 1000) (h2 : 0 ≤ u.len) (h3 : u.len ≤ 1000) : Sz k ([v, u], r) := by unfold Sz; simp only [cellsV, List.length_cons, List.length_nil]; omega
theorem sz_3 {k : Nat} {v u y : Vl} {r : Int} (hk : 3 ≤ k) (h0 : 0 ≤ v.len) (h1 : v.len ≤ 1000) (h2 : 0 ≤ u.len) (h3 : u.len ≤ 1000) (h4 : 0 ≤ y.len) (h5 : y.len ≤ 1000) : Sz k ([v, u, y], r) := by unfold Sz; simp only [cellsV, List.length_cons, List.length_nil]; omega
theorem sz_4 {k : Nat} {v u y z : Vl} {r : Int} (hk : 4 ≤ k) (h0 : 0 ≤ v.len) (h1 : v.len ≤ 1000) (h2 : 0 ≤ u.len) (h3 : u.len ≤ 1000) (h4 : 0 ≤ y.len) (h5 : y.len ≤ 1000) (h6 : 0 ≤ z.len) (h7 : z.len ≤ 1000) : Sz k ([v, u, y, z], r) := by unfold Sz; simp only [cellsV, List.length_cons, List.length_nil]; omega
theorem sz_cons {k : Nat} {v : Vl} {M : List Vl × Int} {r : Int} (h : Sz k M) (h0 : 0 ≤ v.len) (h1 : v.len ≤ 1000) : Sz (k + 1) ([v] ++ M.1, r) := by
  unfold Sz at *
  simp only [List.length_append, cellsV_app, cellsV, List.length_cons, List.length_nil]
  omega
theorem ch_sz {n d p q : Int} {N : Nat} (h0 : 0 ≤ n) (h1 : n ≤ 1000) : Sz 3 (chM n d p q N) := by
  unfold chM
  exact sz_ite (sz_ite (sz_3 (by omega) h0 h1 h0 h1 h0 h1) (sz_2 (by omega) h0 h1 h0 h1)) (sz_ite (sz_2 (by omega) h0 h1 h0 h1) (sz_1 (by omega) h0 h1))
theorem sz_mono {k l : Nat} {M : List Vl × Int} (h : Sz k M) (hk : k ≤ l) : Sz l M := by
  unfold Sz at *
  omega
theorem mvM_size (i : Int) (v : Vl) (ta tb tc : Int) (N : Nat) (h0 : 0 ≤ v.len) (h1 : v.len ≤ 1000) : Sz 4 (mvM i v ta tb tc N) := by
  unfold mvM sumM difM mulM divM
  exact sz_ite sz_0 (sz_ite (sz_ite sz_0 (sz_ite sz_0 (sz_1 (by omega) h0 h1))) (sz_ite (sz_ite sz_0 (sz_ite (sz_1 (by omega) h0 h1) (sz_1 (by omega) h0 h1)))
    (sz_ite (sz_ite (sz_ite sz_0 (sz_1 (by omega) h0 h1)) (sz_ite (sz_1 (by omega) h0 h1) (sz_3 (by omega) h0 h1 h0 h1 h0 h1)))
    (sz_ite (sz_ite (sz_ite sz_0 (sz_3 (by omega) h0 h1 h0 h1 h0 h1)) (sz_ite (sz_1 (by omega) h0 h1) (sz_4 (by omega) h0 h1 h0 h1 h0 h1 h0 h1)))
    (sz_ite (sz_cons (ch_sz h0 h1) h0 h1) (sz_ite (sz_ite sz_0 (sz_mono (ch_sz h0 h1) (by omega))) (sz_ite (sz_1 (by omega) h0 h1) (sz_1 (by omega) h0 h1))))))))
theorem jst_size (vs0 : List Vl) (x t : Nat) (hl : ∀ k, k < vs0.length → 1 ≤ (vs0.getD k Vl.zero).len ∧ (vs0.getD k Vl.zero).len ≤ 1000) (hc0 : 0 ≤ cellsV vs0) (hc1 : cellsV vs0 ≤ 50000) : ∀ k, x + k < vs0.length → (jst vs0 x t k).1.length ≤ vs0.length + 4 * k ∧ 0 ≤ cellsV (jst vs0 x t k).1 ∧ cellsV (jst vs0 x t k).1 ≤ 50000 + 4000 * k
  | 0, _ => by simp [jst]; omega
  | k + 1, hk => by
    have ih := jst_size vs0 x t hl hc0 hc1 k (by omega)
    have hv := hl (x + 1 + k) (by omega)
    have hm := mvM_size ((x + 1 + k : Nat) : Int) (vs0.getD (x + 1 + k) Vl.zero) (ovs (vs0.getD (x + 1 + k) Vl.zero) (jst vs0 x t k).2 (cnt (vs0.getD (x + 1 + k) Vl.zero).op) 0) (ovs (vs0.getD (x + 1 + k) Vl.zero) (jst vs0 x t k).2 (cnt (vs0.getD (x + 1 + k) Vl.zero).op) 1) (ovs (vs0.getD (x + 1 + k) Vl.zero) (jst vs0 x t k).2 (cnt (vs0.getD (x + 1 + k) Vl.zero).op) 2) (jst vs0 x t k).1.length (by omega) (by omega)
    rw [jst]
    simp only [List.length_append, cellsV_app]
    unfold jmv
    unfold Sz at hm
    omega
/-- The answer's values and index. -/
def jfin (vs0 : List Vl) (s x t : Nat) : List Vl × Int :=
  if (jst vs0 x t (s - x)).2.getD s 0 = -1 then ((jst vs0 x t (s - x)).1 ++ [vput 1 (vs0.getD s Vl.zero).len 0 0 0], ((jst vs0 x t (s - x)).1.length : Nat)) else ((jst vs0 x t (s - x)).1, (jst vs0 x t (s - x)).2.getD s 0)
end Go.Proofs.Ytcphabjekfihnaa

namespace Go.Proofs.Ytcphabjekfihnaa
open Go.RowKit Flt
attribute [local go_sem] alloc_drewN setCell_drewN run_store_float

set_option maxRecDepth 100000 in
set_option maxHeartbeats 2000000 in
theorem implJvp_inv (w : World) (a1 a2 a3 : Option Addr) (n1 c1 n2 c2 n3 c3 : Nat) (s x t : Int) (ins : List Int) (vs : List Vl) (outs : List Int) (f : GS w a1 n1 a2 n2 a3 n3 ins vs outs) (h : okG ins vs outs = false) :
    Calls Try.prog 49 #[gagg a1 n1 c1 a2 n2 c2 a3 n3 c3, .int .i64 s, .int .i64 x, .int .i64 t] w fun e w' => e = .returned (.tuple #[gnil, .int .i64 0, .int .i64 1]) ∧ Kept 0 0 w w' := by
  have hK := (kept_alloc 0 0 w (gbox a1 n1 c1 a2 n2 c2 a3 n3 c3)).trans (kept_alloc 0 0 _ nbox)
  have HX : Hid _ := implValid _ a1 a2 a3 n1 c1 n2 c2 n3 c3 ins vs outs (f.keep hK)
  rw [h] at HX
  have HK : Hid _ := hK
  have hN := rb_start (w.alloc (gbox a1 n1 c1 a2 n2 c2 a3 n3 c3))
  rw [show (w.alloc (gbox a1 n1 c1 a2 n2 c2 a3 n3 c3)).heap.size = w.heap.size + 1 by simp] at hN
  have HN : Hid _ := hN
  clear hK h f hN
  go_enter Try.func49, Try.ntmps49
  go_wp2_with fail
  refine Calls.mono HX.out ?_
  rintro e w2 ⟨rfl, k2⟩
  obtain ⟨_, q0, q1, q2, f0, f1, f2⟩ := RB.keep HN.out k2
  obtain ⟨y0, y1, y2⟩ := put3_0 w2 (w.heap.size + 1) _ _ _ q0 q1 q2 (.slice none 0 0) (.slice none 0 0) (.slice none 0 0)
  have R : Hid (Kept 0 0 w _) := Kept.new (Kept.trans HK.out k2) (put3_kept w2 (w.heap.size + 1) (.slice none 0 0) (.slice none 0 0) (.slice none 0 0)) (by omega)
  clear k2 HX HN HK
  go_wp2_with fail
  refine bodyPost_ret (v := .tuple #[gnil, .int .i64 0, .int .i64 1]) (by simp [results, Try.results49, go_sem, y0, y1, y2]) rfl ⟨rfl, R.out⟩
theorem list3 (w : World) (s x t : Int) : ∀ k, k < 3 → (w.alloc (.cells #[.int .i64 s, .int .i64 x, .int .i64 t] 3)).cell? ⟨w.heap.size, k, none⟩ = some (.int .i64 ([s, x, t].getD k 0)) := fun k hk => by
  rcases (by omega : k = 0 ∨ k = 1 ∨ k = 2) with rfl | rfl | rfl <;> simp

set_option maxRecDepth 100000 in
set_option maxHeartbeats 2000000 in
theorem implJvp_idx (w : World) (a1 a2 a3 : Option Addr) (n1 c1 n2 c2 n3 c3 : Nat) (s x t : Int) (ins : List Int) (vs : List Vl) (outs : List Int) (f : GS w a1 n1 a2 n2 a3 n3 ins vs outs) (h : okG ins vs outs = true) (h2 : ([s, x, t].all (idxB · n2)) = false) :
    Calls Try.prog 49 #[gagg a1 n1 c1 a2 n2 c2 a3 n3 c3, .int .i64 s, .int .i64 x, .int .i64 t] w fun e w' => e = .returned (.tuple #[gnil, .int .i64 0, .int .i64 1]) ∧ Kept 0 0 w w' := by
  have hK := (kept_alloc 0 0 w (gbox a1 n1 c1 a2 n2 c2 a3 n3 c3)).trans (kept_alloc 0 0 _ nbox)
  have HX : Hid _ := implValid _ a1 a2 a3 n1 c1 n2 c2 n3 c3 ins vs outs (f.keep hK)
  rw [h] at HX
  have HK : Hid _ := hK
  have hN := rb_start (w.alloc (gbox a1 n1 c1 a2 n2 c2 a3 n3 c3))
  rw [show (w.alloc (gbox a1 n1 c1 a2 n2 c2 a3 n3 c3)).heap.size = w.heap.size + 1 by simp] at hN
  have HN : Hid _ := hN
  have HB : Hid _ := (g0_start w (.slice a1 n1 c1) (.slice a2 n2 c2) (.slice a3 n3 c3)).keep (kept_alloc 0 0 _ nbox)
  have HI : Hid (∀ w2 : World, _) := fun w2 => allIdx (w2.alloc (.cells #[.int .i64 s, .int .i64 x, .int .i64 t] 3)) w2.heap.size 3 3 (n2 : Int) [s, x, t] rfl (by omega) (list3 w2 s x t)
  rw [h2] at HI
  clear hK h f hN h2
  go_enter Try.func49, Try.ntmps49
  go_wp2_with fail
  refine Calls.mono HX.out ?_
  rintro e w2 ⟨rfl, k2⟩
  obtain ⟨_, p0, p1, p2⟩ := G0.keep HB.out k2
  go_wp2_with fail
  refine Calls.mono (HI.out w2) ?_
  rintro e w3 ⟨rfl, rfl⟩
  have k3 := kept_alloc 0 0 w2 (.cells #[.int .i64 s, .int .i64 x, .int .i64 t] 3)
  obtain ⟨_, q0, q1, q2, f0, f1, f2⟩ := RB.keep HN.out (k2.trans k3)
  have HKK : Hid _ := Kept.trans HK.out (k2.trans k3)
  clear k2 k3 HX HN HK HB HI p0 p1 p2
  generalize w2.alloc (.cells #[.int .i64 s, .int .i64 x, .int .i64 t] 3) = w4 at q0 q1 q2 f0 f1 f2 HKK ⊢
  obtain ⟨y0, y1, y2⟩ := put3_0 w4 (w.heap.size + 1) _ _ _ q0 q1 q2 (.slice none 0 0) (.slice none 0 0) (.slice none 0 0)
  have R : Hid (Kept 0 0 w _) := Kept.new HKK.out (put3_kept w4 (w.heap.size + 1) (.slice none 0 0) (.slice none 0 0) (.slice none 0 0)) (by omega)
  go_wp2_with fail
  refine bodyPost_ret (v := .tuple #[gnil, .int .i64 0, .int .i64 1]) (by simp [results, Try.results49, go_sem, y0, y1, y2]) rfl ⟨rfl, R.out⟩

set_option maxRecDepth 100000 in
set_option maxHeartbeats 2000000 in
theorem implJvp_shape (w : World) (a1 a2 a3 : Option Addr) (n1 c1 n2 c2 n3 c3 : Nat) (s x t : Nat) (ins : List Int) (vs : List Vl) (outs : List Int) (f : GS w a1 n1 a2 n2 a3 n3 ins vs outs) (h : okG ins vs outs = true) (hs : s < n2) (hx : x < n2) (ht : t < n2) (h3 : (vs.getD t Vl.zero).len ≠ (vs.getD x Vl.zero).len) :
    Calls Try.prog 49 #[gagg a1 n1 c1 a2 n2 c2 a3 n3 c3, .int .i64 (s : Int), .int .i64 (x : Int), .int .i64 (t : Int)] w fun e w' => e = .returned (.tuple #[gnil, .int .i64 0, .int .i64 4]) ∧ Kept 0 0 w w' := by
  have hK := (kept_alloc 0 0 w (gbox a1 n1 c1 a2 n2 c2 a3 n3 c3)).trans (kept_alloc 0 0 _ nbox)
  have HX : Hid _ := implValid _ a1 a2 a3 n1 c1 n2 c2 n3 c3 ins vs outs (f.keep hK)
  rw [h] at HX
  have HK : Hid _ := hK
  have hN := rb_start (w.alloc (gbox a1 n1 c1 a2 n2 c2 a3 n3 c3))
  rw [show (w.alloc (gbox a1 n1 c1 a2 n2 c2 a3 n3 c3)).heap.size = w.heap.size + 1 by simp] at hN
  have HN : Hid _ := hN
  have HB : Hid _ := (g0_start w (.slice a1 n1 c1) (.slice a2 n2 c2) (.slice a3 n3 c3)).keep (kept_alloc 0 0 _ nbox)
  have HI : Hid (∀ w2 : World, _) := fun w2 => allIdx (w2.alloc (.cells #[.int .i64 (s : Int), .int .i64 (x : Int), .int .i64 (t : Int)] 3)) w2.heap.size 3 3 (n2 : Int) [(s : Int), (x : Int), (t : Int)] rfl (by omega) (list3 w2 s x t)
  rw [show ([(s : Int), (x : Int), (t : Int)].all (idxB · (n2 : Int))) = true by simp [idxB]; omega] at HI
  have HF : Hid _ := f.keep hK
  have t3 : ((vs.getD t Vl.zero).len != (vs.getD x Vl.zero).len) = true := by simpa using h3
  clear hK h f hN h3
  go_enter Try.func49, Try.ntmps49
  go_wp2_with fail
  refine Calls.mono HX.out ?_
  rintro e w2 ⟨rfl, k2⟩
  obtain ⟨_, p0, p1, p2⟩ := G0.keep HB.out k2
  go_wp2_with fail
  clear p0 p1 p2
  refine Calls.mono (HI.out w2) ?_
  rintro e w3 ⟨rfl, rfl⟩
  have k3 := kept_alloc 0 0 w2 (.cells #[.int .i64 (s : Int), .int .i64 (x : Int), .int .i64 (t : Int)] 3)
  have HN4 : Hid _ := RB.keep HN.out (k2.trans k3)
  have HKK : Hid _ := Kept.trans HK.out (k2.trans k3)
  have HF4 : Hid _ := GS.keep HF.out (k2.trans k3)
  have HB4 : Hid _ := G0.keep HB.out (k2.trans k3)
  clear k2 k3 HX HN HK HB HI HF
  generalize w2.alloc (.cells #[.int .i64 (s : Int), .int .i64 (x : Int), .int .i64 (t : Int)] 3) = w4 at HN4 HKK HF4 HB4 ⊢
  obtain ⟨_, p0, p1, p2⟩ := HB4.out
  rcases HF4.out.v.at_ with z0 | ⟨ga, oa, ea, z1, z2, z3, z4⟩
  · omega
  have ct := (z4 t ht).c1
  have cx := (z4 x hx).c1
  generalize (vs.getD t Vl.zero).len = lt at ct t3
  generalize (vs.getD x Vl.zero).len = lx at cx t3
  subst ea
  clear z1 z2 z3 z4
  have j0 : (0 : Int) ≤ (t : Int) := by omega
  have j1 : (t : Int) < (n2 : Int) := by omega
  have j2 : (0 : Int) ≤ (x : Int) := by omega
  have j3 : (x : Int) < (n2 : Int) := by omega
  go_wp2_with fail
  go_quiet (fail)
  have kq := kept_drewN 0 0 w4 nq
  have HN5 : Hid _ := RB.keep HN4.out kq
  have HK5 : Hid _ := Kept.trans HKK.out kq
  clear kq HN4 HKK HF4 HB4 p0 p1 p2 ct cx
  generalize w4.drewN nq = w5 at HN5 HK5 ⊢
  obtain ⟨_, q0, q1, q2, f0, f1, f2⟩ := HN5.out
  obtain ⟨y0, y1, y2⟩ := put3_0 w5 (w.heap.size + 1) _ _ _ q0 q1 q2 (.slice none 0 0) (.slice none 0 0) (.slice none 0 0)
  have R : Hid (Kept 0 0 w _) := Kept.new HK5.out (put3_kept w5 (w.heap.size + 1) (.slice none 0 0) (.slice none 0 0) (.slice none 0 0)) (by omega)
  go_wp2_with fail
  refine bodyPost_ret (v := .tuple #[gnil, .int .i64 0, .int .i64 4]) (by simp [results, Try.results49, go_sem, y0, y1, y2]) rfl ⟨rfl, R.out⟩
end Go.Proofs.Ytcphabjekfihnaa

namespace Go.Proofs.Ytcphabjekfihnaa
open Go.RowKit Flt
attribute [local go_sem] alloc_drewN setCell_drewN run_store_float

theorem BS.other {w : World} {P B o : Nat} {u1 u3 u : Value} {vs : List Vl} {c : Int} {base : Nat} {R : Option Nat} {vv : Value} (h : BS w P u1 u3 vs c base R vv) (hP : B ≠ P) (hR : R ≠ some B) : BS (w.setCell ⟨B, o, none⟩ u) P u1 u3 vs c base R vv :=
  ⟨by simpa using h.lt, fun o => by simp [h.free o], by rw [cell_ne _ _ _ _ _ _ (.inl hP)]; exact h.c0, by rw [cell_ne _ _ _ _ _ _ (.inl hP)]; exact h.c1, by rw [cell_ne _ _ _ _ _ _ (.inl hP)]; exact h.c2, by rw [cell_ne _ _ _ _ _ _ (.inl hP)]; exact h.c3, own_setCell h.own (by rw [h.row]; exact hR), h.row, h.ne, by simpa using h.sz⟩
theorem IR.stp {w w' : World} {P B : Nat} {R R' : Option Nat} {xs : List Int} (h : IR w B xs) (s : Stp P R w R' w') (hP : B ≠ P) (hR : R ≠ some B) : IR w' B xs := by
  unfold IR
  rw [s.chg.block B h.lt (by rintro (c | c); exact hP c; exact hR c)]
  exact h
theorem own_stp {base e size n P : Nat} {R R' : Option Nat} {v : Value} {xs : List Value} {W W' : World} (o : W.ownsRow base e size v n xs) (s : Stp P R W R' W') (hP : v.ownBlock ≠ some P) (hR : ∀ g, v.ownBlock = some g → R ≠ some g) : W'.ownsRow base e size v n xs := by
  refine ⟨o.1, o.2.imp id ?_⟩
  rintro ⟨g, cap, cur, e1, b1, b2, b3⟩
  refine ⟨g, cap, cur, e1, b1, ?_, b3⟩
  have hg : g < W.heap.size := by
    rcases Nat.lt_or_ge g W.heap.size with c | c
    · exact c
    · rw [Array.getElem?_eq_none c] at b2; cases b2
  have hb : v.ownBlock = some g := by rw [e1]; rfl
  rw [s.chg.block g hg (by rintro (c | c); exact hP (by rw [hb, c]); exact hR g hb c)]
  exact b2

/-- What Jvp holds in its loop: the builder at P, the moves at Mb, the copies of Ins and Outs. -/
structure JS (W wB : World) (P Mb G1 d1 n1 G3 d3 n3 base : Nat) (ins outs : List Int) (vs : List Vl) (mv : List Int) (R : Option Nat) (vv : Value) : Prop where
  b : BS W P (.slice (some ⟨G1, 0, none⟩) n1 d1) (.slice (some ⟨G3, 0, none⟩) n3 d3) vs (cellsV vs) base R vv
  m : IR W Mb mv
  i : OI W base G1 n1 d1 ins
  o : OI W base G3 n3 d3 outs
  k : Kept 0 0 wB W
  dP : wB.heap.size ≤ P
  dM : wB.heap.size ≤ Mb
  dB : wB.heap.size ≤ base
  ne1 : Mb ≠ P
  ne2 : G1 ≠ P
  ne3 : G3 ≠ P
  ne4 : G1 ≠ Mb
  ne5 : G3 ≠ Mb
  r1 : R ≠ some Mb
  r2 : R ≠ some G1
  r3 : R ≠ some G3
theorem JS.put {W wB : World} {P Mb G1 d1 n1 G3 d3 n3 base : Nat} {ins outs : List Int} {vs : List Vl} {mv : List Int} {R : Option Nat} {vv : Value} (h : JS W wB P Mb G1 d1 n1 G3 d3 n3 base ins outs vs mv R vv) (j : Nat) (r : Int) : JS (W.setCell ⟨Mb, j, none⟩ (.int .i64 r)) wB P Mb G1 d1 n1 G3 d3 n3 base ins outs vs (mv.set j r) R vv where
  b := h.b.other h.ne1 h.r1
  m := h.m.set j r
  i := own_setCell h.i (fun e => h.ne4 (by simpa [Value.ownBlock] using e))
  o := own_setCell h.o (fun e => h.ne5 (by simpa [Value.ownBlock] using e))
  k := kept_put wB W h.k Mb j _ h.dM
  dP := h.dP
  dM := h.dM
  dB := h.dB
  ne1 := h.ne1
  ne2 := h.ne2
  ne3 := h.ne3
  ne4 := h.ne4
  ne5 := h.ne5
  r1 := h.r1
  r2 := h.r2
  r3 := h.r3
theorem JS.step {W W' wB : World} {P Mb G1 d1 n1 G3 d3 n3 base : Nat} {ins outs : List Int} {vs a : List Vl} {mv : List Int} {R R' : Option Nat} {vv vv' : Value} (h : JS W wB P Mb G1 d1 n1 G3 d3 n3 base ins outs vs mv R vv)
    (hb : BS W' P (.slice (some ⟨G1, 0, none⟩) n1 d1) (.slice (some ⟨G3, 0, none⟩) n3 d3) (vs ++ a) (cellsV vs + cellsV a) base R' vv') (s : Stp P R W R' W') : JS W' wB P Mb G1 d1 n1 G3 d3 n3 base ins outs (vs ++ a) mv R' vv' := by
  have l1 : G1 < W.heap.size := (own_blkV h.i (k := G1) rfl).2
  have l3 : G3 < W.heap.size := (own_blkV h.o (k := G3) rfl).2
  have lM := h.m.lt
  have far : ∀ B, B < W.heap.size → R ≠ some B → R' ≠ some B := fun B hB hR e => by
    rcases s.row with q | ⟨r, q, hr⟩
    · exact hR (by rw [← q]; exact e)
    · rw [q] at e
      cases e
      omega
  exact {
    b := by rw [cellsV_app]; exact hb
    m := h.m.stp s h.ne1 h.r1
    i := own_stp h.i s (fun e => h.ne2 (by simpa [Value.ownBlock] using e)) (fun g hg => by
      have e : G1 = g := by simpa [Value.ownBlock] using hg
      subst e
      exact h.r2)
    o := own_stp h.o s (fun e => h.ne3 (by simpa [Value.ownBlock] using e)) (fun g hg => by
      have e : G3 = g := by simpa [Value.ownBlock] using hg
      subst e
      exact h.r3)
    k := Chg.kept h.k s.chg (by
      rintro i (c | c)
      · rw [c]; exact h.dP
      · have := (own_blkV h.b.own (h.b.row.trans c)).1
        have := h.dB
        omega)
    dP := h.dP
    dM := h.dM
    dB := h.dB
    ne1 := h.ne1
    ne2 := h.ne2
    ne3 := h.ne3
    ne4 := h.ne4
    ne5 := h.ne5
    r1 := far Mb lM h.r1
    r2 := far G1 l1 h.r2
    r3 := far G3 l3 h.r3 }
end Go.Proofs.Ytcphabjekfihnaa

namespace Go.Proofs.Ytcphabjekfihnaa
open Go.RowKit Flt
attribute [local go_sem] alloc_drewN setCell_drewN run_store_float

theorem cells_pos : ∀ (vs : List Vl), (∀ j, j < vs.length → 0 ≤ (vs.getD j Vl.zero).len) → 0 ≤ cellsV vs
  | [], _ => by simp [cellsV]
  | v :: r, h => by
    have h0 := h 0 (by simp)
    have h1 := cells_pos r (fun j hj => h (j + 1) (by simp; omega))
    have e : (v :: r).getD 0 Vl.zero = v := rfl
    rw [e] at h0
    simp only [cellsV]
    omega
theorem ok_opsJ {ins : List Int} {vs : List Vl} {k : Nat} (ok : okV ins vs k = true) : ∀ q, q < cnt (vs.getD k Vl.zero).op → 0 ≤ fld (vs.getD k Vl.zero) q ∧ fld (vs.getD k Vl.zero) q < k := fun q hq => by
  by_cases h0 : (vs.getD k Vl.zero).op = 0
  · rw [h0, show cnt 0 = 0 from rfl] at hq
    omega
  · unfold okV at ok
    rw [if_neg h0] at ok
    simp only [Bool.and_eq_true] at ok
    have h := List.all_eq_true.1 ok.2.1 ((opsOf (vs.getD k Vl.zero)).getD q 0) (getD_memJ (by rw [opsOf_len]; exact hq))
    have h2 := of_decide_eq_true h
    rw [opsOf_atJ _ hq, ← fld_atJ _ (by have := cnt_le (vs.getD k Vl.zero).op; omega)] at h2
    exact h2
/-- One round of Jvp's loop. -/
theorem jvp_round {W wB : World} {P Mb G1 d1 n1 G3 d3 n3 base : Nat} {ins outs : List Int} {vs : List Vl} {x t k n2 : Nat} {R : Option Nat} {vv : Value} (hJ : JS W wB P Mb G1 d1 n1 G3 d3 n3 base ins outs (jst vs x t k).1 (jst vs x t k).2 R vv)
    (hn : vs.length = n2) (l2 : n2 ≤ 2000) (hk : x + 1 + k < n2) (hok : (List.range n2).all (okV ins vs) = true) (hc : cellsV vs ≤ 50000) :
    Calls Try.prog 159 #[.pointer (some ⟨P, 0, none⟩), .int .i64 ((x + 1 + k : Nat) : Int), .slice (some ⟨Mb, 0, none⟩) n2 n2] W fun e w' => ∃ r, e = .returned (.int .i64 r) ∧ Hid (∃ R' vv', JS (w'.setCell ⟨Mb, x + 1 + k, none⟩ (.int .i64 r)) wB P Mb G1 d1 n1 G3 d3 n3 base ins outs (jst vs x t (k + 1)).1 (jst vs x t (k + 1)).2 R' vv') ∧ (∃ u, w'.cell? ⟨Mb, x + 1 + k, none⟩ = some u) ∧ w'.frozen? ⟨Mb, x + 1 + k, none⟩ = false := by
  have hl : ∀ j, j < vs.length → 1 ≤ (vs.getD j Vl.zero).len ∧ (vs.getD j Vl.zero).len ≤ 1000 := fun j hj => okV_len (List.all_eq_true.1 hok j (List.mem_range.2 (by omega)))
  have hc0 : 0 ≤ cellsV vs := cells_pos vs (fun j hj => by have := hl j hj; omega)
  obtain ⟨z1, z2, z3⟩ := jst_size vs x t hl hc0 hc k (by omega)
  have hlen := jst_len vs x t k
  have hv := hl (x + 1 + k) (by omega)
  have hlen1 : vs.length ≤ (jst vs x t k).1.length := by
    obtain ⟨r, h⟩ := jst_pre vs x t k
    rw [h, List.length_append]
    omega
  refine (moveOf W P _ _ (jst vs x t k).1 (cellsV (jst vs x t k).1) base R vv (x + 1 + k) Mb n2 n2 (jst vs x t k).2 (vs.getD (x + 1 + k) Vl.zero) hJ.b (by omega) (jst_get vs x t k (by omega)) ⟨by omega, by omega, by omega, by omega, by omega⟩ hJ.m (by omega) (fun q hq => by
    have := ok_opsJ (List.all_eq_true.1 hok (x + 1 + k) (List.mem_range.2 hk)) q hq
    omega)).mono ?_
  rintro e w' ⟨rfl, R', vv', hb, hs⟩
  have h2 := hJ.step hb hs
  exact ⟨_, rfl, ⟨R', vv', h2.put (x + 1 + k) _⟩, ⟨_, h2.m.cell (x + 1 + k) (by omega)⟩, h2.m.free (x + 1 + k)⟩
/-- Whether the limits are broken. -/
def limB (vs : List Vl) : Bool := decide (2000 < vs.length ∨ 50000 < cellsV vs)
/-- What Jvp answers with code 0: a graph in own blocks. -/
def JOut (w w' : World) (n1 n3 : Nat) (ins outs : List Int) (M : List Vl × Int) (e : Ending) : Prop :=
  ∃ G1 d1 G3 d3 gv cap, e = .returned (.tuple #[.agg #[.slice (some ⟨G1, 0, none⟩) n1 d1, .slice (some ⟨gv, 0, none⟩) M.1.length cap, .slice (some ⟨G3, 0, none⟩) n3 d3], .int .i64 M.2, .int .i64 0]) ∧
    OI w' w.heap.size G1 n1 d1 ins ∧ OI w' w.heap.size G3 n3 d3 outs ∧ w'.ownsRow w.heap.size 40 6 (.slice (some ⟨gv, 0, none⟩) M.1.length cap) M.1.length (flat M.1) ∧ G1 ≠ G3 ∧ gv ≠ G1 ∧ gv ≠ G3

theorem answer_lim (W : World) (P : Nat) (u1 u3 : Value) (vs : List Vl) (base : Nat) (R : Option Nat) (g cap : Nat) (at' : Int) (h : BS W P u1 u3 vs (cellsV vs) base R (.slice (some ⟨g, 0, none⟩) vs.length cap)) (hl : limB vs = true) :
    Calls Try.prog 119 #[.pointer (some ⟨P, 0, none⟩), .int .i64 at'] W fun e w' => e = .returned (.tuple #[gnil, .int .i64 0, .int .i64 5]) ∧ Kept 0 0 W w' := by
  have hl' := of_decide_eq_true hl
  by_cases h2 : 2000 < vs.length
  · exact answer_many W P u1 u3 vs _ base R g cap at' h h2
  · exact answer_cells W P u1 u3 vs _ base R g cap at' h (by omega) (by omega)
/-- The end of Jvp: what is answered of the state before answer is called; p is the box of the result. -/
theorem jout {w wB W wA w' : World} {P Mb G1 d1 n1 G3 d3 n3 base gv cap p : Nat} {ins outs : List Int} {vs : List Vl} {mv : List Int} {R : Option Nat} (hJ : JS W wB P Mb G1 d1 n1 G3 d3 n3 base ins outs vs mv R (.slice (some ⟨gv, 0, none⟩) vs.length cap)) (k : Kept 0 0 W wA) (k2 : Kept p (p + 1) wA w') (hp : p < base) (hb : w.heap.size ≤ base) (h13 : G1 ≠ G3) (r : Int) :
    JOut w w' n1 n3 ins outs (vs, r) (.returned (.tuple #[.agg #[.slice (some ⟨G1, 0, none⟩) n1 d1, .slice (some ⟨gv, 0, none⟩) vs.length cap, .slice (some ⟨G3, 0, none⟩) n3 d3], .int .i64 r, .int .i64 0])) := by
  have hR : R = some gv := hJ.b.row.symm
  have key : ∀ {e size n : Nat} {v : Value} {xs : List Value}, W.ownsRow base e size v n xs → w'.ownsRow w.heap.size e size v n xs := fun h =>
    own_mono (own_keepR (own_keepJ h k) k2 (fun g hg => by have := (own_blkV h hg).1; omega)) hb
  exact ⟨G1, d1, G3, d3, gv, cap, rfl, key hJ.i, key hJ.o, key hJ.b.own, h13, fun e => hJ.r2 (by rw [hR, e]), fun e => hJ.r3 (by rw [hR, e])⟩

theorem JS.keepJ {W W' wB : World} {P Mb G1 d1 n1 G3 d3 n3 base : Nat} {ins outs : List Int} {vs : List Vl} {mv : List Int} {R : Option Nat} {vv : Value} (h : JS W wB P Mb G1 d1 n1 G3 d3 n3 base ins outs vs mv R vv) (k : Kept 0 0 W W') : JS W' wB P Mb G1 d1 n1 G3 d3 n3 base ins outs vs mv R vv where
  b := h.b.keep k
  m := h.m.keep k (.inr (.inr (Nat.le_refl _)))
  i := own_keepJ h.i k
  o := own_keepJ h.o k
  k := h.k.trans k
  dP := h.dP
  dM := h.dM
  dB := h.dB
  ne1 := h.ne1
  ne2 := h.ne2
  ne3 := h.ne3
  ne4 := h.ne4
  ne5 := h.ne5
  r1 := h.r1
  r2 := h.r2
  r3 := h.r3
set_option maxRecDepth 100000 in
set_option maxHeartbeats 2000000 in
theorem lengthJ (w : World) (P : Nat) (u1 u3 : Value) (vs : List Vl) (c : Int) (base : Nat) (R : Option Nat) (vv : Value) (i : Nat) (h : BS w P u1 u3 vs c base R vv) (hi : i < vs.length) :
    Calls Try.prog 161 #[.pointer (some ⟨P, 0, none⟩), .int .i64 (i : Int)] w fun e w' => e = .returned (.int .i64 (vs.getD i Vl.zero).len) ∧ Drawn w w' := by
  obtain ⟨g, cap, rfl, hg, hA⟩ := h.read (by omega)
  have z1 := h.c1
  have c1 := (hA i hi).c1
  generalize (vs.getD i Vl.zero).len = ln at c1 ⊢
  generalize vs.length = n at z1 hi
  clear h hA
  have j0 : (0 : Int) ≤ (i : Int) := by omega
  have j1 : (i : Int) < (n : Int) := by omega
  go_enter Try.func161, Try.ntmps161
  go_wp2
  go_ret
  exact ⟨rfl, Drawn.refl _⟩

/-- What putDerivative leaves: the state with what it put behind, and the index. -/
def PD (wB : World) (P G1 d1 n1 G3 d3 n3 base : Nat) (ins outs : List Int) (M : List Vl × Int) (e : Ending) (w' : World) : Prop :=
  e = .returned (.int .i64 M.2) ∧ ∃ Mb mv R gv cap, JS w' wB P Mb G1 d1 n1 G3 d3 n3 base ins outs M.1 mv R (.slice (some ⟨gv, 0, none⟩) M.1.length cap)
set_option maxRecDepth 100000 in
set_option maxHeartbeats 4000000 in
theorem putDeriv (w6 wB : World) (P G1 d1 n1 G3 d3 n3 base n2 : Nat) (s x t : Nat) (ins : List Int) (vs : List Vl) (outs : List Int) (R : Option Nat) (vv : Value) (hb : BS w6 P (.slice (some ⟨G1, 0, none⟩) n1 d1) (.slice (some ⟨G3, 0, none⟩) n3 d3) vs (cellsV vs) base R vv)
    (hmk : ∀ w7, Kept 0 0 w6 w7 → IR w7 w6.heap.size (List.replicate n2 (-1)) → JS w7 wB P w6.heap.size G1 d1 n1 G3 d3 n3 base ins outs vs (List.replicate n2 (-1)) R vv)
    (hn : vs.length = n2) (l2 : n2 ≤ 2000) (hok : (List.range n2).all (okV ins vs) = true) (hc5 : cellsV vs ≤ 50000) (hs : s < n2) (hx : x < n2) :
    Calls Try.prog 120 #[.pointer (some ⟨P, 0, none⟩), .int .i64 (s : Int), .int .i64 (x : Int), .int .i64 (t : Int)] w6 fun e w' => PD wB P G1 d1 n1 G3 d3 n3 base ins outs (jfin vs s x t) e w' := by
  have HOK : Hid _ := hok
  have HC5 : Hid _ := hc5
  have HLN : Hid (vs.length = n2) := hn
  have HMK : Hid _ := hmk
  obtain ⟨gv0, cap0, rfl, _, _⟩ := hb.read (by omega)
  have z1 := hb.c1
  rw [hn] at z1
  have HND : Hid _ := nones w6 n2 (by omega)
  clear hok hc5 hn hmk hb
  go_enter Try.func120, Try.ntmps120
  go_wp2_with fail
  clear z1
  refine Calls.mono HND.out ?_
  rintro e w7 ⟨rfl, hM, k7⟩
  have cM := hM.cell x (by simp; omega)
  have fM := hM.free x
  have HJ : Hid _ := HMK.out w7 k7 hM
  have HJ0 : Hid (∃ R vv, JS (w7.setCell ⟨w6.heap.size, x, none⟩ (.int .i64 (t : Int))) wB P w6.heap.size G1 d1 n1 G3 d3 n3 base ins outs (jst vs x t 0).1 (jst vs x t 0).2 R vv) := ⟨R, _, by
    have := HJ.out.put x (t : Int)
    unfold jst
    rw [HLN.out]
    exact this⟩
  clear hM k7 HJ HMK HND
  generalize (List.replicate n2 (-1 : Int)).getD x 0 = z at cM
  have j2 : (0 : Int) ≤ (x : Int) := by omega
  have j3 : (x : Int) < (n2 : Int) := by omega
  go_wp2_with fail
  clear cM fM
  go_loopw [10] (fun v W => ∃ k : Nat, k ≤ s - x ∧ v = .int .i64 ((x + 1 + k : Nat) : Int) ∧ Hid (∃ R vv, JS W wB P w6.heap.size G1 d1 n1 G3 d3 n3 base ins outs (jst vs x t k).1 (jst vs x t k).2 R vv)) (fun v _ => s + 1 - (intOf v).toNat)
  case atStart => exact ⟨0, Nat.zero_le _, by simp, HJ0⟩
  case round =>
    obtain ⟨k, hk, rfl, hJ⟩ := hrel
    clear HJ0
    by_cases hlt : k < s - x
    · obtain ⟨R, vv, hJ⟩ := hJ.out
      have HX : Hid _ := jvp_round hJ HLN.out l2 (by omega) HOK.out HC5.out
      have hle : ((x + 1 + k : Nat) : Int) ≤ (s : Int) := by omega
      have hin : x + 1 + k < n2 := by omega
      have hsx : x + 1 + k ≤ s := by omega
      clear hJ
      generalize hi : x + 1 + k = i at HX hle hin hsx
      go_wp2_with fail
      refine Calls.mono HX.out ?_
      rintro e w9 ⟨r, rfl, R1, ⟨u, hu⟩, fu⟩
      clear HX
      go_wp2
      go_roundw
      case rel => exact ⟨k + 1, by omega, by rw [← hi]; go_num, R1⟩
      case measure => simp [intOf]; omega
    · obtain rfl : k = s - x := by omega
      obtain ⟨R, vv, hJ⟩ := hJ.out
      have hlen := jst_len vs x t (s - x)
      have cs := hJ.m.cell s (by rw [hlen, HLN.out]; exact hs)
      have hne : ¬ (((x + 1 + (s - x) : Nat) : Int) ≤ (s : Int)) := by omega
      have hpre : vs.length ≤ (jst vs x t (s - x)).1.length := by
        obtain ⟨r, h⟩ := jst_pre vs x t (s - x)
        rw [h, List.length_append]
        omega
      have hpos : 0 < (jst vs x t (s - x)).1.length := by have := HLN.out; omega
      have hJF : Hid (jfin vs s x t = if (jst vs x t (s - x)).2.getD s 0 = -1 then ((jst vs x t (s - x)).1 ++ [vput 1 (vs.getD s Vl.zero).len 0 0 0], (((jst vs x t (s - x)).1.length : Nat) : Int)) else ((jst vs x t (s - x)).1, (jst vs x t (s - x)).2.getD s 0)) := rfl
      obtain ⟨gv, cap, rfl, _, _⟩ := hJ.b.read hpos
      have HJ : Hid _ := hJ
      have HLE : Hid (∀ w', Drawn wr w' → _) := fun w' (d : Drawn wr w') => lengthJ w' P _ _ (jst vs x t (s - x)).1 _ _ R _ s (hJ.b.keep (d.kept 0 0)) (by have := HLN.out; omega)
      rw [jst_get vs x t (s - x) (by have := HLN.out; omega)] at HLE
      clear hJ hlen hpos hpre
      generalize hm : (jst vs x t (s - x)).2.getD s 0 = mm at cs hJF
      by_cases hmm : mm = -1
      · subst hmm
        have hJ2 : Hid (jfin vs s x t = ((jst vs x t (s - x)).1 ++ [vput 1 (vs.getD s Vl.zero).len 0 0 0], (((jst vs x t (s - x)).1.length : Nat) : Int))) := by
          show _ = _
          rw [hJF.out, if_pos rfl]
        clear hJF hm
        have hl : ∀ j, j < vs.length → 1 ≤ (vs.getD j Vl.zero).len ∧ (vs.getD j Vl.zero).len ≤ 1000 := fun j hj => okV_len (List.all_eq_true.1 HOK.out j (List.mem_range.2 (by rw [← HLN.out]; exact hj)))
        obtain ⟨z1, z2, z3⟩ := jst_size vs x t hl (cells_pos vs (fun j hj => by have := hl j hj; omega)) HC5.out (s - x) (by rw [HLN.out]; omega)
        have hls := hl s (by rw [HLN.out]; exact hs)
        have hsz : (jst vs x t (s - x)).1.length ≤ 1000000 ∧ cellsV (jst vs x t (s - x)).1 ≤ 1000000000 := by
          have := HLN.out
          omega
        have HZ : Hid (∀ w', Drawn wr w' → _) := fun w' (d : Drawn wr w') => putZeros_bd w' P _ _ (jst vs x t (s - x)).1 (cellsV (jst vs x t (s - x)).1) _ R _ (vs.getD s Vl.zero).len (HJ.out.b.keep (d.kept 0 0)) hsz.1 (by omega) hsz.2 (by omega) (by omega)
        clear hl z1 z2 z3 hls hsz
        generalize (vs.getD s Vl.zero).len = ls at HZ HLE hJ2
        have HLE' := HLE.out wr (Drawn.refl _)
        go_wp2_with fail
        clear cs
        refine Calls.mono (HLE.out wr (Drawn.refl _)) ?_
        rintro e w10 ⟨rfl, hD⟩
        go_wp2_with fail
        refine Calls.mono (HZ.out w10 hD) ?_
        rintro e w11 ⟨rfl, R2, vv2, hb2, hs2⟩
        have hJ3 := (HJ.out.keepJ (hD.kept 0 0)).step hb2 hs2
        obtain ⟨gv2, cap2, rfl, _, _⟩ := hJ3.b.read (by simp)
        have HJ3 : Hid _ := hJ3
        clear hJ3 hb2 hs2 HZ HJ HLE HLE' hD
        go_wp2
        go_ret
        rw [hJ2.out]
        exact ⟨rfl, _, _, _, _, _, HJ3.out⟩
      · have tm : (mm == -1) = false := beq_eq_false_iff_ne.2 hmm
        have hJ2 : Hid (jfin vs s x t = ((jst vs x t (s - x)).1, mm)) := by
          show _ = _
          rw [hJF.out, if_neg hmm]
        clear hJF hmm hm HLE
        go_wp2
        go_ret
        rw [hJ2.out]
        exact ⟨rfl, _, _, _, _, _, HJ.out⟩

set_option maxRecDepth 100000 in
set_option maxHeartbeats 4000000 in
theorem implJvp_run (w : World) (_lo g1 g2 g3 n1 c1 n2 c2 n3 c3 : Nat) (s x t : Nat) (ins : List Int) (vs : List Vl) (outs : List Int) (f : GN w g1 g2 g3 n2 ins vs outs) (e1 : ins.length = n1) (e3 : outs.length = n3) (hlt : ∀ v ∈ vs, v.k < 18446744073709551616) (h : okG ins vs outs = true) (hs : s < n2) (hx : x < n2) (ht : t < n2) (h3 : (vs.getD t Vl.zero).len = (vs.getD x Vl.zero).len) :
    Calls Try.prog 49 #[gagg (some ⟨g1, 0, none⟩) n1 c1 (some ⟨g2, 0, none⟩) n2 c2 (some ⟨g3, 0, none⟩) n3 c3, .int .i64 (s : Int), .int .i64 (x : Int), .int .i64 (t : Int)] w fun e w' => (limB (jfin vs s x t).1 = true → e = .returned (.tuple #[gnil, .int .i64 0, .int .i64 5])) ∧ (limB (jfin vs s x t).1 = false → JOut w w' n1 n3 ins outs (jfin vs s x t) e) ∧ Kept 0 0 w w' := by
  have hgs := f.gs hlt
  rw [e1, e3] at hgs
  have e2 : vs.length = n2 := f.v.len
  have hok := h
  unfold okG at hok
  simp only [Bool.and_eq_true, decide_eq_true_eq, e1, e2, e3] at hok
  obtain ⟨⟨l1, l2, l3⟩, _, hv, _, hc5⟩ := hok
  have HOK : Hid _ := hv
  have HC5 : Hid _ := hc5
  have HLN : Hid (vs.length = n2) := e2
  have hK := (kept_alloc 0 0 w (gbox (some ⟨g1, 0, none⟩) n1 c1 (some ⟨g2, 0, none⟩) n2 c2 (some ⟨g3, 0, none⟩) n3 c3)).trans (kept_alloc 0 0 _ nbox)
  have HX : Hid _ := implValid _ (some ⟨g1, 0, none⟩) (some ⟨g2, 0, none⟩) (some ⟨g3, 0, none⟩) n1 c1 n2 c2 n3 c3 ins vs outs (hgs.keep hK)
  rw [h] at HX
  have HK : Hid _ := hK
  have hN := rb_start (w.alloc (gbox (some ⟨g1, 0, none⟩) n1 c1 (some ⟨g2, 0, none⟩) n2 c2 (some ⟨g3, 0, none⟩) n3 c3))
  rw [show (w.alloc (gbox (some ⟨g1, 0, none⟩) n1 c1 (some ⟨g2, 0, none⟩) n2 c2 (some ⟨g3, 0, none⟩) n3 c3)).heap.size = w.heap.size + 1 by simp] at hN
  have HN : Hid _ := hN
  have HB : Hid _ := (g0_start w (.slice (some ⟨g1, 0, none⟩) n1 c1) (.slice (some ⟨g2, 0, none⟩) n2 c2) (.slice (some ⟨g3, 0, none⟩) n3 c3)).keep (kept_alloc 0 0 _ nbox)
  have HI : Hid (∀ w2 : World, _) := fun w2 => allIdx (w2.alloc (.cells #[.int .i64 (s : Int), .int .i64 (x : Int), .int .i64 (t : Int)] 3)) w2.heap.size 3 3 (n2 : Int) [(s : Int), (x : Int), (t : Int)] rfl (by omega) (list3 w2 s x t)
  rw [show ([(s : Int), (x : Int), (t : Int)].all (idxB · (n2 : Int))) = true by simp [idxB]; omega] at HI
  have HF : Hid _ := GN.keepJ f hK
  have HL3 : Hid _ := h3
  have HE : Hid (ins.length = n1 ∧ outs.length = n3) := ⟨e1, e3⟩
  clear hK h f hN h3 hv hc5 hgs hlt e2 e1 e3
  go_enter Try.func49, Try.ntmps49
  go_wp2_with fail
  generalize (w.alloc (gbox (some ⟨g1, 0, none⟩) n1 c1 (some ⟨g2, 0, none⟩) n2 c2 (some ⟨g3, 0, none⟩) n3 c3)).alloc nbox = wB at HX HK HN HB HF ⊢
  refine Calls.mono HX.out ?_
  rintro e w2 ⟨rfl, k2⟩
  obtain ⟨_, p0, p1, p2⟩ := G0.keep HB.out k2
  go_wp2_with fail
  clear p0 p1 p2
  refine Calls.mono (HI.out w2) ?_
  rintro e w3 ⟨rfl, rfl⟩
  have k3 := kept_alloc 0 0 w2 (.cells #[.int .i64 (s : Int), .int .i64 (x : Int), .int .i64 (t : Int)] 3)
  have HK4 : Hid _ := k2.trans k3
  clear k2 k3 HX HI
  generalize w2.alloc (.cells #[.int .i64 (s : Int), .int .i64 (x : Int), .int .i64 (t : Int)] 3) = w4 at HK4 ⊢
  obtain ⟨_, p0, p1, p2⟩ := G0.keep HB.out HK4.out
  have hVA := (GN.keepJ HF.out HK4.out).v
  have ct := (hVA.at_ t ht).c1
  have cx := (hVA.at_ x hx).c1
  rw [HL3.out] at ct
  generalize (vs.getD x Vl.zero).len = lx at cx ct
  clear hVA
  have j0 : (0 : Int) ≤ (t : Int) := by omega
  have j1 : (t : Int) < (n2 : Int) := by omega
  have j2 : (0 : Int) ≤ (x : Int) := by omega
  have j3 : (x : Int) < (n2 : Int) := by omega
  have j4 : (lx != lx) = false := by simp
  go_wp2_with fail
  go_quiet (fail)
  have HK5 : Hid _ := Kept.trans HK4.out (kept_drewN 0 0 w4 nq)
  clear HK4 p0 p1 p2 ct cx j4
  generalize w4.drewN nq = w5 at HK5 ⊢
  obtain ⟨_, p0, p1, p2⟩ := G0.keep HB.out HK5.out
  go_wp2_with fail
  clear p0 p1 p2
  refine Calls.mono (newBuilder w5 _lo g1 g2 g3 n1 c1 n2 c2 n3 c3 ins vs outs (GN.keepJ HF.out HK5.out) HE.out.1 HE.out.2 (by omega) l2 (by omega) (fun k hk => okV_len (List.all_eq_true.1 HOK.out k (List.mem_range.2 hk)))) ?_
  rintro e w6 ⟨P, G1, d1, G3, d3, R, vv, rfl, hBS, hO1, hO3, ⟨d1', d2', d3', d4', d5', d6', d7'⟩, k6⟩
  have HK6 : Hid _ := Kept.trans HK5.out k6
  have hz5 := HK5.out.size
  have hz6 := k6.size
  have HB6 : Hid _ := hBS
  have HO1 : Hid _ := hO1
  have HO3 : Hid _ := hO3
  have HDD : Hid ((w5.heap.size ≤ P ∧ G1 ≠ P ∧ G3 ≠ P ∧ G1 ≠ G3 ∧ R ≠ some G1 ∧ R ≠ some G3) ∧ wB.heap.size ≤ w5.heap.size ∧ w5.heap.size ≤ w6.heap.size) := ⟨⟨d1', d2', d3', d4', d5', d6'⟩, hz5, hz6⟩
  clear hBS hO1 hO3 d1' d2' d3' d4' d5' d6' d7' k6 hz5 hz6 HK5
  have HPD : Hid _ := putDeriv w6 wB P G1 d1 n1 G3 d3 n3 w5.heap.size n2 s x t ins vs outs R vv HB6.out (fun w7 k7 hM => {
    b := HB6.out.keep k7
    m := hM
    i := own_keepJ HO1.out k7
    o := own_keepJ HO3.out k7
    k := Kept.trans HK6.out k7
    dP := by have := HDD.out; omega
    dM := by have := HDD.out; omega
    dB := HDD.out.2.1
    ne1 := by have := HB6.out.lt; omega
    ne2 := HDD.out.1.2.1
    ne3 := HDD.out.1.2.2.1
    ne4 := by have := (own_blkV HO1.out (k := G1) rfl).2; omega
    ne5 := by have := (own_blkV HO3.out (k := G3) rfl).2; omega
    r1 := HB6.out.far.2
    r2 := HDD.out.1.2.2.2.2.1
    r3 := HDD.out.1.2.2.2.2.2 }) HLN.out l2 HOK.out HC5.out hs hx
  clear HB6 HO1 HO3
  go_wp2_with fail
  generalize hM0 : jfin vs s x t = M at HPD
  have HM0 : Hid (jfin vs s x t = M) := hM0
  clear hM0
  refine Calls.mono HPD.out ?_
  rintro e w10 ⟨rfl, Mb, mv, R2, gv2, cap2, hJ3⟩
  have HJ3 : Hid _ := hJ3
  clear hJ3 HPD
  obtain ⟨M1, mm⟩ := M
  simp only at HJ3
  cases hlim : limB M1
  · have hl' := of_decide_eq_false hlim
    have HA : Hid _ := answer_ok w10 P _ _ n1 d1 n3 d3 _ _ _ R2 gv2 cap2 mm HJ3.out.b (by omega) (by omega)
    clear hl'
    go_wp2_with fail
    refine Calls.mono HA.out ?_
    rintro e wA ⟨rfl, kA⟩
    have HKA : Hid _ := kA
    obtain ⟨_, q0, q1, q2, f0, f1, f2⟩ := RB.keep HN.out (Kept.trans HJ3.out.k kA)
    obtain ⟨y0, y1, y2⟩ := put3_0 wA (w.heap.size + 1) _ _ _ q0 q1 q2 (.slice (some ⟨G1, 0, none⟩) n1 d1) (.slice (some ⟨gv2, 0, none⟩) M1.length cap2) (.slice (some ⟨G3, 0, none⟩) n3 d3)
    have kp := put3_kept wA (w.heap.size + 1) (.slice (some ⟨G1, 0, none⟩) n1 d1) (.slice (some ⟨gv2, 0, none⟩) M1.length cap2) (.slice (some ⟨G3, 0, none⟩) n3 d3)
    have R0 : Hid (Kept 0 0 w _) := Kept.new (Kept.trans HK.out (Kept.trans HJ3.out.k kA)) kp (by omega)
    have R1 : Hid _ := jout (w := w) HJ3.out kA kp (by have h1 := HN.out.sz; have := HDD.out; omega) (by have h1 := HK.out.size; have := HDD.out; omega) HDD.out.1.2.2.2.1 mm
    clear kA HA kp
    go_wp2_with fail
    refine bodyPost_ret (v := .tuple #[.agg #[.slice (some ⟨G1, 0, none⟩) n1 d1, .slice (some ⟨gv2, 0, none⟩) M1.length cap2, .slice (some ⟨G3, 0, none⟩) n3 d3], .int .i64 mm, .int .i64 0]) (by simp [results, Try.results49, go_sem, y0, y1, y2]) rfl ⟨fun hf => ?_, fun _ => ?_, R0.out⟩
    · rw [HM0.out, hlim] at hf
      cases hf
    · rw [HM0.out]
      exact R1.out
  · have HA : Hid _ := answer_lim w10 P _ _ _ _ R2 gv2 cap2 mm HJ3.out.b hlim
    go_wp2_with fail
    refine Calls.mono HA.out ?_
    rintro e wA ⟨rfl, kA⟩
    have HKA : Hid _ := kA
    obtain ⟨_, q0, q1, q2, f0, f1, f2⟩ := RB.keep HN.out (Kept.trans HJ3.out.k kA)
    obtain ⟨y0, y1, y2⟩ := put3_0 wA (w.heap.size + 1) _ _ _ q0 q1 q2 (.slice none 0 0) (.slice none 0 0) (.slice none 0 0)
    have R0 : Hid (Kept 0 0 w _) := Kept.new (Kept.trans HK.out (Kept.trans HJ3.out.k kA)) (put3_kept wA (w.heap.size + 1) (.slice none 0 0) (.slice none 0 0) (.slice none 0 0)) (by omega)
    clear kA HA
    go_wp2_with fail
    refine bodyPost_ret (v := .tuple #[gnil, .int .i64 0, .int .i64 5]) (by simp [results, Try.results49, go_sem, y0, y1, y2]) rfl ⟨fun _ => rfl, fun hf => ?_, R0.out⟩
    rw [HM0.out, hlim] at hf
    cases hf
end Go.Proofs.Ytcphabjekfihnaa
