import Derived.Test.YtdkjdlimcnddkaaA13
import Derived.Test.YtdkjdlimcnddkaaA12
import Derived.Deep.RegionHeld3
import Derived.Deep.RegionLaw
namespace Go.Proofs.Ytdkjdlimcnddkaa
open Go.RowKit Flt
attribute [local go_sem] alloc_drewN setCell_drewN run_store_float

theorem own_va {W : World} {base n gk cap : Nat} {ks : List Vl} (h : W.ownsRow base 64 6 (.slice (some ⟨gk, 0, none⟩) n cap) n (flat ks)) (hl : ks.length = n) : VA W gk n ks ∧ base ≤ gk := by
  rcases Nat.eq_zero_or_pos n with h0 | h0
  · subst h0
    rcases h.2 with ⟨e, _⟩ | ⟨g, c, cur, e, b1, b2, b3⟩
    · cases e
    · cases e
      have hlt : gk < W.heap.size := by
        rcases Nat.lt_or_ge gk W.heap.size with c | c
        · exact c
        · rw [Array.getElem?_eq_none c] at b2; cases b2
      exact ⟨⟨hl, hlt, fun k hk => by omega, fun o => frozen_of_row W gk o _ _ b2⟩, b1⟩
  · obtain ⟨g, c, e, h1, _, _, hA⟩ := row_at h h0 hl
    cases e
    exact ⟨hA, h1⟩
theorem own_ioS {W : World} {base n G cap : Nat} {xs : List Int} (h : OI W base G n cap xs) (hl : xs.length = n) : IBk W G n xs := by
  rcases Nat.eq_zero_or_pos n with h0 | h0
  · subst h0
    rcases h.2 with ⟨e, _⟩ | ⟨g, c, cur, e, b1, b2, b3⟩
    · cases e
    · cases e
      have hlt : G < W.heap.size := by
        rcases Nat.lt_or_ge G W.heap.size with c | c
        · exact c
        · rw [Array.getElem?_eq_none c] at b2; cases b2
      exact ⟨hl, hlt, fun k hk => by omega, fun o => frozen_of_row W G o _ _ b2⟩
  · rcases own_io h hl with h1 | ⟨g, e, _, h1⟩
    · omega
    · cases e; exact h1

set_option maxRecDepth 100000 in
set_option maxHeartbeats 4000000 in
theorem copyGraphO (w : World) (lo g1 g2 g3 n1 c1 n2 c2 n3 c3 : Nat) (ins : List Int) (vs : List Vl) (outs : List Int) (f : GO w lo g1 g2 g3 n2 ins vs outs) (e1 : ins.length = n1) (e3 : outs.length = n3) (l1 : n1 ≤ 1000000) (l2 : n2 ≤ 2000) (l3 : n3 ≤ 1000000) :
    Calls Try.prog 92 #[gagg (some ⟨g1, 0, none⟩) n1 c1 (some ⟨g2, 0, none⟩) n2 c2 (some ⟨g3, 0, none⟩) n3 c3] w fun e w' => ∃ G1 d1 G2 d2 G3 d3, e = .returned (gagg (some ⟨G1, 0, none⟩) n1 d1 (some ⟨G2, 0, none⟩) n2 d2 (some ⟨G3, 0, none⟩) n3 d3) ∧ OI w' w.heap.size G1 n1 d1 ins ∧ w'.ownsRow w.heap.size 64 6 (.slice (some ⟨G2, 0, none⟩) n2 d2) n2 (flat vs) ∧ OI w' w.heap.size G3 n3 d3 outs ∧ (w.heap.size ≤ G1 ∧ G1 < G2 ∧ G2 < G3 ∧ G3 < w'.heap.size) ∧ Kept 0 0 w w' := by
  have k0 := kept_alloc 0 0 w (gbox (some ⟨g1, 0, none⟩) n1 c1 (some ⟨g2, 0, none⟩) n2 c2 (some ⟨g3, 0, none⟩) n3 c3)
  have k0' := kept_alloc 0 0 (w.alloc (gbox (some ⟨g1, 0, none⟩) n1 c1 (some ⟨g2, 0, none⟩) n2 c2 (some ⟨g3, 0, none⟩) n3 c3)) nbox
  have HB : Hid _ := (g0_start w (.slice (some ⟨g1, 0, none⟩) n1 c1) (.slice (some ⟨g2, 0, none⟩) n2 c2) (.slice (some ⟨g3, 0, none⟩) n3 c3)).keep k0'
  have hz : (w.alloc (gbox (some ⟨g1, 0, none⟩) n1 c1 (some ⟨g2, 0, none⟩) n2 c2 (some ⟨g3, 0, none⟩) n3 c3)).heap.size = w.heap.size + 1 := by simp
  have hR := rb_start (w.alloc (gbox (some ⟨g1, 0, none⟩) n1 c1 (some ⟨g2, 0, none⟩) n2 c2 (some ⟨g3, 0, none⟩) n3 c3))
  rw [hz] at hR
  have HR : Hid _ := hR
  have HK : Hid _ := k0.trans k0'
  have HI1 : Hid _ := f.i.keep (k0.trans k0') (.inr (.inr (Nat.le_refl _)))
  have HI2 : Hid _ := f.v.keep (k0.trans k0') (.inr (.inr (Nat.le_refl _)))
  have HI3 : Hid _ := f.o.keep (k0.trans k0') (.inr (.inr (Nat.le_refl _)))
  have HZ : Hid (((w.alloc (gbox (some ⟨g1, 0, none⟩) n1 c1 (some ⟨g2, 0, none⟩) n2 c2 (some ⟨g3, 0, none⟩) n3 c3)).alloc nbox).heap.size = w.heap.size + 1 + 1) := by show _ = _; simp
  have HVL : Hid (vs.length = n2) := f.v.len
  clear f k0 k0' hz hR
  obtain ⟨_, q0, q1, q2⟩ := HB.out
  go_enter Try.func92, Try.ntmps92
  go_wp2_with fail
  generalize (w.alloc (gbox (some ⟨g1, 0, none⟩) n1 c1 (some ⟨g2, 0, none⟩) n2 c2 (some ⟨g3, 0, none⟩) n3 c3)).alloc nbox = w1 at HB HR HK HI1 HI2 HI3 HZ q0 q1 q2 ⊢
  have hPR : w.heap.size ≠ w.heap.size + 1 := by omega
  go_region_held3 (fun w' => w'.cell? ⟨w.heap.size, 0, none⟩ = some (.slice (some ⟨g1, 0, none⟩) n1 c1) ∧ w'.cell? ⟨w.heap.size, 1, none⟩ = some (.slice (some ⟨g2, 0, none⟩) n2 c2) ∧ w'.cell? ⟨w.heap.size, 2, none⟩ = some (.slice (some ⟨g3, 0, none⟩) n3 c3)) (first | go_keep | (simp only [cell3c _ _ _ _ _ _ _ hPR]; exact ⟨r0, r1, r2⟩))
    (first
      | (go_at_call 49; refine Calls.mono (cloneI w3 g3 n3 c3 outs l3 (IR.keep HI3.out kk2 (.inr (.inr (Nat.le_refl _)))) e3) ?_; rintro e w4 ⟨G3, d3, rfl, b3, b3', o3, k3⟩; have kk3 := Kept.trans kk2 k3; obtain ⟨_, r0, r1, r2⟩ := G0.keep HB.out kk3; obtain ⟨_, j0, j1, j2, f0, f1, f2⟩ := RB.keep HR.out kk3)
      | (go_at_call 127; refine Calls.mono (cloneV w2 g2 n2 c2 vs (by omega) (VA.keep HI2.out kk1 (.inr (.inr (Nat.le_refl _))))) ?_; rintro e w3 ⟨G2, d2, rfl, b2, b2', o2, k2⟩; have kk2 := Kept.trans kk1 k2; obtain ⟨_, t0, t1, t2⟩ := G0.keep HB.out kk2)
      | (go_at_call 49; refine Calls.mono (cloneI (w1.drewN 1) g1 n1 c1 ins l1 (IR.drewN HI1.out 1) e1) ?_; rintro e w2 ⟨G1, d1, rfl, b1, b1', o1, k1⟩; have kk1 := Kept.trans (kept_drewN 0 0 w1 1) k1; obtain ⟨_, s0, s1, s2⟩ := G0.keep HB.out kk1))
  have hz1 : (w1.drewN 1).heap.size = w.heap.size + 1 + 1 := HZ.out
  have hz2 : (w1.drewN 1).heap.size ≤ w2.heap.size := k1.size
  have hz3 : w2.heap.size ≤ w3.heap.size := k2.size
  have hz4 : w3.heap.size ≤ w4.heap.size := k3.size
  have H1 : Hid (OI w4 w.heap.size G1 n1 d1 ins) := own_mono (own_keepJ o1 (k2.trans k3)) (by omega)
  have H2 : Hid (w4.ownsRow w.heap.size 64 6 (.slice (some ⟨G2, 0, none⟩) n2 d2) n2 (flat vs)) := own_mono (own_keepJ o2 k3) (by omega)
  have H3 : Hid (OI w4 w.heap.size G3 n3 d3 outs) := own_mono o3 (by omega)
  have HD : Hid (G1 < G2 ∧ G2 < G3 ∧ w.heap.size + 1 + 1 ≤ G1 ∧ G3 < w4.heap.size) := ⟨by omega, by omega, by omega, by omega⟩
  have HK4 : Hid _ := HK.out.trans kk3
  clear q0 q1 q2 s0 s1 s2 t0 t1 t2 r0 r1 r2 b1 b2 b3 b1' b2' b3' o1 o2 o3 k1 k2 k3 kk1 kk2 kk3 hz1 hz2 hz3 hz4 HI1 HI2 HI3 HB
  go_wp2_with fail
  obtain ⟨y0, y1, y2⟩ := put3_0 w4 (w.heap.size + 1) _ _ _ j0 j1 j2 (.slice (some ⟨G1, 0, none⟩) n1 d1) (.slice (some ⟨G2, 0, none⟩) n2 d2) (.slice (some ⟨G3, 0, none⟩) n3 d3)
  have kp := put3_kept w4 (w.heap.size + 1) (.slice (some ⟨G1, 0, none⟩) n1 d1) (.slice (some ⟨G2, 0, none⟩) n2 d2) (.slice (some ⟨G3, 0, none⟩) n3 d3)
  refine bodyPost_ret (v := gagg (some ⟨G1, 0, none⟩) n1 d1 (some ⟨G2, 0, none⟩) n2 d2 (some ⟨G3, 0, none⟩) n3 d3) (by simp [results, Try.results92, go_sem, y0, y1, y2]) rfl ⟨G1, d1, G2, d2, G3, d3, rfl, ?_, ?_, ?_, ?_, ?_⟩
  · exact own_keepR H1.out kp (fun g hg => by
      have e : g = G1 := by simpa [Value.ownBlock] using hg.symm
      have := HD.out; omega)
  · exact own_keepR H2.out kp (fun g hg => by
      have e : g = G2 := by simpa [Value.ownBlock] using hg.symm
      have := HD.out; omega)
  · exact own_keepR H3.out kp (fun g hg => by
      have e : g = G3 := by simpa [Value.ownBlock] using hg.symm
      have := HD.out; omega)
  · have := HD.out
    have := kp.size
    omega
  · exact HK4.out.new kp (by omega)
theorem copyGraph (w : World) (lo g1 g2 g3 n1 c1 n2 c2 n3 c3 : Nat) (ins : List Int) (vs : List Vl) (outs : List Int) (f : GO w lo g1 g2 g3 n2 ins vs outs) (e1 : ins.length = n1) (e3 : outs.length = n3) (l1 : n1 ≤ 1000000) (l2 : n2 ≤ 2000) (l3 : n3 ≤ 1000000) :
    Calls Try.prog 92 #[gagg (some ⟨g1, 0, none⟩) n1 c1 (some ⟨g2, 0, none⟩) n2 c2 (some ⟨g3, 0, none⟩) n3 c3] w fun e w' => ∃ G1 d1 G2 d2 G3 d3, e = .returned (gagg (some ⟨G1, 0, none⟩) n1 d1 (some ⟨G2, 0, none⟩) n2 d2 (some ⟨G3, 0, none⟩) n3 d3) ∧ PG w' G1 G2 G3 n1 n2 n3 ins vs outs ∧ (w.heap.size ≤ G1 ∧ w.heap.size ≤ G2 ∧ w.heap.size ≤ G3) ∧ Kept 0 0 w w' := by
  have hv := f.v.len
  refine (copyGraphO w lo g1 g2 g3 n1 c1 n2 c2 n3 c3 ins vs outs f e1 e3 l1 l2 l3).mono ?_
  rintro e w' ⟨G1, d1, G2, d2, G3, d3, rfl, o1, o2, o3, hd, hk⟩
  exact ⟨G1, d1, G2, d2, G3, d3, rfl, ⟨own_ioS o1 e1, (own_va o2 hv).1, own_ioS o3 e3, by omega, by omega, by omega⟩, by omega, hk⟩
end Go.Proofs.Ytdkjdlimcnddkaa

namespace Go.Proofs.Ytdkjdlimcnddkaa
open Go.RowKit Flt
attribute [local go_sem] alloc_drewN setCell_drewN run_store_float

theorem IS.three {w : World} {g : Nat} {x y z : Int} (h0 : w.cell? ⟨g, 0, none⟩ = some (.int .i64 x)) (h1 : w.cell? ⟨g, 1, none⟩ = some (.int .i64 y)) (h2 : w.cell? ⟨g, 2, none⟩ = some (.int .i64 z)) (hg : g < w.heap.size) : IS w 0 w.heap.size (some ⟨g, 0, none⟩) 3 [x, y, z] :=
  ⟨rfl, .inr ⟨g, 0, rfl, Nat.zero_le _, hg, hg, fun k hk => by
    rcases (by omega : k = 0 ∨ k = 1 ∨ k = 2) with rfl | rfl | rfl
    · exact h0
    · exact h1
    · exact h2⟩⟩

def fillN (k n : Nat) : List Int := List.replicate k (-1) ++ List.replicate (n - k) 0
theorem fillN_len (k n : Nat) (h : k ≤ n) : (fillN k n).length = n := by simp [fillN]; omega
theorem fillN_all (n : Nat) : fillN n n = List.replicate n (-1) := by simp [fillN]
theorem fillN_set {k n : Nat} (h : k < n) : (fillN k n).set k (-1) = fillN (k + 1) n := by
  apply List.ext_getElem?
  intro j
  unfold fillN
  rw [List.getElem?_set]
  by_cases e : k = j
  · subst e
    rw [if_pos rfl, if_pos (by simp; omega), List.getElem?_append_left (by simp)]
    simp
  · rw [if_neg e]
    rcases Nat.lt_or_ge j k with c | c
    · rw [List.getElem?_append_left (by simp; omega), List.getElem?_append_left (by simp; omega)]
      simp [c, (by omega : j < k + 1)]
    · rw [List.getElem?_append_right (by simp; omega), List.getElem?_append_right (by simp; omega)]
      simp [List.getElem?_replicate]
      congr 1
      simp; omega

set_option maxRecDepth 100000 in
set_option maxHeartbeats 2000000 in
theorem nones (w : World) (n : Nat) (hn : n ≤ 1000000) :
    Calls Try.prog 128 #[.int .i64 (n : Int)] w fun e w' => e = .returned (.slice (some ⟨w.heap.size, 0, none⟩) n n) ∧ IR w' w.heap.size (List.replicate n (-1)) ∧ Kept 0 0 w w' := by
  have hm := make_i n w (by omega)
  have hP := IR.made w n
  have hK := kept_alloc 0 0 w (.cells (madeCells #[.int .i64 0] n) 3)
  have HP : Hid _ := hP
  have HK : Hid _ := hK
  clear hP hK
  generalize hw1 : w.alloc (.cells (madeCells #[.int .i64 0] n) 3) = w1 at hm HP HK
  clear hw1
  go_enter Try.func128, Try.ntmps128
  go_wp2_with fail
  clear hm
  go_loopw [9] (fun x W => ∃ k : Nat, k ≤ n ∧ x = .int .i64 k ∧ Hid (IR W w.heap.size (fillN k n)) ∧ Hid (Kept 0 0 w W)) (fun x _ => n - (intOf x).toNat)
  case atStart => exact ⟨0, Nat.zero_le _, rfl, HP, HK⟩
  case round =>
    obtain ⟨k, hk, rfl, hI, hK⟩ := hrel
    clear HP HK
    by_cases hlt : k < n
    · have c1 := IR.cell hI.out k (by rw [fillN_len k n hk]; exact hlt)
      have c2 := IR.free hI.out k
      have R1 : Hid (IR (wr.setCell ⟨w.heap.size, k, none⟩ (.int .i64 (-1))) w.heap.size (fillN (k + 1) n)) := by
        have := IR.set hI.out k (-1)
        rw [fillN_set hlt] at this
        exact this
      have R2 : Hid _ := kept_put w wr hK.out w.heap.size k (.int .i64 (-1)) (Nat.le_refl _)
      clear hI hK
      generalize (fillN k n).getD k 0 = z at c1
      go_wp2
      go_roundw
      case rel => exact ⟨k + 1, by omega, by go_num, R1, R2⟩
      case measure => simp [intOf]; omega
    · obtain rfl : k = n := by omega
      have R1 : Hid (IR wr w.heap.size (List.replicate k (-1))) := by
        have := hI.out
        rw [fillN_all] at this
        exact this
      have R2 : Hid _ := hK.out
      clear hI hK
      go_wp2
      go_ret
      exact ⟨rfl, R1.out, R2.out⟩
theorem BS.setc {w : World} {P : Nat} {u1 u3 : Value} {vs : List Vl} {c : Int} {base : Nat} {R : Option Nat} {vv : Value} (h : BS w P u1 u3 vs c base R vv) (c' : Int) : BS (w.setCell ⟨P, 3, none⟩ (.int .i64 c')) P u1 u3 vs c' base R vv := by
  have hr : vv.ownBlock ≠ some P := by rw [h.row]; exact h.ne
  refine ⟨by simpa using h.lt, fun o => by simp [h.free o], ?_, ?_, ?_, cell_eq _ _ _ _ _ h.c3, own_setCell h.own hr, h.row, h.ne, by simpa using h.sz⟩
  · rw [cell_ne _ _ _ _ _ _ (.inr (by omega))]; exact h.c0
  · rw [cell_ne _ _ _ _ _ _ (.inr (by omega))]; exact h.c1
  · rw [cell_ne _ _ _ _ _ _ (.inr (by omega))]; exact h.c2
theorem BS.drew {w : World} {P : Nat} {u1 u3 : Value} {vs : List Vl} {c : Int} {base : Nat} {R : Option Nat} {vv : Value} (h : BS w P u1 u3 vs c base R vv) : BS w.drew P u1 u3 vs c base R vv :=
  ⟨h.lt, h.free, h.c0, h.c1, h.c2, h.c3, h.own, h.row, h.ne, h.sz⟩
set_option maxRecDepth 100000 in
set_option maxHeartbeats 4000000 in
theorem newBuilder (w : World) (lo g1 g2 g3 n1 c1 n2 c2 n3 c3 : Nat) (ins : List Int) (vs : List Vl) (outs : List Int) (f : GO w lo g1 g2 g3 n2 ins vs outs) (e1 : ins.length = n1) (e3 : outs.length = n3) (l1 : n1 ≤ 1000000) (l2 : n2 ≤ 2000) (l3 : n3 ≤ 1000000) (hl : ∀ k, k < n2 → 1 ≤ (vs.getD k Vl.zero).len ∧ (vs.getD k Vl.zero).len ≤ 1000) :
    Calls Try.prog 38 #[gagg (some ⟨g1, 0, none⟩) n1 c1 (some ⟨g2, 0, none⟩) n2 c2 (some ⟨g3, 0, none⟩) n3 c3] w fun e w' => ∃ P G1 d1 G3 d3 R vv, e = .returned (.pointer (some ⟨P, 0, none⟩)) ∧ BS w' P (.slice (some ⟨G1, 0, none⟩) n1 d1) (.slice (some ⟨G3, 0, none⟩) n3 d3) vs (cellsV vs) w.heap.size R vv ∧ OI w' w.heap.size G1 n1 d1 ins ∧ OI w' w.heap.size G3 n3 d3 outs ∧ (w.heap.size ≤ P ∧ G1 ≠ P ∧ G3 ≠ P ∧ G1 ≠ G3 ∧ R ≠ some G1 ∧ R ≠ some G3 ∧ vv ≠ .slice none 0 0) ∧ Kept 0 0 w w' := by
  have k0 := kept_alloc 0 0 w (gbox (some ⟨g1, 0, none⟩) n1 c1 (some ⟨g2, 0, none⟩) n2 c2 (some ⟨g3, 0, none⟩) n3 c3)
  have HB : Hid _ := g0_start w (.slice (some ⟨g1, 0, none⟩) n1 c1) (.slice (some ⟨g2, 0, none⟩) n2 c2) (.slice (some ⟨g3, 0, none⟩) n3 c3)
  have HX : Hid _ := f
  have HL : Hid _ := hl
  have HK : Hid _ := k0
  have HI2 : Hid _ := f.v.keep k0 (.inr (.inr (Nat.le_refl _)))
  have HG : Hid _ := GO.keepJ f k0
  clear f hl k0
  obtain ⟨_, q0, q1, q2⟩ := HB.out
  go_enter Try.func38, Try.ntmps38
  go_wp2_with fail
  clear q0 q1 q2
  generalize w.alloc (gbox (some ⟨g1, 0, none⟩) n1 c1 (some ⟨g2, 0, none⟩) n2 c2 (some ⟨g3, 0, none⟩) n3 c3) = w1 at HB HK HI2 HG ⊢
  refine Calls.mono (copyGraphO w1 lo g1 g2 g3 n1 c1 n2 c2 n3 c3 ins vs outs HG.out e1 e3 l1 l2 l3) ?_
  rintro e w4 ⟨G1, d1, G2, d2, G3, d3, rfl, o1, o2, o3, hd, kk3⟩
  have k5 := kept_alloc 0 0 w4 (.cells #[.slice (some ⟨G1, 0, none⟩) n1 d1, .slice (some ⟨G2, 0, none⟩) n2 d2, .slice (some ⟨G3, 0, none⟩) n3 d3, .int .i64 0] 126)
  have hz1 : w.heap.size ≤ w1.heap.size := HK.out.size
  have H1 : Hid (OI (w4.alloc (.cells #[.slice (some ⟨G1, 0, none⟩) n1 d1, .slice (some ⟨G2, 0, none⟩) n2 d2, .slice (some ⟨G3, 0, none⟩) n3 d3, .int .i64 0] 126)) w.heap.size G1 n1 d1 ins) := own_keepJ (own_mono o1 hz1) k5
  have H3 : Hid (OI (w4.alloc (.cells #[.slice (some ⟨G1, 0, none⟩) n1 d1, .slice (some ⟨G2, 0, none⟩) n2 d2, .slice (some ⟨G3, 0, none⟩) n3 d3, .int .i64 0] 126)) w.heap.size G3 n3 d3 outs) := own_keepJ (own_mono o3 hz1) k5
  have HBS : Hid (BS (w4.alloc (.cells #[.slice (some ⟨G1, 0, none⟩) n1 d1, .slice (some ⟨G2, 0, none⟩) n2 d2, .slice (some ⟨G3, 0, none⟩) n3 d3, .int .i64 0] 126)) w4.heap.size (.slice (some ⟨G1, 0, none⟩) n1 d1) (.slice (some ⟨G3, 0, none⟩) n3 d3) vs 0 w.heap.size (some G2) (.slice (some ⟨G2, 0, none⟩) n2 d2)) := by
    refine ⟨by simp, fun o => by simp, by simp, by simp, by simp, by simp, ?_, rfl, fun e => by cases e; omega, by simp; omega⟩
    have := own_keepJ (own_mono o2 hz1) k5
    rw [show vs.length = n2 from HX.out.v.len]
    exact this
  have HD : Hid (G1 < G2 ∧ G2 < G3 ∧ G3 < w4.heap.size ∧ w.heap.size ≤ G1) := ⟨by omega, by omega, by omega, by omega⟩
  have HK5 : Hid _ := Kept.trans kk3 k5
  have HV5 : Hid _ := VA.keep HI2.out HK5.out (.inr (.inr (Nat.le_refl _)))
  have HB5 : Hid _ := G0.keep HB.out HK5.out
  have HW5 : Hid (w.heap.size < w4.heap.size ∧ g2 < w4.heap.size) := ⟨by have := (G0.keep HB.out kk3).sz; omega, by have := HX.out.v.lt; omega⟩
  have HLN : Hid (vs.length = n2) := HX.out.v.len
  obtain ⟨_, p0, p1, p2⟩ := HB5.out
  clear o1 o2 o3 hd k5 kk3 hz1 HI2 HB HX HG
  go_wp2_with fail
  clear p0 p1 p2
  generalize w4.alloc (.cells #[.slice (some ⟨G1, 0, none⟩) n1 d1, .slice (some ⟨G2, 0, none⟩) n2 d2, .slice (some ⟨G3, 0, none⟩) n3 d3, .int .i64 0] 126) = w5 at H1 H3 HBS HK5 HV5 HB5 ⊢
  go_loopw [13] (fun x W => ∃ k : Nat, k ≤ n2 ∧ x = .int .i64 k ∧ Hid (BS W w4.heap.size (.slice (some ⟨G1, 0, none⟩) n1 d1) (.slice (some ⟨G3, 0, none⟩) n3 d3) vs (cellsV (vs.take k)) w.heap.size (some G2) (.slice (some ⟨G2, 0, none⟩) n2 d2)) ∧ Hid (Kept w4.heap.size (w4.heap.size + 1) w5 W) ∧ Hid (0 ≤ cellsV (vs.take k) ∧ cellsV (vs.take k) ≤ 1000 * k)) (fun x _ => n2 - (intOf x).toNat)
  case atStart => exact ⟨0, Nat.zero_le _, rfl, HBS, Kept.refl _ _ _, by constructor <;> simp [cellsV]⟩
  case round =>
    obtain ⟨k, hk, rfl, hS, hK, hc⟩ := hrel
    clear HBS
    by_cases hlt : k < n2
    · have hat := (HV5.out.at_ k hlt).keep HV5.out.lt hK.out (.inl HW5.out.2)
      have HST : Hid _ := cellsV_take (vs := vs) (k := k) (by rw [HLN.out]; exact hlt)
      have hlv := HL.out k hlt
      generalize vs.getD k Vl.zero = v at hat HST hlv
      have HLV : Hid _ := hlv
      obtain ⟨y0, y1, y2, y3, y4, y5⟩ := hat
      have ka := kept_alloc 0 0 wr (vbox v.op v.len v.a v.b v.c v.k)
      have hS6 := hS.out.keep ka
      have HS6 : Hid _ := hS6
      have m3 := hS6.c3
      have mf := hS6.free 3
      have mv := (vbox_atJ wr v).c1
      rw [Nat.zero_add] at mv
      have HK6 : Hid _ := Kept.trans hK.out (ka.mono (lo' := w4.heap.size) (hi' := w4.heap.size + 1) fun b _ c => by omega)
      have hb0 := hc.out
      have hwr : IntKind.i64.wrap (cellsV (vs.take k) + v.len) = cellsV (vs.take k) + v.len := by rw [IntKind.wrap_i64]; omega
      have HC2 : Hid (0 ≤ cellsV (vs.take k) + v.len ∧ cellsV (vs.take k) + v.len ≤ 1000 * ((k + 1 : Nat) : Int)) := ⟨by omega, by omega⟩
      clear hS hK hc hS6 ka hlv hb0
      generalize cellsV (vs.take k) = cc at HST HS6 m3 hwr HC2
      go_wp2_with fail
      clear y0 y1 y2 y3 y4 y5
      generalize wr.alloc (vbox v.op v.len v.a v.b v.c v.k) = w6 at HS6 m3 mf mv HK6 ⊢
      go_region_law (fail)
      all_goals
        have R1 : Hid _ := (HS6.out.setc (cc + v.len)).drew
        have R2 : Hid _ := Kept.drew (Kept.trans HK6.out (kept_setCell w6 ⟨w4.heap.size, 3, none⟩ (.int .i64 (cc + v.len)) (.inl ⟨Nat.le_refl _, Nat.lt_succ_self _⟩)))
        clear HS6 HK6 m3 mf mv
        generalize (w6.setCell ⟨w4.heap.size, 3, none⟩ (.int .i64 (cc + v.len))).drew = w7 at R1 R2 ⊢
        go_wp2
        go_roundw
        case rel => exact ⟨k + 1, by omega, by go_num, by rw [HST.out]; exact R1, R2, by rw [HST.out]; exact HC2⟩
        case measure => simp [intOf]; omega
    · obtain rfl : k = n2 := by omega
      have R1 : Hid (BS wr w4.heap.size (.slice (some ⟨G1, 0, none⟩) n1 d1) (.slice (some ⟨G3, 0, none⟩) n3 d3) vs (cellsV vs) w.heap.size (some G2) (.slice (some ⟨G2, 0, none⟩) k d2)) := by
        have := hS.out
        rw [List.take_of_length_le (by rw [HLN.out]; exact Nat.le_refl _)] at this
        exact this
      have R2 : Hid (OI wr w.heap.size G1 n1 d1 ins) := own_keepR H1.out hK.out (fun g hg => by
        have e : g = G1 := by simpa [Value.ownBlock] using hg.symm
        have := HD.out
        omega)
      have R3 : Hid (OI wr w.heap.size G3 n3 d3 outs) := own_keepR H3.out hK.out (fun g hg => by
        have e : g = G3 := by simpa [Value.ownBlock] using hg.symm
        have := HD.out
        omega)
      have R4 : Hid (Kept 0 0 w wr) := Kept.new (Kept.trans HK.out HK5.out) hK.out (by have := HW5.out; omega)
      clear hS hK hc H1 H3
      go_wp2
      go_ret
      exact ⟨w4.heap.size, G1, d1, G3, d3, some G2, _, rfl, R1.out, R2.out, R3.out, ⟨by have := HW5.out; omega, by have := HD.out; omega, by have := HD.out; omega, by have := HD.out; omega, fun e => by cases e; have := HD.out; omega, fun e => by cases e; have := HD.out; omega, fun e => by cases e⟩, R4.out⟩
end Go.Proofs.Ytdkjdlimcnddkaa

namespace Go.Proofs.Ytdkjdlimcnddkaa
open Go.RowKit Flt
attribute [local go_sem] alloc_drewN setCell_drewN run_store_float

set_option maxRecDepth 100000 in
set_option maxHeartbeats 2000000 in
theorem keeps_many (w : World) (P : Nat) (u1 u3 : Value) (vs : List Vl) (c : Int) (base : Nat) (R : Option Nat) (g cap : Nat) (h : BS w P u1 u3 vs c base R (.slice (some ⟨g, 0, none⟩) vs.length cap)) (hl : 2000 < vs.length) :
    Calls Try.prog 93 #[.pointer (some ⟨P, 0, none⟩)] w fun e w' => e = .returned (.bool false) ∧ w' = w := by
  have c1 := h.c1
  clear h
  generalize vs.length = n at c1 hl
  have t1 : ¬ ((n : Int) ≤ 2000) := by omega
  go_enter Try.func93, Try.ntmps93
  go_wp2
  go_ret
  exact ⟨rfl, rfl⟩
set_option maxRecDepth 100000 in
set_option maxHeartbeats 2000000 in
theorem keeps_cells (w : World) (P : Nat) (u1 u3 : Value) (vs : List Vl) (c : Int) (base : Nat) (R : Option Nat) (g cap : Nat) (h : BS w P u1 u3 vs c base R (.slice (some ⟨g, 0, none⟩) vs.length cap)) (hl : vs.length ≤ 2000) (hc : 50000 < c) :
    Calls Try.prog 93 #[.pointer (some ⟨P, 0, none⟩)] w fun e w' => e = .returned (.bool false) ∧ w' = w := by
  have c1 := h.c1
  have c3 := h.c3
  clear h
  generalize vs.length = n at c1 hl
  have t1 : (n : Int) ≤ 2000 := by omega
  have t2 : decide (c ≤ 50000) = false := decide_eq_false (by omega)
  go_enter Try.func93, Try.ntmps93
  go_wp2
  go_ret
  exact ⟨rfl, rfl⟩
set_option maxRecDepth 100000 in
set_option maxHeartbeats 2000000 in
theorem keeps_ok (w : World) (P : Nat) (u1 u3 : Value) (vs : List Vl) (c : Int) (base : Nat) (R : Option Nat) (g cap : Nat) (h : BS w P u1 u3 vs c base R (.slice (some ⟨g, 0, none⟩) vs.length cap)) (hl : vs.length ≤ 2000) (hc : c ≤ 50000) :
    Calls Try.prog 93 #[.pointer (some ⟨P, 0, none⟩)] w fun e w' => e = .returned (.bool true) ∧ w' = w := by
  have c1 := h.c1
  have c3 := h.c3
  clear h
  generalize vs.length = n at c1 hl
  have t1 : (n : Int) ≤ 2000 := by omega
  have t2 : decide (c ≤ 50000) = true := decide_eq_true hc
  go_enter Try.func93, Try.ntmps93
  go_wp2
  go_ret
  exact ⟨rfl, rfl⟩
set_option maxRecDepth 100000 in
set_option maxHeartbeats 2000000 in
/-- answer of a builder that breaks the limits. -/
theorem answer_bad (w : World) (P : Nat) (at' : Int) (h : ∀ w', Kept 0 0 w w' → Calls Try.prog 93 #[.pointer (some ⟨P, 0, none⟩)] w' fun e w'' => e = .returned (.bool false) ∧ w'' = w') :
    Calls Try.prog 39 #[.pointer (some ⟨P, 0, none⟩), .int .i64 at'] w fun e w' => e = .returned (.tuple #[gnil, .int .i64 0, .int .i64 5]) ∧ Kept 0 0 w w' := by
  have k1 := kept_alloc 0 0 w nbox
  have HX : Hid _ := h _ k1
  have HK : Hid _ := k1
  clear h k1
  go_enter Try.func39, Try.ntmps39
  go_wp2_with fail
  refine Calls.mono HX.out ?_
  rintro e w2 ⟨rfl, rfl⟩
  go_wp2_with fail
  refine bodyPost_ret (v := .tuple #[gnil, .int .i64 0, .int .i64 5]) (by simp [results, Try.results39, go_sem]) rfl ⟨rfl, HK.out⟩
theorem BS.keepK {w w' : World} {P : Nat} {u1 u3 : Value} {vs : List Vl} {c : Int} {base : Nat} {R : Option Nat} {vv : Value} (h : BS w P u1 u3 vs c base R vv) (k : Kept 0 0 w w') : BS w' P u1 u3 vs c base R vv := h.keep k
theorem answer_many (w : World) (P : Nat) (u1 u3 : Value) (vs : List Vl) (c : Int) (base : Nat) (R : Option Nat) (g cap : Nat) (at' : Int) (h : BS w P u1 u3 vs c base R (.slice (some ⟨g, 0, none⟩) vs.length cap)) (hl : 2000 < vs.length) :
    Calls Try.prog 39 #[.pointer (some ⟨P, 0, none⟩), .int .i64 at'] w fun e w' => e = .returned (.tuple #[gnil, .int .i64 0, .int .i64 5]) ∧ Kept 0 0 w w' :=
  answer_bad w P at' fun w' k => keeps_many w' P u1 u3 vs c base R g cap (h.keepK k) hl
theorem answer_cells (w : World) (P : Nat) (u1 u3 : Value) (vs : List Vl) (c : Int) (base : Nat) (R : Option Nat) (g cap : Nat) (at' : Int) (h : BS w P u1 u3 vs c base R (.slice (some ⟨g, 0, none⟩) vs.length cap)) (hl : vs.length ≤ 2000) (hc : 50000 < c) :
    Calls Try.prog 39 #[.pointer (some ⟨P, 0, none⟩), .int .i64 at'] w fun e w' => e = .returned (.tuple #[gnil, .int .i64 0, .int .i64 5]) ∧ Kept 0 0 w w' :=
  answer_bad w P at' fun w' k => keeps_cells w' P u1 u3 vs c base R g cap (h.keepK k) hl hc
set_option maxRecDepth 100000 in
set_option maxHeartbeats 2000000 in
theorem answer_ok (w : World) (P : Nat) (b1 b3 : Option Addr) (m1 e1 m3 e3 : Nat) (vs : List Vl) (c : Int) (base : Nat) (R : Option Nat) (g cap : Nat) (at' : Int) (h : BS w P (.slice b1 m1 e1) (.slice b3 m3 e3) vs c base R (.slice (some ⟨g, 0, none⟩) vs.length cap)) (hl : vs.length ≤ 2000) (hc : c ≤ 50000) :
    Calls Try.prog 39 #[.pointer (some ⟨P, 0, none⟩), .int .i64 at'] w fun e w' => e = .returned (.tuple #[.agg #[.slice b1 m1 e1, .slice (some ⟨g, 0, none⟩) vs.length cap, .slice b3 m3 e3], .int .i64 at', .int .i64 0]) ∧ Kept 0 0 w w' := by
  have k1 := kept_alloc 0 0 w nbox
  have HX : Hid _ := keeps_ok _ P _ _ vs c base R g cap (h.keepK k1) hl hc
  have c0 := kcell k1 h.lt h.c0
  have c1 := kcell k1 h.lt h.c1
  have c2 := kcell k1 h.lt h.c2
  have c3 := kcell k1 h.lt h.c3
  have hP : P ≠ w.heap.size := by have := h.lt; omega
  clear h k1
  generalize vs.length = n at c1 hl ⊢
  go_enter Try.func39, Try.ntmps39
  go_wp2_with fail
  refine Calls.mono HX.out ?_
  rintro e w2 ⟨rfl, rfl⟩
  clear HX
  go_wp2_with fail
  refine bodyPost_ret (v := .tuple #[.agg #[.slice b1 m1 e1, .slice (some ⟨g, 0, none⟩) n cap, .slice b3 m3 e3], .int .i64 at', .int .i64 0]) (by simp [results, Try.results39, go_sem]) rfl ⟨rfl, ?_⟩
  exact kept_alloc 0 0 w _
end Go.Proofs.Ytdkjdlimcnddkaa
