import Derived.Test.YtcphabjekfihnaaV03
import Derived.Test.YtcphabjekfihnaaR04
import Derived.Test.YtcphabjekfihnaaP21
import Derived.Test.YtcphabjekfihnaaV02
import Derived.Test.YtcphabjekfihnaaR07
namespace Go.Proofs.Ytcphabjekfihnaa
open Go.RowKit Flt

/-! What a code means. -/
/-- What a cell holds after the first n steps. -/
def cellM (ss : List Ste) (rs : List (List Nat)) : Nat → Int → Nat
  | 0, _ => 0
  | n + 1, c => if (ss.getD n Ste.zero).dst ≤ c ∧ c < (ss.getD n Ste.zero).dst + (ss.getD n Ste.zero).len then (rs.getD n []).getD (c - (ss.getD n Ste.zero).dst).toNat 0 else cellM ss rs n c
def readM (ss : List Ste) (rs : List (List Nat)) (n : Nat) (off len : Int) : List Nat := (List.range len.toNat).map fun j => cellM ss rs n (off + (j : Nat))
/-- What step s answers, from what the n steps before it answered. -/
def doM (xss : List (List Nat)) (ss : List Ste) (rs : List (List Nat)) (n : Nat) (s : Ste) : List Nat :=
  if s.op = 0 then xss.getD s.a.toNat [] else
    kern s.op s.len s.c s.k (if 0 < cnt s.op then readM ss rs n s.a s.n else []) (if 1 < cnt s.op then readM ss rs n s.b s.len else []) (if 2 < cnt s.op then readM ss rs n s.c s.len else [])
def resTo (xss : List (List Nat)) (ss : List Ste) : Nat → List (List Nat)
  | 0 => []
  | i + 1 => resTo xss ss i ++ [doM xss ss (resTo xss ss i) i (ss.getD i Ste.zero)]
def runM (xss : List (List Nat)) (ss : List Ste) (os : List Spn) : List (List Nat) := os.map fun p => readM ss (resTo xss ss ss.length) ss.length p.off p.len

theorem resTo_len (xss : List (List Nat)) (ss : List Ste) : ∀ i, (resTo xss ss i).length = i
  | 0 => rfl
  | i + 1 => by rw [resTo, List.length_append, resTo_len xss ss i]; rfl
theorem resTo_lt (xss : List (List Nat)) (ss : List Ste) {i j : Nat} (h : j < i) : (resTo xss ss (i + 1)).getD j [] = (resTo xss ss i).getD j [] := by
  rw [resTo, List.getD_eq_getElem?_getD, List.getElem?_append_left (by rw [resTo_len]; exact h), ← List.getD_eq_getElem?_getD]
theorem resTo_at (xss : List (List Nat)) (ss : List Ste) (i : Nat) : (resTo xss ss (i + 1)).getD i [] = doM xss ss (resTo xss ss i) i (ss.getD i Ste.zero) := by
  rw [resTo, List.getD_eq_getElem?_getD, List.getElem?_append_right (by rw [resTo_len]; exact Nat.le_refl _), resTo_len, Nat.sub_self]; rfl
theorem cellM_congr {ss : List Ste} {rs rs' : List (List Nat)} : ∀ {n : Nat}, (∀ k, k < n → rs.getD k [] = rs'.getD k []) → ∀ c, cellM ss rs n c = cellM ss rs' n c
  | 0, _, _ => rfl
  | n + 1, h, c => by
    unfold cellM
    rw [h n (Nat.lt_succ_self _), cellM_congr (n := n) (fun k hk => h k (by omega)) c]
theorem cellM_succ (xss : List (List Nat)) (ss : List Ste) (n : Nat) (c : Int) : cellM ss (resTo xss ss (n + 1)) (n + 1) c = if (ss.getD n Ste.zero).dst ≤ c ∧ c < (ss.getD n Ste.zero).dst + (ss.getD n Ste.zero).len then (doM xss ss (resTo xss ss n) n (ss.getD n Ste.zero)).getD (c - (ss.getD n Ste.zero).dst).toNat 0 else cellM ss (resTo xss ss n) n c := by
  rw [cellM, resTo_at, cellM_congr (rs' := resTo xss ss n) (fun k hk => resTo_lt xss ss hk)]
theorem readM_len (ss : List Ste) (rs : List (List Nat)) (n : Nat) (off len : Int) : (readM ss rs n off len).length = len.toNat := by simp [readM]
theorem readM_at {ss : List Ste} {rs : List (List Nat)} {n : Nat} {off len : Int} {k : Nat} (h : k < len.toNat) : (readM ss rs n off len).getD k 0 = cellM ss rs n (off + (k : Nat)) := by
  simp [readM, List.getD_eq_getElem?_getD, h]
theorem cellM_lt {ss : List Ste} {rs : List (List Nat)} (h : Words rs) : ∀ n c, cellM ss rs n c < 18446744073709551616
  | 0, _ => by show 0 < 18446744073709551616; decide
  | n + 1, c => by
    unfold cellM
    split
    · exact getD_lt (h n) _
    · exact cellM_lt h n c
theorem readM_lt {ss : List Ste} {rs : List (List Nat)} (h : Words rs) (n : Nat) (off len : Int) : ∀ x ∈ readM ss rs n off len, x < 18446744073709551616 := by
  intro x hx
  obtain ⟨k, _, rfl⟩ := List.mem_map.1 hx
  exact cellM_lt h _ _
theorem doM_lt {xss : List (List Nat)} {ss : List Ste} {rs : List (List Nat)} {n : Nat} {s : Ste} (hx : Words xss) (hs : s.k < 18446744073709551616) (hr : Words rs) : ∀ x ∈ doM xss ss rs n s, x < 18446744073709551616 := by
  unfold doM
  split
  · exact hx _
  · exact kern_lt hs (ite_lt (readM_lt hr _ _ _)) (ite_lt (readM_lt hr _ _ _)) (ite_lt (readM_lt hr _ _ _))
theorem res_lt {xss : List (List Nat)} {ss : List Ste} (hx : Words xss) (hv : ∀ k, (ss.getD k Ste.zero).k < 18446744073709551616) : ∀ i, Words (resTo xss ss i)
  | 0 => fun k x h => by simp [resTo] at h
  | i + 1 => fun k x h => by
    have ih := res_lt hx hv i
    rcases Nat.lt_trichotomy k i with c | c | c
    · rw [resTo_lt xss ss c] at h; exact ih k x h
    · subst c; rw [resTo_at] at h; exact doM_lt hx (hv _) ih x h
    · rw [List.getD_eq_getElem?_getD, List.getElem?_eq_none (by rw [resTo_len]; omega)] at h; cases h
/-- A step that is as it should be answers as many elements as it says. -/
theorem doM_len {ins : List Int} {xss : List (List Nat)} {ss : List Ste} {rs : List (List Nat)} {n : Nat} {s : Ste} (hi : inB ins xss = true) (h : formB ins s = true) : ((doM xss ss rs n s).length : Int) = s.len := by
  have hl := form_len h
  unfold doM
  by_cases h0 : s.op = 0
  · rw [if_pos h0]
    unfold formB at h
    rw [if_pos h0] at h
    simp only [Bool.and_eq_true] at h
    have h3 := h.2
    have ha := of_decide_eq_true h3.1
    unfold inB at hi
    rw [Bool.and_eq_true] at hi
    have hx := List.all_eq_true.1 hi.2 s.a.toNat (List.mem_range.2 (by omega))
    rw [beq_iff_eq.1 hx]
    exact beq_iff_eq.1 h3.2
  · rw [if_neg h0]
    have hs := form_shape h h0
    have hn := fun hc => form_n h hc
    have hc := cnt_le s.op
    rw [kern_len]
    · omega
    · unfold fitB
      rw [lenB_true hl.1 hl.2, Bool.true_and]
      have e2 : ((readM ss rs n s.b s.len).length : Int) = s.len := by rw [readM_len]; omega
      have e3 : ((readM ss rs n s.c s.len).length : Int) = s.len := by rw [readM_len]; omega
      have e1 : 0 < cnt s.op → ((readM ss rs n s.a s.n).length : Int) = s.n := fun hc => by have := hn hc; rw [readM_len]; omega
      rcases (by omega : cnt s.op = 0 ∨ cnt s.op = 1 ∨ cnt s.op = 2 ∨ cnt s.op = 3) with e | e | e | e
      · rw [e] at hs ⊢; exact hs
      · rw [e] at hs e1 ⊢
        simp only [List.take_succ_cons, List.take_zero] at hs ⊢
        rw [if_pos (by omega), e1 (by omega)]
        exact hs
      · rw [e] at hs e1 ⊢
        simp only [List.take_succ_cons, List.take_zero] at hs ⊢
        rw [if_pos (by omega), if_pos (by omega), e1 (by omega), e2]
        exact hs
      · rw [e] at hs e1 ⊢
        simp only [List.take_succ_cons, List.take_zero] at hs ⊢
        rw [if_pos (by omega), if_pos (by omega), if_pos (by omega), e1 (by omega), e2, e3]
        exact hs
end Go.Proofs.Ytcphabjekfihnaa

namespace Go.Proofs.Ytcphabjekfihnaa
open Go.RowKit Flt
attribute [local go_sem] alloc_drewN setCell_drewN run_store_float

set_option maxRecDepth 100000 in
set_option maxHeartbeats 4000000 in
theorem markT (w : World) (g n cap : Nat) (k : Int) (vs : List Ste) (hF : TA w g n vs) (h0 : 0 ≤ k) (h1 : k ≤ 1099511627776) (hn : n ≤ 1099511627776) :
    Calls Try.prog 144 #[.slice (some ⟨g, 0, none⟩) n cap, .int .i64 k] w fun e w' => e = .returned (.int .i64 (k + 8 * n)) ∧ Kept g (g + 1) w w' := by
  go_enter Try.func144, Try.ntmps144
  go_wp2_with fail
  go_loopw [1, 5] (fun kv i W => ∃ j : Nat, j ≤ n ∧ i = .int .i64 j ∧ kv = .int .i64 (k + 8 * j) ∧ (∃ ys, TA W g n ys) ∧ Kept g (g + 1) w W) (fun _ i _ => n - (intOf i).toNat)
  case atStart => exact ⟨0, Nat.zero_le _, rfl, by simp, ⟨vs, hF⟩, Kept.refl _ _ _⟩
  case round =>
    obtain ⟨j, hj, rfl, rfl, ⟨ys, hFW⟩, hKW⟩ := hrel
    by_cases hlt : j < n
    · obtain ⟨d0, d1, d2, d3, d4, d5, d6, d7⟩ := hFW.at_ j hlt
      have c3 := hFW.free
      generalize hkk : k + 8 * (j : Int) = kk
      have b0 : 0 ≤ kk := by omega
      have b1 : kk ≤ 10995116277760 := by omega
      have R1 : Hid _ := hFW.step j hlt ⟨kk, kk + 1, kk + 1 + 1, kk + 1 + 1 + 1, kk + 1 + 1 + 1 + 1, kk + 1 + 1 + 1 + 1 + 1, kk + 1 + 1 + 1 + 1 + 1 + 1, floatOfInt .f64 (kk + 1 + 1 + 1 + 1 + 1 + 1 + 1)⟩
      have R2 : Hid _ := hKW.trans (put8_kept wr g (j * 8) ⟨kk, kk + 1, kk + 1 + 1, kk + 1 + 1 + 1, kk + 1 + 1 + 1 + 1, kk + 1 + 1 + 1 + 1 + 1, kk + 1 + 1 + 1 + 1 + 1 + 1, floatOfInt .f64 (kk + 1 + 1 + 1 + 1 + 1 + 1 + 1)⟩)
      have R3 : Hid (k + 8 * (j : Int) = kk) := hkk
      clear hFW hKW hF hkk
      go_wp2
      go_roundw
      case rel => exact ⟨j + 1, by omega, by go_num, by have := R3.out; congr 1; omega, ⟨_, R1.out⟩, R2.out⟩
      case measure => simp [intOf]; omega
    · obtain rfl : j = n := by omega
      clear hF hFW
      go_wp2
      go_ret
      exact ⟨rfl, hKW⟩
set_option maxRecDepth 100000 in
set_option maxHeartbeats 4000000 in
theorem markP (w : World) (g n cap : Nat) (k : Int) (vs : List Spn) (hF : PA w g n vs) (h0 : 0 ≤ k) (h1 : k ≤ 1099511627776) (hn : n ≤ 1099511627776) :
    Calls Try.prog 145 #[.slice (some ⟨g, 0, none⟩) n cap, .int .i64 k] w fun e w' => e = .returned (.int .i64 (k + 2 * n)) ∧ Kept g (g + 1) w w' := by
  go_enter Try.func145, Try.ntmps145
  go_wp2_with fail
  go_loopw [1, 5] (fun kv i W => ∃ j : Nat, j ≤ n ∧ i = .int .i64 j ∧ kv = .int .i64 (k + 2 * j) ∧ (∃ ys, PA W g n ys) ∧ Kept g (g + 1) w W) (fun _ i _ => n - (intOf i).toNat)
  case atStart => exact ⟨0, Nat.zero_le _, rfl, by simp, ⟨vs, hF⟩, Kept.refl _ _ _⟩
  case round =>
    obtain ⟨j, hj, rfl, rfl, ⟨ys, hFW⟩, hKW⟩ := hrel
    by_cases hlt : j < n
    · obtain ⟨d0, d1⟩ := hFW.at_ j hlt
      have c3 := hFW.free
      generalize hkk : k + 2 * (j : Int) = kk
      have b0 : 0 ≤ kk := by omega
      have b1 : kk ≤ 10995116277760 := by omega
      have R1 : Hid _ := hFW.step j hlt ⟨kk, kk + 1⟩
      have R2 : Hid _ := hKW.trans (put2p_kept wr g (j * 2) ⟨kk, kk + 1⟩)
      have R3 : Hid (k + 2 * (j : Int) = kk) := hkk
      clear hFW hKW hF hkk
      go_wp2
      go_roundw
      case rel => exact ⟨j + 1, by omega, by go_num, by have := R3.out; congr 1; omega, ⟨_, R1.out⟩, R2.out⟩
      case measure => simp [intOf]; omega
    · obtain rfl : j = n := by omega
      clear hF hFW
      go_wp2
      go_ret
      exact ⟨rfl, hKW⟩
set_option maxRecDepth 100000 in
set_option maxHeartbeats 2000000 in
theorem markC (w : World) (lo g1 g2 g3 n1 n2 n3 c1 c2 c3 : Nat) (pk : Int) (ins : List Int) (ss : List Ste) (os : List Spn) (f : CO w lo g1 g2 g3 n2 n3 ins ss os) (hn1 : ins.length = n1) (k : Int) (h0 : 0 ≤ k) (h1 : k ≤ 1000000000) (b1 : n1 ≤ 1048576) (b2 : n2 ≤ 1048576) (b3 : n3 ≤ 1048576) :
    Calls Try.prog 62 #[cagg (some ⟨g1, 0, none⟩) n1 c1 (some ⟨g2, 0, none⟩) n2 c2 (some ⟨g3, 0, none⟩) n3 c3 pk, .int .i64 k] w fun e w' => e = .returned (.int .i64 (k + n1 + 8 * n2 + 2 * n3)) ∧ Kept lo (g3 + 1) w w' := by
  have hK := kept_alloc lo (g3 + 1) w (cbox (some ⟨g1, 0, none⟩) n1 c1 (some ⟨g2, 0, none⟩) n2 c2 (some ⟨g3, 0, none⟩) n3 c3 pk)
  have hB := c0_start w (.slice (some ⟨g1, 0, none⟩) n1 c1) (.slice (some ⟨g2, 0, none⟩) n2 c2) (.slice (some ⟨g3, 0, none⟩) n3 c3) (.int .i64 pk)
  have ka := kept_alloc 0 0 w (cbox (some ⟨g1, 0, none⟩) n1 c1 (some ⟨g2, 0, none⟩) n2 c2 (some ⟨g3, 0, none⟩) n3 c3 pk)
  have fi := f.i.keep ka (.inr (.inr (Nat.le_refl _)))
  have fv := f.s.keep ka (.inr (.inr (Nat.le_refl _)))
  have fo := f.o.keep ka (.inr (.inr (Nat.le_refl _)))
  have HO : Hid (lo ≤ g1 ∧ g1 < g2 ∧ g2 < g3 ∧ g3 < w.heap.size) := ⟨f.l1, f.l2, f.l3, f.o.lt⟩
  have HFI : Hid _ := fi
  have HFV : Hid _ := fv
  have HFO : Hid _ := fo
  have HB : Hid _ := hB
  have HK : Hid _ := hK
  have HN : Hid (ins.length = n1) := hn1
  clear f ka fi fv fo hB hK hn1
  go_enter Try.func62, Try.ntmps62
  go_wp2_with fail
  generalize hw1 : w.alloc (cbox (some ⟨g1, 0, none⟩) n1 c1 (some ⟨g2, 0, none⟩) n2 c2 (some ⟨g3, 0, none⟩) n3 c3 pk) = w1 at HFI HFV HFO HB HK ⊢
  clear hw1
  refine Calls.mono (markIO _ g1 n1 _ k ins (IR.io HFI.out HN.out) h0 (by omega) (by omega)) ?_
  rintro e w2 ⟨rfl, _, k2⟩
  have HFV2 : Hid _ := TA.keep HFV.out k2 (by have := HO.out; omega)
  have HFO2 : Hid _ := PA.keep HFO.out k2 (by have := HO.out; omega)
  have HB2 : Hid _ := C0.keepR HB.out k2 (by have := HO.out; omega)
  have HK2 : Hid _ := Kept.trans HK.out (k2.growT (by have := HO.out; omega) (by have := HO.out; omega))
  clear k2 HFI HFV HFO HB HK
  obtain ⟨_, q0, q1, q2, q3⟩ := HB2.out
  go_wp2_with fail
  clear q0 q1 q2 q3
  refine Calls.mono (markT _ g2 n2 _ (k + n1) ss HFV2.out (by omega) (by omega) (by omega)) ?_
  rintro e w3 ⟨rfl, k3⟩
  have HFO3 : Hid _ := PA.keep HFO2.out k3 (by have := HO.out; omega)
  have HB3 : Hid _ := C0.keepR HB2.out k3 (by have := HO.out; omega)
  have HK3 : Hid _ := Kept.trans HK2.out (k3.growT (by have := HO.out; omega) (by have := HO.out; omega))
  clear k3 HFV2 HFO2 HB2 HK2
  obtain ⟨_, q0, q1, q2, q3⟩ := HB3.out
  go_wp2_with fail
  clear q0 q1 q2 q3
  refine Calls.mono (markP _ g3 n3 _ (k + n1 + 8 * n2) os HFO3.out (by omega) (by omega) (by omega)) ?_
  rintro e w4 ⟨rfl, k4⟩
  have HK4 : Hid _ := Kept.trans HK3.out (k4.growT (by have := HO.out; omega) (by have := HO.out; omega))
  clear k4 HFO3 HB3 HK3
  go_wp2
  go_ret
  exact ⟨rfl, HK4.out⟩

end Go.Proofs.Ytcphabjekfihnaa

