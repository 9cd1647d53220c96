import Derived.Test.YtcphabjekfihnaaR02
namespace Go.Proofs.Ytcphabjekfihnaa
open Go.RowKit Flt
attribute [local go_sem] alloc_drewN setCell_drewN run_store_float

set_option maxRecDepth 100000 in
set_option maxHeartbeats 1000000 in
theorem markFO (w : World) (g n cap : Nat) (k : Int) (xs : List Nat) (hF : FO w g n xs) (h0 : 0 ≤ k) (h1 : k ≤ 1099511627776) (hn : n ≤ 1099511627776) :
    Calls Try.prog 33 #[.slice (some ⟨g, 0, none⟩) n cap, .int .i64 k] w fun e w' => e = .returned (.int .i64 (k + n)) ∧ FO w' g n (marks k n) ∧ Kept g (g + 1) w w' := by
  have HX : Hid (xs.length = n) := hF.len
  go_enter Try.func33, Try.ntmps33
  go_wp2_with fail
  go_loopw [1, 5] (fun kv i W => ∃ j : Nat, j ≤ n ∧ i = .int .i64 j ∧ kv = .int .i64 (k + j) ∧ FO W g n ((marks k n).take j ++ xs.drop j) ∧ Kept g (g + 1) w W) (fun _ i _ => n - (intOf i).toNat)
  case atStart => exact ⟨0, Nat.zero_le _, rfl, by simp, by simpa using hF, Kept.refl _ _ _⟩
  case round =>
    obtain ⟨j, hj, rfl, rfl, hFW, hKW⟩ := hrel
    by_cases hlt : j < n
    · have c2 := hFW.at_ j hlt
      have c3 := hFW.free j
      have R1 : Hid _ := hFW.put j hlt (floatOfInt .f64 (k + (j : Int))) (ofInt_lt64 _)
      have R2 : Hid _ := hKW.trans (kept_setCell (lo := g) (hi := g + 1) wr ⟨g, j, none⟩ (.float .f64 (floatOfInt .f64 (k + (j : Int)))) (.inl ⟨Nat.le_refl _, Nat.lt_succ_self _⟩))
      clear hFW hKW hF
      go_wp2
      go_roundw
      case rel =>
        refine ⟨j + 1, by omega, by go_num, by go_num, ?_, R2.out⟩
        have := R1.out
        rw [mark_set k n j xs hlt HX.out] at this
        exact this
      case measure => simp [intOf]; omega
    · obtain rfl : j = n := by omega
      clear hF
      go_wp2
      go_ret
      refine ⟨rfl, ?_, hKW⟩
      rw [List.take_of_length_le (by rw [marks_len]; omega), List.drop_of_length_le (by rw [HX.out]; omega), List.append_nil] at hFW
      exact hFW
set_option maxRecDepth 100000 in
set_option maxHeartbeats 1000000 in
theorem heldFO (w : World) (g n cap : Nat) (k : Int) (hF : FO w g n (marks k n)) (h0 : 0 ≤ k) (h1 : k ≤ 1099511627776) (hn : n ≤ 1099511627776) :
    Calls Try.prog 34 #[.slice (some ⟨g, 0, none⟩) n cap, .int .i64 k] w fun e w' => e = .returned (.int .i64 (k + n)) ∧ w = w' := by
  go_enter Try.func34, Try.ntmps34
  go_wp2_with fail
  go_loop [1, 5] (fun kv i => ∃ j : Nat, j ≤ n ∧ i = .int .i64 j ∧ kv = .int .i64 (k + j)) (fun _ i => n - (intOf i).toNat)
  case atStart => exact ⟨0, Nat.zero_le _, rfl, by simp⟩
  case round =>
    obtain ⟨j, hj, rfl, rfl⟩ := hrel
    by_cases hlt : j < n
    · have c2 := hF.at_ j hlt
      rw [marks_at k n j hlt] at c2
      have c3 := ofInt_num (k + (j : Int))
      clear hF
      go_wp2
      go_round
      case rel => exact ⟨j + 1, by omega, by go_num, by go_num⟩
      case measure => simp [intOf]; omega
    · obtain rfl : j = n := by omega
      clear hF
      go_wp2
      go_ret
      exact ⟨rfl, rfl⟩

set_option maxRecDepth 100000 in
set_option maxHeartbeats 1000000 in
theorem markI (w : World) (g n cap : Nat) (k : Int) (xs : List Int) (hF : IR w g xs) (hx : xs.length = n) (h0 : 0 ≤ k) (h1 : k ≤ 1099511627776) (hn : n ≤ 1099511627776) :
    Calls Try.prog 113 #[.slice (some ⟨g, 0, none⟩) n cap, .int .i64 k] w fun e w' => e = .returned (.int .i64 (k + n)) ∧ Kept g (g + 1) w w' := by
  go_enter Try.func113, Try.ntmps113
  go_wp2_with fail
  go_loopw [1, 5] (fun kv i W => ∃ j : Nat, j ≤ n ∧ i = .int .i64 j ∧ kv = .int .i64 (k + j) ∧ (∃ ys, IR W g ys ∧ ys.length = n) ∧ Kept g (g + 1) w W) (fun _ i _ => n - (intOf i).toNat)
  case atStart => exact ⟨0, Nat.zero_le _, rfl, by simp, ⟨xs, hF, hx⟩, Kept.refl _ _ _⟩
  case round =>
    obtain ⟨j, hj, rfl, rfl, ⟨ys, hFW, hy⟩, hKW⟩ := hrel
    by_cases hlt : j < n
    · have c2 := hFW.cell j (by omega)
      have c3 := hFW.free j
      have R1 : Hid _ := hFW.set j (k + (j : Int))
      have R2 : Hid _ := hKW.trans (kept_setCell (lo := g) (hi := g + 1) wr ⟨g, j, none⟩ (.int .i64 (k + (j : Int))) (.inl ⟨Nat.le_refl _, Nat.lt_succ_self _⟩))
      have R3 : Hid ((ys.set j (k + (j : Int))).length = n) := by show (ys.set j (k + (j : Int))).length = n; rw [List.length_set]; exact hy
      clear hFW hKW hF hx hy
      go_wp2
      go_roundw
      case rel => exact ⟨j + 1, by omega, by go_num, by go_num, ⟨_, R1.out, R3.out⟩, R2.out⟩
      case measure => simp [intOf]; omega
    · obtain rfl : j = n := by omega
      clear hF hFW hx hy
      go_wp2
      go_ret
      exact ⟨rfl, hKW⟩

set_option maxRecDepth 100000 in
set_option maxHeartbeats 4000000 in
theorem markV (w : World) (g n cap : Nat) (k : Int) (vs : List Vl) (hF : VA w g n vs) (h0 : 0 ≤ k) (h1 : k ≤ 1099511627776) (hn : n ≤ 1099511627776) :
    Calls Try.prog 114 #[.slice (some ⟨g, 0, none⟩) n cap, .int .i64 k] w fun e w' => e = .returned (.int .i64 (k + 6 * n)) ∧ Kept g (g + 1) w w' := by
  go_enter Try.func114, Try.ntmps114
  go_wp2_with fail
  go_loopw [1, 5] (fun kv i W => ∃ j : Nat, j ≤ n ∧ i = .int .i64 j ∧ kv = .int .i64 (k + 6 * j) ∧ (∃ ys, VA W g n ys) ∧ Kept g (g + 1) w W) (fun _ i _ => n - (intOf i).toNat)
  case atStart => exact ⟨0, Nat.zero_le _, rfl, by simp, ⟨vs, hF⟩, Kept.refl _ _ _⟩
  case round =>
    obtain ⟨j, hj, rfl, rfl, ⟨ys, hFW⟩, hKW⟩ := hrel
    by_cases hlt : j < n
    · obtain ⟨d0, d1, d2, d3, d4, d5⟩ := hFW.at_ j hlt
      have c3 := hFW.free
      generalize hkk : k + 6 * (j : Int) = kk
      have b0 : 0 ≤ kk := by omega
      have b1 : kk ≤ 10995116277760 := by omega
      have R1 : Hid _ := hFW.step j hlt ⟨kk, kk + 1, kk + 1 + 1, kk + 1 + 1 + 1, kk + 1 + 1 + 1 + 1, floatOfInt .f64 (kk + 1 + 1 + 1 + 1 + 1)⟩
      have R2 : Hid _ := hKW.trans (put6_kept wr g (j * 6) ⟨kk, kk + 1, kk + 1 + 1, kk + 1 + 1 + 1, kk + 1 + 1 + 1 + 1, floatOfInt .f64 (kk + 1 + 1 + 1 + 1 + 1)⟩)
      have R3 : Hid (k + 6 * (j : Int) = kk) := hkk
      clear hFW hKW hF hkk
      go_wp2
      go_roundw
      case rel => exact ⟨j + 1, by omega, by go_num, by have := R3.out; congr 1; omega, ⟨_, R1.out⟩, R2.out⟩
      case measure => simp [intOf]; omega
    · obtain rfl : j = n := by omega
      clear hF hFW
      go_wp2
      go_ret
      exact ⟨rfl, hKW⟩
theorem G0.keepR {W W' : World} {p l h : Nat} {b0 b1 b2 : Value} (t : G0 W p b0 b1 b2) (k : Kept l h W W') (hd : p < l ∨ h ≤ p ∨ h ≤ l) : G0 W' p b0 b1 b2 := by
  have e : ∀ o, W'.cell? ⟨p, o, none⟩ = W.cell? ⟨p, o, none⟩ := fun o => k.cell (p := ⟨p, o, none⟩) t.sz (by show ¬ (l ≤ p ∧ p < h); omega)
  exact ⟨Nat.lt_of_lt_of_le t.sz k.size, by rw [e]; exact t.q0, by rw [e]; exact t.q1, by rw [e]; exact t.q2⟩
theorem Kept.grow {lo hi l h : Nat} {w w' : World} (k : Kept l h w w') (h1 : lo ≤ l) (h2 : h ≤ hi) : Kept lo hi w w' := k.mono fun _ _ c => ⟨by omega, by omega⟩

set_option maxRecDepth 100000 in
set_option maxHeartbeats 2000000 in
theorem markG (w : World) (lo g1 g2 g3 n1 n2 n3 c1 c2 c3 : Nat) (ins : List Int) (vs : List Vl) (outs : List Int) (f : GO w lo g1 g2 g3 n2 ins vs outs) (hn1 : ins.length = n1) (hn3 : outs.length = n3) (k : Int) (h0 : 0 ≤ k) (h1 : k ≤ 1000000000) (b1 : n1 ≤ 1048576) (b2 : n2 ≤ 1048576) (b3 : n3 ≤ 1048576) :
    Calls Try.prog 45 #[gagg (some ⟨g1, 0, none⟩) n1 c1 (some ⟨g2, 0, none⟩) n2 c2 (some ⟨g3, 0, none⟩) n3 c3, .int .i64 k] w fun e w' => e = .returned (.int .i64 (k + n1 + 6 * n2 + n3)) ∧ Kept lo (g3 + 1) w w' := by
  have hK := kept_alloc lo (g3 + 1) w (gbox (some ⟨g1, 0, none⟩) n1 c1 (some ⟨g2, 0, none⟩) n2 c2 (some ⟨g3, 0, none⟩) n3 c3)
  have hB := g0_start w (.slice (some ⟨g1, 0, none⟩) n1 c1) (.slice (some ⟨g2, 0, none⟩) n2 c2) (.slice (some ⟨g3, 0, none⟩) n3 c3)
  have ka := kept_alloc 0 0 w (gbox (some ⟨g1, 0, none⟩) n1 c1 (some ⟨g2, 0, none⟩) n2 c2 (some ⟨g3, 0, none⟩) n3 c3)
  have fi := f.i.keep ka (.inr (.inr (Nat.le_refl _)))
  have fv := f.v.keep ka (.inr (.inr (Nat.le_refl _)))
  have fo := f.o.keep ka (.inr (.inr (Nat.le_refl _)))
  have HO : Hid (lo ≤ g1 ∧ g1 < g2 ∧ g2 < g3 ∧ g3 < w.heap.size) := ⟨f.l1, f.l2, f.l3, f.o.lt⟩
  have HFI : Hid _ := fi
  have HFV : Hid _ := fv
  have HFO : Hid _ := fo
  have HB : Hid _ := hB
  have HK : Hid _ := hK
  have HN : Hid (ins.length = n1 ∧ outs.length = n3) := ⟨hn1, hn3⟩
  clear f ka fi fv fo hB hK hn1 hn3
  go_enter Try.func45, Try.ntmps45
  go_wp2_with fail
  generalize hw1 : w.alloc (gbox (some ⟨g1, 0, none⟩) n1 c1 (some ⟨g2, 0, none⟩) n2 c2 (some ⟨g3, 0, none⟩) n3 c3) = w1 at HFI HFV HFO HB HK ⊢
  clear hw1
  refine Calls.mono (markI _ g1 n1 _ k ins HFI.out HN.out.1 h0 (by omega) (by omega)) ?_
  rintro e w2 ⟨rfl, k2⟩
  have HFV2 : Hid _ := VA.keep HFV.out k2 (by have := HO.out; omega)
  have HFO2 : Hid _ := IR.keep HFO.out k2 (by have := HO.out; omega)
  have HB2 : Hid _ := G0.keepR HB.out k2 (by have := HO.out; omega)
  have HK2 : Hid _ := Kept.trans HK.out (k2.grow (by have := HO.out; omega) (by have := HO.out; omega))
  clear k2 HFI HFV HFO HB HK
  obtain ⟨_, q0, q1, q2⟩ := HB2.out
  go_wp2_with fail
  clear q0 q1 q2
  refine Calls.mono (markV _ g2 n2 _ (k + n1) vs HFV2.out (by omega) (by omega) (by omega)) ?_
  rintro e w3 ⟨rfl, k3⟩
  have HFO3 : Hid _ := IR.keep HFO2.out k3 (by have := HO.out; omega)
  have HB3 : Hid _ := G0.keepR HB2.out k3 (by have := HO.out; omega)
  have HK3 : Hid _ := Kept.trans HK2.out (k3.grow (by have := HO.out; omega) (by have := HO.out; omega))
  clear k3 HFV2 HFO2 HB2 HK2
  obtain ⟨_, q0, q1, q2⟩ := HB3.out
  go_wp2_with fail
  clear q0 q1 q2
  refine Calls.mono (markI _ g3 n3 _ (k + n1 + 6 * n2) outs HFO3.out HN.out.2 (by omega) (by omega) (by omega)) ?_
  rintro e w4 ⟨rfl, k4⟩
  have HK4 : Hid _ := Kept.trans HK3.out (k4.grow (by have := HO.out; omega) (by have := HO.out; omega))
  clear k4 HFO3 HB3 HK3
  go_wp2
  go_ret
  exact ⟨rfl, HK4.out⟩

/-- The marks of list i. -/
def mk (k : Int) (xss : List (List Nat)) (i : Nat) : List Nat := marks (k + total (xss.take i)) (xss.getD i []).length
theorem total_bound {xss : List (List Nat)} {i : Nat} (hi : i < xss.length) : total (xss.take i) + (xss.getD i []).length ≤ total xss := by
  rw [← total_take hi]; exact total_le _ _

set_option maxRecDepth 100000 in
set_option maxHeartbeats 2000000 in
theorem markSS (w : World) (g n cap : Nat) (gf cf : Nat → Nat) (xss : List (List Nat)) (k : Int) (f : SP w g n n gf cf xss) (hl : xss.length = n) (h0 : 0 ≤ k) (h1 : k + total xss ≤ 1099511627776) (hn : n ≤ 1099511627776) (B : Nat) (hB : ∀ i, i < n → gf i < B) :
    Calls Try.prog 46 #[.slice (some ⟨g, 0, none⟩) n cap, .int .i64 k] w fun e w' => e = .returned (.int .i64 (k + total xss)) ∧ (∀ i, i < n → FO w' (gf i) (xss.getD i []).length (mk k xss i)) ∧ Kept (g + 1) B w w' := by
  have HF : Hid _ := f
  have HL : Hid (xss.length = n) := hl
  have HB : Hid _ := hB
  clear f hl hB
  go_enter Try.func46, Try.ntmps46
  go_wp2_with fail
  go_loopw [1, 5] (fun kv i W => ∃ j : Nat, j ≤ n ∧ i = .int .i64 j ∧ kv = .int .i64 (k + total (xss.take j)) ∧ Hid (∀ i, i < n → FO W (gf i) (xss.getD i []).length (if i < j then mk k xss i else xss.getD i [])) ∧ Kept (g + 1) B w W) (fun _ i _ => n - (intOf i).toNat)
  case atStart => exact ⟨0, Nat.zero_le _, rfl, by simp [total], fun i hi => by rw [if_neg (by omega)]; exact HF.out.own i hi, Kept.refl _ _ _⟩
  case round =>
    obtain ⟨j, hj, rfl, rfl, hA, hKW⟩ := hrel
    by_cases hlt : j < n
    · have c : wr.cell? ⟨g, j, none⟩ = some (.slice (some ⟨gf j, 0, none⟩) (xss.getD j []).length (cf j)) := by
        rw [hKW.cell (p := ⟨g, j, none⟩) HF.out.lt (by show ¬ (g + 1 ≤ g ∧ g < _); omega)]; exact HF.out.cell j hlt
      have HT : Hid _ := total_take (xss := xss) (k := j) (by rw [HL.out]; exact hlt)
      have hbd := total_bound (xss := xss) (i := j) (by rw [HL.out]; exact hlt)
      have ho := hA.out j hlt
      rw [if_neg (Nat.lt_irrefl _)] at ho
      have HX : Hid _ := markFO wr (gf j) (xss.getD j []).length (cf j) (k + total (xss.take j)) _ ho (by omega) (by omega) (by omega)
      have HA : Hid _ := hA.out
      have HKW : Hid _ := hKW
      clear ho hA hKW
      have hbd' : Hid _ := hbd
      clear hbd
      generalize hlen : (xss.getD j []).length = m at c HX HT
      go_wp2_with fail
      refine Calls.mono HX.out ?_
      rintro e w2 ⟨rfl, hm, hk2⟩
      have R1 : Hid (∀ i, i < n → FO w2 (gf i) (xss.getD i []).length (if i < j + 1 then mk k xss i else xss.getD i [])) := fun i hi => by
        by_cases e : i = j
        · subst e
          rw [if_pos (Nat.lt_succ_self _)]
          unfold mk
          rw [hlen]
          exact hm
        · have ne : gf i ≠ gf j := by
            rcases Nat.lt_or_ge i j with q | q
            · have := HF.out.inc i j q hlt; omega
            · have := HF.out.inc j i (by omega) hi; omega
          have := (HA.out i hi).keep hk2 (by omega)
          by_cases q : i < j
          · rw [if_pos q] at this; rw [if_pos (by omega)]; exact this
          · rw [if_neg q] at this; rw [if_neg (by omega)]; exact this
      have R2 : Hid _ := Kept.trans HKW.out (hk2.mono (lo' := g + 1) (hi' := B) fun b hb cc => ⟨by have := HF.out.up j hlt; omega, by have := HB.out j hlt; omega⟩)
      clear hk2 hm c HX HA HKW
      go_wp2
      go_roundw
      case rel => exact ⟨j + 1, by omega, by go_num, by rw [HT.out]; congr 1; omega, R1, R2.out⟩
      case measure => simp [intOf]; omega
    · obtain rfl : j = n := by omega
      have R : Hid (total (xss.take j) = total xss) := by
        show total (xss.take j) = total xss
        rw [List.take_of_length_le (by rw [HL.out]; omega)]
      have R2 : Hid (∀ i, i < j → FO wr (gf i) (xss.getD i []).length (mk k xss i)) := fun i hi => by
        have := hA.out i hi
        rw [if_pos hi] at this
        exact this
      clear hA
      go_wp2
      go_ret
      exact ⟨by rw [← R.out]; rfl, R2.out, hKW⟩

set_option maxRecDepth 100000 in
set_option maxHeartbeats 2000000 in
theorem heldSS (w : World) (g n cap : Nat) (gf cf : Nat → Nat) (xss : List (List Nat)) (k : Int) (hc : ∀ i, i < n → w.cell? ⟨g, i, none⟩ = some (.slice (some ⟨gf i, 0, none⟩) (xss.getD i []).length (cf i)))
    (ho : ∀ i, i < n → FO w (gf i) (xss.getD i []).length (mk k xss i)) (hl : xss.length = n) (h0 : 0 ≤ k) (h1 : k + total xss ≤ 1099511627776) (hn : n ≤ 1099511627776) :
    Calls Try.prog 47 #[.slice (some ⟨g, 0, none⟩) n cap, .int .i64 k] w fun e w' => e = .returned (.int .i64 (k + total xss)) ∧ w = w' := by
  have HC : Hid _ := hc
  have HO : Hid _ := ho
  have HL : Hid (xss.length = n) := hl
  clear hc ho hl
  go_enter Try.func47, Try.ntmps47
  go_wp2_with fail
  go_loop [1, 5] (fun kv i => ∃ j : Nat, j ≤ n ∧ i = .int .i64 j ∧ kv = .int .i64 (k + total (xss.take j))) (fun _ i => n - (intOf i).toNat)
  case atStart => exact ⟨0, Nat.zero_le _, rfl, by simp [total]⟩
  case round =>
    obtain ⟨j, hj, rfl, rfl⟩ := hrel
    by_cases hlt : j < n
    · have c := HC.out j hlt
      have HT : Hid _ := total_take (xss := xss) (k := j) (by rw [HL.out]; exact hlt)
      have hbd := total_bound (xss := xss) (i := j) (by rw [HL.out]; exact hlt)
      have HX : Hid _ := heldFO w (gf j) (xss.getD j []).length (cf j) (k + total (xss.take j)) (HO.out j hlt) (by omega) (by omega) (by omega)
      generalize (xss.getD j []).length = m at c HX HT hbd
      go_wp2_with fail
      refine Calls.mono HX.out ?_
      rintro e w2 ⟨rfl, rfl⟩
      go_wp2
      go_round
      case rel => exact ⟨j + 1, by omega, by go_num, by rw [HT.out]; congr 1; omega⟩
      case measure => simp [intOf]; omega
    · have R : Hid (total (xss.take j) = total xss) := by
        show total (xss.take j) = total xss
        rw [List.take_of_length_le (by rw [HL.out]; omega)]
      go_wp2
      go_ret
      exact ⟨by rw [← R.out]; rfl, rfl⟩
end Go.Proofs.Ytcphabjekfihnaa
