import Derived.Test.YtcphabjekfihnabGreatP17
namespace Go.Proofs.YtcphabjekfihnabGreat
open Go.RowKit Flt
attribute [local go_sem] alloc_drewN setCell_drewN run_store_float

/-- A list of ints that grows by append, in the call's own blocks. -/
def GrowI (w1 : World) (k : Nat) (xs : List Int) (v : Value) (W : World) : Prop :=
  W.ownsRow w1.heap.size 3 1 v k (xs.map (Value.int .i64)) ∧ xs.length = k ∧ Kept 0 0 w1 W
theorem growI_start (w1 : World) : GrowI w1 0 [] (.slice none 0 0) w1 := ⟨World.ownsRow_nil _ _ _ _, rfl, Kept.refl _ _ _⟩
theorem own_kept {base e size n : Nat} {v : Value} {xs : List Value} {W W' : World} (h : W.ownsRow base e size v n xs) (k : Kept 0 0 W W') : W'.ownsRow base e size v n xs := by
  refine ⟨h.1, ?_⟩
  rcases h.2 with hn | ⟨g, cap, cur, rfl, hb, hgg, rest⟩
  · exact .inl hn
  · refine .inr ⟨g, cap, cur, rfl, hb, ?_, rest⟩
    have hg : g < W.heap.size := by
      rcases Nat.lt_or_ge g W.heap.size with c | c
      · exact c
      · rw [Array.getElem?_eq_none c] at hgg; cases hgg
    rw [k.block g hg (by omega)]
    exact hgg
theorem GrowI.keep {w1 : World} {k : Nat} {xs : List Int} {v : Value} {W W' : World} (h : GrowI w1 k xs v W) (kb : Kept 0 0 W W') : GrowI w1 k xs v W' :=
  ⟨own_kept h.1 kb, h.2.1, h.2.2.trans kb⟩
theorem GrowI.step {w1 : World} {k : Nat} {xs : List Int} {v : Value} {W : World} {z : Int} (h : GrowI w1 k xs v W)
    {v' : Value} {w' : World} {o : Obj}
    (hown' : w'.ownsRow w1.heap.size 3 1 v' (k + 1) (xs.map (Value.int .i64) ++ [Value.int .i64 z])) (hg : (W.alloc o).grownBy w' v.ownBlock) : GrowI w1 (k + 1) (xs ++ [z]) v' w' := by
  refine ⟨by rw [List.map_append]; exact hown', by simp [h.2.1], ?_⟩
  have hK := h.2.2
  refine ⟨hg.os.trans hK.os, hg.tape.trans hK.tape, hg.output.trans hK.output, ?_, fun i hi _ => ?_⟩
  · have := hg.size
    have h2 := hK.size
    simp at this
    omega
  · have h2 := hK.size
    rw [hg.block i (by simp; omega) (fun c => by have := h.1.lt i c.symm; omega), Below.heap_alloc W o i (by omega)]
    exact hK.block i hi (by omega)
theorem GrowI.at_ {w1 : World} {k : Nat} {xs : List Int} {v : Value} {W : World} (h : GrowI w1 k xs v W) (hk : 0 < k) : ∃ g cap, v = .slice (some ⟨g, 0, none⟩) k cap ∧ ∀ j, j < k → W.cell? ⟨g, j, none⟩ = some (.int .i64 (xs.getD j 0)) := by
  obtain ⟨ho, hl, _⟩ := h
  rcases ho.2 with ⟨_, c⟩ | ⟨g, cap, cur, rfl, b1, b2, _, _, b5, b6⟩
  · omega
  · refine ⟨g, cap, rfl, fun j hj => ?_⟩
    rw [cell_of_row W g _ cur _ _ b2, ← Array.getElem?_toList]
    have : (cur.toList.take (k * 1))[j]? = (xs.map (Value.int .i64))[j]? := by rw [b6]
    rw [List.getElem?_take_of_lt (by omega)] at this
    rw [this, List.getElem?_map, List.getElem?_eq_getElem (by omega : j < xs.length)]
    simp [List.getD_eq_getElem?_getD, List.getElem?_eq_getElem (by omega : j < xs.length)]

/-- Whether field k of a value is as it must be. -/
def okF (v : Vl) (i : Nat) (k : Nat) : Bool := if k < cnt v.op then idxB (fld v k) i else (fld v k == 0 || (k == 2 && placeB v.op))
/-- The length of operand k, 0 where there is none. -/
def lenN (vs : List Vl) (v : Vl) (k : Nat) : Nat := if k < cnt v.op then (vs.getD (fld v k).toNat Vl.zero).len.toNat else 0

theorem ops1_cnt {op : Int} (h1 : 1 ≤ op) (h2 : op ≤ 13) : ops1 op = cnt op := by
  rcases (by omega : op = 1 ∨ op = 2 ∨ op = 3 ∨ op = 4 ∨ op = 5 ∨ op = 6 ∨ op = 7 ∨ op = 8 ∨ op = 9 ∨ op = 10 ∨ op = 11 ∨ op = 12 ∨ op = 13) with h | h | h | h | h | h | h | h | h | h | h | h | h <;> subst h <;> rfl

set_option maxRecDepth 100000 in
set_option maxHeartbeats 4000000 in
theorem valOK_ops (w : World) (a1 a3 : Option Addr) (n1 c1 n2 c2 n3 c3 g2 o2 i : Nat) (v : Vl) (vs : List Vl) (hg : g2 < w.heap.size) (hi : i < n2)
    (hall : ∀ k, k < n2 → At w g2 (o2 + k * 6) (vs.getD k Vl.zero)) (hlens : ∀ k, k < i → 1 ≤ (vs.getD k Vl.zero).len ∧ (vs.getD k Vl.zero).len ≤ 1000) (hv : vs.getD i Vl.zero = v) (h1 : 1 ≤ v.op) (h13 : v.op ≤ 13) (hl1 : 1 ≤ v.len) (hl2 : v.len ≤ 1000) :
    Calls Tryz.prog 33 #[gagg a1 n1 c1 (some ⟨g2, o2, none⟩) n2 c2 a3 n3 c3, .int .i64 (i : Int)] w fun e w' => e = .returned (.bool ((List.range 3).all (okF v i) && fitB v.op v.len v.c (lenN vs v 0) (lenN vs v 1) (lenN vs v 2))) ∧ Kept 0 0 w w' := by
  obtain ⟨i0, hi0, hz0, hz1, hz2⟩ := info_parts infoI
  have hK := kept_alloc 0 0 w (gbox a1 n1 c1 (some ⟨g2, o2, none⟩) n2 c2 a3 n3 c3)
  have hat := hall i hi
  rw [hv] at hat
  have HA : Hid (∀ k, k < n2 → At w g2 (o2 + k * 6) (vs.getD k Vl.zero)) := hall
  have HLN : Hid _ := hlens
  clear hall hv hlens
  obtain ⟨e0, e1, e2, e3, e4, e5⟩ := hat.keep hg hK (.inr (.inr (Nat.le_refl _)))
  have hK2 : Hid _ := hK.trans (kept_alloc 0 0 _ (vbox v.op v.len v.a v.b v.c v.k))
  have hB := gb_start w (.slice a1 n1 c1) (.slice (some ⟨g2, o2, none⟩) n2 c2) (.slice a3 n3 c3) v
  clear hat hK
  have t0 : (v.op == 0) = false := beq_eq_false_iff_ne.2 (by omega)
  have HO : Hid (∀ w, Calls Tryz.prog 51 #[.int .i64 v.op] w fun e w' => e = .returned (.int .i64 (cnt v.op : Nat)) ∧ w' = w) := fun w => by
    have := l1operands v.op w (by omega) h13
    rw [ops1_cnt h1 h13] at this
    exact this
  go_enter Tryz.func33, Tryz.ntmps33
  go_wp2_with (first | (go_at_call 51; refine (HO.out _).mono ?_; rintro e w2 ⟨rfl, rfl⟩) | fail)
  have hG := growI_start ((w.alloc (gbox a1 n1 c1 (some ⟨g2, o2, none⟩) n2 c2 a3 n3 c3)).alloc (vbox v.op v.len v.a v.b v.c v.k))
  generalize hw1 : (w.alloc (gbox a1 n1 c1 (some ⟨g2, o2, none⟩) n2 c2 a3 n3 c3)).alloc (vbox v.op v.len v.a v.b v.c v.k) = w1 at hB hK2 hG ⊢
  clear hw1 e0 e1 e2 e3 e4 e5
  have HB : Hid _ := hB
  clear hB
  go_loopw [7, 8] (fun lv kv W => ∃ k : Nat, k ≤ 3 ∧ kv = .int .i64 k ∧ Hid ((List.range k).all (okF v i) = true) ∧ GrowI w1 k ((List.range k).map fun j => (lenN vs v j : Int)) lv W) (fun _ kv _ => 3 - (intOf kv).toNat)
  case atStart => exact ⟨0, Nat.zero_le _, rfl, rfl, hG⟩
  case round =>
    obtain ⟨k, hk, rfl, hA, hG2⟩ := hrel
    clear hG
    by_cases hlt : k < 3
    · have HX : Hid _ := l1field wr v k hlt
      obtain ⟨_, q0, q1, q2, vt⟩ := HB.out.keep hG2.2.2
      obtain ⟨d0, d1, d2, d3, d4, d5⟩ := vt
      simp only [Nat.zero_add] at d1 d2 d3 d4 d5
      go_wp2_with fail
      refine Calls.mono HX.out ?_
      rintro e w2 ⟨rfl, hk2⟩
      replace hG2 := hG2.keep hk2
      clear hk2 HX q0 q1 q2 d0 d1 d2 d3 d4 d5
      obtain ⟨_, q0, q1, q2, vt⟩ := HB.out.keep hG2.2.2
      obtain ⟨d0, d1, d2, d3, d4, d5⟩ := vt
      simp only [Nat.zero_add] at d1 d2 d3 d4 d5
      have hsz : w1.heap.size ≤ w2.heap.size := hG2.2.2.size
      by_cases hkn : k < cnt v.op
      · by_cases hx : idxB (fld v k) i = true
        · have hok : okF v i k = true := by unfold okF; rw [if_pos hkn]; exact hx
          have R : Hid _ := range_snoc hA.out hok
          have hx' := of_decide_eq_true hx
          obtain ⟨j, hj⟩ : ∃ j : Nat, fld v k = j := ⟨(fld v k).toNat, by omega⟩
          have hji : j < i := by omega
          have hlj := HLN.out j hji
          have c := kcell (hK2.out.trans hG2.2.2) hg (HA.out j (by omega)).c1
          have hz : Hid ((lenN vs v k : Int) = (vs.getD j Vl.zero).len) := by
            show (lenN vs v k : Int) = _
            unfold lenN
            rw [if_pos hkn, hj, Int.toNat_natCast, Int.toNat_of_nonneg (by omega)]
          rw [hj]
          generalize (vs.getD j Vl.zero).len = z at c hz
          clear hx hx' hok hA hj hlj
          generalize hLL : ((List.range k).map fun j => (lenN vs v j : Int)) = L at hG2
          have HLL : Hid _ := hLL
          clear hLL
          go_wp2_with (first | (at_builtin; refine wpList_append_own _ rfl _ _ 22 rfl w1.heap.size 3 i0 (.int .i64 0) 1 8 Tryz.underlying22 hi0 hz0 hz1 hz2 rfl (by decide) _ _ _ rfl (hG2.1.alloc _) ⟨w2.heap.size, 0, none⟩ 1 1 [.int .i64 z] rfl rfl ?c1 ?c2 ?c3 ?c4 ?c5 ?_))
          case c1 => exact cell_one_new _ _ _
          case c2 => intro u hu; simp at hu; subst hu; rfl
          case c3 => unfold maxLen; omega
          case c4 => omega
          case c5 => simp; omega
          intro v' w9 hown9 hg9 _
          have R2 : Hid _ := hG2.step hown9 hg9
          clear hown9 hg9 hG2 q0 q1 q2 d0 d1 d2 d3 d4 d5 hsz
          go_wp2
          go_roundw
          case rel =>
            refine ⟨k + 1, by omega, by go_num, R, ?_⟩
            have := R2.out
            rw [← hz.out, ← HLL.out] at this
            rw [List.range_succ, List.map_append]
            exact this
          case measure => simp [intOf]; omega
        · have hx' : ¬ (0 ≤ fld v k ∧ fld v k < i) := fun c => hx (decide_eq_true c)
          have hok : okF v i k = false := by unfold okF; rw [if_pos hkn]; exact decide_eq_false hx'
          have R : Hid ((List.range 3).all (okF v i) = false) := range_bad hlt hok
          have R2 : Hid _ := hK2.out.trans hG2.2.2
          generalize fld v k = y at hx' ⊢
          clear hx hok hA
          rcases (by omega : y < 0 ∨ (0 ≤ y ∧ (i : Int) ≤ y)) with hy | ⟨hy, hy'⟩
          all_goals
            clear hx'
            go_wp2
            go_ret
            exact ⟨by rw [R.out]; rfl, R2.out⟩
      · have hkn' : cnt v.op ≤ k := by omega
        have hz : Hid ((lenN vs v k : Int) = 0) := by
          show (lenN vs v k : Int) = 0
          unfold lenN
          rw [if_neg hkn]; rfl
        cases hok : okF v i k
        · have R : Hid ((List.range 3).all (okF v i) = false) := range_bad hlt hok
          have R2 : Hid _ := hK2.out.trans hG2.2.2
          unfold okF at hok
          rw [if_neg hkn, Bool.or_eq_false_iff] at hok
          obtain ⟨hf, hp⟩ := hok
          have hf' : (fld v k != 0) = true := by rw [bne, hf]; rfl
          generalize fld v k = y at hf hf' ⊢
          rcases (by omega : k = 0 ∨ k = 1 ∨ k = 2) with rfl | rfl | rfl
          · clear hp hf hA hkn
            go_wp2
            go_ret
            exact ⟨by rw [R.out]; rfl, R2.out⟩
          · clear hp hf hA hkn
            go_wp2
            go_ret
            exact ⟨by rw [R.out]; rfl, R2.out⟩
          · have hp' : ¬ (v.op = 11 ∨ v.op = 12) := of_decide_eq_false (show placeB v.op = false by simpa using hp)
            have t1 : (v.op == 11) = false := beq_eq_false_iff_ne.2 (by omega)
            have t2 : (v.op == 12) = false := beq_eq_false_iff_ne.2 (by omega)
            clear hp hp' hf hA hkn
            go_wp2
            go_ret
            exact ⟨by rw [R.out]; rfl, R2.out⟩
        · have R : Hid _ := range_snoc hA.out hok
          have hpass : (fld v k != 0) = false ∨ (k = 2 ∧ (fld v k != 0) = true ∧ ((v.op == 11) = true ∨ ((v.op == 11) = false ∧ (v.op == 12) = true))) := by
            unfold okF at hok
            rw [if_neg hkn, Bool.or_eq_true] at hok
            cases hf : (fld v k == 0)
            · right
              rw [hf] at hok
              have h2 := hok.resolve_left (by simp)
              rw [Bool.and_eq_true] at h2
              have hp := of_decide_eq_true h2.2
              refine ⟨by simpa using h2.1, by rw [bne, hf]; rfl, ?_⟩
              rcases hp with hp | hp
              · exact .inl (beq_iff_eq.2 hp)
              · exact .inr ⟨beq_eq_false_iff_ne.2 (by omega), beq_iff_eq.2 hp⟩
            · left; rw [bne, hf]; rfl
          have HT : Hid _ := hkn'
          generalize fld v k = y at hpass ⊢
          clear hA hkn
          generalize hLL : ((List.range k).map fun j => (lenN vs v j : Int)) = L at hG2
          have HLL : Hid _ := hLL
          clear hLL
          rcases hpass with tf | ⟨rfl, tf, hp⟩
          · rcases (by omega : k = 0 ∨ k = 1 ∨ k = 2) with rfl | rfl | rfl
            · go_wp2_with (first | (at_builtin; refine wpList_append_own _ rfl _ _ 22 rfl w1.heap.size 3 i0 (.int .i64 0) 1 8 Tryz.underlying22 hi0 hz0 hz1 hz2 rfl (by decide) _ _ _ rfl (hG2.1.alloc _) ⟨w2.heap.size, 0, none⟩ 1 1 [.int .i64 0] rfl rfl ?c1 ?c2 ?c3 ?c4 ?c5 ?_))
              case c1 => exact cell_one_new _ _ _
              case c2 => intro u hu; simp at hu; subst hu; rfl
              case c3 => unfold maxLen; omega
              case c4 => omega
              case c5 => simp; omega
              intro v' w9 hown9 hg9 _
              have R2 : Hid _ := hG2.step hown9 hg9
              clear hown9 hg9 hG2 q0 q1 q2 d0 d1 d2 d3 d4 d5 hsz
              go_wp2
              go_roundw
              case rel =>
                refine ⟨1, by omega, by go_num, R, ?_⟩
                have := R2.out
                rw [← hz.out, ← HLL.out] at this
                rw [List.range_succ, List.map_append]
                exact this
              case measure => simp [intOf]
            · go_wp2_with (first | (at_builtin; refine wpList_append_own _ rfl _ _ 22 rfl w1.heap.size 3 i0 (.int .i64 0) 1 8 Tryz.underlying22 hi0 hz0 hz1 hz2 rfl (by decide) _ _ _ rfl (hG2.1.alloc _) ⟨w2.heap.size, 0, none⟩ 1 1 [.int .i64 0] rfl rfl ?c1 ?c2 ?c3 ?c4 ?c5 ?_))
              case c1 => exact cell_one_new _ _ _
              case c2 => intro u hu; simp at hu; subst hu; rfl
              case c3 => unfold maxLen; omega
              case c4 => omega
              case c5 => simp; omega
              intro v' w9 hown9 hg9 _
              have R2 : Hid _ := hG2.step hown9 hg9
              clear hown9 hg9 hG2 q0 q1 q2 d0 d1 d2 d3 d4 d5 hsz
              go_wp2
              go_roundw
              case rel =>
                refine ⟨2, by omega, by go_num, R, ?_⟩
                have := R2.out
                rw [← hz.out, ← HLL.out] at this
                rw [List.range_succ, List.map_append]
                exact this
              case measure => simp [intOf]
            · cases t1 : (v.op == 11) <;> cases t2 : (v.op == 12)
              all_goals
                go_wp2_with (first | (at_builtin; refine wpList_append_own _ rfl _ _ 22 rfl w1.heap.size 3 i0 (.int .i64 0) 1 8 Tryz.underlying22 hi0 hz0 hz1 hz2 rfl (by decide) _ _ _ rfl (hG2.1.alloc _) ⟨w2.heap.size, 0, none⟩ 1 1 [.int .i64 0] rfl rfl ?c1 ?c2 ?c3 ?c4 ?c5 ?_))
                case c1 => exact cell_one_new _ _ _
                case c2 => intro u hu; simp at hu; subst hu; rfl
                case c3 => unfold maxLen; omega
                case c4 => omega
                case c5 => simp; omega
                intro v' w9 hown9 hg9 _
                have R2 : Hid _ := hG2.step hown9 hg9
                clear hown9 hg9 hG2 q0 q1 q2 d0 d1 d2 d3 d4 d5 hsz
                go_wp2
                go_roundw
                case rel =>
                  refine ⟨3, by omega, by go_num, R, ?_⟩
                  have := R2.out
                  rw [← hz.out, ← HLL.out] at this
                  rw [List.range_succ, List.map_append]
                  exact this
                case measure => simp [intOf]
          · rcases hp with t1 | ⟨t1, t2⟩
            all_goals
              go_wp2_with (first | (at_builtin; refine wpList_append_own _ rfl _ _ 22 rfl w1.heap.size 3 i0 (.int .i64 0) 1 8 Tryz.underlying22 hi0 hz0 hz1 hz2 rfl (by decide) _ _ _ rfl (hG2.1.alloc _) ⟨w2.heap.size, 0, none⟩ 1 1 [.int .i64 0] rfl rfl ?c1 ?c2 ?c3 ?c4 ?c5 ?_))
              case c1 => exact cell_one_new _ _ _
              case c2 => intro u hu; simp at hu; subst hu; rfl
              case c3 => unfold maxLen; omega
              case c4 => omega
              case c5 => simp; omega
              intro v' w9 hown9 hg9 _
              have R2 : Hid _ := hG2.step hown9 hg9
              clear hown9 hg9 hG2 q0 q1 q2 d0 d1 d2 d3 d4 d5 hsz
              go_wp2
              go_roundw
              case rel =>
                refine ⟨3, by omega, by go_num, R, ?_⟩
                have := R2.out
                rw [← hz.out, ← HLL.out] at this
                rw [List.range_succ, List.map_append]
                exact this
              case measure => simp [intOf]
    · obtain rfl : k = 3 := by omega
      have R : Hid _ := hA.out
      have R2 : Hid _ := hK2.out.trans hG2.2.2
      obtain ⟨g, cap, rfl, hc⟩ := hG2.at_ (by omega)
      have c0 := hc 0 (by omega)
      have c1 := hc 1 (by omega)
      have c2 := hc 2 (by omega)
      obtain ⟨_, q0, q1, q2, vt⟩ := HB.out.keep hG2.2.2
      obtain ⟨d0, d1, d2, d3, d4, d5⟩ := vt
      simp only [Nat.zero_add] at d1 d2 d3 d4 d5
      simp only [List.range, List.range.loop, List.map_cons, List.map_nil, List.getD_cons_zero, List.getD_cons_succ] at c0 c1 c2
      clear hc hG2 hA
      have HT : Hid (∀ w, Calls Tryz.prog 53 #[v.agg, .int .i64 (lenN vs v 0 : Int), .int .i64 (lenN vs v 1 : Int), .int .i64 (lenN vs v 2 : Int)] w fun e w' => e = .returned (.bool (fitB v.op v.len v.c (lenN vs v 0) (lenN vs v 1) (lenN vs v 2))) ∧ w' = w.alloc (vbox v.op v.len v.a v.b v.c v.k)) := fun w => l1fits w v.op v.len v.a v.b v.c v.k (lenN vs v 0) (lenN vs v 1) (lenN vs v 2)
      go_wp2_with fail
      go_region_held3 (fun w' => w'.cell? ⟨w.heap.size + 1, 0, none⟩ = some (.int .i64 v.op) ∧ w'.cell? ⟨w.heap.size + 1, 1, none⟩ = some (.int .i64 v.len) ∧ w'.cell? ⟨w.heap.size + 1, 2, none⟩ = some (.int .i64 v.a) ∧ w'.cell? ⟨w.heap.size + 1, 3, none⟩ = some (.int .i64 v.b) ∧ w'.cell? ⟨w.heap.size + 1, 4, none⟩ = some (.int .i64 v.c) ∧ w'.cell? ⟨w.heap.size + 1, 5, none⟩ = some (.float .f64 v.k) ∧ w'.cell? ⟨g, 0, none⟩ = some (.int .i64 (lenN vs v 0 : Int)) ∧ w'.cell? ⟨g, 1, none⟩ = some (.int .i64 (lenN vs v 1 : Int)) ∧ w'.cell? ⟨g, 2, none⟩ = some (.int .i64 (lenN vs v 2 : Int))) (go_keep)
        ((go_at_call 53; refine (HT.out _).mono ?_; rintro e w9 ⟨rfl, rfl⟩))
      all_goals
        go_wp2
        go_ret
        exact ⟨by rw [R.out, Bool.true_and]; rfl, (R2.out.trans (kept_drewN 0 0 _ 1)).trans (kept_alloc 0 0 _ _)⟩
end Go.Proofs.YtcphabjekfihnabGreat
