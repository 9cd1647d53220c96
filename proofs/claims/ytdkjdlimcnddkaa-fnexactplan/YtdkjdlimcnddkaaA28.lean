import Derived.Test.YtdkjdlimcnddkaaA26
import Derived.Test.YtdkjdlimcnddkaaA19
namespace Go.Proofs.Ytdkjdlimcnddkaa
open Go.RowKit Flt
attribute [local go_sem] alloc_drewN setCell_drewN run_store_float

/-- What an append of a count leaves. -/
theorem SvI.app {w2 W W1 w' : World} {v : Value} {bs ys : List Int} {g cap n : Nat} (f : SvI w2 W v bs) (k1 : Kept 0 0 W W1) (h : YB w' w2.heap.size (.slice (some ⟨g, 0, none⟩) n cap) (bs ++ ys)) (hc : Chg (fun b => v.ownBlock = some b) W1 w') : SvI w2 w' (.slice (some ⟨g, 0, none⟩) n cap) (bs ++ ys) := f.next k1 h hc
theorem six_newS (w : World) (s : Ste) : IS (w.alloc (.cells #[.int .i64 s.len, .int .i64 s.n, .int .i64 s.dst, .int .i64 s.a, .int .i64 s.b, .int .i64 s.c] 3)) w.heap.size (w.heap.size + 1) (some ⟨w.heap.size, 0, none⟩) 6 (fieldsOf s) := ⟨rfl, .inr ⟨w.heap.size, 0, rfl, Nat.le_refl _, Nat.lt_succ_self _, by simp, fun k hk => by
  rw [Nat.zero_add, World.cell?_alloc_new]
  rcases (by omega : k = 0 ∨ k = 1 ∨ k = 2 ∨ k = 3 ∨ k = 4 ∨ k = 5) with rfl | rfl | rfl | rfl | rfl | rfl <;> rfl⟩⟩
set_option maxRecDepth 100000 in
set_option maxHeartbeats 8000000 in
theorem l6save (w : World) (a1 a2 a3 : Option Addr) (n1 c1 n2 c2 n3 c3 : Nat) (pk : Int) (ins : List Int) (ss : List Ste) (os : List Spn) (f : CS w a1 n1 a2 n2 a3 n3 ins ss os) (ho : SvOK ins ss os pk) :
    Calls Try.prog 61 #[cagg a1 n1 c1 a2 n2 c2 a3 n3 c3 pk] w fun e w' => ∃ v, e = .returned v ∧ YB w' w.heap.size v (saveM ins ss os pk) ∧ Kept 0 0 w w' := by
  have HO : Hid _ := ho
  have e1 := f.i.len
  have e2 := f.s.len
  have e3 := f.o.len
  have l1 : n1 ≤ 20 := by have := HO.out.li; omega
  have l2 : n2 ≤ 2000 := by have := HO.out.ls; omega
  have l3 : n3 ≤ 50 := by have := HO.out.lo; omega
  have lp := ho.p
  have HE : Hid (ins.length = n1 ∧ ss.length = n2 ∧ os.length = n3) := ⟨e1, e2, e3⟩
  have HKV : Hid (∀ k, (ss.getD k Ste.zero).k < 18446744073709551616) := fun k => by
    rw [List.getD_eq_getElem?_getD]
    cases hh : ss[k]? with
    | none => decide
    | some v => exact f.s.lt v (List.mem_of_getElem? hh)
  have ka := kept_alloc 0 0 w (cbox a1 n1 c1 a2 n2 c2 a3 n3 c3 pk)
  have HB : Hid _ := c0_start w (.slice a1 n1 c1) (.slice a2 n2 c2) (.slice a3 n3 c3) (.int .i64 pk)
  have HF : Hid _ := CS.keep f ka
  have HK : Hid _ := ka
  clear e1 e2 e3 ka f ho
  go_enter Try.func61, Try.ntmps61
  go_upto_region 1 with fail
  have HZ : Hid (w.heap.size ≤ (w.alloc (cbox a1 n1 c1 a2 n2 c2 a3 n3 c3 pk)).heap.size) := HK.out.size
  generalize w.alloc (cbox a1 n1 c1 a2 n2 c2 a3 n3 c3 pk) = w2 at HB HF HK HZ ⊢
  generalize hp : w.heap.size = p at HB ⊢
  have HPZ : Hid (w.heap.size = p) := hp
  clear hp
  go_upto_region 2 with fail
  have hL := YB.lit w2 w2.heap.size [71, 76] #[.int .u8 71, .int .u8 76] 2 rfl rfl (Nat.le_refl _) (by decide)
  have H0 : Hid (SvI w2 _ _ _) := ⟨hL, kept_alloc 0 0 w2 _⟩
  clear hL
  generalize w2.alloc (.cells #[.int .u8 71, .int .u8 76] 5) = w3 at H0 ⊢
  obtain ⟨Q0, hQ0⟩ : ∃ Q0, Q0 = ([71, 76] : List Int) := ⟨_, rfl⟩
  rw [← hQ0] at H0
  have HQ0 : Hid _ := hQ0
  have HL0 : Hid (Q0.length ≤ 2) := by show _ ≤ _; rw [hQ0]; decide
  clear hQ0
  obtain ⟨_, q0, q1, q2, q3⟩ := HB.out.keep H0.out.k
  go_wp2_with (first | (go_at_call 111; refine Calls.mono (l6count _ (n1 : Int) (by omega) (by omega)) ?_; rintro e wx ⟨rfl, rfl⟩) | (at_builtin; refine wpList_appendY _ rfl _ _ rfl w2.heap.size _ Q0 rfl (SvI.keep H0.out (kept_alloc 0 0 w3 _)).r ⟨w3.heap.size, 0, none⟩ 2 2 (cntB (n1 : Int)) rfl rfl (newsA w3 _ (cntB (n1 : Int)) rfl) (by decide) ?c2 ?c3 ?_) | fail)
  case c2 => have := HL0.out; omega
  case c3 => have := H0.out.size; simp; omega
  intro g4 cap4 n4 w4 e4 r4 d4 o4
  clear e4
  have H4 : Hid (SvI w2 w4 (.slice (some ⟨g4, 0, none⟩) n4 cap4) (Q0 ++ cntB (n1 : Int))) := SvI.app H0.out (kept_alloc 0 0 w3 _) r4 d4
  clear r4 d4 q0 q1 q2 q3 H0
  obtain ⟨Q1, hQ1⟩ : ∃ Q1, Q1 = Q0 ++ cntB (n1 : Int) := ⟨_, rfl⟩
  rw [← hQ1] at H4
  have HQ1 : Hid _ := hQ1
  have HL1 : Hid (Q1.length ≤ 4) := by
    show _ ≤ _
    rw [hQ1]
    rw [List.length_append, cntB_len]; have := HL0.out; omega
  clear hQ1
  go_wp2_with fail
  go_loopw [3, 4] (fun b i W => ∃ k : Nat, k ≤ n1 ∧ i = .int .i64 k ∧ Hid (SvI w2 W b (Q1 ++ (ins.take k).flatMap cntB))) (fun _ i _ => n1 - (intOf i).toNat)
  case atStart => exact ⟨0, Nat.zero_le _, rfl, by rw [List.take_zero, List.flatMap_nil, List.append_nil]; exact H4⟩
  case round =>
    obtain ⟨k, hk, rfl, hR⟩ := hrel
    clear H4
    obtain ⟨_, q0, q1, q2, q3⟩ := HB.out.keep hR.out.k
    by_cases hlt : k < n1
    · rcases (HF.out.keep hR.out.k).i.at_ with z | ⟨ga, off, rfl, z1, z2, z3, z4⟩
      · omega
      have c1' := z4 k hlt
      have hy := HO.out.i _ (getD_memJ (by rw [HE.out.1]; exact hlt))
      have HT : Hid _ := flatMap_takeS cntB ins 0 (by rw [HE.out.1]; exact hlt)
      generalize ins.getD k 0 = y at c1' hy HT
      obtain ⟨Q, hQ⟩ : ∃ Q, Q = Q1 ++ (ins.take k).flatMap cntB := ⟨_, rfl⟩
      have HLQ : Hid (Q.length ≤ 100) := by
        show _ ≤ _
        rw [hQ, List.length_append, flat_cnt_len, List.length_take]; have := HL1.out; omega
      rw [← hQ] at hR
      have HQ : Hid _ := hQ
      clear hQ z1 z2 z3 z4
      go_wp2_with (first | (go_at_call 111; refine Calls.mono (l6count _ y (by omega) (by omega)) ?_; rintro e wx ⟨rfl, rfl⟩) | (at_builtin; refine wpList_appendY _ rfl _ _ rfl w2.heap.size _ Q rfl (SvI.keep hR.out (kept_alloc 0 0 wr _)).r ⟨wr.heap.size, 0, none⟩ 2 2 (cntB y) rfl rfl (newsA wr _ (cntB y) rfl) (by decide) ?c2 ?c3 ?_) | fail)
      case c2 => have := HLQ.out; omega
      case c3 => have := hR.out.size; simp; omega
      intro g9 cap9 n9 w9 e9 r9 d9 o9
      clear e9
      have H9 : Hid (SvI w2 w9 (.slice (some ⟨g9, 0, none⟩) n9 cap9) (Q ++ cntB y)) := SvI.app hR.out (kept_alloc 0 0 wr _) r9 d9
      have R : Hid (SvI w2 w9 (.slice (some ⟨g9, 0, none⟩) n9 cap9) (Q1 ++ (ins.take (k + 1)).flatMap cntB)) := by
        have h := H9.out
        rw [HQ.out, List.append_assoc, ← HT.out] at h
        exact h
      clear r9 d9 H9 q0 q1 q2 q3 hR
      go_wp2_with fail
      go_roundw
      case rel => exact ⟨k + 1, by omega, by go_num, R⟩
      case measure => simp [intOf]; omega
    · obtain rfl : k = n1 := by omega
      rw [List.take_of_length_le (by rw [HE.out.1]; exact Nat.le_refl _)] at hR
      obtain ⟨Q2, hQ2⟩ : ∃ Q2, Q2 = Q1 ++ ins.flatMap cntB := ⟨_, rfl⟩
      rw [← hQ2] at hR
      have HQ2 : Hid _ := hQ2
      have HL2 : Hid (Q2.length ≤ 100) := by
        show _ ≤ _
        rw [hQ2]
        rw [List.length_append, flat_cnt_len]; have := HL1.out; have := HE.out; omega
      clear hQ2
      go_wp2_with (first | (go_at_call 111; refine Calls.mono (l6count _ (n2 : Int) (by omega) (by omega)) ?_; rintro e wx ⟨rfl, rfl⟩) | (at_builtin; refine wpList_appendY _ rfl _ _ rfl w2.heap.size _ Q2 rfl (SvI.keep hR.out (kept_alloc 0 0 wr _)).r ⟨wr.heap.size, 0, none⟩ 2 2 (cntB (n2 : Int)) rfl rfl (newsA wr _ (cntB (n2 : Int)) rfl) (by decide) ?c2 ?c3 ?_) | fail)
      case c2 => have := HL2.out; omega
      case c3 => have := hR.out.size; simp; omega
      intro g5 cap5 n5 w5 e5 r5 d5 o5
      clear e5
      have H5 : Hid (SvI w2 w5 (.slice (some ⟨g5, 0, none⟩) n5 cap5) (Q2 ++ cntB (n2 : Int))) := SvI.app hR.out (kept_alloc 0 0 wr _) r5 d5
      clear r5 d5 q0 q1 q2 q3 hR
      obtain ⟨Q3, hQ3⟩ : ∃ Q3, Q3 = Q2 ++ cntB (n2 : Int) := ⟨_, rfl⟩
      rw [← hQ3] at H5
      have HQ3 : Hid _ := hQ3
      have HL3 : Hid (Q3.length ≤ 200) := by
        show _ ≤ _
        rw [hQ3]
        rw [List.length_append, cntB_len]; have := HL2.out; omega
      clear hQ3
      go_wp2_with fail
      go_loopw [3, 5] (fun b i W => ∃ j : Nat, j ≤ n2 ∧ i = .int .i64 j ∧ Hid (SvI w2 W b (Q3 ++ (ss.take j).flatMap steB))) (fun _ i _ => n2 - (intOf i).toNat)
      case atStart => exact ⟨0, Nat.zero_le _, rfl, by rw [List.take_zero, List.flatMap_nil, List.append_nil]; exact H5⟩
      case round =>
        obtain ⟨j, hj, rfl, hR⟩ := hrel
        clear H5
        obtain ⟨_, q0, q1, q2, q3⟩ := HB.out.keep hR.out.k
        by_cases hlt : j < n2
        · rcases (HF.out.keep hR.out.k).s.at_ with z | ⟨ga, off, rfl, z1, z2, z3, z4⟩
          · omega
          have hat := z4 j hlt
          have hs := HO.out.s j (by rw [HE.out.2.1]; exact hlt)
          have hkv := HKV.out j
          have HT : Hid _ := flatMap_takeS steB ss Ste.zero (by rw [HE.out.2.1]; exact hlt)
          obtain ⟨Q, hQ⟩ : ∃ Q, Q = Q3 ++ (ss.take j).flatMap steB := ⟨_, rfl⟩
          have HLQ : Hid (Q.length ≤ 100000) := by
            show _ ≤ _
            have h1 := flat_ste_len (ss.take j)
            rw [List.length_take] at h1
            have h2 := HL3.out
            rw [hQ, List.length_append]
            omega
          rw [← hQ] at hR
          have HQ : Hid _ := hQ
          generalize ss.getD j Ste.zero = s at hat hs hkv HT
          obtain ⟨y0, y1, y2, y3, y4, y5, y6, y7⟩ := hat
          have HFB : Hid _ := hs.2
          have hop := hs.1
          have HKS : Hid _ := hkv
          clear hQ hs z1 z2 z3 z4 hkv
          go_upto_region 12 with fail
          clear y0 y1 y2 y3 y4 y5 y6 y7
          have ka := kept_alloc 0 0 wr s.box
          have HA : Hid _ := atT_newS wr s
          have HR1 : Hid _ := hR.out.keep ka
          have HU : Hid (∀ g, u3.ownBlock = some g → g < wr.heap.size) := fun g h => (hR.out.r.blk h).2
          have HZ1 : Hid ((wr.alloc s.box).heap.size = wr.heap.size + 1) := by show _ = _; simp
          clear ka hR q0 q1 q2 q3
          generalize wr.alloc s.box = W1 at HA HR1 HZ1 ⊢
          generalize wr.heap.size = A at HA HU HZ1 ⊢
          obtain ⟨y0, y1, y2, y3, y4, y5, y6, y7⟩ := HA.out
          go_wp2_with (first | (at_builtin; refine wpList_appendY _ rfl _ _ rfl w2.heap.size _ Q rfl (SvI.keep HR1.out (kept_alloc 0 0 W1 _)).r ⟨W1.heap.size, 0, none⟩ 1 1 [s.op] rfl rfl (newsA W1 _ [s.op] rfl) (by decide) ?c2 ?c3 ?_) | fail)
          case c2 => have := HLQ.out; omega
          case c3 => have := HR1.out.size; simp; omega
          intro g8 cap8 n8 w8 e8 r8 d8 o8
          clear e8
          have H8 : Hid (SvI w2 w8 (.slice (some ⟨g8, 0, none⟩) n8 cap8) (Q ++ [s.op])) := SvI.app HR1.out (kept_alloc 0 0 W1 _) r8 d8
          have HG8 : Hid (g8 ≠ A ∧ g8 < w8.heap.size ∧ A < w8.heap.size) := by
            have h1 := (H8.out.r.blk (g := g8) rfl).2
            have h2 := d8.size
            have h3 := HZ1.out
            have h4 := (kept_alloc 0 0 W1 (.cells #[.int .u8 s.op] 5)).size
            refine ⟨?_, h1, by omega⟩
            rcases o8 with c | c
            · have := HU.out _ c; omega
            · omega
          have HA8 : Hid (AtT w8 A 0 s) := by
            have k0 := kept_alloc 0 0 W1 (.cells #[.int .u8 s.op] 5)
            have h3 := HZ1.out
            have h4 := k0.size
            exact ((HA.out.keep (by omega) k0 (.inr (.inr (Nat.le_refl _)))).keepC (by omega) d8 (fun c => by have := HU.out _ c; omega))
          clear r8 d8 o8 y0 y1 y2 y3 y4 y5 y6 y7 HA HR1 HZ1
          obtain ⟨y0, y1, y2, y3, y4, y5, y6, y7⟩ := HA8.out
          go_upto_region 14 with fail
          clear y0 y1 y2 y3 y4 y5 y6 y7
          have ka := kept_alloc 0 0 w8 (.cells #[.int .i64 s.len, .int .i64 s.n, .int .i64 s.dst, .int .i64 s.a, .int .i64 s.b, .int .i64 s.c] 3)
          have HSX : Hid _ := six_newS w8 s
          have H7 : Hid _ := H8.out.keep ka
          have HA7 : Hid _ := AtT.keep HA8.out HG8.out.2.2 ka (.inr (.inr (Nat.le_refl _)))
          have HG7 : Hid (A < (w8.alloc (.cells #[.int .i64 s.len, .int .i64 s.n, .int .i64 s.dst, .int .i64 s.a, .int .i64 s.b, .int .i64 s.c] 3)).heap.size) := by show _ < _; have := ka.size; have := HG8.out; omega
          clear ka H8 HA8
          generalize w8.alloc (.cells #[.int .i64 s.len, .int .i64 s.n, .int .i64 s.dst, .int .i64 s.a, .int .i64 s.b, .int .i64 s.c] 3) = w7 at HSX H7 HA7 HG7 ⊢
          generalize w8.heap.size = F at HSX HG8 ⊢
          obtain ⟨Qo, hQo⟩ : ∃ Qo, Qo = Q ++ [s.op] := ⟨_, rfl⟩
          rw [← hQo] at H7
          have HQo : Hid _ := hQo
          have HLo : Hid (Qo.length ≤ 100001) := by show _ ≤ _; rw [hQo, List.length_append]; have := HLQ.out; simp; omega
          clear hQo
          go_wp2_with fail
          go_loopw [3, 8] (fun b i W => ∃ q : Nat, q ≤ 6 ∧ i = .int .i64 q ∧ Hid (SvI w2 W b (Qo ++ ((fieldsOf s).take q).flatMap cntB)) ∧ Hid (Chg (fun g => g = g8) w7 W) ∧ Hid (∀ g, b.ownBlock = some g → g = g8 ∨ w7.heap.size ≤ g)) (fun _ i _ => 6 - (intOf i).toNat)
          case atStart => exact ⟨0, Nat.zero_le _, rfl, by rw [List.take_zero, List.flatMap_nil, List.append_nil]; exact H7, (Kept.refl 0 0 w7).chg, fun g h => .inl (by simpa [Value.ownBlock] using h.symm)⟩
          case round =>
            obtain ⟨q, hq, rfl, hR, hC, hG⟩ := hrel
            clear H7
            by_cases hq6 : q < 6
            · rcases (HSX.out.keepC hC.out (fun g h1 h2 c => by have := HG8.out; omega)).at_ with z | ⟨gx, ox, ex, z1, z2, z3, z4⟩
              · omega
              injection ex with ex
              injection ex with ex1 ex2
              subst ex1 ex2
              have c1' := z4 q hq6
              have hy := HFB.out _ (getD_memJ (xs := fieldsOf s) (q := q) (by exact hq6))
              have HT6 : Hid _ := flatMap_takeS cntB (fieldsOf s) 0 (k := q) (by exact hq6)
              generalize (fieldsOf s).getD q 0 = y at c1' hy HT6
              rw [Nat.zero_add] at c1'
              obtain ⟨R0, hR0⟩ : ∃ R0, R0 = Qo ++ ((fieldsOf s).take q).flatMap cntB := ⟨_, rfl⟩
              have HLR : Hid (R0.length ≤ 200000) := by
                show _ ≤ _
                rw [hR0, List.length_append, flat_cnt_len, List.length_take]; have := HLo.out; omega
              rw [← hR0] at hR
              have HR0 : Hid _ := hR0
              clear hR0 z1 z2 z3 z4
              go_wp2_with (first | (go_at_call 111; refine Calls.mono (l6count _ y (by omega) (by omega)) ?_; rintro e wx ⟨rfl, rfl⟩) | (at_builtin; refine wpList_appendY _ rfl _ _ rfl w2.heap.size _ R0 rfl (SvI.keep hR.out (kept_alloc 0 0 wr _)).r ⟨wr.heap.size, 0, none⟩ 2 2 (cntB y) rfl rfl (newsA wr _ (cntB y) rfl) (by decide) ?c2 ?c3 ?_) | fail)
              case c2 => have := HLR.out; omega
              case c3 => have := hR.out.size; simp; omega
              intro g9 cap9 n9 w9 e9 r9 d9 o9
              clear e9
              have H9 : Hid (SvI w2 w9 (.slice (some ⟨g9, 0, none⟩) n9 cap9) (R0 ++ cntB y)) := SvI.app hR.out (kept_alloc 0 0 wr _) r9 d9
              have R : Hid (SvI w2 w9 (.slice (some ⟨g9, 0, none⟩) n9 cap9) (Qo ++ ((fieldsOf s).take (q + 1)).flatMap cntB)) := by
                have h := H9.out
                rw [HR0.out, List.append_assoc, ← HT6.out] at h
                exact h
              have R2 : Hid _ := grow_round (S := fun g => g = g8) (n := n9) (cap := cap9) hC.out hG.out (kept_alloc 0 0 wr _) d9 o9
              clear r9 d9 o9 H9 hR
              go_wp2_with fail
              go_roundw
              case rel => exact ⟨q + 1, by omega, by go_num, R, R2.out.1, R2.out.2⟩
              case measure => simp [intOf]; omega
            · obtain rfl : q = 6 := by omega
              rw [show (fieldsOf s).take 6 = fieldsOf s from rfl] at hR
              have hA := AtT.keepC HA7.out HG7.out hC.out (fun c => by have := HG8.out; omega)
              obtain ⟨y0, y1, y2, y3, y4, y5, y6, y7⟩ := hA
              obtain ⟨Rq, hRq⟩ : ∃ Rq, Rq = Qo ++ (fieldsOf s).flatMap cntB := ⟨_, rfl⟩
              rw [← hRq] at hR
              have HRq : Hid _ := hRq
              have HLR : Hid (Rq.length ≤ 200000) := by
                show _ ≤ _
                rw [hRq, List.length_append, flat_cnt_len]; have := HLo.out; simp [fieldsOf]; omega
              clear hRq
              have HST : Hid (Q3 ++ (ss.take (j + 1)).flatMap steB = Rq ++ (if s.op = 1 then bytesN (fb s.k) 8 else [])) := by
                show _ = _
                rw [HT.out, HRq.out, HQo.out, HQ.out]
                simp only [steB, List.append_assoc]
              cases t : (s.op == 1)
              · have t' : ¬ s.op = 1 := by simpa using t
                rw [if_neg t', List.append_nil] at HST
                rw [← HST.out] at hR
                clear t' HST
                go_wp2_with fail
                go_roundw
                case rel => exact ⟨j + 1, by omega, by go_num, hR⟩
                case measure => simp [intOf]; omega
              · have t' : s.op = 1 := by simpa using t
                rw [if_pos t'] at HST
                have HL6 : Hid _ := l6float wr s.k HKS.out
                clear t'
                go_wp2_with fail
                refine Calls.mono HL6.out ?_
                rintro e w10 ⟨g10, cap10, rfl, n10, k10⟩
                have HN10 : Hid _ := n10
                have hR10 := hR.out.keep k10
                have HR10 : Hid _ := hR10
                clear n10 hR10 y0 y1 y2 y3 y4 y5 y6 y7
                go_wp2_with (first | (at_builtin; refine wpList_appendY _ rfl _ _ rfl w2.heap.size _ Rq rfl HR10.out.r ⟨g10, 0, none⟩ 8 cap10 (bytesN (fb s.k) 8) rfl (bytesN_len _ _) HN10.out (by decide) ?c2 ?c3 ?_) | fail)
                case c2 => have := HLR.out; omega
                case c3 => exact HR10.out.size
                intro g9 cap9 n9 w9 e9 r9 d9 o9
                clear e9
                have H9 : Hid (SvI w2 w9 (.slice (some ⟨g9, 0, none⟩) n9 cap9) (Rq ++ bytesN (fb s.k) 8)) := SvI.app HR10.out (Kept.refl 0 0 _) r9 d9
                rw [← HST.out] at H9
                clear r9 d9 o9 hR HST
                go_wp2_with fail
                go_roundw
                case rel => exact ⟨j + 1, by omega, by go_num, H9⟩
                case measure => simp [intOf]; omega
        · obtain rfl : j = n2 := by omega
          rw [List.take_of_length_le (by rw [HE.out.2.1]; exact Nat.le_refl _)] at hR
          obtain ⟨Q4, hQ4⟩ : ∃ Q4, Q4 = Q3 ++ ss.flatMap steB := ⟨_, rfl⟩
          rw [← hQ4] at hR
          have HQ4 : Hid _ := hQ4
          have HL4 : Hid (Q4.length ≤ 50000) := by
            show _ ≤ _
            rw [hQ4]
            rw [List.length_append]; have := flat_ste_len ss; have := HL3.out; have := HE.out; omega
          clear hQ4
          go_wp2_with (first | (go_at_call 111; refine Calls.mono (l6count _ (n3 : Int) (by omega) (by omega)) ?_; rintro e wx ⟨rfl, rfl⟩) | (at_builtin; refine wpList_appendY _ rfl _ _ rfl w2.heap.size _ Q4 rfl (SvI.keep hR.out (kept_alloc 0 0 wr _)).r ⟨wr.heap.size, 0, none⟩ 2 2 (cntB (n3 : Int)) rfl rfl (newsA wr _ (cntB (n3 : Int)) rfl) (by decide) ?c2 ?c3 ?_) | fail)
          case c2 => have := HL4.out; omega
          case c3 => have := hR.out.size; simp; omega
          intro g6 cap6 n6 w6 e6 r6 d6 o6
          clear e6
          have H6 : Hid (SvI w2 w6 (.slice (some ⟨g6, 0, none⟩) n6 cap6) (Q4 ++ cntB (n3 : Int))) := SvI.app hR.out (kept_alloc 0 0 wr _) r6 d6
          clear r6 d6 o6 q0 q1 q2 q3 hR
          obtain ⟨Q5, hQ5⟩ : ∃ Q5, Q5 = Q4 ++ cntB (n3 : Int) := ⟨_, rfl⟩
          rw [← hQ5] at H6
          have HQ5 : Hid _ := hQ5
          have HL5 : Hid (Q5.length ≤ 50002) := by
            show _ ≤ _
            rw [hQ5]
            rw [List.length_append, cntB_len]; have := HL4.out; omega
          clear hQ5
          go_wp2_with fail
          go_loopw [3, 9] (fun b i W => ∃ m : Nat, m ≤ n3 ∧ i = .int .i64 m ∧ Hid (SvI w2 W b (Q5 ++ (os.take m).flatMap spnB))) (fun _ i _ => n3 - (intOf i).toNat)
          case atStart => exact ⟨0, Nat.zero_le _, rfl, by rw [List.take_zero, List.flatMap_nil, List.append_nil]; exact H6⟩
          case round =>
            obtain ⟨m, hm, rfl, hR⟩ := hrel
            clear H6
            obtain ⟨_, q0, q1, q2, q3⟩ := HB.out.keep hR.out.k
            by_cases hlt : m < n3
            · rcases HF.out.o.at_ with z | ⟨ga, off, rfl, z1, z2, z3', z4⟩
              · omega
              have hat := AtP.keep (z4 m hlt) z3' hR.out.k (.inr (.inr (Nat.le_refl _)))
              have z3 : ga < wr.heap.size := Nat.lt_of_lt_of_le z3' hR.out.size
              have hs := HO.out.o m (by rw [HE.out.2.2]; exact hlt)
              have HT : Hid _ := flatMap_takeS spnB os Spn.zero (by rw [HE.out.2.2]; exact hlt)
              have HAT : Hid (∀ W', Kept 0 0 wr W' → AtP W' ga (off + m * 2) (os.getD m Spn.zero)) := fun W' k => AtP.keep hat z3 k (.inr (.inr (Nat.le_refl _)))
              obtain ⟨Q, hQ⟩ : ∃ Q, Q = Q5 ++ (os.take m).flatMap spnB := ⟨_, rfl⟩
              have HLQ : Hid (Q.length ≤ 100000) := by
                show _ ≤ _
                have h2 := HL5.out
                rw [hQ, List.length_append, flat_spn_len, List.length_take]
                omega
              rw [← hQ] at hR
              have HQ : Hid _ := hQ
              generalize os.getD m Spn.zero = s at hat hs HT HAT
              have HGA : Hid (ga < w2.heap.size) := z2
              obtain ⟨y0, y1⟩ := hat
              obtain ⟨⟨s1, s2⟩, s3, s4⟩ := hs
              clear hQ z1 z2 z3 z3' z4
              go_wp2_with (first | (go_at_call 111; refine Calls.mono (l6count _ s.off (by omega) (by omega)) ?_; rintro e wx ⟨rfl, rfl⟩) | (at_builtin; refine wpList_appendY _ rfl _ _ rfl w2.heap.size _ Q rfl (SvI.keep hR.out (kept_alloc 0 0 wr _)).r ⟨wr.heap.size, 0, none⟩ 2 2 (cntB s.off) rfl rfl (newsA wr _ (cntB s.off) rfl) (by decide) ?c2 ?c3 ?_) | fail)
              case c2 => have := HLQ.out; omega
              case c3 => have := hR.out.size; simp; omega
              intro g9 cap9 n9 w9 e9 r9 d9 o9
              clear e9
              have H9 : Hid (SvI w2 w9 (.slice (some ⟨g9, 0, none⟩) n9 cap9) (Q ++ cntB s.off)) := SvI.app hR.out (kept_alloc 0 0 wr _) r9 d9
              have hk9 : Kept 0 0 w2 w9 := H9.out.k
              clear r9 o9 q0 q1 q2 q3 y0 y1
              have hat9 : AtP w9 ga (off + m * 2) s := by
                have k0 := kept_alloc 0 0 wr (.cells #[.int .u8 (s.off % 256), .int .u8 (s.off / 256)] 5)
                have a1 := HAT.out _ k0
                have e : ∀ o, w9.cell? ⟨ga, o, none⟩ = (wr.alloc (.cells #[.int .u8 (s.off % 256), .int .u8 (s.off / 256)] 5)).cell? ⟨ga, o, none⟩ := fun o => d9.cell (p := ⟨ga, o, none⟩) (by have h1 := HGA.out; have h2 := hR.out.size; have h3 := k0.size; show ga < _; omega) (fun c => by have h1 : w2.heap.size ≤ ga := (hR.out.r.blk c).1; have h2 := HGA.out; omega)
                exact ⟨by rw [e]; exact a1.c0, by rw [e]; exact a1.c1⟩
              obtain ⟨_, q0, q1, q2, q3⟩ := HB.out.keep H9.out.k
              obtain ⟨y0, y1⟩ := hat9
              obtain ⟨Qa, hQa⟩ : ∃ Qa, Qa = Q ++ cntB s.off := ⟨_, rfl⟩
              rw [← hQa] at H9
              have HQa : Hid _ := hQa
              have HLa : Hid (Qa.length ≤ 100002) := by show _ ≤ _; rw [hQa, List.length_append, cntB_len]; have := HLQ.out; omega
              clear hQa d9 hR hk9 HAT
              go_wp2_with (first | (go_at_call 111; refine Calls.mono (l6count _ s.len (by omega) (by omega)) ?_; rintro e wx ⟨rfl, rfl⟩) | (at_builtin; refine wpList_appendY _ rfl _ _ rfl w2.heap.size _ Qa rfl (SvI.keep H9.out (kept_alloc 0 0 w9 _)).r ⟨w9.heap.size, 0, none⟩ 2 2 (cntB s.len) rfl rfl (newsA w9 _ (cntB s.len) rfl) (by decide) ?c2 ?c3 ?_) | fail)
              case c2 => have := HLa.out; omega
              case c3 => have := H9.out.size; simp; omega
              intro g11 cap11 n11 w11 e11 r11 d11 o11
              clear e11
              have H11 : Hid (SvI w2 w11 (.slice (some ⟨g11, 0, none⟩) n11 cap11) (Qa ++ cntB s.len)) := SvI.app H9.out (kept_alloc 0 0 w9 _) r11 d11
              have R : Hid (SvI w2 w11 (.slice (some ⟨g11, 0, none⟩) n11 cap11) (Q5 ++ (os.take (m + 1)).flatMap spnB)) := by
                have h := H11.out
                rw [HQa.out, HQ.out] at h
                have e : Q5 ++ (os.take (m + 1)).flatMap spnB = Q5 ++ (os.take m).flatMap spnB ++ cntB s.off ++ cntB s.len := by
                  rw [HT.out]; simp only [spnB, List.append_assoc]
                rw [e]
                exact h
              clear r11 d11 o11 H11 H9 q0 q1 q2 q3 y0 y1
              go_wp2_with fail
              go_roundw
              case rel => exact ⟨m + 1, by omega, by go_num, R⟩
              case measure => simp [intOf]; omega
            · obtain rfl : m = n3 := by omega
              rw [List.take_of_length_le (by rw [HE.out.2.2]; exact Nat.le_refl _)] at hR
              obtain ⟨Q6, hQ6⟩ : ∃ Q6, Q6 = Q5 ++ os.flatMap spnB := ⟨_, rfl⟩
              rw [← hQ6] at hR
              have HQ6 : Hid _ := hQ6
              have HL6 : Hid (Q6.length ≤ 60000) := by
                show _ ≤ _
                rw [hQ6]
                rw [List.length_append, flat_spn_len]; have := HL5.out; have := HE.out; omega
              clear hQ6
              go_wp2_with (first | (go_at_call 111; refine Calls.mono (l6count _ pk (by omega) (by omega)) ?_; rintro e wx ⟨rfl, rfl⟩) | (at_builtin; refine wpList_appendY _ rfl _ _ rfl w2.heap.size _ Q6 rfl (SvI.keep hR.out (kept_alloc 0 0 wr _)).r ⟨wr.heap.size, 0, none⟩ 2 2 (cntB pk) rfl rfl (newsA wr _ (cntB pk) rfl) (by decide) ?c2 ?c3 ?_) | fail)
              case c2 => have := HL6.out; omega
              case c3 => have := hR.out.size; simp; omega
              intro g12 cap12 n12 w12 e12 r12 d12 o12
              clear e12
              have H12 : Hid (SvI w2 w12 (.slice (some ⟨g12, 0, none⟩) n12 cap12) (Q6 ++ cntB pk)) := SvI.app hR.out (kept_alloc 0 0 wr _) r12 d12
              have RS : Hid (Q6 ++ cntB pk = saveM ins ss os pk) := by
                show _ = _
                unfold saveM
                rw [HQ6.out, HQ5.out, HQ4.out, HQ3.out, HQ2.out, HQ1.out, HQ0.out, HE.out.1, HE.out.2.1, HE.out.2.2]
              rw [RS.out] at H12
              clear r12 d12 o12 q0 q1 q2 q3 hR
              go_wp2_with fail
              go_ret
              exact ⟨_, rfl, own_mono H12.out.r (by have := HPZ.out; have := HZ.out; omega), Kept.trans HK.out H12.out.k⟩
set_option maxRecDepth 100000 in
set_option maxHeartbeats 2000000 in
theorem specSave_bad (w : World) (a1 a2 a3 : Option Addr) (n1 c1 n2 c2 n3 c3 : Nat) (pk : Int) (ins : List Int) (ss : List Ste) (os : List Spn) (f : CS w a1 n1 a2 n2 a3 n3 ins ss os) (hv : verM ins ss os pk = false) :
    Calls Try.prog 20 #[cagg a1 n1 c1 a2 n2 c2 a3 n3 c3 pk] w fun e w' => e = .returned (.slice none 0 0) ∧ Kept 0 0 w w' := by
  have ka := kept_alloc 0 0 w (cbox a1 n1 c1 a2 n2 c2 a3 n3 c3 pk)
  have HV : Hid _ := specVer (w.alloc (cbox a1 n1 c1 a2 n2 c2 a3 n3 c3 pk)) a1 a2 a3 n1 c1 n2 c2 n3 c3 pk ins ss os (f.keep ka)
  rw [hv] at HV
  clear f hv
  go_enter Try.func20, Try.ntmps20
  go_wp2_with (first | (go_at_call 60; refine Calls.mono HV.out ?_; rintro e w2 ⟨rfl, k2⟩) | fail)
  go_ret
  exact ⟨rfl, ka.trans k2⟩
set_option maxRecDepth 100000 in
set_option maxHeartbeats 2000000 in
theorem specSave_in (w : World) (a1 a2 a3 : Option Addr) (n1 c1 n2 c2 n3 c3 : Nat) (pk : Int) (ins : List Int) (ss : List Ste) (os : List Spn) (f : CS w a1 n1 a2 n2 a3 n3 ins ss os) (hv : verM ins ss os pk = true) :
    Calls Try.prog 20 #[cagg a1 n1 c1 a2 n2 c2 a3 n3 c3 pk] w fun e w' => ∃ v, e = .returned v ∧ YB w' w.heap.size v (saveM ins ss os pk) ∧ Kept 0 0 w w' := by
  have HO : Hid _ := svOK_of hv
  have ka := kept_alloc 0 0 w (cbox a1 n1 c1 a2 n2 c2 a3 n3 c3 pk)
  have HV : Hid _ := specVer (w.alloc (cbox a1 n1 c1 a2 n2 c2 a3 n3 c3 pk)) a1 a2 a3 n1 c1 n2 c2 n3 c3 pk ins ss os (f.keep ka)
  rw [hv] at HV
  have HF : Hid _ := f.keep ka
  have HB : Hid _ := c0_start w (.slice a1 n1 c1) (.slice a2 n2 c2) (.slice a3 n3 c3) (.int .i64 pk)
  have HK : Hid _ := ka
  clear f hv ka
  go_enter Try.func20, Try.ntmps20
  go_wp2_with fail
  refine Calls.mono HV.out ?_
  rintro e w2 ⟨rfl, k2⟩
  obtain ⟨_, q0, q1, q2, q3⟩ := HB.out.keep k2
  go_wp2_with fail
  refine Calls.mono (l6save w2 a1 a2 a3 n1 c1 n2 c2 n3 c3 pk ins ss os (HF.out.keep k2) HO.out) ?_
  rintro e w3 ⟨v, rfl, r3, k3⟩
  have R1 : Hid _ := own_mono r3 (Nat.le_trans HK.out.size k2.size)
  have R2 : Hid _ := (Kept.trans HK.out k2).trans k3
  clear r3 k3 q0 q1 q2 q3
  go_wp2_with fail
  go_ret
  exact ⟨_, rfl, R1.out, R2.out⟩
end Go.Proofs.Ytdkjdlimcnddkaa
