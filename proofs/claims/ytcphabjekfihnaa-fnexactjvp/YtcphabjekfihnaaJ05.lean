import Derived.Test.YtcphabjekfihnaaJ04
import Derived.Test.YtcphabjekfihnaaP16
import Derived.Deep.QuietTactic
import Derived.BigQuiet
namespace Go.Proofs.Ytcphabjekfihnaa
open Go.RowKit Flt
attribute [local go_sem] alloc_drewN setCell_drewN run_store_float

/-- The move of value i, which is v, from those of its operands: what is put behind N values, and the move or -1. -/
def mvM (i : Int) (v : Vl) (ta tb tc : Int) (N : Nat) : List Vl × Int :=
  if ta = -1 ∧ tb = -1 ∧ tc = -1 then ([], -1)
  else if v.op = 2 then sumM v.len ta tb N
  else if v.op = 3 then difM v.len ta tb N
  else if v.op = 4 then mulM v ta tb N
  else if v.op = 5 then divM i v ta tb N
  else if v.op = 7 then ([vput 3 v.len v.a v.b 0] ++ (chM v.len N ta tb (N + 1)).1, (chM v.len N ta tb (N + 1)).2)
  else if v.op = 8 then (if tb = -1 ∧ tc = -1 then ([], -1) else chM v.len v.a tb tc N)
  else if v.op = 13 then ([vput 4 v.len ta i 0], (N : Int))
  else ([vput v.op v.len ta 0 v.c], (N : Int))
/-- The moves of the first q operands. -/
def ovs (v : Vl) (mv : List Int) (q j : Nat) : Int := if j < q then mv.getD (fld v j).toNat 0 else -1
/-- An array of three ints of the call's own. -/
structure A3 (W : World) (A : Nat) (x : Nat → Int) : Prop where
  lt : A < W.heap.size
  free : ∀ o, W.frozen? ⟨A, o, none⟩ = false
  at_ : ∀ j, j < 3 → W.cell? ⟨A, j, none⟩ = some (.int .i64 (x j))
theorem A3.keep {W W' : World} {A : Nat} {x : Nat → Int} (f : A3 W A x) (q : Kept 0 0 W W') : A3 W' A x :=
  ⟨Nat.lt_of_lt_of_le f.lt q.size, fun o => by rw [q.frozen (p := ⟨A, o, none⟩) f.lt (by omega)]; exact f.free o, fun j hj => kcell q f.lt (f.at_ j hj)⟩
theorem A3.put {W : World} {A : Nat} {v : Vl} {mv : List Int} {q : Nat} (f : A3 W A (ovs v mv q)) (hq : q < 3) : A3 (W.setCell ⟨A, q, none⟩ (.int .i64 (mv.getD (fld v q).toNat 0))) A (ovs v mv (q + 1)) where
  lt := by simpa using f.lt
  free := fun o => by simp [f.free o]
  at_ := fun j hj => by
    by_cases e : j = q
    · subst e
      rw [cell_eq _ _ _ _ _ (f.at_ j hj)]
      unfold ovs
      rw [if_pos (Nat.lt_succ_self _)]
    · rw [cell_ne _ _ _ _ _ _ (.inr (Ne.symm e)), f.at_ j hj]
      unfold ovs
      by_cases c : j < q
      · rw [if_pos c, if_pos (by omega)]
      · rw [if_neg c, if_neg (by omega)]
theorem a3_start (w : World) (v : Vl) (mv : List Int) (t : TypeId) : A3 (w.alloc (.cells #[.int .i64 (-1), .int .i64 (-1), .int .i64 (-1)] t)) w.heap.size (ovs v mv 0) where
  lt := by simp
  free := fun o => by simp
  at_ := fun j hj => by
    have : j = 0 ∨ j = 1 ∨ j = 2 := by omega
    rcases this with rfl | rfl | rfl <;> simp [ovs]

theorem opsOf_atJ (v : Vl) {q : Nat} (hq : q < cnt v.op) : (opsOf v).getD q 0 = [v.a, v.b, v.c].getD q 0 := by
  unfold opsOf
  rw [List.getD_eq_getElem?_getD, List.getD_eq_getElem?_getD, List.getElem?_take_of_lt hq]
theorem fld_atJ (v : Vl) {q : Nat} (hq : q < 3) : fld v q = [v.a, v.b, v.c].getD q 0 := by
  rcases (by omega : q = 0 ∨ q = 1 ∨ q = 2) with rfl | rfl | rfl <;> rfl
theorem three {a b c : Int} (h : ¬ (a = -1 ∧ b = -1 ∧ c = -1)) : ((a == -1) = false) ∨ ((a == -1) = true ∧ (b == -1) = false) ∨ ((a == -1) = true ∧ (b == -1) = true ∧ (c == -1) = false) := by
  cases h1 : (a == -1)
  · exact .inl rfl
  · cases h2 : (b == -1)
    · exact .inr (.inl ⟨rfl, rfl⟩)
    · cases h3 : (c == -1)
      · exact .inr (.inr ⟨rfl, rfl, rfl⟩)
      · exact absurd ⟨eq_of_beq h1, eq_of_beq h2, eq_of_beq h3⟩ h
theorem two {b c : Int} (h : ¬ (b = -1 ∧ c = -1)) : ((b == -1) = false) ∨ ((b == -1) = true ∧ (c == -1) = false) := by
  cases h2 : (b == -1)
  · exact .inl rfl
  · cases h3 : (c == -1)
    · exact .inr ⟨rfl, rfl⟩
    · exact absurd ⟨eq_of_beq h2, eq_of_beq h3⟩ h
theorem ch_next {w w1 : World} {P : Nat} {u1 u3 : Value} {vs a : List Vl} {c : Int} {base : Nat} {R R1 : Option Nat} {vv : Value} (h : BS w1 P u1 u3 (vs ++ a) (c + cellsV a) base R1 vv) (s : Stp P R w R1 w1) {n : Int} (b : Bnd (vs ++ a) (c + cellsV a) n) (d p q : Int) :
    Calls Try.prog 186 #[.pointer (some ⟨P, 0, none⟩), .int .i64 n, .int .i64 d, .int .i64 p, .int .i64 q] w1 fun e w' => Bd w P u1 u3 vs c base R (a ++ (chM n d p q (vs.length + a.length)).1, (chM n d p q (vs.length + a.length)).2) e w' :=
  (putChoice w1 P u1 u3 (vs ++ a) (c + cellsV a) base R1 vv n d p q h b).mono fun e w' hb => by
    rw [List.length_append] at hb
    exact Bd.after s hb

set_option maxRecDepth 100000 in
set_option maxHeartbeats 8000000 in
theorem moveOf (w : World) (P : Nat) (u1 u3 : Value) (vs : List Vl) (c : Int) (base : Nat) (R : Option Nat) (vv : Value) (i Mb n capM : Nat) (mv : List Int) (v : Vl) (h : BS w P u1 u3 vs c base R vv) (hi : i < vs.length) (hv' : vs.getD i Vl.zero = v) (b : Bnd0 vs c v.len) (hM : IR w Mb mv) (hMl : mv.length = n) (hops : ∀ q, q < cnt v.op → 0 ≤ fld v q ∧ fld v q < n) :
    Calls Try.prog 159 #[.pointer (some ⟨P, 0, none⟩), .int .i64 (i : Int), .slice (some ⟨Mb, 0, none⟩) n capM] w fun e w' => Bd w P u1 u3 vs c base R (mvM (i : Int) v (ovs v mv (cnt v.op) 0) (ovs v mv (cnt v.op) 1) (ovs v mv (cnt v.op) 2) vs.length) e w' := by
  have k0 := kept_alloc 0 0 w (vbox v.op v.len v.a v.b v.c v.k)
  have k1 := kept_alloc 0 0 (w.alloc (vbox v.op v.len v.a v.b v.c v.k)) (.cells #[.int .i64 (-1), .int .i64 (-1), .int .i64 (-1)] 198)
  have HV : Hid _ := (vbox_atJ w v).keep (by simp) k1 (.inr (.inr (Nat.le_refl _)))
  have HA : Hid _ := a3_start (w.alloc (vbox v.op v.len v.a v.b v.c v.k)) v mv 198
  obtain ⟨g, cap, rfl, hg, hA⟩ := h.read (by omega)
  have z1 := h.c1
  have hat := hA i hi
  rw [hv'] at hat
  have hc3 := cnt_le v.op
  have HK : Hid _ := k0.trans k1
  have HB : Hid _ := h
  have HM : Hid _ := hM
  have HML : Hid (mv.length = n) := hMl
  have HO : Hid _ := hops
  have HBN : Hid _ := b
  have HVI : Hid (vs.getD i Vl.zero = v) := hv'
  have HZ : Hid (w.heap.size + 1 < ((w.alloc (vbox v.op v.len v.a v.b v.c v.k)).alloc (.cells #[.int .i64 (-1), .int .i64 (-1), .int .i64 (-1)] 198)).heap.size) := by show _ < _; simp
  have HMB : Hid (Mb < w.heap.size) := hM.lt
  clear h hv' hA hg k0 k1 hM hops b hMl
  obtain ⟨d0, d1, d2, d3, d4, d5⟩ := hat
  go_enter Try.func159, Try.ntmps159
  go_wp2_with fail
  clear d0 d1 d2 d3 d4 d5 z1
  generalize ((w.alloc (vbox v.op v.len v.a v.b v.c v.k)).alloc (.cells #[.int .i64 (-1), .int .i64 (-1), .int .i64 (-1)] 198)) = w1 at HV HA HK HZ ⊢
  refine (operandsOf _ v).mono ?_
  rintro e w2 ⟨G, rfl, hI, hG, k3⟩
  have HI : Hid _ := hI
  have HA2 : Hid (A3 w2 (w.heap.size + 1) (ovs v mv 0)) := by
    have := HA.out.keep k3
    rw [show (w.alloc (vbox v.op v.len v.a v.b v.c v.k)).heap.size = w.heap.size + 1 by simp] at this
    exact this
  have HV2 : Hid _ := HV.out.keep (by have := HZ.out; omega) k3 (.inr (.inr (Nat.le_refl _)))
  have HK2 : Hid _ := HK.out.trans k3
  clear hI hG k3 HA HV HK
  go_wp2_with fail
  go_loopw [30] (fun x W => ∃ q : Nat, q ≤ cnt v.op ∧ x = .int .i64 q ∧ Hid (A3 W (w.heap.size + 1) (ovs v mv q)) ∧ Hid (At W w.heap.size 0 v) ∧ Hid (IS W w1.heap.size w2.heap.size (some ⟨G, 0, none⟩) (cnt v.op) (opsOf v)) ∧ Hid (Kept 0 0 w W)) (fun x _ => cnt v.op - (intOf x).toNat)
  case atStart => exact ⟨0, Nat.zero_le _, rfl, HA2, HV2, HI, HK2⟩
  case round =>
    obtain ⟨q, hq, rfl, hA, hV, hI, hK⟩ := hrel
    clear HA2 HV2 HI HK2
    by_cases hlt : q < cnt v.op
    · rcases hI.out.at_ with z0 | ⟨ga, oa, ea, z1, z2, z3, z4⟩
      · omega
      have c1 := z4 q hlt
      cases ea
      rw [Nat.zero_add, opsOf_atJ v hlt, ← fld_atJ v (by omega)] at c1
      have hf := HO.out q hlt
      rcases (hM_is (IR.keep HM.out hK.out (.inr (.inr (Nat.le_refl _)))) HML.out).at_ with z0 | ⟨gm, om, em, y1, y2, y3, y4⟩
      · omega
      cases em
      obtain ⟨o, ho⟩ : ∃ o : Nat, fld v q = o := ⟨(fld v q).toNat, by omega⟩
      have c2 := y4 o (by omega)
      rw [Nat.zero_add] at c2
      have c5 := hA.out.at_ q (by omega)
      have fz := hA.out.free q
      have hput := hA.out.put (v := v) (mv := mv) (q := q) (by omega)
      rw [ho, Int.toNat_natCast] at hput
      rw [ho] at c1 hf
      have R1 : Hid _ := hput
      have kp : Kept (w.heap.size + 1) (w.heap.size + 2) wr (wr.setCell ⟨w.heap.size + 1, q, none⟩ (.int .i64 (mv.getD o 0))) := kept_setCell _ _ _ (.inl ⟨Nat.le_refl _, Nat.lt_succ_self _⟩)
      have R2 : Hid _ := hV.out.keep (by have := hA.out.lt; omega) kp (.inl (by omega))
      have R4 : Hid _ := hI.out.keep kp (.inr (.inl (by have := HZ.out; omega)))
      have R5 : Hid _ := hK.out.new kp (by omega)
      have hq3 : q < 3 := by omega
      have hon : o < n := by omega
      clear z1 z2 z3 z4 y1 y2 y3 y4 kp hA hV hI hK hf ho hput
      generalize mv.getD o 0 = mo at c2 R1 R2 R4 R5
      generalize ovs v mv q q = mq at c5
      go_wp2
      go_roundw
      case rel => exact ⟨q + 1, by omega, by go_num, R1, R2, R4, R5⟩
      case measure => simp [intOf]; omega
    · obtain rfl : q = cnt v.op := by omega
      have x0 := hA.out.at_ 0 (by omega)
      have x1 := hA.out.at_ 1 (by omega)
      have x2 := hA.out.at_ 2 (by omega)
      have hcn : (ovs v mv (cnt v.op) 0 = -1 ∧ ovs v mv (cnt v.op) 1 = -1 ∧ ovs v mv (cnt v.op) 2 = -1) ∨ (v.op = 2 ∨ v.op = 3 ∨ v.op = 4 ∨ v.op = 5 ∨ v.op = 6 ∨ v.op = 7 ∨ v.op = 8 ∨ v.op = 9 ∨ v.op = 10 ∨ v.op = 11 ∨ v.op = 12 ∨ v.op = 13) := by
        by_cases h0 : cnt v.op = 0
        · left
          rw [h0]
          exact ⟨rfl, rfl, rfl⟩
        · right
          unfold cnt at h0
          by_cases q1 : v.op = 6 ∨ v.op = 9 ∨ v.op = 10 ∨ v.op = 11 ∨ v.op = 12 ∨ v.op = 13
          · omega
          · rw [if_neg q1] at h0
            by_cases q2 : v.op = 2 ∨ v.op = 3 ∨ v.op = 4 ∨ v.op = 5 ∨ v.op = 7
            · omega
            · rw [if_neg q2] at h0
              by_cases q3 : v.op = 8
              · omega
              · rw [if_neg q3] at h0
                exact absurd rfl h0
      have HB1 : Hid (Bnd vs c v.len) := ⟨by have := HBN.out.l; omega, by have := HBN.out.c0; omega, by have := HBN.out.c1; omega, HBN.out.n0, HBN.out.n1⟩
      have HKW : Hid _ := hK.out
      have HVW : Hid _ := hV.out
      have HWZ : Hid (w.heap.size < wr.heap.size) := by have := hA.out.lt; show _ < _; omega
      clear hA hV hI hK
      obtain ⟨ta, hta⟩ : ∃ ta, ta = ovs v mv (cnt v.op) 0 := ⟨_, rfl⟩
      obtain ⟨tb, htb⟩ : ∃ tb, tb = ovs v mv (cnt v.op) 1 := ⟨_, rfl⟩
      obtain ⟨tc, htc⟩ : ∃ tc, tc = ovs v mv (cnt v.op) 2 := ⟨_, rfl⟩
      rw [← hta] at x0
      rw [← htb] at x1
      rw [← htc] at x2
      rw [← hta, ← htb, ← htc] at hcn
      have HTT : Hid (ta = ovs v mv (cnt v.op) 0 ∧ tb = ovs v mv (cnt v.op) 1 ∧ tc = ovs v mv (cnt v.op) 2) := ⟨hta, htb, htc⟩
      clear hta htb htc
      go_wp2_with fail
      go_quiet (fail)
      have HK3 : Hid _ := Kept.trans HKW.out (kept_drewN 0 0 wr nq)
      have hV3 := HVW.out.keep HWZ.out (kept_drewN 0 0 wr nq) (.inr (.inr (Nat.le_refl _)))
      clear x0 x1 x2 HVW HKW HWZ
      generalize wr.drewN nq = w3 at HK3 hV3 ⊢
      obtain ⟨s0, s1, s2, s3, s4, s5⟩ := hV3
      have HBS : Hid (BS w3 P u1 u3 vs c base R (.slice (some ⟨g, 0, none⟩) vs.length cap)) := HB.out.keep HK3.out
      have HFF : Hid (∀ {w' : World} {e : Ending} {M : List Vl × Int}, Bd w3 P u1 u3 vs c base R M e w' → M = mvM (i : Int) v ta tb tc vs.length → ∃ r : Int, e = .returned (.int .i64 r) ∧ Hid (Bd w P u1 u3 vs c base R (mvM (i : Int) v (ovs v mv (cnt v.op) 0) (ovs v mv (cnt v.op) 1) (ovs v mv (cnt v.op) 2) vs.length) (.returned (.int .i64 r)) w')) := fun {w' e M} hb hm => by
        have h := Bd.kept HK3.out (Bd.cast (show M = mvM (i : Int) v (ovs v mv (cnt v.op) 0) (ovs v mv (cnt v.op) 1) (ovs v mv (cnt v.op) 2) vs.length by rw [hm, HTT.out.1, HTT.out.2.1, HTT.out.2.2]) hb)
        exact ⟨_, h.1, ⟨rfl, h.2⟩⟩
      have HFN : Hid (([], -1) = mvM (i : Int) v ta tb tc vs.length → Bd w P u1 u3 vs c base R (mvM (i : Int) v (ovs v mv (cnt v.op) 0) (ovs v mv (cnt v.op) 1) (ovs v mv (cnt v.op) 2) vs.length) (.returned (.int .i64 (-1))) w3) := fun hm => Bd.kept HK3.out (Bd.cast (by rw [hm, HTT.out.1, HTT.out.2.1, HTT.out.2.2]) (Bd.none HBS.out (-1)))
      clear HK3
      by_cases hall : ta = -1 ∧ tb = -1 ∧ tc = -1
      · obtain ⟨rfl, rfl, rfl⟩ := hall
        go_wp2
        go_ret
        exact HFN.out (by unfold mvM; rw [if_pos ⟨rfl, rfl, rfl⟩])
      · have HALL : Hid _ := hall
        rcases three hall with tA | ⟨tA, tB⟩ | ⟨tA, tB, tC⟩
        all_goals
          rcases hcn with hcn | hcn
          · exact absurd hcn HALL.out
          clear hall
          rcases hcn with hop | hop | hop | hop | hop | hop | hop | hop | hop | hop | hop | hop
          · rw [hop] at s0
            have HOP : Hid (v.op = 2) := hop
            clear hop
            go_wp2_with fail
            refine Calls.mono (putSum w3 P u1 u3 vs c base R _ v.len ta tb HBS.out HB1.out) ?_
            rintro e w9 hb
            obtain ⟨r, rfl, hR⟩ := HFF.out hb (by unfold mvM; rw [if_neg HALL.out, if_pos HOP.out])
            clear hb
            go_wp2
            go_ret
            exact hR.out
          · rw [hop] at s0
            have HOP : Hid (v.op = 3) := hop
            clear hop
            go_wp2_with fail
            refine Calls.mono (putDif w3 P u1 u3 vs c base R _ v.len ta tb HBS.out HB1.out) ?_
            rintro e w9 hb
            obtain ⟨r, rfl, hR⟩ := HFF.out hb (by unfold mvM; rw [if_neg HALL.out, if_neg (by have := HOP.out; omega), if_pos HOP.out])
            clear hb
            go_wp2
            go_ret
            exact hR.out
          · rw [hop] at s0
            have HOP : Hid (v.op = 4) := hop
            clear hop
            go_wp2_with fail
            refine Calls.mono (product w3 P u1 u3 vs c base R _ ⟨4, v.len, v.a, v.b, v.c, v.k⟩ ta tb HBS.out HBN.out) ?_
            rintro e w9 hb
            obtain ⟨r, rfl, hR⟩ := HFF.out hb (by unfold mvM; rw [if_neg HALL.out, if_neg (by have := HOP.out; omega), if_neg (by have := HOP.out; omega), if_pos HOP.out]; unfold mulM; rfl)
            clear hb
            go_wp2
            go_ret
            exact hR.out
          · rw [hop] at s0
            have HOP : Hid (v.op = 5) := hop
            clear hop
            go_wp2_with fail
            refine Calls.mono (quotientJ w3 P u1 u3 vs c base R _ i v ta tb HBS.out hi HVI.out HBN.out) ?_
            rintro e w9 hb
            obtain ⟨r, rfl, hR⟩ := HFF.out hb (by unfold mvM; rw [if_neg HALL.out, if_neg (by have := HOP.out; omega), if_neg (by have := HOP.out; omega), if_neg (by have := HOP.out; omega), if_pos HOP.out])
            clear hb
            go_wp2
            go_ret
            exact hR.out
          · rw [hop] at s0
            have HOP : Hid (v.op = 6) := hop
            clear hop
            go_wp2_with fail
            refine Calls.mono (put_bd w3 P u1 u3 vs c base R _ 6 v.len ta 0 v.c HBS.out (by have := HBN.out.l; omega) (by have := HBN.out.c0; omega) (by have := HBN.out.c1; omega) (by have := HBN.out.n0; omega) (by have := HBN.out.n1; omega)) ?_
            rintro e w9 hb
            obtain ⟨r, rfl, hR⟩ := HFF.out hb (by unfold mvM; rw [if_neg HALL.out, if_neg (by have := HOP.out; omega), if_neg (by have := HOP.out; omega), if_neg (by have := HOP.out; omega), if_neg (by have := HOP.out; omega), if_neg (by have := HOP.out; omega), if_neg (by have := HOP.out; omega), if_neg (by have := HOP.out; omega), HOP.out])
            clear hb
            go_wp2
            go_ret
            exact hR.out
          · rw [hop] at s0
            have HOP : Hid (v.op = 7) := hop
            clear hop
            go_wp2_with fail
            refine Calls.mono (put_bd w3 P u1 u3 vs c base R _ 3 v.len v.a v.b 0 HBS.out (by have := HBN.out.l; omega) (by have := HBN.out.c0; omega) (by have := HBN.out.c1; omega) (by have := HBN.out.n0; omega) (by have := HBN.out.n1; omega)) ?_
            rintro e w4 ⟨rfl, R4, vv4, h4, s4⟩
            have H4 : Hid _ := ch_next (n := v.len) h4 s4 ⟨by have := HBN.out.l; simp; omega, by have := HBN.out.c0; have := HBN.out.n0; simp [cellsV]; omega, by have := HBN.out.c1; have := HBN.out.n1; simp [cellsV]; omega, HBN.out.n0, HBN.out.n1⟩ (vs.length : Nat) ta tb
            clear h4 s4
            go_wp2_with fail
            refine Calls.mono H4.out ?_
            rintro e w9 hb
            obtain ⟨r, rfl, hR⟩ := HFF.out hb (by unfold mvM; rw [if_neg HALL.out, if_neg (by have := HOP.out; omega), if_neg (by have := HOP.out; omega), if_neg (by have := HOP.out; omega), if_neg (by have := HOP.out; omega), if_pos HOP.out]; rfl)
            clear hb
            go_wp2
            go_ret
            exact hR.out
          · rw [hop] at s0
            have HOP : Hid (v.op = 8) := hop
            clear hop
            by_cases hbc : tb = -1 ∧ tc = -1
            · first
                | (exact absurd (show (tb == -1) = true by rw [hbc.1]; rfl) (by rw [tB]; decide))
                | (exact absurd (show (tc == -1) = true by rw [hbc.2]; rfl) (by rw [tC]; decide))
                | (have HBC : Hid _ := hbc
                   have tD : (tb == -1) = true := by rw [hbc.1]; rfl
                   have tE : (tc == -1) = true := by rw [hbc.2]; rfl
                   clear hbc
                   go_wp2
                   go_ret
                   exact HFN.out (by unfold mvM; rw [if_neg HALL.out, if_neg (by have := HOP.out; omega), if_neg (by have := HOP.out; omega), if_neg (by have := HOP.out; omega), if_neg (by have := HOP.out; omega), if_neg (by have := HOP.out; omega), if_pos HOP.out, if_pos HBC.out]))
            · have HBC : Hid _ := hbc
              rcases two hbc with tD | ⟨tD, tE⟩
              all_goals first
                | (exact absurd tD (by rw [tB]; decide))
                | (clear hbc
                   go_wp2_with fail
                   refine Calls.mono (putChoice w3 P u1 u3 vs c base R _ v.len v.a tb tc HBS.out HB1.out) ?_
                   rintro e w9 hb
                   obtain ⟨r, rfl, hR⟩ := HFF.out hb (by unfold mvM; rw [if_neg HALL.out, if_neg (by have := HOP.out; omega), if_neg (by have := HOP.out; omega), if_neg (by have := HOP.out; omega), if_neg (by have := HOP.out; omega), if_neg (by have := HOP.out; omega), if_pos HOP.out, if_neg HBC.out])
                   clear hb
                   go_wp2
                   go_ret
                   exact hR.out)
          · rw [hop] at s0
            have HOP : Hid (v.op = 9) := hop
            clear hop
            go_wp2_with fail
            refine Calls.mono (put_bd w3 P u1 u3 vs c base R _ 9 v.len ta 0 v.c HBS.out (by have := HBN.out.l; omega) (by have := HBN.out.c0; omega) (by have := HBN.out.c1; omega) (by have := HBN.out.n0; omega) (by have := HBN.out.n1; omega)) ?_
            rintro e w9 hb
            obtain ⟨r, rfl, hR⟩ := HFF.out hb (by unfold mvM; rw [if_neg HALL.out, if_neg (by have := HOP.out; omega), if_neg (by have := HOP.out; omega), if_neg (by have := HOP.out; omega), if_neg (by have := HOP.out; omega), if_neg (by have := HOP.out; omega), if_neg (by have := HOP.out; omega), if_neg (by have := HOP.out; omega), HOP.out])
            clear hb
            go_wp2
            go_ret
            exact hR.out
          · rw [hop] at s0
            have HOP : Hid (v.op = 10) := hop
            clear hop
            go_wp2_with fail
            refine Calls.mono (put_bd w3 P u1 u3 vs c base R _ 10 v.len ta 0 v.c HBS.out (by have := HBN.out.l; omega) (by have := HBN.out.c0; omega) (by have := HBN.out.c1; omega) (by have := HBN.out.n0; omega) (by have := HBN.out.n1; omega)) ?_
            rintro e w9 hb
            obtain ⟨r, rfl, hR⟩ := HFF.out hb (by unfold mvM; rw [if_neg HALL.out, if_neg (by have := HOP.out; omega), if_neg (by have := HOP.out; omega), if_neg (by have := HOP.out; omega), if_neg (by have := HOP.out; omega), if_neg (by have := HOP.out; omega), if_neg (by have := HOP.out; omega), if_neg (by have := HOP.out; omega), HOP.out])
            clear hb
            go_wp2
            go_ret
            exact hR.out
          · rw [hop] at s0
            have HOP : Hid (v.op = 11) := hop
            clear hop
            go_wp2_with fail
            refine Calls.mono (put_bd w3 P u1 u3 vs c base R _ 11 v.len ta 0 v.c HBS.out (by have := HBN.out.l; omega) (by have := HBN.out.c0; omega) (by have := HBN.out.c1; omega) (by have := HBN.out.n0; omega) (by have := HBN.out.n1; omega)) ?_
            rintro e w9 hb
            obtain ⟨r, rfl, hR⟩ := HFF.out hb (by unfold mvM; rw [if_neg HALL.out, if_neg (by have := HOP.out; omega), if_neg (by have := HOP.out; omega), if_neg (by have := HOP.out; omega), if_neg (by have := HOP.out; omega), if_neg (by have := HOP.out; omega), if_neg (by have := HOP.out; omega), if_neg (by have := HOP.out; omega), HOP.out])
            clear hb
            go_wp2
            go_ret
            exact hR.out
          · rw [hop] at s0
            have HOP : Hid (v.op = 12) := hop
            clear hop
            go_wp2_with fail
            refine Calls.mono (put_bd w3 P u1 u3 vs c base R _ 12 v.len ta 0 v.c HBS.out (by have := HBN.out.l; omega) (by have := HBN.out.c0; omega) (by have := HBN.out.c1; omega) (by have := HBN.out.n0; omega) (by have := HBN.out.n1; omega)) ?_
            rintro e w9 hb
            obtain ⟨r, rfl, hR⟩ := HFF.out hb (by unfold mvM; rw [if_neg HALL.out, if_neg (by have := HOP.out; omega), if_neg (by have := HOP.out; omega), if_neg (by have := HOP.out; omega), if_neg (by have := HOP.out; omega), if_neg (by have := HOP.out; omega), if_neg (by have := HOP.out; omega), if_neg (by have := HOP.out; omega), HOP.out])
            clear hb
            go_wp2
            go_ret
            exact hR.out
          · rw [hop] at s0
            have HOP : Hid (v.op = 13) := hop
            clear hop
            go_wp2_with fail
            refine Calls.mono (put_bd w3 P u1 u3 vs c base R _ 4 v.len ta i 0 HBS.out (by have := HBN.out.l; omega) (by have := HBN.out.c0; omega) (by have := HBN.out.c1; omega) (by have := HBN.out.n0; omega) (by have := HBN.out.n1; omega)) ?_
            rintro e w9 hb
            obtain ⟨r, rfl, hR⟩ := HFF.out hb (by unfold mvM; rw [if_neg HALL.out, if_neg (by have := HOP.out; omega), if_neg (by have := HOP.out; omega), if_neg (by have := HOP.out; omega), if_neg (by have := HOP.out; omega), if_neg (by have := HOP.out; omega), if_neg (by have := HOP.out; omega), if_pos HOP.out])
            clear hb
            go_wp2
            go_ret
            exact hR.out
end Go.Proofs.Ytcphabjekfihnaa
