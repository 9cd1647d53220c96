import Derived.Test.YtcphabjekfihnaaR12
import Derived.Test.YtcphabjekfihnaaR06
import Derived.Test.YtcphabjekfihnaaV07
namespace Go.Proofs.Ytcphabjekfihnaa
open Go.RowKit Flt
attribute [local go_sem] alloc_drewN setCell_drewN run_store_float

/-- The lists of a step's operands. -/
def opR (ss : List Ste) (rs : List (List Nat)) (n : Nat) (s : Ste) : List (List Nat) := (List.range 3).map fun q => if q < cnt s.op then readM ss rs n (fldS s q) (lenT s q) else []
theorem opR_at (ss : List Ste) (rs : List (List Nat)) (n : Nat) (s : Ste) {q : Nat} (hq : q < 3) : (opR ss rs n s).getD q [] = if q < cnt s.op then readM ss rs n (fldS s q) (lenT s q) else [] := by
  rcases (by omega : q = 0 ∨ q = 1 ∨ q = 2) with rfl | rfl | rfl <;> rfl
theorem doM_opR {xss : List (List Nat)} {ss : List Ste} {rs : List (List Nat)} {n : Nat} {s : Ste} (h0 : s.op ≠ 0) : doM xss ss rs n s = kern s.op s.len s.c s.k ((opR ss rs n s).getD 0 []) ((opR ss rs n s).getD 1 []) ((opR ss rs n s).getD 2 []) := by
  unfold doM
  rw [if_neg h0]
  rfl
theorem opR_lt {ss : List Ste} {rs : List (List Nat)} (h : Words rs) (n : Nat) (s : Ste) : ∀ x ∈ (opR ss rs n s).getD 0 [], x < 18446744073709551616 := by
  rw [opR_at _ _ _ _ (by omega)]
  exact ite_lt (readM_lt h _ _ _)
theorem res_lens {ins : List Int} {xss : List (List Nat)} {ss : List Ste} {pk : Int} (hi : inB ins xss = true) {k : Nat} (h : (List.range k).all (stepB ins ss pk) = true) : LenS ss (resTo xss ss k) k := by
  induction k with
  | zero => intro j hj; omega
  | succ k ih =>
    have hr : (List.range k).all (stepB ins ss pk) = true ∧ stepB ins ss pk k = true := by
      rw [List.range_succ, List.all_append, Bool.and_eq_true] at h
      exact ⟨h.1, by simpa using h.2⟩
    intro j hj
    by_cases e : j < k
    · rw [resTo_lt _ _ e]
      exact ih hr.1 j e
    · obtain rfl : j = k := by omega
      rw [resTo_at]
      have hs := hr.2
      unfold stepB at hs
      rw [Bool.and_eq_true] at hs
      exact doM_len hi hs.1
theorem step_numsS {ins : List Int} {ss : List Ste} {pk : Int} {k : Nat} (hp : pk ≤ 50000) (h : stepB ins ss pk k = true) : formB ins (ss.getD k Ste.zero) = true ∧ ∀ q, q < cnt (ss.getD k Ste.zero).op → ∃ o m : Nat, fldS (ss.getD k Ste.zero) q = o ∧ lenT (ss.getD k Ste.zero) q = m ∧ 1 ≤ m ∧ m ≤ 1000 ∧ o ≤ 60000 := by
  unfold stepB at h
  generalize ss.getD k Ste.zero = s at h ⊢
  simp only [Bool.and_eq_true] at h
  obtain ⟨h1, h2, h3⟩ := h
  refine ⟨h1, fun q hq => ?_⟩
  obtain ⟨p, e1, e2, e3⟩ := spansOf_at hq
  have hp2 := List.all_eq_true.1 h3 _ (List.mem_of_getElem? e1)
  unfold takeB at hp2
  rw [Bool.and_eq_true] at hp2
  have ho := hold_off hp2.1
  have hl := form_lenS h1 hq
  rw [e2, e3] at ho
  exact ⟨(fldS s q).toNat, (lenT s q).toNat, by omega, by omega, by omega, by omega, by omega⟩
/-- The boxes of l5run: the code's at A and the step's at B. -/
structure RB2 (w : World) (A B : Nat) (x0 x1 x2 x3 : Value) (s : Ste) : Prop where
  c : C0 w A x0 x1 x2 x3
  t : AtT w B 0 s
  lt : B < w.heap.size
theorem RB2.keep {w w' : World} {A B : Nat} {x0 x1 x2 x3 : Value} {s : Ste} (f : RB2 w A B x0 x1 x2 x3 s) (k : Kept 0 0 w w') : RB2 w' A B x0 x1 x2 x3 s :=
  ⟨f.c.keep k, f.t.keep f.lt k (.inr (.inr (Nat.le_refl _))), Nat.lt_of_lt_of_le f.lt k.size⟩

theorem form_inputS {ins : List Int} {s : Ste} (h : formB ins s = true) (h0 : s.op = 0) : ∃ j : Nat, s.a = j ∧ j < ins.length ∧ ins.getD j 0 = s.len := by
  unfold formB at h
  rw [if_pos h0] at h
  simp only [Bool.and_eq_true] at h
  have ha := of_decide_eq_true h.2.1
  refine ⟨s.a.toNat, by omega, by omega, beq_iff_eq.1 h.2.2⟩
theorem in_lenS {ins : List Int} {xss : List (List Nat)} (hi : inB ins xss = true) {j : Nat} (hj : j < ins.length) : ((xss.getD j []).length : Int) = ins.getD j 0 := by
  unfold inB at hi
  rw [Bool.and_eq_true] at hi
  exact beq_iff_eq.1 (List.all_eq_true.1 hi.2 j (List.mem_range.2 hj))
theorem C0.grown {W W' : World} {row : Option Nat} {p N : Nat} {b0 b1 b2 b3 : Value} (t : C0 W p b0 b1 b2 b3) (hg : W.grownBy W' row) (hr : ∀ i, row = some i → N ≤ i) (hp : p < N) : C0 W' p b0 b1 b2 b3 := by
  have e : ∀ o u, W.cell? ⟨p, o, none⟩ = some u → W'.cell? ⟨p, o, none⟩ = some u := fun o u hc => by
    rw [hg.cell_far ⟨p, o, none⟩ t.sz (fun c => by have := hr p c.symm; omega)]; exact hc
  exact ⟨Nat.lt_of_lt_of_le t.sz hg.size, e _ _ t.q0, e _ _ t.q1, e _ _ t.q2, e _ _ t.q3⟩
theorem RB2.grown {w w' : World} {row : Option Nat} {A B N : Nat} {x0 x1 x2 x3 : Value} {s : Ste} (f : RB2 w A B x0 x1 x2 x3 s) (hg : w.grownBy w' row) (hr : ∀ i, row = some i → N ≤ i) (hA : A < N) (hB : B < N) : RB2 w' A B x0 x1 x2 x3 s := by
  have e : ∀ o u, w.cell? ⟨B, o, none⟩ = some u → w'.cell? ⟨B, o, none⟩ = some u := fun o u hc => by
    rw [hg.cell_far ⟨B, o, none⟩ f.lt (fun c => by have := hr B c.symm; omega)]; exact hc
  exact ⟨f.c.grown hg hr hA, ⟨e _ _ f.t.c0, e _ _ f.t.c1, e _ _ f.t.c2, e _ _ f.t.c3, e _ _ f.t.c4, e _ _ f.t.c5, e _ _ f.t.c6, e _ _ f.t.c7⟩, Nat.lt_of_lt_of_le f.lt hg.size⟩

theorem AtP.grown {W W' : World} {row : Option Nat} {g o N : Nat} {v : Spn} (t : AtP W g o v) (hg : W.grownBy W' row) (hl : g < W.heap.size) (hr : ∀ i, row = some i → N ≤ i) (hp : g < N) : AtP W' g o v := by
  have e : ∀ o u, W.cell? ⟨g, o, none⟩ = some u → W'.cell? ⟨g, o, none⟩ = some u := fun o u hc => by
    rw [hg.cell_far ⟨g, o, none⟩ hl (fun c => by have := hr g c.symm; omega)]; exact hc
  exact ⟨e _ _ t.c0, e _ _ t.c1⟩
theorem out_numsS {ss : List Ste} {os : List Spn} {pk : Int} {j : Nat} (hp : pk ≤ 50000) (h : os.all (outB ss pk) = true) (hj : j < os.length) : ∃ o m : Nat, os.getD j Spn.zero = ⟨(o : Int), (m : Int)⟩ ∧ 1 ≤ m ∧ m ≤ 1000 ∧ o ≤ 60000 := by
  have e : os.getD j Spn.zero = os[j] := by rw [List.getD_eq_getElem?_getD, List.getElem?_eq_getElem hj]; rfl
  rw [e]
  have hp2 := List.all_eq_true.1 h _ (List.getElem_mem hj)
  generalize os[j] = p at hp2 ⊢
  unfold outB at hp2
  rw [Bool.and_eq_true] at hp2
  have h1 := of_decide_eq_true hp2.1
  have h2 := hold_off hp2.2
  obtain ⟨off, len⟩ := p
  simp only at h1 h2
  exact ⟨off.toNat, len.toNat, by congr 1 <;> omega, by omega, by omega, by omega⟩

set_option maxRecDepth 100000 in
set_option maxHeartbeats 8000000 in
theorem l5run (w : World) (a1 a2 a3 b : Option Addr) (n1 c1 n2 c2 n3 c3 m cb : Nat) (pk : Int) (ins : List Int) (ss : List Ste) (os : List Spn) (xss : List (List Nat)) (f : CS w a1 n1 a2 n2 a3 n3 ins ss os) (s : SS w b m xss) (hw : Words xss) (h : verM ins ss os pk = true) (h2 : inB ins xss = true) :
    Calls Try.prog 142 #[cagg a1 n1 c1 a2 n2 c2 a3 n3 c3 pk, .slice b m cb] w fun e w' => ∃ a cap zss, e = .returned (.slice a n3 cap) ∧ SS w' a n3 zss ∧ (∀ j, j < n3 → same (zss.getD j []) ((runM xss ss os).getD j [])) ∧ Kept 0 0 w w' := by
  obtain ⟨i0, hi, hz0, hz1, hz2⟩ := info_parts infoS
  have hv := h
  unfold verM at hv
  simp only [Bool.and_eq_true] at hv
  obtain ⟨⟨hv1, hst⟩, hou⟩ := hv
  unfold limC at hv1
  simp only [Bool.and_eq_true, decide_eq_true_eq] at hv1
  obtain ⟨⟨⟨⟨l1, l2⟩, l3⟩, _⟩, p0, p1⟩ := hv1
  have e1 := f.i.len
  have e2 := f.s.len
  have e3 := f.o.len
  rw [e1] at l1
  rw [e2] at l2 hst
  rw [e3] at l3
  have HST : Hid _ := hst
  have HOU : Hid _ := hou
  have HKS : Hid (∀ k, (ss.getD k Ste.zero).k < 18446744073709551616) := fun k => getKSte f.s.lt k
  have HR : Hid (∀ k, Words (resTo xss ss k)) := fun k => res_lt (ss := ss) hw (fun k => getKSte f.s.lt k) k
  have HIN : Hid _ := h2
  have HLI : Hid (∀ k, k ≤ n2 → Lie ss k) := fun k hk => lie_of p1 (show (List.range k).all (stepB ins ss pk) = true from List.all_eq_true.2 fun j hj => List.all_eq_true.1 hst j (List.mem_range.2 (by have := List.mem_range.1 hj; omega)))
  have HLE : Hid (∀ k, k ≤ n2 → LenS ss (resTo xss ss k) k) := fun k hk => res_lens h2 (show (List.range k).all (stepB ins ss pk) = true from List.all_eq_true.2 fun j hj => List.all_eq_true.1 hst j (List.mem_range.2 (by have := List.mem_range.1 hj; omega)))
  have HM : Hid (m = n1) := by
    have := h2
    unfold inB at this
    simp only [Bool.and_eq_true, decide_eq_true_eq, e1, s.len] at this
    exact this.1
  have hK := kept_alloc 0 0 w (cbox a1 n1 c1 a2 n2 c2 a3 n3 c3 pk)
  have HB : Hid _ := c0_start w (.slice a1 n1 c1) (.slice a2 n2 c2) (.slice a3 n3 c3) (.int .i64 pk)
  have HF : Hid _ := f.keep hK
  have HS : Hid _ := s.keep hK
  have HK : Hid _ := hK
  clear hK h f s hw hst hou
  go_enter Try.func142, Try.ntmps142
  go_wp2_with fail
  have HZ1 : Hid (w.heap.size < (w.alloc (cbox a1 n1 c1 a2 n2 c2 a3 n3 c3 pk)).heap.size) := HB.out.sz
  generalize w.alloc (cbox a1 n1 c1 a2 n2 c2 a3 n3 c3 pk) = w1 at HB HF HS HK HZ1 ⊢
  go_loopw [5, 6] (fun u i W => ∃ k : Nat, k ≤ n2 ∧ i = .int .i64 k ∧ Hid (AR W w1.heap.size u k (resTo xss ss k)) ∧ Hid (Kept 0 0 w1 W)) (fun _ i _ => n2 - (intOf i).toNat)
  case atStart => exact ⟨0, Nat.zero_le _, rfl, AR.nil _ _ _, Kept.refl _ _ _⟩
  case round =>
    obtain ⟨k, hk, rfl, hP, hK⟩ := hrel
    obtain ⟨_, q0, q1, q2, q3⟩ := C0.keep HB.out hK.out
    by_cases hlt : k < n2
    · have hF := CS.keep HF.out hK.out
      rcases hF.s.at_ with z0 | ⟨ga, oa, ea, z1, z2, z3, z4⟩
      · omega
      have hat := z4 k hlt
      have hstk : stepB ins ss pk k = true := List.all_eq_true.1 HST.out k (List.mem_range.2 hlt)
      have hform : formB ins (ss.getD k Ste.zero) = true := (step_numsS p1 hstk).1
      have HNUM : Hid _ := (step_numsS p1 hstk).2
      have kb := kept_alloc 0 0 wr (ss.getD k Ste.zero).box
      have HKB : Hid _ := kb
      have HVK : Hid _ := HKS.out k
      obtain ⟨us, hown, hus⟩ := hP.out
      have HRB : Hid (∀ i, u5.ownBlock = some i → i < wr.heap.size) := fun i hi => (own_blk hown hi).2
      have HOWN : Hid _ := own_keep hown kb
      have HUS : Hid _ := hus
      have HPL : Hid (RL wr u5 k (resTo xss ss k)) := AR.rl hP.out
      clear hown hus
      by_cases hop : (ss.getD k Ste.zero).op = 0
      · have HV9 : Hid (resTo xss ss (k + 1) = resTo xss ss k ++ [xss.getD (ss.getD k Ste.zero).a.toNat []]) := by
          show _ = _
          rw [resTo]
          unfold doM
          rw [if_pos hop]
        obtain ⟨x, hx, hxn, hxl⟩ := form_inputS hform hop
        have hin2 := in_lenS HIN.out hxn
        have hfl := form_len hform
        rw [hxl] at hin2
        rw [hx, Int.toNat_natCast] at HV9
        have hxm : x < m := by have := HM.out; omega
        clear z1 z2 z3 z4 hF kb hstk HNUM hxn hxl
        generalize ss.getD k Ste.zero = s at hat HKB HOWN HV9 hop hfl hin2 hx HVK
        obtain ⟨op, len, nn, dst, aa, bb9, cc9, kk9⟩ := s
        simp only at hop hfl hin2 hx HVK
        subst hop
        subst hx
        rcases (SS.keep HS.out (Kept.trans hK.out HKB.out)).at_ with z0 | ⟨gb, ob, eb, y1, y2⟩
        · omega
        obtain ⟨b1, cc1, g1, g2, g3⟩ := y2 x hxm
        rcases g3.at_ with z0 | ⟨gc, oc, ec, x1, x2, x3, x4⟩
        · omega
        have HC : Hid _ := l1copy _ gc oc (xss.getD x []).length cc1 (xss.getD x []) (by omega) (by omega) rfl g3.lt x4
        subst ea eb ec
        clear y1 y2 g2 g3 x1 x2 x3 x4
        generalize xss.getD x [] = ys at g1 HC HV9 hin2
        obtain ⟨ny, hny⟩ : ∃ ny, ny = ys.length := ⟨_, rfl⟩
        rw [← hny] at g1 HC hin2
        have HNY : Hid (ny = ys.length ∧ 1 ≤ ny ∧ ny ≤ 1000) := ⟨hny, by omega, by omega⟩
        clear hin2 hny hfl
        obtain ⟨d0, d1, d2, d3, d4, d5, d6, d7⟩ := hat
        simp only at d0 d1 d2 d3 d4 d5 d6 d7
        obtain ⟨t0, t1, t2, t3, t4, t5, t6, t7⟩ := ste_box wr (Ste.mk 0 len nn dst (x : Int) bb9 cc9 kk9)
        simp only [Nat.zero_add] at t0 t1 t2 t3 t4 t5 t6 t7
        have i3 : (0 : Int) ≤ (x : Int) := by omega
        have i4 : (x : Int) < (m : Int) := by omega
        go_wp2_with fail
        refine Calls.mono HC.out ?_
        rintro e w5 ⟨G, cap, rfl, h7, f7, b7, k7⟩
        have hown := own_keep HOWN.out k7
        have hz5 : w1.heap.size ≤ w5.heap.size := (Kept.trans hK.out (Kept.trans HKB.out k7)).size
        clear HC g1 d0 d1 d2 d3 d4 d5 d6 d7 t0 t1 t2 t3 t4 t5 t6 t7 q0 q1 q2 q3
        go_wp2_with (first | (at_builtin; refine wpList_append_lies _ rfl _ _ 58 rfl w1.heap.size 38 i0 (.slice none 0 0) 1 24 Try.underlying58 hi hz0 hz1 hz2 rfl (by decide) _ _ us rfl (hown.alloc _) ⟨w5.heap.size, 0, none⟩ 1 1 [.slice (some ⟨G, 0, none⟩) ny cap] rfl rfl ?c1 ?c2 (by decide) ?c3 ?c4 ?c5 _ rfl ?_))
        case c1 => exact cell_one_new _ _ _
        case c2 => intro u hu; simp at hu; subst hu; rfl
        case c3 => unfold maxLen; omega
        case c4 => omega
        case c5 => simp; omega
        intro g9 cap9 w9 hown9 hg9 hat9 _
        have R1 : Hid (AR w9 w1.heap.size (.slice (some ⟨g9, 0, none⟩) (k + 1) cap9) (k + 1) (resTo xss ss (k + 1))) :=
          AR.step (W := w5) (Vs := resTo xss ss k) hown (us_keep HUS.out (Kept.trans HKB.out k7)) (x := ys) ⟨_, _, _, ys, rfl, h7, f7.fs, rfl⟩ (fun _ p hp c => by
            cases hp
            have := (own_blk HOWN.out (k := G) c).2
            omega) hown9 hg9 (by rcases hat9 with h | h; exact .inl h; exact .inr (by rw [h]; simp)) (fun j hj => resTo_lt _ _ hj) (by rw [HV9.out]; exact getD_last (resTo_len _ _ _))
        have R2 : Hid _ := grown_kept (base := w1.heap.size) hg9 (fun i hi => (own_blk hown hi).1) ((Kept.trans hK.out (Kept.trans HKB.out k7)).trans (kept_alloc 0 0 w5 _)) (Nat.le_refl _)
        clear hown9 hg9 hat9 hown k7 f7 HUS HOWN HKB hP hK
        go_wp2
        go_roundw
        case rel => exact ⟨k + 1, by omega, by go_num, R1, R2⟩
        case measure => simp [intOf]; omega
      · have HV9 : Hid (resTo xss ss (k + 1) = resTo xss ss k ++ [kern (ss.getD k Ste.zero).op (ss.getD k Ste.zero).len (ss.getD k Ste.zero).c (ss.getD k Ste.zero).k ((opR ss (resTo xss ss k) k (ss.getD k Ste.zero)).getD 0 []) ((opR ss (resTo xss ss k) k (ss.getD k Ste.zero)).getD 1 []) ((opR ss (resTo xss ss k) k (ss.getD k Ste.zero)).getD 2 [])]) := by
          show _ = _
          rw [resTo, doM_opR hop]
        have hopr := form_op hform
        have HOL : Hid _ := opR_lt (ss := ss) (HR.out k) k (ss.getD k Ste.zero)
        have HOP : Hid (∀ q, q < 3 → (opR ss (resTo xss ss k) k (ss.getD k Ste.zero)).getD q [] = if q < cnt (ss.getD k Ste.zero).op then readM ss (resTo xss ss k) k (fldS (ss.getD k Ste.zero) q) (lenT (ss.getD k Ste.zero) q) else []) := fun q hq => opR_at ss (resTo xss ss k) k (ss.getD k Ste.zero) hq
        clear z1 z2 z3 z4 kb hstk hform
        generalize ss.getD k Ste.zero = s at hat HKB HOWN HV9 hop hopr HNUM HVK HOL HOP
        generalize hOR : opR ss (resTo xss ss k) k s = oR at HV9 HOL HOP
        clear hOR
        subst ea
        obtain ⟨w2, hw2⟩ : ∃ w2, w2 = wr := ⟨_, rfl⟩
        subst hw2
        have HB2 : Hid (RB2 (w2.alloc s.box) w.heap.size w2.heap.size (.slice a1 n1 c1) (.slice (some ⟨ga, oa, none⟩) n2 c2) (.slice a3 n3 c3) (.int .i64 pk) s) := ⟨(C0.keep HB.out hK.out).keep HKB.out, ste_box w2 s, by simp⟩
        obtain ⟨d0, d1, d2, d3, d4, d5, d6, d7⟩ := hat
        obtain ⟨⟨_, t0, t1, t2, t3⟩, ⟨s0, s1, s2, s3, s4, s5, s6, s7⟩, _⟩ := HB2.out
        simp only [Nat.zero_add] at s1 s2 s3 s4 s5 s6 s7
        have tz : (s.op == 0) = false := beq_eq_false_iff_ne.2 hop
        clear hop
        go_wp2_with fail
        clear d0 d1 d2 d3 d4 d5 d6 d7 q0 q1 q2 q3 t0 t1 t2 t3 s0 s1 s2 s3 s4 s5 s6 s7 tz
        have HALL : Hid _ := (⟨us, HOWN.out, us_keep HUS.out HKB.out⟩ : AR _ w1.heap.size _ k (resTo xss ss k))
        have HK3 : Hid _ := Kept.trans hK.out HKB.out
        have HT3 : Hid _ := (hF.keep HKB.out).s
        have HPL3 : Hid (RL (w2.alloc s.box) u5 k (resTo xss ss k)) := RL.keep HPL.out HKB.out
        have HVZ : Hid (w2.heap.size < (w2.alloc s.box).heap.size) := by show _ < _; simp
        clear HKB HOWN HUS hK hF HPL
        generalize w2.alloc s.box = w3 at HB2 HALL HK3 HT3 HPL3 HVZ ⊢
        go_loopw [8, 9] (fun a i W => ∃ q : Nat, q ≤ 3 ∧ i = .int .i64 q ∧ Hid (AR W w3.heap.size a q oR) ∧ Hid (Kept 0 0 w3 W)) (fun _ i _ => 3 - (intOf i).toNat)
        case atStart => exact ⟨0, Nat.zero_le _, rfl, AR.nil _ _ _, Kept.refl _ _ _⟩
        case round =>
          obtain ⟨q, hq, rfl, hA, hKW⟩ := hrel
          have HBW : Hid _ := HB2.out.keep hKW.out
          obtain ⟨⟨_, t0, t1, t2, t3⟩, ⟨s0, s1, s2, s3, s4, s5, s6, s7⟩, _⟩ := HBW.out
          simp only [Nat.zero_add] at s1 s2 s3 s4 s5 s6 s7
          have HO : Hid _ := l1operands_r s.op wr hopr.1 hopr.2
          rw [ops13 hopr.1 hopr.2] at HO
          have hc3 := cnt_le s.op
          by_cases hlt3 : q < 3
          · obtain ⟨vs3, hown3, hvs3⟩ := hA.out
            by_cases hqc : q < cnt s.op
            · obtain ⟨o, mm, ho, hmm, hm1, hm2, ho2⟩ := HNUM.out q hqc
              have tq : (q : Int) < (cnt s.op : Int) := by omega
              have HFd : Hid (∀ w, Calls Try.prog 130 #[s.agg, .int .i64 (q : Int)] w fun e w' => e = .returned (.int .i64 (o : Int)) ∧ Kept 0 0 w w') := fun w => by
                have := l5field w s q hlt3
                rw [ho] at this
                exact this
              have HLn : Hid (∀ w, Calls Try.prog 131 #[s.agg, .int .i64 (q : Int)] w fun e w' => e = .returned (.int .i64 (mm : Int)) ∧ Kept 0 0 w w') := fun w => by
                have := l5olen w s q hlt3
                rw [hmm] at this
                exact this
              have HRD : Hid (∀ w', Kept 0 0 wr w' → Calls Try.prog 174 #[cagg a1 n1 c1 (some ⟨ga, oa, none⟩) n2 c2 a3 n3 c3 pk, u5, .int .i64 (k : Int), .int .i64 (o : Int), .int .i64 (mm : Int)] w' fun e w'' => ∃ u, e = .returned u ∧ Cn w'' w'.heap.size u (readM ss (resTo xss ss k) k (o : Int) (mm : Int)) ∧ Kept 0 0 w' w'') := fun w' kq =>
                (l5read w' _ _ a1 (some ⟨ga, oa, none⟩) a3 n1 c1 n2 c2 n3 c3 pk ss (resTo xss ss k) u5 (HT3.out.keep (Kept.trans hKW.out kq) (.inr (.inr (Nat.le_refl _)))) k (RL.keep HPL3.out (Kept.trans hKW.out kq)) hk (by omega) (HLI.out k hk) (HLE.out k hk) o mm hm1 hm2 ho2).mono fun e w'' hh => hh.cn
              have HE : Hid (oR.getD q [] = readM ss (resTo xss ss k) k (o : Int) (mm : Int)) := by
                show _ = _
                rw [HOP.out q hlt3, if_pos hqc, ho, hmm]
              have hz5 : w3.heap.size ≤ wr.heap.size := hKW.out.size
              clear ho hmm
              go_wp2_with (first | (go_at_call 79; refine Calls.mono HO.out ?_; rintro e w4 ⟨rfl, rfl⟩) | fail)
              go_region_held3 (fun w' => w'.cell? ⟨w.heap.size, 0, none⟩ = some (.slice a1 n1 c1) ∧ w'.cell? ⟨w.heap.size, 1, none⟩ = some (.slice (some ⟨ga, oa, none⟩) n2 c2) ∧ w'.cell? ⟨w.heap.size, 2, none⟩ = some (.slice a3 n3 c3) ∧ w'.cell? ⟨w.heap.size, 3, none⟩ = some (.int .i64 pk) ∧ w'.cell? ⟨w2.heap.size, 0, none⟩ = some (.int .i64 s.op) ∧ w'.cell? ⟨w2.heap.size, 1, none⟩ = some (.int .i64 s.len) ∧ w'.cell? ⟨w2.heap.size, 2, none⟩ = some (.int .i64 s.n) ∧ w'.cell? ⟨w2.heap.size, 3, none⟩ = some (.int .i64 s.dst) ∧ w'.cell? ⟨w2.heap.size, 4, none⟩ = some (.int .i64 s.a) ∧ w'.cell? ⟨w2.heap.size, 5, none⟩ = some (.int .i64 s.b) ∧ w'.cell? ⟨w2.heap.size, 6, none⟩ = some (.int .i64 s.c) ∧ w'.cell? ⟨w2.heap.size, 7, none⟩ = some (.float .f64 s.k)) (go_keep)
                (first
                  | (refine step_append_lies _ rfl (.tmp 46) (.tmp 57) 58 rfl w3.heap.size 38 i0 (.slice none 0 0) 1 24 Try.underlying58 hi hz0 hz1 hz2 rfl (by decide) _ _ vs3 (by simp [Act.eval]) ((own_keep hown3 kk6).alloc _) ⟨w6.heap.size, 0, none⟩ 1 1 [.slice b6 m6 c6] (by simp [Act.eval]) rfl (cell_one_new _ _ _) (by intro u hu; simp at hu; subst hu; rfl) (by decide) (by unfold maxLen; omega) (by omega) (by have := kk6.size; simp; omega) _ rfl ?_; intro g9 cap9 w9 hown9 hg9 hat9 _; have hB9 := (RB2.keep HBW.out (kk6.trans (kept_alloc 0 0 w6 (.cells #[.slice b6 m6 c6] 38)))).grown hg9 (fun i hi => (own_blk hown3 hi).1) (by have := HZ1.out; have := HK3.out.size; omega) HVZ.out; obtain ⟨⟨_, na0, na1, na2, na3⟩, ⟨nb0, nb1, nb2, nb3, nb4, nb5, nb6, nb7⟩, _⟩ := hB9; simp only [Nat.zero_add] at nb1 nb2 nb3 nb4 nb5 nb6 nb7)
                  | (go_at_call 174; refine Calls.mono (HRD.out _ kk5) ?_; rintro e w6 ⟨u6, rfl, ⟨b6, m6, c6, zs6, rfl, y1, y2, y3⟩, k6⟩; have kk6 := Kept.trans kk5 k6; have hB6 := RB2.keep HBW.out kk6; obtain ⟨⟨_, ma0, ma1, ma2, ma3⟩, ⟨mb0, mb1, mb2, mb3, mb4, mb5, mb6, mb7⟩, _⟩ := hB6; simp only [Nat.zero_add] at mb1 mb2 mb3 mb4 mb5 mb6 mb7)
                  | (go_at_call 131; refine Calls.mono (HLn.out _) ?_; rintro e w5 ⟨rfl, k5⟩; have kk5 := Kept.trans kk4 k5; have hB5 := RB2.keep HBW.out kk5; obtain ⟨⟨_, la0, la1, la2, la3⟩, ⟨lb0, lb1, lb2, lb3, lb4, lb5, lb6, lb7⟩, _⟩ := hB5; simp only [Nat.zero_add] at lb1 lb2 lb3 lb4 lb5 lb6 lb7)
                  | (go_at_call 130; refine Calls.mono (HFd.out _) ?_; rintro e w4 ⟨rfl, k4⟩; have kk4 := Kept.trans (kept_drewN 0 0 wr 1) k4; have hB4 := RB2.keep HBW.out kk4; obtain ⟨⟨_, ja0, ja1, ja2, ja3⟩, ⟨jb0, jb1, jb2, jb3, jb4, jb5, jb6, jb7⟩, _⟩ := hB4; simp only [Nat.zero_add] at jb1 jb2 jb3 jb4 jb5 jb6 jb7))
              all_goals
                have R1 : Hid (AR w9 w3.heap.size (.slice (some ⟨g9, 0, none⟩) (q + 1) cap9) (q + 1) oR) :=
                  AR.step (W := w6) (Vs := oR) (own_keep hown3 kk6) (us_keep hvs3 kk6) (x := readM ss (resTo xss ss k) k (o : Int) (mm : Int)) (Cn.cl ⟨_, _, _, zs6, rfl, y1, y2, y3⟩) (fun h0 p hp c => by
                    have h1 := (own_blk hown3 c).2
                    have h2 := Cn.ge (W := w6) (lo := w5.heap.size) ⟨_, _, _, zs6, rfl, y1, y2, y3⟩ h0 p hp
                    have h3 := kk5.size
                    omega) hown9 hg9 (by rcases hat9 with h | h; exact .inl h; exact .inr h) (fun _ _ => rfl) HE.out
                have R2 : Hid _ := grown_kept (base := w3.heap.size) hg9 (fun i hi => (own_blk hown3 hi).1) ((Kept.trans hKW.out kk6).trans (kept_alloc 0 0 w6 _)) (Nat.le_refl _)
                clear hown9 hg9 hat9
                go_wp2
                go_roundw
                case rel => exact ⟨q + 1, by omega, by go_num, R1, R2⟩
                case measure => simp [intOf]; omega
            · have tq : ¬ ((q : Int) < (cnt s.op : Int)) := by omega
              have HE : Hid (oR.getD q [] = []) := by
                show _ = _
                rw [HOP.out q hlt3, if_neg hqc]
              have hz5 : w3.heap.size ≤ wr.heap.size := hKW.out.size
              go_wp2_with (first | (go_at_call 79; refine Calls.mono HO.out ?_; rintro e w4 ⟨rfl, rfl⟩) | (at_builtin; refine wpList_append_lies _ rfl _ _ 58 rfl w3.heap.size 38 i0 (.slice none 0 0) 1 24 Try.underlying58 hi hz0 hz1 hz2 rfl (by decide) _ _ vs3 rfl (hown3.alloc _) ⟨wr.heap.size, 0, none⟩ 1 1 [.slice none 0 0] rfl rfl ?c1 ?c2 (by decide) ?c3 ?c4 ?c5 _ rfl ?_))
              case c1 => exact cell_one_new _ _ _
              case c2 => intro u hu; simp at hu; subst hu; rfl
              case c3 => unfold maxLen; omega
              case c4 => omega
              case c5 => simp; omega
              intro g9 cap9 w9 hown9 hg9 hat9 _
              have R1 : Hid (AR w9 w3.heap.size (.slice (some ⟨g9, 0, none⟩) (q + 1) cap9) (q + 1) oR) :=
                AR.step (W := wr) (Vs := oR) hown3 hvs3 (x := []) (Cl.nil _) (fun hn => absurd hn (Nat.lt_irrefl _)) hown9 hg9 (by rcases hat9 with h | h; exact .inl h; exact .inr (by rw [h]; simp)) (fun j hj => rfl) HE.out
              have R2 : Hid _ := grown_kept (base := w3.heap.size) hg9 (fun i hi => (own_blk hown3 hi).1) (Kept.trans hKW.out (kept_alloc 0 0 wr _)) (Nat.le_refl _)
              clear hown9 hg9 hat9 hvs3 hown3 hA hKW s0 s1 s2 s3 s4 s5 s6 s7 t0 t1 t2 t3 HO
              go_wp2
              go_roundw
              case rel => exact ⟨q + 1, by omega, by go_num, R1, R2⟩
              case measure => simp [intOf]; omega
          · obtain rfl : q = 3 := by omega
            obtain ⟨gB, capB, eB, bB, ltB, cB⟩ := AR.cell hA.out (by omega)
            obtain ⟨x0, y0, p0, g0, f0, _⟩ := cB 0 (by omega)
            obtain ⟨x1, y1, p1, g1, f1, _⟩ := cB 1 (by omega)
            obtain ⟨x2, y2, p2, g2, f2, _⟩ := cB 2 (by omega)
            have ka := kept_alloc 0 0 wr (vbox s.op s.len 0 0 s.c s.k)
            have HE : Hid (∀ w', Kept 0 0 wr w' → Calls Try.prog 28 #[vagg s.op s.len 0 0 s.c s.k, .slice x0 y0 p0, .slice x1 y1 p1, .slice x2 y2 p2] w' fun e w'' => ∃ u, e = .returned u ∧ Cn w'' w'.heap.size u (kern s.op s.len s.c s.k (oR.getD 0 []) (oR.getD 1 []) (oR.getD 2 [])) ∧ Kept 0 0 w' w'') := fun w' kq => specKernelC w' ⟨s.op, s.len, 0, 0, s.c, s.k⟩ HVK.out _ _ _ _ _ _ (f0.keep kq) (f1.keep kq) (f2.keep kq) HOL.out
            obtain ⟨us4, hownA, husA⟩ := AR.keep HALL.out hKW.out
            have HUSA : Hid _ := husA
            have HKX : Hid _ := Kept.trans HK3.out hKW.out
            have hzw : w1.heap.size ≤ wr.heap.size := HKX.out.size
            have HRU : Hid (∀ i, u5.ownBlock = some i → i < w2.heap.size) := HRB.out
            subst eB
            have HNC : Hid (NC (wr.alloc (vbox s.op s.len 0 0 s.c s.k)) wr.heap.size gB ⟨s.op, s.len, 0, 0, s.c, s.k⟩ (.slice x0 y0 p0) (.slice x1 y1 p1) (.slice x2 y2 p2)) := by
              obtain ⟨v0, v1, v2, v3, v4, v5⟩ := vbox_at wr ⟨s.op, s.len, 0, 0, s.c, s.k⟩
              exact ⟨v0, v1, v2, v3, v4, v5, kcell ka ltB g0, kcell ka ltB g1, kcell ka ltB g2⟩
            have HGB : Hid (w3.heap.size ≤ gB ∧ gB < wr.heap.size ∧ w2.heap.size < w3.heap.size) := ⟨bB, ltB, HVZ.out⟩
            have HAL : Hid (wr.heap.size < (wr.alloc (vbox s.op s.len 0 0 s.c s.k)).heap.size) := by show _ < _; simp
            have HKA : Hid _ := ka
            clear cB bB f0 f1 f2 husA hA HO HALL ka
            have hnc := HNC.out
            obtain ⟨h0a, h1a, h2a, h3a, h4a, h5a, h6a, h7a, h8a⟩ := hnc
            simp only [Nat.zero_add] at h1a h2a h3a h4a h5a
            go_wp2_with fail
            clear s0 s1 s2 s3 s4 s5 s6 s7 t0 t1 t2 t3 g0 g1 g2
            generalize wr.alloc (vbox s.op s.len 0 0 s.c s.k) = w4 at HNC HAL HKA h0a h1a h2a h3a h4a h5a h6a h7a h8a ⊢
            go_region_held3 (fun w' => w'.cell? ⟨wr.heap.size, 0, none⟩ = some (.int .i64 s.op) ∧ w'.cell? ⟨wr.heap.size, 1, none⟩ = some (.int .i64 s.len) ∧ w'.cell? ⟨wr.heap.size, 2, none⟩ = some (.int .i64 0) ∧ w'.cell? ⟨wr.heap.size, 3, none⟩ = some (.int .i64 0) ∧ w'.cell? ⟨wr.heap.size, 4, none⟩ = some (.int .i64 s.c) ∧ w'.cell? ⟨wr.heap.size, 5, none⟩ = some (.float .f64 s.k) ∧ w'.cell? ⟨gB, 0, none⟩ = some (.slice x0 y0 p0) ∧ w'.cell? ⟨gB, 1, none⟩ = some (.slice x1 y1 p1) ∧ w'.cell? ⟨gB, 2, none⟩ = some (.slice x2 y2 p2)) (go_keep)
              (first
                | (go_at_call 28; refine Calls.mono (HE.out _ (Kept.trans HKA.out (kept_drewN 0 0 w4 1))) ?_; rintro e w5 ⟨u, rfl, ⟨b5, m5, c5, zs5, rfl, i1, i2, i3⟩, k5⟩; have hn5 := NC.keep HNC.out (Kept.trans (kept_drewN 0 0 w4 1) k5) HAL.out (by have := HGB.out; have := HAL.out; omega); obtain ⟨j0, j1, j2, j3, j4, j5, j6, j7, j8⟩ := hn5; simp only [Nat.zero_add] at j1 j2 j3 j4 j5)
                | (refine step_append_lies _ rfl (.tmp 71) (.tmp 83) 58 rfl w1.heap.size 38 i0 (.slice none 0 0) 1 24 Try.underlying58 hi hz0 hz1 hz2 rfl (by decide) _ _ us4 (by simp [Act.eval]) ((own_keep hownA (Kept.trans HKA.out (Kept.trans (kept_drewN 0 0 w4 1) k5))).alloc _) ⟨w5.heap.size, 0, none⟩ 1 1 [.slice b5 m5 c5] (by simp [Act.eval]) rfl (cell_one_new _ _ _) (by intro u hu; simp at hu; subst hu; rfl) (by decide) (by unfold maxLen; omega) (by omega) (by have := k5.size; have := HKA.out.size; simp at *; omega) _ rfl ?_; intro g9 cap9 w9 hown9 hg9 hat9 _; have hn9 := NC.far (NC.keep HNC.out ((Kept.trans (kept_drewN 0 0 w4 1) k5).trans (kept_alloc 0 0 w5 (.cells #[.slice b5 m5 c5] 38))) HAL.out (by have := HGB.out; have := HAL.out; omega)) hg9 HRU.out (by have := HGB.out; omega) (by have := HGB.out; omega) (by have := k5.size; have := HAL.out; simp at *; omega) (by have := k5.size; have := HGB.out; have := HAL.out; simp at *; omega); obtain ⟨l0, l1, l2, l3, l4, l5, l6, l7, l8⟩ := hn9; simp only [Nat.zero_add] at l1 l2 l3 l4 l5))
            all_goals
              have hk5 : Kept 0 0 wr w5 := Kept.trans HKA.out (Kept.trans (kept_drewN 0 0 w4 1) k5)
              have R1 : Hid (AR w9 w1.heap.size (.slice (some ⟨g9, 0, none⟩) (k + 1) cap9) (k + 1) (resTo xss ss (k + 1))) :=
                AR.step (W := w5) (Vs := resTo xss ss k) (own_keep hownA hk5) (us_keep HUSA.out hk5) (x := kern s.op s.len s.c s.k (oR.getD 0 []) (oR.getD 1 []) (oR.getD 2 [])) (Cn.cl ⟨_, _, _, zs5, rfl, i1, i2, i3⟩) (fun h0 p hp c => by
                  have h1 := (own_blk hownA c).2
                  have h2 := Cn.ge (W := w5) (lo := (w4.drewN 1).heap.size) ⟨_, _, _, zs5, rfl, i1, i2, i3⟩ h0 p hp
                  have h3 : (w4.drewN 1).heap.size = w4.heap.size := rfl
                  have h4 := HKA.out.size
                  omega) hown9 hg9 (by rcases hat9 with h | h; exact .inl h; exact .inr h) (fun j hj => resTo_lt _ _ hj) (by rw [HV9.out]; exact getD_last (resTo_len _ _ _))
              have R2 : Hid _ := grown_kept (base := w1.heap.size) hg9 (fun i hi => (own_blk hownA hi).1) ((Kept.trans HKX.out hk5).trans (kept_alloc 0 0 w5 _)) (Nat.le_refl _)
              clear hown9 hg9 hat9
              go_wp2
              go_roundw
              case rel => exact ⟨k + 1, by omega, by go_num, R1, R2⟩
              case measure => simp [intOf]; omega
    · obtain rfl : k = n2 := by omega
      obtain ⟨w5, hw5⟩ : ∃ w5, w5 = wr := ⟨_, rfl⟩
      subst hw5
      have HPR : Hid (RL w5 u5 k (resTo xss ss k)) := AR.rl hP.out
      have HK5 : Hid _ := hK.out
      have HF5 : Hid _ := CS.keep HF.out hK.out
      have HB5 : Hid _ := C0.keep HB.out hK.out
      have HZ5 : Hid (w.heap.size < w5.heap.size) := Nat.lt_of_lt_of_le HZ1.out hK.out.size
      clear hP hK
      go_wp2_with fail
      clear q0 q1 q2 q3
      go_loopw [11, 12] (fun u i W => ∃ j : Nat, j ≤ n3 ∧ i = .int .i64 j ∧ Hid (AR W w5.heap.size u j (runM xss ss os)) ∧ Hid (Kept 0 0 w5 W)) (fun _ i _ => n3 - (intOf i).toNat)
      case atStart => exact ⟨0, Nat.zero_le _, rfl, AR.nil _ _ _, Kept.refl _ _ _⟩
      case round =>
        obtain ⟨j, hj, rfl, hP, hK⟩ := hrel
        have HBW : Hid _ := C0.keep HB5.out hK.out
        obtain ⟨_, q0, q1, q2, q3⟩ := HBW.out
        by_cases hlt2 : j < n3
        · rcases (CS.keep HF5.out hK.out).o.at_ with z0 | ⟨ga, oa, ea, z1, z2, z3, z4⟩
          · omega
          have hat := z4 j hlt2
          obtain ⟨o, mm, ho, hm1, hm2, ho2⟩ := out_numsS p1 HOU.out (by rw [e3]; exact hlt2)
          have HE : Hid ((runM xss ss os).getD j [] = readM ss (resTo xss ss k) k (o : Int) (mm : Int)) := by
            show _ = _
            have e : os.getD j Spn.zero = os[j]'(by omega) := by rw [List.getD_eq_getElem?_getD, List.getElem?_eq_getElem (by omega)]; rfl
            unfold runM
            rw [List.getD_eq_getElem?_getD, List.getElem?_map, List.getElem?_eq_getElem (by omega)]
            simp only [Option.map_some, Option.getD_some]
            rw [← e, ho, e2]
          rw [ho] at hat
          have HRD : Hid (∀ w', Kept 0 0 wr w' → Calls Try.prog 174 #[cagg a1 n1 c1 a2 k c2 a3 n3 c3 pk, u5, .int .i64 (k : Int), .int .i64 (o : Int), .int .i64 (mm : Int)] w' fun e w'' => ∃ u, e = .returned u ∧ Cn w'' w'.heap.size u (readM ss (resTo xss ss k) k (o : Int) (mm : Int)) ∧ Kept 0 0 w' w'') := fun w' kq =>
            (l5read w' _ _ a1 a2 a3 n1 c1 k c2 n3 c3 pk ss (resTo xss ss k) u5 (HF5.out.s.keep (Kept.trans hK.out kq) (.inr (.inr (Nat.le_refl _)))) k (RL.keep HPR.out (Kept.trans hK.out kq)) (Nat.le_refl _) (by omega) (HLI.out k (Nat.le_refl _)) (HLE.out k (Nat.le_refl _)) o mm hm1 hm2 ho2).mono fun e w'' hh => hh.cn
          obtain ⟨us, hown, hus⟩ := hP.out
          have HUS : Hid _ := hus
          have HAT : Hid _ := hat
          have HZ3 : Hid (ga < wr.heap.size ∧ w.heap.size < w5.heap.size ∧ w5.heap.size ≤ wr.heap.size) := ⟨z3, HZ5.out, hK.out.size⟩
          have HGA : Hid (ga < w5.heap.size) := by
            rcases HF5.out.o.at_ with z0 | ⟨ga', oa', ea', _, _, z3', _⟩
            · omega
            · rw [ea'] at ea; cases ea; exact z3'
          subst ea
          obtain ⟨d0, d1⟩ := hat
          have i1 : (0 : Int) ≤ (j : Int) := by omega
          have i2 : (j : Int) < (n3 : Int) := by omega
          have hz5 : w5.heap.size ≤ wr.heap.size := hK.out.size
          clear z1 z2 z3 z4 ho hus
          go_wp2_with fail
          go_region_held3 (fun w' => w'.cell? ⟨w.heap.size, 0, none⟩ = some (.slice a1 n1 c1) ∧ w'.cell? ⟨w.heap.size, 1, none⟩ = some (.slice a2 k c2) ∧ w'.cell? ⟨w.heap.size, 2, none⟩ = some (.slice (some ⟨ga, oa, none⟩) n3 c3) ∧ w'.cell? ⟨w.heap.size, 3, none⟩ = some (.int .i64 pk) ∧ w'.cell? ⟨ga, oa + j * 2, none⟩ = some (.int .i64 (o : Int)) ∧ w'.cell? ⟨ga, oa + j * 2 + 1, none⟩ = some (.int .i64 (mm : Int))) (go_keep)
            (first
              | (refine step_append_lies _ rfl (.tmp 92) (.tmp 111) 58 rfl w5.heap.size 38 i0 (.slice none 0 0) 1 24 Try.underlying58 hi hz0 hz1 hz2 rfl (by decide) _ _ us (by simp [Act.eval]) ((own_keep hown kk6).alloc _) ⟨w6.heap.size, 0, none⟩ 1 1 [.slice b6 m6 c6] (by simp [Act.eval]) rfl (cell_one_new _ _ _) (by intro u hu; simp at hu; subst hu; rfl) (by decide) (by unfold maxLen; omega) (by omega) (by have := kk6.size; simp; omega) _ rfl ?_; intro g9 cap9 w9 hown9 hg9 hat9 _; have hB9 := (C0.keep HBW.out (kk6.trans (kept_alloc 0 0 w6 (.cells #[.slice b6 m6 c6] 38)))).grown hg9 (fun i hi => (own_blk hown hi).1) HZ5.out; obtain ⟨_, n0, n1', n2', n3'⟩ := hB9; have hA9 := (AtP.keep HAT.out HZ3.out.1 (kk6.trans (kept_alloc 0 0 w6 (.cells #[.slice b6 m6 c6] 38))) (.inr (.inr (Nat.le_refl _)))).grown hg9 (by have := kk6.size; have := HZ3.out; simp; omega) (fun i hi => (own_blk hown hi).1) HGA.out; obtain ⟨n4', n5'⟩ := hA9)
              | (go_at_call 174; refine Calls.mono (HRD.out _ (kept_drewN 0 0 wr 1)) ?_; rintro e w6 ⟨u6, rfl, ⟨b6, m6, c6, zs6, rfl, y1, y2, y3⟩, k6⟩; have kk6 := Kept.trans (kept_drewN 0 0 wr 1) k6; obtain ⟨_, m0, m1', m2', m3'⟩ := C0.keep HBW.out kk6; obtain ⟨m4', m5'⟩ := AtP.keep HAT.out HZ3.out.1 kk6 (.inr (.inr (Nat.le_refl _)))))
          all_goals
            have R1 : Hid (AR w9 w5.heap.size (.slice (some ⟨g9, 0, none⟩) (j + 1) cap9) (j + 1) (runM xss ss os)) :=
              AR.step (W := w6) (Vs := runM xss ss os) (own_keep hown kk6) (us_keep HUS.out kk6) (x := readM ss (resTo xss ss k) k (o : Int) (mm : Int)) (Cn.cl ⟨_, _, _, zs6, rfl, y1, y2, y3⟩) (fun h0 p hp c => by
                have h1 := (own_blk hown c).2
                have h2 := Cn.ge (W := w6) (lo := (wr.drewN 1).heap.size) ⟨_, _, _, zs6, rfl, y1, y2, y3⟩ h0 p hp
                have h3 : (wr.drewN 1).heap.size = wr.heap.size := rfl
                omega) hown9 hg9 (by rcases hat9 with h | h; exact .inl h; exact .inr h) (fun _ _ => rfl) HE.out
            have R2 : Hid _ := grown_kept (base := w5.heap.size) hg9 (fun i hi => (own_blk hown hi).1) ((Kept.trans hK.out kk6).trans (kept_alloc 0 0 w6 _)) (Nat.le_refl _)
            clear hown9 hg9 hat9
            go_wp2
            go_roundw
            case rel => exact ⟨j + 1, by omega, by go_num, R1, R2⟩
            case measure => simp [intOf]; omega
        · obtain rfl : j = n3 := by omega
          obtain ⟨a, cap, yss, rfl, r1, r2⟩ := AR.ss hP.out
          have R1 : Hid _ := r1
          have R2 : Hid _ := r2
          have R3 : Hid (Kept 0 0 w wr) := Kept.trans HK.out (Kept.trans HK5.out hK.out)
          clear r1 r2 hP hK
          go_wp2
          go_ret
          exact ⟨a, cap, yss, rfl, R1.out, R2.out, R3.out⟩
end Go.Proofs.Ytcphabjekfihnaa
