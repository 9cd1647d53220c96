import Derived.Test.YtcphabjekfihnabGreatP51
namespace Go.Proofs.YtcphabjekfihnabGreat
open Go.RowKit Flt
attribute [local go_sem] alloc_drewN setCell_drewN run_store_float

set_option maxRecDepth 100000 in
set_option maxHeartbeats 4000000 in
theorem l4wrongPass (w : World) (lo hi : Nat) (a : Option Addr) (m cp : Nat) (ps : List Int) (f : IS w lo hi a m ps) (hm : m ≤ 50) :
    Calls Tryz.prog 26 #[.slice a m cp] w fun e w' => (∃ r : Int, e = .returned (.int .i64 r) ∧ (decide (0 ≤ r)) = !(ps.all (idxB · 5))) ∧ Kept 0 0 w w' := by
  have HL : Hid (ps.length = m) := f.len
  have HF : Hid _ := f
  clear f
  go_enter Tryz.func26, Tryz.ntmps26
  go_wp2_with fail
  go_loopw [3] (fun x W => ∃ k : Nat, k ≤ m ∧ x = .int .i64 k ∧ Hid ((ps.take k).all (idxB · 5) = true) ∧ Hid (Kept 0 0 w W)) (fun x _ => m - (intOf x).toNat)
  case atStart => exact ⟨0, Nat.zero_le _, rfl, rfl, Kept.refl _ _ _⟩
  case round =>
    obtain ⟨k, hk, rfl, hA, hK⟩ := hrel
    by_cases hlt : k < m
    · have hlt' : k < ps.length := by rw [HL.out]; exact hlt
      obtain ⟨g, off, kk, rfl, ek, _, _, cO⟩ := (IS.keep HF.out hK.out (.inr (.inr (Nat.le_refl _)))).at_idx (o := k) (by omega) (by omega)
      obtain rfl : k = kk := by omega
      rw [Int.toNat_natCast] at cO
      have R1 : Hid (idxB (ps.getD k 0) 5 = true → (ps.take (k + 1)).all (idxB · 5) = true) := fun t => by
        rw [List.take_succ_eq_append_getElem hlt', List.all_append, hA.out]
        rw [List.getD_eq_getElem?_getD, List.getElem?_eq_getElem hlt'] at t
        simpa using t
      have R0 : Hid (idxB (ps.getD k 0) 5 = false → ps.all (idxB · 5) = false) := fun t => by
        refine List.all_eq_false.2 ⟨ps.getD k 0, getD_memJ hlt', by rw [t]; simp⟩
      generalize ps.getD k 0 = p at cO R1 R0
      clear hA
      by_cases hn : p < 0
      · have R : Hid _ := R0.out (decide_eq_false (by omega))
        clear R0 R1
        go_wp2_with fail
        go_ret
        exact ⟨⟨k, rfl, by rw [R.out]; simp⟩, hK.out⟩
      · by_cases h4 : (4 : Int) < p
        · have R : Hid _ := R0.out (decide_eq_false (by omega))
          clear R0 R1
          go_wp2_with fail
          go_ret
          exact ⟨⟨k, rfl, by rw [R.out]; simp⟩, hK.out⟩
        · have R : Hid _ := R1.out (decide_eq_true (by omega))
          clear R0 R1
          go_wp2
          go_roundw
          case rel => exact ⟨k + 1, by omega, by go_num, R, hK⟩
          case measure => simp [intOf]; omega
    · obtain rfl : k = m := by omega
      have R : Hid (ps.all (idxB · 5) = true) := by
        have := hA.out
        rw [List.take_of_length_le (by rw [HL.out]; omega)] at this
        exact this
      clear hA
      go_wp2
      go_ret
      exact ⟨⟨-1, rfl, by rw [R.out]; rfl⟩, hK.out⟩
end Go.Proofs.YtcphabjekfihnabGreat

namespace Go.Proofs.YtcphabjekfihnabGreat
open Go.RowKit Flt
attribute [local go_sem] alloc_drewN setCell_drewN run_store_float

/-- What l4all's loop holds: the graph in the box O, the answer's box R. -/
structure LA (W w : World) (O R : Nat) (a1 : Option Addr) (n1 d1 : Nat) (a2 : Option Addr) (n2 d2 : Nat) (a3 : Option Addr) (n3 d3 : Nat) (ins : List Int) (us : List Vl) (M : List Vl × List Int) : Prop where
  ob : RB W O (.slice a1 n1 d1) (.slice a2 n2 d2) (.slice a3 n3 d3)
  res : RB W R (.slice none 0 0) (.slice none 0 0) (.slice none 0 0)
  gs : GS W a1 n1 a2 n2 a3 n3 ins us M.2
  lk : Lk us M.1
  ke : Kept 0 0 w W
theorem RB.keepT {W W' : World} {p l h : Nat} {b0 b1 b2 : Value} (t : RB W p b0 b1 b2) (k : Kept l h W W') (hd : p < l ∨ h ≤ p) : RB W' p b0 b1 b2 := by
  have e : ∀ o, W'.cell? ⟨p, o, none⟩ = W.cell? ⟨p, o, none⟩ := fun o => k.cell (p := ⟨p, o, none⟩) t.sz (by simp only; omega)
  have e2 : ∀ o, W'.frozen? ⟨p, o, none⟩ = W.frozen? ⟨p, o, none⟩ := fun o => k.frozen (p := ⟨p, o, none⟩) t.sz (by simp only; omega)
  exact ⟨Nat.lt_of_lt_of_le t.sz k.size, by rw [e]; exact t.q0, by rw [e]; exact t.q1, by rw [e]; exact t.q2, by rw [e2]; exact t.f0, by rw [e2]; exact t.f1, by rw [e2]; exact t.f2⟩
theorem LA.put {W8 w : World} {O R : Nat} {u0 u1 u2 : Option Addr} {m0 m1 m2 e0 e1 e2 : Nat} {a1 a2 a3 : Option Addr} {n1 d1 n2 d2 n3 d3 : Nat} {ins : List Int} {us : List Vl} {M : List Vl × List Int} (ob : RB W8 O (.slice u0 m0 e0) (.slice u1 m1 e1) (.slice u2 m2 e2)) (res : RB W8 R (.slice none 0 0) (.slice none 0 0) (.slice none 0 0)) (g : GS W8 a1 n1 a2 n2 a3 n3 ins us M.2) (l : Lk us M.1) (ke : Kept 0 0 w W8) (hO : w.heap.size ≤ O) (hR : O ≠ R) :
    LA (((W8.setCell ⟨O, 0, none⟩ (.slice a1 n1 d1)).setCell ⟨O, 1, none⟩ (.slice a2 n2 d2)).setCell ⟨O, 2, none⟩ (.slice a3 n3 d3)) w O R a1 n1 d1 a2 n2 d2 a3 n3 d3 ins us M := by
  obtain ⟨y0, y1, y2⟩ := put3_0 W8 O _ _ _ ob.q0 ob.q1 ob.q2 (.slice a1 n1 d1) (.slice a2 n2 d2) (.slice a3 n3 d3)
  have kp := put3_kept W8 O (.slice a1 n1 d1) (.slice a2 n2 d2) (.slice a3 n3 d3)
  exact ⟨⟨Nat.lt_of_lt_of_le ob.sz kp.size, y0, y1, y2, by simp [ob.f0], by simp [ob.f1], by simp [ob.f2]⟩, res.keepT kp (by omega), g.put3 ob.q0 ob.q1 ob.q2 _ _ _, l, ke.new kp hO⟩
theorem LA.stay {W W' w : World} {O R : Nat} {a1 a2 a3 : Option Addr} {n1 d1 n2 d2 n3 d3 : Nat} {ins : List Int} {us : List Vl} {M : List Vl × List Int} (f : LA W w O R a1 n1 d1 a2 n2 d2 a3 n3 d3 ins us M) (k : Kept 0 0 W W') : LA W' w O R a1 n1 d1 a2 n2 d2 a3 n3 d3 ins us M :=
  ⟨f.ob.keep k, f.res.keep k, f.gs.keep k, f.lk, f.ke.trans k⟩
set_option maxRecDepth 100000 in
set_option maxHeartbeats 8000000 in
theorem l4all (w : World) (b1 b2 b3 : Option Addr) (n1 c1 n2 c2 n3 c3 plo phi : Nat) (ap : Option Addr) (m cp : Nat) (ins : List Int) (vs : List Vl) (outs ps : List Int) (f : GS w b1 n1 b2 n2 b3 n3 ins vs outs) (hok : okG ins vs outs = true) (hp : IS w plo phi ap m ps) (hm : m ≤ 50) (hi5 : ps.all (idxB · 5) = true) :
    Calls Tryz.prog 27 #[gagg b1 n1 c1 b2 n2 c2 b3 n3 c3, .slice ap m cp] w fun e w' => SPo w n1 n3 ins (optTo vs outs ps m) e w' := by
  obtain ⟨⟨hl1, hl2, hl3⟩, _, _, _, _⟩ := okG_parts hok
  have hvl : vs.length = n2 := f.v.len
  have hol : outs.length = n3 := f.o.len
  have hil : ins.length = n1 := f.i.len
  have HL : Hid (vs.length = n2 ∧ outs.length = n3 ∧ ins.length = n1 ∧ ps.length = m) := ⟨hvl, hol, hil, hp.len⟩
  have HKB : Hid (∀ k, Kb (optTo vs outs ps k).1) := optTo_kb ps f.v.lt
  have HKV : Hid (Kb vs) := f.v.lt
  have HOK : Hid (∀ k, okG ins (optTo vs outs ps k).1 (optTo vs outs ps k).2 = true) := optTo_ok ps hok
  have HP5 : Hid (∀ k, k < m → 0 ≤ ps.getD k 0 ∧ ps.getD k 0 < 5) := fun k hk => of_decide_eq_true (List.all_eq_true.1 hi5 _ (getD_memJ (by rw [hp.len]; exact hk)))
  have k0 := kept_alloc 0 0 w (gbox b1 n1 c1 b2 n2 c2 b3 n3 c3)
  have k1 := kept_alloc 0 0 (w.alloc (gbox b1 n1 c1 b2 n2 c2 b3 n3 c3)) nbox
  have HB : Hid (RB ((w.alloc (gbox b1 n1 c1 b2 n2 c2 b3 n3 c3)).alloc nbox) w.heap.size (.slice b1 n1 c1) (.slice b2 n2 c2) (.slice b3 n3 c3)) := (rb_box w (.slice b1 n1 c1) (.slice b2 n2 c2) (.slice b3 n3 c3)).keep k1
  have hz : (w.alloc (gbox b1 n1 c1 b2 n2 c2 b3 n3 c3)).heap.size = w.heap.size + 1 := by simp
  have hR := rb_start (w.alloc (gbox b1 n1 c1 b2 n2 c2 b3 n3 c3))
  rw [hz] at hR
  have HR : Hid _ := hR
  have HK : Hid _ := k0.trans k1
  have HCP : Hid _ := l2copyS ((w.alloc (gbox b1 n1 c1 b2 n2 c2 b3 n3 c3)).alloc nbox) b1 b2 b3 n1 c1 n2 c2 n3 c3 ins vs outs (f.keep (k0.trans k1)) (by omega) (by omega) (by omega)
  have HPS : Hid _ := hp
  clear f hok hl1 hl2 hl3 hvl hol hil hR hz k0 k1 hp hi5
  obtain ⟨_, p0, p1, p2, _, _, _⟩ := HB.out
  go_enter Tryz.func27, Tryz.ntmps27
  go_wp2_with fail
  clear p0 p1 p2
  generalize (w.alloc (gbox b1 n1 c1 b2 n2 c2 b3 n3 c3)).alloc nbox = w2 at HB HR HK HCP ⊢
  refine Calls.mono HCP.out ?_
  rintro e w3 ⟨a1, d1, a2, d2, a3, d3, rfl, o1, o2, o3, _, k3⟩
  have hg : GS w3 a1 n1 a2 n2 a3 n3 ins vs outs := by
    obtain ⟨G2, hG2, _⟩ := own_vz o2 HL.out.1 0
    exact ⟨own_is o1 HL.out.2.2.1, VZ.vs hG2 HL.out.1 HKV.out, own_is o3 HL.out.2.1⟩
  have HB3 : Hid _ := HB.out.keep k3
  have HLA : Hid _ := LA.put (d1 := d1) (d2 := d2) (d3 := d3) (M := optTo vs outs ps 0) HB3.out (HR.out.keep k3) hg (Lk.refl _) (HK.out.trans k3) (Nat.le_refl _) (by omega)
  obtain ⟨_, p0, p1, p2, f0, f1, f2⟩ := HB3.out
  clear o1 o2 o3 hg k3 HCP HB HR HK
  go_upto_region 3 with fail
  clear p0 p1 p2 f0 f1 f2 HB3
  generalize ((w3.setCell ⟨w.heap.size, 0, none⟩ (.slice a1 n1 d1)).setCell ⟨w.heap.size, 1, none⟩ (.slice a2 n2 d2)).setCell ⟨w.heap.size, 2, none⟩ (.slice a3 n3 d3) = w4 at HLA ⊢
  go_loopw [5] (fun x W => ∃ (k : Nat) (a1 : Option Addr) (d1 : Nat) (a2 : Option Addr) (n2 d2 : Nat) (a3 : Option Addr) (d3 : Nat) (us : List Vl), k ≤ m ∧ x = .int .i64 k ∧ Hid (LA W w w.heap.size (w.heap.size + 1) a1 n1 d1 a2 n2 d2 a3 n3 d3 ins us (optTo vs outs ps k))) (fun x _ => m - (intOf x).toNat)
  case atStart => exact ⟨0, _, _, _, _, _, _, _, _, Nat.zero_le _, rfl, HLA⟩
  case round =>
    clear HLA
    obtain ⟨k, a1, d1, a2, n2, d2, a3, d3, us, hk, rfl, hI⟩ := hrel
    obtain ⟨_, p0, p1, p2, f0, f1, f2⟩ := hI.out.ob
    by_cases hlt : k < m
    · obtain ⟨gp, op, kk, rfl, ek, _, _, cP⟩ := (IS.keep HPS.out hI.out.ke (.inr (.inr (Nat.le_refl _)))).at_idx (o := k) (by omega) (by omega)
      obtain rfl : k = kk := by omega
      rw [Int.toNat_natCast] at cP
      have h5 := HP5.out k hlt
      have HOKu : Hid (okG ins us (optTo vs outs ps k).2 = true) := by show _ = _; rw [hI.out.lk.okG]; exact HOK.out k
      have HCL : Hid (∀ W, Kept 0 0 wr W → Calls Tryz.prog 20 #[gagg a1 n1 d1 a2 n2 d2 a3 n3 d3, .int .i64 (ps.getD k 0)] W fun e w' => SPo W n1 n3 ins (optTo vs outs ps (k + 1)) e w') := fun W kW => (l4pass W a1 a2 a3 n1 d1 n2 d2 n3 d3 (ps.getD k 0) ins us _ (hI.out.gs.keep kW) HOKu.out h5).mono fun e w' h => by
        obtain ⟨q1, e1, q2, m2, e2, q3, e3, us', h1, h2, h3, h4⟩ := h
        have q := passM_lk (outs := (optTo vs outs ps k).2) (ps.getD k 0) hI.out.lk hI.out.gs.v.lt (HKB.out k)
        exact ⟨q1, e1, q2, m2, e2, q3, e3, us', h1, by rw [q.2] at h2; exact h2, h3.trans q.1, h4⟩
      have HST : Hid (∀ W, Kept 0 0 wr W → RB W w.heap.size (.slice a1 n1 d1) (.slice a2 n2 d2) (.slice a3 n3 d3) ∧ RB W (w.heap.size + 1) (.slice none 0 0) (.slice none 0 0) (.slice none 0 0) ∧ Kept 0 0 w W) := fun W kW => ⟨hI.out.ob.keep kW, hI.out.res.keep kW, hI.out.ke.trans kW⟩
      generalize ps.getD k 0 = p at cP HCL
      clear hI h5 HOKu
      go_wp2_with fail
      go_region_with ((go_at_call 20; refine Calls.mono (HCL.out _ (kept_drew wr)) ?_; rintro e w8 ⟨q1, e1, q2, m2, e2, q3, e3, us', rfl, z1, z2, z3⟩; obtain ⟨rb8, re8, ke8⟩ := HST.out w8 ((kept_drew wr).trans z3); have R : Hid _ := LA.put (d1 := e1) (d2 := e2) (d3 := e3) rb8 re8 z1 z2 ke8 (Nat.le_refl _) (by omega); obtain ⟨_, j0, j1, j2, h0, h1, h2⟩ := rb8; clear z1 z2 z3 re8 ke8))
      all_goals
        go_wp2
        go_roundw
        case rel => exact ⟨k + 1, q1, e1, q2, m2, e2, q3, e3, us', by omega, by go_num, R⟩
        case measure => simp [intOf]; omega
    · obtain rfl : k = m := by omega
      have HI9 : Hid _ := hI.out
      obtain ⟨_, s0, s1, s2, v0, v1, v2⟩ := hI.out.res
      clear hI
      go_wp2_with fail
      obtain ⟨y0, y1, y2⟩ := put3_0 wr (w.heap.size + 1) _ _ _ s0 s1 s2 (.slice a1 n1 d1) (.slice a2 n2 d2) (.slice a3 n3 d3)
      refine bodyPost_ret (v := gagg a1 n1 d1 a2 n2 d2 a3 n3 d3) (by simp [results, Tryz.results27, go_sem, y0, y1, y2]) rfl (SPo.ret (w := w) HI9.out.ke (by omega) s0 s1 s2 HI9.out.gs HI9.out.lk (Kept.refl _ _ _))
end Go.Proofs.YtcphabjekfihnabGreat

namespace Go.Proofs.YtcphabjekfihnabGreat
open Go.RowKit Flt
attribute [local go_sem] alloc_drewN setCell_drewN run_store_float

set_option maxRecDepth 100000 in
set_option maxHeartbeats 2000000 in
theorem specOpt_inv (w : World) (a1 a2 a3 : Option Addr) (n1 c1 n2 c2 n3 c3 : Nat) (ap : Option Addr) (m cp : Nat) (ins : List Int) (vs : List Vl) (outs : List Int) (f : GS w a1 n1 a2 n2 a3 n3 ins vs outs) (h : okG ins vs outs = false) :
    Calls Tryz.prog 12 #[gagg a1 n1 c1 a2 n2 c2 a3 n3 c3, .slice ap m cp] w fun e w' => e = .returned (.tuple #[gnil, .int .i64 1]) ∧ Kept 0 0 w w' := by
  have hK := (kept_alloc 0 0 w (gbox a1 n1 c1 a2 n2 c2 a3 n3 c3)).trans (kept_alloc 0 0 _ nbox)
  have HX : Hid _ := specValid _ a1 a2 a3 n1 c1 n2 c2 n3 c3 ins vs outs (f.keep hK)
  rw [h] at HX
  have HK : Hid _ := hK
  have hN := rb_start (w.alloc (gbox a1 n1 c1 a2 n2 c2 a3 n3 c3))
  rw [show (w.alloc (gbox a1 n1 c1 a2 n2 c2 a3 n3 c3)).heap.size = w.heap.size + 1 by simp] at hN
  have HN : Hid _ := hN
  clear hK h f hN
  go_enter Tryz.func12, Tryz.ntmps12
  go_wp2_with fail
  refine Calls.mono HX.out ?_
  rintro e w2 ⟨rfl, k2⟩
  obtain ⟨_, q0, q1, q2, f0, f1, f2⟩ := RB.keep HN.out k2
  obtain ⟨y0, y1, y2⟩ := put3_0 w2 (w.heap.size + 1) _ _ _ q0 q1 q2 (.slice none 0 0) (.slice none 0 0) (.slice none 0 0)
  have R : Hid (Kept 0 0 w _) := Kept.new (Kept.trans HK.out k2) (put3_kept w2 (w.heap.size + 1) (.slice none 0 0) (.slice none 0 0) (.slice none 0 0)) (by omega)
  clear k2 HX HN HK
  go_wp2_with fail
  refine bodyPost_ret (v := .tuple #[gnil, .int .i64 1]) (by simp [results, Tryz.results12, go_sem, y0, y1, y2]) rfl ⟨rfl, R.out⟩
set_option maxRecDepth 100000 in
set_option maxHeartbeats 2000000 in
theorem specOpt_many (w : World) (a1 a2 a3 : Option Addr) (n1 c1 n2 c2 n3 c3 : Nat) (ap : Option Addr) (m cp : Nat) (ins : List Int) (vs : List Vl) (outs : List Int) (f : GS w a1 n1 a2 n2 a3 n3 ins vs outs) (h : okG ins vs outs = true) (hmx : m ≤ 9223372036854775807) (hm : 50 < m) :
    Calls Tryz.prog 12 #[gagg a1 n1 c1 a2 n2 c2 a3 n3 c3, .slice ap m cp] w fun e w' => e = .returned (.tuple #[gnil, .int .i64 6]) ∧ Kept 0 0 w w' := by
  have hm' : (50 : Int) < (m : Int) := by omega
  have hK := (kept_alloc 0 0 w (gbox a1 n1 c1 a2 n2 c2 a3 n3 c3)).trans (kept_alloc 0 0 _ nbox)
  have HX : Hid _ := specValid _ a1 a2 a3 n1 c1 n2 c2 n3 c3 ins vs outs (f.keep hK)
  rw [h] at HX
  have HK : Hid _ := hK
  have hN := rb_start (w.alloc (gbox a1 n1 c1 a2 n2 c2 a3 n3 c3))
  rw [show (w.alloc (gbox a1 n1 c1 a2 n2 c2 a3 n3 c3)).heap.size = w.heap.size + 1 by simp] at hN
  have HN : Hid _ := hN
  clear hK h f hN
  go_enter Tryz.func12, Tryz.ntmps12
  go_wp2_with fail
  refine Calls.mono HX.out ?_
  rintro e w2 ⟨rfl, k2⟩
  obtain ⟨_, q0, q1, q2, f0, f1, f2⟩ := RB.keep HN.out k2
  obtain ⟨y0, y1, y2⟩ := put3_0 w2 (w.heap.size + 1) _ _ _ q0 q1 q2 (.slice none 0 0) (.slice none 0 0) (.slice none 0 0)
  have R : Hid (Kept 0 0 w _) := Kept.new (Kept.trans HK.out k2) (put3_kept w2 (w.heap.size + 1) (.slice none 0 0) (.slice none 0 0) (.slice none 0 0)) (by omega)
  clear k2 HX HN HK
  go_wp2_with fail
  refine bodyPost_ret (v := .tuple #[gnil, .int .i64 6]) (by simp [results, Tryz.results12, go_sem, y0, y1, y2]) rfl ⟨rfl, R.out⟩
set_option maxRecDepth 100000 in
set_option maxHeartbeats 2000000 in
theorem specOpt_idx (w : World) (a1 a2 a3 : Option Addr) (n1 c1 n2 c2 n3 c3 : Nat) (ap : Option Addr) (m cp : Nat) (ins : List Int) (vs : List Vl) (outs : List Int) (f : GS w a1 n1 a2 n2 a3 n3 ins vs outs) (h : okG ins vs outs = true) (lo hi : Nat) (ps : List Int) (hp : IS w lo hi ap m ps) (hm : m ≤ 50) (hi5 : ps.all (idxB · 5) = false) :
    Calls Tryz.prog 12 #[gagg a1 n1 c1 a2 n2 c2 a3 n3 c3, .slice ap m cp] w fun e w' => e = .returned (.tuple #[gnil, .int .i64 6]) ∧ Kept 0 0 w w' := by
  have hm' : ¬ (50 : Int) < (m : Int) := by omega
  have HI : Hid (∀ W, Kept 0 0 w W → Calls Tryz.prog 26 #[.slice ap m cp] W fun e w' => (∃ r : Int, e = .returned (.int .i64 r) ∧ 0 ≤ r) ∧ Kept 0 0 W w') := fun W kW => (l4wrongPass W _ _ ap m cp ps (hp.keep kW (.inr (.inr (Nat.le_refl _)))) hm).mono fun e w' h => by
    obtain ⟨⟨r, h1, h2⟩, h3⟩ := h
    rw [hi5] at h2
    exact ⟨⟨r, h1, of_decide_eq_true h2⟩, h3⟩
  have hK := (kept_alloc 0 0 w (gbox a1 n1 c1 a2 n2 c2 a3 n3 c3)).trans (kept_alloc 0 0 _ nbox)
  have HX : Hid _ := specValid _ a1 a2 a3 n1 c1 n2 c2 n3 c3 ins vs outs (f.keep hK)
  rw [h] at HX
  have HK : Hid _ := hK
  have hN := rb_start (w.alloc (gbox a1 n1 c1 a2 n2 c2 a3 n3 c3))
  rw [show (w.alloc (gbox a1 n1 c1 a2 n2 c2 a3 n3 c3)).heap.size = w.heap.size + 1 by simp] at hN
  have HN : Hid _ := hN
  clear hK h f hN hp hi5
  go_enter Tryz.func12, Tryz.ntmps12
  go_wp2_with fail
  refine Calls.mono HX.out ?_
  rintro e w1 ⟨rfl, k1⟩
  go_wp2_with fail
  refine Calls.mono (HI.out w1 (Kept.trans HK.out k1)) ?_
  rintro e w2 ⟨⟨r, rfl, hr⟩, k2'⟩
  have k2 := Kept.trans k1 k2'
  obtain ⟨_, q0, q1, q2, f0, f1, f2⟩ := RB.keep HN.out k2
  obtain ⟨y0, y1, y2⟩ := put3_0 w2 (w.heap.size + 1) _ _ _ q0 q1 q2 (.slice none 0 0) (.slice none 0 0) (.slice none 0 0)
  have R : Hid (Kept 0 0 w _) := Kept.new (Kept.trans HK.out k2) (put3_kept w2 (w.heap.size + 1) (.slice none 0 0) (.slice none 0 0) (.slice none 0 0)) (by omega)
  clear k2 k1 k2' HX HN HK
  go_wp2_with fail
  refine bodyPost_ret (v := .tuple #[gnil, .int .i64 6]) (by simp [results, Tryz.results12, go_sem, y0, y1, y2]) rfl ⟨rfl, R.out⟩
set_option maxRecDepth 100000 in
set_option maxHeartbeats 2000000 in
theorem specOpt_run (w : World) (b1 b2 b3 : Option Addr) (n1 c1 n2 c2 n3 c3 : Nat) (ap : Option Addr) (m cp : Nat) (ins : List Int) (vs : List Vl) (outs : List Int) (f : GS w b1 n1 b2 n2 b3 n3 ins vs outs) (h : okG ins vs outs = true) (lo hi : Nat) (ps : List Int) (hp : IS w lo hi ap m ps) (hm : m ≤ 50) (hi5 : ps.all (idxB · 5) = true) :
    Calls Tryz.prog 12 #[gagg b1 n1 c1 b2 n2 c2 b3 n3 c3, .slice ap m cp] w fun e w' => SRo w n1 n3 ins (optTo vs outs ps m) e w' := by
  have hK := (kept_alloc 0 0 w (gbox b1 n1 c1 b2 n2 c2 b3 n3 c3)).trans (kept_alloc 0 0 _ nbox)
  have HX : Hid _ := specValid _ b1 b2 b3 n1 c1 n2 c2 n3 c3 ins vs outs (f.keep hK)
  rw [h] at HX
  have HP : Hid (∀ W, Kept 0 0 w W → Calls Tryz.prog 27 #[gagg b1 n1 c1 b2 n2 c2 b3 n3 c3, .slice ap m cp] W fun e w' => SPo W n1 n3 ins (optTo vs outs ps m) e w') := fun W kW => l4all W b1 b2 b3 n1 c1 n2 c2 n3 c3 _ _ ap m cp ins vs outs ps (f.keep kW) h (hp.keep kW (.inr (.inr (Nat.le_refl _)))) hm hi5
  have HK : Hid _ := hK
  have hN := rb_start (w.alloc (gbox b1 n1 c1 b2 n2 c2 b3 n3 c3))
  rw [show (w.alloc (gbox b1 n1 c1 b2 n2 c2 b3 n3 c3)).heap.size = w.heap.size + 1 by simp] at hN
  have HN : Hid _ := hN
  have HB : Hid _ := (g0_start w (.slice b1 n1 c1) (.slice b2 n2 c2) (.slice b3 n3 c3)).keep (kept_alloc 0 0 _ nbox)
  have hm' : ¬ (50 : Int) < (m : Int) := by omega
  have HI : Hid (∀ W, Kept 0 0 w W → Calls Tryz.prog 26 #[.slice ap m cp] W fun e w' => (∃ r : Int, e = .returned (.int .i64 r) ∧ ¬ 0 ≤ r) ∧ Kept 0 0 W w') := fun W kW => (l4wrongPass W _ _ ap m cp ps (hp.keep kW (.inr (.inr (Nat.le_refl _)))) hm).mono fun e w' h => by
    obtain ⟨⟨r, h1, h2⟩, h3⟩ := h
    rw [hi5] at h2
    exact ⟨⟨r, h1, of_decide_eq_false h2⟩, h3⟩
  clear hK h f hN hp hi5
  go_enter Tryz.func12, Tryz.ntmps12
  go_wp2_with fail
  refine Calls.mono HX.out ?_
  rintro e w1 ⟨rfl, k1⟩
  go_wp2_with fail
  refine Calls.mono (HI.out w1 (Kept.trans HK.out k1)) ?_
  rintro e w2 ⟨⟨r, rfl, hr⟩, k2'⟩
  have k2 := Kept.trans k1 k2'
  obtain ⟨_, p0, p1, p2⟩ := G0.keep HB.out k2
  have HK2 : Hid _ := Kept.trans HK.out k2
  have HN2 : Hid _ := RB.keep HN.out k2
  clear k2 k1 k2' HX HN HK HB
  go_wp2_with fail
  refine Calls.mono (HP.out w2 HK2.out) ?_
  rintro e w3 ⟨a1, d1, a2, m2, d2, a3, d3, us, rfl, g3, l3, k3⟩
  obtain ⟨_, q0, q1, q2, f0, f1, f2⟩ := RB.keep HN2.out k3
  obtain ⟨y0, y1, y2⟩ := put3_0 w3 (w.heap.size + 1) _ _ _ q0 q1 q2 (.slice a1 n1 d1) (.slice a2 m2 d2) (.slice a3 n3 d3)
  have R : Hid _ := SRo.ret (d1 := d1) (d2 := d2) (d3 := d3) HK2.out (by omega : w.heap.size ≤ w.heap.size + 1) q0 q1 q2 g3 l3 k3
  clear g3 l3 k3 p0 p1 p2
  go_wp2_with fail
  refine bodyPost_ret (v := .tuple #[gagg a1 n1 d1 a2 m2 d2 a3 n3 d3, .int .i64 0]) (by simp [results, Tryz.results12, go_sem, y0, y1, y2]) rfl R.out
end Go.Proofs.YtcphabjekfihnabGreat

namespace Go.Proofs.YtcphabjekfihnabGreat
open Go.RowKit Flt

def ores (ins : List Int) (vs : List Vl) (outs ps : List Int) : KR :=
  if okG ins vs outs = false then .bad 1
  else if 50 < ps.length then .bad 6
  else if ps.all (idxB · 5) = false then .bad 6
  else ⟨ins, (optTo vs outs ps ps.length).1, (optTo vs outs ps ps.length).2, 0⟩
theorem ores_len (ins : List Int) (vs : List Vl) (outs ps : List Int) : (ores ins vs outs ps).ins.length ≤ 1048576 ∧ (ores ins vs outs ps).vs.length ≤ 1048576 ∧ (ores ins vs outs ps).outs.length ≤ 1048576 := by
  unfold ores
  cases h : okG ins vs outs
  · rw [if_pos rfl]; exact ⟨Nat.zero_le _, Nat.zero_le _, Nat.zero_le _⟩
  rw [if_neg (by simp)]
  split
  · exact ⟨Nat.zero_le _, Nat.zero_le _, Nat.zero_le _⟩
  split
  · exact ⟨Nat.zero_le _, Nat.zero_le _, Nat.zero_le _⟩
  · obtain ⟨⟨q1, q2, q3⟩, _⟩ := okG_parts (optTo_ok ps h ps.length)
    exact ⟨by simp only; omega, by simp only; omega, by simp only; omega⟩
theorem specO (w : World) (lo g1 g2 g3 n1 c1 n2 c2 n3 c3 plo phi : Nat) (ap : Option Addr) (m cp : Nat) (ins : List Int) (vs : List Vl) (outs ps : List Int) (f : GO w lo g1 g2 g3 n2 ins vs outs) (e1 : ins.length = n1) (e3 : outs.length = n3) (hlt : Kb vs) (hp : IS w plo phi ap m ps) (hmx : m ≤ 9223372036854775807) :
    Calls Tryz.prog 12 #[gagg (some ⟨g1, 0, none⟩) n1 c1 (some ⟨g2, 0, none⟩) n2 c2 (some ⟨g3, 0, none⟩) n3 c3, .slice ap m cp] w fun e w' => KS1 w (ores ins vs outs ps) e w' := by
  have hgs := f.gs hlt
  rw [e1, e3] at hgs
  have hl := hp.len
  unfold ores
  rw [hl]
  cases h : okG ins vs outs
  · rw [if_pos rfl]
    exact (specOpt_inv w _ _ _ n1 c1 n2 c2 n3 c3 ap m cp ins vs outs hgs h).mono fun _ _ q => by rw [q.1]; exact ks1_bad 1 q.2
  rw [if_neg (by simp)]
  by_cases hm : 50 < m
  · rw [if_pos hm]
    exact (specOpt_many w _ _ _ n1 c1 n2 c2 n3 c3 ap m cp ins vs outs hgs h hmx hm).mono fun _ _ q => by rw [q.1]; exact ks1_bad 6 q.2
  rw [if_neg hm]
  cases hq : ps.all (idxB · 5)
  · rw [if_pos rfl]
    exact (specOpt_idx w _ _ _ n1 c1 n2 c2 n3 c3 ap m cp ins vs outs hgs h plo phi ps hp (by omega) hq).mono fun _ _ q => by rw [q.1]; exact ks1_bad 6 q.2
  · rw [if_neg (by simp)]
    exact (specOpt_run w _ _ _ n1 c1 n2 c2 n3 c3 ap m cp ins vs outs hgs h plo phi ps hp (by omega) hq).mono fun _ _ q => ks1_of q
theorem implO (w : World) (lo g1 g2 g3 n1 c1 n2 c2 n3 c3 plo phi : Nat) (ap : Option Addr) (m cp : Nat) (ins : List Int) (vs : List Vl) (outs ps : List Int) (f : GO w lo g1 g2 g3 n2 ins vs outs) (e1 : ins.length = n1) (e3 : outs.length = n3) (hlt : Kb vs) (hp : IS w plo phi ap m ps) (hmx : m ≤ 9223372036854775807) :
    Calls Tryz.prog 14 #[gagg (some ⟨g1, 0, none⟩) n1 c1 (some ⟨g2, 0, none⟩) n2 c2 (some ⟨g3, 0, none⟩) n3 c3, .slice ap m cp] w fun e w' => KS2 w (ores ins vs outs ps) e w' := by
  have hgs := f.gs hlt
  rw [e1, e3] at hgs
  have hl := hp.len
  unfold ores
  rw [hl]
  cases h : okG ins vs outs
  · rw [if_pos rfl]
    exact (implOpt_inv w _ _ _ ap n1 c1 n2 c2 n3 c3 m cp ins vs outs hgs h).mono fun _ _ q => by rw [q.1]; exact ks2_bad 1 q.2
  rw [if_neg (by simp)]
  by_cases hm : 50 < m
  · rw [if_pos hm]
    exact (implOpt_many w _ _ _ ap n1 c1 n2 c2 n3 c3 m cp ins vs outs hgs h hmx hm).mono fun _ _ q => by rw [q.1]; exact ks2_bad 6 q.2
  rw [if_neg hm]
  cases hq : ps.all (idxB · 5)
  · rw [if_pos rfl]
    exact (implOpt_idx w _ _ _ ap n1 c1 n2 c2 n3 c3 m cp ins vs outs hgs h hmx plo phi ps hp (by omega) hq).mono fun _ _ q => by rw [q.1]; exact ks2_bad 6 q.2
  · rw [if_neg (by simp)]
    exact (implOpt_run w lo g1 g2 g3 n1 c1 n2 c2 n3 c3 plo phi ap m cp ins vs outs ps f e1 e3 hlt h hp (by omega) hq).mono fun _ _ q => ks2_of q
end Go.Proofs.YtcphabjekfihnabGreat
