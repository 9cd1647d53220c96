import Derived.Test.YtcphabjekfihnabGreatP46
import Derived.Deep.DrawnRows
namespace Go.Proofs.YtcphabjekfihnabGreat
open Go.RowKit Flt
attribute [local go_sem] alloc_drewN setCell_drewN run_store_float
attribute [local go_sem ↓] Go.wp_at_zero Go.wp_at_succ

set_option maxRecDepth 100000 in
set_option maxHeartbeats 16000000 in
theorem l4equal_3 (w : World) (b1 b2 b3 : Option Addr) (n1 c1 n2 c2 n3 c3 : Nat) (ins : List Int) (vs : List Vl) (outs : List Int) (f : GS w b1 n1 b2 n2 b3 n3 ins vs outs) (hok : okG ins vs outs = true) :
    Calls Tryz.prog 37 #[gagg b1 n1 c1 b2 n2 c2 b3 n3 c3, .int .i64 3] w fun e w' => SPo w n1 n3 ins (eqM 3 vs outs) e w' := by
  obtain ⟨j0, hjj, hy0, hy1, hy2⟩ := info_parts infoI
  obtain ⟨⟨hl1, hl2, hl3⟩, _, hv, ho, _⟩ := okG_parts hok
  have hvl : vs.length = n2 := f.v.len
  have hol : outs.length = n3 := f.o.len
  have hil : ins.length = n1 := f.i.len
  have hn1 : n1 ≤ 20 := by omega
  have hn2 : n2 ≤ 2000 := by omega
  have hn3 : n3 ≤ 50 := by omega
  have HV : Hid (∀ j, j < n2 → okV ins vs j = true) := fun j hj => hv j (by omega)
  have HE : Hid (∀ i, i ≤ n2 → EqI ins vs i (eqSt 3 vs i)) := fun i hi => eqI_all ins vs 3 i (fun j hj => hv j (by omega))
  have HOUT : Hid (∀ o ∈ outs, 0 ≤ o ∧ o < n2) := fun o h => by have := ho o h; omega
  have HL : Hid (vs.length = n2 ∧ outs.length = n3 ∧ ins.length = n1) := ⟨hvl, hol, hil⟩
  have HKB : Hid (Kb vs) := f.v.lt
  have k0 := kept_alloc 0 0 w (gbox b1 n1 c1 b2 n2 c2 b3 n3 c3)
  have k1 := kept_alloc 0 0 (w.alloc (gbox b1 n1 c1 b2 n2 c2 b3 n3 c3)) nbox
  have HB : Hid _ := (g0_start w (.slice b1 n1 c1) (.slice b2 n2 c2) (.slice b3 n3 c3)).keep k1
  have hz : (w.alloc (gbox b1 n1 c1 b2 n2 c2 b3 n3 c3)).heap.size = w.heap.size + 1 := by simp
  have hR := rb_start (w.alloc (gbox b1 n1 c1 b2 n2 c2 b3 n3 c3))
  rw [hz] at hR
  have HR : Hid _ := hR
  have HK : Hid _ := k0.trans k1
  have HZ1 : Hid (((w.alloc (gbox b1 n1 c1 b2 n2 c2 b3 n3 c3)).alloc nbox).heap.size = w.heap.size + 1 + 1) := by show _ = _; simp
  have HCP : Hid _ := l2copyS ((w.alloc (gbox b1 n1 c1 b2 n2 c2 b3 n3 c3)).alloc nbox) b1 b2 b3 n1 c1 n2 c2 n3 c3 ins vs outs (f.keep (k0.trans k1)) (by omega) (by omega) (by omega)
  have HFV : Hid (VS w 0 w.heap.size b2 n2 vs ∧ IS w 0 w.heap.size b3 n3 outs) := ⟨f.v, f.o⟩
  clear f hok hl1 hl2 hl3 hv ho hvl hol hil hR hz k0 k1
  obtain ⟨_, p0, p1, p2⟩ := HB.out
  go_enter Tryz.func37, Tryz.ntmps37
  go_wp2_with fail
  clear p0 p1 p2
  generalize (w.alloc (gbox b1 n1 c1 b2 n2 c2 b3 n3 c3)).alloc nbox = w2 at HB HR HK HZ1 HCP ⊢
  refine Calls.mono HCP.out ?_
  rintro e w3 ⟨a1, d1, a2, d2, a3, d3, rfl, o1, o2, o3, ⟨ap21, ap23, ap13⟩, k3⟩
  have kb := kept_alloc 0 0 w3 (gbox a1 n1 d1 a2 n2 d2 a3 n3 d3)
  have hz3 := k3.size
  obtain ⟨G2, hG2, hG2b⟩ := own_vz o2 HL.out.1 (w3.heap.size + 1)
  obtain ⟨G3, hG3, hG3b⟩ := own_iz o3 HL.out.2.1 (w3.heap.size + 2)
  have HG23 : Hid (G2 ≠ G3) := by
    show _ ≠ _
    intro c
    rcases hG2b with q | q
    · rcases hG3b with r | r
      · exact ap23 G2 q.1 (by rw [c]; exact r.1)
      · omega
    · rcases hG3b with r | r <;> omega
  have HIB : Hid (∀ b, (Value.slice a1 n1 d1).ownBlock = some b → (w2.heap.size ≤ b ∧ b < w3.heap.size) ∧ b ≠ G2 ∧ b ≠ G3) := fun b hb => by
    have hb2 := own_blkV o1 hb
    refine ⟨hb2, fun c => ?_, fun c => ?_⟩
    · rcases hG2b with q | q
      · exact ap21 G2 q.1 (by rw [← c]; exact hb)
      · omega
    · rcases hG3b with q | q
      · exact ap13 b hb (by rw [c]; exact q.1)
      · omega
  have HGB : Hid (w2.heap.size ≤ G2 ∧ (n2 ≠ 0 → G2 < w3.heap.size) ∧ G2 ≠ w3.heap.size ∧ w2.heap.size ≤ G3 ∧ (n3 ≠ 0 → G3 < w3.heap.size) ∧ G3 ≠ w3.heap.size ∧ (n2 = 0 → w3.heap.size < G2)) := ⟨by omega, by omega, by omega, by omega, by omega, by omega, by omega⟩
  have HZ3 : Hid (w.heap.size + 1 + 1 ≤ w3.heap.size ∧ (w3.alloc (gbox a1 n1 d1 a2 n2 d2 a3 n3 d3)).heap.size = w3.heap.size + 1 ∧ w2.heap.size = w.heap.size + 1 + 1) := ⟨by have := HZ1.out; omega, by simp, HZ1.out⟩
  have HEI : Hid (EI (w3.alloc (gbox a1 n1 d1 a2 n2 d2 a3 n3 d3)) (w3.alloc (gbox a1 n1 d1 a2 n2 d2 a3 n3 d3)) w3.heap.size G2 n2 (w3.heap.size + 1) 0 (.slice a1 n1 d1) (.slice a2 n2 d2) (.slice a3 n3 d3) (.slice none 0 0) a2 ((eqSt 3 vs 0).1 ++ vs.drop 0) (eqSt 3 vs 0).2) :=
    ⟨rb_box w3 _ _ _, hG2.keep kb (.inr (.inr (Nat.le_refl _))), World.ownsRow_nil _ _ _ _, rfl, Chg.refl _ _, by simp⟩
  have HI4 : Hid _ := own_keepJ o1 kb
  have HO4 : Hid _ := hG3.keep kb (.inr (.inr (Nat.le_refl _)))
  have HK4 : Hid _ := HK.out.trans (k3.trans kb)
  have HB4 : Hid _ := HB.out.keep (k3.trans kb)
  have HR4 : Hid _ := HR.out.keep (k3.trans kb)
  clear o1 o2 o3 ap21 ap23 ap13 k3 kb hz3 hG2 hG2b hG3 hG3b HCP HB HR HK HZ1
  go_wp2_with fail
  generalize w3.alloc (gbox a1 n1 d1 a2 n2 d2 a3 n3 d3) = w4 at HEI HI4 HO4 HK4 HB4 HR4 HZ3 ⊢
  generalize w3.heap.size = O at HEI HIB HGB HZ3 ⊢
  go_loopw [6, 7] (fun ev x W => ∃ i : Nat, i ≤ n2 ∧ x = .int .i64 i ∧ Hid (EI W w4 O G2 n2 (O + 1) i (.slice a1 n1 d1) (.slice a2 n2 d2) (.slice a3 n3 d3) ev a2 ((eqSt 3 vs i).1 ++ vs.drop i) (eqSt 3 vs i).2)) (fun _ x _ => n2 - (intOf x).toNat)
  case atStart => exact ⟨0, Nat.zero_le _, rfl, HEI⟩
  case round =>
    obtain ⟨i, hi, rfl, hI⟩ := hrel
    clear HEI
    have hz8 : O + 1 ≤ wr.heap.size := hI.out.bz
    have hz9 := HZ3.out
    obtain ⟨_, p0, p1, p2⟩ := G0.keepC HB4.out hI.out.ch (by have := HGB.out; omega)
    by_cases hlt : i < n2
    · have E0 := HE.out i (by omega)
      have E1 := HE.out (i + 1) hlt
      have hgb := HGB.out
      obtain ⟨g, off, rfl, hg, hgw, _, hat⟩ := (VS.keepC (VS.keep HFV.out.1 HK4.out (.inr (.inr (Nat.le_refl _)))) hI.out.ch (fun g _ h2 => by omega)).at_idx hlt
      have hops := okV_ops (HV.out i hlt)
      have hopr := okV_opR (HV.out i hlt)
      have hop := rnm_opr E0 (HV.out i hlt)
      obtain ⟨ev', cv', rfl⟩ := own_form hI.out.own
      have HRN : Hid (∀ W, Kept 0 0 wr W → Calls Tryz.prog 56 #[(vs.getD i Vl.zero).agg, .slice ev' i cv'] W fun e w' => e = .returned (rnm (eqSt 3 vs i).2 (vs.getD i Vl.zero)).agg ∧ Kept 0 0 W w') := fun W kW =>
        l4with W (vs.getD i Vl.zero) _ _ ev' i cv' _ (own_is (own_keepJ hI.out.own kW) E0.l2) hopr (fun o h => by have := hops o h; omega)
      have hev : ∃ eA, a2 = some ⟨G2, 0, none⟩ ∧ eA = 0 := ⟨0, (hI.out.va.va (by omega)).1, rfl⟩
      obtain ⟨_, rfl, _⟩ := hev
      have hVA := (hI.out.va.va (by omega)).2
      have hatO := hVA.at_ i hlt
      have HOA : Hid _ := hatO
      have HVA : Hid _ := hVA
      have HNV : Hid ((rnm (eqSt 3 vs i).2 (vs.getD i Vl.zero)).k < 18446744073709551616) := Kb.at_ HKB.out i
      have hset := mid_set (v := rnm (eqSt 3 vs i).2 (vs.getD i Vl.zero)) E0.l1 (vs := vs) (by rw [HL.out.1]; exact hlt)
      have HPT : Hid (∀ W2, Kept 0 0 wr W2 → EI (put6 W2 G2 (i * 6) (rnm (eqSt 3 vs i).2 (vs.getD i Vl.zero))) w4 O G2 n2 (O + 1) i (.slice a1 n1 d1) (.slice (some ⟨G2, 0, none⟩) n2 d2) (.slice a3 n3 d3) (.slice ev' i cv') (some ⟨G2, 0, none⟩) ((eqSt 3 vs (i + 1)).1 ++ vs.drop (i + 1)) (eqSt 3 vs i).2) := fun W2 kW => hI.out.put kW (by omega) (by omega) hlt hset
      have HEX : Hid ((eqSt 3 vs (i + 1)).2 = (eqSt 3 vs i).2 ++ [sameAt 3 (eqSt 3 vs i).1 (rnm (eqSt 3 vs i).2 (vs.getD i Vl.zero)) i] ∧ (eqSt 3 vs (i + 1)).1 = (eqSt 3 vs i).1 ++ [rnm (eqSt 3 vs i).2 (vs.getD i Vl.zero)]) := ⟨rfl, rfl⟩
      have HAL : Hid ((eqSt 3 vs i).1.length = i ∧ Kb (eqSt 3 vs i).1 ∧ Kb ((eqSt 3 vs (i + 1)).1 ++ vs.drop (i + 1))) := ⟨E0.l1, eqSt_kb HKB.out 3 i, fun v hv => (List.mem_append.1 hv).elim (fun c => eqSt_kb HKB.out 3 (i + 1) v c) (fun c => HKB.out v (List.mem_of_mem_drop c))⟩
      have HOPR : Hid (∀ o ∈ opsOf (rnm (eqSt 3 vs i).2 (vs.getD i Vl.zero)), 0 ≤ o ∧ o < i) := fun o h => (hop o h).1
      generalize hnv : rnm (eqSt 3 vs i).2 (vs.getD i Vl.zero) = nv at HRN HNV HPT HEX HOPR
      generalize hv0 : vs.getD i Vl.zero = v at hat HRN
      clear hnv hv0 E0 E1 hops hopr hop hset
      have HBX : Hid _ := hI.out.ob
      have HPX : Hid (G0 wr w.heap.size (.slice b1 n1 c1) (.slice (some ⟨g, off, none⟩) n2 c2) (.slice b3 n3 c3)) := G0.keepC HB4.out hI.out.ch (by omega)
      clear hI
      obtain ⟨y0, y1, y2, y3, y4, y5⟩ := hat
      go_wp2_with fail
      clear y0 y1 y2 y3 y4 y5 p0 p1 p2
      refine Calls.mono (HRN.out wr (Kept.refl _ _ _)) ?_
      rintro e W1 ⟨rfl, kW1⟩
      have HKW : Hid _ := kW1
      have HPY : Hid _ := HPX.out.keep kW1
      have hVV : wr.heap.size ≤ W1.heap.size := kW1.size
      obtain ⟨u0, u1, u2, u3, u4, u5⟩ := At.keep HOA.out HVA.out.lt kW1 (.inr (.inr (Nat.le_refl _)))
      have ufz := (VA.keep HVA.out kW1 (.inr (.inr (Nat.le_refl _)))).free
      obtain ⟨_, q0, q1, q2, qf0, qf1, qf2⟩ := HBX.out.keep kW1
      clear kW1 HBX HPX
      have hGV : G2 ≠ W1.heap.size := by omega
      have hOV : O ≠ W1.heap.size := by omega
      have hGV' : W1.heap.size ≠ G2 := by omega
      have hOV' : W1.heap.size ≠ O := by omega
      have hGlt : G2 < W1.heap.size := by omega
      generalize ((eqSt 3 vs i).1 ++ vs.drop i).getD i Vl.zero = vo at u0 u1 u2 u3 u4 u5
      go_upto_region 9 with fail
      have kp : Kept G2 (G2 + 1) W1 ((((((W1.setCell ⟨G2, i * 6, none⟩ (.int .i64 nv.op)).setCell ⟨G2, i * 6 + 1, none⟩ (.int .i64 nv.len)).setCell ⟨G2, i * 6 + 2, none⟩ (.int .i64 nv.a)).setCell ⟨G2, i * 6 + 3, none⟩ (.int .i64 nv.b)).setCell ⟨G2, i * 6 + 4, none⟩ (.int .i64 nv.c)).setCell ⟨G2, i * 6 + 5, none⟩ (.float .f64 nv.k)) := put6_kept _ G2 (i * 6) nv
      have kv := kept_alloc 0 0 ((((((W1.setCell ⟨G2, i * 6, none⟩ (.int .i64 nv.op)).setCell ⟨G2, i * 6 + 1, none⟩ (.int .i64 nv.len)).setCell ⟨G2, i * 6 + 2, none⟩ (.int .i64 nv.a)).setCell ⟨G2, i * 6 + 3, none⟩ (.int .i64 nv.b)).setCell ⟨G2, i * 6 + 4, none⟩ (.int .i64 nv.c)).setCell ⟨G2, i * 6 + 5, none⟩ (.float .f64 nv.k)) (vbox nv.op nv.len nv.a nv.b nv.c nv.k)
      have hsz : (((((((W1.setCell ⟨G2, i * 6, none⟩ (.int .i64 nv.op)).setCell ⟨G2, i * 6 + 1, none⟩ (.int .i64 nv.len)).setCell ⟨G2, i * 6 + 2, none⟩ (.int .i64 nv.a)).setCell ⟨G2, i * 6 + 3, none⟩ (.int .i64 nv.b)).setCell ⟨G2, i * 6 + 4, none⟩ (.int .i64 nv.c)).setCell ⟨G2, i * 6 + 5, none⟩ (.float .f64 nv.k))).heap.size = W1.heap.size := by simp
      have HW7 : Hid (EI (((((((W1.setCell ⟨G2, i * 6, none⟩ (.int .i64 nv.op)).setCell ⟨G2, i * 6 + 1, none⟩ (.int .i64 nv.len)).setCell ⟨G2, i * 6 + 2, none⟩ (.int .i64 nv.a)).setCell ⟨G2, i * 6 + 3, none⟩ (.int .i64 nv.b)).setCell ⟨G2, i * 6 + 4, none⟩ (.int .i64 nv.c)).setCell ⟨G2, i * 6 + 5, none⟩ (.float .f64 nv.k)).alloc (vbox nv.op nv.len nv.a nv.b nv.c nv.k)) w4 O G2 n2 (O + 1) i (.slice a1 n1 d1) (.slice (some ⟨G2, 0, none⟩) n2 d2) (.slice a3 n3 d3) (.slice ev' i cv') (some ⟨G2, 0, none⟩) ((eqSt 3 vs (i + 1)).1 ++ vs.drop (i + 1)) (eqSt 3 vs i).2) := EI.stay (HPT.out W1 HKW.out) kv
      have hXV7 := vbox_atJ ((((((W1.setCell ⟨G2, i * 6, none⟩ (.int .i64 nv.op)).setCell ⟨G2, i * 6 + 1, none⟩ (.int .i64 nv.len)).setCell ⟨G2, i * 6 + 2, none⟩ (.int .i64 nv.a)).setCell ⟨G2, i * 6 + 3, none⟩ (.int .i64 nv.b)).setCell ⟨G2, i * 6 + 4, none⟩ (.int .i64 nv.c)).setCell ⟨G2, i * 6 + 5, none⟩ (.float .f64 nv.k)) nv
      rw [hsz] at hXV7
      have HXV7 : Hid (At (((((((W1.setCell ⟨G2, i * 6, none⟩ (.int .i64 nv.op)).setCell ⟨G2, i * 6 + 1, none⟩ (.int .i64 nv.len)).setCell ⟨G2, i * 6 + 2, none⟩ (.int .i64 nv.a)).setCell ⟨G2, i * 6 + 3, none⟩ (.int .i64 nv.b)).setCell ⟨G2, i * 6 + 4, none⟩ (.int .i64 nv.c)).setCell ⟨G2, i * 6 + 5, none⟩ (.float .f64 nv.k)).alloc (vbox nv.op nv.len nv.a nv.b nv.c nv.k)) W1.heap.size 0 nv) := hXV7
      have HPY7 : Hid (G0 (((((((W1.setCell ⟨G2, i * 6, none⟩ (.int .i64 nv.op)).setCell ⟨G2, i * 6 + 1, none⟩ (.int .i64 nv.len)).setCell ⟨G2, i * 6 + 2, none⟩ (.int .i64 nv.a)).setCell ⟨G2, i * 6 + 3, none⟩ (.int .i64 nv.b)).setCell ⟨G2, i * 6 + 4, none⟩ (.int .i64 nv.c)).setCell ⟨G2, i * 6 + 5, none⟩ (.float .f64 nv.k)).alloc (vbox nv.op nv.len nv.a nv.b nv.c nv.k)) w.heap.size (.slice b1 n1 c1) (.slice (some ⟨g, off, none⟩) n2 c2) (.slice b3 n3 c3)) := (G0.keepT HPY.out kp (by omega)).keep kv
      have HZ7 : Hid (W1.heap.size < ((((((((W1.setCell ⟨G2, i * 6, none⟩ (.int .i64 nv.op)).setCell ⟨G2, i * 6 + 1, none⟩ (.int .i64 nv.len)).setCell ⟨G2, i * 6 + 2, none⟩ (.int .i64 nv.a)).setCell ⟨G2, i * 6 + 3, none⟩ (.int .i64 nv.b)).setCell ⟨G2, i * 6 + 4, none⟩ (.int .i64 nv.c)).setCell ⟨G2, i * 6 + 5, none⟩ (.float .f64 nv.k)).alloc (vbox nv.op nv.len nv.a nv.b nv.c nv.k))).heap.size) := by show _ < _; simp
      clear hXV7 hsz kv
      generalize (((((((W1.setCell ⟨G2, i * 6, none⟩ (.int .i64 nv.op)).setCell ⟨G2, i * 6 + 1, none⟩ (.int .i64 nv.len)).setCell ⟨G2, i * 6 + 2, none⟩ (.int .i64 nv.a)).setCell ⟨G2, i * 6 + 3, none⟩ (.int .i64 nv.b)).setCell ⟨G2, i * 6 + 4, none⟩ (.int .i64 nv.c)).setCell ⟨G2, i * 6 + 5, none⟩ (.float .f64 nv.k)).alloc (vbox nv.op nv.len nv.a nv.b nv.c nv.k)) = W7 at HW7 HXV7 HPY7 HZ7 ⊢
      clear kp u0 u1 u2 u3 u4 u5 ufz q0 q1 q2 qf0 qf1 qf2 HPY HKW HPT HRN HOA HVA
      have HVA7 : Hid _ := (HW7.out.va.va (by omega)).2
      obtain ⟨_, q0, q1, q2, qf0, qf1, qf2⟩ := HW7.out.ob
      obtain ⟨x0, x1, x2, x3, x4, x5⟩ := HXV7.out
      simp only [Nat.zero_add] at x1 x2 x3 x4 x5
      by_cases h6 : nv.op = 6
      · have hb := HOPR.out _ (opsOf_a (v := nv) (by rw [h6]; decide))
        obtain ⟨m, em, hm⟩ : ∃ m : Nat, nv.a = m ∧ m < i := ⟨nv.a.toNat, by omega, by omega⟩
        have e1 : ((eqSt 3 vs (i + 1)).1 ++ vs.drop (i + 1)).getD m Vl.zero = (eqSt 3 vs i).1.getD m Vl.zero := by rw [HEX.out.2]; exact mid3_lt HAL.out.1 hm
        have hmn : m < n2 := by omega
        obtain ⟨s0, s1, s2, s3, s4, s5⟩ := HVA7.out.at_ m hmn
        rw [e1] at s0 s1 s2 s3 s4 s5
        have t6 : (nv.op == 6) = true := by simp [h6]
        cases t2 : (((eqSt 3 vs i).1.getD m Vl.zero).op == 6)
        · have HSS : Hid ((eqSt 3 vs (i + 1)).2 = (eqSt 3 vs i).2 ++ [(i : Int)]) := by
            show _ = _
            rw [HEX.out.1]
            unfold sameAt
            rw [if_neg (by decide : ¬ (3 : Int) = 1), if_pos (rfl : (3 : Int) = 3), if_neg (fun c => by rw [em, Int.toNat_natCast] at c; rw [c.2] at t2; cases t2)]
          generalize (eqSt 3 vs i).1.getD m Vl.zero = u at s0 s1 s2 s3 s4 s5 t2
          rw [em] at x2
          clear h6 em e1
          go_upto_region 19 with fail
          have HKx : Hid (Kept 0 0 W7 W7) := Kept.refl _ _ _
          have HE9 : Hid _ := EI.stay HW7.out HKx.out
          have hbx : O + 1 ≤ W7.heap.size := HE9.out.bz
          have HO7 : Hid _ := HE9.out.own.alloc (.cells #[.int .i64 (i : Int)] 3)
          have HN7 : Hid _ := cell_one_new W7 (.int .i64 (i : Int)) 3
          go_wp2_with (first | (at_builtin; refine wpList_append_lies _ rfl _ _ 22 rfl (O + 1) 3 j0 (.int .i64 0) 1 8 Tryz.underlying22 hjj hy0 hy1 hy2 rfl (by decide) _ _ _ (by rfl) HO7.out ⟨W7.heap.size, 0, none⟩ 1 1 [.int .i64 (i : Int)] (by rfl) rfl HN7.out (by intro u hu; simp at hu; subst hu; rfl) (by decide) (by unfold maxLen; omega) (by omega) (by simp; omega) (W7.heap.size + 1) (by simp) ?_; intro g9 cap9 w9 hown9 hg9 hat9 hlt9))
          have R : Hid _ := EI.next HE9.out (Nat.lt_succ_self _) (.inl (by omega)) hown9 hg9
          rw [← HSS.out] at R
          clear hown9 hg9 hat9 hlt9
          go_roundw
          case rel => exact ⟨i + 1, by omega, by go_num, R⟩
          case measure => simp [intOf]; omega
        · have HSS : Hid ((eqSt 3 vs (i + 1)).2 = (eqSt 3 vs i).2 ++ [((eqSt 3 vs i).1.getD m Vl.zero).a]) := by
            show _ = _
            rw [HEX.out.1]
            unfold sameAt
            rw [if_neg (by decide : ¬ (3 : Int) = 1), if_pos (rfl : (3 : Int) = 3), em, Int.toNat_natCast, if_pos ⟨h6, by simpa using t2⟩]
          generalize (eqSt 3 vs i).1.getD m Vl.zero = u at s0 s1 s2 s3 s4 s5 t2 HSS
          rw [em] at x2
          clear h6 em e1
          go_upto_region 19 with fail
          have HKx : Hid (Kept 0 0 W7 W7) := Kept.refl _ _ _
          have HE9 : Hid _ := EI.stay HW7.out HKx.out
          have hbx : O + 1 ≤ W7.heap.size := HE9.out.bz
          have HO7 : Hid _ := HE9.out.own.alloc (.cells #[.int .i64 u.a] 3)
          have HN7 : Hid _ := cell_one_new W7 (.int .i64 u.a) 3
          go_wp2_with (first | (at_builtin; refine wpList_append_lies _ rfl _ _ 22 rfl (O + 1) 3 j0 (.int .i64 0) 1 8 Tryz.underlying22 hjj hy0 hy1 hy2 rfl (by decide) _ _ _ (by rfl) HO7.out ⟨W7.heap.size, 0, none⟩ 1 1 [.int .i64 u.a] (by rfl) rfl HN7.out (by intro u hu; simp at hu; subst hu; rfl) (by decide) (by unfold maxLen; omega) (by omega) (by simp; omega) (W7.heap.size + 1) (by simp) ?_; intro g9 cap9 w9 hown9 hg9 hat9 hlt9))
          have R : Hid _ := EI.next HE9.out (Nat.lt_succ_self _) (.inl (by omega)) hown9 hg9
          rw [← HSS.out] at R
          clear hown9 hg9 hat9 hlt9
          go_roundw
          case rel => exact ⟨i + 1, by omega, by go_num, R⟩
          case measure => simp [intOf]; omega
      · have HSS : Hid ((eqSt 3 vs (i + 1)).2 = (eqSt 3 vs i).2 ++ [(i : Int)]) := by
          show _ = _
          rw [HEX.out.1]
          unfold sameAt
          rw [if_neg (by decide : ¬ (3 : Int) = 1), if_pos (rfl : (3 : Int) = 3), if_neg (fun c => h6 c.1)]
        have t6 : (nv.op == 6) = false := beq_eq_false_iff_ne.2 h6
        clear h6
        go_upto_region 19 with fail
        have HKx : Hid (Kept 0 0 W7 W7) := Kept.refl _ _ _
        have HE9 : Hid _ := EI.stay HW7.out HKx.out
        have hbx : O + 1 ≤ W7.heap.size := HE9.out.bz
        have HO7 : Hid _ := HE9.out.own.alloc (.cells #[.int .i64 (i : Int)] 3)
        have HN7 : Hid _ := cell_one_new W7 (.int .i64 (i : Int)) 3
        go_wp2_with (first | (at_builtin; refine wpList_append_lies _ rfl _ _ 22 rfl (O + 1) 3 j0 (.int .i64 0) 1 8 Tryz.underlying22 hjj hy0 hy1 hy2 rfl (by decide) _ _ _ (by rfl) HO7.out ⟨W7.heap.size, 0, none⟩ 1 1 [.int .i64 (i : Int)] (by rfl) rfl HN7.out (by intro u hu; simp at hu; subst hu; rfl) (by decide) (by unfold maxLen; omega) (by omega) (by simp; omega) (W7.heap.size + 1) (by simp) ?_; intro g9 cap9 w9 hown9 hg9 hat9 hlt9))
        have R : Hid _ := EI.next HE9.out (Nat.lt_succ_self _) (.inl (by omega)) hown9 hg9
        rw [← HSS.out] at R
        clear hown9 hg9 hat9 hlt9
        go_roundw
        case rel => exact ⟨i + 1, by omega, by go_num, R⟩
        case measure => simp [intOf]; omega
    · obtain rfl : i = n2 := by omega
      have hgb := HGB.out
      have e1 := (HE.out i (Nat.le_refl _)).l2
      have e2 := (HE.out i (Nat.le_refl _)).l1
      obtain ⟨ev', cv', rfl⟩ := own_form hI.out.own
      have HVZ : Hid (VZ wr G2 a2 i (eqSt 3 vs i).1) := by
        have := hI.out.va
        rw [List.drop_of_length_le (by rw [HL.out.1]; omega), List.append_nil] at this
        exact this
      have HIN9 : Hid _ := own_keepC HI4.out hI.out.ch (fun b hb => by have := HIB.out b hb; omega)
      have HOU9 : Hid (IZ wr G3 a3 n3 outs) := by
        rcases Nat.eq_zero_or_pos n3 with h0 | h0
        · exact .inl h0
        · exact IZ.keepC HO4.out hI.out.ch (by have := HG23.out; omega)
      have HR9 : Hid _ := RB.keepC HR4.out hI.out.ch (by omega)
      have HB9 : Hid _ := G0.keepC HB4.out hI.out.ch (by omega)
      have HK9 : Hid (Kept 0 0 w wr) := Chg.kept HK4.out hI.out.ch (fun b hb => by omega)
      have HOB9 : Hid _ := hI.out.ob
      have HQ9 : Hid _ := own_isB hI.out.own e1
      have HKU : Hid _ := eqSt_kb HKB.out 3 i
      have HMM : Hid (eqM 3 vs outs = ((eqSt 3 vs i).1, mapO (eqSt 3 vs i).2 outs)) := by show _ = _; unfold eqM; rw [HL.out.1]
      have HT2 : Hid ((eqSt 3 vs i).2.length = i ∧ (eqSt 3 vs i).1.length = i) := ⟨e1, e2⟩
      clear hI e1 e2
      generalize (eqSt 3 vs i).2 = tq at HQ9 HMM HT2
      generalize (eqSt 3 vs i).1 = us at HVZ HKU HMM HT2
      go_upto_region 21 with fail
      obtain ⟨wE, hwE⟩ : ∃ wE, wE = wr := ⟨_, rfl⟩
      rw [← hwE] at HVZ HIN9 HOU9 HR9 HB9 HK9 HOB9 HQ9
      have HEZ : Hid (wE.heap.size = wr.heap.size ∧ O + 1 ≤ wr.heap.size) := ⟨by rw [hwE], by omega⟩
      go_loopw [11] (fun x W => ∃ k : Nat, k ≤ n3 ∧ x = .int .i64 k ∧ Hid (IZ W G3 a3 n3 ((mapO tq outs).take k ++ outs.drop k)) ∧ Hid (Kept G3 (G3 + 1) wE W)) (fun x _ => n3 - (intOf x).toNat)
      case atStart => exact ⟨0, Nat.zero_le _, rfl, by rw [hwE] at HOU9; simpa using HOU9, by rw [hwE]; exact Kept.refl _ _ _⟩
      case round =>
        obtain ⟨k, hk, rfl, hF, hK⟩ := hrel
        clear HOU9 hwE
        obtain ⟨_, q0, q1, q2, qf0, qf1, qf2⟩ := RB.keepC HOB9.out (hK.out.chg1 (S := fun b => b = G3) rfl) (by omega)
        obtain ⟨_, p0, p1, p2⟩ := G0.keepT HB9.out hK.out (by omega)
        by_cases hlt : k < n3
        · have hob := HOUT.out _ (getD_memJ (xs := outs) (q := k) (by rw [HL.out.2.1]; exact hlt))
          obtain ⟨go, oo, kk, rfl, ek, _, hgo, cO⟩ := (IS.keep (IS.keep HFV.out.2 HK9.out (.inr (.inr (Nat.le_refl _)))) hK.out (.inl (by omega))).at_idx (o := k) (by omega) (by omega)
          obtain rfl : k = kk := by omega
          rw [Int.toNat_natCast] at cO
          obtain ⟨m0, em0, hm0⟩ : ∃ m : Nat, outs.getD k 0 = m ∧ m < i := ⟨(outs.getD k 0).toNat, by omega, by omega⟩
          obtain ⟨gt, ot, kt, rfl, et, hkt, _, cT⟩ := (IS.keep HQ9.out hK.out (.inr (.inl (by omega)))).at_idx (o := (m0 : Int)) (by omega) (by omega)
          obtain rfl : m0 = kt := by omega
          rw [Int.toNat_natCast] at cT
          rw [em0] at cO
          rcases hF.out with z | ⟨rfl, hIO⟩
          · omega
          have c1' := hIO.at_ k hlt
          have fz := hIO.free k
          have R1 : Hid (IZ (wr.setCell ⟨G3, k, none⟩ (.int .i64 (tq.getD m0 0))) G3 (some ⟨G3, 0, none⟩) n3 ((mapO tq outs).take (k + 1) ++ outs.drop (k + 1))) := by
            have := IBk.put hIO k hlt (tq.getD m0 0)
            have e9 := mapO_set (tq := tq) (outs := outs) (k := k) (by rw [HL.out.2.1]; exact hlt)
            rw [em0, Int.toNat_natCast] at e9
            rw [e9] at this
            exact .inr ⟨rfl, this⟩
          have R2 : Hid _ := Kept.trans hK.out (kept_setCell (lo := G3) (hi := G3 + 1) wr ⟨G3, k, none⟩ (.int .i64 (tq.getD m0 0)) (.inl ⟨Nat.le_refl _, Nat.lt_succ_self _⟩))
          generalize tq.getD m0 0 = x at cT R1 R2
          generalize ((mapO tq outs).take k ++ outs.drop k).getD k 0 = zz at c1'
          clear hF hK hIO hob em0
          go_wp2_with fail
          go_region
          all_goals
            go_wp2
            go_roundw
            case rel => exact ⟨k + 1, by omega, by go_num, IZ.keep R1.out (kept_drew _) (.inr (.inr (Nat.le_refl _))), Kept.drew R2.out⟩
            case measure => simp [intOf]; omega
        · obtain rfl : k = n3 := by omega
          obtain ⟨_, s0, s1, s2, v0, v1, v2⟩ := RB.keepC HR9.out (hK.out.chg1 (S := fun b => b = G3) rfl) (by omega)
          have HOF : Hid (IZ wr G3 a3 k (mapO tq outs)) := by
            have := hF.out
            rw [List.take_of_length_le (by rw [mapO_len, HL.out.2.1]; omega), List.drop_of_length_le (by rw [HL.out.2.1]; omega), List.append_nil] at this
            exact this
          have HIF : Hid _ := own_keepR HIN9.out hK.out (fun b hb => by have := HIB.out b hb; omega)
          have HVF : Hid _ := VZ.keep HVZ.out hK.out (by have := HG23.out; omega)
          have HKF : Hid (Kept 0 0 w wr) := HK9.out.new hK.out (by omega)
          clear hF hK
          go_wp2_with fail
          obtain ⟨y0, y1, y2⟩ := put3_0 wr (w.heap.size + 1) _ _ _ s0 s1 s2 (.slice a1 n1 d1) (.slice a2 i d2) (.slice a3 k d3)
          have kp := put3_kept wr (w.heap.size + 1) (.slice a1 n1 d1) (.slice a2 i d2) (.slice a3 k d3)
          refine bodyPost_ret (v := gagg a1 n1 d1 a2 i d2 a3 k d3) (by simp [results, Tryz.results37, go_sem, y0, y1, y2]) rfl ⟨a1, d1, a2, i, d2, a3, d3, us, rfl, ⟨?_, ?_, ?_⟩, ?_, HKF.out.new kp (by omega)⟩
          · exact own_is (own_keepR HIF.out kp (fun b hb => by have := HIB.out b hb; omega)) HL.out.2.2
          · exact VZ.vs (VZ.keep HVF.out kp (by omega)) HT2.out.2 HKU.out
          · rw [HMM.out]
            exact IZ.is (IZ.keep HOF.out kp (by omega)) (by rw [mapO_len]; exact HL.out.2.1)
          · rw [HMM.out]; exact Lk.refl _
end Go.Proofs.YtcphabjekfihnabGreat
