import Derived.Test.YtcphabjekfihnabGreatP34
import Derived.Test.YtcphabjekfihnabGreatP24
import Derived.Deep.AppendLies
namespace Go.Proofs.YtcphabjekfihnabGreat
open Go.RowKit Flt
attribute [local go_sem] alloc_drewN setCell_drewN run_store_float

/-- What the loop of withoutDead holds: the values kept, in a row of their own from base on, and where each went. -/
structure DI (W w4 : World) (T n2 base gk cap : Nat) (S : List Vl × List Int) : Prop where
  tq : IR W T S.2
  tl : S.2.length = n2
  own : W.ownsRow base 59 6 (.slice (some ⟨gk, 0, none⟩) S.1.length cap) S.1.length (flat S.1)
  ch : Chg (fun b => b = T ∨ base ≤ b) w4 W
  bz : base ≤ W.heap.size
theorem dkSt_len (F : List Bool) (vs : List Vl) : ∀ i, (dkSt F vs i).2.length = vs.length ∧ (dkSt F vs i).1.length ≤ i
  | 0 => ⟨by simp [dkSt], Nat.le_refl _⟩
  | i + 1 => by
    obtain ⟨h1, h2⟩ := dkSt_len F vs i
    rw [dkSt]
    split
    · exact ⟨by simp [h1], by simp; omega⟩
    · exact ⟨h1, by omega⟩
theorem DI.stay {W W' w4 : World} {T n2 base gk cap : Nat} {S : List Vl × List Int} (f : DI W w4 T n2 base gk cap S) (k : Kept 0 0 W W') : DI W' w4 T n2 base gk cap S :=
  ⟨f.tq.keep k (.inr (.inr (Nat.le_refl _))), f.tl, own_keepJ f.own k, Chg.trans f.ch k.chg, Nat.le_trans f.bz k.size⟩
theorem DI.next {W W' W7 w9 w4 : World} {T n2 base gk cap i g9 cap9 : Nat} {S : List Vl × List Int} {x : Int} {nv : Vl} {o : Obj} (f : DI W w4 T n2 base gk cap S) (k : Kept 0 0 W W') (k7 : Kept 0 0 (W'.setCell ⟨T, i, none⟩ (.int .i64 x)) W7) (hT : T < base)
    (hown : w9.ownsRow base 59 6 (.slice (some ⟨g9, 0, none⟩) (S.1.length + 1) cap9) (S.1.length + 1) (flat S.1 ++ nv.cells)) (hg : (W7.alloc o).grownBy w9 (some gk)) (hgk : base ≤ gk) : DI w9 w4 T n2 base g9 cap9 (S.1 ++ [nv], S.2.set i x) := by
  have kq := kept_setCell (lo := T) (hi := T + 1) W' ⟨T, i, none⟩ (.int .i64 x) (.inl ⟨Nat.le_refl _, Nat.lt_succ_self _⟩)
  have ka := kept_alloc 0 0 W7 o
  have t1 := (((f.tq.keep k (.inr (.inr (Nat.le_refl _)))).set i x).keep k7 (.inr (.inr (Nat.le_refl _)))).keep ka (.inr (.inr (Nat.le_refl _)))
  have cg : Chg (fun b => b = gk) (W7.alloc o) w9 := ⟨hg.os, hg.tape, hg.output, hg.size, fun q hq hn => hg.block q hq (fun c => hn (Option.some.inj c))⟩
  refine ⟨t1.keepC cg (by omega), by simp [f.tl], ?_, ?_, ?_⟩
  · rw [List.length_append, List.length_singleton, flat_append, flat_one]; exact hown
  · refine Chg.trans f.ch (Chg.trans k.chg (Chg.trans (kq.chg1 (.inl rfl)) (Chg.trans k7.chg (Chg.trans ka.chg (cg.mono fun b _ c => .inr (by omega))))))
  · have h1 := f.bz
    have h2 := k.size
    have h3 := kq.size
    have h4 := k7.size
    have h5 := ka.size
    have h6 := cg.size
    omega
theorem rb_box (w : World) (b0 b1 b2 : Value) : RB (w.alloc (.cells #[b0, b1, b2] 29)) w.heap.size b0 b1 b2 := by
  refine ⟨?_, ?_, ?_, ?_, ?_, ?_, ?_⟩
  all_goals first | (go_simp; done) | (simp; done)
theorem dk_true {F : List Bool} {vs : List Vl} {i : Nat} (h : F.getD i false = true) : dkSt F vs (i + 1) = ((dkSt F vs i).1 ++ [rnm ((dkSt F vs i).2.set i (dkSt F vs i).1.length) (vs.getD i Vl.zero)], (dkSt F vs i).2.set i (dkSt F vs i).1.length) := by
  rw [dkSt, if_pos h]
theorem dk_false {F : List Bool} {vs : List Vl} {i : Nat} (h : F.getD i false = false) : dkSt F vs (i + 1) = dkSt F vs i := by
  rw [dkSt, if_neg (by rw [h]; simp)]

set_option maxRecDepth 100000 in
set_option maxHeartbeats 8000000 in
theorem withoutDead (w : World) (g1 n1 c1 g2 n2 c2 g3 n3 c3 : Nat) (ins : List Int) (vs : List Vl) (outs : List Int) (hP : PG w g1 g2 g3 n1 n2 n3 ins vs outs) (hok : okG ins vs outs = true) (hkb : Kb vs) :
    Calls Tryz.prog 44 #[gagg (some ⟨g1, 0, none⟩) n1 c1 (some ⟨g2, 0, none⟩) n2 c2 (some ⟨g3, 0, none⟩) n3 c3] w fun e w' => PO w g1 n1 c1 g2 g3 n3 c3 ins (deadM vs outs) e w' := by
  obtain ⟨i0, hii, hz0, hz1, hz2⟩ := info_parts infoV
  obtain ⟨⟨hl1, hl2, hl3⟩, _, hv, ho, _⟩ := okG_parts hok
  have hvl : vs.length = n2 := hP.v.len
  have hol : outs.length = n3 := hP.o.len
  have hn2 : n2 ≤ 2000 := by omega
  have hn3 : n3 ≤ 50 := by omega
  have HV : Hid (∀ j, j < n2 → okV ins vs j = true) := fun j hj => hv j (by omega)
  have HOUT : Hid (∀ o ∈ outs, 0 ≤ o ∧ o < n2) := fun o h => by have := ho o h; omega
  have HL : Hid (vs.length = n2) := hvl
  have HKB : Hid _ := hkb
  have k0 := kept_alloc 0 0 w (gbox (some ⟨g1, 0, none⟩) n1 c1 (some ⟨g2, 0, none⟩) n2 c2 (some ⟨g3, 0, none⟩) n3 c3)
  have hB := g0_start w (.slice (some ⟨g1, 0, none⟩) n1 c1) (.slice (some ⟨g2, 0, none⟩) n2 c2) (.slice (some ⟨g3, 0, none⟩) n3 c3)
  have hF := rb_box w (.slice (some ⟨g1, 0, none⟩) n1 c1) (.slice (some ⟨g2, 0, none⟩) n2 c2) (.slice (some ⟨g3, 0, none⟩) n3 c3)
  have hz : (w.alloc (gbox (some ⟨g1, 0, none⟩) n1 c1 (some ⟨g2, 0, none⟩) n2 c2 (some ⟨g3, 0, none⟩) n3 c3)).heap.size = w.heap.size + 1 := by simp
  have k1 := kept_alloc 0 0 (w.alloc (gbox (some ⟨g1, 0, none⟩) n1 c1 (some ⟨g2, 0, none⟩) n2 c2 (some ⟨g3, 0, none⟩) n3 c3)) nbox
  have hR := rb_start (w.alloc (gbox (some ⟨g1, 0, none⟩) n1 c1 (some ⟨g2, 0, none⟩) n2 c2 (some ⟨g3, 0, none⟩) n3 c3))
  rw [hz] at hR
  have HB : Hid _ := hB.keep k1
  have HF : Hid _ := hF.keep k1
  have HR : Hid _ := hR
  have HP : Hid _ := hP.keep (k0.trans k1)
  have HK : Hid _ := k0.trans k1
  have HZ1 : Hid (((w.alloc (gbox (some ⟨g1, 0, none⟩) n1 c1 (some ⟨g2, 0, none⟩) n2 c2 (some ⟨g3, 0, none⟩) n3 c3)).alloc nbox).heap.size = w.heap.size + 1 + 1) := by show _ = _; simp
  have HND : Hid _ := neededVals ((w.alloc (gbox (some ⟨g1, 0, none⟩) n1 c1 (some ⟨g2, 0, none⟩) n2 c2 (some ⟨g3, 0, none⟩) n3 c3)).alloc nbox) (some ⟨g1, 0, none⟩) n1 c1 g2 n2 c2 g3 n3 c3 vs outs (hP.v.keep (k0.trans k1) (.inr (.inr (Nat.le_refl _)))) (hP.o.keep (k0.trans k1) (.inr (.inr (Nat.le_refl _)))) (fun i hi => okV_ops (hv i (by omega))) (fun o h => by have := ho o h; omega) hn2 (by omega)
  have HG : Hid (g1 < w.heap.size ∧ g2 < w.heap.size ∧ g3 < w.heap.size ∧ g1 ≠ g2 ∧ g1 ≠ g3 ∧ g2 ≠ g3) := ⟨hP.i.lt, hP.v.lt, hP.o.lt, hP.d12, hP.d13, hP.d23⟩
  clear hP hok hl1 hl2 hl3 hv ho hvl hol hR hz k0 k1 hkb hB hF
  obtain ⟨_, q0, q1, q2⟩ := HB.out
  go_enter Tryz.func44, Tryz.ntmps44
  go_wp2_with fail
  clear q0 q1 q2
  generalize (w.alloc (gbox (some ⟨g1, 0, none⟩) n1 c1 (some ⟨g2, 0, none⟩) n2 c2 (some ⟨g3, 0, none⟩) n3 c3)).alloc nbox = w1 at HB HF HR HP HK HZ1 HND ⊢
  refine Calls.mono HND.out ?_
  rintro e w2 ⟨G, rfl, hG, hBR, k2⟩
  have hm := make_i n2 w2 (by omega)
  have hT := IR.made w2 n2
  have k3 := kept_alloc 0 0 w2 (.cells (madeCells #[.int .i64 0] n2) 3)
  have hz3 : (w2.alloc (.cells (madeCells #[.int .i64 0] n2) 3)).heap.size = w2.heap.size + 1 := by simp
  have k4 := kept_alloc 0 0 (w2.alloc (.cells (madeCells #[.int .i64 0] n2) 3)) (.cells #[] 59)
  have hOR := World.ownsRow_made (base := w2.heap.size + 1) (e := 59) (size := 6) (w2.alloc (.cells (madeCells #[.int .i64 0] n2) 3)) #[] 0 (by omega) (by unfold maxLen; omega) rfl
  rw [hz3] at hOR
  have HB4 : Hid _ := HB.out.keep (k2.trans (k3.trans k4))
  have HR4 : Hid _ := HR.out.keep (k2.trans (k3.trans k4))
  have HF4 : Hid _ := HF.out.keep (k2.trans (k3.trans k4))
  have HP4 : Hid _ := HP.out.keep (k2.trans (k3.trans k4))
  have HK4 : Hid _ := HK.out.trans (k2.trans (k3.trans k4))
  have HBR : Hid _ := hBR.keep (k3.trans k4) (.inr (.inr (Nat.le_refl _)))
  have HZ4 : Hid (w.heap.size + 1 + 1 ≤ w2.heap.size ∧ G < w2.heap.size ∧ ((w2.alloc (.cells (madeCells #[.int .i64 0] n2) 3)).alloc (.cells #[] 59)).heap.size = w2.heap.size + 1 + 1) := ⟨by have := HZ1.out; have := k2.size; omega, hBR.lt, by simp⟩
  have HDI : Hid (DI ((w2.alloc (.cells (madeCells #[.int .i64 0] n2) 3)).alloc (.cells #[] 59)) ((w2.alloc (.cells (madeCells #[.int .i64 0] n2) 3)).alloc (.cells #[] 59)) w2.heap.size n2 (w2.heap.size + 1) (w2.heap.size + 1) 0 (dkSt (ndI vs outs n2) vs 0)) :=
    ⟨by rw [dkSt, HL.out]; exact hT.keep k4 (.inr (.inr (Nat.le_refl _))), by rw [dkSt, HL.out]; simp, hOR, Chg.refl _ _, by simp⟩
  obtain ⟨_, q0, q1, q2⟩ := HB.out.keep k2
  obtain ⟨_, b0, b1, b2⟩ := HB4.out
  clear HND hBR k2 k3 k4 hOR hT hz3 HB HR HP HK
  go_wp2_with fail
  clear q0 q1 q2 b0 b1 b2 hm hG
  generalize (w2.alloc (.cells (madeCells #[.int .i64 0] n2) 3)).alloc (.cells #[] 59) = w4 at HB4 HF4 HR4 HP4 HK4 HBR HZ4 HDI ⊢
  go_loopw [5, 18] (fun kv x W => ∃ i gk cap : Nat, i ≤ n2 ∧ kv = .slice (some ⟨gk, 0, none⟩) (dkSt (ndI vs outs n2) vs i).1.length cap ∧ x = .int .i64 i ∧ Hid (DI W w4 w2.heap.size n2 (w2.heap.size + 1) gk cap (dkSt (ndI vs outs n2) vs i))) (fun _ x _ => n2 - (intOf x).toNat)
  case atStart => exact ⟨0, w2.heap.size + 1, 0, Nat.zero_le _, rfl, rfl, HDI⟩
  case round =>
    obtain ⟨i, gk, cap, hi, rfl, rfl, hD⟩ := hrel
    clear HDI
    by_cases hlt : i < n2
    · have hz8 : w4.heap.size ≤ wr.heap.size := hD.out.ch.size
      have hz9 := HZ4.out
      have hVA : VA wr g2 n2 vs := HP4.out.v.keepC hD.out.ch (by have := HG.out; omega)
      have hat := hVA.at_ i hlt
      have hops := okV_ops (HV.out i hlt)
      have HAT : Hid _ := hat
      have hbr : BR wr G (ndI vs outs n2) := BR.keepC HBR.out hD.out.ch (by omega)
      have hnl : (ndI vs outs n2).length = n2 := by rw [ndI_len]; exact HL.out
      have cb := hbr.cell i (by omega)
      have hbr2 := BR.keep hbr (kept_alloc 0 0 wr (vbox (vs.getD i Vl.zero).op (vs.getD i Vl.zero).len (vs.getD i Vl.zero).a (vs.getD i Vl.zero).b (vs.getD i Vl.zero).c (vs.getD i Vl.zero).k)) (.inr (.inr (Nat.le_refl _)))
      have cb2 := hbr2.cell i (by omega)
      have hdl := dkSt_len (ndI vs outs n2) vs i
      cases hb : (ndI vs outs n2).getD i false
      · have R : Hid (∀ W, Kept 0 0 wr W → DI W w4 w2.heap.size n2 (w2.heap.size + 1) gk cap (dkSt (ndI vs outs n2) vs (i + 1))) := fun W kW => by rw [dk_false hb]; exact hD.out.stay kW
        have HE : Hid (dkSt (ndI vs outs n2) vs (i + 1) = dkSt (ndI vs outs n2) vs i) := dk_false hb
        rw [hb] at cb cb2
        generalize vs.getD i Vl.zero = v at hat cb2
        obtain ⟨y0, y1, y2, y3, y4, y5⟩ := hat
        clear hb hnl hdl hops hVA hbr hbr2 hD HAT
        go_wp2
        go_roundw
        case rel => exact ⟨i + 1, gk, cap, by omega, by rw [HE.out], by go_num, R.out _ (kept_alloc 0 0 _ _)⟩
        case measure => simp [intOf]; omega
      · rw [hb] at cb cb2
        have HE : Hid _ := dk_true (vs := vs) hb
        generalize hv : vs.getD i Vl.zero = v at hat cb2 HAT HE hops
        generalize hS : dkSt (ndI vs outs n2) vs i = S at hD HE hdl
        have HDD : Hid _ := hD.out
        have hsl : S.1.length ≤ 2000 := by omega
        have HTL : Hid (S.2.length = n2) := hD.out.tl
        have HRN : Hid (∀ W, Kept 0 0 ((wr.alloc (vbox v.op v.len v.a v.b v.c v.k)).setCell ⟨w2.heap.size, i, none⟩ (.int .i64 (S.1.length : Nat))) W → Calls Tryz.prog 66 #[v.agg, .slice (some ⟨w2.heap.size, 0, none⟩) n2 n2] W fun e w' => e = .returned (rnm (S.2.set i (S.1.length : Nat)) v).agg ∧ Kept 0 0 W w') := fun W kW =>
          renum W v _ _ (some ⟨w2.heap.size, 0, none⟩) n2 n2 _ (IR.isAt (IR.keep (IR.set (IR.keep hD.out.tq (kept_alloc 0 0 wr (vbox v.op v.len v.a v.b v.c v.k)) (.inr (.inr (Nat.le_refl _)))) i (S.1.length : Nat)) kW (.inr (.inr (Nat.le_refl _)))) (by rw [List.length_set]; exact hD.out.tl)) (fun o h => by have := hops o h; omega)
        have hIR := IR.keep hD.out.tq (kept_alloc 0 0 wr (vbox v.op v.len v.a v.b v.c v.k)) (.inr (.inr (Nat.le_refl _)))
        have cT := IR.cell hIR i (by rw [HTL.out]; exact hlt)
        have fT := IR.free hIR i
        generalize S.2.getD i 0 = zz at cT
        have HX : Hid (At (wr.alloc (vbox v.op v.len v.a v.b v.c v.k)) wr.heap.size 0 v) := vbox_atJ wr v
        have hTV : w2.heap.size ≠ wr.heap.size := by omega
        have hgb := own_blkV hD.out.own (k := gk) rfl
        have HBZ : Hid (w2.heap.size + 1 ≤ gk ∧ w2.heap.size + 1 ≤ wr.heap.size) := ⟨hgb.1, hD.out.bz⟩
        generalize rnm (S.2.set i (S.1.length : Nat)) v = nv at HE HRN
        have hkq := kept_setCell (lo := w2.heap.size) (hi := w2.heap.size + 1) (wr.alloc (vbox v.op v.len v.a v.b v.c v.k)) ⟨w2.heap.size, i, none⟩ (.int .i64 (S.1.length : Nat)) (.inl ⟨Nat.le_refl _, Nat.lt_succ_self _⟩)
        obtain ⟨x0, x1, x2, x3, x4, x5⟩ := At.keep HX.out (by simp) hkq (by omega)
        obtain ⟨z0, z1, z2, z3, z4, z5⟩ := HX.out
        simp only [Nat.zero_add] at x1 x2 x3 x4 x5 z1 z2 z3 z4 z5
        obtain ⟨y0, y1, y2, y3, y4, y5⟩ := hat
        have HOWN : Hid _ := (hD.out.own)
        clear hb hnl hdl hops hVA hbr hbr2 hIR hgb hv HAT hkq
        go_wp2_with fail
        refine Calls.mono (HRN.out _ (Kept.refl _ _ _)) ?_
        rintro e w7 ⟨rfl, k7⟩
        have HO7 : Hid _ := (own_keepJ (own_setCell (o := i) (u := .int .i64 (S.1.length : Nat)) (HDD.out.own.alloc (vbox v.op v.len v.a v.b v.c v.k)) (P := w2.heap.size) (fun c => by have := HBZ.out; simp [Value.ownBlock] at c; omega)) k7).alloc (.cells #[.int .i64 nv.op, .int .i64 nv.len, .int .i64 nv.a, .int .i64 nv.b, .int .i64 nv.c, .float .f64 nv.k] 59)
        have HN7 : Hid _ := news6 w7 nv 0
        have hz7 : w2.heap.size + 1 ≤ w7.heap.size := by have h1 := k7.size; have h2 := HBZ.out; simp at h1; omega
        have HK7 : Hid _ := k7
        clear x0 x1 x2 x3 x4 x5 y0 y1 y2 y3 y4 y5 z0 z1 z2 z3 z4 z5 cT fT cb cb2 k7
        go_wp2_with (first | (at_builtin; refine wpList_append_lies _ rfl _ _ 27 rfl (w2.heap.size + 1) 59 i0 (vagg 0 0 0 0 0 0) 6 48 Tryz.underlying27 hii hz0 hz1 hz2 rfl (by decide) _ _ _ (by rfl) HO7.out ⟨w7.heap.size, 0, none⟩ 1 1 nv.cells (by rfl) rfl HN7.out (one6 nv) (by decide) (by unfold maxLen; omega) (by omega) (by simp; omega) (w7.heap.size + 1) (by simp) ?_; intro g9 cap9 w9 hown9 hg9 hat9 hlt9))
        have R : Hid _ := DI.next HDD.out (kept_alloc 0 0 wr (vbox v.op v.len v.a v.b v.c v.k)) HK7.out (Nat.lt_succ_self _) hown9 hg9 HBZ.out.1
        clear hown9 hg9 hat9 hlt9
        go_roundw
        case rel => exact ⟨i + 1, g9, cap9, by omega, by rw [HE.out]; simp, by go_num, by rw [HE.out]; exact R⟩
        case measure => simp [intOf]; omega
    · obtain rfl : i = n2 := by omega
      have hz8 : w4.heap.size ≤ wr.heap.size := hD.out.ch.size
      have hz9 := HZ4.out
      have hdl := dkSt_len (ndI vs outs i) vs i
      obtain ⟨hVA, hgk⟩ := own_va hD.out.own rfl
      have HA9 : Hid _ := hVA
      have HQ9 : Hid (IS wr w2.heap.size (w2.heap.size + 1) (some ⟨w2.heap.size, 0, none⟩) i (dkSt (ndI vs outs i) vs i).2) := IR.isAt hD.out.tq hD.out.tl
      have HB9 : Hid _ := G0.keepC HB4.out hD.out.ch (by omega)
      have HR9 : Hid _ := RB.keepC HR4.out hD.out.ch (by omega)
      have HF9 : Hid _ := RB.keepC HF4.out hD.out.ch (by omega)
      have HI9 : Hid _ := IBk.keepC HP4.out.i hD.out.ch (by have := HG.out; omega)
      have HO9 : Hid _ := IBk.keepC HP4.out.o hD.out.ch (by have := HG.out; omega)
      have HRO : Hid _ := renumberOuts wr (some ⟨g1, 0, none⟩) (some ⟨g2, 0, none⟩) n1 c1 i c2 g3 n3 c3 _ _ _ i i (dkSt (ndI vs outs i) vs i).2 outs HO9.out HQ9.out (by have := HG.out; omega) HOUT.out (by omega)
      have HK9 : Hid (Chg (fun b => b = g2 ∨ b = g3) w wr) := Chg.new HK4.out.chg hD.out.ch (fun b hb c => by omega)
      have HGK : Hid (w2.heap.size + 1 ≤ gk) := hgk
      have HM : Hid (deadM vs outs = ((dkSt (ndI vs outs i) vs i).1, mapO (dkSt (ndI vs outs i) vs i).2 outs)) := by show _ = _; unfold deadM; rw [HL.out]
      have HKK : Hid _ := dkSt_kb HKB.out (ndI vs outs i) i
      clear hD hVA hgk
      obtain ⟨_, p0, p1, p2⟩ := HB9.out
      go_wp2_with fail
      clear p0 p1 p2
      refine Calls.mono HRO.out ?_
      rintro e w5 ⟨rfl, hO2, k2⟩
      generalize hSS : dkSt (ndI vs outs i) vs i = S at HA9 HQ9 HM HKK hO2 hdl ⊢
      have HB2 : Hid _ := G0.keepT HB9.out k2 (by have := HG.out; omega)
      have HA2 : Hid _ := HA9.out.keep k2 (by have := HG.out; have := HGK.out; omega)
      have HI2 : Hid _ := HI9.out.keep k2 (by have := HG.out; omega)
      have HO2 : Hid _ := hO2
      have HK2 : Hid (Chg (fun b => b = g2 ∨ b = g3) w w5) := Chg.trans HK9.out (k2.chg1 (.inr rfl))
      have HR2 : Hid _ := RB.keepC HR9.out (k2.chg1 (S := fun b => b = g3) rfl) (by have := HG.out; omega)
      have HF2 : Hid _ := RB.keepC HF9.out (k2.chg1 (S := fun b => b = g3) rfl) (by have := HG.out; omega)
      clear hO2 HRO HB9 HA9 HQ9 HI9 HO9 HK9 hSS
      obtain ⟨_, p0, p1, p2, v0, v1, v2⟩ := HF2.out
      obtain ⟨_, r0, r1, r2, f0, f1, f2⟩ := HR2.out
      have hPR : w.heap.size + 1 ≠ w.heap.size := by omega
      go_wp2_with fail
      have kb := kept_setCell (lo := w.heap.size) (hi := w.heap.size + 1) w5 ⟨w.heap.size, 1, none⟩ (.slice (some ⟨gk, 0, none⟩) S.1.length cap) (.inl ⟨Nat.le_refl _, Nat.lt_succ_self _⟩)
      have HRQ := RB.keepC HR2.out (kb.chg1 (S := fun b => b = w.heap.size) rfl) (by omega)
      obtain ⟨y0, y1, y2⟩ := put3_0 (w5.setCell ⟨w.heap.size, 1, none⟩ (.slice (some ⟨gk, 0, none⟩) S.1.length cap)) (w.heap.size + 1) _ _ _ HRQ.q0 HRQ.q1 HRQ.q2 (.slice (some ⟨g1, 0, none⟩) n1 c1) (.slice (some ⟨gk, 0, none⟩) S.1.length cap) (.slice (some ⟨g3, 0, none⟩) n3 c3)
      have kp := put3_kept (w5.setCell ⟨w.heap.size, 1, none⟩ (.slice (some ⟨gk, 0, none⟩) S.1.length cap)) (w.heap.size + 1) (.slice (some ⟨g1, 0, none⟩) n1 c1) (.slice (some ⟨gk, 0, none⟩) S.1.length cap) (.slice (some ⟨g3, 0, none⟩) n3 c3)
      refine bodyPost_ret (v := gagg (some ⟨g1, 0, none⟩) n1 c1 (some ⟨gk, 0, none⟩) S.1.length cap (some ⟨g3, 0, none⟩) n3 c3) (by simp [results, Tryz.results44, go_sem, y0, y1, y2]) rfl ⟨gk, S.1.length, cap, S.1, rfl, ⟨?_, ?_, ?_, ?_, ?_, ?_⟩, ?_, HKK.out, ?_, .inr (by have := HGK.out; omega)⟩
      · exact (HI2.out.keep kb (by have := HG.out; omega)).keep kp (by have := HG.out; omega)
      · exact (HA2.out.keep kb (by have := HGK.out; omega)).keep kp (by have := HGK.out; omega)
      · rw [HM.out]; exact (HO2.out.keep kb (by have := HG.out; omega)).keep kp (by have := HG.out; omega)
      · have := HG.out; have := HGK.out; omega
      · exact HG.out.2.2.2.2.1
      · have := HG.out; have := HGK.out; omega
      · rw [HM.out]; exact Lk.refl _
      · exact Chg.new (Chg.new HK2.out (kb.chg1 (S := fun b => b = w.heap.size) rfl) (fun b hb c => by omega)) (kp.chg1 (S := fun b => b = w.heap.size + 1) rfl) (fun b hb c => by omega)
end Go.Proofs.YtcphabjekfihnabGreat
