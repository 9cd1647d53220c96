import Derived.Test.YtcphabjekfihnaaJ21
namespace Go.Proofs.Ytcphabjekfihnaa
open Go.RowKit Flt
attribute [local go_sem] alloc_drewN setCell_drewN run_store_float

/-- What l2jvp answers. -/
def LOut (w w' : World) (n1 n3 : Nat) (ins outs : List Int) (M : List Vl × Int) (e : Ending) : Prop :=
  ∃ b1 d1 b3 d3 a2 cap, e = .returned (.tuple #[gagg b1 n1 d1 a2 M.1.length cap b3 n3 d3, .int .i64 M.2]) ∧ w'.ownsRow w.heap.size 3 1 (.slice b1 n1 d1) n1 (ins.map (Value.int .i64)) ∧ w'.ownsRow w.heap.size 40 6 (.slice a2 M.1.length cap) M.1.length (flat M.1) ∧ w'.ownsRow w.heap.size 3 1 (.slice b3 n3 d3) n3 (outs.map (Value.int .i64))

set_option maxRecDepth 100000 in
set_option maxHeartbeats 8000000 in
theorem l2jvp (w : World) (_lo g1 g2 g3 n1 c1 n2 c2 n3 c3 : Nat) (s x t : Nat) (ins : List Int) (vs : List Vl) (outs : List Int) (f : GN w g1 g2 g3 n2 ins vs outs) (e1 : ins.length = n1) (e3 : outs.length = n3) (l1 : n1 ≤ 1000000) (l2 : n2 ≤ 2000) (l3 : n3 ≤ 1000000) (hok : (List.range n2).all (okV ins vs) = true) (hc5 : cellsV vs ≤ 50000) (hs : s < n2) (hx : x < n2) :
    Calls Try.prog 115 #[gagg (some ⟨g1, 0, none⟩) n1 c1 (some ⟨g2, 0, none⟩) n2 c2 (some ⟨g3, 0, none⟩) n3 c3, .int .i64 (s : Int), .int .i64 (x : Int), .int .i64 (t : Int)] w fun e w' => LOut w w' n1 n3 ins outs (jfin vs s x t) e ∧ Kept 0 0 w w' := by
  have kn : Kept 0 0 w ((w.alloc (gbox (some ⟨g1, 0, none⟩) n1 c1 (some ⟨g2, 0, none⟩) n2 c2 (some ⟨g3, 0, none⟩) n3 c3)).alloc nbox) := (kept_alloc 0 0 w _).trans (kept_alloc 0 0 _ _)
  have HB : Hid _ := (g0_start w (.slice (some ⟨g1, 0, none⟩) n1 c1) (.slice (some ⟨g2, 0, none⟩) n2 c2) (.slice (some ⟨g3, 0, none⟩) n3 c3)).keep (kept_alloc 0 0 _ nbox)
  have HFZ : Hid (∀ o, ((w.alloc (gbox (some ⟨g1, 0, none⟩) n1 c1 (some ⟨g2, 0, none⟩) n2 c2 (some ⟨g3, 0, none⟩) n3 c3)).alloc nbox).frozen? ⟨w.heap.size, o, none⟩ = false) := fun o => by simp
  have hN := rb_start (w.alloc (gbox (some ⟨g1, 0, none⟩) n1 c1 (some ⟨g2, 0, none⟩) n2 c2 (some ⟨g3, 0, none⟩) n3 c3))
  rw [show (w.alloc (gbox (some ⟨g1, 0, none⟩) n1 c1 (some ⟨g2, 0, none⟩) n2 c2 (some ⟨g3, 0, none⟩) n3 c3)).heap.size = w.heap.size + 1 by simp] at hN
  have HR : Hid _ := hN
  have HX : Hid _ := l2copy _ _lo g1 g2 g3 n1 c1 n2 c2 n3 c3 ins vs outs (GN.keepJ f kn) e1 e3 l1 (by omega) l3
  have HLN : Hid (vs.length = n2) := f.v.len
  have HOK : Hid _ := hok
  have HC5 : Hid _ := hc5
  clear hN kn f hok hc5
  go_enter Try.func115, Try.ntmps115
  go_wp2_with fail
  refine Calls.mono HX.out ?_
  rintro e w1 ⟨b1, d1, a2, d2, b3, d3, rfl, o1, o2, o3, ⟨q1, q2, q3⟩, k3⟩
  have HST : Hid _ := LJ.start HLN.out HB.out HFZ.out HR.out k3 o1 o2 o3 q1 q2 q3
  obtain ⟨_, p0, p1, p2⟩ := HB.out.keep k3
  have f0 := (k3.frozen (p := ⟨w.heap.size, 0, none⟩) HB.out.sz (by omega)).trans (HFZ.out 0)
  have f1 := (k3.frozen (p := ⟨w.heap.size, 1, none⟩) HB.out.sz (by omega)).trans (HFZ.out 1)
  have f2 := (k3.frozen (p := ⟨w.heap.size, 2, none⟩) HB.out.sz (by omega)).trans (HFZ.out 2)
  obtain ⟨y0, y1, y2⟩ := put3_0 w1 w.heap.size _ _ _ p0 p1 p2 (.slice b1 n1 d1) (.slice a2 n2 d2) (.slice b3 n3 d3)
  obtain ⟨gr, cr, er, hgb, hgr, _, hA⟩ := row_at o2 (by omega) HLN.out
  injection er with er1 er2 er3
  subst er1
  have hcs : (Put3 w1 w.heap.size (.slice b1 n1 d1) (.slice (some ⟨gr, 0, none⟩) n2 d2) (.slice b3 n3 d3)).cell? ⟨gr, s * 6 + 1, none⟩ = some (.int .i64 (vs.getD s Vl.zero).len) := (cell3 _ _ _ _ _ _ _ (by simp at hgb; omega)).trans (hA.at_ s hs).c1
  clear o1 o2 o3 q1 q2 q3 HX HB HFZ HR hA er2 er3 hgr k3
  go_upto_region 2 with fail
  clear p0 p1 p2 f0 f1 f2
  unfold Put3 at HST hcs
  generalize ((w1.setCell ⟨w.heap.size, 0, none⟩ (.slice b1 n1 d1)).setCell ⟨w.heap.size, 1, none⟩ (.slice (some ⟨gr, 0, none⟩) n2 d2)).setCell ⟨w.heap.size, 2, none⟩ (.slice b3 n3 d3) = wP at HST hcs y0 y1 y2 ⊢
  have hm := make_i n2 wP (by omega)
  have HJ0 : Hid _ := HST.out _ (IR.made wP n2) (kept_alloc 0 0 wP _)
  generalize hln : (vs.getD s Vl.zero).len = ln at hcs
  have HLS : Hid ((vs.getD s Vl.zero).len = ln) := hln
  generalize hbs : ((w.alloc (gbox (some ⟨g1, 0, none⟩) n1 c1 (some ⟨g2, 0, none⟩) n2 c2 (some ⟨g3, 0, none⟩) n3 c3)).alloc nbox).heap.size = base at HJ0
  clear hln hbs HST hgb
  generalize wP.alloc (.cells (madeCells #[.int .i64 0] n2) 3) = w2 at hm HJ0
  have j0 : (0 : Int) ≤ (s : Int) := by omega
  have j1 : (s : Int) < (n2 : Int) := by omega
  go_wp2_with fail
  clear hm hcs y0 y1 y2
  generalize wP.heap.size = Mb at HJ0 ⊢
  go_loopw [12] (fun v W => ∃ k : Nat, k ≤ n2 ∧ v = .int .i64 (k : Int) ∧ Hid (LJ w W Mb b1 n1 d1 b3 n3 d3 ins outs vs (fillN k n2) base (Value.slice (some ⟨gr, 0, none⟩) n2 d2).ownBlock (some ⟨gr, 0, none⟩) d2)) (fun v _ => n2 - (intOf v).toNat)
  case atStart => exact ⟨0, Nat.zero_le _, rfl, by unfold fillN; exact HJ0⟩
  case round =>
    obtain ⟨k, hk, rfl, hJ⟩ := hrel
    clear HJ0
    by_cases hlt : k < n2
    · have c1 := hJ.out.m.cell k (by rw [fillN_len k n2 hk]; exact hlt)
      have c2 := hJ.out.m.free k
      have R1 : Hid (LJ w (wr.setCell ⟨Mb, k, none⟩ (.int .i64 (-1))) Mb b1 n1 d1 b3 n3 d3 ins outs vs (fillN (k + 1) n2) base (Value.slice (some ⟨gr, 0, none⟩) n2 d2).ownBlock (some ⟨gr, 0, none⟩) d2) := by
        have := hJ.out.set k (-1)
        rw [fillN_set hlt] at this
        exact this
      clear hJ
      generalize (fillN k n2).getD k 0 = z at c1
      go_wp2
      go_roundw
      case rel => exact ⟨k + 1, by omega, by go_num, R1⟩
      case measure => simp [intOf]; omega
    · obtain rfl : k = n2 := by omega
      have hJ2 := hJ.out
      rw [fillN_all] at hJ2
      have cM := hJ2.m.cell x (by simp; omega)
      have fM := hJ2.m.free x
      have HJ1 : Hid (∃ R a2 cap, LJ w (wr.setCell ⟨Mb, x, none⟩ (.int .i64 (t : Int))) Mb b1 n1 d1 b3 n3 d3 ins outs (jst vs x t 0).1 (jst vs x t 0).2 base R a2 cap) := ⟨_, _, _, by
        have := hJ2.set x (t : Int)
        unfold jst
        rw [HLN.out]
        exact this⟩
      clear hJ hJ2
      generalize (List.replicate k (-1 : Int)).getD x 0 = z at cM
      have j2 : (0 : Int) ≤ (x : Int) := by omega
      have j3 : (x : Int) < (k : Int) := by omega
      go_wp2_with fail
      clear cM fM
      go_loopw [13] (fun v W => ∃ j : Nat, j ≤ s - x ∧ v = .int .i64 ((x + 1 + j : Nat) : Int) ∧ Hid (∃ R a2 cap, LJ w W Mb b1 n1 d1 b3 n3 d3 ins outs (jst vs x t j).1 (jst vs x t j).2 base R a2 cap)) (fun v _ => s + 1 - (intOf v).toNat)
      case atStart => exact ⟨0, Nat.zero_le _, by simp, HJ1⟩
      case round =>
        obtain ⟨j, hj, rfl, hJ⟩ := hrel
        clear HJ1
        obtain ⟨R, a2, cap, hJ⟩ := hJ.out
        have hpre : vs.length ≤ (jst vs x t j).1.length := by
          obtain ⟨r, h⟩ := jst_pre vs x t j
          rw [h, List.length_append]
          omega
        obtain ⟨gv, rfl, rfl, hgv, hA⟩ := hJ.read (by have := HLN.out; omega)
        by_cases hlt : j < s - x
        · have hin : x + 1 + j < k := by omega
          have hat := hA (x + 1 + j) (by have := HLN.out; omega)
          rw [jst_get vs x t j (by have := HLN.out; omega)] at hat
          have okv := List.all_eq_true.1 HOK.out (x + 1 + j) (List.mem_range.2 hin)
          have hopr := okV_op okv
          have HOP : Hid _ := ok_opsJ okv
          have HNX : Hid (anyM (vs.getD (x + 1 + j) Vl.zero) (jst vs x t j).2 (cnt (vs.getD (x + 1 + j) Vl.zero).op) = false → jst vs x t (j + 1) = jst vs x t j) := fun h => jst_none vs x t j (by have := HLN.out; omega) (anyM_false h (jst_ge vs x t j))
          have HGE : Hid _ := jst_ge vs x t j
          have HJS : Hid (jst vs x t (j + 1) = ((jst vs x t j).1 ++ (jmv vs (x + 1 + j) (jst vs x t j)).1, (jst vs x t j).2.set (x + 1 + j) (jmv vs (x + 1 + j) (jst vs x t j)).2)) := rfl
          have HJM : Hid (jmv vs (x + 1 + j) (jst vs x t j) = mvM ((x + 1 + j : Nat) : Int) (vs.getD (x + 1 + j) Vl.zero) (ovs (vs.getD (x + 1 + j) Vl.zero) (jst vs x t j).2 (cnt (vs.getD (x + 1 + j) Vl.zero).op) 0) (ovs (vs.getD (x + 1 + j) Vl.zero) (jst vs x t j).2 (cnt (vs.getD (x + 1 + j) Vl.zero).op) 1) (ovs (vs.getD (x + 1 + j) Vl.zero) (jst vs x t j).2 (cnt (vs.getD (x + 1 + j) Vl.zero).op) 2) (jst vs x t j).1.length) := rfl
          have hl : ∀ q, q < vs.length → 1 ≤ (vs.getD q Vl.zero).len ∧ (vs.getD q Vl.zero).len ≤ 1000 := fun q hq => okV_len (List.all_eq_true.1 HOK.out q (List.mem_range.2 (by have := HLN.out; omega)))
          obtain ⟨z1, _, _⟩ := jst_size vs x t hl (cells_pos vs (fun q hq => by have := hl q hq; omega)) HC5.out j (by have := HLN.out; omega)
          have HSZ : Hid ((jst vs x t j).1.length ≤ 800000 ∧ k ≤ (jst vs x t j).1.length ∧ (jst vs x t j).2.length = k) := ⟨by have := HLN.out; omega, by have := HLN.out; omega, by rw [jst_len]; exact HLN.out⟩
          have HJF : Hid _ := hJ.keep (kept_alloc 0 0 wr (.cells #[.int .i64 (-1), .int .i64 (-1), .int .i64 (-1)] 3))
          have HOT : Hid _ := hJ.oth (B := wr.heap.size) (Nat.le_refl _)
          have HIF : Hid (IR (wr.alloc (.cells #[.int .i64 (-1), .int .i64 (-1), .int .i64 (-1)] 3)) wr.heap.size [ovs (vs.getD (x + 1 + j) Vl.zero) (jst vs x t j).2 0 0, ovs (vs.getD (x + 1 + j) Vl.zero) (jst vs x t j).2 0 1, ovs (vs.getD (x + 1 + j) Vl.zero) (jst vs x t j).2 0 2]) := ir3 wr (-1) (-1) (-1)
          have hle : ((x + 1 + j : Nat) : Int) ≤ (s : Int) := by omega
          have hsx : x + 1 + j ≤ s := by omega
          clear hA hJ hpre hl z1 okv hat hgv
          generalize hvv : vs.getD (x + 1 + j) Vl.zero = v at hopr HOP HNX HJM HIF
          have HVV : Hid (vs.getD (x + 1 + j) Vl.zero = v) := hvv
          clear hvv
          generalize hmv : (jst vs x t j).2 = mv at HNX HGE HJS HJM HSZ HJF HIF
          generalize hvs : (jst vs x t j).1 = us at HJS HJM HSZ HJF
          have HJV : Hid ((jst vs x t j).1 = us ∧ (jst vs x t j).2 = mv) := ⟨hvs, hmv⟩
          clear hmv hvs
          generalize hi : x + 1 + j = i at HOP HVV HNX HJS HJM hle hin hsx
          have HI : Hid (x + 1 + j = i) := hi
          clear hi
          go_wp2_with fail
          generalize wr.alloc (.cells #[.int .i64 (-1), .int .i64 (-1), .int .i64 (-1)] 3) = wF at HJF HIF ⊢
          generalize wr.heap.size = F at HIF HOT ⊢
          have hud : us.getD i Vl.zero = v := by
            rw [← HJV.out.1, ← HI.out, jst_get vs x t j (by have := HI.out; have := HLN.out; omega), HI.out]
            exact HVV.out
          have HUD : Hid _ := hud
          have hil : i < us.length := by have := HSZ.out; omega
          have hcn := cnt_le v.op
          clear hud
          go_loopw [15, 16] (fun sv kv W => ∃ q : Nat, q ≤ cnt v.op ∧ sv = .bool (anyM v mv q) ∧ kv = .int .i64 (q : Int) ∧ Hid (IR W F [ovs v mv q 0, ovs v mv q 1, ovs v mv q 2]) ∧ Hid (LJ w W Mb b1 n1 d1 b3 n3 d3 ins outs us mv base (some gv) (some ⟨gv, 0, none⟩) cap)) (fun _ kv _ => 3 - (intOf kv).toNat)
          case atStart => exact ⟨0, Nat.zero_le _, rfl, rfl, HIF, HJF⟩
          case round =>
            obtain ⟨q, hq, rfl, rfl, hI, hL⟩ := hrel
            clear HJF HIF
            obtain ⟨g0, e0, _, hgv, hA⟩ := hL.out.read (by omega)
            cases e0
            have hat := hA i hil
            rw [HUD.out] at hat
            obtain ⟨y0, y1, y2, y3, y4, y5⟩ := hat
            have s1 := hL.out.g.c1
            have i0 : (0 : Int) ≤ (i : Int) := by omega
            have i1 : (i : Int) < (us.length : Int) := by omega
            have HO : Hid _ := l1operands v.op wr hopr.1 hopr.2
            rw [ops0 hopr.1 hopr.2] at HO
            clear hA hgv
            by_cases hl3 : q < cnt v.op
            · obtain ⟨fa, fb'⟩ := HOP.out q hl3
              obtain ⟨fq, hfq⟩ := Int.eq_ofNat_of_zero_le fa
              have HFL : Hid _ := l1field wr v q (by omega)
              rw [hfq] at HFL
              have hfk : fq < k := by omega
              have HAM : Hid (anyM v mv (q + 1) = (anyM v mv q || decide (0 ≤ mv.getD fq 0))) := by
                have := anyM_succ v mv q
                rw [hfq, Int.toNat_natCast] at this
                exact this
              have HSET : Hid (([ovs v mv q 0, ovs v mv q 1, ovs v mv q 2] : List Int).set q (mv.getD fq 0) = [ovs v mv (q + 1) 0, ovs v mv (q + 1) 1, ovs v mv (q + 1) 2]) := by
                have := ovs3_set v mv q (by omega)
                rw [hfq, Int.toNat_natCast] at this
                exact this
              have tq : (q : Int) < (cnt v.op : Int) := by omega
              clear fa fb' hfq
              go_wp2_with fail
              refine Calls.mono HO.out ?_
              rintro e w' ⟨rfl, rfl⟩
              clear HO
              go_wp2_with fail
              refine Calls.mono HFL.out ?_
              rintro e w4 ⟨rfl, k4⟩
              have hL4 := hL.out.keep k4
              have hI4 := IR.keep hI.out k4 (.inr (.inr (Nat.le_refl _)))
              have cm := hL4.m.cell fq (by have := HSZ.out; omega)
              have cf := hI4.cell q (by simp; omega)
              have ff := hI4.free q
              have R1 : Hid (IR (w4.setCell ⟨F, q, none⟩ (.int .i64 (mv.getD fq 0))) F [ovs v mv (q + 1) 0, ovs v mv (q + 1) 1, ovs v mv (q + 1) 2]) := by
                have := hI4.set q (mv.getD fq 0)
                rw [HSET.out] at this
                exact this
              have R2 : Hid _ := hL4.other HOT.out q (.int .i64 (mv.getD fq 0))
              clear hL4 hI4 hL hI HFL k4 y0 y1 y2 y3 y4 y5 s1 HSET
              generalize mv.getD fq 0 = y at cm R1 R2 HAM
              generalize ([ovs v mv q 0, ovs v mv q 1, ovs v mv q 2] : List Int).getD q 0 = z at cf
              have f0 : (0 : Int) ≤ (fq : Int) := by omega
              have f1 : (fq : Int) < (k : Int) := by omega
              have q0 : (0 : Int) ≤ (q : Int) := by omega
              have q3 : (q : Int) < 3 := by omega
              cases ham : anyM v mv q
              · rw [ham] at HAM
                go_wp2
                go_roundw
                case rel => exact ⟨q + 1, by omega, by rw [HAM.out]; rfl, by go_num, R1, R2⟩
                case measure => simp [intOf]; omega
              · rw [ham] at HAM
                go_wp2
                go_roundw
                case rel => exact ⟨q + 1, by omega, by rw [HAM.out]; rfl, by go_num, R1, R2⟩
                case measure => simp [intOf]; omega
            · obtain rfl : q = cnt v.op := by omega
              have tq : ¬ ((cnt v.op : Int) < (cnt v.op : Int)) := by omega
              cases ham : anyM v mv (cnt v.op)
              · have R1 : Hid (∃ R a2 cap, LJ w wr Mb b1 n1 d1 b3 n3 d3 ins outs (jst vs x t (j + 1)).1 (jst vs x t (j + 1)).2 base R a2 cap) := ⟨_, _, _, by
                  rw [HNX.out ham, HJV.out.1, HJV.out.2]
                  exact hL.out⟩
                go_wp2_with fail
                refine Calls.mono HO.out ?_
                rintro e w' ⟨rfl, rfl⟩
                clear HO
                go_wp2
                go_roundw
                case rel => exact ⟨j + 1, by omega, by have := HI.out; go_num, R1⟩
                case measure => simp [intOf]; omega
              · have s0 := hL.out.g.c0
                have s2 := hL.out.g.c2
                have c0 := hI.out.cell 0 (by simp)
                have c1 := hI.out.cell 1 (by simp)
                have c2 := hI.out.cell 2 (by simp)
                rw [show ([ovs v mv (cnt v.op) 0, ovs v mv (cnt v.op) 1, ovs v mv (cnt v.op) 2] : List Int).getD 0 0 = ovs v mv (cnt v.op) 0 from rfl] at c0
                rw [show ([ovs v mv (cnt v.op) 0, ovs v mv (cnt v.op) 1, ovs v mv (cnt v.op) 2] : List Int).getD 1 0 = ovs v mv (cnt v.op) 1 from rfl] at c1
                rw [show ([ovs v mv (cnt v.op) 0, ovs v mv (cnt v.op) 1, ovs v mv (cnt v.op) 2] : List Int).getD 2 0 = ovs v mv (cnt v.op) 2 from rfl] at c2
                have hsome := anyM_true ham
                have g0 : ∀ n, -1 ≤ ovs v mv (cnt v.op) n := fun n => ovs_ge HGE.out
                have hat : At wr gv (i * 6) v := ⟨y0, y1, y2, y3, y4, y5⟩
                have HMV : Hid (∀ W1, Kept 0 0 wr W1 → Calls Try.prog 152 #[gagg b1 n1 d1 (some ⟨gv, 0, none⟩) us.length cap b3 n3 d3, .int .i64 (i : Int), .int .i64 (ovs v mv (cnt v.op) 0), .int .i64 (ovs v mv (cnt v.op) 1), .int .i64 (ovs v mv (cnt v.op) 2)] W1 fun e w5 => ∃ (us2 : List Vl) (r : Int) (a5 : Option Addr) (cap5 : Nat) (R5 : Option Nat), e = .returned (.tuple #[gagg b1 n1 d1 a5 us2.length cap5 b3 n3 d3, .int .i64 r]) ∧ (∀ B o, B < W1.heap.size → B ≠ gv → w5.cell? ⟨B, o, none⟩ = W1.cell? ⟨B, o, none⟩) ∧ (∀ B o, B < W1.heap.size → B ≠ gv → w5.frozen? ⟨B, o, none⟩ = W1.frozen? ⟨B, o, none⟩) ∧ W1.heap.size ≤ w5.heap.size ∧ Hid (us2 = us ++ (jmv vs i (jst vs x t j)).1 ∧ r = (jmv vs i (jst vs x t j)).2) ∧
                    Hid (∀ (l h' : Nat) (w6 : World), Kept l h' w5 w6 → wr.heap.size ≤ l → (h' ≤ W1.heap.size ∨ w5.heap.size ≤ l) → (gv < l ∨ h' ≤ gv) → LJ w (Put3 w6 w.heap.size (.slice b1 n1 d1) (.slice a5 us2.length cap5) (.slice b3 n3 d3)) Mb b1 n1 d1 b3 n3 d3 ins outs us2 mv base R5 a5 cap5)) := fun W1 kk => by
                  refine (l2move W1 b1 b3 n1 d1 cap n3 d3 base gv i us v _ _ _ (hL.out.keep kk).g.own (hL.out.keep kk).g.sz HSZ.out.1 hil (hat.keep (own_blkV hL.out.g.own (k := gv) rfl).2 kk (.inr (.inr (Nat.le_refl _)))) (g0 0) (g0 1) (g0 2) hsome (fun hc => by unfold ovs; rw [if_neg (by omega)]) (fun hc => by unfold ovs; rw [if_neg (by omega)])).mono ?_
                  rintro e w5 ⟨a5, cap5, R5, rfl, own5, row5, st5⟩
                  rw [← HJM.out] at own5 row5 ⊢
                  have hn : ∀ B, B ≠ gv → ¬ ((fun _ => False) B ∨ some gv = some B) := fun B hB => by rintro (c | c); exact c; cases c; exact hB rfl
                  refine ⟨us ++ (jmv vs i (jst vs x t j)).1, (jmv vs i (jst vs x t j)).2, a5, cap5, R5, rfl, fun B o hB hg => st5.chg.cell (p := ⟨B, o, none⟩) hB (hn B hg), fun B o hB hg => st5.chg.frozen (p := ⟨B, o, none⟩) hB (hn B hg), st5.chg.size, ⟨rfl, rfl⟩, fun l h' w6 k6 hl hh hgv => ?_⟩
                  refine hL.out.step kk own5 row5 st5 k6 hl (fun g hg => ?_)
                  rcases st5.row with c | ⟨r, c, hr⟩
                  · rw [c] at hg; cases hg; exact hgv
                  · rw [c] at hg; cases hg
                    have := (own_blkV own5 (row5.trans c)).2
                    omega
                have HFR : Hid (w.heap.size < wr.heap.size ∧ F < wr.heap.size ∧ w.heap.size ≠ gv ∧ F ≠ gv ∧ gv < wr.heap.size) := ⟨hL.out.g.lt, hI.out.lt, fun c => hL.out.g.ne (by rw [c]), fun c => HOT.out.r (by rw [c]), (own_blkV hL.out.g.own (k := gv) rfl).2⟩
                have hfP := hL.out.g.free
                clear hsome g0 hat y1 y2 y3 y4 y5 HJM
                generalize ovs v mv (cnt v.op) 0 = ta at c0 HMV hI
                generalize ovs v mv (cnt v.op) 1 = tb at c1 HMV hI
                generalize ovs v mv (cnt v.op) 2 = tc at c2 HMV hI
                generalize hMM : jmv vs i (jst vs x t j) = M at HMV HJS
                clear hMM
                obtain ⟨Ml, Mi⟩ := M
                go_wp2_with fail
                refine Calls.mono HO.out ?_
                rintro e w' ⟨rfl, rfl⟩
                clear HO y0
                go_upto_region 20 with fail
                go_cut [17, 18] (fun pv rv wx => ∃ (X : Nat) (us2 : List Vl) (r : Int) (a5 : Option Addr) (cap5 : Nat) (R5 : Option Nat), pv = .pointer (some ⟨X, 0, none⟩) ∧ rv = .int .i64 r ∧ Hid (us2 = us ++ Ml ∧ r = Mi) ∧ Hid (RB wx X (.slice b1 n1 d1) (.slice a5 us2.length cap5) (.slice b3 n3 d3) ∧ ((∃ u, wx.cell? ⟨w.heap.size, 0, none⟩ = some u) ∧ (∃ u, wx.cell? ⟨w.heap.size, 1, none⟩ = some u) ∧ (∃ u, wx.cell? ⟨w.heap.size, 2, none⟩ = some u)) ∧ (∀ o, wx.frozen? ⟨w.heap.size, o, none⟩ = false)) ∧ Hid (LJ w (Put3 wx w.heap.size (.slice b1 n1 d1) (.slice a5 us2.length cap5) (.slice b3 n3 d3)) Mb b1 n1 d1 b3 n3 d3 ins outs us2 mv base R5 a5 cap5))
                case first =>
                  have hPn : w.heap.size ≠ w'.heap.size := by have := HFR.out; omega
                  have hFn : F ≠ w'.heap.size := by have := HFR.out; omega
                  have HW1 : Hid (∀ B o, B < w'.heap.size → (w'.alloc nbox).drew.cell? ⟨B, o, none⟩ = w'.cell? ⟨B, o, none⟩) := fun B o hB => (kept_alloc 0 0 w' nbox).cell (p := ⟨B, o, none⟩) hB (by omega)
                  go_region_held3 (fun W : World => W.cell? ⟨w.heap.size, 0, none⟩ = some (.slice b1 n1 d1) ∧ W.cell? ⟨w.heap.size, 1, none⟩ = some (.slice (some ⟨gv, 0, none⟩) us.length cap) ∧ W.cell? ⟨w.heap.size, 2, none⟩ = some (.slice b3 n3 d3) ∧ W.cell? ⟨F, 0, none⟩ = some (.int .i64 ta) ∧ W.cell? ⟨F, 1, none⟩ = some (.int .i64 tb) ∧ W.cell? ⟨F, 2, none⟩ = some (.int .i64 tc)) (first | go_keep | (simp only [cell3 _ _ _ _ _ _ _ hPn, cell3 _ _ _ _ _ _ _ hFn]; exact ⟨a0, a1, a2, a3, a4, a6⟩)) (first
                    | (go_at_call 152; refine Calls.mono (HMV.out _ ((kept_alloc 0 0 w' nbox).trans (kept_drew _))) ?_; rintro e w5 ⟨us2, r, a5, cap5, R5, rfl, e5, ef5, ez5, hq5, hL5⟩; have a0 := (e5 w.heap.size 0 (by have := HFR.out; simp; omega) HFR.out.2.2.1).trans ((HW1.out w.heap.size 0 HFR.out.1).trans s0); have a1 := (e5 w.heap.size 1 (by have := HFR.out; simp; omega) HFR.out.2.2.1).trans ((HW1.out w.heap.size 1 HFR.out.1).trans s1); have a2 := (e5 w.heap.size 2 (by have := HFR.out; simp; omega) HFR.out.2.2.1).trans ((HW1.out w.heap.size 2 HFR.out.1).trans s2); have a3 := (e5 F 0 (by have := HFR.out; simp; omega) HFR.out.2.2.2.1).trans ((HW1.out F 0 HFR.out.2.1).trans c0); have a4 := (e5 F 1 (by have := HFR.out; simp; omega) HFR.out.2.2.2.1).trans ((HW1.out F 1 HFR.out.2.1).trans c1); have a6 := (e5 F 2 (by have := HFR.out; simp; omega) HFR.out.2.2.2.1).trans ((HW1.out F 2 HFR.out.2.1).trans c2); have HF5 : Hid _ := ef5; have z0 := e5 w'.heap.size 0 (by simp) (by have := HFR.out; omega); have z1 := e5 w'.heap.size 1 (by simp) (by have := HFR.out; omega); have z2 := e5 w'.heap.size 2 (by simp) (by have := HFR.out; omega); have zf0 := ef5 w'.heap.size 0 (by simp) (by have := HFR.out; omega); have zf1 := ef5 w'.heap.size 1 (by simp) (by have := HFR.out; omega); have zf2 := ef5 w'.heap.size 2 (by simp) (by have := HFR.out; omega); have EZ : Hid _ := ez5; clear e5 ef5 ez5)
                    | (go_at_call 152; refine Calls.mono (HMV.out _ (kept_drew w')) ?_; rintro e w5 ⟨us2, r, a5, cap5, R5, rfl, e5, ef5, ez5, hq5, hL5⟩; have a0 := (e5 w.heap.size 0 HFR.out.1 HFR.out.2.2.1).trans s0; have a1 := (e5 w.heap.size 1 HFR.out.1 HFR.out.2.2.1).trans s1; have a2 := (e5 w.heap.size 2 HFR.out.1 HFR.out.2.2.1).trans s2; have a3 := (e5 F 0 HFR.out.2.1 HFR.out.2.2.2.1).trans c0; have a4 := (e5 F 1 HFR.out.2.1 HFR.out.2.2.2.1).trans c1; have a6 := (e5 F 2 HFR.out.2.1 HFR.out.2.2.2.1).trans c2; have HF5 : Hid _ := ef5; have y5 : w.heap.size ≠ w5.heap.size := (by have := HFR.out; have : w'.heap.size ≤ w5.heap.size := ez5; omega); have y6 : F ≠ w5.heap.size := (by have := HFR.out; have : w'.heap.size ≤ w5.heap.size := ez5; omega); have EZ : Hid _ := ez5; clear e5 ef5 ez5))
                  · have hwz : w'.heap.size ≤ w5.heap.size := EZ.out
                    have ka := kept_alloc 0 0 w5 (.cells #[.slice b1 n1 d1, .slice a5 us2.length cap5, .slice b3 n3 d3] 54)
                    have hPl : w.heap.size < w5.heap.size := by have := HFR.out; omega
                    have R2 : Hid (RB (w5.alloc (.cells #[.slice b1 n1 d1, .slice a5 us2.length cap5, .slice b3 n3 d3] 54)) w5.heap.size (.slice b1 n1 d1) (.slice a5 us2.length cap5) (.slice b3 n3 d3) ∧ ((∃ u, (w5.alloc (.cells #[.slice b1 n1 d1, .slice a5 us2.length cap5, .slice b3 n3 d3] 54)).cell? ⟨w.heap.size, 0, none⟩ = some u) ∧ (∃ u, (w5.alloc (.cells #[.slice b1 n1 d1, .slice a5 us2.length cap5, .slice b3 n3 d3] 54)).cell? ⟨w.heap.size, 1, none⟩ = some u) ∧ (∃ u, (w5.alloc (.cells #[.slice b1 n1 d1, .slice a5 us2.length cap5, .slice b3 n3 d3] 54)).cell? ⟨w.heap.size, 2, none⟩ = some u)) ∧ (∀ o, (w5.alloc (.cells #[.slice b1 n1 d1, .slice a5 us2.length cap5, .slice b3 n3 d3] 54)).frozen? ⟨w.heap.size, o, none⟩ = false)) :=
                      ⟨⟨by simp, by simp, by simp, by simp, by simp, by simp, by simp⟩, ⟨⟨_, (ka.cell (p := ⟨w.heap.size, 0, none⟩) hPl (by omega)).trans a0⟩, ⟨_, (ka.cell (p := ⟨w.heap.size, 1, none⟩) hPl (by omega)).trans a1⟩, ⟨_, (ka.cell (p := ⟨w.heap.size, 2, none⟩) hPl (by omega)).trans a2⟩⟩, fun o => (ka.frozen (p := ⟨w.heap.size, o, none⟩) hPl (by omega)).trans ((HF5.out w.heap.size o HFR.out.1 HFR.out.2.2.1).trans (hfP o))⟩
                    have R3 : Hid _ := hL5.out w5.heap.size w5.heap.size _ (kept_alloc _ _ w5 (.cells #[.slice b1 n1 d1, .slice a5 us2.length cap5, .slice b3 n3 d3] 54)) hwz (.inr (Nat.le_refl _)) (.inl (by have := HFR.out; omega))
                    go_wp2_with fail
                    go_meet
                    exact ⟨w5.heap.size, us2, r, a5, cap5, R5, rfl, rfl, hq5, R2, R3⟩
                  · have hwz : w'.heap.size ≤ w5.heap.size := Nat.le_trans (kept_alloc 0 0 w' nbox).size EZ.out
                    have kp := put3_kept w5 w'.heap.size (.slice b1 n1 d1) (.slice a5 us2.length cap5) (.slice b3 n3 d3)
                    have hPl : w.heap.size < w5.heap.size := by have := HFR.out; omega
                    have hXl : w'.heap.size < w5.heap.size := Nat.lt_of_lt_of_le (by simp) EZ.out
                    have z0' : w5.cell? ⟨w'.heap.size, 0, none⟩ = some (.slice none 0 0) := z0.trans (by simp)
                    have z1' : w5.cell? ⟨w'.heap.size, 1, none⟩ = some (.slice none 0 0) := z1.trans (by simp)
                    have z2' : w5.cell? ⟨w'.heap.size, 2, none⟩ = some (.slice none 0 0) := z2.trans (by simp)
                    obtain ⟨y0, y1, y2⟩ := put3_0 w5 w'.heap.size _ _ _ z0' z1' z2' (.slice b1 n1 d1) (.slice a5 us2.length cap5) (.slice b3 n3 d3)
                    have zf : ∀ o, w5.frozen? ⟨w'.heap.size, o, none⟩ = false := fun o => (HF5.out w'.heap.size o (by simp) (by have := HFR.out; omega)).trans (by simp)
                    have pf : ∀ o, w5.frozen? ⟨w.heap.size, o, none⟩ = false := fun o => (HF5.out w.heap.size o (by have := HFR.out; simp; omega) HFR.out.2.2.1).trans (((kept_alloc 0 0 w' nbox).frozen (p := ⟨w.heap.size, o, none⟩) HFR.out.1 (by omega)).trans (hfP o))
                    have R2 : Hid (RB (((w5.setCell ⟨w'.heap.size, 0, none⟩ (.slice b1 n1 d1)).setCell ⟨w'.heap.size, 1, none⟩ (.slice a5 us2.length cap5)).setCell ⟨w'.heap.size, 2, none⟩ (.slice b3 n3 d3)) w'.heap.size (.slice b1 n1 d1) (.slice a5 us2.length cap5) (.slice b3 n3 d3) ∧ ((∃ u, (((w5.setCell ⟨w'.heap.size, 0, none⟩ (.slice b1 n1 d1)).setCell ⟨w'.heap.size, 1, none⟩ (.slice a5 us2.length cap5)).setCell ⟨w'.heap.size, 2, none⟩ (.slice b3 n3 d3)).cell? ⟨w.heap.size, 0, none⟩ = some u) ∧ (∃ u, (((w5.setCell ⟨w'.heap.size, 0, none⟩ (.slice b1 n1 d1)).setCell ⟨w'.heap.size, 1, none⟩ (.slice a5 us2.length cap5)).setCell ⟨w'.heap.size, 2, none⟩ (.slice b3 n3 d3)).cell? ⟨w.heap.size, 1, none⟩ = some u) ∧ (∃ u, (((w5.setCell ⟨w'.heap.size, 0, none⟩ (.slice b1 n1 d1)).setCell ⟨w'.heap.size, 1, none⟩ (.slice a5 us2.length cap5)).setCell ⟨w'.heap.size, 2, none⟩ (.slice b3 n3 d3)).cell? ⟨w.heap.size, 2, none⟩ = some u)) ∧ (∀ o, (((w5.setCell ⟨w'.heap.size, 0, none⟩ (.slice b1 n1 d1)).setCell ⟨w'.heap.size, 1, none⟩ (.slice a5 us2.length cap5)).setCell ⟨w'.heap.size, 2, none⟩ (.slice b3 n3 d3)).frozen? ⟨w.heap.size, o, none⟩ = false)) :=
                      ⟨⟨Nat.lt_of_lt_of_le hXl kp.size, y0, y1, y2, by simp [zf 0], by simp [zf 1], by simp [zf 2]⟩, ⟨⟨_, (cell3 _ _ _ _ _ _ _ hPn).trans a0⟩, ⟨_, (cell3 _ _ _ _ _ _ _ hPn).trans a1⟩, ⟨_, (cell3 _ _ _ _ _ _ _ hPn).trans a2⟩⟩, fun o => by simp [pf o]⟩
                    have R3 : Hid _ := hL5.out w'.heap.size (w'.heap.size + 1) _ kp (Nat.le_refl _) (.inl (by simp)) (.inl HFR.out.2.2.2.2)
                    clear kp z0' z1' z2' zf pf y0 y1 y2 z0 z1 z2 zf0 zf1 zf2
                    go_wp2_with fail
                    go_meet
                    exact ⟨w'.heap.size, us2, r, a5, cap5, R5, rfl, rfl, hq5, R2, R3⟩
                case rest =>
                  clear s0 s1 s2 c0 c1 c2 HMV hL hI hfP
                  obtain ⟨X, us2, r, a5, cap5, R5, rfl, rfl, hq5, h5, hL5⟩ := hcut
                  obtain ⟨⟨_, t0, t1, t2, x0, x1, x2⟩, ⟨⟨_, p0⟩, ⟨_, p1⟩, ⟨_, p2⟩⟩, pf⟩ := h5.out
                  have pf0 := pf 0
                  have pf1 := pf 1
                  have pf2 := pf 2
                  clear pf h5
                  go_upto_region 22 with fail
                  clear t0 t1 t2 x0 x1 x2 p0 p1 p2 pf0 pf1 pf2
                  unfold Put3 at hL5
                  generalize ((wc.setCell ⟨w.heap.size, 0, none⟩ (.slice b1 n1 d1)).setCell ⟨w.heap.size, 1, none⟩ (.slice a5 us2.length cap5)).setCell ⟨w.heap.size, 2, none⟩ (.slice b3 n3 d3) = wd at hL5 ⊢
                  have cm := hL5.out.m.cell i (by have := HSZ.out; omega)
                  have fm := hL5.out.m.free i
                  have R1 : Hid (∃ R a2 cap, LJ w (wd.setCell ⟨Mb, i, none⟩ (.int .i64 r)) Mb b1 n1 d1 b3 n3 d3 ins outs (jst vs x t (j + 1)).1 (jst vs x t (j + 1)).2 base R a2 cap) := ⟨_, _, _, by
                    have := hL5.out.set i r
                    rw [HJS.out]
                    rw [hq5.out.2] at this ⊢
                    rw [hq5.out.1] at this
                    exact this⟩
                  clear hL5 hq5
                  generalize mv.getD i 0 = z at cm
                  go_wp2
                  go_roundw
                  case rel => exact ⟨j + 1, by omega, by have := HI.out; go_num, R1⟩
                  case measure => simp [intOf]; omega
        · obtain rfl : j = s - x := by omega
          have hne : ¬ (((x + 1 + (s - x) : Nat) : Int) ≤ (s : Int)) := by omega
          have hsl : s < (jst vs x t (s - x)).2.length := by rw [jst_len, HLN.out]; exact hs
          have cs := hJ.m.cell s hsl
          have hge := jst_ge vs x t (s - x) s
          have hJF : Hid (jfin vs s x t = if (jst vs x t (s - x)).2.getD s 0 = -1 then ((jst vs x t (s - x)).1 ++ [vput 1 (vs.getD s Vl.zero).len 0 0 0], (((jst vs x t (s - x)).1.length : Nat) : Int)) else ((jst vs x t (s - x)).1, (jst vs x t (s - x)).2.getD s 0)) := rfl
          rw [HLS.out] at hJF
          have hlow : s < x → (jst vs x t (s - x)).2.getD s 0 = -1 := fun hc => by
            rw [show s - x = 0 by omega]
            exact jst_zero vs x t s (by omega) (by rw [HLN.out]; exact hs)
          have hl : ∀ q, q < vs.length → 1 ≤ (vs.getD q Vl.zero).len ∧ (vs.getD q Vl.zero).len ≤ 1000 := fun q hq => okV_len (List.all_eq_true.1 HOK.out q (List.mem_range.2 (by have := HLN.out; omega)))
          obtain ⟨z1, _, _⟩ := jst_size vs x t hl (cells_pos vs (fun q hq => by have := hl q hq; omega)) HC5.out (s - x) (by have := HLN.out; omega)
          have hsz : (jst vs x t (s - x)).1.length ≤ 800000 := by have := HLN.out; omega
          have HL : Hid _ := hJ
          clear hA hJ hpre hl z1 hsl hlt hgv
          generalize (jst vs x t (s - x)).1 = us at HL hJF hsz
          generalize (jst vs x t (s - x)).2 = mv at HL hJF cs hge hlow
          generalize mv.getD s 0 = mm at cs hge hJF hlow
          have s0 := HL.out.g.c0
          have s1 := HL.out.g.c1
          have s2 := HL.out.g.c2
          obtain ⟨_, t0, t1, t2, x0, x1, x2⟩ := HL.out.b
          have is0 : (0 : Int) ≤ (s : Int) := by omega
          have is1 : (s : Int) < (k : Int) := by omega
          by_cases hA : x ≤ s ∧ 0 ≤ mm
          · have hM : Hid (jfin vs s x t = (us, mm)) := by
              show _ = _
              rw [hJF.out, if_neg (by omega)]
            have ta : ((x : Int) ≤ (s : Int)) := by omega
            have tb := hA.2
            obtain ⟨y0, y1, y2⟩ := put3_0 wr (w.heap.size + 1) _ _ _ t0 t1 t2 (.slice b1 n1 d1) (.slice (some ⟨gv, 0, none⟩) us.length cap) (.slice b3 n3 d3)
            have hPQ : w.heap.size ≠ w.heap.size + 1 := by omega
            have hMQ : Mb ≠ w.heap.size + 1 := by have := HL.out.hb; have := HL.out.dM; omega
            have hMQ' : w.heap.size + 1 ≠ Mb := Ne.symm hMQ
            have HC3 : Hid (∀ X Y Z : Value, (((wr.setCell ⟨w.heap.size + 1, 0, none⟩ X).setCell ⟨w.heap.size + 1, 1, none⟩ Y).setCell ⟨w.heap.size + 1, 2, none⟩ Z).drew.cell? ⟨Mb, s, none⟩ = some (.int .i64 mm)) := fun X Y Z => (cell3 wr _ _ _ X Y Z hMQ).trans cs
            have HC4 : Hid (∀ (X Y Z : Value) (o : Nat), (((wr.setCell ⟨w.heap.size + 1, 0, none⟩ X).setCell ⟨w.heap.size + 1, 1, none⟩ Y).setCell ⟨w.heap.size + 1, 2, none⟩ Z).drew.cell? ⟨w.heap.size, o, none⟩ = wr.cell? ⟨w.heap.size, o, none⟩) := fun X Y Z o => cell3 wr _ _ _ X Y Z hPQ
            have R1 : Hid _ := HL.out.fin (kept_drew wr)
            clear hJF hlow
            go_wp2_with fail
            go_region_held3 (fun W : World => W.cell? ⟨w.heap.size, 0, none⟩ = some (.slice b1 n1 d1) ∧ W.cell? ⟨w.heap.size, 1, none⟩ = some (.slice (some ⟨gv, 0, none⟩) us.length cap) ∧ W.cell? ⟨w.heap.size, 2, none⟩ = some (.slice b3 n3 d3) ∧ W.cell? ⟨Mb, s, none⟩ = some (.int .i64 mm)) (first | go_keep | (exact ⟨(HC4.out _ _ _ _).trans s0, (HC4.out _ _ _ _).trans s1, (HC4.out _ _ _ _).trans s2, HC3.out _ _ _⟩)) (fail)
            all_goals
              go_wp2_with fail
              refine bodyPost_ret (v := .tuple #[gagg b1 n1 d1 (some ⟨gv, 0, none⟩) us.length cap b3 n3 d3, .int .i64 mm]) (by simp [results, Try.results115, go_sem, y0, y1, y2]) rfl ⟨?_, R1.out.2⟩
              rw [hM.out]
              exact ⟨b1, d1, b3, d3, some ⟨gv, 0, none⟩, cap, rfl, R1.out.1.1, R1.out.1.2.1, R1.out.1.2.2⟩
          · have hM : Hid (jfin vs s x t = (us ++ [vput 1 ln 0 0 0], ((us.length : Nat) : Int))) := by
              show _ = _
              rw [hJF.out, if_pos (by
                by_cases hc : s < x
                · exact hlow hc
                · omega)]
            have hor : (¬ ((x : Int) ≤ (s : Int))) ∨ ((x : Int) ≤ (s : Int) ∧ ¬ (0 ≤ mm)) := by omega
            clear hJF hlow t0 t1 t2 x0 x1 x2 hA hge
            rcases hor with tx | ⟨tx, tm⟩
            all_goals
              go_upto_region 25 with fail
              clear cs
              go_cut [] (fun wx => ∃ g' cap', Hid (LJ w wx Mb b1 n1 d1 b3 n3 d3 ins outs (us ++ [vput 1 ln 0 0 0]) mv base (some g') (some ⟨g', 0, none⟩) cap'))
              case first =>
                go_region_with (first
                  | (go_at_call 153; refine Calls.mono (LJ.call HL.out ((kept_drew wr).trans k1) (vput 1 ln 0 0 0) (by omega)) ?_; rintro e w2 ⟨g', cap', rfl, ⟨_, r0⟩, ⟨_, r1⟩, ⟨_, r2⟩, rf, hS2⟩; have rf0 := rf 0; have rf1 := rf 1; have rf2 := rf 2; clear rf)
                  | (go_at_call 154; refine Calls.mono (l2zeros _ _) ?_; rintro e w1 ⟨rfl, k1⟩; have p0 := (LJ.keep HL.out ((kept_drew wr).trans k1)).g.c0; have p1 := (LJ.keep HL.out ((kept_drew wr).trans k1)).g.c1; have p2 := (LJ.keep HL.out ((kept_drew wr).trans k1)).g.c2))
                all_goals (go_wp2_with fail; go_meet; exact ⟨g', cap', hS2⟩)
              case rest =>
                obtain ⟨g', cap', hS2⟩ := hcut
                have hl1 : (us ++ [vput 1 ln 0 0 0]).length = us.length + 1 := by simp
                generalize hu : us ++ [vput 1 ln 0 0 0] = us2 at hS2 hM hl1
                clear s0 s1 s2 hu HL
                have s0 := hS2.out.g.c0
                have s1 := hS2.out.g.c1
                have s2 := hS2.out.g.c2
                obtain ⟨_, t0, t1, t2, x0, x1, x2⟩ := hS2.out.b
                have HLast : Hid (∀ W : World, _) := fun W => l2last W b1 (some ⟨g', 0, none⟩) b3 n1 d1 us2.length cap' n3 d3 (by omega)
                rw [show (us2.length : Int) - 1 = ((us.length : Nat) : Int) by omega] at HLast
                clear hl1
                go_wp2_with fail
                go_region_with (first
                  | (go_at_call 155; refine Calls.mono (HLast.out _) ?_; rintro e w3 ⟨rfl, k3⟩; clear t0 t1 t2 x0 x1 x2; have q0 := (hS2.out.keep ((kept_drew wc).trans k3)).g.c0; have q1 := (hS2.out.keep ((kept_drew wc).trans k3)).g.c1; have q2 := (hS2.out.keep ((kept_drew wc).trans k3)).g.c2; obtain ⟨_, t0, t1, t2, x0, x1, x2⟩ := (hS2.out.keep ((kept_drew wc).trans k3)).b))
                all_goals
                  have R1 : Hid _ := hS2.out.fin ((kept_drew wc).trans k3)
                  obtain ⟨y0, y1, y2⟩ := put3_0 w3 (w.heap.size + 1) _ _ _ t0 t1 t2 (.slice b1 n1 d1) (.slice (some ⟨g', 0, none⟩) us2.length cap') (.slice b3 n3 d3)
                  go_wp2_with fail
                  refine bodyPost_ret (v := .tuple #[gagg b1 n1 d1 (some ⟨g', 0, none⟩) us2.length cap' b3 n3 d3, .int .i64 ((us.length : Nat) : Int)]) (by simp [results, Try.results115, go_sem, y0, y1, y2]) rfl ⟨?_, R1.out.2⟩
                  rw [hM.out]
                  exact ⟨b1, d1, b3, d3, some ⟨g', 0, none⟩, cap', rfl, R1.out.1.1, R1.out.1.2.1, R1.out.1.2.2⟩
end Go.Proofs.Ytcphabjekfihnaa
