import Derived.Test.YtdkjdlimcnddkaaA31
import Derived.Deep.RegionHeld3
namespace Go.Proofs.Ytdkjdlimcnddkaa
open Go.RowKit Flt
attribute [local go_sem] alloc_drewN setCell_drewN run_store_float
set_option maxRecDepth 1000000 in
set_option maxHeartbeats 16000000 in
theorem l2grad_idle (w : World) (lo g1 g2 g3 n1 c1 n2 c2 n3 c3 : Nat) (s x : Nat) (ins : List Int) (vs : List Vl) (outs : List Int) (f : GO w lo g1 g2 g3 n2 ins vs outs) (e1 : ins.length = n1) (e3 : outs.length = n3) (l1 : n1 ≤ 1000000) (l2 : n2 ≤ 2000) (l3 : n3 ≤ 1000000) (hok : (List.range n2).all (okV ins vs) = true) (hc5 : cellsV vs ≤ 50000) (hs : s < n2) (hx : x < n2) (ha : (actM vs x (s - x)).getD s false = false) :
    Calls Try.prog 32 #[gagg (some ⟨g1, 0, none⟩) n1 c1 (some ⟨g2, 0, none⟩) n2 c2 (some ⟨g3, 0, none⟩) n3 c3, .int .i64 (s : Int), .int .i64 (x : Int)] w fun e w' => GOut w w' n1 n3 ins outs (grM vs s x) e ∧ Kept 0 0 w w' := by
  have HG : Hid (grM vs s x = (vs ++ [vput 1 (vs.getD x Vl.zero).len 0 0 0], ((vs.length : Nat) : Int))) := by
    show _ = _
    unfold grM
    rw [if_neg (by rw [ha]; simp)]
  have hlen : ∀ j, j < n2 → 1 ≤ (vs.getD j Vl.zero).len ∧ (vs.getD j Vl.zero).len ≤ 1000 := fun j hj => okV_len (List.all_eq_true.1 hok j (List.mem_range.2 hj))
  have hops : ∀ j, j < n2 → ∀ k, k < cnt (vs.getD j Vl.zero).op → 0 ≤ fld (vs.getD j Vl.zero) k ∧ fld (vs.getD j Vl.zero) k < j := fun j hj => ok_opsJ (List.all_eq_true.1 hok j (List.mem_range.2 hj))
  have hop : ∀ j, j < n2 → 0 ≤ (vs.getD j Vl.zero).op ∧ (vs.getD j Vl.zero).op ≤ 13 := fun j hj => okV_op (List.all_eq_true.1 hok j (List.mem_range.2 hj))
  have kn : Kept 0 0 w ((w.alloc (gbox (some ⟨g1, 0, none⟩) n1 c1 (some ⟨g2, 0, none⟩) n2 c2 (some ⟨g3, 0, none⟩) n3 c3)).alloc nbox) := (kept_alloc 0 0 w _).trans (kept_alloc 0 0 _ _)
  have HB : Hid _ := (g0_start w (.slice (some ⟨g1, 0, none⟩) n1 c1) (.slice (some ⟨g2, 0, none⟩) n2 c2) (.slice (some ⟨g3, 0, none⟩) n3 c3)).keep (kept_alloc 0 0 _ nbox)
  have HFZ : Hid (∀ o, ((w.alloc (gbox (some ⟨g1, 0, none⟩) n1 c1 (some ⟨g2, 0, none⟩) n2 c2 (some ⟨g3, 0, none⟩) n3 c3)).alloc nbox).frozen? ⟨w.heap.size, o, none⟩ = false) := fun o => by simp
  have hN := rb_start (w.alloc (gbox (some ⟨g1, 0, none⟩) n1 c1 (some ⟨g2, 0, none⟩) n2 c2 (some ⟨g3, 0, none⟩) n3 c3))
  rw [show (w.alloc (gbox (some ⟨g1, 0, none⟩) n1 c1 (some ⟨g2, 0, none⟩) n2 c2 (some ⟨g3, 0, none⟩) n3 c3)).heap.size = w.heap.size + 1 by simp] at hN
  have HR : Hid _ := hN
  have HXA : Hid _ := l2active _ (some ⟨g1, 0, none⟩) (some ⟨g3, 0, none⟩) g2 n1 c1 n2 c2 n3 c3 s x vs (GO.keepJ f kn).v l2 hs hx hop hops
  have HXC : Hid (∀ W, Kept 0 0 ((w.alloc (gbox (some ⟨g1, 0, none⟩) n1 c1 (some ⟨g2, 0, none⟩) n2 c2 (some ⟨g3, 0, none⟩) n3 c3)).alloc nbox) W → _) := fun W (k : Kept 0 0 ((w.alloc (gbox (some ⟨g1, 0, none⟩) n1 c1 (some ⟨g2, 0, none⟩) n2 c2 (some ⟨g3, 0, none⟩) n3 c3)).alloc nbox) W) => l2copy W lo g1 g2 g3 n1 c1 n2 c2 n3 c3 ins vs outs (GO.keepJ f (kn.trans k)) e1 e3 l1 (by omega) l3
  have HVX : Hid (∀ W, Kept 0 0 ((w.alloc (gbox (some ⟨g1, 0, none⟩) n1 c1 (some ⟨g2, 0, none⟩) n2 c2 (some ⟨g3, 0, none⟩) n3 c3)).alloc nbox) W → W.cell? ⟨g2, x * 6 + 1, none⟩ = some (.int .i64 (vs.getD x Vl.zero).len)) := fun W k => ((GO.keepJ f (kn.trans k)).v.at_ x hx).c1
  have HLN : Hid (vs.length = n2) := f.v.len
  have HLE : Hid _ := hlen
  have HOS : Hid _ := hops
  have HOP : Hid _ := hop
  have HOK : Hid _ := hok
  have HZ : Hid (SzU 2000 50000 vs) := ⟨by have := f.v.len; omega, cells_pos vs (fun j hj => by have := hlen j (by have := f.v.len; omega); omega), hc5⟩
  have hx1 : (0 : Int) ≤ (x : Int) := by omega
  have hx2 : (x : Int) < (n2 : Int) := by omega
  have hs1 : (0 : Int) ≤ (s : Int) := by omega
  have hs2 : (s : Int) < (n2 : Int) := by omega
  have hwz : ((w.alloc (gbox (some ⟨g1, 0, none⟩) n1 c1 (some ⟨g2, 0, none⟩) n2 c2 (some ⟨g3, 0, none⟩) n3 c3)).alloc nbox).heap.size = w.heap.size + 1 + 1 := by simp
  clear hN kn f hok hc5 hlen hops hop
  go_enter Try.func32, Try.ntmps32
  go_wp2_with fail
  refine Calls.mono HXA.out ?_
  rintro e w1 ⟨A, rfl, hA, hAl, k1⟩
  rw [hwz] at hAl
  obtain ⟨_, p0, p1, p2⟩ := HB.out.keep k1
  have hlx := HVX.out w1 k1
  generalize hlnx : (vs.getD x Vl.zero).len = lx at hlx
  have HLX : Hid ((vs.getD x Vl.zero).len = lx) := hlnx
  clear hlnx HVX HXA
  have HA : Hid (BR w1 A (actM vs x (s - x))) := hA
  have HK1 : Hid _ := k1
  clear hA k1
  go_wp2_with fail
  clear hlx
  refine Calls.mono (HXC.out w1 HK1.out) ?_
  rintro e w2 ⟨b1, d1, a2, d2, b3, d3, rfl, o1, o2, o3, ⟨q1, q2, q3⟩, k2⟩
  have hw1 : w.heap.size + 1 + 1 ≤ w1.heap.size := by have := HK1.out.size; omega
  have HL : Hid (LK w (Put3 w2 w.heap.size (.slice b1 n1 d1) (.slice a2 n2 d2) (.slice b3 n3 d3)) b1 n1 d1 b3 n3 d3 ins outs vs w1.heap.size (Value.slice a2 n2 d2).ownBlock a2 d2) := LK.start HLN.out HB.out HFZ.out HR.out (HK1.out.trans k2) hw1 k2.size o1 o2 o3 q1 q2 q3
  have HBA : Hid (BR (Put3 w2 w.heap.size (.slice b1 n1 d1) (.slice a2 n2 d2) (.slice b3 n3 d3)) A (actM vs x (s - x))) := BR.keep (BR.keep HA.out k2 (.inr (.inr (Nat.le_refl _)))) (put3_kept w2 w.heap.size _ _ _) (.inr (.inl (by omega)))
  have HFA : Hid (Farb w b1 n1 d1 b3 n3 d3 (Value.slice a2 n2 d2).ownBlock A) := ⟨hAl, fun c => by have := (own_blkV o2 c).1; have := (BR.lt HA.out); omega, fun c => by have := (own_blkV o1 c).1; have := (BR.lt HA.out); omega, fun c => by have := (own_blkV o3 c).1; have := (BR.lt HA.out); omega⟩
  clear p0 p1 p2
  obtain ⟨_, p0, p1, p2⟩ := HB.out.keep (HK1.out.trans k2)
  have f0 := ((HK1.out.trans k2).frozen (p := ⟨w.heap.size, 0, none⟩) HB.out.sz (by omega)).trans (HFZ.out 0)
  have f1 := ((HK1.out.trans k2).frozen (p := ⟨w.heap.size, 1, none⟩) HB.out.sz (by omega)).trans (HFZ.out 1)
  have f2 := ((HK1.out.trans k2).frozen (p := ⟨w.heap.size, 2, none⟩) HB.out.sz (by omega)).trans (HFZ.out 2)
  have yA := BR.cell HBA.out s (by rw [actM_len, HLN.out]; exact hs)
  rw [ha] at yA
  unfold Put3 at yA HL HBA
  clear o1 o2 o3 q1 q2 q3 k2 HXC HB HFZ HR HA HK1 hwz
  rw [HLX.out] at HG
  have hnb : vs.length ≤ 1000000 := by have := HLN.out; omega
  by_cases hsx : s < x
  all_goals
    (first | (have tx : (s : Int) < (x : Int) := by omega) | (have tx : ¬ ((s : Int) < (x : Int)) := by omega))
    go_upto_region 5 with fail
    clear p0 p1 p2 f0 f1 f2 yA
    generalize ((w2.setCell ⟨w.heap.size, 0, none⟩ (.slice b1 n1 d1)).setCell ⟨w.heap.size, 1, none⟩ (.slice a2 n2 d2)).setCell ⟨w.heap.size, 2, none⟩ (.slice b3 n3 d3) = wP at HL HBA ⊢
    rw [← HLN.out] at HL ⊢
    have s0 := HL.out.g.c0
    have s1 := HL.out.g.c1
    have s2 := HL.out.g.c2
    go_cut [] (fun wx => ∃ g' cap', Hid (LK w wx b1 n1 d1 b3 n3 d3 ins outs (vs ++ [vput 1 lx 0 0 0]) w1.heap.size (some g') (some ⟨g', 0, none⟩) cap'))
    case first =>
      go_region_with (first
        | (go_at_call 81; refine Calls.mono (LK.call HL.out ((kept_drew wP).trans k1) (vput 1 lx 0 0 0) hnb) ?_; rintro e w2 ⟨g', cap', rfl, ⟨_, r0⟩, ⟨_, r1⟩, ⟨_, r2⟩, rf, hS2⟩; have rf0 := rf 0; have rf1 := rf 1; have rf2 := rf 2; have HS2 : Hid _ := hS2.out.1; clear rf hS2)
        | (go_at_call 82; refine Calls.mono (l2zeros _ _) ?_; rintro e w1 ⟨rfl, k1⟩; have p0 := (LK.keep HL.out ((kept_drew wP).trans k1)).g.c0; have p1 := (LK.keep HL.out ((kept_drew wP).trans k1)).g.c1; have p2 := (LK.keep HL.out ((kept_drew wP).trans k1)).g.c2))
      all_goals (go_wp2_with fail; go_meet; exact ⟨g', cap', HS2⟩)
    case rest =>
      obtain ⟨g', cap', hS2⟩ := hcut
      have hl1 : (vs ++ [vput 1 lx 0 0 0]).length = vs.length + 1 := by simp
      generalize hu : vs ++ [vput 1 lx 0 0 0] = us2 at hS2 HG hl1
      clear s0 s1 s2 hu HL
      have s0 := hS2.out.g.c0
      have s1 := hS2.out.g.c1
      have s2 := hS2.out.g.c2
      obtain ⟨_, t0, t1, t2, x0, x1, x2⟩ := hS2.out.b
      have HLast : Hid (∀ W : World, _) := fun W => l2last W b1 (some ⟨g', 0, none⟩) b3 n1 d1 us2.length cap' n3 d3 (show us2.length ≤ 1000000 by have := HLN.out; have := hl1; omega)
      rw [show (us2.length : Int) - 1 = ((vs.length : Nat) : Int) by omega] at HLast
      clear hl1
      go_wp2_with fail
      go_region_with (first
        | (go_at_call 83; refine Calls.mono (HLast.out _) ?_; rintro e w3 ⟨rfl, k3⟩; clear t0 t1 t2 x0 x1 x2; have q0 := (hS2.out.keep ((kept_drew wc).trans k3)).g.c0; have q1 := (hS2.out.keep ((kept_drew wc).trans k3)).g.c1; have q2 := (hS2.out.keep ((kept_drew wc).trans k3)).g.c2; obtain ⟨_, t0, t1, t2, x0, x1, x2⟩ := (hS2.out.keep ((kept_drew wc).trans k3)).b))
      all_goals
        have R1 : Hid _ := hS2.out.fin ((kept_drew wc).trans k3)
        obtain ⟨y0, y1, y2⟩ := put3_0 w3 (w.heap.size + 1) _ _ _ t0 t1 t2 (.slice b1 n1 d1) (.slice (some ⟨g', 0, none⟩) us2.length cap') (.slice b3 n3 d3)
        go_wp2_with fail
        refine bodyPost_ret (v := .tuple #[gagg b1 n1 d1 (some ⟨g', 0, none⟩) us2.length cap' b3 n3 d3, .int .i64 ((vs.length : Nat) : Int)]) (by simp [results, Try.results32, go_sem, y0, y1, y2]) rfl ⟨?_, R1.out.2⟩
        rw [HG.out]
        exact ⟨b1, d1, b3, d3, some ⟨g', 0, none⟩, cap', rfl, R1.out.1.1, R1.out.1.2.1, R1.out.1.2.2⟩
end Go.Proofs.Ytdkjdlimcnddkaa
