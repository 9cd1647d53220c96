import Derived.Test.YtcphabjekfihnabGreatP34
namespace Go.Proofs.YtcphabjekfihnabGreat
open Go.RowKit Flt Go.Maps
attribute [local go_sem] alloc_drewN setCell_drewN run_store_float

set_option maxRecDepth 100000 in
set_option maxHeartbeats 4000000 in
theorem likenessOf (w : World) (v : Vl) : Calls Tryz.prog 70 #[v.agg] w fun e w' => e = .returned (likeV v) ∧ Kept 0 0 w w' := by
  have HF : Hid (∀ w, Calls Tryz.prog 87 #[.float .f64 v.k] w fun e w' => e = .returned (.int .u64 (fb v.k : Nat)) ∧ w' = w) := implBits v.k
  unfold likeV likeK
  have k3 : ∀ (o o' o'' : Obj), Kept 0 0 w (((w.alloc o).alloc o').alloc o'') := fun o o' o'' => ((kept_alloc 0 0 w o).trans (kept_alloc 0 0 _ o')).trans (kept_alloc 0 0 _ o'')
  have HK3 : Hid _ := k3
  clear k3
  by_cases h : v.op = 1
  · rw [if_pos h]
    have t : (v.op == 1) = true := by simp [h]
    clear h
    go_enter Tryz.func70, Tryz.ntmps70
    go_wp2_with ((go_at_call 87; refine Calls.mono (HF.out _) ?_; rintro e w2 ⟨rfl, rfl⟩))
    exact bodyPost_ret (v := .agg #[.int .i64 v.op, .int .i64 v.len, .int .i64 v.a, .int .i64 v.b, .int .i64 v.c, .int .u64 (fb v.k : Nat)]) (by simp [results, Tryz.results70, go_sem]) rfl ⟨rfl, HK3.out _ _ _⟩
  · rw [if_neg h]
    have t : (v.op == 1) = false := beq_eq_false_iff_ne.2 h
    clear h
    go_enter Tryz.func70, Tryz.ntmps70
    go_wp2
    exact bodyPost_ret (v := .agg #[.int .i64 v.op, .int .i64 v.len, .int .i64 v.a, .int .i64 v.b, .int .i64 v.c, .int .u64 0]) (by simp [results, Tryz.results70, go_sem]) rfl ⟨rfl, HK3.out _ _ _⟩

theorem chg_grown {w w' : World} {b : Nat} (h : w.grownBy w' (some b)) : Chg (fun i => i = b) w w' :=
  ⟨h.os, h.tape, h.output, h.size, fun k hk hn => h.block k hk (fun c => hn (Option.some.inj c))⟩
theorem ownsMap_heap {w w' : World} {k : TypeId} {R : Value → Option (DataW Unit × List MemPlace)} {b n : Nat} {D : DataW Unit} (h : w.ownsMap Tryz.prog k R b n D) (e : w'.heap[b]? = w.heap[b]?) : w'.ownsMap Tryz.prog k R b n D := by
  obtain ⟨es, cl, h1, h2⟩ := h
  exact ⟨es, cl, by rw [e]; exact h1, h2⟩
/-- The closure's map, in its box. -/
structure CI (W : World) (FB B i : Nat) (us : List Vl) : Prop where
  lt : FB < W.heap.size
  box : W.cell? ⟨FB, 0, none⟩ = some (.map (some B))
  own : W.ownsMap Tryz.prog 86 (plainElem (H := Unit) Tryz.prog 3) B i (comD us i)
theorem CI.keepC {W W' : World} {S : Nat → Prop} {FB B i : Nat} {us : List Vl} (h : CI W FB B i us) (k : Chg S W W') (h1 : ¬ S FB) (h2 : ¬ S B) : CI W' FB B i us :=
  ⟨Nat.lt_of_lt_of_le h.lt k.size, by rw [k.cell (p := ⟨FB, 0, none⟩) h.lt h1]; exact h.box, ownsMap_heap h.own (k.block B h.own.lt h2)⟩
theorem wf64n {i : Nat} (h : i ≤ 2000) : (Lit.int .i64 (i : Nat)).wf = true := wf64 (by omega)
set_option maxRecDepth 100000 in
set_option maxHeartbeats 4000000 in
theorem com1 (W : World) (g n c i FB B : Nat) (A R : List Vl) (nv : Vl) (hV : VA W g n (A ++ [nv] ++ R)) (hl : A.length = i) (hi : i < n) (hn : n ≤ 2000) (hI : CI W FB B i A) (hne : FB ≠ B) (hu : ∀ j, j < A.length → Wf (A.getD j Vl.zero)) (hv : Wf nv) :
    Calls Tryz.prog 69 #[.slice (some ⟨g, 0, none⟩) n c, .int .i64 (i : Nat), .pointer (some ⟨FB, 0, none⟩)] W fun e w' => e = .returned (.int .i64 (A.findIdx (alike · nv) : Nat)) ∧ Chg (fun b => b = B) W w' ∧ CI w' FB B (i + 1) (A ++ [nv]) := by
  have hat := hV.at_ i hi
  rw [mid3_at hl] at hat
  have hf := comD_find hu hv
  rw [hl] at hf
  have hs := comD_step (us := A) (v := nv)
  rw [hl] at hs
  have hkey := likeKey hv
  have HI : Hid _ := hI
  have HS : Hid _ := hs
  have HLK : Hid (∀ w, Calls Tryz.prog 70 #[nv.agg] w fun e w' => e = .returned (likeV nv) ∧ Kept 0 0 w w') := fun w => likenessOf w nv
  unfold likeV at HLK hkey
  have hwi := wf64n (i := i) (by omega)
  clear hV hI hs hv hu
  obtain ⟨y0, y1, y2, y3, y4, y5⟩ := hat
  generalize hq : likeK nv = lk at HLK hkey
  clear hq
  generalize A.findIdx (alike · nv) = fi at hf ⊢
  generalize likeL nv = kl at hkey hf HS
  have HKY : Hid _ := hkey
  clear hkey hl
  go_enter Tryz.func69, Tryz.ntmps69
  go_wp2_with fail
  clear y0 y1 y2 y3 y4 y5
  refine Calls.mono (HLK.out W) ?_
  rintro e w2 ⟨rfl, k2⟩
  have ka := kept_alloc 0 0 w2 (.cells #[.int .i64 nv.op, .int .i64 nv.len, .int .i64 nv.a, .int .i64 nv.b, .int .i64 nv.c, .int .u64 lk] 86)
  have HI3 : Hid _ := CI.keepC (S := fun _ => False) HI.out (k2.trans ka).chg id id
  have HK3 : Hid _ := k2.trans ka
  have bx := HI3.out.box
  rcases hf with ⟨h1, h2⟩ | ⟨h1, h2, h3⟩
  · rw [h1, if_neg (by simp)] at HS
    have HO : Hid _ := HI3.out.own
    have h2' : fi = i := h2
    subst h2'
    go_wp2_with (first
      | (at_lookup; refine wpList_lookup_own_ok_int _ rfl _ _ 82 rfl 86 3 .i64 keyedL Tryz.underlying82 Tryz.underlying3 (zeroI _) B fi _ rfl HO.out _ _ rfl HKY.out ?_; intro c hat hwc)
      | (at_mapUpdate; refine wpList_mapUpdate_own _ rfl _ _ _ 82 rfl 86 3 keyedL Tryz.underlying82 (plainElem (H := Unit) Tryz.prog 3) B fi _ rfl HO.out (by unfold maxLen; omega) _ _ _ rfl rfl HKY.out _ [] (plainElem_int Tryz.underlying3 hwi) ?_; intro w5 hown5 hg5))
    go_ret
    have cg := chg_grown hg5
    refine ⟨rfl, Chg.trans HK3.out.chg cg, ⟨Nat.lt_of_lt_of_le HI3.out.lt cg.size, ?_, ?_⟩⟩
    · rw [cg.cell (p := ⟨FB, 0, none⟩) HI3.out.lt hne]; exact HI3.out.box
    · rw [HS.out]; exact hown5
  · rw [h1, if_pos rfl] at HS
    have HO : Hid _ := HI3.out.own
    have H3 : Hid _ := h3 (.lit (.int .i64 0))
    clear h3
    go_wp2_with ((at_lookup; refine wpList_lookup_own_ok_int _ rfl _ _ 82 rfl 86 3 .i64 keyedL Tryz.underlying82 Tryz.underlying3 (zeroI _) B i _ rfl HO.out _ _ rfl HKY.out ?_; intro c hat hwc; have HAT : Hid _ := hat; clear hat hwc))
    go_ret
    have ec : c = (fi : Nat) := by
      have := HAT.out.symm.trans H3.out
      injection this with this
      injection this
    refine ⟨by rw [ec]; rfl, HK3.out.chg, ⟨HI3.out.lt, HI3.out.box, ?_⟩⟩
    rw [HS.out]
    exact World.ownsMap.mono HO.out (Nat.le_succ i)

set_option maxRecDepth 100000 in
set_option maxHeartbeats 4000000 in
theorem withoutCommon (w : World) (g1 n1 c1 g2 n2 c2 g3 n3 c3 : Nat) (ins : List Int) (vs : List Vl) (outs : List Int) (hP : PG w g1 g2 g3 n1 n2 n3 ins vs outs) (hok : okG ins vs outs = true) (hkb : Kb vs) :
    Calls Tryz.prog 45 #[gagg (some ⟨g1, 0, none⟩) n1 c1 (some ⟨g2, 0, none⟩) n2 c2 (some ⟨g3, 0, none⟩) n3 c3] w fun e w' => PO w g1 n1 c1 g2 g3 n3 c3 ins (eqM 1 vs outs) e w' := by
  have k0 := kept_alloc 0 0 w (gbox (some ⟨g1, 0, none⟩) n1 c1 (some ⟨g2, 0, none⟩) n2 c2 (some ⟨g3, 0, none⟩) n3 c3)
  have hB := g0_start w (.slice (some ⟨g1, 0, none⟩) n1 c1) (.slice (some ⟨g2, 0, none⟩) n2 c2) (.slice (some ⟨g3, 0, none⟩) n3 c3)
  have hz : (w.alloc (gbox (some ⟨g1, 0, none⟩) n1 c1 (some ⟨g2, 0, none⟩) n2 c2 (some ⟨g3, 0, none⟩) n3 c3)).heap.size = w.heap.size + 1 := by simp
  have k1 := kept_alloc 0 0 (w.alloc (gbox (some ⟨g1, 0, none⟩) n1 c1 (some ⟨g2, 0, none⟩) n2 c2 (some ⟨g3, 0, none⟩) n3 c3)) nbox
  have hR := rb_start (w.alloc (gbox (some ⟨g1, 0, none⟩) n1 c1 (some ⟨g2, 0, none⟩) n2 c2 (some ⟨g3, 0, none⟩) n3 c3))
  rw [hz] at hR
  generalize hw2 : (w.alloc (gbox (some ⟨g1, 0, none⟩) n1 c1 (some ⟨g2, 0, none⟩) n2 c2 (some ⟨g3, 0, none⟩) n3 c3)).alloc nbox = w2 at k1 hR
  have hz2 : w2.heap.size = w.heap.size + 1 + 1 := by rw [← hw2]; simp
  have k2 := kept_alloc 0 0 w2 (.map #[] 0)
  have k3 := kept_alloc 0 0 (w2.alloc (.map #[] 0)) (.cells #[.map (some w2.heap.size)] 82)
  have hO := World.ownsMap_made w2 Tryz.prog 86 (plainElem (H := Unit) Tryz.prog 3)
  have hz3 : (w2.alloc (.map #[] 0)).heap.size = w2.heap.size + 1 := by simp
  have hz4 : ((w2.alloc (.map #[] 0)).alloc (.cells #[.map (some w2.heap.size)] 82)).heap.size = w2.heap.size + 2 := by simp
  have hCI : CI ((w2.alloc (.map #[] 0)).alloc (.cells #[.map (some w2.heap.size)] 82)) (w2.heap.size + 1) w2.heap.size 0 (eqSt 1 vs 0).1 :=
    ⟨by omega, by rw [← hz3]; simp, hO.alloc _⟩
  have HB : Hid _ := ((hB.keep k1).keep k2).keep k3
  have HR : Hid _ := (hR.keep k2).keep k3
  have HK : Hid _ := (k0.trans k1).trans (k2.trans k3)
  have HG : Hid (g1 < w.heap.size ∧ g2 < w.heap.size ∧ g3 < w.heap.size) := ⟨hP.i.lt, hP.v.lt, hP.o.lt⟩
  have hvl : vs.length = n2 := hP.v.len
  obtain ⟨⟨hl1, hl2, _⟩, _, hv, _, _⟩ := okG_parts hok
  have HW : Hid _ := withEqual_com ((w2.alloc (.map #[] 0)).alloc (.cells #[.map (some w2.heap.size)] 82)) g1 n1 c1 g2 n2 c2 g3 n3 c3 (w2.heap.size + 1) 1 ins vs outs (fun b => b = w2.heap.size) (fun i W => CI W (w2.heap.size + 1) w2.heap.size i (eqSt 1 vs i).1) (hP.keep ((k0.trans k1).trans (k2.trans k3))) hok
    (fun b c => by have := hP.i.lt; have := hP.v.lt; have := hP.o.lt; omega) hCI
    (fun i W W' h c => h.keepC c (by have := hP.v.lt; omega) (by have := hP.v.lt; omega)) (fun i W hi hI hVA => by
    have E := eqI_all ins vs 1 i (fun j hj => hv j (by omega))
    have E1 := eqI_all ins vs 1 (i + 1) (fun j hj => hv j (by omega))
    have kb := eqSt_kb hkb 1 (i + 1)
    have hwf : ∀ j, j < i + 1 → Wf ((eqSt 1 vs (i + 1)).1.getD j Vl.zero) := fun j hj => okV_wf (E1.ok j hj) (by omega) hl1 (fun q hq => okV_lenB (E1.ok q (by omega))) (kb.at_ j)
    have ea : ∀ j, j < i → (eqSt 1 vs (i + 1)).1.getD j Vl.zero = (eqSt 1 vs i).1.getD j Vl.zero := fun j hj => getD_fstV _ _ (by rw [E.l1]; exact hj)
    have el : (eqSt 1 vs (i + 1)).1.getD i Vl.zero = rnm (eqSt 1 vs i).2 (vs.getD i Vl.zero) := by
      have := getD_lastV (eqSt 1 vs i).1 (rnm (eqSt 1 vs i).2 (vs.getD i Vl.zero))
      rw [E.l1] at this
      exact this
    rw [eqSt_succ] at hVA
    refine (com1 W g2 n2 c2 i (w2.heap.size + 1) w2.heap.size _ _ _ hVA E.l1 hi (by omega) hI (by omega) (fun j hj => by rw [E.l1] at hj; rw [← ea j hj]; exact hwf j (by omega)) (by rw [← el]; exact hwf i (by omega))).mono ?_
    intro e w' h
    refine ⟨?_, h.2.1, h.2.2⟩
    rw [h.1]
    unfold sameAt
    rw [if_pos rfl])
  have HKB : Hid _ := hkb
  rw [hz2] at HB HR HK HW
  clear hP hok hv hvl hl1 hl2 k0 k1 k2 k3 hR hz hz2 hz3 hz4 hkb hO hCI
  have hmm := @run_makeMap Tryz.prog
  obtain ⟨_, p0, p1, p2⟩ := HB.out
  subst hw2
  go_enter Tryz.func45, Tryz.ntmps45
  go_wp2_with fail
  clear p0 p1 p2 hB hmm
  generalize (((w.alloc (gbox (some ⟨g1, 0, none⟩) n1 c1 (some ⟨g2, 0, none⟩) n2 c2 (some ⟨g3, 0, none⟩) n3 c3)).alloc nbox).alloc (.map #[] 0)).alloc (.cells #[.map (some (w.heap.size + 1 + 1))] 82) = w1 at HB HR HK HW ⊢
  refine Calls.mono HW.out ?_
  rintro e w2 ⟨rfl, hP2, c2'⟩
  have HP2 : Hid _ := hP2
  have HC2 : Hid _ := c2'
  have HR2 : Hid _ := RB.keepC HR.out c2' (by rintro (c | c | c) <;> (have := HG.out; omega))
  clear hP2 c2' HW
  obtain ⟨_, r0, r1, r2, f0, f1, f2⟩ := HR2.out
  go_wp2_with fail
  obtain ⟨y0, y1, y2⟩ := put3_0 w2 (w.heap.size + 1) _ _ _ r0 r1 r2 (.slice (some ⟨g1, 0, none⟩) n1 c1) (.slice (some ⟨g2, 0, none⟩) n2 c2) (.slice (some ⟨g3, 0, none⟩) n3 c3)
  have kp := put3_kept w2 (w.heap.size + 1) (.slice (some ⟨g1, 0, none⟩) n1 c1) (.slice (some ⟨g2, 0, none⟩) n2 c2) (.slice (some ⟨g3, 0, none⟩) n3 c3)
  refine bodyPost_ret (v := gagg (some ⟨g1, 0, none⟩) n1 c1 (some ⟨g2, 0, none⟩) n2 c2 (some ⟨g3, 0, none⟩) n3 c3) (by simp [results, Tryz.results45, go_sem, y0, y1, y2]) rfl ⟨g2, n2, c2, (eqM 1 vs outs).1, rfl, ⟨?_, ?_, ?_, HP2.out.d12, HP2.out.d13, HP2.out.d23⟩, Lk.refl _, ?_, ?_, .inl rfl⟩
  · exact HP2.out.i.keep kp (by have := HG.out; omega)
  · exact HP2.out.v.keep kp (by have := HG.out; omega)
  · exact HP2.out.o.keep kp (by have := HG.out; omega)
  · exact eqSt_kb HKB.out 1 _
  · refine Chg.new (Chg.new HK.out.chg HC2.out (fun b hb c => ?_)) (kp.chg1 (S := fun b => b = w.heap.size + 1) rfl) (fun b hb c => by omega)
    rcases c with c | c | c
    · exact .inl c
    · exact .inr c
    · omega
end Go.Proofs.YtcphabjekfihnabGreat
