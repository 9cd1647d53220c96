import Derived.Test.YtcphabjekfihnabGreatP43
import Derived.Deep.RegionLaw
namespace Go.Proofs.YtcphabjekfihnabGreat
open Go.RowKit Flt
attribute [local go_sem] alloc_drewN setCell_drewN run_store_float

/-- What a pass of the model answers: a graph that is read. -/
def SPo (w : World) (n1 n3 : Nat) (ins : List Int) (M : List Vl × List Int) (e : Ending) (w' : World) : Prop :=
  ∃ a1 d1 a2 n2 d2 a3 d3 us, e = .returned (gagg a1 n1 d1 a2 n2 d2 a3 n3 d3) ∧ GS w' a1 n1 a2 n2 a3 n3 ins us M.2 ∧ Lk us M.1 ∧ Kept 0 0 w w'

/-- What the model's PassDead holds: where each value went, and the new graph's box at O, its values in a row from base on. -/
structure DS (W w6 : World) (T O n2 base : Nat) (u1 : Value) (S : List Vl × List Int) (vv : Value) : Prop where
  tq : IR W T S.2
  tl : S.2.length = n2
  ob : RB W O u1 vv (.slice none 0 0)
  own : W.ownsRow base 59 6 vv S.1.length (flat S.1)
  ch : Chg (fun b => b = T ∨ b = O ∨ base ≤ b) w6 W
  bz : base ≤ W.heap.size
theorem RB.put1 {W : World} {p : Nat} {b0 b1 b2 : Value} (t : RB W p b0 b1 b2) (v : Value) : RB (W.setCell ⟨p, 1, none⟩ v) p b0 v b2 :=
  ⟨by simpa using t.sz, by rw [cell_ne _ _ _ _ _ _ (.inr (by omega))]; exact t.q0, cell_eq _ _ _ _ _ t.q1, by rw [cell_ne _ _ _ _ _ _ (.inr (by omega))]; exact t.q2, by simp [t.f0], by simp [t.f1], by simp [t.f2]⟩
theorem RB.put2 {W : World} {p : Nat} {b0 b1 b2 : Value} (t : RB W p b0 b1 b2) (v : Value) : RB (W.setCell ⟨p, 2, none⟩ v) p b0 b1 v :=
  ⟨by simpa using t.sz, by rw [cell_ne _ _ _ _ _ _ (.inr (by omega))]; exact t.q0, by rw [cell_ne _ _ _ _ _ _ (.inr (by omega))]; exact t.q1, cell_eq _ _ _ _ _ t.q2, by simp [t.f0], by simp [t.f1], by simp [t.f2]⟩
theorem DS.stay {W W' w6 : World} {T O n2 base : Nat} {u1 vv : Value} {S : List Vl × List Int} (f : DS W w6 T O n2 base u1 S vv) (k : Kept 0 0 W W') : DS W' w6 T O n2 base u1 S vv :=
  ⟨f.tq.keep k (.inr (.inr (Nat.le_refl _))), f.tl, f.ob.keep k, own_keepJ f.own k, Chg.trans f.ch k.chg, Nat.le_trans f.bz k.size⟩
/-- Ahead of the store into the box. -/
theorem DS.mid {W W7 w9 w6 : World} {T O n2 base i : Nat} {u1 vv : Value} {S : List Vl × List Int} {x : Int} {o : Obj} {m : Nat} (f : DS W w6 T O n2 base u1 S vv) (k7 : Kept 0 0 (W.setCell ⟨T, i, none⟩ (.int .i64 x)) W7) (hO : O < base) (hTO : T ≠ O) (hg : ((W7.alloc o).drewN m).grownBy w9 vv.ownBlock) : RB w9 O u1 vv (.slice none 0 0) := by
  have kq := kept_setCell (lo := T) (hi := T + 1) W ⟨T, i, none⟩ (.int .i64 x) (.inl ⟨Nat.le_refl _, Nat.lt_succ_self _⟩)
  have ka : Kept 0 0 W7 ((W7.alloc o).drewN m) := (kept_alloc 0 0 W7 o).trans (kept_drewN 0 0 _ m)
  have cg := chg_grow hg
  have hR : ∀ b, vv.ownBlock = some b → base ≤ b := fun b hb => (own_blkV f.own hb).1
  exact (((f.ob.keepC (kq.chg1 (S := fun b => b = T) rfl) (Ne.symm hTO)).keep k7).keep ka).keepC cg (fun c => by have := hR _ c; omega)
theorem DS.next {W W7 w9 w6 : World} {T O n2 base i g9 cap9 : Nat} {u1 vv : Value} {S : List Vl × List Int} {x : Int} {nv : Vl} {o : Obj} {m : Nat} (f : DS W w6 T O n2 base u1 S vv) (k7 : Kept 0 0 (W.setCell ⟨T, i, none⟩ (.int .i64 x)) W7) (hT : T < base) (hO : O < base) (hTO : T ≠ O)
    (hown : w9.ownsRow base 59 6 (.slice (some ⟨g9, 0, none⟩) (S.1.length + 1) cap9) (S.1.length + 1) (flat S.1 ++ nv.cells)) (hg : ((W7.alloc o).drewN m).grownBy w9 vv.ownBlock) :
    DS (w9.setCell ⟨O, 1, none⟩ (.slice (some ⟨g9, 0, none⟩) (S.1.length + 1) cap9)) w6 T O n2 base u1 (S.1 ++ [nv], S.2.set i x) (.slice (some ⟨g9, 0, none⟩) (S.1.length + 1) cap9) := by
  have kq := kept_setCell (lo := T) (hi := T + 1) W ⟨T, i, none⟩ (.int .i64 x) (.inl ⟨Nat.le_refl _, Nat.lt_succ_self _⟩)
  have ka : Kept 0 0 W7 ((W7.alloc o).drewN m) := (kept_alloc 0 0 W7 o).trans (kept_drewN 0 0 _ m)
  have cg := chg_grow hg
  have hR : ∀ b, vv.ownBlock = some b → base ≤ b := fun b hb => (own_blkV f.own hb).1
  have ob9 := DS.mid f k7 hO hTO hg
  have ko := kept_setCell (lo := O) (hi := O + 1) w9 ⟨O, 1, none⟩ (.slice (some ⟨g9, 0, none⟩) (S.1.length + 1) cap9) (.inl ⟨Nat.le_refl _, Nat.lt_succ_self _⟩)
  have t1 := (((f.tq.set i x).keep k7 (.inr (.inr (Nat.le_refl _)))).keep ka (.inr (.inr (Nat.le_refl _)))).keepC cg (fun c => by have := hR _ c; omega)
  have g9b := own_blkV hown (k := g9) rfl
  refine ⟨t1.keep ko (by omega), by simp [f.tl], ob9.put1 _, ?_, ?_, ?_⟩
  · rw [List.length_append, List.length_singleton, flat_append, flat_one]
    exact own_setCell hown (fun c => by simp [Value.ownBlock] at c; omega)
  · exact Chg.trans f.ch (Chg.trans (kq.chg1 (.inl rfl)) (Chg.trans k7.chg (Chg.trans ka.chg (Chg.trans (cg.mono fun b _ c => .inr (.inr (hR b c))) (ko.chg1 (.inr (.inl rfl)))))))
  · have h1 := f.bz
    have h3 := kq.size
    have h4 := k7.size
    have h5 := ka.size
    have h6 := cg.size
    have h7 := ko.size
    omega
/-- The new graph's outputs: k of them, in a row from base on. -/
structure DT (W wE : World) (O base k : Nat) (u1 u2 ov : Value) (xs : List Int) : Prop where
  ob : RB W O u1 u2 ov
  own : W.ownsRow base 3 1 ov k (xs.map (Value.int .i64))
  ch : Chg (fun b => b = O ∨ base ≤ b) wE W
  bz : base ≤ W.heap.size
theorem DT.mid {W w9 wE : World} {O base k : Nat} {u1 u2 ov : Value} {xs : List Int} {o : Obj} {m : Nat} (f : DT W wE O base k u1 u2 ov xs) (hO : O < base) (hg : ((W.alloc o).drewN m).grownBy w9 ov.ownBlock) : RB w9 O u1 u2 ov := by
  have ka : Kept 0 0 W ((W.alloc o).drewN m) := (kept_alloc 0 0 W o).trans (kept_drewN 0 0 _ m)
  exact (f.ob.keep ka).keepC (chg_grow hg) (fun c => by have := (own_blkV f.own c).1; omega)
theorem DT.next {W w9 wE : World} {O base k g9 cap9 : Nat} {u1 u2 ov : Value} {xs : List Int} {x : Int} {o : Obj} {m : Nat} (f : DT W wE O base k u1 u2 ov xs) (hO : O < base) (hown : w9.ownsRow base 3 1 (.slice (some ⟨g9, 0, none⟩) (k + 1) cap9) (k + 1) (xs.map (Value.int .i64) ++ [.int .i64 x])) (hg : ((W.alloc o).drewN m).grownBy w9 ov.ownBlock) :
    DT (w9.setCell ⟨O, 2, none⟩ (.slice (some ⟨g9, 0, none⟩) (k + 1) cap9)) wE O base (k + 1) u1 u2 (.slice (some ⟨g9, 0, none⟩) (k + 1) cap9) (xs ++ [x]) := by
  have ka : Kept 0 0 W ((W.alloc o).drewN m) := (kept_alloc 0 0 W o).trans (kept_drewN 0 0 _ m)
  have cg := chg_grow hg
  have hR : ∀ b, ov.ownBlock = some b → base ≤ b := fun b hb => (own_blkV f.own hb).1
  have ko := kept_setCell (lo := O) (hi := O + 1) w9 ⟨O, 2, none⟩ (.slice (some ⟨g9, 0, none⟩) (k + 1) cap9) (.inl ⟨Nat.le_refl _, Nat.lt_succ_self _⟩)
  have g9b := own_blkV hown (k := g9) rfl
  refine ⟨(DT.mid f hO hg).put2 _, ?_, ?_, ?_⟩
  · rw [List.map_append]
    exact own_setCell hown (fun c => by simp [Value.ownBlock] at c; omega)
  · exact Chg.trans f.ch (Chg.trans ka.chg (Chg.trans (cg.mono fun b _ c => .inr (hR b c)) (ko.chg1 (.inl rfl))))
  · have h1 := f.bz
    have h5 := ka.size
    have h6 := cg.size
    have h7 := ko.size
    omega
set_option maxRecDepth 100000 in
set_option maxHeartbeats 16000000 in
theorem l4dead (w : World) (b1 b2 b3 : Option Addr) (n1 c1 n2 c2 n3 c3 : Nat) (ins : List Int) (vs : List Vl) (outs : List Int) (f : GS w b1 n1 b2 n2 b3 n3 ins vs outs) (hok : okG ins vs outs = true) :
    Calls Tryz.prog 35 #[gagg b1 n1 c1 b2 n2 c2 b3 n3 c3] w fun e w' => SPo w n1 n3 ins (deadM vs outs) e w' := by
  obtain ⟨i0, hii, hz0, hz1, hz2⟩ := info_parts infoV
  obtain ⟨j0, hjj, hy0, hy1, hy2⟩ := info_parts infoI
  obtain ⟨⟨hl1, hl2, hl3⟩, _, hv, ho, _⟩ := okG_parts hok
  have hvl : vs.length = n2 := f.v.len
  have hol : outs.length = n3 := f.o.len
  have hil : ins.length = n1 := f.i.len
  have hn1 : n1 ≤ 20 := by omega
  have hn2 : n2 ≤ 2000 := by omega
  have hn3 : n3 ≤ 50 := by omega
  have HV : Hid (∀ j, j < n2 → okV ins vs j = true) := fun j hj => hv j (by omega)
  have HOUT : Hid (∀ o ∈ outs, 0 ≤ o ∧ o < n2) := fun o h => by have := ho o h; omega
  have HL : Hid (vs.length = n2 ∧ outs.length = n3) := ⟨hvl, hol⟩
  have HOO : Hid (∀ o ∈ outs, 0 ≤ o ∧ o < vs.length) := ho
  have k0 := kept_alloc 0 0 w (gbox b1 n1 c1 b2 n2 c2 b3 n3 c3)
  have hB := g0_start w (.slice b1 n1 c1) (.slice b2 n2 c2) (.slice b3 n3 c3)
  have hz : (w.alloc (gbox b1 n1 c1 b2 n2 c2 b3 n3 c3)).heap.size = w.heap.size + 1 := by simp
  have k1 := kept_alloc 0 0 (w.alloc (gbox b1 n1 c1 b2 n2 c2 b3 n3 c3)) nbox
  have hR := rb_start (w.alloc (gbox b1 n1 c1 b2 n2 c2 b3 n3 c3))
  rw [hz] at hR
  have hz1' : ((w.alloc (gbox b1 n1 c1 b2 n2 c2 b3 n3 c3)).alloc nbox).heap.size = w.heap.size + 1 + 1 := by simp
  have hm := make_b n2 ((w.alloc (gbox b1 n1 c1 b2 n2 c2 b3 n3 c3)).alloc nbox) (by omega)
  have hN := BR.made ((w.alloc (gbox b1 n1 c1 b2 n2 c2 b3 n3 c3)).alloc nbox) n2
  have k2 := kept_alloc 0 0 ((w.alloc (gbox b1 n1 c1 b2 n2 c2 b3 n3 c3)).alloc nbox) (.cells (madeCells #[.bool false] n2) 4)
  rw [hz1'] at hm hN
  have HB : Hid _ := (hB.keep k1).keep k2
  have HR : Hid _ := hR.keep k2
  have HF : Hid _ := f.keep ((k0.trans k1).trans k2)
  have HFV : Hid (VS w 0 w.heap.size b2 n2 vs ∧ IS w 0 w.heap.size b1 n1 ins ∧ IS w 0 w.heap.size b3 n3 outs) := ⟨f.v, f.i, f.o⟩
  have HK : Hid _ := (k0.trans k1).trans k2
  have hN0 : ndS vs outs 0 = List.replicate n2 false := by rw [ndS, hvl]
  rw [← hN0] at hN
  have HN : Hid _ := hN
  have HZ2 : Hid ((((w.alloc (gbox b1 n1 c1 b2 n2 c2 b3 n3 c3)).alloc nbox).alloc (.cells (madeCells #[.bool false] n2) 4)).heap.size = w.heap.size + 1 + 1 + 1) := by show _ = _; simp
  clear f hok hl1 hl2 hl3 hv ho hvl hol hil hR hz hz1' k0 k1 k2 hN hN0
  obtain ⟨_, q0, q1, q2⟩ := hB
  obtain ⟨_, p0, p1, p2⟩ := HB.out
  go_enter Tryz.func35, Tryz.ntmps35
  go_wp2_with fail
  clear q0 q1 q2 p0 p1 p2 hm
  generalize ((w.alloc (gbox b1 n1 c1 b2 n2 c2 b3 n3 c3)).alloc nbox).alloc (.cells (madeCells #[.bool false] n2) 4) = w1 at HB HR HF HK HN HZ2 ⊢
  go_loopw [5] (fun x W => ∃ j : Nat, j ≤ n2 ∧ x = .int .i64 ((n2 : Int) - 1 - j) ∧ Hid (BR W (w.heap.size + 1 + 1) (ndS vs outs j)) ∧ Hid (Kept (w.heap.size + 1 + 1) (w.heap.size + 1 + 1 + 1) w1 W)) (fun x _ => (intOf x + 1).toNat)
  case atStart => exact ⟨0, Nat.zero_le _, by go_num, HN, Kept.refl _ _ _⟩
  case round =>
    obtain ⟨j, hj, rfl, hF, hK⟩ := hrel
    clear HN
    by_cases hlt : j < n2
    · obtain ⟨i, hi⟩ : ∃ i : Nat, i = n2 - 1 - j := ⟨_, rfl⟩
      have hi2 : (n2 : Int) - 1 - j = i := by omega
      have hi3 : i < n2 := by omega
      rw [hi2]
      have HI0 : Hid (i = n2 - 1 - j) := hi
      have HI1 : Hid ((n2 : Int) - 1 - j = i) := hi2
      clear hi hi2
      have hln : (ndS vs outs j).length = n2 := by rw [ndS_len]; exact HL.out.1
      have HLN : Hid _ := hln
      have cb := hF.out.cell i (by omega)
      have fb' := hF.out.free i
      have hops := okV_ops (HV.out i hi3)
      have hopr := okV_opR (HV.out i hi3)
      -- the world behind 'need[i] = ..'
      have HG2 : Hid (∀ W', Kept (w.heap.size + 1 + 1) (w.heap.size + 1 + 1 + 1) w1 W' → ∃ g off, b2 = some ⟨g, off, none⟩ ∧ g < W'.heap.size ∧ g < w.heap.size ∧ At W' g (off + i * 6) (vs.getD i Vl.zero)) := fun W' kW => by
        obtain ⟨g, off, e, z1, z2, _, z4⟩ := (VS.keep (VS.keep HFV.out.1 HK.out (.inr (.inr (Nat.le_refl _)))) kW (.inl (by omega))).at_idx hi3
        exact ⟨g, off, e, z1, z2, z4⟩
      have HOUTS : Hid (∀ W', Kept (w.heap.size + 1 + 1) (w.heap.size + 1 + 1 + 1) w1 W' → Calls Tryz.prog 54 #[gagg b1 n1 c1 b2 n2 c2 b3 n3 c3, .int .i64 (i : Nat)] W' fun e w' => e = .returned (.bool (isO outs i)) ∧ Kept 0 0 W' w') := fun W' kW =>
        l4needed W' b1 b2 b3 n1 c1 n2 c2 n3 c3 i _ _ outs ((HFV.out.2.2.keep HK.out (.inr (.inr (Nat.le_refl _)))).keep kW (.inl (by omega))) (by omega)
      have HB5 : Hid _ := G0.keepT HB.out hK.out (by omega)
      have HST : Hid (ndS vs outs (j + 1) = if (ndG outs (ndS vs outs j) i).getD i false = true then setAll (ndG outs (ndS vs outs j) i) (opsOf (vs.getD i Vl.zero)) else ndG outs (ndS vs outs j) i) := by
        show _ = _
        have := ndS_step (vs := vs) (outs := outs) (k := j) rfl
        rw [HL.out.1, ← HI0.out] at this
        exact this
      -- one walk behind the store, whatever came ahead of it
      have HGI : Hid ((ndG outs (ndS vs outs j) i).getD i false = ((ndS vs outs j).getD i false || isO outs i) ∧ ndG outs (ndS vs outs j) i = (ndS vs outs j).set i ((ndS vs outs j).getD i false || isO outs i)) := ⟨by unfold ndG; rw [set_atB _ _ _ _ (by omega), if_pos rfl], rfl⟩
      generalize hF0 : ndS vs outs j = F at hF cb HLN HST HGI hln
      clear hF0 hln
      obtain ⟨_, p0, p1, p2⟩ := HB5.out
      go_upto_region 6 with fail
      go_cut [32] (fun c wx => Hid (BR wx (w.heap.size + 1 + 1) (ndG outs F i)) ∧ Hid (Kept (w.heap.size + 1 + 1) (w.heap.size + 1 + 1 + 1) w1 wx))
      case first =>
        cases hb : F.getD i false
        · rw [hb] at cb HGI
          go_wp2_with fail
          refine Calls.mono (HOUTS.out wr hK.out) ?_
          rintro e w2 ⟨rfl, k2⟩
          have hF2 := BR.keep hF.out k2 (.inr (.inr (Nat.le_refl _)))
          have cb2 := hF2.cell i (by rw [HLN.out]; exact hi3)
          have fb2 := hF2.free i
          have R1 : Hid (BR (w2.setCell ⟨w.heap.size + 1 + 1, i, none⟩ (.bool (isO outs i))) (w.heap.size + 1 + 1) (ndG outs F i)) := by
            have := BR.set hF2 i (isO outs i)
            show BR _ _ _
            rw [HGI.out.2]
            exact this
          have R2 : Hid _ := Kept.trans (Kept.trans hK.out (k2.mono (lo' := w.heap.size + 1 + 1) (hi' := w.heap.size + 1 + 1 + 1) fun b _ c => by omega)) (kept_setCell (lo := w.heap.size + 1 + 1) (hi := w.heap.size + 1 + 1 + 1) w2 ⟨w.heap.size + 1 + 1, i, none⟩ (.bool (isO outs i)) (.inl ⟨Nat.le_refl _, Nat.lt_succ_self _⟩))
          generalize F.getD i false = z at cb2
          clear k2 hF2 hF hK
          go_wp2_with fail
          go_meet
          exact ⟨R1, R2⟩
        · rw [hb] at cb HGI
          have R1 : Hid (BR (wr.setCell ⟨w.heap.size + 1 + 1, i, none⟩ (.bool true)) (w.heap.size + 1 + 1) (ndG outs F i)) := by
            have := BR.set hF.out i true
            show BR _ _ _
            rw [HGI.out.2]
            exact this
          have R2 : Hid _ := Kept.trans hK.out (kept_setCell (lo := w.heap.size + 1 + 1) (hi := w.heap.size + 1 + 1 + 1) wr ⟨w.heap.size + 1 + 1, i, none⟩ (.bool true) (.inl ⟨Nat.le_refl _, Nat.lt_succ_self _⟩))
          clear hF hK
          go_wp2_with fail
          go_meet
          exact ⟨R1, R2⟩
      case rest =>
        obtain ⟨hF2, hK2⟩ := hcut
        clear hF hK HGI HOUTS cb fb' p0 p1 p2 HB5
        have HLN2 : Hid ((ndG outs F i).length = n2) := by show _ = _; unfold ndG; rw [List.length_set]; exact HLN.out
        generalize hF3 : ndG outs F i = F2 at hF2 HST HLN2
        clear hF3 HLN
        generalize hvv : vs.getD i Vl.zero = v at HG2 HST hops hopr
        clear hvv
        have HOP : Hid _ := hops
        have HL1 : Hid _ := l1ops v.op hopr.1 hopr.2
        have hc3 := cnt_le v.op
        clear hops hopr
        go_wp2_with fail
        go_loopw [6] (fun x W => ∃ q : Nat, q ≤ cnt v.op ∧ x = .int .i64 q ∧ Hid (q = 0 ∨ F2.getD i false = true) ∧ Hid (BR W (w.heap.size + 1 + 1) (setAll F2 ((opsOf v).take q))) ∧ Hid (Kept (w.heap.size + 1 + 1) (w.heap.size + 1 + 1 + 1) w1 W)) (fun x _ => cnt v.op - (intOf x).toNat)
        case atStart => exact ⟨0, Nat.zero_le _, rfl, .inl rfl, hF2, hK2⟩
        case round =>
          obtain ⟨q, hq, rfl, hA, hF, hK⟩ := hrel
          clear hF2 hK2
          obtain ⟨g, off, rfl, hg, hgw, hat⟩ := HG2.out wr hK.out
          obtain ⟨y0, y1, y2, y3, y4, y5⟩ := hat
          obtain ⟨_, p0, p1, p2⟩ := G0.keepT HB.out hK.out (by omega)
          have hlq : (setAll F2 ((opsOf v).take q)).length = n2 := by rw [setAll_len]; exact HLN2.out
          by_cases hqc : q < cnt v.op
          · cases hb : F2.getD i false
            · have hq0 : q = 0 := by
                rcases hA.out with c | c
                · exact c
                · rw [hb] at c; cases c
              subst hq0
              have cb := hF.out.cell i (by omega)
              rw [List.take_zero] at cb
              have e0 : setAll F2 [] = F2 := rfl
              rw [e0, hb] at cb
              have R1 : Hid (BR wr (w.heap.size + 1 + 1) (ndS vs outs (j + 1))) := by
                show BR _ _ _
                rw [HST.out, hb, if_neg (by simp)]
                exact hF.out
              have R2 : Hid _ := hK.out
              clear hF hK hA hlq hb e0
              go_wp2_with ((go_at_call 51; refine Calls.mono (HL1.out _) ?_; rintro e w9 ⟨rfl, rfl⟩))
              go_roundw
              case rel => exact ⟨j + 1, by omega, by have := HI1.out; congr 1 <;> omega, R1, R2⟩
              case measure => have := HI1.out; simp [intOf] <;> omega
            · have cb := hF.out.cell i (by omega)
              rw [setAll_true hb] at cb
              clear hb
              have hmem : (opsOf v).getD q 0 ∈ opsOf v := getD_memJ (by rw [opsOf_len]; exact hqc)
              have hob := HOP.out _ hmem
              rw [opsOf_fld v hqc] at hob
              obtain ⟨m, em, hm⟩ : ∃ m : Nat, fld v q = m ∧ m < n2 := ⟨(fld v q).toNat, by omega, by omega⟩
              have HFD : Hid (∀ W, Calls Tryz.prog 52 #[v.agg, .int .i64 (q : Int)] W fun e w' => e = .returned (.int .i64 (m : Nat)) ∧ Kept 0 0 W w') := fun W => by
                have := l1field W v q (by omega)
                rw [em] at this
                exact this
              go_wp2_with (first | (go_at_call 51; refine Calls.mono (HL1.out _) ?_; rintro e w9 ⟨rfl, rfl⟩) | fail)
              refine Calls.mono (HFD.out _) ?_
              rintro e w9 ⟨rfl, k9⟩
              have hF9 := BR.keep hF.out k9 (.inr (.inr (Nat.le_refl _)))
              have c2' := hF9.cell m (by omega)
              have fz := hF9.free m
              have R1 : Hid (BR (w9.setCell ⟨w.heap.size + 1 + 1, m, none⟩ (.bool true)) (w.heap.size + 1 + 1) (setAll F2 ((opsOf v).take (q + 1)))) := by
                have := BR.set hF9 m true
                show BR _ _ _
                rw [setAll_take _ _ (by rw [opsOf_len]; exact hqc), opsOf_fld v hqc, em, Int.toNat_natCast]
                exact this
              have R2 : Hid _ := Kept.trans (Kept.trans hK.out (k9.mono (lo' := w.heap.size + 1 + 1) (hi' := w.heap.size + 1 + 1 + 1) fun b _ c => by omega)) (kept_setCell (lo := w.heap.size + 1 + 1) (hi := w.heap.size + 1 + 1 + 1) w9 ⟨w.heap.size + 1 + 1, m, none⟩ (.bool true) (.inl ⟨Nat.le_refl _, Nat.lt_succ_self _⟩))
              generalize (setAll F2 ((opsOf v).take q)).getD m false = z at c2'
              clear hF hK hA hlq hmem hob em k9 hF9 cb y0 y1 y2 y3 y4 y5 p0 p1 p2
              go_wp2
              go_roundw
              case rel => exact ⟨q + 1, by omega, by go_num, .inr trivial, R1, R2⟩
              case measure => simp [intOf]; omega
          · obtain rfl : q = cnt v.op := by omega
            have R1 : Hid (BR wr (w.heap.size + 1 + 1) (ndS vs outs (j + 1))) := by
              have h1 := hF.out
              rw [List.take_of_length_le (by rw [opsOf_len]; omega)] at h1
              show BR _ _ _
              rw [HST.out]
              split
              · exact h1
              · rename_i hne
                rcases hA.out with c | c
                · have : opsOf v = [] := List.length_eq_zero_iff.1 (by rw [opsOf_len]; exact c)
                  rw [this] at h1
                  exact h1
                · exact absurd c hne
            have R2 : Hid _ := hK.out
            clear hF hK hA hlq
            go_wp2_with ((go_at_call 51; refine Calls.mono (HL1.out _) ?_; rintro e w9 ⟨rfl, rfl⟩))
            go_roundw
            case rel => exact ⟨j + 1, by omega, by have := HI1.out; congr 1 <;> omega, R1, R2⟩
            case measure => have := HI1.out; simp [intOf] <;> omega
    · obtain rfl : j = n2 := by omega
      have hx : (j : Int) - 1 - j = -1 := by omega
      rw [hx]
      clear hx
      have HNE : Hid (BR wr (w.heap.size + 1 + 1) (ndI vs outs j)) := by
        show BR _ _ _
        have e := nd_eq vs outs HOO.out
        rw [HL.out.1] at e
        rw [← e]
        exact hF.out
      have HK3 : Hid (Kept 0 0 w wr) := HK.out.new hK.out (by omega)
      have HB3 : Hid _ := G0.keepT HB.out hK.out (by omega)
      have HR3 : Hid _ := RB.keepC HR.out (hK.out.chg1 (S := fun b => b = w.heap.size + 1 + 1) rfl) (by omega)
      have HZ3 : Hid (w.heap.size + 1 + 1 + 1 ≤ wr.heap.size) := by have h1 := hK.out.size; have h2 := HZ2.out; show _ ≤ _; omega
      clear hF hK HB HR HF HK
      have hm := make_i j wr (by omega)
      have hT := IR.made wr j
      have k3 := kept_alloc 0 0 wr (.cells (madeCells #[.int .i64 0] j) 3)
      have HCI : Hid _ := l2copyIntsS (wr.alloc (.cells (madeCells #[.int .i64 0] j) 3)) _ _ b1 n1 c1 ins (by omega) (IS.keep HFV.out.2.1 (HK3.out.trans k3) (.inr (.inr (Nat.le_refl _))))
      have HT4 : Hid _ := hT
      have HK4 : Hid _ := HK3.out.trans k3
      have HB4 : Hid _ := HB3.out.keep k3
      have HR4 : Hid _ := HR3.out.keep k3
      have HN4 : Hid _ := BR.keep HNE.out k3 (.inr (.inr (Nat.le_refl _)))
      obtain ⟨_, p0, p1, p2⟩ := HB4.out
      clear k3 hT HK3 HB3 HR3 HNE
      go_wp2_with fail
      clear p0 p1 p2 hm
      have HZ4 : Hid ((wr.alloc (.cells (madeCells #[.int .i64 0] j) 3)).heap.size = wr.heap.size + 1) := by show _ = _; simp
      generalize wr.alloc (.cells (madeCells #[.int .i64 0] j) 3) = w4 at HCI HT4 HK4 HB4 HR4 HN4 HZ4 ⊢
      refine Calls.mono HCI.out ?_
      rintro e w5 ⟨a1, d1, rfl, o1, k5⟩
      have kb := kept_alloc 0 0 w5 (gbox a1 n1 d1 none 0 0 none 0 0)
      have HO6 : Hid _ := rb_box w5 (.slice a1 n1 d1) (.slice none 0 0) (.slice none 0 0)
      have HT6 : Hid _ := IR.keep HT4.out (k5.trans kb) (.inr (.inr (Nat.le_refl _)))
      have HK6 : Hid _ := HK4.out.trans (k5.trans kb)
      have HB6 : Hid _ := HB4.out.keep (k5.trans kb)
      have HR6 : Hid _ := HR4.out.keep (k5.trans kb)
      have HN6 : Hid _ := BR.keep HN4.out (k5.trans kb) (.inr (.inr (Nat.le_refl _)))
      have HI6 : Hid _ := own_keepJ o1 kb
      have HIB : Hid (∀ b, (Value.slice a1 n1 d1).ownBlock = some b → w4.heap.size ≤ b ∧ b < w5.heap.size) := fun b hb => own_blkV o1 hb
      have HZ6 : Hid (wr.heap.size + 1 ≤ w5.heap.size ∧ (w5.alloc (gbox a1 n1 d1 none 0 0 none 0 0)).heap.size = w5.heap.size + 1 ∧ w4.heap.size = wr.heap.size + 1) := ⟨by have := k5.size; have := HZ4.out; omega, by simp, HZ4.out⟩
      clear k5 kb o1 HCI HT4 HK4 HB4 HR4 HN4 HZ4
      go_wp2_with fail
      generalize w5.alloc (gbox a1 n1 d1 none 0 0 none 0 0) = w6 at HO6 HT6 HK6 HB6 HR6 HN6 HI6 HZ6 ⊢
      have HDS : Hid (DS w6 w6 wr.heap.size w5.heap.size j w6.heap.size (.slice a1 n1 d1) (dkSt (ndI vs outs j) vs 0) (.slice none 0 0)) :=
        ⟨by rw [dkSt, HL.out.1]; exact HT6.out, by rw [dkSt, HL.out.1]; simp, HO6.out, World.ownsRow_nil _ _ _ _, Chg.refl _ _, Nat.le_refl _⟩
      clear HO6 HT6
      have HZ7 : Hid (w.heap.size + 1 + 1 + 1 ≤ wr.heap.size ∧ wr.heap.size + 1 ≤ w5.heap.size ∧ w6.heap.size = w5.heap.size + 1 ∧ w4.heap.size = wr.heap.size + 1) := ⟨HZ3.out, HZ6.out⟩
      clear HZ3 HZ6
      generalize wr.heap.size = T at HDS HZ7 ⊢
      go_loopw [9] (fun x W => ∃ (i : Nat) (vv : Value), i ≤ j ∧ x = .int .i64 i ∧ Hid (DS W w6 T w5.heap.size j w6.heap.size (.slice a1 n1 d1) (dkSt (ndI vs outs j) vs i) vv)) (fun x _ => j - (intOf x).toNat)
      case atStart => exact ⟨0, .slice none 0 0, Nat.zero_le _, rfl, HDS⟩
      case round =>
        obtain ⟨i, vv, hi, rfl, hD⟩ := hrel
        clear HDS
        by_cases hlt : i < j
        · have hz8 : w6.heap.size ≤ wr.heap.size := hD.out.ch.size
          have hz9 := HZ7.out
          obtain ⟨g, off, rfl, hg, hgw, _, hat⟩ := (VS.keepC (VS.keep HFV.out.1 HK6.out (.inr (.inr (Nat.le_refl _)))) hD.out.ch (fun g _ h2 => by omega)).at_idx hlt
          have hops := okV_ops (HV.out i hlt)
          have hopr := okV_opR (HV.out i hlt)
          have hbr := BR.keepC HN6.out hD.out.ch (by omega)
          have hnl : (ndI vs outs j).length = j := by rw [ndI_len]; exact HL.out.1
          have cb := hbr.cell i (by omega)
          have HB7 : Hid _ := G0.keepC HB6.out hD.out.ch (by omega)
          have hdl := dkSt_len (ndI vs outs j) vs i
          obtain ⟨_, x0, x1, x2, xf0, xf1, xf2⟩ := hD.out.ob
          obtain ⟨_, p0, p1, p2⟩ := HB7.out
          cases hb : (ndI vs outs j).getD i false
          · have HE : Hid (DS wr w6 T w5.heap.size j w6.heap.size (.slice a1 n1 d1) (dkSt (ndI vs outs j) vs (i + 1)) vv) := by show DS _ _ _ _ _ _ _ _ _; rw [dk_false hb]; exact hD.out
            rw [hb] at cb
            clear hb hnl hdl hops hbr hD
            go_wp2
            go_roundw
            case rel => exact ⟨i + 1, vv, by omega, by go_num, HE⟩
            case measure => simp [intOf]; omega
          · rw [hb] at cb
            have HE : Hid _ := dk_true (vs := vs) hb
            generalize hv : vs.getD i Vl.zero = v at hat HE hops hopr
            generalize hS : dkSt (ndI vs outs j) vs i = S at hD HE hdl
            have HTL : Hid (S.2.length = j) := hD.out.tl
            have cT := IR.cell hD.out.tq i (by rw [HTL.out]; exact hlt)
            have fT := IR.free hD.out.tq i
            generalize S.2.getD i 0 = zz at cT
            obtain ⟨av, cv', rfl⟩ := own_form hD.out.own
            have HRN : Hid (∀ W, Kept 0 0 (wr.setCell ⟨T, i, none⟩ (.int .i64 (S.1.length : Nat))) W → Calls Tryz.prog 56 #[v.agg, .slice (some ⟨T, 0, none⟩) j j] W fun e w' => e = .returned (rnm (S.2.set i (S.1.length : Nat)) v).agg ∧ Kept 0 0 W w') := fun W kW =>
              l4with W v _ _ (some ⟨T, 0, none⟩) j j _ (IR.isAt (IR.keep (IR.set hD.out.tq i (S.1.length : Nat)) kW (.inr (.inr (Nat.le_refl _)))) (by rw [List.length_set]; exact hD.out.tl)) hopr (fun o h => by have := hops o h; omega)
            generalize rnm (S.2.set i (S.1.length : Nat)) v = nv at HE HRN
            have hsl : S.1.length ≤ 2000 := by omega
            have hkq := kept_setCell (lo := T) (hi := T + 1) wr ⟨T, i, none⟩ (.int .i64 (S.1.length : Nat)) (.inl ⟨Nat.le_refl _, Nat.lt_succ_self _⟩)
            have HAT : Hid _ := At.keep hat hg hkq (by omega)
            have HBX : Hid _ := RB.keepC hD.out.ob (hkq.chg1 (S := fun b => b = T) rfl) (by omega)
            have HPX : Hid _ := G0.keepT HB7.out hkq (by omega)
            have HOW : Hid _ := own_setCell (P := T) (o := i) (u := .int .i64 (S.1.length : Nat)) hD.out.own (fun c => by have := (own_blkV hD.out.own c).1; omega)
            have HDD : Hid _ := hD.out
            have hTP : T ≠ w.heap.size := by omega
            have hTO : T ≠ w5.heap.size := by omega
            have hTg : T ≠ g := by omega
            have hgz : g < wr.heap.size := hg
            obtain ⟨y0, y1, y2, y3, y4, y5⟩ := hat
            have HMID : Hid (∀ W7 w9 o m, Kept 0 0 (wr.setCell ⟨T, i, none⟩ (.int .i64 (S.1.length : Nat))) W7 → ((W7.alloc o).drewN m).grownBy w9 (Value.slice av S.1.length cv').ownBlock → _) := fun W7 w9 o m k7 hg9 => DS.mid (o := o) (m := m) HDD.out k7 (by omega) hTO hg9
            have HNXT : Hid (∀ W7 w9 o m g9 cap9, Kept 0 0 (wr.setCell ⟨T, i, none⟩ (.int .i64 (S.1.length : Nat))) W7 → w9.ownsRow w6.heap.size 59 6 (.slice (some ⟨g9, 0, none⟩) (S.1.length + 1) cap9) (S.1.length + 1) (flat S.1 ++ nv.cells) → ((W7.alloc o).drewN m).grownBy w9 (Value.slice av S.1.length cv').ownBlock → _) := fun W7 w9 o m g9 cap9 k7 ho9 hg9 => DS.next (o := o) (m := m) HDD.out k7 (by omega) (by omega) hTO ho9 hg9
            have HBZ : Hid (w6.heap.size ≤ (wr.setCell ⟨T, i, none⟩ (.int .i64 (S.1.length : Nat))).heap.size) := by show _ ≤ _; simp; exact HDD.out.bz
            go_wp2_with fail
            clear y0 y1 y2 y3 y4 y5 cT fT cb p0 p1 p2 x0 x1 x2 xf0 xf1 xf2 hkq
            generalize wr.setCell ⟨T, i, none⟩ (.int .i64 (S.1.length : Nat)) = W1 at HRN HAT HBX HPX HOW HMID HNXT HBZ ⊢
            have hgz1 : g < W1.heap.size := by have := HBZ.out; omega
            clear hD HDD hS hv hb hnl hdl hops hbr hopr HB7 hgz hg
            obtain ⟨y0, y1, y2, y3, y4, y5⟩ := HAT.out
            obtain ⟨_, x0, x1, x2, xf0, xf1, xf2⟩ := HBX.out
            obtain ⟨_, p0, p1, p2⟩ := HPX.out
            go_region_law (first
              | (go_simp; go_at_call 56; refine Calls.mono (HRN.out _ (kept_drew W1)) ?_; rintro e w7 ⟨rfl, k7⟩; have kd := (kept_drew W1).trans k7; obtain ⟨_, r0, r1, r2, rf0, rf1, rf2⟩ := RB.keep HBX.out kd)
              | (refine step_append_lies _ rfl (.tmp 82) (.tmp 90) 27 rfl w6.heap.size 59 i0 (vagg 0 0 0 0 0 0) 6 48 Tryz.underlying27 hii hz0 hz1 hz2 rfl (by decide) _ _ (flat S.1) (by simp [Act.eval]) ((own_keepJ HOW.out kd).alloc _) ⟨w7.heap.size, 0, none⟩ 1 1 nv.cells (by simp [Act.eval]) rfl (news6 w7 nv 0) (one6 nv) (by decide) (by unfold maxLen; omega) (by omega) (by have h1 := kd.size; have h2 := HBZ.out; simp; omega) _ rfl ?_; intro g9 cap9 w9 hown9 hg9 hat9 hlt9; obtain ⟨_, s0, s1, s2, sf0, sf1, sf2⟩ := HMID.out w7 w9 _ 0 kd hg9))
            all_goals
              have R : Hid _ := HNXT.out w7 w9 _ 0 g9 cap9 kd hown9 hg9
              clear hown9 hg9 hat9 hlt9 kd k7
              go_wp2
              go_roundw
              case rel => exact ⟨i + 1, _, by omega, by go_num, by rw [HE.out]; exact R⟩
              case measure => simp [intOf]; omega
        · obtain rfl : i = j := by omega
          have hz8 : w6.heap.size ≤ wr.heap.size := hD.out.ch.size
          have hz9 := HZ7.out
          have hdl := dkSt_len (ndI vs outs i) vs i
          have HM : Hid (deadM vs outs = ((dkSt (ndI vs outs i) vs i).1, mapO (dkSt (ndI vs outs i) vs i).2 outs)) := by show _ = _; unfold deadM; rw [HL.out.1]
          have HKK : Hid _ := dkSt_kb (show Kb vs from HFV.out.1.lt) (ndI vs outs i) i
          obtain ⟨av, cv', rfl⟩ := own_form hD.out.own
          generalize hS : dkSt (ndI vs outs i) vs i = S at hD HM HKK hdl
          clear hS
          have HB7 : Hid _ := G0.keepC HB6.out hD.out.ch (by omega)
          have HR7 : Hid _ := RB.keepC HR6.out hD.out.ch (by omega)
          have HI7 : Hid _ := own_keepC HI6.out hD.out.ch (fun b hb => by have := HIB.out b hb; omega)
          have HK7 : Hid (Kept 0 0 w wr) := Chg.kept HK6.out hD.out.ch (fun b hb => by omega)
          have HT7 : Hid (IR wr T S.2 ∧ S.2.length = i) := ⟨hD.out.tq, hD.out.tl⟩
          have HO7 : Hid _ := hD.out.own
          have HDT : Hid (DT wr wr w5.heap.size wr.heap.size 0 (.slice a1 n1 d1) (.slice av S.1.length cv') (.slice none 0 0) ((mapO S.2 outs).take 0)) := ⟨hD.out.ob, World.ownsRow_nil _ _ _ _, Chg.refl _ _, Nat.le_refl _⟩
          have HZ8 : Hid (w5.heap.size < wr.heap.size ∧ T < wr.heap.size ∧ w.heap.size + 1 + 1 + 1 ≤ T ∧ T < w5.heap.size ∧ w6.heap.size = w5.heap.size + 1 ∧ w4.heap.size = T + 1) := ⟨by omega, by omega, by omega, by omega, by omega, by omega⟩
          have HWE : Hid (wr.heap.size ≤ wr.heap.size) := Nat.le_refl _
          clear hD HB6 HR6 HI6 HK6 HN6 hz8 hz9
          go_wp2_with fail
          generalize hEE : wr.heap.size = E at HDT HZ8 HWE
          have HEE : Hid (wr.heap.size = E) := hEE
          clear hEE HWE
          obtain ⟨wE, hwE⟩ : ∃ wE, wE = wr := ⟨_, rfl⟩
          rw [← hwE] at HDT HB7 HR7 HI7 HK7 HT7 HO7 HEE
          go_loopw [10] (fun x W => ∃ (k : Nat) (ov : Value), k ≤ n3 ∧ x = .int .i64 k ∧ Hid (DT W wE w5.heap.size E k (.slice a1 n1 d1) (.slice av S.1.length cv') ov ((mapO S.2 outs).take k))) (fun x _ => n3 - (intOf x).toNat)
          case atStart => exact ⟨0, .slice none 0 0, Nat.zero_le _, rfl, by rw [hwE] at HDT ⊢; exact HDT⟩
          case round =>
            obtain ⟨k, ov, hk, rfl, hD⟩ := hrel
            clear HDT hwE
            have hz8 : E ≤ wr.heap.size := hD.out.bz
            have hz9 := HZ8.out
            obtain ⟨_, p0, p1, p2⟩ := G0.keepC HB7.out hD.out.ch (by omega)
            obtain ⟨_, x0, x1, x2, xf0, xf1, xf2⟩ := hD.out.ob
            by_cases hkn : k < n3
            · have hom := getD_memJ (xs := outs) (q := k) (by rw [HL.out.2]; exact hkn)
              have hob := HOUT.out _ hom
              obtain ⟨m, em, hm⟩ : ∃ m : Nat, outs.getD k 0 = m ∧ m < i := ⟨(outs.getD k 0).toNat, by omega, by omega⟩
              obtain ⟨go, oo, kk, rfl, ek, _, hgo, cO⟩ := (IS.keepC (IS.keep HFV.out.2.2 HK7.out (.inr (.inr (Nat.le_refl _)))) hD.out.ch (fun g _ h2 => by omega)).at_idx (o := k) (by omega) (by omega)
              obtain rfl : k = kk := by omega
              rw [Int.toNat_natCast, em] at cO
              have cT := IR.cell (IR.keepC HT7.out.1 hD.out.ch (by omega)) m (by rw [HT7.out.2]; exact hm)
              have HX : Hid ((mapO S.2 outs).take (k + 1) = (mapO S.2 outs).take k ++ [S.2.getD m 0]) := by
                show _ = _
                rw [List.take_succ_eq_append_getElem (by rw [mapO_len, HL.out.2]; exact hkn)]
                congr 2
                unfold mapO
                rw [List.getElem_map, ← Int.toNat_natCast (m), ← em, List.getD_eq_getElem?_getD (l := outs), List.getElem?_eq_getElem (by rw [HL.out.2]; exact hkn)]
                rfl
              generalize S.2.getD m 0 = y at cT HX
              obtain ⟨ax, cx, rfl⟩ := own_form hD.out.own
              have hbz := hD.out.bz
              have HDD : Hid _ := hD.out
              clear hD hom hob em
              go_wp2_with fail
              go_region_law ((refine step_append_lies _ rfl (.tmp 101) (.tmp 110) 22 rfl E 3 j0 (.int .i64 0) 1 8 Tryz.underlying22 hjj hy0 hy1 hy2 rfl (by decide) _ _ (((mapO S.2 outs).take k).map (Value.int .i64)) (by simp [Act.eval]) (own_drewA HDD.out.own 1 _) ⟨wr.heap.size, 0, none⟩ 1 1 [.int .i64 y] (by simp [Act.eval]) rfl (cell_one_new _ _ _) (by intro u hu; simp at hu; subst hu; rfl) (by decide) (by unfold maxLen; omega) (by omega) (by simp; omega) _ rfl ?_; intro g9 cap9 w9 hown9 hg9 hat9 hlt9; obtain ⟨_, s0, s1, s2, sf0, sf1, sf2⟩ := DT.mid HDD.out HZ8.out.1 hg9))
              all_goals
                have R : Hid _ := DT.next HDD.out HZ8.out.1 hown9 hg9
                rw [← HX.out] at R
                clear hown9 hg9 hat9 hlt9
                go_wp2
                go_roundw
                case rel => exact ⟨k + 1, _, by omega, by go_num, R⟩
                case measure => simp [intOf]; omega
            · obtain rfl : k = n3 := by omega
              obtain ⟨ax, cx, rfl⟩ := own_form hD.out.own
              obtain ⟨_, s0, s1, s2, v0, v1, v2⟩ := RB.keepC HR7.out hD.out.ch (by omega)
              have HIF : Hid _ := own_keepC HI7.out hD.out.ch (fun b hb => by have := HIB.out b hb; omega)
              have HVF : Hid _ := own_keepC HO7.out hD.out.ch (fun b hb => by have := own_blkV HO7.out hb; have := HEE.out; omega)
              have HOF : Hid _ := hD.out.own
              have HKF : Hid (Kept 0 0 w wr) := Chg.kept HK7.out hD.out.ch (fun b hb => by omega)
              clear hD
              go_wp2_with fail
              obtain ⟨y0, y1, y2⟩ := put3_0 wr (w.heap.size + 1) _ _ _ s0 s1 s2 (.slice a1 n1 d1) (.slice av S.1.length cv') (.slice ax k cx)
              have kp := put3_kept wr (w.heap.size + 1) (.slice a1 n1 d1) (.slice av S.1.length cv') (.slice ax k cx)
              refine bodyPost_ret (v := gagg a1 n1 d1 av S.1.length cv' ax k cx) (by simp [results, Tryz.results35, go_sem, y0, y1, y2]) rfl ⟨a1, d1, av, S.1.length, cv', ax, cx, S.1, rfl, ⟨?_, ?_, ?_⟩, ?_, HKF.out.new kp (by omega)⟩
              · exact own_is (own_keepR HIF.out kp (fun b hb => by have := HIB.out b hb; omega)) (HFV.out.2.1.len)
              · exact own_vs (own_keepR HVF.out kp (fun b hb => by have := own_blkV HVF.out hb; omega)) rfl HKK.out
              · rw [HM.out]
                have h1 := own_keepR HOF.out kp (fun b hb => by have := own_blkV HOF.out hb; omega)
                rw [List.take_of_length_le (by rw [mapO_len, HL.out.2]; omega)] at h1
                exact own_is h1 (by rw [mapO_len]; exact HL.out.2)
              · rw [HM.out]; exact Lk.refl _
end Go.Proofs.YtcphabjekfihnabGreat
