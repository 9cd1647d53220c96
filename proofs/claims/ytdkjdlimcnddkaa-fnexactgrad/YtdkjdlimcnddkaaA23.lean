import Derived.Test.YtdkjdlimcnddkaaA22
namespace Go.Proofs.Ytdkjdlimcnddkaa
open Go.RowKit Flt
attribute [local go_sem] alloc_drewN setCell_drewN run_store_float run_store_func
theorem nil_ne (w : World) : (binOp .neq 199 .nilFunc .nilFunc).run Try.prog w = .ok (.bool false) w := by kernel_rfl
theorem fun_ne (w : World) (f : Fn) (r c : Array Value) : (binOp .neq 199 (.func f r c) .nilFunc).run Try.prog w = .ok (.bool true) w := by kernel_rfl
set_option maxRecDepth 100000 in
set_option maxHeartbeats 8000000 in
theorem ruleS (W0 W : World) (lo hi P K A S n : Nat) (u1 u3 rv vv : Value) (act : List Bool) (us : List Vl) (sl : List Int) (base : Nat) (R : Option Nat) (vs0 : List Vl) (i xw xi xo xp go : Nat) (a : Option Addr) (mp cp : Nat) (fv : Nat → Value)
    (ri : RuleIn W0 lo hi P K vs0 i xw xi xo xp go a mp cp fv) (f : RSt W0 W W lo hi P K A S n u1 u3 rv act base R R vv (us, sl)) (hS : S < lo) (hi' : i < n) (hv : vs0.length = n) (hp : Pre vs0 us) (hz : ∀ k, k ≤ cnt (vs0.getD i Vl.zero).op → Bz (gkTo vs0 act i (us, sl) k).1)
    (hl : ∀ j, j < n → 1 ≤ (vs0.getD j Vl.zero).len ∧ (vs0.getD j Vl.zero).len ≤ 1000) (hla : 0 ≤ laM vs0 i ∧ laM vs0 i ≤ 1000) (hops : ∀ k, k < cnt (vs0.getD i Vl.zero).op → 0 ≤ fld (vs0.getD i Vl.zero) k ∧ fld (vs0.getD i Vl.zero) k < i) :
    Calls Try.prog 158 #[.pointer (some ⟨xw, 0, none⟩), .pointer (some ⟨xi, 0, none⟩), .pointer (some ⟨xo, 0, none⟩), .pointer (some ⟨xp, 0, none⟩)] W fun e w' => GvO W P K A S n u1 u3 rv act base R (giM vs0 act i (us, sl)) e w' := by
  have HRI : Hid _ := ri
  have HF : Hid _ := f
  have HBX : Hid (∀ w', Same lo hi W0 w' → w'.cell? ⟨xw, 0, none⟩ = some (.pointer (some ⟨K, 0, none⟩)) ∧ w'.cell? ⟨xi, 0, none⟩ = some (.int .i64 (i : Int)) ∧ w'.cell? ⟨xo, 0, none⟩ = some (.slice (some ⟨go, 0, none⟩) (cnt (vs0.getD i Vl.zero).op) 3) ∧ w'.cell? ⟨xp, 0, none⟩ = some (.slice a mp cp)) := fun w' s =>
    ⟨by rw [s.cell ri.bw.lo_ ri.bw.hi_]; exact ri.bw.at_, by rw [s.cell ri.bi.lo_ ri.bi.hi_]; exact ri.bi.at_, by rw [s.cell ri.bo.lo_ ri.bo.hi_]; exact ri.bo.at_, by rw [s.cell ri.bp.lo_ ri.bp.hi_]; exact ri.bp.at_⟩
  have HLT : Hid (S < lo ∧ i < n ∧ vs0.length = n) := ⟨hS, hi', hv⟩
  have HPR : Hid _ := hp
  have HZ : Hid _ := hz
  have HL : Hid _ := hl
  have HLA : Hid _ := hla
  have HOP : Hid _ := hops
  obtain ⟨x0, x1, x2, x3⟩ := HBX.out W f.same
  have y1 := f.bk.c1
  have y2 := f.bk.c2
  have y3 := IR.cell f.bk.sp i (by rw [f.bk.ln]; exact hi')
  have hi1 : (0 : Int) ≤ (i : Int) := by omega
  have hi2 : (i : Int) < (n : Int) := by omega
  have HGM : Hid (sl.getD i 0 = -1 → giM vs0 act i (us, sl) = (us, sl)) := fun h => if_pos h
  have HGN : Hid (¬ sl.getD i 0 = -1 → giM vs0 act i (us, sl) = gkTo vs0 act i (us, sl) (cnt (vs0.getD i Vl.zero).op)) := fun h => if_neg h
  have HG : Hid (∃ G, G = giM vs0 act i (us, sl)) := ⟨_, rfl⟩
  clear ri f hS hv hp hz hl hla hops
  by_cases hs : sl.getD i 0 = -1
  · have hsl : ((sl.getD i 0) == -1) = true := by simp; exact hs
    rw [HGM.out hs]
    rw [show sl.getD i 0 = -1 from hs] at y3
    go_enter Try.func158, Try.ntmps158
    go_wp2_with fail
    go_region_held3 (fun w' => w'.cell? ⟨xw, 0, none⟩ = some (.pointer (some ⟨K, 0, none⟩)) ∧ w'.cell? ⟨xi, 0, none⟩ = some (.int .i64 (i : Int)) ∧ w'.cell? ⟨K, 2, none⟩ = some (.slice (some ⟨S, 0, none⟩) n n) ∧ w'.cell? ⟨S, i, none⟩ = some (.int .i64 (-1))) (go_keep) (fail)
    all_goals
      go_wp2_with fail
      refine bodyPost_ret (v := .tuple #[]) (by simp [results, Try.results158, go_sem]) rfl ?_
      exact ⟨rfl, R, vv, BS.keep HF.out.bs (kept_drew W), HF.out.bk.keep (kept_drew W), ⟨(kept_drew W).chg, .inl rfl⟩⟩
  · rw [HGN.out hs]
    have hsl : ((sl.getD i 0) == -1) = false := by simp; exact hs
    obtain ⟨q, hq⟩ : ∃ q, q = sl.getD i 0 := ⟨_, rfl⟩
    rw [← hq] at y3 hsl
    clear hq hs
    obtain ⟨m, hm⟩ : ∃ m, m = cnt (vs0.getD i Vl.zero).op := ⟨_, rfl⟩
    rw [← hm] at x2 ⊢
    have HM : Hid _ := hm
    have hm3 : m ≤ 3 := by have := cnt_le (vs0.getD i Vl.zero).op; omega
    clear hm
    go_enter Try.func158, Try.ntmps158
    go_wp2_with fail
    go_region_held3 (fun w' => w'.cell? ⟨xw, 0, none⟩ = some (.pointer (some ⟨K, 0, none⟩)) ∧ w'.cell? ⟨xi, 0, none⟩ = some (.int .i64 (i : Int)) ∧ w'.cell? ⟨K, 2, none⟩ = some (.slice (some ⟨S, 0, none⟩) n n) ∧ w'.cell? ⟨S, i, none⟩ = some (.int .i64 q)) (go_keep) (fail)
    all_goals
      go_wp2_with fail
      clear x0 x1 x2 x3 y1 y2 y3
      go_loopw [16] (fun x W' => ∃ (k : Nat) (R' : Option Nat) (vv' : Value), k ≤ m ∧ x = .int .i64 k ∧ Hid (RSt W0 W W' lo hi P K A S n u1 u3 rv act base R R' vv' (gkTo vs0 act i (us, sl) k))) (fun x _ => m - (intOf x).toNat)
      case atStart => exact ⟨0, R, vv, Nat.zero_le _, rfl, HF.out.keep (kept_drew W)⟩
      case round =>
        obtain ⟨k, R', vv', hk, rfl, hT⟩ := hrel
        by_cases hkm : k < m
        · have HNX : Hid (gkTo vs0 act i (us, sl) (k + 1) = gkM vs0 act i k (gkTo vs0 act i (us, sl) k)) := rfl
          have hBz := HZ.out k (by rw [← HM.out]; omega)
          have hPr := gkTo_pre (act := act) (i := i) (st := (us, sl)) HPR.out k
          generalize gkTo vs0 act i (us, sl) k = st at hT HNX hBz hPr
          obtain ⟨us1, sl1⟩ := st
          obtain ⟨x0, x1, x2, x3⟩ := HBX.out wr hT.out.same
          obtain ⟨g1, g2, g3⟩ := HRI.out.go_ k (by rw [← HM.out]; exact hkm)
          have hop := HOP.out k (by rw [← HM.out]; exact hkm)
          obtain ⟨o, ho⟩ := Int.eq_ofNat_of_zero_le hop.1
          have cO : wr.cell? ⟨go, k, none⟩ = some (.int .i64 (o : Int)) := by rw [hT.out.same.cell g1 g2, g3, ho]
          have hoi : o < i := by omega
          have c1 := hT.out.bk.c1
          have c2 := hT.out.bk.c2
          have cA := BR.cell hT.out.bk.ac o (by rw [hT.out.bk.al]; omega)
          have cS := IR.cell hT.out.bk.sp i (by rw [hT.out.bk.ln]; exact hi')
          obtain ⟨d, hd⟩ : ∃ d, d = sl1.getD i 0 := ⟨_, rfl⟩
          rw [← hd] at cS
          have HGK : Hid (gkM vs0 act i k (us1, sl1) = if act.getD o false = true ∧ prtB (vs0.getD i Vl.zero) k = true then giveM vs0 o (prtM (i : Int) (vs0.getD i Vl.zero) (laM vs0 i) k d us1.length).2 (us1 ++ (prtM (i : Int) (vs0.getD i Vl.zero) (laM vs0 i) k d us1.length).1, sl1) else (us1, sl1)) := by
            show _ = _
            unfold gkM
            rw [ho, Int.toNat_natCast, ← hd]
          have ho1 : (0 : Int) ≤ (o : Int) := by omega
          have ho2 : (o : Int) < (n : Int) := by omega
          have hk2 : (k : Int) < (mp : Int) := by have h1 := HRI.out.mp_; rw [← HM.out] at h1; omega
          have hk1 : (0 : Int) ≤ (k : Int) := by omega
          cases hact : act.getD o false
          · rw [hact] at cA
            have R2 : Hid (RSt W0 W wr lo hi P K A S n u1 u3 rv act base R R' vv' (gkTo vs0 act i (us, sl) (k + 1))) := by
              show RSt _ _ _ _ _ _ _ _ _ _ _ _ _ _ _ _ _ _ _
              rw [HNX.out, HGK.out, hact, if_neg (by simp)]; exact hT.out
            clear hT HNX hBz hPr HGK g1 g2 g3 hop ho hact hd
            go_wp2_with fail
            go_roundw
            case rel => exact ⟨k + 1, R', vv', by omega, by go_num, R2⟩
            case measure => simp [intOf]; omega
          · rw [hact] at cA HGK
            obtain ⟨g, hg, e1, e2, cF⟩ := HRI.out.pts.at_ k (by rw [← HM.out]; exact hkm)
            subst hg
            have cG : wr.cell? ⟨g, k, none⟩ = some (fv k) := by rw [hT.out.same.cell e1 e2]; exact cF
            cases hb : prtB (vs0.getD i Vl.zero) k
            · rw [HRI.out.pts.nil k (by rw [← HM.out]; exact hkm) hb] at cG
              have R2 : Hid (RSt W0 W wr lo hi P K A S n u1 u3 rv act base R R' vv' (gkTo vs0 act i (us, sl) (k + 1))) := by
                show RSt _ _ _ _ _ _ _ _ _ _ _ _ _ _ _ _ _ _ _
                rw [HNX.out, HGK.out, hb, if_neg (by simp)]; exact hT.out
              have hne := nil_ne wr
              clear hT HNX hBz hPr HGK g1 g2 g3 hop ho hact hd hb cF
              go_wp2_with fail
              go_roundw
              case rel => exact ⟨k + 1, R', vv', by omega, by go_num, R2⟩
              case measure => simp [intOf]; omega
            · obtain ⟨N, caps, ef, hent, hpc⟩ := HRI.out.pts.pc k (by rw [← HM.out]; exact hkm) hb
              rw [ef] at cG
              have hen := hent (#[.int .i64 d] ++ caps) wr.drew
              have HPC : Hid (Calls Try.prog N (#[.int .i64 d] ++ caps) wr.drew fun e w' => Bd wr.drew P u1 u3 us1 (cellsV us1) base R' (prtM (i : Int) (vs0.getD i Vl.zero) (laM vs0 i) k d us1.length) e w') := hpc wr.drew u1 u3 us1 (cellsV us1) base R' vv' d (hT.out.keep (kept_drew wr)).same hT.out.inr (hT.out.keep (kept_drew wr)).bs hPr hBz.bnd0
              have hsz := prt_size (i : Int) (vs0.getD i Vl.zero) (laM vs0 i) k d us1.length (by have := HL.out i hi'; omega) (HL.out i hi').2 HLA.out.1 HLA.out.2
              rw [hb, if_pos ⟨rfl, rfl⟩] at HGK
              generalize prtM (i : Int) (vs0.getD i Vl.zero) (laM vs0 i) k d us1.length = M at HPC hsz HGK
              obtain ⟨Ml, Mi⟩ := M
              have HT : Hid _ := hT.out
              have HGV : Hid (∀ w2 R2 vv2, RSt W0 W w2 lo hi P K A S n u1 u3 rv act base R R2 vv2 (us1 ++ Ml, sl1) → _) := fun w2 R2 vv2 (t : RSt W0 W w2 lo hi P K A S n u1 u3 rv act base R R2 vv2 (us1 ++ Ml, sl1)) => giveS w2 P K A S n u1 u3 rv vv2 act (us1 ++ Ml) sl1 base R2 t.bs t.bk t.dj vs0 hPr.app (hBz.bnd (by have := hsz.1; show Ml.length ≤ 10; have h : Ml.length ≤ 3 := hsz.1; omega) hsz.2.1 (by have h : cellsV Ml ≤ 3000 := hsz.2.2; omega)) o Mi (by have := HLT.out; omega) HLT.out.2.2 (HL.out o (by have := HLT.out; omega)).1 (HL.out o (by have := HLT.out; omega)).2
              have hMl : Hid (S < lo) := HLT.out.1
              have HDD : Hid (d = sl1.getD i 0) := hd
              have HGR : Hid (lo ≤ g ∧ g < hi ∧ W0.cell? ⟨g, k, none⟩ = some (.func (.func N) #[] caps)) := ⟨e1, e2, by rw [cF, ef]⟩
              have hne := fun_ne wr (.func N) #[] caps
              clear hT hBz hPr g1 g2 g3 hop ho hact hd hb cF hpc ef hsz hent
              have HP2 : Hid (Calls Try.prog N (#[.int .i64 d] ++ caps) wr.drew fun e w' => e = .returned (.int .i64 Mi) ∧ ∃ R2 vv2, BS w' P u1 u3 (us1 ++ Ml) (cellsV us1 + cellsV Ml) base R2 vv2 ∧ Stp P R' wr.drew R2 w') := HPC.out
              have HNN : Hid (gkTo vs0 act i (us, sl) (k + 1) = giveM vs0 o Mi (us1 ++ Ml, sl1)) := HNX.out.trans HGK.out
              have HGI : Hid ((giveM vs0 o Mi (us1 ++ Ml, sl1)).2.getD i 0 = d) := by
                show _ = _
                unfold giveM
                split
                · show (sl1.set o Mi).getD i 0 = d
                  rw [HDD.out, List.getD_eq_getElem?_getD, List.getElem?_set, if_neg (by omega), ← List.getD_eq_getElem?_getD]
                · show (sl1.set o _).getD i 0 = d
                  rw [HDD.out, List.getD_eq_getElem?_getD, List.getElem?_set, if_neg (by omega), ← List.getD_eq_getElem?_getD]
              have HSC : Hid (∀ w', Same lo hi W0 w' → w'.cell? ⟨g, k, none⟩ = some (.func (.func N) #[] caps)) := fun w' s' => by rw [s'.cell HGR.out.1 HGR.out.2.1]; exact HGR.out.2.2
              clear HPC HNX HGK
              go_wp2_with fail
              go_region_held3 (fun w' => w'.cell? ⟨xw, 0, none⟩ = some (.pointer (some ⟨K, 0, none⟩)) ∧ w'.cell? ⟨xp, 0, none⟩ = some (.slice (some ⟨g, 0, none⟩) mp cp) ∧ w'.cell? ⟨g, k, none⟩ = some (.func (.func N) #[] caps) ∧ w'.cell? ⟨xi, 0, none⟩ = some (.int .i64 (i : Int)) ∧ w'.cell? ⟨K, 2, none⟩ = some (.slice (some ⟨S, 0, none⟩) n n) ∧ w'.cell? ⟨S, i, none⟩ = some (.int .i64 d)) (go_keep) (first
                | (go_at_call 159; refine Calls.mono (HGV.out w2 R2 vv2 HT2.out) ?_; rintro e w3 ⟨rfl, R3, vv3, h3, b3, s3⟩; have HT3 : Hid _ := HT2.out.give hMl.out h3 b3 s3; obtain ⟨q0, q1, q2, q3⟩ := HBX.out w3 HT3.out.same; have q4 := HSC.out w3 HT3.out.same; have q5 := HT3.out.bk.c2; have q6 := IR.cell HT3.out.bk.sp i (by rw [HT3.out.bk.ln]; exact hi'); rw [HGI.out] at q6; clear h3 b3 s3)
                | (refine Calls.mono HP2.out ?_; rintro e w2 ⟨rfl, R2, vv2, h2, s2⟩; have HT2 : Hid _ := (HT.out.keep (kept_drew wr)).part h2 s2; obtain ⟨p0, p1, p2, p3⟩ := HBX.out w2 HT2.out.same; have p4 := HSC.out w2 HT2.out.same; have p5 := HT2.out.bk.c2; have p6 := IR.cell HT2.out.bk.sp i (by rw [HT2.out.bk.ln]; exact hi'); rw [← HDD.out] at p6; clear h2 s2))
              all_goals
                have R9 : Hid (RSt W0 W w3 lo hi P K A S n u1 u3 rv act base R R3 vv3 (gkTo vs0 act i (us, sl) (k + 1))) := by
                  show RSt _ _ _ _ _ _ _ _ _ _ _ _ _ _ _ _ _ _ _
                  rw [HNN.out]; exact HT3.out
                go_wp2_with fail
                go_roundw
                case rel => exact ⟨k + 1, R3, vv3, by omega, by go_num, R9⟩
                case measure => simp [intOf]; omega
        · obtain rfl : k = m := by omega
          have HT : Hid _ := hT.out
          clear hT
          go_wp2_with fail
          refine bodyPost_end (v := .tuple #[]) (by simp [results, Try.results158, go_sem]) rfl ?_
          exact ⟨rfl, R', vv', HT.out.bs, HT.out.bk, HT.out.stq⟩
end Go.Proofs.Ytdkjdlimcnddkaa
