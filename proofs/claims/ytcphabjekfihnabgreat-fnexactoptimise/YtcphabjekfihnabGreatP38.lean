import Derived.Test.YtcphabjekfihnabGreatP37
namespace Go.Proofs.YtcphabjekfihnabGreat
open Go.RowKit Flt
attribute [local go_sem] alloc_drewN setCell_drewN run_store_float

theorem Cn.keepR {w w' : World} {lo l h : Nat} {v : Value} {xs : List Nat} (f : Cn w lo v xs) (k : Kept l h w w') (hl : h ≤ lo ∨ h ≤ l) : Cn w' lo v xs := by
  obtain ⟨b, n, c, zs, h1, h2, h3, h4⟩ := f
  exact ⟨b, n, c, zs, h1, h2, (h3.keep k (by omega)).mono (Nat.le_refl _) k.size, h4⟩
theorem Cn.setS {w : World} {lo : Nat} {y : Value} {xs : List Nat} (f : Cn w lo y xs) {g k : Nat} {u : Value} (hc : w.cell? ⟨g, k, none⟩ = some u) (hu : ∀ x, u ≠ .float .f64 x) (v : Value) : Cn (w.setCell ⟨g, k, none⟩ v) lo y xs := by
  obtain ⟨b, n, c, zs, h1, h2, h3, h4⟩ := f
  exact ⟨b, n, c, zs, h1, h2, (h3.setS hc hu v).mono (Nat.le_refl _) (by simp), h4⟩
theorem Cn.low {w : World} {lo lo' : Nat} {y : Value} {xs : List Nat} (f : Cn w lo y xs) (h : lo' ≤ lo) : Cn w lo' y xs := by
  obtain ⟨b, n, c, zs, h1, h2, h3, h4⟩ := f
  exact ⟨b, n, c, zs, h1, h2, h3.mono h (Nat.le_refl _), h4⟩
/-- PassFold's lists: each in a block from lo on. -/
structure LW (w : World) (lo g n : Nat) (Vs : List (List Nat)) : Prop where
  lt : g < w.heap.size
  len : Vs.length = n
  free : ∀ o, w.frozen? ⟨g, o, none⟩ = false
  at_ : ∀ j, j < n → ∃ b m c, w.cell? ⟨g, j, none⟩ = some (.slice b m c) ∧ Cn w lo (.slice b m c) (Vs.getD j [])
theorem LW.lv {w : World} {lo g n : Nat} {Vs : List (List Nat)} (f : LW w lo g n Vs) : LV w g n n Vs :=
  ⟨f.lt, f.free, fun j hj => by
    obtain ⟨b, m, c, h1, h2⟩ := f.at_ j hj
    exact ⟨b, m, c, h1, fun _ => h2.cl⟩⟩
theorem LW.keepR {w w' : World} {lo g n l h : Nat} {Vs : List (List Nat)} (f : LW w lo g n Vs) (k : Kept l h w w') (hl : h ≤ lo ∨ h ≤ l) (hg : g < l ∨ h ≤ g ∨ h ≤ l) : LW w' lo g n Vs :=
  ⟨Nat.lt_of_lt_of_le f.lt k.size, f.len, fun o => by rw [k.frozen (p := ⟨g, o, none⟩) f.lt (by simp only; omega)]; exact f.free o, fun j hj => by
    obtain ⟨b, m, c, h1, h2⟩ := f.at_ j hj
    exact ⟨b, m, c, by rw [k.cell (p := ⟨g, j, none⟩) f.lt (by simp only; omega)]; exact h1, h2.keepR k hl⟩⟩
theorem LW.made (w : World) (n lo : Nat) : LW (w.alloc (.cells (madeCells #[.slice none 0 0] n) 72)) lo w.heap.size n (List.replicate n []) where
  lt := by simp
  len := by simp
  free := fun o => by simp
  at_ := fun j hj => by
    rw [World.cell?_alloc_new]
    refine ⟨none, 0, 0, ?_, ?_⟩
    · simp only [madeCells]
      rw [Array.getElem?_map, Array.getElem?_range, if_pos hj]
      have hm : j % 1 = 0 := Nat.mod_one j
      simp [hm]
    · rw [List.getD_eq_getElem?_getD, List.getElem?_replicate, if_pos hj]
      exact ⟨none, 0, 0, [], rfl, Nat.le_refl _, ⟨rfl, by simp, .inl rfl⟩, rfl⟩
theorem LW.put {w : World} {lo g n j : Nat} {Vs : List (List Nat)} (f : LW w lo g n Vs) (hj : j < n) {b : Option Addr} {m c : Nat} {x : List Nat} (hu : Cn w lo (.slice b m c) x) : LW (w.setCell ⟨g, j, none⟩ (.slice b m c)) lo g n (Vs.set j x) := by
  obtain ⟨b0, m0, c0, hc, _⟩ := f.at_ j hj
  refine ⟨by simpa using f.lt, by rw [List.length_set]; exact f.len, fun o => by simp [f.free o], fun i hi => ?_⟩
  by_cases e : i = j
  · subst e
    refine ⟨b, m, c, cell_eq _ _ _ _ _ hc, ?_⟩
    rw [List.getD_eq_getElem?_getD, List.getElem?_set, if_pos rfl, if_pos (by rw [f.len]; exact hi)]
    exact hu.setS hc (not_float_slice _ _ _) _
  · obtain ⟨b1, m1, c1, h1, h2⟩ := f.at_ i hi
    refine ⟨b1, m1, c1, by rw [cell_ne _ _ _ _ _ _ (.inr (Ne.symm e))]; exact h1, ?_⟩
    rw [List.getD_eq_getElem?_getD, List.getElem?_set, if_neg (Ne.symm e), ← List.getD_eq_getElem?_getD]
    exact h2.setS hc (not_float_slice _ _ _) _
/-- What the loop holds behind i values. -/
structure FI (W w1 : World) (g2 L n2 i : Nat) (vs us : List Vl) (Vs : List (List Nat)) : Prop where
  va : VA W g2 n2 (us ++ vs.drop i)
  len : us.length = i
  lk : Lk us (foldSt vs i)
  kb : Kb us
  lw : LW W w1.heap.size L n2 Vs
  wd : Words Vs
  hd : Held us Vs i
  ch : Chg (fun b => b = g2 ∨ b = L) w1 W
theorem words_set {Vs : List (List Nat)} (h : Words Vs) (i : Nat) {x : List Nat} (hx : ∀ q ∈ x, q < 18446744073709551616) : Words (Vs.set i x) := by
  intro k q hq
  rw [List.getD_eq_getElem?_getD, List.getElem?_set] at hq
  split at hq
  · split at hq
    · exact hx q hq
    · simp at hq
  · rw [← List.getD_eq_getElem?_getD] at hq
    exact h k q hq
theorem held_snoc {us : List Vl} {Vs : List (List Nat)} {i : Nat} {v : Vl} (h : Held us Vs i) (hl : us.length = i) (hv : v.op ≠ 1) : Held (us ++ [v]) Vs (i + 1) := by
  intro j hj ho
  by_cases c : j < i
  · rw [getD_fstV _ _ (by omega)] at ho ⊢
    exact h j c ho
  · have : j = us.length := by omega
    subst this
    rw [getD_lastV] at ho
    exact absurd ho hv
theorem held_put {us : List Vl} {Vs : List (List Nat)} {i : Nat} {v : Vl} {x : List Nat} (h : Held us Vs i) (hl : us.length = i) (hi : i < Vs.length) (hx : same x (List.replicate v.len.toNat v.k)) : Held (us ++ [v]) (Vs.set i x) (i + 1) := by
  intro j hj ho
  rw [List.getD_eq_getElem?_getD (l := Vs.set i x), List.getElem?_set]
  by_cases c : j < i
  · rw [getD_fstV _ _ (by omega)] at ho ⊢
    rw [if_neg (by omega), ← List.getD_eq_getElem?_getD]
    exact h j c ho
  · have : j = us.length := by omega
    subst this
    rw [getD_lastV] at ho ⊢
    rw [if_pos hl.symm, if_pos hi]
    exact hx
theorem drop_app {us vs : List Vl} {i : Nat} (hi : i < vs.length) : us ++ vs.drop i = (us ++ [vs.getD i Vl.zero]) ++ vs.drop (i + 1) := by
  rw [drop_cons hi]; simp
/-- Value i stays as it is. -/
theorem FI.stay {W W' w1 : World} {g2 L n2 i : Nat} {vs us : List Vl} {Vs : List (List Nat)} (f : FI W w1 g2 L n2 i vs us Vs) (k : Kept 0 0 W W') (hi : i < vs.length) (hkb : Kb vs) (h1 : foldV (foldSt vs i) (vs.getD i Vl.zero) = vs.getD i Vl.zero) (h2 : (vs.getD i Vl.zero).op ≠ 1) : FI W' w1 g2 L n2 (i + 1) vs (us ++ [vs.getD i Vl.zero]) Vs where
  va := by rw [← drop_app hi]; exact f.va.keep k (.inr (.inr (Nat.le_refl _)))
  len := by rw [List.length_append, f.len]; rfl
  lk := by rw [foldSt, h1]; exact f.lk.app rfl
  kb := f.kb.app (hkb.at_ i)
  lw := f.lw.keepR k (.inr (Nat.le_refl _)) (.inr (.inr (Nat.le_refl _)))
  wd := f.wd
  hd := held_snoc f.hd f.len h2
  ch := Chg.trans f.ch k.chg
theorem ofC_app {us R : List Vl} {v : Vl} (h : ∀ o ∈ opsOf v, 0 ≤ o ∧ o < us.length) : ofC (us ++ R) v = ofC us v := by
  unfold ofC
  congr 1
  rw [Bool.eq_iff_iff, List.all_eq_true, List.all_eq_true]
  have key : ∀ o ∈ opsOf v, (us ++ R).getD o.toNat Vl.zero = us.getD o.toNat Vl.zero := fun o ho => by
    have := h o ho
    rw [List.getD_eq_getElem?_getD, List.getElem?_append_left (by omega), ← List.getD_eq_getElem?_getD]
  constructor
  · intro q o ho; rw [← key o ho]; exact q o ho
  · intro q o ho; rw [key o ho]; exact q o ho

/-- Value i becomes a constant. -/
theorem FI.put {W W' W'' w1 : World} {g2 L n2 i : Nat} {vs us : List Vl} {Vs : List (List Nat)} {nv : Vl} {b : Option Addr} {m c : Nat} {x : List Nat} (f : FI W w1 g2 L n2 i vs us Vs) (k : Kept 0 0 W W') (k' : Kept 0 0 (put6 W' g2 (i * 6) nv) W'') (hi : i < n2) (hvl : vs.length = n2) (hg : g2 < w1.heap.size) (hgL : g2 ≠ L) (hcn : Cn W' w1.heap.size (.slice b m c) x)
    (h1 : cv nv = cv (foldV (foldSt vs i) (vs.getD i Vl.zero))) (hk : nv.k < 18446744073709551616) (hx : ∀ q ∈ x, q < 18446744073709551616) (hs : same x (List.replicate nv.len.toNat nv.k)) :
    LW W'' w1.heap.size L n2 Vs ∧ FI (W''.setCell ⟨L, i, none⟩ (.slice b m c)) w1 g2 L n2 (i + 1) vs (us ++ [nv]) (Vs.set i x) := by
  have kp := put6_kept W' g2 (i * 6) nv
  have lw2 : LW W'' w1.heap.size L n2 Vs := ((f.lw.keepR k (.inr (Nat.le_refl _)) (.inr (.inr (Nat.le_refl _)))).keepR kp (.inl (by omega)) (by omega)).keepR k' (.inr (Nat.le_refl _)) (.inr (.inr (Nat.le_refl _)))
  have cn2 := (hcn.keepR kp (.inl (by omega))).keepR k' (.inr (Nat.le_refl _))
  have va2 := ((f.va.keep k (.inr (.inr (Nat.le_refl _)))).step i hi nv).keep k' (.inr (.inr (Nat.le_refl _)))
  rw [mid_set f.len (by omega)] at va2
  have kq := kept_setCell (lo := L) (hi := L + 1) W'' ⟨L, i, none⟩ (.slice b m c) (.inl ⟨Nat.le_refl _, Nat.lt_succ_self _⟩)
  refine ⟨lw2, ⟨va2.keep kq (by omega), by rw [List.length_append, f.len]; rfl, by rw [foldSt]; exact f.lk.app h1, f.kb.app hk, lw2.put hi cn2, words_set f.wd i hx, held_put f.hd f.len (by rw [f.lw.len]; exact hi) hs, ?_⟩⟩
  exact Chg.trans f.ch (Chg.trans k.chg (Chg.trans (kp.chg1 (.inl rfl)) (Chg.trans k'.chg (kq.chg1 (.inr rfl)))))
set_option maxRecDepth 100000 in
set_option maxHeartbeats 8000000 in
theorem withFolded (w : World) (g1 n1 c1 g2 n2 c2 g3 n3 c3 : Nat) (ins : List Int) (vs : List Vl) (outs : List Int) (hP : PG w g1 g2 g3 n1 n2 n3 ins vs outs) (hok : okG ins vs outs = true) (hkb : Kb vs) :
    Calls Tryz.prog 46 #[gagg (some ⟨g1, 0, none⟩) n1 c1 (some ⟨g2, 0, none⟩) n2 c2 (some ⟨g3, 0, none⟩) n3 c3] w fun e w' => PO w g1 n1 c1 g2 g3 n3 c3 ins (foldSt vs vs.length, outs) e w' := by
  obtain ⟨⟨hl1, hl2, hl3⟩, _, hv, ho, _⟩ := okG_parts hok
  have hvl : vs.length = n2 := hP.v.len
  have hn2 : n2 ≤ 2000 := by omega
  have HV : Hid (∀ j, j < n2 → okV ins vs j = true) := fun j hj => hv j (by omega)
  have HL : Hid (vs.length = n2) := hvl
  have HKB : Hid _ := hkb
  have k0 := kept_alloc 0 0 w (gbox (some ⟨g1, 0, none⟩) n1 c1 (some ⟨g2, 0, none⟩) n2 c2 (some ⟨g3, 0, none⟩) n3 c3)
  have hB := g0_start w (.slice (some ⟨g1, 0, none⟩) n1 c1) (.slice (some ⟨g2, 0, none⟩) n2 c2) (.slice (some ⟨g3, 0, none⟩) n3 c3)
  have hz : (w.alloc (gbox (some ⟨g1, 0, none⟩) n1 c1 (some ⟨g2, 0, none⟩) n2 c2 (some ⟨g3, 0, none⟩) n3 c3)).heap.size = w.heap.size + 1 := by simp
  have k1 := kept_alloc 0 0 (w.alloc (gbox (some ⟨g1, 0, none⟩) n1 c1 (some ⟨g2, 0, none⟩) n2 c2 (some ⟨g3, 0, none⟩) n3 c3)) nbox
  have hR := rb_start (w.alloc (gbox (some ⟨g1, 0, none⟩) n1 c1 (some ⟨g2, 0, none⟩) n2 c2 (some ⟨g3, 0, none⟩) n3 c3))
  have hz1 : ((w.alloc (gbox (some ⟨g1, 0, none⟩) n1 c1 (some ⟨g2, 0, none⟩) n2 c2 (some ⟨g3, 0, none⟩) n3 c3)).alloc nbox).heap.size = w.heap.size + 1 + 1 := by simp
  have hm := make_s n2 ((w.alloc (gbox (some ⟨g1, 0, none⟩) n1 c1 (some ⟨g2, 0, none⟩) n2 c2 (some ⟨g3, 0, none⟩) n3 c3)).alloc nbox) (by omega)
  have hz2 : (((w.alloc (gbox (some ⟨g1, 0, none⟩) n1 c1 (some ⟨g2, 0, none⟩) n2 c2 (some ⟨g3, 0, none⟩) n3 c3)).alloc nbox).alloc (.cells (madeCells #[.slice none 0 0] n2) 72)).heap.size = w.heap.size + 1 + 1 + 1 := by simp
  have hT := LW.made ((w.alloc (gbox (some ⟨g1, 0, none⟩) n1 c1 (some ⟨g2, 0, none⟩) n2 c2 (some ⟨g3, 0, none⟩) n3 c3)).alloc nbox) n2 (((w.alloc (gbox (some ⟨g1, 0, none⟩) n1 c1 (some ⟨g2, 0, none⟩) n2 c2 (some ⟨g3, 0, none⟩) n3 c3)).alloc nbox).alloc (.cells (madeCells #[.slice none 0 0] n2) 72)).heap.size
  have k2 := kept_alloc 0 0 ((w.alloc (gbox (some ⟨g1, 0, none⟩) n1 c1 (some ⟨g2, 0, none⟩) n2 c2 (some ⟨g3, 0, none⟩) n3 c3)).alloc nbox) (.cells (madeCells #[.slice none 0 0] n2) 72)
  rw [hz1] at hm hT
  rw [hz] at hR
  have HB : Hid _ := (hB.keep k1).keep k2
  have HR : Hid _ := hR.keep k2
  have HP : Hid _ := hP.keep ((k0.trans k1).trans k2)
  have HK : Hid _ := (k0.trans k1).trans k2
  have HT : Hid _ := hT
  have HZ2 : Hid _ := hz2
  have HG : Hid (g1 < w.heap.size ∧ g2 < w.heap.size ∧ g3 < w.heap.size ∧ g1 ≠ g2 ∧ g1 ≠ g3 ∧ g2 ≠ g3) := ⟨hP.i.lt, hP.v.lt, hP.o.lt, hP.d12, hP.d13, hP.d23⟩
  clear hP hok hl1 hl2 hl3 hv ho hvl hT hR hz hz1 hz2 k0 k1 k2 hkb
  obtain ⟨_, b0, b1, b2⟩ := hB
  obtain ⟨_, q0, q1, q2⟩ := HB.out
  go_enter Tryz.func46, Tryz.ntmps46
  go_wp2_with fail
  clear q0 q1 q2 b0 b1 b2 hm
  generalize ((w.alloc (gbox (some ⟨g1, 0, none⟩) n1 c1 (some ⟨g2, 0, none⟩) n2 c2 (some ⟨g3, 0, none⟩) n3 c3)).alloc nbox).alloc (.cells (madeCells #[.slice none 0 0] n2) 72) = w1 at HB HR HP HK HT HZ2 ⊢
  go_loopw [14] (fun x W => ∃ (i : Nat) (us : List Vl) (Vs : List (List Nat)), i ≤ n2 ∧ x = .int .i64 i ∧ Hid (FI W w1 g2 (w.heap.size + 1 + 1) n2 i vs us Vs)) (fun x _ => n2 - (intOf x).toNat)
  case atStart => exact ⟨0, [], List.replicate n2 [], Nat.zero_le _, rfl, ⟨by simpa using HP.out.v, rfl, rfl, fun v hv => by simp at hv, HT.out, fun k x hx => by
      rw [List.getD_eq_getElem?_getD, List.getElem?_replicate] at hx
      split at hx <;> simp at hx, fun j hj => by omega, Chg.refl _ _⟩⟩
  case round =>
    obtain ⟨i, us, Vs, hi, rfl, hF⟩ := hrel
    clear HT
    by_cases hlt : i < n2
    · have hlt' : i < vs.length := by rw [HL.out]; exact hlt
      have hz8 : w1.heap.size ≤ wr.heap.size := hF.out.ch.size
      have hz9 : w1.heap.size = w.heap.size + 1 + 1 + 1 := HZ2.out
      have hat := hF.out.va.at_ i hlt
      rw [mid_at hF.out.len] at hat
      have HAT : Hid _ := hat
      have hok := HV.out i hlt
      have hops := okV_ops hok
      have hopr := okV_opR hok
      have HB5 : Hid _ := G0.keepC HB.out hF.out.ch (by rintro (c | c) <;> (have := HG.out; omega))
      have HOC : Hid (∀ W, Kept 0 0 wr W → Calls Tryz.prog 71 #[(vs.getD i Vl.zero).agg, .slice (some ⟨g2, 0, none⟩) n2 c2] W fun e w' => e = .returned (.bool (ofC us (vs.getD i Vl.zero))) ∧ Kept 0 0 W w') := fun W kW => by
        have := isOfConstants W (vs.getD i Vl.zero) g2 n2 c2 _ (hF.out.va.keep kW (.inr (.inr (Nat.le_refl _)))) (fun o h => by have := hops o h; omega)
        rw [ofC_app (fun o h => by rw [hF.out.len]; exact hops o h)] at this
        exact this
      have HSTAY : Hid (ofC us (vs.getD i Vl.zero) = false → foldV (foldSt vs i) (vs.getD i Vl.zero) = vs.getD i Vl.zero ∧ (vs.getD i Vl.zero).op ≠ 1) := fun h => fold_A hF.out.lk h
      have hus : ∀ j, j < i → (us.getD j Vl.zero).len = (vs.getD j Vl.zero).len := fun j hj => by
        have e0 := congrArg Vl.len (hF.out.lk.at_ j)
        have e : (us.getD j Vl.zero).len = ((foldSt vs i).getD j Vl.zero).len := e0
        rw [e, foldSt_lenV vs i j hj]
      have HZZ : Hid (∀ zs, ofC us (vs.getD i Vl.zero) = true → same zs (kop (vs.getD i Vl.zero) Vs) → _) := fun zs hc hz => fold_Z (zs := zs) hok hF.out.lk hF.out.hd hc hF.out.wd (foldSt_kb HKB.out i) hus (fun j hj => by rw [hus j hj]; have := of_decide_eq_true (okV_lenB (HV.out j (by omega))); omega) hz
      have HEL : Hid (∀ W, Kept 0 0 wr W → ofC us (vs.getD i Vl.zero) = true → Calls Tryz.prog 72 #[(vs.getD i Vl.zero).agg, .slice (some ⟨w.heap.size + 1 + 1, 0, none⟩) n2 n2, .slice none 0 0] W fun e w' => ∃ b' n' c', e = .returned (.slice b' n' c') ∧ Cn w' W.heap.size (.slice b' n' c') (kop (vs.getD i Vl.zero) Vs) ∧ Kept 0 0 W w') := fun W kW hc =>
        elementsOf_op W (vs.getD i Vl.zero) (fun c => by unfold ofC at hc; rw [c] at hc; simp at hc) (w.heap.size + 1 + 1) n2 n2 0 0 n2 none Vs (hF.out.lw.keepR kW (.inr (Nat.le_refl _)) (.inr (.inr (Nat.le_refl _)))).lv (Nat.le_refl _) (Kb.at_ HKB.out i) hF.out.wd (List.all_eq_true.2 fun o h => decide_eq_true (by have := hops o h; omega))
      have HKW : Hid (∀ x ∈ kop (vs.getD i Vl.zero) Vs, x < 18446744073709551616) := by
        show ∀ x ∈ _, _
        rw [kop_eq]
        exact kern_lt (Kb.at_ HKB.out i) (ite_lt (hF.out.wd _)) (ite_lt (hF.out.wd _)) (ite_lt (hF.out.wd _))
      have HLEN : Hid ((vs.getD i Vl.zero).len.toNat ≤ 1000) := by have := of_decide_eq_true (okV_lenB hok); show _ ≤ _; omega
      have HST : Hid (∀ W, Kept 0 0 wr W → foldV (foldSt vs i) (vs.getD i Vl.zero) = vs.getD i Vl.zero → (vs.getD i Vl.zero).op ≠ 1 → FI W w1 g2 (w.heap.size + 1 + 1) n2 (i + 1) vs (us ++ [vs.getD i Vl.zero]) Vs) := fun W kW h1 h2 => hF.out.stay kW hlt' HKB.out h1 h2
      clear hok hops hopr hus
      have HVE : Hid (vs.getD i Vl.zero = vs.getD i Vl.zero) := rfl
      generalize hv : vs.getD i Vl.zero = v at hat HAT HOC HSTAY HZZ HEL HKW HLEN HST
      have HVV : Hid (vs.getD i Vl.zero = v) := hv
      clear hv HVE
      obtain ⟨y0, y1, y2, y3, y4, y5⟩ := hat
      obtain ⟨_, p0, p1, p2⟩ := HB5.out
      have ka := kept_alloc 0 0 wr (vbox v.op v.len v.a v.b v.c v.k)
      have HKA : Hid _ := ka
      have HX : Hid (At (wr.alloc (vbox v.op v.len v.a v.b v.c v.k)) wr.heap.size 0 v) := vbox_atJ wr v
      have HB6 : Hid _ := HB5.out.keep ka
      have HZ6 : Hid (wr.heap.size < (wr.alloc (vbox v.op v.len v.a v.b v.c v.k)).heap.size) := by show _ < _; simp
      obtain ⟨_, p0', p1', p2'⟩ := HB6.out
      go_wp2_with fail
      clear y0 y1 y2 y3 y4 y5 p0 p1 p2 p0' p1' p2' ka
      generalize wr.alloc (vbox v.op v.len v.a v.b v.c v.k) = w2 at HKA HX HB6 HZ6 ⊢
      refine Calls.mono (HOC.out w2 HKA.out) ?_
      rintro e w3 ⟨rfl, k3⟩
      have HK3 : Hid _ := HKA.out.trans k3
      have HX3 : Hid _ := HX.out.keep HZ6.out k3 (.inr (.inr (Nat.le_refl _)))
      have HB3 : Hid _ := HB6.out.keep k3
      have HZ3 : Hid (wr.heap.size < w3.heap.size) := Nat.lt_of_lt_of_le HZ6.out k3.size
      clear k3 HX HB6 HZ6 HKA HOC
      cases hoc : ofC us v
      · obtain ⟨s1, s2⟩ := HSTAY.out hoc
        have R : Hid _ := HST.out w3 HK3.out s1 s2
        clear hoc s1 s2 HSTAY HZZ HEL HST
        go_wp2
        go_roundw
        case rel => exact ⟨i + 1, _, Vs, by omega, by go_num, R⟩
        case measure => simp [intOf]; omega
      · have HE4 : Hid _ := HEL.out w3 HK3.out hoc
        have HZ4 : Hid _ := fun zs => HZZ.out zs hoc
        clear hoc HSTAY HEL HZZ
        obtain ⟨x0, x1, x2, x3, x4, x5⟩ := HX3.out
        simp only [Nat.zero_add] at x1 x2 x3 x4 x5
        go_wp2_with fail
        clear x0 x1 x2 x3 x4 x5
        refine Calls.mono HE4.out ?_
        rintro e w4 ⟨b', n', c', rfl, hC4, k4⟩
        obtain ⟨be, ne, ce, zs, ee, hle, hfs, hsm⟩ := hC4
        cases ee
        obtain ⟨u1, u2, u3, u4⟩ := HZ4.out zs hsm
        have hnl : n' = zs.length := hfs.len.symm
        have hn1 : 1 ≤ n' := by omega
        have HAS : Hid _ := allSame w4 _ _ b' n' c' zs hfs hn1 (by have := HLEN.out; omega)
        have HK4 : Hid _ := HK3.out.trans k4
        have HX4 : Hid _ := HX3.out.keep HZ3.out k4 (.inr (.inr (Nat.le_refl _)))
        have HB4 : Hid _ := HB3.out.keep k4
        have HZ5 : Hid (wr.heap.size < w4.heap.size ∧ w1.heap.size ≤ w3.heap.size) := ⟨Nat.lt_of_lt_of_le HZ3.out k4.size, by have := HZ3.out; omega⟩
        have HFS : Hid _ := hfs
        have HSM : Hid _ := hsm
        have HLE : Hid (n' ≤ c') := hle
        have HU3 : Hid _ := u3
        clear k4 HE4 HZ4 hfs hsm hle u1 u2 u3 hnl HK3 HX3 HB3 HZ3
        go_wp2_with fail
        refine Calls.mono HAS.out ?_
        rintro e w5 ⟨rfl, rfl⟩
        cases hun : uni zs
        · obtain ⟨s1, s2⟩ := u4 hun
          have R : Hid _ := HST.out w4 HK4.out s1 s2
          clear hun s1 s2 HST u4 HU3
          go_wp2
          go_roundw
          case rel => exact ⟨i + 1, _, Vs, by omega, by go_num, R⟩
          case measure => simp [intOf]; omega
        · obtain ⟨s1, s2⟩ := HU3.out hun
          have hlo : w1.heap.size ≤ w3.heap.size := HZ5.out.2
          have hcn : Cn w4 w1.heap.size (.slice b' n' c') (kop v Vs) := Cn.low ⟨b', n', c', zs, rfl, HLE.out, HFS.out, HSM.out⟩ hlo
          have hz0 : zs.getD 0 0 < 18446744073709551616 := getD_lt HFS.out.lt 0
          rcases HFS.out.at_ with z | ⟨ge, off, rfl, g5, g6, g7, hcl⟩
          · omega
          have ce := hcl 0 (by omega)
          rw [Nat.add_zero] at ce
          have HPUT : Hid (∀ W'', Kept 0 0 (put6 w4 g2 (i * 6) ⟨1, v.len, 0, 0, 0, zs.getD 0 0⟩) W'' → _) := fun W'' k' => FI.put hF.out HK4.out k' hlt HL.out (by have := HG.out; omega) (by have := HG.out; omega) hcn (by rw [HVV.out]; exact s1) hz0 HKW.out s2
          have hgP : g2 ≠ w.heap.size := by have := HG.out; omega
          have hgV : g2 ≠ wr.heap.size := by have := HG.out; omega
          have hgE : g2 ≠ ge := by have := HG.out; omega
          obtain ⟨x0, x1, x2, x3, x4, x5⟩ := HX4.out
          simp only [Nat.zero_add] at x1 x2 x3 x4 x5
          obtain ⟨_, p0, p1, p2⟩ := HB4.out
          obtain ⟨t0, t1, t2, t3, t4, t5⟩ := At.keep HAT.out hF.out.va.lt HK4.out (.inr (.inr (Nat.le_refl _)))
          have tfz := (VA.keep hF.out.va HK4.out (.inr (.inr (Nat.le_refl _)))).free
          have hn1' : 0 < n' := hn1
          generalize zs.getD 0 0 = z0 at ce HPUT
          clear s1 s2 hcn hz0 hcl HU3 u4 HAS HST HFS HSM HLE hun
          go_wp2_with fail
          go_region_held3 (fun W : World => W.cell? ⟨w.heap.size, 1, none⟩ = some (.slice (some ⟨g2, 0, none⟩) n2 c2) ∧ W.cell? ⟨wr.heap.size, 1, none⟩ = some (.int .i64 v.len) ∧ W.cell? ⟨ge, off, none⟩ = some (.float .f64 z0)) (first | go_keep | (exact ⟨(put6_out w4 g2 (i * 6) _ _ ⟨1, v.len, 0, 0, 0, z0⟩ (.inl hgP)).trans p1, (put6_out w4 g2 (i * 6) _ _ ⟨1, v.len, 0, 0, 0, z0⟩ (.inl hgV)).trans x1, (put6_out w4 g2 (i * 6) _ _ ⟨1, v.len, 0, 0, 0, z0⟩ (.inl hgE)).trans ce⟩)) (fail)
          obtain ⟨lw7, R⟩ := HPUT.out ((((((w4.setCell ⟨g2, i * 6, none⟩ (.int .i64 1)).setCell ⟨g2, i * 6 + 1, none⟩ (.int .i64 v.len)).setCell ⟨g2, i * 6 + 2, none⟩ (.int .i64 0)).setCell ⟨g2, i * 6 + 3, none⟩ (.int .i64 0)).setCell ⟨g2, i * 6 + 4, none⟩ (.int .i64 0)).setCell ⟨g2, i * 6 + 5, none⟩ (.float .f64 z0)).drew (kept_drew _)
          obtain ⟨b0, m0, d0, cL, _⟩ := lw7.at_ i hlt
          have fL := lw7.free i
          have R' : Hid _ := R
          clear R HPUT
          generalize ((((((w4.setCell ⟨g2, i * 6, none⟩ (.int .i64 1)).setCell ⟨g2, i * 6 + 1, none⟩ (.int .i64 v.len)).setCell ⟨g2, i * 6 + 2, none⟩ (.int .i64 0)).setCell ⟨g2, i * 6 + 3, none⟩ (.int .i64 0)).setCell ⟨g2, i * 6 + 4, none⟩ (.int .i64 0)).setCell ⟨g2, i * 6 + 5, none⟩ (.float .f64 z0)).drew = w7 at lw7 R' cL fL ⊢
          clear lw7 x0 x1 x2 x3 x4 x5 p0 p1 p2 t0 t1 t2 t3 t4 t5 tfz ce
          go_wp2
          go_roundw
          case rel => exact ⟨i + 1, _, _, by omega, by go_num, R'⟩
          case measure => simp [intOf]; omega
    · obtain rfl : i = n2 := by omega
      have hz8 : w1.heap.size ≤ wr.heap.size := hF.out.ch.size
      have hz9 : w1.heap.size = w.heap.size + 1 + 1 + 1 := HZ2.out
      have HA9 : Hid (VA wr g2 i us) := by
        have := hF.out.va
        rw [List.drop_of_length_le (by rw [HL.out]; omega), List.append_nil] at this
        exact this
      have HB9 : Hid _ := G0.keepC HB.out hF.out.ch (by rintro (c | c) <;> (have := HG.out; omega))
      have HR9 : Hid _ := RB.keepC HR.out hF.out.ch (by rintro (c | c) <;> (have := HG.out; omega))
      have HI9 : Hid _ := IBk.keepC HP.out.i hF.out.ch (by rintro (c | c) <;> (have := HG.out; omega))
      have HO9 : Hid _ := IBk.keepC HP.out.o hF.out.ch (by rintro (c | c) <;> (have := HG.out; omega))
      have HK9 : Hid (Chg (fun b => b = g2 ∨ b = g3) w wr) := Chg.new HK.out.chg hF.out.ch (fun b hb c => by rcases c with c | c <;> first | exact .inl c | omega)
      have HLK : Hid (Lk us (foldSt vs vs.length)) := by rw [HL.out]; exact hF.out.lk
      have HKU : Hid _ := hF.out.kb
      clear hF
      obtain ⟨_, p0, p1, p2⟩ := HB9.out
      obtain ⟨_, r0, r1, r2, f0, f1, f2⟩ := HR9.out
      go_wp2_with fail
      obtain ⟨y0, y1, y2⟩ := put3_0 wr (w.heap.size + 1) _ _ _ r0 r1 r2 (.slice (some ⟨g1, 0, none⟩) n1 c1) (.slice (some ⟨g2, 0, none⟩) i c2) (.slice (some ⟨g3, 0, none⟩) n3 c3)
      have kp := put3_kept wr (w.heap.size + 1) (.slice (some ⟨g1, 0, none⟩) n1 c1) (.slice (some ⟨g2, 0, none⟩) i c2) (.slice (some ⟨g3, 0, none⟩) n3 c3)
      refine bodyPost_ret (v := gagg (some ⟨g1, 0, none⟩) n1 c1 (some ⟨g2, 0, none⟩) i c2 (some ⟨g3, 0, none⟩) n3 c3) (by simp [results, Tryz.results46, go_sem, y0, y1, y2]) rfl ⟨g2, i, c2, us, rfl, ⟨?_, ?_, ?_, ?_, ?_, ?_⟩, HLK.out, HKU.out, ?_, .inl rfl⟩
      · exact HI9.out.keep kp (by have := HG.out; omega)
      · exact HA9.out.keep kp (by have := HG.out; omega)
      · exact HO9.out.keep kp (by have := HG.out; omega)
      · exact HG.out.2.2.2.1
      · exact HG.out.2.2.2.2.1
      · exact HG.out.2.2.2.2.2
      · exact Chg.new HK9.out (kp.chg1 (S := fun b => b = w.heap.size + 1) rfl) (fun b hb c => by omega)
end Go.Proofs.YtcphabjekfihnabGreat
