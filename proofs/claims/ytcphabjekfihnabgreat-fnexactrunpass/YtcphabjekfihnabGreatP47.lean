import Derived.Test.YtcphabjekfihnabGreatP46
import Derived.Deep.DrawnRows
namespace Go.Proofs.YtcphabjekfihnabGreat
open Go.RowKit Flt
attribute [local go_sem] alloc_drewN setCell_drewN run_store_float
attribute [local go_sem ↓] Go.wp_at_zero Go.wp_at_succ

theorem us_keepY {W W' : World} {us : List Value} {k : Nat} {v : Value} {Vs : List (List Nat)} (h : ∀ j, j < k → ∃ b n c, us[j]? = some (.slice b n c) ∧ Cl W (.slice b n c) (Vs.getD j []) ∧ (0 < n → ∀ p, b = some p → v.ownBlock ≠ some p.block)) (q : Kept 0 0 W W') :
    ∀ j, j < k → ∃ b n c, us[j]? = some (.slice b n c) ∧ Cl W' (.slice b n c) (Vs.getD j []) ∧ (0 < n → ∀ p, b = some p → v.ownBlock ≠ some p.block) := fun j hj => by
  obtain ⟨b, n, c, a1, a2, a3⟩ := h j hj
  exact ⟨b, n, c, a1, a2.keep q, a3⟩
/-- The cells that are read ahead of Kernel: the value's box at A, the list of arguments at B. -/
def NCy (w' : World) (A B : Nat) (v : Vl) (x0 x1 x2 : Value) : Prop :=
  w'.cell? ⟨A, 0, none⟩ = some (.int .i64 v.op) ∧ w'.cell? ⟨A, 0 + 1, none⟩ = some (.int .i64 v.len) ∧ w'.cell? ⟨A, 0 + 2, none⟩ = some (.int .i64 v.a) ∧ w'.cell? ⟨A, 0 + 3, none⟩ = some (.int .i64 v.b) ∧ w'.cell? ⟨A, 0 + 4, none⟩ = some (.int .i64 v.c) ∧ w'.cell? ⟨A, 0 + 5, none⟩ = some (.float .f64 v.k) ∧ w'.cell? ⟨B, 0, none⟩ = some x0 ∧ w'.cell? ⟨B, 1, none⟩ = some x1 ∧ w'.cell? ⟨B, 2, none⟩ = some x2
theorem NCy.of {w w' : World} {A B : Nat} {v : Vl} {x0 x1 x2 : Value} (h : NCy w A B v x0 x1 x2) (e : ∀ g o u, (g = A ∨ g = B) → w.cell? ⟨g, o, none⟩ = some u → w'.cell? ⟨g, o, none⟩ = some u) : NCy w' A B v x0 x1 x2 := by
  obtain ⟨h0, h1, h2, h3, h4, h5, h6, h7, h8⟩ := h
  exact ⟨e _ _ _ (.inl rfl) h0, e _ _ _ (.inl rfl) h1, e _ _ _ (.inl rfl) h2, e _ _ _ (.inl rfl) h3, e _ _ _ (.inl rfl) h4, e _ _ _ (.inl rfl) h5, e _ _ _ (.inr rfl) h6, e _ _ _ (.inr rfl) h7, e _ _ _ (.inr rfl) h8⟩
theorem NCy.keep {w w' : World} {A B : Nat} {v : Vl} {x0 x1 x2 : Value} (h : NCy w A B v x0 x1 x2) (k : Kept 0 0 w w') (hA : A < w.heap.size) (hB : B < w.heap.size) : NCy w' A B v x0 x1 x2 :=
  h.of fun g o u hg hc => kcell k (by rcases hg with rfl | rfl; exact hA; exact hB) hc
theorem foldB_lk {us news : List Vl} (hL : Lk us news) (v : Vl) : foldB us v = foldB news v := by
  unfold foldB
  congr 2
  funext o
  have e0 := congrArg Vl.op (hL.at_ o.toNat)
  have e : (us.getD o.toNat Vl.zero).op = (news.getD o.toNat Vl.zero).op := e0
  rw [e]
theorem foldR_lk {us news : List Vl} (hL : Lk us news) (k1 : Kb us) (k2 : Kb news) (v : Vl) : same (foldR us v) (foldR news v) := by
  unfold foldR
  refine kern_congr ?_ ?_ ?_ (ite_lt (argL_lt k1 _)) (ite_lt (argL_lt k2 _))
  all_goals
    split
    · exact argL_same hL _
    · rfl
theorem fold_S1 {us news : List Vl} {v : Vl} {zs : List Nat} (hL : Lk us news) (k1 : Kb us) (k2 : Kb news) (hb : foldB us v = true) (hz : same zs (foldR us v)) (hu : uni zs = true) : cv ⟨1, v.len, 0, 0, 0, zs.getD 0 0⟩ = cv (foldV news v) := by
  have hf := same_trans hz (foldR_lk hL k1 k2 v)
  unfold foldV
  rw [if_pos ⟨by rw [← foldB_lk hL]; exact hb, by rw [← uni_congr hf]; exact hu⟩]
  unfold cv
  simp only
  rw [same_at hf 0]
theorem fold_S0 {us news : List Vl} {v : Vl} {zs : List Nat} (hL : Lk us news) (k1 : Kb us) (k2 : Kb news) (hz : same zs (foldR us v)) (hu : uni zs = false) : foldV news v = v := by
  have hf := same_trans hz (foldR_lk hL k1 k2 v)
  unfold foldV
  rw [if_neg (fun c => by rw [← uni_congr hf, hu] at c; exact absurd c.2 (by simp))]
theorem fold_SB {us news : List Vl} {v : Vl} (hL : Lk us news) (hb : foldB us v = false) : foldV news v = v := by
  unfold foldV
  rw [if_neg (fun c => by rw [← foldB_lk hL, hb] at c; exact absurd c.1 (by simp))]
theorem kern_argL {len : Int} {K : Nat} (h : 1 ≤ len ∧ len ≤ 1000) : kern 1 len 0 K [] [] [] = List.replicate len.toNat K := by
  refine kern_const (kern_len ?_)
  unfold fitB
  have : lenB len = true := decide_eq_true h
  rw [this]
  rfl
/-- The cells that are read for c. -/
def N14 (w' : World) (O A G o6 : Nat) (u : Value) (v c : Vl) : Prop :=
  w'.cell? ⟨O, 1, none⟩ = some u ∧ At w' A 0 v ∧ At w' G o6 c
theorem N14.keep {w w' : World} {O A G o6 : Nat} {u : Value} {v c : Vl} (h : N14 w O A G o6 u v c) (k : Kept 0 0 w w') (hO : O < w.heap.size) (hA : A < w.heap.size) (hG : G < w.heap.size) : N14 w' O A G o6 u v c :=
  ⟨kcell k hO h.1, h.2.1.keep hA k (.inr (.inr (Nat.le_refl _))), h.2.2.keep hG k (.inr (.inr (Nat.le_refl _)))⟩
theorem cell6 (w : World) (X : Nat) (v : Vl) {A : Nat} (o : Nat) (h : X ≠ A) : (put6 w X 0 v).cell? ⟨A, o, none⟩ = w.cell? ⟨A, o, none⟩ := put6_out _ _ _ _ _ _ (.inl h)

theorem boxed (wr w5 : World) (k : Kept 0 0 (wr.alloc (vbox 0 0 0 0 0 0)) w5) : w5.cell? ⟨wr.heap.size, 0, none⟩ = some (.int .i64 0) ∧ w5.cell? ⟨wr.heap.size, 1, none⟩ = some (.int .i64 0) ∧ w5.cell? ⟨wr.heap.size, 2, none⟩ = some (.int .i64 0) ∧ w5.cell? ⟨wr.heap.size, 3, none⟩ = some (.int .i64 0) ∧ w5.cell? ⟨wr.heap.size, 4, none⟩ = some (.int .i64 0) ∧ w5.cell? ⟨wr.heap.size, 5, none⟩ = some (.float .f64 0) ∧ w5.frozen? ⟨wr.heap.size, 0, none⟩ = false ∧ w5.frozen? ⟨wr.heap.size, 1, none⟩ = false ∧ w5.frozen? ⟨wr.heap.size, 2, none⟩ = false ∧ w5.frozen? ⟨wr.heap.size, 3, none⟩ = false ∧ w5.frozen? ⟨wr.heap.size, 4, none⟩ = false ∧ w5.frozen? ⟨wr.heap.size, 5, none⟩ = false := by
  have hl : wr.heap.size < (wr.alloc (vbox 0 0 0 0 0 0)).heap.size := by simp
  obtain ⟨c0, c1, c2, c3, c4, c5⟩ := (vbox_atJ wr ⟨0, 0, 0, 0, 0, 0⟩).keep hl k (.inr (.inr (Nat.le_refl _)))
  simp only [Nat.zero_add] at c1 c2 c3 c4 c5
  have fz : ∀ o, w5.frozen? ⟨wr.heap.size, o, none⟩ = false := fun o => by
    rw [k.frozen (p := ⟨wr.heap.size, o, none⟩) hl (by omega)]; simp
  exact ⟨c0, c1, c2, c3, c4, c5, fz 0, fz 1, fz 2, fz 3, fz 4, fz 5⟩
set_option maxRecDepth 100000 in
set_option maxHeartbeats 16000000 in
theorem l4fold (w : World) (b1 b2 b3 : Option Addr) (n1 c1 n2 c2 n3 c3 : Nat) (ins : List Int) (vs : List Vl) (outs : List Int) (f : GS w b1 n1 b2 n2 b3 n3 ins vs outs) (hok : okG ins vs outs = true) :
    Calls Tryz.prog 36 #[gagg b1 n1 c1 b2 n2 c2 b3 n3 c3] w fun e w' => SPo w n1 n3 ins (foldSt vs vs.length, outs) e w' := by
  obtain ⟨i0, hi, hz0, hz1, hz2⟩ := info_parts infoS
  obtain ⟨⟨hl1, hl2, hl3⟩, _, hv, ho, _⟩ := okG_parts hok
  have hvl : vs.length = n2 := f.v.len
  have hol : outs.length = n3 := f.o.len
  have hil : ins.length = n1 := f.i.len
  have hn1 : n1 ≤ 20 := by omega
  have hn2 : n2 ≤ 2000 := by omega
  have hn3 : n3 ≤ 50 := by omega
  have HV : Hid (∀ j, j < n2 → okV ins vs j = true) := fun j hj => hv j (by omega)
  have HL : Hid (vs.length = n2 ∧ outs.length = n3 ∧ ins.length = n1) := ⟨hvl, hol, hil⟩
  have HKB : Hid (Kb vs) := f.v.lt
  have k0 := kept_alloc 0 0 w (gbox b1 n1 c1 b2 n2 c2 b3 n3 c3)
  have k1 := kept_alloc 0 0 (w.alloc (gbox b1 n1 c1 b2 n2 c2 b3 n3 c3)) nbox
  have HB : Hid _ := (g0_start w (.slice b1 n1 c1) (.slice b2 n2 c2) (.slice b3 n3 c3)).keep k1
  have hz : (w.alloc (gbox b1 n1 c1 b2 n2 c2 b3 n3 c3)).heap.size = w.heap.size + 1 := by simp
  have hR := rb_start (w.alloc (gbox b1 n1 c1 b2 n2 c2 b3 n3 c3))
  rw [hz] at hR
  have HR : Hid _ := hR
  have HK : Hid _ := k0.trans k1
  have HZ1 : Hid (((w.alloc (gbox b1 n1 c1 b2 n2 c2 b3 n3 c3)).alloc nbox).heap.size = w.heap.size + 1 + 1) := by show _ = _; simp
  have HCP : Hid _ := l2copyS ((w.alloc (gbox b1 n1 c1 b2 n2 c2 b3 n3 c3)).alloc nbox) b1 b2 b3 n1 c1 n2 c2 n3 c3 ins vs outs (f.keep (k0.trans k1)) (by omega) (by omega) (by omega)
  have HFV : Hid (VS w 0 w.heap.size b2 n2 vs ∧ IS w 0 w.heap.size b3 n3 outs) := ⟨f.v, f.o⟩
  clear f hok hl1 hl2 hl3 hv ho hvl hol hil hR hz k0 k1
  obtain ⟨_, p0, p1, p2⟩ := HB.out
  go_enter Tryz.func36, Tryz.ntmps36
  go_wp2_with fail
  clear p0 p1 p2
  generalize (w.alloc (gbox b1 n1 c1 b2 n2 c2 b3 n3 c3)).alloc nbox = w2 at HB HR HK HZ1 HCP ⊢
  refine Calls.mono HCP.out ?_
  rintro e w3 ⟨a1, d1, a2, d2, a3, d3, rfl, o1, o2, o3, ⟨ap21, ap23, ap13⟩, k3⟩
  have kb := kept_alloc 0 0 w3 (gbox a1 n1 d1 a2 n2 d2 a3 n3 d3)
  have hz3 := k3.size
  obtain ⟨G2, hG2, hG2b⟩ := own_vz o2 HL.out.1 (w3.heap.size + 1)
  obtain ⟨G3, hG3, hG3b⟩ := own_iz o3 HL.out.2.1 (w3.heap.size + 2)
  have HG23 : Hid (G2 ≠ G3) := by
    show _ ≠ _
    intro c
    rcases hG2b with q | q
    · rcases hG3b with r | r
      · exact ap23 G2 q.1 (by rw [c]; exact r.1)
      · omega
    · rcases hG3b with r | r <;> omega
  have HIB : Hid (∀ b, (Value.slice a1 n1 d1).ownBlock = some b → (w2.heap.size ≤ b ∧ b < w3.heap.size) ∧ b ≠ G2 ∧ b ≠ G3) := fun b hb => by
    have hb2 := own_blkV o1 hb
    refine ⟨hb2, fun c => ?_, fun c => ?_⟩
    · rcases hG2b with q | q
      · exact ap21 G2 q.1 (by rw [← c]; exact hb)
      · omega
    · rcases hG3b with q | q
      · exact ap13 b hb (by rw [c]; exact q.1)
      · omega
  have HGB : Hid (w2.heap.size ≤ G2 ∧ (n2 ≠ 0 → G2 < w3.heap.size) ∧ G2 ≠ w3.heap.size ∧ w2.heap.size ≤ G3 ∧ (n3 ≠ 0 → G3 < w3.heap.size) ∧ G3 ≠ w3.heap.size ∧ (n2 = 0 → w3.heap.size < G2)) := ⟨by omega, by omega, by omega, by omega, by omega, by omega, by omega⟩
  have HZ3 : Hid (w.heap.size + 1 + 1 ≤ w3.heap.size ∧ (w3.alloc (gbox a1 n1 d1 a2 n2 d2 a3 n3 d3)).heap.size = w3.heap.size + 1 ∧ w2.heap.size = w.heap.size + 1 + 1) := ⟨by have := HZ1.out; omega, by simp, HZ1.out⟩
  have HEI : Hid (FLd (w3.alloc (gbox a1 n1 d1 a2 n2 d2 a3 n3 d3)) (w3.alloc (gbox a1 n1 d1 a2 n2 d2 a3 n3 d3)) w3.heap.size G2 n2 (w3.heap.size + 1) (.slice a1 n1 d1) (.slice a2 n2 d2) (.slice a3 n3 d3) a2 ([] ++ vs.drop 0)) :=
    ⟨rb_box w3 _ _ _, hG2.keep kb (.inr (.inr (Nat.le_refl _))), Chg.refl _ _, by simp⟩
  have HI4 : Hid _ := own_keepJ o1 kb
  have HO4 : Hid _ := hG3.keep kb (.inr (.inr (Nat.le_refl _)))
  have HK4 : Hid _ := HK.out.trans (k3.trans kb)
  have HB4 : Hid _ := HB.out.keep (k3.trans kb)
  have HR4 : Hid _ := HR.out.keep (k3.trans kb)
  clear o1 o2 o3 ap21 ap23 ap13 k3 kb hz3 hG2 hG2b hG3 hG3b HCP HB HR HK HZ1
  go_wp2_with fail
  generalize w3.alloc (gbox a1 n1 d1 a2 n2 d2 a3 n3 d3) = w4 at HEI HI4 HO4 HK4 HB4 HR4 HZ3 ⊢
  generalize w3.heap.size = O at HEI HIB HGB HZ3 ⊢
  go_loopw [4] (fun x W => ∃ (i : Nat) (us : List Vl), i ≤ n2 ∧ x = .int .i64 i ∧ us.length = i ∧ Hid (FLd W w4 O G2 n2 (O + 1) (.slice a1 n1 d1) (.slice a2 n2 d2) (.slice a3 n3 d3) a2 (us ++ vs.drop i)) ∧ Hid (Lk us (foldSt vs i) ∧ Kb us)) (fun x _ => n2 - (intOf x).toNat)
  case atStart => exact ⟨0, [], Nat.zero_le _, rfl, rfl, HEI, rfl, fun v hv => by simp at hv⟩
  case round =>
    obtain ⟨i, us, hi2, rfl, hul, hI, hLK⟩ := hrel
    clear HEI
    have hz8 : O + 1 ≤ wr.heap.size := hI.out.bz
    have hz9 := HZ3.out
    obtain ⟨_, p0, p1, p2⟩ := G0.keepC HB4.out hI.out.ch (by have := HGB.out; omega)
    by_cases hlt : i < n2
    · have hgb := HGB.out
      have hlt' : i < vs.length := by rw [HL.out.1]; exact hlt
      obtain ⟨g, off, rfl, hg, hgw, _, hat⟩ := (VS.keepC (VS.keep HFV.out.1 HK4.out (.inr (.inr (Nat.le_refl _)))) hI.out.ch (fun g _ h2 => by omega)).at_idx hlt
      have hokv := HV.out i hlt
      have hops := okV_ops hokv
      have hopr := okV_opR hokv
      have hLen : ∀ j, j < i → (us.getD j Vl.zero).len = (vs.getD j Vl.zero).len := fun j hj => by
        have e0 := congrArg Vl.len (hLK.out.1.at_ j)
        have e : (us.getD j Vl.zero).len = ((foldSt vs i).getD j Vl.zero).len := e0
        rw [e, foldSt_lenV vs i j hj]
      have HLN : Hid (∀ j, j < i → 1 ≤ (us.getD j Vl.zero).len ∧ (us.getD j Vl.zero).len ≤ 1000) := fun j hj => by
        rw [hLen j hj]
        exact of_decide_eq_true (okV_lenB (HV.out j (by omega)))
      have hap := foldV_app (us := us) (R := vs.drop i) (v := vs.getD i Vl.zero) (by rw [hul]; exact hops)
      have HAP : Hid (foldB (us ++ vs.drop i) (vs.getD i Vl.zero) = foldB us (vs.getD i Vl.zero) ∧ foldR (us ++ vs.drop i) (vs.getD i Vl.zero) = foldR us (vs.getD i Vl.zero)) := hap
      have HSB : Hid (foldB us (vs.getD i Vl.zero) = false → Lk (us ++ [vs.getD i Vl.zero]) (foldSt vs (i + 1))) := fun h => by
        rw [foldSt, fold_SB hLK.out.1 h]; exact hLK.out.1.app rfl
      have HS0 : Hid (∀ zs, same zs (foldR us (vs.getD i Vl.zero)) → uni zs = false → Lk (us ++ [vs.getD i Vl.zero]) (foldSt vs (i + 1))) := fun zs h1 h2 => by
        rw [foldSt, fold_S0 hLK.out.1 hLK.out.2 (foldSt_kb HKB.out i) h1 h2]; exact hLK.out.1.app rfl
      have HS1 : Hid (∀ zs, foldB us (vs.getD i Vl.zero) = true → same zs (foldR us (vs.getD i Vl.zero)) → uni zs = true → Lk (us ++ [⟨1, (vs.getD i Vl.zero).len, 0, 0, 0, zs.getD 0 0⟩]) (foldSt vs (i + 1))) := fun zs h1 h2 h3 => by
        rw [foldSt]; exact hLK.out.1.app (fold_S1 hLK.out.1 hLK.out.2 (foldSt_kb HKB.out i) h1 h2 h3)
      have HKU : Hid (Kb us ∧ Kb (us ++ vs.drop i) ∧ Kb (us ++ [vs.getD i Vl.zero]) ∧ (vs.getD i Vl.zero).k < 18446744073709551616) := ⟨hLK.out.2, fun v hv => (List.mem_append.1 hv).elim (fun c => hLK.out.2 v c) (fun c => HKB.out v (List.mem_of_mem_drop c)), hLK.out.2.app (Kb.at_ HKB.out i), Kb.at_ HKB.out i⟩
      have HDA : Hid (us ++ vs.drop i = (us ++ [vs.getD i Vl.zero]) ++ vs.drop (i + 1)) := drop_app hlt'
      have HMS : Hid (∀ nv, (us ++ vs.drop i).set i nv = us ++ [nv] ++ vs.drop (i + 1)) := fun nv => mid_set hul hlt'
      have HUA : Hid (∀ j, j < i → (us ++ vs.drop i).getD j Vl.zero = us.getD j Vl.zero) := fun j hj => by
        rw [List.getD_eq_getElem?_getD, List.getElem?_append_left (by omega), ← List.getD_eq_getElem?_getD]
      have hVA := (hI.out.va.va (by omega)).2
      obtain ⟨_, rfl⟩ : ∃ eA : Nat, a2 = some ⟨G2, 0, none⟩ := ⟨0, (hI.out.va.va (by omega)).1⟩
      have HL1 : Hid _ := l1ops (vs.getD i Vl.zero).op hopr.1 hopr.2
      have HOPS : Hid (∀ q, q < cnt (vs.getD i Vl.zero).op → 0 ≤ fld (vs.getD i Vl.zero) q ∧ fld (vs.getD i Vl.zero) q < i) := fun q hq => by
        have := hops (fld (vs.getD i Vl.zero) q) (by rw [← opsOf_fld _ hq]; exact getD_memJ (by rw [opsOf_len]; exact hq))
        exact this
      generalize hUU : us ++ vs.drop i = U at hI hVA HAP HKU HDA HMS HUA
      generalize hv0 : vs.getD i Vl.zero = v at hat HAP HSB HS0 HS1 HKU HDA HL1 HOPS
      have kb := kept_alloc 0 0 wr (vbox v.op v.len v.a v.b v.c v.k)
      have HF6 : Hid _ := hI.out.stay kb
      have HXV : Hid _ := vbox_atJ wr v
      have HZ6 : Hid (wr.heap.size < (wr.alloc (vbox v.op v.len v.a v.b v.c v.k)).heap.size) := by show _ < _; simp
      clear hUU hv0 hokv hops hopr hLen hap hLK hVA hI kb
      obtain ⟨y0, y1, y2, y3, y4, y5⟩ := hat
      go_wp2_with fail
      refine Calls.mono (HL1.out _) ?_
      rintro e w' ⟨rfl, rfl⟩
      clear y0 y1 y2 y3 y4 y5 p0 p1 p2
      obtain ⟨X0, hX0⟩ : ∃ X0, X0 = wr.heap.size := ⟨_, rfl⟩
      rw [← hX0] at HXV HZ6
      have hXO : O + 1 ≤ X0 := by omega
      generalize wr.alloc (vbox v.op v.len v.a v.b v.c v.k) = w6 at HF6 HXV HZ6 ⊢
      rw [← hX0]
      clear hX0
      go_upto_region 10 with fail
      go_loopw [7, 8, 9] (fun bl a x W => ∃ q : Nat, q ≤ 3 ∧ bl = .bool (allQ U v q) ∧ x = .int .i64 q ∧ Hid (AR W w6.heap.size a q (argV U v)) ∧ Hid (Kept 0 0 w6 W)) (fun _ _ x _ => 3 - (intOf x).toNat)
      case atStart => exact ⟨0, by omega, by unfold allQ; simp, rfl, AR.nil _ _ _, Kept.refl _ _ _⟩
      case round =>
        obtain ⟨q, hq, rfl, rfl, hA, hKW⟩ := hrel
        have hF := FLd.stay HF6.out hKW.out
        have hz6 : w6.heap.size ≤ wr.heap.size := hKW.out.size
        have hX6 := HZ6.out
        have HXW : Hid _ := HXV.out.keep HZ6.out hKW.out (.inr (.inr (Nat.le_refl _)))
        obtain ⟨s0, s1, s2, s3, s4, s5⟩ := HXW.out
        simp only [Nat.zero_add] at s1 s2 s3 s4 s5
        obtain ⟨_, r0, r1, r2, _, _, _⟩ := hF.ob
        have hc3 := cnt_le v.op
        have hVA6 := (hF.va.va (by omega)).2
        by_cases hlt3 : q < 3
        · obtain ⟨vs3, hown3, hvs3⟩ := hA.out
          by_cases hqc : q < cnt v.op
          · have hfq := HOPS.out q hqc
            have tq : (q : Int) < (cnt v.op : Int) := by omega
            have hE := argV_in U v hqc
            have hAQ := allQ_in (us := U) hqc
            obtain ⟨o, ho⟩ : ∃ o : Nat, fld v q = o := ⟨(fld v q).toNat, by omega⟩
            have HX : Hid (∀ W, Calls Tryz.prog 52 #[v.agg, .int .i64 (q : Int)] W fun e w' => e = .returned (.int .i64 (o : Int)) ∧ Kept 0 0 W w') := fun W => by
              have := l1field W v q (by omega)
              rw [ho] at this
              exact this
            rw [ho] at hE hAQ hfq
            unfold argL at hE
            rw [Int.toNat_natCast] at hE hAQ
            have hon : o < n2 := by omega
            have hoi : o < i := by omega
            have hAc := hVA6.at_ o hon
            have hcl := HLN.out o hoi
            have hck := Kb.at_ HKU.out.2.1 o
            rw [← HUA.out o hoi] at hcl
            have HE : Hid _ := hE
            have HAQ : Hid _ := hAQ
            have HN : Hid (N14 wr O X0 G2 (o * 6) (.slice (some ⟨G2, 0, none⟩) n2 d2) v (U.getD o Vl.zero)) := ⟨r1, HXW.out, hAc⟩
            generalize U.getD o Vl.zero = c at hAc hcl hck HE HAQ HN
            have HCL : Hid _ := And.intro hcl hck
            have HN2 : Hid (O < wr.heap.size ∧ X0 < wr.heap.size ∧ G2 < wr.heap.size) := ⟨by omega, by omega, by omega⟩
            clear hE hAQ hcl hck hfq
            obtain ⟨u0, u1, u2, u3, u4, u5⟩ := hAc
            go_upto_region 14 with fail
            go_cut [11] (fun pv wx => ∃ X : Nat, pv = .pointer (some ⟨X, 0, none⟩) ∧ Hid (At wx X 0 c ∧ X < wx.heap.size) ∧ Hid (Kept 0 0 wr wx))
            case first =>
              clear hown3 hvs3 hA hF hVA6 HXW r0 r2
              have hGX : G2 ≠ wr.heap.size := by omega
              have hOX : O ≠ wr.heap.size := by omega
              have hXX : X0 ≠ wr.heap.size := by omega
              go_region_held3 (fun W : World => W.cell? ⟨O, 1, none⟩ = some (.slice (some ⟨G2, 0, none⟩) n2 d2) ∧ W.cell? ⟨X0, 0, none⟩ = some (.int .i64 v.op) ∧ W.cell? ⟨X0, 1, none⟩ = some (.int .i64 v.len) ∧ W.cell? ⟨X0, 2, none⟩ = some (.int .i64 v.a) ∧ W.cell? ⟨X0, 3, none⟩ = some (.int .i64 v.b) ∧ W.cell? ⟨X0, 4, none⟩ = some (.int .i64 v.c) ∧ W.cell? ⟨X0, 5, none⟩ = some (.float .f64 v.k) ∧ W.cell? ⟨G2, o * 6, none⟩ = some (.int .i64 c.op) ∧ W.cell? ⟨G2, o * 6 + 1, none⟩ = some (.int .i64 c.len) ∧ W.cell? ⟨G2, o * 6 + 2, none⟩ = some (.int .i64 c.a) ∧ W.cell? ⟨G2, o * 6 + 3, none⟩ = some (.int .i64 c.b) ∧ W.cell? ⟨G2, o * 6 + 4, none⟩ = some (.int .i64 c.c) ∧ W.cell? ⟨G2, o * 6 + 5, none⟩ = some (.float .f64 c.k)) (first | go_keep | (exact ⟨(cell6 w5 wr.heap.size c 1 (Ne.symm hOX)).trans j0, (cell6 w5 wr.heap.size c 0 (Ne.symm hXX)).trans s0, (cell6 w5 wr.heap.size c 1 (Ne.symm hXX)).trans s1, (cell6 w5 wr.heap.size c 2 (Ne.symm hXX)).trans s2, (cell6 w5 wr.heap.size c 3 (Ne.symm hXX)).trans s3, (cell6 w5 wr.heap.size c 4 (Ne.symm hXX)).trans s4, (cell6 w5 wr.heap.size c 5 (Ne.symm hXX)).trans s5, (cell6 w5 wr.heap.size c _ (Ne.symm hGX)).trans u0, (cell6 w5 wr.heap.size c _ (Ne.symm hGX)).trans u1, (cell6 w5 wr.heap.size c _ (Ne.symm hGX)).trans u2, (cell6 w5 wr.heap.size c _ (Ne.symm hGX)).trans u3, (cell6 w5 wr.heap.size c _ (Ne.symm hGX)).trans u4, (cell6 w5 wr.heap.size c _ (Ne.symm hGX)).trans u5⟩))
                (first
                  | (go_at_call 52; refine Calls.mono (HX.out ((wr.alloc (vbox 0 0 0 0 0 0)).drew)) ?_; rintro e w5 ⟨rfl, k5⟩; have k5' := Kept.trans ((kept_alloc 0 0 wr (vbox 0 0 0 0 0 0)).trans (kept_drew _)) k5; obtain ⟨j0, ⟨s0, s1, s2, s3, s4, s5⟩, ⟨u0, u1, u2, u3, u4, u5⟩⟩ := HN.out.keep k5' HN2.out.1 HN2.out.2.1 HN2.out.2.2; simp only [Nat.zero_add] at s1 s2 s3 s4 s5; have hXl : wr.heap.size < w5.heap.size := (by have := k5.size; simp at this; omega); obtain ⟨z0, z1, z2, z3, z4, z5, zf0, zf1, zf2, zf3, zf4, zf5⟩ := boxed wr w5 ((kept_drew (wr.alloc (vbox 0 0 0 0 0 0))).trans k5))
                  | (go_at_call 52; refine Calls.mono (HX.out wr.drew) ?_; rintro e w5 ⟨rfl, k5⟩; have k5' := Kept.trans (kept_drew wr) k5; obtain ⟨j0, ⟨s0, s1, s2, s3, s4, s5⟩, ⟨u0, u1, u2, u3, u4, u5⟩⟩ := HN.out.keep k5' HN2.out.1 HN2.out.2.1 HN2.out.2.2; simp only [Nat.zero_add] at s1 s2 s3 s4 s5; have hO5 : O ≠ w5.heap.size := (by have := k5'.size; have := HN2.out; omega); have hX5 : X0 ≠ w5.heap.size := (by have := k5'.size; have := HN2.out; omega); have hG5 : G2 ≠ w5.heap.size := (by have := k5'.size; have := HN2.out; omega)))
              · go_wp2_with fail
                go_meet
                exact ⟨w5.heap.size, rfl, ⟨vbox_atJ w5 c, by simp⟩, k5'.trans (kept_alloc 0 0 w5 _)⟩
              · go_wp2_with fail
                go_meet
                exact ⟨wr.heap.size, rfl, ⟨put6_at w5 wr.heap.size 0 ⟨0, 0, 0, 0, 0, 0⟩ c ⟨z0, z1, z2, z3, z4, z5⟩, Nat.lt_of_lt_of_le hXl (put6_kept w5 wr.heap.size 0 c).size⟩, k5'.new (put6_kept w5 wr.heap.size 0 c) (Nat.le_refl _)⟩
            case rest =>
              clear s0 s1 s2 s3 s4 s5 u0 u1 u2 u3 u4 u5 r0 r1 r2 HX HN HN2
              obtain ⟨X, rfl, hX, hK14⟩ := hcut
              obtain ⟨t0, t1, t2, t3, t4, t5⟩ := hX.out.1
              simp only [Nat.zero_add] at t1 t2 t3 t4 t5
              have HKE : Hid (∀ W, Calls Tryz.prog 57 #[vagg 1 c.len 0 0 0 c.k, .slice none 0 0, .slice none 0 0, .slice none 0 0] W fun e w' => ∃ u, e = .returned u ∧ Cn w' W.heap.size u (List.replicate c.len.toNat c.k) ∧ Kept 0 0 W w') := fun W => by
                have := specKernelC W ⟨1, c.len, 0, 0, 0, c.k⟩ HCL.out.2 _ _ _ [] [] [] (Cl.nil _) (Cl.nil _) (Cl.nil _) (fun q hq => by cases hq)
                rw [kern_argL HCL.out.1] at this
                exact this
              have HQQ : Hid (allQ U v (q + 1) = (allQ U v q && decide (c.op = 1))) := by
                show _ = _
                rw [HAQ.out]; congr 1
              cases hb : allQ U v q
              all_goals
                rw [hb] at HQQ
                go_wp2_with fail
                refine Calls.mono (HKE.out _) ?_
                rintro e w5 ⟨u, rfl, ⟨b5, m5, c5, zs5, rfl, j1, j2, j3⟩, k5⟩
                have k5' := Kept.trans hK14.out k5
                have hown5 := own_keep hown3 k5'
                have hz5 : w6.heap.size ≤ w5.heap.size := (Kept.trans hKW.out k5').size
                clear t0 t1 t2 t3 t4 t5 HKE
                go_wp2_with (first | (at_builtin; refine wpList_append_lies _ rfl _ _ 71 rfl w6.heap.size 72 i0 (.slice none 0 0) 1 24 Tryz.underlying71 hi hz0 hz1 hz2 rfl (by decide) _ _ vs3 rfl (hown5.alloc _) ⟨w5.heap.size, 0, none⟩ 1 1 [.slice b5 m5 c5] rfl rfl ?c1 ?c2 (by decide) ?c3 ?c4 ?c5 _ rfl ?_))
                case c1 => exact cell_one_new _ _ _
                case c2 => intro u hu; simp at hu; subst hu; rfl
                case c3 => unfold maxLen; omega
                case c4 => omega
                case c5 => simp; omega
                intro g9 cap9 w9 hown9 hg9 hat9 _
                have R1 : Hid (AR w9 w6.heap.size (.slice (some ⟨g9, 0, none⟩) (q + 1) cap9) (q + 1) (argV U v)) :=
                  AR.step (W := w5) (Vs := argV U v) hown5 (us_keepY hvs3 k5') (x := List.replicate c.len.toNat c.k) (Cn.cl ⟨_, _, _, zs5, rfl, j1, j2, j3⟩) (fun h0 p hp cc => by
                    have h1 := (own_blkV hown3 cc).2
                    have h2 := Cn.ge (W := w5) (lo := wc.heap.size) ⟨_, _, _, zs5, rfl, j1, j2, j3⟩ h0 p hp
                    have h3 := hK14.out.size
                    omega) hown9 hg9 (by rcases hat9 with h | h; exact .inl h; exact .inr (by rw [h]; simp)) (fun j hj => rfl) HE.out
                have R2 : Hid _ := grown_kept (base := w6.heap.size) hg9 (fun i hi => (own_blkV hown5 hi).1) ((Kept.trans hKW.out k5').trans (kept_alloc 0 0 w5 _)) (Nat.le_refl _)
                clear hown9 hg9 hat9 hown5 k5 k5' hvs3 hown3 hA hKW hK14 j1 j2 j3
                go_wp2
                go_roundw
                case rel => exact ⟨q + 1, by omega, by rw [HQQ.out]; first | rfl | simp, by go_num, R1, R2⟩
                case measure => simp [intOf]; omega
          · have tq : ¬ ((q : Int) < (cnt v.op : Int)) := by omega
            have HE : Hid _ := argV_out U v hlt3 hqc
            have HAQ : Hid _ := allQ_out (us := U) hqc
            go_wp2_with (first | (at_builtin; refine wpList_append_lies _ rfl _ _ 71 rfl w6.heap.size 72 i0 (.slice none 0 0) 1 24 Tryz.underlying71 hi hz0 hz1 hz2 rfl (by decide) _ _ vs3 rfl (hown3.alloc _) ⟨wr.heap.size, 0, none⟩ 1 1 [.slice none 0 0] rfl rfl ?c1 ?c2 (by decide) ?c3 ?c4 ?c5 _ rfl ?_))
            case c2 => rfl
            case c3 => unfold maxLen; omega
            case c4 => omega
            case c5 => first | omega | (simp; omega)
            intro g9 cap9 w9 hown9 hg9 hat9 _
            have R1 : Hid (AR w9 w6.heap.size (.slice (some ⟨g9, 0, none⟩) (q + 1) cap9) (q + 1) (argV U v)) :=
              AR.step (W := wr) (Vs := argV U v) hown3 hvs3 (x := []) (Cl.nil _) (fun hn => absurd hn (Nat.lt_irrefl _)) hown9 hg9 (by rcases hat9 with h | h; exact .inl h; exact .inr (by rw [h]; simp)) (fun j hj => rfl) HE.out
            have R2 : Hid _ := grown_kept (base := w6.heap.size) hg9 (fun i hi => (own_blkV hown3 hi).1) (Kept.trans hKW.out (kept_alloc 0 0 wr _)) (Nat.le_refl _)
            clear hown9 hg9 hat9 hvs3 hown3 hA hKW s0 s1 s2 s3 s4 s5
            go_wp2
            go_roundw
            case rel => exact ⟨q + 1, by omega, by rw [HAQ.out], by go_num, R1, R2⟩
            case measure => simp [intOf]; omega
        · obtain rfl : q = 3 := by omega
          rw [allQ_end]
          cases hb : foldB U v
          · have R : Hid _ := HSB.out (by rw [← HAP.out.1]; exact hb)
            have R2 : Hid (FLd wr w4 O G2 n2 (O + 1) (.slice a1 n1 d1) (.slice (some ⟨G2, 0, none⟩) n2 d2) (.slice a3 n3 d3) (some ⟨G2, 0, none⟩) ((us ++ [v]) ++ vs.drop (i + 1))) := by
              show FLd _ _ _ _ _ _ _ _ _ _ _
              rw [← HDA.out]
              exact hF
            clear hA hKW hF s0 s1 s2 s3 s4 s5 r0 r1 r2
            go_wp2
            go_roundw
            case rel => exact ⟨i + 1, us ++ [v], by omega, by go_num, by simp [hul], R2, R.out, HKU.out.2.2.1⟩
            case measure => simp [intOf]; omega
          · obtain ⟨gB, capB, eB, bB, ltB, cB⟩ := AR.cell hA.out (by omega)
            obtain ⟨x0, y0, p0, g0, f0, _⟩ := cB 0 (by omega)
            obtain ⟨x1, y1, p1, g1, f1, _⟩ := cB 1 (by omega)
            obtain ⟨x2, y2, p2, g2, f2, _⟩ := cB 2 (by omega)
            have HE : Hid (∀ m, Calls Tryz.prog 57 #[v.agg, .slice x0 y0 p0, .slice x1 y1 p1, .slice x2 y2 p2] (wr.drewN m) fun e w' => ∃ u, e = .returned u ∧ Cn w' (wr.drewN m).heap.size u (foldR U v) ∧ Kept 0 0 (wr.drewN m) w') := fun m => specKernelC (wr.drewN m) v HKU.out.2.2.2 _ _ _ _ _ _ (f0.keep (kept_drewN 0 0 wr m)) (f1.keep (kept_drewN 0 0 wr m)) (f2.keep (kept_drewN 0 0 wr m)) (ite_lt (argL_lt HKU.out.2.1 _))
            have HNC : Hid (NCy wr X0 gB v (.slice x0 y0 p0) (.slice x1 y1 p1) (.slice x2 y2 p2)) := ⟨s0, s1, s2, s3, s4, s5, g0, g1, g2⟩
            have HGB2 : Hid (gB < wr.heap.size ∧ X0 < wr.heap.size) := ⟨ltB, by omega⟩
            have HFF : Hid _ := hF
            have HBB : Hid (foldB us v = true) := by show _ = _; rw [← HAP.out.1]; exact hb
            subst eB
            clear cB bB f0 f1 f2 hA hF hVA6 r0 r1 r2
            go_wp2_with fail
            go_region_held3 (fun w' => w'.cell? ⟨X0, 0, none⟩ = some (.int .i64 v.op) ∧ w'.cell? ⟨X0, 1, none⟩ = some (.int .i64 v.len) ∧ w'.cell? ⟨X0, 2, none⟩ = some (.int .i64 v.a) ∧ w'.cell? ⟨X0, 3, none⟩ = some (.int .i64 v.b) ∧ w'.cell? ⟨X0, 4, none⟩ = some (.int .i64 v.c) ∧ w'.cell? ⟨X0, 5, none⟩ = some (.float .f64 v.k) ∧ w'.cell? ⟨gB, 0, none⟩ = some (.slice x0 y0 p0) ∧ w'.cell? ⟨gB, 1, none⟩ = some (.slice x1 y1 p1) ∧ w'.cell? ⟨gB, 2, none⟩ = some (.slice x2 y2 p2)) (go_keep)
              ((go_at_call 57; refine Calls.mono (HE.out _) ?_; rintro e w5 ⟨u, rfl, ⟨b5, m5, c5, zs5, rfl, i1, i2, i3⟩, k5⟩; have hn5 := NCy.keep HNC.out (Kept.trans (kept_drewN 0 0 wr 1) k5) HGB2.out.2 HGB2.out.1; obtain ⟨j0, j1, j2, j3, j4, j5, j6, j7, j8⟩ := hn5; simp only [Nat.zero_add] at j1 j2 j3 j4 j5))
            have k5' := Kept.trans (kept_drewN 0 0 wr 1) k5
            have hl5 : m5 ≤ 1000 := by
              have h1 := i2.len
              have h2 := same_len i3
              have h3 := kern_len_le v.op v.len v.c v.k (if 0 < cnt v.op then argL U v.a else []) (if 1 < cnt v.op then argL U v.b else []) (if 2 < cnt v.op then argL U v.c else [])
              unfold foldR at h2
              omega
            have HUN : Hid _ := l4uniform w5 _ _ b5 m5 c5 zs5 i2 hl5
            have HFS : Hid _ := i2
            rw [HAP.out.2] at i3
            have HSM : Hid _ := i3
            have HK5 : Hid _ := k5'
            have HXW5 : Hid _ := HXW.out.keep HGB2.out.2 k5' (.inr (.inr (Nat.le_refl _)))
            clear i1 i2 i3 k5 k5' j0 j1 j2 j3 j4 j5 j6 j7 j8 s0 s1 s2 s3 s4 s5 g0 g1 g2 HE HNC
            go_wp2_with fail
            refine Calls.mono HUN.out ?_
            rintro e w7 ⟨rfl, k7⟩
            have HK7 : Hid _ := HK5.out.trans k7
            have HF7 : Hid _ := HFF.out.stay HK7.out
            cases hu : uni zs5
            · have R : Hid _ := HS0.out zs5 HSM.out hu
              have R2 : Hid (FLd w7 w4 O G2 n2 (O + 1) (.slice a1 n1 d1) (.slice (some ⟨G2, 0, none⟩) n2 d2) (.slice a3 n3 d3) (some ⟨G2, 0, none⟩) ((us ++ [v]) ++ vs.drop (i + 1))) := by
                show FLd _ _ _ _ _ _ _ _ _ _ _
                rw [← HDA.out]
                exact HF7.out
              clear k7
              go_wp2
              go_roundw
              case rel => exact ⟨i + 1, us ++ [v], by omega, by go_num, by simp [hul], R2, R.out, HKU.out.2.2.1⟩
              case measure => simp [intOf]; omega
            · have R : Hid _ := HS1.out zs5 HBB.out HSM.out hu
              have hm5 : 0 < m5 := by
                have h1 := HFS.out.len
                have h2 := hu
                unfold uni at h2
                rw [Bool.and_eq_true] at h2
                have := of_decide_eq_true h2.1
                omega
              have hzl := getD_lt HFS.out.lt 0
              obtain ⟨ge, oe, rfl, hge1, hge2, hge3, hce⟩ : ∃ ge oe, b5 = some ⟨ge, oe, none⟩ ∧ wr.heap.size ≤ ge ∧ ge < w5.heap.size ∧ ge < w5.heap.size ∧ w5.cell? ⟨ge, oe, none⟩ = some (.float .f64 (zs5.getD 0 0)) := by
                rcases HFS.out.at_ with z | ⟨ge, oe, e, h1, h2, h3, h4⟩
                · omega
                · exact ⟨ge, oe, e, h1, h2, h3, by have := h4 0 (by omega); rwa [Nat.add_zero] at this⟩
              have ce := kcell k7 hge3 hce
              have hgG : G2 < wr.heap.size := by omega
              have hz7 : w5.heap.size ≤ w7.heap.size := k7.size
              have hgP : G2 ≠ O := by omega
              have hgV : G2 ≠ X0 := by omega
              have hgE : G2 ≠ ge := by omega
              obtain ⟨x0, x1, x2, x3, x4, x5⟩ := HXW5.out.keep (by have := HK5.out.size; omega) k7 (.inr (.inr (Nat.le_refl _)))
              simp only [Nat.zero_add] at x1 x2 x3 x4 x5
              obtain ⟨_, p0, p1, p2, _, _, _⟩ := HF7.out.ob
              have hVA7 := (HF7.out.va.va (by omega)).2
              obtain ⟨t0, t1, t2, t3, t4, t5⟩ := hVA7.at_ i hlt
              have tfz := hVA7.free
              have HPUT : Hid (∀ W2, Kept 0 0 w7 W2 → FLd (put6 W2 G2 (i * 6) ⟨1, v.len, 0, 0, 0, zs5.getD 0 0⟩) w4 O G2 n2 (O + 1) (.slice a1 n1 d1) (.slice (some ⟨G2, 0, none⟩) n2 d2) (.slice a3 n3 d3) (some ⟨G2, 0, none⟩) (us ++ [⟨1, v.len, 0, 0, 0, zs5.getD 0 0⟩] ++ vs.drop (i + 1))) := fun W2 kW => HF7.out.put kW (by omega) hlt (HMS.out _)
              have HKU2 : Hid (Kb (us ++ [⟨1, v.len, 0, 0, 0, zs5.getD 0 0⟩])) := HKU.out.1.app hzl
              generalize zs5.getD 0 0 = z0 at ce HPUT R HKU2
              generalize U.getD i Vl.zero = vo at t0 t1 t2 t3 t4 t5
              clear hzl hce hge1 hge2 hge3 hu HSM HFS HUN HS0 HS1 HSB hVA7 k7
              go_wp2_with fail
              go_region_held3 (fun W : World => W.cell? ⟨O, 1, none⟩ = some (.slice (some ⟨G2, 0, none⟩) n2 d2) ∧ W.cell? ⟨X0, 1, none⟩ = some (.int .i64 v.len) ∧ W.cell? ⟨ge, oe, none⟩ = some (.float .f64 z0)) (first | go_keep | (exact ⟨(put6_out w7 G2 (i * 6) _ _ ⟨1, v.len, 0, 0, 0, z0⟩ (.inl hgP)).trans p1, (put6_out w7 G2 (i * 6) _ _ ⟨1, v.len, 0, 0, 0, z0⟩ (.inl hgV)).trans x1, (put6_out w7 G2 (i * 6) _ _ ⟨1, v.len, 0, 0, 0, z0⟩ (.inl hgE)).trans ce⟩)) (fail)
              have R2 : Hid _ := FLd.stay (HPUT.out w7 (Kept.refl _ _ _)) (kept_drew _)
              clear HPUT x0 x1 x2 x3 x4 x5 p0 p1 p2 t0 t1 t2 t3 t4 t5 tfz ce
              go_wp2
              go_roundw
              case rel => exact ⟨i + 1, us ++ [(⟨1, v.len, 0, 0, 0, z0⟩ : Vl)], by omega, by go_num, by simp [hul], R2, R.out, HKU2.out⟩
              case measure => simp [intOf]; omega
    · obtain rfl : i = n2 := by omega
      have hgb := HGB.out
      have HVZ : Hid (VZ wr G2 a2 i us) := by
        have := hI.out.va
        rw [List.drop_of_length_le (by rw [HL.out.1]; omega), List.append_nil] at this
        exact this
      have HIN9 : Hid _ := own_keepC HI4.out hI.out.ch (fun b hb => by have := HIB.out b hb; omega)
      have HOU9 : Hid (IZ wr G3 a3 n3 outs) := by
        rcases Nat.eq_zero_or_pos n3 with h0 | h0
        · exact .inl h0
        · exact IZ.keepC HO4.out hI.out.ch (by have := HG23.out; omega)
      have HR9 : Hid _ := RB.keepC HR4.out hI.out.ch (by omega)
      have HK9 : Hid (Kept 0 0 w wr) := Chg.kept HK4.out hI.out.ch (fun b hb => by omega)
      obtain ⟨_, q0, q1, q2, _, _, _⟩ := hI.out.ob
      obtain ⟨_, s0, s1, s2, v0, v1, v2⟩ := HR9.out
      have HT2 : Hid (us.length = i) := hul
      have HLKF : Hid (Lk us (foldSt vs vs.length)) := by show Lk _ _; rw [HL.out.1]; exact hLK.out.1
      have HKUF : Hid (Kb us) := hLK.out.2
      clear hI hLK
      go_wp2_with fail
      obtain ⟨y0, y1, y2⟩ := put3_0 wr (w.heap.size + 1) _ _ _ s0 s1 s2 (.slice a1 n1 d1) (.slice a2 i d2) (.slice a3 n3 d3)
      have kp := put3_kept wr (w.heap.size + 1) (.slice a1 n1 d1) (.slice a2 i d2) (.slice a3 n3 d3)
      refine bodyPost_ret (v := gagg a1 n1 d1 a2 i d2 a3 n3 d3) (by simp [results, Tryz.results36, go_sem, y0, y1, y2]) rfl ⟨a1, d1, a2, i, d2, a3, d3, us, rfl, ⟨?_, ?_, ?_⟩, HLKF.out, HK9.out.new kp (by omega)⟩
      · exact own_is (own_keepR HIN9.out kp (fun b hb => by have := HIB.out b hb; omega)) HL.out.2.2
      · exact VZ.vs (VZ.keep HVZ.out kp (by omega)) HT2.out HKUF.out
      · exact IZ.is (IZ.keep HOU9.out kp (by omega)) HL.out.2.1
end Go.Proofs.YtcphabjekfihnabGreat
