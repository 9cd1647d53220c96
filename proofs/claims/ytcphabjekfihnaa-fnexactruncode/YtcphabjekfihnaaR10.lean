import Derived.Test.YtcphabjekfihnaaR09
import Derived.Test.YtcphabjekfihnaaR05
namespace Go.Proofs.Ytcphabjekfihnaa
open Go.RowKit Flt
attribute [local go_sem] alloc_drewN setCell_drewN run_store_float

/-- A stretch of the arena. -/
def seg (zs : List Nat) (o m : Nat) : List Nat := (zs.drop o).take m
theorem seg_len {zs : List Nat} {o m : Nat} (h : o + m ≤ zs.length) : (seg zs o m).length = m := by simp [seg]; omega
theorem seg_at {zs : List Nat} {o m k : Nat} (h : k < m) : (seg zs o m).getD k 0 = zs.getD (o + k) 0 := by
  simp only [seg, List.getD_eq_getElem?_getD]
  rw [List.getElem?_take_of_lt h, List.getElem?_drop]
theorem seg_lt {zs : List Nat} (h : ∀ z ∈ zs, z < 18446744073709551616) (o m : Nat) : ∀ z ∈ seg zs o m, z < 18446744073709551616 := fun z hz => h z (List.mem_of_mem_drop (List.mem_of_mem_take hz))
def opS (zs : List Nat) (po pm : Nat → Nat) (q : Nat) : List (List Nat) := [if 0 < q then seg zs (po 0) (pm 0) else [], if 1 < q then seg zs (po 1) (pm 1) else [], if 2 < q then seg zs (po 2) (pm 2) else []]
theorem opS_set (zs : List Nat) (po pm : Nat → Nat) {q : Nat} (hq : q < 3) : (opS zs po pm q).set q (seg zs (po q) (pm q)) = opS zs po pm (q + 1) := by
  have : q = 0 ∨ q = 1 ∨ q = 2 := by omega
  rcases this with rfl | rfl | rfl <;> simp [opS]
theorem FR.seg {w : World} {g : Nat} {zs : List Nat} (f : FR w g zs) (hw : ∀ z ∈ zs, z < 18446744073709551616) {o m c : Nat} (h : o + m ≤ zs.length) (hc : m ≤ c) : Cl w (.slice (some ⟨g, o, none⟩) m c) (Go.Proofs.Ytcphabjekfihnaa.seg zs o m) :=
  ⟨_, m, c, _, rfl, hc, ⟨seg_len h, seg_lt hw o m, .inr ⟨g, o, rfl, Nat.zero_le _, f.lt, f.lt, fun k hk => by rw [seg_at hk]; exact f.cell (o + k) (by omega)⟩⟩, rfl⟩

/-- The nine cells of a step behind its interface. -/
structure KBr (w : World) (p : Nat) (D L op a b c : Int) (K : Nat) (u : Value) : Prop where
  lt : p < w.heap.size
  c0 : w.cell? ⟨p, 0, none⟩ = some (.int .i64 D)
  c1 : w.cell? ⟨p, 1, none⟩ = some (.int .i64 L)
  c2 : w.cell? ⟨p, 2, none⟩ = some (.int .i64 op)
  c3 : w.cell? ⟨p, 3, none⟩ = some (.int .i64 L)
  c4 : w.cell? ⟨p, 4, none⟩ = some (.int .i64 a)
  c5 : w.cell? ⟨p, 5, none⟩ = some (.int .i64 b)
  c6 : w.cell? ⟨p, 6, none⟩ = some (.int .i64 c)
  c7 : w.cell? ⟨p, 7, none⟩ = some (.float .f64 K)
  c8 : w.cell? ⟨p, 8, none⟩ = some u
theorem KBr.keep {w w' : World} {p l h : Nat} {D L op a b c : Int} {K : Nat} {u : Value} (f : KBr w p D L op a b c K u) (k : Kept l h w w') (hd : p < l ∨ h ≤ p ∨ h ≤ l) : KBr w' p D L op a b c K u := by
  have e : ∀ o, w'.cell? ⟨p, o, none⟩ = w.cell? ⟨p, o, none⟩ := fun o => k.cell (p := ⟨p, o, none⟩) f.lt (by show ¬ (l ≤ p ∧ p < h); omega)
  exact ⟨Nat.lt_of_lt_of_le f.lt k.size, by rw [e]; exact f.c0, by rw [e]; exact f.c1, by rw [e]; exact f.c2, by rw [e]; exact f.c3, by rw [e]; exact f.c4, by rw [e]; exact f.c5, by rw [e]; exact f.c6, by rw [e]; exact f.c7, by rw [e]; exact f.c8⟩
abbrev kbox (D L op a b c : Int) (K : Nat) (u : Value) : Obj := .cells #[.int .i64 D, .int .i64 L, .int .i64 op, .int .i64 L, .int .i64 a, .int .i64 b, .int .i64 c, .float .f64 K, u] 190
theorem kbr_start (w : World) (D L op a b c : Int) (K : Nat) (u : Value) : KBr (w.alloc (kbox D L op a b c K u)) w.heap.size D L op a b c K u := by
  refine ⟨by simp, ?_, ?_, ?_, ?_, ?_, ?_, ?_, ?_, ?_⟩
  all_goals first | (go_simp; done) | (simp; done)

theorem Cn.pos {w : World} {lo : Nat} {u : Value} {xs : List Nat} (h : Cn w lo u xs) (L : Nat) (hL : xs.length = L) (h0 : 1 ≤ L) : ∃ gk ok c zs, u = .slice (some ⟨gk, ok, none⟩) L c ∧ zs.length = L ∧ (∀ k, k < L → w.cell? ⟨gk, ok + k, none⟩ = some (.float .f64 (zs.getD k 0))) ∧ (∀ z ∈ zs, z < 18446744073709551616) ∧ same zs xs := by
  obtain ⟨b, n, c, zs, rfl, h2, h3, h4⟩ := h
  have e := same_len h4
  have e2 := h3.len
  obtain rfl : n = L := by omega
  rcases h3.at_ with z | ⟨gk, ok, rfl, _, _, _, a4⟩
  · omega
  · exact ⟨gk, ok, c, zs, rfl, e2, a4, h3.lt, h4⟩

set_option maxRecDepth 100000 in
set_option maxHeartbeats 8000000 in
theorem carry_kN (w : World) (g N : Nat) (zs : List Nat) (hF : FR w g zs) (hz : zs.length = N) (hN : N ≤ 50000) (hw : ∀ z ∈ zs, z < 18446744073709551616) (bI : Option Addr) (m cb : Nat) (op a b c : Int) (K : Nat) (hK : K < 18446744073709551616) (D L n G : Nat) (hn : n ≤ 3) (hl1 : 1 ≤ L) (hDN : D + L ≤ N) (po pm : Nat → Nat)
    (hG : G < w.heap.size) (hS : ∀ q, q < n → AtP w G (q * 2) ⟨(po q : Int), (pm q : Int)⟩) (hsp : ∀ q, q < n → 1 ≤ pm q ∧ po q + pm q ≤ N) (hkl : (kern op (L : Int) c K ((opS zs po pm n).getD 0 []) ((opS zs po pm n).getD 1 []) ((opS zs po pm n).getD 2 [])).length = L) :
    Calls Try.prog 220 #[.agg #[.int .i64 (D : Int), .int .i64 (L : Int), .int .i64 op, .int .i64 (L : Int), .int .i64 a, .int .i64 b, .int .i64 c, .float .f64 K, .slice (some ⟨G, 0, none⟩) n 3], .slice (some ⟨g, 0, none⟩) N N, .slice bI m cb] w fun e w' => e = .returned (.tuple #[]) ∧ (∃ ks, FR w' g (splice zs D ks) ∧ same ks (kern op (L : Int) c K ((opS zs po pm n).getD 0 []) ((opS zs po pm n).getD 1 []) ((opS zs po pm n).getD 2 [])) ∧ (∀ x ∈ ks, x < 18446744073709551616)) ∧ Kept g (g + 1) w w' := by
  have k1 := kept_alloc 0 0 w (kbox (D : Int) (L : Int) op a b c K (.slice (some ⟨G, 0, none⟩) n 3))
  have k2 := kept_alloc 0 0 (w.alloc (kbox (D : Int) (L : Int) op a b c K (.slice (some ⟨G, 0, none⟩) n 3))) (.cells #[.slice none 0 0, .slice none 0 0, .slice none 0 0] 167)
  have hs1 : (w.alloc (kbox (D : Int) (L : Int) op a b c K (.slice (some ⟨G, 0, none⟩) n 3))).heap.size = w.heap.size + 1 := by simp
  have hA := arr_start (w.alloc (kbox (D : Int) (L : Int) op a b c K (.slice (some ⟨G, 0, none⟩) n 3)))
  rw [hs1] at hA
  have HA : Hid (LV _ (w.heap.size + 1) 3 3 (opS zs po pm 0)) := hA
  have HB : Hid _ := (kbr_start w (D : Int) (L : Int) op a b c K (.slice (some ⟨G, 0, none⟩) n 3)).keep k2 (.inr (.inr (Nat.le_refl _)))
  have HK : Hid _ := k1.trans k2
  have HG : Hid (G < w.heap.size ∧ g < w.heap.size) := ⟨hG, hF.lt⟩
  have HF : Hid (FR w g zs) := hF
  have HS : Hid _ := hS
  have HSP : Hid _ := hsp
  have HW : Hid _ := hw
  have HKL : Hid _ := hkl
  clear k1 k2 hs1 hA hF hS hsp hw hkl hG
  obtain ⟨_, q0, q1, q2, q3, q4, q5, q6, q7, q8⟩ := HB.out
  go_enter Try.func220, Try.ntmps220
  go_wp2_with fail
  clear q0 q1 q2 q3 q4 q5 q6 q7 q8
  generalize (w.alloc (kbox (D : Int) (L : Int) op a b c K (.slice (some ⟨G, 0, none⟩) n 3))).alloc (.cells #[.slice none 0 0, .slice none 0 0, .slice none 0 0] 167) = w1 at HA HB HK ⊢
  go_loopw [12] (fun i W => ∃ q : Nat, q ≤ n ∧ i = .int .i64 q ∧ Hid (LV W (w.heap.size + 1) 3 3 (opS zs po pm q)) ∧ Hid (KBr W w.heap.size (D : Int) (L : Int) op a b c K (.slice (some ⟨G, 0, none⟩) n 3)) ∧ Hid (Kept 0 0 w W)) (fun i _ => n - (intOf i).toNat)
  case atStart => exact ⟨0, Nat.zero_le _, rfl, HA, HB, HK⟩
  case round =>
    obtain ⟨q, hq, rfl, hA, hB, hK2⟩ := hrel
    clear HA HB HK
    by_cases hlt : q < n
    · have hat := (HS.out q hlt).keep HG.out.1 hK2.out (.inr (.inr (Nat.le_refl _)))
      have hsq := HSP.out q hlt
      have HST : Hid ((opS zs po pm q).set q (seg zs (po q) (pm q)) = opS zs po pm (q + 1)) := opS_set zs po pm (by omega)
      have HCl : Hid (∀ w', Kept 0 0 wr w' → Cl w' (.slice (some ⟨g, po q, none⟩) (pm q) (N - po q)) (seg zs (po q) (pm q))) := fun w' k => FR.seg (FR.keep (w := w) (g := g) (xs := zs) HF.out (Kept.trans hK2.out k) (.inr (.inr (Nat.le_refl _)))) HW.out (by omega) (by omega)
      generalize po q = o at hat hsq HST HCl
      generalize pm q = mm at hat hsq HST HCl
      obtain ⟨d0, d1⟩ := hat
      have ka := kept_alloc 0 0 wr (Spn.mk (o : Int) (mm : Int)).box
      have HC : Hid (∀ w, Calls Try.prog 143 #[(Spn.mk (o : Int) (mm : Int)).agg, .slice (some ⟨g, 0, none⟩) N N] w fun e w' => e = .returned (.slice (some ⟨g, o, none⟩) mm (N - o)) ∧ Kept 0 0 w w') := fun w => spanCells w g N N o mm hsq.1 hsq.2 (by omega)
      have hq3 : q < 3 := by omega
      go_wp2_with fail
      refine Calls.mono (HC.out _) ?_
      rintro e w2 ⟨rfl, k2⟩
      have kk := ka.trans k2
      have hA2 := hA.out.keep kk
      obtain ⟨b0, m0, c0, e0, _⟩ := hA2.at_ q hq3
      have fz := hA2.free q
      have hu := HCl.out _ kk
      have R1 : Hid (LV (w2.setCell ⟨w.heap.size + 1, q, none⟩ (.slice (some ⟨g, o, none⟩) mm (N - o))) (w.heap.size + 1) 3 3 (opS zs po pm (q + 1))) := by
        have := hA.out.put (j := q) hq3 rfl kk hu
        rw [HST.out] at this
        exact this
      have kp : Kept (w.heap.size + 1) (w.heap.size + 2) w2 (w2.setCell ⟨w.heap.size + 1, q, none⟩ (.slice (some ⟨g, o, none⟩) mm (N - o))) := kept_setCell _ _ _ (.inl ⟨Nat.le_refl _, Nat.lt_succ_self _⟩)
      have R2 : Hid _ := (hB.out.keep kk (.inr (.inr (Nat.le_refl _)))).keep kp (.inl (by omega))
      have R3 : Hid _ := (Kept.trans hK2.out kk).new kp (by omega)
      clear kk hA2 hu kp hA hB hK2 k2 ka d0 d1 HCl
      go_wp2
      go_roundw
      case rel => exact ⟨q + 1, by omega, by go_num, R1, R2, R3⟩
      case measure => simp [intOf]; omega
    · obtain rfl : q = n := by omega
      obtain ⟨b0, m0, d0, c0, e0⟩ := hA.out.at_ 0 (by omega)
      obtain ⟨b1, m1, d1, c1, e1⟩ := hA.out.at_ 1 (by omega)
      obtain ⟨b2, m2, d2, c2, e2⟩ := hA.out.at_ 2 (by omega)
      have HE : Hid (∀ w', Kept 0 0 wr w' → Calls Try.prog 31 #[vagg op (L : Int) a b c K, .slice b0 m0 d0, .slice b1 m1 d1, .slice b2 m2 d2] w' fun e w'' => ∃ u, e = .returned u ∧ Cn w'' w'.heap.size u (kern op (L : Int) c K ((opS zs po pm q).getD 0 []) ((opS zs po pm q).getD 1 []) ((opS zs po pm q).getD 2 [])) ∧ Kept 0 0 w' w'') := fun w' k => implKernelN w' ⟨op, (L : Int), a, b, c, K⟩ hK _ _ _ _ _ _ ((e0 (by omega)).keep k) ((e1 (by omega)).keep k) ((e2 (by omega)).keep k) (ite_lt (seg_lt HW.out _ _))
      have hg2 := HG.out.2
      have hgs : w.heap.size + 1 < wr.heap.size := hA.out.lt
      obtain ⟨_, q0, q1, q2, q3, q4, q5, q6, q7, _⟩ := hB.out
      have HQ : Hid (∀ l h w', Kept l h wr w' → (h ≤ l ∨ (g ≤ l ∧ h ≤ g + 1)) → w'.cell? ⟨w.heap.size, 0, none⟩ = some (.int .i64 (D : Int)) ∧ w'.cell? ⟨w.heap.size, 1, none⟩ = some (.int .i64 (L : Int)) ∧ w'.cell? ⟨w.heap.size, 2, none⟩ = some (.int .i64 op) ∧ w'.cell? ⟨w.heap.size, 3, none⟩ = some (.int .i64 (L : Int)) ∧ w'.cell? ⟨w.heap.size, 4, none⟩ = some (.int .i64 a) ∧ w'.cell? ⟨w.heap.size, 5, none⟩ = some (.int .i64 b) ∧ w'.cell? ⟨w.heap.size, 6, none⟩ = some (.int .i64 c) ∧ w'.cell? ⟨w.heap.size, 7, none⟩ = some (.float .f64 K) ∧ w'.cell? ⟨w.heap.size + 1, 0, none⟩ = some (.slice b0 m0 d0) ∧ w'.cell? ⟨w.heap.size + 1, 1, none⟩ = some (.slice b1 m1 d1) ∧ w'.cell? ⟨w.heap.size + 1, 2, none⟩ = some (.slice b2 m2 d2)) := fun l h w' k hd => by
        have e : ∀ p o, p < wr.heap.size → p ≠ g → w'.cell? ⟨p, o, none⟩ = wr.cell? ⟨p, o, none⟩ := fun p o hp hne => k.cell (p := ⟨p, o, none⟩) hp (by show ¬ (l ≤ p ∧ p < h); omega)
        exact ⟨by rw [e _ _ (by omega) (by omega)]; exact q0, by rw [e _ _ (by omega) (by omega)]; exact q1, by rw [e _ _ (by omega) (by omega)]; exact q2, by rw [e _ _ (by omega) (by omega)]; exact q3, by rw [e _ _ (by omega) (by omega)]; exact q4, by rw [e _ _ (by omega) (by omega)]; exact q5, by rw [e _ _ (by omega) (by omega)]; exact q6, by rw [e _ _ (by omega) (by omega)]; exact q7, by rw [e _ _ (by omega) (by omega)]; exact c0, by rw [e _ _ (by omega) (by omega)]; exact c1, by rw [e _ _ (by omega) (by omega)]; exact c2⟩
      have HC : Hid (∀ w, Calls Try.prog 143 #[(Spn.mk (D : Int) (L : Int)).agg, .slice (some ⟨g, 0, none⟩) N N] w fun e w' => e = .returned (.slice (some ⟨g, D, none⟩) L (N - D)) ∧ Kept 0 0 w w') := fun w => spanCells w g N N D L hl1 hDN (by omega)
      have HFk : Hid (∀ w', Kept 0 0 wr w' → w'.heap[g]? = some (.cells (zs.map (Value.float .f64)).toArray 23 (0, 0))) := fun w' k => FR.keep (w := w) (g := g) (xs := zs) HF.out (Kept.trans hK2.out k) (.inr (.inr (Nat.le_refl _)))
      have HFI : Hid (∀ ks : List Nat, ks.length = L → D + (ks.map (Value.float .f64)).length ≤ (zs.map (Value.float .f64)).length) := fun ks h => by rw [List.length_map, List.length_map, h, hz]; exact hDN
      have HN1 : Hid (∀ ks : List Nat, ks.length = L → (ks.map (Value.float .f64)).length = Nat.min L L) := fun ks h => by rw [List.length_map, h]; exact (Nat.min_self L).symm
      have HON : Hid (∀ ks : List Nat, ∀ v ∈ ks.map (Value.float .f64), v.oneCell' = true) := fun ks v hv => by
        obtain ⟨x, _, rfl⟩ := List.mem_map.1 hv
        rfl
      generalize hV : kern op (L : Int) c K ((opS zs po pm q).getD 0 []) ((opS zs po pm q).getD 1 []) ((opS zs po pm q).getD 2 []) = kk0 at HE HKL ⊢
      have HVV : Hid _ := hV
      have HK2 : Hid _ := hK2.out
      clear e0 e1 e2 hA hB hK2 hV HW HSP HS
      go_wp2_with fail
      go_region_held3 (fun w' => w'.cell? ⟨w.heap.size, 0, none⟩ = some (.int .i64 (D : Int)) ∧ w'.cell? ⟨w.heap.size, 1, none⟩ = some (.int .i64 (L : Int)) ∧ w'.cell? ⟨w.heap.size, 2, none⟩ = some (.int .i64 op) ∧ w'.cell? ⟨w.heap.size, 3, none⟩ = some (.int .i64 (L : Int)) ∧ w'.cell? ⟨w.heap.size, 4, none⟩ = some (.int .i64 a) ∧ w'.cell? ⟨w.heap.size, 5, none⟩ = some (.int .i64 b) ∧ w'.cell? ⟨w.heap.size, 6, none⟩ = some (.int .i64 c) ∧ w'.cell? ⟨w.heap.size, 7, none⟩ = some (.float .f64 K) ∧ w'.cell? ⟨w.heap.size + 1, 0, none⟩ = some (.slice b0 m0 d0) ∧ w'.cell? ⟨w.heap.size + 1, 1, none⟩ = some (.slice b1 m1 d1) ∧ w'.cell? ⟨w.heap.size + 1, 2, none⟩ = some (.slice b2 m2 d2)) (go_keep)
        (first
          | (refine step_copy_kept rfl (.tmp 26) (.tmp 35) 38 38 rfl 23 Try.underlying38 szF1 ⟨gk, okk, none⟩ L (N - D) L c9 g D rfl rfl (zs.map (Value.float .f64)) 23 (HFk.out _ kk3) (ks.map (Value.float .f64)) (HN1.out ks y2) (news_cells y2 y3) (HFI.out ks y2) (HON.out ks) ?_; intro w4 hg4 k4; obtain ⟨x0, x1, x2, x3, x4, x5, x6, x7, x8, x9, x10⟩ := HQ.out g (g + 1) w4 (Kept.trans (kk3.mono (lo' := g) (hi' := g + 1) fun b _ c => by omega) k4) (.inr ⟨Nat.le_refl _, Nat.le_refl _⟩))
          | (go_at_call 31; refine Calls.mono (HE.out _ kk2) ?_; rintro e w3 ⟨u, rfl, hc3, k3⟩; have kk3 := Kept.trans kk2 k3; obtain ⟨gk, okk, c9, ks, rfl, y2, y3, y4, y5⟩ := Cn.pos hc3 L HKL.out hl1; obtain ⟨r0, r1, r2, r3, r4, r5, r6, r7, r8, r9, r10⟩ := HQ.out 0 0 w3 kk3 (.inl (Nat.le_refl _)))
          | (go_at_call 143; refine Calls.mono (HC.out _) ?_; rintro e w2 ⟨rfl, k2⟩; have kk2 := Kept.trans (kept_drewN 0 0 wr 1) k2; obtain ⟨s0, s1, s2, s3, s4, s5, s6, s7, s8, s9, s10⟩ := HQ.out 0 0 w2 kk2 (.inl (Nat.le_refl _))))
      all_goals
        have R : Hid (FR w4 g (splice zs D ks)) := by
          show _ = _
          rw [← splice_map]
          exact hg4.out
        have R2 : Hid _ := Kept.trans (HK2.out.mono (lo' := g) (hi' := g + 1) fun b _ c => by omega) (Kept.trans (kk3.mono (lo' := g) (hi' := g + 1) fun b _ c => by omega) k4)
        go_end0
        exact ⟨rfl, ⟨ks, R.out, by rw [HVV.out]; exact y5, y4⟩, R2.out⟩
end Go.Proofs.Ytcphabjekfihnaa
