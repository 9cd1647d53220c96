import Derived.Test.YtcphabjekfihnaaV11
import Derived.Laws.CopyOwn
namespace Go.Proofs.Ytcphabjekfihnaa
open Go.RowKit Flt
attribute [local go_sem] alloc_drewN setCell_drewN run_store_float

/-- Lists of floats in blocks below B. -/
structure SSb (w : World) (B : Nat) (a : Option Addr) (n : Nat) (xss : List (List Nat)) : Prop where
  len : xss.length = n
  le : B ≤ w.heap.size
  at_ : n = 0 ∨ ∃ g off, a = some ⟨g, off, none⟩ ∧ g < B ∧ ∀ k, k < n → ∃ b c, w.cell? ⟨g, off + k, none⟩ = some (.slice b (xss.getD k []).length c) ∧ (xss.getD k []).length ≤ c ∧ FS w 0 B b (xss.getD k []).length (xss.getD k [])
theorem SSb.keep {w w' : World} {B l h : Nat} {a : Option Addr} {n : Nat} {xss : List (List Nat)} (f : SSb w B a n xss) (k : Kept l h w w') (hd : B ≤ l ∨ h ≤ l) : SSb w' B a n xss :=
  ⟨f.len, Nat.le_trans f.le k.size, by
    rcases f.at_ with h0 | ⟨g, off, e, h1, h2⟩
    · exact .inl h0
    · refine .inr ⟨g, off, e, h1, fun j hj => ?_⟩
      obtain ⟨b, c, a1, a2, a3⟩ := h2 j hj
      exact ⟨b, c, by rw [k.cell (p := ⟨g, off + j, none⟩) (Nat.lt_of_lt_of_le h1 f.le) (by show ¬ (l ≤ g ∧ g < h); omega)]; exact a1, a2, a3.keep k (by omega)⟩⟩

set_option maxRecDepth 100000 in
set_option maxHeartbeats 4000000 in
theorem spanCells (w : World) (g N cap o m : Nat) (h1 : 1 ≤ m) (h2 : o + m ≤ cap) (h3 : o + m ≤ 1000000) :
    Calls Try.prog 143 #[(Spn.mk (o : Int) (m : Int)).agg, .slice (some ⟨g, 0, none⟩) N cap] w fun e w' => e = .returned (.slice (some ⟨g, o, none⟩) m (cap - o)) ∧ Kept 0 0 w w' := by
  have hK := kept_alloc 0 0 w (Spn.mk (o : Int) (m : Int)).box
  have hB := spn_box w (Spn.mk (o : Int) (m : Int))
  have HK : Hid _ := hK
  have HB : Hid _ := hB
  have HBL : Hid (w.heap.size < (w.alloc (Spn.mk (o : Int) (m : Int)).box).heap.size) := by show _ < _; simp
  obtain ⟨q0, q1⟩ := hB
  rw [Nat.zero_add] at q1
  have HE : Hid (∀ w, Calls Try.prog 170 #[(Spn.mk (o : Int) (m : Int)).agg] w fun e w' => e = .returned (.int .i64 ((o : Int) + (m : Int))) ∧ Kept 0 0 w w') := fun w => spanEnd w (Spn.mk (o : Int) (m : Int)) (by show -1000000 ≤ (o : Int) + (m : Int) ∧ (o : Int) + (m : Int) ≤ 1000000; omega)
  have hne : ¬ cap = o := by omega
  clear hK
  go_enter Try.func143, Try.ntmps143
  go_wp2_with fail
  generalize w.alloc (Spn.mk (o : Int) (m : Int)).box = w1 at HK HB HBL q0 q1 ⊢
  go_region_with (go_at_call 170; refine Calls.mono (HE.out _) ?_; rintro e w3 ⟨rfl, k3⟩; have kk3 := Kept.trans (kept_drewN 0 0 w1 1) k3; obtain ⟨t0, t1⟩ := AtP.keep HB.out HBL.out kk3 (.inr (.inr (Nat.le_refl _))); rw [Nat.zero_add] at t1)
  all_goals
    go_wp2
    go_ret
    exact ⟨rfl, Kept.trans HK.out kk3⟩
theorem szF1 : (Try.prog.info? 23).map (·.size) = some 1 := by kernel_rfl
theorem splice_map {α β : Type} (f : α → β) (L : List α) (o : Nat) (cs : List α) : splice (L.map f) o (cs.map f) = (splice L o cs).map f := by
  simp [splice, List.map_take, List.map_drop]
theorem splice_at {L cs : List Nat} {o k : Nat} (h : o + cs.length ≤ L.length) : (splice L o cs).getD k 0 = if o ≤ k ∧ k < o + cs.length then cs.getD (k - o) 0 else L.getD k 0 := by
  unfold splice
  simp only [List.getD_eq_getElem?_getD, List.getElem?_append, List.length_take, List.getElem?_take, List.getElem?_drop]
  by_cases c1 : k < o
  · rw [if_pos (by omega), if_pos c1, if_neg (by omega)]
  · by_cases c2 : k < o + cs.length
    · rw [if_neg (by omega), if_pos (by omega), if_pos (by omega)]
      congr 2; omega
    · rw [if_neg (by omega), if_neg (by omega), if_neg (by omega)]
      congr 2; omega

theorem kept_setRow (w : World) (g : Nat) (cs : Array Value) : Kept g (g + 1) w (w.setRow g cs) :=
  ⟨rfl, rfl, rfl, by simp [World.setRow], fun i _ hn => setRow_other w g i cs (by omega)⟩
/-- A copy into a row, as one step of a region that draws its order. -/
theorem step_copy_kept {P : Program} {ops : Array Oper} {o : Oper} {a : Act} {w : World} {K : Act → World → Prop} {Q : Exit → Act → World → Prop} {E : Prop} (hgd : o.guard = none) (d s : Operand) (dT sT : TypeId)
    (ho : o.op = .call { callee := .builtin .copy, args := #[d, s], argTypes := #[dT, sT] }) (elem : TypeId) (hu : P.underlying dT = some (.slice elem)) (hsz : (P.info? elem).map (·.size) = some 1)
    (ad : Addr) (dLen dCap sLen sCap : Nat) (g off : Nat) (hd : a.eval d = .slice (some ⟨g, off, none⟩) dLen dCap) (hs : a.eval s = .slice (some ad) sLen sCap)
    (cur : List Value) (t : TypeId) (hg : w.heap[g]? = some (.cells cur.toArray t (0, 0))) (cs : List Value) (hn : cs.length = Nat.min sLen dLen)
    (hsrc : ∀ j v, cs[j]? = some v → w.cell? (ad.add j) = some v)
    (hfit : off + cs.length ≤ cur.length) (h1 : ∀ v ∈ cs, v.oneCell' = true)
    (h : ∀ w', Hid (w'.heap[g]? = some (.cells (splice cur off cs).toArray t (0, 0))) → Kept g (g + 1) w w' → K (a.put o.dst (goInt cs.length)) w') :
    if Region.wanted o (yielded ops a.tmps) = true then Oper.wp P o a w K Q else E := by
  have hw : Region.wanted o (yielded ops a.tmps) = true := by simp [Region.wanted, hgd]
  rw [if_pos hw]
  have hrun := run_copy_row (P := P) w dT sT o.type elem g off dLen dCap ad sLen sCap cur.toArray t cs hu hsz hg hn hsrc (by simpa using hfit) h1
  unfold Oper.wp
  simp [execOp, ho, resolve, invoke, builtin, hd, hs, hrun, Result.andThen]
  exact h _ (show _ = _ by simpa [splice] using setRow_heap w g _ _ t _ hg) (kept_setRow w g _)
theorem news_cells {w : World} {g off n : Nat} {xs : List Nat} (hx : xs.length = n) (hc : ∀ k, k < n → w.cell? ⟨g, off + k, none⟩ = some (.float .f64 (xs.getD k 0))) :
    ∀ j u, (xs.map (Value.float .f64))[j]? = some u → w.cell? ((⟨g, off, none⟩ : Addr).add j) = some u := fun j u hu => by
  have hj : j < n := by
    rcases Nat.lt_or_ge j n with c | c
    · exact c
    · rw [List.getElem?_eq_none (by simp; omega)] at hu; cases hu
  have h1 := hc j hj
  have e : (⟨g, off, none⟩ : Addr).add j = ⟨g, off + j, none⟩ := by
    unfold Addr.add
    split
    · rename_i h0; rw [h0]; rfl
    · rfl
  rw [e, h1]
  rw [List.getElem?_map, List.getElem?_eq_getElem (by omega : j < xs.length)] at hu
  simp only [Option.map_some] at hu
  rw [← hu, List.getD_eq_getElem?_getD, List.getElem?_eq_getElem (by omega : j < xs.length)]; rfl

set_option maxRecDepth 100000 in
set_option maxHeartbeats 4000000 in
theorem carry_inN (w : World) (g N : Nat) (zs : List Nat) (hF : FR w g zs) (hz : zs.length = N) (hN : N ≤ 50000) (gb ob m cb : Nat) (hgb : gb < g) (j D L cc gc oc : Nat) (xs : List Nat) (hx : xs.length = L) (hj : j < m)
    (hc1 : w.cell? ⟨gb, ob + j, none⟩ = some (.slice (some ⟨gc, oc, none⟩) L cc)) (hgc : gc < g) (hcx : ∀ k, k < L → w.cell? ⟨gc, oc + k, none⟩ = some (.float .f64 (xs.getD k 0))) (hl1 : 1 ≤ L) (hDN : D + L ≤ N) :
    Calls Try.prog 218 #[.agg #[.int .i64 (D : Int), .int .i64 (L : Int), .int .i64 (j : Int)], .slice (some ⟨g, 0, none⟩) N N, .slice (some ⟨gb, ob, none⟩) m cb] w fun e w' => e = .returned (.tuple #[]) ∧ FR w' g (splice zs D xs) ∧ Kept g (g + 1) w w' := by
  have hK := kept_alloc 0 0 w (.cells #[.int .i64 (D : Int), .int .i64 (L : Int), .int .i64 (j : Int)] 188)
  have HG : Hid (g < w.heap.size) := hF.lt
  have q0 : (w.alloc (.cells #[.int .i64 (D : Int), .int .i64 (L : Int), .int .i64 (j : Int)] 188)).cell? ⟨w.heap.size, 0, none⟩ = some (.int .i64 (D : Int)) := by first | (go_simp; done) | (simp; done)
  have q1 : (w.alloc (.cells #[.int .i64 (D : Int), .int .i64 (L : Int), .int .i64 (j : Int)] 188)).cell? ⟨w.heap.size, 1, none⟩ = some (.int .i64 (L : Int)) := by first | (go_simp; done) | (simp; done)
  have q2 : (w.alloc (.cells #[.int .i64 (D : Int), .int .i64 (L : Int), .int .i64 (j : Int)] 188)).cell? ⟨w.heap.size, 2, none⟩ = some (.int .i64 (j : Int)) := by first | (go_simp; done) | (simp; done)
  have q3 := kcell hK (Nat.lt_trans hgb hF.lt) hc1
  have HQ : Hid (∀ l h w', Kept l h (w.alloc (.cells #[.int .i64 (D : Int), .int .i64 (L : Int), .int .i64 (j : Int)] 188)) w' → (h ≤ l ∨ (g ≤ l ∧ h ≤ g + 1)) → w'.cell? ⟨w.heap.size, 0, none⟩ = some (.int .i64 (D : Int)) ∧ w'.cell? ⟨w.heap.size, 1, none⟩ = some (.int .i64 (L : Int)) ∧ w'.cell? ⟨w.heap.size, 2, none⟩ = some (.int .i64 (j : Int)) ∧ w'.cell? ⟨gb, ob + j, none⟩ = some (.slice (some ⟨gc, oc, none⟩) L cc)) := fun l h w' k hd => by
    have hz1 : w.heap.size < (w.alloc (.cells #[.int .i64 (D : Int), .int .i64 (L : Int), .int .i64 (j : Int)] 188)).heap.size := by simp
    have hgw := HG.out
    have e : ∀ b o, b < w.heap.size + 1 → b ≠ g → w'.cell? ⟨b, o, none⟩ = (w.alloc (.cells #[.int .i64 (D : Int), .int .i64 (L : Int), .int .i64 (j : Int)] 188)).cell? ⟨b, o, none⟩ := fun b o hb hne => k.cell (p := ⟨b, o, none⟩) (by show b < _; omega) (by show ¬ (l ≤ b ∧ b < h); omega)
    exact ⟨by rw [e _ _ (by omega) (by omega)]; exact q0, by rw [e _ _ (by omega) (by omega)]; exact q1, by rw [e _ _ (by omega) (by omega)]; exact q2, by rw [e _ _ (by omega) (by omega)]; exact q3⟩
  have HC : Hid (∀ w, Calls Try.prog 143 #[(Spn.mk (D : Int) (L : Int)).agg, .slice (some ⟨g, 0, none⟩) N N] w fun e w' => e = .returned (.slice (some ⟨g, D, none⟩) L (N - D)) ∧ Kept 0 0 w w') := fun w => spanCells w g N N D L hl1 hDN (by omega)
  have HF : Hid (∀ w', Kept 0 0 (w.alloc (.cells #[.int .i64 (D : Int), .int .i64 (L : Int), .int .i64 (j : Int)] 188)) w' → w'.heap[g]? = some (.cells (zs.map (Value.float .f64)).toArray 23 (0, 0))) := fun w' k => hF.keep (hK.trans k) (.inr (.inr (Nat.le_refl _)))
  have HSR : Hid (∀ w', Kept 0 0 (w.alloc (.cells #[.int .i64 (D : Int), .int .i64 (L : Int), .int .i64 (j : Int)] 188)) w' → ∀ i u, (xs.map (Value.float .f64))[i]? = some u → w'.cell? ((⟨gc, oc, none⟩ : Addr).add i) = some u) := fun w' k => news_cells hx (fun i hi => kcell (hK.trans k) (Nat.lt_trans hgc HG.out) (hcx i hi))
  have HN1 : Hid ((xs.map (Value.float .f64)).length = Nat.min L L) := by show _ = _; rw [List.length_map, hx]; exact (Nat.min_self L).symm
  have HFI : Hid (D + (xs.map (Value.float .f64)).length ≤ (zs.map (Value.float .f64)).length) := by show _ ≤ _; rw [List.length_map, List.length_map, hx, hz]; exact hDN
  have HON : Hid (∀ v ∈ xs.map (Value.float .f64), v.oneCell' = true) := fun v hv => by
    obtain ⟨x, _, rfl⟩ := List.mem_map.1 hv
    rfl
  have HK : Hid _ := hK
  have i1 : (0 : Int) ≤ (j : Int) := by omega
  have i2 : (j : Int) < (m : Int) := by omega
  clear hK hF hc1 hcx
  go_enter Try.func218, Try.ntmps218
  go_wp2_with fail
  generalize w.alloc (.cells #[.int .i64 (D : Int), .int .i64 (L : Int), .int .i64 (j : Int)] 188) = w1 at HQ HF HSR HK q0 q1 q2 q3 ⊢
  go_region_held3 (fun w' => w'.cell? ⟨w.heap.size, 0, none⟩ = some (.int .i64 (D : Int)) ∧ w'.cell? ⟨w.heap.size, 1, none⟩ = some (.int .i64 (L : Int)) ∧ w'.cell? ⟨w.heap.size, 2, none⟩ = some (.int .i64 (j : Int)) ∧ w'.cell? ⟨gb, ob + j, none⟩ = some (.slice (some ⟨gc, oc, none⟩) L cc)) (go_keep)
    (first
      | (refine step_copy_kept rfl (.tmp 9) (.tmp 14) 38 38 rfl 23 Try.underlying38 szF1 ⟨gc, oc, none⟩ L (N - D) L cc g D rfl rfl (zs.map (Value.float .f64)) 23 (HF.out _ kk2) (xs.map (Value.float .f64)) HN1.out (HSR.out _ kk2) HFI.out HON.out ?_; intro w4 hg4 k4; obtain ⟨x0, x1, x2, x3⟩ := HQ.out g (g + 1) w4 (Kept.trans (kk2.mono (lo' := g) (hi' := g + 1) fun b _ c => by omega) k4) (.inr ⟨Nat.le_refl _, Nat.le_refl _⟩))
      | (go_at_call 143; refine Calls.mono (HC.out _) ?_; rintro e w2 ⟨rfl, k2⟩; have kk2 := Kept.trans (kept_drewN 0 0 w1 1) k2; obtain ⟨s0, s1, s2, s3⟩ := HQ.out 0 0 w2 kk2 (.inl (Nat.le_refl _))))
  all_goals
    have R : Hid (FR w4 g (splice zs D xs)) := by
      show _ = _
      rw [← splice_map]
      exact hg4.out
    have R2 : Hid _ := Kept.trans (HK.out.mono (lo' := g) (hi' := g + 1) fun b _ c => by omega) (Kept.trans (kk2.mono (lo' := g) (hi' := g + 1) fun b _ c => by omega) k4)
    first | (go_end0; exact ⟨rfl, R.out, R2.out⟩) | (refine ⟨_, rfl, ?_⟩; exact ⟨rfl, R.out, R2.out⟩) | (go_wp2; go_ret; exact ⟨rfl, R.out, R2.out⟩)
end Go.Proofs.Ytcphabjekfihnaa
