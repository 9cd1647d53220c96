import Derived.Test.YtdkjdlimcnddkaaL05
namespace Go.Proofs.Ytdkjdlimcnddkaa
open Go.RowKit Flt
attribute [local go_sem] alloc_drewN setCell_drewN run_store_float

/-- What l6load has laid: the answer's box at A, the code's at C, its lists in rows from B on. -/
structure LS (W w1 : World) (A C B : Nat) (x0 u v : Value) (pk : Int) (ins : List Int) (ss : List Ste) (os : List Spn) : Prop where
  ba : KB W A (.slice none 0 0) (.slice none 0 0) (.slice none 0 0) (.int .i64 0)
  bc : KB W C x0 u v (.int .i64 pk)
  oc : OCd W B x0 u v ins ss os
  ch : Chg (fun b => b = C ∨ B ≤ b) w1 W
  bz : B ≤ W.heap.size
theorem LS.keep {W W' w1 : World} {A C B : Nat} {x0 u v : Value} {pk : Int} {ins : List Int} {ss : List Ste} {os : List Spn} (f : LS W w1 A C B x0 u v pk ins ss os) (k : Kept 0 0 W W') : LS W' w1 A C B x0 u v pk ins ss os :=
  ⟨f.ba.keep k, f.bc.keep k, f.oc.keep k, Chg.trans f.ch k.chg, Nat.le_trans f.bz k.size⟩
theorem LS.kept {W w1 w : World} {A C B : Nat} {x0 u v : Value} {pk : Int} {ins : List Int} {ss : List Ste} {os : List Spn} (f : LS W w1 A C B x0 u v pk ins ss os) (k : Kept 0 0 w w1) (h1 : w.heap.size ≤ C) (h2 : w.heap.size ≤ B) : Kept 0 0 w W := Chg.kept k f.ch (fun i hi => by omega)
/-- A new value in the code's box. -/
theorem LS.put {W w1 : World} {A C B : Nat} {x0 u v : Value} {pk : Int} {ins : List Int} {ss : List Ste} {os : List Spn} (f : LS W w1 A C B x0 u v pk ins ss os) (hA : A < C) (hC : C < B) {o : Nat} {y : Value} {x0' u' v' : Value} {pk' : Int} {ins' : List Int} {ss' : List Ste} {os' : List Spn} (hb : KB (W.setCell ⟨C, o, none⟩ y) C x0' u' v' (.int .i64 pk')) (ho : OCd W B x0' u' v' ins' ss' os') :
    LS (W.setCell ⟨C, o, none⟩ y) w1 A C B x0' u' v' pk' ins' ss' os' := by
  have k := chg_setCell (S := fun b => b = C) W C o y rfl
  exact ⟨f.ba.keepC k (by omega), hb, ho.keepC k (fun g hg _ e => by omega), Chg.trans f.ch (k.mono fun b _ h => .inl h), Nat.le_trans f.bz k.size⟩
/-- The row of steps is longer by one. -/
theorem OCd.addS {W W1 W' : World} {B : Nat} {v1 u v3 u' : Value} {ins : List Int} {ss : List Ste} {os : List Spn} {s : Ste} {g n cap : Nat} (f : OCd W B v1 u v3 ins ss os) (k : Kept 0 0 W W1) (hu : u' = .slice (some ⟨g, 0, none⟩) n cap) (ho : W'.ownsRow B 80 8 u' (ss.length + 1) (flatT ss ++ s.cells)) (hg : Chg (fun b => u.ownBlock = some b) W1 W') (ha : u.ownBlock = some g ∨ W.heap.size ≤ g) (hs : s.k < 18446744073709551616) : OCd W' B v1 u' v3 ins (ss ++ [s]) os := by
  have f1 := f.keep k
  have e : u'.ownBlock = some g := by rw [hu]; rfl
  refine ⟨own_keepC f1.r1 hg (fun b hb c => f.d12 b hb c), by rw [List.length_append, flatT_append, flatT_one]; exact ho, own_keepC f1.r3 hg (fun b hb c => f.d23 b c hb), fun b hb c => ?_, f.d13, fun b hb c => ?_, fun x hx => ?_⟩
  · rw [e] at c
    injection c with c
    subst c
    rcases ha with h | h
    · exact f.d12 _ hb h
    · have := (own_blkV f.r1 hb).2; omega
  · rw [e] at hb
    injection hb with hb
    subst hb
    rcases ha with h | h
    · exact f.d23 _ h c
    · have := (own_blkV f.r3 c).2; omega
  · rcases List.mem_append.1 hx with h | h
    · exact f.kl x h
    · simp at h; subst h; exact hs
/-- The row of outputs is longer by one. -/
theorem OCd.addP {W W1 W' : World} {B : Nat} {v1 v2 u u' : Value} {ins : List Int} {ss : List Ste} {os : List Spn} {s : Spn} {g n cap : Nat} (f : OCd W B v1 v2 u ins ss os) (k : Kept 0 0 W W1) (hu : u' = .slice (some ⟨g, 0, none⟩) n cap) (ho : W'.ownsRow B 83 2 u' (os.length + 1) (flatP os ++ s.cells)) (hg : Chg (fun b => u.ownBlock = some b) W1 W') (ha : u.ownBlock = some g ∨ W.heap.size ≤ g) : OCd W' B v1 v2 u' ins ss (os ++ [s]) := by
  have f1 := f.keep k
  have e : u'.ownBlock = some g := by rw [hu]; rfl
  refine ⟨own_keepC f1.r1 hg (fun b hb c => f.d13 b hb c), own_keepC f1.r2 hg (fun b hb c => f.d23 b hb c), by rw [List.length_append, flatP_append, flatP_one]; exact ho, f.d12, fun b hb c => ?_, fun b hb c => ?_, f.kl⟩
  · rw [e] at c
    injection c with c
    subst c
    rcases ha with h | h
    · exact f.d13 _ hb h
    · have := (own_blkV f.r1 hb).2; omega
  · rw [e] at c
    injection c with c
    subst c
    rcases ha with h | h
    · exact f.d23 _ hb h
    · have := (own_blkV f.r2 hb).2; omega
/-- The list of inputs comes in. -/
theorem OCd.setI {W : World} {B : Nat} {v1 : Value} {ins : List Int} (h : W.ownsRow B 3 1 v1 ins.length (ins.map (Value.int .i64))) : OCd W B v1 (.slice none 0 0) (.slice none 0 0) ins [] [] :=
  ⟨h, World.ownsRow_nil _ _ _ _, World.ownsRow_nil _ _ _ _, fun g _ c => by simp [Value.ownBlock] at c, fun g _ c => by simp [Value.ownBlock] at c, fun g c => by simp [Value.ownBlock] at c, by simp⟩
/-- What l6load answers. -/
def LLo (w : World) (bs : List Int) (e : Ending) (w' : World) : Prop :=
  (fitL bs = false → ∃ a1 m1 d1 a2 m2 d2 a3 m3 d3 pk, e = .returned (.tuple #[cagg a1 m1 d1 a2 m2 d2 a3 m3 d3 pk, .bool false])) ∧
  (fitL bs = true → ∃ a1 d1 a2 d2 a3 d3, ∃ ss : List Ste, e = .returned (.tuple #[cagg a1 (n1L bs) d1 a2 (n2L bs) d2 a3 (n3L bs) d3 (pkL bs), .bool true]) ∧ ss.map nk = (ssL bs).map nk ∧ OCd w' w.heap.size (.slice a1 (n1L bs) d1) (.slice a2 (n2L bs) d2) (.slice a3 (n3L bs) d3) (insL bs) ss (osL bs)) ∧ Kept 0 0 w w'
theorem fit_no {bs : List Int} (h : ¬ p4L bs + 2 ≤ bs.length) : fitL bs = false := decide_eq_false h
theorem fit1 {bs : List Int} (h : ¬ 4 ≤ bs.length) : fitL bs = false := fit_no (by have := p3L_le bs; unfold p4L; unfold p1L at this; omega)
theorem fit2 {bs : List Int} (h : ¬ p1L bs ≤ bs.length) : fitL bs = false := fit_no (by have := p3L_le bs; unfold p4L; omega)
theorem fit3 {bs : List Int} (h : ¬ p1L bs + 2 ≤ bs.length) : fitL bs = false := fit_no (by have := p3L_le bs; unfold p4L; omega)
theorem fit4 {bs : List Int} {k : Nat} (hk : k ≤ n2L bs) (h : ¬ posTo bs (p1L bs + 2) k ≤ bs.length) : fitL bs = false := fit_no (by
  have := posTo_mono bs (p1L bs + 2) k (n2L bs - k)
  rw [show k + (n2L bs - k) = n2L bs by omega] at this
  unfold p4L p3L
  omega)
theorem fit5 {bs : List Int} (h : ¬ p3L bs + 2 ≤ bs.length) : fitL bs = false := fit_no (by unfold p4L; omega)
theorem fit6 {bs : List Int} {k : Nat} (hk : k ≤ n3L bs) (h : ¬ p3L bs + 2 + 4 * k ≤ bs.length) : fitL bs = false := fit_no (by unfold p4L; omega)
/-- A row of counts that was read. -/
theorem row_cell {W : World} {B k d : Nat} {b : Option Addr} {xs : List Int} (f : W.ownsRow B 3 1 (.slice b k d) k (xs.map (Value.int .i64))) (h : 0 < k) : ∃ g, b = some ⟨g, 0, none⟩ ∧ B ≤ g ∧ g < W.heap.size ∧ ∀ j, j < k → W.cell? ⟨g, j, none⟩ = some (.int .i64 (xs.getD j 0)) := by
  obtain ⟨g, cap, e, h1, h2⟩ := f.form h
  injection e with e1 e2 e3
  have hl : xs.length = k := by have := f.1; rw [List.length_map] at this; omega
  refine ⟨g, e1, h1, h2, fun j hj => ?_⟩
  obtain ⟨g', cap', e', _, _, hc⟩ := row_at1 f hj
  injection e' with e1' _ _
  rw [e1] at e1'
  injection e1' with e1'
  injection e1' with e1'
  subst e1'
  exact hc
theorem YL.ys {w : World} {hi n : Nat} {a : Option Addr} {xs : List Int} (f : YL w hi a n xs) (h : Bts xs) : YS w a n xs := ⟨f.len, h, f.at_.imp id fun ⟨g, off, e, _, h2, h3⟩ => ⟨g, off, e, h2, h3⟩⟩
theorem LS.yl {W w1 : World} {A C B : Nat} {x0 u v : Value} {pk : Int} {ins : List Int} {ss : List Ste} {os : List Spn} {a : Option Addr} {n : Nat} {bs : List Int} (f : LS W w1 A C B x0 u v pk ins ss os) (y : YL w1 A a n bs) (h1 : A < C) (h2 : C < B) : YL W A a n bs := y.keepC f.ch (fun g hg e => by omega)
theorem num_nat {bs : List Int} (h : Bts bs) (p : Nat) : numAt bs p 2 = ((numAt bs p 2).toNat : Int) ∧ (numAt bs p 2).toNat < 65536 := by
  have := cnt_rng h p
  omega
theorem cnts1 (bs : List Int) (p : Nat) : (cntsAt bs p 1).getD 0 0 = numAt bs p 2 := by
  rw [cntsAt_at bs p (by decide)]; rfl
theorem nk_app {xs ys : List Ste} {a b : Ste} (h : xs.map nk = ys.map nk) (e : nk a = nk b) : (xs ++ [a]).map nk = (ys ++ [b]).map nk := by
  rw [List.map_append, List.map_append, h]
  simp [e]
theorem LS.grow {W W1 w9 w1 : World} {A C B : Nat} {x0 u v : Value} {pk : Int} {ins : List Int} {ss : List Ste} {os : List Spn} (f : LS W w1 A C B x0 u v pk ins ss os) (hA : A < C) (hC : C < B) {row : Option Nat} (hr : ∀ g, row = some g → B ≤ g) (kW : Kept 0 0 W W1) (hg : Chg (fun b => row = some b) W1 w9) : KB w9 A (.slice none 0 0) (.slice none 0 0) (.slice none 0 0) (.int .i64 0) ∧ KB w9 C x0 u v (.int .i64 pk) ∧ Chg (fun b => b = C ∨ B ≤ b) w1 w9 ∧ B ≤ w9.heap.size :=
  ⟨(f.ba.keep kW).keepC hg (fun e => by have := hr _ e; omega), (f.bc.keep kW).keepC hg (fun e => by have := hr _ e; omega), Chg.trans (Chg.trans f.ch kW.chg) (hg.mono fun b _ h => .inr (hr b h)), Nat.le_trans f.bz (Nat.le_trans kW.size hg.size)⟩
theorem LS.addS {W W1 w9 w1 : World} {A C B : Nat} {x0 v : Value} {b : Option Addr} {k dd : Nat} {pk : Int} {ins : List Int} {ss : List Ste} {os : List Spn} {s : Ste} {g cap : Nat} (f : LS W w1 A C B x0 (.slice b k dd) v pk ins ss os) (hA : A < C) (hC : C < B) (hl : ss.length = k) (kW : Kept 0 0 W W1) (ho : w9.ownsRow B 80 8 (.slice (some ⟨g, 0, none⟩) (k + 1) cap) (k + 1) (flatT ss ++ s.cells)) (hg : W1.grownBy w9 (Value.slice b k dd).ownBlock) (ha : (Value.slice b k dd).ownBlock = some g ∨ W.heap.size ≤ g) (hs : s.k < 18446744073709551616) :
    LS (w9.setCell ⟨C, 1, none⟩ (.slice (some ⟨g, 0, none⟩) (k + 1) cap)) w1 A C B x0 (.slice (some ⟨g, 0, none⟩) (k + 1) cap) v pk ins (ss ++ [s]) os := by
  obtain ⟨h1, h2, h3, h4⟩ := f.grow hA hC (fun g hg => (own_blkV f.oc.r2 hg).1) kW (chg_grow hg)
  have o := f.oc.addS kW rfl (by rw [hl]; exact ho) (chg_grow hg) ha hs
  have kk := chg_setCell (S := fun b => b = C) w9 C 1 (.slice (some ⟨g, 0, none⟩) (k + 1) cap) rfl
  exact ⟨h1.keepC kk (by omega), h2.put1 _, o.keepC kk (fun g hg _ e => by omega), Chg.trans h3 (kk.mono fun b _ h => .inl h), Nat.le_trans h4 kk.size⟩
theorem LS.addP {W W1 w9 w1 : World} {A C B : Nat} {x0 v : Value} {b : Option Addr} {k dd : Nat} {pk : Int} {ins : List Int} {ss : List Ste} {os : List Spn} {s : Spn} {g cap : Nat} (f : LS W w1 A C B x0 v (.slice b k dd) pk ins ss os) (hA : A < C) (hC : C < B) (hl : os.length = k) (kW : Kept 0 0 W W1) (ho : w9.ownsRow B 83 2 (.slice (some ⟨g, 0, none⟩) (k + 1) cap) (k + 1) (flatP os ++ s.cells)) (hg : W1.grownBy w9 (Value.slice b k dd).ownBlock) (ha : (Value.slice b k dd).ownBlock = some g ∨ W.heap.size ≤ g) :
    LS (w9.setCell ⟨C, 2, none⟩ (.slice (some ⟨g, 0, none⟩) (k + 1) cap)) w1 A C B x0 v (.slice (some ⟨g, 0, none⟩) (k + 1) cap) pk ins ss (os ++ [s]) := by
  obtain ⟨h1, h2, h3, h4⟩ := f.grow hA hC (fun g hg => (own_blkV f.oc.r3 hg).1) kW (chg_grow hg)
  have o := f.oc.addP kW rfl (by rw [hl]; exact ho) (chg_grow hg) ha
  have kk := chg_setCell (S := fun b => b = C) w9 C 2 (.slice (some ⟨g, 0, none⟩) (k + 1) cap) rfl
  exact ⟨h1.keepC kk (by omega), h2.put2 _, o.keepC kk (fun g hg _ e => by omega), Chg.trans h3 (kk.mono fun b _ h => .inl h), Nat.le_trans h4 kk.size⟩
theorem numAt_head (bs : List Int) (p : Nat) : ∀ j, numAt bs p (j + 1) = bs.getD p 0 + 256 * numAt bs (p + 1) j
  | 0 => by simp [numAt]
  | j + 1 => by
    rw [numAt, numAt_head bs p j, numAt]
    rw [show p + (j + 1) = p + 1 + j by omega]
    rw [Int.pow_succ, Int.mul_add]
    have : ∀ a b c : Int, a * (b * 256) = 256 * (a * b) := fun a b _ => by rw [← Int.mul_assoc, Int.mul_comm]
    rw [this _ _ 0]
    omega
theorem num_le7 {bs : List Int} (h : Bts bs) (p : Nat) {j : Nat} (hj : j ≤ 7) : 0 ≤ numAt bs p j ∧ numAt bs p j < 72057594037927936 := by
  have h1 := numAt_rng h p j
  have h2 : (256 : Int) ^ j ≤ 256 ^ 7 := by
    rcases (by omega : j = 0 ∨ j = 1 ∨ j = 2 ∨ j = 3 ∨ j = 4 ∨ j = 5 ∨ j = 6 ∨ j = 7) with rfl | rfl | rfl | rfl | rfl | rfl | rfl | rfl <;> decide
  have h3 : (256 : Int) ^ 7 = 72057594037927936 := by decide
  omega
theorem LS.setS {W w1 : World} {A C B S : Nat} {x0 u v : Value} {pk : Int} {ins : List Int} {ss : List Ste} {os : List Spn} (f : LS W w1 A C B x0 u v pk ins ss os) (hA : A < C) (hC : C < B) (hS : B ≤ S) (h0 : ∀ g, x0.ownBlock = some g → g ≠ S) (hu : ∀ g, u.ownBlock = some g → g ≠ S) (hv : ∀ g, v.ownBlock = some g → g ≠ S) (o : Nat) (y : Value) : LS (W.setCell ⟨S, o, none⟩ y) w1 A C B x0 u v pk ins ss os := by
  have k := chg_setCell (S := fun b => b = S) W S o y rfl
  exact ⟨f.ba.keepC k (by omega), f.bc.keepC k (by omega), ⟨own_keepC f.oc.r1 k (fun g hg e => h0 g hg e), own_keepC f.oc.r2 k (fun g hg e => hu g hg e), own_keepC f.oc.r3 k (fun g hg e => hv g hg e), f.oc.d12, f.oc.d13, f.oc.d23, f.oc.kl⟩, Chg.trans f.ch (k.mono fun b _ h => .inr (by omega)), Nat.le_trans f.bz k.size⟩
set_option maxRecDepth 100000 in
set_option maxHeartbeats 16000000 in
theorem l6load (w : World) (a : Option Addr) (n c : Nat) (bs : List Int) (f : YS w a n bs) (hn : n ≤ 1048576) :
    Calls Try.prog 67 #[.slice a n c] w fun e w' => LLo w bs e w' := by
  obtain ⟨i0, hii, hz0, hz1, hz2⟩ := info_parts infoSte
  obtain ⟨j0, hjj, hy0, hy1, hy2⟩ := info_parts infoSpn
  have HB : Hid (Bts bs) := f.lt
  have HL : Hid (bs.length = n) := f.len
  have ka := kept_alloc 0 0 w cbox0
  have kb := kept_alloc 0 0 (w.alloc cbox0) cbox0
  have hs1 : (w.alloc cbox0).heap.size = w.heap.size + 1 := by simp
  have hs2 : ((w.alloc cbox0).alloc cbox0).heap.size = w.heap.size + 1 + 1 := by simp
  have hC := kb_start (w.alloc cbox0)
  rw [hs1] at hC
  have H1 : Hid (LS ((w.alloc cbox0).alloc cbox0) ((w.alloc cbox0).alloc cbox0) w.heap.size (w.heap.size + 1) (w.heap.size + 1 + 1) (.slice none 0 0) (.slice none 0 0) (.slice none 0 0) 0 [] [] []) := ⟨(kb_start w).keep kb, hC, OCd.setI (World.ownsRow_nil _ _ _ _), (Kept.refl 0 0 _).chg, by omega⟩
  have HK1 : Hid _ := ka.trans kb
  have HY1 : Hid (YL ((w.alloc cbox0).alloc cbox0) w.heap.size a n bs) := ⟨f.len, by
    have f1 := f.keep (ka.trans kb)
    rcases f.at_ with h | ⟨g, off, e, h1, h2⟩
    · exact .inl h
    · exact .inr ⟨g, off, e, h1, by omega, fun k hk => by rw [(ka.trans kb).cell (p := ⟨g, off + k, none⟩) h1 (by omega)]; exact h2 k hk⟩⟩
  clear f ka kb hs1 hs2 hC
  go_enter Try.func67, Try.ntmps67
  go_upto_region 2 with fail
  generalize (w.alloc cbox0).alloc cbox0 = w1 at H1 HK1 HY1 ⊢
  generalize hA : w.heap.size = A at H1 HY1 ⊢
  have HWA : Hid (w.heap.size = A) := hA
  clear hA
  by_cases hb1 : 2 + 2 * 1 ≤ n
  · have HC : Hid _ := l6counts_ok w1 a n c 2 1 bs (HY1.out.ys HB.out) hb1 hn
    go_wp2_with fail
    refine Calls.mono HC.out ?_
    rintro e w2 ⟨b2, d2, rfl, o2, k2⟩
    obtain ⟨g2, rfl, l2, l2', cc2⟩ := row_cell o2 (by decide)
    have c2 := cc2 0 (by decide)
    rw [cnts1] at c2
    obtain ⟨hN1, hN1l⟩ := num_nat HB.out 2
    obtain ⟨N1, hN1e⟩ : ∃ N1, N1 = (numAt bs 2 2).toNat := ⟨_, rfl⟩
    rw [← hN1e] at hN1 hN1l
    rw [hN1] at c2
    have HN1 : Hid (N1 = n1L bs) := hN1e
    have H2 : Hid _ := H1.out.keep k2
    have hG2 : w1.heap.size ≤ g2 := l2
    have HG2 : Hid (A + 1 + 1 ≤ g2 ∧ g2 < w2.heap.size) := ⟨by have := H1.out.bz; omega, l2'⟩
    clear o2 k2 l2 l2' cc2 HC hN1 hN1e H1 hG2
    have HY2 : Hid _ := (H2.out.yl HY1.out (by omega) (by omega)).ys HB.out
    by_cases hb2 : 4 + 2 * N1 ≤ n
    · have HC : Hid _ := l6counts_ok w2 a n c 4 N1 bs HY2.out hb2 hn
      go_wp2_with fail
      refine Calls.mono HC.out ?_
      rintro e w3 ⟨b3, d3, rfl, o3, k3⟩
      have H3 : Hid _ := H2.out.keep k3
      have c3 : w3.cell? ⟨g2, 0, none⟩ = some (.int .i64 (N1 : Int)) := by rw [k3.cell (p := ⟨g2, 0, none⟩) HG2.out.2 (by omega)]; exact c2
      have HG3 : Hid (A + 1 + 1 ≤ g2 ∧ g2 < w3.heap.size ∧ A + 1 + 1 ≤ w2.heap.size) := ⟨HG2.out.1, by have := k3.size; have := HG2.out; omega, H2.out.bz⟩
      have HO3 : Hid _ := o3
      clear o3 k3 HC c2 HG2 HY2 H2
      obtain ⟨_, q0, q1, q2, q3, f0, f1, f2, f3⟩ := H3.out.bc
      have c4 : (w3.setCell ⟨A + 1, 0, none⟩ (.slice b3 N1 d3)).cell? ⟨g2, 0, none⟩ = some (.int .i64 (N1 : Int)) := by rw [cell_ne _ _ _ _ _ _ (.inl (by have := HG3.out; omega))]; exact c3
      have H4 : Hid (LS (w3.setCell ⟨A + 1, 0, none⟩ (.slice b3 N1 d3)) w1 A (A + 1) (A + 1 + 1) (.slice b3 N1 d3) (.slice none 0 0) (.slice none 0 0) 0 (insL bs) [] []) := by
        refine H3.out.put (by omega) (by omega) (H3.out.bc.put0 _) (OCd.setI ?_)
        have h := own_mono HO3.out HG3.out.2.2
        have e : insL bs = cntsAt bs 4 N1 := by rw [HN1.out]; rfl
        rw [e, cntsAt_len]
        exact h
      clear HO3 H3
      go_upto_region 9 with fail
      clear q0 q1 q2 q3 f0 f1 f2 f3 c3
      generalize w3.setCell ⟨A + 1, 0, none⟩ (.slice b3 N1 d3) = w4 at c4 H4 ⊢
      obtain ⟨P1, hP1⟩ : ∃ P1, P1 = 4 + 2 * N1 := ⟨_, rfl⟩
      have HP1 : Hid (P1 = p1L bs) := by show _ = _; rw [hP1, HN1.out]; rfl
      have hpi : (4 : Int) + 2 * (N1 : Int) = (P1 : Int) := by omega
      have hP1n : P1 ≤ n := by omega
      have HP1a : Hid (P1 = 4 + 2 * N1) := hP1
      clear hP1 hb2
      have HY4 : Hid _ := (H4.out.yl HY1.out (by omega) (by omega)).ys HB.out
      by_cases hb3 : P1 + 2 * 1 ≤ n
      · have HC : Hid _ := l6counts_ok w4 a n c P1 1 bs HY4.out hb3 hn
        go_wp2_with fail
        refine Calls.mono HC.out ?_
        rintro e w5 ⟨b5, d5, rfl, o5, k5⟩
        obtain ⟨g5, rfl, l5, l5', cc5⟩ := row_cell o5 (by decide)
        have c5 := cc5 0 (by decide)
        rw [cnts1] at c5
        obtain ⟨hN2, hN2l⟩ := num_nat HB.out P1
        obtain ⟨N2, hN2e⟩ : ∃ N2, N2 = (numAt bs P1 2).toNat := ⟨_, rfl⟩
        rw [← hN2e] at hN2 hN2l
        rw [hN2] at c5
        have HN2 : Hid (N2 = n2L bs) := by show _ = _; rw [hN2e, HP1.out]; rfl
        have H5 : Hid _ := H4.out.keep k5
        have HG5 : Hid (A + 1 + 1 ≤ g5 ∧ g5 < w5.heap.size) := ⟨by have := H4.out.bz; omega, l5'⟩
        have HC5 : Hid _ := c5
        clear o5 k5 l5 l5' cc5 HC hN2 hN2e H4 c4 c5 HY4 hpi
        obtain ⟨P2, hP2⟩ : ∃ P2, P2 = P1 + 2 := ⟨_, rfl⟩
        have hpi : (P1 : Int) + 2 = (P2 : Int) := by omega
        have hP2n : P2 ≤ n := by omega
        have HP2 : Hid (P2 = p1L bs + 2) := by show _ = _; rw [hP2, HP1.out]
        clear hP2 hb3 hP1n
        go_wp2_with fail
        clear hpi
        go_loopw [7, 10] (fun x i W => ∃ k : Nat, k ≤ N2 ∧ i = .int .i64 k ∧ x = .int .i64 ((posTo bs P2 k : Nat) : Int) ∧ Hid (posTo bs P2 k ≤ n) ∧ Hid (∃ b dd ss, LS W w1 A (A + 1) (A + 1 + 1) (.slice b3 N1 d3) (.slice b k dd) (.slice none 0 0) 0 (insL bs) ss [] ∧ ss.length = k ∧ ss.map nk = (stesAt bs P2 k).map nk ∧ W.cell? ⟨g5, 0, none⟩ = some (.int .i64 (N2 : Int)) ∧ g5 < W.heap.size ∧ ∀ g, (Value.slice b k dd).ownBlock = some g → g ≠ g5)) (fun _ i _ => N2 - (intOf i).toNat)
        case atStart => exact ⟨0, Nat.zero_le _, rfl, rfl, hP2n, none, 0, [], H5.out, rfl, rfl, HC5.out, HG5.out.2, fun g hg => by simp [Value.ownBlock] at hg⟩
        case round =>
          obtain ⟨k, hk, rfl, rfl, hPn, hI⟩ := hrel
          clear H5 HC5
          obtain ⟨b8, d8, ss, hLS, hsl, hsn, c5, hg5, hap⟩ := hI.out
          have HLS : Hid _ := hLS
          have HSL : Hid (ss.length = k ∧ ss.map nk = (stesAt bs P2 k).map nk) := ⟨hsl, hsn⟩
          have HAP : Hid _ := hap
          have HG : Hid (A + 1 + 1 ≤ g5 ∧ g5 < wr.heap.size) := ⟨HG5.out.1, hg5⟩
          have HC5 : Hid _ := c5
          clear hLS hsl hsn hap hI hg5
          by_cases hlt : k < N2
          · obtain ⟨q, hq⟩ : ∃ q, q = posTo bs P2 k := ⟨_, rfl⟩
            rw [← hq] at hPn ⊢
            have HQ : Hid _ := hq
            obtain ⟨q1, hq1⟩ : ∃ q1, q1 = q + 1 := ⟨_, rfl⟩
            have hqi : (q : Int) + 1 = (q1 : Int) := by omega
            have HQ1 : Hid _ := hq1
            have hqn := hPn.out
            have HY8 : Hid _ := (HLS.out.yl HY1.out (by omega) (by omega)).ys HB.out
            clear hq hq1
            by_cases hb6 : q1 + 2 * 6 ≤ n
            · have HC : Hid _ := l6counts_ok wr a n c q1 6 bs HY8.out hb6 hn
              have hb6' : q + 13 ≤ n := by have := HQ1.out; omega
              go_wp2_with fail
              refine Calls.mono HC.out ?_
              rintro e w6 ⟨b6, d6, rfl, o6, k6⟩
              obtain ⟨g6, rfl, l6, l6', cc6⟩ := row_cell o6 (by decide)
              have HCC : Hid (∀ j, j < 6 → w6.cell? ⟨g6, j, none⟩ = some (.int .i64 (fldAt bs q j))) := fun j hj => by
                rw [cc6 j hj, cntsAt_at bs q1 hj]
                unfold fldAt
                rw [HQ1.out]
              have H6 : Hid _ := HLS.out.keep k6
              have HC6 : Hid (w6.cell? ⟨g5, 0, none⟩ = some (.int .i64 (N2 : Int))) := by show _ = _; rw [k6.cell (p := ⟨g5, 0, none⟩) HG.out.2 (by omega)]; exact HC5.out
              have HG6 : Hid (A + 1 + 1 ≤ g5 ∧ g5 < w6.heap.size) := ⟨HG.out.1, Nat.lt_of_lt_of_le HG.out.2 k6.size⟩
              clear o6 k6 l6 cc6 HC HLS HC5 c5 HG HY8
              have hY := H6.out.yl HY1.out (by omega) (by omega)
              rcases hY.at_ with z | ⟨ga, off, rfl, _, z2, z3⟩
              · omega
              have z0 := z3 q (by omega)
              have bx := byte_lt HB.out q
              have e0 := HCC.out 0 (by decide)
              have e1 := HCC.out 1 (by decide)
              have e2 := HCC.out 2 (by decide)
              have e3 := HCC.out 3 (by decide)
              have e4 := HCC.out 4 (by decide)
              have e5 := HCC.out 5 (by decide)
              have HSA : Hid (∀ z : Nat, (numAt bs q 1 = 1 → fb z = fb (numAt bs (q + 13) 8).toNat) → (¬ numAt bs q 1 = 1 → z = 0) → nk ⟨bs.getD q 0, fldAt bs q 0, fldAt bs q 1, fldAt bs q 2, fldAt bs q 3, fldAt bs q 4, fldAt bs q 5, z⟩ = nk (steAt bs q)) := fun z h1 h2 => by
                unfold nk steAt
                simp only
                rw [numAt_1]
                rw [numAt_1] at h1 h2
                by_cases hx : bs.getD q 0 = 1
                · rw [if_pos hx, h1 hx]
                · rw [if_neg hx, h2 hx]
              have HX1 : Hid (numAt bs q 1 = bs.getD q 0) := numAt_1 bs q
              have HSN : Hid (posTo bs P2 (k + 1) = q + (if numAt bs q 1 = 1 then 21 else 13)) := by
                show _ = _
                rw [posTo, ← HQ.out]; rfl
              rw [HX1.out] at HSA HSN
              generalize bs.getD q 0 = x at z0 bx HSA HSN
              generalize fldAt bs q 0 = t0 at e0 HSA
              generalize fldAt bs q 1 = t1 at e1 HSA
              generalize fldAt bs q 2 = t2 at e2 HSA
              generalize fldAt bs q 3 = t3 at e3 HSA
              generalize fldAt bs q 4 = t4 at e4 HSA
              generalize fldAt bs q 5 = t5 at e5 HSA
              have hwx : IntKind.i64.wrap x = x := by rw [IntKind.wrap_i64]; omega
              have hi1 : (0 : Int) ≤ (q : Int) := by omega
              have hi2 : (q : Int) < (n : Int) := by omega
              have HZ3 : Hid (ga < w6.heap.size ∧ ∀ k, k < n → w6.cell? ⟨ga, off + k, none⟩ = some (.int .u8 (bs.getD k 0))) := ⟨z2, z3⟩
              clear z2 z3 hY HCC HX1
              go_wp2_with fail
              go_region_held3 (fun w' => w'.cell? ⟨ga, off + q, none⟩ = some (.int .u8 x) ∧ w'.cell? ⟨g6, 0, none⟩ = some (.int .i64 t0) ∧ w'.cell? ⟨g6, 1, none⟩ = some (.int .i64 t1) ∧ w'.cell? ⟨g6, 2, none⟩ = some (.int .i64 t2) ∧ w'.cell? ⟨g6, 3, none⟩ = some (.int .i64 t3) ∧ w'.cell? ⟨g6, 4, none⟩ = some (.int .i64 t4) ∧ w'.cell? ⟨g6, 5, none⟩ = some (.int .i64 t5)) (go_keep) (fail)
              clear z0 e0 e1 e2 e3 e4 e5 hwx hi1 hi2 hqi
              have k7 := (kept_alloc 0 0 w6 (Ste.box ⟨x, t0, t1, t2, t3, t4, t5, 0⟩)).trans (kept_drew _)
              have HT7 : Hid (AtT ((w6.alloc (Ste.box ⟨x, t0, t1, t2, t3, t4, t5, 0⟩)).drew) w6.heap.size 0 ⟨x, t0, t1, t2, t3, t4, t5, 0⟩) := AtT.keep (atT_newS w6 ⟨x, t0, t1, t2, t3, t4, t5, 0⟩) (by simp) (kept_drew _) (.inr (.inr (Nat.le_refl _)))
              have HF7 : Hid (∀ o, ((w6.alloc (Ste.box ⟨x, t0, t1, t2, t3, t4, t5, 0⟩)).drew).frozen? ⟨w6.heap.size, o, none⟩ = false) := fun o => by simp
              have H7 : Hid _ := H6.out.keep k7
              have HC7 : Hid (((w6.alloc (Ste.box ⟨x, t0, t1, t2, t3, t4, t5, 0⟩)).drew).cell? ⟨g5, 0, none⟩ = some (.int .i64 (N2 : Int))) := by show _ = _; rw [k7.cell (p := ⟨g5, 0, none⟩) HG6.out.2 (by omega)]; exact HC6.out
              have HG7 : Hid (A + 1 + 1 ≤ g5 ∧ g5 < w6.heap.size ∧ w6.heap.size < ((w6.alloc (Ste.box ⟨x, t0, t1, t2, t3, t4, t5, 0⟩)).drew).heap.size) := ⟨HG6.out.1, HG6.out.2, by show _ < (w6.alloc _).heap.size; simp⟩
              have HUS : Hid (∀ g, (Value.slice b8 k d8).ownBlock = some g → g < w6.heap.size) := fun g hg => (own_blkV H6.out.oc.r2 hg).2
              have HU1 : Hid (∀ g, (Value.slice b3 N1 d3).ownBlock = some g → g < w6.heap.size) := fun g hg => (own_blkV H6.out.oc.r1 hg).2
              have HZ7 : Hid (∀ k, k < n → ((w6.alloc (Ste.box ⟨x, t0, t1, t2, t3, t4, t5, 0⟩)).drew).cell? ⟨ga, off + k, none⟩ = some (.int .u8 (bs.getD k 0))) := fun k hk => by rw [k7.cell (p := ⟨ga, off + k, none⟩) HZ3.out.1 (by omega)]; exact HZ3.out.2 k hk
              clear k7 H6 HC6 HG6 l6' HZ3
              generalize (w6.alloc (Ste.box ⟨x, t0, t1, t2, t3, t4, t5, 0⟩)).drew = w7 at HT7 HF7 H7 HC7 HG7 HZ7 ⊢
              generalize w6.heap.size = S at HT7 HF7 HG7 HUS HU1 ⊢
              obtain ⟨q13, hq13⟩ : ∃ q13, q13 = q + 13 := ⟨_, rfl⟩
              have hqi : (q : Int) + 13 = (q13 : Int) := by omega
              have HQ13 : Hid _ := hq13
              have hq13n : q13 ≤ n := by omega
              clear hq13
              cases t : (x == 1)
              · have t' : ¬ x = 1 := by simpa using t
                have HSZ : Hid _ := HSA.out 0 (fun h => absurd h t') (fun _ => rfl)
                have HZL : Hid ((0 : Nat) < 18446744073709551616) := by show (0 : Nat) < _; decide
                have HT8 := HT7
                have HC8 := HC7
                have HG8 : Hid (A + 1 + 1 ≤ g5 ∧ g5 < w7.heap.size) := ⟨HG7.out.1, by have := HG7.out; omega⟩
                have ht0 : (if x = 1 then 21 else 13) = 13 := if_neg t'
                have HT0 : Hid _ := ht0
                have yy0 := HT7.out.c0
                clear t' HSA ht0
                go_upto_region 34 with fail
                clear yy0 hqi
                obtain ⟨st, hst⟩ : ∃ st : Ste, st = ⟨x, t0, t1, t2, t3, t4, t5, 0⟩ := ⟨_, rfl⟩
                have HST : Hid _ := hst
                have ha8 := HT8.out
                rw [← hst] at ha8
                obtain ⟨y0, y1, y2, y3, y4, y5, y6, y7⟩ := ha8
                obtain ⟨_, q0, q1', q2, q3, f0, f1, f2, f3⟩ := H7.out.bc
                have hr2 := H7.out.oc.r2
                rw [HSL.out.1] at hr2
                have HR2 : Hid _ := hr2
                have HBZ : Hid (A + 1 + 1 ≤ w7.heap.size) := H7.out.bz
                clear hst hr2
                go_wp2_with (first | (at_builtin; refine wpList_append_lies _ rfl _ _ 36 rfl (A + 1 + 1) 80 i0 Ste.zero.agg 8 64 Try.underlying36 hii hz0 hz1 hz2 rfl (by decide) _ _ (flatT ss) rfl (own_keepJ HR2.out (kept_alloc 0 0 w7 _)) ⟨w7.heap.size, 0, none⟩ 1 1 st.cells rfl rfl (news8 w7 st 0) (one8 st) (by decide) (by unfold maxLen; omega) (by omega) (by have := HBZ.out; simp; omega) _ rfl ?_) | fail)
                intro g9 cap9 w9 o9 gr9 at9 _
                have ka := kept_alloc 0 0 w7 st.box
                have c9 := chg_grow gr9
                obtain ⟨h1, h2, h3, h4⟩ := H7.out.grow (by omega) (by omega) (fun g hg => (own_blkV HR2.out hg).1) ka c9
                obtain ⟨_, r0', r1', r2', r3', s0, s1, s2, s3⟩ := h2
                have ha9 : (Value.slice b8 k d8).ownBlock = some g9 ∨ w7.heap.size ≤ g9 := by
                  rcases at9 with h | h
                  · exact .inl h
                  · right; omega
                have hst1 : st.k < 18446744073709551616 := by rw [HST.out]; exact HZL.out
                have R1 : Hid (LS (w9.setCell ⟨A + 1, 1, none⟩ (.slice (some ⟨g9, 0, none⟩) (k + 1) cap9)) w1 A (A + 1) (A + 1 + 1) (.slice b3 N1 d3) (.slice (some ⟨g9, 0, none⟩) (k + 1) cap9) (.slice none 0 0) 0 (insL bs) (ss ++ [st]) []) := H7.out.addS (by omega) (by omega) HSL.out.1 ka o9 gr9 ha9 hst1
                have R2 : Hid ((ss ++ [st]).length = k + 1 ∧ (ss ++ [st]).map nk = (stesAt bs P2 (k + 1)).map nk) := by
                  refine ⟨by rw [List.length_append, HSL.out.1]; rfl, ?_⟩
                  rw [stesAt_succ, ← HQ.out]
                  refine nk_app HSL.out.2 ?_
                  rw [HST.out]
                  exact HSZ.out
                have R3 : Hid ((w9.setCell ⟨A + 1, 1, none⟩ (.slice (some ⟨g9, 0, none⟩) (k + 1) cap9)).cell? ⟨g5, 0, none⟩ = some (.int .i64 (N2 : Int))) := by
                  show _ = _
                  rw [cell_ne _ _ _ _ _ _ (.inl (by have := HG8.out; omega)), c9.cell (p := ⟨g5, 0, none⟩) (Nat.lt_of_lt_of_le HG8.out.2 ka.size) (fun e => HAP.out g5 e rfl), ka.cell (p := ⟨g5, 0, none⟩) HG8.out.2 (by omega)]
                  exact HC8.out
                have R4 : Hid (g5 < (w9.setCell ⟨A + 1, 1, none⟩ (.slice (some ⟨g9, 0, none⟩) (k + 1) cap9)).heap.size) := by
                  exact Nat.lt_of_lt_of_le HG8.out.2 (Nat.le_trans ka.size (Nat.le_trans c9.size (by simp)))
                have R5 : Hid (∀ g, (Value.slice (some ⟨g9, 0, none⟩) (k + 1) cap9).ownBlock = some g → g ≠ g5) := fun g hg => by
                  simp [Value.ownBlock] at hg
                  subst hg
                  rcases ha9 with h | h
                  · exact HAP.out _ h
                  · have := HG8.out; omega
                have R6 : Hid (posTo bs P2 (k + 1) ≤ n ∧ posTo bs P2 (k + 1) = q13) := by
                  rw [HSN.out, HT0.out]
                  have := HQ13.out; constructor <;> omega
                clear y0 y1 y2 y3 y4 y5 y6 y7 q0 q1' q2 q3 f0 f1 f2 f3 o9 gr9 at9 ka c9 h1 h3 h4 ha9 hst1 HR2
                go_wp2_with fail
                go_roundw
                case rel => exact ⟨k + 1, by omega, by go_num, by rw [R6.out.2], R6.out.1, some ⟨g9, 0, none⟩, cap9, ss ++ [st], R1.out, R2.out.1, R2.out.2, R3.out, R4.out, R5.out⟩
                case measure => simp [intOf]; omega
              · have t' : x = 1 := by simpa using t
                have yy0 := HT7.out.c0
                by_cases hb8 : q13 + 8 ≤ n
                · have hg8 : ¬ ((n : Int) < (q13 : Int) + 8) := by omega
                  go_wp2_with fail
                  clear hg8
                  go_loopw [14, 15] (fun vv kk W => ∃ j : Nat, j ≤ 8 ∧ kk = .int .i64 (7 - (j : Int)) ∧ vv = .int .u64 (numAt bs (q13 + (8 - j)) j) ∧ W = w7) (fun _ kk _ => (intOf kk + 1).toNat)
                  case atStart => exact ⟨0, Nat.zero_le _, by simp, rfl, rfl⟩
                  case round =>
                    obtain ⟨j, hj, rfl, rfl, rfl⟩ := hrel
                    by_cases hj8 : j < 8
                    · obtain ⟨r, hr⟩ : ∃ r, r = q13 + (7 - j) := ⟨_, rfl⟩
                      have z0 := HZ7.out r (by omega)
                      have by0 := byte_lt HB.out r
                      have hv := num_le7 HB.out (q13 + (8 - j)) (show j ≤ 7 by omega)
                      have HNX : Hid (numAt bs (q13 + (8 - (j + 1))) (j + 1) = bs.getD r 0 + 256 * numAt bs (q13 + (8 - j)) j) := by
                        show _ = _
                        rw [numAt_head, show q13 + (8 - (j + 1)) = r by omega, show r + 1 = q13 + (8 - j) by omega]
                      generalize bs.getD r 0 = y at z0 by0 HNX
                      generalize numAt bs (q13 + (8 - j)) j = v at hv HNX ⊢
                      have hri : (q13 : Int) + (7 - (j : Int)) = (r : Int) := by omega
                      have hrn : r < n := by omega
                      have hk0 : (0 : Int) ≤ 7 - (j : Int) := by omega
                      have HR : Hid _ := hr
                      clear hr
                      obtain ⟨kj, hkj⟩ : ∃ kj : Int, kj = 7 - (j : Int) := ⟨_, rfl⟩
                      rw [← hkj] at hri hk0 ⊢
                      have hkl : kj ≤ 7 := by omega
                      have HKJ : Hid _ := hkj
                      clear hkj
                      go_wp2_with fail
                      go_roundw
                      case rel => exact ⟨j + 1, by omega, by have := HKJ.out; congr 1; omega, by rw [HNX.out]; congr 1; omega, trivial⟩
                      case measure => simp [intOf]; omega
                    · obtain rfl : j = 8 := by omega
                      have hvr := numAt_rng HB.out q13 8
                      obtain ⟨vn, hvn⟩ : ∃ vn : Nat, numAt bs q13 8 = (vn : Int) := ⟨(numAt bs q13 8).toNat, by omega⟩
                      have hvl : vn < 18446744073709551616 := by
                        have : (256 : Int) ^ 8 = 18446744073709551616 := by decide
                        omega
                      have HVN : Hid (vn = (numAt bs (q + 13) 8).toNat) := by show _ = _; rw [← HQ13.out, hvn]; rfl
                      rw [show q13 + (8 - 8) = q13 from rfl, hvn]
                      have hm1 : (7 : Int) - ((8 : Nat) : Int) = -1 := by decide
                      rw [hm1]
                      clear hvr hvn hm1 HZ7
                      go_wp2_with fail
                      refine Calls.mono (specFrom vn _ hvl) ?_
                      rintro e w10 ⟨z, rfl, hz1', hz2', m10, rfl⟩
                      have k10 := kept_drewN 0 0 wr m10
                      have hT := AtT.keep HT7.out HG7.out.2.2 k10 (.inr (.inr (Nat.le_refl _)))
                      have hF : ∀ o, (wr.drewN m10).frozen? ⟨S, o, none⟩ = false := fun o => by rw [k10.frozen (p := ⟨S, o, none⟩) HG7.out.2.2 (by omega)]; exact HF7.out o
                      have hL := H7.out.keep k10
                      have hCC : (wr.drewN m10).cell? ⟨g5, 0, none⟩ = some (.int .i64 (N2 : Int)) := by rw [k10.cell (p := ⟨g5, 0, none⟩) (by have := HG7.out; show g5 < _; omega) (by omega)]; exact HC7.out
                      have hsz : wr.heap.size ≤ (wr.drewN m10).heap.size := k10.size
                      generalize wr.drewN m10 = w10 at hT hF hL hCC hsz ⊢
                      have c7 := hT.c7
                      have f7 := hF 7
                      have HT8 : Hid (AtT (w10.setCell ⟨S, 7, none⟩ (.float .f64 z)) S 0 ⟨x, t0, t1, t2, t3, t4, t5, z⟩) := AtT.put7 hT z
                      have H8 : Hid _ := hL.setS (S := S) (by omega) (by omega) (by have := HG7.out; omega) (fun g hg => by have := HU1.out g hg; omega) (fun g hg => by have := HUS.out g hg; omega) (fun g hg => by simp [Value.ownBlock] at hg) 7 (.float .f64 z)
                      have HC8 : Hid ((w10.setCell ⟨S, 7, none⟩ (.float .f64 z)).cell? ⟨g5, 0, none⟩ = some (.int .i64 (N2 : Int))) := by show _ = _; rw [cell_ne _ _ _ _ _ _ (.inl (by have := HG7.out; omega))]; exact hCC
                      have HG8 : Hid (A + 1 + 1 ≤ g5 ∧ g5 < (w10.setCell ⟨S, 7, none⟩ (.float .f64 z)).heap.size) := ⟨HG7.out.1, by have := HG7.out; simp; omega⟩
                      have HZL : Hid (z < 18446744073709551616) := hz2'
                      have HSZ : Hid _ := HSA.out z (fun _ => by rw [hz1', HVN.out]) (fun h => absurd t' h)
                      have ht0 : (if x = 1 then 21 else 13) = 21 := if_pos t'
                      have HT0 : Hid _ := ht0
                      obtain ⟨q21, hq21⟩ : ∃ q21, q21 = q13 + 8 := ⟨_, rfl⟩
                      have hqi2 : (q13 : Int) + 8 = (q21 : Int) := by omega
                      have HQ21 : Hid _ := hq21
                      have hq21n : q21 ≤ n := by omega
                      clear hT hF hL hCC hsz HT7 HF7 H7 HC7 HSA hz1' hz2' t' ht0 hq21 HVN k10 yy0 hqi
                      go_upto_region 34 with fail
                      clear c7 f7 hqi2
                      generalize w10.setCell ⟨S, 7, none⟩ (.float .f64 z) = w8 at HT8 H8 HC8 HG8 ⊢
                      obtain ⟨st, hst⟩ : ∃ st : Ste, st = ⟨x, t0, t1, t2, t3, t4, t5, z⟩ := ⟨_, rfl⟩
                      have HST : Hid _ := hst
                      have ha8 := HT8.out
                      rw [← hst] at ha8
                      obtain ⟨y0, y1, y2, y3, y4, y5, y6, y7⟩ := ha8
                      obtain ⟨_, q0, q1', q2, q3, f0, f1, f2, f3⟩ := H8.out.bc
                      have hr2 := H8.out.oc.r2
                      rw [HSL.out.1] at hr2
                      have HR2 : Hid _ := hr2
                      have HBZ : Hid (A + 1 + 1 ≤ w8.heap.size) := H8.out.bz
                      clear hst hr2
                      go_wp2_with (first | (at_builtin; refine wpList_append_lies _ rfl _ _ 36 rfl (A + 1 + 1) 80 i0 Ste.zero.agg 8 64 Try.underlying36 hii hz0 hz1 hz2 rfl (by decide) _ _ (flatT ss) rfl (own_keepJ HR2.out (kept_alloc 0 0 w8 _)) ⟨w8.heap.size, 0, none⟩ 1 1 st.cells rfl rfl (news8 w8 st 0) (one8 st) (by decide) (by unfold maxLen; omega) (by omega) (by have := HBZ.out; simp; omega) _ rfl ?_) | fail)
                      intro g9 cap9 w9 o9 gr9 at9 _
                      have ka := kept_alloc 0 0 w8 st.box
                      have c9 := chg_grow gr9
                      obtain ⟨h1, h2, h3, h4⟩ := H8.out.grow (by omega) (by omega) (fun g hg => (own_blkV HR2.out hg).1) ka c9
                      obtain ⟨_, r0', r1', r2', r3', s0, s1, s2, s3⟩ := h2
                      have ha9 : (Value.slice b8 k d8).ownBlock = some g9 ∨ w8.heap.size ≤ g9 := by
                        rcases at9 with h | h
                        · exact .inl h
                        · right; omega
                      have hst1 : st.k < 18446744073709551616 := by rw [HST.out]; exact HZL.out
                      have R1 : Hid (LS (w9.setCell ⟨A + 1, 1, none⟩ (.slice (some ⟨g9, 0, none⟩) (k + 1) cap9)) w1 A (A + 1) (A + 1 + 1) (.slice b3 N1 d3) (.slice (some ⟨g9, 0, none⟩) (k + 1) cap9) (.slice none 0 0) 0 (insL bs) (ss ++ [st]) []) := H8.out.addS (by omega) (by omega) HSL.out.1 ka o9 gr9 ha9 hst1
                      have R2 : Hid ((ss ++ [st]).length = k + 1 ∧ (ss ++ [st]).map nk = (stesAt bs P2 (k + 1)).map nk) := by
                        refine ⟨by rw [List.length_append, HSL.out.1]; rfl, ?_⟩
                        rw [stesAt_succ, ← HQ.out]
                        refine nk_app HSL.out.2 ?_
                        rw [HST.out]
                        exact HSZ.out
                      have R3 : Hid ((w9.setCell ⟨A + 1, 1, none⟩ (.slice (some ⟨g9, 0, none⟩) (k + 1) cap9)).cell? ⟨g5, 0, none⟩ = some (.int .i64 (N2 : Int))) := by
                        show _ = _
                        rw [cell_ne _ _ _ _ _ _ (.inl (by have := HG8.out; omega)), c9.cell (p := ⟨g5, 0, none⟩) (Nat.lt_of_lt_of_le HG8.out.2 ka.size) (fun e => HAP.out g5 e rfl), ka.cell (p := ⟨g5, 0, none⟩) HG8.out.2 (by omega)]
                        exact HC8.out
                      have R4 : Hid (g5 < (w9.setCell ⟨A + 1, 1, none⟩ (.slice (some ⟨g9, 0, none⟩) (k + 1) cap9)).heap.size) := by
                        exact Nat.lt_of_lt_of_le HG8.out.2 (Nat.le_trans ka.size (Nat.le_trans c9.size (by simp)))
                      have R5 : Hid (∀ g, (Value.slice (some ⟨g9, 0, none⟩) (k + 1) cap9).ownBlock = some g → g ≠ g5) := fun g hg => by
                        simp [Value.ownBlock] at hg
                        subst hg
                        rcases ha9 with h | h
                        · exact HAP.out _ h
                        · have := HG8.out; omega
                      have R6 : Hid (posTo bs P2 (k + 1) ≤ n ∧ posTo bs P2 (k + 1) = q21) := by
                        rw [HSN.out, HT0.out]
                        have := HQ13.out; have := HQ21.out; constructor <;> omega
                      clear y0 y1 y2 y3 y4 y5 y6 y7 q0 q1' q2 q3 f0 f1 f2 f3 o9 gr9 at9 ka c9 h1 h3 h4 ha9 hst1 HR2
                      go_wp2_with fail
                      go_roundw
                      case rel => exact ⟨k + 1, by omega, by go_num, by rw [R6.out.2], R6.out.1, some ⟨g9, 0, none⟩, cap9, ss ++ [st], R1.out, R2.out.1, R2.out.2, R3.out, R4.out, R5.out⟩
                      case measure => simp [intOf]; omega
                · have hg8 : (n : Int) < (q13 : Int) + 8 := by omega
                  obtain ⟨_, r0, r1, r2, r3, g0, g1, g2, g3⟩ := H7.out.ba
                  obtain ⟨_, q0, q1, q2, q3, _⟩ := H7.out.bc
                  have HKF : Hid (Kept 0 0 w w7) := H7.out.kept HK1.out (by have := HWA.out; omega) (by have := HWA.out; omega)
                  have HFT : Hid (fitL bs = false) := fit4 (k := k + 1) (by have := HN2.out; omega) (by rw [← HP2.out, HSN.out, if_pos t', HL.out]; have := HQ13.out; omega)
                  go_wp2_with fail
                  obtain ⟨y0, y1, y2, y3⟩ := put4_0 w7 A _ _ _ _ r0 r1 r2 r3 (.slice b3 N1 d3) (.slice b8 k d8) (.slice none 0 0) (.int .i64 0)
                  have kp := put4_kept w7 A (.slice b3 N1 d3) (.slice b8 k d8) (.slice none 0 0) (.int .i64 0)
                  refine bodyPost_ret (v := .tuple #[.agg #[(.slice b3 N1 d3), (.slice b8 k d8), (.slice none 0 0), .int .i64 0], .bool false]) (by simp [results, Try.results67, go_sem, y0, y1, y2, y3]) rfl ⟨fun _ => ⟨_, _, _, _, _, _, _, _, _, _, rfl⟩, fun h => ?_, HKF.out.new kp (by have := HWA.out; omega)⟩
                  rw [HFT.out] at h; cases h
            · have HC : Hid _ := l6counts_no wr a n c q1 6 hb6 (by have := HQ1.out; omega) (by omega)
              go_wp2_with fail
              refine Calls.mono HC.out ?_
              rintro e w6 ⟨rfl, rfl⟩
              obtain ⟨_, r0, r1, r2, r3, g0, g1, g2, g3⟩ := HLS.out.ba
              obtain ⟨_, q0, q1, q2, q3, _⟩ := HLS.out.bc
              have HKF : Hid (Kept 0 0 w w6) := HLS.out.kept HK1.out (by have := HWA.out; omega) (by have := HWA.out; omega)
              have HFT : Hid (fitL bs = false) := fit4 (k := k + 1) (by have := HN2.out; omega) (by rw [← HP2.out, HL.out, posTo, ← HQ.out]; have := HQ1.out; unfold steLn; split <;> omega)
              go_wp2_with fail
              obtain ⟨y0, y1, y2, y3⟩ := put4_0 w6 A _ _ _ _ r0 r1 r2 r3 (.slice b3 N1 d3) (.slice b8 k d8) (.slice none 0 0) (.int .i64 0)
              have kp := put4_kept w6 A (.slice b3 N1 d3) (.slice b8 k d8) (.slice none 0 0) (.int .i64 0)
              refine bodyPost_ret (v := .tuple #[.agg #[(.slice b3 N1 d3), (.slice b8 k d8), (.slice none 0 0), .int .i64 0], .bool false]) (by simp [results, Try.results67, go_sem, y0, y1, y2, y3]) rfl ⟨fun _ => ⟨_, _, _, _, _, _, _, _, _, _, rfl⟩, fun h => ?_, HKF.out.new kp (by have := HWA.out; omega)⟩
              rw [HFT.out] at h; cases h
          · obtain rfl : k = N2 := by omega
            have HP3 : Hid (posTo bs P2 k = p3L bs) := by show _ = _; rw [HP2.out, HN2.out]; rfl
            obtain ⟨P3, hP3⟩ : ∃ P3, P3 = posTo bs P2 k := ⟨_, rfl⟩
            rw [← hP3] at HP3 hPn ⊢
            have hP3n := hPn.out
            clear hP3
            have HY8 : Hid _ := (HLS.out.yl HY1.out (by omega) (by omega)).ys HB.out
            by_cases hbA : P3 + 2 * 1 ≤ n
            · have HC : Hid _ := l6counts_ok wr a n c P3 1 bs HY8.out hbA hn
              go_wp2_with fail
              refine Calls.mono HC.out ?_
              rintro e w11 ⟨b11, d11, rfl, o11, k11⟩
              obtain ⟨g11, rfl, l11, l11', cc11⟩ := row_cell o11 (by decide)
              have c11 := cc11 0 (by decide)
              rw [cnts1] at c11
              obtain ⟨hN3, hN3l⟩ := num_nat HB.out P3
              obtain ⟨N3, hN3e⟩ : ∃ N3, N3 = (numAt bs P3 2).toNat := ⟨_, rfl⟩
              rw [← hN3e] at hN3 hN3l
              rw [hN3] at c11
              have HN3 : Hid (N3 = n3L bs) := by show _ = _; rw [hN3e, HP3.out]; rfl
              have H11 : Hid _ := HLS.out.keep k11
              have HG11 : Hid (A + 1 + 1 ≤ g11 ∧ g11 < w11.heap.size) := ⟨by have := HLS.out.bz; omega, l11'⟩
              have HC11 : Hid _ := c11
              clear o11 k11 l11 l11' cc11 HC hN3 hN3e c11 HY8 c5 HC5 HG HAP
              obtain ⟨P4, hP4⟩ : ∃ P4, P4 = P3 + 2 := ⟨_, rfl⟩
              have hpi : (P3 : Int) + 2 = (P4 : Int) := by omega
              have hP4n : P4 ≤ n := by omega
              have HP4 : Hid (P4 = p3L bs + 2) := by show _ = _; rw [hP4, HP3.out]
              clear hP4 hbA
              go_wp2_with fail
              clear hpi
              go_loopw [7, 16] (fun x i W => ∃ j : Nat, j ≤ N3 ∧ i = .int .i64 j ∧ x = .int .i64 ((P4 + 4 * j : Nat) : Int) ∧ Hid (P4 + 4 * j ≤ n) ∧ Hid (∃ b dd, LS W w1 A (A + 1) (A + 1 + 1) (.slice b3 N1 d3) (.slice b8 k d8) (.slice b j dd) 0 (insL bs) ss (spnsAt bs P4 j) ∧ W.cell? ⟨g11, 0, none⟩ = some (.int .i64 (N3 : Int)) ∧ g11 < W.heap.size ∧ ∀ g, (Value.slice b j dd).ownBlock = some g → g ≠ g11)) (fun _ i _ => N3 - (intOf i).toNat)
              case atStart => exact ⟨0, Nat.zero_le _, rfl, rfl, hP4n, none, 0, H11.out, HC11.out, HG11.out.2, fun g hg => by simp [Value.ownBlock] at hg⟩
              case round =>
                obtain ⟨j, hj, rfl, rfl, hJn, hI⟩ := hrel
                clear H11 HC11 HLS
                obtain ⟨b9, d9, hLS, c11, hg11, hap⟩ := hI.out
                have HLS : Hid _ := hLS
                have HAP : Hid _ := hap
                have HG : Hid (A + 1 + 1 ≤ g11 ∧ g11 < wr.heap.size) := ⟨HG11.out.1, hg11⟩
                have HC11 : Hid _ := c11
                have HOL : Hid ((spnsAt bs P4 j).length = j) := spnsAt_len _ _ _
                obtain ⟨q, hq⟩ : ∃ q, q = P4 + 4 * j := ⟨_, rfl⟩
                rw [← hq] at hJn ⊢
                have HQ : Hid _ := hq
                have hqn := hJn.out
                have HY8 : Hid _ := (HLS.out.yl HY1.out (by omega) (by omega)).ys HB.out
                clear hLS hap hI hg11 hq
                by_cases hlt : j < N3
                · by_cases hbB : q + 2 * 2 ≤ n
                  · have HC : Hid _ := l6counts_ok wr a n c q 2 bs HY8.out hbB hn
                    go_wp2_with fail
                    refine Calls.mono HC.out ?_
                    rintro e w12 ⟨b12, d12, rfl, o12, k12⟩
                    obtain ⟨g12, rfl, l12, l12', cc12⟩ := row_cell o12 (by decide)
                    have e0 := cc12 0 (by decide)
                    have e1 := cc12 1 (by decide)
                    rw [cntsAt_at bs q (by decide)] at e0 e1
                    rw [show q + 2 * 0 = q from rfl] at e0
                    rw [show q + 2 * 1 = q + 2 from rfl] at e1
                    have H12 : Hid _ := HLS.out.keep k12
                    have HSP : Hid (spnsAt bs P4 (j + 1) = spnsAt bs P4 j ++ [⟨numAt bs q 2, numAt bs (q + 2) 2⟩]) := by
                      show _ = _
                      rw [spnsAt_succ, ← HQ.out]; rfl
                    generalize numAt bs q 2 = x at e0 HSP
                    generalize numAt bs (q + 2) 2 = y at e1 HSP
                    have HC12 : Hid (w12.cell? ⟨g11, 0, none⟩ = some (.int .i64 (N3 : Int))) := by show _ = _; rw [k12.cell (p := ⟨g11, 0, none⟩) HG.out.2 (by omega)]; exact HC11.out
                    have HG12 : Hid (A + 1 + 1 ≤ g11 ∧ g11 < w12.heap.size) := ⟨HG.out.1, Nat.lt_of_lt_of_le HG.out.2 k12.size⟩
                    obtain ⟨q4, hq4⟩ : ∃ q4, q4 = q + 4 := ⟨_, rfl⟩
                    have hqi : (q : Int) + 4 = (q4 : Int) := by omega
                    have HQ4 : Hid _ := hq4
                    clear hq4 o12 k12 l12 cc12 HC HLS HC11 HG c11 HY8
                    obtain ⟨_, q0, q1, q2, q3, f0, f1, f2, f3⟩ := H12.out.bc
                    have hr3 := H12.out.oc.r3
                    rw [HOL.out] at hr3
                    have HR3 : Hid _ := hr3
                    have hbz := H12.out.bz
                    generalize hos : spnsAt bs P4 j = osj at HR3 HSP H12 HOL
                    clear hr3 hos
                    go_wp2_with fail
                    go_region_law ((refine step_append_lies _ rfl (.tmp 166) (.tmp 174) 37 rfl (A + 1 + 1) 83 j0 Spn.zero.agg 2 16 Try.underlying37 hjj hy0 hy1 hy2 rfl (by decide) _ _ (flatP osj) (by simp [Act.eval]) (own_drewA HR3.out 1 _) ⟨w12.heap.size, 0, none⟩ 1 1 (Spn.cells ⟨x, y⟩) (by simp [Act.eval]) rfl (news2 w12 ⟨x, y⟩ 1) (one2 _) (by decide) (by unfold maxLen; omega) (by omega) (by simp; omega) _ rfl ?_; intro g9 cap9 w9 o9 gr9 at9 lt9; obtain ⟨m1, ⟨_, s0, s1, s2, s3, sf0, sf1, sf2, sf3⟩, m3, m4⟩ := H12.out.grow (by omega) (by omega) (fun g hg => (own_blkV HR3.out hg).1) ((kept_alloc 0 0 w12 (Spn.box ⟨x, y⟩)).trans (kept_drewN 0 0 _ 1)) (chg_grow gr9)))
                    all_goals
                      have kk := (kept_alloc 0 0 w12 (Spn.box ⟨x, y⟩)).trans (kept_drewN 0 0 _ 1)
                      have c9 := chg_grow gr9
                      have ha9 : (Value.slice b9 j d9).ownBlock = some g9 ∨ w12.heap.size ≤ g9 := by
                        rcases at9 with h | h
                        · exact .inl h
                        · right; rw [h]; exact kk.size
                      have R1 : Hid (LS (w9.setCell ⟨A + 1, 2, none⟩ (.slice (some ⟨g9, 0, none⟩) (j + 1) cap9)) w1 A (A + 1) (A + 1 + 1) (.slice b3 N1 d3) (.slice b8 k d8) (.slice (some ⟨g9, 0, none⟩) (j + 1) cap9) 0 (insL bs) ss (spnsAt bs P4 (j + 1))) := by
                        rw [HSP.out]
                        exact H12.out.addP (by omega) (by omega) HOL.out kk o9 gr9 ha9
                      have R3 : Hid ((w9.setCell ⟨A + 1, 2, none⟩ (.slice (some ⟨g9, 0, none⟩) (j + 1) cap9)).cell? ⟨g11, 0, none⟩ = some (.int .i64 (N3 : Int))) := by
                        show _ = _
                        rw [cell_ne _ _ _ _ _ _ (.inl (by have := HG12.out; omega))]
                        exact (c9.cell (p := ⟨g11, 0, none⟩) (Nat.lt_of_lt_of_le HG12.out.2 kk.size) (fun e => HAP.out g11 e rfl)).trans ((kk.cell (p := ⟨g11, 0, none⟩) HG12.out.2 (by omega)).trans HC12.out)
                      have R4 : Hid (g11 < (w9.setCell ⟨A + 1, 2, none⟩ (.slice (some ⟨g9, 0, none⟩) (j + 1) cap9)).heap.size) := by
                        exact Nat.lt_of_lt_of_le HG12.out.2 (Nat.le_trans kk.size (Nat.le_trans c9.size (by simp)))
                      have R5 : Hid (∀ g, (Value.slice (some ⟨g9, 0, none⟩) (j + 1) cap9).ownBlock = some g → g ≠ g11) := fun g hg => by
                        simp [Value.ownBlock] at hg
                        subst hg
                        rcases ha9 with h | h
                        · exact HAP.out _ h
                        · have := HG12.out; omega
                      clear o9 gr9 at9 lt9 kk c9 ha9 m1 m3 m4 e0 e1 hqi
                      try clear s0 s1 s2 s3 sf0 sf1 sf2 sf3
                      go_wp2_with fail
                      go_roundw
                      case rel => exact ⟨j + 1, by omega, by go_num, by have := HQ4.out; have := HQ.out; congr 1; omega, by have := HQ4.out; have := HQ.out; show _ ≤ _; omega, some ⟨g9, 0, none⟩, cap9, R1.out, R3.out, R4.out, R5.out⟩
                      case measure => simp [intOf]; omega
                  · have HC : Hid _ := l6counts_no wr a n c q 2 hbB (by omega) (by omega)
                    go_wp2_with fail
                    refine Calls.mono HC.out ?_
                    rintro e w12 ⟨rfl, rfl⟩
                    obtain ⟨_, r0, r1, r2, r3, g0, g1, g2, g3⟩ := HLS.out.ba
                    obtain ⟨_, q0, q1, q2, q3, _⟩ := HLS.out.bc
                    have HKF : Hid (Kept 0 0 w w12) := HLS.out.kept HK1.out (by have := HWA.out; omega) (by have := HWA.out; omega)
                    have HFT : Hid (fitL bs = false) := fit6 (k := j + 1) (by have := HN3.out; omega) (by have := HP4.out; have := HQ.out; have := HL.out; omega)
                    go_wp2_with fail
                    obtain ⟨y0, y1, y2, y3⟩ := put4_0 w12 A _ _ _ _ r0 r1 r2 r3 (.slice b3 N1 d3) (.slice b8 k d8) (.slice b9 j d9) (.int .i64 0)
                    have kp := put4_kept w12 A (.slice b3 N1 d3) (.slice b8 k d8) (.slice b9 j d9) (.int .i64 0)
                    refine bodyPost_ret (v := .tuple #[.agg #[(.slice b3 N1 d3), (.slice b8 k d8), (.slice b9 j d9), .int .i64 0], .bool false]) (by simp [results, Try.results67, go_sem, y0, y1, y2, y3]) rfl ⟨fun _ => ⟨_, _, _, _, _, _, _, _, _, _, rfl⟩, fun h => ?_, HKF.out.new kp (by have := HWA.out; omega)⟩
                    rw [HFT.out] at h; cases h
                · obtain rfl : j = N3 := by omega
                  have HP5 : Hid (q = p4L bs) := by show _ = _; rw [HQ.out, HP4.out, HN3.out]; rfl
                  by_cases hbC : q + 2 * 1 ≤ n
                  · have HC : Hid _ := l6counts_ok wr a n c q 1 bs HY8.out hbC hn
                    go_wp2_with fail
                    refine Calls.mono HC.out ?_
                    rintro e w12 ⟨b12, d12, rfl, o12, k12⟩
                    obtain ⟨g12, rfl, l12, l12', cc12⟩ := row_cell o12 (by decide)
                    have e0 := cc12 0 (by decide)
                    rw [cnts1] at e0
                    have H12 : Hid _ := HLS.out.keep k12
                    have HPK : Hid (numAt bs q 2 = pkL bs) := by show _ = _; rw [HP5.out]; rfl
                    generalize numAt bs q 2 = pk at e0 HPK
                    obtain ⟨_, q0, q1, q2, q3, f0, f1, f2, f3⟩ := H12.out.bc
                    have H13 : Hid (LS (w12.setCell ⟨A + 1, 3, none⟩ (.int .i64 pk)) w1 A (A + 1) (A + 1 + 1) (.slice b3 N1 d3) (.slice b8 k d8) (.slice b9 j d9) pk (insL bs) ss (spnsAt bs P4 j)) := H12.out.put (by omega) (by omega) (H12.out.bc.put3 _) H12.out.oc
                    clear o12 k12 l12 l12' cc12 HC HLS HC11 HG c11 HY8 H12
                    go_upto_region 50 with fail
                    clear q0 q1 q2 q3 f0 f1 f2 f3 e0
                    generalize w12.setCell ⟨A + 1, 3, none⟩ (.int .i64 pk) = w13 at H13 ⊢
                    obtain ⟨_, r0, r1, r2, r3, g0, g1, g2', g3⟩ := H13.out.ba
                    obtain ⟨_, q0, q1, q2, q3, _⟩ := H13.out.bc
                    have HKF : Hid (Kept 0 0 w w13) := H13.out.kept HK1.out (by have := HWA.out; omega) (by have := HWA.out; omega)
                    have HFT : Hid (fitL bs = true) := by
                      show _ = _
                      exact decide_eq_true (by have := HP5.out; have := HL.out; omega)
                    go_wp2_with fail
                    obtain ⟨y0, y1, y2, y3⟩ := put4_0 w13 A _ _ _ _ r0 r1 r2 r3 (.slice b3 N1 d3) (.slice b8 k d8) (.slice b9 j d9) (.int .i64 pk)
                    have kp := put4_kept w13 A (.slice b3 N1 d3) (.slice b8 k d8) (.slice b9 j d9) (.int .i64 pk)
                    refine bodyPost_ret (v := .tuple #[cagg b3 N1 d3 b8 k d8 b9 j d9 pk, .bool true]) (by simp [results, Try.results67, go_sem, y0, y1, y2, y3]) rfl ⟨fun h => ?_, fun _ => ⟨b3, d3, b8, d8, b9, d9, ss, ?_, ?_, ?_⟩, HKF.out.new kp (by have := HWA.out; omega)⟩
                    · rw [HFT.out] at h; cases h
                    · rw [← HN1.out, ← HN2.out, ← HN3.out, ← HPK.out]
                    · rw [HSL.out.2, HP2.out, HN2.out]; rfl
                    · rw [← HN1.out, ← HN2.out, ← HN3.out]
                      have e : osL bs = spnsAt bs P4 j := by rw [HP4.out, HN3.out]; rfl
                      rw [e]
                      exact (H13.out.oc.keepC (kp.chg1 (S := fun b => b = A) rfl) (fun g hg _ e => by omega)).mono (by have := HWA.out; omega)
                  · have HC : Hid _ := l6counts_no wr a n c q 1 hbC (by omega) (by omega)
                    go_wp2_with fail
                    refine Calls.mono HC.out ?_
                    rintro e w12 ⟨rfl, rfl⟩
                    obtain ⟨_, r0, r1, r2, r3, g0, g1, g2, g3⟩ := HLS.out.ba
                    obtain ⟨_, q0, q1, q2, q3, _⟩ := HLS.out.bc
                    have HKF : Hid (Kept 0 0 w w12) := HLS.out.kept HK1.out (by have := HWA.out; omega) (by have := HWA.out; omega)
                    have HFT : Hid (fitL bs = false) := fit_no (by have := HP5.out; have := HL.out; omega)
                    go_wp2_with fail
                    obtain ⟨y0, y1, y2, y3⟩ := put4_0 w12 A _ _ _ _ r0 r1 r2 r3 (.slice b3 N1 d3) (.slice b8 k d8) (.slice b9 j d9) (.int .i64 0)
                    have kp := put4_kept w12 A (.slice b3 N1 d3) (.slice b8 k d8) (.slice b9 j d9) (.int .i64 0)
                    refine bodyPost_ret (v := .tuple #[.agg #[(.slice b3 N1 d3), (.slice b8 k d8), (.slice b9 j d9), .int .i64 0], .bool false]) (by simp [results, Try.results67, go_sem, y0, y1, y2, y3]) rfl ⟨fun _ => ⟨_, _, _, _, _, _, _, _, _, _, rfl⟩, fun h => ?_, HKF.out.new kp (by have := HWA.out; omega)⟩
                    rw [HFT.out] at h; cases h
            · have HC : Hid _ := l6counts_no wr a n c P3 1 hbA (by omega) (by omega)
              go_wp2_with fail
              refine Calls.mono HC.out ?_
              rintro e w11 ⟨rfl, rfl⟩
              obtain ⟨_, r0, r1, r2, r3, g0, g1, g2, g3⟩ := HLS.out.ba
              obtain ⟨_, q0, q1, q2, q3, _⟩ := HLS.out.bc
              have HKF : Hid (Kept 0 0 w w11) := HLS.out.kept HK1.out (by have := HWA.out; omega) (by have := HWA.out; omega)
              have HFT : Hid (fitL bs = false) := fit5 (by have := HP3.out; have := HL.out; omega)
              go_wp2_with fail
              obtain ⟨y0, y1, y2, y3⟩ := put4_0 w11 A _ _ _ _ r0 r1 r2 r3 (.slice b3 N1 d3) (.slice b8 k d8) (.slice none 0 0) (.int .i64 0)
              have kp := put4_kept w11 A (.slice b3 N1 d3) (.slice b8 k d8) (.slice none 0 0) (.int .i64 0)
              refine bodyPost_ret (v := .tuple #[.agg #[(.slice b3 N1 d3), (.slice b8 k d8), (.slice none 0 0), .int .i64 0], .bool false]) (by simp [results, Try.results67, go_sem, y0, y1, y2, y3]) rfl ⟨fun _ => ⟨_, _, _, _, _, _, _, _, _, _, rfl⟩, fun h => ?_, HKF.out.new kp (by have := HWA.out; omega)⟩
              rw [HFT.out] at h; cases h
      · have HC : Hid _ := l6counts_no w4 a n c P1 1 hb3 (by omega) (by omega)
        go_wp2_with fail
        refine Calls.mono HC.out ?_
        rintro e w5 ⟨rfl, rfl⟩
        obtain ⟨_, r0, r1, r2, r3, g0, g1, g2, g3⟩ := H4.out.ba
        obtain ⟨_, q0, q1, q2, q3, _⟩ := H4.out.bc
        have HKF : Hid (Kept 0 0 w w5) := H4.out.kept HK1.out (by have := HWA.out; omega) (by have := HWA.out; omega)
        have HFT : Hid (fitL bs = false) := fit3 (by have := HP1.out; have := HL.out; omega)
        go_wp2_with fail
        obtain ⟨y0, y1, y2, y3⟩ := put4_0 w5 A _ _ _ _ r0 r1 r2 r3 (.slice b3 N1 d3) (.slice none 0 0) (.slice none 0 0) (.int .i64 0)
        have kp := put4_kept w5 A (.slice b3 N1 d3) (.slice none 0 0) (.slice none 0 0) (.int .i64 0)
        refine bodyPost_ret (v := .tuple #[.agg #[(.slice b3 N1 d3), (.slice none 0 0), (.slice none 0 0), .int .i64 0], .bool false]) (by simp [results, Try.results67, go_sem, y0, y1, y2, y3]) rfl ⟨fun _ => ⟨_, _, _, _, _, _, _, _, _, _, rfl⟩, fun h => ?_, HKF.out.new kp (by have := HWA.out; omega)⟩
        rw [HFT.out] at h; cases h
    · have HC : Hid _ := l6counts_no w2 a n c 4 N1 hb2 (by omega) (by omega)
      go_wp2_with fail
      refine Calls.mono HC.out ?_
      rintro e w3 ⟨rfl, rfl⟩
      obtain ⟨_, q0, q1, q2, q3, f0, f1, f2, f3⟩ := H2.out.bc
      have c4 : (w3.setCell ⟨A + 1, 0, none⟩ (.slice none 0 0)).cell? ⟨g2, 0, none⟩ = some (.int .i64 (N1 : Int)) := by rw [cell_ne _ _ _ _ _ _ (.inl (by have := HG2.out; omega))]; exact c2
      have H4 : Hid (LS (w3.setCell ⟨A + 1, 0, none⟩ (.slice none 0 0)) w1 A (A + 1) (A + 1 + 1) (.slice none 0 0) (.slice none 0 0) (.slice none 0 0) 0 [] [] []) := H2.out.put (by omega) (by omega) (H2.out.bc.put0 _) (OCd.setI (World.ownsRow_nil _ _ _ _))
      go_upto_region 9 with fail
      clear q0 q1 q2 q3 f0 f1 f2 f3 c2 H2 HY2 HC
      generalize w3.setCell ⟨A + 1, 0, none⟩ (.slice none 0 0) = w4 at c4 H4 ⊢
      obtain ⟨_, r0, r1, r2, r3, g0, g1, g2, g3⟩ := H4.out.ba
      obtain ⟨_, q0, q1, q2, q3, _⟩ := H4.out.bc
      have HKF : Hid (Kept 0 0 w w4) := H4.out.kept HK1.out (by have := HWA.out; omega) (by have := HWA.out; omega)
      have HFT : Hid (fitL bs = false) := fit2 (by have := HN1.out; have := HL.out; unfold p1L; omega)
      go_wp2_with fail
      obtain ⟨y0, y1, y2, y3⟩ := put4_0 w4 A _ _ _ _ r0 r1 r2 r3 (.slice none 0 0) (.slice none 0 0) (.slice none 0 0) (.int .i64 0)
      have kp := put4_kept w4 A (.slice none 0 0) (.slice none 0 0) (.slice none 0 0) (.int .i64 0)
      refine bodyPost_ret (v := .tuple #[.agg #[(.slice none 0 0), (.slice none 0 0), (.slice none 0 0), .int .i64 0], .bool false]) (by simp [results, Try.results67, go_sem, y0, y1, y2, y3]) rfl ⟨fun _ => ⟨_, _, _, _, _, _, _, _, _, _, rfl⟩, fun h => ?_, HKF.out.new kp (by have := HWA.out; omega)⟩
      rw [HFT.out] at h; cases h
  · have HC : Hid _ := l6counts_no w1 a n c 2 1 hb1 (by omega) (by omega)
    go_wp2_with fail
    refine Calls.mono HC.out ?_
    rintro e w2 ⟨rfl, rfl⟩
    obtain ⟨_, r0, r1, r2, r3, g0, g1, g2, g3⟩ := H1.out.ba
    obtain ⟨_, q0, q1, q2, q3, _⟩ := H1.out.bc
    have HKF : Hid (Kept 0 0 w w2) := H1.out.kept HK1.out (by have := HWA.out; omega) (by have := HWA.out; omega)
    have HFT : Hid (fitL bs = false) := fit1 (by have := HL.out; omega)
    go_wp2_with fail
    obtain ⟨y0, y1, y2, y3⟩ := put4_0 w2 A _ _ _ _ r0 r1 r2 r3 (.slice none 0 0) (.slice none 0 0) (.slice none 0 0) (.int .i64 0)
    have kp := put4_kept w2 A (.slice none 0 0) (.slice none 0 0) (.slice none 0 0) (.int .i64 0)
    refine bodyPost_ret (v := .tuple #[.agg #[(.slice none 0 0), (.slice none 0 0), (.slice none 0 0), .int .i64 0], .bool false]) (by simp [results, Try.results67, go_sem, y0, y1, y2, y3]) rfl ⟨fun _ => ⟨_, _, _, _, _, _, _, _, _, _, rfl⟩, fun h => ?_, HKF.out.new kp (by have := HWA.out; omega)⟩
    rw [HFT.out] at h; cases h
end Go.Proofs.Ytdkjdlimcnddkaa
