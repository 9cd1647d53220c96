import Derived.Test.YtdkjdlimcnddkaaA26
import Derived.Test.YtdkjdlimcnddkaaA24
namespace Go.Proofs.Ytdkjdlimcnddkaa
open Go.RowKit Flt
attribute [local go_sem] alloc_drewN setCell_drewN run_store_float

set_option maxRecDepth 100000 in
set_option maxHeartbeats 2000000 in
theorem implSave_bad (w : World) (a1 a2 a3 : Option Addr) (n1 c1 n2 c2 n3 c3 : Nat) (pk : Int) (ins : List Int) (ss : List Ste) (os : List Spn) (f : CS w a1 n1 a2 n2 a3 n3 ins ss os) (hv : verM ins ss os pk = false) :
    Calls Try.prog 22 #[cagg a1 n1 c1 a2 n2 c2 a3 n3 c3 pk] w fun e w' => e = .returned (.slice none 0 0) ∧ Kept 0 0 w w' := by
  have ka := kept_alloc 0 0 w (cbox a1 n1 c1 a2 n2 c2 a3 n3 c3 pk)
  have HV : Hid _ := implVer (w.alloc (cbox a1 n1 c1 a2 n2 c2 a3 n3 c3 pk)) a1 a2 a3 n1 c1 n2 c2 n3 c3 pk ins ss os (f.keep ka)
  rw [hv] at HV
  clear f hv
  go_enter Try.func22, Try.ntmps22
  go_wp2_with (first | (go_at_call 64; refine Calls.mono HV.out ?_; rintro e w2 ⟨rfl, k2⟩) | fail)
  go_ret
  exact ⟨rfl, ka.trans k2⟩
theorem is_lit {w0 w w9 : World} {S : Nat → Prop} {cs : Array Value} {xs : List Int} {n X : Nat} (hc : cs.toList = xs.map (Value.int .i64)) (hn : xs.length = n) (hX : w0.heap.size = X) (h : Kept 0 0 (w0.alloc (.cells cs 3)) w) (hC : Chg S w w9) (hS : ¬ S X) : IS w9 X (X + 1) (some ⟨X, 0, none⟩) n xs := by
  subst hX
  have h0 : IS (w0.alloc (.cells cs 3)) w0.heap.size (w0.heap.size + 1) (some ⟨w0.heap.size, 0, none⟩) n xs := ⟨hn, .inr ⟨w0.heap.size, 0, rfl, Nat.le_refl _, Nat.lt_succ_self _, by simp, fun k hk => by
    rw [Nat.zero_add, World.cell?_alloc_new, ← Array.getElem?_toList, hc, List.getElem?_map, List.getElem?_eq_getElem (by omega), List.getD_eq_getElem?_getD, List.getElem?_eq_getElem (by omega)]
    rfl⟩⟩
  exact (h0.keep h (.inr (.inr (Nat.le_refl _)))).keepC hC (fun g h1 h2 hs => hS (by have : g = w0.heap.size := by omega
                                                                                     rw [← this]; exact hs))
theorem newsD (w : World) (cs : Array Value) (ys : List Int) (hc : cs.toList = ys.map (Value.int .u8)) : ∀ j, j < ys.length → ((w.alloc (.cells cs 5)).drew).cell? ((⟨w.heap.size, 0, none⟩ : Addr).add j) = some (.int .u8 (ys.getD j 0)) := newsA w cs ys hc
theorem newsE (w : World) (cs : Array Value) (ys : List Int) (hc : cs.toList = ys.map (Value.int .u8)) (o : Obj) : ∀ j, j < ys.length → (((w.alloc (.cells cs 5)).alloc o).drew).cell? ((⟨w.heap.size, 0, none⟩ : Addr).add j) = some (.int .u8 (ys.getD j 0)) := fun j hj => by
  have h := newsA w cs ys hc j hj
  rw [add_addr] at h ⊢
  rw [((kept_alloc 0 0 (w.alloc (.cells cs 5)) o).trans (kept_drew _)).cell (p := ⟨w.heap.size, 0 + j, none⟩) (by simp) (by omega)]
  exact h
theorem newsF (w : World) (cs : Array Value) (ys : List Int) (hc : cs.toList = ys.map (Value.int .u8)) (o : Obj) : ∀ j, j < ys.length → (((w.alloc o).alloc (.cells cs 5)).drew).cell? ((⟨w.heap.size + 1, 0, none⟩ : Addr).add j) = some (.int .u8 (ys.getD j 0)) := fun j hj => by
  have h := newsA (w.alloc o) cs ys hc j hj
  rw [show (w.alloc o).heap.size = w.heap.size + 1 by simp] at h
  exact h
theorem app_all {w2 W1 W' w9 : World} {u : Value} {Q : List Int} {A g n cap : Nat} {s : Ste} (f : SvI w2 W1 u Q) (a : AtT W1 A 0 s) (hz : W1.heap.size = A + 1) (hu : ∀ g, u.ownBlock = some g → g < A) (k : Kept 0 0 W1 W') (r : YB w9 w2.heap.size (.slice (some ⟨g, 0, none⟩) n cap) (Q ++ [s.op])) (d : Chg (fun b => u.ownBlock = some b) W' w9) (o : u.ownBlock = some g ∨ A + 1 ≤ g) :
    SvI w2 w9 (.slice (some ⟨g, 0, none⟩) n cap) (Q ++ [s.op]) ∧ AtT w9 A 0 s ∧ g ≠ A ∧ A < w9.heap.size := by
  have h1 := k.size
  have h2 := d.size
  refine ⟨f.next k r d, (a.keep (by omega) k (.inr (.inr (Nat.le_refl _)))).keepC (by omega) d (fun c => by have := hu _ c; omega), ?_, by omega⟩
  rcases o with c | c
  · have := hu _ c; omega
  · omega
theorem call_all {w2 w9 W' w10 : World} {v : Value} {Q Q' : List Int} {A g n cap : Nat} {s : Ste} (h : SvI w2 w9 (.slice (some ⟨g, 0, none⟩) n cap) Q ∧ AtT w9 A 0 s ∧ g ≠ A ∧ A < w9.heap.size) (k : Kept 0 0 w9 W') (r : YB w10 w2.heap.size v Q') (d : Chg (fun b => (Value.slice (some ⟨g, 0, none⟩) n cap).ownBlock = some b) W' w10) : SvI w2 w10 v Q' ∧ AtT w10 A 0 s := by
  obtain ⟨h1, h2, h3, h4⟩ := h
  have h5 := k.size
  refine ⟨h1.next k r d, (h2.keep h4 k (.inr (.inr (Nat.le_refl _)))).keepC (by omega) d (fun c => ?_)⟩
  simp [Value.ownBlock] at c
  omega
theorem CS.keepS {w w' : World} {a1 a2 a3 : Option Addr} {n1 n2 n3 : Nat} {ins : List Int} {ss : List Ste} {os : List Spn} {v : Value} {bs : List Int} (f : CS w a1 n1 a2 n2 a3 n3 ins ss os) (k : SvI w w' v bs) : CS w' a1 n1 a2 n2 a3 n3 ins ss os := f.keep k.k
set_option maxRecDepth 100000 in
set_option maxHeartbeats 8000000 in
theorem implSave_in (w : World) (a1 a2 a3 : Option Addr) (n1 c1 n2 c2 n3 c3 : Nat) (pk : Int) (ins : List Int) (ss : List Ste) (os : List Spn) (f : CS w a1 n1 a2 n2 a3 n3 ins ss os) (hv : verM ins ss os pk = true) :
    Calls Try.prog 22 #[cagg a1 n1 c1 a2 n2 c2 a3 n3 c3 pk] w fun e w' => ∃ v, e = .returned v ∧ YB w' w.heap.size v (saveM ins ss os pk) ∧ Kept 0 0 w w' := by
  have HO : Hid _ := svOK_of hv
  have ka := kept_alloc 0 0 w (cbox a1 n1 c1 a2 n2 c2 a3 n3 c3 pk)
  have HV : Hid _ := implVer (w.alloc (cbox a1 n1 c1 a2 n2 c2 a3 n3 c3 pk)) a1 a2 a3 n1 c1 n2 c2 n3 c3 pk ins ss os (f.keep ka)
  rw [hv] at HV
  have e1 := f.i.len
  have e2 := f.s.len
  have e3 := f.o.len
  have l1 : n1 ≤ 20 := by have := HO.out.li; omega
  have l2 : n2 ≤ 2000 := by have := HO.out.ls; omega
  have l3 : n3 ≤ 50 := by have := HO.out.lo; omega
  have HE : Hid (ins.length = n1 ∧ ss.length = n2 ∧ os.length = n3) := ⟨e1, e2, e3⟩
  have HKV : Hid (∀ k, (ss.getD k Ste.zero).k < 18446744073709551616) := fun k => by
    rw [List.getD_eq_getElem?_getD]
    cases hh : ss[k]? with
    | none => decide
    | some v => exact f.s.lt v (List.mem_of_getElem? hh)
  clear hv e1 e2 e3
  go_enter Try.func22, Try.ntmps22
  go_wp2_with fail
  refine Calls.mono HV.out ?_
  rintro e w2 ⟨rfl, k2⟩
  have HB : Hid _ := (c0_start w (.slice a1 n1 c1) (.slice a2 n2 c2) (.slice a3 n3 c3) (.int .i64 pk)).keep k2
  have HF : Hid _ := CS.keep f (ka.trans k2)
  have HK : Hid _ := ka.trans k2
  clear HV ka k2 f
  have HPZ : Hid (w.heap.size ≤ w2.heap.size) := HK.out.size
  generalize w.heap.size = p at HB ⊢
  go_upto_region 4 with fail
  have hL := YB.lit w2 w2.heap.size [71, 76] #[.int .u8 71, .int .u8 76] 2 rfl rfl (Nat.le_refl _) (by decide)
  have H0 : Hid (SvI w2 _ _ _) := ⟨hL, kept_alloc 0 0 w2 _⟩
  clear hL
  generalize w2.alloc (.cells #[.int .u8 71, .int .u8 76] 5) = w1 at H0 ⊢
  obtain ⟨_, q0, q1, q2, q3⟩ := HB.out.keep H0.out.k
  go_wp2_with fail
  clear q0 q1 q2 q3
  refine Calls.mono (withLit w1 w2.heap.size _ [71, 76] [(n1 : Int)] _ 1 H0.out.r rfl rfl (by decide) (by intro y hy; simp at hy; omega) (by decide) H0.out.size) ?_
  rintro e w3 ⟨v3, rfl, b3, d3, _⟩
  have H3 : Hid _ := SvI.next H0.out (kept_alloc 0 0 _ _) b3 d3
  clear b3 d3 H0
  obtain ⟨_, q0, q1, q2, q3⟩ := HB.out.keep H3.out.k
  go_wp2_with fail
  clear q0 q1 q2 q3
  refine Calls.mono (withCounts w3 w2.heap.size v3 _ ins a1 n1 c1 0 w2.heap.size H3.out.r (HF.out.i.keep H3.out.k (.inr (.inr (Nat.le_refl _)))) (fun g _ h2 h3 => by have := (H3.out.r.blk h3).1; omega) HO.out.i (by simp [cntB]) (by omega) H3.out.size) ?_
  rintro e w4 ⟨v4, rfl, b4, d4, _⟩
  have H4 : Hid _ := SvI.next H3.out (Kept.refl 0 0 _) b4 d4
  clear b4 d4 H3
  obtain ⟨_, q0, q1, q2, q3⟩ := HB.out.keep H4.out.k
  go_wp2_with fail
  clear q0 q1 q2 q3
  refine Calls.mono (withLit w4 w2.heap.size v4 _ [(n2 : Int)] _ 1 H4.out.r rfl rfl (by decide) (by intro y hy; simp at hy; omega) (by simp only [List.length_append, flat_cnt_len, List.length_cons, List.length_nil]; have := HE.out; omega) H4.out.size) ?_
  rintro e w5 ⟨v5, rfl, b5, d5, _⟩
  have H5 : Hid _ := SvI.next H4.out (kept_alloc 0 0 _ _) b5 d5
  clear b5 d5 H4
  obtain ⟨P, hP⟩ : ∃ P, P = [71, 76] ++ [(n1 : Int)].flatMap cntB ++ ins.flatMap cntB ++ [(n2 : Int)].flatMap cntB := ⟨_, rfl⟩
  rw [← hP] at H5
  have HP : Hid _ := hP
  have HPL : Hid (P.length ≤ 100) := by
    show _ ≤ _
    rw [hP]
    simp only [List.length_append, flat_cnt_len, List.length_cons, List.length_nil]; have := HE.out; omega
  clear hP
  obtain ⟨_, q0, q1, q2, q3⟩ := HB.out.keep H5.out.k
  go_wp2_with fail
  clear q0 q1 q2 q3
  go_loopw [3, 31] (fun b i W => ∃ k : Nat, k ≤ n2 ∧ i = .int .i64 k ∧ Hid (SvI w2 W b (P ++ (ss.take k).flatMap steB))) (fun _ i _ => n2 - (intOf i).toNat)
  case atStart => exact ⟨0, Nat.zero_le _, rfl, by rw [List.take_zero, List.flatMap_nil, List.append_nil]; exact H5⟩
  case round =>
    obtain ⟨k, hk, rfl, hR⟩ := hrel
    clear H5
    obtain ⟨_, q0, q1, q2, q3⟩ := HB.out.keep hR.out.k
    by_cases hlt : k < n2
    · rcases (HF.out.keep hR.out.k).s.at_ with z | ⟨ga, off, rfl, z1, z2, z3, z4⟩
      · omega
      have hat := z4 k hlt
      have hs := HO.out.s k (by rw [HE.out.2.1]; exact hlt)
      have hkv := HKV.out k
      have HT : Hid _ := flatMap_takeS steB ss Ste.zero (by rw [HE.out.2.1]; exact hlt)
      have HLN : Hid ((P ++ (ss.take k).flatMap steB).length ≤ 100000) := by
        show _ ≤ _
        have h1 := flat_ste_len (ss.take k)
        rw [List.length_take] at h1
        have h2 := HPL.out
        rw [List.length_append]
        omega
      generalize ss.getD k Ste.zero = s at hat hs hkv HT
      obtain ⟨y0, y1, y2, y3, y4, y5, y6, y7⟩ := hat
      obtain ⟨Q, hQ⟩ : ∃ Q, Q = P ++ (ss.take k).flatMap steB := ⟨_, rfl⟩
      rw [← hQ] at hR HLN
      have HQ : Hid _ := hQ
      have HFB : Hid _ := hs.2
      have hop := hs.1
      have HKS : Hid _ := hkv
      clear hQ hs z1 z2 z3 z4 hkv
      have ka := kept_alloc 0 0 wr s.box
      have HA : Hid _ := atT_newS wr s
      have HR1 : Hid _ := hR.out.keep ka
      have HZ : Hid ((wr.alloc s.box).heap.size = wr.heap.size + 1) := by show _ = _; simp
      have HU : Hid (∀ g, u3.ownBlock = some g → g < wr.heap.size) := fun g h => (hR.out.r.blk h).2
      clear ka hR
      go_upto_region 10 with fail
      clear y0 y1 y2 y3 y4 y5 y6 y7
      generalize wr.alloc s.box = W1 at HA HR1 HZ ⊢
      generalize wr.heap.size = A at HA HU HZ ⊢
      have hwr : IntKind.u8.wrap s.op = s.op := by rw [IntKind.wrap_u8]; omega
      have y0 : W1.cell? ⟨A, 0, none⟩ = some (.int .i64 s.op) := HA.out.c0
      have y1 : W1.cell? ⟨A, 1, none⟩ = some (.int .i64 s.len) := HA.out.c1
      have y2 : W1.cell? ⟨A, 2, none⟩ = some (.int .i64 s.n) := HA.out.c2
      have y3 : W1.cell? ⟨A, 3, none⟩ = some (.int .i64 s.dst) := HA.out.c3
      have y4 : W1.cell? ⟨A, 4, none⟩ = some (.int .i64 s.a) := HA.out.c4
      have y5 : W1.cell? ⟨A, 5, none⟩ = some (.int .i64 s.b) := HA.out.c5
      have y6 : W1.cell? ⟨A, 6, none⟩ = some (.int .i64 s.c) := HA.out.c6
      go_region_held3 (fun w' => w'.cell? ⟨A, 0, none⟩ = some (.int .i64 s.op) ∧ w'.cell? ⟨A, 1, none⟩ = some (.int .i64 s.len) ∧ w'.cell? ⟨A, 2, none⟩ = some (.int .i64 s.n) ∧ w'.cell? ⟨A, 3, none⟩ = some (.int .i64 s.dst) ∧ w'.cell? ⟨A, 4, none⟩ = some (.int .i64 s.a) ∧ w'.cell? ⟨A, 5, none⟩ = some (.int .i64 s.b) ∧ w'.cell? ⟨A, 6, none⟩ = some (.int .i64 s.c)) (go_keep)
        (first
          | (refine step_appendY _ rfl (.tmp 35) (.tmp 39) rfl w2.heap.size _ Q (by simp [Act.eval]) (HR1.out.keep ((kept_alloc 0 0 W1 (.cells #[.int .u8 s.op] 5)).trans (kept_drew (W1.alloc (.cells #[.int .u8 s.op] 5))))).r ⟨W1.heap.size, 0, none⟩ 1 1 [s.op] (by simp [Act.eval]) rfl (newsD W1 _ [s.op] rfl) (by decide) (by have := HLN.out; omega) (by have := HR1.out.size; simp; omega) ?_; intro g9 cap9 n9 w9 e9 r9 d9 o9; clear e9; have X9 : Hid _ := app_all HR1.out HA.out HZ.out HU.out ((kept_alloc 0 0 W1 (.cells #[.int .u8 s.op] 5)).trans (kept_drew (W1.alloc (.cells #[.int .u8 s.op] 5)))) r9 d9 (by rcases o9 with h | h; exact .inl h; right; have := HZ.out; simp at h; omega); obtain ⟨j0, j1, j2, j3, j4, j5, j6, j7⟩ := X9.out.2.1; clear r9 d9 o9)
          | (refine step_appendY _ rfl (.tmp 35) (.tmp 39) rfl w2.heap.size _ Q (by simp [Act.eval]) (HR1.out.keep (((kept_alloc 0 0 W1 (.cells #[.int .u8 s.op] 5)).trans (kept_alloc 0 0 (W1.alloc (.cells #[.int .u8 s.op] 5)) (.cells #[.int .i64 s.len, .int .i64 s.n, .int .i64 s.dst, .int .i64 s.a, .int .i64 s.b, .int .i64 s.c] 3))).trans (kept_drew ((W1.alloc (.cells #[.int .u8 s.op] 5)).alloc (.cells #[.int .i64 s.len, .int .i64 s.n, .int .i64 s.dst, .int .i64 s.a, .int .i64 s.b, .int .i64 s.c] 3))))).r ⟨W1.heap.size, 0, none⟩ 1 1 [s.op] (by simp [Act.eval]) rfl (newsE W1 _ [s.op] rfl _) (by decide) (by have := HLN.out; omega) (by have := HR1.out.size; simp; omega) ?_; intro g9 cap9 n9 w9 e9 r9 d9 o9; clear e9; have X9 : Hid _ := app_all HR1.out HA.out HZ.out HU.out (((kept_alloc 0 0 W1 (.cells #[.int .u8 s.op] 5)).trans (kept_alloc 0 0 (W1.alloc (.cells #[.int .u8 s.op] 5)) (.cells #[.int .i64 s.len, .int .i64 s.n, .int .i64 s.dst, .int .i64 s.a, .int .i64 s.b, .int .i64 s.c] 3))).trans (kept_drew ((W1.alloc (.cells #[.int .u8 s.op] 5)).alloc (.cells #[.int .i64 s.len, .int .i64 s.n, .int .i64 s.dst, .int .i64 s.a, .int .i64 s.b, .int .i64 s.c] 3)))) r9 d9 (by rcases o9 with h | h; exact .inl h; right; have := HZ.out; simp at h; omega); have I9 : Hid (IS w9 (W1.heap.size + 1) (W1.heap.size + 1 + 1) (some ⟨W1.heap.size + 1, 0, none⟩) 6 (fieldsOf s)) := is_lit (w0 := W1.alloc (.cells #[.int .u8 s.op] 5)) (cs := #[.int .i64 s.len, .int .i64 s.n, .int .i64 s.dst, .int .i64 s.a, .int .i64 s.b, .int .i64 s.c]) rfl rfl (by simp) (kept_drew _) d9 (fun c => by have := HU.out _ c; have := HZ.out; omega); have G9 : Hid (g9 < A ∨ W1.heap.size + 2 ≤ g9) := (by rcases o9 with h | h; exact .inl (HU.out _ h); right; simp at h; omega); obtain ⟨j0, j1, j2, j3, j4, j5, j6, j7⟩ := X9.out.2.1; clear r9 d9 o9)
          | (refine step_appendY _ rfl (.tmp 35) (.tmp 39) rfl w2.heap.size _ Q (by simp [Act.eval]) (HR1.out.keep (((kept_alloc 0 0 W1 (.cells #[.int .i64 s.len, .int .i64 s.n, .int .i64 s.dst, .int .i64 s.a, .int .i64 s.b, .int .i64 s.c] 3)).trans (kept_alloc 0 0 (W1.alloc (.cells #[.int .i64 s.len, .int .i64 s.n, .int .i64 s.dst, .int .i64 s.a, .int .i64 s.b, .int .i64 s.c] 3)) (.cells #[.int .u8 s.op] 5))).trans (kept_drew ((W1.alloc (.cells #[.int .i64 s.len, .int .i64 s.n, .int .i64 s.dst, .int .i64 s.a, .int .i64 s.b, .int .i64 s.c] 3)).alloc (.cells #[.int .u8 s.op] 5))))).r ⟨W1.heap.size + 1, 0, none⟩ 1 1 [s.op] (by simp [Act.eval]) rfl (newsF W1 _ [s.op] rfl _) (by decide) (by have := HLN.out; omega) (by have := HR1.out.size; simp; omega) ?_; intro g9 cap9 n9 w9 e9 r9 d9 o9; clear e9; have X9 : Hid _ := app_all HR1.out HA.out HZ.out HU.out (((kept_alloc 0 0 W1 (.cells #[.int .i64 s.len, .int .i64 s.n, .int .i64 s.dst, .int .i64 s.a, .int .i64 s.b, .int .i64 s.c] 3)).trans (kept_alloc 0 0 (W1.alloc (.cells #[.int .i64 s.len, .int .i64 s.n, .int .i64 s.dst, .int .i64 s.a, .int .i64 s.b, .int .i64 s.c] 3)) (.cells #[.int .u8 s.op] 5))).trans (kept_drew ((W1.alloc (.cells #[.int .i64 s.len, .int .i64 s.n, .int .i64 s.dst, .int .i64 s.a, .int .i64 s.b, .int .i64 s.c] 3)).alloc (.cells #[.int .u8 s.op] 5)))) r9 d9 (by rcases o9 with h | h; exact .inl h; right; have := HZ.out; simp at h; omega); have I9 : Hid (IS w9 W1.heap.size (W1.heap.size + 1) (some ⟨W1.heap.size, 0, none⟩) 6 (fieldsOf s)) := is_lit (w0 := W1) (cs := #[.int .i64 s.len, .int .i64 s.n, .int .i64 s.dst, .int .i64 s.a, .int .i64 s.b, .int .i64 s.c]) rfl rfl rfl ((kept_alloc 0 0 _ _).trans (kept_drew _)) d9 (fun c => by have := HU.out _ c; have := HZ.out; omega); have G9 : Hid (g9 < A ∨ W1.heap.size + 2 ≤ g9) := (by rcases o9 with h | h; exact .inl (HU.out _ h); right; simp at h; omega); obtain ⟨j0, j1, j2, j3, j4, j5, j6, j7⟩ := X9.out.2.1; clear r9 d9 o9)
          | (have I9' := I9.out; go_at_call 65; refine Calls.mono (withCounts w9 w2.heap.size _ (Q ++ [s.op]) (fieldsOf s) _ 6 6 _ _ X9.out.1.r I9.out (fun g h1 h2 h3 => by have := G9.out; have := HZ.out; simp [Value.ownBlock] at h3; omega) HFB.out (by have := HLN.out; simp; omega) (by decide) X9.out.1.size) ?_; rintro e w10 ⟨v10, rfl, r10, d10, _⟩; have X10 : Hid _ := call_all X9.out (Kept.refl 0 0 w9) r10 d10; obtain ⟨m0, m1, m2, m3, m4, m5, m6, m7⟩ := X10.out.2; clear r10 d10)
          | (go_at_call 65; refine Calls.mono (withLit w9 w2.heap.size _ (Q ++ [s.op]) (fieldsOf s) _ 6 X9.out.1.r rfl rfl (by decide) HFB.out (by have := HLN.out; simp; omega) X9.out.1.size) ?_; rintro e w10 ⟨v10, rfl, r10, d10, _⟩; have X10 : Hid _ := call_all X9.out (kept_alloc 0 0 w9 _) r10 d10; obtain ⟨m0, m1, m2, m3, m4, m5, m6, m7⟩ := X10.out.2; clear r10 d10))
      all_goals
        clear j0 j1 j2 j3 j4 j5 j6 j7 y0 y1 y2 y3 y4 y5 y6 X9
        obtain ⟨RQ, hRQ⟩ : ∃ RQ, RQ = Q ++ [s.op] ++ (fieldsOf s).flatMap cntB := ⟨_, rfl⟩
        have HR10 : Hid (SvI w2 w10 v10 RQ) := by rw [hRQ]; exact X10.out.1
        have HLR : Hid (RQ.length ≤ 200000) := by
          show _ ≤ _
          rw [hRQ, List.length_append, List.length_append, flat_cnt_len]; have := HLN.out; simp [fieldsOf]; omega
        have HST : Hid (P ++ (ss.take (k + 1)).flatMap steB = RQ ++ (if s.op = 1 then bytesN (fb s.k) 8 else [])) := by
          show _ = _
          rw [HT.out, hRQ, HQ.out]
          simp only [steB, List.append_assoc]
        clear hRQ X10
        cases t : (s.op == 1)
        · have t' : ¬ s.op = 1 := by simpa using t
          rw [if_neg t', List.append_nil] at HST
          rw [← HST.out] at HR10
          clear t' HST
          go_wp2_with fail
          go_roundw
          case rel => exact ⟨k + 1, by omega, by go_num, HR10⟩
          case measure => simp [intOf]; omega
        · have t' : s.op = 1 := by simpa using t
          rw [if_pos t'] at HST
          have HL6 : Hid _ := withFloat w10 w2.heap.size v10 RQ s.k HKS.out HR10.out.r (by have := HLR.out; omega) HR10.out.size
          clear t'
          go_wp2_with fail
          refine Calls.mono HL6.out ?_
          rintro e w11 ⟨v11, rfl, r11, d11, _⟩
          have H9 : Hid _ := SvI.next HR10.out (Kept.refl 0 0 _) r11 d11
          rw [← HST.out] at H9
          clear r11 d11 HST m0 m1 m2 m3 m4 m5 m6 m7
          go_wp2_with fail
          go_roundw
          case rel => exact ⟨k + 1, by omega, by go_num, H9⟩
          case measure => simp [intOf]; omega
    · obtain rfl : k = n2 := by omega
      rw [List.take_of_length_le (by rw [HE.out.2.1]; exact Nat.le_refl _)] at hR
      obtain ⟨Q4, hQ4⟩ : ∃ Q4, Q4 = P ++ ss.flatMap steB := ⟨_, rfl⟩
      rw [← hQ4] at hR
      have HQ4 : Hid _ := hQ4
      have HL4 : Hid (Q4.length ≤ 50000) := by
        show _ ≤ _
        rw [hQ4, List.length_append]; have := flat_ste_len ss; have := HPL.out; have := HE.out; omega
      clear hQ4
      go_wp2_with fail
      clear q0 q1 q2 q3
      refine Calls.mono (withLit wr w2.heap.size u3 Q4 [(n3 : Int)] _ 1 hR.out.r rfl rfl (by decide) (by intro y hy; simp at hy; omega) (by have := HL4.out; omega) hR.out.size) ?_
      rintro e w6 ⟨v6, rfl, r6, d6, _⟩
      have H6 : Hid _ := SvI.next hR.out (kept_alloc 0 0 _ _) r6 d6
      clear r6 d6 hR
      obtain ⟨Q5, hQ5⟩ : ∃ Q5, Q5 = Q4 ++ [(n3 : Int)].flatMap cntB := ⟨_, rfl⟩
      rw [← hQ5] at H6
      have HQ5 : Hid _ := hQ5
      have HL5 : Hid (Q5.length ≤ 50002) := by
        show _ ≤ _
        rw [hQ5, List.length_append, flat_cnt_len]; have := HL4.out; simp; omega
      clear hQ5
      obtain ⟨_, q0, q1, q2, q3⟩ := HB.out.keep H6.out.k
      go_wp2_with fail
      clear q0 q1 q2 q3
      go_loopw [3, 72] (fun b i W => ∃ m : Nat, m ≤ n3 ∧ i = .int .i64 m ∧ Hid (SvI w2 W b (Q5 ++ (os.take m).flatMap spnB))) (fun _ i _ => n3 - (intOf i).toNat)
      case atStart => exact ⟨0, Nat.zero_le _, rfl, by rw [List.take_zero, List.flatMap_nil, List.append_nil]; exact H6⟩
      case round =>
        obtain ⟨m, hm, rfl, hR⟩ := hrel
        clear H6
        obtain ⟨_, q0, q1, q2, q3⟩ := HB.out.keep hR.out.k
        by_cases hlt : m < n3
        · rcases (HF.out.keep hR.out.k).o.at_ with z | ⟨ga, off, rfl, z1, z2, z3, z4⟩
          · omega
          have hat := z4 m hlt
          have hs := HO.out.o m (by rw [HE.out.2.2]; exact hlt)
          have HT : Hid _ := flatMap_takeS spnB os Spn.zero (by rw [HE.out.2.2]; exact hlt)
          obtain ⟨Q, hQ⟩ : ∃ Q, Q = Q5 ++ (os.take m).flatMap spnB := ⟨_, rfl⟩
          have HLQ : Hid (Q.length ≤ 100000) := by
            show _ ≤ _
            have h2 := HL5.out
            rw [hQ, List.length_append, flat_spn_len, List.length_take]
            omega
          rw [← hQ] at hR
          have HQ : Hid _ := hQ
          generalize os.getD m Spn.zero = s at hat hs HT
          obtain ⟨y0, y1⟩ := hat
          obtain ⟨⟨s1, s2⟩, s3, s4⟩ := hs
          clear hQ z1 z2 z3 z4 q0 q1 q2 q3
          have HR1 : Hid _ := hR.out.keep (kept_alloc 0 0 wr s.box)
          have HA0 : Hid ((wr.alloc s.box).cell? ⟨wr.heap.size, 0, none⟩ = some (.int .i64 s.off)) := by show _ = _; go_simp
          have HA1 : Hid ((wr.alloc s.box).cell? ⟨wr.heap.size, 1, none⟩ = some (.int .i64 s.len)) := by show _ = _; go_simp
          clear hR
          go_upto_region 18 with fail
          clear y0 y1
          generalize wr.alloc s.box = W1 at HR1 HA0 HA1 ⊢
          generalize wr.heap.size = A at HA0 HA1 ⊢
          have y0 := HA0.out
          have y1 := HA1.out
          go_wp2_with fail
          clear y0 y1
          refine Calls.mono (withLit W1 w2.heap.size u3 Q [s.off, s.len] _ 2 HR1.out.r rfl rfl (by decide) (by intro y hy; simp at hy; omega) (by have := HLQ.out; omega) HR1.out.size) ?_
          rintro e w9 ⟨v9, rfl, r9, d9, _⟩
          have H9 : Hid _ := SvI.next HR1.out (kept_alloc 0 0 _ _) r9 d9
          have R : Hid (SvI w2 w9 v9 (Q5 ++ (os.take (m + 1)).flatMap spnB)) := by
            have h := H9.out
            have e : Q5 ++ (os.take (m + 1)).flatMap spnB = Q ++ [s.off, s.len].flatMap cntB := by
              rw [HT.out, HQ.out]; simp [spnB]
            rw [e]
            exact h
          clear r9 d9 H9 HR1
          go_wp2_with fail
          go_roundw
          case rel => exact ⟨m + 1, by omega, by go_num, R⟩
          case measure => simp [intOf]; omega
        · obtain rfl : m = n3 := by omega
          rw [List.take_of_length_le (by rw [HE.out.2.2]; exact Nat.le_refl _)] at hR
          obtain ⟨Q6, hQ6⟩ : ∃ Q6, Q6 = Q5 ++ os.flatMap spnB := ⟨_, rfl⟩
          rw [← hQ6] at hR
          have HQ6 : Hid _ := hQ6
          have HL6 : Hid (Q6.length ≤ 60000) := by
            show _ ≤ _
            rw [hQ6, List.length_append, flat_spn_len]; have := HL5.out; have := HE.out; omega
          clear hQ6
          have hpk := HO.out.p
          go_wp2_with fail
          clear q0 q1 q2 q3
          refine Calls.mono (withLit wr w2.heap.size u3 Q6 [pk] _ 1 hR.out.r rfl rfl (by decide) (by intro y hy; simp at hy; omega) (by have := HL6.out; omega) hR.out.size) ?_
          rintro e w12 ⟨v12, rfl, r12, d12, _⟩
          have H12 : Hid _ := SvI.next hR.out (kept_alloc 0 0 _ _) r12 d12
          have RS : Hid (Q6 ++ [pk].flatMap cntB = saveM ins ss os pk) := by
            show _ = _
            unfold saveM
            rw [HQ6.out, HQ5.out, HQ4.out, HP.out, HE.out.1, HE.out.2.1, HE.out.2.2]
            simp only [List.flatMap_singleton]
          rw [RS.out] at H12
          clear r12 d12 hR
          go_wp2_with fail
          go_ret
          exact ⟨_, rfl, own_mono H12.out.r HPZ.out, Kept.trans HK.out H12.out.k⟩
end Go.Proofs.Ytdkjdlimcnddkaa
