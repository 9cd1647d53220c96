import Derived.Test.YtcphabjekfihnaaP09
namespace Go.Proofs.Ytcphabjekfihnaa
open Go.RowKit Flt
attribute [local go_sem] alloc_drewN setCell_drewN run_store_float

theorem e2_plus (w : World) (n : Nat) (h1 : 1 ≤ n) (hn : n ≤ 1000) {l0 h0' : Nat} {a0 : Option Addr} {c0 : Nat} {xs : List Nat} (f0 : FS w l0 h0' a0 n xs) {l1 h1' : Nat} {a1 : Option Addr} {c1 : Nat} {ys : List Nat} (f1 : FS w l1 h1' a1 n ys) :
    Calls Try.prog 86 #[.slice a0 n c0, .slice a1 n c1, .func (.func 76) #[] #[]] w fun e w' => Made n (fun k => cop .add (xs.getD k 0) (ys.getD k 0)) w e w' := by
  rcases f0.at_ with h | ⟨g0, o0, rfl, _, _, b0, k0⟩
  · omega
  rcases f1.at_ with h | ⟨g1, o1, rfl, _, _, b1, k1⟩
  · omega
  exact each_plus _ fn_plus w n hn g0 o0 c0 xs b0 f0.lt k0 g1 o1 c1 ys b1 f1.lt k1
theorem e2_minus (w : World) (n : Nat) (h1 : 1 ≤ n) (hn : n ≤ 1000) {l0 h0' : Nat} {a0 : Option Addr} {c0 : Nat} {xs : List Nat} (f0 : FS w l0 h0' a0 n xs) {l1 h1' : Nat} {a1 : Option Addr} {c1 : Nat} {ys : List Nat} (f1 : FS w l1 h1' a1 n ys) :
    Calls Try.prog 86 #[.slice a0 n c0, .slice a1 n c1, .func (.func 87) #[] #[]] w fun e w' => Made n (fun k => cop .sub (xs.getD k 0) (ys.getD k 0)) w e w' := by
  rcases f0.at_ with h | ⟨g0, o0, rfl, _, _, b0, k0⟩
  · omega
  rcases f1.at_ with h | ⟨g1, o1, rfl, _, _, b1, k1⟩
  · omega
  exact each_minus _ fn_minus w n hn g0 o0 c0 xs b0 f0.lt k0 g1 o1 c1 ys b1 f1.lt k1
theorem e2_times (w : World) (n : Nat) (h1 : 1 ≤ n) (hn : n ≤ 1000) {l0 h0' : Nat} {a0 : Option Addr} {c0 : Nat} {xs : List Nat} (f0 : FS w l0 h0' a0 n xs) {l1 h1' : Nat} {a1 : Option Addr} {c1 : Nat} {ys : List Nat} (f1 : FS w l1 h1' a1 n ys) :
    Calls Try.prog 86 #[.slice a0 n c0, .slice a1 n c1, .func (.func 75) #[] #[]] w fun e w' => Made n (fun k => cop .mul (xs.getD k 0) (ys.getD k 0)) w e w' := by
  rcases f0.at_ with h | ⟨g0, o0, rfl, _, _, b0, k0⟩
  · omega
  rcases f1.at_ with h | ⟨g1, o1, rfl, _, _, b1, k1⟩
  · omega
  exact each_times _ fn_times w n hn g0 o0 c0 xs b0 f0.lt k0 g1 o1 c1 ys b1 f1.lt k1
theorem e2_over (w : World) (n : Nat) (h1 : 1 ≤ n) (hn : n ≤ 1000) {l0 h0' : Nat} {a0 : Option Addr} {c0 : Nat} {xs : List Nat} (f0 : FS w l0 h0' a0 n xs) {l1 h1' : Nat} {a1 : Option Addr} {c1 : Nat} {ys : List Nat} (f1 : FS w l1 h1' a1 n ys) :
    Calls Try.prog 86 #[.slice a0 n c0, .slice a1 n c1, .func (.func 74) #[] #[]] w fun e w' => Made n (fun k => cop .quo (xs.getD k 0) (ys.getD k 0)) w e w' := by
  rcases f0.at_ with h | ⟨g0, o0, rfl, _, _, b0, k0⟩
  · omega
  rcases f1.at_ with h | ⟨g1, o1, rfl, _, _, b1, k1⟩
  · omega
  exact each_over _ fn_over w n hn g0 o0 c0 xs b0 f0.lt k0 g1 o1 c1 ys b1 f1.lt k1
theorem e2_greater (w : World) (n : Nat) (h1 : 1 ≤ n) (hn : n ≤ 1000) {l0 h0' : Nat} {a0 : Option Addr} {c0 : Nat} {xs : List Nat} (f0 : FS w l0 h0' a0 n xs) {l1 h1' : Nat} {a1 : Option Addr} {c1 : Nat} {ys : List Nat} (f1 : FS w l1 h1' a1 n ys) :
    Calls Try.prog 86 #[.slice a0 n c0, .slice a1 n c1, .func (.func 90) #[] #[]] w fun e w' => Made n (fun k => greaterN (xs.getD k 0) (ys.getD k 0)) w e w' := by
  rcases f0.at_ with h | ⟨g0, o0, rfl, _, _, b0, k0⟩
  · omega
  rcases f1.at_ with h | ⟨g1, o1, rfl, _, _, b1, k1⟩
  · omega
  exact each_greater _ fn_greater w n hn g0 o0 c0 xs b0 f0.lt k0 g1 o1 c1 ys b1 f1.lt k1
theorem e1_negated (w : World) (n : Nat) (h1 : 1 ≤ n) (hn : n ≤ 1000) {l0 h0' : Nat} {a0 : Option Addr} {c0 : Nat} {xs : List Nat} (f0 : FS w l0 h0' a0 n xs) :
    Calls Try.prog 88 #[.slice a0 n c0, .func (.func 89) #[] #[]] w fun e w' => Made n (fun k => Op.negFloat .f64 (xs.getD k 0)) w e w' := by
  rcases f0.at_ with h | ⟨g0, o0, rfl, _, _, b0, k0⟩
  · omega
  exact each_negated _ fn_negated w n hn g0 o0 c0 xs b0 f0.lt k0
theorem e1_exp (w : World) (n : Nat) (h1 : 1 ≤ n) (hn : n ≤ 1000) {l0 h0' : Nat} {a0 : Option Addr} {c0 : Nat} {xs : List Nat} (f0 : FS w l0 h0' a0 n xs) :
    Calls Try.prog 88 #[.slice a0 n c0, .func (.func 27) #[] #[]] w fun e w' => Made n (fun k => cexp (xs.getD k 0)) w e w' := by
  rcases f0.at_ with h | ⟨g0, o0, rfl, _, _, b0, k0⟩
  · omega
  exact each_exp _ fn_exp w n hn g0 o0 c0 xs b0 f0.lt k0
theorem e3_chosen (w : World) (n : Nat) (h1 : 1 ≤ n) (hn : n ≤ 1000) {l0 h0' : Nat} {a0 : Option Addr} {c0 : Nat} {xs : List Nat} (f0 : FS w l0 h0' a0 n xs) {l1 h1' : Nat} {a1 : Option Addr} {c1 : Nat} {ys : List Nat} (f1 : FS w l1 h1' a1 n ys) {l2 h2' : Nat} {a2 : Option Addr} {c2 : Nat} {us : List Nat} (f2 : FS w l2 h2' a2 n us) :
    Calls Try.prog 91 #[.slice a0 n c0, .slice a1 n c1, .slice a2 n c2, .func (.func 92) #[] #[]] w fun e w' => Made n (fun k => chosenN (xs.getD k 0) (ys.getD k 0) (us.getD k 0)) w e w' := by
  rcases f0.at_ with h | ⟨g0, o0, rfl, _, _, b0, k0⟩
  · omega
  rcases f1.at_ with h | ⟨g1, o1, rfl, _, _, b1, k1⟩
  · omega
  rcases f2.at_ with h | ⟨g2, o2, rfl, _, _, b2, k2⟩
  · omega
  exact each_chosen w n hn g0 o0 c0 xs b0 f0.lt k0 g1 o1 c1 ys b1 f1.lt k1 g2 o2 c2 us b2 f2.lt k2
theorem foldFS (w : World) (n : Nat) (h1 : 1 ≤ n) (hn : n ≤ 1000) {l0 h0' : Nat} {a0 : Option Addr} {c0 : Nat} {xs : List Nat} (f0 : FS w l0 h0' a0 n xs) (hc : n ≤ c0) :
    Calls Try.prog 93 #[.slice a0 n c0, .func (.func 76) #[] #[]] w fun e w' => ∃ z, e = .returned (.float .f64 z) ∧ z < 18446744073709551616 ∧ fb z = fb (csum xs) ∧ Drawn w w' := by
  rcases f0.at_ with h | ⟨g, o, rfl, _, _, b, k⟩
  · omega
  exact fold w n hn h1 g o c0 xs f0.len hc f0.lt k

/-- From a made list to a kernel's answer. -/
theorem Made.kres {n : Nat} {q q' : Nat → Nat} {w wc : World} {e : Ending} {w' : World} (h : Made n q wc e w') (hk : Kept 0 0 w wc) (hq : ∀ k, k < n → fb (q k) = fb (q' k)) : KRes n q' w e w' := by
  obtain ⟨zs, h1, h2, h3, h4, h5, h6⟩ := h
  exact ⟨_, zs, h1, hk.size, h2, h3, h4, fun k hk' => (h5 k hk').trans (hq k hk'), hk.trans h6⟩

set_option maxRecDepth 100000 in
set_option maxHeartbeats 4000000 in
theorem implKernel_ok (w : World) (op A B C : Int) (n K : Nat) (h1 : 1 ≤ n) (hn : n ≤ 1000) (hK : K < 18446744073709551616) {l0 h0' l1 h1' l2 h2' : Nat} {a b c : Option Addr} {la lb lc ca cb cc : Nat} {xa xb xc : List Nat}
    (fa : FS w l0 h0' a la xa) (fb' : FS w l1 h1' b lb xb) (fc : FS w l2 h2' c lc xc) (hca : la ≤ ca)
    (hs : shapeB op (n : Int) C (([(la : Int), (lb : Int), (lc : Int)]).take (cnt op)) = true) :
    Calls Try.prog 31 #[vagg op (n : Int) A B C K, .slice a la ca, .slice b lb cb, .slice c lc cc] w fun e w' => KRes n (elem op C K xa xb xc) w e w' := by
  have HS : Hid (shapeB op (n : Int) C (([(la : Int), (lb : Int), (lc : Int)]).take (cnt op)) = true) := hs
  have hL : Hid (∀ w, Calls Try.prog 82 #[.int .i64 (n : Int)] w fun e w' => e = .returned (.bool true) ∧ w' = w) := fun w => by
    have := isLength_any (n : Int) w
    rw [lenB_true (by omega) (by omega)] at this
    exact this
  have hI := lens_is (w.alloc (vbox op (n : Int) A B C K)) la lb lc
  have hI2 := hI.prefix (cnt op) (cnt_le op)
  have hcnt := cnt_le op
  have hC : Hid (∀ w, Calls Try.prog 84 #[.int .i64 op] w fun e w' => e = .returned (.int .i64 (cnt op : Nat)) ∧ w' = w) := opCount op
  have hS : Hid (∀ m, Calls Try.prog 83 #[vagg op (n : Int) A B C K, .slice (some ⟨w.heap.size + 1, 0, none⟩) (cnt op) 3] (((w.alloc (vbox op (n : Int) A B C K)).alloc (.cells #[.int .i64 la, .int .i64 lb, .int .i64 lc] 3)).drewN m)
      fun e w' => e = .returned (.bool true) ∧ Kept 0 0 (((w.alloc (vbox op (n : Int) A B C K)).alloc (.cells #[.int .i64 la, .int .i64 lb, .int .i64 lc] 3)).drewN m) w') := fun m => by
    have h := shapeFits _ op (n : Int) A B C K _ _ _ _ 3 _ (hI2.keep (kept_drewN 0 0 _ m) (.inr (.inr (Nat.le_refl _)))) rfl
    rw [hs] at h
    have e : (w.alloc (vbox op (n : Int) A B C K)).heap.size = w.heap.size + 1 := by simp
    rw [e] at h
    exact h
  clear hI hI2 hs
  generalize cnt op = q at hC hS hcnt
  go_enter Try.func31, Try.ntmps31
  go_upto_region 2 with fail
  go_cut [30] (fun r wx => r = .bool (!true) ∧ Kept 0 0 ((w.alloc (vbox op (n : Int) A B C K)).alloc (.cells #[.int .i64 la, .int .i64 lb, .int .i64 lc] 3)) wx)
  case first =>
    go_region_with (first | (go_at_call 82; refine (hL.out _).mono ?_; rintro e w2 ⟨rfl, rfl⟩) | (go_at_call 84; refine (hC.out _).mono ?_; rintro e w2 ⟨rfl, rfl⟩) | (go_at_call 83; refine (hS.out 1).mono ?_; rintro e w2 ⟨rfl, hk⟩))
    all_goals
      go_wp2_with fail
      go_meet
      exact ⟨rfl, (kept_drewN 0 0 _ 1).trans hk⟩
  case rest =>
    obtain ⟨rfl, hcut2⟩ := hcut
    clear hL hC hS hcnt
    have hW : Hid _ := ((kept_alloc 0 0 w (vbox op (n : Int) A B C K)).trans (kept_alloc 0 0 _ (.cells #[.int .i64 la, .int .i64 lb, .int .i64 lc] 3))).trans hcut2
    have sz : w.heap.size < ((w.alloc (vbox op (n : Int) A B C K)).alloc (.cells #[.int .i64 la, .int .i64 lb, .int .i64 lc] 3)).heap.size := by simp; omega
    have bx : ∀ i, wc.cell? ⟨w.heap.size, i, none⟩ = ((w.alloc (vbox op (n : Int) A B C K)).alloc (.cells #[.int .i64 la, .int .i64 lb, .int .i64 lc] 3)).cell? ⟨w.heap.size, i, none⟩ := fun i => hcut2.cell (p := ⟨w.heap.size, i, none⟩) sz (by omega)
    have b0 : wc.cell? ⟨w.heap.size, 0, none⟩ = some (.int .i64 op) := by rw [bx]; simp
    have b1 : wc.cell? ⟨w.heap.size, 1, none⟩ = some (.int .i64 (n : Int)) := by rw [bx]; simp
    have b4 : wc.cell? ⟨w.heap.size, 4, none⟩ = some (.int .i64 C) := by rw [bx]; simp
    have b5 : wc.cell? ⟨w.heap.size, 5, none⟩ = some (.float .f64 K) := by rw [bx]; simp
    have ga := fa.keep hW.out (.inr (.inr (Nat.le_refl _)))
    have gb := fb'.keep hW.out (.inr (.inr (Nat.le_refl _)))
    have gc := fc.keep hW.out (.inr (.inr (Nat.le_refl _)))
    clear fa fb' fc bx sz hcut2
    have HOP := HS.out
    clear HS
    rcases op_cases op with h | h | h | h | h | h | h | h | h | h | h | h | h | h
    · -- operation 1
      have t1 : (op == 1) = true := beq_iff_eq.2 h
      clear HOP ga gb gc
      have HE : Hid (∀ k, k < n → fb ((fun _ => K) k) = fb (elem op C K xa xb xc k)) := fun k _ => by simp [elem, h]
      clear h
      go_wp2_with fail
      refine (copies _ K n hK hn).mono ?_
      intro e w2 hm
      obtain ⟨zs, rfl, m1, m2, m3, m4, m5⟩ := hm
      have M1 : Hid _ := m1
      have M2 : Hid _ := m2
      have M3 : Hid _ := m3
      have M4 : Hid _ := m4
      have M5 : Hid _ := m5
      clear m1 m2 m3 m4 m5
      go_wp2
      go_ret
      exact Made.kres ⟨zs, rfl, M1.out, M2.out, M3.out, M4.out, M5.out⟩ hW.out HE.out
    · -- operation 2
      have t1 : (op == 1) = false := beq_eq_false_iff_ne.2 (by omega)
      have t2 : (op == 2) = true := beq_iff_eq.2 h
      have hfit : la = n ∧ lb = n := by rw [h] at HOP; simp [shapeB, cnt] at HOP; omega
      have HE : Hid (∀ k, k < n → fb ((fun k => cop .add (xa.getD k 0) (xb.getD k 0)) k) = fb (elem op C K xa xb xc k)) := fun k _ => by simp [elem, h]
      have HF : Hid _ := hfit
      have GA : Hid _ := ga
      have GB : Hid _ := gb
      have GC : Hid _ := gc
      clear HOP ga gb gc hfit h
      go_wp2_with fail
      have q0 := GA.out
      rw [HF.out.1] at q0
      have q1 := GB.out
      rw [HF.out.2] at q1
      rw [HF.out.1, HF.out.2]
      refine (e2_plus _ n h1 hn q0 q1).mono ?_
      clear q0 q1
      intro e w2 hm
      obtain ⟨zs, rfl, m1, m2, m3, m4, m5⟩ := hm
      have M1 : Hid _ := m1
      have M2 : Hid _ := m2
      have M3 : Hid _ := m3
      have M4 : Hid _ := m4
      have M5 : Hid _ := m5
      clear m1 m2 m3 m4 m5
      go_wp2
      go_ret
      exact Made.kres ⟨zs, rfl, M1.out, M2.out, M3.out, M4.out, M5.out⟩ hW.out HE.out
    · -- operation 3
      have t1 : (op == 1) = false := beq_eq_false_iff_ne.2 (by omega)
      have t2 : (op == 2) = false := beq_eq_false_iff_ne.2 (by omega)
      have t3 : (op == 3) = true := beq_iff_eq.2 h
      have hfit : la = n ∧ lb = n := by rw [h] at HOP; simp [shapeB, cnt] at HOP; omega
      have HE : Hid (∀ k, k < n → fb ((fun k => cop .sub (xa.getD k 0) (xb.getD k 0)) k) = fb (elem op C K xa xb xc k)) := fun k _ => by simp [elem, h]
      have HF : Hid _ := hfit
      have GA : Hid _ := ga
      have GB : Hid _ := gb
      have GC : Hid _ := gc
      clear HOP ga gb gc hfit h
      go_wp2_with fail
      have q0 := GA.out
      rw [HF.out.1] at q0
      have q1 := GB.out
      rw [HF.out.2] at q1
      rw [HF.out.1, HF.out.2]
      refine (e2_minus _ n h1 hn q0 q1).mono ?_
      clear q0 q1
      intro e w2 hm
      obtain ⟨zs, rfl, m1, m2, m3, m4, m5⟩ := hm
      have M1 : Hid _ := m1
      have M2 : Hid _ := m2
      have M3 : Hid _ := m3
      have M4 : Hid _ := m4
      have M5 : Hid _ := m5
      clear m1 m2 m3 m4 m5
      go_wp2
      go_ret
      exact Made.kres ⟨zs, rfl, M1.out, M2.out, M3.out, M4.out, M5.out⟩ hW.out HE.out
    · -- operation 4
      have t1 : (op == 1) = false := beq_eq_false_iff_ne.2 (by omega)
      have t2 : (op == 2) = false := beq_eq_false_iff_ne.2 (by omega)
      have t3 : (op == 3) = false := beq_eq_false_iff_ne.2 (by omega)
      have t4 : (op == 4) = true := beq_iff_eq.2 h
      have hfit : la = n ∧ lb = n := by rw [h] at HOP; simp [shapeB, cnt] at HOP; omega
      have HE : Hid (∀ k, k < n → fb ((fun k => cop .mul (xa.getD k 0) (xb.getD k 0)) k) = fb (elem op C K xa xb xc k)) := fun k _ => by simp [elem, h]
      have HF : Hid _ := hfit
      have GA : Hid _ := ga
      have GB : Hid _ := gb
      have GC : Hid _ := gc
      clear HOP ga gb gc hfit h
      go_wp2_with fail
      have q0 := GA.out
      rw [HF.out.1] at q0
      have q1 := GB.out
      rw [HF.out.2] at q1
      rw [HF.out.1, HF.out.2]
      refine (e2_times _ n h1 hn q0 q1).mono ?_
      clear q0 q1
      intro e w2 hm
      obtain ⟨zs, rfl, m1, m2, m3, m4, m5⟩ := hm
      have M1 : Hid _ := m1
      have M2 : Hid _ := m2
      have M3 : Hid _ := m3
      have M4 : Hid _ := m4
      have M5 : Hid _ := m5
      clear m1 m2 m3 m4 m5
      go_wp2
      go_ret
      exact Made.kres ⟨zs, rfl, M1.out, M2.out, M3.out, M4.out, M5.out⟩ hW.out HE.out
    · -- operation 5
      have t1 : (op == 1) = false := beq_eq_false_iff_ne.2 (by omega)
      have t2 : (op == 2) = false := beq_eq_false_iff_ne.2 (by omega)
      have t3 : (op == 3) = false := beq_eq_false_iff_ne.2 (by omega)
      have t4 : (op == 4) = false := beq_eq_false_iff_ne.2 (by omega)
      have t5 : (op == 5) = true := beq_iff_eq.2 h
      have hfit : la = n ∧ lb = n := by rw [h] at HOP; simp [shapeB, cnt] at HOP; omega
      have HE : Hid (∀ k, k < n → fb ((fun k => cop .quo (xa.getD k 0) (xb.getD k 0)) k) = fb (elem op C K xa xb xc k)) := fun k _ => by simp [elem, h]
      have HF : Hid _ := hfit
      have GA : Hid _ := ga
      have GB : Hid _ := gb
      have GC : Hid _ := gc
      clear HOP ga gb gc hfit h
      go_wp2_with fail
      have q0 := GA.out
      rw [HF.out.1] at q0
      have q1 := GB.out
      rw [HF.out.2] at q1
      rw [HF.out.1, HF.out.2]
      refine (e2_over _ n h1 hn q0 q1).mono ?_
      clear q0 q1
      intro e w2 hm
      obtain ⟨zs, rfl, m1, m2, m3, m4, m5⟩ := hm
      have M1 : Hid _ := m1
      have M2 : Hid _ := m2
      have M3 : Hid _ := m3
      have M4 : Hid _ := m4
      have M5 : Hid _ := m5
      clear m1 m2 m3 m4 m5
      go_wp2
      go_ret
      exact Made.kres ⟨zs, rfl, M1.out, M2.out, M3.out, M4.out, M5.out⟩ hW.out HE.out
    · -- operation 6
      have t1 : (op == 1) = false := beq_eq_false_iff_ne.2 (by omega)
      have t2 : (op == 2) = false := beq_eq_false_iff_ne.2 (by omega)
      have t3 : (op == 3) = false := beq_eq_false_iff_ne.2 (by omega)
      have t4 : (op == 4) = false := beq_eq_false_iff_ne.2 (by omega)
      have t5 : (op == 5) = false := beq_eq_false_iff_ne.2 (by omega)
      have t6 : (op == 6) = true := beq_iff_eq.2 h
      have hfit : la = n := by rw [h] at HOP; simp [shapeB, cnt] at HOP; omega
      have HE : Hid (∀ k, k < n → fb ((fun k => Op.negFloat .f64 (xa.getD k 0)) k) = fb (elem op C K xa xb xc k)) := fun k _ => by simp [elem, h]
      have HF : Hid _ := hfit
      have GA : Hid _ := ga
      have GB : Hid _ := gb
      have GC : Hid _ := gc
      clear HOP ga gb gc hfit h
      go_wp2_with fail
      have q0 := GA.out
      rw [HF.out] at q0
      rw [HF.out]
      refine (e1_negated _ n h1 hn q0).mono ?_
      clear q0
      intro e w2 hm
      obtain ⟨zs, rfl, m1, m2, m3, m4, m5⟩ := hm
      have M1 : Hid _ := m1
      have M2 : Hid _ := m2
      have M3 : Hid _ := m3
      have M4 : Hid _ := m4
      have M5 : Hid _ := m5
      clear m1 m2 m3 m4 m5
      go_wp2
      go_ret
      exact Made.kres ⟨zs, rfl, M1.out, M2.out, M3.out, M4.out, M5.out⟩ hW.out HE.out
    · -- operation 7
      have t1 : (op == 1) = false := beq_eq_false_iff_ne.2 (by omega)
      have t2 : (op == 2) = false := beq_eq_false_iff_ne.2 (by omega)
      have t3 : (op == 3) = false := beq_eq_false_iff_ne.2 (by omega)
      have t4 : (op == 4) = false := beq_eq_false_iff_ne.2 (by omega)
      have t5 : (op == 5) = false := beq_eq_false_iff_ne.2 (by omega)
      have t6 : (op == 6) = false := beq_eq_false_iff_ne.2 (by omega)
      have t7 : (op == 7) = true := beq_iff_eq.2 h
      have hfit : la = n ∧ lb = n := by rw [h] at HOP; simp [shapeB, cnt] at HOP; omega
      have HE : Hid (∀ k, k < n → fb ((fun k => greaterN (xa.getD k 0) (xb.getD k 0)) k) = fb (elem op C K xa xb xc k)) := fun k _ => by simp [elem, h]
      have HF : Hid _ := hfit
      have GA : Hid _ := ga
      have GB : Hid _ := gb
      have GC : Hid _ := gc
      clear HOP ga gb gc hfit h
      go_wp2_with fail
      have q0 := GA.out
      rw [HF.out.1] at q0
      have q1 := GB.out
      rw [HF.out.2] at q1
      rw [HF.out.1, HF.out.2]
      refine (e2_greater _ n h1 hn q0 q1).mono ?_
      clear q0 q1
      intro e w2 hm
      obtain ⟨zs, rfl, m1, m2, m3, m4, m5⟩ := hm
      have M1 : Hid _ := m1
      have M2 : Hid _ := m2
      have M3 : Hid _ := m3
      have M4 : Hid _ := m4
      have M5 : Hid _ := m5
      clear m1 m2 m3 m4 m5
      go_wp2
      go_ret
      exact Made.kres ⟨zs, rfl, M1.out, M2.out, M3.out, M4.out, M5.out⟩ hW.out HE.out
    · -- operation 8
      have t1 : (op == 1) = false := beq_eq_false_iff_ne.2 (by omega)
      have t2 : (op == 2) = false := beq_eq_false_iff_ne.2 (by omega)
      have t3 : (op == 3) = false := beq_eq_false_iff_ne.2 (by omega)
      have t4 : (op == 4) = false := beq_eq_false_iff_ne.2 (by omega)
      have t5 : (op == 5) = false := beq_eq_false_iff_ne.2 (by omega)
      have t6 : (op == 6) = false := beq_eq_false_iff_ne.2 (by omega)
      have t7 : (op == 7) = false := beq_eq_false_iff_ne.2 (by omega)
      have t8 : (op == 8) = true := beq_iff_eq.2 h
      have hfit : la = n ∧ lb = n ∧ lc = n := by rw [h] at HOP; simp [shapeB, cnt] at HOP; omega
      have HE : Hid (∀ k, k < n → fb ((fun k => chosenN (xa.getD k 0) (xb.getD k 0) (xc.getD k 0)) k) = fb (elem op C K xa xb xc k)) := fun k _ => by simp [elem, h]
      have HF : Hid _ := hfit
      have GA : Hid _ := ga
      have GB : Hid _ := gb
      have GC : Hid _ := gc
      clear HOP ga gb gc hfit h
      go_wp2_with fail
      have q0 := GA.out
      rw [HF.out.1] at q0
      have q1 := GB.out
      rw [HF.out.2.1] at q1
      have q2 := GC.out
      rw [HF.out.2.2] at q2
      rw [HF.out.1, HF.out.2.1, HF.out.2.2]
      refine (e3_chosen _ n h1 hn q0 q1 q2).mono ?_
      clear q0 q1 q2
      intro e w2 hm
      obtain ⟨zs, rfl, m1, m2, m3, m4, m5⟩ := hm
      have M1 : Hid _ := m1
      have M2 : Hid _ := m2
      have M3 : Hid _ := m3
      have M4 : Hid _ := m4
      have M5 : Hid _ := m5
      clear m1 m2 m3 m4 m5
      go_wp2
      go_ret
      exact Made.kres ⟨zs, rfl, M1.out, M2.out, M3.out, M4.out, M5.out⟩ hW.out HE.out
    · -- operation 9
      have t1 : (op == 1) = false := beq_eq_false_iff_ne.2 (by omega)
      have t2 : (op == 2) = false := beq_eq_false_iff_ne.2 (by omega)
      have t3 : (op == 3) = false := beq_eq_false_iff_ne.2 (by omega)
      have t4 : (op == 4) = false := beq_eq_false_iff_ne.2 (by omega)
      have t5 : (op == 5) = false := beq_eq_false_iff_ne.2 (by omega)
      have t6 : (op == 6) = false := beq_eq_false_iff_ne.2 (by omega)
      have t7 : (op == 7) = false := beq_eq_false_iff_ne.2 (by omega)
      have t8 : (op == 8) = false := beq_eq_false_iff_ne.2 (by omega)
      have t9 : (op == 9) = true := beq_iff_eq.2 h
      have hfit : n = 1 ∧ 1 ≤ la ∧ la ≤ 1000 := by rw [h] at HOP; simp [shapeB, cnt, lenB] at HOP; omega
      have HE : Hid (∀ z, fb z = fb (csum xa) → ∀ k, k < n → fb ((fun _ => z) k) = fb (elem op C K xa xb xc k)) := fun z hz k _ => by simp [elem, h, hz]
      have HF : Hid _ := hfit
      have GA : Hid _ := ga
      clear HOP ga gb gc hfit h
      go_wp2_with fail
      refine (foldFS _ la HF.out.2.1 HF.out.2.2 GA.out hca).mono ?_
      rintro e w2 ⟨z, rfl, hz, hsum, hD⟩
      have HZ : Hid (fb z = fb (csum xa)) := hsum
      clear hsum
      go_wp2_with fail
      refine (copies _ z 1 hz (by omega)).mono ?_
      intro e w3 hm
      obtain ⟨zs, rfl, m1, m2, m3, m4, m5⟩ := hm
      have M1 : Hid _ := m1
      have M2 : Hid _ := m2
      have M3 : Hid _ := m3
      have M4 : Hid _ := m4
      have M5 : Hid _ := m5
      clear m1 m2 m3 m4 m5
      go_wp2
      go_ret
      rw [HF.out.1]
      have hE := HE.out z HZ.out
      rw [HF.out.1] at hE
      exact Made.kres ⟨zs, rfl, M1.out, M2.out, M3.out, M4.out, M5.out⟩ (hW.out.trans (hD.kept 0 0)) hE
    · -- operation 10
      have t1 : (op == 1) = false := beq_eq_false_iff_ne.2 (by omega)
      have t2 : (op == 2) = false := beq_eq_false_iff_ne.2 (by omega)
      have t3 : (op == 3) = false := beq_eq_false_iff_ne.2 (by omega)
      have t4 : (op == 4) = false := beq_eq_false_iff_ne.2 (by omega)
      have t5 : (op == 5) = false := beq_eq_false_iff_ne.2 (by omega)
      have t6 : (op == 6) = false := beq_eq_false_iff_ne.2 (by omega)
      have t7 : (op == 7) = false := beq_eq_false_iff_ne.2 (by omega)
      have t8 : (op == 8) = false := beq_eq_false_iff_ne.2 (by omega)
      have t9 : (op == 9) = false := beq_eq_false_iff_ne.2 (by omega)
      have t10 : (op == 10) = true := beq_iff_eq.2 h
      have hfit : la = 1 := by rw [h] at HOP; simp [shapeB, cnt] at HOP; omega
      have HE : Hid (∀ k, k < n → fb ((fun _ => xa.getD 0 0) k) = fb (elem op C K xa xb xc k)) := fun k _ => by simp [elem, h]
      have hx := getD_lt ga.lt 0
      rcases ga.at_ with hz | ⟨g, o, rfl, _, _, hg, kc⟩
      · omega
      have k0 := kc 0 (by omega)
      rw [Nat.add_zero] at k0
      have hla : (0 : Int) < (la : Int) := by omega
      clear HOP ga gb gc hfit h kc hg
      generalize xa.getD 0 0 = x at hx HE k0
      go_wp2_with fail
      go_region_with (go_at_call 85; refine (copies _ x n hx hn).mono ?_; intro e w2 hm; obtain ⟨zs, rfl, m1, m2, m3, m4, m5⟩ := hm; have M1 : Hid _ := m1; have M2 : Hid _ := m2; have M3 : Hid _ := m3; have M4 : Hid _ := m4; have M5 : Hid _ := m5; clear m1 m2 m3 m4 m5)
      all_goals
        go_wp2
        go_ret
        exact Made.kres (wc := wc.drew) ⟨zs, rfl, M1.out, M2.out, M3.out, M4.out, M5.out⟩ (hW.out.trans (kept_drewN 0 0 _ 1)) HE.out
    · -- operation 11
      have t1 : (op == 1) = false := beq_eq_false_iff_ne.2 (by omega)
      have t2 : (op == 2) = false := beq_eq_false_iff_ne.2 (by omega)
      have t3 : (op == 3) = false := beq_eq_false_iff_ne.2 (by omega)
      have t4 : (op == 4) = false := beq_eq_false_iff_ne.2 (by omega)
      have t5 : (op == 5) = false := beq_eq_false_iff_ne.2 (by omega)
      have t6 : (op == 6) = false := beq_eq_false_iff_ne.2 (by omega)
      have t7 : (op == 7) = false := beq_eq_false_iff_ne.2 (by omega)
      have t8 : (op == 8) = false := beq_eq_false_iff_ne.2 (by omega)
      have t9 : (op == 9) = false := beq_eq_false_iff_ne.2 (by omega)
      have t10 : (op == 10) = false := beq_eq_false_iff_ne.2 (by omega)
      have t11 : (op == 11) = true := beq_iff_eq.2 h
      have hfit : n = 1 ∧ 1 ≤ la ∧ la ≤ 1000 ∧ 0 ≤ C ∧ C < (la : Int) := by rw [h] at HOP; simp [shapeB, cnt, lenB, idxB] at HOP; omega
      obtain ⟨p, hp⟩ := Int.eq_ofNat_of_zero_le hfit.2.2.2.1
      have HE : Hid (∀ k, k < n → fb ((fun _ => xa.getD p 0) k) = fb (elem op C K xa xb xc k)) := fun k _ => by simp [elem, h, hp]
      have hx := getD_lt ga.lt p
      rcases ga.at_ with hz | ⟨g, o, rfl, _, _, hg, kc⟩
      · omega
      have k0 := kc p (by omega)
      have hpl : (p : Int) < (la : Int) := by omega
      have HF : Hid _ := hfit
      rw [hp] at b4
      clear HOP ga gb gc hfit h kc hg hp
      generalize xa.getD p 0 = x at hx HE k0
      go_wp2_with fail
      refine (copies _ x 1 hx (by omega)).mono ?_
      intro e w2 hm
      obtain ⟨zs, rfl, m1, m2, m3, m4, m5⟩ := hm
      have M1 : Hid _ := m1
      have M2 : Hid _ := m2
      have M3 : Hid _ := m3
      have M4 : Hid _ := m4
      have M5 : Hid _ := m5
      clear m1 m2 m3 m4 m5
      go_wp2
      go_ret
      rw [HF.out.1]
      have hE := HE.out
      rw [HF.out.1] at hE
      exact Made.kres ⟨zs, rfl, M1.out, M2.out, M3.out, M4.out, M5.out⟩ hW.out hE
    · -- operation 12
      have t1 : (op == 1) = false := beq_eq_false_iff_ne.2 (by omega)
      have t2 : (op == 2) = false := beq_eq_false_iff_ne.2 (by omega)
      have t3 : (op == 3) = false := beq_eq_false_iff_ne.2 (by omega)
      have t4 : (op == 4) = false := beq_eq_false_iff_ne.2 (by omega)
      have t5 : (op == 5) = false := beq_eq_false_iff_ne.2 (by omega)
      have t6 : (op == 6) = false := beq_eq_false_iff_ne.2 (by omega)
      have t7 : (op == 7) = false := beq_eq_false_iff_ne.2 (by omega)
      have t8 : (op == 8) = false := beq_eq_false_iff_ne.2 (by omega)
      have t9 : (op == 9) = false := beq_eq_false_iff_ne.2 (by omega)
      have t10 : (op == 10) = false := beq_eq_false_iff_ne.2 (by omega)
      have t11 : (op == 11) = false := beq_eq_false_iff_ne.2 (by omega)
      have t12 : (op == 12) = true := beq_iff_eq.2 h
      have hfit : la = 1 ∧ 0 ≤ C ∧ C < (n : Int) := by rw [h] at HOP; simp [shapeB, cnt, idxB] at HOP; omega
      obtain ⟨p, hp⟩ := Int.eq_ofNat_of_zero_le hfit.2.1
      have HE : Hid (∀ k, k < n → fb ((fun k => if k = p then xa.getD 0 0 else 0) k) = fb (elem op C K xa xb xc k)) := fun k _ => by simp [elem, h, hp]
      have hx := getD_lt ga.lt 0
      rcases ga.at_ with hz | ⟨g, o, rfl, _, _, hg, kc⟩
      · omega
      have k0 := kc 0 (by omega)
      rw [Nat.add_zero] at k0
      have hla : (0 : Int) < (la : Int) := by omega
      have hpn : p < n := by omega
      rw [hp] at b4
      clear HOP ga gb gc hfit h kc hg hp
      generalize xa.getD 0 0 = x at hx HE k0
      go_wp2_with fail
      go_region_with (go_at_call 94; refine (placed _ x p n hx hn hpn).mono ?_; intro e w2 hm; obtain ⟨zs, rfl, m1, m2, m3, m4, m5⟩ := hm; have M1 : Hid _ := m1; have M2 : Hid _ := m2; have M3 : Hid _ := m3; have M4 : Hid _ := m4; have M5 : Hid _ := m5; clear m1 m2 m3 m4 m5)
      all_goals
        go_wp2
        go_ret
        exact Made.kres (wc := wc.drew) ⟨zs, rfl, M1.out, M2.out, M3.out, M4.out, M5.out⟩ (hW.out.trans (kept_drewN 0 0 _ 1)) HE.out
    · -- operation 13
      have t1 : (op == 1) = false := beq_eq_false_iff_ne.2 (by omega)
      have t2 : (op == 2) = false := beq_eq_false_iff_ne.2 (by omega)
      have t3 : (op == 3) = false := beq_eq_false_iff_ne.2 (by omega)
      have t4 : (op == 4) = false := beq_eq_false_iff_ne.2 (by omega)
      have t5 : (op == 5) = false := beq_eq_false_iff_ne.2 (by omega)
      have t6 : (op == 6) = false := beq_eq_false_iff_ne.2 (by omega)
      have t7 : (op == 7) = false := beq_eq_false_iff_ne.2 (by omega)
      have t8 : (op == 8) = false := beq_eq_false_iff_ne.2 (by omega)
      have t9 : (op == 9) = false := beq_eq_false_iff_ne.2 (by omega)
      have t10 : (op == 10) = false := beq_eq_false_iff_ne.2 (by omega)
      have t11 : (op == 11) = false := beq_eq_false_iff_ne.2 (by omega)
      have t12 : (op == 12) = false := beq_eq_false_iff_ne.2 (by omega)
      have t13 : (op == 13) = true := beq_iff_eq.2 h
      have hfit : la = n := by rw [h] at HOP; simp [shapeB, cnt] at HOP; omega
      have HE : Hid (∀ k, k < n → fb ((fun k => cexp (xa.getD k 0)) k) = fb (elem op C K xa xb xc k)) := fun k _ => by simp [elem, h]
      have HF : Hid _ := hfit
      have GA : Hid _ := ga
      have GB : Hid _ := gb
      have GC : Hid _ := gc
      clear HOP ga gb gc hfit h
      go_wp2_with fail
      have q0 := GA.out
      rw [HF.out] at q0
      rw [HF.out]
      refine (e1_exp _ n h1 hn q0).mono ?_
      clear q0
      intro e w2 hm
      obtain ⟨zs, rfl, m1, m2, m3, m4, m5⟩ := hm
      have M1 : Hid _ := m1
      have M2 : Hid _ := m2
      have M3 : Hid _ := m3
      have M4 : Hid _ := m4
      have M5 : Hid _ := m5
      clear m1 m2 m3 m4 m5
      go_wp2
      go_ret
      exact Made.kres ⟨zs, rfl, M1.out, M2.out, M3.out, M4.out, M5.out⟩ hW.out HE.out
    · exfalso
      obtain ⟨h1', h2', h3, h4, h5, h6, h7, h8, h9, h10, h11, h12, h13⟩ := h
      unfold shapeB at HOP
      rw [if_neg h9, if_neg h10, if_neg h11, if_neg h12, if_neg (by omega)] at HOP
      cases HOP
end Go.Proofs.Ytcphabjekfihnaa
