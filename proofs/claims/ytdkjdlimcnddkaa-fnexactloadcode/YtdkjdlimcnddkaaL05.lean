import Derived.Test.YtdkjdlimcnddkaaL04
namespace Go.Proofs.Ytdkjdlimcnddkaa
open Go.RowKit Flt
attribute [local go_sem] alloc_drewN setCell_drewN run_store_float

/-- A code whose lists lie in three rows of its own. -/
structure OCd (W : World) (B : Nat) (v1 v2 v3 : Value) (ins : List Int) (ss : List Ste) (os : List Spn) : Prop where
  r1 : W.ownsRow B 3 1 v1 ins.length (ins.map (Value.int .i64))
  r2 : W.ownsRow B 80 8 v2 ss.length (flatT ss)
  r3 : W.ownsRow B 83 2 v3 os.length (flatP os)
  d12 : ∀ g, v1.ownBlock = some g → v2.ownBlock ≠ some g
  d13 : ∀ g, v1.ownBlock = some g → v3.ownBlock ≠ some g
  d23 : ∀ g, v2.ownBlock = some g → v3.ownBlock ≠ some g
  kl : ∀ v ∈ ss, v.k < 18446744073709551616
theorem OCd.keepC {W W' : World} {S : Nat → Prop} {B : Nat} {v1 v2 v3 : Value} {ins : List Int} {ss : List Ste} {os : List Spn} (f : OCd W B v1 v2 v3 ins ss os) (k : Chg S W W') (hd : ∀ g, B ≤ g → g < W.heap.size → ¬ S g) : OCd W' B v1 v2 v3 ins ss os :=
  ⟨own_keepC f.r1 k (fun g hg => hd g (own_blkV f.r1 hg).1 (own_blkV f.r1 hg).2), own_keepC f.r2 k (fun g hg => hd g (own_blkV f.r2 hg).1 (own_blkV f.r2 hg).2), own_keepC f.r3 k (fun g hg => hd g (own_blkV f.r3 hg).1 (own_blkV f.r3 hg).2), f.d12, f.d13, f.d23, f.kl⟩
theorem OCd.keep {W W' : World} {B : Nat} {v1 v2 v3 : Value} {ins : List Int} {ss : List Ste} {os : List Spn} (f : OCd W B v1 v2 v3 ins ss os) (k : Kept 0 0 W W') : OCd W' B v1 v2 v3 ins ss os := f.keepC (S := fun _ => False) k.chg (fun _ _ _ h => h)
theorem OCd.mono {W : World} {B B' : Nat} {v1 v2 v3 : Value} {ins : List Int} {ss : List Ste} {os : List Spn} (f : OCd W B v1 v2 v3 ins ss os) (h : B' ≤ B) : OCd W B' v1 v2 v3 ins ss os :=
  ⟨own_mono f.r1 h, own_mono f.r2 h, own_mono f.r3 h, f.d12, f.d13, f.d23, f.kl⟩
theorem OCd.cs {W : World} {B : Nat} {a1 a2 a3 : Option Addr} {n1 n2 n3 c1 c2 c3 : Nat} {ins : List Int} {ss : List Ste} {os : List Spn} (f : OCd W B (.slice a1 n1 c1) (.slice a2 n2 c2) (.slice a3 n3 c3) ins ss os) (h1 : ins.length = n1) (h2 : ss.length = n2) (h3 : os.length = n3) : CS W a1 n1 a2 n2 a3 n3 ins ss os := by
  subst h1 h2 h3
  exact ⟨(own_isL f.r1 rfl).mono (Nat.zero_le _) (Nat.le_refl _), (own_tsL f.r2 rfl f.kl).mono (Nat.zero_le _) (Nat.le_refl _), (own_psL f.r3 rfl).mono (Nat.zero_le _) (Nat.le_refl _)⟩
theorem KB.put0 {W : World} {p : Nat} {b0 b1 b2 b3 : Value} (t : KB W p b0 b1 b2 b3) (v : Value) : KB (W.setCell ⟨p, 0, none⟩ v) p v b1 b2 b3 :=
  ⟨by simpa using t.sz, cell_eq _ _ _ _ _ t.q0, by rw [cell_ne _ _ _ _ _ _ (.inr (by omega))]; exact t.q1, by rw [cell_ne _ _ _ _ _ _ (.inr (by omega))]; exact t.q2, by rw [cell_ne _ _ _ _ _ _ (.inr (by omega))]; exact t.q3, by simp [t.f0], by simp [t.f1], by simp [t.f2], by simp [t.f3]⟩
theorem own_formN {base e size n : Nat} {v : Value} {xs : List Value} {W : World} (h : W.ownsRow base e size v n xs) : ∃ a m d, v = .slice a m d ∧ m = n := by
  obtain ⟨a, cap, rfl⟩ := own_form h
  exact ⟨a, n, cap, rfl, rfl⟩
abbrev cnl : Value := cagg none 0 0 none 0 0 none 0 0 0
/-- What both LoadCodes answer. -/
def LDo (w : World) (bs : List Int) (e : Ending) (w' : World) : Prop :=
  (loadB bs = false → e = .returned (.tuple #[cnl, .int .i64 1])) ∧
  (loadB bs = true → ∃ a1 d1 a2 d2 a3 d3, ∃ ss : List Ste, e = .returned (.tuple #[cagg a1 (n1L bs) d1 a2 (n2L bs) d2 a3 (n3L bs) d3 (pkL bs), .int .i64 0]) ∧ ss.map nk = (ssL bs).map nk ∧ OCd w' w.heap.size (.slice a1 (n1L bs) d1) (.slice a2 (n2L bs) d2) (.slice a3 (n3L bs) d3) (insL bs) ss (osL bs)) ∧ Kept 0 0 w w'
abbrev rbox (a : Option Addr) (n c : Nat) : Obj := .cells #[.slice a n c, .bool false] 100
theorem rd_new (w : World) (hi : Nat) (a : Option Addr) (n c : Nat) (bs : List Int) (f : YL w hi a n bs) (hc : n ≤ c) (hc2 : c ≤ 9223372036854775807) (hh : hi ≤ w.heap.size) : RdS (w.alloc (rbox a n c)) hi w.heap.size bs (some 0) := by
  refine RdS.of ⟨⟨a, c, ?_, ?_, ?_, hc2⟩, by go_simp, by simp, by simp, by simp, hh, Nat.zero_le _⟩
  · rw [Nat.sub_zero, f.len]; go_simp
  · rw [Nat.sub_zero, f.len, List.drop_zero]
    exact f.keepC ((kept_alloc 0 0 w (rbox a n c)).chg (S := fun _ => False)) (fun _ _ h => h)
  · rw [Nat.sub_zero, f.len]; exact hc
set_option maxRecDepth 100000 in
set_option maxHeartbeats 8000000 in
theorem implLoad (w : World) (a : Option Addr) (n c : Nat) (bs : List Int) (f : YS w a n bs) (hc : n ≤ c) (hc2 : c ≤ 9223372036854775807) :
    Calls Try.prog 28 #[.slice a n c] w fun e w' => LDo w bs e w' := by
  have HB : Hid (Bts bs) := f.lt
  have HYS : Hid _ := f
  have hY : YL (w.alloc cbox0) w.heap.size a n bs := ⟨f.len, by
    rcases f.at_ with h | ⟨g, off, e, h1, h2⟩
    · exact .inl h
    · exact .inr ⟨g, off, e, h1, by simp; omega, fun k hk => by rw [(kept_alloc 0 0 w cbox0).cell (p := ⟨g, off + k, none⟩) h1 (by omega)]; exact h2 k hk⟩⟩
  have hz1 : (w.alloc cbox0).heap.size = w.heap.size + 1 := by simp
  have HR : Hid _ := rd_new (w.alloc cbox0) w.heap.size a n c bs hY hc hc2 (by omega)
  have ka := kept_alloc 0 0 w cbox0
  have kb := kept_alloc 0 0 (w.alloc cbox0) (rbox a n c)
  have HK : Hid _ := ka.trans kb
  have HA : Hid _ := (kb_start w).keep kb
  rw [hz1] at HR
  have HZ : Hid (((w.alloc cbox0).alloc (rbox a n c)).heap.size = w.heap.size + 1 + 1) := by show _ = _; simp
  clear f hY hz1 ka kb
  go_enter Try.func28, Try.ntmps28
  go_upto_region 2 with fail
  generalize (w.alloc cbox0).alloc (rbox a n c) = w1 at HR HK HA HZ ⊢
  go_wp2_with fail
  refine Calls.mono (number_s w1 _ _ bs (some 0) 2 HR.out HB.out (by decide) (by decide)) ?_
  rintro e w2 ⟨x, rfl, _, s2, _, d2⟩
  have HS2 : Hid (RdS w2 w.heap.size (w.heap.size + 1) bs (s1L bs)) := s2
  have HA2 : Hid _ := HA.out.keepC d2 (by omega)
  have HK2 : Hid _ := Chg.kept HK.out d2 (fun i hi => by omega)
  have HZ2 : Hid (w.heap.size + 2 ≤ w2.heap.size) := by show _ ≤ _; have := d2.size; have := HZ.out; omega
  clear s2 d2 HR HK HA HZ
  go_upto_region 4 with fail
  have kc := kept_alloc 0 0 w2 cbox0
  have HS3 : Hid _ := HS2.out.keepC (kc.chg (S := fun _ => False)) (fun _ _ h => h) (fun h => h)
  have HA3 : Hid _ := HA2.out.keep kc
  have HC3 : Hid _ := kb_start w2
  have HK3 : Hid _ := HK2.out.trans kc
  have HZ3 : Hid ((w2.alloc cbox0).heap.size = w2.heap.size + 1) := by show _ = _; simp
  clear kc HS2 HA2 HK2
  generalize w2.alloc cbox0 = w3 at HS3 HA3 HC3 HK3 HZ3 ⊢
  generalize hC : w2.heap.size = C at HC3 HZ2 HZ3 ⊢
  clear hC
  have hRC : w.heap.size + 1 < C := by have := HZ2.out; omega
  go_wp2_with fail
  refine Calls.mono (counted_i w3 _ _ bs _ HS3.out HB.out) ?_
  rintro e w4 ⟨V1, xs1, rfl, o1, s4, x1, d4⟩
  obtain ⟨a1, m1, d1', hv1, hm1⟩ := own_formN o1
  subst hv1
  have HM1 : Hid _ := hm1
  clear hm1
  have HS4 : Hid (RdS w4 w.heap.size (w.heap.size + 1) bs (s2L bs)) := s4
  have HX1 : Hid _ := x1
  have hC4 := HC3.out.keepC d4 (by omega)
  obtain ⟨_, q0, q1, q2, q3, f0, f1, f2, f3⟩ := hC4
  have kC : ∀ o v, Chg (fun b => b = C) w4 (w4.setCell ⟨C, o, none⟩ v) := fun o v => chg_setCell (S := fun b => b = C) w4 C o v rfl
  have HS5 : Hid _ := HS4.out.keepC (kC 0 (.slice a1 m1 d1')) (fun g hg e => by omega) (by omega)
  have HA5 : Hid _ := (HA3.out.keepC d4 (by omega)).keepC (kC 0 (.slice a1 m1 d1')) (by omega)
  have HC5 : Hid _ := (HC3.out.keepC d4 (by omega)).put0 (.slice a1 m1 d1')
  have HK5 : Hid _ := Chg.kept (Chg.kept HK3.out d4 (fun i hi => by omega)) (kC 0 (.slice a1 m1 d1')) (fun i hi => by omega)
  have HO5 : Hid _ := own_keepC o1 (kC 0 (.slice a1 m1 d1')) (fun g hg e => by have := (own_blkV o1 hg).1; have := HZ3.out; omega)
  have HZ5 : Hid (C < w3.heap.size ∧ w3.heap.size ≤ (w4.setCell ⟨C, 0, none⟩ (.slice a1 m1 d1')).heap.size) := ⟨by have := HZ3.out; omega, Nat.le_trans d4.size (kC 0 (.slice a1 m1 d1')).size⟩
  clear o1 s4 x1 d4 kC HS3 HS4 HA3 HC3 HK3
  go_upto_region 5 with fail
  clear q0 q1 q2 q3 f0 f1 f2 f3
  generalize w4.setCell ⟨C, 0, none⟩ (.slice a1 m1 d1') = w5 at HS5 HA5 HC5 HK5 HO5 HZ5 ⊢
  go_wp2_with fail
  refine Calls.mono (counted_t w5 _ _ bs _ HS5.out HB.out) ?_
  rintro e w6 ⟨V2, xs2, rfl, o2, kl2, s6, x2, d6⟩
  obtain ⟨a2, m2, d2', hv2, hm2⟩ := own_formN o2
  subst hv2
  have HM2 : Hid _ := hm2
  clear hm2
  have HS6 : Hid (RdS w6 w.heap.size (w.heap.size + 1) bs (s3L bs)) := s6
  have HX2 : Hid _ := x2
  have HKL : Hid _ := kl2
  have hC6 := HC5.out.keepC d6 (by omega)
  obtain ⟨_, q0, q1, q2, q3, f0, f1, f2, f3⟩ := hC6
  have kC : ∀ o v, Chg (fun b => b = C) w6 (w6.setCell ⟨C, o, none⟩ v) := fun o v => chg_setCell (S := fun b => b = C) w6 C o v rfl
  have HS7 : Hid _ := HS6.out.keepC (kC 1 (.slice a2 m2 d2')) (fun g hg e => by omega) (by omega)
  have HA7 : Hid _ := (HA5.out.keepC d6 (by omega)).keepC (kC 1 (.slice a2 m2 d2')) (by omega)
  have HC7 : Hid _ := (HC5.out.keepC d6 (by omega)).put1 (.slice a2 m2 d2')
  have HK7 : Hid _ := Chg.kept (Chg.kept HK5.out d6 (fun i hi => by omega)) (kC 1 (.slice a2 m2 d2')) (fun i hi => by omega)
  have HO7 : Hid _ := own_keepC (own_keepC HO5.out d6 (fun g hg e => by have := (own_blkV HO5.out hg).1; have := HZ5.out; omega)) (kC 1 (.slice a2 m2 d2')) (fun g hg e => by have := (own_blkV HO5.out hg).1; have := HZ5.out; omega)
  have HP7 : Hid _ := own_keepC o2 (kC 1 (.slice a2 m2 d2')) (fun g hg e => by have := (own_blkV o2 hg).1; have := HZ5.out; omega)
  have HB5 : Hid (∀ g, (Value.slice a1 m1 d1').ownBlock = some g → g < w5.heap.size) := fun g hg => (own_blkV HO5.out hg).2
  have HZ7 : Hid (w3.heap.size ≤ w5.heap.size ∧ w5.heap.size ≤ (w6.setCell ⟨C, 1, none⟩ (.slice a2 m2 d2')).heap.size) := ⟨HZ5.out.2, Nat.le_trans d6.size (kC 1 (.slice a2 m2 d2')).size⟩
  clear o2 s6 x2 d6 kC HS5 HS6 HA5 HC5 HK5 HO5 kl2
  go_upto_region 6 with fail
  clear q0 q1 q2 q3 f0 f1 f2 f3
  generalize w6.setCell ⟨C, 1, none⟩ (.slice a2 m2 d2') = w7 at HS7 HA7 HC7 HK7 HO7 HP7 HZ7 ⊢
  go_wp2_with fail
  refine Calls.mono (counted_p w7 _ _ bs _ HS7.out HB.out) ?_
  rintro e w8 ⟨V3, xs3, rfl, o3, s8, x3, d8⟩
  obtain ⟨a3, m3, d3', hv3, hm3⟩ := own_formN o3
  subst hv3
  have HM3 : Hid _ := hm3
  clear hm3
  have HS8 : Hid (RdS w8 w.heap.size (w.heap.size + 1) bs (s4L bs)) := s8
  have HX3 : Hid _ := x3
  have hC8 := HC7.out.keepC d8 (by omega)
  obtain ⟨_, q0, q1, q2, q3, f0, f1, f2, f3⟩ := hC8
  have kC : ∀ o v, Chg (fun b => b = C) w8 (w8.setCell ⟨C, o, none⟩ v) := fun o v => chg_setCell (S := fun b => b = C) w8 C o v rfl
  have HS9 : Hid _ := HS8.out.keepC (kC 2 (.slice a3 m3 d3')) (fun g hg e => by omega) (by omega)
  have HA9 : Hid _ := (HA7.out.keepC d8 (by omega)).keepC (kC 2 (.slice a3 m3 d3')) (by omega)
  have HC9 : Hid _ := (HC7.out.keepC d8 (by omega)).put2 (.slice a3 m3 d3')
  have HK9 : Hid _ := Chg.kept (Chg.kept HK7.out d8 (fun i hi => by omega)) (kC 2 (.slice a3 m3 d3')) (fun i hi => by omega)
  have HZC : Hid (C < w3.heap.size) := HZ5.out.1
  have HO9 : Hid (OCd (w8.setCell ⟨C, 2, none⟩ (.slice a3 m3 d3')) w3.heap.size (.slice a1 m1 d1') (.slice a2 m2 d2') (.slice a3 m3 d3') xs1 xs2 xs3) := by
    have h7 := HZ7.out
    have hC' := HZC.out
    refine ⟨own_keepC (own_keepC HO7.out d8 (fun g hg e => by have := (own_blkV HO7.out hg).1; omega)) (kC 2 (.slice a3 m3 d3')) (fun g hg e => by have := (own_blkV HO7.out hg).1; omega), own_mono (own_keepC (own_keepC HP7.out d8 (fun g hg e => by have := (own_blkV HP7.out hg).1; omega)) (kC 2 (.slice a3 m3 d3')) (fun g hg e => by have := (own_blkV HP7.out hg).1; omega)) h7.1, own_mono (own_keepC o3 (kC 2 (.slice a3 m3 d3')) (fun g hg e => by have := (own_blkV o3 hg).1; omega)) (by omega), fun g h1 h2 => ?_, fun g h1 h2 => ?_, fun g h1 h2 => ?_, HKL.out⟩
    · have := HB5.out g h1; have := (own_blkV HP7.out h2).1; omega
    · have := HB5.out g h1; have := (own_blkV o3 h2).1; omega
    · have := (own_blkV HP7.out h1).2; have := (own_blkV o3 h2).1; omega
  clear o3 s8 x3 d8 kC HS7 HS8 HA7 HC7 HK7 HO7 HP7
  go_upto_region 7 with fail
  clear q0 q1 q2 q3 f0 f1 f2 f3
  generalize w8.setCell ⟨C, 2, none⟩ (.slice a3 m3 d3') = w9 at HS9 HA9 HC9 HK9 HO9 ⊢
  go_wp2_with fail
  refine Calls.mono (count_s w9 _ _ bs _ HS9.out HB.out) ?_
  rintro e w10 ⟨pk, rfl, _, s10, x4, d10⟩
  have HS10 : Hid (RdS w10 w.heap.size (w.heap.size + 1) bs (s5L bs)) := s10
  have HX4 : Hid _ := x4
  have hC10 := HC9.out.keepC d10 (by omega)
  obtain ⟨_, q0, q1, q2, q3, f0, f1, f2, f3⟩ := hC10
  have kC : ∀ o v, Chg (fun b => b = C) w10 (w10.setCell ⟨C, o, none⟩ v) := fun o v => chg_setCell (S := fun b => b = C) w10 C o v rfl
  have HS11 : Hid _ := HS10.out.keepC (kC 3 (.int .i64 pk)) (fun g hg e => by omega) (by omega)
  have HA11 : Hid _ := (HA9.out.keepC d10 (by omega)).keepC (kC 3 (.int .i64 pk)) (by omega)
  have HC11 : Hid _ := (HC9.out.keepC d10 (by omega)).put3 (.int .i64 pk)
  have HK11 : Hid _ := Chg.kept (Chg.kept HK9.out d10 (fun i hi => by omega)) (kC 3 (.int .i64 pk)) (fun i hi => by omega)
  have HO11 : Hid _ := (HO9.out.keepC d10 (fun g hg _ e => by have := HZC.out; omega)).keepC (kC 3 (.int .i64 pk)) (fun g hg _ e => by have := HZC.out; omega)
  clear s10 x4 d10 kC HS9 HS10 HA9 HC9 HK9 HO9
  go_upto_region 8 with fail
  clear q0 q1 q2 q3 f0 f1 f2 f3
  generalize w10.setCell ⟨C, 3, none⟩ (.int .i64 pk) = w11 at HS11 HA11 HC11 HK11 HO11 ⊢
  have csh := HS11.out.short
  obtain ⟨_, r0, r1, r2, r3, g0, g1, g2, g3⟩ := HA11.out
  cases hfit : fitL bs
  · have hld : loadB bs = false := by unfold loadB; rw [hfit]; rfl
    rw [s5_none hfit] at csh
    have hbr : (none : Option Nat).isNone = true := rfl
    rw [hbr] at csh
    have HLD : Hid _ := hld
    clear hfit hld hbr
    go_wp2_with fail
    obtain ⟨y0, y1, y2, y3⟩ := put4_0 w11 w.heap.size _ _ _ _ r0 r1 r2 r3 (.slice none 0 0) (.slice none 0 0) (.slice none 0 0) (.int .i64 0)
    have kp := put4_kept w11 w.heap.size (.slice none 0 0) (.slice none 0 0) (.slice none 0 0) (.int .i64 0)
    refine bodyPost_ret (v := .tuple #[cnl, .int .i64 1]) (by simp [results, Try.results28, go_sem, y0, y1, y2, y3]) rfl ⟨fun _ => rfl, fun h => ?_, HK11.out.new kp (by omega)⟩
    rw [HLD.out] at h; cases h
  · have h5 := s5_fit hfit
    obtain ⟨_, e1, e2, e3, e4, _⟩ := s5_some h5
    rw [h5] at csh
    have hbr : (some (p4L bs + 2) : Option Nat).isNone = false := rfl
    rw [hbr] at csh
    have X1 := HX1.out 2 _ e1 e2
    have X2 := HX2.out _ _ e2 e3
    have X3 := HX3.out _ _ e3 e4
    have X4 := HX4.out _ e4 (of_decide_eq_true hfit)
    have XI : xs1 = insL bs := X1
    have XS : xs2 = ssL bs := X2
    have XO : xs3 = osL bs := X3
    have HXP : Hid (pk = pkL bs) := X4
    subst XI XS XO
    have hm1 : m1 = n1L bs := by rw [HM1.out]; exact cntsAt_len _ _ _
    have hm2 : m2 = n2L bs := by rw [HM2.out]; exact stesAt_len _ _ _
    have hm3 : m3 = n3L bs := by rw [HM3.out]; exact spnsAt_len _ _ _
    have HMM : Hid (m1 = n1L bs ∧ m2 = n2L bs ∧ m3 = n3L bs) := ⟨hm1, hm2, hm3⟩
    have HCS : Hid _ := HO11.out.cs HM1.out.symm HM2.out.symm HM3.out.symm
    have HSV : Hid _ := implSave w11 a1 a2 a3 m1 d1' m2 d2' m3 d3' pk (insL bs) (ssL bs) (osL bs) HCS.out
    have HLB : Hid (loadB bs = (savM (insL bs) (ssL bs) (osL bs) pk == bs)) := by
      show _ = _
      unfold loadB
      rw [hfit, HXP.out, Bool.true_and]
    have HSL : Hid _ := sav_lt (insL bs) (ssL bs) (osL bs) pk
    generalize hsb : savM (insL bs) (ssL bs) (osL bs) pk = sb at HSV HLB HSL
    clear hsb X1 X2 X3 X4 h5 e1 e2 e3 e4 hbr hfit hm1 hm2 hm3 HX1 HX2 HX3 HX4
    obtain ⟨_, q0, q1, q2, q3, _⟩ := HC11.out
    go_wp2_with fail
    refine Calls.mono HSV.out ?_
    rintro e w12 ⟨gs, asv, cs, rfl, ys, _, k12⟩
    have HYS12 : Hid _ := ys.ys HSL.out
    have HYA : Hid _ := HYS.out.keep (HK11.out.trans k12)
    have HA12 : Hid _ := HA11.out.keep k12
    have HC12 : Hid _ := HC11.out.keep k12
    have HK12 : Hid _ := HK11.out.trans k12
    have HO12 : Hid _ := HO11.out.keep k12
    have hlc := HZC.out
    have hz12 := HK12.out.size
    clear ys k12 HSV HCS HA11 HC11 HK11 HO11 q0 q1 q2 q3 r0 r1 r2 r3 g0 g1 g2 g3 csh HS11
    generalize sb.length = N at HYS12 ⊢
    obtain ⟨_, r0, r1, r2, r3, g0, g1, g2, g3⟩ := HA12.out
    obtain ⟨_, q0, q1, q2, q3, _⟩ := HC12.out
    go_wp2_with fail
    refine Calls.mono (bytesEq w12 asv a N cs n c sb bs HYS12.out HYA.out) ?_
    rintro e w13 ⟨rfl, rfl⟩
    cases hq : (sb == bs)
    · have HLD : Hid (loadB bs = false) := by show _ = _; rw [HLB.out, hq]
      clear hq
      go_wp2_with fail
      obtain ⟨y0, y1, y2, y3⟩ := put4_0 w12 w.heap.size _ _ _ _ r0 r1 r2 r3 (.slice none 0 0) (.slice none 0 0) (.slice none 0 0) (.int .i64 0)
      have kp := put4_kept w12 w.heap.size (.slice none 0 0) (.slice none 0 0) (.slice none 0 0) (.int .i64 0)
      refine bodyPost_ret (v := .tuple #[cnl, .int .i64 1]) (by simp [results, Try.results28, go_sem, y0, y1, y2, y3]) rfl ⟨fun _ => rfl, fun h => ?_, HK12.out.new kp (by omega)⟩
      rw [HLD.out] at h; cases h
    · have HLD : Hid (loadB bs = true) := by show _ = _; rw [HLB.out, hq]
      clear hq
      go_wp2_with fail
      obtain ⟨y0, y1, y2, y3⟩ := put4_0 w12 w.heap.size _ _ _ _ r0 r1 r2 r3 (.slice a1 m1 d1') (.slice a2 m2 d2') (.slice a3 m3 d3') (.int .i64 pk)
      have kp := put4_kept w12 w.heap.size (.slice a1 m1 d1') (.slice a2 m2 d2') (.slice a3 m3 d3') (.int .i64 pk)
      refine bodyPost_ret (v := .tuple #[cagg a1 m1 d1' a2 m2 d2' a3 m3 d3' pk, .int .i64 0]) (by simp [results, Try.results28, go_sem, y0, y1, y2, y3]) rfl ⟨fun h => ?_, fun _ => ⟨a1, d1', a2, d2', a3, d3', ssL bs, ?_, rfl, ?_⟩, HK12.out.new kp (by omega)⟩
      · rw [HLD.out] at h; cases h
      · rw [← HMM.out.1, ← HMM.out.2.1, ← HMM.out.2.2, ← HXP.out]
      · rw [← HMM.out.1, ← HMM.out.2.1, ← HMM.out.2.2]
        exact (HO12.out.keepC (kp.chg1 (S := fun b => b = w.heap.size) rfl) (fun g hg _ e => by omega)).mono (by omega)
end Go.Proofs.Ytdkjdlimcnddkaa

namespace Go.Proofs.Ytdkjdlimcnddkaa
open Go.RowKit Flt
attribute [local go_sem] alloc_drewN setCell_drewN run_store_float

set_option maxRecDepth 100000 in
set_option maxHeartbeats 2000000 in
theorem l6counts_no (w : World) (a : Option Addr) (n c at_ k : Nat) (h : ¬ at_ + 2 * k ≤ n) (h1 : at_ ≤ 10000000) (h2 : k ≤ 100000) :
    Calls Try.prog 121 #[.slice a n c, .int .i64 (at_ : Nat), .int .i64 (k : Nat)] w fun e w' => e = .returned (.tuple #[.slice none 0 0, .bool false]) ∧ w' = w := by
  have hg : (n : Int) < (at_ : Int) + 2 * (k : Int) := by omega
  clear h
  go_enter Try.func121, Try.ntmps121
  go_wp2_with fail
  refine bodyPost_ret (v := .tuple #[.slice none 0 0, .bool false]) (by simp [results, Try.results121, go_sem]) rfl ⟨rfl, rfl⟩
set_option maxRecDepth 100000 in
set_option maxHeartbeats 8000000 in
theorem l6counts_ok (w : World) (a : Option Addr) (n c at_ k : Nat) (bs : List Int) (f : YS w a n bs) (h : at_ + 2 * k ≤ n) (h3 : n ≤ 1048576) :
    Calls Try.prog 121 #[.slice a n c, .int .i64 (at_ : Nat), .int .i64 (k : Nat)] w fun e w' => ∃ b d, e = .returned (.tuple #[.slice b k d, .bool true]) ∧ w'.ownsRow w.heap.size 3 1 (.slice b k d) k ((cntsAt bs at_ k).map (Value.int .i64)) ∧ Kept 0 0 w w' := by
  obtain ⟨i0, hii, hz0, hz1, hz2⟩ := info_parts infoI
  have HF : Hid _ := f
  have HB : Hid (Bts bs) := f.lt
  have hg : ¬ ((n : Int) < (at_ : Int) + 2 * (k : Int)) := by omega
  clear f
  go_enter Try.func121, Try.ntmps121
  go_wp2_with fail
  go_loopw [8, 9] (fun u i W => ∃ j : Nat, j ≤ k ∧ i = .int .i64 j ∧ Hid (W.ownsRow w.heap.size 3 1 u j ((cntsAt bs at_ j).map (Value.int .i64))) ∧ Hid (Kept 0 0 w W)) (fun _ i _ => k - (intOf i).toNat)
  case atStart => exact ⟨0, Nat.zero_le _, rfl, World.ownsRow_nil _ _ _ _, Kept.refl _ _ _⟩
  case round =>
    obtain ⟨j, hj, rfl, hR, hK⟩ := hrel
    by_cases hlt : j < k
    · rcases HF.out.at_ with z | ⟨g, off, rfl, z1, z2'⟩
      · omega
      have z2 : ∀ k, k < n → wr.cell? ⟨g, off + k, none⟩ = some (.int .u8 (bs.getD k 0)) := fun k hk => by rw [hK.out.cell (p := ⟨g, off + k, none⟩) z1 (by omega)]; exact z2' k hk
      obtain ⟨q, hq⟩ : ∃ q, q = at_ + 2 * j := ⟨_, rfl⟩
      have c0 := z2 q (by omega)
      have c1 := z2 (q + 1) (by omega)
      have b0 := byte_lt HB.out q
      have b1 := byte_lt HB.out (q + 1)
      have HS : Hid (cntsAt bs at_ (j + 1) = cntsAt bs at_ j ++ [bs.getD q 0 + 256 * bs.getD (q + 1) 0]) := by
        show _ = _
        rw [cntsAt_succ, numAt_2, ← hq]
      generalize bs.getD q 0 = x at c0 b0 HS
      generalize bs.getD (q + 1) 0 = y at c1 b1 HS
      have hw1 : IntKind.i64.wrap (2 * (j : Int)) = 2 * (j : Int) := by rw [IntKind.wrap_i64]; omega
      have hw2 : IntKind.i64.wrap ((at_ : Int) + 2 * (j : Int)) = (q : Int) := by rw [IntKind.wrap_i64]; omega
      have hw3 : IntKind.i64.wrap ((q : Int) + 1) = (q : Int) + 1 := by rw [IntKind.wrap_i64]; omega
      have hi1 : (0 : Int) ≤ (q : Int) := by omega
      have hi2 : (q : Int) < (n : Int) := by omega
      have hi3 : (0 : Int) ≤ (q : Int) + 1 := by omega
      have hi4 : (q : Int) + 1 < (n : Int) := by omega
      have hw4 : IntKind.i64.wrap x = x := by rw [IntKind.wrap_i64]; omega
      have hw5 : IntKind.i64.wrap y = y := by rw [IntKind.wrap_i64]; omega
      have hw6 : IntKind.i64.wrap (256 * y) = 256 * y := by rw [IntKind.wrap_i64]; omega
      have hw7 : IntKind.i64.wrap (x + 256 * y) = x + 256 * y := by rw [IntKind.wrap_i64]; omega
      have hqn : q + 1 < n := by omega
      have HZ : Hid (w.heap.size ≤ wr.heap.size) := hK.out.size
      have HO : Hid _ := hR
      have HQ : Hid _ := hq
      have HZG : Hid (g < w.heap.size) := z1
      clear z2 z2' hq z1
      go_wp2_with fail
      go_region_held3 (fun w' => w'.cell? ⟨g, off + q, none⟩ = some (.int .u8 x) ∧ w'.cell? ⟨g, off + (q + 1), none⟩ = some (.int .u8 y)) (go_keep)
        (first
          | (refine step_append_lies _ rfl (.tmp 22) (.tmp 42) 22 rfl w.heap.size 3 i0 (.int .i64 0) 1 8 Try.underlying22 hii hz0 hz1 hz2 rfl (by decide) _ _ ((cntsAt bs at_ j).map (Value.int .i64)) (by simp [Act.eval]) (own_keepJ hR.out ((kept_alloc 0 0 wr _).trans (kept_drew _))) ⟨wr.heap.size, 0, none⟩ 1 1 ([x + 256 * y].map (Value.int .i64)) (by simp [Act.eval]) rfl (newsI1 wr (x + 256 * y)) (oneI1 (x + 256 * y)) (by decide) (by unfold maxLen; omega) (by omega) (by have := HZ.out; simp; omega) _ rfl ?_; intro g9 cap9 w9 o9 gr9 _ _; have R1 : Hid (w9.ownsRow w.heap.size 3 1 (.slice (some ⟨g9, 0, none⟩) (j + 1) cap9) (j + 1) ((cntsAt bs at_ (j + 1)).map (Value.int .i64))) := (by rw [HS.out, List.map_append]; exact o9); have R2 : Hid (Kept 0 0 w w9) := grown_keptJ (base := w.heap.size) gr9 (fun b hb => (own_blkV hR.out hb).1) (hK.out.trans ((kept_alloc 0 0 wr _).trans (kept_drew _))) (Nat.le_refl _); have t0 : w9.cell? ⟨g, off + q, none⟩ = some (.int .u8 x) := (by rw [R2.out.cell (p := ⟨g, off + q, none⟩) HZG.out (by omega), ← hK.out.cell (p := ⟨g, off + q, none⟩) HZG.out (by omega)]; exact c0); have t1 : w9.cell? ⟨g, off + (q + 1), none⟩ = some (.int .u8 y) := (by rw [R2.out.cell (p := ⟨g, off + (q + 1), none⟩) HZG.out (by omega), ← hK.out.cell (p := ⟨g, off + (q + 1), none⟩) HZG.out (by omega)]; exact c1); clear o9 gr9))
      all_goals
        clear t0 t1 c0 c1 hR hK HO hi1 hi2 hi3 hi4 hw1 hw2 hw3 hw4 hw5 hw6 hw7
        go_wp2_with fail
        go_roundw
        case rel => exact ⟨j + 1, by omega, by go_num, R1, R2⟩
        case measure => simp [intOf]; omega
    · obtain rfl : j = k := by omega
      obtain ⟨b, m, d, hv, hm⟩ := own_formN hR.out
      subst hv
      subst hm
      have R1 : Hid _ := hR
      clear hR
      go_wp2_with fail
      refine bodyPost_ret (v := .tuple #[.slice b m d, .bool true]) (by simp [results, Try.results121, go_sem]) rfl ⟨b, d, rfl, R1.out, hK.out⟩
end Go.Proofs.Ytdkjdlimcnddkaa
